import PyProof.Rows.All
import Wide.All
import OpenK.AllK
import Wide.FinOn
import HandS.ForMost
import HandS.ForExc
import HandS.IsInst
import HandS.Walk
import HandS.FStr
import HandS.More
import HandS.RaiseMore
import HandS.Codes
import HandS.Conv
import HandS.Flow
import HandS.TryMany
import KE.DataMinMax
import KE.KDictWalk
import HandS.Iter
import HandS.Deep
import HandS.DictTup
import KE.KDictCopyH
import KE.KDictDisplayH
import KE.SortData
import HandS.Star
import HandS.TupAny
import HandS.Lambda
import HandS.Style
import HandS.EndTab
import HandS.ExcIs
import KE.KNestM
import KE.RegKIsAll
import PySem.Challenge.RW_halfsetup_k55_whole_settings_by_other_co
set_option Elab.async false
set_option linter.all false
set_option maxRecDepth 100000
set_option maxHeartbeats 8000000
namespace Half
open PySem PySem.Spec PyProof.Rows L2
def top (i : Nat) : Stmt := PySem.Challenge.pw_halfsetup_k55_whole_settings_by_other_co.main.body.getD i (.Pass ⟨0, 0, 0, 0⟩)
abbrev sTaken : Stmt := top 19
/-- the row of draws: the script, how many of its cells were read, the seed, what is left of a great cell -/
def Row (K : PySem.W.Frag) (H : Hp) (r a : Addr) : Prop := ∃ (ns : List Int) (i g l : Int), H r = some (.lst [.ref a, .int i, .int g, .int l]) ∧ SqL K H a (ns.map V.int) ∧ ns.length ≤ 63 ∧ 0 ≤ i
/-- a draw: some number below the bound; the row alone is changed -/
def spTaken (K : PySem.W.Frag) : Sp := fun vs H Q _ => ∃ (r : Addr) (m : Int) (a : Addr), vs = [.ref r, .int m] ∧ Row K H r a ∧ 0 < m ∧ m < 1073741824 ∧
  ∀ (v : Int) (o : HO), 0 ≤ v → v < m → Row K (upd H r o) r a → Q (.int v) (upd H r o)
theorem seqNe {K : PySem.W.Frag} {H : Hp} {r a : Addr} {o : HO} {xs : List V} (h : SqL K H a xs) (n : r ≠ a) : SqL K (upd H r o) a xs := by
  rcases h with (h | ⟨q, h⟩) | h
  · exact .inl (.inl (by rw [upd_ne (Ne.symm n)]; exact h))
  · exact .inl (.inr ⟨q, by rw [upd_ne (Ne.symm n)]; exact h⟩)
  · exact .inr h
theorem Row.seq {K : PySem.W.Frag} {H : Hp} {r a b : Addr} {o : HO} {ns : List Int} {l : List V} (hr : H r = some (.lst (.ref b :: l))) (h : SqL K H a (ns.map V.int)) : SqL K (upd H r o) a (ns.map V.int) := by
  have z : HO.lst (ns.map V.int) ≠ HO.lst (.ref b :: l) := fun z => by
    have z' : ns.map V.int = .ref b :: l := by injection z
    cases ns with
    | nil => cases z'
    | cons n ns => cases z'
  rcases h with (h | ⟨q, h⟩) | h
  · exact .inl (.inl (by rw [upd_ne (ne_of h hr z)]; exact h))
  · exact .inl (.inr ⟨q, by rw [upd_ne (ne_of h hr (fun w => by cases w))]; exact h⟩)
  · exact .inr h
structure TxtD (mg : Str → Option Value) : Prop where
  int : mg "int" = none
  len : mg "len" = none
section
variable {P : Program} {w : World} {K : PySem.W.Frag} {mg : Str → Option Value} {base : Heap}
theorem scTaken : FnScope ["_law_row", "_law_many", "_law_found", "_law_cell"] ["_law_row", "_law_many"] (defScope sTaken) := ⟨rfl, rfl, rfl, by decide +kernel, rfl, by decide +kernel, by decide +kernel⟩
theorem ok_taken {f : Addr} {fd : FuncData} (F : Fun K "_law_taken" "_law_taken" sTaken f fd) (T : TxtD mg) : FnOk P w K mg base CX0 1 f fd ["_law_row", "_law_many"] (spTaken K) := by
  refine F.ok scTaken (fun vs H Q E h => ?_) (fun cdv A outer s H vs Q E hr h => ?_)
  · obtain ⟨r, m, a, rfl, _⟩ := h
    rfl
  · obtain ⟨r, m, a, rfl, ⟨ns, i, g, l, hR, hS, hlen, hi⟩, hm0, hm1, k⟩ := h
    have nd := scTaken.nd
    refine ⟨_, pss_cons (ps_if (pt_cmpR op_gt (pe_ix ix_list (pv 0) pe_int (fun _ _ => rfl)) pe_int (nomark _))
        (pss_cons (ps_set (i := 2) nd rfl (Or.inl rfl) (pe_op op_mod (pe_callTy call_int1 (by rfl) T.int (by decide +kernel) (pa_cons (pe_ix ix_list (pv 0) pe_int (fun _ _ => rfl)) pa_nil)) (pv 1)))
        (pss_cons (ps_asg (pe_op op_fdiv (pe_ix ix_list (pv 0) pe_int (fun _ _ => rfl)) (pv 1)) (pg_sub (pv 0) pe_int set_list))
        (pss_one (ps_ret (pv 2))))) pss_nil)
      (pss_cons (ps_asg (pe_op op_add (pe_ix ix_list (pv 0) pe_int (fun _ _ => rfl)) pe_int) (pg_sub (pv 0) pe_int set_list))
      (pss_cons (ps_if (pt_cmpR op_gt (pe_ix ix_list (pv 0) pe_int (fun _ _ => rfl)) (pe_callB call_len_seq (by rfl) T.len PySem.boot_len (pa_cons (pe_ix ix_list (pv 0) pe_int (fun _ _ => rfl)) pa_nil)) (nomark _))
        (pss_cons (ps_asg (pe_op op_mod (pe_callTy call_int1 (by rfl) T.int (by decide +kernel) (pa_cons (pe_op op_add (pe_op op_mul (pe_ix ix_list (pv 0) pe_int (fun _ _ => rfl)) pe_int) pe_int) pa_nil)) pe_int) (pg_sub (pv 0) pe_int set_list))
        (pss_one (ps_ret (pe_op op_mod (pe_callTy call_int1 (by rfl) T.int (by decide +kernel) (pa_cons (pe_op op_fdiv (pe_ix ix_list (pv 0) pe_int (fun _ _ => rfl)) pe_int) pa_nil)) (pv 1))))) pss_nil)
      (pss_cons (ps_set (i := 3) nd rfl (Or.inl rfl) (pe_ix ix_list (pe_ix ix_list (pv 0) pe_int (fun _ _ => rfl)) (pe_op op_sub (pe_ix ix_list (pv 0) pe_int (fun _ _ => rfl)) pe_int) (fun _ _ => rfl)))
      (pss_cons (ps_asg (pe_op op_mod (pe_callTy call_int1 (by rfl) T.int (by decide +kernel) (pa_cons (pe_op op_add (pe_op op_add (pe_op op_mul (pe_ix ix_list (pv 0) pe_int (fun _ _ => rfl)) pe_int) (pv 3)) pe_int) pa_nil)) pe_int) (pg_sub (pv 0) pe_int set_list))
      (pss_cons (ps_if (pt_cmpR op_ge (pv 3) (pe_op op_pow pe_int pe_int) (nomark _)) (pss_one (ps_asg (pe_op op_fdiv (pv 3) (pv 1)) (pg_sub (pv 0) pe_int set_list))) pss_nil)
      (pss_one (ps_ret (pe_op op_mod (pe_callTy call_int1 (by rfl) T.int (by decide +kernel) (pa_cons (pv 3) pa_nil)) (pv 1))))))))), ?_⟩
    have mk : ∀ (i' g' l' : Int), 0 ≤ i' → ∀ o, o = HO.lst [.ref a, .int i', .int g', .int l'] → Row K (upd H r o) r a := fun i' g' l' h o e => ⟨ns, i', g', l', by rw [upd_same, e], Row.seq hR hS, hlen, h⟩
    refine ⟨_, rfl, r, _, _, _, rfl, rfl, SqL.of hR, rfl, _, _, rfl, rfl, _, rfl, ?_⟩
    refine ite2 (fun c => ?_) (fun c => ?_)
    · refine ⟨_, rfl, r, _, _, _, rfl, rfl, SqL.of hR, rfl, .inl ⟨_, rfl, _, rfl, _, _, rfl, rfl, hm0, ?_⟩⟩
      refine ⟨_, rfl, r, _, _, _, rfl, rfl, SqL.of hR, rfl, _, rfl, _, _, rfl, rfl, ⟨hm0, hm1⟩, _, rfl, r, _, _, _, rfl, rfl, hR, rfl, ?_⟩
      refine ⟨_, rfl, ?_⟩
      exact k _ _ (Int.emod_nonneg _ (by omega)) (Int.emod_lt_of_pos _ hm0) (mk i g (l / m) hi _ rfl)
    · refine ⟨_, rfl, r, _, _, _, rfl, rfl, SqL.of hR, rfl, _, _, rfl, rfl, _, rfl, r, _, _, _, rfl, rfl, hR, rfl, ?_⟩
      have hR1 : ∀ o : HO, (upd H r o) r = some o := fun o => upd_same
      refine ⟨_, rfl, r, _, _, _, rfl, rfl, SqL.of (hR1 _), rfl, _, rfl, r, _, _, _, rfl, rfl, SqL.of (hR1 _), rfl, a, _, rfl, .inl (Row.seq hR hS), _, _, rfl, rfl, _, rfl, ?_⟩
      refine ite2 (fun c2 => ?_) (fun c2 => ?_)
      · refine ⟨_, rfl, r, _, _, _, rfl, rfl, SqL.of (hR1 _), rfl, _, _, rfl, rfl, .inr ⟨by decide, by decide⟩, _, _, rfl, rfl, .inl ⟨_, rfl, _, _, rfl, rfl, (by show (0 : Int) < 2147483647; decide), _, rfl, r, _, _, _, rfl, rfl, hR1 _, rfl, ?_⟩⟩
        rw [upd_upd]
        refine ⟨_, rfl, r, _, _, _, rfl, rfl, SqL.of (hR1 _), rfl, _, _, rfl, rfl, ⟨by decide, by decide⟩, .inl ⟨_, rfl, _, rfl, _, _, rfl, rfl, hm0, ?_⟩⟩
        exact k _ _ (Int.emod_nonneg _ (by omega)) (Int.emod_lt_of_pos _ hm0) (mk (i + 1) _ l (by omega) _ rfl)
      · have c3 : ¬ ((ns.map V.int).length : Int) < i + 1 := fun z => c2 (decide_eq_true z)
        rw [List.length_map] at c3
        have hin : i.toNat < ns.length := by omega
        have hat : atI (ns.map V.int) ((i + 1) - 1) = some (V.int ns[i.toNat]) := by
          have e : (i + 1) - 1 = ((i.toNat : Nat) : Int) := by omega
          rw [e]
          refine atI_nat ?_
          rw [List.getElem?_map, List.getElem?_eq_getElem hin]
          rfl
        refine ⟨_, rfl, r, _, _, _, rfl, rfl, SqL.of (hR1 _), rfl, _, rfl, r, _, _, _, rfl, rfl, SqL.of (hR1 _), rfl, _, _, rfl, rfl, a, _, _, _, rfl, rfl, Row.seq hR hS, hat, ?_⟩
        refine ⟨_, rfl, r, _, _, _, rfl, rfl, SqL.of (hR1 _), rfl, _, _, rfl, rfl, .inr ⟨by decide, by decide⟩, _, rfl, _, _, rfl, rfl, _, _, rfl, rfl, .inl ⟨_, rfl, _, _, rfl, rfl, (by show (0 : Int) < 2147483647; decide), _, rfl, r, _, _, _, rfl, rfl, hR1 _, rfl, ?_⟩⟩
        rw [upd_upd]
        refine ⟨_, rfl, _, _, rfl, rfl, ⟨by decide, by decide, by decide⟩, _, _, rfl, rfl, _, rfl, ?_⟩
        refine ite2 (fun c4 => ?_) (fun c4 => ?_)
        · refine ⟨_, rfl, _, rfl, _, _, rfl, rfl, ⟨hm0, hm1⟩, _, rfl, r, _, _, _, rfl, rfl, hR1 _, rfl, ?_⟩
          rw [upd_upd]
          refine ⟨_, rfl, .inl ⟨_, rfl, _, rfl, _, _, rfl, rfl, hm0, ?_⟩⟩
          exact k _ _ (Int.emod_nonneg _ (by omega)) (Int.emod_lt_of_pos _ hm0) (mk (i + 1) _ _ (by omega) _ rfl)
        · refine ⟨_, rfl, .inl ⟨_, rfl, _, rfl, _, _, rfl, rfl, hm0, ?_⟩⟩
          exact k _ _ (Int.emod_nonneg _ (by omega)) (Int.emod_lt_of_pos _ hm0) (mk (i + 1) _ _ (by omega) _ rfl)
end
end Half

namespace Half
open PySem PySem.Spec PyProof.Rows L2
abbrev sNumber : Stmt := top 1
abbrev sCc : Stmt := top 10
abbrev sCa : Stmt := top 11
abbrev sCo : Stmt := top 12
abbrev sSe : Stmt := top 13
abbrev sSd : Stmt := top 14
abbrev sSa : Stmt := top 15
abbrev sFa : Stmt := top 17
/-! ### defs by their promises, those that may raise too -/
structure Def (P : Program) (w : World) (K : PySem.W.Frag) (mg : Str → Option Value) (base : Heap) (k : Nat) (x : Str) (ps : List Str) (sp : Sp) : Prop where
  ex : ∃ f fd, FnOk P w K mg base CX0 k f fd ps sp ∧ mg x = some (.ref f) ∧ PySem.W.keepIn K (.ref f) = true ∧ Binds K fd ps []
structure DefX (P : Program) (w : World) (K : PySem.W.Frag) (mg : Str → Option Value) (base : Heap) (k : Nat) (x : Str) (ps : List Str) (sp : Sp) : Prop where
  ex : ∃ f fd, FnOk P w K mg base (L2.CX P w) k f fd ps sp ∧ mg x = some (.ref f) ∧ PySem.W.keepIn K (.ref f) = true ∧ Binds K fd ps []
section
variable {X : Cx} {k : Nat} {x : Str} {ps : List Str} {sp : Sp} {e : Expr} {es : List Expr} {t : TA} {p pos : Pos}
theorem pe_def (D : Def X.prog X.w X.K X.mg X.base k x ps sp) (hr : Room k X.A) (hg : Gl X x) (ha : PA X (e :: es) t)
    (hdb : (x == ("__debug__" : Str)) = false := by decide) (he : starEach (e :: es) X.env = (false, eval e X.env) :: starEach es X.env := by rfl) (hpl : (backTo pos (starEach es X.env)).any (·.1) = false := by rfl) :
    PE X (.Call (.Name x p) (e :: es) [] pos) (tCall sp [] E0 t) := by
  obtain ⟨f, fd, F, hm, hk, hb⟩ := D.ex
  exact pe_call F hr hg hm hk hb .nil pass0 ha hdb he hpl
theorem pe_defX {E : XK} (D : DefX X.prog X.w X.K X.mg X.base k x ps sp) (hr : Room k X.A) (hg : Gl X x) (hx : Passes (L2.CX X.prog X.w) X E) (ha : PA X (e :: es) t)
    (hdb : (x == ("__debug__" : Str)) = false := by decide) (he : starEach (e :: es) X.env = (false, eval e X.env) :: starEach es X.env := by rfl) (hpl : (backTo pos (starEach es X.env)).any (·.1) = false := by rfl) :
    PE X (.Call (.Name x p) (e :: es) [] pos) (tCall sp [] E t) := by
  obtain ⟨f, fd, F, hm, hk, hb⟩ := D.ex
  exact pe_call F hr hg hm hk hb .nil hx ha hdb he hpl
end
theorem _root_.L2.Same.sqT {K : PySem.W.Frag} {H H' : Hp} {a : Addr} {xs : List V} (e : Same H H') (h : SqT K H a xs) : SqT K H' a xs := by
  rcases h with (h | ⟨o, h⟩) | h
  · exact .inl (.inl (e _ _ h))
  · exact .inl (.inr ⟨o, e _ _ h⟩)
  · exact .inr h
theorem _root_.L2.Same.upd_new {H : Hp} {p : Addr} {o : HO} (h : H p = none) : Same H (upd H p o) := fun b u e => by rw [upd_ne (ne_of_none e h)]; exact e
theorem ite_yes {c : Bool} {A B : Prop} (hc : c = true) (h : A) : if c = true then A else B := by rw [if_pos hc]; exact h
theorem ite_no {c : Bool} {A B : Prop} (hc : c = false) (h : B) : if c = true then A else B := by rw [if_neg (by rw [hc]; decide)]; exact h
/-- an error class without own __init__ -/
structure ErrC (K : PySem.W.Frag) (mg : Str → Option Value) (x : Str) (C : Addr) : Prop where
  g : mg x = some (.ref C)
  x : PySem.W.excIn K C [.type "ValueError", .type "Exception", .type "BaseException", .type "object"] "ValueError.__new__" = true
  k : PySem.W.keepIn K (.ref C) = true
  b : PySem.W.subIn K (.ref C) (.type "BaseException") = some true
  t : PySem.W.typeIn K (.ref C) = some (.type "type")
/-! ### the mirror -/
def inR (v : V) (lo hi : Int) : Bool := match v with
  | .int n => decide (lo ≤ n) && decide (n ≤ hi)
  | _ => false
def IntB (v : V) : Prop := (∃ n, v = .int n) ∨ ∃ b, v = .bl b
def ANS : List Str := ["keep", "take"]
def isAns (z : Str) : Bool := ANS.any fun y => decide (y = z)
theorem inV_ans (z : Str) : inV (.str z) (ANS.map V.str) = isAns z := by
  unfold inV isAns ANS
  simp only [List.map_cons, List.map_nil, List.any_cons, List.any_nil]
  rfl
def spNumber : Sp := fun vs H Q _ => ∃ (v : V) (lo hi : Int), vs = [v, .int lo, .int hi] ∧ IntB v ∧ Q (.bl (inR v lo hi)) H
def spCc (CN : Addr) : Sp := fun vs H Q E => ∃ (v : V) (lo : Int), vs = [v, .int lo] ∧ IntB v ∧ (lo = 0 ∨ lo = 1) ∧ (inR v lo 99 = true → Q .non H) ∧ (inR v lo 99 = false → E (.ref CN) none H)
def spCa (CA : Addr) : Sp := fun vs H Q E => ∃ z : Str, vs = [.str z] ∧ (isAns z = true → Q .non H) ∧ (isAns z = false → E (.ref CA) none H)
structure TxtS (K : PySem.W.Frag) (mg : Str → Option Value) (CN CA : Addr) : Prop where
  int : mg "int" = none
  len : mg "len" = none
  isi : mg "isinstance" = none
  boo : mg "bool" = none
  ran : mg "range" = none
  enu : mg "enumerate" = none
  mc : ∃ t, mg "MOST_CONTENT" = some (.int 99 t)
  mv : ∃ t, mg "MOST_VERSIONS" = some (.int 12 t)
  ans : ∃ a, mg "ANSWERS" = some (.ref a) ∧ ∀ H, SqT K H a (ANS.map V.str)
  en : ErrC K mg "InvalidNumber" CN
  ea : ErrC K mg "InvalidAnswer" CA
section
variable {P : Program} {w : World} {K : PySem.W.Frag} {mg : Str → Option Value} {base : Heap} {CN CA : Addr}
theorem scNumber : FnScope ["value", "least", "most"] ["value", "least", "most"] (defScope sNumber) := ⟨rfl, rfl, rfl, by decide +kernel, rfl, by decide +kernel, by decide +kernel⟩
theorem ok_number {f : Addr} {fd : FuncData} (F : Fun K "is_number" "is_number" sNumber f fd) (T : TxtS K mg CN CA) : FnOk P w K mg base CX0 1 f fd ["value", "least", "most"] spNumber := by
  refine F.ok scNumber (fun vs H Q E h => ?_) (fun cdv A outer s H vs Q E hr h => ?_)
  · obtain ⟨v, lo, hi, rfl, _⟩ := h
    rfl
  · obtain ⟨v, lo, hi, rfl, hv, k⟩ := h
    refine ⟨_, pss_cons (ps_if (PW.pt (pw_or (pt_val (pe_callB call_isi (by rfl) T.isi (by decide +kernel) (pa_cons (pv 0) (pa_cons (pe_bltn (v := .ty "bool") (by rfl) T.boo (by decide +kernel) rfl) pa_nil))))
        (pw_or1 (pt_not (pt_val (pe_callB call_isi (by rfl) T.isi (by decide +kernel) (pa_cons (pv 0) (pa_cons (pe_bltn (v := .ty "int") (by rfl) T.int (by decide +kernel) rfl) pa_nil))))))))
        (pss_one (ps_ret pe_bl)) pss_nil)
      (pss_one (ps_ret (pe_chain op_le op_le (pv 1) (pv 0) (pv 2)))), ?_⟩
    rcases hv with ⟨n, rfl⟩ | ⟨b, rfl⟩
    · refine ⟨_, rfl, _, _, _, _, _, rfl, .ty _, .base (.int _), kit_ty (r := false) (by decide +kernel), _, rfl, iteF ?_⟩
      refine ⟨_, rfl, _, _, _, _, _, rfl, .ty _, .base (.int _), kit_ty (r := true) (by decide +kernel), _, rfl, iteF ?_⟩
      refine ⟨_, rfl, _, rfl, _, _, rfl, rfl, _, rfl, ?_⟩
      refine ite2 (fun c => ?_) (fun c => ?_)
      · refine ⟨_, rfl, _, _, rfl, rfl, ?_⟩
        have e : inR (.int n) lo hi = decide (n ≤ hi) := by show (decide (lo ≤ n) && decide (n ≤ hi)) = _; rw [c, Bool.true_and]
        rw [e] at k
        exact k
      · have c' : decide (lo ≤ n) = false := by simpa using c
        have e : inR (.int n) lo hi = false := by show (decide (lo ≤ n) && decide (n ≤ hi)) = _; rw [c', Bool.false_and]
        rw [e] at k
        exact k
    · refine ⟨_, rfl, _, _, _, _, _, rfl, .ty _, .base (.bl _), kit_ty (r := true) (by decide +kernel), _, rfl, ?_⟩
      exact k
theorem scCc : FnScope ["content", "least"] ["content", "least"] (defScope sCc) := ⟨rfl, rfl, rfl, by decide +kernel, rfl, by decide +kernel, by decide +kernel⟩
theorem ok_cc {f : Addr} {fd : FuncData} (F : Fun K "check_content" "check_content" sCc f fd) (T : TxtS K mg CN CA) (dN : Def P w K mg base 1 "is_number" ["value", "least", "most"] spNumber) : FnOk P w K mg base (L2.CX P w) 2 f fd ["content", "least"] (spCc CN) := by
  refine F.okX scCc (fun vs H Q E h => ?_) (fun cdv A outer s H vs Q E hr h => ?_)
  · obtain ⟨v, lo, rfl, _⟩ := h
    rfl
  · obtain ⟨v, lo, rfl, hv, hlo, kY, kN⟩ := h
    obtain ⟨tm, gm⟩ := T.mc
    refine ⟨_, pss_one (ps_if (pt_not (pt_val (pe_def dN hr rfl (pa_cons (pv 0) (pa_cons (pv 1) (pa_cons (pe_glob (v := .int 99) rfl gm ⟨_, rfl⟩) pa_nil))))))
        (pss_one (ps_raise rfl (takes_of rfl rfl rfl rfl) (SkE.pmk_own1 PySem.F.excBase_ValueError T.en.x T.en.g T.en.k (raises_own T.en.b T.en.t) rfl
          (pe_joined (.cons pe_str (.cons (pe_fmt (pv 1)) (.cons pe_str (.cons (pe_fmt (pe_glob (v := .int 99) rfl gm ⟨_, rfl⟩)) .nil)))))))) pss_nil), ?_⟩
    refine ⟨_, rfl, _, rfl, v, lo, 99, rfl, hv, _, rfl, ?_⟩
    cases c : inR v lo 99 with
    | true => exact iteF (kY c)
    | false =>
      refine iteT ?_
      rcases hlo with rfl | rfl
      · exact ⟨_, rfl, by decide +kernel, _, rfl, .inr ⟨_, rfl, by decide +kernel, _, rfl, by decide +kernel, _, rfl, by decide +kernel, .inr ⟨_, rfl, by decide +kernel, _, rfl, by decide +kernel, kN c⟩⟩⟩
      · exact ⟨_, rfl, by decide +kernel, _, rfl, .inr ⟨_, rfl, by decide +kernel, _, rfl, by decide +kernel, _, rfl, by decide +kernel, .inr ⟨_, rfl, by decide +kernel, _, rfl, by decide +kernel, kN c⟩⟩⟩
theorem scCa : FnScope ["answer"] ["answer"] (defScope sCa) := ⟨rfl, rfl, rfl, by decide +kernel, rfl, by decide +kernel, by decide +kernel⟩
theorem ok_ca {f : Addr} {fd : FuncData} (F : Fun K "check_answer" "check_answer" sCa f fd) (T : TxtS K mg CN CA) : FnOk P w K mg base (L2.CX P w) 1 f fd ["answer"] (spCa CA) := by
  refine F.okX scCa (fun vs H Q E h => ?_) (fun cdv A outer s H vs Q E hr h => ?_)
  · obtain ⟨z, rfl, _⟩ := h
    rfl
  · obtain ⟨z, rfl, kY, kN⟩ := h
    obtain ⟨aA, gA, hA⟩ := T.ans
    refine ⟨_, pss_one (ps_if (pt_cmpR (op_notIn_seq : OpR _ _ (rIn K true)) (pv 0) (pe_glob (v := .ref aA) rfl gA rfl) (by rfl))
        (pss_one (ps_raise rfl (takes_of rfl rfl rfl rfl) (pmk_own PySem.F.excBase_ValueError T.ea.x T.ea.g T.ea.k (raises_own T.ea.b T.ea.t) rfl))) pss_nil), ?_⟩
    refine ⟨_, rfl, aA, _, rfl, .inr (hA _), rfl, rfl, _, rfl, ?_⟩
    rw [if_pos rfl, inV_ans]
    cases c : isAns z with
    | true => exact iteF (kY c)
    | false => exact iteT (kN c)
end
end Half

namespace Half
open PySem PySem.Spec PyProof.Rows L2
/-! ### contents and edits -/
def iV (ns : List Int) : List V := ns.map V.int
def eK (es : List (Int × Int)) : List (Key × V) := es.map fun p => (.inl p.1, .int p.2)
def okC (ns : List Int) (es : List (Int × Int)) : Bool := decide (ns.length ≤ 12) && (ns.all fun n => inR (.int n) 1 99) && (es.all fun p => inR (.int p.1) 0 ((ns.length : Int) - 1) && inR (.int p.2) 0 99)
def spCo (K : PySem.W.Frag) (CN : Addr) : Sp := fun vs H Q E => ∃ (a d : Addr) (ns : List Int) (es : List (Int × Int)), vs = [.ref a, .ref d] ∧ SqL K H a (iV ns) ∧ ns.length ≤ 1000 ∧ H d = some (.dK (eK es)) ∧
  (okC ns es = true → ∀ H', Same H H' → Q .non H') ∧ (okC ns es = false → ∀ H', Same H H' → E (.ref CN) none H')
/-- what an error leaves while a dict is locked is told of the dict unlocked -/
theorem takes_unlock {X : Cx} {W : WX} {d0 : Addr} {u : HO} (tk : Takes X W) (hn : ∀ o' u', X.H_0 d0 ≠ some (.frz o' u')) : Takes X (fun cls d σ H => ∃ od, H d0 = some (.frz od u) ∧ W cls d σ (upd H d0 u)) := fun v s' x => by
  obtain ⟨a, B, sI, pins, σ, H, cls, d, e, I, nb, up, sky, na, os, ag, od, h, w⟩ := x
  exact tk v s' ⟨a, B, sI, pins, σ, _, cls, d, e, I.unlock h hn, nb, up, sky, by rw [upd_ne (fun z => by rw [z, h] at na; cases na)]; exact na, os, ag, w⟩
theorem all_take {α : Type} {f : α → Bool} {xs : List α} {i : Nat} {x : α} (h : (xs.take i).all f = true) (hx : xs[i]? = some x) (hf : f x = true) : (xs.take (i + 1)).all f = true := by
  rw [List.take_add_one, hx, List.all_append, h]
  simp [hf]
theorem all_bad {α : Type} {f : α → Bool} {xs : List α} {i : Nat} {x : α} (hx : xs[i]? = some x) (hf : f x = false) : xs.all f = false := by
  cases c : xs.all f with
  | false => rfl
  | true =>
    have := List.all_eq_true.mp c x (List.mem_of_getElem? hx)
    rw [hf] at this
    cases this
section
variable {P : Program} {w : World} {K : PySem.W.Frag} {mg : Str → Option Value} {base : Heap} {CN CA : Addr}
theorem scCo : FnScope ["contents", "edits", "content", "index"] ["contents", "edits"] (defScope sCo) := ⟨rfl, rfl, rfl, by decide +kernel, rfl, by decide +kernel, by decide +kernel⟩
theorem ok_co {f : Addr} {fd : FuncData} (F : Fun K "check_course" "check_course" sCo f fd) (T : TxtS K mg CN CA) (dN : Def P w K mg base 1 "is_number" ["value", "least", "most"] spNumber) (dC : DefX P w K mg base 2 "check_content" ["content", "least"] (spCc CN)) : FnOk P w K mg base (L2.CX P w) 3 f fd ["contents", "edits"] (spCo K CN) := by
  refine F.okX scCo (fun vs H Q E h => ?_) (fun cdv A outer s H vs Q E hr h => ?_)
  · obtain ⟨a, d, ns, es, rfl, _⟩ := h
    rfl
  · obtain ⟨a, d, ns, es, rfl, hS, hl, hd, kY, kN⟩ := h
    have nd := scCo.nd
    have r1 : Room 1 _ := hr.mono (by decide)
    obtain ⟨tm, gm⟩ := T.mv
    have hn0 : ∀ o' u', H d ≠ some (.frz o' u') := fun o' u' z => by rw [hd] at z; cases z
    refine ⟨_, pss_cons (ps_if (pt_cmpR op_gt (pe_callB call_len_seq (by rfl) T.len PySem.boot_len (pa_cons (pv 0) pa_nil)) (pe_glob (v := .int 12) rfl gm ⟨_, rfl⟩) (nomark _))
        (pss_one (ps_raise rfl (takes_of rfl rfl rfl rfl) (SkE.pmk_own1 PySem.F.excBase_ValueError T.en.x T.en.g T.en.k (raises_own T.en.b T.en.t) rfl
          (pe_joined (.cons pe_str (.cons (pe_fmt (pe_glob (v := .int 12) rfl gm ⟨_, rfl⟩)) (.cons pe_str .nil))))))) pss_nil)
      (pss_cons (ps_for (passes_of rfl) rfl (pi_list (pv 0)) (pg_name (i := 2) nd rfl (Or.inl rfl))
        (pss_one (ps_expr (pe_defX dC hr rfl (passes_call (takes_of rfl rfl rfl rfl) (fun _ _ _ _ h => h)) (pa_cons (pv 2) (pa_cons pe_int pa_nil))))))
      (pss_one (ps_lock (ps_for (passes_of rfl) rfl (pi_items (pv 1)) (pg_tup rfl (pgs_cons (pg_name (i := 3) nd rfl (Or.inl rfl)) (pgs_cons (pg_name (i := 2) nd rfl (Or.inl rfl)) pgs_nil)))
        (pss_cons (ps_if (pt_not (pt_val (pe_def dN r1 rfl (pa_cons (pv 3) (pa_cons pe_int (pa_cons (pe_op op_sub (pe_callB call_len_seq (by rfl) T.len PySem.boot_len (pa_cons (pv 0) pa_nil)) pe_int) pa_nil))))))
          (pss_one (ps_raise rfl (takes_unlock (d0 := d) (u := .dK (eK es)) (takes_of rfl rfl rfl rfl) hn0) (pmk_own PySem.F.excBase_ValueError T.en.x T.en.g T.en.k (raises_own T.en.b T.en.t) rfl))) pss_nil)
        (pss_one (ps_expr (pe_defX (E := fun cls dd H1 => ∃ od, H1 d = some (.frz od (.dK (eK es))) ∧ E cls dd (upd H1 d (.dK (eK es)))) dC hr rfl (passes_call (takes_unlock (d0 := d) (u := .dK (eK es)) (takes_of rfl rfl rfl rfl) hn0) (fun _ _ _ _ h => h)) (pa_cons (pv 2) (pa_cons pe_int pa_nil)))))))))), ?_⟩
    have hli : (iV ns).length = ns.length := List.length_map ..
    refine ⟨_, rfl, a, _, rfl, .inl hS, _, _, rfl, rfl, _, rfl, ?_⟩
    rw [hli]
    by_cases c1 : ns.length ≤ 12
    · refine ite_no (decide_eq_false (by omega)) ?_
      refine ⟨_, rfl, a, rfl, ⟨_, hS⟩, ?_⟩
      refine for_it (walk_list (xs := iV ns)) (fun i σ H' => ∃ x2, H' = H ∧ σ = [some (.ref a), some (.ref d), x2, none] ∧ (ns.take i).all (fun n => inR (.int n) 1 99) = true) ⟨none, rfl, rfl, rfl⟩ (fun i σ H' _ p => by obtain ⟨_, rfl, _⟩ := p; exact hS) ?_ ?_
      · rintro i x σ H1 H2 hi ⟨x2, rfl, rfl, hp⟩ ⟨rfl, hx⟩
        obtain ⟨n, hn, rfl⟩ : ∃ n, ns[i]? = some n ∧ x = .int n := by
          rw [iV, List.getElem?_map] at hx
          cases c : ns[i]? with
          | none => rw [c] at hx; cases hx
          | some n => rw [c] at hx; cases hx; exact ⟨n, rfl, rfl⟩
        refine ⟨_, rfl, .int n, 1, rfl, .inl ⟨_, rfl⟩, .inr rfl, fun c => ⟨_, rfl, rfl, all_take hp hn c⟩, fun c => kN ?_ _ (Same.refl _)⟩
        unfold okC
        rw [all_bad hn c, Bool.and_false, Bool.false_and]
      · rintro σ H1 ⟨x2, rfl, rfl, hp⟩
        rw [hli, List.take_length] at hp
        refine ⟨d, _, hd, trivial, fun od => ?_⟩
        refine ⟨_, rfl, d, od, _, rfl, upd_same, ?_⟩
        have hS' : ∀ u, SqL K (upd H1 d u) a (iV ns) := fun u => by
          have na : ∀ o', H1 a = some o' → o' ≠ .dK (eK es) → a ≠ d := fun o' q z y => by rw [y, hd] at q; cases q; exact z rfl
          rcases hS with (h | ⟨q, h⟩) | h
          · exact .inl (.inl (by rw [upd_ne (na _ h (by intro z; cases z))]; exact h))
          · exact .inl (.inr ⟨q, by rw [upd_ne (na _ h (by intro z; cases z))]; exact h⟩)
          · exact .inr h
        have hle : (eK es).length = es.length := List.length_map ..
        refine for_it (walk_items (d := d) (o := od) (kvs := eK es)) (fun i σ H' => ∃ x2 x3, Same (upd H1 d (.frz od (.dK (eK es)))) H' ∧ σ = [some (.ref a), some (.ref d), x2, x3] ∧ (es.take i).all (fun p => inR (.int p.1) 0 ((ns.length : Int) - 1) && inR (.int p.2) 0 99) = true) ⟨x2, none, Same.refl _, rfl, rfl⟩ (fun i σ H' _ p => by obtain ⟨_, _, s1, _⟩ := p; exact s1 _ _ upd_same) ?_ ?_
        · rintro i x σ H2 H3 hi ⟨y2, y3, s2, rfl, hp2⟩ ⟨t, k, v, rfl, nt, rfl, hk, hv⟩
          obtain ⟨q, hq, rfl, rfl⟩ : ∃ q : Int × Int, es[i]? = some q ∧ k = .int q.1 ∧ v = .int q.2 := by
            dsimp only [eK] at hk hv
            rw [List.getElem?_map] at hk hv
            cases c : es[i]? with
            | none => rw [c] at hk; cases hk
            | some q => rw [c] at hk hv; cases hk; cases hv; exact ⟨q, rfl, rfl, rfl⟩
          have s3 := s2.trans (Same.upd_new (o := .tup [.int q.1, .int q.2]) nt)
          have bad : okC ns es = false → ∀ H', Same (upd H1 d (.frz od (.dK (eK es)))) H' → ∃ od, H' d = some (.frz od (.dK (eK es))) ∧ E (.ref CN) none (upd H' d (.dK (eK es))) := fun c H' s' => by
            refine ⟨od, s' _ _ upd_same, kN c _ fun b o e => ?_⟩
            by_cases hb : b = d
            · subst hb
              rw [upd_same, ← e, hd]
            · rw [upd_ne hb]
              exact s' _ _ (by rw [upd_ne hb]; exact e)
          refine ⟨t, _, rfl, .inl (.inl upd_same), rfl, _, _, rfl, _, _, rfl, rfl, ?_⟩
          refine ⟨_, rfl, _, rfl, a, _, rfl, .inl (s3.seq (hS' _)), _, _, rfl, rfl, .int q.1, 0, _, rfl, .inl ⟨_, rfl⟩, _, rfl, ?_⟩
          rw [hli]
          cases c : inR (.int q.1) 0 ((ns.length : Int) - 1) with
          | false =>
            refine iteT ?_
            refine bad ?_ _ s3
            unfold okC
            rw [all_bad hq (by rw [c]; rfl), Bool.and_false]
          | true =>
            refine iteF ?_
            refine ⟨_, rfl, .int q.2, 0, rfl, .inl ⟨_, rfl⟩, .inl rfl, fun c2 => ⟨_, _, s3, rfl, all_take hp2 hq (by rw [c, c2]; rfl)⟩, fun c2 => bad ?_ _ s3⟩
            unfold okC
            rw [all_bad hq (by rw [c, c2]; rfl), Bool.and_false]
        · rintro σ H2 ⟨y2, y3, s2, rfl, hp2⟩
          rw [hle, List.take_length] at hp2
          refine ⟨s2 _ _ upd_same, kY ?_ _ fun b o e => ?_⟩
          · unfold okC
            rw [hp, hp2, decide_eq_true c1]
            rfl
          · by_cases hb : b = d
            · subst hb
              rw [upd_same, ← e, hd]
            · rw [upd_ne hb]
              exact s2 _ _ (by rw [upd_ne hb]; exact e)
    · refine ite_yes (decide_eq_true (by omega)) ?_
      have bad : okC ns es = false := by unfold okC; rw [decide_eq_false c1]; rfl
      exact ⟨_, rfl, by decide +kernel, .inr ⟨_, rfl, by decide +kernel, _, rfl, by decide +kernel, _, rfl, by decide +kernel, kN bad _ (Same.refl _)⟩⟩
end
end Half

namespace Half
open PySem PySem.Spec PyProof.Rows L2
/-! ### one setup -/
theorem two_le : 2 ≤ sizeLine := by decide
def kept (z : Str) : Bool := decide (z = ("keep" : Str))
def one (n p w : Int) (kp : Bool) : Int × Bool := if w = n ∨ w = p then (p, false) else if p = n then (w, false) else (if kp = true then p else w, true)
def oneV (r : Int × Bool) : List V := [.int r.1, .bl r.2]
def spSe : Sp := fun vs H Q _ => ∃ (n p w : Int) (z : Str), vs = [.int n, .int p, .int w, .str z] ∧ ∀ H' t, Same H H' → H t = none → H' t = some (.tup (oneV (one n p w (kept z)))) → Q (.ref t) H'
def spSd (CN CA : Addr) : Sp := fun vs H Q E => ∃ (v1 v2 v3 : V) (z : Str), vs = [v1, v2, v3, .str z] ∧ IntB v1 ∧ IntB v2 ∧ IntB v3 ∧
  (∀ n p w, v1 = .int n → v2 = .int p → v3 = .int w → isAns z = true → ∀ H' t, Same H H' → H t = none → H' t = some (.tup (oneV (one n p w (kept z)))) → Q (.ref t) H') ∧
  ((inR v1 0 99 && inR v2 0 99 && inR v3 1 99) = false → E (.ref CN) none H) ∧ ((inR v1 0 99 && inR v2 0 99 && inR v3 1 99) = true → isAns z = false → E (.ref CA) none H)
theorem inR_int {v : V} {lo hi : Int} (h : inR v lo hi = true) : ∃ n, v = .int n := by
  cases v with
  | int n => exact ⟨n, rfl⟩
  | _ => cases h
section
variable {P : Program} {w : World} {K : PySem.W.Frag} {mg : Str → Option Value} {base : Heap} {CN CA : Addr}
theorem dec_int {x y : Int} : decide (V.int x = V.int y) = decide (x = y) := by
  by_cases h : x = y
  · subst h; simp
  · rw [decide_eq_false h, decide_eq_false (fun z => h (by cases z; rfl))]
theorem dec_str {x y : Str} : decide (V.str x = V.str y) = decide (x = y) := by
  by_cases h : x = y
  · subst h; simp
  · rw [decide_eq_false h, decide_eq_false (fun z => h (by cases z; rfl))]
theorem inV_two {x y z : Int} : inV (.int x) [.int y, .int z] = decide (x = y ∨ x = z) := by
  unfold inV
  simp only [List.any_cons, List.any_nil, Bool.or_false]
  have e : ∀ a b : Int, eqV (.int a) (.int b) = decide (a = b) := fun a b => by
    first
    | rfl
    | (show (a == b) = _; by_cases h : a = b <;> simp [h])
  rw [e, e]
  by_cases h1 : x = y <;> by_cases h2 : x = z
  all_goals simp [h1, h2, eq_comm]
theorem scSe : FnScope ["noted", "present", "new", "answer"] ["noted", "present", "new", "answer"] (defScope sSe) := ⟨rfl, rfl, rfl, by decide +kernel, rfl, by decide +kernel, by decide +kernel⟩
theorem ok_se {f : Addr} {fd : FuncData} (F : Fun K "settle" "settle" sSe f fd) : FnOk P w K mg base CX0 1 f fd ["noted", "present", "new", "answer"] spSe := by
  refine F.ok scSe (fun vs H Q E h => ?_) (fun cdv A outer s H vs Q E hr h => ?_)
  · obtain ⟨n, p, w, z, rfl, _⟩ := h
    rfl
  · obtain ⟨n, p, w, z, rfl, k⟩ := h
    have nd := scSe.nd
    refine ⟨_, pss_cons (ps_if (pt_cmpR (op_in_seq : OpR _ _ (rIn K false)) (pv 2) (pe_tup (pa_cons (pv 0) (pa_cons (pv 1) pa_nil))) (by rfl)) (pss_one (ps_ret (pe_tup (pa_cons (pv 1) (pa_cons pe_bl pa_nil))))) pss_nil)
      (pss_cons (ps_if (pt_cmpR op_eq (pv 1) (pv 0) (nomark _)) (pss_one (ps_ret (pe_tup (pa_cons (pv 2) (pa_cons pe_bl pa_nil))))) pss_nil)
      (pss_one (ps_ret (pe_tup (pa_cons (pe_ifExp (pt_cmpR op_eq (pv 3) pe_str (nomark _)) (pv 1) (pv 2)) (pa_cons pe_bl pa_nil)))))), ?_⟩
    refine ⟨_, rfl, _, rfl, _, rfl, two_le, fun t nt => ⟨t, _, rfl, .inr (.inl (.inl upd_same)), rfl, rfl, _, rfl, ?_⟩⟩
    have s1 := Same.upd_new (o := .tup [.int n, .int p]) nt
    rw [if_neg (by decide), inV_two]
    unfold one at k
    by_cases c1 : w = n ∨ w = p
    · rw [if_pos c1] at k
      refine ite_yes (decide_eq_true c1) ?_
      refine ⟨_, rfl, two_le, fun q nq => ?_⟩
      refine k _ q (s1.trans (Same.upd_new nq)) ?_ upd_same
      cases e : H q with
      | none => rfl
      | some o => rw [s1 _ _ e] at nq; cases nq
    · rw [if_neg c1] at k
      refine ite_no (decide_eq_false c1) ?_
      refine ⟨_, rfl, _, rfl, rfl, _, rfl, ?_⟩
      rw [dec_int]
      by_cases c2 : p = n
      · rw [if_pos c2] at k
        refine ite_yes (decide_eq_true c2) ?_
        refine ⟨_, rfl, two_le, fun q nq => ?_⟩
        refine k _ q (s1.trans (Same.upd_new nq)) ?_ upd_same
        cases e : H q with
        | none => rfl
        | some o => rw [s1 _ _ e] at nq; cases nq
      · rw [if_neg c2] at k
        refine ite_no (decide_eq_false c2) ?_
        refine ⟨_, rfl, rfl, _, rfl, ?_⟩
        rw [dec_str]
        unfold kept at k
        cases c3 : decide (z = ("keep" : Str)) with
        | true =>
          rw [c3] at k
          refine iteT ⟨_, rfl, two_le, fun q nq => ?_⟩
          refine k _ q (s1.trans (Same.upd_new nq)) ?_ upd_same
          cases e : H q with
          | none => rfl
          | some o => rw [s1 _ _ e] at nq; cases nq
        | false =>
          rw [c3] at k
          refine iteF ⟨_, rfl, two_le, fun q nq => ?_⟩
          refine k _ q (s1.trans (Same.upd_new nq)) ?_ upd_same
          cases e : H q with
          | none => rfl
          | some o => rw [s1 _ _ e] at nq; cases nq
theorem scSd : FnScope ["noted", "present", "new", "answer"] ["noted", "present", "new", "answer"] (defScope sSd) := ⟨rfl, rfl, rfl, by decide +kernel, rfl, by decide +kernel, by decide +kernel⟩
theorem ok_sd {f : Addr} {fd : FuncData} (F : Fun K "settled" "settled" sSd f fd) (dC : DefX P w K mg base 2 "check_content" ["content", "least"] (spCc CN)) (dA : DefX P w K mg base 1 "check_answer" ["answer"] (spCa CA)) (dS : Def P w K mg base 1 "settle" ["noted", "present", "new", "answer"] spSe) : FnOk P w K mg base (L2.CX P w) 3 f fd ["noted", "present", "new", "answer"] (spSd CN CA) := by
  refine F.okX scSd (fun vs H Q E h => ?_) (fun cdv A outer s H vs Q E hr h => ?_)
  · obtain ⟨v1, v2, v3, z, rfl, _⟩ := h
    rfl
  · obtain ⟨v1, v2, v3, z, rfl, h1, h2, h3, kY, kN, kA⟩ := h
    have nd := scSd.nd
    have r1 : Room 1 _ := hr.mono (by decide)
    refine ⟨_, pss_cons (ps_expr (pe_defX dC hr rfl (passes_call (takes_of rfl rfl rfl rfl) (fun _ _ _ _ h => h)) (pa_cons (pv 0) (pa_cons pe_int pa_nil))))
      (pss_cons (ps_expr (pe_defX dC hr rfl (passes_call (takes_of rfl rfl rfl rfl) (fun _ _ _ _ h => h)) (pa_cons (pv 1) (pa_cons pe_int pa_nil))))
      (pss_cons (ps_expr (pe_defX dC hr rfl (passes_call (takes_of rfl rfl rfl rfl) (fun _ _ _ _ h => h)) (pa_cons (pv 2) (pa_cons pe_int pa_nil))))
      (pss_cons (ps_expr (pe_defX dA r1 rfl (passes_call (takes_of rfl rfl rfl rfl) (fun _ _ _ _ h => h)) (pa_cons (pv 3) pa_nil)))
      (pss_one (ps_ret (pe_def dS r1 rfl (pa_cons (pv 0) (pa_cons (pv 1) (pa_cons (pv 2) (pa_cons (pv 3) pa_nil)))))))))), ?_⟩
    refine ⟨_, rfl, v1, 0, rfl, h1, .inl rfl, fun c1 => ?_, fun c1 => kN (by rw [c1]; rfl)⟩
    refine ⟨_, rfl, v2, 0, rfl, h2, .inl rfl, fun c2 => ?_, fun c2 => kN (by rw [c2, Bool.and_false]; rfl)⟩
    refine ⟨_, rfl, v3, 1, rfl, h3, .inr rfl, fun c3 => ?_, fun c3 => kN (by rw [c3, Bool.and_false])⟩
    refine ⟨_, rfl, z, rfl, fun c4 => ?_, fun c4 => kA (by rw [c1, c2, c3]; rfl) c4⟩
    obtain ⟨n, rfl⟩ := inR_int c1
    obtain ⟨p, rfl⟩ := inR_int c2
    obtain ⟨w, rfl⟩ := inR_int c3
    exact ⟨_, rfl, _, rfl, _, rfl, _, rfl, n, p, w, z, rfl, fun H' t s' nt ht => kY n p w rfl rfl rfl c4 H' t s' nt ht⟩
end
end Half

namespace Half
open PySem PySem.Spec PyProof.Rows L2
/-! ### all setups -/
def edit (es : List (Int × Int)) (i : Int) : Option Int := (es.find? fun p => decide (p.1 = i)).map (·.2)
theorem edit_val : ∀ (es : List (Int × Int)) (i : Int), valV (eK es) (.inl i) = (edit es i).map V.int
  | [], i => rfl
  | p :: es, i => by
    have ih := edit_val es i
    unfold edit at ih ⊢
    unfold valV at ih ⊢
    unfold eK at ih ⊢
    rw [List.map_cons, List.find?_cons, List.find?_cons]
    by_cases h : p.1 = i
    · rw [decide_eq_true h, decide_eq_true (show ((Sum.inl p.1 : Key) = .inl i) from by rw [h])]
      rfl
    · rw [decide_eq_false h, decide_eq_false (show ¬ ((Sum.inl p.1 : Key) = .inl i) from fun z => h (Sum.inl.inj z))]
      exact ih
/-- noted, present, asked at, behind the first i setups -/
def stF (es : List (Int × Int)) (kp : Bool) (ns : List Int) : Nat → Int × Int × List Int
  | 0 => (0, 0, [])
  | i + 1 =>
    let s := stF es kp ns i
    let r := one s.1 ((edit es i).getD s.2.1) (ns.getD i 0) kp
    (ns.getD i 0, r.1, if r.2 = true then s.2.2 ++ [(i : Int)] else s.2.2)
theorem stF_len (es : List (Int × Int)) (kp : Bool) (ns : List Int) : ∀ i, (stF es kp ns i).2.2.length ≤ i
  | 0 => Nat.le_refl 0
  | i + 1 => by
    have ih := stF_len es kp ns i
    unfold stF
    dsimp only
    split
    · rw [List.length_append]; simp; omega
    · omega
def spSa (K : PySem.W.Frag) (CN CA : Addr) : Sp := fun vs H Q E => ∃ (a d : Addr) (ns : List Int) (es : List (Int × Int)) (z : Str), vs = [.ref a, .ref d, .str z] ∧ SqL K H a (iV ns) ∧ ns.length ≤ 1000 ∧ H d = some (.dK (eK es)) ∧
  (okC ns es = true → isAns z = true → ∀ H' t l, Same H H' → H' t = some (.tup [.int (stF es (kept z) ns ns.length).2.1, .ref l]) → H' l = some (.lst (iV (stF es (kept z) ns ns.length).2.2)) → Q (.ref t) H') ∧
  (okC ns es = false → ∀ H', Same H H' → E (.ref CN) none H') ∧ (okC ns es = true → isAns z = false → ∀ H', Same H H' → E (.ref CA) none H')
section
variable {P : Program} {w : World} {K : PySem.W.Frag} {mg : Str → Option Value} {base : Heap} {CN CA : Addr}
abbrev SaN : List Str := ["contents", "edits", "answer", "noted", "present", "asked_at", "at", "new", "asked"]
theorem scSa : FnScope SaN ["contents", "edits", "answer"] (defScope sSa) := ⟨rfl, rfl, rfl, by decide +kernel, rfl, by decide +kernel, by decide +kernel⟩
theorem ok_sa {f : Addr} {fd : FuncData} (F : Fun K "settled_all" "settled_all" sSa f fd) (T : TxtS K mg CN CA) (dO : DefX P w K mg base 3 "check_course" ["contents", "edits"] (spCo K CN)) (dA : DefX P w K mg base 1 "check_answer" ["answer"] (spCa CA)) (dS : Def P w K mg base 1 "settle" ["noted", "present", "new", "answer"] spSe) : FnOk P w K mg base (L2.CX P w) 4 f fd ["contents", "edits", "answer"] (spSa K CN CA) := by
  refine F.okX scSa (fun vs H Q E h => ?_) (fun cdv A outer s H vs Q E hr h => ?_)
  · obtain ⟨a, d, ns, es, z, rfl, _⟩ := h
    rfl
  · obtain ⟨a, d, ns, es, z, rfl, hS, hl, hd, kY, kN, kA⟩ := h
    have nd := scSa.nd
    have r1 : Room 1 _ := hr.mono (by decide)
    have hu := hu_of hr
    refine ⟨_, pss_cons (ps_expr (pe_defX dO hr rfl (passes_call (takes_of rfl rfl rfl rfl) (fun _ _ _ _ h => h)) (pa_cons (pv 0) (pa_cons (pv 1) pa_nil))))
      (pss_cons (ps_expr (pe_defX dA r1 rfl (passes_call (takes_of rfl rfl rfl rfl) (fun _ _ _ _ h => h)) (pa_cons (pv 2) pa_nil)))
      (pss_cons (ps_asg2 pe_int (pg_name (i := 3) nd rfl (Or.inl rfl)) (pg_name (i := 4) nd rfl (Or.inl rfl)))
      (pss_cons (ps_set (i := 5) nd rfl (Or.inl rfl) (pe_lst pa_nil))
      (pss_cons (ps_for (passes_of rfl) rfl (pi_enum (by rfl) T.enu (pa_cons (pv 0) pa_nil)) (pg_tup rfl (pgs_cons (pg_name (i := 6) nd rfl (Or.inl rfl)) (pgs_cons (pg_name (i := 7) nd rfl (Or.inl rfl)) pgs_nil)))
        (pss_cons (ps_asg (pe_def dS r1 rfl (pa_cons (pv 3) (pa_cons (pe_dget2 hu (pv 1) (pv 6) (pv 4) ⟨rfl, rfl, rfl, rfl⟩) (pa_cons (pv 7) (pa_cons (pv 2) pa_nil))))) (pg_tup rfl (pgs_cons (pg_name (i := 4) nd rfl (Or.inl rfl)) (pgs_cons (pg_name (i := 8) nd rfl (Or.inl rfl)) pgs_nil))))
        (pss_cons (ps_set (i := 3) nd rfl (Or.inl rfl) (pv 7))
        (pss_one (ps_if (pt_truth (pv 8) (by intro _; rfl)) (pss_one (ps_expr (pe_bm PySem.F.plainAttrs_list PySem.F.slot_list_append PySem.F.type_list_append mt_append (pv 5) (pa_cons (pv 6) pa_nil)))) pss_nil)))))
      (pss_one (ps_ret (pe_tup (pa_cons (pv 4) (pa_cons (pv 5) pa_nil))))))))), ?_⟩
    refine ⟨_, rfl, _, rfl, a, d, ns, es, rfl, hS, hl, hd, fun c1 H1 s1 => ?_, fun c1 => kN c1⟩
    refine ⟨_, rfl, z, rfl, fun c2 => ?_, fun c2 => kA c1 c2 _ s1⟩
    refine ⟨Nat.zero_le _, fun l nl => ?_⟩
    have s2 := s1.trans (Same.upd_new (o := .lst []) nl)
    have nlH : H l = none := by
      cases e : H l with
      | none => rfl
      | some o => rw [s1 _ _ e] at nl; cases nl
    have hli : (iV ns).length = ns.length := List.length_map ..
    refine ⟨_, rfl, a, _, rfl, s2.seq hS, ?_⟩
    refine for_it (walk_enum (K := K) (a := a) (xs := iV ns)) (fun i σ H' => ∃ x6 x7 x8, Same H H' ∧ H' l = some (.lst (iV (stF es (kept z) ns i).2.2)) ∧ σ = [some (.ref a), some (.ref d), some (.str z), some (.int (stF es (kept z) ns i).1), some (.int (stF es (kept z) ns i).2.1), some (.ref l), x6, x7, x8]) ⟨none, none, none, s2, upd_same, rfl⟩ (fun i σ H' _ p => by obtain ⟨_, _, _, s', _⟩ := p; exact s'.seq hS) ?_ ?_
    · rintro i x σ H2 H3 hi ⟨x6, x7, x8, s3, hL, rfl⟩ ⟨t, k, v, rfl, nt, rfl, hk, hv⟩
      cases hk
      obtain ⟨n, hn, rfl⟩ : ∃ n, ns[i]? = some n ∧ v = .int n := by
        dsimp only [iV] at hv
        rw [List.getElem?_map] at hv
        cases c : ns[i]? with
        | none => rw [c] at hv; cases hv
        | some n => rw [c] at hv; cases hv; exact ⟨n, rfl, rfl⟩
      have en : ns.getD i 0 = n := by rw [List.getD_eq_getElem?_getD, hn]; rfl
      have st := Same.upd_new (o := .tup [.int ((i : Nat) : Int), .int n]) nt
      have s4 := s3.trans st
      have hL4 := st _ _ hL
      refine ⟨t, _, rfl, .inl (.inl upd_same), rfl, _, _, rfl, _, _, rfl, rfl, ?_⟩
      generalize upd H2 t (.tup [.int ((i : Nat) : Int), .int n]) = H4 at s4 hL4 ⊢
      have hd4 := s4 _ _ hd
      have e1 : ((valV (eK es) (.inl (i : Int))).getD (.int (stF es (kept z) ns i).2.1)) = .int ((edit es i).getD (stF es (kept z) ns i).2.1) := by
        rw [edit_val]
        cases edit es (i : Int) <;> rfl
      refine ⟨_, rfl, _, rfl, d, rfl, .inl ⟨_, .inl hd4⟩, _, rfl, _, rfl, valV (eK es) (.inl (i : Int)), DGet.k (k := .inl (i : Int)) hd4, ?_⟩
      rw [e1]
      refine ⟨_, rfl, _, rfl, _, _, _, _, rfl, fun H5 p s5 np hp => ?_⟩
      refine ⟨p, _, rfl, .inl (.inl hp), rfl, _, _, rfl, _, _, rfl, rfl, ?_⟩
      refine ⟨_, rfl, ?_⟩
      have hL5 := s5 _ _ hL4
      have nx : stF es (kept z) ns (i + 1) = (n, (one (stF es (kept z) ns i).1 ((edit es i).getD (stF es (kept z) ns i).2.1) n (kept z)).1, if (one (stF es (kept z) ns i).1 ((edit es i).getD (stF es (kept z) ns i).2.1) n (kept z)).2 = true then (stF es (kept z) ns i).2.2 ++ [(i : Int)] else (stF es (kept z) ns i).2.2) := by
        rw [stF, en]
      have s45 := s4.trans s5
      cases c : (one (stF es (kept z) ns i).1 ((edit es i).getD (stF es (kept z) ns i).2.1) n (kept z)).2 with
      | true =>
        refine ⟨_, rfl, true, rfl, ?_⟩
        refine iteT ?_
        have few : (iV (stF es (kept z) ns i).2.2).length < sizeLine := by
          have := stF_len es (kept z) ns i
          rw [iV, List.length_map, sizeLine_eq]
          omega
        refine ⟨_, rfl, .inl ⟨rfl, _, SqL.of hL5⟩, _, rfl, l, _, _, rfl, rfl, hL5, few, ?_⟩
        refine ⟨some (.int (i : Int)), some (.int n), some (.bl true), fun b o e => ?_, ?_, ?_⟩
        · rw [upd_ne (ne_of_none e nlH)]
          exact s45 _ _ e
        · rw [upd_same, nx, c, if_pos rfl, iV, iV, List.map_append]
          rfl
        · rw [nx]
          rfl
      | false =>
        refine ⟨_, rfl, false, rfl, ?_⟩
        refine iteF ?_
        refine ⟨some (.int (i : Int)), some (.int n), some (.bl false), s45, ?_, ?_⟩
        · rw [nx, c]; exact hL5
        · rw [nx]
          rfl
    · rintro σ H2 ⟨x6, x7, x8, s3, hL, rfl⟩
      rw [hli] at hL ⊢
      refine ⟨_, rfl, _, rfl, two_le, fun t nt => ?_⟩
      exact kY c1 c2 _ t l (s3.trans (Same.upd_new nt)) upd_same ((Same.upd_new nt) _ _ hL)
end
end Half

/-! the least of two things, of a list of things: data that are alike; dicts with tuple keys, walked by their pairs -/
namespace L2
open PySem PySem.Spec PyProof.Rows
section
variable {prog : Program} {w : World} {A : Around} {E : Value → Shared → Prop} {s : Shared}
/-- min(a, b): b where it is the less -/
theorem min2_data {a b : Value} {x y : PyData} {as bs : List Addr} {Q : Value → Shared → Prop} (calm : A.handled = none) (ra : Reads s.heap a x as) (rb : Reads s.heap b y bs) (al : PySem.W.AlikeAll [x, y]) (room : A.units + 1 + PyData.depthAll [x, y] < cLine)
    (q : ∀ h' tk, (∀ c o, s.heap.get? c = some o → h'.get? c = some o) → Q (if PySem.W.dataLt y x = true then b else a) { s with heap := h', toks := tk }) : wpAny (model prog w) A (call (.builtin "min") [a, b]) Q E s := by
  have nm : (toString "min" ++ toString ".loop" : String) = "min.loop" := by decide
  refine call_function_tree F.kind_min F.plain_min F.entry_min (F.args_min2 _ _) ?_
  show wpAny _ A.in1 (Builtin.Builtins.bindParams "min" ["key", "default"] 0 ⟨[], []⟩ >>= _) _ _ s
  refine wpAny_bind (wpAny_of_eq (show Builtin.Builtins.bindParams "min" ["key", "default"] 0 ⟨[], []⟩ = pure [none, none] from rfl) ?_)
  show wpAny _ A.in1 (newTuple [a, b] >>= _) _ _ s
  refine wpAny_bind (wpAny_newObj_type ?_)
  have up1 : ∀ c o, s.heap.get? c = some o → (s.heap.push { cls := .type "tuple", data := .seq #[a, b] }).get? c = some o := fun c o e => Heap.get?_push_of_some _ e
  have tup : (s.heap.push { cls := .type "tuple", data := .seq #[a, b] }).IsTuple s.heap.objs.size #[a, b] := ⟨_, Heap.get?_push_size _ rfl, rfl, 0, rfl⟩
  have rd : ReadsAll s.heap (#[a, b] : Array Value).toList [x, y] (as ++ (bs ++ [])) := .cons ra (.cons rb .nil)
  refine wpAny_bind (PySem.W.iter_tupleW (A := A.in1) (s := { s with heap := s.heap.push { cls := .type "tuple", data := .seq #[a, b] } }) calm tup fun s2 e W st hfp hw hk => ?_)
  refine wpAny_bind (wpAny_newObj_type ?_)
  have off : s2.heap.objs.size ∉ [(s.heap.push { cls := .type "tuple", data := .seq #[a, b] }).objs.size, s.heap.objs.size] := fun m => Nat.lt_irrefl _ (hfp _ m)
  rw [nm]
  refine wpAny_pure ⟨plainId_quiet F.plain_min_loop _, codeAny_min_loop_firstH W s.heap (fun c o z => hw c o (up1 c o z)) _ (PySem.W.cmpIn_lt (A := A.in1) rd al room) s2.heap.objs.size off (fresh_in fun c o z => hk c o (up1 c o z)) _ (Nat.succ_pos _) (fun c o z => Heap.get?_push_of_some _ (hk c o (up1 c o z)))
    (W.frame 0 s2 _ s2.toks st (Nat.le_refl _) fun c _ o z => Heap.get?_push_of_some _ z) (Heap.get?_push_size _ rfl) fun v s' hP mv => ?_⟩
  obtain ⟨h', tk, rfl, hk'⟩ := PySem.W.moved_old e rfl (Moved.drop_new (tk := s2.toks) mv (Nat.le_refl _))
  have fin := q h' tk fun c o z => hk' c o (up1 c o z)
  have hv : v = if PySem.W.dataLt y x = true then b else a := by
    have hP : (#[a, b] : Array Value)[argBest (fun i j => PySem.W.dataLt (([x, y] : List PyData).getD i .none) (([x, y] : List PyData).getD j .none)) 1]? = some v := hP
    cases c : PySem.W.dataLt y x with
    | true =>
      have e1 : argBest (fun i j => PySem.W.dataLt (([x, y] : List PyData).getD i .none) (([x, y] : List PyData).getD j .none)) 1 = 1 := by simp [argBest, c]
      rw [e1] at hP
      simpa using hP.symm
    | false =>
      have e1 : argBest (fun i j => PySem.W.dataLt (([x, y] : List PyData).getD i .none) (([x, y] : List PyData).getD j .none)) 1 = 0 := by simp [argBest, c]
      rw [e1] at hP
      simpa using hP.symm
  rw [hv]
  exact fin
end
section
variable {X : Cx}
/-- min(x, y) of data -/
def rMin2 (K : PySem.W.Frag) : List V → Hp → VK → Prop := fun vs H Q => ∃ (x y : V) (dx dy : PyData), vs = [x, y] ∧ Dp K H x dx ∧ Dp K H y dy ∧ PySem.W.AlikeAll [dx, dy] ∧ PyData.depthAll [dx, dy] ≤ 20 ∧ Q (if PySem.W.dataLt dy dx = true then y else x) H
theorem cr_min2 (hc : X.calm = true) (hu : X.A.units + 40 < cLine) : CallR X (.builtin "min") (rMin2 X.K) := by
  rintro pins s σ H vs us Q I r ⟨x, y, dx, dy, rfl, h1, h2, al, dp, q⟩
  cases r with
  | @cons _ u _ us r1 r2 =>
    cases r2 with
    | @cons _ u' _ _ r2 r3 =>
      cases r3
      obtain ⟨as, ra⟩ := Dp.readsAll I _ _ [u, u'] (.cons h1 (.cons h2 .nil)) (.cons r1 (.cons r2 .nil))
      cases ra with
      | cons ra rb =>
        cases rb with
        | cons rb _ =>
          refine min2_data (I.ok.hd hc) ra rb al (by omega) fun h' tk kp => ?_
          cases c : PySem.W.dataLt dy dx with
          | true =>
            rw [c] at q
            exact ⟨y, H, I.kept kp, r2, q⟩
          | false =>
            rw [c] at q
            exact ⟨x, H, I.kept kp, r1, q⟩
theorem minD_mem (d : PyData) (ds : List PyData) : PySem.W.minD d ds ∈ d :: ds := by
  unfold PySem.W.minD
  induction ds generalizing d with
  | nil => exact List.mem_singleton.mpr rfl
  | cons y ys ih =>
    rw [List.foldl_cons]
    have h := ih (if PySem.W.dataLt y d = true then y else d)
    rcases List.mem_cons.mp h with e | e
    · rw [e]
      split
      · exact .tail _ (.head _)
      · exact .head _
    · exact .tail _ (.tail _ e)
theorem vals_back_at : ∀ {xs : List V} {us : List Value} {i : Nat} {u : Value}, Vals xs us → us[i]? = some u → ∃ x, xs[i]? = some x ∧ RelV x u
  | _, _, _, _, .nil, h => by simp at h
  | x :: _, _, 0, _, .cons r _, h => by
    cases h
    exact ⟨x, rfl, r⟩
  | _ :: _, _, i + 1, _, .cons _ t, h => vals_back_at (i := i) t h
/-- min(xs), xs a list of data -/
def rMinD (K : PySem.W.Frag) : List V → Hp → VK → Prop := fun vs H Q => ∃ (a : Addr) (xs : List V) (d : PyData) (ds : List PyData), vs = [.ref a] ∧ SqL K H a xs ∧ DpAll K H xs (d :: ds) ∧ PySem.W.AlikeAll (d :: ds) ∧ PyData.depthAll (d :: ds) ≤ 20 ∧
  ∀ (i : Nat) (x : V), xs[i]? = some x → (d :: ds)[i]? = some (PySem.W.minD d ds) → Q x H
theorem cr_minD (hc : X.calm = true) (hu : X.A.units + 40 < cLine) : CallR X (.builtin "min") (rMinD X.K) := by
  rintro pins s σ H vs us Q I r ⟨a, xs, d, ds, rfl, hs, hd, al, dp, q⟩
  obtain ⟨its, rv, hl, -⟩ := I.list hs
  rw [Vals.ref1 r]
  obtain ⟨as, ra⟩ := Dp.readsAll I _ _ its hd rv
  refine PySem.W.min_list_data (I.ok.hd hc) hl.isList (by rw [List.toList_toArray]; exact ra) al (by omega) fun i v h' tk bs hv rd kp => ?_
  rw [List.getElem?_toArray] at hv
  obtain ⟨bs', r1, lt, mem, _⟩ := PySem.W.readsAll_at ra i v hv
  have e : (d :: ds).getD i .none = PySem.W.minD d ds := by
    exact PySem.W.alike_unique _ _ v bs' bs (al.1 _ mem _ (minD_mem d ds)) (PyProof.Rows.Reads.keeps kp r1) rd
  obtain ⟨x, hx, rx⟩ := vals_back_at rv hv
  refine ⟨x, H, I.kept kp, rx, q i x hx ?_⟩
  rw [← e, List.getD_eq_getElem?_getD, List.getElem?_eq_getElem lt]
  rfl
end
end L2

/-! dicts with tuple keys: their pairs walked, their values as a list, a display of one pair -/
namespace L2
open PySem PySem.Spec PyProof.Rows
/-- the pairs of the locked dict at d, each a new tuple of the key's own tuple and the value -/
def Itit (d : Addr) (o : Obj) (kvs : List (List Key × V)) : It :=
  ⟨fun i H => H d = some (.frz o (.dT kvs)) ∧ i < kvs.length, fun i H x H' => ∃ (T q : Addr) (k : List Key) (v : V), kvs[i]? = some (k, v) ∧ x = .ref T ∧ H T = none ∧ H q = some (.tup (k.map kV)) ∧ H' = upd H T (.tup [.ref q, v]), fun i H => H d = some (.frz o (.dT kvs)) ∧ kvs.length ≤ i⟩
/-- what a locked dict of tuple keys is in the heap -/
theorem frzT_all {X : Cx} {pins : List (Addr × Obj)} {σ : St} {H : Hp} {s : Shared} {d : Addr} {o : Obj} {kvs : List (List Key × V)} (I : Inv X pins σ H s) (h : H d = some (.frz o (.dT kvs))) :
    (d == sysModules) = false ∧ ∃ (es : Array DictEntry) (ep : Nat), o.data = .dict es ep ∧ s.heap.DictRaw d es ep ∧ es.size = kvs.length ∧
      ∀ (i : Nat) (hi : i < es.size) (k : List Key) (v : V), kvs[i]? = some (k, v) → ∃ q : Addr, es[i].key = .ref q ∧ H q = some (.tup (k.map kV)) ∧ RelV v es[i].val := by
  obtain ⟨hd, z, hs, xs, pr, o', es, ep, ho, hx, hdt, he, _⟩ := I.hok d _ h
  rw [hd] at ho
  cases ho
  refine ⟨hs, es, ep, hdt, ⟨o, hd, hx, hdt⟩, ?_, fun i hi k v e => ?_⟩
  · have l1 : es.size = xs.length := size_of_entries he
    have l2 : kvs.length = xs.length := Paired.length pr
    omega
  · obtain ⟨b, hb, e1, e2, e3⟩ := paired_get pr e
    have q := entry_at he i
    rw [hb, Array.getElem?_eq_getElem hi] at q
    have q' : es[i] = entryOfKey (tupleKind (mixKind X.prog X.w)) b := Option.some.inj q
    exact ⟨b.2.1, by rw [q']; rfl, e2, by rw [q']; exact e3⟩
section
variable {P : Program} {w : World} {K : PySem.W.Frag} {d : Addr} {o : Obj} {es : Array DictEntry} {ep : Nat}
theorem turn_itemsT {kvs : List (List Key × V)} {elts : List Expr} {kk : Nat} {tpos : Pos} (it : Addr) (hod : o.data = .dict es ep) :
    Turn P w K (.Tuple elts kk tpos) (Itit d o kvs) [it] it (fun i h => ∃ ok ov, IsItemIter h it d i kvs.length ep ok ov) where
  mem := List.mem_singleton.mpr rfl
  obj := fun i h st b hb => by
    rw [List.mem_singleton.mp hb]
    obtain ⟨ok, ov, e⟩ := st
    exact ⟨_, e, fun v z => nomatch z⟩
  keep := fun i h h' st k => by
    obtain ⟨ok, ov, e⟩ := st
    exact ⟨ok, ov, k it (List.mem_singleton.mpr rfl) _ e⟩
  item := by
    rintro X rfl rfl rfl calm i pins s σ H E I own ⟨ok, ov, iter⟩ ⟨hd, hi⟩
    obtain ⟨hs, es', ep', hdt, raw, sz, ent⟩ := frzT_all I hd
    obtain ⟨rfl, rfl⟩ := dict_ep hod hdt
    obtain ⟨⟨k, v⟩, hkv⟩ : ∃ p, kvs[i]? = some p := ⟨_, List.getElem?_eq_getElem hi⟩
    have hi' : i < es'.size := by omega
    obtain ⟨q, e1, e2, e3⟩ := ent i hi' k v hkv
    rw [← sz] at iter
    have below : it < s.heap.objs.size := Heap.lt_size iter
    refine wpAny_pyNext_items_item_raw iter raw hi' fun h' out new size kp => ?_
    refine ⟨_, rfl, wpAny_letOwnedTupleGo_items (s := { s with heap := h' }) out fun h2 iter2 sb => ?_⟩
    have at2 : h2.get? s.heap.objs.size = some { cls := .type "tuple", data := .seq #[es'[i].key, es'[i].val] } := (sb.2 _ (Nat.ne_of_gt below)).trans new
    have made : ObjOk X.prog X.w (upd H s.heap.objs.size (.tup [.ref q, v])) h2 s.heap.objs.size (.tup [.ref q, v]) :=
      ⟨(by decide : 2 ≤ sizeLine), [es'[i].key, es'[i].val], .cons e1 (.cons e3 .nil), ⟨_, at2, rfl, _, rfl⟩⟩
    have I1 : Inv X pins σ (upd H s.heap.objs.size (.tup [.ref q, v])) { s with heap := h2 } :=
      I.turnedNew (t' := s.toks) (ch := [it]) (fun b ob hb e => (sb.2 b fun z => hb (List.mem_singleton.mpr z)).trans (kp b ob (fun z => hb (List.mem_singleton.mpr z)) e)) own (Nat.le_refl _) made
    refine ⟨.ref s.heap.objs.size, _, I1, rfl, ⟨_, q, k, v, hkv, rfl, I.hok.fresh (Nat.le_refl _), e2, rfl⟩, ⟨_, _, sz ▸ iter2⟩, fun b hb => ?_⟩
    rw [List.mem_singleton.mp hb, upd_ne (Nat.ne_of_lt below)]
    exact (own it (List.mem_singleton.mpr rfl)).1
  done := by
    rintro X rfl rfl rfl calm i pins s σ H E I own ⟨ok, ov, iter⟩ ⟨hd, hi⟩
    obtain ⟨f0, f1, f2, f3, f4, f5⟩ := own it (List.mem_singleton.mpr rfl)
    obtain ⟨hs, es', ep', hdt, raw, sz, ent⟩ := frzT_all I hd
    obtain ⟨rfl, rfl⟩ := dict_ep hod hdt
    rw [← sz] at iter
    exact wpAny_pyNext_items_end_raw (I.ok.hd calm) iter raw (by omega) fun h' eb => ⟨rfl, I.turned (t' := s.toks) (fun b ob hb e => eb b ob hb e) f0 f1 f3 f4 f5⟩
  self := fun A i s Q E st h => by
    obtain ⟨_, _, e⟩ := st
    exact PySem.W.kcp_self e h
theorem walk_itemsT {kvs : List (List Key × V)} : Walk (Itit d o kvs) kvs.length (fun H => H d = some (.frz o (.dT kvs)))
    (fun i H x H' => ∃ (T q : Addr) (k : List Key) (v : V), kvs[i]? = some (k, v) ∧ x = .ref T ∧ H T = none ∧ H q = some (.tup (k.map kV)) ∧ H' = upd H T (.tup [.ref q, v])) :=
  ⟨fun i H hi h => ⟨h, hi⟩, fun H h => ⟨h, Nat.le_refl _⟩, fun i H x H' _ _ h => h⟩
end
def iItemsT (td : TE) : TI := fun σ H R => td σ H fun x H1 => ∃ d o kvs, x = .ref d ∧ H1 d = some (.frz o (.dT kvs)) ∧ R (Itit d o kvs) H1
section
variable {X : Cx} {e : Expr} {td : TE} {apos cpos : Pos}
theorem pi_itemsT {elts : List Expr} {kk : Nat} {tpos : Pos} (he : PE X e td) (hbase : attributeBase e "items" X.env (eval e X.env) = eval e X.env := by rfl) (hline : (apos.endLine == cpos.line) = true := by rfl) :
    PI X (.Tuple elts kk tpos) (.Call (.Attribute e "items" apos) [] [] cpos) (iItemsT td) := by
  constructor
  intro pins s σ H R I h
  refine wpAny_Call_method (T := "dict") (id := "dict.items") hbase rfl hline F.plainAttrs_dict F.slot_dict_items F.type_dict_items (thn (he.run pins s σ H _ I h) ?_)
  rintro u s1 ⟨x, H1, I1, rx, d, o, kvs, rfl, hd, q⟩
  obtain rfl : u = Value.ref d := rx
  obtain ⟨hs, es, ep, hdt, raw, sz, ent⟩ := frzT_all I1 hd
  have ty := raw.typeIs
  refine ⟨ty, ?_, ?_⟩
  · obtain ⟨ob, g1, g2, g3⟩ := raw
    intro o' e'
    cases e'
    exact ⟨ob, g1, g2.2.1⟩
  · have I2 : Inv X pins σ H1 { s1 with heap := s1.heap.push { cls := .type "dict_items", data := .fields #[.ref d] } } := I1.kept (t' := s1.toks) fun b ob q => Heap.get?_push_of_some _ q
    have fin : wpAny (model X.prog X.w) X.A (pyIter (.ref s1.heap.objs.size)) (PIE X pins σ (.Tuple elts kk tpos) R) X.xe { s1 with heap := s1.heap.push { cls := .type "dict_items", data := .fields #[.ref d] } } := by
      refine wpAny_pyIter_items_raw (d := d) (es := es) (ep := ep) ⟨_, Heap.get?_push_size _ rfl, rfl, rfl⟩ (raw.push _) (pi_one (tk := s1.toks) I2 _ (turn_itemsT _ hdt) ⟨.none, .none, ?_⟩ q)
      rw [← sz]
      exact Heap.get?_push_size _ rfl
    show wpAny _ _ (callWith cpos (.builtin "dict.items") [.ref d] [] []) _ X.xe s1
    exact method_meetsIn F.slot_dict_items F.entry_dict_items rfl (PySem.evalArgs_none ⟨rfl, ty, F.args_dict_items_1 _, _, meets_dict_items_raw d hs, ⟨es, ep, raw⟩, fin⟩)
/-- {k: v}, k a tuple of ints and texts; the new dict stands empty while the pair is made -/
def tDisp1 (tk tv : TE) : TE := fun σ H Q => ∀ p, H p = none → tk σ (upd H p (.dT [])) fun x H1 => tv σ H1 fun v H2 => H2 p = some (.dT []) ∧ ∃ (b : Addr) (k : List Key), x = .ref b ∧ H2 b = some (.tup (k.map kV)) ∧ Q (.ref p) (upd H2 p (.dT [(k, v)]))
theorem pe_disp1 {pos : Pos} {k v : Expr} {tk tv : TE} (hu : X.A.units + 2 < cLine) (hk : PE X k tk) (hv : PE X v tv) : PE X (.Dict [some k] [v] pos) (tDisp1 tk tv) := by
  constructor
  intro pins s σ H Q I q
  have nw := I.hok.fresh (Nat.le_refl s.heap.objs.size)
  have I1 := I.laid (a := s.heap.objs.size) (o := .dT []) (h' := s.heap.push { cls := .type "dict", data := .dict #[] }) (t' := s.toks) (fun _ _ q => Heap.get?_push_of_some _ q) (Nat.le_refl _) (dt_empty s.heap I.big)
  rw [arm_eval_Dict, zip_pairTrees [some k] [v] X.env pos rfl rfl, dictDisplay_pairs (pairTrees [some k] [v] X.env pos) (fun z => nomatch z) (show 1 < 17 by decide)]
  refine wpAny_bind (wpAny_standAt (wpAny_bind (wpAny_subDictH (knd := tupleKind (mixKind X.prog X.w)) (show X.A.units < cLine by omega) (show 1 ≤ 15 by decide) ?_)))
  refine pairTrees_cons_walk (thn (hk.run pins _ σ _ _ I1 (q _ nw)) ?_)
  rintro u s2 ⟨x, H2, I2, rx, q2⟩
  refine thn (hv.run pins s2 σ H2 _ I2 q2) ?_
  rintro u' s3 ⟨y, H3, I3, ry, e, b, ks, rfl, hb, q3⟩
  refine pairTrees_nil_walk ?_
  obtain ⟨z, hd, xs, rel, dd⟩ := dt_of I3.hok e
  cases rel
  refine ⟨[(ks, b, u')], ⟨rx, rfl, key_of I3.hok hb, trivial⟩, dd, fun h' tk dd' hs => wpAny_pure ⟨.ref s.heap.objs.size, _, ?_, rfl, q3⟩⟩
  obtain ⟨o, es, ep, hq, h2, h3, h4, _, h5⟩ := dd'
  refine d_write I3 (by rw [e]; exact True.intro) hs ⟨o, hq⟩ ⟨(by decide : 1 ≤ sizeLine), hd, _, .cons ⟨rfl, ?_, ry⟩ .nil, o, es, ep, hq, h2, h3, h4, h5⟩
  rw [upd_ne (ne_of hb e fun z => nomatch z)]
  exact hb
/-- the view d.values() at p -/
def valsO (p d : Addr) : HO := .ext fun h => h.IsValuesView p d
/-- d.values() -/
def rValsT : V → List V → Hp → VK → Prop := fun x xs H Q => ∃ (a : Addr) (kvs : List (List Key × V)), x = .ref a ∧ xs = [] ∧ H a = some (.dT kvs) ∧ ∀ p, H p = none → Q (.ref p) (upd H p (valsO p a))
theorem mt_valsT : MtR X "dict.values" rValsT := by
  rintro pins s σ H x xs v us Q I rx rxs ⟨a, kvs, rfl, rfl, ha, q⟩
  cases rx
  cases rxs
  obtain ⟨z, hd, xs', rel, o, es, ep, ho, hx, hdat, _⟩ := dt_of I.hok ha
  have raw : s.heap.DictRaw a es ep := ⟨o, ho, hx, hdat⟩
  have at' : (s.heap.push { cls := .type "dict_values", data := .fields #[.ref a] }).get? s.heap.objs.size = some { cls := .type "dict_values", data := .fields #[.ref a] } := Heap.get?_push_size _ rfl
  refine call_meetsIn F.slot_dict_values raw.typeIs F.entry_dict_values (F.args_dict_values_1 _) (meets_dict_values_raw a hd) ⟨⟨es, ep, raw⟩, ?_⟩
  exact ⟨.ref s.heap.objs.size, upd H s.heap.objs.size (valsO s.heap.objs.size a), I.laid (t' := s.toks) (fun b u e => Heap.get?_push_of_some _ e) (Nat.le_refl _) ⟨⟨_, at', rfl, rfl⟩, ⟨_, at'⟩, fun h1 h2 ⟨o, ho, r⟩ k => ⟨o, k o ho, r⟩⟩, rfl, q _ (I.hok.fresh (Nat.le_refl _))⟩
theorem kt_vals {H : Hp} : ∀ {kvs : List (List Key × V)} {xs : List (List Key × Addr × Value)}, KT H kvs xs → Vals (kvs.map (·.2)) (xs.map fun x => x.2.2)
  | _, _, .nil => .nil
  | _, _, .cons h t => .cons h.2.2 (kt_vals t)
/-- list(d.values()) -/
theorem call_list_valsT (hc : X.calm = true) : CallR X (.type "list") (fun xs H Q => ∃ p d kvs, xs = [V.ref p] ∧ H p = some (valsO p d) ∧ H d = some (.dT kvs) ∧ ∀ r, H r = none → Q (.ref r) (upd H r (.lst (kvs.map (·.2))))) := by
  rintro pins s σ H xs us Q I r ⟨p, d, kvs, rfl, hp, hd, q⟩
  rw [Vals.ref1 r]
  obtain ⟨z, hs, xs, rel, o, es, ep, ho, hx, hdt, he, _⟩ := dt_of I.hok hd
  have view : s.heap.IsValuesView p d := (I.hok p _ hp).1
  have l1 : es.size = xs.length := size_of_entries he
  have l2 : kvs.length = xs.length := Paired.length rel
  refine PySem.W.kdl_call (KdlSrc.rawValues (r := p) (d := d) (es := es) (ep := ep)) (I.ok.hd hc) ⟨view, o, ho, hx, hdt⟩ (by omega) fun h' tk acc c kp at' it => ?_
  have ea : acc.toList = xs.map fun x => x.2.2 := by
    refine List.ext_getElem? fun j => ?_
    rw [List.getElem?_map]
    have la : acc.toList.length = xs.length := by rw [Array.length_toList, it.1, l1]
    rcases Nat.lt_or_ge j xs.length with lt | ge
    · have e1 : acc.toList[j]? = some acc.toList[j] := List.getElem?_eq_getElem (by omega)
      obtain ⟨hi, hv⟩ := it.2 j acc.toList[j] (by rw [← Array.getElem?_toList]; exact e1)
      have en := entry_at he j
      rw [Array.getElem?_eq_getElem hi, List.getElem?_eq_getElem lt] at en
      rw [e1, hv, Option.some.inj en, List.getElem?_eq_getElem lt]
      rfl
    · rw [List.getElem?_eq_none (by omega), List.getElem?_eq_none ge]
      rfl
  exact ⟨.ref _, upd H s.heap.objs.size (.lst (kvs.map (·.2))), I.laid (t' := tk) kp (Nat.le_refl _) ⟨by rw [List.length_map]; exact z, xs.map fun x => x.2.2, c, kt_vals rel, by rw [← ea, Array.toArray_toList]; exact at'⟩, rfl, q _ (I.hok.fresh (Nat.le_refl _))⟩
end
end L2

namespace Half
open PySem PySem.Spec PyProof.Rows L2
/-! ### costs, and their order -/
abbrev Cost : Type := Int × Int × List Int
abbrev Stt : Type := Int × Int
def costD (c : Cost) : PyData := .tuple [.int c.1, .int c.2.1, .tuple (c.2.2.map .int)]
def cLt (a b : Cost) : Prop := a.1 < b.1 ∨ (a.1 = b.1 ∧ (a.2.1 < b.2.1 ∨ (a.2.1 = b.2.1 ∧ a.2.2 < b.2.2)))
instance (a b : Cost) : Decidable (cLt a b) := by unfold cLt; exact inferInstance
theorem il_irr : ∀ l : List Int, ¬ l < l := fun l h => List.lt_irrefl l h
theorem il_tr {a b c : List Int} (h1 : a < b) (h2 : b < c) : a < c := List.lt_trans h1 h2
theorem il_tot {a b : List Int} (h1 : ¬ a < b) (h2 : ¬ b < a) : a = b := List.le_antisymm (List.not_lt.mp h2) (List.not_lt.mp h1)
theorem cLt_irr (a : Cost) : ¬ cLt a a := by
  unfold cLt
  rintro (h | ⟨_, h | ⟨_, h⟩⟩)
  · omega
  · omega
  · exact il_irr _ h
theorem cLt_tr {a b c : Cost} (h1 : cLt a b) (h2 : cLt b c) : cLt a c := by
  unfold cLt at *
  rcases h1 with h1 | ⟨e1, h1 | ⟨e2, h1⟩⟩ <;> rcases h2 with h2 | ⟨e3, h2 | ⟨e4, h2⟩⟩
  · exact .inl (by omega)
  · exact .inl (by omega)
  · exact .inl (by omega)
  · exact .inl (by omega)
  · exact .inr ⟨by omega, .inl (by omega)⟩
  · exact .inr ⟨by omega, .inl (by omega)⟩
  · exact .inl (by omega)
  · exact .inr ⟨by omega, .inl (by omega)⟩
  · exact .inr ⟨by omega, .inr ⟨by omega, il_tr h1 h2⟩⟩
theorem cLt_tot {a b : Cost} (h1 : ¬ cLt a b) (h2 : ¬ cLt b a) : a = b := by
  obtain ⟨a1, a2, a3⟩ := a
  obtain ⟨b1, b2, b3⟩ := b
  unfold cLt at *
  dsimp only at *
  have e1 : a1 = b1 := by omega
  have e2 : a2 = b2 := by omega
  subst e1 e2
  have e3 : a3 = b3 := il_tot (fun z => h1 (.inr ⟨rfl, .inr ⟨rfl, z⟩⟩)) fun z => h2 (.inr ⟨rfl, .inr ⟨rfl, z⟩⟩)
  rw [e3]
/-- a not above b, b not above c -/
theorem cLe_tr {a b c : Cost} (h1 : ¬ cLt b a) (h2 : ¬ cLt c b) : ¬ cLt c a := fun h => by
  by_cases q : cLt a b
  · exact h2 (cLt_tr h q)
  · exact h2 (by rw [← cLt_tot q h1]; exact h)
theorem eqv_not {x y : PyData} (al : PySem.W.alike x y = true) : (if PyData.eqv x y = true then false else PySem.W.dataLt x y) = PySem.W.dataLt x y := by
  cases c : PyData.eqv x y with
  | false => rw [if_neg (by decide)]
  | true =>
    rw [if_pos rfl]
    unfold PySem.W.dataLt
    rw [(PySem.W.toks_eqv x y al).1 c]
    exact (PyProof.Rows.lex_irrefl _).symm
theorem cost_lt (a b : Cost) : PySem.W.dataLt (costD a) (costD b) = decide (cLt a b) := by
  obtain ⟨a1, a2, a3⟩ := a
  obtain ⟨b1, b2, b3⟩ := b
  have z : PyProof.Rows.lexLt PyProof.Rows.itemOrd (PySem.W.keyToksAll []) (PySem.W.keyToksAll []) = false := PyProof.Rows.lex_irrefl _
  have al : PySem.W.alike (.tuple (a3.map .int)) (.tuple (b3.map .int)) = true := by simp only [PySem.W.alike]; exact PySem.W.alike_ints a3 b3
  have last : PySem.W.dataLt (.tuple (a3.map .int)) (.tuple (b3.map .int)) = decide (a3 < b3) := by
    rw [PySem.W.dataLt_tuple]
    exact PySem.W.dataLt_ints a3 b3
  unfold costD cLt
  dsimp only
  rw [PySem.W.dataLt_tuple, PySem.W.dataLt_cons (by simp [PySem.W.alike]), PySem.W.dataLt_cons (by simp [PySem.W.alike]), PySem.W.dataLt_cons al, z, eqv_not al, last, PySem.W.dataLt_int, PySem.W.dataLt_int]
  simp only [PyData.eqv, beq_iff_eq]
  by_cases h1 : a1 = b1 <;> by_cases h2 : a2 = b2 <;> simp [h1, h2]
theorem cost_alike (a b : Cost) : PySem.W.alike (costD a) (costD b) = true := by
  unfold costD
  have := PySem.W.alike_ints a.2.2 b.2.2
  simp [PySem.W.alike, PySem.W.alikeAll, this]
theorem cost_all (cs : List Cost) : PySem.W.AlikeAll (cs.map costD) := by
  refine ⟨fun x hx y hy => ?_, fun x hx => ?_⟩
  · obtain ⟨a, _, rfl⟩ := List.mem_map.mp hx
    obtain ⟨b, _, rfl⟩ := List.mem_map.mp hy
    exact cost_alike a b
  · obtain ⟨a, _, rfl⟩ := List.mem_map.mp hx
    exact fun z => nomatch z
theorem cost_depth (cs : List Cost) : PyData.depthAll (cs.map costD) ≤ 3 := by
  induction cs with
  | nil => simp [PyData.depthAll]
  | cons c cs ih =>
    have h : (costD c).depth ≤ 3 := by
      unfold costD
      have := PySem.W.depth_ints c.2.2
      simp [PyData.depth, PyData.depthAll, this]
    simp only [List.map_cons, PyData.depthAll]
    omega
/-! ### all ways -/
def ways (ns : List Int) (es : List (Int × Int)) (i : Nat) (x : Stt × Cost) : List (Stt × Cost) :=
  (if i + 1 < ns.length then [((x.1.1, (edit es i).getD x.1.2), x.2)] else []) ++ [true, false].map fun kp =>
    ((ns.getD i 0, (one x.1.1 ((edit es i).getD x.1.2) (ns.getD i 0) kp).1), (x.2.1 + (if (one x.1.1 ((edit es i).getD x.1.2) (ns.getD i 0) kp).2 = true then 1 else 0), x.2.2.1 + 1, x.2.2.2 ++ [(i : Int)]))
def runs (ns : List Int) (es : List (Int × Int)) : Nat → List (Stt × Cost)
  | 0 => [((0, 0), (0, 0, []))]
  | i + 1 => (runs ns es i).flatMap (ways ns es i)
theorem ways_len {ns : List Int} {es : List (Int × Int)} {i : Nat} {x : Stt × Cost} : (ways ns es i x).length ≤ 3 := by
  unfold ways
  rw [List.length_append, List.length_map]
  split <;> simp
def Wf (R : List (Stt × Cost)) : Prop := ∀ x ∈ R, x.2.2.1 = (x.2.2.2.length : Int)
theorem ways_wf {ns : List Int} {es : List (Int × Int)} {i : Nat} {x : Stt × Cost} (h : x.2.2.1 = (x.2.2.2.length : Int)) : Wf (ways ns es i x) := by
  intro y hy
  unfold ways at hy
  rcases List.mem_append.mp hy with q | q
  · split at q
    · rw [List.mem_singleton.mp q]
      exact h
    · cases q
  · obtain ⟨kp, _, rfl⟩ := List.mem_map.mp q
    dsimp only
    rw [List.length_append, h]
    simp
theorem runs_wf {ns : List Int} {es : List (Int × Int)} : ∀ i, Wf (runs ns es i)
  | 0, x, h => by
    rw [List.mem_singleton.mp h]
    rfl
  | i + 1, x, h => by
    obtain ⟨y, hy, hx⟩ := List.mem_flatMap.mp h
    exact ways_wf (runs_wf i y hy) x hx
/-! ### the least of each state -/
structure Rep (L R : List (Stt × Cost)) : Prop where
  nd : (L.map (·.1)).Nodup
  sub : ∀ x ∈ L, x ∈ R
  least : ∀ x ∈ L, ∀ c, (x.1, c) ∈ R → ¬ cLt c x.2
  all : ∀ x ∈ R, ∃ c, (x.1, c) ∈ L
def getL (L : List (Stt × Cost)) (k : Stt) : Option Cost := (L.find? fun x => decide (x.1 = k)).map (·.2)
def putL (L : List (Stt × Cost)) (k : Stt) (c : Cost) : List (Stt × Cost) := match getL L k with
  | some _ => L.map fun x => if x.1 = k then (k, c) else x
  | none => L ++ [(k, c)]
def lessC (o c : Cost) : Cost := if cLt o c then o else c
theorem getL_mem {L : List (Stt × Cost)} {k : Stt} {c : Cost} (h : getL L k = some c) : (k, c) ∈ L := by
  unfold getL at h
  cases q : L.find? fun x => decide (x.1 = k) with
  | none => rw [q] at h; cases h
  | some x =>
    rw [q] at h
    cases h
    have e : x.1 = k := of_decide_eq_true (List.find?_some (p := fun x : Stt × Cost => decide (x.1 = k)) q)
    rw [← e]
    exact List.mem_of_find?_eq_some q
theorem getL_none {L : List (Stt × Cost)} {k : Stt} (h : getL L k = none) : ∀ x ∈ L, x.1 ≠ k := by
  unfold getL at h
  rw [Option.map_eq_none_iff, List.find?_eq_none] at h
  intro x hx e
  exact h x hx (decide_eq_true e)
theorem nd_one {L : List (Stt × Cost)} (nd : (L.map (·.1)).Nodup) {k : Stt} {c c' : Cost} (h : (k, c) ∈ L) (h' : (k, c') ∈ L) : c = c' := by
  induction L with
  | nil => cases h
  | cons x L ih =>
    rw [List.map_cons, List.nodup_cons] at nd
    rcases List.mem_cons.mp h with e | e <;> rcases List.mem_cons.mp h' with e' | e'
    · rw [← e] at e'
      exact (Prod.mk.inj e').2.symm
    · exact absurd (List.mem_map.mpr ⟨_, e', rfl⟩) (by rw [← e] at nd; exact nd.1)
    · exact absurd (List.mem_map.mpr ⟨_, e, rfl⟩) (by rw [← e'] at nd; exact nd.1)
    · exact ih nd.2 e e'
theorem rep_nil : Rep [] [] := ⟨List.nodup_nil, (fun _ h => nomatch h), (fun _ h => nomatch h), (fun _ h => nomatch h)⟩
theorem rep_put {L R : List (Stt × Cost)} {k : Stt} {c : Cost} (h : Rep L R) : Rep (putL L k (lessC ((getL L k).getD c) c)) (R ++ [(k, c)]) := by
  unfold putL
  cases q : getL L k with
  | none =>
    have nk := getL_none q
    have e : lessC c c = c := by unfold lessC; rw [if_neg (cLt_irr c)]
    show Rep (L ++ [(k, lessC c c)]) _
    rw [e]
    refine ⟨?_, fun x hx => ?_, fun x hx c' hc => ?_, fun x hx => ?_⟩
    · rw [List.map_append]
      refine List.nodup_append.mpr ⟨h.nd, (List.nodup_cons.mpr ⟨fun z => (nomatch z), List.nodup_nil⟩), fun a ha b hb => ?_⟩
      obtain ⟨x, hx, rfl⟩ := List.mem_map.mp ha
      rw [List.mem_singleton.mp hb]
      exact nk x hx
    · rcases List.mem_append.mp hx with q | q
      · exact List.mem_append_left _ (h.sub x q)
      · exact List.mem_append_right _ q
    · rcases List.mem_append.mp hx with q | q
      · rcases List.mem_append.mp hc with p | p
        · exact h.least x q c' p
        · exact absurd (Prod.mk.inj (List.mem_singleton.mp p)).1 (nk x q)
      · rw [List.mem_singleton.mp q] at hc ⊢
        rcases List.mem_append.mp hc with p | p
        · obtain ⟨c2, h2⟩ := h.all _ p
          exact absurd rfl (nk _ h2)
        · rw [(Prod.mk.inj (List.mem_singleton.mp p)).2]
          exact cLt_irr c
    · rcases List.mem_append.mp hx with p | p
      · obtain ⟨c2, h2⟩ := h.all x p
        exact ⟨c2, List.mem_append_left _ h2⟩
      · rw [List.mem_singleton.mp p]
        exact ⟨c, List.mem_append_right _ (List.mem_singleton.mpr rfl)⟩
  | some o =>
    have ho := getL_mem q
    show Rep (L.map fun x => if x.1 = k then (k, lessC o c) else x) _
    have fst : ∀ x : Stt × Cost, (if x.1 = k then (k, lessC o c) else x).1 = x.1 := fun x => by
      split
      · rename_i e; exact e.symm
      · rfl
    have le1 : ¬ cLt o (lessC o c) := by
      unfold lessC
      split
      · exact cLt_irr o
      · assumption
    have le2 : ¬ cLt c (lessC o c) := by
      unfold lessC
      split
      · rename_i z; exact fun y => cLt_irr _ (cLt_tr z y)
      · exact cLt_irr c
    refine ⟨?_, fun x hx => ?_, fun x hx c' hc => ?_, fun x hx => ?_⟩
    · rw [List.map_map]
      have : ((fun x : Stt × Cost => x.1) ∘ fun x => if x.1 = k then (k, lessC o c) else x) = fun x => x.1 := funext fst
      rw [this]
      exact h.nd
    · obtain ⟨y, hy, rfl⟩ := List.mem_map.mp hx
      split
      · rename_i e
        unfold lessC
        split
        · exact List.mem_append_left _ (h.sub _ ho)
        · exact List.mem_append_right _ (List.mem_singleton.mpr rfl)
      · exact List.mem_append_left _ (h.sub y hy)
    · obtain ⟨y, hy, rfl⟩ := List.mem_map.mp hx
      rw [fst y] at hc
      split
      · rename_i e
        rw [e] at hc
        rcases List.mem_append.mp hc with p | p
        · exact cLe_tr le1 (h.least _ ho c' p)
        · rw [(Prod.mk.inj (List.mem_singleton.mp p)).2]
          exact le2
      · rename_i e
        rcases List.mem_append.mp hc with p | p
        · exact h.least y hy c' p
        · exact absurd (Prod.mk.inj (List.mem_singleton.mp p)).1 e
    · rcases List.mem_append.mp hx with p | p
      · obtain ⟨c2, h2⟩ := h.all x p
        refine ⟨(if (x.1, c2).1 = k then (k, lessC o c) else (x.1, c2)).2, List.mem_map.mpr ⟨_, h2, ?_⟩⟩
        exact Prod.ext (fst (x.1, c2)) rfl
      · rw [List.mem_singleton.mp p]
        exact ⟨lessC o c, List.mem_map.mpr ⟨_, ho, by rw [if_pos rfl]⟩⟩
theorem il_app {z : Int} : ∀ {a b : List Int}, a < b → a.length = b.length → a ++ [z] < b ++ [z]
  | [], [], h, _ => absurd h (il_irr _)
  | [], _ :: _, _, l => by cases l
  | _ :: _, [], _, l => by cases l
  | x :: a, y :: b, h, l => by
    have h : List.Lex (· < ·) (x :: a) (y :: b) := h
    show List.Lex (· < ·) (x :: (a ++ [z])) (y :: (b ++ [z]))
    cases h with
    | rel r => exact .rel r
    | cons r => exact .cons (il_app (z := z) r (Nat.succ.inj l))
/-- what follows from a lesser cost is the lesser -/
theorem ways_mono {ns : List Int} {es : List (Int × Int)} {i : Nat} {k : Stt} {c c0 : Cost} (wc : c.2.1 = (c.2.2.length : Int)) (w0 : c0.2.1 = (c0.2.2.length : Int)) (le : ¬ cLt c c0) {y : Stt × Cost} (hy : y ∈ ways ns es i (k, c)) :
    ∃ c1, (y.1, c1) ∈ ways ns es i (k, c0) ∧ ¬ cLt y.2 c1 := by
  unfold ways at hy ⊢
  rcases List.mem_append.mp hy with q | q
  · split at q
    · rename_i lt
      rw [List.mem_singleton.mp q]
      exact ⟨c0, List.mem_append_left _ (by rw [if_pos lt]; exact List.mem_singleton.mpr rfl), le⟩
    · cases q
  · obtain ⟨kp, hk, rfl⟩ := List.mem_map.mp q
    refine ⟨_, List.mem_append_right _ (List.mem_map.mpr ⟨kp, hk, rfl⟩), ?_⟩
    dsimp only
    generalize (if (one k.1 ((edit es i).getD k.2) (ns.getD i 0) kp).2 = true then (1 : Int) else 0) = b
    by_cases same : c0 = c
    · rw [same]
      exact cLt_irr _
    · have lt : cLt c0 c := by
        by_cases q : cLt c0 c
        · exact q
        · exact absurd (cLt_tot q le) same
      intro z
      have up : cLt (c0.1 + b, c0.2.1 + 1, c0.2.2 ++ [(i : Int)]) (c.1 + b, c.2.1 + 1, c.2.2 ++ [(i : Int)]) := by
        unfold cLt at lt ⊢
        dsimp only
        rcases lt with h | ⟨e1, h | ⟨e2, h⟩⟩
        · exact .inl (by omega)
        · exact .inr ⟨by omega, .inl (by omega)⟩
        · exact .inr ⟨by omega, .inr ⟨by omega, il_app h (by omega)⟩⟩
      exact cLt_irr _ (cLt_tr z up)
theorem rep_flat {ns : List Int} {es : List (Int × Int)} {i : Nat} {L M R : List (Stt × Cost)} (wR : Wf R) (h : Rep L R) (m : Rep M (L.flatMap (ways ns es i))) : Rep M (R.flatMap (ways ns es i)) := by
  have corr : ∀ y ∈ R.flatMap (ways ns es i), ∃ c1, (y.1, c1) ∈ L.flatMap (ways ns es i) ∧ ¬ cLt y.2 c1 := fun y hy => by
    obtain ⟨x, hx, hw⟩ := List.mem_flatMap.mp hy
    obtain ⟨c0, h0⟩ := h.all x hx
    obtain ⟨c1, h1, h2⟩ := ways_mono (k := x.1) (c := x.2) (wR x hx) (wR _ (h.sub _ h0)) (h.least _ h0 x.2 hx) hw
    exact ⟨c1, List.mem_flatMap.mpr ⟨_, h0, h1⟩, h2⟩
  refine ⟨m.nd, fun x hx => ?_, fun x hx c hc => ?_, fun x hx => ?_⟩
  · obtain ⟨y, hy, hw⟩ := List.mem_flatMap.mp (m.sub x hx)
    exact List.mem_flatMap.mpr ⟨y, h.sub y hy, hw⟩
  · obtain ⟨c1, h1, h2⟩ := corr _ hc
    exact cLe_tr (m.least x hx c1 h1) h2
  · obtain ⟨c1, h1, _⟩ := corr x hx
    exact m.all (x.1, c1) h1
end Half

namespace Half
open PySem PySem.Spec PyProof.Rows L2
/-! ### the dict of the least costs -/
def Kt (K : PySem.W.Frag) (H H' : Hp) : Prop := ∀ a xs, SqT K H a xs → SqT K H' a xs
def CostAt (K : PySem.W.Frag) (H : Hp) (t : Addr) (c : Cost) : Prop := ∃ ti, SqT K H t [.int c.1, .int c.2.1, .ref ti] ∧ SqT K H ti (c.2.2.map V.int)
def keyB (k : Stt) : List Key := [.inl k.1, .inl k.2]
def EntB (K : PySem.W.Frag) (H : Hp) (p : List Key × V) (q : Stt × Cost) : Prop := p.1 = keyB q.1 ∧ ∃ t, p.2 = .ref t ∧ CostAt K H t q.2
def WayAt (K : PySem.W.Frag) (H : Hp) (p : Addr) (q : Stt × Cost) : Prop := ∃ t, SqT K H p [.int q.1.1, .int q.1.2, .ref t] ∧ CostAt K H t q.2
theorem keyB_inj {k k' : Stt} (h : keyB k = keyB k') : k = k' := by
  unfold keyB at h
  injection h with h1 h2
  injection h2 with h2 _
  exact Prod.ext (Sum.inl.inj h1) (Sum.inl.inj h2)
section
variable {K : PySem.W.Frag} {H H' : Hp}
theorem Kt.same (s : Same H H') : Kt K H H' := fun _ _ h => s.sqT h
theorem Kt.trans {H'' : Hp} (a : Kt K H H') (b : Kt K H' H'') : Kt K H H'' := fun _ _ h => b _ _ (a _ _ h)
theorem Kt.put {d : Addr} {u o : HO} (hd : H d = some u) (n1 : ∀ xs, u ≠ .tup xs) (n2 : ∀ ob xs, u ≠ .frz ob (.tup xs)) : Kt K H (upd H d o) := fun a xs h => by
  rcases h with (h | ⟨q, h⟩) | h
  · exact .inl (.inl (by rw [upd_ne (ne_of h hd fun z => n1 xs z.symm)]; exact h))
  · exact .inl (.inr ⟨q, by rw [upd_ne (ne_of h hd fun z => n2 q xs z.symm)]; exact h⟩)
  · exact .inr h
theorem CostAt.kt (k : Kt K H H') {t : Addr} {c : Cost} (h : CostAt K H t c) : CostAt K H' t c := by
  obtain ⟨ti, h1, h2⟩ := h
  exact ⟨ti, k _ _ h1, k _ _ h2⟩
theorem CostAt.dp {t : Addr} {c : Cost} (h : CostAt K H t c) : Dp K H (.ref t) (costD c) := by
  obtain ⟨ti, h1, h2⟩ := h
  exact .tup h1 (.cons (.int _) (.cons (.int _) (.cons (.tup h2 (dpI c.2.2)) .nil)))
where dpI : ∀ ns : List Int, DpAll K H (ns.map V.int) (ns.map PyData.int)
  | [] => .nil
  | n :: ns => .cons (.int n) (dpI ns)
theorem EntB.kt (k : Kt K H H') {p : List Key × V} {q : Stt × Cost} (h : EntB K H p q) : EntB K H' p q := by
  obtain ⟨e, t, e2, h⟩ := h
  exact ⟨e, t, e2, h.kt k⟩
theorem WayAt.kt (k : Kt K H H') {p : Addr} {q : Stt × Cost} (h : WayAt K H p q) : WayAt K H' p q := by
  obtain ⟨t, h1, h2⟩ := h
  exact ⟨t, k _ _ h1, h2.kt k⟩
theorem pair_imp {α β : Type} {R S : α → β → Prop} (h : ∀ a b, R a b → S a b) : ∀ {xs : List α} {ys : List β}, Paired R xs ys → Paired S xs ys
  | _, _, .nil => .nil
  | _, _, .cons a t => .cons (h _ _ a) (pair_imp h t)
theorem pair_app {α β : Type} {R : α → β → Prop} : ∀ {xs : List α} {ys : List β} {xs' : List α} {ys' : List β}, Paired R xs ys → Paired R xs' ys' → Paired R (xs ++ xs') (ys ++ ys')
  | _, _, _, _, .nil, b => b
  | _, _, _, _, .cons a t, b => .cons a (pair_app t b)
theorem ent_get {kvs : List (List Key × V)} {L : List (Stt × Cost)} {k : Stt} (h : Paired (EntB K H) kvs L) : (valV kvs (keyB k) = none ∧ getL L k = none) ∨ ∃ t c, valV kvs (keyB k) = some (.ref t) ∧ getL L k = some c ∧ CostAt K H t c := by
  induction h with
  | nil => exact .inl ⟨rfl, rfl⟩
  | @cons p q ps qs r _ ih =>
    obtain ⟨e, t, e2, hc⟩ := r
    by_cases same : q.1 = k
    · refine .inr ⟨t, q.2, ?_, ?_, hc⟩
      · rw [valV_pos (by rw [e, same]), e2]
      · unfold getL
        rw [List.find?_cons_of_pos (by rw [same]; simp)]
        rfl
    · have n1 : ¬ p.1 = keyB k := fun z => same (keyB_inj (e ▸ z))
      have e3 : getL (q :: qs) k = getL qs k := by
        unfold getL
        rw [List.find?_cons_of_neg (by simp [same])]
      rw [valV_neg n1, e3]
      exact ih
theorem ent_put {kvs : List (List Key × V)} {L : List (Stt × Cost)} {k : Stt} {t : Addr} {c : Cost} (h : Paired (EntB K H) kvs L) (hc : CostAt K H t c) : Paired (EntB K H) (putK kvs (keyB k) (.ref t)) (putL L k c) := by
  rcases ent_get (k := k) h with ⟨e1, e2⟩ | ⟨t0, c0, e1, e2, _⟩
  · unfold putL
    rw [putK_new _ e1, e2]
    exact pair_app h (.cons ⟨rfl, t, rfl, hc⟩ .nil)
  · unfold putL putK
    rw [valV_any, e1, e2, if_pos (show (some (V.ref t0)).isSome = true from rfl)]
    have go : ∀ {kvs : List (List Key × V)} {L : List (Stt × Cost)}, Paired (EntB K H) kvs L → Paired (EntB K H) (kvs.map fun kv => if kv.1 = keyB k then (kv.1, .ref t) else kv) (L.map fun x => if x.1 = k then (k, c) else x) := fun {kvs L} h => by
      induction h with
      | nil => exact .nil
      | @cons p q ps qs r _ ih =>
        refine .cons ?_ ih
        obtain ⟨e, t', e2, hc'⟩ := r
        dsimp only
        by_cases same : q.1 = k
        · rw [if_pos (show p.1 = keyB k by rw [e, same]), if_pos same]
          exact ⟨by rw [e, same], t, rfl, hc⟩
        · rw [if_neg (fun z => same (keyB_inj (e ▸ z))), if_neg same]
          exact ⟨e, t', e2, hc'⟩
    exact go h
theorem putL_len {L : List (Stt × Cost)} {k : Stt} {c : Cost} : (putL L k c).length ≤ L.length + 1 := by
  unfold putL
  split
  · rw [List.length_map]; omega
  · rw [List.length_append]; exact Nat.le_refl _
end
/-! ### best_behind -/
abbrev sBb : Stmt := top 16
abbrev BbN : List Str := ["best", "at", "contents", "edits", "later", "noted", "present", "number", "length", "indexes", "content", "ways", "answer", "kept", "asked", "now_noted", "now_present", "cost", "key"]
theorem scBb : FnScope BbN ["best", "at", "contents", "edits"] (defScope sBb) := ⟨rfl, rfl, rfl, by decide +kernel, rfl, by decide +kernel, by decide +kernel⟩
def forBody (s : Stmt) : List Stmt := match s with
  | .For _ _ b _ _ => b
  | _ => []
def nth (l : List Stmt) (i : Nat) : Stmt := l.getD i (.Pass ⟨0, 0, 0, 0⟩)
abbrev bBody : List Stmt := forBody (nth (defBody sBb) 1)
def SameBut (r : Addr) (H H' : Hp) : Prop := ∀ b o, b ≠ r → H b = some o → H' b = some o
section
variable {P : Program} {w : World} {K : PySem.W.Frag} {mg : Str → Option Value} {base : Heap} {CN CA : Addr}
theorem bb_c {f : Addr} {cdv : Value} {A : Around} {outer : List Env} {sh : Shared} {H0 : Hp} {E : XK} (gM : mg "min" = none) (hr : Room 2 (A.deeper (envOfC "best_behind" (defScope sBb) sh.heap.objs.size f cdv))) (nd : BbN.Nodup) :
    ∃ t, PSs (cxOf CX0 P w K mg base BbN "best_behind" (defScope sBb) f cdv A outer sh H0 E).nox (bBody.drop 4) t ∧ ∀ (D' : Ends) (H : Hp) (l wl : Addr) (ps : List Addr) (WS M R : List (Stt × Cost)) (kvs : List (List Key × V)) (x0 x1 x2 x3 x5 x6 x7 x8 x9 x10 x12 x13 x14 x15 x16 x17 x18 : Option V),
      H l = some (.dT kvs) → Paired (EntB K H) kvs M → Rep M R → M.length ≤ 1000000 → H wl = some (.lst (ps.map V.ref)) → Paired (WayAt K H) ps WS → WS.length ≤ 3 →
      (∀ H' kvs' M' x15 x16 x17 x18, SameBut l H H' → H' l = some (.dT kvs') → Paired (EntB K H') kvs' M' → Rep M' (R ++ WS) → M'.length ≤ M.length + WS.length → D'.nx [x0, x1, x2, x3, some (.ref l), x5, x6, x7, x8, x9, x10, some (.ref wl), x12, x13, x14, x15, x16, x17, x18] H') →
      t D' [x0, x1, x2, x3, some (.ref l), x5, x6, x7, x8, x9, x10, some (.ref wl), x12, x13, x14, x15, x16, x17, x18] H := by
  have hu : (A.deeper (envOfC "best_behind" (defScope sBb) sh.heap.objs.size f cdv)).units + 1 < cLine := by have := hr.un; omega
  have hu2 : (A.deeper (envOfC "best_behind" (defScope sBb) sh.heap.objs.size f cdv)).units + 40 < cLine := by have := hr.un; omega
  refine ⟨_, pss_one (ps_for PassesOwn.never rfl (pi_list (pv 11)) (pg_tup rfl (pgs_cons (pg_name (i := 15) nd rfl (Or.inl rfl)) (pgs_cons (pg_name (i := 16) nd rfl (Or.inl rfl)) (pgs_cons (pg_name (i := 17) nd rfl (Or.inl rfl)) pgs_nil))))
    (pss_cons (ps_set (i := 18) nd rfl (Or.inl rfl) (pe_tup (pa_cons (pv 15) (pa_cons (pv 16) pa_nil))))
    (pss_one (ps_dput hu (pv 4) (pv 18) (pe_callB (cr_min2 rfl hu2) (by rfl) gM (by decide +kernel) (pa_cons (pv 17) (pa_cons (pe_dget2 hu (pv 4) (pv 18) (pv 17) ⟨rfl, rfl, rfl, rfl⟩) pa_nil))) rfl)))), ?_⟩
  intro D' H l wl ps WS M R kvs x0 x1 x2 x3 x5 x6 x7 x8 x9 x10 x12 x13 x14 x15 x16 x17 x18 hl hM rep big hwl hW few k
  have lw : ps.length = WS.length := hW.length
  have wlne : wl ≠ l := ne_of hwl hl fun z => nomatch z
  refine ⟨_, rfl, wl, rfl, ⟨_, SqL.of hwl⟩, ?_⟩
  refine for_it (walk_list (xs := ps.map V.ref)) (fun j σ H' => ∃ kvs' M' x15 x16 x17 x18, SameBut l H H' ∧ H' l = some (.dT kvs') ∧ Paired (EntB K H') kvs' M' ∧ Rep M' (R ++ WS.take j) ∧ M'.length ≤ M.length + j ∧ Kt K H H' ∧ σ = [x0, x1, x2, x3, some (.ref l), x5, x6, x7, x8, x9, x10, some (.ref wl), x12, x13, x14, x15, x16, x17, x18]) ?_ ?_ ?_ ?_
  · exact ⟨kvs, M, _, _, _, _, fun _ _ _ h => h, hl, hM, by rw [List.take_zero, List.append_nil]; exact rep, by omega, fun _ _ h => h, rfl⟩
  · rintro j σ H' _ ⟨_, _, _, _, _, _, sb, _, _, _, _, _, rfl⟩
    exact SqL.of (sb _ _ wlne hwl)
  · rintro j x σ H1 H2 hj ⟨kvs1, M1, y15, y16, y17, y18, sb1, hl1, hM1, rep1, len1, kt1, rfl⟩ ⟨rfl, hx⟩
    rw [List.getElem?_map] at hx
    obtain ⟨p, hp, rfl⟩ := Option.map_eq_some_iff.mp hx
    obtain ⟨q, hq, t, h1, h2⟩ := paired_get hW hp
    refine ⟨p, _, rfl, kt1 _ _ h1, rfl, _, _, rfl, _, _, rfl, _, _, rfl, rfl, ?_⟩
    have hc := h2.kt kt1
    refine ⟨_, rfl, _, rfl, two_le, fun kq nkq => ?_⟩
    have s2 := Same.upd_new (o := .tup [.int q.1.1, .int q.1.2]) nkq
    have gk : (upd H2 kq (.tup [.int q.1.1, .int q.1.2])) kq = some (.tup ((keyB q.1).map kV)) := upd_same
    have hl2 := s2 _ _ hl1
    have hM2 := pair_imp (fun a b h => EntB.kt (Kt.same s2) h) hM1
    have hc2 := hc.kt (Kt.same s2)
    have kt2 : Kt K H (upd H2 kq (.tup [.int q.1.1, .int q.1.2])) := kt1.trans (Kt.same s2)
    have sb2 : SameBut l H (upd H2 kq (.tup [.int q.1.1, .int q.1.2])) := fun b o nb z => s2 _ _ (sb1 b o nb z)
    generalize upd H2 kq (.tup [.int q.1.1, .int q.1.2]) = H3 at gk hl2 hM2 hc2 kt2 sb2 ⊢
    refine ⟨_, rfl, _, rfl, l, rfl, .inr ⟨_, .inl hl2⟩, _, rfl, _, rfl, _, DGet.t hl2 gk, ?_⟩
    have fin : ∀ (t' : Addr) (c' : Cost), CostAt K H3 t' c' → c' = lessC ((getL M1 q.1).getD q.2) q.2 → (tVar 4) [x0, x1, x2, x3, some (.ref l), x5, x6, x7, x8, x9, x10, some (.ref wl), x12, x13, x14, some (.int q.1.1), some (.int q.1.2), some (.ref t), some (.ref kq)] H3 fun x H4 => (tVar 18) [x0, x1, x2, x3, some (.ref l), x5, x6, x7, x8, x9, x10, some (.ref wl), x12, x13, x14, some (.int q.1.1), some (.int q.1.2), some (.ref t), some (.ref kq)] H4 fun y H5 => ∃ a H6, x = .ref a ∧ DPut H5 a y (.ref t') H6 ∧
        (fun σ H' => ∃ kvs' M' x15 x16 x17 x18, SameBut l H H' ∧ H' l = some (.dT kvs') ∧ Paired (EntB K H') kvs' M' ∧ Rep M' (R ++ WS.take (j + 1)) ∧ M'.length ≤ M.length + (j + 1) ∧ Kt K H H' ∧ σ = [x0, x1, x2, x3, some (.ref l), x5, x6, x7, x8, x9, x10, some (.ref wl), x12, x13, x14, x15, x16, x17, x18]) [x0, x1, x2, x3, some (.ref l), x5, x6, x7, x8, x9, x10, some (.ref wl), x12, x13, x14, some (.int q.1.1), some (.int q.1.2), some (.ref t), some (.ref kq)] H6 := by
      intro t' c' hc' ec
      have lk : kvs1.length = M1.length := hM1.length
      refine ⟨_, rfl, _, rfl, l, _, rfl, DPut.t hl2 gk (by rw [lk, sizeLine_eq]; have := List.length_map (f := V.ref) (as := ps); omega), ?_⟩
      have kt3 : Kt K H3 (upd H3 l (.dT (putK kvs1 (keyB q.1) (.ref t')))) := Kt.put hl2 (fun _ z => nomatch z) (fun _ _ z => nomatch z)
      refine ⟨_, putL M1 q.1 c', _, _, _, _, fun b o nb z => by rw [upd_ne nb]; exact sb2 b o nb z, upd_same, pair_imp (fun a b h => EntB.kt kt3 h) (ent_put hM2 hc'), ?_, ?_, kt2.trans kt3, rfl⟩
      · rw [ec, List.take_add_one, hq, ← List.append_assoc]
        exact rep_put rep1
      · have := putL_len (L := M1) (k := q.1) (c := c')
        omega
    rcases ent_get (k := q.1) hM2 with ⟨e1, e2⟩ | ⟨t0, c0, e1, e2, hc0⟩
    · rw [e1]
      refine ⟨.ref t, .ref t, costD q.2, costD q.2, rfl, hc2.dp, hc2.dp, cost_all [q.2, q.2], Nat.le_trans (cost_depth [q.2, q.2]) (by decide), ?_⟩
      rw [cost_lt, decide_eq_false (cLt_irr _), if_neg (by decide)]
      refine fin t q.2 hc2 ?_
      rw [e2]
      show q.2 = if cLt q.2 q.2 then q.2 else q.2
      rw [if_neg (cLt_irr _)]
    · rw [e1]
      refine ⟨.ref t, .ref t0, costD q.2, costD c0, rfl, hc2.dp, hc0.dp, cost_all [q.2, c0], Nat.le_trans (cost_depth [q.2, c0]) (by decide), ?_⟩
      rw [cost_lt]
      by_cases lt : cLt c0 q.2
      · rw [decide_eq_true lt, if_pos rfl]
        refine fin t0 c0 hc0 ?_
        rw [e2]
        unfold lessC
        exact (if_pos lt).symm
      · rw [decide_eq_false lt, if_neg (by decide)]
        refine fin t q.2 hc2 ?_
        rw [e2]
        unfold lessC
        exact (if_neg lt).symm
  · rintro σ H1 ⟨kvs1, M1, y15, y16, y17, y18, sb1, hl1, hM1, rep1, len1, kt1, rfl⟩
    rw [List.length_map, lw, List.take_length] at rep1
    rw [List.length_map, lw] at len1
    exact k _ kvs1 M1 _ _ _ _ sb1 hl1 hM1 rep1 len1
end
end Half

namespace Half
open PySem PySem.Spec PyProof.Rows L2
theorem thr_le : 3 ≤ sizeLine := by decide
theorem get_int {ns : List Int} {i : Nat} (h : i < ns.length) : atI (iV ns) (i : Int) = some (.int (ns.getD i 0)) := by
  unfold atI ixN iV
  rw [List.length_map, if_pos (by omega), if_pos (by omega)]
  show (ns.map V.int)[((i : Int)).toNat]? = _
  rw [Int.toNat_natCast, List.getElem?_map, List.getD_eq_getElem?_getD, List.getElem?_eq_getElem h]
  rfl
/-- the way that an answer gives -/
def ansW (ns : List Int) (i : Nat) (x : Stt × Cost) (con : Int) (kp : Bool) : Stt × Cost := ((ns.getD i 0, (one x.1.1 con (ns.getD i 0) kp).1), (x.2.1 + (if (one x.1.1 con (ns.getD i 0) kp).2 = true then 1 else 0), x.2.2.1 + 1, x.2.2.2 ++ [(i : Int)]))
theorem none_back {H H' : Hp} {l : Addr} (s : Same H H') (h : H' l = none) : H l = none := by
  cases e : H l with
  | none => rfl
  | some o => rw [s _ _ e] at h; cases h
section
variable {P : Program} {w : World} {K : PySem.W.Frag} {mg : Str → Option Value} {base : Heap} {CN CA : Addr}
theorem bb_d {f : Addr} {cdv : Value} {A : Around} {outer : List Env} {sh : Shared} {H0 : Hp} {E : XK} (T : TxtS K mg CN CA) (gM : mg "min" = none) (dS : Def P w K mg base 1 "settle" ["noted", "present", "new", "answer"] spSe) (hr : Room 2 (A.deeper (envOfC "best_behind" (defScope sBb) sh.heap.objs.size f cdv))) (nd : BbN.Nodup) :
    ∃ t, PSs (cxOf CX0 P w K mg base BbN "best_behind" (defScope sBb) f cdv A outer sh H0 E).nox (bBody.drop 3) t ∧ ∀ (D' : Ends) (H : Hp) (b a d l ti wl : Addr) (ps : List Addr) (W0 : List (Stt × Cost)) (con : Int) (i : Nat) (ns : List Int) (x : Stt × Cost) (M R : List (Stt × Cost)) (kvs : List (List Key × V)) (x12 x13 x14 x15 x16 x17 x18 : Option V),
      (∀ H', SameBut wl H H' → SqL K H' a (iV ns)) → i < ns.length → ns.length ≤ 12 → SqT K H ti (x.2.2.2.map V.int) → x.2.2.2.length ≤ 100 → H l = some (.dT kvs) → Paired (EntB K H) kvs M → Rep M R → M.length ≤ 1000000 → H wl = some (.lst (ps.map V.ref)) → Paired (WayAt K H) ps W0 → W0.length ≤ 1 →
      (∀ H' kvs' M' x11 x12 x13 x14 x15 x16 x17 x18, (∀ b o, b ≠ l → b ≠ wl → H b = some o → H' b = some o) → H' l = some (.dT kvs') → Paired (EntB K H') kvs' M' → Rep M' (R ++ (W0 ++ [true, false].map (ansW ns i x con))) → M'.length ≤ M.length + 3 → D'.nx [some (.ref b), some (.int i), some (.ref a), some (.ref d), some (.ref l), some (.int x.1.1), some (.int x.1.2), some (.int x.2.1), some (.int x.2.2.1), some (.ref ti), some (.int con), x11, x12, x13, x14, x15, x16, x17, x18] H') →
      t D' [some (.ref b), some (.int i), some (.ref a), some (.ref d), some (.ref l), some (.int x.1.1), some (.int x.1.2), some (.int x.2.1), some (.int x.2.2.1), some (.ref ti), some (.int con), some (.ref wl), x12, x13, x14, x15, x16, x17, x18] H := by
  have r1 : Room 1 _ := hr.mono (by decide)
  obtain ⟨aA, gA, hA⟩ := T.ans
  obtain ⟨tC, hC, rdC⟩ := bb_c (P := P) (w := w) (K := K) (base := base) (f := f) (cdv := cdv) (A := A) (outer := outer) (sh := sh) (H0 := H0) (E := E) gM hr nd
  refine ⟨_, pss_cons (ps_for PassesOwn.never rfl (pi_tup (pe_glob (v := .ref aA) rfl gA rfl)) (pg_name (i := 12) nd rfl (Or.inl rfl))
      (pss_cons (ps_asg (pe_def dS r1 rfl (pa_cons (pv 5) (pa_cons (pv 10) (pa_cons (pe_ix ix_list (pv 2) (pv 1) (fun _ _ => rfl)) (pa_cons (pv 12) pa_nil))))) (pg_tup rfl (pgs_cons (pg_name (i := 13) nd rfl (Or.inl rfl)) (pgs_cons (pg_name (i := 14) nd rfl (Or.inl rfl)) pgs_nil))))
      (pss_one (ps_expr (pe_bm PySem.F.plainAttrs_list PySem.F.slot_list_append PySem.F.type_list_append mt_append (pv 11) (pa_cons (pe_tup (pa_cons (pe_ix ix_list (pv 2) (pv 1) (fun _ _ => rfl)) (pa_cons (pv 13) (pa_cons (pe_tup (pa_cons (pe_op op_add (pv 7) (pe_callTy call_int1 (by rfl) T.int (by decide +kernel) (pa_cons (pv 14) pa_nil))) (pa_cons (pe_op op_add (pv 8) pe_int) (pa_cons (pe_tup (StX.pa_star (pv 9) (pa_cons (pv 1) pa_nil))) pa_nil)))) pa_nil)))) pa_nil))))))
    hC, ?_⟩
  intro D' H b a d l ti wl ps W0 con i ns x M R kvs x12 x13 x14 x15 x16 x17 x18 hS hi n12 hti til hl hM rep big hwl hW few k
  have lne : l ≠ wl := ne_of hl hwl fun z => nomatch z
  refine ⟨aA, rfl, ⟨_, hA _⟩, ?_⟩
  refine for_it (walk_tup (xs := ANS.map V.str)) (fun j σ H' => ∃ ps' x12 x13 x14, SameBut wl H H' ∧ H' wl = some (.lst (ps'.map V.ref)) ∧ Paired (WayAt K H') ps' (W0 ++ ([true, false].take j).map (ansW ns i x con)) ∧ Kt K H H' ∧ σ = [some (.ref b), some (.int i), some (.ref a), some (.ref d), some (.ref l), some (.int x.1.1), some (.int x.1.2), some (.int x.2.1), some (.int x.2.2.1), some (.ref ti), some (.int con), some (.ref wl), x12, x13, x14, x15, x16, x17, x18]) ?_ ?_ ?_ ?_
  · exact ⟨ps, _, _, _, fun _ _ _ h => h, hwl, by rw [List.take_zero, List.map_nil, List.append_nil]; exact hW, fun _ _ h => h, rfl⟩
  · intro j σ H' _ _
    exact hA _
  · rintro j x' σ H1 H2 hj ⟨ps1, y12, y13, y14, sb1, hw1, hW1, kt1, rfl⟩ ⟨rfl, hx⟩
    have hS1 : SqL K H2 a (iV ns) := hS _ sb1
    obtain ⟨z, kp, rfl, hz, hkp⟩ : ∃ z kp, x' = V.str z ∧ [true, false][j]? = some kp ∧ kept z = kp := by
      have hj2 : j < 2 := hj
      rcases (by omega : j = 0 ∨ j = 1) with rfl | rfl
      · cases hx
        exact ⟨_, true, rfl, rfl, by decide +kernel⟩
      · cases hx
        exact ⟨_, false, rfl, rfl, by decide +kernel⟩
    refine ⟨_, rfl, _, rfl, _, rfl, _, rfl, a, _, _, _, rfl, rfl, hS1, get_int hi, _, rfl, _, _, _, _, rfl, fun H3 t3 s3 nt3 ht3 => ?_⟩
    rw [hkp] at ht3
    refine ⟨t3, _, rfl, SqT.of ht3, rfl, _, _, rfl, _, _, rfl, rfl, ?_⟩
    have hw3 := s3 _ _ hw1
    have hS3 : SqL K H3 a (iV ns) := s3.seq hS1
    refine ⟨_, rfl, .inl ⟨rfl, _, SqL.of hw3⟩, _, rfl, _, rfl, a, _, _, _, rfl, rfl, hS3, get_int hi, _, rfl, ?_⟩
    have hti3 : SqT K H3 ti (x.2.2.2.map V.int) := s3.sqT (kt1 _ _ hti)
    have lenI : (x.2.2.2.map V.int ++ [V.int (i : Int)]).length ≤ sizeLine := by
      rw [List.length_append, List.length_map, sizeLine_eq]
      show x.2.2.2.length + 1 ≤ _
      omega
    refine ⟨_, rfl, _, rfl, .inr ⟨_, rfl, _, _, rfl, rfl, _, rfl, _, _, rfl, rfl, _, rfl, ti, _, rfl, .inl hti3, _, rfl, lenI, fun t4 n4 => ⟨thr_le, fun t5 n5 => ⟨thr_le, fun t6 n6 => ?_⟩⟩⟩⟩
    have s4 := Same.upd_new (o := .tup (x.2.2.2.map V.int ++ [V.int (i : Int)])) n4
    have s5 := Same.upd_new (o := .tup [.int (x.2.1 + if (one x.1.1 con (ns.getD i 0) kp).2 = true then 1 else 0), .int (x.2.2.1 + 1), .ref t4]) n5
    have s6 := Same.upd_new (o := .tup [.int (ns.getD i 0), .int (one x.1.1 con (ns.getD i 0) kp).1, .ref t5]) n6
    have s36 := s3.trans (s4.trans (s5.trans s6))
    have g4 := (s5.trans s6) _ _ (upd_same (H := H3) (a := t4) (o := .tup (x.2.2.2.map V.int ++ [V.int (i : Int)])))
    have g5 := s6 _ _ (upd_same (H := upd H3 t4 (.tup (x.2.2.2.map V.int ++ [V.int (i : Int)]))) (a := t5) (o := .tup [.int (x.2.1 + if (one x.1.1 con (ns.getD i 0) kp).2 = true then 1 else 0), .int (x.2.2.1 + 1), .ref t4]))
    have g6 := upd_same (H := upd (upd H3 t4 (.tup (x.2.2.2.map V.int ++ [V.int (i : Int)]))) t5 (.tup [.int (x.2.1 + if (one x.1.1 con (ns.getD i 0) kp).2 = true then 1 else 0), .int (x.2.2.1 + 1), .ref t4])) (a := t6) (o := .tup [.int (ns.getD i 0), .int (one x.1.1 con (ns.getD i 0) kp).1, .ref t5])
    have hw6 := s36 _ _ hw1
    have fw : (ps1.map V.ref).length < sizeLine := by
      rw [List.length_map, hW1.length, List.length_append, List.length_map, sizeLine_eq]
      have := List.length_take_le j [true, false]
      have : (List.take j [true, false]).length ≤ 2 := by rw [List.length_take]; exact Nat.min_le_right _ _
      omega
    refine ⟨wl, _, _, rfl, rfl, hw6, fw, ?_⟩
    generalize upd (upd (upd H3 t4 (.tup (x.2.2.2.map V.int ++ [V.int (i : Int)]))) t5 (.tup [.int (x.2.1 + if (one x.1.1 con (ns.getD i 0) kp).2 = true then 1 else 0), .int (x.2.2.1 + 1), .ref t4])) t6 (.tup [.int (ns.getD i 0), .int (one x.1.1 con (ns.getD i 0) kp).1, .ref t5]) = H6 at s36 g4 g5 g6 hw6 ⊢
    have kt6 : Kt K H6 (upd H6 wl (.lst (ps1.map V.ref ++ [.ref t6]))) := Kt.put hw6 (fun _ z => nomatch z) (fun _ _ z => nomatch z)
    have wy : WayAt K H6 t6 (ansW ns i x con kp) := ⟨t5, SqT.of g6, t4, SqT.of g5, SqT.of (by rw [g4]; show some (HO.tup _) = some (HO.tup ((x.2.2.2 ++ [(i : Int)]).map V.int)); rw [List.map_append]; rfl)⟩
    refine ⟨ps1 ++ [t6], _, _, _, fun b' o nb q => by rw [upd_ne nb]; exact s36 _ _ (sb1 b' o nb q), by rw [upd_same, List.map_append]; rfl, ?_, (kt1.trans (Kt.same s36)).trans kt6, rfl⟩
    rw [List.take_add_one, hz, List.map_append, ← List.append_assoc]
    exact pair_imp (fun a b h => WayAt.kt kt6 h) (pair_app (pair_imp (fun a b h => WayAt.kt (Kt.same s36) h) hW1) (.cons wy .nil))
  · rintro σ H1 ⟨ps1, y12, y13, y14, sb1, hw1, hW1, kt1, rfl⟩
    have hW1 : Paired (WayAt K H1) ps1 (W0 ++ [true, false].map (ansW ns i x con)) := hW1
    have wl3 : (W0 ++ [true, false].map (ansW ns i x con)).length ≤ 3 := by rw [List.length_append, List.length_map]; show W0.length + 2 ≤ 3; omega
    refine rdC _ _ l wl ps1 _ M R kvs _ _ _ _ _ _ _ _ _ _ _ _ _ _ _ _ _ (sb1 _ _ lne hl) (pair_imp (fun a b h => EntB.kt kt1 h) hM) rep big hw1 hW1 wl3 fun H2 kvs2 M2 z15 z16 z17 z18 sb2 hl2 hM2 rep2 len2 => ?_
    exact k H2 kvs2 M2 _ _ _ _ _ _ _ _ (fun b o n1 n2 q => sb2 b o n1 (sb1 b o n2 q)) hl2 hM2 rep2 (by omega)
end
end Half

namespace Half
open PySem PySem.Spec PyProof.Rows L2
theorem ways_eq {ns : List Int} {es : List (Int × Int)} {i : Nat} {x : Stt × Cost} : ways ns es i x = (if i + 1 < ns.length then [((x.1.1, (edit es i).getD x.1.2), x.2)] else []) ++ [true, false].map (ansW ns i x ((edit es i).getD x.1.2)) := rfl
section
variable {P : Program} {w : World} {K : PySem.W.Frag} {mg : Str → Option Value} {base : Heap} {CN CA : Addr}
theorem bb_b {f : Addr} {cdv : Value} {A : Around} {outer : List Env} {sh : Shared} {H0 : Hp} {E : XK} (T : TxtS K mg CN CA) (gM : mg "min" = none) (dS : Def P w K mg base 1 "settle" ["noted", "present", "new", "answer"] spSe) (hr : Room 2 (A.deeper (envOfC "best_behind" (defScope sBb) sh.heap.objs.size f cdv))) (nd : BbN.Nodup) :
    ∃ t, PSs (cxOf CX0 P w K mg base BbN "best_behind" (defScope sBb) f cdv A outer sh H0 E).nox bBody t ∧ ∀ (D' : Ends) (H : Hp) (b a d l ti : Addr) (i : Nat) (ns : List Int) (es : List (Int × Int)) (x : Stt × Cost) (M R : List (Stt × Cost)) (kvs : List (List Key × V)) (x10 x11 x12 x13 x14 x15 x16 x17 x18 : Option V),
      SqL K H a (iV ns) → i < ns.length → ns.length ≤ 12 → H d = some (.dK (eK es)) → SqT K H ti (x.2.2.2.map V.int) → x.2.2.2.length ≤ 100 → H l = some (.dT kvs) → Paired (EntB K H) kvs M → Rep M R → M.length ≤ 1000000 →
      (∀ H' kvs' M' x10 x11 x12 x13 x14 x15 x16 x17 x18, SameBut l H H' → H' l = some (.dT kvs') → Paired (EntB K H') kvs' M' → Rep M' (R ++ ways ns es i x) → M'.length ≤ M.length + 3 → D'.nx [some (.ref b), some (.int i), some (.ref a), some (.ref d), some (.ref l), some (.int x.1.1), some (.int x.1.2), some (.int x.2.1), some (.int x.2.2.1), some (.ref ti), x10, x11, x12, x13, x14, x15, x16, x17, x18] H') →
      t D' [some (.ref b), some (.int i), some (.ref a), some (.ref d), some (.ref l), some (.int x.1.1), some (.int x.1.2), some (.int x.2.1), some (.int x.2.2.1), some (.ref ti), x10, x11, x12, x13, x14, x15, x16, x17, x18] H := by
  have hu : (A.deeper (envOfC "best_behind" (defScope sBb) sh.heap.objs.size f cdv)).units + 1 < cLine := by have := hr.un; omega
  obtain ⟨tD, hD, rdD⟩ := bb_d (P := P) (w := w) (K := K) (base := base) (f := f) (cdv := cdv) (A := A) (outer := outer) (sh := sh) (H0 := H0) (E := E) T gM dS hr nd
  refine ⟨_, pss_cons (ps_set (i := 10) nd rfl (Or.inl rfl) (pe_dget2 hu (pv 3) (pv 1) (pv 6) ⟨rfl, rfl, rfl, rfl⟩))
    (pss_cons (ps_set (i := 11) nd rfl (Or.inl rfl) (pe_lst pa_nil))
    (pss_cons (ps_if (pt_cmpR op_lt (pv 1) (pe_op op_sub (pe_callB call_len_seq (by rfl) T.len PySem.boot_len (pa_cons (pv 2) pa_nil)) pe_int) (nomark _))
      (pss_one (ps_expr (pe_bm PySem.F.plainAttrs_list PySem.F.slot_list_append PySem.F.type_list_append mt_append (pv 11) (pa_cons (pe_tup (pa_cons (pv 5) (pa_cons (pv 10) (pa_cons (pe_tup (pa_cons (pv 7) (pa_cons (pv 8) (pa_cons (pv 9) pa_nil)))) pa_nil)))) pa_nil)))) pss_nil) hD)), ?_⟩
  intro D' H b a d l ti i ns es x M R kvs x10 x11 x12 x13 x14 x15 x16 x17 x18 hS hi n12 hd hti til hl hM rep big k
  have e1 : ((valV (eK es) (.inl (i : Int))).getD (.int x.1.2)) = .int ((edit es i).getD x.1.2) := by
    rw [edit_val]
    cases edit es (i : Int) <;> rfl
  refine ⟨_, rfl, d, rfl, .inl ⟨_, .inl hd⟩, _, rfl, _, rfl, valV (eK es) (.inl (i : Int)), DGet.k (k := .inl (i : Int)) hd, ?_⟩
  rw [e1]
  rw [ways_eq] at k
  generalize (edit es i).getD x.1.2 = con at k ⊢
  refine ⟨Nat.zero_le _, fun wl nwl => ?_⟩
  have s1 := Same.upd_new (o := .lst []) nwl
  have g1 : (upd H wl (.lst [])) wl = some (.lst (([] : List Addr).map V.ref)) := upd_same
  have hS' : ∀ H', SameBut wl (upd H wl (.lst [])) H' → SqL K H' a (iV ns) := fun H' sb => by
    have up : ∀ o, H a = some o → H' a = some o := fun o z => sb _ _ (ne_of_none z nwl) (s1 _ _ z)
    rcases hS with (h | ⟨q, h⟩) | h
    · exact .inl (.inl (up _ h))
    · exact .inl (.inr ⟨q, up _ h⟩)
    · exact .inr h
  generalize upd H wl (.lst []) = H1 at s1 g1 hS' ⊢
  refine ⟨_, rfl, _, rfl, a, _, rfl, .inl (s1.seq hS), _, _, rfl, rfl, _, _, rfl, rfl, _, rfl, ?_⟩
  have li : (iV ns).length = ns.length := List.length_map ..
  rw [li]
  have hl1 := s1 _ _ hl
  have hM1 := pair_imp (fun a b h => EntB.kt (Kt.same s1) h) hM
  have hti1 := s1.sqT hti
  by_cases c : i + 1 < ns.length
  · rw [if_pos c] at k
    refine ite_yes (decide_eq_true (by omega)) ?_
    refine ⟨_, rfl, .inl ⟨rfl, _, SqL.of g1⟩, _, rfl, _, rfl, _, rfl, _, rfl, _, rfl, thr_le, fun t2 n2 => ⟨thr_le, fun t3 n3 => ?_⟩⟩
    have s2 := Same.upd_new (o := .tup [.int x.2.1, .int x.2.2.1, .ref ti]) n2
    have s3 := Same.upd_new (o := .tup [.int x.1.1, .int con, .ref t2]) n3
    have s13 := s2.trans s3
    have q2 := s3 _ _ (upd_same (H := H1) (a := t2) (o := .tup [.int x.2.1, .int x.2.2.1, .ref ti]))
    have q3 := upd_same (H := upd H1 t2 (.tup [.int x.2.1, .int x.2.2.1, .ref ti])) (a := t3) (o := .tup [.int x.1.1, .int con, .ref t2])
    have gw := s13 _ _ g1
    have wne : ∀ H', SameBut wl (upd (upd H1 t2 (.tup [.int x.2.1, .int x.2.2.1, .ref ti])) t3 (.tup [.int x.1.1, .int con, .ref t2])) H' → SqL K H' a (iV ns) := fun H' sb => hS' H' fun b o nb z => sb b o nb (s13 _ _ z)
    refine ⟨wl, _, _, rfl, rfl, gw, (show 0 < sizeLine by decide), ?_⟩
    generalize upd (upd H1 t2 (.tup [.int x.2.1, .int x.2.2.1, .ref ti])) t3 (.tup [.int x.1.1, .int con, .ref t2]) = H3 at s13 q2 q3 gw wne ⊢
    have kt3 : Kt K H3 (upd H3 wl (.lst (([] : List Addr).map V.ref ++ [.ref t3]))) := Kt.put gw (fun _ z => nomatch z) (fun _ _ z => nomatch z)
    have lw : l ≠ wl := ne_of (s13 _ _ hl1) gw fun z => nomatch z
    have wy : WayAt K H3 t3 ((x.1.1, con), x.2) := ⟨t2, SqT.of q3, ti, SqT.of q2, s13.sqT hti1⟩
    refine rdD _ _ b a d l ti wl [t3] [((x.1.1, con), x.2)] con i ns x M R kvs _ _ _ _ _ _ _ (fun H' sb => wne H' fun b o nb z => sb b o nb (by rw [upd_ne nb]; exact z)) hi n12 (kt3 _ _ (s13.sqT hti1)) til (by rw [upd_ne lw]; exact s13 _ _ hl1) (pair_imp (fun a b h => EntB.kt ((Kt.same s13).trans kt3) h) hM1) rep big upd_same (.cons (wy.kt kt3) .nil) (Nat.le_refl _) fun H' kvs' M' y11 y12 y13 y14 y15 y16 y17 y18 sb hl' hM' rep' len' => ?_
    exact k H' kvs' M' _ _ _ _ _ _ _ _ _ (fun b o nb z => sb b o nb (ne_of_none z nwl) (by rw [upd_ne (ne_of_none z nwl)]; exact s13 _ _ (s1 _ _ z))) hl' hM' rep' len'
  · rw [if_neg c] at k
    refine ite_no (decide_eq_false (by omega)) ?_
    refine rdD _ _ b a d l ti wl [] [] con i ns x M R kvs _ _ _ _ _ _ _ hS' hi n12 hti1 til hl1 hM1 rep big g1 .nil (Nat.zero_le _) fun H' kvs' M' y11 y12 y13 y14 y15 y16 y17 y18 sb hl' hM' rep' len' => ?_
    exact k H' kvs' M' _ _ _ _ _ _ _ _ _ (fun b o nb z => sb b o nb (ne_of_none z nwl) (s1 _ _ z)) hl' hM' rep' len'
end
end Half

namespace Half
open PySem PySem.Spec PyProof.Rows L2
def spBb (K : PySem.W.Frag) : Sp := fun vs H Q _ => ∃ (b a d : Addr) (i : Nat) (ns : List Int) (es : List (Int × Int)) (L : List (Stt × Cost)) (kvs : List (List Key × V)), vs = [.ref b, .int i, .ref a, .ref d] ∧ H b = some (.dT kvs) ∧ Paired (EntB K H) kvs L ∧ (∀ x ∈ L, x.2.2.2.length ≤ 100) ∧ L.length ≤ 300000 ∧ SqL K H a (iV ns) ∧ i < ns.length ∧ ns.length ≤ 12 ∧ H d = some (.dK (eK es)) ∧
  ∀ H' l kvs' M, Same H H' → H' l = some (.dT kvs') → Paired (EntB K H') kvs' M → Rep M (L.flatMap (ways ns es i)) → M.length ≤ 3 * L.length → Q (.ref l) H'
section
variable {P : Program} {w : World} {K : PySem.W.Frag} {mg : Str → Option Value} {base : Heap} {CN CA : Addr}
theorem ok_bb {f : Addr} {fd : FuncData} (F : Fun K "best_behind" "best_behind" sBb f fd) (T : TxtS K mg CN CA) (gM : mg "min" = none) (dS : Def P w K mg base 1 "settle" ["noted", "present", "new", "answer"] spSe) : FnOk P w K mg base CX0 3 f fd ["best", "at", "contents", "edits"] (spBb K) := by
  refine F.ok scBb (fun vs H Q E h => ?_) (fun cdv A outer s H vs Q E hr h => ?_)
  · obtain ⟨b, a, d, i, ns, es, L, kvs, rfl, _⟩ := h
    rfl
  · obtain ⟨b, a, d, i, ns, es, L, kvs, rfl, hb, hL, til, big, hS, hi, n12, hd, k⟩ := h
    have nd := scBb.nd
    obtain ⟨tB, hB, rdB⟩ := bb_b (P := P) (w := w) (K := K) (base := base) (f := f) (cdv := cdv) (A := A) (outer := outer) (sh := s) (H0 := H) (E := E) T gM dS hr nd
    refine ⟨_, pss_cons (ps_set (i := 4) nd rfl (Or.inl rfl) pe_dnewT)
      (pss_cons (ps_lock (ps_for PassesOwn.never rfl (pi_itemsT (pv 0)) (pg_tup rfl (pgs_cons (pg_tup rfl (pgs_cons (pg_name (i := 5) nd rfl (Or.inl rfl)) (pgs_cons (pg_name (i := 6) nd rfl (Or.inl rfl)) pgs_nil))) (pgs_cons (pg_tup rfl (pgs_cons (pg_name (i := 7) nd rfl (Or.inl rfl)) (pgs_cons (pg_name (i := 8) nd rfl (Or.inl rfl)) (pgs_cons (pg_name (i := 9) nd rfl (Or.inl rfl)) pgs_nil)))) pgs_nil))) hB))
      (pss_one (ps_ret (pv 4)))), ?_⟩
    intro l nl
    have s1 := Same.upd_new (o := .dT []) nl
    have lb : b ≠ l := ne_of_none hb nl
    refine ⟨b, _, s1 _ _ hb, trivial, fun od => ⟨_, rfl, b, od, kvs, rfl, upd_same, ?_⟩⟩
    have lk : kvs.length = L.length := hL.length
    have keep : ∀ H', (∀ b' o, b' ≠ b → H b' = some o → H' b' = some o) → Kt K H H' := fun H' sb a' xs h => by
      rcases h with (h | ⟨q, h⟩) | h
      · exact .inl (.inl (sb _ _ (ne_of h hb fun z => nomatch z) h))
      · exact .inl (.inr ⟨q, sb _ _ (ne_of h hb fun z => nomatch z) h⟩)
      · exact .inr h
    have keepS : ∀ H', (∀ b' o, b' ≠ b → H b' = some o → H' b' = some o) → SqL K H' a (iV ns) := fun H' sb => by
      rcases hS with (h | ⟨q, h⟩) | h
      · exact .inl (.inl (sb _ _ (ne_of h hb fun z => nomatch z) h))
      · exact .inl (.inr ⟨q, sb _ _ (ne_of h hb fun z => nomatch z) h⟩)
      · exact .inr h
    refine for_it (walk_itemsT (d := b) (o := od) (kvs := kvs)) (fun j σ H' => ∃ kvs' M' x5 x6 x7 x8 x9 x10 x11 x12 x13 x14 x15 x16 x17 x18, (∀ b' o, b' ≠ b → H b' = some o → H' b' = some o) ∧ H' b = some (.frz od (.dT kvs)) ∧ H' l = some (.dT kvs') ∧ Paired (EntB K H') kvs' M' ∧ Rep M' ((L.take j).flatMap (ways ns es i)) ∧ M'.length ≤ 3 * j ∧
      σ = [some (.ref b), some (.int i), some (.ref a), some (.ref d), some (.ref l), x5, x6, x7, x8, x9, x10, x11, x12, x13, x14, x15, x16, x17, x18]) ?_ ?_ ?_ ?_
    · exact ⟨[], [], _, _, _, _, _, _, _, _, _, _, _, _, _, _, fun b' o nb z => by rw [upd_ne nb]; exact s1 _ _ z, upd_same, by rw [upd_ne (Ne.symm lb)]; exact upd_same, .nil, rep_nil, Nat.le_refl _, rfl⟩
    · rintro j σ H' _ ⟨_, _, _, _, _, _, _, _, _, _, _, _, _, _, _, _, _, hb', _⟩
      exact hb'
    · rintro j x' σ H1 H2 hj ⟨kvs1, M1, x5, x6, x7, x8, x9, x10, x11, x12, x13, x14, x15, x16, x17, x18, sb1, hb1, hl1, hM1, rep1, len1, rfl⟩ ⟨Ti, q, kk, v, hkv, rfl, nT, hq, rfl⟩
      obtain ⟨x, hx, ek, t, ev, hc⟩ := paired_get hL hkv
      dsimp only at ek ev
      subst ek ev
      have s2 := Same.upd_new (o := .tup [.ref q, .ref t]) nT
      have hc1 := hc.kt (keep _ sb1)
      obtain ⟨ti, hc2, hc3⟩ := hc1
      refine ⟨Ti, _, rfl, SqT.of upd_same, rfl, _, _, rfl, ⟨q, _, rfl, SqT.of (s2 _ _ hq), rfl, _, _, rfl, _, _, rfl, rfl, ?_⟩⟩
      refine ⟨_, _, rfl, ⟨t, _, rfl, s2.sqT hc2, rfl, _, _, rfl, _, _, rfl, _, _, rfl, rfl, rfl, ?_⟩⟩
      have sb2 : ∀ b' o, b' ≠ b → H b' = some o → (upd H1 Ti (.tup [.ref q, .ref t])) b' = some o := fun b' o nb z => s2 _ _ (sb1 b' o nb z)
      have lj : M1.length ≤ 1000000 := by
        have : j < kvs.length := hj
        omega
      refine rdB _ _ b a d l ti i ns es x M1 _ kvs1 _ _ _ _ _ _ _ _ _ (keepS _ sb2) hi n12 (sb2 _ _ (ne_of hd hb fun z => nomatch z) hd) (s2.sqT hc3) (til x (List.mem_of_getElem? hx)) (s2 _ _ hl1) (pair_imp (fun a b h => EntB.kt (Kt.same s2) h) hM1) rep1 lj fun H3 kvs3 M3 y10 y11 y12 y13 y14 y15 y16 y17 y18 sb3 hl3 hM3 rep3 len3 => ?_
      refine ⟨kvs3, M3, _, _, _, _, _, _, _, _, _, _, _, _, _, _, fun b' o nb z => sb3 b' o (ne_of_none z nl) (sb2 b' o nb z), sb3 _ _ lb (s2 _ _ hb1), hl3, hM3, ?_, by omega, rfl⟩
      rw [List.take_add_one, hx, List.flatMap_append]
      show Rep M3 (_ ++ List.flatMap (ways ns es i) [x])
      rw [List.flatMap_singleton]
      exact rep3
    · rintro σ H1 ⟨kvs1, M1, x5, x6, x7, x8, x9, x10, x11, x12, x13, x14, x15, x16, x17, x18, sb1, hb1, hl1, hM1, rep1, len1, rfl⟩
      rw [lk, List.take_length] at rep1
      refine ⟨hb1, _, rfl, ?_⟩
      have kt : Kt K H1 (upd H1 b (.dT kvs)) := Kt.put hb1 (fun _ z => nomatch z) (fun _ _ z => nomatch z)
      refine k _ l kvs1 M1 (fun b' o z => ?_) (by rw [upd_ne (Ne.symm lb)]; exact hl1) (pair_imp (fun a b h => EntB.kt kt h) hM1) rep1 (by omega)
      by_cases e : b' = b
      · rw [e] at z ⊢
        rw [upd_same, ← z, hb]
      · rw [upd_ne e]
        exact sb1 b' o e z
end
end Half

namespace Half
open PySem PySem.Spec PyProof.Rows L2
/-- the least cost of all runs -/
def Few (ns : List Int) (es : List (Int × Int)) (c : Cost) : Prop := (∃ st, (st, c) ∈ runs ns es ns.length) ∧ ∀ x ∈ runs ns es ns.length, ¬ cLt x.2 c
theorem runs_idx {ns : List Int} {es : List (Int × Int)} : ∀ i, ∀ x ∈ runs ns es i, x.2.2.2.length ≤ i
  | 0, x, h => by
    rw [List.mem_singleton.mp h]
    exact Nat.le_refl _
  | i + 1, x, h => by
    obtain ⟨y, hy, hx⟩ := List.mem_flatMap.mp h
    have ih := runs_idx i y hy
    unfold ways at hx
    rcases List.mem_append.mp hx with q | q
    · split at q
      · rw [List.mem_singleton.mp q]
        exact Nat.le_succ_of_le ih
      · cases q
    · obtain ⟨kp, _, rfl⟩ := List.mem_map.mp q
      dsimp only
      rw [List.length_append]
      show y.2.2.2.length + 1 ≤ i + 1
      omega
theorem runs_some {ns : List Int} {es : List (Int × Int)} : ∀ i, ∃ x, x ∈ runs ns es i
  | 0 => ⟨_, .head _⟩
  | i + 1 => by
    obtain ⟨x, hx⟩ := runs_some i
    refine ⟨ansW ns i x ((edit es i).getD x.1.2) true, List.mem_flatMap.mpr ⟨x, hx, ?_⟩⟩
    rw [ways_eq]
    exact List.mem_append_right _ (.head _)
theorem rep_zero {ns : List Int} {es : List (Int × Int)} : Rep [(((0, 0) : Stt), ((0, 0, []) : Cost))] (runs ns es 0) := by
  refine ⟨List.nodup_cons.mpr ⟨fun z => (nomatch z), List.nodup_nil⟩, fun x h => h, fun x h c hc => ?_, fun x h => ⟨x.2, h⟩⟩
  rw [List.mem_singleton.mp h] at hc ⊢
  rw [(Prod.mk.inj (List.mem_singleton.mp hc)).2]
  exact cLt_irr _
/-- the least of some costs -/
theorem minC : ∀ (cs : List Cost) (c : Cost), ∃ m, m ∈ c :: cs ∧ PySem.W.minD (costD c) (cs.map costD) = costD m ∧ ∀ x ∈ c :: cs, ¬ cLt x m
  | [], c => ⟨c, List.mem_singleton.mpr rfl, rfl, fun x h => by rw [List.mem_singleton.mp h]; exact cLt_irr c⟩
  | y :: ys, c => by
    have e : PySem.W.minD (costD c) ((y :: ys).map costD) = PySem.W.minD (costD (lessC y c)) (ys.map costD) := by
      unfold PySem.W.minD
      rw [List.map_cons, List.foldl_cons, cost_lt]
      unfold lessC
      by_cases q : cLt y c
      · rw [if_pos q, if_pos (decide_eq_true q)]
      · rw [if_neg q, if_neg (by rw [decide_eq_false q]; decide)]
    obtain ⟨m, h1, h2, h3⟩ := minC ys (lessC y c)
    have le1 : ¬ cLt y (lessC y c) := by
      unfold lessC
      split
      · exact cLt_irr y
      · assumption
    have le2 : ¬ cLt c (lessC y c) := by
      unfold lessC
      split
      · rename_i z; exact fun t => cLt_irr _ (cLt_tr z t)
      · exact cLt_irr c
    have hm := h3 _ (List.mem_cons_self ..)
    refine ⟨m, ?_, e.trans h2, fun x hx => ?_⟩
    · rcases List.mem_cons.mp h1 with z | z
      · rw [z]
        unfold lessC
        split
        · exact .tail _ (.head _)
        · exact .head _
      · exact .tail _ (.tail _ z)
    · rcases List.mem_cons.mp hx with z | z
      · rw [z]
        exact cLe_tr hm le2
      · rcases List.mem_cons.mp z with z | z
        · rw [z]
          exact cLe_tr hm le1
        · exact h3 x (.tail _ z)
theorem costD_inj {a b : Cost} (h : costD a = costD b) : a = b := by
  refine cLt_tot (fun z => ?_) fun z => ?_
  · have := cost_lt a b
    rw [h, cost_lt, decide_eq_false (cLt_irr b), decide_eq_true z] at this
    cases this
  · have := cost_lt b a
    rw [← h, cost_lt, decide_eq_false (cLt_irr a), decide_eq_true z] at this
    cases this
def spFa (K : PySem.W.Frag) : Sp := fun vs H Q _ => ∃ (a d : Addr) (ns : List Int) (es : List (Int × Int)), vs = [.ref a, .ref d] ∧ SqL K H a (iV ns) ∧ ns.length ≤ 12 ∧ H d = some (.dK (eK es)) ∧ okC ns es = true ∧
  ∀ H' t ti c, Same H H' → H' t = some (.tup [.int c.1, .ref ti]) → SqT K H' ti (c.2.2.map V.int) → Few ns es c → Q (.ref t) H'
abbrev FaN : List Str := ["contents", "edits", "best", "at", "number", "length", "indexes"]
theorem scFa : FnScope FaN ["contents", "edits"] (defScope sFa) := ⟨rfl, rfl, rfl, by decide +kernel, rfl, by decide +kernel, by decide +kernel⟩
section
variable {P : Program} {w : World} {K : PySem.W.Frag} {mg : Str → Option Value} {base : Heap} {CN CA : Addr}
theorem ent_vals {H : Hp} : ∀ {kvs : List (List Key × V)} {L : List (Stt × Cost)}, Paired (EntB K H) kvs L → DpAll K H (kvs.map (·.2)) (L.map fun x => costD x.2)
  | _, _, .nil => .nil
  | _, _, .cons h t => by
    obtain ⟨_, t0, e, hc⟩ := h
    refine .cons ?_ (ent_vals t)
    dsimp only
    rw [e]
    exact hc.dp
theorem ok_fa {f : Addr} {fd : FuncData} (F : Fun K "fewest_asked" "fewest_asked" sFa f fd) (T : TxtS K mg CN CA) (gM : mg "min" = none) (gL : mg "list" = none) (dO : DefX P w K mg base 3 "check_course" ["contents", "edits"] (spCo K CN)) (dB : Def P w K mg base 3 "best_behind" ["best", "at", "contents", "edits"] (spBb K)) : FnOk P w K mg base (L2.CX P w) 4 f fd ["contents", "edits"] (spFa K) := by
  refine F.okX scFa (fun vs H Q E h => ?_) (fun cdv A outer s H vs Q E hr h => ?_)
  · obtain ⟨a, d, ns, es, rfl, _⟩ := h
    rfl
  · obtain ⟨a, d, ns, es, rfl, hS, n12, hd, ok, k⟩ := h
    have nd := scFa.nd
    have hu : (A.deeper (envOfC "fewest_asked" (defScope sFa) s.heap.objs.size f cdv)).units + 2 < cLine := by have := hr.un; omega
    have hu2 : (A.deeper (envOfC "fewest_asked" (defScope sFa) s.heap.objs.size f cdv)).units + 40 < cLine := by have := hr.un; omega
    refine ⟨_, pss_cons (ps_expr (pe_defX dO hr rfl (passes_call (takes_of rfl rfl rfl rfl) (fun _ _ _ _ h => h)) (pa_cons (pv 0) (pa_cons (pv 1) pa_nil))))
      (pss_cons (ps_set (i := 2) nd rfl (Or.inl rfl) (pe_disp1 hu (pe_tup (pa_cons pe_int (pa_cons pe_int pa_nil))) (pe_tup (pa_cons pe_int (pa_cons pe_int (pa_cons (pe_tup pa_nil) pa_nil))))))
      (pss_cons (ps_for (passes_of rfl) rfl (pi_range1 (by rfl) T.ran (pa_cons (pe_callB call_len_seq (by rfl) T.len PySem.boot_len (pa_cons (pv 0) pa_nil)) pa_nil)) (pg_name (i := 3) nd rfl (Or.inl rfl))
        (pss_one (ps_set (i := 2) nd rfl (Or.inl rfl) (pe_def dB hr rfl (pa_cons (pv 2) (pa_cons (pv 3) (pa_cons (pv 0) (pa_cons (pv 1) pa_nil))))))))
      (pss_cons (ps_asg (pe_callB (cr_minD rfl hu2) (by rfl) gM (by decide +kernel) (pa_cons (pe_callTy (call_list_valsT rfl) (by rfl) gL (by decide +kernel) (pa_cons (pe_bm0 PySem.F.plainAttrs_dict PySem.F.slot_dict_values PySem.F.type_dict_values mt_valsT (pv 2)) pa_nil)) pa_nil)) (pg_tup rfl (pgs_cons (pg_name (i := 4) nd rfl (Or.inl rfl)) (pgs_cons (pg_name (i := 5) nd rfl (Or.inl rfl)) (pgs_cons (pg_name (i := 6) nd rfl (Or.inl rfl)) pgs_nil)))))
      (pss_one (ps_ret (pe_tup (pa_cons (pv 4) (pa_cons (pv 6) pa_nil)))))))), ?_⟩
    refine ⟨_, rfl, _, rfl, a, d, ns, es, rfl, hS, by omega, hd, fun _ H1 s1 => ?_, fun z => by rw [ok] at z; cases z⟩
    refine fun p np => ⟨two_le, fun kq nk => ⟨Nat.zero_le _, fun tz nz => ⟨thr_le, fun tv nv => ?_⟩⟩⟩
    have q1 := Same.upd_new (o := .dT []) np
    have q2 := Same.upd_new (o := .tup [.int 0, .int 0]) nk
    have q3 := Same.upd_new (o := .tup []) nz
    have q4 := Same.upd_new (o := .tup [.int 0, .int 0, .ref tz]) nv
    have S4 := s1.trans (q1.trans (q2.trans (q3.trans q4)))
    have gp := (q2.trans (q3.trans q4)) _ _ (upd_same (H := H1) (a := p) (o := .dT []))
    have gk := (q3.trans q4) _ _ (upd_same (H := upd H1 p (.dT [])) (a := kq) (o := .tup [.int 0, .int 0]))
    have gz := q4 _ _ (upd_same (H := upd (upd H1 p (.dT [])) kq (.tup [.int 0, .int 0])) (a := tz) (o := .tup []))
    have gv := upd_same (H := upd (upd (upd H1 p (.dT [])) kq (.tup [.int 0, .int 0])) tz (.tup [])) (a := tv) (o := .tup [.int 0, .int 0, .ref tz])
    generalize upd (upd (upd (upd H1 p (.dT [])) kq (.tup [.int 0, .int 0])) tz (.tup [])) tv (.tup [.int 0, .int 0, .ref tz]) = H4 at S4 gp gk gz gv ⊢
    refine ⟨gp, kq, keyB (0, 0), rfl, gk, ?_⟩
    have npH : H p = none := none_back s1 np
    have kt5 : Kt K H4 (upd H4 p (.dT [(keyB (0, 0), .ref tv)])) := Kt.put gp (fun _ z => nomatch z) (fun _ _ z => nomatch z)
    have S5 : Same H (upd H4 p (.dT [(keyB (0, 0), .ref tv)])) := fun b o z => by rw [upd_ne (ne_of_none z npH)]; exact S4 _ _ z
    have E5 : Paired (EntB K (upd H4 p (.dT [(keyB (0, 0), .ref tv)]))) [(keyB (0, 0), .ref tv)] [(((0, 0) : Stt), ((0, 0, []) : Cost))] := .cons ⟨rfl, tv, rfl, CostAt.kt kt5 ⟨tz, SqT.of gv, SqT.of gz⟩⟩ .nil
    have g5 : (upd H4 p (.dT [(keyB (0, 0), .ref tv)])) p = some (.dT [(keyB (0, 0), .ref tv)]) := upd_same
    generalize upd H4 p (.dT [(keyB (0, 0), .ref tv)]) = H5 at S5 E5 g5 ⊢
    have li : (iV ns).length = ns.length := List.length_map ..
    refine ⟨_, rfl, a, _, rfl, .inl (S5.seq hS), _, rfl, by rw [li]; omega, by rw [li]; omega, ?_⟩
    rw [li]
    have pw : ∀ j : Nat, j ≤ 12 → 3 ^ j ≤ 3 ^ 12 := fun j h => Nat.pow_le_pow_right (by decide) h
    refine for_it walk_range (fun j σ H' => Same H H' ∧ ∃ bb kvs L x3, H' bb = some (.dT kvs) ∧ Paired (EntB K H') kvs L ∧ Rep L (runs ns es j) ∧ L.length ≤ 3 ^ j ∧ σ = [some (.ref a), some (.ref d), some (.ref bb), x3, none, none, none]) ?_ (fun _ _ _ _ _ => trivial) ?_ ?_
    · exact ⟨S5, p, _, _, _, g5, E5, rep_zero, Nat.le_refl _, rfl⟩
    · rintro j x σ H6 H7 hj ⟨S6, bb, kvs, L, x3, gb, hL, rep, len, rfl⟩ ⟨rfl, rfl⟩
      have hj' : j < ns.length := by simpa using hj
      have p11 : 3 ^ j ≤ 3 ^ 11 := Nat.pow_le_pow_right (by decide) (by omega)
      have p11' : (3 : Nat) ^ 11 = 177147 := by decide
      have ej : ((0 : Int) + (j : Nat)) = ((j : Nat) : Int) := by omega
      refine ⟨_, rfl, _, rfl, _, rfl, _, rfl, bb, a, d, j, ns, es, L, kvs, by show [V.ref bb, V.int (0 + (j : Nat)), V.ref a, V.ref d] = _; rw [ej], gb, hL, fun x hx => Nat.le_trans (runs_idx j x (rep.sub x hx)) (by omega), by omega, S6.seq hS, hj', n12, S6 _ _ hd, fun H8 l8 kvs8 M8 s8 g8 hM8 rep8 len8 => ?_⟩
      refine ⟨S6.trans s8, l8, kvs8, M8, _, g8, hM8, rep_flat (runs_wf j) rep rep8, ?_, rfl⟩
      rw [Nat.pow_succ]
      omega
    · rintro σ H6 ⟨S6, bb, kvs, L, x3, gb, hL, rep, len, rfl⟩
      have rep : Rep L (runs ns es ns.length) := rep
      refine ⟨_, rfl, .inr (.inr (.inl ⟨rfl, .inr ⟨_, gb⟩⟩)), bb, kvs, rfl, rfl, gb, fun vw nvw => ?_⟩
      have q7 := Same.upd_new (o := valsO vw bb) nvw
      refine ⟨vw, bb, kvs, rfl, upd_same, q7 _ _ gb, fun r nr => ?_⟩
      have q8 := Same.upd_new (o := .lst (kvs.map (·.2))) nr
      have S8 := S6.trans (q7.trans q8)
      have g8 : (upd (upd H6 vw (valsO vw bb)) r (.lst (kvs.map (·.2)))) r = some (.lst (kvs.map (·.2))) := upd_same
      have hL8 := pair_imp (fun a b h => EntB.kt (Kt.same (q7.trans q8)) h) hL
      generalize upd (upd H6 vw (valsO vw bb)) r (.lst (kvs.map (·.2))) = H8 at S8 g8 hL8 ⊢
      have dps := ent_vals hL8
      cases L with
      | nil =>
        obtain ⟨y, hy⟩ := runs_some (ns := ns) (es := es) ns.length
        obtain ⟨c, hc⟩ := rep.all y hy
        cases hc
      | cons x0 L =>
        obtain ⟨cs, ecs⟩ : ∃ cs : List Cost, cs = L.map (·.2) := ⟨_, rfl⟩
        obtain ⟨m, m1, m2, m3⟩ := minC cs x0.2
        have e1 : L.map (fun x => costD x.2) = cs.map costD := by rw [ecs, List.map_map]; rfl
        rw [List.map_cons, e1] at dps
        refine ⟨r, _, costD x0.2, cs.map costD, rfl, SqL.of g8, dps, cost_all (x0.2 :: cs), Nat.le_trans (cost_depth (x0.2 :: cs)) (by decide), fun i v hv hi => ?_⟩
        rw [List.getElem?_map] at hv
        obtain ⟨kv, hkv, rfl⟩ := Option.map_eq_some_iff.mp hv
        obtain ⟨x, hx, _, t, et, hc⟩ := paired_get hL8 hkv
        have ex : x.2 = m := by
          have h3 : (costD x0.2 :: cs.map costD)[i]? = some (costD x.2) := by
            have : (costD x0.2 :: cs.map costD) = (x0 :: L).map fun x => costD x.2 := by rw [List.map_cons, e1]
            rw [this, List.getElem?_map, hx]
            rfl
          rw [m2, h3] at hi
          exact costD_inj (Option.some.inj hi)
        rw [et]
        obtain ⟨ti, c1, c2⟩ := hc
        refine ⟨t, _, rfl, c1, rfl, _, _, rfl, _, _, rfl, _, _, rfl, rfl, ?_⟩
        refine ⟨_, rfl, _, rfl, two_le, fun tr ntr => ?_⟩
        have q9 := Same.upd_new (o := .tup [.int x.2.1, .ref ti]) ntr
        refine k _ tr ti x.2 (S8.trans q9) upd_same (q9.sqT c2) ⟨⟨x.1, rep.sub x (List.mem_of_getElem? hx)⟩, fun y hy => ?_⟩
        obtain ⟨c, hcL⟩ := rep.all y hy
        have le := rep.least _ hcL y.2 hy
        rw [ex]
        refine cLe_tr (m3 c ?_) le
        have : c ∈ (x0 :: L).map (·.2) := List.mem_map.mpr ⟨_, hcL, rfl⟩
        rw [List.map_cons, ← ecs] at this
        exact this
end
end Half

namespace Half
open PySem PySem.Spec PyProof.Rows L2
/-! ### other contents -/
def In7 (x : Int) : Prop := 0 ≤ x ∧ x ≤ 7
structure Ren (π : Int → Int) : Prop where
  inj : ∀ x y, In7 x → In7 y → π x = π y → x = y
  zero : π 0 = 0
def renE (π : Int → Int) (es : List (Int × Int)) : List (Int × Int) := es.map fun p => (p.1, π p.2)
def renX (π : Int → Int) (x : Stt × Cost) : Stt × Cost := ((π x.1.1, π x.1.2), x.2)
structure AllIn (ns : List Int) (es : List (Int × Int)) : Prop where
  n : ∀ y ∈ ns, In7 y
  e : ∀ p ∈ es, In7 p.2
section
variable {π : Int → Int} {ns : List Int} {es : List (Int × Int)}
theorem one_ren (R : Ren π) {n p w : Int} {kp : Bool} (hn : In7 n) (hp : In7 p) (hw : In7 w) : one (π n) (π p) (π w) kp = (π (one n p w kp).1, (one n p w kp).2) := by
  unfold one
  by_cases h1 : w = n ∨ w = p
  · have h1' : π w = π n ∨ π w = π p := by
      rcases h1 with e | e
      · exact .inl (by rw [e])
      · exact .inr (by rw [e])
    rw [if_pos h1, if_pos h1']
  · have h1' : ¬ (π w = π n ∨ π w = π p) := fun z => h1 (by
      rcases z with e | e
      · exact .inl (R.inj _ _ hw hn e)
      · exact .inr (R.inj _ _ hw hp e))
    rw [if_neg h1, if_neg h1']
    by_cases h2 : p = n
    · rw [if_pos h2, if_pos (by rw [h2])]
    · rw [if_neg h2, if_neg (fun z => h2 (R.inj _ _ hp hn z))]
      cases kp <;> rfl
theorem one_in7 {n p w : Int} {kp : Bool} (hp : In7 p) (hw : In7 w) : In7 (one n p w kp).1 := by
  unfold one
  split
  · exact hp
  · split
    · exact hw
    · dsimp only
      split
      · exact hp
      · exact hw
theorem edit_ren (i : Int) : edit (renE π es) i = (edit es i).map π := by
  unfold edit renE
  rw [List.find?_map]
  show ((es.find? fun p => decide (p.1 = i)).map _).map _ = _
  cases es.find? fun p => decide (p.1 = i) <;> rfl
theorem edit_in {i : Int} {p : Int} (h : ∀ p ∈ es, In7 p.2) (hp : In7 p) : In7 ((edit es i).getD p) := by
  unfold edit
  cases q : es.find? fun p => decide (p.1 = i) with
  | none => exact hp
  | some x => exact h x (List.mem_of_find?_eq_some q)
theorem edit_getD {i p : Int} : (edit (renE π es) i).getD (π p) = π ((edit es i).getD p) := by
  rw [edit_ren]
  cases edit es i <;> rfl
theorem at_in {i : Nat} (h : ∀ y ∈ ns, In7 y) : In7 (ns.getD i 0) := by
  rw [List.getD_eq_getElem?_getD]
  cases q : ns[i]? with
  | none => exact ⟨by decide, by decide⟩
  | some y => exact h y (List.mem_of_getElem? q)
theorem at_ren (R : Ren π) {i : Nat} : (ns.map π).getD i 0 = π (ns.getD i 0) := by
  rw [List.getD_eq_getElem?_getD, List.getD_eq_getElem?_getD, List.getElem?_map]
  cases ns[i]? with
  | none => exact R.zero.symm
  | some y => rfl
theorem ways_ren (R : Ren π) (A : AllIn ns es) {i : Nat} {x : Stt × Cost} (h1 : In7 x.1.1) (h2 : In7 x.1.2) : ways (ns.map π) (renE π es) i (renX π x) = (ways ns es i x).map (renX π) := by
  unfold ways renX
  dsimp only
  rw [List.map_append, List.map_map, List.length_map, at_ren R, edit_getD]
  refine congr (congrArg _ ?_) (List.map_congr_left fun kp _ => ?_)
  · split <;> rfl
  · show _ = renX π _
    rw [one_ren R h1 (edit_in A.e h2) (at_in A.n)]
    rfl
theorem runs_in (A : AllIn ns es) : ∀ i, ∀ x ∈ runs ns es i, In7 x.1.1 ∧ In7 x.1.2
  | 0, x, h => by
    rw [List.mem_singleton.mp h]
    exact ⟨⟨by decide, by decide⟩, ⟨by decide, by decide⟩⟩
  | i + 1, x, h => by
    obtain ⟨y, hy, hx⟩ := List.mem_flatMap.mp h
    obtain ⟨a, b⟩ := runs_in A i y hy
    unfold ways at hx
    rcases List.mem_append.mp hx with q | q
    · split at q
      · rw [List.mem_singleton.mp q]
        exact ⟨a, edit_in A.e b⟩
      · cases q
    · obtain ⟨kp, _, rfl⟩ := List.mem_map.mp q
      exact ⟨at_in A.n, one_in7 (edit_in A.e b) (at_in A.n)⟩
theorem flat_congr {α β : Type} {f g : α → List β} : ∀ {l : List α}, (∀ x ∈ l, f x = g x) → l.flatMap f = l.flatMap g
  | [], _ => rfl
  | x :: l, h => by
    rw [List.flatMap_cons, List.flatMap_cons, h x (.head _), flat_congr fun y hy => h y (.tail _ hy)]
theorem runs_ren (R : Ren π) (A : AllIn ns es) : ∀ i, runs (ns.map π) (renE π es) i = (runs ns es i).map (renX π)
  | 0 => by
    show [_] = [_]
    unfold renX
    rw [R.zero]
  | i + 1 => by
    show (runs (ns.map π) (renE π es) i).flatMap _ = ((runs ns es i).flatMap _).map _
    rw [runs_ren R A i, List.flatMap_map, List.map_flatMap]
    exact flat_congr fun x hx => ways_ren R A (runs_in A i x hx).1 (runs_in A i x hx).2
theorem few_ren (R : Ren π) (A : AllIn ns es) {c c' : Cost} (h : Few ns es c) (h' : Few (ns.map π) (renE π es) c') : c = c' := by
  unfold Few at h'
  rw [List.length_map, runs_ren R A] at h'
  obtain ⟨⟨st, hs⟩, hl⟩ := h
  obtain ⟨⟨st', hs'⟩, hl'⟩ := h'
  obtain ⟨y, hy, e⟩ := List.mem_map.mp hs'
  refine cLt_tot (hl' _ (List.mem_map.mpr ⟨_, hs, rfl⟩)) ?_
  have := hl y hy
  have e2 : y.2 = c' := congrArg Prod.snd e
  rwa [e2] at this
theorem stF_in (A : AllIn ns es) {kp : Bool} : ∀ i, In7 (stF es kp ns i).1 ∧ In7 (stF es kp ns i).2.1
  | 0 => by
    show In7 0 ∧ In7 0
    exact ⟨⟨by decide, by decide⟩, ⟨by decide, by decide⟩⟩
  | i + 1 => ⟨at_in A.n, one_in7 (edit_in A.e (stF_in A i).2) (at_in A.n)⟩
theorem stF_ren (R : Ren π) (A : AllIn ns es) {kp : Bool} : ∀ i, stF (renE π es) kp (ns.map π) i = (π (stF es kp ns i).1, π (stF es kp ns i).2.1, (stF es kp ns i).2.2)
  | 0 => by
    show (0, 0, []) = (π 0, π 0, [])
    rw [R.zero]
  | i + 1 => by
    have ih := stF_ren R A (kp := kp) i
    have := stF_in A (kp := kp) i
    rw [stF, ih]
    dsimp only
    rw [edit_getD, at_ren R, one_ren R this.1 (edit_in A.e this.2) (at_in A.n)]
    rfl
/-! ### one way through -/
theorem stF_run {kp : Bool} : ∀ i, ∃ l, (((stF es kp ns i).1, (stF es kp ns i).2.1), (((stF es kp ns i).2.2.length : Int), (i : Int), l)) ∈ runs ns es i
  | 0 => ⟨[], .head _⟩
  | i + 1 => by
    obtain ⟨l, h⟩ := stF_run (kp := kp) i
    refine ⟨l ++ [(i : Int)], List.mem_flatMap.mpr ⟨_, h, ?_⟩⟩
    unfold ways
    refine List.mem_append_right _ (List.mem_map.mpr ⟨kp, by cases kp <;> simp, ?_⟩)
    rw [stF]
    dsimp only
    refine Prod.ext rfl (Prod.ext ?_ (Prod.ext ?_ rfl))
    · dsimp only
      split
      · rw [List.length_append]
        show _ = ((_ + 1 : Nat) : Int)
        omega
      · omega
    · dsimp only
      omega
theorem few_le {kp : Bool} {c : Cost} (h : Few ns es c) : c.1 ≤ ((stF es kp ns ns.length).2.2.length : Int) := by
  obtain ⟨l, hl⟩ := stF_run (ns := ns) (es := es) (kp := kp) ns.length
  have := h.2 _ hl
  unfold cLt at this
  dsimp only at this
  omega
theorem runs_shape : ∀ i, ∀ x ∈ runs ns es i, 0 ≤ x.2.1 ∧ x.2.2.1 = (x.2.2.2.length : Int)
  | 0, x, h => by
    rw [List.mem_singleton.mp h]
    exact ⟨by decide, rfl⟩
  | i + 1, x, h => by
    obtain ⟨y, hy, hx⟩ := List.mem_flatMap.mp h
    obtain ⟨a, b⟩ := runs_shape i y hy
    unfold ways at hx
    rcases List.mem_append.mp hx with q | q
    · split at q
      · rw [List.mem_singleton.mp q]
        exact ⟨a, b⟩
      · cases q
    · obtain ⟨kp, _, rfl⟩ := List.mem_map.mp q
      refine ⟨?_, ?_⟩
      · dsimp only
        split <;> omega
      · dsimp only
        rw [List.length_append, b]
        rfl
theorem runs_last {n : Nat} (hn : ns.length = n + 1) : ∀ x ∈ runs ns es (n + 1), ∃ s, x.2.2.2 = s ++ [(n : Int)] := fun x h => by
  obtain ⟨y, hy, hx⟩ := List.mem_flatMap.mp h
  unfold ways at hx
  rcases List.mem_append.mp hx with q | q
  · rw [if_neg (by omega)] at q
    cases q
  · obtain ⟨kp, _, rfl⟩ := List.mem_map.mp q
    exact ⟨_, rfl⟩
theorem few_last {n : Nat} (hn : ns.length = n + 1) {c : Cost} (h : Few ns es c) : ∃ s, c.2.2 = s ++ [(n : Int)] := by
  obtain ⟨⟨st, hs⟩, _⟩ := h
  rw [hn] at hs
  exact runs_last hn _ hs
/-! ### no edits -/
theorem skip_all {n : Nat} (hn : ns.length = n + 1) : ∀ i, i ≤ n → (((0, 0), (0, 0, [])) : Stt × Cost) ∈ runs ns [] i
  | 0, _ => .head _
  | i + 1, h => by
    refine List.mem_flatMap.mpr ⟨_, skip_all hn i (by omega), ?_⟩
    unfold ways
    rw [if_pos (by omega)]
    exact List.mem_append_left _ (.head _)
theorem one_same {n w : Int} {kp : Bool} : one n n w kp = (w, false) := by
  unfold one
  by_cases h : w = n ∨ w = n
  · rw [if_pos h]
    rcases h with e | e <;> rw [e]
  · rw [if_neg h, if_pos rfl]
theorem few_bare {n : Nat} (hn : ns.length = n + 1) {c : Cost} (h : Few ns [] c) : c = (0, 1, [(n : Int)]) := by
  have hx : ((ns.getD n 0, ns.getD n 0), ((0, 1, [(n : Int)]) : Cost)) ∈ runs ns [] (n + 1) := by
    refine List.mem_flatMap.mpr ⟨_, skip_all hn n (Nat.le_refl _), ?_⟩
    unfold ways
    refine List.mem_append_right _ (List.mem_map.mpr ⟨true, .head _, ?_⟩)
    have e : (edit [] (n : Int)).getD 0 = 0 := rfl
    dsimp only
    rw [e, one_same]
    rfl
  obtain ⟨⟨st, hs⟩, hl⟩ := h
  rw [hn] at hs hl
  obtain ⟨a, b⟩ := runs_shape _ _ hs
  obtain ⟨s, e⟩ := runs_last hn _ hs
  refine (cLt_tot (hl _ hx) ?_).symm
  dsimp only at a b e
  rw [e, List.length_append] at b
  unfold cLt
  dsimp only
  rintro (z | ⟨_, z | ⟨z, t⟩⟩)
  · omega
  · have : (([(n : Int)] : List Int).length) = 1 := rfl
    omega
  · have l1 : (([(n : Int)] : List Int).length) = 1 := rfl
    have : s = [] := List.length_eq_zero_iff.mp (by omega)
    rw [e, this] at t
    exact il_irr _ t
theorem stF_bare {kp : Bool} : ∀ i, stF [] kp ns (i + 1) = (ns.getD i 0, ns.getD i 0, [])
  | 0 => by
    rw [stF]
    show (_, (one 0 0 (ns.getD 0 0) kp).1, if (one 0 0 (ns.getD 0 0) kp).2 = true then _ else _) = _
    rw [one_same]
    rfl
  | i + 1 => by
    have ih := stF_bare (kp := kp) i
    rw [stF, ih]
    show (_, (one (ns.getD i 0) (ns.getD i 0) (ns.getD (i + 1) 0) kp).1, if (one (ns.getD i 0) (ns.getD i 0) (ns.getD (i + 1) 0) kp).2 = true then _ else _) = _
    rw [one_same]
    rfl
/-! ### the same setup again -/
theorem one_again {p w : Int} {kp : Bool} : one w p w kp = (p, false) := by
  unfold one
  rw [if_pos (.inl rfl)]
theorem stF_app {kp : Bool} {l : Int} : ∀ i, i ≤ ns.length → stF es kp (ns ++ [l]) i = stF es kp ns i
  | 0, _ => rfl
  | i + 1, h => by
    have e : (ns ++ [l]).getD i 0 = ns.getD i 0 := by
      rw [List.getD_eq_getElem?_getD, List.getD_eq_getElem?_getD, List.getElem?_append_left (by omega)]
    rw [stF, stF, stF_app i (by omega), e]
theorem stF_again {n : Nat} {kp : Bool} (hn : ns.length = n + 1) (he : edit es ((n + 1 : Nat) : Int) = none) : (stF es kp (ns ++ [ns.getD n 0]) (n + 2)).2 = (stF es kp ns (n + 1)).2 := by
  have e : (ns ++ [ns.getD n 0]).getD (n + 1) 0 = ns.getD n 0 := by
    rw [List.getD_eq_getElem?_getD, List.getElem?_append_right (by omega), hn, Nat.sub_self]
    rfl
  have e1 : (stF es kp ns (n + 1)).1 = ns.getD n 0 := rfl
  rw [stF]
  dsimp only
  rw [stF_app (n + 1) (by omega), e, he, e1]
  show ((one _ (stF es kp ns (n + 1)).2.1 _ kp).1, if (one _ (stF es kp ns (n + 1)).2.1 _ kp).2 = true then _ else _) = _
  rw [one_again]
  rfl
theorem stF_lt {kp : Bool} : ∀ i, ∀ j ∈ (stF es kp ns i).2.2, j < (i : Int)
  | 0, j, h => nomatch h
  | i + 1, j, h => by
    have ih := stF_lt (kp := kp) i
    rw [stF] at h
    dsimp only at h
    split at h
    · rcases List.mem_append.mp h with q | q
      · have := ih j q
        omega
      · rw [List.mem_singleton.mp q]
        omega
    · have := ih j h
      omega
theorem stF_take {n : Nat} {s : List Int} (h : (stF es false ns (n + 1)).2.2 = s ++ [(n : Int)]) : (stF es false ns (n + 1)).2.1 = ns.getD n 0 := by
  have lt := stF_lt (ns := ns) (es := es) (kp := false) n
  rw [stF] at h ⊢
  dsimp only at h ⊢
  generalize (edit es n).getD (stF es false ns n).2.1 = p at h ⊢
  cases q : (one (stF es false ns n).1 p (ns.getD n 0) false).2 with
  | false =>
    rw [q, if_neg (by decide)] at h
    have := lt n (by rw [h]; exact List.mem_append_right _ (.head _))
    omega
  | true =>
    revert q
    unfold one
    split
    · intro q; cases q
    · split
      · intro q; cases q
      · intro _
        rfl
end
end Half

namespace Half
open PySem PySem.Spec PyProof.Rows L2 LamX
abbrev sLaw : Stmt := top 20
abbrev LawN : List Str := ["_law_script", "_law_turn", "_law_left", "_law_k", "_law_contents", "_law_content", "_law_others", "_law_put", "_law_fewest", "_law_last", "_law_answer", "_law_asked", "_law_again", "_law_bare", "_law_row", "_law_new", "_law_edits"]
theorem scLaw : FnScope LawN ["_law_script"] (defScope sLaw) := ⟨rfl, rfl, rfl, by decide +kernel, rfl, by decide +kernel, by decide +kernel⟩
abbrev lBody : List Stmt := forBody (nth (defBody sLaw) 1)
theorem next_read {D : Ends} {σ : L2.St} {H : Hp} (h : D.nx σ H) : tNext D σ H := h
theorem seq_read {t u : TS} {D : Ends} {σ : L2.St} {H : Hp} (h : t { D with nx := u D } σ H) : tSeq t u D σ H := h
theorem if_read {c : TT} {t u : TS} {D : Ends} {σ : L2.St} {H : Hp} (h : c σ H fun b H1 => if b = true then t D σ H1 else u D σ H1) : tIfS c t u D σ H := h
theorem set_read {te : TE} {i : Nat} {D : Ends} {σ : L2.St} {H : Hp} (h : te σ H fun x H1 => D.nx (σ.set i (some x)) H1) : tAsg te (gName i) D σ H := h
theorem one_le : 1 ≤ sizeLine := by decide
/-! ### the row -/
structure Dr (r a : Addr) (H H' : Hp) : Prop where
  sb : SameBut r H H'
  at_ : ∃ i g l : Int, 0 ≤ i ∧ H' r = some (.lst [.ref a, .int i, .int g, .int l])
section
variable {K : PySem.W.Frag} {r a : Addr} {H H' H'' : Hp}
theorem Row.dr (h : Row K H r a) : Dr r a H H := by
  obtain ⟨ns, i, g, l, h1, h2, h3, h4⟩ := h
  exact ⟨fun _ _ _ q => q, i, g, l, h4, h1⟩
theorem Dr.row (h : Row K H r a) (d : Dr r a H H') : Row K H' r a := by
  obtain ⟨ns, i, g, l, h1, h2, h3, h4⟩ := h
  obtain ⟨i', g', l', e1, e2⟩ := d.at_
  refine ⟨ns, i', g', l', e2, ?_, h3, e1⟩
  have z : HO.lst (ns.map V.int) ≠ HO.lst [.ref a, .int i, .int g, .int l] := fun z => by
    have z' : ns.map V.int = [.ref a, .int i, .int g, .int l] := by injection z
    cases ns with
    | nil => cases z'
    | cons n ns => cases z'
  rcases h2 with (q | ⟨o, q⟩) | q
  · exact .inl (.inl (d.sb _ _ (ne_of q h1 z) q))
  · exact .inl (.inr ⟨o, d.sb _ _ (ne_of q h1 (by intro z; cases z)) q⟩)
  · exact .inr q
theorem Row.at_ (h : Row K H r a) : ∃ xs, H r = some (.lst xs) := by
  obtain ⟨ns, i, g, l, h1, _⟩ := h
  exact ⟨_, h1⟩
theorem Row.ne {D : Addr} (h : Row K H r a) (hD : H D = none) : D ≠ r := fun z => by
  obtain ⟨ys, hr⟩ := h.at_
  rw [z, hr] at hD
  cases hD
theorem Row.of (S : Row K H r a) (e : Same H H') : Dr r a H H' := by
  obtain ⟨ns, i, g, l, h1, _, _, h4⟩ := S
  exact ⟨fun b o _ q => e _ _ q, i, g, l, h4, e _ _ h1⟩
theorem Row.same (S : Row K H r a) (e : Same H H') : Row K H' r a := Dr.row S (S.of e)
theorem Dr.same (d : Dr r a H H') (S : Same H' H'') : Dr r a H H'' := by
  obtain ⟨i, g, l, e1, e2⟩ := d.at_
  exact ⟨fun b o n q => S _ _ (d.sb b o n q), i, g, l, e1, S _ _ e2⟩
theorem Dr.trans (d : Dr r a H H') (e : Dr r a H' H'') : Dr r a H H'' := ⟨fun b o n q => e.sb b o n (d.sb b o n q), e.at_⟩
theorem Dr.draw {o : HO} (h : Row K (upd H r o) r a) : Dr r a H (upd H r o) := by
  obtain ⟨ns, i, g, l, h1, h2, h3, h4⟩ := h
  exact ⟨fun b u n q => by rw [upd_ne n]; exact q, i, g, l, h4, h1⟩
theorem Dr.put {D : Addr} {o : HO} (d : Dr r a H H') (hD : H D = none) (ne : D ≠ r) : Dr r a H (upd H' D o) := by
  obtain ⟨i, g, l, e1, e2⟩ := d.at_
  exact ⟨fun b u n q => by rw [upd_ne (ne_of_none q hD)]; exact d.sb b u n q, i, g, l, e1, by rw [upd_ne (Ne.symm ne)]; exact e2⟩
theorem taken_read {m : Int} {Q : VK} {E : XK} (h : Row K H r a) (h0 : 0 < m) (h1 : m < 1073741824) (k : ∀ v H', 0 ≤ v → v < m → Dr r a H H' → Q (.int v) H') : spTaken K [.ref r, .int m] H Q E :=
  ⟨r, m, a, rfl, h, h0, h1, fun v o v0 v1 R => k v _ v0 v1 (Dr.draw R)⟩
theorem Row.dic {d : Addr} {kk : List (Key × V)} {o : HO} (hd : H d = some (.dK kk)) (h : Row K H r a) : Row K (upd H d o) r a := by
  obtain ⟨ns, i, g, l, h1, h2, h3, h4⟩ := h
  refine ⟨ns, i, g, l, by rw [upd_ne (ne_of h1 hd (by intro z; cases z))]; exact h1, ?_, h3, h4⟩
  rcases h2 with (q | ⟨o, q⟩) | q
  · exact .inl (.inl (by rw [upd_ne (ne_of q hd (by intro z; cases z))]; exact q))
  · exact .inl (.inr ⟨o, by rw [upd_ne (ne_of q hd (by intro z; cases z))]; exact q⟩)
  · exact .inr q
end
theorem none_of {H H' : Hp} {l : Addr} (s : Same H H') (h : H' l = none) : H l = none := by
  cases e : H l with
  | none => rfl
  | some o => rw [s _ _ e] at h; cases h
theorem ints_ne {H : Hp} {K : PySem.W.Frag} {r a l : Addr} {ns : List Int} (h : Row K H r a) (hl : H l = some (.lst (iV ns))) : l ≠ r := by
  obtain ⟨_, i, g, j, h1, _⟩ := h
  refine ne_of hl h1 fun z => ?_
  have z' : ns.map V.int = [.ref a, .int i, .int g, .int j] := by injection z
  cases ns with
  | nil => cases z'
  | cons n ns => cases z'
theorem lay_list : ∀ {ds : List PyData}, (∀ d ∈ ds, PyData.canLay0 d = true ∧ PyData.depth d ≤ 3) → PyData.canLayAll0 ds = true ∧ PyData.depthAll ds ≤ 3
  | [], _ => ⟨by simp [PyData.canLayAll0], by simp [PyData.depthAll]⟩
  | d :: ds, h => by
    obtain ⟨a, b⟩ := h d List.mem_cons_self
    obtain ⟨x, y⟩ := lay_list fun e he => h e (List.mem_cons_of_mem _ he)
    refine ⟨by simp [PyData.canLayAll0, a, x], ?_⟩
    simp only [PyData.depthAll]
    omega
theorem shaped_list {ds : List PyData} (h : ∀ d ∈ ds, PyData.canLay0 d = true ∧ PyData.depth d ≤ 3) : SeqAt.shaped (.list ds) = true := by
  obtain ⟨a, b⟩ := lay_list h
  unfold SeqAt.shaped
  rw [Bool.and_eq_true]
  refine ⟨by simp only [PyData.canLay0]; exact a, decide_eq_true ?_⟩
  simp only [PyData.depth]
  omega
theorem ints_lay (ns : List Int) : ∀ d ∈ ns.map PyData.int, PyData.canLay0 d = true ∧ PyData.depth d ≤ 3 := fun d hd => by
  obtain ⟨n, _, rfl⟩ := List.mem_map.mp hd
  simp [PyData.canLay0, PyData.depth]
theorem dpInts {K : PySem.W.Frag} {H : Hp} : ∀ ns : List Int, DpAll K H (iV ns) (ns.map PyData.int)
  | [] => .nil
  | n :: ns => .cons (.int n) (dpInts ns)
/-! ### the new names -/
theorem erase_map {α β : Type} {f : α → β} : ∀ (xs : List α) (k : Nat), (xs.map f).eraseIdx k = (xs.eraseIdx k).map f
  | [], _ => rfl
  | _ :: _, 0 => rfl
  | x :: xs, k + 1 => by
    show f x :: (xs.map f).eraseIdx k = f x :: (xs.eraseIdx k).map f
    rw [erase_map xs k]
theorem erase_perm {α : Type} : ∀ {xs : List α} {k : Nat} {y : α}, xs[k]? = some y → (y :: xs.eraseIdx k).Perm xs
  | [], _, _, h => by cases h
  | x :: xs, 0, y, h => by
    cases h
    exact List.Perm.refl _
  | x :: xs, k + 1, y, h => by
    have ih := erase_perm (xs := xs) (k := k) (y := y) h
    exact (List.Perm.swap x y _).trans (ih.cons x)
theorem erase_len {α : Type} : ∀ {xs : List α} {k : Nat}, k < xs.length → (xs.eraseIdx k).length + 1 = xs.length
  | [], _, h => by cases h
  | x :: xs, 0, _ => rfl
  | x :: xs, k + 1, h => by
    have ih := erase_len (xs := xs) (k := k) (by simpa using h)
    show (xs.eraseIdx k).length + 1 + 1 = _
    rw [ih]
    rfl
abbrev SEV : List Int := [1, 2, 3, 4, 5, 6, 7]
def PermM (ms : List Int) : Prop := ∃ M, ms = 0 :: M ∧ M.Perm SEV
def pi (ms : List Int) (x : Int) : Int := ms.getD x.toNat 0
section
variable {ms : List Int}
theorem PermM.len (h : PermM ms) : ms.length = 8 := by
  obtain ⟨M, rfl, p⟩ := h
  rw [List.length_cons, p.length_eq]
  rfl
theorem PermM.nd (h : PermM ms) : ms.Nodup := by
  obtain ⟨M, rfl, p⟩ := h
  refine List.nodup_cons.mpr ⟨fun z => ?_, p.nodup_iff.mpr (by decide)⟩
  exact absurd (p.mem_iff.mp z) (by decide)
theorem pi_get (h : PermM ms) {x : Int} (hx : In7 x) : ms[x.toNat]? = some (pi ms x) := by
  have l := h.len
  obtain ⟨x0, x7⟩ := hx
  unfold pi
  rw [List.getD_eq_getElem?_getD, List.getElem?_eq_getElem (by omega)]
  rfl
theorem pi_at (h : PermM ms) {x : Int} (hx : In7 x) : atI (iV ms) x = some (.int (pi ms x)) := by
  have e : atI (iV ms) ((x.toNat : Nat) : Int) = some (.int (pi ms x)) := atI_nat (by rw [iV, List.getElem?_map, pi_get h hx]; rfl)
  rwa [show ((x.toNat : Nat) : Int) = x by have := hx.1; omega] at e
theorem ren_of (h : PermM ms) : Ren (pi ms) := by
  refine ⟨fun x y hx hy e => ?_, ?_⟩
  · have l := h.len
    have a := pi_get h hx
    have b := pi_get h hy
    rw [← e] at b
    obtain ⟨x0, x7⟩ := hx
    obtain ⟨y0, y7⟩ := hy
    have lx : x.toNat < ms.length := by omega
    have ly : y.toNat < ms.length := by omega
    rw [List.getElem?_eq_getElem lx] at a
    rw [List.getElem?_eq_getElem ly] at b
    have := (List.getElem_inj (h₀ := lx) (h₁ := ly) h.nd).mp ((Option.some.inj a).trans (Option.some.inj b).symm)
    omega
  · obtain ⟨M, rfl, _⟩ := h
    rfl
theorem pi_pos (h : PermM ms) {x : Int} (h1 : 1 ≤ x) (h7 : x ≤ 7) : 1 ≤ pi ms x ∧ pi ms x ≤ 7 := by
  have g := pi_get h (x := x) ⟨by omega, h7⟩
  obtain ⟨M, rfl, p⟩ := h
  obtain ⟨k, hk⟩ : ∃ k, x.toNat = k + 1 := ⟨x.toNat - 1, by omega⟩
  rw [hk] at g
  have hm : pi (0 :: M) x ∈ M := List.mem_of_getElem? (i := k) g
  have := p.mem_iff.mp hm
  have all : ∀ y ∈ SEV, 1 ≤ y ∧ y ≤ 7 := by decide
  exact all _ this
theorem pi_in (h : PermM ms) {x : Int} (hx : In7 x) : In7 (pi ms x) := by
  by_cases c : x = 0
  · rw [c, (ren_of h).zero]
    exact ⟨by decide, by decide⟩
  · have := pi_pos h (x := x) (by have := hx.1; omega) hx.2
    exact ⟨by omega, this.2⟩
end
/-! ### the edits as they grow -/
structure Ed7 (es : List (Int × Int)) (i : Nat) : Prop where
  rg : ∀ p ∈ es, 0 ≤ p.1 ∧ p.1 < i ∧ 0 ≤ p.2 ∧ p.2 < 7
  len : es.length ≤ i
  nd : (es.map (·.1)).Nodup
theorem Ed7.skip {es : List (Int × Int)} {i : Nat} (h : Ed7 es i) : Ed7 es (i + 1) := ⟨fun p hp => by have := h.rg p hp; omega, by have := h.len; omega, h.nd⟩
theorem Ed7.add {es : List (Int × Int)} {i : Nat} {v : Int} (h : Ed7 es i) (h0 : 0 ≤ v) (h1 : v < 7) : Ed7 (es ++ [((i : Int), v)]) (i + 1) := by
  refine ⟨fun p hp => ?_, by rw [List.length_append]; have := h.len; show _ + 1 ≤ _; omega, ?_⟩
  · rcases List.mem_append.mp hp with q | q
    · have := h.rg p q
      omega
    · rw [List.mem_singleton.mp q]
      exact ⟨by omega, by show (i : Int) < ((i + 1 : Nat) : Int); omega, h0, h1⟩
  · rw [List.map_append]
    refine List.nodup_append.mpr ⟨h.nd, List.nodup_cons.mpr ⟨fun z => (nomatch z), List.nodup_nil⟩, fun a ha b hb e => ?_⟩
    obtain ⟨p, hp, rfl⟩ := List.mem_map.mp ha
    have := h.rg p hp
    have hb : b = (i : Int) := List.mem_singleton.mp hb
    omega
theorem put_fresh {es : List (Int × Int)} {k v : Int} (h : ∀ p ∈ es, p.1 ≠ k) : putK (eK es) (.inl k) (.int v) = eK (es ++ [(k, v)]) := by
  unfold putK
  rw [if_neg ?_]
  · unfold eK
    rw [List.map_append]
    rfl
  · intro z
    obtain ⟨kv, h1, h2⟩ := List.any_eq_true.mp z
    obtain ⟨p, hp, rfl⟩ := List.mem_map.mp h1
    have e := of_decide_eq_true h2
    exact h p hp (Sum.inl.inj e)
theorem put_edit {es : List (Int × Int)} {i : Nat} {v : Int} (h : Ed7 es i) : putK (eK es) (.inl (i : Int)) (.int v) = eK (es ++ [((i : Int), v)]) := put_fresh fun p hp => by
  have := h.rg p hp
  omega
theorem okC_of {ns : List Int} {es : List (Int × Int)} (h1 : ns.length ≤ 12) (h2 : ∀ n ∈ ns, 1 ≤ n ∧ n ≤ 7) (h3 : ∀ p ∈ es, 0 ≤ p.1 ∧ p.1 < ns.length ∧ 0 ≤ p.2 ∧ p.2 ≤ 7) : okC ns es = true := by
  unfold okC
  have h2' : ∀ n ∈ ns, inR (.int n) 1 99 = true := fun n hn => by
    have := h2 n hn
    show (decide (1 ≤ n) && decide (n ≤ 99)) = true
    rw [decide_eq_true (by omega), decide_eq_true (by omega)]
    rfl
  rw [decide_eq_true h1, List.all_eq_true.mpr h2', Bool.true_and, Bool.true_and]
  refine List.all_eq_true.mpr fun p hp => ?_
  have := h3 p hp
  rw [Bool.and_eq_true]
  constructor
  · show (decide (0 ≤ p.1) && decide (p.1 ≤ (ns.length : Int) - 1)) = true
    rw [decide_eq_true (by omega), decide_eq_true (by omega)]
    rfl
  · show (decide (0 ≤ p.2) && decide (p.2 ≤ 99)) = true
    rw [decide_eq_true (by omega), decide_eq_true (by omega)]
    rfl
structure LawD (P : Program) (w : World) (K : PySem.W.Frag) (mg : Str → Option Value) (base : Heap) (CN CA : Addr) : Prop where
  T : TxtS K mg CN CA
  gL : mg "list" = none
  gD : mg "dict" = none
  dT : Def P w K mg base 1 "_law_taken" ["_law_row", "_law_many"] (spTaken K)
  dD : DefX P w K mg base 3 "settled" ["noted", "present", "new", "answer"] (spSd CN CA)
  dA : DefX P w K mg base 4 "settled_all" ["contents", "edits", "answer"] (spSa K CN CA)
  dF : DefX P w K mg base 4 "fewest_asked" ["contents", "edits"] (spFa K)
theorem while_read {c : TT} {tb : TS} {D : Ends} {σ : L2.St} {H : Hp} (W : Nat → L2.St → Hp → Prop) (h0 : ∃ m, W m σ H) (h : ∀ m σ H, W m σ H → c σ H fun b H1 => if b = true then ∃ N : L2.St → Hp → Prop, (∀ σ' H', N σ' H' → ∃ m', m' < m ∧ W m' σ' H') ∧ tb { D with nx := N, ct := N, bk := D.nx } σ H1 else D.nx σ H1) : tWhile c tb D σ H := ⟨W, h0, h⟩
theorem ne_nil (L : List Int) : (!PyData.eqv (.list (L.map PyData.int)) (.list [])) = !decide (L = []) := by
  cases L with
  | nil => rfl
  | cons x L => rw [decide_eq_false (by simp)]; simp [PyData.eqv, PyData.eqvAll]
theorem shaped_ints (L : List Int) : SeqAt.shaped (.list (L.map PyData.int)) = true := shaped_list (ints_lay L)
section
variable {P : Program} {w : World} {K : PySem.W.Frag} {mg : Str → Option Value} {base : Heap} {CN CA : Addr}
theorem law_1 {f : Addr} {cdv : Value} {A : Around} {outer : List Env} {s : Shared} {H0 : Hp} {E : XK} {tR : TS} (L : LawD P w K mg base CN CA)
    (hr : Room 5 (A.deeper (envOfC "law" (defScope sLaw) s.heap.objs.size f cdv))) (nd : LawN.Nodup) (hR : PSs (cxOf CX0 P w K mg base LawN "law" (defScope sLaw) f cdv A outer s H0 E).nox (lBody.drop 2) tR) :
    ∃ t, PSs (cxOf CX0 P w K mg base LawN "law" (defScope sLaw) f cdv A outer s H0 E).nox lBody t ∧ ∀ (D' : Ends) (H : Hp) (r a : Addr) (x0 x1 x2 x3 x4 x5 x6 x7 x8 x9 x10 x11 x12 x13 x15 x16 : Option V), Row K H r a →
      (∀ H' lM ms x2, Row K H' r a → H' lM = some (.lst (iV ms)) → PermM ms → tR D' [x0, x1, x2, x3, x4, x5, x6, x7, x8, x9, x10, x11, x12, x13, some (.ref r), some (.ref lM), x16] H') →
      t D' [x0, x1, x2, x3, x4, x5, x6, x7, x8, x9, x10, x11, x12, x13, some (.ref r), x15, x16] H := by
  have r1 : Room 1 _ := hr.mono (by decide)
  refine ⟨_, pss_cons (ps_asg (pe_tup (pa_cons (pe_listRg rfl rfl L.gL (prg_2 rfl L.T.ran pe_int pe_int)) (pa_cons (pe_lst (pa_cons pe_int pa_nil)) pa_nil))) (pg_tup rfl (pgs_cons (pg_name (i := 2) nd rfl (Or.inl rfl)) (pgs_cons (pg_name (i := 15) nd rfl (Or.inr rfl)) pgs_nil))))
    (pss_cons (ps_while PassesOwn.never (pt_cmpR (op_neD hr.units) (pv 2) (pe_lst pa_nil) (nomark _)) (pss_one (ps_expr (pe_bm PySem.F.plainAttrs_list PySem.F.slot_list_append PySem.F.type_list_append mt_append (pv 15) (pa_cons (pe_bm PySem.F.plainAttrs_list PySem.F.slot_list_pop PySem.F.type_list_pop mt_popAt (pv 2) (pa_cons (pe_def L.dT r1 rfl (pa_cons (pv 14) (pa_cons (pe_callB call_len_seq (by rfl) L.T.len PySem.boot_len (pa_cons (pv 2) pa_nil)) pa_nil))) pa_nil)) pa_nil))))) hR), ?_⟩
  intro D' H r a x0 x1 x2 x3 x4 x5 x6 x7 x8 x9 x10 x11 x12 x13 x15 x16 hI k
  refine ⟨1, 8, rfl, rfl, RgOk.of_le (by decide) (by decide) (by decide) (by decide), fun lL nL => ⟨one_le, fun lM nM => ⟨two_le, fun tt ntt => ?_⟩⟩⟩
  have q1 := Same.upd_new (o := .lst (rgV 1 8)) nL
  have q2 := Same.upd_new (o := .lst [.int 0]) nM
  have q3 := Same.upd_new (o := .tup [.ref lL, .ref lM]) ntt
  have s3 := q1.trans (q2.trans q3)
  have gL : (upd (upd (upd H lL (.lst (rgV 1 8))) lM (.lst [.int 0])) tt (.tup [.ref lL, .ref lM])) lL = some (.lst (iV SEV)) := (q2.trans q3) _ _ upd_same
  have gM := q3 _ _ (upd_same (H := upd H lL (.lst (rgV 1 8))) (a := lM) (o := .lst [.int 0]))
  have gT : SqT K (upd (upd (upd H lL (.lst (rgV 1 8))) lM (.lst [.int 0])) tt (.tup [.ref lL, .ref lM])) tt [.ref lL, .ref lM] := SqT.of upd_same
  have nM0 : H lM = none := none_of q1 nM
  have ne : lL ≠ lM := fun z => by rw [← z, upd_same] at nM; cases nM
  generalize upd (upd (upd H lL (.lst (rgV 1 8))) lM (.lst [.int 0])) tt (.tup [.ref lL, .ref lM]) = H3 at s3 gL gM gT ⊢
  refine ⟨tt, _, rfl, gT, rfl, _, _, rfl, _, _, rfl, rfl, ?_⟩
  refine while_read (fun m σ H' => Dr r a H H' ∧ ∃ Ls M, Ls.length = m ∧ H' lL = some (.lst (iV Ls)) ∧ H' lM = some (.lst (iV (0 :: M))) ∧ (M ++ Ls).Perm SEV ∧ σ = [x0, x1, some (.ref lL), x3, x4, x5, x6, x7, x8, x9, x10, x11, x12, x13, some (.ref r), some (.ref lM), x16]) ⟨7, hI.of s3, SEV, [], rfl, gL, gM, List.Perm.refl _, rfl⟩ ?_
  rintro m σ H4 ⟨d4, Ls, M, hm, gL4, gM4, hp, rfl⟩
  have I4 := d4.row hI
  refine ⟨_, rfl, Nat.zero_le _, fun l5 n5 => ?_⟩
  have s5 := Same.upd_new (o := .lst []) n5
  have g5 : (upd H4 l5 (.lst [])) l5 = some (.lst []) := upd_same
  have d5 := d4.same s5
  have gL5 := s5 _ _ gL4
  have gM5 := s5 _ _ gM4
  generalize upd H4 l5 (.lst []) = H5 at s5 g5 d5 gL5 gM5 ⊢
  refine ⟨_, _, .lst (SqL.of gL5) (dpInts Ls), .lst (SqL.of g5) .nil, shaped_ints Ls, by decide +kernel, _, rfl, ?_⟩
  rw [ne_nil]
  have lp : M.length + Ls.length = 7 := by
    have := hp.length_eq
    rw [List.length_append] at this
    exact this
  by_cases c : Ls = []
  · refine ite_no (by rw [decide_eq_true c]; rfl) ?_
    subst c
    rw [List.append_nil] at hp
    exact k H5 lM (0 :: M) _ (d5.row hI) gM5 ⟨M, rfl, hp⟩
  · refine ite_yes (by rw [decide_eq_false c]; rfl) ?_
    have hpos : 0 < Ls.length := List.length_pos_iff.mpr c
    refine ⟨fun σ' H' => ∃ m', m' < m ∧ (Dr r a H H' ∧ ∃ Ls M, Ls.length = m' ∧ H' lL = some (.lst (iV Ls)) ∧ H' lM = some (.lst (iV (0 :: M))) ∧ (M ++ Ls).Perm SEV ∧ σ' = [x0, x1, some (.ref lL), x3, x4, x5, x6, x7, x8, x9, x10, x11, x12, x13, some (.ref r), some (.ref lM), x16]), fun _ _ h => h, ?_⟩
    have li : (iV Ls).length = Ls.length := List.length_map ..
    refine ⟨_, rfl, .inl ⟨rfl, _, SqL.of gM5⟩, _, rfl, .inl ⟨rfl, _, SqL.of gL5⟩, _, rfl, _, rfl, lL, _, rfl, .inl (SqL.of gL5), ?_⟩
    rw [li]
    refine ⟨r, _, a, rfl, d5.row hI, by omega, by omega, fun v o v0 v1 R => ?_⟩
    have d6 := Dr.draw R
    have I5 := d5.row hI
    have gL6 := d6.sb _ _ (ints_ne I5 gL5) gL5
    have gM6 := d6.sb _ _ (ints_ne I5 gM5) gM5
    have dd6 := d5.trans d6
    generalize upd H5 r o = H6 at d6 gL6 gM6 dd6 ⊢
    have lk : v.toNat < Ls.length := by omega
    have ix : seqIndex? v (iV Ls).length = some v.toNat := (ixN_seq (by unfold ixN; rw [if_pos v0, if_pos (by rw [li]; omega)])).1
    refine ⟨lL, _, v, v.toNat, .int Ls[v.toNat], rfl, rfl, gL6, by omega, by omega, ix, by rw [iV, List.getElem?_map, List.getElem?_eq_getElem lk]; rfl, ?_⟩
    have gM7 : (upd H6 lL (.lst ((iV Ls).eraseIdx v.toNat))) lM = some (.lst (iV (0 :: M))) := by rw [upd_ne (Ne.symm ne)]; exact gM6
    refine ⟨lM, _, _, rfl, rfl, gM7, by rw [iV, List.length_map, List.length_cons, sizeLine_eq]; omega, ?_⟩
    have hg : Ls[v.toNat]? = some Ls[v.toNat] := List.getElem?_eq_getElem lk
    refine ⟨m - 1, by omega, (dd6.put nL (hI.ne nL)).put nM0 (hI.ne nM0), Ls.eraseIdx v.toNat, M ++ [Ls[v.toNat]], ?_, ?_, ?_, ?_, rfl⟩
    · have := erase_len lk
      omega
    · rw [upd_ne ne, upd_same, iV, erase_map]
      rfl
    · rw [upd_same]
      show some (HO.lst (iV (0 :: M) ++ iV [Ls[v.toNat]])) = _
      rw [iV, iV, ← List.map_append]
      rfl
    · refine List.Perm.trans ?_ hp
      rw [List.append_assoc]
      exact List.Perm.append_left M (erase_perm hg)
end
end Half

namespace Half
open PySem PySem.Spec PyProof.Rows L2 LamX
section
variable {P : Program} {w : World} {K : PySem.W.Frag} {mg : Str → Option Value} {base : Heap} {CN CA : Addr}
theorem law_2 {f : Addr} {cdv : Value} {A : Around} {outer : List Env} {s : Shared} {H0 : Hp} {E : XK} {tR : TS} (L : LawD P w K mg base CN CA)
    (hr : Room 5 (A.deeper (envOfC "law" (defScope sLaw) s.heap.objs.size f cdv))) (nd : LawN.Nodup) (hR : PSs (cxOf CX0 P w K mg base LawN "law" (defScope sLaw) f cdv A outer s H0 E).nox (lBody.drop 4) tR) :
    ∃ t, PSs (cxOf CX0 P w K mg base LawN "law" (defScope sLaw) f cdv A outer s H0 E).nox (lBody.drop 2) t ∧ ∀ (D' : Ends) (H : Hp) (r a lM : Addr) (ms : List Int) (x0 x1 x2 x3 x4 x5 x6 x7 x8 x9 x10 x11 x12 x13 x16 : Option V), Row K H r a → H lM = some (.lst (iV ms)) →
      (∀ H' D d ns es x3, Row K H' r a → H' lM = some (.lst (iV ms)) → H' D = some (.lst (iV ns)) → H' d = some (.dK (eK es)) → 1 ≤ ns.length → ns.length ≤ 6 → (∀ n ∈ ns, 1 ≤ n ∧ n ≤ 6) → Ed7 es ns.length → tR D' [x0, x1, x2, x3, some (.ref D), x5, x6, x7, x8, x9, x10, x11, x12, x13, some (.ref r), some (.ref lM), some (.ref d)] H') →
      t D' [x0, x1, x2, x3, x4, x5, x6, x7, x8, x9, x10, x11, x12, x13, some (.ref r), some (.ref lM), x16] H := by
  have r1 : Room 1 _ := hr.mono (by decide)
  have hu := hu_of hr
  refine ⟨_, pss_cons (ps_asg (pe_tup (pa_cons (pe_lc (own := [("_law_k", 3)]) (g := gName 3) (tt := tYes) (te := tOp (rI0 fun i j => .int (i + j)) (tC (.int 1)) (tCall (spTaken K) [] E0 (tCons (tVar 14) (tCons (tC (.int 6)) tNil)))) rfl nd
      (pi_range1 (by rfl) L.T.ran (pa_cons (pe_op op_add pe_int (pe_def L.dT r1 rfl (pa_cons (pv 14) (pa_cons pe_int pa_nil)))) pa_nil)) (blkOk_by (N := LawN) (sc := defScope sLaw) (by decide +kernel))
      (fun _ _ _ _ _ => pg_name (i := 3) nd rfl (Or.inl rfl)) (fun _ _ _ _ _ => pts_nil) (fun _ _ _ _ _ => pe_op op_add pe_int (pe_def L.dT r1 rfl (pa_cons (pv 14) (pa_cons pe_int pa_nil))))) (pa_cons pe_dnewK pa_nil))) (pg_tup rfl (pgs_cons (pg_name (i := 4) nd rfl (Or.inl rfl)) (pgs_cons (pg_name (i := 16) nd rfl (Or.inr rfl)) pgs_nil))))
    (pss_cons (ps_for PassesOwn.never rfl (pi_range1 (by rfl) L.T.ran (pa_cons (pe_callB call_len_seq (by rfl) L.T.len PySem.boot_len (pa_cons (pv 4) pa_nil)) pa_nil)) (pg_name (i := 3) nd rfl (Or.inl rfl))
      (pss_one (ps_if (pt_cmpR op_eq (pe_def L.dT r1 rfl (pa_cons (pv 14) (pa_cons pe_int pa_nil))) pe_int (nomark _)) (pss_one (ps_dput hu (pv 16) (pv 3) (pe_def L.dT r1 rfl (pa_cons (pv 14) (pa_cons pe_int pa_nil))) rfl)) pss_nil))) hR), ?_⟩
  intro D' H r a lM ms x0 x1 x2 x3 x4 x5 x6 x7 x8 x9 x10 x11 x12 x13 x16 hI hM k
  refine ⟨_, rfl, r, _, a, rfl, hI, by decide, by decide, fun v o v0 v1 R => ⟨_, _, rfl, rfl, 1 + v, rfl, by omega, by omega, ?_⟩⟩
  have I1 := (Dr.draw R).row hI
  have hM1 := (Dr.draw R).sb _ _ (ints_ne hI hM) hM
  generalize upd H r o = H1 at I1 hM1 ⊢
  refine fun D hD => lc_it walk_range (fun i H' => Dr r a H1 H' ∧ ∃ zs : List Int, zs.length = i ∧ (∀ y ∈ zs, 1 ≤ y ∧ y ≤ 6) ∧ H' D = some (.lst (iV zs))) ⟨I1.dr.put hD (I1.ne hD), [], rfl, fun y hy => (nomatch hy), upd_same⟩ (fun _ _ _ _ => trivial) ?_ ?_
  · rintro i x H2 H3 hi ⟨d2, zs, hl, hzs, hD2⟩ ⟨rfl, rfl⟩
    have nD := I1.ne hD
    refine ⟨rfl, _, rfl, r, _, a, rfl, d2.row I1, by decide, by decide, fun u o u0 u1 R3 => ⟨_, _, rfl, rfl, ?_⟩⟩
    have d3 := Dr.draw R3
    generalize upd H3 r o = H4 at d3 ⊢
    have hD4 := d3.sb _ _ nD hD2
    refine ⟨_, hD4, ?_, (d2.trans d3).put hD nD, zs ++ [1 + u], by rw [List.length_append, hl]; rfl, fun y hy => ?_, ?_⟩
    · rw [iV, List.length_map, hl, sizeLine_eq]
      omega
    · rcases List.mem_append.mp hy with q | q
      · exact hzs y q
      · rw [List.mem_singleton.mp q]
        omega
    · rw [upd_same, iV, iV, List.map_append]
      rfl
  rintro H2 ⟨d2, ns, hl, hns, hD2⟩
  have few : ns.length ≤ 6 := by omega
  have one : 1 ≤ ns.length := by omega
  have I2 := d2.row I1
  have hM2 := d2.sb _ _ (ints_ne I1 hM1) hM1
  -- the edits
  refine fun d nd2 => ⟨two_le, fun tt ntt => ?_⟩
  have q3 := Same.upd_new (o := .dK []) nd2
  have q4 := Same.upd_new (o := .tup [.ref D, .ref d]) ntt
  have s3 := q3.trans q4
  have I4 := I2.same s3
  have hD4 := s3 _ _ hD2
  have hM4 := s3 _ _ hM2
  have hd4 := q4 _ _ (upd_same (a := d) (o := .dK []) (H := H2))
  have gT : SqT K (upd (upd H2 d (.dK [])) tt (.tup [.ref D, .ref d])) tt [.ref D, .ref d] := SqT.of upd_same
  generalize upd (upd H2 d (.dK [])) tt (.tup [.ref D, .ref d]) = H4 at I4 hD4 hd4 hM4 gT ⊢
  refine ⟨tt, _, rfl, gT, rfl, _, _, rfl, _, _, rfl, rfl, ?_⟩
  have hli : (iV ns).length = ns.length := List.length_map ..
  refine ⟨_, rfl, D, _, rfl, .inl (SqL.of hD4), _, rfl, by rw [hli]; omega, by rw [hli]; omega, ?_⟩
  rw [hli]
  refine for_it walk_range (fun i σ H' => ∃ es y3, Row K H' r a ∧ H' lM = some (.lst (iV ms)) ∧ H' D = some (.lst (iV ns)) ∧ H' d = some (.dK (eK es)) ∧ Ed7 es i ∧ σ = [x0, x1, x2, y3, some (.ref D), x5, x6, x7, x8, x9, x10, x11, x12, x13, some (.ref r), some (.ref lM), some (.ref d)]) ⟨[], x3, I4, hM4, hD4, hd4, ⟨fun p hp => (nomatch hp), Nat.zero_le _, List.nodup_nil⟩, rfl⟩ (fun _ _ _ _ _ => trivial) ?_ ?_
  · rintro i x σ H5 H6 hi ⟨es, y3, I5, hM5, hD5, hd5, he, rfl⟩ ⟨rfl, rfl⟩
    have e0 : (fun i : Nat => V.int (0 + (i : Int))) i = V.int (i : Int) := by show V.int (0 + (i : Int)) = _; rw [Int.zero_add]
    rw [e0]
    obtain ⟨xs, hrr⟩ := I5.at_
    refine ⟨_, rfl, r, _, a, rfl, I5, by decide, by decide, fun v o v0 v1 R => ?_⟩
    have d6 := Dr.draw R
    have I6 := d6.row I5
    have hM6 := d6.sb _ _ (ints_ne I5 hM5) hM5
    have hD6 := d6.sb _ _ (ints_ne I5 hD5) hD5
    have hd6 := d6.sb _ _ (ne_of hd5 hrr (by intro z; cases z)) hd5
    generalize upd H6 r o = H7 at I6 hM6 hD6 hd6 ⊢
    refine ⟨rfl, _, rfl, ?_⟩
    rw [Half.dec_int]
    by_cases c0 : v = 0
    · refine ite_yes (decide_eq_true c0) ?_
      obtain ⟨xs6, hrr6⟩ := I6.at_
      refine ⟨_, rfl, r, _, a, rfl, I6, by decide, by decide, fun u o u0 u1 R => ?_⟩
      have d8 := Dr.draw R
      have I8 := d8.row I6
      have hM8 := d8.sb _ _ (ints_ne I6 hM6) hM6
      have hD8 := d8.sb _ _ (ints_ne I6 hD6) hD6
      have hd8 := d8.sb _ _ (ne_of hd6 hrr6 (by intro z; cases z)) hd6
      generalize upd H7 r o = H8 at I8 hM8 hD8 hd8 ⊢
      refine ⟨_, rfl, _, rfl, d, _, rfl, DPut.k (k := .inl (i : Int)) hd8 (by rw [eK, List.length_map, sizeLine_eq]; have := he.len; omega), ?_⟩
      rw [put_edit he]
      refine ⟨es ++ [((i : Int), u)], some (.int (i : Int)), I8.dic hd8, ?_, ?_, upd_same, he.add u0 u1, rfl⟩
      · rw [upd_ne (ne_of hM8 hd8 (by intro z; cases z))]
        exact hM8
      · rw [upd_ne (ne_of hD8 hd8 (by intro z; cases z))]
        exact hD8
    · refine ite_no (decide_eq_false c0) ?_
      exact ⟨es, some (.int (i : Int)), I6, hM6, hD6, hd6, he.skip, rfl⟩
  rintro σ H5 ⟨es, y3, I5, hM5, hD5, hd5, he, rfl⟩
  exact k H5 D d ns es y3 I5 hM5 hD5 hd5 one few hns he
end
end Half

namespace Half
open PySem PySem.Spec PyProof.Rows L2 LamX
theorem edit_mem : ∀ {es : List (Int × Int)}, (es.map (·.1)).Nodup → ∀ {p : Int × Int}, p ∈ es → edit es p.1 = some p.2
  | [], _, _, h => nomatch h
  | q :: es, nd, p, h => by
    unfold edit
    rw [List.find?_cons]
    rcases List.mem_cons.mp h with e | e
    · subst e
      rw [decide_eq_true rfl]
      rfl
    · have nq : q.1 ≠ p.1 := fun z => (List.nodup_cons.mp nd).1 (List.mem_map.mpr ⟨p, e, z.symm⟩)
      rw [decide_eq_false nq]
      exact edit_mem (List.nodup_cons.mp nd).2 e
theorem merge_fresh : ∀ {es acc : List (Int × Int)}, ((acc ++ es).map (·.1)).Nodup → mergeK (eK acc) (eK es) = eK (acc ++ es)
  | [], acc, _ => by
    rw [List.append_nil]
    rfl
  | p :: es, acc, nd => by
    have hp : ∀ q ∈ acc, q.1 ≠ p.1 := fun q hq z => by
      rw [List.map_append, List.nodup_append] at nd
      exact nd.2.2 q.1 (List.mem_map.mpr ⟨q, hq, rfl⟩) p.1 (List.mem_map.mpr ⟨p, .head _, rfl⟩) z
    show mergeK (putK (eK acc) (.inl p.1) (.int p.2)) (eK es) = _
    rw [put_fresh hp, merge_fresh (by rw [List.append_assoc]; exact nd), List.append_assoc]
    rfl
theorem ren_keys {π : Int → Int} (es : List (Int × Int)) : (renE π es).map (·.1) = es.map (·.1) := by
  unfold renE
  rw [List.map_map]
  rfl
/-- what is drawn, and what is made of it -/
structure Gt (H : Hp) (lM D d lO dP : Addr) (ms ns : List Int) (es : List (Int × Int)) : Prop where
  m : H lM = some (.lst (iV ms))
  c : H D = some (.lst (iV ns))
  e : H d = some (.dK (eK es))
  o : H lO = some (.lst (iV (ns.map (pi ms))))
  p : H dP = some (.dK (eK (renE (pi ms) es)))
theorem Gt.same {H H' : Hp} {lM D d lO dP : Addr} {ms ns : List Int} {es : List (Int × Int)} (s : Same H H') (g : Gt H lM D d lO dP ms ns es) : Gt H' lM D d lO dP ms ns es := ⟨s _ _ g.m, s _ _ g.c, s _ _ g.e, s _ _ g.o, s _ _ g.p⟩
structure Ok (ms ns : List Int) (es : List (Int × Int)) (n : Nat) : Prop where
  pm : PermM ms
  n1 : ns.length = n + 1
  n6 : n ≤ 5
  rg : ∀ y ∈ ns, 1 ≤ y ∧ y ≤ 6
  ed : Ed7 es ns.length
section
variable {ms ns : List Int} {es : List (Int × Int)} {n : Nat}
theorem Ok.all (h : Ok ms ns es n) : AllIn ns es := ⟨fun y hy => by have := h.rg y hy; exact ⟨by omega, by omega⟩, fun p hp => by have := h.ed.rg p hp; exact ⟨by omega, by omega⟩⟩
theorem Ok.okC (h : Ok ms ns es n) : okC ns es = true := okC_of (by have := h.n1; have := h.n6; omega) (fun y hy => by have := h.rg y hy; omega) fun p hp => by have := h.ed.rg p hp; omega
theorem Ok.okR (h : Ok ms ns es n) : Half.okC (ns.map (pi ms)) (renE (pi ms) es) = true := by
  refine okC_of (by rw [List.length_map]; have := h.n1; have := h.n6; omega) (fun y hy => ?_) fun p hp => ?_
  · obtain ⟨x, hx, rfl⟩ := List.mem_map.mp hy
    have := h.rg x hx
    exact pi_pos h.pm this.1 (by omega)
  · obtain ⟨q, hq, rfl⟩ := List.mem_map.mp hp
    have := h.ed.rg q hq
    have i7 := pi_in h.pm (x := q.2) ⟨by omega, by omega⟩
    rw [List.length_map]
    exact ⟨this.1, this.2.1, i7.1, i7.2⟩
theorem Ok.okB (h : Ok ms ns es n) : Half.okC ns [] = true := okC_of (by have := h.n1; have := h.n6; omega) (fun y hy => by have := h.rg y hy; omega) fun p hp => nomatch hp
theorem Ok.okA (h : Ok ms ns es n) : Half.okC (ns ++ [ns.getD n 0]) es = true := by
  have n1 := h.n1
  have n6 := h.n6
  refine okC_of (by rw [List.length_append, n1]; show _ + 1 ≤ _; omega) (fun y hy => ?_) fun p hp => ?_
  · rcases List.mem_append.mp hy with q | q
    · have := h.rg y q
      omega
    · rw [List.mem_singleton.mp q, List.getD_eq_getElem?_getD, List.getElem?_eq_getElem (by omega)]
      have := h.rg _ (List.getElem_mem (l := ns) (n := n) (by omega))
      show 1 ≤ ns[n] ∧ ns[n] ≤ 7
      omega
  · have := h.ed.rg p hp
    rw [List.length_append, n1]
    rw [n1] at this
    show _ ∧ _ < (((n + 1) + 1 : Nat) : Int) ∧ _
    omega
theorem Ok.none (h : Ok ms ns es n) : edit es ((n + 1 : Nat) : Int) = none := by
  unfold edit
  rw [List.find?_eq_none.mpr]
  · rfl
  · intro p hp
    have := h.ed.rg p hp
    rw [h.n1] at this
    simp only [decide_eq_true_eq]
    omega
end
section
variable {P : Program} {w : World} {K : PySem.W.Frag} {mg : Str → Option Value} {base : Heap} {CN CA : Addr}
theorem law_3 {f : Addr} {cdv : Value} {A : Around} {outer : List Env} {s : Shared} {H0 : Hp} {E : XK} {tR : TS} (L : LawD P w K mg base CN CA)
    (hr : Room 5 (A.deeper (envOfC "law" (defScope sLaw) s.heap.objs.size f cdv))) (nd : LawN.Nodup) (hR : PSs (cxOf CX0 P w K mg base LawN "law" (defScope sLaw) f cdv A outer s H0 E).nox (lBody.drop 6) tR) :
    ∃ t, PSs (cxOf CX0 P w K mg base LawN "law" (defScope sLaw) f cdv A outer s H0 E).nox (lBody.drop 4) t ∧ ∀ (D' : Ends) (H : Hp) (lM D d : Addr) (ms ns : List Int) (es : List (Int × Int)) (n : Nat) (x0 x1 x2 x3 x5 x6 x7 x8 x9 x10 x11 x12 x13 x14 : Option V), H lM = some (.lst (iV ms)) → H D = some (.lst (iV ns)) → H d = some (.dK (eK es)) → Ok ms ns es n →
      (∀ H' lO dP, Same H H' → Gt H' lM D d lO dP ms ns es → tR D' [x0, x1, x2, x3, some (.ref D), x5, some (.ref lO), some (.ref dP), x8, x9, x10, x11, x12, x13, x14, some (.ref lM), some (.ref d)] H') →
      t D' [x0, x1, x2, x3, some (.ref D), x5, x6, x7, x8, x9, x10, x11, x12, x13, x14, some (.ref lM), some (.ref d)] H := by
  have hu := hu_of hr
  refine ⟨_, pss_cons (ps_setLc (i := 6) (own := [("_law_content", 5)]) (g := gName 5) (tt := tYes) (te := tOp (rIxL K) (tVar 15) (tVar 5)) rfl nd rfl rfl (sw_true rfl rfl rfl (by decide +kernel)) (pi_list (pv 4)) (blkOk_by (N := LawN) (sc := defScope sLaw) (by decide +kernel))
      (fun _ _ _ _ _ => pg_name (i := 5) nd rfl (Or.inl rfl)) (fun _ _ _ _ _ => pts_nil) (fun _ _ _ _ _ => pe_ix ix_list (pv 15) (pv 5) (fun _ _ => rfl)))
    (pss_cons (ps_lock (ps_set (i := 7) nd rfl (Or.inl rfl) (pe_callTy (call_dictP rfl) (by rfl) L.gD (by decide +kernel) (pa_cons (pe_lc (own := [("_law_k", 3)]) (g := gName 3) (tt := tYes) (te := tTup (tCons (tVar 3) (tCons (tOp (rIxL K) (tVar 15) (tDGet (tVar 16) (tVar 3))) tNil))) rfl nd (pi_keys (pv 16)) (blkOk_by (N := LawN) (sc := defScope sLaw) (by decide +kernel))
      (fun _ _ _ _ _ => pg_name (i := 3) nd rfl (Or.inl rfl)) (fun _ _ _ _ _ => pts_nil) (fun _ _ _ _ _ => pe_tup (pa_cons (pv 3) (pa_cons (pe_ix ix_list (pv 15) (pe_dget hu (pv 16) (pv 3) (fun _ _ => rfl)) (fun _ _ => rfl)) pa_nil)))) pa_nil)))) hR), ?_⟩
  intro D' H lM D d ms ns es n x0 x1 x2 x3 x5 x6 x7 x8 x9 x10 x11 x12 x13 x14 hM hD hd ok k
  have li : (iV ns).length = ns.length := List.length_map ..
  have n1 := ok.n1
  have n6 := ok.n6
  refine ⟨_, rfl, D, rfl, ⟨_, SqL.of hD⟩, ?_⟩
  refine fun D2 nD2 => lc_it (walk_list (xs := iV ns)) (fun i H' => Same H H' ∧ H' D2 = some (.lst (iV ((ns.take i).map (pi ms))))) ⟨Same.upd_new nD2, upd_same⟩ (fun i H' _ h => SqL.of (h.1 _ _ hD)) ?_ ?_
  · rintro i x H1 H2 hi ⟨s1, g1⟩ ⟨rfl, hx⟩
    rw [iV, List.getElem?_map] at hx
    obtain ⟨y, hy, rfl⟩ := Option.map_eq_some_iff.mp hx
    have ym := ok.rg y (List.mem_of_getElem? hy)
    refine ⟨rfl, _, rfl, _, rfl, lM, _, y, _, rfl, rfl, SqL.of (s1 _ _ hM), pi_at ok.pm ⟨by omega, by omega⟩, ?_⟩
    refine ⟨_, g1, ?_, ?_, ?_⟩
    · rw [iV, List.length_map, List.length_map, List.length_take, sizeLine_eq]
      omega
    · exact fun b o z => by rw [upd_ne (ne_of_none z nD2)]; exact s1 _ _ z
    · have e : (ns.take (i + 1)).map (pi ms) = (ns.take i).map (pi ms) ++ [pi ms y] := by
        rw [List.take_add_one, hy, List.map_append]
        rfl
      rw [upd_same, e, iV, iV, List.map_append (l₂ := [pi ms y])]
      rfl
  rintro H1 ⟨s1, g1⟩
  rw [li, List.take_length] at g1
  have hM1 := s1 _ _ hM
  have hD1 := s1 _ _ hD
  have hd1 := s1 _ _ hd
  -- the edits
  refine ⟨d, _, hd1, trivial, fun od => ?_⟩
  have gd : (upd H1 d (.frz od (.dK (eK es)))) d = some (.frz od (.dK (eK es))) := upd_same
  have gm : (upd H1 d (.frz od (.dK (eK es)))) lM = some (.lst (iV ms)) := by rw [upd_ne (ne_of hM1 hd1 (by intro z; cases z))]; exact hM1
  have back : ∀ H', Same (upd H1 d (.frz od (.dK (eK es)))) H' → Same H1 (upd H' d (.dK (eK es))) := fun H' S a o q => by
    by_cases c : a = d
    · rw [c, hd1] at q
      rw [c, upd_same]
      exact q
    · rw [upd_ne c]
      exact S _ _ (by rw [upd_ne c]; exact q)
  generalize upd H1 d (.frz od (.dK (eK es))) = HL at gd gm back ⊢
  refine ⟨_, rfl, d, od, rfl, .inl ⟨eK es, gd, ?_⟩⟩
  have le : (eK es).length = es.length := List.length_map ..
  have el := ok.ed.len
  refine fun D3 nD3 => lc_it (walk_keys (kvs := eK es)) (fun i H' => Same HL H' ∧ ∃ ps : List Addr, H' D3 = some (.lst (ps.map V.ref)) ∧ Paired (fun p kv => SqT K H' p [kV kv.1, kv.2]) ps (eK (renE (pi ms) (es.take i)))) ⟨Same.upd_new nD3, [], upd_same, .nil⟩ (fun i H' _ h => h.1 _ _ gd) ?_ ?_
  · rintro i x H2 H3 hi ⟨s2, ps, g2, hp⟩ ⟨rfl, k0, v0, hkv, rfl⟩
    rw [eK, List.getElem?_map] at hkv
    obtain ⟨q, hq, eq⟩ := Option.map_eq_some_iff.mp hkv
    cases eq
    have qm := ok.ed.rg q (List.mem_of_getElem? hq)
    have dg : DGet H3 d (kV (.inl q.1)) (some (.int q.2)) := .inl ⟨eK es, .inl q.1, .inr ⟨od, s2 _ _ gd⟩, rfl, by rw [edit_val, edit_mem ok.ed.nd (List.mem_of_getElem? hq)]; rfl⟩
    refine ⟨rfl, _, rfl, _, rfl, _, rfl, _, rfl, d, _, rfl, dg, lM, _, q.2, _, rfl, rfl, SqL.of (s2 _ _ gm), pi_at ok.pm ⟨by omega, by omega⟩, two_le, fun t nt => ?_⟩
    have q4 := Same.upd_new (o := .tup [.int q.1, .int (pi ms q.2)]) nt
    have g4 : SqT K (upd H3 t (.tup [.int q.1, .int (pi ms q.2)])) t [.int q.1, .int (pi ms q.2)] := SqT.of upd_same
    have lps := Paired.length hp
    refine ⟨ps.map V.ref, q4 _ _ g2, ?_, ?_, ps ++ [t], ?_, ?_⟩
    · rw [List.length_map, lps, sizeLine_eq]
      show ((renE (pi ms) (es.take i)).map _).length < _
      unfold renE
      rw [List.length_map, List.length_map, List.length_take]
      omega
    · exact fun b o z => by rw [upd_ne (ne_of_none z nD3)]; exact q4 _ _ (s2 _ _ z)
    · rw [List.map_append]
      exact upd_same
    · have kt : Kt K (upd H3 t (.tup [.int q.1, .int (pi ms q.2)])) (upd (upd H3 t (.tup [.int q.1, .int (pi ms q.2)])) D3 (.lst (ps.map V.ref ++ [.ref t]))) := Kt.put (q4 _ _ g2) (fun _ z => nomatch z) (fun _ _ z => nomatch z)
      have e : eK (renE (pi ms) (es.take (i + 1))) = eK (renE (pi ms) (es.take i)) ++ [((.inl q.1 : Key), V.int (pi ms q.2))] := by
        rw [List.take_add_one, hq]
        unfold renE eK
        rw [List.map_append, List.map_append]
        rfl
      rw [e]
      exact pair_app (pair_imp (fun v u h => kt _ _ (q4.sqT h)) hp) (.cons (kt _ _ g4) .nil)
  rintro H2 ⟨s2, ps, g2, hp⟩
  rw [le, List.take_length] at hp
  refine ⟨D3, ps, _, rfl, SqL.of g2, hp, fun p np => ?_⟩
  have mg : mergeK [] (eK (renE (pi ms) es)) = eK (renE (pi ms) es) := merge_fresh (acc := []) (by rw [List.nil_append, ren_keys]; exact ok.ed.nd)
  rw [mg]
  have q3 := Same.upd_new (o := .dK (eK (renE (pi ms) es))) np
  have s3 := s2.trans q3
  have S4 := back _ s3
  refine ⟨s3 _ _ gd, ?_⟩
  have ne : p ≠ d := fun z => by rw [z, s2 _ _ gd] at np; cases np
  exact k _ D2 p (s1.trans S4) ⟨S4 _ _ hM1, S4 _ _ hD1, upd_same, S4 _ _ g1, by rw [upd_ne ne]; exact upd_same⟩
end
end Half

namespace Half
open PySem PySem.Spec PyProof.Rows L2 LamX
theorem ans_shaped (p : Int) (ns : List Int) : SeqAt.shaped (.tuple [.int p, .tuple (ns.map PyData.int)]) = true := by
  obtain ⟨a, b⟩ := lay_list (ints_lay ns)
  unfold SeqAt.shaped
  rw [Bool.and_eq_true]
  refine ⟨?_, decide_eq_true ?_⟩
  · simp [PyData.canLay0, PyData.canLayAll0, a]
  · simp only [PyData.depth, PyData.depthAll]
    omega
theorem ans_eqv (p : Int) (ns : List Int) : PyData.eqv (.tuple [.int p, .tuple (ns.map PyData.int)]) (.tuple [.int p, .tuple (ns.map PyData.int)]) = true := SeqAt.eqv_refl _ (Bool.and_eq_true_iff.mp (ans_shaped p ns)).1
theorem told_shaped (p : Int) (ns : List Int) : SeqAt.shaped (.tuple [.int p, .list (ns.map PyData.int)]) = true := by
  obtain ⟨a, b⟩ := lay_list (ints_lay ns)
  unfold SeqAt.shaped
  rw [Bool.and_eq_true]
  refine ⟨?_, decide_eq_true ?_⟩
  · simp [PyData.canLay0, PyData.canLayAll0, a]
  · simp only [PyData.depth, PyData.depthAll]
    omega
theorem told_eqv (p : Int) (ns : List Int) : PyData.eqv (.tuple [.int p, .list (ns.map PyData.int)]) (.tuple [.int p, .list (ns.map PyData.int)]) = true := SeqAt.eqv_refl _ (Bool.and_eq_true_iff.mp (told_shaped p ns)).1
theorem one_shaped (x : Int × Bool) : SeqAt.shaped (.tuple [.int x.1, .bool x.2]) = true := by
  unfold SeqAt.shaped
  rw [Bool.and_eq_true]
  refine ⟨by simp [PyData.canLay0, PyData.canLayAll0], decide_eq_true ?_⟩
  simp only [PyData.depth, PyData.depthAll]
  omega
theorem one_eqv (x : Int × Bool) : PyData.eqv (.tuple [.int x.1, .bool x.2]) (.tuple [.int x.1, .bool x.2]) = true := SeqAt.eqv_refl _ (Bool.and_eq_true_iff.mp (one_shaped x)).1
theorem atI_end {α : Type} {xs : List α} {n : Nat} (h : xs.length = n + 1) : atI xs (-1) = xs[n]? := by
  unfold atI ixN
  rw [if_neg (by decide), if_pos (by rw [h]; omega)]
  show xs[((-1 : Int) + (xs.length : Int)).toNat]? = _
  rw [h, show ((-1 : Int) + ((n + 1 : Nat) : Int)).toNat = n by omega]
theorem atI_lastI {ns : List Int} {n : Nat} (h : ns.length = n + 1) : atI (iV ns) (-1) = some (.int (ns.getD n 0)) := by
  rw [atI_end (n := n) (by rw [iV, List.length_map, h]), iV, List.getElem?_map, List.getD_eq_getElem?_getD, List.getElem?_eq_getElem (by omega)]
  rfl
section
variable {P : Program} {w : World} {K : PySem.W.Frag} {mg : Str → Option Value} {base : Heap} {CN CA : Addr}
theorem law_4 {f : Addr} {cdv : Value} {A : Around} {outer : List Env} {s : Shared} {H0 : Hp} {E : XK} {tR : TS} (L : LawD P w K mg base CN CA)
    (hr : Room 5 (A.deeper (envOfC "law" (defScope sLaw) s.heap.objs.size f cdv))) (nd : LawN.Nodup) (hR : PSs (cxOf CX0 P w K mg base LawN "law" (defScope sLaw) f cdv A outer s H0 E).nox (lBody.drop 8) tR) :
    ∃ t, PSs (cxOf CX0 P w K mg base LawN "law" (defScope sLaw) f cdv A outer s H0 E).nox (lBody.drop 6) t ∧ ∀ (D' : Ends) (H : Hp) (lM D d lO dP : Addr) (ms ns : List Int) (es : List (Int × Int)) (n : Nat) (x0 x1 x2 x3 x5 x8 x9 x10 x11 x12 x13 x14 : Option V), Gt H lM D d lO dP ms ns es → Ok ms ns es n →
      (∀ H' tf ti c, Same H H' → H' tf = some (.tup [.int c.1, .ref ti]) → Few ns es c → tR D' [x0, x1, x2, x3, some (.ref D), x5, some (.ref lO), some (.ref dP), some (.ref tf), some (.int n), x10, x11, x12, x13, x14, some (.ref lM), some (.ref d)] H') →
      t D' [x0, x1, x2, x3, some (.ref D), x5, some (.ref lO), some (.ref dP), x8, x9, x10, x11, x12, x13, x14, some (.ref lM), some (.ref d)] H := by
  have r4 : Room 4 _ := hr.mono (by decide)
  refine ⟨_, pss_cons (ps_par (i := 8) (j := 9) (by rfl) nd rfl rfl (by decide) rfl rfl (pa_cons (pe_defX L.dF r4 rfl passL (pa_cons (pv 4) (pa_cons (pv 16) pa_nil))) (pa_cons (pe_op op_sub (pe_callB call_len_seq (by rfl) L.T.len PySem.boot_len (pa_cons (pv 4) pa_nil)) pe_int) pa_nil)) (by rfl))
    (pss_cons (ps_if (PW.pt (pw_or (pt_cmpR (op_neD hr.units) (pe_defX L.dF r4 rfl passL (pa_cons (pv 6) (pa_cons (pv 7) pa_nil))) (pv 8) (nomark _))
      (pw_or1 (pt_cmpR op_ne (pe_ix ix_tup (pe_ix ix_tup (pv 8) pe_int (fun _ _ => rfl)) (pe_un un_neg pe_int) (fun _ _ => rfl)) (pv 9) (nomark _))))) (pss_one (ps_ret pe_bl)) pss_nil) hR), ?_⟩
  intro D' H lM D d lO dP ms ns es n x0 x1 x2 x3 x5 x8 x9 x10 x11 x12 x13 x14 g ok k
  have n1 := ok.n1
  have n6 := ok.n6
  have li : (iV ns).length = ns.length := List.length_map ..
  refine ⟨_, rfl, _, rfl, D, d, ns, es, rfl, SqL.of g.c, by omega, g.e, ok.okC, fun H1 tf ti c s1 htf hti fw => ?_⟩
  have g1 := g.same s1
  refine ⟨_, rfl, D, _, rfl, .inl (SqL.of g1.c), _, _, rfl, rfl, _, _, rfl, ?_⟩
  have en : (((iV ns).length : Int) - 1) = (n : Int) := by rw [li]; omega
  refine ⟨_, rfl, _, rfl, lO, dP, ns.map (pi ms), renE (pi ms) es, rfl, SqL.of g1.o, by rw [List.length_map]; omega, g1.p, ok.okR, fun H2 tg tj c' s2 htg htj fw' => ?_⟩
  have ec := few_ren (ren_of ok.pm) ok.all fw fw'
  subst ec
  have htf2 := s2 _ _ htf
  have hti2 := s2.sqT hti
  refine ⟨_, rfl, _, _, .tup (SqT.of htg) (.cons (.int _) (.cons (.tup htj (dpInts c.2.2)) .nil)), .tup (SqT.of htf2) (.cons (.int _) (.cons (.tup hti2 (dpInts c.2.2)) .nil)), ans_shaped _ _, ans_shaped _ _, _, rfl, ?_⟩
  refine ite_no (congrArg not (ans_eqv c.1 c.2.2)) ?_
  obtain ⟨s, el⟩ := few_last n1 fw
  have hat : atI (c.2.2.map V.int) (-1) = some (.int (n : Int)) := by
    rw [el, List.map_append]
    exact atI_last _ _
  refine ⟨_, rfl, tf, _, 1, _, rfl, rfl, SqT.of htf2, rfl, 1, rfl, ti, _, -1, _, rfl, rfl, hti2, hat, _, rfl, rfl, _, rfl, ?_⟩
  refine ite_no ?_ ?_
  · show (!decide (V.int (n : Int) = V.int (((iV ns).length : Int) - 1))) = false
    rw [en, decide_eq_true rfl]
    rfl
  · have := k H2 tf ti c (s1.trans s2) htf2 fw
    rw [← en] at this
    exact this
end
end Half

namespace Half
open PySem PySem.Spec PyProof.Rows L2 LamX
section
variable {P : Program} {w : World} {K : PySem.W.Frag} {mg : Str → Option Value} {base : Heap} {CN CA : Addr}
theorem law_5 {f : Addr} {cdv : Value} {A : Around} {outer : List Env} {s : Shared} {H0 : Hp} {E : XK} {tR : TS} (L : LawD P w K mg base CN CA)
    (hr : Room 5 (A.deeper (envOfC "law" (defScope sLaw) s.heap.objs.size f cdv))) (nd : LawN.Nodup) (hR : PSs (cxOf CX0 P w K mg base LawN "law" (defScope sLaw) f cdv A outer s H0 E).nox (lBody.drop 9) tR) :
    ∃ t, PSs (cxOf CX0 P w K mg base LawN "law" (defScope sLaw) f cdv A outer s H0 E).nox (lBody.drop 8) t ∧ ∀ (D' : Ends) (H : Hp) (lM D d lO dP tf ti : Addr) (ms ns : List Int) (es : List (Int × Int)) (n : Nat) (c : Cost) (x0 x1 x2 x3 x5 x10 x11 x12 x13 x14 : Option V), Gt H lM D d lO dP ms ns es → Ok ms ns es n → H tf = some (.tup [.int c.1, .ref ti]) → Few ns es c →
      (∀ H' x5 x10 x11 x12, Same H H' → tR D' [x0, x1, x2, x3, some (.ref D), x5, some (.ref lO), some (.ref dP), some (.ref tf), some (.int n), x10, x11, x12, x13, x14, some (.ref lM), some (.ref d)] H') →
      t D' [x0, x1, x2, x3, some (.ref D), x5, some (.ref lO), some (.ref dP), some (.ref tf), some (.int n), x10, x11, x12, x13, x14, some (.ref lM), some (.ref d)] H := by
  have r3 : Room 3 _ := hr.mono (by decide)
  have r4 : Room 4 _ := hr.mono (by decide)
  refine ⟨_, pss_cons (ps_for PassesOwn.never rfl (pi_tup (pe_tup (pa_cons pe_str (pa_cons pe_str pa_nil)))) (pg_name (i := 10) nd rfl (Or.inl rfl))
      (pss_cons (ps_asg (pe_defX L.dA r4 rfl passL (pa_cons (pv 4) (pa_cons (pv 16) (pa_cons (pv 10) pa_nil)))) (pg_tup rfl (pgs_cons (pg_name (i := 5) nd rfl (Or.inl rfl)) (pgs_cons (pg_name (i := 11) nd rfl (Or.inl rfl)) pgs_nil))))
      (pss_cons (ps_if (PW.pt (pw_or (pt_cmpR (op_neD hr.units) (pe_defX L.dA r4 rfl passL (pa_cons (pv 6) (pa_cons (pv 7) (pa_cons (pv 10) pa_nil)))) (pe_tup (pa_cons (pe_ix ix_list (pv 15) (pv 5) (fun _ _ => rfl)) (pa_cons (pv 11) pa_nil))) (nomark _))
        (pw_or1 (pt_cmpR op_lt (pe_callB call_len_seq (by rfl) L.T.len PySem.boot_len (pa_cons (pv 11) pa_nil)) (pe_ix ix_tup (pv 8) pe_int (fun _ _ => rfl)) (nomark _))))) (pss_one (ps_ret pe_bl)) pss_nil)
      (pss_cons (ps_set (i := 12) nd rfl (Or.inl rfl) (pe_defX L.dA r4 rfl passL (pa_cons (pe_op op_cat (pv 4) (pe_lst (pa_cons (pe_ix ix_list (pv 4) (pe_un un_neg pe_int) (fun _ _ => rfl)) pa_nil))) (pa_cons (pv 16) (pa_cons (pv 10) pa_nil)))))
      (pss_cons (ps_if (pt_cmpR (op_neD hr.units) (pv 12) (pe_tup (pa_cons (pv 5) (pa_cons (pv 11) pa_nil))) (nomark _)) (pss_one (ps_ret pe_bl)) pss_nil)
      (pss_cons (ps_if (pt_cmpR (op_neD hr.units) (pe_defX L.dD r3 rfl passL (pa_cons (pe_ix ix_list (pv 4) (pe_un un_neg pe_int) (fun _ _ => rfl)) (pa_cons (pv 5) (pa_cons (pe_ix ix_list (pv 4) (pe_un un_neg pe_int) (fun _ _ => rfl)) (pa_cons (pv 10) pa_nil))))) (pe_tup (pa_cons (pv 5) (pa_cons pe_bl pa_nil))) (nomark _)) (pss_one (ps_ret pe_bl)) pss_nil)
      (pss_one (ps_if (PW.pt (pw_and (pt_cmpR op_eq (pv 10) pe_str (nomark _)) (pw_and (pt_cmpR (op_neD hr.units) (pv 11) (pe_lst pa_nil) (nomark _)) (pw_and (pt_cmpR op_eq (pe_ix ix_list (pv 11) (pe_un un_neg pe_int) (fun _ _ => rfl)) (pv 9) (nomark _)) (pw_and1 (pt_cmpR op_ne (pv 5) (pe_ix ix_list (pv 4) (pe_un un_neg pe_int) (fun _ _ => rfl)) (nomark _))))))) (pss_one (ps_ret pe_bl)) pss_nil)))))))) hR, ?_⟩
  intro D' H lM D d lO dP tf ti ms ns es n c x0 x1 x2 x3 x5 x10 x11 x12 x13 x14 g ok htf fw k
  have n1 := ok.n1
  have n6 := ok.n6
  have li : (iV ns).length = ns.length := List.length_map ..
  refine ⟨two_le, fun tt ntt => ⟨tt, rfl, ⟨_, SqT.of upd_same⟩, ?_⟩⟩
  have s1 := Same.upd_new (o := .tup [.str "keep", .str "take"]) ntt
  have gt : (upd H tt (.tup [.str "keep", .str "take"])) tt = some (.tup (ANS.map V.str)) := upd_same
  generalize upd H tt (.tup [.str "keep", .str "take"]) = H1 at s1 gt ⊢
  refine for_it (walk_tup (xs := ANS.map V.str)) (fun j σ H' => Same H1 H' ∧ ∃ y5 y10 y11 y12, σ = [x0, x1, x2, x3, some (.ref D), y5, some (.ref lO), some (.ref dP), some (.ref tf), some (.int n), y10, y11, y12, x13, x14, some (.ref lM), some (.ref d)]) ⟨Same.refl _, _, _, _, _, rfl⟩ ?_ ?_ ?_
  · rintro j σ H' _ ⟨s', _⟩
    exact SqT.of (s' _ _ gt)
  · rintro j x' σ H2 H3 hj ⟨s2, y5, y10, y11, y12, rfl⟩ ⟨rfl, hx⟩
    obtain ⟨z, rfl, hz⟩ : ∃ z, x' = V.str z ∧ ((z = "keep" ∧ kept z = true) ∨ (z = "take" ∧ kept z = false)) := by
      have hj2 : j < 2 := hj
      rcases (by omega : j = 0 ∨ j = 1) with rfl | rfl
      · cases hx
        exact ⟨_, rfl, .inl ⟨rfl, by decide +kernel⟩⟩
      · cases hx
        exact ⟨_, rfl, .inr ⟨rfl, by decide +kernel⟩⟩
    have hzn : isAns z = true := by
      rcases hz with ⟨rfl, _⟩ | ⟨rfl, _⟩ <;> decide +kernel
    have S2 := s1.trans s2
    have g2 := g.same S2
    -- the answer to all
    refine ⟨_, rfl, _, rfl, _, rfl, D, d, ns, es, z, rfl, SqL.of g2.c, by omega, g2.e, fun _ _ H4 t4 l4 s4 ht4 hl4 => ?_, fun y => (by rw [ok.okC] at y; cases y), fun _ y => (by rw [hzn] at y; cases y)⟩
    refine ⟨t4, _, rfl, SqT.of ht4, rfl, _, _, rfl, _, _, rfl, rfl, ?_⟩
    have S4 := S2.trans s4
    have R4 := s2.trans s4
    have g4 := g.same S4
    have p7 := (stF_in ok.all (kp := kept z) ns.length).2
    -- by other contents
    refine ⟨_, rfl, _, rfl, _, rfl, lO, dP, ns.map (pi ms), renE (pi ms) es, z, rfl, SqL.of g4.o, by rw [List.length_map]; omega, g4.p, fun _ _ H5 t5 l5 s5 ht5 hl5 => ?_, fun y => (by rw [ok.okR] at y; cases y), fun _ y => (by rw [hzn] at y; cases y)⟩
    rw [List.length_map, stF_ren (ren_of ok.pm) ok.all] at ht5 hl5
    have S5 := S4.trans s5
    have g5 := g.same S5
    have hl45 := s5 _ _ hl4
    refine ⟨_, rfl, _, rfl, lM, _, _, _, rfl, rfl, SqL.of g5.m, pi_at ok.pm p7, _, rfl, two_le, fun t6 n6' => ?_⟩
    have q6 := Same.upd_new (o := .tup [.int (pi ms (stF es (kept z) ns ns.length).2.1), .ref l4]) n6'
    have g6 : (upd H5 t6 (.tup [.int (pi ms (stF es (kept z) ns ns.length).2.1), .ref l4])) t6 = some (.tup [.int (pi ms (stF es (kept z) ns ns.length).2.1), .ref l4]) := upd_same
    refine ⟨_, _, .tup (SqT.of (q6 _ _ ht5)) (.cons (.int _) (.cons (.lst (SqL.of (q6 _ _ hl5)) (dpInts _)) .nil)), .tup (SqT.of g6) (.cons (.int _) (.cons (.lst (SqL.of (q6 _ _ hl45)) (dpInts _)) .nil)), told_shaped _ _, told_shaped _ _, _, rfl, ?_⟩
    refine ite_no (congrArg not (told_eqv (pi ms (stF es (kept z) ns ns.length).2.1) (stF es (kept z) ns ns.length).2.2)) ?_
    have S6 := S5.trans q6
    have R6 := R4.trans (s5.trans q6)
    have hl46 := q6 _ _ hl45
    have htf6 := S6 _ _ htf
    have gg6 := g.same S6
    generalize upd H5 t6 (.tup [.int (pi ms (stF es (kept z) ns ns.length).2.1), .ref l4]) = H6 at q6 g6 S6 R6 hl46 htf6 gg6 ⊢
    refine ⟨_, rfl, l4, _, rfl, .inl (SqL.of hl46), _, rfl, tf, _, 0, _, rfl, rfl, SqT.of htf6, rfl, _, _, rfl, rfl, _, rfl, ?_⟩
    refine ite_no (decide_eq_false ?_) ?_
    · have := few_le (kp := kept z) fw
      rw [iV, List.length_map]
      omega
    -- the last setup again
    refine ⟨_, rfl, _, rfl, 1, rfl, D, _, -1, _, rfl, rfl, SqL.of gg6.c, atI_lastI n1, one_le, fun l7 n7 => ?_⟩
    have q7 := Same.upd_new (o := .lst [.int (ns.getD n 0)]) n7
    refine ⟨D, l7, iV ns, iV [ns.getD n 0], rfl, rfl, q7 _ _ gg6.c, upd_same, by rw [li, sizeLine_eq]; show _ + 1 ≤ _; omega, fun l8 n8 => ?_⟩
    have ecat : iV ns ++ iV [ns.getD n 0] = iV (ns ++ [ns.getD n 0]) := by
      rw [iV, iV, iV, List.map_append]
    rw [ecat]
    have q8 := Same.upd_new (o := .lst (iV (ns ++ [ns.getD n 0]))) n8
    have g8 : (upd (upd H6 l7 (.lst [.int (ns.getD n 0)])) l8 (.lst (iV (ns ++ [ns.getD n 0])))) l8 = some (.lst (iV (ns ++ [ns.getD n 0]))) := upd_same
    have S8 := S6.trans (q7.trans q8)
    have R8 := R6.trans (q7.trans q8)
    have hl48 := (q7.trans q8) _ _ hl46
    generalize upd (upd H6 l7 (.lst [.int (ns.getD n 0)])) l8 (.lst (iV (ns ++ [ns.getD n 0]))) = H8 at g8 S8 R8 hl48 ⊢
    have gg8 := g.same S8
    have lapp : (ns ++ [ns.getD n 0]).length = n + 2 := by
      rw [List.length_append, n1]
      rfl
    refine ⟨_, rfl, _, rfl, l8, d, ns ++ [ns.getD n 0], es, z, rfl, SqL.of g8, by omega, gg8.e, fun _ _ H9 t9 l9 s9 ht9 hl9 => ?_, fun y => (by rw [ok.okA] at y; cases y), fun _ y => (by rw [hzn] at y; cases y)⟩
    rw [lapp, stF_again n1 ok.none, ← n1] at ht9 hl9
    have S9 := S8.trans s9
    have hl49 := s9 _ _ hl48
    refine ⟨_, rfl, _, rfl, _, rfl, two_le, fun t10 n10 => ?_⟩
    have q10 := Same.upd_new (o := .tup [.int (stF es (kept z) ns ns.length).2.1, .ref l4]) n10
    have g10 : (upd H9 t10 (.tup [.int (stF es (kept z) ns ns.length).2.1, .ref l4])) t10 = some (.tup [.int (stF es (kept z) ns ns.length).2.1, .ref l4]) := upd_same
    refine ⟨_, _, .tup (SqT.of (q10 _ _ ht9)) (.cons (.int _) (.cons (.lst (SqL.of (q10 _ _ hl9)) (dpInts _)) .nil)), .tup (SqT.of g10) (.cons (.int _) (.cons (.lst (SqL.of (q10 _ _ hl49)) (dpInts _)) .nil)), told_shaped _ _, told_shaped _ _, _, rfl, ?_⟩
    refine ite_no (congrArg not (told_eqv (stF es (kept z) ns ns.length).2.1 (stF es (kept z) ns ns.length).2.2)) ?_
    have S10 := S9.trans q10
    have R10 := R8.trans (s9.trans q10)
    have hl410 := q10 _ _ hl49
    have gg10 := g.same S10
    generalize upd H9 t10 (.tup [.int (stF es (kept z) ns ns.length).2.1, .ref l4]) = H10 at S10 R10 hl410 gg10 ⊢
    -- one setup
    have wr : 1 ≤ ns.getD n 0 ∧ ns.getD n 0 ≤ 6 := by
      rw [List.getD_eq_getElem?_getD, List.getElem?_eq_getElem (by omega)]
      exact ok.rg _ (List.getElem_mem (l := ns) (n := n) (by omega))
    have rg : (inR (.int (ns.getD n 0)) 0 99 && inR (.int (stF es (kept z) ns ns.length).2.1) 0 99 && inR (.int (ns.getD n 0)) 1 99) = true := by
      obtain ⟨a1, a2⟩ := p7
      show ((decide (0 ≤ ns.getD n 0) && decide (ns.getD n 0 ≤ 99)) && (decide (0 ≤ (stF es (kept z) ns ns.length).2.1) && decide ((stF es (kept z) ns ns.length).2.1 ≤ 99)) && (decide (1 ≤ ns.getD n 0) && decide (ns.getD n 0 ≤ 99))) = true
      rw [decide_eq_true a1, decide_eq_true (by omega), decide_eq_true (by omega), decide_eq_true (by omega), decide_eq_true (by omega)]
      rfl
    refine ⟨_, rfl, 1, rfl, D, _, -1, _, rfl, rfl, SqL.of gg10.c, atI_lastI n1, _, rfl, _, rfl, 1, rfl, D, _, -1, _, rfl, rfl, SqL.of gg10.c, atI_lastI n1, _, rfl, .int (ns.getD n 0), .int (stF es (kept z) ns ns.length).2.1, .int (ns.getD n 0), z, rfl, .inl ⟨_, rfl⟩, .inl ⟨_, rfl⟩, .inl ⟨_, rfl⟩, fun n' p' w' e1 e2 e3 _ H11 t11 s11 nt11 ht11 => ?_, fun y => (by rw [rg] at y; cases y), fun _ y => (by rw [hzn] at y; cases y)⟩
    cases e1
    cases e2
    cases e3
    rw [one_again] at ht11
    refine ⟨_, rfl, two_le, fun t12 n12 => ?_⟩
    have q12 := Same.upd_new (o := .tup [.int (stF es (kept z) ns ns.length).2.1, .bl false]) n12
    have g12 : (upd H11 t12 (.tup [.int (stF es (kept z) ns ns.length).2.1, .bl false])) t12 = some (.tup [.int (stF es (kept z) ns ns.length).2.1, .bl false]) := upd_same
    refine ⟨_, _, .tup (SqT.of (q12 _ _ ht11)) (.cons (.int _) (.cons (.bl _) .nil)), .tup (SqT.of g12) (.cons (.int _) (.cons (.bl _) .nil)), one_shaped ((stF es (kept z) ns ns.length).2.1, false), one_shaped ((stF es (kept z) ns ns.length).2.1, false), _, rfl, ?_⟩
    refine ite_no (congrArg not (one_eqv ((stF es (kept z) ns ns.length).2.1, false))) ?_
    have S12 := S10.trans (s11.trans q12)
    have R12 := R10.trans (s11.trans q12)
    have hl412 := (s11.trans q12) _ _ hl410
    have gg12 := g.same S12
    generalize upd H11 t12 (.tup [.int (stF es (kept z) ns ns.length).2.1, .bl false]) = H12 at S12 R12 hl412 gg12 ⊢
    rcases hz with ⟨rfl, hk⟩ | ⟨rfl, hk⟩
    · refine ⟨_, rfl, rfl, _, rfl, ?_⟩
      refine ite_no (by decide +kernel) ?_
      refine ite_no rfl ?_
      exact ⟨R12, _, _, _, _, rfl⟩
    · refine ⟨_, rfl, rfl, _, rfl, ?_⟩
      refine ite_yes (by decide +kernel) ?_
      refine ⟨_, rfl, Nat.zero_le _, fun l13 n13 => ?_⟩
      have q13 := Same.upd_new (o := .lst []) n13
      have g13 : (upd H12 l13 (.lst [])) l13 = some (.lst []) := upd_same
      have R13 := R12.trans q13
      have hl413 := q13 _ _ hl412
      have gg13 := gg12.same q13
      generalize upd H12 l13 (.lst []) = H13 at g13 R13 hl413 gg13 ⊢
      refine ⟨_, _, .lst (SqL.of hl413) (dpInts _), .lst (SqL.of g13) .nil, shaped_ints _, by decide +kernel, _, rfl, ?_⟩
      rw [ne_nil]
      by_cases c0 : (stF es (kept "take") ns ns.length).2.2 = []
      · refine ite_no (by rw [decide_eq_true c0]; rfl) ?_
        refine ite_no rfl ?_
        exact ⟨R13, _, _, _, _, rfl⟩
      · refine ite_yes (by rw [decide_eq_false c0]; rfl) ?_
        obtain ⟨u, a, eu⟩ : ∃ u a, (stF es (kept "take") ns ns.length).2.2 = u ++ [a] := ⟨_, _, (List.dropLast_concat_getLast c0).symm⟩
        have hat : atI (iV (stF es (kept "take") ns ns.length).2.2) (-1) = some (.int a) := by
          rw [eu, iV, List.map_append]
          exact atI_last _ _
        refine ⟨_, rfl, 1, rfl, l4, _, -1, _, rfl, rfl, SqL.of hl413, hat, _, rfl, rfl, _, rfl, ?_⟩
        rw [Half.dec_int]
        by_cases c1 : a = (n : Int)
        · refine ite_yes (decide_eq_true c1) ?_
          refine ⟨_, rfl, _, rfl, 1, rfl, D, _, -1, _, rfl, rfl, SqL.of gg13.c, atI_lastI n1, rfl, _, rfl, ?_⟩
          refine ite_no ?_ ⟨R13, _, _, _, _, rfl⟩
          rw [hk, n1, c1] at eu
          have := stF_take eu
          rw [hk, n1, this, decide_eq_true rfl]
          rfl
        · refine ite_no (decide_eq_false c1) ?_
          refine ite_no rfl ?_
          exact ⟨R13, _, _, _, _, rfl⟩
  · rintro σ H2 ⟨s2, y5, y10, y11, y12, rfl⟩
    exact k H2 _ _ _ _ (s1.trans s2)
theorem law_6 {f : Addr} {cdv : Value} {A : Around} {outer : List Env} {s : Shared} {H0 : Hp} {E : XK} (L : LawD P w K mg base CN CA)
    (hr : Room 5 (A.deeper (envOfC "law" (defScope sLaw) s.heap.objs.size f cdv))) (nd : LawN.Nodup) :
    ∃ t, PSs (cxOf CX0 P w K mg base LawN "law" (defScope sLaw) f cdv A outer s H0 E).nox (lBody.drop 9) t ∧ ∀ (D' : Ends) (H : Hp) (D : Addr) (ms ns : List Int) (es : List (Int × Int)) (n : Nat) (x0 x1 x2 x3 x5 x6 x7 x8 x10 x11 x12 x13 x14 x15 x16 : Option V), H D = some (.lst (iV ns)) → Ok ms ns es n →
      (∀ H' x13, Same H H' → D'.nx [x0, x1, x2, x3, some (.ref D), x5, x6, x7, x8, some (.int n), x10, x11, x12, x13, x14, x15, x16] H') →
      t D' [x0, x1, x2, x3, some (.ref D), x5, x6, x7, x8, some (.int n), x10, x11, x12, x13, x14, x15, x16] H := by
  have r4 : Room 4 _ := hr.mono (by decide)
  refine ⟨_, pss_cons (ps_set (i := 13) nd rfl (Or.inl rfl) (pe_defX L.dA r4 rfl passL (pa_cons (pv 4) (pa_cons pe_dnewK (pa_cons pe_str pa_nil)))))
    (pss_one (ps_if (PW.pt (pw_or (pt_cmpR (op_neD hr.units) (pv 13) (pe_tup (pa_cons (pe_ix ix_list (pv 4) (pe_un un_neg pe_int) (fun _ _ => rfl)) (pa_cons (pe_lst pa_nil) pa_nil))) (nomark _))
      (pw_or1 (pt_cmpR (op_neD hr.units) (pe_defX L.dF r4 rfl passL (pa_cons (pv 4) (pa_cons pe_dnewK pa_nil))) (pe_tup (pa_cons pe_int (pa_cons (pe_tup (pa_cons (pv 9) pa_nil)) pa_nil))) (nomark _))))) (pss_one (ps_ret pe_bl)) pss_nil)), ?_⟩
  intro D' H D ms ns es n x0 x1 x2 x3 x5 x6 x7 x8 x10 x11 x12 x13 x14 x15 x16 hD ok k
  have n1 := ok.n1
  have n6 := ok.n6
  refine ⟨_, rfl, fun d1 nd1 => ?_⟩
  have q1 := Same.upd_new (o := .dK []) nd1
  refine ⟨D, d1, ns, [], "keep", rfl, SqL.of (q1 _ _ hD), by omega, upd_same, fun _ _ H2 t2 l2 s2 ht2 hl2 => ?_, fun y => (by rw [ok.okB] at y; cases y), fun _ y => absurd y (by decide +kernel)⟩
  rw [n1, stF_bare] at ht2 hl2
  have S2 := q1.trans s2
  refine ⟨_, rfl, _, rfl, 1, rfl, D, _, -1, _, rfl, rfl, SqL.of (S2 _ _ hD), atI_lastI n1, Nat.zero_le _, fun l3 n3 => ⟨two_le, fun t4 n4 => ?_⟩⟩
  have q3 := Same.upd_new (o := .lst []) n3
  have q4 := Same.upd_new (o := .tup [.int (ns.getD n 0), .ref l3]) n4
  have s4 := q3.trans q4
  have g3 := q4 _ _ (upd_same (H := H2) (a := l3) (o := .lst []))
  have g4 : (upd (upd H2 l3 (.lst [])) t4 (.tup [.int (ns.getD n 0), .ref l3])) t4 = some (.tup [.int (ns.getD n 0), .ref l3]) := upd_same
  have S4 := S2.trans s4
  have ht4 := s4 _ _ ht2
  have hl4 := s4 _ _ hl2
  generalize upd (upd H2 l3 (.lst [])) t4 (.tup [.int (ns.getD n 0), .ref l3]) = H4 at g3 g4 S4 ht4 hl4 ⊢
  refine ⟨_, _, .tup (SqT.of ht4) (.cons (.int _) (.cons (.lst (SqL.of hl4) .nil) .nil)), .tup (SqT.of g4) (.cons (.int _) (.cons (.lst (SqL.of g3) .nil) .nil)), told_shaped _ [], told_shaped _ [], _, rfl, ?_⟩
  refine ite_no (congrArg not (told_eqv (ns.getD n 0) [])) ?_
  refine ⟨_, rfl, fun d5 nd5 => ?_⟩
  have q5 := Same.upd_new (o := .dK []) nd5
  have S5 := S4.trans q5
  refine ⟨D, d5, ns, [], rfl, SqL.of (S5 _ _ hD), by omega, upd_same, ok.okB, fun H6 ta ti c s6 hta hti fw => ?_⟩
  have ec := few_bare n1 fw
  subst ec
  refine ⟨_, rfl, one_le, fun t7 n7 => ⟨two_le, fun t8 n8 => ?_⟩⟩
  have q7 := Same.upd_new (o := .tup [.int (n : Int)]) n7
  have q8 := Same.upd_new (o := .tup [.int 0, .ref t7]) n8
  have s78 := q7.trans q8
  refine ⟨_, _, .tup (SqT.of (s78 _ _ hta)) (.cons (.int _) (.cons (.tup (s78.sqT hti) (.cons (.int _) .nil)) .nil)), .tup (SqT.of upd_same) (.cons (.int _) (.cons (.tup (SqT.of (q8 _ _ upd_same)) (.cons (.int _) .nil)) .nil)), ans_shaped 0 [(n : Int)], ans_shaped 0 [(n : Int)], _, rfl, ?_⟩
  refine ite_no (congrArg not (ans_eqv 0 [(n : Int)])) ?_
  exact k _ _ (S5.trans (s6.trans s78))
def spLaw (K : PySem.W.Frag) : Sp := fun vs H Q _ => ∃ (a : Addr) (ns : List Int), vs = [.ref a] ∧ SqL K H a (ns.map V.int) ∧ ns.length ≤ 63 ∧ ∀ H', Q (.bl true) H'
theorem ok_law {f : Addr} {cdv : Value} {oc kV doc pm ct : Value} {od an : Option Addr} {osl : Array (Option Value)} (lk : K.lookup f = some ⟨oc, od, .func (PySem.W.fnOf "law" "law" (defArgs sLaw) (defBody sLaw) (defScope sLaw) .none kV doc pm an cdv ct), osl⟩) (hcd : PySem.W.codeIn K cdv "law" = true)
    (L : LawD P w K mg base CN CA) :
    FnOk P w K mg base CX0 6 f (PySem.W.fnOf "law" "law" (defArgs sLaw) (defBody sLaw) (defScope sLaw) .none kV doc pm an cdv ct) ["_law_script"] (spLaw K) := by
  refine fn_of lk hcd scLaw (fun vs H Q E h => ?_) (fun A outer s H vs Q E hr h => ?_)
  · obtain ⟨a, ns, rfl, _⟩ := h
    rfl
  · obtain ⟨a, ns, rfl, hS, hlen, k⟩ := h
    have nd := scLaw.nd
    obtain ⟨t6, h6, rd6⟩ := law_6 (f := f) (cdv := cdv) (A := A) (outer := outer) (s := s) (H0 := H) (E := E) L hr nd
    obtain ⟨t5, h5, rd5⟩ := law_5 (A := A) (outer := outer) (s := s) (H0 := H) (E := E) L hr nd h6
    obtain ⟨t4, h4, rd4⟩ := law_4 (A := A) (outer := outer) (s := s) (H0 := H) (E := E) L hr nd h5
    obtain ⟨t3, h3, rd3⟩ := law_3 (A := A) (outer := outer) (s := s) (H0 := H) (E := E) L hr nd h4
    obtain ⟨t2, h2, rd2⟩ := law_2 (A := A) (outer := outer) (s := s) (H0 := H) (E := E) L hr nd h3
    obtain ⟨t1, h1, rd1⟩ := law_1 (A := A) (outer := outer) (s := s) (H0 := H) (E := E) L hr nd h2
    refine ⟨_, (pss_cons (ps_set (i := 14) nd rfl (Or.inr rfl) (pe_lst (pa_cons (pv 0) (pa_cons pe_int (pa_cons pe_int (pa_cons pe_int pa_nil))))))
      (pss_cons (ps_for PassesOwn.never rfl (pi_range1 (by rfl) L.T.ran (pa_cons pe_int pa_nil)) (pg_name (i := 1) nd rfl (Or.inl rfl)) h1)
      (pss_one (ps_ret pe_bl)))).nox, ?_⟩
    refine ⟨_, rfl, (by show 4 ≤ sizeLine; decide), fun r nr => ?_⟩
    have s1 := Same.upd_new (o := .lst [.ref a, .int 0, .int 0, .int 0]) nr
    have I1 : Row K (upd H r (.lst [.ref a, .int 0, .int 0, .int 0])) r a := ⟨ns, 0, 0, 0, upd_same, s1.seq hS, hlen, Int.le_refl 0⟩
    generalize upd H r (.lst [.ref a, .int 0, .int 0, .int 0]) = H1 at I1 ⊢
    refine ⟨5, rfl, by decide, by decide, ?_⟩
    refine for_it walk_range (fun i σ H' => ∃ x1 x2 x3 x4 x5 x6 x7 x8 x9 x10 x11 x12 x13 x15 x16, Row K H' r a ∧ σ = [some (.ref a), x1, x2, x3, x4, x5, x6, x7, x8, x9, x10, x11, x12, x13, some (.ref r), x15, x16]) ⟨none, none, none, none, none, none, none, none, none, none, none, none, none, none, none, I1, rfl⟩ (fun _ _ _ _ _ => trivial) ?_ ?_
    · rintro i x σ H2 H3 hi ⟨x1, x2, x3, x4, x5, x6, x7, x8, x9, x10, x11, x12, x13, x15, x16, I2, rfl⟩ ⟨rfl, rfl⟩
      refine rd1 _ _ r a _ _ _ _ _ _ _ _ _ _ _ _ _ _ _ _ I2 fun H4 lM ms y2 I4 hM pm => ?_
      refine rd2 _ _ r a lM ms _ _ _ _ _ _ _ _ _ _ _ _ _ _ _ I4 hM fun H5 D d ns es y3 I5 hM5 hD5 hd5 n1 n6 rg ed => ?_
      have ok : Ok ms ns es (ns.length - 1) := ⟨pm, by omega, by omega, rg, ed⟩
      refine rd3 _ _ lM D d ms ns es _ _ _ _ _ _ _ _ _ _ _ _ _ _ _ hM5 hD5 hd5 ok fun H6 lO dP s6 g6 => ?_
      refine rd4 _ _ lM D d lO dP ms ns es _ _ _ _ _ _ _ _ _ _ _ _ _ g6 ok fun H7 tf ti c s7 htf fw => ?_
      refine rd5 _ _ lM D d lO dP tf ti ms ns es _ c _ _ _ _ _ _ _ _ _ _ (g6.same s7) ok htf fw fun H8 z5 z10 z11 z12 s8 => ?_
      refine rd6 _ _ D ms ns es _ _ _ _ _ _ _ _ _ _ _ _ _ _ _ _ ((g6.same s7).same s8).c ok fun H9 z13 s9 => ?_
      exact ⟨_, _, _, _, _, _, _, _, _, _, _, _, _, _, _, I5.same (s6.trans (s7.trans (s8.trans s9))), rfl⟩
    · rintro σ H2 ⟨x1, x2, x3, x4, x5, x6, x7, x8, x9, x10, x11, x12, x13, x15, x16, I2, rfl⟩
      exact k H2
end
end Half

namespace Half
open PySem PySem.Spec PyProof.Rows L2 LamX
theorem all_mk {l : PySem.W.OpenLaw} {w : World} {K : PySem.W.Frag} {h : Heap} {mg : Str → Option Value} {fa : Addr} (X : K.In h) (G : h.Ns mainGlobals mg) (hfa : mg "law" = some (.ref fa))
    {f_numb : Addr} {oc_numb kV_numb dc_numb pm_numb cd_numb ct_numb : Value} {od_numb an_numb : Option Addr} {sl_numb : Array (Option Value)}
    {f_cc : Addr} {oc_cc kV_cc dc_cc pm_cc cd_cc ct_cc : Value} {od_cc an_cc : Option Addr} {sl_cc : Array (Option Value)}
    {f_ca : Addr} {oc_ca kV_ca dc_ca pm_ca cd_ca ct_ca : Value} {od_ca an_ca : Option Addr} {sl_ca : Array (Option Value)}
    {f_co : Addr} {oc_co kV_co dc_co pm_co cd_co ct_co : Value} {od_co an_co : Option Addr} {sl_co : Array (Option Value)}
    {f_se : Addr} {oc_se kV_se dc_se pm_se cd_se ct_se : Value} {od_se an_se : Option Addr} {sl_se : Array (Option Value)}
    {f_sd : Addr} {oc_sd kV_sd dc_sd pm_sd cd_sd ct_sd : Value} {od_sd an_sd : Option Addr} {sl_sd : Array (Option Value)}
    {f_bb : Addr} {oc_bb kV_bb dc_bb pm_bb cd_bb ct_bb : Value} {od_bb an_bb : Option Addr} {sl_bb : Array (Option Value)}
    {f_fa : Addr} {oc_fa kV_fa dc_fa pm_fa cd_fa ct_fa : Value} {od_fa an_fa : Option Addr} {sl_fa : Array (Option Value)}
    {f_take : Addr} {oc_take kV_take dc_take pm_take cd_take ct_take : Value} {od_take an_take : Option Addr} {sl_take : Array (Option Value)}
    {f_sa : Addr} {oc_sa kV_sa dc_sa pm_sa cd_sa ct_sa : Value} {od_sa an_sa : Option Addr} {sl_sa : Array (Option Value)}
    {f_law cLaw : Addr} {oc_law kV_law dc_law pm_law ct_law : Value} {od_law an_law : Option Addr} {sl_law : Array (Option Value)}
    {CN : Addr}
    {CA : Addr}
    {t_mc : Tok}
    {t_mv : Tok}
    {aA : Addr} {ddA : Option Addr} {b0 b1 : Tok} {nA : Nat} {slA : Array (Option Value)}
    (n_int : PySem.W.nsIn K mainGlobals "int" = some none)
    (n_len : PySem.W.nsIn K mainGlobals "len" = some none)
    (n_isinstance : PySem.W.nsIn K mainGlobals "isinstance" = some none)
    (n_bool : PySem.W.nsIn K mainGlobals "bool" = some none)
    (n_range : PySem.W.nsIn K mainGlobals "range" = some none)
    (n_enumerate : PySem.W.nsIn K mainGlobals "enumerate" = some none)
    (n_min : PySem.W.nsIn K mainGlobals "min" = some none)
    (n_list : PySem.W.nsIn K mainGlobals "list" = some none)
    (n_dict : PySem.W.nsIn K mainGlobals "dict" = some none)
    (a_numb : PySem.W.nsIn K mainGlobals "is_number" = some (some (.ref f_numb)))
    (l_numb : K.lookup f_numb = some ⟨oc_numb, od_numb, .func (PySem.W.fnOf "is_number" "is_number" (defArgs sNumber) (defBody sNumber) (defScope sNumber) .none kV_numb dc_numb pm_numb an_numb cd_numb ct_numb), sl_numb⟩)
    (c_numb : PySem.W.codeIn K cd_numb "is_number" = true)
    (k_numb : PySem.W.keepIn K (.ref f_numb) = true)
    (a_cc : PySem.W.nsIn K mainGlobals "check_content" = some (some (.ref f_cc)))
    (l_cc : K.lookup f_cc = some ⟨oc_cc, od_cc, .func (PySem.W.fnOf "check_content" "check_content" (defArgs sCc) (defBody sCc) (defScope sCc) .none kV_cc dc_cc pm_cc an_cc cd_cc ct_cc), sl_cc⟩)
    (c_cc : PySem.W.codeIn K cd_cc "check_content" = true)
    (k_cc : PySem.W.keepIn K (.ref f_cc) = true)
    (a_ca : PySem.W.nsIn K mainGlobals "check_answer" = some (some (.ref f_ca)))
    (l_ca : K.lookup f_ca = some ⟨oc_ca, od_ca, .func (PySem.W.fnOf "check_answer" "check_answer" (defArgs sCa) (defBody sCa) (defScope sCa) .none kV_ca dc_ca pm_ca an_ca cd_ca ct_ca), sl_ca⟩)
    (c_ca : PySem.W.codeIn K cd_ca "check_answer" = true)
    (k_ca : PySem.W.keepIn K (.ref f_ca) = true)
    (a_co : PySem.W.nsIn K mainGlobals "check_course" = some (some (.ref f_co)))
    (l_co : K.lookup f_co = some ⟨oc_co, od_co, .func (PySem.W.fnOf "check_course" "check_course" (defArgs sCo) (defBody sCo) (defScope sCo) .none kV_co dc_co pm_co an_co cd_co ct_co), sl_co⟩)
    (c_co : PySem.W.codeIn K cd_co "check_course" = true)
    (k_co : PySem.W.keepIn K (.ref f_co) = true)
    (a_se : PySem.W.nsIn K mainGlobals "settle" = some (some (.ref f_se)))
    (l_se : K.lookup f_se = some ⟨oc_se, od_se, .func (PySem.W.fnOf "settle" "settle" (defArgs sSe) (defBody sSe) (defScope sSe) .none kV_se dc_se pm_se an_se cd_se ct_se), sl_se⟩)
    (c_se : PySem.W.codeIn K cd_se "settle" = true)
    (k_se : PySem.W.keepIn K (.ref f_se) = true)
    (a_sd : PySem.W.nsIn K mainGlobals "settled" = some (some (.ref f_sd)))
    (l_sd : K.lookup f_sd = some ⟨oc_sd, od_sd, .func (PySem.W.fnOf "settled" "settled" (defArgs sSd) (defBody sSd) (defScope sSd) .none kV_sd dc_sd pm_sd an_sd cd_sd ct_sd), sl_sd⟩)
    (c_sd : PySem.W.codeIn K cd_sd "settled" = true)
    (k_sd : PySem.W.keepIn K (.ref f_sd) = true)
    (a_bb : PySem.W.nsIn K mainGlobals "best_behind" = some (some (.ref f_bb)))
    (l_bb : K.lookup f_bb = some ⟨oc_bb, od_bb, .func (PySem.W.fnOf "best_behind" "best_behind" (defArgs sBb) (defBody sBb) (defScope sBb) .none kV_bb dc_bb pm_bb an_bb cd_bb ct_bb), sl_bb⟩)
    (c_bb : PySem.W.codeIn K cd_bb "best_behind" = true)
    (k_bb : PySem.W.keepIn K (.ref f_bb) = true)
    (a_fa : PySem.W.nsIn K mainGlobals "fewest_asked" = some (some (.ref f_fa)))
    (l_fa : K.lookup f_fa = some ⟨oc_fa, od_fa, .func (PySem.W.fnOf "fewest_asked" "fewest_asked" (defArgs sFa) (defBody sFa) (defScope sFa) .none kV_fa dc_fa pm_fa an_fa cd_fa ct_fa), sl_fa⟩)
    (c_fa : PySem.W.codeIn K cd_fa "fewest_asked" = true)
    (k_fa : PySem.W.keepIn K (.ref f_fa) = true)
    (a_take : PySem.W.nsIn K mainGlobals "_law_taken" = some (some (.ref f_take)))
    (l_take : K.lookup f_take = some ⟨oc_take, od_take, .func (PySem.W.fnOf "_law_taken" "_law_taken" (defArgs sTaken) (defBody sTaken) (defScope sTaken) .none kV_take dc_take pm_take an_take cd_take ct_take), sl_take⟩)
    (c_take : PySem.W.codeIn K cd_take "_law_taken" = true)
    (k_take : PySem.W.keepIn K (.ref f_take) = true)
    (a_sa : PySem.W.nsIn K mainGlobals "settled_all" = some (some (.ref f_sa)))
    (l_sa : K.lookup f_sa = some ⟨oc_sa, od_sa, .func (PySem.W.fnOf "settled_all" "settled_all" (defArgs sSa) (defBody sSa) (defScope sSa) .none kV_sa dc_sa pm_sa an_sa cd_sa ct_sa), sl_sa⟩)
    (c_sa : PySem.W.codeIn K cd_sa "settled_all" = true)
    (k_sa : PySem.W.keepIn K (.ref f_sa) = true)
    (a_law : PySem.W.nsIn K mainGlobals "law" = some (some (.ref f_law)))
    (l_law : K.lookup f_law = some ⟨oc_law, od_law, .func (PySem.W.fnOf "law" "law" (defArgs sLaw) (defBody sLaw) (defScope sLaw) .none kV_law dc_law pm_law an_law (.ref cLaw) ct_law), sl_law⟩)
    (c_law : PySem.W.codeIn K (.ref cLaw) "law" = true)
    (k_law : PySem.W.keepIn K (.ref f_law) = true)
    (g_CN : PySem.W.nsIn K mainGlobals "InvalidNumber" = some (some (.ref CN)))
    (g_CA : PySem.W.nsIn K mainGlobals "InvalidAnswer" = some (some (.ref CA)))
    (exi_CN : PySem.W.excIn K CN [.type "ValueError", .type "Exception", .type "BaseException", .type "object"] "ValueError.__new__" = true)
    (ekc_CN : PySem.W.keepIn K (.ref CN) = true)
    (eb_CN : PySem.W.subIn K (.ref CN) (.type "BaseException") = some true)
    (et_CN : PySem.W.typeIn K (.ref CN) = some (.type "type"))
    (exi_CA : PySem.W.excIn K CA [.type "ValueError", .type "Exception", .type "BaseException", .type "object"] "ValueError.__new__" = true)
    (ekc_CA : PySem.W.keepIn K (.ref CA) = true)
    (eb_CA : PySem.W.subIn K (.ref CA) (.type "BaseException") = some true)
    (et_CA : PySem.W.typeIn K (.ref CA) = some (.type "type"))
    (v_mc : PySem.W.nsIn K mainGlobals "MOST_CONTENT" = some (some (.int 99 t_mc)))
    (v_mv : PySem.W.nsIn K mainGlobals "MOST_VERSIONS" = some (some (.int 12 t_mv)))
    (v_ans : PySem.W.nsIn K mainGlobals "ANSWERS" = some (some (.ref aA)))
    (t_A : K.lookup aA = some ⟨.type "tuple", ddA, .seq #[.str "keep" b0, .str "take" b1] nA, slA⟩)
    : LawAtS l w K CX0 6 63 "_law_script" mg fa h := by
  have e := hfa.symm.trans (PySem.W.mg_of X G a_law)
  cases e
  have none_ : ∀ {x : Str}, PySem.W.nsIn K mainGlobals x = some none → mg x = none := fun h => PySem.W.mg_none_of X G h
  have F_numb := fun_mk (st := sNumber) l_numb c_numb k_numb
  have B_numb := F_numb.binds (ps := ["value", "least", "most"]) fun _ _ _ _ _ _ us hl => match us, hl with | [_, _, _], _ => rfl
  have F_cc := fun_mk (st := sCc) l_cc c_cc k_cc
  have B_cc := F_cc.binds (ps := ["content", "least"]) fun _ _ _ _ _ _ us hl => match us, hl with | [_, _], _ => rfl
  have F_ca := fun_mk (st := sCa) l_ca c_ca k_ca
  have B_ca := F_ca.binds (ps := ["answer"]) fun _ _ _ _ _ _ us hl => match us, hl with | [_], _ => rfl
  have F_co := fun_mk (st := sCo) l_co c_co k_co
  have B_co := F_co.binds (ps := ["contents", "edits"]) fun _ _ _ _ _ _ us hl => match us, hl with | [_, _], _ => rfl
  have F_se := fun_mk (st := sSe) l_se c_se k_se
  have B_se := F_se.binds (ps := ["noted", "present", "new", "answer"]) fun _ _ _ _ _ _ us hl => match us, hl with | [_, _, _, _], _ => rfl
  have F_sd := fun_mk (st := sSd) l_sd c_sd k_sd
  have B_sd := F_sd.binds (ps := ["noted", "present", "new", "answer"]) fun _ _ _ _ _ _ us hl => match us, hl with | [_, _, _, _], _ => rfl
  have F_bb := fun_mk (st := sBb) l_bb c_bb k_bb
  have B_bb := F_bb.binds (ps := ["best", "at", "contents", "edits"]) fun _ _ _ _ _ _ us hl => match us, hl with | [_, _, _, _], _ => rfl
  have F_fa := fun_mk (st := sFa) l_fa c_fa k_fa
  have B_fa := F_fa.binds (ps := ["contents", "edits"]) fun _ _ _ _ _ _ us hl => match us, hl with | [_, _], _ => rfl
  have F_take := fun_mk (st := sTaken) l_take c_take k_take
  have B_take := F_take.binds (ps := ["_law_row", "_law_many"]) fun _ _ _ _ _ _ us hl => match us, hl with | [_, _], _ => rfl
  have F_sa := fun_mk (st := sSa) l_sa c_sa k_sa
  have B_sa := F_sa.binds (ps := ["contents", "edits", "answer"]) fun _ _ _ _ _ _ us hl => match us, hl with | [_, _, _], _ => rfl
  have EC_CN : ErrC K mg "InvalidNumber" CN := ⟨PySem.W.mg_of X G g_CN, exi_CN, ekc_CN, eb_CN, et_CN⟩
  have EC_CA : ErrC K mg "InvalidAnswer" CA := ⟨PySem.W.mg_of X G g_CA, exi_CA, ekc_CA, eb_CA, et_CA⟩
  have tA : ∀ H, SqT K H aA (ANS.map V.str) := fun H => .inr ⟨_, _, _, t_A, rfl, rfl, (by decide : 2 ≤ sizeLine), .cons ⟨_, rfl⟩ (.cons ⟨_, rfl⟩ .nil)⟩
  have TD0 : TxtD mg := ⟨none_ n_int, none_ n_len⟩
  have T : TxtS K mg CN CA := ⟨none_ n_int, none_ n_len, none_ n_isinstance, none_ n_bool, none_ n_range, none_ n_enumerate, ⟨_, PySem.W.mg_of X G v_mc⟩, ⟨_, PySem.W.mg_of X G v_mv⟩, ⟨_, PySem.W.mg_of X G v_ans, tA⟩, EC_CN, EC_CA⟩
  refine ⟨PySem.W.fnOf "law" "law" (defArgs sLaw) (defBody sLaw) (defScope sLaw) .none kV_law dc_law pm_law an_law (.ref cLaw) ct_law, [], spLaw K, fun p hp => (nomatch hp), fun p hp => (nomatch hp), fun p hp => (nomatch hp), fun s v => .of_eq rfl, fun H a ns hl _ hT hS => ⟨a, ns, rfl, hS, hl, fun _ => rfl⟩, fun base KB GB TB => ?_⟩
  · have dN : Def l.prog w K mg base 1 "is_number" _ spNumber := ⟨_, _, ok_number F_numb T, PySem.W.mg_of X G a_numb, k_numb, B_numb⟩
    have dCc : DefX l.prog w K mg base 2 "check_content" _ (spCc CN) := ⟨_, _, ok_cc F_cc T dN, PySem.W.mg_of X G a_cc, k_cc, B_cc⟩
    have dCa : DefX l.prog w K mg base 1 "check_answer" _ (spCa CA) := ⟨_, _, ok_ca F_ca T, PySem.W.mg_of X G a_ca, k_ca, B_ca⟩
    have dCo : DefX l.prog w K mg base 3 "check_course" _ (spCo K CN) := ⟨_, _, ok_co F_co T dN dCc, PySem.W.mg_of X G a_co, k_co, B_co⟩
    have dSe : Def l.prog w K mg base 1 "settle" _ spSe := ⟨_, _, ok_se F_se, PySem.W.mg_of X G a_se, k_se, B_se⟩
    have dSd : DefX l.prog w K mg base 3 "settled" _ (spSd CN CA) := ⟨_, _, ok_sd F_sd dCc dCa dSe, PySem.W.mg_of X G a_sd, k_sd, B_sd⟩
    have dBb : Def l.prog w K mg base 3 "best_behind" _ (spBb K) := ⟨_, _, ok_bb F_bb T (none_ n_min) dSe, PySem.W.mg_of X G a_bb, k_bb, B_bb⟩
    have dFa : DefX l.prog w K mg base 4 "fewest_asked" _ (spFa K) := ⟨_, _, ok_fa F_fa T (none_ n_min) (none_ n_list) dCo dBb, PySem.W.mg_of X G a_fa, k_fa, B_fa⟩
    have dT : Def l.prog w K mg base 1 "_law_taken" _ (spTaken K) := ⟨_, _, ok_taken F_take TD0, PySem.W.mg_of X G a_take, k_take, B_take⟩
    have dSa : DefX l.prog w K mg base 4 "settled_all" _ (spSa K CN CA) := ⟨_, _, ok_sa F_sa T dCo dCa dSe, PySem.W.mg_of X G a_sa, k_sa, B_sa⟩
    exact ok_law l_law c_law ⟨T, none_ n_list, none_ n_dict, dT, dSd, dSa, dFa⟩
end Half

open PySem PySem.W PyProof.Rows
set_option maxRecDepth 100000 in
set_option maxHeartbeats 0 in
theorem PySem.Challenge.cw_halfsetup_k55_whole_settings_by_other_co_holds : PySem.Challenge.rw_halfsetup_k55_whole_settings_by_other_co.Holds := by
  w_on; o_law; k_head; (case hw => w_witness2)
  k_fill
  refine LamX.walk_ofTs (l := PySem.Challenge.rw_halfsetup_k55_whole_settings_by_other_co) (n := 63) (k := 6) (x := "_law_script") (CX := fun _ => L2.CX0) rfl (by decide) rfl ⟨rfl, by decide, by decide⟩ (fun w h Y => PySem.W.kIn_of Y) ?F (fun _ _ _ _ _ z => z)
  case F =>
    intro w mg fa h Y KX G hmg
    refine' Half.all_mk KX G hmg ?n_int ?n_len ?n_isinstance ?n_bool ?n_range ?n_enumerate ?n_min ?n_list ?n_dict ?a_numb ?l_numb ?c_numb ?k_numb ?a_cc ?l_cc ?c_cc ?k_cc ?a_ca ?l_ca ?c_ca ?k_ca ?a_co ?l_co ?c_co ?k_co ?a_se ?l_se ?c_se ?k_se ?a_sd ?l_sd ?c_sd ?k_sd ?a_bb ?l_bb ?c_bb ?k_bb ?a_fa ?l_fa ?c_fa ?k_fa ?a_take ?l_take ?c_take ?k_take ?a_sa ?l_sa ?c_sa ?k_sa ?a_law ?l_law ?c_law ?k_law ?g_CN ?g_CA ?exi_CN ?ekc_CN ?eb_CN ?et_CN ?exi_CA ?ekc_CA ?eb_CA ?et_CA ?v_mc ?v_mv ?v_ans ?t_A
    (case n_int => k_is)
    (case n_len => k_is)
    (case n_isinstance => k_is)
    (case n_bool => k_is)
    (case n_range => k_is)
    (case n_enumerate => k_is)
    (case n_min => k_is)
    (case n_list => k_is)
    (case n_dict => k_is)
    (case a_numb => k_is)
    (case l_numb => k_is)
    (case c_numb => k_is)
    (case k_numb => k_is)
    (case a_cc => k_is)
    (case l_cc => k_is)
    (case c_cc => k_is)
    (case k_cc => k_is)
    (case a_ca => k_is)
    (case l_ca => k_is)
    (case c_ca => k_is)
    (case k_ca => k_is)
    (case a_co => k_is)
    (case l_co => k_is)
    (case c_co => k_is)
    (case k_co => k_is)
    (case a_se => k_is)
    (case l_se => k_is)
    (case c_se => k_is)
    (case k_se => k_is)
    (case a_sd => k_is)
    (case l_sd => k_is)
    (case c_sd => k_is)
    (case k_sd => k_is)
    (case a_bb => k_is)
    (case l_bb => k_is)
    (case c_bb => k_is)
    (case k_bb => k_is)
    (case a_fa => k_is)
    (case l_fa => k_is)
    (case c_fa => k_is)
    (case k_fa => k_is)
    (case a_take => k_is)
    (case l_take => k_is)
    (case c_take => k_is)
    (case k_take => k_is)
    (case a_sa => k_is)
    (case l_sa => k_is)
    (case c_sa => k_is)
    (case k_sa => k_is)
    (case a_law => k_is)
    (case l_law => k_is)
    (case c_law => k_is)
    (case k_law => k_is)
    (case g_CN => k_is)
    (case g_CA => k_is)
    (case exi_CN => kernel_rfl)
    (case ekc_CN => k_is)
    (case eb_CN => k_is)
    (case et_CN => k_is)
    (case exi_CA => kernel_rfl)
    (case ekc_CA => k_is)
    (case eb_CA => k_is)
    (case et_CA => k_is)
    (case v_mc => k_is)
    (case v_mv => k_is)
    (case v_ans => k_is)
    (case t_A => k_is)
