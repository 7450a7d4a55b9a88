import PyProof.Rows.All
import Wide.All
import OpenK.AllK
import Wide.FinOn
import HandS.ForMost
import HandS.ForExc
import HandS.IsInst
import HandS.Walk
import HandS.FStr
import HandS.More
import HandS.RaiseMore
import HandS.Codes
import HandS.Conv
import HandS.Flow
import HandS.TryMany
import HandS.Lambda
import HandS.Style
import HandS.EndTab
import HandS.ExcIs
import KE.KNestM
import KE.RegKIsAll
import PySem.Challenge.RW_halfsetup_k36_settled_by_the_rules
set_option Elab.async false
set_option linter.all false
set_option maxRecDepth 100000
set_option maxHeartbeats 8000000
namespace Half
open PySem PySem.Spec PyProof.Rows L2
def top (i : Nat) : Stmt := PySem.Challenge.pw_halfsetup_k36_settled_by_the_rules.main.body.getD i (.Pass ⟨0, 0, 0, 0⟩)
abbrev sTaken : Stmt := top 19
/-- the row of draws: the script, how many of its cells were read, the seed, what is left of a great cell -/
def Row (K : PySem.W.Frag) (H : Hp) (r a : Addr) : Prop := ∃ (ns : List Int) (i g l : Int), H r = some (.lst [.ref a, .int i, .int g, .int l]) ∧ SqL K H a (ns.map V.int) ∧ ns.length ≤ 63 ∧ 0 ≤ i
/-- a draw: some number below the bound; the row alone is changed -/
def spTaken (K : PySem.W.Frag) : Sp := fun vs H Q _ => ∃ (r : Addr) (m : Int) (a : Addr), vs = [.ref r, .int m] ∧ Row K H r a ∧ 0 < m ∧ m < 1073741824 ∧
  ∀ (v : Int) (o : HO), 0 ≤ v → v < m → Row K (upd H r o) r a → Q (.int v) (upd H r o)
theorem seqNe {K : PySem.W.Frag} {H : Hp} {r a : Addr} {o : HO} {xs : List V} (h : SqL K H a xs) (n : r ≠ a) : SqL K (upd H r o) a xs := by
  rcases h with (h | ⟨q, h⟩) | h
  · exact .inl (.inl (by rw [upd_ne (Ne.symm n)]; exact h))
  · exact .inl (.inr ⟨q, by rw [upd_ne (Ne.symm n)]; exact h⟩)
  · exact .inr h
theorem Row.seq {K : PySem.W.Frag} {H : Hp} {r a b : Addr} {o : HO} {ns : List Int} {l : List V} (hr : H r = some (.lst (.ref b :: l))) (h : SqL K H a (ns.map V.int)) : SqL K (upd H r o) a (ns.map V.int) := by
  have z : HO.lst (ns.map V.int) ≠ HO.lst (.ref b :: l) := fun z => by
    have z' : ns.map V.int = .ref b :: l := by injection z
    cases ns with
    | nil => cases z'
    | cons n ns => cases z'
  rcases h with (h | ⟨q, h⟩) | h
  · exact .inl (.inl (by rw [upd_ne (ne_of h hr z)]; exact h))
  · exact .inl (.inr ⟨q, by rw [upd_ne (ne_of h hr (fun w => by cases w))]; exact h⟩)
  · exact .inr h
structure TxtD (mg : Str → Option Value) : Prop where
  int : mg "int" = none
  len : mg "len" = none
section
variable {P : Program} {w : World} {K : PySem.W.Frag} {mg : Str → Option Value} {base : Heap}
theorem scTaken : FnScope ["_law_row", "_law_many", "_law_found", "_law_cell"] ["_law_row", "_law_many"] (defScope sTaken) := ⟨rfl, rfl, rfl, by decide +kernel, rfl, by decide +kernel, by decide +kernel⟩
theorem ok_taken {f : Addr} {fd : FuncData} (F : Fun K "_law_taken" "_law_taken" sTaken f fd) (T : TxtD mg) : FnOk P w K mg base CX0 1 f fd ["_law_row", "_law_many"] (spTaken K) := by
  refine F.ok scTaken (fun vs H Q E h => ?_) (fun cdv A outer s H vs Q E hr h => ?_)
  · obtain ⟨r, m, a, rfl, _⟩ := h
    rfl
  · obtain ⟨r, m, a, rfl, ⟨ns, i, g, l, hR, hS, hlen, hi⟩, hm0, hm1, k⟩ := h
    have nd := scTaken.nd
    refine ⟨_, pss_cons (ps_if (pt_cmpR op_gt (pe_ix ix_list (pv 0) pe_int (fun _ _ => rfl)) pe_int (nomark _))
        (pss_cons (ps_set (i := 2) nd rfl (Or.inl rfl) (pe_op op_mod (pe_callTy call_int1 (by rfl) T.int (by decide +kernel) (pa_cons (pe_ix ix_list (pv 0) pe_int (fun _ _ => rfl)) pa_nil)) (pv 1)))
        (pss_cons (ps_asg (pe_op op_fdiv (pe_ix ix_list (pv 0) pe_int (fun _ _ => rfl)) (pv 1)) (pg_sub (pv 0) pe_int set_list))
        (pss_one (ps_ret (pv 2))))) pss_nil)
      (pss_cons (ps_asg (pe_op op_add (pe_ix ix_list (pv 0) pe_int (fun _ _ => rfl)) pe_int) (pg_sub (pv 0) pe_int set_list))
      (pss_cons (ps_if (pt_cmpR op_gt (pe_ix ix_list (pv 0) pe_int (fun _ _ => rfl)) (pe_callB call_len_seq (by rfl) T.len PySem.boot_len (pa_cons (pe_ix ix_list (pv 0) pe_int (fun _ _ => rfl)) pa_nil)) (nomark _))
        (pss_cons (ps_asg (pe_op op_mod (pe_callTy call_int1 (by rfl) T.int (by decide +kernel) (pa_cons (pe_op op_add (pe_op op_mul (pe_ix ix_list (pv 0) pe_int (fun _ _ => rfl)) pe_int) pe_int) pa_nil)) pe_int) (pg_sub (pv 0) pe_int set_list))
        (pss_one (ps_ret (pe_op op_mod (pe_callTy call_int1 (by rfl) T.int (by decide +kernel) (pa_cons (pe_op op_fdiv (pe_ix ix_list (pv 0) pe_int (fun _ _ => rfl)) pe_int) pa_nil)) (pv 1))))) pss_nil)
      (pss_cons (ps_set (i := 3) nd rfl (Or.inl rfl) (pe_ix ix_list (pe_ix ix_list (pv 0) pe_int (fun _ _ => rfl)) (pe_op op_sub (pe_ix ix_list (pv 0) pe_int (fun _ _ => rfl)) pe_int) (fun _ _ => rfl)))
      (pss_cons (ps_asg (pe_op op_mod (pe_callTy call_int1 (by rfl) T.int (by decide +kernel) (pa_cons (pe_op op_add (pe_op op_add (pe_op op_mul (pe_ix ix_list (pv 0) pe_int (fun _ _ => rfl)) pe_int) (pv 3)) pe_int) pa_nil)) pe_int) (pg_sub (pv 0) pe_int set_list))
      (pss_cons (ps_if (pt_cmpR op_ge (pv 3) (pe_op op_pow pe_int pe_int) (nomark _)) (pss_one (ps_asg (pe_op op_fdiv (pv 3) (pv 1)) (pg_sub (pv 0) pe_int set_list))) pss_nil)
      (pss_one (ps_ret (pe_op op_mod (pe_callTy call_int1 (by rfl) T.int (by decide +kernel) (pa_cons (pv 3) pa_nil)) (pv 1))))))))), ?_⟩
    have mk : ∀ (i' g' l' : Int), 0 ≤ i' → ∀ o, o = HO.lst [.ref a, .int i', .int g', .int l'] → Row K (upd H r o) r a := fun i' g' l' h o e => ⟨ns, i', g', l', by rw [upd_same, e], Row.seq hR hS, hlen, h⟩
    refine ⟨_, rfl, r, _, _, _, rfl, rfl, SqL.of hR, rfl, _, _, rfl, rfl, _, rfl, ?_⟩
    refine ite2 (fun c => ?_) (fun c => ?_)
    · refine ⟨_, rfl, r, _, _, _, rfl, rfl, SqL.of hR, rfl, .inl ⟨_, rfl, _, rfl, _, _, rfl, rfl, hm0, ?_⟩⟩
      refine ⟨_, rfl, r, _, _, _, rfl, rfl, SqL.of hR, rfl, _, rfl, _, _, rfl, rfl, ⟨hm0, hm1⟩, _, rfl, r, _, _, _, rfl, rfl, hR, rfl, ?_⟩
      refine ⟨_, rfl, ?_⟩
      exact k _ _ (Int.emod_nonneg _ (by omega)) (Int.emod_lt_of_pos _ hm0) (mk i g (l / m) hi _ rfl)
    · refine ⟨_, rfl, r, _, _, _, rfl, rfl, SqL.of hR, rfl, _, _, rfl, rfl, _, rfl, r, _, _, _, rfl, rfl, hR, rfl, ?_⟩
      have hR1 : ∀ o : HO, (upd H r o) r = some o := fun o => upd_same
      refine ⟨_, rfl, r, _, _, _, rfl, rfl, SqL.of (hR1 _), rfl, _, rfl, r, _, _, _, rfl, rfl, SqL.of (hR1 _), rfl, a, _, rfl, .inl (Row.seq hR hS), _, _, rfl, rfl, _, rfl, ?_⟩
      refine ite2 (fun c2 => ?_) (fun c2 => ?_)
      · refine ⟨_, rfl, r, _, _, _, rfl, rfl, SqL.of (hR1 _), rfl, _, _, rfl, rfl, .inr ⟨by decide, by decide⟩, _, _, rfl, rfl, .inl ⟨_, rfl, _, _, rfl, rfl, (by show (0 : Int) < 2147483647; decide), _, rfl, r, _, _, _, rfl, rfl, hR1 _, rfl, ?_⟩⟩
        rw [upd_upd]
        refine ⟨_, rfl, r, _, _, _, rfl, rfl, SqL.of (hR1 _), rfl, _, _, rfl, rfl, ⟨by decide, by decide⟩, .inl ⟨_, rfl, _, rfl, _, _, rfl, rfl, hm0, ?_⟩⟩
        exact k _ _ (Int.emod_nonneg _ (by omega)) (Int.emod_lt_of_pos _ hm0) (mk (i + 1) _ l (by omega) _ rfl)
      · have c3 : ¬ ((ns.map V.int).length : Int) < i + 1 := fun z => c2 (decide_eq_true z)
        rw [List.length_map] at c3
        have hin : i.toNat < ns.length := by omega
        have hat : atI (ns.map V.int) ((i + 1) - 1) = some (V.int ns[i.toNat]) := by
          have e : (i + 1) - 1 = ((i.toNat : Nat) : Int) := by omega
          rw [e]
          refine atI_nat ?_
          rw [List.getElem?_map, List.getElem?_eq_getElem hin]
          rfl
        refine ⟨_, rfl, r, _, _, _, rfl, rfl, SqL.of (hR1 _), rfl, _, rfl, r, _, _, _, rfl, rfl, SqL.of (hR1 _), rfl, _, _, rfl, rfl, a, _, _, _, rfl, rfl, Row.seq hR hS, hat, ?_⟩
        refine ⟨_, rfl, r, _, _, _, rfl, rfl, SqL.of (hR1 _), rfl, _, _, rfl, rfl, .inr ⟨by decide, by decide⟩, _, rfl, _, _, rfl, rfl, _, _, rfl, rfl, .inl ⟨_, rfl, _, _, rfl, rfl, (by show (0 : Int) < 2147483647; decide), _, rfl, r, _, _, _, rfl, rfl, hR1 _, rfl, ?_⟩⟩
        rw [upd_upd]
        refine ⟨_, rfl, _, _, rfl, rfl, ⟨by decide, by decide, by decide⟩, _, _, rfl, rfl, _, rfl, ?_⟩
        refine ite2 (fun c4 => ?_) (fun c4 => ?_)
        · refine ⟨_, rfl, _, rfl, _, _, rfl, rfl, ⟨hm0, hm1⟩, _, rfl, r, _, _, _, rfl, rfl, hR1 _, rfl, ?_⟩
          rw [upd_upd]
          refine ⟨_, rfl, .inl ⟨_, rfl, _, rfl, _, _, rfl, rfl, hm0, ?_⟩⟩
          exact k _ _ (Int.emod_nonneg _ (by omega)) (Int.emod_lt_of_pos _ hm0) (mk (i + 1) _ _ (by omega) _ rfl)
        · refine ⟨_, rfl, .inl ⟨_, rfl, _, rfl, _, _, rfl, rfl, hm0, ?_⟩⟩
          exact k _ _ (Int.emod_nonneg _ (by omega)) (Int.emod_lt_of_pos _ hm0) (mk (i + 1) _ _ (by omega) _ rfl)
end
end Half

namespace Half
open PySem PySem.Spec PyProof.Rows L2
abbrev sNumber : Stmt := top 1
abbrev sCc : Stmt := top 10
abbrev sCa : Stmt := top 11
abbrev sCo : Stmt := top 12
abbrev sSe : Stmt := top 13
abbrev sSd : Stmt := top 14
abbrev sSa : Stmt := top 15
abbrev sFa : Stmt := top 17
abbrev sOne : Stmt := top 20
abbrev sWd : Stmt := top 21
/-! ### defs by their promises, those that may raise too -/
structure Def (P : Program) (w : World) (K : PySem.W.Frag) (mg : Str → Option Value) (base : Heap) (k : Nat) (x : Str) (ps : List Str) (sp : Sp) : Prop where
  ex : ∃ f fd, FnOk P w K mg base CX0 k f fd ps sp ∧ mg x = some (.ref f) ∧ PySem.W.keepIn K (.ref f) = true ∧ Binds K fd ps []
structure DefX (P : Program) (w : World) (K : PySem.W.Frag) (mg : Str → Option Value) (base : Heap) (k : Nat) (x : Str) (ps : List Str) (sp : Sp) : Prop where
  ex : ∃ f fd, FnOk P w K mg base (L2.CX P w) k f fd ps sp ∧ mg x = some (.ref f) ∧ PySem.W.keepIn K (.ref f) = true ∧ Binds K fd ps []
section
variable {X : Cx} {k : Nat} {x : Str} {ps : List Str} {sp : Sp} {e : Expr} {es : List Expr} {t : TA} {p pos : Pos}
theorem pe_def (D : Def X.prog X.w X.K X.mg X.base k x ps sp) (hr : Room k X.A) (hg : Gl X x) (ha : PA X (e :: es) t)
    (hdb : (x == ("__debug__" : Str)) = false := by decide) (he : starEach (e :: es) X.env = (false, eval e X.env) :: starEach es X.env := by rfl) (hpl : (backTo pos (starEach es X.env)).any (·.1) = false := by rfl) :
    PE X (.Call (.Name x p) (e :: es) [] pos) (tCall sp [] E0 t) := by
  obtain ⟨f, fd, F, hm, hk, hb⟩ := D.ex
  exact pe_call F hr hg hm hk hb .nil pass0 ha hdb he hpl
theorem pe_defX {E : XK} (D : DefX X.prog X.w X.K X.mg X.base k x ps sp) (hr : Room k X.A) (hg : Gl X x) (hx : Passes (L2.CX X.prog X.w) X E) (ha : PA X (e :: es) t)
    (hdb : (x == ("__debug__" : Str)) = false := by decide) (he : starEach (e :: es) X.env = (false, eval e X.env) :: starEach es X.env := by rfl) (hpl : (backTo pos (starEach es X.env)).any (·.1) = false := by rfl) :
    PE X (.Call (.Name x p) (e :: es) [] pos) (tCall sp [] E t) := by
  obtain ⟨f, fd, F, hm, hk, hb⟩ := D.ex
  exact pe_call F hr hg hm hk hb .nil hx ha hdb he hpl
end
theorem _root_.L2.Same.sqT {K : PySem.W.Frag} {H H' : Hp} {a : Addr} {xs : List V} (e : Same H H') (h : SqT K H a xs) : SqT K H' a xs := by
  rcases h with (h | ⟨o, h⟩) | h
  · exact .inl (.inl (e _ _ h))
  · exact .inl (.inr ⟨o, e _ _ h⟩)
  · exact .inr h
theorem _root_.L2.Same.upd_new {H : Hp} {p : Addr} {o : HO} (h : H p = none) : Same H (upd H p o) := fun b u e => by rw [upd_ne (ne_of_none e h)]; exact e
theorem ite_yes {c : Bool} {A B : Prop} (hc : c = true) (h : A) : if c = true then A else B := by rw [if_pos hc]; exact h
theorem ite_no {c : Bool} {A B : Prop} (hc : c = false) (h : B) : if c = true then A else B := by rw [if_neg (by rw [hc]; decide)]; exact h
/-- an error class without own __init__ -/
structure ErrC (K : PySem.W.Frag) (mg : Str → Option Value) (x : Str) (C : Addr) : Prop where
  g : mg x = some (.ref C)
  x : PySem.W.excIn K C [.type "ValueError", .type "Exception", .type "BaseException", .type "object"] "ValueError.__new__" = true
  k : PySem.W.keepIn K (.ref C) = true
  b : PySem.W.subIn K (.ref C) (.type "BaseException") = some true
  t : PySem.W.typeIn K (.ref C) = some (.type "type")
/-! ### the mirror -/
def inR (v : V) (lo hi : Int) : Bool := match v with
  | .int n => decide (lo ≤ n) && decide (n ≤ hi)
  | _ => false
def IntB (v : V) : Prop := (∃ n, v = .int n) ∨ ∃ b, v = .bl b
def ANS : List Str := ["keep", "take"]
def isAns (z : Str) : Bool := ANS.any fun y => decide (y = z)
theorem inV_ans (z : Str) : inV (.str z) (ANS.map V.str) = isAns z := by
  unfold inV isAns ANS
  simp only [List.map_cons, List.map_nil, List.any_cons, List.any_nil]
  rfl
def spNumber : Sp := fun vs H Q _ => ∃ (v : V) (lo hi : Int), vs = [v, .int lo, .int hi] ∧ IntB v ∧ Q (.bl (inR v lo hi)) H
def spCc (CN : Addr) : Sp := fun vs H Q E => ∃ (v : V) (lo : Int), vs = [v, .int lo] ∧ IntB v ∧ (lo = 0 ∨ lo = 1) ∧ (inR v lo 99 = true → Q .non H) ∧ (inR v lo 99 = false → E (.ref CN) none H)
def spCa (CA : Addr) : Sp := fun vs H Q E => ∃ z : Str, vs = [.str z] ∧ (isAns z = true → Q .non H) ∧ (isAns z = false → E (.ref CA) none H)
structure TxtS (K : PySem.W.Frag) (mg : Str → Option Value) (CN CA : Addr) : Prop where
  int : mg "int" = none
  len : mg "len" = none
  isi : mg "isinstance" = none
  boo : mg "bool" = none
  ran : mg "range" = none
  enu : mg "enumerate" = none
  mc : ∃ t, mg "MOST_CONTENT" = some (.int 99 t)
  mv : ∃ t, mg "MOST_VERSIONS" = some (.int 12 t)
  ans : ∃ a, mg "ANSWERS" = some (.ref a) ∧ ∀ H, SqT K H a (ANS.map V.str)
  en : ErrC K mg "InvalidNumber" CN
  ea : ErrC K mg "InvalidAnswer" CA
section
variable {P : Program} {w : World} {K : PySem.W.Frag} {mg : Str → Option Value} {base : Heap} {CN CA : Addr}
theorem scNumber : FnScope ["value", "least", "most"] ["value", "least", "most"] (defScope sNumber) := ⟨rfl, rfl, rfl, by decide +kernel, rfl, by decide +kernel, by decide +kernel⟩
theorem ok_number {f : Addr} {fd : FuncData} (F : Fun K "is_number" "is_number" sNumber f fd) (T : TxtS K mg CN CA) : FnOk P w K mg base CX0 1 f fd ["value", "least", "most"] spNumber := by
  refine F.ok scNumber (fun vs H Q E h => ?_) (fun cdv A outer s H vs Q E hr h => ?_)
  · obtain ⟨v, lo, hi, rfl, _⟩ := h
    rfl
  · obtain ⟨v, lo, hi, rfl, hv, k⟩ := h
    refine ⟨_, pss_cons (ps_if (PW.pt (pw_or (pt_val (pe_callB call_isi (by rfl) T.isi (by decide +kernel) (pa_cons (pv 0) (pa_cons (pe_bltn (v := .ty "bool") (by rfl) T.boo (by decide +kernel) rfl) pa_nil))))
        (pw_or1 (pt_not (pt_val (pe_callB call_isi (by rfl) T.isi (by decide +kernel) (pa_cons (pv 0) (pa_cons (pe_bltn (v := .ty "int") (by rfl) T.int (by decide +kernel) rfl) pa_nil))))))))
        (pss_one (ps_ret pe_bl)) pss_nil)
      (pss_one (ps_ret (pe_chain op_le op_le (pv 1) (pv 0) (pv 2)))), ?_⟩
    rcases hv with ⟨n, rfl⟩ | ⟨b, rfl⟩
    · refine ⟨_, rfl, _, _, _, _, _, rfl, .ty _, .base (.int _), kit_ty (r := false) (by decide +kernel), _, rfl, iteF ?_⟩
      refine ⟨_, rfl, _, _, _, _, _, rfl, .ty _, .base (.int _), kit_ty (r := true) (by decide +kernel), _, rfl, iteF ?_⟩
      refine ⟨_, rfl, _, rfl, _, _, rfl, rfl, _, rfl, ?_⟩
      refine ite2 (fun c => ?_) (fun c => ?_)
      · refine ⟨_, rfl, _, _, rfl, rfl, ?_⟩
        have e : inR (.int n) lo hi = decide (n ≤ hi) := by show (decide (lo ≤ n) && decide (n ≤ hi)) = _; rw [c, Bool.true_and]
        rw [e] at k
        exact k
      · have c' : decide (lo ≤ n) = false := by simpa using c
        have e : inR (.int n) lo hi = false := by show (decide (lo ≤ n) && decide (n ≤ hi)) = _; rw [c', Bool.false_and]
        rw [e] at k
        exact k
    · refine ⟨_, rfl, _, _, _, _, _, rfl, .ty _, .base (.bl _), kit_ty (r := true) (by decide +kernel), _, rfl, ?_⟩
      exact k
theorem scCc : FnScope ["content", "least"] ["content", "least"] (defScope sCc) := ⟨rfl, rfl, rfl, by decide +kernel, rfl, by decide +kernel, by decide +kernel⟩
theorem ok_cc {f : Addr} {fd : FuncData} (F : Fun K "check_content" "check_content" sCc f fd) (T : TxtS K mg CN CA) (dN : Def P w K mg base 1 "is_number" ["value", "least", "most"] spNumber) : FnOk P w K mg base (L2.CX P w) 2 f fd ["content", "least"] (spCc CN) := by
  refine F.okX scCc (fun vs H Q E h => ?_) (fun cdv A outer s H vs Q E hr h => ?_)
  · obtain ⟨v, lo, rfl, _⟩ := h
    rfl
  · obtain ⟨v, lo, rfl, hv, hlo, kY, kN⟩ := h
    obtain ⟨tm, gm⟩ := T.mc
    refine ⟨_, pss_one (ps_if (pt_not (pt_val (pe_def dN hr rfl (pa_cons (pv 0) (pa_cons (pv 1) (pa_cons (pe_glob (v := .int 99) rfl gm ⟨_, rfl⟩) pa_nil))))))
        (pss_one (ps_raise rfl (takes_of rfl rfl rfl rfl) (SkE.pmk_own1 PySem.F.excBase_ValueError T.en.x T.en.g T.en.k (raises_own T.en.b T.en.t) rfl
          (pe_joined (.cons pe_str (.cons (pe_fmt (pv 1)) (.cons pe_str (.cons (pe_fmt (pe_glob (v := .int 99) rfl gm ⟨_, rfl⟩)) .nil)))))))) pss_nil), ?_⟩
    refine ⟨_, rfl, _, rfl, v, lo, 99, rfl, hv, _, rfl, ?_⟩
    cases c : inR v lo 99 with
    | true => exact iteF (kY c)
    | false =>
      refine iteT ?_
      rcases hlo with rfl | rfl
      · exact ⟨_, rfl, by decide +kernel, _, rfl, .inr ⟨_, rfl, by decide +kernel, _, rfl, by decide +kernel, _, rfl, by decide +kernel, .inr ⟨_, rfl, by decide +kernel, _, rfl, by decide +kernel, kN c⟩⟩⟩
      · exact ⟨_, rfl, by decide +kernel, _, rfl, .inr ⟨_, rfl, by decide +kernel, _, rfl, by decide +kernel, _, rfl, by decide +kernel, .inr ⟨_, rfl, by decide +kernel, _, rfl, by decide +kernel, kN c⟩⟩⟩
theorem scCa : FnScope ["answer"] ["answer"] (defScope sCa) := ⟨rfl, rfl, rfl, by decide +kernel, rfl, by decide +kernel, by decide +kernel⟩
theorem ok_ca {f : Addr} {fd : FuncData} (F : Fun K "check_answer" "check_answer" sCa f fd) (T : TxtS K mg CN CA) : FnOk P w K mg base (L2.CX P w) 1 f fd ["answer"] (spCa CA) := by
  refine F.okX scCa (fun vs H Q E h => ?_) (fun cdv A outer s H vs Q E hr h => ?_)
  · obtain ⟨z, rfl, _⟩ := h
    rfl
  · obtain ⟨z, rfl, kY, kN⟩ := h
    obtain ⟨aA, gA, hA⟩ := T.ans
    refine ⟨_, pss_one (ps_if (pt_cmpR (op_notIn_seq : OpR _ _ (rIn K true)) (pv 0) (pe_glob (v := .ref aA) rfl gA rfl) (by rfl))
        (pss_one (ps_raise rfl (takes_of rfl rfl rfl rfl) (pmk_own PySem.F.excBase_ValueError T.ea.x T.ea.g T.ea.k (raises_own T.ea.b T.ea.t) rfl))) pss_nil), ?_⟩
    refine ⟨_, rfl, aA, _, rfl, .inr (hA _), rfl, rfl, _, rfl, ?_⟩
    rw [if_pos rfl, inV_ans]
    cases c : isAns z with
    | true => exact iteF (kY c)
    | false => exact iteT (kN c)
end
end Half

namespace Half
open PySem PySem.Spec PyProof.Rows L2
/-! ### contents and edits -/
def iV (ns : List Int) : List V := ns.map V.int
def eK (es : List (Int × Int)) : List (Key × V) := es.map fun p => (.inl p.1, .int p.2)
def okC (ns : List Int) (es : List (Int × Int)) : Bool := decide (ns.length ≤ 12) && (ns.all fun n => inR (.int n) 1 99) && (es.all fun p => inR (.int p.1) 0 ((ns.length : Int) - 1) && inR (.int p.2) 0 99)
def spCo (K : PySem.W.Frag) (CN : Addr) : Sp := fun vs H Q E => ∃ (a d : Addr) (ns : List Int) (es : List (Int × Int)), vs = [.ref a, .ref d] ∧ SqL K H a (iV ns) ∧ ns.length ≤ 1000 ∧ H d = some (.dK (eK es)) ∧
  (okC ns es = true → ∀ H', Same H H' → Q .non H') ∧ (okC ns es = false → ∀ H', Same H H' → E (.ref CN) none H')
/-- what an error leaves while a dict is locked is told of the dict unlocked -/
theorem takes_unlock {X : Cx} {W : WX} {d0 : Addr} {u : HO} (tk : Takes X W) (hn : ∀ o' u', X.H_0 d0 ≠ some (.frz o' u')) : Takes X (fun cls d σ H => ∃ od, H d0 = some (.frz od u) ∧ W cls d σ (upd H d0 u)) := fun v s' x => by
  obtain ⟨a, B, sI, pins, σ, H, cls, d, e, I, nb, up, sky, na, os, ag, od, h, w⟩ := x
  exact tk v s' ⟨a, B, sI, pins, σ, _, cls, d, e, I.unlock h hn, nb, up, sky, by rw [upd_ne (fun z => by rw [z, h] at na; cases na)]; exact na, os, ag, w⟩
theorem all_take {α : Type} {f : α → Bool} {xs : List α} {i : Nat} {x : α} (h : (xs.take i).all f = true) (hx : xs[i]? = some x) (hf : f x = true) : (xs.take (i + 1)).all f = true := by
  rw [List.take_add_one, hx, List.all_append, h]
  simp [hf]
theorem all_bad {α : Type} {f : α → Bool} {xs : List α} {i : Nat} {x : α} (hx : xs[i]? = some x) (hf : f x = false) : xs.all f = false := by
  cases c : xs.all f with
  | false => rfl
  | true =>
    have := List.all_eq_true.mp c x (List.mem_of_getElem? hx)
    rw [hf] at this
    cases this
section
variable {P : Program} {w : World} {K : PySem.W.Frag} {mg : Str → Option Value} {base : Heap} {CN CA : Addr}
theorem scCo : FnScope ["contents", "edits", "content", "index"] ["contents", "edits"] (defScope sCo) := ⟨rfl, rfl, rfl, by decide +kernel, rfl, by decide +kernel, by decide +kernel⟩
theorem ok_co {f : Addr} {fd : FuncData} (F : Fun K "check_course" "check_course" sCo f fd) (T : TxtS K mg CN CA) (dN : Def P w K mg base 1 "is_number" ["value", "least", "most"] spNumber) (dC : DefX P w K mg base 2 "check_content" ["content", "least"] (spCc CN)) : FnOk P w K mg base (L2.CX P w) 3 f fd ["contents", "edits"] (spCo K CN) := by
  refine F.okX scCo (fun vs H Q E h => ?_) (fun cdv A outer s H vs Q E hr h => ?_)
  · obtain ⟨a, d, ns, es, rfl, _⟩ := h
    rfl
  · obtain ⟨a, d, ns, es, rfl, hS, hl, hd, kY, kN⟩ := h
    have nd := scCo.nd
    have r1 : Room 1 _ := hr.mono (by decide)
    obtain ⟨tm, gm⟩ := T.mv
    have hn0 : ∀ o' u', H d ≠ some (.frz o' u') := fun o' u' z => by rw [hd] at z; cases z
    refine ⟨_, pss_cons (ps_if (pt_cmpR op_gt (pe_callB call_len_seq (by rfl) T.len PySem.boot_len (pa_cons (pv 0) pa_nil)) (pe_glob (v := .int 12) rfl gm ⟨_, rfl⟩) (nomark _))
        (pss_one (ps_raise rfl (takes_of rfl rfl rfl rfl) (SkE.pmk_own1 PySem.F.excBase_ValueError T.en.x T.en.g T.en.k (raises_own T.en.b T.en.t) rfl
          (pe_joined (.cons pe_str (.cons (pe_fmt (pe_glob (v := .int 12) rfl gm ⟨_, rfl⟩)) (.cons pe_str .nil))))))) pss_nil)
      (pss_cons (ps_for (passes_of rfl) rfl (pi_list (pv 0)) (pg_name (i := 2) nd rfl (Or.inl rfl))
        (pss_one (ps_expr (pe_defX dC hr rfl (passes_call (takes_of rfl rfl rfl rfl) (fun _ _ _ _ h => h)) (pa_cons (pv 2) (pa_cons pe_int pa_nil))))))
      (pss_one (ps_lock (ps_for (passes_of rfl) rfl (pi_items (pv 1)) (pg_tup rfl (pgs_cons (pg_name (i := 3) nd rfl (Or.inl rfl)) (pgs_cons (pg_name (i := 2) nd rfl (Or.inl rfl)) pgs_nil)))
        (pss_cons (ps_if (pt_not (pt_val (pe_def dN r1 rfl (pa_cons (pv 3) (pa_cons pe_int (pa_cons (pe_op op_sub (pe_callB call_len_seq (by rfl) T.len PySem.boot_len (pa_cons (pv 0) pa_nil)) pe_int) pa_nil))))))
          (pss_one (ps_raise rfl (takes_unlock (d0 := d) (u := .dK (eK es)) (takes_of rfl rfl rfl rfl) hn0) (pmk_own PySem.F.excBase_ValueError T.en.x T.en.g T.en.k (raises_own T.en.b T.en.t) rfl))) pss_nil)
        (pss_one (ps_expr (pe_defX (E := fun cls dd H1 => ∃ od, H1 d = some (.frz od (.dK (eK es))) ∧ E cls dd (upd H1 d (.dK (eK es)))) dC hr rfl (passes_call (takes_unlock (d0 := d) (u := .dK (eK es)) (takes_of rfl rfl rfl rfl) hn0) (fun _ _ _ _ h => h)) (pa_cons (pv 2) (pa_cons pe_int pa_nil)))))))))), ?_⟩
    have hli : (iV ns).length = ns.length := List.length_map ..
    refine ⟨_, rfl, a, _, rfl, .inl hS, _, _, rfl, rfl, _, rfl, ?_⟩
    rw [hli]
    by_cases c1 : ns.length ≤ 12
    · refine ite_no (decide_eq_false (by omega)) ?_
      refine ⟨_, rfl, a, rfl, ⟨_, hS⟩, ?_⟩
      refine for_it (walk_list (xs := iV ns)) (fun i σ H' => ∃ x2, H' = H ∧ σ = [some (.ref a), some (.ref d), x2, none] ∧ (ns.take i).all (fun n => inR (.int n) 1 99) = true) ⟨none, rfl, rfl, rfl⟩ (fun i σ H' _ p => by obtain ⟨_, rfl, _⟩ := p; exact hS) ?_ ?_
      · rintro i x σ H1 H2 hi ⟨x2, rfl, rfl, hp⟩ ⟨rfl, hx⟩
        obtain ⟨n, hn, rfl⟩ : ∃ n, ns[i]? = some n ∧ x = .int n := by
          rw [iV, List.getElem?_map] at hx
          cases c : ns[i]? with
          | none => rw [c] at hx; cases hx
          | some n => rw [c] at hx; cases hx; exact ⟨n, rfl, rfl⟩
        refine ⟨_, rfl, .int n, 1, rfl, .inl ⟨_, rfl⟩, .inr rfl, fun c => ⟨_, rfl, rfl, all_take hp hn c⟩, fun c => kN ?_ _ (Same.refl _)⟩
        unfold okC
        rw [all_bad hn c, Bool.and_false, Bool.false_and]
      · rintro σ H1 ⟨x2, rfl, rfl, hp⟩
        rw [hli, List.take_length] at hp
        refine ⟨d, _, hd, trivial, fun od => ?_⟩
        refine ⟨_, rfl, d, od, _, rfl, upd_same, ?_⟩
        have hS' : ∀ u, SqL K (upd H1 d u) a (iV ns) := fun u => by
          have na : ∀ o', H1 a = some o' → o' ≠ .dK (eK es) → a ≠ d := fun o' q z y => by rw [y, hd] at q; cases q; exact z rfl
          rcases hS with (h | ⟨q, h⟩) | h
          · exact .inl (.inl (by rw [upd_ne (na _ h (by intro z; cases z))]; exact h))
          · exact .inl (.inr ⟨q, by rw [upd_ne (na _ h (by intro z; cases z))]; exact h⟩)
          · exact .inr h
        have hle : (eK es).length = es.length := List.length_map ..
        refine for_it (walk_items (d := d) (o := od) (kvs := eK es)) (fun i σ H' => ∃ x2 x3, Same (upd H1 d (.frz od (.dK (eK es)))) H' ∧ σ = [some (.ref a), some (.ref d), x2, x3] ∧ (es.take i).all (fun p => inR (.int p.1) 0 ((ns.length : Int) - 1) && inR (.int p.2) 0 99) = true) ⟨x2, none, Same.refl _, rfl, rfl⟩ (fun i σ H' _ p => by obtain ⟨_, _, s1, _⟩ := p; exact s1 _ _ upd_same) ?_ ?_
        · rintro i x σ H2 H3 hi ⟨y2, y3, s2, rfl, hp2⟩ ⟨t, k, v, rfl, nt, rfl, hk, hv⟩
          obtain ⟨q, hq, rfl, rfl⟩ : ∃ q : Int × Int, es[i]? = some q ∧ k = .int q.1 ∧ v = .int q.2 := by
            dsimp only [eK] at hk hv
            rw [List.getElem?_map] at hk hv
            cases c : es[i]? with
            | none => rw [c] at hk; cases hk
            | some q => rw [c] at hk hv; cases hk; cases hv; exact ⟨q, rfl, rfl, rfl⟩
          have s3 := s2.trans (Same.upd_new (o := .tup [.int q.1, .int q.2]) nt)
          have bad : okC ns es = false → ∀ H', Same (upd H1 d (.frz od (.dK (eK es)))) H' → ∃ od, H' d = some (.frz od (.dK (eK es))) ∧ E (.ref CN) none (upd H' d (.dK (eK es))) := fun c H' s' => by
            refine ⟨od, s' _ _ upd_same, kN c _ fun b o e => ?_⟩
            by_cases hb : b = d
            · subst hb
              rw [upd_same, ← e, hd]
            · rw [upd_ne hb]
              exact s' _ _ (by rw [upd_ne hb]; exact e)
          refine ⟨t, _, rfl, .inl (.inl upd_same), rfl, _, _, rfl, _, _, rfl, rfl, ?_⟩
          refine ⟨_, rfl, _, rfl, a, _, rfl, .inl (s3.seq (hS' _)), _, _, rfl, rfl, .int q.1, 0, _, rfl, .inl ⟨_, rfl⟩, _, rfl, ?_⟩
          rw [hli]
          cases c : inR (.int q.1) 0 ((ns.length : Int) - 1) with
          | false =>
            refine iteT ?_
            refine bad ?_ _ s3
            unfold okC
            rw [all_bad hq (by rw [c]; rfl), Bool.and_false]
          | true =>
            refine iteF ?_
            refine ⟨_, rfl, .int q.2, 0, rfl, .inl ⟨_, rfl⟩, .inl rfl, fun c2 => ⟨_, _, s3, rfl, all_take hp2 hq (by rw [c, c2]; rfl)⟩, fun c2 => bad ?_ _ s3⟩
            unfold okC
            rw [all_bad hq (by rw [c, c2]; rfl), Bool.and_false]
        · rintro σ H2 ⟨y2, y3, s2, rfl, hp2⟩
          rw [hle, List.take_length] at hp2
          refine ⟨s2 _ _ upd_same, kY ?_ _ fun b o e => ?_⟩
          · unfold okC
            rw [hp, hp2, decide_eq_true c1]
            rfl
          · by_cases hb : b = d
            · subst hb
              rw [upd_same, ← e, hd]
            · rw [upd_ne hb]
              exact s2 _ _ (by rw [upd_ne hb]; exact e)
    · refine ite_yes (decide_eq_true (by omega)) ?_
      have bad : okC ns es = false := by unfold okC; rw [decide_eq_false c1]; rfl
      exact ⟨_, rfl, by decide +kernel, .inr ⟨_, rfl, by decide +kernel, _, rfl, by decide +kernel, _, rfl, by decide +kernel, kN bad _ (Same.refl _)⟩⟩
end
end Half

namespace Half
open PySem PySem.Spec PyProof.Rows L2
/-! ### one setup -/
theorem two_le : 2 ≤ sizeLine := by decide
def kept (z : Str) : Bool := decide (z = ("keep" : Str))
def one (n p w : Int) (kp : Bool) : Int × Bool := if w = n ∨ w = p then (p, false) else if p = n then (w, false) else (if kp = true then p else w, true)
def oneV (r : Int × Bool) : List V := [.int r.1, .bl r.2]
def spSe : Sp := fun vs H Q _ => ∃ (n p w : Int) (z : Str), vs = [.int n, .int p, .int w, .str z] ∧ ∀ H' t, Same H H' → H t = none → H' t = some (.tup (oneV (one n p w (kept z)))) → Q (.ref t) H'
def spSd (CN CA : Addr) : Sp := fun vs H Q E => ∃ (v1 v2 v3 : V) (z : Str), vs = [v1, v2, v3, .str z] ∧ IntB v1 ∧ IntB v2 ∧ IntB v3 ∧
  (∀ n p w, v1 = .int n → v2 = .int p → v3 = .int w → isAns z = true → ∀ H' t, Same H H' → H t = none → H' t = some (.tup (oneV (one n p w (kept z)))) → Q (.ref t) H') ∧
  ((inR v1 0 99 && inR v2 0 99 && inR v3 1 99) = false → E (.ref CN) none H) ∧ ((inR v1 0 99 && inR v2 0 99 && inR v3 1 99) = true → isAns z = false → E (.ref CA) none H)
theorem inR_int {v : V} {lo hi : Int} (h : inR v lo hi = true) : ∃ n, v = .int n := by
  cases v with
  | int n => exact ⟨n, rfl⟩
  | _ => cases h
section
variable {P : Program} {w : World} {K : PySem.W.Frag} {mg : Str → Option Value} {base : Heap} {CN CA : Addr}
theorem dec_int {x y : Int} : decide (V.int x = V.int y) = decide (x = y) := by
  by_cases h : x = y
  · subst h; simp
  · rw [decide_eq_false h, decide_eq_false (fun z => h (by cases z; rfl))]
theorem dec_str {x y : Str} : decide (V.str x = V.str y) = decide (x = y) := by
  by_cases h : x = y
  · subst h; simp
  · rw [decide_eq_false h, decide_eq_false (fun z => h (by cases z; rfl))]
theorem inV_two {x y z : Int} : inV (.int x) [.int y, .int z] = decide (x = y ∨ x = z) := by
  unfold inV
  simp only [List.any_cons, List.any_nil, Bool.or_false]
  have e : ∀ a b : Int, eqV (.int a) (.int b) = decide (a = b) := fun a b => by
    first
    | rfl
    | (show (a == b) = _; by_cases h : a = b <;> simp [h])
  rw [e, e]
  by_cases h1 : x = y <;> by_cases h2 : x = z
  all_goals simp [h1, h2, eq_comm]
theorem scSe : FnScope ["noted", "present", "new", "answer"] ["noted", "present", "new", "answer"] (defScope sSe) := ⟨rfl, rfl, rfl, by decide +kernel, rfl, by decide +kernel, by decide +kernel⟩
theorem ok_se {f : Addr} {fd : FuncData} (F : Fun K "settle" "settle" sSe f fd) : FnOk P w K mg base CX0 1 f fd ["noted", "present", "new", "answer"] spSe := by
  refine F.ok scSe (fun vs H Q E h => ?_) (fun cdv A outer s H vs Q E hr h => ?_)
  · obtain ⟨n, p, w, z, rfl, _⟩ := h
    rfl
  · obtain ⟨n, p, w, z, rfl, k⟩ := h
    have nd := scSe.nd
    refine ⟨_, pss_cons (ps_if (pt_cmpR (op_in_seq : OpR _ _ (rIn K false)) (pv 2) (pe_tup (pa_cons (pv 0) (pa_cons (pv 1) pa_nil))) (by rfl)) (pss_one (ps_ret (pe_tup (pa_cons (pv 1) (pa_cons pe_bl pa_nil))))) pss_nil)
      (pss_cons (ps_if (pt_cmpR op_eq (pv 1) (pv 0) (nomark _)) (pss_one (ps_ret (pe_tup (pa_cons (pv 2) (pa_cons pe_bl pa_nil))))) pss_nil)
      (pss_one (ps_ret (pe_tup (pa_cons (pe_ifExp (pt_cmpR op_eq (pv 3) pe_str (nomark _)) (pv 1) (pv 2)) (pa_cons pe_bl pa_nil)))))), ?_⟩
    refine ⟨_, rfl, _, rfl, _, rfl, two_le, fun t nt => ⟨t, _, rfl, .inr (.inl (.inl upd_same)), rfl, rfl, _, rfl, ?_⟩⟩
    have s1 := Same.upd_new (o := .tup [.int n, .int p]) nt
    rw [if_neg (by decide), inV_two]
    unfold one at k
    by_cases c1 : w = n ∨ w = p
    · rw [if_pos c1] at k
      refine ite_yes (decide_eq_true c1) ?_
      refine ⟨_, rfl, two_le, fun q nq => ?_⟩
      refine k _ q (s1.trans (Same.upd_new nq)) ?_ upd_same
      cases e : H q with
      | none => rfl
      | some o => rw [s1 _ _ e] at nq; cases nq
    · rw [if_neg c1] at k
      refine ite_no (decide_eq_false c1) ?_
      refine ⟨_, rfl, _, rfl, rfl, _, rfl, ?_⟩
      rw [dec_int]
      by_cases c2 : p = n
      · rw [if_pos c2] at k
        refine ite_yes (decide_eq_true c2) ?_
        refine ⟨_, rfl, two_le, fun q nq => ?_⟩
        refine k _ q (s1.trans (Same.upd_new nq)) ?_ upd_same
        cases e : H q with
        | none => rfl
        | some o => rw [s1 _ _ e] at nq; cases nq
      · rw [if_neg c2] at k
        refine ite_no (decide_eq_false c2) ?_
        refine ⟨_, rfl, rfl, _, rfl, ?_⟩
        rw [dec_str]
        unfold kept at k
        cases c3 : decide (z = ("keep" : Str)) with
        | true =>
          rw [c3] at k
          refine iteT ⟨_, rfl, two_le, fun q nq => ?_⟩
          refine k _ q (s1.trans (Same.upd_new nq)) ?_ upd_same
          cases e : H q with
          | none => rfl
          | some o => rw [s1 _ _ e] at nq; cases nq
        | false =>
          rw [c3] at k
          refine iteF ⟨_, rfl, two_le, fun q nq => ?_⟩
          refine k _ q (s1.trans (Same.upd_new nq)) ?_ upd_same
          cases e : H q with
          | none => rfl
          | some o => rw [s1 _ _ e] at nq; cases nq
theorem scSd : FnScope ["noted", "present", "new", "answer"] ["noted", "present", "new", "answer"] (defScope sSd) := ⟨rfl, rfl, rfl, by decide +kernel, rfl, by decide +kernel, by decide +kernel⟩
theorem ok_sd {f : Addr} {fd : FuncData} (F : Fun K "settled" "settled" sSd f fd) (dC : DefX P w K mg base 2 "check_content" ["content", "least"] (spCc CN)) (dA : DefX P w K mg base 1 "check_answer" ["answer"] (spCa CA)) (dS : Def P w K mg base 1 "settle" ["noted", "present", "new", "answer"] spSe) : FnOk P w K mg base (L2.CX P w) 3 f fd ["noted", "present", "new", "answer"] (spSd CN CA) := by
  refine F.okX scSd (fun vs H Q E h => ?_) (fun cdv A outer s H vs Q E hr h => ?_)
  · obtain ⟨v1, v2, v3, z, rfl, _⟩ := h
    rfl
  · obtain ⟨v1, v2, v3, z, rfl, h1, h2, h3, kY, kN, kA⟩ := h
    have nd := scSd.nd
    have r1 : Room 1 _ := hr.mono (by decide)
    refine ⟨_, pss_cons (ps_expr (pe_defX dC hr rfl (passes_call (takes_of rfl rfl rfl rfl) (fun _ _ _ _ h => h)) (pa_cons (pv 0) (pa_cons pe_int pa_nil))))
      (pss_cons (ps_expr (pe_defX dC hr rfl (passes_call (takes_of rfl rfl rfl rfl) (fun _ _ _ _ h => h)) (pa_cons (pv 1) (pa_cons pe_int pa_nil))))
      (pss_cons (ps_expr (pe_defX dC hr rfl (passes_call (takes_of rfl rfl rfl rfl) (fun _ _ _ _ h => h)) (pa_cons (pv 2) (pa_cons pe_int pa_nil))))
      (pss_cons (ps_expr (pe_defX dA r1 rfl (passes_call (takes_of rfl rfl rfl rfl) (fun _ _ _ _ h => h)) (pa_cons (pv 3) pa_nil)))
      (pss_one (ps_ret (pe_def dS r1 rfl (pa_cons (pv 0) (pa_cons (pv 1) (pa_cons (pv 2) (pa_cons (pv 3) pa_nil)))))))))), ?_⟩
    refine ⟨_, rfl, v1, 0, rfl, h1, .inl rfl, fun c1 => ?_, fun c1 => kN (by rw [c1]; rfl)⟩
    refine ⟨_, rfl, v2, 0, rfl, h2, .inl rfl, fun c2 => ?_, fun c2 => kN (by rw [c2, Bool.and_false]; rfl)⟩
    refine ⟨_, rfl, v3, 1, rfl, h3, .inr rfl, fun c3 => ?_, fun c3 => kN (by rw [c3, Bool.and_false])⟩
    refine ⟨_, rfl, z, rfl, fun c4 => ?_, fun c4 => kA (by rw [c1, c2, c3]; rfl) c4⟩
    obtain ⟨n, rfl⟩ := inR_int c1
    obtain ⟨p, rfl⟩ := inR_int c2
    obtain ⟨w, rfl⟩ := inR_int c3
    exact ⟨_, rfl, _, rfl, _, rfl, _, rfl, n, p, w, z, rfl, fun H' t s' nt ht => kY n p w rfl rfl rfl c4 H' t s' nt ht⟩
/-! ### the law's own -/
theorem scOne : FnScope ["_law_noted", "_law_present", "_law_new", "_law_answer"] ["_law_noted", "_law_present", "_law_new", "_law_answer"] (defScope sOne) := ⟨rfl, rfl, rfl, by decide +kernel, rfl, by decide +kernel, by decide +kernel⟩
theorem ok_one {f : Addr} {fd : FuncData} (F : Fun K "_law_one" "_law_one" sOne f fd) : FnOk P w K mg base CX0 1 f fd ["_law_noted", "_law_present", "_law_new", "_law_answer"] spSe := by
  refine F.ok scOne (fun vs H Q E h => ?_) (fun cdv A outer s H vs Q E hr h => ?_)
  · obtain ⟨n, p, w, z, rfl, _⟩ := h
    rfl
  · obtain ⟨n, p, w, z, rfl, k⟩ := h
    have nd := scOne.nd
    refine ⟨_, pss_cons (ps_if (PW.pt (pw_or (pt_cmpR op_eq (pv 2) (pv 0) (nomark _)) (pw_or1 (pt_cmpR op_eq (pv 2) (pv 1) (nomark _))))) (pss_one (ps_ret (pe_tup (pa_cons (pv 1) (pa_cons pe_bl pa_nil))))) pss_nil)
      (pss_cons (ps_if (pt_cmpR op_eq (pv 1) (pv 0) (nomark _)) (pss_one (ps_ret (pe_tup (pa_cons (pv 2) (pa_cons pe_bl pa_nil))))) pss_nil)
      (pss_one (ps_ret (pe_tup (pa_cons (pe_ifExp (pt_cmpR op_eq (pv 3) pe_str (nomark _)) (pv 1) (pv 2)) (pa_cons pe_bl pa_nil)))))), ?_⟩
    refine ⟨_, rfl, _, rfl, rfl, _, rfl, ?_⟩
    rw [dec_int]
    unfold one at k
    by_cases c0 : w = n
    · rw [if_pos (.inl c0)] at k
      refine ite_yes (decide_eq_true c0) ?_
      exact ⟨_, rfl, two_le, fun q nq => k _ q (Same.upd_new nq) nq upd_same⟩
    refine ite_no (decide_eq_false c0) ?_
    refine ⟨_, rfl, _, rfl, rfl, _, rfl, ?_⟩
    rw [dec_int]
    by_cases c1 : w = p
    · rw [if_pos (.inr c1)] at k
      refine ite_yes (decide_eq_true c1) ?_
      exact ⟨_, rfl, two_le, fun q nq => k _ q (Same.upd_new nq) nq upd_same⟩
    · rw [if_neg (fun z => z.elim c0 c1)] at k
      refine ite_no (decide_eq_false c1) ?_
      refine ⟨_, rfl, _, rfl, rfl, _, rfl, ?_⟩
      rw [dec_int]
      by_cases c2 : p = n
      · rw [if_pos c2] at k
        refine ite_yes (decide_eq_true c2) ?_
        exact ⟨_, rfl, two_le, fun q nq => k _ q (Same.upd_new nq) nq upd_same⟩
      · rw [if_neg c2] at k
        refine ite_no (decide_eq_false c2) ?_
        refine ⟨_, rfl, rfl, _, rfl, ?_⟩
        rw [dec_str]
        unfold kept at k
        cases c3 : decide (z = ("keep" : Str)) with
        | true =>
          rw [c3] at k
          exact iteT ⟨_, rfl, two_le, fun q nq => k _ q (Same.upd_new nq) nq upd_same⟩
        | false =>
          rw [c3] at k
          exact iteF ⟨_, rfl, two_le, fun q nq => k _ q (Same.upd_new nq) nq upd_same⟩
end
end Half

namespace Half
open PySem PySem.Spec PyProof.Rows L2
/-! ### all setups -/
def edit (es : List (Int × Int)) (i : Int) : Option Int := (es.find? fun p => decide (p.1 = i)).map (·.2)
theorem edit_val : ∀ (es : List (Int × Int)) (i : Int), valV (eK es) (.inl i) = (edit es i).map V.int
  | [], i => rfl
  | p :: es, i => by
    have ih := edit_val es i
    unfold edit at ih ⊢
    unfold valV at ih ⊢
    unfold eK at ih ⊢
    rw [List.map_cons, List.find?_cons, List.find?_cons]
    by_cases h : p.1 = i
    · rw [decide_eq_true h, decide_eq_true (show ((Sum.inl p.1 : Key) = .inl i) from by rw [h])]
      rfl
    · rw [decide_eq_false h, decide_eq_false (show ¬ ((Sum.inl p.1 : Key) = .inl i) from fun z => h (Sum.inl.inj z))]
      exact ih
/-- noted, present, asked at, behind the first i setups -/
def stF (es : List (Int × Int)) (kp : Bool) (ns : List Int) : Nat → Int × Int × List Int
  | 0 => (0, 0, [])
  | i + 1 =>
    let s := stF es kp ns i
    let r := one s.1 ((edit es i).getD s.2.1) (ns.getD i 0) kp
    (ns.getD i 0, r.1, if r.2 = true then s.2.2 ++ [(i : Int)] else s.2.2)
theorem stF_len (es : List (Int × Int)) (kp : Bool) (ns : List Int) : ∀ i, (stF es kp ns i).2.2.length ≤ i
  | 0 => Nat.le_refl 0
  | i + 1 => by
    have ih := stF_len es kp ns i
    unfold stF
    dsimp only
    split
    · rw [List.length_append]; simp; omega
    · omega
def spSa (K : PySem.W.Frag) (CN CA : Addr) : Sp := fun vs H Q E => ∃ (a d : Addr) (ns : List Int) (es : List (Int × Int)) (z : Str), vs = [.ref a, .ref d, .str z] ∧ SqL K H a (iV ns) ∧ ns.length ≤ 1000 ∧ H d = some (.dK (eK es)) ∧
  (okC ns es = true → isAns z = true → ∀ H' t l, Same H H' → H' t = some (.tup [.int (stF es (kept z) ns ns.length).2.1, .ref l]) → H' l = some (.lst (iV (stF es (kept z) ns ns.length).2.2)) → Q (.ref t) H') ∧
  (okC ns es = false → ∀ H', Same H H' → E (.ref CN) none H') ∧ (okC ns es = true → isAns z = false → ∀ H', Same H H' → E (.ref CA) none H')
def spFa (K : PySem.W.Frag) (CN : Addr) : Sp := fun vs H Q E => ∃ (a d : Addr) (ns : List Int) (es : List (Int × Int)), vs = [.ref a, .ref d] ∧ SqL K H a (iV ns) ∧ ns.length ≤ 1000 ∧ H d = some (.dK (eK es)) ∧ okC ns es = false ∧ ∀ H', Same H H' → E (.ref CN) none H'
section
variable {P : Program} {w : World} {K : PySem.W.Frag} {mg : Str → Option Value} {base : Heap} {CN CA : Addr}
abbrev SaN : List Str := ["contents", "edits", "answer", "noted", "present", "asked_at", "at", "new", "asked"]
theorem scSa : FnScope SaN ["contents", "edits", "answer"] (defScope sSa) := ⟨rfl, rfl, rfl, by decide +kernel, rfl, by decide +kernel, by decide +kernel⟩
theorem ok_sa {f : Addr} {fd : FuncData} (F : Fun K "settled_all" "settled_all" sSa f fd) (T : TxtS K mg CN CA) (dO : DefX P w K mg base 3 "check_course" ["contents", "edits"] (spCo K CN)) (dA : DefX P w K mg base 1 "check_answer" ["answer"] (spCa CA)) (dS : Def P w K mg base 1 "settle" ["noted", "present", "new", "answer"] spSe) : FnOk P w K mg base (L2.CX P w) 4 f fd ["contents", "edits", "answer"] (spSa K CN CA) := by
  refine F.okX scSa (fun vs H Q E h => ?_) (fun cdv A outer s H vs Q E hr h => ?_)
  · obtain ⟨a, d, ns, es, z, rfl, _⟩ := h
    rfl
  · obtain ⟨a, d, ns, es, z, rfl, hS, hl, hd, kY, kN, kA⟩ := h
    have nd := scSa.nd
    have r1 : Room 1 _ := hr.mono (by decide)
    have hu := hu_of hr
    refine ⟨_, pss_cons (ps_expr (pe_defX dO hr rfl (passes_call (takes_of rfl rfl rfl rfl) (fun _ _ _ _ h => h)) (pa_cons (pv 0) (pa_cons (pv 1) pa_nil))))
      (pss_cons (ps_expr (pe_defX dA r1 rfl (passes_call (takes_of rfl rfl rfl rfl) (fun _ _ _ _ h => h)) (pa_cons (pv 2) pa_nil)))
      (pss_cons (ps_asg2 pe_int (pg_name (i := 3) nd rfl (Or.inl rfl)) (pg_name (i := 4) nd rfl (Or.inl rfl)))
      (pss_cons (ps_set (i := 5) nd rfl (Or.inl rfl) (pe_lst pa_nil))
      (pss_cons (ps_for (passes_of rfl) rfl (pi_enum (by rfl) T.enu (pa_cons (pv 0) pa_nil)) (pg_tup rfl (pgs_cons (pg_name (i := 6) nd rfl (Or.inl rfl)) (pgs_cons (pg_name (i := 7) nd rfl (Or.inl rfl)) pgs_nil)))
        (pss_cons (ps_asg (pe_def dS r1 rfl (pa_cons (pv 3) (pa_cons (pe_dget2 hu (pv 1) (pv 6) (pv 4) ⟨rfl, rfl, rfl, rfl⟩) (pa_cons (pv 7) (pa_cons (pv 2) pa_nil))))) (pg_tup rfl (pgs_cons (pg_name (i := 4) nd rfl (Or.inl rfl)) (pgs_cons (pg_name (i := 8) nd rfl (Or.inl rfl)) pgs_nil))))
        (pss_cons (ps_set (i := 3) nd rfl (Or.inl rfl) (pv 7))
        (pss_one (ps_if (pt_truth (pv 8) (by intro _; rfl)) (pss_one (ps_expr (pe_bm PySem.F.plainAttrs_list PySem.F.slot_list_append PySem.F.type_list_append mt_append (pv 5) (pa_cons (pv 6) pa_nil)))) pss_nil)))))
      (pss_one (ps_ret (pe_tup (pa_cons (pv 4) (pa_cons (pv 5) pa_nil))))))))), ?_⟩
    refine ⟨_, rfl, _, rfl, a, d, ns, es, rfl, hS, hl, hd, fun c1 H1 s1 => ?_, fun c1 => kN c1⟩
    refine ⟨_, rfl, z, rfl, fun c2 => ?_, fun c2 => kA c1 c2 _ s1⟩
    refine ⟨Nat.zero_le _, fun l nl => ?_⟩
    have s2 := s1.trans (Same.upd_new (o := .lst []) nl)
    have nlH : H l = none := by
      cases e : H l with
      | none => rfl
      | some o => rw [s1 _ _ e] at nl; cases nl
    have hli : (iV ns).length = ns.length := List.length_map ..
    refine ⟨_, rfl, a, _, rfl, s2.seq hS, ?_⟩
    refine for_it (walk_enum (K := K) (a := a) (xs := iV ns)) (fun i σ H' => ∃ x6 x7 x8, Same H H' ∧ H' l = some (.lst (iV (stF es (kept z) ns i).2.2)) ∧ σ = [some (.ref a), some (.ref d), some (.str z), some (.int (stF es (kept z) ns i).1), some (.int (stF es (kept z) ns i).2.1), some (.ref l), x6, x7, x8]) ⟨none, none, none, s2, upd_same, rfl⟩ (fun i σ H' _ p => by obtain ⟨_, _, _, s', _⟩ := p; exact s'.seq hS) ?_ ?_
    · rintro i x σ H2 H3 hi ⟨x6, x7, x8, s3, hL, rfl⟩ ⟨t, k, v, rfl, nt, rfl, hk, hv⟩
      cases hk
      obtain ⟨n, hn, rfl⟩ : ∃ n, ns[i]? = some n ∧ v = .int n := by
        dsimp only [iV] at hv
        rw [List.getElem?_map] at hv
        cases c : ns[i]? with
        | none => rw [c] at hv; cases hv
        | some n => rw [c] at hv; cases hv; exact ⟨n, rfl, rfl⟩
      have en : ns.getD i 0 = n := by rw [List.getD_eq_getElem?_getD, hn]; rfl
      have st := Same.upd_new (o := .tup [.int ((i : Nat) : Int), .int n]) nt
      have s4 := s3.trans st
      have hL4 := st _ _ hL
      refine ⟨t, _, rfl, .inl (.inl upd_same), rfl, _, _, rfl, _, _, rfl, rfl, ?_⟩
      generalize upd H2 t (.tup [.int ((i : Nat) : Int), .int n]) = H4 at s4 hL4 ⊢
      have hd4 := s4 _ _ hd
      have e1 : ((valV (eK es) (.inl (i : Int))).getD (.int (stF es (kept z) ns i).2.1)) = .int ((edit es i).getD (stF es (kept z) ns i).2.1) := by
        rw [edit_val]
        cases edit es (i : Int) <;> rfl
      refine ⟨_, rfl, _, rfl, d, rfl, .inl ⟨_, .inl hd4⟩, _, rfl, _, rfl, valV (eK es) (.inl (i : Int)), DGet.k (k := .inl (i : Int)) hd4, ?_⟩
      rw [e1]
      refine ⟨_, rfl, _, rfl, _, _, _, _, rfl, fun H5 p s5 np hp => ?_⟩
      refine ⟨p, _, rfl, .inl (.inl hp), rfl, _, _, rfl, _, _, rfl, rfl, ?_⟩
      refine ⟨_, rfl, ?_⟩
      have hL5 := s5 _ _ hL4
      have nx : stF es (kept z) ns (i + 1) = (n, (one (stF es (kept z) ns i).1 ((edit es i).getD (stF es (kept z) ns i).2.1) n (kept z)).1, if (one (stF es (kept z) ns i).1 ((edit es i).getD (stF es (kept z) ns i).2.1) n (kept z)).2 = true then (stF es (kept z) ns i).2.2 ++ [(i : Int)] else (stF es (kept z) ns i).2.2) := by
        rw [stF, en]
      have s45 := s4.trans s5
      cases c : (one (stF es (kept z) ns i).1 ((edit es i).getD (stF es (kept z) ns i).2.1) n (kept z)).2 with
      | true =>
        refine ⟨_, rfl, true, rfl, ?_⟩
        refine iteT ?_
        have few : (iV (stF es (kept z) ns i).2.2).length < sizeLine := by
          have := stF_len es (kept z) ns i
          rw [iV, List.length_map, sizeLine_eq]
          omega
        refine ⟨_, rfl, .inl ⟨rfl, _, SqL.of hL5⟩, _, rfl, l, _, _, rfl, rfl, hL5, few, ?_⟩
        refine ⟨some (.int (i : Int)), some (.int n), some (.bl true), fun b o e => ?_, ?_, ?_⟩
        · rw [upd_ne (ne_of_none e nlH)]
          exact s45 _ _ e
        · rw [upd_same, nx, c, if_pos rfl, iV, iV, List.map_append]
          rfl
        · rw [nx]
          rfl
      | false =>
        refine ⟨_, rfl, false, rfl, ?_⟩
        refine iteF ?_
        refine ⟨some (.int (i : Int)), some (.int n), some (.bl false), s45, ?_, ?_⟩
        · rw [nx, c]; exact hL5
        · rw [nx]
          rfl
    · rintro σ H2 ⟨x6, x7, x8, s3, hL, rfl⟩
      rw [hli] at hL ⊢
      refine ⟨_, rfl, _, rfl, two_le, fun t nt => ?_⟩
      exact kY c1 c2 _ t l (s3.trans (Same.upd_new nt)) upd_same ((Same.upd_new nt) _ _ hL)
abbrev FaN : List Str := ["contents", "edits", "best", "at", "number", "length", "indexes"]
theorem scFa : FnScope FaN ["contents", "edits"] (defScope sFa) := ⟨rfl, rfl, rfl, by decide +kernel, rfl, by decide +kernel, by decide +kernel⟩
theorem ok_fa {f : Addr} {fd : FuncData} (F : Fun K "fewest_asked" "fewest_asked" sFa f fd) (dO : DefX P w K mg base 3 "check_course" ["contents", "edits"] (spCo K CN)) : FnOk P w K mg base (L2.CX P w) 4 f fd ["contents", "edits"] (spFa K CN) := by
  refine F.okX scFa (fun vs H Q E h => ?_) (fun cdv A outer s H vs Q E hr h => ?_)
  · obtain ⟨a, d, ns, es, rfl, _⟩ := h
    rfl
  · obtain ⟨a, d, ns, es, rfl, hS, hl, hd, c, kN⟩ := h
    refine ⟨_, pss_cons (ps_expr (pe_defX dO hr rfl (passes_call (takes_of rfl rfl rfl rfl) (fun _ _ _ _ h => h)) (pa_cons (pv 0) (pa_cons (pv 1) pa_nil))))
      (pss_cons ps_never (pss_cons ps_never (pss_cons ps_never (pss_one ps_never)))), ?_⟩
    exact ⟨_, rfl, _, rfl, a, d, ns, es, rfl, hS, hl, hd, fun z => (by rw [c] at z; cases z), fun _ => kN⟩
end
end Half

namespace Half
open PySem PySem.Spec PyProof.Rows L2 LamX
abbrev sLaw : Stmt := top 22
abbrev LawN : List Str := ["_law_script", "_law_turn", "_law_noted", "_law_present", "_law_new", "_law_answer", "_law_k", "_law_contents", "_law_edits", "_law_asked", "_law_told", "_law_row", "_law_some", "_law_wrong"]
theorem scLaw : FnScope LawN ["_law_script"] (defScope sLaw) := ⟨rfl, rfl, rfl, by decide +kernel, rfl, by decide +kernel, by decide +kernel⟩
abbrev lamQ : Str := (envOfC "law" (defScope sLaw) 0 0 .none).qual ++ "<lambda>"
/-! ### the error's word -/
theorem scWd : FnScope ["_law_work"] ["_law_work"] (defScope sWd) := ⟨rfl, rfl, rfl, by decide +kernel, rfl, by decide +kernel, by decide +kernel⟩
structure WordT (K : PySem.W.Frag) (mg : Str → Option Value) (CN CA : Addr) : Prop where
  gN : mg "InvalidNumber" = some (.ref CN)
  gA : mg "InvalidAnswer" = some (.ref CA)
  nn : PySem.W.exmOne K (.ref CN) (.ref CN) = some true
  an : PySem.W.exmOne K (.ref CA) (.ref CN) = some false
  aa : PySem.W.exmOne K (.ref CA) (.ref CA) = some true
def TWord (CN CA : Addr) : (XK → Hp → VK → Prop) → Hp → VK → Prop := fun tl H Q =>
  tl (fun cls d H' => (cls = .ref CN ∧ d = none ∧ Q (.str "number") H') ∨ (cls = .ref CA ∧ d = none ∧ Q (.str "answer") H')) H (fun _ H' => Q .non H')
theorem takes_len {X : Cx} {W : WX} (tk : Takes X W) : Takes X (fun cls d σ H => σ.length = X.N.length → W cls d σ H) := fun u s' x => by
  obtain ⟨a, B, sI, pins, σ, H, cls, d, e, I, nb, up, sky, na, os, ag, w⟩ := x
  exact tk u s' ⟨a, B, sI, pins, σ, H, cls, d, e, I, nb, up, sky, na, os, ag, w I.len⟩
section
variable {X : Cx} {CN CA : Addr}
theorem word_gives (T : WordT X.K X.mg CN CA) {g : Addr} {cdg : Value} {q : Str} : GivesTo X ["_law_work"] "_law_word" (defScope sWd) g cdg (defBody sWd) "_law_work" q (TWord CN CA) := by
  intro f c' s H Q tl act hc h
  have nd := scWd.nd
  refine ⟨_, pss_cons (ps_try_many (X := (cxOf C8.CX0 X.prog X.w X.K X.mg X.base ["_law_work"] "_law_word" (defScope sWd) g cdg X.A X.stack s H C8.E0).nox)
      (tb := fun W D σ H => ∃ Ech : XK, (∀ cls d σ' H', Ech cls d H' → σ'.length = 1 → W cls d σ' H') ∧ σ[0]? = some (some (.ref f)) ∧ H c' = some (CodeO c' q) ∧ tl Ech H (fun _ H' => D.nx σ H'))
      rfl rfl LamX.takes0 (fun W pn xe tk _ => ?_) (.cons (c := .ref CN) ⟨rfl, by decide, .inl T.gN⟩ (fun a oe cls d pn _ _ => pss_one (ps_ret pe_str)) (.cons (c := .ref CA) ⟨rfl, by decide, .inl T.gA⟩ (fun a oe cls d pn _ _ => pss_one (ps_ret pe_str)) .nil))) (pss_one (ps_ret pe_non)), ?_⟩
  · refine ⟨fun pins s' σ H' D I h' => ?_⟩
    obtain ⟨Ech, hW, h1, h2, h3⟩ := h'
    exact (pss_one (ps_expr (act _ pn xe Ech _ _ (takes_len tk) (fun cls d σ' H' e hl => hW cls d σ' H' e hl)))).run pins s' σ H' D I ⟨h1, h2, h3⟩
  · refine ⟨_, fun cls d σ' H2 hE hl => ?_, rfl, hc, h⟩
    rcases hE with ⟨rfl, rfl, k⟩ | ⟨rfl, rfl, k⟩
    · exact ⟨true, T.nn, fun _ a ha => k, fun z => nomatch z⟩
    · exact ⟨false, T.an, fun z => (nomatch z), fun _ => ⟨true, T.aa, fun _ a ha => k, fun z => nomatch z⟩⟩
end
/-! ### what stands through the law: the row and the table of code objects -/
def SameBut (r : Addr) (H H' : Hp) : Prop := ∀ b o, b ≠ r → H b = some o → H' b = some o
structure LI (K : PySem.W.Frag) (PT r a : Addr) (H : Hp) : Prop where
  row : Row K H r a
  tab : Tabs [(PT, lamQ)] H
structure Dr (r a : Addr) (H H' : Hp) : Prop where
  sb : SameBut r H H'
  at_ : ∃ i g l : Int, 0 ≤ i ∧ H' r = some (.lst [.ref a, .int i, .int g, .int l])
section
variable {K : PySem.W.Frag} {PT r a : Addr} {H H' H'' : Hp}
theorem Row.dr (h : Row K H r a) : Dr r a H H := by
  obtain ⟨ns, i, g, l, h1, h2, h3, h4⟩ := h
  exact ⟨fun _ _ _ q => q, i, g, l, h4, h1⟩
theorem Dr.row (h : Row K H r a) (d : Dr r a H H') : Row K H' r a := by
  obtain ⟨ns, i, g, l, h1, h2, h3, h4⟩ := h
  obtain ⟨i', g', l', e1, e2⟩ := d.at_
  refine ⟨ns, i', g', l', e2, ?_, h3, e1⟩
  have z : HO.lst (ns.map V.int) ≠ HO.lst [.ref a, .int i, .int g, .int l] := fun z => by
    have z' : ns.map V.int = [.ref a, .int i, .int g, .int l] := by injection z
    cases ns with
    | nil => cases z'
    | cons n ns => cases z'
  rcases h2 with (q | ⟨o, q⟩) | q
  · exact .inl (.inl (d.sb _ _ (ne_of q h1 z) q))
  · exact .inl (.inr ⟨o, d.sb _ _ (ne_of q h1 (by intro z; cases z)) q⟩)
  · exact .inr q
theorem Row.at_ (h : Row K H r a) : ∃ xs, H r = some (.lst xs) := by
  obtain ⟨ns, i, g, l, h1, _⟩ := h
  exact ⟨_, h1⟩
theorem Row.ne {D : Addr} (h : Row K H r a) (hD : H D = none) : D ≠ r := fun z => by
  obtain ⟨ys, hr⟩ := h.at_
  rw [z, hr] at hD
  cases hD
theorem Row.of (S : Row K H r a) (e : Same H H') : Dr r a H H' := by
  obtain ⟨ns, i, g, l, h1, _, _, h4⟩ := S
  exact ⟨fun b o _ q => e _ _ q, i, g, l, h4, e _ _ h1⟩
theorem Row.same (S : Row K H r a) (e : Same H H') : Row K H' r a := Dr.row S (S.of e)
theorem Dr.same (d : Dr r a H H') (S : Same H' H'') : Dr r a H H'' := by
  obtain ⟨i, g, l, e1, e2⟩ := d.at_
  exact ⟨fun b o n q => S _ _ (d.sb b o n q), i, g, l, e1, S _ _ e2⟩
theorem Dr.trans (d : Dr r a H H') (e : Dr r a H' H'') : Dr r a H H'' := ⟨fun b o n q => e.sb b o n (d.sb b o n q), e.at_⟩
theorem Dr.draw {o : HO} (h : Row K (upd H r o) r a) : Dr r a H (upd H r o) := by
  obtain ⟨ns, i, g, l, h1, h2, h3, h4⟩ := h
  exact ⟨fun b u n q => by rw [upd_ne n]; exact q, i, g, l, h4, h1⟩
theorem Dr.put {D : Addr} {o : HO} (d : Dr r a H H') (hD : H D = none) (ne : D ≠ r) : Dr r a H (upd H' D o) := by
  obtain ⟨i, g, l, e1, e2⟩ := d.at_
  exact ⟨fun b u n q => by rw [upd_ne (ne_of_none q hD)]; exact d.sb b u n q, i, g, l, e1, by rw [upd_ne (Ne.symm ne)]; exact e2⟩
theorem taken_read {m : Int} {Q : VK} {E : XK} (h : Row K H r a) (h0 : 0 < m) (h1 : m < 1073741824) (k : ∀ v H', 0 ≤ v → v < m → Dr r a H H' → Q (.int v) H') : spTaken K [.ref r, .int m] H Q E :=
  ⟨r, m, a, rfl, h, h0, h1, fun v o v0 v1 R => k v _ v0 v1 (Dr.draw R)⟩
theorem LI.dr (h : LI K PT r a H) (d : Dr r a H H') : LI K PT r a H' := by
  refine ⟨d.row h.row, fun p hp => ?_⟩
  obtain ⟨xs, hr⟩ := h.row.at_
  obtain ⟨ps, h1, h2, h3⟩ := h.tab p hp
  refine ⟨ps, d.sb _ _ (ne_of h1 hr (by intro z; cases z)) h1, h2, fun pos cv hc => ?_⟩
  obtain ⟨c, e, hcc⟩ := h3 pos cv hc
  exact ⟨c, e, d.sb _ _ (ne_of hcc hr (by intro z; cases z)) hcc⟩
theorem LI.same (h : LI K PT r a H) (s : Same H H') : LI K PT r a H' := h.dr (h.row.of s)
theorem LI.dic {d : Addr} {kk : List (Key × V)} {o : HO} (hd : H d = some (.dK kk)) (h : LI K PT r a H) : LI K PT r a (upd H d o) := by
  refine ⟨?_, fun p hp => ?_⟩
  · obtain ⟨ns, i, g, l, h1, h2, h3, h4⟩ := h.row
    refine ⟨ns, i, g, l, by rw [upd_ne (ne_of h1 hd (by intro z; cases z))]; exact h1, ?_, h3, h4⟩
    rcases h2 with (q | ⟨o, q⟩) | q
    · exact .inl (.inl (by rw [upd_ne (ne_of q hd (by intro z; cases z))]; exact q))
    · exact .inl (.inr ⟨o, by rw [upd_ne (ne_of q hd (by intro z; cases z))]; exact q⟩)
    · exact .inr q
  · obtain ⟨ps, h1, h2, h3⟩ := h.tab p hp
    refine ⟨ps, by rw [upd_ne (ne_of h1 hd (by intro z; cases z))]; exact h1, h2, fun pos cv hc => ?_⟩
    obtain ⟨c, e, hcc⟩ := h3 pos cv hc
    exact ⟨c, e, by rw [upd_ne (ne_of hcc hd (by intro z; cases z))]; exact hcc⟩
theorem LI.ext (h : LI K PT r a H) (e : ExtN H H') (t : Tabs [(PT, lamQ)] H') : LI K PT r a H' := by
  refine ⟨?_, t⟩
  obtain ⟨ns, i, g, l, h1, h2, h3, h4⟩ := h.row
  refine ⟨ns, i, g, l, e _ _ h1 (by intro _ z; cases z), ?_, h3, h4⟩
  rcases h2 with (q | ⟨o, q⟩) | q
  · exact .inl (.inl (e _ _ q (by intro _ z; cases z)))
  · exact .inl (.inr ⟨o, e _ _ q (by intro _ z; cases z)⟩)
  · exact .inr q
end
end Half

namespace Half
open PySem PySem.Spec PyProof.Rows L2 LamX
def forBody (s : Stmt) : List Stmt := match s with
  | .For (body := b) .. => b
  | _ => []
def nth (l : List Stmt) (i : Nat) : Stmt := l.getD i (.Pass ⟨0, 0, 0, 0⟩)
abbrev lBody : List Stmt := forBody (nth (defBody sLaw) 1)
theorem next_read {D : Ends} {σ : L2.St} {H : Hp} (h : D.nx σ H) : tNext D σ H := h
theorem seq_read {t u : TS} {D : Ends} {σ : L2.St} {H : Hp} (h : t { D with nx := u D } σ H) : tSeq t u D σ H := h
theorem if_read {c : TT} {t u : TS} {D : Ends} {σ : L2.St} {H : Hp} (h : c σ H fun b H1 => if b = true then t D σ H1 else u D σ H1) : tIfS c t u D σ H := h
theorem set_read {te : TE} {i : Nat} {D : Ends} {σ : L2.St} {H : Hp} (h : te σ H fun x H1 => D.nx (σ.set i (some x)) H1) : tAsg te (gName i) D σ H := h
/-! ### contents and edits that cannot be -/
def BadAt (H : Hp) (p : Addr) : Prop := ∃ l d ns es, H p = some (.tup [.ref l, .ref d]) ∧ H l = some (.lst (iV ns)) ∧ H d = some (.dK (eK es)) ∧ okC ns es = false ∧ ns.length ≤ 1000
theorem BadAt.same {H H' : Hp} {p : Addr} (s : Same H H') (h : BadAt H p) : BadAt H' p := by
  obtain ⟨l, d, ns, es, h1, h2, h3, h4⟩ := h
  exact ⟨l, d, ns, es, s _ _ h1, s _ _ h2, s _ _ h3, h4⟩
def YL (t : TE) (ns : List Int) : Prop := ∀ σ H Q, (∀ l H', Same H H' → H' l = some (.lst (iV ns)) → Q (.ref l) H') → t σ H Q
def YD (t : TE) (es : List (Int × Int)) : Prop := ∀ σ H Q, (∀ d H', Same H H' → H' d = some (.dK (eK es)) → Q (.ref d) H') → t σ H Q
def YB (t : TE) : Prop := ∀ σ H Q, (∀ p H', Same H H' → BadAt H' p → Q (.ref p) H') → t σ H Q
def YBs (t : TA) (n : Nat) : Prop := ∀ σ H Q, (∀ (ps : List Addr) H', Same H H' → ps.length = n → (∀ p ∈ ps, BadAt H' p) → Q (ps.map V.ref) H') → t σ H Q
theorem yl0 : YL (tLst tNil) [] := fun σ H Q h => ⟨Nat.zero_le _, fun p np => h p _ (Same.upd_new np) upd_same⟩
theorem one_le : 1 ≤ sizeLine := by decide
theorem yl1 {n : Int} : YL (tLst (tCons (tC (.int n)) tNil)) [n] := fun σ H Q h => ⟨one_le, fun p np => h p _ (Same.upd_new np) upd_same⟩
theorem yl13 : YL (tOp rRep (tLst (tCons (tC (.int 1)) tNil)) (tC (.int 13))) (List.replicate 13 1) := fun σ H Q h =>
  ⟨one_le, fun p np => ⟨p, 13, _, rfl, rfl, upd_same, by decide, by decide, by decide, fun q nq => h q _ ((Same.upd_new np).trans (Same.upd_new nq)) upd_same⟩⟩
theorem yd0 : YD tDNewK [] := fun σ H Q h p np => h p _ (Same.upd_new np) upd_same
theorem yd1 {k v : Int} : YD (tDisp [(tC (.int k), tC (.int v))]) [(k, v)] := fun σ H Q h p np =>
  ⟨upd_same, [(.inl k, .int v)], rfl, (by show 1 ≤ 15; decide), h p _ (fun b o e => by rw [upd_ne (ne_of_none e np), upd_ne (ne_of_none e np)]; exact e) upd_same⟩
theorem yb {tl td : TE} {ns : List Int} {es : List (Int × Int)} (a : YL tl ns) (b : YD td es) (h : okC ns es = false) (hl : ns.length ≤ 1000) : YB (tTup (tCons tl (tCons td tNil))) := fun σ H Q k =>
  a σ H _ fun l H1 s1 h1 => b σ H1 _ fun d H2 s2 h2 => ⟨two_le, fun p np => k p _ ((s1.trans s2).trans (Same.upd_new np)) ⟨l, d, ns, es, upd_same, (s2.trans (Same.upd_new np)) _ _ h1, (Same.upd_new np) _ _ h2, h, hl⟩⟩
theorem ybs0 : YBs tNil 0 := fun σ H Q k => k [] H (Same.refl H) rfl (fun p hp => nomatch hp)
theorem ybs1 {t : TE} {ts : TA} {n : Nat} (a : YB t) (b : YBs ts n) : YBs (tCons t ts) (n + 1) := fun σ H Q k =>
  a σ H _ fun p H1 s1 h1 => b σ H1 _ fun ps H2 s2 e h2 => k (p :: ps) H2 (s1.trans s2) (by rw [List.length_cons, e]) fun q hq => by
    rcases List.mem_cons.mp hq with rfl | z
    · exact h1.same s2
    · exact h2 q z
theorem none_of {H H' : Hp} {l : Addr} (s : Same H H') (h : H' l = none) : H l = none := by
  cases e : H l with
  | none => rfl
  | some o => rw [s _ _ e] at h; cases h
theorem ints_ne {H : Hp} {K : PySem.W.Frag} {r a l : Addr} {ns : List Int} (h : Row K H r a) (hl : H l = some (.lst (iV ns))) : l ≠ r := by
  obtain ⟨_, i, g, j, h1, _⟩ := h
  refine ne_of hl h1 fun z => ?_
  have z' : ns.map V.int = [.ref a, .int i, .int g, .int j] := by injection z
  cases ns with
  | nil => cases z'
  | cons n ns => cases z'
theorem BadAt.dr {H H' : Hp} {K : PySem.W.Frag} {r a p : Addr} (R : Row K H r a) (d : Dr r a H H') (h : BadAt H p) : BadAt H' p := by
  obtain ⟨l, e, ns, es, h1, h2, h3, h4⟩ := h
  obtain ⟨xs, hr⟩ := R.at_
  exact ⟨l, e, ns, es, d.sb _ _ (ne_of h1 hr (by intro z; cases z)) h1, d.sb _ _ (ints_ne R h2) h2, d.sb _ _ (ne_of h3 hr (by intro z; cases z)) h3, h4⟩
theorem BadAt.ext {H H' : Hp} {p : Addr} (e : ExtN H H') (h : BadAt H p) : BadAt H' p := by
  obtain ⟨l, d, ns, es, h1, h2, h3, h4⟩ := h
  exact ⟨l, d, ns, es, e _ _ h1 (by intro _ z; cases z), e _ _ h2 (by intro _ z; cases z), e _ _ h3 (by intro _ z; cases z), h4⟩
theorem pick_at {ps : List Addr} {v : Int} (h0 : 0 ≤ v) (h1 : v < ps.length) : ∃ p ∈ ps, atI (ps.map V.ref) v = some (.ref p) := by
  have hi : v.toNat < ps.length := by omega
  refine ⟨ps[v.toNat], List.getElem_mem hi, ?_⟩
  have e : atI (ps.map V.ref) ((v.toNat : Nat) : Int) = some (.ref ps[v.toNat]) := atI_nat (by rw [List.getElem?_map, List.getElem?_eq_getElem hi]; rfl)
  rwa [show ((v.toNat : Nat) : Int) = v by omega] at e
theorem yblst {ts : TA} {n : Nat} (b : YBs ts n) (hn : n ≤ 100) {σ : L2.St} {H : Hp} {Q : VK} (k : ∀ (l : Addr) (ps : List Addr) H', H l = none → Same H H' → H' l = some (.lst (ps.map V.ref)) → ps.length = n → (∀ p ∈ ps, BadAt H' p) → Q (.ref l) H') : tLst ts σ H Q :=
  b σ H _ fun ps H1 s1 e h1 => ⟨by rw [List.length_map, e, sizeLine_eq]; omega, fun l nl => k l ps _ (none_of s1 nl) (s1.trans (Same.upd_new nl)) upd_same e fun p hp => (h1 p hp).same (Same.upd_new nl)⟩
/-- the defs that the law calls -/
structure LawD (P : Program) (w : World) (K : PySem.W.Frag) (mg : Str → Option Value) (base : Heap) (CN CA : Addr) : Prop where
  T : TxtS K mg CN CA
  dT : Def P w K mg base 1 "_law_taken" ["_law_row", "_law_many"] (spTaken K)
  dO : Def P w K mg base 1 "_law_one" ["_law_noted", "_law_present", "_law_new", "_law_answer"] spSe
  dD : DefX P w K mg base 3 "settled" ["noted", "present", "new", "answer"] (spSd CN CA)
  dA : DefX P w K mg base 4 "settled_all" ["contents", "edits", "answer"] (spSa K CN CA)
  dF : DefX P w K mg base 4 "fewest_asked" ["contents", "edits"] (spFa K CN)
  W : WordT K mg CN CA
structure WordF (K : PySem.W.Frag) (mg : Str → Option Value) : Prop where
  ex : ∃ (g : Addr) (oc : Value) (od : Option Addr) (dV kV doc pm : Value) (an : Option Addr) (cdv ct : Value) (osl : Array (Option Value)), mg "_law_word" = some (.ref g) ∧ PySem.W.keepIn K (.ref g) = true ∧
    K.lookup g = some ⟨oc, od, .func (PySem.W.fnOf "_law_word" "_law_word" (defArgs sWd) (defBody sWd) (defScope sWd) dV kV doc pm an cdv ct), osl⟩ ∧ PySem.W.codeIn K cdv "_law_word" = true ∧
    L2.Binds K (PySem.W.fnOf "_law_word" "_law_word" (defArgs sWd) (defBody sWd) (defScope sWd) dV kV doc pm an cdv ct) ["_law_work"] []
section
variable {P : Program} {w : World} {K : PySem.W.Frag} {mg : Str → Option Value} {base : Heap} {CN CA : Addr}
theorem law_j {f c PT : Addr} {A : Around} {outer : List Env} {s : Shared} {H0 : Hp} {E : XK} (L : LawD P w K mg base CN CA) (R : WordF K mg) (TB : TabB base mg c PT)
    (hr : Room 7 (A.deeper (envOfC "law" (defScope sLaw) s.heap.objs.size f (.ref c)))) (nd : LawN.Nodup) :
    ∃ t, PSs (cxOf CX0 P w K mg base LawN "law" (defScope sLaw) f (.ref c) A outer s H0 E).nox (lBody.drop 12) t ∧ ∀ (D' : Ends) (H : Hp) (r a : Addr) (x0 x1 x2 x3 x4 x5 x6 x7 x8 x9 x10 x12 x13 : Option V), LI K PT r a H →
      (∀ H' x13, LI K PT r a H' → D'.nx [x0, x1, x2, x3, x4, x5, x6, x7, x8, x9, x10, some (.ref r), x12, x13] H') →
      t D' [x0, x1, x2, x3, x4, x5, x6, x7, x8, x9, x10, some (.ref r), x12, x13] H := by
  obtain ⟨g, oc', od', dV', kV', doc', pm', an', cdv', ct', osl', gR, kR, lkR, hcR, bR⟩ := R.ex
  have r1 : Room 1 _ := hr.mono (by decide)
  have r4 : Room 4 _ := hr.mono (by decide)
  refine ⟨_, pss_cons (ps_set (i := 13) nd rfl (Or.inr rfl) (pe_lst (pa_cons (pe_tup (pa_cons (pe_lst (pa_cons pe_int pa_nil)) (pa_cons pe_dnewK pa_nil)))
      (pa_cons (pe_tup (pa_cons (pe_lst (pa_cons pe_int pa_nil)) (pa_cons pe_dnewK pa_nil)))
      (pa_cons (pe_tup (pa_cons (pe_op op_rep (pe_lst (pa_cons pe_int pa_nil)) pe_int) (pa_cons pe_dnewK pa_nil)))
      (pa_cons (pe_tup (pa_cons (pe_lst (pa_cons pe_int pa_nil)) (pa_cons (pe_disp (pps_cons pe_int pe_int pps_nil) (by rfl) (by rfl) (fun z => by cases z) (by decide)) pa_nil)))
      (pa_cons (pe_tup (pa_cons (pe_lst (pa_cons pe_int pa_nil)) (pa_cons (pe_disp (pps_cons pe_int pe_int pps_nil) (by rfl) (by rfl) (fun z => by cases z) (by decide)) pa_nil)))
      (pa_cons (pe_tup (pa_cons (pe_lst pa_nil) (pa_cons (pe_disp (pps_cons pe_int pe_int pps_nil) (by rfl) (by rfl) (fun z => by cases z) (by decide)) pa_nil))) pa_nil))))))))
    (pss_cons (ps_set (i := 13) nd rfl (Or.inr rfl) (pe_ix ix_list (pv 13) (pe_def L.dT r1 rfl (pa_cons (pv 11) (pa_cons pe_int pa_nil))) (fun _ _ => rfl)))
    (pss_cons (ps_if (pt_cmpR op_ne (pe_lamcall (T := [(PT, lamQ)]) (TT := TWord CN CA) (k := 5) (t := fun E => tCall (spSa K CN CA) [] E (tCons (tOp (rIxT K) (tVar 13) (tC (.int 0))) (tCons (tOp (rIxT K) (tVar 13) (tC (.int 1))) (tCons (tC (.str "none")) tNil)))) rfl gR kR lkR hcR bR scWd rfl (Or.inl rfl) (word_gives L.W) TB rfl (List.mem_cons_self ..)
        (fun p hp _ => by rw [List.mem_singleton.mp hp]; rfl) hr (lamS_by (sc := defScope sLaw) (by decide +kernel)) rfl (fun _ _ _ _ _ => rfl)
        (fun A outer s H E f c' hr' => pe_defX L.dA (hr'.mono (by decide)) rfl (passes_call (takes_of rfl rfl rfl rfl) (fun _ _ _ _ h => h)) (pa_cons (pe_ix ix_tup (pv 13) pe_int (fun _ _ => rfl)) (pa_cons (pe_ix ix_tup (pv 13) pe_int (fun _ _ => rfl)) (pa_cons pe_str pa_nil))))) pe_str (nomark _)) (pss_one (ps_ret pe_bl)) pss_nil)
    (pss_cons (ps_if (pt_cmpR op_ne (pe_lamcall (T := [(PT, lamQ)]) (TT := TWord CN CA) (k := 5) (t := fun E => tCall (spFa K CN) [] E (tCons (tOp (rIxT K) (tVar 13) (tC (.int 0))) (tCons (tOp (rIxT K) (tVar 13) (tC (.int 1))) tNil))) rfl gR kR lkR hcR bR scWd rfl (Or.inl rfl) (word_gives L.W) TB rfl (List.mem_cons_self ..)
        (fun p hp _ => by rw [List.mem_singleton.mp hp]; rfl) hr (lamS_by (sc := defScope sLaw) (by decide +kernel)) rfl (fun _ _ _ _ _ => rfl)
        (fun A outer s H E f c' hr' => pe_defX L.dF (hr'.mono (by decide)) rfl (passes_call (takes_of rfl rfl rfl rfl) (fun _ _ _ _ h => h)) (pa_cons (pe_ix ix_tup (pv 13) pe_int (fun _ _ => rfl)) (pa_cons (pe_ix ix_tup (pv 13) pe_int (fun _ _ => rfl)) pa_nil)))) pe_str (nomark _)) (pss_one (ps_ret pe_bl)) pss_nil)
    (pss_one (ps_if (PW.pt (pw_or (pt_cmpR op_ne (pe_lamcall (T := [(PT, lamQ)]) (TT := TWord CN CA) (k := 5) (t := fun E => tCall (spSa K CN CA) [] E (tCons (tLst (tCons (tC (.int 1)) tNil)) (tCons tDNewK (tCons (tC (.str "no")) tNil)))) rfl gR kR lkR hcR bR scWd rfl (Or.inl rfl) (word_gives L.W) TB rfl (List.mem_cons_self ..)
        (fun p hp _ => by rw [List.mem_singleton.mp hp]; rfl) hr (lamS_by (sc := defScope sLaw) (by decide +kernel)) rfl (fun _ _ _ _ _ => rfl)
        (fun A outer s H E f c' hr' => pe_defX L.dA (hr'.mono (by decide)) rfl (passes_call (takes_of rfl rfl rfl rfl) (fun _ _ _ _ h => h)) (pa_cons (pe_lst (pa_cons pe_int pa_nil)) (pa_cons pe_dnewK (pa_cons pe_str pa_nil))))) pe_str (nomark _))
      (pw_or1 (pt_cmpR (op_neD hr.units) (pe_defX L.dA r4 rfl passL (pa_cons (pe_lst pa_nil) (pa_cons pe_dnewK (pa_cons pe_str pa_nil)))) (pe_tup (pa_cons pe_int (pa_cons (pe_lst pa_nil) pa_nil))) (nomark _))))) (pss_one (ps_ret pe_bl)) pss_nil))))), ?_⟩
  intro D' H r a x0 x1 x2 x3 x4 x5 x6 x7 x8 x9 x10 x12 x13 hI k
  refine seq_read (set_read (yblst (ybs1 (yb yl1 yd0 (by decide +kernel) (by decide)) (ybs1 (yb yl1 yd0 (by decide +kernel) (by decide)) (ybs1 (yb yl13 yd0 (by decide +kernel) (by decide)) (ybs1 (yb yl1 yd1 (by decide +kernel) (by decide)) (ybs1 (yb yl1 yd1 (by decide +kernel) (by decide)) (ybs1 (yb yl0 yd1 (by decide +kernel) (by decide)) ybs0)))))) (by decide) fun l ps H1 nl s1 hl el hb => ?_))
  have I1 := hI.same s1
  have nlr := hI.row.ne nl
  refine ⟨_, rfl, _, rfl, r, _, a, rfl, I1.row, by decide, by decide, fun v o v0 v1 R => ?_⟩
  have d2 := Dr.draw R
  generalize upd H1 r o = H2 at d2 ⊢
  have I2 := I1.dr d2
  obtain ⟨p, hp, hat⟩ := pick_at (ps := ps) v0 (by rw [el]; exact v1)
  refine ⟨l, _, v, _, rfl, rfl, SqL.of (d2.sb _ _ nlr hl), hat, ?_⟩
  have B2 := (hb p hp).dr I1.row d2
  -- the first word
  refine ⟨I2.tab, fun H3 e3 T3 => ?_⟩
  have I3 := I2.ext e3 T3
  have B3 := B2.ext e3
  obtain ⟨lb, db, ns, es, b1, b2, b3, b4, b5⟩ := id B3
  refine ⟨_, rfl, p, _, 0, _, rfl, rfl, SqT.of b1, rfl, _, rfl, p, _, 1, _, rfl, rfl, SqT.of b1, rfl, lb, db, ns, es, "none", rfl, SqL.of b2, b5, b3, fun z => (by rw [b4] at z; cases z), fun _ H4 s4 => .inl ⟨rfl, rfl, ?_⟩, fun z => (by rw [b4] at z; cases z)⟩
  refine ⟨rfl, _, rfl, ?_⟩
  refine ite_no (by decide +kernel) ?_
  have I4 := I3.same s4
  -- the second
  refine ⟨I4.tab, fun H5 e5 T5 => ?_⟩
  have I5 := I4.ext e5 T5
  obtain ⟨lc, dc, ms, fs, c1, c2, c3, c4, c5⟩ := (B3.same s4).ext e5
  refine ⟨_, rfl, p, _, 0, _, rfl, rfl, SqT.of c1, rfl, _, rfl, p, _, 1, _, rfl, rfl, SqT.of c1, rfl, lc, dc, ms, fs, rfl, SqL.of c2, c5, c3, c4, fun H6 s6 => .inl ⟨rfl, rfl, ?_⟩⟩
  refine ⟨rfl, _, rfl, ?_⟩
  refine ite_no (by decide +kernel) ?_
  have I6 := I5.same s6
  -- the third
  refine ⟨I6.tab, fun H7 e7 T7 => ?_⟩
  have I7 := I6.ext e7 T7
  refine ⟨one_le, fun l8 n8 d8 m8 => ?_⟩
  have s8 := (Same.upd_new (o := .lst [.int 1]) n8)
  have s9 := (Same.upd_new (o := .dK []) m8)
  refine ⟨l8, d8, [1], [], "no", rfl, SqL.of (s9 _ _ upd_same), by decide, upd_same, fun _ z => absurd z (by decide +kernel), fun z => absurd z (by decide +kernel), fun _ _ H10 s10 => .inr ⟨rfl, rfl, ?_⟩⟩
  refine ⟨rfl, _, rfl, ?_⟩
  refine ite_no (by decide +kernel) ?_
  have I10 := I7.same ((s8.trans s9).trans s10)
  -- nothing
  refine ⟨Nat.zero_le _, fun l11 n11 d11 m11 => ?_⟩
  have s11 := (Same.upd_new (o := .lst []) n11)
  have s12 := (Same.upd_new (o := .dK []) m11)
  refine ⟨l11, d11, [], [], "keep", rfl, SqL.of (s12 _ _ upd_same), by decide, upd_same, fun _ _ H13 t13 l13 s13 ht hl13 => ?_, fun z => absurd z (by decide +kernel), fun _ z => absurd z (by decide +kernel)⟩
  refine ⟨Nat.zero_le _, fun l14 n14 => ⟨two_le, fun t15 n15 => ?_⟩⟩
  have s14 := (Same.upd_new (o := .lst []) n14)
  have s15 := (Same.upd_new (o := .tup [.int 0, .ref l14]) n15)
  have s16 := s14.trans s15
  refine ⟨.tuple [.int 0, .list []], .tuple [.int 0, .list []], .tup (SqT.of (s16 _ _ ht)) (.cons (.int _) (.cons (.lst (SqL.of (s16 _ _ hl13)) .nil) .nil)), .tup (SqT.of upd_same) (.cons (.int _) (.cons (.lst (SqL.of (s15 _ _ upd_same)) .nil) .nil)), by decide +kernel, by decide +kernel, _, rfl, ?_⟩
  refine ite_no (by decide +kernel) ?_
  exact k _ _ (I10.same ((s11.trans s12).trans (s13.trans s16)))
end
end Half

namespace Half
open PySem PySem.Spec PyProof.Rows L2 LamX
/-! ### contents that are out of range -/
def BadS (H : Hp) (p : Addr) : Prop := ∃ v1 v2 v3, H p = some (.lst [v1, v2, v3]) ∧ IntB v1 ∧ IntB v2 ∧ IntB v3 ∧ (inR v1 0 99 && inR v2 0 99 && inR v3 1 99) = false
theorem BadS.same {H H' : Hp} {p : Addr} (s : Same H H') (h : BadS H p) : BadS H' p := by
  obtain ⟨v1, v2, v3, h1, h2⟩ := h
  exact ⟨v1, v2, v3, s _ _ h1, h2⟩
theorem BadS.dr {H H' : Hp} {K : PySem.W.Frag} {r a p : Addr} (R : Row K H r a) (d : Dr r a H H') (h : BadS H p) : BadS H' p := by
  obtain ⟨v1, v2, v3, h1, h2⟩ := h
  obtain ⟨_, i, g, j, hr, _⟩ := R
  exact ⟨v1, v2, v3, d.sb _ _ (ne_of h1 hr (by intro z; cases z)) h1, h2⟩
theorem BadS.ext {H H' : Hp} {p : Addr} (e : ExtN H H') (h : BadS H p) : BadS H' p := by
  obtain ⟨v1, v2, v3, h1, h2⟩ := h
  exact ⟨v1, v2, v3, e _ _ h1 (by intro _ z; cases z), h2⟩
def YC (t : TE) (v : V) : Prop := ∀ σ H Q, Q v H → t σ H Q
def YS (t : TE) : Prop := ∀ σ H Q, (∀ p H', Same H H' → BadS H' p → Q (.ref p) H') → t σ H Q
def YSs (t : TA) (n : Nat) : Prop := ∀ σ H Q, (∀ (ps : List Addr) H', Same H H' → ps.length = n → (∀ p ∈ ps, BadS H' p) → Q (ps.map V.ref) H') → t σ H Q
theorem yc {v : V} : YC (tC v) v := fun σ H Q q => q
theorem ycm : YC (tOp (rI0 fun i j => .int (i - j)) (tC (.int 0)) (tC (.int 1))) (.int (-1)) := fun σ H Q q => ⟨0, 1, rfl, rfl, q⟩
theorem three_le : 3 ≤ sizeLine := by decide
theorem ys {t1 t2 t3 : TE} {v1 v2 v3 : V} (a : YC t1 v1) (b : YC t2 v2) (c : YC t3 v3) (h1 : IntB v1) (h2 : IntB v2) (h3 : IntB v3) (h : (inR v1 0 99 && inR v2 0 99 && inR v3 1 99) = false) : YS (tLst (tCons t1 (tCons t2 (tCons t3 tNil)))) := fun σ H Q k =>
  a σ H _ (b σ H _ (c σ H _ ⟨three_le, fun p np => k p _ (Same.upd_new np) ⟨v1, v2, v3, upd_same, h1, h2, h3, h⟩⟩))
theorem yss0 : YSs tNil 0 := fun σ H Q k => k [] H (Same.refl H) rfl (fun p hp => nomatch hp)
theorem yss1 {t : TE} {ts : TA} {n : Nat} (a : YS t) (b : YSs ts n) : YSs (tCons t ts) (n + 1) := fun σ H Q k =>
  a σ H _ fun p H1 s1 h1 => b σ H1 _ fun ps H2 s2 e h2 => k (p :: ps) H2 (s1.trans s2) (by rw [List.length_cons, e]) fun q hq => by
    rcases List.mem_cons.mp hq with rfl | z
    · exact h1.same s2
    · exact h2 q z
theorem yslst {ts : TA} {n : Nat} (b : YSs ts n) (hn : n ≤ 100) {σ : L2.St} {H : Hp} {Q : VK} (k : ∀ (l : Addr) (ps : List Addr) H', H l = none → Same H H' → H' l = some (.lst (ps.map V.ref)) → ps.length = n → (∀ p ∈ ps, BadS H' p) → Q (.ref l) H') : tLst ts σ H Q :=
  b σ H _ fun ps H1 s1 e h1 => ⟨by rw [List.length_map, e, sizeLine_eq]; omega, fun l nl => k l ps _ (none_of s1 nl) (s1.trans (Same.upd_new nl)) upd_same e fun p hp => (h1 p hp).same (Same.upd_new nl)⟩
theorem op_read {r : R2} {ta tb : TE} {σ : L2.St} {H : Hp} {Q : VK} (h : ta σ H fun x H1 => tb σ H1 fun y H2 => r x y H2 Q) : tOp r ta tb σ H Q := h
def WRG : List Str := ["none", "", "Keep"]
section
variable {P : Program} {w : World} {K : PySem.W.Frag} {mg : Str → Option Value} {base : Heap} {CN CA : Addr}
theorem law_i {f c PT : Addr} {A : Around} {outer : List Env} {s : Shared} {H0 : Hp} {E : XK} {tR : TS} (L : LawD P w K mg base CN CA) (R : WordF K mg) (TB : TabB base mg c PT)
    (hr : Room 7 (A.deeper (envOfC "law" (defScope sLaw) s.heap.objs.size f (.ref c)))) (nd : LawN.Nodup) (hR : PSs (cxOf CX0 P w K mg base LawN "law" (defScope sLaw) f (.ref c) A outer s H0 E).nox (lBody.drop 12) tR) :
    ∃ t, PSs (cxOf CX0 P w K mg base LawN "law" (defScope sLaw) f (.ref c) A outer s H0 E).nox (lBody.drop 9) t ∧ ∀ (D' : Ends) (H : Hp) (r a : Addr) (x0 x1 x2 x3 x4 x5 x6 x7 x8 x9 x10 x12 x13 : Option V), LI K PT r a H →
      (∀ H' x12, LI K PT r a H' → tR D' [x0, x1, x2, x3, x4, x5, x6, x7, x8, x9, x10, some (.ref r), x12, x13] H') →
      t D' [x0, x1, x2, x3, x4, x5, x6, x7, x8, x9, x10, some (.ref r), x12, x13] H := by
  obtain ⟨g, oc', od', dV', kV', doc', pm', an', cdv', ct', osl', gR, kR, lkR, hcR, bR⟩ := R.ex
  have r1 : Room 1 _ := hr.mono (by decide)
  refine ⟨_, pss_cons (ps_set (i := 12) nd rfl (Or.inr rfl) (pe_ix ix_list (pe_lst
      (pa_cons (pe_lst (pa_cons pe_int (pa_cons pe_int (pa_cons pe_int pa_nil))))
      (pa_cons (pe_lst (pa_cons pe_int (pa_cons (pe_op op_sub pe_int pe_int) (pa_cons pe_int pa_nil))))
      (pa_cons (pe_lst (pa_cons pe_int (pa_cons pe_int (pa_cons pe_int pa_nil))))
      (pa_cons (pe_lst (pa_cons pe_int (pa_cons pe_int (pa_cons pe_bl pa_nil))))
      (pa_cons (pe_lst (pa_cons pe_int (pa_cons pe_int (pa_cons pe_int pa_nil)))) pa_nil)))))) (pe_def L.dT r1 rfl (pa_cons (pv 11) (pa_cons pe_int pa_nil))) (fun _ _ => rfl)))
    (pss_cons (ps_if (pt_cmpR op_ne (pe_lamcall (T := [(PT, lamQ)]) (TT := TWord CN CA) (k := 5) (t := fun E => tCall (spSd CN CA) [] E (tCons (tOp (rIxL K) (tVar 12) (tC (.int 0))) (tCons (tOp (rIxL K) (tVar 12) (tC (.int 1))) (tCons (tOp (rIxL K) (tVar 12) (tC (.int 2))) (tCons (tC (.str "none")) tNil))))) rfl gR kR lkR hcR bR scWd rfl (Or.inl rfl) (word_gives L.W) TB rfl (List.mem_cons_self ..)
        (fun p hp _ => by rw [List.mem_singleton.mp hp]; rfl) hr (lamS_by (sc := defScope sLaw) (by decide +kernel)) rfl (fun _ _ _ _ _ => rfl)
        (fun A outer s H E f c' hr' => pe_defX L.dD (hr'.mono (by decide)) rfl (passes_call (takes_of rfl rfl rfl rfl) (fun _ _ _ _ h => h)) (pa_cons (pe_ix ix_list (pv 12) pe_int (fun _ _ => rfl)) (pa_cons (pe_ix ix_list (pv 12) pe_int (fun _ _ => rfl)) (pa_cons (pe_ix ix_list (pv 12) pe_int (fun _ _ => rfl)) (pa_cons pe_str pa_nil)))))) pe_str (nomark _)) (pss_one (ps_ret pe_bl)) pss_nil)
    (pss_cons (ps_if (pt_cmpR op_ne (pe_lamcall (T := [(PT, lamQ)]) (TT := TWord CN CA) (k := 5) (t := fun E => tCall (spSd CN CA) [] E (tCons (tC (.int 1)) (tCons (tC (.int 1)) (tCons (tC (.int 1)) (tCons (tOp (rIxL K) (tLst (tCons (tC (.str "none")) (tCons (tC (.str "")) (tCons (tC (.str "Keep")) tNil)))) (tCall (spTaken K) [] E0 (tCons (tVar 11) (tCons (tC (.int 3)) tNil)))) tNil))))) rfl gR kR lkR hcR bR scWd rfl (Or.inl rfl) (word_gives L.W) TB rfl (List.mem_cons_self ..)
        (fun p hp _ => by rw [List.mem_singleton.mp hp]; rfl) hr (lamS_by (sc := defScope sLaw) (by decide +kernel)) rfl (fun _ _ _ _ _ => rfl)
        (fun A outer s H E f c' hr' => pe_defX L.dD (hr'.mono (by decide)) rfl (passes_call (takes_of rfl rfl rfl rfl) (fun _ _ _ _ h => h)) (pa_cons pe_int (pa_cons pe_int (pa_cons pe_int (pa_cons (pe_ix ix_list (pe_lst (pa_cons pe_str (pa_cons pe_str (pa_cons pe_str pa_nil)))) (pe_def L.dT (hr'.mono (by decide)) rfl (pa_cons (pv 11) (pa_cons pe_int pa_nil))) (fun _ _ => rfl)) pa_nil)))))) pe_str (nomark _)) (pss_one (ps_ret pe_bl)) pss_nil) hR)), ?_⟩
  intro D' H r a x0 x1 x2 x3 x4 x5 x6 x7 x8 x9 x10 x12 x13 hI k
  refine seq_read (set_read (op_read (yslst (yss1 (ys yc yc yc (.inl ⟨_, rfl⟩) (.inl ⟨_, rfl⟩) (.inl ⟨_, rfl⟩) (by decide +kernel)) (yss1 (ys yc ycm yc (.inl ⟨_, rfl⟩) (.inl ⟨_, rfl⟩) (.inl ⟨_, rfl⟩) (by decide +kernel)) (yss1 (ys yc yc yc (.inl ⟨_, rfl⟩) (.inl ⟨_, rfl⟩) (.inl ⟨_, rfl⟩) (by decide +kernel)) (yss1 (ys yc yc yc (.inl ⟨_, rfl⟩) (.inl ⟨_, rfl⟩) (.inr ⟨_, rfl⟩) (by decide +kernel)) (yss1 (ys yc yc yc (.inl ⟨_, rfl⟩) (.inl ⟨_, rfl⟩) (.inl ⟨_, rfl⟩) (by decide +kernel)) yss0))))) (by decide) fun l ps H1 nl s1 hl el hb => ?_)))
  have I1 := hI.same s1
  have nlr := hI.row.ne nl
  refine ⟨_, rfl, r, _, a, rfl, I1.row, by decide, by decide, fun v o v0 v1 R => ?_⟩
  have d2 := Dr.draw R
  generalize upd H1 r o = H2 at d2 ⊢
  have I2 := I1.dr d2
  obtain ⟨p, hp, hat⟩ := pick_at (ps := ps) v0 (by rw [el]; exact v1)
  refine ⟨l, _, v, _, rfl, rfl, SqL.of (d2.sb _ _ nlr hl), hat, ?_⟩
  have B2 := (hb p hp).dr I1.row d2
  refine ⟨I2.tab, fun H3 e3 T3 => ?_⟩
  have I3 := I2.ext e3 T3
  obtain ⟨w1, w2, w3, b1, i1, i2, i3, b2⟩ := B2.ext e3
  refine ⟨_, rfl, p, _, 0, _, rfl, rfl, SqL.of b1, rfl, _, rfl, p, _, 1, _, rfl, rfl, SqL.of b1, rfl, _, rfl, p, _, 2, _, rfl, rfl, SqL.of b1, rfl, w1, w2, w3, "none", rfl, i1, i2, i3, fun _ _ _ _ _ _ z => absurd z (by decide +kernel), fun _ => .inl ⟨rfl, rfl, ?_⟩, fun z => (by rw [b2] at z; cases z)⟩
  refine ⟨rfl, _, rfl, ?_⟩
  refine ite_no (by decide +kernel) ?_
  refine ⟨I3.tab, fun H5 e5 T5 => ?_⟩
  have I5 := I3.ext e5 T5
  refine ⟨three_le, fun l6 n6 => ?_⟩
  have s6 := Same.upd_new (o := .lst (WRG.map V.str)) n6
  have I6 := I5.same s6
  have nl6 := I5.row.ne n6
  refine ⟨_, rfl, r, _, a, rfl, I6.row, by decide, by decide, fun v o v0 v1 R => ?_⟩
  have d7 := Dr.draw R
  have g7 := d7.sb _ _ nl6 (upd_same (a := l6) (o := .lst (WRG.map V.str)))
  have I7 := I6.dr d7
  generalize upd (upd H5 l6 (.lst [.str "none", .str "", .str "Keep"])) r o = H7 at g7 I7 ⊢
  obtain ⟨z, hz, hzn⟩ : ∃ z, atI (WRG.map V.str) v = some (.str z) ∧ isAns z = false := by
    have : v = 0 ∨ v = 1 ∨ v = 2 := by omega
    rcases this with rfl | rfl | rfl
    · exact ⟨_, rfl, by decide +kernel⟩
    · exact ⟨_, rfl, by decide +kernel⟩
    · exact ⟨_, rfl, by decide +kernel⟩
  refine ⟨l6, _, v, _, rfl, rfl, SqL.of g7, hz, .int 1, .int 1, .int 1, z, rfl, .inl ⟨_, rfl⟩, .inl ⟨_, rfl⟩, .inl ⟨_, rfl⟩, fun _ _ _ _ _ _ y => (by rw [hzn] at y; cases y), fun y => absurd y (by decide +kernel), fun _ _ => .inr ⟨rfl, rfl, ?_⟩⟩
  refine ⟨rfl, _, rfl, ?_⟩
  refine ite_no (by decide +kernel) ?_
  exact k _ _ I7
end
end Half

namespace Half
open PySem PySem.Spec PyProof.Rows L2 LamX
theorem lay_list : ∀ {ds : List PyData}, (∀ d ∈ ds, PyData.canLay0 d = true ∧ PyData.depth d ≤ 3) → PyData.canLayAll0 ds = true ∧ PyData.depthAll ds ≤ 3
  | [], _ => ⟨by simp [PyData.canLayAll0], by simp [PyData.depthAll]⟩
  | d :: ds, h => by
    obtain ⟨a, b⟩ := h d List.mem_cons_self
    obtain ⟨x, y⟩ := lay_list fun e he => h e (List.mem_cons_of_mem _ he)
    refine ⟨by simp [PyData.canLayAll0, a, x], ?_⟩
    simp only [PyData.depthAll]
    omega
theorem shaped_list {ds : List PyData} (h : ∀ d ∈ ds, PyData.canLay0 d = true ∧ PyData.depth d ≤ 3) : SeqAt.shaped (.list ds) = true := by
  obtain ⟨a, b⟩ := lay_list h
  unfold SeqAt.shaped
  rw [Bool.and_eq_true]
  refine ⟨by simp only [PyData.canLay0]; exact a, decide_eq_true ?_⟩
  simp only [PyData.depth]
  omega
theorem ints_lay (ns : List Int) : ∀ d ∈ ns.map PyData.int, PyData.canLay0 d = true ∧ PyData.depth d ≤ 3 := fun d hd => by
  obtain ⟨n, _, rfl⟩ := List.mem_map.mp hd
  simp [PyData.canLay0, PyData.depth]
theorem told_shaped (p : Int) (ns : List Int) : SeqAt.shaped (.tuple [.int p, .list (ns.map PyData.int)]) = true := by
  obtain ⟨a, b⟩ := lay_list (ints_lay ns)
  unfold SeqAt.shaped
  rw [Bool.and_eq_true]
  refine ⟨?_, decide_eq_true ?_⟩
  · simp [PyData.canLay0, PyData.canLayAll0, a]
  · simp only [PyData.depth, PyData.depthAll]
    omega
theorem told_eqv (p : Int) (ns : List Int) : PyData.eqv (.tuple [.int p, .list (ns.map PyData.int)]) (.tuple [.int p, .list (ns.map PyData.int)]) = true := SeqAt.eqv_refl _ (Bool.and_eq_true_iff.mp (told_shaped p ns)).1
theorem dpInts {K : PySem.W.Frag} {H : Hp} : ∀ ns : List Int, DpAll K H (iV ns) (ns.map PyData.int)
  | [] => .nil
  | n :: ns => .cons (.int n) (dpInts ns)
/-! ### the edits as they grow -/
def EdOk (es : List (Int × Int)) (i : Nat) : Prop := (∀ p ∈ es, 0 ≤ p.1 ∧ p.1 < i ∧ 0 ≤ p.2 ∧ p.2 < 5) ∧ es.length ≤ i
theorem EdOk.skip {es : List (Int × Int)} {i : Nat} (h : EdOk es i) : EdOk es (i + 1) := ⟨fun p hp => by have := h.1 p hp; omega, by have := h.2; omega⟩
theorem EdOk.add {es : List (Int × Int)} {i : Nat} {v : Int} (h : EdOk es i) (h0 : 0 ≤ v) (h1 : v < 5) : EdOk (es ++ [((i : Int), v)]) (i + 1) := by
  refine ⟨fun p hp => ?_, by rw [List.length_append]; have := h.2; simp; omega⟩
  rcases List.mem_append.mp hp with q | q
  · have := h.1 p q
    omega
  · rw [List.mem_singleton.mp q]
    exact ⟨by omega, by show (i : Int) < ((i + 1 : Nat) : Int); omega, h0, h1⟩
theorem put_edit {es : List (Int × Int)} {i : Nat} {v : Int} (h : EdOk es i) : putK (eK es) (.inl (i : Int)) (.int v) = eK (es ++ [((i : Int), v)]) := by
  unfold putK
  rw [if_neg ?_]
  · unfold eK
    rw [List.map_append]
    rfl
  · intro z
    obtain ⟨kv, h1, h2⟩ := List.any_eq_true.mp z
    obtain ⟨p, hp, rfl⟩ := List.mem_map.mp h1
    have e := of_decide_eq_true h2
    have e' : p.1 = (i : Int) := Sum.inl.inj e
    have := h.1 p hp
    omega
theorem okC_of {ns : List Int} {es : List (Int × Int)} (h1 : ns.length ≤ 12) (h2 : ∀ n ∈ ns, inR (.int n) 1 99 = true) (h3 : EdOk es ns.length) : okC ns es = true := by
  unfold okC
  rw [decide_eq_true h1, List.all_eq_true.mpr h2, Bool.true_and, Bool.true_and]
  refine List.all_eq_true.mpr fun p hp => ?_
  have := h3.1 p hp
  rw [Bool.and_eq_true]
  constructor
  · show (decide (0 ≤ p.1) && decide (p.1 ≤ (ns.length : Int) - 1)) = true
    rw [decide_eq_true (by omega), decide_eq_true (by omega)]
    rfl
  · show (decide (0 ≤ p.2) && decide (p.2 ≤ 99)) = true
    rw [decide_eq_true (by omega), decide_eq_true (by omega)]
    rfl
section
variable {P : Program} {w : World} {K : PySem.W.Frag} {mg : Str → Option Value} {base : Heap} {CN CA : Addr}
theorem law_h {f c PT : Addr} {A : Around} {outer : List Env} {s : Shared} {H0 : Hp} {E : XK} {tR : TS} (L : LawD P w K mg base CN CA)
    (hr : Room 7 (A.deeper (envOfC "law" (defScope sLaw) s.heap.objs.size f (.ref c)))) (nd : LawN.Nodup) (hR : PSs (cxOf CX0 P w K mg base LawN "law" (defScope sLaw) f (.ref c) A outer s H0 E).nox (lBody.drop 9) tR) :
    ∃ t, PSs (cxOf CX0 P w K mg base LawN "law" (defScope sLaw) f (.ref c) A outer s H0 E).nox (lBody.drop 3) t ∧ ∀ (D' : Ends) (H : Hp) (r a : Addr) (z : Str) (x0 x1 x2 x3 x4 x6 x7 x8 x9 x10 x12 x13 : Option V), LI K PT r a H → isAns z = true →
      (∀ H' x2 x3 x6 x7 x8 x9 x10, LI K PT r a H' → tR D' [x0, x1, x2, x3, x4, some (.str z), x6, x7, x8, x9, x10, some (.ref r), x12, x13] H') →
      t D' [x0, x1, x2, x3, x4, some (.str z), x6, x7, x8, x9, x10, some (.ref r), x12, x13] H := by
  have r1 : Room 1 _ := hr.mono (by decide)
  have r4 : Room 4 _ := hr.mono (by decide)
  have hu := hu_of hr
  refine ⟨_, pss_cons (ps_setLc (i := 7) (own := [("_law_k", 6)]) (g := gName 6) (tt := tYes) (te := tOp (rI0 fun i j => .int (i + j)) (tC (.int 1)) (tCall (spTaken K) [] E0 (tCons (tVar 11) (tCons (tC (.int 4)) tNil)))) rfl nd rfl rfl (sw_true rfl rfl rfl (by decide +kernel))
      (pi_range1 (by rfl) L.T.ran (pa_cons (pe_def L.dT r1 rfl (pa_cons (pv 11) (pa_cons pe_int pa_nil))) pa_nil)) (blkOk_by (N := LawN) (sc := defScope sLaw) (by decide +kernel))
      (fun _ _ _ _ _ => pg_name (i := 6) nd rfl (Or.inl rfl)) (fun _ _ _ _ _ => pts_nil) (fun _ _ _ _ _ => pe_op op_add pe_int (pe_def L.dT r1 rfl (pa_cons (pv 11) (pa_cons pe_int pa_nil)))))
    (pss_cons (ps_par (i := 8) (j := 9) (by rfl) nd rfl rfl (by decide) rfl rfl (pa_cons pe_dnewK (pa_cons (pe_lst pa_nil) pa_nil)) (by rfl))
    (pss_cons (ps_for PassesOwn.never rfl (pi_range1 (by rfl) L.T.ran (pa_cons (pe_callB call_len_seq (by rfl) L.T.len PySem.boot_len (pa_cons (pv 7) pa_nil)) pa_nil)) (pg_name (i := 6) nd rfl (Or.inl rfl))
      (pss_one (ps_if (pt_cmpR op_eq (pe_def L.dT r1 rfl (pa_cons (pv 11) (pa_cons pe_int pa_nil))) pe_int (nomark _)) (pss_one (ps_dput hu (pv 8) (pv 6) (pe_def L.dT r1 rfl (pa_cons (pv 11) (pa_cons pe_int pa_nil))) rfl)) pss_nil)))
    (pss_cons (ps_asg (pe_tup (pa_cons pe_int (pa_cons pe_int pa_nil))) (pg_tup rfl (pgs_cons (pg_name (i := 2) nd rfl (Or.inl rfl)) (pgs_cons (pg_name (i := 3) nd rfl (Or.inl rfl)) pgs_nil))))
    (pss_cons (ps_for PassesOwn.never rfl (pi_range1 (by rfl) L.T.ran (pa_cons (pe_callB call_len_seq (by rfl) L.T.len PySem.boot_len (pa_cons (pv 7) pa_nil)) pa_nil)) (pg_name (i := 6) nd rfl (Or.inl rfl))
      (pss_cons (ps_set (i := 3) nd rfl (Or.inl rfl) (pe_dget2 hu (pv 8) (pv 6) (pv 3) ⟨rfl, rfl, rfl, rfl⟩))
      (pss_cons (ps_set (i := 10) nd rfl (Or.inl rfl) (pe_def L.dO r1 rfl (pa_cons (pv 2) (pa_cons (pv 3) (pa_cons (pe_ix ix_list (pv 7) (pv 6) (fun _ _ => rfl)) (pa_cons (pv 5) pa_nil))))))
      (pss_cons (ps_set (i := 9) nd rfl (Or.inl rfl) (pe_op op_cat (pv 9) (pe_op op_rep (pe_lst (pa_cons (pv 6) pa_nil)) (pe_callTy call_int1 (by rfl) L.T.int (by decide +kernel) (pa_cons (pe_ix ix_tup (pv 10) pe_int (fun _ _ => rfl)) pa_nil)))))
      (pss_one (ps_par (i := 2) (j := 3) (by rfl) nd rfl rfl (by decide) rfl rfl (pa_cons (pe_ix ix_list (pv 7) (pv 6) (fun _ _ => rfl)) (pa_cons (pe_ix ix_tup (pv 10) pe_int (fun _ _ => rfl)) pa_nil)) (by rfl)))))))
    (pss_cons (ps_if (pt_cmpR (op_neD hr.units) (pe_defX L.dA r4 rfl passL (pa_cons (pv 7) (pa_cons (pv 8) (pa_cons (pv 5) pa_nil)))) (pe_tup (pa_cons (pv 3) (pa_cons (pv 9) pa_nil))) (nomark _)) (pss_one (ps_ret pe_bl)) pss_nil) hR))))), ?_⟩
  intro D' H r a z x0 x1 x2 x3 x4 x6 x7 x8 x9 x10 x12 x13 hI hz k
  refine ⟨_, rfl, r, _, a, rfl, hI.row, by decide, by decide, fun v o v0 v1 R => ⟨v, rfl, by omega, by omega, ?_⟩⟩
  have I1 := hI.dr (Dr.draw R)
  generalize upd H r o = H1 at I1 ⊢
  refine fun D hD => lc_it walk_range (fun i H' => Dr r a H1 H' ∧ ∃ zs : List Int, zs.length = i ∧ (∀ y ∈ zs, inR (.int y) 1 99 = true) ∧ H' D = some (.lst (iV zs))) ⟨I1.row.dr.put hD (I1.row.ne hD), [], rfl, fun y hy => (nomatch hy), upd_same⟩ (fun _ _ _ _ => trivial) ?_ ?_
  · rintro i x H2 H3 hi ⟨d2, zs, hl, hzs, hD2⟩ ⟨rfl, rfl⟩
    have nD := I1.row.ne hD
    refine ⟨rfl, _, rfl, r, _, a, rfl, d2.row I1.row, by decide, by decide, fun u o u0 u1 R3 => ⟨_, _, rfl, rfl, ?_⟩⟩
    have d3 := Dr.draw R3
    generalize upd H3 r o = H4 at d3 ⊢
    have hD4 := d3.sb _ _ nD hD2
    refine ⟨_, hD4, ?_, (d2.trans d3).put hD nD, zs ++ [1 + u], by rw [List.length_append, hl]; rfl, fun y hy => ?_, ?_⟩
    · rw [iV, List.length_map, hl, sizeLine_eq]
      omega
    · rcases List.mem_append.mp hy with q | q
      · exact hzs y q
      · rw [List.mem_singleton.mp q]
        show (decide (1 ≤ 1 + u) && decide (1 + u ≤ 99)) = true
        rw [decide_eq_true (by omega), decide_eq_true (by omega)]
        rfl
    · rw [upd_same, iV, iV, List.map_append]
      rfl
  rintro H2 ⟨d2, ns, hl, hns, hD2⟩
  have few : ns.length ≤ 12 := by omega
  have I2 := I1.dr d2
  have cD := ints_ne I2.row hD2
  -- the edits
  refine fun d nd2 => ⟨Nat.zero_le _, fun l nl => ⟨_, _, rfl, ?_⟩⟩
  have s3 := Same.upd_new (o := .dK []) nd2
  have s4 := Same.upd_new (o := .lst []) nl
  have I4 := (I2.same s3).same s4
  have hD4 := s4 _ _ (s3 _ _ hD2)
  have hd4 := s4 _ _ (upd_same (a := d) (o := .dK []) (H := H2))
  have hl4 : (upd (upd H2 d (.dK [])) l (.lst [])) l = some (.lst (iV [])) := upd_same
  generalize upd (upd H2 d (.dK [])) l (.lst []) = H4 at I4 hD4 hd4 hl4 ⊢
  have hli : (iV ns).length = ns.length := List.length_map ..
  refine ⟨_, rfl, D, _, rfl, .inl (SqL.of hD4), _, rfl, by rw [hli]; omega, by rw [hli]; omega, ?_⟩
  rw [hli]
  refine for_it walk_range (fun i σ H' => ∃ es x6, LI K PT r a H' ∧ H' D = some (.lst (iV ns)) ∧ H' d = some (.dK (eK es)) ∧ H' l = some (.lst (iV [])) ∧ EdOk es i ∧ σ = [x0, x1, x2, x3, x4, some (.str z), x6, some (.ref D), some (.ref d), some (.ref l), x10, some (.ref r), x12, x13]) ⟨[], x6, I4, hD4, hd4, hl4, ⟨fun p hp => (nomatch hp), Nat.zero_le _⟩, rfl⟩ (fun _ _ _ _ _ => trivial) ?_ ?_
  · rintro i x σ H5 H6 hi ⟨es, y6, I5, hD5, hd5, hl5, he, rfl⟩ ⟨rfl, rfl⟩
    have e0 : (fun i : Nat => V.int (0 + (i : Int))) i = V.int (i : Int) := by show V.int (0 + (i : Int)) = _; rw [Int.zero_add]
    rw [e0]
    obtain ⟨xs, hrr⟩ := I5.row.at_
    refine ⟨_, rfl, r, _, a, rfl, I5.row, by decide, by decide, fun v o v0 v1 R => ?_⟩
    have d6 := Dr.draw R
    have I6 := I5.dr d6
    have hD6 := d6.sb _ _ (ints_ne I5.row hD5) hD5
    have hd6 := d6.sb _ _ (ne_of hd5 hrr (by intro z; cases z)) hd5
    have hl6 := d6.sb _ _ (ints_ne I5.row hl5) hl5
    generalize upd H6 r o = H7 at I6 hD6 hd6 hl6 ⊢
    refine ⟨rfl, _, rfl, ?_⟩
    rw [dec_int]
    by_cases c0 : v = 0
    · refine ite_yes (decide_eq_true c0) ?_
      obtain ⟨xs6, hrr6⟩ := I6.row.at_
      refine ⟨_, rfl, r, _, a, rfl, I6.row, by decide, by decide, fun u o u0 u1 R => ?_⟩
      have d8 := Dr.draw R
      have I8 := I6.dr d8
      have hD8 := d8.sb _ _ (ints_ne I6.row hD6) hD6
      have hd8 := d8.sb _ _ (ne_of hd6 hrr6 (by intro z; cases z)) hd6
      have hl8 := d8.sb _ _ (ints_ne I6.row hl6) hl6
      generalize upd H7 r o = H8 at I8 hD8 hd8 hl8 ⊢
      refine ⟨_, rfl, _, rfl, d, _, rfl, DPut.k (k := .inl (i : Int)) hd8 (by rw [eK, List.length_map, sizeLine_eq]; have := he.2; omega), ?_⟩
      rw [put_edit he]
      refine ⟨es ++ [((i : Int), u)], some (.int (i : Int)), I8.dic hd8, ?_, upd_same, ?_, he.add u0 u1, rfl⟩
      · rw [upd_ne (ne_of hD8 hd8 (by intro z; cases z))]; exact hD8
      · rw [upd_ne (ne_of hl8 hd8 (by intro z; cases z))]; exact hl8
    · refine ite_no (decide_eq_false c0) ?_
      exact ⟨es, some (.int (i : Int)), I6, hD6, hd6, hl6, he.skip, rfl⟩
  rintro σ H5 ⟨es, y6, I5, hD5, hd5, hl5, he, rfl⟩
  -- by the law's own
  refine ⟨two_le, fun t nt => ?_⟩
  have s6 := Same.upd_new (o := .tup [.int 0, .int 0]) nt
  have I6 := I5.same s6
  have hD6 := s6 _ _ hD5
  have hd6 := s6 _ _ hd5
  have hl6 := s6 _ _ hl5
  have ht6 : SqT K (upd H5 t (.tup [.int 0, .int 0])) t [.int 0, .int 0] := .inl (.inl upd_same)
  generalize upd H5 t (.tup [.int 0, .int 0]) = H6 at I6 hD6 hd6 hl6 ht6 ⊢
  refine ⟨t, _, rfl, ht6, rfl, _, _, rfl, _, _, rfl, rfl, ?_⟩
  refine ⟨_, rfl, D, _, rfl, .inl (SqL.of hD6), _, rfl, by rw [hli]; omega, by rw [hli]; omega, ?_⟩
  rw [hli]
  refine for_it walk_range (fun i σ H' => ∃ la y6 y10, LI K PT r a H' ∧ H' D = some (.lst (iV ns)) ∧ H' d = some (.dK (eK es)) ∧ H' la = some (.lst (iV (stF es (kept z) ns i).2.2)) ∧ σ = [x0, x1, some (.int (stF es (kept z) ns i).1), some (.int (stF es (kept z) ns i).2.1), x4, some (.str z), y6, some (.ref D), some (.ref d), some (.ref la), y10, some (.ref r), x12, x13]) ⟨l, y6, x10, I6, hD6, hd6, hl6, rfl⟩ (fun _ _ _ _ _ => trivial) ?_ ?_
  · rintro i x σ H7 H7' hi ⟨la, y6, y10, I7, hD7, hd7, hl7, rfl⟩ ⟨rfl, rfl⟩
    have e0 : (fun i : Nat => V.int (0 + (i : Int))) i = V.int (i : Int) := by show V.int (0 + (i : Int)) = _; rw [Int.zero_add]
    rw [e0]
    have e1 : ((valV (eK es) (.inl (i : Int))).getD (.int (stF es (kept z) ns i).2.1)) = .int ((edit es i).getD (stF es (kept z) ns i).2.1) := by
      rw [edit_val]
      cases edit es (i : Int) <;> rfl
    refine ⟨_, rfl, d, rfl, .inl ⟨_, .inl hd7⟩, _, rfl, _, rfl, valV (eK es) (.inl (i : Int)), DGet.k (k := .inl (i : Int)) hd7, ?_⟩
    rw [e1]
    have hin : ns[i]? = some (ns.getD i 0) := by rw [List.getD_eq_getElem?_getD, List.getElem?_eq_getElem hi]; rfl
    have hat : atI (iV ns) (i : Int) = some (.int (ns.getD i 0)) := atI_nat (by rw [iV, List.getElem?_map, hin]; rfl)
    refine ⟨_, rfl, _, rfl, _, rfl, _, rfl, D, _, _, _, rfl, rfl, SqL.of hD7, hat, _, rfl, _, _, _, _, rfl, fun H8 t s8 nt8 ht8 => ?_⟩
    have I8 := I7.same s8
    have hD8 := s8 _ _ hD7
    have hd8 := s8 _ _ hd7
    have hl8 := s8 _ _ hl7
    generalize hone : one (stF es (kept z) ns i).1 ((edit es i).getD (stF es (kept z) ns i).2.1) (ns.getD i 0) (kept z) = rr at ht8
    obtain ⟨rc, rb⟩ := rr
    have nx : stF es (kept z) ns (i + 1) = (ns.getD i 0, rc, if rb = true then (stF es (kept z) ns i).2.2 ++ [(i : Int)] else (stF es (kept z) ns i).2.2) := by
      rw [stF, hone]
    have few2 := stF_len es (kept z) ns i
    refine ⟨_, rfl, _, rfl, one_le, fun q nq => ?_⟩
    have s9 := Same.upd_new (o := .lst [.int (i : Int)]) nq
    have I9 := I8.same s9
    have hD9 := s9 _ _ hD8
    have hd9 := s9 _ _ hd8
    have hl9 := s9 _ _ hl8
    have ht9 := s9 _ _ ht8
    have hq9 : (upd H8 q (.lst [.int (i : Int)])) q = some (.lst [.int (i : Int)]) := upd_same
    generalize upd H8 q (.lst [.int (i : Int)]) = H9 at I9 hD9 hd9 hl9 ht9 hq9 ⊢
    refine ⟨_, rfl, t, _, 1, _, rfl, rfl, SqT.of ht9, rfl, .inr ⟨rb, rfl, ?_⟩⟩
    have go : ∀ (ys : List Int) (p : Addr), ys.length ≤ 1 → H9 p = none → (if rb = true then (stF es (kept z) ns i).2.2 ++ [(i : Int)] else (stF es (kept z) ns i).2.2) = (stF es (kept z) ns i).2.2 ++ ys → ∀ p2, (upd H9 p (.lst (iV ys))) p2 = none →
        ∀ H', H' = upd (upd H9 p (.lst (iV ys))) p2 (.lst (iV (stF es (kept z) ns i).2.2 ++ iV ys)) → LI K PT r a H' ∧ H' D = some (.lst (iV ns)) ∧ H' d = some (.dK (eK es)) ∧ H' t = some (.tup (oneV (rc, rb))) ∧ H' p2 = some (.lst (iV (stF es (kept z) ns (i + 1)).2.2)) := fun ys p h1 np e p2 np2 H' eH => by
      have z1 := Same.upd_new (o := .lst (iV ys)) np
      have z2 := Same.upd_new (o := .lst (iV (stF es (kept z) ns i).2.2 ++ iV ys)) np2
      have zz := z1.trans z2
      rw [eH]
      refine ⟨I9.same zz, zz _ _ hD9, zz _ _ hd9, zz _ _ ht9, ?_⟩
      rw [upd_same, nx]
      show some (HO.lst _) = some (HO.lst (iV (if rb = true then _ else _)))
      rw [e, iV, iV, iV, List.map_append]
    have lens : (iV (stF es (kept z) ns i).2.2).length = (stF es (kept z) ns i).2.2.length := List.length_map ..
    cases rb with
    | true =>
      refine ⟨q, 1, _, rfl, rfl, hq9, by decide, by decide, (by show 1 * 1 ≤ sizeLine; decide), fun p np => ?_⟩
      refine ⟨la, p, _, iV [(i : Int)], rfl, rfl, (Same.upd_new np) _ _ hl9, upd_same, by rw [lens, sizeLine_eq]; show _ + 1 ≤ _; omega, fun p2 np2 => ?_⟩
      obtain ⟨g1, g2, g3, g4, g5⟩ := go [(i : Int)] p (Nat.le_refl 1) np rfl p2 np2 _ rfl
      refine ⟨_, rfl, _, rfl, D, _, _, _, rfl, rfl, SqL.of g2, hat, _, rfl, t, _, 0, _, rfl, rfl, SqT.of g4, rfl, _, _, rfl, ?_⟩
      exact ⟨p2, some (.int (i : Int)), some (.ref t), g1, g2, g3, g5, by rw [nx]; rfl⟩
    | false =>
      refine ⟨q, 0, _, rfl, rfl, hq9, by decide, by decide, (by show 1 * 0 ≤ sizeLine; decide), fun p np => ?_⟩
      refine ⟨la, p, _, iV [], rfl, rfl, (Same.upd_new np) _ _ hl9, upd_same, by rw [lens, sizeLine_eq]; show _ + 0 ≤ _; omega, fun p2 np2 => ?_⟩
      obtain ⟨g1, g2, g3, g4, g5⟩ := go [] p (by decide) np (List.append_nil _).symm p2 np2 _ rfl
      refine ⟨_, rfl, _, rfl, D, _, _, _, rfl, rfl, SqL.of g2, hat, _, rfl, t, _, 0, _, rfl, rfl, SqT.of g4, rfl, _, _, rfl, ?_⟩
      exact ⟨p2, some (.int (i : Int)), some (.ref t), g1, g2, g3, g5, by rw [nx]; rfl⟩
  rintro σ H7 ⟨la, y6, y10, I7, hD7, hd7, hl7, rfl⟩
  refine ⟨_, rfl, _, rfl, _, rfl, D, d, ns, es, z, rfl, SqL.of hD7, by omega, hd7, fun _ _ H8 t8 l8 s8 ht8 hl8 => ?_, fun y => ?_, fun _ y => ?_⟩
  · refine ⟨_, rfl, _, rfl, two_le, fun t9 n9 => ?_⟩
    have s9 := Same.upd_new (o := .tup [.int (stF es (kept z) ns ns.length).2.1, .ref la]) n9
    refine ⟨_, _, .tup (SqT.of (s9 _ _ ht8)) (.cons (.int _) (.cons (.lst (SqL.of (s9 _ _ hl8)) (dpInts _)) .nil)), .tup (SqT.of upd_same) (.cons (.int _) (.cons (.lst (SqL.of (s9 _ _ (s8 _ _ hl7))) (dpInts _)) .nil)), told_shaped _ _, told_shaped _ _, _, rfl, ?_⟩
    refine ite_no (congrArg not (told_eqv (stF es (kept z) ns ns.length).2.1 (stF es (kept z) ns ns.length).2.2)) ?_
    exact k _ _ _ _ _ _ _ _ ((I7.same s8).same s9)
  · rw [okC_of few hns he] at y
    cases y
  · rw [hz] at y
    cases y
end
end Half

namespace Half
open PySem PySem.Spec PyProof.Rows L2 LamX
theorem one_shaped (x : Int × Bool) : SeqAt.shaped (.tuple [.int x.1, .bool x.2]) = true := by
  unfold SeqAt.shaped
  rw [Bool.and_eq_true]
  refine ⟨by simp [PyData.canLay0, PyData.canLayAll0], decide_eq_true ?_⟩
  simp only [PyData.depth, PyData.depthAll]
  omega
theorem one_eqv (x : Int × Bool) : PyData.eqv (.tuple [.int x.1, .bool x.2]) (.tuple [.int x.1, .bool x.2]) = true := SeqAt.eqv_refl _ (Bool.and_eq_true_iff.mp (one_shaped x)).1
section
variable {P : Program} {w : World} {K : PySem.W.Frag} {mg : Str → Option Value} {base : Heap} {CN CA : Addr}
theorem law_g {f c PT : Addr} {A : Around} {outer : List Env} {s : Shared} {H0 : Hp} {E : XK} {tR : TS} (L : LawD P w K mg base CN CA)
    (hr : Room 7 (A.deeper (envOfC "law" (defScope sLaw) s.heap.objs.size f (.ref c)))) (nd : LawN.Nodup) (hR : PSs (cxOf CX0 P w K mg base LawN "law" (defScope sLaw) f (.ref c) A outer s H0 E).nox (lBody.drop 3) tR) :
    ∃ t, PSs (cxOf CX0 P w K mg base LawN "law" (defScope sLaw) f (.ref c) A outer s H0 E).nox lBody t ∧ ∀ (D' : Ends) (H : Hp) (r a : Addr) (x0 x1 x2 x3 x4 x5 x6 x7 x8 x9 x10 x12 x13 : Option V), LI K PT r a H →
      (∀ H' z x2 x3 x4, LI K PT r a H' → isAns z = true → tR D' [x0, x1, x2, x3, x4, some (.str z), x6, x7, x8, x9, x10, some (.ref r), x12, x13] H') →
      t D' [x0, x1, x2, x3, x4, x5, x6, x7, x8, x9, x10, some (.ref r), x12, x13] H := by
  have r1 : Room 1 _ := hr.mono (by decide)
  have r3 : Room 3 _ := hr.mono (by decide)
  refine ⟨_, pss_cons (ps_par3 (i := 2) (j := 3) (l := 4) (by rfl) nd rfl rfl rfl (by decide) (by decide) (by decide) rfl rfl rfl (pa_cons (pe_def L.dT r1 rfl (pa_cons (pv 11) (pa_cons pe_int pa_nil))) (pa_cons (pe_def L.dT r1 rfl (pa_cons (pv 11) (pa_cons pe_int pa_nil))) (pa_cons (pe_op op_add pe_int (pe_def L.dT r1 rfl (pa_cons (pv 11) (pa_cons pe_int pa_nil)))) pa_nil))) (by rfl))
    (pss_cons (ps_set (i := 5) nd rfl (Or.inl rfl) (pe_ix ix_list (pe_lst (pa_cons pe_str (pa_cons pe_str pa_nil))) (pe_def L.dT r1 rfl (pa_cons (pv 11) (pa_cons pe_int pa_nil))) (fun _ _ => rfl)))
    (pss_cons (ps_if (pt_cmpR (op_neD hr.units) (pe_defX L.dD r3 rfl passL (pa_cons (pv 2) (pa_cons (pv 3) (pa_cons (pv 4) (pa_cons (pv 5) pa_nil))))) (pe_def L.dO r1 rfl (pa_cons (pv 2) (pa_cons (pv 3) (pa_cons (pv 4) (pa_cons (pv 5) pa_nil))))) (nomark _)) (pss_one (ps_ret pe_bl)) pss_nil) hR)), ?_⟩
  intro D' H r a x0 x1 x2 x3 x4 x5 x6 x7 x8 x9 x10 x12 x13 hI k
  refine ⟨_, rfl, r, _, a, rfl, hI.row, by decide, by decide, fun n o n0 n1 R => ?_⟩
  have I1 := hI.dr (Dr.draw R)
  generalize upd H r o = H1 at I1 ⊢
  refine ⟨_, rfl, r, _, a, rfl, I1.row, by decide, by decide, fun p o p0 p1 R => ?_⟩
  have I2 := I1.dr (Dr.draw R)
  generalize upd H1 r o = H2 at I2 ⊢
  refine ⟨_, rfl, r, _, a, rfl, I2.row, by decide, by decide, fun v o v0 v1 R => ⟨_, _, rfl, rfl, _, _, _, rfl, ?_⟩⟩
  have I3 := I2.dr (Dr.draw R)
  generalize upd H2 r o = H3 at I3 ⊢
  refine ⟨two_le, fun l nl => ?_⟩
  have s4 := Same.upd_new (o := .lst (ANS.map V.str)) nl
  have I4 := I3.same s4
  have nlr := I3.row.ne nl
  refine ⟨_, rfl, r, _, a, rfl, I4.row, by decide, by decide, fun u o u0 u1 R => ?_⟩
  have d5 := Dr.draw R
  have g5 := d5.sb _ _ nlr (upd_same (a := l) (o := .lst (ANS.map V.str)))
  have I5 := I4.dr d5
  generalize upd (upd H3 l (.lst [.str "keep", .str "take"])) r o = H5 at g5 I5 ⊢
  obtain ⟨z, hz, hzn⟩ : ∃ z, atI (ANS.map V.str) u = some (.str z) ∧ isAns z = true := by
    have : u = 0 ∨ u = 1 := by omega
    rcases this with rfl | rfl
    · exact ⟨_, rfl, by decide +kernel⟩
    · exact ⟨_, rfl, by decide +kernel⟩
  refine ⟨l, _, u, _, rfl, rfl, SqL.of g5, hz, ?_⟩
  have rg : (inR (.int n) 0 99 && inR (.int p) 0 99 && inR (.int (1 + v)) 1 99) = true := by
    show ((decide (0 ≤ n) && decide (n ≤ 99)) && (decide (0 ≤ p) && decide (p ≤ 99)) && (decide (1 ≤ 1 + v) && decide (1 + v ≤ 99))) = true
    rw [decide_eq_true (by omega), decide_eq_true (by omega), decide_eq_true (by omega), decide_eq_true (by omega), decide_eq_true (by omega), decide_eq_true (by omega)]
    rfl
  refine ⟨_, rfl, _, rfl, _, rfl, _, rfl, .int n, .int p, .int (1 + v), z, rfl, .inl ⟨_, rfl⟩, .inl ⟨_, rfl⟩, .inl ⟨_, rfl⟩, fun n' p' w' e1 e2 e3 _ H6 t6 s6 nt6 ht6 => ?_, fun y => (by rw [rg] at y; cases y), fun _ y => (by rw [hzn] at y; cases y)⟩
  cases e1
  cases e2
  cases e3
  refine ⟨_, rfl, _, rfl, _, rfl, _, rfl, n, p, 1 + v, z, rfl, fun H7 t7 s7 nt7 ht7 => ?_⟩
  refine ⟨_, _, .tup (SqT.of (s7 _ _ ht6)) (.cons (.int _) (.cons (.bl _) .nil)), .tup (SqT.of ht7) (.cons (.int _) (.cons (.bl _) .nil)), one_shaped _, one_shaped _, _, rfl, ?_⟩
  refine ite_no (by rw [one_eqv]; rfl) ?_
  exact k _ z _ _ _ ((I5.same s6).same s7) hzn
def spLaw (K : PySem.W.Frag) (PT : Addr) : Sp := fun vs H Q _ => ∃ (a : Addr) (ns : List Int), vs = [.ref a] ∧ SqL K H a (ns.map V.int) ∧ ns.length ≤ 63 ∧ H PT = some (.tbl #[]) ∧ ∀ H', Q (.bl true) H'
theorem ok_law {f c PT : Addr} {oc kV doc pm ct : Value} {od an : Option Addr} {osl : Array (Option Value)} (lk : K.lookup f = some ⟨oc, od, .func (PySem.W.fnOf "law" "law" (defArgs sLaw) (defBody sLaw) (defScope sLaw) .none kV doc pm an (.ref c) ct), osl⟩) (hcd : PySem.W.codeIn K (.ref c) "law" = true)
    (L : LawD P w K mg base CN CA) (R : WordF K mg) (TB : TabB base mg c PT) :
    FnOk P w K mg base CX0 8 f (PySem.W.fnOf "law" "law" (defArgs sLaw) (defBody sLaw) (defScope sLaw) .none kV doc pm an (.ref c) ct) ["_law_script"] (spLaw K PT) := by
  refine fn_of lk hcd scLaw (fun vs H Q E h => ?_) (fun A outer s H vs Q E hr h => ?_)
  · obtain ⟨a, ns, rfl, _⟩ := h
    rfl
  · obtain ⟨a, ns, rfl, hS, hlen, hPT, k⟩ := h
    have nd := scLaw.nd
    obtain ⟨tJ, hJ, rdJ⟩ := law_j (f := f) (A := A) (outer := outer) (s := s) (H0 := H) (E := E) L R TB hr nd
    obtain ⟨tI, hI, rdI⟩ := law_i (A := A) (outer := outer) (s := s) (H0 := H) (E := E) L R TB hr nd hJ
    obtain ⟨tH, hH, rdH⟩ := law_h (PT := PT) (A := A) (outer := outer) (s := s) (H0 := H) (E := E) L hr nd hI
    obtain ⟨tG, hG, rdG⟩ := law_g (PT := PT) (A := A) (outer := outer) (s := s) (H0 := H) (E := E) L hr nd hH
    refine ⟨_, (pss_cons (ps_set (i := 11) nd rfl (Or.inr rfl) (pe_lst (pa_cons (pv 0) (pa_cons pe_int (pa_cons pe_int (pa_cons pe_int pa_nil))))))
      (pss_cons (ps_for PassesOwn.never rfl (pi_range1 (by rfl) L.T.ran (pa_cons pe_int pa_nil)) (pg_name (i := 1) nd rfl (Or.inl rfl)) hG)
      (pss_one (ps_ret pe_bl)))).nox, ?_⟩
    refine ⟨_, rfl, (by show 4 ≤ sizeLine; decide), fun r nr => ?_⟩
    have s1 := Same.upd_new (o := .lst [.ref a, .int 0, .int 0, .int 0]) nr
    have I1 : LI K PT r a (upd H r (.lst [.ref a, .int 0, .int 0, .int 0])) := ⟨⟨ns, 0, 0, 0, upd_same, s1.seq hS, hlen, Int.le_refl 0⟩, fun p hp => by
      rw [List.mem_singleton.mp hp]
      exact TabS.nil (s1 _ _ hPT)⟩
    generalize upd H r (.lst [.ref a, .int 0, .int 0, .int 0]) = H1 at I1 ⊢
    refine ⟨6, rfl, by decide, by decide, ?_⟩
    refine for_it walk_range (fun i σ H' => ∃ x1 x2 x3 x4 x5 x6 x7 x8 x9 x10 x12 x13, LI K PT r a H' ∧ σ = [some (.ref a), x1, x2, x3, x4, x5, x6, x7, x8, x9, x10, some (.ref r), x12, x13]) ⟨none, none, none, none, none, none, none, none, none, none, none, none, I1, rfl⟩ (fun _ _ _ _ _ => trivial) ?_ ?_
    · rintro i x σ H2 H3 hi ⟨x1, x2, x3, x4, x5, x6, x7, x8, x9, x10, x12, x13, I2, rfl⟩ ⟨rfl, rfl⟩
      refine rdG _ _ r a _ _ _ _ _ _ _ _ _ _ _ _ _ I2 fun H4 z y2 y3 y4 I4 hz => ?_
      refine rdH _ _ r a z _ _ _ _ _ _ _ _ _ _ _ _ I4 hz fun H5 z2 z3 z6 z7 z8 z9 z10 I5 => ?_
      refine rdI _ _ r a _ _ _ _ _ _ _ _ _ _ _ _ _ I5 fun H6 u12 I6 => ?_
      refine rdJ _ _ r a _ _ _ _ _ _ _ _ _ _ _ _ _ I6 fun H7 u13 I7 => ?_
      exact ⟨_, _, _, _, _, _, _, _, _, _, _, _, I7, rfl⟩
    · rintro σ H2 ⟨x1, x2, x3, x4, x5, x6, x7, x8, x9, x10, x12, x13, I2, rfl⟩
      exact k H2
end
end Half

namespace Half
open PySem PySem.Spec PyProof.Rows L2 LamX
theorem all_mk {l : PySem.W.OpenLaw} {w : World} {K : PySem.W.Frag} {h : Heap} {mg : Str → Option Value} {fa PT : Addr} (X : K.In h) (G : h.Ns mainGlobals mg) (hfa : mg "law" = some (.ref fa)) (hTab : h.get? PT = some (PySem.W.tabObj #[]))
    {f_numb : Addr} {oc_numb kV_numb dc_numb pm_numb cd_numb ct_numb : Value} {od_numb an_numb : Option Addr} {sl_numb : Array (Option Value)}
    {f_cc : Addr} {oc_cc kV_cc dc_cc pm_cc cd_cc ct_cc : Value} {od_cc an_cc : Option Addr} {sl_cc : Array (Option Value)}
    {f_ca : Addr} {oc_ca kV_ca dc_ca pm_ca cd_ca ct_ca : Value} {od_ca an_ca : Option Addr} {sl_ca : Array (Option Value)}
    {f_co : Addr} {oc_co kV_co dc_co pm_co cd_co ct_co : Value} {od_co an_co : Option Addr} {sl_co : Array (Option Value)}
    {f_se : Addr} {oc_se kV_se dc_se pm_se cd_se ct_se : Value} {od_se an_se : Option Addr} {sl_se : Array (Option Value)}
    {f_sd : Addr} {oc_sd kV_sd dc_sd pm_sd cd_sd ct_sd : Value} {od_sd an_sd : Option Addr} {sl_sd : Array (Option Value)}
    {f_sa : Addr} {oc_sa kV_sa dc_sa pm_sa cd_sa ct_sa : Value} {od_sa an_sa : Option Addr} {sl_sa : Array (Option Value)}
    {f_fa : Addr} {oc_fa kV_fa dc_fa pm_fa cd_fa ct_fa : Value} {od_fa an_fa : Option Addr} {sl_fa : Array (Option Value)}
    {f_take : Addr} {oc_take kV_take dc_take pm_take cd_take ct_take : Value} {od_take an_take : Option Addr} {sl_take : Array (Option Value)}
    {f_one : Addr} {oc_one kV_one dc_one pm_one cd_one ct_one : Value} {od_one an_one : Option Addr} {sl_one : Array (Option Value)}
    {f_wd : Addr} {oc_wd kV_wd dc_wd pm_wd cd_wd ct_wd : Value} {od_wd an_wd : Option Addr} {sl_wd : Array (Option Value)}
    {f_law cLaw : Addr} {oc_law kV_law dc_law pm_law ct_law : Value} {od_law an_law : Option Addr} {sl_law : Array (Option Value)}
    {CN : Addr}
    {CA : Addr}
    {t_mc : Tok}
    {t_mv : Tok}
    {aA : Addr} {ddA : Option Addr} {b0 b1 : Tok} {nA : Nat} {slA : Array (Option Value)}
    (n_int : PySem.W.nsIn K mainGlobals "int" = some none)
    (n_len : PySem.W.nsIn K mainGlobals "len" = some none)
    (n_isinstance : PySem.W.nsIn K mainGlobals "isinstance" = some none)
    (n_bool : PySem.W.nsIn K mainGlobals "bool" = some none)
    (n_range : PySem.W.nsIn K mainGlobals "range" = some none)
    (n_enumerate : PySem.W.nsIn K mainGlobals "enumerate" = some none)
    (a_numb : PySem.W.nsIn K mainGlobals "is_number" = some (some (.ref f_numb)))
    (l_numb : K.lookup f_numb = some ⟨oc_numb, od_numb, .func (PySem.W.fnOf "is_number" "is_number" (defArgs sNumber) (defBody sNumber) (defScope sNumber) .none kV_numb dc_numb pm_numb an_numb cd_numb ct_numb), sl_numb⟩)
    (c_numb : PySem.W.codeIn K cd_numb "is_number" = true)
    (k_numb : PySem.W.keepIn K (.ref f_numb) = true)
    (a_cc : PySem.W.nsIn K mainGlobals "check_content" = some (some (.ref f_cc)))
    (l_cc : K.lookup f_cc = some ⟨oc_cc, od_cc, .func (PySem.W.fnOf "check_content" "check_content" (defArgs sCc) (defBody sCc) (defScope sCc) .none kV_cc dc_cc pm_cc an_cc cd_cc ct_cc), sl_cc⟩)
    (c_cc : PySem.W.codeIn K cd_cc "check_content" = true)
    (k_cc : PySem.W.keepIn K (.ref f_cc) = true)
    (a_ca : PySem.W.nsIn K mainGlobals "check_answer" = some (some (.ref f_ca)))
    (l_ca : K.lookup f_ca = some ⟨oc_ca, od_ca, .func (PySem.W.fnOf "check_answer" "check_answer" (defArgs sCa) (defBody sCa) (defScope sCa) .none kV_ca dc_ca pm_ca an_ca cd_ca ct_ca), sl_ca⟩)
    (c_ca : PySem.W.codeIn K cd_ca "check_answer" = true)
    (k_ca : PySem.W.keepIn K (.ref f_ca) = true)
    (a_co : PySem.W.nsIn K mainGlobals "check_course" = some (some (.ref f_co)))
    (l_co : K.lookup f_co = some ⟨oc_co, od_co, .func (PySem.W.fnOf "check_course" "check_course" (defArgs sCo) (defBody sCo) (defScope sCo) .none kV_co dc_co pm_co an_co cd_co ct_co), sl_co⟩)
    (c_co : PySem.W.codeIn K cd_co "check_course" = true)
    (k_co : PySem.W.keepIn K (.ref f_co) = true)
    (a_se : PySem.W.nsIn K mainGlobals "settle" = some (some (.ref f_se)))
    (l_se : K.lookup f_se = some ⟨oc_se, od_se, .func (PySem.W.fnOf "settle" "settle" (defArgs sSe) (defBody sSe) (defScope sSe) .none kV_se dc_se pm_se an_se cd_se ct_se), sl_se⟩)
    (c_se : PySem.W.codeIn K cd_se "settle" = true)
    (k_se : PySem.W.keepIn K (.ref f_se) = true)
    (a_sd : PySem.W.nsIn K mainGlobals "settled" = some (some (.ref f_sd)))
    (l_sd : K.lookup f_sd = some ⟨oc_sd, od_sd, .func (PySem.W.fnOf "settled" "settled" (defArgs sSd) (defBody sSd) (defScope sSd) .none kV_sd dc_sd pm_sd an_sd cd_sd ct_sd), sl_sd⟩)
    (c_sd : PySem.W.codeIn K cd_sd "settled" = true)
    (k_sd : PySem.W.keepIn K (.ref f_sd) = true)
    (a_sa : PySem.W.nsIn K mainGlobals "settled_all" = some (some (.ref f_sa)))
    (l_sa : K.lookup f_sa = some ⟨oc_sa, od_sa, .func (PySem.W.fnOf "settled_all" "settled_all" (defArgs sSa) (defBody sSa) (defScope sSa) .none kV_sa dc_sa pm_sa an_sa cd_sa ct_sa), sl_sa⟩)
    (c_sa : PySem.W.codeIn K cd_sa "settled_all" = true)
    (k_sa : PySem.W.keepIn K (.ref f_sa) = true)
    (a_fa : PySem.W.nsIn K mainGlobals "fewest_asked" = some (some (.ref f_fa)))
    (l_fa : K.lookup f_fa = some ⟨oc_fa, od_fa, .func (PySem.W.fnOf "fewest_asked" "fewest_asked" (defArgs sFa) (defBody sFa) (defScope sFa) .none kV_fa dc_fa pm_fa an_fa cd_fa ct_fa), sl_fa⟩)
    (c_fa : PySem.W.codeIn K cd_fa "fewest_asked" = true)
    (k_fa : PySem.W.keepIn K (.ref f_fa) = true)
    (a_take : PySem.W.nsIn K mainGlobals "_law_taken" = some (some (.ref f_take)))
    (l_take : K.lookup f_take = some ⟨oc_take, od_take, .func (PySem.W.fnOf "_law_taken" "_law_taken" (defArgs sTaken) (defBody sTaken) (defScope sTaken) .none kV_take dc_take pm_take an_take cd_take ct_take), sl_take⟩)
    (c_take : PySem.W.codeIn K cd_take "_law_taken" = true)
    (k_take : PySem.W.keepIn K (.ref f_take) = true)
    (a_one : PySem.W.nsIn K mainGlobals "_law_one" = some (some (.ref f_one)))
    (l_one : K.lookup f_one = some ⟨oc_one, od_one, .func (PySem.W.fnOf "_law_one" "_law_one" (defArgs sOne) (defBody sOne) (defScope sOne) .none kV_one dc_one pm_one an_one cd_one ct_one), sl_one⟩)
    (c_one : PySem.W.codeIn K cd_one "_law_one" = true)
    (k_one : PySem.W.keepIn K (.ref f_one) = true)
    (a_wd : PySem.W.nsIn K mainGlobals "_law_word" = some (some (.ref f_wd)))
    (l_wd : K.lookup f_wd = some ⟨oc_wd, od_wd, .func (PySem.W.fnOf "_law_word" "_law_word" (defArgs sWd) (defBody sWd) (defScope sWd) .none kV_wd dc_wd pm_wd an_wd cd_wd ct_wd), sl_wd⟩)
    (c_wd : PySem.W.codeIn K cd_wd "_law_word" = true)
    (k_wd : PySem.W.keepIn K (.ref f_wd) = true)
    (a_law : PySem.W.nsIn K mainGlobals "law" = some (some (.ref f_law)))
    (l_law : K.lookup f_law = some ⟨oc_law, od_law, .func (PySem.W.fnOf "law" "law" (defArgs sLaw) (defBody sLaw) (defScope sLaw) .none kV_law dc_law pm_law an_law (.ref cLaw) ct_law), sl_law⟩)
    (c_law : PySem.W.codeIn K (.ref cLaw) "law" = true)
    (k_law : PySem.W.keepIn K (.ref f_law) = true)
    (g_CN : PySem.W.nsIn K mainGlobals "InvalidNumber" = some (some (.ref CN)))
    (g_CA : PySem.W.nsIn K mainGlobals "InvalidAnswer" = some (some (.ref CA)))
    (exi_CN : PySem.W.excIn K CN [.type "ValueError", .type "Exception", .type "BaseException", .type "object"] "ValueError.__new__" = true)
    (ekc_CN : PySem.W.keepIn K (.ref CN) = true)
    (eb_CN : PySem.W.subIn K (.ref CN) (.type "BaseException") = some true)
    (et_CN : PySem.W.typeIn K (.ref CN) = some (.type "type"))
    (exi_CA : PySem.W.excIn K CA [.type "ValueError", .type "Exception", .type "BaseException", .type "object"] "ValueError.__new__" = true)
    (ekc_CA : PySem.W.keepIn K (.ref CA) = true)
    (eb_CA : PySem.W.subIn K (.ref CA) (.type "BaseException") = some true)
    (et_CA : PySem.W.typeIn K (.ref CA) = some (.type "type"))
    (hx_CN : PySem.W.hasDictIn K CN = true)
    (hx_CA : PySem.W.hasDictIn K CA = true)
    (s_nn : PySem.W.subIn K (.ref CN) (.ref CN) = some true)
    (s_an : PySem.W.subIn K (.ref CA) (.ref CN) = some false)
    (s_aa : PySem.W.subIn K (.ref CA) (.ref CA) = some true)
    (v_mc : PySem.W.nsIn K mainGlobals "MOST_CONTENT" = some (some (.int 99 t_mc)))
    (v_mv : PySem.W.nsIn K mainGlobals "MOST_VERSIONS" = some (some (.int 12 t_mv)))
    (v_ans : PySem.W.nsIn K mainGlobals "ANSWERS" = some (some (.ref aA)))
    (t_A : K.lookup aA = some ⟨.type "tuple", ddA, .seq #[.str "keep" b0, .str "take" b1] nA, slA⟩)
    (nT : K.lookup PT = none)
    (hH : PySem.W.codeHdIn K cLaw PT = true)
    : LawAtS l w K CX0 8 63 "_law_script" mg fa h := by
  have e := hfa.symm.trans (PySem.W.mg_of X G a_law)
  cases e
  have none_ : ∀ {x : Str}, PySem.W.nsIn K mainGlobals x = some none → mg x = none := fun h => PySem.W.mg_none_of X G h
  have F_numb := fun_mk (st := sNumber) l_numb c_numb k_numb
  have B_numb := F_numb.binds (ps := ["value", "least", "most"]) fun _ _ _ _ _ _ us hl => match us, hl with | [_, _, _], _ => rfl
  have F_cc := fun_mk (st := sCc) l_cc c_cc k_cc
  have B_cc := F_cc.binds (ps := ["content", "least"]) fun _ _ _ _ _ _ us hl => match us, hl with | [_, _], _ => rfl
  have F_ca := fun_mk (st := sCa) l_ca c_ca k_ca
  have B_ca := F_ca.binds (ps := ["answer"]) fun _ _ _ _ _ _ us hl => match us, hl with | [_], _ => rfl
  have F_co := fun_mk (st := sCo) l_co c_co k_co
  have B_co := F_co.binds (ps := ["contents", "edits"]) fun _ _ _ _ _ _ us hl => match us, hl with | [_, _], _ => rfl
  have F_se := fun_mk (st := sSe) l_se c_se k_se
  have B_se := F_se.binds (ps := ["noted", "present", "new", "answer"]) fun _ _ _ _ _ _ us hl => match us, hl with | [_, _, _, _], _ => rfl
  have F_sd := fun_mk (st := sSd) l_sd c_sd k_sd
  have B_sd := F_sd.binds (ps := ["noted", "present", "new", "answer"]) fun _ _ _ _ _ _ us hl => match us, hl with | [_, _, _, _], _ => rfl
  have F_sa := fun_mk (st := sSa) l_sa c_sa k_sa
  have B_sa := F_sa.binds (ps := ["contents", "edits", "answer"]) fun _ _ _ _ _ _ us hl => match us, hl with | [_, _, _], _ => rfl
  have F_fa := fun_mk (st := sFa) l_fa c_fa k_fa
  have B_fa := F_fa.binds (ps := ["contents", "edits"]) fun _ _ _ _ _ _ us hl => match us, hl with | [_, _], _ => rfl
  have F_take := fun_mk (st := sTaken) l_take c_take k_take
  have B_take := F_take.binds (ps := ["_law_row", "_law_many"]) fun _ _ _ _ _ _ us hl => match us, hl with | [_, _], _ => rfl
  have F_one := fun_mk (st := sOne) l_one c_one k_one
  have B_one := F_one.binds (ps := ["_law_noted", "_law_present", "_law_new", "_law_answer"]) fun _ _ _ _ _ _ us hl => match us, hl with | [_, _, _, _], _ => rfl
  have EC_CN : ErrC K mg "InvalidNumber" CN := ⟨PySem.W.mg_of X G g_CN, exi_CN, ekc_CN, eb_CN, et_CN⟩
  have EC_CA : ErrC K mg "InvalidAnswer" CA := ⟨PySem.W.mg_of X G g_CA, exi_CA, ekc_CA, eb_CA, et_CA⟩
  have tA : ∀ H, SqT K H aA (ANS.map V.str) := fun H => .inr ⟨_, _, _, t_A, rfl, rfl, (by decide : 2 ≤ sizeLine), .cons ⟨_, rfl⟩ (.cons ⟨_, rfl⟩ .nil)⟩
  have TD0 : TxtD mg := ⟨none_ n_int, none_ n_len⟩
  have T : TxtS K mg CN CA := ⟨none_ n_int, none_ n_len, none_ n_isinstance, none_ n_bool, none_ n_range, none_ n_enumerate, ⟨_, PySem.W.mg_of X G v_mc⟩, ⟨_, PySem.W.mg_of X G v_mv⟩, ⟨_, PySem.W.mg_of X G v_ans, tA⟩, EC_CN, EC_CA⟩
  have WT : WordT K mg CN CA := ⟨PySem.W.mg_of X G g_CN, PySem.W.mg_of X G g_CA, PySem.W.exm_ref eb_CN hx_CN et_CN s_nn, PySem.W.exm_ref eb_CN hx_CN et_CN s_an, PySem.W.exm_ref eb_CA hx_CA et_CA s_aa⟩
  have RF : WordF K mg := ⟨_, _, _, _, _, _, _, _, _, _, _, PySem.W.mg_of X G a_wd, k_wd, l_wd, c_wd, Binds.all fun us hl => match us, hl with | [_], _ => rfl⟩
  refine ⟨PySem.W.fnOf "law" "law" (defArgs sLaw) (defBody sLaw) (defScope sLaw) .none kV_law dc_law pm_law an_law (.ref cLaw) ct_law, [(cLaw, PT)], spLaw K PT, fun p hp => ?_, fun p hp => ?_, fun p hp => ?_, fun s v => .of_eq rfl, fun H a ns hl _ hT hS => ⟨a, ns, rfl, hS, hl, hT (cLaw, PT) (List.mem_cons_self ..), fun _ => rfl⟩, fun base KB GB TB => ?_⟩
  · rw [List.mem_singleton.mp hp]; exact hTab
  · rw [List.mem_singleton.mp hp]; exact nT
  · rw [List.mem_singleton.mp hp]; exact PySem.W.codeHd_of_K X hH
  · have dN : Def l.prog w K mg base 1 "is_number" _ spNumber := ⟨_, _, ok_number F_numb T, PySem.W.mg_of X G a_numb, k_numb, B_numb⟩
    have dCc : DefX l.prog w K mg base 2 "check_content" _ (spCc CN) := ⟨_, _, ok_cc F_cc T dN, PySem.W.mg_of X G a_cc, k_cc, B_cc⟩
    have dCa : DefX l.prog w K mg base 1 "check_answer" _ (spCa CA) := ⟨_, _, ok_ca F_ca T, PySem.W.mg_of X G a_ca, k_ca, B_ca⟩
    have dCo : DefX l.prog w K mg base 3 "check_course" _ (spCo K CN) := ⟨_, _, ok_co F_co T dN dCc, PySem.W.mg_of X G a_co, k_co, B_co⟩
    have dSe : Def l.prog w K mg base 1 "settle" _ spSe := ⟨_, _, ok_se F_se, PySem.W.mg_of X G a_se, k_se, B_se⟩
    have dSd : DefX l.prog w K mg base 3 "settled" _ (spSd CN CA) := ⟨_, _, ok_sd F_sd dCc dCa dSe, PySem.W.mg_of X G a_sd, k_sd, B_sd⟩
    have dSa : DefX l.prog w K mg base 4 "settled_all" _ (spSa K CN CA) := ⟨_, _, ok_sa F_sa T dCo dCa dSe, PySem.W.mg_of X G a_sa, k_sa, B_sa⟩
    have dFa : DefX l.prog w K mg base 4 "fewest_asked" _ (spFa K CN) := ⟨_, _, ok_fa F_fa dCo, PySem.W.mg_of X G a_fa, k_fa, B_fa⟩
    have dT : Def l.prog w K mg base 1 "_law_taken" _ (spTaken K) := ⟨_, _, ok_taken F_take TD0, PySem.W.mg_of X G a_take, k_take, B_take⟩
    have dO : Def l.prog w K mg base 1 "_law_one" _ spSe := ⟨_, _, ok_one F_one, PySem.W.mg_of X G a_one, k_one, B_one⟩
    exact ok_law l_law c_law ⟨T, dT, dO, dSd, dSa, dFa, WT⟩ RF (TB (cLaw, PT) (List.mem_cons_self ..))
end Half

open PySem PySem.W PyProof.Rows
set_option maxRecDepth 100000 in
set_option maxHeartbeats 0 in
theorem PySem.Challenge.cw_halfsetup_k36_settled_by_the_rules_holds : PySem.Challenge.rw_halfsetup_k36_settled_by_the_rules.Holds := by
  w_on; o_law; k_head; (case hw => w_witness2)
  k_fill
  refine LamX.walk_ofTs (l := PySem.Challenge.rw_halfsetup_k36_settled_by_the_rules) (n := 63) (k := 8) (x := "_law_script") (CX := fun _ => L2.CX0) rfl (by decide) rfl ⟨rfl, by decide, by decide⟩ (fun w h Y => PySem.W.km_in_of Y) ?F (fun _ _ _ _ _ z => z)
  case F =>
    intro w mg fa h Y KX G hmg
    refine' Half.all_mk KX G hmg (PySem.W.km_tabs_of Y _ (List.mem_cons_self ..)) ?n_int ?n_len ?n_isinstance ?n_bool ?n_range ?n_enumerate ?a_numb ?l_numb ?c_numb ?k_numb ?a_cc ?l_cc ?c_cc ?k_cc ?a_ca ?l_ca ?c_ca ?k_ca ?a_co ?l_co ?c_co ?k_co ?a_se ?l_se ?c_se ?k_se ?a_sd ?l_sd ?c_sd ?k_sd ?a_sa ?l_sa ?c_sa ?k_sa ?a_fa ?l_fa ?c_fa ?k_fa ?a_take ?l_take ?c_take ?k_take ?a_one ?l_one ?c_one ?k_one ?a_wd ?l_wd ?c_wd ?k_wd ?a_law ?l_law ?c_law ?k_law ?g_CN ?g_CA ?exi_CN ?ekc_CN ?eb_CN ?et_CN ?exi_CA ?ekc_CA ?eb_CA ?et_CA ?hx_CN ?hx_CA ?s_nn ?s_an ?s_aa ?v_mc ?v_mv ?v_ans ?t_A ?nT ?hH
    (case n_int => k_is)
    (case n_len => k_is)
    (case n_isinstance => k_is)
    (case n_bool => k_is)
    (case n_range => k_is)
    (case n_enumerate => k_is)
    (case a_numb => k_is)
    (case l_numb => k_is)
    (case c_numb => k_is)
    (case k_numb => k_is)
    (case a_cc => k_is)
    (case l_cc => k_is)
    (case c_cc => k_is)
    (case k_cc => k_is)
    (case a_ca => k_is)
    (case l_ca => k_is)
    (case c_ca => k_is)
    (case k_ca => k_is)
    (case a_co => k_is)
    (case l_co => k_is)
    (case c_co => k_is)
    (case k_co => k_is)
    (case a_se => k_is)
    (case l_se => k_is)
    (case c_se => k_is)
    (case k_se => k_is)
    (case a_sd => k_is)
    (case l_sd => k_is)
    (case c_sd => k_is)
    (case k_sd => k_is)
    (case a_sa => k_is)
    (case l_sa => k_is)
    (case c_sa => k_is)
    (case k_sa => k_is)
    (case a_fa => k_is)
    (case l_fa => k_is)
    (case c_fa => k_is)
    (case k_fa => k_is)
    (case a_take => k_is)
    (case l_take => k_is)
    (case c_take => k_is)
    (case k_take => k_is)
    (case a_one => k_is)
    (case l_one => k_is)
    (case c_one => k_is)
    (case k_one => k_is)
    (case a_wd => k_is)
    (case l_wd => k_is)
    (case c_wd => k_is)
    (case k_wd => k_is)
    (case a_law => k_is)
    (case l_law => k_is)
    (case c_law => k_is)
    (case k_law => k_is)
    (case g_CN => k_is)
    (case g_CA => k_is)
    (case exi_CN => kernel_rfl)
    (case ekc_CN => k_is)
    (case eb_CN => k_is)
    (case et_CN => k_is)
    (case exi_CA => kernel_rfl)
    (case ekc_CA => k_is)
    (case eb_CA => k_is)
    (case et_CA => k_is)
    (case hx_CN => k_is)
    (case hx_CA => k_is)
    (case s_nn => k_is)
    (case s_an => k_is)
    (case s_aa => k_is)
    (case v_mc => k_is)
    (case v_mv => k_is)
    (case v_ans => k_is)
    (case t_A => k_is)
    (case nT => kernel_rfl)
    (case hH => kernel_rfl)
