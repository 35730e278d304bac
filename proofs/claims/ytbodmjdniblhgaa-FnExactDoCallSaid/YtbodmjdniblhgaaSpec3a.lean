/-
  The model's CallFault and EventFault, for every call and event. No conditions.
-/
import Derived.Test.YtbodmjdniblhgaaMath3
import Derived.Test.YtbodmjdniblhgaaAcc2
namespace Go.Proofs.Ytbodmjdniblhgaa
open Go.RowKit

theorem specCallFault_any (k e s t : Int) (w : World) :
    Calls Try.prog 18 #[.agg #[.int .i64 k, .int .i64 e, .int .i64 s, .int .i64 t]] w fun r w' => r = .returned (.int .i64 (cf k e s t)) ∧ Below w.heap.size w w' := by
  have B1 := Lib.hid (below_new w (.cells #[.int .i64 k, .int .i64 e, .int .i64 s, .int .i64 t] 38))
  have i0 : inEnv 0 = true := by decide
  have r0 : inR 0 11 0 = true := by decide
  by_cases h1 : k = 1
  case pos =>
    subst h1
    by_cases hs : s = 0
    case neg =>
      have hsa : (s == 0) = false := by simp [hs]
      have hsb : (s != 0) = true := by simp [hs]
      have HV : Hid (1 = cf 1 e s t) := by show _ = _; simp [cf, hs]
      clear hs
      go_enter Try.func18, Try.ntmps18
      go_wp2_with (first | (go_at_call 42; refine (l1Env_any _ _).mono ?_; rintro e9 w9 ⟨rfl, rfl⟩) | (go_at_call 41; refine (l1In_any _ _ _ _).mono ?_; rintro e9 w9 ⟨rfl, rfl⟩))
      go_ret
      exact ⟨ret_i64 (HV.out), B1.out⟩
    subst hs
    by_cases ht : t = 0
    case neg =>
      have hta : (t == 0) = false := by simp [ht]
      have htb : (t != 0) = true := by simp [ht]
      have HV : Hid (1 = cf 1 e 0 t) := by show _ = _; simp [cf, ht]
      clear ht
      go_enter Try.func18, Try.ntmps18
      go_wp2_with (first | (go_at_call 42; refine (l1Env_any _ _).mono ?_; rintro e9 w9 ⟨rfl, rfl⟩) | (go_at_call 41; refine (l1In_any _ _ _ _).mono ?_; rintro e9 w9 ⟨rfl, rfl⟩))
      go_ret
      exact ⟨ret_i64 (HV.out), B1.out⟩
    subst ht
    cases he : inEnv e
    ·
      have HV : Hid (3 = cf 1 e 0 0) := by show _ = _; simp [cf, cr, he, i0, r0]
      go_enter Try.func18, Try.ntmps18
      go_wp2_with (first | (go_at_call 42; refine (l1Env_any _ _).mono ?_; rintro e9 w9 ⟨rfl, rfl⟩) | (go_at_call 41; refine (l1In_any _ _ _ _).mono ?_; rintro e9 w9 ⟨rfl, rfl⟩))
      go_ret
      exact ⟨ret_i64 (HV.out), B1.out⟩
    ·
      have HV : Hid (0 = cf 1 e 0 0) := by show _ = _; simp [cf, cr, he, i0, r0]
      go_enter Try.func18, Try.ntmps18
      go_wp2_with (first | (go_at_call 42; refine (l1Env_any _ _).mono ?_; rintro e9 w9 ⟨rfl, rfl⟩) | (go_at_call 41; refine (l1In_any _ _ _ _).mono ?_; rintro e9 w9 ⟨rfl, rfl⟩))
      go_ret
      exact ⟨ret_i64 (HV.out), B1.out⟩
  by_cases h2 : k = 2
  case pos =>
    subst h2
    by_cases hs : s = 0
    case neg =>
      have hsa : (s == 0) = false := by simp [hs]
      have hsb : (s != 0) = true := by simp [hs]
      have HV : Hid (1 = cf 2 e s t) := by show _ = _; simp [cf, hs]
      clear hs
      go_enter Try.func18, Try.ntmps18
      go_wp2_with (first | (go_at_call 42; refine (l1Env_any _ _).mono ?_; rintro e9 w9 ⟨rfl, rfl⟩) | (go_at_call 41; refine (l1In_any _ _ _ _).mono ?_; rintro e9 w9 ⟨rfl, rfl⟩))
      go_ret
      exact ⟨ret_i64 (HV.out), B1.out⟩
    subst hs
    by_cases ht : t = 0
    case neg =>
      have hta : (t == 0) = false := by simp [ht]
      have htb : (t != 0) = true := by simp [ht]
      have HV : Hid (1 = cf 2 e 0 t) := by show _ = _; simp [cf, ht]
      clear ht
      go_enter Try.func18, Try.ntmps18
      go_wp2_with (first | (go_at_call 42; refine (l1Env_any _ _).mono ?_; rintro e9 w9 ⟨rfl, rfl⟩) | (go_at_call 41; refine (l1In_any _ _ _ _).mono ?_; rintro e9 w9 ⟨rfl, rfl⟩))
      go_ret
      exact ⟨ret_i64 (HV.out), B1.out⟩
    subst ht
    cases he : inEnv e
    ·
      have HV : Hid (3 = cf 2 e 0 0) := by show _ = _; simp [cf, cr, he, i0, r0]
      go_enter Try.func18, Try.ntmps18
      go_wp2_with (first | (go_at_call 42; refine (l1Env_any _ _).mono ?_; rintro e9 w9 ⟨rfl, rfl⟩) | (go_at_call 41; refine (l1In_any _ _ _ _).mono ?_; rintro e9 w9 ⟨rfl, rfl⟩))
      go_ret
      exact ⟨ret_i64 (HV.out), B1.out⟩
    ·
      have HV : Hid (0 = cf 2 e 0 0) := by show _ = _; simp [cf, cr, he, i0, r0]
      go_enter Try.func18, Try.ntmps18
      go_wp2_with (first | (go_at_call 42; refine (l1Env_any _ _).mono ?_; rintro e9 w9 ⟨rfl, rfl⟩) | (go_at_call 41; refine (l1In_any _ _ _ _).mono ?_; rintro e9 w9 ⟨rfl, rfl⟩))
      go_ret
      exact ⟨ret_i64 (HV.out), B1.out⟩
  by_cases h3 : k = 3
  case pos =>
    subst h3
    by_cases ht : t = 0
    case neg =>
      have hta : (t == 0) = false := by simp [ht]
      have htb : (t != 0) = true := by simp [ht]
      have HV : Hid (1 = cf 3 e s t) := by show _ = _; simp [cf, ht]
      clear ht
      go_enter Try.func18, Try.ntmps18
      go_wp2_with (first | (go_at_call 42; refine (l1Env_any _ _).mono ?_; rintro e9 w9 ⟨rfl, rfl⟩) | (go_at_call 41; refine (l1In_any _ _ _ _).mono ?_; rintro e9 w9 ⟨rfl, rfl⟩))
      go_ret
      exact ⟨ret_i64 (HV.out), B1.out⟩
    subst ht
    cases he : inEnv e
    ·
      have HV : Hid (3 = cf 3 e s 0) := by show _ = _; simp [cf, cr, he]
      go_enter Try.func18, Try.ntmps18
      go_wp2_with (first | (go_at_call 42; refine (l1Env_any _ _).mono ?_; rintro e9 w9 ⟨rfl, rfl⟩) | (go_at_call 41; refine (l1In_any _ _ _ _).mono ?_; rintro e9 w9 ⟨rfl, rfl⟩))
      go_ret
      exact ⟨ret_i64 (HV.out), B1.out⟩
    cases hr : inR 0 11 s
    ·
      have HV : Hid (3 = cf 3 e s 0) := by show _ = _; simp [cf, cr, he, hr, i0]
      go_enter Try.func18, Try.ntmps18
      go_wp2_with (first | (go_at_call 42; refine (l1Env_any _ _).mono ?_; rintro e9 w9 ⟨rfl, rfl⟩) | (go_at_call 41; refine (l1In_any _ _ _ _).mono ?_; rintro e9 w9 ⟨rfl, rfl⟩))
      go_ret
      exact ⟨ret_i64 (HV.out), B1.out⟩
    ·
      have HV : Hid (0 = cf 3 e s 0) := by show _ = _; simp [cf, cr, he, hr, i0]
      go_enter Try.func18, Try.ntmps18
      go_wp2_with (first | (go_at_call 42; refine (l1Env_any _ _).mono ?_; rintro e9 w9 ⟨rfl, rfl⟩) | (go_at_call 41; refine (l1In_any _ _ _ _).mono ?_; rintro e9 w9 ⟨rfl, rfl⟩))
      go_ret
      exact ⟨ret_i64 (HV.out), B1.out⟩
  by_cases h4 : k = 4
  case pos =>
    subst h4
    by_cases ht : t = 0
    case neg =>
      have hta : (t == 0) = false := by simp [ht]
      have htb : (t != 0) = true := by simp [ht]
      have HV : Hid (1 = cf 4 e s t) := by show _ = _; simp [cf, ht]
      clear ht
      go_enter Try.func18, Try.ntmps18
      go_wp2_with (first | (go_at_call 42; refine (l1Env_any _ _).mono ?_; rintro e9 w9 ⟨rfl, rfl⟩) | (go_at_call 41; refine (l1In_any _ _ _ _).mono ?_; rintro e9 w9 ⟨rfl, rfl⟩))
      go_ret
      exact ⟨ret_i64 (HV.out), B1.out⟩
    subst ht
    cases he : inEnv e
    ·
      have HV : Hid (3 = cf 4 e s 0) := by show _ = _; simp [cf, cr, he]
      go_enter Try.func18, Try.ntmps18
      go_wp2_with (first | (go_at_call 42; refine (l1Env_any _ _).mono ?_; rintro e9 w9 ⟨rfl, rfl⟩) | (go_at_call 41; refine (l1In_any _ _ _ _).mono ?_; rintro e9 w9 ⟨rfl, rfl⟩))
      go_ret
      exact ⟨ret_i64 (HV.out), B1.out⟩
    cases hr : inR 0 11 s
    ·
      have HV : Hid (3 = cf 4 e s 0) := by show _ = _; simp [cf, cr, he, hr, i0]
      go_enter Try.func18, Try.ntmps18
      go_wp2_with (first | (go_at_call 42; refine (l1Env_any _ _).mono ?_; rintro e9 w9 ⟨rfl, rfl⟩) | (go_at_call 41; refine (l1In_any _ _ _ _).mono ?_; rintro e9 w9 ⟨rfl, rfl⟩))
      go_ret
      exact ⟨ret_i64 (HV.out), B1.out⟩
    ·
      have HV : Hid (0 = cf 4 e s 0) := by show _ = _; simp [cf, cr, he, hr, i0]
      go_enter Try.func18, Try.ntmps18
      go_wp2_with (first | (go_at_call 42; refine (l1Env_any _ _).mono ?_; rintro e9 w9 ⟨rfl, rfl⟩) | (go_at_call 41; refine (l1In_any _ _ _ _).mono ?_; rintro e9 w9 ⟨rfl, rfl⟩))
      go_ret
      exact ⟨ret_i64 (HV.out), B1.out⟩
  by_cases h5 : k = 5
  case pos =>
    subst h5
    cases he : inEnv e
    ·
      have HV : Hid (3 = cf 5 e s t) := by show _ = _; simp [cf, cr, he]
      go_enter Try.func18, Try.ntmps18
      go_wp2_with (first | (go_at_call 42; refine (l1Env_any _ _).mono ?_; rintro e9 w9 ⟨rfl, rfl⟩) | (go_at_call 41; refine (l1In_any _ _ _ _).mono ?_; rintro e9 w9 ⟨rfl, rfl⟩))
      go_ret
      exact ⟨ret_i64 (HV.out), B1.out⟩
    cases ht : inEnv t
    ·
      have HV : Hid (3 = cf 5 e s t) := by show _ = _; simp [cf, cr, he, ht]
      go_enter Try.func18, Try.ntmps18
      go_wp2_with (first | (go_at_call 42; refine (l1Env_any _ _).mono ?_; rintro e9 w9 ⟨rfl, rfl⟩) | (go_at_call 41; refine (l1In_any _ _ _ _).mono ?_; rintro e9 w9 ⟨rfl, rfl⟩))
      go_ret
      exact ⟨ret_i64 (HV.out), B1.out⟩
    cases hr : inR 0 11 s
    ·
      have HV : Hid (3 = cf 5 e s t) := by show _ = _; simp [cf, cr, he, ht, hr]
      go_enter Try.func18, Try.ntmps18
      go_wp2_with (first | (go_at_call 42; refine (l1Env_any _ _).mono ?_; rintro e9 w9 ⟨rfl, rfl⟩) | (go_at_call 41; refine (l1In_any _ _ _ _).mono ?_; rintro e9 w9 ⟨rfl, rfl⟩))
      go_ret
      exact ⟨ret_i64 (HV.out), B1.out⟩
    ·
      have HV : Hid (0 = cf 5 e s t) := by show _ = _; simp [cf, cr, he, ht, hr]
      go_enter Try.func18, Try.ntmps18
      go_wp2_with (first | (go_at_call 42; refine (l1Env_any _ _).mono ?_; rintro e9 w9 ⟨rfl, rfl⟩) | (go_at_call 41; refine (l1In_any _ _ _ _).mono ?_; rintro e9 w9 ⟨rfl, rfl⟩))
      go_ret
      exact ⟨ret_i64 (HV.out), B1.out⟩
  have h1a : (k == 1) = false := by simp [h1]
  have h2a : (k == 2) = false := by simp [h2]
  have h3a : (k == 3) = false := by simp [h3]
  have h4a : (k == 4) = false := by simp [h4]
  have h5a : (k == 5) = false := by simp [h5]
  have HV : Hid (1 = cf k e s t) := by show _ = _; simp [cf, h1, h2, h3, h4, h5]
  clear h1 h2 h3 h4 h5
  go_enter Try.func18, Try.ntmps18
  go_wp2_with (first | (go_at_call 42; refine (l1Env_any _ _).mono ?_; rintro e9 w9 ⟨rfl, rfl⟩) | (go_at_call 41; refine (l1In_any _ _ _ _).mono ?_; rintro e9 w9 ⟨rfl, rfl⟩))
  go_ret
  exact ⟨ret_i64 (HV.out), B1.out⟩

theorem run_neq_call (c e s t : Int) (z : Bool) (h : (c == 0 && e == 0 && s == 0 && t == 0) = !z) (W : World) : (binOp .neq 38 (.agg #[.int .i64 c, .int .i64 e, .int .i64 s, .int .i64 t]) (.agg #[.int .i64 0, .int .i64 0, .int .i64 0, .int .i64 0])).run Try.prog W = .ok (.bool z) W := by
  obtain rfl : z = !(c == 0 && e == 0 && s == 0 && t == 0) := by rw [h]; simp
  simp [go_sem]
  try grind
end Go.Proofs.Ytbodmjdniblhgaa
