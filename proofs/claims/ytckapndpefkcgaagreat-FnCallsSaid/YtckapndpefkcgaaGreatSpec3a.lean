/-
  The model's CallFault and EventFault, for every call and event. No conditions.
-/
import Derived.Test.YtckapndpefkcgaaGreatMath3
import Derived.Test.YtckapndpefkcgaaGreatAcc2
set_option maxHeartbeats 1000000
namespace Go.Proofs.YtckapndpefkcgaaGreat
open Go.RowKit

theorem specCallFault_any (k e s t : Int) (w : World) :
    Calls Tryz.prog 39 #[.agg #[.int .i64 k, .int .i64 e, .int .i64 s, .int .i64 t]] w fun r w' => r = .returned (.int .i64 (cf k e s t)) ∧ Below w.heap.size w w' := by
  have B1 := Lib.hid (below_new w (.cells #[.int .i64 k, .int .i64 e, .int .i64 s, .int .i64 t] 55))
  have i0 : inEnv 0 = true := by decide
  have r0 : inR 0 11 0 = true := by decide
  by_cases h1 : k = 1
  case pos =>
    subst h1
    by_cases hs : s = 0
    case neg =>
      have hsa : (s == 0) = false := by simp [hs]
      have hsb : (s != 0) = true := by simp [hs]
      have HV : Hid (1 = cf 1 e s t) := by show _ = _; simp [cf, hs]
      clear hs
      go_enter Tryz.func39, Tryz.ntmps39
      go_wp2_with (first | (go_at_call 93; refine (l1Env_any _ _).mono ?_; rintro e9 w9 ⟨rfl, rfl⟩) | (go_at_call 94; refine (l1In_any _ _ _ _).mono ?_; rintro e9 w9 ⟨rfl, rfl⟩))
      go_ret
      exact ⟨ret_i64 (HV.out), B1.out⟩
    subst hs
    by_cases ht : t = 0
    case neg =>
      have hta : (t == 0) = false := by simp [ht]
      have htb : (t != 0) = true := by simp [ht]
      have HV : Hid (1 = cf 1 e 0 t) := by show _ = _; simp [cf, ht]
      clear ht
      go_enter Tryz.func39, Tryz.ntmps39
      go_wp2_with (first | (go_at_call 93; refine (l1Env_any _ _).mono ?_; rintro e9 w9 ⟨rfl, rfl⟩) | (go_at_call 94; refine (l1In_any _ _ _ _).mono ?_; rintro e9 w9 ⟨rfl, rfl⟩))
      go_ret
      exact ⟨ret_i64 (HV.out), B1.out⟩
    subst ht
    cases he : inEnv e
    ·
      have HV : Hid (3 = cf 1 e 0 0) := by show _ = _; simp [cf, cr, he, i0, r0]
      go_enter Tryz.func39, Tryz.ntmps39
      go_wp2_with (first | (go_at_call 93; refine (l1Env_any _ _).mono ?_; rintro e9 w9 ⟨rfl, rfl⟩) | (go_at_call 94; refine (l1In_any _ _ _ _).mono ?_; rintro e9 w9 ⟨rfl, rfl⟩))
      go_ret
      exact ⟨ret_i64 (HV.out), B1.out⟩
    ·
      have HV : Hid (0 = cf 1 e 0 0) := by show _ = _; simp [cf, cr, he, i0, r0]
      go_enter Tryz.func39, Tryz.ntmps39
      go_wp2_with (first | (go_at_call 93; refine (l1Env_any _ _).mono ?_; rintro e9 w9 ⟨rfl, rfl⟩) | (go_at_call 94; refine (l1In_any _ _ _ _).mono ?_; rintro e9 w9 ⟨rfl, rfl⟩))
      go_ret
      exact ⟨ret_i64 (HV.out), B1.out⟩
  by_cases h2 : k = 2
  case pos =>
    subst h2
    by_cases hs : s = 0
    case neg =>
      have hsa : (s == 0) = false := by simp [hs]
      have hsb : (s != 0) = true := by simp [hs]
      have HV : Hid (1 = cf 2 e s t) := by show _ = _; simp [cf, hs]
      clear hs
      go_enter Tryz.func39, Tryz.ntmps39
      go_wp2_with (first | (go_at_call 93; refine (l1Env_any _ _).mono ?_; rintro e9 w9 ⟨rfl, rfl⟩) | (go_at_call 94; refine (l1In_any _ _ _ _).mono ?_; rintro e9 w9 ⟨rfl, rfl⟩))
      go_ret
      exact ⟨ret_i64 (HV.out), B1.out⟩
    subst hs
    by_cases ht : t = 0
    case neg =>
      have hta : (t == 0) = false := by simp [ht]
      have htb : (t != 0) = true := by simp [ht]
      have HV : Hid (1 = cf 2 e 0 t) := by show _ = _; simp [cf, ht]
      clear ht
      go_enter Tryz.func39, Tryz.ntmps39
      go_wp2_with (first | (go_at_call 93; refine (l1Env_any _ _).mono ?_; rintro e9 w9 ⟨rfl, rfl⟩) | (go_at_call 94; refine (l1In_any _ _ _ _).mono ?_; rintro e9 w9 ⟨rfl, rfl⟩))
      go_ret
      exact ⟨ret_i64 (HV.out), B1.out⟩
    subst ht
    cases he : inEnv e
    ·
      have HV : Hid (3 = cf 2 e 0 0) := by show _ = _; simp [cf, cr, he, i0, r0]
      go_enter Tryz.func39, Tryz.ntmps39
      go_wp2_with (first | (go_at_call 93; refine (l1Env_any _ _).mono ?_; rintro e9 w9 ⟨rfl, rfl⟩) | (go_at_call 94; refine (l1In_any _ _ _ _).mono ?_; rintro e9 w9 ⟨rfl, rfl⟩))
      go_ret
      exact ⟨ret_i64 (HV.out), B1.out⟩
    ·
      have HV : Hid (0 = cf 2 e 0 0) := by show _ = _; simp [cf, cr, he, i0, r0]
      go_enter Tryz.func39, Tryz.ntmps39
      go_wp2_with (first | (go_at_call 93; refine (l1Env_any _ _).mono ?_; rintro e9 w9 ⟨rfl, rfl⟩) | (go_at_call 94; refine (l1In_any _ _ _ _).mono ?_; rintro e9 w9 ⟨rfl, rfl⟩))
      go_ret
      exact ⟨ret_i64 (HV.out), B1.out⟩
  by_cases h3 : k = 3
  case pos =>
    subst h3
    by_cases ht : t = 0
    case neg =>
      have hta : (t == 0) = false := by simp [ht]
      have htb : (t != 0) = true := by simp [ht]
      have HV : Hid (1 = cf 3 e s t) := by show _ = _; simp [cf, ht]
      clear ht
      go_enter Tryz.func39, Tryz.ntmps39
      go_wp2_with (first | (go_at_call 93; refine (l1Env_any _ _).mono ?_; rintro e9 w9 ⟨rfl, rfl⟩) | (go_at_call 94; refine (l1In_any _ _ _ _).mono ?_; rintro e9 w9 ⟨rfl, rfl⟩))
      go_ret
      exact ⟨ret_i64 (HV.out), B1.out⟩
    subst ht
    cases he : inEnv e
    ·
      have HV : Hid (3 = cf 3 e s 0) := by show _ = _; simp [cf, cr, he]
      go_enter Tryz.func39, Tryz.ntmps39
      go_wp2_with (first | (go_at_call 93; refine (l1Env_any _ _).mono ?_; rintro e9 w9 ⟨rfl, rfl⟩) | (go_at_call 94; refine (l1In_any _ _ _ _).mono ?_; rintro e9 w9 ⟨rfl, rfl⟩))
      go_ret
      exact ⟨ret_i64 (HV.out), B1.out⟩
    cases hr : inR 0 11 s
    ·
      have HV : Hid (3 = cf 3 e s 0) := by show _ = _; simp [cf, cr, he, hr, i0]
      go_enter Tryz.func39, Tryz.ntmps39
      go_wp2_with (first | (go_at_call 93; refine (l1Env_any _ _).mono ?_; rintro e9 w9 ⟨rfl, rfl⟩) | (go_at_call 94; refine (l1In_any _ _ _ _).mono ?_; rintro e9 w9 ⟨rfl, rfl⟩))
      go_ret
      exact ⟨ret_i64 (HV.out), B1.out⟩
    ·
      have HV : Hid (0 = cf 3 e s 0) := by show _ = _; simp [cf, cr, he, hr, i0]
      go_enter Tryz.func39, Tryz.ntmps39
      go_wp2_with (first | (go_at_call 93; refine (l1Env_any _ _).mono ?_; rintro e9 w9 ⟨rfl, rfl⟩) | (go_at_call 94; refine (l1In_any _ _ _ _).mono ?_; rintro e9 w9 ⟨rfl, rfl⟩))
      go_ret
      exact ⟨ret_i64 (HV.out), B1.out⟩
  by_cases h4 : k = 4
  case pos =>
    subst h4
    by_cases ht : t = 0
    case neg =>
      have hta : (t == 0) = false := by simp [ht]
      have htb : (t != 0) = true := by simp [ht]
      have HV : Hid (1 = cf 4 e s t) := by show _ = _; simp [cf, ht]
      clear ht
      go_enter Tryz.func39, Tryz.ntmps39
      go_wp2_with (first | (go_at_call 93; refine (l1Env_any _ _).mono ?_; rintro e9 w9 ⟨rfl, rfl⟩) | (go_at_call 94; refine (l1In_any _ _ _ _).mono ?_; rintro e9 w9 ⟨rfl, rfl⟩))
      go_ret
      exact ⟨ret_i64 (HV.out), B1.out⟩
    subst ht
    cases he : inEnv e
    ·
      have HV : Hid (3 = cf 4 e s 0) := by show _ = _; simp [cf, cr, he]
      go_enter Tryz.func39, Tryz.ntmps39
      go_wp2_with (first | (go_at_call 93; refine (l1Env_any _ _).mono ?_; rintro e9 w9 ⟨rfl, rfl⟩) | (go_at_call 94; refine (l1In_any _ _ _ _).mono ?_; rintro e9 w9 ⟨rfl, rfl⟩))
      go_ret
      exact ⟨ret_i64 (HV.out), B1.out⟩
    cases hr : inR 0 11 s
    ·
      have HV : Hid (3 = cf 4 e s 0) := by show _ = _; simp [cf, cr, he, hr, i0]
      go_enter Tryz.func39, Tryz.ntmps39
      go_wp2_with (first | (go_at_call 93; refine (l1Env_any _ _).mono ?_; rintro e9 w9 ⟨rfl, rfl⟩) | (go_at_call 94; refine (l1In_any _ _ _ _).mono ?_; rintro e9 w9 ⟨rfl, rfl⟩))
      go_ret
      exact ⟨ret_i64 (HV.out), B1.out⟩
    ·
      have HV : Hid (0 = cf 4 e s 0) := by show _ = _; simp [cf, cr, he, hr, i0]
      go_enter Tryz.func39, Tryz.ntmps39
      go_wp2_with (first | (go_at_call 93; refine (l1Env_any _ _).mono ?_; rintro e9 w9 ⟨rfl, rfl⟩) | (go_at_call 94; refine (l1In_any _ _ _ _).mono ?_; rintro e9 w9 ⟨rfl, rfl⟩))
      go_ret
      exact ⟨ret_i64 (HV.out), B1.out⟩
  by_cases h5 : k = 5
  case pos =>
    subst h5
    cases he : inEnv e
    ·
      have HV : Hid (3 = cf 5 e s t) := by show _ = _; simp [cf, cr, he]
      go_enter Tryz.func39, Tryz.ntmps39
      go_wp2_with (first | (go_at_call 93; refine (l1Env_any _ _).mono ?_; rintro e9 w9 ⟨rfl, rfl⟩) | (go_at_call 94; refine (l1In_any _ _ _ _).mono ?_; rintro e9 w9 ⟨rfl, rfl⟩))
      go_ret
      exact ⟨ret_i64 (HV.out), B1.out⟩
    cases ht : inEnv t
    ·
      have HV : Hid (3 = cf 5 e s t) := by show _ = _; simp [cf, cr, he, ht]
      go_enter Tryz.func39, Tryz.ntmps39
      go_wp2_with (first | (go_at_call 93; refine (l1Env_any _ _).mono ?_; rintro e9 w9 ⟨rfl, rfl⟩) | (go_at_call 94; refine (l1In_any _ _ _ _).mono ?_; rintro e9 w9 ⟨rfl, rfl⟩))
      go_ret
      exact ⟨ret_i64 (HV.out), B1.out⟩
    cases hr : inR 0 11 s
    ·
      have HV : Hid (3 = cf 5 e s t) := by show _ = _; simp [cf, cr, he, ht, hr]
      go_enter Tryz.func39, Tryz.ntmps39
      go_wp2_with (first | (go_at_call 93; refine (l1Env_any _ _).mono ?_; rintro e9 w9 ⟨rfl, rfl⟩) | (go_at_call 94; refine (l1In_any _ _ _ _).mono ?_; rintro e9 w9 ⟨rfl, rfl⟩))
      go_ret
      exact ⟨ret_i64 (HV.out), B1.out⟩
    ·
      have HV : Hid (0 = cf 5 e s t) := by show _ = _; simp [cf, cr, he, ht, hr]
      go_enter Tryz.func39, Tryz.ntmps39
      go_wp2_with (first | (go_at_call 93; refine (l1Env_any _ _).mono ?_; rintro e9 w9 ⟨rfl, rfl⟩) | (go_at_call 94; refine (l1In_any _ _ _ _).mono ?_; rintro e9 w9 ⟨rfl, rfl⟩))
      go_ret
      exact ⟨ret_i64 (HV.out), B1.out⟩
  have h1a : (k == 1) = false := by simp [h1]
  have h2a : (k == 2) = false := by simp [h2]
  have h3a : (k == 3) = false := by simp [h3]
  have h4a : (k == 4) = false := by simp [h4]
  have h5a : (k == 5) = false := by simp [h5]
  have HV : Hid (1 = cf k e s t) := by show _ = _; simp [cf, h1, h2, h3, h4, h5]
  clear h1 h2 h3 h4 h5
  go_enter Tryz.func39, Tryz.ntmps39
  go_wp2_with (first | (go_at_call 93; refine (l1Env_any _ _).mono ?_; rintro e9 w9 ⟨rfl, rfl⟩) | (go_at_call 94; refine (l1In_any _ _ _ _).mono ?_; rintro e9 w9 ⟨rfl, rfl⟩))
  go_ret
  exact ⟨ret_i64 (HV.out), B1.out⟩

theorem run_neq_call (c e s t : Int) (z : Bool) (h : (c == 0 && e == 0 && s == 0 && t == 0) = !z) (W : World) : (binOp .neq 55 (.agg #[.int .i64 c, .int .i64 e, .int .i64 s, .int .i64 t]) (.agg #[.int .i64 0, .int .i64 0, .int .i64 0, .int .i64 0])).run Tryz.prog W = .ok (.bool z) W := by
  obtain rfl : z = !(c == 0 && e == 0 && s == 0 && t == 0) := by rw [h]; simp
  simp [go_sem]
  try grind
theorem run_neq_act (a b : Int) (z : Bool) (h : (a == 0 && b == 0) = !z) (W : World) : (binOp .neq 53 (.agg #[.int .i64 a, .int .i64 b]) (.agg #[.int .i64 0, .int .i64 0])).run Tryz.prog W = .ok (.bool z) W := by
  obtain rfl : z = !(a == 0 && b == 0) := by rw [h]; simp
  simp [go_sem]
  try grind

theorem specEventFault_any (k a b c e s t : Int) (w : World) :
    Calls Tryz.prog 41 #[.agg #[.int .i64 k, .int .i64 a, .int .i64 b, .int .i64 c, .int .i64 e, .int .i64 s, .int .i64 t]] w fun r w' => r = .returned (.int .i64 (evf k a b c e s t)) ∧ Below w.heap.size w w' := by
  have B1 : Hid (∀ o, Below w.heap.size w (w.alloc o)) := fun o => below_new w o
  have i0 : inEnv 0 = true := by decide
  by_cases h1 : k = 1
  case pos =>
    subst h1
    cases ha : inR 1 3 a
    ·
      have ha2 : ¬ (1 ≤ a ∧ a ≤ 3) := of_decide_eq_false ha
      have HV : Hid (1 = evf 1 a b c e s t) := by show _ = _; unfold evf; rw [if_pos rfl, if_pos (.inl ha2)]
      clear ha2
      go_enter Tryz.func41, Tryz.ntmps41
      go_wp2_with (first | (go_at_call 93; refine (l1Env_any _ _).mono ?_; rintro e9 w9 ⟨rfl, rfl⟩) | (go_at_call 94; refine (l1In_any _ _ _ _).mono ?_; rintro e9 w9 ⟨rfl, rfl⟩))
      go_ret
      exact ⟨ret_i64 HV.out, B1.out _⟩
    have ha2 : 1 ≤ a ∧ a ≤ 3 := of_decide_eq_true ha
    by_cases h3 : a = 3
    case pos =>
      subst h3
      by_cases hc : (c == 0 && e == 0 && s == 0 && t == 0) = true
      case neg =>
        have nc := run_neq_call c e s t true (by simpa using hc)
        have HV : Hid (1 = evf 1 3 b c e s t) := by
          show _ = _
          simp only [Bool.and_eq_true, beq_iff_eq] at hc
          unfold evf
          rw [if_pos rfl, if_pos (by omega)]
        clear hc ha2
        go_enter Tryz.func41, Tryz.ntmps41
        go_wp2_with (first | (go_at_call 93; refine (l1Env_any _ _).mono ?_; rintro e9 w9 ⟨rfl, rfl⟩) | (go_at_call 94; refine (l1In_any _ _ _ _).mono ?_; rintro e9 w9 ⟨rfl, rfl⟩))
        go_ret
        exact ⟨ret_i64 HV.out, B1.out _⟩
      have nc := run_neq_call c e s t false (by simpa using hc)
      simp only [Bool.and_eq_true, beq_iff_eq] at hc
      cases hb : inEnv b
      ·
        have HV : Hid (3 = evf 1 3 b c e s t) := by show _ = _; unfold evf; rw [if_pos rfl, if_neg (by omega), if_neg (by simp [hb])]
        clear hc ha2
        go_enter Tryz.func41, Tryz.ntmps41
        go_wp2_with (first | (go_at_call 93; refine (l1Env_any _ _).mono ?_; rintro e9 w9 ⟨rfl, rfl⟩) | (go_at_call 94; refine (l1In_any _ _ _ _).mono ?_; rintro e9 w9 ⟨rfl, rfl⟩))
        go_ret
        exact ⟨ret_i64 HV.out, B1.out _⟩
      ·
        have HV : Hid (0 = evf 1 3 b c e s t) := by show _ = _; unfold evf; rw [if_pos rfl, if_neg (by omega), if_pos hb]
        clear hc ha2
        go_enter Tryz.func41, Tryz.ntmps41
        go_wp2_with (first | (go_at_call 93; refine (l1Env_any _ _).mono ?_; rintro e9 w9 ⟨rfl, rfl⟩) | (go_at_call 94; refine (l1In_any _ _ _ _).mono ?_; rintro e9 w9 ⟨rfl, rfl⟩))
        go_ret
        exact ⟨ret_i64 HV.out, B1.out _⟩
    have h3a : (a == 3) = false := by simp [h3]
    have h3b : (a != 3) = true := by simp [h3]
    by_cases hb0 : b = 0
    case pos =>
      subst hb0
      have h3' := Lib.hid h3
      clear h3
      by_cases hc : (c == 0 && e == 0 && s == 0 && t == 0) = true
      case neg =>
        have nc := run_neq_call c e s t true (by simpa using hc)
        have HV : Hid (1 = evf 1 a 0 c e s t) := by
          show _ = _
          simp only [Bool.and_eq_true, beq_iff_eq] at hc
          unfold evf
          rw [if_pos rfl, if_pos (by have := h3'.out; omega)]
        clear hc ha2
        go_enter Tryz.func41, Tryz.ntmps41
        go_wp2_with (first | (go_at_call 93; refine (l1Env_any _ _).mono ?_; rintro e9 w9 ⟨rfl, rfl⟩) | (go_at_call 94; refine (l1In_any _ _ _ _).mono ?_; rintro e9 w9 ⟨rfl, rfl⟩))
        go_ret
        exact ⟨ret_i64 HV.out, B1.out _⟩
      have nc := run_neq_call c e s t false (by simpa using hc)
      simp only [Bool.and_eq_true, beq_iff_eq] at hc
      have HV : Hid (0 = evf 1 a 0 c e s t) := by show _ = _; unfold evf; rw [if_pos rfl, if_neg (by have := h3'.out; omega), if_pos i0]
      clear hc ha2
      go_enter Tryz.func41, Tryz.ntmps41
      go_wp2_with (first | (go_at_call 93; refine (l1Env_any _ _).mono ?_; rintro e9 w9 ⟨rfl, rfl⟩) | (go_at_call 94; refine (l1In_any _ _ _ _).mono ?_; rintro e9 w9 ⟨rfl, rfl⟩))
      go_ret
      exact ⟨ret_i64 HV.out, B1.out _⟩
    have hba : (b == 0) = false := by simp [hb0]
    have hbb : (b != 0) = true := by simp [hb0]
    have HV : Hid (1 = evf 1 a b c e s t) := by show _ = _; unfold evf; rw [if_pos rfl, if_pos (by omega)]
    clear h3 hb0 ha2
    go_enter Tryz.func41, Tryz.ntmps41
    go_wp2_with (first | (go_at_call 93; refine (l1Env_any _ _).mono ?_; rintro e9 w9 ⟨rfl, rfl⟩) | (go_at_call 94; refine (l1In_any _ _ _ _).mono ?_; rintro e9 w9 ⟨rfl, rfl⟩))
    go_ret
    exact ⟨ret_i64 HV.out, B1.out _⟩
  have h1a : (k == 1) = false := by simp [h1]
  by_cases h2 : k = 2
  case pos =>
    subst h2
    by_cases hc : (a == 0 && b == 0) = true
    case neg =>
      have nc := run_neq_act a b true (by simpa using hc)
      have HV : Hid (1 = evf 2 a b c e s t) := by
        show _ = _
        simp only [Bool.and_eq_true, beq_iff_eq] at hc
        unfold evf
        rw [if_neg (by omega), if_pos rfl, if_pos (by omega)]
      clear hc h1
      go_enter Tryz.func41, Tryz.ntmps41
      go_wp2_with (first | (go_at_call 93; refine (l1Env_any _ _).mono ?_; rintro e9 w9 ⟨rfl, rfl⟩) | (go_at_call 94; refine (l1In_any _ _ _ _).mono ?_; rintro e9 w9 ⟨rfl, rfl⟩))
      go_ret
      exact ⟨ret_i64 HV.out, B1.out _⟩
    have nc := run_neq_act a b false (by simpa using hc)
    simp only [Bool.and_eq_true, beq_iff_eq] at hc
    have HV : Hid (cf c e s t = evf 2 a b c e s t) := by show _ = _; unfold evf; rw [if_neg (by omega), if_pos rfl, if_neg (by omega)]
    clear hc h1
    go_enter Tryz.func41, Tryz.ntmps41
    go_wp2_with fail
    refine (specCallFault_any c e s t _).mono ?_
    rintro r9 w9 ⟨rfl, hb9⟩
    have HB := Lib.hid ((B1.out _).trans (hb9.mono (by simp)))
    clear hb9
    go_wp2
    go_ret
    exact ⟨ret_i64 HV.out, HB.out⟩
  have h2a : (k == 2) = false := by simp [h2]
  have HV : Hid (1 = evf k a b c e s t) := by show _ = _; unfold evf; rw [if_neg h1, if_neg h2]
  clear h1 h2
  go_enter Tryz.func41, Tryz.ntmps41
  go_wp2_with (first | (go_at_call 93; refine (l1Env_any _ _).mono ?_; rintro e9 w9 ⟨rfl, rfl⟩) | (go_at_call 94; refine (l1In_any _ _ _ _).mono ?_; rintro e9 w9 ⟨rfl, rfl⟩))
  go_ret
  exact ⟨ret_i64 HV.out, B1.out _⟩

end Go.Proofs.YtckapndpefkcgaaGreat
