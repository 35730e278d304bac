/-
  The model's functions of chapter 1: what each answers, for every list that can be read and is at most 2^20 long. Stated with the lists of Math1.
-/
import Derived.Test.YtaemegkdmbhpnaaChecked
import Derived.Test.YtaemegkdmbhpnaaMath1
import Derived.Test.YtaemegkdmbhpnaaInts
import Derived.Laws.AppendOwnNone
namespace Go.Proofs.Ytaemegkdmbhpnaa
open Go.RowKit
set_option maxRecDepth 100000

theorem l1In_any (v lo hi : Int) (w : World) :
    Calls Try.prog 133 #[.int .i64 v, .int .i64 lo, .int .i64 hi] w fun e w' => e = .returned (.bool (inR lo hi v)) ∧ w = w' := by
  by_cases h1 : lo ≤ v
  · by_cases h2 : v ≤ hi
    · go_enter Try.func133, Try.ntmps133
      go_wp2
      go_ret
      exact ⟨ret_bool (inR_true ⟨h1, h2⟩).symm, rfl⟩
    · go_enter Try.func133, Try.ntmps133
      go_wp2
      go_ret
      exact ⟨ret_bool (inR_false (by omega)).symm, rfl⟩
  · go_enter Try.func133, Try.ntmps133
    go_wp2
    go_ret
    exact ⟨ret_bool (inR_false (by omega)).symm, rfl⟩

theorem l1Env_any (v : Int) (w : World) :
    Calls Try.prog 148 #[.int .i64 v] w fun e w' => e = .returned (.bool (inEnv v)) ∧ w = w' := by
  go_enter Try.func148, Try.ntmps148
  go_wp2_with fail
  refine (l1In_any v 0 3 _).mono ?_
  rintro e w' ⟨rfl, rfl⟩
  go_wp2
  go_ret
  exact ⟨ret_bool (inR_env v), rfl⟩

theorem l1Count_any (lo hi : Nat) (A : Option Addr) (n c : Nat) (xs : List Int) (env : Int) (w : World) (hn : n * 8 ≤ 140737488351232) (ex : xs.length = n) (h : Sl w lo hi A n (fun k => .int .i64 (gi xs k))) :
    Calls Try.prog 180 #[.slice A n c, .int .i64 env] w fun e w' => e = .returned (.int .i64 (cnt xs env)) ∧ w = w' := by
  have H := Lib.hid h
  have EX := Lib.hid ex
  clear h ex
  go_enter Try.func180, Try.ntmps180
  go_wp2
  go_loop [5, 6] (fun q i => ∃ k : Nat, k ≤ n ∧ i = .int .i64 k ∧ q = .int .i64 (cnt (xs.take k) env)) (fun _ i => n - (intOf i).toNat)
  case atStart => exact ⟨0, Nat.zero_le _, rfl, rfl⟩
  case round =>
    obtain ⟨k, hk, rfl, rfl⟩ := hrel
    have hc1 := cnt_le (xs.take k) env
    have hc2 : (xs.take k).length ≤ k := List.length_take_le _ _
    by_cases hlt : k < n
    · obtain ⟨b, off, rfl, h1, h2, hc⟩ := H.out.at_ hlt
      have hck := hc k hlt
      have CT := Lib.hid (cnt_take xs k env (by rw [EX.out]; exact hlt))
      clear hc H
      by_cases he : gi xs k = env
      · subst he
        go_wp2
        go_round
        case rel => exact ⟨k + 1, by omega, by go_num, by rw [CT.out, if_pos rfl]; go_num⟩
        case measure => simp [intOf]; omega
      · go_wp2
        go_round
        case rel => exact ⟨k + 1, by omega, by go_num, by rw [CT.out, if_neg he]; go_num⟩
        case measure => simp [intOf]; omega
    · go_wp2
      go_ret
      exact ⟨ret_i64 (by rw [List.take_of_length_le (by rw [EX.out]; omega)]), rfl⟩

theorem specVectorFault_any (lo hi : Nat) (A : Option Addr) (n c : Nat) (xs : List Int) (w : World) (hn : n * 8 ≤ 140737488351232) (ex : xs.length = n) (h : Sl w lo hi A n (fun k => .int .i64 (gi xs k))) :
    Calls Try.prog 146 #[.slice A n c] w fun e w' => e = .returned (.int .i64 (vf xs)) ∧ w = w' := by
  have H := Lib.hid h
  have EX := Lib.hid ex
  clear h ex
  by_cases hn1 : n < 1
  · go_enter Try.func146, Try.ntmps146
    go_wp2
    go_ret
    exact ⟨ret_i64 (vf_many (by rw [EX.out]; omega)).symm, rfl⟩
  by_cases hn2 : 12 < n
  · go_enter Try.func146, Try.ntmps146
    go_wp2
    go_ret
    exact ⟨ret_i64 (vf_many (by rw [EX.out]; omega)).symm, rfl⟩
  go_enter Try.func146, Try.ntmps146
  go_wp2
  go_loop [3] (fun i => ∃ k : Nat, k ≤ n ∧ i = .int .i64 k ∧ ∀ j, j < k → bad (gi xs j) = false) (fun i => n - (intOf i).toNat)
  case atStart => exact ⟨0, Nat.zero_le _, rfl, fun j hj => absurd hj (Nat.not_lt_zero _)⟩
  case round =>
    obtain ⟨k, hk, rfl, hs⟩ := hrel
    have HS := Lib.hid hs
    clear hs
    by_cases hlt : k < n
    · obtain ⟨b, off, rfl, h1, h2, hc⟩ := H.out.at_ hlt
      have hck := hc k hlt
      clear hc H
      by_cases hb : gi xs k = -1
      · have hB := Lib.hid (bad_ok (.inl hb))
        have hd : (gi xs k != -1) = false := by simp [hb]
        have HBB := Lib.hid hb
        clear hb
        go_wp2
        go_round
        case rel => exact ⟨k + 1, by omega, by go_num, upto_succ HS.out hB.out⟩
        case measure => simp [intOf]; omega
      · have hd : (gi xs k != -1) = true := by simp [hb]
        by_cases he : 0 ≤ gi xs k ∧ gi xs k < 4
        · have hB := Lib.hid (bad_ok (.inr he))
          have hie : inEnv (gi xs k) = true := inEnv_true he
          clear he hb
          go_wp2_with (go_at_call 148; refine (l1Env_any _ _).mono ?_; rintro e w' ⟨rfl, rfl⟩)
          go_round
          case rel => exact ⟨k + 1, by omega, by go_num, upto_succ HS.out hB.out⟩
          case measure => simp [intOf]; omega
        · have hB := Lib.hid (bad_true hb he)
          have hie : inEnv (gi xs k) = false := inEnv_false he
          clear he hb
          go_wp2_with (go_at_call 148; refine (l1Env_any _ _).mono ?_; rintro e w' ⟨rfl, rfl⟩)
          go_ret
          exact ⟨ret_i64 (vf_range (by rw [EX.out]; omega) (by rw [EX.out]; omega) (by rw [EX.out]; exact hlt) hB.out).symm, rfl⟩
    · have e0 : k = n := by omega
      subst e0
      go_wp2
      go_loop [4] (fun i => ∃ e : Nat, e ≤ 4 ∧ i = .int .i64 e ∧ ∀ j : Nat, j < e → cnt xs j ≤ 6) (fun i => 4 - (intOf i).toNat)
      case atStart => exact ⟨0, Nat.zero_le _, rfl, fun j hj => absurd hj (Nat.not_lt_zero _)⟩
      case round =>
        obtain ⟨e, he, rfl, hs2⟩ := hrel
        have HS2 := Lib.hid hs2
        clear hs2
        by_cases hlt2 : e < 4
        · by_cases hc : 6 < cnt xs e
          · go_wp2_with (go_at_call 180; refine (l1Count_any lo hi A _ _ xs _ _ (by omega) EX.out H.out).mono ?_; rintro e w' ⟨rfl, rfl⟩)
            go_ret
            exact ⟨ret_i64 (vf_full (by rw [EX.out]; omega) (by rw [EX.out]; omega) (fun k hk => HS.out k (by rw [← EX.out]; exact hk)) (e := (e : Int)) (by omega) hc).symm, rfl⟩
          · go_wp2_with (go_at_call 180; refine (l1Count_any lo hi A _ _ xs _ _ (by omega) EX.out H.out).mono ?_; rintro e w' ⟨rfl, rfl⟩)
            go_round
            case rel => exact ⟨e + 1, by omega, by go_num, upto_succ HS2.out (by omega)⟩
            case measure => simp [intOf]; omega
        · go_wp2
          go_ret
          refine ⟨ret_i64 (vf_ok (by rw [EX.out]; omega) (by rw [EX.out]; omega) (fun k hk => HS.out k (by rw [← EX.out]; exact hk)) (fun e' h1 h2 => ?_)).symm, rfl⟩
          have := HS2.out e'.toNat (by omega)
          rwa [show ((e'.toNat : Nat) : Int) = e' by omega] at this

/-- the numbers of a list as values -/
def vals (xs : List Int) : List Value := xs.map (Value.int .i64)
theorem vals_get (xs : List Int) (k : Nat) (h : k < xs.length) : (vals xs)[k]? = some (.int .i64 (gi xs k)) := by
  simp [vals, h, gi_lt xs k h]
theorem vals_getD (xs : List Int) (k : Nat) (h : k < xs.length) : (vals xs).getD k undef = .int .i64 (gi xs k) := by
  rw [List.getD_eq_getElem?_getD, vals_get xs k h]; rfl

end Go.Proofs.Ytaemegkdmbhpnaa
