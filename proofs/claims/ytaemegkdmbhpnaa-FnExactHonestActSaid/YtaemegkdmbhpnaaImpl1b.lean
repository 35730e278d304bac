/-
  The program's faults of chapter 1 (VectorFault, envsFault, slotFault): each answers as Math1 says.
-/
import Derived.Test.YtaemegkdmbhpnaaImpl1
namespace Go.Proofs.Ytaemegkdmbhpnaa
open Go.RowKit

def cntl (xs : List Int) : List Int := [cnt xs 0, cnt xs 1, cnt xs 2, cnt xs 3]
theorem cntl_row (xs : List Int) (k : Nat) (h : k < 4) : (cnts xs)[k]? = some (.int .i64 (gi (cntl xs) k)) := by
  rcases (show k = 0 ∨ k = 1 ∨ k = 2 ∨ k = 3 by omega) with rfl | rfl | rfl | rfl <;> rfl
theorem above_cntl {xs : List Int} (h1 : 1 ≤ xs.length) (h2 : xs.length ≤ 12) (hb : ∀ k, k < xs.length → bad (gi xs k) = false) : vf xs = if above 6 (cntl xs) then 8 else 0 := by
  unfold vf
  rw [if_neg (by omega), if_neg (by rw [none_gi xs bad hb]; simp)]
  by_cases h : 6 < cnt xs 0 ∨ 6 < cnt xs 1 ∨ 6 < cnt xs 2 ∨ 6 < cnt xs 3
  · rw [if_pos h]
    have : above 6 (cntl xs) = true := by
      unfold above cntl
      simp only [List.any_cons, List.any_nil, Bool.or_false, Bool.or_eq_true, decide_eq_true_eq]
      omega
    rw [this]; rfl
  · rw [if_neg h]
    have : above 6 (cntl xs) = false := by
      unfold above cntl
      simp only [List.any_cons, List.any_nil, Bool.or_false, Bool.or_eq_false_iff, decide_eq_false_iff_not]
      omega
    rw [this]; rfl

theorem implVectorFault_any (lo hi : Nat) (A : Option Addr) (n c : Nat) (xs : List Int) (w : World) (hn : n * 8 ≤ 140737488351232) (ex : xs.length = n) (h : Sl w lo hi A n (fun k => .int .i64 (gi xs k))) :
    Calls Try.prog 153 #[.slice A n c] w fun e w' => e = .returned (.int .i64 (vf xs)) ∧ Below w.heap.size w w' := by
  have H := Lib.hid h
  have EX := Lib.hid ex
  clear h ex
  by_cases hn1 : n < 1
  · go_enter Try.func153, Try.ntmps153
    go_wp2
    go_ret
    exact ⟨ret_i64 (vf_many (by rw [EX.out]; omega)).symm, Below.refl _ _⟩
  by_cases hn2 : 12 < n
  · go_enter Try.func153, Try.ntmps153
    go_wp2
    go_ret
    exact ⟨ret_i64 (vf_many (by rw [EX.out]; omega)).symm, Below.refl _ _⟩
  go_enter Try.func153, Try.ntmps153
  go_wp2
  go_loop [16] (fun i => ∃ k : Nat, k ≤ n ∧ i = .int .i64 k ∧ ∀ j, j < k → bad (gi xs j) = false) (fun i => n - (intOf i).toNat)
  case atStart => exact ⟨0, Nat.zero_le _, rfl, fun j hj => absurd hj (Nat.not_lt_zero _)⟩
  case round =>
    obtain ⟨k, hk, rfl, hs⟩ := hrel
    have HS := Lib.hid hs
    clear hs
    by_cases hlt : k < n
    · obtain ⟨b, off, rfl, h1, h2, hc⟩ := H.out.at_ hlt
      have hck := hc k hlt
      clear hc H
      by_cases hb : gi xs k = -1
      · have hB := Lib.hid (bad_ok (.inl hb))
        have hd : (gi xs k != -1) = false := by simp [hb]
        clear hb
        go_wp2
        go_round
        case rel => exact ⟨k + 1, by omega, by go_num, upto_succ HS.out hB.out⟩
        case measure => simp [intOf]; omega
      · have hd : (gi xs k != -1) = true := by simp [hb]
        by_cases he : 0 ≤ gi xs k ∧ gi xs k < 4
        · have hB := Lib.hid (bad_ok (.inr he))
          have hie : inEnv (gi xs k) = true := inEnv_true he
          clear he hb
          go_wp2_with (go_at_call 181; refine (isEnv_any _ _).mono ?_; rintro e w' ⟨rfl, rfl⟩)
          go_round
          case rel => exact ⟨k + 1, by omega, by go_num, upto_succ HS.out hB.out⟩
          case measure => simp [intOf]; omega
        · have hB := Lib.hid (bad_true hb he)
          have hie : inEnv (gi xs k) = false := inEnv_false he
          clear he hb
          go_wp2_with (go_at_call 181; refine (isEnv_any _ _).mono ?_; rintro e w' ⟨rfl, rfl⟩)
          go_ret
          exact ⟨ret_i64 (vf_range (by rw [EX.out]; omega) (by rw [EX.out]; omega) (by rw [EX.out]; exact hlt) hB.out).symm, Below.refl _ _⟩
    · have HBAD : Hid (∀ k, k < xs.length → bad (gi xs k) = false) := fun j hj => HS.out j (by rw [EX.out] at hj; omega)
      have C := Lib.hid (vectorOf_any lo hi A n c xs w (by omega) EX.out H.out)
      have VF := Lib.hid (above_cntl (by rw [EX.out]; omega) (by rw [EX.out]; omega) HBAD.out)
      go_wp2_with fail
      refine C.out.mono ?_
      rintro e w1 ⟨cs, rfl, hvec, hb1⟩
      have C2 := Lib.hid (counts_any cs xs w1 hvec HBAD.out)
      clear hvec C
      go_wp2_with fail
      refine C2.out.mono ?_
      rintro e w2 ⟨rfl, hb2⟩
      have B2 := Lib.hid (hb1.trans (hb2.mono hb1.size))
      have B3 : Hid (Below w.heap.size w (w2.alloc (.cells (cnts xs) 218))) := B2.out.alloc B2.out.size _
      have SL : Hid (Sl (w2.alloc (.cells (cnts xs) 218)) 0 (w2.heap.size + 1) (some ⟨w2.heap.size, 0, none⟩) 4 (fun k => .int .i64 (gi (cntl xs) k))) :=
        (Row.new w2 (cnts xs) 218 _ 4 (fun k hk => cntl_row xs k hk)).sl (Nat.zero_le _) (by omega)
      clear hb1 hb2 C2
      cases hab : above 6 (cntl xs)
      all_goals
        simp only [cnts] at SL B3
        simp only [cnts]
        go_wp2_with (go_at_call 184; refine (anyAbove_any 0 (w2.heap.size + 1) _ 4 4 6 (cntl xs) _ (by omega) rfl SL.out).mono ?_; rintro e w' ⟨rfl, rfl⟩)
        go_ret
        exact ⟨ret_i64 (by rw [VF.out, hab]; rfl), B3.out⟩

end Go.Proofs.Ytaemegkdmbhpnaa
