/-
  The model's functions of chapter 4 on entries: what is less, what is right, who has an id. No conditions beyond that the heap can be read.
-/
import Derived.BigRegion
import Derived.BigQuiet
import Derived.StillTailTactics
import Derived.Deep.RegionHeld3
import Derived.Test.YtckapndpefkcgaaKit4
import Derived.Test.YtckapndpefkcgaaMath4
import Derived.Test.YtckapndpefkcgaaSpec1
set_option maxHeartbeats 1000000
namespace Go.Proofs.Ytckapndpefkcgaa
open Go.RowKit
set_option maxRecDepth 100000

theorem specIsLess_any (p d p' d' : Int) (w : World) :
    Calls Try.prog 22 #[.agg #[.int .i64 p, .int .i64 d], .agg #[.int .i64 p', .int .i64 d']] w fun e w' => e = .returned (.bool (lt4 p d p' d')) ∧ Below w.heap.size w w' := by
  have B2 : Hid (∀ o o', Below w.heap.size w ((w.alloc o).alloc o')) := fun o o' => ((Below.refl _ _).alloc (Nat.le_refl _) o).alloc (by simp) o'
  rcases Int.lt_trichotomy p p' with h1 | h1 | h1
  · go_enter Try.func22, Try.ntmps22
    go_wp2
    go_ret
    exact ⟨ret_bool (by simp [lt4, h1]), B2.out _ _⟩
  · subst h1
    by_cases h3 : d < d'
    · go_enter Try.func22, Try.ntmps22
      go_wp2
      go_ret
      exact ⟨ret_bool (by simp [lt4, h3]), B2.out _ _⟩
    · go_enter Try.func22, Try.ntmps22
      go_wp2
      go_ret
      exact ⟨ret_bool (by simp [lt4, h3]), B2.out _ _⟩
  · have h2 : ¬ p < p' := by omega
    have h3 : ¬ p = p' := by omega
    go_enter Try.func22, Try.ntmps22
    go_wp2
    go_ret
    exact ⟨ret_bool (by simp [lt4, h2, h3]), B2.out _ _⟩

theorem l4Entry_any (b off : Nat) (p d : Int) (w : World) (h1 : w.cell? ⟨b, off, none⟩ = some (.int .i64 p)) (h2 : w.cell? ⟨b, off + 1, none⟩ = some (.int .i64 d)) :
    Calls Try.prog 63 #[.pointer (some ⟨b, off, none⟩)] w fun e w' => e = .returned (.bool (okE p d)) ∧ w = w' := by
  by_cases h3 : 0 ≤ p ∧ p ≤ 100000000
  · have e1 := inR_true (show (0 : Int) ≤ p ∧ p ≤ 100000000 from h3)
    go_enter Try.func63, Try.ntmps63
    go_wp2_with fail
    refine (l1In_any p 0 100000000 _).mono ?_
    rintro e w' ⟨rfl, rfl⟩
    rw [e1]
    go_wp2_with fail
    refine (l1In_any d 0 99 _).mono ?_
    rintro e w' ⟨rfl, rfl⟩
    go_wp2
    go_ret
    exact ⟨ret_bool (by
      by_cases h4 : 0 ≤ d ∧ d ≤ 99
      · rw [inR_true h4]; simp [okE, h3, h4]
      · rw [inR_false h4]; simp [okE, h3]; omega), rfl⟩
  · have e1 := inR_false (show ¬ ((0 : Int) ≤ p ∧ p ≤ 100000000) from h3)
    go_enter Try.func63, Try.ntmps63
    go_wp2_with fail
    refine (l1In_any p 0 100000000 _).mono ?_
    rintro e w' ⟨rfl, rfl⟩
    rw [e1]
    go_wp2
    go_ret
    exact ⟨ret_bool (by simp [okE]; omega), rfl⟩

def fnd (hs : List Int) (n : Nat) (id r : Int) : Prop := (r = -1 ∧ hasE hs n id = false) ∨ (∃ i, i < n ∧ r = ((i : Nat) : Int) ∧ gi hs (i * 2 + 1) = id ∧ hasE hs i id = false)
theorem l4Find_any (lo hi : Nat) (A : Option Addr) (n c : Nat) (hs : List Int) (id : Int) (w : World) (hn : n * 16 ≤ 140737488351232) (h : Sl w lo hi A (n * 2) (fun k => .int .i64 (gi hs k))) :
    Calls Try.prog 64 #[.slice A n c, .int .i64 id] w fun e w' => ∃ r, fnd hs n id r ∧ e = .returned (.int .i64 r) ∧ w = w' := by
  have H := Lib.hid h
  clear h
  go_enter Try.func64, Try.ntmps64
  go_wp2
  go_loop [5] (fun i => ∃ k : Nat, k ≤ n ∧ i = .int .i64 k ∧ hasE hs k id = false) (fun i => n - (intOf i).toNat)
  case atStart => exact ⟨0, Nat.zero_le _, rfl, rfl⟩
  case round =>
    obtain ⟨k, hk, rfl, hno⟩ := hrel
    have NO := Lib.hid hno
    clear hno
    by_cases hlt : k < n
    · obtain ⟨b, off, rfl, h1, h2, hc⟩ := H.out.at_ (show k * 2 < n * 2 by omega)
      have hck : w.cell? ⟨b, off + k * 2 + 1, none⟩ = some (.int .i64 (gi hs (k * 2 + 1))) := hc (k * 2 + 1) (by omega)
      clear hc H
      by_cases he : gi hs (k * 2 + 1) = id
      · have HE := Lib.hid he
        rw [he] at hck
        clear he
        go_wp2
        go_ret
        exact ⟨_, .inr ⟨k, hlt, rfl, HE.out, NO.out⟩, rfl, rfl⟩
      · have HE : Hid (hasE hs (k + 1) id = false) := by
          show _ = _
          unfold hasE; rw [anyTo_succ]; have := NO.out; unfold hasE at this; rw [this]; simp [he]
        go_wp2
        go_round
        case rel => exact ⟨k + 1, by omega, by go_num, HE.out⟩
        case measure => simp [intOf]; omega
    · obtain rfl : k = n := by omega
      go_wp2
      go_ret
      exact ⟨_, .inl ⟨rfl, NO.out⟩, rfl, rfl⟩
theorem fnd_dup {hs : List Int} {n i : Nat} {r : Int} (h : fnd hs n (gi hs (i * 2 + 1)) r) (hi : i < n) : (r ≠ (i : Int)) = (dupE hs i = true) := by
  unfold dupE
  rcases h with ⟨rfl, h⟩ | ⟨j, hj, rfl, he, hno⟩
  · exfalso
    have := anyTo_false.1 h i hi
    simp at this
  · rcases Nat.lt_trichotomy j i with h1 | h1 | h1
    · have : hasE hs i (gi hs (i * 2 + 1)) = true := anyTo_true h1 (by simp [he])
      rw [this]
      simp; omega
    · subst h1
      rw [hno]; simp
    · exfalso
      have := anyTo_false.1 hno i h1
      simp at this
theorem fnd_has {hs : List Int} {n : Nat} {id r : Int} (h : fnd hs n id r) : (0 ≤ r) = (hasE hs n id = true) := by
  rcases h with ⟨rfl, h⟩ | ⟨j, hj, rfl, he, hno⟩
  · rw [h]; simp
  · have : hasE hs n id = true := anyTo_true hj (by simp [he])
    rw [this]; simp

end Go.Proofs.Ytckapndpefkcgaa
