/-
  The laws' helpers on kernels and on answers of chapter 3: marks, copies, sizes. No conditions beyond that the lists can be read, or are the call's own.
-/
import Derived.Test.YtkhphkfbjbhgaaaKit3
import Derived.Test.YtkhphkfbjbhgaaaInts
import Derived.Test.YtkhphkfbjbhgaaaKer3

-- Kit3b
namespace Go.Proofs.Ytkhphkfbjbhgaaa
open Go.RowKit

theorem eqNote_same (a b c : Int) (w : World) :
    Calls Try.prog 16 #[.agg #[.int .i64 a, .int .i64 b, .int .i64 c], .agg #[.int .i64 a, .int .i64 b, .int .i64 c]] w fun e w' => e = .returned (.bool true) ∧ Below w.heap.size w w' := by
  have B2 : Hid (∀ o o', Below w.heap.size w ((w.alloc o).alloc o')) := fun o o' => ((Below.refl _ _).alloc (Nat.le_refl _) o).alloc (by simp) o'
  go_enter Try.func16, Try.ntmps16
  go_wp2
  go_ret
  exact ⟨rfl, B2.out _ _⟩

/-- eqNoteS of two slices that read alike: true. -/
theorem eqNoteS_same (lo hi lo' hi' : Nat) (A A' : Option Addr) (n c c' : Nat) (x : Nat → Int) (w : World) (hn : n * 24 ≤ 140737488351232)
    (h : Sl w lo hi A (n * 3) (fun k => .int .i64 (x k))) (h' : Sl w lo' hi' A' (n * 3) (fun k => .int .i64 (x k))) :
    Calls Try.prog 9 #[.slice A n c, .slice A' n c'] w fun e w' => e = .returned (.bool true) ∧ Below w.heap.size w w' := by
  have H := Lib.hid h
  have H' := Lib.hid h'
  clear h h'
  go_enter Try.func9, Try.ntmps9
  go_wp2
  go_loopw [5] (fun i wr => ∃ k : Nat, k ≤ n ∧ i = .int .i64 k ∧ Below w.heap.size w wr) (fun i _ => n - (intOf i).toNat)
  case atStart => exact ⟨0, Nat.zero_le _, rfl, Below.refl _ _⟩
  case round =>
    obtain ⟨k, hk, rfl, hb⟩ := hrel
    by_cases hlt : k < n
    · obtain ⟨b, off, rfl, h1, h2, hc⟩ := H.out.lt.at_ (show k * 3 < n * 3 by omega)
      obtain ⟨b', off', rfl, h1', h2', hc'⟩ := H'.out.lt.at_ (show k * 3 < n * 3 by omega)
      have p0 : wr.cell? ⟨b, off + k * 3, none⟩ = some (.int .i64 (x (k * 3))) := (hb.cell (p := ⟨b, off + (k * 3), none⟩) (by simp; omega)).trans (hc (k * 3) (by omega))
      have p1 : wr.cell? ⟨b, off + k * 3 + 1, none⟩ = some (.int .i64 (x (k * 3 + 1))) := (hb.cell (p := ⟨b, off + (k * 3 + 1), none⟩) (by simp; omega)).trans (hc (k * 3 + 1) (by omega))
      have p2 : wr.cell? ⟨b, off + k * 3 + 2, none⟩ = some (.int .i64 (x (k * 3 + 2))) := (hb.cell (p := ⟨b, off + (k * 3 + 2), none⟩) (by simp; omega)).trans (hc (k * 3 + 2) (by omega))
      have q0 : wr.cell? ⟨b', off' + k * 3, none⟩ = some (.int .i64 (x (k * 3))) := (hb.cell (p := ⟨b', off' + (k * 3), none⟩) (by simp; omega)).trans (hc' (k * 3) (by omega))
      have q1 : wr.cell? ⟨b', off' + k * 3 + 1, none⟩ = some (.int .i64 (x (k * 3 + 1))) := (hb.cell (p := ⟨b', off' + (k * 3 + 1), none⟩) (by simp; omega)).trans (hc' (k * 3 + 1) (by omega))
      have q2 : wr.cell? ⟨b', off' + k * 3 + 2, none⟩ = some (.int .i64 (x (k * 3 + 2))) := (hb.cell (p := ⟨b', off' + (k * 3 + 2), none⟩) (by simp; omega)).trans (hc' (k * 3 + 2) (by omega))
      have HB := Lib.hid hb
      clear hb hc hc' H H'
      go_wp2_with fail
      go_region_with (refine (eqNote_same _ _ _ _).mono ?_; rintro e w1 ⟨rfl, hb1⟩; have HB1 := Lib.hid ((below_drewN HB.out 1).trans (hb1.mono HB.out.size)); clear hb1)
      all_goals
        go_wp2
        go_roundw
        case rel => exact ⟨k + 1, by omega, by go_num, HB1.out⟩
        case measure => simp [intOf]; omega
    · go_wp2
      go_ret
      exact ⟨rfl, hb⟩

end Go.Proofs.Ytkhphkfbjbhgaaa

-- Kit3c
namespace Go.Proofs.Ytkhphkfbjbhgaaa
open Go.RowKit

/-- the block of a list, if it has anything -/
def gsOf (n g : Nat) : List Nat := if n = 0 then [] else [g]
theorem Mine.keptOf {n1 g1 n g : Nat} {w w' : World} {t : TypeId} {A : Option Addr} {f : Nat → Value} (h : Mine w g (g + 1) t A n f) (k : Kept (gsOf n1 g1) w w') (d : n1 ≠ 0 → n ≠ 0 → g1 ≠ g) : Mine w' g (g + 1) t A n f := by
  by_cases h0 : n = 0
  · exact .inl h0
  · by_cases h1 : n1 = 0
    · rw [gsOf, if_pos h1] at k
      exact h.kept k (by simp)
    · rw [gsOf, if_neg h1] at k
      exact h.kept k (by simp; exact fun e => d h1 h0 e.symm)
theorem Kept.of_only {g : Nat} {w w' : World} (h : Only g (g + 1) w w') : Kept [g] w w' :=
  ⟨h.1.mono (Nat.zero_le _), fun b hb hn => by
    by_cases hlt : b < g
    · exact h.1.block b hlt
    · exact h.2 b (by simp at hn; omega) hb⟩
theorem Kept.of_none {w w' : World} (h : Only 0 0 w w') : Kept [] w w' := ⟨h.1, fun b hb _ => h.2 b (Nat.zero_le _) hb⟩

theorem gs_notin {n g b : Nat} (h : g ≠ b) : b ∉ gsOf n g := by
  unfold gsOf
  split
  · simp
  · simp; omega
/-- what szKernel leaves of left -/
def szk (left : Int) (n1 n2 n3 : Nat) : Int := if left - n1 < 0 then -1 else if left - n1 - n2 < 0 then -1 else if left - n1 - n2 - n3 < 0 then -1 else left - n1 - n2 - n3
end Go.Proofs.Ytkhphkfbjbhgaaa
