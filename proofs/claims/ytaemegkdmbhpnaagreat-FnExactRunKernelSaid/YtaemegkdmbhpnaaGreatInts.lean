/-
  The laws' own helpers on slices of int64 (copy, compare, mark, look again): what each does, for every slice that can be read. No conditions beyond that the slices can be read.
-/
import Derived.Test.YtaemegkdmbhpnaaGreatChecked
import Derived.Test.YtaemegkdmbhpnaaGreatBase
namespace Go.Proofs.YtaemegkdmbhpnaaGreat
open Go.RowKit

theorem Tryz.info_i64 : (Tryz.prog.info? 2).map (fun i => (i.zero, i.size, i.bytes)) = some (some (.int .i64 0), 1, 8) := by kernel_rfl

/-- eqInt64S of two slices that read alike: true. -/
theorem eqInt64S_same (lo hi lo' hi' : Nat) (A A' : Option Addr) (n c c' : Nat) (x : Nat → Int) (w : World) (hn : n * 8 ≤ 140737488351232)
    (h : Sl w lo hi A n (fun k => .int .i64 (x k))) (h' : Sl w lo' hi' A' n (fun k => .int .i64 (x k))) :
    Calls Tryz.prog 48 #[.slice A n c, .slice A' n c'] w fun e w' => e = .returned (.bool true) ∧ Below w.heap.size w w' := by
  have H := Lib.hid h
  have H' := Lib.hid h'
  clear h h'
  go_enter Tryz.func48, Tryz.ntmps48
  go_wp2
  go_loopw [5] (fun i wr => ∃ k : Nat, k ≤ n ∧ i = .int .i64 k ∧ Below w.heap.size w wr) (fun i _ => n - (intOf i).toNat)
  case atStart => exact ⟨0, Nat.zero_le _, rfl, Below.refl _ _⟩
  case round =>
    obtain ⟨k, hk, rfl, hb⟩ := hrel
    by_cases hlt : k < n
    · obtain ⟨b, off, rfl, h1, h2, hc⟩ := H.out.lt.at_ hlt
      obtain ⟨b', off', rfl, h1', h2', hc'⟩ := H'.out.lt.at_ hlt
      have hck := (hb.cell (p := ⟨b, off + k, none⟩) (by simp; omega)).trans (hc k hlt)
      have hck' := (hb.cell (p := ⟨b', off' + k, none⟩) (by simp; omega)).trans (hc' k hlt)
      have HB := Lib.hid hb
      clear hb hc hc' H H'
      go_wp2_with fail
      go_quiet (fail)
      go_wp2
      go_roundw
      case rel => exact ⟨k + 1, by omega, by go_num, below_drewN HB.out _⟩
      case measure => simp [intOf]; omega
    · go_wp2
      go_ret
      exact ⟨rfl, hb⟩

/-- markInt64S of a row of one's own: the row reads k, k + 1, .. afterwards; nothing else turns. -/
theorem markInt64S_any (lo hi : Nat) (A : Option Addr) (n c : Nat) (x : Nat → Value) (m : Nat) (w : World) (hn : n * 8 ≤ 140737488351232) (hm : m ≤ 4611686018427387904)
    (hx : ∀ k, k < n → ∃ y, x k = .int .i64 y) (h : Mine w lo hi 2 A n x) :
    Calls Tryz.prog 52 #[.slice A n c, .int .i64 m] w fun e w' =>
      e = .returned (.int .i64 ((m + n : Nat) : Int)) ∧ Mine w' lo hi 2 A n (fun k => .int .i64 ((m + k : Nat) : Int)) ∧ Only lo hi w w' := by
  have H := Lib.hid h
  have X := Lib.hid hx
  clear h hx
  go_enter Tryz.func52, Tryz.ntmps52
  go_wp2
  go_loopw [1, 5] (fun q i wr => ∃ k : Nat, k ≤ n ∧ i = .int .i64 k ∧ q = .int .i64 ((m + k : Nat) : Int) ∧ Mine wr lo hi 2 A n (fun j => if j < k then .int .i64 ((m + j : Nat) : Int) else x j) ∧ Only lo hi w wr) (fun _ i _ => n - (intOf i).toNat)
  case atStart => exact ⟨0, Nat.zero_le _, rfl, rfl, H.out.congr (fun k hk => by simp), Only.refl _ _ _⟩
  case round =>
    obtain ⟨k, hk, rfl, rfl, hmine, hb⟩ := hrel
    by_cases hlt : k < n
    · rcases hmine with h0 | ⟨g, off, rfl, h1, h2, hrow⟩
      · omega
      obtain ⟨y, hy⟩ := X.out k hlt
      have hco := hrow.cell hlt
      simp only [Nat.lt_irrefl, if_false] at hco
      rw [hy] at hco
      have hfo := hrow.frozen (off + k)
      have R : Row (wr.setCell ⟨g, off + k, none⟩ (.int .i64 ((m + k : Nat) : Int))) g off 2 n (fun j => if j < k + 1 then .int .i64 ((m + j : Nat) : Int) else x j) := by
        refine (hrow.set hlt (.int .i64 ((m + k : Nat) : Int))).congr fun j hj => ?_
        by_cases e : j = k
        · subst e; simp
        · by_cases e2 : j < k
          · rw [if_neg e, if_pos e2, if_pos (by omega)]
          · rw [if_neg e, if_neg e2, if_neg (by omega)]
      have HR := Lib.hid R
      have HB := Lib.hid (hb.setCell (p := ⟨g, off + k, none⟩) h1 h2 (.int .i64 ((m + k : Nat) : Int)))
      have e1 : ((m + k : Nat) : Int) = (m : Int) + k := by omega
      rw [e1] at HR HB
      rw [e1]
      clear e1 R hb hrow H X hy
      go_wp2
      go_roundw
      case rel => exact ⟨k + 1, by omega, by go_num, by go_num, .inr ⟨g, off, rfl, h1, h2, HR.out⟩, HB.out⟩
      case measure => simp [intOf]; omega
    · have e0 : k = n := by omega
      subst e0
      go_wp2
      go_ret
      exact ⟨rfl, hmine.congr (fun j hj => by rw [if_pos hj]), hb⟩

/-- heldInt64S of a slice that reads m, m + 1, ..: m + n. -/
theorem heldInt64S_any (lo hi : Nat) (A : Option Addr) (n c : Nat) (m : Nat) (w : World) (hn : n * 8 ≤ 140737488351232) (hm : m ≤ 4611686018427387904)
    (h : Sl w lo hi A n (fun k => .int .i64 ((m + k : Nat) : Int))) :
    Calls Tryz.prog 55 #[.slice A n c, .int .i64 m] w fun e w' => e = .returned (.int .i64 ((m + n : Nat) : Int)) ∧ Below w.heap.size w w' := by
  have H := Lib.hid h
  clear h
  go_enter Tryz.func55, Tryz.ntmps55
  go_wp2
  go_loopw [1, 5] (fun q i wr => ∃ k : Nat, k ≤ n ∧ i = .int .i64 k ∧ q = .int .i64 ((m + k : Nat) : Int) ∧ Below w.heap.size w wr) (fun _ i _ => n - (intOf i).toNat)
  case atStart => exact ⟨0, Nat.zero_le _, rfl, rfl, Below.refl _ _⟩
  case round =>
    obtain ⟨k, hk, rfl, rfl, hb⟩ := hrel
    by_cases hlt : k < n
    · obtain ⟨b, off, rfl, h1, h2, hc⟩ := H.out.lt.at_ hlt
      have hck := (hb.cell (p := ⟨b, off + k, none⟩) (by simp; omega)).trans (hc k hlt)
      have HB := Lib.hid hb
      have e1 : ((m + k : Nat) : Int) = (m : Int) + k := by omega
      rw [e1] at hck
      rw [e1]
      clear e1 hb hc H
      go_wp2
      go_roundw
      case rel => exact ⟨k + 1, by omega, by go_num, by go_num, HB.out⟩
      case measure => simp [intOf]; omega
    · have e0 : k = n := by omega
      subst e0
      go_wp2
      go_ret
      exact ⟨rfl, hb⟩

/-- spec.SameInts: whether the two lists are one. -/
theorem specSameInts_any (lo hi lo' hi' : Nat) (A A' : Option Addr) (xs ys : List Int) (n n' c c' : Nat) (w : World) (hn : n * 8 ≤ 140737488351232) (ex : xs.length = n) (ey : ys.length = n')
    (h : Sl w lo hi A n (fun k => .int .i64 (gi xs k))) (h' : Sl w lo' hi' A' n' (fun k => .int .i64 (gi ys k))) :
    Calls Tryz.prog 82 #[.slice A n c, .slice A' n' c'] w fun e w' => e = .returned (.bool (decide (xs = ys))) ∧ Below w.heap.size w w' := by
  have H := Lib.hid h
  have H' := Lib.hid h'
  have EX := Lib.hid ex
  have EY := Lib.hid ey
  clear h h' ex ey
  by_cases hne : n = n'
  · subst hne
    go_enter Tryz.func82, Tryz.ntmps82
    go_wp2
    go_loopw [5] (fun i wr => ∃ k : Nat, k ≤ n ∧ i = .int .i64 k ∧ Below w.heap.size w wr ∧ ∀ j, j < k → gi xs j = gi ys j) (fun i _ => n - (intOf i).toNat)
    case atStart => exact ⟨0, Nat.zero_le _, rfl, Below.refl _ _, fun j hj => absurd hj (Nat.not_lt_zero _)⟩
    case round =>
      obtain ⟨k, hk, rfl, hb, hs⟩ := hrel
      by_cases hlt : k < n
      · obtain ⟨b, off, rfl, h1, h2, hc⟩ := H.out.lt.at_ hlt
        obtain ⟨b', off', rfl, h1', h2', hc'⟩ := H'.out.lt.at_ hlt
        have hck := (hb.cell (p := ⟨b, off + k, none⟩) (by simp; omega)).trans (hc k hlt)
        have hck' := (hb.cell (p := ⟨b', off' + k, none⟩) (by simp; omega)).trans (hc' k hlt)
        have HB := Lib.hid hb
        have HS := Lib.hid hs
        clear hb hc hc' hs H H'
        go_wp2_with fail
        go_quiet (fail)
        by_cases he : gi xs k = gi ys k
        · go_wp2
          go_roundw
          case rel => exact ⟨k + 1, by omega, by go_num, below_drewN HB.out _, upto_succ HS.out he⟩
          case measure => simp [intOf]; omega
        · go_wp2
          go_ret
          exact ⟨ret_false (fun h => he (by rw [h])), below_drewN HB.out _⟩
      · go_wp2
        go_ret
        exact ⟨ret_true (same_lists EX.out EY.out fun j hj => hs j (by omega)), hb⟩
  · go_enter Tryz.func82, Tryz.ntmps82
    go_wp2
    go_ret
    exact ⟨ret_false (fun h => hne (by rw [← EX.out, ← EY.out, h])), Below.refl _ _⟩

end Go.Proofs.YtaemegkdmbhpnaaGreat
