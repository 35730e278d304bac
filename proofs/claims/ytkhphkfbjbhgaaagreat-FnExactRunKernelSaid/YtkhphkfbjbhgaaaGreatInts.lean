/-
  The laws' own helpers on slices of int64 (copy, compare, mark, look again): what each does, for every slice that can be read. No conditions beyond that the slices can be read.
-/
import Derived.Test.YtkhphkfbjbhgaaaGreatChecked
import Derived.Test.YtkhphkfbjbhgaaaGreatBase
namespace Go.Proofs.YtkhphkfbjbhgaaaGreat
open Go.RowKit

set_option maxHeartbeats 1000000 in
theorem Tryz.info_i64 : (Tryz.prog.info? 2).map (fun i => (i.zero, i.size, i.bytes)) = some (some (.int .i64 0), 1, 8) := by kernel_rfl

set_option maxHeartbeats 1000000 in
/-- eqInt64S of two slices that read alike: true. -/
theorem eqInt64S_same (lo hi lo' hi' : Nat) (A A' : Option Addr) (n c c' : Nat) (x : Nat → Int) (w : World) (hn : n * 8 ≤ 140737488351232)
    (h : Sl w lo hi A n (fun k => .int .i64 (x k))) (h' : Sl w lo' hi' A' n (fun k => .int .i64 (x k))) :
    Calls Tryz.prog 72 #[.slice A n c, .slice A' n c'] w fun e w' => e = .returned (.bool true) ∧ Below w.heap.size w w' := by
  have H := Lib.hid h
  have H' := Lib.hid h'
  clear h h'
  go_enter Tryz.func72, Tryz.ntmps72
  go_wp2
  go_loopw [5] (fun i wr => ∃ k : Nat, k ≤ n ∧ i = .int .i64 k ∧ Below w.heap.size w wr) (fun i _ => n - (intOf i).toNat)
  case atStart => exact ⟨0, Nat.zero_le _, rfl, Below.refl _ _⟩
  case round =>
    obtain ⟨k, hk, rfl, hb⟩ := hrel
    by_cases hlt : k < n
    · obtain ⟨b, off, rfl, h1, h2, hc⟩ := H.out.lt.at_ hlt
      obtain ⟨b', off', rfl, h1', h2', hc'⟩ := H'.out.lt.at_ hlt
      have hck := (hb.cell (p := ⟨b, off + k, none⟩) (by simp; omega)).trans (hc k hlt)
      have hck' := (hb.cell (p := ⟨b', off' + k, none⟩) (by simp; omega)).trans (hc' k hlt)
      have HB := Lib.hid hb
      clear hb hc hc' H H'
      go_wp2_with fail
      go_quiet (fail)
      go_wp2
      go_roundw
      case rel => exact ⟨k + 1, by omega, by go_num, below_drewN HB.out _⟩
      case measure => simp [intOf]; omega
    · go_wp2
      go_ret
      exact ⟨rfl, hb⟩

set_option maxHeartbeats 1000000 in
/-- markInt64S of a row of one's own: the row reads k, k + 1, .. afterwards; nothing else turns. -/
theorem markInt64S_any (lo hi : Nat) (A : Option Addr) (n c : Nat) (x : Nat → Value) (m : Nat) (w : World) (hn : n * 8 ≤ 140737488351232) (hm : m ≤ 4611686018427387904)
    (hx : ∀ k, k < n → ∃ y, x k = .int .i64 y) (h : Mine w lo hi 2 A n x) :
    Calls Tryz.prog 73 #[.slice A n c, .int .i64 m] w fun e w' =>
      e = .returned (.int .i64 ((m + n : Nat) : Int)) ∧ Mine w' lo hi 2 A n (fun k => .int .i64 ((m + k : Nat) : Int)) ∧ Only lo hi w w' := by
  have H := Lib.hid h
  have X := Lib.hid hx
  clear h hx
  go_enter Tryz.func73, Tryz.ntmps73
  go_wp2
  go_loopw [1, 5] (fun q i wr => ∃ k : Nat, k ≤ n ∧ i = .int .i64 k ∧ q = .int .i64 ((m + k : Nat) : Int) ∧ Mine wr lo hi 2 A n (fun j => if j < k then .int .i64 ((m + j : Nat) : Int) else x j) ∧ Only lo hi w wr) (fun _ i _ => n - (intOf i).toNat)
  case atStart => exact ⟨0, Nat.zero_le _, rfl, rfl, H.out.congr (fun k hk => by simp), Only.refl _ _ _⟩
  case round =>
    obtain ⟨k, hk, rfl, rfl, hmine, hb⟩ := hrel
    by_cases hlt : k < n
    · rcases hmine with h0 | ⟨g, off, rfl, h1, h2, hrow⟩
      · omega
      obtain ⟨y, hy⟩ := X.out k hlt
      have hco := hrow.cell hlt
      simp only [Nat.lt_irrefl, if_false] at hco
      rw [hy] at hco
      have hfo := hrow.frozen (off + k)
      have R : Row (wr.setCell ⟨g, off + k, none⟩ (.int .i64 ((m + k : Nat) : Int))) g off 2 n (fun j => if j < k + 1 then .int .i64 ((m + j : Nat) : Int) else x j) := by
        refine (hrow.set hlt (.int .i64 ((m + k : Nat) : Int))).congr fun j hj => ?_
        by_cases e : j = k
        · subst e; simp
        · by_cases e2 : j < k
          · rw [if_neg e, if_pos e2, if_pos (by omega)]
          · rw [if_neg e, if_neg e2, if_neg (by omega)]
      have HR := Lib.hid R
      have HB := Lib.hid (hb.setCell (p := ⟨g, off + k, none⟩) h1 h2 (.int .i64 ((m + k : Nat) : Int)))
      have e1 : ((m + k : Nat) : Int) = (m : Int) + k := by omega
      rw [e1] at HR HB
      rw [e1]
      clear e1 R hb hrow H X hy
      go_wp2
      go_roundw
      case rel => exact ⟨k + 1, by omega, by go_num, by go_num, .inr ⟨g, off, rfl, h1, h2, HR.out⟩, HB.out⟩
      case measure => simp [intOf]; omega
    · have e0 : k = n := by omega
      subst e0
      go_wp2
      go_ret
      exact ⟨rfl, hmine.congr (fun j hj => by rw [if_pos hj]), hb⟩

set_option maxHeartbeats 1000000 in
/-- heldInt64S of a slice that reads m, m + 1, ..: m + n. -/
theorem heldInt64S_any (lo hi : Nat) (A : Option Addr) (n c : Nat) (m : Nat) (w : World) (hn : n * 8 ≤ 140737488351232) (hm : m ≤ 4611686018427387904)
    (h : Sl w lo hi A n (fun k => .int .i64 ((m + k : Nat) : Int))) :
    Calls Tryz.prog 74 #[.slice A n c, .int .i64 m] w fun e w' => e = .returned (.int .i64 ((m + n : Nat) : Int)) ∧ Below w.heap.size w w' := by
  have H := Lib.hid h
  clear h
  go_enter Tryz.func74, Tryz.ntmps74
  go_wp2
  go_loopw [1, 5] (fun q i wr => ∃ k : Nat, k ≤ n ∧ i = .int .i64 k ∧ q = .int .i64 ((m + k : Nat) : Int) ∧ Below w.heap.size w wr) (fun _ i _ => n - (intOf i).toNat)
  case atStart => exact ⟨0, Nat.zero_le _, rfl, rfl, Below.refl _ _⟩
  case round =>
    obtain ⟨k, hk, rfl, rfl, hb⟩ := hrel
    by_cases hlt : k < n
    · obtain ⟨b, off, rfl, h1, h2, hc⟩ := H.out.lt.at_ hlt
      have hck := (hb.cell (p := ⟨b, off + k, none⟩) (by simp; omega)).trans (hc k hlt)
      have HB := Lib.hid hb
      have e1 : ((m + k : Nat) : Int) = (m : Int) + k := by omega
      rw [e1] at hck
      rw [e1]
      clear e1 hb hc H
      go_wp2
      go_roundw
      case rel => exact ⟨k + 1, by omega, by go_num, by go_num, HB.out⟩
      case measure => simp [intOf]; omega
    · have e0 : k = n := by omega
      subst e0
      go_wp2
      go_ret
      exact ⟨rfl, hb⟩

end Go.Proofs.YtkhphkfbjbhgaaaGreat
