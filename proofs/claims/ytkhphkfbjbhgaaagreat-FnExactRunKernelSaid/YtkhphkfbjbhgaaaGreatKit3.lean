/-
  The laws' helpers on slices of accounts: copy, compare, mark, look again: what each does, for every slice that can be read. No conditions beyond that the slices can be read.
-/
import Derived.Test.YtkhphkfbjbhgaaaGreatChecked
import Derived.Test.YtkhphkfbjbhgaaaGreatBase
import Derived.Test.YtkhphkfbjbhgaaaGreatBase3
import Derived.Test.YtkhphkfbjbhgaaaGreatAcc2
-- Bools
namespace Go.Proofs.YtkhphkfbjbhgaaaGreat
open Go.RowKit

/-- a count's mark in a bool -/
def m3 (m : Nat) : Bool := decide (((m : Nat) : Int).tmod 3 = 0)
set_option maxHeartbeats 1000000 in
theorem m3_eq (m : Nat) : m3 m = decide (((m : Nat) : Int).tmod 3 = 0) := rfl
set_option maxHeartbeats 1000000 in
theorem Tryz.info_bool : (Tryz.prog.info? 4).map (fun i => (i.zero, i.size, i.bytes)) = some (some (.bool false), 1, 1) := by kernel_rfl

set_option maxHeartbeats 1000000 in
/-- eqBoolS of two slices that read alike: true. -/
theorem eqBoolS_same (lo hi lo' hi' : Nat) (A A' : Option Addr) (n c c' : Nat) (x : Nat → Bool) (w : World) (hn : n * 8 ≤ 140737488351232)
    (h : Sl w lo hi A n (fun k => .bool (x k))) (h' : Sl w lo' hi' A' n (fun k => .bool (x k))) :
    Calls Tryz.prog 139 #[.slice A n c, .slice A' n c'] w fun e w' => e = .returned (.bool true) ∧ Below w.heap.size w w' := by
  have H := Lib.hid h
  have H' := Lib.hid h'
  clear h h'
  go_enter Tryz.func139, Tryz.ntmps139
  go_wp2
  go_loopw [5] (fun i wr => ∃ k : Nat, k ≤ n ∧ i = .int .i64 k ∧ Below w.heap.size w wr) (fun i _ => n - (intOf i).toNat)
  case atStart => exact ⟨0, Nat.zero_le _, rfl, Below.refl _ _⟩
  case round =>
    obtain ⟨k, hk, rfl, hb⟩ := hrel
    by_cases hlt : k < n
    · obtain ⟨b, off, rfl, h1, h2, hc⟩ := H.out.lt.at_ hlt
      obtain ⟨b', off', rfl, h1', h2', hc'⟩ := H'.out.lt.at_ hlt
      have hck := (hb.cell (p := ⟨b, off + k, none⟩) (by simp; omega)).trans (hc k hlt)
      have hck' := (hb.cell (p := ⟨b', off' + k, none⟩) (by simp; omega)).trans (hc' k hlt)
      have HB := Lib.hid hb
      clear hb hc hc' H H'
      go_wp2_with fail
      go_quiet (fail)
      go_wp2
      go_roundw
      case rel => exact ⟨k + 1, by omega, by go_num, below_drewN HB.out _⟩
      case measure => simp [intOf]; omega
    · go_wp2
      go_ret
      exact ⟨rfl, hb⟩

set_option maxHeartbeats 1000000 in
/-- markBoolS of a row of one's own: the row reads k, k + 1, .. afterwards; nothing else turns. -/
theorem markBoolS_any (lo hi : Nat) (A : Option Addr) (n c : Nat) (x : Nat → Value) (m : Nat) (w : World) (hn : n * 8 ≤ 140737488351232) (hm : m ≤ 4611686018427387904)
    (hx : ∀ k, k < n → ∃ y, x k = .bool y) (h : Mine w lo hi 4 A n x) :
    Calls Tryz.prog 142 #[.slice A n c, .int .i64 m] w fun e w' =>
      e = .returned (.int .i64 ((m + n : Nat) : Int)) ∧ Mine w' lo hi 4 A n (fun k => .bool (m3 (m + k))) ∧ Only lo hi w w' := by
  have H := Lib.hid h
  have X := Lib.hid hx
  clear h hx
  go_enter Tryz.func142, Tryz.ntmps142
  go_wp2
  go_loopw [1, 5] (fun q i wr => ∃ k : Nat, k ≤ n ∧ i = .int .i64 k ∧ q = .int .i64 ((m + k : Nat) : Int) ∧ Mine wr lo hi 4 A n (fun j => if j < k then .bool (m3 (m + j)) else x j) ∧ Only lo hi w wr) (fun _ i _ => n - (intOf i).toNat)
  case atStart => exact ⟨0, Nat.zero_le _, rfl, rfl, H.out.congr (fun k hk => by simp), Only.refl _ _ _⟩
  case round =>
    obtain ⟨k, hk, rfl, rfl, hmine, hb⟩ := hrel
    by_cases hlt : k < n
    · rcases hmine with h0 | ⟨g, off, rfl, h1, h2, hrow⟩
      · omega
      obtain ⟨y, hy⟩ := X.out k hlt
      have hco := hrow.cell hlt
      simp only [Nat.lt_irrefl, if_false] at hco
      rw [hy] at hco
      have hfo := hrow.frozen (off + k)
      have R : Row (wr.setCell ⟨g, off + k, none⟩ (.bool (m3 (m + k)))) g off 4 n (fun j => if j < k + 1 then .bool (m3 (m + j)) else x j) := by
        refine (hrow.set hlt (.bool (m3 (m + k)))).congr fun j hj => ?_
        by_cases e : j = k
        · subst e; simp
        · by_cases e2 : j < k
          · rw [if_neg e, if_pos e2, if_pos (by omega)]
          · rw [if_neg e, if_neg e2, if_neg (by omega)]
      have HR := Lib.hid R
      have HB := Lib.hid (hb.setCell (p := ⟨g, off + k, none⟩) h1 h2 (.bool (m3 (m + k))))
      have e1 : ((m + k : Nat) : Int) = (m : Int) + k := by omega
      rw [m3_eq (m + k), e1] at HR HB
      rw [e1]
      clear e1 R hb hrow H X hy
      go_wp2
      go_roundw
      case rel => exact ⟨k + 1, by omega, by go_num, by go_num, .inr ⟨g, off, rfl, h1, h2, HR.out⟩, HB.out⟩
      case measure => simp [intOf]; omega
    · have e0 : k = n := by omega
      subst e0
      go_wp2
      go_ret
      exact ⟨rfl, hmine.congr (fun j hj => by rw [if_pos hj]), hb⟩

set_option maxHeartbeats 1000000 in
/-- heldBoolS of a slice that reads m, m + 1, ..: m + n. -/
theorem heldBoolS_any (lo hi : Nat) (A : Option Addr) (n c : Nat) (m : Nat) (w : World) (hn : n * 8 ≤ 140737488351232) (hm : m ≤ 4611686018427387904)
    (h : Sl w lo hi A n (fun k => .bool (m3 (m + k)))) :
    Calls Tryz.prog 144 #[.slice A n c, .int .i64 m] w fun e w' => e = .returned (.int .i64 ((m + n : Nat) : Int)) ∧ Below w.heap.size w w' := by
  have H := Lib.hid h
  clear h
  go_enter Tryz.func144, Tryz.ntmps144
  go_wp2
  go_loopw [1, 5] (fun q i wr => ∃ k : Nat, k ≤ n ∧ i = .int .i64 k ∧ q = .int .i64 ((m + k : Nat) : Int) ∧ Below w.heap.size w wr) (fun _ i _ => n - (intOf i).toNat)
  case atStart => exact ⟨0, Nat.zero_le _, rfl, rfl, Below.refl _ _⟩
  case round =>
    obtain ⟨k, hk, rfl, rfl, hb⟩ := hrel
    by_cases hlt : k < n
    · obtain ⟨b, off, rfl, h1, h2, hc⟩ := H.out.lt.at_ hlt
      have hck := (hb.cell (p := ⟨b, off + k, none⟩) (by simp; omega)).trans (hc k hlt)
      have HB := Lib.hid hb
      have e1 : ((m + k : Nat) : Int) = (m : Int) + k := by omega
      rw [m3_eq (m + k), e1] at hck
      rw [e1]
      clear e1 hb hc H
      obtain ⟨bb, hbb⟩ : ∃ bb, bb = decide (((m : Int) + (k : Int)).tmod 3 = 0) := ⟨_, rfl⟩
      rw [← hbb] at hck
      have hb3 := hbb.symm
      have hb2 : (((m : Int) + (k : Int)) % 3 == 0) = bb := by rw [hbb, Int.tmod_eq_emod_of_nonneg (by omega)]; rfl
      have hb4 : decide (((m : Int) + (k : Int)) % 3 = 0) = bb := by rw [hbb, Int.tmod_eq_emod_of_nonneg (by omega)]
      clear hbb
      cases bb
      all_goals
        go_wp2
        go_roundw
        case rel => exact ⟨k + 1, by omega, by go_num, by go_num, HB.out⟩
        case measure => simp [intOf]; omega
    · have e0 : k = n := by omega
      subst e0
      go_wp2
      go_ret
      exact ⟨rfl, hb⟩

end Go.Proofs.YtkhphkfbjbhgaaaGreat

-- Kit3
namespace Go.Proofs.YtkhphkfbjbhgaaaGreat
open Go.RowKit

set_option maxHeartbeats 1000000 in
theorem Tryz.info_Account : (Tryz.prog.info? 88).map (fun i => (i.zero, i.size, i.bytes)) = some (some (.agg #[.int .i64 0, .int .i64 0, .int .i64 0, .int .i64 0]), 4, 32) := by kernel_rfl

set_option maxHeartbeats 1000000 in
/-- eqAccountS of two slices that read alike: true. -/
theorem eqAccountS_same (lo hi lo' hi' : Nat) (A A' : Option Addr) (n c c' : Nat) (x : Nat → Int) (w : World) (hn : n * 32 ≤ 140737488351232)
    (h : Sl w lo hi A (n * 4) (fun k => .int .i64 (x k))) (h' : Sl w lo' hi' A' (n * 4) (fun k => .int .i64 (x k))) :
    Calls Tryz.prog 140 #[.slice A n c, .slice A' n c'] w fun e w' => e = .returned (.bool true) ∧ Below w.heap.size w w' := by
  have H := Lib.hid h
  have H' := Lib.hid h'
  clear h h'
  go_enter Tryz.func140, Tryz.ntmps140
  go_wp2
  go_loopw [5] (fun i wr => ∃ k : Nat, k ≤ n ∧ i = .int .i64 k ∧ Below w.heap.size w wr) (fun i _ => n - (intOf i).toNat)
  case atStart => exact ⟨0, Nat.zero_le _, rfl, Below.refl _ _⟩
  case round =>
    obtain ⟨k, hk, rfl, hb⟩ := hrel
    by_cases hlt : k < n
    · obtain ⟨b, off, rfl, h1, h2, hc⟩ := H.out.lt.at_ (show k * 4 < n * 4 by omega)
      obtain ⟨b', off', rfl, h1', h2', hc'⟩ := H'.out.lt.at_ (show k * 4 < n * 4 by omega)
      have p0 : wr.cell? ⟨b, off + k * 4, none⟩ = some (.int .i64 (x (k * 4))) := (hb.cell (p := ⟨b, off + (k * 4), none⟩) (by simp; omega)).trans (hc (k * 4) (by omega))
      have p1 : wr.cell? ⟨b, off + k * 4 + 1, none⟩ = some (.int .i64 (x (k * 4 + 1))) := (hb.cell (p := ⟨b, off + (k * 4 + 1), none⟩) (by simp; omega)).trans (hc (k * 4 + 1) (by omega))
      have p2 : wr.cell? ⟨b, off + k * 4 + 2, none⟩ = some (.int .i64 (x (k * 4 + 2))) := (hb.cell (p := ⟨b, off + (k * 4 + 2), none⟩) (by simp; omega)).trans (hc (k * 4 + 2) (by omega))
      have p3 : wr.cell? ⟨b, off + k * 4 + 3, none⟩ = some (.int .i64 (x (k * 4 + 3))) := (hb.cell (p := ⟨b, off + (k * 4 + 3), none⟩) (by simp; omega)).trans (hc (k * 4 + 3) (by omega))
      have q0 : wr.cell? ⟨b', off' + k * 4, none⟩ = some (.int .i64 (x (k * 4))) := (hb.cell (p := ⟨b', off' + (k * 4), none⟩) (by simp; omega)).trans (hc' (k * 4) (by omega))
      have q1 : wr.cell? ⟨b', off' + k * 4 + 1, none⟩ = some (.int .i64 (x (k * 4 + 1))) := (hb.cell (p := ⟨b', off' + (k * 4 + 1), none⟩) (by simp; omega)).trans (hc' (k * 4 + 1) (by omega))
      have q2 : wr.cell? ⟨b', off' + k * 4 + 2, none⟩ = some (.int .i64 (x (k * 4 + 2))) := (hb.cell (p := ⟨b', off' + (k * 4 + 2), none⟩) (by simp; omega)).trans (hc' (k * 4 + 2) (by omega))
      have q3 : wr.cell? ⟨b', off' + k * 4 + 3, none⟩ = some (.int .i64 (x (k * 4 + 3))) := (hb.cell (p := ⟨b', off' + (k * 4 + 3), none⟩) (by simp; omega)).trans (hc' (k * 4 + 3) (by omega))
      have HB := Lib.hid hb
      clear hb hc hc' H H'
      go_wp2_with fail
      go_region_with (refine (eqAccount_same _ _ _ _ _).mono ?_; rintro e w1 ⟨rfl, hb1⟩; have HB1 := Lib.hid ((below_drewN HB.out 1).trans (hb1.mono HB.out.size)); clear hb1)
      all_goals
        go_wp2
        go_roundw
        case rel => exact ⟨k + 1, by omega, by go_num, HB1.out⟩
        case measure => simp [intOf]; omega
    · go_wp2
      go_ret
      exact ⟨rfl, hb⟩

set_option maxHeartbeats 1000000 in
/-- markAccountS of a row of one's own: the row reads k, k + 1, .. afterwards; nothing else turns. -/
theorem markAccountS_any (lo hi : Nat) (A : Option Addr) (n c : Nat) (x : Nat → Value) (m : Nat) (w : World) (hn : n * 32 ≤ 140737488351232) (hm : m ≤ 2305843009213693952)
    (hx : ∀ k, k < n * 4 → ∃ y, x k = .int .i64 y) (h : Mine w lo hi 88 A (n * 4) x) :
    Calls Tryz.prog 143 #[.slice A n c, .int .i64 m] w fun e w' =>
      e = .returned (.int .i64 ((m + n * 4 : Nat) : Int)) ∧ Mine w' lo hi 88 A (n * 4) (fun k => .int .i64 ((m + k : Nat) : Int)) ∧ Only lo hi w w' := by
  have H := Lib.hid h
  have X := Lib.hid hx
  clear h hx
  go_enter Tryz.func143, Tryz.ntmps143
  go_wp2
  go_loopw [1, 5] (fun q i wr => ∃ k : Nat, k ≤ n ∧ i = .int .i64 k ∧ q = .int .i64 ((m + k * 4 : Nat) : Int) ∧ Mine wr lo hi 88 A (n * 4) (fun j => if j < k * 4 then .int .i64 ((m + j : Nat) : Int) else x j) ∧ Only lo hi w wr) (fun _ i _ => n - (intOf i).toNat)
  case atStart => exact ⟨0, Nat.zero_le _, rfl, by go_num, H.out.congr (fun k hk => by simp), Only.refl _ _ _⟩
  case round =>
    obtain ⟨k, hk, rfl, rfl, hmine, hb⟩ := hrel
    by_cases hlt : k < n
    · rcases hmine with h0 | ⟨g, off, rfl, h1, h2, hrow⟩
      · omega
      obtain ⟨y0, hy0⟩ := X.out (k * 4 + 0) (by omega)
      have o0 : wr.cell? ⟨g, off + k * 4, none⟩ = some (.int .i64 y0) := by
        have := hrow.cell (show k * 4 + 0 < n * 4 by omega)
        rw [if_neg (by omega), hy0] at this
        exact this
      have f0 := hrow.frozen (off + k * 4)
      obtain ⟨y1, hy1⟩ := X.out (k * 4 + 1) (by omega)
      have o1 : wr.cell? ⟨g, off + k * 4 + 1, none⟩ = some (.int .i64 y1) := by
        have := hrow.cell (show k * 4 + 1 < n * 4 by omega)
        rw [if_neg (by omega), hy1] at this
        exact this
      have f1 := hrow.frozen (off + k * 4 + 1)
      obtain ⟨y2, hy2⟩ := X.out (k * 4 + 2) (by omega)
      have o2 : wr.cell? ⟨g, off + k * 4 + 2, none⟩ = some (.int .i64 y2) := by
        have := hrow.cell (show k * 4 + 2 < n * 4 by omega)
        rw [if_neg (by omega), hy2] at this
        exact this
      have f2 := hrow.frozen (off + k * 4 + 2)
      obtain ⟨y3, hy3⟩ := X.out (k * 4 + 3) (by omega)
      have o3 : wr.cell? ⟨g, off + k * 4 + 3, none⟩ = some (.int .i64 y3) := by
        have := hrow.cell (show k * 4 + 3 < n * 4 by omega)
        rw [if_neg (by omega), hy3] at this
        exact this
      have f3 := hrow.frozen (off + k * 4 + 3)
      have e0 : ((m + k * 4 : Nat) : Int) = (m : Int) + k * 4 := by omega
      have HR := Lib.hid (hrow.mark4 hlt)
      have HB := Lib.hid (hb.set4 (g := g) (i := off + k * 4) h1 h2 (.int .i64 ((m : Int) + k * 4)) (.int .i64 ((m : Int) + k * 4 + 1)) (.int .i64 ((m : Int) + k * 4 + 1 + 1)) (.int .i64 ((m : Int) + k * 4 + 1 + 1 + 1)))
      rw [e0]
      clear e0 hb hrow H X hy0 hy1 hy2 hy3
      go_wp2
      go_roundw
      case rel => exact ⟨k + 1, by omega, by go_num, by go_num, .inr ⟨g, off, rfl, h1, h2, HR.out⟩, HB.out⟩
      case measure => simp [intOf]; omega
    · have e0 : k = n := by omega
      subst e0
      go_wp2
      go_ret
      exact ⟨rfl, hmine.congr (fun j hj => by rw [if_pos hj]), hb⟩

set_option maxHeartbeats 1000000 in
/-- heldAccountS of a slice that reads m, m + 1, ..: m + n * 4. -/
theorem heldAccountS_any (lo hi : Nat) (A : Option Addr) (n c : Nat) (m : Nat) (w : World) (hn : n * 32 ≤ 140737488351232) (hm : m ≤ 2305843009213693952)
    (h : Sl w lo hi A (n * 4) (fun k => .int .i64 ((m + k : Nat) : Int))) :
    Calls Tryz.prog 145 #[.slice A n c, .int .i64 m] w fun e w' => e = .returned (.int .i64 ((m + n * 4 : Nat) : Int)) ∧ Below w.heap.size w w' := by
  have H := Lib.hid h
  clear h
  go_enter Tryz.func145, Tryz.ntmps145
  go_wp2
  go_loopw [1, 5] (fun q i wr => ∃ k : Nat, k ≤ n ∧ i = .int .i64 k ∧ q = .int .i64 ((m + k * 4 : Nat) : Int) ∧ Below w.heap.size w wr) (fun _ i _ => n - (intOf i).toNat)
  case atStart => exact ⟨0, Nat.zero_le _, rfl, by go_num, Below.refl _ _⟩
  case round =>
    obtain ⟨k, hk, rfl, rfl, hb⟩ := hrel
    by_cases hlt : k < n
    · obtain ⟨b, off, rfl, h1, h2, hc⟩ := H.out.lt.at_ (show k * 4 < n * 4 by omega)
      have c0 : wr.cell? ⟨b, off + k * 4, none⟩ = some (.int .i64 ((m : Int) + k * 4)) := by
        rw [show ((m : Int) + k * 4 : Int) = ((m + (k * 4) : Nat) : Int) by omega]
        exact (hb.cell (p := ⟨b, off + (k * 4), none⟩) (by simp; omega)).trans (hc (k * 4) (by omega))
      have c1 : wr.cell? ⟨b, off + k * 4 + 1, none⟩ = some (.int .i64 ((m : Int) + k * 4 + 1)) := by
        rw [show ((m : Int) + k * 4 + 1 : Int) = ((m + (k * 4 + 1) : Nat) : Int) by omega]
        exact (hb.cell (p := ⟨b, off + (k * 4 + 1), none⟩) (by simp; omega)).trans (hc (k * 4 + 1) (by omega))
      have c2 : wr.cell? ⟨b, off + k * 4 + 2, none⟩ = some (.int .i64 ((m : Int) + k * 4 + 1 + 1)) := by
        rw [show ((m : Int) + k * 4 + 1 + 1 : Int) = ((m + (k * 4 + 2) : Nat) : Int) by omega]
        exact (hb.cell (p := ⟨b, off + (k * 4 + 2), none⟩) (by simp; omega)).trans (hc (k * 4 + 2) (by omega))
      have c3 : wr.cell? ⟨b, off + k * 4 + 3, none⟩ = some (.int .i64 ((m : Int) + k * 4 + 1 + 1 + 1)) := by
        rw [show ((m : Int) + k * 4 + 1 + 1 + 1 : Int) = ((m + (k * 4 + 3) : Nat) : Int) by omega]
        exact (hb.cell (p := ⟨b, off + (k * 4 + 3), none⟩) (by simp; omega)).trans (hc (k * 4 + 3) (by omega))
      have HB := Lib.hid hb
      have e0 : ((m + k * 4 : Nat) : Int) = (m : Int) + k * 4 := by omega
      rw [e0]
      clear e0 hb hc H
      go_wp2
      go_roundw
      case rel => exact ⟨k + 1, by omega, by go_num, by go_num, HB.out⟩
      case measure => simp [intOf]; omega
    · have e0 : k = n := by omega
      subst e0
      go_wp2
      go_ret
      exact ⟨rfl, hb⟩

end Go.Proofs.YtkhphkfbjbhgaaaGreat
