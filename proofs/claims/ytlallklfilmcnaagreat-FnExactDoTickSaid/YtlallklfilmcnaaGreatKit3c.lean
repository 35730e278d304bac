/-
  The laws' helpers on kernels and on answers of chapter 3: marks, copies, sizes. No conditions beyond that the lists can be read, or are the call's own.
-/
import Derived.Test.YtlallklfilmcnaaGreatBase3
import Derived.Test.YtlallklfilmcnaaGreatAcc2
import Derived.Test.YtlallklfilmcnaaGreatChecked
import Derived.Test.YtlallklfilmcnaaGreatBase
import Derived.Test.YtlallklfilmcnaaGreatInts
import Derived.Test.YtlallklfilmcnaaGreatKer3

-- Kit3
namespace Go.Proofs.YtlallklfilmcnaaGreat
open Go.RowKit

theorem Tryz.info_Account : (Tryz.prog.info? 52).map (fun i => (i.zero, i.size, i.bytes)) = some (some (.agg #[.int .i64 0, .int .i64 0, .int .i64 0, .int .i64 0]), 4, 32) := by kernel_rfl

/-- toAccountS: a new row that reads as the slice did. -/
theorem toAccountS_any (lo hi : Nat) (A : Option Addr) (n c : Nat) (x : Nat → Int) (w : World) (hn : n * 32 ≤ 140737488351232) (h : Sl w lo hi A (n * 4) (fun k => .int .i64 (x k))) (hhi : hi ≤ w.heap.size) :
    Calls Tryz.prog 99 #[.slice A n c] w fun e w' =>
      e = .returned (.slice (some ⟨w.heap.size, 0, none⟩) n n) ∧ Row w' w.heap.size 0 52 (n * 4) (fun k => .int .i64 (x k)) ∧ Below w.heap.size w w' := by
  have hmk := run_make_rows (P := Tryz.prog) 26 52 _ 4 32 Tryz.underlying26 Tryz.info_Account .i64 .i64 n (by omega) (by omega)
  have H := Lib.hid h
  clear h
  go_enter Tryz.func99, Tryz.ntmps99
  go_wp2
  go_loopw [4] (fun i wr => ∃ k : Nat, k ≤ n ∧ i = .int .i64 k ∧ Row wr w.heap.size 0 52 (n * 4) (fun j => if j < k * 4 then .int .i64 (x j) else .int .i64 0) ∧ Below w.heap.size w wr) (fun i _ => n - (intOf i).toNat)
  case atStart => exact ⟨0, Nat.zero_le _, rfl, (Row.mades w _ (.int .i64 0) (n * 4) _ (by decide) (by intro r hr; match r, hr with | 0, _ => rfl | 1, _ => rfl | 2, _ => rfl | 3, _ => rfl)).congr (fun k hk => by simp), (Below.refl _ _).alloc (Nat.le_refl _) _⟩
  case round =>
    obtain ⟨k, hk, rfl, hrow, hb⟩ := hrel
    by_cases hlt : k < n
    · obtain ⟨b, off, rfl, h1, h2, hc⟩ := H.out.at_ (show k * 4 < n * 4 by omega)
      have c0 : wr.cell? ⟨b, off + k * 4, none⟩ = some (.int .i64 (x (k * 4))) := (hb.cell (p := ⟨b, off + (k * 4), none⟩) (by simp; omega)).trans (hc (k * 4) (by omega))
      have c1 : wr.cell? ⟨b, off + k * 4 + 1, none⟩ = some (.int .i64 (x (k * 4 + 1))) := (hb.cell (p := ⟨b, off + (k * 4 + 1), none⟩) (by simp; omega)).trans (hc (k * 4 + 1) (by omega))
      have c2 : wr.cell? ⟨b, off + k * 4 + 2, none⟩ = some (.int .i64 (x (k * 4 + 2))) := (hb.cell (p := ⟨b, off + (k * 4 + 2), none⟩) (by simp; omega)).trans (hc (k * 4 + 2) (by omega))
      have c3 : wr.cell? ⟨b, off + k * 4 + 3, none⟩ = some (.int .i64 (x (k * 4 + 3))) := (hb.cell (p := ⟨b, off + (k * 4 + 3), none⟩) (by simp; omega)).trans (hc (k * 4 + 3) (by omega))
      have HR := Lib.hid hrow
      have HB := Lib.hid hb
      clear hc hrow hb H
      go_wp2_with fail
      refine (toAccount_any _ _ _ _ _).mono ?_
      rintro e w1 ⟨rfl, hb1⟩
      have hrow := HR.out.below hb1 HR.out.lt
      have o0 := hrow.cell (show k * 4 + 0 < n * 4 by omega)
      have f0 := hrow.frozen (0 + (k * 4 + 0))
      have o1 := hrow.cell (show k * 4 + 1 < n * 4 by omega)
      have f1 := hrow.frozen (0 + (k * 4 + 1))
      have o2 := hrow.cell (show k * 4 + 2 < n * 4 by omega)
      have f2 := hrow.frozen (0 + (k * 4 + 2))
      have o3 := hrow.cell (show k * 4 + 3 < n * 4 by omega)
      have f3 := hrow.frozen (0 + (k * 4 + 3))
      simp only [Nat.zero_add, Nat.add_zero] at o0 f0 o1 f1 o2 f2 o3 f3
      have HB2 := Lib.hid (HB.out.trans (hb1.mono HB.out.size))
      have HR2 := Lib.hid hrow
      clear hrow hb1 HR HB
      go_wp2
      go_roundw
      case rel => exact ⟨k + 1, by omega, by go_num, (HR2.out.set4 (by omega) (.int .i64 (x (k * 4))) (.int .i64 (x (k * 4 + 1))) (.int .i64 (x (k * 4 + 2))) (.int .i64 (x (k * 4 + 3)))).congr (next4 k x), below_set4 HB2.out (Nat.le_refl _) _ _ _ _⟩
      case measure => simp [intOf]; omega
    · go_wp2
      go_ret
      exact ⟨rfl, hrow.congr (fun j hj => by rw [if_pos (by omega)]), hb⟩

/-- eqAccountS of two slices that read alike: true. -/
theorem eqAccountS_same (lo hi lo' hi' : Nat) (A A' : Option Addr) (n c c' : Nat) (x : Nat → Int) (w : World) (hn : n * 32 ≤ 140737488351232)
    (h : Sl w lo hi A (n * 4) (fun k => .int .i64 (x k))) (h' : Sl w lo' hi' A' (n * 4) (fun k => .int .i64 (x k))) :
    Calls Tryz.prog 103 #[.slice A n c, .slice A' n c'] w fun e w' => e = .returned (.bool true) ∧ Below w.heap.size w w' := by
  have H := Lib.hid h
  have H' := Lib.hid h'
  clear h h'
  go_enter Tryz.func103, Tryz.ntmps103
  go_wp2
  go_loopw [5] (fun i wr => ∃ k : Nat, k ≤ n ∧ i = .int .i64 k ∧ Below w.heap.size w wr) (fun i _ => n - (intOf i).toNat)
  case atStart => exact ⟨0, Nat.zero_le _, rfl, Below.refl _ _⟩
  case round =>
    obtain ⟨k, hk, rfl, hb⟩ := hrel
    by_cases hlt : k < n
    · obtain ⟨b, off, rfl, h1, h2, hc⟩ := H.out.lt.at_ (show k * 4 < n * 4 by omega)
      obtain ⟨b', off', rfl, h1', h2', hc'⟩ := H'.out.lt.at_ (show k * 4 < n * 4 by omega)
      have p0 : wr.cell? ⟨b, off + k * 4, none⟩ = some (.int .i64 (x (k * 4))) := (hb.cell (p := ⟨b, off + (k * 4), none⟩) (by simp; omega)).trans (hc (k * 4) (by omega))
      have p1 : wr.cell? ⟨b, off + k * 4 + 1, none⟩ = some (.int .i64 (x (k * 4 + 1))) := (hb.cell (p := ⟨b, off + (k * 4 + 1), none⟩) (by simp; omega)).trans (hc (k * 4 + 1) (by omega))
      have p2 : wr.cell? ⟨b, off + k * 4 + 2, none⟩ = some (.int .i64 (x (k * 4 + 2))) := (hb.cell (p := ⟨b, off + (k * 4 + 2), none⟩) (by simp; omega)).trans (hc (k * 4 + 2) (by omega))
      have p3 : wr.cell? ⟨b, off + k * 4 + 3, none⟩ = some (.int .i64 (x (k * 4 + 3))) := (hb.cell (p := ⟨b, off + (k * 4 + 3), none⟩) (by simp; omega)).trans (hc (k * 4 + 3) (by omega))
      have q0 : wr.cell? ⟨b', off' + k * 4, none⟩ = some (.int .i64 (x (k * 4))) := (hb.cell (p := ⟨b', off' + (k * 4), none⟩) (by simp; omega)).trans (hc' (k * 4) (by omega))
      have q1 : wr.cell? ⟨b', off' + k * 4 + 1, none⟩ = some (.int .i64 (x (k * 4 + 1))) := (hb.cell (p := ⟨b', off' + (k * 4 + 1), none⟩) (by simp; omega)).trans (hc' (k * 4 + 1) (by omega))
      have q2 : wr.cell? ⟨b', off' + k * 4 + 2, none⟩ = some (.int .i64 (x (k * 4 + 2))) := (hb.cell (p := ⟨b', off' + (k * 4 + 2), none⟩) (by simp; omega)).trans (hc' (k * 4 + 2) (by omega))
      have q3 : wr.cell? ⟨b', off' + k * 4 + 3, none⟩ = some (.int .i64 (x (k * 4 + 3))) := (hb.cell (p := ⟨b', off' + (k * 4 + 3), none⟩) (by simp; omega)).trans (hc' (k * 4 + 3) (by omega))
      have HB := Lib.hid hb
      clear hb hc hc' H H'
      go_wp2_with fail
      go_region_with (refine (eqAccount_same _ _ _ _ _).mono ?_; rintro e w1 ⟨rfl, hb1⟩; have HB1 := Lib.hid ((below_drewN HB.out 1).trans (hb1.mono HB.out.size)); clear hb1)
      all_goals
        go_wp2
        go_roundw
        case rel => exact ⟨k + 1, by omega, by go_num, HB1.out⟩
        case measure => simp [intOf]; omega
    · go_wp2
      go_ret
      exact ⟨rfl, hb⟩

/-- markAccountS of a row of one's own: the row reads k, k + 1, .. afterwards; nothing else turns. -/
theorem markAccountS_any (lo hi : Nat) (A : Option Addr) (n c : Nat) (x : Nat → Value) (m : Nat) (w : World) (hn : n * 32 ≤ 140737488351232) (hm : m ≤ 2305843009213693952)
    (hx : ∀ k, k < n * 4 → ∃ y, x k = .int .i64 y) (h : Mine w lo hi 52 A (n * 4) x) :
    Calls Tryz.prog 106 #[.slice A n c, .int .i64 m] w fun e w' =>
      e = .returned (.int .i64 ((m + n * 4 : Nat) : Int)) ∧ Mine w' lo hi 52 A (n * 4) (fun k => .int .i64 ((m + k : Nat) : Int)) ∧ Only lo hi w w' := by
  have H := Lib.hid h
  have X := Lib.hid hx
  clear h hx
  go_enter Tryz.func106, Tryz.ntmps106
  go_wp2
  go_loopw [1, 5] (fun q i wr => ∃ k : Nat, k ≤ n ∧ i = .int .i64 k ∧ q = .int .i64 ((m + k * 4 : Nat) : Int) ∧ Mine wr lo hi 52 A (n * 4) (fun j => if j < k * 4 then .int .i64 ((m + j : Nat) : Int) else x j) ∧ Only lo hi w wr) (fun _ i _ => n - (intOf i).toNat)
  case atStart => exact ⟨0, Nat.zero_le _, rfl, by go_num, H.out.congr (fun k hk => by simp), Only.refl _ _ _⟩
  case round =>
    obtain ⟨k, hk, rfl, rfl, hmine, hb⟩ := hrel
    by_cases hlt : k < n
    · rcases hmine with h0 | ⟨g, off, rfl, h1, h2, hrow⟩
      · omega
      obtain ⟨y0, hy0⟩ := X.out (k * 4 + 0) (by omega)
      have o0 : wr.cell? ⟨g, off + k * 4, none⟩ = some (.int .i64 y0) := by
        have := hrow.cell (show k * 4 + 0 < n * 4 by omega)
        rw [if_neg (by omega), hy0] at this
        exact this
      have f0 := hrow.frozen (off + k * 4)
      obtain ⟨y1, hy1⟩ := X.out (k * 4 + 1) (by omega)
      have o1 : wr.cell? ⟨g, off + k * 4 + 1, none⟩ = some (.int .i64 y1) := by
        have := hrow.cell (show k * 4 + 1 < n * 4 by omega)
        rw [if_neg (by omega), hy1] at this
        exact this
      have f1 := hrow.frozen (off + k * 4 + 1)
      obtain ⟨y2, hy2⟩ := X.out (k * 4 + 2) (by omega)
      have o2 : wr.cell? ⟨g, off + k * 4 + 2, none⟩ = some (.int .i64 y2) := by
        have := hrow.cell (show k * 4 + 2 < n * 4 by omega)
        rw [if_neg (by omega), hy2] at this
        exact this
      have f2 := hrow.frozen (off + k * 4 + 2)
      obtain ⟨y3, hy3⟩ := X.out (k * 4 + 3) (by omega)
      have o3 : wr.cell? ⟨g, off + k * 4 + 3, none⟩ = some (.int .i64 y3) := by
        have := hrow.cell (show k * 4 + 3 < n * 4 by omega)
        rw [if_neg (by omega), hy3] at this
        exact this
      have f3 := hrow.frozen (off + k * 4 + 3)
      have e0 : ((m + k * 4 : Nat) : Int) = (m : Int) + k * 4 := by omega
      have HR := Lib.hid (hrow.mark4 hlt)
      have HB := Lib.hid (hb.set4 (g := g) (i := off + k * 4) h1 h2 (.int .i64 ((m : Int) + k * 4)) (.int .i64 ((m : Int) + k * 4 + 1)) (.int .i64 ((m : Int) + k * 4 + 1 + 1)) (.int .i64 ((m : Int) + k * 4 + 1 + 1 + 1)))
      rw [e0]
      clear e0 hb hrow H X hy0 hy1 hy2 hy3
      go_wp2
      go_roundw
      case rel => exact ⟨k + 1, by omega, by go_num, by go_num, .inr ⟨g, off, rfl, h1, h2, HR.out⟩, HB.out⟩
      case measure => simp [intOf]; omega
    · have e0 : k = n := by omega
      subst e0
      go_wp2
      go_ret
      exact ⟨rfl, hmine.congr (fun j hj => by rw [if_pos hj]), hb⟩

/-- heldAccountS of a slice that reads m, m + 1, ..: m + n * 4. -/
theorem heldAccountS_any (lo hi : Nat) (A : Option Addr) (n c : Nat) (m : Nat) (w : World) (hn : n * 32 ≤ 140737488351232) (hm : m ≤ 2305843009213693952)
    (h : Sl w lo hi A (n * 4) (fun k => .int .i64 ((m + k : Nat) : Int))) :
    Calls Tryz.prog 152 #[.slice A n c, .int .i64 m] w fun e w' => e = .returned (.int .i64 ((m + n * 4 : Nat) : Int)) ∧ Below w.heap.size w w' := by
  have H := Lib.hid h
  clear h
  go_enter Tryz.func152, Tryz.ntmps152
  go_wp2
  go_loopw [1, 5] (fun q i wr => ∃ k : Nat, k ≤ n ∧ i = .int .i64 k ∧ q = .int .i64 ((m + k * 4 : Nat) : Int) ∧ Below w.heap.size w wr) (fun _ i _ => n - (intOf i).toNat)
  case atStart => exact ⟨0, Nat.zero_le _, rfl, by go_num, Below.refl _ _⟩
  case round =>
    obtain ⟨k, hk, rfl, rfl, hb⟩ := hrel
    by_cases hlt : k < n
    · obtain ⟨b, off, rfl, h1, h2, hc⟩ := H.out.lt.at_ (show k * 4 < n * 4 by omega)
      have c0 : wr.cell? ⟨b, off + k * 4, none⟩ = some (.int .i64 ((m : Int) + k * 4)) := by
        rw [show ((m : Int) + k * 4 : Int) = ((m + (k * 4) : Nat) : Int) by omega]
        exact (hb.cell (p := ⟨b, off + (k * 4), none⟩) (by simp; omega)).trans (hc (k * 4) (by omega))
      have c1 : wr.cell? ⟨b, off + k * 4 + 1, none⟩ = some (.int .i64 ((m : Int) + k * 4 + 1)) := by
        rw [show ((m : Int) + k * 4 + 1 : Int) = ((m + (k * 4 + 1) : Nat) : Int) by omega]
        exact (hb.cell (p := ⟨b, off + (k * 4 + 1), none⟩) (by simp; omega)).trans (hc (k * 4 + 1) (by omega))
      have c2 : wr.cell? ⟨b, off + k * 4 + 2, none⟩ = some (.int .i64 ((m : Int) + k * 4 + 1 + 1)) := by
        rw [show ((m : Int) + k * 4 + 1 + 1 : Int) = ((m + (k * 4 + 2) : Nat) : Int) by omega]
        exact (hb.cell (p := ⟨b, off + (k * 4 + 2), none⟩) (by simp; omega)).trans (hc (k * 4 + 2) (by omega))
      have c3 : wr.cell? ⟨b, off + k * 4 + 3, none⟩ = some (.int .i64 ((m : Int) + k * 4 + 1 + 1 + 1)) := by
        rw [show ((m : Int) + k * 4 + 1 + 1 + 1 : Int) = ((m + (k * 4 + 3) : Nat) : Int) by omega]
        exact (hb.cell (p := ⟨b, off + (k * 4 + 3), none⟩) (by simp; omega)).trans (hc (k * 4 + 3) (by omega))
      have HB := Lib.hid hb
      have e0 : ((m + k * 4 : Nat) : Int) = (m : Int) + k * 4 := by omega
      rw [e0]
      clear e0 hb hc H
      go_wp2
      go_roundw
      case rel => exact ⟨k + 1, by omega, by go_num, by go_num, HB.out⟩
      case measure => simp [intOf]; omega
    · have e0 : k = n := by omega
      subst e0
      go_wp2
      go_ret
      exact ⟨rfl, hb⟩

end Go.Proofs.YtlallklfilmcnaaGreat

-- Bools
namespace Go.Proofs.YtlallklfilmcnaaGreat
open Go.RowKit

/-- a count's mark in a bool -/
def m3 (m : Nat) : Bool := decide (((m : Nat) : Int).tmod 3 = 0)
theorem m3_eq (m : Nat) : m3 m = decide (((m : Nat) : Int).tmod 3 = 0) := rfl
theorem Tryz.info_bool : (Tryz.prog.info? 4).map (fun i => (i.zero, i.size, i.bytes)) = some (some (.bool false), 1, 1) := by kernel_rfl

/-- toBoolS: a new row that reads as the slice did. -/
theorem toBoolS_any (lo hi : Nat) (A : Option Addr) (n c : Nat) (x : Nat → Bool) (w : World) (hn : n * 8 ≤ 140737488351232) (h : Sl w lo hi A n (fun k => .bool (x k))) (hhi : hi ≤ w.heap.size) :
    Calls Tryz.prog 98 #[.slice A n c] w fun e w' =>
      e = .returned (.slice (some ⟨w.heap.size, 0, none⟩) n n) ∧ Row w' w.heap.size 0 4 n (fun k => .bool (x k)) ∧ Below w.heap.size w w' := by
  have hmk := run_make_row' (P := Tryz.prog) 25 4 (.bool false) 1 Tryz.underlying25 Tryz.info_bool rfl .i64 .i64 n (by omega) (by omega)
  have H := Lib.hid h
  clear h
  go_enter Tryz.func98, Tryz.ntmps98
  go_wp2
  go_loopw [4] (fun i wr => ∃ k : Nat, k ≤ n ∧ i = .int .i64 k ∧ Row wr w.heap.size 0 4 n (fun j => if j < k then .bool (x j) else .bool false) ∧ Below w.heap.size w wr) (fun i _ => n - (intOf i).toNat)
  case atStart => exact ⟨0, Nat.zero_le _, rfl, (Row.made w _ n _).congr (fun k hk => by simp), (Below.refl _ _).alloc (Nat.le_refl _) _⟩
  case round =>
    obtain ⟨k, hk, rfl, hrow, hb⟩ := hrel
    by_cases hlt : k < n
    · obtain ⟨b, off, rfl, h1, h2, hc⟩ := H.out.at_ hlt
      have hck := (hb.cell (p := ⟨b, off + k, none⟩) (by simp; omega)).trans (hc k hlt)
      have hco := hrow.cell hlt
      have hfo := hrow.frozen (0 + k)
      rw [Nat.zero_add] at hco hfo
      have R : Row (wr.setCell ⟨w.heap.size, k, none⟩ (.bool (x k))) w.heap.size 0 4 n (fun j => if j < k + 1 then .bool (x j) else .bool false) := by
        have := hrow.set hlt (.bool (x k))
        rw [Nat.zero_add] at this
        refine this.congr fun j hj => ?_
        by_cases e : j = k
        · subst e; simp
        · by_cases e2 : j < k
          · rw [if_neg e, if_pos e2, if_pos (by omega)]
          · rw [if_neg e, if_neg e2, if_neg (by omega)]
      have B : Below w.heap.size w (wr.setCell ⟨w.heap.size, k, none⟩ (.bool (x k))) := hb.setCell (Nat.le_refl _) _
      have HR := Lib.hid R
      have HB := Lib.hid B
      clear R B hc hrow hb H
      go_wp2
      go_roundw
      case rel => exact ⟨k + 1, by omega, by go_num, HR.out, HB.out⟩
      case measure => simp [intOf]; omega
    · go_wp2
      go_ret
      exact ⟨rfl, hrow.congr (fun j hj => by rw [if_pos (by omega)]), hb⟩

/-- eqBoolS of two slices that read alike: true. -/
theorem eqBoolS_same (lo hi lo' hi' : Nat) (A A' : Option Addr) (n c c' : Nat) (x : Nat → Bool) (w : World) (hn : n * 8 ≤ 140737488351232)
    (h : Sl w lo hi A n (fun k => .bool (x k))) (h' : Sl w lo' hi' A' n (fun k => .bool (x k))) :
    Calls Tryz.prog 102 #[.slice A n c, .slice A' n c'] w fun e w' => e = .returned (.bool true) ∧ Below w.heap.size w w' := by
  have H := Lib.hid h
  have H' := Lib.hid h'
  clear h h'
  go_enter Tryz.func102, Tryz.ntmps102
  go_wp2
  go_loopw [5] (fun i wr => ∃ k : Nat, k ≤ n ∧ i = .int .i64 k ∧ Below w.heap.size w wr) (fun i _ => n - (intOf i).toNat)
  case atStart => exact ⟨0, Nat.zero_le _, rfl, Below.refl _ _⟩
  case round =>
    obtain ⟨k, hk, rfl, hb⟩ := hrel
    by_cases hlt : k < n
    · obtain ⟨b, off, rfl, h1, h2, hc⟩ := H.out.lt.at_ hlt
      obtain ⟨b', off', rfl, h1', h2', hc'⟩ := H'.out.lt.at_ hlt
      have hck := (hb.cell (p := ⟨b, off + k, none⟩) (by simp; omega)).trans (hc k hlt)
      have hck' := (hb.cell (p := ⟨b', off' + k, none⟩) (by simp; omega)).trans (hc' k hlt)
      have HB := Lib.hid hb
      clear hb hc hc' H H'
      go_wp2_with fail
      go_quiet (fail)
      go_wp2
      go_roundw
      case rel => exact ⟨k + 1, by omega, by go_num, below_drewN HB.out _⟩
      case measure => simp [intOf]; omega
    · go_wp2
      go_ret
      exact ⟨rfl, hb⟩

/-- markBoolS of a row of one's own: the row reads k, k + 1, .. afterwards; nothing else turns. -/
theorem markBoolS_any (lo hi : Nat) (A : Option Addr) (n c : Nat) (x : Nat → Value) (m : Nat) (w : World) (hn : n * 8 ≤ 140737488351232) (hm : m ≤ 4611686018427387904)
    (hx : ∀ k, k < n → ∃ y, x k = .bool y) (h : Mine w lo hi 4 A n x) :
    Calls Tryz.prog 105 #[.slice A n c, .int .i64 m] w fun e w' =>
      e = .returned (.int .i64 ((m + n : Nat) : Int)) ∧ Mine w' lo hi 4 A n (fun k => .bool (m3 (m + k))) ∧ Only lo hi w w' := by
  have H := Lib.hid h
  have X := Lib.hid hx
  clear h hx
  go_enter Tryz.func105, Tryz.ntmps105
  go_wp2
  go_loopw [1, 5] (fun q i wr => ∃ k : Nat, k ≤ n ∧ i = .int .i64 k ∧ q = .int .i64 ((m + k : Nat) : Int) ∧ Mine wr lo hi 4 A n (fun j => if j < k then .bool (m3 (m + j)) else x j) ∧ Only lo hi w wr) (fun _ i _ => n - (intOf i).toNat)
  case atStart => exact ⟨0, Nat.zero_le _, rfl, rfl, H.out.congr (fun k hk => by simp), Only.refl _ _ _⟩
  case round =>
    obtain ⟨k, hk, rfl, rfl, hmine, hb⟩ := hrel
    by_cases hlt : k < n
    · rcases hmine with h0 | ⟨g, off, rfl, h1, h2, hrow⟩
      · omega
      obtain ⟨y, hy⟩ := X.out k hlt
      have hco := hrow.cell hlt
      simp only [Nat.lt_irrefl, if_false] at hco
      rw [hy] at hco
      have hfo := hrow.frozen (off + k)
      have R : Row (wr.setCell ⟨g, off + k, none⟩ (.bool (m3 (m + k)))) g off 4 n (fun j => if j < k + 1 then .bool (m3 (m + j)) else x j) := by
        refine (hrow.set hlt (.bool (m3 (m + k)))).congr fun j hj => ?_
        by_cases e : j = k
        · subst e; simp
        · by_cases e2 : j < k
          · rw [if_neg e, if_pos e2, if_pos (by omega)]
          · rw [if_neg e, if_neg e2, if_neg (by omega)]
      have HR := Lib.hid R
      have HB := Lib.hid (hb.setCell (p := ⟨g, off + k, none⟩) h1 h2 (.bool (m3 (m + k))))
      have e1 : ((m + k : Nat) : Int) = (m : Int) + k := by omega
      rw [m3_eq (m + k), e1] at HR HB
      rw [e1]
      clear e1 R hb hrow H X hy
      go_wp2
      go_roundw
      case rel => exact ⟨k + 1, by omega, by go_num, by go_num, .inr ⟨g, off, rfl, h1, h2, HR.out⟩, HB.out⟩
      case measure => simp [intOf]; omega
    · have e0 : k = n := by omega
      subst e0
      go_wp2
      go_ret
      exact ⟨rfl, hmine.congr (fun j hj => by rw [if_pos hj]), hb⟩

/-- heldBoolS of a slice that reads m, m + 1, ..: m + n. -/
theorem heldBoolS_any (lo hi : Nat) (A : Option Addr) (n c : Nat) (m : Nat) (w : World) (hn : n * 8 ≤ 140737488351232) (hm : m ≤ 4611686018427387904)
    (h : Sl w lo hi A n (fun k => .bool (m3 (m + k)))) :
    Calls Tryz.prog 151 #[.slice A n c, .int .i64 m] w fun e w' => e = .returned (.int .i64 ((m + n : Nat) : Int)) ∧ Below w.heap.size w w' := by
  have H := Lib.hid h
  clear h
  go_enter Tryz.func151, Tryz.ntmps151
  go_wp2
  go_loopw [1, 5] (fun q i wr => ∃ k : Nat, k ≤ n ∧ i = .int .i64 k ∧ q = .int .i64 ((m + k : Nat) : Int) ∧ Below w.heap.size w wr) (fun _ i _ => n - (intOf i).toNat)
  case atStart => exact ⟨0, Nat.zero_le _, rfl, rfl, Below.refl _ _⟩
  case round =>
    obtain ⟨k, hk, rfl, rfl, hb⟩ := hrel
    by_cases hlt : k < n
    · obtain ⟨b, off, rfl, h1, h2, hc⟩ := H.out.lt.at_ hlt
      have hck := (hb.cell (p := ⟨b, off + k, none⟩) (by simp; omega)).trans (hc k hlt)
      have HB := Lib.hid hb
      have e1 : ((m + k : Nat) : Int) = (m : Int) + k := by omega
      rw [m3_eq (m + k), e1] at hck
      rw [e1]
      clear e1 hb hc H
      obtain ⟨bb, hbb⟩ : ∃ bb, bb = decide (((m : Int) + (k : Int)).tmod 3 = 0) := ⟨_, rfl⟩
      rw [← hbb] at hck
      have hb3 := hbb.symm
      have hb2 : (((m : Int) + (k : Int)) % 3 == 0) = bb := by rw [hbb, Int.tmod_eq_emod_of_nonneg (by omega)]; rfl
      have hb4 : decide (((m : Int) + (k : Int)) % 3 = 0) = bb := by rw [hbb, Int.tmod_eq_emod_of_nonneg (by omega)]
      clear hbb
      cases bb
      all_goals
        go_wp2
        go_roundw
        case rel => exact ⟨k + 1, by omega, by go_num, by go_num, HB.out⟩
        case measure => simp [intOf]; omega
    · have e0 : k = n := by omega
      subst e0
      go_wp2
      go_ret
      exact ⟨rfl, hb⟩

end Go.Proofs.YtlallklfilmcnaaGreat

-- Kit3b
namespace Go.Proofs.YtlallklfilmcnaaGreat
open Go.RowKit

theorem eqNote_same (a b c : Int) (w : World) :
    Calls Tryz.prog 149 #[.agg #[.int .i64 a, .int .i64 b, .int .i64 c], .agg #[.int .i64 a, .int .i64 b, .int .i64 c]] w fun e w' => e = .returned (.bool true) ∧ Below w.heap.size w w' := by
  have B2 : Hid (∀ o o', Below w.heap.size w ((w.alloc o).alloc o')) := fun o o' => ((Below.refl _ _).alloc (Nat.le_refl _) o).alloc (by simp) o'
  go_enter Tryz.func149, Tryz.ntmps149
  go_wp2
  go_ret
  exact ⟨rfl, B2.out _ _⟩

/-- eqNoteS of two slices that read alike: true. -/
theorem eqNoteS_same (lo hi lo' hi' : Nat) (A A' : Option Addr) (n c c' : Nat) (x : Nat → Int) (w : World) (hn : n * 24 ≤ 140737488351232)
    (h : Sl w lo hi A (n * 3) (fun k => .int .i64 (x k))) (h' : Sl w lo' hi' A' (n * 3) (fun k => .int .i64 (x k))) :
    Calls Tryz.prog 100 #[.slice A n c, .slice A' n c'] w fun e w' => e = .returned (.bool true) ∧ Below w.heap.size w w' := by
  have H := Lib.hid h
  have H' := Lib.hid h'
  clear h h'
  go_enter Tryz.func100, Tryz.ntmps100
  go_wp2
  go_loopw [5] (fun i wr => ∃ k : Nat, k ≤ n ∧ i = .int .i64 k ∧ Below w.heap.size w wr) (fun i _ => n - (intOf i).toNat)
  case atStart => exact ⟨0, Nat.zero_le _, rfl, Below.refl _ _⟩
  case round =>
    obtain ⟨k, hk, rfl, hb⟩ := hrel
    by_cases hlt : k < n
    · obtain ⟨b, off, rfl, h1, h2, hc⟩ := H.out.lt.at_ (show k * 3 < n * 3 by omega)
      obtain ⟨b', off', rfl, h1', h2', hc'⟩ := H'.out.lt.at_ (show k * 3 < n * 3 by omega)
      have p0 : wr.cell? ⟨b, off + k * 3, none⟩ = some (.int .i64 (x (k * 3))) := (hb.cell (p := ⟨b, off + (k * 3), none⟩) (by simp; omega)).trans (hc (k * 3) (by omega))
      have p1 : wr.cell? ⟨b, off + k * 3 + 1, none⟩ = some (.int .i64 (x (k * 3 + 1))) := (hb.cell (p := ⟨b, off + (k * 3 + 1), none⟩) (by simp; omega)).trans (hc (k * 3 + 1) (by omega))
      have p2 : wr.cell? ⟨b, off + k * 3 + 2, none⟩ = some (.int .i64 (x (k * 3 + 2))) := (hb.cell (p := ⟨b, off + (k * 3 + 2), none⟩) (by simp; omega)).trans (hc (k * 3 + 2) (by omega))
      have q0 : wr.cell? ⟨b', off' + k * 3, none⟩ = some (.int .i64 (x (k * 3))) := (hb.cell (p := ⟨b', off' + (k * 3), none⟩) (by simp; omega)).trans (hc' (k * 3) (by omega))
      have q1 : wr.cell? ⟨b', off' + k * 3 + 1, none⟩ = some (.int .i64 (x (k * 3 + 1))) := (hb.cell (p := ⟨b', off' + (k * 3 + 1), none⟩) (by simp; omega)).trans (hc' (k * 3 + 1) (by omega))
      have q2 : wr.cell? ⟨b', off' + k * 3 + 2, none⟩ = some (.int .i64 (x (k * 3 + 2))) := (hb.cell (p := ⟨b', off' + (k * 3 + 2), none⟩) (by simp; omega)).trans (hc' (k * 3 + 2) (by omega))
      have HB := Lib.hid hb
      clear hb hc hc' H H'
      go_wp2_with fail
      go_region_with (refine (eqNote_same _ _ _ _).mono ?_; rintro e w1 ⟨rfl, hb1⟩; have HB1 := Lib.hid ((below_drewN HB.out 1).trans (hb1.mono HB.out.size)); clear hb1)
      all_goals
        go_wp2
        go_roundw
        case rel => exact ⟨k + 1, by omega, by go_num, HB1.out⟩
        case measure => simp [intOf]; omega
    · go_wp2
      go_ret
      exact ⟨rfl, hb⟩

/-- markNoteS of a row of one's own: the row reads k, k + 1, .. afterwards; nothing else turns. -/
theorem markNoteS_any (lo hi : Nat) (A : Option Addr) (n c : Nat) (x : Nat → Value) (m : Nat) (w : World) (hn : n * 24 ≤ 140737488351232) (hm : m ≤ 2305843009213693952)
    (hx : ∀ k, k < n * 3 → ∃ y, x k = .int .i64 y) (h : Mine w lo hi 68 A (n * 3) x) :
    Calls Tryz.prog 107 #[.slice A n c, .int .i64 m] w fun e w' =>
      e = .returned (.int .i64 ((m + n * 3 : Nat) : Int)) ∧ Mine w' lo hi 68 A (n * 3) (fun k => .int .i64 ((m + k : Nat) : Int)) ∧ Only lo hi w w' := by
  have H := Lib.hid h
  have X := Lib.hid hx
  clear h hx
  go_enter Tryz.func107, Tryz.ntmps107
  go_wp2
  go_loopw [1, 5] (fun q i wr => ∃ k : Nat, k ≤ n ∧ i = .int .i64 k ∧ q = .int .i64 ((m + k * 3 : Nat) : Int) ∧ Mine wr lo hi 68 A (n * 3) (fun j => if j < k * 3 then .int .i64 ((m + j : Nat) : Int) else x j) ∧ Only lo hi w wr) (fun _ i _ => n - (intOf i).toNat)
  case atStart => exact ⟨0, Nat.zero_le _, rfl, by go_num, H.out.congr (fun k hk => by simp), Only.refl _ _ _⟩
  case round =>
    obtain ⟨k, hk, rfl, rfl, hmine, hb⟩ := hrel
    by_cases hlt : k < n
    · rcases hmine with h0 | ⟨g, off, rfl, h1, h2, hrow⟩
      · omega
      obtain ⟨y0, hy0⟩ := X.out (k * 3 + 0) (by omega)
      have o0 : wr.cell? ⟨g, off + k * 3, none⟩ = some (.int .i64 y0) := by
        have := hrow.cell (show k * 3 + 0 < n * 3 by omega)
        rw [if_neg (by omega), hy0] at this
        exact this
      have f0 := hrow.frozen (off + k * 3)
      obtain ⟨y1, hy1⟩ := X.out (k * 3 + 1) (by omega)
      have o1 : wr.cell? ⟨g, off + k * 3 + 1, none⟩ = some (.int .i64 y1) := by
        have := hrow.cell (show k * 3 + 1 < n * 3 by omega)
        rw [if_neg (by omega), hy1] at this
        exact this
      have f1 := hrow.frozen (off + k * 3 + 1)
      obtain ⟨y2, hy2⟩ := X.out (k * 3 + 2) (by omega)
      have o2 : wr.cell? ⟨g, off + k * 3 + 2, none⟩ = some (.int .i64 y2) := by
        have := hrow.cell (show k * 3 + 2 < n * 3 by omega)
        rw [if_neg (by omega), hy2] at this
        exact this
      have f2 := hrow.frozen (off + k * 3 + 2)
      have e0 : ((m + k * 3 : Nat) : Int) = (m : Int) + k * 3 := by omega
      have HR := Lib.hid (hrow.mark3 hlt)
      have HB := Lib.hid (hb.set3 (g := g) (i := off + k * 3) h1 h2 (.int .i64 ((m : Int) + k * 3)) (.int .i64 ((m : Int) + k * 3 + 1)) (.int .i64 ((m : Int) + k * 3 + 1 + 1)))
      rw [e0]
      clear e0 hb hrow H X hy0 hy1 hy2
      go_wp2
      go_roundw
      case rel => exact ⟨k + 1, by omega, by go_num, by go_num, .inr ⟨g, off, rfl, h1, h2, HR.out⟩, HB.out⟩
      case measure => simp [intOf]; omega
    · have e0 : k = n := by omega
      subst e0
      go_wp2
      go_ret
      exact ⟨rfl, hmine.congr (fun j hj => by rw [if_pos hj]), hb⟩

/-- heldNoteS of a slice that reads m, m + 1, ..: m + n * 3. -/
theorem heldNoteS_any (lo hi : Nat) (A : Option Addr) (n c : Nat) (m : Nat) (w : World) (hn : n * 24 ≤ 140737488351232) (hm : m ≤ 2305843009213693952)
    (h : Sl w lo hi A (n * 3) (fun k => .int .i64 ((m + k : Nat) : Int))) :
    Calls Tryz.prog 109 #[.slice A n c, .int .i64 m] w fun e w' => e = .returned (.int .i64 ((m + n * 3 : Nat) : Int)) ∧ Below w.heap.size w w' := by
  have H := Lib.hid h
  clear h
  go_enter Tryz.func109, Tryz.ntmps109
  go_wp2
  go_loopw [1, 5] (fun q i wr => ∃ k : Nat, k ≤ n ∧ i = .int .i64 k ∧ q = .int .i64 ((m + k * 3 : Nat) : Int) ∧ Below w.heap.size w wr) (fun _ i _ => n - (intOf i).toNat)
  case atStart => exact ⟨0, Nat.zero_le _, rfl, by go_num, Below.refl _ _⟩
  case round =>
    obtain ⟨k, hk, rfl, rfl, hb⟩ := hrel
    by_cases hlt : k < n
    · obtain ⟨b, off, rfl, h1, h2, hc⟩ := H.out.lt.at_ (show k * 3 < n * 3 by omega)
      have c0 : wr.cell? ⟨b, off + k * 3, none⟩ = some (.int .i64 ((m : Int) + k * 3)) := by
        rw [show ((m : Int) + k * 3 : Int) = ((m + (k * 3) : Nat) : Int) by omega]
        exact (hb.cell (p := ⟨b, off + (k * 3), none⟩) (by simp; omega)).trans (hc (k * 3) (by omega))
      have c1 : wr.cell? ⟨b, off + k * 3 + 1, none⟩ = some (.int .i64 ((m : Int) + k * 3 + 1)) := by
        rw [show ((m : Int) + k * 3 + 1 : Int) = ((m + (k * 3 + 1) : Nat) : Int) by omega]
        exact (hb.cell (p := ⟨b, off + (k * 3 + 1), none⟩) (by simp; omega)).trans (hc (k * 3 + 1) (by omega))
      have c2 : wr.cell? ⟨b, off + k * 3 + 2, none⟩ = some (.int .i64 ((m : Int) + k * 3 + 1 + 1)) := by
        rw [show ((m : Int) + k * 3 + 1 + 1 : Int) = ((m + (k * 3 + 2) : Nat) : Int) by omega]
        exact (hb.cell (p := ⟨b, off + (k * 3 + 2), none⟩) (by simp; omega)).trans (hc (k * 3 + 2) (by omega))
      have HB := Lib.hid hb
      have e0 : ((m + k * 3 : Nat) : Int) = (m : Int) + k * 3 := by omega
      rw [e0]
      clear e0 hb hc H
      go_wp2
      go_roundw
      case rel => exact ⟨k + 1, by omega, by go_num, by go_num, HB.out⟩
      case measure => simp [intOf]; omega
    · have e0 : k = n := by omega
      subst e0
      go_wp2
      go_ret
      exact ⟨rfl, hb⟩

/-- eqKernel of two kernels that read alike: true. -/
theorem eqKernel_same (lo hi lo' hi' : Nat) (A1 : Option Addr) (n1 c1 : Nat) (A2 : Option Addr) (n2 c2 : Nat) (A3 : Option Addr) (n3 c3 : Nat) (A1' : Option Addr) (c1' : Nat) (A2' : Option Addr) (c2' : Nat) (A3' : Option Addr) (c3' : Nat) (t r : Int) (K : Ker) (w : World) (hn1 : n1 * 8 ≤ 140737488351232) (hn2 : n2 * 8 ≤ 140737488351232) (hn3 : n3 * 32 ≤ 140737488351232)
    (h : KRead w lo hi A1 n1 A2 n2 A3 n3 K) (h' : KRead w lo' hi' A1' n1 A2' n2 A3' n3 K) :
    Calls Tryz.prog 40 #[.agg #[.slice A1 n1 c1, .slice A2 n2 c2, .slice A3 n3 c3, .int .i64 t, .int .i64 r], .agg #[.slice A1' n1 c1', .slice A2' n2 c2', .slice A3' n3 c3', .int .i64 t, .int .i64 r]] w fun e w' => e = .returned (.bool true) ∧ Below w.heap.size w w' := by
  have K1 : Hid (((w.alloc (.cells #[.slice A1 n1 c1, .slice A2 n2 c2, .slice A3 n3 c3, .int .i64 t, .int .i64 r] 28)).alloc (.cells #[.slice A1' n1 c1', .slice A2' n2 c2', .slice A3' n3 c3', .int .i64 t, .int .i64 r] 28)).heap[w.heap.size]? = some (.cells #[.slice A1 n1 c1, .slice A2 n2 c2, .slice A3 n3 c3, .int .i64 t, .int .i64 r] 28 (0, 0))) := heap_alloc2_old w _ _
  have K2 : Hid (((w.alloc (.cells #[.slice A1 n1 c1, .slice A2 n2 c2, .slice A3 n3 c3, .int .i64 t, .int .i64 r] 28)).alloc (.cells #[.slice A1' n1 c1', .slice A2' n2 c2', .slice A3' n3 c3', .int .i64 t, .int .i64 r] 28)).heap[w.heap.size + 1]? = some (.cells #[.slice A1' n1 c1', .slice A2' n2 c2', .slice A3' n3 c3', .int .i64 t, .int .i64 r] 28 (0, 0))) := heap_alloc2_new w _ _
  have B2 : Hid (Below w.heap.size w ((w.alloc (.cells #[.slice A1 n1 c1, .slice A2 n2 c2, .slice A3 n3 c3, .int .i64 t, .int .i64 r] 28)).alloc (.cells #[.slice A1' n1 c1', .slice A2' n2 c2', .slice A3' n3 c3', .int .i64 t, .int .i64 r] 28))) := ((Below.refl _ _).alloc (Nat.le_refl _) _).alloc (by simp) _
  have Q1 : Hid (∀ W, Below (w.heap.size + 2) ((w.alloc (.cells #[.slice A1 n1 c1, .slice A2 n2 c2, .slice A3 n3 c3, .int .i64 t, .int .i64 r] 28)).alloc (.cells #[.slice A1' n1 c1', .slice A2' n2 c2', .slice A3' n3 c3', .int .i64 t, .int .i64 r] 28)) W → W.cell? ⟨w.heap.size, 0, none⟩ = some (.slice A1 n1 c1) ∧ W.cell? ⟨w.heap.size, 1, none⟩ = some (.slice A2 n2 c2) ∧ W.cell? ⟨w.heap.size, 2, none⟩ = some (.slice A3 n3 c3) ∧ W.cell? ⟨w.heap.size, 3, none⟩ = some (.int .i64 t) ∧ W.cell? ⟨w.heap.size, 4, none⟩ = some (.int .i64 r)) := fun W hB => ⟨cell_of_row W _ 0 _ _ _ ((hB.block _ (by simp; try omega)).trans K1.out), cell_of_row W _ 1 _ _ _ ((hB.block _ (by simp; try omega)).trans K1.out), cell_of_row W _ 2 _ _ _ ((hB.block _ (by simp; try omega)).trans K1.out), cell_of_row W _ 3 _ _ _ ((hB.block _ (by simp; try omega)).trans K1.out), cell_of_row W _ 4 _ _ _ ((hB.block _ (by simp; try omega)).trans K1.out)⟩
  have Q2 : Hid (∀ W, Below (w.heap.size + 2) ((w.alloc (.cells #[.slice A1 n1 c1, .slice A2 n2 c2, .slice A3 n3 c3, .int .i64 t, .int .i64 r] 28)).alloc (.cells #[.slice A1' n1 c1', .slice A2' n2 c2', .slice A3' n3 c3', .int .i64 t, .int .i64 r] 28)) W → W.cell? ⟨(w.heap.size + 1), 0, none⟩ = some (.slice A1' n1 c1') ∧ W.cell? ⟨(w.heap.size + 1), 1, none⟩ = some (.slice A2' n2 c2') ∧ W.cell? ⟨(w.heap.size + 1), 2, none⟩ = some (.slice A3' n3 c3') ∧ W.cell? ⟨(w.heap.size + 1), 3, none⟩ = some (.int .i64 t) ∧ W.cell? ⟨(w.heap.size + 1), 4, none⟩ = some (.int .i64 r)) := fun W hB => ⟨cell_of_row W _ 0 _ _ _ ((hB.block _ (by simp; try omega)).trans K2.out), cell_of_row W _ 1 _ _ _ ((hB.block _ (by simp; try omega)).trans K2.out), cell_of_row W _ 2 _ _ _ ((hB.block _ (by simp; try omega)).trans K2.out), cell_of_row W _ 3 _ _ _ ((hB.block _ (by simp; try omega)).trans K2.out), cell_of_row W _ 4 _ _ _ ((hB.block _ (by simp; try omega)).trans K2.out)⟩
  have R := Lib.hid (h.lt.below B2.out (Nat.min_le_right _ _))
  have R' := Lib.hid (h'.lt.below B2.out (Nat.min_le_right _ _))
  have H0 : Hid (Below (w.heap.size + 2) ((w.alloc (.cells #[.slice A1 n1 c1, .slice A2 n2 c2, .slice A3 n3 c3, .int .i64 t, .int .i64 r] 28)).alloc (.cells #[.slice A1' n1 c1', .slice A2' n2 c2', .slice A3' n3 c3', .int .i64 t, .int .i64 r] 28)) ((w.alloc (.cells #[.slice A1 n1 c1, .slice A2 n2 c2, .slice A3 n3 c3, .int .i64 t, .int .i64 r] 28)).alloc (.cells #[.slice A1' n1 c1', .slice A2' n2 c2', .slice A3' n3 c3', .int .i64 t, .int .i64 r] 28))) := Below.refl _ _
  have S2 : Hid (((w.alloc (.cells #[.slice A1 n1 c1, .slice A2 n2 c2, .slice A3 n3 c3, .int .i64 t, .int .i64 r] 28)).alloc (.cells #[.slice A1' n1 c1', .slice A2' n2 c2', .slice A3' n3 c3', .int .i64 t, .int .i64 r] 28)).heap.size = w.heap.size + 2) := by show _ = _; simp
  clear h h' K1 K2
  go_enter Tryz.func40, Tryz.ntmps40
  go_wp2_with fail
  refine (eqInt64S_same lo (min hi w.heap.size) lo' (min hi' w.heap.size) A1 A1' n1 c1 c1' (gi K.os) _ (by omega) (R.out.below H0.out (by omega)).2.1 (R'.out.below H0.out (by omega)).2.1).mono ?_
  rintro e w1 ⟨rfl, hb⟩
  have sz := H0.out.size
  have sz2 := S2.out
  have Hw1 := Lib.hid (H0.out.trans (hb.mono (by omega)))
  obtain ⟨x0, x1, x2, x3, x4⟩ := Q1.out _ Hw1.out
  obtain ⟨y0, y1, y2, y3, y4⟩ := Q2.out _ Hw1.out
  clear hb sz sz2
  go_wp2_with fail
  refine (eqBoolS_same lo (min hi w.heap.size) lo' (min hi' w.heap.size) A2 A2' n2 c2 c2' (gb K.al) _ (by omega) (R.out.below Hw1.out (by omega)).2.2.1 (R'.out.below Hw1.out (by omega)).2.2.1).mono ?_
  rintro e w2 ⟨rfl, hb⟩
  have sz := Hw1.out.size
  have sz2 := S2.out
  have Hw2 := Lib.hid (Hw1.out.trans (hb.mono (by omega)))
  obtain ⟨x0, x1, x2, x3, x4⟩ := Q1.out _ Hw2.out
  obtain ⟨y0, y1, y2, y3, y4⟩ := Q2.out _ Hw2.out
  clear hb sz sz2
  go_wp2_with fail
  refine (eqAccountS_same lo (min hi w.heap.size) lo' (min hi' w.heap.size) A3 A3' n3 c3 c3' (gi K.ac) _ (by omega) (R.out.below Hw2.out (by omega)).2.2.2 (R'.out.below Hw2.out (by omega)).2.2.2).mono ?_
  rintro e w3 ⟨rfl, hb⟩
  have sz := Hw2.out.size
  have sz2 := S2.out
  have Hw3 := Lib.hid (Hw2.out.trans (hb.mono (by omega)))
  obtain ⟨x0, x1, x2, x3, x4⟩ := Q1.out _ Hw3.out
  obtain ⟨y0, y1, y2, y3, y4⟩ := Q2.out _ Hw3.out
  clear hb sz sz2
  go_wp2
  go_ret
  exact ⟨rfl, B2.out.trans (Hw3.out.mono (by omega))⟩

/-- eqKernelResult of two answers that read alike: true. -/
theorem eqKernelResult_same (lo hi lo' hi' : Nat) (A1 : Option Addr) (n1 c1 : Nat) (A2 : Option Addr) (n2 c2 : Nat) (A3 : Option Addr) (n3 c3 : Nat) (A4 : Option Addr) (n4 c4 : Nat) (A1' : Option Addr) (c1' : Nat) (A2' : Option Addr) (c2' : Nat) (A3' : Option Addr) (c3' : Nat) (A4' : Option Addr) (c4' : Nat) (q t r : Int) (K : Ker) (ns : List Int) (w : World) (hn1 : n1 * 8 ≤ 140737488351232) (hn2 : n2 * 8 ≤ 140737488351232) (hn3 : n3 * 32 ≤ 140737488351232) (hn4 : n4 * 24 ≤ 140737488351232)
    (h : KRead w lo hi A1 n1 A2 n2 A3 n3 K) (h' : KRead w lo' hi' A1' n1 A2' n2 A3' n3 K) (g : Sl w lo hi A4 (n4 * 3) (fun k => .int .i64 (gi ns k))) (g' : Sl w lo' hi' A4' (n4 * 3) (fun k => .int .i64 (gi ns k))) :
    Calls Tryz.prog 39 #[.agg #[.int .i64 q, .slice A1 n1 c1, .slice A2 n2 c2, .slice A3 n3 c3, .int .i64 t, .int .i64 r, .slice A4 n4 c4], .agg #[.int .i64 q, .slice A1' n1 c1', .slice A2' n2 c2', .slice A3' n3 c3', .int .i64 t, .int .i64 r, .slice A4' n4 c4']] w fun e w' => e = .returned (.bool true) ∧ Below w.heap.size w w' := by
  have K1 : Hid (((w.alloc (.cells #[.int .i64 q, .slice A1 n1 c1, .slice A2 n2 c2, .slice A3 n3 c3, .int .i64 t, .int .i64 r, .slice A4 n4 c4] 35)).alloc (.cells #[.int .i64 q, .slice A1' n1 c1', .slice A2' n2 c2', .slice A3' n3 c3', .int .i64 t, .int .i64 r, .slice A4' n4 c4'] 35)).heap[w.heap.size]? = some (.cells #[.int .i64 q, .slice A1 n1 c1, .slice A2 n2 c2, .slice A3 n3 c3, .int .i64 t, .int .i64 r, .slice A4 n4 c4] 35 (0, 0))) := heap_alloc2_old w _ _
  have K2 : Hid (((w.alloc (.cells #[.int .i64 q, .slice A1 n1 c1, .slice A2 n2 c2, .slice A3 n3 c3, .int .i64 t, .int .i64 r, .slice A4 n4 c4] 35)).alloc (.cells #[.int .i64 q, .slice A1' n1 c1', .slice A2' n2 c2', .slice A3' n3 c3', .int .i64 t, .int .i64 r, .slice A4' n4 c4'] 35)).heap[w.heap.size + 1]? = some (.cells #[.int .i64 q, .slice A1' n1 c1', .slice A2' n2 c2', .slice A3' n3 c3', .int .i64 t, .int .i64 r, .slice A4' n4 c4'] 35 (0, 0))) := heap_alloc2_new w _ _
  have B2 : Hid (Below w.heap.size w ((w.alloc (.cells #[.int .i64 q, .slice A1 n1 c1, .slice A2 n2 c2, .slice A3 n3 c3, .int .i64 t, .int .i64 r, .slice A4 n4 c4] 35)).alloc (.cells #[.int .i64 q, .slice A1' n1 c1', .slice A2' n2 c2', .slice A3' n3 c3', .int .i64 t, .int .i64 r, .slice A4' n4 c4'] 35))) := ((Below.refl _ _).alloc (Nat.le_refl _) _).alloc (by simp) _
  have Q1 : Hid (∀ W, Below (w.heap.size + 2) ((w.alloc (.cells #[.int .i64 q, .slice A1 n1 c1, .slice A2 n2 c2, .slice A3 n3 c3, .int .i64 t, .int .i64 r, .slice A4 n4 c4] 35)).alloc (.cells #[.int .i64 q, .slice A1' n1 c1', .slice A2' n2 c2', .slice A3' n3 c3', .int .i64 t, .int .i64 r, .slice A4' n4 c4'] 35)) W → W.cell? ⟨w.heap.size, 0, none⟩ = some (.int .i64 q) ∧ W.cell? ⟨w.heap.size, 1, none⟩ = some (.slice A1 n1 c1) ∧ W.cell? ⟨w.heap.size, 2, none⟩ = some (.slice A2 n2 c2) ∧ W.cell? ⟨w.heap.size, 3, none⟩ = some (.slice A3 n3 c3) ∧ W.cell? ⟨w.heap.size, 4, none⟩ = some (.int .i64 t) ∧ W.cell? ⟨w.heap.size, 5, none⟩ = some (.int .i64 r) ∧ W.cell? ⟨w.heap.size, 6, none⟩ = some (.slice A4 n4 c4)) := fun W hB => ⟨cell_of_row W _ 0 _ _ _ ((hB.block _ (by simp; try omega)).trans K1.out), cell_of_row W _ 1 _ _ _ ((hB.block _ (by simp; try omega)).trans K1.out), cell_of_row W _ 2 _ _ _ ((hB.block _ (by simp; try omega)).trans K1.out), cell_of_row W _ 3 _ _ _ ((hB.block _ (by simp; try omega)).trans K1.out), cell_of_row W _ 4 _ _ _ ((hB.block _ (by simp; try omega)).trans K1.out), cell_of_row W _ 5 _ _ _ ((hB.block _ (by simp; try omega)).trans K1.out), cell_of_row W _ 6 _ _ _ ((hB.block _ (by simp; try omega)).trans K1.out)⟩
  have Q2 : Hid (∀ W, Below (w.heap.size + 2) ((w.alloc (.cells #[.int .i64 q, .slice A1 n1 c1, .slice A2 n2 c2, .slice A3 n3 c3, .int .i64 t, .int .i64 r, .slice A4 n4 c4] 35)).alloc (.cells #[.int .i64 q, .slice A1' n1 c1', .slice A2' n2 c2', .slice A3' n3 c3', .int .i64 t, .int .i64 r, .slice A4' n4 c4'] 35)) W → W.cell? ⟨(w.heap.size + 1), 0, none⟩ = some (.int .i64 q) ∧ W.cell? ⟨(w.heap.size + 1), 1, none⟩ = some (.slice A1' n1 c1') ∧ W.cell? ⟨(w.heap.size + 1), 2, none⟩ = some (.slice A2' n2 c2') ∧ W.cell? ⟨(w.heap.size + 1), 3, none⟩ = some (.slice A3' n3 c3') ∧ W.cell? ⟨(w.heap.size + 1), 4, none⟩ = some (.int .i64 t) ∧ W.cell? ⟨(w.heap.size + 1), 5, none⟩ = some (.int .i64 r) ∧ W.cell? ⟨(w.heap.size + 1), 6, none⟩ = some (.slice A4' n4 c4')) := fun W hB => ⟨cell_of_row W _ 0 _ _ _ ((hB.block _ (by simp; try omega)).trans K2.out), cell_of_row W _ 1 _ _ _ ((hB.block _ (by simp; try omega)).trans K2.out), cell_of_row W _ 2 _ _ _ ((hB.block _ (by simp; try omega)).trans K2.out), cell_of_row W _ 3 _ _ _ ((hB.block _ (by simp; try omega)).trans K2.out), cell_of_row W _ 4 _ _ _ ((hB.block _ (by simp; try omega)).trans K2.out), cell_of_row W _ 5 _ _ _ ((hB.block _ (by simp; try omega)).trans K2.out), cell_of_row W _ 6 _ _ _ ((hB.block _ (by simp; try omega)).trans K2.out)⟩
  have R := Lib.hid (h.lt.below B2.out (Nat.min_le_right _ _))
  have R' := Lib.hid (h'.lt.below B2.out (Nat.min_le_right _ _))
  have G := Lib.hid (g.lt.below B2.out (Nat.min_le_right _ _))
  have G' := Lib.hid (g'.lt.below B2.out (Nat.min_le_right _ _))
  have H0 : Hid (Below (w.heap.size + 2) ((w.alloc (.cells #[.int .i64 q, .slice A1 n1 c1, .slice A2 n2 c2, .slice A3 n3 c3, .int .i64 t, .int .i64 r, .slice A4 n4 c4] 35)).alloc (.cells #[.int .i64 q, .slice A1' n1 c1', .slice A2' n2 c2', .slice A3' n3 c3', .int .i64 t, .int .i64 r, .slice A4' n4 c4'] 35)) ((w.alloc (.cells #[.int .i64 q, .slice A1 n1 c1, .slice A2 n2 c2, .slice A3 n3 c3, .int .i64 t, .int .i64 r, .slice A4 n4 c4] 35)).alloc (.cells #[.int .i64 q, .slice A1' n1 c1', .slice A2' n2 c2', .slice A3' n3 c3', .int .i64 t, .int .i64 r, .slice A4' n4 c4'] 35))) := Below.refl _ _
  have S2 : Hid (((w.alloc (.cells #[.int .i64 q, .slice A1 n1 c1, .slice A2 n2 c2, .slice A3 n3 c3, .int .i64 t, .int .i64 r, .slice A4 n4 c4] 35)).alloc (.cells #[.int .i64 q, .slice A1' n1 c1', .slice A2' n2 c2', .slice A3' n3 c3', .int .i64 t, .int .i64 r, .slice A4' n4 c4'] 35)).heap.size = w.heap.size + 2) := by show _ = _; simp
  clear h h' g g' K1 K2
  obtain ⟨x0, x1, x2, x3, x4, x5, x6⟩ := Q1.out _ H0.out
  obtain ⟨y0, y1, y2, y3, y4, y5, y6⟩ := Q2.out _ H0.out
  go_enter Tryz.func39, Tryz.ntmps39
  go_wp2_with fail
  refine (eqKernel_same lo (min hi w.heap.size) lo' (min hi' w.heap.size) A1 n1 c1 A2 n2 c2 A3 n3 c3 A1' c1' A2' c2' A3' c3' t r K _ hn1 hn2 hn3 R.out R'.out).mono ?_
  rintro e w1 ⟨rfl, hb⟩
  have sz2 := S2.out
  have Hw1 := Lib.hid (H0.out.trans (hb.mono (by omega)))
  clear hb sz2 x0  x1  x2  x3  x4  x5  x6 y0  y1  y2  y3  y4  y5  y6
  obtain ⟨x0, x1, x2, x3, x4, x5, x6⟩ := Q1.out _ Hw1.out
  obtain ⟨y0, y1, y2, y3, y4, y5, y6⟩ := Q2.out _ Hw1.out
  go_wp2_with fail
  refine (eqNoteS_same lo (min hi w.heap.size) lo' (min hi' w.heap.size) A4 A4' n4 c4 c4' (gi ns) _ (by omega) (G.out.below Hw1.out (by omega)) (G'.out.below Hw1.out (by omega))).mono ?_
  rintro e w2 ⟨rfl, hb⟩
  have sz := Hw1.out.size
  have sz2 := S2.out
  have Hw2 := Lib.hid (Hw1.out.trans (hb.mono (by omega)))
  clear hb sz sz2
  go_wp2
  go_ret
  exact ⟨rfl, B2.out.trans (Hw2.out.mono (by omega))⟩

/-- heldKernel of a kernel that reads m, m + 1, ..: what comes next. -/
theorem heldKernel_any (lo hi : Nat) (A1 : Option Addr) (n1 c1 : Nat) (A2 : Option Addr) (n2 c2 : Nat) (A3 : Option Addr) (n3 c3 : Nat) (t r : Int) (m : Nat) (w : World) (hn1 : n1 * 8 ≤ 140737488351232) (hn2 : n2 * 8 ≤ 140737488351232) (hn3 : n3 * 32 ≤ 140737488351232) (hm : m ≤ 1152921504606846976)
    (h1 : Sl w lo hi A1 n1 (fun k => .int .i64 ((m + k : Nat) : Int))) (h2 : Sl w lo hi A2 n2 (fun k => .bool (m3 (m + n1 + k)))) (h3 : Sl w lo hi A3 (n3 * 4) (fun k => .int .i64 ((m + n1 + n2 + k : Nat) : Int))) :
    Calls Tryz.prog 108 #[.agg #[.slice A1 n1 c1, .slice A2 n2 c2, .slice A3 n3 c3, .int .i64 t, .int .i64 r], .int .i64 m] w fun e w' => e = .returned (.int .i64 ((m + n1 + n2 + n3 * 4 : Nat) : Int)) ∧ Below w.heap.size w w' := by
  have K1 : Hid ((w.alloc (.cells #[.slice A1 n1 c1, .slice A2 n2 c2, .slice A3 n3 c3, .int .i64 t, .int .i64 r] 28)).heap[w.heap.size]? = some (.cells #[.slice A1 n1 c1, .slice A2 n2 c2, .slice A3 n3 c3, .int .i64 t, .int .i64 r] 28 (0, 0))) := heap_alloc_new w _
  have B2 : Hid (Below w.heap.size w (w.alloc (.cells #[.slice A1 n1 c1, .slice A2 n2 c2, .slice A3 n3 c3, .int .i64 t, .int .i64 r] 28))) := below_new w _
  have Q1 : Hid (∀ W, Below (w.heap.size + 1) (w.alloc (.cells #[.slice A1 n1 c1, .slice A2 n2 c2, .slice A3 n3 c3, .int .i64 t, .int .i64 r] 28)) W → W.cell? ⟨w.heap.size, 0, none⟩ = some (.slice A1 n1 c1) ∧ W.cell? ⟨w.heap.size, 1, none⟩ = some (.slice A2 n2 c2) ∧ W.cell? ⟨w.heap.size, 2, none⟩ = some (.slice A3 n3 c3) ∧ W.cell? ⟨w.heap.size, 3, none⟩ = some (.int .i64 t) ∧ W.cell? ⟨w.heap.size, 4, none⟩ = some (.int .i64 r)) := fun W hB => ⟨cell_of_row W _ 0 _ _ _ ((hB.block _ (by simp; try omega)).trans K1.out), cell_of_row W _ 1 _ _ _ ((hB.block _ (by simp; try omega)).trans K1.out), cell_of_row W _ 2 _ _ _ ((hB.block _ (by simp; try omega)).trans K1.out), cell_of_row W _ 3 _ _ _ ((hB.block _ (by simp; try omega)).trans K1.out), cell_of_row W _ 4 _ _ _ ((hB.block _ (by simp; try omega)).trans K1.out)⟩
  have P1 := Lib.hid (h1.lt.below B2.out (Nat.min_le_right _ _)); have P2 := Lib.hid (h2.lt.below B2.out (Nat.min_le_right _ _)); have P3 := Lib.hid (h3.lt.below B2.out (Nat.min_le_right _ _))
  have H0 : Hid (Below (w.heap.size + 1) (w.alloc (.cells #[.slice A1 n1 c1, .slice A2 n2 c2, .slice A3 n3 c3, .int .i64 t, .int .i64 r] 28)) (w.alloc (.cells #[.slice A1 n1 c1, .slice A2 n2 c2, .slice A3 n3 c3, .int .i64 t, .int .i64 r] 28))) := Below.refl _ _
  have S2 : Hid ((w.alloc (.cells #[.slice A1 n1 c1, .slice A2 n2 c2, .slice A3 n3 c3, .int .i64 t, .int .i64 r] 28)).heap.size = w.heap.size + 1) := by show _ = _; simp
  clear h1 h2 h3 K1
  go_enter Tryz.func108, Tryz.ntmps108
  go_wp2_with fail
  refine (heldInt64S_any lo (min hi w.heap.size) A1 n1 c1 m _ (by omega) (by omega) (P1.out.below H0.out (by omega))).mono ?_
  rintro e w1 ⟨rfl, hb⟩
  have sz := H0.out.size
  have sz2 := S2.out
  have Hw1 := Lib.hid (H0.out.trans (hb.mono (by omega)))
  obtain ⟨x0, x1, x2, x3, x4⟩ := Q1.out _ Hw1.out
  clear hb sz sz2
  go_wp2_with fail
  refine (heldBoolS_any lo (min hi w.heap.size) A2 n2 c2 (m + n1) _ (by omega) (by omega) (P2.out.below Hw1.out (by omega))).mono ?_
  rintro e w2 ⟨rfl, hb⟩
  have sz := Hw1.out.size
  have sz2 := S2.out
  have Hw2 := Lib.hid (Hw1.out.trans (hb.mono (by omega)))
  obtain ⟨x0, x1, x2, x3, x4⟩ := Q1.out _ Hw2.out
  clear hb sz sz2
  go_wp2_with fail
  refine (heldAccountS_any lo (min hi w.heap.size) A3 n3 c3 (m + n1 + n2) _ (by omega) (by omega) (P3.out.below Hw2.out (by omega))).mono ?_
  rintro e w3 ⟨rfl, hb⟩
  have sz := Hw2.out.size
  have sz2 := S2.out
  have Hw3 := Lib.hid (Hw2.out.trans (hb.mono (by omega)))
  obtain ⟨x0, x1, x2, x3, x4⟩ := Q1.out _ Hw3.out
  clear hb sz sz2
  go_wp2
  go_ret
  exact ⟨rfl, B2.out.trans (Hw3.out.mono (by omega))⟩

theorem heldKernelResult_any (lo hi : Nat) (A1 : Option Addr) (n1 c1 : Nat) (A2 : Option Addr) (n2 c2 : Nat) (A3 : Option Addr) (n3 c3 : Nat) (A4 : Option Addr) (n4 c4 : Nat) (q t r : Int) (m : Nat) (w : World) (hn1 : n1 * 8 ≤ 140737488351232) (hn2 : n2 * 8 ≤ 140737488351232) (hn3 : n3 * 32 ≤ 140737488351232) (hn4 : n4 * 24 ≤ 140737488351232) (hm : m ≤ 1152921504606846976)
    (h1 : Sl w lo hi A1 n1 (fun k => .int .i64 ((m + k : Nat) : Int))) (h2 : Sl w lo hi A2 n2 (fun k => .bool (m3 (m + n1 + k)))) (h3 : Sl w lo hi A3 (n3 * 4) (fun k => .int .i64 ((m + n1 + n2 + k : Nat) : Int)))
    (h4 : Sl w lo hi A4 (n4 * 3) (fun k => .int .i64 ((m + n1 + n2 + n3 * 4 + k : Nat) : Int))) :
    Calls Tryz.prog 43 #[.agg #[.int .i64 q, .slice A1 n1 c1, .slice A2 n2 c2, .slice A3 n3 c3, .int .i64 t, .int .i64 r, .slice A4 n4 c4], .int .i64 m] w fun e w' => e = .returned (.int .i64 ((m + n1 + n2 + n3 * 4 + n4 * 3 : Nat) : Int)) ∧ Below w.heap.size w w' := by
  have K1 : Hid ((w.alloc (.cells #[.int .i64 q, .slice A1 n1 c1, .slice A2 n2 c2, .slice A3 n3 c3, .int .i64 t, .int .i64 r, .slice A4 n4 c4] 35)).heap[w.heap.size]? = some (.cells #[.int .i64 q, .slice A1 n1 c1, .slice A2 n2 c2, .slice A3 n3 c3, .int .i64 t, .int .i64 r, .slice A4 n4 c4] 35 (0, 0))) := heap_alloc_new w _
  have B2 : Hid (Below w.heap.size w (w.alloc (.cells #[.int .i64 q, .slice A1 n1 c1, .slice A2 n2 c2, .slice A3 n3 c3, .int .i64 t, .int .i64 r, .slice A4 n4 c4] 35))) := below_new w _
  have Q1 : Hid (∀ W, Below (w.heap.size + 1) (w.alloc (.cells #[.int .i64 q, .slice A1 n1 c1, .slice A2 n2 c2, .slice A3 n3 c3, .int .i64 t, .int .i64 r, .slice A4 n4 c4] 35)) W → W.cell? ⟨w.heap.size, 0, none⟩ = some (.int .i64 q) ∧ W.cell? ⟨w.heap.size, 1, none⟩ = some (.slice A1 n1 c1) ∧ W.cell? ⟨w.heap.size, 2, none⟩ = some (.slice A2 n2 c2) ∧ W.cell? ⟨w.heap.size, 3, none⟩ = some (.slice A3 n3 c3) ∧ W.cell? ⟨w.heap.size, 4, none⟩ = some (.int .i64 t) ∧ W.cell? ⟨w.heap.size, 5, none⟩ = some (.int .i64 r) ∧ W.cell? ⟨w.heap.size, 6, none⟩ = some (.slice A4 n4 c4)) := fun W hB => ⟨cell_of_row W _ 0 _ _ _ ((hB.block _ (by simp; try omega)).trans K1.out), cell_of_row W _ 1 _ _ _ ((hB.block _ (by simp; try omega)).trans K1.out), cell_of_row W _ 2 _ _ _ ((hB.block _ (by simp; try omega)).trans K1.out), cell_of_row W _ 3 _ _ _ ((hB.block _ (by simp; try omega)).trans K1.out), cell_of_row W _ 4 _ _ _ ((hB.block _ (by simp; try omega)).trans K1.out), cell_of_row W _ 5 _ _ _ ((hB.block _ (by simp; try omega)).trans K1.out), cell_of_row W _ 6 _ _ _ ((hB.block _ (by simp; try omega)).trans K1.out)⟩
  have P1 := Lib.hid (h1.lt.below B2.out (Nat.min_le_right _ _)); have P2 := Lib.hid (h2.lt.below B2.out (Nat.min_le_right _ _)); have P3 := Lib.hid (h3.lt.below B2.out (Nat.min_le_right _ _)); have P4 := Lib.hid (h4.lt.below B2.out (Nat.min_le_right _ _))
  have H0 : Hid (Below (w.heap.size + 1) (w.alloc (.cells #[.int .i64 q, .slice A1 n1 c1, .slice A2 n2 c2, .slice A3 n3 c3, .int .i64 t, .int .i64 r, .slice A4 n4 c4] 35)) (w.alloc (.cells #[.int .i64 q, .slice A1 n1 c1, .slice A2 n2 c2, .slice A3 n3 c3, .int .i64 t, .int .i64 r, .slice A4 n4 c4] 35))) := Below.refl _ _
  have S2 : Hid ((w.alloc (.cells #[.int .i64 q, .slice A1 n1 c1, .slice A2 n2 c2, .slice A3 n3 c3, .int .i64 t, .int .i64 r, .slice A4 n4 c4] 35)).heap.size = w.heap.size + 1) := by show _ = _; simp
  clear h1 h2 h3 h4 K1
  go_enter Tryz.func43, Tryz.ntmps43
  go_wp2_with fail
  refine (heldKernel_any lo (min hi w.heap.size) A1 n1 c1 A2 n2 c2 A3 n3 c3 t r m _ hn1 hn2 hn3 hm P1.out P2.out P3.out).mono ?_
  rintro e w1 ⟨rfl, hb⟩
  have sz2 := S2.out
  have Hw1 := Lib.hid (H0.out.trans (hb.mono (by omega)))
  obtain ⟨x0, x1, x2, x3, x4, x5, x6⟩ := Q1.out _ Hw1.out
  clear hb sz2
  go_wp2_with fail
  refine (heldNoteS_any lo (min hi w.heap.size) A4 n4 c4 (m + n1 + n2 + n3 * 4) _ (by omega) (by omega) (P4.out.below Hw1.out (by omega))).mono ?_
  rintro e w2 ⟨rfl, hb⟩
  have sz := Hw1.out.size
  have sz2 := S2.out
  have Hw2 := Lib.hid (Hw1.out.trans (hb.mono (by omega)))
  obtain ⟨x0, x1, x2, x3, x4, x5, x6⟩ := Q1.out _ Hw2.out
  clear hb sz sz2
  go_wp2
  go_ret
  exact ⟨rfl, B2.out.trans (Hw2.out.mono (by omega))⟩

end Go.Proofs.YtlallklfilmcnaaGreat

-- Kit3c
namespace Go.Proofs.YtlallklfilmcnaaGreat
open Go.RowKit

/-- the block of a list, if it has anything -/
def gsOf (n g : Nat) : List Nat := if n = 0 then [] else [g]
theorem Mine.keptOf {n1 g1 n g : Nat} {w w' : World} {t : TypeId} {A : Option Addr} {f : Nat → Value} (h : Mine w g (g + 1) t A n f) (k : Kept (gsOf n1 g1) w w') (d : n1 ≠ 0 → n ≠ 0 → g1 ≠ g) : Mine w' g (g + 1) t A n f := by
  by_cases h0 : n = 0
  · exact .inl h0
  · by_cases h1 : n1 = 0
    · rw [gsOf, if_pos h1] at k
      exact h.kept k (by simp)
    · rw [gsOf, if_neg h1] at k
      exact h.kept k (by simp; exact fun e => d h1 h0 e.symm)
theorem Kept.of_only {g : Nat} {w w' : World} (h : Only g (g + 1) w w') : Kept [g] w w' :=
  ⟨h.1.mono (Nat.zero_le _), fun b hb hn => by
    by_cases hlt : b < g
    · exact h.1.block b hlt
    · exact h.2 b (by simp at hn; omega) hb⟩
theorem Kept.of_none {w w' : World} (h : Only 0 0 w w') : Kept [] w w' := ⟨h.1, fun b hb _ => h.2 b (Nat.zero_le _) hb⟩

theorem markInt64S_kept (g : Nat) (A : Option Addr) (n c : Nat) (x : Nat → Int) (m : Nat) (w : World) (hn : n * 8 ≤ 140737488351232) (hm : m ≤ 2305843009213693952) (h : Mine w g (g + 1) 2 A (n) (fun k => .int .i64 (x k))) :
    Calls Tryz.prog 104 #[.slice A n c, .int .i64 m] w fun e w' =>
      e = .returned (.int .i64 ((m + n : Nat) : Int)) ∧ Mine w' g (g + 1) 2 A (n) (fun k => .int .i64 ((m + k : Nat) : Int)) ∧ Kept (gsOf (n) g) w w' := by
  by_cases h0 : n = 0
  · subst h0
    refine (markInt64S_any 0 0 A 0 c (fun k => .int .i64 (x k)) m w (by omega) (by omega) (fun k hk => ⟨_, rfl⟩) (.inl (by simp))).mono ?_
    rintro e w' ⟨h1, _, h3⟩
    exact ⟨h1, .inl (by simp), Kept.of_none h3⟩
  · refine (markInt64S_any g (g + 1) A n c (fun k => .int .i64 (x k)) m w (by omega) (by omega) (fun k hk => ⟨_, rfl⟩) h).mono ?_
    rintro e w' ⟨h1, h2, h3⟩
    exact ⟨h1, h2, by rw [gsOf, if_neg (by omega)]; exact Kept.of_only h3⟩

theorem markBoolS_kept (g : Nat) (A : Option Addr) (n c : Nat) (x : Nat → Bool) (m : Nat) (w : World) (hn : n * 8 ≤ 140737488351232) (hm : m ≤ 2305843009213693952) (h : Mine w g (g + 1) 4 A (n) (fun k => .bool (x k))) :
    Calls Tryz.prog 105 #[.slice A n c, .int .i64 m] w fun e w' =>
      e = .returned (.int .i64 ((m + n : Nat) : Int)) ∧ Mine w' g (g + 1) 4 A (n) (fun k => .bool (m3 (m + k))) ∧ Kept (gsOf (n) g) w w' := by
  by_cases h0 : n = 0
  · subst h0
    refine (markBoolS_any 0 0 A 0 c (fun k => .bool (x k)) m w (by omega) (by omega) (fun k hk => ⟨_, rfl⟩) (.inl (by simp))).mono ?_
    rintro e w' ⟨h1, _, h3⟩
    exact ⟨h1, .inl (by simp), Kept.of_none h3⟩
  · refine (markBoolS_any g (g + 1) A n c (fun k => .bool (x k)) m w (by omega) (by omega) (fun k hk => ⟨_, rfl⟩) h).mono ?_
    rintro e w' ⟨h1, h2, h3⟩
    exact ⟨h1, h2, by rw [gsOf, if_neg (by omega)]; exact Kept.of_only h3⟩

theorem markAccountS_kept (g : Nat) (A : Option Addr) (n c : Nat) (x : Nat → Int) (m : Nat) (w : World) (hn : n * 32 ≤ 140737488351232) (hm : m ≤ 2305843009213693952) (h : Mine w g (g + 1) 52 A (n * 4) (fun k => .int .i64 (x k))) :
    Calls Tryz.prog 106 #[.slice A n c, .int .i64 m] w fun e w' =>
      e = .returned (.int .i64 ((m + n * 4 : Nat) : Int)) ∧ Mine w' g (g + 1) 52 A (n * 4) (fun k => .int .i64 ((m + k : Nat) : Int)) ∧ Kept (gsOf (n * 4) g) w w' := by
  by_cases h0 : n = 0
  · subst h0
    refine (markAccountS_any 0 0 A 0 c (fun k => .int .i64 (x k)) m w (by omega) (by omega) (fun k hk => ⟨_, rfl⟩) (.inl (by simp))).mono ?_
    rintro e w' ⟨h1, _, h3⟩
    exact ⟨h1, .inl (by simp), Kept.of_none h3⟩
  · refine (markAccountS_any g (g + 1) A n c (fun k => .int .i64 (x k)) m w (by omega) (by omega) (fun k hk => ⟨_, rfl⟩) h).mono ?_
    rintro e w' ⟨h1, h2, h3⟩
    exact ⟨h1, h2, by rw [gsOf, if_neg (by omega)]; exact Kept.of_only h3⟩

theorem markNoteS_kept (g : Nat) (A : Option Addr) (n c : Nat) (x : Nat → Int) (m : Nat) (w : World) (hn : n * 24 ≤ 140737488351232) (hm : m ≤ 2305843009213693952) (h : Mine w g (g + 1) 68 A (n * 3) (fun k => .int .i64 (x k))) :
    Calls Tryz.prog 107 #[.slice A n c, .int .i64 m] w fun e w' =>
      e = .returned (.int .i64 ((m + n * 3 : Nat) : Int)) ∧ Mine w' g (g + 1) 68 A (n * 3) (fun k => .int .i64 ((m + k : Nat) : Int)) ∧ Kept (gsOf (n * 3) g) w w' := by
  by_cases h0 : n = 0
  · subst h0
    refine (markNoteS_any 0 0 A 0 c (fun k => .int .i64 (x k)) m w (by omega) (by omega) (fun k hk => ⟨_, rfl⟩) (.inl (by simp))).mono ?_
    rintro e w' ⟨h1, _, h3⟩
    exact ⟨h1, .inl (by simp), Kept.of_none h3⟩
  · refine (markNoteS_any g (g + 1) A n c (fun k => .int .i64 (x k)) m w (by omega) (by omega) (fun k hk => ⟨_, rfl⟩) h).mono ?_
    rintro e w' ⟨h1, h2, h3⟩
    exact ⟨h1, h2, by rw [gsOf, if_neg (by omega)]; exact Kept.of_only h3⟩

theorem gs_notin {n g b : Nat} (h : g ≠ b) : b ∉ gsOf n g := by
  unfold gsOf
  split
  · simp
  · simp; omega
theorem markKernel_any (A1 : Option Addr) (n1 c1 : Nat) (A2 : Option Addr) (n2 c2 : Nat) (A3 : Option Addr) (n3 c3 : Nat) (g1 g2 g3 : Nat) (x1 : Nat → Int) (x2 : Nat → Bool) (x3 : Nat → Int) (t r : Int) (m : Nat) (w : World) (hn1 : n1 * 8 ≤ 140737488351232) (hn2 : n2 * 8 ≤ 140737488351232) (hn3 : n3 * 32 ≤ 140737488351232) (hm : m ≤ 1152921504606846976)
    (h1 : Mine w g1 (g1 + 1) 2 A1 n1 (fun k => .int .i64 (x1 k))) (h2 : Mine w g2 (g2 + 1) 4 A2 n2 (fun k => .bool (x2 k))) (h3 : Mine w g3 (g3 + 1) 52 A3 (n3 * 4) (fun k => .int .i64 (x3 k)))
    (b1 : g1 < w.heap.size) (b2 : g2 < w.heap.size) (b3 : g3 < w.heap.size) (d12 : n1 ≠ 0 → n2 ≠ 0 → g1 ≠ g2) (d13 : n1 ≠ 0 → n3 ≠ 0 → g1 ≠ g3) (d23 : n2 ≠ 0 → n3 ≠ 0 → g2 ≠ g3) :
    Calls Tryz.prog 41 #[.agg #[.slice A1 n1 c1, .slice A2 n2 c2, .slice A3 n3 c3, .int .i64 t, .int .i64 r], .int .i64 m] w fun e w' => e = .returned (.int .i64 ((m + n1 + n2 + n3 * 4 : Nat) : Int)) ∧
      Mine w' g1 (g1 + 1) 2 A1 n1 (fun k => .int .i64 ((m + k : Nat) : Int)) ∧ Mine w' g2 (g2 + 1) 4 A2 n2 (fun k => .bool (m3 (m + n1 + k))) ∧ Mine w' g3 (g3 + 1) 52 A3 (n3 * 4) (fun k => .int .i64 ((m + n1 + n2 + k : Nat) : Int)) ∧
      Kept (gsOf n1 g1 ++ gsOf n2 g2 ++ gsOf (n3 * 4) g3) w w' := by
  have QS : Hid (∀ W gs, Kept gs (w.alloc (.cells #[.slice A1 n1 c1, .slice A2 n2 c2, .slice A3 n3 c3, .int .i64 t, .int .i64 r] 28)) W → w.heap.size ∉ gs → W.cell? ⟨w.heap.size, 0, none⟩ = some (.slice A1 n1 c1) ∧ W.cell? ⟨w.heap.size, 1, none⟩ = some (.slice A2 n2 c2) ∧ W.cell? ⟨w.heap.size, 2, none⟩ = some (.slice A3 n3 c3) ∧ W.cell? ⟨w.heap.size, 3, none⟩ = some (.int .i64 t) ∧ W.cell? ⟨w.heap.size, 4, none⟩ = some (.int .i64 r)) := fun W gs hK hn => by
    have k := (hK.2 w.heap.size (by simp) hn).trans (heap_alloc_new w (.cells #[.slice A1 n1 c1, .slice A2 n2 c2, .slice A3 n3 c3, .int .i64 t, .int .i64 r] 28))
    exact ⟨cell_of_row W _ 0 _ _ _ k, cell_of_row W _ 1 _ _ _ k, cell_of_row W _ 2 _ _ _ k, cell_of_row W _ 3 _ _ _ k, cell_of_row W _ 4 _ _ _ k⟩
  have B2 : Hid (Below w.heap.size w (w.alloc (.cells #[.slice A1 n1 c1, .slice A2 n2 c2, .slice A3 n3 c3, .int .i64 t, .int .i64 r] 28))) := below_new w _
  have S2 : Hid ((w.alloc (.cells #[.slice A1 n1 c1, .slice A2 n2 c2, .slice A3 n3 c3, .int .i64 t, .int .i64 r] 28)).heap.size = w.heap.size + 1) := by show _ = _; simp
  have M1 := Lib.hid (h1.below B2.out (by omega)); have M2 := Lib.hid (h2.below B2.out (by omega)); have M3 := Lib.hid (h3.below B2.out (by omega))
  have D12 := Lib.hid d12; have D13 := Lib.hid d13; have D23 := Lib.hid d23
  clear h1 h2 h3 d12 d13 d23
  go_enter Tryz.func41, Tryz.ntmps41
  go_wp2_with fail
  refine (markInt64S_kept g1 A1 n1 c1 x1 m _ (by omega) (by omega) M1.out).mono ?_
  rintro e w1 ⟨rfl, u1, k1⟩
  have N2 := Lib.hid (M2.out.keptOf k1 D12.out)
  have N3 := Lib.hid (M3.out.keptOf k1 (fun a b => D13.out a (by omega)))
  obtain ⟨x0, x1', x2', x3', x4⟩ := QS.out _ _ k1 (gs_notin (by omega))
  have U1 := Lib.hid u1; have HK1 := Lib.hid k1
  clear u1 k1 M1 M2 M3
  go_wp2_with fail
  refine (markBoolS_kept g2 A2 n2 c2 x2 (m + n1) _ (by omega) (by omega) N2.out).mono ?_
  rintro e w2 ⟨rfl, u2, k2⟩
  have V1 := Lib.hid (U1.out.keptOf k2 (fun a b => (D12.out b a).symm))
  have V3 := Lib.hid (N3.out.keptOf k2 (fun a b => D23.out a (by omega)))
  have k12 := (HK1.out.mono (gs' := gsOf n1 g1 ++ gsOf n2 g2) (fun b h _ => List.mem_append_left _ h)).trans (k2.mono (fun b h _ => List.mem_append_right _ h))
  obtain ⟨y0, y1', y2', y3', y4⟩ := QS.out _ _ k12 (by rw [List.mem_append]; rintro (h | h); exact gs_notin (by omega) h; exact gs_notin (by omega) h)
  have U2 := Lib.hid u2; have HK2 := Lib.hid k12
  clear u2 k2 k12 U1 N2 N3 x0 x1' x2' x3' x4 HK1
  go_wp2_with fail
  refine (markAccountS_kept g3 A3 n3 c3 x3 (m + n1 + n2) _ (by omega) (by omega) V3.out).mono ?_
  rintro e w3 ⟨rfl, u3, k3⟩
  have Y1 := Lib.hid (V1.out.keptOf k3 (fun a b => (D13.out b (by omega)).symm))
  have Y2 := Lib.hid (U2.out.keptOf k3 (fun a b => (D23.out b (by omega)).symm))
  have k13 := (HK2.out.mono (gs' := gsOf n1 g1 ++ gsOf n2 g2 ++ gsOf (n3 * 4) g3) (fun b h _ => List.mem_append_left _ h)).trans (k3.mono (fun b h _ => List.mem_append_right _ h))
  have Y3 := Lib.hid u3
  have KF := Lib.hid ((Kept.of_below B2.out _).trans k13)
  clear u3 k3 k13 V1 V3 U2 HK2 y0 y1' y2' y3' y4
  go_wp2
  go_ret
  exact ⟨rfl, Y1.out, Y2.out, Y3.out, KF.out⟩

theorem markKernelResult_any (A1 : Option Addr) (n1 c1 : Nat) (A2 : Option Addr) (n2 c2 : Nat) (A3 : Option Addr) (n3 c3 : Nat) (A4 : Option Addr) (n4 c4 : Nat) (g1 g2 g3 g4 : Nat) (x1 : Nat → Int) (x2 : Nat → Bool) (x3 x4 : Nat → Int) (q t r : Int) (m : Nat) (w : World) (hn1 : n1 * 8 ≤ 140737488351232) (hn2 : n2 * 8 ≤ 140737488351232) (hn3 : n3 * 32 ≤ 140737488351232) (hn4 : n4 * 24 ≤ 140737488351232) (hm : m ≤ 1152921504606846976)
    (h1 : Mine w g1 (g1 + 1) 2 A1 n1 (fun k => .int .i64 (x1 k))) (h2 : Mine w g2 (g2 + 1) 4 A2 n2 (fun k => .bool (x2 k))) (h3 : Mine w g3 (g3 + 1) 52 A3 (n3 * 4) (fun k => .int .i64 (x3 k))) (h4 : Mine w g4 (g4 + 1) 68 A4 (n4 * 3) (fun k => .int .i64 (x4 k)))
    (b1 : g1 < w.heap.size) (b2 : g2 < w.heap.size) (b3 : g3 < w.heap.size) (b4 : g4 < w.heap.size) (d12 : n1 ≠ 0 → n2 ≠ 0 → g1 ≠ g2) (d13 : n1 ≠ 0 → n3 ≠ 0 → g1 ≠ g3) (d23 : n2 ≠ 0 → n3 ≠ 0 → g2 ≠ g3)
    (d14 : n1 ≠ 0 → n4 ≠ 0 → g1 ≠ g4) (d24 : n2 ≠ 0 → n4 ≠ 0 → g2 ≠ g4) (d34 : n3 ≠ 0 → n4 ≠ 0 → g3 ≠ g4) :
    Calls Tryz.prog 42 #[.agg #[.int .i64 q, .slice A1 n1 c1, .slice A2 n2 c2, .slice A3 n3 c3, .int .i64 t, .int .i64 r, .slice A4 n4 c4], .int .i64 m] w fun e w' => e = .returned (.int .i64 ((m + n1 + n2 + n3 * 4 + n4 * 3 : Nat) : Int)) ∧
      Mine w' g1 (g1 + 1) 2 A1 n1 (fun k => .int .i64 ((m + k : Nat) : Int)) ∧ Mine w' g2 (g2 + 1) 4 A2 n2 (fun k => .bool (m3 (m + n1 + k))) ∧ Mine w' g3 (g3 + 1) 52 A3 (n3 * 4) (fun k => .int .i64 ((m + n1 + n2 + k : Nat) : Int)) ∧
      Mine w' g4 (g4 + 1) 68 A4 (n4 * 3) (fun k => .int .i64 ((m + n1 + n2 + n3 * 4 + k : Nat) : Int)) ∧ Kept (gsOf n1 g1 ++ gsOf n2 g2 ++ gsOf (n3 * 4) g3 ++ gsOf (n4 * 3) g4) w w' := by
  have QS : Hid (∀ W gs, Kept gs (w.alloc (.cells #[.int .i64 q, .slice A1 n1 c1, .slice A2 n2 c2, .slice A3 n3 c3, .int .i64 t, .int .i64 r, .slice A4 n4 c4] 35)) W → w.heap.size ∉ gs → W.cell? ⟨w.heap.size, 0, none⟩ = some (.int .i64 q) ∧ W.cell? ⟨w.heap.size, 1, none⟩ = some (.slice A1 n1 c1) ∧ W.cell? ⟨w.heap.size, 2, none⟩ = some (.slice A2 n2 c2) ∧ W.cell? ⟨w.heap.size, 3, none⟩ = some (.slice A3 n3 c3) ∧ W.cell? ⟨w.heap.size, 4, none⟩ = some (.int .i64 t) ∧ W.cell? ⟨w.heap.size, 5, none⟩ = some (.int .i64 r) ∧ W.cell? ⟨w.heap.size, 6, none⟩ = some (.slice A4 n4 c4)) := fun W gs hK hn => by
    have k := (hK.2 w.heap.size (by simp) hn).trans (heap_alloc_new w (.cells #[.int .i64 q, .slice A1 n1 c1, .slice A2 n2 c2, .slice A3 n3 c3, .int .i64 t, .int .i64 r, .slice A4 n4 c4] 35))
    exact ⟨cell_of_row W _ 0 _ _ _ k, cell_of_row W _ 1 _ _ _ k, cell_of_row W _ 2 _ _ _ k, cell_of_row W _ 3 _ _ _ k, cell_of_row W _ 4 _ _ _ k, cell_of_row W _ 5 _ _ _ k, cell_of_row W _ 6 _ _ _ k⟩
  have B2 : Hid (Below w.heap.size w (w.alloc (.cells #[.int .i64 q, .slice A1 n1 c1, .slice A2 n2 c2, .slice A3 n3 c3, .int .i64 t, .int .i64 r, .slice A4 n4 c4] 35))) := below_new w _
  have S2 : Hid ((w.alloc (.cells #[.int .i64 q, .slice A1 n1 c1, .slice A2 n2 c2, .slice A3 n3 c3, .int .i64 t, .int .i64 r, .slice A4 n4 c4] 35)).heap.size = w.heap.size + 1) := by show _ = _; simp
  have M1 := Lib.hid (h1.below B2.out (by omega)); have M2 := Lib.hid (h2.below B2.out (by omega)); have M3 := Lib.hid (h3.below B2.out (by omega)); have M4 := Lib.hid (h4.below B2.out (by omega))
  have D14 := Lib.hid d14; have D24 := Lib.hid d24; have D34 := Lib.hid d34
  obtain ⟨z0, z1, z2, z3, z4, z5, z6⟩ := QS.out _ [] (Kept.refl _ _) (by simp)
  clear h1 h2 h3 h4
  go_enter Tryz.func42, Tryz.ntmps42
  go_wp2_with fail
  refine (markKernel_any A1 n1 c1 A2 n2 c2 A3 n3 c3 g1 g2 g3 x1 x2 x3 t r m _ hn1 hn2 hn3 hm M1.out M2.out M3.out (by rw [S2.out]; omega) (by rw [S2.out]; omega) (by rw [S2.out]; omega) d12 d13 d23).mono ?_
  rintro e w1 ⟨rfl, u1, u2, u3, k1⟩
  have U1 := Lib.hid u1; have U2 := Lib.hid u2; have U3 := Lib.hid u3
  have KQ : Kept (gsOf n1 g1 ++ gsOf n2 g2 ++ gsOf (n3 * 4) g3 ++ gsOf (n4 * 3) g4) (w.alloc (.cells #[.int .i64 q, .slice A1 n1 c1, .slice A2 n2 c2, .slice A3 n3 c3, .int .i64 t, .int .i64 r, .slice A4 n4 c4] 35)) w1 := k1.mono (fun b h _ => List.mem_append_left _ h)
  have hno : w.heap.size ∉ gsOf n1 g1 ++ gsOf n2 g2 ++ gsOf (n3 * 4) g3 ++ gsOf (n4 * 3) g4 := by
    simp only [List.mem_append]
    rintro (((h | h) | h) | h)
    · exact gs_notin (by omega) h
    · exact gs_notin (by omega) h
    · exact gs_notin (by omega) h
    · exact gs_notin (by omega) h
  have N4 : Hid (Mine w1 g4 (g4 + 1) 68 A4 (n4 * 3) (fun k => .int .i64 (x4 k))) := by
    by_cases h0 : n4 = 0
    · exact .inl (by omega)
    · refine M4.out.kept k1 ?_
      simp only [List.mem_append]
      rintro ((h | h) | h)
      · by_cases e : n1 = 0
        · rw [gsOf, if_pos e] at h; cases h
        · exact gs_notin (D14.out e h0) h
      · by_cases e : n2 = 0
        · rw [gsOf, if_pos e] at h; cases h
        · exact gs_notin (D24.out e h0) h
      · by_cases e : n3 * 4 = 0
        · rw [gsOf, if_pos e] at h; cases h
        · exact gs_notin (D34.out (by omega) h0) h
  have HQ := Lib.hid KQ
  clear k1 u1 u2 u3 d12 d13 d23 z0 z1 z2 z3 z4 z5 z6
  obtain ⟨z0, z1, z2, z3, z4, z5, z6⟩ := QS.out _ _ KQ hno
  clear KQ
  go_wp2_with fail
  refine (markNoteS_kept g4 A4 n4 c4 x4 (m + n1 + n2 + n3 * 4) _ (by omega) (by omega) N4.out).mono ?_
  rintro e w2 ⟨rfl, u4, k4⟩
  have Y1 := Lib.hid (U1.out.keptOf k4 (fun a b => (D14.out b (by omega)).symm))
  have Y2 := Lib.hid (U2.out.keptOf k4 (fun a b => (D24.out b (by omega)).symm))
  have Y3 := Lib.hid (U3.out.keptOf k4 (fun a b => (D34.out (by omega) (by omega)).symm))
  have KF := Lib.hid ((Kept.of_below B2.out _).trans (HQ.out.trans (k4.mono (fun b h _ => List.mem_append_right _ h))))
  have Y4 := Lib.hid u4
  clear u4 k4 U1 U2 U3 N4 HQ
  go_wp2
  go_ret
  exact ⟨rfl, Y1.out, Y2.out, Y3.out, Y4.out, KF.out⟩

theorem szInt64S_any (A : Option Addr) (n c : Nat) (left : Int) (w : World) (h0 : -9223372036854775808 ≤ left - n) (h1 : left ≤ 9223372036854775807) :
    Calls Tryz.prog 94 #[.slice A n c, .int .i64 left] w fun e w' => e = .returned (.int .i64 (if left - n < 0 then -1 else left - n)) ∧ w = w' := by
  by_cases h : left - n < 0
  · go_enter Tryz.func94, Tryz.ntmps94
    go_wp2
    go_ret
    exact ⟨by first | rfl | rw [if_pos h], rfl⟩
  · have h' : (0 : Int) ≤ left - n := by omega
    go_enter Tryz.func94, Tryz.ntmps94
    go_wp2
    go_ret
    exact ⟨by first | rfl | rw [if_neg h], rfl⟩

theorem szBoolS_any (A : Option Addr) (n c : Nat) (left : Int) (w : World) (h0 : -9223372036854775808 ≤ left - n) (h1 : left ≤ 9223372036854775807) :
    Calls Tryz.prog 95 #[.slice A n c, .int .i64 left] w fun e w' => e = .returned (.int .i64 (if left - n < 0 then -1 else left - n)) ∧ w = w' := by
  by_cases h : left - n < 0
  · go_enter Tryz.func95, Tryz.ntmps95
    go_wp2
    go_ret
    exact ⟨by first | rfl | rw [if_pos h], rfl⟩
  · have h' : (0 : Int) ≤ left - n := by omega
    go_enter Tryz.func95, Tryz.ntmps95
    go_wp2
    go_ret
    exact ⟨by first | rfl | rw [if_neg h], rfl⟩

theorem szAccountS_any (A : Option Addr) (n c : Nat) (left : Int) (w : World) (h0 : -9223372036854775808 ≤ left - n) (h1 : left ≤ 9223372036854775807) :
    Calls Tryz.prog 96 #[.slice A n c, .int .i64 left] w fun e w' => e = .returned (.int .i64 (if left - n < 0 then -1 else left - n)) ∧ w = w' := by
  by_cases h : left - n < 0
  · go_enter Tryz.func96, Tryz.ntmps96
    go_wp2
    go_ret
    exact ⟨by first | rfl | rw [if_pos h], rfl⟩
  · have h' : (0 : Int) ≤ left - n := by omega
    go_enter Tryz.func96, Tryz.ntmps96
    go_wp2
    go_ret
    exact ⟨by first | rfl | rw [if_neg h], rfl⟩

/-- what szKernel leaves of left -/
def szk (left : Int) (n1 n2 n3 : Nat) : Int := if left - n1 < 0 then -1 else if left - n1 - n2 < 0 then -1 else if left - n1 - n2 - n3 < 0 then -1 else left - n1 - n2 - n3
theorem szKernel_any (A1 : Option Addr) (n1 c1 : Nat) (A2 : Option Addr) (n2 c2 : Nat) (A3 : Option Addr) (n3 c3 : Nat) (t r left : Int) (w : World) (h0 : 0 ≤ left) (h1 : left ≤ 1048576) (b1 : n1 ≤ 9223372036854775807) (b2 : n2 ≤ 9223372036854775807) (b3 : n3 ≤ 9223372036854775807) :
    Calls Tryz.prog 36 #[.agg #[.slice A1 n1 c1, .slice A2 n2 c2, .slice A3 n3 c3, .int .i64 t, .int .i64 r], .int .i64 left] w fun e w' => e = .returned (.int .i64 (szk left n1 n2 n3)) ∧ Below w.heap.size w w' := by
  have B1 := Lib.hid (below_new w (.cells #[.slice A1 n1 c1, .slice A2 n2 c2, .slice A3 n3 c3, .int .i64 t, .int .i64 r] 72))
  by_cases e1 : left - n1 < 0
  · have HV : Hid (-1 = szk left n1 n2 n3) := by show _ = _; unfold szk; rw [if_pos e1]
    have i1 : (if left - (n1 : Int) < 0 then -1 else left - (n1 : Int)) = -1 := if_pos e1
    go_enter Tryz.func36, Tryz.ntmps36
    go_wp2_with (first | (go_at_call 94; refine (szInt64S_any _ _ _ _ _ (by omega) (by omega)).mono ?_; rintro e9 w9 ⟨rfl, rfl⟩) | (go_at_call 95; refine (szBoolS_any _ _ _ _ _ (by omega) (by omega)).mono ?_; rintro e9 w9 ⟨rfl, rfl⟩) | (go_at_call 96; refine (szAccountS_any _ _ _ _ _ (by omega) (by omega)).mono ?_; rintro e9 w9 ⟨rfl, rfl⟩))
    go_ret
    exact ⟨by exact ret_i64 HV.out, B1.out⟩
  have i1 : (if left - (n1 : Int) < 0 then -1 else left - (n1 : Int)) = left - n1 := if_neg e1
  by_cases e2 : left - n1 - n2 < 0
  · have HV : Hid (-1 = szk left n1 n2 n3) := by show _ = _; unfold szk; rw [if_neg e1, if_pos e2]
    have i2 : (if left - (n1 : Int) - (n2 : Int) < 0 then -1 else left - (n1 : Int) - (n2 : Int)) = -1 := if_pos e2
    go_enter Tryz.func36, Tryz.ntmps36
    go_wp2_with (first | (go_at_call 94; refine (szInt64S_any _ _ _ _ _ (by omega) (by omega)).mono ?_; rintro e9 w9 ⟨rfl, rfl⟩) | (go_at_call 95; refine (szBoolS_any _ _ _ _ _ (by omega) (by omega)).mono ?_; rintro e9 w9 ⟨rfl, rfl⟩) | (go_at_call 96; refine (szAccountS_any _ _ _ _ _ (by omega) (by omega)).mono ?_; rintro e9 w9 ⟨rfl, rfl⟩))
    go_ret
    exact ⟨by exact ret_i64 HV.out, B1.out⟩
  have i2 : (if left - (n1 : Int) - (n2 : Int) < 0 then -1 else left - (n1 : Int) - (n2 : Int)) = left - n1 - n2 := if_neg e2
  by_cases e3 : left - n1 - n2 - n3 < 0
  · have HV : Hid (-1 = szk left n1 n2 n3) := by show _ = _; unfold szk; rw [if_neg e1, if_neg e2, if_pos e3]
    have i3 : (if left - (n1 : Int) - (n2 : Int) - (n3 : Int) < 0 then -1 else left - (n1 : Int) - (n2 : Int) - (n3 : Int)) = -1 := if_pos e3
    go_enter Tryz.func36, Tryz.ntmps36
    go_wp2_with (first | (go_at_call 94; refine (szInt64S_any _ _ _ _ _ (by omega) (by omega)).mono ?_; rintro e9 w9 ⟨rfl, rfl⟩) | (go_at_call 95; refine (szBoolS_any _ _ _ _ _ (by omega) (by omega)).mono ?_; rintro e9 w9 ⟨rfl, rfl⟩) | (go_at_call 96; refine (szAccountS_any _ _ _ _ _ (by omega) (by omega)).mono ?_; rintro e9 w9 ⟨rfl, rfl⟩))
    go_ret
    exact ⟨by exact ret_i64 HV.out, B1.out⟩
  have i3 : (if left - (n1 : Int) - (n2 : Int) - (n3 : Int) < 0 then -1 else left - (n1 : Int) - (n2 : Int) - (n3 : Int)) = left - n1 - n2 - n3 := if_neg e3
  have HV : Hid (left - n1 - n2 - n3 = szk left n1 n2 n3) := by show _ = _; unfold szk; rw [if_neg e1, if_neg e2, if_neg e3]
  go_enter Tryz.func36, Tryz.ntmps36
  go_wp2_with (first | (go_at_call 94; refine (szInt64S_any _ _ _ _ _ (by omega) (by omega)).mono ?_; rintro e9 w9 ⟨rfl, rfl⟩) | (go_at_call 95; refine (szBoolS_any _ _ _ _ _ (by omega) (by omega)).mono ?_; rintro e9 w9 ⟨rfl, rfl⟩) | (go_at_call 96; refine (szAccountS_any _ _ _ _ _ (by omega) (by omega)).mono ?_; rintro e9 w9 ⟨rfl, rfl⟩))
  go_ret
  exact ⟨by exact ret_i64 HV.out, B1.out⟩

set_option maxHeartbeats 2000000 in
/-- toKernel: the same kernel, in rows of one's own -/
theorem toKernel_any (lo hi : Nat) (A1 : Option Addr) (n1 c1 : Nat) (A2 : Option Addr) (n2 c2 : Nat) (A3 : Option Addr) (n3 c3 : Nat) (t r : Int) (K : Ker) (w : World) (hn1 : n1 * 8 ≤ 140737488351232) (hn2 : n2 * 8 ≤ 140737488351232) (hn3 : n3 * 32 ≤ 140737488351232) (h : KRead w lo hi A1 n1 A2 n2 A3 n3 K) :
    Calls Tryz.prog 37 #[.agg #[.slice A1 n1 c1, .slice A2 n2 c2, .slice A3 n3 c3, .int .i64 t, .int .i64 r]] w fun e w' => ∃ u1 u2 u3, e = .returned (.agg #[.slice (some ⟨u1, 0, none⟩) n1 n1, .slice (some ⟨u2, 0, none⟩) n2 n2, .slice (some ⟨u3, 0, none⟩) n3 n3, .int .i64 t, .int .i64 r]) ∧
      (w.heap.size < u1 ∧ u1 < u2 ∧ u2 < u3 ∧ u3 < w'.heap.size) ∧ Row w' u1 0 2 n1 (fun k => .int .i64 (gi K.os k)) ∧ Row w' u2 0 4 n2 (fun k => .bool (gb K.al k)) ∧ Row w' u3 0 52 (n3 * 4) (fun k => .int .i64 (gi K.ac k)) ∧ Below w.heap.size w w' := by
  have B0 : Hid (Below w.heap.size w (((w.alloc (.cells #[.slice A1 n1 c1, .slice A2 n2 c2, .slice A3 n3 c3, .int .i64 t, .int .i64 r] 72)).alloc (.cells #[.slice none 0 0, .slice none 0 0, .slice none 0 0, .int .i64 0, .int .i64 0] 28)).alloc (.cells #[.slice none 0 0, .slice none 0 0, .slice none 0 0, .int .i64 0, .int .i64 0] 28))) := (((Below.refl _ _).alloc (Nat.le_refl _) _).alloc (by simp) _).alloc (by simp; omega) _
  have A0' : Hid ((((w.alloc (.cells #[.slice A1 n1 c1, .slice A2 n2 c2, .slice A3 n3 c3, .int .i64 t, .int .i64 r] 72)).alloc (.cells #[.slice none 0 0, .slice none 0 0, .slice none 0 0, .int .i64 0, .int .i64 0] 28)).alloc (.cells #[.slice none 0 0, .slice none 0 0, .slice none 0 0, .int .i64 0, .int .i64 0] 28)).heap[w.heap.size]? = some (.cells #[.slice A1 n1 c1, .slice A2 n2 c2, .slice A3 n3 c3, .int .i64 t, .int .i64 r] 72 (0, 0))) := (Below.heap_alloc _ _ _ (by simp; omega)).trans (heap_alloc2_old w _ _)
  have Z0 : Hid ((((w.alloc (.cells #[.slice A1 n1 c1, .slice A2 n2 c2, .slice A3 n3 c3, .int .i64 t, .int .i64 r] 72)).alloc (.cells #[.slice none 0 0, .slice none 0 0, .slice none 0 0, .int .i64 0, .int .i64 0] 28)).alloc (.cells #[.slice none 0 0, .slice none 0 0, .slice none 0 0, .int .i64 0, .int .i64 0] 28)).heap[w.heap.size + 1]? = some (.cells #[.slice none 0 0, .slice none 0 0, .slice none 0 0, .int .i64 0, .int .i64 0] 28 (0, 0))) := (Below.heap_alloc _ _ _ (by simp)).trans (heap_alloc2_new w _ _)
  have X0 : Hid ((((w.alloc (.cells #[.slice A1 n1 c1, .slice A2 n2 c2, .slice A3 n3 c3, .int .i64 t, .int .i64 r] 72)).alloc (.cells #[.slice none 0 0, .slice none 0 0, .slice none 0 0, .int .i64 0, .int .i64 0] 28)).alloc (.cells #[.slice none 0 0, .slice none 0 0, .slice none 0 0, .int .i64 0, .int .i64 0] 28)).heap[w.heap.size + 1 + 1]? = some (.cells #[.slice none 0 0, .slice none 0 0, .slice none 0 0, .int .i64 0, .int .i64 0] 28 (0, 0))) := by
    have := heap_alloc_new ((w.alloc (.cells #[.slice A1 n1 c1, .slice A2 n2 c2, .slice A3 n3 c3, .int .i64 t, .int .i64 r] 72)).alloc (.cells #[.slice none 0 0, .slice none 0 0, .slice none 0 0, .int .i64 0, .int .i64 0] 28)) (.cells #[.slice none 0 0, .slice none 0 0, .slice none 0 0, .int .i64 0, .int .i64 0] 28)
    simp only [World.size_alloc] at this
    exact this
  have S0 : Hid ((((w.alloc (.cells #[.slice A1 n1 c1, .slice A2 n2 c2, .slice A3 n3 c3, .int .i64 t, .int .i64 r] 72)).alloc (.cells #[.slice none 0 0, .slice none 0 0, .slice none 0 0, .int .i64 0, .int .i64 0] 28)).alloc (.cells #[.slice none 0 0, .slice none 0 0, .slice none 0 0, .int .i64 0, .int .i64 0] 28)).heap.size = w.heap.size + 3) := by show _ = _; simp
  have R := Lib.hid h.lt
  clear h
  go_enter Tryz.func37, Tryz.ntmps37
  go_wp2_with fail
  refine (toInt64S_any lo (min hi w.heap.size) A1 n1 c1 (gi K.os) _ (by omega) (R.out.below B0.out (Nat.min_le_right _ _)).2.1 (by have := S0.out; omega)).mono ?_
  rintro e v1 ⟨rfl, m1, hb⟩
  have sp := S0.out
  have sv : (((w.alloc (.cells #[.slice A1 n1 c1, .slice A2 n2 c2, .slice A3 n3 c3, .int .i64 t, .int .i64 r] 72)).alloc (.cells #[.slice none 0 0, .slice none 0 0, .slice none 0 0, .int .i64 0, .int .i64 0] 28)).alloc (.cells #[.slice none 0 0, .slice none 0 0, .slice none 0 0, .int .i64 0, .int .i64 0] 28)).heap.size < v1.heap.size := m1.lt
  obtain ⟨u1, hu1⟩ : ∃ u1, u1 = w.heap.size + 1 + 1 + 1 := ⟨_, rfl⟩
  rw [show (((w.alloc (.cells #[.slice A1 n1 c1, .slice A2 n2 c2, .slice A3 n3 c3, .int .i64 t, .int .i64 r] 72)).alloc (.cells #[.slice none 0 0, .slice none 0 0, .slice none 0 0, .int .i64 0, .int .i64 0] 28)).alloc (.cells #[.slice none 0 0, .slice none 0 0, .slice none 0 0, .int .i64 0, .int .i64 0] 28)).heap.size = w.heap.size + 1 + 1 + 1 from S0.out] at m1 sv
  rw [← hu1] at m1 sv
  have xb := (hb.block (w.heap.size + 1 + 1) (by omega)).trans X0.out
  have ab := (hb.block w.heap.size (by omega)).trans A0'.out
  have zb := (hb.block (w.heap.size + 1) (by omega)).trans Z0.out
  have f0 := frozen_of_row v1 _ 0 _ _ xb
  have x0 := cell_of_row v1 _ 0 _ _ _ xb
  simp at x0
  obtain ⟨w4, hw4⟩ : ∃ w4, w4 = v1.setCell ⟨w.heap.size + 1 + 1, 0, none⟩ (.slice (some ⟨u1, 0, none⟩) n1 n1) := ⟨_, rfl⟩
  have X1 : Hid (w4.heap[w.heap.size + 1 + 1]? = some (.cells #[.slice (some ⟨u1, 0, none⟩) n1 n1, .slice none 0 0, .slice none 0 0, .int .i64 0, .int .i64 0] 28 (0, 0))) := by rw [hw4]; exact heap_setCell_same v1 _ 0 _ _ _ xb
  have A1' : Hid (w4.heap[w.heap.size]? = some (.cells #[.slice A1 n1 c1, .slice A2 n2 c2, .slice A3 n3 c3, .int .i64 t, .int .i64 r] 72 (0, 0))) := by rw [hw4]; exact (Below.heap_setCell v1 ⟨w.heap.size + 1 + 1, 0, none⟩ _ _ (by first | (simp; done) | (simp; omega))).trans ab
  have Z1 : Hid (w4.heap[w.heap.size + 1]? = some (.cells #[.slice none 0 0, .slice none 0 0, .slice none 0 0, .int .i64 0, .int .i64 0] 28 (0, 0))) := by rw [hw4]; exact (Below.heap_setCell v1 ⟨w.heap.size + 1 + 1, 0, none⟩ _ _ (by first | (simp; done) | (simp; omega))).trans zb
  have B1 : Hid (Below w.heap.size w w4) := by rw [hw4]; exact (B0.out.trans (hb.mono (by omega))).setCell (p := ⟨w.heap.size + 1 + 1, 0, none⟩) (by first | (simp; done) | (simp; omega)) _
  have S1 : Hid (w.heap.size + 3 ≤ w4.heap.size ∧ u1 < w4.heap.size ∧ w.heap.size + 3 ≤ u1) := by
    have e : w4.heap.size = v1.heap.size := by rw [hw4]; simp
    show _ ∧ _
    omega
  have M1 : Hid (Row w4 u1 0 2 (n1) (fun k => .int .i64 (gi K.os k))) := by rw [hw4]; exact m1.far (p := ⟨w.heap.size + 1 + 1, 0, none⟩) (by simp; omega) _
  have q := A1'.out
  have q1 := cell_of_row w4 _ 1 _ _ _ q; have q2 := cell_of_row w4 _ 2 _ _ _ q; have q3 := cell_of_row w4 _ 3 _ _ _ q; have q4 := cell_of_row w4 _ 4 _ _ _ q
  simp at q1 q2 q3 q4
  rw [hw4, hu1] at q1 q2 q3 q4
  clear m1 hb sp sv xb ab zb q
  go_wp2_with fail
  rw [← hu1, ← hw4]
  clear hw4
  refine (toBoolS_any lo (min hi w.heap.size) A2 n2 c2 (gb K.al) w4 (by omega) (R.out.below B1.out (Nat.min_le_right _ _)).2.2.1 (by have := S1.out; omega)).mono ?_
  rintro e v2 ⟨rfl, m2, hb⟩
  have sp := S1.out
  have sv : w4.heap.size < v2.heap.size := m2.lt
  obtain ⟨u2, hu2⟩ : ∃ u2, u2 = w4.heap.size := ⟨_, rfl⟩
  rw [← hu2] at m2 sv
  have xb := (hb.block (w.heap.size + 1 + 1) (by omega)).trans X1.out
  have ab := (hb.block w.heap.size (by omega)).trans A1'.out
  have zb := (hb.block (w.heap.size + 1) (by omega)).trans Z1.out
  have f0 := frozen_of_row v2 _ 1 _ _ xb
  have x0 := cell_of_row v2 _ 1 _ _ _ xb
  simp at x0
  obtain ⟨w5, hw5⟩ : ∃ w5, w5 = v2.setCell ⟨w.heap.size + 1 + 1, 1, none⟩ (.slice (some ⟨u2, 0, none⟩) n2 n2) := ⟨_, rfl⟩
  have X2 : Hid (w5.heap[w.heap.size + 1 + 1]? = some (.cells #[.slice (some ⟨u1, 0, none⟩) n1 n1, .slice (some ⟨u2, 0, none⟩) n2 n2, .slice none 0 0, .int .i64 0, .int .i64 0] 28 (0, 0))) := by rw [hw5]; exact heap_setCell_same v2 _ 1 _ _ _ xb
  have A2' : Hid (w5.heap[w.heap.size]? = some (.cells #[.slice A1 n1 c1, .slice A2 n2 c2, .slice A3 n3 c3, .int .i64 t, .int .i64 r] 72 (0, 0))) := by rw [hw5]; exact (Below.heap_setCell v2 ⟨w.heap.size + 1 + 1, 1, none⟩ _ _ (by first | (simp; done) | (simp; omega))).trans ab
  have Z2 : Hid (w5.heap[w.heap.size + 1]? = some (.cells #[.slice none 0 0, .slice none 0 0, .slice none 0 0, .int .i64 0, .int .i64 0] 28 (0, 0))) := by rw [hw5]; exact (Below.heap_setCell v2 ⟨w.heap.size + 1 + 1, 1, none⟩ _ _ (by first | (simp; done) | (simp; omega))).trans zb
  have B2 : Hid (Below w.heap.size w w5) := by rw [hw5]; exact (B1.out.trans (hb.mono (by omega))).setCell (p := ⟨w.heap.size + 1 + 1, 1, none⟩) (by first | (simp; done) | (simp; omega)) _
  have S2 : Hid (w.heap.size + 3 ≤ w5.heap.size ∧ u2 < w5.heap.size ∧ w.heap.size + 3 ≤ u2 ∧ u1 < u2) := by
    have e : w5.heap.size = v2.heap.size := by rw [hw5]; simp
    show _ ∧ _
    omega
  have M2 : Hid (Row w5 u2 0 4 (n2) (fun k => .bool (gb K.al k))) := by rw [hw5]; exact m2.far (p := ⟨w.heap.size + 1 + 1, 1, none⟩) (by simp; omega) _
  have M1 := Lib.hid (show Row w5 u1 0 2 (n1) (fun k => .int .i64 (gi K.os k)) from by rw [hw5]; exact (M1.out.below hb (by omega)).far (p := ⟨w.heap.size + 1 + 1, 1, none⟩) (by simp; omega) _)
  have q := A2'.out
  have q1 := cell_of_row w5 _ 1 _ _ _ q; have q2 := cell_of_row w5 _ 2 _ _ _ q; have q3 := cell_of_row w5 _ 3 _ _ _ q; have q4 := cell_of_row w5 _ 4 _ _ _ q
  simp at q1 q2 q3 q4
  rw [hw5, hu2] at q1 q2 q3 q4
  clear m2 hb sp sv xb ab zb q
  go_wp2_with fail
  rw [← hu2, ← hw5]
  clear hw5
  refine (toAccountS_any lo (min hi w.heap.size) A3 n3 c3 (gi K.ac) w5 (by omega) (R.out.below B2.out (Nat.min_le_right _ _)).2.2.2 (by have := S2.out; omega)).mono ?_
  rintro e v3 ⟨rfl, m3, hb⟩
  have sp := S2.out
  have sv : w5.heap.size < v3.heap.size := m3.lt
  obtain ⟨u3, hu3⟩ : ∃ u3, u3 = w5.heap.size := ⟨_, rfl⟩
  rw [← hu3] at m3 sv
  have xb := (hb.block (w.heap.size + 1 + 1) (by omega)).trans X2.out
  have ab := (hb.block w.heap.size (by omega)).trans A2'.out
  have zb := (hb.block (w.heap.size + 1) (by omega)).trans Z2.out
  have f0 := frozen_of_row v3 _ 2 _ _ xb
  have x0 := cell_of_row v3 _ 2 _ _ _ xb
  simp at x0
  obtain ⟨w6, hw6⟩ : ∃ w6, w6 = v3.setCell ⟨w.heap.size + 1 + 1, 2, none⟩ (.slice (some ⟨u3, 0, none⟩) n3 n3) := ⟨_, rfl⟩
  have X3 : Hid (w6.heap[w.heap.size + 1 + 1]? = some (.cells #[.slice (some ⟨u1, 0, none⟩) n1 n1, .slice (some ⟨u2, 0, none⟩) n2 n2, .slice (some ⟨u3, 0, none⟩) n3 n3, .int .i64 0, .int .i64 0] 28 (0, 0))) := by rw [hw6]; exact heap_setCell_same v3 _ 2 _ _ _ xb
  have A3' : Hid (w6.heap[w.heap.size]? = some (.cells #[.slice A1 n1 c1, .slice A2 n2 c2, .slice A3 n3 c3, .int .i64 t, .int .i64 r] 72 (0, 0))) := by rw [hw6]; exact (Below.heap_setCell v3 ⟨w.heap.size + 1 + 1, 2, none⟩ _ _ (by first | (simp; done) | (simp; omega))).trans ab
  have Z3 : Hid (w6.heap[w.heap.size + 1]? = some (.cells #[.slice none 0 0, .slice none 0 0, .slice none 0 0, .int .i64 0, .int .i64 0] 28 (0, 0))) := by rw [hw6]; exact (Below.heap_setCell v3 ⟨w.heap.size + 1 + 1, 2, none⟩ _ _ (by first | (simp; done) | (simp; omega))).trans zb
  have B3 : Hid (Below w.heap.size w w6) := by rw [hw6]; exact (B2.out.trans (hb.mono (by omega))).setCell (p := ⟨w.heap.size + 1 + 1, 2, none⟩) (by first | (simp; done) | (simp; omega)) _
  have S3 : Hid (w.heap.size + 3 ≤ w6.heap.size ∧ u3 < w6.heap.size ∧ w.heap.size + 3 ≤ u3 ∧ u1 < u3 ∧ u2 < u3) := by
    have e : w6.heap.size = v3.heap.size := by rw [hw6]; simp
    show _ ∧ _
    omega
  have M3 : Hid (Row w6 u3 0 52 (n3 * 4) (fun k => .int .i64 (gi K.ac k))) := by rw [hw6]; exact m3.far (p := ⟨w.heap.size + 1 + 1, 2, none⟩) (by simp; omega) _
  have M1 := Lib.hid (show Row w6 u1 0 2 (n1) (fun k => .int .i64 (gi K.os k)) from by rw [hw6]; exact (M1.out.below hb (by omega)).far (p := ⟨w.heap.size + 1 + 1, 2, none⟩) (by simp; omega) _)
  have M2 := Lib.hid (show Row w6 u2 0 4 (n2) (fun k => .bool (gb K.al k)) from by rw [hw6]; exact (M2.out.below hb (by omega)).far (p := ⟨w.heap.size + 1 + 1, 2, none⟩) (by simp; omega) _)
  have q := A3'.out
  have q1 := cell_of_row w6 _ 1 _ _ _ q; have q2 := cell_of_row w6 _ 2 _ _ _ q; have q3 := cell_of_row w6 _ 3 _ _ _ q; have q4 := cell_of_row w6 _ 4 _ _ _ q
  simp at q1 q2 q3 q4
  rw [hw6, hu3] at q1 q2 q3 q4
  clear m3 hb sp sv xb ab zb q
  go_upto_region 5 with (fail)
  rw [← hu3, ← hw6]
  clear hw6 q1 q2 q3 q4 x0 f0
  obtain ⟨z1, z2, z3, z4, z5⟩ := S3.out
  have zz1 := S1.out
  have zz2 := S2.out
  have q := A3'.out
  have q3 := cell_of_row w6 _ 3 _ _ _ q; have q4 := cell_of_row w6 _ 4 _ _ _ q
  have xb := X3.out
  have e3 := cell_of_row w6 _ 3 _ _ _ xb; have e4 := cell_of_row w6 _ 4 _ _ _ xb
  have f3 := frozen_of_row w6 _ 3 _ _ xb; have f4 := frozen_of_row w6 _ 4 _ _ xb
  simp at q3 q4 e3 e4
  go_upto_region 7 with (fail)
  obtain ⟨w7, hw7⟩ : ∃ w7, w7 = (w6.setCell ⟨w.heap.size + 1 + 1, 3, none⟩ (.int .i64 t)).setCell ⟨w.heap.size + 1 + 1, 4, none⟩ (.int .i64 r) := ⟨_, rfl⟩
  rw [← hw7]
  have X7 : w7.heap[w.heap.size + 1 + 1]? = some (.cells #[.slice (some ⟨u1, 0, none⟩) n1 n1, .slice (some ⟨u2, 0, none⟩) n2 n2, .slice (some ⟨u3, 0, none⟩) n3 n3, .int .i64 t, .int .i64 r] 28 (0, 0)) := by rw [hw7]; exact heap_setCell_same _ _ 4 _ _ _ (heap_setCell_same w6 _ 3 _ _ _ xb)
  have Z7 : w7.heap[w.heap.size + 1]? = some (.cells #[.slice none 0 0, .slice none 0 0, .slice none 0 0, .int .i64 0, .int .i64 0] 28 (0, 0)) := by rw [hw7]; exact (Below.heap_setCell _ ⟨w.heap.size + 1 + 1, 4, none⟩ _ _ (by simp)).trans ((Below.heap_setCell w6 ⟨w.heap.size + 1 + 1, 3, none⟩ _ _ (by simp)).trans Z3.out)
  have B7 : Hid (Below w.heap.size w w7) := by rw [hw7]; exact (B3.out.setCell (p := ⟨w.heap.size + 1 + 1, 3, none⟩) (by simp; omega) _).setCell (p := ⟨w.heap.size + 1 + 1, 4, none⟩) (by simp; omega) _
  have s7 : w7.heap.size = w6.heap.size := by rw [hw7]; simp
  have N1 := Lib.hid (show Row w7 u1 0 2 (n1) (fun k => .int .i64 (gi K.os k)) from by rw [hw7]; exact (M1.out.far (p := ⟨w.heap.size + 1 + 1, 3, none⟩) (by simp; omega) _).far (p := ⟨w.heap.size + 1 + 1, 4, none⟩) (by simp; omega) _)
  have N2 := Lib.hid (show Row w7 u2 0 4 (n2) (fun k => .bool (gb K.al k)) from by rw [hw7]; exact (M2.out.far (p := ⟨w.heap.size + 1 + 1, 3, none⟩) (by simp; omega) _).far (p := ⟨w.heap.size + 1 + 1, 4, none⟩) (by simp; omega) _)
  have N3 := Lib.hid (show Row w7 u3 0 52 (n3 * 4) (fun k => .int .i64 (gi K.ac k)) from by rw [hw7]; exact (M3.out.far (p := ⟨w.heap.size + 1 + 1, 3, none⟩) (by simp; omega) _).far (p := ⟨w.heap.size + 1 + 1, 4, none⟩) (by simp; omega) _)
  have e0 := cell_of_row w7 _ 0 _ _ _ X7; have e1 := cell_of_row w7 _ 1 _ _ _ X7; have e2 := cell_of_row w7 _ 2 _ _ _ X7; have e3 := cell_of_row w7 _ 3 _ _ _ X7; have e4 := cell_of_row w7 _ 4 _ _ _ X7
  have r0 := cell_of_row w7 _ 0 _ _ _ Z7; have r1 := cell_of_row w7 _ 1 _ _ _ Z7; have r2 := cell_of_row w7 _ 2 _ _ _ Z7; have r3 := cell_of_row w7 _ 3 _ _ _ Z7; have r4 := cell_of_row w7 _ 4 _ _ _ Z7
  have y0 := frozen_of_row w7 _ 0 _ _ Z7; have y1 := frozen_of_row w7 _ 1 _ _ Z7; have y2 := frozen_of_row w7 _ 2 _ _ Z7; have y3 := frozen_of_row w7 _ 3 _ _ Z7; have y4 := frozen_of_row w7 _ 4 _ _ Z7
  simp at e0 e1 e2 e3 e4 r0 r1 r2 r3 r4
  have HZ := Lib.hid Z7
  have U := Lib.hid (show w.heap.size < u1 ∧ u1 < u2 ∧ u2 < u3 ∧ u3 < w7.heap.size ∧ w.heap.size + 3 ≤ u1 from by have := S1.out; have := S2.out; omega)
  clear X7 Z7 hw7 q q3 q4 xb f3 f4 hu1 hu2 hu3 z1 z2 z3 z4 z5 s7 zz1 zz2
  go_wp2
  obtain ⟨z1, z2, z3, z4, z5⟩ := U.out
  refine bodyPost_ret (results_cell_row rfl _ _ (w.heap.size + 1) _ _ (0, 0) _ rfl (blk5_set HZ.out _ _ _ _ _) Tryz.underlying28 rfl (by kernel_rfl)) rfl ⟨u1, u2, u3, rfl, ⟨z1, z2, z3, by simp; omega⟩, ?_, ?_, ?_, below5 B7.out (by omega) _ _ _ _ _⟩
  · exact rfar5 N1.out (by omega) _ _ _ _ _
  · exact rfar5 N2.out (by omega) _ _ _ _ _
  · exact rfar5 N3.out (by omega) _ _ _ _ _

end Go.Proofs.YtlallklfilmcnaaGreat
