/-
  The laws' helpers on slices of accounts: copy, compare, mark, look again: what each does, for every slice that can be read. No conditions beyond that the slices can be read.
-/
import Derived.Test.YtaemegkdmbhpnaaBase3
import Derived.Test.YtaemegkdmbhpnaaAcc2
namespace Go.Proofs.Ytaemegkdmbhpnaa
open Go.RowKit

theorem Try.info_Account : (Try.prog.info? 190).map (fun i => (i.zero, i.size, i.bytes)) = some (some (.agg #[.int .i64 0, .int .i64 0, .int .i64 0, .int .i64 0]), 4, 32) := by kernel_rfl

/-- toAccountS: a new row that reads as the slice did. -/
theorem toAccountS_any (lo hi : Nat) (A : Option Addr) (n c : Nat) (x : Nat → Int) (w : World) (hn : n * 32 ≤ 140737488351232) (h : Sl w lo hi A (n * 4) (fun k => .int .i64 (x k))) (hhi : hi ≤ w.heap.size) :
    Calls Try.prog 76 #[.slice A n c] w fun e w' =>
      e = .returned (.slice (some ⟨w.heap.size, 0, none⟩) n n) ∧ Row w' w.heap.size 0 190 (n * 4) (fun k => .int .i64 (x k)) ∧ Below w.heap.size w w' := by
  have hmk := run_make_rows (P := Try.prog) 31 190 _ 4 32 Try.underlying31 Try.info_Account .i64 .i64 n (by omega) (by omega)
  have H := Lib.hid h
  clear h
  go_enter Try.func76, Try.ntmps76
  go_wp2
  go_loopw [4] (fun i wr => ∃ k : Nat, k ≤ n ∧ i = .int .i64 k ∧ Row wr w.heap.size 0 190 (n * 4) (fun j => if j < k * 4 then .int .i64 (x j) else .int .i64 0) ∧ Below w.heap.size w wr) (fun i _ => n - (intOf i).toNat)
  case atStart => exact ⟨0, Nat.zero_le _, rfl, (Row.mades w _ (.int .i64 0) (n * 4) _ (by decide) (by intro r hr; match r, hr with | 0, _ => rfl | 1, _ => rfl | 2, _ => rfl | 3, _ => rfl)).congr (fun k hk => by simp), (Below.refl _ _).alloc (Nat.le_refl _) _⟩
  case round =>
    obtain ⟨k, hk, rfl, hrow, hb⟩ := hrel
    by_cases hlt : k < n
    · obtain ⟨b, off, rfl, h1, h2, hc⟩ := H.out.at_ (show k * 4 < n * 4 by omega)
      have c0 : wr.cell? ⟨b, off + k * 4, none⟩ = some (.int .i64 (x (k * 4))) := (hb.cell (p := ⟨b, off + (k * 4), none⟩) (by simp; omega)).trans (hc (k * 4) (by omega))
      have c1 : wr.cell? ⟨b, off + k * 4 + 1, none⟩ = some (.int .i64 (x (k * 4 + 1))) := (hb.cell (p := ⟨b, off + (k * 4 + 1), none⟩) (by simp; omega)).trans (hc (k * 4 + 1) (by omega))
      have c2 : wr.cell? ⟨b, off + k * 4 + 2, none⟩ = some (.int .i64 (x (k * 4 + 2))) := (hb.cell (p := ⟨b, off + (k * 4 + 2), none⟩) (by simp; omega)).trans (hc (k * 4 + 2) (by omega))
      have c3 : wr.cell? ⟨b, off + k * 4 + 3, none⟩ = some (.int .i64 (x (k * 4 + 3))) := (hb.cell (p := ⟨b, off + (k * 4 + 3), none⟩) (by simp; omega)).trans (hc (k * 4 + 3) (by omega))
      have HR := Lib.hid hrow
      have HB := Lib.hid hb
      clear hc hrow hb H
      go_wp2_with fail
      refine (toAccount_any _ _ _ _ _).mono ?_
      rintro e w1 ⟨rfl, hb1⟩
      have hrow := HR.out.below hb1 HR.out.lt
      have o0 := hrow.cell (show k * 4 + 0 < n * 4 by omega)
      have f0 := hrow.frozen (0 + (k * 4 + 0))
      have o1 := hrow.cell (show k * 4 + 1 < n * 4 by omega)
      have f1 := hrow.frozen (0 + (k * 4 + 1))
      have o2 := hrow.cell (show k * 4 + 2 < n * 4 by omega)
      have f2 := hrow.frozen (0 + (k * 4 + 2))
      have o3 := hrow.cell (show k * 4 + 3 < n * 4 by omega)
      have f3 := hrow.frozen (0 + (k * 4 + 3))
      simp only [Nat.zero_add, Nat.add_zero] at o0 f0 o1 f1 o2 f2 o3 f3
      have HB2 := Lib.hid (HB.out.trans (hb1.mono HB.out.size))
      have HR2 := Lib.hid hrow
      clear hrow hb1 HR HB
      go_wp2
      go_roundw
      case rel => exact ⟨k + 1, by omega, by go_num, (HR2.out.set4 (by omega) (.int .i64 (x (k * 4))) (.int .i64 (x (k * 4 + 1))) (.int .i64 (x (k * 4 + 2))) (.int .i64 (x (k * 4 + 3)))).congr (next4 k x), below_set4 HB2.out (Nat.le_refl _) _ _ _ _⟩
      case measure => simp [intOf]; omega
    · go_wp2
      go_ret
      exact ⟨rfl, hrow.congr (fun j hj => by rw [if_pos (by omega)]), hb⟩

/-- eqAccountS of two slices that read alike: true. -/
theorem eqAccountS_same (lo hi lo' hi' : Nat) (A A' : Option Addr) (n c c' : Nat) (x : Nat → Int) (w : World) (hn : n * 32 ≤ 140737488351232)
    (h : Sl w lo hi A (n * 4) (fun k => .int .i64 (x k))) (h' : Sl w lo' hi' A' (n * 4) (fun k => .int .i64 (x k))) :
    Calls Try.prog 81 #[.slice A n c, .slice A' n c'] w fun e w' => e = .returned (.bool true) ∧ Below w.heap.size w w' := by
  have H := Lib.hid h
  have H' := Lib.hid h'
  clear h h'
  go_enter Try.func81, Try.ntmps81
  go_wp2
  go_loopw [5] (fun i wr => ∃ k : Nat, k ≤ n ∧ i = .int .i64 k ∧ Below w.heap.size w wr) (fun i _ => n - (intOf i).toNat)
  case atStart => exact ⟨0, Nat.zero_le _, rfl, Below.refl _ _⟩
  case round =>
    obtain ⟨k, hk, rfl, hb⟩ := hrel
    by_cases hlt : k < n
    · obtain ⟨b, off, rfl, h1, h2, hc⟩ := H.out.lt.at_ (show k * 4 < n * 4 by omega)
      obtain ⟨b', off', rfl, h1', h2', hc'⟩ := H'.out.lt.at_ (show k * 4 < n * 4 by omega)
      have p0 : wr.cell? ⟨b, off + k * 4, none⟩ = some (.int .i64 (x (k * 4))) := (hb.cell (p := ⟨b, off + (k * 4), none⟩) (by simp; omega)).trans (hc (k * 4) (by omega))
      have p1 : wr.cell? ⟨b, off + k * 4 + 1, none⟩ = some (.int .i64 (x (k * 4 + 1))) := (hb.cell (p := ⟨b, off + (k * 4 + 1), none⟩) (by simp; omega)).trans (hc (k * 4 + 1) (by omega))
      have p2 : wr.cell? ⟨b, off + k * 4 + 2, none⟩ = some (.int .i64 (x (k * 4 + 2))) := (hb.cell (p := ⟨b, off + (k * 4 + 2), none⟩) (by simp; omega)).trans (hc (k * 4 + 2) (by omega))
      have p3 : wr.cell? ⟨b, off + k * 4 + 3, none⟩ = some (.int .i64 (x (k * 4 + 3))) := (hb.cell (p := ⟨b, off + (k * 4 + 3), none⟩) (by simp; omega)).trans (hc (k * 4 + 3) (by omega))
      have q0 : wr.cell? ⟨b', off' + k * 4, none⟩ = some (.int .i64 (x (k * 4))) := (hb.cell (p := ⟨b', off' + (k * 4), none⟩) (by simp; omega)).trans (hc' (k * 4) (by omega))
      have q1 : wr.cell? ⟨b', off' + k * 4 + 1, none⟩ = some (.int .i64 (x (k * 4 + 1))) := (hb.cell (p := ⟨b', off' + (k * 4 + 1), none⟩) (by simp; omega)).trans (hc' (k * 4 + 1) (by omega))
      have q2 : wr.cell? ⟨b', off' + k * 4 + 2, none⟩ = some (.int .i64 (x (k * 4 + 2))) := (hb.cell (p := ⟨b', off' + (k * 4 + 2), none⟩) (by simp; omega)).trans (hc' (k * 4 + 2) (by omega))
      have q3 : wr.cell? ⟨b', off' + k * 4 + 3, none⟩ = some (.int .i64 (x (k * 4 + 3))) := (hb.cell (p := ⟨b', off' + (k * 4 + 3), none⟩) (by simp; omega)).trans (hc' (k * 4 + 3) (by omega))
      have HB := Lib.hid hb
      clear hb hc hc' H H'
      go_wp2_with fail
      go_region_with (refine (eqAccount_same _ _ _ _ _).mono ?_; rintro e w1 ⟨rfl, hb1⟩; have HB1 := Lib.hid ((below_drewN HB.out 1).trans (hb1.mono HB.out.size)); clear hb1)
      all_goals
        go_wp2
        go_roundw
        case rel => exact ⟨k + 1, by omega, by go_num, HB1.out⟩
        case measure => simp [intOf]; omega
    · go_wp2
      go_ret
      exact ⟨rfl, hb⟩

end Go.Proofs.Ytaemegkdmbhpnaa
