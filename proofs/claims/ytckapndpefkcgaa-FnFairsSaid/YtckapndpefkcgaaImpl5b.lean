/-
  The program's lists of those that are ready, their map, and the schedule made of a map. No conditions beyond that the list can be read.
-/
import Derived.Test.YtckapndpefkcgaaImpl5a
set_option maxHeartbeats 1000000
namespace Go.Proofs.Ytckapndpefkcgaa
open Go.RowKit
set_option maxRecDepth 100000

abbrev RS (w : World) (lo hi : Nat) (A : Option Addr) (xs : List R3) : Prop := Sl w lo hi A (xs.length * 3) (fun k => .int .i64 (gi (fl xs) k))
theorem RS.get {w : World} {lo hi : Nat} {A : Option Addr} {xs : List R3} (h : RS w lo hi A xs) {i : Nat} (hi' : i < xs.length) : ∃ b off, A = some ⟨b, off, none⟩ ∧ lo ≤ b ∧ b < hi ∧
    ∀ j, j < xs.length → w.cell? ⟨b, off + j * 3, none⟩ = some (.int .i64 (g3 xs j).1) ∧ w.cell? ⟨b, off + j * 3 + 1, none⟩ = some (.int .i64 (g3 xs j).2.1) ∧ w.cell? ⟨b, off + j * 3 + 2, none⟩ = some (.int .i64 (g3 xs j).2.2) := by
  obtain ⟨b, off, e, h1, h2, hc⟩ := h.at_ (show i * 3 < xs.length * 3 by omega)
  refine ⟨b, off, e, h1, h2, fun j hj => ?_⟩
  obtain ⟨g0, g1, g2⟩ := fl_get xs j hj
  have a0 := hc (j * 3) (by omega); have a1 := hc (j * 3 + 1) (by omega); have a2 := hc (j * 3 + 2) (by omega)
  simp only [g0, g1, g2] at a0 a1 a2
  exact ⟨a0, a1, a2⟩

set_option maxHeartbeats 1000000 in
theorem risesById_any (lo hi : Nat) (A : Option Addr) (c : Nat) (xs : List R3) (w : World) (hn : xs.length ≤ 1000000) (h : RS w lo hi A xs) :
    Calls Try.prog 95 #[.slice A xs.length c] w fun e w' => e = .returned (.bool (!anyTo (xs.length - 1) (noRise xs))) ∧ Below w.heap.size w w' := by
  have H := Lib.hid h
  obtain ⟨n, hn'⟩ : ∃ n, n = xs.length := ⟨_, rfl⟩
  have HN := Lib.hid hn'
  rw [← hn'] at hn ⊢
  clear h hn'
  go_enter Try.func95, Try.ntmps95
  go_wp2
  go_loopw [3] (fun i wr => ∃ m : Nat, (m + 1 ≤ n ∨ m = 0) ∧ i = .int .i64 ((m : Int) + 1) ∧ anyTo m (noRise xs) = false ∧ Below w.heap.size w wr) (fun i _ => n + 1 - (intOf i).toNat)
  case atStart => exact ⟨0, .inr rfl, rfl, rfl, Below.refl _ _⟩
  case round =>
    obtain ⟨m, hm, rfl, hno, hb⟩ := hrel
    have NO := Lib.hid hno
    have HB := Lib.hid hb
    clear hno
    by_cases hlt : m + 1 < n
    · obtain ⟨b, off, rfl, h1, h2, hc⟩ := RS.get H.out.lt (i := m) (by have := HN.out; omega)
      have a0 : wr.cell? ⟨b, off + m * 3, none⟩ = some (.int .i64 (g3 xs m).1) := (hb.cell (p := ⟨b, off + m * 3, none⟩) (by simp; omega)).trans (hc m (by have := HN.out; omega)).1
      have a1 : wr.cell? ⟨b, off + (m + 1) * 3, none⟩ = some (.int .i64 (g3 xs (m + 1)).1) := (hb.cell (p := ⟨b, off + (m + 1) * 3, none⟩) (by simp; omega)).trans (hc (m + 1) (by have := HN.out; omega)).1
      have hlt' : (m : Int) + 1 < (n : Int) := by omega
      have s1 : (m : Int) + 1 - 1 = (m : Int) := by omega
      have w1 : IntKind.i64.wrap (m : Int) = (m : Int) := IntWalk.i64_in _ (by omega)
      clear hc H hb
      by_cases hr : (g3 xs (m + 1)).1 ≤ (g3 xs m).1
      · have HF : Hid ((!anyTo (n - 1) (noRise xs)) = false) := by
          show _ = _
          rw [anyTo_true (i := m) (by omega) (by unfold noRise; simpa using hr)]; rfl
        go_upto_region 4 with (fail)
        go_quiet (fail)
        go_wp2
        go_ret
        exact ⟨ret_bool HF.out.symm, below_drewN HB.out _⟩
      · have NO2 : Hid (anyTo (m + 1) (noRise xs) = false) := by
          show _ = _
          rw [anyTo_succ, NO.out]; unfold noRise; simpa using hr
        go_upto_region 4 with (fail)
        go_quiet (fail)
        go_wp2
        go_roundw
        case rel => exact ⟨m + 1, by omega, by go_num, NO2.out, below_drewN HB.out _⟩
        case measure => simp [intOf]; omega
    · have hlt' : ¬ (m : Int) + 1 < (n : Int) := by omega
      have HF : Hid ((!anyTo (n - 1) (noRise xs)) = true) := by
        show _ = _
        rw [show n - 1 = m by omega, NO.out]; rfl
      go_wp2
      go_ret
      exact ⟨ret_bool HF.out.symm, HB.out⟩

set_option maxHeartbeats 2000000 in
theorem threadsOf_any (lo hi : Nat) (A : Option Addr) (c : Nat) (b : Int) (xs : List R3) (hr : Ris xs) (w : World) (h : RS w lo hi A xs) :
    Calls Try.prog 85 #[.agg #[.int .i64 b, .slice A xs.length c]] w fun e w' => e = .returned (.map (some (w.heap.size + 1))) ∧ RM w' (w.heap.size + 1) (mth xs) ∧ Below w.heap.size w w' := by
  have H := Lib.hid h.lt
  have HR := Lib.hid hr
  obtain ⟨n, hn'⟩ : ∃ n, n = xs.length := ⟨_, rfl⟩
  have hn5 : n ≤ 5 := by rw [hn']; exact hr.len
  have HN := Lib.hid hn'
  rw [← hn']
  clear h hn' hr
  have hmm := @run_makeMap Try.prog
  have K1 : ((w.alloc (.cells #[.int .i64 b, .slice A n c] 43)).alloc (.map #[] 0)).heap[w.heap.size]? = some (.cells #[.int .i64 b, .slice A n c] 43 (0, 0)) := heap_alloc2_old w _ _
  have q0 := cell_of_row _ _ 0 _ _ _ K1; have q1 := cell_of_row _ _ 1 _ _ _ K1
  simp at q0 q1
  have M1 : Hid (RM ((w.alloc (.cells #[.int .i64 b, .slice A n c] 43)).alloc (.map #[] 0)) (w.heap.size + 1) (mth [])) := by
    have := IM.new (w.alloc (.cells #[.int .i64 b, .slice A n c] 43))
    rw [World.size_alloc] at this
    exact this
  have B1 : Hid (Below w.heap.size w ((w.alloc (.cells #[.int .i64 b, .slice A n c] 43)).alloc (.map #[] 0))) := (below_new w _).alloc (by simp) _
  clear K1
  go_enter Try.func85, Try.ntmps85
  go_wp2
  go_loopw [10] (fun i wr => ∃ k : Nat, k ≤ n ∧ i = .int .i64 (k : Int) ∧ RM wr (w.heap.size + 1) (mth (xs.take k)) ∧ Below w.heap.size w wr) (fun i _ => n - (intOf i).toNat)
  case atStart => exact ⟨0, Nat.zero_le _, rfl, M1.out, B1.out⟩
  case round =>
    obtain ⟨k, hk, rfl, hm, hb⟩ := hrel
    have HM := Lib.hid hm
    have HB := Lib.hid hb
    clear hm
    by_cases hlt : k < n
    · obtain ⟨bb, off, rfl, h1, h2, hc⟩ := RS.get H.out (i := k) (by have := HN.out; omega)
      obtain ⟨d0, d1, d2⟩ := hc k (by have := HN.out; omega)
      have a0 : wr.cell? ⟨bb, off + k * 3, none⟩ = some (.int .i64 (g3 xs k).1) := (hb.cell (p := ⟨bb, off + k * 3, none⟩) (by simp; omega)).trans d0
      have a1 : wr.cell? ⟨bb, off + k * 3 + 1, none⟩ = some (.int .i64 (g3 xs k).2.1) := (hb.cell (p := ⟨bb, off + k * 3 + 1, none⟩) (by simp; omega)).trans d1
      have a2 : wr.cell? ⟨bb, off + k * 3 + 2, none⟩ = some (.int .i64 (g3 xs k).2.2) := (hb.cell (p := ⟨bb, off + k * 3 + 2, none⟩) (by simp; omega)).trans d2
      have X : Hid (xs.take (k + 1) = xs.take k ++ [g3 xs k]) := take_snoc xs k (by have := HN.out; omega)
      have XN : Hid (∀ y, y ∈ xs.take k → y.1 ≠ (g3 xs k).1) := fun y hy => by
        have hp := HR.out.up
        have e : xs.take (k + 1) = _ := X.out
        have h3 : (xs.take (k + 1)).Pairwise fun a b => a.1 < b.1 := hp.sublist (List.take_sublist _ _)
        rw [e, List.pairwise_append] at h3
        have := h3.2.2 y hy (g3 xs k) (by simp)
        omega
      obtain ⟨⟨x0, x1, x2⟩, hx⟩ : ∃ x : R3, x = g3 xs k := ⟨_, rfl⟩
      rw [← hx] at a0 a1 a2 X XN
      have hsz := HB.out.size
      have IB := below_new wr (.cells #[.int .i64 x0, .int .i64 x1, .int .i64 x2] 52)
      obtain ⟨w5, hrun, im, kp, sz⟩ := IM.put (P := Try.prog) ((IM.keepAll HM.out (IB.block (w.heap.size + 1) (IM.lt HM.out))) : IM (wr.alloc (.cells #[.int .i64 x0, .int .i64 x1, .int .i64 x2] 52)) _ _) Try.underlying108 Try.underlying2 x0 (rv (x0, x1, x2))
      have IM5 := Lib.hid im
      have B5 : Hid (Below w.heap.size w w5) := (HB.out.alloc hsz _).trans (kp.below (by simp; omega) (by simp))
      unfold rv at hrun
      clear hc d0 d1 d2 hb hx im kp sz IB
      go_upto_region 5 with (fail)
      go_wp2
      go_roundw
      case rel =>
        refine ⟨k + 1, by omega, by go_num, IM.ext IM5.out (fun j => ?_), B5.out⟩
        rw [X.out, mth_snoc _ _ XN.out]
        by_cases e : j = x0
        · rw [if_pos e, if_pos e]; rfl
        · rw [if_neg e, if_neg e]
      case measure => simp [intOf]; omega
    · obtain rfl : k = n := by omega
      go_wp2
      go_ret
      exact ⟨rfl, by have := HM.out; rw [List.take_of_length_le (by have := HN.out; omega)] at this; exact this, HB.out⟩

end Go.Proofs.Ytckapndpefkcgaa
