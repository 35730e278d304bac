/-
  What an audit's balance asks: the codes of a run, one by one; whether one was destroyed. No program's function is named here.
  Ahead of it:
  What an audit of a run says: the ticks ahead of which something was so. No program's function is named here.
  Ahead of it:
  Who acts, and the honest act: the model's and the program's. No conditions beyond that the kernel's lists can be read.
-/
import Derived.Deep.RegionHeld3
import Derived.Test.YtckapndpefkcgaaGreatMath3r
import Derived.Test.YtckapndpefkcgaaGreatLoop3
import Derived.Test.YtckapndpefkcgaaGreatImpl3b
import Derived.Test.YtckapndpefkcgaaGreatTick3
import Derived.Test.YtckapndpefkcgaaGreatImpl1d
import Derived.Test.YtckapndpefkcgaaGreatSpec3d
import Derived.Test.YtckapndpefkcgaaGreatCountN9
import Derived.Test.YtckapndpefkcgaaGreatKans3
import Derived.Test.YtckapndpefkcgaaGreatU8s
set_option maxHeartbeats 1000000
namespace Go.Proofs.YtckapndpefkcgaaGreat
open Go.RowKit
set_option maxRecDepth 100000

structure FX (K : Ker) : Prop where
  l1 : 1 ≤ K.os.length ∧ K.os.length ≤ 12
  l2 : K.al.length = 4
  l3 : K.ac.length = 16
  os : ∀ i, i < K.os.length → gi K.os i = -1 ∨ (0 ≤ gi K.os i ∧ gi K.os i < 4)
  ac : ∀ e, e < 4 → afk K e = 0
  tick : 0 ≤ K.tick ∧ K.tick ≤ 100000
  run : K.run = -1 ∨ (0 ≤ K.run ∧ K.run < 4)
theorem fx_of {K : Ker} (h : kf K = 0) : FX K := by
  obtain ⟨h1, h2, h3⟩ := kf_zero h
  obtain ⟨a1, a2, c, _⟩ := vf_zero h1
  have bb : ∀ i, i < K.os.length → gi K.os i = -1 ∨ (0 ≤ gi K.os i ∧ gi K.os i < 4) := fun i hi => by
    have h1 := c i hi
    unfold bad at h1
    simp [inEnv] at h1
    omega
  unfold kf at h
  rw [if_neg (by simp [h1]), if_neg (by omega)] at h
  by_cases h4 : ∀ e, e < 4 → afk K e = 0
  · rw [if_neg (by simpa using h4)] at h
    by_cases h5 : ¬ (0 ≤ K.tick ∧ K.tick ≤ 100000) ∨ (K.run ≠ -1 ∧ inEnv K.run = false)
    · rw [if_pos h5] at h; omega
    · refine ⟨⟨a1, a2⟩, h2, h3, bb, h4, by omega, ?_⟩
      by_cases h6 : K.run = -1
      · exact .inl h6
      · right
        have : inEnv K.run = true := by
          rcases hb : inEnv K.run with _ | _
          · exact absurd (Or.inr ⟨h6, hb⟩) h5
          · rfl
        simpa [inEnv] using this
  · rw [if_pos h4] at h; omega
theorem FX.slot {K : Ker} (h : FX K) : ((K.tick / 9) % (K.os.length : Int)).toNat < K.os.length ∧ 0 ≤ (K.tick / 9) % (K.os.length : Int) := by
  have h1 := h.l1
  have h2 := Int.emod_lt_of_pos (K.tick / 9) (show (0 : Int) < (K.os.length : Int) by omega)
  have h3 := Int.emod_nonneg (K.tick / 9) (show (K.os.length : Int) ≠ 0 by omega)
  omega
theorem FX.own {K : Ker} (h : FX K) : own3 K = -1 ∨ (0 ≤ own3 K ∧ own3 K < 4) := h.os _ h.slot.1
theorem specSlot8_any (g : Nat) (A1 : Option Addr) (n1 c1 : Nat) (K : Ker) (w : World) (q0 : w.cell? ⟨g, 0, none⟩ = some (.slice A1 n1 c1)) (q3 : w.cell? ⟨g, 3, none⟩ = some (.int .i64 K.tick)) (hl : K.os.length = n1) (t : FX K) :
    Calls Tryz.prog 106 #[.pointer (some ⟨g, 0, none⟩)] w fun e w' => e = .returned (.int .i64 ((K.tick / 9) % (K.os.length : Int))) ∧ Below w.heap.size w w' := by
  obtain ⟨a, ha⟩ : ∃ a, a = K.tick / 9 := ⟨_, rfl⟩
  obtain ⟨s, hs⟩ : ∃ s, s = a % (K.os.length : Int) := ⟨_, rfl⟩
  have t1 := t.tick
  have t2 := t.l1
  have h1 : K.tick.tdiv 9 = a := by rw [ha]; exact Int.tdiv_eq_ediv_of_nonneg t1.1
  have h2 : IntKind.i64.wrap a = a := IntWalk.i64_in _ (by omega)
  have h3 : a.tmod (n1 : Int) = s := by rw [hs, hl]; exact Int.tmod_eq_emod_of_nonneg (by omega)
  have sl := t.slot
  have h4 : IntKind.i64.wrap s = s := IntWalk.i64_in _ (by rw [hs, ha]; omega)
  have hn : ¬ ((n1 : Int) = 0) := by omega
  have hn' : n1 ≠ 0 := by omega
  have HS := Lib.hid (show s = (K.tick / 9) % (K.os.length : Int) by rw [hs, ha])
  have KK : Hid (∀ n, Below w.heap.size w (w.drewN n)) := fun _ => ⟨rfl, rfl, rfl, Nat.le_refl _, fun _ _ => rfl⟩
  clear ha hs t1 t2 sl hl t
  go_enter Tryz.func106, Tryz.ntmps106
  go_wp2_with fail
  go_quiet (fail)
  go_wp2
  go_ret
  exact ⟨ret_i64 HS.out, KK.out _⟩

theorem slotOwner8_any (lo hi : Nat) (A1 : Option Addr) (n1 c1 : Nat) (A2 : Option Addr) (c2 : Nat) (A3 : Option Addr) (c3 : Nat) (K : Ker) (w : World) (h : KRead w lo hi A1 n1 A2 4 A3 4 K) (t : FX K) :
    Calls Tryz.prog 102 #[.agg #[.slice A1 n1 c1, .slice A2 4 c2, .slice A3 4 c3, .int .i64 K.tick, .int .i64 K.run]] w fun e w' => e = .returned (.int .i64 (own3 K)) ∧ Below w.heap.size w w' := by
  obtain ⟨⟨l1, _, _⟩, s1, _, _⟩ := h
  obtain ⟨a, ha⟩ : ∃ a, a = K.tick / 9 := ⟨_, rfl⟩
  obtain ⟨s, hs⟩ : ∃ s : Nat, s = (a % (K.os.length : Int)).toNat := ⟨_, rfl⟩
  have t1 := t.tick
  have t2 := t.l1
  have sl := t.slot
  have hs' : a % (K.os.length : Int) = (s : Int) := by rw [hs, ha]; omega
  have h1 : K.tick.tdiv 9 = a := by rw [ha]; exact Int.tdiv_eq_ediv_of_nonneg t1.1
  have h2 : IntKind.i64.wrap a = a := IntWalk.i64_in _ (by omega)
  have h3 : a.tmod (n1 : Int) = (s : Int) := by rw [← hs', l1]; exact Int.tmod_eq_emod_of_nonneg (by omega)
  have hsn : s < n1 := by rw [hs, ha]; omega
  have h4 : IntKind.i64.wrap (s : Int) = (s : Int) := IntWalk.i64_in _ (by omega)
  have hn : ¬ ((n1 : Int) = 0) := by omega
  have hn' : n1 ≠ 0 := by omega
  obtain ⟨b, off, hA1, _, hbw, hc⟩ := s1.at_ hsn
  have c0' := hc s hsn
  rw [show gi K.os s = own3 K by unfold own3; rw [← ha, hs]] at c0'
  obtain ⟨w1, hw1⟩ : ∃ w1, w1 = w.alloc (.cells #[.slice (some ⟨b, off, none⟩) n1 c1, .slice A2 4 c2, .slice A3 4 c3, .int .i64 K.tick, .int .i64 K.run] 39) := ⟨_, rfl⟩
  have k1 : w1.heap[w.heap.size]? = some (.cells #[.slice (some ⟨b, off, none⟩) n1 c1, .slice A2 4 c2, .slice A3 4 c3, .int .i64 K.tick, .int .i64 K.run] 39 (0, 0)) := by rw [hw1]; exact heap_alloc_new w _
  have B1 : Hid (Below w.heap.size w w1) := by rw [hw1]; exact below_new w _
  have b0 := cell_of_row w1 _ 0 _ _ _ k1; have b1 := cell_of_row w1 _ 1 _ _ _ k1; have b2 := cell_of_row w1 _ 2 _ _ _ k1; have b3 := cell_of_row w1 _ 3 _ _ _ k1; have b4 := cell_of_row w1 _ 4 _ _ _ k1
  simp at b0 b1 b2 b3 b4
  have c0 : w1.cell? ⟨b, off + s, none⟩ = some (.int .i64 (own3 K)) := (B1.out.cell (World.block_lt_of_cell? _ _ c0')).trans c0'
  have z0 : (0 : Int) ≤ (s : Int) := by omega
  have z1 : (s : Int) < (n1 : Int) := by omega
  have BD : Hid (∀ n, Below w.heap.size w (w1.drewN n)) := fun _ => ⟨B1.out.os, B1.out.tape, B1.out.output, B1.out.size, B1.out.block⟩
  have HW1 := Lib.hid hw1
  rw [hA1]
  clear ha hs t1 t2 sl t hs' hA1 hbw hc c0' k1 B1 hw1 l1 hsn s1
  go_enter Tryz.func102, Tryz.ntmps102
  go_upto_region 1 with (fail)
  rw [← HW1.out]
  clear HW1
  go_quiet (fail)
  go_wp2
  go_ret
  exact ⟨rfl, BD.out _⟩



def tk9 (x : Nat → Int) (i : Nat) : Bool := decide (evf (x (i * 7)) (x (i * 7 + 1)) (x (i * 7 + 2)) (x (i * 7 + 3)) (x (i * 7 + 4)) (x (i * 7 + 5)) (x (i * 7 + 6)) = 0 ∧ x (i * 7) = 1)
def opens9 (ev : Int) (K : Ker) : Bool := decide (K.tick % 9 = 0 ∧ own3 K = ev)
def tks (P : Ker → Bool) (K0 : Ker) (x : Nat → Int) : Nat → List Int
  | 0 => []
  | i + 1 => tks P K0 x i ++ (if tk9 x i = true ∧ P (run3 K0 x i).1 = true then [(run3 K0 x i).1.tick] else [])
theorem tks_le (P : Ker → Bool) (K0 : Ker) (x : Nat → Int) : ∀ n, (tks P K0 x n).length ≤ n
  | 0 => Nat.le_refl _
  | i + 1 => by
    have := tks_le P K0 x i
    unfold tks
    split <;> simp <;> omega
theorem stp_tick {x : Nat → Int} {i : Nat} {K : Ker} (h : SK K) (ht : K.tick < 100000) : (K.tick < (stp x i K).2.1.tick) ↔ tk9 x i = true := by
  unfold stp step3 tk9
  by_cases h0 : evf (x (i * 7)) (x (i * 7 + 1)) (x (i * 7 + 2)) (x (i * 7 + 3)) (x (i * 7 + 4)) (x (i * 7 + 5)) (x (i * 7 + 6)) = 0
  · rw [if_neg (by simp [h0])]
    rcases evf_z h0 with ⟨k1, hb, _⟩ | ⟨k2, hc⟩
    · rw [if_neg (by omega)]
      obtain ⟨_, y, _⟩ := h.next ht (x (i * 7 + 1)) (x (i * 7 + 2)) hb
      exact ⟨fun _ => decide_eq_true ⟨h0, k1⟩, fun _ => show K.tick < (tick3 K (x (i * 7 + 1)) (x (i * 7 + 2))).1.tick by omega⟩
    · rw [if_pos k2]
      refine ⟨fun hh => ?_, fun hh => ?_⟩
      · have hh : K.tick < (call3 K (x (i * 7 + 3)) (x (i * 7 + 4)) (x (i * 7 + 5)) (x (i * 7 + 6))).2.tick := hh
        rw [call3_tk] at hh
        omega
      · have := (of_decide_eq_true hh).2
        omega
  · rw [if_pos h0]
    exact ⟨fun hh => absurd (show K.tick < K.tick from hh) (by omega), fun hh => absurd (of_decide_eq_true hh).1 h0⟩
theorem KOwn.read9 {w : World} {p : Kp} {K : Ker} (h : KOwn w p K) (hn : 1 ≤ p.n1) : KRead w 0 w.heap.size p.A1 p.n1 p.A2 4 p.A3 4 K := by
  obtain ⟨_, h1⟩ := mine_blk h.m1 (by omega)
  obtain ⟨_, h2⟩ := mine_blk h.m2 (by decide)
  obtain ⟨_, h3⟩ := mine_blk h.m3 (by decide)
  have a1 := (Array.getElem?_eq_some_iff.1 h1).1
  have a2 := (Array.getElem?_eq_some_iff.1 h2).1
  have a3 := (Array.getElem?_eq_some_iff.1 h3).1
  exact ⟨⟨h.l1, h.l2, h.l3⟩, h.m1.sl.wide (Nat.zero_le _) (by omega), h.m2.sl.wide (Nat.zero_le _) (by omega), h.m3.sl.wide (Nat.zero_le _) (by omega)⟩

structure LoopK (w W : World) (g : Nat) (p : Kp) (K : Ker) : Prop where
  kb : KB W g p K
  n1 : 1 ≤ p.n1
  lo : w.heap.size ≤ g ∧ w.heap.size ≤ p.g1 ∧ w.heap.size ≤ p.g2 ∧ w.heap.size ≤ p.g3
  bw : Below w.heap.size w W
theorem LoopK.below {w W W1 : World} {g : Nat} {p : Kp} {K : Ker} (J : LoopK w W g p K) (hb : Below W.heap.size W W1) : LoopK w W1 g p K := by
  have l1 := J.kb.lt1 J.n1
  have l2 := J.kb.lt2
  exact ⟨J.kb.low hb J.kb.lt l1 l2.1 l2.2, J.n1, J.lo, J.bw.trans (hb.mono J.bw.size)⟩
theorem LoopK.event {w W : World} {g : Nat} {p : Kp} {K : Ker} (J : LoopK w W g p K) {W1 : World} {p' : Kp} {K' : Ker} (kb : KB W1 g p' K') (sk : SK K') (e1 : p'.g1 = p.g1 ∨ W.heap.size ≤ p'.g1 ∧ p'.g1 < W1.heap.size) (e2 : p'.g2 = p.g2) (e3 : p'.g3 = p.g3) (kk : Kept [g, p.g2, p.g3] W W1) : LoopK w W1 g p' K' := by
  have l1 := kb.own.l1
  obtain ⟨v1, _⟩ := vf_zero sk.v
  have zb := J.bw.size
  have lo := J.lo
  refine ⟨kb, by omega, ⟨lo.1, ?_, by omega, by omega⟩, J.bw.trans (kk.below zb fun b hb => ?_)⟩
  · rcases e1 with e1 | e1
    · rw [e1]; exact lo.2.1
    · omega
  · simp only [List.mem_cons, List.not_mem_nil, or_false] at hb
    rcases hb with rfl | rfl | rfl
    · exact lo.1
    · exact lo.2.2.1
    · exact lo.2.2.2



theorem run3_code (K0 : Ker) (x : Nat → Int) : ∀ n i, i < n → n ≤ 400 → SK K0 → K0.tick = 0 → gi (run3 K0 x n).2.1 i = (stp x i (run3 K0 x i).1).1
  | n + 1, i, hi, hn, h, h0 => by
    have e : (run3 K0 x (n + 1)).2.1 = (run3 K0 x n).2.1 ++ [(stp x n (run3 K0 x n).1).1] := rfl
    have l := (run3_all (x := x) h h0 n (by omega)).2.2.1
    rw [e]
    by_cases hin : i < n
    · rw [← run3_code K0 x n i hin (by omega) h h0]
      unfold gi
      simp [List.getD_eq_getElem?_getD, List.getElem?_append_left (show i < (run3 K0 x n).2.1.length by omega)]
    · obtain rfl : i = n := by omega
      unfold gi
      simp [List.getD_eq_getElem?_getD, List.getElem?_append_right (show (run3 K0 x i).2.1.length ≤ i by omega), l]
def dst9 (x : Nat → Int) (cs : List Int) (ev : Int) (i : Nat) : Prop := gi cs i = 0 ∧ x (i * 7 + 3) = 2 ∧ x (i * 7 + 4) = ev
theorem stp_kind {x : Nat → Int} {i : Nat} {K : Ker} (h : (stp x i K).1 = 0) (hc : x (i * 7 + 3) = 2) : x (i * 7) = 2 := by
  unfold stp step3 at h
  by_cases h0 : evf (x (i * 7)) (x (i * 7 + 1)) (x (i * 7 + 2)) (x (i * 7 + 3)) (x (i * 7 + 4)) (x (i * 7 + 5)) (x (i * 7 + 6)) = 0
  · rcases evf_z h0 with ⟨k1, _, _⟩ | ⟨k2, _⟩
    · exfalso
      unfold evf at h0
      rw [if_pos k1] at h0
      by_cases hz : ¬ (x (i * 7 + 1) = 1 ∨ x (i * 7 + 1) = 2 ∨ x (i * 7 + 1) = 3)
      · first
        | (rw [if_pos (by omega)] at h0; omega)
        | (split at h0 <;> omega)
      · first
        | (rw [if_pos (by omega)] at h0; omega)
        | (split at h0 <;> omega)
    · exact k2
  · rw [if_pos h0] at h
    exact absurd h h0
end Go.Proofs.YtckapndpefkcgaaGreat
