/-
  Who acts, and the honest act: the model's and the program's. No conditions beyond that the kernel's lists can be read.
-/
import Derived.Deep.RegionHeld3
import Derived.Test.YtckapndpefkcgaaGreatImpl3b
import Derived.Test.YtckapndpefkcgaaGreatTick3
import Derived.Test.YtckapndpefkcgaaGreatImpl1d
import Derived.Test.YtckapndpefkcgaaGreatSpec3d
import Derived.Test.YtckapndpefkcgaaGreatSpec3n
import Derived.Test.YtckapndpefkcgaaGreatKans3
import Derived.Test.YtckapndpefkcgaaGreatU8s
set_option maxHeartbeats 1000000
namespace Go.Proofs.YtckapndpefkcgaaGreat
open Go.RowKit
set_option maxRecDepth 100000

structure FX (K : Ker) : Prop where
  l1 : 1 ≤ K.os.length ∧ K.os.length ≤ 12
  l2 : K.al.length = 4
  l3 : K.ac.length = 16
  os : ∀ i, i < K.os.length → gi K.os i = -1 ∨ (0 ≤ gi K.os i ∧ gi K.os i < 4)
  ac : ∀ e, e < 4 → afk K e = 0
  tick : 0 ≤ K.tick ∧ K.tick ≤ 100000
  run : K.run = -1 ∨ (0 ≤ K.run ∧ K.run < 4)
theorem fx_of {K : Ker} (h : kf K = 0) : FX K := by
  obtain ⟨h1, h2, h3⟩ := kf_zero h
  obtain ⟨a1, a2, c, _⟩ := vf_zero h1
  have bb : ∀ i, i < K.os.length → gi K.os i = -1 ∨ (0 ≤ gi K.os i ∧ gi K.os i < 4) := fun i hi => by
    have h1 := c i hi
    unfold bad at h1
    simp [inEnv] at h1
    omega
  unfold kf at h
  rw [if_neg (by simp [h1]), if_neg (by omega)] at h
  by_cases h4 : ∀ e, e < 4 → afk K e = 0
  · rw [if_neg (by simpa using h4)] at h
    by_cases h5 : ¬ (0 ≤ K.tick ∧ K.tick ≤ 100000) ∨ (K.run ≠ -1 ∧ inEnv K.run = false)
    · rw [if_pos h5] at h; omega
    · refine ⟨⟨a1, a2⟩, h2, h3, bb, h4, by omega, ?_⟩
      by_cases h6 : K.run = -1
      · exact .inl h6
      · right
        have : inEnv K.run = true := by
          rcases hb : inEnv K.run with _ | _
          · exact absurd (Or.inr ⟨h6, hb⟩) h5
          · rfl
        simpa [inEnv] using this
  · rw [if_pos h4] at h; omega
theorem FX.slot {K : Ker} (h : FX K) : ((K.tick / 9) % (K.os.length : Int)).toNat < K.os.length ∧ 0 ≤ (K.tick / 9) % (K.os.length : Int) := by
  have h1 := h.l1
  have h2 := Int.emod_lt_of_pos (K.tick / 9) (show (0 : Int) < (K.os.length : Int) by omega)
  have h3 := Int.emod_nonneg (K.tick / 9) (show (K.os.length : Int) ≠ 0 by omega)
  omega
theorem FX.own {K : Ker} (h : FX K) : own3 K = -1 ∨ (0 ≤ own3 K ∧ own3 K < 4) := h.os _ h.slot.1
def who8 (K : Ker) : Int := if K.tick % 9 ≠ 0 then K.run else if own3 K = -1 then -1 else if 0 < gi K.ac ((own3 K).toNat * 4 + 3) then -1 else own3 K
theorem specSlot8_any (g : Nat) (A1 : Option Addr) (n1 c1 : Nat) (K : Ker) (w : World) (q0 : w.cell? ⟨g, 0, none⟩ = some (.slice A1 n1 c1)) (q3 : w.cell? ⟨g, 3, none⟩ = some (.int .i64 K.tick)) (hl : K.os.length = n1) (t : FX K) :
    Calls Tryz.prog 106 #[.pointer (some ⟨g, 0, none⟩)] w fun e w' => e = .returned (.int .i64 ((K.tick / 9) % (K.os.length : Int))) ∧ Below w.heap.size w w' := by
  obtain ⟨a, ha⟩ : ∃ a, a = K.tick / 9 := ⟨_, rfl⟩
  obtain ⟨s, hs⟩ : ∃ s, s = a % (K.os.length : Int) := ⟨_, rfl⟩
  have t1 := t.tick
  have t2 := t.l1
  have h1 : K.tick.tdiv 9 = a := by rw [ha]; exact Int.tdiv_eq_ediv_of_nonneg t1.1
  have h2 : IntKind.i64.wrap a = a := IntWalk.i64_in _ (by omega)
  have h3 : a.tmod (n1 : Int) = s := by rw [hs, hl]; exact Int.tmod_eq_emod_of_nonneg (by omega)
  have sl := t.slot
  have h4 : IntKind.i64.wrap s = s := IntWalk.i64_in _ (by rw [hs, ha]; omega)
  have hn : ¬ ((n1 : Int) = 0) := by omega
  have hn' : n1 ≠ 0 := by omega
  have HS := Lib.hid (show s = (K.tick / 9) % (K.os.length : Int) by rw [hs, ha])
  have KK : Hid (∀ n, Below w.heap.size w (w.drewN n)) := fun _ => ⟨rfl, rfl, rfl, Nat.le_refl _, fun _ _ => rfl⟩
  clear ha hs t1 t2 sl hl t
  go_enter Tryz.func106, Tryz.ntmps106
  go_wp2_with fail
  go_quiet (fail)
  go_wp2
  go_ret
  exact ⟨ret_i64 HS.out, KK.out _⟩

theorem slotOwner8_any (lo hi : Nat) (A1 : Option Addr) (n1 c1 : Nat) (A2 : Option Addr) (c2 : Nat) (A3 : Option Addr) (c3 : Nat) (K : Ker) (w : World) (h : KRead w lo hi A1 n1 A2 4 A3 4 K) (t : FX K) :
    Calls Tryz.prog 102 #[.agg #[.slice A1 n1 c1, .slice A2 4 c2, .slice A3 4 c3, .int .i64 K.tick, .int .i64 K.run]] w fun e w' => e = .returned (.int .i64 (own3 K)) ∧ Below w.heap.size w w' := by
  obtain ⟨⟨l1, _, _⟩, s1, _, _⟩ := h
  obtain ⟨a, ha⟩ : ∃ a, a = K.tick / 9 := ⟨_, rfl⟩
  obtain ⟨s, hs⟩ : ∃ s : Nat, s = (a % (K.os.length : Int)).toNat := ⟨_, rfl⟩
  have t1 := t.tick
  have t2 := t.l1
  have sl := t.slot
  have hs' : a % (K.os.length : Int) = (s : Int) := by rw [hs, ha]; omega
  have h1 : K.tick.tdiv 9 = a := by rw [ha]; exact Int.tdiv_eq_ediv_of_nonneg t1.1
  have h2 : IntKind.i64.wrap a = a := IntWalk.i64_in _ (by omega)
  have h3 : a.tmod (n1 : Int) = (s : Int) := by rw [← hs', l1]; exact Int.tmod_eq_emod_of_nonneg (by omega)
  have hsn : s < n1 := by rw [hs, ha]; omega
  have h4 : IntKind.i64.wrap (s : Int) = (s : Int) := IntWalk.i64_in _ (by omega)
  have hn : ¬ ((n1 : Int) = 0) := by omega
  have hn' : n1 ≠ 0 := by omega
  obtain ⟨b, off, hA1, _, hbw, hc⟩ := s1.at_ hsn
  have c0' := hc s hsn
  rw [show gi K.os s = own3 K by unfold own3; rw [← ha, hs]] at c0'
  obtain ⟨w1, hw1⟩ : ∃ w1, w1 = w.alloc (.cells #[.slice (some ⟨b, off, none⟩) n1 c1, .slice A2 4 c2, .slice A3 4 c3, .int .i64 K.tick, .int .i64 K.run] 39) := ⟨_, rfl⟩
  have k1 : w1.heap[w.heap.size]? = some (.cells #[.slice (some ⟨b, off, none⟩) n1 c1, .slice A2 4 c2, .slice A3 4 c3, .int .i64 K.tick, .int .i64 K.run] 39 (0, 0)) := by rw [hw1]; exact heap_alloc_new w _
  have B1 : Hid (Below w.heap.size w w1) := by rw [hw1]; exact below_new w _
  have b0 := cell_of_row w1 _ 0 _ _ _ k1; have b1 := cell_of_row w1 _ 1 _ _ _ k1; have b2 := cell_of_row w1 _ 2 _ _ _ k1; have b3 := cell_of_row w1 _ 3 _ _ _ k1; have b4 := cell_of_row w1 _ 4 _ _ _ k1
  simp at b0 b1 b2 b3 b4
  have c0 : w1.cell? ⟨b, off + s, none⟩ = some (.int .i64 (own3 K)) := (B1.out.cell (World.block_lt_of_cell? _ _ c0')).trans c0'
  have z0 : (0 : Int) ≤ (s : Int) := by omega
  have z1 : (s : Int) < (n1 : Int) := by omega
  have BD : Hid (∀ n, Below w.heap.size w (w1.drewN n)) := fun _ => ⟨B1.out.os, B1.out.tape, B1.out.output, B1.out.size, B1.out.block⟩
  have HW1 := Lib.hid hw1
  rw [hA1]
  clear ha hs t1 t2 sl t hs' hA1 hbw hc c0' k1 B1 hw1 l1 hsn s1
  go_enter Tryz.func102, Tryz.ntmps102
  go_upto_region 1 with (fail)
  rw [← HW1.out]
  clear HW1
  go_quiet (fail)
  go_wp2
  go_ret
  exact ⟨rfl, BD.out _⟩

set_option maxHeartbeats 2000000 in
theorem l8Who8_any (g lo hi : Nat) (A1 : Option Addr) (n1 c1 : Nat) (A2 : Option Addr) (c2 : Nat) (A3 : Option Addr) (c3 : Nat) (K : Ker) (w : World) (hbox : w.heap[g]? = some (.cells #[.slice A1 n1 c1, .slice A2 4 c2, .slice A3 4 c3, .int .i64 K.tick, .int .i64 K.run] 39 (0, 0))) (h : KRead w lo hi A1 n1 A2 4 A3 4 K) (t : FX K) :
    Calls Tryz.prog 63 #[.pointer (some ⟨g, 0, none⟩)] w fun e w' => e = .returned (.int .i64 (who8 K)) ∧ Below w.heap.size w w' := by
  have HR := Lib.hid h
  have TT := Lib.hid t
  obtain ⟨⟨l1, _, _⟩, s1, _, s3⟩ := h
  obtain ⟨s, hs⟩ : ∃ s : Nat, s = ((K.tick / 9) % (K.os.length : Int)).toNat := ⟨_, rfl⟩
  have es : (K.tick / 9) % (K.os.length : Int) = (s : Int) := by have := t.slot; omega
  have hsn : s < n1 := by have := t.slot; omega
  obtain ⟨o, ho⟩ : ∃ o, o = own3 K := ⟨_, rfl⟩
  have HO := Lib.hid ho
  have TO := Lib.hid (show o = -1 ∨ (0 ≤ o ∧ o < 4) by rw [ho]; exact t.own)
  have TK0 := t.tick
  obtain ⟨b, off, hA1, _, _, hc⟩ := s1.at_ hsn
  have c0' := hc s hsn
  rw [show gi K.os s = o by rw [ho]; unfold own3; rw [← hs]] at c0'
  obtain ⟨b3, o3, hA3, _, _, hc3⟩ := s3.at_ (show 0 < 4 * 4 by omega)
  have C3 := Lib.hid hc3
  have LB3 : Hid (b3 < w.heap.size) := World.block_lt_of_cell? _ _ (hc3 0 (by omega))
  have hg : g < w.heap.size := (Array.getElem?_eq_some_iff.1 hbox).1
  obtain ⟨w1, hw1⟩ : ∃ w1, w1 = w := ⟨_, rfl⟩
  have BW : Hid (Below w.heap.size w w1) := by show _; rw [hw1]; exact Below.refl _ _
  have FC : Hid (∀ W, Below w.heap.size w W → (W.cell? ⟨g, 0, none⟩ = some (.slice (some ⟨b, off, none⟩) n1 c1) ∧ W.cell? ⟨g, 2, none⟩ = some (.slice (some ⟨b3, o3, none⟩) 4 c3) ∧ W.cell? ⟨g, 3, none⟩ = some (.int .i64 K.tick) ∧ W.cell? ⟨g, 4, none⟩ = some (.int .i64 K.run)) ∧ W.cell? ⟨b, off + s, none⟩ = some (.int .i64 o)) := fun W hW => by
    have k := (hW.block g hg).trans hbox
    rw [hA1, hA3] at k
    exact ⟨⟨cell_of_row W g 0 _ _ _ k, cell_of_row W g 2 _ _ _ k, cell_of_row W g 3 _ _ _ k, cell_of_row W g 4 _ _ _ k⟩, (hW.cell (World.block_lt_of_cell? _ _ c0')).trans c0'⟩
  obtain ⟨ph, hph⟩ : ∃ ph, ph = K.tick % 9 := ⟨_, rfl⟩
  have HP := Lib.hid hph
  have PH : Hid (∀ W, Below w.heap.size w W → Calls Tryz.prog 105 #[.pointer (some ⟨g, 0, none⟩)] W fun e w' => e = .returned (.int .i64 ph) ∧ W = w') := fun W hW => by
    rw [hph]; exact specPhase_any g K.tick W TK0.1 (FC.out W hW).1.2.2.1
  have SC : Hid (∀ W, Below w.heap.size w W → Calls Tryz.prog 106 #[.pointer (some ⟨g, 0, none⟩)] W fun e w' => e = .returned (.int .i64 (s : Int)) ∧ Below w.heap.size w w') := fun W hW => by
    have := specSlot8_any g _ n1 c1 K W (FC.out W hW).1.1 (FC.out W hW).1.2.2.1 l1 TT.out
    rw [es] at this
    exact this.mono fun e w' ⟨x, y⟩ => ⟨x, hW.trans (y.mono hW.size)⟩
  have z0 : (0 : Int) ≤ (s : Int) := by omega
  have z1 : (s : Int) < (n1 : Int) := by omega
  clear hbox s1 s3 hc hc3 c0' hA1 hA3 hs es hsn l1 t hg hph TK0 ho
  subst hw1
  obtain ⟨⟨q0, q2, q3, q4⟩, c0⟩ := FC.out w1 BW.out
  by_cases hp : ph = 0
  · subst hp
    go_enter Tryz.func63, Tryz.ntmps63
    go_wp2_with fail
    refine (PH.out _ BW.out).mono ?_
    rintro e w2 ⟨rfl, rfl⟩
    go_upto_region 3 with (fail)
    go_cut [3] from 4 (fun v wx => v = .int .i64 o ∧ Below w1.heap.size w1 wx)
    case first =>
      focus
        have KH : Hid (∀ W, Below w1.heap.size w1 W → ((W.cell? ⟨g, 0, none⟩ = some (.slice (some ⟨b, off, none⟩) n1 c1) ∧ W.cell? ⟨g, 2, none⟩ = some (.slice (some ⟨b3, o3, none⟩) 4 c3) ∧ W.cell? ⟨g, 3, none⟩ = some (.int .i64 K.tick) ∧ W.cell? ⟨g, 4, none⟩ = some (.int .i64 K.run)) ∧ W.cell? ⟨b, off + s, none⟩ = some (.int .i64 o)) ∧ Below w1.heap.size w1 W) := fun W hW => ⟨FC.out W hW, hW⟩
        go_region_held3 (fun W => ((W.cell? ⟨g, 0, none⟩ = some (.slice (some ⟨b, off, none⟩) n1 c1) ∧ W.cell? ⟨g, 2, none⟩ = some (.slice (some ⟨b3, o3, none⟩) 4 c3) ∧ W.cell? ⟨g, 3, none⟩ = some (.int .i64 K.tick) ∧ W.cell? ⟨g, 4, none⟩ = some (.int .i64 K.run)) ∧ W.cell? ⟨b, off + s, none⟩ = some (.int .i64 o)) ∧ Below w1.heap.size w1 W) (first | with_reducible exact KH.out _ (by assumption) | exact KH.out _ (Below.drew BW.out)) (first | (go_at_call 106; with_reducible refine (SC.out _ (by go_split_ands; assumption)).mono ?_; rintro e w' ⟨rfl, hb9⟩))
        all_goals (go_wp2_with fail; go_meet; exact ⟨rfl, by assumption⟩)
    case rest =>
      obtain ⟨rfl, hbw⟩ := hcut
      obtain ⟨w4, hw4⟩ : ∃ w4, w4 = wc := ⟨_, rfl⟩
      subst hw4
      have B4 := Lib.hid hbw
      clear hbw q0 q2 q3 q4 c0
      obtain ⟨⟨q0, q2, q3, q4⟩, c0⟩ := FC.out w4 B4.out
      by_cases h1 : o = -1
      · have HWH : Hid (who8 K = -1) := by show _ = _; unfold who8; rw [← HP.out, if_neg (by simp), ← HO.out, if_pos h1]
        subst h1
        go_wp2
        go_ret
        exact ⟨ret_i64 HWH.out.symm, B4.out⟩
      · obtain ⟨e, he⟩ : ∃ e : Nat, o = (e : Int) := ⟨o.toNat, by have := TO.out; omega⟩
        have he4 : e < 4 := by have := TO.out; omega
        have HE : Hid (¬ own3 K = -1 ∧ (own3 K).toNat = e ∧ own3 K = (e : Int)) := by show _ ∧ _ ∧ _; rw [← HO.out]; exact ⟨h1, by omega, he⟩
        subst he
        have y0 : (0 : Int) ≤ (e : Int) := by omega
        have y1 : (e : Int) < 4 := by omega
        have y2 : ((e : Int) == -1) = false := by first | (simp; done) | (simp; omega)
        have a3 : w4.cell? ⟨b3, o3 + e * 4 + 3, none⟩ = some (.int .i64 (gi K.ac (e * 4 + 3))) := ((B4.out).cell (p := ⟨b3, o3 + (e * 4 + 3), none⟩) LB3.out).trans (C3.out (e * 4 + 3) (by omega))
        clear h1
        by_cases hd : 0 < gi K.ac (e * 4 + 3)
        · have HWH : Hid (who8 K = -1) := by show _ = _; unfold who8; rw [← HP.out, if_neg (by simp), if_neg HE.out.1, HE.out.2.1, if_pos hd]
          go_wp2
          go_ret
          exact ⟨ret_i64 HWH.out.symm, B4.out⟩
        · have HWH : Hid (who8 K = (e : Int)) := by show _ = _; unfold who8; rw [← HP.out, if_neg (by simp), if_neg HE.out.1, HE.out.2.1, if_neg hd, HE.out.2.2]
          go_wp2
          go_ret
          exact ⟨ret_i64 HWH.out.symm, B4.out⟩
  · have y : (ph != 0) = true := by simp [hp]
    have HWH : Hid (who8 K = K.run) := by show _ = _; unfold who8; rw [← HP.out, if_pos hp]
    go_enter Tryz.func63, Tryz.ntmps63
    go_wp2_with fail
    refine (PH.out _ BW.out).mono ?_
    rintro e w2 ⟨rfl, rfl⟩
    go_wp2
    go_ret
    exact ⟨ret_i64 HWH.out.symm, BW.out⟩

set_option maxHeartbeats 2000000 in
theorem whoActs8_any (lo hi : Nat) (A1 : Option Addr) (n1 c1 : Nat) (A2 : Option Addr) (c2 : Nat) (A3 : Option Addr) (c3 : Nat) (K : Ker) (w : World) (h : KRead w lo hi A1 n1 A2 4 A3 4 K) (t : FX K) :
    Calls Tryz.prog 108 #[.agg #[.slice A1 n1 c1, .slice A2 4 c2, .slice A3 4 c3, .int .i64 K.tick, .int .i64 K.run]] w fun e w' => e = .returned (.int .i64 (who8 K)) ∧ Below w.heap.size w w' := by
  have HR := Lib.hid h
  have TT := Lib.hid t
  obtain ⟨⟨l1, _, _⟩, s1, _, s3⟩ := h
  obtain ⟨s, hs⟩ : ∃ s : Nat, s = ((K.tick / 9) % (K.os.length : Int)).toNat := ⟨_, rfl⟩
  have es : (K.tick / 9) % (K.os.length : Int) = (s : Int) := by have := t.slot; omega
  have hsn : s < n1 := by have := t.slot; omega
  obtain ⟨o, ho⟩ : ∃ o, o = own3 K := ⟨_, rfl⟩
  have HO := Lib.hid ho
  have TO := Lib.hid (show o = -1 ∨ (0 ≤ o ∧ o < 4) by rw [ho]; exact t.own)
  have TK0 := t.tick
  obtain ⟨b, off, hA1, _, _, hc⟩ := s1.at_ hsn
  have c0' := hc s hsn
  rw [show gi K.os s = o by rw [ho]; unfold own3; rw [← hs]] at c0'
  obtain ⟨b3, o3, hA3, _, _, hc3⟩ := s3.at_ (show 0 < 4 * 4 by omega)
  have C3 := Lib.hid hc3
  have LB3 : Hid (b3 < w.heap.size) := World.block_lt_of_cell? _ _ (hc3 0 (by omega))
  obtain ⟨w1, hw1⟩ : ∃ w1, w1 = w.alloc (.cells #[.slice A1 n1 c1, .slice A2 4 c2, .slice A3 4 c3, .int .i64 K.tick, .int .i64 K.run] 39) := ⟨_, rfl⟩
  have k1 : w1.heap[w.heap.size]? = some (.cells #[.slice A1 n1 c1, .slice A2 4 c2, .slice A3 4 c3, .int .i64 K.tick, .int .i64 K.run] 39 (0, 0)) := by rw [hw1]; exact heap_alloc_new w _
  have BW : Hid (Below w.heap.size w w1) := by show _; rw [hw1]; exact below_new w _
  have ZW : Hid (w1.heap.size = w.heap.size + 1) := by show _ = _; rw [hw1]; simp
  have FC : Hid (∀ W, Below w1.heap.size w1 W → W.cell? ⟨w.heap.size, 0, none⟩ = some (.slice A1 n1 c1) ∧ W.cell? ⟨w.heap.size, 1, none⟩ = some (.slice A2 4 c2) ∧ W.cell? ⟨w.heap.size, 2, none⟩ = some (.slice (some ⟨b3, o3, none⟩) 4 c3) ∧ W.cell? ⟨w.heap.size, 3, none⟩ = some (.int .i64 K.tick) ∧ W.cell? ⟨w.heap.size, 4, none⟩ = some (.int .i64 K.run)) := fun W hW => by
    have k := (hW.block w.heap.size (by have := ZW.out; omega)).trans k1
    rw [hA3] at k
    exact ⟨cell_of_row W _ 0 _ _ _ k, cell_of_row W _ 1 _ _ _ k, cell_of_row W _ 2 _ _ _ k, cell_of_row W _ 3 _ _ _ k, cell_of_row W _ 4 _ _ _ k⟩
  obtain ⟨ph, hph⟩ : ∃ ph, ph = K.tick % 9 := ⟨_, rfl⟩
  have HP := Lib.hid hph
  have PH : Hid (∀ W, Below w1.heap.size w1 W → Calls Tryz.prog 101 #[.agg #[.slice A1 n1 c1, .slice A2 4 c2, .slice (some ⟨b3, o3, none⟩) 4 c3, .int .i64 K.tick, .int .i64 K.run]] W fun e w' => e = .returned (.int .i64 ph) ∧ Below w1.heap.size w1 w') := fun W hW => by
    rw [hph]; exact (phaseOf_any _ _ _ K.tick K.run W TK0.1).mono fun e w' ⟨x, y⟩ => ⟨x, hW.trans (y.mono hW.size)⟩
  have SC : Hid (∀ W, Below w1.heap.size w1 W → Calls Tryz.prog 102 #[.agg #[.slice A1 n1 c1, .slice A2 4 c2, .slice (some ⟨b3, o3, none⟩) 4 c3, .int .i64 K.tick, .int .i64 K.run]] W fun e w' => e = .returned (.int .i64 o) ∧ Below w1.heap.size w1 w') := fun W hW => by
    rw [ho, ← hA3]
    exact (slotOwner8_any lo (min hi w.heap.size) A1 n1 c1 A2 c2 A3 c3 K W (HR.out.lt.below (BW.out.trans (hW.mono (by have := ZW.out; omega))) (Nat.min_le_right _ _)) TT.out).mono fun e w' ⟨x, y⟩ => ⟨x, hW.trans (y.mono hW.size)⟩
  have FIN : Hid (∀ W, Below w1.heap.size w1 W → Below w.heap.size w W) := fun W hW => BW.out.trans (hW.mono (by have := ZW.out; omega))
  have HW1 := Lib.hid hw1
  clear s1 s3 hc hc3 c0' hA1 hs es hsn l1 t hph TK0 ho k1 hw1
  rw [hA3] at HW1 ⊢
  clear hA3
  obtain ⟨q0, q1, q2, q3, q4⟩ := FC.out w1 (Below.refl _ _)
  by_cases hp : ph = 0
  · subst hp
    go_enter Tryz.func108, Tryz.ntmps108
    go_upto_region 1 with (fail)
    rw [← HW1.out]
    clear HW1
    go_wp2_with fail
    refine (PH.out _ (Below.refl _ _)).mono ?_
    rintro e w2 ⟨rfl, hb⟩
    have B2 := Lib.hid hb
    clear hb q0 q1 q2 q3 q4
    obtain ⟨q0, q1, q2, q3, q4⟩ := FC.out w2 B2.out
    go_wp2_with fail
    refine (SC.out _ B2.out).mono ?_
    rintro e w4 ⟨rfl, hb⟩
    have B4 := Lib.hid hb
    clear hb q0 q1 q2 q3 q4
    obtain ⟨q0, q1, q2, q3, q4⟩ := FC.out w4 B4.out
    by_cases h1 : o = -1
    · have HWH : Hid (who8 K = -1) := by show _ = _; unfold who8; rw [← HP.out, if_neg (by simp), ← HO.out, if_pos h1]
      subst h1
      go_wp2
      go_ret
      exact ⟨ret_i64 HWH.out.symm, (FIN.out _ B4.out)⟩
    · obtain ⟨e, he⟩ : ∃ e : Nat, o = (e : Int) := ⟨o.toNat, by have := TO.out; omega⟩
      have he4 : e < 4 := by have := TO.out; omega
      have HE : Hid (¬ own3 K = -1 ∧ (own3 K).toNat = e ∧ own3 K = (e : Int)) := by show _ ∧ _ ∧ _; rw [← HO.out]; exact ⟨h1, by omega, he⟩
      subst he
      have y0 : (0 : Int) ≤ (e : Int) := by omega
      have y1 : (e : Int) < 4 := by omega
      have y2 : ((e : Int) == -1) = false := by first | (simp; done) | (simp; omega)
      have a3 : w4.cell? ⟨b3, o3 + e * 4 + 3, none⟩ = some (.int .i64 (gi K.ac (e * 4 + 3))) := (((FIN.out _ B4.out)).cell (p := ⟨b3, o3 + (e * 4 + 3), none⟩) LB3.out).trans (C3.out (e * 4 + 3) (by omega))
      clear h1
      by_cases hd : 0 < gi K.ac (e * 4 + 3)
      · have HWH : Hid (who8 K = -1) := by show _ = _; unfold who8; rw [← HP.out, if_neg (by simp), if_neg HE.out.1, HE.out.2.1, if_pos hd]
        go_wp2
        go_ret
        exact ⟨ret_i64 HWH.out.symm, (FIN.out _ B4.out)⟩
      · have HWH : Hid (who8 K = (e : Int)) := by show _ = _; unfold who8; rw [← HP.out, if_neg (by simp), if_neg HE.out.1, HE.out.2.1, if_neg hd, HE.out.2.2]
        go_wp2
        go_ret
        exact ⟨ret_i64 HWH.out.symm, (FIN.out _ B4.out)⟩
  · have y : (ph != 0) = true := by simp [hp]
    have HWH : Hid (who8 K = K.run) := by show _ = _; unfold who8; rw [← HP.out, if_pos hp]
    go_enter Tryz.func108, Tryz.ntmps108
    go_upto_region 1 with (fail)
    rw [← HW1.out]
    clear HW1
    go_wp2_with fail
    refine (PH.out _ (Below.refl _ _)).mono ?_
    rintro e w2 ⟨rfl, hb⟩
    have B2 := Lib.hid hb
    clear hb q0 q1 q2 q3 q4
    obtain ⟨q0, q1, q2, q3, q4⟩ := FC.out w2 B2.out
    go_wp2
    go_ret
    exact ⟨ret_i64 HWH.out.symm, FIN.out _ B2.out⟩

end Go.Proofs.YtckapndpefkcgaaGreat
