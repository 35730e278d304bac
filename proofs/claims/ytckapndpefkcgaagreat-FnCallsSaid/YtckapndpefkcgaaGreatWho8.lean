/-
  Who acts, and the honest act: the model's and the program's. No conditions beyond that the kernel's lists can be read.
-/
import Derived.Deep.RegionHeld3
import Derived.Test.YtckapndpefkcgaaGreatImpl3b
import Derived.Test.YtckapndpefkcgaaGreatSpec3c
import Derived.Test.YtckapndpefkcgaaGreatTick3
import Derived.Test.YtckapndpefkcgaaGreatImpl1d
import Derived.Test.YtckapndpefkcgaaGreatOwn4
import Derived.Test.YtckapndpefkcgaaGreatKans3
import Derived.Test.YtckapndpefkcgaaGreatU8s
set_option maxHeartbeats 1000000
namespace Go.Proofs.YtckapndpefkcgaaGreat
open Go.RowKit
set_option maxRecDepth 100000

structure FX (K : Ker) : Prop where
  l1 : 1 ≤ K.os.length ∧ K.os.length ≤ 12
  l2 : K.al.length = 4
  l3 : K.ac.length = 16
  os : ∀ i, i < K.os.length → gi K.os i = -1 ∨ (0 ≤ gi K.os i ∧ gi K.os i < 4)
  ac : ∀ e, e < 4 → afk K e = 0
  tick : 0 ≤ K.tick ∧ K.tick ≤ 100000
  run : K.run = -1 ∨ (0 ≤ K.run ∧ K.run < 4)
theorem fx_of {K : Ker} (h : kf K = 0) : FX K := by
  obtain ⟨h1, h2, h3⟩ := kf_zero h
  obtain ⟨a1, a2, c, _⟩ := vf_zero h1
  have bb : ∀ i, i < K.os.length → gi K.os i = -1 ∨ (0 ≤ gi K.os i ∧ gi K.os i < 4) := fun i hi => by
    have h1 := c i hi
    unfold bad at h1
    simp [inEnv] at h1
    omega
  unfold kf at h
  rw [if_neg (by simp [h1]), if_neg (by omega)] at h
  by_cases h4 : ∀ e, e < 4 → afk K e = 0
  · rw [if_neg (by simpa using h4)] at h
    by_cases h5 : ¬ (0 ≤ K.tick ∧ K.tick ≤ 100000) ∨ (K.run ≠ -1 ∧ inEnv K.run = false)
    · rw [if_pos h5] at h; omega
    · refine ⟨⟨a1, a2⟩, h2, h3, bb, h4, by omega, ?_⟩
      by_cases h6 : K.run = -1
      · exact .inl h6
      · right
        have : inEnv K.run = true := by
          rcases hb : inEnv K.run with _ | _
          · exact absurd (Or.inr ⟨h6, hb⟩) h5
          · rfl
        simpa [inEnv] using this
  · rw [if_pos h4] at h; omega
theorem FX.slot {K : Ker} (h : FX K) : ((K.tick / 9) % (K.os.length : Int)).toNat < K.os.length ∧ 0 ≤ (K.tick / 9) % (K.os.length : Int) := by
  have h1 := h.l1
  have h2 := Int.emod_lt_of_pos (K.tick / 9) (show (0 : Int) < (K.os.length : Int) by omega)
  have h3 := Int.emod_nonneg (K.tick / 9) (show (K.os.length : Int) ≠ 0 by omega)
  omega
theorem FX.own {K : Ker} (h : FX K) : own3 K = -1 ∨ (0 ≤ own3 K ∧ own3 K < 4) := h.os _ h.slot.1
def who8 (K : Ker) : Int := if K.tick % 9 ≠ 0 then K.run else if own3 K = -1 then -1 else if 0 < gi K.ac ((own3 K).toNat * 4 + 3) then -1 else own3 K
noncomputable def whoA (K : Ker) : Int × Int := if kf K ≠ 0 then (kf K, 0) else (0, who8 K)
theorem specSlot8_any (g : Nat) (A1 : Option Addr) (n1 c1 : Nat) (K : Ker) (w : World) (q0 : w.cell? ⟨g, 0, none⟩ = some (.slice A1 n1 c1)) (q3 : w.cell? ⟨g, 3, none⟩ = some (.int .i64 K.tick)) (hl : K.os.length = n1) (t : FX K) :
    Calls Tryz.prog 106 #[.pointer (some ⟨g, 0, none⟩)] w fun e w' => e = .returned (.int .i64 ((K.tick / 9) % (K.os.length : Int))) ∧ Below w.heap.size w w' := by
  obtain ⟨a, ha⟩ : ∃ a, a = K.tick / 9 := ⟨_, rfl⟩
  obtain ⟨s, hs⟩ : ∃ s, s = a % (K.os.length : Int) := ⟨_, rfl⟩
  have t1 := t.tick
  have t2 := t.l1
  have h1 : K.tick.tdiv 9 = a := by rw [ha]; exact Int.tdiv_eq_ediv_of_nonneg t1.1
  have h2 : IntKind.i64.wrap a = a := IntWalk.i64_in _ (by omega)
  have h3 : a.tmod (n1 : Int) = s := by rw [hs, hl]; exact Int.tmod_eq_emod_of_nonneg (by omega)
  have sl := t.slot
  have h4 : IntKind.i64.wrap s = s := IntWalk.i64_in _ (by rw [hs, ha]; omega)
  have hn : ¬ ((n1 : Int) = 0) := by omega
  have hn' : n1 ≠ 0 := by omega
  have HS := Lib.hid (show s = (K.tick / 9) % (K.os.length : Int) by rw [hs, ha])
  have KK : Hid (∀ n, Below w.heap.size w (w.drewN n)) := fun _ => ⟨rfl, rfl, rfl, Nat.le_refl _, fun _ _ => rfl⟩
  clear ha hs t1 t2 sl hl t
  go_enter Tryz.func106, Tryz.ntmps106
  go_wp2_with fail
  go_quiet (fail)
  go_wp2
  go_ret
  exact ⟨ret_i64 HS.out, KK.out _⟩

set_option maxHeartbeats 2000000 in
theorem l8Who8_any (g lo hi : Nat) (A1 : Option Addr) (n1 c1 : Nat) (A2 : Option Addr) (c2 : Nat) (A3 : Option Addr) (c3 : Nat) (K : Ker) (w : World) (hbox : w.heap[g]? = some (.cells #[.slice A1 n1 c1, .slice A2 4 c2, .slice A3 4 c3, .int .i64 K.tick, .int .i64 K.run] 39 (0, 0))) (h : KRead w lo hi A1 n1 A2 4 A3 4 K) (t : FX K) :
    Calls Tryz.prog 63 #[.pointer (some ⟨g, 0, none⟩)] w fun e w' => e = .returned (.int .i64 (who8 K)) ∧ Below w.heap.size w w' := by
  have HR := Lib.hid h
  have TT := Lib.hid t
  obtain ⟨⟨l1, _, _⟩, s1, _, s3⟩ := h
  obtain ⟨s, hs⟩ : ∃ s : Nat, s = ((K.tick / 9) % (K.os.length : Int)).toNat := ⟨_, rfl⟩
  have es : (K.tick / 9) % (K.os.length : Int) = (s : Int) := by have := t.slot; omega
  have hsn : s < n1 := by have := t.slot; omega
  obtain ⟨o, ho⟩ : ∃ o, o = own3 K := ⟨_, rfl⟩
  have HO := Lib.hid ho
  have TO := Lib.hid (show o = -1 ∨ (0 ≤ o ∧ o < 4) by rw [ho]; exact t.own)
  have TK0 := t.tick
  obtain ⟨b, off, hA1, _, _, hc⟩ := s1.at_ hsn
  have c0' := hc s hsn
  rw [show gi K.os s = o by rw [ho]; unfold own3; rw [← hs]] at c0'
  obtain ⟨b3, o3, hA3, _, _, hc3⟩ := s3.at_ (show 0 < 4 * 4 by omega)
  have C3 := Lib.hid hc3
  have LB3 : Hid (b3 < w.heap.size) := World.block_lt_of_cell? _ _ (hc3 0 (by omega))
  have hg : g < w.heap.size := (Array.getElem?_eq_some_iff.1 hbox).1
  obtain ⟨w1, hw1⟩ : ∃ w1, w1 = w := ⟨_, rfl⟩
  have BW : Hid (Below w.heap.size w w1) := by show _; rw [hw1]; exact Below.refl _ _
  have FC : Hid (∀ W, Below w.heap.size w W → (W.cell? ⟨g, 0, none⟩ = some (.slice (some ⟨b, off, none⟩) n1 c1) ∧ W.cell? ⟨g, 2, none⟩ = some (.slice (some ⟨b3, o3, none⟩) 4 c3) ∧ W.cell? ⟨g, 3, none⟩ = some (.int .i64 K.tick) ∧ W.cell? ⟨g, 4, none⟩ = some (.int .i64 K.run)) ∧ W.cell? ⟨b, off + s, none⟩ = some (.int .i64 o)) := fun W hW => by
    have k := (hW.block g hg).trans hbox
    rw [hA1, hA3] at k
    exact ⟨⟨cell_of_row W g 0 _ _ _ k, cell_of_row W g 2 _ _ _ k, cell_of_row W g 3 _ _ _ k, cell_of_row W g 4 _ _ _ k⟩, (hW.cell (World.block_lt_of_cell? _ _ c0')).trans c0'⟩
  obtain ⟨ph, hph⟩ : ∃ ph, ph = K.tick % 9 := ⟨_, rfl⟩
  have HP := Lib.hid hph
  have PH : Hid (∀ W, Below w.heap.size w W → Calls Tryz.prog 105 #[.pointer (some ⟨g, 0, none⟩)] W fun e w' => e = .returned (.int .i64 ph) ∧ W = w') := fun W hW => by
    rw [hph]; exact specPhase_any g K.tick W TK0.1 (FC.out W hW).1.2.2.1
  have SC : Hid (∀ W, Below w.heap.size w W → Calls Tryz.prog 106 #[.pointer (some ⟨g, 0, none⟩)] W fun e w' => e = .returned (.int .i64 (s : Int)) ∧ Below w.heap.size w w') := fun W hW => by
    have := specSlot8_any g _ n1 c1 K W (FC.out W hW).1.1 (FC.out W hW).1.2.2.1 l1 TT.out
    rw [es] at this
    exact this.mono fun e w' ⟨x, y⟩ => ⟨x, hW.trans (y.mono hW.size)⟩
  have z0 : (0 : Int) ≤ (s : Int) := by omega
  have z1 : (s : Int) < (n1 : Int) := by omega
  clear hbox s1 s3 hc hc3 c0' hA1 hA3 hs es hsn l1 t hg hph TK0 ho
  subst hw1
  obtain ⟨⟨q0, q2, q3, q4⟩, c0⟩ := FC.out w1 BW.out
  by_cases hp : ph = 0
  · subst hp
    go_enter Tryz.func63, Tryz.ntmps63
    go_wp2_with fail
    refine (PH.out _ BW.out).mono ?_
    rintro e w2 ⟨rfl, rfl⟩
    go_upto_region 3 with (fail)
    go_cut [3] from 4 (fun v wx => v = .int .i64 o ∧ Below w1.heap.size w1 wx)
    case first =>
      focus
        have KH : Hid (∀ W, Below w1.heap.size w1 W → ((W.cell? ⟨g, 0, none⟩ = some (.slice (some ⟨b, off, none⟩) n1 c1) ∧ W.cell? ⟨g, 2, none⟩ = some (.slice (some ⟨b3, o3, none⟩) 4 c3) ∧ W.cell? ⟨g, 3, none⟩ = some (.int .i64 K.tick) ∧ W.cell? ⟨g, 4, none⟩ = some (.int .i64 K.run)) ∧ W.cell? ⟨b, off + s, none⟩ = some (.int .i64 o)) ∧ Below w1.heap.size w1 W) := fun W hW => ⟨FC.out W hW, hW⟩
        go_region_held3 (fun W => ((W.cell? ⟨g, 0, none⟩ = some (.slice (some ⟨b, off, none⟩) n1 c1) ∧ W.cell? ⟨g, 2, none⟩ = some (.slice (some ⟨b3, o3, none⟩) 4 c3) ∧ W.cell? ⟨g, 3, none⟩ = some (.int .i64 K.tick) ∧ W.cell? ⟨g, 4, none⟩ = some (.int .i64 K.run)) ∧ W.cell? ⟨b, off + s, none⟩ = some (.int .i64 o)) ∧ Below w1.heap.size w1 W) (first | with_reducible exact KH.out _ (by assumption) | exact KH.out _ (Below.drew BW.out)) (first | (go_at_call 106; with_reducible refine (SC.out _ (by go_split_ands; assumption)).mono ?_; rintro e w' ⟨rfl, hb9⟩))
        all_goals (go_wp2_with fail; go_meet; exact ⟨rfl, by assumption⟩)
    case rest =>
      obtain ⟨rfl, hbw⟩ := hcut
      obtain ⟨w4, hw4⟩ : ∃ w4, w4 = wc := ⟨_, rfl⟩
      subst hw4
      have B4 := Lib.hid hbw
      clear hbw q0 q2 q3 q4 c0
      obtain ⟨⟨q0, q2, q3, q4⟩, c0⟩ := FC.out w4 B4.out
      by_cases h1 : o = -1
      · have HWH : Hid (who8 K = -1) := by show _ = _; unfold who8; rw [← HP.out, if_neg (by simp), ← HO.out, if_pos h1]
        subst h1
        go_wp2
        go_ret
        exact ⟨ret_i64 HWH.out.symm, B4.out⟩
      · obtain ⟨e, he⟩ : ∃ e : Nat, o = (e : Int) := ⟨o.toNat, by have := TO.out; omega⟩
        have he4 : e < 4 := by have := TO.out; omega
        have HE : Hid (¬ own3 K = -1 ∧ (own3 K).toNat = e ∧ own3 K = (e : Int)) := by show _ ∧ _ ∧ _; rw [← HO.out]; exact ⟨h1, by omega, he⟩
        subst he
        have y0 : (0 : Int) ≤ (e : Int) := by omega
        have y1 : (e : Int) < 4 := by omega
        have y2 : ((e : Int) == -1) = false := by first | (simp; done) | (simp; omega)
        have a3 : w4.cell? ⟨b3, o3 + e * 4 + 3, none⟩ = some (.int .i64 (gi K.ac (e * 4 + 3))) := ((B4.out).cell (p := ⟨b3, o3 + (e * 4 + 3), none⟩) LB3.out).trans (C3.out (e * 4 + 3) (by omega))
        clear h1
        by_cases hd : 0 < gi K.ac (e * 4 + 3)
        · have HWH : Hid (who8 K = -1) := by show _ = _; unfold who8; rw [← HP.out, if_neg (by simp), if_neg HE.out.1, HE.out.2.1, if_pos hd]
          go_wp2
          go_ret
          exact ⟨ret_i64 HWH.out.symm, B4.out⟩
        · have HWH : Hid (who8 K = (e : Int)) := by show _ = _; unfold who8; rw [← HP.out, if_neg (by simp), if_neg HE.out.1, HE.out.2.1, if_neg hd, HE.out.2.2]
          go_wp2
          go_ret
          exact ⟨ret_i64 HWH.out.symm, B4.out⟩
  · have y : (ph != 0) = true := by simp [hp]
    have HWH : Hid (who8 K = K.run) := by show _ = _; unfold who8; rw [← HP.out, if_pos hp]
    go_enter Tryz.func63, Tryz.ntmps63
    go_wp2_with fail
    refine (PH.out _ BW.out).mono ?_
    rintro e w2 ⟨rfl, rfl⟩
    go_wp2
    go_ret
    exact ⟨ret_i64 HWH.out.symm, BW.out⟩

set_option maxHeartbeats 2000000 in
theorem specWhoActs_any (lo hi : Nat) (A1 : Option Addr) (n1 c1 : Nat) (A2 : Option Addr) (n2 c2 : Nat) (A3 : Option Addr) (n3 c3 : Nat) (K : Ker) (w : World) (hn1 : n1 * 8 ≤ 140737488351232) (hn3 : n3 * 32 ≤ 140737488351232) (h : KRead w lo hi A1 n1 A2 n2 A3 n3 K) :
    Calls Tryz.prog 29 #[.agg #[.slice A1 n1 c1, .slice A2 n2 c2, .slice A3 n3 c3, .int .i64 K.tick, .int .i64 K.run]] w fun e w' => e = .returned (.agg #[.int .i64 (whoA K).1, .int .i64 (whoA K).2]) ∧ Below w.heap.size w w' := by
  obtain ⟨w1, hw1⟩ : ∃ w1, w1 = (w.alloc (.cells #[.slice A1 n1 c1, .slice A2 n2 c2, .slice A3 n3 c3, .int .i64 K.tick, .int .i64 K.run] 39)).alloc (.cells #[.int .i64 0, .int .i64 0] 29) := ⟨_, rfl⟩
  have k1 : w1.heap[w.heap.size]? = some (.cells #[.slice A1 n1 c1, .slice A2 n2 c2, .slice A3 n3 c3, .int .i64 K.tick, .int .i64 K.run] 39 (0, 0)) := by rw [hw1]; exact heap_alloc2_old w _ _
  have kz : w1.heap[w.heap.size + 1]? = some (.cells #[.int .i64 0, .int .i64 0] 29 (0, 0)) := by rw [hw1]; exact heap_alloc2_new w _ _
  have B1 : Hid (Below w.heap.size w w1) := by rw [hw1]; exact (below_new w _).alloc (by simp) _
  have Z1 : Hid (w1.heap.size = w.heap.size + 2) := by show _ = _; rw [hw1]; simp
  have HR := Lib.hid (h.lt.below B1.out (Nat.min_le_right _ _))
  have KZ := Lib.hid kz; have K1 := Lib.hid k1
  have HW1 := Lib.hid hw1
  have HL := Lib.hid h.1
  obtain ⟨q, hq⟩ : ∃ q, q = kf K := ⟨_, rfl⟩
  have HQ := Lib.hid hq
  have KF : Hid (Calls Tryz.prog 44 #[.agg #[.slice A1 n1 c1, .slice A2 n2 c2, .slice A3 n3 c3, .int .i64 K.tick, .int .i64 K.run]] w1 fun e w' => e = .returned (.int .i64 q) ∧ Below w1.heap.size w1 w') := by
    show Calls _ _ _ _ _
    rw [hq]
    exact specKernelFault_any lo (min hi w.heap.size) A1 n1 c1 A2 n2 c2 A3 n3 c3 K.tick K.run K w1 hn1 hn3 HR.out rfl rfl
  have q0 := cell_of_row w1 _ 0 _ _ _ k1; have q1 := cell_of_row w1 _ 1 _ _ _ k1; have q2 := cell_of_row w1 _ 2 _ _ _ k1; have q3 := cell_of_row w1 _ 3 _ _ _ k1; have q4 := cell_of_row w1 _ 4 _ _ _ k1
  simp at q0 q1 q2 q3 q4
  clear h hw1 k1 kz hq
  go_enter Tryz.func29, Tryz.ntmps29
  go_upto_region 1 with (fail)
  rw [← HW1.out]
  clear HW1
  go_wp2_with fail
  refine KF.out.mono ?_
  rintro e w2 ⟨rfl, hb⟩
  have B2 := Lib.hid (B1.out.trans (hb.mono (by have := Z1.out; omega)))
  have K2 := Lib.hid ((hb.block w.heap.size (by have := Z1.out; omega)).trans K1.out)
  have KZ2 := Lib.hid ((hb.block (w.heap.size + 1) (by have := Z1.out; omega)).trans KZ.out)
  have Z2 : Hid (w.heap.size + 2 ≤ w2.heap.size) := by have := Z1.out; have := hb.size; show _ ≤ _; omega
  have HR2 := Lib.hid (HR.out.below hb (by have := Z1.out; omega))
  clear hb q0 q1 q2 q3 q4 KF
  by_cases hz : q = 0
  · have FXK := Lib.hid (fx_of (HQ.out.symm.trans hz))
    have HA : Hid (whoA K = (0, who8 K)) := by show _ = _; unfold whoA; rw [if_neg (by rw [← HQ.out]; simp [hz])]
    obtain rfl : n2 = 4 := by have := FXK.out.l2; have := HL.out.2.1; omega
    obtain rfl : n3 = 4 := by have := FXK.out.l3; have := HL.out.2.2; omega
    subst hz
    have k2 := K2.out
    have q0 := cell_of_row w2 _ 0 _ _ _ k2; have q1 := cell_of_row w2 _ 1 _ _ _ k2; have q2 := cell_of_row w2 _ 2 _ _ _ k2; have q3 := cell_of_row w2 _ 3 _ _ _ k2; have q4 := cell_of_row w2 _ 4 _ _ _ k2
    simp at q0 q1 q2 q3 q4
    clear k2
    go_wp2_with fail
    refine (l8Who8_any w.heap.size lo (min hi w.heap.size) A1 n1 c1 A2 c2 A3 c3 K w2 K2.out HR2.out FXK.out).mono ?_
    rintro e w3 ⟨rfl, hb⟩
    have hblk := (hb.block (w.heap.size + 1) (by have := Z2.out; omega)).trans KZ2.out
    have HB := Lib.hid (B2.out.trans (hb.mono (by have := Z2.out; omega)))
    clear hb
    clear q0 q1 q2 q3 q4
    have p0 := cell_of_row _ _ 0 _ _ _ hblk
    have p1 := cell_of_row _ _ 1 _ _ _ hblk
    have f0 := frozen_of_row _ _ 0 _ _ hblk
    have f1 := frozen_of_row _ _ 1 _ _ hblk
    have HK := Lib.hid (fun a b => blk2_set hblk a b)
    simp at p0 p1
    clear hblk
    go_wp2
    refine bodyPost_ret (results_cell_row rfl _ _ (w.heap.size + 1) _ _ _ _ rfl (HK.out _ _) Tryz.underlying29 rfl (by kernel_rfl)) rfl ⟨by rw [HA.out], ?_⟩
    exact (HB.out.setCell (by show w.heap.size ≤ w.heap.size + 1; omega) _).setCell (by show w.heap.size ≤ w.heap.size + 1; omega) _
  · have HA : Hid (whoA K = (q, 0)) := by show _ = _; unfold whoA; rw [if_pos (by rw [← HQ.out]; exact hz), ← HQ.out]
    have y : (q != 0) = true := by simp [hz]
    have hblk := KZ2.out
    have HB := B2
    have p0 := cell_of_row _ _ 0 _ _ _ hblk
    have p1 := cell_of_row _ _ 1 _ _ _ hblk
    have f0 := frozen_of_row _ _ 0 _ _ hblk
    have f1 := frozen_of_row _ _ 1 _ _ hblk
    have HK := Lib.hid (fun a b => blk2_set hblk a b)
    simp at p0 p1
    clear hblk
    go_wp2
    refine bodyPost_ret (results_cell_row rfl _ _ (w.heap.size + 1) _ _ _ _ rfl (HK.out _ _) Tryz.underlying29 rfl (by kernel_rfl)) rfl ⟨by rw [HA.out], ?_⟩
    exact (HB.out.setCell (by show w.heap.size ≤ w.heap.size + 1; omega) _).setCell (by show w.heap.size ≤ w.heap.size + 1; omega) _

end Go.Proofs.YtckapndpefkcgaaGreat
