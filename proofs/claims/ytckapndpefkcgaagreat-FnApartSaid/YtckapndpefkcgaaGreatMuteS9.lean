/-
  MutedEvents, the model's: whole. No conditions beyond that the events can be read.
-/
import Derived.Test.YtckapndpefkcgaaGreatMuteL9
import Derived.Test.YtckapndpefkcgaaGreatRuns9
set_option maxHeartbeats 1000000
namespace Go.Proofs.YtckapndpefkcgaaGreat
open Go.RowKit
set_option maxRecDepth 100000

theorem or_own_lt {t : TypeId} {m : Nat} {w : World} {base n c : Nat} {A : Option Addr} {hs : List Int} (h : OR t m w base A n c hs) : ∀ b, some b = (Value.slice A n c).ownBlock → b < w.heap.size := fun b e => by
  rcases A with _ | ad
  · cases e
  · obtain ⟨b', e1, _, h2⟩ := OR.at_ h (by simp)
    injection e1 with e1
    subst e1
    have e2 : b' = b := Option.some.inj e.symm
    omega
set_option maxHeartbeats 16000000 in
theorem specMutedEvents_any (lo hi : Nat) (A : Option Addr) (n c : Nat) (x : Nat → Int) (mm ev kd : Int) (w : World) (hn : n ≤ 9223372036854775807) (h : Sl w lo hi A (n * 7) (fun k => .int .i64 (x k))) :
    Calls Tryz.prog 19 #[.int .i64 mm, .slice A n c, .int .i64 ev, .int .i64 kd] w (AnsM (mut9 mm x n ev kd) w) := by
  obtain ⟨i0, hi0, hz0, hz1, hz2⟩ := info_parts Tryz.info_EventD
  obtain ⟨w1, hw1⟩ : ∃ w1, w1 = w.alloc (.cells #[.int .i64 0, .slice none 0 0] 46) := ⟨_, rfl⟩
  have K1 : Hid (w1.heap[w.heap.size]? = some (.cells #[.int .i64 0, .slice none 0 0] 46 (0, 0))) := by show _ = _; rw [hw1]; exact heap_alloc_new w _
  have B1 : Hid (Below w.heap.size w w1) := by rw [hw1]; exact below_new w _
  have Z1 : Hid (w1.heap.size = w.heap.size + 1) := by show _ = _; rw [hw1]; simp
  have H := Lib.hid (h.lt.below B1.out (Nat.min_le_right _ _))
  have AS := Lib.hid (l9Asked_any mm A n c ev w1 hn)
  have HW1 := Lib.hid hw1
  obtain ⟨q, hq⟩ : ∃ q, q = ask9 mm n ev := ⟨_, rfl⟩
  rw [← hq] at AS
  have HQ := Lib.hid hq
  clear hw1 h hq
  go_enter Tryz.func19, Tryz.ntmps19
  go_upto_region 1 with (fail)
  rw [← HW1.out]
  clear HW1
  go_wp2_with fail
  refine AS.out.mono ?_
  rintro e w2 ⟨rfl, hb⟩
  have B12 := Lib.hid hb
  have B2 := Lib.hid (B1.out.trans (hb.mono (by have := Z1.out; omega)))
  have K2 := Lib.hid ((hb.block w.heap.size (by have := Z1.out; omega)).trans K1.out)
  have Z2 : Hid (w.heap.size + 1 ≤ w2.heap.size) := by show _ ≤ _; have := Z1.out; have := hb.size; omega
  clear hb AS
  by_cases h0 : q = 0
  case neg =>
    have y : (q != 0) = true := by simp [h0]
    have E : Hid (mut9 mm x n ev kd = (q, [])) := by show _ = _; unfold mut9; rw [← HQ.out, if_pos h0]
    have hblk := K2.out
    have p0 := cell_of_row _ _ 0 _ _ _ hblk
    have p1 := cell_of_row _ _ 1 _ _ _ hblk
    have f0 := frozen_of_row _ _ 0 _ _ hblk
    have f1 := frozen_of_row _ _ 1 _ _ hblk
    have HK := Lib.hid (fun a b => blk2_set hblk a b)
    simp at p0 p1
    clear hblk h0
    go_wp2
    refine bodyPost_ret (results_cell_row rfl _ _ w.heap.size _ _ _ _ rfl (HK.out _ _) Tryz.underlying46 rfl (by kernel_rfl)) rfl ?_
    exact ansM_code E.out ((B2.out.setCell (Nat.le_refl _) _).setCell (Nat.le_refl _) _)
  obtain ⟨_, hm0, hn4⟩ := rk3_good (x := x) (ask9_zero (HQ.out.symm.trans h0)).1
  have N4 := Lib.hid hn4
  obtain ⟨sk0, hlen, hm1, hm2⟩ := sk_new hm0
  have ALL := Lib.hid (mu9_all (x := x) (ev := ev) (kd := kd) sk0 rfl)
  have SK0 := Lib.hid sk0
  have NW := Lib.hid (l3New_any mm w2 ⟨hm1, hm2⟩)
  have HQ0 := Lib.hid (HQ.out.symm.trans h0)
  clear hm0 hn4 hlen hm1 hm2 sk0 HQ
  by_cases hkd : kd ≠ 1 ∧ kd ≠ 2
  · have E : Hid (mut9 mm x n ev kd = (1, [])) := by show _ = _; unfold mut9; rw [if_neg (by simp [HQ0.out]), if_pos hkd]
    have y1 : (kd != 1) = true := by simp [hkd.1]
    have y2 : (kd != 2) = true := by simp [hkd.2]
    have h0' := h0
    subst h0'
    clear hkd
    have hblk := K2.out
    have p0 := cell_of_row _ _ 0 _ _ _ hblk
    have p1 := cell_of_row _ _ 1 _ _ _ hblk
    have f0 := frozen_of_row _ _ 0 _ _ hblk
    have f1 := frozen_of_row _ _ 1 _ _ hblk
    have HK := Lib.hid (fun a b => blk2_set hblk a b)
    simp at p0 p1
    clear hblk h0
    go_wp2
    refine bodyPost_ret (results_cell_row rfl _ _ w.heap.size _ _ _ _ rfl (HK.out _ _) Tryz.underlying46 rfl (by kernel_rfl)) rfl ?_
    exact ansM_code E.out ((B2.out.setCell (Nat.le_refl _) _).setCell (Nat.le_refl _) _)
  have E : Hid (mut9 mm x n ev kd = (0, (mu9 x ev kd (new3 mm) n).2.1)) := by show _ = _; unfold mut9; rw [if_neg (by simp [HQ0.out]), if_neg hkd]
  subst h0
  go_upto_region 4 with (fail)
  go_cut [27] from 14 (fun x27 wx => x27 = .bool false ∧ w2 = wx)
  case first => as_aux_lemma =>
    by_cases e1 : kd = 1
    · have y1 : (kd != 1) = false := by simp [e1]
      clear hkd e1
      go_wp2_with fail
      go_meet
      exact ⟨rfl, rfl⟩
    · have y1 : (kd != 1) = true := by simp [e1]
      have y2 : (kd != 2) = false := by
        have : kd = 2 := by omega
        simp [this]
      clear hkd e1
      go_wp2_with fail
      go_meet
      exact ⟨rfl, rfl⟩
  obtain ⟨rfl, hwx⟩ := hcut
  subst hwx
  clear hkd
  go_wp2_with fail
  refine NW.out.mono ?_
  rintro e w3 ⟨p0, rfl, ho, hbd, hb⟩
  have B3 := Lib.hid (B12.out.trans (hb.mono B12.out.size))
  obtain ⟨w4, hw4⟩ : ∃ w4, w4 = w3.alloc (.cells #[.slice p0.A1 p0.n1 p0.c1, .slice p0.A2 4 p0.c2, .slice p0.A3 4 p0.c3, .int .i64 0, .int .i64 (-1)] 39) := ⟨_, rfl⟩
  obtain ⟨g, hg⟩ : ∃ g, g = w3.heap.size := ⟨_, rfl⟩
  have K4 : w4.heap[g]? = some (.cells #[.slice p0.A1 p0.n1 p0.c1, .slice p0.A2 4 p0.c2, .slice p0.A3 4 p0.c3, .int .i64 0, .int .i64 (-1)] 39 (0, 0)) := by rw [hw4, hg]; exact heap_alloc_new w3 _
  have BN4 : Below w3.heap.size w3 w4 := by rw [hw4]; exact below_new w3 _
  have J4 : Hid (LoopK w1 w4 g p0 (new3 mm)) := by
    have l1 := ho.l1
    obtain ⟨v1, _⟩ := vf_zero SK0.out.v
    have l1 : (new3 mm).os.length = p0.n1 := l1
    have s := hb.size
    have s2 := B12.out.size
    exact ⟨⟨K4, ho.keepB (BN4.block _ (by omega)) (BN4.block _ (by omega)) (BN4.block _ (by omega)), by omega, by omega, by omega⟩, by omega, by omega, B3.out.trans (BN4.mono B3.out.size)⟩
  obtain ⟨w5, hw5⟩ : ∃ w5, w5 = w4.alloc (.cells #[.int .i64 0, .slice none 0 0] 46) := ⟨_, rfl⟩
  obtain ⟨ob, hob⟩ : ∃ ob, ob = w4.heap.size := ⟨_, rfl⟩
  have J0 : Hid (LoopV w1 w5 g p0 (new3 mm) ob none 0 0 []) := by
    have BN5 : Below w4.heap.size w4 w5 := by rw [hw5]; exact below_new w4 _
    exact ⟨J4.out.below BN5, by rw [hw5, hob]; exact heap_alloc_new w4 _, OR.void _ _, by rw [hob]; exact J4.out.bw.size⟩
  have HW4 := Lib.hid hw4; have HG := Lib.hid hg; have HW5 := Lib.hid hw5; have HOB := Lib.hid hob
  clear ho hbd hb hw4 hg K4 BN4 NW J4 hw5 hob
  go_upto_region 7 with (fail)
  rw [← HW4.out, ← HG.out]
  clear HW4 HG
  go_upto_region 8 with (fail)
  rw [← HW5.out, ← HOB.out]
  clear HW5 HOB
  go_wp2_with fail
  go_loopw [12] (fun i wr => ∃ (k : Nat) (p : Kp) (At : Option Addr) (tn tc : Nat), k ≤ n ∧ i = .int .i64 (k : Int) ∧ LoopV w1 wr g p (mu9 x ev kd (new3 mm) k).1 ob At tn tc (mu9 x ev kd (new3 mm) k).2.1) (fun i _ => n - (intOf i).toNat)
  case atStart => exact ⟨0, p0, none, 0, 0, Nat.zero_le _, rfl, J0.out⟩
  case round =>
    obtain ⟨k, p, At, tn, tc, hk, rfl, hJ⟩ := hrel
    have J := Lib.hid hJ
    by_cases hlt : k < n
    · obtain ⟨hs, htk, hle, _, _⟩ := ALL.out k (by have := N4.out; omega)
      have SKk := Lib.hid hs
      have HT : Hid ((mu9 x ev kd (new3 mm) k).1.tick < 100000) := by show _ < _; have := N4.out; omega
      have FXk := Lib.hid (fx_of (kf_of hs))
      have NX : Hid ((mu9 x ev kd (new3 mm) (k + 1)).1 = (muS x ev kd (mu9 x ev kd (new3 mm) k).1 k).2.1) := rfl
      have NY : Hid ((mu9 x ev kd (new3 mm) (k + 1)).2.1 = (mu9 x ev kd (new3 mm) k).2.1 ++ [x (k * 7), muA x ev kd (mu9 x ev kd (new3 mm) k).1 k, muB x ev (mu9 x ev kd (new3 mm) k).1 k, x (k * 7 + 3), x (k * 7 + 4), x (k * 7 + 5), x (k * 7 + 6)]) := rfl
      have TL : Hid (tn ≤ 400) := by
        have l1 := hJ.own.len
        have := N4.out
        show tn ≤ 400
        omega
      generalize (mu9 x ev kd (new3 mm) k).1 = K at *
      generalize (mu9 x ev kd (new3 mm) k).2.1 = ts at *
      obtain ⟨b, off, rfl, h1, h2, hc⟩ := H.out.at_ (show k * 7 < n * 7 by omega)
      have KC : Hid (∀ W, Below w1.heap.size w1 W → W.cell? ⟨b, off + k * 7, none⟩ = some (.int .i64 (x (k * 7))) ∧ W.cell? ⟨b, off + k * 7 + 1, none⟩ = some (.int .i64 (x (k * 7 + 1))) ∧ W.cell? ⟨b, off + k * 7 + 2, none⟩ = some (.int .i64 (x (k * 7 + 2))) ∧ W.cell? ⟨b, off + k * 7 + 3, none⟩ = some (.int .i64 (x (k * 7 + 3))) ∧ W.cell? ⟨b, off + k * 7 + 4, none⟩ = some (.int .i64 (x (k * 7 + 4))) ∧ W.cell? ⟨b, off + k * 7 + 5, none⟩ = some (.int .i64 (x (k * 7 + 5))) ∧ W.cell? ⟨b, off + k * 7 + 6, none⟩ = some (.int .i64 (x (k * 7 + 6)))) := fun W hW => ⟨(hW.cell (p := ⟨b, off + (k * 7), none⟩) (by simp; have := Z1.out; omega)).trans (hc (k * 7) (by omega)), (hW.cell (p := ⟨b, off + (k * 7 + 1), none⟩) (by simp; have := Z1.out; omega)).trans (hc (k * 7 + 1) (by omega)), (hW.cell (p := ⟨b, off + (k * 7 + 2), none⟩) (by simp; have := Z1.out; omega)).trans (hc (k * 7 + 2) (by omega)), (hW.cell (p := ⟨b, off + (k * 7 + 3), none⟩) (by simp; have := Z1.out; omega)).trans (hc (k * 7 + 3) (by omega)), (hW.cell (p := ⟨b, off + (k * 7 + 4), none⟩) (by simp; have := Z1.out; omega)).trans (hc (k * 7 + 4) (by omega)), (hW.cell (p := ⟨b, off + (k * 7 + 5), none⟩) (by simp; have := Z1.out; omega)).trans (hc (k * 7 + 5) (by omega)), (hW.cell (p := ⟨b, off + (k * 7 + 6), none⟩) (by simp; have := Z1.out; omega)).trans (hc (k * 7 + 6) (by omega))⟩
      obtain ⟨ef, hef⟩ : ∃ ef, ef = evf (x (k * 7)) (x (k * 7 + 1)) (x (k * 7 + 2)) (x (k * 7 + 3)) (x (k * 7 + 4)) (x (k * 7 + 5)) (x (k * 7 + 6)) := ⟨_, rfl⟩
      have EF := Lib.hid (fun W => specEventFault_any (x (k * 7)) (x (k * 7 + 1)) (x (k * 7 + 2)) (x (k * 7 + 3)) (x (k * 7 + 4)) (x (k * 7 + 5)) (x (k * 7 + 6)) W)
      rw [← hef] at EF
      have TK : Hid (tk9 x k = decide (ef = 0 ∧ x (k * 7) = 1)) := by show _ = _; rw [hef]; rfl
      have z0 : (0 : Int) ≤ (k : Int) := by omega
      have z1 : (k : Int) < (n : Int) := by omega
      have hn4 : n ≤ 400 := N4.out
      obtain ⟨v0, v1, v2, v3, v4, v5, v6⟩ := KC.out wr J.out.lk.bw
      obtain ⟨wa, hwa⟩ : ∃ wa, wa = wr.alloc (.cells #[.int .i64 (x (k * 7)), .int .i64 (x (k * 7 + 1)), .int .i64 (x (k * 7 + 2)), .int .i64 (x (k * 7 + 3)), .int .i64 (x (k * 7 + 4)), .int .i64 (x (k * 7 + 5)), .int .i64 (x (k * 7 + 6))] 57) := ⟨_, rfl⟩
      obtain ⟨ge, hge⟩ : ∃ ge, ge = wr.heap.size := ⟨_, rfl⟩
      have KE : Hid (∀ V, Below wa.heap.size wa V → V.heap[ge]? = some (.cells #[.int .i64 (x (k * 7)), .int .i64 (x (k * 7 + 1)), .int .i64 (x (k * 7 + 2)), .int .i64 (x (k * 7 + 3)), .int .i64 (x (k * 7 + 4)), .int .i64 (x (k * 7 + 5)), .int .i64 (x (k * 7 + 6))] 57 (0, 0))) := fun V hV => by
        have j : wa.heap[ge]? = some (.cells #[.int .i64 (x (k * 7)), .int .i64 (x (k * 7 + 1)), .int .i64 (x (k * 7 + 2)), .int .i64 (x (k * 7 + 3)), .int .i64 (x (k * 7 + 4)), .int .i64 (x (k * 7 + 5)), .int .i64 (x (k * 7 + 6))] 57 (0, 0)) := by rw [hwa, hge]; exact heap_alloc_new wr _
        exact (hV.block ge (Array.getElem?_eq_some_iff.1 j).1).trans j
      have JA : Hid (LoopV w1 wa g p K ob At tn tc ts) := by rw [hwa]; exact J.out.below (below_new wr _)
      have GN : Hid (ge ≠ g ∧ ge ≠ p.g2 ∧ ge ≠ p.g3 ∧ ge ≠ ob ∧ ∀ b, some b = (Value.slice At tn tc).ownBlock → b ≠ ge) := by
        have l0 := J.out.lk.kb.lt; have l2 := J.out.lk.kb.lt2
        have lb := (Array.getElem?_eq_some_iff.1 J.out.box).1
        exact ⟨by omega, by omega, by omega, by omega, fun b e => by have := or_own_lt J.out.own b e; omega⟩
      have GE : Hid (wr.heap.size ≤ ge) := by show _ ≤ _; omega
      have HWA := Lib.hid hwa; have HGE := Lib.hid hge
      clear hc hef hJ hs htk hle hwa hge
      go_upto_region 12 with (fail)
      rw [← HWA.out, ← HGE.out]
      clear HWA HGE v0 v1 v2 v3 v4 v5 v6 KC
      go_cut [42, 43, 44, 45, 46, 47, 48, 49, 50, 51, 52, 53, 54] from 66 (fun _ _ _ _ _ _ _ _ _ _ _ _ x54 wx => x54 = .bool (isMu x ev K k) ∧ Below wa.heap.size wa wx)
      case first => as_aux_lemma =>
        have EFC := Lib.hid (EF.out wa)
        have WHO : Hid (∀ W, Below wa.heap.size wa W → Calls Tryz.prog 63 #[.pointer (some ⟨g, 0, none⟩)] W fun e w' => e = .returned (.int .i64 (who8 K)) ∧ Below wa.heap.size wa w') := fun W hW => by
          have JB := JA.out.below hW
          exact (l8Who8_any g 0 W.heap.size p.A1 p.n1 p.c1 p.A2 p.c2 p.A3 p.c3 K W JB.lk.kb.box (JB.lk.kb.own.read9 JB.lk.n1) FXk.out).mono fun e w' hh => ⟨hh.1, hW.trans (hh.2.mono hW.size)⟩
        have kb := KE.out wa (Below.refl _ _)
        have v0 := cell_of_row wa _ 0 _ _ _ kb; have v1 := cell_of_row wa _ 1 _ _ _ kb; have v2 := cell_of_row wa _ 2 _ _ _ kb; have v3 := cell_of_row wa _ 3 _ _ _ kb; have v4 := cell_of_row wa _ 4 _ _ _ kb; have v5 := cell_of_row wa _ 5 _ _ _ kb; have v6 := cell_of_row wa _ 6 _ _ _ kb
        simp at v0 v1 v2 v3 v4 v5 v6
        clear kb
        go_wp2_with fail
        refine EFC.out.mono ?_
        rintro e wb ⟨rfl, hb⟩
        have HB := Lib.hid hb
        clear hb EFC v0 v1 v2 v3 v4 v5 v6
        have kb := KE.out wb HB.out
        have v0 := cell_of_row wb _ 0 _ _ _ kb
        simp at v0
        clear kb
        by_cases e0 : ef = 0
        case neg =>
          have y0 : (ef == 0) = false := by simp [e0]
          have EX : Hid (isMu x ev K k = false) := by show _ = _; unfold isMu; rw [TK.out]; simp [e0]
          clear e0
          go_wp2_with fail
          go_meet
          exact ⟨by rw [EX.out], HB.out⟩
        have y0 : (ef == 0) = true := by simp [e0]
        by_cases e1 : x (k * 7) = 1
        case neg =>
          have y1 : (x (k * 7) == 1) = false := by simp [e1]
          have EX : Hid (isMu x ev K k = false) := by show _ = _; unfold isMu; rw [TK.out]; simp [e1]
          clear e0 e1
          go_wp2_with fail
          go_meet
          exact ⟨by rw [EX.out], HB.out⟩
        have y1 : (x (k * 7) == 1) = true := by simp [e1]
        obtain ⟨ow, ho⟩ : ∃ ow, ow = who8 K := ⟨_, rfl⟩
        have WA := Lib.hid (WHO.out wb HB.out)
        rw [← ho] at WA
        have EX : Hid (isMu x ev K k = (ow != ev)) := by
          show _ = _
          unfold isMu acts9
          rw [TK.out, ← ho]
          by_cases e2 : ow = ev <;> simp [e0, e1, e2]
        clear e0 e1 ho WHO
        go_wp2_with fail
        refine WA.out.mono ?_
        rintro e wc ⟨rfl, hb⟩
        have HC := Lib.hid hb
        clear hb WA v0
        go_wp2_with fail
        go_meet
        exact ⟨by rw [EX.out], HC.out⟩
      obtain ⟨rfl, hb⟩ := hcut
      rename World => wx
      have JX := Lib.hid (JA.out.below hb)
      have KX := Lib.hid (KE.out _ hb)
      clear hb JA KE EF
      rcases hy : isMu x ev K k with _ | _
      · have MA : Hid (muA x ev kd K k = x (k * 7 + 1)) := by show _ = _; unfold muA; rw [hy]; rfl
        have MB : Hid (muB x ev K k = x (k * 7 + 2)) := by show _ = _; unfold muB; rw [hy]; rfl
        clear hy
        obtain ⟨s3, hs3⟩ : ∃ s3, s3 = step3 K (x (k * 7)) (x (k * 7 + 1)) (x (k * 7 + 2)) (x (k * 7 + 3)) (x (k * 7 + 4)) (x (k * 7 + 5)) (x (k * 7 + 6)) := ⟨_, rfl⟩
        have SE : Hid (muS x ev kd K k = s3) := by show _ = _; unfold muS; rw [MA.out, MB.out, hs3]
        have EVC : Hid (∀ W At tn tc ts, LoopV w1 W g p K ob At tn tc ts → W.heap[ge]? = some (.cells #[.int .i64 (x (k * 7)), .int .i64 (x (k * 7 + 1)), .int .i64 (x (k * 7 + 2)), .int .i64 (x (k * 7 + 3)), .int .i64 (x (k * 7 + 4)), .int .i64 (x (k * 7 + 5)), .int .i64 (x (k * 7 + 6))] 57 (0, 0)) → Calls Tryz.prog 64 #[.pointer (some ⟨g, 0, none⟩), .pointer (some ⟨ge, 0, none⟩)] W fun r w' => ∃ (p' : Kp) (A' : Option Addr) (mq cq : Nat), r = .returned (.tuple #[.int .i64 s3.1, .slice A' mq cq]) ∧ LoopV w1 w' g p' s3.2.1 ob At tn tc ts) := fun W At tn tc ts hJ j => by
          refine (l3Event_any hJ.lk.kb SKk.out HT.out ge 0 (x (k * 7)) (x (k * 7 + 1)) (x (k * 7 + 2)) (x (k * 7 + 3)) (x (k * 7 + 4)) (x (k * 7 + 5)) (x (k * 7 + 6)) ⟨GN.out.1, GN.out.2.1, GN.out.2.2.1⟩ ⟨cell_of_row W _ 0 _ _ _ j, cell_of_row W _ 1 _ _ _ j, cell_of_row W _ 2 _ _ _ j, cell_of_row W _ 3 _ _ _ j, cell_of_row W _ 4 _ _ _ j, cell_of_row W _ 5 _ _ _ j, cell_of_row W _ 6 _ _ _ j⟩).mono ?_
          rintro e wz ⟨p', A', mq, cq, rfl, _, hkb, hg1, hg2, hg3, hkk⟩
          rw [hs3]
          exact ⟨p', A', mq, cq, rfl, hJ.event hkb (step3_sk SKk.out HT.out (x (k * 7)) (x (k * 7 + 1)) (x (k * 7 + 2)) (x (k * 7 + 3)) (x (k * 7 + 4)) (x (k * 7 + 5)) (x (k * 7 + 6))).1 hg1 hg2 hg3 hkk⟩
        clear hs3
        go_upto_region 14 with (fail)
        have NWc := Lib.hid (list_new3 wx [.int .i64 (x (k * 7)), .int .i64 (x (k * 7 + 1)), .int .i64 (x (k * 7 + 2)), .int .i64 (x (k * 7 + 3)), .int .i64 (x (k * 7 + 4)), .int .i64 (x (k * 7 + 5)), .int .i64 (x (k * 7 + 6))] 57)
        have OA := Lib.hid (OR.alloc JX.out.own (.cells #[.int .i64 (x (k * 7)), .int .i64 (x (k * 7 + 1)), .int .i64 (x (k * 7 + 2)), .int .i64 (x (k * 7 + 3)), .int .i64 (x (k * 7 + 4)), .int .i64 (x (k * 7 + 5)), .int .i64 (x (k * 7 + 6))] 57))
        have ZA := Lib.hid (show w1.heap.size ≤ (wx.alloc (.cells #[.int .i64 (x (k * 7)), .int .i64 (x (k * 7 + 1)), .int .i64 (x (k * 7 + 2)), .int .i64 (x (k * 7 + 3)), .int .i64 (x (k * 7 + 4)), .int .i64 (x (k * 7 + 5)), .int .i64 (x (k * 7 + 6))] 57)).heap.size by have := JX.out.lk.bw.size; simp; omega)
        have HA := Lib.hid ((Below.heap_alloc wx (.cells #[.int .i64 (x (k * 7)), .int .i64 (x (k * 7 + 1)), .int .i64 (x (k * 7 + 2)), .int .i64 (x (k * 7 + 3)), .int .i64 (x (k * 7 + 4)), .int .i64 (x (k * 7 + 5)), .int .i64 (x (k * 7 + 6))] 57) ob (Array.getElem?_eq_some_iff.1 JX.out.box).1).trans JX.out.box)
        have HE := Lib.hid ((Below.heap_alloc wx (.cells #[.int .i64 (x (k * 7)), .int .i64 (x (k * 7 + 1)), .int .i64 (x (k * 7 + 2)), .int .i64 (x (k * 7 + 3)), .int .i64 (x (k * 7 + 4)), .int .i64 (x (k * 7 + 5)), .int .i64 (x (k * 7 + 6))] 57) ge (Array.getElem?_eq_some_iff.1 KX.out).1).trans KX.out)
        have o1 := cell_of_row wx _ 1 _ _ _ JX.out.box
        have a1 := cell_of_row (wx.alloc (.cells #[.int .i64 (x (k * 7)), .int .i64 (x (k * 7 + 1)), .int .i64 (x (k * 7 + 2)), .int .i64 (x (k * 7 + 3)), .int .i64 (x (k * 7 + 4)), .int .i64 (x (k * 7 + 5)), .int .i64 (x (k * 7 + 6))] 57)) _ 1 _ _ _ HA.out
        have kb := KX.out
        have v0 := cell_of_row wx _ 0 _ _ _ kb; have v1 := cell_of_row wx _ 1 _ _ _ kb; have v2 := cell_of_row wx _ 2 _ _ _ kb; have v3 := cell_of_row wx _ 3 _ _ _ kb; have v4 := cell_of_row wx _ 4 _ _ _ kb; have v5 := cell_of_row wx _ 5 _ _ _ kb; have v6 := cell_of_row wx _ 6 _ _ _ kb
        simp at o1 a1 v0 v1 v2 v3 v4 v5 v6
        clear kb
        go_upto_region 15 with (at_builtin; refine wpList_append_own _ rfl (.tmp 59) (.tmp 61) 24 rfl w1.heap.size 57 i0 (.agg #[.int .i64 0, .int .i64 0, .int .i64 0, .int .i64 0, .int .i64 0, .int .i64 0, .int .i64 0]) 7 56 Tryz.underlying24 hi0 hz0 hz1 hz2 rfl (by decide) (.slice At tn tc) tn _ rfl OA.out ⟨wx.heap.size, 0, none⟩ 1 1 [.int .i64 (x (k * 7)), .int .i64 (x (k * 7 + 1)), .int .i64 (x (k * 7 + 2)), .int .i64 (x (k * 7 + 3)), .int .i64 (x (k * 7 + 4)), .int .i64 (x (k * 7 + 5)), .int .i64 (x (k * 7 + 6))] rfl rfl NWc.out (by simp [Value.oneCell']) (by have := TL.out; unfold maxLen; omega) (by have := TL.out; omega) ZA.out ?_; intro v' wd hown hgrow hat; rw [show vals ts ++ [.int .i64 (x (k * 7)), .int .i64 (x (k * 7 + 1)), .int .i64 (x (k * 7 + 2)), .int .i64 (x (k * 7 + 3)), .int .i64 (x (k * 7 + 4)), .int .i64 (x (k * 7 + 5)), .int .i64 (x (k * 7 + 6))] = vals (ts ++ [x (k * 7), x (k * 7 + 1), x (k * 7 + 2), x (k * 7 + 3), x (k * 7 + 4), x (k * 7 + 5), x (k * 7 + 6)]) by simp [vals]] at hown; obtain ⟨A', c', rfl, hown⟩ := or_of3 hown; have K7 := (hgrow.block ob (Array.getElem?_eq_some_iff.1 HA.out).1 (own_ne3 HA.out (by decide) OA.out)).trans HA.out; have y6 := cell_of_row wd _ 1 _ _ _ K7; have f6 := frozen_of_row wd _ 1 _ _ K7; simp at y6; have HO := Lib.hid hown; have HGR := Lib.hid hgrow; clear hown hgrow hat K7)
        obtain ⟨we, hwe⟩ : ∃ we, we = wd.setCell ⟨ob, 1, none⟩ (.slice A' (tn + 1) c') := ⟨_, rfl⟩
        have JE : Hid (LoopV w1 we g p K ob A' (tn + 1) c' (ts ++ [x (k * 7), x (k * 7 + 1), x (k * 7 + 2), x (k * 7 + 3), x (k * 7 + 4), x (k * 7 + 5), x (k * 7 + 6)])) := by rw [hwe]; exact JX.out.add (x (k * 7)) (x (k * 7 + 1)) (x (k * 7 + 2)) (x (k * 7 + 3)) (x (k * 7 + 4)) (x (k * 7 + 5)) (x (k * 7 + 6)) HO.out HGR.out
        have KEe : Hid (we.heap[ge]? = some (.cells #[.int .i64 (x (k * 7)), .int .i64 (x (k * 7 + 1)), .int .i64 (x (k * 7 + 2)), .int .i64 (x (k * 7 + 3)), .int .i64 (x (k * 7 + 4)), .int .i64 (x (k * 7 + 5)), .int .i64 (x (k * 7 + 6))] 57 (0, 0))) := by
          show _ = _
          rw [hwe]
          refine (Below.heap_setCell _ ⟨ob, 1, none⟩ _ _ GN.out.2.2.2.1).trans ((HGR.out.block ge (Array.getElem?_eq_some_iff.1 HE.out).1 (fun e => GN.out.2.2.2.2 ge e rfl)).trans HE.out)
        have HWE := Lib.hid hwe
        clear hwe o1 a1 y6 f6 v0 v1 v2 v3 v4 v5 v6
        rw [← HWE.out]
        clear HWE
        go_wp2_with fail
        refine (EVC.out _ _ _ _ _ JE.out KEe.out).mono ?_
        rintro e wz ⟨p', A2, mq, cq, rfl, hz⟩
        have JZ := Lib.hid hz
        clear hz EVC
        go_wp2
        go_roundw
        case rel => exact ⟨k + 1, p', A', tn + 1, c', by omega, by go_num, by rw [NX.out, NY.out, SE.out, MA.out, MB.out]; exact JZ.out⟩
        case measure => simp [intOf]; omega
      · have MA : Hid (muA x ev kd K k = kd) := by show _ = _; unfold muA; rw [hy]; rfl
        have MB : Hid (muB x ev K k = 0) := by show _ = _; unfold muB; rw [hy]; rfl
        clear hy
        obtain ⟨s3, hs3⟩ : ∃ s3, s3 = step3 K (x (k * 7)) (kd) (0) (x (k * 7 + 3)) (x (k * 7 + 4)) (x (k * 7 + 5)) (x (k * 7 + 6)) := ⟨_, rfl⟩
        have SE : Hid (muS x ev kd K k = s3) := by show _ = _; unfold muS; rw [MA.out, MB.out, hs3]
        have EVC : Hid (∀ W At tn tc ts, LoopV w1 W g p K ob At tn tc ts → W.heap[ge]? = some (.cells #[.int .i64 (x (k * 7)), .int .i64 (kd), .int .i64 (0), .int .i64 (x (k * 7 + 3)), .int .i64 (x (k * 7 + 4)), .int .i64 (x (k * 7 + 5)), .int .i64 (x (k * 7 + 6))] 57 (0, 0)) → Calls Tryz.prog 64 #[.pointer (some ⟨g, 0, none⟩), .pointer (some ⟨ge, 0, none⟩)] W fun r w' => ∃ (p' : Kp) (A' : Option Addr) (mq cq : Nat), r = .returned (.tuple #[.int .i64 s3.1, .slice A' mq cq]) ∧ LoopV w1 w' g p' s3.2.1 ob At tn tc ts) := fun W At tn tc ts hJ j => by
          refine (l3Event_any hJ.lk.kb SKk.out HT.out ge 0 (x (k * 7)) (kd) (0) (x (k * 7 + 3)) (x (k * 7 + 4)) (x (k * 7 + 5)) (x (k * 7 + 6)) ⟨GN.out.1, GN.out.2.1, GN.out.2.2.1⟩ ⟨cell_of_row W _ 0 _ _ _ j, cell_of_row W _ 1 _ _ _ j, cell_of_row W _ 2 _ _ _ j, cell_of_row W _ 3 _ _ _ j, cell_of_row W _ 4 _ _ _ j, cell_of_row W _ 5 _ _ _ j, cell_of_row W _ 6 _ _ _ j⟩).mono ?_
          rintro e wz ⟨p', A', mq, cq, rfl, _, hkb, hg1, hg2, hg3, hkk⟩
          rw [hs3]
          exact ⟨p', A', mq, cq, rfl, hJ.event hkb (step3_sk SKk.out HT.out (x (k * 7)) (kd) (0) (x (k * 7 + 3)) (x (k * 7 + 4)) (x (k * 7 + 5)) (x (k * 7 + 6))).1 hg1 hg2 hg3 hkk⟩
        clear hs3
        obtain ⟨wy, hwy⟩ : ∃ wy, wy = ((wx.setCell ⟨ge, 1, none⟩ (.int .i64 kd)).setCell ⟨ge, 2, none⟩ (.int .i64 0)) := ⟨_, rfl⟩
        have KY : Hid (wy.heap[ge]? = some (.cells #[.int .i64 (x (k * 7)), .int .i64 (kd), .int .i64 (0), .int .i64 (x (k * 7 + 3)), .int .i64 (x (k * 7 + 4)), .int .i64 (x (k * 7 + 5)), .int .i64 (x (k * 7 + 6))] 57 (0, 0))) := by
          show _ = _
          rw [hwy]
          exact heap_setCell_same _ _ 2 _ _ _ (heap_setCell_same _ _ 1 _ _ _ KX.out)
        have JY : Hid (LoopV w1 wy g p K ob At tn tc ts) := by
          rw [hwy]
          exact J.out.mod JX.out GE.out (((Kept.refl [ge] wx).setCell (by simp) _).setCell (by simp) _)
        have HWY := Lib.hid hwy
        have kx := KX.out
        have c1 := cell_of_row wx _ 1 _ _ _ kx; have c2 := cell_of_row wx _ 2 _ _ _ kx; have f1 := frozen_of_row wx _ 1 _ _ kx; have f2 := frozen_of_row wx _ 2 _ _ kx
        simp at c1 c2
        clear hwy kx
        go_upto_region 14 with (fail)
        rw [← HWY.out]
        clear HWY c1 c2 f1 f2 JX KX
        have NWc := Lib.hid (list_new3 wy [.int .i64 (x (k * 7)), .int .i64 (kd), .int .i64 (0), .int .i64 (x (k * 7 + 3)), .int .i64 (x (k * 7 + 4)), .int .i64 (x (k * 7 + 5)), .int .i64 (x (k * 7 + 6))] 57)
        have OA := Lib.hid (OR.alloc JY.out.own (.cells #[.int .i64 (x (k * 7)), .int .i64 (kd), .int .i64 (0), .int .i64 (x (k * 7 + 3)), .int .i64 (x (k * 7 + 4)), .int .i64 (x (k * 7 + 5)), .int .i64 (x (k * 7 + 6))] 57))
        have ZA := Lib.hid (show w1.heap.size ≤ (wy.alloc (.cells #[.int .i64 (x (k * 7)), .int .i64 (kd), .int .i64 (0), .int .i64 (x (k * 7 + 3)), .int .i64 (x (k * 7 + 4)), .int .i64 (x (k * 7 + 5)), .int .i64 (x (k * 7 + 6))] 57)).heap.size by have := JY.out.lk.bw.size; simp; omega)
        have HA := Lib.hid ((Below.heap_alloc wy (.cells #[.int .i64 (x (k * 7)), .int .i64 (kd), .int .i64 (0), .int .i64 (x (k * 7 + 3)), .int .i64 (x (k * 7 + 4)), .int .i64 (x (k * 7 + 5)), .int .i64 (x (k * 7 + 6))] 57) ob (Array.getElem?_eq_some_iff.1 JY.out.box).1).trans JY.out.box)
        have HE := Lib.hid ((Below.heap_alloc wy (.cells #[.int .i64 (x (k * 7)), .int .i64 (kd), .int .i64 (0), .int .i64 (x (k * 7 + 3)), .int .i64 (x (k * 7 + 4)), .int .i64 (x (k * 7 + 5)), .int .i64 (x (k * 7 + 6))] 57) ge (Array.getElem?_eq_some_iff.1 KY.out).1).trans KY.out)
        have o1 := cell_of_row wy _ 1 _ _ _ JY.out.box
        have a1 := cell_of_row (wy.alloc (.cells #[.int .i64 (x (k * 7)), .int .i64 (kd), .int .i64 (0), .int .i64 (x (k * 7 + 3)), .int .i64 (x (k * 7 + 4)), .int .i64 (x (k * 7 + 5)), .int .i64 (x (k * 7 + 6))] 57)) _ 1 _ _ _ HA.out
        have kb := KY.out
        have v0 := cell_of_row wy _ 0 _ _ _ kb; have v1 := cell_of_row wy _ 1 _ _ _ kb; have v2 := cell_of_row wy _ 2 _ _ _ kb; have v3 := cell_of_row wy _ 3 _ _ _ kb; have v4 := cell_of_row wy _ 4 _ _ _ kb; have v5 := cell_of_row wy _ 5 _ _ _ kb; have v6 := cell_of_row wy _ 6 _ _ _ kb
        simp at o1 a1 v0 v1 v2 v3 v4 v5 v6
        clear kb
        go_upto_region 15 with (at_builtin; refine wpList_append_own _ rfl (.tmp 59) (.tmp 61) 24 rfl w1.heap.size 57 i0 (.agg #[.int .i64 0, .int .i64 0, .int .i64 0, .int .i64 0, .int .i64 0, .int .i64 0, .int .i64 0]) 7 56 Tryz.underlying24 hi0 hz0 hz1 hz2 rfl (by decide) (.slice At tn tc) tn _ rfl OA.out ⟨wy.heap.size, 0, none⟩ 1 1 [.int .i64 (x (k * 7)), .int .i64 (kd), .int .i64 (0), .int .i64 (x (k * 7 + 3)), .int .i64 (x (k * 7 + 4)), .int .i64 (x (k * 7 + 5)), .int .i64 (x (k * 7 + 6))] rfl rfl NWc.out (by simp [Value.oneCell']) (by have := TL.out; unfold maxLen; omega) (by have := TL.out; omega) ZA.out ?_; intro v' wd hown hgrow hat; rw [show vals ts ++ [.int .i64 (x (k * 7)), .int .i64 (kd), .int .i64 (0), .int .i64 (x (k * 7 + 3)), .int .i64 (x (k * 7 + 4)), .int .i64 (x (k * 7 + 5)), .int .i64 (x (k * 7 + 6))] = vals (ts ++ [x (k * 7), kd, 0, x (k * 7 + 3), x (k * 7 + 4), x (k * 7 + 5), x (k * 7 + 6)]) by simp [vals]] at hown; obtain ⟨A', c', rfl, hown⟩ := or_of3 hown; have K7 := (hgrow.block ob (Array.getElem?_eq_some_iff.1 HA.out).1 (own_ne3 HA.out (by decide) OA.out)).trans HA.out; have y6 := cell_of_row wd _ 1 _ _ _ K7; have f6 := frozen_of_row wd _ 1 _ _ K7; simp at y6; have HO := Lib.hid hown; have HGR := Lib.hid hgrow; clear hown hgrow hat K7)
        obtain ⟨we, hwe⟩ : ∃ we, we = wd.setCell ⟨ob, 1, none⟩ (.slice A' (tn + 1) c') := ⟨_, rfl⟩
        have JE : Hid (LoopV w1 we g p K ob A' (tn + 1) c' (ts ++ [x (k * 7), kd, 0, x (k * 7 + 3), x (k * 7 + 4), x (k * 7 + 5), x (k * 7 + 6)])) := by rw [hwe]; exact JY.out.add (x (k * 7)) (kd) (0) (x (k * 7 + 3)) (x (k * 7 + 4)) (x (k * 7 + 5)) (x (k * 7 + 6)) HO.out HGR.out
        have KEe : Hid (we.heap[ge]? = some (.cells #[.int .i64 (x (k * 7)), .int .i64 (kd), .int .i64 (0), .int .i64 (x (k * 7 + 3)), .int .i64 (x (k * 7 + 4)), .int .i64 (x (k * 7 + 5)), .int .i64 (x (k * 7 + 6))] 57 (0, 0))) := by
          show _ = _
          rw [hwe]
          refine (Below.heap_setCell _ ⟨ob, 1, none⟩ _ _ GN.out.2.2.2.1).trans ((HGR.out.block ge (Array.getElem?_eq_some_iff.1 HE.out).1 (fun e => GN.out.2.2.2.2 ge e rfl)).trans HE.out)
        have HWE := Lib.hid hwe
        clear hwe o1 a1 y6 f6 v0 v1 v2 v3 v4 v5 v6
        rw [← HWE.out]
        clear HWE
        go_wp2_with fail
        refine (EVC.out _ _ _ _ _ JE.out KEe.out).mono ?_
        rintro e wz ⟨p', A2, mq, cq, rfl, hz⟩
        have JZ := Lib.hid hz
        clear hz EVC
        go_wp2
        go_roundw
        case rel => exact ⟨k + 1, p', A', tn + 1, c', by omega, by go_num, by rw [NX.out, NY.out, SE.out, MA.out, MB.out]; exact JZ.out⟩
        case measure => simp [intOf]; omega
    · obtain rfl : k = n := by omega
      have hkn : ¬ ((k : Int) < (k : Int)) := by omega
      have RB := Lib.hid ((J.out.lk.bw.block w.heap.size (by have := Z1.out; omega)).trans K1.out)
      have jb := J.out.box
      have o0 := cell_of_row wr _ 0 _ _ _ jb; have o1 := cell_of_row wr _ 1 _ _ _ jb
      have hblk := RB.out
      have p0 := cell_of_row _ _ 0 _ _ _ hblk
      have p1 := cell_of_row _ _ 1 _ _ _ hblk
      have f0 := frozen_of_row _ _ 0 _ _ hblk
      have f1 := frozen_of_row _ _ 1 _ _ hblk
      have HK := Lib.hid (fun a b => blk2_set hblk a b)
      have SZR := Lib.hid (show w.heap.size + 1 ≤ wr.heap.size by have := J.out.lk.bw.size; have := Z1.out; omega)
      simp at o0 o1 p0 p1
      clear jb hblk
      go_wp2
      refine bodyPost_ret (results_cell_row rfl _ _ w.heap.size _ _ _ _ rfl (HK.out _ _) Tryz.underlying46 rfl (by kernel_rfl)) rfl ?_
      exact finM (W := wr) E.out J.out.own (by have := Z1.out; omega) (B1.out.trans (J.out.lk.bw.mono (by have := Z1.out; omega))) RB.out

end Go.Proofs.YtckapndpefkcgaaGreat
