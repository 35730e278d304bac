/-
  MutedEvents, the program's. No conditions beyond that the events can be read.
-/
import Derived.Test.YtckapndpefkcgaaGreatMuteK9
set_option maxHeartbeats 1000000
namespace Go.Proofs.YtckapndpefkcgaaGreat
open Go.RowKit
set_option maxRecDepth 100000

set_option maxHeartbeats 16000000 in
theorem implMutedEvents_any (lo hi : Nat) (A : Option Addr) (n c : Nat) (x : Nat → Int) (mm ev kd : Int) (w : World) (hn : n ≤ 9223372036854775807) (hA : A = none → c = 0) (h : Sl w lo hi A (n * 7) (fun k => .int .i64 (x k))) :
    Calls Tryz.prog 18 #[.int .i64 mm, .slice A n c, .int .i64 ev, .int .i64 kd] w (AnsM (mut9 mm x n ev kd) w) := by
  obtain ⟨w1, hw1⟩ : ∃ w1, w1 = w.alloc (.cells #[.int .i64 0, .slice none 0 0] 46) := ⟨_, rfl⟩
  have K1 : Hid (w1.heap[w.heap.size]? = some (.cells #[.int .i64 0, .slice none 0 0] 46 (0, 0))) := by show _ = _; rw [hw1]; exact heap_alloc_new w _
  have B1 : Hid (Below w.heap.size w w1) := by rw [hw1]; exact below_new w _
  have Z1 : Hid (w1.heap.size = w.heap.size + 1) := by show _ = _; rw [hw1]; simp
  have H := Lib.hid (h.lt.below B1.out (Nat.min_le_right _ _))
  have HA := Lib.hid hA
  have AS := Lib.hid (auditOf_any mm A n c ev w1 hn)
  have HW1 := Lib.hid hw1
  clear hw1 h hA
  go_enter Tryz.func18, Tryz.ntmps18
  go_upto_region 1 with (fail)
  rw [← HW1.out]
  clear HW1
  go_wp2_with fail
  refine AS.out.mono ?_
  rintro e w2 ⟨h, rfl, hh, hbad, hgood, hb⟩
  have B12 := Lib.hid hb
  have B2 := Lib.hid (B1.out.trans (hb.mono (by have := Z1.out; omega)))
  have K2 := Lib.hid ((hb.block w.heap.size (by have := Z1.out; omega)).trans K1.out)
  have H2 := Lib.hid (H.out.below hb (by have := Z1.out; omega))
  clear hb AS
  by_cases h0 : ask9 mm n ev = 0
  case neg =>
    have hk := hbad h0
    clear hgood hbad
    obtain ⟨q, hq⟩ : ∃ q, q = ask9 mm n ev := ⟨_, rfl⟩
    rw [← hq] at hk
    have E : Hid (mut9 mm x n ev kd = (q, [])) := by show _ = _; unfold mut9; rw [if_pos h0, ← hq]
    have y : (q != 0) = true := by simp [hq, h0]
    have c0 := cell_of_row w2 _ 0 _ _ _ hk
    simp at c0
    have hblk := K2.out
    have p0 := cell_of_row _ _ 0 _ _ _ hblk
    have p1 := cell_of_row _ _ 1 _ _ _ hblk
    have f0 := frozen_of_row _ _ 0 _ _ hblk
    have f1 := frozen_of_row _ _ 1 _ _ hblk
    have HK := Lib.hid (fun a b => blk2_set hblk a b)
    simp at p0 p1
    clear hblk h0 hq hk
    go_wp2
    refine bodyPost_ret (results_cell_row rfl _ _ w.heap.size _ _ _ _ rfl (HK.out _ _) Tryz.underlying46 rfl (by kernel_rfl)) rfl ?_
    exact ansM_code E.out ((B2.out.setCell (Nat.le_refl _) _).setCell (Nat.le_refl _) _)
  obtain ⟨p0, hJ⟩ := hgood h0
  have hk := hJ.box
  have c0 := cell_of_row w2 _ 0 _ _ _ hk
  simp at c0
  have J2 := Lib.hid hJ
  have HQ := Lib.hid h0
  clear hbad hgood hJ hk h0
  by_cases hkd : kd ≠ 1 ∧ kd ≠ 2
  · have E : Hid (mut9 mm x n ev kd = (1, [])) := by show _ = _; unfold mut9; rw [if_neg (by simp [HQ.out]), if_pos hkd]
    have y1 : (kd != 1) = true := by simp [hkd.1]
    have y2 : (kd != 2) = true := by simp [hkd.2]
    clear hkd
    have hblk := K2.out
    have p0 := cell_of_row _ _ 0 _ _ _ hblk
    have p1 := cell_of_row _ _ 1 _ _ _ hblk
    have f0 := frozen_of_row _ _ 0 _ _ hblk
    have f1 := frozen_of_row _ _ 1 _ _ hblk
    have HK := Lib.hid (fun a b => blk2_set hblk a b)
    simp at p0 p1
    clear hblk 
    go_wp2
    refine bodyPost_ret (results_cell_row rfl _ _ w.heap.size _ _ _ _ rfl (HK.out _ _) Tryz.underlying46 rfl (by kernel_rfl)) rfl ?_
    exact ansM_code E.out ((B2.out.setCell (Nat.le_refl _) _).setCell (Nat.le_refl _) _)
  have E : Hid (mut9 mm x n ev kd = (0, (mu9 x ev kd (new3 mm) n).2.1)) := by show _ = _; unfold mut9; rw [if_neg (by simp [HQ.out]), if_neg hkd]
  obtain ⟨_, hm0, hn4⟩ := rk3_good (x := x) (ask9_zero HQ.out).1
  have N4 := Lib.hid hn4
  obtain ⟨sk0, hlen, hm1, hm2⟩ := sk_new hm0
  have ALL := Lib.hid (mu9_all (x := x) (ev := ev) (kd := kd) sk0 rfl)
  obtain ⟨xs, hxs⟩ : ∃ xs : List Int, xs = (List.range (n * 7)).map x := ⟨_, rfl⟩
  have XL : Hid (xs.length = n * 7) := by show _ = _; rw [hxs]; simp
  have XG : Hid (∀ j, j < n * 7 → gi xs j = x j) := fun j hj => by rw [hxs, gi_lt _ _ (by simpa using hj)]; simp
  have CV := Lib.hid (cloneV_any lo (min hi w.heap.size) A n c xs w2 (by omega) XL.out HA.out (H2.out.congr fun j hj => by rw [XG.out j hj]))
  clear hm0 hn4 hlen hm1 hm2 sk0 HQ hxs
  go_upto_region 4 with (fail)
  clear c0
  go_cut [33] from 12 (fun x33 wx => x33 = .bool false ∧ w2 = wx)
  case first => as_aux_lemma =>
    by_cases e1 : kd = 1
    · have y1 : (kd != 1) = false := by simp [e1]
      clear hkd e1
      go_wp2_with fail
      go_meet
      exact ⟨rfl, rfl⟩
    · have y1 : (kd != 1) = true := by simp [e1]
      have y2 : (kd != 2) = false := by
        have : kd = 2 := by omega
        simp [this]
      clear hkd e1
      go_wp2_with fail
      go_meet
      exact ⟨rfl, rfl⟩
  obtain ⟨rfl, hwx⟩ := hcut
  subst hwx
  clear hkd
  go_wp2_with fail
  refine CV.out.mono ?_
  rintro e w3 ⟨A', c', rfl, ho, hb⟩
  have CA : Hid (A' = none → c' = 0) := fun e => by subst e; exact (OR.nil0 ho).2
  have J3 := Lib.hid (J2.out.below hb)
  have ST : Hid (∃ GB us, LoopA w1 w3 h p0 (new3 mm) none 0 0 [] none 0 0 [] ev ⟨none, 0, 0, [], GB, 57, us⟩ ∧ (n = 0 ∨ ∃ gb o, A' = some ⟨gb, o, none⟩ ∧ o = 0 ∧ GB = some gb) ∧ GQ x n us [] 0) := by
    rcases Nat.eq_zero_or_pos n with hz | hz
    · exact ⟨none, #[], J3.out, .inl hz, rfl, fun j hj => by omega, fun j _ hj => by omega⟩
    · obtain ⟨gb, rfl, h1, h2⟩ := ho.pos hz
      obtain ⟨us, hu1, hu2⟩ := ho.row
      refine ⟨some gb, us, J3.out.setB (by have := B12.out.size; omega) hu1 (by decide), .inr ⟨gb, 0, rfl, rfl, rfl⟩, rfl, fun j hj => by omega, fun j _ hj => ?_⟩
      have hj2 := hu2 j hj
      rw [Nat.zero_add] at hj2
      exact hj2.trans (by show some (Value.int .i64 (gi xs j)) = _; rw [XG.out j hj])
  obtain ⟨GB, us0, hJ, hgb, hgq⟩ := ST.out
  have J0 := Lib.hid hJ; have GBH := Lib.hid hgb; have GQ0 := Lib.hid hgq
  clear hJ hgb hgq ST J3 J2 CV ho hb
  go_wp2_with fail
  go_loopw [11, 39] (fun _ i wr => ∃ (k : Nat) (p : Kp) (A4 : Option Addr) (c4 : Nat) (A5 : Option Addr) (m c5 : Nat) (us : Array Value), k ≤ n ∧ i = .int .i64 (k : Int) ∧ LoopA w1 wr h p (mu9 x ev kd (new3 mm) k).1 A4 k c4 (mu9 x ev kd (new3 mm) k).2.2.1 A5 m c5 (mu9 x ev kd (new3 mm) k).2.2.2 ev ⟨none, 0, 0, [], GB, 57, us⟩ ∧ GQ x n us (mu9 x ev kd (new3 mm) k).2.1 k) (fun _ i _ => n - (intOf i).toNat)
  case atStart => exact ⟨0, p0, none, 0, none, 0, 0, us0, Nat.zero_le _, rfl, J0.out, GQ0.out⟩
  case round =>
    obtain ⟨k, p, A4, c4, A5, m, c5, us, hk, rfl, hJ, hgq⟩ := hrel
    by_cases hlt : k < n
    · obtain ⟨hs, htk, hle, hlc, hln⟩ := ALL.out k (by have := N4.out; omega)
      have SKk := Lib.hid hs
      have HT : Hid ((mu9 x ev kd (new3 mm) k).1.tick < 100000) := by show _ < _; have := N4.out; omega
      have LN := Lib.hid (show m ≤ 3600 by have := hJ.on.len; have := N4.out; omega)
      have NX : Hid ((mu9 x ev kd (new3 mm) (k + 1)).1 = (muS x ev kd (mu9 x ev kd (new3 mm) k).1 k).2.1 ∧ (mu9 x ev kd (new3 mm) (k + 1)).2.1 = (mu9 x ev kd (new3 mm) k).2.1 ++ [x (k * 7), muA x ev kd (mu9 x ev kd (new3 mm) k).1 k, muB x ev (mu9 x ev kd (new3 mm) k).1 k, x (k * 7 + 3), x (k * 7 + 4), x (k * 7 + 5), x (k * 7 + 6)] ∧ (mu9 x ev kd (new3 mm) (k + 1)).2.2.1 = (mu9 x ev kd (new3 mm) k).2.2.1 ++ [(muS x ev kd (mu9 x ev kd (new3 mm) k).1 k).1] ∧ (mu9 x ev kd (new3 mm) (k + 1)).2.2.2 = (mu9 x ev kd (new3 mm) k).2.2.2 ++ (muS x ev kd (mu9 x ev kd (new3 mm) k).1 k).2.2) := ⟨rfl, rfl, rfl, rfl⟩
      have J := Lib.hid hJ; have GQK := Lib.hid hgq
      clear hJ hgq hs htk hle hlc hln
      generalize (mu9 x ev kd (new3 mm) k).1 = K at *
      generalize (mu9 x ev kd (new3 mm) k).2.1 = es at *
      generalize (mu9 x ev kd (new3 mm) k).2.2.1 = cc at *
      generalize (mu9 x ev kd (new3 mm) k).2.2.2 = nn at *
      obtain ⟨gb, o, rfl, ho, rfl⟩ : ∃ gb o, A' = some ⟨gb, o, none⟩ ∧ o = 0 ∧ GB = some gb := by
        rcases GBH.out with hz | hz
        · omega
        · exact hz
      have HO := Lib.hid ho
      have EC : Hid (∀ W, Below wr.heap.size wr W → W.cell? ⟨gb, o + k * 7, none⟩ = some (.int .i64 (x (k * 7))) ∧ W.cell? ⟨gb, o + k * 7 + 1, none⟩ = some (.int .i64 (x (k * 7 + 1))) ∧ W.cell? ⟨gb, o + k * 7 + 2, none⟩ = some (.int .i64 (x (k * 7 + 2))) ∧ W.cell? ⟨gb, o + k * 7 + 3, none⟩ = some (.int .i64 (x (k * 7 + 3))) ∧ W.cell? ⟨gb, o + k * 7 + 4, none⟩ = some (.int .i64 (x (k * 7 + 4))) ∧ W.cell? ⟨gb, o + k * 7 + 5, none⟩ = some (.int .i64 (x (k * 7 + 5))) ∧ W.cell? ⟨gb, o + k * 7 + 6, none⟩ = some (.int .i64 (x (k * 7 + 6)))) := fun W hW => by
        have j := ((J.out.below hW).ob gb rfl).2.1
        rw [HO.out]
        simp only [Nat.zero_add]
        exact ⟨cell_of_row W _ (k * 7) _ _ _ j |>.trans (GQK.out.2.2 (k * 7) (by omega) (by omega)), cell_of_row W _ (k * 7 + 1) _ _ _ j |>.trans (GQK.out.2.2 (k * 7 + 1) (by omega) (by omega)), cell_of_row W _ (k * 7 + 2) _ _ _ j |>.trans (GQK.out.2.2 (k * 7 + 2) (by omega) (by omega)), cell_of_row W _ (k * 7 + 3) _ _ _ j |>.trans (GQK.out.2.2 (k * 7 + 3) (by omega) (by omega)), cell_of_row W _ (k * 7 + 4) _ _ _ j |>.trans (GQK.out.2.2 (k * 7 + 4) (by omega) (by omega)), cell_of_row W _ (k * 7 + 5) _ _ _ j |>.trans (GQK.out.2.2 (k * 7 + 5) (by omega) (by omega)), cell_of_row W _ (k * 7 + 6) _ _ _ j |>.trans (GQK.out.2.2 (k * 7 + 6) (by omega) (by omega))⟩
      have TKC := Lib.hid (isTick9_any (x (k * 7)) (x (k * 7 + 1)) (x (k * 7 + 2)) (x (k * 7 + 3)) (x (k * 7 + 4)) (x (k * 7 + 5)) (x (k * 7 + 6)) wr)
      have AC : Hid (∀ W, Below wr.heap.size wr W → Calls Tryz.prog 61 #[.pointer (some ⟨h, 0, none⟩)] W fun e w' => e = .returned (.bool (acts9 ev K)) ∧ Below wr.heap.size wr w') := fun W hW =>
        (acts9_any (J.out.below hW) SKk.out).mono fun e w' hh => ⟨hh.1, hW.trans (hh.2.mono hW.size)⟩
      obtain ⟨tk, htk⟩ : ∃ tk, tk = decide (evf (x (k * 7)) (x (k * 7 + 1)) (x (k * 7 + 2)) (x (k * 7 + 3)) (x (k * 7 + 4)) (x (k * 7 + 5)) (x (k * 7 + 6)) = 0 ∧ x (k * 7) = 1) := ⟨_, rfl⟩
      rw [← htk] at TKC
      have IM : Hid (isMu x ev K k = (tk && !(acts9 ev K))) := by show _ = _; rw [htk]; rfl
      have z0 : (0 : Int) ≤ (k : Int) := by omega
      have z1 : (k : Int) < (n : Int) := by omega
      have hn4 : n ≤ 400 := N4.out
      clear htk ho
      go_upto_region 10 with (fail)
      go_cut [42, 43, 44, 45, 46, 47, 48, 49, 50, 51] from 69 (fun _ _ _ _ _ _ _ _ _ x51 wx => x51 = .bool (isMu x ev K k) ∧ Below wr.heap.size wr wx)
      case first => as_aux_lemma =>
        obtain ⟨v0, v1, v2, v3, v4, v5, v6⟩ := EC.out wr (Below.refl _ _)
        go_wp2_with fail
        refine TKC.out.mono ?_
        rintro e wb ⟨rfl, hb⟩
        have HB := Lib.hid hb
        clear hb TKC v0 v1 v2 v3 v4 v5 v6
        rcases tk with _ | _
        · have EX : Hid (isMu x ev K k = false) := IM.out
          go_wp2_with fail
          go_meet
          exact ⟨by rw [EX.out], HB.out⟩
        have EX : Hid (isMu x ev K k = !(acts9 ev K)) := by show _ = _; rw [IM.out, Bool.true_and]
        go_wp2_with fail
        refine (AC.out wb HB.out).mono ?_
        rintro e wc ⟨rfl, hb⟩
        have HC := Lib.hid hb
        clear hb AC
        go_wp2_with fail
        go_meet
        exact ⟨by rw [EX.out], HC.out⟩
      obtain ⟨rfl, hb⟩ := hcut
      rename World => wx
      have JX := Lib.hid (J.out.below hb)
      have HX := Lib.hid (EC.out _ hb)
      clear hb EC AC TKC J
      rcases hy : isMu x ev K k with _ | _
      · have MA : Hid (muA x ev kd K k = x (k * 7 + 1)) := by show _ = _; unfold muA; rw [hy]; rfl
        have MB : Hid (muB x ev K k = x (k * 7 + 2)) := by show _ = _; unfold muB; rw [hy]; rfl
        clear hy
        obtain ⟨s3, hs3⟩ : ∃ s3, s3 = step3 K (x (k * 7)) (x (k * 7 + 1)) (x (k * 7 + 2)) (x (k * 7 + 3)) (x (k * 7 + 4)) (x (k * 7 + 5)) (x (k * 7 + 6)) := ⟨_, rfl⟩
        have SE : Hid (muS x ev kd K k = s3) := by show _ = _; unfold muS; rw [MA.out, MB.out, hs3]
        have HS3 := Lib.hid hs3
        clear hs3
        obtain ⟨hb0, hbk, _⟩ := JX.out.ob gb rfl
        have BK := Lib.hid hbk
        clear hb0 hbk
        have GY : Hid (GQ x n us (es ++ [x (k * 7), x (k * 7 + 1), x (k * 7 + 2), x (k * 7 + 3), x (k * 7 + 4), x (k * 7 + 5), x (k * 7 + 6)]) (k + 1)) := GQK.out.step (by omega) (GQK.out.2.2 _ (by omega) (by omega)) (GQK.out.2.2 _ (by omega) (by omega)) (fun _ _ _ => rfl)
        go_upto_region 12 with (fail)
        obtain ⟨v0, v1, v2, v3, v4, v5, v6⟩ := HX.out
        have MN : Hid (∀ V, Below wx.heap.size wx V → Calls Tryz.prog 58 #[.pointer (some ⟨h, 0, none⟩), .agg #[.int .i64 (x (k * 7)), .int .i64 (x (k * 7 + 1)), .int .i64 (x (k * 7 + 2)), .int .i64 (x (k * 7 + 3)), .int .i64 (x (k * 7 + 4)), .int .i64 (x (k * 7 + 5)), .int .i64 (x (k * 7 + 6))]] V fun e W' => e = .returned (.tuple #[]) ∧ ∃ (p' : Kp) (A4' : Option Addr) (c4' : Nat) (A5' : Option Addr) (m' c5' : Nat), LoopA w1 W' h p' s3.2.1 A4' (k + 1) c4' (cc ++ [s3.1]) A5' m' c5' (nn ++ s3.2.2) ev ⟨none, 0, 0, [], some gb, 57, us⟩) := fun V hV => by
          rw [HS3.out]
          exact meetNextA_any (JX.out.below hV) SKk.out HT.out (by omega) LN.out (x (k * 7)) (x (k * 7 + 1)) (x (k * 7 + 2)) (x (k * 7 + 3)) (x (k * 7 + 4)) (x (k * 7 + 5)) (x (k * 7 + 6))
        obtain ⟨wq, hwq⟩ : ∃ wq, wq = wx := ⟨_, rfl⟩
        go_region_with (refine (MN.out _ (by first | exact Below.refl _ _ | exact (Below.refl _ _).drew | exact (below_drewN (Below.refl _ _) 1))).mono ?_; rintro e wz ⟨rfl, p', A4', c4', A5', m', c5', hj⟩; have JZ := Lib.hid hj; clear hj)
        all_goals
          clear v0 v1 v2 v3 v4 v5 v6 hwq MN
          go_wp2
          go_roundw
          case rel => exact ⟨k + 1, p', A4', c4', A5', m', c5', us, by omega, by go_num, by rw [NX.out.1, NX.out.2.2.1, NX.out.2.2.2, SE.out]; exact JZ.out, by rw [NX.out.2.1, MA.out, MB.out]; exact GY.out⟩
          case measure => simp [intOf]; omega
      · have MA : Hid (muA x ev kd K k = kd) := by show _ = _; unfold muA; rw [hy]; rfl
        have MB : Hid (muB x ev K k = 0) := by show _ = _; unfold muB; rw [hy]; rfl
        clear hy
        obtain ⟨s3, hs3⟩ : ∃ s3, s3 = step3 K (x (k * 7)) (kd) (0) (x (k * 7 + 3)) (x (k * 7 + 4)) (x (k * 7 + 5)) (x (k * 7 + 6)) := ⟨_, rfl⟩
        have SE : Hid (muS x ev kd K k = s3) := by show _ = _; unfold muS; rw [MA.out, MB.out, hs3]
        have HS3 := Lib.hid hs3
        clear hs3
        obtain ⟨hb0, hbk, _⟩ := JX.out.ob gb rfl
        have BK := Lib.hid hbk
        clear hb0 hbk
        obtain ⟨wy, hwy⟩ : ∃ wy, wy = ((wx.setCell ⟨gb, o + k * 7 + 1, none⟩ (.int .i64 kd)).setCell ⟨gb, o + k * 7 + 2, none⟩ (.int .i64 0)) := ⟨_, rfl⟩
        obtain ⟨us', hus⟩ : ∃ us', us' = ((us.setIfInBounds (k * 7 + 1) (.int .i64 kd)).setIfInBounds (k * 7 + 2) (.int .i64 0)) := ⟨_, rfl⟩
        have KY : wy.heap[gb]? = some (.cells us' 57 (0, 0)) := by
          rw [hwy, hus, HO.out, Nat.zero_add]
          exact heap_setCell_same _ _ (k * 7 + 2) _ _ _ (heap_setCell_same _ _ (k * 7 + 1) _ _ _ BK.out)
        have JY : Hid (LoopA w1 wy h p K A4 k c4 cc A5 m c5 nn ev ⟨none, 0, 0, [], some gb, 57, us'⟩) := JX.out.setG (by rw [hwy]; exact ((Kept.refl [gb] wx).setCell (by simp) _).setCell (by simp) _) KY
        have b1 := GQK.out.2.2 (k * 7 + 1) (by omega) (by omega)
        have b2 := GQK.out.2.2 (k * 7 + 2) (by omega) (by omega)
        have l1 := (Array.getElem?_eq_some_iff.1 b1).1
        have l2 := (Array.getElem?_eq_some_iff.1 b2).1
        have GY : Hid (GQ x n us' (es ++ [x (k * 7), kd, 0, x (k * 7 + 3), x (k * 7 + 4), x (k * 7 + 5), x (k * 7 + 6)]) (k + 1)) := GQK.out.step (by omega) (by rw [hus, Array.getElem?_setIfInBounds_ne (by omega), Array.getElem?_setIfInBounds_self_of_lt (by omega)]) (by rw [hus, Array.getElem?_setIfInBounds_self_of_lt (by simp; omega)]) (fun j h1 h2 => by rw [hus, Array.getElem?_setIfInBounds_ne (by omega), Array.getElem?_setIfInBounds_ne (by omega)])
        have EY : Hid (wy.cell? ⟨gb, o + k * 7, none⟩ = some (.int .i64 (x (k * 7))) ∧ wy.cell? ⟨gb, o + k * 7 + 1, none⟩ = some (.int .i64 (kd)) ∧ wy.cell? ⟨gb, o + k * 7 + 2, none⟩ = some (.int .i64 (0)) ∧ wy.cell? ⟨gb, o + k * 7 + 3, none⟩ = some (.int .i64 (x (k * 7 + 3))) ∧ wy.cell? ⟨gb, o + k * 7 + 4, none⟩ = some (.int .i64 (x (k * 7 + 4))) ∧ wy.cell? ⟨gb, o + k * 7 + 5, none⟩ = some (.int .i64 (x (k * 7 + 5))) ∧ wy.cell? ⟨gb, o + k * 7 + 6, none⟩ = some (.int .i64 (x (k * 7 + 6)))) := by
          rw [HO.out]
          simp only [Nat.zero_add]
          have hx : ∀ j, j ≠ k * 7 + 1 → j ≠ k * 7 + 2 → us'[j]? = us[j]? := fun j h1 h2 => by rw [hus, Array.getElem?_setIfInBounds_ne (by omega), Array.getElem?_setIfInBounds_ne (by omega)]
          have h1 : us'[k * 7 + 1]? = some (.int .i64 kd) := by rw [hus, Array.getElem?_setIfInBounds_ne (by omega), Array.getElem?_setIfInBounds_self_of_lt (by omega)]
          have h2 : us'[k * 7 + 2]? = some (.int .i64 0) := by rw [hus, Array.getElem?_setIfInBounds_self_of_lt (by simp; omega)]
          exact ⟨((cell_of_row wy _ (k * 7) _ _ _ KY).trans (hx _ (by omega) (by omega))).trans (GQK.out.2.2 (k * 7) (by omega) (by omega)), (cell_of_row wy _ (k * 7 + 1) _ _ _ KY).trans h1, (cell_of_row wy _ (k * 7 + 2) _ _ _ KY).trans h2, ((cell_of_row wy _ (k * 7 + 3) _ _ _ KY).trans (hx _ (by omega) (by omega))).trans (GQK.out.2.2 (k * 7 + 3) (by omega) (by omega)), ((cell_of_row wy _ (k * 7 + 4) _ _ _ KY).trans (hx _ (by omega) (by omega))).trans (GQK.out.2.2 (k * 7 + 4) (by omega) (by omega)), ((cell_of_row wy _ (k * 7 + 5) _ _ _ KY).trans (hx _ (by omega) (by omega))).trans (GQK.out.2.2 (k * 7 + 5) (by omega) (by omega)), ((cell_of_row wy _ (k * 7 + 6) _ _ _ KY).trans (hx _ (by omega) (by omega))).trans (GQK.out.2.2 (k * 7 + 6) (by omega) (by omega))⟩
        obtain ⟨v0, v1, v2, v3, v4, v5, v6⟩ := HX.out
        have f1 : wx.frozen? ⟨gb, o + k * 7 + 1, none⟩ = false := frozen_of_row wx _ _ _ _ BK.out
        have f2 : wx.frozen? ⟨gb, o + k * 7 + 2, none⟩ = false := frozen_of_row wx _ _ _ _ BK.out
        have HWY := Lib.hid hwy
        clear hwy KY b1 b2 l1 l2 hus
        go_upto_region 12 with (fail)
        rw [← HWY.out]
        clear HWY v0 v1 v2 v3 v4 v5 v6 f1 f2 JX HX BK
        obtain ⟨v0, v1, v2, v3, v4, v5, v6⟩ := EY.out
        have MN : Hid (∀ V, Below wy.heap.size wy V → Calls Tryz.prog 58 #[.pointer (some ⟨h, 0, none⟩), .agg #[.int .i64 (x (k * 7)), .int .i64 (kd), .int .i64 (0), .int .i64 (x (k * 7 + 3)), .int .i64 (x (k * 7 + 4)), .int .i64 (x (k * 7 + 5)), .int .i64 (x (k * 7 + 6))]] V fun e W' => e = .returned (.tuple #[]) ∧ ∃ (p' : Kp) (A4' : Option Addr) (c4' : Nat) (A5' : Option Addr) (m' c5' : Nat), LoopA w1 W' h p' s3.2.1 A4' (k + 1) c4' (cc ++ [s3.1]) A5' m' c5' (nn ++ s3.2.2) ev ⟨none, 0, 0, [], some gb, 57, us'⟩) := fun V hV => by
          rw [HS3.out]
          exact meetNextA_any (JY.out.below hV) SKk.out HT.out (by omega) LN.out (x (k * 7)) (kd) (0) (x (k * 7 + 3)) (x (k * 7 + 4)) (x (k * 7 + 5)) (x (k * 7 + 6))
        obtain ⟨wq, hwq⟩ : ∃ wq, wq = wy := ⟨_, rfl⟩
        go_region_with (refine (MN.out _ (by first | exact Below.refl _ _ | exact (Below.refl _ _).drew | exact (below_drewN (Below.refl _ _) 1))).mono ?_; rintro e wz ⟨rfl, p', A4', c4', A5', m', c5', hj⟩; have JZ := Lib.hid hj; clear hj)
        all_goals
          clear v0 v1 v2 v3 v4 v5 v6 hwq MN
          go_wp2
          go_roundw
          case rel => exact ⟨k + 1, p', A4', c4', A5', m', c5', us', by omega, by go_num, by rw [NX.out.1, NX.out.2.2.1, NX.out.2.2.2, SE.out]; exact JZ.out, by rw [NX.out.2.1, MA.out, MB.out]; exact GY.out⟩
          case measure => simp [intOf]; omega
    · obtain rfl : k = n := by omega
      have hkn : ¬ ((k : Int) < (k : Int)) := by omega
      have J := Lib.hid hJ; have GQK := Lib.hid hgq
      have RB := Lib.hid ((J.out.bw.block w.heap.size (by have := Z1.out; omega)).trans K1.out)
      have hblk := RB.out
      have p0 := cell_of_row _ _ 0 _ _ _ hblk
      have p1 := cell_of_row _ _ 1 _ _ _ hblk
      have f0 := frozen_of_row _ _ 0 _ _ hblk
      have f1 := frozen_of_row _ _ 1 _ _ hblk
      have HK := Lib.hid (fun a b => blk2_set hblk a b)
      simp at p0 p1
      clear hblk hJ hgq
      go_wp2
      refine bodyPost_ret (results_cell_row rfl _ _ w.heap.size _ _ _ _ rfl (HK.out _ _) Tryz.underlying46 rfl (by kernel_rfl)) rfl ?_
      refine finG (W := wr) E.out GQK.out.1 CA.out ?_ (B1.out.trans (J.out.bw.mono (by have := Z1.out; omega))) RB.out
      rcases GBH.out with hz | ⟨gb, o, e1, e2, e3⟩
      · exact .inl hz
      · subst e1 e2 e3
        obtain ⟨hb0, hbk, _⟩ := J.out.ob gb rfl
        exact .inr ⟨gb, us, rfl, by have := Z1.out; omega, hbk, GQK.out.2.1⟩

end Go.Proofs.YtckapndpefkcgaaGreat
