/-
  The model's RunKernel. No conditions beyond that the events can be read.
-/
import Derived.Test.YtckapndpefkcgaaGreatSpec3x
import Derived.Test.YtckapndpefkcgaaGreatMath3r
import Derived.Test.YtckapndpefkcgaaGreatLoop3
import Derived.Test.YtckapndpefkcgaaGreatSpec3n
set_option maxHeartbeats 1000000

namespace Go.Proofs.YtckapndpefkcgaaGreat
open Go.RowKit
set_option maxRecDepth 100000

set_option maxHeartbeats 2000000 in
theorem l3Event_any {w : World} {g : Nat} {p : Kp} {K : Ker} (h : KB w g p K) (sk : SK K) (ht : K.tick < 100000) (ge oe : Nat) (k a b c e s t : Int) (hne : ge ≠ g ∧ ge ≠ p.g2 ∧ ge ≠ p.g3) (hc : w.cell? ⟨ge, oe, none⟩ = some (.int .i64 k) ∧ w.cell? ⟨ge, oe + 1, none⟩ = some (.int .i64 a) ∧ w.cell? ⟨ge, oe + 2, none⟩ = some (.int .i64 b) ∧ w.cell? ⟨ge, oe + 3, none⟩ = some (.int .i64 c) ∧ w.cell? ⟨ge, oe + 4, none⟩ = some (.int .i64 e) ∧ w.cell? ⟨ge, oe + 5, none⟩ = some (.int .i64 s) ∧ w.cell? ⟨ge, oe + 6, none⟩ = some (.int .i64 t)) :
    Calls Tryz.prog 64 #[.pointer (some ⟨g, 0, none⟩), .pointer (some ⟨ge, oe, none⟩)] w (fun r w' => ∃ (p' : Kp) (A : Option Addr) (n cc : Nat), r = .returned (.tuple #[.int .i64 (step3 K k a b c e s t).1, .slice A n cc]) ∧ OR 96 3 w' w.heap.size A n cc (step3 K k a b c e s t).2.2 ∧ KB w' g p' (step3 K k a b c e s t).2.1 ∧ (p'.g1 = p.g1 ∨ w.heap.size ≤ p'.g1 ∧ p'.g1 < w'.heap.size) ∧ p'.g2 = p.g2 ∧ p'.g3 = p.g3 ∧ Kept [g, p.g2, p.g3] w w') := by
  have EF := Lib.hid (specEventFault_any k a b c e s t w)
  have HK := Lib.hid h
  have HS := Lib.hid sk
  have HT := Lib.hid ht
  have NE := Lib.hid hne
  have HC := Lib.hid hc
  obtain ⟨q, hq⟩ : ∃ q, q = evf k a b c e s t := ⟨_, rfl⟩
  rw [← hq] at EF
  have HQ := Lib.hid hq
  have LE := Lib.hid (World.block_lt_of_cell? _ _ hc.1)
  obtain ⟨r3, hr3⟩ : ∃ r3, r3 = step3 K k a b c e s t := ⟨_, rfl⟩
  rw [← hr3]
  have HR := Lib.hid hr3
  obtain ⟨c0, c1, c2, c3, c4, c5, c6⟩ := hc
  clear h sk ht hne hq hr3
  go_enter Tryz.func64, Tryz.ntmps64
  go_wp2_with fail
  refine EF.out.mono ?_
  rintro r w2 ⟨rfl, hb⟩
  have X2 : Hid (∀ gs, Kept gs w w2) := fun gs => Kept.of_below hb gs
  have S2 := Lib.hid hb.size
  have H2 := Lib.hid (HK.out.kept (X2.out []) (by simp) (by simp) (by simp) (by simp))
  have HC2 : Hid (w2.cell? ⟨ge, oe, none⟩ = some (.int .i64 k) ∧ w2.cell? ⟨ge, oe + 1, none⟩ = some (.int .i64 a) ∧ w2.cell? ⟨ge, oe + 2, none⟩ = some (.int .i64 b) ∧ w2.cell? ⟨ge, oe + 3, none⟩ = some (.int .i64 c) ∧ w2.cell? ⟨ge, oe + 4, none⟩ = some (.int .i64 e) ∧ w2.cell? ⟨ge, oe + 5, none⟩ = some (.int .i64 s) ∧ w2.cell? ⟨ge, oe + 6, none⟩ = some (.int .i64 t)) := by
    obtain ⟨c0, c1, c2, c3, c4, c5, c6⟩ := HC.out
    exact ⟨(hb.cell (p := ⟨ge, oe, none⟩) LE.out).trans c0, (hb.cell (p := ⟨ge, oe + 1, none⟩) LE.out).trans c1, (hb.cell (p := ⟨ge, oe + 2, none⟩) LE.out).trans c2, (hb.cell (p := ⟨ge, oe + 3, none⟩) LE.out).trans c3, (hb.cell (p := ⟨ge, oe + 4, none⟩) LE.out).trans c4, (hb.cell (p := ⟨ge, oe + 5, none⟩) LE.out).trans c5, (hb.cell (p := ⟨ge, oe + 6, none⟩) LE.out).trans c6⟩
  clear hb c0 c1 c2 c3 c4 c5 c6 HC EF HK
  by_cases h0 : q = 0
  case neg =>
    have y : (q != 0) = true := by simp [h0]
    have e3 : r3 = (q, K, []) := by rw [HR.out]; unfold step3; rw [if_pos (by rw [← HQ.out]; exact h0), ← HQ.out]
    subst e3
    go_wp2
    go_ret2
    exact ⟨p, none, 0, 0, rfl, OR.void _ _, H2.out, .inl rfl, rfl, rfl, X2.out _⟩
  have HZ := Lib.hid (show evf k a b c e s t = 0 by rw [← HQ.out]; exact h0)
  subst h0
  obtain ⟨c0, c1, c2, c3, c4, c5, c6⟩ := HC2.out
  by_cases k2 : k = 2
  · have hcf : cf c e s t = 0 := by
      rcases evf_z HZ.out with ⟨k1, _⟩ | ⟨_, hh⟩
      · omega
      · exact hh
    have e3 : r3 = ((call3 K c e s t).1, (call3 K c e s t).2, []) := by rw [HR.out]; unfold step3; rw [if_neg (by simp [HZ.out]), if_pos k2]
    subst e3
    have CC := Lib.hid (l3Call_any g ge (oe + 3) p K c e s t w2 H2.out c3 c4 c5 c6 NE.out.1 NE.out.2.1 NE.out.2.2 HS.out.v hcf)
    subst k2
    clear hcf c3 c4 c5 c6 c1 c2
    go_wp2_with fail
    refine CC.out.mono ?_
    rintro r w3 ⟨p', rfl, hkb, h1, h2, h3, hkk⟩
    have H3 := Lib.hid hkb
    have G3 := Lib.hid (show p'.g1 = p.g1 ∨ w.heap.size ≤ p'.g1 ∧ p'.g1 < w3.heap.size by have := S2.out; omega)
    have E2 := Lib.hid h2; have E3 := Lib.hid h3
    have X3 := Lib.hid ((X2.out [g, p.g2, p.g3]).trans hkk)
    clear hkb h1 h2 h3 hkk c0
    go_wp2
    go_ret2
    exact ⟨p', none, 0, 0, rfl, OR.void _ _, H3.out, G3.out, E2.out, E3.out, X3.out⟩
  · have hto : k = 1 ∧ (0 ≤ b ∧ b < 4) := by
      rcases evf_z HZ.out with ⟨k1, hh, _⟩ | ⟨hh, _⟩
      · exact ⟨k1, hh⟩
      · exact absurd hh k2
    have y : (k == 2) = false := by simp [k2]
    have e3 : r3 = (0, (tick3 K a b).1, (tick3 K a b).2) := by rw [HR.out]; unfold step3; rw [if_neg (by simp [HZ.out]), if_neg k2]
    subst e3
    have CC := Lib.hid (specTick_any H2.out (HS.out.tk HT.out) ge (oe + 1) a b hto.2 ⟨NE.out.1, NE.out.2.2⟩ c1 c2)
    clear k2 hto c1 c2 c3 c4 c5 c6
    go_wp2_with fail
    refine CC.out.mono ?_
    rintro r w3 ⟨A, n, cc, rfl, ho, hkb, hkk⟩
    have O3 := Lib.hid (ho.mono S2.out)
    have H3 := Lib.hid hkb
    have X3 := Lib.hid ((X2.out [g, p.g2, p.g3]).trans (hkk.mono (gs' := [g, p.g2, p.g3]) (by simp)))
    clear ho hkb hkk c0
    go_wp2
    go_ret2
    exact ⟨p, A, n, cc, rfl, O3.out, H3.out, .inl rfl, rfl, rfl, X3.out⟩



def ask3 (m : Int) (n : Nat) : Int := if (new1 m).1 ≠ 0 then (new1 m).1 else if 400 < n then 2 else 0
theorem l3Asked_any (m : Int) (A : Option Addr) (n c : Nat) (w : World) (hn : n ≤ 9223372036854775807) : Calls Tryz.prog 104 #[.int .i64 m, .slice A n c] w fun e w' => e = .returned (.int .i64 (ask3 m n)) ∧ Below w.heap.size w w' := by
  have fl0 := run_fr0
  have NV := Lib.hid (specNewVector_any m w)
  obtain ⟨q, hq⟩ : ∃ q, q = new1 m := ⟨_, rfl⟩
  have HA : Hid (ask3 m n = if q.1 ≠ 0 then q.1 else if 400 < n then 2 else 0) := by show _ = _; rw [hq]; rfl
  rw [← hq] at NV
  obtain ⟨q1, qs⟩ := q
  clear hq
  go_enter Tryz.func104, Tryz.ntmps104
  go_wp2_with fail
  refine NV.out.mono ?_
  rintro e w2 ⟨A', n', c', rfl, _, _, _, hb⟩
  have HB := Lib.hid hb
  clear hb NV
  by_cases h0 : q1 = 0
  · subst h0
    by_cases h4 : 400 < n
    · have h5 : (400 : Int) < n := by omega
      have EA : Hid (ask3 m n = 2) := by show _ = _; rw [HA.out, if_neg (by simp), if_pos h4]
      clear h4
      go_wp2
      go_ret
      exact ⟨ret_i64 EA.out.symm, HB.out⟩
    · have h5 : ¬ ((400 : Int) < n) := by omega
      have EA : Hid (ask3 m n = 0) := by show _ = _; rw [HA.out, if_neg (by simp), if_neg h4]
      clear h4
      go_wp2
      go_ret
      exact ⟨ret_i64 EA.out.symm, HB.out⟩
  · have y : (q1 != 0) = true := by simp [h0]
    have EA : Hid (ask3 m n = q1) := by show _ = _; rw [HA.out, if_pos h0]
    go_wp2
    go_ret
    exact ⟨ret_i64 EA.out.symm, HB.out⟩

theorem rk3_bad {m : Int} {x : Nat → Int} {n : Nat} (h : ask3 m n ≠ 0) : rk3 m x n = (ask3 m n, ⟨[], [], [], 0, 0⟩, [], []) := by
  unfold ask3 at h ⊢
  unfold rk3
  by_cases h1 : (new1 m).1 = 0
  · by_cases h4 : 400 < n
    · simp [h1, h4]
    · simp [h1, h4] at h
  · simp [h1]
theorem rk3_good {m : Int} {x : Nat → Int} {n : Nat} (h : ask3 m n = 0) : rk3 m x n = (0, run3 (new3 m) x n) ∧ (new1 m).1 = 0 ∧ n ≤ 400 := by
  unfold ask3 at h
  unfold rk3
  by_cases h1 : (new1 m).1 = 0
  · by_cases h4 : 400 < n
    · simp [h1, h4] at h
    · simp [h1, h4]; omega
  · simp [h1] at h
theorem grown_refl3 (w : World) (r : Option Nat) : w.grownBy w r := ⟨rfl, rfl, rfl, Nat.le_refl _, fun _ _ _ => rfl⟩
theorem news_of3 {t : TypeId} {m : Nat} {w : World} {base n c g : Nat} {hs : List Int} (h : OR t m w base (some ⟨g, 0, none⟩) n c hs) : ∀ j u, (vals hs)[j]? = some u → w.cell? ((⟨g, 0, none⟩ : Addr).add j) = some u := by
  intro j u hu
  have hj : j < hs.length := by have := (List.getElem?_eq_some_iff.1 hu).1; simpa [vals] using this
  rw [vals_get hs j hj] at hu
  injection hu with hu
  subst hu
  rw [Go.WideShapes.add_plain]
  simp only [Nat.zero_add]
  exact h.cell (by rw [← h.len]; exact hj)
theorem one_vals3 (hs : List Int) : ∀ u ∈ vals hs, u.oneCell' = true := by
  intro u hu
  simp only [vals, List.mem_map] at hu
  obtain ⟨_, _, rfl⟩ := hu
  rfl

set_option maxHeartbeats 16000000 in
theorem specRunKernel_any (lo hi : Nat) (A : Option Addr) (n c : Nat) (x : Nat → Int) (mm : Int) (w : World) (hn : n ≤ 1048576) (h : Sl w lo hi A (n * 7) (fun k => .int .i64 (x k))) :
    Calls Tryz.prog 53 #[.int .i64 mm, .slice A n c] w (RAns (rk3 mm x n) w) := by
  obtain ⟨i0, hi0, hz0, hz1, hz2⟩ := info_parts Tryz.info_i64
  obtain ⟨i3, hi3, hy0, hy1, hy2⟩ := info_parts Tryz.info_Note
  obtain ⟨w1, hw1⟩ : ∃ w1, w1 = w.alloc (.cells #[.int .i64 0, .slice none 0 0, .slice none 0 0, .slice none 0 0, .int .i64 0, .int .i64 0, .slice none 0 0, .slice none 0 0] 41) := ⟨_, rfl⟩
  have K1 : Hid (w1.heap[w.heap.size]? = some (.cells #[.int .i64 0, .slice none 0 0, .slice none 0 0, .slice none 0 0, .int .i64 0, .int .i64 0, .slice none 0 0, .slice none 0 0] 41 (0, 0))) := by show _ = _; rw [hw1]; exact heap_alloc_new w _
  have B1 : Hid (Below w.heap.size w w1) := by rw [hw1]; exact below_new w _
  have Z1 : Hid (w1.heap.size = w.heap.size + 1) := by show _ = _; rw [hw1]; simp
  have H := Lib.hid (h.lt.below B1.out (Nat.min_le_right _ _))
  have AS := Lib.hid (l3Asked_any mm A n c w1 (by omega))
  obtain ⟨q, hq⟩ : ∃ q, q = ask3 mm n := ⟨_, rfl⟩
  rw [← hq] at AS
  have HQ := Lib.hid hq
  have HN := Lib.hid hn
  have HW1 := Lib.hid hw1
  clear h hw1 hq hn
  go_enter Tryz.func53, Tryz.ntmps53
  go_upto_region 1 with (fail)
  rw [← HW1.out]
  clear HW1
  go_wp2_with fail
  refine AS.out.mono ?_
  rintro e w2 ⟨rfl, hb⟩
  have B12 := Lib.hid hb
  have K2 := Lib.hid ((hb.block w.heap.size (by have := Z1.out; omega)).trans K1.out)
  have B2 := Lib.hid (B1.out.trans (hb.mono (by have := Z1.out; omega)))
  have Z2 : Hid (w.heap.size + 1 ≤ w2.heap.size) := by have := Z1.out; have := hb.size; show _ ≤ _; omega
  clear hb AS
  by_cases h0 : q = 0
  case neg =>
    have y : (q != 0) = true := by simp [h0]
    have EA := Lib.hid (rk3_bad (x := x) (show ask3 mm n ≠ 0 by rw [← HQ.out]; exact h0))
    have hk := K2.out
    have r0 := cell_of_row w2 _ 0 _ _ _ hk; have r1 := cell_of_row w2 _ 1 _ _ _ hk; have r2 := cell_of_row w2 _ 2 _ _ _ hk; have r3 := cell_of_row w2 _ 3 _ _ _ hk; have r4 := cell_of_row w2 _ 4 _ _ _ hk; have r5 := cell_of_row w2 _ 5 _ _ _ hk; have r6 := cell_of_row w2 _ 6 _ _ _ hk; have r7 := cell_of_row w2 _ 7 _ _ _ hk
    have f0 := frozen_of_row w2 _ 0 _ _ hk; have f1 := frozen_of_row w2 _ 1 _ _ hk; have f2 := frozen_of_row w2 _ 2 _ _ hk; have f3 := frozen_of_row w2 _ 3 _ _ hk; have f4 := frozen_of_row w2 _ 4 _ _ hk; have f5 := frozen_of_row w2 _ 5 _ _ hk; have f6 := frozen_of_row w2 _ 6 _ _ hk; have f7 := frozen_of_row w2 _ 7 _ _ hk
    simp at r0 r1 r2 r3 r4 r5 r6 r7
    clear hk h0
    go_wp2
    refine bodyPost_ret (results_cell_row rfl _ _ _ _ _ (0, 0) _ rfl (heap_setCell_same _ _ 7 _ _ _ (heap_setCell_same _ _ 6 _ _ _ (heap_setCell_same _ _ 5 _ _ _ (heap_setCell_same _ _ 4 _ _ _ (heap_setCell_same _ _ 3 _ _ _ (heap_setCell_same _ _ 2 _ _ _ (heap_setCell_same _ _ 1 _ _ _ (heap_setCell_same _ _ 0 _ _ _ K2.out)))))))) Tryz.underlying41 rfl (by kernel_rfl)) rfl ?_
    rw [EA.out, ← HQ.out]
    exact rans_code ((((((((B2.out.setCell (p := ⟨w.heap.size, 0, none⟩) (by simp) _).setCell (p := ⟨w.heap.size, 1, none⟩) (by simp) _).setCell (p := ⟨w.heap.size, 2, none⟩) (by simp) _).setCell (p := ⟨w.heap.size, 3, none⟩) (by simp) _).setCell (p := ⟨w.heap.size, 4, none⟩) (by simp) _).setCell (p := ⟨w.heap.size, 5, none⟩) (by simp) _).setCell (p := ⟨w.heap.size, 6, none⟩) (by simp) _).setCell (p := ⟨w.heap.size, 7, none⟩) (by simp) _) (by simp; have := Z2.out; omega)
  obtain ⟨ER, hm0, hn4⟩ := rk3_good (x := x) (show ask3 mm n = 0 by rw [← HQ.out]; exact h0)
  have ER := Lib.hid ER
  have N4 := Lib.hid hn4
  obtain ⟨sk0, hlen, hm1, hm2⟩ := sk_new hm0
  have ALL := Lib.hid (run3_all (x := x) sk0 rfl)
  have SK0 := Lib.hid sk0
  have NW := Lib.hid (l3New_any mm w2 ⟨hm1, hm2⟩)
  subst h0
  clear hm0 hn4 hlen hm1 hm2 sk0 HQ
  go_wp2_with fail
  refine NW.out.mono ?_
  rintro e w3 ⟨p0, rfl, ho, hbd, hb⟩
  have B3 := Lib.hid (B12.out.trans (hb.mono B12.out.size))
  obtain ⟨w4, hw4⟩ : ∃ w4, w4 = w3.alloc (.cells #[.slice p0.A1 p0.n1 p0.c1, .slice p0.A2 4 p0.c2, .slice p0.A3 4 p0.c3, .int .i64 0, .int .i64 (-1)] 39) := ⟨_, rfl⟩
  obtain ⟨g, hg⟩ : ∃ g, g = w3.heap.size := ⟨_, rfl⟩
  have K4 : w4.heap[g]? = some (.cells #[.slice p0.A1 p0.n1 p0.c1, .slice p0.A2 4 p0.c2, .slice p0.A3 4 p0.c3, .int .i64 0, .int .i64 (-1)] 39 (0, 0)) := by rw [hw4, hg]; exact heap_alloc_new w3 _
  have BN4 : Below w3.heap.size w3 w4 := by rw [hw4]; exact below_new w3 _
  have Z4 : w4.heap.size = g + 1 := by rw [hw4, hg]; simp
  obtain ⟨w5, hw5⟩ : ∃ w5, w5 = w4.alloc (.cells #[.int .i64 0, .slice none 0 0, .slice none 0 0, .slice none 0 0, .int .i64 0, .int .i64 0, .slice none 0 0, .slice none 0 0] 41) := ⟨_, rfl⟩
  obtain ⟨h, hh⟩ : ∃ h, h = w4.heap.size := ⟨_, rfl⟩
  have K5 : w5.heap[h]? = some (.cells #[.int .i64 0, .slice none 0 0, .slice none 0 0, .slice none 0 0, .int .i64 0, .int .i64 0, .slice none 0 0, .slice none 0 0] 41 (0, 0)) := by rw [hw5, hh]; exact heap_alloc_new w4 _
  have BN5 : Below w4.heap.size w4 w5 := by rw [hw5]; exact below_new w4 _
  have Z5 : w5.heap.size = h + 1 := by rw [hw5, hh]; simp
  have B35 : Below w3.heap.size w3 w5 := BN4.trans (BN5.mono BN4.size)
  have J0 : Hid (LoopR w1 w5 g h p0 (new3 mm) none 0 0 [] none 0 0 []) := by
    have b3 := B3.out.size
    have z2 := B12.out.size
    have s1 := SK0.out.v
    have l1 := ho.l1
    obtain ⟨v1, _⟩ := vf_zero s1
    exact ⟨⟨(BN5.block g (by omega)).trans K4, ho.keepB (B35.block _ (by omega)) (B35.block _ (by omega)) (B35.block _ (by omega)), by omega, by omega, by omega⟩, by
      have : (new3 mm).os.length = p0.n1 := l1
      omega, K5, OR.void _ _, OR.void _ _, (fun b e => by cases e), ⟨⟨by omega, by omega⟩, by omega, by omega, by omega⟩, B3.out.trans (B35.mono b3)⟩
  have HW4 := Lib.hid hw4; have HW5 := Lib.hid hw5; have HG := Lib.hid hg; have HH := Lib.hid hh
  clear ho hbd hb hw4 hw5 hg hh K4 BN4 Z4 K5 BN5 Z5 B35 NW
  go_upto_region 5 with (fail)
  rw [← HW4.out, ← HG.out]
  clear HW4 HG
  go_upto_region 6 with (fail)
  rw [← HW5.out, ← HH.out]
  clear HW5 HH
  go_wp2_with fail
  go_loopw [8] (fun i wr => ∃ (k : Nat) (p : Kp) (A4 : Option Addr) (c4 : Nat) (A5 : Option Addr) (m c5 : Nat), k ≤ n ∧ i = .int .i64 k ∧ LoopR w1 wr g h p (run3 (new3 mm) x k).1 A4 k c4 (run3 (new3 mm) x k).2.1 A5 m c5 (run3 (new3 mm) x k).2.2) (fun i _ => n - (intOf i).toNat)
  case atStart => exact ⟨0, p0, none, 0, none, 0, 0, Nat.zero_le _, rfl, J0.out⟩
  case round =>
    obtain ⟨k, p, A4, c4, A5, m, c5, hk, rfl, hJ⟩ := hrel
    have J := Lib.hid hJ
    obtain ⟨hs, htk, hlc, hln⟩ := ALL.out k (by have := N4.out; omega)
    have SKk := Lib.hid hs
    have TKk := Lib.hid htk
    have LN := Lib.hid (show m ≤ 3600 by have := hJ.on.len; have := N4.out; omega)
    obtain ⟨r3, hr3⟩ : ∃ r3, r3 = run3 (new3 mm) x k := ⟨_, rfl⟩
    have NX : Hid (run3 (new3 mm) x (k + 1) = ((stp x k r3.1).2.1, r3.2.1 ++ [(stp x k r3.1).1], r3.2.2 ++ (stp x k r3.1).2.2)) := by show _ = _; rw [hr3]; rfl
    rw [← hr3] at J SKk TKk
    have HR3 := Lib.hid hr3
    clear hJ hs htk hlc hln hr3
    by_cases hlt : k < n
    · obtain ⟨b, off, rfl, h1, h2, hc⟩ := H.out.at_ (show k * 7 < n * 7 by omega)
      have hev : wr.cell? ⟨b, off + k * 7, none⟩ = some (.int .i64 (x (k * 7))) ∧ wr.cell? ⟨b, off + k * 7 + 1, none⟩ = some (.int .i64 (x (k * 7 + 1))) ∧ wr.cell? ⟨b, off + k * 7 + 2, none⟩ = some (.int .i64 (x (k * 7 + 2))) ∧ wr.cell? ⟨b, off + k * 7 + 3, none⟩ = some (.int .i64 (x (k * 7 + 3))) ∧ wr.cell? ⟨b, off + k * 7 + 4, none⟩ = some (.int .i64 (x (k * 7 + 4))) ∧ wr.cell? ⟨b, off + k * 7 + 5, none⟩ = some (.int .i64 (x (k * 7 + 5))) ∧ wr.cell? ⟨b, off + k * 7 + 6, none⟩ = some (.int .i64 (x (k * 7 + 6))) := ⟨(J.out.bw.cell (p := ⟨b, off + (k * 7), none⟩) (by have := Z1.out; simp; omega)).trans (hc (k * 7) (by omega)), (J.out.bw.cell (p := ⟨b, off + (k * 7 + 1), none⟩) (by have := Z1.out; simp; omega)).trans (hc (k * 7 + 1) (by omega)), (J.out.bw.cell (p := ⟨b, off + (k * 7 + 2), none⟩) (by have := Z1.out; simp; omega)).trans (hc (k * 7 + 2) (by omega)), (J.out.bw.cell (p := ⟨b, off + (k * 7 + 3), none⟩) (by have := Z1.out; simp; omega)).trans (hc (k * 7 + 3) (by omega)), (J.out.bw.cell (p := ⟨b, off + (k * 7 + 4), none⟩) (by have := Z1.out; simp; omega)).trans (hc (k * 7 + 4) (by omega)), (J.out.bw.cell (p := ⟨b, off + (k * 7 + 5), none⟩) (by have := Z1.out; simp; omega)).trans (hc (k * 7 + 5) (by omega)), (J.out.bw.cell (p := ⟨b, off + (k * 7 + 6), none⟩) (by have := Z1.out; simp; omega)).trans (hc (k * 7 + 6) (by omega))⟩
      have EV : Hid (Calls Tryz.prog 64 #[.pointer (some ⟨g, 0, none⟩), .pointer (some ⟨b, off + k * 7, none⟩)] wr fun r w' => ∃ (p' : Kp) (A : Option Addr) (n cc : Nat), r = .returned (.tuple #[.int .i64 (stp x k r3.1).1, .slice A n cc]) ∧ OR 96 3 w' wr.heap.size A n cc (stp x k r3.1).2.2 ∧ KB w' g p' (stp x k r3.1).2.1 ∧ (p'.g1 = p.g1 ∨ wr.heap.size ≤ p'.g1 ∧ p'.g1 < w'.heap.size) ∧ p'.g2 = p.g2 ∧ p'.g3 = p.g3 ∧ Kept [g, p.g2, p.g3] wr w') :=
        l3Event_any J.out.kb SKk.out (by have := TKk.out; have := N4.out; omega) b (off + k * 7) (x (k * 7)) (x (k * 7 + 1)) (x (k * 7 + 2)) (x (k * 7 + 3)) (x (k * 7 + 4)) (x (k * 7 + 5)) (x (k * 7 + 6)) (by have := J.out.lo; have := Z1.out; omega) hev
      have ST := Lib.hid (step3_sk SKk.out (by have := TKk.out; have := N4.out; omega) (x (k * 7)) (x (k * 7 + 1)) (x (k * 7 + 2)) (x (k * 7 + 3)) (x (k * 7 + 4)) (x (k * 7 + 5)) (x (k * 7 + 6)))
      have ST : Hid (SK (stp x k r3.1).2.1 ∧ (stp x k r3.1).2.1.tick ≤ r3.1.tick + 1 ∧ (stp x k r3.1).2.2.length ≤ 9) := ST.out
      obtain ⟨s3, hs3⟩ : ∃ s3, s3 = stp x k r3.1 := ⟨_, rfl⟩
      rw [← hs3] at EV ST NX
      clear hev hc hs3
      obtain ⟨q1, K1', ms⟩ := s3
      have z0 : (0 : Int) ≤ (k : Int) := by omega
      have z1 : (k : Int) < (n : Int) := by omega
      have hn4 : n ≤ 400 := N4.out
      go_wp2_with fail
      refine EV.out.mono ?_
      rintro e wa ⟨p', A, mq, cq, rfl, hno, hkb, hg1, hg2, hg3, hkk⟩
      have JA : Hid (LoopR w1 wa g h p' K1' A4 k c4 r3.2.1 A5 m c5 r3.2.2) := J.out.event hkb (by
        have l1 := hkb.own.l1
        obtain ⟨v1, _⟩ := vf_zero ST.out.1.v
        have l1 : K1'.os.length = p'.n1 := l1
        have v1 : 1 ≤ K1'.os.length := v1
        omega) (by rcases hg1 with q | q; exact .inl q; exact .inr q.1) hg2 hg3 hkk
      have NO := Lib.hid hno
      have NQ := Lib.hid (show mq ≤ 3 by have h1 := hno.len; have h2 : ms.length ≤ 9 := ST.out.2.2; have h1 : ms.length = mq * 3 := h1; omega)
      have ZW := Lib.hid (show wr.heap.size ≤ wa.heap.size from hkk.1.size)
      clear hno hkb hg1 hg2 hg3 hkk EV J
      go_upto_region 10 with (fail)
      have HA := Lib.hid ((Below.heap_alloc wa (.cells #[.int .i64 q1] 2) h (Array.getElem?_eq_some_iff.1 JA.out.box).1).trans JA.out.box)
      have OA := Lib.hid (OR.alloc JA.out.oc (.cells #[.int .i64 q1] 2))
      have NWc := Lib.hid (cell_one_new wa (.int .i64 q1) 2)
      have ZA := Lib.hid (show w1.heap.size ≤ (wa.alloc (.cells #[.int .i64 q1] 2)).heap.size by have := JA.out.bw.size; simp; omega)
      have o6 := cell_of_row wa _ 6 _ _ _ JA.out.box
      have a6 := cell_of_row (wa.alloc (.cells #[.int .i64 q1] 2)) _ 6 _ _ _ HA.out
      simp at o6 a6
      go_upto_region 11 with (at_builtin; refine wpList_append_own_at _ rfl (.tmp 35) (.tmp 37) 35 rfl w1.heap.size 2 i0 (.int .i64 0) 1 8 Tryz.underlying35 hi0 hz0 hz1 hz2 rfl (by decide) (.slice A4 k c4) k _ rfl OA.out ⟨wa.heap.size, 0, none⟩ 1 1 [.int .i64 q1] rfl rfl NWc.out (by simp [Value.oneCell']) (by have := N4.out; unfold maxLen; omega) (by have := N4.out; omega) ZA.out ?_; intro v' wb hown hgrow _ hat; rw [show vals r3.2.1 ++ [Value.int .i64 q1] = vals (r3.2.1 ++ [q1]) by simp [vals]] at hown; obtain ⟨A', c', rfl, hown⟩ := or_of3 hown; have K7 := (hgrow.block h (Array.getElem?_eq_some_iff.1 HA.out).1 (own_ne3 HA.out (by decide) OA.out)).trans HA.out; have y6 := cell_of_row wb _ 6 _ _ _ K7; have f6 := frozen_of_row wb _ 6 _ _ K7; simp at y6; have HO := Lib.hid hown; have HGR := Lib.hid hgrow; have HAT := Lib.hid hat; clear hown hgrow hat K7)
      obtain ⟨wc, hwc⟩ : ∃ wc, wc = wb.setCell ⟨h, 6, none⟩ (.slice A' (k + 1) c') := ⟨_, rfl⟩
      have JC : Hid (LoopR w1 wc g h p' K1' A' (k + 1) c' (r3.2.1 ++ [q1]) A5 m c5 r3.2.2) := by
        rw [hwc]; exact JA.out.code q1 HO.out HGR.out HAT.out
      have NO : Hid (∃ B, B = wr.heap.size ∧ OR 96 3 wc wr.heap.size A mq cq ms ∧ wr.heap.size ≤ wc.heap.size) := by
        have hoc := NO.out
        have jc := JC.out.on
        refine ⟨_, rfl, hoc.keepAll fun b e => ?_, ?_⟩
        · subst e
          obtain ⟨_, hx⟩ := or_blk hoc
          rw [hwc]
          have hlt := (Array.getElem?_eq_some_iff.1 hx).1
          have hx2 := (Below.heap_alloc wa (.cells #[.int .i64 q1] 2) b hlt).trans hx
          exact (Below.heap_setCell _ _ _ _ (blk_ne hx JA.out.box (by decide))).trans ((HGR.out.block b (by simp; omega) (own_ne3 hx2 (by decide) OA.out)).trans (Below.heap_alloc wa _ b hlt))
        · have := HGR.out.size
          rw [hwc]
          simp at this ⊢
          have := ZW.out
          omega
      obtain ⟨B, hB, hno, hZB⟩ := NO.out
      have NO := Lib.hid hno
      have HWC := Lib.hid hwc
      clear hno hwc o6 a6 y6 f6 HO HGR HAT HA OA NWc ZA JA
      rw [← HWC.out]
      clear HWC
      have o7 := cell_of_row wc _ 7 _ _ _ JC.out.box
      have f7 := frozen_of_row wc _ 7 _ _ JC.out.box
      simp at o7
      rcases A with _ | ad
      · obtain ⟨hn0, hc0⟩ := OR.nil0 NO.out
        subst hn0 hc0
        have ms0 : Hid (ms = []) := by have := NO.out.len; exact List.length_eq_zero_iff.1 (by omega)
        have OO := Lib.hid JC.out.on
        go_wp2_with (at_builtin; refine wpList_append_own_none rfl (.tmp 41) (.tmp 42) 31 rfl w1.heap.size 96 i3 3 Tryz.underlying31 hi3 (.slice A5 m c5) m _ rfl OO.out rfl ?_)
        go_roundw
        case rel => exact ⟨k + 1, p', A', c', A5, m + 0, c5, by omega, by go_num, by rw [NX.out, ms0.out]; exact JC.out.notes (mm := 0) (more := []) (by rw [List.append_nil]; exact JC.out.on) (grown_refl3 _ _) (.inl rfl)⟩
        case measure => simp [intOf]; omega
      · obtain ⟨g2, e2, hg2, hg3⟩ := OR.at_ NO.out (by simp)
        injection e2 with e2
        subst e2
        have OO := Lib.hid JC.out.on
        have NN := Lib.hid (news_of3 NO.out)
        have ON := Lib.hid (one_vals3 ms)
        have LV : Hid ((vals ms).length = mq * 3) := by show _ = _; simp [vals]; exact NO.out.len
        have ZC := Lib.hid (show w1.heap.size ≤ wc.heap.size from JC.out.bw.size)
        clear hg2 hg3
        go_wp2_with (at_builtin; refine wpList_append_own_at _ rfl (.tmp 41) (.tmp 42) 31 rfl w1.heap.size 96 i3 (.agg #[.int .i64 0, .int .i64 0, .int .i64 0]) 3 24 Tryz.underlying31 hi3 hy0 hy1 hy2 rfl (by decide) (.slice A5 m c5) m _ rfl OO.out ⟨g2, 0, none⟩ mq cq (vals ms) rfl LV.out NN.out ON.out (by have := LN.out; have := NQ.out; unfold maxLen; omega) (by have := LN.out; have := NQ.out; omega) ZC.out ?_; intro v' wd hown hgrow _ hat; rw [show vals r3.2.2 ++ vals ms = vals (r3.2.2 ++ ms) by simp [vals]] at hown; obtain ⟨A'', c'', rfl, hown⟩ := or_of3 hown; have K7 := (hgrow.block h (Array.getElem?_eq_some_iff.1 JC.out.box).1 (own_ne3 JC.out.box (by decide) OO.out)).trans JC.out.box; have y7 := cell_of_row wd _ 7 _ _ _ K7; have f7 := frozen_of_row wd _ 7 _ _ K7; simp at y7; have HO := Lib.hid hown; have HGR := Lib.hid hgrow; have HAT := Lib.hid hat; clear hown hgrow hat K7)
        go_roundw
        case rel => exact ⟨k + 1, p', A', c', A'', m + mq, c'', by omega, by go_num, by rw [NX.out]; exact JC.out.notes HO.out HGR.out HAT.out⟩
        case measure => simp [intOf]; omega
    · obtain rfl : k = n := by omega
      have RH := Lib.hid (show w.heap.size ≠ h by have := J.out.lo; have := Z1.out; omega)
      have RB := Lib.hid ((J.out.bw.block w.heap.size (by have := Z1.out; omega)).trans K1.out)
      obtain ⟨q0, q1, q2, q3, q4⟩ := J.out.kb.cells
      have jb := J.out.box
      have o0 := cell_of_row wr _ 0 _ _ _ jb; have o1 := cell_of_row wr _ 1 _ _ _ jb; have o2 := cell_of_row wr _ 2 _ _ _ jb; have o3 := cell_of_row wr _ 3 _ _ _ jb; have o4 := cell_of_row wr _ 4 _ _ _ jb; have o5 := cell_of_row wr _ 5 _ _ _ jb; have o6 := cell_of_row wr _ 6 _ _ _ jb; have o7 := cell_of_row wr _ 7 _ _ _ jb
      have f0 := frozen_of_row wr _ 0 _ _ jb; have f1 := frozen_of_row wr _ 1 _ _ jb; have f2 := frozen_of_row wr _ 2 _ _ jb; have f3 := frozen_of_row wr _ 3 _ _ jb; have f4 := frozen_of_row wr _ 4 _ _ jb; have f5 := frozen_of_row wr _ 5 _ _ jb; have f6 := frozen_of_row wr _ 6 _ _ jb; have f7 := frozen_of_row wr _ 7 _ _ jb
      simp at o0 o1 o2 o3 o4 o5 o6 o7
      clear jb
      go_upto_region 13 with (fail)
      obtain ⟨wf, hwf⟩ : ∃ wf, wf = (((((wr.setCell ⟨h, 1, none⟩ (.slice p.A1 p.n1 p.c1)).setCell ⟨h, 2, none⟩ (.slice p.A2 4 p.c2)).setCell ⟨h, 3, none⟩ (.slice p.A3 4 p.c3)).setCell ⟨h, 4, none⟩ (.int .i64 r3.1.tick)).setCell ⟨h, 5, none⟩ (.int .i64 r3.1.run)) := ⟨_, rfl⟩
      have KF : Hid (wf.heap[h]? = some (.cells #[.int .i64 0, .slice p.A1 p.n1 p.c1, .slice p.A2 4 p.c2, .slice p.A3 4 p.c3, .int .i64 r3.1.tick, .int .i64 r3.1.run, .slice A4 k c4, .slice A5 m c5] 41 (0, 0))) := by show _ = _; rw [hwf]; exact (heap_setCell_same _ _ 5 _ _ _ (heap_setCell_same _ _ 4 _ _ _ (heap_setCell_same _ _ 3 _ _ _ (heap_setCell_same _ _ 2 _ _ _ (heap_setCell_same _ _ 1 _ _ _ J.out.box)))))
      have FF : Hid (∀ b, b ≠ h → wf.heap[b]? = wr.heap[b]?) := fun b hb => by rw [hwf]; exact ((Below.heap_setCell _ ⟨h, 5, none⟩ _ _ hb).trans ((Below.heap_setCell _ ⟨h, 4, none⟩ _ _ hb).trans ((Below.heap_setCell _ ⟨h, 3, none⟩ _ _ hb).trans ((Below.heap_setCell _ ⟨h, 2, none⟩ _ _ hb).trans ((Below.heap_setCell _ ⟨h, 1, none⟩ _ _ hb).trans rfl)))))
      have BF : Hid (Below w1.heap.size w1 wf) := by rw [hwf]; exact (((((J.out.bw.setCell (p := ⟨h, 1, none⟩) J.out.lo.1.2 _).setCell (p := ⟨h, 2, none⟩) J.out.lo.1.2 _).setCell (p := ⟨h, 3, none⟩) J.out.lo.1.2 _).setCell (p := ⟨h, 4, none⟩) J.out.lo.1.2 _).setCell (p := ⟨h, 5, none⟩) J.out.lo.1.2 _)
      have SF : Hid (wf.heap.size = wr.heap.size) := by show _ = _; rw [hwf]; simp
      have RF := Lib.hid ((FF.out _ RH.out).trans RB.out)
      have HWF := Lib.hid hwf
      clear hwf q0 q1 q2 q3 q4 o0 f0 o1 f1 o2 f2 o3 f3 o4 f4 o5 f5 o6 f6 o7 f7
      rw [← HWF.out]
      clear HWF
      have kf := KF.out
      have o0 := cell_of_row wf _ 0 _ _ _ kf; have o1 := cell_of_row wf _ 1 _ _ _ kf; have o2 := cell_of_row wf _ 2 _ _ _ kf; have o3 := cell_of_row wf _ 3 _ _ _ kf; have o4 := cell_of_row wf _ 4 _ _ _ kf; have o5 := cell_of_row wf _ 5 _ _ _ kf; have o6 := cell_of_row wf _ 6 _ _ _ kf; have o7 := cell_of_row wf _ 7 _ _ _ kf
      have rf := RF.out
      have s0 := cell_of_row wf _ 0 _ _ _ rf; have s1 := cell_of_row wf _ 1 _ _ _ rf; have s2 := cell_of_row wf _ 2 _ _ _ rf; have s3 := cell_of_row wf _ 3 _ _ _ rf; have s4 := cell_of_row wf _ 4 _ _ _ rf; have s5 := cell_of_row wf _ 5 _ _ _ rf; have s6 := cell_of_row wf _ 6 _ _ _ rf; have s7 := cell_of_row wf _ 7 _ _ _ rf
      have f0 := frozen_of_row wf _ 0 _ _ rf; have f1 := frozen_of_row wf _ 1 _ _ rf; have f2 := frozen_of_row wf _ 2 _ _ rf; have f3 := frozen_of_row wf _ 3 _ _ rf; have f4 := frozen_of_row wf _ 4 _ _ rf; have f5 := frozen_of_row wf _ 5 _ _ rf; have f6 := frozen_of_row wf _ 6 _ _ rf; have f7 := frozen_of_row wf _ 7 _ _ rf
      simp at o0 s0 o1 s1 o2 s2 o3 s3 o4 s4 o5 s5 o6 s6 o7 s7
      clear kf rf
      go_wp2
      refine bodyPost_ret (results_cell_row rfl _ _ _ _ _ (0, 0) _ rfl (heap_setCell_same _ _ 7 _ _ _ (heap_setCell_same _ _ 6 _ _ _ (heap_setCell_same _ _ 5 _ _ _ (heap_setCell_same _ _ 4 _ _ _ (heap_setCell_same _ _ 3 _ _ _ (heap_setCell_same _ _ 2 _ _ _ (heap_setCell_same _ _ 1 _ _ _ (heap_setCell_same _ _ 0 _ _ _ RF.out)))))))) Tryz.underlying41 rfl (by kernel_rfl)) rfl ?_
      rw [ER.out, ← HR3.out]
      have lo := J.out.lo
      have zz := Z1.out
      exact rans_of (W := wr) J.out.kb.own J.out.n1 (J.out.oc.mono (by omega)) (J.out.on.mono (by omega)) J.out.ap (by omega) (by simp; have := SF.out; have := J.out.bw.size; omega) (by simp; have := SF.out; omega) (fun b cs' t hb ht => ((Below.heap_setCell _ ⟨w.heap.size, 7, none⟩ _ _ (blk_ne hb RB.out ht)).trans ((Below.heap_setCell _ ⟨w.heap.size, 6, none⟩ _ _ (blk_ne hb RB.out ht)).trans ((Below.heap_setCell _ ⟨w.heap.size, 5, none⟩ _ _ (blk_ne hb RB.out ht)).trans ((Below.heap_setCell _ ⟨w.heap.size, 4, none⟩ _ _ (blk_ne hb RB.out ht)).trans ((Below.heap_setCell _ ⟨w.heap.size, 3, none⟩ _ _ (blk_ne hb RB.out ht)).trans ((Below.heap_setCell _ ⟨w.heap.size, 2, none⟩ _ _ (blk_ne hb RB.out ht)).trans ((Below.heap_setCell _ ⟨w.heap.size, 1, none⟩ _ _ (blk_ne hb RB.out ht)).trans ((Below.heap_setCell _ ⟨w.heap.size, 0, none⟩ _ _ (blk_ne hb RB.out ht)).trans (FF.out b (blk_ne hb J.out.box ht))))))))))) (((((((((B1.out.trans (BF.out.mono (by omega))).setCell (p := ⟨w.heap.size, 0, none⟩) (by simp) _).setCell (p := ⟨w.heap.size, 1, none⟩) (by simp) _).setCell (p := ⟨w.heap.size, 2, none⟩) (by simp) _).setCell (p := ⟨w.heap.size, 3, none⟩) (by simp) _).setCell (p := ⟨w.heap.size, 4, none⟩) (by simp) _).setCell (p := ⟨w.heap.size, 5, none⟩) (by simp) _).setCell (p := ⟨w.heap.size, 6, none⟩) (by simp) _).setCell (p := ⟨w.heap.size, 7, none⟩) (by simp) _)

end Go.Proofs.YtckapndpefkcgaaGreat
