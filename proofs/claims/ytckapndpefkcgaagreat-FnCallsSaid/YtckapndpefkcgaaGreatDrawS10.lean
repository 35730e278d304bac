/-
  What the draws of two kernels, and of a number of slots, answer. For codes of at most 2^20 bytes.
-/
import Derived.Test.YtckapndpefkcgaaGreatDrawT10
import Derived.Test.YtckapndpefkcgaaGreatDraw2
import Derived.Test.YtckapndpefkcgaaGreatU8s
set_option maxHeartbeats 1000000
namespace Go.Proofs.YtckapndpefkcgaaGreat
open List renaming getElem_toArray → zz1, getElem_cons_succ → zz2, getElem_cons_zero → zz3, setIfInBounds_toArray → zz4, set_cons_zero → zz5, set_cons_succ → zz6
open Go.RowKit
set_option maxRecDepth 100000

def TwoKD (w : World) (e : Ending) (w' : World) : Prop :=
  ∃ (A1 : Option Addr) (n1 c1 : Nat) (A2 : Option Addr) (n2 c2 : Nat) (A3 : Option Addr) (n3 c3 : Nat) (K : Ker) (D1 : Option Addr) (m1 d1 : Nat) (D2 : Option Addr) (m2 d2 : Nat) (D3 : Option Addr) (m3 d3 : Nat) (L : Ker),
    e = .returned (.tuple #[.agg #[.slice A1 n1 c1, .slice A2 n2 c2, .slice A3 n3 c3, .int .i64 K.tick, .int .i64 K.run], .agg #[.slice D1 m1 d1, .slice D2 m2 d2, .slice D3 m3 d3, .int .i64 L.tick, .int .i64 L.run]]) ∧ KRead w' w.heap.size w'.heap.size A1 n1 A2 n2 A3 n3 K ∧ KRead w' w.heap.size w'.heap.size D1 m1 D2 m2 D3 m3 L ∧ (n1 ≤ 12 ∧ n2 ≤ 4 ∧ n3 ≤ 5) ∧ (m1 ≤ 12 ∧ m2 ≤ 4 ∧ m3 ≤ 5) ∧ Below w.heap.size w w'
theorem set5_block10 {W : World} {s : Nat} {t : TypeId} {v0 v1 v2 v3 v4 : Value} (h : W.heap[s]? = some (.cells #[v0, v1, v2, v3, v4] t (0, 0))) : (W.cell? ⟨s, 0, none⟩ = some v0 ∧ W.cell? ⟨s, 1, none⟩ = some v1 ∧ W.cell? ⟨s, 2, none⟩ = some v2 ∧ W.cell? ⟨s, 3, none⟩ = some v3 ∧ W.cell? ⟨s, 4, none⟩ = some v4) ∧ (W.frozen? ⟨s, 0, none⟩ = false ∧ W.frozen? ⟨s, 1, none⟩ = false ∧ W.frozen? ⟨s, 2, none⟩ = false ∧ W.frozen? ⟨s, 3, none⟩ = false ∧ W.frozen? ⟨s, 4, none⟩ = false) :=
  ⟨⟨cell_of_row W s 0 _ _ _ h, cell_of_row W s 1 _ _ _ h, cell_of_row W s 2 _ _ _ h, cell_of_row W s 3 _ _ _ h, cell_of_row W s 4 _ _ _ h⟩, ⟨frozen_of_row W s 0 _ _ h, frozen_of_row W s 1 _ _ h, frozen_of_row W s 2 _ _ h, frozen_of_row W s 3 _ _ h, frozen_of_row W s 4 _ _ h⟩⟩

set_option maxHeartbeats 8000000 in
theorem DrawSameKernels_any (lo hi : Nat) (A : Option Addr) (k c : Nat) (b : Nat → Int) (w : World) (hk : k ≤ 1048576) (hb : ∀ j, 0 ≤ b j ∧ b j ≤ 255) (h : Sl w lo hi A k (fun j => .int .u8 (b j))) :
    Calls Tryz.prog 37 #[.slice A k c] w (TwoKD w) := by
  have HBY := Lib.hid hb
  have CD : Hid (∀ W, Below w.heap.size w W → Sl W lo (min hi w.heap.size) A k (fun j => .int .u8 (b j))) := fun W hW => h.lt.below hW (by omega)
  obtain ⟨w1, hw1⟩ : ∃ w1, w1 = w.alloc (.cells #[.slice none 0 0, .slice none 0 0, .slice none 0 0, .int .i64 0, .int .i64 0] 39) := ⟨_, rfl⟩
  obtain ⟨w2, hw2⟩ : ∃ w2, w2 = w1.alloc (.cells #[.slice none 0 0, .slice none 0 0, .slice none 0 0, .int .i64 0, .int .i64 0] 39) := ⟨_, rfl⟩
  have z1 : w1.heap.size = w.heap.size + 1 := by rw [hw1]; simp
  have z2 : w2.heap.size = w1.heap.size + 1 := by rw [hw2]; simp
  have N1 : Below w.heap.size w w1 := by rw [hw1]; exact below_new w _
  have N2 : Below w1.heap.size w1 w2 := by rw [hw2]; exact below_new w1 _
  have K1 : w1.heap[w.heap.size]? = some (.cells #[.slice none 0 0, .slice none 0 0, .slice none 0 0, .int .i64 0, .int .i64 0] 39 (0, 0)) := by rw [hw1]; exact heap_alloc_new w _
  have A2' : w2.heap[w.heap.size + 1]? = some (.cells #[.slice none 0 0, .slice none 0 0, .slice none 0 0, .int .i64 0, .int .i64 0] 39 (0, 0)) := by rw [hw2, ← z1]; exact heap_alloc_new w1 _
  have K2 := (N2.block w.heap.size (by omega)).trans K1
  have FB : Hid (∀ W, Below w2.heap.size w2 W → W.heap[w.heap.size]? = some (.cells #[.slice none 0 0, .slice none 0 0, .slice none 0 0, .int .i64 0, .int .i64 0] 39 (0, 0)) ∧ W.heap[w.heap.size + 1]? = some (.cells #[.slice none 0 0, .slice none 0 0, .slice none 0 0, .int .i64 0, .int .i64 0] 39 (0, 0)) ∧ Below w.heap.size w W) := fun W hW =>
    ⟨(hW.block _ (by omega)).trans K2, (hW.block _ (by omega)).trans A2', N1.trans ((N2.trans (hW.mono (by omega))).mono (by omega))⟩
  have HW1 := Lib.hid hw1; have HW2 := Lib.hid hw2
  obtain ⟨g, hgz⟩ : ∃ g, g = w2.heap.size := ⟨_, rfl⟩
  have C1 := Lib.hid (l1Source_any A k c w2)
  rw [← hgz] at C1
  have hg1 : g ≤ w2.heap.size := by omega
  have hg2 : w2.heap.size ≤ g := by omega
  have hg3 : w.heap.size + 2 = g := by omega
  clear h hb hw1 hw2 z1 z2 N1 N2 K1 A2' K2 hgz
  go_enter Tryz.func37, Tryz.ntmps37
  go_upto_region 1 with (fail)
  rw [← HW1.out, ← HW2.out]
  clear HW1 HW2
  go_wp2_with fail
  refine C1.out.mono ?_
  rintro e w3' ⟨rfl, hs3, hb3⟩
  obtain ⟨w3, hw3⟩ : ∃ V, V = w3' := ⟨_, rfl⟩
  rw [← hw3] at hs3 hb3 ⊢
  clear hw3
  have S3 := Lib.hid hs3
  have B3 : Hid (Below w2.heap.size w2 w3) := hb3.mono hg2
  have z3 : g < w3.heap.size := hs3.lt
  clear hs3 hb3 C1
  have C2 := Lib.hid (l3Kernel_any lo (min hi w.heap.size) g A k c 0 b w3 hk (by omega) HBY.out (CD.out w3 (FB.out w3 B3.out).2.2) (by omega) S3.out)
  go_wp2_with fail
  refine C2.out.mono ?_
  rintro e w4 ⟨p, K, a4, rfl, hko, hsk, htk, hlo, ha4, hs4, ho4, _⟩
  have HN : Hid (1 ≤ p.n1 ∧ p.n1 ≤ 12) := by have := vf_zero hsk.v; have := hko.l1; show _ ∧ _; omega
  have z4 := ho4.1.size
  have B4 : Hid (Below w2.heap.size w2 w4) := B3.out.trans (ho4.1.mono hg2)
  obtain ⟨w5, hw5⟩ : ∃ V, V = w4.alloc (.cells #[.slice p.A1 p.n1 p.c1, .slice p.A2 4 p.c2, .slice p.A3 4 p.c3, .int .i64 K.tick, .int .i64 K.run] 39) := ⟨_, rfl⟩
  obtain ⟨s, hsz⟩ : ∃ s, s = w4.heap.size := ⟨_, rfl⟩
  have N5 : Below w4.heap.size w4 w5 := by rw [hw5]; exact below_new w4 _
  have z5 : w5.heap.size = s + 1 := by rw [hw5, hsz]; simp
  have hsl : w3.heap.size ≤ s := by omega
  have B5 : Hid (Below w2.heap.size w2 w5) := B4.out.trans (N5.mono (by have := B4.out.size; omega))
  have BK5 : Hid (KB w5 s p K) := ⟨by rw [hw5, hsz]; exact heap_alloc_new w4 _, hko.keepB (N5.block _ (by omega)) (N5.block _ (by omega)) (N5.block _ (by omega)), by omega, by omega, by omega⟩
  have LO : Hid (w3.heap.size ≤ p.g1 ∧ w3.heap.size ≤ p.g2 ∧ w3.heap.size ≤ p.g3) := ⟨hlo.1, hlo.2.1, hlo.2.2.1⟩
  have S5 : Hid (Src w5 g A k c a4) := hs4.below N5
  have HW5 := Lib.hid hw5; have HS := Lib.hid hsz
  clear hko hsk htk hlo hs4 ho4 C2 hw5 hsz N5 S3 B4 B3
  go_upto_region 3 with (fail)
  rw [← HW5.out, ← HS.out]
  clear HW5 HS
  have CH := Lib.hid (l1Chance_any lo (min hi w.heap.size) g A k c a4 2 b w5 (by omega) hk (by omega) HBY.out (CD.out w5 (FB.out w5 B5.out).2.2) (by omega) S5.out)
  go_wp2_with fail
  refine CH.out.mono ?_
  rintro e w8 ⟨y, rfl, _, ho8⟩
  have B8 : Hid (Below w2.heap.size w2 w8) := B5.out.trans (ho8.1.mono hg2)
  have BK8 : Hid (KB w8 s p K) := by
    refine BK5.out.kept (gs := [g]) ⟨ho8.1.mono (Nat.zero_le _), fun j hj hn => ?_⟩ (by simp; omega) (by have := LO.out; simp; omega) (by have := LO.out; simp; omega) (by have := LO.out; simp; omega)
    simp only [List.mem_cons, List.not_mem_nil, or_false] at hn
    rcases Nat.lt_or_ge j g with q | q
    · exact ho8.1.block j q
    · exact ho8.2 j (by omega) hj
  have z8 := ho8.1.size
  clear ho8 CH S5 BK5 B5
  have KS : Hid (∀ W, KB W s p K → W.cell? ⟨s, 0, none⟩ = some (.slice p.A1 p.n1 p.c1) ∧ W.cell? ⟨s, 1, none⟩ = some (.slice p.A2 4 p.c2) ∧ W.cell? ⟨s, 2, none⟩ = some (.slice p.A3 4 p.c3) ∧ W.cell? ⟨s, 3, none⟩ = some (.int .i64 K.tick) ∧ W.cell? ⟨s, 4, none⟩ = some (.int .i64 K.run)) := fun W hk' => hk'.cells
  have STP : Hid (∀ W, Below w8.heap.size w8 W → Below w2.heap.size w2 W ∧ KB W s p K) := fun W hW => ⟨B8.out.trans (hW.mono (by omega)), BK8.out.kept (Kept.of_below hW []) (by simp) (by simp) (by simp) (by simp)⟩
  have d1 : ¬ w.heap.size + 1 = w.heap.size := by omega
  have RDK : Hid (∀ W, KB W s p K → KRead W w3.heap.size W.heap.size p.A1 p.n1 p.A2 4 p.A3 4 K) := fun W hb' => by
    have lo := LO.out
    have l2 := hb'.lt2
    have l1 := hb'.lt1 HN.out.1
    exact ⟨⟨hb'.own.l1, hb'.own.l2, hb'.own.l3⟩, hb'.own.m1.sl.wide (by omega) (by omega), hb'.own.m2.sl.wide (by omega) (by omega), hb'.own.m3.sl.wide (by omega) (by omega)⟩
  rcases y with _ | _
  · go_wp2_with fail
    refine wp_region_held_drew (S := fun W => W.cell? ⟨s, 0, none⟩ = some (.slice p.A1 p.n1 p.c1) ∧ W.cell? ⟨s, 1, none⟩ = some (.slice p.A2 4 p.c2) ∧ W.cell? ⟨s, 2, none⟩ = some (.slice p.A3 4 p.c3) ∧ W.cell? ⟨s, 3, none⟩ = some (.int .i64 K.tick) ∧ W.cell? ⟨s, 4, none⟩ = some (.int .i64 K.run)) (by kernel_rfl) (KS.out w8 BK8.out) (fun hHeld => ?_)
    obtain ⟨v0, hv0⟩ : ∃ v0, v0 = w8.drew := ⟨_, rfl⟩
    have BL0 : Hid (Below w8.heap.size w8 v0) := by rw [hv0]; exact Below.drew (Below.refl _ _)
    rw [← hv0] at hHeld ⊢
    clear hv0
    refine tkH 0 ?_ rfl ?_ hHeld ?_; rotate_left; (intro w hSw; (try dsimp only at hSw); go_simp; try with_reducible rfl); try simp only [Act.put, zz1, zz2, zz3, zz4, zz5, zz6]
    refine tkH 1 ?_ rfl ?_ hHeld ?_; rotate_left; (intro w hSw; (try dsimp only at hSw); go_simp; try with_reducible rfl); try simp only [Act.put, zz1, zz2, zz3, zz4, zz5, zz6]
    refine wpAnyH_ready (rs := [2]) (by kernel_rfl) (by simp) ?_
    refine AllReadyH.cons (o := _) rfl (fun K0 hK0 => ?_) AllReadyH.nil
    go_simp
    refine (l1Source_any A k c v0).mono ?_
    rintro e9 w9 ⟨rfl, hs9, hb9⟩
    have E9 := Lib.hid (BL0.out.trans (hb9.mono BL0.out.size))
    obtain ⟨g9, hg9⟩ : ∃ g9, g9 = v0.heap.size := ⟨_, rfl⟩
    rw [← hg9] at hs9 ⊢
    have G9 : w.heap.size ≤ g9 := by have := BL0.out.size; omega
    have G8 : w8.heap.size ≤ g9 := by have := BL0.out.size; omega
    clear hg9
    go_wp2_with fail
    skip
    refine hK0.out _ _ (KS.out _ (STP.out w9 E9.out).2) (fun hHeld => ?_)
    clear hK0 K0
    try simp only [Act.put, zz1, zz2, zz3, zz4, zz5, zz6]
    refine wpAnyH_ready (rs := [3]) (by kernel_rfl) (by simp) ?_
    refine AllReadyH.cons (o := _) rfl (fun K0 hK0 => ?_) AllReadyH.nil
    go_simp
    have Z9 : w8.heap.size ≤ w9.heap.size := E9.out.size
    refine (l3Bent_any lo (min hi w.heap.size) g9 A k c 0 b w9 hk (by omega) HBY.out (CD.out w9 (FB.out w9 (STP.out w9 E9.out).1).2.2) (by omega) hs9).mono ?_
    rintro e9 wX ⟨D1, m1, d1, D2, m2, d2, D3, m3, d3, L, a9, rfl, hkd, hnil, hmm, _, _, ho9⟩
    have EwX := Lib.hid (E9.out.trans (ho9.1.mono G8))
    have BwX := Lib.hid (STP.out wX EwX.out).1
    have KL9 := Lib.hid hkd
    have MM9 := Lib.hid hmm
    have ZX : w9.heap.size ≤ wX.heap.size := ho9.1.size
    clear hkd hnil hmm ho9 hs9 hb9
    go_wp2_with fail
    skip
    refine hK0.out _ _ (KS.out _ (STP.out wX EwX.out).2) (fun hHeld => ?_)
    clear hK0 K0
    try simp only [Act.put, zz1, zz2, zz3, zz4, zz5, zz6]
    refine wpAnyH_ready (rs := [4]) (by kernel_rfl) (by simp) ?_
    refine AllReadyH.cons (o := _) rfl (fun K0 hK0 => ?_) AllReadyH.nil
    obtain ⟨⟨x0, x1, x2, x3, x4⟩, ⟨y0, y1, y2, y3, y4⟩⟩ := set5_block10 (FB.out wX BwX.out).1
    obtain ⟨⟨u0, u1, u2, u3, u4⟩, ⟨v0_, v1, v2, v3, v4⟩⟩ := set5_block10 (FB.out wX BwX.out).2.1
    go_simp
    refine hK0.out _ _ (by have hx : ((((((wX.setCell ⟨w.heap.size, 0, none⟩ (.slice p.A1 p.n1 p.c1)).setCell ⟨w.heap.size, 1, none⟩ (.slice p.A2 4 p.c2)).setCell ⟨w.heap.size, 2, none⟩ (.slice p.A3 4 p.c3)).setCell ⟨w.heap.size, 3, none⟩ (.int .i64 K.tick)).setCell ⟨w.heap.size, 4, none⟩ (.int .i64 K.run))).heap[s]? = _ := (five_other3 wX w.heap.size s (by omega) _ _ _ _ _).trans (STP.out wX EwX.out).2.box; exact (set5_block10 hx).1) (fun hHeld => ?_)
    clear hK0 K0
    try simp only [Act.put, zz1, zz2, zz3, zz4, zz5, zz6]
    refine wpAnyH_ready (rs := [5]) (by kernel_rfl) (by simp) ?_
    refine AllReadyH.cons (o := _) rfl (fun K0 hK0 => ?_) AllReadyH.nil
    go_simp
    refine hK0.out _ _ (by have hx : (((((((((((wX.setCell ⟨w.heap.size, 0, none⟩ (.slice p.A1 p.n1 p.c1)).setCell ⟨w.heap.size, 1, none⟩ (.slice p.A2 4 p.c2)).setCell ⟨w.heap.size, 2, none⟩ (.slice p.A3 4 p.c3)).setCell ⟨w.heap.size, 3, none⟩ (.int .i64 K.tick)).setCell ⟨w.heap.size, 4, none⟩ (.int .i64 K.run)).setCell ⟨w.heap.size + 1, 0, none⟩ (.slice D1 m1 d1)).setCell ⟨w.heap.size + 1, 1, none⟩ (.slice D2 m2 d2)).setCell ⟨w.heap.size + 1, 2, none⟩ (.slice D3 m3 d3)).setCell ⟨w.heap.size + 1, 3, none⟩ (.int .i64 L.tick)).setCell ⟨w.heap.size + 1, 4, none⟩ (.int .i64 L.run))).heap[s]? = _ := (five_other3 _ (w.heap.size + 1) s (by omega) _ _ _ _ _).trans ((five_other3 wX w.heap.size s (by omega) _ _ _ _ _).trans (STP.out wX EwX.out).2.box); exact (set5_block10 hx).1) (fun hHeld => ?_)
    clear hK0 K0
    try simp only [Act.put, zz1, zz2, zz3, zz4, zz5, zz6]
    refine wpAnyH_done (by kernel_rfl) ?_ _
    clear hHeld
    have BK9 : Hid (KRead wX w3.heap.size wX.heap.size p.A1 p.n1 p.A2 4 p.A3 4 K) := RDK.out wX (STP.out wX EwX.out).2
    obtain ⟨wf, hwf⟩ : ∃ V, V = ((((((((((wX.setCell ⟨w.heap.size, 0, none⟩ (.slice p.A1 p.n1 p.c1)).setCell ⟨w.heap.size, 1, none⟩ (.slice p.A2 4 p.c2)).setCell ⟨w.heap.size, 2, none⟩ (.slice p.A3 4 p.c3)).setCell ⟨w.heap.size, 3, none⟩ (.int .i64 K.tick)).setCell ⟨w.heap.size, 4, none⟩ (.int .i64 K.run)).setCell ⟨w.heap.size + 1, 0, none⟩ (.slice D1 m1 d1)).setCell ⟨w.heap.size + 1, 1, none⟩ (.slice D2 m2 d2)).setCell ⟨w.heap.size + 1, 2, none⟩ (.slice D3 m3 d3)).setCell ⟨w.heap.size + 1, 3, none⟩ (.int .i64 L.tick)).setCell ⟨w.heap.size + 1, 4, none⟩ (.int .i64 L.run)) := ⟨_, rfl⟩
    have HK : wf.heap[w.heap.size]? = some (.cells #[.slice p.A1 p.n1 p.c1, .slice p.A2 4 p.c2, .slice p.A3 4 p.c3, .int .i64 K.tick, .int .i64 K.run] 39 (0, 0)) := by rw [hwf]; exact ((Below.heap_setCell _ ⟨w.heap.size + 1, 4, none⟩ _ w.heap.size (by simp)).trans ((Below.heap_setCell _ ⟨w.heap.size + 1, 3, none⟩ _ w.heap.size (by simp)).trans ((Below.heap_setCell _ ⟨w.heap.size + 1, 2, none⟩ _ w.heap.size (by simp)).trans ((Below.heap_setCell _ ⟨w.heap.size + 1, 1, none⟩ _ w.heap.size (by simp)).trans ((Below.heap_setCell _ ⟨w.heap.size + 1, 0, none⟩ _ w.heap.size (by simp)).trans (five3 (FB.out wX BwX.out).1 _ _ _ _ _))))))
    have HA : wf.heap[w.heap.size + 1]? = some (.cells #[.slice D1 m1 d1, .slice D2 m2 d2, .slice D3 m3 d3, .int .i64 L.tick, .int .i64 L.run] 39 (0, 0)) := by rw [hwf]; exact (five3 ((five_other3 wX w.heap.size (w.heap.size + 1) (by omega) _ _ _ _ _).trans (FB.out wX BwX.out).2.1) _ _ _ _ _)
    have HV : ∀ q, q ≠ w.heap.size → q ≠ w.heap.size + 1 → wf.heap[q]? = wX.heap[q]? := fun q h1 h2 => by rw [hwf]; simp only [World.heap_setCell_ne10 _ _ _ q h1, World.heap_setCell_ne10 _ _ _ q h2]
    have HZ : wf.heap.size = wX.heap.size := by rw [hwf]; simp
    have HBL : Below w.heap.size w wf := by rw [hwf]; exact (((((((((((FB.out wX BwX.out).2.2.setCell (p := ⟨w.heap.size, 0, none⟩) (by simp) _).setCell (p := ⟨w.heap.size, 1, none⟩) (by simp) _).setCell (p := ⟨w.heap.size, 2, none⟩) (by simp) _).setCell (p := ⟨w.heap.size, 3, none⟩) (by simp) _).setCell (p := ⟨w.heap.size, 4, none⟩) (by simp) _).setCell (p := ⟨w.heap.size + 1, 0, none⟩) (by simp) _).setCell (p := ⟨w.heap.size + 1, 1, none⟩) (by simp) _).setCell (p := ⟨w.heap.size + 1, 2, none⟩) (by simp) _).setCell (p := ⟨w.heap.size + 1, 3, none⟩) (by simp) _).setCell (p := ⟨w.heap.size + 1, 4, none⟩) (by simp) _)
    rw [← hwf]
    clear hwf
    go_wp2
    refine bodyPost_ret (results_two10 rfl _ _ w.heap.size (w.heap.size + 1) _ _ _ _ (0, 0) (0, 0) _ _ rfl rfl HK HA Tryz.underlying39 rfl (by kernel_rfl) Tryz.underlying39 rfl (by kernel_rfl)) rfl ?_
    exact ⟨_, _, _, _, _, _, _, _, _, K, _, _, _, _, _, _, _, _, _, L, rfl, (BK9.out.keep fun q h1 h2 => HV q (by omega) (by omega)).wide (by omega) (by omega), (KL9.out.keep fun q h1 h2 => HV q (by omega) (by omega)).wide (by omega) (by omega), ⟨HN.out.2, by omega, by omega⟩, MM9.out, HBL⟩
  · go_wp2_with fail
    refine wp_region_held_drew (S := fun W => W.cell? ⟨s, 0, none⟩ = some (.slice p.A1 p.n1 p.c1) ∧ W.cell? ⟨s, 1, none⟩ = some (.slice p.A2 4 p.c2) ∧ W.cell? ⟨s, 2, none⟩ = some (.slice p.A3 4 p.c3) ∧ W.cell? ⟨s, 3, none⟩ = some (.int .i64 K.tick) ∧ W.cell? ⟨s, 4, none⟩ = some (.int .i64 K.run)) (by kernel_rfl) (KS.out w8 BK8.out) (fun hHeld => ?_)
    obtain ⟨v0, hv0⟩ : ∃ v0, v0 = w8.drew := ⟨_, rfl⟩
    have BL0 : Hid (Below w8.heap.size w8 v0) := by rw [hv0]; exact Below.drew (Below.refl _ _)
    rw [← hv0] at hHeld ⊢
    clear hv0
    refine tkH 0 ?_ rfl ?_ hHeld ?_; rotate_left; (intro w hSw; (try dsimp only at hSw); go_simp; try with_reducible rfl); try simp only [Act.put, zz1, zz2, zz3, zz4, zz5, zz6]
    refine wpAnyH_ready (rs := [1]) (by kernel_rfl) (by simp) ?_
    refine AllReadyH.cons (o := _) rfl (fun K0 hK0 => ?_) AllReadyH.nil
    go_simp
    have E0 := BL0
    have K0_ := Lib.hid (STP.out v0 E0.out).2
    refine (l3Copy_any s w3.heap.size v0.heap.size p.A1 p.n1 p.c1 p.A2 p.c2 p.A3 p.c3 K.tick K.run K v0 K0_.out.box (RDK.out v0 K0_.out) K0_.out.own.nil1 HN.out.2 HN.out.1).mono ?_
    rintro e9 wX ⟨p2, rfl, hko2, hlo2, hb9⟩
    have EwX := Lib.hid (BL0.out.trans (hb9.mono BL0.out.size))
    have BwX := Lib.hid (STP.out wX EwX.out).1
    have ZV : w8.heap.size ≤ v0.heap.size := BL0.out.size
    have KL9 : Hid (KRead wX v0.heap.size wX.heap.size p2.A1 p2.n1 p2.A2 4 p2.A3 4 K) := ⟨⟨hko2.l1, hko2.l2, hko2.l3⟩, hko2.m1.sl.wide (by omega) (by omega), hko2.m2.sl.wide (by omega) (by omega), hko2.m3.sl.wide (by omega) (by omega)⟩
    have MM9 : Hid (p2.n1 ≤ 12 ∧ 4 ≤ 4 ∧ 4 ≤ 5) := by have a := hko2.l1; have b := K0_.out.own.l1; have c := HN.out; exact ⟨by omega, by omega, by omega⟩
    have ZX : v0.heap.size ≤ wX.heap.size := hb9.size
    clear hko2 hlo2 hb9
    go_wp2_with fail
    skip
    refine hK0.out _ _ (KS.out _ (STP.out wX EwX.out).2) (fun hHeld => ?_)
    clear hK0 K0
    try simp only [Act.put, zz1, zz2, zz3, zz4, zz5, zz6]
    refine wpAnyH_ready (rs := [2]) (by kernel_rfl) (by simp) ?_
    refine AllReadyH.cons (o := _) rfl (fun K0 hK0 => ?_) AllReadyH.nil
    obtain ⟨⟨x0, x1, x2, x3, x4⟩, ⟨y0, y1, y2, y3, y4⟩⟩ := set5_block10 (FB.out wX BwX.out).1
    obtain ⟨⟨u0, u1, u2, u3, u4⟩, ⟨v0_, v1, v2, v3, v4⟩⟩ := set5_block10 (FB.out wX BwX.out).2.1
    go_simp
    refine hK0.out _ _ (by have hx : ((((((wX.setCell ⟨w.heap.size, 0, none⟩ (.slice p.A1 p.n1 p.c1)).setCell ⟨w.heap.size, 1, none⟩ (.slice p.A2 4 p.c2)).setCell ⟨w.heap.size, 2, none⟩ (.slice p.A3 4 p.c3)).setCell ⟨w.heap.size, 3, none⟩ (.int .i64 K.tick)).setCell ⟨w.heap.size, 4, none⟩ (.int .i64 K.run))).heap[s]? = _ := (five_other3 wX w.heap.size s (by omega) _ _ _ _ _).trans (STP.out wX EwX.out).2.box; exact (set5_block10 hx).1) (fun hHeld => ?_)
    clear hK0 K0
    try simp only [Act.put, zz1, zz2, zz3, zz4, zz5, zz6]
    refine wpAnyH_ready (rs := [3]) (by kernel_rfl) (by simp) ?_
    refine AllReadyH.cons (o := _) rfl (fun K0 hK0 => ?_) AllReadyH.nil
    go_simp
    refine hK0.out _ _ (by have hx : (((((((((((wX.setCell ⟨w.heap.size, 0, none⟩ (.slice p.A1 p.n1 p.c1)).setCell ⟨w.heap.size, 1, none⟩ (.slice p.A2 4 p.c2)).setCell ⟨w.heap.size, 2, none⟩ (.slice p.A3 4 p.c3)).setCell ⟨w.heap.size, 3, none⟩ (.int .i64 K.tick)).setCell ⟨w.heap.size, 4, none⟩ (.int .i64 K.run)).setCell ⟨w.heap.size + 1, 0, none⟩ (.slice p2.A1 p2.n1 p2.c1)).setCell ⟨w.heap.size + 1, 1, none⟩ (.slice p2.A2 4 p2.c2)).setCell ⟨w.heap.size + 1, 2, none⟩ (.slice p2.A3 4 p2.c3)).setCell ⟨w.heap.size + 1, 3, none⟩ (.int .i64 K.tick)).setCell ⟨w.heap.size + 1, 4, none⟩ (.int .i64 K.run))).heap[s]? = _ := (five_other3 _ (w.heap.size + 1) s (by omega) _ _ _ _ _).trans ((five_other3 wX w.heap.size s (by omega) _ _ _ _ _).trans (STP.out wX EwX.out).2.box); exact (set5_block10 hx).1) (fun hHeld => ?_)
    clear hK0 K0
    try simp only [Act.put, zz1, zz2, zz3, zz4, zz5, zz6]
    refine wpAnyH_done (by kernel_rfl) ?_ _
    clear hHeld
    have BK9 : Hid (KRead wX w3.heap.size wX.heap.size p.A1 p.n1 p.A2 4 p.A3 4 K) := RDK.out wX (STP.out wX EwX.out).2
    obtain ⟨wf, hwf⟩ : ∃ V, V = ((((((((((wX.setCell ⟨w.heap.size, 0, none⟩ (.slice p.A1 p.n1 p.c1)).setCell ⟨w.heap.size, 1, none⟩ (.slice p.A2 4 p.c2)).setCell ⟨w.heap.size, 2, none⟩ (.slice p.A3 4 p.c3)).setCell ⟨w.heap.size, 3, none⟩ (.int .i64 K.tick)).setCell ⟨w.heap.size, 4, none⟩ (.int .i64 K.run)).setCell ⟨w.heap.size + 1, 0, none⟩ (.slice p2.A1 p2.n1 p2.c1)).setCell ⟨w.heap.size + 1, 1, none⟩ (.slice p2.A2 4 p2.c2)).setCell ⟨w.heap.size + 1, 2, none⟩ (.slice p2.A3 4 p2.c3)).setCell ⟨w.heap.size + 1, 3, none⟩ (.int .i64 K.tick)).setCell ⟨w.heap.size + 1, 4, none⟩ (.int .i64 K.run)) := ⟨_, rfl⟩
    have HK : wf.heap[w.heap.size]? = some (.cells #[.slice p.A1 p.n1 p.c1, .slice p.A2 4 p.c2, .slice p.A3 4 p.c3, .int .i64 K.tick, .int .i64 K.run] 39 (0, 0)) := by rw [hwf]; exact ((Below.heap_setCell _ ⟨w.heap.size + 1, 4, none⟩ _ w.heap.size (by simp)).trans ((Below.heap_setCell _ ⟨w.heap.size + 1, 3, none⟩ _ w.heap.size (by simp)).trans ((Below.heap_setCell _ ⟨w.heap.size + 1, 2, none⟩ _ w.heap.size (by simp)).trans ((Below.heap_setCell _ ⟨w.heap.size + 1, 1, none⟩ _ w.heap.size (by simp)).trans ((Below.heap_setCell _ ⟨w.heap.size + 1, 0, none⟩ _ w.heap.size (by simp)).trans (five3 (FB.out wX BwX.out).1 _ _ _ _ _))))))
    have HA : wf.heap[w.heap.size + 1]? = some (.cells #[.slice p2.A1 p2.n1 p2.c1, .slice p2.A2 4 p2.c2, .slice p2.A3 4 p2.c3, .int .i64 K.tick, .int .i64 K.run] 39 (0, 0)) := by rw [hwf]; exact (five3 ((five_other3 wX w.heap.size (w.heap.size + 1) (by omega) _ _ _ _ _).trans (FB.out wX BwX.out).2.1) _ _ _ _ _)
    have HV : ∀ q, q ≠ w.heap.size → q ≠ w.heap.size + 1 → wf.heap[q]? = wX.heap[q]? := fun q h1 h2 => by rw [hwf]; simp only [World.heap_setCell_ne10 _ _ _ q h1, World.heap_setCell_ne10 _ _ _ q h2]
    have HZ : wf.heap.size = wX.heap.size := by rw [hwf]; simp
    have HBL : Below w.heap.size w wf := by rw [hwf]; exact (((((((((((FB.out wX BwX.out).2.2.setCell (p := ⟨w.heap.size, 0, none⟩) (by simp) _).setCell (p := ⟨w.heap.size, 1, none⟩) (by simp) _).setCell (p := ⟨w.heap.size, 2, none⟩) (by simp) _).setCell (p := ⟨w.heap.size, 3, none⟩) (by simp) _).setCell (p := ⟨w.heap.size, 4, none⟩) (by simp) _).setCell (p := ⟨w.heap.size + 1, 0, none⟩) (by simp) _).setCell (p := ⟨w.heap.size + 1, 1, none⟩) (by simp) _).setCell (p := ⟨w.heap.size + 1, 2, none⟩) (by simp) _).setCell (p := ⟨w.heap.size + 1, 3, none⟩) (by simp) _).setCell (p := ⟨w.heap.size + 1, 4, none⟩) (by simp) _)
    rw [← hwf]
    clear hwf
    go_wp2
    refine bodyPost_ret (results_two10 rfl _ _ w.heap.size (w.heap.size + 1) _ _ _ _ (0, 0) (0, 0) _ _ rfl rfl HK HA Tryz.underlying39 rfl (by kernel_rfl) Tryz.underlying39 rfl (by kernel_rfl)) rfl ?_
    exact ⟨_, _, _, _, _, _, _, _, _, K, _, _, _, _, _, _, _, _, _, K, rfl, (BK9.out.keep fun q h1 h2 => HV q (by omega) (by omega)).wide (by omega) (by omega), (KL9.out.keep fun q h1 h2 => HV q (by omega) (by omega)).wide (by omega) (by omega), ⟨HN.out.2, by omega, by omega⟩, MM9.out, HBL⟩

theorem DrawNewKernel_any (lo hi : Nat) (A : Option Addr) (k c : Nat) (b : Nat → Int) (w : World) (hk : k ≤ 1048576) (hb : ∀ j, 0 ≤ b j ∧ b j ≤ 255) (h : Sl w lo hi A k (fun j => .int .u8 (b j))) :
    Calls Tryz.prog 35 #[.slice A k c] w fun e w' => ∃ x, e = .returned (.int .i64 x) ∧ Below w.heap.size w w' := by
  have C1 := Lib.hid (DrawNewVector_any lo hi A k c b w hk hb h)
  clear h hb
  go_enter Tryz.func35, Tryz.ntmps35
  go_wp2_with fail
  refine C1.out.mono ?_
  rintro e w1 ⟨x, rfl, hb1⟩
  go_wp2
  go_ret
  exact ⟨x, rfl, hb1⟩

end Go.Proofs.YtckapndpefkcgaaGreat
