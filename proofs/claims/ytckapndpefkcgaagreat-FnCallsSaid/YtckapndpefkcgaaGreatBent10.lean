/-
  A kernel is drawn and perhaps bent: what the model's l3Bent answers. For codes of at most 2^20 bytes.
-/
import Derived.Test.YtckapndpefkcgaaGreatDrawK3
import Derived.Test.YtckapndpefkcgaaGreatDraw2
import Derived.Test.YtckapndpefkcgaaGreatU8s
set_option maxHeartbeats 1000000
namespace Go.Proofs.YtckapndpefkcgaaGreat
open List renaming getElem_toArray → zz1, getElem_cons_succ → zz2, getElem_cons_zero → zz3, setIfInBounds_toArray → zz4, set_cons_zero → zz5, set_cons_succ → zz6
open Go.RowKit
set_option maxRecDepth 100000

theorem KB.owners {w : World} {g : Nat} {p : Kp} {K : Ker} (h : KB w g p K) (hn : 1 ≤ p.n1) : ∃ off, p.A1 = some ⟨p.g1, off, none⟩ ∧ Row w p.g1 off 2 p.n1 (fun k => .int .i64 (gi K.os k)) := by
  rcases h.own.m1 with h0 | ⟨g', off, hA, h1, h2, hr⟩
  · omega
  · obtain rfl : g' = p.g1 := by omega
    exact ⟨off, hA, hr⟩
theorem KB.setOwner {w : World} {g : Nat} {p : Kp} {K : Ker} (h : KB w g p K) {off : Nat} (hA : p.A1 = some ⟨p.g1, off, none⟩) (hn : 1 ≤ p.n1) (v : Int) :
    KB (w.setCell ⟨p.g1, off, none⟩ (.int .i64 v)) g p { K with os := K.os.set 0 v } := by
  have hr := row_of_mine h.own.m1 (by omega) hA
  have r1 := hr.setInt (i := 0) (by omega) h.own.l1 v
  have far : ∀ b, b ≠ p.g1 → (w.setCell ⟨p.g1, off, none⟩ (.int .i64 v)).heap[b]? = w.heap[b]? := fun b hb => Below.heap_setCell w ⟨p.g1, off, none⟩ _ b hb
  exact ⟨(far g h.e1).trans h.box, ⟨by simp [h.own.l1], h.own.l2, h.own.l3, h.own.nil1, .inr ⟨p.g1, off, hA, Nat.le_refl _, Nat.lt_succ_self _, r1⟩,
    h.own.m2.keep fun b h1 h2 => far b (by have := h.own.d12; omega), h.own.m3.keep fun b h1 h2 => far b (by have := h.own.d13; omega), h.own.d12, h.own.d13, h.own.d23⟩, h.e1, h.e2, h.e3⟩
structure BS (w W : World) (g : Nat) (A : Option Addr) (k c a : Nat) : Prop where
  sr : Src W g A k c a
  on : Only g (g + 1) w W
  kr : W.heap[w.heap.size]? = some (.cells #[.slice none 0 0, .slice none 0 0, .slice none 0 0, .int .i64 0, .int .i64 0] 39 (0, 0))
  gw : g < w.heap.size
theorem BS.set {w W : World} {g k c a : Nat} {A : Option Addr} (h : BS w W g A k c a) {b : Nat} (hb : w.heap.size < b) (i : Nat) (v : Value) : BS w (W.setCell ⟨b, i, none⟩ v) g A k c a :=
  ⟨h.sr.setOther3 (by have := h.gw; omega) i v, h.on.setNew3 (by omega) h.gw v, (Below.heap_setCell W ⟨b, i, none⟩ v _ (by simp; omega)).trans h.kr, h.gw⟩
theorem BS.step {w W W' : World} {g k c a a' : Nat} {A : Option Addr} (h : BS w W g A k c a) (hs : Src W' g A k c a') (ho : Only g (g + 1) W W') : BS w W' g A k c a' :=
  ⟨hs, h.on.trans ho, (ho.2 _ (by have := h.gw; omega) (Array.getElem?_eq_some_iff.1 h.kr).1).trans h.kr, h.gw⟩
theorem BS.below {w W W' : World} {g k c a : Nat} {A : Option Addr} (h : BS w W g A k c a) (hb : Below W.heap.size W W') : BS w W' g A k c a :=
  ⟨h.sr.below hb, h.on.trans (Only.of_below hb (Nat.le_of_lt (Nat.lt_of_lt_of_le h.gw h.on.1.size))), (hb.block _ (Array.getElem?_eq_some_iff.1 h.kr).1).trans h.kr, h.gw⟩
theorem BS.drew {w W : World} {g k c a : Nat} {A : Option Addr} (h : BS w W g A k c a) : BS w W.drew g A k c a := h.below (Below.drew (Below.refl _ _))
structure BK (w W : World) (g s : Nat) (A : Option Addr) (k c a : Nat) (p : Kp) (K : Ker) : Prop where
  bs : BS w W g A k c a
  kb : KB W s p K
  lo : w.heap.size < s ∧ w.heap.size < p.g1 ∧ w.heap.size < p.g2 ∧ w.heap.size < p.g3
theorem BK.step {w W : World} {g s k c a : Nat} {A : Option Addr} {p : Kp} {K : Ker} {W' : World} {a' : Nat} (h : BK w W g s A k c a p K) (hs : Src W' g A k c a') (ho : Only g (g + 1) W W') : BK w W' g s A k c a' p K := by
  have gw := h.bs.gw
  have lo := h.lo
  refine ⟨h.bs.step hs ho, h.kb.kept (gs := [g]) ⟨ho.1.mono (Nat.zero_le _), fun j hj hn => ?_⟩ (by simp; omega) (by simp; omega) (by simp; omega) (by simp; omega), lo⟩
  simp only [List.mem_cons, List.not_mem_nil, or_false] at hn
  rcases Nat.lt_or_ge j g with q | q
  · exact ho.1.block j q
  · exact ho.2 j (by omega) hj
theorem BK.below {w W : World} {g s k c a : Nat} {A : Option Addr} {p : Kp} {K : Ker} {W' : World} (h : BK w W g s A k c a p K) (hb : Below W.heap.size W W') : BK w W' g s A k c a p K :=
  ⟨h.bs.below hb, h.kb.kept (Kept.of_below hb []) (by simp) (by simp) (by simp) (by simp), h.lo⟩
theorem BK.read {w W : World} {g s k c a : Nat} {A : Option Addr} {p : Kp} {K : Ker} (h : BK w W g s A k c a p K) : KRead W (w.heap.size + 1) W.heap.size p.A1 p.n1 p.A2 4 p.A3 4 K := by
  obtain ⟨l0, l1, l2, l3⟩ := h.lo
  have z2 := h.kb.lt2
  refine ⟨⟨h.kb.own.l1, h.kb.own.l2, h.kb.own.l3⟩, ?_, h.kb.own.m2.sl.wide (by omega) (by omega), h.kb.own.m3.sl.wide (by omega) (by omega)⟩
  rcases Nat.eq_zero_or_pos p.n1 with h0 | h0
  · rw [h0]; exact Sl.nil
  · exact h.kb.own.m1.sl.wide (by omega) (by have := h.kb.lt1 h0; omega)
def BentD (g : Nat) (A : Option Addr) (k c a : Nat) (w : World) (e : Ending) (w' : World) : Prop :=
  ∃ (A1 : Option Addr) (n1 c1 : Nat) (A2 : Option Addr) (n2 c2 : Nat) (A3 : Option Addr) (n3 c3 : Nat) (K : Ker) (a' : Nat), e = .returned (.agg #[.slice A1 n1 c1, .slice A2 n2 c2, .slice A3 n3 c3, .int .i64 K.tick, .int .i64 K.run]) ∧
    KRead w' w.heap.size w'.heap.size A1 n1 A2 n2 A3 n3 K ∧ (A1 = none → c1 = 0) ∧ (n1 ≤ 12 ∧ n2 ≤ 4 ∧ n3 ≤ 5) ∧ a' ≤ a + 2020 ∧ Src w' g A k c a' ∧ Only g (g + 1) w w'
theorem BS.done {w W : World} {g k c a' : Nat} {A : Option Addr} (h : BS w W g A k c a') {a : Nat} {A1 A2 A3 : Option Addr} {n1 c1 n2 c2 n3 c3 : Nat} {K : Ker} (kd : KRead W (w.heap.size + 1) W.heap.size A1 n1 A2 n2 A3 n3 K) (nil1 : A1 = none → c1 = 0) (hn : n1 ≤ 12 ∧ n2 ≤ 4 ∧ n3 ≤ 5) (ha : a' ≤ a + 2020) :
    BentD g A k c a w (.returned (.agg #[.slice A1 n1 c1, .slice A2 n2 c2, .slice A3 n3 c3, .int .i64 K.tick, .int .i64 K.run])) (((((W.setCell ⟨w.heap.size, 0, none⟩ (.slice A1 n1 c1)).setCell ⟨w.heap.size, 1, none⟩ (.slice A2 n2 c2)).setCell ⟨w.heap.size, 2, none⟩ (.slice A3 n3 c3)).setCell ⟨w.heap.size, 3, none⟩ (.int .i64 K.tick)).setCell ⟨w.heap.size, 4, none⟩ (.int .i64 K.run)) := by
  have gw := h.gw
  refine ⟨A1, n1, c1, A2, n2, c2, A3, n3, c3, K, a', rfl, (kd.keep fun b h1 h2 => five_other3 W _ _ (by omega) _ _ _ _ _).wide (by omega) (by simp [World.setCell]), nil1, hn, ha, (five_other3 W _ _ (by omega) _ _ _ _ _).trans h.sr, (((((h.on.setNew3 (Nat.le_refl _) gw _).setNew3 (Nat.le_refl _) gw _).setNew3 (Nat.le_refl _) gw _).setNew3 (Nat.le_refl _) gw _).setNew3 (Nat.le_refl _) gw _)⟩
theorem Tryz.elem_slB : Tryz.prog.underlying 36 = some (.slice (Tryz.prog.elem 36)) := by kernel_rfl
theorem Tryz.el_slB : Tryz.prog.elem 36 = 4 := by kernel_rfl
theorem Tryz.info_bool10 : (Tryz.prog.info? 4).map (fun i => (i.zero, i.size, i.bytes)) = some (some (.bool false), 1, 1) := by kernel_rfl
theorem run_tailB (b off : Nat) (W : World) :
    (Instr.sliceAt 36 (.slice (some ⟨b, off, none⟩) 4 4) (some (.int .i64 1)) none none).run Tryz.prog W = .ok (.slice (some ⟨b, off + 1, none⟩) 3 3) W := by
  have hz : (sizeOf 4).run Tryz.prog W = .ok 1 W := by
    obtain ⟨i0, hi0, hz0, hz1, hz2⟩ := info_parts Tryz.info_bool10
    simp [sizeOf, typeInfo, hi0, hz1]
  rw [run_sliceAt_slice _ _ _ _ _ _ Tryz.elem_slB, run_slice_l _ _ _ _ _ Tryz.elem_slB .i64 1 (by omega) (by omega), Tryz.el_slB, hz]
  have e0 : (⟨b, off, none⟩ : Addr).add 1 = ⟨b, off + 1, none⟩ := by simp [Addr.add]
  simp [Result.andThen, sliced, e0]
theorem gb_drop1 (bs : List Bool) (k : Nat) : gb (bs.drop 1) k = gb bs (k + 1) := by
  unfold gb
  simp [List.getD_eq_getElem?_getD, Nat.add_comm]
theorem gi_zeros10 {ac : List Int} (h : ac.length = 16) : (vals ac ++ [.int .i64 0, .int .i64 0, .int .i64 0, .int .i64 0]) = vals (ac ++ [0, 0, 0, 0]) := by simp [vals]

set_option maxHeartbeats 20000000 in
theorem l3Bent_any (lo hi g : Nat) (A : Option Addr) (k c a : Nat) (b : Nat → Int) (w : World) (hk : k ≤ 1048576) (ha : a ≤ 890000)
    (hb : ∀ j, 0 ≤ b j ∧ b j ≤ 255) (h : Sl w lo hi A k (fun j => .int .u8 (b j))) (hg : hi ≤ g) (hs : Src w g A k c a) :
    Calls Tryz.prog 66 #[.pointer (some ⟨g, 0, none⟩)] w (BentD g A k c a w) := by
  have hgw := hs.lt
  have H := Lib.hid h
  have HBY := Lib.hid hb
  have CD : Hid (∀ W, Only g (g + 1) w W → Sl W lo (min hi w.heap.size) A k (fun j => .int .u8 (b j))) := fun W hW => H.out.lt.only hW (by omega) (.inl (by omega))
  obtain ⟨w1, hw1⟩ : ∃ w1, w1 = w.alloc (.cells #[.slice none 0 0, .slice none 0 0, .slice none 0 0, .int .i64 0, .int .i64 0] 39) := ⟨_, rfl⟩
  have B1 : Hid (BS w w1 g A k c a) := by rw [hw1]; exact ⟨hs.alloc _, (Only.refl _ _ _).alloc (by omega) _, heap_alloc_new w _, hgw⟩
  have Z1 : Hid (w1.heap.size = w.heap.size + 1) := by show _ = _; rw [hw1]; simp
  have HW1 := Lib.hid hw1
  clear h hb hs hw1
  go_enter Tryz.func66, Tryz.ntmps66
  go_upto_region 1 with (fail)
  rw [← HW1.out]
  clear HW1
  have C1 := Lib.hid (l3Kernel_any lo (min hi w.heap.size) g A k c a b w1 hk (by omega) HBY.out (CD.out w1 B1.out.on) (by omega) B1.out.sr)
  go_wp2_with fail
  refine C1.out.mono ?_
  rintro e w2 ⟨p, K, a2, rfl, hko, hsk, htk, hlo, ha2, hs2, ho2, hcap⟩
  have B2 : Hid (BS w w2 g A k c a2) := B1.out.step hs2 ho2
  have SKK := Lib.hid hsk
  have CAP := Lib.hid hcap
  have HN : Hid (1 ≤ p.n1 ∧ p.n1 ≤ 12) := by have := vf_zero hsk.v; have := hko.l1; show _ ∧ _; omega
  obtain ⟨w3, hw3⟩ : ∃ w3, w3 = w2.alloc (.cells #[.slice p.A1 p.n1 p.c1, .slice p.A2 4 p.c2, .slice p.A3 4 p.c3, .int .i64 K.tick, .int .i64 K.run] 39) := ⟨_, rfl⟩
  obtain ⟨s, hsz⟩ : ∃ s, s = w2.heap.size := ⟨_, rfl⟩
  have J3 : Hid (BK w w3 g s A k c a2 p K) := by
    have z1 := Z1.out
    have nb : Below w2.heap.size w2 w3 := by rw [hw3]; exact below_new w2 _
    have z2 := ho2.1.size
    refine ⟨B2.out.below nb, ⟨by rw [hw3, hsz]; exact heap_alloc_new w2 _, hko.keepB (nb.block _ (by omega)) (nb.block _ (by omega)) (nb.block _ (by omega)), by omega, by omega, by omega⟩, by omega, by omega, by omega, by omega⟩
  have HW3 := Lib.hid hw3; have HS3 := Lib.hid hsz
  clear hko hsk htk hlo hs2 ho2 hcap hw3 hsz C1 B1 B2 Z1
  go_upto_region 2 with (fail)
  rw [← HW3.out, ← HS3.out]
  clear HW3 HS3
  have CN := Lib.hid (l1Next_any lo (min hi w.heap.size) g A k c a2 4 b w3 (by omega) hk (by omega) HBY.out (CD.out w3 J3.out.bs.on) (by omega) J3.out.bs.sr)
  go_wp2_with fail
  refine CN.out.mono ?_
  rintro e w4 ⟨at4, rfl, hat, _, hs, ho⟩
  have J4 := Lib.hid (J3.out.step hs ho)
  have hat4 : at4 < 4 := by have := hat (by omega); omega
  clear hs ho hat CN J3
  have CN := Lib.hid (l1Next_any lo (min hi w.heap.size) g A k c (a2 + 1) 18 b w4 (by omega) hk (by omega) HBY.out (CD.out w4 J4.out.bs.on) (by omega) J4.out.bs.sr)
  go_wp2_with fail
  refine CN.out.mono ?_
  rintro e w5 ⟨r, rfl, hr, _, hs, ho⟩
  have J5 := Lib.hid (J4.out.step hs ho)
  have hr18 : r < 18 := by have := hr (by omega); omega
  have lt2 := J5.out.kb.lt2
  have lt1 := J5.out.kb.lt1 HN.out.1
  have lo5 := J5.out.lo
  have gs5 := J5.out.kb.lt
  clear hs ho hr CN J4
  by_cases e0 : r = 0
  · subst e0
    have n0 : (((0 : Nat) : Int) == 0) = true := by simp
    obtain ⟨off, hA, hrow⟩ := J5.out.kb.owners HN.out.1
    have KS : Hid (∀ W K', KB W s p K' → W.cell? ⟨s, 0, none⟩ = some (.slice (some ⟨p.g1, off, none⟩) p.n1 p.c1)) := fun W K' hk' => by have q := hk'.cells.1; rw [hA] at q; exact q
    have hn0 : (0 : Int) < (p.n1 : Int) := by have := HN.out; omega
    have hn00 : 0 < p.n1 := HN.out.1
    have HR := Lib.hid hrow
    have HA := Lib.hid hA
    clear hrow hA
    go_wp2_with fail
    refine wp_region_held_drew (S := fun W => W.cell? ⟨s, 0, none⟩ = some (.slice (some ⟨p.g1, off, none⟩) p.n1 p.c1)) (by kernel_rfl) (KS.out w5 K J5.out.kb) (fun hHeld => ?_)
    obtain ⟨v0, hv0⟩ : ∃ v0, v0 = w5.drew := ⟨_, rfl⟩
    have BL0 : Hid (Below w5.heap.size w5 v0) := by rw [hv0]; exact Below.drew (Below.refl _ _)
    rw [← hv0] at hHeld ⊢
    clear hv0
    refine tkH 0 ?_ rfl ?_ hHeld ?_; rotate_left; (intro w hSw; (try dsimp only at hSw); go_simp; try with_reducible rfl); try simp only [Act.put, zz1, zz2, zz3, zz4, zz5, zz6]
    refine tkH 1 ?_ rfl ?_ hHeld ?_; rotate_left; (intro w hSw; (try dsimp only at hSw); go_simp; try with_reducible rfl); try simp only [Act.put, zz1, zz2, zz3, zz4, zz5, zz6]
    refine tkH 2 ?_ rfl ?_ hHeld ?_; rotate_left; (intro w hSw; (try dsimp only at hSw); go_simp; try with_reducible rfl); try simp only [Act.put, zz1, zz2, zz3, zz4, zz5, zz6]
    refine wpAnyH_ready (rs := [3]) (by kernel_rfl) (by simp) ?_
    refine AllReadyH.cons (o := _) rfl (fun K0 hK0 => ?_) AllReadyH.nil
    go_simp
    have J0 := Lib.hid (J5.out.below BL0.out)
    refine hK0.out _ _ (KS.out _ K (J0.out.below (below_new v0 _)).kb) (fun hHeld => ?_)
    clear hK0 K0
    try simp only [Act.put, zz1, zz2, zz3, zz4, zz5, zz6]
    refine wpAnyH_ready (rs := [4]) (by kernel_rfl) (by simp) ?_
    refine AllReadyH.cons (o := _) rfl (fun K0 hK0 => ?_) AllReadyH.nil
    go_simp
    refine (pick_lit lo (min hi w.heap.size) g A k c (a2 + 1 + 1) 4 2 #[.int .i64 (-2), .int .i64 4, .int .i64 3, .int .i64 0] b [-2, 4, 3, 0] v0 hk (by omega) HBY.out (CD.out v0 J0.out.bs.on) (by omega) J0.out.bs.sr rfl (by omega) (by omega) (fun q hq => by rcases (show q = 0 ∨ q = 1 ∨ q = 2 ∨ q = 3 by omega) with rfl | rfl | rfl | rfl <;> rfl)).mono ?_
    rintro e9 w6 ⟨r9, hr9, rfl, hs9, ho9, hz9⟩
    generalize gi [-2, 4, 3, 0] r9 = v9 at *
    have J6 := Lib.hid (J0.out.step hs9 ho9)
    go_wp2_with fail
    skip
    refine hK0.out _ _ (KS.out _ K J6.out.kb) (fun hHeld => ?_)
    clear hK0 K0
    try simp only [Act.put, zz1, zz2, zz3, zz4, zz5, zz6]
    refine tkH 5 ?_ rfl ?_ hHeld ?_; rotate_left; (intro w hSw; (try dsimp only at hSw); go_simp; try with_reducible rfl); try simp only [Act.put, zz1, zz2, zz3, zz4, zz5, zz6]
    refine wpAnyH_ready (rs := [6]) (by kernel_rfl) (by simp) ?_
    refine AllReadyH.cons (o := _) rfl (fun K0 hK0 => ?_) AllReadyH.nil
    have HR6 := (row_of_mine J6.out.kb.own.m1 (by have := HN.out; omega) HA.out)
    have c6 := HR6.cell (k := 0) (by have := HN.out; omega)
    have f6 := HR6.frozen off
    simp only [Nat.add_zero] at c6
    go_simp
    refine hK0.out _ _ (KS.out _ _ (J6.out.kb.setOwner HA.out HN.out.1 v9)) (fun hHeld => ?_)
    clear hK0 K0
    try simp only [Act.put, zz1, zz2, zz3, zz4, zz5, zz6]
    refine wpAnyH_done (by kernel_rfl) ?_ _
    obtain ⟨wz, hwz⟩ : ∃ V, V = w6.setCell ⟨p.g1, off, none⟩ (.int .i64 v9) := ⟨_, rfl⟩
    rw [← hwz]
    have JZ : Hid (BK w wz g s A k c (a2 + 1 + 1 + 1) p { K with os := K.os.set 0 v9 }) := by rw [hwz]; exact ⟨J6.out.bs.set (by omega) _ _, J6.out.kb.setOwner HA.out HN.out.1 v9, J6.out.lo⟩
    clear hwz
    have q0 := cell_of_row wz _ 0 _ _ _ JZ.out.kb.box; have q1 := cell_of_row wz _ 1 _ _ _ JZ.out.kb.box; have q2 := cell_of_row wz _ 2 _ _ _ JZ.out.kb.box; have q3 := cell_of_row wz _ 3 _ _ _ JZ.out.kb.box; have q4 := cell_of_row wz _ 4 _ _ _ JZ.out.kb.box
    have r0 := cell_of_row wz _ 0 _ _ _ JZ.out.bs.kr; have r1 := cell_of_row wz _ 1 _ _ _ JZ.out.bs.kr; have r2 := cell_of_row wz _ 2 _ _ _ JZ.out.bs.kr; have r3 := cell_of_row wz _ 3 _ _ _ JZ.out.bs.kr; have r4 := cell_of_row wz _ 4 _ _ _ JZ.out.bs.kr
    have f0 := frozen_of_row wz _ 0 _ _ JZ.out.bs.kr; have f1 := frozen_of_row wz _ 1 _ _ JZ.out.bs.kr; have f2 := frozen_of_row wz _ 2 _ _ JZ.out.bs.kr; have f3 := frozen_of_row wz _ 3 _ _ JZ.out.bs.kr; have f4 := frozen_of_row wz _ 4 _ _ JZ.out.bs.kr
    simp at q0 q1 q2 q3 q4 r0 r1 r2 r3 r4
    go_wp2
    refine bodyPost_ret (results_cell_row rfl _ _ w.heap.size _ _ (0, 0) _ rfl (five3 JZ.out.bs.kr _ _ _ _ _) Tryz.underlying39 rfl (by kernel_rfl)) rfl ?_
    exact JZ.out.bs.done (K := { K with os := K.os.set 0 v9 }) JZ.out.read JZ.out.kb.own.nil1 ⟨HN.out.2, by omega, by omega⟩ (by omega)
  have n0 : ((r : Int) == 0) = false := by simp; omega
  by_cases e1 : r = 1
  · subst e1
    have n0 : (((1 : Nat) : Int) == 0) = false := by simp
    have n1 : (((1 : Nat) : Int) == 1) = true := by simp
    obtain ⟨o2, hA2, row2⟩ := J5.out.kb.alive
    obtain ⟨q0, q1, q2, q3, q4⟩ := J5.out.kb.cells
    rw [hA2, CAP.out.2] at q1
    have RT := fun W => run_tailB p.g2 o2 W
    have y1 := frozen_of_row w5 _ 1 _ _ J5.out.kb.box
    have X5 := Lib.hid J5.out.kb.box
    have R2 := Lib.hid row2
    clear row2 hA2
    go_upto_region 18 with (fail)
    obtain ⟨wz, hwz⟩ : ∃ V, V = w5.setCell ⟨s, 1, none⟩ (.slice (some ⟨p.g2, o2 + 1, none⟩) 3 3) := ⟨_, rfl⟩
    rw [← hwz]
    have SZ : Hid (BS w wz g A k c (a2 + 1 + 1)) := by rw [hwz]; exact J5.out.bs.set (by omega) _ _
    have XZ : Hid (wz.heap[s]? = some (.cells #[.slice p.A1 p.n1 p.c1, .slice (some ⟨p.g2, o2 + 1, none⟩) 3 3, .slice p.A3 4 p.c3, .int .i64 K.tick, .int .i64 K.run] 39 (0, 0))) := by show _ = _; rw [hwz]; exact heap_setCell_same w5 s 1 _ _ _ X5.out
    have KD : Hid (KRead wz (w.heap.size + 1) wz.heap.size p.A1 p.n1 (some ⟨p.g2, o2 + 1, none⟩) 3 p.A3 4 { K with al := K.al.drop 1 }) := by
      have kd := J5.out.read
      have far : ∀ j, j ≠ s → wz.heap[j]? = w5.heap[j]? := fun j hj => by rw [hwz]; exact Below.heap_setCell w5 ⟨s, 1, none⟩ _ j hj
      have zz : wz.heap.size = w5.heap.size := by rw [hwz]; simp
      have m1 := J5.out.kb.own.m1.keep (w' := wz) fun j h1 h2 => far j (by have := J5.out.kb.e1; omega)
      have m3 := J5.out.kb.own.m3.keep (w' := wz) fun j h1 h2 => far j (by have := J5.out.kb.e3; omega)
      have r2 := R2.out.keep (far p.g2 (by have := J5.out.kb.e2; omega))
      refine ⟨⟨J5.out.kb.own.l1, by simp [J5.out.kb.own.l2], J5.out.kb.own.l3⟩, m1.sl.wide (by omega) (by omega), fun j hj => ⟨p.g2, o2 + 1, rfl, by omega, by omega, ?_⟩, m3.sl.wide (by omega) (by omega)⟩
      have := r2.cell (k := j + 1) (by omega)
      rw [show o2 + 1 + j = o2 + (j + 1) by omega, this]
      show _ = some (Value.bool (gb (K.al.drop 1) j))
      rw [gb_drop1]
    clear hwz q0 q1 q2 q3 q4 y1
    have q0 := cell_of_row wz _ 0 _ _ _ XZ.out; have q1 := cell_of_row wz _ 1 _ _ _ XZ.out; have q2 := cell_of_row wz _ 2 _ _ _ XZ.out; have q3 := cell_of_row wz _ 3 _ _ _ XZ.out; have q4 := cell_of_row wz _ 4 _ _ _ XZ.out
    have r0 := cell_of_row wz _ 0 _ _ _ SZ.out.kr; have r1 := cell_of_row wz _ 1 _ _ _ SZ.out.kr; have r2 := cell_of_row wz _ 2 _ _ _ SZ.out.kr; have r3 := cell_of_row wz _ 3 _ _ _ SZ.out.kr; have r4 := cell_of_row wz _ 4 _ _ _ SZ.out.kr
    have f0 := frozen_of_row wz _ 0 _ _ SZ.out.kr; have f1 := frozen_of_row wz _ 1 _ _ SZ.out.kr; have f2 := frozen_of_row wz _ 2 _ _ SZ.out.kr; have f3 := frozen_of_row wz _ 3 _ _ SZ.out.kr; have f4 := frozen_of_row wz _ 4 _ _ SZ.out.kr
    simp at q0 q1 q2 q3 q4 r0 r1 r2 r3 r4
    go_wp2
    refine bodyPost_ret (results_cell_row rfl _ _ w.heap.size _ _ (0, 0) _ rfl (five3 SZ.out.kr _ _ _ _ _) Tryz.underlying39 rfl (by kernel_rfl)) rfl ?_
    exact SZ.out.done (K := { K with al := K.al.drop 1 }) KD.out J5.out.kb.own.nil1 ⟨HN.out.2, by omega, by omega⟩ (by omega)
  have n1 : ((r : Int) == 1) = false := by simp; omega
  by_cases e2 : r = 2
  · subst e2
    have n0 : (((2 : Nat) : Int) == 0) = false := by simp
    have n1 : (((2 : Nat) : Int) == 1) = false := by simp
    have n2 : (((2 : Nat) : Int) == 2) = true := by simp
    obtain ⟨o2, hA2, row2⟩ := J5.out.kb.alive
    obtain ⟨q0, q1, q2, q3, q4⟩ := J5.out.kb.cells
    rw [hA2] at q1
    have a0 := row2.cell hat4
    have y0 := row2.frozen (o2 + at4)
    have hat0 : (0 : Int) ≤ (at4 : Int) := by omega
    have hatI : (at4 : Int) < 4 := by omega
    have HA := Lib.hid hA2
    clear hA2 row2
    generalize hy : gb K.al at4 = yv at *
    go_wp2_with fail
    first | go_region | fail
    obtain ⟨wz, hwz⟩ : ∃ V, V = (w5.setCell ⟨p.g2, o2 + at4, none⟩ (.bool (!yv))).drew := ⟨_, rfl⟩
    rw [← hwz]
    have JZ : Hid (BK w wz g s A k c (a2 + 1 + 1) p { K with al := K.al.set at4 (!yv) }) := by rw [hwz]; exact ⟨(J5.out.bs.set (by omega) _ _).drew, (J5.out.kb.setAlive HA.out hat4 (!yv)).drew, J5.out.lo⟩
    clear hwz
    clear q0 q1 q2 q3 q4 a0 y0
    have q0 := cell_of_row wz _ 0 _ _ _ JZ.out.kb.box; have q1 := cell_of_row wz _ 1 _ _ _ JZ.out.kb.box; have q2 := cell_of_row wz _ 2 _ _ _ JZ.out.kb.box; have q3 := cell_of_row wz _ 3 _ _ _ JZ.out.kb.box; have q4 := cell_of_row wz _ 4 _ _ _ JZ.out.kb.box
    have r0 := cell_of_row wz _ 0 _ _ _ JZ.out.bs.kr; have r1 := cell_of_row wz _ 1 _ _ _ JZ.out.bs.kr; have r2 := cell_of_row wz _ 2 _ _ _ JZ.out.bs.kr; have r3 := cell_of_row wz _ 3 _ _ _ JZ.out.bs.kr; have r4 := cell_of_row wz _ 4 _ _ _ JZ.out.bs.kr
    have f0 := frozen_of_row wz _ 0 _ _ JZ.out.bs.kr; have f1 := frozen_of_row wz _ 1 _ _ JZ.out.bs.kr; have f2 := frozen_of_row wz _ 2 _ _ JZ.out.bs.kr; have f3 := frozen_of_row wz _ 3 _ _ JZ.out.bs.kr; have f4 := frozen_of_row wz _ 4 _ _ JZ.out.bs.kr
    simp at q0 q1 q2 q3 q4 r0 r1 r2 r3 r4
    go_wp2
    refine bodyPost_ret (results_cell_row rfl _ _ w.heap.size _ _ (0, 0) _ rfl (five3 JZ.out.bs.kr _ _ _ _ _) Tryz.underlying39 rfl (by kernel_rfl)) rfl ?_
    exact JZ.out.bs.done (K := { K with al := K.al.set at4 (!yv) }) JZ.out.read JZ.out.kb.own.nil1 ⟨HN.out.2, by omega, by omega⟩ (by omega)
  have n2 : ((r : Int) == 2) = false := by simp; omega
  by_cases e3 : r = 3
  · subst e3
    have n0 : (((3 : Nat) : Int) == 0) = false := by simp
    have n1 : (((3 : Nat) : Int) == 1) = false := by simp
    have n2 : (((3 : Nat) : Int) == 2) = false := by simp
    have n3 : (((3 : Nat) : Int) == 3) = true := by simp
    obtain ⟨o3, hA3, row3⟩ := J5.out.kb.accs
    have KS : Hid (∀ W K', KB W s p K' → W.cell? ⟨s, 2, none⟩ = some (.slice (some ⟨p.g3, o3, none⟩) 4 p.c3)) := fun W K' hk' => by have q := hk'.cells.2.2.1; rw [hA3] at q; exact q
    have hat0 : (0 : Int) ≤ (at4 : Int) := by omega
    have hatI : (at4 : Int) < 4 := by omega
    have HA := Lib.hid hA3
    clear hA3 row3
    go_wp2_with fail
    refine wp_region_held_drew (S := fun W => W.cell? ⟨s, 2, none⟩ = some (.slice (some ⟨p.g3, o3, none⟩) 4 p.c3)) (by kernel_rfl) (KS.out w5 K J5.out.kb) (fun hHeld => ?_)
    obtain ⟨v0, hv0⟩ : ∃ v0, v0 = w5.drew := ⟨_, rfl⟩
    have BL0 : Hid (Below w5.heap.size w5 v0) := by rw [hv0]; exact Below.drew (Below.refl _ _)
    rw [← hv0] at hHeld ⊢
    clear hv0
    refine tkH 0 ?_ rfl ?_ hHeld ?_; rotate_left; (intro w hSw; (try dsimp only at hSw); go_simp; try with_reducible rfl); try simp only [Act.put, zz1, zz2, zz3, zz4, zz5, zz6]
    refine tkH 1 ?_ rfl ?_ hHeld ?_; rotate_left; (intro w hSw; (try dsimp only at hSw); go_simp; try with_reducible rfl); try simp only [Act.put, zz1, zz2, zz3, zz4, zz5, zz6]
    refine tkH 2 ?_ rfl ?_ hHeld ?_; rotate_left; (intro w hSw; (try dsimp only at hSw); go_simp; try with_reducible rfl); try simp only [Act.put, zz1, zz2, zz3, zz4, zz5, zz6]
    refine tkH 3 ?_ rfl ?_ hHeld ?_; rotate_left; (intro w hSw; (try dsimp only at hSw); go_simp; try with_reducible rfl); try simp only [Act.put, zz1, zz2, zz3, zz4, zz5, zz6]
    refine wpAnyH_ready (rs := [4]) (by kernel_rfl) (by simp) ?_
    refine AllReadyH.cons (o := _) rfl (fun K0 hK0 => ?_) AllReadyH.nil
    go_simp
    have J0 := Lib.hid (J5.out.below BL0.out)
    refine (l2Draw_any lo (min hi w.heap.size) g A k c (a2 + 1 + 1) b v0 hk (by omega) HBY.out (CD.out v0 J0.out.bs.on) (by omega) J0.out.bs.sr).mono ?_
    rintro e9 w6 ⟨u, x, y, d, rfl, hs9, ho9⟩
    have J6 := Lib.hid (J0.out.step hs9 ho9)
    go_wp2_with fail
    skip
    refine hK0.out _ _ (KS.out _ K J6.out.kb) (fun hHeld => ?_)
    clear hK0 K0
    try simp only [Act.put, zz1, zz2, zz3, zz4, zz5, zz6]
    refine tkH 5 ?_ rfl ?_ hHeld ?_; rotate_left; (intro w hSw; (try dsimp only at hSw); go_simp; try with_reducible rfl); try simp only [Act.put, zz1, zz2, zz3, zz4, zz5, zz6]
    refine wpAnyH_ready (rs := [6]) (by kernel_rfl) (by simp) ?_
    refine AllReadyH.cons (o := _) rfl (fun K0 hK0 => ?_) AllReadyH.nil
    have HR6 := row_of_mine J6.out.kb.own.m3 (by omega) HA.out
    have t0 : w6.cell? ⟨p.g3, o3 + at4 * 4, none⟩ = _ := HR6.cell (k := at4 * 4) (by omega)
    have t1 : w6.cell? ⟨p.g3, o3 + at4 * 4 + 1, none⟩ = _ := HR6.cell (k := at4 * 4 + 1) (by omega)
    have t2 : w6.cell? ⟨p.g3, o3 + at4 * 4 + 2, none⟩ = _ := HR6.cell (k := at4 * 4 + 2) (by omega)
    have t3 : w6.cell? ⟨p.g3, o3 + at4 * 4 + 3, none⟩ = _ := HR6.cell (k := at4 * 4 + 3) (by omega)
    have s0 := HR6.frozen (o3 + at4 * 4)
    have s1 := HR6.frozen (o3 + at4 * 4 + 1)
    have s2 := HR6.frozen (o3 + at4 * 4 + 2)
    have s3 := HR6.frozen (o3 + at4 * 4 + 3)
    go_simp
    refine hK0.out _ _ (KS.out _ _ (J6.out.kb.setAccount HA.out hat4 u x y d)) (fun hHeld => ?_)
    clear hK0 K0
    try simp only [Act.put, zz1, zz2, zz3, zz4, zz5, zz6]
    refine wpAnyH_done (by kernel_rfl) ?_ _
    obtain ⟨wz, hwz⟩ : ∃ V, V = (((w6.setCell ⟨p.g3, o3 + at4 * 4, none⟩ (.int .i64 u)).setCell ⟨p.g3, o3 + at4 * 4 + 1, none⟩ (.int .i64 x)).setCell ⟨p.g3, o3 + at4 * 4 + 2, none⟩ (.int .i64 y)).setCell ⟨p.g3, o3 + at4 * 4 + 3, none⟩ (.int .i64 d) := ⟨_, rfl⟩
    rw [← hwz]
    have JZ : Hid (BK w wz g s A k c (a2 + 1 + 1 + 4) p { K with ac := setAcc K.ac at4 u x y d }) := by rw [hwz]; exact ⟨(((J6.out.bs.set (by omega) _ _).set (by omega) _ _).set (by omega) _ _).set (by omega) _ _, J6.out.kb.setAccount HA.out hat4 u x y d, J6.out.lo⟩
    clear hwz
    have q0 := cell_of_row wz _ 0 _ _ _ JZ.out.kb.box; have q1 := cell_of_row wz _ 1 _ _ _ JZ.out.kb.box; have q2 := cell_of_row wz _ 2 _ _ _ JZ.out.kb.box; have q3 := cell_of_row wz _ 3 _ _ _ JZ.out.kb.box; have q4 := cell_of_row wz _ 4 _ _ _ JZ.out.kb.box
    have r0 := cell_of_row wz _ 0 _ _ _ JZ.out.bs.kr; have r1 := cell_of_row wz _ 1 _ _ _ JZ.out.bs.kr; have r2 := cell_of_row wz _ 2 _ _ _ JZ.out.bs.kr; have r3 := cell_of_row wz _ 3 _ _ _ JZ.out.bs.kr; have r4 := cell_of_row wz _ 4 _ _ _ JZ.out.bs.kr
    have f0 := frozen_of_row wz _ 0 _ _ JZ.out.bs.kr; have f1 := frozen_of_row wz _ 1 _ _ JZ.out.bs.kr; have f2 := frozen_of_row wz _ 2 _ _ JZ.out.bs.kr; have f3 := frozen_of_row wz _ 3 _ _ JZ.out.bs.kr; have f4 := frozen_of_row wz _ 4 _ _ JZ.out.bs.kr
    simp at q0 q1 q2 q3 q4 r0 r1 r2 r3 r4
    go_wp2
    refine bodyPost_ret (results_cell_row rfl _ _ w.heap.size _ _ (0, 0) _ rfl (five3 JZ.out.bs.kr _ _ _ _ _) Tryz.underlying39 rfl (by kernel_rfl)) rfl ?_
    exact JZ.out.bs.done (K := { K with ac := setAcc K.ac at4 u x y d }) JZ.out.read JZ.out.kb.own.nil1 ⟨HN.out.2, by omega, by omega⟩ (by omega)
  have n3 : ((r : Int) == 3) = false := by simp; omega
  by_cases e4 : r = 4
  · subst e4
    have n0 : (((4 : Nat) : Int) == 0) = false := by simp
    have n1 : (((4 : Nat) : Int) == 1) = false := by simp
    have n2 : (((4 : Nat) : Int) == 2) = false := by simp
    have n3 : (((4 : Nat) : Int) == 3) = false := by simp
    have n4 : (((4 : Nat) : Int) == 4) = true := by simp
    have CP := Lib.hid (pick_lit lo (min hi w.heap.size) g A k c (a2 + 1 + 1) 4 2 #[.int .i64 (-1), .int .i64 100000, .int .i64 100001, .int .i64 9] b [-1, 100000, 100001, 9] w5 hk (by omega) HBY.out (CD.out w5 J5.out.bs.on) (by omega) J5.out.bs.sr rfl (by omega) (by omega) (fun q hq => by rcases (show q = 0 ∨ q = 1 ∨ q = 2 ∨ q = 3 by omega) with rfl | rfl | rfl | rfl <;> rfl))
    go_wp2_with fail
    refine CP.out.mono ?_
    rintro e w6 ⟨r9, hr9, rfl, hs9, ho9, hz9⟩
    generalize gi [-1, 100000, 100001, 9] r9 = v9 at *
    have J6 := Lib.hid (J5.out.step hs9 ho9)
    clear CP hr9 hs9 ho9 hz9
    have t0 := cell_of_row w6 _ 3 _ _ _ J6.out.kb.box
    have y0 := frozen_of_row w6 _ 3 _ _ J6.out.kb.box
    simp at t0
    go_upto_region 18 with (fail)
    obtain ⟨wz, hwz⟩ : ∃ V, V = w6.setCell ⟨s, 3, none⟩ (.int .i64 v9) := ⟨_, rfl⟩
    rw [← hwz]
    have JZ : Hid (BK w wz g s A k c (a2 + 1 + 1 + 1) p { K with tick := v9 }) := by rw [hwz]; exact ⟨J6.out.bs.set (by omega) _ _, J6.out.kb.setTick v9, J6.out.lo⟩
    clear hwz
    clear t0 y0
    have q0 := cell_of_row wz _ 0 _ _ _ JZ.out.kb.box; have q1 := cell_of_row wz _ 1 _ _ _ JZ.out.kb.box; have q2 := cell_of_row wz _ 2 _ _ _ JZ.out.kb.box; have q3 := cell_of_row wz _ 3 _ _ _ JZ.out.kb.box; have q4 := cell_of_row wz _ 4 _ _ _ JZ.out.kb.box
    have r0 := cell_of_row wz _ 0 _ _ _ JZ.out.bs.kr; have r1 := cell_of_row wz _ 1 _ _ _ JZ.out.bs.kr; have r2 := cell_of_row wz _ 2 _ _ _ JZ.out.bs.kr; have r3 := cell_of_row wz _ 3 _ _ _ JZ.out.bs.kr; have r4 := cell_of_row wz _ 4 _ _ _ JZ.out.bs.kr
    have f0 := frozen_of_row wz _ 0 _ _ JZ.out.bs.kr; have f1 := frozen_of_row wz _ 1 _ _ JZ.out.bs.kr; have f2 := frozen_of_row wz _ 2 _ _ JZ.out.bs.kr; have f3 := frozen_of_row wz _ 3 _ _ JZ.out.bs.kr; have f4 := frozen_of_row wz _ 4 _ _ JZ.out.bs.kr
    simp at q0 q1 q2 q3 q4 r0 r1 r2 r3 r4
    go_wp2
    refine bodyPost_ret (results_cell_row rfl _ _ w.heap.size _ _ (0, 0) _ rfl (five3 JZ.out.bs.kr _ _ _ _ _) Tryz.underlying39 rfl (by kernel_rfl)) rfl ?_
    exact JZ.out.bs.done (K := { K with tick := v9 }) JZ.out.read JZ.out.kb.own.nil1 ⟨HN.out.2, by omega, by omega⟩ (by omega)
  have n4 : ((r : Int) == 4) = false := by simp; omega
  by_cases e5 : r = 5
  · subst e5
    have n0 : (((5 : Nat) : Int) == 0) = false := by simp
    have n1 : (((5 : Nat) : Int) == 1) = false := by simp
    have n2 : (((5 : Nat) : Int) == 2) = false := by simp
    have n3 : (((5 : Nat) : Int) == 3) = false := by simp
    have n4 : (((5 : Nat) : Int) == 4) = false := by simp
    have n5 : (((5 : Nat) : Int) == 5) = true := by simp
    have CP := Lib.hid (pick_lit lo (min hi w.heap.size) g A k c (a2 + 1 + 1) 5 2 #[.int .i64 (-2), .int .i64 4, .int .i64 0, .int .i64 1, .int .i64 3] b [-2, 4, 0, 1, 3] w5 hk (by omega) HBY.out (CD.out w5 J5.out.bs.on) (by omega) J5.out.bs.sr rfl (by omega) (by omega) (fun q hq => by rcases (show q = 0 ∨ q = 1 ∨ q = 2 ∨ q = 3 ∨ q = 4 by omega) with rfl | rfl | rfl | rfl | rfl <;> rfl))
    go_wp2_with fail
    refine CP.out.mono ?_
    rintro e w6 ⟨r9, hr9, rfl, hs9, ho9, hz9⟩
    generalize gi [-2, 4, 0, 1, 3] r9 = v9 at *
    have J6 := Lib.hid (J5.out.step hs9 ho9)
    clear CP hr9 hs9 ho9 hz9
    have t0 := cell_of_row w6 _ 4 _ _ _ J6.out.kb.box
    have y0 := frozen_of_row w6 _ 4 _ _ J6.out.kb.box
    simp at t0
    go_upto_region 18 with (fail)
    obtain ⟨wz, hwz⟩ : ∃ V, V = w6.setCell ⟨s, 4, none⟩ (.int .i64 v9) := ⟨_, rfl⟩
    rw [← hwz]
    have JZ : Hid (BK w wz g s A k c (a2 + 1 + 1 + 1) p { K with run := v9 }) := by rw [hwz]; exact ⟨J6.out.bs.set (by omega) _ _, J6.out.kb.setRun v9, J6.out.lo⟩
    clear hwz
    clear t0 y0
    have q0 := cell_of_row wz _ 0 _ _ _ JZ.out.kb.box; have q1 := cell_of_row wz _ 1 _ _ _ JZ.out.kb.box; have q2 := cell_of_row wz _ 2 _ _ _ JZ.out.kb.box; have q3 := cell_of_row wz _ 3 _ _ _ JZ.out.kb.box; have q4 := cell_of_row wz _ 4 _ _ _ JZ.out.kb.box
    have r0 := cell_of_row wz _ 0 _ _ _ JZ.out.bs.kr; have r1 := cell_of_row wz _ 1 _ _ _ JZ.out.bs.kr; have r2 := cell_of_row wz _ 2 _ _ _ JZ.out.bs.kr; have r3 := cell_of_row wz _ 3 _ _ _ JZ.out.bs.kr; have r4 := cell_of_row wz _ 4 _ _ _ JZ.out.bs.kr
    have f0 := frozen_of_row wz _ 0 _ _ JZ.out.bs.kr; have f1 := frozen_of_row wz _ 1 _ _ JZ.out.bs.kr; have f2 := frozen_of_row wz _ 2 _ _ JZ.out.bs.kr; have f3 := frozen_of_row wz _ 3 _ _ JZ.out.bs.kr; have f4 := frozen_of_row wz _ 4 _ _ JZ.out.bs.kr
    simp at q0 q1 q2 q3 q4 r0 r1 r2 r3 r4
    go_wp2
    refine bodyPost_ret (results_cell_row rfl _ _ w.heap.size _ _ (0, 0) _ rfl (five3 JZ.out.bs.kr _ _ _ _ _) Tryz.underlying39 rfl (by kernel_rfl)) rfl ?_
    exact JZ.out.bs.done (K := { K with run := v9 }) JZ.out.read JZ.out.kb.own.nil1 ⟨HN.out.2, by omega, by omega⟩ (by omega)
  have n5 : ((r : Int) == 5) = false := by simp; omega
  by_cases e6 : r = 6
  · subst e6
    have n0 : (((6 : Nat) : Int) == 0) = false := by simp
    have n1 : (((6 : Nat) : Int) == 1) = false := by simp
    have n2 : (((6 : Nat) : Int) == 2) = false := by simp
    have n3 : (((6 : Nat) : Int) == 3) = false := by simp
    have n4 : (((6 : Nat) : Int) == 4) = false := by simp
    have n5 : (((6 : Nat) : Int) == 5) = false := by simp
    have n6 : (((6 : Nat) : Int) == 6) = true := by simp
    obtain ⟨i0, hi0, hz0, hz1, hz2⟩ := info_parts Tryz.info_Account
    obtain ⟨o3, hA3, row3⟩ := J5.out.kb.accs
    obtain ⟨q0, q1, q2, q3, q4⟩ := J5.out.kb.cells
    rw [hA3, CAP.out.1] at q2
    have L16 := J5.out.kb.own.l3
    obtain ⟨wl, hwl⟩ : ∃ V, V = w5.alloc (.cells #[.int .i64 0, .int .i64 0, .int .i64 0, .int .i64 0] 68) := ⟨_, rfl⟩
    have JL : Hid (BK w wl g s A k c (a2 + 1 + 1) p K) := by rw [hwl]; exact J5.out.below (below_new w5 _)
    have NW : Hid (∀ j u, ([.int .i64 0, .int .i64 0, .int .i64 0, .int .i64 0] : List Value)[j]? = some u → wl.cell? ((⟨w5.heap.size, 0, none⟩ : Addr).add j) = some u) := by show ∀ j u, _; rw [hwl]; exact list_new3 w5 [.int .i64 0, .int .i64 0, .int .i64 0, .int .i64 0] 68
    have RL : Hid (Row wl p.g3 o3 68 16 (fun k => .int .i64 (gi K.ac k))) := row3.keep ((Kept.of_below (by rw [hwl]; exact below_new w5 _) []).2 _ row3.lt (by simp))
    have HO : Hid (∀ bb, some (⟨p.g3, o3, none⟩ : Addr) = some bb → ∀ j u, (vals K.ac)[j]? = some u → wl.cell? (bb.add j) = some u) := fun bb e j u hj => by
      injection e with e
      subst e
      have hl : j < 16 := by
        rcases Nat.lt_or_ge j 16 with hh | hh
        · exact hh
        · rw [List.getElem?_eq_none (by simp [vals]; omega)] at hj; cases hj
      rw [vals_get K.ac j (by omega)] at hj
      injection hj with hj
      subst hj
      have := RL.out.cell hl
      rw [Addr.add_lit]
      exact this
    have VL : Hid ((vals K.ac).length = 4 * 4) := by show _ = _; simp [vals, L16]
    have zl : wl.heap.size = w5.heap.size + 1 := by rw [hwl]; simp
    have HWL := Lib.hid hwl
    have HA := Lib.hid hA3
    have QL : wl.cell? ⟨s, 2, none⟩ = some (.slice (some ⟨p.g3, o3, none⟩) 4 4) := by have q := JL.out.kb.cells.2.2.1; rw [HA.out, CAP.out.1] at q; exact q
    have YL := frozen_of_row wl _ 2 _ _ JL.out.kb.box
    clear hwl hA3 row3 L16
    go_upto_region 18 with (at_builtin; rw [← HWL.out]; refine wpList_append_grows wl rfl (.tmp 60) (.tmp 62) 37 rfl 68 i0 (.agg #[.int .i64 0, .int .i64 0, .int .i64 0, .int .i64 0]) 4 32 Tryz.underlying37 hi0 hz0 hz1 hz2 rfl (by decide) (some ⟨p.g3, o3, none⟩) 4 4 (vals K.ac) rfl (by simp) VL.out HO.out ⟨w5.heap.size, 0, none⟩ 1 1 [.int .i64 0, .int .i64 0, .int .i64 0, .int .i64 0] rfl rfl NW.out (by simp [Value.oneCell']) (by omega) (by unfold maxLen; omega) (by omega) ?_; intro v7 w7 hown hgrow; rw [gi_zeros10 J5.out.kb.own.l3] at hown; obtain ⟨A7, d7, rfl, ho7⟩ := or_of3 hown; have O7 := Lib.hid ho7; have G7 := Lib.hid hgrow; have X7 := Lib.hid ((hgrow.block s (by omega) (by simp)).trans JL.out.kb.box); have t7 := cell_of_row w7 _ 2 _ _ _ X7.out; have y7 := frozen_of_row w7 _ 2 _ _ X7.out; simp at t7; clear hown hgrow ho7)
    obtain ⟨wz, hwz⟩ : ∃ V, V = w7.setCell ⟨s, 2, none⟩ (.slice A7 5 d7) := ⟨_, rfl⟩
    rw [← hwz]
    have BW7 : Hid (Below wl.heap.size wl w7) := ⟨G7.out.os, G7.out.tape, G7.out.output, G7.out.size, fun j hj => G7.out.block j hj (by simp)⟩
    have J7 := Lib.hid (JL.out.below BW7.out)
    have SZ : Hid (BS w wz g A k c (a2 + 1 + 1)) := by rw [hwz]; exact J7.out.bs.set (by omega) _ _
    have XZ : Hid (wz.heap[s]? = some (.cells #[.slice p.A1 p.n1 p.c1, .slice p.A2 4 p.c2, .slice A7 5 d7, .int .i64 K.tick, .int .i64 K.run] 39 (0, 0))) := by show _ = _; rw [hwz]; exact heap_setCell_same w7 s 2 _ _ _ X7.out
    have KD : Hid (KRead wz (w.heap.size + 1) wz.heap.size p.A1 p.n1 p.A2 4 A7 5 { K with ac := K.ac ++ [0, 0, 0, 0] }) := by
      have far : ∀ j, j ≠ s → wz.heap[j]? = w7.heap[j]? := fun j hj => by rw [hwz]; exact Below.heap_setCell w7 ⟨s, 2, none⟩ _ j hj
      have zz : wz.heap.size = w7.heap.size := by rw [hwz]; simp
      have z7 := BW7.out.size
      have m1 := J7.out.kb.own.m1.keep (w' := wz) fun j h1 h2 => far j (by have := J7.out.kb.e1; omega)
      have m2 := J7.out.kb.own.m2.keep (w' := wz) fun j h1 h2 => far j (by have := J7.out.kb.e2; omega)
      have m3 := (OR.sl0 O7.out).keep (w' := wz) fun j h1 h2 => far j (by omega)
      exact ⟨⟨J7.out.kb.own.l1, J7.out.kb.own.l2, by simp [J7.out.kb.own.l3]⟩, m1.sl.wide (by omega) (by omega), m2.sl.wide (by omega) (by omega), m3.wide (by omega) (by omega)⟩
    clear hwz q0 q1 q2 q3 q4 t7 y7 QL YL
    have q0 := cell_of_row wz _ 0 _ _ _ XZ.out; have q1 := cell_of_row wz _ 1 _ _ _ XZ.out; have q2 := cell_of_row wz _ 2 _ _ _ XZ.out; have q3 := cell_of_row wz _ 3 _ _ _ XZ.out; have q4 := cell_of_row wz _ 4 _ _ _ XZ.out
    have r0 := cell_of_row wz _ 0 _ _ _ SZ.out.kr; have r1 := cell_of_row wz _ 1 _ _ _ SZ.out.kr; have r2 := cell_of_row wz _ 2 _ _ _ SZ.out.kr; have r3 := cell_of_row wz _ 3 _ _ _ SZ.out.kr; have r4 := cell_of_row wz _ 4 _ _ _ SZ.out.kr
    have f0 := frozen_of_row wz _ 0 _ _ SZ.out.kr; have f1 := frozen_of_row wz _ 1 _ _ SZ.out.kr; have f2 := frozen_of_row wz _ 2 _ _ SZ.out.kr; have f3 := frozen_of_row wz _ 3 _ _ SZ.out.kr; have f4 := frozen_of_row wz _ 4 _ _ SZ.out.kr
    simp at q0 q1 q2 q3 q4 r0 r1 r2 r3 r4
    go_wp2
    refine bodyPost_ret (results_cell_row rfl _ _ w.heap.size _ _ (0, 0) _ rfl (five3 SZ.out.kr _ _ _ _ _) Tryz.underlying39 rfl (by kernel_rfl)) rfl ?_
    exact SZ.out.done (K := { K with ac := K.ac ++ [0, 0, 0, 0] }) KD.out J7.out.kb.own.nil1 ⟨HN.out.2, by omega, by omega⟩ (by omega)
  have n6 : ((r : Int) == 6) = false := by simp; omega
  go_upto_region 18 with (fail)
  obtain ⟨wz, hwz⟩ : ∃ V, V = w5 := ⟨_, rfl⟩
  rw [← hwz]
  have JZ : Hid (BK w wz g s A k c (a2 + 1 + 1) p K) := by rw [hwz]; exact J5.out
  clear hwz
  have q0 := cell_of_row wz _ 0 _ _ _ JZ.out.kb.box; have q1 := cell_of_row wz _ 1 _ _ _ JZ.out.kb.box; have q2 := cell_of_row wz _ 2 _ _ _ JZ.out.kb.box; have q3 := cell_of_row wz _ 3 _ _ _ JZ.out.kb.box; have q4 := cell_of_row wz _ 4 _ _ _ JZ.out.kb.box
  have r0 := cell_of_row wz _ 0 _ _ _ JZ.out.bs.kr; have r1 := cell_of_row wz _ 1 _ _ _ JZ.out.bs.kr; have r2 := cell_of_row wz _ 2 _ _ _ JZ.out.bs.kr; have r3 := cell_of_row wz _ 3 _ _ _ JZ.out.bs.kr; have r4 := cell_of_row wz _ 4 _ _ _ JZ.out.bs.kr
  have f0 := frozen_of_row wz _ 0 _ _ JZ.out.bs.kr; have f1 := frozen_of_row wz _ 1 _ _ JZ.out.bs.kr; have f2 := frozen_of_row wz _ 2 _ _ JZ.out.bs.kr; have f3 := frozen_of_row wz _ 3 _ _ JZ.out.bs.kr; have f4 := frozen_of_row wz _ 4 _ _ JZ.out.bs.kr
  simp at q0 q1 q2 q3 q4 r0 r1 r2 r3 r4
  go_wp2
  refine bodyPost_ret (results_cell_row rfl _ _ w.heap.size _ _ (0, 0) _ rfl (five3 JZ.out.bs.kr _ _ _ _ _) Tryz.underlying39 rfl (by kernel_rfl)) rfl ?_
  exact JZ.out.bs.done (K := K) JZ.out.read JZ.out.kb.own.nil1 ⟨HN.out.2, by omega, by omega⟩ (by omega)

end Go.Proofs.YtckapndpefkcgaaGreat
