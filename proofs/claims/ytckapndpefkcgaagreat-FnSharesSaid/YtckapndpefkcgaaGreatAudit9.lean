/-
  The program's audit: how it begins, and what it is asked ahead of a tick. No conditions.
-/
import Derived.Test.YtckapndpefkcgaaGreatRun9
import Derived.Test.YtckapndpefkcgaaGreatLoopA9
import Derived.Test.YtckapndpefkcgaaGreatSpec9
import Derived.Test.YtckapndpefkcgaaGreatMath9b
import Derived.Test.YtckapndpefkcgaaGreatU8s
set_option maxHeartbeats 1000000
namespace Go.Proofs.YtckapndpefkcgaaGreat
open List renaming getElem_toArray → zz1, getElem_cons_succ → zz2, getElem_cons_zero → zz3, setIfInBounds_toArray → zz4, set_cons_zero → zz5, set_cons_succ → zz6
open Go.RowKit
set_option maxRecDepth 100000

def AudA (mm : Int) (n : Nat) (ev : Int) (w : World) (e : Ending) (w' : World) : Prop :=
  ∃ h, e = .returned (.pointer (some ⟨h, 0, none⟩)) ∧ w.heap.size ≤ h ∧
  (ask9 mm n ev ≠ 0 → w'.heap[h]? = some (.cells #[.int .i64 (ask9 mm n ev), .slice none 0 0, .slice none 0 0, .slice none 0 0, .int .i64 0, .int .i64 0, .slice none 0 0, .slice none 0 0, .int .i64 ev] 83 (0, 0))) ∧
  (ask9 mm n ev = 0 → ∃ p : Kp, LoopA w w' h p (new3 mm) none 0 0 [] none 0 0 [] ev ⟨none, 0, 0, [], none, 57, #[]⟩) ∧
  Below w.heap.size w w'

set_option maxHeartbeats 16000000 in
theorem auditOf_any (mm : Int) (A : Option Addr) (n c : Nat) (ev : Int) (w : World) (hn : n ≤ 9223372036854775807) :
    Calls Tryz.prog 46 #[.int .i64 mm, .slice A n c, .int .i64 ev] w (AudA mm n ev w) := by
  have NK := Lib.hid (runOf_any mm A n c w hn)
  have EV := Lib.hid (fun W => isEnv_any ev W)
  go_enter Tryz.func46, Tryz.ntmps46
  go_wp2_with fail
  refine NK.out.mono ?_
  rintro e w2 ⟨hbad, hgood, hb, hs⟩
  have B2 := Lib.hid hb
  clear hb hs NK
  by_cases h0 : ask3 mm n = 0
  case neg =>
    obtain rfl := hbad h0
    clear hbad hgood
    have EA : Hid (ask9 mm n ev = ask3 mm n ∧ ask9 mm n ev ≠ 0) := by
      show _ ∧ _
      unfold ask9
      rw [if_pos h0]
      exact ⟨rfl, h0⟩
    obtain ⟨q, hq⟩ : ∃ q, q = ask3 mm n := ⟨_, rfl⟩
    rw [← hq] at EA ⊢
    have y : (q == 0) = false := by simp [hq, h0]
    clear hq h0
    obtain ⟨w3, hw3⟩ : ∃ w3, w3 = w2.alloc (.cells #[.int .i64 q, .slice none 0 0, .slice none 0 0, .slice none 0 0, .int .i64 0, .int .i64 0, .slice none 0 0, .slice none 0 0] 41) := ⟨_, rfl⟩
    obtain ⟨g, hg⟩ : ∃ g, g = w2.heap.size := ⟨_, rfl⟩
    have g3k : w3.heap[g]? = some (.cells #[.int .i64 q, .slice none 0 0, .slice none 0 0, .slice none 0 0, .int .i64 0, .int .i64 0, .slice none 0 0, .slice none 0 0] 41 (0, 0)) := by rw [hw3, hg]; exact heap_alloc_new w2 _
    have BN3 : Hid (Below w2.heap.size w2 w3) := by rw [hw3]; exact below_new w2 _
    have HW3 := Lib.hid hw3; have HG := Lib.hid hg
    clear hw3 hg
    have g0 := cell_of_row w3 _ 0 _ _ _ g3k; have g1 := cell_of_row w3 _ 1 _ _ _ g3k; have g2 := cell_of_row w3 _ 2 _ _ _ g3k; have g3 := cell_of_row w3 _ 3 _ _ _ g3k; have g4 := cell_of_row w3 _ 4 _ _ _ g3k; have g5 := cell_of_row w3 _ 5 _ _ _ g3k; have g6 := cell_of_row w3 _ 6 _ _ _ g3k; have g7 := cell_of_row w3 _ 7 _ _ _ g3k
    simp at g0 g1 g2 g3 g4 g5 g6 g7
    go_upto_region 2 with (fail)
    rw [← HW3.out, ← HG.out]
    clear HW3 HG g3k
    go_wp2
    go_ret
    refine ⟨w3.heap.size, rfl, Nat.le_trans B2.out.size BN3.out.size, fun _ => ?_, fun hh => absurd hh EA.out.2, (B2.out.trans (BN3.out.mono B2.out.size)).alloc (Nat.le_trans B2.out.size BN3.out.size) _⟩
    rw [EA.out.1]
    exact heap_alloc_new w3 _
  obtain ⟨p0, rfl, hown, hn1, hlo⟩ := hgood h0
  obtain ⟨w3, hw3⟩ : ∃ w3, w3 = w2.alloc (.cells #[.int .i64 0, .slice p0.A1 p0.n1 p0.c1, .slice p0.A2 4 p0.c2, .slice p0.A3 4 p0.c3, .int .i64 (new3 mm).tick, .int .i64 (new3 mm).run, .slice none 0 0, .slice none 0 0] 41) := ⟨_, rfl⟩
  obtain ⟨g, hg⟩ : ∃ g, g = w2.heap.size := ⟨_, rfl⟩
  have G3 : Hid (w3.heap[g]? = some (.cells #[.int .i64 0, .slice p0.A1 p0.n1 p0.c1, .slice p0.A2 4 p0.c2, .slice p0.A3 4 p0.c3, .int .i64 (new3 mm).tick, .int .i64 (new3 mm).run, .slice none 0 0, .slice none 0 0] 41 (0, 0))) := by show _ = _; rw [hw3, hg]; exact heap_alloc_new w2 _
  have BN3 : Hid (Below w2.heap.size w2 w3) := by rw [hw3]; exact below_new w2 _
  have ZG : Hid (g = w2.heap.size) := hg
  have HW3 := Lib.hid hw3; have HG := Lib.hid hg
  have OW := Lib.hid hown; have N1 := Lib.hid hn1; have LO := Lib.hid hlo
  have H0 := Lib.hid h0
  clear hw3 hg hbad hgood hown hn1 hlo h0
  go_upto_region 2 with (fail)
  rw [← HW3.out, ← HG.out]
  clear HW3 HG
  have g3k := G3.out
  have g0 := cell_of_row w3 _ 0 _ _ _ g3k; have g1 := cell_of_row w3 _ 1 _ _ _ g3k; have g2 := cell_of_row w3 _ 2 _ _ _ g3k; have g3 := cell_of_row w3 _ 3 _ _ _ g3k; have g4 := cell_of_row w3 _ 4 _ _ _ g3k; have g5 := cell_of_row w3 _ 5 _ _ _ g3k; have g6 := cell_of_row w3 _ 6 _ _ _ g3k; have g7 := cell_of_row w3 _ 7 _ _ _ g3k
  have f0 := frozen_of_row w3 _ 0 _ _ g3k; have f1 := frozen_of_row w3 _ 1 _ _ g3k; have f2 := frozen_of_row w3 _ 2 _ _ g3k; have f3 := frozen_of_row w3 _ 3 _ _ g3k; have f4 := frozen_of_row w3 _ 4 _ _ g3k; have f5 := frozen_of_row w3 _ 5 _ _ g3k; have f6 := frozen_of_row w3 _ 6 _ _ g3k; have f7 := frozen_of_row w3 _ 7 _ _ g3k
  simp at g0 g1 g2 g3 g4 g5 g6 g7
  clear g3k
  go_wp2_with fail
  refine (EV.out w3).mono ?_
  rintro e w9 ⟨rfl, rfl⟩
  rcases hb : inEnv ev with _ | _
  · have EA : Hid (ask9 mm n ev = 3) := by show _ = _; unfold ask9; rw [if_neg (by simp [H0.out]), if_neg (by simp [hb])]
    obtain ⟨v3, hv3⟩ : ∃ v3, v3 = ((((((((w3.setCell ⟨g, 0, none⟩ (.int .i64 3)).setCell ⟨g, 1, none⟩ (.slice none 0 0)).setCell ⟨g, 2, none⟩ (.slice none 0 0)).setCell ⟨g, 3, none⟩ (.slice none 0 0)).setCell ⟨g, 4, none⟩ (.int .i64 0)).setCell ⟨g, 5, none⟩ (.int .i64 0)).setCell ⟨g, 6, none⟩ (.slice none 0 0)).setCell ⟨g, 7, none⟩ (.slice none 0 0)) := ⟨_, rfl⟩
    have K3 : v3.heap[g]? = some (.cells #[.int .i64 3, .slice none 0 0, .slice none 0 0, .slice none 0 0, .int .i64 0, .int .i64 0, .slice none 0 0, .slice none 0 0] 41 (0, 0)) := by rw [hv3]; exact (heap_setCell_same _ _ 7 _ _ _ (heap_setCell_same _ _ 6 _ _ _ (heap_setCell_same _ _ 5 _ _ _ (heap_setCell_same _ _ 4 _ _ _ (heap_setCell_same _ _ 3 _ _ _ (heap_setCell_same _ _ 2 _ _ _ (heap_setCell_same _ _ 1 _ _ _ (heap_setCell_same _ _ 0 _ _ _ G3.out))))))))
    have BV : Hid (Below w.heap.size w v3) := by
      have z := ZG.out; have s := B2.out.size
      rw [hv3]
      exact (((((((((B2.out.trans (BN3.out.mono B2.out.size)).setCell (p := ⟨g, 0, none⟩) (by simp; omega) _).setCell (p := ⟨g, 1, none⟩) (by simp; omega) _).setCell (p := ⟨g, 2, none⟩) (by simp; omega) _).setCell (p := ⟨g, 3, none⟩) (by simp; omega) _).setCell (p := ⟨g, 4, none⟩) (by simp; omega) _).setCell (p := ⟨g, 5, none⟩) (by simp; omega) _).setCell (p := ⟨g, 6, none⟩) (by simp; omega) _).setCell (p := ⟨g, 7, none⟩) (by simp; omega) _)
    have HV3 := Lib.hid hv3
    clear hv3
    go_upto_region 4 with (fail)
    rw [← HV3.out]
    clear HV3 g0 g1 g2 g3 g4 g5 g6 g7
    have g0 := cell_of_row v3 _ 0 _ _ _ K3; have g1 := cell_of_row v3 _ 1 _ _ _ K3; have g2 := cell_of_row v3 _ 2 _ _ _ K3; have g3 := cell_of_row v3 _ 3 _ _ _ K3; have g4 := cell_of_row v3 _ 4 _ _ _ K3; have g5 := cell_of_row v3 _ 5 _ _ _ K3; have g6 := cell_of_row v3 _ 6 _ _ _ K3; have g7 := cell_of_row v3 _ 7 _ _ _ K3
    simp at g0 g1 g2 g3 g4 g5 g6 g7
    clear K3
    go_wp2
    go_ret
    refine ⟨v3.heap.size, rfl, BV.out.size, fun _ => ?_, fun hh => absurd hh (by rw [EA.out]; decide), BV.out.alloc BV.out.size _⟩
    rw [EA.out]
    exact heap_alloc_new v3 _
  · have EA : Hid (ask9 mm n ev = 0) := by show _ = _; unfold ask9; rw [if_neg (by simp [H0.out]), if_pos hb]
    go_wp2
    go_ret
    refine ⟨w3.heap.size, rfl, Nat.le_trans B2.out.size BN3.out.size, fun hh => absurd EA.out hh, fun _ => ⟨p0, ?_⟩, (B2.out.trans (BN3.out.mono B2.out.size)).alloc (Nat.le_trans B2.out.size BN3.out.size) _⟩
    obtain ⟨_, hx1⟩ := mine_blk OW.out.m1 (by have := N1.out; omega)
    obtain ⟨_, hx2⟩ := mine_blk OW.out.m2 (by decide)
    obtain ⟨_, hx3⟩ := mine_blk OW.out.m3 (by decide)
    have BB : Below w2.heap.size w2 (w3.alloc (.cells #[.int .i64 0, .slice p0.A1 p0.n1 p0.c1, .slice p0.A2 4 p0.c2, .slice p0.A3 4 p0.c3, .int .i64 (new3 mm).tick, .int .i64 (new3 mm).run, .slice none 0 0, .slice none 0 0, .int .i64 ev] 83)) := BN3.out.trans ((below_new w3 _).mono BN3.out.size)
    exact ⟨OW.out.keepB (BB.block _ (Array.getElem?_eq_some_iff.1 hx1).1) (BB.block _ (Array.getElem?_eq_some_iff.1 hx2).1) (BB.block _ (Array.getElem?_eq_some_iff.1 hx3).1), N1.out, heap_alloc_new w3 _, OR.void _ _, OR.void _ _, (fun b e => by cases e), ⟨Nat.le_trans B2.out.size BN3.out.size, LO.out⟩, B2.out.trans (BB.mono B2.out.size), OR.void _ _, (fun b e => by cases e), (fun b e => by cases e)⟩

theorem LoopA.read9 {w W : World} {h : Nat} {p : Kp} {K : Ker} {A4 : Option Addr} {k c4 : Nat} {cs : List Int} {A5 : Option Addr} {m c5 : Nat} {ns : List Int} {ev : Int} {G : Gst} (J : LoopA w W h p K A4 k c4 cs A5 m c5 ns ev G) : KRead W 0 W.heap.size p.A1 p.n1 p.A2 4 p.A3 4 K := J.own.read9 J.n1
set_option maxHeartbeats 4000000 in
theorem opens9_any {w W : World} {h : Nat} {p : Kp} {K : Ker} {A4 : Option Addr} {k c4 : Nat} {cs : List Int} {A5 : Option Addr} {m c5 : Nat} {ns : List Int} {ev : Int} {G : Gst} (J : LoopA w W h p K A4 k c4 cs A5 m c5 ns ev G) (sk : SK K) :
    Calls Tryz.prog 48 #[.pointer (some ⟨h, 0, none⟩)] W fun e w' => e = .returned (.bool (opens9 ev K)) ∧ Below W.heap.size W w' := by
  have KH : Hid (∀ V, Below W.heap.size W V → (V.cell? ⟨h, 1, none⟩ = some (.slice p.A1 p.n1 p.c1) ∧ V.cell? ⟨h, 2, none⟩ = some (.slice p.A2 4 p.c2) ∧ V.cell? ⟨h, 3, none⟩ = some (.slice p.A3 4 p.c3) ∧ V.cell? ⟨h, 4, none⟩ = some (.int .i64 K.tick) ∧ V.cell? ⟨h, 5, none⟩ = some (.int .i64 K.run) ∧ V.cell? ⟨h, 8, none⟩ = some (.int .i64 ev)) ∧ Below W.heap.size W V) := fun V hV => by
    have j := (hV.block h (Array.getElem?_eq_some_iff.1 J.box).1).trans J.box
    exact ⟨⟨cell_of_row V _ 1 _ _ _ j, cell_of_row V _ 2 _ _ _ j, cell_of_row V _ 3 _ _ _ j, cell_of_row V _ 4 _ _ _ j, cell_of_row V _ 5 _ _ _ j, cell_of_row V _ 8 _ _ _ j⟩, hV⟩
  have FXK := Lib.hid (fx_of (kf_of sk))
  obtain ⟨ph, hph⟩ : ∃ ph, ph = K.tick % 9 := ⟨_, rfl⟩
  obtain ⟨o, ho⟩ : ∃ o, o = own3 K := ⟨_, rfl⟩
  have PH : Hid (∀ V, Below W.heap.size W V → Calls Tryz.prog 101 #[.agg #[.slice p.A1 p.n1 p.c1, .slice p.A2 4 p.c2, .slice p.A3 4 p.c3, .int .i64 K.tick, .int .i64 K.run]] V fun e w' => e = .returned (.int .i64 ph) ∧ Below W.heap.size W w') := fun V hV =>
    (phaseOf_any (.slice p.A1 p.n1 p.c1) (.slice p.A2 4 p.c2) (.slice p.A3 4 p.c3) K.tick K.run V FXK.out.tick.1).mono fun e w' hh => ⟨by rw [hph]; exact hh.1, hV.trans (hh.2.mono hV.size)⟩
  have SO : Hid (∀ V, Below W.heap.size W V → Calls Tryz.prog 102 #[.agg #[.slice p.A1 p.n1 p.c1, .slice p.A2 4 p.c2, .slice p.A3 4 p.c3, .int .i64 K.tick, .int .i64 K.run]] V fun e w' => e = .returned (.int .i64 o) ∧ Below W.heap.size W w') := fun V hV =>
    (slotOwner8_any 0 V.heap.size p.A1 p.n1 p.c1 p.A2 p.c2 p.A3 p.c3 K V (J.below hV).read9 FXK.out).mono fun e w' hh => ⟨by rw [ho]; exact hh.1, hV.trans (hh.2.mono hV.size)⟩
  have OP : Hid (opens9 ev K = decide (ph = 0 ∧ o = ev)) := by show _ = _; rw [hph, ho]; rfl
  clear J ho hph FXK
  go_enter Tryz.func48, Tryz.ntmps48
  go_upto_region 1 with (fail)
  by_cases e0 : ph = 0
  case neg =>
    have y0 : (ph == 0) = false := by simp [e0]
    have E : Hid (opens9 ev K = false) := by show _ = _; rw [OP.out]; simp [e0]
    clear e0
    refine wp_region_held_drew (S := fun V => (V.cell? ⟨h, 1, none⟩ = some (.slice p.A1 p.n1 p.c1) ∧ V.cell? ⟨h, 2, none⟩ = some (.slice p.A2 4 p.c2) ∧ V.cell? ⟨h, 3, none⟩ = some (.slice p.A3 4 p.c3) ∧ V.cell? ⟨h, 4, none⟩ = some (.int .i64 K.tick) ∧ V.cell? ⟨h, 5, none⟩ = some (.int .i64 K.run) ∧ V.cell? ⟨h, 8, none⟩ = some (.int .i64 ev)) ∧ Below W.heap.size W V) (by kernel_rfl) (KH.out _ (Below.drew (Below.refl _ _))) (fun hHeld => ?_)
    obtain ⟨v0, hv0⟩ : ∃ v0, v0 = W.drew := ⟨_, rfl⟩
    have BL0 : Hid (Below W.heap.size W v0) := by rw [hv0]; exact Below.drew (Below.refl _ _)
    rw [← hv0] at hHeld ⊢
    clear hv0
    refine tkH 0 ?_ rfl ?_ hHeld ?_; rotate_left; (intro w hSw; (try dsimp only at hSw); go_simp; try with_reducible rfl); try simp only [Act.put, zz1, zz2, zz3, zz4, zz5, zz6]
    refine tkH 1 ?_ rfl ?_ hHeld ?_; rotate_left; (intro w hSw; (try dsimp only at hSw); go_simp; try with_reducible rfl); try simp only [Act.put, zz1, zz2, zz3, zz4, zz5, zz6]
    refine tkH 2 ?_ rfl ?_ hHeld ?_; rotate_left; (intro w hSw; (try dsimp only at hSw); go_simp; try with_reducible rfl); try simp only [Act.put, zz1, zz2, zz3, zz4, zz5, zz6]
    refine tkH 3 ?_ rfl ?_ hHeld ?_; rotate_left; (intro w hSw; (try dsimp only at hSw); go_simp; try with_reducible rfl); try simp only [Act.put, zz1, zz2, zz3, zz4, zz5, zz6]
    refine tkH 4 ?_ rfl ?_ hHeld ?_; rotate_left; (intro w hSw; (try dsimp only at hSw); go_simp; try with_reducible rfl); try simp only [Act.put, zz1, zz2, zz3, zz4, zz5, zz6]
    refine wpAnyH_ready (rs := [5]) (by kernel_rfl) (by simp) ?_
    refine AllReadyH.cons (o := _) rfl (fun K0 hK0 => ?_) AllReadyH.nil
    go_simp
    refine (PH.out _ (by go_split_ands; assumption)).mono ?_
    rintro e9 w9 ⟨rfl, hb9⟩
    go_wp2_with fail
    have HB9 := Lib.hid hb9
    refine hK0.out _ _ (KH.out _ hb9) (fun hHeld => ?_)
    clear hK0 K0
    try simp only [Act.put, zz1, zz2, zz3, zz4, zz5, zz6]
    refine tkH 6 ?_ rfl ?_ hHeld ?_; rotate_left; (intro w hSw; (try dsimp only at hSw); go_simp; try with_reducible rfl); try simp only [Act.put, zz1, zz2, zz3, zz4, zz5, zz6]
    refine tkH 7 ?_ rfl ?_ hHeld ?_; rotate_left; (intro w hSw; (try dsimp only at hSw); go_simp; try with_reducible rfl); try simp only [Act.put, zz1, zz2, zz3, zz4, zz5, zz6]
    refine tuH 8 rfl hHeld ?_
    try simp only [Act.put, zz1, zz2, zz3, zz4, zz5, zz6]
    refine tuH 9 rfl hHeld ?_
    try simp only [Act.put, zz1, zz2, zz3, zz4, zz5, zz6]
    refine tuH 10 rfl hHeld ?_
    try simp only [Act.put, zz1, zz2, zz3, zz4, zz5, zz6]
    refine tuH 11 rfl hHeld ?_
    try simp only [Act.put, zz1, zz2, zz3, zz4, zz5, zz6]
    refine tuH 12 rfl hHeld ?_
    try simp only [Act.put, zz1, zz2, zz3, zz4, zz5, zz6]
    refine tuH 13 rfl hHeld ?_
    try simp only [Act.put, zz1, zz2, zz3, zz4, zz5, zz6]
    refine tuH 14 rfl hHeld ?_
    try simp only [Act.put, zz1, zz2, zz3, zz4, zz5, zz6]
    refine tuH 15 rfl hHeld ?_
    try simp only [Act.put, zz1, zz2, zz3, zz4, zz5, zz6]
    refine tuH 16 rfl hHeld ?_
    try simp only [Act.put, zz1, zz2, zz3, zz4, zz5, zz6]
    refine tuH 17 rfl hHeld ?_
    try simp only [Act.put, zz1, zz2, zz3, zz4, zz5, zz6]
    refine tuH 18 rfl hHeld ?_
    try simp only [Act.put, zz1, zz2, zz3, zz4, zz5, zz6]
    refine tkH 19 ?_ rfl ?_ hHeld ?_; rotate_left; (intro w hSw; (try dsimp only at hSw); go_simp; try with_reducible rfl); try simp only [Act.put, zz1, zz2, zz3, zz4, zz5, zz6]
    refine tkH 20 ?_ rfl ?_ hHeld ?_; rotate_left; (intro w hSw; (try dsimp only at hSw); go_simp; try with_reducible rfl); try simp only [Act.put, zz1, zz2, zz3, zz4, zz5, zz6]
    refine wpAnyH_done (by kernel_rfl) ?_ _
    go_wp2
    go_ret
    exact ⟨by rw [E.out]; first | done | rw [y] | simp [y] | simp [*], HB9.out⟩
  have y0 : (ph == 0) = true := by simp [e0]
  by_cases e1 : o = ev
  · have y : (o == ev) = true := by simp [e1]
    have E : Hid (opens9 ev K = true) := by show _ = _; rw [OP.out]; simp [e0, e1]
    clear e0 e1
    refine wp_region_held_drew (S := fun V => (V.cell? ⟨h, 1, none⟩ = some (.slice p.A1 p.n1 p.c1) ∧ V.cell? ⟨h, 2, none⟩ = some (.slice p.A2 4 p.c2) ∧ V.cell? ⟨h, 3, none⟩ = some (.slice p.A3 4 p.c3) ∧ V.cell? ⟨h, 4, none⟩ = some (.int .i64 K.tick) ∧ V.cell? ⟨h, 5, none⟩ = some (.int .i64 K.run) ∧ V.cell? ⟨h, 8, none⟩ = some (.int .i64 ev)) ∧ Below W.heap.size W V) (by kernel_rfl) (KH.out _ (Below.drew (Below.refl _ _))) (fun hHeld => ?_)
    obtain ⟨v0, hv0⟩ : ∃ v0, v0 = W.drew := ⟨_, rfl⟩
    have BL0 : Hid (Below W.heap.size W v0) := by rw [hv0]; exact Below.drew (Below.refl _ _)
    rw [← hv0] at hHeld ⊢
    clear hv0
    refine tkH 0 ?_ rfl ?_ hHeld ?_; rotate_left; (intro w hSw; (try dsimp only at hSw); go_simp; try with_reducible rfl); try simp only [Act.put, zz1, zz2, zz3, zz4, zz5, zz6]
    refine tkH 1 ?_ rfl ?_ hHeld ?_; rotate_left; (intro w hSw; (try dsimp only at hSw); go_simp; try with_reducible rfl); try simp only [Act.put, zz1, zz2, zz3, zz4, zz5, zz6]
    refine tkH 2 ?_ rfl ?_ hHeld ?_; rotate_left; (intro w hSw; (try dsimp only at hSw); go_simp; try with_reducible rfl); try simp only [Act.put, zz1, zz2, zz3, zz4, zz5, zz6]
    refine tkH 3 ?_ rfl ?_ hHeld ?_; rotate_left; (intro w hSw; (try dsimp only at hSw); go_simp; try with_reducible rfl); try simp only [Act.put, zz1, zz2, zz3, zz4, zz5, zz6]
    refine tkH 4 ?_ rfl ?_ hHeld ?_; rotate_left; (intro w hSw; (try dsimp only at hSw); go_simp; try with_reducible rfl); try simp only [Act.put, zz1, zz2, zz3, zz4, zz5, zz6]
    refine wpAnyH_ready (rs := [5]) (by kernel_rfl) (by simp) ?_
    refine AllReadyH.cons (o := _) rfl (fun K0 hK0 => ?_) AllReadyH.nil
    go_simp
    refine (PH.out _ (by go_split_ands; assumption)).mono ?_
    rintro e9 w9 ⟨rfl, hb9⟩
    go_wp2_with fail
    have HB9 := Lib.hid hb9
    refine hK0.out _ _ (KH.out _ hb9) (fun hHeld => ?_)
    clear hK0 K0
    try simp only [Act.put, zz1, zz2, zz3, zz4, zz5, zz6]
    refine tkH 6 ?_ rfl ?_ hHeld ?_; rotate_left; (intro w hSw; (try dsimp only at hSw); go_simp; try with_reducible rfl); try simp only [Act.put, zz1, zz2, zz3, zz4, zz5, zz6]
    refine tkH 7 ?_ rfl ?_ hHeld ?_; rotate_left; (intro w hSw; (try dsimp only at hSw); go_simp; try with_reducible rfl); try simp only [Act.put, zz1, zz2, zz3, zz4, zz5, zz6]
    refine tkH 8 ?_ rfl ?_ hHeld ?_; rotate_left; (intro w hSw; (try dsimp only at hSw); go_simp; try with_reducible rfl); try simp only [Act.put, zz1, zz2, zz3, zz4, zz5, zz6]
    refine tkH 9 ?_ rfl ?_ hHeld ?_; rotate_left; (intro w hSw; (try dsimp only at hSw); go_simp; try with_reducible rfl); try simp only [Act.put, zz1, zz2, zz3, zz4, zz5, zz6]
    refine tkH 10 ?_ rfl ?_ hHeld ?_; rotate_left; (intro w hSw; (try dsimp only at hSw); go_simp; try with_reducible rfl); try simp only [Act.put, zz1, zz2, zz3, zz4, zz5, zz6]
    refine tkH 11 ?_ rfl ?_ hHeld ?_; rotate_left; (intro w hSw; (try dsimp only at hSw); go_simp; try with_reducible rfl); try simp only [Act.put, zz1, zz2, zz3, zz4, zz5, zz6]
    refine tkH 12 ?_ rfl ?_ hHeld ?_; rotate_left; (intro w hSw; (try dsimp only at hSw); go_simp; try with_reducible rfl); try simp only [Act.put, zz1, zz2, zz3, zz4, zz5, zz6]
    refine tkH 14 ?_ rfl ?_ hHeld ?_; rotate_left; (intro w hSw; (try dsimp only at hSw); go_simp; try with_reducible rfl); try simp only [Act.put, zz1, zz2, zz3, zz4, zz5, zz6]
    refine tkH 15 ?_ rfl ?_ hHeld ?_; rotate_left; (intro w hSw; (try dsimp only at hSw); go_simp; try with_reducible rfl); try simp only [Act.put, zz1, zz2, zz3, zz4, zz5, zz6]
    refine tkH 16 ?_ rfl ?_ hHeld ?_; rotate_left; (intro w hSw; (try dsimp only at hSw); go_simp; try with_reducible rfl); try simp only [Act.put, zz1, zz2, zz3, zz4, zz5, zz6]
    refine tkH 17 ?_ rfl ?_ hHeld ?_; rotate_left; (intro w hSw; (try dsimp only at hSw); go_simp; try with_reducible rfl); try simp only [Act.put, zz1, zz2, zz3, zz4, zz5, zz6]
    refine wpAnyH_ready (rs := [13]) (by kernel_rfl) (by simp) ?_
    refine AllReadyH.cons (o := _) rfl (fun K0 hK0 => ?_) AllReadyH.nil
    go_simp
    refine (SO.out _ (by go_split_ands; assumption)).mono ?_
    rintro e9 w9 ⟨rfl, hb9⟩
    go_wp2_with fail
    have HB9 := Lib.hid hb9
    refine hK0.out _ _ (KH.out _ hb9) (fun hHeld => ?_)
    clear hK0 K0
    try simp only [Act.put, zz1, zz2, zz3, zz4, zz5, zz6]
    refine tkH 18 ?_ rfl ?_ hHeld ?_; rotate_left; (intro w hSw; (try dsimp only at hSw); go_simp; try with_reducible rfl); try simp only [Act.put, zz1, zz2, zz3, zz4, zz5, zz6]
    refine tkH 19 ?_ rfl ?_ hHeld ?_; rotate_left; (intro w hSw; (try dsimp only at hSw); go_simp; try with_reducible rfl); try simp only [Act.put, zz1, zz2, zz3, zz4, zz5, zz6]
    refine tkH 20 ?_ rfl ?_ hHeld ?_; rotate_left; (intro w hSw; (try dsimp only at hSw); go_simp; try with_reducible rfl); try simp only [Act.put, zz1, zz2, zz3, zz4, zz5, zz6]
    refine wpAnyH_done (by kernel_rfl) ?_ _
    go_wp2
    go_ret
    exact ⟨by rw [E.out]; first | done | rw [y] | simp [y] | simp [*], HB9.out⟩
  · have y : (o == ev) = false := by simp [e1]
    have E : Hid (opens9 ev K = false) := by show _ = _; rw [OP.out]; simp [e1]
    clear e0 e1
    refine wp_region_held_drew (S := fun V => (V.cell? ⟨h, 1, none⟩ = some (.slice p.A1 p.n1 p.c1) ∧ V.cell? ⟨h, 2, none⟩ = some (.slice p.A2 4 p.c2) ∧ V.cell? ⟨h, 3, none⟩ = some (.slice p.A3 4 p.c3) ∧ V.cell? ⟨h, 4, none⟩ = some (.int .i64 K.tick) ∧ V.cell? ⟨h, 5, none⟩ = some (.int .i64 K.run) ∧ V.cell? ⟨h, 8, none⟩ = some (.int .i64 ev)) ∧ Below W.heap.size W V) (by kernel_rfl) (KH.out _ (Below.drew (Below.refl _ _))) (fun hHeld => ?_)
    obtain ⟨v0, hv0⟩ : ∃ v0, v0 = W.drew := ⟨_, rfl⟩
    have BL0 : Hid (Below W.heap.size W v0) := by rw [hv0]; exact Below.drew (Below.refl _ _)
    rw [← hv0] at hHeld ⊢
    clear hv0
    refine tkH 0 ?_ rfl ?_ hHeld ?_; rotate_left; (intro w hSw; (try dsimp only at hSw); go_simp; try with_reducible rfl); try simp only [Act.put, zz1, zz2, zz3, zz4, zz5, zz6]
    refine tkH 1 ?_ rfl ?_ hHeld ?_; rotate_left; (intro w hSw; (try dsimp only at hSw); go_simp; try with_reducible rfl); try simp only [Act.put, zz1, zz2, zz3, zz4, zz5, zz6]
    refine tkH 2 ?_ rfl ?_ hHeld ?_; rotate_left; (intro w hSw; (try dsimp only at hSw); go_simp; try with_reducible rfl); try simp only [Act.put, zz1, zz2, zz3, zz4, zz5, zz6]
    refine tkH 3 ?_ rfl ?_ hHeld ?_; rotate_left; (intro w hSw; (try dsimp only at hSw); go_simp; try with_reducible rfl); try simp only [Act.put, zz1, zz2, zz3, zz4, zz5, zz6]
    refine tkH 4 ?_ rfl ?_ hHeld ?_; rotate_left; (intro w hSw; (try dsimp only at hSw); go_simp; try with_reducible rfl); try simp only [Act.put, zz1, zz2, zz3, zz4, zz5, zz6]
    refine wpAnyH_ready (rs := [5]) (by kernel_rfl) (by simp) ?_
    refine AllReadyH.cons (o := _) rfl (fun K0 hK0 => ?_) AllReadyH.nil
    go_simp
    refine (PH.out _ (by go_split_ands; assumption)).mono ?_
    rintro e9 w9 ⟨rfl, hb9⟩
    go_wp2_with fail
    have HB9 := Lib.hid hb9
    refine hK0.out _ _ (KH.out _ hb9) (fun hHeld => ?_)
    clear hK0 K0
    try simp only [Act.put, zz1, zz2, zz3, zz4, zz5, zz6]
    refine tkH 6 ?_ rfl ?_ hHeld ?_; rotate_left; (intro w hSw; (try dsimp only at hSw); go_simp; try with_reducible rfl); try simp only [Act.put, zz1, zz2, zz3, zz4, zz5, zz6]
    refine tkH 7 ?_ rfl ?_ hHeld ?_; rotate_left; (intro w hSw; (try dsimp only at hSw); go_simp; try with_reducible rfl); try simp only [Act.put, zz1, zz2, zz3, zz4, zz5, zz6]
    refine tkH 8 ?_ rfl ?_ hHeld ?_; rotate_left; (intro w hSw; (try dsimp only at hSw); go_simp; try with_reducible rfl); try simp only [Act.put, zz1, zz2, zz3, zz4, zz5, zz6]
    refine tkH 9 ?_ rfl ?_ hHeld ?_; rotate_left; (intro w hSw; (try dsimp only at hSw); go_simp; try with_reducible rfl); try simp only [Act.put, zz1, zz2, zz3, zz4, zz5, zz6]
    refine tkH 10 ?_ rfl ?_ hHeld ?_; rotate_left; (intro w hSw; (try dsimp only at hSw); go_simp; try with_reducible rfl); try simp only [Act.put, zz1, zz2, zz3, zz4, zz5, zz6]
    refine tkH 11 ?_ rfl ?_ hHeld ?_; rotate_left; (intro w hSw; (try dsimp only at hSw); go_simp; try with_reducible rfl); try simp only [Act.put, zz1, zz2, zz3, zz4, zz5, zz6]
    refine tkH 12 ?_ rfl ?_ hHeld ?_; rotate_left; (intro w hSw; (try dsimp only at hSw); go_simp; try with_reducible rfl); try simp only [Act.put, zz1, zz2, zz3, zz4, zz5, zz6]
    refine tkH 14 ?_ rfl ?_ hHeld ?_; rotate_left; (intro w hSw; (try dsimp only at hSw); go_simp; try with_reducible rfl); try simp only [Act.put, zz1, zz2, zz3, zz4, zz5, zz6]
    refine tkH 15 ?_ rfl ?_ hHeld ?_; rotate_left; (intro w hSw; (try dsimp only at hSw); go_simp; try with_reducible rfl); try simp only [Act.put, zz1, zz2, zz3, zz4, zz5, zz6]
    refine tkH 16 ?_ rfl ?_ hHeld ?_; rotate_left; (intro w hSw; (try dsimp only at hSw); go_simp; try with_reducible rfl); try simp only [Act.put, zz1, zz2, zz3, zz4, zz5, zz6]
    refine tkH 17 ?_ rfl ?_ hHeld ?_; rotate_left; (intro w hSw; (try dsimp only at hSw); go_simp; try with_reducible rfl); try simp only [Act.put, zz1, zz2, zz3, zz4, zz5, zz6]
    refine wpAnyH_ready (rs := [13]) (by kernel_rfl) (by simp) ?_
    refine AllReadyH.cons (o := _) rfl (fun K0 hK0 => ?_) AllReadyH.nil
    go_simp
    refine (SO.out _ (by go_split_ands; assumption)).mono ?_
    rintro e9 w9 ⟨rfl, hb9⟩
    go_wp2_with fail
    have HB9 := Lib.hid hb9
    refine hK0.out _ _ (KH.out _ hb9) (fun hHeld => ?_)
    clear hK0 K0
    try simp only [Act.put, zz1, zz2, zz3, zz4, zz5, zz6]
    refine tkH 18 ?_ rfl ?_ hHeld ?_; rotate_left; (intro w hSw; (try dsimp only at hSw); go_simp; try with_reducible rfl); try simp only [Act.put, zz1, zz2, zz3, zz4, zz5, zz6]
    refine tkH 19 ?_ rfl ?_ hHeld ?_; rotate_left; (intro w hSw; (try dsimp only at hSw); go_simp; try with_reducible rfl); try simp only [Act.put, zz1, zz2, zz3, zz4, zz5, zz6]
    refine tkH 20 ?_ rfl ?_ hHeld ?_; rotate_left; (intro w hSw; (try dsimp only at hSw); go_simp; try with_reducible rfl); try simp only [Act.put, zz1, zz2, zz3, zz4, zz5, zz6]
    refine wpAnyH_done (by kernel_rfl) ?_ _
    go_wp2
    go_ret
    exact ⟨by rw [E.out]; first | done | rw [y] | simp [y] | simp [*], HB9.out⟩

end Go.Proofs.YtckapndpefkcgaaGreat
