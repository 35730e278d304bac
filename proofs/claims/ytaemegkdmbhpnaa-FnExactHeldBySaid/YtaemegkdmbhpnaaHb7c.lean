/-
  HeldBy: the model. No conditions beyond that the lists can be read.
-/
import Derived.Test.YtaemegkdmbhpnaaHb7b
namespace Go.Proofs.Ytaemegkdmbhpnaa
open Go.RowKit
set_option maxRecDepth 100000

/-- a round: what is found so far in a box of its own -/
structure HbS (w w2 wr : World) (n k : Nat) (t : Nat → Int) (id : Int) (A : Option Addr) (c : Nat) : Prop where
  kn : k ≤ n
  kb : wr.heap[w.heap.size + 2]? = some (.cells #[.int .i64 0, .slice A (hb7 t id k).length c] 59 (0, 0))
  ow : OR 2 1 wr (w.heap.size + 3) A (hb7 t id k).length c (hb7 t id k)
  bw : Below (w.heap.size + 2) w2 wr

set_option maxHeartbeats 4000000 in
theorem specHeldBy_any (lo hi : Nat) (b : Int) (R : Option Addr) (rn rc : Nat) (T : Option Addr) (tn tc : Nat) (L : Option Addr) (n c : Nat) (C : Option Addr) (cn cc : Nat) (t : Nat → Int) (B : Nat → Option Addr) (m d : Nat → Nat) (x : Nat → Nat → Int) (id : Int) (w : World) (hn : n ≤ 1048576) (h : LL w lo hi L n t B m d x) :
    Calls Try.prog 20 #[.agg #[.int .i64 b, .slice R rn rc, .slice T tn tc, .slice L n c, .slice C cn cc], .int .i64 id] w (IA (hby7 t id n) w) := by
  obtain ⟨i0, hi0, hz0, hz1, hz2⟩ := info_parts Try.info_i64
  obtain ⟨w1, hw1⟩ : ∃ w1, w1 = (w.alloc (.cells #[.int .i64 b, .slice R rn rc, .slice T tn tc, .slice L n c, .slice C cn cc] 54)).alloc (.cells #[.int .i64 0, .slice none 0 0] 59) := ⟨_, rfl⟩
  have k1 : w1.heap[w.heap.size]? = some (.cells #[.int .i64 b, .slice R rn rc, .slice T tn tc, .slice L n c, .slice C cn cc] 54 (0, 0)) := by rw [hw1]; exact heap_alloc2_old w _ _
  have k2 : w1.heap[w.heap.size + 1]? = some (.cells #[.int .i64 0, .slice none 0 0] 59 (0, 0)) := by rw [hw1]; exact heap_alloc2_new w _ _
  have B1 : Hid (Below w.heap.size w w1) := by rw [hw1]; exact (below_new w _).alloc (by simp) _
  have Z1 : Hid (w1.heap.size = w.heap.size + 2) := by show _ = _; rw [hw1]; simp
  have KL := Lib.hid k1
  have KZ := Lib.hid k2
  have HN := Lib.hid hn
  have H1 := Lib.hid (h.lt.below B1.out (Nat.min_le_right _ _))
  have HW1 := Lib.hid hw1
  obtain ⟨z, hz⟩ : ∃ z, okI7 id = z := ⟨_, rfl⟩
  have IT : Hid (∀ W, Calls Try.prog 96 #[.int .i64 id] W fun e w' => e = .returned (.bool z) ∧ W = w') := fun W => by have := l5Id7_any id W; rw [hz] at this; exact this
  clear h hn k1 k2 hw1
  go_enter Try.func20, Try.ntmps20
  go_upto_region 1 with (fail)
  rw [← HW1.out]
  clear HW1
  cases z with
  | false =>
    have V : Hid (hby7 t id n = (3, [])) := if_pos hz
    have q0 := cell_of_row w1 _ 0 _ _ _ KZ.out; have q1 := cell_of_row w1 _ 1 _ _ _ KZ.out; have f0 := frozen_of_row w1 _ 0 _ _ KZ.out; have f1 := frozen_of_row w1 _ 1 _ _ KZ.out
    simp at q0 q1
    clear hz
    go_wp2_with (go_at_call 96; refine (IT.out _).mono ?_; rintro e w' ⟨rfl, rfl⟩)
    refine bodyPost_ret (results_cell_row rfl _ _ (w.heap.size + 1) _ _ (0, 0) _ rfl (heap_setCell_same _ _ 1 _ _ _ (heap_setCell_same _ _ 0 _ _ _ KZ.out)) Try.underlying59 rfl (by kernel_rfl)) rfl ?_
    rw [V.out]
    exact ⟨none, 0, rfl, OR.void _ _, (B1.out.setCell (p := ⟨w.heap.size + 1, 0, none⟩) (by simp) _).setCell (p := ⟨w.heap.size + 1, 1, none⟩) (by simp) _⟩
  | true =>
    have V : Hid (hby7 t id n = (0, hb7 t id n)) := if_neg (by rw [hz]; simp)
    obtain ⟨w2, hw2⟩ : ∃ w2, w2 = w1.alloc (.cells #[.int .i64 0, .slice none 0 0] 59) := ⟨_, rfl⟩
    have S2 : Hid (HbS w w2 w2 n 0 t id none 0) := by
      refine ⟨Nat.zero_le _, ?_, OR.void _ _, Below.refl _ _⟩
      rw [hw2]; have := heap_alloc_new w1 (.cells #[.int .i64 0, .slice none 0 0] 59); rw [Z1.out] at this; exact this
    have N2 := Lib.hid (show Below (w.heap.size + 2) w1 w2 by rw [hw2, ← Z1.out]; exact below_new w1 _)
    have HW2 := Lib.hid hw2
    have Z2 := Lib.hid Z1.out.symm
    clear hz hw2
    go_upto_region 4 with (go_at_call 96; refine (IT.out _).mono ?_; rintro e w' ⟨rfl, rfl⟩)
    rw [← HW2.out, Z1.out]
    clear HW2
    go_wp2
    go_loopw [6] (fun i wr => ∃ (k : Nat) (A' : Option Addr) (c' : Nat), i = .int .i64 k ∧ HbS w w2 wr n k t id A' c') (fun i _ => n - (intOf i).toNat)
    case atStart => exact ⟨0, none, 0, rfl, S2.out⟩
    case round =>
      obtain ⟨k, A', c', rfl, hs⟩ := hrel
      have J := Lib.hid hs
      have HK := Lib.hid hs.kn
      have r3 : wr.cell? ⟨w.heap.size, 3, none⟩ = some (.slice L n c) := by
        have := cell_of_row wr _ 3 _ _ _ ((hs.bw.block w.heap.size (by omega)).trans ((N2.out.block w.heap.size (by omega)).trans KL.out))
        simpa using this
      by_cases hlt : k < n
      · have wk : IntKind.i64.wrap ((k : Int) + 1) = (k : Int) + 1 := IntWalk.i64_in _ (by have := HN.out; omega)
        have HL := Lib.hid (show (hb7 t id k).length ≤ 1048576 from Nat.le_trans (hb7_len t id k) (by have := HN.out; omega))
        have LT := Lib.hid hlt
        obtain ⟨bk, off, rfl, h1, h2, hc⟩ := H1.out.at_ hlt
        obtain ⟨p0, p1⟩ := hc k hlt
        have BW := Lib.hid (N2.out.trans hs.bw)
        have c0 : wr.cell? ⟨bk, off + k * 2, none⟩ = _ := (BW.out.cell (p := ⟨bk, off + k * 2, none⟩) (by simp; omega)).trans p0
        clear hc p0 p1 hs
        by_cases he : t k = id
        · have he' : (t k == id) = true := by simp [he]
          have NX : Hid (hb7 t id (k + 1) = hb7 t id k ++ [(k : Int)]) := if_pos he
          have ZR : Hid (w.heap.size + 3 ≤ wr.heap.size) := by
            show _ ≤ _
            have := (Array.getElem?_eq_some_iff.1 J.out.kb).1
            omega
          have HO2 : Hid (OR 2 1 (wr.alloc (.cells #[.int .i64 (k : Int)] 2)) (w.heap.size + 3) A' (hb7 t id k).length c' (hb7 t id k)) := OR.alloc J.out.ow _
          have HB2 : Hid (Below (w.heap.size + 3) wr (wr.alloc (.cells #[.int .i64 (k : Int)] 2))) := (Below.refl _ _).alloc ZR.out _
          have NW := Lib.hid (one_new6 wr (k : Int))
          have ZB : Hid (w.heap.size + 3 ≤ (wr.alloc (.cells #[.int .i64 (k : Int)] 2)).heap.size) := by show _ ≤ _; have := ZR.out; have := HB2.out.size; omega
          have q1 := cell_of_row wr _ 1 _ _ _ J.out.kb
          simp at q1
          clear he
          go_wp2_with ((at_builtin; refine wpList_append_own _ rfl (.tmp 28) (.tmp 30) 22 rfl (w.heap.size + 3) 2 i0 (.int .i64 0) 1 8 Try.underlying22 hi0 hz0 hz1 hz2 rfl (by decide) (.slice A' (hb7 t id k).length c') (hb7 t id k).length (vals (hb7 t id k)) rfl HO2.out ⟨wr.heap.size, 0, none⟩ 1 1 [.int .i64 (k : Int)] rfl rfl NW.out (by simp [Value.oneCell']) (by unfold maxLen; have := HL.out; omega) (by have := HL.out; omega) ZB.out ?_; intro v' w7 hown hgrow _; obtain ⟨A7, c7, hv7, ho7⟩ := row_more6 hown; subst hv7; have HO8 := Lib.hid ho7; have HA := Lib.hid (HB2.out.trans (OR.grew6 HO2.out ZB.out hgrow)); have K7 := Lib.hid ((HA.out.block (w.heap.size + 2) (by omega)).trans J.out.kb); have u1 := cell_of_row w7 _ 1 _ _ _ K7.out; have f1 := frozen_of_row w7 _ 1 _ _ K7.out; simp at u1; clear ho7 hown hgrow))
          go_roundw
          case rel =>
            refine ⟨k + 1, A7, c7, by rfl, by have := LT.out; omega, ?_, ?_, ?_⟩
            · rw [NX.out]
              have := heap_setCell_same w7 _ 1 _ _ (.slice A7 ((hb7 t id k).length + 1) c7) K7.out
              simpa using this
            · rw [NX.out]
              have := OR.farSet7 HO8.out (show w.heap.size + 2 < w.heap.size + 3 by omega) 1 (.slice A7 ((hb7 t id k).length + 1) c7)
              simpa using this
            · exact (J.out.bw.trans (HA.out.mono (by omega))).setCell (p := ⟨w.heap.size + 2, 1, none⟩) (by simp) _
          case measure => have := LT.out; simp [intOf]; omega
        · have he' : (t k == id) = false := by simp [he]
          have NX : Hid (hb7 t id (k + 1) = hb7 t id k) := if_neg he
          clear he
          go_wp2
          go_roundw
          case rel => exact ⟨k + 1, A', c', by rfl, by have := LT.out; omega, by rw [NX.out]; exact J.out.kb, by rw [NX.out]; exact J.out.ow, J.out.bw⟩
          case measure => have := LT.out; simp [intOf]; omega
      · obtain rfl : n = k := by have := HK.out; omega
        have BW := Lib.hid (N2.out.trans hs.bw)
        have q0 := cell_of_row wr _ 0 _ _ _ J.out.kb; have q1 := cell_of_row wr _ 1 _ _ _ J.out.kb; have g0 := frozen_of_row wr _ 0 _ _ J.out.kb; have g1 := frozen_of_row wr _ 1 _ _ J.out.kb
        have K1 := Lib.hid ((BW.out.block (w.heap.size + 1) (by omega)).trans KZ.out)
        have v0 := cell_of_row wr _ 0 _ _ _ K1.out; have v1 := cell_of_row wr _ 1 _ _ _ K1.out; have f0 := frozen_of_row wr _ 0 _ _ K1.out; have f1 := frozen_of_row wr _ 1 _ _ K1.out
        simp at q0 q1 v0 v1
        clear hs
        go_wp2
        refine bodyPost_ret (results_cell_row rfl _ _ (w.heap.size + 1) _ _ (0, 0) _ rfl (heap_setCell_same _ _ 1 _ _ _ (heap_setCell_same _ _ 0 _ _ _ K1.out)) Try.underlying59 rfl (by kernel_rfl)) rfl ?_
        rw [V.out]
        exact ⟨A', c', rfl, ((J.out.ow.farSet7 (by omega) 0 _).farSet7 (by omega) 1 _).mono7 (by omega), ((B1.out.trans (BW.out.mono (by omega))).setCell (p := ⟨w.heap.size + 1, 0, none⟩) (by simp) _).setCell (p := ⟨w.heap.size + 1, 1, none⟩) (by simp) _⟩

end Go.Proofs.Ytaemegkdmbhpnaa
