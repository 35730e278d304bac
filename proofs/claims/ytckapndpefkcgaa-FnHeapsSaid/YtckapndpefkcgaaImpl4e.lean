/-
  The program's heap that is pointed at: how one is put in. No conditions beyond that the heap can be read.
-/
import Derived.Deep.AppendLies
import Derived.Deep.RegionLaw
import Derived.BigRegion
import Derived.BigQuiet
import Derived.StillTailTactics
import Derived.Deep.RegionHeld3
import Derived.Laws.Tables
import Derived.Laws.CopyOwn
import Derived.Test.YtckapndpefkcgaaImpl4d
import Derived.Test.YtckapndpefkcgaaMath4
import Derived.Test.YtckapndpefkcgaaKit4
set_option maxHeartbeats 1000000
namespace Go.Proofs.Ytckapndpefkcgaa
open Go.RowKit
set_option maxRecDepth 100000

theorem or_ne {w : World} {base hb n c g : Nat} {hs : List Int} {cs : Array Value} (k : w.heap[hb]? = some (.cells cs 83 (0, 0))) (h : OR 26 2 w base (some ⟨g, 0, none⟩) n c hs) : g ≠ hb := by
  rintro rfl
  rcases h.2 with ⟨h', _⟩ | ⟨g', cap', cur, h', _, hg, _⟩
  · cases h'
  · injection h' with h' _ _
    injection h' with h'
    injection h' with h'
    subst h'
    have e := k.symm.trans hg
    injection e with e
    injection e with _ e _
    exact absurd e (by decide)
theorem HB.store {w : World} {base hb n c n' c' : Nat} {A A' : Option Addr} {hs' : List Int} (k : w.heap[hb]? = some (.cells #[.slice A n c, .func (.func 21) #[] #[]] 83 (0, 0))) (ho : OR 26 2 w base A' n' c' hs') (h0 : base ≤ hb) : HB (w.setCell ⟨hb, 0, none⟩ (.slice A' n' c')) base hb A' n' c' hs' :=
  ⟨heap_setCell_same w hb 0 _ _ _ k, ho.keepAll fun g e => by
    subst e
    exact Below.heap_setCell w ⟨hb, 0, none⟩ _ g (or_ne k ho), h0⟩

set_option maxHeartbeats 2000000 in
theorem push_any (base hb : Nat) (A : Option Addr) (n c : Nat) (hs : List Int) (p d : Int) (w : World) (hn : n ≤ 12) (h : HB w base hb A n c hs) :
    Calls Try.prog 60 #[.pointer (some ⟨hb, 0, none⟩), .agg #[.int .i64 p, .int .i64 d]] w fun e w' => e = .returned (.tuple #[]) ∧ ∃ A' c', HB w' base hb A' (n + 1) c' (push4 hs n p d) ∧ Below base w w' := by
  obtain ⟨i0, hi0, hz0, hz1, hz2⟩ := info_parts Try.info_Entry
  obtain ⟨w2, hw2⟩ : ∃ w2, w2 = w.alloc (.cells #[.int .i64 p, .int .i64 d] 26) := ⟨_, rfl⟩
  have k2 : w2.heap[w.heap.size]? = some (.cells #[.int .i64 p, .int .i64 d] 26 (0, 0)) := by rw [hw2]; exact heap_alloc_new w _
  have B2 : Hid (Below w.heap.size w w2) := by rw [hw2]; exact below_new w _
  have Z0 : Hid (base ≤ w.heap.size) := by have := h.lt; have := h.hb0; show _ ≤ _; omega
  have H2 := Lib.hid (h.below B2.out (Nat.le_refl _))
  have O3 := Lib.hid (show OR 26 2 (w2.drew.alloc (.cells #[.int .i64 p, .int .i64 d] 26)) base A n c hs from (H2.out.own.drewN 1).alloc _)
  have X3 := Lib.hid (show (w2.drew.alloc (.cells #[.int .i64 p, .int .i64 d] 26)).heap[hb]? = some (.cells #[.slice A n c, .func (.func 21) #[] #[]] 83 (0, 0)) from ((below_new w2.drew _).block hb H2.out.lt).trans H2.out.box)
  have NW : Hid (∀ j u, ([.int .i64 p, .int .i64 d] : List Value)[j]? = some u → (w2.drew.alloc (.cells #[.int .i64 p, .int .i64 d] 26)).cell? ((⟨w2.heap.size, 0, none⟩ : Addr).add j) = some u) := by
    have k3 : (w2.drew.alloc (.cells #[.int .i64 p, .int .i64 d] 26)).heap[w2.heap.size]? = some (.cells #[.int .i64 p, .int .i64 d] 26 (0, 0)) := heap_alloc_new w2.drew _
    intro j u hu
    rw [Go.WideShapes.add_plain]
    rcases j with _ | _ | j
    · injection hu with hu; subst hu; exact cell_of_row _ _ 0 _ _ _ k3
    · injection hu with hu; subst hu; exact cell_of_row _ _ 1 _ _ _ k3
    · simp at hu
  obtain ⟨q0, q1⟩ := H2.out.cells
  have e0 := cell_of_row w2 _ 0 _ _ _ k2
  have e1 := cell_of_row w2 _ 1 _ _ _ k2
  simp at e0 e1
  have f0 := frozen_of_row w2 _ 0 _ _ H2.out.box
  have HW2 := Lib.hid hw2
  have p0 : (w2.alloc (.cells #[.int .i64 p, .int .i64 d] 26)).cell? ⟨hb, 0, none⟩ = some (.slice A n c) := cell_of_row _ _ 0 _ _ _ X3.out
  have NE : Hid (some hb ≠ (Value.slice A n c).ownBlock) := by
    intro e
    rcases A with _ | ad
    · cases e
    · obtain ⟨g, e1, _, _⟩ := OR.at_ H2.out.own (by simp)
      injection e1 with e1
      subst e1
      have e2 : some hb = some g := e
      injection e2 with e2
      exact H2.out.ne e2.symm
  have Z2 := Lib.hid (show w2.heap.size = w.heap.size + 1 by rw [hw2]; simp)
  clear h k2 hw2
  go_enter Try.func60, Try.ntmps60
  go_upto_region 1 with (fail)
  rw [← HW2.out]
  go_cut [4] from 5 (fun x wx => x = undef ∧ ∃ A' c', HB wx base hb A' (n + 1) c' (hs ++ [p, d]) ∧ Below base w wx)
  case first => as_aux_lemma =>
    go_region_law (refine step_append_lies _ rfl (.tmp 9) (.tmp 11) 24 rfl base 26 i0 (.agg #[.int .i64 0, .int .i64 0]) 2 16 Try.underlying24 hi0 hz0 hz1 hz2 rfl (by decide) _ n _ rfl O3.out ⟨w2.heap.size, 0, none⟩ 1 1 [.int .i64 p, .int .i64 d] rfl rfl NW.out (by simp [Value.oneCell']) (by decide) (by unfold maxLen; omega) (by omega) (by have := Z0.out; have := Z2.out; simp; omega) _ rfl ?_; intro g7 cap w7 hown hgrow hat hlt; have K7 := Lib.hid ((hgrow.block hb (by have := (Array.getElem?_eq_some_iff.1 X3.out).1; exact this) NE.out).trans X3.out); have y0 := cell_of_row w7 _ 0 _ _ _ K7.out; have f7 := frozen_of_row w7 _ 0 _ _ K7.out; simp at y0; have HO7 := Lib.hid hown; have HG7 := Lib.hid hgrow; clear hown hgrow hat hlt)
    all_goals
      go_wp2_with fail
      go_meet
      have ho := HO7.out
      rw [show vals hs ++ [Value.int .i64 p, .int .i64 d] = vals (hs ++ [p, d]) by simp [vals]] at ho
      have hrow : ∀ k, (Value.slice A n c).ownBlock = some k → base ≤ k := fun k hk => by
        rcases A with _ | ad
        · cases hk
        · obtain ⟨g, e1, h1, _⟩ := OR.at_ H2.out.own (by simp)
          injection e1 with e1
          subst e1
          have e2 : some g = some k := hk
          injection e2 with e2
          omega
      have hbw : Below base w w7 := (show Below base w (w2.drew.alloc (.cells #[.int .i64 p, .int .i64 d] 26)) from ((B2.out.mono Z0.out).drew).alloc (by have := Z0.out; have := Z2.out; show base ≤ w2.heap.size; omega) _).grown HG7.out (by have := Z0.out; have := Z2.out; simp; omega) hrow
      exact ⟨rfl, _, _, HB.store K7.out ho H2.out.hb0, hbw.setCell (p := ⟨hb, 0, none⟩) H2.out.hb0 _⟩
  case rest =>
    obtain ⟨rfl, A', c', hh, hbb⟩ := hcut
    obtain ⟨g, rfl, _, _⟩ := OR.pos hh.own (by omega)
    have H4 := Lib.hid hh
    have B4 := Lib.hid hbb
    obtain ⟨q0, q1⟩ := hh.cells
    clear hh hbb H2 O3 X3 NW p0 NE HW2 Z2 B2
    go_wp2_with fail
    go_loopw [4] (fun i wr => ∃ (k : Nat) (xs : List Int), k ≤ n ∧ i = .int .i64 (k : Int) ∧ HB wr base hb (some ⟨g, 0, none⟩) (n + 1) c' xs ∧ up4 xs k = push4 hs n p d ∧ Below base w wr) (fun i _ => (intOf i).toNat)
    case atStart => exact ⟨n, _, Nat.le_refl _, by go_num, H4.out, rfl, B4.out⟩
    case round =>
      obtain ⟨k, xs, hk, rfl, hh, hu, hbb⟩ := hrel
      have HX := Lib.hid hh
      have UX := Lib.hid hu
      have BX := Lib.hid hbb
      clear hh hu hbb H4 B4
      rcases Nat.eq_zero_or_pos k with h0 | h0
      · subst h0
        have UE : Hid (xs = push4 hs n p d) := by show _ = _; rw [← UX.out, up4_end (by omega)]
        go_wp2
        go_end0
        exact ⟨rfl, _, _, UE.out ▸ HX.out, BX.out⟩
      · obtain ⟨u, hu⟩ : ∃ u : Nat, u = (k - 1) / 2 := ⟨_, rfl⟩
        have PA := Lib.hid (parentOf_any k u hu.symm (by omega))
        have HK := Lib.hid (show k ≤ n ∧ 1 ≤ k ∧ u < k by omega)
        have z0 : (0 : Int) < (k : Int) := by omega
        rcases hl : less4 xs k u with _ | _
        · have UE : Hid (xs = push4 hs n p d) := by
            show _ = _
            rw [← UX.out, up4_end (by rw [← hu, hl]; simp)]
          clear hu hk h0
          go_wp2_with fail
          refine (PA.out _).mono ?_
          rintro e w1 ⟨rfl, rfl⟩
          go_wp2_with fail
          refine (isLessAt_any base hb _ (n + 1) c' xs k u _ HX.out (by have := HK.out; omega) (by have := HK.out; omega)).mono ?_
          rw [hl]
          rintro e w2 ⟨rfl, hb2⟩
          have HX2 := Lib.hid (HX.out.below hb2 (Nat.le_refl _))
          have BX2 := Lib.hid (BX.out.trans (hb2.mono (Nat.le_trans Z0.out BX.out.size)))
          clear hb2 hl
          go_wp2
          go_end0
          exact ⟨rfl, _, _, UE.out ▸ HX2.out, BX2.out⟩
        · have UE : Hid (up4 (swp xs k u) u = push4 hs n p d) := by
            have e := up4_go (hs := xs) (i := k) (by omega) (by rw [← hu]; exact hl)
            rw [← hu] at e
            exact e.symm.trans UX.out
          clear hu hk h0
          go_wp2_with fail
          refine (PA.out _).mono ?_
          rintro e w1 ⟨rfl, rfl⟩
          go_wp2_with fail
          refine (isLessAt_any base hb _ (n + 1) c' xs k u _ HX.out (by have := HK.out; omega) (by have := HK.out; omega)).mono ?_
          rw [hl]
          rintro e w2 ⟨rfl, hb2⟩
          have HX2 := Lib.hid (HX.out.below hb2 (Nat.le_refl _))
          have BX2 := Lib.hid (BX.out.trans (hb2.mono (Nat.le_trans Z0.out BX.out.size)))
          clear hb2 hl HX BX
          go_wp2_with fail
          refine (PA.out _).mono ?_
          rintro e w3 ⟨rfl, rfl⟩
          go_wp2_with fail
          refine (swap_any base hb g (n + 1) c' xs k u _ HX2.out (by have := HK.out; omega) (by have := HK.out; omega) (by have := HK.out; omega)).mono ?_
          rintro e w4 ⟨rfl, hh, hkk⟩
          have HX4 := Lib.hid hh
          have BX4 := Lib.hid (BX2.out.trans (hkk.below (by have := BX2.out.size; have := Z0.out; omega) (fun b hb' => by simp at hb'; subst hb'; exact (OR.lt HX2.out.own).1)))
          clear hh hkk
          go_wp2_with fail
          refine (PA.out _).mono ?_
          rintro e w5 ⟨rfl, rfl⟩
          go_wp2
          go_roundw
          case rel => exact ⟨u, _, by have := HK.out; omega, rfl, HX4.out, UE.out, BX4.out⟩
          case measure => have := HK.out; simp [intOf]; omega

end Go.Proofs.Ytckapndpefkcgaa
