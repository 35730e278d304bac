/-
  The walk of FnExactMutedEvents: whatever came in, it returns true.
-/
import Derived.Test.YtkhphkfbjbhgaaaGreatKitM9
namespace Go.Proofs.YtkhphkfbjbhgaaaGreat
open Go.RowKit
set_option maxRecDepth 100000

set_option maxHeartbeats 16000000 in
theorem walkMutedEvents (mm ev kd : Int) (A : Option Addr) (n c : Nat) (x : Nat → Int) (w : World) (hn : n ≤ 9223372036854775807) (h : Sl w 0 w.heap.size A (n * 7) (fun k => .int .i64 (x k))) :
    Calls Tryz.prog 5 #[.int .i64 mm, .slice A n c, .int .i64 ev, .int .i64 kd] w fun e w' => e = .returned (.bool true) ∧ Below w.heap.size w w' := by
  have SZ := Lib.hid (szEventS_any A n c w hn)
  have H := Lib.hid h
  have HN := Lib.hid hn
  clear h
  by_cases hs : n ≤ 1048576
  case neg =>
    rw [if_neg hs] at SZ
    clear hs hn
    go_enter Tryz.func5, Tryz.ntmps5
    go_wp2_with fail
    refine SZ.out.mono ?_
    rintro e w1 ⟨rfl, rfl⟩
    go_wp2
    go_ret
    exact ⟨rfl, Below.refl _ _⟩
  rw [if_pos hs] at SZ
  obtain ⟨sv, hsv⟩ : ∃ sv : Int, sv = 1048576 - (n : Int) := ⟨_, rfl⟩
  rw [← hsv] at SZ
  have g1 : ¬ sv < 0 := by omega
  clear hsv hn
  go_enter Tryz.func5, Tryz.ntmps5
  go_wp2_with fail
  refine SZ.out.mono ?_
  rintro e w0 ⟨rfl, rfl⟩
  clear SZ
  go_wp2_with fail
  have BW0 : Hid (Below w.heap.size w w) := Below.refl _ _
  have HA0 := H
  refine (toEventS_any 0 w.heap.size A n c x _ (by omega) HA0.out (by first | omega | (simp only [World.size_alloc]; omega))).mono ?_
  rintro e w1 ⟨rfl, r0, hb⟩
  have sz1 : w.heap.size ≤ w1.heap.size := hb.size
  have BW1 := Lib.hid (BW0.out.trans (hb.mono (by first | omega | (simp only [World.size_alloc]; omega))))
  have HA1 := Lib.hid (HA0.out.below hb (by first | omega | (simp only [World.size_alloc]; omega)))
  clear hb BW0 HA0
  have XX1 := Lib.hid r0
  clear r0
  go_wp2_with fail
  have SX := Lib.hid (XX1.out.sl (Nat.zero_le _) XX1.out.lt)
  clear XX1
  refine (specMutedEvents_any _ _ _ n _ x mm ev kd _ HN.out SX.out).mono ?_
  rintro e w2 ⟨A2, n2, c2, rfl, hl2, hA2, hm2, hb⟩
  clear SX
  have sz2 : w1.heap.size ≤ w2.heap.size := hb.size
  have BW2 := Lib.hid (BW1.out.trans (hb.mono (by first | omega | (simp only [World.size_alloc]; omega))))
  have HA2 := Lib.hid (HA1.out.below hb (by first | omega | (simp only [World.size_alloc]; omega)))
  clear hb BW1 HA1
  have WL2 := Lib.hid hm2.sl
  have HL2 := Lib.hid hl2
  clear hm2 hl2 hA2
  have hn2 : n2 ≤ 1048576 := by have := HL2.out; have := mut9_len mm x n ev kd; omega
  have hb := below_new w2 (.cells #[.int .i64 (mut9 mm x n ev kd).1, .slice A2 n2 c2] 40)
  have sz3 : w2.heap.size + 1 = (w2.alloc (.cells #[.int .i64 (mut9 mm x n ev kd).1, .slice A2 n2 c2] 40)).heap.size := by simp
  have BW3 := Lib.hid (BW2.out.trans (hb.mono (by omega)))
  have HA3 := Lib.hid (HA2.out.below hb (by omega))
  have WL3 := Lib.hid (WL2.out.below hb (by omega))
  clear hb BW2 HA2 WL2
  rw [World.size_alloc] at sz3
  have BA3 := Lib.hid (heap_alloc_new w2 (.cells #[.int .i64 (mut9 mm x n ev kd).1, .slice A2 n2 c2] 40))
  go_wp2_with fail
  refine (toEventS_any 0 w.heap.size A n c x _ (by omega) HA3.out (by first | omega | (simp only [World.size_alloc]; omega))).mono ?_
  rintro e w4 ⟨rfl, r0, hb⟩
  have sz4 : (w2.alloc (.cells #[.int .i64 (mut9 mm x n ev kd).1, .slice A2 n2 c2] 40)).heap.size ≤ w4.heap.size := hb.size
  simp only [World.size_alloc] at sz4
  have BW4 := Lib.hid (BW3.out.trans (hb.mono (by first | omega | (simp only [World.size_alloc]; omega))))
  have HA4 := Lib.hid (HA3.out.below hb (by first | omega | (simp only [World.size_alloc]; omega)))
  have WL4 := Lib.hid (WL3.out.below hb (by first | omega | (simp only [World.size_alloc]; omega)))
  have BA4 := Lib.hid ((hb.block _ (by first | omega | (simp only [World.size_alloc]; omega))).trans BA3.out)
  clear hb BW3 HA3 WL3 BA3
  simp only [World.size_alloc] at r0
  have XX4 := Lib.hid r0
  clear r0
  have XR4 : Hid (Mine w4 ((w2.heap.size + 1)) ((w2.heap.size + 1) + 1) 78 (some ⟨(w2.heap.size + 1), 0, none⟩) (n * 7) (fun k => .int .i64 (x k))) := .inr ⟨_, 0, rfl, Nat.le_refl _, by omega, XX4.out⟩
  have hX : (w2.heap.size + 1) + 1 ≤ w4.heap.size := XX4.out.lt
  clear XX4
  go_wp2_with fail
  refine (implMutedEvents_any _ _ _ n _ x mm ev kd _ HN.out (fun e => by cases e) XR4.out.sl).mono ?_
  rintro e w5 ⟨A4, n4, c4, rfl, hl4, hA4, hm4, hb⟩
  have sz5 : w4.heap.size ≤ w5.heap.size := hb.size
  have BW5 := Lib.hid (BW4.out.trans (hb.mono (by first | omega | (simp only [World.size_alloc]; omega))))
  have HA5 := Lib.hid (HA4.out.below hb (by first | omega | (simp only [World.size_alloc]; omega)))
  have WL5 := Lib.hid (WL4.out.below hb (by first | omega | (simp only [World.size_alloc]; omega)))
  have BA5 := Lib.hid ((hb.block _ (by first | omega | (simp only [World.size_alloc]; omega))).trans BA4.out)
  have XR5 := Lib.hid (XR4.out.below hb (by first | omega | (simp only [World.size_alloc]; omega)))
  clear hb BW4 HA4 WL4 BA4 XR4
  obtain rfl : n2 = n4 := by have := HL2.out.symm.trans hl4; omega
  have GM5 := Lib.hid hm4
  clear hm4 hl4 hA4
  have hb := below_new w5 (.cells #[.int .i64 (mut9 mm x n ev kd).1, .slice A4 n2 c4] 40)
  have sz6 : w5.heap.size + 1 = (w5.alloc (.cells #[.int .i64 (mut9 mm x n ev kd).1, .slice A4 n2 c4] 40)).heap.size := by simp
  have BW6 := Lib.hid (BW5.out.trans (hb.mono (by omega)))
  have HA6 := Lib.hid (HA5.out.below hb (by omega))
  have WL6 := Lib.hid (WL5.out.below hb (by omega))
  have BA6 := Lib.hid ((hb.block _ (by omega)).trans BA5.out)
  have XR6 := Lib.hid (XR5.out.below hb (by omega))
  have GM6 := Lib.hid (GM5.out.below hb (by omega))
  clear hb BW5 HA5 WL5 BA5 XR5 GM5
  rw [World.size_alloc] at sz6
  have BB6 := Lib.hid (heap_alloc_new w5 (.cells #[.int .i64 (mut9 mm x n ev kd).1, .slice A4 n2 c4] 40))
  have q0BA := cell_of_row (w5.alloc (.cells #[.int .i64 (mut9 mm x n ev kd).1, .slice A4 n2 c4] 40)) _ 0 _ _ _ BA6.out
  have q1BA := cell_of_row (w5.alloc (.cells #[.int .i64 (mut9 mm x n ev kd).1, .slice A4 n2 c4] 40)) _ 1 _ _ _ BA6.out
  simp at q0BA q1BA
  have q0BB := cell_of_row (w5.alloc (.cells #[.int .i64 (mut9 mm x n ev kd).1, .slice A4 n2 c4] 40)) _ 0 _ _ _ BB6.out
  have q1BB := cell_of_row (w5.alloc (.cells #[.int .i64 (mut9 mm x n ev kd).1, .slice A4 n2 c4] 40)) _ 1 _ _ _ BB6.out
  simp at q0BB q1BB
  go_wp2_with fail
  clear q0BA q1BA
  clear q0BB q1BB
  refine (eqMutedResult_same _ _ _ _ _ _ n2 _ _ _ _ _ (by omega) GM6.out.sl WL6.out).mono ?_
  rintro e w7 ⟨rfl, hb⟩
  have sz7 : (w5.alloc (.cells #[.int .i64 (mut9 mm x n ev kd).1, .slice A4 n2 c4] 40)).heap.size ≤ w7.heap.size := hb.size
  simp only [World.size_alloc] at sz7
  have BW7 := Lib.hid (BW6.out.trans (hb.mono (by first | omega | (simp only [World.size_alloc]; omega))))
  have HA7 := Lib.hid (HA6.out.below hb (by first | omega | (simp only [World.size_alloc]; omega)))
  have WL7 := Lib.hid (WL6.out.below hb (by first | omega | (simp only [World.size_alloc]; omega)))
  have BA7 := Lib.hid ((hb.block _ (by first | omega | (simp only [World.size_alloc]; omega))).trans BA6.out)
  have XR7 := Lib.hid (XR6.out.below hb (by first | omega | (simp only [World.size_alloc]; omega)))
  have GM7 := Lib.hid (GM6.out.below hb (by first | omega | (simp only [World.size_alloc]; omega)))
  have BB7 := Lib.hid ((hb.block _ (by first | omega | (simp only [World.size_alloc]; omega))).trans BB6.out)
  clear hb BW6 HA6 WL6 BA6 XR6 GM6 BB6
  go_wp2_with fail
  refine (toEventS_any 0 w.heap.size A n c x _ (by omega) HA7.out (by first | omega | (simp only [World.size_alloc]; omega))).mono ?_
  rintro e w8 ⟨rfl, r0, hb⟩
  have sz8 : w7.heap.size ≤ w8.heap.size := hb.size
  have BW8 := Lib.hid (BW7.out.trans (hb.mono (by first | omega | (simp only [World.size_alloc]; omega))))
  have HA8 := Lib.hid (HA7.out.below hb (by first | omega | (simp only [World.size_alloc]; omega)))
  have WL8 := Lib.hid (WL7.out.below hb (by first | omega | (simp only [World.size_alloc]; omega)))
  have BA8 := Lib.hid ((hb.block _ (by first | omega | (simp only [World.size_alloc]; omega))).trans BA7.out)
  have XR8 := Lib.hid (XR7.out.below hb (by first | omega | (simp only [World.size_alloc]; omega)))
  have GM8 := Lib.hid (GM7.out.below hb (by first | omega | (simp only [World.size_alloc]; omega)))
  have BB8 := Lib.hid ((hb.block _ (by first | omega | (simp only [World.size_alloc]; omega))).trans BB7.out)
  clear hb BW7 HA7 WL7 BA7 XR7 GM7 BB7
  have XX8 := Lib.hid r0
  clear r0
  go_wp2_with fail
  have SX := Lib.hid (XX8.out.sl (Nat.zero_le _) XX8.out.lt)
  clear XX8
  refine (eqEventS_same _ _ _ _ _ _ n _ _ x _ (by omega) XR8.out.sl SX.out).mono ?_
  rintro e w9 ⟨rfl, hb⟩
  clear SX
  have sz9 : w8.heap.size ≤ w9.heap.size := hb.size
  have BW9 := Lib.hid (BW8.out.trans (hb.mono (by first | omega | (simp only [World.size_alloc]; omega))))
  have HA9 := Lib.hid (HA8.out.below hb (by first | omega | (simp only [World.size_alloc]; omega)))
  have WL9 := Lib.hid (WL8.out.below hb (by first | omega | (simp only [World.size_alloc]; omega)))
  have BA9 := Lib.hid ((hb.block _ (by first | omega | (simp only [World.size_alloc]; omega))).trans BA8.out)
  have XR9 := Lib.hid (XR8.out.below hb (by first | omega | (simp only [World.size_alloc]; omega)))
  have GM9 := Lib.hid (GM8.out.below hb (by first | omega | (simp only [World.size_alloc]; omega)))
  have BB9 := Lib.hid ((hb.block _ (by first | omega | (simp only [World.size_alloc]; omega))).trans BB8.out)
  clear hb BW8 HA8 WL8 BA8 XR8 GM8 BB8
  go_wp2_with fail
  refine (markEventS_any ((w2.heap.size + 1)) ((w2.heap.size + 1) + 1) _ n _ _ 1 _ (by omega) (by omega) (fun k _ => ⟨_, rfl⟩) XR9.out).mono ?_
  rintro e w10 ⟨rfl, hm, ho⟩
  clear hm
  clear XR9
  have sz10 : w9.heap.size ≤ w10.heap.size := ho.1.size
  have BW10 := Lib.hid (BW9.out.trans (ho.1.mono (by first | omega | (simp only [World.size_alloc]; omega))))
  have HA10 := Lib.hid (HA9.out.only ho (by first | omega | (simp only [World.size_alloc]; omega)) (by first | omega | (simp only [World.size_alloc]; omega)))
  have WL10 := Lib.hid (WL9.out.only ho (by first | omega | (simp only [World.size_alloc]; omega)) (by first | omega | (simp only [World.size_alloc]; omega)))
  have BA10 := Lib.hid ((ho.block (by first | omega | (simp only [World.size_alloc]; omega)) (by first | omega | (simp only [World.size_alloc]; omega))).trans BA9.out)
  have GM10 := Lib.hid (GM9.out.only ho (by first | omega | (simp only [World.size_alloc]; omega)) (by first | omega | (simp only [World.size_alloc]; omega)))
  have BB10 := Lib.hid ((ho.block (by first | omega | (simp only [World.size_alloc]; omega)) (by first | omega | (simp only [World.size_alloc]; omega))).trans BB9.out)
  clear ho BW9 HA9 WL9 BA9 GM9 BB9
  have hk1 : ¬ (((1 + n * 7 : Nat) : Int) < 0) := by omega
  have q0BA := cell_of_row w10 _ 0 _ _ _ BA10.out
  have q1BA := cell_of_row w10 _ 1 _ _ _ BA10.out
  simp at q0BA q1BA
  have q0BB := cell_of_row w10 _ 0 _ _ _ BB10.out
  have q1BB := cell_of_row w10 _ 1 _ _ _ BB10.out
  simp at q0BB q1BB
  go_wp2_with fail
  clear q0BA q1BA
  clear q0BB q1BB
  refine (eqMutedResult_same _ _ _ _ _ _ n2 _ _ _ _ _ (by omega) GM10.out.sl WL10.out).mono ?_
  rintro e w11 ⟨rfl, hb⟩
  have sz11 : w10.heap.size ≤ w11.heap.size := hb.size
  have BW11 := Lib.hid (BW10.out.trans (hb.mono (by first | omega | (simp only [World.size_alloc]; omega))))
  have HA11 := Lib.hid (HA10.out.below hb (by first | omega | (simp only [World.size_alloc]; omega)))
  have WL11 := Lib.hid (WL10.out.below hb (by first | omega | (simp only [World.size_alloc]; omega)))
  have BA11 := Lib.hid ((hb.block _ (by first | omega | (simp only [World.size_alloc]; omega))).trans BA10.out)
  have GM11 := Lib.hid (GM10.out.below hb (by first | omega | (simp only [World.size_alloc]; omega)))
  have BB11 := Lib.hid ((hb.block _ (by first | omega | (simp only [World.size_alloc]; omega))).trans BB10.out)
  clear hb BW10 HA10 WL10 BA10 GM10 BB10
  have q0BB := cell_of_row w11 _ 0 _ _ _ BB11.out
  have q1BB := cell_of_row w11 _ 1 _ _ _ BB11.out
  simp at q0BB q1BB
  go_wp2_with fail
  clear q0BB q1BB
  refine (markMutedResult_any (w4.heap.size) (w5.heap.size) A4 n2 c4 _ _ 1 _ (by omega) (by omega) (by first | omega | (simp only [World.size_alloc]; omega)) (fun k _ => ⟨_, rfl⟩) GM11.out (by first | omega | (simp only [World.size_alloc]; omega))).mono ?_
  rintro e w12 ⟨rfl, hm, ho⟩
  clear GM11
  have sz12 : w11.heap.size ≤ w12.heap.size := ho.1.size
  have BW12 := Lib.hid (BW11.out.trans (ho.1.mono (by first | omega | (simp only [World.size_alloc]; omega))))
  have HA12 := Lib.hid (HA11.out.only ho (by first | omega | (simp only [World.size_alloc]; omega)) (by first | omega | (simp only [World.size_alloc]; omega)))
  have WL12 := Lib.hid (WL11.out.only ho (by first | omega | (simp only [World.size_alloc]; omega)) (by first | omega | (simp only [World.size_alloc]; omega)))
  have BA12 := Lib.hid ((ho.block (by first | omega | (simp only [World.size_alloc]; omega)) (by first | omega | (simp only [World.size_alloc]; omega))).trans BA11.out)
  have BB12 := Lib.hid ((ho.block (by first | omega | (simp only [World.size_alloc]; omega)) (by first | omega | (simp only [World.size_alloc]; omega))).trans BB11.out)
  clear ho BW11 HA11 WL11 BA11 BB11
  have GK12 := Lib.hid hm.sl
  clear hm
  have hk2 : ¬ (((1 + n2 * 7 : Nat) : Int) < 0) := by omega
  have q0BB := cell_of_row w12 _ 0 _ _ _ BB12.out
  have q1BB := cell_of_row w12 _ 1 _ _ _ BB12.out
  simp at q0BB q1BB
  go_wp2_with fail
  clear q0BB q1BB
  refine (heldMutedResult_any _ _ A4 n2 c4 _ 1 _ (by omega) (by omega) GK12.out).mono ?_
  rintro e w13 ⟨rfl, hb⟩
  have sz13 : w12.heap.size ≤ w13.heap.size := hb.size
  have BW13 := Lib.hid (BW12.out.trans (hb.mono (by first | omega | (simp only [World.size_alloc]; omega))))
  have HA13 := Lib.hid (HA12.out.below hb (by first | omega | (simp only [World.size_alloc]; omega)))
  have WL13 := Lib.hid (WL12.out.below hb (by first | omega | (simp only [World.size_alloc]; omega)))
  have BA13 := Lib.hid ((hb.block _ (by first | omega | (simp only [World.size_alloc]; omega))).trans BA12.out)
  have BB13 := Lib.hid ((hb.block _ (by first | omega | (simp only [World.size_alloc]; omega))).trans BB12.out)
  have GK13 := Lib.hid (GK12.out.below hb (by first | omega | (simp only [World.size_alloc]; omega)))
  clear hb BW12 HA12 WL12 BA12 BB12 GK12
  go_wp2_with fail
  refine (toEventS_any 0 w.heap.size A n c x _ (by omega) HA13.out (by first | omega | (simp only [World.size_alloc]; omega))).mono ?_
  rintro e w14 ⟨rfl, r0, hb⟩
  have sz14 : w13.heap.size ≤ w14.heap.size := hb.size
  have BW14 := Lib.hid (BW13.out.trans (hb.mono (by first | omega | (simp only [World.size_alloc]; omega))))
  have HA14 := Lib.hid (HA13.out.below hb (by first | omega | (simp only [World.size_alloc]; omega)))
  have WL14 := Lib.hid (WL13.out.below hb (by first | omega | (simp only [World.size_alloc]; omega)))
  have BA14 := Lib.hid ((hb.block _ (by first | omega | (simp only [World.size_alloc]; omega))).trans BA13.out)
  have BB14 := Lib.hid ((hb.block _ (by first | omega | (simp only [World.size_alloc]; omega))).trans BB13.out)
  have GK14 := Lib.hid (GK13.out.below hb (by first | omega | (simp only [World.size_alloc]; omega)))
  clear hb BW13 HA13 WL13 BA13 BB13 GK13
  have XX14 := Lib.hid r0
  clear r0
  go_wp2_with fail
  have SX := Lib.hid (XX14.out.sl (Nat.zero_le _) XX14.out.lt)
  clear XX14
  refine (implMutedEvents_any _ _ _ n _ x mm ev kd _ HN.out (fun e => by cases e) SX.out).mono ?_
  rintro e w15 ⟨A6, n6, c6, rfl, hl6, hA6, hm6, hb⟩
  clear SX
  have sz15 : w14.heap.size ≤ w15.heap.size := hb.size
  have BW15 := Lib.hid (BW14.out.trans (hb.mono (by first | omega | (simp only [World.size_alloc]; omega))))
  have HA15 := Lib.hid (HA14.out.below hb (by first | omega | (simp only [World.size_alloc]; omega)))
  have WL15 := Lib.hid (WL14.out.below hb (by first | omega | (simp only [World.size_alloc]; omega)))
  have BA15 := Lib.hid ((hb.block _ (by first | omega | (simp only [World.size_alloc]; omega))).trans BA14.out)
  have BB15 := Lib.hid ((hb.block _ (by first | omega | (simp only [World.size_alloc]; omega))).trans BB14.out)
  have GK15 := Lib.hid (GK14.out.below hb (by first | omega | (simp only [World.size_alloc]; omega)))
  clear hb BW14 HA14 WL14 BA14 BB14 GK14
  obtain rfl : n2 = n6 := by have := HL2.out.symm.trans hl6; omega
  have HM15 := Lib.hid hm6.sl
  clear hm6 hl6 hA6
  have hb := below_new w15 (.cells #[.int .i64 (mut9 mm x n ev kd).1, .slice A6 n2 c6] 40)
  have sz16 : w15.heap.size + 1 = (w15.alloc (.cells #[.int .i64 (mut9 mm x n ev kd).1, .slice A6 n2 c6] 40)).heap.size := by simp
  have BW16 := Lib.hid (BW15.out.trans (hb.mono (by omega)))
  have HA16 := Lib.hid (HA15.out.below hb (by omega))
  have WL16 := Lib.hid (WL15.out.below hb (by omega))
  have BA16 := Lib.hid ((hb.block _ (by omega)).trans BA15.out)
  have BB16 := Lib.hid ((hb.block _ (by omega)).trans BB15.out)
  have GK16 := Lib.hid (GK15.out.below hb (by omega))
  have HM16 := Lib.hid (HM15.out.below hb (by omega))
  clear hb BW15 HA15 WL15 BA15 BB15 GK15 HM15
  rw [World.size_alloc] at sz16
  have BC16 := Lib.hid (heap_alloc_new w15 (.cells #[.int .i64 (mut9 mm x n ev kd).1, .slice A6 n2 c6] 40))
  have q0BA := cell_of_row (w15.alloc (.cells #[.int .i64 (mut9 mm x n ev kd).1, .slice A6 n2 c6] 40)) _ 0 _ _ _ BA16.out
  have q1BA := cell_of_row (w15.alloc (.cells #[.int .i64 (mut9 mm x n ev kd).1, .slice A6 n2 c6] 40)) _ 1 _ _ _ BA16.out
  simp at q0BA q1BA
  have q0BC := cell_of_row (w15.alloc (.cells #[.int .i64 (mut9 mm x n ev kd).1, .slice A6 n2 c6] 40)) _ 0 _ _ _ BC16.out
  have q1BC := cell_of_row (w15.alloc (.cells #[.int .i64 (mut9 mm x n ev kd).1, .slice A6 n2 c6] 40)) _ 1 _ _ _ BC16.out
  simp at q0BC q1BC
  go_wp2_with fail
  clear q0BA q1BA
  clear q0BC q1BC BC16
  refine (eqMutedResult_same _ _ _ _ _ _ n2 _ _ _ _ _ (by omega) HM16.out WL16.out).mono ?_
  rintro e w17 ⟨rfl, hb⟩
  have sz17 : (w15.alloc (.cells #[.int .i64 (mut9 mm x n ev kd).1, .slice A6 n2 c6] 40)).heap.size ≤ w17.heap.size := hb.size
  simp only [World.size_alloc] at sz17
  have BW17 := Lib.hid (BW16.out.trans (hb.mono (by first | omega | (simp only [World.size_alloc]; omega))))
  have HA17 := Lib.hid (HA16.out.below hb (by first | omega | (simp only [World.size_alloc]; omega)))
  have WL17 := Lib.hid (WL16.out.below hb (by first | omega | (simp only [World.size_alloc]; omega)))
  have BA17 := Lib.hid ((hb.block _ (by first | omega | (simp only [World.size_alloc]; omega))).trans BA16.out)
  have BB17 := Lib.hid ((hb.block _ (by first | omega | (simp only [World.size_alloc]; omega))).trans BB16.out)
  have GK17 := Lib.hid (GK16.out.below hb (by first | omega | (simp only [World.size_alloc]; omega)))
  have HM17 := Lib.hid (HM16.out.below hb (by first | omega | (simp only [World.size_alloc]; omega)))
  clear hb BW16 HA16 WL16 BA16 BB16 GK16 HM16
  have q0BB := cell_of_row w17 _ 0 _ _ _ BB17.out
  have q1BB := cell_of_row w17 _ 1 _ _ _ BB17.out
  simp at q0BB q1BB
  go_wp2_with fail
  clear q0BB q1BB
  refine (heldMutedResult_any _ _ A4 n2 c4 _ 1 _ (by omega) (by omega) GK17.out).mono ?_
  rintro e w18 ⟨rfl, hb⟩
  have sz18 : w17.heap.size ≤ w18.heap.size := hb.size
  have BW18 := Lib.hid (BW17.out.trans (hb.mono (by first | omega | (simp only [World.size_alloc]; omega))))
  have HA18 := Lib.hid (HA17.out.below hb (by first | omega | (simp only [World.size_alloc]; omega)))
  have WL18 := Lib.hid (WL17.out.below hb (by first | omega | (simp only [World.size_alloc]; omega)))
  have BA18 := Lib.hid ((hb.block _ (by first | omega | (simp only [World.size_alloc]; omega))).trans BA17.out)
  have BB18 := Lib.hid ((hb.block _ (by first | omega | (simp only [World.size_alloc]; omega))).trans BB17.out)
  have GK18 := Lib.hid (GK17.out.below hb (by first | omega | (simp only [World.size_alloc]; omega)))
  have HM18 := Lib.hid (HM17.out.below hb (by first | omega | (simp only [World.size_alloc]; omega)))
  clear hb BW17 HA17 WL17 BA17 BB17 GK17 HM17
  have hk3 : ¬ (((1 + n2 * 7 : Nat) : Int) < 0) := by omega
  go_wp2
  go_ret
  exact ⟨rfl, BW18.out⟩

end Go.Proofs.YtkhphkfbjbhgaaaGreat
