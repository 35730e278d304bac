/-
  For every code, FnVectors returns true and leaves the code as it was. No conditions.
-/
import Derived.Test.YtdinhehcbbmpbaaDraw1d
import Derived.Test.YtdinhehcbbmpbaaMath1b
import Derived.Test.YtdinhehcbbmpbaaImpl1c
import Derived.Test.YtdinhehcbbmpbaaImpl1d
import Derived.Test.YtdinhehcbbmpbaaSpec1b
import Derived.Test.YtdinhehcbbmpbaaSpec1c
import Derived.Test.YtdinhehcbbmpbaaSameInts
import Derived.Deep.RegionHeld3
namespace Go.Proofs.Ytdinhehcbbmpbaa
open Go.ChangeShapes Go.WideShapes Go.ChangeAt Go.RowKit

theorem run_flr0 (q : Int) (A : Option Addr) (n c : Nat) (W : World) : (Instr.field 28 (.agg #[.int .i64 q, .slice A n c]) 0).run Try.prog W = .ok (.int .i64 q) W := by kernel_rfl
theorem run_flr1 (q : Int) (A : Option Addr) (n c : Nat) (W : World) : (Instr.field 28 (.agg #[.int .i64 q, .slice A n c]) 1).run Try.prog W = .ok (.slice A n c) W := by kernel_rfl
theorem run_fli0 (q v : Int) (W : World) : (Instr.field 43 (.agg #[.int .i64 q, .int .i64 v]) 0).run Try.prog W = .ok (.int .i64 q) W := by kernel_rfl
theorem run_fli1 (q v : Int) (W : World) : (Instr.field 43 (.agg #[.int .i64 q, .int .i64 v]) 1).run Try.prog W = .ok (.int .i64 v) W := by kernel_rfl

set_option maxRecDepth 100000 in
theorem walkVectorsBig (A : Option Addr) (k c : Nat) (w : World) (hk : 1048576 < k) :
    Calls Try.prog 3 #[.slice A k c] w fun e w' => e = .returned (.bool true) ∧ Below w.heap.size w w' := by
  go_enter Try.func3, Try.ntmps3
  go_wp2_with (go_at_call 12; refine (lwBig_any _ _ _ _).mono ?_; rintro e w' ⟨rfl, rfl⟩)
  go_ret
  exact ⟨rfl, Below.refl _ _⟩

theorem count1_bd (xs : List Int) (e : Int) : 0 ≤ (count1 xs e).2 ∧ (count1 xs e).2 ≤ xs.length := by
  unfold count1
  split
  · simp
  · have := cnt_le xs e
    simp only
    omega

set_option maxHeartbeats 8000000 in
set_option maxRecDepth 100000 in
theorem walkVectors (A : Option Addr) (k c : Nat) (b : Nat → Int) (w : World) (h : Sl w 0 w.heap.size A k (fun j => .int .u8 (b j))) (hb : ∀ j, 0 ≤ b j ∧ b j ≤ 255) (hk : k ≤ 1048576) :
    Calls Try.prog 3 #[.slice A k c] w fun e w' => e = .returned (.bool true) ∧ Below w.heap.size w w' := by
  have H := Lib.hid h
  have HBY := Lib.hid hb
  clear h hb
  go_enter Try.func3, Try.ntmps3
  go_wp2_with fail
  refine (lwBig_any A k c w).mono ?_
  rintro e w' ⟨rfl, rfl⟩
  have BW0 : Hid (Below w.heap.size w w) := Below.refl _ _
  have HC0 := H
  go_wp2_with fail
  refine (DrawTakeSlot_any _ _ A k c b _ (by omega) HBY.out HC0.out).mono ?_
  rintro e w1 ⟨B1, n1, c1, xs1, x1, y1, rfl, ho⟩
  have hb := ho.2.2.2.2.2
  have sz1 : w.heap.size ≤ w1.heap.size := hb.size
  have BW1 := Lib.hid (BW0.out.trans (hb.mono (by first | omega | (simp only [World.size_alloc]; omega))))
  have HC1 := Lib.hid (HC0.out.below hb (by first | omega | (simp only [World.size_alloc]; omega)))
  clear hb BW0 HC0
  obtain ⟨ex1, hn1, hB1, hm1, hx1, _⟩ := ho
  have EX1 := Lib.hid ex1
  have HB1 := Lib.hid hB1
  have S11 := Lib.hid hm1.sl
  clear ex1 hB1 hm1 hx1
  go_wp2_with fail
  refine (implTakeSlot_any _ _ _ n1 _ xs1 x1 y1 _ (by omega) EX1.out S11.out).mono ?_
  rintro e w2 ⟨Ta, ma, da, rfl, hl, hA, hm, hb⟩
  have sz2 : w1.heap.size ≤ w2.heap.size := hb.size
  have BW2 := Lib.hid (BW1.out.trans (hb.mono (by first | omega | (simp only [World.size_alloc]; omega))))
  have HC2 := Lib.hid (HC1.out.below hb (by first | omega | (simp only [World.size_alloc]; omega)))
  have S12 := Lib.hid (S11.out.below hb (by first | omega | (simp only [World.size_alloc]; omega)))
  clear hb BW1 HC1 S11
  have HLa := Lib.hid hl
  have HTa := Lib.hid hA
  have Ra2 := Lib.hid hm.sl
  clear hl hA hm
  have hb := below_new w2 (.cells #[.int .i64 (take1 xs1 x1 y1).1, .slice Ta ma da] 28)
  have sz3 : w2.heap.size + 1 = (w2.alloc (.cells #[.int .i64 (take1 xs1 x1 y1).1, .slice Ta ma da] 28)).heap.size := by simp
  have BW3 := Lib.hid (BW2.out.trans (hb.mono (by omega)))
  have HC3 := Lib.hid (HC2.out.below hb (by omega))
  have S13 := Lib.hid (S12.out.below hb (by omega))
  have Ra3 := Lib.hid (Ra2.out.below hb (by omega))
  clear hb BW2 HC2 S12 Ra2
  rw [World.size_alloc] at sz3
  have Xa3 := Lib.hid (heap_alloc_new w2 (.cells #[.int .i64 (take1 xs1 x1 y1).1, .slice Ta ma da] 28))
  go_wp2_with fail
  refine (DrawMoveSlot_any _ _ A k c b _ (by omega) HBY.out HC3.out).mono ?_
  rintro e w4 ⟨B3, n3, c3, xs3, x3, y3, z3, rfl, ho⟩
  have hb := ho.2.2.2.2.2
  have sz4 : (w2.alloc (.cells #[.int .i64 (take1 xs1 x1 y1).1, .slice Ta ma da] 28)).heap.size ≤ w4.heap.size := hb.size
  rw [World.size_alloc] at sz4
  have BW4 := Lib.hid (BW3.out.trans (hb.mono (by first | omega | (simp only [World.size_alloc]; omega))))
  have HC4 := Lib.hid (HC3.out.below hb (by first | omega | (simp only [World.size_alloc]; omega)))
  have S14 := Lib.hid (S13.out.below hb (by first | omega | (simp only [World.size_alloc]; omega)))
  have Ra4 := Lib.hid (Ra3.out.below hb (by first | omega | (simp only [World.size_alloc]; omega)))
  have Xa4 := Lib.hid ((hb.block _ (by first | omega | (simp only [World.size_alloc]; omega))).trans Xa3.out)
  clear hb BW3 HC3 S13 Ra3 Xa3
  obtain ⟨ex3, hn3, hB3, hm3, hx3, _⟩ := ho
  have EX3 := Lib.hid ex3
  have HB3 := Lib.hid hB3
  have S34 := Lib.hid hm3.sl
  clear ex3 hB3 hm3 hx3
  go_wp2_with fail
  refine (implMoveSlot_any _ _ _ n3 _ xs3 x3 y3 z3 _ (by omega) EX3.out S34.out).mono ?_
  rintro e w5 ⟨Tb, mb, db, rfl, hl, hA, hm, hb⟩
  have sz5 : w4.heap.size ≤ w5.heap.size := hb.size
  have BW5 := Lib.hid (BW4.out.trans (hb.mono (by first | omega | (simp only [World.size_alloc]; omega))))
  have HC5 := Lib.hid (HC4.out.below hb (by first | omega | (simp only [World.size_alloc]; omega)))
  have S15 := Lib.hid (S14.out.below hb (by first | omega | (simp only [World.size_alloc]; omega)))
  have Ra5 := Lib.hid (Ra4.out.below hb (by first | omega | (simp only [World.size_alloc]; omega)))
  have Xa5 := Lib.hid ((hb.block _ (by first | omega | (simp only [World.size_alloc]; omega))).trans Xa4.out)
  have S35 := Lib.hid (S34.out.below hb (by first | omega | (simp only [World.size_alloc]; omega)))
  clear hb BW4 HC4 S14 Ra4 Xa4 S34
  have HLb := Lib.hid hl
  have HTb := Lib.hid hA
  have Rb5 := Lib.hid hm.sl
  clear hl hA hm
  have hb := below_new w5 (.cells #[.int .i64 (move1 xs3 x3 y3 z3).1, .slice Tb mb db] 28)
  have sz6 : w5.heap.size + 1 = (w5.alloc (.cells #[.int .i64 (move1 xs3 x3 y3 z3).1, .slice Tb mb db] 28)).heap.size := by simp
  have BW6 := Lib.hid (BW5.out.trans (hb.mono (by omega)))
  have HC6 := Lib.hid (HC5.out.below hb (by omega))
  have S16 := Lib.hid (S15.out.below hb (by omega))
  have Ra6 := Lib.hid (Ra5.out.below hb (by omega))
  have Xa6 := Lib.hid ((hb.block _ (by omega)).trans Xa5.out)
  have S36 := Lib.hid (S35.out.below hb (by omega))
  have Rb6 := Lib.hid (Rb5.out.below hb (by omega))
  clear hb BW5 HC5 S15 Ra5 Xa5 S35 Rb5
  rw [World.size_alloc] at sz6
  have Xb6 := Lib.hid (heap_alloc_new w5 (.cells #[.int .i64 (move1 xs3 x3 y3 z3).1, .slice Tb mb db] 28))
  go_wp2_with fail
  refine (implFreeSlot_any _ _ _ n3 _ xs3 x3 y3 _ (by omega) EX3.out S36.out).mono ?_
  rintro e w7 ⟨Tf, mf, df, rfl, hl, hA, hm, hb⟩
  have sz7 : (w5.alloc (.cells #[.int .i64 (move1 xs3 x3 y3 z3).1, .slice Tb mb db] 28)).heap.size ≤ w7.heap.size := hb.size
  rw [World.size_alloc] at sz7
  have BW7 := Lib.hid (BW6.out.trans (hb.mono (by first | omega | (simp only [World.size_alloc]; omega))))
  have HC7 := Lib.hid (HC6.out.below hb (by first | omega | (simp only [World.size_alloc]; omega)))
  have S17 := Lib.hid (S16.out.below hb (by first | omega | (simp only [World.size_alloc]; omega)))
  have Ra7 := Lib.hid (Ra6.out.below hb (by first | omega | (simp only [World.size_alloc]; omega)))
  have Xa7 := Lib.hid ((hb.block _ (by first | omega | (simp only [World.size_alloc]; omega))).trans Xa6.out)
  have S37 := Lib.hid (S36.out.below hb (by first | omega | (simp only [World.size_alloc]; omega)))
  have Rb7 := Lib.hid (Rb6.out.below hb (by first | omega | (simp only [World.size_alloc]; omega)))
  have Xb7 := Lib.hid ((hb.block _ (by first | omega | (simp only [World.size_alloc]; omega))).trans Xb6.out)
  clear hb BW6 HC6 S16 Ra6 Xa6 S36 Rb6 Xb6
  have HLf := Lib.hid hl
  have HTf := Lib.hid hA
  have Rf7 := Lib.hid hm.sl
  clear hl hA hm
  have hb := below_new w7 (.cells #[.int .i64 (free1 xs3 x3 y3).1, .slice Tf mf df] 28)
  have sz8 : w7.heap.size + 1 = (w7.alloc (.cells #[.int .i64 (free1 xs3 x3 y3).1, .slice Tf mf df] 28)).heap.size := by simp
  have BW8 := Lib.hid (BW7.out.trans (hb.mono (by omega)))
  have HC8 := Lib.hid (HC7.out.below hb (by omega))
  have S18 := Lib.hid (S17.out.below hb (by omega))
  have Ra8 := Lib.hid (Ra7.out.below hb (by omega))
  have Xa8 := Lib.hid ((hb.block _ (by omega)).trans Xa7.out)
  have S38 := Lib.hid (S37.out.below hb (by omega))
  have Rb8 := Lib.hid (Rb7.out.below hb (by omega))
  have Xb8 := Lib.hid ((hb.block _ (by omega)).trans Xb7.out)
  have Rf8 := Lib.hid (Rf7.out.below hb (by omega))
  clear hb BW7 HC7 S17 Ra7 Xa7 S37 Rb7 Xb7 Rf7
  rw [World.size_alloc] at sz8
  have Xf8 := Lib.hid (heap_alloc_new w7 (.cells #[.int .i64 (free1 xs3 x3 y3).1, .slice Tf mf df] 28))
  go_wp2_with fail
  refine (DrawNewVector_any _ _ A k c b _ (by omega) HBY.out HC8.out).mono ?_
  rintro e w9 ⟨nn, rfl, hb⟩
  have hb := hb
  have sz9 : (w7.alloc (.cells #[.int .i64 (free1 xs3 x3 y3).1, .slice Tf mf df] 28)).heap.size ≤ w9.heap.size := hb.size
  rw [World.size_alloc] at sz9
  have BW9 := Lib.hid (BW8.out.trans (hb.mono (by first | omega | (simp only [World.size_alloc]; omega))))
  have HC9 := Lib.hid (HC8.out.below hb (by first | omega | (simp only [World.size_alloc]; omega)))
  have S19 := Lib.hid (S18.out.below hb (by first | omega | (simp only [World.size_alloc]; omega)))
  have Ra9 := Lib.hid (Ra8.out.below hb (by first | omega | (simp only [World.size_alloc]; omega)))
  have Xa9 := Lib.hid ((hb.block _ (by first | omega | (simp only [World.size_alloc]; omega))).trans Xa8.out)
  have S39 := Lib.hid (S38.out.below hb (by first | omega | (simp only [World.size_alloc]; omega)))
  have Rb9 := Lib.hid (Rb8.out.below hb (by first | omega | (simp only [World.size_alloc]; omega)))
  have Xb9 := Lib.hid ((hb.block _ (by first | omega | (simp only [World.size_alloc]; omega))).trans Xb8.out)
  have Rf9 := Lib.hid (Rf8.out.below hb (by first | omega | (simp only [World.size_alloc]; omega)))
  have Xf9 := Lib.hid ((hb.block _ (by first | omega | (simp only [World.size_alloc]; omega))).trans Xf8.out)
  clear hb BW8 HC8 S18 Ra8 Xa8 S38 Rb8 Xb8 Rf8 Xf8
  go_wp2_with fail
  refine (implNewVector_any nn _).mono ?_
  rintro e w10 ⟨Tn, mn, dn, rfl, hl, hA, hm, hb⟩
  have sz10 : w9.heap.size ≤ w10.heap.size := hb.size
  have BW10 := Lib.hid (BW9.out.trans (hb.mono (by first | omega | (simp only [World.size_alloc]; omega))))
  have HC10 := Lib.hid (HC9.out.below hb (by first | omega | (simp only [World.size_alloc]; omega)))
  have S110 := Lib.hid (S19.out.below hb (by first | omega | (simp only [World.size_alloc]; omega)))
  have Ra10 := Lib.hid (Ra9.out.below hb (by first | omega | (simp only [World.size_alloc]; omega)))
  have Xa10 := Lib.hid ((hb.block _ (by first | omega | (simp only [World.size_alloc]; omega))).trans Xa9.out)
  have S310 := Lib.hid (S39.out.below hb (by first | omega | (simp only [World.size_alloc]; omega)))
  have Rb10 := Lib.hid (Rb9.out.below hb (by first | omega | (simp only [World.size_alloc]; omega)))
  have Xb10 := Lib.hid ((hb.block _ (by first | omega | (simp only [World.size_alloc]; omega))).trans Xb9.out)
  have Rf10 := Lib.hid (Rf9.out.below hb (by first | omega | (simp only [World.size_alloc]; omega)))
  have Xf10 := Lib.hid ((hb.block _ (by first | omega | (simp only [World.size_alloc]; omega))).trans Xf9.out)
  clear hb BW9 HC9 S19 Ra9 Xa9 S39 Rb9 Xb9 Rf9 Xf9
  have HLn := Lib.hid hl
  have HTn := Lib.hid hA
  have Rn10 := Lib.hid hm.sl
  clear hl hA hm
  have hb := below_new w10 (.cells #[.int .i64 (new1 nn).1, .slice Tn mn dn] 28)
  have sz11 : w10.heap.size + 1 = (w10.alloc (.cells #[.int .i64 (new1 nn).1, .slice Tn mn dn] 28)).heap.size := by simp
  have BW11 := Lib.hid (BW10.out.trans (hb.mono (by omega)))
  have HC11 := Lib.hid (HC10.out.below hb (by omega))
  have S111 := Lib.hid (S110.out.below hb (by omega))
  have Ra11 := Lib.hid (Ra10.out.below hb (by omega))
  have Xa11 := Lib.hid ((hb.block _ (by omega)).trans Xa10.out)
  have S311 := Lib.hid (S310.out.below hb (by omega))
  have Rb11 := Lib.hid (Rb10.out.below hb (by omega))
  have Xb11 := Lib.hid ((hb.block _ (by omega)).trans Xb10.out)
  have Rf11 := Lib.hid (Rf10.out.below hb (by omega))
  have Xf11 := Lib.hid ((hb.block _ (by omega)).trans Xf10.out)
  have Rn11 := Lib.hid (Rn10.out.below hb (by omega))
  clear hb BW10 HC10 S110 Ra10 Xa10 S310 Rb10 Xb10 Rf10 Xf10 Rn10
  rw [World.size_alloc] at sz11
  have Xn11 := Lib.hid (heap_alloc_new w10 (.cells #[.int .i64 (new1 nn).1, .slice Tn mn dn] 28))
  go_wp2_with fail
  refine (DrawDropSlots_any _ _ A k c b _ (by omega) HBY.out HC11.out).mono ?_
  rintro e w12 ⟨B5, n5, c5, xs5, x5, rfl, ho⟩
  have hb := ho.2.2.2.2.2
  have sz12 : (w10.alloc (.cells #[.int .i64 (new1 nn).1, .slice Tn mn dn] 28)).heap.size ≤ w12.heap.size := hb.size
  rw [World.size_alloc] at sz12
  have BW12 := Lib.hid (BW11.out.trans (hb.mono (by first | omega | (simp only [World.size_alloc]; omega))))
  have HC12 := Lib.hid (HC11.out.below hb (by first | omega | (simp only [World.size_alloc]; omega)))
  have S112 := Lib.hid (S111.out.below hb (by first | omega | (simp only [World.size_alloc]; omega)))
  have Ra12 := Lib.hid (Ra11.out.below hb (by first | omega | (simp only [World.size_alloc]; omega)))
  have Xa12 := Lib.hid ((hb.block _ (by first | omega | (simp only [World.size_alloc]; omega))).trans Xa11.out)
  have S312 := Lib.hid (S311.out.below hb (by first | omega | (simp only [World.size_alloc]; omega)))
  have Rb12 := Lib.hid (Rb11.out.below hb (by first | omega | (simp only [World.size_alloc]; omega)))
  have Xb12 := Lib.hid ((hb.block _ (by first | omega | (simp only [World.size_alloc]; omega))).trans Xb11.out)
  have Rf12 := Lib.hid (Rf11.out.below hb (by first | omega | (simp only [World.size_alloc]; omega)))
  have Xf12 := Lib.hid ((hb.block _ (by first | omega | (simp only [World.size_alloc]; omega))).trans Xf11.out)
  have Rn12 := Lib.hid (Rn11.out.below hb (by first | omega | (simp only [World.size_alloc]; omega)))
  have Xn12 := Lib.hid ((hb.block _ (by first | omega | (simp only [World.size_alloc]; omega))).trans Xn11.out)
  clear hb BW11 HC11 S111 Ra11 Xa11 S311 Rb11 Xb11 Rf11 Xf11 Rn11 Xn11
  obtain ⟨ex5, hn5, hB5, hm5, hx5, _⟩ := ho
  have EX5 := Lib.hid ex5
  have HB5 := Lib.hid hB5
  have S512 := Lib.hid hm5.sl
  clear ex5 hB5 hm5 hx5
  go_wp2_with fail
  refine (implDropSlots_any _ _ _ n5 _ xs5 x5 _ (by omega) EX5.out S512.out).mono ?_
  rintro e w13 ⟨Td, md, dd, rfl, hl, hA, hm, hb⟩
  have sz13 : w12.heap.size ≤ w13.heap.size := hb.size
  have BW13 := Lib.hid (BW12.out.trans (hb.mono (by first | omega | (simp only [World.size_alloc]; omega))))
  have HC13 := Lib.hid (HC12.out.below hb (by first | omega | (simp only [World.size_alloc]; omega)))
  have S113 := Lib.hid (S112.out.below hb (by first | omega | (simp only [World.size_alloc]; omega)))
  have Ra13 := Lib.hid (Ra12.out.below hb (by first | omega | (simp only [World.size_alloc]; omega)))
  have Xa13 := Lib.hid ((hb.block _ (by first | omega | (simp only [World.size_alloc]; omega))).trans Xa12.out)
  have S313 := Lib.hid (S312.out.below hb (by first | omega | (simp only [World.size_alloc]; omega)))
  have Rb13 := Lib.hid (Rb12.out.below hb (by first | omega | (simp only [World.size_alloc]; omega)))
  have Xb13 := Lib.hid ((hb.block _ (by first | omega | (simp only [World.size_alloc]; omega))).trans Xb12.out)
  have Rf13 := Lib.hid (Rf12.out.below hb (by first | omega | (simp only [World.size_alloc]; omega)))
  have Xf13 := Lib.hid ((hb.block _ (by first | omega | (simp only [World.size_alloc]; omega))).trans Xf12.out)
  have Rn13 := Lib.hid (Rn12.out.below hb (by first | omega | (simp only [World.size_alloc]; omega)))
  have Xn13 := Lib.hid ((hb.block _ (by first | omega | (simp only [World.size_alloc]; omega))).trans Xn12.out)
  have S513 := Lib.hid (S512.out.below hb (by first | omega | (simp only [World.size_alloc]; omega)))
  clear hb BW12 HC12 S112 Ra12 Xa12 S312 Rb12 Xb12 Rf12 Xf12 Rn12 Xn12 S512
  have HLd := Lib.hid hl
  have HTd := Lib.hid hA
  have Rd13 := Lib.hid hm.sl
  clear hl hA hm
  have hb := below_new w13 (.cells #[.int .i64 (drop1 xs5 x5).1, .slice Td md dd] 28)
  have sz14 : w13.heap.size + 1 = (w13.alloc (.cells #[.int .i64 (drop1 xs5 x5).1, .slice Td md dd] 28)).heap.size := by simp
  have BW14 := Lib.hid (BW13.out.trans (hb.mono (by omega)))
  have HC14 := Lib.hid (HC13.out.below hb (by omega))
  have S114 := Lib.hid (S113.out.below hb (by omega))
  have Ra14 := Lib.hid (Ra13.out.below hb (by omega))
  have Xa14 := Lib.hid ((hb.block _ (by omega)).trans Xa13.out)
  have S314 := Lib.hid (S313.out.below hb (by omega))
  have Rb14 := Lib.hid (Rb13.out.below hb (by omega))
  have Xb14 := Lib.hid ((hb.block _ (by omega)).trans Xb13.out)
  have Rf14 := Lib.hid (Rf13.out.below hb (by omega))
  have Xf14 := Lib.hid ((hb.block _ (by omega)).trans Xf13.out)
  have Rn14 := Lib.hid (Rn13.out.below hb (by omega))
  have Xn14 := Lib.hid ((hb.block _ (by omega)).trans Xn13.out)
  have S514 := Lib.hid (S513.out.below hb (by omega))
  have Rd14 := Lib.hid (Rd13.out.below hb (by omega))
  clear hb BW13 HC13 S113 Ra13 Xa13 S313 Rb13 Xb13 Rf13 Xf13 Rn13 Xn13 S513 Rd13
  rw [World.size_alloc] at sz14
  have Xd14 := Lib.hid (heap_alloc_new w13 (.cells #[.int .i64 (drop1 xs5 x5).1, .slice Td md dd] 28))
  go_wp2_with fail
  refine (DrawSameInts_any _ _ A k c b _ (by omega) HBY.out HC14.out).mono ?_
  rintro e w15 ⟨B6, n6, c6, xs6, B7, n7, c7, xs7, rfl, e6, hn6, e7, hn7, hm6, hm7, hb0⟩
  have hb := hb0
  have sz15 : (w13.alloc (.cells #[.int .i64 (drop1 xs5 x5).1, .slice Td md dd] 28)).heap.size ≤ w15.heap.size := hb.size
  rw [World.size_alloc] at sz15
  have BW15 := Lib.hid (BW14.out.trans (hb.mono (by first | omega | (simp only [World.size_alloc]; omega))))
  have HC15 := Lib.hid (HC14.out.below hb (by first | omega | (simp only [World.size_alloc]; omega)))
  have S115 := Lib.hid (S114.out.below hb (by first | omega | (simp only [World.size_alloc]; omega)))
  have Ra15 := Lib.hid (Ra14.out.below hb (by first | omega | (simp only [World.size_alloc]; omega)))
  have Xa15 := Lib.hid ((hb.block _ (by first | omega | (simp only [World.size_alloc]; omega))).trans Xa14.out)
  have S315 := Lib.hid (S314.out.below hb (by first | omega | (simp only [World.size_alloc]; omega)))
  have Rb15 := Lib.hid (Rb14.out.below hb (by first | omega | (simp only [World.size_alloc]; omega)))
  have Xb15 := Lib.hid ((hb.block _ (by first | omega | (simp only [World.size_alloc]; omega))).trans Xb14.out)
  have Rf15 := Lib.hid (Rf14.out.below hb (by first | omega | (simp only [World.size_alloc]; omega)))
  have Xf15 := Lib.hid ((hb.block _ (by first | omega | (simp only [World.size_alloc]; omega))).trans Xf14.out)
  have Rn15 := Lib.hid (Rn14.out.below hb (by first | omega | (simp only [World.size_alloc]; omega)))
  have Xn15 := Lib.hid ((hb.block _ (by first | omega | (simp only [World.size_alloc]; omega))).trans Xn14.out)
  have S515 := Lib.hid (S514.out.below hb (by first | omega | (simp only [World.size_alloc]; omega)))
  have Rd15 := Lib.hid (Rd14.out.below hb (by first | omega | (simp only [World.size_alloc]; omega)))
  have Xd15 := Lib.hid ((hb.block _ (by first | omega | (simp only [World.size_alloc]; omega))).trans Xd14.out)
  clear hb BW14 HC14 S114 Ra14 Xa14 S314 Rb14 Xb14 Rf14 Xf14 Rn14 Xn14 S514 Rd14 Xd14
  have EX6 := Lib.hid e6
  have EX7 := Lib.hid e7
  have S615 := Lib.hid hm6.sl
  have S715 := Lib.hid hm7.sl
  clear e6 e7 hm6 hm7 hb0
  have FL : Hid True := trivial
  go_upto_region 13 with (fail)
  go_cut [135] from 20 (fun s wx => s = .bool false ∧ Below w15.heap.size w15 wx)
  case first =>
    as_aux_lemma =>
      have q0Xa := cell_of_row w15 _ 0 _ _ _ Xa15.out
      have q1Xa := cell_of_row w15 _ 1 _ _ _ Xa15.out
      simp at q0Xa q1Xa
      have q0Xb := cell_of_row w15 _ 0 _ _ _ Xb15.out
      have q1Xb := cell_of_row w15 _ 1 _ _ _ Xb15.out
      simp at q0Xb q1Xb
      have q0Xf := cell_of_row w15 _ 0 _ _ _ Xf15.out
      have q1Xf := cell_of_row w15 _ 1 _ _ _ Xf15.out
      simp at q0Xf q1Xf
      have q0Xn := cell_of_row w15 _ 0 _ _ _ Xn15.out
      have q1Xn := cell_of_row w15 _ 1 _ _ _ Xn15.out
      simp at q0Xn q1Xn
      have q0Xd := cell_of_row w15 _ 0 _ _ _ Xd15.out
      have q1Xd := cell_of_row w15 _ 1 _ _ _ Xd15.out
      simp at q0Xd q1Xd
      have KS : Hid (∀ W, Below w15.heap.size w15 W → (W.cell? ⟨w2.heap.size, 0, none⟩ = some (.int .i64 (take1 xs1 x1 y1).1) ∧ W.cell? ⟨w5.heap.size, 0, none⟩ = some (.int .i64 (move1 xs3 x3 y3 z3).1) ∧ W.cell? ⟨w7.heap.size, 0, none⟩ = some (.int .i64 (free1 xs3 x3 y3).1) ∧ W.cell? ⟨w10.heap.size, 0, none⟩ = some (.int .i64 (new1 nn).1) ∧ W.cell? ⟨w13.heap.size, 0, none⟩ = some (.int .i64 (drop1 xs5 x5).1) ∧ Below w15.heap.size w15 W)) := fun W hB => ⟨(hB.cell (p := ⟨w2.heap.size, 0, none⟩) (by simp; omega)).trans q0Xa, (hB.cell (p := ⟨w5.heap.size, 0, none⟩) (by simp; omega)).trans q0Xb, (hB.cell (p := ⟨w7.heap.size, 0, none⟩) (by simp; omega)).trans q0Xf, (hB.cell (p := ⟨w10.heap.size, 0, none⟩) (by simp; omega)).trans q0Xn, (hB.cell (p := ⟨w13.heap.size, 0, none⟩) (by simp; omega)).trans q0Xd, hB⟩
      have PS : Hid (∀ W, (W.cell? ⟨w2.heap.size, 0, none⟩ = some (.int .i64 (take1 xs1 x1 y1).1) ∧ W.cell? ⟨w5.heap.size, 0, none⟩ = some (.int .i64 (move1 xs3 x3 y3 z3).1) ∧ W.cell? ⟨w7.heap.size, 0, none⟩ = some (.int .i64 (free1 xs3 x3 y3).1) ∧ W.cell? ⟨w10.heap.size, 0, none⟩ = some (.int .i64 (new1 nn).1) ∧ W.cell? ⟨w13.heap.size, 0, none⟩ = some (.int .i64 (drop1 xs5 x5).1) ∧ Below w15.heap.size w15 W) → Below w15.heap.size w15 W) := fun W h => h.2.2.2.2.2
      have AT : Hid (∀ W, Below w15.heap.size w15 W → Calls Try.prog 23 #[.slice B1 n1 c1, .int .i64 x1, .int .i64 y1] W fun e w' => ∃ A n c, e = .returned (.agg #[.int .i64 (take1 xs1 x1 y1).1, .slice A n c]) ∧ Below w15.heap.size w15 w') := fun W hB => (specTakeSlot_any _ _ _ n1 _ xs1 x1 y1 W (by omega) EX1.out HB1.out (S115.out.below hB (by omega))).mono fun e w' ⟨A9, n9, c9, h1, _, _, _, h5⟩ => ⟨A9, n9, c9, h1, hB.trans (h5.mono hB.size)⟩
      have AM : Hid (∀ W, Below w15.heap.size w15 W → Calls Try.prog 24 #[.slice B3 n3 c3, .int .i64 x3, .int .i64 y3, .int .i64 z3] W fun e w' => ∃ A n c, e = .returned (.agg #[.int .i64 (move1 xs3 x3 y3 z3).1, .slice A n c]) ∧ Below w15.heap.size w15 w') := fun W hB => (specMoveSlot_any _ _ _ n3 _ xs3 x3 y3 z3 W (by omega) EX3.out HB3.out (S315.out.below hB (by omega))).mono fun e w' ⟨A9, n9, c9, h1, _, _, _, h5⟩ => ⟨A9, n9, c9, h1, hB.trans (h5.mono hB.size)⟩
      have AF : Hid (∀ W, Below w15.heap.size w15 W → Calls Try.prog 25 #[.slice B3 n3 c3, .int .i64 x3, .int .i64 y3] W fun e w' => ∃ A n c, e = .returned (.agg #[.int .i64 (free1 xs3 x3 y3).1, .slice A n c]) ∧ Below w15.heap.size w15 w') := fun W hB => (specFreeSlot_any _ _ _ n3 _ xs3 x3 y3 W (by omega) EX3.out HB3.out (S315.out.below hB (by omega))).mono fun e w' ⟨A9, n9, c9, h1, _, _, _, h5⟩ => ⟨A9, n9, c9, h1, hB.trans (h5.mono hB.size)⟩
      have AN : Hid (∀ W, Below w15.heap.size w15 W → Calls Try.prog 26 #[.int .i64 nn] W fun e w' => ∃ A n c, e = .returned (.agg #[.int .i64 (new1 nn).1, .slice A n c]) ∧ Below w15.heap.size w15 w') := fun W hB => (specNewVector_any nn W).mono fun e w' ⟨A9, n9, c9, h1, _, _, _, h5⟩ => ⟨A9, n9, c9, h1, hB.trans (h5.mono hB.size)⟩
      have AD : Hid (∀ W, Below w15.heap.size w15 W → Calls Try.prog 27 #[.slice B5 n5 c5, .int .i64 x5] W fun e w' => ∃ A n c, e = .returned (.agg #[.int .i64 (drop1 xs5 x5).1, .slice A n c]) ∧ Below w15.heap.size w15 w') := fun W hB => (specDropSlots_any _ _ _ n5 _ xs5 x5 W (by omega) EX5.out HB5.out (S515.out.below hB (by omega))).mono fun e w' ⟨A9, n9, c9, h1, _, _, _, h5⟩ => ⟨A9, n9, c9, h1, hB.trans (h5.mono hB.size)⟩
      have AS1 : Hid (∀ W, Below w15.heap.size w15 W → Calls Try.prog 28 #[.slice B6 n6 c6, .slice B7 n7 c7] W fun e w' => e = .returned (.bool (decide (xs6 = xs7))) ∧ Below w15.heap.size w15 w') := fun W hB => (implSameInts_any _ _ _ _ _ _ xs6 xs7 n6 n7 _ _ W (by omega) EX6.out EX7.out (S615.out.below hB (by omega)) (S715.out.below hB (by omega))).mono fun e w' ⟨h1, h2⟩ => ⟨h1, hB.trans (h2.mono hB.size)⟩
      have AS2 : Hid (∀ W, Below w15.heap.size w15 W → Calls Try.prog 29 #[.slice B6 n6 c6, .slice B7 n7 c7] W fun e w' => e = .returned (.bool (decide (xs6 = xs7))) ∧ Below w15.heap.size w15 w') := fun W hB => (specSameInts_any _ _ _ _ _ _ xs6 xs7 n6 n7 _ _ W (by omega) EX6.out EX7.out (S615.out.below hB (by omega)) (S715.out.below hB (by omega))).mono fun e w' ⟨h1, h2⟩ => ⟨h1, hB.trans (h2.mono hB.size)⟩
      have AV1 : Hid (∀ W, Below w15.heap.size w15 W → Calls Try.prog 30 #[.slice B1 n1 c1] W fun e w' => e = .returned (.int .i64 (vf xs1)) ∧ Below w15.heap.size w15 w') := fun W hB => (implVectorFault_any _ _ _ n1 _ xs1 W (by omega) EX1.out (S115.out.below hB (by omega))).mono fun e w' ⟨h1, h2⟩ => ⟨h1, hB.trans (h2.mono hB.size)⟩
      have AV2 : Hid (∀ W, Below w15.heap.size w15 W → Calls Try.prog 31 #[.slice B1 n1 c1] W fun e w' => e = .returned (.int .i64 (vf xs1)) ∧ Below w15.heap.size w15 w') := fun W hB => (specVectorFault_any _ _ _ n1 _ xs1 W (by omega) EX1.out (S115.out.below hB (by omega))).mono fun e w' ⟨h1, h2⟩ => ⟨h1, by rw [← h2]; exact hB⟩
      have AC1 : Hid (∀ W, Below w15.heap.size w15 W → Calls Try.prog 32 #[.slice B5 n5 c5, .int .i64 x5] W fun e w' => e = .returned (.agg #[.int .i64 (count1 xs5 x5).1, .int .i64 (count1 xs5 x5).2]) ∧ Below w15.heap.size w15 w') := fun W hB => (implCountSlots_any _ _ _ n5 _ xs5 x5 W (by omega) EX5.out (S515.out.below hB (by omega))).mono fun e w' ⟨h1, h2⟩ => ⟨h1, hB.trans (h2.mono hB.size)⟩
      have AC2 : Hid (∀ W, Below w15.heap.size w15 W → Calls Try.prog 33 #[.slice B5 n5 c5, .int .i64 x5] W fun e w' => e = .returned (.agg #[.int .i64 (count1 xs5 x5).1, .int .i64 (count1 xs5 x5).2]) ∧ Below w15.heap.size w15 w') := fun W hB => (specCountSlots_any _ _ _ n5 _ xs5 x5 W (by omega) EX5.out (S515.out.below hB (by omega))).mono fun e w' ⟨h1, h2⟩ => ⟨h1, hB.trans (h2.mono hB.size)⟩
      have B0 : Below w15.heap.size w15 w15 := Below.refl _ _
      have flr0 := run_flr0
      have flr1 := run_flr1
      have fli0 := run_fli0
      have fli1 := run_fli1
      simp only [List.append]
      go_region_held3 (fun w' => w'.cell? ⟨w2.heap.size, 0, none⟩ = some (.int .i64 (take1 xs1 x1 y1).1) ∧ w'.cell? ⟨w5.heap.size, 0, none⟩ = some (.int .i64 (move1 xs3 x3 y3 z3).1) ∧ w'.cell? ⟨w7.heap.size, 0, none⟩ = some (.int .i64 (free1 xs3 x3 y3).1) ∧ w'.cell? ⟨w10.heap.size, 0, none⟩ = some (.int .i64 (new1 nn).1) ∧ w'.cell? ⟨w13.heap.size, 0, none⟩ = some (.int .i64 (drop1 xs5 x5).1) ∧ Below w15.heap.size w15 w') (first | exact KS.out _ (by assumption) | exact KS.out _ (Below.drew (by assumption))) (first | (go_at_call 23; refine (AT.out _ (PS.out _ (by assumption))).mono ?_; rintro e w' ⟨A9, n9, c9, rfl, hb9⟩) | (go_at_call 24; refine (AM.out _ (PS.out _ (by assumption))).mono ?_; rintro e w' ⟨A9, n9, c9, rfl, hb9⟩) | (go_at_call 25; refine (AF.out _ (PS.out _ (by assumption))).mono ?_; rintro e w' ⟨A9, n9, c9, rfl, hb9⟩) | (go_at_call 26; refine (AN.out _ (PS.out _ (by assumption))).mono ?_; rintro e w' ⟨A9, n9, c9, rfl, hb9⟩) | (go_at_call 27; refine (AD.out _ (PS.out _ (by assumption))).mono ?_; rintro e w' ⟨A9, n9, c9, rfl, hb9⟩) | (go_at_call 28; refine (AS1.out _ (PS.out _ (by assumption))).mono ?_; rintro e w' ⟨rfl, hb9⟩) | (go_at_call 29; refine (AS2.out _ (PS.out _ (by assumption))).mono ?_; rintro e w' ⟨rfl, hb9⟩) | (go_at_call 30; refine (AV1.out _ (PS.out _ (by assumption))).mono ?_; rintro e w' ⟨rfl, hb9⟩) | (go_at_call 31; refine (AV2.out _ (PS.out _ (by assumption))).mono ?_; rintro e w' ⟨rfl, hb9⟩) | (go_at_call 32; refine (AC1.out _ (PS.out _ (by assumption))).mono ?_; rintro e w' ⟨rfl, hb9⟩) | (go_at_call 33; refine (AC2.out _ (PS.out _ (by assumption))).mono ?_; rintro e w' ⟨rfl, hb9⟩))
      all_goals (go_wp2_with fail; go_meet; exact ⟨rfl, by assumption⟩)
  case rest =>
    obtain ⟨rfl, hbw⟩ := hcut
    go_upto_region 15 with (fail)
    go_cut [177] from 20 (fun s wx => s = .bool false ∧ Below w15.heap.size w15 wx)
    case first => as_aux_lemma =>
      by_cases ht : (take1 xs1 x1 y1).1 = 0
      · have ht' : ((take1 xs1 x1 y1).1 == 0) = true := by simp [ht]
        obtain ⟨h1, h2, h3, h4⟩ := after_take ht
        have hcb := (count1_bd xs1 x1).1
        have hcb2 : (count1 xs1 x1).2 ≤ 13 := by have := (count1_bd xs1 x1).2; have := EX1.out; omega
        have hma : ma ≤ 13 := by rw [← HLa.out]; have := take1_len xs1 x1 y1; have := EX1.out; omega
        have HH1 := Lib.hid h1
        have HH2 := Lib.hid h2
        have HH3 := Lib.hid h3
        have HH4 := Lib.hid h4
        clear ht h1 h2 h3 h4
        have flr0 := run_flr0
        have flr1 := run_flr1
        have fli0 := run_fli0
        have fli1 := run_fli1
        have szc : w15.heap.size ≤ wc.heap.size := hbw.size
        have Xa115 := Lib.hid ((hbw.block _ (by omega)).trans Xa15.out)
        have Ra115 := Lib.hid (Ra15.out.below hbw (by omega))
        have S1115 := Lib.hid (S115.out.below hbw (by omega))
        have BC115 : Hid (Below w15.heap.size w15 wc) := hbw
        have q0Xa := cell_of_row wc _ 0 _ _ _ Xa115.out
        have q1Xa := cell_of_row wc _ 1 _ _ _ Xa115.out
        simp at q0Xa q1Xa
        go_wp2_with fail
        clear q0Xa q1Xa
        have C := implVectorFault_any _ _ Ta ma da (take1 xs1 x1 y1).2 _ (by omega) HLa.out Ra115.out
        rw [HH1.out] at C
        refine (C).mono ?_
        rintro e w116 ⟨rfl, hb⟩
        have sz116 : wc.heap.size ≤ w116.heap.size := hb.size
        have Xa116 := Lib.hid ((hb.block _ (by first | omega | (simp only [World.size_alloc]; omega))).trans Xa115.out)
        have Ra116 := Lib.hid (Ra115.out.below hb (by first | omega | (simp only [World.size_alloc]; omega)))
        have S1116 := Lib.hid (S1115.out.below hb (by first | omega | (simp only [World.size_alloc]; omega)))
        have BC116 := Lib.hid (BC115.out.trans (hb.mono (by first | omega | (simp only [World.size_alloc]; omega))))
        clear hb Xa115 Ra115 S1115 BC115
        clear C
        have q0Xa := cell_of_row w116 _ 0 _ _ _ Xa116.out
        have q1Xa := cell_of_row w116 _ 1 _ _ _ Xa116.out
        simp at q0Xa q1Xa
        go_wp2_with fail
        clear q0Xa q1Xa
        have C := implFreeSlot_any _ _ Ta ma da (take1 xs1 x1 y1).2 x1 y1 _ (by omega) HLa.out Ra116.out
        rw [HH2.out] at C
        refine (C).mono ?_
        rintro e w117 ⟨A8, n8, c8, rfl, hl8, _, hm8, hb⟩
        have sz117 : w116.heap.size ≤ w117.heap.size := hb.size
        have Xa117 := Lib.hid ((hb.block _ (by first | omega | (simp only [World.size_alloc]; omega))).trans Xa116.out)
        have Ra117 := Lib.hid (Ra116.out.below hb (by first | omega | (simp only [World.size_alloc]; omega)))
        have S1117 := Lib.hid (S1116.out.below hb (by first | omega | (simp only [World.size_alloc]; omega)))
        have BC117 := Lib.hid (BC116.out.trans (hb.mono (by first | omega | (simp only [World.size_alloc]; omega))))
        clear hb Xa116 Ra116 S1116 BC116
        clear C
        go_wp2_with fail
        refine (lwNums_any _ _ _ _ A8 B1 xs1 xs1 n8 n1 c8 c1 _ (by have := EX1.out; have hl9 : xs1.length = n8 := hl8; omega) hl8 EX1.out hm8.sl S1117.out).mono ?_
        rintro e w118 ⟨rfl, hb⟩
        have sz118 : w117.heap.size ≤ w118.heap.size := hb.size
        have Xa118 := Lib.hid ((hb.block _ (by first | omega | (simp only [World.size_alloc]; omega))).trans Xa117.out)
        have Ra118 := Lib.hid (Ra117.out.below hb (by first | omega | (simp only [World.size_alloc]; omega)))
        have S1118 := Lib.hid (S1117.out.below hb (by first | omega | (simp only [World.size_alloc]; omega)))
        have BC118 := Lib.hid (BC117.out.trans (hb.mono (by first | omega | (simp only [World.size_alloc]; omega))))
        clear hb Xa117 Ra117 S1117 BC117
        clear hm8 hl8
        have q0Xa := cell_of_row w118 _ 0 _ _ _ Xa118.out
        have q1Xa := cell_of_row w118 _ 1 _ _ _ Xa118.out
        simp at q0Xa q1Xa
        go_wp2_with fail
        clear q0Xa q1Xa
        have C := implTakeSlot_any _ _ Ta ma da (take1 xs1 x1 y1).2 x1 y1 _ (by omega) HLa.out Ra118.out
        refine (C).mono ?_
        rintro e w119 ⟨A9, n9, c9, rfl, _, _, _, hb⟩
        have sz119 : w118.heap.size ≤ w119.heap.size := hb.size
        have Xa119 := Lib.hid ((hb.block _ (by first | omega | (simp only [World.size_alloc]; omega))).trans Xa118.out)
        have Ra119 := Lib.hid (Ra118.out.below hb (by first | omega | (simp only [World.size_alloc]; omega)))
        have S1119 := Lib.hid (S1118.out.below hb (by first | omega | (simp only [World.size_alloc]; omega)))
        have BC119 := Lib.hid (BC118.out.trans (hb.mono (by first | omega | (simp only [World.size_alloc]; omega))))
        clear hb Xa118 Ra118 S1118 BC118
        clear C
        rw [HH3.out]
        have q0Xa := cell_of_row w119 _ 0 _ _ _ Xa119.out
        have q1Xa := cell_of_row w119 _ 1 _ _ _ Xa119.out
        simp at q0Xa q1Xa
        go_wp2_with fail
        clear q0Xa q1Xa
        have C := implCountSlots_any _ _ Ta ma da (take1 xs1 x1 y1).2 x1 _ (by omega) HLa.out Ra119.out
        rw [HH4.out] at C
        refine (C).mono ?_
        rintro e w120 ⟨rfl, hb⟩
        have sz120 : w119.heap.size ≤ w120.heap.size := hb.size
        have Xa120 := Lib.hid ((hb.block _ (by first | omega | (simp only [World.size_alloc]; omega))).trans Xa119.out)
        have Ra120 := Lib.hid (Ra119.out.below hb (by first | omega | (simp only [World.size_alloc]; omega)))
        have S1120 := Lib.hid (S1119.out.below hb (by first | omega | (simp only [World.size_alloc]; omega)))
        have BC120 := Lib.hid (BC119.out.trans (hb.mono (by first | omega | (simp only [World.size_alloc]; omega))))
        clear hb Xa119 Ra119 S1119 BC119
        clear C
        go_wp2_with fail
        refine (specCountSlots_any _ _ B1 n1 c1 xs1 x1 _ (by omega) EX1.out S1120.out).mono ?_
        rintro e w121 ⟨rfl, hb⟩
        have sz121 : w120.heap.size ≤ w121.heap.size := hb.size
        have Xa121 := Lib.hid ((hb.block _ (by first | omega | (simp only [World.size_alloc]; omega))).trans Xa120.out)
        have Ra121 := Lib.hid (Ra120.out.below hb (by first | omega | (simp only [World.size_alloc]; omega)))
        have S1121 := Lib.hid (S1120.out.below hb (by first | omega | (simp only [World.size_alloc]; omega)))
        have BC121 := Lib.hid (BC120.out.trans (hb.mono (by first | omega | (simp only [World.size_alloc]; omega))))
        clear hb Xa120 Ra120 S1120 BC120
        go_wp2_with fail
        go_meet
        exact ⟨rfl, BC121.out⟩
      · have ht' : ((take1 xs1 x1 y1).1 == 0) = false := by simp [ht]
        have HT9 := Lib.hid ht
        clear ht
        have szc : w15.heap.size ≤ wc.heap.size := hbw.size
        have Xa115 := Lib.hid ((hbw.block _ (by omega)).trans Xa15.out)
        have BC115 : Hid (Below w15.heap.size w15 wc) := hbw
        have q0Xa := cell_of_row wc _ 0 _ _ _ Xa115.out
        have q1Xa := cell_of_row wc _ 1 _ _ _ Xa115.out
        simp at q0Xa q1Xa
        go_wp2_with fail
        go_meet
        exact ⟨rfl, BC115.out⟩
    case rest =>
      obtain ⟨rfl, hbw⟩ := hcut
      go_upto_region 17 with (fail)
      go_cut [207] from 20 (fun s wx => s = .bool false ∧ Below w15.heap.size w15 wx)
      case first => as_aux_lemma =>
        by_cases ht : (move1 xs3 x3 y3 z3).1 = 0
        · have ht' : ((move1 xs3 x3 y3 z3).1 == 0) = true := by simp [ht]
          obtain ⟨h1, h2, kk, hkk, hk3, hlen, hgk⟩ := after_move ht
          have hmb : mb ≤ 13 := by rw [← HLb.out]; have := move1_len xs3 x3 y3 z3; have := EX3.out; omega
          have hkm : kk < mb := by rw [← HLb.out, hlen]; exact hk3
          have HH1 := Lib.hid h1
          have HH2 := Lib.hid h2
          have HHK := Lib.hid hgk
          have HKK := Lib.hid hkk
          clear ht h1 h2 hgk hlen hk3 hkk
          have flr0 := run_flr0
          have flr1 := run_flr1
          have fli0 := run_fli0
          have fli1 := run_fli1
          have szc : w15.heap.size ≤ wc.heap.size := hbw.size
          have Xb115 := Lib.hid ((hbw.block _ (by omega)).trans Xb15.out)
          have Rb115 := Lib.hid (Rb15.out.below hbw (by omega))
          have S3115 := Lib.hid (S315.out.below hbw (by omega))
          have BC115 : Hid (Below w15.heap.size w15 wc) := hbw
          have q0Xb := cell_of_row wc _ 0 _ _ _ Xb115.out
          have q1Xb := cell_of_row wc _ 1 _ _ _ Xb115.out
          simp at q0Xb q1Xb
          go_wp2_with fail
          clear q0Xb q1Xb
          have C := implVectorFault_any _ _ Tb mb db (move1 xs3 x3 y3 z3).2 _ (by omega) HLb.out Rb115.out
          rw [HH1.out] at C
          refine (C).mono ?_
          rintro e w116 ⟨rfl, hb⟩
          have sz116 : wc.heap.size ≤ w116.heap.size := hb.size
          have Xb116 := Lib.hid ((hb.block _ (by first | omega | (simp only [World.size_alloc]; omega))).trans Xb115.out)
          have Rb116 := Lib.hid (Rb115.out.below hb (by first | omega | (simp only [World.size_alloc]; omega)))
          have S3116 := Lib.hid (S3115.out.below hb (by first | omega | (simp only [World.size_alloc]; omega)))
          have BC116 := Lib.hid (BC115.out.trans (hb.mono (by first | omega | (simp only [World.size_alloc]; omega))))
          clear hb Xb115 Rb115 S3115 BC115
          clear C
          have q0Xb := cell_of_row w116 _ 0 _ _ _ Xb116.out
          have q1Xb := cell_of_row w116 _ 1 _ _ _ Xb116.out
          simp at q0Xb q1Xb
          go_wp2_with fail
          clear q0Xb q1Xb
          have C := implMoveSlot_any _ _ Tb mb db (move1 xs3 x3 y3 z3).2 z3 y3 x3 _ (by omega) HLb.out Rb116.out
          rw [HH2.out] at C
          refine (C).mono ?_
          rintro e w117 ⟨A8, n8, c8, rfl, hl8, _, hm8, hb⟩
          have sz117 : w116.heap.size ≤ w117.heap.size := hb.size
          have Xb117 := Lib.hid ((hb.block _ (by first | omega | (simp only [World.size_alloc]; omega))).trans Xb116.out)
          have Rb117 := Lib.hid (Rb116.out.below hb (by first | omega | (simp only [World.size_alloc]; omega)))
          have S3117 := Lib.hid (S3116.out.below hb (by first | omega | (simp only [World.size_alloc]; omega)))
          have BC117 := Lib.hid (BC116.out.trans (hb.mono (by first | omega | (simp only [World.size_alloc]; omega))))
          clear hb Xb116 Rb116 S3116 BC116
          clear C
          go_wp2_with fail
          refine (lwNums_any _ _ _ _ A8 B3 xs3 xs3 n8 n3 c8 c3 _ (by have := EX3.out; have hl9 : xs3.length = n8 := hl8; omega) hl8 EX3.out hm8.sl S3117.out).mono ?_
          rintro e w118 ⟨rfl, hb⟩
          have sz118 : w117.heap.size ≤ w118.heap.size := hb.size
          have Xb118 := Lib.hid ((hb.block _ (by first | omega | (simp only [World.size_alloc]; omega))).trans Xb117.out)
          have Rb118 := Lib.hid (Rb117.out.below hb (by first | omega | (simp only [World.size_alloc]; omega)))
          have S3118 := Lib.hid (S3117.out.below hb (by first | omega | (simp only [World.size_alloc]; omega)))
          have BC118 := Lib.hid (BC117.out.trans (hb.mono (by first | omega | (simp only [World.size_alloc]; omega))))
          clear hb Xb117 Rb117 S3117 BC117
          clear hm8 hl8
          obtain ⟨bb, ob, hTb, _, _, hcb⟩ := Rb118.out.at_ hkm
          have hck := hcb kk hkm
          rw [HHK.out] at hck
          have hy3 := HKK.out
          subst hTb
          clear hcb
          have q0Xb := cell_of_row w118 _ 0 _ _ _ Xb118.out
          have q1Xb := cell_of_row w118 _ 1 _ _ _ Xb118.out
          simp at q0Xb q1Xb
          rw [hy3]
          clear hy3
          go_wp2_with fail
          rw [← HKK.out]
          go_meet
          exact ⟨rfl, BC118.out⟩
        · have ht' : ((move1 xs3 x3 y3 z3).1 == 0) = false := by simp [ht]
          have HT9 := Lib.hid ht
          clear ht
          have szc : w15.heap.size ≤ wc.heap.size := hbw.size
          have Xb115 := Lib.hid ((hbw.block _ (by omega)).trans Xb15.out)
          have BC115 : Hid (Below w15.heap.size w15 wc) := hbw
          have q0Xb := cell_of_row wc _ 0 _ _ _ Xb115.out
          have q1Xb := cell_of_row wc _ 1 _ _ _ Xb115.out
          simp at q0Xb q1Xb
          go_wp2_with fail
          go_meet
          exact ⟨rfl, BC115.out⟩
      case rest =>
        obtain ⟨rfl, hbw⟩ := hcut
        go_upto_region 19 with (fail)
        go_cut [221] from 20 (fun s wx => s = .bool false ∧ Below w15.heap.size w15 wx)
        case first => as_aux_lemma =>
          by_cases ht : (free1 xs3 x3 y3).1 = 0
          · have ht' : ((free1 xs3 x3 y3).1 == 0) = true := by simp [ht]
            have HH2 := Lib.hid (after_free ht)
            have hmf : mf ≤ 13 := by rw [← HLf.out]; have := free1_len xs3 x3 y3; have := EX3.out; omega
            clear ht
            have flr0 := run_flr0
            have flr1 := run_flr1
            have fli0 := run_fli0
            have fli1 := run_fli1
            have szc : w15.heap.size ≤ wc.heap.size := hbw.size
            have Xf115 := Lib.hid ((hbw.block _ (by omega)).trans Xf15.out)
            have Rf115 := Lib.hid (Rf15.out.below hbw (by omega))
            have S3115 := Lib.hid (S315.out.below hbw (by omega))
            have BC115 : Hid (Below w15.heap.size w15 wc) := hbw
            have q0Xf := cell_of_row wc _ 0 _ _ _ Xf115.out
            have q1Xf := cell_of_row wc _ 1 _ _ _ Xf115.out
            simp at q0Xf q1Xf
            go_wp2_with fail
            clear q0Xf q1Xf
            have C := implTakeSlot_any _ _ Tf mf df (free1 xs3 x3 y3).2 x3 y3 _ (by omega) HLf.out Rf115.out
            rw [HH2.out] at C
            refine (C).mono ?_
            rintro e w116 ⟨A8, n8, c8, rfl, hl8, _, hm8, hb⟩
            have sz116 : wc.heap.size ≤ w116.heap.size := hb.size
            have Xf116 := Lib.hid ((hb.block _ (by first | omega | (simp only [World.size_alloc]; omega))).trans Xf115.out)
            have Rf116 := Lib.hid (Rf115.out.below hb (by first | omega | (simp only [World.size_alloc]; omega)))
            have S3116 := Lib.hid (S3115.out.below hb (by first | omega | (simp only [World.size_alloc]; omega)))
            have BC116 := Lib.hid (BC115.out.trans (hb.mono (by first | omega | (simp only [World.size_alloc]; omega))))
            clear hb Xf115 Rf115 S3115 BC115
            clear C
            go_wp2_with fail
            refine (lwNums_any _ _ _ _ A8 B3 xs3 xs3 n8 n3 c8 c3 _ (by have := EX3.out; have hl9 : xs3.length = n8 := hl8; omega) hl8 EX3.out hm8.sl S3116.out).mono ?_
            rintro e w117 ⟨rfl, hb⟩
            have sz117 : w116.heap.size ≤ w117.heap.size := hb.size
            have Xf117 := Lib.hid ((hb.block _ (by first | omega | (simp only [World.size_alloc]; omega))).trans Xf116.out)
            have Rf117 := Lib.hid (Rf116.out.below hb (by first | omega | (simp only [World.size_alloc]; omega)))
            have S3117 := Lib.hid (S3116.out.below hb (by first | omega | (simp only [World.size_alloc]; omega)))
            have BC117 := Lib.hid (BC116.out.trans (hb.mono (by first | omega | (simp only [World.size_alloc]; omega))))
            clear hb Xf116 Rf116 S3116 BC116
            clear hm8 hl8
            go_wp2_with fail
            go_meet
            exact ⟨rfl, BC117.out⟩
          · have ht' : ((free1 xs3 x3 y3).1 == 0) = false := by simp [ht]
            have HT9 := Lib.hid ht
            clear ht
            have szc : w15.heap.size ≤ wc.heap.size := hbw.size
            have Xf115 := Lib.hid ((hbw.block _ (by omega)).trans Xf15.out)
            have BC115 : Hid (Below w15.heap.size w15 wc) := hbw
            have q0Xf := cell_of_row wc _ 0 _ _ _ Xf115.out
            have q1Xf := cell_of_row wc _ 1 _ _ _ Xf115.out
            simp at q0Xf q1Xf
            go_wp2_with fail
            go_meet
            exact ⟨rfl, BC115.out⟩
        case rest =>
          obtain ⟨rfl, hbw⟩ := hcut
          go_upto_region 21 with (fail)
          go_cut [231] from 20 (fun s wx => s = .bool false ∧ Below w15.heap.size w15 wx)
          case first => as_aux_lemma =>
            by_cases ht : (new1 nn).1 = 0
            · have ht' : ((new1 nn).1 == 0) = true := by simp [ht]
              have hnn : (mn : Int) = nn := by rw [← HLn.out]; exact after_new ht
              subst hnn
              clear ht
              have szc : w15.heap.size ≤ wc.heap.size := hbw.size
              have Xn115 := Lib.hid ((hbw.block _ (by omega)).trans Xn15.out)
              have BC115 : Hid (Below w15.heap.size w15 wc) := hbw
              have q0Xn := cell_of_row wc _ 0 _ _ _ Xn115.out
              have q1Xn := cell_of_row wc _ 1 _ _ _ Xn115.out
              simp at q0Xn q1Xn
              go_wp2_with fail
              go_meet
              exact ⟨rfl, BC115.out⟩
            · have ht' : ((new1 nn).1 == 0) = false := by simp [ht]
              have HT9 := Lib.hid ht
              clear ht
              have szc : w15.heap.size ≤ wc.heap.size := hbw.size
              have Xn115 := Lib.hid ((hbw.block _ (by omega)).trans Xn15.out)
              have BC115 : Hid (Below w15.heap.size w15 wc) := hbw
              have q0Xn := cell_of_row wc _ 0 _ _ _ Xn115.out
              have q1Xn := cell_of_row wc _ 1 _ _ _ Xn115.out
              simp at q0Xn q1Xn
              go_wp2_with fail
              go_meet
              exact ⟨rfl, BC115.out⟩
          case rest =>
            obtain ⟨rfl, hbw⟩ := hcut
            by_cases ht : (drop1 xs5 x5).1 = 0
            · have ht' : ((drop1 xs5 x5).1 != 0) = false := by simp [ht]
              obtain ⟨h1, h2⟩ := after_drop ht
              have hmd : md = n5 := by rw [← HLd.out, h1, EX5.out]
              have HH2 := Lib.hid h2
              clear ht h1 h2
              subst hmd
              have flr0 := run_flr0
              have flr1 := run_flr1
              have fli0 := run_fli0
              have fli1 := run_fli1
              have szc : w15.heap.size ≤ wc.heap.size := hbw.size
              have Xd115 := Lib.hid ((hbw.block _ (by omega)).trans Xd15.out)
              have Rd115 := Lib.hid (Rd15.out.below hbw (by omega))
              have BC115 : Hid (Below w15.heap.size w15 wc) := hbw
              have q0Xd := cell_of_row wc _ 0 _ _ _ Xd115.out
              have q1Xd := cell_of_row wc _ 1 _ _ _ Xd115.out
              simp at q0Xd q1Xd
              go_wp2_with fail
              clear q0Xd q1Xd
              have C := implCountSlots_any _ _ Td md dd (drop1 xs5 x5).2 x5 _ (by omega) HLd.out Rd115.out
              rw [HH2.out] at C
              refine (C).mono ?_
              rintro e w116 ⟨rfl, hb⟩
              have sz116 : wc.heap.size ≤ w116.heap.size := hb.size
              have Xd116 := Lib.hid ((hb.block _ (by first | omega | (simp only [World.size_alloc]; omega))).trans Xd115.out)
              have Rd116 := Lib.hid (Rd115.out.below hb (by first | omega | (simp only [World.size_alloc]; omega)))
              have BC116 := Lib.hid (BC115.out.trans (hb.mono (by first | omega | (simp only [World.size_alloc]; omega))))
              clear hb Xd115 Rd115 BC115
              clear C
              go_wp2
              go_ret
              exact ⟨rfl, BW15.out.trans (BC116.out.mono (by omega))⟩
            · have ht' : ((drop1 xs5 x5).1 != 0) = true := by simp [ht]
              have HT9 := Lib.hid ht
              clear ht
              have szc : w15.heap.size ≤ wc.heap.size := hbw.size
              have Xd115 := Lib.hid ((hbw.block _ (by omega)).trans Xd15.out)
              have BC115 : Hid (Below w15.heap.size w15 wc) := hbw
              have q0Xd := cell_of_row wc _ 0 _ _ _ Xd115.out
              have q1Xd := cell_of_row wc _ 1 _ _ _ Xd115.out
              simp at q0Xd q1Xd
              go_wp2
              go_ret
              exact ⟨rfl, BW15.out.trans (BC115.out.mono (by omega))⟩

end Go.Proofs.Ytdinhehcbbmpbaa
