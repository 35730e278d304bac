/-
  How the program meets calls: a code that is refused, or the kernel that the model makes. No conditions beyond that the call has no fault.
-/
import Derived.Deep.WholeRow
import Derived.Deep.RegionHeld3
import Derived.BigRegion
import Derived.RegionDies
import Derived.Test.YtckapndpefkcgaaGreatImpl1b
import Derived.Test.YtckapndpefkcgaaGreatPanic3
import Derived.Test.YtckapndpefkcgaaGreatImpl1d
import Derived.Test.YtckapndpefkcgaaGreatU8s
set_option maxHeartbeats 1000000

namespace Go.Proofs.YtckapndpefkcgaaGreat
open List renaming getElem_toArray → zz1, getElem_cons_succ → zz2, getElem_cons_zero → zz3, setIfInBounds_toArray → zz4, set_cons_zero → zz5, set_cons_succ → zz6
open Go.RowKit

theorem implTakeSlot_any (lo hi : Nat) (A : Option Addr) (n c : Nat) (xs : List Int) (env slot : Int) (w : World) (hn : n * 8 ≤ 140737488351232) (ex : xs.length = n) (h : Sl w lo hi A n (fun k => .int .i64 (gi xs k))) :
    Calls Tryz.prog 159 #[.slice A n c, .int .i64 env, .int .i64 slot] w (Ans 2 (take1 xs env slot) w) := by
  have b2 : Below w.heap.size w ((w.alloc (.cells #[.int .i64 0, .slice none 0 0] 49)).alloc (.cells #[.int .i64 env] 2)) := (below_new w _).alloc (by simp) _
  have HS2 : Hid (Sl ((w.alloc (.cells #[.int .i64 0, .slice none 0 0] 49)).alloc (.cells #[.int .i64 env] 2)) lo (min hi w.heap.size) A n (fun k => .int .i64 (gi xs k))) := h.lt.below b2 (by omega)
  have HE : Hid (Sl ((w.alloc (.cells #[.int .i64 0, .slice none 0 0] 49)).alloc (.cells #[.int .i64 env] 2)) 0 (w.heap.size + 2) (some ⟨w.heap.size + 1, 0, none⟩) 1 (fun k => .int .i64 (gi [env] k))) := by
    have := (Row.new (w.alloc (.cells #[.int .i64 0, .slice none 0 0] 49)) #[.int .i64 env] 2 (fun k => .int .i64 (gi [env] k)) 1 (fun j hj => by
      rcases (show j = 0 by omega) with rfl <;> rfl)).sl (lo := 0) (hi := w.heap.size + 2) (Nat.zero_le _) (by simp)
    show Sl _ _ _ _ _ _
    simpa using this
  have C := Lib.hid (slotFault_any lo (min hi w.heap.size) 0 (w.heap.size + 2) A (some ⟨w.heap.size + 1, 0, none⟩) n c 1 1 xs [env] slot ((w.alloc (.cells #[.int .i64 0, .slice none 0 0] 49)).alloc (.cells #[.int .i64 env] 2)) hn ex HS2.out (by omega) rfl HE.out)
  have EX := Lib.hid ex
  have HBK : Hid (((w.alloc (.cells #[.int .i64 0, .slice none 0 0] 49)).alloc (.cells #[.int .i64 env] 2)).heap[w.heap.size]? = some (.cells #[.int .i64 0, .slice none 0 0] 49 (0, 0))) := heap_alloc2_old w _ _
  have B2 := Lib.hid b2
  clear h ex HE b2
  by_cases hv : sf xs slot [env] = 0
  · obtain ⟨hvf, hen, hs0, hs1⟩ := sf_zero hv
    obtain ⟨k, rfl⟩ : ∃ k : Nat, slot = (k : Int) := ⟨slot.toNat, by omega⟩
    obtain ⟨e, rfl⟩ : ∃ e : Nat, env = (e : Int) := ⟨env.toNat, by have := hen env (by simp); omega⟩
    have he4 : e < 4 := by have := hen e (by simp); omega
    have hk : k < xs.length := by omega
    obtain ⟨_, hlen, hbad, _⟩ := vf_zero hvf
    have HBAD := Lib.hid hbad
    have HK0 := Lib.hid hk
    clear hvf hen hs0 hs1 hbad
    by_cases hf : gi xs k = -1
    · have hf' : (gi xs k != -1) = false := by simp [hf]
      have HF := Lib.hid hf
      clear hf
      by_cases hq : 6 ≤ cnt xs (e : Int)
      · have hfull := full_true hq
        have hv' : (sf xs (k : Int) [(e : Int)] != 0) = false := by simp [hv]
        have HV := Lib.hid hv
        clear hv
        go_enter Tryz.func159, Tryz.ntmps159
        go_wp2_with fail
        refine C.out.mono ?_
        rintro e w3 ⟨rfl, hb3⟩
        have HS3 := Lib.hid (HS2.out.below hb3 (by simp; omega))
        have HBK3 := Lib.hid ((hb3.block w.heap.size (by simp; omega)).trans HBK.out)
        have B3 := Lib.hid (B2.out.trans (hb3.mono (by simp; omega)))
        have hz3 : w.heap.size + 1 < w3.heap.size := by have := hb3.size; simp at this; omega
        have CV := Lib.hid (vectorOf_any lo (min hi w.heap.size) A n c xs w3 (by rw [← EX.out]; exact hlen) EX.out HS3.out)
        clear hb3 C HS2 HBK B2
        go_wp2_with fail
        refine CV.out.mono ?_
        rintro e w4 ⟨cs, rfl, hvec, hb4⟩
        have HVEC := Lib.hid hvec
        have HBK4 := Lib.hid ((hb4.block w.heap.size (by omega)).trans HBK3.out)
        have B4 := Lib.hid (B3.out.trans (hb4.mono (by omega)))
        have hz4 : w.heap.size + 1 < w4.heap.size := by have := hb4.size; omega
        clear hb4 CV HBK3 B3
        have hck := HVEC.out.2.2.1 k (by have := HK0.out; omega)
        have CF := Lib.hid (isFull_any cs xs e (w4.alloc (.cells cs 168)) HVEC.out HBAD.out he4)
        have h12 : k < 12 := by have := HK0.out; omega
        go_wp2_with (first | (refine wpList_store_row rfl 168 (.tmp 8) (.tmp 19) rfl w4.heap.size cs rfl rfl _ _ (heap_alloc_new w4 _) (by rw [HVEC.out.1]; exact Tryz.size_vec) HVEC.out.1.symm HVEC.out.one ?_; rw [World.setRow_alloc_new]) | (refine wpList_load_row rfl 168 (.tmp 8) rfl w4.heap.size rfl _ cs (0, 0) _ (heap_alloc_new w4 _) Tryz.underlying168 rfl (by rw [HVEC.out.1]; exact Tryz.size_vec) ?_) | fail)
        refine CF.out.mono ?_
        rintro r w6 ⟨rfl, hb6⟩
        have hblk := (hb6.block w.heap.size (by simp; omega)).trans ((Below.heap_alloc w4 _ _ (by omega)).trans HBK4.out)
        have q0 := cell_of_row _ _ 0 _ _ _ hblk
        have q1 := cell_of_row _ _ 1 _ _ _ hblk
        have f0 := frozen_of_row _ _ 0 _ _ hblk
        have f1 := frozen_of_row _ _ 1 _ _ hblk
        have HK := Lib.hid (fun a b => blk2_set hblk a b)
        simp at q0 q1
        have HB := Lib.hid (B4.out.trans ((below_new w4 (.cells cs 168)).trans (hb6.mono (by simp)) |>.mono (by omega)))
        clear hb6 hblk CF
        go_wp2
        refine bodyPost_ret (results_cell_row rfl _ _ w.heap.size _ _ _ _ rfl (HK.out _ _) Tryz.underlying49 rfl (by kernel_rfl)) rfl ?_
        refine ans_code ?_ ((HB.out.setCell (Nat.le_refl _) _).setCell (Nat.le_refl _) _)
        unfold take1
        rw [if_neg (by rw [HV.out]; simp), if_neg (by simp [HF.out]), if_pos hq]
      · have hfull := full_false hq
        have hv' : (sf xs (k : Int) [(e : Int)] != 0) = false := by simp [hv]
        have HV := Lib.hid hv
        clear hv
        go_enter Tryz.func159, Tryz.ntmps159
        go_wp2_with fail
        refine C.out.mono ?_
        rintro e w3 ⟨rfl, hb3⟩
        have HS3 := Lib.hid (HS2.out.below hb3 (by simp; omega))
        have HBK3 := Lib.hid ((hb3.block w.heap.size (by simp; omega)).trans HBK.out)
        have B3 := Lib.hid (B2.out.trans (hb3.mono (by simp; omega)))
        have hz3 : w.heap.size + 1 < w3.heap.size := by have := hb3.size; simp at this; omega
        have CV := Lib.hid (vectorOf_any lo (min hi w.heap.size) A n c xs w3 (by rw [← EX.out]; exact hlen) EX.out HS3.out)
        clear hb3 C HS2 HBK B2
        go_wp2_with fail
        refine CV.out.mono ?_
        rintro e w4 ⟨cs, rfl, hvec, hb4⟩
        have HVEC := Lib.hid hvec
        have HBK4 := Lib.hid ((hb4.block w.heap.size (by omega)).trans HBK3.out)
        have B4 := Lib.hid (B3.out.trans (hb4.mono (by omega)))
        have hz4 : w.heap.size + 1 < w4.heap.size := by have := hb4.size; omega
        clear hb4 CV HBK3 B3
        have hck := HVEC.out.2.2.1 k (by have := HK0.out; omega)
        have CF := Lib.hid (isFull_any cs xs e (w4.alloc (.cells cs 168)) HVEC.out HBAD.out he4)
        have h12 : k < 12 := by have := HK0.out; omega
        go_wp2_with (first | (refine wpList_store_row rfl 168 (.tmp 8) (.tmp 19) rfl w4.heap.size cs rfl rfl _ _ (heap_alloc_new w4 _) (by rw [HVEC.out.1]; exact Tryz.size_vec) HVEC.out.1.symm HVEC.out.one ?_; rw [World.setRow_alloc_new]) | (refine wpList_load_row rfl 168 (.tmp 8) rfl w4.heap.size rfl _ cs (0, 0) _ (heap_alloc_new w4 _) Tryz.underlying168 rfl (by rw [HVEC.out.1]; exact Tryz.size_vec) ?_) | fail)
        refine CF.out.mono ?_
        rintro r w6 ⟨rfl, hb6⟩
        have HBV6 := Lib.hid ((hb6.block w4.heap.size (by simp)).trans (heap_alloc_new w4 _))
        have HBK6 := Lib.hid ((hb6.block w.heap.size (by simp; omega)).trans ((Below.heap_alloc w4 _ _ (by omega)).trans HBK4.out))
        have B6 := Lib.hid (B4.out.trans ((below_new w4 (.cells cs 168)).trans (hb6.mono (by simp)) |>.mono (by omega)))
        have hz6 : w.heap.size + 1 < w6.heap.size := by have := hb6.size; simp at this; omega
        have CW := Lib.hid (with_any cs xs k (e : Int) w6 HVEC.out HK0.out)
        clear hb6 CF HBK4 B4
        go_wp2_with (first | (refine wpList_load_row rfl 168 (.tmp 8) rfl w4.heap.size rfl _ cs (0, 0) _ HBV6.out Tryz.underlying168 rfl (by rw [HVEC.out.1]; exact Tryz.size_vec) ?_) | fail)
        refine CW.out.mono ?_
        rintro r w7 ⟨rfl, hb7⟩
        have HBK7 := Lib.hid ((hb7.block w.heap.size (by omega)).trans HBK6.out)
        have BL := Lib.hid (B6.out.trans (hb7.mono (by omega)))
        have hz7 : w.heap.size + 1 < w7.heap.size := by have := hb7.size; omega
        have CA := Lib.hid (answer_any _ _ w7 (HVEC.out.set HK0.out (e : Int)))
        clear hb7 CW HBK6 B6
        go_wp2_with fail
        refine CA.out.mono ?_
        rintro e w8 ⟨A8, n8, c8, rfl, hl8, hA8, hm8, hb8⟩
        have hblk := (hb8.block w.heap.size (by omega)).trans HBK7.out
        have q0 := cell_of_row _ _ 0 _ _ _ hblk
        have q1 := cell_of_row _ _ 1 _ _ _ hblk
        have f0 := frozen_of_row _ _ 0 _ _ hblk
        have f1 := frozen_of_row _ _ 1 _ _ hblk
        have HK := Lib.hid (fun a b => blk2_set hblk a b)
        simp at q0 q1
        have HB := Lib.hid (BL.out.trans (hb8.mono (by omega)))
        have HM := Lib.hid hm8
        clear hm8 hb8 hblk
        go_wp2
        refine bodyPost_ret (results_cell_row rfl _ _ w.heap.size _ _ _ _ rfl (HK.out _ _) Tryz.underlying49 rfl (by kernel_rfl)) rfl ?_
        refine ans_ok (ys := xs.set k (e : Int)) ?_ HB.out (by simpa using hl8) hA8 (HM.out.wide (by omega) (Nat.le_refl _)) (fun _ _ => rfl) _ _
        unfold take1
        rw [if_neg (by rw [HV.out]; simp), if_neg (by simp [HF.out]), if_neg hq]
        rfl
    · have hf' : (gi xs k != -1) = true := by simp [hf]
      have HF := Lib.hid hf
      clear hf
      have hv' : (sf xs (k : Int) [(e : Int)] != 0) = false := by simp [hv]
      have HV := Lib.hid hv
      clear hv
      go_enter Tryz.func159, Tryz.ntmps159
      go_wp2_with fail
      refine C.out.mono ?_
      rintro e w3 ⟨rfl, hb3⟩
      have HS3 := Lib.hid (HS2.out.below hb3 (by simp; omega))
      have HBK3 := Lib.hid ((hb3.block w.heap.size (by simp; omega)).trans HBK.out)
      have B3 := Lib.hid (B2.out.trans (hb3.mono (by simp; omega)))
      have hz3 : w.heap.size + 1 < w3.heap.size := by have := hb3.size; simp at this; omega
      have CV := Lib.hid (vectorOf_any lo (min hi w.heap.size) A n c xs w3 (by rw [← EX.out]; exact hlen) EX.out HS3.out)
      clear hb3 C HS2 HBK B2
      go_wp2_with fail
      refine CV.out.mono ?_
      rintro e w4 ⟨cs, rfl, hvec, hb4⟩
      have HVEC := Lib.hid hvec
      have HBK4 := Lib.hid ((hb4.block w.heap.size (by omega)).trans HBK3.out)
      have B4 := Lib.hid (B3.out.trans (hb4.mono (by omega)))
      have hz4 : w.heap.size + 1 < w4.heap.size := by have := hb4.size; omega
      clear hb4 CV HBK3 B3
      have hck := HVEC.out.2.2.1 k (by have := HK0.out; omega)
      have h12 : k < 12 := by have := HK0.out; omega
      have hblk := (Below.heap_alloc w4 (.cells cs 168) _ (by omega)).trans HBK4.out
      have q0 := cell_of_row _ _ 0 _ _ _ hblk
      have q1 := cell_of_row _ _ 1 _ _ _ hblk
      have f0 := frozen_of_row _ _ 0 _ _ hblk
      have f1 := frozen_of_row _ _ 1 _ _ hblk
      have HK := Lib.hid (fun a b => blk2_set hblk a b)
      simp at q0 q1
      have HB := Lib.hid (B4.out.trans ((below_new w4 (.cells cs 168)).mono (by omega)))
      clear hblk
      go_wp2_with ((refine wpList_store_row rfl 168 (.tmp 8) (.tmp 19) rfl w4.heap.size cs rfl rfl _ _ (heap_alloc_new w4 _) (by rw [HVEC.out.1]; exact Tryz.size_vec) HVEC.out.1.symm HVEC.out.one ?_; rw [World.setRow_alloc_new]))
      refine bodyPost_ret (results_cell_row rfl _ _ w.heap.size _ _ _ _ rfl (HK.out _ _) Tryz.underlying49 rfl (by kernel_rfl)) rfl ?_
      refine ans_code ?_ ((HB.out.setCell (Nat.le_refl _) _).setCell (Nat.le_refl _) _)
      unfold take1
      rw [if_neg (by rw [HV.out]; simp), if_pos (by simpa using HF.out)]
  · have hv' : (sf xs slot [env] != 0) = true := by simp [hv]
    have HV := Lib.hid hv
    clear hv
    go_enter Tryz.func159, Tryz.ntmps159
    go_wp2_with fail
    refine C.out.mono ?_
    rintro e w3 ⟨rfl, hb3⟩
    have hblk := (hb3.block w.heap.size (by simp; omega)).trans HBK.out
    have q0 := cell_of_row _ _ 0 _ _ _ hblk
    have q1 := cell_of_row _ _ 1 _ _ _ hblk
    have f0 := frozen_of_row _ _ 0 _ _ hblk
    have f1 := frozen_of_row _ _ 1 _ _ hblk
    have HK := Lib.hid (fun a b => blk2_set hblk a b)
    have HB := Lib.hid (B2.out.trans (hb3.mono (by simp; omega)))
    simp at q0 q1
    clear hb3 hblk C
    go_wp2
    refine bodyPost_ret (results_cell_row rfl _ _ w.heap.size _ _ _ _ rfl (HK.out _ _) Tryz.underlying49 rfl (by kernel_rfl)) rfl ?_
    refine ans_code ?_ ((HB.out.setCell (Nat.le_refl _) _).setCell (Nat.le_refl _) _)
    unfold take1
    rw [if_pos HV.out]

theorem implFreeSlot_any (lo hi : Nat) (A : Option Addr) (n c : Nat) (xs : List Int) (env slot : Int) (w : World) (hn : n * 8 ≤ 140737488351232) (ex : xs.length = n) (h : Sl w lo hi A n (fun k => .int .i64 (gi xs k))) :
    Calls Tryz.prog 160 #[.slice A n c, .int .i64 env, .int .i64 slot] w (Ans 2 (free1 xs env slot) w) := by
  have b2 : Below w.heap.size w ((w.alloc (.cells #[.int .i64 0, .slice none 0 0] 49)).alloc (.cells #[.int .i64 env] 2)) := (below_new w _).alloc (by simp) _
  have HS2 : Hid (Sl ((w.alloc (.cells #[.int .i64 0, .slice none 0 0] 49)).alloc (.cells #[.int .i64 env] 2)) lo (min hi w.heap.size) A n (fun k => .int .i64 (gi xs k))) := h.lt.below b2 (by omega)
  have HE : Hid (Sl ((w.alloc (.cells #[.int .i64 0, .slice none 0 0] 49)).alloc (.cells #[.int .i64 env] 2)) 0 (w.heap.size + 2) (some ⟨w.heap.size + 1, 0, none⟩) 1 (fun k => .int .i64 (gi [env] k))) := by
    have := (Row.new (w.alloc (.cells #[.int .i64 0, .slice none 0 0] 49)) #[.int .i64 env] 2 (fun k => .int .i64 (gi [env] k)) 1 (fun j hj => by
      rcases (show j = 0 by omega) with rfl <;> rfl)).sl (lo := 0) (hi := w.heap.size + 2) (Nat.zero_le _) (by simp)
    show Sl _ _ _ _ _ _
    simpa using this
  have C := Lib.hid (slotFault_any lo (min hi w.heap.size) 0 (w.heap.size + 2) A (some ⟨w.heap.size + 1, 0, none⟩) n c 1 1 xs [env] slot ((w.alloc (.cells #[.int .i64 0, .slice none 0 0] 49)).alloc (.cells #[.int .i64 env] 2)) hn ex HS2.out (by omega) rfl HE.out)
  have EX := Lib.hid ex
  have HBK : Hid (((w.alloc (.cells #[.int .i64 0, .slice none 0 0] 49)).alloc (.cells #[.int .i64 env] 2)).heap[w.heap.size]? = some (.cells #[.int .i64 0, .slice none 0 0] 49 (0, 0))) := heap_alloc2_old w _ _
  have B2 := Lib.hid b2
  clear h ex HE b2
  by_cases hv : sf xs slot [env] = 0
  · obtain ⟨hvf, hen, hs0, hs1⟩ := sf_zero hv
    obtain ⟨k, rfl⟩ : ∃ k : Nat, slot = (k : Int) := ⟨slot.toNat, by omega⟩
    have hk : k < xs.length := by omega
    obtain ⟨_, hlen, _, _⟩ := vf_zero hvf
    have HK0 := Lib.hid hk
    clear hvf hen hs0 hs1
    by_cases hf : gi xs k = env
    · have hf' : (gi xs k != env) = false := by simp [hf]
      have HF := Lib.hid hf
      clear hf
      have hv' : (sf xs (k : Int) [env] != 0) = false := by simp [hv]
      have HV := Lib.hid hv
      clear hv
      go_enter Tryz.func160, Tryz.ntmps160
      go_wp2_with fail
      refine C.out.mono ?_
      rintro e w3 ⟨rfl, hb3⟩
      have HS3 := Lib.hid (HS2.out.below hb3 (by simp; omega))
      have HBK3 := Lib.hid ((hb3.block w.heap.size (by simp; omega)).trans HBK.out)
      have B3 := Lib.hid (B2.out.trans (hb3.mono (by simp; omega)))
      have hz3 : w.heap.size + 1 < w3.heap.size := by have := hb3.size; simp at this; omega
      have CV := Lib.hid (vectorOf_any lo (min hi w.heap.size) A n c xs w3 (by rw [← EX.out]; exact hlen) EX.out HS3.out)
      clear hb3 C HS2 HBK B2
      go_wp2_with fail
      refine CV.out.mono ?_
      rintro e w4 ⟨cs, rfl, hvec, hb4⟩
      have HVEC := Lib.hid hvec
      have HBK4 := Lib.hid ((hb4.block w.heap.size (by omega)).trans HBK3.out)
      have B4 := Lib.hid (B3.out.trans (hb4.mono (by omega)))
      have hz4 : w.heap.size + 1 < w4.heap.size := by have := hb4.size; omega
      clear hb4 CV HBK3 B3
      have hck := HVEC.out.2.2.1 k (by have := HK0.out; omega)
      have h12 : k < 12 := by have := HK0.out; omega
      have CW := Lib.hid (with_any cs xs k (-1) (w4.alloc (.cells cs 168)) HVEC.out HK0.out)
      have HBK5 : Hid ((w4.alloc (.cells cs 168)).heap[w.heap.size]? = some (.cells #[.int .i64 0, .slice none 0 0] 49 (0, 0))) := (Below.heap_alloc w4 _ _ (by omega)).trans HBK4.out
      have B5 : Hid (Below w.heap.size w (w4.alloc (.cells cs 168))) := B4.out.alloc (by omega) _
      go_wp2_with (first | (refine wpList_store_row rfl 168 (.tmp 8) (.tmp 19) rfl w4.heap.size cs rfl rfl _ _ (heap_alloc_new w4 _) (by rw [HVEC.out.1]; exact Tryz.size_vec) HVEC.out.1.symm HVEC.out.one ?_; rw [World.setRow_alloc_new]) | (refine wpList_load_row rfl 168 (.tmp 8) rfl w4.heap.size rfl _ cs (0, 0) _ (heap_alloc_new w4 _) Tryz.underlying168 rfl (by rw [HVEC.out.1]; exact Tryz.size_vec) ?_) | fail)
      refine CW.out.mono ?_
      rintro r w7 ⟨rfl, hb7⟩
      have HBK7 := Lib.hid ((hb7.block w.heap.size (by simp; omega)).trans HBK5.out)
      have BL := Lib.hid (B5.out.trans (hb7.mono (by simp; omega)))
      have hz7 : w.heap.size + 1 < w7.heap.size := by have := hb7.size; simp at this; omega
      have CA := Lib.hid (answer_any _ _ w7 (HVEC.out.set HK0.out (-1)))
      clear hb7 CW HBK5 B5 HBK4 B4
      go_wp2_with fail
      refine CA.out.mono ?_
      rintro e w8 ⟨A8, n8, c8, rfl, hl8, hA8, hm8, hb8⟩
      have hblk := (hb8.block w.heap.size (by omega)).trans HBK7.out
      have q0 := cell_of_row _ _ 0 _ _ _ hblk
      have q1 := cell_of_row _ _ 1 _ _ _ hblk
      have f0 := frozen_of_row _ _ 0 _ _ hblk
      have f1 := frozen_of_row _ _ 1 _ _ hblk
      have HK := Lib.hid (fun a b => blk2_set hblk a b)
      simp at q0 q1
      have HB := Lib.hid (BL.out.trans (hb8.mono (by omega)))
      have HM := Lib.hid hm8
      clear hm8 hb8 hblk
      go_wp2
      refine bodyPost_ret (results_cell_row rfl _ _ w.heap.size _ _ _ _ rfl (HK.out _ _) Tryz.underlying49 rfl (by kernel_rfl)) rfl ?_
      refine ans_ok (ys := xs.set k (-1)) ?_ HB.out (by simpa using hl8) hA8 (HM.out.wide (by omega) (Nat.le_refl _)) (fun _ _ => rfl) _ _
      unfold free1
      rw [if_neg (by rw [HV.out]; simp), if_neg (by simp [HF.out])]
      rfl
    · have hf' : (gi xs k != env) = true := by simp [hf]
      have HF := Lib.hid hf
      clear hf
      have hv' : (sf xs (k : Int) [env] != 0) = false := by simp [hv]
      have HV := Lib.hid hv
      clear hv
      go_enter Tryz.func160, Tryz.ntmps160
      go_wp2_with fail
      refine C.out.mono ?_
      rintro e w3 ⟨rfl, hb3⟩
      have HS3 := Lib.hid (HS2.out.below hb3 (by simp; omega))
      have HBK3 := Lib.hid ((hb3.block w.heap.size (by simp; omega)).trans HBK.out)
      have B3 := Lib.hid (B2.out.trans (hb3.mono (by simp; omega)))
      have hz3 : w.heap.size + 1 < w3.heap.size := by have := hb3.size; simp at this; omega
      have CV := Lib.hid (vectorOf_any lo (min hi w.heap.size) A n c xs w3 (by rw [← EX.out]; exact hlen) EX.out HS3.out)
      clear hb3 C HS2 HBK B2
      go_wp2_with fail
      refine CV.out.mono ?_
      rintro e w4 ⟨cs, rfl, hvec, hb4⟩
      have HVEC := Lib.hid hvec
      have HBK4 := Lib.hid ((hb4.block w.heap.size (by omega)).trans HBK3.out)
      have B4 := Lib.hid (B3.out.trans (hb4.mono (by omega)))
      have hz4 : w.heap.size + 1 < w4.heap.size := by have := hb4.size; omega
      clear hb4 CV HBK3 B3
      have hck := HVEC.out.2.2.1 k (by have := HK0.out; omega)
      have h12 : k < 12 := by have := HK0.out; omega
      have hblk := (Below.heap_alloc w4 (.cells cs 168) _ (by omega)).trans HBK4.out
      have q0 := cell_of_row _ _ 0 _ _ _ hblk
      have q1 := cell_of_row _ _ 1 _ _ _ hblk
      have f0 := frozen_of_row _ _ 0 _ _ hblk
      have f1 := frozen_of_row _ _ 1 _ _ hblk
      have HK := Lib.hid (fun a b => blk2_set hblk a b)
      simp at q0 q1
      have HB := Lib.hid (B4.out.trans ((below_new w4 (.cells cs 168)).mono (by omega)))
      clear hblk
      go_wp2_with ((refine wpList_store_row rfl 168 (.tmp 8) (.tmp 19) rfl w4.heap.size cs rfl rfl _ _ (heap_alloc_new w4 _) (by rw [HVEC.out.1]; exact Tryz.size_vec) HVEC.out.1.symm HVEC.out.one ?_; rw [World.setRow_alloc_new]))
      refine bodyPost_ret (results_cell_row rfl _ _ w.heap.size _ _ _ _ rfl (HK.out _ _) Tryz.underlying49 rfl (by kernel_rfl)) rfl ?_
      refine ans_code ?_ ((HB.out.setCell (Nat.le_refl _) _).setCell (Nat.le_refl _) _)
      unfold free1
      rw [if_neg (by rw [HV.out]; simp), if_pos (by simpa using HF.out)]
  · have hv' : (sf xs slot [env] != 0) = true := by simp [hv]
    have HV := Lib.hid hv
    clear hv
    go_enter Tryz.func160, Tryz.ntmps160
    go_wp2_with fail
    refine C.out.mono ?_
    rintro e w3 ⟨rfl, hb3⟩
    have hblk := (hb3.block w.heap.size (by simp; omega)).trans HBK.out
    have q0 := cell_of_row _ _ 0 _ _ _ hblk
    have q1 := cell_of_row _ _ 1 _ _ _ hblk
    have f0 := frozen_of_row _ _ 0 _ _ hblk
    have f1 := frozen_of_row _ _ 1 _ _ hblk
    have HK := Lib.hid (fun a b => blk2_set hblk a b)
    have HB := Lib.hid (B2.out.trans (hb3.mono (by simp; omega)))
    simp at q0 q1
    clear hb3 hblk C
    go_wp2
    refine bodyPost_ret (results_cell_row rfl _ _ w.heap.size _ _ _ _ rfl (HK.out _ _) Tryz.underlying49 rfl (by kernel_rfl)) rfl ?_
    refine ans_code ?_ ((HB.out.setCell (Nat.le_refl _) _).setCell (Nat.le_refl _) _)
    unfold free1
    rw [if_pos HV.out]

theorem implMoveSlot_any (lo hi : Nat) (A : Option Addr) (n c : Nat) (xs : List Int) (env slot to : Int) (w : World) (hn : n * 8 ≤ 140737488351232) (ex : xs.length = n) (h : Sl w lo hi A n (fun k => .int .i64 (gi xs k))) :
    Calls Tryz.prog 161 #[.slice A n c, .int .i64 env, .int .i64 slot, .int .i64 to] w (Ans 2 (move1 xs env slot to) w) := by
  have b2 : Below w.heap.size w ((w.alloc (.cells #[.int .i64 0, .slice none 0 0] 49)).alloc (.cells #[.int .i64 env, .int .i64  to] 2)) := (below_new w _).alloc (by simp) _
  have HS2 : Hid (Sl ((w.alloc (.cells #[.int .i64 0, .slice none 0 0] 49)).alloc (.cells #[.int .i64 env, .int .i64  to] 2)) lo (min hi w.heap.size) A n (fun k => .int .i64 (gi xs k))) := h.lt.below b2 (by omega)
  have HE : Hid (Sl ((w.alloc (.cells #[.int .i64 0, .slice none 0 0] 49)).alloc (.cells #[.int .i64 env, .int .i64  to] 2)) 0 (w.heap.size + 2) (some ⟨w.heap.size + 1, 0, none⟩) 2 (fun k => .int .i64 (gi [env,  to] k))) := by
    have := (Row.new (w.alloc (.cells #[.int .i64 0, .slice none 0 0] 49)) #[.int .i64 env, .int .i64  to] 2 (fun k => .int .i64 (gi [env,  to] k)) 2 (fun j hj => by
      rcases (show j = 0 ∨ j = 1 by omega) with rfl | rfl <;> rfl)).sl (lo := 0) (hi := w.heap.size + 2) (Nat.zero_le _) (by simp)
    show Sl _ _ _ _ _ _
    simpa using this
  have C := Lib.hid (slotFault_any lo (min hi w.heap.size) 0 (w.heap.size + 2) A (some ⟨w.heap.size + 1, 0, none⟩) n c 2 2 xs [env,  to] slot ((w.alloc (.cells #[.int .i64 0, .slice none 0 0] 49)).alloc (.cells #[.int .i64 env, .int .i64  to] 2)) hn ex HS2.out (by omega) rfl HE.out)
  have EX := Lib.hid ex
  have HBK : Hid (((w.alloc (.cells #[.int .i64 0, .slice none 0 0] 49)).alloc (.cells #[.int .i64 env, .int .i64  to] 2)).heap[w.heap.size]? = some (.cells #[.int .i64 0, .slice none 0 0] 49 (0, 0))) := heap_alloc2_old w _ _
  have B2 := Lib.hid b2
  clear h ex HE b2
  by_cases hv : sf xs slot [env, to] = 0
  · obtain ⟨hvf, hen, hs0, hs1⟩ := sf_zero hv
    obtain ⟨k, rfl⟩ : ∃ k : Nat, slot = (k : Int) := ⟨slot.toNat, by omega⟩
    obtain ⟨e, rfl⟩ : ∃ e : Nat, to = (e : Int) := ⟨to.toNat, by have := hen to (by simp); omega⟩
    have he4 : e < 4 := by have := hen e (by simp); omega
    have hk : k < xs.length := by omega
    obtain ⟨_, hlen, hbad, _⟩ := vf_zero hvf
    have HBAD := Lib.hid hbad
    have HK0 := Lib.hid hk
    clear hvf hen hs0 hs1 hbad
    by_cases hf : gi xs k = env
    · have hf' : (gi xs k != env) = false := by simp [hf]
      have HF := Lib.hid hf
      clear hf
      by_cases ht : (e : Int) = env
      · have ht' : ((e : Int) != env) = false := by simp [ht]
        have HT := Lib.hid ht
        clear ht
        have hv' : (sf xs (k : Int) [env, (e : Int)] != 0) = false := by simp [hv]
        have HV := Lib.hid hv
        clear hv
        go_enter Tryz.func161, Tryz.ntmps161
        go_wp2_with fail
        refine C.out.mono ?_
        rintro e w3 ⟨rfl, hb3⟩
        have HS3 := Lib.hid (HS2.out.below hb3 (by simp; omega))
        have HBK3 := Lib.hid ((hb3.block w.heap.size (by simp; omega)).trans HBK.out)
        have B3 := Lib.hid (B2.out.trans (hb3.mono (by simp; omega)))
        have hz3 : w.heap.size + 1 < w3.heap.size := by have := hb3.size; simp at this; omega
        have CV := Lib.hid (vectorOf_any lo (min hi w.heap.size) A n c xs w3 (by rw [← EX.out]; exact hlen) EX.out HS3.out)
        clear hb3 C HS2 HBK B2
        go_wp2_with fail
        refine CV.out.mono ?_
        rintro e w4 ⟨cs, rfl, hvec, hb4⟩
        have HVEC := Lib.hid hvec
        have HBK4 := Lib.hid ((hb4.block w.heap.size (by omega)).trans HBK3.out)
        have B4 := Lib.hid (B3.out.trans (hb4.mono (by omega)))
        have hz4 : w.heap.size + 1 < w4.heap.size := by have := hb4.size; omega
        clear hb4 CV HBK3 B3
        have hck := HVEC.out.2.2.1 k (by have := HK0.out; omega)
        have h12 : k < 12 := by have := HK0.out; omega
        have CW := Lib.hid (with_any cs xs k (e : Int) (w4.alloc (.cells cs 168)) HVEC.out HK0.out)
        have HBK5 : Hid ((w4.alloc (.cells cs 168)).heap[w.heap.size]? = some (.cells #[.int .i64 0, .slice none 0 0] 49 (0, 0))) := (Below.heap_alloc w4 _ _ (by omega)).trans HBK4.out
        have B5 : Hid (Below w.heap.size w (w4.alloc (.cells cs 168))) := B4.out.alloc (by omega) _
        go_wp2_with (first | (refine wpList_store_row rfl 168 (.tmp 10) (.tmp 22) rfl w4.heap.size cs rfl rfl _ _ (heap_alloc_new w4 _) (by rw [HVEC.out.1]; exact Tryz.size_vec) HVEC.out.1.symm HVEC.out.one ?_; rw [World.setRow_alloc_new]) | (refine wpList_load_row rfl 168 (.tmp 10) rfl w4.heap.size rfl _ cs (0, 0) _ (heap_alloc_new w4 _) Tryz.underlying168 rfl (by rw [HVEC.out.1]; exact Tryz.size_vec) ?_) | fail)
        refine CW.out.mono ?_
        rintro r w7 ⟨rfl, hb7⟩
        have HBK7 := Lib.hid ((hb7.block w.heap.size (by simp; omega)).trans HBK5.out)
        have BL := Lib.hid (B5.out.trans (hb7.mono (by simp; omega)))
        have hz7 : w.heap.size + 1 < w7.heap.size := by have := hb7.size; simp at this; omega
        have CA := Lib.hid (answer_any _ _ w7 (HVEC.out.set HK0.out (e : Int)))
        clear hb7 CW HBK5 B5 HBK4 B4
        go_wp2_with fail
        refine CA.out.mono ?_
        rintro e w8 ⟨A8, n8, c8, rfl, hl8, hA8, hm8, hb8⟩
        have hblk := (hb8.block w.heap.size (by omega)).trans HBK7.out
        have q0 := cell_of_row _ _ 0 _ _ _ hblk
        have q1 := cell_of_row _ _ 1 _ _ _ hblk
        have f0 := frozen_of_row _ _ 0 _ _ hblk
        have f1 := frozen_of_row _ _ 1 _ _ hblk
        have HK := Lib.hid (fun a b => blk2_set hblk a b)
        simp at q0 q1
        have HB := Lib.hid (BL.out.trans (hb8.mono (by omega)))
        have HM := Lib.hid hm8
        clear hm8 hb8 hblk
        go_wp2
        refine bodyPost_ret (results_cell_row rfl _ _ w.heap.size _ _ _ _ rfl (HK.out _ _) Tryz.underlying49 rfl (by kernel_rfl)) rfl ?_
        refine ans_ok (ys := xs.set k (e : Int)) ?_ HB.out (by simpa using hl8) hA8 (HM.out.wide (by omega) (Nat.le_refl _)) (fun _ _ => rfl) _ _
        unfold move1
        rw [if_neg (by rw [HV.out]; simp), if_neg (by simp [HF.out]), if_neg (fun h => h.1 HT.out)]
        rfl
      · have ht' : ((e : Int) != env) = true := by simp [ht]
        have HT := Lib.hid ht
        clear ht
        by_cases hq : 6 ≤ cnt xs (e : Int)
        · have hfull := full_true hq
          have hv' : (sf xs (k : Int) [env, (e : Int)] != 0) = false := by simp [hv]
          have HV := Lib.hid hv
          clear hv
          go_enter Tryz.func161, Tryz.ntmps161
          go_wp2_with fail
          refine C.out.mono ?_
          rintro e w3 ⟨rfl, hb3⟩
          have HS3 := Lib.hid (HS2.out.below hb3 (by simp; omega))
          have HBK3 := Lib.hid ((hb3.block w.heap.size (by simp; omega)).trans HBK.out)
          have B3 := Lib.hid (B2.out.trans (hb3.mono (by simp; omega)))
          have hz3 : w.heap.size + 1 < w3.heap.size := by have := hb3.size; simp at this; omega
          have CV := Lib.hid (vectorOf_any lo (min hi w.heap.size) A n c xs w3 (by rw [← EX.out]; exact hlen) EX.out HS3.out)
          clear hb3 C HS2 HBK B2
          go_wp2_with fail
          refine CV.out.mono ?_
          rintro e w4 ⟨cs, rfl, hvec, hb4⟩
          have HVEC := Lib.hid hvec
          have HBK4 := Lib.hid ((hb4.block w.heap.size (by omega)).trans HBK3.out)
          have B4 := Lib.hid (B3.out.trans (hb4.mono (by omega)))
          have hz4 : w.heap.size + 1 < w4.heap.size := by have := hb4.size; omega
          clear hb4 CV HBK3 B3
          have hck := HVEC.out.2.2.1 k (by have := HK0.out; omega)
          have CF := Lib.hid (isFull_any cs xs e (w4.alloc (.cells cs 168)) HVEC.out HBAD.out he4)
          have h12 : k < 12 := by have := HK0.out; omega
          go_wp2_with (first | (refine wpList_store_row rfl 168 (.tmp 10) (.tmp 22) rfl w4.heap.size cs rfl rfl _ _ (heap_alloc_new w4 _) (by rw [HVEC.out.1]; exact Tryz.size_vec) HVEC.out.1.symm HVEC.out.one ?_; rw [World.setRow_alloc_new]) | (refine wpList_load_rowg rfl 168 (.tmp 10) rfl w4.heap.size rfl _ cs (0, 0) _ (heap_alloc_new w4 _) Tryz.underlying168 rfl (by rw [HVEC.out.1]; exact Tryz.size_vec) ?_) | (refine wpList_load_row rfl 168 (.tmp 10) rfl w4.heap.size rfl _ cs (0, 0) _ (heap_alloc_new w4 _) Tryz.underlying168 rfl (by rw [HVEC.out.1]; exact Tryz.size_vec) ?_) | fail)
          refine CF.out.mono ?_
          rintro r w6 ⟨rfl, hb6⟩
          have hblk := (hb6.block w.heap.size (by simp; omega)).trans ((Below.heap_alloc w4 _ _ (by omega)).trans HBK4.out)
          have q0 := cell_of_row _ _ 0 _ _ _ hblk
          have q1 := cell_of_row _ _ 1 _ _ _ hblk
          have f0 := frozen_of_row _ _ 0 _ _ hblk
          have f1 := frozen_of_row _ _ 1 _ _ hblk
          have HK := Lib.hid (fun a b => blk2_set hblk a b)
          simp at q0 q1
          have HB := Lib.hid (B4.out.trans ((below_new w4 (.cells cs 168)).trans (hb6.mono (by simp)) |>.mono (by omega)))
          clear hb6 hblk CF
          go_wp2
          refine bodyPost_ret (results_cell_row rfl _ _ w.heap.size _ _ _ _ rfl (HK.out _ _) Tryz.underlying49 rfl (by kernel_rfl)) rfl ?_
          refine ans_code ?_ ((HB.out.setCell (Nat.le_refl _) _).setCell (Nat.le_refl _) _)
          unfold move1
          rw [if_neg (by rw [HV.out]; simp), if_neg (by simp [HF.out]), if_pos ⟨HT.out, hq⟩]
        · have hfull := full_false hq
          have hv' : (sf xs (k : Int) [env, (e : Int)] != 0) = false := by simp [hv]
          have HV := Lib.hid hv
          clear hv
          go_enter Tryz.func161, Tryz.ntmps161
          go_wp2_with fail
          refine C.out.mono ?_
          rintro e w3 ⟨rfl, hb3⟩
          have HS3 := Lib.hid (HS2.out.below hb3 (by simp; omega))
          have HBK3 := Lib.hid ((hb3.block w.heap.size (by simp; omega)).trans HBK.out)
          have B3 := Lib.hid (B2.out.trans (hb3.mono (by simp; omega)))
          have hz3 : w.heap.size + 1 < w3.heap.size := by have := hb3.size; simp at this; omega
          have CV := Lib.hid (vectorOf_any lo (min hi w.heap.size) A n c xs w3 (by rw [← EX.out]; exact hlen) EX.out HS3.out)
          clear hb3 C HS2 HBK B2
          go_wp2_with fail
          refine CV.out.mono ?_
          rintro e w4 ⟨cs, rfl, hvec, hb4⟩
          have HVEC := Lib.hid hvec
          have HBK4 := Lib.hid ((hb4.block w.heap.size (by omega)).trans HBK3.out)
          have B4 := Lib.hid (B3.out.trans (hb4.mono (by omega)))
          have hz4 : w.heap.size + 1 < w4.heap.size := by have := hb4.size; omega
          clear hb4 CV HBK3 B3
          have hck := HVEC.out.2.2.1 k (by have := HK0.out; omega)
          have CF := Lib.hid (isFull_any cs xs e (w4.alloc (.cells cs 168)) HVEC.out HBAD.out he4)
          have h12 : k < 12 := by have := HK0.out; omega
          go_wp2_with (first | (refine wpList_store_row rfl 168 (.tmp 10) (.tmp 22) rfl w4.heap.size cs rfl rfl _ _ (heap_alloc_new w4 _) (by rw [HVEC.out.1]; exact Tryz.size_vec) HVEC.out.1.symm HVEC.out.one ?_; rw [World.setRow_alloc_new]) | (refine wpList_load_rowg rfl 168 (.tmp 10) rfl w4.heap.size rfl _ cs (0, 0) _ (heap_alloc_new w4 _) Tryz.underlying168 rfl (by rw [HVEC.out.1]; exact Tryz.size_vec) ?_) | (refine wpList_load_row rfl 168 (.tmp 10) rfl w4.heap.size rfl _ cs (0, 0) _ (heap_alloc_new w4 _) Tryz.underlying168 rfl (by rw [HVEC.out.1]; exact Tryz.size_vec) ?_) | fail)
          refine CF.out.mono ?_
          rintro r w6 ⟨rfl, hb6⟩
          have HBV6 := Lib.hid ((hb6.block w4.heap.size (by simp)).trans (heap_alloc_new w4 _))
          have HBK6 := Lib.hid ((hb6.block w.heap.size (by simp; omega)).trans ((Below.heap_alloc w4 _ _ (by omega)).trans HBK4.out))
          have B6 := Lib.hid (B4.out.trans ((below_new w4 (.cells cs 168)).trans (hb6.mono (by simp)) |>.mono (by omega)))
          have hz6 : w.heap.size + 1 < w6.heap.size := by have := hb6.size; simp at this; omega
          clear hb6 CF HBK4 B4
          have CW := Lib.hid (with_any cs xs k (e : Int) w6 HVEC.out HK0.out)
          go_wp2_with (first | (refine wpList_load_row rfl 168 (.tmp 10) rfl w4.heap.size rfl _ cs (0, 0) _ HBV6.out Tryz.underlying168 rfl (by rw [HVEC.out.1]; exact Tryz.size_vec) ?_) | fail)
          refine CW.out.mono ?_
          rintro r w7 ⟨rfl, hb7⟩
          have HBK7 := Lib.hid ((hb7.block w.heap.size (by omega)).trans HBK6.out)
          have BL := Lib.hid (B6.out.trans (hb7.mono (by omega)))
          have hz7 : w.heap.size + 1 < w7.heap.size := by have := hb7.size; omega
          have CA := Lib.hid (answer_any _ _ w7 (HVEC.out.set HK0.out (e : Int)))
          clear hb7 CW HBK6 B6
          go_wp2_with fail
          refine CA.out.mono ?_
          rintro e w8 ⟨A8, n8, c8, rfl, hl8, hA8, hm8, hb8⟩
          have hblk := (hb8.block w.heap.size (by omega)).trans HBK7.out
          have q0 := cell_of_row _ _ 0 _ _ _ hblk
          have q1 := cell_of_row _ _ 1 _ _ _ hblk
          have f0 := frozen_of_row _ _ 0 _ _ hblk
          have f1 := frozen_of_row _ _ 1 _ _ hblk
          have HK := Lib.hid (fun a b => blk2_set hblk a b)
          simp at q0 q1
          have HB := Lib.hid (BL.out.trans (hb8.mono (by omega)))
          have HM := Lib.hid hm8
          clear hm8 hb8 hblk
          go_wp2
          refine bodyPost_ret (results_cell_row rfl _ _ w.heap.size _ _ _ _ rfl (HK.out _ _) Tryz.underlying49 rfl (by kernel_rfl)) rfl ?_
          refine ans_ok (ys := xs.set k (e : Int)) ?_ HB.out (by simpa using hl8) hA8 (HM.out.wide (by omega) (Nat.le_refl _)) (fun _ _ => rfl) _ _
          unfold move1
          rw [if_neg (by rw [HV.out]; simp), if_neg (by simp [HF.out]), if_neg (fun h => hq h.2)]
          rfl
    · have hf' : (gi xs k != env) = true := by simp [hf]
      have HF := Lib.hid hf
      clear hf
      have hv' : (sf xs (k : Int) [env, (e : Int)] != 0) = false := by simp [hv]
      have HV := Lib.hid hv
      clear hv
      go_enter Tryz.func161, Tryz.ntmps161
      go_wp2_with fail
      refine C.out.mono ?_
      rintro e w3 ⟨rfl, hb3⟩
      have HS3 := Lib.hid (HS2.out.below hb3 (by simp; omega))
      have HBK3 := Lib.hid ((hb3.block w.heap.size (by simp; omega)).trans HBK.out)
      have B3 := Lib.hid (B2.out.trans (hb3.mono (by simp; omega)))
      have hz3 : w.heap.size + 1 < w3.heap.size := by have := hb3.size; simp at this; omega
      have CV := Lib.hid (vectorOf_any lo (min hi w.heap.size) A n c xs w3 (by rw [← EX.out]; exact hlen) EX.out HS3.out)
      clear hb3 C HS2 HBK B2
      go_wp2_with fail
      refine CV.out.mono ?_
      rintro e w4 ⟨cs, rfl, hvec, hb4⟩
      have HVEC := Lib.hid hvec
      have HBK4 := Lib.hid ((hb4.block w.heap.size (by omega)).trans HBK3.out)
      have B4 := Lib.hid (B3.out.trans (hb4.mono (by omega)))
      have hz4 : w.heap.size + 1 < w4.heap.size := by have := hb4.size; omega
      clear hb4 CV HBK3 B3
      have hck := HVEC.out.2.2.1 k (by have := HK0.out; omega)
      have h12 : k < 12 := by have := HK0.out; omega
      have hblk := (Below.heap_alloc w4 (.cells cs 168) _ (by omega)).trans HBK4.out
      have q0 := cell_of_row _ _ 0 _ _ _ hblk
      have q1 := cell_of_row _ _ 1 _ _ _ hblk
      have f0 := frozen_of_row _ _ 0 _ _ hblk
      have f1 := frozen_of_row _ _ 1 _ _ hblk
      have HK := Lib.hid (fun a b => blk2_set hblk a b)
      simp at q0 q1
      have HB := Lib.hid (B4.out.trans ((below_new w4 (.cells cs 168)).mono (by omega)))
      clear hblk
      go_wp2_with ((refine wpList_store_row rfl 168 (.tmp 10) (.tmp 22) rfl w4.heap.size cs rfl rfl _ _ (heap_alloc_new w4 _) (by rw [HVEC.out.1]; exact Tryz.size_vec) HVEC.out.1.symm HVEC.out.one ?_; rw [World.setRow_alloc_new]))
      refine bodyPost_ret (results_cell_row rfl _ _ w.heap.size _ _ _ _ rfl (HK.out _ _) Tryz.underlying49 rfl (by kernel_rfl)) rfl ?_
      refine ans_code ?_ ((HB.out.setCell (Nat.le_refl _) _).setCell (Nat.le_refl _) _)
      unfold move1
      rw [if_neg (by rw [HV.out]; simp), if_pos (by simpa using HF.out)]
  · have hv' : (sf xs slot [env, to] != 0) = true := by simp [hv]
    have HV := Lib.hid hv
    clear hv
    go_enter Tryz.func161, Tryz.ntmps161
    go_wp2_with fail
    refine C.out.mono ?_
    rintro e w3 ⟨rfl, hb3⟩
    have hblk := (hb3.block w.heap.size (by simp; omega)).trans HBK.out
    have q0 := cell_of_row _ _ 0 _ _ _ hblk
    have q1 := cell_of_row _ _ 1 _ _ _ hblk
    have f0 := frozen_of_row _ _ 0 _ _ hblk
    have f1 := frozen_of_row _ _ 1 _ _ hblk
    have HK := Lib.hid (fun a b => blk2_set hblk a b)
    have HB := Lib.hid (B2.out.trans (hb3.mono (by simp; omega)))
    simp at q0 q1
    clear hb3 hblk C
    go_wp2
    refine bodyPost_ret (results_cell_row rfl _ _ w.heap.size _ _ _ _ rfl (HK.out _ _) Tryz.underlying49 rfl (by kernel_rfl)) rfl ?_
    refine ans_code ?_ ((HB.out.setCell (Nat.le_refl _) _).setCell (Nat.le_refl _) _)
    unfold move1
    rw [if_pos HV.out]


set_option maxRecDepth 100000

theorem Below.undrew {B : Nat} {a w : World} (h : Below B a.drew w) : Below B a w := ⟨h.os, h.tape, h.output, h.size, h.block⟩
def TA (r : Int × Ker) (g : Nat) (p : Kp) (q : Value) (w : World) (e : Ending) (w' : World) : Prop :=
  (r.1 ≠ 0 ∧ e = .panicked [{ v := .iface 154 (.int .i64 r.1), recovered := false }] ∧ Kept [g, p.g2, p.g3] w w') ∨
  (r.1 = 0 ∧ e = .returned (.tuple #[]) ∧ ∃ p' : Kp, MB w' g p' r.2 q ∧ (p'.g1 = p.g1 ∨ (w.heap.size ≤ p'.g1 ∧ p'.g1 < w'.heap.size)) ∧ p'.g2 = p.g2 ∧ p'.g3 = p.g3 ∧ Kept [g, p.g2, p.g3] w w')

set_option maxHeartbeats 4000000 in
theorem meetCreate_any {g : Nat} {p : Kp} {K : Ker} {q : Value} {w : World} (h : MB w g p K q) (kk : Int) (ee : Nat) (s to : Int) (he : ee < 4) :
    Calls Tryz.prog 125 #[.pointer (some ⟨g, 0, none⟩), .agg #[.int .i64 kk, .int .i64 (ee : Int), .int .i64 s, .int .i64 to]] w (TA (call3 K 1 ee s to) g p q w) := by
  obtain ⟨w1, hW1⟩ : ∃ w1, w1 = w.alloc (.cells #[.int .i64 kk, .int .i64 (ee : Int), .int .i64 s, .int .i64 to] 55) := ⟨_, rfl⟩
  have k1 : w1.heap[w.heap.size]? = some (.cells #[.int .i64 kk, .int .i64 (ee : Int), .int .i64 s, .int .i64 to] 55 (0, 0)) := by rw [hW1]; exact heap_alloc_new w _
  have X1 : Hid (Kept [] w w1) := by rw [hW1]; exact (Kept.refl _ _).alloc _
  have S1 : Hid (w1.heap.size = w.heap.size + 1) := by show _ = _; rw [hW1]; simp
  have M1 := Lib.hid (h.kept X1.out (by simp) (by simp) (by simp) (by simp))
  have c0 := cell_of_row w1 _ 0 _ _ _ k1
  have c1 := cell_of_row w1 _ 1 _ _ _ k1
  have c2 := cell_of_row w1 _ 2 _ _ _ k1
  have c3 := cell_of_row w1 _ 3 _ _ _ k1
  simp at c0 c1 c2 c3
  have hge : (0 : Int) ≤ (ee : Int) := by omega
  have hle : (ee : Int) < 4 := by omega
  have HL := Lib.hid h.lt
  obtain ⟨q0, q1, q2, q3, q4⟩ := M1.out.cells
  obtain ⟨o2, hA2, hR2⟩ := M1.out.alive
  rw [hA2] at q1
  have a0 := hR2.cell (k := ee) he
  have y0 := hR2.frozen (o2 + ee)
  have HA2 := Lib.hid hA2; have HR2 := Lib.hid hR2
  have TN : Hid ((ee : Int).toNat = ee) := Int.toNat_natCast ee
  clear h
  rcases ha : gb K.al ee with _ | _
  · have HC : Hid (call3 K 1 ee s to = (0, { K with al := K.al.set ee true })) := by show _ = _; unfold call3; rw [if_pos rfl, TN.out, if_neg (by rw [ha]; decide)]
    rw [ha] at a0
    clear hR2 hA2 ha
    go_enter Tryz.func125, Tryz.ntmps125
    go_upto_region 1 with (fail)
    rw [← hW1]
    clear hW1
    go_region_held3 (fun W => (W.cell? ⟨g, 1, none⟩ = some (.slice (some ⟨p.g2, o2, none⟩) 4 p.c2) ∧ W.cell? ⟨w.heap.size, 1, none⟩ = some (.int .i64 (ee : Int)) ∧ W.cell? ⟨p.g2, o2 + ee, none⟩ = some (.bool false))) (first | assumption | exact ⟨q1, c1, a0⟩) (first | (go_at_call 72; refine (refuseIf_no _ _).mono ?_; rintro e9 w9 ⟨rfl, rfl⟩))
    go_upto_region 2 with (fail)
    go_region
    go_end0
    rw [HC.out]
    exact .inr ⟨rfl, rfl, p, ((M1.out.setAlive HA2.out he true).drew).drew, .inl rfl, rfl, rfl, ((((X1.out.mono (by simp)).setCell (p := ⟨p.g2, o2 + ee, none⟩) (by simp) _).drew).drew)⟩
  · have HC : Hid (call3 K 1 ee s to = (6, K)) := by show _ = _; unfold call3; rw [if_pos rfl, TN.out, if_pos ha]
    rw [ha] at a0
    clear hR2 hA2 ha
    go_enter Tryz.func125, Tryz.ntmps125
    go_upto_region 1 with (fail)
    rw [← hW1]
    clear hW1
    refine wp_region_held_drew (S := fun W => (W.cell? ⟨g, 1, none⟩ = some (.slice (some ⟨p.g2, o2, none⟩) 4 p.c2) ∧ W.cell? ⟨w.heap.size, 1, none⟩ = some (.int .i64 (ee : Int)) ∧ W.cell? ⟨p.g2, o2 + ee, none⟩ = some (.bool true))) (by kernel_rfl) (⟨q1, c1, a0⟩) (fun hHeld => ?_)
    refine tkH 0 ?_ rfl ?_ hHeld ?_; rotate_left; (intro w hSw; (try dsimp only at hSw); go_simp; try with_reducible rfl); try simp only [Act.put, zz4, zz5, zz6]
    refine tkH 1 ?_ rfl ?_ hHeld ?_; rotate_left; (intro w hSw; (try dsimp only at hSw); go_simp; try with_reducible rfl); try simp only [Act.put, zz4, zz5, zz6]
    refine tkH 2 ?_ rfl ?_ hHeld ?_; rotate_left; (intro w hSw; (try dsimp only at hSw); go_simp; try with_reducible rfl); try simp only [Act.put, zz4, zz5, zz6]
    refine tkH 3 ?_ rfl ?_ hHeld ?_; rotate_left; (intro w hSw; (try dsimp only at hSw); go_simp; try with_reducible rfl); try simp only [Act.put, zz4, zz5, zz6]
    refine tkH 4 ?_ rfl ?_ hHeld ?_; rotate_left; (intro w hSw; (try dsimp only at hSw); go_simp; try with_reducible rfl); try simp only [Act.put, zz4, zz5, zz6]
    refine tkH 5 ?_ rfl ?_ hHeld ?_; rotate_left; (intro w hSw; (try dsimp only at hSw); go_simp; try with_reducible rfl); try simp only [Act.put, zz4, zz5, zz6]
    refine tkH 6 ?_ rfl ?_ hHeld ?_; rotate_left; (intro w hSw; (try dsimp only at hSw); go_simp; try with_reducible rfl); try simp only [Act.put, zz4, zz5, zz6]
    refine tkH 7 ?_ rfl ?_ hHeld ?_; rotate_left; (intro w hSw; (try dsimp only at hSw); go_simp; try with_reducible rfl); try simp only [Act.put, zz4, zz5, zz6]
    refine tkH 8 ?_ rfl ?_ hHeld ?_; rotate_left; (intro w hSw; (try dsimp only at hSw); go_simp; try with_reducible rfl); try simp only [Act.put, zz4, zz5, zz6]
    refine wpAnyH_ready (rs := [9]) (by kernel_rfl) (by simp) ?_
    refine AllReadyH.cons (o := _) rfl (fun K hK => ?_) AllReadyH.nil
    go_simp
    refine (refuseIf_yes _ _).mono ?_; rintro e9 w9 ⟨rfl, rfl⟩
    go_wp2_with fail
    exact ⟨rfl, by rw [HC.out]; exact .inl ⟨by show (6 : Int) ≠ 0; decide, rfl, (X1.out.mono (by simp)).drew⟩⟩

end Go.Proofs.YtckapndpefkcgaaGreat
