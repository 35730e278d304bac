/-
  The program's CountSlots, DropSlots and NewVector: each answers as Math1 says.
-/
import Derived.Deep.WholeRow
import Derived.Test.YtckapndpefkcgaaGreatImpl1b
set_option maxHeartbeats 1000000
namespace Go.Proofs.YtckapndpefkcgaaGreat
open Go.RowKit

theorem gi_mapi (xs : List Int) (f : Int → Int) (k : Nat) (h : k < xs.length) : gi (xs.map f) k = f (gi xs k) := by
  rw [gi_lt _ k (by simpa using h), gi_lt xs k h]; simp

theorem implDropSlots_any (lo hi : Nat) (A : Option Addr) (n c : Nat) (xs : List Int) (env : Int) (w : World) (hn : n * 8 ≤ 140737488351232) (ex : xs.length = n) (h : Sl w lo hi A n (fun k => .int .i64 (gi xs k))) :
    Calls Tryz.prog 158 #[.slice A n c, .int .i64 env] w (Ans 2 (drop1 xs env) w) := by
  have b2 : Below w.heap.size w ((w.alloc (.cells #[.int .i64 0, .slice none 0 0] 49)).alloc (.cells #[.int .i64 env] 2)) := (below_new w _).alloc (by simp) _
  have HS2 : Hid (Sl ((w.alloc (.cells #[.int .i64 0, .slice none 0 0] 49)).alloc (.cells #[.int .i64 env] 2)) lo (min hi w.heap.size) A n (fun k => .int .i64 (gi xs k))) := h.lt.below b2 (by omega)
  have HE : Hid (Sl ((w.alloc (.cells #[.int .i64 0, .slice none 0 0] 49)).alloc (.cells #[.int .i64 env] 2)) 0 (w.heap.size + 2) (some ⟨w.heap.size + 1, 0, none⟩) 1 (fun k => .int .i64 (gi [env] k))) := by
    have := (Row.new (w.alloc (.cells #[.int .i64 0, .slice none 0 0] 49)) #[.int .i64 env] 2 (fun k => .int .i64 (gi [env] k)) 1 (fun j hj => by
      rcases (show j = 0 by omega) with rfl <;> rfl)).sl (lo := 0) (hi := w.heap.size + 2) (Nat.zero_le _) (by simp)
    show Sl _ _ _ _ _ _
    simpa using this
  have C := Lib.hid (envsFault_any lo (min hi w.heap.size) 0 (w.heap.size + 2) A (some ⟨w.heap.size + 1, 0, none⟩) n c 1 1 xs [env] ((w.alloc (.cells #[.int .i64 0, .slice none 0 0] 49)).alloc (.cells #[.int .i64 env] 2)) hn ex HS2.out (by omega) rfl HE.out)
  have EX := Lib.hid ex
  have HBK : Hid (((w.alloc (.cells #[.int .i64 0, .slice none 0 0] 49)).alloc (.cells #[.int .i64 env] 2)).heap[w.heap.size]? = some (.cells #[.int .i64 0, .slice none 0 0] 49 (0, 0))) := heap_alloc2_old w _ _
  have B2 := Lib.hid b2
  clear h ex HE b2
  by_cases hv : ef xs [env] = 0
  · obtain ⟨hvf, _⟩ := ef_zero hv
    obtain ⟨_, hlen, _, _⟩ := vf_zero hvf
    have HC : Hid (drop1 xs env = (0, xs.map fun x => if x = env then -1 else x)) := by
      show drop1 xs env = _
      unfold drop1
      rw [if_neg (by simp [hv])]
    clear hvf
    have HSW := Lib.hid (HS2.out)
    have hv' : (ef xs [env] != 0) = false := by simp [hv]
    have HV := Lib.hid hv
    clear hv
    go_enter Tryz.func158, Tryz.ntmps158
    go_wp2_with fail
    refine C.out.mono ?_
    rintro e w3 ⟨rfl, hb3⟩
    have HS3 := Lib.hid (HS2.out.below hb3 (by simp; omega))
    have HBK3 := Lib.hid ((hb3.block w.heap.size (by simp; omega)).trans HBK.out)
    have B3 := Lib.hid (B2.out.trans (hb3.mono (by simp; omega)))
    have hz3 : w.heap.size + 1 < w3.heap.size := by have := hb3.size; simp at this; omega
    have CV := Lib.hid (vectorOf_any lo (min hi w.heap.size) A n c xs w3 (by rw [← EX.out]; exact hlen) EX.out HS3.out)
    clear hb3 C HS2 HBK B2
    go_wp2_with fail
    refine CV.out.mono ?_
    rintro e w4 ⟨cs, rfl, hvec, hb4⟩
    have HVEC := Lib.hid hvec
    have HB34 := Lib.hid hb4
    have HBK4 := Lib.hid ((hb4.block w.heap.size (by omega)).trans HBK3.out)
    have B4 := Lib.hid (B3.out.trans (hb4.mono (by omega)))
    have hz4 : w.heap.size + 1 < w4.heap.size := by have := hb4.size; omega
    clear hb4 CV HBK3 B3
    have HS4 : Hid (Sl w4 lo (min hi w.heap.size) A n (fun k => .int .i64 (gi xs k))) := HS3.out.below HB34.out (by omega)
    go_wp2_with ((refine wpList_store_row rfl 168 (.tmp 6) (.tmp 18) rfl w4.heap.size cs rfl rfl _ _ (heap_alloc_new w4 _) (by rw [HVEC.out.1]; exact Tryz.size_vec) HVEC.out.1.symm HVEC.out.one ?_; rw [World.setRow_alloc_new]))
    have hn12 : n ≤ 12 := by rw [← EX.out]; exact hlen
    go_loopw [21] (fun i wr => ∃ (k : Nat) (cs' : Array Value) (ys : List Int), k ≤ n ∧ i = .int .i64 k ∧ wr.heap[w4.heap.size]? = some (.cells cs' 168 (0, 0)) ∧ VecIs cs' ys ∧ ys.length = n ∧ (∀ j, j < n → gi ys j = if j < k then (if gi xs j = env then -1 else gi xs j) else gi xs j) ∧ Below w4.heap.size w4 wr) (fun i _ => n - (intOf i).toNat)
    case atStart => exact ⟨0, cs, xs, Nat.zero_le _, rfl, heap_alloc_new w4 _, HVEC.out, EX.out, fun j _ => by simp, (Below.refl _ _).alloc (Nat.le_refl _) _⟩
    case round =>
      obtain ⟨k, cs', ys, hk, rfl, hblkv, hvec', hys, hgi, hb⟩ := hrel
      have HV' := Lib.hid hvec'
      have HYS := Lib.hid hys
      have HGI := Lib.hid hgi
      have HBLK := Lib.hid hblkv
      have HB := Lib.hid hb
      have hzr : w4.heap.size < wr.heap.size := (Array.getElem?_eq_some_iff.1 hblkv).1
      clear hblkv hvec' hys hgi hb
      by_cases hlt : k < n
      · obtain ⟨b, off, rfl, h1, h2, hc⟩ := HS4.out.at_ hlt
        have hck := (HB.out.cell (p := ⟨b, off + k, none⟩) (by simp; omega)).trans (hc k hlt)
        clear hc
        by_cases he : gi xs k = env
        · have hq : (gi xs k == env) = true := by simp [he]
          have HE := Lib.hid he
          clear he
          have CW := Lib.hid (with_any cs' ys k (-1) wr HV'.out (by rw [HYS.out]; exact hlt))
          have HV2 := Lib.hid (HV'.out.set (by rw [HYS.out]; exact hlt : k < ys.length) (-1))
          go_wp2_with (first | (refine wpList_load_row rfl 168 (.tmp 6) rfl w4.heap.size rfl _ cs' (0, 0) _ HBLK.out Tryz.underlying168 rfl (by rw [HV'.out.1]; exact Tryz.size_vec) ?_) | fail)
          refine CW.out.mono ?_
          rintro r w5 ⟨rfl, hb5⟩
          have HBLK5 := Lib.hid ((hb5.block w4.heap.size hzr).trans HBLK.out)
          have HB5 := Lib.hid (HB.out.trans (hb5.mono (by omega)))
          clear hb5 CW
          go_wp2_with (refine wpList_store_row rfl 168 (.tmp 6) (.tmp 31) rfl w4.heap.size (cs'.setIfInBounds k (.int .i64 (-1))) rfl rfl _ cs' HBLK5.out (by rw [HV2.out.1]; exact Tryz.size_vec) (by rw [HV'.out.1, HV2.out.1]) HV2.out.one ?_)
          go_roundw
          case rel =>
            refine ⟨k + 1, _, _, by omega, by go_num, setRow_heap _ _ _ _ _ _ HBLK5.out, HV2.out, by simp [HYS.out], fun j hj => ?_, below_setRow HB5.out (Nat.le_refl _) _⟩
            rw [gi_set, HYS.out]
            by_cases e : j = k
            · subst e
              rw [if_pos ⟨rfl, hj⟩]
              have e3 : j < j + 1 := by omega
              simp only [if_pos e3, if_pos HE.out]
            · rw [if_neg (fun h => e h.1), HGI.out j hj]
              by_cases e2 : j < k
              · have e3 : j < k + 1 := by omega
                simp only [if_pos e2, if_pos e3]
              · have e3 : ¬ j < k + 1 := by omega
                simp only [if_neg e2, if_neg e3]
          case measure => simp [intOf]; omega
        · have hq : (gi xs k == env) = false := by simp [he]
          have HE := Lib.hid he
          clear he
          go_wp2
          go_roundw
          case rel =>
            refine ⟨k + 1, _, _, by omega, by go_num, HBLK.out, HV'.out, HYS.out, fun j hj => ?_, HB.out⟩
            rw [HGI.out j hj]
            by_cases e : j = k
            · subst e
              have e3 : j < j + 1 := by omega
              have e4 : ¬ j < j := by omega
              simp only [if_pos e3, if_neg e4, if_neg HE.out]
            · by_cases e2 : j < k
              · have e3 : j < k + 1 := by omega
                simp only [if_pos e2, if_pos e3]
              · have e3 : ¬ j < k + 1 := by omega
                simp only [if_neg e2, if_neg e3]
          case measure => simp [intOf]; omega
      · have HY : Hid (ys = xs.map fun x => if x = env then -1 else x) := by
          refine same_lists HYS.out (by simp [EX.out]) fun j hj => ?_
          rw [HGI.out j hj, gi_mapi _ _ _ (by rw [EX.out]; exact hj), if_pos (by omega)]
        have CA := Lib.hid (answer_any cs' ys wr HV'.out)
        have HBK7 := Lib.hid ((HB.out.block w.heap.size (by omega)).trans HBK4.out)
        have BL := Lib.hid (B4.out.trans (HB.out.mono (by omega)))
        go_wp2_with (first | (refine wpList_load_row rfl 168 (.tmp 6) rfl w4.heap.size rfl _ cs' (0, 0) _ HBLK.out Tryz.underlying168 rfl (by rw [HV'.out.1]; exact Tryz.size_vec) ?_) | fail)
        refine CA.out.mono ?_
        rintro e w8 ⟨A8, n8, c8, rfl, hl8, hA8, hm8, hb8⟩
        have hblk := (hb8.block w.heap.size (by omega)).trans HBK7.out
        have q0 := cell_of_row _ _ 0 _ _ _ hblk
        have q1 := cell_of_row _ _ 1 _ _ _ hblk
        have f0 := frozen_of_row _ _ 0 _ _ hblk
        have f1 := frozen_of_row _ _ 1 _ _ hblk
        have HK := Lib.hid (fun a b => blk2_set hblk a b)
        simp at q0 q1
        have HB := Lib.hid (BL.out.trans (hb8.mono (by omega)))
        have HM := Lib.hid hm8
        clear hm8 hb8 hblk
        go_wp2
        refine bodyPost_ret (results_cell_row rfl _ _ w.heap.size _ _ _ _ rfl (HK.out _ _) Tryz.underlying49 rfl (by kernel_rfl)) rfl ?_
        refine ans_ok (ys := ys) ?_ HB.out (by simpa using hl8) hA8 (HM.out.wide (by omega) (Nat.le_refl _)) (fun _ _ => rfl) _ _
        rw [HC.out, HY.out]
  · have HC : Hid (drop1 xs env = (ef xs [env], [])) := by
      show drop1 xs env = _
      unfold drop1
      rw [if_pos hv]
    have hv' : (ef xs [env] != 0) = true := by simp [hv]
    have HV := Lib.hid hv
    clear hv
    go_enter Tryz.func158, Tryz.ntmps158
    go_wp2_with fail
    refine C.out.mono ?_
    rintro e w3 ⟨rfl, hb3⟩
    have hblk := (hb3.block w.heap.size (by simp; omega)).trans HBK.out
    have q0 := cell_of_row _ _ 0 _ _ _ hblk
    have q1 := cell_of_row _ _ 1 _ _ _ hblk
    have f0 := frozen_of_row _ _ 0 _ _ hblk
    have f1 := frozen_of_row _ _ 1 _ _ hblk
    have HK := Lib.hid (fun a b => blk2_set hblk a b)
    have HB := Lib.hid (B2.out.trans (hb3.mono (by simp; omega)))
    simp at q0 q1
    clear hb3 hblk C
    go_wp2
    refine bodyPost_ret (results_cell_row rfl _ _ w.heap.size _ _ _ _ rfl (HK.out _ _) Tryz.underlying49 rfl (by kernel_rfl)) rfl ?_
    refine ans_code ?_ ((HB.out.setCell (Nat.le_refl _) _).setCell (Nat.le_refl _) _)
    exact HC.out

theorem gi_rep (n j : Nat) (v : Int) (h : j < n) : gi (List.replicate n v) j = v := by rw [gi_lt _ j (by simpa using h)]; simp
theorem vec_rep0 (n : Nat) (h : n ≤ 12) : VecIs (zv n).toArray (List.replicate n 0) := by
  refine ⟨rfl, by simpa using h, fun k hk => ?_, ?_⟩
  · rw [List.getElem?_toArray, zv_get n k hk]
    by_cases e : k < n
    · rw [gi_rep n k 0 e]
    · rw [gi_ge _ k (by simp; omega)]
  · simp [zv]

theorem implNewVector_any (m : Int) (w : World) :
    Calls Tryz.prog 90 #[.int .i64 m] w (Ans 2 (new1 m) w) := by
  have HC2 : Hid ((m < 1 ∨ 12 < m) → new1 m = (2, [])) := fun h => by unfold new1; rw [if_pos h]
  by_cases h1 : m < 1
  · go_enter Tryz.func90, Tryz.ntmps90
    go_wp2
    go_returns
    exact ans_code (HC2.out (.inl h1)) ((Below.refl _ _).alloc (Nat.le_refl _) _)
  by_cases h2 : 12 < m
  · go_enter Tryz.func90, Tryz.ntmps90
    go_wp2
    go_returns
    exact ans_code (HC2.out (.inr h2)) ((Below.refl _ _).alloc (Nat.le_refl _) _)
  obtain ⟨n, rfl⟩ : ∃ n : Nat, m = (n : Int) := ⟨m.toNat, by omega⟩
  have hn12 : n ≤ 12 := by omega
  have HC : Hid (new1 (n : Int) = (0, List.replicate n (-1))) := by
    show new1 (n : Int) = _
    unfold new1
    rw [if_neg (by omega)]
    simp
  clear HC2
  go_enter Tryz.func90, Tryz.ntmps90
  go_wp2
  go_loopw [15] (fun i wr => ∃ (k : Nat) (cs' : Array Value) (ys : List Int), k ≤ n ∧ i = .int .i64 k ∧ wr.heap[w.heap.size + 1]? = some (.cells cs' 168 (0, 0)) ∧ VecIs cs' ys ∧ ys.length = n ∧ (∀ j, j < n → gi ys j = if j < k then -1 else 0) ∧ Below (w.heap.size + 1) (w.alloc (.cells #[.int .i64 0, .slice none 0 0] 49)) wr) (fun i _ => n - (intOf i).toNat)
  case atStart => exact ⟨0, (zv n).toArray, _, Nat.zero_le _, rfl, heap_alloc2_new w _ _, vec_rep0 n hn12, by simp, fun j hj => by rw [gi_rep n j 0 hj]; simp, (Below.refl _ _).alloc (by simp) _⟩
  case round =>
    obtain ⟨k, cs', ys, hk, rfl, hblkv, hvec', hys, hgi, hb⟩ := hrel
    have HV' := Lib.hid hvec'
    have HYS := Lib.hid hys
    have HGI := Lib.hid hgi
    have HBLK := Lib.hid hblkv
    have HB := Lib.hid hb
    have hzr : w.heap.size + 1 < wr.heap.size := (Array.getElem?_eq_some_iff.1 hblkv).1
    clear hblkv hvec' hys hgi hb
    by_cases hlt : k < n
    · have CW := Lib.hid (with_any cs' ys k (-1) wr HV'.out (by rw [HYS.out]; exact hlt))
      have HV2 := Lib.hid (HV'.out.set (by rw [HYS.out]; exact hlt : k < ys.length) (-1))
      go_wp2_with (first | (refine wpList_load_row rfl 168 (.tmp 3) rfl (w.heap.size + 1) rfl _ cs' (0, 0) _ HBLK.out Tryz.underlying168 rfl (by rw [HV'.out.1]; exact Tryz.size_vec) ?_) | fail)
      refine CW.out.mono ?_
      rintro r w5 ⟨rfl, hb5⟩
      have HBLK5 := Lib.hid ((hb5.block (w.heap.size + 1) hzr).trans HBLK.out)
      have HB5 := Lib.hid (HB.out.trans (hb5.mono (by omega)))
      clear hb5 CW
      go_wp2_with (refine wpList_store_row rfl 168 (.tmp 3) (.tmp 20) rfl (w.heap.size + 1) (cs'.setIfInBounds k (.int .i64 (-1))) rfl rfl _ cs' HBLK5.out (by rw [HV2.out.1]; exact Tryz.size_vec) (by rw [HV'.out.1, HV2.out.1]) HV2.out.one ?_)
      go_roundw
      case rel =>
        refine ⟨k + 1, _, _, by omega, by go_num, setRow_heap _ _ _ _ _ _ HBLK5.out, HV2.out, by simp [HYS.out], fun j hj => ?_, below_setRow HB5.out (Nat.le_refl _) _⟩
        rw [gi_set, HYS.out]
        by_cases e : j = k
        · subst e
          rw [if_pos ⟨rfl, hj⟩, if_pos (by omega)]
        · rw [if_neg (fun h => e h.1), HGI.out j hj]
          by_cases e2 : j < k
          · have e3 : j < k + 1 := by omega
            simp only [if_pos e2, if_pos e3]
          · have e3 : ¬ j < k + 1 := by omega
            simp only [if_neg e2, if_neg e3]
      case measure => simp [intOf]; omega
    · have HY : Hid (ys = List.replicate n (-1)) := by
        refine same_lists HYS.out (by simp) fun j hj => ?_
        rw [HGI.out j hj, gi_rep n j _ hj, if_pos (by omega)]
      have CA := Lib.hid (answer_any cs' ys wr HV'.out)
      have HBK7 := Lib.hid ((HB.out.block w.heap.size (by omega)).trans (heap_alloc_new w _))
      have BL := Lib.hid ((below_new w (.cells #[.int .i64 0, .slice none 0 0] 49)).trans (HB.out.mono (by omega)))
      go_wp2_with (first | (refine wpList_load_row rfl 168 (.tmp 3) rfl (w.heap.size + 1) rfl _ cs' (0, 0) _ HBLK.out Tryz.underlying168 rfl (by rw [HV'.out.1]; exact Tryz.size_vec) ?_) | fail)
      refine CA.out.mono ?_
      rintro e w8 ⟨A8, n8, c8, rfl, hl8, hA8, hm8, hb8⟩
      have hblk := (hb8.block w.heap.size (by omega)).trans HBK7.out
      have q0 := cell_of_row _ _ 0 _ _ _ hblk
      have q1 := cell_of_row _ _ 1 _ _ _ hblk
      have f0 := frozen_of_row _ _ 0 _ _ hblk
      have f1 := frozen_of_row _ _ 1 _ _ hblk
      have HK := Lib.hid (fun a b => blk2_set hblk a b)
      simp at q0 q1
      have HB := Lib.hid (BL.out.trans (hb8.mono (by omega)))
      have HM := Lib.hid hm8
      clear hm8 hb8 hblk
      go_wp2
      refine bodyPost_ret (results_cell_row rfl _ _ w.heap.size _ _ _ _ rfl (HK.out _ _) Tryz.underlying49 rfl (by kernel_rfl)) rfl ?_
      refine ans_ok (ys := ys) ?_ HB.out (by simpa using hl8) hA8 (HM.out.wide (by omega) (Nat.le_refl _)) (fun _ _ => rfl) _ _
      rw [HC.out, HY.out]

end Go.Proofs.YtckapndpefkcgaaGreat
