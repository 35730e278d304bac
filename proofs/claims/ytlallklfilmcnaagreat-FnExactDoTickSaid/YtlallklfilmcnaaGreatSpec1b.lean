/-
  The model's answers of chapter 1 (TakeSlot, FreeSlot, MoveSlot, CountSlots): each answers as Math1 says, for every list that can be read and is at most 2^20 long.
-/
import Derived.Test.YtlallklfilmcnaaGreatSpec1
namespace Go.Proofs.YtlallklfilmcnaaGreat
open Go.RowKit

/-- l1With: a new slice, one place of it turned -/
theorem l1With_any (lo hi : Nat) (A : Option Addr) (n c k : Nat) (xs : List Int) (env : Int) (w : World) (hn : n * 8 ≤ 140737488351232) (ex : xs.length = n) (hA : A = none → c = 0) (h : Sl w lo hi A n (fun k => .int .i64 (gi xs k))) (hk : k < n) :
    Calls Tryz.prog 166 #[.slice A n c, .int .i64 k, .int .i64 env] w fun e w' => ∃ A' c', e = .returned (.slice A' n c') ∧ (A' = none → c' = 0) ∧ Mine w' w.heap.size w'.heap.size 2 A' n (fun j => .int .i64 (gi (xs.set k env) j)) ∧ Below w.heap.size w w' := by
  have C := Lib.hid (l1Ints_any lo hi A n c xs w hn ex hA h)
  have EX := Lib.hid ex
  clear h ex hA
  go_enter Tryz.func166, Tryz.ntmps166
  go_wp2_with fail
  refine C.out.mono ?_
  rintro e w1 ⟨A', c', rfl, hc', hm, hb⟩
  rcases hm with h0 | ⟨g, off, rfl, h1, h2, hrow⟩
  · omega
  have hco := hrow.cell hk
  have hfo := hrow.frozen (off + k)
  have HB := Lib.hid (hb.setCell (p := ⟨g, off + k, none⟩) h1 (.int .i64 env))
  have HR := Lib.hid (hrow.set hk (.int .i64 env))
  clear hb hrow C
  go_wp2
  go_ret
  refine ⟨_, _, rfl, fun h => by simp at h, .inr ⟨g, off, rfl, h1, by simp [World.setCell]; omega, HR.out.congr fun j hj => ?_⟩, HB.out⟩
  rw [gi_set]
  by_cases e : j = k
  · rw [if_pos e, if_pos ⟨e, by rw [EX.out]; exact hk⟩]
  · rw [if_neg e, if_neg (fun h => e h.1)]

theorem specTakeSlot_any (lo hi : Nat) (A : Option Addr) (n c : Nat) (xs : List Int) (env slot : Int) (w : World) (hn : n * 8 ≤ 140737488351232) (ex : xs.length = n) (hA : A = none → c = 0) (h : Sl w lo hi A n (fun k => .int .i64 (gi xs k))) :
    Calls Tryz.prog 124 #[.slice A n c, .int .i64 env, .int .i64 slot] w (Ans 2 (take1 xs env slot) w) := by
  have H : Hid (Sl (w.alloc (.cells #[.int .i64 0, .slice none 0 0] 112)) lo (min hi w.heap.size) A n (fun k => .int .i64 (gi xs k))) := h.lt.below (below_new w _) (by omega)
  have EX := Lib.hid ex
  have HA := Lib.hid hA
  have b0 : Hid (Below w.heap.size w (w.alloc (.cells #[.int .i64 0, .slice none 0 0] 112))) := below_new w _
  have C := Lib.hid (l1Asked_any lo (min hi w.heap.size) A n c xs env env slot (w.alloc (.cells #[.int .i64 0, .slice none 0 0] 112)) hn ex H.out)
  clear h ex hA
  by_cases hs : sf xs slot [env, env] = 0
  · obtain ⟨hv, _, hs0, hs1⟩ := sf_zero hs
    obtain ⟨k, rfl⟩ : ∃ k : Nat, slot = (k : Int) := ⟨slot.toNat, by omega⟩
    have hk : k < n := by rw [← EX.out]; omega
    have hs' : (sf xs k [env, env] != 0) = false := by simp [hs]
    have HS : Hid (sf xs k [env] = 0) := (sf_dup xs k env).symm.trans hs
    have h12 := (vf_zero hv).2.1
    have hlen : Hid (xs.length ≤ 12) := h12
    clear hs hv hs0 hs1 h12
    obtain ⟨b, off, rfl, h1, h2, hc⟩ := H.out.at_ hk
    have hck := hc k hk
    clear hc
    by_cases hf : gi xs k = -1
    · have hf' : (gi xs k != -1) = false := by simp [hf]
      have HF := Lib.hid hf
      clear hf
      have CC := Lib.hid (l1Count_any lo (min hi w.heap.size) _ n c xs env (w.alloc (.cells #[.int .i64 0, .slice none 0 0] 112)) hn EX.out H.out)
      by_cases hq : 6 ≤ cnt xs env
      · have hcl := cnt_le xs env
        go_enter Tryz.func124, Tryz.ntmps124
        go_wp2_with (first | (go_at_call 165; refine C.out.mono ?_; rintro e w' ⟨rfl, rfl⟩) | (go_at_call 139; refine CC.out.mono ?_; rintro e w' ⟨rfl, rfl⟩))
        go_returns
        refine ans_code (by unfold take1; rw [if_neg (by rw [HS.out]; simp), if_neg (by simp [HF.out]), if_pos hq]) ?_
        exact (Below.refl _ _).alloc (Nat.le_refl _) _
      · have CW := Lib.hid (l1With_any lo (min hi w.heap.size) _ n c k xs env (w.alloc (.cells #[.int .i64 0, .slice none 0 0] 112)) hn EX.out HA.out H.out hk)
        go_enter Tryz.func124, Tryz.ntmps124
        go_wp2_with (first | (go_at_call 165; refine C.out.mono ?_; rintro e w' ⟨rfl, rfl⟩) | (go_at_call 139; refine CC.out.mono ?_; rintro e w' ⟨rfl, rfl⟩) | fail)
        refine CW.out.mono ?_
        rintro e w1 ⟨A', c', rfl, hc', hm, hb⟩
        have hz : w.heap.size < w1.heap.size := by have := hb.size; simp at this; omega
        have hblk := (hb.block w.heap.size (by simp)).trans (heap_alloc_new w _)
        have q0 := cell_of_row w1 _ 0 _ _ _ hblk
        have q1 := cell_of_row w1 _ 1 _ _ _ hblk
        have f0 := frozen_of_row w1 _ 0 _ _ hblk
        have f1 := frozen_of_row w1 _ 1 _ _ hblk
        have HK := Lib.hid (blk2_set hblk (.int .i64 0) (.slice A' n c'))
        have HM := Lib.hid hm
        have HB := Lib.hid (b0.out.trans (hb.mono (by simp)))
        clear hm hb C CC CW H hblk
        simp at q0 q1
        go_wp2
        refine bodyPost_ret (results_cell_row rfl _ _ w.heap.size _ _ _ _ rfl HK.out Tryz.underlying112 rfl (by kernel_rfl)) rfl ?_
        refine ans_ok (ys := xs.set k env) ?_ HB.out (by simp [EX.out]) hc' (by simpa using HM.out) (fun _ _ => rfl) _ _
        unfold take1
        rw [if_neg (by rw [HS.out]; simp), if_neg (by simp [HF.out]), if_neg hq]
        rfl
    · have hf' : (gi xs k != -1) = true := by simp [hf]
      have HF := Lib.hid hf
      clear hf
      go_enter Tryz.func124, Tryz.ntmps124
      go_wp2_with (go_at_call 165; refine C.out.mono ?_; rintro e w' ⟨rfl, rfl⟩)
      go_returns
      refine ans_code (by unfold take1; rw [if_neg (by rw [HS.out]; simp), if_pos (by simpa using HF.out)]) ?_
      exact (Below.refl _ _).alloc (Nat.le_refl _) _
  · have hs' : (sf xs slot [env, env] != 0) = true := by simp [hs]
    have HS : Hid (sf xs slot [env, env] ≠ 0) := hs
    clear hs
    go_enter Tryz.func124, Tryz.ntmps124
    go_wp2_with (go_at_call 165; refine C.out.mono ?_; rintro e w' ⟨rfl, rfl⟩)
    go_returns
    refine ans_code (by unfold take1; rw [← sf_dup, if_pos HS.out]) ?_
    exact (Below.refl _ _).alloc (Nat.le_refl _) _

theorem specFreeSlot_any (lo hi : Nat) (A : Option Addr) (n c : Nat) (xs : List Int) (env slot : Int) (w : World) (hn : n * 8 ≤ 140737488351232) (ex : xs.length = n) (hA : A = none → c = 0) (h : Sl w lo hi A n (fun k => .int .i64 (gi xs k))) :
    Calls Tryz.prog 125 #[.slice A n c, .int .i64 env, .int .i64 slot] w (Ans 2 (free1 xs env slot) w) := by
  have H : Hid (Sl (w.alloc (.cells #[.int .i64 0, .slice none 0 0] 112)) lo (min hi w.heap.size) A n (fun k => .int .i64 (gi xs k))) := h.lt.below (below_new w _) (by omega)
  have EX := Lib.hid ex
  have HA := Lib.hid hA
  have b0 : Hid (Below w.heap.size w (w.alloc (.cells #[.int .i64 0, .slice none 0 0] 112))) := below_new w _
  have C := Lib.hid (l1Asked_any lo (min hi w.heap.size) A n c xs env env slot (w.alloc (.cells #[.int .i64 0, .slice none 0 0] 112)) hn ex H.out)
  clear h ex hA
  by_cases hs : sf xs slot [env, env] = 0
  · obtain ⟨hv, _, hs0, hs1⟩ := sf_zero hs
    obtain ⟨k, rfl⟩ : ∃ k : Nat, slot = (k : Int) := ⟨slot.toNat, by omega⟩
    have hk : k < n := by rw [← EX.out]; omega
    have hs' : (sf xs (k : Int) [env, env] != 0) = false := by simp [hs]
    have HS := Lib.hid ((sf_dup xs k env).symm.trans hs)
    have h12 := (vf_zero hv).2.1
    have hlen : Hid (xs.length ≤ 12) := h12
    clear hs hv hs0 hs1 h12
    obtain ⟨b, off, rfl, h1, h2, hc⟩ := H.out.at_ hk
    have hck := hc k hk
    clear hc
    by_cases hf : gi xs k = env
    · have hf' : (gi xs k != env) = false := by simp [hf]
      have HF := Lib.hid hf
      clear hf
      have CW := Lib.hid (l1With_any lo (min hi w.heap.size) _ n c k xs (-1) (w.alloc (.cells #[.int .i64 0, .slice none 0 0] 112)) hn EX.out HA.out H.out hk)
      go_enter Tryz.func125, Tryz.ntmps125
      go_wp2_with (first | (go_at_call 165; refine C.out.mono ?_; rintro e w' ⟨rfl, rfl⟩) | fail)
      refine CW.out.mono ?_
      rintro e w1 ⟨A', c', rfl, hc', hm, hb⟩
      have hz : w.heap.size < w1.heap.size := by have := hb.size; simp at this; omega
      have hblk := (hb.block w.heap.size (by simp)).trans (heap_alloc_new w _)
      have q0 := cell_of_row w1 _ 0 _ _ _ hblk
      have q1 := cell_of_row w1 _ 1 _ _ _ hblk
      have f0 := frozen_of_row w1 _ 0 _ _ hblk
      have f1 := frozen_of_row w1 _ 1 _ _ hblk
      have HK := Lib.hid (blk2_set hblk (.int .i64 0) (.slice A' n c'))
      have HM := Lib.hid hm
      have HB := Lib.hid (b0.out.trans (hb.mono (by simp)))
      clear hm hb C CW H hblk
      simp at q0 q1
      go_wp2
      refine bodyPost_ret (results_cell_row rfl _ _ w.heap.size _ _ _ _ rfl HK.out Tryz.underlying112 rfl (by kernel_rfl)) rfl ?_
      refine ans_ok (ys := xs.set k (-1)) ?_ HB.out (by simp [EX.out]) hc' (by simpa using HM.out) (fun _ _ => rfl) _ _
      unfold free1; rw [if_neg (by rw [HS.out]; simp), if_neg (by simp [HF.out])]
      rfl
    · have hf' : (gi xs k != env) = true := by simp [hf]
      have HF := Lib.hid hf
      clear hf
      go_enter Tryz.func125, Tryz.ntmps125
      go_wp2_with (go_at_call 165; refine C.out.mono ?_; rintro e w' ⟨rfl, rfl⟩)
      go_returns
      refine ans_code (by unfold free1; rw [if_neg (by rw [HS.out]; simp), if_pos (by simpa using HF.out)]) ?_
      exact (Below.refl _ _).alloc (Nat.le_refl _) _
  · have hs' : (sf xs slot [env, env] != 0) = true := by simp [hs]
    have HS : Hid (sf xs slot [env, env] ≠ 0) := hs
    clear hs
    go_enter Tryz.func125, Tryz.ntmps125
    go_wp2_with (go_at_call 165; refine C.out.mono ?_; rintro e w' ⟨rfl, rfl⟩)
    go_returns
    refine ans_code (by unfold free1; rw [← sf_dup, if_pos HS.out]) ?_
    exact (Below.refl _ _).alloc (Nat.le_refl _) _

theorem specMoveSlot_any (lo hi : Nat) (A : Option Addr) (n c : Nat) (xs : List Int) (env slot to : Int) (w : World) (hn : n * 8 ≤ 140737488351232) (ex : xs.length = n) (hA : A = none → c = 0) (h : Sl w lo hi A n (fun k => .int .i64 (gi xs k))) :
    Calls Tryz.prog 126 #[.slice A n c, .int .i64 env, .int .i64 slot, .int .i64 to] w (Ans 2 (move1 xs env slot to) w) := by
  have H : Hid (Sl (w.alloc (.cells #[.int .i64 0, .slice none 0 0] 112)) lo (min hi w.heap.size) A n (fun k => .int .i64 (gi xs k))) := h.lt.below (below_new w _) (by omega)
  have EX := Lib.hid ex
  have HA := Lib.hid hA
  have b0 : Hid (Below w.heap.size w (w.alloc (.cells #[.int .i64 0, .slice none 0 0] 112))) := below_new w _
  have C := Lib.hid (l1Asked_any lo (min hi w.heap.size) A n c xs env to slot (w.alloc (.cells #[.int .i64 0, .slice none 0 0] 112)) hn ex H.out)
  clear h ex hA
  by_cases hs : sf xs slot [env, to] = 0
  · obtain ⟨hv, _, hs0, hs1⟩ := sf_zero hs
    obtain ⟨k, rfl⟩ : ∃ k : Nat, slot = (k : Int) := ⟨slot.toNat, by omega⟩
    have hk : k < n := by rw [← EX.out]; omega
    have hs' : (sf xs (k : Int) [env, to] != 0) = false := by simp [hs]
    have HS := Lib.hid (hs)
    have h12 := (vf_zero hv).2.1
    have hlen : Hid (xs.length ≤ 12) := h12
    clear hs hv hs0 hs1 h12
    obtain ⟨b, off, rfl, h1, h2, hc⟩ := H.out.at_ hk
    have hck := hc k hk
    clear hc
    have CC := Lib.hid (l1Count_any lo (min hi w.heap.size) _ n c xs to (w.alloc (.cells #[.int .i64 0, .slice none 0 0] 112)) hn EX.out H.out)
    have hcl := cnt_le xs to
    by_cases hf : gi xs k = env
    · have hf' : (gi xs k != env) = false := by simp [hf]
      have HF := Lib.hid hf
      clear hf
      by_cases ht : to = env
      · have ht' : (to != env) = false := by simp [ht]
        have HT := Lib.hid ht
        clear ht
        have CW := Lib.hid (l1With_any lo (min hi w.heap.size) _ n c k xs to (w.alloc (.cells #[.int .i64 0, .slice none 0 0] 112)) hn EX.out HA.out H.out hk)
        go_enter Tryz.func126, Tryz.ntmps126
        go_wp2_with (first | (go_at_call 165; refine C.out.mono ?_; rintro e w' ⟨rfl, rfl⟩) | (go_at_call 139; refine CC.out.mono ?_; rintro e w' ⟨rfl, rfl⟩) | fail)
        refine CW.out.mono ?_
        rintro e w1 ⟨A', c', rfl, hc', hm, hb⟩
        have hz : w.heap.size < w1.heap.size := by have := hb.size; simp at this; omega
        have hblk := (hb.block w.heap.size (by simp)).trans (heap_alloc_new w _)
        have q0 := cell_of_row w1 _ 0 _ _ _ hblk
        have q1 := cell_of_row w1 _ 1 _ _ _ hblk
        have f0 := frozen_of_row w1 _ 0 _ _ hblk
        have f1 := frozen_of_row w1 _ 1 _ _ hblk
        have HK := Lib.hid (blk2_set hblk (.int .i64 0) (.slice A' n c'))
        have HM := Lib.hid hm
        have HB := Lib.hid (b0.out.trans (hb.mono (by simp)))
        clear hm hb C CW H hblk
        simp at q0 q1
        go_wp2
        refine bodyPost_ret (results_cell_row rfl _ _ w.heap.size _ _ _ _ rfl HK.out Tryz.underlying112 rfl (by kernel_rfl)) rfl ?_
        refine ans_ok (ys := xs.set k to) ?_ HB.out (by simp [EX.out]) hc' (by simpa using HM.out) (fun _ _ => rfl) _ _
        unfold move1; rw [if_neg (by rw [HS.out]; simp), if_neg (by simp [HF.out]), if_neg (fun h => h.1 HT.out)]
        rfl
      · have ht' : (to != env) = true := by simp [ht]
        have HT := Lib.hid ht
        clear ht
        by_cases hq : 6 ≤ cnt xs to
        · go_enter Tryz.func126, Tryz.ntmps126
          go_wp2_with (first | (go_at_call 165; refine C.out.mono ?_; rintro e w' ⟨rfl, rfl⟩) | (go_at_call 139; refine CC.out.mono ?_; rintro e w' ⟨rfl, rfl⟩))
          go_returns
          refine ans_code (by unfold move1; rw [if_neg (by rw [HS.out]; simp), if_neg (by simp [HF.out]), if_pos ⟨HT.out, hq⟩]) ?_
          exact (Below.refl _ _).alloc (Nat.le_refl _) _
        · have HQ := Lib.hid hq
          have CW := Lib.hid (l1With_any lo (min hi w.heap.size) _ n c k xs to (w.alloc (.cells #[.int .i64 0, .slice none 0 0] 112)) hn EX.out HA.out H.out hk)
          go_enter Tryz.func126, Tryz.ntmps126
          go_wp2_with (first | (go_at_call 165; refine C.out.mono ?_; rintro e w' ⟨rfl, rfl⟩) | (go_at_call 139; refine CC.out.mono ?_; rintro e w' ⟨rfl, rfl⟩) | fail)
          refine CW.out.mono ?_
          rintro e w1 ⟨A', c', rfl, hc', hm, hb⟩
          have hz : w.heap.size < w1.heap.size := by have := hb.size; simp at this; omega
          have hblk := (hb.block w.heap.size (by simp)).trans (heap_alloc_new w _)
          have q0 := cell_of_row w1 _ 0 _ _ _ hblk
          have q1 := cell_of_row w1 _ 1 _ _ _ hblk
          have f0 := frozen_of_row w1 _ 0 _ _ hblk
          have f1 := frozen_of_row w1 _ 1 _ _ hblk
          have HK := Lib.hid (blk2_set hblk (.int .i64 0) (.slice A' n c'))
          have HM := Lib.hid hm
          have HB := Lib.hid (b0.out.trans (hb.mono (by simp)))
          clear hm hb C CW H hblk
          simp at q0 q1
          go_wp2
          refine bodyPost_ret (results_cell_row rfl _ _ w.heap.size _ _ _ _ rfl HK.out Tryz.underlying112 rfl (by kernel_rfl)) rfl ?_
          refine ans_ok (ys := xs.set k to) ?_ HB.out (by simp [EX.out]) hc' (by simpa using HM.out) (fun _ _ => rfl) _ _
          unfold move1; rw [if_neg (by rw [HS.out]; simp), if_neg (by simp [HF.out]), if_neg (fun h => HQ.out h.2)]
          rfl
    · have hf' : (gi xs k != env) = true := by simp [hf]
      have HF := Lib.hid hf
      clear hf
      go_enter Tryz.func126, Tryz.ntmps126
      go_wp2_with (go_at_call 165; refine C.out.mono ?_; rintro e w' ⟨rfl, rfl⟩)
      go_returns
      refine ans_code (by unfold move1; rw [if_neg (by rw [HS.out]; simp), if_pos (by simpa using HF.out)]) ?_
      exact (Below.refl _ _).alloc (Nat.le_refl _) _
  · have hs' : (sf xs slot [env, to] != 0) = true := by simp [hs]
    have HS : Hid (sf xs slot [env, to] ≠ 0) := hs
    clear hs
    go_enter Tryz.func126, Tryz.ntmps126
    go_wp2_with (go_at_call 165; refine C.out.mono ?_; rintro e w' ⟨rfl, rfl⟩)
    go_returns
    refine ans_code (by unfold move1; rw [if_pos HS.out]) ?_
    exact (Below.refl _ _).alloc (Nat.le_refl _) _

end Go.Proofs.YtlallklfilmcnaaGreat
