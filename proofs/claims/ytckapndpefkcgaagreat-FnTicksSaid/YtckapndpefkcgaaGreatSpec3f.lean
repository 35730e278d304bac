/-
  The model's DoCall, for every kernel that can be read and every call.
-/
import Derived.BigRegion
import Derived.Test.YtckapndpefkcgaaGreatSpec1
import Derived.Test.YtckapndpefkcgaaGreatSpec3d
import Derived.Test.YtckapndpefkcgaaGreatKans3
set_option maxHeartbeats 1000000

namespace Go.Proofs.YtckapndpefkcgaaGreat
open Go.RowKit

theorem l1With_any (lo hi : Nat) (A : Option Addr) (n c k : Nat) (xs : List Int) (env : Int) (w : World) (hn : n * 8 ≤ 140737488351232) (ex : xs.length = n) (hA : A = none → c = 0) (h : Sl w lo hi A n (fun k => .int .i64 (gi xs k))) (hk : k < n) :
    Calls Tryz.prog 163 #[.slice A n c, .int .i64 k, .int .i64 env] w fun e w' => ∃ A' c', e = .returned (.slice A' n c') ∧ (A' = none → c' = 0) ∧ Mine w' w.heap.size w'.heap.size 2 A' n (fun j => .int .i64 (gi (xs.set k env) j)) ∧ Below w.heap.size w w' := by
  have C := Lib.hid (l1Ints_any lo hi A n c xs w hn ex hA h)
  have EX := Lib.hid ex
  clear h ex hA
  go_enter Tryz.func163, Tryz.ntmps163
  go_wp2_with fail
  refine C.out.mono ?_
  rintro e w1 ⟨A', c', rfl, hc', hm, hb⟩
  rcases hm with h0 | ⟨g, off, rfl, h1, h2, hrow⟩
  · omega
  have hco := hrow.cell hk
  have hfo := hrow.frozen (off + k)
  have HB := Lib.hid (hb.setCell (p := ⟨g, off + k, none⟩) h1 (.int .i64 env))
  have HR := Lib.hid (hrow.set hk (.int .i64 env))
  clear hb hrow C
  go_wp2
  go_ret
  refine ⟨_, _, rfl, fun h => by simp at h, .inr ⟨g, off, rfl, h1, by simp [World.setCell]; omega, HR.out.congr fun j hj => ?_⟩, HB.out⟩
  rw [gi_set]
  by_cases e : j = k
  · rw [if_pos e, if_pos ⟨e, by rw [EX.out]; exact hk⟩]
  · rw [if_neg e, if_neg (fun h => e h.1)]

theorem specTakeSlot_any (lo hi : Nat) (A : Option Addr) (n c : Nat) (xs : List Int) (env slot : Int) (w : World) (hn : n * 8 ≤ 140737488351232) (ex : xs.length = n) (hA : A = none → c = 0) (h : Sl w lo hi A n (fun k => .int .i64 (gi xs k))) :
    Calls Tryz.prog 131 #[.slice A n c, .int .i64 env, .int .i64 slot] w (Ans 2 (take1 xs env slot) w) := by
  have H : Hid (Sl (w.alloc (.cells #[.int .i64 0, .slice none 0 0] 49)) lo (min hi w.heap.size) A n (fun k => .int .i64 (gi xs k))) := h.lt.below (below_new w _) (by omega)
  have EX := Lib.hid ex
  have HA := Lib.hid hA
  have b0 : Hid (Below w.heap.size w (w.alloc (.cells #[.int .i64 0, .slice none 0 0] 49))) := below_new w _
  have C := Lib.hid (l1Asked_any lo (min hi w.heap.size) A n c xs env env slot (w.alloc (.cells #[.int .i64 0, .slice none 0 0] 49)) hn ex H.out)
  clear h ex hA
  by_cases hs : sf xs slot [env, env] = 0
  · obtain ⟨hv, _, hs0, hs1⟩ := sf_zero hs
    obtain ⟨k, rfl⟩ : ∃ k : Nat, slot = (k : Int) := ⟨slot.toNat, by omega⟩
    have hk : k < n := by rw [← EX.out]; omega
    have hs' : (sf xs k [env, env] != 0) = false := by simp [hs]
    have HS : Hid (sf xs k [env] = 0) := (sf_dup xs k env).symm.trans hs
    have h12 := (vf_zero hv).2.1
    have hlen : Hid (xs.length ≤ 12) := h12
    clear hs hv hs0 hs1 h12
    obtain ⟨b, off, rfl, h1, h2, hc⟩ := H.out.at_ hk
    have hck := hc k hk
    clear hc
    by_cases hf : gi xs k = -1
    · have hf' : (gi xs k != -1) = false := by simp [hf]
      have HF := Lib.hid hf
      clear hf
      have CC := Lib.hid (l1Count_any lo (min hi w.heap.size) _ n c xs env (w.alloc (.cells #[.int .i64 0, .slice none 0 0] 49)) hn EX.out H.out)
      by_cases hq : 6 ≤ cnt xs env
      · have hcl := cnt_le xs env
        go_enter Tryz.func131, Tryz.ntmps131
        go_wp2_with (first | (go_at_call 162; refine C.out.mono ?_; rintro e w' ⟨rfl, rfl⟩) | (go_at_call 140; refine CC.out.mono ?_; rintro e w' ⟨rfl, rfl⟩))
        go_returns
        refine ans_code (by unfold take1; rw [if_neg (by rw [HS.out]; simp), if_neg (by simp [HF.out]), if_pos hq]) ?_
        exact (Below.refl _ _).alloc (Nat.le_refl _) _
      · have CW := Lib.hid (l1With_any lo (min hi w.heap.size) _ n c k xs env (w.alloc (.cells #[.int .i64 0, .slice none 0 0] 49)) hn EX.out HA.out H.out hk)
        go_enter Tryz.func131, Tryz.ntmps131
        go_wp2_with (first | (go_at_call 162; refine C.out.mono ?_; rintro e w' ⟨rfl, rfl⟩) | (go_at_call 140; refine CC.out.mono ?_; rintro e w' ⟨rfl, rfl⟩) | fail)
        refine CW.out.mono ?_
        rintro e w1 ⟨A', c', rfl, hc', hm, hb⟩
        have hz : w.heap.size < w1.heap.size := by have := hb.size; simp at this; omega
        have hblk := (hb.block w.heap.size (by simp)).trans (heap_alloc_new w _)
        have q0 := cell_of_row w1 _ 0 _ _ _ hblk
        have q1 := cell_of_row w1 _ 1 _ _ _ hblk
        have f0 := frozen_of_row w1 _ 0 _ _ hblk
        have f1 := frozen_of_row w1 _ 1 _ _ hblk
        have HK := Lib.hid (blk2_set hblk (.int .i64 0) (.slice A' n c'))
        have HM := Lib.hid hm
        have HB := Lib.hid (b0.out.trans (hb.mono (by simp)))
        clear hm hb C CC CW H hblk
        simp at q0 q1
        go_wp2
        refine bodyPost_ret (results_cell_row rfl _ _ w.heap.size _ _ _ _ rfl HK.out Tryz.underlying49 rfl (by kernel_rfl)) rfl ?_
        refine ans_ok (ys := xs.set k env) ?_ HB.out (by simp [EX.out]) hc' (by simpa using HM.out) (fun _ _ => rfl) _ _
        unfold take1
        rw [if_neg (by rw [HS.out]; simp), if_neg (by simp [HF.out]), if_neg hq]
        rfl
    · have hf' : (gi xs k != -1) = true := by simp [hf]
      have HF := Lib.hid hf
      clear hf
      go_enter Tryz.func131, Tryz.ntmps131
      go_wp2_with (go_at_call 162; refine C.out.mono ?_; rintro e w' ⟨rfl, rfl⟩)
      go_returns
      refine ans_code (by unfold take1; rw [if_neg (by rw [HS.out]; simp), if_pos (by simpa using HF.out)]) ?_
      exact (Below.refl _ _).alloc (Nat.le_refl _) _
  · have hs' : (sf xs slot [env, env] != 0) = true := by simp [hs]
    have HS : Hid (sf xs slot [env, env] ≠ 0) := hs
    clear hs
    go_enter Tryz.func131, Tryz.ntmps131
    go_wp2_with (go_at_call 162; refine C.out.mono ?_; rintro e w' ⟨rfl, rfl⟩)
    go_returns
    refine ans_code (by unfold take1; rw [← sf_dup, if_pos HS.out]) ?_
    exact (Below.refl _ _).alloc (Nat.le_refl _) _

theorem specFreeSlot_any (lo hi : Nat) (A : Option Addr) (n c : Nat) (xs : List Int) (env slot : Int) (w : World) (hn : n * 8 ≤ 140737488351232) (ex : xs.length = n) (hA : A = none → c = 0) (h : Sl w lo hi A n (fun k => .int .i64 (gi xs k))) :
    Calls Tryz.prog 132 #[.slice A n c, .int .i64 env, .int .i64 slot] w (Ans 2 (free1 xs env slot) w) := by
  have H : Hid (Sl (w.alloc (.cells #[.int .i64 0, .slice none 0 0] 49)) lo (min hi w.heap.size) A n (fun k => .int .i64 (gi xs k))) := h.lt.below (below_new w _) (by omega)
  have EX := Lib.hid ex
  have HA := Lib.hid hA
  have b0 : Hid (Below w.heap.size w (w.alloc (.cells #[.int .i64 0, .slice none 0 0] 49))) := below_new w _
  have C := Lib.hid (l1Asked_any lo (min hi w.heap.size) A n c xs env env slot (w.alloc (.cells #[.int .i64 0, .slice none 0 0] 49)) hn ex H.out)
  clear h ex hA
  by_cases hs : sf xs slot [env, env] = 0
  · obtain ⟨hv, _, hs0, hs1⟩ := sf_zero hs
    obtain ⟨k, rfl⟩ : ∃ k : Nat, slot = (k : Int) := ⟨slot.toNat, by omega⟩
    have hk : k < n := by rw [← EX.out]; omega
    have hs' : (sf xs (k : Int) [env, env] != 0) = false := by simp [hs]
    have HS := Lib.hid ((sf_dup xs k env).symm.trans hs)
    have h12 := (vf_zero hv).2.1
    have hlen : Hid (xs.length ≤ 12) := h12
    clear hs hv hs0 hs1 h12
    obtain ⟨b, off, rfl, h1, h2, hc⟩ := H.out.at_ hk
    have hck := hc k hk
    clear hc
    by_cases hf : gi xs k = env
    · have hf' : (gi xs k != env) = false := by simp [hf]
      have HF := Lib.hid hf
      clear hf
      have CW := Lib.hid (l1With_any lo (min hi w.heap.size) _ n c k xs (-1) (w.alloc (.cells #[.int .i64 0, .slice none 0 0] 49)) hn EX.out HA.out H.out hk)
      go_enter Tryz.func132, Tryz.ntmps132
      go_wp2_with (first | (go_at_call 162; refine C.out.mono ?_; rintro e w' ⟨rfl, rfl⟩) | fail)
      refine CW.out.mono ?_
      rintro e w1 ⟨A', c', rfl, hc', hm, hb⟩
      have hz : w.heap.size < w1.heap.size := by have := hb.size; simp at this; omega
      have hblk := (hb.block w.heap.size (by simp)).trans (heap_alloc_new w _)
      have q0 := cell_of_row w1 _ 0 _ _ _ hblk
      have q1 := cell_of_row w1 _ 1 _ _ _ hblk
      have f0 := frozen_of_row w1 _ 0 _ _ hblk
      have f1 := frozen_of_row w1 _ 1 _ _ hblk
      have HK := Lib.hid (blk2_set hblk (.int .i64 0) (.slice A' n c'))
      have HM := Lib.hid hm
      have HB := Lib.hid (b0.out.trans (hb.mono (by simp)))
      clear hm hb C CW H hblk
      simp at q0 q1
      go_wp2
      refine bodyPost_ret (results_cell_row rfl _ _ w.heap.size _ _ _ _ rfl HK.out Tryz.underlying49 rfl (by kernel_rfl)) rfl ?_
      refine ans_ok (ys := xs.set k (-1)) ?_ HB.out (by simp [EX.out]) hc' (by simpa using HM.out) (fun _ _ => rfl) _ _
      unfold free1; rw [if_neg (by rw [HS.out]; simp), if_neg (by simp [HF.out])]
      rfl
    · have hf' : (gi xs k != env) = true := by simp [hf]
      have HF := Lib.hid hf
      clear hf
      go_enter Tryz.func132, Tryz.ntmps132
      go_wp2_with (go_at_call 162; refine C.out.mono ?_; rintro e w' ⟨rfl, rfl⟩)
      go_returns
      refine ans_code (by unfold free1; rw [if_neg (by rw [HS.out]; simp), if_pos (by simpa using HF.out)]) ?_
      exact (Below.refl _ _).alloc (Nat.le_refl _) _
  · have hs' : (sf xs slot [env, env] != 0) = true := by simp [hs]
    have HS : Hid (sf xs slot [env, env] ≠ 0) := hs
    clear hs
    go_enter Tryz.func132, Tryz.ntmps132
    go_wp2_with (go_at_call 162; refine C.out.mono ?_; rintro e w' ⟨rfl, rfl⟩)
    go_returns
    refine ans_code (by unfold free1; rw [← sf_dup, if_pos HS.out]) ?_
    exact (Below.refl _ _).alloc (Nat.le_refl _) _

theorem specMoveSlot_any (lo hi : Nat) (A : Option Addr) (n c : Nat) (xs : List Int) (env slot to : Int) (w : World) (hn : n * 8 ≤ 140737488351232) (ex : xs.length = n) (hA : A = none → c = 0) (h : Sl w lo hi A n (fun k => .int .i64 (gi xs k))) :
    Calls Tryz.prog 133 #[.slice A n c, .int .i64 env, .int .i64 slot, .int .i64 to] w (Ans 2 (move1 xs env slot to) w) := by
  have H : Hid (Sl (w.alloc (.cells #[.int .i64 0, .slice none 0 0] 49)) lo (min hi w.heap.size) A n (fun k => .int .i64 (gi xs k))) := h.lt.below (below_new w _) (by omega)
  have EX := Lib.hid ex
  have HA := Lib.hid hA
  have b0 : Hid (Below w.heap.size w (w.alloc (.cells #[.int .i64 0, .slice none 0 0] 49))) := below_new w _
  have C := Lib.hid (l1Asked_any lo (min hi w.heap.size) A n c xs env to slot (w.alloc (.cells #[.int .i64 0, .slice none 0 0] 49)) hn ex H.out)
  clear h ex hA
  by_cases hs : sf xs slot [env, to] = 0
  · obtain ⟨hv, _, hs0, hs1⟩ := sf_zero hs
    obtain ⟨k, rfl⟩ : ∃ k : Nat, slot = (k : Int) := ⟨slot.toNat, by omega⟩
    have hk : k < n := by rw [← EX.out]; omega
    have hs' : (sf xs (k : Int) [env, to] != 0) = false := by simp [hs]
    have HS := Lib.hid (hs)
    have h12 := (vf_zero hv).2.1
    have hlen : Hid (xs.length ≤ 12) := h12
    clear hs hv hs0 hs1 h12
    obtain ⟨b, off, rfl, h1, h2, hc⟩ := H.out.at_ hk
    have hck := hc k hk
    clear hc
    have CC := Lib.hid (l1Count_any lo (min hi w.heap.size) _ n c xs to (w.alloc (.cells #[.int .i64 0, .slice none 0 0] 49)) hn EX.out H.out)
    have hcl := cnt_le xs to
    by_cases hf : gi xs k = env
    · have hf' : (gi xs k != env) = false := by simp [hf]
      have HF := Lib.hid hf
      clear hf
      by_cases ht : to = env
      · have ht' : (to != env) = false := by simp [ht]
        have HT := Lib.hid ht
        clear ht
        have CW := Lib.hid (l1With_any lo (min hi w.heap.size) _ n c k xs to (w.alloc (.cells #[.int .i64 0, .slice none 0 0] 49)) hn EX.out HA.out H.out hk)
        go_enter Tryz.func133, Tryz.ntmps133
        go_wp2_with (first | (go_at_call 162; refine C.out.mono ?_; rintro e w' ⟨rfl, rfl⟩) | (go_at_call 140; refine CC.out.mono ?_; rintro e w' ⟨rfl, rfl⟩) | fail)
        refine CW.out.mono ?_
        rintro e w1 ⟨A', c', rfl, hc', hm, hb⟩
        have hz : w.heap.size < w1.heap.size := by have := hb.size; simp at this; omega
        have hblk := (hb.block w.heap.size (by simp)).trans (heap_alloc_new w _)
        have q0 := cell_of_row w1 _ 0 _ _ _ hblk
        have q1 := cell_of_row w1 _ 1 _ _ _ hblk
        have f0 := frozen_of_row w1 _ 0 _ _ hblk
        have f1 := frozen_of_row w1 _ 1 _ _ hblk
        have HK := Lib.hid (blk2_set hblk (.int .i64 0) (.slice A' n c'))
        have HM := Lib.hid hm
        have HB := Lib.hid (b0.out.trans (hb.mono (by simp)))
        clear hm hb C CW H hblk
        simp at q0 q1
        go_wp2
        refine bodyPost_ret (results_cell_row rfl _ _ w.heap.size _ _ _ _ rfl HK.out Tryz.underlying49 rfl (by kernel_rfl)) rfl ?_
        refine ans_ok (ys := xs.set k to) ?_ HB.out (by simp [EX.out]) hc' (by simpa using HM.out) (fun _ _ => rfl) _ _
        unfold move1; rw [if_neg (by rw [HS.out]; simp), if_neg (by simp [HF.out]), if_neg (fun h => h.1 HT.out)]
        rfl
      · have ht' : (to != env) = true := by simp [ht]
        have HT := Lib.hid ht
        clear ht
        by_cases hq : 6 ≤ cnt xs to
        · go_enter Tryz.func133, Tryz.ntmps133
          go_wp2_with (first | (go_at_call 162; refine C.out.mono ?_; rintro e w' ⟨rfl, rfl⟩) | (go_at_call 140; refine CC.out.mono ?_; rintro e w' ⟨rfl, rfl⟩))
          go_returns
          refine ans_code (by unfold move1; rw [if_neg (by rw [HS.out]; simp), if_neg (by simp [HF.out]), if_pos ⟨HT.out, hq⟩]) ?_
          exact (Below.refl _ _).alloc (Nat.le_refl _) _
        · have HQ := Lib.hid hq
          have CW := Lib.hid (l1With_any lo (min hi w.heap.size) _ n c k xs to (w.alloc (.cells #[.int .i64 0, .slice none 0 0] 49)) hn EX.out HA.out H.out hk)
          go_enter Tryz.func133, Tryz.ntmps133
          go_wp2_with (first | (go_at_call 162; refine C.out.mono ?_; rintro e w' ⟨rfl, rfl⟩) | (go_at_call 140; refine CC.out.mono ?_; rintro e w' ⟨rfl, rfl⟩) | fail)
          refine CW.out.mono ?_
          rintro e w1 ⟨A', c', rfl, hc', hm, hb⟩
          have hz : w.heap.size < w1.heap.size := by have := hb.size; simp at this; omega
          have hblk := (hb.block w.heap.size (by simp)).trans (heap_alloc_new w _)
          have q0 := cell_of_row w1 _ 0 _ _ _ hblk
          have q1 := cell_of_row w1 _ 1 _ _ _ hblk
          have f0 := frozen_of_row w1 _ 0 _ _ hblk
          have f1 := frozen_of_row w1 _ 1 _ _ hblk
          have HK := Lib.hid (blk2_set hblk (.int .i64 0) (.slice A' n c'))
          have HM := Lib.hid hm
          have HB := Lib.hid (b0.out.trans (hb.mono (by simp)))
          clear hm hb C CW H hblk
          simp at q0 q1
          go_wp2
          refine bodyPost_ret (results_cell_row rfl _ _ w.heap.size _ _ _ _ rfl HK.out Tryz.underlying49 rfl (by kernel_rfl)) rfl ?_
          refine ans_ok (ys := xs.set k to) ?_ HB.out (by simp [EX.out]) hc' (by simpa using HM.out) (fun _ _ => rfl) _ _
          unfold move1; rw [if_neg (by rw [HS.out]; simp), if_neg (by simp [HF.out]), if_neg (fun h => HQ.out h.2)]
          rfl
    · have hf' : (gi xs k != env) = true := by simp [hf]
      have HF := Lib.hid hf
      clear hf
      go_enter Tryz.func133, Tryz.ntmps133
      go_wp2_with (go_at_call 162; refine C.out.mono ?_; rintro e w' ⟨rfl, rfl⟩)
      go_returns
      refine ans_code (by unfold move1; rw [if_neg (by rw [HS.out]; simp), if_pos (by simpa using HF.out)]) ?_
      exact (Below.refl _ _).alloc (Nat.le_refl _) _
  · have hs' : (sf xs slot [env, to] != 0) = true := by simp [hs]
    have HS : Hid (sf xs slot [env, to] ≠ 0) := hs
    clear hs
    go_enter Tryz.func133, Tryz.ntmps133
    go_wp2_with (go_at_call 162; refine C.out.mono ?_; rintro e w' ⟨rfl, rfl⟩)
    go_returns
    refine ans_code (by unfold move1; rw [if_pos HS.out]) ?_
    exact (Below.refl _ _).alloc (Nat.le_refl _) _


set_option maxRecDepth 100000

theorem cf_zero {k e s t : Int} (h : cf k e s t = 0) : (k = 1 ∨ k = 2 ∨ k = 3 ∨ k = 4 ∨ k = 5) ∧ (0 ≤ e ∧ e < 4) ∧ (0 ≤ t ∧ t < 4) ∧ 0 ≤ s ∧ s ≤ 11 := by
  have hr : cr e s t = 0 → (0 ≤ e ∧ e < 4) ∧ (0 ≤ t ∧ t < 4) ∧ 0 ≤ s ∧ s ≤ 11 := by
    intro h
    unfold cr at h
    split at h
    · rename_i hh
      obtain ⟨h1, h2, h3⟩ := hh
      simp [inEnv, inR] at h1 h2 h3
      omega
    · omega
  unfold cf at h
  split at h
  · split at h
    · omega
    · exact ⟨by omega, hr h⟩
  · split at h
    · split at h
      · omega
      · exact ⟨by omega, hr h⟩
    · split at h
      · exact ⟨by omega, hr h⟩
      · omega

set_option maxHeartbeats 2000000 in
theorem l3Call_any (g gc oc : Nat) (p : Kp) (K : Ker) (k e s t : Int) (w : World) (h : KB w g p K)
    (c0 : w.cell? ⟨gc, oc, none⟩ = some (.int .i64 k)) (c1 : w.cell? ⟨gc, oc + 1, none⟩ = some (.int .i64 e)) (c2 : w.cell? ⟨gc, oc + 2, none⟩ = some (.int .i64 s)) (c3 : w.cell? ⟨gc, oc + 3, none⟩ = some (.int .i64 t))
    (dg : gc ≠ g) (d2 : gc ≠ p.g2) (d3 : gc ≠ p.g3) (hv : vf K.os = 0) (hcf : cf k e s t = 0) :
    Calls Tryz.prog 87 #[.pointer (some ⟨g, 0, none⟩), .pointer (some ⟨gc, oc, none⟩)] w fun r w' => ∃ p' : Kp, r = .returned (.int .i64 (call3 K k e s t).1) ∧ KB w' g p' (call3 K k e s t).2 ∧
      (p'.g1 = p.g1 ∨ w.heap.size ≤ p'.g1 ∧ p'.g1 < w'.heap.size) ∧ p'.g2 = p.g2 ∧ p'.g3 = p.g3 ∧ Kept [g, p.g2, p.g3] w w' := by
  obtain ⟨hk, he, ht, hs⟩ := cf_zero hcf
  clear hcf
  obtain ⟨ee, rfl⟩ : ∃ e' : Nat, e = (e' : Int) := ⟨e.toNat, by omega⟩
  have he4 : ee < 4 := by omega
  have he0 : (0 : Int) ≤ (ee : Int) := by omega
  have heI : (ee : Int) < 4 := by omega
  have HK := Lib.hid h
  have HV := Lib.hid hv
  obtain ⟨q0, q1, q2, q3, q4⟩ := h.cells
  obtain ⟨o2, hA2, r2⟩ := h.alive
  rw [hA2] at q1
  have a0 := r2.cell he4
  have y0 := r2.frozen (o2 + ee)
  have HR2 := Lib.hid r2
  have gl := h.lt
  have gcl : gc < w.heap.size := World.block_lt_of_cell? _ _ c0
  clear h hv r2 he
  have hto : ((ee : Int)).toNat = ee := rfl
  by_cases k1 : k = 1
  · subst k1
    cases ha : gb K.al ee
    · rw [ha] at a0
      have HC : Hid (call3 K 1 ee s t = (0, { K with al := K.al.set ee true })) := by show _ = _; unfold call3; rw [if_pos rfl, hto, ha]; rfl
      go_enter Tryz.func87, Tryz.ntmps87
      go_wp2_with fail
      go_quiet (fail)
      obtain ⟨w1, hw1⟩ : ∃ w1, w1 = w.drewN nq := ⟨_, rfl⟩
      rw [← hw1]
      have Xw1 : Kept [] w w1 := by rw [hw1]; exact (Kept.refl [] w).drewN nq
      clear hw1
      have Kw1 := Lib.hid (HK.out.kept Xw1 (by simp) (by simp) (by simp) (by simp))
      have hbw1 : ∀ b, b < w.heap.size → w1.heap[b]? = w.heap[b]? := fun b hb => Xw1.2 b hb (by simp)
      have c0 := (World.cell?_of_block (a := ⟨gc, oc, none⟩) (hbw1 gc gcl)).trans c0
      have c1 := (World.cell?_of_block (a := ⟨gc, oc + 1, none⟩) (hbw1 gc gcl)).trans c1
      have c2 := (World.cell?_of_block (a := ⟨gc, oc + 2, none⟩) (hbw1 gc gcl)).trans c2
      have c3 := (World.cell?_of_block (a := ⟨gc, oc + 3, none⟩) (hbw1 gc gcl)).trans c3
      obtain ⟨q0, q1, q2, q3, q4⟩ := Kw1.out.cells
      rw [hA2] at q1
      have a0 := (World.cell?_of_block (a := ⟨p.g2, o2 + ee, none⟩) (hbw1 p.g2 HR2.out.lt)).trans a0
      have y0 : w1.frozen? ⟨p.g2, o2 + ee, none⟩ = false := (HR2.out.keep (hbw1 p.g2 HR2.out.lt)).frozen _
      clear hbw1
      go_wp2_with fail
      first | go_region | fail
      go_wp2
      go_ret
      rw [HC.out]
      exact ⟨p, rfl, (Kw1.out.setAlive hA2 he4 true).drew, .inl rfl, rfl, rfl, (((Kept.refl _ w).trans (Xw1.mono (by simp))).setCell (p := ⟨p.g2, o2 + ee, none⟩) (by simp) _).drew⟩
    · rw [ha] at a0
      have HC : Hid (call3 K 1 ee s t = (6, K)) := by show _ = _; unfold call3; rw [if_pos rfl, hto, if_pos ha]
      go_enter Tryz.func87, Tryz.ntmps87
      go_wp2_with fail
      go_quiet (fail)
      go_wp2
      go_ret
      rw [HC.out]
      exact ⟨p, rfl, HK.out.kept ((Kept.refl [] w).drewN _) (by simp) (by simp) (by simp) (by simp), .inl rfl, rfl, rfl, (Kept.refl _ w).drewN _⟩
  have gl2 := HK.out.lt2
  have v12 := vf_zero HV.out
  have gl1 := HK.out.lt1 (by have := HK.out.own.l1; have := v12.1; omega)
  cases ha : gb K.al ee
  · rw [ha] at a0
    have HC : Hid (call3 K k ee s t = (4, K)) := by show _ = _; unfold call3; rw [if_neg k1, hto, if_pos ha]
    have k1a : (k == 1) = false := by simp [k1]
    go_enter Tryz.func87, Tryz.ntmps87
    go_wp2_with fail
    go_quiet (fail)
    go_wp2
    go_ret
    rw [HC.out]
    exact ⟨p, rfl, HK.out.kept ((Kept.refl [] w).drewN _) (by simp) (by simp) (by simp) (by simp), .inl rfl, rfl, rfl, (Kept.refl _ w).drewN _⟩
  rw [ha] at a0
  have k5 : k = 2 ∨ k = 3 ∨ k = 4 ∨ k = 5 := by omega
  clear k1
  rcases k5 with rfl | rfl | rfl | rfl
  · go_enter Tryz.func87, Tryz.ntmps87
    go_wp2_with fail
    go_quiet (fail)
    obtain ⟨wq, hwq⟩ : ∃ wq, wq = w.drewN nq := ⟨_, rfl⟩
    rw [← hwq]
    have Xwq : Kept [] w wq := by rw [hwq]; exact (Kept.refl [] w).drewN nq
    have SQ : Hid (wq.heap.size = w.heap.size) := by rw [hwq]; rfl
    clear hwq
    go_upto_region 9 with (fail)
    have swq := SQ.out
    obtain ⟨w1, hw1⟩ : ∃ w1, w1 = wq.alloc (.cells #[.int .i64 0, .slice none 0 0] 49) := ⟨_, rfl⟩
    rw [← hw1]
    have Xq : Kept [] w w1 := by rw [hw1]; exact Xwq.alloc _
    have rb : Hid (w1.heap[wq.heap.size]? = some (.cells #[.int .i64 0, .slice none 0 0] 49 (0, 0))) := by rw [hw1]; exact heap_alloc_new wq _
    have w1s : w1.heap.size = wq.heap.size + 1 := by rw [hw1]; simp
    clear hw1
    have Kw1 := Lib.hid (HK.out.kept Xq (by simp) (by simp) (by simp) (by simp))
    have hbw1 : ∀ b, b < w.heap.size → w1.heap[b]? = w.heap[b]? := fun b hb => Xq.2 b hb (by simp)
    have gl : g < wq.heap.size := by omega
    have gcl : gc < wq.heap.size := by omega
    have c0 := (World.cell?_of_block (a := ⟨gc, oc, none⟩) (hbw1 gc (by omega))).trans c0
    have c1 := (World.cell?_of_block (a := ⟨gc, oc + 1, none⟩) (hbw1 gc (by omega))).trans c1
    have c2 := (World.cell?_of_block (a := ⟨gc, oc + 2, none⟩) (hbw1 gc (by omega))).trans c2
    have c3 := (World.cell?_of_block (a := ⟨gc, oc + 3, none⟩) (hbw1 gc (by omega))).trans c3
    obtain ⟨q0, q1, q2, q3, q4⟩ := Kw1.out.cells
    rw [hA2] at q1
    have a0 := (World.cell?_of_block (a := ⟨p.g2, o2 + ee, none⟩) (hbw1 p.g2 HR2.out.lt)).trans a0
    have y0 : w1.frozen? ⟨p.g2, o2 + ee, none⟩ = false := (HR2.out.keep (hbw1 p.g2 HR2.out.lt)).frozen _
    clear hbw1 swq
    have SQ1 := Lib.hid w1s
    clear w1s
    go_wp2_with fail
    have swq := SQ.out
    have w1s := SQ1.out
    clear swq w1s
    first | go_region | fail
    have swq := SQ.out
    have w1s := SQ1.out
    obtain ⟨wa, hwa⟩ : ∃ wa, wa = (w1.setCell ⟨p.g2, o2 + ee, none⟩ (.bool false)).drew := ⟨_, rfl⟩
    rw [← hwa]
    have KA : Hid (KB wa g p { K with al := K.al.set ee false }) := by rw [hwa]; exact (Kw1.out.setAlive hA2 he4 false).drew
    have Xwa : Hid (Kept [g, p.g2, p.g3] w wa) := by rw [hwa]; exact ((Xq.mono (by simp)).setCell (p := ⟨p.g2, o2 + ee, none⟩) (by simp) _).drew
    have hbwa : ∀ b, b ≠ g → b ≠ p.g2 → b ≠ p.g3 → wa.heap[b]? = w1.heap[b]? := fun b h1 h2 h3 => by rw [hwa]; exact Below.heap_setCell w1 ⟨p.g2, o2 + ee, none⟩ _ b h2
    have rbwa : Hid (wa.heap[wq.heap.size]? = some (.cells #[.int .i64 0, .slice none 0 0] 49 (0, 0))) := (hbwa _ (by omega) (by omega) (by omega)).trans rb.out
    have rb := rbwa
    have c1 := (World.cell?_of_block (a := ⟨gc, oc + 1, none⟩) (hbwa gc dg d2 d3)).trans c1
    clear hbwa
    obtain ⟨q0, q1, q2, q3, q4⟩ := KA.out.cells
    have SA : Hid (wa.heap.size = wq.heap.size + 1) := by rw [hwa]; exact (show (w1.setCell ⟨p.g2, o2 + ee, none⟩ (.bool false)).heap.size = w1.heap.size by simp).trans w1s
    clear hwa
    obtain ⟨o3, hA3, r3⟩ := KA.out.accs
    rw [hA3] at q2
    have d0 : wa.cell? ⟨p.g3, o3 + ee * 4, none⟩ = some (.int .i64 (gi K.ac (ee * 4))) := r3.cell (show ee * 4 < 16 by omega)
    have d1 : wa.cell? ⟨p.g3, o3 + ee * 4 + 1, none⟩ = some (.int .i64 (gi K.ac (ee * 4 + 1))) := r3.cell (show ee * 4 + 1 < 16 by omega)
    have d4 : wa.cell? ⟨p.g3, o3 + ee * 4 + 2, none⟩ = some (.int .i64 (gi K.ac (ee * 4 + 2))) := r3.cell (show ee * 4 + 2 < 16 by omega)
    have d5 : wa.cell? ⟨p.g3, o3 + ee * 4 + 3, none⟩ = some (.int .i64 (gi K.ac (ee * 4 + 3))) := r3.cell (show ee * 4 + 3 < 16 by omega)
    have y0 := r3.frozen (o3 + ee * 4)
    have y1 := r3.frozen (o3 + ee * 4 + 1)
    have y2 := r3.frozen (o3 + ee * 4 + 2)
    have y3 := r3.frozen (o3 + ee * 4 + 3)
    clear swq w1s r3 a0
    go_wp2_with fail
    first | go_region | fail
    have swq := SQ.out
    have w1s := SA.out
    obtain ⟨wz, hwz⟩ : ∃ wz, wz = ((((wa.setCell ⟨p.g3, o3 + ee * 4, none⟩ (.int .i64 0)).setCell ⟨p.g3, o3 + ee * 4 + 1, none⟩ (.int .i64 0)).setCell ⟨p.g3, o3 + ee * 4 + 2, none⟩ (.int .i64 0)).setCell ⟨p.g3, o3 + ee * 4 + 3, none⟩ (.int .i64 0)).drew := ⟨_, rfl⟩
    rw [← hwz]
    have KZZ : Hid (KB wz g p { K with al := K.al.set ee false, ac := zac K.ac ee }) := by rw [hwz]; exact (KA.out.setAccount hA3 he4 0 0 0 0).drew
    have Xwz : Hid (Kept [g, p.g2, p.g3] w wz) := by rw [hwz]; exact (Xwa.out.set4 (by simp) _ _ _ _).drew
    have hbwz : ∀ b, b ≠ g → b ≠ p.g2 → b ≠ p.g3 → wz.heap[b]? = wa.heap[b]? := fun b h1 h2 h3 => by rw [hwz]; exact (Below.heap_setCell _ ⟨p.g3, _, none⟩ _ b h3).trans ((Below.heap_setCell _ ⟨p.g3, _, none⟩ _ b h3).trans ((Below.heap_setCell _ ⟨p.g3, _, none⟩ _ b h3).trans (Below.heap_setCell _ ⟨p.g3, _, none⟩ _ b h3)))
    have rbwz : Hid (wz.heap[wq.heap.size]? = some (.cells #[.int .i64 0, .slice none 0 0] 49 (0, 0))) := (hbwz _ (by omega) (by omega) (by omega)).trans rb.out
    have rb := rbwz
    have c1 := (World.cell?_of_block (a := ⟨gc, oc + 1, none⟩) (hbwz gc dg d2 d3)).trans c1
    clear hbwz
    obtain ⟨q0, q1, q2, q3, q4⟩ := KZZ.out.cells
    have SZ : Hid (wz.heap.size = wq.heap.size + 1) := by rw [hwz]; exact (show ((((wa.setCell ⟨p.g3, o3 + ee * 4, none⟩ (.int .i64 0)).setCell ⟨p.g3, o3 + ee * 4 + 1, none⟩ (.int .i64 0)).setCell ⟨p.g3, o3 + ee * 4 + 2, none⟩ (.int .i64 0)).setCell ⟨p.g3, o3 + ee * 4 + 3, none⟩ (.int .i64 0)).heap.size = wa.heap.size by simp).trans w1s
    clear hwz d0 d1 d4 d5 y0 y1 y2 y3
    have ZERO : ∀ r1, r1 = drop1 K.os (ee : Int) → r1.1 = 0 := fun r1 e => by
      subst e
      unfold drop1
      rw [if_neg (by rw [ef_of HV.out (by simp; omega)]; simp)]
    have LEN : ∀ r1, r1 = drop1 K.os (ee : Int) → r1.1 = 0 → 1 ≤ r1.2.length := fun r1 e h => by
      subst e
      unfold drop1
      rw [if_neg (by rw [ef_of HV.out (by simp; omega)]; simp)]
      simp
      have := (vf_zero HV.out).1
      omega
    have y4 := frozen_of_row wz g 4 _ _ KZZ.out.box
    by_cases hrun : K.run = (ee : Int)
    · rw [hrun] at q4
      clear swq w1s
      go_wp2_with fail
      go_quiet (fail)
      have KZQ : Hid (KB (wz.drewN nq) g p { K with al := K.al.set ee false, ac := zac K.ac ee }) := KZZ.out.kept ((Kept.refl [] wz).drewN nq) (by simp) (by simp) (by simp) (by simp)
      go_upto_region 18 with (fail)
      have swq := SQ.out
      obtain ⟨wy, hwy⟩ : ∃ wy, wy = (wz.drewN nq).setCell ⟨g, 4, none⟩ (.int .i64 (-1)) := ⟨_, rfl⟩
      rw [← hwy]
      have KY : Hid (KB wy g p { K with al := K.al.set ee false, ac := zac K.ac ee, run := -1 }) := by rw [hwy]; exact KZQ.out.setRun (-1)
      have Xwy : Hid (Kept [g, p.g2, p.g3] w wy) := by rw [hwy]; exact (Xwz.out.drewN nq).setCell (p := ⟨g, 4, none⟩) (by simp) _
      have hbwy : ∀ b, b ≠ g → b ≠ p.g2 → b ≠ p.g3 → wy.heap[b]? = wz.heap[b]? := fun b h1 h2 h3 => by rw [hwy]; exact Below.heap_setCell (wz.drewN nq) ⟨g, 4, none⟩ _ b h1
      have rbwy : Hid (wy.heap[wq.heap.size]? = some (.cells #[.int .i64 0, .slice none 0 0] 49 (0, 0))) := (hbwy _ (by omega) (by omega) (by omega)).trans rb.out
      have rb := rbwy
      have c1 := (World.cell?_of_block (a := ⟨gc, oc + 1, none⟩) (hbwy gc dg d2 d3)).trans c1
      clear hbwy
      obtain ⟨q0, q1, q2, q3, q4⟩ := KY.out.cells
      have SY : Hid (wy.heap.size = wq.heap.size + 1) := by rw [hwy]; exact (show ((wz.drewN nq).setCell ⟨g, 4, none⟩ (.int .i64 (-1))).heap.size = wz.heap.size by simp).trans SZ.out
      clear hwy
      have HRUN := Lib.hid hrun
      clear hrun swq y4
      go_wp2_with fail
      have swq := SQ.out
      have w1s := SY.out
      obtain ⟨r1, hr1⟩ : ∃ r1, r1 = drop1 K.os (ee : Int) := ⟨_, rfl⟩
      have HR1 := Lib.hid hr1
      clear hr1
      have TS : Hid (∀ W, Box2 wq.heap.size 49 wy W → Calls Tryz.prog 130 #[.slice p.A1 p.n1 p.c1, .int .i64 ee] W fun e w' => ∃ A n c, e = .returned (.agg #[.int .i64 r1.1, .slice A n c]) ∧ r1.2.length = n ∧ (A = none → c = 0) ∧ Mine w' (wq.heap.size + 1) w'.heap.size 2 A n (fun k => .int .i64 (gi r1.2 k)) ∧ W.heap.size ≤ w'.heap.size ∧ Box2 wq.heap.size 49 wy w') := fun W h9 => by
        have := specDropSlots_any 0 (wq.heap.size) p.A1 p.n1 p.c1 K.os ee W (by have hl : K.os.length = p.n1 := KY.out.own.l1; omega) KY.out.own.l1 KY.out.own.nil1 ((KY.out.own.m1.sl.wide (Nat.zero_le _) (show p.g1 + 1 ≤ wq.heap.size by omega)).below h9.fst (Nat.le_refl _))
        rw [← HR1.out] at this
        refine this.mono ?_
        rintro e w' ⟨A, n, c, rfl, hl, hn, hm, hb⟩
        exact ⟨A, n, c, rfl, hl, hn, hm.wide (by have := h9.lt; omega) (Nat.le_refl _), hb.size, h9.below hb⟩
      have KS : Hid (∀ W, Box2 wq.heap.size 49 wy W → (W.cell? ⟨g, 0, none⟩ = some (.slice p.A1 p.n1 p.c1) ∧ W.cell? ⟨gc, oc + 1, none⟩ = some (.int .i64 ee) ∧ W.cell? ⟨wq.heap.size, 0, none⟩ = some (cval W ⟨wq.heap.size, 0, none⟩) ∧ W.frozen? ⟨wq.heap.size, 0, none⟩ = false ∧ W.cell? ⟨wq.heap.size, 1, none⟩ = some (cval W ⟨wq.heap.size, 1, none⟩) ∧ W.frozen? ⟨wq.heap.size, 1, none⟩ = false ∧ Box2 wq.heap.size 49 wy W)) := fun W h9 => ⟨(h9.fst.cell (p := ⟨g, 0, none⟩) gl).trans q0, (h9.fst.cell (p := ⟨gc, oc + 1, none⟩) gcl).trans c1, h9.facts.1, h9.facts.2.1, h9.facts.2.2.1, h9.facts.2.2.2, h9⟩
      have PS : Hid (∀ W, (W.cell? ⟨g, 0, none⟩ = some (.slice p.A1 p.n1 p.c1) ∧ W.cell? ⟨gc, oc + 1, none⟩ = some (.int .i64 ee) ∧ W.cell? ⟨wq.heap.size, 0, none⟩ = some (cval W ⟨wq.heap.size, 0, none⟩) ∧ W.frozen? ⟨wq.heap.size, 0, none⟩ = false ∧ W.cell? ⟨wq.heap.size, 1, none⟩ = some (cval W ⟨wq.heap.size, 1, none⟩) ∧ W.frozen? ⟨wq.heap.size, 1, none⟩ = false ∧ Box2 wq.heap.size 49 wy W) → Box2 wq.heap.size 49 wy W) := fun W h9 => h9.2.2.2.2.2.2
      have ST : Hid (∀ W u v, (W.cell? ⟨g, 0, none⟩ = some (.slice p.A1 p.n1 p.c1) ∧ W.cell? ⟨gc, oc + 1, none⟩ = some (.int .i64 ee) ∧ W.cell? ⟨wq.heap.size, 0, none⟩ = some (cval W ⟨wq.heap.size, 0, none⟩) ∧ W.frozen? ⟨wq.heap.size, 0, none⟩ = false ∧ W.cell? ⟨wq.heap.size, 1, none⟩ = some (cval W ⟨wq.heap.size, 1, none⟩) ∧ W.frozen? ⟨wq.heap.size, 1, none⟩ = false ∧ Box2 wq.heap.size 49 wy W) → Box2 wq.heap.size 49 wy ((W.setCell ⟨wq.heap.size, 0, none⟩ u).setCell ⟨wq.heap.size, 1, none⟩ v)) := fun W u v h9 => (PS.out W h9).store u v
      have R0 : Hid (Box2 wq.heap.size 49 wy wy.drew) := ⟨Below.drew (Below.refl _ _), _, _, rb.out⟩
      have SW := Lib.hid swq
      have SW1 := Lib.hid w1s
      clear q0 q1 q2 q3 q4 a0 y0 c0 c1 c2 c3 swq w1s
      go_region_held3 (fun W => W.cell? ⟨g, 0, none⟩ = some (.slice p.A1 p.n1 p.c1) ∧ W.cell? ⟨gc, oc + 1, none⟩ = some (.int .i64 ee) ∧ W.cell? ⟨wq.heap.size, 0, none⟩ = some (cval W ⟨wq.heap.size, 0, none⟩) ∧ W.frozen? ⟨wq.heap.size, 0, none⟩ = false ∧ W.cell? ⟨wq.heap.size, 1, none⟩ = some (cval W ⟨wq.heap.size, 1, none⟩) ∧ W.frozen? ⟨wq.heap.size, 1, none⟩ = false ∧ Box2 wq.heap.size 49 wy W) (first | with_reducible exact KS.out _ (by assumption) | with_reducible exact KS.out _ R0.out | with_reducible exact KS.out _ (ST.out _ _ _ (by assumption))) (first | (go_at_call 130; with_reducible refine (TS.out _ (PS.out _ (by assumption))).mono ?_; rintro e2 w2 ⟨A', n', c', rfl, hl, hnil, hm, hsz, hb9⟩))
      have swq := SW.out
      have w1s := SW1.out
      obtain ⟨w3, hw3⟩ : ∃ w3, w3 = (w2.setCell ⟨wq.heap.size, 0, none⟩ (.int .i64 r1.1)).setCell ⟨wq.heap.size, 1, none⟩ (.slice A' n' c') := ⟨_, rfl⟩
      rw [← hw3]
      have rb3 := hb9.row (.int .i64 r1.1) (.slice A' n' c')
      rw [← hw3] at rb3
      have s3 : w2.heap.size = w3.heap.size := by rw [hw3]; simp
      have hb3 : Below wq.heap.size wy w3 := by rw [hw3]; exact (hb9.store _ _).fst
      have X3 : Kept [wq.heap.size] wy w3 := ⟨hb3.mono (Nat.zero_le _), fun b hb hn => hb3.block b (by simp at hn; omega)⟩
      have K3 := Lib.hid (KY.out.kept X3 (by simp; omega) (by simp; omega) (by simp; omega) (by simp; omega))
      have M3 : Hid (n' ≠ 0 → ∃ g', wq.heap.size < g' ∧ g' < w3.heap.size ∧ Mine w3 g' (g' + 1) 2 A' n' (fun k => .int .i64 (gi r1.2 k))) := fun h0 => by
        obtain ⟨g', z1, z2, z3, z4⟩ := hm.one h0
        have zz := hb9.lt
        exact ⟨g', by have := w1s; omega, by omega, by rw [hw3]; exact ((z4.keep fun b hb1 hb2 => Below.heap_setCell w2 ⟨wq.heap.size, 0, none⟩ _ b (by have := w1s; simp; omega)).keep fun b hb1 hb2 => Below.heap_setCell _ ⟨wq.heap.size, 1, none⟩ _ b (by have := w1s; simp; omega))⟩
      have e0 := cell_of_row w3 _ 0 _ _ _ rb3
      have e1 := cell_of_row w3 _ 1 _ _ _ rb3
      simp at e0 e1
      obtain ⟨q0, q1, q2, q3, q4⟩ := K3.out.cells
      have f0 := frozen_of_row w3 g 0 _ _ K3.out.box
      have XW : Hid (Kept [g, p.g2, p.g3] w w3) := (Xwy.out.mono (by simp)).trans' X3 (fun x hx hl => by simp at hx; omega)
      have HL := Lib.hid hl; have HN := Lib.hid hnil
      clear hw3 rb3 hb3 X3 hm hb9 hl hnil TS KS PS ST R0
      by_cases hq : r1.1 = 0
      · have hqa : (r1.1 != 0) = false := by simp [hq]
        have HC : Hid (call3 K 2 ee s t = (0, { { K with al := K.al.set ee false, ac := zac K.ac ee, run := -1 } with os := r1.2 })) := by show _ = _; rw [show call3 K 2 ee s t = (0, { K with os := (drop1 K.os (ee : Int)).2, al := K.al.set ee false, ac := zac K.ac ee, run := if K.run = (ee : Int) then -1 else K.run }) by unfold call3; rw [if_neg (by omega), hto, if_neg (by simp [ha]), if_pos rfl], ← HR1.out, if_pos HRUN.out]
        have n0 : n' ≠ 0 := by
          have := LEN r1 HR1.out hq
          rw [HL.out] at this
          omega
        obtain ⟨g', z1, z2, z3⟩ := M3.out n0
        have Z3 := Lib.hid z3
        clear z3 M3 swq w1s s3
        go_wp2
        go_ret
        have swq := SW.out
        have w1s := SW1.out
        rw [HC.out]
        first
          | exact ⟨p.withOwners A' n' c' g', rfl, K3.out.setOwners HL.out HN.out Z3.out (by omega) (by omega) (by omega), .inr ⟨by show w.heap.size ≤ g'; omega, by show g' < _; simp; omega⟩, rfl, rfl, XW.out.setCell (p := ⟨g, 0, none⟩) (by simp) _⟩
          | exact ⟨rfl, p.withOwners A' n' c' g', K3.out.setOwners HL.out HN.out Z3.out (by omega) (by omega) (by omega), .inr ⟨by show w.heap.size ≤ g'; omega, by show g' < _; simp; omega⟩, rfl, rfl, XW.out.setCell (p := ⟨g, 0, none⟩) (by simp) _⟩
      · exact absurd (ZERO r1 HR1.out) hq
    · have hra : (K.run == (ee : Int)) = false := by simp [hrun]
      have HRUN := Lib.hid hrun
      clear hrun swq w1s
      go_wp2_with fail
      go_quiet (fail)
      have swq := SQ.out
      obtain ⟨wy, hwy⟩ : ∃ wy, wy = wz.drewN nq := ⟨_, rfl⟩
      rw [← hwy]
      have KY : Hid (KB wy g p { K with al := K.al.set ee false, ac := zac K.ac ee }) := by rw [hwy]; exact KZZ.out.kept ((Kept.refl [] wz).drewN nq) (by simp) (by simp) (by simp) (by simp)
      have Xwy : Hid (Kept [g, p.g2, p.g3] w wy) := by rw [hwy]; exact Xwz.out.drewN nq
      have hbwy : ∀ b, b ≠ g → b ≠ p.g2 → b ≠ p.g3 → wy.heap[b]? = wz.heap[b]? := fun b h1 h2 h3 => by rw [hwy]; exact rfl
      have rbwy : Hid (wy.heap[wq.heap.size]? = some (.cells #[.int .i64 0, .slice none 0 0] 49 (0, 0))) := (hbwy _ (by omega) (by omega) (by omega)).trans rb.out
      have rb := rbwy
      have c1 := (World.cell?_of_block (a := ⟨gc, oc + 1, none⟩) (hbwy gc dg d2 d3)).trans c1
      clear hbwy
      obtain ⟨q0, q1, q2, q3, q4⟩ := KY.out.cells
      have SY : Hid (wy.heap.size = wq.heap.size + 1) := by rw [hwy]; exact SZ.out
      clear hwy hra swq y4
      go_wp2_with fail
      have swq := SQ.out
      have w1s := SY.out
      obtain ⟨r1, hr1⟩ : ∃ r1, r1 = drop1 K.os (ee : Int) := ⟨_, rfl⟩
      have HR1 := Lib.hid hr1
      clear hr1
      have TS : Hid (∀ W, Box2 wq.heap.size 49 wy W → Calls Tryz.prog 130 #[.slice p.A1 p.n1 p.c1, .int .i64 ee] W fun e w' => ∃ A n c, e = .returned (.agg #[.int .i64 r1.1, .slice A n c]) ∧ r1.2.length = n ∧ (A = none → c = 0) ∧ Mine w' (wq.heap.size + 1) w'.heap.size 2 A n (fun k => .int .i64 (gi r1.2 k)) ∧ W.heap.size ≤ w'.heap.size ∧ Box2 wq.heap.size 49 wy w') := fun W h9 => by
        have := specDropSlots_any 0 (wq.heap.size) p.A1 p.n1 p.c1 K.os ee W (by have hl : K.os.length = p.n1 := KY.out.own.l1; omega) KY.out.own.l1 KY.out.own.nil1 ((KY.out.own.m1.sl.wide (Nat.zero_le _) (show p.g1 + 1 ≤ wq.heap.size by omega)).below h9.fst (Nat.le_refl _))
        rw [← HR1.out] at this
        refine this.mono ?_
        rintro e w' ⟨A, n, c, rfl, hl, hn, hm, hb⟩
        exact ⟨A, n, c, rfl, hl, hn, hm.wide (by have := h9.lt; omega) (Nat.le_refl _), hb.size, h9.below hb⟩
      have KS : Hid (∀ W, Box2 wq.heap.size 49 wy W → (W.cell? ⟨g, 0, none⟩ = some (.slice p.A1 p.n1 p.c1) ∧ W.cell? ⟨gc, oc + 1, none⟩ = some (.int .i64 ee) ∧ W.cell? ⟨wq.heap.size, 0, none⟩ = some (cval W ⟨wq.heap.size, 0, none⟩) ∧ W.frozen? ⟨wq.heap.size, 0, none⟩ = false ∧ W.cell? ⟨wq.heap.size, 1, none⟩ = some (cval W ⟨wq.heap.size, 1, none⟩) ∧ W.frozen? ⟨wq.heap.size, 1, none⟩ = false ∧ Box2 wq.heap.size 49 wy W)) := fun W h9 => ⟨(h9.fst.cell (p := ⟨g, 0, none⟩) gl).trans q0, (h9.fst.cell (p := ⟨gc, oc + 1, none⟩) gcl).trans c1, h9.facts.1, h9.facts.2.1, h9.facts.2.2.1, h9.facts.2.2.2, h9⟩
      have PS : Hid (∀ W, (W.cell? ⟨g, 0, none⟩ = some (.slice p.A1 p.n1 p.c1) ∧ W.cell? ⟨gc, oc + 1, none⟩ = some (.int .i64 ee) ∧ W.cell? ⟨wq.heap.size, 0, none⟩ = some (cval W ⟨wq.heap.size, 0, none⟩) ∧ W.frozen? ⟨wq.heap.size, 0, none⟩ = false ∧ W.cell? ⟨wq.heap.size, 1, none⟩ = some (cval W ⟨wq.heap.size, 1, none⟩) ∧ W.frozen? ⟨wq.heap.size, 1, none⟩ = false ∧ Box2 wq.heap.size 49 wy W) → Box2 wq.heap.size 49 wy W) := fun W h9 => h9.2.2.2.2.2.2
      have ST : Hid (∀ W u v, (W.cell? ⟨g, 0, none⟩ = some (.slice p.A1 p.n1 p.c1) ∧ W.cell? ⟨gc, oc + 1, none⟩ = some (.int .i64 ee) ∧ W.cell? ⟨wq.heap.size, 0, none⟩ = some (cval W ⟨wq.heap.size, 0, none⟩) ∧ W.frozen? ⟨wq.heap.size, 0, none⟩ = false ∧ W.cell? ⟨wq.heap.size, 1, none⟩ = some (cval W ⟨wq.heap.size, 1, none⟩) ∧ W.frozen? ⟨wq.heap.size, 1, none⟩ = false ∧ Box2 wq.heap.size 49 wy W) → Box2 wq.heap.size 49 wy ((W.setCell ⟨wq.heap.size, 0, none⟩ u).setCell ⟨wq.heap.size, 1, none⟩ v)) := fun W u v h9 => (PS.out W h9).store u v
      have R0 : Hid (Box2 wq.heap.size 49 wy wy.drew) := ⟨Below.drew (Below.refl _ _), _, _, rb.out⟩
      have SW := Lib.hid swq
      have SW1 := Lib.hid w1s
      clear q0 q1 q2 q3 q4 a0 y0 c0 c1 c2 c3 swq w1s
      go_region_held3 (fun W => W.cell? ⟨g, 0, none⟩ = some (.slice p.A1 p.n1 p.c1) ∧ W.cell? ⟨gc, oc + 1, none⟩ = some (.int .i64 ee) ∧ W.cell? ⟨wq.heap.size, 0, none⟩ = some (cval W ⟨wq.heap.size, 0, none⟩) ∧ W.frozen? ⟨wq.heap.size, 0, none⟩ = false ∧ W.cell? ⟨wq.heap.size, 1, none⟩ = some (cval W ⟨wq.heap.size, 1, none⟩) ∧ W.frozen? ⟨wq.heap.size, 1, none⟩ = false ∧ Box2 wq.heap.size 49 wy W) (first | with_reducible exact KS.out _ (by assumption) | with_reducible exact KS.out _ R0.out | with_reducible exact KS.out _ (ST.out _ _ _ (by assumption))) (first | (go_at_call 130; with_reducible refine (TS.out _ (PS.out _ (by assumption))).mono ?_; rintro e2 w2 ⟨A', n', c', rfl, hl, hnil, hm, hsz, hb9⟩))
      have swq := SW.out
      have w1s := SW1.out
      obtain ⟨w3, hw3⟩ : ∃ w3, w3 = (w2.setCell ⟨wq.heap.size, 0, none⟩ (.int .i64 r1.1)).setCell ⟨wq.heap.size, 1, none⟩ (.slice A' n' c') := ⟨_, rfl⟩
      rw [← hw3]
      have rb3 := hb9.row (.int .i64 r1.1) (.slice A' n' c')
      rw [← hw3] at rb3
      have s3 : w2.heap.size = w3.heap.size := by rw [hw3]; simp
      have hb3 : Below wq.heap.size wy w3 := by rw [hw3]; exact (hb9.store _ _).fst
      have X3 : Kept [wq.heap.size] wy w3 := ⟨hb3.mono (Nat.zero_le _), fun b hb hn => hb3.block b (by simp at hn; omega)⟩
      have K3 := Lib.hid (KY.out.kept X3 (by simp; omega) (by simp; omega) (by simp; omega) (by simp; omega))
      have M3 : Hid (n' ≠ 0 → ∃ g', wq.heap.size < g' ∧ g' < w3.heap.size ∧ Mine w3 g' (g' + 1) 2 A' n' (fun k => .int .i64 (gi r1.2 k))) := fun h0 => by
        obtain ⟨g', z1, z2, z3, z4⟩ := hm.one h0
        have zz := hb9.lt
        exact ⟨g', by have := w1s; omega, by omega, by rw [hw3]; exact ((z4.keep fun b hb1 hb2 => Below.heap_setCell w2 ⟨wq.heap.size, 0, none⟩ _ b (by have := w1s; simp; omega)).keep fun b hb1 hb2 => Below.heap_setCell _ ⟨wq.heap.size, 1, none⟩ _ b (by have := w1s; simp; omega))⟩
      have e0 := cell_of_row w3 _ 0 _ _ _ rb3
      have e1 := cell_of_row w3 _ 1 _ _ _ rb3
      simp at e0 e1
      obtain ⟨q0, q1, q2, q3, q4⟩ := K3.out.cells
      have f0 := frozen_of_row w3 g 0 _ _ K3.out.box
      have XW : Hid (Kept [g, p.g2, p.g3] w w3) := (Xwy.out.mono (by simp)).trans' X3 (fun x hx hl => by simp at hx; omega)
      have HL := Lib.hid hl; have HN := Lib.hid hnil
      clear hw3 rb3 hb3 X3 hm hb9 hl hnil TS KS PS ST R0
      by_cases hq : r1.1 = 0
      · have hqa : (r1.1 != 0) = false := by simp [hq]
        have HC : Hid (call3 K 2 ee s t = (0, { { K with al := K.al.set ee false, ac := zac K.ac ee } with os := r1.2 })) := by show _ = _; rw [show call3 K 2 ee s t = (0, { K with os := (drop1 K.os (ee : Int)).2, al := K.al.set ee false, ac := zac K.ac ee, run := if K.run = (ee : Int) then -1 else K.run }) by unfold call3; rw [if_neg (by omega), hto, if_neg (by simp [ha]), if_pos rfl], ← HR1.out, if_neg HRUN.out]
        have n0 : n' ≠ 0 := by
          have := LEN r1 HR1.out hq
          rw [HL.out] at this
          omega
        obtain ⟨g', z1, z2, z3⟩ := M3.out n0
        have Z3 := Lib.hid z3
        clear z3 M3 swq w1s s3
        go_wp2
        go_ret
        have swq := SW.out
        have w1s := SW1.out
        rw [HC.out]
        first
          | exact ⟨p.withOwners A' n' c' g', rfl, K3.out.setOwners HL.out HN.out Z3.out (by omega) (by omega) (by omega), .inr ⟨by show w.heap.size ≤ g'; omega, by show g' < _; simp; omega⟩, rfl, rfl, XW.out.setCell (p := ⟨g, 0, none⟩) (by simp) _⟩
          | exact ⟨rfl, p.withOwners A' n' c' g', K3.out.setOwners HL.out HN.out Z3.out (by omega) (by omega) (by omega), .inr ⟨by show w.heap.size ≤ g'; omega, by show g' < _; simp; omega⟩, rfl, rfl, XW.out.setCell (p := ⟨g, 0, none⟩) (by simp) _⟩
      · exact absurd (ZERO r1 HR1.out) hq
  · go_enter Tryz.func87, Tryz.ntmps87
    go_wp2_with fail
    go_quiet (fail)
    obtain ⟨wq, hwq⟩ : ∃ wq, wq = w.drewN nq := ⟨_, rfl⟩
    rw [← hwq]
    have Xwq : Kept [] w wq := by rw [hwq]; exact (Kept.refl [] w).drewN nq
    have SQ : Hid (wq.heap.size = w.heap.size) := by rw [hwq]; rfl
    clear hwq
    go_upto_region 9 with (fail)
    have swq := SQ.out
    obtain ⟨w1, hw1⟩ : ∃ w1, w1 = wq.alloc (.cells #[.int .i64 0, .slice none 0 0] 49) := ⟨_, rfl⟩
    rw [← hw1]
    have Xq : Kept [] w w1 := by rw [hw1]; exact Xwq.alloc _
    have rb : Hid (w1.heap[wq.heap.size]? = some (.cells #[.int .i64 0, .slice none 0 0] 49 (0, 0))) := by rw [hw1]; exact heap_alloc_new wq _
    have w1s : w1.heap.size = wq.heap.size + 1 := by rw [hw1]; simp
    clear hw1
    have Kw1 := Lib.hid (HK.out.kept Xq (by simp) (by simp) (by simp) (by simp))
    have hbw1 : ∀ b, b < w.heap.size → w1.heap[b]? = w.heap[b]? := fun b hb => Xq.2 b hb (by simp)
    have gl : g < wq.heap.size := by omega
    have gcl : gc < wq.heap.size := by omega
    have c0 := (World.cell?_of_block (a := ⟨gc, oc, none⟩) (hbw1 gc (by omega))).trans c0
    have c1 := (World.cell?_of_block (a := ⟨gc, oc + 1, none⟩) (hbw1 gc (by omega))).trans c1
    have c2 := (World.cell?_of_block (a := ⟨gc, oc + 2, none⟩) (hbw1 gc (by omega))).trans c2
    have c3 := (World.cell?_of_block (a := ⟨gc, oc + 3, none⟩) (hbw1 gc (by omega))).trans c3
    obtain ⟨q0, q1, q2, q3, q4⟩ := Kw1.out.cells
    rw [hA2] at q1
    have a0 := (World.cell?_of_block (a := ⟨p.g2, o2 + ee, none⟩) (hbw1 p.g2 HR2.out.lt)).trans a0
    have y0 : w1.frozen? ⟨p.g2, o2 + ee, none⟩ = false := (HR2.out.keep (hbw1 p.g2 HR2.out.lt)).frozen _
    clear hbw1 swq
    have SQ1 := Lib.hid w1s
    clear w1s
    go_wp2_with fail
    have swq := SQ.out
    have w1s := SQ1.out
    have LEN : ∀ r1, r1 = take1 K.os (ee : Int) s → r1.1 = 0 → 1 ≤ r1.2.length := fun r1 e h => by subst e; have := take1_same h; omega
    obtain ⟨r1, hr1⟩ : ∃ r1, r1 = take1 K.os (ee : Int) s := ⟨_, rfl⟩
    have HR1 := Lib.hid hr1
    clear hr1
    have TS : Hid (∀ W, Box2 wq.heap.size 49 w1 W → Calls Tryz.prog 131 #[.slice p.A1 p.n1 p.c1, .int .i64 ee, .int .i64 s] W fun e w' => ∃ A n c, e = .returned (.agg #[.int .i64 r1.1, .slice A n c]) ∧ r1.2.length = n ∧ (A = none → c = 0) ∧ Mine w' (wq.heap.size + 1) w'.heap.size 2 A n (fun k => .int .i64 (gi r1.2 k)) ∧ W.heap.size ≤ w'.heap.size ∧ Box2 wq.heap.size 49 w1 w') := fun W h9 => by
      have := specTakeSlot_any 0 (wq.heap.size) p.A1 p.n1 p.c1 K.os ee s W (by have hl : K.os.length = p.n1 := Kw1.out.own.l1; omega) Kw1.out.own.l1 Kw1.out.own.nil1 ((Kw1.out.own.m1.sl.wide (Nat.zero_le _) (show p.g1 + 1 ≤ wq.heap.size by omega)).below h9.fst (Nat.le_refl _))
      rw [← HR1.out] at this
      refine this.mono ?_
      rintro e w' ⟨A, n, c, rfl, hl, hn, hm, hb⟩
      exact ⟨A, n, c, rfl, hl, hn, hm.wide (by have := h9.lt; omega) (Nat.le_refl _), hb.size, h9.below hb⟩
    have KS : Hid (∀ W, Box2 wq.heap.size 49 w1 W → (W.cell? ⟨g, 0, none⟩ = some (.slice p.A1 p.n1 p.c1) ∧ W.cell? ⟨gc, oc + 1, none⟩ = some (.int .i64 ee) ∧ W.cell? ⟨gc, oc + 2, none⟩ = some (.int .i64 s) ∧ W.cell? ⟨wq.heap.size, 0, none⟩ = some (cval W ⟨wq.heap.size, 0, none⟩) ∧ W.frozen? ⟨wq.heap.size, 0, none⟩ = false ∧ W.cell? ⟨wq.heap.size, 1, none⟩ = some (cval W ⟨wq.heap.size, 1, none⟩) ∧ W.frozen? ⟨wq.heap.size, 1, none⟩ = false ∧ Box2 wq.heap.size 49 w1 W)) := fun W h9 => ⟨(h9.fst.cell (p := ⟨g, 0, none⟩) gl).trans q0, (h9.fst.cell (p := ⟨gc, oc + 1, none⟩) gcl).trans c1, (h9.fst.cell (p := ⟨gc, oc + 2, none⟩) gcl).trans c2, h9.facts.1, h9.facts.2.1, h9.facts.2.2.1, h9.facts.2.2.2, h9⟩
    have PS : Hid (∀ W, (W.cell? ⟨g, 0, none⟩ = some (.slice p.A1 p.n1 p.c1) ∧ W.cell? ⟨gc, oc + 1, none⟩ = some (.int .i64 ee) ∧ W.cell? ⟨gc, oc + 2, none⟩ = some (.int .i64 s) ∧ W.cell? ⟨wq.heap.size, 0, none⟩ = some (cval W ⟨wq.heap.size, 0, none⟩) ∧ W.frozen? ⟨wq.heap.size, 0, none⟩ = false ∧ W.cell? ⟨wq.heap.size, 1, none⟩ = some (cval W ⟨wq.heap.size, 1, none⟩) ∧ W.frozen? ⟨wq.heap.size, 1, none⟩ = false ∧ Box2 wq.heap.size 49 w1 W) → Box2 wq.heap.size 49 w1 W) := fun W h9 => h9.2.2.2.2.2.2.2
    have ST : Hid (∀ W u v, (W.cell? ⟨g, 0, none⟩ = some (.slice p.A1 p.n1 p.c1) ∧ W.cell? ⟨gc, oc + 1, none⟩ = some (.int .i64 ee) ∧ W.cell? ⟨gc, oc + 2, none⟩ = some (.int .i64 s) ∧ W.cell? ⟨wq.heap.size, 0, none⟩ = some (cval W ⟨wq.heap.size, 0, none⟩) ∧ W.frozen? ⟨wq.heap.size, 0, none⟩ = false ∧ W.cell? ⟨wq.heap.size, 1, none⟩ = some (cval W ⟨wq.heap.size, 1, none⟩) ∧ W.frozen? ⟨wq.heap.size, 1, none⟩ = false ∧ Box2 wq.heap.size 49 w1 W) → Box2 wq.heap.size 49 w1 ((W.setCell ⟨wq.heap.size, 0, none⟩ u).setCell ⟨wq.heap.size, 1, none⟩ v)) := fun W u v h9 => (PS.out W h9).store u v
    have R0 : Hid (Box2 wq.heap.size 49 w1 w1.drew) := ⟨Below.drew (Below.refl _ _), _, _, rb.out⟩
    have SW := Lib.hid swq
    have SW1 := Lib.hid w1s
    clear q0 q1 q2 q3 q4 a0 y0 c0 c1 c2 c3 swq w1s
    go_region_held3 (fun W => W.cell? ⟨g, 0, none⟩ = some (.slice p.A1 p.n1 p.c1) ∧ W.cell? ⟨gc, oc + 1, none⟩ = some (.int .i64 ee) ∧ W.cell? ⟨gc, oc + 2, none⟩ = some (.int .i64 s) ∧ W.cell? ⟨wq.heap.size, 0, none⟩ = some (cval W ⟨wq.heap.size, 0, none⟩) ∧ W.frozen? ⟨wq.heap.size, 0, none⟩ = false ∧ W.cell? ⟨wq.heap.size, 1, none⟩ = some (cval W ⟨wq.heap.size, 1, none⟩) ∧ W.frozen? ⟨wq.heap.size, 1, none⟩ = false ∧ Box2 wq.heap.size 49 w1 W) (first | with_reducible exact KS.out _ (by assumption) | with_reducible exact KS.out _ R0.out | with_reducible exact KS.out _ (ST.out _ _ _ (by assumption))) (first | (go_at_call 131; with_reducible refine (TS.out _ (PS.out _ (by assumption))).mono ?_; rintro e2 w2 ⟨A', n', c', rfl, hl, hnil, hm, hsz, hb9⟩))
    have swq := SW.out
    have w1s := SW1.out
    obtain ⟨w3, hw3⟩ : ∃ w3, w3 = (w2.setCell ⟨wq.heap.size, 0, none⟩ (.int .i64 r1.1)).setCell ⟨wq.heap.size, 1, none⟩ (.slice A' n' c') := ⟨_, rfl⟩
    rw [← hw3]
    have rb3 := hb9.row (.int .i64 r1.1) (.slice A' n' c')
    rw [← hw3] at rb3
    have s3 : w2.heap.size = w3.heap.size := by rw [hw3]; simp
    have hb3 : Below wq.heap.size w1 w3 := by rw [hw3]; exact (hb9.store _ _).fst
    have X3 : Kept [wq.heap.size] w1 w3 := ⟨hb3.mono (Nat.zero_le _), fun b hb hn => hb3.block b (by simp at hn; omega)⟩
    have K3 := Lib.hid (Kw1.out.kept X3 (by simp; omega) (by simp; omega) (by simp; omega) (by simp; omega))
    have M3 : Hid (n' ≠ 0 → ∃ g', wq.heap.size < g' ∧ g' < w3.heap.size ∧ Mine w3 g' (g' + 1) 2 A' n' (fun k => .int .i64 (gi r1.2 k))) := fun h0 => by
      obtain ⟨g', z1, z2, z3, z4⟩ := hm.one h0
      have zz := hb9.lt
      exact ⟨g', by have := w1s; omega, by omega, by rw [hw3]; exact ((z4.keep fun b hb1 hb2 => Below.heap_setCell w2 ⟨wq.heap.size, 0, none⟩ _ b (by have := w1s; simp; omega)).keep fun b hb1 hb2 => Below.heap_setCell _ ⟨wq.heap.size, 1, none⟩ _ b (by have := w1s; simp; omega))⟩
    have e0 := cell_of_row w3 _ 0 _ _ _ rb3
    have e1 := cell_of_row w3 _ 1 _ _ _ rb3
    simp at e0 e1
    obtain ⟨q0, q1, q2, q3, q4⟩ := K3.out.cells
    have f0 := frozen_of_row w3 g 0 _ _ K3.out.box
    have XW : Hid (Kept [g, p.g2, p.g3] w w3) := (Xq.mono (by simp)).trans' X3 (fun x hx hl => by simp at hx; omega)
    have HL := Lib.hid hl; have HN := Lib.hid hnil
    clear hw3 rb3 hb3 X3 hm hb9 hl hnil TS KS PS ST R0
    by_cases hq : r1.1 = 0
    · have hqa : (r1.1 != 0) = false := by simp [hq]
      have HC : Hid (call3 K 3 ee s t = (0, { K with os := r1.2 })) := by show _ = _; rw [show call3 K 3 ee s t = lists K (take1 K.os (ee : Int) s) by unfold call3; rw [if_neg (by omega), hto, if_neg (by simp [ha])]; simp, ← HR1.out]; unfold lists; rw [if_neg (by simp [hq])]
      have n0 : n' ≠ 0 := by
        have := LEN r1 HR1.out hq
        rw [HL.out] at this
        omega
      obtain ⟨g', z1, z2, z3⟩ := M3.out n0
      have Z3 := Lib.hid z3
      clear z3 M3 swq w1s s3
      go_wp2
      go_ret
      have swq := SW.out
      have w1s := SW1.out
      rw [HC.out]
      first
        | exact ⟨p.withOwners A' n' c' g', rfl, K3.out.setOwners HL.out HN.out Z3.out (by omega) (by omega) (by omega), .inr ⟨by show w.heap.size ≤ g'; omega, by show g' < _; simp; omega⟩, rfl, rfl, XW.out.setCell (p := ⟨g, 0, none⟩) (by simp) _⟩
        | exact ⟨rfl, p.withOwners A' n' c' g', K3.out.setOwners HL.out HN.out Z3.out (by omega) (by omega) (by omega), .inr ⟨by show w.heap.size ≤ g'; omega, by show g' < _; simp; omega⟩, rfl, rfl, XW.out.setCell (p := ⟨g, 0, none⟩) (by simp) _⟩
    · have hqa : (r1.1 != 0) = true := by simp [hq]
      have HC : Hid (call3 K 3 ee s t = (r1.1, K)) := by show _ = _; rw [show call3 K 3 ee s t = lists K (take1 K.os (ee : Int) s) by unfold call3; rw [if_neg (by omega), hto, if_neg (by simp [ha])]; simp, ← HR1.out]; unfold lists; rw [if_pos hq]
      clear hq swq w1s s3 M3
      go_wp2
      go_ret
      rw [HC.out]
      exact ⟨p, rfl, K3.out, .inl rfl, rfl, rfl, XW.out⟩
  · go_enter Tryz.func87, Tryz.ntmps87
    go_wp2_with fail
    go_quiet (fail)
    obtain ⟨wq, hwq⟩ : ∃ wq, wq = w.drewN nq := ⟨_, rfl⟩
    rw [← hwq]
    have Xwq : Kept [] w wq := by rw [hwq]; exact (Kept.refl [] w).drewN nq
    have SQ : Hid (wq.heap.size = w.heap.size) := by rw [hwq]; rfl
    clear hwq
    go_upto_region 9 with (fail)
    have swq := SQ.out
    obtain ⟨w1, hw1⟩ : ∃ w1, w1 = wq.alloc (.cells #[.int .i64 0, .slice none 0 0] 49) := ⟨_, rfl⟩
    rw [← hw1]
    have Xq : Kept [] w w1 := by rw [hw1]; exact Xwq.alloc _
    have rb : Hid (w1.heap[wq.heap.size]? = some (.cells #[.int .i64 0, .slice none 0 0] 49 (0, 0))) := by rw [hw1]; exact heap_alloc_new wq _
    have w1s : w1.heap.size = wq.heap.size + 1 := by rw [hw1]; simp
    clear hw1
    have Kw1 := Lib.hid (HK.out.kept Xq (by simp) (by simp) (by simp) (by simp))
    have hbw1 : ∀ b, b < w.heap.size → w1.heap[b]? = w.heap[b]? := fun b hb => Xq.2 b hb (by simp)
    have gl : g < wq.heap.size := by omega
    have gcl : gc < wq.heap.size := by omega
    have c0 := (World.cell?_of_block (a := ⟨gc, oc, none⟩) (hbw1 gc (by omega))).trans c0
    have c1 := (World.cell?_of_block (a := ⟨gc, oc + 1, none⟩) (hbw1 gc (by omega))).trans c1
    have c2 := (World.cell?_of_block (a := ⟨gc, oc + 2, none⟩) (hbw1 gc (by omega))).trans c2
    have c3 := (World.cell?_of_block (a := ⟨gc, oc + 3, none⟩) (hbw1 gc (by omega))).trans c3
    obtain ⟨q0, q1, q2, q3, q4⟩ := Kw1.out.cells
    rw [hA2] at q1
    have a0 := (World.cell?_of_block (a := ⟨p.g2, o2 + ee, none⟩) (hbw1 p.g2 HR2.out.lt)).trans a0
    have y0 : w1.frozen? ⟨p.g2, o2 + ee, none⟩ = false := (HR2.out.keep (hbw1 p.g2 HR2.out.lt)).frozen _
    clear hbw1 swq
    have SQ1 := Lib.hid w1s
    clear w1s
    go_wp2_with fail
    have swq := SQ.out
    have w1s := SQ1.out
    have LEN : ∀ r1, r1 = free1 K.os (ee : Int) s → r1.1 = 0 → 1 ≤ r1.2.length := fun r1 e h => by subst e; have := free1_same h; omega
    obtain ⟨r1, hr1⟩ : ∃ r1, r1 = free1 K.os (ee : Int) s := ⟨_, rfl⟩
    have HR1 := Lib.hid hr1
    clear hr1
    have TS : Hid (∀ W, Box2 wq.heap.size 49 w1 W → Calls Tryz.prog 132 #[.slice p.A1 p.n1 p.c1, .int .i64 ee, .int .i64 s] W fun e w' => ∃ A n c, e = .returned (.agg #[.int .i64 r1.1, .slice A n c]) ∧ r1.2.length = n ∧ (A = none → c = 0) ∧ Mine w' (wq.heap.size + 1) w'.heap.size 2 A n (fun k => .int .i64 (gi r1.2 k)) ∧ W.heap.size ≤ w'.heap.size ∧ Box2 wq.heap.size 49 w1 w') := fun W h9 => by
      have := specFreeSlot_any 0 (wq.heap.size) p.A1 p.n1 p.c1 K.os ee s W (by have hl : K.os.length = p.n1 := Kw1.out.own.l1; omega) Kw1.out.own.l1 Kw1.out.own.nil1 ((Kw1.out.own.m1.sl.wide (Nat.zero_le _) (show p.g1 + 1 ≤ wq.heap.size by omega)).below h9.fst (Nat.le_refl _))
      rw [← HR1.out] at this
      refine this.mono ?_
      rintro e w' ⟨A, n, c, rfl, hl, hn, hm, hb⟩
      exact ⟨A, n, c, rfl, hl, hn, hm.wide (by have := h9.lt; omega) (Nat.le_refl _), hb.size, h9.below hb⟩
    have KS : Hid (∀ W, Box2 wq.heap.size 49 w1 W → (W.cell? ⟨g, 0, none⟩ = some (.slice p.A1 p.n1 p.c1) ∧ W.cell? ⟨gc, oc + 1, none⟩ = some (.int .i64 ee) ∧ W.cell? ⟨gc, oc + 2, none⟩ = some (.int .i64 s) ∧ W.cell? ⟨wq.heap.size, 0, none⟩ = some (cval W ⟨wq.heap.size, 0, none⟩) ∧ W.frozen? ⟨wq.heap.size, 0, none⟩ = false ∧ W.cell? ⟨wq.heap.size, 1, none⟩ = some (cval W ⟨wq.heap.size, 1, none⟩) ∧ W.frozen? ⟨wq.heap.size, 1, none⟩ = false ∧ Box2 wq.heap.size 49 w1 W)) := fun W h9 => ⟨(h9.fst.cell (p := ⟨g, 0, none⟩) gl).trans q0, (h9.fst.cell (p := ⟨gc, oc + 1, none⟩) gcl).trans c1, (h9.fst.cell (p := ⟨gc, oc + 2, none⟩) gcl).trans c2, h9.facts.1, h9.facts.2.1, h9.facts.2.2.1, h9.facts.2.2.2, h9⟩
    have PS : Hid (∀ W, (W.cell? ⟨g, 0, none⟩ = some (.slice p.A1 p.n1 p.c1) ∧ W.cell? ⟨gc, oc + 1, none⟩ = some (.int .i64 ee) ∧ W.cell? ⟨gc, oc + 2, none⟩ = some (.int .i64 s) ∧ W.cell? ⟨wq.heap.size, 0, none⟩ = some (cval W ⟨wq.heap.size, 0, none⟩) ∧ W.frozen? ⟨wq.heap.size, 0, none⟩ = false ∧ W.cell? ⟨wq.heap.size, 1, none⟩ = some (cval W ⟨wq.heap.size, 1, none⟩) ∧ W.frozen? ⟨wq.heap.size, 1, none⟩ = false ∧ Box2 wq.heap.size 49 w1 W) → Box2 wq.heap.size 49 w1 W) := fun W h9 => h9.2.2.2.2.2.2.2
    have ST : Hid (∀ W u v, (W.cell? ⟨g, 0, none⟩ = some (.slice p.A1 p.n1 p.c1) ∧ W.cell? ⟨gc, oc + 1, none⟩ = some (.int .i64 ee) ∧ W.cell? ⟨gc, oc + 2, none⟩ = some (.int .i64 s) ∧ W.cell? ⟨wq.heap.size, 0, none⟩ = some (cval W ⟨wq.heap.size, 0, none⟩) ∧ W.frozen? ⟨wq.heap.size, 0, none⟩ = false ∧ W.cell? ⟨wq.heap.size, 1, none⟩ = some (cval W ⟨wq.heap.size, 1, none⟩) ∧ W.frozen? ⟨wq.heap.size, 1, none⟩ = false ∧ Box2 wq.heap.size 49 w1 W) → Box2 wq.heap.size 49 w1 ((W.setCell ⟨wq.heap.size, 0, none⟩ u).setCell ⟨wq.heap.size, 1, none⟩ v)) := fun W u v h9 => (PS.out W h9).store u v
    have R0 : Hid (Box2 wq.heap.size 49 w1 w1.drew) := ⟨Below.drew (Below.refl _ _), _, _, rb.out⟩
    have SW := Lib.hid swq
    have SW1 := Lib.hid w1s
    clear q0 q1 q2 q3 q4 a0 y0 c0 c1 c2 c3 swq w1s
    go_region_held3 (fun W => W.cell? ⟨g, 0, none⟩ = some (.slice p.A1 p.n1 p.c1) ∧ W.cell? ⟨gc, oc + 1, none⟩ = some (.int .i64 ee) ∧ W.cell? ⟨gc, oc + 2, none⟩ = some (.int .i64 s) ∧ W.cell? ⟨wq.heap.size, 0, none⟩ = some (cval W ⟨wq.heap.size, 0, none⟩) ∧ W.frozen? ⟨wq.heap.size, 0, none⟩ = false ∧ W.cell? ⟨wq.heap.size, 1, none⟩ = some (cval W ⟨wq.heap.size, 1, none⟩) ∧ W.frozen? ⟨wq.heap.size, 1, none⟩ = false ∧ Box2 wq.heap.size 49 w1 W) (first | with_reducible exact KS.out _ (by assumption) | with_reducible exact KS.out _ R0.out | with_reducible exact KS.out _ (ST.out _ _ _ (by assumption))) (first | (go_at_call 132; with_reducible refine (TS.out _ (PS.out _ (by assumption))).mono ?_; rintro e2 w2 ⟨A', n', c', rfl, hl, hnil, hm, hsz, hb9⟩))
    have swq := SW.out
    have w1s := SW1.out
    obtain ⟨w3, hw3⟩ : ∃ w3, w3 = (w2.setCell ⟨wq.heap.size, 0, none⟩ (.int .i64 r1.1)).setCell ⟨wq.heap.size, 1, none⟩ (.slice A' n' c') := ⟨_, rfl⟩
    rw [← hw3]
    have rb3 := hb9.row (.int .i64 r1.1) (.slice A' n' c')
    rw [← hw3] at rb3
    have s3 : w2.heap.size = w3.heap.size := by rw [hw3]; simp
    have hb3 : Below wq.heap.size w1 w3 := by rw [hw3]; exact (hb9.store _ _).fst
    have X3 : Kept [wq.heap.size] w1 w3 := ⟨hb3.mono (Nat.zero_le _), fun b hb hn => hb3.block b (by simp at hn; omega)⟩
    have K3 := Lib.hid (Kw1.out.kept X3 (by simp; omega) (by simp; omega) (by simp; omega) (by simp; omega))
    have M3 : Hid (n' ≠ 0 → ∃ g', wq.heap.size < g' ∧ g' < w3.heap.size ∧ Mine w3 g' (g' + 1) 2 A' n' (fun k => .int .i64 (gi r1.2 k))) := fun h0 => by
      obtain ⟨g', z1, z2, z3, z4⟩ := hm.one h0
      have zz := hb9.lt
      exact ⟨g', by have := w1s; omega, by omega, by rw [hw3]; exact ((z4.keep fun b hb1 hb2 => Below.heap_setCell w2 ⟨wq.heap.size, 0, none⟩ _ b (by have := w1s; simp; omega)).keep fun b hb1 hb2 => Below.heap_setCell _ ⟨wq.heap.size, 1, none⟩ _ b (by have := w1s; simp; omega))⟩
    have e0 := cell_of_row w3 _ 0 _ _ _ rb3
    have e1 := cell_of_row w3 _ 1 _ _ _ rb3
    simp at e0 e1
    obtain ⟨q0, q1, q2, q3, q4⟩ := K3.out.cells
    have f0 := frozen_of_row w3 g 0 _ _ K3.out.box
    have XW : Hid (Kept [g, p.g2, p.g3] w w3) := (Xq.mono (by simp)).trans' X3 (fun x hx hl => by simp at hx; omega)
    have HL := Lib.hid hl; have HN := Lib.hid hnil
    clear hw3 rb3 hb3 X3 hm hb9 hl hnil TS KS PS ST R0
    by_cases hq : r1.1 = 0
    · have hqa : (r1.1 != 0) = false := by simp [hq]
      have HC : Hid (call3 K 4 ee s t = (0, { K with os := r1.2 })) := by show _ = _; rw [show call3 K 4 ee s t = lists K (free1 K.os (ee : Int) s) by unfold call3; rw [if_neg (by omega), hto, if_neg (by simp [ha])]; simp, ← HR1.out]; unfold lists; rw [if_neg (by simp [hq])]
      have n0 : n' ≠ 0 := by
        have := LEN r1 HR1.out hq
        rw [HL.out] at this
        omega
      obtain ⟨g', z1, z2, z3⟩ := M3.out n0
      have Z3 := Lib.hid z3
      clear z3 M3 swq w1s s3
      go_wp2
      go_ret
      have swq := SW.out
      have w1s := SW1.out
      rw [HC.out]
      first
        | exact ⟨p.withOwners A' n' c' g', rfl, K3.out.setOwners HL.out HN.out Z3.out (by omega) (by omega) (by omega), .inr ⟨by show w.heap.size ≤ g'; omega, by show g' < _; simp; omega⟩, rfl, rfl, XW.out.setCell (p := ⟨g, 0, none⟩) (by simp) _⟩
        | exact ⟨rfl, p.withOwners A' n' c' g', K3.out.setOwners HL.out HN.out Z3.out (by omega) (by omega) (by omega), .inr ⟨by show w.heap.size ≤ g'; omega, by show g' < _; simp; omega⟩, rfl, rfl, XW.out.setCell (p := ⟨g, 0, none⟩) (by simp) _⟩
    · have hqa : (r1.1 != 0) = true := by simp [hq]
      have HC : Hid (call3 K 4 ee s t = (r1.1, K)) := by show _ = _; rw [show call3 K 4 ee s t = lists K (free1 K.os (ee : Int) s) by unfold call3; rw [if_neg (by omega), hto, if_neg (by simp [ha])]; simp, ← HR1.out]; unfold lists; rw [if_pos hq]
      clear hq swq w1s s3 M3
      go_wp2
      go_ret
      rw [HC.out]
      exact ⟨p, rfl, K3.out, .inl rfl, rfl, rfl, XW.out⟩
  · go_enter Tryz.func87, Tryz.ntmps87
    go_wp2_with fail
    go_quiet (fail)
    obtain ⟨wq, hwq⟩ : ∃ wq, wq = w.drewN nq := ⟨_, rfl⟩
    rw [← hwq]
    have Xwq : Kept [] w wq := by rw [hwq]; exact (Kept.refl [] w).drewN nq
    have SQ : Hid (wq.heap.size = w.heap.size) := by rw [hwq]; rfl
    clear hwq
    go_upto_region 9 with (fail)
    have swq := SQ.out
    obtain ⟨w1, hw1⟩ : ∃ w1, w1 = wq.alloc (.cells #[.int .i64 0, .slice none 0 0] 49) := ⟨_, rfl⟩
    rw [← hw1]
    have Xq : Kept [] w w1 := by rw [hw1]; exact Xwq.alloc _
    have rb : Hid (w1.heap[wq.heap.size]? = some (.cells #[.int .i64 0, .slice none 0 0] 49 (0, 0))) := by rw [hw1]; exact heap_alloc_new wq _
    have w1s : w1.heap.size = wq.heap.size + 1 := by rw [hw1]; simp
    clear hw1
    have Kw1 := Lib.hid (HK.out.kept Xq (by simp) (by simp) (by simp) (by simp))
    have hbw1 : ∀ b, b < w.heap.size → w1.heap[b]? = w.heap[b]? := fun b hb => Xq.2 b hb (by simp)
    have gl : g < wq.heap.size := by omega
    have gcl : gc < wq.heap.size := by omega
    have c0 := (World.cell?_of_block (a := ⟨gc, oc, none⟩) (hbw1 gc (by omega))).trans c0
    have c1 := (World.cell?_of_block (a := ⟨gc, oc + 1, none⟩) (hbw1 gc (by omega))).trans c1
    have c2 := (World.cell?_of_block (a := ⟨gc, oc + 2, none⟩) (hbw1 gc (by omega))).trans c2
    have c3 := (World.cell?_of_block (a := ⟨gc, oc + 3, none⟩) (hbw1 gc (by omega))).trans c3
    obtain ⟨q0, q1, q2, q3, q4⟩ := Kw1.out.cells
    rw [hA2] at q1
    have a0 := (World.cell?_of_block (a := ⟨p.g2, o2 + ee, none⟩) (hbw1 p.g2 HR2.out.lt)).trans a0
    have y0 : w1.frozen? ⟨p.g2, o2 + ee, none⟩ = false := (HR2.out.keep (hbw1 p.g2 HR2.out.lt)).frozen _
    clear hbw1 swq
    have SQ1 := Lib.hid w1s
    clear w1s
    go_wp2_with fail
    have swq := SQ.out
    have w1s := SQ1.out
    obtain ⟨tt, rfl⟩ : ∃ t' : Nat, t = (t' : Int) := ⟨t.toNat, by omega⟩
    have ht4 : tt < 4 := by omega
    have ht0 : (0 : Int) ≤ (tt : Int) := by omega
    have htI : (tt : Int) < 4 := by omega
    have htt : ((tt : Int)).toNat = tt := rfl
    have b0 : w1.cell? ⟨p.g2, o2 + tt, none⟩ = some (.bool (gb K.al tt)) := (HR2.out.keep (Xq.2 p.g2 HR2.out.lt (by simp))).cell ht4
    cases hta : gb K.al tt
    · rw [hta] at b0
      have HC : Hid (call3 K 5 ee s tt = (4, K)) := by show _ = _; unfold call3; rw [if_neg (by omega), hto, if_neg (by simp [ha]), if_neg (by omega), if_neg (by omega), if_neg (by omega), htt, if_pos hta]
      clear swq w1s
      go_quiet (fail)
      go_wp2
      go_ret
      rw [HC.out]
      exact ⟨p, rfl, Kw1.out.kept ((Kept.refl [] w1).drewN _) (by simp) (by simp) (by simp) (by simp), .inl rfl, rfl, rfl, (Xq.mono (by simp)).drewN _⟩
    rw [hta] at b0
    clear swq w1s
    go_quiet (fail)
    obtain ⟨wr, hwr⟩ : ∃ wr, wr = w1.drewN nq := ⟨_, rfl⟩
    rw [← hwr]
    have Xr : Kept [] w wr := by rw [hwr]; exact Xq.drewN nq
    have rb : Hid (wr.heap[wq.heap.size]? = some (.cells #[.int .i64 0, .slice none 0 0] 49 (0, 0))) := by rw [hwr]; exact rb.out
    have SQ1 : Hid (wr.heap.size = wq.heap.size + 1) := by rw [hwr]; exact SQ1.out
    have Kwr : Hid (KB wr g p K) := by rw [hwr]; exact Kw1.out.kept ((Kept.refl [] w1).drewN _) (by simp) (by simp) (by simp) (by simp)
    have c0 : wr.cell? ⟨gc, oc, none⟩ = some (.int .i64 5) := by rw [hwr]; exact c0
    have c1 : wr.cell? ⟨gc, oc + 1, none⟩ = some (.int .i64 (ee : Int)) := by rw [hwr]; exact c1
    have c2 : wr.cell? ⟨gc, oc + 2, none⟩ = some (.int .i64 s) := by rw [hwr]; exact c2
    have c3 : wr.cell? ⟨gc, oc + 3, none⟩ = some (.int .i64 (tt : Int)) := by rw [hwr]; exact c3
    clear hwr
    obtain ⟨q0, q1, q2, q3, q4⟩ := Kwr.out.cells
    go_wp2_with fail
    have swq := SQ.out
    have w1s := SQ1.out
    have LEN : ∀ r1, r1 = move1 K.os (ee : Int) s (tt : Int) → r1.1 = 0 → 1 ≤ r1.2.length := fun r1 e h => by subst e; have := move1_same h; omega
    obtain ⟨r1, hr1⟩ : ∃ r1, r1 = move1 K.os (ee : Int) s (tt : Int) := ⟨_, rfl⟩
    have HR1 := Lib.hid hr1
    clear hr1
    have TS : Hid (∀ W, Box2 wq.heap.size 49 wr W → Calls Tryz.prog 133 #[.slice p.A1 p.n1 p.c1, .int .i64 ee, .int .i64 s, .int .i64 tt] W fun e w' => ∃ A n c, e = .returned (.agg #[.int .i64 r1.1, .slice A n c]) ∧ r1.2.length = n ∧ (A = none → c = 0) ∧ Mine w' (wq.heap.size + 1) w'.heap.size 2 A n (fun k => .int .i64 (gi r1.2 k)) ∧ W.heap.size ≤ w'.heap.size ∧ Box2 wq.heap.size 49 wr w') := fun W h9 => by
      have := specMoveSlot_any 0 (wq.heap.size) p.A1 p.n1 p.c1 K.os ee s tt W (by have hl : K.os.length = p.n1 := Kwr.out.own.l1; omega) Kwr.out.own.l1 Kwr.out.own.nil1 ((Kwr.out.own.m1.sl.wide (Nat.zero_le _) (show p.g1 + 1 ≤ wq.heap.size by omega)).below h9.fst (Nat.le_refl _))
      rw [← HR1.out] at this
      refine this.mono ?_
      rintro e w' ⟨A, n, c, rfl, hl, hn, hm, hb⟩
      exact ⟨A, n, c, rfl, hl, hn, hm.wide (by have := h9.lt; omega) (Nat.le_refl _), hb.size, h9.below hb⟩
    have KS : Hid (∀ W, Box2 wq.heap.size 49 wr W → (W.cell? ⟨g, 0, none⟩ = some (.slice p.A1 p.n1 p.c1) ∧ W.cell? ⟨gc, oc + 1, none⟩ = some (.int .i64 ee) ∧ W.cell? ⟨gc, oc + 2, none⟩ = some (.int .i64 s) ∧ W.cell? ⟨gc, oc + 3, none⟩ = some (.int .i64 tt) ∧ W.cell? ⟨wq.heap.size, 0, none⟩ = some (cval W ⟨wq.heap.size, 0, none⟩) ∧ W.frozen? ⟨wq.heap.size, 0, none⟩ = false ∧ W.cell? ⟨wq.heap.size, 1, none⟩ = some (cval W ⟨wq.heap.size, 1, none⟩) ∧ W.frozen? ⟨wq.heap.size, 1, none⟩ = false ∧ Box2 wq.heap.size 49 wr W)) := fun W h9 => ⟨(h9.fst.cell (p := ⟨g, 0, none⟩) gl).trans q0, (h9.fst.cell (p := ⟨gc, oc + 1, none⟩) gcl).trans c1, (h9.fst.cell (p := ⟨gc, oc + 2, none⟩) gcl).trans c2, (h9.fst.cell (p := ⟨gc, oc + 3, none⟩) gcl).trans c3, h9.facts.1, h9.facts.2.1, h9.facts.2.2.1, h9.facts.2.2.2, h9⟩
    have PS : Hid (∀ W, (W.cell? ⟨g, 0, none⟩ = some (.slice p.A1 p.n1 p.c1) ∧ W.cell? ⟨gc, oc + 1, none⟩ = some (.int .i64 ee) ∧ W.cell? ⟨gc, oc + 2, none⟩ = some (.int .i64 s) ∧ W.cell? ⟨gc, oc + 3, none⟩ = some (.int .i64 tt) ∧ W.cell? ⟨wq.heap.size, 0, none⟩ = some (cval W ⟨wq.heap.size, 0, none⟩) ∧ W.frozen? ⟨wq.heap.size, 0, none⟩ = false ∧ W.cell? ⟨wq.heap.size, 1, none⟩ = some (cval W ⟨wq.heap.size, 1, none⟩) ∧ W.frozen? ⟨wq.heap.size, 1, none⟩ = false ∧ Box2 wq.heap.size 49 wr W) → Box2 wq.heap.size 49 wr W) := fun W h9 => h9.2.2.2.2.2.2.2.2
    have ST : Hid (∀ W u v, (W.cell? ⟨g, 0, none⟩ = some (.slice p.A1 p.n1 p.c1) ∧ W.cell? ⟨gc, oc + 1, none⟩ = some (.int .i64 ee) ∧ W.cell? ⟨gc, oc + 2, none⟩ = some (.int .i64 s) ∧ W.cell? ⟨gc, oc + 3, none⟩ = some (.int .i64 tt) ∧ W.cell? ⟨wq.heap.size, 0, none⟩ = some (cval W ⟨wq.heap.size, 0, none⟩) ∧ W.frozen? ⟨wq.heap.size, 0, none⟩ = false ∧ W.cell? ⟨wq.heap.size, 1, none⟩ = some (cval W ⟨wq.heap.size, 1, none⟩) ∧ W.frozen? ⟨wq.heap.size, 1, none⟩ = false ∧ Box2 wq.heap.size 49 wr W) → Box2 wq.heap.size 49 wr ((W.setCell ⟨wq.heap.size, 0, none⟩ u).setCell ⟨wq.heap.size, 1, none⟩ v)) := fun W u v h9 => (PS.out W h9).store u v
    have R0 : Hid (Box2 wq.heap.size 49 wr wr.drew) := ⟨Below.drew (Below.refl _ _), _, _, rb.out⟩
    have SW := Lib.hid swq
    have SW1 := Lib.hid w1s
    clear q0 q1 q2 q3 q4 a0 y0 c0 c1 c2 c3 swq w1s
    go_region_held3 (fun W => W.cell? ⟨g, 0, none⟩ = some (.slice p.A1 p.n1 p.c1) ∧ W.cell? ⟨gc, oc + 1, none⟩ = some (.int .i64 ee) ∧ W.cell? ⟨gc, oc + 2, none⟩ = some (.int .i64 s) ∧ W.cell? ⟨gc, oc + 3, none⟩ = some (.int .i64 tt) ∧ W.cell? ⟨wq.heap.size, 0, none⟩ = some (cval W ⟨wq.heap.size, 0, none⟩) ∧ W.frozen? ⟨wq.heap.size, 0, none⟩ = false ∧ W.cell? ⟨wq.heap.size, 1, none⟩ = some (cval W ⟨wq.heap.size, 1, none⟩) ∧ W.frozen? ⟨wq.heap.size, 1, none⟩ = false ∧ Box2 wq.heap.size 49 wr W) (first | with_reducible exact KS.out _ (by assumption) | with_reducible exact KS.out _ R0.out | with_reducible exact KS.out _ (ST.out _ _ _ (by assumption))) (first | (go_at_call 133; with_reducible refine (TS.out _ (PS.out _ (by assumption))).mono ?_; rintro e2 w2 ⟨A', n', c', rfl, hl, hnil, hm, hsz, hb9⟩))
    have swq := SW.out
    have w1s := SW1.out
    obtain ⟨w3, hw3⟩ : ∃ w3, w3 = (w2.setCell ⟨wq.heap.size, 0, none⟩ (.int .i64 r1.1)).setCell ⟨wq.heap.size, 1, none⟩ (.slice A' n' c') := ⟨_, rfl⟩
    rw [← hw3]
    have rb3 := hb9.row (.int .i64 r1.1) (.slice A' n' c')
    rw [← hw3] at rb3
    have s3 : w2.heap.size = w3.heap.size := by rw [hw3]; simp
    have hb3 : Below wq.heap.size wr w3 := by rw [hw3]; exact (hb9.store _ _).fst
    have X3 : Kept [wq.heap.size] wr w3 := ⟨hb3.mono (Nat.zero_le _), fun b hb hn => hb3.block b (by simp at hn; omega)⟩
    have K3 := Lib.hid (Kwr.out.kept X3 (by simp; omega) (by simp; omega) (by simp; omega) (by simp; omega))
    have M3 : Hid (n' ≠ 0 → ∃ g', wq.heap.size < g' ∧ g' < w3.heap.size ∧ Mine w3 g' (g' + 1) 2 A' n' (fun k => .int .i64 (gi r1.2 k))) := fun h0 => by
      obtain ⟨g', z1, z2, z3, z4⟩ := hm.one h0
      have zz := hb9.lt
      exact ⟨g', by have := w1s; omega, by omega, by rw [hw3]; exact ((z4.keep fun b hb1 hb2 => Below.heap_setCell w2 ⟨wq.heap.size, 0, none⟩ _ b (by have := w1s; simp; omega)).keep fun b hb1 hb2 => Below.heap_setCell _ ⟨wq.heap.size, 1, none⟩ _ b (by have := w1s; simp; omega))⟩
    have e0 := cell_of_row w3 _ 0 _ _ _ rb3
    have e1 := cell_of_row w3 _ 1 _ _ _ rb3
    simp at e0 e1
    obtain ⟨q0, q1, q2, q3, q4⟩ := K3.out.cells
    have f0 := frozen_of_row w3 g 0 _ _ K3.out.box
    have XW : Hid (Kept [g, p.g2, p.g3] w w3) := (Xr.mono (by simp)).trans' X3 (fun x hx hl => by simp at hx; omega)
    have HL := Lib.hid hl; have HN := Lib.hid hnil
    clear hw3 rb3 hb3 X3 hm hb9 hl hnil TS KS PS ST R0
    by_cases hq : r1.1 = 0
    · have hqa : (r1.1 != 0) = false := by simp [hq]
      have HC : Hid (call3 K 5 ee s tt = (0, { K with os := r1.2 })) := by show _ = _; rw [show call3 K 5 ee s tt = lists K (move1 K.os (ee : Int) s (tt : Int)) by unfold call3; rw [if_neg (by omega), hto, if_neg (by simp [ha]), if_neg (by omega), if_neg (by omega), if_neg (by omega), htt, if_neg (by simp [hta])], ← HR1.out]; unfold lists; rw [if_neg (by simp [hq])]
      have n0 : n' ≠ 0 := by
        have := LEN r1 HR1.out hq
        rw [HL.out] at this
        omega
      obtain ⟨g', z1, z2, z3⟩ := M3.out n0
      have Z3 := Lib.hid z3
      clear z3 M3 swq w1s s3
      go_wp2
      go_ret
      have swq := SW.out
      have w1s := SW1.out
      rw [HC.out]
      first
        | exact ⟨p.withOwners A' n' c' g', rfl, K3.out.setOwners HL.out HN.out Z3.out (by omega) (by omega) (by omega), .inr ⟨by show w.heap.size ≤ g'; omega, by show g' < _; simp; omega⟩, rfl, rfl, XW.out.setCell (p := ⟨g, 0, none⟩) (by simp) _⟩
        | exact ⟨rfl, p.withOwners A' n' c' g', K3.out.setOwners HL.out HN.out Z3.out (by omega) (by omega) (by omega), .inr ⟨by show w.heap.size ≤ g'; omega, by show g' < _; simp; omega⟩, rfl, rfl, XW.out.setCell (p := ⟨g, 0, none⟩) (by simp) _⟩
    · have hqa : (r1.1 != 0) = true := by simp [hq]
      have HC : Hid (call3 K 5 ee s tt = (r1.1, K)) := by show _ = _; rw [show call3 K 5 ee s tt = lists K (move1 K.os (ee : Int) s (tt : Int)) by unfold call3; rw [if_neg (by omega), hto, if_neg (by simp [ha]), if_neg (by omega), if_neg (by omega), if_neg (by omega), htt, if_neg (by simp [hta])], ← HR1.out]; unfold lists; rw [if_pos hq]
      clear hq swq w1s s3 M3
      go_wp2
      go_ret
      rw [HC.out]
      exact ⟨p, rfl, K3.out, .inl rfl, rfl, rfl, XW.out⟩



noncomputable def docall (K : Ker) (k e s t : Int) : Int × Ker := if kf K ≠ 0 then (kf K, zeroKer) else if cf k e s t ≠ 0 then (cf k e s t, zeroKer) else orZero (call3 K k e s t)

set_option maxHeartbeats 2000000 in
theorem specDoCall_any (lo hi : Nat) (A1 : Option Addr) (n1 c1 : Nat) (A2 : Option Addr) (n2 c2 : Nat) (A3 : Option Addr) (n3 c3 : Nat) (t r : Int) (K : Ker) (kk e s to : Int) (w : World) (hn1 : n1 * 8 ≤ 140737488351232) (hn3 : n3 * 32 ≤ 140737488351232)
    (h : KRead w lo hi A1 n1 A2 n2 A3 n3 K) (hA : A1 = none → c1 = 0) (et : K.tick = t) (er : K.run = r) :
    Calls Tryz.prog 32 #[.agg #[.slice A1 n1 c1, .slice A2 n2 c2, .slice A3 n3 c3, .int .i64 t, .int .i64 r], .agg #[.int .i64 kk, .int .i64 e, .int .i64 s, .int .i64 to]] w (KAns (docall K kk e s to).1 (docall K kk e s to).2 [] w) := by
  have B3 : Hid (Below w.heap.size w (((w.alloc (.cells #[.slice A1 n1 c1, .slice A2 n2 c2, .slice A3 n3 c3, .int .i64 t, .int .i64 r] 39)).alloc (.cells #[.int .i64 kk, .int .i64 e, .int .i64 s, .int .i64 to] 55)).alloc (.cells #[.int .i64 0, .slice none 0 0, .slice none 0 0, .slice none 0 0, .int .i64 0, .int .i64 0, .slice none 0 0] 61))) := (((Below.refl _ _).alloc (Nat.le_refl _) _).alloc (by simp) _).alloc (by simp; omega) _
  have Z1 : Hid ((((w.alloc (.cells #[.slice A1 n1 c1, .slice A2 n2 c2, .slice A3 n3 c3, .int .i64 t, .int .i64 r] 39)).alloc (.cells #[.int .i64 kk, .int .i64 e, .int .i64 s, .int .i64 to] 55)).alloc (.cells #[.int .i64 0, .slice none 0 0, .slice none 0 0, .slice none 0 0, .int .i64 0, .int .i64 0, .slice none 0 0] 61)).heap[w.heap.size]? = some (.cells #[.slice A1 n1 c1, .slice A2 n2 c2, .slice A3 n3 c3, .int .i64 t, .int .i64 r] 39 (0, 0))) := (Below.heap_alloc _ _ _ (by simp; omega)).trans (heap_alloc2_old w _ _)
  have Z2 : Hid ((((w.alloc (.cells #[.slice A1 n1 c1, .slice A2 n2 c2, .slice A3 n3 c3, .int .i64 t, .int .i64 r] 39)).alloc (.cells #[.int .i64 kk, .int .i64 e, .int .i64 s, .int .i64 to] 55)).alloc (.cells #[.int .i64 0, .slice none 0 0, .slice none 0 0, .slice none 0 0, .int .i64 0, .int .i64 0, .slice none 0 0] 61)).heap[w.heap.size + 1]? = some (.cells #[.int .i64 kk, .int .i64 e, .int .i64 s, .int .i64 to] 55 (0, 0))) := (Below.heap_alloc _ _ _ (by simp)).trans (heap_alloc2_new w _ _)
  have Z3 : Hid ((((w.alloc (.cells #[.slice A1 n1 c1, .slice A2 n2 c2, .slice A3 n3 c3, .int .i64 t, .int .i64 r] 39)).alloc (.cells #[.int .i64 kk, .int .i64 e, .int .i64 s, .int .i64 to] 55)).alloc (.cells #[.int .i64 0, .slice none 0 0, .slice none 0 0, .slice none 0 0, .int .i64 0, .int .i64 0, .slice none 0 0] 61)).heap[w.heap.size + 2]? = some (.cells #[.int .i64 0, .slice none 0 0, .slice none 0 0, .slice none 0 0, .int .i64 0, .int .i64 0, .slice none 0 0] 61 (0, 0))) := by
    have := heap_alloc_new ((w.alloc (.cells #[.slice A1 n1 c1, .slice A2 n2 c2, .slice A3 n3 c3, .int .i64 t, .int .i64 r] 39)).alloc (.cells #[.int .i64 kk, .int .i64 e, .int .i64 s, .int .i64 to] 55)) (.cells #[.int .i64 0, .slice none 0 0, .slice none 0 0, .slice none 0 0, .int .i64 0, .int .i64 0, .slice none 0 0] 61)
    simp only [World.size_alloc] at this
    exact this
  have s3 : (((w.alloc (.cells #[.slice A1 n1 c1, .slice A2 n2 c2, .slice A3 n3 c3, .int .i64 t, .int .i64 r] 39)).alloc (.cells #[.int .i64 kk, .int .i64 e, .int .i64 s, .int .i64 to] 55)).alloc (.cells #[.int .i64 0, .slice none 0 0, .slice none 0 0, .slice none 0 0, .int .i64 0, .int .i64 0, .slice none 0 0] 61)).heap.size = w.heap.size + 3 := by simp
  have R := Lib.hid (h.lt.below B3.out (Nat.min_le_right _ _))
  obtain ⟨l1, l2, l3⟩ := h.1
  have KF := Lib.hid (specKernelFault_any lo (min hi w.heap.size) A1 n1 c1 A2 n2 c2 A3 n3 c3 t r K (((w.alloc (.cells #[.slice A1 n1 c1, .slice A2 n2 c2, .slice A3 n3 c3, .int .i64 t, .int .i64 r] 39)).alloc (.cells #[.int .i64 kk, .int .i64 e, .int .i64 s, .int .i64 to] 55)).alloc (.cells #[.int .i64 0, .slice none 0 0, .slice none 0 0, .slice none 0 0, .int .i64 0, .int .i64 0, .slice none 0 0] 61)) hn1 hn3 R.out et er)
  have ET := Lib.hid et; have ER := Lib.hid er; have HA := Lib.hid hA; have L1 := Lib.hid l1
  clear h hA et er
  go_enter Tryz.func32, Tryz.ntmps32
  go_wp2_with fail
  refine KF.out.mono ?_
  rintro e9 w4 ⟨rfl, hb⟩
  have X1 := (hb.block w.heap.size (by omega)).trans Z1.out
  have X2 := (hb.block (w.heap.size + 1) (by omega)).trans Z2.out
  have X3 := (hb.block (w.heap.size + 2) (by omega)).trans Z3.out
  have s4 : w.heap.size + 3 ≤ w4.heap.size := by have := hb.size; omega
  have B4 := Lib.hid (B3.out.trans (hb.mono (by omega)))
  have R4 := Lib.hid (R.out.below hb (by omega))
  clear hb KF B3 R Z1 Z2 Z3
  by_cases hv : kf K = 0
  case neg =>
    have hva : (kf K != 0) = true := by simp [hv]
    have HD : Hid (docall K kk e s to = (kf K, zeroKer)) := by show _ = _; unfold docall; rw [if_pos hv]
    have HZ := Lib.hid X3
    have r0 := cell_of_row w4 _ 0 _ _ _ X3
    have f0 := frozen_of_row w4 _ 0 _ _ X3
    have r1 := cell_of_row w4 _ 1 _ _ _ X3
    have f1 := frozen_of_row w4 _ 1 _ _ X3
    have r2 := cell_of_row w4 _ 2 _ _ _ X3
    have f2 := frozen_of_row w4 _ 2 _ _ X3
    have r3 := cell_of_row w4 _ 3 _ _ _ X3
    have f3 := frozen_of_row w4 _ 3 _ _ X3
    have r4 := cell_of_row w4 _ 4 _ _ _ X3
    have f4 := frozen_of_row w4 _ 4 _ _ X3
    have r5 := cell_of_row w4 _ 5 _ _ _ X3
    have f5 := frozen_of_row w4 _ 5 _ _ X3
    have r6 := cell_of_row w4 _ 6 _ _ _ X3
    have f6 := frozen_of_row w4 _ 6 _ _ X3
    simp at r0 r1 r2 r3 r4 r5 r6
    clear X1 X2 X3 hv s3
    go_wp2
    refine bodyPost_ret (results_cell_row rfl _ _ (w.heap.size + 2) _ _ (0, 0) _ rfl (blk7_set HZ.out _ _ _ _ _ _ _) Tryz.underlying61 rfl (by kernel_rfl)) rfl ?_
    rw [HD.out]
    exact kans_code (below7 B4.out (by omega) _ _ _ _ _ _ _) (by simp; omega)
  have hva : (kf K != 0) = false := by simp [hv]
  have b0 := cell_of_row w4 _ 0 _ _ _ X2; have b1 := cell_of_row w4 _ 1 _ _ _ X2; have b2 := cell_of_row w4 _ 2 _ _ _ X2; have b3 := cell_of_row w4 _ 3 _ _ _ X2
  simp at b0 b1 b2 b3
  have HV := Lib.hid hv
  have H1 := Lib.hid X1; have H2 := Lib.hid X2; have H3 := Lib.hid X3
  clear X1 X2 X3 hv s3
  go_wp2_with fail
  refine (specCallFault_any kk e s to _).mono ?_
  rintro e9 w5 ⟨rfl, hb⟩
  have X1 := (hb.block w.heap.size (by omega)).trans H1.out
  have X2 := (hb.block (w.heap.size + 1) (by omega)).trans H2.out
  have X3 := (hb.block (w.heap.size + 2) (by omega)).trans H3.out
  have s5 : w.heap.size + 3 ≤ w5.heap.size := by have := hb.size; omega
  have B5 := Lib.hid (B4.out.trans (hb.mono (by omega)))
  have R5 := Lib.hid (R4.out.below hb (by omega))
  clear hb B4 R4 H1 H2 H3 b0 b1 b2 b3
  by_cases hc : cf kk e s to = 0
  case neg =>
    have hca : (cf kk e s to != 0) = true := by simp [hc]
    have HD : Hid (docall K kk e s to = (cf kk e s to, zeroKer)) := by show _ = _; unfold docall; rw [if_neg (by simp [HV.out]), if_pos hc]
    have HZ := Lib.hid X3
    have r0 := cell_of_row w5 _ 0 _ _ _ X3
    have f0 := frozen_of_row w5 _ 0 _ _ X3
    have r1 := cell_of_row w5 _ 1 _ _ _ X3
    have f1 := frozen_of_row w5 _ 1 _ _ X3
    have r2 := cell_of_row w5 _ 2 _ _ _ X3
    have f2 := frozen_of_row w5 _ 2 _ _ X3
    have r3 := cell_of_row w5 _ 3 _ _ _ X3
    have f3 := frozen_of_row w5 _ 3 _ _ X3
    have r4 := cell_of_row w5 _ 4 _ _ _ X3
    have f4 := frozen_of_row w5 _ 4 _ _ X3
    have r5 := cell_of_row w5 _ 5 _ _ _ X3
    have f5 := frozen_of_row w5 _ 5 _ _ X3
    have r6 := cell_of_row w5 _ 6 _ _ _ X3
    have f6 := frozen_of_row w5 _ 6 _ _ X3
    simp at r0 r1 r2 r3 r4 r5 r6
    clear X1 X2 X3 hc
    go_wp2
    refine bodyPost_ret (results_cell_row rfl _ _ (w.heap.size + 2) _ _ (0, 0) _ rfl (blk7_set HZ.out _ _ _ _ _ _ _) Tryz.underlying61 rfl (by kernel_rfl)) rfl ?_
    rw [HD.out]
    exact kans_code (below7 B5.out (by omega) _ _ _ _ _ _ _) (by simp; omega)
  have hca : (cf kk e s to != 0) = false := by simp [hc]
  have HC := Lib.hid hc
  obtain ⟨v1, v2, v3⟩ := kf_zero HV.out
  obtain ⟨w1', w2', _, _⟩ := vf_zero v1
  obtain rfl : n2 = 4 := by omega
  obtain rfl : n3 = 4 := by omega
  have H2 := Lib.hid X2; have H3 := Lib.hid X3
  have V1 := Lib.hid v1
  have CP := Lib.hid (l3Copy_any w.heap.size lo (min hi w.heap.size) A1 n1 c1 A2 c2 A3 c3 t r K w5 X1 R5.out HA.out (by omega) (by omega))
  clear X1 X2 X3 hc v1
  go_wp2_with fail
  refine CP.out.mono ?_
  rintro e9 w6 ⟨p, rfl, ho, hg, hb⟩
  obtain ⟨u1, u2, u3, u4, u5, u6⟩ := hg
  have s6 : w5.heap.size ≤ w6.heap.size := hb.size
  obtain ⟨w7, hw7⟩ : ∃ w7, w7 = w6.alloc (.cells #[.slice p.A1 p.n1 p.c1, .slice p.A2 4 p.c2, .slice p.A3 4 p.c3, .int .i64 t, .int .i64 r] 39) := ⟨_, rfl⟩
  have s7 : w7.heap.size = w6.heap.size + 1 := by rw [hw7]; simp
  have KB7 : KB w7 w6.heap.size p K := by
    rw [hw7]
    refine ⟨?_, ⟨ho.l1, ho.l2, ho.l3, ho.nil1, ho.m1.below (below_new w6 _) (by omega), ho.m2.below (below_new w6 _) (by omega), ho.m3.below (below_new w6 _) (by omega), ho.d12, ho.d13, ho.d23⟩, by omega, by omega, by omega⟩
    rw [ET.out, ER.out]
    exact heap_alloc_new w6 _
  have X2 := (Below.heap_alloc w6 (.cells #[.slice p.A1 p.n1 p.c1, .slice p.A2 4 p.c2, .slice p.A3 4 p.c3, .int .i64 t, .int .i64 r] 39) (w.heap.size + 1) (by omega)).trans ((hb.block (w.heap.size + 1) (by omega)).trans H2.out)
  have X3 := (Below.heap_alloc w6 (.cells #[.slice p.A1 p.n1 p.c1, .slice p.A2 4 p.c2, .slice p.A3 4 p.c3, .int .i64 t, .int .i64 r] 39) (w.heap.size + 2) (by omega)).trans ((hb.block (w.heap.size + 2) (by omega)).trans H3.out)
  rw [← hw7] at X2 X3
  have B7 : Hid (Below w.heap.size w w7) := by rw [hw7]; exact (B5.out.trans (hb.mono (by omega))).alloc (by omega) _
  have CA := Lib.hid (l3Call_any w6.heap.size (w.heap.size + 1) 0 p K kk e s to w7 KB7 (cell_of_row w7 _ 0 _ _ _ X2) (cell_of_row w7 _ 1 _ _ _ X2) (cell_of_row w7 _ 2 _ _ _ X2) (cell_of_row w7 _ 3 _ _ _ X2) (by omega) (by omega) (by omega) V1.out HC.out)
  have H3 := Lib.hid X3
  have HW7 := Lib.hid hw7
  have US : Hid (w.heap.size ≤ p.g1 ∧ w.heap.size ≤ p.g2 ∧ w.heap.size ≤ p.g3 ∧ w.heap.size + 2 < p.g2 ∧ w.heap.size + 2 < p.g3 ∧ w.heap.size + 2 < p.g1 ∧ p.g1 < w7.heap.size ∧ p.g2 < w7.heap.size ∧ p.g3 < w7.heap.size ∧ w.heap.size + 3 ≤ w6.heap.size ∧ w6.heap.size < w7.heap.size) := by show _ ∧ _; omega
  clear ho hb KB7 X2 X3 CP B5 R5 hw7 s7 u1 u2 u3 u4 u5 u6 s5 s6
  go_wp2_with fail
  rw [← HW7.out]
  refine CA.out.mono ?_
  rintro e9 w8 ⟨p', rfl, kb, g1', g2', g3', kept⟩
  obtain ⟨y1, y2, y3, y4, y5, y11, y6, y7, y8, y9, y10⟩ := US.out
  have s8 : w7.heap.size ≤ w8.heap.size := kept.1.size
  have X3 := (kept.2 (w.heap.size + 2) (by omega) (by simp; omega)).trans H3.out
  have B8 := Lib.hid (B7.out.trans (kept.below (B := w.heap.size) (by omega) (by simp; omega)))
  have KW := Lib.hid kb
  have HZ := Lib.hid X3
  have GG := Lib.hid g1'
  have r0 := cell_of_row w8 _ 0 _ _ _ X3
  have f0 := frozen_of_row w8 _ 0 _ _ X3
  have r1 := cell_of_row w8 _ 1 _ _ _ X3
  have f1 := frozen_of_row w8 _ 1 _ _ X3
  have r2 := cell_of_row w8 _ 2 _ _ _ X3
  have f2 := frozen_of_row w8 _ 2 _ _ X3
  have r3 := cell_of_row w8 _ 3 _ _ _ X3
  have f3 := frozen_of_row w8 _ 3 _ _ X3
  have r4 := cell_of_row w8 _ 4 _ _ _ X3
  have f4 := frozen_of_row w8 _ 4 _ _ X3
  have r5 := cell_of_row w8 _ 5 _ _ _ X3
  have f5 := frozen_of_row w8 _ 5 _ _ X3
  have r6 := cell_of_row w8 _ 6 _ _ _ X3
  have f6 := frozen_of_row w8 _ 6 _ _ X3
  simp at r0 r1 r2 r3 r4 r5 r6
  obtain ⟨q0, q1, q2, q3, q4⟩ := kb.cells
  clear X3 kept kb g1' CA
  by_cases hq : (call3 K kk e s to).1 = 0
  · have hqa : ((call3 K kk e s to).1 != 0) = false := by simp [hq]
    have HD : Hid (docall K kk e s to = (0, (call3 K kk e s to).2)) := by
      show _ = _
      unfold docall orZero
      rw [if_neg (by simp [HV.out]), if_neg (by simp [HC.out]), if_neg (by simp [hq])]
      exact Prod.ext hq rfl
    clear hq
    go_wp2
    refine bodyPost_ret (results_cell_row rfl _ _ (w.heap.size + 2) _ _ (0, 0) _ rfl (blk7_set HZ.out _ _ _ _ _ _ _) Tryz.underlying61 rfl (by kernel_rfl)) rfl ?_
    rw [HD.out]
    have gg := GG.out
    refine kans_ker (p := p') ?_ ⟨by omega, by simp; omega⟩ ⟨by omega, by simp; omega⟩ ⟨by omega, by simp; omega⟩ (below7 B8.out (by omega) _ _ _ _ _ _ _)
    exact ⟨KW.out.own.l1, KW.out.own.l2, KW.out.own.l3, KW.out.own.nil1, far7 KW.out.own.m1 (by omega) _ _ _ _ _ _ _, far7 KW.out.own.m2 (by omega) _ _ _ _ _ _ _, far7 KW.out.own.m3 (by omega) _ _ _ _ _ _ _, KW.out.own.d12, KW.out.own.d13, KW.out.own.d23⟩
  · have hqa : ((call3 K kk e s to).1 != 0) = true := by simp [hq]
    have HD : Hid (docall K kk e s to = ((call3 K kk e s to).1, zeroKer)) := by
      show _ = _
      unfold docall orZero
      rw [if_neg (by simp [HV.out]), if_neg (by simp [HC.out]), if_pos hq]
    clear hq
    go_wp2
    refine bodyPost_ret (results_cell_row rfl _ _ (w.heap.size + 2) _ _ (0, 0) _ rfl (blk7_set HZ.out _ _ _ _ _ _ _) Tryz.underlying61 rfl (by kernel_rfl)) rfl ?_
    rw [HD.out]
    exact kans_code (below7 B8.out (by omega) _ _ _ _ _ _ _) (by simp; omega)

end Go.Proofs.YtckapndpefkcgaaGreat
