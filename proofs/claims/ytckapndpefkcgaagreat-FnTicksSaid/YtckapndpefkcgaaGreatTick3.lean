/-
  A tick: what a window's begin, an act, a window's end make of a kernel, and the notes. No program is named here.
-/
import Derived.Test.YtckapndpefkcgaaGreatMath3
import Derived.Test.YtckapndpefkcgaaGreatKans3
set_option maxHeartbeats 1000000
namespace Go.Proofs.YtckapndpefkcgaaGreat
open Go.RowKit

def acf (K : Ker) (e : Nat) (f : Int → Int → Int → Int → R2) : R2 := f (gi K.ac (e * 4)) (gi K.ac (e * 4 + 1)) (gi K.ac (e * 4 + 2)) (gi K.ac (e * 4 + 3))
def put3 (K : Ker) (e : Nat) (r : R2) : Ker := if r.1 = 0 then { K with ac := setAcc K.ac e r.2.1 r.2.2.1 r.2.2.2.1 r.2.2.2.2.1 } else K
def own3 (K : Ker) : Int := gi K.os ((K.tick / 9) % (K.os.length : Int)).toNat
def begin3 (K : Ker) : Ker × List Int :=
  if own3 K = -1 then (K, [K.tick, -1, 3])
  else if 0 < gi K.ac ((own3 K).toNat * 4 + 3) then (put3 K (own3 K).toNat (acf K (own3 K).toNat skip2), [K.tick, own3 K, 2])
  else ({ K with run := own3 K }, [K.tick, own3 K, 1])
def act3 (K : Ker) (k to : Int) : Ker × List Int :=
  if k = 2 then ({ K with run := -1 }, [K.tick, K.run, 5])
  else if k = 3 ∧ ¬ (6 ≤ K.tick % 9) ∧ gb K.al to.toNat = true ∧ to ≠ K.run then (put3 { K with run := to } to.toNat (acf K to.toNat give2), [K.tick, to, 4])
  else (put3 K K.run.toNat (acf K K.run.toNat (fun u x g d => use2 u x g d (decide (6 ≤ K.tick % 9)))), [])
def end3 (K : Ker) : Ker × List Int :=
  ({ put3 K K.run.toNat (acf K K.run.toNat pun2) with run := -1 }, [K.tick, K.run, if (acf K K.run.toNat pun2).2.2.2.2.2 = true then 7 else 6])
def tickB (K : Ker) : Ker × List Int := if K.tick % 9 = 0 then begin3 K else (K, [])
def tickA (K : Ker) (k to : Int) : Ker × List Int := if K.run ≠ -1 then act3 K k to else (K, [])
def tickE (K : Ker) : Ker × List Int := if K.tick % 9 = 8 ∧ K.run ≠ -1 then end3 K else (K, [])
def tick3 (K : Ker) (k to : Int) : Ker × List Int :=
  ({ (tickE (tickA (tickB K).1 k to).1).1 with tick := K.tick + 1 }, (tickB K).2 ++ (tickA (tickB K).1 k to).2 ++ (tickE (tickA (tickB K).1 k to).1).2)

structure TK (K : Ker) : Prop where
  l1 : 1 ≤ K.os.length ∧ K.os.length ≤ 12
  l2 : K.al.length = 4
  l3 : K.ac.length = 16
  os : ∀ i, i < K.os.length → gi K.os i = -1 ∨ (0 ≤ gi K.os i ∧ gi K.os i < 4)
  ac : ∀ e, e < 4 → afk K e = 0
  tick : 0 ≤ K.tick ∧ K.tick < 100000
  run : K.run = -1 ∨ (0 ≤ K.run ∧ K.run < 4)
theorem setAcc_gi (ac : List Int) (e k : Nat) (u x g d : Int) (h : e * 4 + 3 < ac.length) : gi (setAcc ac e u x g d) k = if k = e * 4 then u else if k = e * 4 + 1 then x else if k = e * 4 + 2 then g else if k = e * 4 + 3 then d else gi ac k := by
  unfold setAcc
  rw [gi_set, gi_set, gi_set, gi_set]
  simp only [List.length_set]
  by_cases e3 : k = e * 4 + 3
  · subst e3; simp [h]
  by_cases e2 : k = e * 4 + 2
  · subst e2; simp; omega
  by_cases e1 : k = e * 4 + 1
  · subst e1; simp; omega
  by_cases e0 : k = e * 4
  · subst e0; simp; omega
  simp [e0, e1, e2, e3]
def good (r : R2) : Prop := r.1 = 0 → af r.2.1 r.2.2.1 r.2.2.2.1 r.2.2.2.2.1 = 0
theorem good_use (u x g d : Int) (l : Bool) : good (use2 u x g d l) := by
  unfold good use2
  by_cases h0 : af u x g d = 0
  · obtain ⟨h1, h2, h3, h4⟩ := af_zero h0
    rw [if_neg (by simp [h0])]
    by_cases hl : l = true
    · rw [if_pos hl]
      by_cases hx : 1000000 ≤ x
      · rw [if_pos hx]; intro h; simp at h
      · rw [if_neg hx]; intro _; refine af_ok ?_; dsimp only; omega
    · rw [if_neg hl]
      by_cases hx : 1000000 ≤ u
      · rw [if_pos hx]; intro h; simp at h
      · rw [if_neg hx]; intro _; refine af_ok ?_; dsimp only; omega
  · rw [if_pos h0]; intro h; exact absurd h h0
theorem good_give (u x g d : Int) : good (give2 u x g d) := by
  unfold good give2
  by_cases h0 : af u x g d = 0
  · obtain ⟨h1, h2, h3, h4⟩ := af_zero h0
    rw [if_neg (by simp [h0])]
    by_cases hx : 1000000 ≤ g
    · rw [if_pos hx]; intro h; simp at h
    · rw [if_neg hx]; intro _; refine af_ok ?_; dsimp only; omega
  · rw [if_pos h0]; intro h; exact absurd h h0
theorem good_pun (u x g d : Int) : good (pun2 u x g d) := by
  unfold good pun2
  by_cases h0 : af u x g d = 0
  · obtain ⟨h1, h2, h3, h4⟩ := af_zero h0
    rw [if_neg (by simp [h0])]
    by_cases hx : 3 ≤ d
    · rw [if_pos hx]; intro h; exact h0
    · rw [if_neg hx]; intro _; refine af_ok ?_; dsimp only; omega
  · rw [if_pos h0]; intro h; exact absurd h h0
theorem good_skip (u x g d : Int) : good (skip2 u x g d) := by
  unfold good skip2
  by_cases h0 : af u x g d = 0
  · obtain ⟨h1, h2, h3, h4⟩ := af_zero h0
    rw [if_neg (by simp [h0])]
    by_cases hx : d = 0
    · rw [if_pos hx]; intro h; simp at h
    · rw [if_neg hx]; intro _; refine af_ok ?_; dsimp only; omega
  · rw [if_pos h0]; intro h; exact absurd h h0
theorem put3_os (K : Ker) (e : Nat) (r : R2) : (put3 K e r).os = K.os ∧ (put3 K e r).al = K.al ∧ (put3 K e r).tick = K.tick ∧ (put3 K e r).run = K.run := by
  unfold put3; split <;> exact ⟨rfl, rfl, rfl, rfl⟩
theorem put3_ac {K : Ker} {e : Nat} {r : R2} (h : TK K) (he : e < 4) (hr : good r) : (put3 K e r).ac.length = 16 ∧ ∀ j, j < 4 → afk (put3 K e r) j = 0 := by
  unfold put3
  split
  · rename_i h0
    have hg := hr h0
    refine ⟨by simp [setAcc_len, h.l3], fun j hj => ?_⟩
    unfold afk
    simp only
    have hl : e * 4 + 3 < K.ac.length := by rw [h.l3]; omega
    rw [setAcc_gi _ _ _ _ _ _ _ hl, setAcc_gi _ _ _ _ _ _ _ hl, setAcc_gi _ _ _ _ _ _ _ hl, setAcc_gi _ _ _ _ _ _ _ hl]
    by_cases hje : j = e
    · subst hje
      simp
      simpa using hg
    · have := h.ac j hj
      unfold afk at this
      rw [if_neg (by omega), if_neg (by omega), if_neg (by omega), if_neg (by omega), if_neg (by omega), if_neg (by omega), if_neg (by omega), if_neg (by omega), if_neg (by omega), if_neg (by omega), if_neg (by omega), if_neg (by omega), if_neg (by omega), if_neg (by omega), if_neg (by omega), if_neg (by omega)]
      exact this
  · exact ⟨h.l3, h.ac⟩
theorem TK.put {K : Ker} {e : Nat} {r : R2} (h : TK K) (he : e < 4) (hr : good r) : TK (put3 K e r) := by
  obtain ⟨a, b, c, d⟩ := put3_os K e r
  obtain ⟨p, q⟩ := put3_ac h he hr
  exact ⟨by rw [a]; exact h.l1, by rw [b]; exact h.l2, p, by rw [a]; exact h.os, q, by rw [c]; exact h.tick, by rw [d]; exact h.run⟩
theorem TK.setRun {K : Ker} (h : TK K) {r : Int} (hr : r = -1 ∨ (0 ≤ r ∧ r < 4)) : TK { K with run := r } := ⟨h.l1, h.l2, h.l3, h.os, h.ac, h.tick, hr⟩
theorem TK.slot {K : Ker} (h : TK K) : ((K.tick / 9) % (K.os.length : Int)).toNat < K.os.length ∧ 0 ≤ (K.tick / 9) % (K.os.length : Int) := by
  have h1 := h.l1
  have h2 : (0 : Int) < (K.os.length : Int) := by omega
  have := Int.emod_nonneg (K.tick / 9) (by omega : (K.os.length : Int) ≠ 0)
  have := Int.emod_lt_of_pos (K.tick / 9) h2
  omega
theorem TK.own {K : Ker} (h : TK K) : own3 K = -1 ∨ (0 ≤ own3 K ∧ own3 K < 4) := h.os _ h.slot.1
theorem TK.begin {K : Ker} (h : TK K) : TK (begin3 K).1 := by
  unfold begin3
  have ho := h.own
  split
  · exact h
  · split
    · exact h.put (by omega) (good_skip _ _ _ _)
    · exact h.setRun ho
theorem TK.act {K : Ker} (h : TK K) (hr : K.run ≠ -1) (k to : Int) (ht : 0 ≤ to ∧ to < 4) : TK (act3 K k to).1 := by
  unfold act3
  have := h.run
  split
  · exact h.setRun (.inl rfl)
  · split
    · exact (h.setRun (.inr ht)).put (by omega) (good_give _ _ _ _)
    · exact h.put (by omega) (good_use _ _ _ _ _)
theorem TK.last {K : Ker} (h : TK K) (hr : K.run ≠ -1) : TK (end3 K).1 := by
  have := h.run
  exact (h.put (e := K.run.toNat) (by omega) (good_pun _ _ _ _)).setRun (.inl rfl)

end Go.Proofs.YtckapndpefkcgaaGreat
