/-
  The model's tick. No conditions beyond that the kernel is one of the call's own and right, and the act is right.
-/
import Derived.Test.YtlallklfilmcnaaGreatKer3
import Derived.Test.YtlallklfilmcnaaGreatMath2
import Derived.Test.YtlallklfilmcnaaGreatSpec3b
import Derived.Test.YtlallklfilmcnaaGreatAcc2
import Derived.BigRegion
import Derived.BigQuiet
import Derived.StillTailTactics
import Derived.Laws.Tables
import Derived.Test.YtlallklfilmcnaaGreatSpec1
import Derived.Test.YtlallklfilmcnaaGreatBase3
import Derived.Laws.OwnMore
import Derived.Maps.AppendAt
import Derived.Laws.AppendOwnNone
import Derived.Laws.CopyOwn

-- Tick3
namespace Go.Proofs.YtlallklfilmcnaaGreat
open Go.RowKit

/-- an account of K turned by a function of chapter 2 -/
def acf (K : Ker) (e : Nat) (f : Int → Int → Int → Int → R2) : R2 := f (gi K.ac (e * 4)) (gi K.ac (e * 4 + 1)) (gi K.ac (e * 4 + 2)) (gi K.ac (e * 4 + 3))
/-- an answer of chapter 2 put into the account of e, where it has no code -/
def put3 (K : Ker) (e : Nat) (r : R2) : Ker := if r.1 = 0 then { K with ac := setAcc K.ac e r.2.1 r.2.2.1 r.2.2.2.1 r.2.2.2.2.1 } else K
/-- whose slot it is -/
def own3 (K : Ker) : Int := gi K.os ((K.tick / 9) % (K.os.length : Int)).toNat
def begin3 (K : Ker) : Ker × List Int :=
  if own3 K = -1 then (K, [K.tick, -1, 3])
  else if 0 < gi K.ac ((own3 K).toNat * 4 + 3) then (put3 K (own3 K).toNat (acf K (own3 K).toNat skip2), [K.tick, own3 K, 2])
  else ({ K with run := own3 K }, [K.tick, own3 K, 1])
def act3 (K : Ker) (k to : Int) : Ker × List Int :=
  if k = 2 then ({ K with run := -1 }, [K.tick, K.run, 5])
  else if k = 3 ∧ ¬ (6 ≤ K.tick % 9) ∧ gb K.al to.toNat = true ∧ to ≠ K.run then (put3 { K with run := to } to.toNat (acf K to.toNat give2), [K.tick, to, 4])
  else (put3 K K.run.toNat (acf K K.run.toNat (fun u x g d => use2 u x g d (decide (6 ≤ K.tick % 9)))), [])
def end3 (K : Ker) : Ker × List Int :=
  ({ put3 K K.run.toNat (acf K K.run.toNat pun2) with run := -1 }, [K.tick, K.run, if (acf K K.run.toNat pun2).2.2.2.2.2 = true then 7 else 6])
def tickB (K : Ker) : Ker × List Int := if K.tick % 9 = 0 then begin3 K else (K, [])
def tickA (K : Ker) (k to : Int) : Ker × List Int := if K.run ≠ -1 then act3 K k to else (K, [])
def tickE (K : Ker) : Ker × List Int := if K.tick % 9 = 8 ∧ K.run ≠ -1 then end3 K else (K, [])
def tick3 (K : Ker) (k to : Int) : Ker × List Int :=
  ({ (tickE (tickA (tickB K).1 k to).1).1 with tick := K.tick + 1 }, (tickB K).2 ++ (tickA (tickB K).1 k to).2 ++ (tickE (tickA (tickB K).1 k to).1).2)

/-- what a tick needs of a kernel, and keeps -/
structure TK (K : Ker) : Prop where
  l1 : 1 ≤ K.os.length ∧ K.os.length ≤ 12
  l2 : K.al.length = 4
  l3 : K.ac.length = 16
  os : ∀ i, i < K.os.length → gi K.os i = -1 ∨ (0 ≤ gi K.os i ∧ gi K.os i < 4)
  ac : ∀ e, e < 4 → afk K e = 0
  tick : 0 ≤ K.tick ∧ K.tick < 100000
  run : K.run = -1 ∨ (0 ≤ K.run ∧ K.run < 4)
theorem setAcc_gi (ac : List Int) (e k : Nat) (u x g d : Int) (h : e * 4 + 3 < ac.length) : gi (setAcc ac e u x g d) k = if k = e * 4 then u else if k = e * 4 + 1 then x else if k = e * 4 + 2 then g else if k = e * 4 + 3 then d else gi ac k := by
  unfold setAcc
  rw [gi_set, gi_set, gi_set, gi_set]
  simp only [List.length_set]
  by_cases e3 : k = e * 4 + 3
  · subst e3; simp [h]
  by_cases e2 : k = e * 4 + 2
  · subst e2; simp; omega
  by_cases e1 : k = e * 4 + 1
  · subst e1; simp; omega
  by_cases e0 : k = e * 4
  · subst e0; simp; omega
  simp [e0, e1, e2, e3]
/-- an answer that has no code has an account that is right -/
def good (r : R2) : Prop := r.1 = 0 → af r.2.1 r.2.2.1 r.2.2.2.1 r.2.2.2.2.1 = 0
theorem good_use (u x g d : Int) (l : Bool) : good (use2 u x g d l) := by
  unfold good use2
  by_cases h0 : af u x g d = 0
  · obtain ⟨h1, h2, h3, h4⟩ := af_zero h0
    rw [if_neg (by simp [h0])]
    by_cases hl : l = true
    · rw [if_pos hl]
      by_cases hx : 1000000 ≤ x
      · rw [if_pos hx]; intro h; simp at h
      · rw [if_neg hx]; intro _; refine af_ok ?_; dsimp only; omega
    · rw [if_neg hl]
      by_cases hx : 1000000 ≤ u
      · rw [if_pos hx]; intro h; simp at h
      · rw [if_neg hx]; intro _; refine af_ok ?_; dsimp only; omega
  · rw [if_pos h0]; intro h; exact absurd h h0
theorem good_give (u x g d : Int) : good (give2 u x g d) := by
  unfold good give2
  by_cases h0 : af u x g d = 0
  · obtain ⟨h1, h2, h3, h4⟩ := af_zero h0
    rw [if_neg (by simp [h0])]
    by_cases hx : 1000000 ≤ g
    · rw [if_pos hx]; intro h; simp at h
    · rw [if_neg hx]; intro _; refine af_ok ?_; dsimp only; omega
  · rw [if_pos h0]; intro h; exact absurd h h0
theorem good_pun (u x g d : Int) : good (pun2 u x g d) := by
  unfold good pun2
  by_cases h0 : af u x g d = 0
  · obtain ⟨h1, h2, h3, h4⟩ := af_zero h0
    rw [if_neg (by simp [h0])]
    by_cases hx : 3 ≤ d
    · rw [if_pos hx]; intro h; exact h0
    · rw [if_neg hx]; intro _; refine af_ok ?_; dsimp only; omega
  · rw [if_pos h0]; intro h; exact absurd h h0
theorem good_skip (u x g d : Int) : good (skip2 u x g d) := by
  unfold good skip2
  by_cases h0 : af u x g d = 0
  · obtain ⟨h1, h2, h3, h4⟩ := af_zero h0
    rw [if_neg (by simp [h0])]
    by_cases hx : d = 0
    · rw [if_pos hx]; intro h; simp at h
    · rw [if_neg hx]; intro _; refine af_ok ?_; dsimp only; omega
  · rw [if_pos h0]; intro h; exact absurd h h0
theorem put3_os (K : Ker) (e : Nat) (r : R2) : (put3 K e r).os = K.os ∧ (put3 K e r).al = K.al ∧ (put3 K e r).tick = K.tick ∧ (put3 K e r).run = K.run := by
  unfold put3; split <;> exact ⟨rfl, rfl, rfl, rfl⟩
theorem put3_ac {K : Ker} {e : Nat} {r : R2} (h : TK K) (he : e < 4) (hr : good r) : (put3 K e r).ac.length = 16 ∧ ∀ j, j < 4 → afk (put3 K e r) j = 0 := by
  unfold put3
  split
  · rename_i h0
    have hg := hr h0
    refine ⟨by simp [setAcc_len, h.l3], fun j hj => ?_⟩
    unfold afk
    simp only
    have hl : e * 4 + 3 < K.ac.length := by rw [h.l3]; omega
    rw [setAcc_gi _ _ _ _ _ _ _ hl, setAcc_gi _ _ _ _ _ _ _ hl, setAcc_gi _ _ _ _ _ _ _ hl, setAcc_gi _ _ _ _ _ _ _ hl]
    by_cases hje : j = e
    · subst hje
      simp
      simpa using hg
    · have := h.ac j hj
      unfold afk at this
      rw [if_neg (by omega), if_neg (by omega), if_neg (by omega), if_neg (by omega), if_neg (by omega), if_neg (by omega), if_neg (by omega), if_neg (by omega), if_neg (by omega), if_neg (by omega), if_neg (by omega), if_neg (by omega), if_neg (by omega), if_neg (by omega), if_neg (by omega), if_neg (by omega)]
      exact this
  · exact ⟨h.l3, h.ac⟩
theorem TK.put {K : Ker} {e : Nat} {r : R2} (h : TK K) (he : e < 4) (hr : good r) : TK (put3 K e r) := by
  obtain ⟨a, b, c, d⟩ := put3_os K e r
  obtain ⟨p, q⟩ := put3_ac h he hr
  exact ⟨by rw [a]; exact h.l1, by rw [b]; exact h.l2, p, by rw [a]; exact h.os, q, by rw [c]; exact h.tick, by rw [d]; exact h.run⟩
theorem TK.setRun {K : Ker} (h : TK K) {r : Int} (hr : r = -1 ∨ (0 ≤ r ∧ r < 4)) : TK { K with run := r } := ⟨h.l1, h.l2, h.l3, h.os, h.ac, h.tick, hr⟩
theorem TK.slot {K : Ker} (h : TK K) : ((K.tick / 9) % (K.os.length : Int)).toNat < K.os.length ∧ 0 ≤ (K.tick / 9) % (K.os.length : Int) := by
  have h1 := h.l1
  have h2 : (0 : Int) < (K.os.length : Int) := by omega
  have := Int.emod_nonneg (K.tick / 9) (by omega : (K.os.length : Int) ≠ 0)
  have := Int.emod_lt_of_pos (K.tick / 9) h2
  omega
theorem TK.own {K : Ker} (h : TK K) : own3 K = -1 ∨ (0 ≤ own3 K ∧ own3 K < 4) := h.os _ h.slot.1
theorem TK.begin {K : Ker} (h : TK K) : TK (begin3 K).1 := by
  unfold begin3
  have ho := h.own
  split
  · exact h
  · split
    · exact h.put (by omega) (good_skip _ _ _ _)
    · exact h.setRun ho
theorem TK.act {K : Ker} (h : TK K) (hr : K.run ≠ -1) (k to : Int) (ht : 0 ≤ to ∧ to < 4) : TK (act3 K k to).1 := by
  unfold act3
  have := h.run
  split
  · exact h.setRun (.inl rfl)
  · split
    · exact (h.setRun (.inr ht)).put (by omega) (good_give _ _ _ _)
    · exact h.put (by omega) (good_use _ _ _ _ _)
theorem TK.last {K : Ker} (h : TK K) (hr : K.run ≠ -1) : TK (end3 K).1 := by
  have := h.run
  exact (h.put (e := K.run.toNat) (by omega) (good_pun _ _ _ _)).setRun (.inl rfl)

end Go.Proofs.YtlallklfilmcnaaGreat

-- Spec3t
namespace Go.Proofs.YtlallklfilmcnaaGreat
open Go.RowKit
set_option maxRecDepth 100000

theorem specSlot_any {w : World} {g : Nat} {p : Kp} {K : Ker} (h : KB w g p K) (t : TK K) :
    Calls Tryz.prog 147 #[.pointer (some ⟨g, 0, none⟩)] w fun e w' => e = .returned (.int .i64 ((K.tick / 9) % (K.os.length : Int))) ∧ Kept [] w w' := by
  obtain ⟨q0, q1, q2, q3, q4⟩ := h.cells
  have hl := h.own.l1
  obtain ⟨a, ha⟩ : ∃ a, a = K.tick / 9 := ⟨_, rfl⟩
  obtain ⟨s, hs⟩ : ∃ s, s = a % (K.os.length : Int) := ⟨_, rfl⟩
  have t1 := t.tick
  have t2 := t.l1
  have h1 : K.tick.tdiv 9 = a := by rw [ha]; exact Int.tdiv_eq_ediv_of_nonneg t1.1
  have h2 : IntKind.i64.wrap a = a := IntWalk.i64_in _ (by omega)
  have h3 : a.tmod (p.n1 : Int) = s := by rw [hs, hl]; exact Int.tmod_eq_emod_of_nonneg (by omega)
  have sl := t.slot
  have h4 : IntKind.i64.wrap s = s := IntWalk.i64_in _ (by rw [hs, ha]; omega)
  have hn : ¬ ((p.n1 : Int) = 0) := by omega
  have hn' : p.n1 ≠ 0 := by omega
  have HS := Lib.hid (show s = (K.tick / 9) % (K.os.length : Int) by rw [hs, ha])
  have KK := Lib.hid (show ∀ n, Kept [] w (w.drewN n) from fun n => (Kept.refl [] w).drewN n)
  clear ha hs t1 t2 sl hl t h
  go_enter Tryz.func147, Tryz.ntmps147
  go_wp2_with fail
  go_quiet (fail)
  go_wp2
  go_ret
  exact ⟨ret_i64 HS.out, KK.out _⟩

set_option maxHeartbeats 1000000 in
theorem specPut_any {w : World} {g : Nat} {p : Kp} {K : Ker} (h : KB w g p K) (e : Nat) (he : e < 4) (r : R2) :
    Calls Tryz.prog 176 #[.pointer (some ⟨g, 0, none⟩), .int .i64 (e : Int), rv r] w fun e' w' => e' = .returned (.tuple #[]) ∧ KB w' g p (put3 K e r) ∧ Kept [p.g3] w w' := by
  obtain ⟨q, u, x, y, d, b, rfl⟩ := six r
  rw [rv_eq]
  obtain ⟨w1, hw1⟩ : ∃ w1, w1 = w.alloc (.cells #[.int .i64 q, .int .i64 u, .int .i64 x, .int .i64 y, .int .i64 d, .bool b] 189) := ⟨_, rfl⟩
  have k1 : w1.heap[w.heap.size]? = some (.cells #[.int .i64 q, .int .i64 u, .int .i64 x, .int .i64 y, .int .i64 d, .bool b] 189 (0, 0)) := by rw [hw1]; exact heap_alloc_new w _
  have X1 := Lib.hid (show Kept [] w w1 by rw [hw1]; exact (Kept.refl _ _).alloc _)
  have H1 := Lib.hid (h.kept X1.out (by simp) (by simp) (by simp) (by simp))
  have b0 := cell_of_row w1 _ 0 _ _ _ k1; have b1 := cell_of_row w1 _ 1 _ _ _ k1; have b2 := cell_of_row w1 _ 2 _ _ _ k1; have b3 := cell_of_row w1 _ 3 _ _ _ k1; have b4 := cell_of_row w1 _ 4 _ _ _ k1
  simp at b0 b1 b2 b3 b4
  obtain ⟨q0, q1, q2, q3, q4⟩ := H1.out.cells
  obtain ⟨o3, hA3, hR3⟩ := H1.out.accs
  have HA3 := Lib.hid hA3
  rw [hA3] at q2
  have c0 : w1.cell? ⟨p.g3, o3 + e * 4, none⟩ = some (.int .i64 (gi K.ac (e * 4))) := hR3.cell (k := e * 4) (by omega)
  have c1 : w1.cell? ⟨p.g3, o3 + e * 4 + 1, none⟩ = some (.int .i64 (gi K.ac (e * 4 + 1))) := hR3.cell (k := e * 4 + 1) (by omega)
  have c2 : w1.cell? ⟨p.g3, o3 + e * 4 + 2, none⟩ = some (.int .i64 (gi K.ac (e * 4 + 2))) := hR3.cell (k := e * 4 + 2) (by omega)
  have c3 : w1.cell? ⟨p.g3, o3 + e * 4 + 3, none⟩ = some (.int .i64 (gi K.ac (e * 4 + 3))) := hR3.cell (k := e * 4 + 3) (by omega)
  have f0 := hR3.frozen (o3 + e * 4); have f1 := hR3.frozen (o3 + e * 4 + 1); have f2 := hR3.frozen (o3 + e * 4 + 2); have f3 := hR3.frozen (o3 + e * 4 + 3)
  have z0 : (0 : Int) ≤ (e : Int) := by omega
  have z1 : (e : Int) < 4 := by omega
  have HW1 := Lib.hid hw1
  clear k1 hw1 h hA3 hR3 q0 q1 q3 q4
  by_cases hq : q = 0
  · subst hq
    have PE : Hid (put3 K e (0, u, x, y, d, b) = { K with ac := setAcc K.ac e u x y d }) := by show _ = _; unfold put3; rw [if_pos rfl]
    go_enter Tryz.func176, Tryz.ntmps176
    go_upto_region 1 with (fail)
    rw [← HW1.out]
    clear HW1
    go_wp2_with fail
    go_region
    all_goals
      go_end0
      exact ⟨rfl, by rw [PE.out]; exact (H1.out.setAccount HA3.out he u x y d).drew, ((X1.out.mono (by simp)).set4 (by simp) _ _ _ _).drew⟩
  · have PE : Hid (put3 K e (q, u, x, y, d, b) = K) := by show _ = _; unfold put3; rw [if_neg hq]
    go_enter Tryz.func176, Tryz.ntmps176
    go_upto_region 1 with (fail)
    rw [← HW1.out]
    clear HW1
    go_wp2
    go_end0
    exact ⟨rfl, by rw [PE.out]; exact H1.out, X1.out.mono (by simp)⟩

end Go.Proofs.YtlallklfilmcnaaGreat

-- Spec3u
namespace Go.Proofs.YtlallklfilmcnaaGreat
open Go.RowKit
set_option maxRecDepth 100000

set_option maxHeartbeats 2000000 in
theorem specBegin_any {w : World} {g : Nat} {p : Kp} {K : Ker} (h : KB w g p K) (t : TK K) :
    Calls Tryz.prog 144 #[.pointer (some ⟨g, 0, none⟩)] w (fun e w' => ∃ a b c : Int, e = .returned (.agg #[.int .i64 a, .int .i64 b, .int .i64 c]) ∧ (begin3 K).2 = [a, b, c] ∧ KB w' g p (begin3 K).1 ∧ Kept [g, p.g3] w w') := by
  obtain ⟨w1, hw1⟩ : ∃ w1, w1 = w.alloc (.cells #[.int .i64 0, .int .i64 0, .int .i64 0] 68) := ⟨_, rfl⟩
  have RB := Lib.hid (show w1.heap[w.heap.size]? = some (.cells #[.int .i64 0, .int .i64 0, .int .i64 0] 68 (0, 0)) by rw [hw1]; exact heap_alloc_new w _)
  have X1 := Lib.hid (show Kept [g, p.g3] w w1 by rw [hw1]; exact (Kept.refl _ _).alloc _)
  have X0 := Lib.hid (show Kept [] w w1 by rw [hw1]; exact (Kept.refl _ _).alloc _)
  have NE := Lib.hid (show g < w.heap.size ∧ p.g1 < w.heap.size ∧ p.g2 < w.heap.size ∧ p.g3 < w.heap.size from ⟨h.lt, h.lt1 (by have := h.own.l1; have := t.l1; omega), h.lt2.1, h.lt2.2⟩)
  have H1 := Lib.hid (h.kept X0.out (by simp) (by simp) (by simp) (by simp))
  have Z1 := Lib.hid (show w1.heap.size = w.heap.size + 1 by rw [hw1]; simp)
  have TT := Lib.hid t
  have HW1 := Lib.hid hw1
  have SL := Lib.hid t.slot
  have l1 := h.own.l1
  obtain ⟨s, hs⟩ : ∃ s : Nat, s = ((K.tick / 9) % (K.os.length : Int)).toNat := ⟨_, rfl⟩
  have es : (K.tick / 9) % (K.os.length : Int) = (s : Int) := by have := SL.out; omega
  have hsn : s < p.n1 := by have := SL.out; omega
  have HO := Lib.hid (show own3 K = gi K.os s by unfold own3; rw [hs])
  have TO := Lib.hid t.own
  clear hw1 h t
  have z0 : (0 : Int) ≤ (s : Int) := by omega
  have z1 : (s : Int) < (p.n1 : Int) := by omega
  have SC : Hid (∀ W, KB W g p K → Calls Tryz.prog 147 #[.pointer (some ⟨g, 0, none⟩)] W fun e w' => e = .returned (.int .i64 (s : Int)) ∧ Kept [] W w') := fun W hW => by
    have := specSlot_any hW TT.out
    rw [es] at this
    exact this
  obtain ⟨b, off, hA1, _, _, _⟩ := H1.out.own.m1.sl.at_ hsn
  have FC : Hid (∀ W, KB W g p K → (W.cell? ⟨g, 0, none⟩ = some (.slice (some ⟨b, off, none⟩) p.n1 p.c1) ∧ W.cell? ⟨g, 3, none⟩ = some (.int .i64 K.tick)) ∧ W.cell? ⟨b, off + s, none⟩ = some (.int .i64 (own3 K))) := fun W hW => by
    obtain ⟨r0, _, _, r3, _⟩ := hW.cells
    obtain ⟨b', off', hA2, _, _, hc⟩ := hW.own.m1.sl.at_ hsn
    rw [hA1] at hA2 r0
    injection hA2 with hA2
    injection hA2 with e1 e2
    subst e1 e2
    have c := hc s hsn
    rw [← HO.out] at c
    exact ⟨⟨r0, r3⟩, c⟩
  clear hA1 hs es hsn l1
  obtain ⟨⟨q0, q3⟩, c0⟩ := FC.out w1 H1.out
  go_enter Tryz.func144, Tryz.ntmps144
  go_upto_region 1 with (fail)
  rw [← HW1.out]
  clear HW1
  refine wp_region_held_drew (S := fun W => ((W.cell? ⟨g, 0, none⟩ = some (.slice (some ⟨b, off, none⟩) p.n1 p.c1) ∧ W.cell? ⟨g, 3, none⟩ = some (.int .i64 K.tick)) ∧ W.cell? ⟨b, off + s, none⟩ = some (.int .i64 (own3 K)))) (by kernel_rfl) (⟨⟨q0, q3⟩, c0⟩) (fun hHeld => ?_)
  obtain ⟨v0, hv0⟩ : ∃ v0, v0 = w1.drew := ⟨_, rfl⟩
  have BL0 : Hid (Below w1.heap.size w1 v0) := by rw [hv0]; exact Below.drew (Below.refl _ _)
  rw [← hv0] at hHeld ⊢
  clear hv0
  refine wpAnyH_take (i := 0) (oi := _) (v := ?_) rfl (by kernel_rfl) (by kernel_rfl) (by kernel_rfl) (fun _ _ _ h => h) (Or.inl ⟨by rfl, ?_⟩) hHeld ?_
  rotate_left
  · (intro w hSw; (try dsimp only at hSw); go_simp; try with_reducible rfl)
  try simp only [Act.put, List.getElem_toArray, List.getElem_cons_succ, List.getElem_cons_zero, List.setIfInBounds_toArray, List.set_cons_zero, List.set_cons_succ]
  refine wpAnyH_take (i := 1) (oi := _) (v := ?_) rfl (by kernel_rfl) (by kernel_rfl) (by kernel_rfl) (fun _ _ _ h => h) (Or.inl ⟨by rfl, ?_⟩) hHeld ?_
  rotate_left
  · (intro w hSw; (try dsimp only at hSw); go_simp; try with_reducible rfl)
  try simp only [Act.put, List.getElem_toArray, List.getElem_cons_succ, List.getElem_cons_zero, List.setIfInBounds_toArray, List.set_cons_zero, List.set_cons_succ]
  refine wpAnyH_take (i := 2) (oi := _) (v := ?_) rfl (by kernel_rfl) (by kernel_rfl) (by kernel_rfl) (fun _ _ _ h => h) (Or.inl ⟨by rfl, ?_⟩) hHeld ?_
  rotate_left
  · (intro w hSw; (try dsimp only at hSw); go_simp; try with_reducible rfl)
  try simp only [Act.put, List.getElem_toArray, List.getElem_cons_succ, List.getElem_cons_zero, List.setIfInBounds_toArray, List.set_cons_zero, List.set_cons_succ]
  refine wpAnyH_take (i := 3) (oi := _) (v := ?_) rfl (by kernel_rfl) (by kernel_rfl) (by kernel_rfl) (fun _ _ _ h => h) (Or.inl ⟨by rfl, ?_⟩) hHeld ?_
  rotate_left
  · (intro w hSw; (try dsimp only at hSw); go_simp; try with_reducible rfl)
  try simp only [Act.put, List.getElem_toArray, List.getElem_cons_succ, List.getElem_cons_zero, List.setIfInBounds_toArray, List.set_cons_zero, List.set_cons_succ]
  refine wpAnyH_take (i := 4) (oi := _) (v := ?_) rfl (by kernel_rfl) (by kernel_rfl) (by kernel_rfl) (fun _ _ _ h => h) (Or.inl ⟨by rfl, ?_⟩) hHeld ?_
  rotate_left
  · (intro w hSw; (try dsimp only at hSw); go_simp; try with_reducible rfl)
  try simp only [Act.put, List.getElem_toArray, List.getElem_cons_succ, List.getElem_cons_zero, List.setIfInBounds_toArray, List.set_cons_zero, List.set_cons_succ]
  refine wpAnyH_ready (rs := [5]) (by kernel_rfl) (by simp) ?_
  refine AllReadyH.cons (o := _) rfl (fun K0 hK0 => ?_) AllReadyH.nil
  go_simp
  refine (SC.out v0 (H1.out.kept (Kept.of_below BL0.out []) (by simp) (by simp) (by simp) (by simp))).mono ?_
  rintro e9 w3 ⟨rfl, hk⟩
  have H2 := Lib.hid (H1.out.kept (Kept.of_below BL0.out []) (by simp) (by simp) (by simp) (by simp))
  have H3 := Lib.hid (H2.out.kept hk (by simp) (by simp) (by simp) (by simp))
  have X3 := Lib.hid (X1.out.trans (((Kept.of_below BL0.out []).trans hk).mono (gs' := [g, p.g3]) (by simp)))
  have R3 := Lib.hid ((hk.2 w.heap.size (by have := BL0.out.size; have := Z1.out; omega) (by simp)).trans ((BL0.out.block w.heap.size (by have := Z1.out; omega)).trans RB.out))
  have Z3 := Lib.hid (show w.heap.size < w3.heap.size from (Array.getElem?_eq_some_iff.1 R3.out).1)
  clear hk H2
  go_wp2_with fail
  refine hK0.out _ _ (FC.out _ H3.out) (fun hHeld => ?_)
  clear hK0 K0
  try simp only [Act.put, List.getElem_toArray, List.getElem_cons_succ, List.getElem_cons_zero, List.setIfInBounds_toArray, List.set_cons_zero, List.set_cons_succ]
  refine wpAnyH_take (i := 6) (oi := _) (v := ?_) rfl (by kernel_rfl) (by kernel_rfl) (by kernel_rfl) (fun _ _ _ h => h) (Or.inl ⟨by rfl, ?_⟩) hHeld ?_
  rotate_left
  · (intro w hSw; (try dsimp only at hSw); go_simp; try with_reducible rfl)
  try simp only [Act.put, List.getElem_toArray, List.getElem_cons_succ, List.getElem_cons_zero, List.setIfInBounds_toArray, List.set_cons_zero, List.set_cons_succ]
  refine wpAnyH_take (i := 7) (oi := _) (v := ?_) rfl (by kernel_rfl) (by kernel_rfl) (by kernel_rfl) (fun _ _ _ h => h) (Or.inl ⟨by rfl, ?_⟩) hHeld ?_
  rotate_left
  · (intro w hSw; (try dsimp only at hSw); go_simp; try with_reducible rfl)
  try simp only [Act.put, List.getElem_toArray, List.getElem_cons_succ, List.getElem_cons_zero, List.setIfInBounds_toArray, List.set_cons_zero, List.set_cons_succ]
  refine wpAnyH_take (i := 8) (oi := _) (v := ?_) rfl (by kernel_rfl) (by kernel_rfl) (by kernel_rfl) (fun _ _ _ h => h) (Or.inl ⟨by rfl, ?_⟩) hHeld ?_
  rotate_left
  · (intro w hSw; (try dsimp only at hSw); go_simp; try with_reducible rfl)
  try simp only [Act.put, List.getElem_toArray, List.getElem_cons_succ, List.getElem_cons_zero, List.setIfInBounds_toArray, List.set_cons_zero, List.set_cons_succ]
  refine wpAnyH_done (by kernel_rfl) ?_ _
  clear q0 q3 c0 H1 X1 RB SC
  obtain ⟨⟨q0, q3⟩, c0⟩ := FC.out w3 H3.out
  go_upto_region 2 with (fail)
  obtain ⟨o, ho⟩ : ∃ o, o = own3 K := ⟨_, rfl⟩
  rw [← ho] at c0 ⊢
  have HOO := Lib.hid ho
  have TO := Lib.hid (show o = -1 ∨ (0 ≤ o ∧ o < 4) by rw [ho]; exact TO.out)
  clear ho
  go_upto_region 4 with (fail)
  obtain ⟨w4, hw4⟩ : ∃ w4, w4 = w3.alloc (.cells #[.int .i64 K.tick, .int .i64 o, .int .i64 1] 68) := ⟨_, rfl⟩
  obtain ⟨b4, hb4⟩ : ∃ b4, b4 = w3.heap.size := ⟨_, rfl⟩
  rw [← hw4, ← hb4]
  have X4 := Lib.hid (show Kept [g, p.g3] w w4 by rw [hw4]; exact X3.out.alloc _)
  have K34 : Kept [] w3 w4 := by rw [hw4]; exact (Kept.refl _ _).alloc _
  have H4 := Lib.hid (H3.out.kept K34 (by simp) (by simp) (by simp) (by simp))
  have R4 := Lib.hid ((K34.2 w.heap.size Z3.out (by simp)).trans R3.out)
  have N4 := Lib.hid (show w4.heap[b4]? = some (.cells #[.int .i64 K.tick, .int .i64 o, .int .i64 1] 68 (0, 0)) by rw [hw4, hb4]; exact heap_alloc_new w3 _)
  have Z4 := Lib.hid (show w.heap.size < b4 by rw [hb4]; exact Z3.out)
  clear hw4 hb4 K34 q0 q3 c0 H3 X3 R3 Z3 FC
  obtain ⟨q0, q1, q2, q3, q4⟩ := H4.out.cells
  by_cases h1 : o = -1
  · have BE : Hid (begin3 K = (K, [K.tick, -1, 3])) := by show _ = _; unfold begin3; rw [← HOO.out, if_pos h1]
    subst h1
    clear q0 q1 q2 q4
    have r4 := R4.out
    have x0 := cell_of_row w4 _ 0 _ _ _ r4; have x1 := cell_of_row w4 _ 1 _ _ _ r4; have x2 := cell_of_row w4 _ 2 _ _ _ r4
    have f0 := frozen_of_row w4 _ 0 _ _ r4; have f1 := frozen_of_row w4 _ 1 _ _ r4; have f2 := frozen_of_row w4 _ 2 _ _ r4
    simp at x0 x1 x2
    clear r4
    go_wp2
    exact bodyPost_ret (results_cell_row rfl _ _ _ _ _ (0, 0) _ rfl (heap_setCell_same _ _ 2 _ _ _ (heap_setCell_same _ _ 1 _ _ _ (heap_setCell_same _ _ 0 _ _ _ R4.out))) Tryz.underlying68 rfl (by kernel_rfl)) rfl ⟨_, _, _, rfl, by rw [BE.out], by rw [BE.out]; exact H4.out.kept ((((Kept.refl [w.heap.size] w4).setCell (p := ⟨w.heap.size, 0, none⟩) (by simp) _).setCell (p := ⟨w.heap.size, 1, none⟩) (by simp) _).setCell (p := ⟨w.heap.size, 2, none⟩) (by simp) _) (by have := NE.out; simp; omega) (by have := NE.out; simp; omega) (by have := NE.out; simp; omega) (by have := NE.out; simp; omega), (((X4.out.setNew (p := ⟨w.heap.size, 0, none⟩) (Nat.le_refl _) _).setNew (p := ⟨w.heap.size, 1, none⟩) (Nat.le_refl _) _).setNew (p := ⟨w.heap.size, 2, none⟩) (Nat.le_refl _) _)⟩
  · obtain ⟨e, he⟩ : ∃ e : Nat, o = (e : Int) := ⟨o.toNat, by have := TO.out; omega⟩
    have he4 : e < 4 := by have := TO.out; omega
    have HE : Hid (own3 K ≠ -1 ∧ (own3 K).toNat = e ∧ own3 K = (e : Int)) := by show _ ∧ _ ∧ _; rw [← HOO.out]; exact ⟨h1, by omega, he⟩
    subst he
    have y0 : (0 : Int) ≤ (e : Int) := by omega
    have y1 : (e : Int) < 4 := by omega
    have y2 : ((e : Int) == -1) = false := by first | (simp; done) | (simp; omega)
    obtain ⟨o3, hA3, hR3⟩ := H4.out.accs
    rw [hA3] at q2
    have HA3 := Lib.hid hA3; have HR3 := Lib.hid hR3
    have a0 : w4.cell? ⟨p.g3, o3 + e * 4, none⟩ = some (.int .i64 (gi K.ac (e * 4))) := hR3.cell (k := e * 4) (by omega)
    have a1 : w4.cell? ⟨p.g3, o3 + e * 4 + 1, none⟩ = some (.int .i64 (gi K.ac (e * 4 + 1))) := hR3.cell (k := e * 4 + 1) (by omega)
    have a2 : w4.cell? ⟨p.g3, o3 + e * 4 + 2, none⟩ = some (.int .i64 (gi K.ac (e * 4 + 2))) := hR3.cell (k := e * 4 + 2) (by omega)
    have a3 : w4.cell? ⟨p.g3, o3 + e * 4 + 3, none⟩ = some (.int .i64 (gi K.ac (e * 4 + 3))) := hR3.cell (k := e * 4 + 3) (by omega)
    clear h1 hA3 hR3
    have n4 := N4.out
    have m0 := cell_of_row w4 _ 0 _ _ _ n4; have m1 := cell_of_row w4 _ 1 _ _ _ n4; have m2 := cell_of_row w4 _ 2 _ _ _ n4
    simp at m0 m1 m2
    clear n4
    by_cases hd : 0 < gi K.ac (e * 4 + 3)
    · have BE : Hid (begin3 K = (put3 K e (acf K e skip2), [K.tick, (e : Int), 2])) := by
        show _ = _
        unfold begin3
        rw [if_neg HE.out.1, HE.out.2.1, if_pos hd, HE.out.2.2]
      clear m0 m1 m2
      go_wp2_with fail
      refine (specSkipAccount_any _ _ _ _ _).mono ?_
      rintro e9 w5 ⟨rfl, hb⟩
      have H5 := Lib.hid (H4.out.kept (Kept.of_below hb []) (by simp) (by simp) (by simp) (by simp))
      have X5 := Lib.hid (X4.out.then_below hb)
      have R5 := Lib.hid ((hb.block w.heap.size (Array.getElem?_eq_some_iff.1 R4.out).1).trans R4.out)
      have N5 := Lib.hid ((hb.block b4 (Array.getElem?_eq_some_iff.1 N4.out).1).trans N4.out)
      clear hb H4 X4 R4 N4 q0 q1 q2 q3 q4 a0 a1 a2 a3 HR3
      go_wp2_with fail
      refine (specPut_any H5.out e he4 _).mono ?_
      rintro e9 w6 ⟨rfl, hh, hk⟩
      have H6 := Lib.hid hh
      have X6 := Lib.hid (X5.out.trans (hk.mono (gs' := [g, p.g3]) (by simp)))
      have R6 := Lib.hid ((hk.2 w.heap.size (Array.getElem?_eq_some_iff.1 R5.out).1 (by have := NE.out; simp; omega)).trans R5.out)
      have N6 := Lib.hid ((hk.2 b4 (Array.getElem?_eq_some_iff.1 N5.out).1 (by have := NE.out; have := Z4.out; simp; omega)).trans N5.out)
      clear hh hk H5 X5 R5 N5
      have n6 := N6.out; have r6 := R6.out
      have m0 := cell_of_row w6 _ 0 _ _ _ n6; have m1 := cell_of_row w6 _ 1 _ _ _ n6; have m2 := cell_of_row w6 _ 2 _ _ _ n6
      have g2 := frozen_of_row w6 _ 2 _ _ n6
      have x0 := cell_of_row w6 _ 0 _ _ _ r6; have x1 := cell_of_row w6 _ 1 _ _ _ r6; have x2 := cell_of_row w6 _ 2 _ _ _ r6
      have f0 := frozen_of_row w6 _ 0 _ _ r6; have f1 := frozen_of_row w6 _ 1 _ _ r6; have f2 := frozen_of_row w6 _ 2 _ _ r6
      simp at m0 m1 m2 x0 x1 x2
      clear n6 r6
      have hne : b4 ≠ w.heap.size := by have := Z4.out; omega
      have hne' : w.heap.size ≠ b4 := by have := Z4.out; omega
      go_wp2
      exact bodyPost_ret (results_cell_row rfl _ _ _ _ _ (0, 0) _ rfl (heap_setCell_same _ _ 2 _ _ _ (heap_setCell_same _ _ 1 _ _ _ (heap_setCell_same _ _ 0 _ _ _ ((Below.heap_setCell w6 ⟨b4, 2, none⟩ (.int .i64 2) _ hne').trans R6.out)))) Tryz.underlying68 rfl (by kernel_rfl)) rfl ⟨_, _, _, rfl, by rw [BE.out], by rw [BE.out]; exact H6.out.kept (((((Kept.refl [w.heap.size, b4] w6).setCell (p := ⟨b4, 2, none⟩) (by simp) _).setCell (p := ⟨w.heap.size, 0, none⟩) (by simp) _).setCell (p := ⟨w.heap.size, 1, none⟩) (by simp) _).setCell (p := ⟨w.heap.size, 2, none⟩) (by simp) _) (by have := NE.out; have := Z4.out; simp; omega) (by have := NE.out; have := Z4.out; simp; omega) (by have := NE.out; have := Z4.out; simp; omega) (by have := NE.out; have := Z4.out; simp; omega), ((((X6.out.setNew (p := ⟨b4, 2, none⟩) (Nat.le_of_lt Z4.out) _).setNew (p := ⟨w.heap.size, 0, none⟩) (Nat.le_refl _) _).setNew (p := ⟨w.heap.size, 1, none⟩) (Nat.le_refl _) _).setNew (p := ⟨w.heap.size, 2, none⟩) (Nat.le_refl _) _)⟩
    · have BE : Hid (begin3 K = ({ K with run := (e : Int) }, [K.tick, (e : Int), 1])) := by
        show _ = _
        unfold begin3
        rw [if_neg HE.out.1, HE.out.2.1, if_neg hd, HE.out.2.2]
      have fg := frozen_of_row w4 _ 4 _ _ H4.out.box
      clear m0 m1 m2
      go_upto_region 9 with (fail)
      obtain ⟨w5, hw5⟩ : ∃ w5, w5 = w4.setCell ⟨g, 4, none⟩ (.int .i64 (e : Int)) := ⟨_, rfl⟩
      rw [← hw5]
      have H5 := Lib.hid (show KB w5 g p { K with run := (e : Int) } by rw [hw5]; exact H4.out.setRun _)
      have X5 := Lib.hid (show Kept [g, p.g3] w w5 by rw [hw5]; exact X4.out.setCell (p := ⟨g, 4, none⟩) (by simp) _)
      have R5 := Lib.hid (show w5.heap[w.heap.size]? = some (.cells #[.int .i64 0, .int .i64 0, .int .i64 0] 68 (0, 0)) by rw [hw5]; exact (Below.heap_setCell w4 ⟨g, 4, none⟩ _ _ (by have := NE.out; show w.heap.size ≠ g; omega)).trans R4.out)
      have N5 := Lib.hid (show w5.heap[b4]? = some (.cells #[.int .i64 K.tick, .int .i64 (e : Int), .int .i64 1] 68 (0, 0)) by rw [hw5]; exact (Below.heap_setCell w4 ⟨g, 4, none⟩ _ _ (by have := NE.out; have := Z4.out; show b4 ≠ g; omega)).trans N4.out)
      clear hw5 q0 q1 q2 q3 q4 fg a0 a1 a2 a3 H4 X4 R4 N4 HR3
      have n6 := N5.out; have r6 := R5.out
      have m0 := cell_of_row w5 _ 0 _ _ _ n6; have m1 := cell_of_row w5 _ 1 _ _ _ n6; have m2 := cell_of_row w5 _ 2 _ _ _ n6
      have x0 := cell_of_row w5 _ 0 _ _ _ r6; have x1 := cell_of_row w5 _ 1 _ _ _ r6; have x2 := cell_of_row w5 _ 2 _ _ _ r6
      have f0 := frozen_of_row w5 _ 0 _ _ r6; have f1 := frozen_of_row w5 _ 1 _ _ r6; have f2 := frozen_of_row w5 _ 2 _ _ r6
      simp at m0 m1 m2 x0 x1 x2
      clear n6 r6
      go_wp2
      exact bodyPost_ret (results_cell_row rfl _ _ _ _ _ (0, 0) _ rfl (heap_setCell_same _ _ 2 _ _ _ (heap_setCell_same _ _ 1 _ _ _ (heap_setCell_same _ _ 0 _ _ _ R5.out))) Tryz.underlying68 rfl (by kernel_rfl)) rfl ⟨_, _, _, rfl, by rw [BE.out], by rw [BE.out]; exact H5.out.kept ((((Kept.refl [w.heap.size, b4] w5).setCell (p := ⟨w.heap.size, 0, none⟩) (by simp) _).setCell (p := ⟨w.heap.size, 1, none⟩) (by simp) _).setCell (p := ⟨w.heap.size, 2, none⟩) (by simp) _) (by have := NE.out; have := Z4.out; simp; omega) (by have := NE.out; have := Z4.out; simp; omega) (by have := NE.out; have := Z4.out; simp; omega) (by have := NE.out; have := Z4.out; simp; omega), (((X5.out.setNew (p := ⟨w.heap.size, 0, none⟩) (Nat.le_refl _) _).setNew (p := ⟨w.heap.size, 1, none⟩) (Nat.le_refl _) _).setNew (p := ⟨w.heap.size, 2, none⟩) (Nat.le_refl _) _)⟩

end Go.Proofs.YtlallklfilmcnaaGreat

-- Own4
namespace Go.Proofs.YtlallklfilmcnaaGreat
open Go.RowKit

/-- a row of n elements of m numbers each, in a block made since base -/
def OR (t : TypeId) (m : Nat) (w : World) (base : Nat) (A : Option Addr) (n c : Nat) (hs : List Int) : Prop := w.ownsRow base t m (.slice A n c) n (vals hs)
section
variable {t : TypeId} {m : Nat} {w w' : World} {base n c g : Nat} {A : Option Addr} {hs : List Int}
theorem OR.len (h : OR t m w base A n c hs) : hs.length = n * m := by
  have := h.1
  simpa [vals] using this
theorem OR.at_ (h : OR t m w base A n c hs) (hn : A ≠ none) : ∃ g, A = some ⟨g, 0, none⟩ ∧ base ≤ g ∧ g < w.heap.size := by
  rcases h.2 with ⟨h', _⟩ | ⟨g', cap', cur, h', hb, hg, _⟩
  · injection h' with h' _ _; exact absurd h' hn
  · injection h' with h' _ _
    exact ⟨g', h', hb, (Array.getElem?_eq_some_iff.1 hg).1⟩
theorem OR.pos (h : OR t m w base A n c hs) (hn : 0 < n) : ∃ g, A = some ⟨g, 0, none⟩ ∧ base ≤ g ∧ g < w.heap.size := by
  refine h.at_ fun e => ?_
  rcases h.2 with ⟨_, h0⟩ | ⟨g', cap', cur, h', _⟩
  · omega
  · injection h' with h' _ _; rw [e] at h'; cases h'
theorem OR.cap (h : OR t m w base A n c hs) : n ≤ c := by
  rcases h.2 with ⟨h', h0⟩ | ⟨g', cap', cur, h', _, _, hn, _⟩
  · omega
  · injection h' with _ _ h'; omega
theorem OR.nil0 (h : OR t m w base none n c hs) : n = 0 ∧ c = 0 := by
  rcases h.2 with ⟨h', h0⟩ | ⟨g', cap', cur, h', _⟩
  · injection h' with _ _ h'; exact ⟨h0, h'⟩
  · injection h' with h' _ _; cases h'
theorem OR.cell (h : OR t m w base (some ⟨g, 0, none⟩) n c hs) {j : Nat} (hj : j < n * m) : w.cell? ⟨g, j, none⟩ = some (.int .i64 (gi hs j)) := by
  have h1 := World.ownsRow.cellAt h j hj
  rw [vals_get hs j (by rw [h.len]; exact hj)] at h1
  exact h1
theorem OR.frozen (h : OR t m w base (some ⟨g, 0, none⟩) n c hs) (j : Nat) : w.frozen? ⟨g, j, none⟩ = false := World.ownsRow.frozenAt h j
theorem OR.set (h : OR t m w base (some ⟨g, 0, none⟩) n c hs) (j : Nat) (v : Int) : OR t m (w.setCell ⟨g, j, none⟩ (.int .i64 v)) base (some ⟨g, 0, none⟩) n c (hs.set j v) := by
  have h1 := (World.ownsRow.stored h j (.int .i64 v)).1
  unfold OR
  rw [show vals (hs.set j v) = (vals hs).set j (.int .i64 v) by simp [vals, List.map_set]]
  exact h1
theorem OR.keepAll (h : OR t m w base A n c hs) (hw : ∀ g, A = some ⟨g, 0, none⟩ → w'.heap[g]? = w.heap[g]?) : OR t m w' base A n c hs := by
  refine ⟨h.1, ?_⟩
  rcases h.2 with h' | ⟨g', cap', cur, h', hb, hg, rest⟩
  · exact .inl h'
  · refine .inr ⟨g', cap', cur, h', hb, ?_, rest⟩
    injection h' with h' _ _
    exact (hw g' h').trans hg
theorem OR.lt (h : OR t m w base (some ⟨g, 0, none⟩) n c hs) : base ≤ g ∧ g < w.heap.size := by
  obtain ⟨g', e, h1, h2⟩ := h.at_ (by simp)
  injection e with e
  injection e with e
  subst e
  exact ⟨h1, h2⟩
theorem OR.below (h : OR t m w base A n c hs) {B : Nat} (hb : Below B w w') (hB : w.heap.size ≤ B) : OR t m w' base A n c hs :=
  h.keepAll fun g e => by
    subst e
    exact hb.block g (by have := h.lt; omega)
theorem OR.kept (h : OR t m w base A n c hs) {gs : List Nat} (k : Kept gs w w') (hg : ∀ g, A = some ⟨g, 0, none⟩ → g ∉ gs) : OR t m w' base A n c hs :=
  h.keepAll fun g e => by
    have := hg g e
    subst e
    exact k.2 g h.lt.2 this
theorem OR.mono (h : OR t m w base A n c hs) {base' : Nat} (hb : base' ≤ base) : OR t m w base' A n c hs := by
  refine ⟨h.1, ?_⟩
  rcases h.2 with h' | ⟨g', cap', cur, h', hb', rest⟩
  · exact .inl h'
  · exact .inr ⟨g', cap', cur, h', by omega, rest⟩
/-- the base may be as high as the block's own number -/
theorem OR.high (h : OR t m w base (some ⟨g, 0, none⟩) n c hs) : OR t m w g (some ⟨g, 0, none⟩) n c hs := by
  refine ⟨h.1, ?_⟩
  rcases h.2 with ⟨h', _⟩ | ⟨g', cap', cur, h', hb', rest⟩
  · cases h'
  · refine .inr ⟨g', cap', cur, h', ?_, rest⟩
    injection h' with h' _ _
    injection h' with h'
    injection h' with h'
    omega
theorem OR.row (h : OR t m w base (some ⟨g, 0, none⟩) n c hs) : Row w g 0 t (n * m) (fun k => .int .i64 (gi hs k)) := by
  rcases h.2 with ⟨h', _⟩ | ⟨g', cap', cur, h', hb', hg, _, _, _, ht⟩
  · cases h'
  · injection h' with h' _ _
    injection h' with h'
    injection h' with h'
    subst h'
    refine ⟨cur, hg, fun k hk => ?_⟩
    have h1 := vals_get hs k (by rw [h.len]; exact hk)
    rw [← ht, List.getElem?_take, if_pos hk] at h1
    simpa using h1
theorem OR.sl (h : OR t m w base A n c hs) (hm : 0 < n) : Sl w base w.heap.size A (n * m) (fun k => .int .i64 (gi hs k)) := by
  obtain ⟨g, rfl, h1, h2⟩ := h.pos hm
  exact h.row.sl h1 h2
theorem OR.sl0 (h : OR t m w base A n c hs) : Sl w base w.heap.size A (n * m) (fun k => .int .i64 (gi hs k)) := by
  rcases Nat.eq_zero_or_pos n with rfl | hn
  · intro k hk; omega
  · exact h.sl hn
theorem OR.mine (h : OR t m w base A n c hs) (hs0 : base < w.heap.size) : ∃ g, base ≤ g ∧ g < w.heap.size ∧ Mine w g (g + 1) t A (n * m) (fun k => .int .i64 (gi hs k)) := by
  rcases Nat.eq_zero_or_pos n with rfl | hn
  · exact ⟨base, Nat.le_refl _, hs0, .inl (by omega)⟩
  · obtain ⟨g, rfl, h1, h2⟩ := h.pos hn
    exact ⟨g, h1, h2, .inr ⟨g, 0, rfl, Nat.le_refl _, Nat.lt_succ_self _, h.row⟩⟩
theorem OR.pop (h : OR t m w base (some ⟨g, 0, none⟩) (n + 1) c hs) : OR t m w base (some ⟨g, 0, none⟩) n c (hs.take (n * m)) := by
  obtain ⟨h1, h2⟩ := h
  rcases h2 with ⟨h0, _⟩ | ⟨g', cap', cur, hv, hg, hh, hn, hcap, hsz, htake⟩
  · cases h0
  · cases hv
    have hl : (vals hs).length = (n + 1) * m := h1
    refine ⟨?_, .inr ⟨g, c, cur, rfl, hg, hh, by omega, hcap, hsz, ?_⟩⟩
    · simp [vals] at hl ⊢; rw [hl]; exact Nat.min_eq_left (Nat.mul_le_mul_right _ (by omega))
    · have h3 : (cur.toList.take ((n + 1) * m)).take (n * m) = (vals hs).take (n * m) := by rw [htake]
      rw [List.take_take, Nat.min_eq_left (Nat.mul_le_mul_right _ (by omega))] at h3
      rw [h3]; simp [vals, List.map_take]
theorem OR.void (w : World) (base : Nat) : OR t m w base none 0 0 [] := World.ownsRow_nil _ _ _ _
theorem OR.drewN (h : OR t m w base A n c hs) (k : Nat) : OR t m (w.drewN k) base A n c hs := h.keepAll fun _ _ => rfl
theorem OR.alloc (h : OR t m w base A n c hs) (o : Obj) : OR t m (w.alloc o) base A n c hs := World.ownsRow.alloc h o
end
theorem OR.empty {t : TypeId} {m : Nat} (w : World) {base : Nat} (hb : base ≤ w.heap.size) : OR t m (w.alloc (.cells #[] t)) base (some ⟨w.heap.size, 0, none⟩) 0 0 [] :=
  ⟨by simp [vals], .inr ⟨w.heap.size, 0, #[], rfl, hb, heap_alloc_new _ _, Nat.le_refl _, by simp [maxLen], by simp, by simp [vals]⟩⟩

end Go.Proofs.YtlallklfilmcnaaGreat

-- Spec3v
namespace Go.Proofs.YtlallklfilmcnaaGreat
open Go.RowKit
set_option maxRecDepth 100000

/-- a literal of one struct -/
theorem OR.lit {t : TypeId} {m : Nat} {base : Nat} {xs : List Int} (w : World) (hb : base ≤ w.heap.size) (hx : xs.length = m) : OR t m (w.alloc (.cells (vals xs).toArray t)) base (some ⟨w.heap.size, 0, none⟩) 1 1 xs :=
  ⟨by simp [vals, hx], .inr ⟨w.heap.size, 1, (vals xs).toArray, rfl, hb, heap_alloc_new _ _, Nat.le_refl _, by simp [maxLen], by simp [vals, hx], by rw [Nat.one_mul]; exact List.take_of_length_le (by simp [vals, hx])⟩⟩

set_option maxHeartbeats 4000000 in
theorem specAct_any {w : World} {g : Nat} {p : Kp} {K : Ker} (h : KB w g p K) (t : TK K) (hr : K.run ≠ -1) (ga oa : Nat) (k to : Int) (ht : 0 ≤ to ∧ to < 4) (hga : ga ≠ g ∧ ga ≠ p.g3) (hc0 : w.cell? ⟨ga, oa, none⟩ = some (.int .i64 k)) (hc1 : w.cell? ⟨ga, oa + 1, none⟩ = some (.int .i64 to)) :
    Calls Tryz.prog 145 #[.pointer (some ⟨g, 0, none⟩), .pointer (some ⟨ga, oa, none⟩)] w (fun e w' => ∃ A n c, e = .returned (.slice A n c) ∧ OR 68 3 w' w.heap.size A n c (act3 K k to).2 ∧ KB w' g p (act3 K k to).1 ∧ Kept [g, p.g3] w w') := by
  have TT := Lib.hid t
  obtain ⟨ph, hph⟩ : ∃ ph, ph = K.tick % 9 := ⟨_, rfl⟩
  have PH : Hid (∀ W, KB W g p K → Calls Tryz.prog 140 #[.pointer (some ⟨g, 0, none⟩)] W fun e w' => e = .returned (.int .i64 ph) ∧ W = w') := fun W hW => by
    rw [hph]; exact specPhase_any g K.tick W t.tick.1 hW.cells.2.2.2.1
  have HPH := Lib.hid hph
  have LA := Lib.hid (World.block_lt_of_cell? _ _ hc0)
  have AK : Hid (∀ W, Kept [g, p.g3] w W → (W.cell? ⟨ga, oa, none⟩ = some (.int .i64 k) ∧ W.cell? ⟨ga, oa + 1, none⟩ = some (.int .i64 to))) := fun W hW => by
    have e : W.heap[ga]? = w.heap[ga]? := hW.2 ga LA.out (by simp; omega)
    exact ⟨(World.cell?_of_block (a := ⟨ga, oa, none⟩) e).trans hc0, (World.cell?_of_block (a := ⟨ga, oa + 1, none⟩) e).trans hc1⟩
  have H1 := Lib.hid h
  obtain ⟨tn, htn⟩ : ∃ tn : Nat, to = (tn : Int) := ⟨to.toNat, by omega⟩
  have ht4 : tn < 4 := by omega
  have NE := Lib.hid (show g < w.heap.size ∧ p.g1 < w.heap.size ∧ p.g2 < w.heap.size ∧ p.g3 < w.heap.size from ⟨h.lt, h.lt1 (by have := h.own.l1; have := t.l1; omega), h.lt2.1, h.lt2.2⟩)
  obtain ⟨q0, q1, q2, q3, q4⟩ := h.cells
  have c0 := hc0; have c1 := hc1
  obtain ⟨rn, hrn⟩ : ∃ rn : Nat, K.run = (rn : Int) := ⟨K.run.toNat, by have := t.run; omega⟩
  have hr4 : rn < 4 := by have := t.run; omega
  have HRN := Lib.hid hrn
  have HTN := Lib.hid htn
  clear hph hc0 hc1 h t hr
  by_cases hk2 : k = 2
  · have PE : Hid (act3 K k to = ({ K with run := -1 }, [K.tick, K.run, 5])) := by show _ = _; unfold act3; rw [if_pos hk2]
    have fg := frozen_of_row w _ 4 _ _ H1.out.box
    subst hk2
    clear hrn htn
    go_enter Tryz.func145, Tryz.ntmps145
    go_wp2_with fail
    refine (PH.out _ H1.out).mono ?_
    rintro e9 w2 ⟨rfl, rfl⟩
    go_upto_region 5 with (fail)
    obtain ⟨w3, hw3⟩ : ∃ w3, w3 = w.setCell ⟨g, 4, none⟩ (.int .i64 (-1)) := ⟨_, rfl⟩
    rw [← hw3]
    have H3 := Lib.hid (show KB w3 g p { K with run := -1 } by rw [hw3]; exact H1.out.setRun _)
    have X3 := Lib.hid (show Kept [g, p.g3] w w3 by rw [hw3]; exact (Kept.refl _ _).setCell (p := ⟨g, 4, none⟩) (by simp) _)
    clear hw3 q0 q1 q2 q3 q4 fg c0 c1 H1
    obtain ⟨q0, q1, q2, q3, q4⟩ := H3.out.cells
    go_wp2
    go_ret
    refine ⟨_, _, _, rfl, ?_, by rw [PE.out]; exact H3.out.kept ((Kept.refl [] w3).alloc _) (by simp) (by simp) (by simp) (by simp), X3.out.alloc _⟩
    rw [PE.out]
    exact OR.lit w3 X3.out.1.size rfl
  · have hk2' : (k == 2) = false := by simp [hk2]
    subst htn
    obtain ⟨Y, hY⟩ : ∃ Y : Bool, Y = decide (k = 3 ∧ ph < 6 ∧ gb K.al tn = true ∧ (tn : Int) ≠ K.run) := ⟨_, rfl⟩
    have YE := Lib.hid hY
    clear hY
    obtain ⟨o2, hA2, hR2⟩ := H1.out.alive
    rw [hA2] at q1
    have al0 := hR2.cell (k := tn) ht4
    have z0 : (0 : Int) ≤ (tn : Int) := by omega
    have z1 : (tn : Int) < 4 := by omega
    have HRN' := HRN
    clear hrn hA2 hR2
    go_enter Tryz.func145, Tryz.ntmps145
    go_wp2_with fail
    refine (PH.out _ H1.out).mono ?_
    rintro e9 w2 ⟨rfl, rfl⟩
    go_upto_region 6 with (fail)
    obtain ⟨L, hL⟩ : ∃ L : Bool, L = decide (6 ≤ ph) := ⟨_, rfl⟩
    rw [← hL]
    have HL := Lib.hid hL
    clear hL
    go_cut [30] from 31 (fun x wx => x = .bool Y ∧ Kept [] w wx)
    case first => as_aux_lemma =>
      by_cases hk3 : k = 3
      · have g1 : (k == 3) = true := by simp [hk3]
        have HK3 := Lib.hid hk3
        clear hk3
        rcases L with _ | _
        · have hl : ph < 6 := by have := HL.out; simpa using this.symm
          have HLL := Lib.hid hl
          clear hl
          rcases ha : gb K.al tn with _ | _
          · have y : Y = false := by rw [YE.out]; exact decide_eq_false (fun hh => by rw [ha] at hh; exact absurd hh.2.2.1 (by decide))
            subst y
            rw [ha] at al0
            clear ha
            go_quiet (fail)
            go_wp2_with fail
            go_meet
            exact ⟨rfl, (Kept.refl [] w).drewN _⟩
          · by_cases hrr : (tn : Int) = K.run
            · have y : Y = false := by rw [YE.out]; exact decide_eq_false (fun hh => hh.2.2.2 hrr)
              have g3 : ((tn : Int) != K.run) = false := by simp [hrr]
              subst y
              rw [ha] at al0
              clear ha hrr
              go_quiet (fail)
              go_wp2_with fail
              go_meet
              exact ⟨rfl, (Kept.refl [] w).drewN _⟩
            · have y : Y = true := by rw [YE.out]; exact decide_eq_true ⟨HK3.out, HLL.out, ha, hrr⟩
              have g3 : ((tn : Int) != K.run) = true := by simp [hrr]
              subst y
              rw [ha] at al0
              clear ha hrr
              go_quiet (fail)
              go_wp2_with fail
              go_meet
              exact ⟨rfl, (Kept.refl [] w).drewN _⟩
        · have hl : 6 ≤ ph := by have := HL.out; simpa using this.symm
          have y : Y = false := by rw [YE.out]; exact decide_eq_false (fun hh => by have := hh.2.1; omega)
          subst y
          clear hl
          go_quiet (fail)
          go_wp2_with fail
          go_meet
          exact ⟨rfl, (Kept.refl [] w).drewN _⟩
      · have g1 : (k == 3) = false := by simp [hk3]
        have y : Y = false := by rw [YE.out]; exact decide_eq_false (fun hh => hk3 hh.1)
        subst y
        clear hk3
        go_quiet (fail)
        go_wp2_with fail
        go_meet
        exact ⟨rfl, (Kept.refl [] w).drewN _⟩
    case rest => as_aux_lemma =>
      obtain ⟨rfl, hkk⟩ := hcut
      have H2 := Lib.hid (H1.out.kept hkk (by simp) (by simp) (by simp) (by simp))
      have X2 := Lib.hid (show Kept [g, p.g3] w wc from hkk.mono (by simp))
      clear hkk q0 q1 q2 q3 q4 c0 c1 al0 H1
      obtain ⟨q0, q1, q2, q3, q4⟩ := H2.out.cells
      obtain ⟨c0, c1⟩ := AK.out _ X2.out
      obtain ⟨o3, hA3, hR3⟩ := H2.out.accs
      have HA3 := Lib.hid hA3
      rw [hA3] at q2
      by_cases hy : k = 3 ∧ ph < 6 ∧ gb K.al tn = true ∧ (tn : Int) ≠ K.run
      · have y : Y = true := by rw [YE.out]; exact decide_eq_true hy
        have PE : Hid (act3 K k (tn : Int) = (put3 { K with run := (tn : Int) } tn (acf K tn give2), [K.tick, (tn : Int), 4])) := by
          show _ = _
          unfold act3
          rw [if_neg hk2, ← HPH.out, Int.toNat_natCast, if_pos ⟨hy.1, by have := hy.2.1; omega, hy.2.2.1, hy.2.2.2⟩]
        subst y
        have fg := frozen_of_row wc _ 4 _ _ H2.out.box
        clear hA3 hR3 hy q0 q1 q3
        go_upto_region 8 with (fail)
        obtain ⟨w4, hw4⟩ : ∃ w4, w4 = wc.setCell ⟨g, 4, none⟩ (.int .i64 (tn : Int)) := ⟨_, rfl⟩
        rw [← hw4]
        have H4 := Lib.hid (show KB w4 g p { K with run := (tn : Int) } by rw [hw4]; exact H2.out.setRun _)
        have X4 := Lib.hid (show Kept [g, p.g3] w w4 by rw [hw4]; exact X2.out.setCell (p := ⟨g, 4, none⟩) (by simp) _)
        have SK : Hid (∀ W, Kept [p.g3] w4 W → (W.cell? ⟨g, 2, none⟩ = some (.slice (some ⟨p.g3, o3, none⟩) 4 p.c3) ∧ W.cell? ⟨ga, oa, none⟩ = some (.int .i64 k) ∧ W.cell? ⟨ga, oa + 1, none⟩ = some (.int .i64 (tn : Int)))) := fun W hW => by
          obtain ⟨e1, e2⟩ := AK.out W (X4.out.trans (hW.mono (gs' := [g, p.g3]) (by simp)))
          have e3 := (hW.2 g H4.out.lt (by have := H4.out.e3; simp; exact this)).trans H4.out.box
          have e4 := cell_of_row W _ 2 _ _ _ e3
          rw [HA3.out] at e4
          exact ⟨e4, e1, e2⟩
        clear hw4 fg q2 q4 c0 c1 H2 X2
        obtain ⟨q2, ac0, ac1⟩ := SK.out w4 (Kept.refl _ _)
        refine wp_region_held_drew (S := fun W => (W.cell? ⟨g, 2, none⟩ = some (.slice (some ⟨p.g3, o3, none⟩) 4 p.c3) ∧ W.cell? ⟨ga, oa, none⟩ = some (.int .i64 k) ∧ W.cell? ⟨ga, oa + 1, none⟩ = some (.int .i64 (tn : Int)))) (by kernel_rfl) (⟨q2, ac0, ac1⟩) (fun hHeld => ?_)
        obtain ⟨v0, hv0⟩ : ∃ v0, v0 = w4.drew := ⟨_, rfl⟩
        have BL0 : Hid (Below w4.heap.size w4 v0) := by rw [hv0]; exact Below.drew (Below.refl _ _)
        rw [← hv0] at hHeld ⊢
        clear hv0
        refine wpAnyH_take (i := 0) (oi := _) (v := ?_) rfl (by kernel_rfl) (by kernel_rfl) (by kernel_rfl) (fun _ _ _ h => h) (Or.inl ⟨by rfl, ?_⟩) hHeld ?_
        rotate_left
        · (intro w hSw; (try dsimp only at hSw); go_simp; try with_reducible rfl)
        try simp only [Act.put, List.getElem_toArray, List.getElem_cons_succ, List.getElem_cons_zero, List.setIfInBounds_toArray, List.set_cons_zero, List.set_cons_succ]
        refine wpAnyH_take (i := 1) (oi := _) (v := ?_) rfl (by kernel_rfl) (by kernel_rfl) (by kernel_rfl) (fun _ _ _ h => h) (Or.inl ⟨by rfl, ?_⟩) hHeld ?_
        rotate_left
        · (intro w hSw; (try dsimp only at hSw); go_simp; try with_reducible rfl)
        try simp only [Act.put, List.getElem_toArray, List.getElem_cons_succ, List.getElem_cons_zero, List.setIfInBounds_toArray, List.set_cons_zero, List.set_cons_succ]
        refine wpAnyH_take (i := 2) (oi := _) (v := ?_) rfl (by kernel_rfl) (by kernel_rfl) (by kernel_rfl) (fun _ _ _ h => h) (Or.inl ⟨by rfl, ?_⟩) hHeld ?_
        rotate_left
        · (intro w hSw; (try dsimp only at hSw); go_simp; try with_reducible rfl)
        try simp only [Act.put, List.getElem_toArray, List.getElem_cons_succ, List.getElem_cons_zero, List.setIfInBounds_toArray, List.set_cons_zero, List.set_cons_succ]
        refine wpAnyH_take (i := 3) (oi := _) (v := ?_) rfl (by kernel_rfl) (by kernel_rfl) (by kernel_rfl) (fun _ _ _ h => h) (Or.inl ⟨by rfl, ?_⟩) hHeld ?_
        rotate_left
        · (intro w hSw; (try dsimp only at hSw); go_simp; try with_reducible rfl)
        try simp only [Act.put, List.getElem_toArray, List.getElem_cons_succ, List.getElem_cons_zero, List.setIfInBounds_toArray, List.set_cons_zero, List.set_cons_succ]
        refine wpAnyH_take (i := 4) (oi := _) (v := ?_) rfl (by kernel_rfl) (by kernel_rfl) (by kernel_rfl) (fun _ _ _ h => h) (Or.inl ⟨by rfl, ?_⟩) hHeld ?_
        rotate_left
        · (intro w hSw; (try dsimp only at hSw); go_simp; try with_reducible rfl)
        try simp only [Act.put, List.getElem_toArray, List.getElem_cons_succ, List.getElem_cons_zero, List.setIfInBounds_toArray, List.set_cons_zero, List.set_cons_succ]
        refine wpAnyH_take (i := 5) (oi := _) (v := ?_) rfl (by kernel_rfl) (by kernel_rfl) (by kernel_rfl) (fun _ _ _ h => h) (Or.inl ⟨by rfl, ?_⟩) hHeld ?_
        rotate_left
        · (intro w hSw; (try dsimp only at hSw); go_simp; try with_reducible rfl)
        try simp only [Act.put, List.getElem_toArray, List.getElem_cons_succ, List.getElem_cons_zero, List.setIfInBounds_toArray, List.set_cons_zero, List.set_cons_succ]
        refine wpAnyH_take (i := 6) (oi := _) (v := ?_) rfl (by kernel_rfl) (by kernel_rfl) (by kernel_rfl) (fun _ _ _ h => h) (Or.inl ⟨by rfl, ?_⟩) hHeld ?_
        rotate_left
        · (intro w hSw; (try dsimp only at hSw); go_simp; try with_reducible rfl)
        try simp only [Act.put, List.getElem_toArray, List.getElem_cons_succ, List.getElem_cons_zero, List.setIfInBounds_toArray, List.set_cons_zero, List.set_cons_succ]
        refine wpAnyH_take (i := 7) (oi := _) (v := ?_) rfl (by kernel_rfl) (by kernel_rfl) (by kernel_rfl) (fun _ _ _ h => h) (Or.inl ⟨by rfl, ?_⟩) hHeld ?_
        rotate_left
        · (intro w hSw; (try dsimp only at hSw); go_simp; try with_reducible rfl)
        try simp only [Act.put, List.getElem_toArray, List.getElem_cons_succ, List.getElem_cons_zero, List.setIfInBounds_toArray, List.set_cons_zero, List.set_cons_succ]
        refine wpAnyH_take (i := 8) (oi := _) (v := ?_) rfl (by kernel_rfl) (by kernel_rfl) (by kernel_rfl) (fun _ _ _ h => h) (Or.inl ⟨by rfl, ?_⟩) hHeld ?_
        rotate_left
        · (intro w hSw; (try dsimp only at hSw); go_simp; try with_reducible rfl)
        try simp only [Act.put, List.getElem_toArray, List.getElem_cons_succ, List.getElem_cons_zero, List.setIfInBounds_toArray, List.set_cons_zero, List.set_cons_succ]
        refine wpAnyH_take (i := 9) (oi := _) (v := ?_) rfl (by kernel_rfl) (by kernel_rfl) (by kernel_rfl) (fun _ _ _ h => h) (Or.inl ⟨by rfl, ?_⟩) hHeld ?_
        rotate_left
        · (intro w hSw; (try dsimp only at hSw); go_simp; try with_reducible rfl)
        try simp only [Act.put, List.getElem_toArray, List.getElem_cons_succ, List.getElem_cons_zero, List.setIfInBounds_toArray, List.set_cons_zero, List.set_cons_succ]
        refine wpAnyH_take (i := 10) (oi := _) (v := ?_) rfl (by kernel_rfl) (by kernel_rfl) (by kernel_rfl) (fun _ _ _ h => h) (Or.inl ⟨by rfl, ?_⟩) hHeld ?_
        rotate_left
        · (intro w hSw; (try dsimp only at hSw); go_simp; try with_reducible rfl)
        try simp only [Act.put, List.getElem_toArray, List.getElem_cons_succ, List.getElem_cons_zero, List.setIfInBounds_toArray, List.set_cons_zero, List.set_cons_succ]
        refine wpAnyH_take (i := 11) (oi := _) (v := ?_) rfl (by kernel_rfl) (by kernel_rfl) (by kernel_rfl) (fun _ _ _ h => h) (Or.inl ⟨by rfl, ?_⟩) hHeld ?_
        rotate_left
        · (intro w hSw; (try dsimp only at hSw); go_simp; try with_reducible rfl)
        try simp only [Act.put, List.getElem_toArray, List.getElem_cons_succ, List.getElem_cons_zero, List.setIfInBounds_toArray, List.set_cons_zero, List.set_cons_succ]
        refine wpAnyH_take (i := 12) (oi := _) (v := ?_) rfl (by kernel_rfl) (by kernel_rfl) (by kernel_rfl) (fun _ _ _ h => h) (Or.inl ⟨by rfl, ?_⟩) hHeld ?_
        rotate_left
        · (intro w hSw; (try dsimp only at hSw); go_simp; try with_reducible rfl)
        try simp only [Act.put, List.getElem_toArray, List.getElem_cons_succ, List.getElem_cons_zero, List.setIfInBounds_toArray, List.set_cons_zero, List.set_cons_succ]
        refine wpAnyH_take (i := 13) (oi := _) (v := ?_) rfl (by kernel_rfl) (by kernel_rfl) (by kernel_rfl) (fun _ _ _ h => h) (Or.inl ⟨by rfl, ?_⟩) hHeld ?_
        rotate_left
        · (intro w hSw; (try dsimp only at hSw); go_simp; try with_reducible rfl)
        try simp only [Act.put, List.getElem_toArray, List.getElem_cons_succ, List.getElem_cons_zero, List.setIfInBounds_toArray, List.set_cons_zero, List.set_cons_succ]
        refine wpAnyH_ready (rs := [14]) (by kernel_rfl) (by simp) ?_
        refine AllReadyH.cons (o := _) rfl (fun K0 hK0 => ?_) AllReadyH.nil
        have H5 := Lib.hid (H4.out.kept (Kept.of_below BL0.out []) (by simp) (by simp) (by simp) (by simp))
        obtain ⟨o3', hA3', hR3'⟩ := H5.out.accs
        obtain rfl : o3 = o3' := by rw [HA3.out] at hA3'; injection hA3' with e1; injection e1
        have d0 : v0.cell? ⟨p.g3, o3 + tn * 4, none⟩ = some (.int .i64 (gi K.ac (tn * 4))) := hR3'.cell (k := tn * 4) (by omega)
        have d1 : v0.cell? ⟨p.g3, o3 + tn * 4 + 1, none⟩ = some (.int .i64 (gi K.ac (tn * 4 + 1))) := hR3'.cell (k := tn * 4 + 1) (by omega)
        have d2 : v0.cell? ⟨p.g3, o3 + tn * 4 + 2, none⟩ = some (.int .i64 (gi K.ac (tn * 4 + 2))) := hR3'.cell (k := tn * 4 + 2) (by omega)
        have d3 : v0.cell? ⟨p.g3, o3 + tn * 4 + 3, none⟩ = some (.int .i64 (gi K.ac (tn * 4 + 3))) := hR3'.cell (k := tn * 4 + 3) (by omega)
        clear hA3' hR3'
        go_simp
        refine hK0.out _ _ (SK.out _ (Kept.of_below BL0.out _)) (fun hHeld => ?_)
        clear hK0 K0
        try simp only [Act.put, List.getElem_toArray, List.getElem_cons_succ, List.getElem_cons_zero, List.setIfInBounds_toArray, List.set_cons_zero, List.set_cons_succ]
        refine wpAnyH_ready (rs := [15]) (by kernel_rfl) (by simp) ?_
        refine AllReadyH.cons (o := _) rfl (fun K0 hK0 => ?_) AllReadyH.nil
        go_simp
        clear d0 d1 d2 d3
        refine (specGiveTick_any _ _ _ _ _).mono ?_
        rintro e9 v1 ⟨rfl, hb⟩
        have B1 := Lib.hid (BL0.out.trans (hb.mono BL0.out.size))
        have H6 := Lib.hid (H5.out.kept (Kept.of_below hb []) (by simp) (by simp) (by simp) (by simp))
        clear hb H5
        go_wp2_with fail
        refine hK0.out _ _ (SK.out _ (Kept.of_below B1.out _)) (fun hHeld => ?_)
        clear hK0 K0
        try simp only [Act.put, List.getElem_toArray, List.getElem_cons_succ, List.getElem_cons_zero, List.setIfInBounds_toArray, List.set_cons_zero, List.set_cons_succ]
        refine wpAnyH_ready (rs := [16]) (by kernel_rfl) (by simp) ?_
        refine AllReadyH.cons (o := _) rfl (fun K0 hK0 => ?_) AllReadyH.nil
        go_simp
        refine (specPut_any H6.out tn (by omega) _).mono ?_
        rintro e9 v2 ⟨rfl, hh, hk⟩
        have H7 := Lib.hid hh
        have K7 := Lib.hid ((Kept.of_below B1.out [p.g3]).trans hk)
        clear hh hk H6
        go_wp2_with fail
        refine hK0.out _ _ (SK.out _ K7.out) (fun hHeld => ?_)
        clear hK0 K0
        try simp only [Act.put, List.getElem_toArray, List.getElem_cons_succ, List.getElem_cons_zero, List.setIfInBounds_toArray, List.set_cons_zero, List.set_cons_succ]
        refine wpAnyH_done (by kernel_rfl) ?_ _
        have X7 := Lib.hid (X4.out.trans (K7.out.mono (gs' := [g, p.g3]) (by simp)))
        clear q2 ac0 ac1 BL0 K7 H4 X4 SK
        obtain ⟨c0, c1⟩ := AK.out _ X7.out
        obtain ⟨q0, q1, q2, q3, q4⟩ := H7.out.cells
        have PT : Hid ((put3 { K with run := (tn : Int) } tn (acf K tn give2)).tick = K.tick) := (put3_os _ _ _).2.2.1
        have q3' : v2.cell? ⟨g, 3, none⟩ = some (.int .i64 K.tick) := by rw [← PT.out]; exact q3
        clear q0 q1 q2 q3 q4
        have S9K : Hid (∀ W, Kept [] v2 W → (W.cell? ⟨g, 3, none⟩ = some (.int .i64 K.tick) ∧ W.cell? ⟨ga, oa + 1, none⟩ = some (.int .i64 (tn : Int)))) := fun W hW =>
          ⟨(World.cell?_of_block (a := ⟨g, 3, none⟩) (hW.2 g H7.out.lt (by simp))).trans q3', (AK.out W (X7.out.trans (hW.mono (gs' := [g, p.g3]) (by simp)))).2⟩
        go_upto_region 9 with (fail)
        refine wp_region_held_drew (S := fun W => (W.cell? ⟨g, 3, none⟩ = some (.int .i64 K.tick) ∧ W.cell? ⟨ga, oa + 1, none⟩ = some (.int .i64 (tn : Int)))) (by kernel_rfl) (⟨q3', c1⟩) (fun hHeld => ?_)
        obtain ⟨v0, hv0⟩ : ∃ v0, v0 = v2.drew := ⟨_, rfl⟩
        have BL0 : Hid (Below v2.heap.size v2 v0) := by rw [hv0]; exact Below.drew (Below.refl _ _)
        rw [← hv0] at hHeld ⊢
        clear hv0
        refine wpAnyH_take (i := 0) (oi := _) (v := ?_) rfl (by kernel_rfl) (by kernel_rfl) (by kernel_rfl) (fun _ _ _ h => h) (Or.inl ⟨by rfl, ?_⟩) hHeld ?_
        rotate_left
        · (intro w hSw; (try dsimp only at hSw); go_simp; try with_reducible rfl)
        try simp only [Act.put, List.getElem_toArray, List.getElem_cons_succ, List.getElem_cons_zero, List.setIfInBounds_toArray, List.set_cons_zero, List.set_cons_succ]
        refine wpAnyH_take (i := 1) (oi := _) (v := ?_) rfl (by kernel_rfl) (by kernel_rfl) (by kernel_rfl) (fun _ _ _ h => h) (Or.inl ⟨by rfl, ?_⟩) hHeld ?_
        rotate_left
        · (intro w hSw; (try dsimp only at hSw); go_simp; try with_reducible rfl)
        try simp only [Act.put, List.getElem_toArray, List.getElem_cons_succ, List.getElem_cons_zero, List.setIfInBounds_toArray, List.set_cons_zero, List.set_cons_succ]
        refine wpAnyH_take (i := 2) (oi := _) (v := ?_) rfl (by kernel_rfl) (by kernel_rfl) (by kernel_rfl) (fun _ _ _ h => h) (Or.inl ⟨by rfl, ?_⟩) hHeld ?_
        rotate_left
        · (intro w hSw; (try dsimp only at hSw); go_simp; try with_reducible rfl)
        try simp only [Act.put, List.getElem_toArray, List.getElem_cons_succ, List.getElem_cons_zero, List.setIfInBounds_toArray, List.set_cons_zero, List.set_cons_succ]
        refine wpAnyH_take (i := 3) (oi := _) (v := ?_) rfl (by kernel_rfl) (by kernel_rfl) (by kernel_rfl) (fun _ _ _ h => h) (Or.inl ⟨by rfl, ?_⟩) hHeld ?_
        rotate_left
        · (intro w hSw; (try dsimp only at hSw); go_simp; try with_reducible rfl)
        try simp only [Act.put, List.getElem_toArray, List.getElem_cons_succ, List.getElem_cons_zero, List.setIfInBounds_toArray, List.set_cons_zero, List.set_cons_succ]
        refine wpAnyH_take (i := 4) (oi := _) (v := ?_) rfl (by kernel_rfl) (by kernel_rfl) (by kernel_rfl) (fun _ _ _ h => h) (Or.inl ⟨by rfl, ?_⟩) hHeld ?_
        rotate_left
        · (intro w hSw; (try dsimp only at hSw); go_simp; try with_reducible rfl)
        try simp only [Act.put, List.getElem_toArray, List.getElem_cons_succ, List.getElem_cons_zero, List.setIfInBounds_toArray, List.set_cons_zero, List.set_cons_succ]
        refine wpAnyH_take (i := 5) (oi := _) (v := ?_) rfl (by kernel_rfl) (by kernel_rfl) (by kernel_rfl) (fun _ _ _ h => h) (Or.inl ⟨by rfl, ?_⟩) hHeld ?_
        rotate_left
        · (intro w hSw; (try dsimp only at hSw); go_simp; try with_reducible rfl)
        try simp only [Act.put, List.getElem_toArray, List.getElem_cons_succ, List.getElem_cons_zero, List.setIfInBounds_toArray, List.set_cons_zero, List.set_cons_succ]
        refine wpAnyH_take (i := 6) (oi := _) (v := ?_) rfl (by kernel_rfl) (by kernel_rfl) (by kernel_rfl) (fun _ _ _ h => h) (Or.inl ⟨by rfl, ?_⟩) hHeld ?_
        rotate_left
        · (intro w hSw; (try dsimp only at hSw); go_simp; try with_reducible rfl)
        try simp only [Act.put, List.getElem_toArray, List.getElem_cons_succ, List.getElem_cons_zero, List.setIfInBounds_toArray, List.set_cons_zero, List.set_cons_succ]
        refine wpAnyH_take (i := 7) (oi := _) (v := ?_) rfl (by kernel_rfl) (by kernel_rfl) (by kernel_rfl) (fun _ _ _ h => h) (Or.inl ⟨by rfl, ?_⟩) hHeld ?_
        rotate_left
        · (intro w hSw; (try dsimp only at hSw); go_simp; try with_reducible rfl)
        try simp only [Act.put, List.getElem_toArray, List.getElem_cons_succ, List.getElem_cons_zero, List.setIfInBounds_toArray, List.set_cons_zero, List.set_cons_succ]
        refine wpAnyH_take (i := 8) (oi := _) (v := ?_) rfl (by kernel_rfl) (by kernel_rfl) (by kernel_rfl) (fun _ _ _ h => h) (Or.inl ⟨by rfl, ?_⟩) hHeld ?_
        rotate_left
        · (intro w hSw; (try dsimp only at hSw); go_simp; try with_reducible rfl)
        try simp only [Act.put, List.getElem_toArray, List.getElem_cons_succ, List.getElem_cons_zero, List.setIfInBounds_toArray, List.set_cons_zero, List.set_cons_succ]
        refine wpAnyH_ready (rs := [9]) (by kernel_rfl) (by simp) ?_
        refine AllReadyH.cons (o := _) rfl (fun K0 hK0 => ?_) AllReadyH.nil
        go_simp
        refine hK0.out _ _ (S9K.out _ ((Kept.of_below BL0.out []).alloc _)) (fun hHeld => ?_)
        clear hK0 K0
        try simp only [Act.put, List.getElem_toArray, List.getElem_cons_succ, List.getElem_cons_zero, List.setIfInBounds_toArray, List.set_cons_zero, List.set_cons_succ]
        refine wpAnyH_take (i := 10) (oi := _) (v := ?_) rfl (by kernel_rfl) (by kernel_rfl) (by kernel_rfl) (fun _ _ _ h => h) (Or.inl ⟨by rfl, ?_⟩) hHeld ?_
        rotate_left
        · (intro w hSw; (try dsimp only at hSw); go_simp; try with_reducible rfl)
        try simp only [Act.put, List.getElem_toArray, List.getElem_cons_succ, List.getElem_cons_zero, List.setIfInBounds_toArray, List.set_cons_zero, List.set_cons_succ]
        refine wpAnyH_done (by kernel_rfl) ?_ _
        have X8 := Lib.hid (X7.out.trans ((Kept.of_below BL0.out []).mono (gs' := [g, p.g3]) (by simp)))
        have H8 := Lib.hid (H7.out.kept (Kept.of_below BL0.out []) (by simp) (by simp) (by simp) (by simp))
        go_wp2
        go_ret
        refine ⟨_, _, _, rfl, ?_, by rw [PE.out]; exact H8.out.kept ((Kept.refl [] v0).alloc _) (by simp) (by simp) (by simp) (by simp), X8.out.alloc _⟩
        rw [PE.out]
        exact OR.lit v0 X8.out.1.size rfl
      · have y : Y = false := by rw [YE.out]; exact decide_eq_false hy
        have PE : Hid (act3 K k (tn : Int) = (put3 K rn (acf K rn (fun u x g d => use2 u x g d L)), [])) := by
          show _ = _
          unfold act3
          rw [if_neg hk2, ← HPH.out, ← HL.out, if_neg (fun hh => hy ⟨hh.1, by have := hh.2.1; omega, by have := hh.2.2.1; simpa using this, hh.2.2.2⟩), HRN.out, Int.toNat_natCast]
        subst y
        have hrn : K.run = (rn : Int) := HRN.out
        have y0 : (0 : Int) ≤ (rn : Int) := by omega
        have y1 : (rn : Int) < 4 := by omega
        have U : Hid (wc.cell? ⟨p.g3, o3 + rn * 4, none⟩ = some (.int .i64 (gi K.ac (rn * 4)))) := hR3.cell (k := rn * 4) (by omega)
        have a0 := U.out
        have a1 : wc.cell? ⟨p.g3, o3 + rn * 4 + 1, none⟩ = some (.int .i64 (gi K.ac (rn * 4 + 1))) := hR3.cell (k := rn * 4 + 1) (by omega)
        have a2 : wc.cell? ⟨p.g3, o3 + rn * 4 + 2, none⟩ = some (.int .i64 (gi K.ac (rn * 4 + 2))) := hR3.cell (k := rn * 4 + 2) (by omega)
        have a3 : wc.cell? ⟨p.g3, o3 + rn * 4 + 3, none⟩ = some (.int .i64 (gi K.ac (rn * 4 + 3))) := hR3.cell (k := rn * 4 + 3) (by omega)
        clear hA3 hR3 hy
        go_wp2_with fail
        refine (specUseTick_any _ _ _ _ _ _).mono ?_
        rintro e9 w5 ⟨rfl, hb⟩
        have H5 := Lib.hid (H2.out.kept (Kept.of_below hb []) (by simp) (by simp) (by simp) (by simp))
        have X5 := Lib.hid (X2.out.then_below hb)
        clear hb H2 X2 q0 q1 q2 q3 q4 c0 c1 a0 a1 a2 a3
        go_wp2_with fail
        refine (specPut_any H5.out rn hr4 _).mono ?_
        rintro e9 w6 ⟨rfl, hh, hkk⟩
        have H6 := Lib.hid hh
        have X6 := Lib.hid (X5.out.trans (hkk.mono (gs' := [g, p.g3]) (by simp)))
        clear hh hkk H5 X5
        go_wp2
        go_ret
        exact ⟨none, 0, 0, rfl, by rw [PE.out]; exact OR.void _ _, by rw [PE.out]; exact H6.out, X6.out⟩

end Go.Proofs.YtlallklfilmcnaaGreat

-- Spec3w
namespace Go.Proofs.YtlallklfilmcnaaGreat
open Go.RowKit
set_option maxRecDepth 100000

theorem Tryz.info_Note : (Tryz.prog.info? 68).map (fun i => (i.zero, i.size, i.bytes)) = some (some (.agg #[.int .i64 0, .int .i64 0, .int .i64 0]), 3, 24) := by kernel_rfl
theorem or_of3 {t : TypeId} {m : Nat} {w : World} {base n : Nat} {v : Value} {hs : List Int} (h : w.ownsRow base t m v n (vals hs)) : ∃ A c, v = .slice A n c ∧ OR t m w base A n c hs := by
  rcases h.2 with ⟨rfl, rfl⟩ | ⟨g, cap, cur, rfl, _⟩
  · exact ⟨none, 0, rfl, h⟩
  · exact ⟨some ⟨g, 0, none⟩, cap, rfl, h⟩
theorem Kept.low {gs : List Nat} {w a b : World} (h : Kept gs w a) (k : Below w.heap.size a b) : Kept gs w b :=
  ⟨h.1.trans (k.mono (Nat.zero_le _)), fun j hj hn => (k.block j hj).trans (h.2 j hj hn)⟩
theorem KB.low {a b : World} {g B : Nat} {p : Kp} {K : Ker} (h : KB a g p K) (k : Below B a b) (h0 : g < B) (h1 : p.g1 < B) (h2 : p.g2 < B) (h3 : p.g3 < B) : KB b g p K := by
  have hk : Kept (List.range' B (a.heap.size - B)) a b := ⟨k.mono (Nat.zero_le _), fun j hj hn => k.block j (by
    rw [List.mem_range'_1] at hn
    omega)⟩
  exact h.kept hk (by rw [List.mem_range'_1]; omega) (by rw [List.mem_range'_1]; omega) (by rw [List.mem_range'_1]; omega) (by rw [List.mem_range'_1]; omega)
/-- a row of one's own, grown by a literal of one struct of three numbers: what the append's law wants, and what comes of it -/
theorem lit3 (w : World) (a b c : Int) (k : Nat) (hk : w.heap[k]? = some (.cells #[.int .i64 a, .int .i64 b, .int .i64 c] 68 (0, 0))) : ∀ j u, ([.int .i64 a, .int .i64 b, .int .i64 c] : List Value)[j]? = some u → w.cell? ((⟨k, 0, none⟩ : Addr).add j) = some u := by
  intro j u hu
  rw [Go.WideShapes.add_plain]
  rcases j with _ | _ | _ | j
  · injection hu with hu; subst hu; exact cell_of_row w _ 0 _ _ _ hk
  · injection hu with hu; subst hu; exact cell_of_row w _ 1 _ _ _ hk
  · injection hu with hu; subst hu; exact cell_of_row w _ 2 _ _ _ hk
  · simp at hu
theorem OR.grew {t : TypeId} {m : Nat} {a b : World} {base n c : Nat} {A : Option Addr} {hs : List Int} (h : OR t m a base A n c hs) (hb : base ≤ a.heap.size) (hg : a.grownBy b (Value.slice A n c).ownBlock) : Below base a b :=
  (Below.refl base a).grown hg hb (fun k hk => by
    rcases A with _ | ad
    · cases hk
    · obtain ⟨g', e, h1, h2⟩ := OR.at_ h (by simp)
      injection e with e
      subst e
      have hk' : some g' = some k := hk
      injection hk' with e2
      omega)
theorem Kept.rowNew {gs : List Nat} {w a : World} (h : Kept gs w a) {j : Nat} (hj : w.heap.size ≤ j) (cs : Array Value) : Kept gs w (a.setRow j cs) :=
  h.low (below_setRow (Below.refl _ _) hj cs)
theorem begin3_tick (K : Ker) : (tickB K).1.tick = K.tick := by
  unfold tickB begin3
  split
  · split
    · rfl
    · split
      · exact (put3_os _ _ _).2.2.1
      · rfl
  · rfl
theorem act3_tick (K : Ker) (k to : Int) : (tickA K k to).1.tick = K.tick := by
  unfold tickA act3
  split
  · split
    · rfl
    · split
      · exact (put3_os _ _ _).2.2.1
      · exact (put3_os _ _ _).2.2.1
  · rfl
theorem TK.tickB {K : Ker} (h : TK K) : TK (tickB K).1 := by
  unfold Go.Proofs.YtlallklfilmcnaaGreat.tickB
  split
  · exact h.begin
  · exact h
theorem TK.tickA {K : Ker} (h : TK K) (k to : Int) (ht : 0 ≤ to ∧ to < 4) : TK (tickA K k to).1 := by
  unfold Go.Proofs.YtlallklfilmcnaaGreat.tickA
  split
  · exact h.act (by assumption) k to ht
  · exact h
theorem begin3_len (K : Ker) : (tickB K).2.length ≤ 3 := by
  unfold Go.Proofs.YtlallklfilmcnaaGreat.tickB begin3
  split
  · split
    · simp
    · split <;> simp
  · simp
theorem act3_len (K : Ker) (k to : Int) : (tickA K k to).2.length ≤ 3 := by
  unfold Go.Proofs.YtlallklfilmcnaaGreat.tickA act3
  split
  · split
    · simp
    · split <;> simp
  · simp

set_option maxHeartbeats 4000000 in
theorem specTick_any {w : World} {g : Nat} {p : Kp} {K : Ker} (h : KB w g p K) (t : TK K) (ga oa : Nat) (k to : Int) (ht : 0 ≤ to ∧ to < 4) (hga : ga ≠ g ∧ ga ≠ p.g3) (hc0 : w.cell? ⟨ga, oa, none⟩ = some (.int .i64 k)) (hc1 : w.cell? ⟨ga, oa + 1, none⟩ = some (.int .i64 to)) :
    Calls Tryz.prog 88 #[.pointer (some ⟨g, 0, none⟩), .pointer (some ⟨ga, oa, none⟩)] w (fun e w' => ∃ A n c, e = .returned (.slice A n c) ∧ OR 68 3 w' w.heap.size A n c (tick3 K k to).2 ∧ KB w' g p (tick3 K k to).1 ∧ Kept [g, p.g3] w w') := by
  obtain ⟨i0, hi0, hz0, hz1, hz2⟩ := info_parts Tryz.info_Note
  have TT := Lib.hid t
  obtain ⟨ph, hph⟩ : ∃ ph, ph = K.tick % 9 := ⟨_, rfl⟩
  have PH : Hid (∀ W (K' : Ker), K'.tick = K.tick → KB W g p K' → Calls Tryz.prog 140 #[.pointer (some ⟨g, 0, none⟩)] W fun e w' => e = .returned (.int .i64 ph) ∧ W = w') := fun W K' hK hW => by
    rw [hph, ← hK]; exact specPhase_any g K'.tick W (by rw [hK]; exact TT.out.tick.1) hW.cells.2.2.2.1
  have HPH := Lib.hid hph
  have LA := Lib.hid (World.block_lt_of_cell? _ _ hc0)
  have AK : Hid (∀ W, Kept [g, p.g3] w W → (W.cell? ⟨ga, oa, none⟩ = some (.int .i64 k) ∧ W.cell? ⟨ga, oa + 1, none⟩ = some (.int .i64 to))) := fun W hW => by
    have e : W.heap[ga]? = w.heap[ga]? := hW.2 ga LA.out (by simp; omega)
    exact ⟨(World.cell?_of_block (a := ⟨ga, oa, none⟩) e).trans hc0, (World.cell?_of_block (a := ⟨ga, oa + 1, none⟩) e).trans hc1⟩
  have NE := Lib.hid (show g < w.heap.size ∧ p.g1 < w.heap.size ∧ p.g2 < w.heap.size ∧ p.g3 < w.heap.size from ⟨h.lt, h.lt1 (by have := h.own.l1; have := t.l1; omega), h.lt2.1, h.lt2.2⟩)
  have HX := Lib.hid h
  clear hph hc0 hc1 h t
  obtain ⟨w1, hw1⟩ : ∃ w1, w1 = w.alloc (.cells #[] 68) := ⟨_, rfl⟩
  have X1 := Lib.hid (show Kept [g, p.g3] w w1 by rw [hw1]; exact (Kept.refl _ _).alloc _)
  have H1 := Lib.hid (HX.out.kept (show Kept [] w w1 by rw [hw1]; exact (Kept.refl _ _).alloc _) (by simp) (by simp) (by simp) (by simp))
  have O1 := Lib.hid (show OR 68 3 w1 w.heap.size (some ⟨w.heap.size, 0, none⟩) 0 0 [] by rw [hw1]; exact OR.empty w (Nat.le_refl _))
  have HW1 := Lib.hid hw1
  clear hw1 HX
  go_enter Tryz.func88, Tryz.ntmps88
  go_upto_region 2 with (fail)
  rw [← HW1.out]
  clear HW1
  go_wp2_with fail
  refine (PH.out _ K rfl H1.out).mono ?_
  rintro e9 w2 ⟨rfl, rfl⟩
  go_upto_if 13 with (fail)
  go_cut [5] from 6 (fun x wx => ∃ (A : Option Addr) (n c : Nat), x = .slice A n c ∧ OR 68 3 wx w.heap.size A n c (tickB K).2 ∧ KB wx g p (tickB K).1 ∧ Kept [g, p.g3] w wx)
  case first => as_aux_lemma =>
    by_cases hp : ph = 0
    · have BE : Hid (tickB K = begin3 K) := by show _ = _; unfold tickB; rw [← HPH.out, if_pos hp]
      subst hp
      go_wp2_with fail
      refine (specBegin_any H1.out TT.out).mono ?_
      rintro e9 w3 ⟨a, b, c, rfl, hbe, hkb, hkk⟩
      have E3 := Lib.hid hbe
      have H3 := Lib.hid hkb
      have X3 := Lib.hid (X1.out.trans hkk)
      have O3 := Lib.hid (O1.out.kept hkk (by have := NE.out; intro j e; injection e with e; injection e with e; simp; omega))
      clear hbe hkb hkk O1 H1 X1
      obtain ⟨w4, hw4⟩ : ∃ w4, w4 = (w3.alloc (.cells #[.int .i64 a, .int .i64 b, .int .i64 c] 68)).alloc (.cells #[.int .i64 a, .int .i64 b, .int .i64 c] 68) := ⟨_, rfl⟩
      have k4 : w4.heap[w3.heap.size + 1]? = some (.cells #[.int .i64 a, .int .i64 b, .int .i64 c] 68 (0, 0)) := by rw [hw4]; exact heap_alloc2_new w3 _ _
      have Y4 : Kept [] w3 w4 := by rw [hw4]; exact ((Kept.refl _ _).alloc _).alloc _
      have NW := Lib.hid (lit3 w4 a b c _ k4)
      have H4 := Lib.hid (H3.out.kept Y4 (by simp) (by simp) (by simp) (by simp))
      have X4 := Lib.hid (X3.out.trans (Y4.mono (gs' := [g, p.g3]) (by simp)))
      have O4 := Lib.hid (O3.out.kept Y4 (by simp))
      have Z4 := Lib.hid (show w.heap.size ≤ w4.heap.size from X4.out.1.size)
      have HW4 := Lib.hid hw4
      clear hw4 k4 Y4 H3 X3 O3
      go_wp2_with
        (at_builtin
         rw [← HW4.out]
         refine wpList_append_own _ rfl (.tmp 16) (.tmp 18) 33 rfl w.heap.size 68 i0 (.agg #[.int .i64 0, .int .i64 0, .int .i64 0]) 3 24 Tryz.underlying33 hi0 hz0 hz1 hz2 rfl (by decide) _ 0 _ rfl O4.out ⟨w3.heap.size + 1, 0, none⟩ 1 1 [.int .i64 a, .int .i64 b, .int .i64 c] rfl rfl NW.out (by simp [Value.oneCell']) (by decide) (by decide) Z4.out ?_
         intro v' w5 hown hgrow _
         have GW := Lib.hid (O4.out.grew Z4.out hgrow)
         have ho := hown
         rw [show vals [] ++ [Value.int .i64 a, .int .i64 b, .int .i64 c] = vals [a, b, c] by simp [vals]] at ho
         clear hown hgrow
         obtain ⟨A', c', rfl, ho⟩ := or_of3 ho
         have O5 := Lib.hid ho
         have H5 := Lib.hid (H4.out.low GW.out NE.out.1 NE.out.2.1 NE.out.2.2.1 NE.out.2.2.2)
         have X5 := Lib.hid (X4.out.low GW.out)
         clear ho GW O4 H4 X4 Z4 NW HW4)
      go_meet
      case rel => exact ⟨_, _, _, rfl, by rw [BE.out, E3.out]; exact O5.out, by rw [BE.out]; exact H5.out, X5.out⟩
    · have BE : Hid (tickB K = (K, [])) := by show _ = _; unfold tickB; rw [← HPH.out, if_neg hp]
      have hp' : (ph == 0) = false := by simp [hp]
      clear hp
      go_wp2_with fail
      go_meet
      case rel => exact ⟨_, _, _, rfl, by rw [BE.out]; exact O1.out, by rw [BE.out]; exact H1.out, X1.out⟩
  case rest => as_aux_lemma =>
    obtain ⟨A, n, c, rfl, ho, hkb, hkk⟩ := hcut
    have O2 := Lib.hid ho
    have H2 := Lib.hid hkb
    have X2 := Lib.hid hkk
    have T2 := Lib.hid TT.out.tickB
    have TE := Lib.hid (show tick3 K k to = ({ (tickE (tickA (tickB K).1 k to).1).1 with tick := K.tick + 1 }, (tickB K).2 ++ (tickA (tickB K).1 k to).2 ++ (tickE (tickA (tickB K).1 k to).1).2) from rfl)
    have ET := Lib.hid (begin3_tick K)
    have EL := Lib.hid (begin3_len K)
    obtain ⟨K1, hK1⟩ : ∃ K1, K1 = (tickB K).1 := ⟨_, rfl⟩
    obtain ⟨L1, hL1⟩ : ∃ L1, L1 = (tickB K).2 := ⟨_, rfl⟩
    rw [← hK1, ← hL1] at TE
    rw [← hK1] at H2 T2 ET
    rw [← hL1] at O2 EL
    clear ho hkb hkk hK1 hL1 O1 H1 X1
    obtain ⟨q0, q1, q2, q3, q4⟩ := H2.out.cells
    go_upto_if 24 with (fail)
    go_cut [5] from 6 (fun x wx => ∃ (A : Option Addr) (n c : Nat), x = .slice A n c ∧ OR 68 3 wx w.heap.size A n c (L1 ++ (tickA K1 k to).2) ∧ KB wx g p (tickA K1 k to).1 ∧ Kept [g, p.g3] w wx)
    case first => as_aux_lemma =>
      by_cases hr : K1.run = -1
      · have AE : Hid (tickA K1 k to = (K1, [])) := by show _ = _; unfold tickA; rw [if_neg (by simp [hr])]
        have g1 : (K1.run != -1) = false := by simp [hr]
        clear hr q0 q1 q2 q3 q4
        go_wp2_with fail
        go_meet
        case rel => exact ⟨_, _, _, rfl, by rw [AE.out, List.append_nil]; exact O2.out, by rw [AE.out]; exact H2.out, X2.out⟩
      · have AE : Hid (tickA K1 k to = act3 K1 k to) := by show _ = _; unfold tickA; rw [if_pos hr]
        have g1 : (K1.run != -1) = true := by simp [hr]
        have HR := Lib.hid hr
        clear hr q0 q1 q2 q3 q4
        obtain ⟨c0, c1⟩ := AK.out _ X2.out
        have C0 := Lib.hid c0
        have C1 := Lib.hid c1
        clear c0 c1
        go_wp2_with fail
        refine (specAct_any H2.out T2.out HR.out ga oa k to ht hga C0.out C1.out).mono ?_
        rintro e9 w3 ⟨A2, n2, c2, rfl, ho2, hkb, hkk⟩
        have H3 := Lib.hid hkb
        have X3 := Lib.hid (X2.out.trans hkk)
        have O3 := Lib.hid (O2.out.kept hkk (by
          rcases A with _ | ad
          · intro j e; cases e
          · obtain ⟨g', e, h1, h2⟩ := OR.at_ O2.out (by simp)
            have := NE.out
            intro j e'
            rw [e] at e'
            injection e' with e'
            injection e' with e'
            simp
            omega))
        have EA := Lib.hid (act3_len K1 k to)
        rw [AE.out] at EA
        obtain ⟨L2, hL2⟩ : ∃ L2, L2 = (act3 K1 k to).2 := ⟨_, rfl⟩
        rw [← hL2] at ho2 EA
        have EL2 := Lib.hid hL2
        have P3 := Lib.hid ho2
        have Z3 := Lib.hid (show w.heap.size ≤ w3.heap.size from X3.out.1.size)
        clear hkb hkk ho2 hL2 O2 H2 X2 C0 C1
        have n1 : n ≤ 1 := by have := EL.out; have := O3.out.len; omega
        have n22 : n2 ≤ 1 := by have := EA.out; have := P3.out.len; omega
        rcases A2 with _ | ad
        · obtain ⟨hn, hc⟩ := OR.nil0 P3.out
          subst hn hc
          have E0 : Hid (L2 = []) := by have := P3.out.len; exact List.length_eq_zero_iff.1 (by omega)
          go_wp2_with (at_builtin; refine wpList_append_own_none rfl (.tmp 28) (.tmp 29) 33 rfl w.heap.size 68 i0 3 Tryz.underlying33 hi0 _ n _ rfl O3.out rfl ?_)
          go_meet
          case rel => exact ⟨_, _, _, rfl, by rw [AE.out, ← EL2.out, E0.out, List.append_nil]; exact O3.out, by rw [AE.out]; exact H3.out, X3.out⟩
        · obtain ⟨g2, e2, hg2, hg3⟩ := OR.at_ P3.out (by simp)
          injection e2 with e2
          subst e2
          have NW : Hid (∀ j u, (vals L2)[j]? = some u → w3.cell? ((⟨g2, 0, none⟩ : Addr).add j) = some u) := by
            intro j u hu
            have hj : j < L2.length := by have := (List.getElem?_eq_some_iff.1 hu).1; simpa [vals] using this
            rw [vals_get L2 j hj] at hu
            injection hu with hu
            subst hu
            rw [Go.WideShapes.add_plain]
            simp only [Nat.zero_add]
            exact P3.out.cell (by rw [← P3.out.len]; exact hj)
          have ON : Hid (∀ u ∈ vals L2, u.oneCell' = true) := by
            intro u hu
            simp only [vals, List.mem_map] at hu
            obtain ⟨_, _, rfl⟩ := hu
            rfl
          have LN : Hid ((vals L2).length = n2 * 3) := by show _ = _; simp [vals, P3.out.len]
          clear hg2 hg3
          go_wp2_with
            (at_builtin
             refine wpList_append_own _ rfl (.tmp 28) (.tmp 29) 33 rfl w.heap.size 68 i0 (.agg #[.int .i64 0, .int .i64 0, .int .i64 0]) 3 24 Tryz.underlying33 hi0 hz0 hz1 hz2 rfl (by decide) _ n _ rfl O3.out ⟨g2, 0, none⟩ n2 c2 (vals L2) rfl LN.out NW.out ON.out (by unfold maxLen; omega) (by omega) Z3.out ?_
             intro v' w5 hown hgrow _
             have GW := Lib.hid (O3.out.grew Z3.out hgrow)
             have ho := hown
             rw [show vals L1 ++ vals L2 = vals (L1 ++ L2) by simp [vals]] at ho
             clear hown hgrow
             obtain ⟨A', c', rfl, ho⟩ := or_of3 ho
             have O5 := Lib.hid ho
             have H5 := Lib.hid (H3.out.low GW.out NE.out.1 NE.out.2.1 NE.out.2.2.1 NE.out.2.2.2)
             have X5 := Lib.hid (X3.out.low GW.out)
             clear ho GW O3 H3 X3 Z3 NW ON LN P3)
          go_meet
          case rel => exact ⟨_, _, _, rfl, by rw [AE.out, ← EL2.out]; exact O5.out, by rw [AE.out]; exact H5.out, X5.out⟩
    case rest => as_aux_lemma =>
      obtain ⟨A, n, c, rfl, ho, hkb, hkk⟩ := hcut
      have O3 := Lib.hid ho
      have H3 := Lib.hid hkb
      have X3 := Lib.hid hkk
      have T3 := Lib.hid (T2.out.tickA k to ht)
      have E3 := Lib.hid ((act3_tick K1 k to).trans ET.out)
      have EL3 := Lib.hid (act3_len K1 k to)
      obtain ⟨K2, hK2⟩ : ∃ K2, K2 = (tickA K1 k to).1 := ⟨_, rfl⟩
      obtain ⟨L2, hL2⟩ : ∃ L2, L2 = (tickA K1 k to).2 := ⟨_, rfl⟩
      rw [← hK2, ← hL2] at TE
      rw [← hK2] at H3 T3 E3
      rw [← hL2] at O3 EL3
      have FAR : Hid (∀ W (A : Option Addr) (n c : Nat) (hs : List Int), OR 68 3 W w.heap.size A n c hs → ∀ j, A = some ⟨j, 0, none⟩ → j ∉ [g]) := fun W A n c hs hO j e => by
        subst e
        have := NE.out
        have := hO.lt
        simp
        omega
      have TK9 := Lib.hid TT.out.tick
      have hwr : IntKind.i64.wrap (K.tick + 1) = K.tick + 1 := IntWalk.i64_in _ (by have := TK9.out; omega)
      clear ho hkb hkk hK2 hL2 O2 H2 X2 q0 q1 q2 q3 q4 T2 ET
      obtain ⟨q0, q1, q2, q3, q4⟩ := H3.out.cells
      rw [E3.out] at q3
      have f3 := frozen_of_row wc _ 3 _ _ H3.out.box
      clear q0 q1
      go_wp2_with fail
      refine (PH.out _ K2 E3.out H3.out).mono ?_
      rintro e9 w4 ⟨rfl, rfl⟩
      by_cases hp8 : ph = 8
      · by_cases hr : K2.run = -1
        · have SE : Hid (tickE K2 = (K2, [])) := by show _ = _; unfold tickE; rw [if_neg (by simp [hr])]
          subst hp8
          have g1 : (K2.run != -1) = false := by simp [hr]
          clear hr q2
          go_wp2
          go_ret
          exact ⟨_, _, _, rfl, by rw [TE.out, SE.out]; exact ((show Hid (OR 68 3 wc w.heap.size A n c (L1 ++ L2 ++ [])) by rw [List.append_nil]; exact O3).out.kept ((Kept.refl [g] wc).setCell (p := ⟨g, 3, none⟩) (by simp) _) (FAR.out _ _ _ _ _ (show Hid (OR 68 3 wc w.heap.size A n c (L1 ++ L2 ++ [])) by rw [List.append_nil]; exact O3).out)), by rw [TE.out, SE.out]; exact H3.out.setTick _, X3.out.setCell (p := ⟨g, 3, none⟩) (by simp) _⟩
        · have SE : Hid (tickE K2 = end3 K2) := by show _ = _; unfold tickE; rw [E3.out, ← HPH.out, if_pos ⟨hp8, hr⟩]
          obtain ⟨rn, hrn⟩ : ∃ rn : Nat, K2.run = (rn : Int) := ⟨K2.run.toNat, by have := T3.out.run; omega⟩
          have hr4 : rn < 4 := by have := T3.out.run; omega
          have HRN := Lib.hid hrn
          have g1 : ((rn : Int) != -1) = true := by simp
          have y0 : (0 : Int) ≤ (rn : Int) := by omega
          have y1 : (rn : Int) < 4 := by omega
          rw [hrn] at q4
          subst hp8
          clear hr hrn
          obtain ⟨o3, hA3, hR3⟩ := H3.out.accs
          have HA3 := Lib.hid hA3
          rw [hA3] at q2
          have AFK := Lib.hid (T3.out.ac rn hr4)
          obtain ⟨zu, hzu⟩ : ∃ z, z = gi K2.ac (rn * 4) := ⟨_, rfl⟩
          obtain ⟨zx, hzx⟩ : ∃ z, z = gi K2.ac (rn * 4 + 1) := ⟨_, rfl⟩
          obtain ⟨zg, hzg⟩ : ∃ z, z = gi K2.ac (rn * 4 + 2) := ⟨_, rfl⟩
          obtain ⟨zd, hzd⟩ : ∃ z, z = gi K2.ac (rn * 4 + 3) := ⟨_, rfl⟩
          have PA : Hid (acf K2 rn pun2 = pun2 zu zx zg zd) := by show _ = _; unfold acf; rw [hzu, hzx, hzg, hzd]
          have a0 : wc.cell? ⟨p.g3, o3 + rn * 4, none⟩ = some (.int .i64 zu) := by rw [hzu]; exact hR3.cell (k := rn * 4) (by omega)
          have a1 : wc.cell? ⟨p.g3, o3 + rn * 4 + 1, none⟩ = some (.int .i64 zx) := by rw [hzx]; exact hR3.cell (k := rn * 4 + 1) (by omega)
          have a2 : wc.cell? ⟨p.g3, o3 + rn * 4 + 2, none⟩ = some (.int .i64 zg) := by rw [hzg]; exact hR3.cell (k := rn * 4 + 2) (by omega)
          have a3 : wc.cell? ⟨p.g3, o3 + rn * 4 + 3, none⟩ = some (.int .i64 zd) := by rw [hzd]; exact hR3.cell (k := rn * 4 + 3) (by omega)
          have CA := Lib.hid (⟨a0, a1, a2, a3⟩ : _ ∧ _ ∧ _ ∧ _)
          have PC : Hid ((pun2 zu zx zg zd).1 = 0) := by
            have h0 := AFK.out
            unfold afk at h0
            rw [← hzu, ← hzx, ← hzg, ← hzd] at h0
            show _ = _
            unfold pun2
            rw [if_neg (by rw [h0]; simp)]
            split <;> rfl
          obtain ⟨q, u, x, y, d, b, hpn⟩ := six (pun2 zu zx zg zd)
          have PN := Lib.hid hpn
          have QZ : Hid (q = 0) := by have := PC.out; rw [PN.out] at this; exact this
          have EE : Hid (end3 K2 = ({ K2 with ac := setAcc K2.ac rn u x y d, run := -1 }, [K.tick, (rn : Int), if b = true then 7 else 6])) := by
            show _ = _
            unfold end3
            rw [HRN.out, Int.toNat_natCast, PA.out, PN.out]
            unfold put3
            split
            · rw [← E3.out]
            · rename_i hh
              exact absurd QZ.out hh
          clear hA3 hR3 hpn hzu hzx hzg hzd a0 a1 a2 a3 f3
          go_upto_region 9 with (fail)
          obtain ⟨wa, hwa⟩ : ∃ wa, wa = wc := ⟨_, rfl⟩
          subst hwa
          have HA2 := Lib.hid q2
          have SK : Hid (∀ W, Kept [] wa W → (W.cell? ⟨g, 2, none⟩ = some (.slice (some ⟨p.g3, o3, none⟩) 4 p.c3) ∧ W.cell? ⟨g, 4, none⟩ = some (.int .i64 (rn : Int)))) := fun W hW => by
            have e : W.heap[g]? = wa.heap[g]? := hW.2 g H3.out.lt (by simp)
            exact ⟨(World.cell?_of_block (a := ⟨g, 2, none⟩) e).trans q2, (World.cell?_of_block (a := ⟨g, 4, none⟩) e).trans q4⟩
          have CK : Hid (∀ W, Kept [] wa W → (W.cell? ⟨p.g3, o3 + rn * 4, none⟩ = some (.int .i64 zu) ∧ W.cell? ⟨p.g3, o3 + rn * 4 + 1, none⟩ = some (.int .i64 zx) ∧ W.cell? ⟨p.g3, o3 + rn * 4 + 2, none⟩ = some (.int .i64 zg) ∧ W.cell? ⟨p.g3, o3 + rn * 4 + 3, none⟩ = some (.int .i64 zd))) := fun W hW => by
            have e : W.heap[p.g3]? = wa.heap[p.g3]? := hW.2 p.g3 (by have := NE.out; have := X3.out.1.size; omega) (by simp)
            obtain ⟨b0, b1, b2, b3⟩ := CA.out
            exact ⟨(World.cell?_of_block (a := ⟨p.g3, _, none⟩) e).trans b0, (World.cell?_of_block (a := ⟨p.g3, _, none⟩) e).trans b1, (World.cell?_of_block (a := ⟨p.g3, _, none⟩) e).trans b2, (World.cell?_of_block (a := ⟨p.g3, _, none⟩) e).trans b3⟩
          clear q3 hwr
          go_cut [8] from 41 (fun x8 wx => ∃ b8 : Nat, x8 = .pointer (some ⟨b8, 0, none⟩) ∧ wx.heap[b8]? = some (.cells #[.int .i64 q, .int .i64 u, .int .i64 x, .int .i64 y, .int .i64 d, .bool b] 189 (0, 0)) ∧ wa.heap.size ≤ b8 ∧ Kept [] wa wx)
          case first => as_aux_lemma =>
            refine wp_region_held_drew (S := fun W => ((W.cell? ⟨g, 2, none⟩ = some (.slice (some ⟨p.g3, o3, none⟩) 4 p.c3) ∧ W.cell? ⟨g, 4, none⟩ = some (.int .i64 (rn : Int))) ∧ W.cell? ⟨p.g3, o3 + rn * 4, none⟩ = some (.int .i64 zu) ∧ W.cell? ⟨p.g3, o3 + rn * 4 + 1, none⟩ = some (.int .i64 zx) ∧ W.cell? ⟨p.g3, o3 + rn * 4 + 2, none⟩ = some (.int .i64 zg) ∧ W.cell? ⟨p.g3, o3 + rn * 4 + 3, none⟩ = some (.int .i64 zd))) (by kernel_rfl) (⟨⟨q2, q4⟩, CA.out⟩) (fun hHeld => ?_)
            obtain ⟨v0, hv0⟩ : ∃ v0, v0 = wa.drew := ⟨_, rfl⟩
            have BL0 : Hid (Below wa.heap.size wa v0) := by rw [hv0]; exact Below.drew (Below.refl _ _)
            rw [← hv0] at hHeld ⊢
            clear hv0
            refine wpAnyH_take (i := 0) (oi := _) (v := ?_) rfl (by kernel_rfl) (by kernel_rfl) (by kernel_rfl) (fun _ _ _ h => h) (Or.inl ⟨by rfl, ?_⟩) hHeld ?_
            rotate_left
            · (intro w hSw; (try dsimp only at hSw); go_simp; try with_reducible rfl)
            try simp only [Act.put, List.getElem_toArray, List.getElem_cons_succ, List.getElem_cons_zero, List.setIfInBounds_toArray, List.set_cons_zero, List.set_cons_succ]
            refine wpAnyH_take (i := 1) (oi := _) (v := ?_) rfl (by kernel_rfl) (by kernel_rfl) (by kernel_rfl) (fun _ _ _ h => h) (Or.inl ⟨by rfl, ?_⟩) hHeld ?_
            rotate_left
            · (intro w hSw; (try dsimp only at hSw); go_simp; try with_reducible rfl)
            try simp only [Act.put, List.getElem_toArray, List.getElem_cons_succ, List.getElem_cons_zero, List.setIfInBounds_toArray, List.set_cons_zero, List.set_cons_succ]
            refine wpAnyH_take (i := 2) (oi := _) (v := ?_) rfl (by kernel_rfl) (by kernel_rfl) (by kernel_rfl) (fun _ _ _ h => h) (Or.inl ⟨by rfl, ?_⟩) hHeld ?_
            rotate_left
            · (intro w hSw; (try dsimp only at hSw); go_simp; try with_reducible rfl)
            try simp only [Act.put, List.getElem_toArray, List.getElem_cons_succ, List.getElem_cons_zero, List.setIfInBounds_toArray, List.set_cons_zero, List.set_cons_succ]
            refine wpAnyH_take (i := 3) (oi := _) (v := ?_) rfl (by kernel_rfl) (by kernel_rfl) (by kernel_rfl) (fun _ _ _ h => h) (Or.inl ⟨by rfl, ?_⟩) hHeld ?_
            rotate_left
            · (intro w hSw; (try dsimp only at hSw); go_simp; try with_reducible rfl)
            try simp only [Act.put, List.getElem_toArray, List.getElem_cons_succ, List.getElem_cons_zero, List.setIfInBounds_toArray, List.set_cons_zero, List.set_cons_succ]
            refine wpAnyH_take (i := 4) (oi := _) (v := ?_) rfl (by kernel_rfl) (by kernel_rfl) (by kernel_rfl) (fun _ _ _ h => h) (Or.inl ⟨by rfl, ?_⟩) hHeld ?_
            rotate_left
            · (intro w hSw; (try dsimp only at hSw); go_simp; try with_reducible rfl)
            try simp only [Act.put, List.getElem_toArray, List.getElem_cons_succ, List.getElem_cons_zero, List.setIfInBounds_toArray, List.set_cons_zero, List.set_cons_succ]
            refine wpAnyH_take (i := 5) (oi := _) (v := ?_) rfl (by kernel_rfl) (by kernel_rfl) (by kernel_rfl) (fun _ _ _ h => h) (Or.inl ⟨by rfl, ?_⟩) hHeld ?_
            rotate_left
            · (intro w hSw; (try dsimp only at hSw); go_simp; try with_reducible rfl)
            try simp only [Act.put, List.getElem_toArray, List.getElem_cons_succ, List.getElem_cons_zero, List.setIfInBounds_toArray, List.set_cons_zero, List.set_cons_succ]
            refine wpAnyH_take (i := 6) (oi := _) (v := ?_) rfl (by kernel_rfl) (by kernel_rfl) (by kernel_rfl) (fun _ _ _ h => h) (Or.inl ⟨by rfl, ?_⟩) hHeld ?_
            rotate_left
            · (intro w hSw; (try dsimp only at hSw); go_simp; try with_reducible rfl)
            try simp only [Act.put, List.getElem_toArray, List.getElem_cons_succ, List.getElem_cons_zero, List.setIfInBounds_toArray, List.set_cons_zero, List.set_cons_succ]
            refine wpAnyH_take (i := 7) (oi := _) (v := ?_) rfl (by kernel_rfl) (by kernel_rfl) (by kernel_rfl) (fun _ _ _ h => h) (Or.inl ⟨by rfl, ?_⟩) hHeld ?_
            rotate_left
            · (intro w hSw; (try dsimp only at hSw); go_simp; try with_reducible rfl)
            try simp only [Act.put, List.getElem_toArray, List.getElem_cons_succ, List.getElem_cons_zero, List.setIfInBounds_toArray, List.set_cons_zero, List.set_cons_succ]
            refine wpAnyH_take (i := 8) (oi := _) (v := ?_) rfl (by kernel_rfl) (by kernel_rfl) (by kernel_rfl) (fun _ _ _ h => h) (Or.inl ⟨by rfl, ?_⟩) hHeld ?_
            rotate_left
            · (intro w hSw; (try dsimp only at hSw); go_simp; try with_reducible rfl)
            try simp only [Act.put, List.getElem_toArray, List.getElem_cons_succ, List.getElem_cons_zero, List.setIfInBounds_toArray, List.set_cons_zero, List.set_cons_succ]
            refine wpAnyH_take (i := 9) (oi := _) (v := ?_) rfl (by kernel_rfl) (by kernel_rfl) (by kernel_rfl) (fun _ _ _ h => h) (Or.inl ⟨by rfl, ?_⟩) hHeld ?_
            rotate_left
            · (intro w hSw; (try dsimp only at hSw); go_simp; try with_reducible rfl)
            try simp only [Act.put, List.getElem_toArray, List.getElem_cons_succ, List.getElem_cons_zero, List.setIfInBounds_toArray, List.set_cons_zero, List.set_cons_succ]
            refine wpAnyH_ready (rs := [10, 11]) (by kernel_rfl) (by simp) ?_
            refine AllReadyH.cons (o := _) rfl (fun K0 hK0 => ?_) (AllReadyH.cons (o := _) rfl (fun K0 hK0 => ?_) AllReadyH.nil)
            · go_simp
              refine (specPunishAccount_any _ _ _ _ _).mono ?_
              rintro e9 v1 ⟨rfl, hb⟩
              rw [PN.out, rv_eq]
              have B1 := Lib.hid (BL0.out.trans (hb.mono BL0.out.size))
              clear hb
              go_wp2_with fail
              refine hK0.out _ _ (⟨SK.out _ (Kept.of_below B1.out []), CK.out _ (Kept.of_below B1.out [])⟩) (fun hHeld => ?_)
              clear hK0 K0
              try simp only [Act.put, List.getElem_toArray, List.getElem_cons_succ, List.getElem_cons_zero, List.setIfInBounds_toArray, List.set_cons_zero, List.set_cons_succ]
              refine wpAnyH_ready (rs := [11]) (by kernel_rfl) (by simp) ?_
              refine AllReadyH.cons (o := _) rfl (fun K0 hK0 => ?_) AllReadyH.nil
              go_simp
              refine hK0.out _ _ (⟨SK.out _ ((Kept.of_below B1.out []).alloc _), CK.out _ ((Kept.of_below B1.out []).alloc _)⟩) (fun hHeld => ?_)
              clear hK0 K0
              try simp only [Act.put, List.getElem_toArray, List.getElem_cons_succ, List.getElem_cons_zero, List.setIfInBounds_toArray, List.set_cons_zero, List.set_cons_succ]
              refine wpAnyH_ready (rs := [12]) (by kernel_rfl) (by simp) ?_
              refine AllReadyH.cons (o := _) rfl (fun K0 hK0 => ?_) AllReadyH.nil
              clear hHeld
              rw [if_pos (by rfl)]
              refine wp_store_row 189 _ _ rfl (v1.heap.size) _ rfl rfl 189 _ (heap_alloc_new _ _) (by kernel_rfl) rfl (by simp [Value.oneCell']) ?_
              refine hK0.out _ _ (⟨SK.out _ (((Kept.of_below B1.out []).alloc _).rowNew B1.out.size _), CK.out _ (((Kept.of_below B1.out []).alloc _).rowNew B1.out.size _)⟩) (fun hHeld => ?_)
              clear hK0 K0
              try simp only [Act.put, List.getElem_toArray, List.getElem_cons_succ, List.getElem_cons_zero, List.setIfInBounds_toArray, List.set_cons_zero, List.set_cons_succ]
              refine wpAnyH_done (by kernel_rfl) ?_ _
              go_wp2_with fail
              go_meet
              case rel => exact ⟨_, rfl, setRow_heap _ _ _ _ _ _ (heap_alloc_new _ _), B1.out.size, ((Kept.of_below B1.out []).alloc _).rowNew B1.out.size _⟩
            · go_simp
              refine hK0.out _ _ (⟨SK.out _ ((Kept.of_below BL0.out []).alloc _), CK.out _ ((Kept.of_below BL0.out []).alloc _)⟩) (fun hHeld => ?_)
              clear hK0 K0
              try simp only [Act.put, List.getElem_toArray, List.getElem_cons_succ, List.getElem_cons_zero, List.setIfInBounds_toArray, List.set_cons_zero, List.set_cons_succ]
              refine wpAnyH_ready (rs := [10]) (by kernel_rfl) (by simp) ?_
              refine AllReadyH.cons (o := _) rfl (fun K0 hK0 => ?_) AllReadyH.nil
              go_simp
              refine (specPunishAccount_any _ _ _ _ _).mono ?_
              rintro e9 v1 ⟨rfl, hb⟩
              rw [PN.out, rv_eq]
              have B1 := Lib.hid ((BL0.out.alloc BL0.out.size _).trans (hb.mono (by have := BL0.out.size; simp; omega)))
              have ZB := Lib.hid ((hb.block v0.heap.size (by simp)).trans (heap_alloc_new v0 _))
              clear hb
              go_wp2_with fail
              refine hK0.out _ _ (⟨SK.out _ (Kept.of_below B1.out []), CK.out _ (Kept.of_below B1.out [])⟩) (fun hHeld => ?_)
              clear hK0 K0
              try simp only [Act.put, List.getElem_toArray, List.getElem_cons_succ, List.getElem_cons_zero, List.setIfInBounds_toArray, List.set_cons_zero, List.set_cons_succ]
              refine wpAnyH_ready (rs := [12]) (by kernel_rfl) (by simp) ?_
              refine AllReadyH.cons (o := _) rfl (fun K0 hK0 => ?_) AllReadyH.nil
              clear hHeld
              rw [if_pos (by rfl)]
              refine wp_store_row 189 _ _ rfl (v0.heap.size) _ rfl rfl 189 _ ZB.out (by kernel_rfl) rfl (by simp [Value.oneCell']) ?_
              refine hK0.out _ _ (⟨SK.out _ ((Kept.of_below B1.out []).rowNew BL0.out.size _), CK.out _ ((Kept.of_below B1.out []).rowNew BL0.out.size _)⟩) (fun hHeld => ?_)
              clear hK0 K0
              try simp only [Act.put, List.getElem_toArray, List.getElem_cons_succ, List.getElem_cons_zero, List.setIfInBounds_toArray, List.set_cons_zero, List.set_cons_succ]
              refine wpAnyH_done (by kernel_rfl) ?_ _
              go_wp2_with fail
              go_meet
              case rel => exact ⟨_, rfl, setRow_heap _ _ _ _ _ _ ZB.out, BL0.out.size, (Kept.of_below B1.out []).rowNew BL0.out.size _⟩
          case rest => as_aux_lemma =>
            obtain ⟨b8, rfl, hb8, hz8, hkk⟩ := hcut
            have H4 := Lib.hid (H3.out.kept hkk (by simp) (by simp) (by simp) (by simp))
            have X4 := Lib.hid (X3.out.trans (hkk.mono (gs' := [g, p.g3]) (by simp)))
            have O4 := Lib.hid (O3.out.kept hkk (by simp))
            have R8 := Lib.hid hb8
            have Z8 := Lib.hid (show w.heap.size ≤ b8 by have := X3.out.1.size; omega)
            clear q2 q4 hb8 hz8 hkk H3 X3 O3 SK CK CA HA2
            obtain ⟨wb, hwb⟩ : ∃ wb, wb = wc := ⟨_, rfl⟩
            subst hwb
            obtain ⟨q0, q1, q2, q3, q4⟩ := H4.out.cells
            rw [E3.out] at q3
            rw [HRN.out] at q4
            clear q0 q1 q2
            have SK : Hid (∀ W, Kept [] wb W → (W.cell? ⟨g, 3, none⟩ = some (.int .i64 K.tick) ∧ W.cell? ⟨g, 4, none⟩ = some (.int .i64 (rn : Int)))) := fun W hW => by
              have e : W.heap[g]? = wb.heap[g]? := hW.2 g H4.out.lt (by simp)
              exact ⟨(World.cell?_of_block (a := ⟨g, 3, none⟩) e).trans q3, (World.cell?_of_block (a := ⟨g, 4, none⟩) e).trans q4⟩
            go_upto_region 10 with (fail)
            go_cut [9] from 52 (fun x9 wx => ∃ b9 : Nat, x9 = .pointer (some ⟨b9, 0, none⟩) ∧ wx.heap[b9]? = some (.cells #[.int .i64 K.tick, .int .i64 (rn : Int), .int .i64 6] 68 (0, 0)) ∧ wb.heap.size ≤ b9 ∧ Kept [] wb wx)
            case first => as_aux_lemma =>
              refine wp_region_held_drew (S := fun W => (W.cell? ⟨g, 3, none⟩ = some (.int .i64 K.tick) ∧ W.cell? ⟨g, 4, none⟩ = some (.int .i64 (rn : Int)))) (by kernel_rfl) (⟨q3, q4⟩) (fun hHeld => ?_)
              obtain ⟨v0, hv0⟩ : ∃ v0, v0 = wb.drew := ⟨_, rfl⟩
              have BL0 : Hid (Below wb.heap.size wb v0) := by rw [hv0]; exact Below.drew (Below.refl _ _)
              rw [← hv0] at hHeld ⊢
              clear hv0
              refine wpAnyH_take (i := 0) (oi := _) (v := ?_) rfl (by kernel_rfl) (by kernel_rfl) (by kernel_rfl) (fun _ _ _ h => h) (Or.inl ⟨by rfl, ?_⟩) hHeld ?_
              rotate_left
              · (intro w hSw; (try dsimp only at hSw); go_simp; try with_reducible rfl)
              try simp only [Act.put, List.getElem_toArray, List.getElem_cons_succ, List.getElem_cons_zero, List.setIfInBounds_toArray, List.set_cons_zero, List.set_cons_succ]
              refine wpAnyH_take (i := 1) (oi := _) (v := ?_) rfl (by kernel_rfl) (by kernel_rfl) (by kernel_rfl) (fun _ _ _ h => h) (Or.inl ⟨by rfl, ?_⟩) hHeld ?_
              rotate_left
              · (intro w hSw; (try dsimp only at hSw); go_simp; try with_reducible rfl)
              try simp only [Act.put, List.getElem_toArray, List.getElem_cons_succ, List.getElem_cons_zero, List.setIfInBounds_toArray, List.set_cons_zero, List.set_cons_succ]
              refine wpAnyH_take (i := 2) (oi := _) (v := ?_) rfl (by kernel_rfl) (by kernel_rfl) (by kernel_rfl) (fun _ _ _ h => h) (Or.inl ⟨by rfl, ?_⟩) hHeld ?_
              rotate_left
              · (intro w hSw; (try dsimp only at hSw); go_simp; try with_reducible rfl)
              try simp only [Act.put, List.getElem_toArray, List.getElem_cons_succ, List.getElem_cons_zero, List.setIfInBounds_toArray, List.set_cons_zero, List.set_cons_succ]
              refine wpAnyH_take (i := 3) (oi := _) (v := ?_) rfl (by kernel_rfl) (by kernel_rfl) (by kernel_rfl) (fun _ _ _ h => h) (Or.inl ⟨by rfl, ?_⟩) hHeld ?_
              rotate_left
              · (intro w hSw; (try dsimp only at hSw); go_simp; try with_reducible rfl)
              try simp only [Act.put, List.getElem_toArray, List.getElem_cons_succ, List.getElem_cons_zero, List.setIfInBounds_toArray, List.set_cons_zero, List.set_cons_succ]
              refine wpAnyH_take (i := 4) (oi := _) (v := ?_) rfl (by kernel_rfl) (by kernel_rfl) (by kernel_rfl) (fun _ _ _ h => h) (Or.inl ⟨by rfl, ?_⟩) hHeld ?_
              rotate_left
              · (intro w hSw; (try dsimp only at hSw); go_simp; try with_reducible rfl)
              try simp only [Act.put, List.getElem_toArray, List.getElem_cons_succ, List.getElem_cons_zero, List.setIfInBounds_toArray, List.set_cons_zero, List.set_cons_succ]
              refine wpAnyH_take (i := 5) (oi := _) (v := ?_) rfl (by kernel_rfl) (by kernel_rfl) (by kernel_rfl) (fun _ _ _ h => h) (Or.inl ⟨by rfl, ?_⟩) hHeld ?_
              rotate_left
              · (intro w hSw; (try dsimp only at hSw); go_simp; try with_reducible rfl)
              try simp only [Act.put, List.getElem_toArray, List.getElem_cons_succ, List.getElem_cons_zero, List.setIfInBounds_toArray, List.set_cons_zero, List.set_cons_succ]
              refine wpAnyH_take (i := 6) (oi := _) (v := ?_) rfl (by kernel_rfl) (by kernel_rfl) (by kernel_rfl) (fun _ _ _ h => h) (Or.inl ⟨by rfl, ?_⟩) hHeld ?_
              rotate_left
              · (intro w hSw; (try dsimp only at hSw); go_simp; try with_reducible rfl)
              try simp only [Act.put, List.getElem_toArray, List.getElem_cons_succ, List.getElem_cons_zero, List.setIfInBounds_toArray, List.set_cons_zero, List.set_cons_succ]
              refine wpAnyH_take (i := 7) (oi := _) (v := ?_) rfl (by kernel_rfl) (by kernel_rfl) (by kernel_rfl) (fun _ _ _ h => h) (Or.inl ⟨by rfl, ?_⟩) hHeld ?_
              rotate_left
              · (intro w hSw; (try dsimp only at hSw); go_simp; try with_reducible rfl)
              try simp only [Act.put, List.getElem_toArray, List.getElem_cons_succ, List.getElem_cons_zero, List.setIfInBounds_toArray, List.set_cons_zero, List.set_cons_succ]
              refine wpAnyH_take (i := 8) (oi := _) (v := ?_) rfl (by kernel_rfl) (by kernel_rfl) (by kernel_rfl) (fun _ _ _ h => h) (Or.inl ⟨by rfl, ?_⟩) hHeld ?_
              rotate_left
              · (intro w hSw; (try dsimp only at hSw); go_simp; try with_reducible rfl)
              try simp only [Act.put, List.getElem_toArray, List.getElem_cons_succ, List.getElem_cons_zero, List.setIfInBounds_toArray, List.set_cons_zero, List.set_cons_succ]
              refine wpAnyH_ready (rs := [9]) (by kernel_rfl) (by simp) ?_
              refine AllReadyH.cons (o := _) rfl (fun K0 hK0 => ?_) AllReadyH.nil
              go_simp
              refine hK0.out _ _ (SK.out _ ((Kept.of_below BL0.out []).alloc _)) (fun hHeld => ?_)
              clear hK0 K0
              try simp only [Act.put, List.getElem_toArray, List.getElem_cons_succ, List.getElem_cons_zero, List.setIfInBounds_toArray, List.set_cons_zero, List.set_cons_succ]
              refine wpAnyH_ready (rs := [10]) (by kernel_rfl) (by simp) ?_
              refine AllReadyH.cons (o := _) rfl (fun K0 hK0 => ?_) AllReadyH.nil
              clear hHeld
              rw [if_pos (by rfl)]
              refine wp_store_row 68 _ _ rfl (v0.heap.size) _ rfl rfl 68 _ (heap_alloc_new _ _) (by kernel_rfl) rfl (by simp [Value.oneCell']) ?_
              refine hK0.out _ _ (SK.out _ (((Kept.of_below BL0.out []).alloc _).rowNew BL0.out.size _)) (fun hHeld => ?_)
              clear hK0 K0
              try simp only [Act.put, List.getElem_toArray, List.getElem_cons_succ, List.getElem_cons_zero, List.setIfInBounds_toArray, List.set_cons_zero, List.set_cons_succ]
              refine wpAnyH_done (by kernel_rfl) ?_ _
              go_wp2_with fail
              go_meet
              case rel => exact ⟨_, rfl, setRow_heap _ _ _ _ _ _ (heap_alloc_new _ _), BL0.out.size, ((Kept.of_below BL0.out []).alloc _).rowNew BL0.out.size _⟩
            case rest => as_aux_lemma =>
              obtain ⟨b9, rfl, hb9, hz9, hkk⟩ := hcut
              have H5 := Lib.hid (H4.out.kept hkk (by simp) (by simp) (by simp) (by simp))
              have X5 := Lib.hid (X4.out.trans (hkk.mono (gs' := [g, p.g3]) (by simp)))
              have O5 := Lib.hid (O4.out.kept hkk (by simp))
              have hl8 := (Array.getElem?_eq_some_iff.1 R8.out).1
              have R85 := Lib.hid ((hkk.2 b8 hl8 (by simp)).trans R8.out)
              have NB := Lib.hid (show b8 ≠ b9 by omega)
              have ZA := Lib.hid (show w.heap.size ≤ b9 by have := X4.out.1.size; omega)
              have OB9 : Hid (∀ j, A = some ⟨j, 0, none⟩ → j ≠ b9) := fun j e => by
                subst e
                have := O4.out.lt
                omega
              have R9 := Lib.hid hb9
              clear q3 q4 hb9 hz9 hkk hl8 H4 X4 O4 R8 SK
              obtain ⟨wd, hwd⟩ : ∃ wd, wd = wc := ⟨_, rfl⟩
              subst hwd
              have c5 := cell_of_row wd _ 5 _ _ _ R85.out
              have x2 := cell_of_row wd _ 2 _ _ _ R9.out
              have f2 := frozen_of_row wd _ 2 _ _ R9.out
              simp at c5 x2
              go_upto_if 62 with (fail)
              obtain ⟨kd, hkd⟩ : ∃ kd : Int, kd = if b = true then 7 else 6 := ⟨_, rfl⟩
              have KD := Lib.hid hkd
              clear hkd
              go_cut [] from 63 (fun wx => wx.heap[b9]? = some (.cells #[.int .i64 K.tick, .int .i64 (rn : Int), .int .i64 kd] 68 (0, 0)) ∧ Kept [b9] wd wx)
              case first => as_aux_lemma =>
                rcases b with _ | _
                · obtain rfl : kd = 6 := KD.out
                  go_wp2_with fail
                  go_meet
                  case rel => exact ⟨R9.out, Kept.refl _ _⟩
                · obtain rfl : kd = 7 := KD.out
                  go_wp2_with fail
                  go_meet
                  case rel => exact ⟨by have := heap_setCell_same _ _ 2 _ _ (.int .i64 7) R9.out; simpa using this, (Kept.refl [b9] wd).setCell (p := ⟨b9, 2, none⟩) (by simp) _⟩
              case rest => as_aux_lemma =>
                obtain ⟨hr9, hkk⟩ := hcut
                have H6 := Lib.hid (H5.out.kept hkk (by have := NE.out; have := ZA.out; simp; omega) (by have := NE.out; have := ZA.out; simp; omega) (by have := NE.out; have := ZA.out; simp; omega) (by have := NE.out; have := ZA.out; simp; omega))
                have X6 := Lib.hid (X5.out.trans' hkk (by have := ZA.out; intro j hj hjw; simp at hj; omega))
                have O6 := Lib.hid (O5.out.kept hkk (fun j e => by have := OB9.out j e; simp; exact this))
                have R86 := Lib.hid ((hkk.2 b8 (Array.getElem?_eq_some_iff.1 R85.out).1 (by have := NB.out; simp; exact this)).trans R85.out)
                have R96 := Lib.hid hr9
                clear hr9 hkk c5 x2 f2 H5 X5 O5 R85 R9
                obtain ⟨we, hwe⟩ : ∃ we, we = wc := ⟨_, rfl⟩
                subst hwe
                obtain ⟨q0, q1, q2, q3, q4⟩ := H6.out.cells
                rw [HRN.out] at q4
                rw [HA3.out] at q2
                obtain ⟨o3', hA3', hR3'⟩ := H6.out.accs
                obtain rfl : o3 = o3' := by rw [HA3.out] at hA3'; injection hA3' with e1; injection e1
                have a0 : we.cell? ⟨p.g3, o3 + rn * 4, none⟩ = some (.int .i64 (gi K2.ac (rn * 4))) := hR3'.cell (k := rn * 4) (by omega); have a1 : we.cell? ⟨p.g3, o3 + rn * 4 + 1, none⟩ = some (.int .i64 (gi K2.ac (rn * 4 + 1))) := hR3'.cell (k := rn * 4 + 1) (by omega); have a2 : we.cell? ⟨p.g3, o3 + rn * 4 + 2, none⟩ = some (.int .i64 (gi K2.ac (rn * 4 + 2))) := hR3'.cell (k := rn * 4 + 2) (by omega); have a3 : we.cell? ⟨p.g3, o3 + rn * 4 + 3, none⟩ = some (.int .i64 (gi K2.ac (rn * 4 + 3))) := hR3'.cell (k := rn * 4 + 3) (by omega)
                have f0 : we.frozen? ⟨p.g3, o3 + rn * 4, none⟩ = false := hR3'.frozen (o3 + rn * 4); have f1 : we.frozen? ⟨p.g3, o3 + rn * 4 + 1, none⟩ = false := hR3'.frozen (o3 + rn * 4 + 1); have f2 : we.frozen? ⟨p.g3, o3 + rn * 4 + 2, none⟩ = false := hR3'.frozen (o3 + rn * 4 + 2); have f3 : we.frozen? ⟨p.g3, o3 + rn * 4 + 3, none⟩ = false := hR3'.frozen (o3 + rn * 4 + 3)
                have b1 := cell_of_row we _ 1 _ _ _ R86.out; have b2 := cell_of_row we _ 2 _ _ _ R86.out; have b3 := cell_of_row we _ 3 _ _ _ R86.out; have b4 := cell_of_row we _ 4 _ _ _ R86.out
                simp at b1 b2 b3 b4
                clear q0 q1 q3 hA3' hR3'
                go_upto_region 13 with (fail)
                go_cut [] from 64 (fun wx => KB wx g p { K2 with ac := setAcc K2.ac rn u x y d } ∧ Kept [p.g3] we wx)
                case first => as_aux_lemma =>
                  go_region
                  all_goals
                    go_wp2_with fail
                    go_meet
                    exact ⟨(H6.out.setAccount HA3.out hr4 u x y d).drew, ((Kept.refl [p.g3] we).set4 (by simp) _ _ _ _).drew⟩
                case rest => as_aux_lemma =>
                  obtain ⟨hkb, hkk⟩ := hcut
                  have H7 := Lib.hid hkb
                  have X7 := Lib.hid (X6.out.trans (hkk.mono (gs' := [g, p.g3]) (by simp)))
                  have G3 : Hid (∀ W (A : Option Addr) (n c : Nat) (hs : List Int), OR 68 3 W w.heap.size A n c hs → ∀ j, A = some ⟨j, 0, none⟩ → j ∉ [p.g3]) := fun W A n c hs hO j e => by
                    subst e
                    have := NE.out
                    have := hO.lt
                    simp
                    omega
                  have O7 := Lib.hid (O6.out.kept hkk (G3.out _ _ _ _ _ O6.out))
                  have R97 := Lib.hid ((hkk.2 b9 (Array.getElem?_eq_some_iff.1 R96.out).1 (by have := NE.out; have := ZA.out; simp; omega)).trans R96.out)
                  clear hkb hkk q2 q4 a0 a1 a2 a3 f0 f1 f2 f3 b1 b2 b3 b4 H6 X6 O6 R86 R96 G3
                  have q4 := H7.out.cells.2.2.2.2
                  have f4 := frozen_of_row wc _ 4 _ _ H7.out.box
                  go_upto_region 15 with (fail)
                  obtain ⟨w8, hw8⟩ : ∃ w8, w8 = wc.setCell ⟨g, 4, none⟩ (.int .i64 (-1)) := ⟨_, rfl⟩
                  rw [← hw8]
                  have H8 := Lib.hid (show KB w8 g p { K2 with ac := setAcc K2.ac rn u x y d, run := -1 } by rw [hw8]; exact H7.out.setRun _)
                  have K8 : Kept [g] wc w8 := by rw [hw8]; exact (Kept.refl _ _).setCell (p := ⟨g, 4, none⟩) (by simp) _
                  have X8 := Lib.hid (X7.out.trans (K8.mono (gs' := [g, p.g3]) (by simp)))
                  have O8 := Lib.hid (O7.out.kept K8 (FAR.out _ _ _ _ _ O7.out))
                  have R98 := Lib.hid ((K8.2 b9 (Array.getElem?_eq_some_iff.1 R97.out).1 (by have := NE.out; have := ZA.out; simp; omega)).trans R97.out)
                  clear K8 hw8 q4 f4 H7 X7 O7 R97
                  have x0 := cell_of_row w8 _ 0 _ _ _ R98.out; have x1 := cell_of_row w8 _ 1 _ _ _ R98.out; have x2 := cell_of_row w8 _ 2 _ _ _ R98.out
                  simp at x0 x1 x2
                  obtain ⟨w9, hw9⟩ : ∃ w9, w9 = w8.alloc (.cells #[.int .i64 K.tick, .int .i64 (rn : Int), .int .i64 kd] 68) := ⟨_, rfl⟩
                  have k9 : w9.heap[w8.heap.size]? = some (.cells #[.int .i64 K.tick, .int .i64 (rn : Int), .int .i64 kd] 68 (0, 0)) := by rw [hw9]; exact heap_alloc_new w8 _
                  have Y9 : Kept [] w8 w9 := by rw [hw9]; exact (Kept.refl _ _).alloc _
                  have NW := Lib.hid (lit3 w9 _ _ _ _ k9)
                  have H9 := Lib.hid (H8.out.kept Y9 (by simp) (by simp) (by simp) (by simp))
                  have X9 := Lib.hid (X8.out.trans (Y9.mono (gs' := [g, p.g3]) (by simp)))
                  have O9 := Lib.hid (O8.out.kept Y9 (by simp))
                  have Z9 := Lib.hid (show w.heap.size ≤ w9.heap.size from X9.out.1.size)
                  have HW9 := Lib.hid hw9
                  have n2 : n ≤ 2 := by have := EL.out; have := EL3.out; have := O9.out.len; simp at this; omega
                  clear hw9 k9 Y9 H8 X8 O8 R98
                  go_upto_region 16 with
                    (at_builtin
                     rw [← HW9.out]
                     refine wpList_append_own _ rfl (.tmp 78) (.tmp 80) 33 rfl w.heap.size 68 i0 (.agg #[.int .i64 0, .int .i64 0, .int .i64 0]) 3 24 Tryz.underlying33 hi0 hz0 hz1 hz2 rfl (by decide) _ n _ rfl O9.out ⟨w8.heap.size, 0, none⟩ 1 1 [.int .i64 K.tick, .int .i64 (rn : Int), .int .i64 kd] rfl rfl NW.out (by simp [Value.oneCell']) (by unfold maxLen; omega) (by omega) Z9.out ?_
                     intro v' wf hown hgrow _
                     have GW := Lib.hid (O9.out.grew Z9.out hgrow)
                     have ho := hown
                     rw [show vals (L1 ++ L2) ++ [Value.int .i64 K.tick, .int .i64 (rn : Int), .int .i64 kd] = vals (L1 ++ L2 ++ [K.tick, (rn : Int), kd]) by simp [vals]] at ho
                     clear hown hgrow
                     obtain ⟨A', c', rfl, ho⟩ := or_of3 ho
                     have OF := Lib.hid ho
                     have HF := Lib.hid (H9.out.low GW.out NE.out.1 NE.out.2.1 NE.out.2.2.1 NE.out.2.2.2)
                     have XF := Lib.hid (X9.out.low GW.out)
                     clear ho GW O9 H9 X9 Z9 NW HW9 x0 x1 x2)
                  have q3 := HF.out.cells.2.2.2.1
                  rw [show ({ K2 with ac := setAcc K2.ac rn u x y d, run := -1 } : Ker).tick = K.tick from E3.out] at q3
                  have f3 := frozen_of_row wf _ 3 _ _ HF.out.box
                  have hwr : IntKind.i64.wrap (K.tick + 1) = K.tick + 1 := IntWalk.i64_in _ (by have := TK9.out; omega)
                  go_wp2
                  go_ret
                  exact ⟨_, _, _, rfl, by rw [TE.out, SE.out, EE.out]; show OR _ _ _ _ _ _ _ (L1 ++ L2 ++ [K.tick, (rn : Int), if b = true then 7 else 6]); rw [← KD.out]; exact (OR.kept OF.out ((Kept.refl [g] wf).setCell (p := ⟨g, 3, none⟩) (by simp) _) (FAR.out _ _ _ _ _ OF.out)), by rw [TE.out, SE.out, EE.out]; exact HF.out.setTick _, XF.out.setCell (p := ⟨g, 3, none⟩) (by simp) _⟩
      · have SE : Hid (tickE K2 = (K2, [])) := by show _ = _; unfold tickE; rw [E3.out, ← HPH.out, if_neg (fun hh => hp8 hh.1)]
        have g1 : (ph == 8) = false := by simp [hp8]
        clear hp8 q2
        go_wp2
        go_ret
        exact ⟨_, _, _, rfl, by rw [TE.out, SE.out]; exact ((show Hid (OR 68 3 wc w.heap.size A n c (L1 ++ L2 ++ [])) by rw [List.append_nil]; exact O3).out.kept ((Kept.refl [g] wc).setCell (p := ⟨g, 3, none⟩) (by simp) _) (FAR.out _ _ _ _ _ (show Hid (OR 68 3 wc w.heap.size A n c (L1 ++ L2 ++ [])) by rw [List.append_nil]; exact O3).out)), by rw [TE.out, SE.out]; exact H3.out.setTick _, X3.out.setCell (p := ⟨g, 3, none⟩) (by simp) _⟩

end Go.Proofs.YtlallklfilmcnaaGreat
