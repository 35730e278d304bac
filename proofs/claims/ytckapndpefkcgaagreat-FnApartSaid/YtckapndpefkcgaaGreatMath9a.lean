/-
  When one acts does not hang on what others do in their own time. No program's function is named here.
-/
import Derived.Test.YtckapndpefkcgaaGreatMuteL9
set_option maxHeartbeats 1000000
namespace Go.Proofs.YtckapndpefkcgaaGreat
open Go.RowKit
set_option maxRecDepth 100000

structure AQ (e : Nat) (K L : Ker) : Prop where
  lk : K.ac.length = 16
  ll : L.ac.length = 16
  tick : L.tick = K.tick
  os : L.os = K.os
  al : L.al = K.al
  ac : ∀ j, j < 4 → gi L.ac (e * 4 + j) = gi K.ac (e * 4 + j)
  run : L.run = (e : Int) ↔ K.run = (e : Int)
  rk : K.run = -1 ∨ (0 ≤ K.run ∧ K.run < 4)
  rl : L.run = -1 ∨ (0 ≤ L.run ∧ L.run < 4)
structure Ot (e : Nat) (K K' : Ker) : Prop where
  lk : K'.ac.length = K.ac.length
  tick : K'.tick = K.tick
  os : K'.os = K.os
  al : K'.al = K.al
  ac : ∀ j, j < 4 → gi K'.ac (e * 4 + j) = gi K.ac (e * 4 + j)
  ne : K'.run ≠ (e : Int)
  rk : K'.run = -1 ∨ (0 ≤ K'.run ∧ K'.run < 4)
theorem AQ.ot {e : Nat} {K L K' L' : Ker} (h : AQ e K L) (a : Ot e K K') (b : Ot e L L') : AQ e K' L' :=
  ⟨a.lk.trans h.lk, b.lk.trans h.ll, b.tick.trans (h.tick.trans a.tick.symm), b.os.trans (h.os.trans a.os.symm), b.al.trans (h.al.trans a.al.symm), fun j hj => (b.ac j hj).trans ((h.ac j hj).trans (a.ac j hj).symm), ⟨fun hh => absurd hh b.ne, fun hh => absurd hh a.ne⟩, a.rk, b.rk⟩
theorem Ot.trans {e : Nat} {K K' K'' : Ker} (a : Ot e K K') (b : Ot e K' K'') : Ot e K K'' :=
  ⟨b.lk.trans a.lk, b.tick.trans a.tick, b.os.trans a.os, b.al.trans a.al, fun j hj => (b.ac j hj).trans (a.ac j hj), b.ne, b.rk⟩
theorem Ot.same {e : Nat} {K : Ker} (h : K.run ≠ (e : Int)) (hr : K.run = -1 ∨ (0 ≤ K.run ∧ K.run < 4)) : Ot e K K := ⟨rfl, rfl, rfl, rfl, fun _ _ => rfl, h, hr⟩
theorem put_os (K : Ker) (o : Nat) (r : R2) : (put3 K o r).os = K.os := by unfold put3; split <;> rfl
theorem put_al (K : Ker) (o : Nat) (r : R2) : (put3 K o r).al = K.al := by unfold put3; split <;> rfl
theorem put_tick (K : Ker) (o : Nat) (r : R2) : (put3 K o r).tick = K.tick := by unfold put3; split <;> rfl
theorem put_run (K : Ker) (o : Nat) (r : R2) : (put3 K o r).run = K.run := by unfold put3; split <;> rfl
theorem put_len (K : Ker) (o : Nat) (r : R2) : (put3 K o r).ac.length = K.ac.length := by
  unfold put3
  split
  · exact setAcc_len _ _ _ _ _ _
  · rfl
theorem put_ne {K : Ker} {o e : Nat} {r : R2} (l3 : K.ac.length = 16) (ho : o < 4) (he : o ≠ e) (j : Nat) (hj : j < 4) : gi (put3 K o r).ac (e * 4 + j) = gi K.ac (e * 4 + j) := by
  unfold put3
  split
  · show gi (setAcc K.ac o _ _ _ _) (e * 4 + j) = _
    rw [setAcc_gi _ _ _ _ _ _ _ (by omega), if_neg (by omega), if_neg (by omega), if_neg (by omega), if_neg (by omega)]
  · rfl
theorem put_eq {K L : Ker} {e : Nat} {r : R2} (lk : K.ac.length = 16) (ll : L.ac.length = 16) (he : e < 4) (h : ∀ j, j < 4 → gi L.ac (e * 4 + j) = gi K.ac (e * 4 + j)) (j : Nat) (hj : j < 4) : gi (put3 L e r).ac (e * 4 + j) = gi (put3 K e r).ac (e * 4 + j) := by
  unfold put3
  split
  · show gi (setAcc L.ac e _ _ _ _) (e * 4 + j) = gi (setAcc K.ac e _ _ _ _) (e * 4 + j)
    rw [setAcc_gi _ _ _ _ _ _ _ (by omega), setAcc_gi _ _ _ _ _ _ _ (by omega)]
    rw [h j hj]
  · exact h j hj
theorem AQ.acf {e : Nat} {K L : Ker} (h : AQ e K L) (f : Int → Int → Int → Int → R2) : acf L e f = acf K e f := by
  unfold Go.Proofs.YtckapndpefkcgaaGreat.acf
  have h0 := h.ac 0 (by omega)
  have h1 := h.ac 1 (by omega)
  have h2 := h.ac 2 (by omega)
  have h3 := h.ac 3 (by omega)
  rw [Nat.add_zero] at h0
  rw [h0, h1, h2, h3]
theorem AQ.own {e : Nat} {K L : Ker} (h : AQ e K L) : own3 L = own3 K := by unfold own3; rw [h.os, h.tick]
theorem AQ.put {e : Nat} {K L : Ker} (h : AQ e K L) (he : e < 4) (f : Int → Int → Int → Int → R2) : AQ e (put3 K e (Go.Proofs.YtckapndpefkcgaaGreat.acf K e f)) (put3 L e (Go.Proofs.YtckapndpefkcgaaGreat.acf L e f)) := by
  rw [h.acf f]
  refine ⟨(put_len _ _ _).trans h.lk, (put_len _ _ _).trans h.ll, by rw [put_tick, put_tick]; exact h.tick, by rw [put_os, put_os]; exact h.os, by rw [put_al, put_al]; exact h.al, put_eq h.lk h.ll he h.ac, by rw [put_run, put_run]; exact h.run, by rw [put_run]; exact h.rk, by rw [put_run]; exact h.rl⟩
theorem AQ.runs {e : Nat} {K L : Ker} (h : AQ e K L) {u : Int} (hu : u = -1 ∨ (0 ≤ u ∧ u < 4)) : AQ e { K with run := u } { L with run := u } :=
  ⟨h.lk, h.ll, h.tick, h.os, h.al, h.ac, Iff.rfl, hu, hu⟩
theorem AQ.tick1 {e : Nat} {K L : Ker} (h : AQ e K L) : AQ e { K with tick := K.tick + 1 } { L with tick := L.tick + 1 } :=
  ⟨h.lk, h.ll, by show L.tick + 1 = K.tick + 1; rw [h.tick], h.os, h.al, h.ac, h.run, h.rk, h.rl⟩
theorem ot_put {e o : Nat} {K : Ker} (l3 : K.ac.length = 16) (ho : o < 4) (hne : o ≠ e) (r : R2) (h : K.run ≠ (e : Int)) (hr : K.run = -1 ∨ (0 ≤ K.run ∧ K.run < 4)) : Ot e K (put3 K o r) :=
  ⟨put_len _ _ _, put_tick _ _ _, put_os _ _ _, put_al _ _ _, put_ne l3 ho hne, by rw [put_run]; exact h, by rw [put_run]; exact hr⟩
theorem ot_run {e : Nat} {K : Ker} {u : Int} (h : u ≠ (e : Int)) (hr : u = -1 ∨ (0 ≤ u ∧ u < 4)) : Ot e K { K with run := u } := ⟨rfl, rfl, rfl, rfl, fun _ _ => rfl, h, hr⟩
theorem begin_ot {e : Nat} {K : Ker} (l3 : K.ac.length = 16) (hr : K.run = -1) (ho : own3 K = -1 ∨ (0 ≤ own3 K ∧ own3 K < 4)) (hne : own3 K ≠ (e : Int)) : Ot e K (begin3 K).1 := by
  unfold begin3
  by_cases h1 : own3 K = -1
  · rw [if_pos h1]
    exact Ot.same (by omega) (.inl hr)
  rw [if_neg h1]
  by_cases h2 : 0 < gi K.ac ((own3 K).toNat * 4 + 3)
  · rw [if_pos h2]
    exact ot_put l3 (by omega) (by omega) _ (by omega) (.inl hr)
  · rw [if_neg h2]
    exact ot_run hne ho
theorem tickB_ap {e : Nat} {K L : Ker} (he : e < 4) (h : AQ e K L) (hk : K.tick % 9 = 0 → K.run = -1) (hl : L.tick % 9 = 0 → L.run = -1) (ho : own3 K = -1 ∨ (0 ≤ own3 K ∧ own3 K < 4)) :
    AQ e (tickB K).1 (tickB L).1 ∧ ((tickB K).1.run = (e : Int) ↔ who8 K = (e : Int)) := by
  unfold tickB who8
  rw [h.tick]
  by_cases h0 : K.tick % 9 = 0
  · rw [if_pos h0, if_pos h0, if_neg (by simp [h0])]
    have hk := hk h0
    have hl := hl (by rw [h.tick]; exact h0)
    by_cases h1 : own3 K = (e : Int)
    · have ht : (own3 K).toNat = e := by omega
      have hd := h.ac 3 (by omega)
      have hol : own3 L = (e : Int) := h.own.trans h1
      have htl : (own3 L).toNat = e := by omega
      have c1 : ¬ own3 K = -1 := by omega
      have c2 : ¬ own3 L = -1 := by omega
      have bK : begin3 K = if 0 < gi K.ac (e * 4 + 3) then (put3 K e (acf K e skip2), [K.tick, own3 K, 2]) else ({ K with run := own3 K }, [K.tick, own3 K, 1]) := by unfold begin3; rw [if_neg c1, ht]
      have bL : begin3 L = if 0 < gi K.ac (e * 4 + 3) then (put3 L e (acf L e skip2), [L.tick, own3 L, 2]) else ({ L with run := own3 L }, [L.tick, own3 L, 1]) := by unfold begin3; rw [if_neg c2, htl, hd]
      rw [bK, bL, if_neg c1, ht]
      by_cases h2 : 0 < gi K.ac (e * 4 + 3)
      · rw [if_pos h2, if_pos h2, if_pos h2]
        refine ⟨h.put he _, ?_⟩
        show (put3 K e _).run = _ ↔ _
        rw [put_run]
        constructor <;> intro hh <;> omega
      · rw [if_neg h2, if_neg h2, if_neg h2, hol, h1]
        exact ⟨h.runs (.inr ⟨by omega, by omega⟩), Iff.rfl⟩
    · have a := begin_ot (e := e) h.lk hk ho h1
      have b := begin_ot (e := e) h.ll hl (by rw [h.own]; exact ho) (by rw [h.own]; exact h1)
      refine ⟨h.ot a b, ⟨fun hh => absurd hh a.ne, fun hh => ?_⟩⟩
      split at hh
      · omega
      · split at hh
        · omega
        · exact absurd hh h1
  · rw [if_neg h0, if_neg h0, if_pos h0]
    exact ⟨h, Iff.rfl⟩
theorem tickA_ot {e : Nat} {M : Ker} (l3 : M.ac.length = 16) (hne : M.run ≠ (e : Int)) (hr : M.run = -1 ∨ (0 ≤ M.run ∧ M.run < 4)) {kd : Int} (hkd : kd = 1 ∨ kd = 2) (to : Int) : Ot e M (tickA M kd to).1 := by
  unfold tickA
  by_cases h0 : M.run ≠ -1
  · rw [if_pos h0]
    unfold act3
    rcases hkd with rfl | rfl
    · rw [if_neg (by omega), if_neg (by omega)]
      exact ot_put l3 (by omega) (by omega) _ hne hr
    · rw [if_pos rfl]
      exact ot_run (by omega) (.inl rfl)
  · rw [if_neg h0]
    exact Ot.same hne hr
theorem tickA_ap {e : Nat} {M N : Ker} (he : e < 4) (h : AQ e M N) (hm : M.run = (e : Int)) (k to : Int) (hto : 0 ≤ to ∧ to < 4) : AQ e (tickA M k to).1 (tickA N k to).1 := by
  have hn := h.run.2 hm
  unfold tickA
  rw [if_pos (by omega), if_pos (by omega)]
  unfold act3
  by_cases h2 : k = 2
  · rw [if_pos h2, if_pos h2]
    exact h.runs (.inl rfl)
  rw [if_neg h2, if_neg h2]
  by_cases h3 : k = 3 ∧ ¬ (6 ≤ M.tick % 9) ∧ gb M.al to.toNat = true ∧ to ≠ M.run
  · have h4 : k = 3 ∧ ¬ (6 ≤ N.tick % 9) ∧ gb N.al to.toNat = true ∧ to ≠ N.run := by rw [h.tick, h.al, hn, ← hm]; exact h3
    rw [if_pos h3, if_pos h4]
    have hne : to ≠ (e : Int) := by rw [← hm]; exact h3.2.2.2
    have a : Ot e M (put3 { M with run := to } to.toNat (acf M to.toNat give2)) := (ot_run (K := M) (e := e) hne (.inr hto)).trans (ot_put (K := { M with run := to }) h.lk (by omega) (by omega) _ hne (.inr hto))
    have b : Ot e N (put3 { N with run := to } to.toNat (acf N to.toNat give2)) := (ot_run (K := N) (e := e) hne (.inr hto)).trans (ot_put (K := { N with run := to }) h.ll (by omega) (by omega) _ hne (.inr hto))
    exact h.ot a b
  · have h4 : ¬ (k = 3 ∧ ¬ (6 ≤ N.tick % 9) ∧ gb N.al to.toNat = true ∧ to ≠ N.run) := by rw [h.tick, h.al, hn, ← hm]; exact h3
    rw [if_neg h3, if_neg h4]
    have ht : M.run.toNat = e := by omega
    have hs : N.run.toNat = e := by omega
    have e1 : (fun u x g d => use2 u x g d (decide (6 ≤ N.tick % 9))) = fun u x g d => use2 u x g d (decide (6 ≤ M.tick % 9)) := by rw [h.tick]
    rw [e1, ht, hs]
    exact h.put he _
theorem tickE_ap {e : Nat} {M N : Ker} (he : e < 4) (h : AQ e M N) : AQ e (tickE M).1 (tickE N).1 := by
  by_cases hm : M.run = (e : Int)
  · have hn := h.run.2 hm
    unfold tickE
    rw [h.tick]
    by_cases h8 : M.tick % 9 = 8
    · rw [if_pos ⟨h8, by omega⟩, if_pos ⟨h8, by omega⟩]
      unfold end3
      rw [hm, hn]
      have ht : ((e : Int)).toNat = e := by omega
      rw [ht]
      exact (h.put he _).runs (.inl rfl)
    · rw [if_neg (fun hh => h8 hh.1), if_neg (fun hh => h8 hh.1)]
      exact h
  · have hn : N.run ≠ (e : Int) := fun hh => hm (h.run.1 hh)
    have one : ∀ {P : Ker}, P.ac.length = 16 → P.run ≠ (e : Int) → (P.run = -1 ∨ (0 ≤ P.run ∧ P.run < 4)) → Ot e P (tickE P).1 := fun {P} l hne hr => by
      unfold tickE
      by_cases h8 : P.tick % 9 = 8 ∧ P.run ≠ -1
      · rw [if_pos h8]
        unfold end3
        have h1 := ot_put l (o := P.run.toNat) (e := e) (by omega) (by omega) (acf P P.run.toNat pun2) hne hr
        exact h1.trans (ot_run (by omega) (.inl rfl))
      · rw [if_neg h8]
        exact Ot.same hne hr
    exact h.ot (one h.lk hm h.rk) (one h.ll hn h.rl)
theorem tick_ap {e : Nat} {K L : Ker} (he : e < 4) (h : AQ e K L) (hk : K.tick % 9 = 0 → K.run = -1) (hl : L.tick % 9 = 0 → L.run = -1) (ho : own3 K = -1 ∨ (0 ≤ own3 K ∧ own3 K < 4)) {k k' to to' : Int}
    (hin : who8 K = (e : Int) → k' = k ∧ to' = to ∧ 0 ≤ to ∧ to < 4) (hout : who8 K ≠ (e : Int) → (k = 1 ∨ k = 2) ∧ (k' = 1 ∨ k' = 2)) : AQ e (tick3 K k to).1 (tick3 L k' to').1 := by
  obtain ⟨hB, hw⟩ := tickB_ap he h hk hl ho
  have hA : AQ e (tickA (tickB K).1 k to).1 (tickA (tickB L).1 k' to').1 := by
    by_cases hx : who8 K = (e : Int)
    · obtain ⟨rfl, rfl, t1, t2⟩ := hin hx
      exact tickA_ap he hB (hw.2 hx) _ _ ⟨t1, t2⟩
    · obtain ⟨a, b⟩ := hout hx
      have n1 : (tickB K).1.run ≠ (e : Int) := fun hh => hx (hw.1 hh)
      have n2 : (tickB L).1.run ≠ (e : Int) := fun hh => n1 (hB.run.1 hh)
      exact hB.ot (tickA_ot hB.lk n1 hB.rk a to) (tickA_ot hB.ll n2 hB.rl b to')
  have hE := tickE_ap he hA
  have tk : ∀ (P : Ker) (k to : Int), (tickE (tickA (tickB P).1 k to).1).1.tick = P.tick := fun P k to => by
    have b : (tickB P).1.tick = P.tick := by
      unfold tickB
      split
      · unfold begin3
        split
        · rfl
        · split
          · exact put_tick _ _ _
          · rfl
      · rfl
    have a : ∀ Q : Ker, (tickA Q k to).1.tick = Q.tick := fun Q => by
      unfold tickA
      split
      · unfold act3
        split
        · rfl
        · split
          · exact put_tick _ _ _
          · exact put_tick _ _ _
      · rfl
    have c : ∀ Q : Ker, (tickE Q).1.tick = Q.tick := fun Q => by
      unfold tickE
      split
      · unfold end3
        exact put_tick _ _ _
      · rfl
    rw [c, a, b]
  have e1 : (tick3 K k to).1 = { (tickE (tickA (tickB K).1 k to).1).1 with tick := (tickE (tickA (tickB K).1 k to).1).1.tick + 1 } := by rw [tk]; rfl
  have e2 : (tick3 L k' to').1 = { (tickE (tickA (tickB L).1 k' to').1).1 with tick := (tickE (tickA (tickB L).1 k' to').1).1.tick + 1 } := by rw [tk]; rfl
  rw [e1, e2]
  exact hE.tick1

end Go.Proofs.YtckapndpefkcgaaGreat
