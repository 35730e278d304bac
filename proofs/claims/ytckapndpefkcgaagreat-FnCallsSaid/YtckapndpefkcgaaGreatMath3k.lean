/-
  What a tick turns: the accounts of whose slot it is, of who acts, and of whom it gives to; and who runs behind it. No program's function is named here.
  Ahead of it:
  When one acts does not hang on what others do in their own time: whole runs. No program's function is named here.
  Ahead of it:
  When one acts does not hang on what others do in their own time. No program's function is named here.
  Ahead of it:
  What an audit of a run says: the ticks ahead of which something was so. No program's function is named here.
-/
import Derived.Test.YtckapndpefkcgaaGreatMath3r
import Derived.Test.YtckapndpefkcgaaGreatLoop3
import Derived.Test.YtckapndpefkcgaaGreatWho8
set_option maxHeartbeats 1000000
namespace Go.Proofs.YtckapndpefkcgaaGreat
open Go.RowKit
set_option maxRecDepth 100000

structure LoopK (w W : World) (g : Nat) (p : Kp) (K : Ker) : Prop where
  kb : KB W g p K
  n1 : 1 ≤ p.n1
  lo : w.heap.size ≤ g ∧ w.heap.size ≤ p.g1 ∧ w.heap.size ≤ p.g2 ∧ w.heap.size ≤ p.g3
  bw : Below w.heap.size w W
theorem LoopK.below {w W W1 : World} {g : Nat} {p : Kp} {K : Ker} (J : LoopK w W g p K) (hb : Below W.heap.size W W1) : LoopK w W1 g p K := by
  have l1 := J.kb.lt1 J.n1
  have l2 := J.kb.lt2
  exact ⟨J.kb.low hb J.kb.lt l1 l2.1 l2.2, J.n1, J.lo, J.bw.trans (hb.mono J.bw.size)⟩
theorem LoopK.event {w W : World} {g : Nat} {p : Kp} {K : Ker} (J : LoopK w W g p K) {W1 : World} {p' : Kp} {K' : Ker} (kb : KB W1 g p' K') (sk : SK K') (e1 : p'.g1 = p.g1 ∨ W.heap.size ≤ p'.g1 ∧ p'.g1 < W1.heap.size) (e2 : p'.g2 = p.g2) (e3 : p'.g3 = p.g3) (kk : Kept [g, p.g2, p.g3] W W1) : LoopK w W1 g p' K' := by
  have l1 := kb.own.l1
  obtain ⟨v1, _⟩ := vf_zero sk.v
  have zb := J.bw.size
  have lo := J.lo
  refine ⟨kb, by omega, ⟨lo.1, ?_, by omega, by omega⟩, J.bw.trans (kk.below zb fun b hb => ?_)⟩
  · rcases e1 with e1 | e1
    · rw [e1]; exact lo.2.1
    · omega
  · simp only [List.mem_cons, List.not_mem_nil, or_false] at hb
    rcases hb with rfl | rfl | rfl
    · exact lo.1
    · exact lo.2.2.1
    · exact lo.2.2.2



structure AQ (e : Nat) (K L : Ker) : Prop where
  lk : K.ac.length = 16
  ll : L.ac.length = 16
  tick : L.tick = K.tick
  os : L.os = K.os
  al : L.al = K.al
  ac : ∀ j, j < 4 → gi L.ac (e * 4 + j) = gi K.ac (e * 4 + j)
  run : L.run = (e : Int) ↔ K.run = (e : Int)
  rk : K.run = -1 ∨ (0 ≤ K.run ∧ K.run < 4)
  rl : L.run = -1 ∨ (0 ≤ L.run ∧ L.run < 4)
structure Ot (e : Nat) (K K' : Ker) : Prop where
  lk : K'.ac.length = K.ac.length
  tick : K'.tick = K.tick
  os : K'.os = K.os
  al : K'.al = K.al
  ac : ∀ j, j < 4 → gi K'.ac (e * 4 + j) = gi K.ac (e * 4 + j)
  ne : K'.run ≠ (e : Int)
  rk : K'.run = -1 ∨ (0 ≤ K'.run ∧ K'.run < 4)
theorem Ot.trans {e : Nat} {K K' K'' : Ker} (a : Ot e K K') (b : Ot e K' K'') : Ot e K K'' :=
  ⟨b.lk.trans a.lk, b.tick.trans a.tick, b.os.trans a.os, b.al.trans a.al, fun j hj => (b.ac j hj).trans (a.ac j hj), b.ne, b.rk⟩
theorem Ot.same {e : Nat} {K : Ker} (h : K.run ≠ (e : Int)) (hr : K.run = -1 ∨ (0 ≤ K.run ∧ K.run < 4)) : Ot e K K := ⟨rfl, rfl, rfl, rfl, fun _ _ => rfl, h, hr⟩
theorem put_os (K : Ker) (o : Nat) (r : R2) : (put3 K o r).os = K.os := by unfold put3; split <;> rfl
theorem put_al (K : Ker) (o : Nat) (r : R2) : (put3 K o r).al = K.al := by unfold put3; split <;> rfl
theorem put_tick (K : Ker) (o : Nat) (r : R2) : (put3 K o r).tick = K.tick := by unfold put3; split <;> rfl
theorem put_run (K : Ker) (o : Nat) (r : R2) : (put3 K o r).run = K.run := by unfold put3; split <;> rfl
theorem put_len (K : Ker) (o : Nat) (r : R2) : (put3 K o r).ac.length = K.ac.length := by
  unfold put3
  split
  · exact setAcc_len _ _ _ _ _ _
  · rfl
theorem put_ne {K : Ker} {o e : Nat} {r : R2} (l3 : K.ac.length = 16) (ho : o < 4) (he : o ≠ e) (j : Nat) (hj : j < 4) : gi (put3 K o r).ac (e * 4 + j) = gi K.ac (e * 4 + j) := by
  unfold put3
  split
  · show gi (setAcc K.ac o _ _ _ _) (e * 4 + j) = _
    rw [setAcc_gi _ _ _ _ _ _ _ (by omega), if_neg (by omega), if_neg (by omega), if_neg (by omega), if_neg (by omega)]
  · rfl
theorem put_eq {K L : Ker} {e : Nat} {r : R2} (lk : K.ac.length = 16) (ll : L.ac.length = 16) (he : e < 4) (h : ∀ j, j < 4 → gi L.ac (e * 4 + j) = gi K.ac (e * 4 + j)) (j : Nat) (hj : j < 4) : gi (put3 L e r).ac (e * 4 + j) = gi (put3 K e r).ac (e * 4 + j) := by
  unfold put3
  split
  · show gi (setAcc L.ac e _ _ _ _) (e * 4 + j) = gi (setAcc K.ac e _ _ _ _) (e * 4 + j)
    rw [setAcc_gi _ _ _ _ _ _ _ (by omega), setAcc_gi _ _ _ _ _ _ _ (by omega)]
    rw [h j hj]
  · exact h j hj
theorem AQ.acf {e : Nat} {K L : Ker} (h : AQ e K L) (f : Int → Int → Int → Int → R2) : acf L e f = acf K e f := by
  unfold Go.Proofs.YtckapndpefkcgaaGreat.acf
  have h0 := h.ac 0 (by omega)
  have h1 := h.ac 1 (by omega)
  have h2 := h.ac 2 (by omega)
  have h3 := h.ac 3 (by omega)
  rw [Nat.add_zero] at h0
  rw [h0, h1, h2, h3]
theorem AQ.own {e : Nat} {K L : Ker} (h : AQ e K L) : own3 L = own3 K := by unfold own3; rw [h.os, h.tick]
theorem AQ.put {e : Nat} {K L : Ker} (h : AQ e K L) (he : e < 4) (f : Int → Int → Int → Int → R2) : AQ e (put3 K e (Go.Proofs.YtckapndpefkcgaaGreat.acf K e f)) (put3 L e (Go.Proofs.YtckapndpefkcgaaGreat.acf L e f)) := by
  rw [h.acf f]
  refine ⟨(put_len _ _ _).trans h.lk, (put_len _ _ _).trans h.ll, by rw [put_tick, put_tick]; exact h.tick, by rw [put_os, put_os]; exact h.os, by rw [put_al, put_al]; exact h.al, put_eq h.lk h.ll he h.ac, by rw [put_run, put_run]; exact h.run, by rw [put_run]; exact h.rk, by rw [put_run]; exact h.rl⟩
theorem AQ.runs {e : Nat} {K L : Ker} (h : AQ e K L) {u : Int} (hu : u = -1 ∨ (0 ≤ u ∧ u < 4)) : AQ e { K with run := u } { L with run := u } :=
  ⟨h.lk, h.ll, h.tick, h.os, h.al, h.ac, Iff.rfl, hu, hu⟩


theorem run_first {K : Ker} (h : SK K) : K.tick % 9 = 0 → K.run = -1 := fun h0 => by
  rcases h.rl with h1 | h1
  · exact h1
  · exact absurd h0 h1.2


theorem tb_run {K : Ker} (h : SK K) : (tickB K).1.run = who8 K := by
  unfold tickB who8
  by_cases h0 : K.tick % 9 = 0
  · rw [if_pos h0, if_neg (fun hh => hh h0)]
    have hr := run_first h h0
    unfold begin3
    by_cases h1 : own3 K = -1
    · rw [if_pos h1, if_pos h1]; exact hr
    rw [if_neg h1, if_neg h1]
    by_cases h2 : 0 < gi K.ac ((own3 K).toNat * 4 + 3)
    · rw [if_pos h2, if_pos h2]
      exact (put_run _ _ _).trans hr
    · rw [if_neg h2, if_neg h2]
  · rw [if_neg h0, if_pos h0]
theorem tb_ac {K : Ker} (h : SK K) (ho : own3 K = -1 ∨ (0 ≤ own3 K ∧ own3 K < 4)) {i : Nat} (hi : (i : Int) ≠ own3 K) (j : Nat) (hj : j < 4) : gi (tickB K).1.ac (i * 4 + j) = gi K.ac (i * 4 + j) := by
  unfold tickB
  split
  · unfold begin3
    split
    · rfl
    · split
      · exact put_ne h.l3 (by omega) (by omega) j hj
      · rfl
  · rfl
theorem ta_turn {M : Ker} (l3 : M.ac.length = 16) (hr : M.run = -1 ∨ (0 ≤ M.run ∧ M.run < 4)) {k to : Int} (hto : 0 ≤ to ∧ to < 4) :
    ((tickA M k to).1.run = -1 ∨ (tickA M k to).1.run = M.run ∨ (k = 3 ∧ (tickA M k to).1.run = to)) ∧ (tickA M k to).1.ac.length = 16 ∧ ∀ i : Nat, (i : Int) ≠ M.run → ¬ (k = 3 ∧ (i : Int) = to) → ∀ j, j < 4 → gi (tickA M k to).1.ac (i * 4 + j) = gi M.ac (i * 4 + j) := by
  unfold tickA
  by_cases h0 : M.run ≠ -1
  · rw [if_pos h0]
    unfold act3
    by_cases h2 : k = 2
    · rw [if_pos h2]
      exact ⟨.inl rfl, l3, fun _ _ _ _ _ => rfl⟩
    rw [if_neg h2]
    by_cases h3 : k = 3 ∧ ¬ (6 ≤ M.tick % 9) ∧ gb M.al to.toNat = true ∧ to ≠ M.run
    · rw [if_pos h3]
      refine ⟨.inr (.inr ⟨h3.1, put_run _ _ _⟩), (put_len _ _ _).trans l3, fun i _ hi j hj => ?_⟩
      exact put_ne (K := { M with run := to }) l3 (by omega) (by omega) j hj
    · rw [if_neg h3]
      exact ⟨.inr (.inl (put_run _ _ _)), (put_len _ _ _).trans l3, fun i hi _ j hj => put_ne l3 (by omega) (by omega) j hj⟩
  · rw [if_neg h0]
    exact ⟨.inr (.inl rfl), l3, fun _ _ _ _ _ => rfl⟩
theorem te_turn {M : Ker} (l3 : M.ac.length = 16) (hr : M.run = -1 ∨ (0 ≤ M.run ∧ M.run < 4)) : ((tickE M).1.run = -1 ∨ (tickE M).1.run = M.run) ∧ ∀ i : Nat, (i : Int) ≠ M.run → ∀ j, j < 4 → gi (tickE M).1.ac (i * 4 + j) = gi M.ac (i * 4 + j) := by
  unfold tickE
  by_cases h8 : M.tick % 9 = 8 ∧ M.run ≠ -1
  · rw [if_pos h8]
    unfold end3
    exact ⟨.inl rfl, fun i hi j hj => put_ne l3 (by omega) (by omega) j hj⟩
  · rw [if_neg h8]
    exact ⟨.inr rfl, fun _ _ _ _ => rfl⟩
theorem who_rng {K : Ker} (h : SK K) (ho : own3 K = -1 ∨ (0 ≤ own3 K ∧ own3 K < 4)) : who8 K = -1 ∨ (0 ≤ who8 K ∧ who8 K < 4) := by
  unfold who8
  split
  · exact h.run
  · split
    · exact .inl rfl
    · split
      · exact .inl rfl
      · exact ho
theorem tb_len {K : Ker} (h : SK K) : (tickB K).1.ac.length = 16 := by
  unfold tickB
  split
  · unfold begin3
    split
    · exact h.l3
    · split
      · exact (put_len _ _ _).trans h.l3
      · exact h.l3
  · exact h.l3
theorem tick_turns {K : Ker} (h : SK K) (ht : K.tick < 100000) {k to : Int} (hto : 0 ≤ to ∧ to < 4) :
    ((tick3 K k to).1.run = -1 ∨ (tick3 K k to).1.run = who8 K ∨ (k = 3 ∧ (tick3 K k to).1.run = to)) ∧ ∀ i : Nat, (i : Int) ≠ who8 K → (i : Int) ≠ own3 K → ¬ (k = 3 ∧ (i : Int) = to) → ∀ j, j < 4 → gi (tick3 K k to).1.ac (i * 4 + j) = gi K.ac (i * 4 + j) := by
  have ho := (h.tk ht).own
  have hw := tb_run h
  have rg := who_rng h ho
  obtain ⟨a1, a2, a3⟩ := ta_turn (M := (tickB K).1) (k := k) (tb_len h) (by rw [hw]; exact rg) hto
  rw [hw] at a1 a3
  obtain ⟨e1, e2⟩ := te_turn (M := (tickA (tickB K).1 k to).1) a2 (by
    rcases a1 with x | x | ⟨_, x⟩
    · exact .inl x
    · rw [x]; exact rg
    · rw [x]; exact .inr hto)
  refine ⟨?_, fun i i1 i2 i3 j hj => ?_⟩
  · show (tickE (tickA (tickB K).1 k to).1).1.run = -1 ∨ _
    rcases e1 with x | x
    · exact .inl x
    · show (tickE (tickA (tickB K).1 k to).1).1.run = -1 ∨ (tickE (tickA (tickB K).1 k to).1).1.run = who8 K ∨ (k = 3 ∧ (tickE (tickA (tickB K).1 k to).1).1.run = to)
      rw [x]
      exact a1
  · show gi (tickE (tickA (tickB K).1 k to).1).1.ac (i * 4 + j) = _
    rw [e2 i (by
      rcases a1 with x | x | ⟨k3, x⟩
      · omega
      · rw [x]; exact i1
      · rw [x]; exact fun hh => i3 ⟨k3, hh⟩) j hj, a3 i i1 i3 j hj, tb_ac h ho i2 j hj]
theorem call_turns {K : Ker} (l3 : K.ac.length = 16) {k a s t : Int} (ha : 0 ≤ a ∧ a < 4) {i : Nat} (hi : (i : Int) ≠ a) (j : Nat) (hj : j < 4) : gi (call3 K k a s t).2.ac (i * 4 + j) = gi K.ac (i * 4 + j) := by
  unfold call3
  split
  · split <;> rfl
  · split
    · rfl
    · split
      · show gi (zac K.ac a.toNat) (i * 4 + j) = _
        rw [gi_zac (by omega), if_neg (by omega)]
      · have l : ∀ r : Int × List Int, (lists K r).2.ac = K.ac := fun r => by unfold lists; split <;> rfl
        split
        · rw [l]
        · split
          · rw [l]
          · split
            · rfl
            · rw [l]

end Go.Proofs.YtckapndpefkcgaaGreat
