/-
  When one acts does not hang on what others do in their own time: the muted events as events, and when one acts in them. No program's function is named here.
  Ahead of it:
  When one acts does not hang on what others do in their own time: whole runs. No program's function is named here.
-/
import Derived.Test.YtckapndpefkcgaaGreatMath9a
set_option maxHeartbeats 1000000
namespace Go.Proofs.YtckapndpefkcgaaGreat
open Go.RowKit
set_option maxRecDepth 100000

theorem lists_ap {e : Nat} {K L : Ker} (h : AQ e K L) (r : Int × List Int) : AQ e (lists K r).2 (lists L r).2 := by
  unfold lists
  split
  · exact h
  · exact ⟨h.lk, h.ll, h.tick, rfl, h.al, h.ac, h.run, h.rk, h.rl⟩
theorem call_ap {e : Nat} {K L : Ker} (he : e < 4) (h : AQ e K L) {k a s t : Int} (ha : 0 ≤ a ∧ a < 4) : AQ e (call3 K k a s t).2 (call3 L k a s t).2 := by
  obtain ⟨os, al, ac, tk, r⟩ := K
  obtain ⟨os', al', ac', tk', r'⟩ := L
  obtain rfl : os' = os := h.os
  obtain rfl : al' = al := h.al
  obtain rfl : tk' = tk := h.tick
  have lk : ac.length = 16 := h.lk
  have ll : ac'.length = 16 := h.ll
  have hac : ∀ j, j < 4 → gi ac' (e * 4 + j) = gi ac (e * 4 + j) := h.ac
  have hrun : r' = (e : Int) ↔ r = (e : Int) := h.run
  have rk : r = -1 ∨ (0 ≤ r ∧ r < 4) := h.rk
  have rl : r' = -1 ∨ (0 ≤ r' ∧ r' < 4) := h.rl
  unfold call3
  by_cases k1 : k = 1
  · rw [if_pos k1, if_pos k1]
    by_cases g : gb al' a.toNat = true
    · rw [if_pos g, if_pos g]; exact h
    · rw [if_neg g, if_neg g]
      exact ⟨lk, ll, rfl, rfl, rfl, hac, hrun, rk, rl⟩
  rw [if_neg k1, if_neg k1]
  by_cases g : gb al' a.toNat = false
  · rw [if_pos g, if_pos g]; exact h
  rw [if_neg g, if_neg g]
  by_cases k2 : k = 2
  · rw [if_pos k2, if_pos k2]
    refine ⟨(zac_len _ _).trans lk, (zac_len _ _).trans ll, rfl, rfl, rfl, fun j hj => ?_, ?_, ?_, ?_⟩
    · show gi (zac ac' a.toNat) (e * 4 + j) = gi (zac ac a.toNat) (e * 4 + j)
      rw [gi_zac (by omega), gi_zac (by omega), hac j hj]
    · show (if r' = a then -1 else r') = (e : Int) ↔ (if r = a then -1 else r) = (e : Int)
      split <;> split <;> omega
    · show (if r = a then -1 else r) = -1 ∨ _
      split
      · exact .inl rfl
      · exact rk
    · show (if r' = a then -1 else r') = -1 ∨ _
      split
      · exact .inl rfl
      · exact rl
  rw [if_neg k2, if_neg k2]
  by_cases k3 : k = 3
  · rw [if_pos k3, if_pos k3]; exact lists_ap h _
  rw [if_neg k3, if_neg k3]
  by_cases k4 : k = 4
  · rw [if_pos k4, if_pos k4]; exact lists_ap h _
  rw [if_neg k4, if_neg k4]
  by_cases g2 : gb al' t.toNat = false
  · rw [if_pos g2, if_pos g2]; exact h
  · rw [if_neg g2, if_neg g2]; exact lists_ap h _
theorem AQ.ll_ {e : Nat} {K L : Ker} (h : AQ e K L) : AQ e L L := ⟨h.ll, h.ll, rfl, rfl, rfl, fun _ _ => rfl, Iff.rfl, h.rl, h.rl⟩
theorem run_first {K : Ker} (h : SK K) : K.tick % 9 = 0 → K.run = -1 := fun h0 => by
  rcases h.rl with h1 | h1
  · exact h1
  · exact absurd h0 h1.2
theorem who_ap {e : Nat} {K L : Ker} (he : e < 4) (h : AQ e K L) (hk : SK K) (hl : SK L) (ht : K.tick < 100000) : who8 L = (e : Int) ↔ who8 K = (e : Int) := by
  have a := tickB_ap he h (run_first hk) (run_first hl) (hk.tk ht).own
  have b := tickB_ap he h.ll_ (run_first hl) (run_first hl) (hl.tk (by rw [h.tick]; exact ht)).own
  exact b.2.symm.trans (a.1.run.trans a.2)
theorem acts_ap {e : Nat} {K L : Ker} (he : e < 4) (h : AQ e K L) (hk : SK K) (hl : SK L) (ht : K.tick < 100000) : acts9 (e : Int) L = acts9 (e : Int) K := by
  unfold acts9
  exact decide_eq_decide.2 (who_ap he h hk hl ht)
theorem evf_mut {b c e s t : Int} {a : Int} (h : evf 1 a b c e s t = 0) {kd : Int} (hkd : kd = 1 ∨ kd = 2) : evf 1 kd 0 c e s t = 0 := by
  unfold evf at h ⊢
  rw [if_pos rfl] at h ⊢
  by_cases h1 : ¬ (1 ≤ a ∧ a ≤ 3) ∨ (a ≠ 3 ∧ b ≠ 0) ∨ c ≠ 0 ∨ e ≠ 0 ∨ s ≠ 0 ∨ t ≠ 0
  · rw [if_pos h1] at h; omega
  · rw [if_neg (by omega), if_pos (by decide)]
theorem st_f {K : Ker} {k a b c e s t : Int} (h : evf k a b c e s t ≠ 0) : (step3 K k a b c e s t).2.1 = K := by unfold step3; rw [if_pos h]
theorem st_c {K : Ker} {k a b c e s t : Int} (h : evf k a b c e s t = 0) (hk : k = 2) : (step3 K k a b c e s t).2.1 = (call3 K c e s t).2 := by unfold step3; rw [if_neg (fun hh => hh h), if_pos hk]
theorem st_t {K : Ker} {k a b c e s t : Int} (h : evf k a b c e s t = 0) (hk : k ≠ 2) : (step3 K k a b c e s t).2.1 = (tick3 K a b).1 := by unfold step3; rw [if_neg (fun hh => hh h), if_neg hk]
theorem step_ap {e : Nat} {K L : Ker} (he : e < 4) (h : AQ e K L) (hk : SK K) (hl : SK L) (ht : K.tick < 100000) (x : Nat → Int) (i : Nat) {kd kd' : Int} (h1 : kd = 1 ∨ kd = 2) (h2 : kd' = 1 ∨ kd' = 2) :
    AQ e (muS x (e : Int) kd K i).2.1 (muS x (e : Int) kd' L i).2.1 := by
  have hw := acts_ap he h hk hl ht
  have hm : isMu x (e : Int) L i = isMu x (e : Int) K i := by unfold isMu; rw [hw]
  have hown := (hk.tk ht).own
  unfold muS muA muB
  rw [hm]
  rcases hy : isMu x (e : Int) K i with _ | _
  · show AQ e (step3 K (x (i * 7)) (x (i * 7 + 1)) (x (i * 7 + 2)) _ _ _ _).2.1 (step3 L (x (i * 7)) (x (i * 7 + 1)) (x (i * 7 + 2)) _ _ _ _).2.1
    by_cases h0 : evf (x (i * 7)) (x (i * 7 + 1)) (x (i * 7 + 2)) (x (i * 7 + 3)) (x (i * 7 + 4)) (x (i * 7 + 5)) (x (i * 7 + 6)) = 0
    · rcases evf_z h0 with ⟨k1, hb, _⟩ | ⟨k2, hc⟩
      · rw [st_t h0 (by omega), st_t h0 (by omega)]
        have e1 : tk9 x i = true := decide_eq_true ⟨h0, k1⟩
        have ha : acts9 (e : Int) K = true := by
          unfold isMu at hy
          rw [e1, Bool.true_and] at hy
          cases h9 : acts9 (e : Int) K with
          | true => rfl
          | false => rw [h9] at hy; cases hy
        have hwho : who8 K = (e : Int) := of_decide_eq_true ha
        exact tick_ap he h (run_first hk) (run_first hl) hown (fun _ => ⟨rfl, rfl, hb⟩) (fun hh => absurd hwho hh)
      · rw [st_c h0 k2, st_c h0 k2]
        exact call_ap he h (cf_z hc).2.1
    · rw [st_f h0, st_f h0]
      exact h
  · show AQ e (step3 K (x (i * 7)) kd 0 _ _ _ _).2.1 (step3 L (x (i * 7)) kd' 0 _ _ _ _).2.1
    have hx : tk9 x i = true ∧ acts9 (e : Int) K = false := by
      unfold isMu at hy
      rw [Bool.and_eq_true] at hy
      refine ⟨hy.1, ?_⟩
      have h9 := hy.2
      cases h8 : acts9 (e : Int) K with
      | true => rw [h8] at h9; cases h9
      | false => rfl
    obtain ⟨h0, k1⟩ := of_decide_eq_true hx.1
    have hwho : who8 K ≠ (e : Int) := of_decide_eq_false hx.2
    rw [k1] at h0 ⊢
    rw [st_t (evf_mut h0 h1) (by omega), st_t (evf_mut h0 h2) (by omega)]
    exact tick_ap he h (run_first hk) (run_first hl) hown (fun hh => absurd hh hwho) (fun _ => ⟨h1, h2⟩)
theorem run_ap {e : Nat} {K0 : Ker} (he : e < 4) (sk : SK K0) (h0 : K0.tick = 0) (x : Nat → Int) {kd kd' : Int} (h1 : kd = 1 ∨ kd = 2) (h2 : kd' = 1 ∨ kd' = 2) :
    ∀ n, n ≤ 400 → AQ e (mu9 x (e : Int) kd K0 n).1 (mu9 x (e : Int) kd' K0 n).1
  | 0, _ => ⟨sk.l3, sk.l3, rfl, rfl, rfl, fun _ _ => rfl, Iff.rfl, sk.run, sk.run⟩
  | n + 1, hn => by
    obtain ⟨a1, a2, _⟩ := mu9_all (x := x) (ev := (e : Int)) (kd := kd) sk h0 n (by omega)
    obtain ⟨b1, b2, _⟩ := mu9_all (x := x) (ev := (e : Int)) (kd := kd') sk h0 n (by omega)
    exact step_ap he (run_ap he sk h0 x h1 h2 n (by omega)) a1 b1 (by omega) x n h1 h2



theorem gi_l9 {a b : List Int} {i : Nat} (h : i < a.length) : gi (a ++ b) i = gi a i := by
  unfold gi
  simp [List.getD_eq_getElem?_getD, List.getElem?_append_left h]
theorem gi_r9 {a b : List Int} {i m : Nat} (h : a.length = m) : gi (a ++ b) (m + i) = gi b i := by
  subst h
  unfold gi
  simp [List.getD_eq_getElem?_getD, List.getElem?_append_right (show a.length ≤ a.length + i by omega)]
theorem mu_len (x : Nat → Int) (ev kd : Int) (K0 : Ker) : ∀ n, (mu9 x ev kd K0 n).2.1.length = n * 7
  | 0 => rfl
  | n + 1 => by
    unfold mu9
    simp only [List.length_append, List.length_cons, List.length_nil]
    rw [mu_len x ev kd K0 n]
    omega
def seg9 (x : Nat → Int) (ev kd : Int) (K : Ker) (i : Nat) : List Int := [x (i * 7), muA x ev kd K i, muB x ev K i, x (i * 7 + 3), x (i * 7 + 4), x (i * 7 + 5), x (i * 7 + 6)]
theorem mu_gi (x : Nat → Int) (ev kd : Int) (K0 : Ker) : ∀ n i, i < n → ∀ j, j < 7 → gi (mu9 x ev kd K0 n).2.1 (i * 7 + j) = gi (seg9 x ev kd (mu9 x ev kd K0 i).1 i) j
  | 0, i, h, _, _ => absurd h (by omega)
  | n + 1, i, h, j, hj => by
    have e : (mu9 x ev kd K0 (n + 1)).2.1 = (mu9 x ev kd K0 n).2.1 ++ seg9 x ev kd (mu9 x ev kd K0 n).1 n := rfl
    have hl := mu_len x ev kd K0 n
    rw [e]
    by_cases hi : i < n
    · rw [gi_l9 (by omega)]
      exact mu_gi x ev kd K0 n i hi j hj
    · obtain rfl : i = n := by omega
      exact gi_r9 hl
theorem run_mu (x : Nat → Int) (ev kd : Int) (K0 : Ker) (n : Nat) : ∀ i, i ≤ n → (run3 K0 (gi (mu9 x ev kd K0 n).2.1) i).1 = (mu9 x ev kd K0 i).1
  | 0, _ => rfl
  | i + 1, hi => by
    have ih := run_mu x ev kd K0 n i (by omega)
    have g := mu_gi x ev kd K0 n i (by omega)
    show (stp (gi (mu9 x ev kd K0 n).2.1) i (run3 K0 (gi (mu9 x ev kd K0 n).2.1) i).1).2.1 = (muS x ev kd (mu9 x ev kd K0 i).1 i).2.1
    rw [ih]
    unfold stp
    rw [g 1 (by omega), g 2 (by omega), g 3 (by omega), g 4 (by omega), g 5 (by omega), g 6 (by omega), show i * 7 = i * 7 + 0 by omega, g 0 (by omega)]
    rfl
theorem tk_mu (x : Nat → Int) (ev : Int) {kd : Int} (hkd : kd = 1 ∨ kd = 2) (K0 : Ker) (n i : Nat) (hi : i < n) : tk9 (gi (mu9 x ev kd K0 n).2.1) i = tk9 x i := by
  have g := mu_gi x ev kd K0 n i hi
  have g0 := g 0 (by omega)
  rw [Nat.add_zero] at g0
  have e : tk9 (gi (mu9 x ev kd K0 n).2.1) i = decide (evf (x (i * 7)) (muA x ev kd (mu9 x ev kd K0 i).1 i) (muB x ev (mu9 x ev kd K0 i).1 i) (x (i * 7 + 3)) (x (i * 7 + 4)) (x (i * 7 + 5)) (x (i * 7 + 6)) = 0 ∧ x (i * 7) = 1) := by
    unfold tk9
    rw [g 1 (by omega), g 2 (by omega), g 3 (by omega), g 4 (by omega), g 5 (by omega), g 6 (by omega), g0]
    rfl
  rw [e]
  unfold muA muB
  rcases hy : isMu x ev (mu9 x ev kd K0 i).1 i with _ | _
  · rfl
  · have h1 : tk9 x i = true := by
      unfold isMu at hy
      rw [Bool.and_eq_true] at hy
      exact hy.1
    rw [h1]
    obtain ⟨h0, k1⟩ := of_decide_eq_true h1
    rw [k1] at h0
    refine decide_eq_true ⟨?_, k1⟩
    rw [k1]
    exact evf_mut h0 hkd
theorem apart9 {e : Nat} {K0 : Ker} (he : e < 4) (sk : SK K0) (h0 : K0.tick = 0) (x : Nat → Int) {kd kd' : Int} (h1 : kd = 1 ∨ kd = 2) (h2 : kd' = 1 ∨ kd' = 2) (n : Nat) (hn : n ≤ 400) :
    ∀ i, i ≤ n → tks (acts9 (e : Int)) K0 (gi (mu9 x (e : Int) kd K0 n).2.1) i = tks (acts9 (e : Int)) K0 (gi (mu9 x (e : Int) kd' K0 n).2.1) i
  | 0, _ => rfl
  | i + 1, hi => by
    have ih := apart9 he sk h0 x h1 h2 n hn i (by omega)
    obtain ⟨a1, a2, _⟩ := mu9_all (x := x) (ev := (e : Int)) (kd := kd) sk h0 i (by omega)
    obtain ⟨b1, _, _⟩ := mu9_all (x := x) (ev := (e : Int)) (kd := kd') sk h0 i (by omega)
    have ap := run_ap he sk h0 x h1 h2 i (by omega)
    unfold tks
    rw [ih, tk_mu x _ h1 K0 n i (by omega), tk_mu x _ h2 K0 n i (by omega), run_mu x _ kd K0 n i (by omega), run_mu x _ kd' K0 n i (by omega), acts_ap he ap a1 b1 (by omega), ap.tick]
theorem call_tick (K : Ker) (k a s t : Int) : (call3 K k a s t).2.tick = K.tick := by
  have l : ∀ r : Int × List Int, (lists K r).2.tick = K.tick := fun r => by unfold lists; split <;> rfl
  unfold call3
  split
  · split <;> rfl
  · split
    · rfl
    · split
      · rfl
      · split
        · exact l _
        · split
          · exact l _
          · split
            · rfl
            · exact l _
theorem stp_ge (x : Nat → Int) (i : Nat) (K : Ker) : K.tick ≤ (stp x i K).2.1.tick := by
  unfold stp
  by_cases h0 : evf (x (i * 7)) (x (i * 7 + 1)) (x (i * 7 + 2)) (x (i * 7 + 3)) (x (i * 7 + 4)) (x (i * 7 + 5)) (x (i * 7 + 6)) = 0
  · by_cases k2 : x (i * 7) = 2
    · rw [st_c h0 k2, call_tick]
      exact Int.le_refl _
    · rw [st_t h0 k2]
      show K.tick ≤ K.tick + 1
      omega
  · rw [st_f h0]
    exact Int.le_refl _
theorem tks_rise (P : Ker → Bool) {K0 : Ker} (sk : SK K0) (h0 : K0.tick = 0) (x : Nat → Int) : ∀ n, n ≤ 400 → (∀ i, i < (tks P K0 x n).length → gi (tks P K0 x n) i < (run3 K0 x n).1.tick) ∧ ∀ i, i + 1 < (tks P K0 x n).length → gi (tks P K0 x n) i < gi (tks P K0 x n) (i + 1)
  | 0, _ => ⟨fun i hi => absurd hi (Nat.not_lt_zero _), fun i hi => absurd hi (Nat.not_lt_zero _)⟩
  | n + 1, hn => by
    obtain ⟨a, b⟩ := tks_rise P sk h0 x n (by omega)
    obtain ⟨s1, s2, _⟩ := run3_all (x := x) sk h0 n (by omega)
    have e1 : (run3 K0 x (n + 1)).1 = (stp x n (run3 K0 x n).1).2.1 := rfl
    have e2 : tks P K0 x (n + 1) = tks P K0 x n ++ (if tk9 x n = true ∧ P (run3 K0 x n).1 = true then [(run3 K0 x n).1.tick] else []) := rfl
    have ge := stp_ge x n (run3 K0 x n).1
    rw [e1, e2]
    by_cases hr : tk9 x n = true ∧ P (run3 K0 x n).1 = true
    · have gt := (stp_tick (x := x) (i := n) s1 (by omega)).2 hr.1
      rw [if_pos hr]
      have last : gi (tks P K0 x n ++ [(run3 K0 x n).1.tick]) ((tks P K0 x n).length + 0) = (run3 K0 x n).1.tick := gi_r9 rfl
      rw [Nat.add_zero] at last
      refine ⟨fun i hi => ?_, fun i hi => ?_⟩
      · rw [List.length_append, List.length_singleton] at hi
        by_cases hl : i < (tks P K0 x n).length
        · rw [gi_l9 hl]
          have := a i hl
          omega
        · obtain rfl : i = (tks P K0 x n).length := by omega
          rw [last]
          exact gt
      · rw [List.length_append, List.length_singleton] at hi
        by_cases hl : i + 1 < (tks P K0 x n).length
        · rw [gi_l9 (by omega), gi_l9 hl]
          exact b i hl
        · have hi1 : i + 1 = (tks P K0 x n).length := by omega
          rw [gi_l9 (by omega), hi1, last]
          exact a i (by omega)
    · rw [if_neg hr, List.append_nil]
      exact ⟨fun i hi => by have := a i hi; omega, b⟩

end Go.Proofs.YtckapndpefkcgaaGreat
