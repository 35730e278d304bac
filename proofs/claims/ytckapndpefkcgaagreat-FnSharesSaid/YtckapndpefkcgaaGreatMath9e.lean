/-
  An audit that is asked rightly balances. No conditions beyond that.
  Ahead of it:
  Windows and debts add up: each window of one is one that it ran in or skipped, and what it owes is how often it was punished less how often it skipped. No program's function is named here.
-/
import Derived.Test.YtckapndpefkcgaaGreatBal9
import Derived.Test.YtckapndpefkcgaaGreatMath9b
import Derived.Test.YtckapndpefkcgaaGreatCountN9
set_option maxHeartbeats 1000000
namespace Go.Proofs.YtckapndpefkcgaaGreat
open Go.RowKit
set_option maxRecDepth 100000

def cnn (ns : List Int) (ev kd : Int) : Int := (nct (gi ns) ev kd (ns.length / 3) : Int)
theorem nct_congr {x y : Nat → Int} {ev kd : Int} : ∀ n, (∀ i, i < n * 3 → x i = y i) → nct x ev kd n = nct y ev kd n
  | 0, _ => rfl
  | n + 1, h => by
    unfold nct
    rw [nct_congr n fun i hi => h i (by omega), h (n * 3 + 1) (by omega), h (n * 3 + 2) (by omega)]
theorem nct_add (x : Nat → Int) (ev kd : Int) (n : Nat) : ∀ m, nct x ev kd (n + m) = nct x ev kd n + nct (fun i => x (n * 3 + i)) ev kd m
  | 0 => rfl
  | m + 1 => by
    have e1 : nct x ev kd (n + (m + 1)) = nct x ev kd (n + m) + (if x ((n + m) * 3 + 1) = ev ∧ x ((n + m) * 3 + 2) = kd then 1 else 0) := rfl
    have e2 : nct (fun i => x (n * 3 + i)) ev kd (m + 1) = nct (fun i => x (n * 3 + i)) ev kd m + (if x (n * 3 + (m * 3 + 1)) = ev ∧ x (n * 3 + (m * 3 + 2)) = kd then 1 else 0) := rfl
    rw [e1, e2, nct_add x ev kd n m, show (n + m) * 3 + 1 = n * 3 + (m * 3 + 1) by omega, show (n + m) * 3 + 2 = n * 3 + (m * 3 + 2) by omega]
    omega
theorem gi_app_l {a b : List Int} {i : Nat} (h : i < a.length) : gi (a ++ b) i = gi a i := by
  unfold gi
  simp [List.getD_eq_getElem?_getD, List.getElem?_append_left h]
theorem gi_app_r {a b : List Int} {i : Nat} : gi (a ++ b) (a.length + i) = gi b i := by
  unfold gi
  simp [List.getD_eq_getElem?_getD, List.getElem?_append_right (show a.length ≤ a.length + i by omega)]
theorem cnn_app {a b : List Int} (ha : a.length % 3 = 0) (hb : b.length % 3 = 0) (ev kd : Int) : cnn (a ++ b) ev kd = cnn a ev kd + cnn b ev kd := by
  unfold cnn
  rw [List.length_append, show (a.length + b.length) / 3 = a.length / 3 + b.length / 3 by omega, nct_add]
  rw [nct_congr (y := gi a) (a.length / 3) fun i hi => gi_app_l (by omega)]
  rw [nct_congr (y := gi b) (b.length / 3) fun i hi => by
    show gi (a ++ b) (a.length / 3 * 3 + i) = gi b i
    rw [show a.length / 3 * 3 = a.length by omega]
    exact gi_app_r]
  omega
theorem cnn_nil (ev kd : Int) : cnn [] ev kd = 0 := rfl
theorem cnn_one (t e k ev kd : Int) : cnn [t, e, k] ev kd = if e = ev ∧ k = kd then 1 else 0 := by
  unfold cnn
  rw [show ([t, e, k] : List Int).length / 3 = 1 by simp]
  show ((0 + (if gi [t, e, k] (0 * 3 + 1) = ev ∧ gi [t, e, k] (0 * 3 + 2) = kd then 1 else 0) : Nat) : Int) = _
  have g1 : gi [t, e, k] (0 * 3 + 1) = e := rfl
  have g2 : gi [t, e, k] (0 * 3 + 2) = k := rfl
  rw [g1, g2]
  split <;> rfl

def dbt (K : Ker) (e : Nat) : Int := gi K.ac (e * 4 + 3)
theorem dbt_put {K : Ker} {o : Nat} {r : R2} (l3 : K.ac.length = 16) (ho : o < 4) (e : Nat) : dbt (put3 K o r) e = if r.1 = 0 ∧ e = o then r.2.2.2.2.1 else dbt K e := by
  unfold put3
  by_cases h : r.1 = 0
  · rw [if_pos h]
    unfold dbt
    show gi (setAcc K.ac o _ _ _ _) (e * 4 + 3) = _
    rw [setAcc_gi _ _ _ _ _ _ _ (by omega)]
    by_cases he : e = o
    · subst he
      rw [if_neg (by omega), if_neg (by omega), if_neg (by omega), if_pos rfl, if_pos ⟨h, rfl⟩]
    · rw [if_neg (by omega), if_neg (by omega), if_neg (by omega), if_neg (by omega), if_neg (fun hh => he hh.2)]
  · rw [if_neg h, if_neg (fun hh => h hh.1)]
structure Bl (K K' : Ker) (ns : List Int) (e : Nat) (wn : Int) : Prop where
  len : ns.length % 3 = 0
  win : cnn ns (e : Int) 1 + cnn ns (e : Int) 2 = wn
  deb : dbt K' e = dbt K e + cnn ns (e : Int) 6 - cnn ns (e : Int) 2
theorem Bl.app {K K' K'' : Ker} {a b : List Int} {e : Nat} {x y : Int} (h : Bl K K' a e x) (h' : Bl K' K'' b e y) : Bl K K'' (a ++ b) e (x + y) := by
  refine ⟨by rw [List.length_append]; have := h.len; have := h'.len; omega, ?_, ?_⟩
  · rw [cnn_app h.len h'.len, cnn_app h.len h'.len]
    have := h.win; have := h'.win
    omega
  · rw [cnn_app h.len h'.len, cnn_app h.len h'.len]
    have := h.deb; have := h'.deb
    omega
theorem Bl.none {K K' : Ker} {e : Nat} (h : dbt K' e = dbt K e) : Bl K K' [] e 0 := ⟨(by simp), rfl, by rw [cnn_nil, cnn_nil]; omega⟩
theorem acc_of {K : Ker} (h : TK K) {o : Nat} (ho : o < 4) : af (gi K.ac (o * 4)) (gi K.ac (o * 4 + 1)) (gi K.ac (o * 4 + 2)) (gi K.ac (o * 4 + 3)) = 0 := h.ac o ho
theorem begin_bl {K : Ker} (h : TK K) {e : Nat} (he : e < 4) : Bl K (begin3 K).1 (begin3 K).2 e (if own3 K = (e : Int) then 1 else 0) := by
  have sl := Int.emod_lt_of_pos (K.tick / 9) (show (0 : Int) < (K.os.length : Int) by have := h.l1; omega)
  have sl2 := Int.emod_nonneg (K.tick / 9) (show (K.os.length : Int) ≠ 0 by have := h.l1; omega)
  have hown : own3 K = -1 ∨ (0 ≤ own3 K ∧ own3 K < 4) := h.os _ (by omega)
  unfold begin3
  by_cases h1 : own3 K = -1
  · rw [if_pos h1, if_neg (by omega)]
    refine ⟨(by simp), ?_, ?_⟩
    · rw [cnn_one, cnn_one]
      rw [if_neg (by omega), if_neg (by omega)]; rfl
    · rw [cnn_one, cnn_one]
      rw [if_neg (by omega), if_neg (by omega)]
      show dbt K e = dbt K e + 0 - 0
      omega
  · rw [if_neg h1]
    obtain ⟨o, ho⟩ : ∃ o : Nat, own3 K = (o : Int) := ⟨(own3 K).toNat, by omega⟩
    have ho4 : o < 4 := by omega
    have haf := acc_of h ho4
    obtain ⟨_, _, _, hd⟩ := af_zero haf
    rw [ho, Int.toNat_natCast]
    by_cases h2 : 0 < gi K.ac (o * 4 + 3)
    · rw [if_pos h2]
      have hs : acf K o skip2 = (0, gi K.ac (o * 4), gi K.ac (o * 4 + 1), gi K.ac (o * 4 + 2), gi K.ac (o * 4 + 3) - 1, false) := by
        unfold acf skip2
        rw [if_neg (by simp [haf]), if_neg (by omega)]
      refine ⟨(by simp), ?_, ?_⟩
      · rw [cnn_one, cnn_one]
        by_cases heo : (o : Int) = (e : Int)
        · rw [if_neg (by omega), if_pos ⟨heo, rfl⟩, if_pos heo]; rfl
        · rw [if_neg (by omega), if_neg (fun hh => heo hh.1), if_neg heo]; rfl
      · rw [dbt_put h.l3 ho4, hs]
        rw [cnn_one, cnn_one]
        by_cases heo : e = o
        · subst heo
          rw [if_pos ⟨rfl, rfl⟩, if_neg (by omega), if_pos ⟨rfl, rfl⟩]
          show gi K.ac (e * 4 + 3) - 1 = gi K.ac (e * 4 + 3) + 0 - 1
          omega
        · rw [if_neg (fun hh => heo hh.2), if_neg (by omega), if_neg (fun hh => heo (by omega))]; omega
    · rw [if_neg h2]
      refine ⟨(by simp), ?_, ?_⟩
      · rw [cnn_one, cnn_one]
        by_cases heo : (o : Int) = (e : Int)
        · rw [if_pos ⟨heo, rfl⟩, if_neg (by omega), if_pos heo]; rfl
        · rw [if_neg (fun hh => heo hh.1), if_neg (by omega), if_neg heo]; rfl
      · rw [cnn_one, cnn_one]
        rw [if_neg (by omega), if_neg (by omega)]
        show dbt K e = dbt K e + 0 - 0
        omega
theorem act_bl {K : Ker} (h : TK K) (hr : K.run ≠ -1) (k to : Int) (ht : 0 ≤ to ∧ to < 4) (e : Nat) : Bl K (act3 K k to).1 (act3 K k to).2 e 0 := by
  have hr4 : K.run.toNat < 4 := by have := h.run; omega
  unfold act3
  by_cases h1 : k = 2
  · rw [if_pos h1]
    refine ⟨(by simp), ?_, ?_⟩
    · rw [cnn_one, cnn_one]
      rw [if_neg (by omega), if_neg (by omega)]; rfl
    · rw [cnn_one, cnn_one]
      rw [if_neg (by omega), if_neg (by omega)]
      show dbt K e = dbt K e + 0 - 0
      omega
  · rw [if_neg h1]
    by_cases h2 : k = 3 ∧ ¬ (6 ≤ K.tick % 9) ∧ gb K.al to.toNat = true ∧ to ≠ K.run
    · rw [if_pos h2]
      have ht4 : to.toNat < 4 := by omega
      refine ⟨(by simp), ?_, ?_⟩
      · rw [cnn_one, cnn_one]
        rw [if_neg (by omega), if_neg (by omega)]; rfl
      · rw [cnn_one, cnn_one]
        rw [if_neg (by omega), if_neg (by omega), dbt_put (K := { K with run := to }) h.l3 ht4]
        have haf := acc_of h ht4
        by_cases hg : (acf K to.toNat give2).1 = 0 ∧ e = to.toNat
        · rw [if_pos hg]
          have : (acf K to.toNat give2).2.2.2.2.1 = gi K.ac (to.toNat * 4 + 3) := by
            have hh := hg.1
            unfold acf give2 at hh ⊢
            rw [if_neg (by simp [haf])] at hh ⊢
            split at hh
            · exact absurd hh (by decide)
            · rename_i hn
              rw [if_neg hn]
          rw [this, hg.2]
          unfold dbt
          omega
        · rw [if_neg hg]
          show dbt K e = dbt K e + 0 - 0
          omega
    · rw [if_neg h2]
      refine Bl.none ?_
      rw [dbt_put h.l3 hr4]
      have haf := acc_of h hr4
      generalize decide (6 ≤ K.tick % 9) = lt
      by_cases hg : (acf K K.run.toNat (fun u x g d => use2 u x g d lt)).1 = 0 ∧ e = K.run.toNat
      · rw [if_pos hg]
        have : (acf K K.run.toNat (fun u x g d => use2 u x g d lt)).2.2.2.2.1 = gi K.ac (K.run.toNat * 4 + 3) := by
          have hh := hg.1
          dsimp only [acf, use2] at hh ⊢
          rw [if_neg (by simp [haf])] at hh ⊢
          rcases lt with _ | _
          · rw [if_neg (by simp)] at hh ⊢
            split at hh
            · exact absurd hh (by decide)
            · rename_i hn
              rw [if_neg hn]
          · rw [if_pos rfl] at hh ⊢
            split at hh
            · exact absurd hh (by decide)
            · rename_i hn
              rw [if_neg hn]
        rw [this, hg.2]
        rfl
      · rw [if_neg hg]
theorem end_bl {K : Ker} (h : TK K) (hr : K.run ≠ -1) (e : Nat) : Bl K (end3 K).1 (end3 K).2 e 0 := by
  have hr4 : K.run.toNat < 4 := by have := h.run; omega
  have hrn : K.run = (K.run.toNat : Int) := by have := h.run; omega
  have haf := acc_of h hr4
  unfold end3
  have hp : acf K K.run.toNat pun2 = if 3 ≤ gi K.ac (K.run.toNat * 4 + 3) then (0, gi K.ac (K.run.toNat * 4), gi K.ac (K.run.toNat * 4 + 1), gi K.ac (K.run.toNat * 4 + 2), gi K.ac (K.run.toNat * 4 + 3), true) else (0, gi K.ac (K.run.toNat * 4), gi K.ac (K.run.toNat * 4 + 1), gi K.ac (K.run.toNat * 4 + 2), gi K.ac (K.run.toNat * 4 + 3) + 1, false) := by
    unfold acf pun2
    rw [if_neg (by simp [haf])]
  rw [hp]
  have hdb : ∀ r : R2, dbt { put3 K K.run.toNat r with run := -1 } e = dbt (put3 K K.run.toNat r) e := fun _ => rfl
  by_cases h3 : 3 ≤ gi K.ac (K.run.toNat * 4 + 3)
  · rw [if_pos h3]
    change Bl K _ [K.tick, K.run, 7] e 0
    refine ⟨(by simp), ?_, ?_⟩
    · rw [cnn_one, cnn_one]
      rw [if_neg (by omega), if_neg (by omega)]; rfl
    · rw [hdb, dbt_put h.l3 hr4]
      rw [cnn_one, cnn_one]
      rw [if_neg (show ¬ (K.run = (e : Int) ∧ (7 : Int) = 6) by omega), if_neg (show ¬ (K.run = (e : Int) ∧ (7 : Int) = 2) by omega)]
      by_cases he : e = K.run.toNat
      · rw [if_pos ⟨rfl, he⟩]
        show gi K.ac (K.run.toNat * 4 + 3) = dbt K e + 0 - 0
        rw [he]
        unfold dbt
        omega
      · rw [if_neg (fun hh => he hh.2)]; omega
  · rw [if_neg h3]
    change Bl K _ [K.tick, K.run, 6] e 0
    refine ⟨(by simp), ?_, ?_⟩
    · rw [cnn_one, cnn_one]
      rw [if_neg (by simp), if_neg (by simp)]; rfl
    · rw [hdb, dbt_put h.l3 hr4]
      rw [cnn_one, cnn_one]
      by_cases he : e = K.run.toNat
      · rw [if_pos ⟨rfl, he⟩, if_pos ⟨by omega, by simp⟩, if_neg (by simp)]
        show gi K.ac (K.run.toNat * 4 + 3) + 1 = dbt K e + 1 - 0
        rw [he]
        unfold dbt
        omega
      · rw [if_neg (fun hh => he hh.2), if_neg (fun hh => he (by omega)), if_neg (by simp)]; omega

theorem tick_bl {K : Ker} (h : SK K) (ht : K.tick < 100000) (k to : Int) (hto : 0 ≤ to ∧ to < 4) {e : Nat} (he : e < 4) : Bl K (tick3 K k to).1 (tick3 K k to).2 e (if K.tick % 9 = 0 ∧ own3 K = (e : Int) then 1 else 0) := by
  have t := h.tk ht
  have q : QK K := ⟨h.v, h.own, h.rl.imp id And.left, h.dead⟩
  obtain ⟨q1, t1, e1, l1⟩ := tb_all q t
  obtain ⟨q2, t2, e2, l2⟩ := ta_all q1 t1 k to hto
  have b1 : Bl K (tickB K).1 (tickB K).2 e (if K.tick % 9 = 0 ∧ own3 K = (e : Int) then 1 else 0) := by
    unfold tickB
    by_cases h9 : K.tick % 9 = 0
    · rw [if_pos h9]
      have := begin_bl t he
      by_cases ho : own3 K = (e : Int)
      · rw [if_pos ⟨h9, ho⟩]; rw [if_pos ho] at this; exact this
      · rw [if_neg (fun hh => ho hh.2)]; rw [if_neg ho] at this; exact this
    · rw [if_neg h9, if_neg (fun hh => h9 hh.1)]
      exact Bl.none rfl
  have b2 : Bl (tickB K).1 (tickA (tickB K).1 k to).1 (tickA (tickB K).1 k to).2 e 0 := by
    unfold tickA
    split
    · rename_i hr
      exact act_bl t1 hr k to hto e
    · exact Bl.none rfl
  have b3 : Bl (tickA (tickB K).1 k to).1 (tickE (tickA (tickB K).1 k to).1).1 (tickE (tickA (tickB K).1 k to).1).2 e 0 := by
    unfold tickE
    split
    · rename_i hr
      exact end_bl t2 hr.2 e
    · exact Bl.none rfl
  have b := (b1.app b2).app b3
  exact ⟨b.len, by have := b.win; simp only [Int.add_zero] at this; exact this, b.deb⟩
theorem lists_ac (K : Ker) (r : Int × List Int) : (lists K r).2.ac = K.ac := by unfold lists; split <;> rfl
theorem call_deb {K : Ker} (h : SK K) {k a s t : Int} (ha : 0 ≤ a ∧ a < 4) {e : Nat} (he : e < 4) (hd : ¬ ((call3 K k a s t).1 = 0 ∧ k = 2 ∧ a = (e : Int))) : dbt (call3 K k a s t).2 e = dbt K e := by
  unfold call3 at hd ⊢
  by_cases k1 : k = 1
  · rw [if_pos k1]; split <;> rfl
  rw [if_neg k1] at hd ⊢
  by_cases hg : gb K.al a.toNat = false
  · rw [if_pos hg]
  rw [if_neg hg] at hd ⊢
  by_cases k2 : k = 2
  · rw [if_pos k2] at hd ⊢
    unfold dbt
    show gi (zac K.ac a.toNat) (e * 4 + 3) = _
    rw [gi_zac (by have := h.l3; omega), if_neg]
    intro hh
    exact hd ⟨rfl, k2, by omega⟩
  rw [if_neg k2]
  by_cases k3 : k = 3
  · rw [if_pos k3]; unfold dbt; rw [lists_ac]
  rw [if_neg k3]
  by_cases k4 : k = 4
  · rw [if_pos k4]; unfold dbt; rw [lists_ac]
  rw [if_neg k4]
  split
  · rfl
  · unfold dbt; rw [lists_ac]
theorem step_win {x : Nat → Int} {i : Nat} {K : Ker} (h : SK K) (ht : K.tick < 100000) {e : Nat} (he : e < 4) :
    (stp x i K).2.2.length % 3 = 0 ∧ cnn (stp x i K).2.2 (e : Int) 1 + cnn (stp x i K).2.2 (e : Int) 2 = (if tk9 x i = true ∧ opens9 (e : Int) K = true then 1 else 0) := by
  unfold stp step3
  by_cases h0 : evf (x (i * 7)) (x (i * 7 + 1)) (x (i * 7 + 2)) (x (i * 7 + 3)) (x (i * 7 + 4)) (x (i * 7 + 5)) (x (i * 7 + 6)) = 0
  · rw [if_neg (by simp [h0])]
    rcases evf_z h0 with ⟨k1, hb, _⟩ | ⟨k2, hc⟩
    · rw [if_neg (by omega)]
      have b := tick_bl h ht (x (i * 7 + 1)) (x (i * 7 + 2)) hb he
      refine ⟨b.len, b.win.trans ?_⟩
      have e1 : tk9 x i = true := decide_eq_true ⟨h0, k1⟩
      by_cases ho : K.tick % 9 = 0 ∧ own3 K = (e : Int)
      · rw [if_pos ho, if_pos ⟨e1, decide_eq_true ho⟩]
      · rw [if_neg ho, if_neg (fun hh => ho (of_decide_eq_true hh.2))]
    · rw [if_pos k2]
      refine ⟨by simp, ?_⟩
      rw [if_neg (fun hh => by have := (of_decide_eq_true hh.1).2; omega)]
      show cnn [] (e : Int) 1 + cnn [] (e : Int) 2 = 0
      rw [cnn_nil, cnn_nil]; rfl
  · rw [if_pos h0]
    refine ⟨by simp, ?_⟩
    rw [if_neg (fun hh => h0 (of_decide_eq_true hh.1).1)]
    show cnn [] (e : Int) 1 + cnn [] (e : Int) 2 = 0
    rw [cnn_nil, cnn_nil]; rfl
theorem step_deb {x : Nat → Int} {i : Nat} {K : Ker} (h : SK K) (ht : K.tick < 100000) {e : Nat} (he : e < 4) (hd : ¬ ((stp x i K).1 = 0 ∧ x (i * 7 + 3) = 2 ∧ x (i * 7 + 4) = (e : Int))) :
    dbt (stp x i K).2.1 e = dbt K e + cnn (stp x i K).2.2 (e : Int) 6 - cnn (stp x i K).2.2 (e : Int) 2 := by
  unfold stp step3 at hd ⊢
  by_cases h0 : evf (x (i * 7)) (x (i * 7 + 1)) (x (i * 7 + 2)) (x (i * 7 + 3)) (x (i * 7 + 4)) (x (i * 7 + 5)) (x (i * 7 + 6)) = 0
  · rw [if_neg (by simp [h0])] at hd ⊢
    rcases evf_z h0 with ⟨k1, hb, _⟩ | ⟨k2, hc⟩
    · rw [if_neg (by omega)]
      exact (tick_bl h ht (x (i * 7 + 1)) (x (i * 7 + 2)) hb he).deb
    · rw [if_pos k2] at hd ⊢
      have c := cf_z hc
      show dbt (call3 K (x (i * 7 + 3)) (x (i * 7 + 4)) (x (i * 7 + 5)) (x (i * 7 + 6))).2 e = _
      rw [call_deb h c.2.1 he hd]
      show dbt K e = dbt K e + cnn [] (e : Int) 6 - cnn [] (e : Int) 2
      rw [cnn_nil, cnn_nil]; omega
  · rw [if_pos h0]
    show dbt K e = dbt K e + cnn [] (e : Int) 6 - cnn [] (e : Int) 2
    rw [cnn_nil, cnn_nil]; omega
theorem run_win {K0 : Ker} {x : Nat → Int} (h : SK K0) (h0 : K0.tick = 0) {e : Nat} (he : e < 4) : ∀ n, n ≤ 400 → (run3 K0 x n).2.2.length % 3 = 0 ∧ cnn (run3 K0 x n).2.2 (e : Int) 1 + cnn (run3 K0 x n).2.2 (e : Int) 2 = ((tks (opens9 (e : Int)) K0 x n).length : Int)
  | 0, _ => ⟨by simp [run3], by show cnn [] (e : Int) 1 + cnn [] (e : Int) 2 = 0; rw [cnn_nil, cnn_nil]; rfl⟩
  | n + 1, hn => by
    obtain ⟨i1, i2⟩ := run_win (x := x) h h0 he n (by omega)
    obtain ⟨s1, s2, _, _⟩ := run3_all (x := x) h h0 n (by omega)
    obtain ⟨a1, a2⟩ := step_win (x := x) (i := n) s1 (by omega) he
    have e1 : (run3 K0 x (n + 1)).2.2 = (run3 K0 x n).2.2 ++ (stp x n (run3 K0 x n).1).2.2 := rfl
    have e2 : tks (opens9 (e : Int)) K0 x (n + 1) = tks (opens9 (e : Int)) K0 x n ++ (if tk9 x n = true ∧ opens9 (e : Int) (run3 K0 x n).1 = true then [(run3 K0 x n).1.tick] else []) := rfl
    rw [e1, e2, cnn_app i1 a1, cnn_app i1 a1, List.length_append, List.length_append]
    refine ⟨by omega, ?_⟩
    by_cases hc : tk9 x n = true ∧ opens9 (e : Int) (run3 K0 x n).1 = true
    · rw [if_pos hc] at a2 ⊢
      simp only [List.length_cons, List.length_nil]
      omega
    · rw [if_neg hc] at a2 ⊢
      simp only [List.length_nil]
      omega
theorem run_deb {K0 : Ker} {x : Nat → Int} (h : SK K0) (h0 : K0.tick = 0) {e : Nat} (he : e < 4) : ∀ n, n ≤ 400 → (∀ i, i < n → ¬ ((stp x i (run3 K0 x i).1).1 = 0 ∧ x (i * 7 + 3) = 2 ∧ x (i * 7 + 4) = (e : Int))) → dbt (run3 K0 x n).1 e = dbt K0 e + cnn (run3 K0 x n).2.2 (e : Int) 6 - cnn (run3 K0 x n).2.2 (e : Int) 2
  | 0, _, _ => by show dbt K0 e = dbt K0 e + cnn [] (e : Int) 6 - cnn [] (e : Int) 2; rw [cnn_nil, cnn_nil]; omega
  | n + 1, hn, hd => by
    have i1 := run_deb (x := x) h h0 he n (by omega) fun i hi => hd i (by omega)
    have w1 := (run_win (x := x) h h0 he n (by omega)).1
    obtain ⟨s1, s2, _, _⟩ := run3_all (x := x) h h0 n (by omega)
    have a1 := (step_win (x := x) (i := n) s1 (by omega) he).1
    have d1 := step_deb (x := x) (i := n) s1 (by omega) he (hd n (by omega))
    have e1 : (run3 K0 x (n + 1)).2.2 = (run3 K0 x n).2.2 ++ (stp x n (run3 K0 x n).1).2.2 := rfl
    rw [e1, cnn_app w1 a1, cnn_app w1 a1]
    show dbt (stp x n (run3 K0 x n).1).2.1 e = _
    omega



theorem dbt_new (mm : Int) (e : Nat) (he : e < 4) : dbt (new3 mm) e = 0 := by
  unfold dbt
  exact gi_rep 16 _ 0 (by omega)
theorem nct_cnn (ns : List Int) (ev kd : Int) : ((nct (gi ns) ev kd (ns.length / 3) : Nat) : Int) = cnn ns ev kd := rfl
theorem bal9_true {mm : Int} {x : Nat → Int} {n : Nat} {ev : Int} (h : ask9 mm n ev = 0) : bal9 mm x n ev = true := by
  obtain ⟨ha, hev⟩ := ask9_zero h
  obtain ⟨_, hm0, hn4⟩ := rk3_good (x := x) ha
  obtain ⟨sk0, _, _, _⟩ := sk_new hm0
  obtain ⟨e, rfl, he⟩ : ∃ e : Nat, ev = (e : Int) ∧ e < 4 := by
    have : 0 ≤ ev ∧ ev < 4 := of_decide_eq_true hev
    exact ⟨ev.toNat, by omega, by omega⟩
  obtain ⟨_, w2⟩ := run_win (x := x) sk0 rfl he n hn4
  unfold bal9
  rw [if_neg (fun hh => hh h)]
  unfold balr
  rw [nct_cnn, nct_cnn, nct_cnn, if_neg (fun hh => hh w2.symm)]
  by_cases hd : ad9 x (run3 (new3 mm) x n).2.1 (e : Int) n = true
  · rw [if_pos hd]
  · rw [if_neg hd]
    refine decide_eq_true ?_
    have no : ∀ i, i < n → ¬ ((stp x i (run3 (new3 mm) x i).1).1 = 0 ∧ x (i * 7 + 3) = 2 ∧ x (i * 7 + 4) = (e : Int)) := fun i hi hh => by
      refine hd ((ad9_true n).2 ⟨i, hi, ?_, hh.2.1, hh.2.2⟩)
      rw [run3_code (new3 mm) x n i hi hn4 sk0 rfl]
      exact hh.1
    have db := run_deb (x := x) sk0 rfl he n hn4 no
    rw [dbt_new mm e he] at db
    rw [Int.toNat_natCast]
    show dbt (run3 (new3 mm) x n).1 e = _
    omega

end Go.Proofs.YtckapndpefkcgaaGreat
