/-
  Windows: each begins with one note, nine ticks behind the one ahead of it; and what was done does not hang on what comes later. Plain mathematics; no program is named here.
-/
import Derived.Test.YtkhphkfbjbhgaaaGreatMath3r
namespace Go.Proofs.YtkhphkfbjbhgaaaGreat
open Go.RowKit

/-- the tick at which the next window must begin, behind one note more; none where a window began elsewhere -/
def nxt3 (o : Option Int) (t k : Int) : Option Int := o.bind fun nx => if k = 1 ∨ k = 2 ∨ k = 3 then (if t = nx then some (nx + 9) else none) else some nx
/-- the same behind the first n notes of a list -/
def scn3 (o : Option Int) (ns : List Int) : Nat → Option Int
  | 0 => o
  | i + 1 => nxt3 (scn3 o ns i) (gi ns (i * 3)) (gi ns (i * 3 + 2))
def scl3 (o : Option Int) (ns : List Int) : Option Int := scn3 o ns (ns.length / 3)
set_option maxHeartbeats 1000000 in
theorem gi_left3 (a b : List Int) (i : Nat) (h : i < a.length) : gi (a ++ b) i = gi a i := by
  unfold gi
  simp [List.getD_eq_getElem?_getD, List.getElem?_append_left h]
set_option maxHeartbeats 1000000 in
theorem gi_right3 (a b : List Int) (i : Nat) : gi (a ++ b) (a.length + i) = gi b i := by
  unfold gi
  simp [List.getD_eq_getElem?_getD, List.getElem?_append_right]
set_option maxHeartbeats 1000000 in
theorem scn3_left (o : Option Int) (a b : List Int) : ∀ n, n * 3 ≤ a.length → scn3 o (a ++ b) n = scn3 o a n
  | 0, _ => rfl
  | n + 1, h => by
    unfold scn3
    rw [scn3_left o a b n (by omega), gi_left3 _ _ _ (by omega), gi_left3 _ _ _ (by omega)]
set_option maxHeartbeats 1000000 in
theorem scn3_right (o : Option Int) (a b : List Int) (m : Nat) (hm : a.length = m * 3) : ∀ n, scn3 o (a ++ b) (m + n) = scn3 (scn3 o a m) b n
  | 0 => scn3_left o a b m (by omega)
  | n + 1 => by
    show nxt3 (scn3 o (a ++ b) (m + n)) (gi (a ++ b) ((m + n) * 3)) (gi (a ++ b) ((m + n) * 3 + 2)) = _
    rw [scn3_right o a b m hm n, show (m + n) * 3 = a.length + n * 3 by omega, show a.length + n * 3 + 2 = a.length + (n * 3 + 2) by omega, gi_right3, gi_right3]
    rfl
set_option maxHeartbeats 1000000 in
theorem scl3_app (o : Option Int) (a b : List Int) (ha : a.length % 3 = 0) : scl3 o (a ++ b) = scl3 (scl3 o a) b := by
  unfold scl3
  have h := scn3_right o a b (a.length / 3) (by omega) (b.length / 3)
  rw [← h, List.length_append]
  congr 1
  omega
set_option maxHeartbeats 1000000 in
theorem scl3_nil (o : Option Int) : scl3 o [] = o := by
  unfold scl3
  rw [show ([] : List Int).length / 3 = 0 by simp]
  rfl
set_option maxHeartbeats 1000000 in
theorem scl3_one (o : Option Int) (t e k : Int) : scl3 o [t, e, k] = nxt3 o t k := by
  unfold scl3
  rw [show ([t, e, k] : List Int).length / 3 = 1 by simp]
  rfl
set_option maxHeartbeats 1000000 in
theorem sc3_nil (o : Option Int) : ([] : List Int).length % 3 = 0 ∧ scl3 o [] = o := ⟨by simp, scl3_nil o⟩
set_option maxHeartbeats 1000000 in
theorem sc3_one (o : Option Int) (t e k : Int) : [t, e, k].length % 3 = 0 ∧ scl3 o [t, e, k] = nxt3 o t k := ⟨by simp, scl3_one o t e k⟩
set_option maxHeartbeats 1000000 in
theorem nxt3_other (o : Option Int) (t k : Int) (h : ¬ (k = 1 ∨ k = 2 ∨ k = 3)) : nxt3 o t k = o := by
  unfold nxt3
  rcases o with _ | nx
  · rfl
  · simp [h]
set_option maxHeartbeats 1000000 in
theorem nxt3_begin (t k : Int) (h : k = 1 ∨ k = 2 ∨ k = 3) : nxt3 (some t) t k = some (t + 9) := by
  unfold nxt3
  simp [h]
set_option maxHeartbeats 1000000 in
theorem tb_scan {K : Ker} (h : 0 ≤ K.tick) : (tickB K).2.length % 3 = 0 ∧ scl3 (some (9 * ((K.tick + 8) / 9))) (tickB K).2 = some (9 * ((K.tick + 9) / 9)) := by
  unfold tickB
  split
  · rename_i h0
    rw [show 9 * ((K.tick + 8) / 9) = K.tick by omega, show 9 * ((K.tick + 9) / 9) = K.tick + 9 by omega]
    unfold begin3
    split
    · exact ⟨(sc3_one none K.tick 0 0).1, (scl3_one _ _ _ _).trans (nxt3_begin _ _ (.inr (.inr rfl)))⟩
    · split
      · exact ⟨(sc3_one none K.tick 0 0).1, (scl3_one _ _ _ _).trans (nxt3_begin _ _ (.inr (.inl rfl)))⟩
      · exact ⟨(sc3_one none K.tick 0 0).1, (scl3_one _ _ _ _).trans (nxt3_begin _ _ (.inl rfl))⟩
  · exact ⟨(sc3_nil none).1, (scl3_nil _).trans (by congr 1; omega)⟩
set_option maxHeartbeats 1000000 in
theorem ta_scan (K : Ker) (k to : Int) (o : Option Int) : (tickA K k to).2.length % 3 = 0 ∧ scl3 o (tickA K k to).2 = o := by
  unfold tickA
  split
  · unfold act3
    split
    · exact ⟨(sc3_one none K.tick 0 0).1, (scl3_one _ _ _ _).trans (nxt3_other _ _ _ (by omega))⟩
    · split
      · exact ⟨(sc3_one none K.tick 0 0).1, (scl3_one _ _ _ _).trans (nxt3_other _ _ _ (by omega))⟩
      · exact sc3_nil _
  · exact sc3_nil _
set_option maxHeartbeats 1000000 in
theorem te_scan (K : Ker) (o : Option Int) : (tickE K).2.length % 3 = 0 ∧ scl3 o (tickE K).2 = o := by
  unfold tickE
  split
  · refine ⟨(sc3_one none K.tick 0 0).1, (scl3_one _ _ _ _).trans ?_⟩
    refine nxt3_other _ _ _ ?_
    split <;> omega
  · exact sc3_nil _
set_option maxHeartbeats 1000000 in
theorem tick_scan {K : Ker} (h : 0 ≤ K.tick) (k to : Int) : (tick3 K k to).2.length % 3 = 0 ∧ scl3 (some (9 * ((K.tick + 8) / 9))) (tick3 K k to).2 = some (9 * ((K.tick + 9) / 9)) := by
  obtain ⟨a1, a2⟩ := tb_scan h
  obtain ⟨b1, b2⟩ := ta_scan (tickB K).1 k to (some (9 * ((K.tick + 9) / 9)))
  obtain ⟨c1, c2⟩ := te_scan (tickA (tickB K).1 k to).1 (some (9 * ((K.tick + 9) / 9)))
  unfold tick3
  refine ⟨by simp only [List.length_append]; omega, ?_⟩
  rw [scl3_app _ _ _ (by simp only [List.length_append]; omega), scl3_app _ _ _ a1, a2, b2, c2]
set_option maxHeartbeats 1000000 in
theorem step_scan {K : Ker} (h : SK K) (ht : K.tick < 100000) (k a b c e s t : Int) : (step3 K k a b c e s t).2.2.length % 3 = 0 ∧ scl3 (some (9 * ((K.tick + 8) / 9))) (step3 K k a b c e s t).2.2 = some (9 * (((step3 K k a b c e s t).2.1.tick + 8) / 9)) := by
  have h0 := h.tick.1
  unfold step3
  split
  · exact sc3_nil _
  · split
    · refine ⟨(sc3_nil none).1, (scl3_nil _).trans ?_⟩
      show some _ = some (9 * (((call3 K c e s t).2.tick + 8) / 9))
      rw [call3_tk]
    · obtain ⟨a1, a2⟩ := tick_scan h0 a b
      refine ⟨a1, a2.trans ?_⟩
      show some (9 * ((K.tick + 9) / 9)) = some (9 * ((K.tick + 1 + 8) / 9))
      congr 1
      omega
set_option maxHeartbeats 1000000 in
/-- behind a run from tick 0: the next window's tick -/
theorem run_scan {K0 : Ker} {x : Nat → Int} (h : SK K0) (h0 : K0.tick = 0) : ∀ n, n ≤ 400 → (run3 K0 x n).2.2.length % 3 = 0 ∧ scl3 (some 0) (run3 K0 x n).2.2 = some (9 * (((run3 K0 x n).1.tick + 8) / 9))
  | 0, _ => ⟨(sc3_nil none).1, (scl3_nil _).trans (by show some (0 : Int) = some (9 * ((K0.tick + 8) / 9)); rw [h0]; rfl)⟩
  | i + 1, hi => by
    obtain ⟨a1, a2⟩ := run_scan (x := x) h h0 i (by omega)
    obtain ⟨s1, s2, _, _⟩ := run3_all (x := x) h h0 i (by omega)
    obtain ⟨b1, b2⟩ := step_scan s1 (by omega) (x (i * 7)) (x (i * 7 + 1)) (x (i * 7 + 2)) (x (i * 7 + 3)) (x (i * 7 + 4)) (x (i * 7 + 5)) (x (i * 7 + 6))
    have b1 : (stp x i (run3 K0 x i).1).2.2.length % 3 = 0 := b1
    have b2 : scl3 _ (stp x i (run3 K0 x i).1).2.2 = some (9 * (((stp x i (run3 K0 x i).1).2.1.tick + 8) / 9)) := b2
    refine ⟨by simp only [run3, List.length_append]; omega, ?_⟩
    show scl3 (some 0) ((run3 K0 x i).2.2 ++ (stp x i (run3 K0 x i).1).2.2) = _
    rw [scl3_app _ _ _ a1, a2, b2]
    rfl
set_option maxHeartbeats 1000000 in
/-- what was done does not hang on what comes later -/
theorem run3_cut (K0 : Ker) (x : Nat → Int) (n : Nat) : ∀ d, ∃ cs ns, (run3 K0 x (n + d)).2.1 = (run3 K0 x n).2.1 ++ cs ∧ (run3 K0 x (n + d)).2.2 = (run3 K0 x n).2.2 ++ ns
  | 0 => ⟨[], [], by simp, by simp⟩
  | d + 1 => by
    obtain ⟨cs, ns, h1, h2⟩ := run3_cut K0 x n d
    have e1 : (run3 K0 x (n + (d + 1))).2.1 = (run3 K0 x (n + d)).2.1 ++ [(stp x (n + d) (run3 K0 x (n + d)).1).1] := rfl
    have e2 : (run3 K0 x (n + (d + 1))).2.2 = (run3 K0 x (n + d)).2.2 ++ (stp x (n + d) (run3 K0 x (n + d)).1).2.2 := rfl
    refine ⟨cs ++ [(stp x (n + d) (run3 K0 x (n + d)).1).1], ns ++ (stp x (n + d) (run3 K0 x (n + d)).1).2.2, ?_, ?_⟩
    · rw [e1, h1, List.append_assoc]
    · rw [e2, h2, List.append_assoc]
set_option maxHeartbeats 1000000 in
/-- a scan that comes through has come through at every place -/
theorem scn3_some (o : Option Int) (ns : List Int) : ∀ n m, m ≤ n → (scn3 o ns n).isSome = true → (scn3 o ns m).isSome = true
  | 0, m, hm, h => by
    have : m = 0 := by omega
    subst this
    exact h
  | n + 1, m, hm, h => by
    by_cases he : m = n + 1
    · subst he; exact h
    · refine scn3_some o ns n m (by omega) ?_
      unfold scn3 at h
      rcases hs : scn3 o ns n with _ | nx
      · rw [hs] at h; exact h
      · rfl
end Go.Proofs.YtkhphkfbjbhgaaaGreat
