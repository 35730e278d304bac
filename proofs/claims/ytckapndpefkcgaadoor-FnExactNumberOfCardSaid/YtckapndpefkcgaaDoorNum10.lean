/-
  A word's number, on both sides; NumberOf. No conditions beyond that the word is not longer than a string can be, and that errors.errorType lies as the library lays it.
-/
import Derived.Test.YtckapndpefkcgaaDoorAs10
set_option maxHeartbeats 1000000
namespace Go.Proofs.YtckapndpefkcgaaDoor
open Go.RowKit
set_option maxRecDepth 100000

def bt (s : ByteArray) (k : Nat) : Int := if h : k < s.size then ((s[k]'h).toNat : Int) else 0
theorem bt_in (s : ByteArray) (k : Nat) : 0 ≤ bt s k ∧ bt s k ≤ 255 := by
  unfold bt
  by_cases h : k < s.size
  · rw [dif_pos h]
    have := (s[k]'h).toNat_lt
    omega
  · rw [dif_neg h]; omega
theorem bt_eq (s : ByteArray) (k : Nat) (h : k < s.size) : ((s[k]'h).toNat : Int) = bt s k := by
  unfold bt
  rw [dif_pos h]
theorem u8_sub {c : Int} (h : 48 ≤ c ∧ c ≤ 57) : IntKind.u8.wrap (c - 48) = c - 48 := by
  first
    | (show (c - 48) % 256 = c - 48; omega)
    | (simp [IntKind.wrap]; omega)
    | (unfold IntKind.wrap; simp; omega)
def okd (c : Int) : Bool := decide (48 ≤ c ∧ c ≤ 57)
def allD (f : Nat → Int) : Nat → Bool
  | 0 => true
  | k + 1 => allD f k && okd (f k)
def nval (f : Nat → Int) : Nat → Int
  | 0 => 0
  | k + 1 => nval f k * 10 + (f k - 48)
def num10 (f : Nat → Int) (n : Nat) : Int := if n < 1 ∨ 6 < n ∨ (f 0 = 48 ∧ 1 < n) then -1 else if allD f n = true then nval f n else -1
theorem okd_iff {c : Int} : okd c = true ↔ 48 ≤ c ∧ c ≤ 57 := by unfold okd; simp
theorem allD_step {f : Nat → Int} {k : Nat} (h : allD f k = true) (h2 : okd (f k) = true) : allD f (k + 1) = true := by
  show (allD f k && okd (f k)) = true
  rw [h, h2]; rfl
theorem allD_stop {f : Nat → Int} {k : Nat} (h2 : okd (f k) = false) : ∀ n, k < n → allD f n = false
  | 0, h => by omega
  | n + 1, h => by
    show (allD f n && okd (f n)) = false
    by_cases e : k = n
    · rw [← e, h2, Bool.and_false]
    · rw [allD_stop h2 n (by omega)]; rfl
def p10 : Nat → Int
  | 0 => 1
  | k + 1 => p10 k * 10
theorem nval_in {f : Nat → Int} : ∀ k, allD f k = true → 0 ≤ nval f k ∧ nval f k < p10 k
  | 0, _ => ⟨Int.le_refl _, by show (0 : Int) < 1; omega⟩
  | k + 1, h => by
    have h' : (allD f k && okd (f k)) = true := h
    rw [Bool.and_eq_true] at h'
    obtain ⟨a, b⟩ := nval_in k h'.1
    have c := okd_iff.1 h'.2
    show 0 ≤ nval f k * 10 + (f k - 48) ∧ nval f k * 10 + (f k - 48) < p10 k * 10
    omega
theorem p10_le : ∀ k, k ≤ 6 → p10 k ≤ 1000000 := by
  intro k hk
  rcases (show k = 0 ∨ k = 1 ∨ k = 2 ∨ k = 3 ∨ k = 4 ∨ k = 5 ∨ k = 6 by omega) with rfl | rfl | rfl | rfl | rfl | rfl | rfl <;> decide
theorem nval_le {f : Nat → Int} {k : Nat} (hk : k ≤ 6) (h : allD f k = true) : 0 ≤ nval f k ∧ nval f k ≤ 999999 := by
  have := nval_in k h
  have := p10_le k hk
  omega
theorem num10_no {f : Nat → Int} {n : Nat} (h : n < 1 ∨ 6 < n ∨ (f 0 = 48 ∧ 1 < n)) : num10 f n = -1 := if_pos h
theorem num10_bad {f : Nat → Int} {n k : Nat} (hk : k < n) (h : okd (f k) = false) : num10 f n = -1 := by
  unfold num10
  by_cases e : n < 1 ∨ 6 < n ∨ (f 0 = 48 ∧ 1 < n)
  · rw [if_pos e]
  · rw [if_neg e, if_neg (by rw [allD_stop h n hk]; decide)]
theorem num10_ok {f : Nat → Int} {n : Nat} (h : ¬ (n < 1 ∨ 6 < n ∨ (f 0 = 48 ∧ 1 < n))) (h2 : allD f n = true) : num10 f n = nval f n := by
  unfold num10
  rw [if_neg h, if_pos h2]
set_option maxHeartbeats 8000000 in
theorem specNum_any (s : ByteArray) (w : World) (hs : s.size ≤ 9223372036854775807) :
    Calls Tryd.prog 18 #[.string s] w fun e w' => e = .returned (.int .i64 (num10 (bt s) s.size)) ∧ Below w.heap.size w w' := by
  obtain ⟨f, hf⟩ : ∃ f, f = bt s := ⟨_, rfl⟩
  have BI : Hid (∀ k, 0 ≤ f k ∧ f k ≤ 255) := fun k => by rw [hf]; exact bt_in s k
  have EQ : Hid (∀ k (h : k < s.size), ((s[k]'h).toNat : Int) = f k) := fun k h => by rw [hf]; exact bt_eq s k h
  rw [← hf]
  clear hf
  by_cases h1 : s.size < 1
  · have E := Lib.hid (num10_no (f := f) (n := s.size) (.inl h1))
    have h1I : (s.size : Int) < 1 := by omega
    go_enter Tryd.func18, Tryd.ntmps18
    go_wp2
    go_ret
    exact ⟨ret_i64 E.out.symm, Below.refl _ _⟩
  by_cases h6 : 6 < s.size
  · have E := Lib.hid (num10_no (f := f) (n := s.size) (.inr (.inl h6)))
    have h1I : ¬ (s.size : Int) < 1 := by omega
    have h6I : (6 : Int) < (s.size : Int) := by omega
    go_enter Tryd.func18, Tryd.ntmps18
    go_wp2
    go_ret
    exact ⟨ret_i64 E.out.symm, Below.refl _ _⟩
  have h1I : ¬ (s.size : Int) < 1 := by omega
  have h6I : ¬ (6 : Int) < (s.size : Int) := by omega
  have hk0 : 0 < s.size := by omega
  have e0 := EQ.out 0 hk0
  have H61 : Hid (s.size ≤ 6) := by show _ ≤ _; omega
  have cut : ∀ (NO : Hid (¬ (s.size < 1 ∨ 6 < s.size ∨ (f 0 = 48 ∧ 1 < s.size)))), True := fun _ => trivial
  clear cut
  rcases (show (f 0 = 48 ∧ 1 < s.size) ∨ (f 0 = 48 ∧ ¬ 1 < s.size) ∨ ¬ f 0 = 48 by omega) with h0 | h0 | h0
  · have E := Lib.hid (num10_no (f := f) (n := s.size) (.inr (.inr h0)))
    have h0a : (f 0 == 48) = true := by simp [h0.1]
    have h0d := h0.1
    have h0b : (1 : Int) < (s.size : Int) := by omega
    clear h0
    go_enter Tryd.func18, Tryd.ntmps18
    go_wp2
    go_ret
    exact ⟨ret_i64 E.out.symm, Below.refl _ _⟩
  all_goals
    have NO := Lib.hid (show ¬ (s.size < 1 ∨ 6 < s.size ∨ (f 0 = 48 ∧ 1 < s.size)) by omega)
    have h0b : (f 0 == 48) = true ∧ ¬ (1 : Int) < (s.size : Int) ∨ (f 0 == 48) = false := by
      rcases Classical.em (f 0 = 48) with e | e
      · exact .inl ⟨by simp [e], by omega⟩
      · exact .inr (by simp [e])
    have h0c : f 0 = 48 → ¬ (1 : Int) < (s.size : Int) := fun e => by omega
    clear h0c
    rcases h0b with ⟨h0a, h0b⟩ | h0a
    all_goals
      go_enter Tryd.func18, Tryd.ntmps18
      go_upto_region 3 with (fail)
      clear h0 h0a e0
      (try clear h0b)
      go_wp2_with fail
      go_loop [3, 4] (fun v i => ∃ k : Nat, k ≤ s.size ∧ i = .int .i64 (k : Int) ∧ v = .int .i64 (nval f k) ∧ allD f k = true) (fun _ i => s.size - (intOf i).toNat)
      case atStart => exact ⟨0, Nat.zero_le _, rfl, rfl, rfl⟩
      case round =>
        obtain ⟨k, hk, rfl, rfl, hd⟩ := hrel
        have HD := Lib.hid hd
        have h66 := H61.out
        have nv := nval_le (f := f) (k := k) (by omega) hd
        clear hd
        by_cases hlt : k < s.size
        · have ek := EQ.out k hlt
          have hltI : (k : Int) < (s.size : Int) := by omega
          have hk0I : (0 : Int) ≤ (k : Int) := by omega
          have bi := BI.out k
          have NX := Lib.hid (show nval f (k + 1) = nval f k * 10 + (f k - 48) from rfl)
          rcases (show f k < 48 ∨ 57 < f k ∨ (48 ≤ f k ∧ f k ≤ 57) by omega) with hc | hc | hc
          · have E := Lib.hid (num10_bad (f := f) hlt (by unfold okd; exact decide_eq_false (by omega)))
            have c1 : decide (f k < 48) = true := decide_eq_true hc
            go_wp2
            go_ret
            exact ⟨ret_i64 E.out.symm, Below.refl _ _⟩
          · have E := Lib.hid (num10_bad (f := f) hlt (by unfold okd; exact decide_eq_false (by omega)))
            have c0 : ¬ f k < 48 := by omega
            have c1 : decide (f k < 48) = false := decide_eq_false c0
            have c2 : decide (57 < f k) = true := decide_eq_true hc
            go_wp2
            go_ret
            exact ⟨ret_i64 E.out.symm, Below.refl _ _⟩
          · have DS := Lib.hid (allD_step HD.out (by unfold okd; exact decide_eq_true hc))
            have c0 : ¬ f k < 48 := by omega
            have c3 : ¬ 57 < f k := by omega
            have c1 : decide (f k < 48) = false := decide_eq_false c0
            have c2 : decide (57 < f k) = false := decide_eq_false c3
            have wu := u8_sub hc
            have wi : IntKind.i64.wrap (f k - 48) = f k - 48 := IntWalk.i64_in _ (by omega)
            have wm : IntKind.i64.wrap (nval f k * 10) = nval f k * 10 := IntWalk.i64_in _ (by omega)
            have wm2 : IntKind.i64.wrap (10 * nval f k) = nval f k * 10 := by rw [Int.mul_comm]; exact IntWalk.i64_in _ (by omega)
            have wa : IntKind.i64.wrap (nval f k * 10 + (f k - 48)) = nval f k * 10 + (f k - 48) := IntWalk.i64_in _ (by omega)
            go_wp2
            go_round
            case rel => exact ⟨k + 1, by omega, by go_num, by rw [NX.out], DS.out⟩
            case measure => simp [intOf]; omega
        · have hks : k = s.size := by omega
          have hltI : ¬ (k : Int) < (s.size : Int) := by omega
          have E : Hid (num10 f s.size = nval f s.size) := by have d := HD.out; rw [hks] at d; exact num10_ok NO.out d
          go_wp2
          go_ret
          exact ⟨ret_i64 E.out.symm, Below.refl _ _⟩

noncomputable def nmv (s : ByteArray) : Int := if num10 (bt s) s.size < 0 then 0 else num10 (bt s) s.size
noncomputable def nme (s : ByteArray) : Value := if num10 (bt s) s.size < 0 then .iface 59 (.agg #[.string s]) else .nilIface
theorem nm_of {s : ByteArray} {f : Nat → Int} {q : Int} (hf : f = bt s) (h : num10 f s.size = q) : num10 (bt s) s.size = q := by rw [← hf]; exact h
theorem nm_bad {s : ByteArray} (h : num10 (bt s) s.size = -1) : Ending.returned (.tuple #[.int .i64 0, .iface 59 (.agg #[.string s])]) = .returned (.tuple #[.int .i64 (nmv s), nme s]) := by
  unfold nmv nme
  rw [h]; rfl
theorem nm_ok {s : ByteArray} {v : Int} (h : num10 (bt s) s.size = v) (h0 : 0 ≤ v) : Ending.returned (.tuple #[.int .i64 v, .nilIface]) = .returned (.tuple #[.int .i64 (nmv s), nme s]) := by
  unfold nmv nme
  rw [h, if_neg (by omega), if_neg (by omega)]

set_option maxHeartbeats 8000000 in
theorem implNum_any (s : ByteArray) (w : World) (hs : s.size ≤ 9223372036854775807) :
    Calls Tryd.prog 19 #[.string s] w fun e w' => e = .returned (.tuple #[.int .i64 (nmv s), nme s]) ∧ Below w.heap.size w w' := by
  obtain ⟨f, hf⟩ : ∃ f, f = bt s := ⟨_, rfl⟩
  have BI : Hid (∀ k, 0 ≤ f k ∧ f k ≤ 255) := fun k => by rw [hf]; exact bt_in s k
  have EQ : Hid (∀ k (h : k < s.size), ((s[k]'h).toNat : Int) = f k) := fun k h => by rw [hf]; exact bt_eq s k h
  have HF := Lib.hid hf
  clear hf
  by_cases h1 : s.size < 1
  · have E := Lib.hid (nm_of HF.out (num10_no (f := f) (n := s.size) (.inl h1)))
    have h1I : (s.size : Int) < 1 := by omega
    go_enter Tryd.func19, Tryd.ntmps19
    go_wp2
    go_ret2
    exact ⟨nm_bad E.out, Below.refl _ _⟩
  by_cases h6 : 6 < s.size
  · have E := Lib.hid (nm_of HF.out (num10_no (f := f) (n := s.size) (.inr (.inl h6))))
    have h1I : ¬ (s.size : Int) < 1 := by omega
    have h6I : (6 : Int) < (s.size : Int) := by omega
    go_enter Tryd.func19, Tryd.ntmps19
    go_wp2
    go_ret2
    exact ⟨nm_bad E.out, Below.refl _ _⟩
  have h1I : ¬ (s.size : Int) < 1 := by omega
  have h6I : ¬ (6 : Int) < (s.size : Int) := by omega
  have hk0 : 0 < s.size := by omega
  have e0 := EQ.out 0 hk0
  have H61 : Hid (s.size ≤ 6) := by show _ ≤ _; omega
  have cut : ∀ (NO : Hid (¬ (s.size < 1 ∨ 6 < s.size ∨ (f 0 = 48 ∧ 1 < s.size)))), True := fun _ => trivial
  clear cut
  rcases (show (f 0 = 48 ∧ 1 < s.size) ∨ (f 0 = 48 ∧ ¬ 1 < s.size) ∨ ¬ f 0 = 48 by omega) with h0 | h0 | h0
  · have E := Lib.hid (nm_of HF.out (num10_no (f := f) (n := s.size) (.inr (.inr h0))))
    have h0a : (f 0 == 48) = true := by simp [h0.1]
    have h0d := h0.1
    have h0b : (1 : Int) < (s.size : Int) := by omega
    clear h0
    go_enter Tryd.func19, Tryd.ntmps19
    go_wp2
    go_ret2
    exact ⟨nm_bad E.out, Below.refl _ _⟩
  all_goals
    have NO := Lib.hid (show ¬ (s.size < 1 ∨ 6 < s.size ∨ (f 0 = 48 ∧ 1 < s.size)) by omega)
    have h0b : (f 0 == 48) = true ∧ ¬ (1 : Int) < (s.size : Int) ∨ (f 0 == 48) = false := by
      rcases Classical.em (f 0 = 48) with e | e
      · exact .inl ⟨by simp [e], by omega⟩
      · exact .inr (by simp [e])
    have h0c : f 0 = 48 → ¬ (1 : Int) < (s.size : Int) := fun e => by omega
    clear h0c
    rcases h0b with ⟨h0a, h0b⟩ | h0a
    all_goals
      go_enter Tryd.func19, Tryd.ntmps19
      go_upto_region 3 with (fail)
      clear h0 h0a e0
      (try clear h0b)
      go_wp2_with fail
      go_loop [4, 29] (fun v i => ∃ k : Nat, k ≤ s.size ∧ i = .int .i64 (k : Int) ∧ v = .int .i64 (nval f k) ∧ allD f k = true) (fun _ i => s.size - (intOf i).toNat)
      case atStart => exact ⟨0, Nat.zero_le _, rfl, rfl, rfl⟩
      case round =>
        obtain ⟨k, hk, rfl, rfl, hd⟩ := hrel
        have HD := Lib.hid hd
        have h66 := H61.out
        have nv := nval_le (f := f) (k := k) (by omega) hd
        clear hd
        by_cases hlt : k < s.size
        · have ek := EQ.out k hlt
          have hltI : (k : Int) < (s.size : Int) := by omega
          have hk0I : (0 : Int) ≤ (k : Int) := by omega
          have bi := BI.out k
          have NX := Lib.hid (show nval f (k + 1) = nval f k * 10 + (f k - 48) from rfl)
          rcases (show f k < 48 ∨ 57 < f k ∨ (48 ≤ f k ∧ f k ≤ 57) by omega) with hc | hc | hc
          · have E := Lib.hid (nm_of HF.out (num10_bad (f := f) hlt (by unfold okd; exact decide_eq_false (by omega))))
            have c1 : decide (f k < 48) = true := decide_eq_true hc
            go_wp2
            go_ret2
            exact ⟨nm_bad E.out, Below.refl _ _⟩
          · have E := Lib.hid (nm_of HF.out (num10_bad (f := f) hlt (by unfold okd; exact decide_eq_false (by omega))))
            have c0 : ¬ f k < 48 := by omega
            have c1 : decide (f k < 48) = false := decide_eq_false c0
            have c2 : decide (57 < f k) = true := decide_eq_true hc
            go_wp2
            go_ret2
            exact ⟨nm_bad E.out, Below.refl _ _⟩
          · have DS := Lib.hid (allD_step HD.out (by unfold okd; exact decide_eq_true hc))
            have c0 : ¬ f k < 48 := by omega
            have c3 : ¬ 57 < f k := by omega
            have c1 : decide (f k < 48) = false := decide_eq_false c0
            have c2 : decide (57 < f k) = false := decide_eq_false c3
            have wu := u8_sub hc
            have wi : IntKind.i64.wrap (f k - 48) = f k - 48 := IntWalk.i64_in _ (by omega)
            have wm : IntKind.i64.wrap (nval f k * 10) = nval f k * 10 := IntWalk.i64_in _ (by omega)
            have wm2 : IntKind.i64.wrap (10 * nval f k) = nval f k * 10 := by rw [Int.mul_comm]; exact IntWalk.i64_in _ (by omega)
            have wa : IntKind.i64.wrap (nval f k * 10 + (f k - 48)) = nval f k * 10 + (f k - 48) := IntWalk.i64_in _ (by omega)
            go_wp2
            go_round
            case rel => exact ⟨k + 1, by omega, by go_num, by rw [NX.out], DS.out⟩
            case measure => simp [intOf]; omega
        · have hks : k = s.size := by omega
          have hltI : ¬ (k : Int) < (s.size : Int) := by omega
          have E : Hid (num10 (bt s) s.size = nval f s.size) := by have d := HD.out; rw [hks] at d; exact nm_of HF.out (num10_ok NO.out d)
          have NV : Hid (0 ≤ nval f s.size) := by have d := HD.out; rw [hks] at d; exact (nval_le (by have := H61.out; omega) d).1
          go_wp2
          go_ret2
          exact ⟨nm_ok E.out NV.out, Below.refl _ _⟩

noncomputable def nof10 (s : ByteArray) : Int × Int := if num10 (bt s) s.size < 0 then (5, 0) else (0, num10 (bt s) s.size)
theorem specNumberOf_any (s : ByteArray) (w : World) (hs : s.size ≤ 9223372036854775807) :
    Calls Tryd.prog 6 #[.string s] w fun e w' => e = .returned (.agg #[.int .i64 (nof10 s).1, .int .i64 (nof10 s).2]) ∧ Below w.heap.size w w' := by
  obtain ⟨w1, hw1⟩ : ∃ w1, w1 = w.alloc (.cells #[.int .i64 0, .int .i64 0] 23) := ⟨_, rfl⟩
  have K1 : Hid (w1.heap[w.heap.size]? = some (.cells #[.int .i64 0, .int .i64 0] 23 (0, 0))) := by show _ = _; rw [hw1]; exact heap_alloc_new w _
  have N1 : Hid (Below w.heap.size w w1) := by rw [hw1]; exact below_new w _
  have Z1 : Hid (w1.heap.size = w.heap.size + 1) := by show _ = _; rw [hw1]; simp
  have HW1 := Lib.hid hw1
  have C := Lib.hid (specNum_any s w1 hs)
  obtain ⟨q, hq⟩ : ∃ q, num10 (bt s) s.size = q := ⟨_, rfl⟩
  have NO : nof10 s = if q < 0 then (5, 0) else (0, q) := by unfold nof10; rw [hq]
  rw [hq] at C
  rw [NO]
  clear hw1 hq NO
  by_cases h : q < 0
  all_goals
    first | rw [if_pos h] | rw [if_neg h]
    go_enter Tryd.func6, Tryd.ntmps6
    go_upto_region 1 with (fail)
    rw [← HW1.out]
    clear HW1
    go_wp2_with fail
    refine C.out.mono ?_
    rintro e w2 ⟨rfl, hb⟩
    have B2 := Lib.hid (N1.out.trans (hb.mono (by have := Z1.out; omega)))
    have K2 := Lib.hid ((hb.block w.heap.size (by have := Z1.out; omega)).trans K1.out)
    clear hb C N1 K1 Z1
    have r0 := cell_of_row w2 _ 0 _ _ _ K2.out; have r1 := cell_of_row w2 _ 1 _ _ _ K2.out
    have f0 := frozen_of_row w2 _ 0 _ _ K2.out; have f1 := frozen_of_row w2 _ 1 _ _ K2.out
    simp at r0 r1
    first | have hd : decide (q < 0) = true := decide_eq_true (by omega) | have hd : decide (q < 0) = false := decide_eq_false (by omega)
    go_wp2
    refine bodyPost_ret (results_cell_row rfl _ _ w.heap.size _ _ (0, 0) _ rfl (heap_setCell_same _ _ 1 _ _ _ (heap_setCell_same _ _ 0 _ _ _ K2.out)) Tryd.underlying23 rfl (by kernel_rfl)) rfl ?_
    exact ⟨rfl, (B2.out.setCell (p := ⟨w.heap.size, 0, none⟩) (Nat.le_refl _) _).setCell (p := ⟨w.heap.size, 1, none⟩) (Nat.le_refl _) _⟩
theorem codeNum_any (s : ByteArray) (w : World) (hg : ETy w) :
    Calls Tryd.prog 20 #[nme s] w fun e w' => e = .returned (.int .i64 (nof10 s).1) ∧ Below w.heap.size w w' := by
  unfold nme nof10
  by_cases h : num10 (bt s) s.size < 0
  · rw [if_pos h, if_pos h]; exact codeOfS_unread _ w hg
  · rw [if_neg h, if_neg h]; exact codeOfS_nil w
theorem nmv_of (s : ByteArray) : nmv s = (nof10 s).2 := by
  unfold nmv nof10
  by_cases h : num10 (bt s) s.size < 0
  · rw [if_pos h, if_pos h]
  · rw [if_neg h, if_neg h]
theorem implNumberOf_any (s : ByteArray) (w : World) (hg : ETy w) (hs : s.size ≤ 9223372036854775807) :
    Calls Tryd.prog 7 #[.string s] w fun e w' => e = .returned (.agg #[.int .i64 (nof10 s).1, .int .i64 (nof10 s).2]) ∧ Below w.heap.size w w' := by
  obtain ⟨w1, hw1⟩ : ∃ w1, w1 = w.alloc (.cells #[.int .i64 0, .int .i64 0] 23) := ⟨_, rfl⟩
  have K1 : Hid (w1.heap[w.heap.size]? = some (.cells #[.int .i64 0, .int .i64 0] 23 (0, 0))) := by show _ = _; rw [hw1]; exact heap_alloc_new w _
  have N1 : Hid (Below w.heap.size w w1) := by rw [hw1]; exact below_new w _
  have Z1 : Hid (w1.heap.size = w.heap.size + 1) := by show _ = _; rw [hw1]; simp
  have HW1 := Lib.hid hw1
  have C := Lib.hid (implNum_any s w1 hs)
  have HG := Lib.hid hg
  have CC : Hid (∀ W, Below w1.heap.size w1 W → Calls Tryd.prog 20 #[nme s] W fun e w' => e = .returned (.int .i64 (nof10 s).1) ∧ Below W.heap.size W w') := fun W hW => codeNum_any s W (HG.out.below (N1.out.trans (hW.mono (by have := Z1.out; omega))))
  rw [nmv_of] at C
  generalize nme s = er at *
  generalize (nof10 s).1 = q at *
  generalize (nof10 s).2 = v at *
  clear hw1 hg
  go_enter Tryd.func7, Tryd.ntmps7
  go_upto_region 1 with (fail)
  rw [← HW1.out]
  clear HW1
  go_wp2_with fail
  refine C.out.mono ?_
  rintro e w2 ⟨rfl, hb⟩
  have B2 := Lib.hid hb
  clear hb C
  go_wp2_with fail
  refine (CC.out w2 B2.out).mono ?_
  rintro e w3 ⟨rfl, hb⟩
  have B3 := Lib.hid (B2.out.trans (hb.mono B2.out.size))
  clear hb CC B2
  have BF := Lib.hid (N1.out.trans (B3.out.mono (by have := Z1.out; omega)))
  have K3 := Lib.hid ((B3.out.block w.heap.size (by have := Z1.out; omega)).trans K1.out)
  have r0 := cell_of_row w3 _ 0 _ _ _ K3.out; have r1 := cell_of_row w3 _ 1 _ _ _ K3.out
  have f0 := frozen_of_row w3 _ 0 _ _ K3.out; have f1 := frozen_of_row w3 _ 1 _ _ K3.out
  simp at r0 r1
  go_wp2
  refine bodyPost_ret (results_cell_row rfl _ _ w.heap.size _ _ (0, 0) _ rfl (heap_setCell_same _ _ 1 _ _ _ (heap_setCell_same _ _ 0 _ _ _ K3.out)) Tryd.underlying23 rfl (by kernel_rfl)) rfl ?_
  exact ⟨rfl, (BF.out.setCell (p := ⟨w.heap.size, 0, none⟩) (Nat.le_refl _) _).setCell (p := ⟨w.heap.size, 1, none⟩) (Nat.le_refl _) _⟩

end Go.Proofs.YtckapndpefkcgaaDoor
