/-
  Heaps: what is put in, taken out, made of a list, and sorted. No program's function is named here.
-/
import Derived.Test.YtckapndpefkcgaaMath4i
set_option maxHeartbeats 1000000
namespace Go.Proofs.Ytckapndpefkcgaa
open Go.RowKit
set_option maxRecDepth 100000

theorem hasE_iff {hs : List Int} {n : Nat} {id : Int} : hasE hs n id = true ↔ ∃ i, i < n ∧ (en hs i).2 = id := by
  unfold hasE
  constructor
  · intro h
    obtain ⟨i, hi, e⟩ := anyTo_ex h
    exact ⟨i, hi, of_decide_eq_true e⟩
  · rintro ⟨i, hi, e⟩
    exact anyTo_true hi (decide_eq_true e)
theorem gi_left4 {a b : List Int} {i : Nat} (h : i < a.length) : gi (a ++ b) i = gi a i := by
  unfold gi
  simp [List.getD_eq_getElem?_getD, List.getElem?_append_left h]
theorem gi_right4 {a b : List Int} {i m : Nat} (h : a.length = m) : gi (a ++ b) (m + i) = gi b i := by
  subst h
  unfold gi
  simp [List.getD_eq_getElem?_getD, List.getElem?_append_right (show a.length ≤ a.length + i by omega)]
theorem en_app {hs : List Int} {n : Nat} (hl : hs.length = n * 2) (p d : Int) (i : Nat) (hi : i < n) : en (hs ++ [p, d]) i = en hs i := by
  unfold en
  rw [gi_left4 (by omega), gi_left4 (by omega)]
theorem en_last {hs : List Int} {n : Nat} (hl : hs.length = n * 2) (p d : Int) : en (hs ++ [p, d]) n = (p, d) := by
  unfold en
  have e0 : gi (hs ++ [p, d]) (n * 2 + 0) = p := gi_right4 hl
  have e1 : gi (hs ++ [p, d]) (n * 2 + 1) = d := gi_right4 hl
  rw [Nat.add_zero] at e0
  rw [e0, e1]
theorem push_ok {hs : List Int} {n : Nat} {p d : Int} (hl : hs.length = n * 2) (h : hf hs n = 0) (ho : okE p d = true) (hh : hasE hs n d = false) (hn : n < 12) : hf (push4 hs n p d) (n + 1) = 0 ∧ hasE (push4 hs n p d) (n + 1) d = true := by
  obtain ⟨_, h2, h3, h4⟩ := hf_iff.1 h
  have hl2 : (hs ++ [p, d]).length = (n + 1) * 2 := by simp [hl]; omega
  have pm := up4_pm (n := n + 1) n (hs ++ [p, d]) hl2 (by omega)
  have ne : ∀ i, i < n → (en hs i).2 ≠ d := fun i hi e => by
    have := hasE_iff.2 ⟨i, hi, e⟩
    rw [hh] at this; cases this
  have E : ∀ i, i < n + 1 → (i < n ∧ en (hs ++ [p, d]) i = en hs i) ∨ (i = n ∧ en (hs ++ [p, d]) i = (p, d)) := fun i hi => by
    by_cases e : i < n
    · exact .inl ⟨e, en_app hl p d i e⟩
    · obtain rfl : i = n := by omega
      exact .inr ⟨rfl, en_last hl p d⟩
  constructor
  · unfold push4
    refine hf_iff.2 ⟨by omega, (pm.1 fun e => okE e.1 e.2 = true).1 fun i hi => ?_, pm.2 fun i j hi hj hij => ?_, up4_heap n _ hl2 (by omega) (fun i i1 i2 i3 => ?_) (fun _ i i1 i2 i3 => by omega)⟩
    · rcases E i hi with ⟨e1, e2⟩ | ⟨_, e2⟩
      · rw [e2]; exact h2 i e1
      · rw [e2]; exact ho
    · rcases E i hi with ⟨a1, a2⟩ | ⟨a1, a2⟩ <;> rcases E j hj with ⟨b1, b2⟩ | ⟨b1, b2⟩
      · rw [a2, b2]; exact h3 i j a1 b1 hij
      · rw [a2, b2]; exact ne i a1
      · rw [a2, b2]; exact (ne j b1).symm
      · omega
    · rw [en_app hl p d i (by omega), en_app hl p d _ (by omega)]
      exact h4 i i1 (by omega)
  · unfold push4
    cases hc : hasE (up4 (hs ++ [p, d]) n) (n + 1) d with
    | true => rfl
    | false =>
      exfalso
      have all : ∀ i, i < n + 1 → (en (up4 (hs ++ [p, d]) n) i).2 ≠ d := fun i hi e => by
        have := hasE_iff.2 ⟨i, hi, e⟩
        rw [hc] at this; cases this
      have := (pm.1 fun e => e.2 ≠ d).2 all n (by omega)
      rw [en_last hl p d] at this
      exact this rfl
theorem base_en {hs : List Int} {n : Nat} (hl : hs.length = (n + 1) * 2) (i : Nat) (hi : i < n) : en ((se hs 0 (gi hs (n * 2)) (gi hs (n * 2 + 1))).take (n * 2)) i = if i = 0 then en hs n else en hs i := by
  have e : en ((se hs 0 (gi hs (n * 2)) (gi hs (n * 2 + 1))).take (n * 2)) i = en (se hs 0 (gi hs (n * 2)) (gi hs (n * 2 + 1))) i := by
    unfold en gi
    simp [List.getD_eq_getElem?_getD, List.getElem?_take, show i * 2 < n * 2 by omega, show i * 2 + 1 < n * 2 by omega]
  rw [e, se_en hl (by omega)]
  rfl
theorem Ls.of_ne {a b : Int × Int} (h : ¬ Ls b a) (hne : a.2 ≠ b.2) : Ls a b := by unfold Ls at *; omega
theorem pop_ok {hs : List Int} {n : Nat} (hl : hs.length = (n + 1) * 2) (h : hf hs (n + 1) = 0) : hf (pop4 hs n) n = 0 ∧ ∀ i, i < n → Ls (en hs 0) (en (pop4 hs n) i) := by
  obtain ⟨h1, h2, h3, h4⟩ := hf_iff.1 h
  obtain ⟨bs, hbs⟩ : ∃ bs, bs = (se hs 0 (gi hs (n * 2)) (gi hs (n * 2 + 1))).take (n * 2) := ⟨_, rfl⟩
  have hlb : bs.length = n * 2 := by rw [hbs]; simp [se_len, hl]
  have B : ∀ i, i < n → ∃ j, 1 ≤ j ∧ j < n + 1 ∧ en bs i = en hs j ∧ (i = 0 → j = n) ∧ (i ≠ 0 → j = i) := fun i hi => by
    have := base_en hl i hi
    rw [← hbs] at this
    by_cases e : i = 0
    · rw [if_pos e] at this
      exact ⟨n, by omega, by omega, this, fun _ => rfl, fun hh => absurd e hh⟩
    · rw [if_neg e] at this
      exact ⟨i, by omega, by omega, this, fun hh => absurd hh e, fun _ => rfl⟩
  have pm := down4_pm (n := n) (n - 0) 0 bs rfl hlb
  have ep : pop4 hs n = down4 bs n 0 := by unfold pop4; rw [hbs]
  rw [ep]
  constructor
  · refine hf_iff.2 ⟨by omega, (pm.1 fun e => okE e.1 e.2 = true).1 fun i hi => ?_, pm.2 fun i j hi hj hij => ?_, down4_heap (n - 0) 0 bs rfl hlb (by omega) (fun i i1 i2 i3 => ?_) (fun h0 => absurd h0 (by omega))⟩
    · obtain ⟨j, j1, j2, e, _⟩ := B i hi
      rw [e]; exact h2 j j2
    · obtain ⟨a, a1, a2, ea, a3, a4⟩ := B i hi
      obtain ⟨b, b1, b2, eb, b3, b4⟩ := B j hj
      rw [ea, eb]
      refine h3 a b a2 b2 ?_
      by_cases i0 : i = 0
      · have := a3 i0
        have := b4 (by omega)
        omega
      · have := a4 i0
        by_cases j0 : j = 0
        · have := b3 j0; omega
        · have := b4 j0; omega
    · obtain ⟨a, a1, a2, ea, a3, a4⟩ := B i i2
      obtain ⟨b, b1, b2, eb, b3, b4⟩ := B ((i - 1) / 2) (by omega)
      rw [ea, eb, a4 (by omega), b4 i3]
      exact h4 i i1 (by omega)
  · refine (pm.1 fun e => Ls (en hs 0) e).1 fun i hi => ?_
    obtain ⟨j, j1, j2, e, _⟩ := B i hi
    rw [e]
    exact Ls.of_ne (h4.first j j2) (h3 0 j (by omega) j2 (by omega))
theorem en_cons (x y : Int) (l : List Int) (i : Nat) : en (x :: y :: l) (i + 1) = en l i := by
  unfold en gi
  rw [show (i + 1) * 2 = i * 2 + 1 + 1 by omega]
  rfl
theorem srt_first (n : Nat) (hs : List Int) : en (srt4 (n + 1) hs) 0 = en hs 0 := rfl
theorem srt_rise : ∀ (n : Nat) (hs : List Int), hs.length = n * 2 → hf hs n = 0 → ∀ i, i + 1 < n → Ls (en (srt4 n hs) i) (en (srt4 n hs) (i + 1))
  | 0, _, _, _, i, hi => absurd hi (by omega)
  | n + 1, hs, hl, h, i, hi => by
    obtain ⟨p1, p2⟩ := pop_ok hl h
    have e : srt4 (n + 1) hs = gi hs 0 :: gi hs 1 :: srt4 n (pop4 hs n) := rfl
    rw [e, en_cons]
    rcases i with _ | i
    · show Ls (en hs 0) (en (srt4 n (pop4 hs n)) 0)
      obtain ⟨m, rfl⟩ : ∃ m, n = m + 1 := ⟨n - 1, by omega⟩
      rw [srt_first]
      exact p2 0 (by omega)
    · rw [en_cons]
      exact srt_rise n (pop4 hs n) (pop4_len hl) p1 i (by omega)
theorem pushH_ok {hs : List Int} {n : Nat} {p d : Int} (hl : hs.length = n * 2) (h : (pushH hs n p d).1 = 0) : hf (pushH hs n p d).2 (n + 1) = 0 ∧ (pushH hs n p d).2.length = (n + 1) * 2 ∧ (pushH (pushH hs n p d).2 (n + 1) p d).1 = 6 := by
  unfold pushH at h
  by_cases h1 : hf hs n ≠ 0
  · rw [if_pos h1] at h; exact absurd h h1
  rw [if_neg h1] at h
  by_cases h2 : okE p d = false
  · rw [if_pos h2] at h; exact absurd h (by decide)
  rw [if_neg h2] at h
  by_cases h3 : hasE hs n d = true
  · rw [if_pos h3] at h; exact absurd h (by decide)
  rw [if_neg h3] at h
  by_cases h4 : n = 12
  · rw [if_pos h4] at h; exact absurd h (by decide)
  have h0 : hf hs n = 0 := by omega
  have hn : n ≤ 12 := (hf_iff.1 h0).1
  have e : pushH hs n p d = (0, push4 hs n p d) := by unfold pushH; rw [if_neg h1, if_neg h2, if_neg h3, if_neg h4]
  obtain ⟨a, b⟩ := push_ok hl h0 (by simpa using h2) (by simpa using h3) (show n < 12 by omega)
  rw [e]
  refine ⟨a, push4_len p d hl, ?_⟩
  unfold pushH
  rw [if_neg (by simp [a]), if_neg h2, if_pos b]
theorem hof_ok (ls : List Int) : ∀ (k i m : Nat) (out : List Int), out.length = m * 2 → hf out m = 0 → (hof ls k i out).1 = 0 → hf (hof ls k i out).2 (m + k) = 0 ∧ (hof ls k i out).2.length = (m + k) * 2
  | 0, i, m, out, hl, h, _ => ⟨h, hl⟩
  | k + 1, i, m, out, hl, h, hc => by
    have hm : out.length / 2 = m := by omega
    unfold hof at hc ⊢
    rw [hm] at hc ⊢
    by_cases h1 : (pushH out m (gi ls (i * 2)) (gi ls (i * 2 + 1))).1 ≠ 0
    · rw [if_pos h1] at hc
      exact absurd hc h1
    rw [if_neg h1] at hc ⊢
    obtain ⟨a, b, _⟩ := pushH_ok hl (show (pushH out m (gi ls (i * 2)) (gi ls (i * 2 + 1))).1 = 0 by omega)
    have := hof_ok ls k (i + 1) (m + 1) _ b a hc
    rw [show m + (k + 1) = m + 1 + k by omega]
    exact this

end Go.Proofs.Ytckapndpefkcgaa
