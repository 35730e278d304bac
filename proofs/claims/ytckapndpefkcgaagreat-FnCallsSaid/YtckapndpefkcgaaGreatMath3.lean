/-
  Chapter 3's plain mathematics: what is asked of calls, events and kernels, and what each step makes of them. No program is named here.
  Ahead of it:
  Chapter 2's plain mathematics: an account's fault and what each step makes of it, on its four numbers. No program is named here.
  Ahead of it:
  Chapter 1's plain mathematics: what a list of owners is worth (its fault, its counts), in Lean's own lists. No program is named here.
-/
import Derived.Test.YtckapndpefkcgaaGreatU8s
set_option maxHeartbeats 1000000
namespace Go.Proofs.YtckapndpefkcgaaGreat
open Go.RowKit

def cnt : List Int → Int → Nat
  | [], _ => 0
  | x :: r, e => (if x = e then 1 else 0) + cnt r e
def bad (x : Int) : Bool := decide (x ≠ -1 ∧ ¬ (0 ≤ x ∧ x < 4))
def inEnv (x : Int) : Bool := decide (0 ≤ x ∧ x < 4)
def vf (xs : List Int) : Int :=
  if xs.length < 1 ∨ 12 < xs.length then 2 else if xs.any bad then 3 else if 6 < cnt xs 0 ∨ 6 < cnt xs 1 ∨ 6 < cnt xs 2 ∨ 6 < cnt xs 3 then 8 else 0
def ef (xs es : List Int) : Int := if vf xs ≠ 0 then vf xs else if es.any (fun e => !inEnv e) then 3 else 0
def sf (xs : List Int) (slot : Int) (es : List Int) : Int := if ef xs es ≠ 0 then ef xs es else if slot < 0 ∨ (xs.length : Int) ≤ slot then 4 else 0

theorem cnt_le (xs : List Int) (e : Int) : cnt xs e ≤ xs.length := by
  induction xs with
  | nil => simp [cnt]
  | cons x r ih => simp only [cnt, List.length_cons]; split <;> omega
theorem cnt_append (xs ys : List Int) (e : Int) : cnt (xs ++ ys) e = cnt xs e + cnt ys e := by
  induction xs with
  | nil => simp [cnt]
  | cons x r ih => simp only [cnt, List.cons_append, ih]; omega
theorem gi_ge (xs : List Int) (k : Nat) (h : xs.length ≤ k) : gi xs k = 0 := by
  unfold gi; rw [List.getD_eq_getElem?_getD, List.getElem?_eq_none h]; rfl
theorem take_gi (xs : List Int) (k : Nat) (h : k < xs.length) : xs.take (k + 1) = xs.take k ++ [gi xs k] := by
  rw [List.take_succ_eq_append_getElem h, gi_lt xs k h]
theorem cnt_take (xs : List Int) (k : Nat) (e : Int) (h : k < xs.length) : cnt (xs.take (k + 1)) e = cnt (xs.take k) e + (if gi xs k = e then 1 else 0) := by
  rw [take_gi xs k h, cnt_append]; simp [cnt]
theorem any_gi (xs : List Int) (p : Int → Bool) (k : Nat) (h : k < xs.length) (hp : p (gi xs k) = true) : xs.any p = true := by
  rw [List.any_eq_true]
  exact ⟨gi xs k, by rw [gi_lt xs k h]; exact List.getElem_mem h, hp⟩
theorem none_gi (xs : List Int) (p : Int → Bool) (h : ∀ k, k < xs.length → p (gi xs k) = false) : xs.any p = false := by
  rw [List.any_eq_false]
  intro x hx
  obtain ⟨k, hk, rfl⟩ := List.mem_iff_getElem.1 hx
  rw [← gi_lt xs k hk, h k hk]
  simp
theorem gi_set (xs : List Int) (k j : Nat) (v : Int) : gi (xs.set k v) j = if j = k ∧ k < xs.length then v else gi xs j := by
  unfold gi
  simp only [List.getD_eq_getElem?_getD, List.getElem?_set]
  by_cases h : k = j
  · subst h
    by_cases h2 : k < xs.length
    · simp [h2]
    · simp [h2]
  · have : ¬ (j = k ∧ k < xs.length) := fun h' => h h'.1.symm
    simp [h, this]

theorem vf_many {xs : List Int} (h : xs.length < 1 ∨ 12 < xs.length) : vf xs = 2 := by unfold vf; rw [if_pos h]
theorem vf_range {xs : List Int} (h1 : 1 ≤ xs.length) (h2 : xs.length ≤ 12) {k : Nat} (hk : k < xs.length) (hb : bad (gi xs k) = true) : vf xs = 3 := by
  unfold vf; rw [if_neg (by omega), if_pos (any_gi xs bad k hk hb)]
theorem vf_full {xs : List Int} (h1 : 1 ≤ xs.length) (h2 : xs.length ≤ 12) (hb : ∀ k, k < xs.length → bad (gi xs k) = false) {e : Int} (he : 0 ≤ e ∧ e < 4) (hc : 6 < cnt xs e) : vf xs = 8 := by
  unfold vf
  rw [if_neg (by omega), if_neg (by rw [none_gi xs bad hb]; simp), if_pos]
  rcases (show e = 0 ∨ e = 1 ∨ e = 2 ∨ e = 3 by omega) with rfl | rfl | rfl | rfl <;> simp [hc]
theorem vf_ok {xs : List Int} (h1 : 1 ≤ xs.length) (h2 : xs.length ≤ 12) (hb : ∀ k, k < xs.length → bad (gi xs k) = false) (hc : ∀ e : Int, 0 ≤ e → e < 4 → cnt xs e ≤ 6) : vf xs = 0 := by
  unfold vf
  have := hc 0 (by omega) (by omega)
  have := hc 1 (by omega) (by omega)
  have := hc 2 (by omega) (by omega)
  have := hc 3 (by omega) (by omega)
  rw [if_neg (by omega), if_neg (by rw [none_gi xs bad hb]; simp), if_neg (by omega)]
theorem vf_zero {xs : List Int} (h : vf xs = 0) : 1 ≤ xs.length ∧ xs.length ≤ 12 ∧ (∀ k, k < xs.length → bad (gi xs k) = false) ∧ ∀ e : Int, 0 ≤ e → e < 4 → cnt xs e ≤ 6 := by
  unfold vf at h
  by_cases h1 : xs.length < 1 ∨ 12 < xs.length
  · rw [if_pos h1] at h; omega
  rw [if_neg h1] at h
  by_cases h2 : xs.any bad = true
  · rw [if_pos h2] at h; omega
  rw [if_neg h2] at h
  by_cases h3 : 6 < cnt xs 0 ∨ 6 < cnt xs 1 ∨ 6 < cnt xs 2 ∨ 6 < cnt xs 3
  · rw [if_pos h3] at h; omega
  refine ⟨by omega, by omega, fun k hk => ?_, fun e he1 he2 => ?_⟩
  · by_cases hb : bad (gi xs k) = true
    · exact absurd (any_gi xs bad k hk hb) h2
    · simpa using hb
  · rcases (show e = 0 ∨ e = 1 ∨ e = 2 ∨ e = 3 by omega) with rfl | rfl | rfl | rfl <;> omega
theorem bad_false {x : Int} (h : bad x = false) : x = -1 ∨ (0 ≤ x ∧ x < 4) := by
  unfold bad at h
  have := of_decide_eq_false h
  omega
theorem bad_true {x : Int} (h1 : x ≠ -1) (h2 : ¬ (0 ≤ x ∧ x < 4)) : bad x = true := by unfold bad; exact decide_eq_true ⟨h1, h2⟩
theorem bad_ok {x : Int} (h : x = -1 ∨ (0 ≤ x ∧ x < 4)) : bad x = false := by unfold bad; exact decide_eq_false (by omega)
theorem inEnv_true {x : Int} (h : 0 ≤ x ∧ x < 4) : inEnv x = true := decide_eq_true h
theorem inEnv_false {x : Int} (h : ¬ (0 ≤ x ∧ x < 4)) : inEnv x = false := decide_eq_false h
theorem ef_fault {xs es : List Int} (h : vf xs ≠ 0) : ef xs es = vf xs := by unfold ef; rw [if_pos h]
theorem ef_ok {xs es : List Int} (h : vf xs = 0) : ef xs es = if es.any (fun e => !inEnv e) then 3 else 0 := by unfold ef; rw [if_neg (by omega)]
theorem sf_fault {xs es : List Int} {s : Int} (h : ef xs es ≠ 0) : sf xs s es = ef xs es := by unfold sf; rw [if_pos h]
theorem sf_ok {xs es : List Int} {s : Int} (h : ef xs es = 0) : sf xs s es = if s < 0 ∨ (xs.length : Int) ≤ s then 4 else 0 := by unfold sf; rw [if_neg (by omega)]
theorem sf_zero {xs es : List Int} {s : Int} (h : sf xs s es = 0) : vf xs = 0 ∧ (∀ e ∈ es, 0 ≤ e ∧ e < 4) ∧ 0 ≤ s ∧ s < xs.length := by
  unfold sf at h
  by_cases h1 : ef xs es ≠ 0
  · rw [if_pos h1] at h; exact absurd h h1
  rw [if_neg h1] at h
  have h1' : ef xs es = 0 := by omega
  by_cases h2 : s < 0 ∨ (xs.length : Int) ≤ s
  · rw [if_pos h2] at h; omega
  unfold ef at h1'
  by_cases h3 : vf xs ≠ 0
  · rw [if_pos h3] at h1'; exact absurd h1' h3
  rw [if_neg h3] at h1'
  by_cases h4 : (es.any fun e => !inEnv e) = true
  · rw [if_pos h4] at h1'; omega
  refine ⟨by omega, fun e he => ?_, by omega, by omega⟩
  by_cases h5 : 0 ≤ e ∧ e < 4
  · exact h5
  · exact absurd (List.any_eq_true.2 ⟨e, he, by rw [inEnv_false h5]; rfl⟩) h4
theorem ef_zero {xs es : List Int} (h : ef xs es = 0) : vf xs = 0 ∧ ∀ e ∈ es, 0 ≤ e ∧ e < 4 := by
  unfold ef at h
  by_cases h3 : vf xs ≠ 0
  · rw [if_pos h3] at h; exact absurd h h3
  rw [if_neg h3] at h
  by_cases h4 : (es.any fun e => !inEnv e) = true
  · rw [if_pos h4] at h; omega
  refine ⟨by omega, fun e he => ?_⟩
  by_cases h5 : 0 ≤ e ∧ e < 4
  · exact h5
  · exact absurd (List.any_eq_true.2 ⟨e, he, by rw [inEnv_false h5]; rfl⟩) h4

def inR (lo hi v : Int) : Bool := decide (lo ≤ v ∧ v ≤ hi)
theorem inR_true {lo hi v : Int} (h : lo ≤ v ∧ v ≤ hi) : inR lo hi v = true := decide_eq_true h
theorem inR_false {lo hi v : Int} (h : ¬ (lo ≤ v ∧ v ≤ hi)) : inR lo hi v = false := decide_eq_false h
theorem inR_env (v : Int) : inR 0 3 v = inEnv v := decide_eq_decide.2 (by omega)

def take1 (xs : List Int) (env slot : Int) : Int × List Int :=
  if sf xs slot [env] ≠ 0 then (sf xs slot [env], []) else if gi xs slot.toNat ≠ -1 then (6, []) else if 6 ≤ cnt xs env then (8, []) else (0, xs.set slot.toNat env)
def free1 (xs : List Int) (env slot : Int) : Int × List Int :=
  if sf xs slot [env] ≠ 0 then (sf xs slot [env], []) else if gi xs slot.toNat ≠ env then (7, []) else (0, xs.set slot.toNat (-1))
def move1 (xs : List Int) (env slot to : Int) : Int × List Int :=
  if sf xs slot [env, to] ≠ 0 then (sf xs slot [env, to], []) else if gi xs slot.toNat ≠ env then (7, []) else if to ≠ env ∧ 6 ≤ cnt xs to then (8, []) else (0, xs.set slot.toNat to)
def drop1 (xs : List Int) (env : Int) : Int × List Int :=
  if ef xs [env] ≠ 0 then (ef xs [env], []) else (0, xs.map fun x => if x = env then -1 else x)
def new1 (n : Int) : Int × List Int := if n < 1 ∨ 12 < n then (2, []) else (0, List.replicate n.toNat (-1))
theorem ef_dup (xs : List Int) (e : Int) : ef xs [e, e] = ef xs [e] := by
  unfold ef
  have : ([e, e].any fun e => !inEnv e) = ([e].any fun e => !inEnv e) := by simp
  rw [this]
theorem sf_dup (xs : List Int) (s e : Int) : sf xs s [e, e] = sf xs s [e] := by unfold sf; rw [ef_dup]
theorem sf_at0 (xs : List Int) (e : Int) : sf xs 0 [e, e] = ef xs [e] := by
  unfold sf
  rw [ef_dup]
  by_cases h : ef xs [e] ≠ 0
  · rw [if_pos h]
  · have h' : ef xs [e] = 0 := by omega
    have := (vf_zero (ef_zero h').1).1
    rw [if_neg h, if_neg (by omega), h']



def af (u x g d : Int) : Int := if (0 ≤ u ∧ u ≤ 1000000) ∧ (0 ≤ x ∧ x ≤ 1000000) ∧ (0 ≤ g ∧ g ≤ 1000000) ∧ (0 ≤ d ∧ d ≤ 3) then 0 else 3
theorem af_zero {u x g d : Int} (h : af u x g d = 0) : (0 ≤ u ∧ u ≤ 1000000) ∧ (0 ≤ x ∧ x ≤ 1000000) ∧ (0 ≤ g ∧ g ≤ 1000000) ∧ (0 ≤ d ∧ d ≤ 3) := by
  unfold af at h
  split at h
  · assumption
  · omega
theorem af_ok {u x g d : Int} (h : (0 ≤ u ∧ u ≤ 1000000) ∧ (0 ≤ x ∧ x ≤ 1000000) ∧ (0 ≤ g ∧ g ≤ 1000000) ∧ (0 ≤ d ∧ d ≤ 3)) : af u x g d = 0 := by unfold af; rw [if_pos h]
theorem af_bad {u x g d : Int} (h : ¬ ((0 ≤ u ∧ u ≤ 1000000) ∧ (0 ≤ x ∧ x ≤ 1000000) ∧ (0 ≤ g ∧ g ≤ 1000000) ∧ (0 ≤ d ∧ d ≤ 3))) : af u x g d = 3 := by unfold af; rw [if_neg h]

abbrev R2 := Int × Int × Int × Int × Int × Bool
def use2 (u x g d : Int) (late : Bool) : R2 :=
  if af u x g d ≠ 0 then (af u x g d, 0, 0, 0, 0, false)
  else if late = true then (if 1000000 ≤ x then (8, 0, 0, 0, 0, false) else (0, u, x + 1, g, d, false))
  else (if 1000000 ≤ u then (8, 0, 0, 0, 0, false) else (0, u + 1, x, g, d, false))
def give2 (u x g d : Int) : R2 :=
  if af u x g d ≠ 0 then (af u x g d, 0, 0, 0, 0, false) else if 1000000 ≤ g then (8, 0, 0, 0, 0, false) else (0, u, x, g + 1, d, false)
def pun2 (u x g d : Int) : R2 :=
  if af u x g d ≠ 0 then (af u x g d, 0, 0, 0, 0, false) else if 3 ≤ d then (0, u, x, g, d, true) else (0, u, x, g, d + 1, false)
def skip2 (u x g d : Int) : R2 :=
  if af u x g d ≠ 0 then (af u x g d, 0, 0, 0, 0, false) else if d = 0 then (4, 0, 0, 0, 0, false) else (0, u, x, g, d - 1, false)
def rv2 (r : R2) : Value := .agg #[.int .i64 r.1, .int .i64 r.2.1, .int .i64 r.2.2.1, .int .i64 r.2.2.2.1, .int .i64 r.2.2.2.2.1, .bool r.2.2.2.2.2]
theorem rv_eq (q u x g d : Int) (b : Bool) : rv2 (q, u, x, g, d, b) = .agg #[.int .i64 q, .int .i64 u, .int .i64 x, .int .i64 g, .int .i64 d, .bool b] := rfl
theorem six (r : R2) : ∃ q u x g d b, r = (q, u, x, g, d, b) := ⟨_, _, _, _, _, _, rfl⟩

theorem blk6_set {w : World} {g : Nat} {a0 a1 a2 a3 a4 a5 : Value} {t : TypeId} (h : w.heap[g]? = some (.cells #[a0, a1, a2, a3, a4, a5] t (0, 0))) (b0 b1 b2 b3 b4 b5 : Value) :
    ((((((w.setCell ⟨g, 0, none⟩ b0).setCell ⟨g, 1, none⟩ b1).setCell ⟨g, 2, none⟩ b2).setCell ⟨g, 3, none⟩ b3).setCell ⟨g, 4, none⟩ b4).setCell ⟨g, 5, none⟩ b5).heap[g]? = some (.cells #[b0, b1, b2, b3, b4, b5] t (0, 0)) :=
  heap_setCell_same _ g 5 _ t b5 (heap_setCell_same _ g 4 _ t b4 (heap_setCell_same _ g 3 _ t b3 (heap_setCell_same _ g 2 _ t b2 (heap_setCell_same _ g 1 _ t b1 (heap_setCell_same w g 0 _ t b0 h)))))
theorem below6 {B g : Nat} {a w : World} (h : Below B a w) (hg : B ≤ g) (b0 b1 b2 b3 b4 b5 : Value) :
    Below B a ((((((w.setCell ⟨g, 0, none⟩ b0).setCell ⟨g, 1, none⟩ b1).setCell ⟨g, 2, none⟩ b2).setCell ⟨g, 3, none⟩ b3).setCell ⟨g, 4, none⟩ b4).setCell ⟨g, 5, none⟩ b5) :=
  (((((h.setCell (p := ⟨g, 0, none⟩) hg b0).setCell (p := ⟨g, 1, none⟩) hg b1).setCell (p := ⟨g, 2, none⟩) hg b2).setCell (p := ⟨g, 3, none⟩) hg b3).setCell (p := ⟨g, 4, none⟩) hg b4).setCell (p := ⟨g, 5, none⟩) hg b5

theorem af_two (u x g d : Int) : af u x g d = 0 ∨ af u x g d = 3 := by unfold af; split <;> simp


def cr (e s t : Int) : Int := if inEnv e = true ∧ inEnv t = true ∧ inR 0 11 s = true then 0 else 3
def cf (k e s t : Int) : Int :=
  if k = 1 ∨ k = 2 then (if s ≠ 0 ∨ t ≠ 0 then 1 else cr e s t)
  else if k = 3 ∨ k = 4 then (if t ≠ 0 then 1 else cr e s t)
  else if k = 5 then cr e s t else 1
def evf (k a b c e s t : Int) : Int :=
  if k = 1 then (if ¬ (1 ≤ a ∧ a ≤ 3) ∨ (a ≠ 3 ∧ b ≠ 0) ∨ c ≠ 0 ∨ e ≠ 0 ∨ s ≠ 0 ∨ t ≠ 0 then 1 else if inEnv b = true then 0 else 3)
  else if k = 2 then (if a ≠ 0 ∨ b ≠ 0 then 1 else cf c e s t) else 1

end Go.Proofs.YtckapndpefkcgaaGreat
