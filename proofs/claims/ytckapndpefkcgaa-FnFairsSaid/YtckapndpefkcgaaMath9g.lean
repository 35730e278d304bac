/-
  However those that are ready stand, each one gets nearly what its tickets say. No program's function is named here.
-/
import Derived.Test.YtckapndpefkcgaaMath9f
import Derived.Test.YtckapndpefkcgaaMath5e
set_option maxHeartbeats 1000000
namespace Go.Proofs.Ytckapndpefkcgaa
open Go.RowKit
set_option maxRecDepth 100000

def sm (f : R3 → Int) : List R3 → Int
  | [] => 0
  | x :: xs => f x + sm f xs
theorem sm_congr {f g : R3 → Int} : ∀ {xs : List R3}, (∀ x, x ∈ xs → f x = g x) → sm f xs = sm g xs
  | [], _ => rfl
  | x :: xs, h => by
    unfold sm
    rw [h x (by simp), sm_congr fun y hy => h y (by simp [hy])]
theorem sm_add (f g : R3 → Int) : ∀ xs : List R3, sm (fun x => f x + g x) xs = sm f xs + sm g xs
  | [] => rfl
  | x :: xs => by
    unfold sm
    rw [sm_add f g xs]
    omega
theorem sm_mul (f : R3 → Int) (c : Int) : ∀ xs : List R3, sm (fun x => c * f x) xs = c * sm f xs
  | [] => by unfold sm; omega
  | x :: xs => by
    unfold sm
    rw [sm_mul f c xs, Int.mul_add]
theorem sm_map (f : R3 → Int) (h : R3 → R3) : ∀ xs : List R3, sm f (xs.map h) = sm (fun x => f (h x)) xs
  | [] => rfl
  | x :: xs => by
    show f (h x) + sm f (xs.map h) = _
    rw [sm_map f h xs]
    rfl
theorem sm_le {f g : R3 → Int} : ∀ {xs : List R3}, (∀ x, x ∈ xs → f x ≤ g x) → sm f xs ≤ sm g xs
  | [], _ => Int.le_refl _
  | x :: xs, h => by
    unfold sm
    have h1 := h x (by simp)
    have h2 := sm_le (xs := xs) fun y hy => h y (by simp [hy])
    omega
theorem sm_const (c : Int) : ∀ xs : List R3, sm (fun _ => c) xs = c * (xs.length : Int)
  | [] => by show (0 : Int) = c * ((0 : Nat) : Int); simp
  | x :: xs => by
    unfold sm
    rw [sm_const c xs, List.length_cons, Int.natCast_add, Int.mul_add]
    omega
def ctn (id : Int) : List Int → Int
  | [] => 0
  | j :: js => (if j = id then 1 else 0) + ctn id js
theorem ctn_cons (id j : Int) (js : List Int) : ctn id (j :: js) = (if j = id then 1 else 0) + ctn id js := rfl
def adv (js : List Int) (x : R3) : R3 := (x.1, x.2.1, x.2.2 + ctn x.1 js * strd x.2.1)
theorem ris_one {xs : List R3} (h : Ris xs) {x y : R3} (hx : x ∈ xs) (hy : y ∈ xs) (e : x.1 = y.1) : x = y := by
  have hp := h.up
  clear h
  induction xs with
  | nil => cases hx
  | cons z zs ih =>
    rw [List.pairwise_cons] at hp
    rcases List.mem_cons.1 hx with h1 | h1
    · rcases List.mem_cons.1 hy with h2 | h2
      · rw [h1, h2]
      · subst h1
        have := hp.1 y h2; omega
    · rcases List.mem_cons.1 hy with h2 | h2
      · subst h2
        have := hp.1 x h1; omega
      · exact ih h1 h2 hp.2
theorem sm_one {xs : List R3} (h : Ris xs) {v : R3} (hv : v ∈ xs) : sm (fun x => if v.1 = x.1 then 1 else 0) xs = 1 := by
  have hp := h.up
  clear h
  induction xs with
  | nil => cases hv
  | cons z zs ih =>
    rw [List.pairwise_cons] at hp
    unfold sm
    rcases List.mem_cons.1 hv with h1 | h1
    · subst h1
      have e : sm (fun x => if v.1 = x.1 then 1 else 0) zs = sm (fun _ => 0) zs := sm_congr fun x hx => if_neg (by have := hp.1 x hx; omega)
      rw [if_pos rfl, e, sm_const]
      omega
    · rw [if_neg (by have := hp.1 v h1; omega), ih h1 hp.2]
      omega
theorem pks_adv (n : Nat) : ∀ (b : Int) (xs : List R3), sf5 b xs = 0 → (pks5 n [] b xs).1 = 0 → (pks5 n [] b xs).2.2.2 = xs.map (adv (pks5 n [] b xs).2.1) ∧ sm (fun x => ctn x.1 (pks5 n [] b xs).2.1) xs = n ∧ ((pks5 n [] b xs).2.1.length = n) := by
  induction n with
  | zero =>
    intro b xs _ _
    refine ⟨?_, ?_, rfl⟩
    · show xs = xs.map (adv [])
      have e : ∀ x : R3, adv [] x = x := fun x => by
        unfold adv ctn
        rw [Int.zero_mul, Int.add_zero]
      rw [List.map_congr_left (g := id) fun x _ => e x, List.map_id]
    · show sm (fun x => ctn x.1 []) xs = ((0 : Nat) : Int)
      have e : sm (fun x => ctn x.1 []) xs = sm (fun _ => 0) xs := sm_congr fun _ _ => rfl
      rw [e, sm_const]
      omega
  | succ n ih =>
    intro b xs hs h1
    unfold pks5 at h1 ⊢
    by_cases hp : pq5 b xs = 0
    case neg =>
      rw [if_neg hp] at h1
      exact absurd h1 (ep5_ne hp)
    rw [if_pos hp] at h1 ⊢
    have hne : xs ≠ [] := fun e => by unfold pq5 at hp; rw [if_pos e] at hp; exact absurd hp (by decide)
    have hm := lst_mem hne
    obtain ⟨i1, i2⟩ := pks5_ids n ([] ++ [(lst xs).1.1]) (nb5 b xs) (ny5 xs)
    have h0 := i1.symm.trans h1
    have e := i2 h0
    obtain ⟨a1, a2, a3⟩ := ih (nb5 b xs) (ny5 xs) (pick_next hs hp) h0
    obtain ⟨_, _, hr, _⟩ := sf5_zero hs
    rw [e]
    show (pks5 n [] (nb5 b xs) (ny5 xs)).2.2.2 = xs.map (adv ((lst xs).1.1 :: (pks5 n [] (nb5 b xs) (ny5 xs)).2.1)) ∧ sm (fun x => ctn x.1 ((lst xs).1.1 :: (pks5 n [] (nb5 b xs) (ny5 xs)).2.1)) xs = ((n + 1 : Nat) : Int) ∧ _ = _
    generalize (pks5 n [] (nb5 b xs) (ny5 xs)).2.1 = js at *
    refine ⟨?_, ?_, ?_⟩
    · rw [a1]
      unfold ny5 pk5
      rw [List.map_map]
      refine List.map_congr_left fun x hx => ?_
      show adv js (if x.1 = (nxt5 (lst xs).1).1 then nxt5 (lst xs).1 else x) = adv ((lst xs).1.1 :: js) x
      by_cases hx1 : x.1 = (lst xs).1.1
      · obtain rfl := ris_one hr hx hm hx1
        rw [if_pos (show (lst xs).1.1 = (nxt5 (lst xs).1).1 from rfl)]
        unfold adv nxt5
        rw [ctn_cons, if_pos rfl]
        show ((lst xs).1.1, (lst xs).1.2.1, (lst xs).1.2.2 + strd (lst xs).1.2.1 + ctn (lst xs).1.1 js * strd (lst xs).1.2.1) = ((lst xs).1.1, (lst xs).1.2.1, (lst xs).1.2.2 + (1 + ctn (lst xs).1.1 js) * strd (lst xs).1.2.1)
        rw [Int.add_mul, Int.one_mul, Int.add_assoc]
      · rw [if_neg (show ¬ x.1 = (nxt5 (lst xs).1).1 from hx1)]
        unfold adv
        rw [ctn_cons, if_neg (fun hh => hx1 hh.symm), Int.zero_add]
    · have e2 : sm (fun x => ctn x.1 ((lst xs).1.1 :: js)) xs = sm (fun x => if (lst xs).1.1 = x.1 then 1 else 0) xs + sm (fun x => ctn x.1 js) xs := sm_add _ _ _
      rw [e2, sm_one hr hm]
      have e3 : sm (fun x => ctn x.1 js) (ny5 xs) = sm (fun x => ctn x.1 js) xs := by
        unfold ny5 pk5
        rw [sm_map]
        refine sm_congr fun x _ => ?_
        by_cases hx1 : x.1 = (nxt5 (lst xs).1).1
        · rw [if_pos hx1, hx1]
        · rw [if_neg hx1]
      rw [← e3, a2]
      omega
    · show ([] ++ [(lst xs).1.1] ++ js).length = n + 1
      simp [a3]
theorem sm_rest {f : R3 → Int} {c : Int} : ∀ {xs : List R3} {x : R3}, x ∈ xs → (∀ y, y ∈ xs → f y ≤ c) → sm f xs - f x ≤ c * ((xs.length : Int) - 1)
  | [], _, hx, _ => by cases hx
  | z :: zs, x, hx, h => by
    unfold sm
    rw [List.length_cons, show ((zs.length + 1 : Nat) : Int) - 1 = (zs.length : Int) by omega]
    rcases List.mem_cons.1 hx with h1 | h1
    · subst h1
      have h2 := sm_le (f := f) (g := fun _ => c) (xs := zs) fun y hy => h y (by simp [hy])
      rw [sm_const] at h2
      omega
    · have h2 := sm_rest h1 fun y hy => h y (by simp [hy])
      have h3 := h z (by simp)
      rw [Int.mul_sub, Int.mul_one] at h2
      omega
theorem strd_mul {t : Int} (h : okT t = true) : strd t * t = 2520 := by
  unfold okT at h
  simp at h
  have : t = 1 ∨ t = 2 ∨ t = 3 ∨ t = 4 ∨ t = 5 ∨ t = 6 ∨ t = 7 ∨ t = 8 ∨ t = 9 ∨ t = 10 := by omega
  rcases this with rfl | rfl | rfl | rfl | rfl | rfl | rfl | rfl | rfl | rfl <;> decide
theorem fair_arith {all t c n E S B m : Int} (hE : E = 2520 * c - t * B) (hS : S = 2520 * n - all * B) (hl : -2520 ≤ E ∧ E ≤ 2520) (hs : -(2520 * (m - 1)) ≤ S - E ∧ S - E ≤ 2520 * (m - 1)) (ht : 0 ≤ t) (ha : 0 ≤ all - t) :
    c * all - n * t ≤ all + max (m - 2) 0 * t ∧ -(all + max (m - 2) 0 * t) ≤ c * all - n * t := by
  have e : 2520 * (c * all - n * t) = (all - t) * E - t * (S - E) := by
    subst hE hS
    simp only [Int.mul_sub, Int.sub_mul]
    have a1 : all * (2520 * c) = 2520 * (c * all) := by rw [Int.mul_left_comm, Int.mul_comm all c]
    have a2 : t * (2520 * n) = 2520 * (n * t) := by rw [Int.mul_left_comm, Int.mul_comm t n]
    have a3 : all * (t * B) = t * (all * B) := Int.mul_left_comm _ _ _
    rw [a1, a2, a3]
    omega
  have p1 := Int.mul_le_mul_of_nonneg_left hl.2 ha
  have p2 := Int.mul_le_mul_of_nonneg_left hl.1 ha
  have p3 := Int.mul_le_mul_of_nonneg_left hs.1 ht
  have p4 := Int.mul_le_mul_of_nonneg_left hs.2 ht
  have q : t * (m - 2) ≤ max (m - 2) 0 * t := by
    rw [Int.mul_comm t]
    exact Int.mul_le_mul_of_nonneg_right (by omega) ht
  have r : t * (2520 * (m - 1)) = 2520 * (t * (m - 2)) + 2520 * t := by
    rw [Int.mul_left_comm, show m - 1 = (m - 2) + 1 by omega, Int.mul_add t, Int.mul_one]
    omega
  have r2 : t * -(2520 * (m - 1)) = -(2520 * (t * (m - 2)) + 2520 * t) := by rw [Int.mul_neg, r]
  rw [r2] at p3
  rw [r] at p4
  generalize t * (m - 2) = u at *
  generalize max (m - 2) 0 * t = v at *
  generalize t * (S - E) = y at *
  generalize (all - t) * E = z at *
  generalize c * all - n * t = d at *
  omega
theorem fair_one {b : Int} {xs : List R3} {t : Int} (h : (picks5 b xs t).1 = 0) {x : R3} (hx : x ∈ xs) :
    ctn x.1 (picks5 b xs t).2.1 * sm (fun y => y.2.1) xs - t * x.2.1 ≤ sm (fun y => y.2.1) xs + max ((xs.length : Int) - 2) 0 * x.2.1 ∧
    -(sm (fun y => y.2.1) xs + max ((xs.length : Int) - 2) 0 * x.2.1) ≤ ctn x.1 (picks5 b xs t).2.1 * sm (fun y => y.2.1) xs - t * x.2.1 := by
  obtain ⟨hs, t0, t1⟩ := picks5_ok h
  have e : picks5 b xs t = pks5 t.toNat [] b xs := by
    unfold picks5
    rw [if_neg (by simp [hs]), if_neg (by omega)]
  rw [e] at h ⊢
  obtain ⟨a1, a2, _⟩ := pks_adv t.toNat b xs hs h
  have sf := pks5_sf t.toNat [] b xs hs h
  obtain ⟨_, k2, _, _⟩ := sf5_zero hs
  obtain ⟨_, k4, _, _⟩ := sf5_zero sf
  rw [a1] at k4 sf
  generalize (pks5 t.toNat [] b xs).2.1 = js at *
  generalize (pks5 t.toNat [] b xs).2.2.1 = b' at *
  have hE : ∀ y, y ∈ xs → (-2520 ≤ 2520 * ctn y.1 js - y.2.1 * (b' - b) ∧ 2520 * ctn y.1 js - y.2.1 * (b' - b) ≤ 2520) ∧ 1 ≤ y.2.1 := fun y hy => by
    obtain ⟨_, o2, o3, o4⟩ := okR_parts (okR_mem k2 hy)
    obtain ⟨_, _, q3, q4⟩ := okR_parts (okR_mem k4 (List.mem_map.2 ⟨y, hy, rfl⟩))
    have q3 : b' ≤ y.2.2 + ctn y.1 js * strd y.2.1 := q3
    have q4 : y.2.2 + ctn y.1 js * strd y.2.1 ≤ b' + strd y.2.1 := q4
    have ms := strd_mul o2
    unfold okT at o2
    simp at o2
    obtain ⟨w1, w2⟩ := o2
    have d1 : ctn y.1 js * strd y.2.1 - (b' - b) ≤ strd y.2.1 := by omega
    have d2 : -strd y.2.1 ≤ ctn y.1 js * strd y.2.1 - (b' - b) := by omega
    have m1 := Int.mul_le_mul_of_nonneg_left d1 (show 0 ≤ y.2.1 by omega)
    have m2 := Int.mul_le_mul_of_nonneg_left d2 (show 0 ≤ y.2.1 by omega)
    have m3 : y.2.1 * strd y.2.1 = 2520 := by rw [Int.mul_comm]; exact ms
    have m4 : y.2.1 * (ctn y.1 js * strd y.2.1) = 2520 * ctn y.1 js := by rw [Int.mul_left_comm, m3, Int.mul_comm]
    rw [Int.mul_sub, m4, m3] at m1
    rw [Int.mul_sub, m4, Int.mul_neg, m3] at m2
    omega
  have hsum : sm (fun y => 2520 * ctn y.1 js - y.2.1 * (b' - b)) xs = 2520 * t - sm (fun y => y.2.1) xs * (b' - b) := by
    have e1 : sm (fun y => 2520 * ctn y.1 js - y.2.1 * (b' - b)) xs = sm (fun y => 2520 * ctn y.1 js + -(b' - b) * y.2.1) xs := sm_congr fun y _ => by
      rw [Int.neg_mul, Int.mul_comm y.2.1]
      omega
    have e2 : sm (fun y => 2520 * ctn y.1 js + -(b' - b) * y.2.1) xs = sm (fun y => 2520 * ctn y.1 js) xs + sm (fun y => -(b' - b) * y.2.1) xs := sm_add _ _ _
    have e3 : sm (fun y => 2520 * ctn y.1 js) xs = 2520 * sm (fun y => ctn y.1 js) xs := sm_mul _ _ _
    have e4 : sm (fun y => -(b' - b) * y.2.1) xs = -(b' - b) * sm (fun y => y.2.1) xs := sm_mul _ _ _
    rw [e1, e2, e3, e4, a2, Int.neg_mul, Int.mul_comm (b' - b)]
    omega
  have up := sm_rest (f := fun y => 2520 * ctn y.1 js - y.2.1 * (b' - b)) (c := 2520) hx fun y hy => (hE y hy).1.2
  have dn := sm_rest (f := fun y => -(2520 * ctn y.1 js - y.2.1 * (b' - b))) (c := 2520) hx fun y hy => by have := (hE y hy).1.1; omega
  have dn0 : sm (fun y => -(2520 * ctn y.1 js - y.2.1 * (b' - b))) xs = -sm (fun y => 2520 * ctn y.1 js - y.2.1 * (b' - b)) xs := by
    have := sm_mul (fun y => 2520 * ctn y.1 js - y.2.1 * (b' - b)) (-1) xs
    rw [show -sm (fun y => 2520 * ctn y.1 js - y.2.1 * (b' - b)) xs = -1 * sm (fun y => 2520 * ctn y.1 js - y.2.1 * (b' - b)) xs by omega, ← this]
    exact sm_congr fun y _ => by omega
  have al := sm_rest (f := fun y => -y.2.1) (c := 0) hx fun y hy => by have := (hE y hy).2; omega
  have al0 : sm (fun y => -y.2.1) xs = -sm (fun y => y.2.1) xs := by
    have := sm_mul (fun y => y.2.1) (-1) xs
    rw [show -sm (fun y => y.2.1) xs = -1 * sm (fun y => y.2.1) xs by omega, ← this]
    exact sm_congr fun y _ => by omega
  rw [dn0] at dn
  rw [al0] at al
  refine fair_arith (E := 2520 * ctn x.1 js - x.2.1 * (b' - b)) rfl hsum (hE x hx).1 ⟨?_, up⟩ ?_ ?_
  · omega
  · have := (hE x hx).2
    omega
  · omega
theorem ctn_snoc (id j : Int) : ∀ js : List Int, ctn id (js ++ [j]) = ctn id js + (if j = id then 1 else 0)
  | [] => by show (if j = id then (1 : Int) else 0) + 0 = 0 + _; omega
  | i :: js => by
    show (if i = id then (1 : Int) else 0) + ctn id (js ++ [j]) = ((if i = id then (1 : Int) else 0) + ctn id js) + _
    rw [ctn_snoc id j js]
    omega
theorem sm_snoc (f : R3 → Int) (x : R3) : ∀ xs : List R3, sm f (xs ++ [x]) = sm f xs + f x
  | [] => by show f x + 0 = 0 + f x; omega
  | y :: xs => by
    show f y + sm f (xs ++ [x]) = (f y + sm f xs) + f x
    rw [sm_snoc f x xs]
    omega
theorem tmi_ctn (ids : List Int) (id : Int) : ∀ n, n ≤ ids.length → ((tmi ids id n : Nat) : Int) = ctn id (ids.take n)
  | 0, _ => rfl
  | n + 1, h => by
    have ih := tmi_ctn ids id n (by omega)
    have e : tmi ids id (n + 1) = tmi ids id n + (if gi ids n = id then 1 else 0) := rfl
    rw [List.take_succ_eq_append_getElem (show n < ids.length by omega), ctn_snoc, ← ih, e, gi_lt ids n (by omega)]
    by_cases e : ids[n] = id
    · rw [if_pos e, if_pos e]; omega
    · rw [if_neg e, if_neg e]; omega
theorem tka_sm (xs : List R3) : ∀ n, n ≤ xs.length → tka (fl xs) n = sm (fun y => y.2.1) (xs.take n)
  | 0, _ => rfl
  | n + 1, h => by
    have ih := tka_sm xs n (by omega)
    have g := fl_get xs n (by omega)
    have e : g3 xs n = xs[n] := by unfold g3; simp [show n < xs.length by omega]
    have e2 : tka (fl xs) (n + 1) = tka (fl xs) n + gi (fl xs) (n * 3 + 1) := rfl
    rw [List.take_succ_eq_append_getElem (show n < xs.length by omega), sm_snoc, ← ih, e2, g.2.1, e]
theorem far_none {b : Int} {xs : List R3} {t : Int} (h : (picks5 b xs t).1 = 0) {i : Nat} (hi : i < xs.length) : farAt (picks5 b xs t).2.1 (fl xs) t (tka (fl xs) xs.length) xs.length i = false := by
  have g := fl_get xs i hi
  have e : g3 xs i = xs[i] := by unfold g3; simp [hi]
  obtain ⟨f1, f2⟩ := fair_one h (x := xs[i]) (List.getElem_mem hi)
  unfold farAt far9
  rw [g.1, g.2.1, e, tmi_ctn _ _ _ (Nat.le_refl _), List.take_length, tka_sm _ _ (Nat.le_refl _), List.take_length]
  refine decide_eq_false fun hh => ?_
  omega
theorem fair9_eq (b : Int) (xs : List R3) (t : Int) : fair9 b xs t = decide ((picks5 b xs t).1 = 0) := by
  unfold fair9
  by_cases h : (picks5 b xs t).1 = 0
  · rw [if_neg (by simp [h]), decide_eq_true h]
    have e : anyf (farAt (picks5 b xs t).2.1 (fl xs) t (tka (fl xs) xs.length) xs.length) xs.length = false := by
      have all : ∀ n, n ≤ xs.length → anyf (farAt (picks5 b xs t).2.1 (fl xs) t (tka (fl xs) xs.length) xs.length) n = false := by
        intro n
        induction n with
        | zero => intro _; rfl
        | succ n ih =>
          intro hn
          unfold anyf
          rw [ih (by omega), far_none h (show n < xs.length by omega)]
          rfl
      exact all _ (Nat.le_refl _)
    rw [e]
    rfl
  · rw [if_pos h, decide_eq_false h]

end Go.Proofs.Ytckapndpefkcgaa
