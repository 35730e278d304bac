/-
  SameLibs: true where both libraries say the same: the model's, the program's. No conditions beyond that their lists can be read.
-/
import Derived.Test.YtachpoehejdpjaaLib7
import Derived.Test.YtachpoehejdpjaaSame5
import Derived.Test.YtachpoehejdpjaaSame6
namespace Go.Proofs.Ytachpoehejdpjaa
open Go.RowKit
set_option maxRecDepth 100000

/-- a thread's five numbers -/
def th5 (x : Nat → Int) (i : Nat) : Int × Int × Int × Int × Int := (x (i * 5), x (i * 5 + 1), x (i * 5 + 2), x (i * 5 + 3), x (i * 5 + 4))
theorem run_neq_thread (a b c d e a' b' c' d' e' : Int) (z : Bool) (h : (a == a' && b == b' && c == c' && d == d' && e == e') = !z) (W : World) : (binOp .neq 102 (.agg #[.int .i64 a, .int .i64 b, .int .i64 c, .int .i64 d, .int .i64 e]) (.agg #[.int .i64 a', .int .i64 b', .int .i64 c', .int .i64 d', .int .i64 e'])).run Try.prog W = .ok (.bool z) W := by
  obtain rfl : z = !(a == a' && b == b' && c == c' && d == d' && e == e') := by rw [h]; simp
  simp [go_sem]
  try grind
theorem th5_eq {x y : Nat → Int} {i : Nat} : th5 x i = th5 y i ↔ (x (i * 5) == y (i * 5) && x (i * 5 + 1) == y (i * 5 + 1) && x (i * 5 + 2) == y (i * 5 + 2) && x (i * 5 + 3) == y (i * 5 + 3) && x (i * 5 + 4) == y (i * 5 + 4)) = true := by
  unfold th5
  simp [and_assoc]
/-- a yes or a no to p -/
def SB (p : Prop) (w : World) (e : Ending) (w' : World) : Prop := ∃ z : Bool, e = .returned (.bool z) ∧ (z = true ↔ p) ∧ Below w.heap.size w w'
theorem SB.no {p : Prop} {w w' : World} (h : ¬ p) (hb : Below w.heap.size w w') : SB p w (.returned (.bool false)) w' := ⟨false, rfl, ⟨fun q => (by cases q), fun q => absurd q h⟩, hb⟩
theorem SB.yes {p : Prop} {w w' : World} (h : p) (hb : Below w.heap.size w w') : SB p w (.returned (.bool true)) w' := ⟨true, rfl, ⟨fun _ => h, fun _ => rfl⟩, hb⟩
def EqT (n n' : Nat) (x y : Nat → Int) : Prop := n = n' ∧ ∀ i, i < n → th5 x i = th5 y i
def EqL (n n' : Nat) (t t' : Nat → Int) (x x' : Nat → List Int) : Prop := n = n' ∧ ∀ i, i < n → t i = t' i ∧ x i = x' i
def EqC (n n' : Nat) (x x' : Nat → List Int) : Prop := n = n' ∧ ∀ i, i < n → x i = x' i
theorem all_lt {p : Nat → Prop} {k : Nat} (h : ∀ j, j < k → p j) (h1 : p k) : ∀ j, j < k + 1 → p j := fun j hj => by
  rcases Nat.lt_succ_iff_lt_or_eq.1 hj with h' | rfl
  · exact h j h'
  · exact h1

theorem implSameInts_any (lo hi lo' hi' : Nat) (A A' : Option Addr) (xs ys : List Int) (n n' c c' : Nat) (w : World) (hn : n * 8 ≤ 140737488351232) (ex : xs.length = n) (ey : ys.length = n')
    (h : Sl w lo hi A n (fun k => .int .i64 (gi xs k))) (h' : Sl w lo' hi' A' n' (fun k => .int .i64 (gi ys k))) :
    Calls Try.prog 63 #[.slice A n c, .slice A' n' c'] w fun e w' => e = .returned (.bool (decide (xs = ys))) ∧ Below w.heap.size w w' := by
  have C := Lib.hid (slicesEqual_any lo hi lo' hi' A A' xs ys n n' c c' w hn ex ey h h')
  clear h h' ex ey
  go_enter Try.func63, Try.ntmps63
  go_wp2_with fail
  refine C.out.mono ?_
  rintro e w' ⟨rfl, hb⟩
  have HB := Lib.hid hb
  clear hb C
  go_wp2
  go_ret
  exact ⟨rfl, HB.out⟩

set_option maxHeartbeats 2000000 in
theorem equalThread_any (lo hi lo' hi' : Nat) (A A' : Option Addr) (n n' c c' : Nat) (x y : Nat → Int) (w : World) (hn : n ≤ 1048576) (h : Sl w lo hi A (n * 5) (fun k => .int .i64 (x k))) (h' : Sl w lo' hi' A' (n' * 5) (fun k => .int .i64 (y k))) :
    Calls Try.prog 59 #[.slice A n c, .slice A' n' c'] w (SB (EqT n n' x y) w) := by
  have H := Lib.hid h.lt; have H' := Lib.hid h'.lt
  have HN := Lib.hid hn
  clear h h' hn
  by_cases hl : n = n'
  rotate_left
  · have h2 : ((n : Int) != n') = true := by simp; omega
    have h1 : ((n : Int) == n') = false := by simp; omega
    have NE := Lib.hid hl
    clear hl
    go_enter Try.func59, Try.ntmps59
    go_wp2
    go_ret
    exact SB.no (fun h => NE.out h.1) (Below.refl _ _)
  subst hl
  go_enter Try.func59, Try.ntmps59
  go_wp2
  go_loopw [13] (fun i wr => ∃ k : Nat, k ≤ n ∧ i = .int .i64 k ∧ Below w.heap.size w wr ∧ ∀ j, j < k → th5 x j = th5 y j) (fun i _ => n - (intOf i).toNat)
  case atStart => exact ⟨0, Nat.zero_le _, rfl, Below.refl _ _, fun j hj => absurd hj (by omega)⟩
  case round =>
    obtain ⟨k, hk, rfl, hb, hs⟩ := hrel
    have HB := Lib.hid hb; have HS := Lib.hid hs
    by_cases hlt : k < n
    · have wk : IntKind.i64.wrap ((k : Int) + 1) = (k : Int) + 1 := IntWalk.i64_in _ (by have := HN.out; omega)
      have HK := Lib.hid hlt
      obtain ⟨b1, o1, rfl, p1, p2, hc1⟩ := H.out.at_ (show k * 5 < n * 5 by omega)
      obtain ⟨b2, o2, rfl, p3, p4, hc2⟩ := H'.out.at_ (show k * 5 < n * 5 by omega)
      have d0 : wr.cell? ⟨b1, o1 + k * 5, none⟩ = some (.int .i64 (x (k * 5))) := (hb.cell (p := ⟨b1, o1 + (k * 5), none⟩) (by simp; omega)).trans (hc1 (k * 5) (by omega))
      have d1 : wr.cell? ⟨b1, o1 + k * 5 + 1, none⟩ = some (.int .i64 (x (k * 5 + 1))) := (hb.cell (p := ⟨b1, o1 + (k * 5 + 1), none⟩) (by simp; omega)).trans (hc1 (k * 5 + 1) (by omega))
      have d2 : wr.cell? ⟨b1, o1 + k * 5 + 2, none⟩ = some (.int .i64 (x (k * 5 + 2))) := (hb.cell (p := ⟨b1, o1 + (k * 5 + 2), none⟩) (by simp; omega)).trans (hc1 (k * 5 + 2) (by omega))
      have d3 : wr.cell? ⟨b1, o1 + k * 5 + 3, none⟩ = some (.int .i64 (x (k * 5 + 3))) := (hb.cell (p := ⟨b1, o1 + (k * 5 + 3), none⟩) (by simp; omega)).trans (hc1 (k * 5 + 3) (by omega))
      have d4 : wr.cell? ⟨b1, o1 + k * 5 + 4, none⟩ = some (.int .i64 (x (k * 5 + 4))) := (hb.cell (p := ⟨b1, o1 + (k * 5 + 4), none⟩) (by simp; omega)).trans (hc1 (k * 5 + 4) (by omega))
      have f0 : wr.cell? ⟨b2, o2 + k * 5, none⟩ = some (.int .i64 (y (k * 5))) := (hb.cell (p := ⟨b2, o2 + (k * 5), none⟩) (by simp; omega)).trans (hc2 (k * 5) (by omega))
      have f1 : wr.cell? ⟨b2, o2 + k * 5 + 1, none⟩ = some (.int .i64 (y (k * 5 + 1))) := (hb.cell (p := ⟨b2, o2 + (k * 5 + 1), none⟩) (by simp; omega)).trans (hc2 (k * 5 + 1) (by omega))
      have f2 : wr.cell? ⟨b2, o2 + k * 5 + 2, none⟩ = some (.int .i64 (y (k * 5 + 2))) := (hb.cell (p := ⟨b2, o2 + (k * 5 + 2), none⟩) (by simp; omega)).trans (hc2 (k * 5 + 2) (by omega))
      have f3 : wr.cell? ⟨b2, o2 + k * 5 + 3, none⟩ = some (.int .i64 (y (k * 5 + 3))) := (hb.cell (p := ⟨b2, o2 + (k * 5 + 3), none⟩) (by simp; omega)).trans (hc2 (k * 5 + 3) (by omega))
      have f4 : wr.cell? ⟨b2, o2 + k * 5 + 4, none⟩ = some (.int .i64 (y (k * 5 + 4))) := (hb.cell (p := ⟨b2, o2 + (k * 5 + 4), none⟩) (by simp; omega)).trans (hc2 (k * 5 + 4) (by omega))
      clear hb hs hc1 hc2 p1 p2 p3 p4 H H'
      cases hz : (x (k * 5) == y (k * 5) && x (k * 5 + 1) == y (k * 5 + 1) && x (k * 5 + 2) == y (k * 5 + 2) && x (k * 5 + 3) == y (k * 5 + 3) && x (k * 5 + 4) == y (k * 5 + 4))
      · have nz := run_neq_thread (x (k * 5)) (x (k * 5 + 1)) (x (k * 5 + 2)) (x (k * 5 + 3)) (x (k * 5 + 4)) (y (k * 5)) (y (k * 5 + 1)) (y (k * 5 + 2)) (y (k * 5 + 3)) (y (k * 5 + 4)) true hz
        have NE : Hid (¬ (EqT n n x y)) := fun h => by
          have := th5_eq.1 (h.2 k HK.out)
          rw [hz] at this
          cases this
        clear hz
        go_upto_region 6 with (fail)
        go_quiet (fail)
        go_wp2
        go_ret
        exact SB.no NE.out (below_drewN HB.out _)
      · have nz := run_neq_thread (x (k * 5)) (x (k * 5 + 1)) (x (k * 5 + 2)) (x (k * 5 + 3)) (x (k * 5 + 4)) (y (k * 5)) (y (k * 5 + 1)) (y (k * 5 + 2)) (y (k * 5 + 3)) (y (k * 5 + 4)) false hz
        have GO : Hid (∀ j, j < k + 1 → th5 x j = th5 y j) := all_lt HS.out (th5_eq.2 hz)
        clear hz
        go_upto_region 6 with (fail)
        go_quiet (fail)
        go_wp2
        go_roundw
        case rel => exact ⟨k + 1, by omega, by rfl, below_drewN HB.out _, GO.out⟩
        case measure => simp [intOf]; omega
    · obtain rfl : k = n := by omega
      clear hb hs
      go_wp2
      go_ret
      exact SB.yes ⟨rfl, HS.out⟩ HB.out

set_option maxHeartbeats 2000000 in
theorem equalLocks_any (lo hi lo' hi' : Nat) (A A' : Option Addr) (n n' c c' : Nat) (t t' : Nat → Int) (B B' : Nat → Option Addr) (d d' : Nat → Nat) (x x' : Nat → List Int) (w : World) (hn : n ≤ 1048576) (hm : ∀ i, i < n → (x i).length ≤ 1048576) (h : LL w lo hi A n t B (fun i => (x i).length) d (fun i k => gi (x i) k)) (h' : LL w lo' hi' A' n' t' B' (fun i => (x' i).length) d' (fun i k => gi (x' i) k)) :
    Calls Try.prog 60 #[.slice A n c, .slice A' n' c', .func (.func 61) #[] #[]] w (SB (EqL n n' t t' x x') w) := by
  have H := Lib.hid h.lt; have H' := Lib.hid h'.lt
  have HN := Lib.hid hn; have HM := Lib.hid hm
  clear h h' hn hm
  by_cases hl : n = n'
  rotate_left
  · have h2 : ((n : Int) != n') = true := by simp; omega
    have h1 : ((n : Int) == n') = false := by simp; omega
    have NE := Lib.hid hl
    clear hl
    go_enter Try.func60, Try.ntmps60
    go_wp2
    go_ret
    exact SB.no (fun h => NE.out h.1) (Below.refl _ _)
  subst hl
  go_enter Try.func60, Try.ntmps60
  go_wp2
  go_loopw [17] (fun i wr => ∃ k : Nat, k ≤ n ∧ i = .int .i64 k ∧ Below w.heap.size w wr ∧ ∀ j, j < k → t j = t' j ∧ x j = x' j) (fun i _ => n - (intOf i).toNat)
  case atStart => exact ⟨0, Nat.zero_le _, rfl, Below.refl _ _, fun j hj => absurd hj (by omega)⟩
  case round =>
    obtain ⟨k, hk, rfl, hb, hs⟩ := hrel
    have HB := Lib.hid hb; have HS := Lib.hid hs
    by_cases hlt : k < n
    · have wk : IntKind.i64.wrap ((k : Int) + 1) = (k : Int) + 1 := IntWalk.i64_in _ (by have := HN.out; omega)
      have HK := Lib.hid hlt
      obtain ⟨b1, o1, rfl, p1, p2, hc1⟩ := H.out.at_ hlt
      obtain ⟨b2, o2, rfl, p3, p4, hc2⟩ := H'.out.at_ hlt
      have d0 : wr.cell? ⟨b1, o1 + k * 2, none⟩ = some (.int .i64 (t k)) := (hb.cell (p := ⟨b1, o1 + k * 2, none⟩) (by simp; omega)).trans (hc1 k hlt).1
      have d1 : wr.cell? ⟨b1, o1 + k * 2 + 1, none⟩ = some (.slice (B k) (x k).length (d k)) := (hb.cell (p := ⟨b1, o1 + k * 2 + 1, none⟩) (by simp; omega)).trans (hc1 k hlt).2
      have f0 : ∀ ob, (wr.alloc ob).cell? ⟨b2, o2 + k * 2, none⟩ = some (.int .i64 (t' k)) := fun ob => ((hb.alloc hb.size ob).cell (p := ⟨b2, o2 + k * 2, none⟩) (by simp; omega)).trans (hc2 k hlt).1
      have f1 : ∀ ob, (wr.alloc ob).cell? ⟨b2, o2 + k * 2 + 1, none⟩ = some (.slice (B' k) (x' k).length (d' k)) := fun ob => ((hb.alloc hb.size ob).cell (p := ⟨b2, o2 + k * 2 + 1, none⟩) (by simp; omega)).trans (hc2 k hlt).2
      have B2 : Hid (∀ ob ob', Below w.heap.size w ((wr.alloc ob).alloc ob')) := fun ob ob' => (hb.alloc hb.size ob).alloc (by have := hb.size; simp; omega) ob'
      have SL : Hid (∀ W, Below w.heap.size w W → Calls Try.prog 61 #[.agg #[.int .i64 (t k), .slice (B k) (x k).length (d k)], .agg #[.int .i64 (t' k), .slice (B' k) (x' k).length (d' k)]] W fun e w' => e = .returned (.bool (decide (t k = t' k ∧ x k = x' k))) ∧ Below W.heap.size W w') := fun W hW =>
        implSameLocks_any lo (min hi w.heap.size) lo' (min hi' w.heap.size) (B k) (B' k) (x k).length (d k) (x' k).length (d' k) (t k) (t' k) (x k) (x' k) W (by have := HM.out k hlt; omega) rfl rfl ((H.out.qs k hlt).below hW (by omega)) ((H'.out.qs k hlt).below hW (by omega))
      clear hb hs hc1 hc2 p1 p2 p3 p4 H H'
      go_wp2_with fail
      refine (SL.out _ (B2.out _ _)).mono ?_
      rintro e w2 ⟨rfl, hb2⟩
      have R2 := Lib.hid ((B2.out _ _).trans (hb2.mono (by have := (B2.out (.cells #[] 0) (.cells #[] 0)).size; simp at this ⊢; omega)))
      clear hb2 SL f0 f1 d0 d1
      cases hz : decide (t k = t' k ∧ x k = x' k)
      · have NE : Hid (¬ (EqL n n t t' x x')) := fun h => by
          have := decide_eq_true (h.2 k HK.out)
          rw [hz] at this
          cases this
        clear hz
        go_wp2
        go_ret
        exact SB.no NE.out (R2.out)
      · have GO : Hid (∀ j, j < k + 1 → t j = t' j ∧ x j = x' j) := all_lt HS.out (of_decide_eq_true hz)
        clear hz
        go_wp2
        go_roundw
        case rel => exact ⟨k + 1, by omega, by rfl, R2.out, GO.out⟩
        case measure => simp [intOf]; omega
    · obtain rfl : k = n := by omega
      clear hb hs
      go_wp2
      go_ret
      exact SB.yes ⟨rfl, HS.out⟩ HB.out

set_option maxHeartbeats 2000000 in
theorem equalConds_any (lo hi lo' hi' : Nat) (A A' : Option Addr) (n n' c c' : Nat) (B B' : Nat → Option Addr) (d d' : Nat → Nat) (x x' : Nat → List Int) (w : World) (hn : n ≤ 1048576) (hm : ∀ i, i < n → (x i).length ≤ 1048576) (h : CL w lo hi A n B (fun i => (x i).length) d (fun i k => gi (x i) k)) (h' : CL w lo' hi' A' n' B' (fun i => (x' i).length) d' (fun i k => gi (x' i) k)) :
    Calls Try.prog 62 #[.slice A n c, .slice A' n' c', .func (.func 63) #[] #[]] w (SB (EqC n n' x x') w) := by
  have H := Lib.hid h.lt; have H' := Lib.hid h'.lt
  have HN := Lib.hid hn; have HM := Lib.hid hm
  clear h h' hn hm
  by_cases hl : n = n'
  rotate_left
  · have h2 : ((n : Int) != n') = true := by simp; omega
    have h1 : ((n : Int) == n') = false := by simp; omega
    have NE := Lib.hid hl
    clear hl
    go_enter Try.func62, Try.ntmps62
    go_wp2
    go_ret
    exact SB.no (fun h => NE.out h.1) (Below.refl _ _)
  subst hl
  go_enter Try.func62, Try.ntmps62
  go_wp2
  go_loopw [17] (fun i wr => ∃ k : Nat, k ≤ n ∧ i = .int .i64 k ∧ Below w.heap.size w wr ∧ ∀ j, j < k → x j = x' j) (fun i _ => n - (intOf i).toNat)
  case atStart => exact ⟨0, Nat.zero_le _, rfl, Below.refl _ _, fun j hj => absurd hj (by omega)⟩
  case round =>
    obtain ⟨k, hk, rfl, hb, hs⟩ := hrel
    have HB := Lib.hid hb; have HS := Lib.hid hs
    by_cases hlt : k < n
    · have wk : IntKind.i64.wrap ((k : Int) + 1) = (k : Int) + 1 := IntWalk.i64_in _ (by have := HN.out; omega)
      have HK := Lib.hid hlt
      obtain ⟨b1, o1, rfl, p1, p2, hc1⟩ := H.out.at_ hlt
      obtain ⟨b2, o2, rfl, p3, p4, hc2⟩ := H'.out.at_ hlt
      have d0 : wr.cell? ⟨b1, o1 + k, none⟩ = some (.slice (B k) (x k).length (d k)) := (hb.cell (p := ⟨b1, o1 + k, none⟩) (by simp; omega)).trans (hc1 k hlt)
      have f0 : wr.cell? ⟨b2, o2 + k, none⟩ = some (.slice (B' k) (x' k).length (d' k)) := (hb.cell (p := ⟨b2, o2 + k, none⟩) (by simp; omega)).trans (hc2 k hlt)
      have SL := Lib.hid (implSameInts_any lo (min hi w.heap.size) lo' (min hi' w.heap.size) (B k) (B' k) (x k) (x' k) (x k).length (x' k).length (d k) (d' k) wr (by have := HM.out k hlt; omega) rfl rfl ((H.out.qs k hlt).below hb (by omega)) ((H'.out.qs k hlt).below hb (by omega)))
      clear hb hs hc1 hc2 p1 p2 p3 p4 H H'
      go_wp2_with fail
      refine SL.out.mono ?_
      rintro e w2 ⟨rfl, hb2⟩
      have R2 := Lib.hid (HB.out.trans (hb2.mono HB.out.size))
      clear hb2 SL f0 d0
      cases hz : decide (x k = x' k)
      · have NE : Hid (¬ (EqC n n x x')) := fun h => by
          have := decide_eq_true (h.2 k HK.out)
          rw [hz] at this
          cases this
        clear hz
        go_wp2
        go_ret
        exact SB.no NE.out (R2.out)
      · have GO : Hid (∀ j, j < k + 1 → x j = x' j) := all_lt HS.out (of_decide_eq_true hz)
        clear hz
        go_wp2
        go_roundw
        case rel => exact ⟨k + 1, by omega, by rfl, R2.out, GO.out⟩
        case measure => simp [intOf]; omega
    · obtain rfl : k = n := by omega
      clear hb hs
      go_wp2
      go_ret
      exact SB.yes ⟨rfl, HS.out⟩ HB.out

end Go.Proofs.Ytachpoehejdpjaa
