/-
  PlansFault: the model's and the program's. No conditions beyond that the lists can be read.
-/
import Derived.Test.YtachpoehejdpjaaPl7
namespace Go.Proofs.Ytachpoehejdpjaa
open Go.RowKit
set_option maxRecDepth 100000

def okT7 (t : Int) : Bool := decide (1 ≤ t) && decide (t ≤ 10)
/-- the first one of n numbers from i on that is not zero -/
def ff7 (f : Nat → Int) : Nat → Nat → Int
  | _, 0 => 0
  | i, n + 1 => if f i ≠ 0 then f i else ff7 f (i + 1) n
theorem ff7_stop (f : Nat → Int) (k : Nat) : ∀ (n i : Nat), (∀ j, i ≤ j → j < k → f j = 0) → i ≤ k → k < i + n → f k ≠ 0 → ff7 f i n = f k := by
  intro n
  induction n with
  | zero => intro i _ h1 h2; omega
  | succ n ih =>
    intro i h0 h1 h2 hk
    unfold ff7
    by_cases e : i = k
    · subst e; rw [if_pos hk]
    · rw [if_neg (by rw [h0 i (Nat.le_refl _) (by omega)]; simp)]
      exact ih (i + 1) (fun j hj hjk => h0 j (by omega) hjk) (by omega) (by omega) hk
theorem ff7_none (f : Nat → Int) : ∀ (n i : Nat), (∀ j, i ≤ j → j < i + n → f j = 0) → ff7 f i n = 0 := by
  intro n
  induction n with
  | zero => intro i _; rfl
  | succ n ih =>
    intro i h0
    unfold ff7
    rw [if_neg (by rw [h0 i (Nat.le_refl _) (by omega)]; simp)]
    exact ih (i + 1) (fun j hj hjk => h0 j (by omega) (by omega))
def o7 (x : Nat → Int) (j : Nat) : Int := of7 (x (j * 3)) (x (j * 3 + 1)) (x (j * 3 + 2))
/-- the fault of a plan -/
def pf7 (t : Int) (m : Nat) (x : Nat → Int) : Int := if okT7 t = false then 3 else if 8 < m then 2 else ff7 (o7 x) 0 m
/-- the fault of plans -/
def pls7 (n : Nat) (t : Nat → Int) (m : Nat → Nat) (x : Nat → Nat → Int) : Int := if n < 1 ∨ 5 < n then 2 else ff7 (fun i => pf7 (t i) (m i) (x i)) 0 n

theorem areTickets7_any (i : Int) (w : World) : Calls Try.prog 68 #[.int .i64 i] w fun e w' => e = .returned (.bool (okT7 i)) ∧ w = w' := by
  by_cases h : 1 ≤ i
  · by_cases h2 : i ≤ 10
    · go_enter Try.func68, Try.ntmps68
      go_wp2
      go_ret
      exact ⟨ret_bool (by simp [okT7, h, h2]), rfl⟩
    · go_enter Try.func68, Try.ntmps68
      go_wp2
      go_ret
      exact ⟨ret_bool (by simp [okT7, h, h2]), rfl⟩
  · go_enter Try.func68, Try.ntmps68
    go_wp2
    go_ret
    exact ⟨ret_bool (by simp [okT7]; omega), rfl⟩
theorem l5Tickets7_any (i : Int) (w : World) : Calls Try.prog 66 #[.int .i64 i] w fun e w' => e = .returned (.bool (okT7 i)) ∧ w = w' := by
  go_enter Try.func66, Try.ntmps66
  go_wp2_with fail
  refine (l1In_any i 1 10 _).mono ?_
  rintro e w' ⟨rfl, rfl⟩
  go_wp2
  go_ret
  exact ⟨ret_bool (by
    by_cases h : 1 ≤ i ∧ i ≤ 10
    · rw [inR_true h]; unfold okT7; simp; omega
    · rw [inR_false h]; unfold okT7; simp; omega), rfl⟩

/-- a round of the loops over ops: all ahead are in order -/
def OpR (w : World) (m : Nat) (x : Nat → Int) (i : Value) (wr : World) : Prop := ∃ k : Nat, k ≤ m ∧ i = .int .i64 k ∧ (∀ j, j < k → o7 x j = 0) ∧ Below w.heap.size w wr

set_option maxHeartbeats 1000000 in
theorem l7Plan_any (lo hi b off : Nat) (B : Option Addr) (m d : Nat) (t : Int) (x : Nat → Int) (w : World) (hb0 : b < w.heap.size) (c0 : w.cell? ⟨b, off, none⟩ = some (.int .i64 t)) (c1 : w.cell? ⟨b, off + 1, none⟩ = some (.slice B m d)) (hm : m ≤ 1048576) (h : Sl w lo hi B (m * 3) (fun k => .int .i64 (x k))) :
    Calls Try.prog 29 #[.pointer (some ⟨b, off, none⟩)] w fun e w' => e = .returned (.int .i64 (pf7 t m x)) ∧ Below w.heap.size w w' := by
  obtain ⟨w1, hw1⟩ : ∃ w1, w1 = w := ⟨_, rfl⟩
  have H : Hid (Sl w1 lo (min hi w1.heap.size) B (m * 3) (fun k => .int .i64 (x k))) := by show Sl _ _ _ _ _ _; rw [hw1]; exact h.lt
  have HM := Lib.hid hm
  have KS : Hid (∀ W, Below w1.heap.size w1 W → W.cell? ⟨b, off, none⟩ = some (.int .i64 t) ∧ W.cell? ⟨b, off + 1, none⟩ = some (.slice B m d)) := fun W hW => by
    rw [hw1] at hW
    exact ⟨(hW.cell (p := ⟨b, off, none⟩) hb0).trans c0, (hW.cell (p := ⟨b, off + 1, none⟩) hb0).trans c1⟩
  have FIN : Hid (∀ W, Below w1.heap.size w1 W → Below w.heap.size w W) := fun W hW => by rw [hw1] at hW; exact hW
  obtain ⟨z, hz⟩ : ∃ z, okT7 t = z := ⟨_, rfl⟩
  have LT : Hid (∀ W, Calls Try.prog 66 #[.int .i64 t] W fun e w' => e = .returned (.bool z) ∧ W = w') := fun W => by have := l5Tickets7_any t W; rw [hz] at this; exact this
  subst hw1
  clear h hm c0 c1
  obtain ⟨r0, r1⟩ := KS.out _ (Below.refl _ _)
  cases z with
  | false =>
    have v : pf7 t m x = 3 := if_pos hz
    rw [v]
    clear v hz
    go_enter Try.func29, Try.ntmps29
    go_wp2_with (go_at_call 66; refine (LT.out _).mono ?_; rintro e w' ⟨rfl, rfl⟩)
    go_ret
    exact ⟨rfl, Below.refl _ _⟩
  | true =>
  have HO := Lib.hid hz
  clear hz
  by_cases h8 : 8 < m
  · have v : pf7 t m x = 2 := by unfold pf7; rw [if_neg (by rw [HO.out]; simp), if_pos h8]
    have h8' : (8 : Int) < (m : Int) := by omega
    rw [v]
    clear v h8
    go_enter Try.func29, Try.ntmps29
    go_wp2_with (go_at_call 66; refine (LT.out _).mono ?_; rintro e w' ⟨rfl, rfl⟩)
    go_ret
    exact ⟨rfl, Below.refl _ _⟩
  have H8 := Lib.hid h8
  have h8' : ¬ (8 : Int) < (m : Int) := by omega
  clear h8
  go_enter Try.func29, Try.ntmps29
  go_wp2_with (go_at_call 66; refine (LT.out _).mono ?_; rintro e w' ⟨rfl, rfl⟩)
  clear r0 r1
  go_loopw [3] (fun i wr => OpR w1 m x i wr) (fun i _ => m - (intOf i).toNat)
  case atStart => exact ⟨0, Nat.zero_le _, rfl, fun j hj => absurd hj (Nat.not_lt_zero _), Below.refl _ _⟩
  case round =>
    obtain ⟨k, hk, rfl, hs, hb⟩ := hrel
    obtain ⟨r0, r1⟩ := KS.out wr hb
    by_cases hlt : k < m
    · have wk : IntKind.i64.wrap ((k : Int) + 1) = (k : Int) + 1 := IntWalk.i64_in _ (by have := HM.out; omega)
      obtain ⟨b', off', rfl, h1', h2', hc'⟩ := H.out.at_ (show k * 3 < m * 3 by omega)
      have p0 : wr.cell? ⟨b', off' + k * 3, none⟩ = some (.int .i64 (x (k * 3))) := (hb.cell (p := ⟨b', off' + (k * 3), none⟩) (by simp; omega)).trans (hc' (k * 3) (by omega))
      have p1 : wr.cell? ⟨b', off' + k * 3 + 1, none⟩ = some (.int .i64 (x (k * 3 + 1))) := (hb.cell (p := ⟨b', off' + (k * 3 + 1), none⟩) (by simp; omega)).trans (hc' (k * 3 + 1) (by omega))
      have p2 : wr.cell? ⟨b', off' + k * 3 + 2, none⟩ = some (.int .i64 (x (k * 3 + 2))) := (hb.cell (p := ⟨b', off' + (k * 3 + 2), none⟩) (by simp; omega)).trans (hc' (k * 3 + 2) (by omega))
      have HB := Lib.hid hb
      have HS := Lib.hid hs
      have HL := Lib.hid hlt
      clear hc' hb hs H
      go_wp2_with fail
      refine (specOpFault_any _ _ _ _).mono ?_
      rintro e w2 ⟨rfl, hb2⟩
      rw [show of7 (x (k * 3)) (x (k * 3 + 1)) (x (k * 3 + 2)) = o7 x k from rfl]
      have HB2 := Lib.hid (HB.out.trans (Below.mono hb2 HB.out.size))
      clear hb2 p0 p1 p2
      by_cases hz : o7 x k = 0
      · rw [hz]
        have HZ := Lib.hid hz
        clear hz
        go_wp2
        go_roundw
        case rel =>
          refine ⟨k + 1, by omega, by rfl, fun j hj => ?_, HB2.out⟩
          rcases Nat.lt_succ_iff_lt_or_eq.1 hj with h' | h'
          · exact HS.out j h'
          · subst h'; exact HZ.out
        case measure => simp [intOf]; omega
      · have hz' : (o7 x k != 0) = true := by simp [hz]
        have v : pf7 t m x = o7 x k := by
          unfold pf7
          rw [if_neg (by rw [HO.out]; simp), if_neg (by have := H8.out; omega)]
          exact ff7_stop (o7 x) k m 0 (fun j _ hj => HS.out j hj) (Nat.zero_le _) (by have := HL.out; omega) hz
        have V := Lib.hid v.symm
        obtain ⟨q, hq⟩ : ∃ q, q = o7 x k := ⟨_, rfl⟩
        rw [← hq] at hz' V ⊢
        clear hz v hq
        go_wp2
        go_ret
        exact ⟨ret_int7 V.out, FIN.out _ HB2.out⟩
    · have v : pf7 t m x = 0 := by
        unfold pf7
        rw [if_neg (by rw [HO.out]; simp), if_neg (by have := H8.out; omega)]
        exact ff7_none (o7 x) m 0 (fun j _ hj => hs j (by omega))
      have V := Lib.hid v.symm
      have HB := Lib.hid hb
      clear v hs hb
      go_wp2
      go_ret
      exact ⟨ret_int7 V.out, FIN.out _ HB.out⟩

set_option maxHeartbeats 1000000 in
theorem planFault_any (lo hi : Nat) (B : Option Addr) (m d : Nat) (t : Int) (x : Nat → Int) (w : World) (hm : m ≤ 1048576) (h : Sl w lo hi B (m * 3) (fun k => .int .i64 (x k))) :
    Calls Try.prog 31 #[.agg #[.int .i64 t, .slice B m d]] w fun e w' => e = .returned (.int .i64 (pf7 t m x)) ∧ Below w.heap.size w w' := by
  obtain ⟨w1, hw1⟩ : ∃ w1, w1 = w.alloc (.cells #[.int .i64 t, .slice B m d] 76) := ⟨_, rfl⟩
  have k1 : w1.heap[w.heap.size]? = some (.cells #[.int .i64 t, .slice B m d] 76 (0, 0)) := by rw [hw1]; exact heap_alloc_new w _
  have B1 : Hid (Below w.heap.size w w1) := by rw [hw1]; exact below_new w _
  have Z1 : Hid (w1.heap.size = w.heap.size + 1) := by show _ = _; rw [hw1]; simp
  have H : Hid (Sl w1 lo (min hi w.heap.size) B (m * 3) (fun k => .int .i64 (x k))) := h.lt.below B1.out (Nat.min_le_right _ _)
  have HM := Lib.hid hm
  have KS : Hid (∀ W, Below w1.heap.size w1 W → W.cell? ⟨w.heap.size, 0, none⟩ = some (.int .i64 t) ∧ W.cell? ⟨w.heap.size, 1, none⟩ = some (.slice B m d)) := fun W hW => by
    have j := (hW.block w.heap.size (by have := Z1.out; omega)).trans k1
    exact ⟨cell_of_row W _ 0 _ _ _ j, cell_of_row W _ 1 _ _ _ j⟩
  have FIN : Hid (∀ W, Below w1.heap.size w1 W → Below w.heap.size w W) := fun W hW => B1.out.trans (hW.mono (by have := Z1.out; omega))
  have HW1 := Lib.hid hw1
  obtain ⟨z, hz⟩ : ∃ z, okT7 t = z := ⟨_, rfl⟩
  have LT : Hid (∀ W, Calls Try.prog 68 #[.int .i64 t] W fun e w' => e = .returned (.bool z) ∧ W = w') := fun W => by have := areTickets7_any t W; rw [hz] at this; exact this
  clear h hm k1 hw1
  obtain ⟨r0, r1⟩ := KS.out w1 (Below.refl _ _)
  cases z with
  | false =>
    have v : pf7 t m x = 3 := if_pos hz
    rw [v]
    clear v hz
    go_enter Try.func31, Try.ntmps31
    go_upto_region 1 with (fail)
    rw [← HW1.out]
    go_wp2_with (go_at_call 68; refine (LT.out _).mono ?_; rintro e w' ⟨rfl, rfl⟩)
    go_ret
    exact ⟨rfl, FIN.out _ (Below.refl _ _)⟩
  | true =>
  have HO := Lib.hid hz
  clear hz
  by_cases h8 : 8 < m
  · have v : pf7 t m x = 2 := by unfold pf7; rw [if_neg (by rw [HO.out]; simp), if_pos h8]
    have h8' : (8 : Int) < (m : Int) := by omega
    rw [v]
    clear v h8
    go_enter Try.func31, Try.ntmps31
    go_upto_region 1 with (fail)
    rw [← HW1.out]
    go_wp2_with (go_at_call 68; refine (LT.out _).mono ?_; rintro e w' ⟨rfl, rfl⟩)
    go_ret
    exact ⟨rfl, FIN.out _ (Below.refl _ _)⟩
  have H8 := Lib.hid h8
  have h8' : ¬ (8 : Int) < (m : Int) := by omega
  clear h8
  go_enter Try.func31, Try.ntmps31
  go_upto_region 1 with (fail)
  rw [← HW1.out]
  go_wp2_with (go_at_call 68; refine (LT.out _).mono ?_; rintro e w' ⟨rfl, rfl⟩)
  clear r0 r1 HW1
  go_loopw [17] (fun i wr => OpR w1 m x i wr) (fun i _ => m - (intOf i).toNat)
  case atStart => exact ⟨0, Nat.zero_le _, rfl, fun j hj => absurd hj (Nat.not_lt_zero _), Below.refl _ _⟩
  case round =>
    obtain ⟨k, hk, rfl, hs, hb⟩ := hrel
    have hz1 := Z1.out
    by_cases hlt : k < m
    · have wk : IntKind.i64.wrap ((k : Int) + 1) = (k : Int) + 1 := IntWalk.i64_in _ (by have := HM.out; omega)
      obtain ⟨b', off', rfl, h1', h2', hc'⟩ := H.out.at_ (show k * 3 < m * 3 by omega)
      have p0 : wr.cell? ⟨b', off' + k * 3, none⟩ = some (.int .i64 (x (k * 3))) := (hb.cell (p := ⟨b', off' + (k * 3), none⟩) (by simp; omega)).trans (hc' (k * 3) (by omega))
      have p1 : wr.cell? ⟨b', off' + k * 3 + 1, none⟩ = some (.int .i64 (x (k * 3 + 1))) := (hb.cell (p := ⟨b', off' + (k * 3 + 1), none⟩) (by simp; omega)).trans (hc' (k * 3 + 1) (by omega))
      have p2 : wr.cell? ⟨b', off' + k * 3 + 2, none⟩ = some (.int .i64 (x (k * 3 + 2))) := (hb.cell (p := ⟨b', off' + (k * 3 + 2), none⟩) (by simp; omega)).trans (hc' (k * 3 + 2) (by omega))
      have HB := Lib.hid hb
      have HS := Lib.hid hs
      have HL := Lib.hid hlt
      clear hc' hb hs H
      go_wp2_with fail
      refine (implOpFault_any _ _ _ _).mono ?_
      rintro e w2 ⟨rfl, hb2⟩
      rw [show of7 (x (k * 3)) (x (k * 3 + 1)) (x (k * 3 + 2)) = o7 x k from rfl]
      have HB2 := Lib.hid (HB.out.trans (Below.mono ((below_new wr _).trans (hb2.mono (by simp))) HB.out.size))
      clear hb2 p0 p1 p2
      by_cases hz : o7 x k = 0
      · rw [hz]
        have HZ := Lib.hid hz
        clear hz
        go_wp2
        go_roundw
        case rel =>
          refine ⟨k + 1, by omega, by rfl, fun j hj => ?_, HB2.out⟩
          rcases Nat.lt_succ_iff_lt_or_eq.1 hj with h' | h'
          · exact HS.out j h'
          · subst h'; exact HZ.out
        case measure => simp [intOf]; omega
      · have hz' : (o7 x k != 0) = true := by simp [hz]
        have v : pf7 t m x = o7 x k := by
          unfold pf7
          rw [if_neg (by rw [HO.out]; simp), if_neg (by have := H8.out; omega)]
          exact ff7_stop (o7 x) k m 0 (fun j _ hj => HS.out j hj) (Nat.zero_le _) (by have := HL.out; omega) hz
        have V := Lib.hid v.symm
        obtain ⟨q, hq⟩ : ∃ q, q = o7 x k := ⟨_, rfl⟩
        rw [← hq] at hz' V ⊢
        clear hz v hq
        go_wp2
        go_ret
        exact ⟨ret_int7 V.out, FIN.out _ HB2.out⟩
    · have v : pf7 t m x = 0 := by
        unfold pf7
        rw [if_neg (by rw [HO.out]; simp), if_neg (by have := H8.out; omega)]
        exact ff7_none (o7 x) m 0 (fun j _ hj => hs j (by omega))
      have V := Lib.hid v.symm
      have HB := Lib.hid hb
      clear v hs hb
      go_wp2
      go_ret
      exact ⟨ret_int7 V.out, FIN.out _ HB.out⟩

/-- a round of the loops over plans -/
def PlR (w : World) (n : Nat) (t : Nat → Int) (m : Nat → Nat) (x : Nat → Nat → Int) (i : Value) (wr : World) : Prop := ∃ k : Nat, k ≤ n ∧ i = .int .i64 k ∧ (∀ j, j < k → pf7 (t j) (m j) (x j) = 0) ∧ Below w.heap.size w wr

set_option maxHeartbeats 1000000 in
theorem specPlansFault_any (lo hi : Nat) (A : Option Addr) (n c : Nat) (t : Nat → Int) (B : Nat → Option Addr) (m d : Nat → Nat) (x : Nat → Nat → Int) (w : World) (hn : n ≤ 1048576) (hm : ∀ i, i < n → m i ≤ 1048576) (h : PL w lo hi A n t B m d x) :
    Calls Try.prog 11 #[.slice A n c] w fun e w' => e = .returned (.int .i64 (pls7 n t m x)) ∧ Below w.heap.size w w' := by
  have H := Lib.hid h.lt
  have HM := Lib.hid hm
  clear h hm
  by_cases h1 : n < 1
  · have v : pls7 n t m x = 2 := if_pos (.inl h1)
    have h1' : (n : Int) < 1 := by omega
    rw [v]
    clear v
    go_enter Try.func11, Try.ntmps11
    go_wp2
    go_ret
    exact ⟨rfl, Below.refl _ _⟩
  by_cases h2 : 5 < n
  · have v : pls7 n t m x = 2 := if_pos (.inr h2)
    have h1' : ¬ (n : Int) < 1 := by omega
    have h2' : (5 : Int) < (n : Int) := by omega
    rw [v]
    clear v
    go_enter Try.func11, Try.ntmps11
    go_wp2
    go_ret
    exact ⟨rfl, Below.refl _ _⟩
  have H5 := Lib.hid (show 1 ≤ n ∧ n ≤ 5 by omega)
  have h1' : ¬ (n : Int) < 1 := by omega
  have h2' : ¬ (5 : Int) < (n : Int) := by omega
  clear h1 h2 hn
  go_enter Try.func11, Try.ntmps11
  go_wp2_with fail
  go_loopw [3] (fun i wr => PlR w n t m x i wr) (fun i _ => n - (intOf i).toNat)
  case atStart => exact ⟨0, Nat.zero_le _, rfl, fun j hj => absurd hj (Nat.not_lt_zero _), Below.refl _ _⟩
  case round =>
    obtain ⟨k, hk, rfl, hs, hb⟩ := hrel
    by_cases hlt : k < n
    · have wk : IntKind.i64.wrap ((k : Int) + 1) = (k : Int) + 1 := IntWalk.i64_in _ (by have := H5.out; omega)
      obtain ⟨b, off, rfl, h1, h2, hc⟩ := H.out.at_ hlt
      obtain ⟨p0, p1⟩ := hc k hlt
      have c0 : wr.cell? ⟨b, off + k * 2, none⟩ = _ := (hb.cell (p := ⟨b, off + k * 2, none⟩) (by simp; omega)).trans p0
      have c1 : wr.cell? ⟨b, off + k * 2 + 1, none⟩ = _ := (hb.cell (p := ⟨b, off + k * 2 + 1, none⟩) (by simp; omega)).trans p1
      have HB := Lib.hid hb
      have HS := Lib.hid hs
      have HL := Lib.hid hlt
      have CP := Lib.hid (l7Plan_any lo (min hi w.heap.size) b (off + k * 2) (B k) (m k) (d k) (t k) (x k) wr (by have := HB.out.size; omega) c0 c1 (HM.out k hlt) ((H.out.ops k hlt).below HB.out (by omega)))
      clear hc p0 p1 hb hs H
      go_wp2_with fail
      refine (CP.out ).mono ?_
      rintro e w2 ⟨rfl, hb2⟩
      have HB2 := Lib.hid (HB.out.trans (Below.mono hb2 HB.out.size))
      clear hb2 c0 c1 CP
      by_cases hz : pf7 (t k) (m k) (x k) = 0
      · rw [hz]
        have HZ := Lib.hid hz
        clear hz
        go_wp2
        go_roundw
        case rel =>
          refine ⟨k + 1, by omega, by rfl, fun j hj => ?_, HB2.out⟩
          rcases Nat.lt_succ_iff_lt_or_eq.1 hj with h' | h'
          · exact HS.out j h'
          · subst h'; exact HZ.out
        case measure => simp [intOf]; omega
      · have hz' : (pf7 (t k) (m k) (x k) != 0) = true := by simp [hz]
        have v : pls7 n t m x = pf7 (t k) (m k) (x k) := by
          unfold pls7
          rw [if_neg (by have := H5.out; omega)]
          exact ff7_stop (fun i => pf7 (t i) (m i) (x i)) k n 0 (fun j _ hj => HS.out j hj) (Nat.zero_le _) (by have := HL.out; omega) hz
        have V := Lib.hid v.symm
        obtain ⟨q, hq⟩ : ∃ q, q = pf7 (t k) (m k) (x k) := ⟨_, rfl⟩
        rw [← hq] at hz' V ⊢
        clear hz v hq
        go_wp2
        go_ret
        exact ⟨ret_int7 V.out, HB2.out⟩
    · have v : pls7 n t m x = 0 := by
        unfold pls7
        rw [if_neg (by have := H5.out; omega)]
        exact ff7_none (fun i => pf7 (t i) (m i) (x i)) n 0 (fun j _ hj => hs j (by omega))
      have V := Lib.hid v.symm
      have HB := Lib.hid hb
      clear v hs hb
      go_wp2
      go_ret
      exact ⟨ret_int7 V.out, HB.out⟩

set_option maxHeartbeats 1000000 in
theorem implPlansFault_any (lo hi : Nat) (A : Option Addr) (n c : Nat) (t : Nat → Int) (B : Nat → Option Addr) (m d : Nat → Nat) (x : Nat → Nat → Int) (w : World) (hn : n ≤ 1048576) (hm : ∀ i, i < n → m i ≤ 1048576) (h : PL w lo hi A n t B m d x) :
    Calls Try.prog 13 #[.slice A n c] w fun e w' => e = .returned (.int .i64 (pls7 n t m x)) ∧ Below w.heap.size w w' := by
  have H := Lib.hid h.lt
  have HM := Lib.hid hm
  clear h hm
  by_cases h1 : n < 1
  · have v : pls7 n t m x = 2 := if_pos (.inl h1)
    have h1' : (n : Int) < 1 := by omega
    rw [v]
    clear v
    go_enter Try.func13, Try.ntmps13
    go_wp2
    go_ret
    exact ⟨rfl, Below.refl _ _⟩
  by_cases h2 : 5 < n
  · have v : pls7 n t m x = 2 := if_pos (.inr h2)
    have h1' : ¬ (n : Int) < 1 := by omega
    have h2' : (5 : Int) < (n : Int) := by omega
    rw [v]
    clear v
    go_enter Try.func13, Try.ntmps13
    go_wp2
    go_ret
    exact ⟨rfl, Below.refl _ _⟩
  have H5 := Lib.hid (show 1 ≤ n ∧ n ≤ 5 by omega)
  have h1' : ¬ (n : Int) < 1 := by omega
  have h2' : ¬ (5 : Int) < (n : Int) := by omega
  clear h1 h2 hn
  go_enter Try.func13, Try.ntmps13
  go_wp2_with fail
  go_loopw [16] (fun i wr => PlR w n t m x i wr) (fun i _ => n - (intOf i).toNat)
  case atStart => exact ⟨0, Nat.zero_le _, rfl, fun j hj => absurd hj (Nat.not_lt_zero _), Below.refl _ _⟩
  case round =>
    obtain ⟨k, hk, rfl, hs, hb⟩ := hrel
    by_cases hlt : k < n
    · have wk : IntKind.i64.wrap ((k : Int) + 1) = (k : Int) + 1 := IntWalk.i64_in _ (by have := H5.out; omega)
      obtain ⟨b, off, rfl, h1, h2, hc⟩ := H.out.at_ hlt
      obtain ⟨p0, p1⟩ := hc k hlt
      have c0 : wr.cell? ⟨b, off + k * 2, none⟩ = _ := (hb.cell (p := ⟨b, off + k * 2, none⟩) (by simp; omega)).trans p0
      have c1 : wr.cell? ⟨b, off + k * 2 + 1, none⟩ = _ := (hb.cell (p := ⟨b, off + k * 2 + 1, none⟩) (by simp; omega)).trans p1
      have HB := Lib.hid hb
      have HS := Lib.hid hs
      have HL := Lib.hid hlt
      have CP : Hid (∀ W, Below wr.heap.size wr W → Calls Try.prog 31 #[.agg #[.int .i64 (t k), .slice (B k) (m k) (d k)]] W fun e w' => e = .returned (.int .i64 (pf7 (t k) (m k) (x k))) ∧ Below W.heap.size W w') := fun W hW =>
        planFault_any lo (min hi w.heap.size) (B k) (m k) (d k) (t k) (x k) W (HM.out k hlt) ((H.out.ops k hlt).below (HB.out.trans (hW.mono HB.out.size)) (by omega))
      clear hc p0 p1 hb hs H
      go_wp2_with fail
      refine (CP.out _ (below_new wr _)).mono ?_
      rintro e w2 ⟨rfl, hb2⟩
      have HB2 := Lib.hid (HB.out.trans (Below.mono ((below_new wr _).trans (hb2.mono (by simp))) HB.out.size))
      clear hb2 c0 c1 CP
      by_cases hz : pf7 (t k) (m k) (x k) = 0
      · rw [hz]
        have HZ := Lib.hid hz
        clear hz
        go_wp2
        go_roundw
        case rel =>
          refine ⟨k + 1, by omega, by rfl, fun j hj => ?_, HB2.out⟩
          rcases Nat.lt_succ_iff_lt_or_eq.1 hj with h' | h'
          · exact HS.out j h'
          · subst h'; exact HZ.out
        case measure => simp [intOf]; omega
      · have hz' : (pf7 (t k) (m k) (x k) != 0) = true := by simp [hz]
        have v : pls7 n t m x = pf7 (t k) (m k) (x k) := by
          unfold pls7
          rw [if_neg (by have := H5.out; omega)]
          exact ff7_stop (fun i => pf7 (t i) (m i) (x i)) k n 0 (fun j _ hj => HS.out j hj) (Nat.zero_le _) (by have := HL.out; omega) hz
        have V := Lib.hid v.symm
        obtain ⟨q, hq⟩ : ∃ q, q = pf7 (t k) (m k) (x k) := ⟨_, rfl⟩
        rw [← hq] at hz' V ⊢
        clear hz v hq
        go_wp2
        go_ret
        exact ⟨ret_int7 V.out, HB2.out⟩
    · have v : pls7 n t m x = 0 := by
        unfold pls7
        rw [if_neg (by have := H5.out; omega)]
        exact ff7_none (fun i => pf7 (t i) (m i) (x i)) n 0 (fun j _ hj => hs j (by omega))
      have V := Lib.hid v.symm
      have HB := Lib.hid hb
      clear v hs hb
      go_wp2
      go_ret
      exact ⟨ret_int7 V.out, HB.out⟩

end Go.Proofs.Ytachpoehejdpjaa
