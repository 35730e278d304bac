/-
  The model's small functions of chapter 5, and its SchedFault. No conditions beyond that the list can be read.
-/
import Derived.Test.YtckapndpefkcgaaImpl5b
import Derived.Test.YtckapndpefkcgaaSpec1
set_option maxHeartbeats 1000000
namespace Go.Proofs.Ytckapndpefkcgaa
open Go.RowKit
set_option maxRecDepth 100000

theorem l5Id_any (i : Int) (w : World) : Calls Try.prog 88 #[.int .i64 i] w fun e w' => e = .returned (.bool (okId i)) ∧ w = w' := by
  go_enter Try.func88, Try.ntmps88
  go_wp2_with fail
  refine (l1In_any i 0 4 _).mono ?_
  rintro e w' ⟨rfl, rfl⟩
  go_wp2
  go_ret
  exact ⟨ret_bool (by
    by_cases h : 0 ≤ i ∧ i ≤ 4
    · rw [inR_true h]; unfold okId; simp; omega
    · rw [inR_false h]; unfold okId; simp; omega), rfl⟩
theorem l5Tickets_any (i : Int) (w : World) : Calls Try.prog 89 #[.int .i64 i] w fun e w' => e = .returned (.bool (okT i)) ∧ w = w' := by
  go_enter Try.func89, Try.ntmps89
  go_wp2_with fail
  refine (l1In_any i 1 10 _).mono ?_
  rintro e w' ⟨rfl, rfl⟩
  go_wp2
  go_ret
  exact ⟨ret_bool (by
    by_cases h : 1 ≤ i ∧ i ≤ 10
    · rw [inR_true h]; unfold okT; simp; omega
    · rw [inR_false h]; unfold okT; simp; omega), rfl⟩
theorem bas_snoc (xs : List R3) (x : R3) (b : Int) : bas (xs ++ [x]) b = if xs = [] ∨ x.2.2 < bas xs b then x.2.2 else bas xs b := by
  unfold bas
  rw [lst_snoc]
  by_cases h : xs = []
  · subst h; rfl
  · rw [lst_true h]
    simp only [Bool.true_eq_false, false_or, if_true, h]
    by_cases e : x.2.2 < (lst xs).1.2.2
    · rw [if_pos e, if_pos e]; rfl
    · rw [if_neg e, if_neg e, lst_true h]; rfl

set_option maxHeartbeats 1000000 in
theorem l5Least_any (lo hi : Nat) (A : Option Addr) (c : Nat) (b : Int) (xs : List R3) (w : World) (hn : xs.length ≤ 1000000) (h : RS w lo hi A xs) :
    Calls Try.prog 97 #[.slice A xs.length c, .int .i64 b] w fun e w' => e = .returned (.int .i64 (bas xs b)) ∧ w = w' := by
  have H := Lib.hid h
  obtain ⟨n, hn'⟩ : ∃ n, n = xs.length := ⟨_, rfl⟩
  have HN := Lib.hid hn'
  rw [← hn'] at hn ⊢
  clear h hn'
  go_enter Try.func97, Try.ntmps97
  go_wp2
  go_loop [1, 5] (fun q i => ∃ k : Nat, k ≤ n ∧ i = .int .i64 k ∧ q = .int .i64 (bas (xs.take k) b)) (fun _ i => n - (intOf i).toNat)
  case atStart => exact ⟨0, Nat.zero_le _, rfl, rfl⟩
  case round =>
    obtain ⟨k, hk, rfl, rfl⟩ := hrel
    by_cases hlt : k < n
    · obtain ⟨bb, off, rfl, h1, h2, hc⟩ := RS.get H.out (i := k) (by have := HN.out; omega)
      have a2 := (hc k (by have := HN.out; omega)).2.2
      have X : Hid (bas (xs.take (k + 1)) b = if xs.take k = [] ∨ (g3 xs k).2.2 < bas (xs.take k) b then (g3 xs k).2.2 else bas (xs.take k) b) := by
        show _ = _
        rw [take_snoc xs k (by have := HN.out; omega), bas_snoc]
      have Z : Hid (xs.take k = [] ↔ k = 0) := by
        show _ ↔ _
        have := HN.out
        rw [List.take_eq_nil_iff]
        constructor
        · rintro (h | h)
          · exact h
          · subst h; simp at this; omega
        · exact fun h => .inl h
      obtain ⟨y, hy⟩ : ∃ y, y = bas (xs.take k) b := ⟨_, rfl⟩
      obtain ⟨p, hp⟩ : ∃ p, p = (g3 xs k).2.2 := ⟨_, rfl⟩
      rw [← hy, ← hp] at X
      rw [← hy]
      rw [← hp] at a2
      clear hc hy hp
      by_cases h0 : k = 0
      · have HX : Hid (bas (xs.take (k + 1)) b = p) := by show _ = _; rw [X.out, if_pos (.inl (Z.out.2 h0))]
        subst h0
        go_wp2
        go_round
        case rel => exact ⟨1, by omega, by go_num, by rw [HX.out]⟩
        case measure => simp [intOf]; omega
      · have e0 : ¬ ((k : Int) = 0) := by omega
        have e1 : ((k : Int) == 0) = false := by simpa using h0
        by_cases hl : p < y
        · have HX : Hid (bas (xs.take (k + 1)) b = p) := by show _ = _; rw [X.out, if_pos (.inr hl)]
          go_wp2
          go_round
          case rel => exact ⟨k + 1, by omega, by go_num, by rw [HX.out]⟩
          case measure => simp [intOf]; omega
        · have HX : Hid (bas (xs.take (k + 1)) b = y) := by
            show _ = _
            rw [X.out, if_neg]
            rintro (h | h)
            · exact h0 (Z.out.1 h)
            · exact hl h
          go_wp2
          go_round
          case rel => exact ⟨k + 1, by omega, by go_num, by rw [HX.out]⟩
          case measure => simp [intOf]; omega
    · obtain rfl : k = n := by omega
      have HX : Hid (xs.take k = xs) := List.take_of_length_le (by have := HN.out; omega)
      rw [HX.out]
      go_wp2
      go_ret
      exact ⟨rfl, rfl⟩

set_option maxHeartbeats 4000000 in
theorem specSchedFault_any (lo hi : Nat) (A : Option Addr) (c : Nat) (b : Int) (xs : List R3) (w : World) (hn : xs.length ≤ 9223372036854775807) (h : RS w lo hi A xs) :
    Calls Try.prog 42 #[.agg #[.int .i64 b, .slice A xs.length c]] w fun e w' => e = .returned (.int .i64 (sf5 b xs)) ∧ Below w.heap.size w w' := by
  have H := Lib.hid h.lt
  obtain ⟨n, hn'⟩ : ∃ n, n = xs.length := ⟨_, rfl⟩
  have HN := Lib.hid hn'
  rw [← hn'] at hn ⊢
  clear h hn'
  obtain ⟨w1, hw1⟩ : ∃ w1, w1 = w.alloc (.cells #[.int .i64 b, .slice A n c] 43) := ⟨_, rfl⟩
  have K1 : Hid (w1.heap[w.heap.size]? = some (.cells #[.int .i64 b, .slice A n c] 43 (0, 0))) := by show _ = _; rw [hw1]; exact heap_alloc_new w _
  have B1 : Hid (Below w.heap.size w w1) := by rw [hw1]; exact below_new w _
  have Z1 : Hid (w1.heap.size = w.heap.size + 1) := by show _ = _; rw [hw1]; simp
  have KS : Hid (∀ W, Below w1.heap.size w1 W → W.cell? ⟨w.heap.size, 0, none⟩ = some (.int .i64 b) ∧ W.cell? ⟨w.heap.size, 1, none⟩ = some (.slice A n c)) := fun W hW => by
    have j := (hW.block w.heap.size (by have := Z1.out; omega)).trans K1.out
    exact ⟨cell_of_row W _ 0 _ _ _ j, cell_of_row W _ 1 _ _ _ j⟩
  have FIN : Hid (∀ W, Below w1.heap.size w1 W → Below w.heap.size w W) := fun W hW => B1.out.trans (hW.mono (by have := Z1.out; omega))
  have H1 := Lib.hid (H.out.below B1.out (Nat.min_le_right _ _))
  obtain ⟨q0, q1⟩ := KS.out w1 (Below.refl _ _)
  have HW1 := Lib.hid hw1
  clear hw1
  by_cases h0 : 0 ≤ b ∧ b ≤ 10000000
  rotate_left
  · have HF : Hid (sf5 b xs = 3) := by show _ = _; unfold sf5; rw [if_pos (by omega)]
    have e1 := inR_false h0
    go_enter Try.func42, Try.ntmps42
    go_upto_region 1 with (fail)
    rw [← HW1.out]
    go_wp2_with fail
    refine (l1In_any b 0 10000000 _).mono ?_
    rintro e w' ⟨rfl, rfl⟩
    rw [e1]
    go_wp2
    go_ret
    exact ⟨ret_i64 HF.out.symm, FIN.out _ (Below.refl _ _)⟩
  have e1 := inR_true h0
  by_cases h2 : n ≤ 5
  rotate_left
  · have HF : Hid (sf5 b xs = 2) := by show _ = _; unfold sf5; rw [if_neg (by omega), if_pos (by have := HN.out; omega)]
    go_enter Try.func42, Try.ntmps42
    go_upto_region 1 with (fail)
    rw [← HW1.out]
    go_wp2_with fail
    refine (l1In_any b 0 10000000 _).mono ?_
    rintro e w' ⟨rfl, rfl⟩
    rw [e1]
    go_wp2
    go_ret
    exact ⟨ret_i64 HF.out.symm, FIN.out _ (Below.refl _ _)⟩
  have H01 := Lib.hid h0
  have H2 := Lib.hid h2
  go_enter Try.func42, Try.ntmps42
  go_upto_region 1 with (fail)
  rw [← HW1.out]
  clear HW1
  go_wp2_with fail
  refine (l1In_any b 0 10000000 _).mono ?_
  rintro e w' ⟨rfl, rfl⟩
  rw [e1]
  clear e1 h0
  go_wp2
  go_loopw [3] (fun i wr => ∃ k : Nat, k ≤ n ∧ i = .int .i64 k ∧ anyTo k (badR b xs) = false ∧ Below w1.heap.size w1 wr) (fun i _ => n - (intOf i).toNat)
  case atStart => exact ⟨0, Nat.zero_le _, rfl, rfl, Below.refl _ _⟩
  case round =>
    obtain ⟨k, hk, rfl, hno, hb⟩ := hrel
    have NO := Lib.hid hno
    have HB := Lib.hid hb
    clear hno q0 q1
    obtain ⟨q0, q1⟩ := KS.out wr hb
    by_cases hlt : k < n
    · obtain ⟨bb, off, rfl, e1, e2, hc⟩ := RS.get H1.out (i := k) (by have := HN.out; omega)
      obtain ⟨d0, d1, d2⟩ := hc k (by have := HN.out; omega)
      have a0 : wr.cell? ⟨bb, off + k * 3, none⟩ = some (.int .i64 (g3 xs k).1) := (hb.cell (p := ⟨bb, off + k * 3, none⟩) (by simp; have := Z1.out; omega)).trans d0
      have a1 : wr.cell? ⟨bb, off + k * 3 + 1, none⟩ = some (.int .i64 (g3 xs k).2.1) := (hb.cell (p := ⟨bb, off + k * 3 + 1, none⟩) (by simp; have := Z1.out; omega)).trans d1
      have a2 : wr.cell? ⟨bb, off + k * 3 + 2, none⟩ = some (.int .i64 (g3 xs k).2.2) := (hb.cell (p := ⟨bb, off + k * 3 + 2, none⟩) (by simp; have := Z1.out; omega)).trans d2
      have BD : Hid (badR b xs k = !okR b (g3 xs k)) := rfl
      obtain ⟨⟨x0, x1, x2⟩, hx⟩ : ∃ x : R3, x = g3 xs k := ⟨_, rfl⟩
      rw [← hx] at a0 a1 a2 BD
      have ID := Lib.hid (l5Id_any x0)
      have TI := Lib.hid (l5Tickets_any x1)
      have BADF : Hid (okR b (x0, x1, x2) = false → sf5 b xs = 3) := fun ho => by
        unfold sf5
        rw [if_neg (by have := H01.out; omega), if_neg (by have := HN.out; omega), if_pos (anyTo_true (i := k) (by have := HN.out; omega) (by rw [BD.out, ho]; rfl))]
      clear hc d0 d1 d2 hb hx
      rcases hi : okId x0 with _ | _
      · have HF : Hid (sf5 b xs = 3) := BADF.out (by unfold okR; rw [hi]; rfl)
        rw [hi] at ID
        clear hi
        go_upto_region 9 with (fail)
        go_quiet (first | (refine Calls.quiet_of_same ((ID.out _).mono fun e9 w9 h9 => ⟨h9.1, h9.2.symm⟩)) | (refine Calls.quiet_of_same ((TI.out _).mono fun e9 w9 h9 => ⟨h9.1, h9.2.symm⟩)))
        go_wp2
        go_ret
        exact ⟨ret_i64 HF.out.symm, FIN.out _ (below_drewN HB.out _)⟩
      rcases ht : okT x1 with _ | _
      · have HF : Hid (sf5 b xs = 3) := BADF.out (by unfold okR; rw [ht]; simp)
        rw [hi] at ID
        rw [ht] at TI
        clear hi ht
        go_upto_region 9 with (fail)
        go_quiet (first | (refine Calls.quiet_of_same ((ID.out _).mono fun e9 w9 h9 => ⟨h9.1, h9.2.symm⟩)) | (refine Calls.quiet_of_same ((TI.out _).mono fun e9 w9 h9 => ⟨h9.1, h9.2.symm⟩)))
        go_wp2
        go_ret
        exact ⟨ret_i64 HF.out.symm, FIN.out _ (below_drewN HB.out _)⟩
      have SI := Lib.hid (strd_in ht)
      obtain ⟨t1, t2⟩ := okT_iff.1 ht
      have tn : ¬ x1 = 0 := by omega
      have hd : (2520 : Int).tdiv x1 = strd x1 := Int.tdiv_eq_ediv_of_nonneg (by omega)
      have hw : IntKind.i64.wrap (strd x1) = strd x1 := IntWalk.i64_in _ (by have := SI.out; omega)
      have hw2 : IntKind.i64.wrap (b + strd x1) = b + strd x1 := IntWalk.i64_in _ (by have := SI.out; have := H01.out; omega)
      have LI := Lib.hid (l1In_any x2 b (b + strd x1))
      have OK : Hid (okR b (x0, x1, x2) = (decide (b ≤ x2) && decide (x2 ≤ b + strd x1))) := by show _ = _; unfold okR; rw [hi, ht]; rfl
      rw [hi] at ID
      rw [ht] at TI
      clear hi ht t1 t2
      by_cases hq : b ≤ x2 ∧ x2 ≤ b + strd x1
      · have NO2 : Hid (anyTo (k + 1) (badR b xs) = false) := by
          show _ = _
          rw [anyTo_succ, NO.out, BD.out, OK.out]; simp [hq]
        rw [inR_true hq] at LI
        clear hq
        go_upto_region 9 with (fail)
        go_quiet (first | (refine Calls.quiet_of_same ((ID.out _).mono fun e9 w9 h9 => ⟨h9.1, h9.2.symm⟩)) | (refine Calls.quiet_of_same ((TI.out _).mono fun e9 w9 h9 => ⟨h9.1, h9.2.symm⟩)) | (refine Calls.quiet_of_same ((LI.out _).mono fun e9 w9 h9 => ⟨h9.1, h9.2.symm⟩)))
        go_wp2
        go_roundw
        case rel => exact ⟨k + 1, by omega, by go_num, NO2.out, below_drewN HB.out _⟩
        case measure => simp [intOf]; omega
      · have HF : Hid (sf5 b xs = 3) := BADF.out (by rw [OK.out]; simp; omega)
        rw [inR_false hq] at LI
        clear hq
        go_upto_region 9 with (fail)
        go_quiet (first | (refine Calls.quiet_of_same ((ID.out _).mono fun e9 w9 h9 => ⟨h9.1, h9.2.symm⟩)) | (refine Calls.quiet_of_same ((TI.out _).mono fun e9 w9 h9 => ⟨h9.1, h9.2.symm⟩)) | (refine Calls.quiet_of_same ((LI.out _).mono fun e9 w9 h9 => ⟨h9.1, h9.2.symm⟩)))
        go_wp2
        go_ret
        exact ⟨ret_i64 HF.out.symm, FIN.out _ (below_drewN HB.out _)⟩
    · obtain rfl : n = k := by omega
      clear hb
      go_wp2
      go_loopw [5] (fun i wr => ∃ m : Nat, (m + 1 ≤ n ∨ m = 0) ∧ i = .int .i64 ((m : Int) + 1) ∧ anyTo m (noRise xs) = false ∧ Below w1.heap.size w1 wr) (fun i _ => n + 1 - (intOf i).toNat)
      case atStart => exact ⟨0, .inr rfl, rfl, rfl, HB.out⟩
      case round =>
        obtain ⟨m, hm, rfl, hno, hb⟩ := hrel
        have NP := Lib.hid hno
        have HB2 := Lib.hid hb
        clear hno q0 q1
        obtain ⟨q0, q1⟩ := KS.out wr hb
        by_cases hlt2 : m + 1 < n
        · obtain ⟨bb, off, rfl, e1, e2, hc⟩ := RS.get H1.out (i := m) (by have := HN.out; omega)
          have a0 : wr.cell? ⟨bb, off + m * 3, none⟩ = some (.int .i64 (g3 xs m).1) := (hb.cell (p := ⟨bb, off + m * 3, none⟩) (by simp; have := Z1.out; omega)).trans (hc m (by have := HN.out; omega)).1
          have a1 : wr.cell? ⟨bb, off + (m + 1) * 3, none⟩ = some (.int .i64 (g3 xs (m + 1)).1) := (hb.cell (p := ⟨bb, off + (m + 1) * 3, none⟩) (by simp; have := Z1.out; omega)).trans (hc (m + 1) (by have := HN.out; omega)).1
          have hlt' : (m : Int) + 1 < (n : Int) := by omega
          have s1 : (m : Int) + 1 - 1 = (m : Int) := by omega
          have w1' : IntKind.i64.wrap (m : Int) = (m : Int) := IntWalk.i64_in _ (by omega)
          clear hc hb
          by_cases hr : (g3 xs (m + 1)).1 ≤ (g3 xs m).1
          · have HF : Hid (sf5 b xs = 1) := by
              show _ = _
              unfold sf5
              rw [if_neg (by have := H01.out; omega), if_neg (by have := HN.out; have := H2.out; omega), if_neg (by rw [← HN.out, NO.out]; decide), if_pos (anyTo_true (i := m) (by have := HN.out; omega) (by unfold noRise; simpa using hr))]
            go_upto_region 14 with (fail)
            go_quiet (fail)
            go_wp2
            go_ret
            exact ⟨ret_i64 HF.out.symm, FIN.out _ (below_drewN HB2.out _)⟩
          · have NP2 : Hid (anyTo (m + 1) (noRise xs) = false) := by
              show _ = _
              rw [anyTo_succ, NP.out]; unfold noRise; simpa using hr
            go_upto_region 14 with (fail)
            go_quiet (fail)
            go_wp2
            go_roundw
            case rel => exact ⟨m + 1, by omega, by go_num, NP2.out, below_drewN HB2.out _⟩
            case measure => simp [intOf]; omega
        · have hlt' : ¬ (m : Int) + 1 < (n : Int) := by omega
          have LE : Hid (∀ W, Below w1.heap.size w1 W → Calls Try.prog 97 #[.slice A n c, .int .i64 b] W fun e w' => e = .returned (.int .i64 (bas xs b)) ∧ W = w') := fun W hW => by
            have := l5Least_any lo (min hi w.heap.size) A c b xs W (by have := HN.out; have := H2.out; omega) (H1.out.below hW (by have := Z1.out; omega))
            rw [← HN.out] at this
            exact this
          have HF : Hid (sf5 b xs = if bas xs b ≠ b then 9 else 0) := by
            show _ = _
            unfold sf5
            rw [if_neg (by have := H01.out; omega), if_neg (by have := HN.out; have := H2.out; omega), if_neg (by rw [← HN.out, NO.out]; decide), if_neg (by rw [show xs.length - 1 = m by have := HN.out; omega, NP.out]; decide)]
          clear hb
          obtain ⟨y, hy⟩ : ∃ y, y = bas xs b := ⟨_, rfl⟩
          rw [← hy] at LE HF
          clear hy
          by_cases hq : y = b
          · have HQ : Hid (sf5 b xs = 0) := by show _ = _; rw [HF.out, hq]; simp
            subst hq
            go_upto_region 16 with (fail)
            go_quiet (refine Calls.quiet_of_same ((LE.out _ (below_drewN HB2.out _)).mono fun e9 w9 h9 => ⟨h9.1, h9.2.symm⟩))
            go_wp2
            go_ret
            exact ⟨ret_i64 HQ.out.symm, FIN.out _ (below_drewN HB2.out _)⟩
          · have HQ : Hid (sf5 b xs = 9) := by show _ = _; rw [HF.out, if_pos hq]
            have hq2 : (y != b) = true := by simpa using hq
            go_upto_region 16 with (fail)
            go_quiet (refine Calls.quiet_of_same ((LE.out _ (below_drewN HB2.out _)).mono fun e9 w9 h9 => ⟨h9.1, h9.2.symm⟩))
            go_wp2
            go_ret
            exact ⟨ret_i64 HQ.out.symm, FIN.out _ (below_drewN HB2.out _)⟩

end Go.Proofs.Ytckapndpefkcgaa
