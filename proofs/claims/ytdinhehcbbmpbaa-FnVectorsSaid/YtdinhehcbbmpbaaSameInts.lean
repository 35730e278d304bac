/-
  For every two slices of int64, FnExactSameInts returns true and leaves both as they were. No conditions.
-/
import Derived.Test.YtdinhehcbbmpbaaInts
import Derived.Test.YtdinhehcbbmpbaaLaw
namespace Go.Proofs.Ytdinhehcbbmpbaa
open Go.ChangeShapes Go.WideShapes Go.ChangeAt Go.RowKit

/-- slices.Equal over int64: whether the two lists are one. -/
theorem slicesEqual_any (lo hi lo' hi' : Nat) (A A' : Option Addr) (xs ys : List Int) (n n' c c' : Nat) (w : World) (hn : n * 8 ≤ 140737488351232) (ex : xs.length = n) (ey : ys.length = n')
    (h : Sl w lo hi A n (fun k => .int .i64 (gi xs k))) (h' : Sl w lo' hi' A' n' (fun k => .int .i64 (gi ys k))) :
    Calls Try.prog 60 #[.slice A n c, .slice A' n' c'] w fun e w' => e = .returned (.bool (decide (xs = ys))) ∧ Below w.heap.size w w' := by
  have H := Lib.hid h
  have H' := Lib.hid h'
  have EX := Lib.hid ex
  have EY := Lib.hid ey
  clear h h' ex ey
  by_cases hne : n = n'
  · subst hne
    go_enter Try.func60, Try.ntmps60
    go_wp2
    go_loopw [13] (fun i wr => ∃ k : Nat, k ≤ n ∧ i = .int .i64 k ∧ Below w.heap.size w wr ∧ ∀ j, j < k → gi xs j = gi ys j) (fun i _ => n - (intOf i).toNat)
    case atStart => exact ⟨0, Nat.zero_le _, rfl, Below.refl _ _, fun j hj => absurd hj (Nat.not_lt_zero _)⟩
    case round =>
      obtain ⟨k, hk, rfl, hb, hs⟩ := hrel
      by_cases hlt : k < n
      · obtain ⟨b, off, rfl, h1, h2, hc⟩ := H.out.lt.at_ hlt
        obtain ⟨b', off', rfl, h1', h2', hc'⟩ := H'.out.lt.at_ hlt
        have hck := (hb.cell (p := ⟨b, off + k, none⟩) (by simp; omega)).trans (hc k hlt)
        have hck' := (hb.cell (p := ⟨b', off' + k, none⟩) (by simp; omega)).trans (hc' k hlt)
        have HB := Lib.hid hb
        have HS := Lib.hid hs
        clear hb hc hc' hs H H'
        go_wp2_with fail
        go_quiet (fail)
        by_cases he : gi xs k = gi ys k
        · go_wp2
          go_roundw
          case rel => exact ⟨k + 1, by omega, by go_num, below_drewN HB.out _, upto_succ HS.out he⟩
          case measure => simp [intOf]; omega
        · go_wp2
          go_ret
          exact ⟨ret_false (fun h => he (by rw [h])), below_drewN HB.out _⟩
      · go_wp2
        go_ret
        exact ⟨ret_true (same_lists EX.out EY.out fun j hj => hs j (by omega)), hb⟩
  · go_enter Try.func60, Try.ntmps60
    go_wp2
    go_ret
    exact ⟨ret_false (fun h => hne (by rw [← EX.out, ← EY.out, h])), Below.refl _ _⟩

theorem implSameInts_any (lo hi lo' hi' : Nat) (A A' : Option Addr) (xs ys : List Int) (n n' c c' : Nat) (w : World) (hn : n * 8 ≤ 140737488351232) (ex : xs.length = n) (ey : ys.length = n')
    (h : Sl w lo hi A n (fun k => .int .i64 (gi xs k))) (h' : Sl w lo' hi' A' n' (fun k => .int .i64 (gi ys k))) :
    Calls Try.prog 28 #[.slice A n c, .slice A' n' c'] w fun e w' => e = .returned (.bool (decide (xs = ys))) ∧ Below w.heap.size w w' := by
  have C := Lib.hid (slicesEqual_any lo hi lo' hi' A A' xs ys n n' c c' w hn ex ey h h')
  clear h h' ex ey
  go_enter Try.func28, Try.ntmps28
  go_wp2_with fail
  refine C.out.mono ?_
  rintro e w' ⟨rfl, hb⟩
  have HB := Lib.hid hb
  clear hb C
  go_wp2
  go_ret
  exact ⟨rfl, HB.out⟩

theorem walkSameInts (A A' : Option Addr) (xs ys : List Int) (n n' c c' : Nat) (w : World) (ex : xs.length = n) (ey : ys.length = n')
    (h : Sl w 0 w.heap.size A n (fun k => .int .i64 (gi xs k))) (h' : Sl w 0 w.heap.size A' n' (fun k => .int .i64 (gi ys k))) :
    Calls Try.prog 11 #[.slice A n c, .slice A' n' c'] w fun e w' => e = .returned (.bool true) ∧ Below w.heap.size w w' := by
  have H := Lib.hid h
  have H' := Lib.hid h'
  have EX := Lib.hid ex
  have EY := Lib.hid ey
  clear h h' ex ey
  by_cases hn : 1048576 < n
  · go_enter Try.func11, Try.ntmps11
    go_wp2
    go_ret
    exact ⟨rfl, Below.refl _ _⟩
  by_cases hn' : 1048576 < n'
  · go_enter Try.func11, Try.ntmps11
    go_wp2
    go_ret
    exact ⟨rfl, Below.refl _ _⟩
  go_enter Try.func11, Try.ntmps11
  go_wp2_with fail
  -- w0 := spec.SameInts(toInt64S(aA), toInt64S(aB))
  refine (toInt64S_any 0 w.heap.size A n c (gi xs) _ (by omega) H.out (Nat.le_refl _)).mono ?_
  rintro e w1 ⟨rfl, r1, b1⟩
  have R1 := Lib.hid r1
  have B1 := Lib.hid b1
  clear r1 b1
  go_wp2_with fail
  refine (toInt64S_any 0 w.heap.size A' n' c' (gi ys) _ (by omega) (H'.out.below B1.out (Nat.le_refl _)) B1.out.size).mono ?_
  rintro e w2 ⟨rfl, r2, b2⟩
  have R2 := Lib.hid r2
  have B2 := Lib.hid (B1.out.trans (b2.mono B1.out.size))
  have R1' := Lib.hid (R1.out.below b2 R1.out.lt)
  clear r2 b2 R1
  go_wp2_with fail
  refine (specSameInts_any 0 w2.heap.size 0 w2.heap.size _ _ xs ys n n' n n' _ (by omega) EX.out EY.out (R1'.out.sl (Nat.zero_le _) R1'.out.lt) (R2.out.sl (Nat.zero_le _) R2.out.lt)).mono ?_
  rintro e w3 ⟨rfl, b3⟩
  have B3 := Lib.hid (B2.out.trans (b3.mono B2.out.size))
  clear b3 R1' R2
  go_wp2_with fail
  -- x0, x1
  refine (toInt64S_any 0 w.heap.size A n c (gi xs) _ (by omega) (H.out.below B3.out (Nat.le_refl _)) B3.out.size).mono ?_
  rintro e w4 ⟨rfl, r4, b4⟩
  have R4 := Lib.hid r4
  have B4 := Lib.hid (B3.out.trans (b4.mono B3.out.size))
  clear r4 b4
  go_wp2_with fail
  refine (toInt64S_any 0 w.heap.size A' n' c' (gi ys) _ (by omega) (H'.out.below B4.out (Nat.le_refl _)) B4.out.size).mono ?_
  rintro e w5 ⟨rfl, r5, b5⟩
  have R5 := Lib.hid r5
  have B5 := Lib.hid (B4.out.trans (b5.mono B4.out.size))
  have R4' := Lib.hid (R4.out.below b5 R4.out.lt)
  clear r5 b5 R4
  go_wp2_with fail
  refine (implSameInts_any 0 w5.heap.size 0 w5.heap.size _ _ xs ys n n' n n' _ (by omega) EX.out EY.out (R4'.out.sl (Nat.zero_le _) R4'.out.lt) (R5.out.sl (Nat.zero_le _) R5.out.lt)).mono ?_
  rintro e w6 ⟨rfl, b6⟩
  have B6 := Lib.hid (B5.out.trans (b6.mono B5.out.size))
  have R5' := Lib.hid (R5.out.below b6 R5.out.lt)
  have R4'' := Lib.hid (R4'.out.below b6 R4'.out.lt)
  clear b6 R5 R4'
  go_wp2_with fail
  refine (toInt64S_any 0 w.heap.size A n c (gi xs) _ (by omega) (H.out.below B6.out (Nat.le_refl _)) B6.out.size).mono ?_
  rintro e w7 ⟨rfl, r7, b7⟩
  have B7 := Lib.hid (B6.out.trans (b7.mono B6.out.size))
  have X7 := Lib.hid ((R4''.out.below b7 R4''.out.lt).sl (Nat.zero_le _) (R4''.out.below b7 R4''.out.lt).lt)
  have Y7 := Lib.hid (r7.sl (Nat.zero_le _) r7.lt)
  have R5'' := Lib.hid (R5'.out.below b7 R5'.out.lt)
  clear r7 b7 R5' R4''
  go_wp2_with fail
  refine (eqInt64S_same _ _ _ _ _ _ n n n (gi xs) _ (by omega) X7.out Y7.out).mono ?_
  rintro e w8 ⟨rfl, b8⟩
  have B8 := Lib.hid (B7.out.trans (b8.mono B7.out.size))
  have R5 := Lib.hid (R5''.out.below b8 R5''.out.lt)
  clear b8 X7 Y7 R5''
  go_wp2_with fail
  refine (toInt64S_any 0 w.heap.size A' n' c' (gi ys) _ (by omega) (H'.out.below B8.out (Nat.le_refl _)) B8.out.size).mono ?_
  rintro e w9 ⟨rfl, r9, b9⟩
  have B9 := Lib.hid (B8.out.trans (b9.mono B8.out.size))
  have X9 := Lib.hid ((R5.out.below b9 R5.out.lt).sl (Nat.zero_le _) (R5.out.below b9 R5.out.lt).lt)
  have Y9 := Lib.hid (r9.sl (Nat.zero_le _) r9.lt)
  clear r9 b9 R5
  go_wp2_with fail
  refine (eqInt64S_same _ _ _ _ _ _ n' n' n' (gi ys) _ (by omega) X9.out Y9.out).mono ?_
  rintro e w10 ⟨rfl, b10⟩
  have B10 := Lib.hid (B9.out.trans (b10.mono B9.out.size))
  clear b10 X9 Y9
  go_wp2
  go_ret
  exact ⟨rfl, B10.out⟩

set_option maxRecDepth 100000 in
theorem liftedSameInts (os : Os) (started : os.Started) (H : Type) (enc : TypeId × Value → H) :
    ReturnsInHanded {} Try.checked os 11 .any (Rows.fnExactSameIntsSpec.pre6 enc Try.prog Try.f11 Rows.fnExactSameIntsRow.domain false) (Rows.fnExactSameIntsSpec.post enc Try.prog Try.f11 false true false false) := by
  refine returnsInHanded_of_change (C := Try.checked) own started (by kernel_rfl) Try.func11
    (ChangeSpec.witness6 (enc := enc) (C := Try.checked) false ⟨#[], #[.slice none 0 0, .slice none 0 0], []⟩ 8 (by kernel_rfl) (by kernel_rfl) (by kernel_rfl) (by kernel_rfl)) ?_
  intro W base args ds gs before hval0 hW _ _
  have hval : ∀ (j : Nat) t v, Try.f11.params[j]? = some t → args[j]? = some v → Value.okWide Try.prog W .any base t v := hval0
  have hW' := hW
  obtain ⟨p, q, hA0, hV, rfl, _, _⟩ := hW
  have hA : DataW.TrodAll enc Try.prog W 0 (fun _ => true) true Try.f11.params.toList args.toList ds p := hA0
  rw [Try.params11] at hA hval
  obtain ⟨v0, vs0, d0, ds0, p0, q0, hargs, rfl, rfl, h0, r0⟩ := trodAll_cons hA
  obtain ⟨v1, vs1, d1, ds1, p1, q1, rfl, rfl, rfl, h1, r1⟩ := trodAll_cons r0
  obtain ⟨rfl, rfl, rfl⟩ := trodAll_nil r1
  obtain rfl : args = #[v0, v1] := by cases args; simp_all
  obtain ⟨rfl, rfl⟩ := trodVars_none hV
  obtain ⟨A0, n0, c0, xs, rfl, _, e0, s0, _⟩ := open_i64s (hval 0 _ v0 rfl rfl) h0
  obtain ⟨A1, n1, c1, ys, rfl, _, e1, s1, _⟩ := open_i64s (hval 1 _ v1 rfl rfl) h1
  exact law_post hW' rfl rfl (by kernel_rfl) (by kernel_rfl) (walkSameInts A0 A1 xs ys n0 n1 c0 c1 W e0 e1 s0 s1)

theorem sameInts_holds : Rows.FnExactSameIntsSaid :=
  OpenClaim.holds_of_wide 11 Try.f11 rfl rfl rfl rfl rfl rfl rfl ⟨rfl, rfl, rfl, rfl, rfl⟩ rfl rfl rfl rfl rfl (by kernel_rfl) Try.func11 (by kernel_rfl)
    (of_decide_eq_true (by kernel_rfl)) (by unfold Func.isWrapper; first | (rw [if_pos (by decide +kernel)]; kernel_rfl) | (rw [if_neg (by decide +kernel)]; exact ⟨rfl, rfl⟩))
    (fun os started H enc _ => liftedSameInts os started H enc)
#print axioms sameInts_holds

end Go.Proofs.Ytdinhehcbbmpbaa
