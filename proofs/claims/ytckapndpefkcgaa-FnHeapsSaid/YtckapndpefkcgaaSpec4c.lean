/-
  The model's functions of chapter 4 that make heaps: copies, pushes. No conditions beyond that the heap can be read.
-/
import Derived.Laws.AppendOwnNone
import Derived.BigRegion
import Derived.BigQuiet
import Derived.StillTailTactics
import Derived.Deep.RegionHeld3
import Derived.Test.YtckapndpefkcgaaKit4
import Derived.Test.YtckapndpefkcgaaMath4
import Derived.Test.YtckapndpefkcgaaSpec4b
import Derived.Test.YtckapndpefkcgaaOwn4
set_option maxHeartbeats 1000000
namespace Go.Proofs.Ytckapndpefkcgaa
open Go.RowKit
set_option maxRecDepth 100000

theorem or_of {t : TypeId} {m : Nat} {w : World} {base n : Nat} {v : Value} {hs : List Int} (h : w.ownsRow base t m v n (vals hs)) : ∃ A c, v = .slice A n c ∧ OR t m w base A n c hs := by
  rcases h.2 with ⟨rfl, rfl⟩ | ⟨g, cap, cur, rfl, _⟩
  · exact ⟨none, 0, rfl, h⟩
  · exact ⟨some ⟨g, 0, none⟩, cap, rfl, h⟩

theorem l4Copy_any (lo hi : Nat) (A : Option Addr) (n c : Nat) (xs : List Int) (w : World) (hn : n * 16 ≤ 140737488351232) (ex : xs.length = n * 2) (hA : A = none → c = 0) (h : Sl w lo hi A (n * 2) (fun k => .int .i64 (gi xs k))) :
    Calls Try.prog 66 #[.slice A n c] w fun e w' => ∃ A' c', e = .returned (.slice A' n c') ∧ A' ≠ none ∧ OR 26 2 w' w.heap.size A' n c' xs ∧ Below w.heap.size w w' := by
  have H := Lib.hid h
  have EX := Lib.hid ex
  have HA := Lib.hid hA
  clear h ex hA
  obtain ⟨i0, hi0, hz0, hz1, hz2⟩ := info_parts Try.info_Entry
  have own0 : Hid ((w.alloc (.cells #[] 26)).ownsRow w.heap.size 26 2 (.slice (some ⟨w.heap.size, 0, none⟩) 0 0) 0 []) :=
    ⟨rfl, .inr ⟨w.heap.size, 0, #[], rfl, Nat.le_refl _, heap_alloc_new _ _, Nat.le_refl _, by simp [maxLen], rfl, rfl⟩⟩
  have b0 : Hid (Below w.heap.size w (w.alloc (.cells #[] 26))) := (Below.refl _ _).alloc (Nat.le_refl _) _
  rcases A with _ | ad
  · have hn0 : n = 0 := by
      rcases Nat.eq_zero_or_pos n with h0 | h0
      · exact h0
      · obtain ⟨_, _, hx, _⟩ := H.out 0 (by omega)
        cases hx
    subst hn0
    obtain rfl := HA.out rfl
    obtain rfl : xs = [] := by have := EX.out; simpa using this
    go_enter Try.func66, Try.ntmps66
    go_wp2_with (at_builtin; refine wpList_append_own_none rfl (.tmp 3) (.tmp 4) 24 rfl w.heap.size 26 i0 2 Try.underlying24 hi0 _ 0 [] rfl own0.out rfl ?_)
    go_ret
    exact ⟨_, _, rfl, by simp, own0.out, b0.out⟩
  · have NW : Hid (∀ j u, (vals xs)[j]? = some u → (w.alloc (.cells #[] 26)).cell? (ad.add j) = some u) := by
      intro j u hu
      have hj : j < xs.length := by have := (List.getElem?_eq_some_iff.1 hu).1; simpa [vals] using this
      rw [vals_get xs j hj] at hu
      injection hu with hu
      subst hu
      obtain ⟨b, off, hx, h1, h2, hc⟩ := (H.out.lt) j (by rw [← EX.out]; exact hj)
      injection hx with hx
      subst hx
      rw [Go.WideShapes.add_plain]
      exact (b0.out.cell (p := ⟨b, off + j, none⟩) (by simp; omega)).trans hc
    have ON : Hid (∀ u ∈ vals xs, u.oneCell' = true) := by
      intro u hu
      simp only [vals, List.mem_map] at hu
      obtain ⟨_, _, rfl⟩ := hu
      rfl
    have LN : Hid ((vals xs).length = n * 2) := by simp [Hid, vals, EX.out]
    go_enter Try.func66, Try.ntmps66
    go_wp2_with (at_builtin; refine wpList_append_own _ rfl (.tmp 3) (.tmp 4) 24 rfl w.heap.size 26 i0 (.agg #[.int .i64 0, .int .i64 0]) 2 16 Try.underlying24 hi0 hz0 hz1 hz2 rfl (by decide) _ 0 [] rfl own0.out ad n c (vals xs) rfl LN.out NW.out ON.out (by unfold maxLen; omega) (by omega) b0.out.size ?_; intro v' w1 hown hgrow hnil; have HO := Lib.hid hown; have HG := Lib.hid hgrow; have HN := Lib.hid hnil; clear hown hgrow hnil)
    go_ret
    have hb : Below w.heap.size w w1 := b0.out.grown HG.out b0.out.size (fun k hk => by have hk' : some w.heap.size = some k := hk; injection hk' with e; omega)
    have ho := HO.out
    simp only [Nat.zero_add, List.nil_append] at ho
    obtain ⟨A', c', rfl, ho⟩ := or_of ho
    refine ⟨A', c', rfl, ?_, ho, hb⟩
    rintro rfl
    obtain ⟨rfl, rfl⟩ := OR.nil0 ho
    have h5 := (HN.out.1 rfl).1
    injection h5 with h5 _ _
    cases h5

set_option maxHeartbeats 1000000 in
theorem l4Push_any (A : Option Addr) (n c : Nat) (hs : List Int) (p d : Int) (base : Nat) (w : World) (hn : n ≤ 12) (hb : base ≤ w.heap.size) (h : OR 26 2 w base A n c hs) :
    Calls Try.prog 65 #[.slice A n c, .agg #[.int .i64 p, .int .i64 d]] w fun e w' => ∃ A' c', e = .returned (.slice A' (n + 1) c') ∧ OR 26 2 w' base A' (n + 1) c' (push4 hs n p d) ∧ Below base w w' := by
  obtain ⟨i0, hi0, hz0, hz1, hz2⟩ := info_parts Try.info_Entry
  obtain ⟨w2, hw2⟩ : ∃ w2, w2 = (w.alloc (.cells #[.int .i64 p, .int .i64 d] 26)).alloc (.cells #[.int .i64 p, .int .i64 d] 26) := ⟨_, rfl⟩
  have k2 : w2.heap[w.heap.size + 1]? = some (.cells #[.int .i64 p, .int .i64 d] 26 (0, 0)) := by rw [hw2]; exact heap_alloc2_new w _ _
  have B2 : Hid (Below w.heap.size w w2) := by rw [hw2]; exact (below_new w _).alloc (by simp) _
  have O2 := Lib.hid (h.below B2.out (Nat.le_refl _))
  have Z2 : Hid (w2.heap.size = w.heap.size + 2) := by show _ = _; rw [hw2]; simp
  have NW : Hid (∀ j u, ([.int .i64 p, .int .i64 d] : List Value)[j]? = some u → w2.cell? ((⟨w.heap.size + 1, 0, none⟩ : Addr).add j) = some u) := by
    intro j u hu
    rw [Go.WideShapes.add_plain]
    rcases j with _ | _ | j
    · injection hu with hu; subst hu; exact cell_of_row w2 _ 0 _ _ _ k2
    · injection hu with hu; subst hu; exact cell_of_row w2 _ 1 _ _ _ k2
    · simp at hu
  have HW2 := Lib.hid hw2
  have HB := Lib.hid hb
  clear hw2 k2 h hb
  go_enter Try.func65, Try.ntmps65
  go_wp2_with
    (at_builtin
     rw [← HW2.out]
     refine wpList_append_own _ rfl (.tmp 7) (.tmp 9) 24 rfl base 26 i0 (.agg #[.int .i64 0, .int .i64 0]) 2 16 Try.underlying24 hi0 hz0 hz1 hz2 rfl (by decide) _ n _ rfl O2.out ⟨w.heap.size + 1, 0, none⟩ 1 1 [.int .i64 p, .int .i64 d] rfl rfl NW.out (by simp [Value.oneCell']) (by unfold maxLen; omega) (by omega) (by have := Z2.out; have := HB.out; omega) ?_
     intro v' w3 hown hgrow _
     have HO := Lib.hid hown
     have HG := Lib.hid hgrow
     clear hown hgrow
     have ho := HO.out
     rw [show vals hs ++ [Value.int .i64 p, .int .i64 d] = vals (hs ++ [p, d]) by simp [vals]] at ho
     obtain ⟨A', c', rfl, ho⟩ := or_of ho
     obtain ⟨g, rfl, hg1, hg2⟩ := OR.pos ho (by omega)
     have B3 : Hid (Below base w w3) := (B2.out.mono HB.out).grown HG.out (by have := Z2.out; have := HB.out; omega) (fun k hk => by
       rcases A with _ | ad
       · cases hk
       · obtain ⟨g', e, h1, h2⟩ := OR.at_ O2.out (by simp)
         injection e with e
         subst e
         have hk' : some g' = some k := hk
         injection hk' with e2
         omega)
     have GB := Lib.hid (show base ≤ g from hg1)
     have O3 := Lib.hid ho
     clear HO HG ho hg1 hg2 HW2 NW O2 B2)
  go_loopw [5] (fun i wr => ∃ (k : Nat) (xs : List Int), k ≤ n ∧ i = .int .i64 k ∧ OR 26 2 wr base (some ⟨g, 0, none⟩) (n + 1) c' xs ∧ up4 xs k = push4 hs n p d ∧ Below base w wr) (fun i _ => (intOf i).toNat)
  case atStart => exact ⟨n, _, Nat.le_refl _, by go_num, O3.out, rfl, B3.out⟩
  case round =>
    obtain ⟨k, xs, hk, rfl, ho, hu, hb⟩ := hrel
    have OX := Lib.hid ho
    have UX := Lib.hid hu
    have BX := Lib.hid hb
    clear ho hu hb
    rcases k with _ | m
    · have UE : Hid (xs = push4 hs n p d) := by show _ = _; rw [← UX.out, up4_end (by omega)]
      go_wp2_with fail
      go_region
      all_goals
        go_wp2
        go_ret
        exact ⟨_, _, rfl, UE.out ▸ OX.out, BX.out.drew⟩
    · obtain ⟨u, hu⟩ : ∃ u : Nat, u = m / 2 := ⟨_, rfl⟩
      have hul : u < m + 1 := by omega
      have c0 : wr.cell? ⟨g, (m + 1) * 2, none⟩ = some (.int .i64 (gi xs ((m + 1) * 2))) := OX.out.cell (by omega)
      have c1 : wr.cell? ⟨g, (m + 1) * 2 + 1, none⟩ = some (.int .i64 (gi xs ((m + 1) * 2 + 1))) := OX.out.cell (by omega)
      have d0 : wr.cell? ⟨g, u * 2, none⟩ = some (.int .i64 (gi xs (u * 2))) := OX.out.cell (by omega)
      have d1 : wr.cell? ⟨g, u * 2 + 1, none⟩ = some (.int .i64 (gi xs (u * 2 + 1))) := OX.out.cell (by omega)
      have ee : (((m + 1 : Nat) : Int)) = (m : Int) + 1 := by omega
      rw [ee]
      have hh : ((m : Int)).tdiv 2 = (u : Int) := by rw [hu]; exact half_pred m
      have w1 : IntKind.i64.wrap (m : Int) = m := IntWalk.i64_in _ (by omega)
      have w2 : IntKind.i64.wrap (u : Int) = u := IntWalk.i64_in _ (by omega)
      have hl0 : (0 : Int) ≤ (m : Int) + 1 := by omega
      have hl1 : (0 : Int) < (m : Int) + 1 := by omega
      have hl2 : (m : Int) + 1 < (n : Int) + 1 := by omega
      have hl3 : (0 : Int) ≤ (u : Int) := by omega
      have hl4 : (u : Int) < (n : Int) + 1 := by omega
      rcases hl : less4 xs (m + 1) u with _ | _
      · have UE : Hid (xs = push4 hs n p d) := by
          show _ = _
          rw [← UX.out, up4_end (by rw [show (m + 1 - 1) / 2 = u by omega, hl]; simp)]
        unfold less4 at hl
        clear hu hul ee UX
        go_wp2_with fail
        go_still_tail 13, (by kernel_rfl)
        change wpList _ _ _ _ _ wr.drew
        have HBD : Hid (Below wr.heap.size wr wr.drew) := Below.drew (Below.refl _ _)
        generalize wr.drew = w8 at *
        go_wp2_with fail
        refine (specIsLess_any _ _ _ _ _).mono ?_
        rintro e w9 ⟨rfl, hb1⟩
        rw [hl]
        have HB9 := Lib.hid (HBD.out.trans (hb1.mono HBD.out.size))
        clear hb1
        all_goals
          go_wp2
          go_ret
          exact ⟨_, _, rfl, UE.out ▸ OX.out.below HB9.out (Nat.le_refl _), BX.out.trans (HB9.out.mono (Nat.le_trans HB.out BX.out.size))⟩
      · have UE : Hid (up4 (swp xs (m + 1) u) u = push4 hs n p d) := by
          have e1 : (m + 1 - 1) / 2 = u := by omega
          have e := up4_go (hs := xs) (i := m + 1) (by omega) (by rw [e1]; exact hl)
          rw [e1] at e
          exact e.symm.trans UX.out
        unfold less4 at hl
        have HU := Lib.hid hul
        clear hu hul ee UX
        go_wp2_with fail
        go_still_tail 13, (by kernel_rfl)
        change wpList _ _ _ _ _ wr.drew
        have HBD : Hid (Below wr.heap.size wr wr.drew) := Below.drew (Below.refl _ _)
        generalize wr.drew = w8 at *
        go_wp2_with fail
        refine (specIsLess_any _ _ _ _ _).mono ?_
        rintro e w9 ⟨rfl, hb1⟩
        rw [hl]
        have HB9 := Lib.hid (HBD.out.trans (hb1.mono HBD.out.size))
        have O9 := Lib.hid (OX.out.below HB9.out (Nat.le_refl _))
        have BX9 := Lib.hid (BX.out.trans (HB9.out.mono (Nat.le_trans HB.out BX.out.size)))
        have S9 := Lib.hid (show base ≤ w9.heap.size by have := HB.out; have := BX9.out.size; omega)
        clear hb1 c0 c1 d0 d1 hl
        have c0 : w9.cell? ⟨g, (m + 1) * 2, none⟩ = some (.int .i64 (gi xs ((m + 1) * 2))) := O9.out.cell (by omega)
        have c1 : w9.cell? ⟨g, (m + 1) * 2 + 1, none⟩ = some (.int .i64 (gi xs ((m + 1) * 2 + 1))) := O9.out.cell (by omega)
        go_upto_region 5 with (fail)
        obtain ⟨w10, hw10⟩ : ∃ w10, w10 = w9.alloc (.cells #[.int .i64 (gi xs ((m + 1) * 2)), .int .i64 (gi xs ((m + 1) * 2 + 1))] 26) := ⟨_, rfl⟩
        rw [← hw10]
        have X10 := Lib.hid (show w10.heap[w9.heap.size]? = some (.cells #[.int .i64 (gi xs ((m + 1) * 2)), .int .i64 (gi xs ((m + 1) * 2 + 1))] 26 (0, 0)) by rw [hw10]; exact heap_alloc_new w9 _)
        have HB10 := Lib.hid (show Below w9.heap.size w9 w10 by rw [hw10]; exact below_new w9 _)
        have O10 := Lib.hid (O9.out.below HB10.out (Nat.le_refl _))
        have B10 := Lib.hid (BX9.out.trans (HB10.out.mono S9.out))
        have G10 := Lib.hid (show g < w9.heap.size from (OR.lt O9.out).2)
        have d0 : w10.cell? ⟨g, u * 2, none⟩ = some (.int .i64 (gi xs (u * 2))) := O10.out.cell (by have := HU.out; omega)
        have d1 : w10.cell? ⟨g, u * 2 + 1, none⟩ = some (.int .i64 (gi xs (u * 2 + 1))) := O10.out.cell (by have := HU.out; omega)
        have f0 := O10.out.frozen ((m + 1) * 2)
        have f1 := O10.out.frozen ((m + 1) * 2 + 1)
        clear hw10 c0 c1 HB9 OX BX O9 HBD HB10
        have y0 : w10.cell? ⟨g, (m + 1) * 2, none⟩ = some (.int .i64 (gi xs ((m + 1) * 2))) := O10.out.cell (by omega)
        have y1 : w10.cell? ⟨g, (m + 1) * 2 + 1, none⟩ = some (.int .i64 (gi xs ((m + 1) * 2 + 1))) := O10.out.cell (by omega)
        go_upto_region 6 with (fail)
        obtain ⟨w11, hw11⟩ : ∃ w11, w11 = (w10.setCell ⟨g, (m + 1) * 2, none⟩ (.int .i64 (gi xs (u * 2)))).setCell ⟨g, (m + 1) * 2 + 1, none⟩ (.int .i64 (gi xs (u * 2 + 1))) := ⟨_, rfl⟩
        rw [← hw11]
        have O11 := Lib.hid (show OR 26 2 w11 base (some ⟨g, 0, none⟩) (n + 1) c' (se xs (m + 1) (gi xs (u * 2)) (gi xs (u * 2 + 1))) by rw [hw11]; exact (O10.out.set _ _).set _ _)
        have B11 := Lib.hid (show Below base w w11 by rw [hw11]; exact (B10.out.setCell (p := ⟨g, (m + 1) * 2, none⟩) GB.out _).setCell (p := ⟨g, (m + 1) * 2 + 1, none⟩) GB.out _)
        have X11 := Lib.hid (show w11.heap[w9.heap.size]? = some (.cells #[.int .i64 (gi xs ((m + 1) * 2)), .int .i64 (gi xs ((m + 1) * 2 + 1))] 26 (0, 0)) by
          rw [hw11]
          have hne : w9.heap.size ≠ g := by have := G10.out; omega
          exact (Below.heap_setCell _ ⟨g, _, none⟩ _ _ hne).trans ((Below.heap_setCell _ ⟨g, _, none⟩ _ _ hne).trans X10.out))
        have x0 := cell_of_row w11 _ 0 _ _ _ X11.out
        have x1 := cell_of_row w11 _ 1 _ _ _ X11.out
        simp at x0 x1
        have f0 := O11.out.frozen (u * 2)
        have f1 := O11.out.frozen (u * 2 + 1)
        clear hw11 d0 d1 O10 B10 X10 y0 y1
        obtain ⟨v0, hv0⟩ : ∃ v0, v0 = gi (se xs (m + 1) (gi xs (u * 2)) (gi xs (u * 2 + 1))) (u * 2) := ⟨_, rfl⟩
        obtain ⟨v1, hv1⟩ : ∃ v1, v1 = gi (se xs (m + 1) (gi xs (u * 2)) (gi xs (u * 2 + 1))) (u * 2 + 1) := ⟨_, rfl⟩
        have y0 : w11.cell? ⟨g, u * 2, none⟩ = some (.int .i64 v0) := by rw [hv0]; exact O11.out.cell (by have := HU.out; omega)
        have y1 : w11.cell? ⟨g, u * 2 + 1, none⟩ = some (.int .i64 v1) := by rw [hv1]; exact O11.out.cell (by have := HU.out; omega)
        clear hv0 hv1
        go_upto_region 7 with (fail)
        obtain ⟨w12, hw12⟩ : ∃ w12, w12 = (w11.setCell ⟨g, u * 2, none⟩ (.int .i64 (gi xs ((m + 1) * 2)))).setCell ⟨g, u * 2 + 1, none⟩ (.int .i64 (gi xs ((m + 1) * 2 + 1))) := ⟨_, rfl⟩
        rw [← hw12]
        have O12 := Lib.hid (show OR 26 2 w12 base (some ⟨g, 0, none⟩) (n + 1) c' (swp xs (m + 1) u) by rw [hw12]; exact (O11.out.set _ _).set _ _)
        have B12 := Lib.hid (show Below base w w12 by rw [hw12]; exact (B11.out.setCell (p := ⟨g, u * 2, none⟩) GB.out _).setCell (p := ⟨g, u * 2 + 1, none⟩) GB.out _)
        clear hw12 x0 x1 f0 f1 y0 y1 O11 B11 X11
        go_wp2
        go_roundw
        case rel => exact ⟨u, _, by have := HU.out; omega, rfl, O12.out, UE.out, B12.out⟩
        case measure => have := HU.out; simp [intOf]; omega

end Go.Proofs.Ytckapndpefkcgaa
