/-
  The program's heap that is pointed at: how it is made and how it is asked. No conditions beyond that the heap can be read.
-/
import Derived.BigRegion
import Derived.BigQuiet
import Derived.StillTailTactics
import Derived.Deep.RegionHeld3
import Derived.Laws.Tables
import Derived.Laws.CopyOwn
import Derived.Test.YtckapndpefkcgaaImpl4a
import Derived.Test.YtckapndpefkcgaaMath4
import Derived.Test.YtckapndpefkcgaaKit4
set_option maxHeartbeats 1000000
namespace Go.Proofs.Ytckapndpefkcgaa
open Go.RowKit
set_option maxRecDepth 100000

theorem or_of' {t : TypeId} {m : Nat} {w : World} {base n : Nat} {v : Value} {hs : List Int} (h : w.ownsRow base t m v n (vals hs)) : ∃ A c, v = .slice A n c ∧ OR t m w base A n c hs := by
  rcases h.2 with ⟨rfl, rfl⟩ | ⟨g, cap, cur, rfl, _⟩
  · exact ⟨none, 0, rfl, h⟩
  · exact ⟨some ⟨g, 0, none⟩, cap, rfl, h⟩

structure HB (w : World) (base hb : Nat) (A : Option Addr) (n c : Nat) (hs : List Int) : Prop where
  box : w.heap[hb]? = some (.cells #[.slice A n c, .func (.func 21) #[] #[]] 83 (0, 0))
  own : OR 26 2 w base A n c hs
  hb0 : base ≤ hb
section
variable {w w' : World} {base hb n c g : Nat} {A : Option Addr} {hs : List Int}
theorem HB.lt (h : HB w base hb A n c hs) : hb < w.heap.size := (Array.getElem?_eq_some_iff.1 h.box).1
theorem HB.ne (h : HB w base hb (some ⟨g, 0, none⟩) n c hs) : g ≠ hb := by
  rintro rfl
  rcases h.own.2 with ⟨h', _⟩ | ⟨g', cap', cur, h', _, hg, _⟩
  · cases h'
  · injection h' with h' _ _
    injection h' with h'
    injection h' with h'
    subst h'
    have e := h.box.symm.trans hg
    injection e with e
    injection e with _ e _
    exact absurd e (by decide)
theorem HB.cells (h : HB w base hb A n c hs) : w.cell? ⟨hb, 0, none⟩ = some (.slice A n c) ∧ w.cell? ⟨hb, 1, none⟩ = some (.func (.func 21) #[] #[]) :=
  ⟨cell_of_row w _ 0 _ _ _ h.box, cell_of_row w _ 1 _ _ _ h.box⟩
theorem HB.below (h : HB w base hb A n c hs) {B : Nat} (b : Below B w w') (hB : w.heap.size ≤ B) : HB w' base hb A n c hs :=
  ⟨(b.block hb (by have := h.lt; omega)).trans h.box, h.own.below b hB, h.hb0⟩
end

set_option maxHeartbeats 1000000 in
theorem cloneE_any (lo hi : Nat) (A : Option Addr) (n c : Nat) (xs : List Int) (w : World) (hn : n * 16 ≤ 140737488351232) (ex : xs.length = n * 2) (hA : A = none → c = 0) (h : Sl w lo hi A (n * 2) (fun k => .int .i64 (gi xs k))) :
    Calls Try.prog 102 #[.slice A n c] w fun e w' => ∃ A' c', e = .returned (.slice A' n c') ∧ OR 26 2 w' w.heap.size A' n c' xs ∧ Below w.heap.size w w' := by
  have H := Lib.hid h
  have EX := Lib.hid ex
  have HA := Lib.hid hA
  clear h ex hA
  obtain ⟨i0, hi0, hz0, hz1, hz2⟩ := info_parts Try.info_Entry
  have own0 : Hid ((w.alloc (.cells #[] 26)).ownsRow w.heap.size 26 2 (.slice (some ⟨w.heap.size, 0, none⟩) 0 0) 0 []) :=
    ⟨rfl, .inr ⟨w.heap.size, 0, #[], rfl, Nat.le_refl _, heap_alloc_new _ _, Nat.le_refl _, by simp [maxLen], rfl, rfl⟩⟩
  have b0 : Hid (Below w.heap.size w (w.alloc (.cells #[] 26))) := (Below.refl _ _).alloc (Nat.le_refl _) _
  rcases A with _ | ad
  · have hn0 : n = 0 := by
      rcases Nat.eq_zero_or_pos n with h0 | h0
      · exact h0
      · obtain ⟨_, _, hx, _⟩ := H.out 0 (by omega)
        cases hx
    subst hn0
    obtain rfl := HA.out rfl
    obtain rfl : xs = [] := by have := EX.out; simpa using this
    have hnl : ∀ W, (binOp .eql 24 (.slice none 0 0) (.slice none 0 0)).run Try.prog W = .ok (.bool true) W := fun W => by first | rfl | kernel_rfl | simp [go_sem, Try.underlying24]
    go_enter Try.func102, Try.ntmps102
    go_wp2
    go_ret
    first | exact ⟨none, 0, rfl, OR.void _ _, Below.refl _ _⟩ | exact ⟨⟨none, 0, rfl, OR.void _ _⟩, Below.refl _ _⟩ | exact ⟨none, ⟨0, rfl, OR.void _ _⟩, Below.refl _ _⟩ | exact ⟨none, 0, ⟨rfl, OR.void _ _⟩, Below.refl _ _⟩
  · have NW : Hid (∀ j u, (vals xs)[j]? = some u → (w.alloc (.cells #[] 26)).cell? (ad.add j) = some u) := by
      intro j u hu
      have hj : j < xs.length := by have := (List.getElem?_eq_some_iff.1 hu).1; simpa [vals] using this
      rw [vals_get xs j hj] at hu
      injection hu with hu
      subst hu
      obtain ⟨b, off, hx, h1, h2, hc⟩ := (H.out.lt) j (by rw [← EX.out]; exact hj)
      injection hx with hx
      subst hx
      rw [Go.WideShapes.add_plain]
      exact (b0.out.cell (p := ⟨b, off + j, none⟩) (by simp; omega)).trans hc
    have ON : Hid (∀ u ∈ vals xs, u.oneCell' = true) := by
      intro u hu
      simp only [vals, List.mem_map] at hu
      obtain ⟨_, _, rfl⟩ := hu
      rfl
    have LN : Hid ((vals xs).length = n * 2) := by simp [Hid, vals, EX.out]
    have hnl : ∀ W, (binOp .eql 24 (.slice (some ad) n c) (.slice none 0 0)).run Try.prog W = .ok (.bool false) W := fun W => by first | rfl | kernel_rfl | simp [go_sem, Try.underlying24]
    go_enter Try.func102, Try.ntmps102
    go_wp2_with (at_builtin; refine wpList_append_own _ rfl (.tmp 5) (.tmp 6) 24 rfl w.heap.size 26 i0 (.agg #[.int .i64 0, .int .i64 0]) 2 16 Try.underlying24 hi0 hz0 hz1 hz2 rfl (by decide) _ 0 [] rfl own0.out ad n c (vals xs) rfl LN.out NW.out ON.out (by unfold maxLen; omega) (by omega) b0.out.size ?_; intro v' w1 hown hgrow _; have HO := Lib.hid hown; have HG := Lib.hid hgrow; clear hown hgrow)
    go_ret
    have hb : Below w.heap.size w w1 := b0.out.grown HG.out b0.out.size (fun k hk => by have hk' : some w.heap.size = some k := hk; injection hk' with e; omega)
    have ho := HO.out
    simp only [Nat.zero_add, List.nil_append] at ho
    obtain ⟨A', c', rfl, ho⟩ := or_of' ho
    exact ⟨A', c', rfl, ho, hb⟩

theorem heapWith_any (lo hi : Nat) (A : Option Addr) (n c : Nat) (xs : List Int) (w : World) (hn : n * 16 ≤ 140737488351232) (ex : xs.length = n * 2) (hA : A = none → c = 0) (h : Sl w lo hi A (n * 2) (fun k => .int .i64 (gi xs k))) :
    Calls Try.prog 59 #[.slice A n c] w fun e w' => ∃ hb A' c', e = .returned (.pointer (some ⟨hb, 0, none⟩)) ∧ HB w' w.heap.size hb A' n c' xs ∧ Below w.heap.size w w' := by
  go_enter Try.func59, Try.ntmps59
  go_wp2_with fail
  refine (cloneE_any lo hi A n c xs w hn ex hA h).mono ?_
  rintro e w1 ⟨A', c', rfl, ho, hb⟩
  have HO := Lib.hid ho; have HBl := Lib.hid hb
  clear ho hb h ex hA
  go_wp2
  go_ret
  exact ⟨_, A', c', rfl, ⟨heap_alloc_new w1 _, HO.out.alloc _, HBl.out.size⟩, HBl.out.alloc HBl.out.size _⟩

set_option maxHeartbeats 1000000 in
theorem isLessAt_any (base hb : Nat) (A : Option Addr) (n c : Nat) (hs : List Int) (i j : Nat) (w : World) (h : HB w base hb A n c hs) (hi : i < n) (hj : j < n) :
    Calls Try.prog 103 #[.pointer (some ⟨hb, 0, none⟩), .int .i64 (i : Int), .int .i64 (j : Int)] w fun e w' => e = .returned (.bool (less4 hs i j)) ∧ Below w.heap.size w w' := by
  obtain ⟨g, rfl, _, _⟩ := OR.pos h.own (by omega)
  obtain ⟨q0, q1⟩ := h.cells
  have c0 : w.cell? ⟨g, i * 2, none⟩ = some (.int .i64 (gi hs (i * 2))) := h.own.cell (by omega)
  have c1 : w.cell? ⟨g, i * 2 + 1, none⟩ = some (.int .i64 (gi hs (i * 2 + 1))) := h.own.cell (by omega)
  have d0 : w.cell? ⟨g, j * 2, none⟩ = some (.int .i64 (gi hs (j * 2))) := h.own.cell (by omega)
  have d1 : w.cell? ⟨g, j * 2 + 1, none⟩ = some (.int .i64 (gi hs (j * 2 + 1))) := h.own.cell (by omega)
  have z0 : (0 : Int) ≤ (i : Int) := by omega
  have z1 : (i : Int) < (n : Int) := by omega
  have z2 : (0 : Int) ≤ (j : Int) := by omega
  have z3 : (j : Int) < (n : Int) := by omega
  clear h
  go_enter Try.func103, Try.ntmps103
  go_wp2_with fail
  go_still_tail 18, (by kernel_rfl)
  change wpList _ _ _ _ _ w.drew
  have HBD : Hid (Below w.heap.size w w.drew) := Below.drew (Below.refl _ _)
  generalize w.drew = w8 at *
  go_wp2_with fail
  refine (implIsLess_any _ _ _ _ _).mono ?_
  rintro e w9 ⟨rfl, hb1⟩
  have HB9 := Lib.hid (HBD.out.trans (hb1.mono HBD.out.size))
  clear hb1
  go_wp2
  go_ret
  exact ⟨rfl, HB9.out⟩

set_option maxHeartbeats 1000000 in
theorem swap_any (base hb : Nat) (g n c : Nat) (hs : List Int) (i j : Nat) (w : World) (h : HB w base hb (some ⟨g, 0, none⟩) n c hs) (hi : i < n) (hj : j < n) (hij : i ≠ j) :
    Calls Try.prog 105 #[.pointer (some ⟨hb, 0, none⟩), .int .i64 (i : Int), .int .i64 (j : Int)] w fun e w' => e = .returned (.tuple #[]) ∧ HB w' base hb (some ⟨g, 0, none⟩) n c (swp hs i j) ∧ Kept [g] w w' := by
  obtain ⟨q0, q1⟩ := h.cells
  have c0 : w.cell? ⟨g, i * 2, none⟩ = some (.int .i64 (gi hs (i * 2))) := h.own.cell (by omega)
  have c1 : w.cell? ⟨g, i * 2 + 1, none⟩ = some (.int .i64 (gi hs (i * 2 + 1))) := h.own.cell (by omega)
  have d0 : w.cell? ⟨g, j * 2, none⟩ = some (.int .i64 (gi hs (j * 2))) := h.own.cell (by omega)
  have d1 : w.cell? ⟨g, j * 2 + 1, none⟩ = some (.int .i64 (gi hs (j * 2 + 1))) := h.own.cell (by omega)
  have z0 : (0 : Int) ≤ (i : Int) := by omega
  have z1 : (i : Int) < (n : Int) := by omega
  have z2 : (0 : Int) ≤ (j : Int) := by omega
  have z3 : (j : Int) < (n : Int) := by omega
  have f0 := h.own.frozen (i * 2)
  have f1 := h.own.frozen (i * 2 + 1)
  have f2 := h.own.frozen (j * 2)
  have f3 := h.own.frozen (j * 2 + 1)
  have hne : hb ≠ g := Ne.symm h.ne
  have HH := Lib.hid h
  have e1 : i * 2 ≠ j * 2 := by omega
  have e2 : i * 2 + 1 ≠ j * 2 := by omega
  have e3 : i * 2 ≠ j * 2 + 1 := by omega
  have e4 : i * 2 + 1 ≠ j * 2 + 1 := by omega
  clear h
  go_enter Try.func105, Try.ntmps105
  go_wp2_with fail
  go_region
  go_end0
  have far : ∀ b, b ≠ g → ((((w.setCell ⟨g, i * 2, none⟩ (.int .i64 (gi hs (j * 2)))).setCell ⟨g, i * 2 + 1, none⟩ (.int .i64 (gi hs (j * 2 + 1)))).setCell ⟨g, j * 2, none⟩ (.int .i64 (gi hs (i * 2)))).setCell ⟨g, j * 2 + 1, none⟩ (.int .i64 (gi hs (i * 2 + 1)))).heap[b]? = w.heap[b]? := fun b hb =>
    (Below.heap_setCell _ ⟨g, _, none⟩ _ b hb).trans ((Below.heap_setCell _ ⟨g, _, none⟩ _ b hb).trans ((Below.heap_setCell _ ⟨g, _, none⟩ _ b hb).trans (Below.heap_setCell _ ⟨g, _, none⟩ _ b hb)))
  exact ⟨rfl, ⟨(far hb hne).trans HH.out.box, ((((HH.out.own.set _ _).set _ _).set _ _).set _ _).drewN 1, HH.out.hb0⟩, (((((Kept.refl [g] w).setCell (p := ⟨g, i * 2, none⟩) (by simp) _).setCell (p := ⟨g, i * 2 + 1, none⟩) (by simp) _).setCell (p := ⟨g, j * 2, none⟩) (by simp) _).setCell (p := ⟨g, j * 2 + 1, none⟩) (by simp) _).drewN 1⟩

end Go.Proofs.Ytckapndpefkcgaa
