/-
  The walk of FnExactHeapOf: whatever the list that came in, it returns true.
-/
import Derived.Test.YtfaamjbdffcngaaKit4b
import Derived.Test.YtfaamjbdffcngaaSpec4h
import Derived.Test.YtfaamjbdffcngaaImpl4i
import Derived.Test.YtfaamjbdffcngaaImpl4j
namespace Go.Proofs.Ytfaamjbdffcngaa
open Go.RowKit
set_option maxRecDepth 100000

theorem or_neT {t t' : TypeId} {m : Nat} {w : World} {base gx n c g : Nat} {hs : List Int} {cs : Array Value} (k : w.heap[gx]? = some (.cells cs t' (0, 0))) (hne : t ≠ t') (h : OR t m w base (some ⟨g, 0, none⟩) n c hs) : g ≠ gx := by
  rintro rfl
  rcases h.2 with ⟨h', _⟩ | ⟨g', cap', cur, h', _, hg, _⟩
  · cases h'
  · injection h' with h' _ _
    injection h' with h'
    injection h' with h'
    subst h'
    have e := k.symm.trans hg
    injection e with e
    injection e with _ e _
    exact hne e.symm

set_option maxHeartbeats 8000000 in
theorem walkHeapOf (A : Option Addr) (n c : Nat) (xs : List Int) (w : World) (hn : n ≤ 9223372036854775807) (hl : xs.length = n * 2) (h : Sl w 0 w.heap.size A (n * 2) (fun k => .int .i64 (gi xs k))) :
    Calls Try.prog 8 #[.slice A n c] w fun e w' => e = .returned (.bool true) ∧ Below w.heap.size w w' := by
  obtain ⟨w1, hw1⟩ : ∃ w1, w1 = w := ⟨_, rfl⟩
  have B1 := Lib.hid (show Below w.heap.size w w1 by rw [hw1]; exact Below.refl _ _)
  have Z1 := Lib.hid (show w1.heap.size = w.heap.size by rw [hw1])
  have HW1 := Lib.hid hw1
  have HL := Lib.hid hl
  have HS := Lib.hid (show Sl w1 0 w.heap.size A (n * 2) (fun k => .int .i64 (gi xs k)) by rw [hw1]; exact h)
  clear h hl hw1
  have SZ := Lib.hid (szEntryS_any A n c w1 hn)
  have FIN : Hid (∀ W, Below w1.heap.size w1 W → Below w1.heap.size w1 W) := fun W hW => hW
  have TK : Hid (∀ W, Below w1.heap.size w1 W → n ≤ 1048576 → Calls Try.prog 30 #[.slice A n c] W fun e w' => e = .returned (.slice (some ⟨W.heap.size, 0, none⟩) n n) ∧ Mine w' W.heap.size (W.heap.size + 1) 26 (some ⟨W.heap.size, 0, none⟩) (n * 2) (fun k => .int .i64 (gi xs k)) ∧ Below W.heap.size W w' ∧ W.heap.size < w'.heap.size) := fun W hW h20 =>
    (toEntryS_any 0 w.heap.size A n c (gi xs) W (by omega) (HS.out.below hW (by have := Z1.out; omega)) (by have := hW.size; have := Z1.out; omega)).mono fun e w' ⟨h1, h2, h3⟩ => ⟨h1, .inr ⟨_, 0, rfl, Nat.le_refl _, Nat.lt_succ_self _, h2⟩, h3, h2.lt⟩
  go_enter Try.func8, Try.ntmps8
  rw [← HW1.out]
  clear HW1
  go_wp2_with fail
  refine SZ.out.mono ?_
  rintro e9 w2 ⟨rfl, rfl⟩
  clear SZ hn
  by_cases hs : n ≤ 1048576
  rotate_left
  · rw [if_neg hs]
    go_wp2
    go_ret
    exact ⟨rfl, FIN.out _ (Below.refl _ _)⟩
  have z20 : ¬ (1048576 - (n : Int) < 0) := by omega
  rw [if_pos hs]
  have H20 := Lib.hid hs
  have SP : Hid (∀ W u, Mine W u (u + 1) 26 (some ⟨u, 0, none⟩) (n * 2) (fun k => .int .i64 (gi xs k)) → Calls Try.prog 22 #[.slice (some ⟨u, 0, none⟩) n n] W (fun e w' => ∃ A' n' c', e = .returned (.agg #[.int .i64 (heapOf4 xs n).1, .slice A' n' c']) ∧ OR 26 2 w' W.heap.size A' n' c' (heapOf4 xs n).2 ∧ Below W.heap.size W w')) := fun W u hm =>
    specHeapOf_any u (u + 1) _ n n xs W (by have := H20.out; omega) hm.sl
  have IP : Hid (∀ W u, Mine W u (u + 1) 26 (some ⟨u, 0, none⟩) (n * 2) (fun k => .int .i64 (gi xs k)) → Calls Try.prog 16 #[.slice (some ⟨u, 0, none⟩) n n] W (fun e w' => ∃ A' n' c', e = .returned (.agg #[.int .i64 (heapOf4 xs n).1, .slice A' n' c']) ∧ OR 26 2 w' W.heap.size A' n' c' (heapOf4 xs n).2 ∧ Below W.heap.size W w')) := fun W u hm =>
    implHeapOf_any u (u + 1) _ n n xs W (by have := H20.out; omega) hm.sl
  have SD : Hid (∃ j, ((heapOf4 xs n).2).length = j * 2 ∧ j ≤ 12) := heapOf4_len xs n
  generalize (heapOf4 xs n).1 = q at *
  generalize (heapOf4 xs n).2 = H at *
  go_wp2_with fail
  refine (TK.out _ (Below.refl _ _) H20.out).mono ?_
  rintro e9 w3 ⟨rfl, hm, hb, hs3⟩
  have R3 := Lib.hid hb
  have M3 := Lib.hid hm
  clear hb hm hs3
  go_wp2_with fail
  refine (SP.out _ _ M3.out).mono ?_
  rintro e9 w4 ⟨Aa, na, ca, rfl, ho, hb⟩
  obtain ⟨w5, hw5⟩ : ∃ w5, w5 = w4.alloc (.cells #[.int .i64 q, .slice Aa na ca] 30) := ⟨_, rfl⟩
  obtain ⟨b6, hb6⟩ : ∃ b6, b6 = w4.heap.size := ⟨_, rfl⟩
  have xa : w5.heap[b6]? = some (.cells #[.int .i64 q, .slice Aa na ca] 30 (0, 0)) := by rw [hw5, hb6]; exact heap_alloc_new w4 _
  have hb45 : Below w4.heap.size w4 w5 := by rw [hw5]; exact below_new w4 _
  have oa : OR 26 2 w5 w1.heap.size Aa na ca H := OR.mono (OR.below ho hb45 (Nat.le_refl _)) R3.out.size
  have hb3 := R3.out.trans (hb.mono R3.out.size)
  have za : w1.heap.size ≤ b6 ∧ b6 < w5.heap.size := ⟨by rw [hb6]; exact hb3.size, by rw [hw5, hb6]; simp⟩
  have hb : Below w1.heap.size w1 w5 := hb3.trans (hb45.mono hb3.size)
  have HW5 := Lib.hid hw5; have HB6 := Lib.hid hb6
  clear hw5 hb6 ho hb45 hb3 M3 R3
  go_upto_region 6 with (fail)
  rw [← HW5.out, ← HB6.out]
  clear HW5 HB6
  have XA := Lib.hid xa; have OA := Lib.hid oa; have ZA := Lib.hid za; have R5 := Lib.hid hb
  clear xa oa za hb SP
  go_wp2_with fail
  refine (TK.out _ R5.out H20.out).mono ?_
  rintro e9 w6 ⟨rfl, hm, hb, hs6⟩
  obtain ⟨u, hu⟩ : ∃ u, u = w5.heap.size := ⟨_, rfl⟩
  rw [← hu] at hm hs6 ⊢
  have M6 := Lib.hid hm
  have XA6 := Lib.hid ((hb.block b6 ZA.out.2).trans XA.out)
  have OA6 := Lib.hid (OA.out.below hb (Nat.le_refl _))
  have LA := Lib.hid (show ∀ g, Aa = some ⟨g, 0, none⟩ → g < u from fun g e => by rw [hu]; have := OA.out; subst e; exact (OR.lt this).2)
  have Z6 := Lib.hid (show b6 < u ∧ u < w6.heap.size ∧ w1.heap.size ≤ b6 ∧ w1.heap.size ≤ u by have := ZA.out; have := R5.out.size; omega)
  have R6 := Lib.hid (R5.out.trans (hb.mono R5.out.size))
  clear hm hb hs6 hu XA OA ZA R5
  go_wp2_with fail
  refine (IP.out _ _ M6.out).mono ?_
  rintro e9 w7 ⟨Ab, nb, cb, rfl, ho, hb⟩
  obtain ⟨w8, hw8⟩ : ∃ w8, w8 = w7.alloc (.cells #[.int .i64 q, .slice Ab nb cb] 30) := ⟨_, rfl⟩
  obtain ⟨b8, hb8⟩ : ∃ b8, b8 = w7.heap.size := ⟨_, rfl⟩
  have hb78 : Below w7.heap.size w7 w8 := by rw [hw8]; exact below_new w7 _
  have hb68 : Below w6.heap.size w6 w8 := hb.trans (hb78.mono hb.size)
  have XB := Lib.hid (show w8.heap[b8]? = some (.cells #[.int .i64 q, .slice Ab nb cb] 30 (0, 0)) by rw [hw8, hb8]; exact heap_alloc_new w7 _)
  have lb := OR.len ho; have la := OA6.out.len
  obtain rfl : na = nb := by omega
  obtain ⟨gb, hgb, hmb⟩ : ∃ gb, ((na = 0 ∧ gb = u) ∨ (w6.heap.size ≤ gb ∧ gb < b8)) ∧ Mine w8 gb (gb + 1) 26 Ab (na * 2) (fun k => .int .i64 (gi H k)) := by
    rcases Nat.eq_zero_or_pos na with rfl | h0
    · exact ⟨u, .inl ⟨rfl, rfl⟩, .inl rfl⟩
    · obtain ⟨g, rfl, h1, h2⟩ := OR.pos ho h0
      exact ⟨g, .inr ⟨h1, by omega⟩, .inr ⟨g, 0, rfl, Nat.le_refl _, Nat.lt_succ_self _, (OR.below ho hb78 (Nat.le_refl _)).row⟩⟩
  have MB := Lib.hid hmb
  have ZB := Lib.hid (show ((na = 0 ∧ gb = u) ∨ (w6.heap.size ≤ gb ∧ gb < b8)) ∧ b8 < w8.heap.size ∧ w6.heap.size ≤ b8 from ⟨hgb, by rw [hw8, hb8]; simp, by rw [hb8]; exact hb.size⟩)
  have NS := Lib.hid (show na ≤ 12 by obtain ⟨j, h1, h2⟩ := SD.out; omega)
  have XA8 := Lib.hid ((hb68.block b6 (by have := Z6.out; omega)).trans XA6.out)
  have OA8 := Lib.hid (OA6.out.below hb68 (Nat.le_refl _))
  have M8 := Lib.hid (M6.out.below hb68 Z6.out.2.1)
  have R8 := Lib.hid (R6.out.trans (hb68.mono R6.out.size))
  have HW8 := Lib.hid hw8; have HB8 := Lib.hid hb8
  clear hw8 hb8 ho hb hb78 hb68 hmb hgb lb la M6 XA6 OA6 R6
  have UP : Hid (∀ W, Kept [u, gb] w8 W → Below w1.heap.size w1 W) := fun W hW => R8.out.trans (hW.below R8.out.size (fun b hb => by have := Z6.out; have := ZB.out; simp at hb; omega))
  have QA : Hid (∀ W, Kept [u, gb] w8 W → (W.cell? ⟨b8, 0, none⟩ = some (.int .i64 q) ∧ W.cell? ⟨b8, 1, none⟩ = some (.slice Ab na cb)) ∧ (W.cell? ⟨b6, 0, none⟩ = some (.int .i64 q) ∧ W.cell? ⟨b6, 1, none⟩ = some (.slice Aa na ca)) ∧ OR 26 2 W w1.heap.size Aa na ca H) := fun W hW => by
    have z6 := Z6.out; have zb := ZB.out
    have j8 := (hW.2 b8 (by omega) (by simp; omega)).trans XB.out
    have j6 := (hW.2 b6 (by omega) (by simp; omega)).trans XA8.out
    exact ⟨⟨cell_of_row W _ 0 _ _ _ j8, cell_of_row W _ 1 _ _ _ j8⟩, ⟨cell_of_row W _ 0 _ _ _ j6, cell_of_row W _ 1 _ _ _ j6⟩, OA8.out.kept hW (fun g e => by have := LA.out g e; simp; omega)⟩
  obtain ⟨⟨x0, x1⟩, ⟨y0, y1⟩, oA⟩ := QA.out w8 (Kept.refl _ _)
  clear XA8 OA8 XB
  go_upto_region 8 with (fail)
  rw [← HW8.out, ← HB8.out]
  clear HW8 HB8
  have ZM := Lib.hid (show u < w8.heap.size ∧ gb < w8.heap.size by have := Z6.out; have := ZB.out; omega)
  go_wp2_with fail
  refine (eqHeapR_own gb (gb + 1) w1.heap.size w8.heap.size Ab Aa na cb ca q H w8 (by have := NS.out; omega) MB.out.sl oA.sl0).mono ?_
  rintro e9 w9 ⟨rfl, hb⟩
  have K9 := Lib.hid (Kept.of_below hb [u, gb])
  have MB9 := Lib.hid (MB.out.below hb ZM.out.2)
  have M9 := Lib.hid (M8.out.below hb ZM.out.1)
  have S9 := Lib.hid hb.size
  clear hb MB M8
  clear x0 y0 x1 y1 oA
  go_wp2_with fail
  refine (TK.out _ (UP.out _ K9.out) H20.out).mono ?_
  rintro e9 w10 ⟨rfl, hm, hb, _⟩
  have K10 := Lib.hid (K9.out.then_below hb)
  have MB10 := Lib.hid (MB9.out.below hb (by have := ZM.out; have := S9.out; omega))
  have M10 := Lib.hid (M9.out.below hb (by have := ZM.out; have := S9.out; omega))
  have N10 := Lib.hid hm
  have S10 := Lib.hid (Nat.le_trans S9.out hb.size)
  clear hb hm MB9 M9 K9 S9
  go_wp2_with fail
  refine (eqEntryS_same _ _ _ _ _ _ n _ _ (gi xs) _ (by have := H20.out; omega) M10.out.sl N10.out.sl).mono ?_
  rintro e9 w11 ⟨rfl, hb⟩
  have K11 := Lib.hid (K10.out.then_below hb)
  have MB11 := Lib.hid (MB10.out.below hb (by have := ZM.out; have := S10.out; omega))
  have M11 := Lib.hid (M10.out.below hb (by have := ZM.out; have := S10.out; omega))
  have S11 := Lib.hid (Nat.le_trans S10.out hb.size)
  clear hb MB10 M10 N10 K10 S10
  go_wp2_with fail
  refine (markEntryS_any u (u + 1) _ n n _ 1 w11 (by have := H20.out; omega) (by omega) (fun k _ => ⟨_, rfl⟩) M11.out).mono ?_
  rintro e9 w12 ⟨rfl, _, ho⟩
  have hk12 := Kept.of_only4 ho
  have K12 := Lib.hid (K11.out.trans (hk12.mono (gs' := [u, gb]) (fun b hb _ => by simp at hb; subst hb; simp)))
  have MB12 : Hid (Mine w12 gb (gb + 1) 26 Ab (na * 2) (fun k => .int .i64 (gi H k))) := by
    rcases ZB.out.1 with ⟨h0, _⟩ | h
    · exact .inl (by omega)
    · exact MB11.out.kept hk12 (by have := Z6.out; simp; omega)
  have S12 := Lib.hid (Nat.le_trans S11.out hk12.1.size)
  obtain ⟨tk, htk⟩ : ∃ tk : Nat, tk = 1 + n * 2 := ⟨_, rfl⟩
  rw [← htk]
  have t0 : ((tk : Int) < 0) = False := by simp
  clear htk ho hk12 M11 MB11 K11 S11
  obtain ⟨⟨x0, x1⟩, ⟨y0, y1⟩, oA⟩ := QA.out w12 K12.out
  go_wp2_with fail
  refine (eqHeapR_own gb (gb + 1) w1.heap.size w12.heap.size Ab Aa na cb ca q H w12 (by have := NS.out; omega) MB12.out.sl oA.sl0).mono ?_
  rintro e9 w13 ⟨rfl, hb⟩
  have K13 := Lib.hid (K12.out.then_below hb)
  have MB13 := Lib.hid (MB12.out.below hb (by have := ZM.out; have := S12.out; omega))
  have S13 := Lib.hid (Nat.le_trans S12.out hb.size)
  clear hb MB12 K12 S12 t0
  clear x0 y0 x1 y1 oA
  obtain ⟨⟨x0, x1⟩, ⟨y0, y1⟩, oA⟩ := QA.out w13 K13.out
  go_wp2_with fail
  refine (markHeapR_own gb Ab na cb q H w13 (by have := NS.out; omega) MB13.out (by have := ZM.out; have := S13.out; omega)).mono ?_
  rintro e9 w14 ⟨rfl, hm, hk⟩
  have K14 := Lib.hid (K13.out.trans (hk.mono (gs' := [u, gb]) (fun b hb _ => by simp at hb; subst hb; simp)))
  have MK := Lib.hid hm
  have S14 := Lib.hid (Nat.le_trans S13.out hk.1.size)
  obtain ⟨tot, ht⟩ : ∃ tot : Nat, tot = 1 + na * 2 := ⟨_, rfl⟩
  rw [← ht]
  have HE : Hid (∀ W, Below w14.heap.size w14 W → Calls Try.prog 35 #[.agg #[.int .i64 q, .slice Ab na cb], .int .i64 1] W fun e w' => e = .returned (.int .i64 (tot : Int)) ∧ Below w14.heap.size w14 w') := fun W hW => by
    have := heldHeapR_own gb Ab na cb q W (by have := NS.out; omega) (MK.out.below hW (by have := ZM.out; have := S14.out; omega)) (by have := ZM.out; have := S14.out; have := hW.size; omega)
    rw [← ht] at this
    exact this.mono fun e w' hh => ⟨hh.1, hW.trans (hh.2.mono hW.size)⟩
  have t1 : ((tot : Int) < 0) = False := by simp
  have t2 : ((tot : Int) != (tot : Int)) = false := by simp
  clear ht hm hk MB13 K13 S13
  clear x0 y0 x1 y1 oA
  obtain ⟨⟨x0, x1⟩, ⟨y0, y1⟩, oA⟩ := QA.out w14 K14.out
  go_wp2_with fail
  refine (HE.out _ (Below.refl _ _)).mono ?_
  rintro e9 w15 ⟨rfl, hb⟩
  have H15 := Lib.hid hb
  have K15 := Lib.hid (K14.out.then_below hb)
  clear hb
  clear x0 y0 x1 y1 oA
  go_wp2_with fail
  refine (TK.out _ (UP.out _ K15.out) H20.out).mono ?_
  rintro e9 w16 ⟨rfl, hm, hb, _⟩
  have M16 := Lib.hid hm
  have K16 := Lib.hid (K15.out.then_below hb)
  have H16 := Lib.hid (H15.out.trans (hb.mono H15.out.size))
  clear hm hb
  go_wp2_with fail
  refine (IP.out _ _ M16.out).mono ?_
  rintro e9 w16' ⟨Ac, nc, cc, rfl, ho, hb⟩
  obtain ⟨w17, hw17⟩ : ∃ w17, w17 = w16'.alloc (.cells #[.int .i64 q, .slice Ac nc cc] 30) := ⟨_, rfl⟩
  obtain ⟨b12, hb12⟩ : ∃ b12, b12 = w16'.heap.size := ⟨_, rfl⟩
  have hb17 : Below w16'.heap.size w16' w17 := by rw [hw17]; exact below_new w16' _
  have XC := Lib.hid (show w17.heap[b12]? = some (.cells #[.int .i64 q, .slice Ac nc cc] 30 (0, 0)) by rw [hw17, hb12]; exact heap_alloc_new w16' _)
  have OC := Lib.hid (OR.below ho hb17 (Nat.le_refl _))
  have K17 := Lib.hid ((K16.out.then_below hb).then_below hb17)
  have H17 := Lib.hid ((H16.out.trans (hb.mono H16.out.size)).trans (hb17.mono (H16.out.trans (hb.mono H16.out.size)).size))
  have HW17 := Lib.hid hw17; have HB12 := Lib.hid hb12
  clear hw17 hb12 ho hb hb17 M16 K16 H16
  go_upto_region 25 with (fail)
  rw [← HW17.out, ← HB12.out]
  clear HW17 HB12
  obtain ⟨⟨x0, x1⟩, ⟨y0, y1⟩, oA⟩ := QA.out w17 K17.out
  obtain ⟨r0, r1⟩ : w17.cell? ⟨b12, 0, none⟩ = some (.int .i64 q) ∧ w17.cell? ⟨b12, 1, none⟩ = some (.slice Ac nc cc) := ⟨cell_of_row w17 _ 0 _ _ _ XC.out, cell_of_row w17 _ 1 _ _ _ XC.out⟩
  have la := oA.len; have lc := OC.out.len
  obtain rfl : na = nc := by omega
  clear la lc
  go_wp2_with fail
  refine (eqHeapR_own _ w17.heap.size w1.heap.size w17.heap.size Ac Aa na cc ca q H w17 (by have := NS.out; omega) OC.out.sl0 oA.sl0).mono ?_
  rintro e9 w18 ⟨rfl, hb⟩
  have K18 := Lib.hid (K17.out.then_below hb)
  have H18 := Lib.hid (H17.out.trans (hb.mono H17.out.size))
  clear hb r0 r1 OC XC
  clear x0 y0 x1 y1 oA
  obtain ⟨⟨x0, x1⟩, ⟨y0, y1⟩, oA⟩ := QA.out w18 K18.out
  go_wp2_with fail
  refine (HE.out _ H18.out).mono ?_
  rintro e9 w19 ⟨rfl, hb⟩
  have FR := Lib.hid (FIN.out _ (UP.out _ (K14.out.then_below hb)))
  clear hb
  clear x0 y0 x1 y1 oA
  go_wp2
  go_ret
  exact ⟨rfl, FR.out⟩

end Go.Proofs.Ytfaamjbdffcngaa
