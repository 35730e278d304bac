/-
  What the draws of chapter 5 answer: schedules that were perhaps bent, numbers beside them. For codes of at most 2^20 bytes.
-/
import Derived.Test.YtckapndpefkcgaaBent5
set_option maxHeartbeats 1000000
namespace Go.Proofs.Ytckapndpefkcgaa
open Go.RowKit
set_option maxRecDepth 100000

/-- a schedule of one's own and the source -/
structure HX (w W : World) (g : Nat) (A : Option Addr) (k c a : Nat) (B : Option Addr) (c' : Nat) (xs : List R3) : Prop where
  ow : OR 52 3 W w.heap.size B xs.length c' (fl xs)
  sr : Src W g A k c a
  on : Only g (g + 1) w W
  gw : g < w.heap.size
theorem HX.step {w W W' : World} {g k c a a' c' : Nat} {A B : Option Addr} {xs : List R3} (h : HX w W g A k c a B c' xs) (hs : Src W' g A k c a') (ho : Only g (g + 1) W W') : HX w W' g A k c a' B c' xs :=
  ⟨h.ow.keepAll fun b e => by
    subst e
    have hl := h.ow.lt
    exact ho.2 b (by have := h.gw; omega) hl.2, hs, h.on.trans ho, h.gw⟩
theorem HX.below {w W W' : World} {g k c a c' : Nat} {A B : Option Addr} {xs : List R3} (h : HX w W g A k c a B c' xs) (hb : Below W.heap.size W W') : HX w W' g A k c a B c' xs :=
  ⟨h.ow.below hb (Nat.le_refl _), h.sr.below hb, ⟨h.on.1.trans (hb.mono (by have := h.gw; have := h.on.1.size; omega)), fun q h1 h2 => (hb.block q (by have := h.on.1.size; omega)).trans (h.on.2 q h1 h2)⟩, h.gw⟩
def SchI (w : World) (e : Ending) (w' : World) : Prop :=
  ∃ (b : Int) (B : Option Addr) (c' : Nat) (xs : List R3) (n : Int), e = .returned (.tuple #[.agg #[.int .i64 b, .slice B xs.length c'], .int .i64 n]) ∧ xs.length ≤ 6 ∧ OR 52 3 w' w.heap.size B xs.length c' (fl xs) ∧ Below w.heap.size w w'
def SchJ (w : World) (e : Ending) (w' : World) : Prop :=
  ∃ (b : Int) (B : Option Addr) (c' : Nat) (xs : List R3) (i t r : Int), e = .returned (.tuple #[.agg #[.int .i64 b, .slice B xs.length c'], .int .i64 i, .int .i64 t, .int .i64 r]) ∧ xs.length ≤ 6 ∧ OR 52 3 w' w.heap.size B xs.length c' (fl xs) ∧ Below w.heap.size w w'
/-- two schedules -/
def SchT (w : World) (e : Ending) (w' : World) : Prop :=
  ∃ (b b' : Int) (B B' : Option Addr) (c1 c2 : Nat) (xs ys : List R3), e = .returned (.tuple #[.agg #[.int .i64 b, .slice B xs.length c1], .agg #[.int .i64 b', .slice B' ys.length c2]]) ∧ xs.length ≤ 6 ∧ ys.length ≤ 6 ∧
    OR 52 3 w' w.heap.size B xs.length c1 (fl xs) ∧ OR 52 3 w' w.heap.size B' ys.length c2 (fl ys) ∧ Below w.heap.size w w'
theorem OR.ltq {t : TypeId} {m : Nat} {w : World} {base n c q : Nat} {A : Option Addr} {hs : List Int} (h : OR t m w base A n c hs) (e : A = some ⟨q, 0, none⟩) : base ≤ q ∧ q < w.heap.size := by subst e; exact h.lt
theorem results_row_3 {P : Program} {fn : Func} {p u v x : Tmp} {ty : TypeId} (h : fn.results = #[.cell p ty, .tmp u, .tmp v, .tmp x]) (tmps : Array Value) (w : World) (g : Nat) (t : TypeId) (cs : Array Value) (fr : Nat × Nat) (d : TypeDesc)
    (hp : tmps.getD p undef = .pointer (some ⟨g, 0, none⟩)) (hg : w.heap[g]? = some (.cells cs t fr))
    (hu : P.underlying ty = some d) (hd : (match d with | .struct _ | .array _ _ => true | _ => false) = true) (hi : (P.info? ty).map (·.size) = some cs.size) :
    (results fn tmps).run P w = .ok (.tuple #[.agg cs, tmps.getD u undef, tmps.getD v undef, tmps.getD x undef]) w := by
  have hp' : tmps[p]?.getD undef = .pointer (some ⟨g, 0, none⟩) := by simpa using hp
  simp [results, h, hp', asAddr, run_loadVar_row w g t ty cs fr d hg hu hd hi, Result.andThen]
theorem results_rows5 {P : Program} {fn : Func} {p u : Tmp} {ty : TypeId} (h : fn.results = #[.cell p ty, .cell u ty]) (tmps : Array Value) (w : World) (g g2 : Nat) (t t2 : TypeId) (cs cs2 : Array Value) (fr fr2 : Nat × Nat) (d : TypeDesc)
    (hp : tmps.getD p undef = .pointer (some ⟨g, 0, none⟩)) (hp2 : tmps.getD u undef = .pointer (some ⟨g2, 0, none⟩)) (hg : w.heap[g]? = some (.cells cs t fr)) (hg2 : w.heap[g2]? = some (.cells cs2 t2 fr2))
    (hu : P.underlying ty = some d) (hd : (match d with | .struct _ | .array _ _ => true | _ => false) = true) (hi : (P.info? ty).map (·.size) = some cs.size) (hi2 : (P.info? ty).map (·.size) = some cs2.size) :
    (results fn tmps).run P w = .ok (.tuple #[.agg cs, .agg cs2]) w := by
  have hp' : tmps[p]?.getD undef = .pointer (some ⟨g, 0, none⟩) := by simpa using hp
  have hp2' : tmps[u]?.getD undef = .pointer (some ⟨g2, 0, none⟩) := by simpa using hp2
  simp [results, h, hp', hp2', asAddr, run_loadVar_row w g t ty cs fr d hg hu hd hi, run_loadVar_row w g2 t2 ty cs2 fr2 d hg2 hu hd hi2, Result.andThen]

set_option maxHeartbeats 8000000 in
theorem DrawJoinSched_any (lo hi : Nat) (A : Option Addr) (k c : Nat) (b : Nat → Int) (w : World) (hk : k ≤ 1048576) (hb : ∀ j, 0 ≤ b j ∧ b j ≤ 255) (h : Sl w lo hi A k (fun j => .int .u8 (b j))) :
    Calls Try.prog 29 #[.slice A k c] w (SchJ w) := by
  have HBY := Lib.hid hb
  have CD : Hid (∀ W, Below w.heap.size w W → Sl W lo (min hi w.heap.size) A k (fun j => .int .u8 (b j))) := fun W hW => h.lt.below hW (by omega)
  obtain ⟨w1, hw1⟩ : ∃ w1, w1 = w.alloc (.cells #[.int .i64 0, .slice none 0 0] 43) := ⟨_, rfl⟩
  have z1 : w1.heap.size = w.heap.size + 1 := by rw [hw1]; simp
  have N1 : Below w.heap.size w w1 := by rw [hw1]; exact below_new w _
  have K1 : w1.heap[w.heap.size]? = some (.cells #[.int .i64 0, .slice none 0 0] 43 (0, 0)) := by rw [hw1]; exact heap_alloc_new w _
  have FB : Hid (∀ W, Below w1.heap.size w1 W → W.heap[w.heap.size]? = some (.cells #[.int .i64 0, .slice none 0 0] 43 (0, 0)) ∧ Below w.heap.size w W) := fun W hW =>
    ⟨(hW.block _ (by omega)).trans K1, N1.trans (hW.mono (by omega))⟩
  have HW1 := Lib.hid hw1
  have C1 := Lib.hid (l1Source_any A k c w1)
  obtain ⟨g, hgz⟩ : ∃ g, g = w1.heap.size := ⟨_, rfl⟩
  rw [← hgz] at C1
  have hg2 : w1.heap.size ≤ g := by omega
  have hg3 : w.heap.size + 1 = g := by omega
  clear h hb hw1 z1 N1 K1 hgz
  go_enter Try.func29, Try.ntmps29
  go_upto_region 1 with (fail)
  rw [← HW1.out]
  clear HW1
  go_wp2_with fail
  refine C1.out.mono ?_
  rintro e w3 ⟨rfl, hs3, hb3⟩
  have B3 : Hid (Below w1.heap.size w1 w3) := hb3.mono hg2
  have z3 : g < w3.heap.size := hs3.lt
  have CB := Lib.hid (l5Bent_any lo (min hi w.heap.size) g A k c 0 b w3 hk (by omega) HBY.out (CD.out w3 (FB.out w3 B3.out).2) (by omega) hs3)
  clear hs3 hb3 C1
  go_wp2_with fail
  refine CB.out.mono ?_
  rintro e w4 ⟨b5, B, c', xs, a4, rfl, hn, ha4, _, hO, hs4, ho4⟩
  have J4 : Hid (HX w3 w4 g A k c a4 B c' xs) := ⟨hO, hs4, ho4, z3⟩
  have B4 : Hid (Below w1.heap.size w1 w4) := B3.out.trans (ho4.1.mono hg2)
  clear hO hs4 ho4 CB B3
  have CP := Lib.hid (pick_lit lo (min hi w.heap.size) g A k c (a4) 7 2 #[.int .i64 0, .int .i64 1, .int .i64 2, .int .i64 3, .int .i64 4, .int .i64 5, .int .i64 (-1)] b [0, 1, 2, 3, 4, 5, -1] w4 hk (by omega) HBY.out (CD.out w4 (FB.out w4 B4.out).2) (by omega) J4.out.sr rfl (by omega) (by omega) (fun q hq => by rcases (show q = 0 ∨ q = 1 ∨ q = 2 ∨ q = 3 ∨ q = 4 ∨ q = 5 ∨ q = 6 by omega) with rfl | rfl | rfl | rfl | rfl | rfl | rfl <;> rfl))
  go_wp2_with fail
  refine CP.out.mono ?_
  rintro e w5 ⟨r9, hr9, rfl, hs, ho, hz9⟩
  generalize gi [0, 1, 2, 3, 4, 5, -1] r9 = v1 at *
  clear hr9 CP hz9
  have J5 := Lib.hid (J4.out.step hs ho)
  have B5 : Hid (Below w1.heap.size w1 w5) := B4.out.trans (ho.1.mono hg2)
  clear hs ho J4 B4
  have CP := Lib.hid (pick_lit lo (min hi w.heap.size) g A k c (a4 + 1) 6 2 #[.int .i64 1, .int .i64 2, .int .i64 5, .int .i64 10, .int .i64 11, .int .i64 0] b [1, 2, 5, 10, 11, 0] w5 hk (by omega) HBY.out (CD.out w5 (FB.out w5 B5.out).2) (by omega) J5.out.sr rfl (by omega) (by omega) (fun q hq => by rcases (show q = 0 ∨ q = 1 ∨ q = 2 ∨ q = 3 ∨ q = 4 ∨ q = 5 by omega) with rfl | rfl | rfl | rfl | rfl | rfl <;> rfl))
  go_wp2_with fail
  refine CP.out.mono ?_
  rintro e w6 ⟨r9, hr9, rfl, hs, ho, hz9⟩
  generalize gi [1, 2, 5, 10, 11, 0] r9 = v2 at *
  clear hr9 CP hz9
  have J6 := Lib.hid (J5.out.step hs ho)
  have B6 : Hid (Below w1.heap.size w1 w6) := B5.out.trans (ho.1.mono hg2)
  clear hs ho J5 B5
  have CP := Lib.hid (pick_lit lo (min hi w.heap.size) g A k c (a4 + 1 + 1) 7 2 #[.int .i64 0, .int .i64 100, .int .i64 252, .int .i64 504, .int .i64 2520, .int .i64 2521, .int .i64 (-1)] b [0, 100, 252, 504, 2520, 2521, -1] w6 hk (by omega) HBY.out (CD.out w6 (FB.out w6 B6.out).2) (by omega) J6.out.sr rfl (by omega) (by omega) (fun q hq => by rcases (show q = 0 ∨ q = 1 ∨ q = 2 ∨ q = 3 ∨ q = 4 ∨ q = 5 ∨ q = 6 by omega) with rfl | rfl | rfl | rfl | rfl | rfl | rfl <;> rfl))
  go_wp2_with fail
  refine CP.out.mono ?_
  rintro e w7 ⟨r9, hr9, rfl, hs, ho, hz9⟩
  generalize gi [0, 100, 252, 504, 2520, 2521, -1] r9 = v3 at *
  clear hr9 CP hz9
  have J7 := Lib.hid (J6.out.step hs ho)
  have B7 : Hid (Below w1.heap.size w1 w7) := B6.out.trans (ho.1.mono hg2)
  clear hs ho J6 B6
  have r0 := cell_of_row w7 _ 0 _ _ _ (FB.out w7 B7.out).1; have r1 := cell_of_row w7 _ 1 _ _ _ (FB.out w7 B7.out).1
  have f0 := frozen_of_row w7 _ 0 _ _ (FB.out w7 B7.out).1; have f1 := frozen_of_row w7 _ 1 _ _ (FB.out w7 B7.out).1
  simp at r0 r1
  go_wp2
  obtain ⟨wf, hwf⟩ : ∃ V, V = (w7.setCell ⟨w.heap.size, 0, none⟩ (.int .i64 b5)).setCell ⟨w.heap.size, 1, none⟩ (.slice B xs.length c') := ⟨_, rfl⟩
  have HK : wf.heap[w.heap.size]? = some (.cells #[.int .i64 b5, .slice B xs.length c'] 43 (0, 0)) := by rw [hwf]; exact heap_setCell_same _ _ 1 _ _ _ (heap_setCell_same _ _ 0 _ _ _ (FB.out w7 B7.out).1)
  have HV : ∀ q, q ≠ w.heap.size → wf.heap[q]? = w7.heap[q]? := fun q hq => by rw [hwf]; exact (Below.heap_setCell _ ⟨w.heap.size, 1, none⟩ _ q (by simpa using hq)).trans (Below.heap_setCell _ ⟨w.heap.size, 0, none⟩ _ q (by simpa using hq))
  have HBL : Below w.heap.size w wf := by rw [hwf]; exact ((FB.out w7 B7.out).2.setCell (p := ⟨w.heap.size, 0, none⟩) (by simp) _).setCell (p := ⟨w.heap.size, 1, none⟩) (by simp) _
  rw [← hwf]
  clear hwf
  have OZ : OR 52 3 wf w3.heap.size B xs.length c' (fl xs) := J7.out.ow.keepAll fun q e => HV q (by have := J7.out.ow.ltq e; omega)
  refine bodyPost_ret (results_row_3 rfl _ _ w.heap.size _ _ (0, 0) _ rfl HK Try.underlying43 rfl (by kernel_rfl)) rfl ?_
  exact ⟨b5, B, c', xs, v1, v2, v3, rfl, hn, OZ.mono (by omega), HBL⟩

theorem DrawStrideOf_any (lo hi : Nat) (A : Option Addr) (k c : Nat) (b : Nat → Int) (w : World) (hk : k ≤ 1048576) (hb : ∀ j, 0 ≤ b j ∧ b j ≤ 255) (h : Sl w lo hi A k (fun j => .int .u8 (b j))) :
    Calls Try.prog 33 #[.slice A k c] w fun e w' => ∃ v : Int, e = .returned (.int .i64 v) ∧ Below w.heap.size w w' := by
  have HBY := Lib.hid hb
  have CD : Hid (∀ W, Below w.heap.size w W → Sl W lo (min hi w.heap.size) A k (fun j => .int .u8 (b j))) := fun W hW => h.lt.below hW (by omega)
  have C1 := Lib.hid (l1Source_any A k c w)
  obtain ⟨g, hgz⟩ : ∃ g, g = w.heap.size := ⟨_, rfl⟩
  rw [← hgz] at C1
  have hg1 : g ≤ w.heap.size := by omega
  have hg2 : w.heap.size ≤ g := by omega
  clear h hb hgz
  go_enter Try.func33, Try.ntmps33
  go_wp2_with fail
  refine C1.out.mono ?_
  rintro e w1 ⟨rfl, hs1, hb1⟩
  have B1 : Hid (Below w.heap.size w w1) := hb1.mono hg2
  have CP := Lib.hid (pick_lit lo (min hi w.heap.size) g A k c (0) 7 2 #[.int .i64 1, .int .i64 2, .int .i64 7, .int .i64 10, .int .i64 11, .int .i64 0, .int .i64 (-1)] b [1, 2, 7, 10, 11, 0, -1] w1 hk (by omega) HBY.out (CD.out w1 B1.out) (by omega) hs1 rfl (by omega) (by omega) (fun q hq => by rcases (show q = 0 ∨ q = 1 ∨ q = 2 ∨ q = 3 ∨ q = 4 ∨ q = 5 ∨ q = 6 by omega) with rfl | rfl | rfl | rfl | rfl | rfl | rfl <;> rfl))
  go_wp2_with fail
  refine CP.out.mono ?_
  rintro e w2 ⟨r9, hr9, rfl, hs, ho, hz9⟩
  generalize gi [1, 2, 7, 10, 11, 0, -1] r9 = v at *
  clear hr9 CP hz9
  have B2 : Hid (Below w.heap.size w w2) := B1.out.trans (ho.1.mono hg2)
  clear hs ho hs1 hb1 C1
  go_wp2
  go_ret
  exact ⟨v, rfl, B2.out⟩

def idv (xs : List R3) (i : Nat) : Int := (g3 xs i).1
theorem ids_of {W : World} {base gB c' : Nat} {xs : List R3} (h : OR 52 3 W base (some ⟨gB, 0, none⟩) xs.length c' (fl xs)) : ∀ i, i < xs.length → W.cell? ⟨gB, i * 3, none⟩ = some (.int .i64 (idv xs i)) := fun i hi => by
  rw [h.cell (j := i * 3) (by omega), (fl_get xs i hi).1]; rfl

theorem only_drew5 {lo hi : Nat} {w W : World} (h : Only lo hi w W) : Only lo hi w W.drew := ⟨h.1.drew, h.2⟩

set_option maxHeartbeats 16000000 in
theorem DrawLeaveSched_any (lo hi : Nat) (A : Option Addr) (k c : Nat) (b : Nat → Int) (w : World) (hk : k ≤ 1048576) (hb : ∀ j, 0 ≤ b j ∧ b j ≤ 255) (h : Sl w lo hi A k (fun j => .int .u8 (b j))) :
    Calls Try.prog 31 #[.slice A k c] w (SchI w) := by
  have HBY := Lib.hid hb
  have CD : Hid (∀ W, Below w.heap.size w W → Sl W lo (min hi w.heap.size) A k (fun j => .int .u8 (b j))) := fun W hW => h.lt.below hW (by omega)
  obtain ⟨w1, hw1⟩ : ∃ w1, w1 = w.alloc (.cells #[.int .i64 0, .slice none 0 0] 43) := ⟨_, rfl⟩
  have z1 : w1.heap.size = w.heap.size + 1 := by rw [hw1]; simp
  have N1 : Below w.heap.size w w1 := by rw [hw1]; exact below_new w _
  have K1 : w1.heap[w.heap.size]? = some (.cells #[.int .i64 0, .slice none 0 0] 43 (0, 0)) := by rw [hw1]; exact heap_alloc_new w _
  have FB : Hid (∀ W, Below w1.heap.size w1 W → W.heap[w.heap.size]? = some (.cells #[.int .i64 0, .slice none 0 0] 43 (0, 0)) ∧ Below w.heap.size w W) := fun W hW =>
    ⟨(hW.block _ (by omega)).trans K1, N1.trans (hW.mono (by omega))⟩
  have HW1 := Lib.hid hw1
  have C1 := Lib.hid (l1Source_any A k c w1)
  obtain ⟨g, hgz⟩ : ∃ g, g = w1.heap.size := ⟨_, rfl⟩
  rw [← hgz] at C1
  have hg2 : w1.heap.size ≤ g := by omega
  have hg3 : w.heap.size + 1 = g := by omega
  clear h hb hw1 z1 N1 K1 hgz
  go_enter Try.func31, Try.ntmps31
  go_upto_region 1 with (fail)
  rw [← HW1.out]
  clear HW1
  go_wp2_with fail
  refine C1.out.mono ?_
  rintro e w3 ⟨rfl, hs3, hb3⟩
  have B3 : Hid (Below w1.heap.size w1 w3) := hb3.mono hg2
  have z3 : g < w3.heap.size := hs3.lt
  have CB := Lib.hid (l5Bent_any lo (min hi w.heap.size) g A k c 0 b w3 hk (by omega) HBY.out (CD.out w3 (FB.out w3 B3.out).2) (by omega) hs3)
  clear hs3 hb3 C1
  go_wp2_with fail
  refine CB.out.mono ?_
  rintro e w4 ⟨b5, B, c', xs, a4, rfl, hn, ha4, _, hO, hs4, ho4⟩
  have J4 : Hid (HX w3 w4 g A k c a4 B c' xs) := ⟨hO, hs4, ho4, z3⟩
  have B4 : Hid (Below w1.heap.size w1 w4) := B3.out.trans (ho4.1.mono hg2)
  clear hO hs4 ho4 CB B3
  obtain ⟨w5, hw5⟩ : ∃ V, V = w4.alloc (.cells #[.int .i64 b5, .slice B xs.length c'] 43) := ⟨_, rfl⟩
  obtain ⟨so, hso⟩ : ∃ s, s = w4.heap.size := ⟨_, rfl⟩
  have J5 : Hid (HX w3 w5 g A k c a4 B c' xs) := by rw [hw5]; exact J4.out.below (below_new w4 _)
  have B5 : Hid (Below w1.heap.size w1 w5) := by rw [hw5]; exact B4.out.alloc B4.out.size _
  have zso : g < so ∧ w.heap.size < so := by have := J4.out.sr.lt; omega
  have XB5 : Hid (∀ W, Only g (g + 1) w5 W → W.heap[so]? = some (.cells #[.int .i64 b5, .slice B xs.length c'] 43 (0, 0))) := fun W hW => by
    have k5 : w5.heap[so]? = some (.cells #[.int .i64 b5, .slice B xs.length c'] 43 (0, 0)) := by rw [hw5, hso]; exact heap_alloc_new w4 _
    exact (hW.2 so (by omega) (Array.getElem?_eq_some_iff.1 k5).1).trans k5
  have HW5 := Lib.hid hw5; have HSO := Lib.hid hso
  clear hw5 hso J4 B4
  go_upto_region 3 with (fail)
  rw [← HW5.out, ← HSO.out]
  clear HW5 HSO
  have q0 := cell_of_row w5 _ 0 _ _ _ (XB5.out w5 (Only.refl _ _ _)); have q1 := cell_of_row w5 _ 1 _ _ _ (XB5.out w5 (Only.refl _ _ _))
  simp at q0 q1
  have YO5 : Hid (Only g (g + 1) w5 w5) := Only.refl _ _ _
  by_cases hx0 : 0 < xs.length
  rotate_left
  · have hg1 : ¬ (0 : Int) < (xs.length : Int) := by omega
    have hg0 : decide ((0 : Int) < (xs.length : Int)) = false := decide_eq_false hg1
    have hg3 : decide (0 < xs.length) = false := decide_eq_false hx0
    go_upto_region 6 with (fail)
    refine wp_region_last (fun W => W.cell? ⟨so, 0, none⟩ = some (.int .i64 b5) ∧ W.cell? ⟨so, 1, none⟩ = some (.slice B xs.length c')) 5 (by kernel_rfl) (⟨cell_of_row w5.drew so 0 _ _ _ (XB5.out w5.drew (only_drew5 YO5.out)), cell_of_row w5.drew so 1 _ _ _ (XB5.out w5.drew (only_drew5 YO5.out))⟩) (fun hHeld => ?_)
    obtain ⟨v0, hv0⟩ : ∃ v0, v0 = w5.drew := ⟨_, rfl⟩
    have BL0 : Hid (Below w5.heap.size w5 v0) := by rw [hv0]; exact Below.drew (Below.refl _ _)
    rw [← hv0] at hHeld ⊢
    clear hv0
    have Y0 : Hid (HX w3 v0 g A k c (a4) B c' xs) := J5.out.below BL0.out
    have YB0 : Hid (Below w1.heap.size w1 v0) := B5.out.trans (BL0.out.mono B5.out.size)
    have YO0 : Hid (Only g (g + 1) w5 v0) := YO5.out.trans (Only.of_below BL0.out (by have := J5.out.sr.lt; omega))
    clear J5 B5 YO5 BL0
    refine wpAnyL_take 0 ?_ rfl (by rfl) ?_ hHeld ?_
    rotate_left
    · (intro w hSw; (try dsimp only at hSw); go_simp; try with_reducible rfl)
    try simp only [Act.put, List.getElem_toArray, List.getElem_cons_succ, List.getElem_cons_zero, List.setIfInBounds_toArray, List.set_cons_zero, List.set_cons_succ]
    refine wpAnyL_take 1 ?_ rfl (by rfl) ?_ hHeld ?_
    rotate_left
    · (intro w hSw; (try dsimp only at hSw); go_simp; try with_reducible rfl)
    try simp only [Act.put, List.getElem_toArray, List.getElem_cons_succ, List.getElem_cons_zero, List.setIfInBounds_toArray, List.set_cons_zero, List.set_cons_succ]
    refine wpAnyL_ready (rs := [2]) (by kernel_rfl) (by simp) ?_
    refine AllReadyL.cons (o := _) rfl (fun K0 hK0 => ?_) AllReadyL.nil
    go_simp
    refine (l1Next_any lo (min hi w.heap.size) g A k c (a4) (7) b v0 (by omega) hk (by omega) HBY.out (CD.out v0 (FB.out v0 YB0.out).2) (by omega) Y0.out.sr).mono ?_
    rintro e9 u1 ⟨v9, rfl, hr9, _, hs9, ho9⟩
    have Y1 := Lib.hid (Y0.out.step hs9 ho9)
    have YB1 : Hid (Below w1.heap.size w1 u1) := YB0.out.trans (ho9.1.mono hg2)
    have YO1 : Hid (Only g (g + 1) w5 u1) := YO0.out.trans ho9
    clear hr9 hs9 ho9
    go_wp2_with fail
    refine hK0.out _ _ (⟨cell_of_row u1 so 0 _ _ _ (XB5.out u1 YO1.out), cell_of_row u1 so 1 _ _ _ (XB5.out u1 YO1.out)⟩) (fun hHeld => ?_)
    clear hK0 K0
    try simp only [Act.put, List.getElem_toArray, List.getElem_cons_succ, List.getElem_cons_zero, List.setIfInBounds_toArray, List.set_cons_zero, List.set_cons_succ]
    refine wpAnyL_take 3 ?_ rfl (by rfl) ?_ hHeld ?_
    rotate_left
    · (intro w hSw; (try dsimp only at hSw); go_simp; try with_reducible rfl)
    try simp only [Act.put, List.getElem_toArray, List.getElem_cons_succ, List.getElem_cons_zero, List.setIfInBounds_toArray, List.set_cons_zero, List.set_cons_succ]
    refine wpAnyL_ready (rs := [4]) (by kernel_rfl) (by simp) ?_
    refine AllReadyL.cons (o := _) rfl (fun K0 hK0 => ?_) AllReadyL.nil
    have r0 := cell_of_row u1 _ 0 _ _ _ (FB.out u1 YB1.out).1; have r1 := cell_of_row u1 _ 1 _ _ _ (FB.out u1 YB1.out).1
    have f0 := frozen_of_row u1 _ 0 _ _ (FB.out u1 YB1.out).1; have f1 := frozen_of_row u1 _ 1 _ _ (FB.out u1 YB1.out).1
    simp at r0 r1
    go_simp
    obtain ⟨wf, hwf⟩ : ∃ V, V = (u1.setCell ⟨w.heap.size, 0, none⟩ (.int .i64 b5)).setCell ⟨w.heap.size, 1, none⟩ (.slice B xs.length c') := ⟨_, rfl⟩
    rw [← hwf]
    have HF : Hid (∀ q, q ≠ w.heap.size → wf.heap[q]? = u1.heap[q]?) := fun q hq => by rw [hwf]; exact (Below.heap_setCell _ ⟨w.heap.size, 1, none⟩ _ q (by simpa using hq)).trans (Below.heap_setCell _ ⟨w.heap.size, 0, none⟩ _ q (by simpa using hq))
    have HWF := Lib.hid hwf
    clear hwf r0 r1 f0 f1
    refine hK0.out _ _ (⟨cell_of_row wf so 0 _ _ _ ((HF.out so (by omega)).trans (XB5.out u1 YO1.out)), cell_of_row wf so 1 _ _ _ ((HF.out so (by omega)).trans (XB5.out u1 YO1.out))⟩) (fun hHeld => ?_)
    clear hK0 K0
    try simp only [Act.put, List.getElem_toArray, List.getElem_cons_succ, List.getElem_cons_zero, List.setIfInBounds_toArray, List.set_cons_zero, List.set_cons_succ]
    refine wpAnyL_ready (rs := [5]) (by kernel_rfl) (by simp) ?_
    refine AllReadyL.last (o := _) rfl (fun K0 hK0 => ?_)
    clear hHeld
    go_simp
    refine hK0.out _ _ ?_
    clear hK0 K0
    try simp only [Act.put, List.getElem_toArray, List.getElem_cons_succ, List.getElem_cons_zero, List.setIfInBounds_toArray, List.set_cons_zero, List.set_cons_succ]
    refine wpAnyL_done (by kernel_rfl) ?_ _
    go_wp2
    have hwf := HWF.out
    have HK : wf.heap[w.heap.size]? = some (.cells #[.int .i64 b5, .slice B xs.length c'] 43 (0, 0)) := by rw [hwf]; exact heap_setCell_same _ _ 1 _ _ _ (heap_setCell_same _ _ 0 _ _ _ (FB.out u1 YB1.out).1)
    have HV : ∀ q, q ≠ w.heap.size → wf.heap[q]? = u1.heap[q]? := fun q hq => by rw [hwf]; exact (Below.heap_setCell _ ⟨w.heap.size, 1, none⟩ _ q (by simpa using hq)).trans (Below.heap_setCell _ ⟨w.heap.size, 0, none⟩ _ q (by simpa using hq))
    have HBL : Below w.heap.size w wf := by rw [hwf]; exact ((FB.out u1 YB1.out).2.setCell (p := ⟨w.heap.size, 0, none⟩) (by simp) _).setCell (p := ⟨w.heap.size, 1, none⟩) (by simp) _
    clear hwf
    have OZ : OR 52 3 wf w3.heap.size B xs.length c' (fl xs) := Y1.out.ow.keepAll fun q e => HV q (by have := Y1.out.ow.ltq e; omega)
    refine bodyPost_ret (results_row_tmp rfl _ _ w.heap.size _ _ (0, 0) _ rfl HK Try.underlying43 rfl (by kernel_rfl)) rfl ?_
    exact ⟨b5, B, c', xs, IntKind.i64.wrap ((v9 : Int) - 1), rfl, hn, OZ.mono (by omega), HBL⟩
  have hg1 : (0 : Int) < (xs.length : Int) := by omega
  have hg0 : decide ((0 : Int) < (xs.length : Int)) = true := decide_eq_true hg1
  have hg4 : decide (0 < xs.length) = true := decide_eq_true hx0
  have CC := Lib.hid (l1Chance_any lo (min hi w.heap.size) g A k c a4 3 b w5 (by omega) hk (by omega) HBY.out (CD.out w5 (FB.out w5 B5.out).2) (by omega) J5.out.sr)
  go_wp2_with fail
  refine CC.out.mono ?_
  rintro e w6 ⟨y, rfl, hs, ho⟩
  have J6 := Lib.hid (J5.out.step hs ho)
  have B6 : Hid (Below w1.heap.size w1 w6) := B5.out.trans (ho.1.mono hg2)
  have YO6 : Hid (Only g (g + 1) w5 w6) := YO5.out.trans ho
  clear CC hs ho J5 B5 YO5 q0 q1
  cases y
  · obtain ⟨gB, rfl, hgB⟩ := J6.out.ow.pos hx0
    go_upto_region 5 with (fail)
    refine wp_region_last (fun W => W.cell? ⟨so, 0, none⟩ = some (.int .i64 b5) ∧ W.cell? ⟨so, 1, none⟩ = some (.slice (some ⟨gB, 0, none⟩) xs.length c') ∧ ∀ i, i < xs.length → W.cell? ⟨gB, i * 3, none⟩ = some (.int .i64 (idv xs i))) 10 (by kernel_rfl) (⟨cell_of_row w6.drew so 0 _ _ _ (XB5.out _ (only_drew5 YO6.out)), cell_of_row w6.drew so 1 _ _ _ (XB5.out _ (only_drew5 YO6.out)), ids_of (J6.out.ow.keepAll fun _ _ => rfl)⟩) (fun hHeld => ?_)
    obtain ⟨v0, hv0⟩ : ∃ v0, v0 = w6.drew := ⟨_, rfl⟩
    have BL0 : Hid (Below w6.heap.size w6 v0) := by rw [hv0]; exact Below.drew (Below.refl _ _)
    rw [← hv0] at hHeld ⊢
    clear hv0
    have Y0 : Hid (HX w3 v0 g A k c (a4 + 1) (some ⟨gB, 0, none⟩) c' xs) := J6.out.below BL0.out
    have YB0 : Hid (Below w1.heap.size w1 v0) := B6.out.trans (BL0.out.mono B6.out.size)
    have YO0 : Hid (Only g (g + 1) w5 v0) := YO6.out.trans (Only.of_below BL0.out (by have := J6.out.sr.lt; omega))
    clear J6 B6 YO6 BL0
    refine wpAnyL_take 0 ?_ rfl (by rfl) ?_ hHeld ?_
    rotate_left
    · (intro w hSw; (try dsimp only at hSw); go_simp; try with_reducible rfl)
    try simp only [Act.put, List.getElem_toArray, List.getElem_cons_succ, List.getElem_cons_zero, List.setIfInBounds_toArray, List.set_cons_zero, List.set_cons_succ]
    refine wpAnyL_take 1 ?_ rfl (by rfl) ?_ hHeld ?_
    rotate_left
    · (intro w hSw; (try dsimp only at hSw); go_simp; try with_reducible rfl)
    try simp only [Act.put, List.getElem_toArray, List.getElem_cons_succ, List.getElem_cons_zero, List.setIfInBounds_toArray, List.set_cons_zero, List.set_cons_succ]
    refine wpAnyL_take 2 ?_ rfl (by rfl) ?_ hHeld ?_
    rotate_left
    · (intro w hSw; (try dsimp only at hSw); go_simp; try with_reducible rfl)
    try simp only [Act.put, List.getElem_toArray, List.getElem_cons_succ, List.getElem_cons_zero, List.setIfInBounds_toArray, List.set_cons_zero, List.set_cons_succ]
    refine wpAnyL_take 3 ?_ rfl (by rfl) ?_ hHeld ?_
    rotate_left
    · (intro w hSw; (try dsimp only at hSw); go_simp; try with_reducible rfl)
    try simp only [Act.put, List.getElem_toArray, List.getElem_cons_succ, List.getElem_cons_zero, List.setIfInBounds_toArray, List.set_cons_zero, List.set_cons_succ]
    refine wpAnyL_take 4 ?_ rfl (by rfl) ?_ hHeld ?_
    rotate_left
    · (intro w hSw; (try dsimp only at hSw); go_simp; try with_reducible rfl)
    try simp only [Act.put, List.getElem_toArray, List.getElem_cons_succ, List.getElem_cons_zero, List.setIfInBounds_toArray, List.set_cons_zero, List.set_cons_succ]
    refine wpAnyL_ready (rs := [5]) (by kernel_rfl) (by simp) ?_
    refine AllReadyL.cons (o := _) rfl (fun K0 hK0 => ?_) AllReadyL.nil
    go_simp
    refine (l1Next_any lo (min hi w.heap.size) g A k c (a4 + 1) ((xs.length : Int)) b v0 (by omega) hk (by omega) HBY.out (CD.out v0 (FB.out v0 YB0.out).2) (by omega) Y0.out.sr).mono ?_
    rintro e9 u1 ⟨ix, rfl, hr9, _, hs9, ho9⟩
    have Y1 := Lib.hid (Y0.out.step hs9 ho9)
    have YB1 : Hid (Below w1.heap.size w1 u1) := YB0.out.trans (ho9.1.mono hg2)
    have YO1 : Hid (Only g (g + 1) w5 u1) := YO0.out.trans ho9
    have hix : ix < xs.length := by have := hr9 (by omega); omega
    have hix0 : (0 : Int) ≤ (ix : Int) := by omega
    have hixI : (ix : Int) < (xs.length : Int) := by omega
    clear hr9 hs9 ho9
    go_wp2_with fail
    refine hK0.out _ _ (⟨cell_of_row u1 so 0 _ _ _ (XB5.out u1 YO1.out), cell_of_row u1 so 1 _ _ _ (XB5.out u1 YO1.out), ids_of Y1.out.ow⟩) (fun hHeld => ?_)
    clear hK0 K0
    try simp only [Act.put, List.getElem_toArray, List.getElem_cons_succ, List.getElem_cons_zero, List.setIfInBounds_toArray, List.set_cons_zero, List.set_cons_succ]
    refine wpAnyL_take 6 ?_ rfl (by rfl) ?_ hHeld ?_
    rotate_left
    · (intro w hSw; (try dsimp only at hSw); go_simp; try with_reducible rfl)
    try simp only [Act.put, List.getElem_toArray, List.getElem_cons_succ, List.getElem_cons_zero, List.setIfInBounds_toArray, List.set_cons_zero, List.set_cons_succ]
    refine wpAnyL_take 7 ?_ rfl (by rfl) ?_ hHeld ?_
    rotate_left
    · (intro w hSw; (try dsimp only at hSw); go_simp; try with_reducible rfl)
    try simp only [Act.put, List.getElem_toArray, List.getElem_cons_succ, List.getElem_cons_zero, List.setIfInBounds_toArray, List.set_cons_zero, List.set_cons_succ]
    refine wpAnyL_take 8 ?_ rfl (by rfl) ?_ hHeld ?_
    rotate_left
    · (intro w hSw; (try dsimp only at hSw); go_simp; try with_reducible rfl)
    try simp only [Act.put, List.getElem_toArray, List.getElem_cons_succ, List.getElem_cons_zero, List.setIfInBounds_toArray, List.set_cons_zero, List.set_cons_succ]
    refine wpAnyL_ready (rs := [9]) (by kernel_rfl) (by simp) ?_
    refine AllReadyL.cons (o := _) rfl (fun K0 hK0 => ?_) AllReadyL.nil
    have r0 := cell_of_row u1 _ 0 _ _ _ (FB.out u1 YB1.out).1; have r1 := cell_of_row u1 _ 1 _ _ _ (FB.out u1 YB1.out).1
    have f0 := frozen_of_row u1 _ 0 _ _ (FB.out u1 YB1.out).1; have f1 := frozen_of_row u1 _ 1 _ _ (FB.out u1 YB1.out).1
    simp at r0 r1
    go_simp
    obtain ⟨wf, hwf⟩ : ∃ V, V = (u1.setCell ⟨w.heap.size, 0, none⟩ (.int .i64 b5)).setCell ⟨w.heap.size, 1, none⟩ (.slice (some ⟨gB, 0, none⟩) xs.length c') := ⟨_, rfl⟩
    rw [← hwf]
    have HF : Hid (∀ q, q ≠ w.heap.size → wf.heap[q]? = u1.heap[q]?) := fun q hq => by rw [hwf]; exact (Below.heap_setCell _ ⟨w.heap.size, 1, none⟩ _ q (by simpa using hq)).trans (Below.heap_setCell _ ⟨w.heap.size, 0, none⟩ _ q (by simpa using hq))
    have HWF := Lib.hid hwf
    clear hwf r0 r1 f0 f1
    refine hK0.out _ _ (⟨cell_of_row wf so 0 _ _ _ ((HF.out so (by omega)).trans (XB5.out u1 YO1.out)), cell_of_row wf so 1 _ _ _ ((HF.out so (by omega)).trans (XB5.out u1 YO1.out)), ids_of (Y1.out.ow.keepAll fun q e => HF.out q (by have := Y1.out.ow.ltq e; have := YB1.out.size; omega))⟩) (fun hHeld => ?_)
    clear hK0 K0
    try simp only [Act.put, List.getElem_toArray, List.getElem_cons_succ, List.getElem_cons_zero, List.setIfInBounds_toArray, List.set_cons_zero, List.set_cons_succ]
    refine wpAnyL_ready (rs := [10]) (by kernel_rfl) (by simp) ?_
    refine AllReadyL.last (o := _) rfl (fun K0 hK0 => ?_)
    clear hHeld
    go_simp
    refine hK0.out _ _ ?_
    clear hK0 K0
    try simp only [Act.put, List.getElem_toArray, List.getElem_cons_succ, List.getElem_cons_zero, List.setIfInBounds_toArray, List.set_cons_zero, List.set_cons_succ]
    refine wpAnyL_done (by kernel_rfl) ?_ _
    go_wp2
    have hwf := HWF.out
    have HK : wf.heap[w.heap.size]? = some (.cells #[.int .i64 b5, .slice (some ⟨gB, 0, none⟩) xs.length c'] 43 (0, 0)) := by rw [hwf]; exact heap_setCell_same _ _ 1 _ _ _ (heap_setCell_same _ _ 0 _ _ _ (FB.out u1 YB1.out).1)
    have HV : ∀ q, q ≠ w.heap.size → wf.heap[q]? = u1.heap[q]? := fun q hq => by rw [hwf]; exact (Below.heap_setCell _ ⟨w.heap.size, 1, none⟩ _ q (by simpa using hq)).trans (Below.heap_setCell _ ⟨w.heap.size, 0, none⟩ _ q (by simpa using hq))
    have HBL : Below w.heap.size w wf := by rw [hwf]; exact ((FB.out u1 YB1.out).2.setCell (p := ⟨w.heap.size, 0, none⟩) (by simp) _).setCell (p := ⟨w.heap.size, 1, none⟩) (by simp) _
    clear hwf
    have OZ : OR 52 3 wf w3.heap.size (some ⟨gB, 0, none⟩) xs.length c' (fl xs) := Y1.out.ow.keepAll fun q e => HV q (by have := Y1.out.ow.ltq e; omega)
    refine bodyPost_ret (results_row_tmp rfl _ _ w.heap.size _ _ (0, 0) _ rfl HK Try.underlying43 rfl (by kernel_rfl)) rfl ?_
    exact ⟨b5, (some ⟨gB, 0, none⟩), c', xs, idv xs ix, rfl, hn, OZ.mono (by omega), HBL⟩
  · skip
    go_upto_region 6 with (fail)
    refine wp_region_last (fun W => W.cell? ⟨so, 0, none⟩ = some (.int .i64 b5) ∧ W.cell? ⟨so, 1, none⟩ = some (.slice B xs.length c')) 5 (by kernel_rfl) (⟨cell_of_row w6.drew so 0 _ _ _ (XB5.out w6.drew (only_drew5 YO6.out)), cell_of_row w6.drew so 1 _ _ _ (XB5.out w6.drew (only_drew5 YO6.out))⟩) (fun hHeld => ?_)
    obtain ⟨v0, hv0⟩ : ∃ v0, v0 = w6.drew := ⟨_, rfl⟩
    have BL0 : Hid (Below w6.heap.size w6 v0) := by rw [hv0]; exact Below.drew (Below.refl _ _)
    rw [← hv0] at hHeld ⊢
    clear hv0
    have Y0 : Hid (HX w3 v0 g A k c (a4 + 1) B c' xs) := J6.out.below BL0.out
    have YB0 : Hid (Below w1.heap.size w1 v0) := B6.out.trans (BL0.out.mono B6.out.size)
    have YO0 : Hid (Only g (g + 1) w5 v0) := YO6.out.trans (Only.of_below BL0.out (by have := J6.out.sr.lt; omega))
    clear J6 B6 YO6 BL0
    refine wpAnyL_take 0 ?_ rfl (by rfl) ?_ hHeld ?_
    rotate_left
    · (intro w hSw; (try dsimp only at hSw); go_simp; try with_reducible rfl)
    try simp only [Act.put, List.getElem_toArray, List.getElem_cons_succ, List.getElem_cons_zero, List.setIfInBounds_toArray, List.set_cons_zero, List.set_cons_succ]
    refine wpAnyL_take 1 ?_ rfl (by rfl) ?_ hHeld ?_
    rotate_left
    · (intro w hSw; (try dsimp only at hSw); go_simp; try with_reducible rfl)
    try simp only [Act.put, List.getElem_toArray, List.getElem_cons_succ, List.getElem_cons_zero, List.setIfInBounds_toArray, List.set_cons_zero, List.set_cons_succ]
    refine wpAnyL_ready (rs := [2]) (by kernel_rfl) (by simp) ?_
    refine AllReadyL.cons (o := _) rfl (fun K0 hK0 => ?_) AllReadyL.nil
    go_simp
    refine (l1Next_any lo (min hi w.heap.size) g A k c (a4 + 1) (7) b v0 (by omega) hk (by omega) HBY.out (CD.out v0 (FB.out v0 YB0.out).2) (by omega) Y0.out.sr).mono ?_
    rintro e9 u1 ⟨v9, rfl, hr9, _, hs9, ho9⟩
    have Y1 := Lib.hid (Y0.out.step hs9 ho9)
    have YB1 : Hid (Below w1.heap.size w1 u1) := YB0.out.trans (ho9.1.mono hg2)
    have YO1 : Hid (Only g (g + 1) w5 u1) := YO0.out.trans ho9
    clear hr9 hs9 ho9
    go_wp2_with fail
    refine hK0.out _ _ (⟨cell_of_row u1 so 0 _ _ _ (XB5.out u1 YO1.out), cell_of_row u1 so 1 _ _ _ (XB5.out u1 YO1.out)⟩) (fun hHeld => ?_)
    clear hK0 K0
    try simp only [Act.put, List.getElem_toArray, List.getElem_cons_succ, List.getElem_cons_zero, List.setIfInBounds_toArray, List.set_cons_zero, List.set_cons_succ]
    refine wpAnyL_take 3 ?_ rfl (by rfl) ?_ hHeld ?_
    rotate_left
    · (intro w hSw; (try dsimp only at hSw); go_simp; try with_reducible rfl)
    try simp only [Act.put, List.getElem_toArray, List.getElem_cons_succ, List.getElem_cons_zero, List.setIfInBounds_toArray, List.set_cons_zero, List.set_cons_succ]
    refine wpAnyL_ready (rs := [4]) (by kernel_rfl) (by simp) ?_
    refine AllReadyL.cons (o := _) rfl (fun K0 hK0 => ?_) AllReadyL.nil
    have r0 := cell_of_row u1 _ 0 _ _ _ (FB.out u1 YB1.out).1; have r1 := cell_of_row u1 _ 1 _ _ _ (FB.out u1 YB1.out).1
    have f0 := frozen_of_row u1 _ 0 _ _ (FB.out u1 YB1.out).1; have f1 := frozen_of_row u1 _ 1 _ _ (FB.out u1 YB1.out).1
    simp at r0 r1
    go_simp
    obtain ⟨wf, hwf⟩ : ∃ V, V = (u1.setCell ⟨w.heap.size, 0, none⟩ (.int .i64 b5)).setCell ⟨w.heap.size, 1, none⟩ (.slice B xs.length c') := ⟨_, rfl⟩
    rw [← hwf]
    have HF : Hid (∀ q, q ≠ w.heap.size → wf.heap[q]? = u1.heap[q]?) := fun q hq => by rw [hwf]; exact (Below.heap_setCell _ ⟨w.heap.size, 1, none⟩ _ q (by simpa using hq)).trans (Below.heap_setCell _ ⟨w.heap.size, 0, none⟩ _ q (by simpa using hq))
    have HWF := Lib.hid hwf
    clear hwf r0 r1 f0 f1
    refine hK0.out _ _ (⟨cell_of_row wf so 0 _ _ _ ((HF.out so (by omega)).trans (XB5.out u1 YO1.out)), cell_of_row wf so 1 _ _ _ ((HF.out so (by omega)).trans (XB5.out u1 YO1.out))⟩) (fun hHeld => ?_)
    clear hK0 K0
    try simp only [Act.put, List.getElem_toArray, List.getElem_cons_succ, List.getElem_cons_zero, List.setIfInBounds_toArray, List.set_cons_zero, List.set_cons_succ]
    refine wpAnyL_ready (rs := [5]) (by kernel_rfl) (by simp) ?_
    refine AllReadyL.last (o := _) rfl (fun K0 hK0 => ?_)
    clear hHeld
    go_simp
    refine hK0.out _ _ ?_
    clear hK0 K0
    try simp only [Act.put, List.getElem_toArray, List.getElem_cons_succ, List.getElem_cons_zero, List.setIfInBounds_toArray, List.set_cons_zero, List.set_cons_succ]
    refine wpAnyL_done (by kernel_rfl) ?_ _
    go_wp2
    have hwf := HWF.out
    have HK : wf.heap[w.heap.size]? = some (.cells #[.int .i64 b5, .slice B xs.length c'] 43 (0, 0)) := by rw [hwf]; exact heap_setCell_same _ _ 1 _ _ _ (heap_setCell_same _ _ 0 _ _ _ (FB.out u1 YB1.out).1)
    have HV : ∀ q, q ≠ w.heap.size → wf.heap[q]? = u1.heap[q]? := fun q hq => by rw [hwf]; exact (Below.heap_setCell _ ⟨w.heap.size, 1, none⟩ _ q (by simpa using hq)).trans (Below.heap_setCell _ ⟨w.heap.size, 0, none⟩ _ q (by simpa using hq))
    have HBL : Below w.heap.size w wf := by rw [hwf]; exact ((FB.out u1 YB1.out).2.setCell (p := ⟨w.heap.size, 0, none⟩) (by simp) _).setCell (p := ⟨w.heap.size, 1, none⟩) (by simp) _
    clear hwf
    have OZ : OR 52 3 wf w3.heap.size B xs.length c' (fl xs) := Y1.out.ow.keepAll fun q e => HV q (by have := Y1.out.ow.ltq e; omega)
    refine bodyPost_ret (results_row_tmp rfl _ _ w.heap.size _ _ (0, 0) _ rfl HK Try.underlying43 rfl (by kernel_rfl)) rfl ?_
    exact ⟨b5, B, c', xs, IntKind.i64.wrap ((v9 : Int) - 1), rfl, hn, OZ.mono (by omega), HBL⟩

set_option maxHeartbeats 16000000 in
theorem DrawSameScheds_any (lo hi : Nat) (A : Option Addr) (k c : Nat) (b : Nat → Int) (w : World) (hk : k ≤ 1048576) (hb : ∀ j, 0 ≤ b j ∧ b j ≤ 255) (h : Sl w lo hi A k (fun j => .int .u8 (b j))) :
    Calls Try.prog 34 #[.slice A k c] w (SchT w) := by
  have HBY := Lib.hid hb
  have CD : Hid (∀ W, Below w.heap.size w W → Sl W lo (min hi w.heap.size) A k (fun j => .int .u8 (b j))) := fun W hW => h.lt.below hW (by omega)
  obtain ⟨w1, hw1⟩ : ∃ w1, w1 = w.alloc (.cells #[.int .i64 0, .slice none 0 0] 43) := ⟨_, rfl⟩
  obtain ⟨w2, hw2⟩ : ∃ w2, w2 = w1.alloc (.cells #[.int .i64 0, .slice none 0 0] 43) := ⟨_, rfl⟩
  have z1 : w1.heap.size = w.heap.size + 1 := by rw [hw1]; simp
  have z2 : w2.heap.size = w1.heap.size + 1 := by rw [hw2]; simp
  have N1 : Below w.heap.size w w1 := by rw [hw1]; exact below_new w _
  have N2 : Below w1.heap.size w1 w2 := by rw [hw2]; exact below_new w1 _
  have K1 : w1.heap[w.heap.size]? = some (.cells #[.int .i64 0, .slice none 0 0] 43 (0, 0)) := by rw [hw1]; exact heap_alloc_new w _
  have A2' : w2.heap[w.heap.size + 1]? = some (.cells #[.int .i64 0, .slice none 0 0] 43 (0, 0)) := by rw [hw2, ← z1]; exact heap_alloc_new w1 _
  have K2 := (N2.block w.heap.size (by omega)).trans K1
  have FB : Hid (∀ W, Below w2.heap.size w2 W → W.heap[w.heap.size]? = some (.cells #[.int .i64 0, .slice none 0 0] 43 (0, 0)) ∧ W.heap[w.heap.size + 1]? = some (.cells #[.int .i64 0, .slice none 0 0] 43 (0, 0)) ∧ Below w.heap.size w W) := fun W hW =>
    ⟨(hW.block _ (by omega)).trans K2, (hW.block _ (by omega)).trans A2', N1.trans ((N2.trans (hW.mono (by omega))).mono (by omega))⟩
  have HW1 := Lib.hid hw1; have HW2 := Lib.hid hw2
  have C1 := Lib.hid (l1Source_any A k c w2)
  obtain ⟨g, hgz⟩ : ∃ g, g = w2.heap.size := ⟨_, rfl⟩
  rw [← hgz] at C1
  have hg2 : w2.heap.size ≤ g := by omega
  have hg3 : w.heap.size + 2 = g := by omega
  clear h hb hw1 hw2 z1 z2 N1 N2 K1 A2' K2 hgz
  go_enter Try.func34, Try.ntmps34
  go_upto_region 1 with (fail)
  rw [← HW1.out, ← HW2.out]
  clear HW1 HW2
  go_wp2_with fail
  refine C1.out.mono ?_
  rintro e w3 ⟨rfl, hs3, hb3⟩
  have B3 : Hid (Below w2.heap.size w2 w3) := hb3.mono hg2
  have z3 : g < w3.heap.size := hs3.lt
  have CB := Lib.hid (l5Draw_any lo (min hi w.heap.size) g A k c 0 b w3 hk (by omega) HBY.out (CD.out w3 (FB.out w3 B3.out).2.2) (by omega) hs3)
  clear hs3 hb3 C1
  go_wp2_with fail
  refine CB.out.mono ?_
  rintro e w4 ⟨b5, B, c', xs, a4, rfl, hn, ha4, _, hO, hs4, ho4⟩
  have J4 : Hid (HX w3 w4 g A k c a4 B c' xs) := ⟨hO, hs4, ho4, z3⟩
  have B4 : Hid (Below w2.heap.size w2 w4) := B3.out.trans (ho4.1.mono hg2)
  clear hO hs4 ho4 CB B3
  obtain ⟨w5, hw5⟩ : ∃ V, V = w4.alloc (.cells #[.int .i64 b5, .slice B xs.length c'] 43) := ⟨_, rfl⟩
  obtain ⟨so, hso⟩ : ∃ s, s = w4.heap.size := ⟨_, rfl⟩
  have J5 : Hid (HX w3 w5 g A k c a4 B c' xs) := by rw [hw5]; exact J4.out.below (below_new w4 _)
  have B5 : Hid (Below w2.heap.size w2 w5) := by rw [hw5]; exact B4.out.alloc B4.out.size _
  have zso : g < so ∧ w.heap.size + 1 < so := by have := J4.out.sr.lt; omega
  have XB5 : Hid (∀ W, Only g (g + 1) w5 W → W.heap[so]? = some (.cells #[.int .i64 b5, .slice B xs.length c'] 43 (0, 0))) := fun W hW => by
    have k5 : w5.heap[so]? = some (.cells #[.int .i64 b5, .slice B xs.length c'] 43 (0, 0)) := by rw [hw5, hso]; exact heap_alloc_new w4 _
    exact (hW.2 so (by omega) (Array.getElem?_eq_some_iff.1 k5).1).trans k5
  have HW5 := Lib.hid hw5; have HSO := Lib.hid hso
  clear hw5 hso J4 B4
  go_upto_region 3 with (fail)
  rw [← HW5.out, ← HSO.out]
  clear HW5 HSO
  have CC := Lib.hid (l1Chance_any lo (min hi w.heap.size) g A k c a4 2 b w5 (by omega) hk (by omega) HBY.out (CD.out w5 (FB.out w5 B5.out).2.2) (by omega) J5.out.sr)
  go_wp2_with fail
  refine CC.out.mono ?_
  rintro e w6 ⟨y, rfl, hs, ho⟩
  have J6 := Lib.hid (J5.out.step hs ho)
  have B6 : Hid (Below w2.heap.size w2 w6) := B5.out.trans (ho.1.mono hg2)
  have YO6 : Hid (Only g (g + 1) w5 w6) := ho
  clear CC hs ho J5 B5
  cases y
  · go_upto_region 5 with (fail)
    refine wp_region_last (fun W => W.cell? ⟨so, 0, none⟩ = some (.int .i64 b5) ∧ W.cell? ⟨so, 1, none⟩ = some (.slice B xs.length c')) 5 (by kernel_rfl) (⟨cell_of_row w6.drew so 0 _ _ _ (XB5.out _ (only_drew5 YO6.out)), cell_of_row w6.drew so 1 _ _ _ (XB5.out _ (only_drew5 YO6.out))⟩) (fun hHeld => ?_)
    obtain ⟨v0, hv0⟩ : ∃ v0, v0 = w6.drew := ⟨_, rfl⟩
    have BL0 : Hid (Below w6.heap.size w6 v0) := by rw [hv0]; exact Below.drew (Below.refl _ _)
    rw [← hv0] at hHeld ⊢
    clear hv0
    have Y0 : Hid (HX w3 v0 g A k c (a4 + 1) B c' xs) := J6.out.below BL0.out
    have YB0 : Hid (Below w2.heap.size w2 v0) := B6.out.trans (BL0.out.mono B6.out.size)
    have YO0 : Hid (Only g (g + 1) w5 v0) := YO6.out.trans (Only.of_below BL0.out (by have := J6.out.sr.lt; omega))
    clear J6 B6 YO6 BL0
    refine wpAnyL_take 0 ?_ rfl (by rfl) ?_ hHeld ?_
    rotate_left
    · (intro w hSw; (try dsimp only at hSw); go_simp; try with_reducible rfl)
    try simp only [Act.put, List.getElem_toArray, List.getElem_cons_succ, List.getElem_cons_zero, List.setIfInBounds_toArray, List.set_cons_zero, List.set_cons_succ]
    refine wpAnyL_take 1 ?_ rfl (by rfl) ?_ hHeld ?_
    rotate_left
    · (intro w hSw; (try dsimp only at hSw); go_simp; try with_reducible rfl)
    try simp only [Act.put, List.getElem_toArray, List.getElem_cons_succ, List.getElem_cons_zero, List.setIfInBounds_toArray, List.set_cons_zero, List.set_cons_succ]
    refine wpAnyL_ready (rs := [2]) (by kernel_rfl) (by simp) ?_
    refine AllReadyL.cons (o := _) rfl (fun K0 hK0 => ?_) AllReadyL.nil
    go_simp
    obtain ⟨g2, hg2z⟩ : ∃ q, q = v0.heap.size := ⟨_, rfl⟩
    have C2 := l1Source_any A k c v0
    rw [← hg2z] at C2
    refine C2.mono ?_
    rintro e9 u1 ⟨rfl, hs1, hb1⟩
    have Y1 : Hid (HX w3 u1 g A k c (a4 + 1) B c' xs) := Y0.out.below (hb1.mono (by omega))
    have YB1 : Hid (Below w2.heap.size w2 u1) := YB0.out.trans (hb1.mono (by have := YB0.out.size; omega))
    have YO1 : Hid (Only g (g + 1) w5 u1) := YO0.out.trans (Only.of_below (hb1.mono (by omega)) (by have := Y0.out.sr.lt; omega))
    have S1 := Lib.hid hs1
    have zg2 : w5.heap.size ≤ g2 := by have := YO0.out.1.size; omega
    have RQ : Hid (∀ q, B = some ⟨q, 0, none⟩ → q < g2) := fun q e => by have := Y0.out.ow.ltq e; omega
    have sl5 : so < w5.heap.size := (Array.getElem?_eq_some_iff.1 (XB5.out w5 (Only.refl _ _ _))).1
    clear hs1 hb1 Y0 YB0 YO0 hg2z C2
    go_wp2_with fail
    refine hK0.out _ _ (⟨cell_of_row u1 so 0 _ _ _ (XB5.out _ YO1.out), cell_of_row u1 so 1 _ _ _ (XB5.out _ YO1.out)⟩) (fun hHeld => ?_)
    clear hK0 K0
    try simp only [Act.put, List.getElem_toArray, List.getElem_cons_succ, List.getElem_cons_zero, List.setIfInBounds_toArray, List.set_cons_zero, List.set_cons_succ]
    refine wpAnyL_ready (rs := [3]) (by kernel_rfl) (by simp) ?_
    refine AllReadyL.cons (o := _) rfl (fun K0 hK0 => ?_) AllReadyL.nil
    go_simp
    refine (l5Bent_any lo (min hi w.heap.size) g2 A k c 0 b u1 hk (by omega) HBY.out (CD.out u1 (FB.out u1 YB1.out).2.2) (by omega) S1.out).mono ?_
    rintro e9 u2 ⟨b2, B2, c2, ys, a5, rfl, hn2, _, _, hO2, _, ho2⟩
    have O1 : Hid (OR 52 3 u2 w3.heap.size B xs.length c' (fl xs)) := Y1.out.ow.keepAll fun q e => ho2.1.block q (RQ.out q e)
    have O2 := Lib.hid hO2
    have YB2 : Hid (Below w2.heap.size w2 u2) := YB1.out.trans (ho2.1.mono (by have := YB1.out.size; omega))
    have X2 : Hid (u2.heap[so]? = some (.cells #[.int .i64 b5, .slice B xs.length c'] 43 (0, 0))) := (ho2.1.block so (by omega)).trans (XB5.out _ YO1.out)
    have zz : w3.heap.size ≤ u1.heap.size := Y1.out.on.1.size
    clear hO2 ho2 Y1 YB1 YO1 S1 RQ
    go_wp2_with fail
    refine hK0.out _ _ (⟨cell_of_row u2 so 0 _ _ _ X2.out, cell_of_row u2 so 1 _ _ _ X2.out⟩) (fun hHeld => ?_)
    clear hK0 K0
    try simp only [Act.put, List.getElem_toArray, List.getElem_cons_succ, List.getElem_cons_zero, List.setIfInBounds_toArray, List.set_cons_zero, List.set_cons_succ]
    refine wpAnyL_ready (rs := [4]) (by kernel_rfl) (by simp) ?_
    refine AllReadyL.cons (o := _) rfl (fun K0 hK0 => ?_) AllReadyL.nil
    have r10 := cell_of_row u2 _ 0 _ _ _ (FB.out u2 YB2.out).1; have r11 := cell_of_row u2 _ 1 _ _ _ (FB.out u2 YB2.out).1; have f10 := frozen_of_row u2 _ 0 _ _ (FB.out u2 YB2.out).1; have f11 := frozen_of_row u2 _ 1 _ _ (FB.out u2 YB2.out).1
    simp at r10 r11
    go_simp
    obtain ⟨wa, hwa⟩ : ∃ V, V = (u2.setCell ⟨w.heap.size, 0, none⟩ (.int .i64 b5)).setCell ⟨w.heap.size, 1, none⟩ (.slice B xs.length c') := ⟨_, rfl⟩
    rw [← hwa]
    have HA1 : Hid (∀ q, q ≠ w.heap.size → wa.heap[q]? = u2.heap[q]?) := fun q hq => by rw [hwa]; exact (Below.heap_setCell _ ⟨w.heap.size, 1, none⟩ _ q (by simpa using hq)).trans (Below.heap_setCell _ ⟨w.heap.size, 0, none⟩ _ q (by simpa using hq))
    have HA2 : Hid (wa.heap[w.heap.size]? = some (.cells #[.int .i64 b5, .slice B xs.length c'] 43 (0, 0))) := by show _ = _; rw [hwa]; exact heap_setCell_same _ _ 1 _ _ _ (heap_setCell_same _ _ 0 _ _ _ (FB.out u2 YB2.out).1)
    have HA3 : Hid (wa.heap[w.heap.size + 1]? = some (.cells #[.int .i64 0, .slice none 0 0] 43 (0, 0))) := (HA1.out _ (by omega)).trans (FB.out u2 YB2.out).2.1
    have HA4 : Hid (Below w.heap.size w wa) := by rw [hwa]; exact ((FB.out u2 YB2.out).2.2.setCell (p := ⟨w.heap.size, 0, none⟩) (by simp) _).setCell (p := ⟨w.heap.size, 1, none⟩) (by simp) _
    clear hwa r10 r11 f10 f11
    refine hK0.out _ _ (⟨cell_of_row wa so 0 _ _ _ ((HA1.out so (by omega)).trans X2.out), cell_of_row wa so 1 _ _ _ ((HA1.out so (by omega)).trans X2.out)⟩) (fun hHeld => ?_)
    clear hK0 K0
    try simp only [Act.put, List.getElem_toArray, List.getElem_cons_succ, List.getElem_cons_zero, List.setIfInBounds_toArray, List.set_cons_zero, List.set_cons_succ]
    refine wpAnyL_ready (rs := [5]) (by kernel_rfl) (by simp) ?_
    refine AllReadyL.last (o := _) rfl (fun K0 hK0 => ?_)
    clear hHeld
    have r20 := cell_of_row wa _ 0 _ _ _ HA3.out; have r21 := cell_of_row wa _ 1 _ _ _ HA3.out; have f20 := frozen_of_row wa _ 0 _ _ HA3.out; have f21 := frozen_of_row wa _ 1 _ _ HA3.out
    simp at r20 r21
    go_simp
    refine hK0.out _ _ ?_
    clear hK0 K0
    try simp only [Act.put, List.getElem_toArray, List.getElem_cons_succ, List.getElem_cons_zero, List.setIfInBounds_toArray, List.set_cons_zero, List.set_cons_succ]
    refine wpAnyL_done (by kernel_rfl) ?_ _
    obtain ⟨wf, hwf⟩ : ∃ V, V = (wa.setCell ⟨w.heap.size + 1, 0, none⟩ (.int .i64 b2)).setCell ⟨w.heap.size + 1, 1, none⟩ (.slice B2 ys.length c2) := ⟨_, rfl⟩
    rw [← hwf]
    have HV : ∀ q, q ≠ w.heap.size + 1 → wf.heap[q]? = wa.heap[q]? := fun q hq => by rw [hwf]; exact (Below.heap_setCell _ ⟨w.heap.size + 1, 1, none⟩ _ q (by simpa using hq)).trans (Below.heap_setCell _ ⟨w.heap.size + 1, 0, none⟩ _ q (by simpa using hq))
    have HK := (HV w.heap.size (by omega)).trans HA2.out
    have HK2 : wf.heap[w.heap.size + 1]? = some (.cells #[.int .i64 b2, .slice B2 ys.length c2] 43 (0, 0)) := by rw [hwf]; exact heap_setCell_same _ _ 1 _ _ _ (heap_setCell_same _ _ 0 _ _ _ HA3.out)
    have HBL : Below w.heap.size w wf := by rw [hwf]; exact (HA4.out.setCell (p := ⟨w.heap.size + 1, 0, none⟩) (by simp) _).setCell (p := ⟨w.heap.size + 1, 1, none⟩) (by simp) _
    have OZ1 := OR.mono (base' := w.heap.size) (O1.out.keepAll (w' := wf) fun q e => (HV q (by have := O1.out.ltq e; omega)).trans (HA1.out q (by have := O1.out.ltq e; omega))) (by omega)
    have OZ2 := OR.mono (base' := w.heap.size) (O2.out.keepAll (w' := wf) fun q e => (HV q (by have := O2.out.ltq e; omega)).trans (HA1.out q (by have := O2.out.ltq e; omega))) (by omega)
    clear hwf r20 r21 f20 f21 HA1 HA2 HA3 HA4 HV
    go_wp2
    refine bodyPost_ret (results_rows5 rfl _ _ w.heap.size (w.heap.size + 1) _ _ _ _ (0, 0) (0, 0) _ rfl rfl HK HK2 Try.underlying43 rfl (by kernel_rfl) (by kernel_rfl)) rfl ?_
    exact ⟨b5, b2, B, B2, c', c2, xs, ys, rfl, by omega, by omega, OZ1, OZ2, HBL⟩
  · go_upto_region 4 with (fail)
    refine wp_region_last (fun W => W.cell? ⟨so, 0, none⟩ = some (.int .i64 b5) ∧ W.cell? ⟨so, 1, none⟩ = some (.slice B xs.length c')) 3 (by kernel_rfl) (⟨cell_of_row w6.drew so 0 _ _ _ (XB5.out _ (only_drew5 YO6.out)), cell_of_row w6.drew so 1 _ _ _ (XB5.out _ (only_drew5 YO6.out))⟩) (fun hHeld => ?_)
    obtain ⟨v0, hv0⟩ : ∃ v0, v0 = w6.drew := ⟨_, rfl⟩
    have BL0 : Hid (Below w6.heap.size w6 v0) := by rw [hv0]; exact Below.drew (Below.refl _ _)
    rw [← hv0] at hHeld ⊢
    clear hv0
    have Y0 : Hid (HX w3 v0 g A k c (a4 + 1) B c' xs) := J6.out.below BL0.out
    have YB0 : Hid (Below w2.heap.size w2 v0) := B6.out.trans (BL0.out.mono B6.out.size)
    have YO0 : Hid (Only g (g + 1) w5 v0) := YO6.out.trans (Only.of_below BL0.out (by have := J6.out.sr.lt; omega))
    clear J6 B6 YO6 BL0
    refine wpAnyL_take 0 ?_ rfl (by rfl) ?_ hHeld ?_
    rotate_left
    · (intro w hSw; (try dsimp only at hSw); go_simp; try with_reducible rfl)
    try simp only [Act.put, List.getElem_toArray, List.getElem_cons_succ, List.getElem_cons_zero, List.setIfInBounds_toArray, List.set_cons_zero, List.set_cons_succ]
    refine wpAnyL_ready (rs := [1]) (by kernel_rfl) (by simp) ?_
    refine AllReadyL.cons (o := _) rfl (fun K0 hK0 => ?_) AllReadyL.nil
    go_simp
    refine (l5CopyA_any w3.heap.size v0.heap.size B c' so b5 xs v0 hn (OR.sl0 Y0.out.ow) (XB5.out v0 YO0.out)).mono ?_
    rintro e9 u1 ⟨B2, c2, rfl, hO2, hb1⟩
    have O1 : Hid (OR 52 3 u1 w3.heap.size B xs.length c' (fl xs)) := Y0.out.ow.below hb1 (Nat.le_refl _)
    have O2 := Lib.hid hO2
    have YB1 : Hid (Below w2.heap.size w2 u1) := YB0.out.trans (hb1.mono YB0.out.size)
    have X2 : Hid (u1.heap[so]? = some (.cells #[.int .i64 b5, .slice B xs.length c'] 43 (0, 0))) := (hb1.block so (Array.getElem?_eq_some_iff.1 (XB5.out v0 YO0.out)).1).trans (XB5.out v0 YO0.out)
    have zz : w3.heap.size ≤ v0.heap.size := Y0.out.on.1.size
    clear hO2 hb1 Y0 YB0 YO0
    go_wp2_with fail
    refine hK0.out _ _ (⟨cell_of_row u1 so 0 _ _ _ X2.out, cell_of_row u1 so 1 _ _ _ X2.out⟩) (fun hHeld => ?_)
    clear hK0 K0
    try simp only [Act.put, List.getElem_toArray, List.getElem_cons_succ, List.getElem_cons_zero, List.setIfInBounds_toArray, List.set_cons_zero, List.set_cons_succ]
    refine wpAnyL_ready (rs := [2]) (by kernel_rfl) (by simp) ?_
    refine AllReadyL.cons (o := _) rfl (fun K0 hK0 => ?_) AllReadyL.nil
    have r10 := cell_of_row u1 _ 0 _ _ _ (FB.out u1 YB1.out).1; have r11 := cell_of_row u1 _ 1 _ _ _ (FB.out u1 YB1.out).1; have f10 := frozen_of_row u1 _ 0 _ _ (FB.out u1 YB1.out).1; have f11 := frozen_of_row u1 _ 1 _ _ (FB.out u1 YB1.out).1
    simp at r10 r11
    go_simp
    obtain ⟨wa, hwa⟩ : ∃ V, V = (u1.setCell ⟨w.heap.size, 0, none⟩ (.int .i64 b5)).setCell ⟨w.heap.size, 1, none⟩ (.slice B xs.length c') := ⟨_, rfl⟩
    rw [← hwa]
    have HA1 : Hid (∀ q, q ≠ w.heap.size → wa.heap[q]? = u1.heap[q]?) := fun q hq => by rw [hwa]; exact (Below.heap_setCell _ ⟨w.heap.size, 1, none⟩ _ q (by simpa using hq)).trans (Below.heap_setCell _ ⟨w.heap.size, 0, none⟩ _ q (by simpa using hq))
    have HA2 : Hid (wa.heap[w.heap.size]? = some (.cells #[.int .i64 b5, .slice B xs.length c'] 43 (0, 0))) := by show _ = _; rw [hwa]; exact heap_setCell_same _ _ 1 _ _ _ (heap_setCell_same _ _ 0 _ _ _ (FB.out u1 YB1.out).1)
    have HA3 : Hid (wa.heap[w.heap.size + 1]? = some (.cells #[.int .i64 0, .slice none 0 0] 43 (0, 0))) := (HA1.out _ (by omega)).trans (FB.out u1 YB1.out).2.1
    have HA4 : Hid (Below w.heap.size w wa) := by rw [hwa]; exact ((FB.out u1 YB1.out).2.2.setCell (p := ⟨w.heap.size, 0, none⟩) (by simp) _).setCell (p := ⟨w.heap.size, 1, none⟩) (by simp) _
    clear hwa r10 r11 f10 f11
    refine hK0.out _ _ (⟨cell_of_row wa so 0 _ _ _ ((HA1.out so (by omega)).trans X2.out), cell_of_row wa so 1 _ _ _ ((HA1.out so (by omega)).trans X2.out)⟩) (fun hHeld => ?_)
    clear hK0 K0
    try simp only [Act.put, List.getElem_toArray, List.getElem_cons_succ, List.getElem_cons_zero, List.setIfInBounds_toArray, List.set_cons_zero, List.set_cons_succ]
    refine wpAnyL_ready (rs := [3]) (by kernel_rfl) (by simp) ?_
    refine AllReadyL.last (o := _) rfl (fun K0 hK0 => ?_)
    clear hHeld
    have r20 := cell_of_row wa _ 0 _ _ _ HA3.out; have r21 := cell_of_row wa _ 1 _ _ _ HA3.out; have f20 := frozen_of_row wa _ 0 _ _ HA3.out; have f21 := frozen_of_row wa _ 1 _ _ HA3.out
    simp at r20 r21
    go_simp
    refine hK0.out _ _ ?_
    clear hK0 K0
    try simp only [Act.put, List.getElem_toArray, List.getElem_cons_succ, List.getElem_cons_zero, List.setIfInBounds_toArray, List.set_cons_zero, List.set_cons_succ]
    refine wpAnyL_done (by kernel_rfl) ?_ _
    obtain ⟨wf, hwf⟩ : ∃ V, V = (wa.setCell ⟨w.heap.size + 1, 0, none⟩ (.int .i64 b5)).setCell ⟨w.heap.size + 1, 1, none⟩ (.slice B2 xs.length c2) := ⟨_, rfl⟩
    rw [← hwf]
    have HV : ∀ q, q ≠ w.heap.size + 1 → wf.heap[q]? = wa.heap[q]? := fun q hq => by rw [hwf]; exact (Below.heap_setCell _ ⟨w.heap.size + 1, 1, none⟩ _ q (by simpa using hq)).trans (Below.heap_setCell _ ⟨w.heap.size + 1, 0, none⟩ _ q (by simpa using hq))
    have HK := (HV w.heap.size (by omega)).trans HA2.out
    have HK2 : wf.heap[w.heap.size + 1]? = some (.cells #[.int .i64 b5, .slice B2 xs.length c2] 43 (0, 0)) := by rw [hwf]; exact heap_setCell_same _ _ 1 _ _ _ (heap_setCell_same _ _ 0 _ _ _ HA3.out)
    have HBL : Below w.heap.size w wf := by rw [hwf]; exact (HA4.out.setCell (p := ⟨w.heap.size + 1, 0, none⟩) (by simp) _).setCell (p := ⟨w.heap.size + 1, 1, none⟩) (by simp) _
    have OZ1 := OR.mono (base' := w.heap.size) (O1.out.keepAll (w' := wf) fun q e => (HV q (by have := O1.out.ltq e; omega)).trans (HA1.out q (by have := O1.out.ltq e; omega))) (by omega)
    have OZ2 := OR.mono (base' := w.heap.size) (O2.out.keepAll (w' := wf) fun q e => (HV q (by have := O2.out.ltq e; omega)).trans (HA1.out q (by have := O2.out.ltq e; omega))) (by omega)
    clear hwf r20 r21 f20 f21 HA1 HA2 HA3 HA4 HV
    go_wp2
    refine bodyPost_ret (results_rows5 rfl _ _ w.heap.size (w.heap.size + 1) _ _ _ _ (0, 0) (0, 0) _ rfl rfl HK HK2 Try.underlying43 rfl (by kernel_rfl) (by kernel_rfl)) rfl ?_
    exact ⟨b5, b5, B, B2, c', c2, xs, xs, rfl, by omega, by omega, OZ1, OZ2, HBL⟩

end Go.Proofs.Ytckapndpefkcgaa
