/-
  What the draws of schedules answer: a schedule that is right but for the bound of its base, one that was perhaps bent. For codes of at most 2^20 bytes.
-/
import Derived.Test.YtckapndpefkcgaaPick
import Derived.Test.YtckapndpefkcgaaDraw1c
import Derived.Test.YtckapndpefkcgaaMath5f
import Derived.Test.YtckapndpefkcgaaSpec5j
import Derived.Test.YtckapndpefkcgaaSpec5b
import Derived.Test.YtckapndpefkcgaaSpec5d
set_option maxHeartbeats 1000000
namespace Go.Proofs.Ytckapndpefkcgaa
open Go.RowKit
set_option maxRecDepth 100000

theorem or_ne5 {W : World} {base gB n c s : Nat} {hs : List Int} {cs : Array Value} (h : OR 52 3 W base (some ⟨gB, 0, none⟩) n c hs) (hk : W.heap[s]? = some (.cells cs 43 (0, 0))) : s ≠ gB := fun e => by
  subst e
  rcases h.2 with ⟨h0, _⟩ | ⟨g', cap', cur, h0, _, hg, _⟩
  · cases h0
  · injection h0 with h0 _ _
    injection h0 with h0
    injection h0 with h0
    subst h0
    rw [hk] at hg
    injection hg with hg
    injection hg with _ hg _
    exact absurd hg (by decide)
structure SX (w W : World) (g : Nat) (A : Option Addr) (k c a so : Nat) (b : Int) (B : Option Addr) (c' : Nat) (xs : List R3) : Prop where
  ow : OR 52 3 W w.heap.size B xs.length c' (fl xs)
  bx : W.heap[so]? = some (.cells #[.int .i64 b, .slice B xs.length c'] 43 (0, 0))
  rb : W.heap[w.heap.size]? = some (.cells #[.int .i64 0, .slice none 0 0] 43 (0, 0))
  so : w.heap.size < so
  sr : Src W g A k c a
  on : Only g (g + 1) w W
  gw : g < w.heap.size
section
variable {w W W' : World} {g k c a a' so c' : Nat} {A B : Option Addr} {b : Int} {xs : List R3}
theorem SX.lt (h : SX w W g A k c a so b B c' xs) : so < W.heap.size := (Array.getElem?_eq_some_iff.1 h.bx).1
theorem SX.step (h : SX w W g A k c a so b B c' xs) (hs : Src W' g A k c a') (ho : Only g (g + 1) W W') : SX w W' g A k c a' so b B c' xs :=
  ⟨h.ow.keepAll fun q e => by
    subst e
    have hl := h.ow.lt
    exact ho.2 q (by have := h.gw; omega) hl.2, (ho.2 so (by have := h.gw; have := h.so; omega) h.lt).trans h.bx, (ho.2 w.heap.size (by have := h.gw; omega) (by have := h.lt; have := h.so; omega)).trans h.rb, h.so, hs, h.on.trans ho, h.gw⟩
theorem SX.below (h : SX w W g A k c a so b B c' xs) (hb : Below W.heap.size W W') : SX w W' g A k c a so b B c' xs :=
  ⟨h.ow.below hb (Nat.le_refl _), (hb.block so h.lt).trans h.bx, (hb.block w.heap.size (by have := h.lt; have := h.so; omega)).trans h.rb, h.so, h.sr.below hb, ⟨h.on.1.trans (hb.mono (by have := h.gw; have := h.lt; have := h.so; omega)), fun q h1 h2 => (hb.block q (by have := h.on.1.size; omega)).trans (h.on.2 q h1 h2)⟩, h.gw⟩
theorem SX.put (h : SX w W g A k c a so b B c' xs) {b2 : Int} {B2 : Option Addr} {c2 : Nat} {ys : List R3} {base : Nat} (hw : w.heap.size ≤ base) (ho : OR 52 3 W base B2 ys.length c2 (fl ys)) :
    SX w ((W.setCell ⟨so, 0, none⟩ (.int .i64 b2)).setCell ⟨so, 1, none⟩ (.slice B2 ys.length c2)) g A k c a so b2 B2 c2 ys := by
  have hso := h.so
  have gw := h.gw
  refine ⟨OR.mono (OR.setOther (OR.setOther ho h.bx (by decide) 0 _) (heap_setCell_same _ _ 0 _ _ _ h.bx) (by decide) 1 _) hw, blk2_set h.bx _ _, ?_, hso, ?_, ?_, gw⟩
  · exact (Below.heap_setCell _ ⟨so, 1, none⟩ _ _ (by simp; omega)).trans ((Below.heap_setCell _ ⟨so, 0, none⟩ _ _ (by simp; omega)).trans h.rb)
  · exact (Below.heap_setCell _ ⟨so, 1, none⟩ _ g (by simp; omega)).trans ((Below.heap_setCell _ ⟨so, 0, none⟩ _ g (by simp; omega)).trans h.sr)
  · refine ⟨(h.on.1.setCell (p := ⟨so, 0, none⟩) (by simp; omega) _).setCell (p := ⟨so, 1, none⟩) (by simp; omega) _, fun q h1 h2 => ?_⟩
    exact (Below.heap_setCell _ ⟨so, 1, none⟩ _ q (by simp; omega)).trans ((Below.heap_setCell _ ⟨so, 0, none⟩ _ q (by simp; omega)).trans (h.on.2 q h1 h2))
theorem SX.put1 (h : SX w W g A k c a so b B c' xs) {B2 : Option Addr} {c2 : Nat} {ys : List R3} {base : Nat} (hw : w.heap.size ≤ base) (ho : OR 52 3 W base B2 ys.length c2 (fl ys)) :
    SX w (W.setCell ⟨so, 1, none⟩ (.slice B2 ys.length c2)) g A k c a so b B2 c2 ys := by
  have hso := h.so
  have gw := h.gw
  refine ⟨OR.mono (OR.setOther ho h.bx (by decide) 1 _) hw, heap_setCell_same _ _ 1 _ _ _ h.bx, ?_, hso, ?_, ?_, gw⟩
  · exact (Below.heap_setCell _ ⟨so, 1, none⟩ _ _ (by simp; omega)).trans h.rb
  · exact (Below.heap_setCell _ ⟨so, 1, none⟩ _ g (by simp; omega)).trans h.sr
  · exact ⟨h.on.1.setCell (p := ⟨so, 1, none⟩) (by simp; omega) _, fun q h1 h2 => (Below.heap_setCell _ ⟨so, 1, none⟩ _ q (by simp; omega)).trans (h.on.2 q h1 h2)⟩
theorem SX.put0 (h : SX w W g A k c a so b B c' xs) (b2 : Int) : SX w (W.setCell ⟨so, 0, none⟩ (.int .i64 b2)) g A k c a so b2 B c' xs := by
  have hso := h.so
  have gw := h.gw
  refine ⟨OR.setOther h.ow h.bx (by decide) 0 _, heap_setCell_same _ _ 0 _ _ _ h.bx, ?_, hso, ?_, ?_, gw⟩
  · exact (Below.heap_setCell _ ⟨so, 0, none⟩ _ _ (by simp; omega)).trans h.rb
  · exact (Below.heap_setCell _ ⟨so, 0, none⟩ _ g (by simp; omega)).trans h.sr
  · exact ⟨h.on.1.setCell (p := ⟨so, 0, none⟩) (by simp; omega) _, fun q h1 h2 => (Below.heap_setCell _ ⟨so, 0, none⟩ _ q (by simp; omega)).trans (h.on.2 q h1 h2)⟩
theorem SX.pass {gB : Nat} (h : SX w W g A k c a so b (some ⟨gB, 0, none⟩) c' xs) {i : Nat} (hi : i < xs.length) (v : Int) : ∃ ys : List R3, ys.length = xs.length ∧ SX w (W.setCell ⟨gB, i * 3 + 2, none⟩ (.int .i64 v)) g A k c a so b (some ⟨gB, 0, none⟩) c' ys := by
  have l := h.ow.lt
  have gw := h.gw
  have hO := h.ow.set (i * 3 + 2) v
  rw [fl_set xs i hi] at hO
  have n1 := or_ne5 h.ow h.bx
  have n2 := or_ne5 h.ow h.rb
  refine ⟨_, List.length_set, by rw [List.length_set]; exact hO, by rw [List.length_set]; exact (Below.heap_setCell _ ⟨gB, i * 3 + 2, none⟩ _ _ n1).trans h.bx, (Below.heap_setCell _ ⟨gB, i * 3 + 2, none⟩ _ _ n2).trans h.rb, h.so, ?_, ?_, gw⟩
  · exact (Below.heap_setCell _ ⟨gB, i * 3 + 2, none⟩ _ g (by simp; omega)).trans h.sr
  · exact ⟨h.on.1.setCell (p := ⟨gB, i * 3 + 2, none⟩) (by simp; omega) _, fun q h1 h2 => (Below.heap_setCell _ ⟨gB, i * 3 + 2, none⟩ _ q (by simp; omega)).trans (h.on.2 q h1 h2)⟩
theorem SX.fin (h : SX w W g A k c a so b B c' xs) {u v : Value} : OR 52 3 ((W.setCell ⟨w.heap.size, 0, none⟩ u).setCell ⟨w.heap.size, 1, none⟩ v) w.heap.size B xs.length c' (fl xs) ∧ Src ((W.setCell ⟨w.heap.size, 0, none⟩ u).setCell ⟨w.heap.size, 1, none⟩ v) g A k c a ∧ Only g (g + 1) w ((W.setCell ⟨w.heap.size, 0, none⟩ u).setCell ⟨w.heap.size, 1, none⟩ v) := by
  have gw := h.gw
  refine ⟨OR.setOther (OR.setOther h.ow h.rb (by decide) 0 _) (heap_setCell_same _ _ 0 _ _ _ h.rb) (by decide) 1 _, ?_, ?_⟩
  · exact (Below.heap_setCell _ ⟨w.heap.size, 1, none⟩ _ g (by simp; omega)).trans ((Below.heap_setCell _ ⟨w.heap.size, 0, none⟩ _ g (by simp; omega)).trans h.sr)
  · refine ⟨(h.on.1.setCell (p := ⟨w.heap.size, 0, none⟩) (by simp; omega) _).setCell (p := ⟨w.heap.size, 1, none⟩) (by simp; omega) _, fun q h1 h2 => ?_⟩
    exact (Below.heap_setCell _ ⟨w.heap.size, 1, none⟩ _ q (by simp; omega)).trans ((Below.heap_setCell _ ⟨w.heap.size, 0, none⟩ _ q (by simp; omega)).trans (h.on.2 q h1 h2))
end
def SdD (mx m g : Nat) (P : Int → List R3 → Prop) (A : Option Addr) (k c a : Nat) (w : World) (e : Ending) (w' : World) : Prop :=
  ∃ (b : Int) (B : Option Addr) (c' : Nat) (xs : List R3) (a' : Nat), e = .returned (.agg #[.int .i64 b, .slice B xs.length c']) ∧ xs.length ≤ mx ∧ a' ≤ a + m ∧ P b xs ∧ OR 52 3 w' w.heap.size B xs.length c' (fl xs) ∧ Src w' g A k c a' ∧ Only g (g + 1) w w'
def Dn5 (b : Int) (xs : List R3) : Prop := In5 b xs ∧ 0 ≤ b ∧ b ≤ 10020000

set_option maxHeartbeats 16000000 in
theorem l5Draw_any (lo hi g : Nat) (A : Option Addr) (k c a : Nat) (b : Nat → Int) (w : World) (hk : k ≤ 1048576) (ha : a ≤ 2000000) (hb : ∀ j, 0 ≤ b j ∧ b j ≤ 255) (h : Sl w lo hi A k (fun j => .int .u8 (b j))) (hg : hi ≤ g) (hs : Src w g A k c a) :
    Calls Try.prog 87 #[.pointer (some ⟨g, 0, none⟩)] w (SdD 5 40 g Dn5 A k c a w) := by
  have hgw := hs.lt
  have H := Lib.hid h
  have HBY := Lib.hid hb
  have CD : Hid (∀ W, Only g (g + 1) w W → Sl W lo (min hi w.heap.size) A k (fun j => .int .u8 (b j))) := fun W hW => H.out.lt.only hW (by omega) (.inl (by omega))
  obtain ⟨w1, hw1⟩ : ∃ w1, w1 = w.alloc (.cells #[.int .i64 0, .slice none 0 0] 43) := ⟨_, rfl⟩
  have K1 : Hid (w1.heap[w.heap.size]? = some (.cells #[.int .i64 0, .slice none 0 0] 43 (0, 0))) := by show _ = _; rw [hw1]; exact heap_alloc_new w _
  have O1 : Hid (Only g (g + 1) w w1) := by rw [hw1]; exact (Only.refl _ _ _).alloc (by omega) _
  have S1 : Hid (Src w1 g A k c a) := by rw [hw1]; exact hs.alloc _
  have Z1 : Hid (w1.heap.size = w.heap.size + 1) := by show _ = _; rw [hw1]; simp
  have HW1 := Lib.hid hw1
  clear h hb hs hw1
  go_enter Try.func87, Try.ntmps87
  go_upto_region 1 with (fail)
  rw [← HW1.out]
  clear HW1
  have CP := Lib.hid (pick_lit lo (min hi w.heap.size) g A k c (a) 5 2 #[.int .i64 0, .int .i64 0, .int .i64 7, .int .i64 5000, .int .i64 9980000] b [0, 0, 7, 5000, 9980000] w1 hk (by omega) HBY.out (CD.out w1 O1.out) (by omega) S1.out rfl (by omega) (by omega) (fun q hq => by rcases (show q = 0 ∨ q = 1 ∨ q = 2 ∨ q = 3 ∨ q = 4 by omega) with rfl | rfl | rfl | rfl | rfl <;> rfl))
  go_wp2_with fail
  refine CP.out.mono ?_
  rintro e w2 ⟨r9, hr9, rfl, hs, ho, hz9⟩
  have fv : 0 ≤ (gi [0, 0, 7, 5000, 9980000] r9) ∧ (gi [0, 0, 7, 5000, 9980000] r9) ≤ 9980000 := by rcases (show r9 = 0 ∨ r9 = 1 ∨ r9 = 2 ∨ r9 = 3 ∨ r9 = 4 by omega) with rfl | rfl | rfl | rfl | rfl <;> decide
  generalize gi [0, 0, 7, 5000, 9980000] r9 = v at *
  clear hr9 CP hz9
  have O2 := Lib.hid (O1.out.trans ho)
  have S2 := Lib.hid hs
  have K2 := Lib.hid ((ho.2 w.heap.size (by omega) (by have := Z1.out; omega)).trans K1.out)
  have Z2 : Hid (w.heap.size < w2.heap.size) := by have := Z1.out; have := ho.1.size; show _ < _; omega
  have FV := Lib.hid fv
  clear hs ho O1 S1 K1 Z1 fv
  obtain ⟨w3, hw3⟩ : ∃ V, V = w2.alloc (.cells #[.int .i64 v, .slice none 0 0] 43) := ⟨_, rfl⟩
  obtain ⟨so, hso⟩ : ∃ s, s = w2.heap.size := ⟨_, rfl⟩
  have J3 : Hid (SX w w3 g A k c (a + 1) so v none 0 []) := by
    refine ⟨OR.void _ _, ?_, ?_, ?_, ?_, ?_, hgw⟩
    · rw [hw3, hso]; exact heap_alloc_new w2 _
    · rw [hw3]; exact (Below.heap_alloc w2 _ _ Z2.out).trans K2.out
    · rw [hso]; exact Z2.out
    · rw [hw3]; exact S2.out.alloc _
    · rw [hw3]; exact O2.out.alloc (by omega) _
  have HW3 := Lib.hid hw3; have HSO := Lib.hid hso
  clear hw3 hso O2 S2 K2 Z2
  go_upto_region 2 with (fail)
  rw [← HW3.out, ← HSO.out]
  clear HW3 HSO
  have CN := Lib.hid (l1Next_any lo (min hi w.heap.size) g A k c (a + 1) (12) b w3 (by omega) hk (by omega) HBY.out (CD.out w3 J3.out.on) (by omega) J3.out.sr)
  go_wp2_with fail
  refine CN.out.mono ?_
  rintro e w4 ⟨N, rfl, hN, _, hs, ho⟩
  clear CN
  have J4 := Lib.hid (J3.out.step hs ho)
  have hN11 : N ≤ 11 := by have := hN (by omega); omega
  clear hs ho hN J3
  go_wp2_with fail
  go_loopw [4] (fun y wr => ∃ (b' : Int) (B : Option Addr) (c' : Nat) (xs : List R3) (m a' : Nat), y = .int .i64 (m : Int) ∧ m ≤ 11 ∧ a' + 3 * m ≤ a + 40 ∧ (0 ≤ b' ∧ b' + 2520 * m ≤ 10007720) ∧ In5 b' xs ∧ SX w wr g A k c a' so b' B c' xs) (fun y _ => (intOf y).toNat)
  case atStart => exact ⟨v, none, 0, [], N, a + 1 + 1, rfl, hN11, by omega, by have := FV.out; omega, In5.nil v, J4.out⟩
  case round =>
    obtain ⟨b', B, c', xs, m, a', rfl, hm, ha', hb', hI, hJ⟩ := hrel
    have J := Lib.hid hJ
    have I := Lib.hid hI
    have HB' := Lib.hid hb'
    clear hJ J4 hI FV
    by_cases hlt : 0 < m
    · have h3 : (0 : Int) < (m : Int) := by omega
      have CN := Lib.hid (l1Next_any lo (min hi w.heap.size) g A k c (a') (5) b wr (by omega) hk (by omega) HBY.out (CD.out wr J.out.on) (by omega) J.out.sr)
      go_wp2_with fail
      refine CN.out.mono ?_
      rintro e w5 ⟨id, rfl, hid, _, hs, ho⟩
      clear CN
      have J5 := Lib.hid (J.out.step hs ho)
      have hid5 : id < 5 := by have := hid (by omega); omega
      clear hs ho hid J
      have q0 := cell_of_row w5 _ 0 _ _ _ J5.out.bx; have q1 := cell_of_row w5 _ 1 _ _ _ J5.out.bx
      have f0 := frozen_of_row w5 _ 0 _ _ J5.out.bx; have f1 := frozen_of_row w5 _ 1 _ _ J5.out.bx
      simp at q0 q1
      have L5 := I.out.ri.len
      have CF := Lib.hid (l5Find_any w.heap.size w5.heap.size B c' xs (id : Int) w5 (by omega) (OR.sl0 J5.out.ow))
      clear L5
      go_wp2_with fail
      refine CF.out.mono ?_
      rintro e w6 ⟨r, rfl, hr, rfl⟩
      clear CF
      by_cases hm0 : mth xs (id : Int) = none
      · have hr1 : r < 0 := hr.2 hm0
        have y1 : decide (r < 0) = true := decide_eq_true hr1
        clear hr q0 q1 f0 f1
        have CP := Lib.hid (pick_lit lo (min hi w.heap.size) g A k c (a' + 1) 5 2 #[.int .i64 1, .int .i64 2, .int .i64 3, .int .i64 5, .int .i64 10] b [1, 2, 3, 5, 10] w5 hk (by omega) HBY.out (CD.out w5 J5.out.on) (by omega) J5.out.sr rfl (by omega) (by omega) (fun q hq => by rcases (show q = 0 ∨ q = 1 ∨ q = 2 ∨ q = 3 ∨ q = 4 by omega) with rfl | rfl | rfl | rfl | rfl <;> rfl))
        go_wp2_with fail
        refine CP.out.mono ?_
        rintro e w7 ⟨r9, hr9, rfl, hs, ho, hz9⟩
        have fv : okT (gi [1, 2, 3, 5, 10] r9) = true := by rcases (show r9 = 0 ∨ r9 = 1 ∨ r9 = 2 ∨ r9 = 3 ∨ r9 = 4 by omega) with rfl | rfl | rfl | rfl | rfl <;> decide
        generalize gi [1, 2, 3, 5, 10] r9 = t at *
        clear hr9 CP hz9
        have J7 := Lib.hid (J5.out.step hs ho)
        clear hs ho J5
        have st := strd_in fv
        have T10 := okT_iff.1 fv
        have hn : ¬ t = 0 := by omega
        have hd : (2520 : Int).tdiv t = strd t := Int.tdiv_eq_ediv_of_nonneg (by omega)
        have hw1 : IntKind.i64.wrap (strd t) = strd t := IntWalk.i64_in _ (by omega)
        have hw2 : IntKind.i64.wrap (strd t + 1) = strd t + 1 := IntWalk.i64_in _ (by omega)
        have FV := Lib.hid fv
        clear fv T10
        have CN := Lib.hid (l1Next_any lo (min hi w.heap.size) g A k c (a' + 1 + 1) (strd t + 1) b w7 (by omega) hk (by omega) HBY.out (CD.out w7 J7.out.on) (by omega) J7.out.sr)
        go_wp2_with fail
        refine CN.out.mono ?_
        rintro e w8 ⟨rs, rfl, hrs, _, hs, ho⟩
        clear CN
        have J8 := Lib.hid (J7.out.step hs ho)
        have hrs1 : (rs : Int) ≤ strd t := by have := hrs (by omega); omega
        clear hs ho hrs J7 hd hw1 hw2 hn
        have L5 := I.out.ri.len
        have CJ := Lib.hid (l5Join_big w.heap.size w8.heap.size B c' so b' xs (id : Int) t 0 (rs : Int) w8 (by omega) (by have := HB'.out; omega) (by omega) (OR.sl0 J8.out.ow) J8.out.bx)
        have IN := Lib.hid (I.out.ins (i := (id : Int)) (t := t) (r := (rs : Int)) (by unfold okId; simp; omega) FV.out (by omega) hrs1 hm0)
        generalize ins5 xs ((id : Int), t, b' + (rs : Int)) = ys at *
        generalize bas ys b' = b2 at *
        clear L5 st hrs1
        go_wp2_with fail
        refine CJ.out.mono ?_
        rintro e w9 ⟨B2, c2, rfl, hor, hbl⟩
        have J9 := Lib.hid (J8.out.below hbl)
        have O9 := Lib.hid hor
        have Z8 : Hid (w.heap.size ≤ w8.heap.size) := by have := J8.out.lt; have := J8.out.so; show _ ≤ _; omega
        have JA := Lib.hid (J9.out.put (b2 := b2) Z8.out O9.out)
        have q0 := cell_of_row w9 _ 0 _ _ _ J9.out.bx; have q1 := cell_of_row w9 _ 1 _ _ _ J9.out.bx
        have f0 := frozen_of_row w9 _ 0 _ _ J9.out.bx; have f1 := frozen_of_row w9 _ 1 _ _ J9.out.bx
        simp at q0 q1
        clear hor hbl CJ J8 hm0 hr1 y1
        go_wp2
        go_roundw
        case rel => exact ⟨b2, B2, c2, ys, m - 1, a' + 1 + 1 + 1, by congr 1; omega, by omega, by omega, by have := HB'.out; have := IN.out.2; omega, IN.out.1, JA.out⟩
        case measure => simp [intOf]; omega
      · have hr1 : ¬ r < 0 := fun h => hm0 (hr.1 h)
        have y1 : decide (r < 0) = false := decide_eq_false hr1
        have NE : Hid (xs ≠ []) := fun e => hm0 (by rw [e]; rfl)
        clear hr q0 q1 f0 f1 hm0
        have CC := Lib.hid (l1Chance_any lo (min hi w.heap.size) g A k c (a' + 1) 4 b w5 (by omega) hk (by omega) HBY.out (CD.out w5 J5.out.on) (by omega) J5.out.sr)
        go_wp2_with fail
        refine CC.out.mono ?_
        rintro e w7 ⟨y, rfl, hs, ho⟩
        have J7 := Lib.hid (J5.out.step hs ho)
        clear CC hs ho J5
        cases y
        · have CK := Lib.hid (l5Picks_big B c' so b' xs w7 (by have := HB'.out; omega) I.out.ri.len J7.out.bx)
          go_wp2_with fail
          refine CK.out.mono ?_
          rintro e w8 ⟨rfl, rfl⟩
          clear CK
          by_cases hp : pq5 b' xs = 0
          · have y2 : (pq5 b' xs == 0) = true := by simp [hp]
            have hb7 : b' + 2520 ≤ 10000000 := by
              have hp' := hp
              unfold pq5 at hp'
              rw [if_neg NE.out] at hp'
              by_cases e : 10000000 < b' + 2520
              · rw [if_pos e] at hp'; exact absurd hp' (by decide)
              · omega
            have CP := Lib.hid (l5Pick_any w.heap.size w7.heap.size B c' so b' xs w7 I.out.ri (List.length_pos_iff.2 NE.out) I.out.any (by have := HB'.out; omega) (OR.sl0 J7.out.ow) J7.out.bx)
            have IN := Lib.hid (I.out.pk NE.out)
            have IN : Hid (In5 (bas (pk5 xs (nxt5 (lst xs).1)) b') (pk5 xs (nxt5 (lst xs).1)) ∧ b' ≤ bas (pk5 xs (nxt5 (lst xs).1)) b' ∧ bas (pk5 xs (nxt5 (lst xs).1)) b' ≤ b' + 2520) := IN.out
            generalize pk5 xs (nxt5 (lst xs).1) = ys at *
            generalize bas ys b' = b2 at *
            generalize (lst xs).1.1 = who at *
            clear hb7
            go_wp2_with fail
            refine CP.out.mono ?_
            rintro e w9 ⟨B2, c2, rfl, hor, hbl⟩
            have J9 := Lib.hid (J7.out.below hbl)
            have O9 := Lib.hid hor
            have Z8 : Hid (w.heap.size ≤ w7.heap.size) := by have := J7.out.lt; have := J7.out.so; show _ ≤ _; omega
            have JA := Lib.hid (J9.out.put (b2 := b2) Z8.out O9.out)
            have q0 := cell_of_row w9 _ 0 _ _ _ J9.out.bx; have q1 := cell_of_row w9 _ 1 _ _ _ J9.out.bx
            have f0 := frozen_of_row w9 _ 0 _ _ J9.out.bx; have f1 := frozen_of_row w9 _ 1 _ _ J9.out.bx
            simp at q0 q1
            clear hor hbl CP J7 hr1 y1 hp y2
            go_wp2
            go_roundw
            case rel => exact ⟨b2, B2, c2, ys, m - 1, a' + 1 + 1, by congr 1; omega, by omega, by omega, by have := HB'.out; have := IN.out.2; omega, IN.out.1, JA.out⟩
            case measure => simp [intOf]; omega
          · have y2 : (pq5 b' xs == 0) = false := by simp [hp]
            go_wp2
            go_roundw
            case rel => exact ⟨b', B, c', xs, m - 1, a' + 1 + 1, by congr 1; omega, by omega, by omega, by have := HB'.out; omega, I.out, J7.out⟩
            case measure => simp [intOf]; omega
        · have CL := Lib.hid (l5Leave_big w.heap.size w7.heap.size B c' so b' xs (id : Int) w7 I.out.ri I.out.any (by have := HB'.out; omega) (OR.sl0 J7.out.ow) J7.out.bx)
          have IN := Lib.hid (I.out.lv (id : Int))
          generalize lv5 xs (id : Int) = ys at *
          generalize bas ys b' = b2 at *
          generalize rst5 b' xs (id : Int) = rv at *
          go_wp2_with fail
          refine CL.out.mono ?_
          rintro e w9 ⟨B2, c2, rfl, hor, hbl⟩
          have J9 := Lib.hid (J7.out.below hbl)
          have O9 := Lib.hid hor
          have Z8 : Hid (w.heap.size ≤ w7.heap.size) := by have := J7.out.lt; have := J7.out.so; show _ ≤ _; omega
          have JA := Lib.hid (J9.out.put (b2 := b2) Z8.out O9.out)
          have q0 := cell_of_row w9 _ 0 _ _ _ J9.out.bx; have q1 := cell_of_row w9 _ 1 _ _ _ J9.out.bx
          have f0 := frozen_of_row w9 _ 0 _ _ J9.out.bx; have f1 := frozen_of_row w9 _ 1 _ _ J9.out.bx
          simp at q0 q1
          clear hor hbl CL J7 hr1 y1
          go_wp2
          go_roundw
          case rel => exact ⟨b2, B2, c2, ys, m - 1, a' + 1 + 1, by congr 1; omega, by omega, by omega, by have := HB'.out; have := IN.out.2; omega, IN.out.1, JA.out⟩
          case measure => simp [intOf]; omega
    · have h3 : ¬ ((0 : Int) < (m : Int)) := by omega
      have q0 := cell_of_row wr _ 0 _ _ _ J.out.bx; have q1 := cell_of_row wr _ 1 _ _ _ J.out.bx
      have f0 := frozen_of_row wr _ 0 _ _ J.out.bx; have f1 := frozen_of_row wr _ 1 _ _ J.out.bx
      simp at q0 q1
      have r0 := cell_of_row wr _ 0 _ _ _ J.out.rb; have r1 := cell_of_row wr _ 1 _ _ _ J.out.rb
      have t0 := frozen_of_row wr _ 0 _ _ J.out.rb; have t1 := frozen_of_row wr _ 1 _ _ J.out.rb
      simp at r0 r1
      have sw := J.out.so
      go_wp2
      refine bodyPost_ret (results_cell_row rfl _ _ w.heap.size _ _ (0, 0) _ rfl (heap_setCell_same _ _ 1 _ _ _ (heap_setCell_same _ _ 0 _ _ _ J.out.rb)) Try.underlying43 rfl (by kernel_rfl)) rfl ?_
      exact ⟨b', B, c', xs, a', rfl, I.out.ri.len, by omega, ⟨I.out, by have := HB'.out; omega⟩, J.out.fin⟩

end Go.Proofs.Ytckapndpefkcgaa
