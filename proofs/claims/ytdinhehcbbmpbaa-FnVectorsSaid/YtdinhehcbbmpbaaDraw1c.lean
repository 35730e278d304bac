/-
  The draws of chapter 1 (DrawTakeSlot, DrawFreeSlot, DrawMoveSlot, DrawNewVector, DrawDropSlots, DrawSameInts): each returns lists in memory of its own and numbers, and turns nothing that was there. For codes of at most 2^20 bytes.
-/
import Derived.Test.YtdinhehcbbmpbaaDraw1b
namespace Go.Proofs.Ytdinhehcbbmpbaa
open Go.RowKit

/-- picking out of a list that is written out in the call -/
theorem pick_lit (lo hi g : Nat) (A : Option Addr) (k c a n : Nat) (t : TypeId) (cs : Array Value) (b : Nat → Int) (xs : List Int) (w : World) (hk : k ≤ 1048576) (ha : a ≤ 1099511627776)
    (hb : ∀ j, 0 ≤ b j ∧ b j ≤ 255) (h : Sl w lo hi A k (fun j => .int .u8 (b j))) (hg : hi ≤ g) (hs : Src w g A k c a)
    (ex : xs.length = n) (hn1 : 1 ≤ n) (hn2 : n ≤ 1048576) (hc : ∀ j, j < n → cs[j]? = some (.int .i64 (gi xs j))) :
    Calls Try.prog 44 #[.pointer (some ⟨g, 0, none⟩), .slice (some ⟨w.heap.size, 0, none⟩) n n] (w.alloc (.cells cs t))
      fun e w' => ∃ r, r < n ∧ e = .returned (.int .i64 (gi xs r)) ∧ Src w' g A k c (a + 1) ∧ Only g (g + 1) w w' ∧ w.heap.size < w'.heap.size := by
  have hgw := hs.lt
  refine (l1Pick_any lo hi g w.heap.size (w.heap.size + 1) A (some ⟨w.heap.size, 0, none⟩) k c a n n b xs (w.alloc (.cells cs t)) hk ha hb (h.below (below_new w _) (by omega)) hg (hs.alloc _) ex hn1 hn2 (sl_new w cs t xs n hc) hgw (by simp)).mono ?_
  rintro e w' ⟨r, hr, rfl, h1, h2⟩
  exact ⟨r, by rw [← ex]; exact hr, rfl, h1, ((Only.refl g (g + 1) w).alloc (by omega) _).trans h2, by have := h2.1.size; simp at this; omega⟩

/-- a list of one's own that was drawn between w and w' -/
def Own1 (w w' : World) (B : Option Addr) (n c' : Nat) (xs : List Int) : Prop :=
  xs.length = n ∧ n ≤ 13 ∧ (B = none → c' = 0) ∧ Mine w' w.heap.size w'.heap.size 2 B n (fun j => .int .i64 (gi xs j)) ∧ (∀ j, -2 ≤ gi xs j ∧ gi xs j ≤ 4) ∧ Below w.heap.size w w'

def Owners3 (w : World) (e : Ending) (w' : World) : Prop :=
  ∃ B n c' xs x y, e = .returned (.tuple #[.slice B n c', .int .i64 x, .int .i64 y]) ∧ Own1 w w' B n c' xs
def Owners4 (w : World) (e : Ending) (w' : World) : Prop :=
  ∃ B n c' xs x y z, e = .returned (.tuple #[.slice B n c', .int .i64 x, .int .i64 y, .int .i64 z]) ∧ Own1 w w' B n c' xs
def Owners2 (w : World) (e : Ending) (w' : World) : Prop :=
  ∃ B n c' xs x, e = .returned (.tuple #[.slice B n c', .int .i64 x]) ∧ Own1 w w' B n c' xs
theorem own1_of {w w1 w' : World} {g : Nat} {B : Option Addr} {n c' lo : Nat} {xs : List Int} (ex : xs.length = n) (hn : n ≤ 13) (hB : B = none → c' = 0) (hm : Mine w' lo w'.heap.size 2 B n (fun j => .int .i64 (gi xs j)))
    (hx : ∀ j, -2 ≤ gi xs j ∧ gi xs j ≤ 4) (h1 : Below w.heap.size w w1) (ho : Only g (g + 1) w1 w') (hg : g = w.heap.size) (hlo : w.heap.size ≤ lo) : Own1 w w' B n c' xs :=
  ⟨ex, hn, hB, hm.wide hlo (Nat.le_refl _), hx, h1.trans (ho.1.mono (by omega))⟩

theorem DrawNewVector_any (lo hi : Nat) (A : Option Addr) (k c : Nat) (b : Nat → Int) (w : World) (hk : k ≤ 1048576)
    (hb : ∀ j, 0 ≤ b j ∧ b j ≤ 255) (h : Sl w lo hi A k (fun j => .int .u8 (b j))) :
    Calls Try.prog 18 #[.slice A k c] w fun e w' => ∃ x, e = .returned (.int .i64 x) ∧ Below w.heap.size w w' := by
  have H := Lib.hid h
  have HBY := Lib.hid hb
  clear h hb
  go_enter Try.func18, Try.ntmps18
  go_wp2_with fail
  refine (l1Source_any A k c w).mono ?_
  rintro e w1 ⟨rfl, hs1, hb1⟩
  have HC1 : Hid (Sl w1 lo (min hi w.heap.size) A k (fun j => .int .u8 (b j))) := H.out.lt.below hb1 (by omega)
  have CP := Lib.hid (pick_lit lo (min hi w.heap.size) w.heap.size A k c 0 6 2 #[.int .i64 1, .int .i64 5, .int .i64 12, .int .i64 13, .int .i64 0, .int .i64 (-1)] b [1, 5, 12, 13, 0, -1] w1 hk (by omega) HBY.out HC1.out (by omega) hs1 rfl (by omega) (by omega)
    (fun q hq => by rcases (show q = 0 ∨ q = 1 ∨ q = 2 ∨ q = 3 ∨ q = 4 ∨ q = 5 by omega) with rfl | rfl | rfl | rfl | rfl | rfl <;> rfl))
  have HB1 := Lib.hid hb1
  clear hs1 hb1
  go_wp2_with fail
  refine CP.out.mono ?_
  rintro e w2 ⟨r, _, rfl, _, ho, _⟩
  have HB2 := Lib.hid (HB1.out.trans (ho.1.mono (Nat.le_refl _)))
  clear ho CP
  go_wp2
  go_ret
  exact ⟨_, rfl, HB2.out⟩

theorem DrawTakeSlot_any (lo hi : Nat) (A : Option Addr) (k c : Nat) (b : Nat → Int) (w : World) (hk : k ≤ 1048576)
    (hb : ∀ j, 0 ≤ b j ∧ b j ≤ 255) (h : Sl w lo hi A k (fun j => .int .u8 (b j))) :
    Calls Try.prog 13 #[.slice A k c] w (Owners3 w) := by
  have H := Lib.hid h
  have HBY := Lib.hid hb
  clear h hb
  go_enter Try.func13, Try.ntmps13
  go_wp2_with fail
  refine (l1Source_any A k c w).mono ?_
  rintro e w1 ⟨rfl, hs1, hb1⟩
  have hsz1 : w.heap.size < w1.heap.size := hs1.lt
  have HC1 : Hid (Sl w1 lo (min hi w.heap.size) A k (fun j => .int .u8 (b j))) := H.out.lt.below hb1 (by omega)
  have CD := Lib.hid (l1Draw_any lo (min hi w.heap.size) w.heap.size A k c 0 b w1 hk (by omega) HBY.out HC1.out (by omega) hs1)
  have HB1 := Lib.hid hb1
  clear hs1 hb1
  go_wp2_with fail
  refine CD.out.mono ?_
  rintro e w2 ⟨B, n, c', xs, a', rfl, ex, hn13, hB, hm, hx, ha', hs2, ho2⟩
  have hsz2 : w1.heap.size ≤ w2.heap.size := ho2.1.size
  have HC2 := Lib.hid (HC1.out.only ho2 (by omega) (.inl (by omega)))
  have EX := Lib.hid ex
  have HBn := Lib.hid hB
  have HX := Lib.hid hx
  have HM2 := Lib.hid hm
  have HO2 := Lib.hid ho2
  have CP := Lib.hid (pick_lit lo (min hi w.heap.size) w.heap.size A k c a' 8 2 #[.int .i64 0, .int .i64 1, .int .i64 2, .int .i64 3, .int .i64 0, .int .i64 1, .int .i64 4, .int .i64 (-1)] b [0, 1, 2, 3, 0, 1, 4, -1] w2 hk (by omega) HBY.out HC2.out (by omega) hs2 rfl (by omega) (by omega)
    (fun q hq => by rcases (show q = 0 ∨ q = 1 ∨ q = 2 ∨ q = 3 ∨ q = 4 ∨ q = 5 ∨ q = 6 ∨ q = 7 by omega) with rfl | rfl | rfl | rfl | rfl | rfl | rfl | rfl <;> rfl))
  clear ex hB hx hm ho2 hs2 CD HC1
  go_wp2_with fail
  refine CP.out.mono ?_
  rintro e w3 ⟨r, _, rfl, hs3, ho3, hsz3⟩
  generalize gi [0, 1, 2, 3, 0, 1, 4, -1] r = env
  have HC3 := Lib.hid (HC2.out.only ho3 (by omega) (.inl (by omega)))
  have HM3 := Lib.hid (HM2.out.only ho3 (Nat.le_refl _) (.inr (by omega)))
  have HO3 := Lib.hid (HO2.out.trans ho3)
  have CN := Lib.hid (l1Next_any lo (min hi w.heap.size) w.heap.size A k c (a' + 1) ((n : Int) + 2) b w3 (by omega) hk (by omega) HBY.out HC3.out (by omega) hs3)
  clear ho3 hs3 CP HC2 HM2 HO2
  go_wp2_with fail
  refine CN.out.mono ?_
  rintro e w4 ⟨r4, rfl, hr4, _, hs4, ho4⟩
  have hsz4 : w3.heap.size ≤ w4.heap.size := ho4.1.size
  have hr4' : (r4 : Int) < (n : Int) + 2 := hr4 (by omega)
  have HC4 := Lib.hid (HC3.out.only ho4 (by omega) (.inl (by omega)))
  have HM4 := Lib.hid (HM3.out.only ho4 (by omega) (.inr (by omega)))
  have HO4 := Lib.hid (HO3.out.trans ho4)
  clear ho4 CN HC3 HM3 HO3 hr4
  by_cases hn0 : n = 0
  · subst hn0
    go_wp2
    go_ret3
    exact ⟨B, 0, c', xs, _, _, rfl, own1_of EX.out (by omega) HBn.out (HM4.out.wide (Nat.le_refl _) (by omega)) HX.out HB1.out HO4.out rfl (by omega)⟩
  have CC := Lib.hid (l1Chance_any lo (min hi w.heap.size) w.heap.size A k c (a' + 1 + 1) 2 b w4 (by omega) hk (by omega) HBY.out HC4.out (by omega) hs4)
  clear hs4
  go_wp2_with fail
  refine CC.out.mono ?_
  rintro e w5 ⟨y, rfl, hs5, ho5⟩
  have hsz5 : w4.heap.size ≤ w5.heap.size := ho5.1.size
  have HC5 := Lib.hid (HC4.out.only ho5 (by omega) (.inl (by omega)))
  have HM5 := Lib.hid (HM4.out.only ho5 (by omega) (.inr (by omega)))
  have HO5 := Lib.hid (HO4.out.trans ho5)
  clear ho5 CC HC4 HM4 HO4
  cases y
  · go_wp2
    go_ret3
    exact ⟨B, n, c', xs, _, _, rfl, own1_of EX.out hn13 HBn.out (HM5.out.wide (Nat.le_refl _) (by omega)) HX.out HB1.out HO5.out rfl (by omega)⟩
  have CN := Lib.hid (l1Next_any lo (min hi w.heap.size) w.heap.size A k c (a' + 1 + 1 + 1) (n : Int) b w5 (by omega) hk (by omega) HBY.out HC5.out (by omega) hs5)
  clear hs5
  go_wp2_with fail
  refine CN.out.mono ?_
  rintro e w6 ⟨r6, rfl, hr6, _, _, ho6⟩
  have hsz6 : w5.heap.size ≤ w6.heap.size := ho6.1.size
  have hr6' : r6 < n := by have := hr6 (by omega); omega
  have HM6 := Lib.hid (HM5.out.only ho6 (by omega) (.inr (by omega)))
  have HO6 := Lib.hid (HO5.out.trans ho6)
  clear ho6 CN HM5 HO5 hr6
  obtain ⟨x, off, rfl, h1, h2, hc⟩ := HM6.out.sl.at_ hr6'
  have hck := hc r6 hr6'
  clear hc
  go_wp2
  go_ret3
  exact ⟨_, n, c', xs, _, _, rfl, own1_of EX.out hn13 HBn.out (HM6.out.wide (Nat.le_refl _) (by omega)) HX.out HB1.out HO6.out rfl (by omega)⟩

theorem DrawFreeSlot_any (lo hi : Nat) (A : Option Addr) (k c : Nat) (b : Nat → Int) (w : World) (hk : k ≤ 1048576)
    (hb : ∀ j, 0 ≤ b j ∧ b j ≤ 255) (h : Sl w lo hi A k (fun j => .int .u8 (b j))) :
    Calls Try.prog 52 #[.slice A k c] w (Owners3 w) := by
  have H := Lib.hid h
  have HBY := Lib.hid hb
  clear h hb
  go_enter Try.func52, Try.ntmps52
  go_wp2_with fail
  refine (l1Source_any A k c w).mono ?_
  rintro e w1 ⟨rfl, hs1, hb1⟩
  have hsz1 : w.heap.size < w1.heap.size := hs1.lt
  have HC1 : Hid (Sl w1 lo (min hi w.heap.size) A k (fun j => .int .u8 (b j))) := H.out.lt.below hb1 (by omega)
  have CD := Lib.hid (l1Draw_any lo (min hi w.heap.size) w.heap.size A k c 0 b w1 hk (by omega) HBY.out HC1.out (by omega) hs1)
  have HB1 := Lib.hid hb1
  clear hs1 hb1
  go_wp2_with fail
  refine CD.out.mono ?_
  rintro e w2 ⟨B, n, c', xs, a', rfl, ex, hn13, hB, hm, hx, ha', hs2, ho2⟩
  have hsz2 : w1.heap.size ≤ w2.heap.size := ho2.1.size
  have HC2 := Lib.hid (HC1.out.only ho2 (by omega) (.inl (by omega)))
  have EX := Lib.hid ex
  have HBn := Lib.hid hB
  have HX := Lib.hid hx
  have HM2 := Lib.hid hm
  have HO2 := Lib.hid ho2
  have CN := Lib.hid (l1Next_any lo (min hi w.heap.size) w.heap.size A k c a' ((n : Int) + 2) b w2 (by omega) hk (by omega) HBY.out HC2.out (by omega) hs2)
  clear ex hB hx hm ho2 hs2 CD HC1
  go_wp2_with fail
  refine CN.out.mono ?_
  rintro e w3 ⟨r4, rfl, hr4, _, hs3, ho3⟩
  have hsz3 : w2.heap.size ≤ w3.heap.size := ho3.1.size
  have hr4' : (r4 : Int) < (n : Int) + 2 := hr4 (by omega)
  have HC3 := Lib.hid (HC2.out.only ho3 (by omega) (.inl (by omega)))
  have HM3 := Lib.hid (HM2.out.only ho3 (by omega) (.inr (by omega)))
  have HO3 := Lib.hid (HO2.out.trans ho3)
  have CP := Lib.hid (pick_lit lo (min hi w.heap.size) w.heap.size A k c (a' + 1) 4 2 #[.int .i64 0, .int .i64 1, .int .i64 2, .int .i64 4] b [0, 1, 2, 4] w3 hk (by omega) HBY.out HC3.out (by omega) hs3 rfl (by omega) (by omega)
    (fun q hq => by rcases (show q = 0 ∨ q = 1 ∨ q = 2 ∨ q = 3 by omega) with rfl | rfl | rfl | rfl <;> rfl))
  clear ho3 hs3 CN HC2 HM2 HO2 hr4
  go_wp2_with fail
  refine CP.out.mono ?_
  rintro e w4 ⟨r, _, rfl, hs4, ho4, hsz4⟩
  generalize gi [0, 1, 2, 4] r = env
  have HC4 := Lib.hid (HC3.out.only ho4 (by omega) (.inl (by omega)))
  have HM4 := Lib.hid (HM3.out.only ho4 (by omega) (.inr (by omega)))
  have HO4 := Lib.hid (HO3.out.trans ho4)
  clear ho4 CP HC3 HM3 HO3
  by_cases hr0 : r4 = 0
  · subst hr0
    go_wp2
    go_ret3
    exact ⟨B, n, c', xs, _, _, rfl, own1_of EX.out hn13 HBn.out (HM4.out.wide (Nat.le_refl _) (by omega)) HX.out HB1.out HO4.out rfl (by omega)⟩
  obtain ⟨q, rfl⟩ : ∃ q, r4 = q + 1 := ⟨r4 - 1, by omega⟩
  have hq1 : Hid (((q + 1 : Nat) : Int) - 1 = (q : Int)) := by show _ = _; omega
  rw [hq1.out]
  by_cases hqn : q < n
  · have CC := Lib.hid (l1Chance_any lo (min hi w.heap.size) w.heap.size A k c (a' + 1 + 1) 3 b w4 (by omega) hk (by omega) HBY.out HC4.out (by omega) hs4)
    clear hs4
    go_wp2_with fail
    refine CC.out.mono ?_
    rintro e w5 ⟨y, rfl, hs5, ho5⟩
    have hsz5 : w4.heap.size ≤ w5.heap.size := ho5.1.size
    have HM5 := Lib.hid (HM4.out.only ho5 (by omega) (.inr (by omega)))
    have HO5 := Lib.hid (HO4.out.trans ho5)
    clear ho5 CC HC4 HM4 HO4 hs5
    obtain ⟨x, off, rfl, h1, h2, hc⟩ := HM5.out.sl.at_ hqn
    have hck := hc q hqn
    clear hc
    cases y
    all_goals
      go_wp2
      go_ret3
      exact ⟨_, n, c', xs, _, _, rfl, own1_of EX.out hn13 HBn.out (HM5.out.wide (Nat.le_refl _) (by omega)) HX.out HB1.out HO5.out rfl (by omega)⟩
  · go_wp2
    go_ret3
    exact ⟨B, n, c', xs, _, _, rfl, own1_of EX.out hn13 HBn.out (HM4.out.wide (Nat.le_refl _) (by omega)) HX.out HB1.out HO4.out rfl (by omega)⟩

end Go.Proofs.Ytdinhehcbbmpbaa
