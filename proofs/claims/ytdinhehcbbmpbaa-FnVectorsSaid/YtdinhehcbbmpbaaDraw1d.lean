/-
  The draws of chapter 1, the others (DrawMoveSlot, DrawDropSlots, DrawSameInts): each returns lists in memory of its own and numbers, and turns nothing that was there. For codes of at most 2^20 bytes.
-/
import Derived.Test.YtdinhehcbbmpbaaDraw1c
namespace Go.Proofs.Ytdinhehcbbmpbaa
open Go.RowKit

theorem res4 {fn : Func} {t u v x : Tmp} (h : fn.results = #[.tmp t, .tmp u, .tmp v, .tmp x]) (tmps : Array Value) (P : Program) (w : World) :
    (results fn tmps).run P w = .ok (.tuple #[tmps.getD t undef, tmps.getD u undef, tmps.getD v undef, tmps.getD x undef]) w := by simp [results, h]

theorem Own1.after {w w' w2 : World} {B : Option Addr} {n c' : Nat} {xs : List Int} (h : Own1 w w' B n c' xs) (hb : Below w'.heap.size w' w2) : Own1 w w2 B n c' xs := by
  obtain ⟨h1, h2, h3, h4, h5, h6⟩ := h
  exact ⟨h1, h2, h3, (h4.below hb (Nat.le_refl _)).wide (Nat.le_refl _) hb.size, h5, h6.trans (hb.mono h6.size)⟩

theorem DrawDropSlots_any (lo hi : Nat) (A : Option Addr) (k c : Nat) (b : Nat → Int) (w : World) (hk : k ≤ 1048576)
    (hb : ∀ j, 0 ≤ b j ∧ b j ≤ 255) (h : Sl w lo hi A k (fun j => .int .u8 (b j))) :
    Calls Try.prog 20 #[.slice A k c] w (Owners2 w) := by
  have C := Lib.hid (DrawTakeSlot_any lo hi A k c b w hk hb h)
  clear h hb
  go_enter Try.func20, Try.ntmps20
  go_wp2_with fail
  refine C.out.mono ?_
  rintro e w1 ⟨B, n, c', xs, x, y, rfl, ho⟩
  have HO := Lib.hid ho
  clear ho C
  go_wp2
  go_ret2
  exact ⟨B, n, c', xs, x, rfl, HO.out⟩

theorem DrawMoveSlot_any (lo hi : Nat) (A : Option Addr) (k c : Nat) (b : Nat → Int) (w : World) (hk : k ≤ 1048576)
    (hb : ∀ j, 0 ≤ b j ∧ b j ≤ 255) (h : Sl w lo hi A k (fun j => .int .u8 (b j))) :
    Calls Try.prog 15 #[.slice A k c] w (Owners4 w) := by
  have C := Lib.hid (DrawFreeSlot_any lo hi A k c b w hk hb h)
  have H := Lib.hid h
  have HBY := Lib.hid hb
  clear h hb
  go_enter Try.func15, Try.ntmps15
  go_wp2_with fail
  refine C.out.mono ?_
  rintro e w1 ⟨B, n, c', xs, env, y, rfl, ho⟩
  have HO := Lib.hid ho
  have HC1 := Lib.hid (H.out.lt.below ho.2.2.2.2.2 (by omega))
  have hsz : w.heap.size ≤ w1.heap.size := ho.2.2.2.2.2.size
  clear ho C
  go_wp2_with fail
  refine (l1Later_any A k c 2 w1 (by omega)).mono ?_
  rintro e w2 ⟨rfl, hs2, hb2⟩
  have hsz2 : w1.heap.size < w2.heap.size := hs2.lt
  have HC2 := Lib.hid (HC1.out.below hb2 (by omega))
  have HB2 := Lib.hid hb2
  have CP := Lib.hid (pick_lit lo (min hi w.heap.size) w1.heap.size A k c (5 + 7 * 2) 7 2 #[.int .i64 0, .int .i64 1, .int .i64 2, .int .i64 3, .int .i64 env, .int .i64 4, .int .i64 (-1)] b [0, 1, 2, 3, env, 4, -1] w2 hk (by omega) HBY.out HC2.out (by omega) hs2 rfl (by omega) (by omega)
    (fun q hq => by rcases (show q = 0 ∨ q = 1 ∨ q = 2 ∨ q = 3 ∨ q = 4 ∨ q = 5 ∨ q = 6 by omega) with rfl | rfl | rfl | rfl | rfl | rfl | rfl <;> rfl))
  clear hs2 hb2 HC1
  go_wp2_with fail
  refine CP.out.mono ?_
  rintro e w3 ⟨r, _, rfl, _, ho3, hsz3⟩
  generalize gi [0, 1, 2, 3, env, 4, -1] r = to
  have HO3 : Hid (Own1 w w3 B n c' xs) := by
    obtain ⟨h1, h2, h3, h4, h5, h6⟩ := HO.out
    exact ⟨h1, h2, h3, ((h4.below HB2.out (Nat.le_refl _)).only ho3 (by omega) (.inl (Nat.le_refl _))).wide (Nat.le_refl _) (by omega), h5, (h6.trans (HB2.out.mono hsz)).trans (ho3.1.mono hsz)⟩
  clear ho3 CP HO
  go_wp2
  refine bodyPost_ret (res4 rfl _ _ _) rfl ?_
  exact ⟨B, n, c', xs, _, _, _, rfl, HO3.out⟩

/-- two lists of one's own, drawn between w and w' -/
def Pair1 (w : World) (e : Ending) (w' : World) : Prop :=
  ∃ B n c' xs B2 n2 c2 ys, e = .returned (.tuple #[.slice B n c', .slice B2 n2 c2]) ∧ xs.length = n ∧ n ≤ 13 ∧ ys.length = n2 ∧ n2 ≤ 13 ∧
    Mine w' w.heap.size w'.heap.size 2 B n (fun j => .int .i64 (gi xs j)) ∧ Mine w' w.heap.size w'.heap.size 2 B2 n2 (fun j => .int .i64 (gi ys j)) ∧ Below w.heap.size w w'

theorem DrawSameInts_any (lo hi : Nat) (A : Option Addr) (k c : Nat) (b : Nat → Int) (w : World) (hk : k ≤ 1048576)
    (hb : ∀ j, 0 ≤ b j ∧ b j ≤ 255) (h : Sl w lo hi A k (fun j => .int .u8 (b j))) :
    Calls Try.prog 22 #[.slice A k c] w (Pair1 w) := by
  have H := Lib.hid h
  have HBY := Lib.hid hb
  clear h hb
  go_enter Try.func22, Try.ntmps22
  go_wp2_with fail
  refine (l1Source_any A k c w).mono ?_
  rintro e w1 ⟨rfl, hs1, hb1⟩
  have hsz1 : w.heap.size < w1.heap.size := hs1.lt
  have HC1 : Hid (Sl w1 lo (min hi w.heap.size) A k (fun j => .int .u8 (b j))) := H.out.lt.below hb1 (by omega)
  have CD := Lib.hid (l1Draw_any lo (min hi w.heap.size) w.heap.size A k c 0 b w1 hk (by omega) HBY.out HC1.out (by omega) hs1)
  have HB1 := Lib.hid hb1
  clear hs1 hb1
  go_wp2_with fail
  refine CD.out.mono ?_
  rintro e w2 ⟨B, n, c', xs, a', rfl, ex, hn13, hB, hm, hx, ha', hs2, ho2⟩
  have hsz2 : w1.heap.size ≤ w2.heap.size := ho2.1.size
  have HC2 := Lib.hid (HC1.out.only ho2 (by omega) (.inl (by omega)))
  have EX := Lib.hid ex
  have HX := Lib.hid hx
  have HM2 := Lib.hid hm
  have HB2 := Lib.hid (HB1.out.trans (ho2.1.mono (Nat.le_refl _)))
  have CI := Lib.hid (l1Ints_any _ _ B n c' xs w2 (by omega) ex hB hm.sl)
  have HS2 := Lib.hid hs2
  clear ex hB hx hm ho2 hs2 CD HC1
  go_wp2_with fail
  refine CI.out.mono ?_
  rintro e w3 ⟨B3, c3, rfl, hB3, hm3, hb3⟩
  have hsz3 : w2.heap.size ≤ w3.heap.size := hb3.size
  have HC3 := Lib.hid (HC2.out.below hb3 (by omega))
  have HS3 := Lib.hid (HS2.out.below hb3)
  have HM3 := Lib.hid (HM2.out.below hb3 (Nat.le_refl _))
  have HN3 := Lib.hid hm3
  have HB3 := Lib.hid (HB2.out.trans (hb3.mono (by omega)))
  clear hm3 hb3 CI HM2 HS2 HC2 HB2
  by_cases hn0 : n = 0
  · subst hn0
    go_wp2
    go_ret2
    exact ⟨B, 0, c', xs, B3, 0, c3, xs, rfl, EX.out, by omega, EX.out, by omega, HM3.out.wide (by omega) (by omega), HN3.out.wide (by omega) (Nat.le_refl _), HB3.out⟩
  have CC := Lib.hid (l1Chance_any lo (min hi w.heap.size) w.heap.size A k c a' 2 b w3 (by omega) hk (by omega) HBY.out HC3.out (by omega) HS3.out)
  go_wp2_with fail
  refine CC.out.mono ?_
  rintro e w5 ⟨y, rfl, hs5, ho5⟩
  have hsz5 : w3.heap.size ≤ w5.heap.size := ho5.1.size
  have HC5 := Lib.hid (HC3.out.only ho5 (by omega) (.inl (by omega)))
  have HM5 := Lib.hid (HM3.out.only ho5 (by omega) (.inr (by omega)))
  have HN5 := Lib.hid (HN3.out.only ho5 (by omega) (.inr (by omega)))
  have HB5 := Lib.hid (HB3.out.trans (ho5.1.mono (Nat.le_refl _)))
  clear ho5 CC HC3 HM3 HN3 HB3 HS3
  cases y
  · go_wp2
    go_ret2
    exact ⟨B, n, c', xs, B3, n, c3, xs, rfl, EX.out, hn13, EX.out, hn13, HM5.out.wide (by omega) (by omega), HN5.out.wide (by omega) (by omega), HB5.out⟩
  have CN := Lib.hid (l1Next_any lo (min hi w.heap.size) w.heap.size A k c (a' + 1) (n : Int) b w5 (by omega) hk (by omega) HBY.out HC5.out (by omega) hs5)
  clear hs5
  go_wp2_with fail
  refine CN.out.mono ?_
  rintro e w6 ⟨r6, rfl, hr6, _, _, ho6⟩
  have hsz6 : w5.heap.size ≤ w6.heap.size := ho6.1.size
  have hr6' : r6 < n := by have := hr6 (by omega); omega
  have HM6 := Lib.hid (HM5.out.only ho6 (by omega) (.inr (by omega)))
  have HN6 := Lib.hid (HN5.out.only ho6 (by omega) (.inr (by omega)))
  have HB6 := Lib.hid (HB5.out.trans (ho6.1.mono (Nat.le_refl _)))
  clear ho6 CN HM5 HN5 HB5 hr6
  rcases HN6.out with h0 | ⟨x, off, rfl, h1, h2, hrow⟩
  · omega
  have hco := hrow.cell hr6'
  have hfo := hrow.frozen (off + r6)
  have hgb := HX.out r6
  have HR := Lib.hid (hrow.set hr6' (.int .i64 (gi xs r6 + 1)))
  have HBf := Lib.hid (HB6.out.setCell (p := ⟨x, off + r6, none⟩) (by simp; omega) (.int .i64 (gi xs r6 + 1)))
  have HMf : Hid (Mine (w6.setCell ⟨x, off + r6, none⟩ (.int .i64 (gi xs r6 + 1))) w1.heap.size w2.heap.size 2 B n (fun j => .int .i64 (gi xs j))) := HM6.out.keep fun q hq1 hq2 => Below.heap_setCell w6 _ _ q (by simp; omega)
  clear hrow HM6 HN6 HB6
  go_wp2
  go_ret2
  refine ⟨B, n, c', xs, _, n, c3, xs.set r6 (gi xs r6 + 1), rfl, EX.out, hn13, by simp [EX.out], hn13, HMf.out.wide (by omega) (by simp [World.setCell]; omega), .inr ⟨x, off, rfl, by omega, by simp [World.setCell]; omega, HR.out.congr fun j hj => ?_⟩, HBf.out⟩
  rw [gi_set]
  by_cases e : j = r6
  · rw [if_pos e, if_pos ⟨e, by rw [EX.out]; exact hr6'⟩]
  · rw [if_neg e, if_neg (fun h => e h.1)]

theorem lwBig_any (A : Option Addr) (k c : Nat) (w : World) :
    Calls Try.prog 12 #[.slice A k c] w fun e w' => e = .returned (.bool (decide ((1048576 : Int) < (k : Int)))) ∧ w = w' := by
  go_enter Try.func12, Try.ntmps12
  go_wp2
  go_ret
  exact ⟨rfl, rfl⟩

/-- lwNums: whether the two lists are one -/
theorem lwNums_any (lo hi lo' hi' : Nat) (A A' : Option Addr) (xs ys : List Int) (n n' c c' : Nat) (w : World) (hn : n * 8 ≤ 140737488351232) (ex : xs.length = n) (ey : ys.length = n')
    (h : Sl w lo hi A n (fun k => .int .i64 (gi xs k))) (h' : Sl w lo' hi' A' n' (fun k => .int .i64 (gi ys k))) :
    Calls Try.prog 34 #[.slice A n c, .slice A' n' c'] w fun e w' => e = .returned (.bool (decide (xs = ys))) ∧ Below w.heap.size w w' := by
  have H := Lib.hid h
  have H' := Lib.hid h'
  have EX := Lib.hid ex
  have EY := Lib.hid ey
  clear h h' ex ey
  by_cases hne : n = n'
  · subst hne
    go_enter Try.func34, Try.ntmps34
    go_wp2
    go_loopw [5] (fun i wr => ∃ k : Nat, k ≤ n ∧ i = .int .i64 k ∧ Below w.heap.size w wr ∧ ∀ j, j < k → gi xs j = gi ys j) (fun i _ => n - (intOf i).toNat)
    case atStart => exact ⟨0, Nat.zero_le _, rfl, Below.refl _ _, fun j hj => absurd hj (Nat.not_lt_zero _)⟩
    case round =>
      obtain ⟨k, hk, rfl, hb, hs⟩ := hrel
      by_cases hlt : k < n
      · obtain ⟨b, off, rfl, h1, h2, hc⟩ := H.out.lt.at_ hlt
        obtain ⟨b', off', rfl, h1', h2', hc'⟩ := H'.out.lt.at_ hlt
        have hck := (hb.cell (p := ⟨b, off + k, none⟩) (by simp; omega)).trans (hc k hlt)
        have hck' := (hb.cell (p := ⟨b', off' + k, none⟩) (by simp; omega)).trans (hc' k hlt)
        have HB := Lib.hid hb
        have HS := Lib.hid hs
        clear hb hc hc' hs H H'
        go_wp2_with fail
        go_quiet (fail)
        by_cases he : gi xs k = gi ys k
        · go_wp2
          go_roundw
          case rel => exact ⟨k + 1, by omega, by go_num, below_drewN HB.out _, upto_succ HS.out he⟩
          case measure => simp [intOf]; omega
        · go_wp2
          go_ret
          exact ⟨ret_false (fun h => he (by rw [h])), below_drewN HB.out _⟩
      · go_wp2
        go_ret
        exact ⟨ret_true (same_lists EX.out EY.out fun j hj => hs j (by omega)), hb⟩
  · go_enter Try.func34, Try.ntmps34
    go_wp2
    go_ret
    exact ⟨ret_false (fun h => hne (by rw [← EX.out, ← EY.out, h])), Below.refl _ _⟩

end Go.Proofs.Ytdinhehcbbmpbaa
