/-
  The laws' own small functions: lwNotes of two lists that read alike; lwAt: a place below a number. For codes of at most 2^20 bytes.
  Ahead of it:
  The draws of chapter 1, the others (DrawMoveSlot, DrawDropSlots, DrawSameInts): each returns lists in memory of its own and numbers, and turns nothing that was there. For codes of at most 2^20 bytes.
  Ahead of it:
  The draws of chapter 1 (DrawTakeSlot, DrawFreeSlot, DrawMoveSlot, DrawNewVector, DrawDropSlots, DrawSameInts): each returns lists in memory of its own and numbers, and turns nothing that was there. For codes of at most 2^20 bytes.
  Ahead of it:
  The model's draw of a list of owners (l1Draw): it returns a list of at most 13 small numbers in memory of its own, and writes nothing but its source. For codes of at most 2^20 bytes.
  Ahead of it:
  Picking one number out of a list that is written out in the call: the number is one of the list's, and nothing but the source turns. For codes of at most 2^20 bytes.
-/
import Derived.Test.YtkhphkfbjbhgaaaGreatDraw1
namespace Go.Proofs.YtkhphkfbjbhgaaaGreat
open Go.RowKit

set_option maxHeartbeats 1000000 in
theorem sl_new (w : World) (cs : Array Value) (t : TypeId) (xs : List Int) (n : Nat) (hc : ∀ j, j < n → cs[j]? = some (.int .i64 (gi xs j))) :
    Sl (w.alloc (.cells cs t)) w.heap.size (w.heap.size + 1) (some ⟨w.heap.size, 0, none⟩) n (fun j => .int .i64 (gi xs j)) :=
  (Row.new w cs t _ n hc).sl (Nat.le_refl _) (Nat.lt_succ_self _)

set_option maxHeartbeats 1000000 in
/-- picking out of a list that is written out in the call -/
theorem pick_lit (lo hi g : Nat) (A : Option Addr) (k c a n : Nat) (t : TypeId) (cs : Array Value) (b : Nat → Int) (xs : List Int) (w : World) (hk : k ≤ 1048576) (ha : a ≤ 1099511627776)
    (hb : ∀ j, 0 ≤ b j ∧ b j ≤ 255) (h : Sl w lo hi A k (fun j => .int .u8 (b j))) (hg : hi ≤ g) (hs : Src w g A k c a)
    (ex : xs.length = n) (hn1 : 1 ≤ n) (hn2 : n ≤ 1048576) (hc : ∀ j, j < n → cs[j]? = some (.int .i64 (gi xs j))) :
    Calls Tryz.prog 92 #[.pointer (some ⟨g, 0, none⟩), .slice (some ⟨w.heap.size, 0, none⟩) n n] (w.alloc (.cells cs t))
      fun e w' => ∃ r, r < n ∧ e = .returned (.int .i64 (gi xs r)) ∧ Src w' g A k c (a + 1) ∧ Only g (g + 1) w w' ∧ w.heap.size < w'.heap.size := by
  have hgw := hs.lt
  refine (l1Pick_any lo hi g w.heap.size (w.heap.size + 1) A (some ⟨w.heap.size, 0, none⟩) k c a n n b xs (w.alloc (.cells cs t)) hk ha hb (h.below (below_new w _) (by omega)) hg (hs.alloc _) ex hn1 hn2 (sl_new w cs t xs n hc) hgw (by simp)).mono ?_
  rintro e w' ⟨r, hr, rfl, h1, h2⟩
  exact ⟨r, by rw [← ex]; exact hr, rfl, h1, ((Only.refl g (g + 1) w).alloc (by omega) _).trans h2, by have := h2.1.size; simp at this; omega⟩

end Go.Proofs.YtkhphkfbjbhgaaaGreat

namespace Go.Proofs.YtkhphkfbjbhgaaaGreat
open Go.RowKit

set_option maxHeartbeats 1000000 in
theorem hm2 {w wr w2 : World} {g n : Nat} {t : TypeId} {B : Option Addr} {f : Nat → Value} (h : Mine wr w.heap.size wr.heap.size t B n f) (ho : Only g (g + 1) wr w2) (hg : g < w.heap.size) : Mine w2 w.heap.size wr.heap.size t B n f :=
  h.only ho (Nat.le_refl _) (.inr (by omega))

end Go.Proofs.YtkhphkfbjbhgaaaGreat

namespace Go.Proofs.YtkhphkfbjbhgaaaGreat
open Go.RowKit

/-- a list of one's own that was drawn between w and w' -/
def Own1 (w w' : World) (B : Option Addr) (n c' : Nat) (xs : List Int) : Prop :=
  xs.length = n ∧ n ≤ 13 ∧ (B = none → c' = 0) ∧ Mine w' w.heap.size w'.heap.size 2 B n (fun j => .int .i64 (gi xs j)) ∧ (∀ j, -2 ≤ gi xs j ∧ gi xs j ≤ 4) ∧ Below w.heap.size w w'

end Go.Proofs.YtkhphkfbjbhgaaaGreat

namespace Go.Proofs.YtkhphkfbjbhgaaaGreat
open Go.RowKit

set_option maxHeartbeats 1000000 in
theorem Own1.after {w w' w2 : World} {B : Option Addr} {n c' : Nat} {xs : List Int} (h : Own1 w w' B n c' xs) (hb : Below w'.heap.size w' w2) : Own1 w w2 B n c' xs := by
  obtain ⟨h1, h2, h3, h4, h5, h6⟩ := h
  exact ⟨h1, h2, h3, (h4.below hb (Nat.le_refl _)).wide (Nat.le_refl _) hb.size, h5, h6.trans (hb.mono h6.size)⟩

set_option maxHeartbeats 1000000 in
theorem lwBig_any (A : Option Addr) (k c : Nat) (w : World) :
    Calls Tryz.prog 35 #[.slice A k c] w fun e w' => e = .returned (.bool (decide ((1048576 : Int) < (k : Int)))) ∧ w = w' := by
  go_enter Tryz.func35, Tryz.ntmps35
  go_wp2
  go_ret
  exact ⟨rfl, rfl⟩

set_option maxHeartbeats 1000000 in
/-- lwNums: whether the two lists are one -/
theorem lwNums_any (lo hi lo' hi' : Nat) (A A' : Option Addr) (xs ys : List Int) (n n' c c' : Nat) (w : World) (hn : n * 8 ≤ 140737488351232) (ex : xs.length = n) (ey : ys.length = n')
    (h : Sl w lo hi A n (fun k => .int .i64 (gi xs k))) (h' : Sl w lo' hi' A' n' (fun k => .int .i64 (gi ys k))) :
    Calls Tryz.prog 37 #[.slice A n c, .slice A' n' c'] w fun e w' => e = .returned (.bool (decide (xs = ys))) ∧ Below w.heap.size w w' := by
  have H := Lib.hid h
  have H' := Lib.hid h'
  have EX := Lib.hid ex
  have EY := Lib.hid ey
  clear h h' ex ey
  by_cases hne : n = n'
  · subst hne
    go_enter Tryz.func37, Tryz.ntmps37
    go_wp2
    go_loopw [5] (fun i wr => ∃ k : Nat, k ≤ n ∧ i = .int .i64 k ∧ Below w.heap.size w wr ∧ ∀ j, j < k → gi xs j = gi ys j) (fun i _ => n - (intOf i).toNat)
    case atStart => exact ⟨0, Nat.zero_le _, rfl, Below.refl _ _, fun j hj => absurd hj (Nat.not_lt_zero _)⟩
    case round =>
      obtain ⟨k, hk, rfl, hb, hs⟩ := hrel
      by_cases hlt : k < n
      · obtain ⟨b, off, rfl, h1, h2, hc⟩ := H.out.lt.at_ hlt
        obtain ⟨b', off', rfl, h1', h2', hc'⟩ := H'.out.lt.at_ hlt
        have hck := (hb.cell (p := ⟨b, off + k, none⟩) (by simp; omega)).trans (hc k hlt)
        have hck' := (hb.cell (p := ⟨b', off' + k, none⟩) (by simp; omega)).trans (hc' k hlt)
        have HB := Lib.hid hb
        have HS := Lib.hid hs
        clear hb hc hc' hs H H'
        go_wp2_with fail
        go_quiet (fail)
        by_cases he : gi xs k = gi ys k
        · go_wp2
          go_roundw
          case rel => exact ⟨k + 1, by omega, by go_num, below_drewN HB.out _, upto_succ HS.out he⟩
          case measure => simp [intOf]; omega
        · go_wp2
          go_ret
          exact ⟨ret_false (fun h => he (by rw [h])), below_drewN HB.out _⟩
      · go_wp2
        go_ret
        exact ⟨ret_true (same_lists EX.out EY.out fun j hj => hs j (by omega)), hb⟩
  · go_enter Tryz.func37, Tryz.ntmps37
    go_wp2
    go_ret
    exact ⟨ret_false (fun h => hne (by rw [← EX.out, ← EY.out, h])), Below.refl _ _⟩

end Go.Proofs.YtkhphkfbjbhgaaaGreat

namespace Go.Proofs.YtkhphkfbjbhgaaaGreat
open Go.RowKit
set_option maxRecDepth 100000

set_option maxHeartbeats 1000000 in
/-- lwNotes of two slices that read alike: true -/
theorem lwNotes_same (lo hi lo' hi' : Nat) (A A' : Option Addr) (n c c' : Nat) (x : Nat → Int) (w : World) (hn : n * 24 ≤ 140737488351232)
    (h : Sl w lo hi A (n * 3) (fun k => .int .i64 (x k))) (h' : Sl w lo' hi' A' (n * 3) (fun k => .int .i64 (x k))) :
    Calls Tryz.prog 38 #[.slice A n c, .slice A' n c'] w fun e w' => e = .returned (.bool true) ∧ Below w.heap.size w w' := by
  have H := Lib.hid h
  have H' := Lib.hid h'
  clear h h'
  go_enter Tryz.func38, Tryz.ntmps38
  go_wp2
  go_loopw [5] (fun i wr => ∃ k : Nat, k ≤ n ∧ i = .int .i64 k ∧ Below w.heap.size w wr) (fun i _ => n - (intOf i).toNat)
  case atStart => exact ⟨0, Nat.zero_le _, rfl, Below.refl _ _⟩
  case round =>
    obtain ⟨k, hk, rfl, hb⟩ := hrel
    by_cases hlt : k < n
    · obtain ⟨b, off, rfl, h1, h2, hc⟩ := H.out.lt.at_ (show k * 3 < n * 3 by omega)
      obtain ⟨b', off', rfl, h1', h2', hc'⟩ := H'.out.lt.at_ (show k * 3 < n * 3 by omega)
      have p0 : wr.cell? ⟨b, off + k * 3, none⟩ = some (.int .i64 (x (k * 3))) := (hb.cell (p := ⟨b, off + (k * 3), none⟩) (by simp; omega)).trans (hc (k * 3) (by omega))
      have p1 : wr.cell? ⟨b, off + k * 3 + 1, none⟩ = some (.int .i64 (x (k * 3 + 1))) := (hb.cell (p := ⟨b, off + (k * 3 + 1), none⟩) (by simp; omega)).trans (hc (k * 3 + 1) (by omega))
      have p2 : wr.cell? ⟨b, off + k * 3 + 2, none⟩ = some (.int .i64 (x (k * 3 + 2))) := (hb.cell (p := ⟨b, off + (k * 3 + 2), none⟩) (by simp; omega)).trans (hc (k * 3 + 2) (by omega))
      have q0 : wr.cell? ⟨b', off' + k * 3, none⟩ = some (.int .i64 (x (k * 3))) := (hb.cell (p := ⟨b', off' + (k * 3), none⟩) (by simp; omega)).trans (hc' (k * 3) (by omega))
      have q1 : wr.cell? ⟨b', off' + k * 3 + 1, none⟩ = some (.int .i64 (x (k * 3 + 1))) := (hb.cell (p := ⟨b', off' + (k * 3 + 1), none⟩) (by simp; omega)).trans (hc' (k * 3 + 1) (by omega))
      have q2 : wr.cell? ⟨b', off' + k * 3 + 2, none⟩ = some (.int .i64 (x (k * 3 + 2))) := (hb.cell (p := ⟨b', off' + (k * 3 + 2), none⟩) (by simp; omega)).trans (hc' (k * 3 + 2) (by omega))
      have HB := Lib.hid hb
      clear hb hc hc' H H'
      generalize x (k * 3) = x0 at *
      generalize x (k * 3 + 1) = x1 at *
      generalize x (k * 3 + 2) = x2 at *
      go_wp2_with fail
      go_quiet (fail)
      go_wp2
      go_roundw
      case rel => exact ⟨k + 1, by omega, by go_num, below_drewN HB.out _⟩
      case measure => simp [intOf]; omega
    · go_wp2
      go_ret
      exact ⟨rfl, hb⟩

/-- a place below m -/
def AtD (m : Nat) (w : World) (e : Ending) (w' : World) : Prop := ∃ r : Nat, e = .returned (.int .i64 (r : Int)) ∧ r < m ∧ Below w.heap.size w w'
set_option maxHeartbeats 1000000 in
theorem lwAt_any (lo hi : Nat) (A : Option Addr) (k c : Nat) (b : Nat → Int) (a m : Nat) (w : World) (hk : k ≤ 1048576) (ha : a ≤ 1000) (hm0 : 1 ≤ m) (hm : m ≤ 1048576)
    (hb : ∀ j, 0 ≤ b j ∧ b j ≤ 255) (h : Sl w lo hi A k (fun j => .int .u8 (b j))) :
    Calls Tryz.prog 40 #[.slice A k c, .int .i64 (a : Int), .int .i64 (m : Int)] w (AtD m w) := by
  have H := Lib.hid h
  have HB := Lib.hid hb
  clear h hb
  have FIN : ∀ (y : Int) (wq : World) (nq : Nat), 0 ≤ y → wq = w.drewN nq → AtD m w (.returned (.int .i64 (y % (m : Int)))) wq := by
    intro y wq nq hy hwq
    subst hwq
    have h1 : 0 ≤ y % (m : Int) := Int.emod_nonneg _ (by omega)
    have h2 : y % (m : Int) < m := Int.emod_lt_of_pos _ (by omega)
    exact ⟨(y % (m : Int)).toNat, by rw [Int.toNat_of_nonneg h1], by omega, below_drewN (Below.refl _ _) nq⟩
  have HFIN := Lib.hid FIN
  clear FIN
  by_cases hm1 : m ≤ 1
  · have hm1 : (m : Int) ≤ 1 := by omega
    go_enter Tryz.func40, Tryz.ntmps40
    go_wp2
    go_ret
    exact ⟨0, rfl, by omega, Below.refl _ _⟩
  by_cases hk0 : k = 0
  · subst hk0
    go_enter Tryz.func40, Tryz.ntmps40
    go_wp2
    go_ret
    exact HFIN.out ((a : Int) * 7) _ 0 (by omega) rfl
  · obtain ⟨x, off, rfl, hx1, hx2, hc⟩ := H.out.at_ (show 0 < k by omega)
    have hc' : Hid (∀ j, j < k → w.cell? ⟨x, off + j, none⟩ = some (.int .u8 (b j))) := fun j hj => hc j hj
    clear hc
    have hkp : 0 < k := by omega
    obtain ⟨r1, hr1, hr1k⟩ : ∃ r1, a % k = r1 ∧ r1 < k := ⟨_, rfl, Nat.mod_lt _ hkp⟩
    obtain ⟨u1, hu1, hu1a⟩ : ∃ u1, a / k = u1 ∧ u1 ≤ a := ⟨_, rfl, Nat.div_le_self _ _⟩
    have t1 : (a : Int).tmod (k : Int) = (r1 : Int) := by rw [← hr1]; rfl
    have t2 : (a : Int).tdiv (k : Int) = (u1 : Int) := by rw [← hu1]; rfl
    have t1' : (a : Int) % (k : Int) = (r1 : Int) := by rw [← hr1]; rfl
    have t2' : (a : Int) / (k : Int) = (u1 : Int) := by rw [← hu1]; rfl
    have hck := hc'.out r1 hr1k
    obtain ⟨hb1, hb2⟩ := HB.out r1
    generalize hbv : b r1 = bv at *
    have t3 : IntKind.i64.wrap (u1 : Int) = u1 := IntWalk.i64_in _ (by omega)
    have t4 : IntKind.i64.wrap ((u1 : Int) * 3) = (u1 : Int) * 3 := IntWalk.i64_in _ (by omega)
    have t5 : IntKind.i64.wrap (bv + (u1 : Int) * 3) = bv + (u1 : Int) * 3 := IntWalk.i64_in _ (by omega)
    have t6 : IntKind.i64.wrap bv = bv := IntWalk.i64_in _ (by omega)
    have hri : (r1 : Int) < (k : Int) := by omega
    have HR := Lib.hid hr1
    have HU := Lib.hid hu1
    have HV := Lib.hid hbv
    clear hr1 hu1 hbv
    by_cases h200 : m ≤ 200
    · go_enter Tryz.func40, Tryz.ntmps40
      go_wp2_with fail
      go_quiet (fail)
      clear t1 t2 t1' t2' t3 t4 t5 t6
      go_wp2
      go_ret
      exact HFIN.out _ _ _ (by omega) rfl
    · have HT := Lib.hid t1
      obtain ⟨r3, hr3, hr3k⟩ : ∃ r3, (a + 1) % k = r3 ∧ r3 < k := ⟨_, rfl, Nat.mod_lt _ hkp⟩
      have e3 : ((a + 1 : Nat) : Int) = (a : Int) + 1 := by omega
      have m3 : ((a : Int) + 1).tmod (k : Int) = (r3 : Int) := by rw [← hr3, ← e3]; rfl
      have m3' : ((a : Int) + 1) % (k : Int) = (r3 : Int) := by rw [← hr3, ← e3]; rfl
      have hck3 := hc'.out r3 hr3k
      obtain ⟨hb31, hb32⟩ := HB.out r3
      generalize hbv3 : b r3 = bv3 at *
      have w3 : IntKind.i64.wrap ((a : Int) + 1) = (a : Int) + 1 := IntWalk.i64_in _ (by omega)
      have hri3 : (r3 : Int) < (k : Int) := by omega
      have HR3 := Lib.hid hr3
      have HV3 := Lib.hid hbv3
      clear hr3 hbv3 e3
      have y1 : IntKind.i64.wrap ((bv + (u1 : Int) * 3) * 251) = (bv + (u1 : Int) * 3) * 251 := IntWalk.i64_in _ (by omega)
      have y2b : IntKind.i64.wrap (bv3) = bv3 := IntWalk.i64_in _ (by omega)
      have y3 : IntKind.i64.wrap ((bv + (u1 : Int) * 3) * 251 + bv3) = (bv + (u1 : Int) * 3) * 251 + bv3 := IntWalk.i64_in _ (by omega)
      go_enter Tryz.func40, Tryz.ntmps40
      go_wp2_with fail
      go_quiet (fail)
      go_wp2
      go_ret
      exact HFIN.out _ _ _ (by omega) rfl
end Go.Proofs.YtkhphkfbjbhgaaaGreat
