/-
  IsFair's small functions: how often, how many tickets, the greater. No conditions beyond that the lists can be read.
-/
import Derived.Test.YtckapndpefkcgaaMath9f
import Derived.Test.YtckapndpefkcgaaSpec5j
set_option maxHeartbeats 1000000
namespace Go.Proofs.Ytckapndpefkcgaa
open Go.RowKit
set_option maxRecDepth 100000

theorem timesIn_any (lo hi : Nat) (A : Option Addr) (n c : Nat) (ids : List Int) (id : Int) (w : World) (hn : n ≤ 1048576) (hl : ids.length = n) (h : Sl w lo hi A n (fun k => .int .i64 (gi ids k))) :
    Calls Try.prog 79 #[.slice A n c, .int .i64 id] w fun e w' => e = .returned (.int .i64 (tmi ids id ids.length : Int)) ∧ Below w.heap.size w w' := by
  have H := Lib.hid h.lt
  have HL := Lib.hid hl
  clear h hl
  go_enter Try.func79, Try.ntmps79
  go_wp2_with fail
  go_loopw [5, 10] (fun q i wr => ∃ k : Nat, k ≤ n ∧ i = .int .i64 (k : Int) ∧ q = .int .i64 (tmi ids id k : Int) ∧ Below w.heap.size w wr) (fun _ i _ => n - (intOf i).toNat)
  case atStart => exact ⟨0, Nat.zero_le _, rfl, rfl, Below.refl _ _⟩
  case round =>
    obtain ⟨k, hk, rfl, rfl, hb⟩ := hrel
    have BR := Lib.hid hb
    by_cases hlt : k < n
    · obtain ⟨b, off, rfl, h1, h2, hc⟩ := H.out.at_ hlt
      have c0 : wr.cell? ⟨b, off + k, none⟩ = some (.int .i64 (gi ids k)) := (hb.cell (p := ⟨b, off + k, none⟩) (by simp; omega)).trans (hc k hlt)
      have NX := Lib.hid (show tmi ids id (k + 1) = tmi ids id k + (if gi ids k = id then 1 else 0) from rfl)
      have NL := tmi_le ids id k
      have z0 : (0 : Int) ≤ (k : Int) := by omega
      have z1 : (k : Int) < (n : Int) := by omega
      generalize gi ids k = a1 at *
      clear hc hb
      by_cases e1 : a1 = id
      · have y1 : (a1 == id) = true := by simp [e1]
        have E := Lib.hid e1
        clear e1
        go_wp2
        go_roundw
        case rel => exact ⟨k + 1, by omega, by go_num, by rw [NX.out, if_pos E.out]; go_num, BR.out⟩
        case measure => simp [intOf]; omega
      · have y1 : (a1 == id) = false := by simp [e1]
        have E := Lib.hid e1
        clear e1
        go_wp2
        go_roundw
        case rel => exact ⟨k + 1, by omega, by go_num, by rw [NX.out, if_neg E.out]; go_num, BR.out⟩
        case measure => simp [intOf]; omega
    · obtain rfl : k = n := by omega
      go_wp2
      go_ret
      exact ⟨by rw [HL.out]; first | done | rfl, BR.out⟩

theorem ticketsOf_any (lo hi : Nat) (A : Option Addr) (n c : Nat) (hs : List Int) (w : World) (hn : n ≤ 5) (ht : ∀ i, i < n → 1 ≤ gi hs (i * 3 + 1) ∧ gi hs (i * 3 + 1) ≤ 10) (h : Sl w lo hi A (n * 3) (fun k => .int .i64 (gi hs k))) :
    Calls Try.prog 77 #[.slice A n c] w fun e w' => e = .returned (.int .i64 (tka hs n)) ∧ Below w.heap.size w w' := by
  have H := Lib.hid h.lt
  have HT := Lib.hid ht
  clear h ht
  go_enter Try.func77, Try.ntmps77
  go_wp2_with fail
  go_loopw [3, 8] (fun q i wr => ∃ k : Nat, k ≤ n ∧ i = .int .i64 (k : Int) ∧ q = .int .i64 (tka hs k) ∧ Below w.heap.size w wr) (fun _ i _ => n - (intOf i).toNat)
  case atStart => exact ⟨0, Nat.zero_le _, rfl, rfl, Below.refl _ _⟩
  case round =>
    obtain ⟨k, hk, rfl, rfl, hb⟩ := hrel
    have BR := Lib.hid hb
    by_cases hlt : k < n
    · obtain ⟨b, off, rfl, h1, h2, hc⟩ := H.out.at_ (show k * 3 < n * 3 by omega)
      have c0 : wr.cell? ⟨b, off + k * 3, none⟩ = some (.int .i64 (gi hs (k * 3))) := (hb.cell (p := ⟨b, off + (k * 3), none⟩) (by simp; omega)).trans (hc (k * 3) (by omega))
      have c1 : wr.cell? ⟨b, off + k * 3 + 1, none⟩ = some (.int .i64 (gi hs (k * 3 + 1))) := (hb.cell (p := ⟨b, off + (k * 3 + 1), none⟩) (by simp; omega)).trans (hc (k * 3 + 1) (by omega))
      have c2 : wr.cell? ⟨b, off + k * 3 + 2, none⟩ = some (.int .i64 (gi hs (k * 3 + 2))) := (hb.cell (p := ⟨b, off + (k * 3 + 2), none⟩) (by simp; omega)).trans (hc (k * 3 + 2) (by omega))
      have NX := Lib.hid (show tka hs (k + 1) = tka hs k + gi hs (k * 3 + 1) from rfl)
      have NL := tka_le k fun i hi => HT.out i (by omega)
      have NL2 := HT.out k hlt
      have z0 : (0 : Int) ≤ (k : Int) := by omega
      have z1 : (k : Int) < (n : Int) := by omega
      have wr1 : IntKind.i64.wrap (tka hs k + gi hs (k * 3 + 1)) = tka hs k + gi hs (k * 3 + 1) := IntWalk.i64_in _ (by omega)
      obtain ⟨w9, hw9⟩ : ∃ V, V = wr.alloc (.cells #[.int .i64 (gi hs (k * 3)), .int .i64 (gi hs (k * 3 + 1)), .int .i64 (gi hs (k * 3 + 2))] 52) := ⟨_, rfl⟩
      have K9 : w9.heap[wr.heap.size]? = some (.cells #[.int .i64 (gi hs (k * 3)), .int .i64 (gi hs (k * 3 + 1)), .int .i64 (gi hs (k * 3 + 2))] 52 (0, 0)) := by rw [hw9]; exact heap_alloc_new wr _
      have B9 : Hid (Below w.heap.size w w9) := by rw [hw9]; exact BR.out.trans ((below_new wr _).mono BR.out.size)
      have u1 := cell_of_row w9 _ 1 _ _ _ K9
      simp at u1
      have HW9 := Lib.hid hw9
      clear hw9 K9 hb hc
      go_upto_region 5 with (fail)
      rw [← HW9.out]
      clear HW9 c0 c1 c2
      go_wp2
      go_roundw
      case rel => exact ⟨k + 1, by omega, by go_num, by rw [NX.out], B9.out⟩
      case measure => simp [intOf]; omega
    · obtain rfl : k = n := by omega
      go_wp2
      go_ret
      exact ⟨rfl, BR.out⟩

end Go.Proofs.Ytckapndpefkcgaa
