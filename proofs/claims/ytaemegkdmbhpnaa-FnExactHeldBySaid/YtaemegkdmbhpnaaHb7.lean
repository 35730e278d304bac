/-
  HeldBy: the places of the locks that one owns: the program's, the model's. No conditions beyond that the lists can be read.
-/
import Derived.Test.YtaemegkdmbhpnaaLib7
import Derived.Test.YtaemegkdmbhpnaaRow6
namespace Go.Proofs.Ytaemegkdmbhpnaa
open Go.RowKit
set_option maxRecDepth 100000

/-- the places below k whose owner it is -/
def hb7 (t : Nat → Int) (id : Int) : Nat → List Int
  | 0 => []
  | k + 1 => if t k = id then hb7 t id k ++ [(k : Int)] else hb7 t id k
theorem hb7_len (t : Nat → Int) (id : Int) : ∀ k, (hb7 t id k).length ≤ k := by
  intro k
  induction k with
  | zero => exact Nat.le_refl _
  | succ k ih =>
    unfold hb7
    by_cases h : t k = id
    · rw [if_pos h]; simp; exact ih
    · rw [if_neg h]; omega
/-- a round: the places so far in a row of one's own -/
def HbR (w : World) (n : Nat) (t : Nat → Int) (id : Int) (p i : Value) (wr : World) : Prop :=
  ∃ (k : Nat) (A : Option Addr) (c : Nat), k ≤ n ∧ i = .int .i64 k ∧ p = .slice A (hb7 t id k).length c ∧ OR 2 1 wr w.heap.size A (hb7 t id k).length c (hb7 t id k) ∧ Below w.heap.size w wr

set_option maxHeartbeats 4000000 in
theorem heldBy_any (lo hi : Nat) (A : Option Addr) (n c : Nat) (t : Nat → Int) (B : Nat → Option Addr) (m d : Nat → Nat) (x : Nat → Nat → Int) (id : Int) (w : World) (hn : n ≤ 1048576) (h : LL w lo hi A n t B m d x) :
    Calls Try.prog 98 #[.slice A n c, .int .i64 id] w fun e w' => ∃ A' c', e = .returned (.slice A' (hb7 t id n).length c') ∧ OR 2 1 w' w.heap.size A' (hb7 t id n).length c' (hb7 t id n) ∧ Below w.heap.size w w' := by
  obtain ⟨i0, hi0, hz0, hz1, hz2⟩ := info_parts Try.info_i64
  have H := Lib.hid h.lt
  have HN := Lib.hid hn
  clear h hn
  go_enter Try.func98, Try.ntmps98
  go_wp2_with fail
  go_loopw [5, 10] (fun p i wr => HbR w n t id p i wr) (fun _ i _ => n - (intOf i).toNat)
  case atStart => exact ⟨0, none, 0, Nat.zero_le _, rfl, rfl, OR.void _ _, Below.refl _ _⟩
  case round =>
    obtain ⟨k, A', c', hk, rfl, rfl, ho, hb⟩ := hrel
    have HB := Lib.hid hb
    have HO := Lib.hid ho
    by_cases hlt : k < n
    · have wk : IntKind.i64.wrap ((k : Int) + 1) = (k : Int) + 1 := IntWalk.i64_in _ (by have := HN.out; omega)
      have HL := Lib.hid (show (hb7 t id k).length ≤ 1048576 from Nat.le_trans (hb7_len t id k) (by have := HN.out; omega))
      have HK := Lib.hid hlt
      obtain ⟨b, off, rfl, h1, h2, hc⟩ := H.out.at_ hlt
      obtain ⟨p0, p1⟩ := hc k hlt
      have c0 : wr.cell? ⟨b, off + k * 2, none⟩ = _ := (hb.cell (p := ⟨b, off + k * 2, none⟩) (by simp; omega)).trans p0
      have c1 : wr.cell? ⟨b, off + k * 2 + 1, none⟩ = _ := (hb.cell (p := ⟨b, off + k * 2 + 1, none⟩) (by simp; omega)).trans p1
      obtain ⟨w1, hw1⟩ : ∃ w1, w1 = wr.alloc (.cells #[.int .i64 (t k), .slice (B k) (m k) (d k)] 132) := ⟨_, rfl⟩
      have k1 := cell_of_row w1 _ 0 _ _ _ (show w1.heap[wr.heap.size]? = some (.cells #[.int .i64 (t k), .slice (B k) (m k) (d k)] 132 (0, 0)) by rw [hw1]; exact heap_alloc_new wr _)
      have HB1 : Hid (Below w.heap.size w w1) := by rw [hw1]; exact HB.out.alloc HB.out.size _
      have HO1 : Hid (OR 2 1 w1 w.heap.size A' (hb7 t id k).length c' (hb7 t id k)) := by rw [hw1]; exact OR.alloc HO.out _
      have HW1 := Lib.hid hw1
      simp at k1
      clear hc p0 p1 hb ho hw1 H
      go_upto_region 5 with (fail)
      rw [← HW1.out]
      clear HW1 c0 c1
      by_cases he : t k = id
      · have he' : (t k == id) = true := by simp [he]
        have NX : Hid (hb7 t id (k + 1) = hb7 t id k ++ [(k : Int)]) := if_pos he
        have HB2 : Hid (Below w.heap.size w (w1.alloc (.cells #[.int .i64 (k : Int)] 2))) := HB1.out.alloc HB1.out.size _
        have HO2 : Hid (OR 2 1 (w1.alloc (.cells #[.int .i64 (k : Int)] 2)) w.heap.size A' (hb7 t id k).length c' (hb7 t id k)) := OR.alloc HO1.out _
        have NW := Lib.hid (one_new6 w1 (k : Int))
        have ZB := Lib.hid HB2.out.size
        clear he
        go_wp2_with ((at_builtin; refine wpList_append_own _ rfl (.tmp 19) (.tmp 21) 22 rfl w.heap.size 2 i0 (.int .i64 0) 1 8 Try.underlying22 hi0 hz0 hz1 hz2 rfl (by decide) (.slice A' (hb7 t id k).length c') (hb7 t id k).length (vals (hb7 t id k)) rfl HO2.out ⟨w1.heap.size, 0, none⟩ 1 1 [.int .i64 (k : Int)] rfl rfl NW.out (by simp [Value.oneCell']) (by unfold maxLen; have := HL.out; omega) (by have := HL.out; omega) ZB.out ?_; intro v' w7 hown hgrow _; have HO7 := Lib.hid (row_more6 hown); have HB7 := Lib.hid (HB2.out.trans (OR.grew6 HO2.out ZB.out hgrow)); clear hown hgrow))
        obtain ⟨A7, c7, hv7, ho7⟩ := HO7.out
        subst hv7
        have HO8 := Lib.hid ho7
        clear ho7 HO7
        (try go_wp2)
        go_roundw
        case rel => exact ⟨k + 1, A7, c7, by omega, by rfl, by rw [NX.out]; simp, by rw [NX.out]; have := HO8.out; simpa using this, HB7.out⟩
        case measure => simp [intOf]; omega
      · have he' : (t k == id) = false := by simp [he]
        have NX : Hid (hb7 t id (k + 1) = hb7 t id k) := if_neg he
        clear he
        go_wp2
        go_roundw
        case rel => exact ⟨k + 1, A', c', by omega, by rfl, by rw [NX.out], by rw [NX.out]; exact HO1.out, HB1.out⟩
        case measure => simp [intOf]; omega
    · obtain rfl : n = k := by omega
      clear hb ho
      go_wp2
      go_ret
      exact ⟨A', c', rfl, HO.out, HB.out⟩

end Go.Proofs.Ytaemegkdmbhpnaa
