/-
  A note's text, on both sides: NoteText. No conditions beyond that impl.noteWords lies as its initialiser lays it.
-/
import Derived.Test.YtckapndpefkcgaaDoorChecked
import Derived.Deep.RegionHeld3
import Derived.BigQuiet
import Derived.Test.YtckapndpefkcgaaDoorTk
import Derived.Test.YtckapndpefkcgaaDoorBase
set_option maxHeartbeats 1000000
namespace Go.Proofs.YtckapndpefkcgaaDoor
open List renaming getElem_toArray → zz1, getElem_cons_succ → zz2, getElem_cons_zero → zz3, setIfInBounds_toArray → zz4, set_cons_zero → zz5, set_cons_succ → zz6
open Go.RowKit
set_option maxRecDepth 100000

def wn : Nat → ByteArray
  | 1 => ⟨#[114, 117, 110]⟩ | 2 => ⟨#[115, 107, 105, 112]⟩ | 3 => ⟨#[105, 100, 108, 101]⟩ | 4 => ⟨#[121, 105, 101, 108, 100]⟩
  | 5 => ⟨#[114, 101, 116, 117, 114, 110]⟩ | 6 => ⟨#[102, 111, 114, 99, 101, 100]⟩ | 7 => ⟨#[100, 114, 111, 112, 112, 101, 100]⟩ | _ => ⟨#[]⟩
def NW (W : World) : Prop := ∀ k : Nat, k < 8 → W.cell? ⟨0, k, none⟩ = some (.string (wn k))
theorem NW.below {w w' : World} (h : NW w) (hb : Below w.heap.size w w') : NW w' := fun k hk => (World.cell?_of_block (hb.block _ (World.block_lt_of_cell? _ _ (h k hk)))).trans (h k hk)
def dg (b : Int) : ByteArray := if b = 0 then ⟨#[48]⟩ else if b = 1 then ⟨#[49]⟩ else if b = 2 then ⟨#[50]⟩ else ⟨#[51]⟩
def one10 (v : Int) : Bool := decide (v = -1 ∨ (0 ≤ v ∧ v ≤ 3))
def in10 (lo hi v : Int) : Bool := decide (lo ≤ v ∧ v ≤ hi)
theorem in10_true {lo hi v : Int} (h : lo ≤ v ∧ v ≤ hi) : in10 lo hi v = true := decide_eq_true h
theorem in10_false {lo hi v : Int} (h : ¬ (lo ≤ v ∧ v ≤ hi)) : in10 lo hi v = false := decide_eq_false h
theorem cases4 {b : Int} (h : 0 ≤ b ∧ b ≤ 3) : b = 0 ∨ b = 1 ∨ b = 2 ∨ b = 3 := by omega

theorem l1In10 (v lo hi : Int) (w : World) :
    Calls Tryd.prog 21 #[.int .i64 v, .int .i64 lo, .int .i64 hi] w fun e w' => e = .returned (.bool (in10 lo hi v)) ∧ w = w' := by
  by_cases h1 : lo ≤ v
  · by_cases h2 : v ≤ hi
    · go_enter Tryd.func21, Tryd.ntmps21
      go_wp2
      go_ret
      exact ⟨ret_bool (in10_true ⟨h1, h2⟩).symm, rfl⟩
    · go_enter Tryd.func21, Tryd.ntmps21
      go_wp2
      go_ret
      exact ⟨ret_bool (in10_false (by omega)).symm, rfl⟩
  · go_enter Tryd.func21, Tryd.ntmps21
    go_wp2
    go_ret
    exact ⟨ret_bool (in10_false (by omega)).symm, rfl⟩

theorem l1Env10 (v : Int) (w : World) :
    Calls Tryd.prog 22 #[.int .i64 v] w fun e w' => e = .returned (.bool (in10 0 3 v)) ∧ w = w' := by
  go_enter Tryd.func22, Tryd.ntmps22
  go_wp2_with fail
  refine (l1In10 v 0 3 _).mono ?_
  rintro e w' ⟨rfl, rfl⟩
  go_wp2
  go_ret
  exact ⟨rfl, rfl⟩

theorem isEnv10 (v : Int) (w : World) :
    Calls Tryd.prog 33 #[.int .i64 v] w fun e w' => e = .returned (.bool (in10 0 3 v)) ∧ w = w' := by
  by_cases h1 : 0 ≤ v
  · by_cases h2 : v < 4
    · go_enter Tryd.func33, Tryd.ntmps33
      go_wp2
      go_ret
      exact ⟨ret_bool (in10_true (by omega)).symm, rfl⟩
    · go_enter Tryd.func33, Tryd.ntmps33
      go_wp2
      go_ret
      exact ⟨ret_bool (in10_false (by omega)).symm, rfl⟩
  · go_enter Tryd.func33, Tryd.ntmps33
    go_wp2
    go_ret
    exact ⟨ret_bool (in10_false (by omega)).symm, rfl⟩

theorem isOne10 (v : Int) (w : World) :
    Calls Tryd.prog 24 #[.int .i64 v] w fun e w' => e = .returned (.bool (one10 v)) ∧ w = w' := by
  by_cases hv : v = -1
  · subst hv
    go_enter Tryd.func24, Tryd.ntmps24
    go_wp2
    go_ret
    exact ⟨ret_bool (by decide), rfl⟩
  · have IE := Lib.hid (isEnv10 v)
    have E : Hid (one10 v = in10 0 3 v) := by show _ = _; unfold one10 in10; simp [hv]
    have hv2 : (v == -1) = false := by simpa using hv
    rw [E.out]
    clear E hv
    generalize in10 0 3 v = b at *
    go_enter Tryd.func24, Tryd.ntmps24
    go_wp2_with fail
    refine (IE.out _).mono ?_
    rintro e w' ⟨rfl, rfl⟩
    go_wp2
    go_ret
    exact ⟨rfl, rfl⟩

theorem small10_0 (w : World) : Calls Tryd.prog 59 #[.int .i64 0] w fun e w' => e = .returned (.string ⟨#[48]⟩) ∧ w = w' := by
  go_enter Tryd.func59, Tryd.ntmps59
  go_wp2
  go_ret
  exact ⟨by first | rfl | kernel_rfl | decide, rfl⟩
theorem fmtI10_0 (w : World) : Calls Tryd.prog 54 #[.int .i64 0, .int .i64 10] w fun e w' => e = .returned (.string ⟨#[48]⟩) ∧ w = w' := by
  have S := Lib.hid (fun w => small10_0 w)
  go_enter Tryd.func54, Tryd.ntmps54
  go_wp2_with fail
  refine (S.out _).mono ?_
  rintro e w' ⟨rfl, rfl⟩
  go_wp2
  go_ret
  exact ⟨rfl, rfl⟩
theorem fmt10_0 (w : World) : Calls Tryd.prog 44 #[.int .i64 0, .int .i64 10] w fun e w' => e = .returned (.string ⟨#[48]⟩) ∧ w = w' := by
  have S := Lib.hid (fun w => fmtI10_0 w)
  go_enter Tryd.func44, Tryd.ntmps44
  go_wp2_with fail
  refine (S.out _).mono ?_
  rintro e w' ⟨rfl, rfl⟩
  go_wp2
  go_ret
  exact ⟨rfl, rfl⟩
theorem digits10_0 (w : World) : Calls Tryd.prog 34 #[.int .i64 0] w fun e w' => e = .returned (.string ⟨#[48]⟩) ∧ w = w' := by
  have S := Lib.hid (fun w => fmt10_0 w)
  go_enter Tryd.func34, Tryd.ntmps34
  go_wp2_with fail
  refine (S.out _).mono ?_
  rintro e w' ⟨rfl, rfl⟩
  go_wp2
  go_ret
  exact ⟨rfl, rfl⟩
theorem l1Digits10_0 (w : World) : Calls Tryd.prog 32 #[.int .i64 0] w fun e w' => e = .returned (.string ⟨#[48]⟩) ∧ Below w.heap.size w w' := by
  have B1 : Hid (∀ o, Below w.heap.size w (w.alloc o)) := fun o => (Below.refl _ _).alloc (Nat.le_refl _) o
  have CV : (convert 84 9 (.slice (some ⟨w.heap.size, 0, none⟩) 1 1)).run Tryd.prog (w.alloc (.cells #[.int .u8 48] 5)) = .ok (.string ⟨#[48]⟩) (w.alloc (.cells #[.int .u8 48] 5)) :=
    run_convert_bytes_back _ 84 9 5 ⟨w.heap.size, 0, none⟩ 1 [48] Tryd.underlying84 Tryd.underlying5 Tryd.underlying9 (fun j hj => by
      obtain rfl : j = 0 := by simp at hj; omega
      exact cell_of_row _ _ 0 _ _ _ (heap_alloc_new w _))
  have CH := Lib.hid CV
  clear CV
  go_enter Tryd.func32, Tryd.ntmps32
  go_wp2
  rw [CH.out]
  go_wp2
  go_ret
  exact ⟨rfl, B1.out _⟩

theorem small10_1 (w : World) : Calls Tryd.prog 59 #[.int .i64 1] w fun e w' => e = .returned (.string ⟨#[49]⟩) ∧ w = w' := by
  go_enter Tryd.func59, Tryd.ntmps59
  go_wp2
  go_ret
  exact ⟨by first | rfl | kernel_rfl | decide, rfl⟩
theorem fmtI10_1 (w : World) : Calls Tryd.prog 54 #[.int .i64 1, .int .i64 10] w fun e w' => e = .returned (.string ⟨#[49]⟩) ∧ w = w' := by
  have S := Lib.hid (fun w => small10_1 w)
  go_enter Tryd.func54, Tryd.ntmps54
  go_wp2_with fail
  refine (S.out _).mono ?_
  rintro e w' ⟨rfl, rfl⟩
  go_wp2
  go_ret
  exact ⟨rfl, rfl⟩
theorem fmt10_1 (w : World) : Calls Tryd.prog 44 #[.int .i64 1, .int .i64 10] w fun e w' => e = .returned (.string ⟨#[49]⟩) ∧ w = w' := by
  have S := Lib.hid (fun w => fmtI10_1 w)
  go_enter Tryd.func44, Tryd.ntmps44
  go_wp2_with fail
  refine (S.out _).mono ?_
  rintro e w' ⟨rfl, rfl⟩
  go_wp2
  go_ret
  exact ⟨rfl, rfl⟩
theorem digits10_1 (w : World) : Calls Tryd.prog 34 #[.int .i64 1] w fun e w' => e = .returned (.string ⟨#[49]⟩) ∧ w = w' := by
  have S := Lib.hid (fun w => fmt10_1 w)
  go_enter Tryd.func34, Tryd.ntmps34
  go_wp2_with fail
  refine (S.out _).mono ?_
  rintro e w' ⟨rfl, rfl⟩
  go_wp2
  go_ret
  exact ⟨rfl, rfl⟩
theorem l1Digits10_1 (w : World) : Calls Tryd.prog 32 #[.int .i64 1] w fun e w' => e = .returned (.string ⟨#[49]⟩) ∧ Below w.heap.size w w' := by
  have B1 : Hid (∀ o, Below w.heap.size w (w.alloc o)) := fun o => (Below.refl _ _).alloc (Nat.le_refl _) o
  have CV : (convert 84 9 (.slice (some ⟨w.heap.size, 0, none⟩) 1 1)).run Tryd.prog (w.alloc (.cells #[.int .u8 49] 5)) = .ok (.string ⟨#[49]⟩) (w.alloc (.cells #[.int .u8 49] 5)) :=
    run_convert_bytes_back _ 84 9 5 ⟨w.heap.size, 0, none⟩ 1 [49] Tryd.underlying84 Tryd.underlying5 Tryd.underlying9 (fun j hj => by
      obtain rfl : j = 0 := by simp at hj; omega
      exact cell_of_row _ _ 0 _ _ _ (heap_alloc_new w _))
  have CH := Lib.hid CV
  clear CV
  go_enter Tryd.func32, Tryd.ntmps32
  go_wp2
  rw [CH.out]
  go_wp2
  go_ret
  exact ⟨rfl, B1.out _⟩

theorem small10_2 (w : World) : Calls Tryd.prog 59 #[.int .i64 2] w fun e w' => e = .returned (.string ⟨#[50]⟩) ∧ w = w' := by
  go_enter Tryd.func59, Tryd.ntmps59
  go_wp2
  go_ret
  exact ⟨by first | rfl | kernel_rfl | decide, rfl⟩
theorem fmtI10_2 (w : World) : Calls Tryd.prog 54 #[.int .i64 2, .int .i64 10] w fun e w' => e = .returned (.string ⟨#[50]⟩) ∧ w = w' := by
  have S := Lib.hid (fun w => small10_2 w)
  go_enter Tryd.func54, Tryd.ntmps54
  go_wp2_with fail
  refine (S.out _).mono ?_
  rintro e w' ⟨rfl, rfl⟩
  go_wp2
  go_ret
  exact ⟨rfl, rfl⟩
theorem fmt10_2 (w : World) : Calls Tryd.prog 44 #[.int .i64 2, .int .i64 10] w fun e w' => e = .returned (.string ⟨#[50]⟩) ∧ w = w' := by
  have S := Lib.hid (fun w => fmtI10_2 w)
  go_enter Tryd.func44, Tryd.ntmps44
  go_wp2_with fail
  refine (S.out _).mono ?_
  rintro e w' ⟨rfl, rfl⟩
  go_wp2
  go_ret
  exact ⟨rfl, rfl⟩
theorem digits10_2 (w : World) : Calls Tryd.prog 34 #[.int .i64 2] w fun e w' => e = .returned (.string ⟨#[50]⟩) ∧ w = w' := by
  have S := Lib.hid (fun w => fmt10_2 w)
  go_enter Tryd.func34, Tryd.ntmps34
  go_wp2_with fail
  refine (S.out _).mono ?_
  rintro e w' ⟨rfl, rfl⟩
  go_wp2
  go_ret
  exact ⟨rfl, rfl⟩
theorem l1Digits10_2 (w : World) : Calls Tryd.prog 32 #[.int .i64 2] w fun e w' => e = .returned (.string ⟨#[50]⟩) ∧ Below w.heap.size w w' := by
  have B1 : Hid (∀ o, Below w.heap.size w (w.alloc o)) := fun o => (Below.refl _ _).alloc (Nat.le_refl _) o
  have CV : (convert 84 9 (.slice (some ⟨w.heap.size, 0, none⟩) 1 1)).run Tryd.prog (w.alloc (.cells #[.int .u8 50] 5)) = .ok (.string ⟨#[50]⟩) (w.alloc (.cells #[.int .u8 50] 5)) :=
    run_convert_bytes_back _ 84 9 5 ⟨w.heap.size, 0, none⟩ 1 [50] Tryd.underlying84 Tryd.underlying5 Tryd.underlying9 (fun j hj => by
      obtain rfl : j = 0 := by simp at hj; omega
      exact cell_of_row _ _ 0 _ _ _ (heap_alloc_new w _))
  have CH := Lib.hid CV
  clear CV
  go_enter Tryd.func32, Tryd.ntmps32
  go_wp2
  rw [CH.out]
  go_wp2
  go_ret
  exact ⟨rfl, B1.out _⟩

theorem small10_3 (w : World) : Calls Tryd.prog 59 #[.int .i64 3] w fun e w' => e = .returned (.string ⟨#[51]⟩) ∧ w = w' := by
  go_enter Tryd.func59, Tryd.ntmps59
  go_wp2
  go_ret
  exact ⟨by first | rfl | kernel_rfl | decide, rfl⟩
theorem fmtI10_3 (w : World) : Calls Tryd.prog 54 #[.int .i64 3, .int .i64 10] w fun e w' => e = .returned (.string ⟨#[51]⟩) ∧ w = w' := by
  have S := Lib.hid (fun w => small10_3 w)
  go_enter Tryd.func54, Tryd.ntmps54
  go_wp2_with fail
  refine (S.out _).mono ?_
  rintro e w' ⟨rfl, rfl⟩
  go_wp2
  go_ret
  exact ⟨rfl, rfl⟩
theorem fmt10_3 (w : World) : Calls Tryd.prog 44 #[.int .i64 3, .int .i64 10] w fun e w' => e = .returned (.string ⟨#[51]⟩) ∧ w = w' := by
  have S := Lib.hid (fun w => fmtI10_3 w)
  go_enter Tryd.func44, Tryd.ntmps44
  go_wp2_with fail
  refine (S.out _).mono ?_
  rintro e w' ⟨rfl, rfl⟩
  go_wp2
  go_ret
  exact ⟨rfl, rfl⟩
theorem digits10_3 (w : World) : Calls Tryd.prog 34 #[.int .i64 3] w fun e w' => e = .returned (.string ⟨#[51]⟩) ∧ w = w' := by
  have S := Lib.hid (fun w => fmt10_3 w)
  go_enter Tryd.func34, Tryd.ntmps34
  go_wp2_with fail
  refine (S.out _).mono ?_
  rintro e w' ⟨rfl, rfl⟩
  go_wp2
  go_ret
  exact ⟨rfl, rfl⟩
theorem l1Digits10_3 (w : World) : Calls Tryd.prog 32 #[.int .i64 3] w fun e w' => e = .returned (.string ⟨#[51]⟩) ∧ Below w.heap.size w w' := by
  have B1 : Hid (∀ o, Below w.heap.size w (w.alloc o)) := fun o => (Below.refl _ _).alloc (Nat.le_refl _) o
  have CV : (convert 84 9 (.slice (some ⟨w.heap.size, 0, none⟩) 1 1)).run Tryd.prog (w.alloc (.cells #[.int .u8 51] 5)) = .ok (.string ⟨#[51]⟩) (w.alloc (.cells #[.int .u8 51] 5)) :=
    run_convert_bytes_back _ 84 9 5 ⟨w.heap.size, 0, none⟩ 1 [51] Tryd.underlying84 Tryd.underlying5 Tryd.underlying9 (fun j hj => by
      obtain rfl : j = 0 := by simp at hj; omega
      exact cell_of_row _ _ 0 _ _ _ (heap_alloc_new w _))
  have CH := Lib.hid CV
  clear CV
  go_enter Tryd.func32, Tryd.ntmps32
  go_wp2
  rw [CH.out]
  go_wp2
  go_ret
  exact ⟨rfl, B1.out _⟩

theorem digits10 (b : Int) (h : 0 ≤ b ∧ b ≤ 3) (w : World) : Calls Tryd.prog 34 #[.int .i64 b] w fun e w' => e = .returned (.string (dg b)) ∧ w = w' := by
  rcases cases4 h with rfl | rfl | rfl | rfl
  · exact digits10_0 w
  · exact digits10_1 w
  · exact digits10_2 w
  · exact digits10_3 w
theorem l1Digits10 (b : Int) (h : 0 ≤ b ∧ b ≤ 3) (w : World) : Calls Tryd.prog 32 #[.int .i64 b] w fun e w' => e = .returned (.string (dg b)) ∧ Below w.heap.size w w' := by
  rcases cases4 h with rfl | rfl | rfl | rfl
  · exact l1Digits10_0 w
  · exact l1Digits10_1 w
  · exact l1Digits10_2 w
  · exact l1Digits10_3 w

theorem wn_size (n : Nat) : (wn n).size ≤ 7 := by
  unfold wn
  split <;> decide
theorem dg_size (b : Int) : (dg b).size = 1 := by
  unfold dg
  split
  · rfl
  · split
    · rfl
    · split <;> rfl
def txt (b : Int) (n : Nat) : ByteArray := if b = -1 then wn n else wn n ++ ⟨#[32]⟩ ++ dg b
theorem textOf10_none (a : Int) (n : Nat) (hn : n < 8) (w : World) (hw : NW w) :
    Calls Tryd.prog 25 #[.agg #[.int .i64 a, .int .i64 (-1), .int .i64 n]] w fun e w' => e = .returned (.string (wn n)) ∧ Below w.heap.size w w' := by
  have B1 : Hid (∀ o, Below w.heap.size w (w.alloc o)) := fun o => (Below.refl _ _).alloc (Nat.le_refl _) o
  obtain ⟨w1, hw1⟩ : ∃ w1, w1 = w.alloc (.cells #[.int .i64 a, .int .i64 (-1), .int .i64 n] 32) := ⟨_, rfl⟩
  have C1 := NW.below hw (show Below w.heap.size w w1 by rw [hw1]; exact B1.out _) n hn
  have h0 : (n : Int) < 8 := by omega
  have h1 : w1.heap[w.heap.size]? = some (.cells #[.int .i64 a, .int .i64 (-1), .int .i64 n] 32 (0, 0)) := by rw [hw1]; exact heap_alloc_new w _
  have q1 := cell_of_row w1 _ 1 _ _ _ h1; have q2 := cell_of_row w1 _ 2 _ _ _ h1
  simp at q1 q2
  generalize wn n = s at *
  have BW : Hid (Below w.heap.size w w1) := by show Below _ _ _; rw [hw1]; exact B1.out _
  have HW := Lib.hid hw1
  clear hw1 h1 B1 hw
  go_enter Tryd.func25, Tryd.ntmps25
  go_upto_region 1 with (fail)
  rw [← HW.out]
  clear HW
  go_wp2
  go_ret
  exact ⟨rfl, BW.out⟩
theorem textOf10_env (a b : Int) (hb : 0 ≤ b ∧ b ≤ 3) (n : Nat) (hn : n < 8) (w : World) (hw : NW w) :
    Calls Tryd.prog 25 #[.agg #[.int .i64 a, .int .i64 b, .int .i64 n]] w fun e w' => e = .returned (.string (wn n ++ ⟨#[32]⟩ ++ dg b)) ∧ Below w.heap.size w w' := by
  have DG := Lib.hid (digits10 b hb)
  have z1 : ¬ 9223372036854775807 < (wn n).size + 1 := by have := wn_size n; omega
  have z2 : ¬ 9223372036854775807 < (wn n).size + 1 + (dg b).size := by have := wn_size n; have := dg_size b; omega
  generalize dg b = d at *
  obtain ⟨w1, hw1⟩ : ∃ w1, w1 = w.alloc (.cells #[.int .i64 a, .int .i64 b, .int .i64 n] 32) := ⟨_, rfl⟩
  have BW : Hid (Below w.heap.size w w1) := by show Below _ _ _; rw [hw1]; exact (Below.refl _ _).alloc (Nat.le_refl _) _
  have h0 : (n : Int) < 8 := by omega
  have hb1 : (b == -1) = false := by simp; omega
  have h1 : w1.heap[w.heap.size]? = some (.cells #[.int .i64 a, .int .i64 b, .int .i64 n] 32 (0, 0)) := by rw [hw1]; exact heap_alloc_new w _
  have KH : Hid (∀ V, Below w1.heap.size w1 V → (V.cell? ⟨w.heap.size, 1, none⟩ = some (.int .i64 b) ∧ V.cell? ⟨w.heap.size, 2, none⟩ = some (.int .i64 n) ∧ V.cell? ⟨0, n, none⟩ = some (.string (wn n))) ∧ Below w1.heap.size w1 V) := fun V hV => by
    have j := (hV.block _ (Array.getElem?_eq_some_iff.1 h1).1).trans h1
    exact ⟨⟨cell_of_row V _ 1 _ _ _ j, cell_of_row V _ 2 _ _ _ j, NW.below hw (BW.out.trans (hV.mono BW.out.size)) n hn⟩, hV⟩
  generalize wn n = s at *
  have q1 := cell_of_row w1 _ 1 _ _ _ h1; have q2 := cell_of_row w1 _ 2 _ _ _ h1
  simp at q1 q2
  have HW := Lib.hid hw1
  clear hw1 h1 hw hb
  go_enter Tryd.func25, Tryd.ntmps25
  go_upto_region 1 with (fail)
  rw [← HW.out]
  clear HW
  go_upto_region 3 with (fail)
  clear q1 q2
  refine wp_region_held_drew (S := fun V => (V.cell? ⟨w.heap.size, 1, none⟩ = some (.int .i64 b) ∧ V.cell? ⟨w.heap.size, 2, none⟩ = some (.int .i64 n) ∧ V.cell? ⟨0, n, none⟩ = some (.string s)) ∧ Below w1.heap.size w1 V) (by kernel_rfl) (KH.out _ (Below.drew (Below.refl _ _))) (fun hHeld => ?_)
  obtain ⟨v0, hv0⟩ : ∃ v0, v0 = w1.drew := ⟨_, rfl⟩
  have BL0 : Hid (Below w1.heap.size w1 v0) := by rw [hv0]; exact Below.drew (Below.refl _ _)
  rw [← hv0] at hHeld ⊢
  clear hv0
  refine tkH 0 ?_ rfl ?_ hHeld ?_; rotate_left; (intro w hSw; (try dsimp only at hSw); go_simp; try with_reducible rfl); try simp only [Act.put, zz1, zz2, zz3, zz4, zz5, zz6]
  refine tkH 1 ?_ rfl ?_ hHeld ?_; rotate_left; (intro w hSw; (try dsimp only at hSw); go_simp; try with_reducible rfl); try simp only [Act.put, zz1, zz2, zz3, zz4, zz5, zz6]
  refine tkH 2 ?_ rfl ?_ hHeld ?_; rotate_left; (intro w hSw; (try dsimp only at hSw); go_simp; try with_reducible rfl); try simp only [Act.put, zz1, zz2, zz3, zz4, zz5, zz6]
  refine tkH 3 ?_ rfl ?_ hHeld ?_; rotate_left; (intro w hSw; (try dsimp only at hSw); go_simp; try with_reducible rfl); try simp only [Act.put, zz1, zz2, zz3, zz4, zz5, zz6]
  refine tkH 4 ?_ rfl ?_ hHeld ?_; rotate_left; (intro w hSw; (try dsimp only at hSw); go_simp; try with_reducible rfl); try simp only [Act.put, zz1, zz2, zz3, zz4, zz5, zz6]
  refine tkH 5 ?_ rfl ?_ hHeld ?_; rotate_left; (intro w hSw; (try dsimp only at hSw); go_simp; try with_reducible rfl); try simp only [Act.put, zz1, zz2, zz3, zz4, zz5, zz6]
  refine tkH 6 ?_ rfl ?_ hHeld ?_; rotate_left; (intro w hSw; (try dsimp only at hSw); go_simp; try with_reducible rfl); try simp only [Act.put, zz1, zz2, zz3, zz4, zz5, zz6]
  refine wpAnyH_ready (rs := [7]) (by kernel_rfl) (by simp) ?_
  refine AllReadyH.cons (o := _) rfl (fun K0 hK0 => ?_) AllReadyH.nil
  go_simp
  refine (DG.out _).mono ?_
  rintro e9 w9 ⟨rfl, rfl⟩
  go_wp2_with fail
  refine hK0.out _ _ (KH.out _ (by go_split_ands; assumption)) (fun hHeld => ?_)
  clear hK0 K0
  try simp only [Act.put, zz1, zz2, zz3, zz4, zz5, zz6]
  refine tkH 8 ?_ rfl ?_ hHeld ?_; rotate_left; (intro w hSw; (try dsimp only at hSw); go_simp; try with_reducible rfl); try simp only [Act.put, zz1, zz2, zz3, zz4, zz5, zz6]
  refine tkH 9 ?_ rfl ?_ hHeld ?_; rotate_left; (intro w hSw; (try dsimp only at hSw); go_simp; try with_reducible rfl); try simp only [Act.put, zz1, zz2, zz3, zz4, zz5, zz6]
  refine wpAnyH_done (by kernel_rfl) ?_ _
  go_wp2
  go_ret
  exact ⟨rfl, BW.out.trans ((show Below w1.heap.size w1 _ by go_split_ands; assumption).mono BW.out.size)⟩

theorem l10Note10_none_1 (a : Int) (q : Nat) (w : World) (h : w.heap[q]? = some (.cells #[.int .i64 a, .int .i64 (-1), .int .i64 1] 32 (0, 0))) :
    Calls Tryd.prog 23 #[.pointer (some ⟨q, 0, none⟩)] w fun e w' => e = .returned (.string ⟨#[114, 117, 110]⟩) ∧ Below w.heap.size w w' := by
  have B1 : Hid (∀ o, Below w.heap.size w (w.alloc o)) := fun o => (Below.refl _ _).alloc (Nat.le_refl _) o
  have hq := (Array.getElem?_eq_some_iff.1 h).1
  have hne : ¬ q = w.heap.size := by omega
  have q1 := cell_of_row w _ 1 _ _ _ h; have q2 := cell_of_row w _ 2 _ _ _ h
  simp at q1 q2
  have C1 : Hid (∀ o, (w.alloc o).cell? ⟨q, 1, none⟩ = some (.int .i64 (-1)) ∧ (w.alloc o).cell? ⟨q, 2, none⟩ = some (.int .i64 1)) := fun o => ⟨(World.cell?_of_block (Below.heap_alloc _ _ _ hq)).trans q1, (World.cell?_of_block (Below.heap_alloc _ _ _ hq)).trans q2⟩
  clear h
  go_enter Tryd.func23, Tryd.ntmps23
  go_wp2
  all_goals first | done | skip
  go_ret
  exact ⟨rfl, B1.out _⟩
theorem l10Note10_env_1 (a b : Int) (hb : 0 ≤ b ∧ b ≤ 3) (q : Nat) (w : World) (h : w.heap[q]? = some (.cells #[.int .i64 a, .int .i64 b, .int .i64 1] 32 (0, 0))) :
    Calls Tryd.prog 23 #[.pointer (some ⟨q, 0, none⟩)] w fun e w' => e = .returned (.string (⟨#[114, 117, 110]⟩ ++ ⟨#[32]⟩ ++ dg b)) ∧ Below w.heap.size w w' := by
  have B1 : Hid (∀ o, Below w.heap.size w (w.alloc o)) := fun o => (Below.refl _ _).alloc (Nat.le_refl _) o
  have DG := Lib.hid (l1Digits10 b hb)
  have z1 := dg_size b
  generalize dg b = d at *
  have hb1 : (b == -1) = false := by simp; omega
  have hb2 : (b != -1) = true := by simp; omega
  have hq := (Array.getElem?_eq_some_iff.1 h).1
  have hne : ¬ q = w.heap.size := by omega
  have q1 := cell_of_row w _ 1 _ _ _ h; have q2 := cell_of_row w _ 2 _ _ _ h
  simp at q1 q2
  clear h hb
  go_enter Tryd.func23, Tryd.ntmps23
  go_wp2_with fail
  refine (DG.out _).mono ?_
  rintro e w' ⟨rfl, hb⟩
  have BB := Lib.hid ((B1.out _).trans (hb.mono (B1.out _).size))
  go_wp2
  go_ret
  exact ⟨rfl, BB.out⟩

theorem l10Note10_none_2 (a : Int) (q : Nat) (w : World) (h : w.heap[q]? = some (.cells #[.int .i64 a, .int .i64 (-1), .int .i64 2] 32 (0, 0))) :
    Calls Tryd.prog 23 #[.pointer (some ⟨q, 0, none⟩)] w fun e w' => e = .returned (.string ⟨#[115, 107, 105, 112]⟩) ∧ Below w.heap.size w w' := by
  have B1 : Hid (∀ o, Below w.heap.size w (w.alloc o)) := fun o => (Below.refl _ _).alloc (Nat.le_refl _) o
  have hq := (Array.getElem?_eq_some_iff.1 h).1
  have hne : ¬ q = w.heap.size := by omega
  have q1 := cell_of_row w _ 1 _ _ _ h; have q2 := cell_of_row w _ 2 _ _ _ h
  simp at q1 q2
  have C1 : Hid (∀ o, (w.alloc o).cell? ⟨q, 1, none⟩ = some (.int .i64 (-1)) ∧ (w.alloc o).cell? ⟨q, 2, none⟩ = some (.int .i64 2)) := fun o => ⟨(World.cell?_of_block (Below.heap_alloc _ _ _ hq)).trans q1, (World.cell?_of_block (Below.heap_alloc _ _ _ hq)).trans q2⟩
  clear h
  go_enter Tryd.func23, Tryd.ntmps23
  go_wp2
  all_goals first | done | skip
  go_ret
  exact ⟨rfl, B1.out _⟩
theorem l10Note10_env_2 (a b : Int) (hb : 0 ≤ b ∧ b ≤ 3) (q : Nat) (w : World) (h : w.heap[q]? = some (.cells #[.int .i64 a, .int .i64 b, .int .i64 2] 32 (0, 0))) :
    Calls Tryd.prog 23 #[.pointer (some ⟨q, 0, none⟩)] w fun e w' => e = .returned (.string (⟨#[115, 107, 105, 112]⟩ ++ ⟨#[32]⟩ ++ dg b)) ∧ Below w.heap.size w w' := by
  have B1 : Hid (∀ o, Below w.heap.size w (w.alloc o)) := fun o => (Below.refl _ _).alloc (Nat.le_refl _) o
  have DG := Lib.hid (l1Digits10 b hb)
  have z1 := dg_size b
  generalize dg b = d at *
  have hb1 : (b == -1) = false := by simp; omega
  have hb2 : (b != -1) = true := by simp; omega
  have hq := (Array.getElem?_eq_some_iff.1 h).1
  have hne : ¬ q = w.heap.size := by omega
  have q1 := cell_of_row w _ 1 _ _ _ h; have q2 := cell_of_row w _ 2 _ _ _ h
  simp at q1 q2
  clear h hb
  go_enter Tryd.func23, Tryd.ntmps23
  go_wp2_with fail
  refine (DG.out _).mono ?_
  rintro e w' ⟨rfl, hb⟩
  have BB := Lib.hid ((B1.out _).trans (hb.mono (B1.out _).size))
  go_wp2
  go_ret
  exact ⟨rfl, BB.out⟩

theorem l10Note10_none_3 (a : Int) (q : Nat) (w : World) (h : w.heap[q]? = some (.cells #[.int .i64 a, .int .i64 (-1), .int .i64 3] 32 (0, 0))) :
    Calls Tryd.prog 23 #[.pointer (some ⟨q, 0, none⟩)] w fun e w' => e = .returned (.string ⟨#[105, 100, 108, 101]⟩) ∧ Below w.heap.size w w' := by
  have B1 : Hid (∀ o, Below w.heap.size w (w.alloc o)) := fun o => (Below.refl _ _).alloc (Nat.le_refl _) o
  have hq := (Array.getElem?_eq_some_iff.1 h).1
  have hne : ¬ q = w.heap.size := by omega
  have q1 := cell_of_row w _ 1 _ _ _ h; have q2 := cell_of_row w _ 2 _ _ _ h
  simp at q1 q2
  have C1 : Hid (∀ o, (w.alloc o).cell? ⟨q, 1, none⟩ = some (.int .i64 (-1)) ∧ (w.alloc o).cell? ⟨q, 2, none⟩ = some (.int .i64 3)) := fun o => ⟨(World.cell?_of_block (Below.heap_alloc _ _ _ hq)).trans q1, (World.cell?_of_block (Below.heap_alloc _ _ _ hq)).trans q2⟩
  clear h
  go_enter Tryd.func23, Tryd.ntmps23
  go_wp2
  all_goals first | done | skip
  go_ret
  exact ⟨rfl, B1.out _⟩
theorem l10Note10_env_3 (a b : Int) (hb : 0 ≤ b ∧ b ≤ 3) (q : Nat) (w : World) (h : w.heap[q]? = some (.cells #[.int .i64 a, .int .i64 b, .int .i64 3] 32 (0, 0))) :
    Calls Tryd.prog 23 #[.pointer (some ⟨q, 0, none⟩)] w fun e w' => e = .returned (.string (⟨#[105, 100, 108, 101]⟩ ++ ⟨#[32]⟩ ++ dg b)) ∧ Below w.heap.size w w' := by
  have B1 : Hid (∀ o, Below w.heap.size w (w.alloc o)) := fun o => (Below.refl _ _).alloc (Nat.le_refl _) o
  have DG := Lib.hid (l1Digits10 b hb)
  have z1 := dg_size b
  generalize dg b = d at *
  have hb1 : (b == -1) = false := by simp; omega
  have hb2 : (b != -1) = true := by simp; omega
  have hq := (Array.getElem?_eq_some_iff.1 h).1
  have hne : ¬ q = w.heap.size := by omega
  have q1 := cell_of_row w _ 1 _ _ _ h; have q2 := cell_of_row w _ 2 _ _ _ h
  simp at q1 q2
  clear h hb
  go_enter Tryd.func23, Tryd.ntmps23
  go_wp2_with fail
  refine (DG.out _).mono ?_
  rintro e w' ⟨rfl, hb⟩
  have BB := Lib.hid ((B1.out _).trans (hb.mono (B1.out _).size))
  go_wp2
  go_ret
  exact ⟨rfl, BB.out⟩

theorem l10Note10_none_4 (a : Int) (q : Nat) (w : World) (h : w.heap[q]? = some (.cells #[.int .i64 a, .int .i64 (-1), .int .i64 4] 32 (0, 0))) :
    Calls Tryd.prog 23 #[.pointer (some ⟨q, 0, none⟩)] w fun e w' => e = .returned (.string ⟨#[121, 105, 101, 108, 100]⟩) ∧ Below w.heap.size w w' := by
  have B1 : Hid (∀ o, Below w.heap.size w (w.alloc o)) := fun o => (Below.refl _ _).alloc (Nat.le_refl _) o
  have hq := (Array.getElem?_eq_some_iff.1 h).1
  have hne : ¬ q = w.heap.size := by omega
  have q1 := cell_of_row w _ 1 _ _ _ h; have q2 := cell_of_row w _ 2 _ _ _ h
  simp at q1 q2
  have C1 : Hid (∀ o, (w.alloc o).cell? ⟨q, 1, none⟩ = some (.int .i64 (-1)) ∧ (w.alloc o).cell? ⟨q, 2, none⟩ = some (.int .i64 4)) := fun o => ⟨(World.cell?_of_block (Below.heap_alloc _ _ _ hq)).trans q1, (World.cell?_of_block (Below.heap_alloc _ _ _ hq)).trans q2⟩
  clear h
  go_enter Tryd.func23, Tryd.ntmps23
  go_wp2
  all_goals first | done | skip
  go_ret
  exact ⟨rfl, B1.out _⟩
theorem l10Note10_env_4 (a b : Int) (hb : 0 ≤ b ∧ b ≤ 3) (q : Nat) (w : World) (h : w.heap[q]? = some (.cells #[.int .i64 a, .int .i64 b, .int .i64 4] 32 (0, 0))) :
    Calls Tryd.prog 23 #[.pointer (some ⟨q, 0, none⟩)] w fun e w' => e = .returned (.string (⟨#[121, 105, 101, 108, 100]⟩ ++ ⟨#[32]⟩ ++ dg b)) ∧ Below w.heap.size w w' := by
  have B1 : Hid (∀ o, Below w.heap.size w (w.alloc o)) := fun o => (Below.refl _ _).alloc (Nat.le_refl _) o
  have DG := Lib.hid (l1Digits10 b hb)
  have z1 := dg_size b
  generalize dg b = d at *
  have hb1 : (b == -1) = false := by simp; omega
  have hb2 : (b != -1) = true := by simp; omega
  have hq := (Array.getElem?_eq_some_iff.1 h).1
  have hne : ¬ q = w.heap.size := by omega
  have q1 := cell_of_row w _ 1 _ _ _ h; have q2 := cell_of_row w _ 2 _ _ _ h
  simp at q1 q2
  clear h hb
  go_enter Tryd.func23, Tryd.ntmps23
  go_wp2_with fail
  refine (DG.out _).mono ?_
  rintro e w' ⟨rfl, hb⟩
  have BB := Lib.hid ((B1.out _).trans (hb.mono (B1.out _).size))
  go_wp2
  go_ret
  exact ⟨rfl, BB.out⟩

theorem l10Note10_none_5 (a : Int) (q : Nat) (w : World) (h : w.heap[q]? = some (.cells #[.int .i64 a, .int .i64 (-1), .int .i64 5] 32 (0, 0))) :
    Calls Tryd.prog 23 #[.pointer (some ⟨q, 0, none⟩)] w fun e w' => e = .returned (.string ⟨#[114, 101, 116, 117, 114, 110]⟩) ∧ Below w.heap.size w w' := by
  have B1 : Hid (∀ o, Below w.heap.size w (w.alloc o)) := fun o => (Below.refl _ _).alloc (Nat.le_refl _) o
  have hq := (Array.getElem?_eq_some_iff.1 h).1
  have hne : ¬ q = w.heap.size := by omega
  have q1 := cell_of_row w _ 1 _ _ _ h; have q2 := cell_of_row w _ 2 _ _ _ h
  simp at q1 q2
  have C1 : Hid (∀ o, (w.alloc o).cell? ⟨q, 1, none⟩ = some (.int .i64 (-1)) ∧ (w.alloc o).cell? ⟨q, 2, none⟩ = some (.int .i64 5)) := fun o => ⟨(World.cell?_of_block (Below.heap_alloc _ _ _ hq)).trans q1, (World.cell?_of_block (Below.heap_alloc _ _ _ hq)).trans q2⟩
  clear h
  go_enter Tryd.func23, Tryd.ntmps23
  go_wp2
  all_goals first | done | skip
  go_ret
  exact ⟨rfl, B1.out _⟩
theorem l10Note10_env_5 (a b : Int) (hb : 0 ≤ b ∧ b ≤ 3) (q : Nat) (w : World) (h : w.heap[q]? = some (.cells #[.int .i64 a, .int .i64 b, .int .i64 5] 32 (0, 0))) :
    Calls Tryd.prog 23 #[.pointer (some ⟨q, 0, none⟩)] w fun e w' => e = .returned (.string (⟨#[114, 101, 116, 117, 114, 110]⟩ ++ ⟨#[32]⟩ ++ dg b)) ∧ Below w.heap.size w w' := by
  have B1 : Hid (∀ o, Below w.heap.size w (w.alloc o)) := fun o => (Below.refl _ _).alloc (Nat.le_refl _) o
  have DG := Lib.hid (l1Digits10 b hb)
  have z1 := dg_size b
  generalize dg b = d at *
  have hb1 : (b == -1) = false := by simp; omega
  have hb2 : (b != -1) = true := by simp; omega
  have hq := (Array.getElem?_eq_some_iff.1 h).1
  have hne : ¬ q = w.heap.size := by omega
  have q1 := cell_of_row w _ 1 _ _ _ h; have q2 := cell_of_row w _ 2 _ _ _ h
  simp at q1 q2
  clear h hb
  go_enter Tryd.func23, Tryd.ntmps23
  go_wp2_with fail
  refine (DG.out _).mono ?_
  rintro e w' ⟨rfl, hb⟩
  have BB := Lib.hid ((B1.out _).trans (hb.mono (B1.out _).size))
  go_wp2
  go_ret
  exact ⟨rfl, BB.out⟩

theorem l10Note10_none_6 (a : Int) (q : Nat) (w : World) (h : w.heap[q]? = some (.cells #[.int .i64 a, .int .i64 (-1), .int .i64 6] 32 (0, 0))) :
    Calls Tryd.prog 23 #[.pointer (some ⟨q, 0, none⟩)] w fun e w' => e = .returned (.string ⟨#[102, 111, 114, 99, 101, 100]⟩) ∧ Below w.heap.size w w' := by
  have B1 : Hid (∀ o, Below w.heap.size w (w.alloc o)) := fun o => (Below.refl _ _).alloc (Nat.le_refl _) o
  have hq := (Array.getElem?_eq_some_iff.1 h).1
  have hne : ¬ q = w.heap.size := by omega
  have q1 := cell_of_row w _ 1 _ _ _ h; have q2 := cell_of_row w _ 2 _ _ _ h
  simp at q1 q2
  have C1 : Hid (∀ o, (w.alloc o).cell? ⟨q, 1, none⟩ = some (.int .i64 (-1)) ∧ (w.alloc o).cell? ⟨q, 2, none⟩ = some (.int .i64 6)) := fun o => ⟨(World.cell?_of_block (Below.heap_alloc _ _ _ hq)).trans q1, (World.cell?_of_block (Below.heap_alloc _ _ _ hq)).trans q2⟩
  clear h
  go_enter Tryd.func23, Tryd.ntmps23
  go_wp2
  all_goals first | done | skip
  go_ret
  exact ⟨rfl, B1.out _⟩
theorem l10Note10_env_6 (a b : Int) (hb : 0 ≤ b ∧ b ≤ 3) (q : Nat) (w : World) (h : w.heap[q]? = some (.cells #[.int .i64 a, .int .i64 b, .int .i64 6] 32 (0, 0))) :
    Calls Tryd.prog 23 #[.pointer (some ⟨q, 0, none⟩)] w fun e w' => e = .returned (.string (⟨#[102, 111, 114, 99, 101, 100]⟩ ++ ⟨#[32]⟩ ++ dg b)) ∧ Below w.heap.size w w' := by
  have B1 : Hid (∀ o, Below w.heap.size w (w.alloc o)) := fun o => (Below.refl _ _).alloc (Nat.le_refl _) o
  have DG := Lib.hid (l1Digits10 b hb)
  have z1 := dg_size b
  generalize dg b = d at *
  have hb1 : (b == -1) = false := by simp; omega
  have hb2 : (b != -1) = true := by simp; omega
  have hq := (Array.getElem?_eq_some_iff.1 h).1
  have hne : ¬ q = w.heap.size := by omega
  have q1 := cell_of_row w _ 1 _ _ _ h; have q2 := cell_of_row w _ 2 _ _ _ h
  simp at q1 q2
  clear h hb
  go_enter Tryd.func23, Tryd.ntmps23
  go_wp2_with fail
  refine (DG.out _).mono ?_
  rintro e w' ⟨rfl, hb⟩
  have BB := Lib.hid ((B1.out _).trans (hb.mono (B1.out _).size))
  go_wp2
  go_ret
  exact ⟨rfl, BB.out⟩

theorem l10Note10_none_7 (a : Int) (q : Nat) (w : World) (h : w.heap[q]? = some (.cells #[.int .i64 a, .int .i64 (-1), .int .i64 7] 32 (0, 0))) :
    Calls Tryd.prog 23 #[.pointer (some ⟨q, 0, none⟩)] w fun e w' => e = .returned (.string ⟨#[100, 114, 111, 112, 112, 101, 100]⟩) ∧ Below w.heap.size w w' := by
  have B1 : Hid (∀ o, Below w.heap.size w (w.alloc o)) := fun o => (Below.refl _ _).alloc (Nat.le_refl _) o
  have hq := (Array.getElem?_eq_some_iff.1 h).1
  have hne : ¬ q = w.heap.size := by omega
  have q1 := cell_of_row w _ 1 _ _ _ h; have q2 := cell_of_row w _ 2 _ _ _ h
  simp at q1 q2
  have C1 : Hid (∀ o, (w.alloc o).cell? ⟨q, 1, none⟩ = some (.int .i64 (-1)) ∧ (w.alloc o).cell? ⟨q, 2, none⟩ = some (.int .i64 7)) := fun o => ⟨(World.cell?_of_block (Below.heap_alloc _ _ _ hq)).trans q1, (World.cell?_of_block (Below.heap_alloc _ _ _ hq)).trans q2⟩
  clear h
  go_enter Tryd.func23, Tryd.ntmps23
  go_wp2
  all_goals first | done | skip
  go_ret
  exact ⟨rfl, B1.out _⟩
theorem l10Note10_env_7 (a b : Int) (hb : 0 ≤ b ∧ b ≤ 3) (q : Nat) (w : World) (h : w.heap[q]? = some (.cells #[.int .i64 a, .int .i64 b, .int .i64 7] 32 (0, 0))) :
    Calls Tryd.prog 23 #[.pointer (some ⟨q, 0, none⟩)] w fun e w' => e = .returned (.string (⟨#[100, 114, 111, 112, 112, 101, 100]⟩ ++ ⟨#[32]⟩ ++ dg b)) ∧ Below w.heap.size w w' := by
  have B1 : Hid (∀ o, Below w.heap.size w (w.alloc o)) := fun o => (Below.refl _ _).alloc (Nat.le_refl _) o
  have DG := Lib.hid (l1Digits10 b hb)
  have z1 := dg_size b
  generalize dg b = d at *
  have hb1 : (b == -1) = false := by simp; omega
  have hb2 : (b != -1) = true := by simp; omega
  have hq := (Array.getElem?_eq_some_iff.1 h).1
  have hne : ¬ q = w.heap.size := by omega
  have q1 := cell_of_row w _ 1 _ _ _ h; have q2 := cell_of_row w _ 2 _ _ _ h
  simp at q1 q2
  clear h hb
  go_enter Tryd.func23, Tryd.ntmps23
  go_wp2_with fail
  refine (DG.out _).mono ?_
  rintro e w' ⟨rfl, hb⟩
  have BB := Lib.hid ((B1.out _).trans (hb.mono (B1.out _).size))
  go_wp2
  go_ret
  exact ⟨rfl, BB.out⟩

end Go.Proofs.YtckapndpefkcgaaDoor
