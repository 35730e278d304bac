/-
  The program's question for an id, the library's search with it, the order of a heap, and HeapFault. No conditions beyond that the heap can be read.
-/
import Derived.BigRegion
import Derived.BigQuiet
import Derived.StillTailTactics
import Derived.Deep.RegionHeld3
import Derived.Laws.Tables
import Derived.Laws.CopyOwn
import Derived.Test.YtckapndpefkcgaaImpl4b
import Derived.Test.YtckapndpefkcgaaSpec4a
import Derived.Test.YtckapndpefkcgaaMath4
import Derived.Test.YtckapndpefkcgaaKit4
set_option maxHeartbeats 1000000
namespace Go.Proofs.Ytckapndpefkcgaa
open Go.RowKit
set_option maxRecDepth 100000

theorem hasIdf_any (p d id : Int) (b0 : Nat) (w : World) (h : w.cell? ⟨b0, 0, none⟩ = some (.int .i64 id)) :
    Calls Try.prog 101 #[.agg #[.int .i64 p, .int .i64 d], .pointer (some ⟨b0, 0, none⟩)] w fun e w' => e = .returned (.bool (decide (d = id))) ∧ Below w.heap.size w w' := by
  have B1 : Hid (∀ o, Below w.heap.size w (w.alloc o)) := fun o => below_new w o
  have hb := World.block_lt_of_cell? _ _ h
  have h2 : (w.alloc (.cells #[.int .i64 p, .int .i64 d] 26)).cell? ⟨b0, 0, none⟩ = some (.int .i64 id) := ((below_new w _).cell (p := ⟨b0, 0, none⟩) hb).trans h
  by_cases he : d = id
  · subst he
    go_enter Try.func101, Try.ntmps101
    go_wp2
    go_ret
    exact ⟨ret_bool (by simp), B1.out _⟩
  · go_enter Try.func101, Try.ntmps101
    go_wp2
    go_ret
    exact ⟨ret_bool (by simp [he]), B1.out _⟩

set_option maxHeartbeats 1000000 in
theorem indexId_any (lo hi : Nat) (A : Option Addr) (n c : Nat) (hs : List Int) (id : Int) (b0 : Nat) (w : World) (hn : n * 16 ≤ 140737488351232) (hc : w.cell? ⟨b0, 0, none⟩ = some (.int .i64 id)) (h : Sl w lo hi A (n * 2) (fun k => .int .i64 (gi hs k))) :
    Calls Try.prog 111 #[.slice A n c, .func (.func 101) #[] #[.pointer (some ⟨b0, 0, none⟩)]] w fun e w' => ∃ r, fnd hs n id r ∧ e = .returned (.int .i64 r) ∧ Below w.heap.size w w' := by
  have H := Lib.hid h
  have HC := Lib.hid hc
  have HL := Lib.hid (World.block_lt_of_cell? _ _ hc)
  clear h hc
  go_enter Try.func111, Try.ntmps111
  go_wp2
  go_loopw [8] (fun i wr => ∃ k : Nat, k ≤ n ∧ i = .int .i64 k ∧ hasE hs k id = false ∧ Below w.heap.size w wr) (fun i _ => n - (intOf i).toNat)
  case atStart => exact ⟨0, Nat.zero_le _, rfl, rfl, Below.refl _ _⟩
  case round =>
    obtain ⟨k, hk, rfl, hno, hb⟩ := hrel
    have NO := Lib.hid hno
    have HBw := Lib.hid hb
    clear hno
    by_cases hlt : k < n
    · obtain ⟨b, off, rfl, h1, h2, hcc⟩ := H.out.lt.at_ (show k * 2 < n * 2 by omega)
      have c0 : wr.cell? ⟨b, off + k * 2, none⟩ = some (.int .i64 (gi hs (k * 2))) := (hb.cell (p := ⟨b, off + k * 2, none⟩) (by simp; omega)).trans (hcc (k * 2) (by omega))
      have c1 : wr.cell? ⟨b, off + k * 2 + 1, none⟩ = some (.int .i64 (gi hs (k * 2 + 1))) := (hb.cell (p := ⟨b, off + (k * 2 + 1), none⟩) (by simp; omega)).trans (hcc (k * 2 + 1) (by omega))
      have IQ := Lib.hid (hasIdf_any (gi hs (k * 2)) (gi hs (k * 2 + 1)) id b0 wr ((hb.cell (p := ⟨b0, 0, none⟩) HL.out).trans HC.out))
      clear hcc hb H
      by_cases he : gi hs (k * 2 + 1) = id
      · have HE := Lib.hid he
        have hd : decide (gi hs (k * 2 + 1) = id) = true := by simp [he]
        rw [hd] at IQ
        clear he hd
        go_wp2_with fail
        refine IQ.out.mono ?_
        rintro e w1 ⟨rfl, hb⟩
        have HB1 := Lib.hid (HBw.out.trans (hb.mono HBw.out.size))
        clear hb
        go_wp2
        go_ret
        exact ⟨_, .inr ⟨k, hlt, rfl, HE.out, NO.out⟩, rfl, HB1.out⟩
      · have HE : Hid (hasE hs (k + 1) id = false) := by
          show _ = _
          unfold hasE; rw [anyTo_succ]; have := NO.out; unfold hasE at this; rw [this]; simp [he]
        have hd : decide (gi hs (k * 2 + 1) = id) = false := by simp [he]
        rw [hd] at IQ
        clear he hd
        go_wp2_with fail
        refine IQ.out.mono ?_
        rintro e w1 ⟨rfl, hb⟩
        have HB1 := Lib.hid (HBw.out.trans (hb.mono HBw.out.size))
        clear hb
        go_wp2
        go_roundw
        case rel => exact ⟨k + 1, by omega, by go_num, HE.out, HB1.out⟩
        case measure => first | (simp [intOf]; done) | (simp [intOf]; omega)
    · obtain rfl : k = n := by omega
      clear hb
      go_wp2
      go_ret
      exact ⟨_, .inl ⟨rfl, NO.out⟩, rfl, HBw.out⟩

theorem containsId_any (lo hi : Nat) (A : Option Addr) (n c : Nat) (hs : List Int) (id : Int) (b0 : Nat) (w : World) (hn : n * 16 ≤ 140737488351232) (hc : w.cell? ⟨b0, 0, none⟩ = some (.int .i64 id)) (h : Sl w lo hi A (n * 2) (fun k => .int .i64 (gi hs k))) :
    Calls Try.prog 100 #[.slice A n c, .func (.func 101) #[] #[.pointer (some ⟨b0, 0, none⟩)]] w fun e w' => e = .returned (.bool (hasE hs n id)) ∧ Below w.heap.size w w' := by
  go_enter Try.func100, Try.ntmps100
  go_wp2_with fail
  refine (indexId_any lo hi A n c hs id b0 w hn hc h).mono ?_
  rintro e w1 ⟨r, hr, rfl, hb⟩
  have HB1 := Lib.hid hb
  have hf := fnd_has hr
  clear hb hr hc h
  rcases ho : hasE hs n id with _ | _
  · rw [ho] at hf
    have hr : ¬ 0 ≤ r := by simpa using hf
    have HO := Lib.hid ho
    clear hf ho
    go_wp2
    go_ret
    exact ⟨ret_bool (by first | exact HO.out.symm | (rw [HO.out]; simp [hr])), HB1.out⟩
  · rw [ho] at hf
    have hr : 0 ≤ r := by simpa using hf
    have HO := Lib.hid ho
    clear hf ho
    go_wp2
    go_ret
    exact ⟨ret_bool (by first | exact HO.out.symm | (rw [HO.out]; simp [hr])), HB1.out⟩

theorem hasId_any (lo hi : Nat) (A : Option Addr) (n c : Nat) (hs : List Int) (id : Int) (w : World) (hn : n * 16 ≤ 140737488351232) (h : Sl w lo hi A (n * 2) (fun k => .int .i64 (gi hs k))) :
    Calls Try.prog 58 #[.slice A n c, .int .i64 id] w fun e w' => e = .returned (.bool (hasE hs n id)) ∧ Below w.heap.size w w' := by
  have B1 : Hid (Below w.heap.size w (w.alloc (.cells #[.int .i64 id] 2))) := below_new w _
  have CF := Lib.hid (containsId_any lo (min hi w.heap.size) A n c hs id w.heap.size (w.alloc (.cells #[.int .i64 id] 2)) hn (cell_of_row _ _ 0 _ _ _ (heap_alloc_new w _)) (h.lt.below B1.out (Nat.min_le_right _ _)))
  have hmf : ∀ (fn : Fn) (first cap : Array Value) (w : World), (Instr.makeFunc fn first cap).run Try.prog w = .ok (.func fn first cap) w := fun _ _ _ _ => rfl
  clear h
  go_enter Try.func58, Try.ntmps58
  go_wp2_with fail
  refine CF.out.mono ?_
  rintro e w1 ⟨rfl, hb⟩
  have HB1 := Lib.hid (B1.out.trans (hb.mono (by simp)))
  clear hb
  go_wp2
  go_ret
  exact ⟨rfl, HB1.out⟩

set_option maxHeartbeats 1000000 in
theorem isInOrder_any (base hb : Nat) (A : Option Addr) (n c : Nat) (hs : List Int) (w : World) (hn : n ≤ 13) (h : HB w base hb A n c hs) :
    Calls Try.prog 71 #[.pointer (some ⟨hb, 0, none⟩)] w fun e w' => e = .returned (.bool (!anyTo (n - 1) (upE hs))) ∧ Below w.heap.size w w' := by
  have H := Lib.hid h
  clear h
  go_enter Try.func71, Try.ntmps71
  go_wp2
  go_loopw [3] (fun i wr => ∃ m : Nat, (m + 1 ≤ n ∨ m = 0) ∧ i = .int .i64 ((m + 1 : Nat) : Int) ∧ anyTo m (upE hs) = false ∧ Below w.heap.size w wr) (fun i _ => n + 1 - (intOf i).toNat)
  case atStart => exact ⟨0, .inr rfl, by go_num, rfl, Below.refl _ _⟩
  case round =>
    obtain ⟨m, hm, rfl, hno, hbw⟩ := hrel
    have NO := Lib.hid hno
    have HW := Lib.hid hbw
    have HX := Lib.hid (H.out.below hbw (Nat.le_refl _))
    clear hno hbw
    obtain ⟨q0, q1⟩ := HX.out.cells
    obtain ⟨k, hk⟩ : ∃ k : Nat, k = m + 1 := ⟨_, rfl⟩
    rw [← hk]
    by_cases hlt : k < n
    · have hl1 : (k : Int) < (n : Int) := by omega
      have PA := Lib.hid (parentOf_any k (m / 2) (by omega) (by omega))
      have HK := Lib.hid hk
      have HLT := Lib.hid hlt
      clear hk hlt
      rcases ho : upE hs m with _ | _
      · have NX : Hid (anyTo (m + 1) (upE hs) = false) := by show _ = _; rw [anyTo_succ, NO.out, ho]; rfl
        have LE : Hid (less4 hs k (m / 2) = false) := by show _ = _; rw [HK.out]; exact ho
        clear ho
        go_wp2_with fail
        refine (PA.out _).mono ?_
        rintro e w1 ⟨rfl, rfl⟩
        go_wp2_with fail
        refine (isLessAt_any base hb A n c hs k (m / 2) _ HX.out HLT.out (by have := HLT.out; have := HK.out; omega)).mono ?_
        rw [LE.out]
        rintro e w2 ⟨rfl, hb2⟩
        have HW2 := Lib.hid (HW.out.trans (hb2.mono HW.out.size))
        clear hb2
        go_wp2
        go_roundw
        case rel => exact ⟨m + 1, .inl (by have := HLT.out; have := HK.out; omega), by rw [HK.out]; go_num, NX.out, HW2.out⟩
        case measure => have := HLT.out; simp [intOf]; omega
      · have HF : Hid ((!anyTo (n - 1) (upE hs)) = false) := by show _ = _; rw [anyTo_true (i := m) (by have := HLT.out; have := HK.out; omega) ho]; rfl
        have LE : Hid (less4 hs k (m / 2) = true) := by show _ = _; rw [HK.out]; exact ho
        clear ho
        go_wp2_with fail
        refine (PA.out _).mono ?_
        rintro e w1 ⟨rfl, rfl⟩
        go_wp2_with fail
        refine (isLessAt_any base hb A n c hs k (m / 2) _ HX.out HLT.out (by have := HLT.out; have := HK.out; omega)).mono ?_
        rw [LE.out]
        rintro e w2 ⟨rfl, hb2⟩
        have HW2 := Lib.hid (HW.out.trans (hb2.mono HW.out.size))
        clear hb2
        go_wp2
        go_ret
        exact ⟨ret_bool HF.out.symm, HW2.out⟩
    · have hl1 : ¬ (k : Int) < (n : Int) := by omega
      have HF : Hid ((!anyTo (n - 1) (upE hs)) = true) := by show _ = _; rw [show n - 1 = m by omega, NO.out]; rfl
      clear hk
      go_wp2
      go_ret
      exact ⟨ret_bool HF.out.symm, HW.out⟩

end Go.Proofs.Ytckapndpefkcgaa
