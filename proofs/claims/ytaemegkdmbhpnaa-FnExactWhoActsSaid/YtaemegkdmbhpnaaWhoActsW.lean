/-
  The walk of FnExactWhoActs: whatever came in, it returns true.
-/
import Derived.Test.YtaemegkdmbhpnaaWho8
import Derived.Test.YtaemegkdmbhpnaaKernelFaultW
import Derived.Deep.RegionHeld3
namespace Go.Proofs.Ytaemegkdmbhpnaa
open Go.RowKit
set_option maxRecDepth 100000

theorem eqIntResult8_same (a b : Int) (w : World) :
    Calls Try.prog 13 #[.agg #[.int .i64 a, .int .i64 b], .agg #[.int .i64 a, .int .i64 b]] w fun e w' => e = .returned (.bool true) ∧ Below w.heap.size w w' := by
  have B2 : Hid (∀ o o', Below w.heap.size w ((w.alloc o).alloc o')) := fun o o' => ((Below.refl _ _).alloc (Nat.le_refl _) o).alloc (by simp) o'
  go_enter Try.func13, Try.ntmps13
  go_wp2
  go_ret
  exact ⟨rfl, B2.out _ _⟩
theorem lt_row8 {w : World} {b : Nat} {cs vs : Array Value} {t : TypeId} (h : w.heap[b]? = some (.cells cs t (0, 0))) : b < (w.setRow b vs).heap.size := (Array.getElem?_eq_some_iff.1 (setRow_heap w b cs vs t _ h)).1

set_option maxHeartbeats 16000000 in
theorem walkWhoActs (A1 : Option Addr) (n1 c1 : Nat) (A2 : Option Addr) (n2 c2 : Nat) (A3 : Option Addr) (n3 c3 : Nat) (K : Ker) (w : World) (h : KRead w 0 w.heap.size A1 n1 A2 n2 A3 n3 K) (m1 : n1 ≤ 9223372036854775807) (m2 : n2 ≤ 9223372036854775807) (m3 : n3 ≤ 9223372036854775807) :
    Calls Try.prog 3 #[.agg #[.slice A1 n1 c1, .slice A2 n2 c2, .slice A3 n3 c3, .int .i64 K.tick, .int .i64 K.run]] w fun e w' => e = .returned (.bool true) ∧ Below w.heap.size w w' := by
  obtain ⟨w1, hw1⟩ : ∃ w1, w1 = w.alloc (.cells #[.slice A1 n1 c1, .slice A2 n2 c2, .slice A3 n3 c3, .int .i64 K.tick, .int .i64 K.run] 26) := ⟨_, rfl⟩
  have k1 : w1.heap[w.heap.size]? = some (.cells #[.slice A1 n1 c1, .slice A2 n2 c2, .slice A3 n3 c3, .int .i64 K.tick, .int .i64 K.run] 26 (0, 0)) := by rw [hw1]; exact heap_alloc_new w _
  have B1 : Hid (Below w.heap.size w w1) := by rw [hw1]; exact below_new w _
  have Z1 : Hid (w1.heap.size = w.heap.size + 1) := by show _ = _; rw [hw1]; simp
  have QS : Hid (∀ W, Below w1.heap.size w1 W → W.cell? ⟨w.heap.size, 0, none⟩ = some (.slice A1 n1 c1) ∧ W.cell? ⟨w.heap.size, 1, none⟩ = some (.slice A2 n2 c2) ∧ W.cell? ⟨w.heap.size, 2, none⟩ = some (.slice A3 n3 c3) ∧ W.cell? ⟨w.heap.size, 3, none⟩ = some (.int .i64 K.tick) ∧ W.cell? ⟨w.heap.size, 4, none⟩ = some (.int .i64 K.run)) := fun W hW => by
    have j := (hW.block w.heap.size (by have := Z1.out; omega)).trans k1
    exact ⟨cell_of_row W _ 0 _ _ _ j, cell_of_row W _ 1 _ _ _ j, cell_of_row W _ 2 _ _ _ j, cell_of_row W _ 3 _ _ _ j, cell_of_row W _ 4 _ _ _ j⟩
  have FIN : Hid (∀ W, Below w1.heap.size w1 W → Below w.heap.size w W) := fun W hW => B1.out.trans (hW.mono (by have := Z1.out; omega))
  have HK : Hid (∀ W, Below w1.heap.size w1 W → KRead W 0 w.heap.size A1 n1 A2 n2 A3 n3 K) := fun W hW => h.below (FIN.out W hW) (Nat.le_refl _)
  have HL := Lib.hid h.1
  have HW1 := Lib.hid hw1
  obtain ⟨q, v, hq⟩ : ∃ q v, whoA K = (q, v) := ⟨_, _, rfl⟩
  have HQ := Lib.hid hq
  have SZ := Lib.hid (szKernel_any A1 n1 c1 A2 n2 c2 A3 n3 c3 K.tick K.run 1048576 w1 (by omega) (by omega) m1 m2 m3)
  obtain ⟨sv, hsv⟩ : ∃ sv, sv = szk 1048576 n1 n2 n3 := ⟨_, rfl⟩
  rw [← hsv] at SZ
  have SV := Lib.hid hsv
  clear h hw1 hq k1 hsv m1 m2 m3
  obtain ⟨q0, q1, q2, q3, q4⟩ := QS.out w1 (Below.refl _ _)
  go_enter Try.func3, Try.ntmps3
  go_upto_region 1 with (fail)
  rw [← HW1.out]
  clear HW1
  go_wp2_with fail
  refine SZ.out.mono ?_
  rintro e w2 ⟨rfl, hb⟩
  have R2' := Lib.hid hb
  clear hb q0 q1 q2 q3 q4 SZ
  by_cases hsz : sv < 0
  · go_wp2
    go_ret
    exact ⟨rfl, FIN.out _ R2'.out⟩
  have SM : Hid (n1 + n2 + n3 ≤ 1048576 ∧ sv ≤ 1048576) := by
    have hh := SV.out
    unfold szk at hh
    show _ ∧ _
    split at hh
    · omega
    · split at hh
      · omega
      · split at hh
        · omega
        · omega
  have TK : Hid (∀ W, Below w1.heap.size w1 W → Calls Try.prog 11 #[.agg #[.slice A1 n1 c1, .slice A2 n2 c2, .slice A3 n3 c3, .int .i64 K.tick, .int .i64 K.run]] W fun e w' => ∃ x1 x2 x3, e = .returned (.agg #[.slice (some ⟨x1, 0, none⟩) n1 n1, .slice (some ⟨x2, 0, none⟩) n2 n2, .slice (some ⟨x3, 0, none⟩) n3 n3, .int .i64 K.tick, .int .i64 K.run]) ∧ KRead w' 0 w'.heap.size (some ⟨x1, 0, none⟩) n1 (some ⟨x2, 0, none⟩) n2 (some ⟨x3, 0, none⟩) n3 K ∧ Below W.heap.size W w') := fun W hW =>
    (toKernel_any 0 w.heap.size A1 n1 c1 A2 n2 c2 A3 n3 c3 K.tick K.run K W (by have := SM.out; omega) (by have := SM.out; omega) (by have := SM.out; omega) (HK.out W hW)).mono fun e w' ⟨x1, x2, x3, he, ⟨z1, z2, z3, z4⟩, y1, y2, y3, hb⟩ => ⟨x1, x2, x3, he, kread_rows HL.out y1 y2 y3 ⟨by omega, by omega⟩ ⟨by omega, by omega⟩ ⟨by omega, by omega⟩, hb⟩
  have EK : Hid (∀ W x1 x2 x3 y1 y2 y3, KRead W 0 W.heap.size (some ⟨x1, 0, none⟩) n1 (some ⟨x2, 0, none⟩) n2 (some ⟨x3, 0, none⟩) n3 K → KRead W 0 W.heap.size (some ⟨y1, 0, none⟩) n1 (some ⟨y2, 0, none⟩) n2 (some ⟨y3, 0, none⟩) n3 K → Calls Try.prog 14 #[.agg #[.slice (some ⟨x1, 0, none⟩) n1 n1, .slice (some ⟨x2, 0, none⟩) n2 n2, .slice (some ⟨x3, 0, none⟩) n3 n3, .int .i64 K.tick, .int .i64 K.run], .agg #[.slice (some ⟨y1, 0, none⟩) n1 n1, .slice (some ⟨y2, 0, none⟩) n2 n2, .slice (some ⟨y3, 0, none⟩) n3 n3, .int .i64 K.tick, .int .i64 K.run]] W fun e w' => e = .returned (.bool true) ∧ Below W.heap.size W w') := fun W x1 x2 x3 y1 y2 y3 h1 h2 =>
    eqKernel_same 0 W.heap.size 0 W.heap.size _ n1 n1 _ n2 n2 _ n3 n3 _ n1 _ n2 _ n3 K.tick K.run K W (by have := SM.out; omega) (by have := SM.out; omega) (by have := SM.out; omega) h1 h2
  have SP : Hid (∀ W x1 x2 x3, KRead W 0 W.heap.size (some ⟨x1, 0, none⟩) n1 (some ⟨x2, 0, none⟩) n2 (some ⟨x3, 0, none⟩) n3 K → Calls Try.prog 10 #[.agg #[.slice (some ⟨x1, 0, none⟩) n1 n1, .slice (some ⟨x2, 0, none⟩) n2 n2, .slice (some ⟨x3, 0, none⟩) n3 n3, .int .i64 K.tick, .int .i64 K.run]] W fun e w' => e = .returned (.agg #[.int .i64 q, .int .i64 v]) ∧ Below W.heap.size W w') := fun W x1 x2 x3 hk => by
    have hh := specWhoActs_any 0 W.heap.size (some ⟨x1, 0, none⟩) n1 n1 (some ⟨x2, 0, none⟩) n2 n2 (some ⟨x3, 0, none⟩) n3 n3 K W (by have := SM.out; omega) (by have := SM.out; omega) hk
    rw [HQ.out] at hh
    exact hh
  have IP : Hid (∀ W x1 x2 x3, KRead W 0 W.heap.size (some ⟨x1, 0, none⟩) n1 (some ⟨x2, 0, none⟩) n2 (some ⟨x3, 0, none⟩) n3 K → Calls Try.prog 12 #[.agg #[.slice (some ⟨x1, 0, none⟩) n1 n1, .slice (some ⟨x2, 0, none⟩) n2 n2, .slice (some ⟨x3, 0, none⟩) n3 n3, .int .i64 K.tick, .int .i64 K.run]] W fun e w' => e = .returned (.agg #[.int .i64 q, .int .i64 v]) ∧ Below W.heap.size W w') := fun W x1 x2 x3 hk => by
    have hh := implWhoActs_any 0 W.heap.size (some ⟨x1, 0, none⟩) n1 n1 (some ⟨x2, 0, none⟩) n2 n2 (some ⟨x3, 0, none⟩) n3 n3 K W (by have := SM.out; omega) (by have := SM.out; omega) hk
    rw [HQ.out] at hh
    exact hh
  obtain ⟨q0, q1, q2, q3, q4⟩ := QS.out w2 R2'.out
  go_wp2_with fail
  refine (TK.out w2 R2'.out).mono ?_
  rintro e w3 ⟨a1, a2, a3, rfl, hk, hb⟩
  have R3 := Lib.hid (R2'.out.trans (hb.mono R2'.out.size))
  have K3 := Lib.hid hk
  clear hk hb q0 q1 q2 q3 q4
  go_wp2_with fail
  refine (SP.out w3 _ _ _ K3.out).mono ?_
  rintro e w4 ⟨rfl, hb⟩
  have R4 := Lib.hid (R3.out.trans (hb.mono R3.out.size))
  clear hb K3
  obtain ⟨w5, hw5⟩ : ∃ w5, w5 = w4.alloc (.cells #[.int .i64 q, .int .i64 v] 29) := ⟨_, rfl⟩
  obtain ⟨b6, hb6⟩ : ∃ b6, b6 = w4.heap.size := ⟨_, rfl⟩
  have K5 : Hid (w5.heap[b6]? = some (.cells #[.int .i64 q, .int .i64 v] 29 (0, 0))) := by show _ = _; rw [hw5, hb6]; exact heap_alloc_new w4 _
  have R5' : Hid (Below w1.heap.size w1 w5) := by rw [hw5]; exact R4.out.alloc R4.out.size _
  have HW := Lib.hid hw5
  have HB6 := Lib.hid hb6
  clear hw5 hb6
  go_upto_region 6 with (fail)
  rw [← HW.out, ← HB6.out]
  clear HW HB6
  have W0 : Hid (∀ W, Below w5.heap.size w5 W → (W.cell? ⟨b6, 0, none⟩ = some (.int .i64 q) ∧ W.cell? ⟨b6, 1, none⟩ = some (.int .i64 v))) := fun W hW => by
    have j := (hW.block b6 (Array.getElem?_eq_some_iff.1 K5.out).1).trans K5.out
    exact ⟨cell_of_row W _ 0 _ _ _ j, cell_of_row W _ 1 _ _ _ j⟩
  have R1w : Hid (∀ W, Below w5.heap.size w5 W → Below w1.heap.size w1 W) := fun W hW => R5'.out.trans (hW.mono R5'.out.size)
  clear K5
  -- the copies that the program gets
  obtain ⟨q0, q1, q2, q3, q4⟩ := QS.out w5 R5'.out
  go_wp2_with fail
  refine (TK.out w5 R5'.out).mono ?_
  rintro e w6 ⟨t1, t2, t3, rfl, hk, hb⟩
  have K6 := Lib.hid hk
  have B56 := Lib.hid hb
  clear hk hb q0 q1 q2 q3 q4
  obtain ⟨w7, hw7⟩ : ∃ w7, w7 = w6.alloc (.cells #[.slice (some ⟨t1, 0, none⟩) n1 n1, .slice (some ⟨t2, 0, none⟩) n2 n2, .slice (some ⟨t3, 0, none⟩) n3 n3, .int .i64 K.tick, .int .i64 K.run] 33) := ⟨_, rfl⟩
  have X7 : Hid (w7.heap[w6.heap.size]? = some (.cells #[.slice (some ⟨t1, 0, none⟩) n1 n1, .slice (some ⟨t2, 0, none⟩) n2 n2, .slice (some ⟨t3, 0, none⟩) n3 n3, .int .i64 K.tick, .int .i64 K.run] 33 (0, 0))) := by show _ = _; rw [hw7]; exact heap_alloc_new w6 _
  have BN7 : Hid (Below w6.heap.size w6 w7) := by rw [hw7]; exact below_new w6 _
  have HW := Lib.hid hw7
  clear hw7
  go_upto_region 7 with (fail)
  rw [← HW.out]
  clear HW
  have K7 := Lib.hid ((K6.out.below BN7.out (Nat.le_refl _)).wide (Nat.le_refl _) BN7.out.size)
  have R7 := Lib.hid (B56.out.trans (BN7.out.mono B56.out.size))
  have XS : Hid (∀ W, Below w7.heap.size w7 W → (W.cell? ⟨w6.heap.size, 0, none⟩ = some (.slice (some ⟨t1, 0, none⟩) n1 n1) ∧ W.cell? ⟨w6.heap.size, 1, none⟩ = some (.slice (some ⟨t2, 0, none⟩) n2 n2) ∧ W.cell? ⟨w6.heap.size, 2, none⟩ = some (.slice (some ⟨t3, 0, none⟩) n3 n3) ∧ W.cell? ⟨w6.heap.size, 3, none⟩ = some (.int .i64 K.tick) ∧ W.cell? ⟨w6.heap.size, 4, none⟩ = some (.int .i64 K.run))) := fun W hW => by
    have j := (hW.block w6.heap.size (Array.getElem?_eq_some_iff.1 X7.out).1).trans X7.out
    exact ⟨cell_of_row W _ 0 _ _ _ j, cell_of_row W _ 1 _ _ _ j, cell_of_row W _ 2 _ _ _ j, cell_of_row W _ 3 _ _ _ j, cell_of_row W _ 4 _ _ _ j⟩
  have KX : Hid (∀ W, Below w7.heap.size w7 W → KRead W 0 W.heap.size (some ⟨t1, 0, none⟩) n1 (some ⟨t2, 0, none⟩) n2 (some ⟨t3, 0, none⟩) n3 K) := fun W hW => (K7.out.below hW (Nat.le_refl _)).wide (Nat.le_refl _) hW.size
  clear K6 B56 X7 BN7 K7
  have R7w : Hid (∀ W, Below w7.heap.size w7 W → Below w7.heap.size w7 W) := fun W hW => hW
  obtain ⟨x0, x1, x2, x3, x4⟩ := XS.out w7 (Below.refl _ _)
  go_wp2_with fail
  refine (IP.out w7 _ _ _ (KX.out w7 (Below.refl _ _))).mono ?_
  rintro e w10 ⟨rfl, hb⟩
  have B10 := Lib.hid hb
  clear hb x0 x1 x2 x3 x4
  obtain ⟨w11, hw11⟩ : ∃ w11, w11 = w10.alloc (.cells #[.int .i64 q, .int .i64 v] 29) := ⟨_, rfl⟩
  have X11 : Hid (w11.heap[w10.heap.size]? = some (.cells #[.int .i64 q, .int .i64 v] 29 (0, 0))) := by show _ = _; rw [hw11]; exact heap_alloc_new w10 _
  have R11 : Hid (Below w7.heap.size w7 w11) := by rw [hw11]; exact B10.out.alloc B10.out.size _
  have HW := Lib.hid hw11
  clear hw11
  go_upto_region 8 with (fail)
  rw [← HW.out]
  clear HW
  obtain ⟨s0, s1⟩ := W0.out w11 (R7.out.trans (R11.out.mono R7.out.size))
  have z0 := cell_of_row w11 _ 0 _ _ _ X11.out; have z1 := cell_of_row w11 _ 1 _ _ _ X11.out
  simp at z0 z1
  clear X11
  go_wp2_with fail
  refine (eqIntResult8_same q v w11).mono ?_
  rintro e w12 ⟨rfl, hb⟩
  have R12 := Lib.hid (R11.out.trans (hb.mono R11.out.size))
  clear hb s0 s1 z0 z1 W0
  have R5w : Hid (∀ W, Below w7.heap.size w7 W → Below w1.heap.size w1 W) := fun W hW => R1w.out W (R7.out.trans (hW.mono R7.out.size))
  go_upto_region 10 with (fail)
  go_cut [27] from 7 (fun s wx => s = .bool false ∧ Below w7.heap.size w7 wx)
  case first =>
    focus
      have KH : Hid (∀ W, Below w7.heap.size w7 W → (W.cell? ⟨w.heap.size, 0, none⟩ = some (.slice A1 n1 c1) ∧ W.cell? ⟨w.heap.size, 1, none⟩ = some (.slice A2 n2 c2) ∧ W.cell? ⟨w.heap.size, 2, none⟩ = some (.slice A3 n3 c3) ∧ W.cell? ⟨w.heap.size, 3, none⟩ = some (.int .i64 K.tick) ∧ W.cell? ⟨w.heap.size, 4, none⟩ = some (.int .i64 K.run)) ∧ (W.cell? ⟨w6.heap.size, 0, none⟩ = some (.slice (some ⟨t1, 0, none⟩) n1 n1) ∧ W.cell? ⟨w6.heap.size, 1, none⟩ = some (.slice (some ⟨t2, 0, none⟩) n2 n2) ∧ W.cell? ⟨w6.heap.size, 2, none⟩ = some (.slice (some ⟨t3, 0, none⟩) n3 n3) ∧ W.cell? ⟨w6.heap.size, 3, none⟩ = some (.int .i64 K.tick) ∧ W.cell? ⟨w6.heap.size, 4, none⟩ = some (.int .i64 K.run)) ∧ Below w7.heap.size w7 W) := fun W hW => ⟨QS.out W (R5w.out W hW), XS.out W (R7w.out W hW), hW⟩
      have TT : Hid (∀ W, Below w7.heap.size w7 W → Calls Try.prog 11 #[.agg #[.slice A1 n1 c1, .slice A2 n2 c2, .slice A3 n3 c3, .int .i64 K.tick, .int .i64 K.run]] W fun e w' => ∃ y1 y2 y3, e = .returned (.agg #[.slice (some ⟨y1, 0, none⟩) n1 n1, .slice (some ⟨y2, 0, none⟩) n2 n2, .slice (some ⟨y3, 0, none⟩) n3 n3, .int .i64 K.tick, .int .i64 K.run]) ∧ KRead w' 0 w'.heap.size (some ⟨y1, 0, none⟩) n1 (some ⟨y2, 0, none⟩) n2 (some ⟨y3, 0, none⟩) n3 K ∧ Below w7.heap.size w7 w') := fun W hW => (TK.out W (R5w.out W hW)).mono fun e w' ⟨y1, y2, y3, he, hk, hb⟩ => ⟨y1, y2, y3, he, hk, hW.trans (hb.mono hW.size)⟩
      have EE : Hid (∀ W y1 y2 y3, KRead W 0 W.heap.size (some ⟨y1, 0, none⟩) n1 (some ⟨y2, 0, none⟩) n2 (some ⟨y3, 0, none⟩) n3 K → Below w7.heap.size w7 W → Calls Try.prog 14 #[.agg #[.slice (some ⟨t1, 0, none⟩) n1 n1, .slice (some ⟨t2, 0, none⟩) n2 n2, .slice (some ⟨t3, 0, none⟩) n3 n3, .int .i64 K.tick, .int .i64 K.run], .agg #[.slice (some ⟨y1, 0, none⟩) n1 n1, .slice (some ⟨y2, 0, none⟩) n2 n2, .slice (some ⟨y3, 0, none⟩) n3 n3, .int .i64 K.tick, .int .i64 K.run]] W fun e w' => e = .returned (.bool true) ∧ Below w7.heap.size w7 w') := fun W y1 y2 y3 hk hW => (EK.out W _ _ _ _ _ _ (KX.out W (R7w.out W hW)) hk).mono fun e w' ⟨he, hb⟩ => ⟨he, hW.trans (hb.mono hW.size)⟩
      have na1 := Lib.hid (R12.out)
      go_region_held3 (fun W => (W.cell? ⟨w.heap.size, 0, none⟩ = some (.slice A1 n1 c1) ∧ W.cell? ⟨w.heap.size, 1, none⟩ = some (.slice A2 n2 c2) ∧ W.cell? ⟨w.heap.size, 2, none⟩ = some (.slice A3 n3 c3) ∧ W.cell? ⟨w.heap.size, 3, none⟩ = some (.int .i64 K.tick) ∧ W.cell? ⟨w.heap.size, 4, none⟩ = some (.int .i64 K.run)) ∧ (W.cell? ⟨w6.heap.size, 0, none⟩ = some (.slice (some ⟨t1, 0, none⟩) n1 n1) ∧ W.cell? ⟨w6.heap.size, 1, none⟩ = some (.slice (some ⟨t2, 0, none⟩) n2 n2) ∧ W.cell? ⟨w6.heap.size, 2, none⟩ = some (.slice (some ⟨t3, 0, none⟩) n3 n3) ∧ W.cell? ⟨w6.heap.size, 3, none⟩ = some (.int .i64 K.tick) ∧ W.cell? ⟨w6.heap.size, 4, none⟩ = some (.int .i64 K.run)) ∧ Below w7.heap.size w7 W) (first | with_reducible exact KH.out _ (by assumption) | exact KH.out _ (Below.drew na1.out)) (first | (go_at_call 11; with_reducible refine (TT.out _ (by go_split_ands; assumption)).mono ?_; rintro e w' ⟨y1, y2, y3, rfl, hLQ, hb9⟩) | (go_at_call 14; with_reducible refine (EE.out _ _ _ _ hLQ (by go_split_ands; assumption)).mono ?_; rintro e w' ⟨rfl, hb9⟩))
      all_goals (go_wp2_with fail; go_meet; exact ⟨rfl, by assumption⟩)
  case rest =>
    obtain ⟨rfl, hbw⟩ := hcut
    go_wp2
    go_ret
    exact ⟨rfl, FIN.out _ (R5w.out _ hbw)⟩

end Go.Proofs.Ytaemegkdmbhpnaa
