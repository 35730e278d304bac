/-
  The draws of a run of events with whom it is about. For codes of at most 2^20 bytes.
-/
import Derived.Test.YtckapndpefkcgaaGreatDrawD3
set_option maxHeartbeats 1000000
namespace Go.Proofs.YtckapndpefkcgaaGreat
open Go.RowKit
set_option maxRecDepth 100000

theorem results_tmp4 {fn : Func} {t u v s : Tmp} (h : fn.results = #[.tmp t, .tmp u, .tmp v, .tmp s]) (tmps : Array Value) (P : Program) (w : World) :
    (results fn tmps).run P w = .ok (.tuple #[tmps.getD t undef, tmps.getD u undef, tmps.getD v undef, tmps.getD s undef]) w := by
  simp [results, h]
def WinD (w : World) (e : Ending) (w' : World) : Prop :=
  ∃ sl B n c' xs ev, e = .returned (.tuple #[.int .i64 sl, .slice B n c', .int .i64 ev]) ∧ (0 ≤ sl ∧ sl ≤ 13) ∧ n ≤ 401 ∧ (-1 ≤ ev ∧ ev ≤ 4) ∧ OR 57 7 w' w.heap.size B n c' xs ∧ Below w.heap.size w w'
def MutD (w : World) (e : Ending) (w' : World) : Prop :=
  ∃ sl B n c' xs ev kd, e = .returned (.tuple #[.int .i64 sl, .slice B n c', .int .i64 ev, .int .i64 kd]) ∧ (0 ≤ sl ∧ sl ≤ 13) ∧ n ≤ 401 ∧ (-1 ≤ ev ∧ ev ≤ 4) ∧ (0 ≤ kd ∧ kd ≤ 3) ∧ OR 57 7 w' w.heap.size B n c' xs ∧ Below w.heap.size w w'

set_option maxHeartbeats 4000000 in
theorem DrawWindowsOf_any (lo hi : Nat) (A : Option Addr) (k c : Nat) (b : Nat → Int) (w : World) (hk : k ≤ 1048576) (hb : ∀ j, 0 ≤ b j ∧ b j ≤ 255) (h : Sl w lo hi A k (fun j => .int .u8 (b j))) :
    Calls Tryz.prog 45 #[.slice A k c] w (WinD w) := by
  have HBY := Lib.hid hb
  have CD : Hid (∀ W, Below w.heap.size w W → Sl W lo (min hi w.heap.size) A k (fun j => .int .u8 (b j))) := fun W hW => h.lt.below hW (by omega)
  have C1 := Lib.hid (DrawRunKernel_any lo hi A k c b w hk hb h)
  clear h hb
  go_enter Tryz.func45, Tryz.ntmps45
  go_wp2_with fail
  refine C1.out.mono ?_
  rintro e w1 ⟨sl, B, n, c', xs, rfl, hsl, hn, ho1, hb1⟩
  have O1 := Lib.hid ho1
  have B1 := Lib.hid hb1
  have z1 := hb1.size
  have C2 := Lib.hid (l1Later_any A k c 2 w1 (by omega))
  obtain ⟨g, hgz⟩ : ∃ g, g = w1.heap.size := ⟨_, rfl⟩
  rw [← hgz] at C2
  have G1 : g ≤ w1.heap.size := by omega
  have G0 : w.heap.size ≤ g := by omega
  have G2 : w1.heap.size ≤ g := by omega
  clear ho1 hb1 C1 hgz
  go_wp2_with fail
  refine C2.out.mono ?_
  rintro e w2 ⟨rfl, hs2, hb2⟩
  have S2 := Lib.hid hs2
  have B2 := Lib.hid (hb2.mono G2)
  have z2 := B2.out.size
  have z3 := hs2.lt
  clear hs2 hb2 C2
  have CP := Lib.hid (pick_lit lo (min hi w.heap.size) g A k c (5 + 7 * 2) 6 2 #[.int .i64 0, .int .i64 1, .int .i64 2, .int .i64 3, .int .i64 4, .int .i64 (-1)] b [0, 1, 2, 3, 4, -1] w2 hk (by omega) HBY.out (CD.out w2 (B1.out.trans (B2.out.mono z1))) (by omega) S2.out rfl (by omega) (by omega) (fun q hq => by rcases (show q = 0 ∨ q = 1 ∨ q = 2 ∨ q = 3 ∨ q = 4 ∨ q = 5 by omega) with rfl | rfl | rfl | rfl | rfl | rfl <;> rfl))
  go_wp2_with fail
  refine CP.out.mono ?_
  rintro e w3 ⟨r9, hr9, rfl, hs, ho, hz9⟩
  have hv : -1 ≤ gi [0, 1, 2, 3, 4, -1] r9 ∧ gi [0, 1, 2, 3, 4, -1] r9 ≤ 4 := by rcases (show r9 = 0 ∨ r9 = 1 ∨ r9 = 2 ∨ r9 = 3 ∨ r9 = 4 ∨ r9 = 5 by omega) with rfl | rfl | rfl | rfl | rfl | rfl <;> decide
  generalize gi [0, 1, 2, 3, 4, -1] r9 = v9 at *
  clear hr9 CP
  have B3 : Hid (Below w1.heap.size w1 w3) := B2.out.trans (ho.1.mono (by omega))
  go_wp2
  go_ret3
  exact ⟨sl, B, n, c', xs, v9, rfl, hsl, hn, hv, O1.out.below B3.out (Nat.le_refl _), B1.out.trans (B3.out.mono z1)⟩

set_option maxHeartbeats 4000000 in
theorem DrawMutedEvents_any (lo hi : Nat) (A : Option Addr) (k c : Nat) (b : Nat → Int) (w : World) (hk : k ≤ 1048576) (hb : ∀ j, 0 ≤ b j ∧ b j ≤ 255) (h : Sl w lo hi A k (fun j => .int .u8 (b j))) :
    Calls Tryz.prog 17 #[.slice A k c] w (MutD w) := by
  have HBY := Lib.hid hb
  have CD : Hid (∀ W, Below w.heap.size w W → Sl W lo (min hi w.heap.size) A k (fun j => .int .u8 (b j))) := fun W hW => h.lt.below hW (by omega)
  have C1 := Lib.hid (DrawWindowsOf_any lo hi A k c b w hk hb h)
  clear h hb
  go_enter Tryz.func17, Tryz.ntmps17
  go_wp2_with fail
  refine C1.out.mono ?_
  rintro e w1 ⟨sl, B, n, c', xs, ev, rfl, hsl, hn, hev, ho1, hb1⟩
  have O1 := Lib.hid ho1
  have B1 := Lib.hid hb1
  have z1 := hb1.size
  have C2 := Lib.hid (l1Later_any A k c 3 w1 (by omega))
  obtain ⟨g, hgz⟩ : ∃ g, g = w1.heap.size := ⟨_, rfl⟩
  rw [← hgz] at C2
  have G1 : g ≤ w1.heap.size := by omega
  have G0 : w.heap.size ≤ g := by omega
  have G2 : w1.heap.size ≤ g := by omega
  clear ho1 hb1 C1 hgz
  go_wp2_with fail
  refine C2.out.mono ?_
  rintro e w2 ⟨rfl, hs2, hb2⟩
  have S2 := Lib.hid hs2
  have B2 := Lib.hid (hb2.mono G2)
  have z2 := B2.out.size
  have z3 := hs2.lt
  clear hs2 hb2 C2
  have CP := Lib.hid (pick_lit lo (min hi w.heap.size) g A k c (5 + 7 * 3) 6 2 #[.int .i64 1, .int .i64 2, .int .i64 1, .int .i64 2, .int .i64 3, .int .i64 0] b [1, 2, 1, 2, 3, 0] w2 hk (by omega) HBY.out (CD.out w2 (B1.out.trans (B2.out.mono z1))) (by omega) S2.out rfl (by omega) (by omega) (fun q hq => by rcases (show q = 0 ∨ q = 1 ∨ q = 2 ∨ q = 3 ∨ q = 4 ∨ q = 5 by omega) with rfl | rfl | rfl | rfl | rfl | rfl <;> rfl))
  go_wp2_with fail
  refine CP.out.mono ?_
  rintro e w3 ⟨r9, hr9, rfl, hs, ho, hz9⟩
  have hv : 0 ≤ gi [1, 2, 1, 2, 3, 0] r9 ∧ gi [1, 2, 1, 2, 3, 0] r9 ≤ 3 := by rcases (show r9 = 0 ∨ r9 = 1 ∨ r9 = 2 ∨ r9 = 3 ∨ r9 = 4 ∨ r9 = 5 by omega) with rfl | rfl | rfl | rfl | rfl | rfl <;> decide
  generalize gi [1, 2, 1, 2, 3, 0] r9 = v9 at *
  clear hr9 CP
  have B3 : Hid (Below w1.heap.size w1 w3) := B2.out.trans (ho.1.mono (by omega))
  go_wp2
  (try simp only [Exit.inBlock, Exit.then])
  refine bodyPost_ret (results_tmp4 rfl _ _ _) rfl ?_
  exact ⟨sl, B, n, c', xs, ev, v9, rfl, hsl, hn, hev, hv, O1.out.below B3.out (Nat.le_refl _), B1.out.trans (B3.out.mono z1)⟩

end Go.Proofs.YtckapndpefkcgaaGreat
