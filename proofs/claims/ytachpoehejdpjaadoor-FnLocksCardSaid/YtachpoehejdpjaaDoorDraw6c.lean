/-
  What chapter 6's draws of arguments answer. No conditions beyond that the code can be read.
-/
import Derived.Test.YtachpoehejdpjaaDoorDraw6b
import Derived.Test.YtachpoehejdpjaaDoorPick
namespace Go.Proofs.YtachpoehejdpjaaDoor
open Go.RowKit
set_option maxRecDepth 100000

theorem results_tmp_row {P : Program} {fn : Func} {p u : Tmp} {ty : TypeId} (h : fn.results = #[.tmp u, .cell p ty]) (tmps : Array Value) (w : World) (g : Nat) (t : TypeId) (cs : Array Value) (fr : Nat × Nat) (d : TypeDesc)
    (hp : tmps.getD p undef = .pointer (some ⟨g, 0, none⟩)) (hg : w.heap[g]? = some (.cells cs t fr))
    (hu : P.underlying ty = some d) (hd : (match d with | .struct _ | .array _ _ => true | _ => false) = true) (hi : (P.info? ty).map (·.size) = some cs.size) :
    (results fn tmps).run P w = .ok (.tuple #[tmps.getD u undef, .agg cs]) w := by
  have hp' : tmps[p]?.getD undef = .pointer (some ⟨g, 0, none⟩) := by simpa using hp
  simp [results, h, hp', asAddr, run_loadVar_row w g t ty cs fr d hg hu hd hi, Result.andThen]
theorem res2_6 {fn : Func} {t u : Tmp} (h : fn.results = #[.tmp t, .tmp u]) (tmps : Array Value) (P : Program) (w : World) :
    (results fn tmps).run P w = .ok (.tuple #[tmps.getD t undef, tmps.getD u undef]) w := by simp [results, h]
/-- a queue and a lock of one's own -/
def DQL (w : World) (e : Ending) (w' : World) : Prop :=
  ∃ B n c' xs o B2 n2 c2 ys, e = .returned (.tuple #[.slice B n c', .agg #[.int .i64 o, .slice B2 n2 c2]]) ∧ xs.length = n ∧ n ≤ 6 ∧ ys.length = n2 ∧ n2 ≤ 6 ∧ OR 2 1 w' w.heap.size B n c' xs ∧ OR 2 1 w' w.heap.size B2 n2 c2 ys ∧ Below w.heap.size w w'
/-- a queue of one's own and a number -/
def DQI (w : World) (e : Ending) (w' : World) : Prop :=
  ∃ B n c' xs v, e = .returned (.tuple #[.slice B n c', .int .i64 v]) ∧ xs.length = n ∧ n ≤ 6 ∧ OR 2 1 w' w.heap.size B n c' xs ∧ Below w.heap.size w w'
/-- a lock of one's own and a number -/
def DLI (w : World) (e : Ending) (w' : World) : Prop :=
  ∃ o B n c' xs v, e = .returned (.tuple #[.agg #[.int .i64 o, .slice B n c'], .int .i64 v]) ∧ xs.length = n ∧ n ≤ 6 ∧ OR 2 1 w' w.heap.size B n c' xs ∧ Below w.heap.size w w'

theorem DrawWaitQueue_any (lo hi : Nat) (A : Option Addr) (k c : Nat) (b : Nat → Int) (w : World) (hk : k ≤ 1048576)
    (hb : ∀ j, 0 ≤ b j ∧ b j ≤ 255) (h : Sl w lo hi A k (fun j => .int .u8 (b j))) :
    Calls Tryd.prog 20 #[.slice A k c] w (DQI w) := by
  have H := Lib.hid h
  have HBY := Lib.hid hb
  obtain ⟨w1, hw1⟩ : ∃ w1, w1 = w := ⟨_, rfl⟩
  have B1 : Hid (Below w.heap.size w w1) := by rw [hw1]; exact Below.refl _ _
  have Z1 : Hid (w.heap.size ≤ w1.heap.size) := by show _ ≤ _; rw [hw1]; exact Nat.le_refl _
  have HW1 := Lib.hid hw1
  clear h hb hw1
  go_enter Tryd.func20, Tryd.ntmps20
  go_upto_region 1 with (fail)
  rw [show w = w1 from HW1.out.symm]
  clear HW1
  go_wp2_with fail
  refine (l1Source_any A k c w1).mono ?_
  rintro e w2 ⟨rfl, hs, hb⟩
  have HS2 := Lib.hid hs
  have N2 := Lib.hid hb
  have ZG := Lib.hid (show w.heap.size ≤ w1.heap.size ∧ w1.heap.size < w2.heap.size by have := Z1.out; have := hs.lt; omega)
  have B2 := Lib.hid (B1.out.trans (hb.mono B1.out.size))
  
  have CD : Hid (∀ W, Below w.heap.size w W → Sl W lo (min hi w.heap.size) A k (fun j => .int .u8 (b j))) := fun W hW => H.out.lt.below hW (by omega)
  clear hs hb
  have Q := Lib.hid (l6Queue_any lo (min hi w.heap.size) w1.heap.size A k c 0 b w2 hk (by omega) HBY.out (CD.out w2 B2.out) (by have := ZG.out; omega) HS2.out)
  go_wp2_with fail
  refine Q.out.mono ?_
  rintro e w3 ⟨B, n, c', xs, a3, rfl, ex, hn, ho, ha3, hs3, ho3⟩
  have O3 := Lib.hid ho
  have HS3 := Lib.hid hs3
  have EX := Lib.hid ex
  have HN6 := Lib.hid hn
  have B3 := Lib.hid (B2.out.trans (ho3.1.mono ZG.out.1))
  have S23 := Lib.hid ho3.1.size
  clear ho hs3 Q ex hn
  have CP := Lib.hid (pick_lit lo (min hi w.heap.size) w1.heap.size A k c a3 7 2 #[.int .i64 0, .int .i64 1, .int .i64 2, .int .i64 3, .int .i64 4, .int .i64 5, .int .i64 (-1)] b [0, 1, 2, 3, 4, 5, -1] w3 hk (by omega) HBY.out (CD.out w3 B3.out) (by have := ZG.out; omega) HS3.out rfl (by omega) (by omega)
    (fun q hq => by rcases (show q = 0 ∨ q = 1 ∨ q = 2 ∨ q = 3 ∨ q = 4 ∨ q = 5 ∨ q = 6 by omega) with rfl | rfl | rfl | rfl | rfl | rfl | rfl <;> rfl))
  go_wp2_with fail
  refine CP.out.mono ?_
  rintro e w5 ⟨r5, hr5, rfl, hs5, ho5, hsz5⟩
  generalize gi [0, 1, 2, 3, 4, 5, -1] r5 = id5 at *
  have O5 : Hid (OR 2 1 w5 w.heap.size B n c' xs) := by
    have o := OR.keptG O3.out ho5.grownBy (fun k hk => by injection hk with hk; have := ZG.out; omega)
    exact OR.mono o (by have := B2.out.size; omega)
  have B5 := Lib.hid (B3.out.trans (ho5.1.mono ZG.out.1))
  clear hs5 ho5 CP
  go_wp2
  refine bodyPost_ret (res2_6 rfl _ _ _) rfl ?_
  exact ⟨B, n, c', xs, id5, rfl, EX.out, HN6.out, O5.out, B5.out⟩

set_option maxHeartbeats 1000000 in
theorem DrawWakeOne_any (lo hi : Nat) (A : Option Addr) (k c : Nat) (b : Nat → Int) (w : World) (hk : k ≤ 1048576)
    (hb : ∀ j, 0 ≤ b j ∧ b j ≤ 255) (h : Sl w lo hi A k (fun j => .int .u8 (b j))) :
    Calls Tryd.prog 45 #[.slice A k c] w (DQL w) := by
  have H := Lib.hid h
  have HBY := Lib.hid hb
  obtain ⟨w1, hw1⟩ : ∃ w1, w1 = w.alloc (.cells #[.int .i64 0, .slice none 0 0] 26) := ⟨_, rfl⟩
  have K1 : Hid (w1.heap[w.heap.size]? = some (.cells #[.int .i64 0, .slice none 0 0] 26 (0, 0))) := by show _ = _; rw [hw1]; exact heap_alloc_new w _
  have B1 : Hid (Below w.heap.size w w1) := by rw [hw1]; exact below_new w _
  have Z1 : Hid (w.heap.size < w1.heap.size) := by show _ < _; rw [hw1]; simp
  have HW1 := Lib.hid hw1
  clear h hb hw1
  go_enter Tryd.func45, Tryd.ntmps45
  go_upto_region 1 with (fail)
  rw [← HW1.out]
  clear HW1
  go_wp2_with fail
  refine (l1Source_any A k c w1).mono ?_
  rintro e w2 ⟨rfl, hs, hb⟩
  have HS2 := Lib.hid hs
  have N2 := Lib.hid hb
  have ZG := Lib.hid (show w.heap.size ≤ w1.heap.size ∧ w1.heap.size < w2.heap.size by have := Z1.out; have := hs.lt; omega)
  have B2 := Lib.hid (B1.out.trans (hb.mono B1.out.size))
  have K2 := Lib.hid ((hb.block w.heap.size Z1.out).trans K1.out)
  have CD : Hid (∀ W, Below w.heap.size w W → Sl W lo (min hi w.heap.size) A k (fun j => .int .u8 (b j))) := fun W hW => H.out.lt.below hW (by omega)
  clear hs hb
  have Q := Lib.hid (l6Queue_any lo (min hi w.heap.size) w1.heap.size A k c 0 b w2 hk (by omega) HBY.out (CD.out w2 B2.out) (by have := ZG.out; omega) HS2.out)
  go_wp2_with fail
  refine Q.out.mono ?_
  rintro e w3 ⟨B, n, c', xs, a3, rfl, ex, hn, ho, ha3, hs3, ho3⟩
  have O3 := Lib.hid ho
  have HS3 := Lib.hid hs3
  have EX := Lib.hid ex
  have HN6 := Lib.hid hn
  have B3 := Lib.hid (B2.out.trans (ho3.1.mono ZG.out.1))
  have S23 := Lib.hid ho3.1.size
  have K3 := Lib.hid ((ho3.1.block w.heap.size (by have := Z1.out; omega)).trans K2.out)
  clear ho hs3 Q ex hn
  have BW := B3
  have HSW := HS3
  have D := Lib.hid (l6Draw_any lo (min hi w.heap.size) w1.heap.size A k c a3 b w3 hk (by omega) HBY.out (CD.out w3 BW.out) (by have := ZG.out; omega) HSW.out)
  go_wp2_with fail
  refine D.out.mono ?_
  rintro e w4 ⟨o, B2_, n2, c2, ys, a4, rfl, ey, hn2, hoy, ha4, hs4, ho4⟩
  have K4 := Lib.hid ((ho4.1.block w.heap.size (by have := ZG.out; have := Z1.out; omega)).trans K3.out)
  have O4 : Hid (OR 2 1 w4 w.heap.size B n c' xs) := by
    have o := OR.keptG O3.out ho4.grownBy (fun k hk => by injection hk with hk; have := ZG.out; omega)
    exact OR.mono o (by have := B2.out.size; omega)
  have P4 := Lib.hid (OR.mono (base' := w.heap.size) hoy (by have := B3.out.size; omega))
  have B4 := Lib.hid (B3.out.trans (ho4.1.mono ZG.out.1))
  have EY := Lib.hid ey
  have HN2 := Lib.hid hn2
  clear hoy hs4 ho4 D ey hn2
  have r0 := cell_of_row w4 _ 0 _ _ _ K4.out; have r1 := cell_of_row w4 _ 1 _ _ _ K4.out; have f0 := frozen_of_row w4 _ 0 _ _ K4.out; have f1 := frozen_of_row w4 _ 1 _ _ K4.out
  simp at r0 r1
  go_wp2
  refine bodyPost_ret (results_tmp_row rfl _ _ w.heap.size _ _ (0, 0) _ rfl (heap_setCell_same _ _ 1 _ _ _ (heap_setCell_same _ _ 0 _ _ _ K4.out)) Tryd.underlying26 rfl (by kernel_rfl)) rfl ?_
  exact ⟨B, n, c', xs, o, B2_, n2, c2, ys, rfl, EX.out, HN6.out, EY.out, HN2.out, OR.setOther6 (OR.setOther6 O4.out K4.out (by decide) 0 _) (heap_setCell_same _ _ 0 _ _ _ K4.out) (by decide) 1 _,
    OR.setOther6 (OR.setOther6 P4.out K4.out (by decide) 0 _) (heap_setCell_same _ _ 0 _ _ _ K4.out) (by decide) 1 _, (B4.out.setCell (p := ⟨w.heap.size, 0, none⟩) (Nat.le_refl _) _).setCell (p := ⟨w.heap.size, 1, none⟩) (Nat.le_refl _) _⟩

theorem DrawWakeAll_any (lo hi : Nat) (A : Option Addr) (k c : Nat) (b : Nat → Int) (w : World) (hk : k ≤ 1048576)
    (hb : ∀ j, 0 ≤ b j ∧ b j ≤ 255) (h : Sl w lo hi A k (fun j => .int .u8 (b j))) :
    Calls Tryd.prog 17 #[.slice A k c] w (DQL w) := by
  obtain ⟨w1, hw1⟩ : ∃ w1, w1 = w.alloc (.cells #[.int .i64 0, .slice none 0 0] 26) := ⟨_, rfl⟩
  have K1 : Hid (w1.heap[w.heap.size]? = some (.cells #[.int .i64 0, .slice none 0 0] 26 (0, 0))) := by show _ = _; rw [hw1]; exact heap_alloc_new w _
  have B1 : Hid (Below w.heap.size w w1) := by rw [hw1]; exact below_new w _
  have Z1 : Hid (w.heap.size < w1.heap.size) := by show _ < _; rw [hw1]; simp
  have D := Lib.hid (DrawWakeOne_any lo (min hi w.heap.size) A k c b w1 hk hb (h.lt.below B1.out (by omega)))
  have HW1 := Lib.hid hw1
  clear h hb hw1
  go_enter Tryd.func17, Tryd.ntmps17
  go_upto_region 1 with (fail)
  rw [← HW1.out]
  clear HW1
  go_wp2_with fail
  refine D.out.mono ?_
  rintro e w4 ⟨B, n, c', xs, o, B2_, n2, c2, ys, rfl, ex, hn, ey, hn2, ho, hoy, hb4⟩
  have K4 := Lib.hid ((hb4.block w.heap.size Z1.out).trans K1.out)
  have O4 := Lib.hid (OR.mono (base' := w.heap.size) ho (by have := Z1.out; omega))
  have P4 := Lib.hid (OR.mono (base' := w.heap.size) hoy (by have := Z1.out; omega))
  have B4 := Lib.hid (B1.out.trans (hb4.mono B1.out.size))
  have EE := Lib.hid (show (xs.length = n ∧ n ≤ 6) ∧ ys.length = n2 ∧ n2 ≤ 6 from ⟨⟨ex, hn⟩, ey, hn2⟩)
  clear ho hoy hb4 D ex hn ey hn2
  have r0 := cell_of_row w4 _ 0 _ _ _ K4.out; have r1 := cell_of_row w4 _ 1 _ _ _ K4.out; have f0 := frozen_of_row w4 _ 0 _ _ K4.out; have f1 := frozen_of_row w4 _ 1 _ _ K4.out
  simp at r0 r1
  go_wp2
  refine bodyPost_ret (results_tmp_row rfl _ _ w.heap.size _ _ (0, 0) _ rfl (heap_setCell_same _ _ 1 _ _ _ (heap_setCell_same _ _ 0 _ _ _ K4.out)) Tryd.underlying26 rfl (by kernel_rfl)) rfl ?_
  exact ⟨B, n, c', xs, o, B2_, n2, c2, ys, rfl, EE.out.1.1, EE.out.1.2, EE.out.2.1, EE.out.2.2, OR.setOther6 (OR.setOther6 O4.out K4.out (by decide) 0 _) (heap_setCell_same _ _ 0 _ _ _ K4.out) (by decide) 1 _,
    OR.setOther6 (OR.setOther6 P4.out K4.out (by decide) 0 _) (heap_setCell_same _ _ 0 _ _ _ K4.out) (by decide) 1 _, (B4.out.setCell (p := ⟨w.heap.size, 0, none⟩) (Nat.le_refl _) _).setCell (p := ⟨w.heap.size, 1, none⟩) (Nat.le_refl _) _⟩

set_option maxHeartbeats 1000000 in
theorem DrawTakeLock_any (lo hi : Nat) (A : Option Addr) (k c : Nat) (b : Nat → Int) (w : World) (hk : k ≤ 1048576)
    (hb : ∀ j, 0 ≤ b j ∧ b j ≤ 255) (h : Sl w lo hi A k (fun j => .int .u8 (b j))) :
    Calls Tryd.prog 6 #[.slice A k c] w (DLI w) := by
  have H := Lib.hid h
  have HBY := Lib.hid hb
  obtain ⟨w1, hw1⟩ : ∃ w1, w1 = w.alloc (.cells #[.int .i64 0, .slice none 0 0] 26) := ⟨_, rfl⟩
  have K1 : Hid (w1.heap[w.heap.size]? = some (.cells #[.int .i64 0, .slice none 0 0] 26 (0, 0))) := by show _ = _; rw [hw1]; exact heap_alloc_new w _
  have B1 : Hid (Below w.heap.size w w1) := by rw [hw1]; exact below_new w _
  have Z1 : Hid (w.heap.size < w1.heap.size) := by show _ < _; rw [hw1]; simp
  have HW1 := Lib.hid hw1
  clear h hb hw1
  go_enter Tryd.func6, Tryd.ntmps6
  go_upto_region 1 with (fail)
  rw [← HW1.out]
  clear HW1
  go_wp2_with fail
  refine (l1Source_any A k c w1).mono ?_
  rintro e w2 ⟨rfl, hs, hb⟩
  have HS2 := Lib.hid hs
  have N2 := Lib.hid hb
  have ZG := Lib.hid (show w.heap.size ≤ w1.heap.size ∧ w1.heap.size < w2.heap.size by have := Z1.out; have := hs.lt; omega)
  have B2 := Lib.hid (B1.out.trans (hb.mono B1.out.size))
  have K2 := Lib.hid ((hb.block w.heap.size Z1.out).trans K1.out)
  have CD : Hid (∀ W, Below w.heap.size w W → Sl W lo (min hi w.heap.size) A k (fun j => .int .u8 (b j))) := fun W hW => H.out.lt.below hW (by omega)
  clear hs hb
  have BW := B2
  have HSW := HS2
  have D := Lib.hid (l6Draw_any lo (min hi w.heap.size) w1.heap.size A k c 0 b w2 hk (by omega) HBY.out (CD.out w2 BW.out) (by have := ZG.out; omega) HSW.out)
  go_wp2_with fail
  refine D.out.mono ?_
  rintro e w4 ⟨o, B2_, n2, c2, ys, a4, rfl, ey, hn2, hoy, ha4, hs4, ho4⟩
  have K4 := Lib.hid ((ho4.1.block w.heap.size (by have := ZG.out; have := Z1.out; omega)).trans K2.out)
  have O4 := Lib.hid hoy
  have HS4 := Lib.hid hs4
  have B4 := Lib.hid (B2.out.trans (ho4.1.mono ZG.out.1))
  have EY := Lib.hid ey
  have HN2 := Lib.hid hn2
  clear hoy hs4 ho4 D ey hn2
  have CP := Lib.hid (pick_lit lo (min hi w.heap.size) w1.heap.size A k c a4 7 2 #[.int .i64 0, .int .i64 1, .int .i64 2, .int .i64 3, .int .i64 4, .int .i64 5, .int .i64 (-1)] b [0, 1, 2, 3, 4, 5, -1] w4 hk (by omega) HBY.out (CD.out w4 B4.out) (by have := ZG.out; omega) HS4.out rfl (by omega) (by omega)
    (fun q hq => by rcases (show q = 0 ∨ q = 1 ∨ q = 2 ∨ q = 3 ∨ q = 4 ∨ q = 5 ∨ q = 6 by omega) with rfl | rfl | rfl | rfl | rfl | rfl | rfl <;> rfl))
  go_wp2_with fail
  refine CP.out.mono ?_
  rintro e w5 ⟨r5, hr5, rfl, hs5, ho5, hsz5⟩
  generalize gi [0, 1, 2, 3, 4, 5, -1] r5 = id5 at *
  have O5 : Hid (OR 2 1 w5 w.heap.size B2_ n2 c2 ys) := by
    have o := OR.keptG O4.out ho5.grownBy (fun k hk => by injection hk with hk; have := ZG.out; omega)
    exact OR.mono o (by have := B2.out.size; omega)
  have K5 := Lib.hid ((ho5.1.block w.heap.size (by have := ZG.out; have := Z1.out; omega)).trans K4.out)
  have B5 := Lib.hid (B4.out.trans (ho5.1.mono ZG.out.1))
  clear hs5 ho5 CP
  have r0 := cell_of_row w5 _ 0 _ _ _ K5.out; have r1 := cell_of_row w5 _ 1 _ _ _ K5.out; have f0 := frozen_of_row w5 _ 0 _ _ K5.out; have f1 := frozen_of_row w5 _ 1 _ _ K5.out
  simp at r0 r1
  go_wp2
  refine bodyPost_ret (results_row_err rfl _ _ w.heap.size _ _ (0, 0) _ rfl (heap_setCell_same _ _ 1 _ _ _ (heap_setCell_same _ _ 0 _ _ _ K5.out)) Tryd.underlying26 rfl (by kernel_rfl) _ rfl) rfl ?_
  exact ⟨o, B2_, n2, c2, ys, id5, rfl, EY.out, HN2.out, OR.setOther6 (OR.setOther6 O5.out K5.out (by decide) 0 _) (heap_setCell_same _ _ 0 _ _ _ K5.out) (by decide) 1 _, (B5.out.setCell (p := ⟨w.heap.size, 0, none⟩) (Nat.le_refl _) _).setCell (p := ⟨w.heap.size, 1, none⟩) (Nat.le_refl _) _⟩

end Go.Proofs.YtachpoehejdpjaaDoor
