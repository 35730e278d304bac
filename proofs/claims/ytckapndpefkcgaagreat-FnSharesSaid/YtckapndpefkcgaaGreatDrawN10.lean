/-
  The draw of a list of notes with whom and what is counted. For codes of at most 2^20 bytes.
  Ahead of it:
  The draws of a run of events with whom it is about. For codes of at most 2^20 bytes.
-/
import Derived.Test.YtckapndpefkcgaaGreatSpec3z
import Derived.Test.YtckapndpefkcgaaGreatDrawD3
set_option maxHeartbeats 1000000
namespace Go.Proofs.YtckapndpefkcgaaGreat
open Go.RowKit
set_option maxRecDepth 100000

def WinD (w : World) (e : Ending) (w' : World) : Prop :=
  ∃ sl B n c' xs ev, e = .returned (.tuple #[.int .i64 sl, .slice B n c', .int .i64 ev]) ∧ (0 ≤ sl ∧ sl ≤ 13) ∧ n ≤ 401 ∧ (-1 ≤ ev ∧ ev ≤ 4) ∧ OR 57 7 w' w.heap.size B n c' xs ∧ Below w.heap.size w w'
set_option maxHeartbeats 4000000 in
theorem DrawWindowsOf_any (lo hi : Nat) (A : Option Addr) (k c : Nat) (b : Nat → Int) (w : World) (hk : k ≤ 1048576) (hb : ∀ j, 0 ≤ b j ∧ b j ≤ 255) (h : Sl w lo hi A k (fun j => .int .u8 (b j))) :
    Calls Tryz.prog 45 #[.slice A k c] w (WinD w) := by
  have HBY := Lib.hid hb
  have CD : Hid (∀ W, Below w.heap.size w W → Sl W lo (min hi w.heap.size) A k (fun j => .int .u8 (b j))) := fun W hW => h.lt.below hW (by omega)
  have C1 := Lib.hid (DrawRunKernel_any lo hi A k c b w hk hb h)
  clear h hb
  go_enter Tryz.func45, Tryz.ntmps45
  go_wp2_with fail
  refine C1.out.mono ?_
  rintro e w1 ⟨sl, B, n, c', xs, rfl, hsl, hn, ho1, hb1⟩
  have O1 := Lib.hid ho1
  have B1 := Lib.hid hb1
  have z1 := hb1.size
  have C2 := Lib.hid (l1Later_any A k c 2 w1 (by omega))
  obtain ⟨g, hgz⟩ : ∃ g, g = w1.heap.size := ⟨_, rfl⟩
  rw [← hgz] at C2
  have G1 : g ≤ w1.heap.size := by omega
  have G0 : w.heap.size ≤ g := by omega
  have G2 : w1.heap.size ≤ g := by omega
  clear ho1 hb1 C1 hgz
  go_wp2_with fail
  refine C2.out.mono ?_
  rintro e w2 ⟨rfl, hs2, hb2⟩
  have S2 := Lib.hid hs2
  have B2 := Lib.hid (hb2.mono G2)
  have z2 := B2.out.size
  have z3 := hs2.lt
  clear hs2 hb2 C2
  have CP := Lib.hid (pick_lit lo (min hi w.heap.size) g A k c (5 + 7 * 2) 6 2 #[.int .i64 0, .int .i64 1, .int .i64 2, .int .i64 3, .int .i64 4, .int .i64 (-1)] b [0, 1, 2, 3, 4, -1] w2 hk (by omega) HBY.out (CD.out w2 (B1.out.trans (B2.out.mono z1))) (by omega) S2.out rfl (by omega) (by omega) (fun q hq => by rcases (show q = 0 ∨ q = 1 ∨ q = 2 ∨ q = 3 ∨ q = 4 ∨ q = 5 by omega) with rfl | rfl | rfl | rfl | rfl | rfl <;> rfl))
  go_wp2_with fail
  refine CP.out.mono ?_
  rintro e w3 ⟨r9, hr9, rfl, hs, ho, hz9⟩
  have hv : -1 ≤ gi [0, 1, 2, 3, 4, -1] r9 ∧ gi [0, 1, 2, 3, 4, -1] r9 ≤ 4 := by rcases (show r9 = 0 ∨ r9 = 1 ∨ r9 = 2 ∨ r9 = 3 ∨ r9 = 4 ∨ r9 = 5 by omega) with rfl | rfl | rfl | rfl | rfl | rfl <;> decide
  generalize gi [0, 1, 2, 3, 4, -1] r9 = v9 at *
  clear hr9 CP
  have B3 : Hid (Below w1.heap.size w1 w3) := B2.out.trans (ho.1.mono (by omega))
  go_wp2
  go_ret3
  exact ⟨sl, B, n, c', xs, v9, rfl, hsl, hn, hv, O1.out.below B3.out (Nat.le_refl _), B1.out.trans (B3.out.mono z1)⟩

theorem DrawIsBalanced_any (lo hi : Nat) (A : Option Addr) (k c : Nat) (b : Nat → Int) (w : World) (hk : k ≤ 1048576) (hb : ∀ j, 0 ≤ b j ∧ b j ≤ 255) (h : Sl w lo hi A k (fun j => .int .u8 (b j))) :
    Calls Tryz.prog 8 #[.slice A k c] w (WinD w) := by
  have C1 := Lib.hid (DrawWindowsOf_any lo hi A k c b w hk hb h)
  clear h hb
  go_enter Tryz.func8, Tryz.ntmps8
  go_wp2_with fail
  refine C1.out.mono ?_
  rintro e w1 ⟨sl, B, n, c', xs, ev, rfl, hsl, hn, hev, ho1, hb1⟩
  go_wp2
  go_ret3
  exact ⟨sl, B, n, c', xs, ev, rfl, hsl, hn, hev, ho1, hb1⟩



theorem RQ.notes10 {w : World} {lo hi : Nat} {p : Rq} {K : Ker} {cs ns : List Int} (h : RQ w lo hi p K cs ns) : Sl w p.g5 (p.g5 + 1) p.A5 (p.n5 * 3) (fun k => .int .i64 (gi ns k)) := h.m5.sl
theorem rk3_small10 (m : Int) (x : Nat → Int) (n : Nat) : (rk3 m x n).2.1.os.length ≤ 12 ∧ (rk3 m x n).2.1.al.length ≤ 4 ∧ (rk3 m x n).2.1.ac.length ≤ 16 ∧ (rk3 m x n).2.2.1.length ≤ 400 ∧ (rk3 m x n).2.2.2.length ≤ 3600 := by
  unfold rk3
  by_cases h1 : (new1 m).1 = 0
  · rw [if_neg (by simp [h1])]
    by_cases h4 : 400 < n
    · rw [if_pos h4]; simp
    · rw [if_neg h4]
      obtain ⟨a, _, c, d⟩ := run3_all (x := x) (sk_new h1).1 rfl n (by omega)
      have v := (vf_zero a.v).2.1
      have l2 := a.l2; have l3 := a.l3
      show (run3 (new3 m) x n).1.os.length ≤ 12 ∧ (run3 (new3 m) x n).1.al.length ≤ 4 ∧ (run3 (new3 m) x n).1.ac.length ≤ 16 ∧ (run3 (new3 m) x n).2.1.length ≤ 400 ∧ (run3 (new3 m) x n).2.2.length ≤ 3600
      omega
  · rw [if_pos h1]; simp
theorem run_rr3 (q t u : Int) (A B C D E : Option Addr) (k c m d i j l n o r : Nat) (W : World) : (Instr.field 41 (.agg #[.int .i64 q, .slice A k c, .slice B m d, .slice C i j, .int .i64 t, .int .i64 u, .slice D l n, .slice E o r]) 3).run Tryz.prog W = .ok (.slice E o r) W := by kernel_rfl
def CnD (w : World) (e : Ending) (w' : World) : Prop :=
  ∃ B n c' ns ev kd, e = .returned (.tuple #[.slice B n c', .int .i64 ev, .int .i64 kd]) ∧ n ≤ 1200 ∧ Sl w' w.heap.size w'.heap.size B (n * 3) (fun j => .int .i64 (gi ns j)) ∧ Below w.heap.size w w'

set_option maxHeartbeats 8000000 in
theorem DrawCountNotes_any (lo hi : Nat) (A : Option Addr) (k c : Nat) (b : Nat → Int) (w : World) (hk : k ≤ 1048576) (hb : ∀ j, 0 ≤ b j ∧ b j ≤ 255) (h : Sl w lo hi A k (fun j => .int .u8 (b j))) :
    Calls Tryz.prog 11 #[.slice A k c] w (CnD w) := by
  have HBY := Lib.hid hb
  have CD : Hid (∀ W, Below w.heap.size w W → Sl W lo (min hi w.heap.size) A k (fun j => .int .u8 (b j))) := fun W hW => h.lt.below hW (by omega)
  have C1 := Lib.hid (l1Later_any A k c 2 w (by omega))
  obtain ⟨g, hgz⟩ : ∃ g, g = w.heap.size := ⟨_, rfl⟩
  rw [← hgz] at C1
  have G0 : w.heap.size ≤ g := by omega
  have G2 : g ≤ w.heap.size := by omega
  clear h hb hgz
  go_enter Tryz.func11, Tryz.ntmps11
  go_wp2_with fail
  refine C1.out.mono ?_
  rintro e w1 ⟨rfl, hs1, hb1⟩
  have S1 := Lib.hid hs1
  have B1 : Hid (Below w.heap.size w w1) := hb1.mono G0
  have z1 := hb1.size
  have g1 := hs1.lt
  clear hs1 hb1 C1
  have C2 := Lib.hid (DrawRunKernel_any lo (min hi w.heap.size) A k c b w1 hk HBY.out (CD.out w1 B1.out))
  go_wp2_with fail
  refine C2.out.mono ?_
  rintro e w2 ⟨sl, B, n, c', xs, rfl, hsl, hn, ho, hb2⟩
  have E2 : Hid (Sl w2 w1.heap.size w2.heap.size B (n * 7) (fun j => .int .i64 (gi xs j))) := OR.sl0 ho
  have B2 := Lib.hid hb2
  have z2 := hb2.size
  clear ho hb2 C2
  obtain ⟨⟨q, K, cs, ns⟩, hrk⟩ : ∃ rk, rk = rk3 sl (gi xs) n := ⟨_, rfl⟩
  have SM := Lib.hid (rk3_small10 sl (gi xs) n)
  rw [← hrk] at SM
  have SM : Hid (K.os.length ≤ 12 ∧ K.al.length ≤ 4 ∧ K.ac.length ≤ 16 ∧ cs.length ≤ 400 ∧ ns.length ≤ 3600) := SM.out
  have C3 := Lib.hid (specRunKernel_any w1.heap.size w2.heap.size B n c' (gi xs) sl w2 (by omega) E2.out)
  rw [← hrk] at C3
  clear hrk E2
  go_wp2_with fail
  refine C3.out.mono ?_
  rintro e w3 ⟨p, rfl, ho, hb3⟩
  have ho : RQ w3 w2.heap.size w3.heap.size p K cs ns := ho
  have N3 : Hid (Sl w3 p.g5 (p.g5 + 1) p.A5 (p.n5 * 3) (fun j => .int .i64 (gi ns j)) ∧ w2.heap.size ≤ p.g5 ∧ p.g5 < w3.heap.size ∧ p.n5 ≤ 1200) := ⟨ho.notes10, ho.b5.1, ho.b5.2, by have := ho.l5; have := SM.out; omega⟩
  have B3 := Lib.hid hb3
  have z3 := hb3.size
  have B13 : Hid (Below w1.heap.size w1 w3) := B2.out.trans (B3.out.mono z2)
  have S3 : Hid (Src w3 g A k c (5 + 7 * 2)) := S1.out.below (B13.out.mono (by omega))
  have W3 : Hid (Below w.heap.size w w3) := B1.out.trans (B13.out.mono z1)
  clear ho hb3 C3 SM S1
  unfold Rq.cells
  dsimp only
  have RR := fun W => run_rr3 q K.tick K.run p.A1 p.A2 p.A3 p.A4 p.A5 p.n1 p.c1 p.n2 p.c2 p.n3 p.c3 p.n4 p.c4 p.n5 p.c5 W
  have CP := Lib.hid (pick_lit lo (min hi w.heap.size) g A k c (5 + 7 * 2) 4 2 #[.int .i64 0, .int .i64 1, .int .i64 2, .int .i64 (-1)] b [0, 1, 2, -1] w3 hk (by omega) HBY.out (CD.out w3 W3.out) (by omega) S3.out rfl (by omega) (by omega) (fun q hq => by rcases (show q = 0 ∨ q = 1 ∨ q = 2 ∨ q = 3 by omega) with rfl | rfl | rfl | rfl <;> rfl))
  go_wp2_with fail
  refine CP.out.mono ?_
  rintro e w4 ⟨r9, hr9, rfl, hs, ho, hz9⟩
  have hv : -1 ≤ gi [0, 1, 2, -1] r9 ∧ gi [0, 1, 2, -1] r9 ≤ 2 := by rcases (show r9 = 0 ∨ r9 = 1 ∨ r9 = 2 ∨ r9 = 3 by omega) with rfl | rfl | rfl | rfl <;> decide
  generalize gi [0, 1, 2, -1] r9 = v9 at *
  clear hr9 CP
  have S4 := Lib.hid hs
  have z4 := ho.1.size
  have W4 : Hid (Below w.heap.size w w4) := W3.out.trans (ho.1.mono (by omega))
  have N4 : Hid (Sl w4 p.g5 (p.g5 + 1) p.A5 (p.n5 * 3) (fun j => .int .i64 (gi ns j))) := N3.out.1.only ho (by have := N3.out; omega) (by have := N3.out; omega)
  clear hs ho hv
  have CP := Lib.hid (pick_lit lo (min hi w.heap.size) g A k c (5 + 7 * 2 + 1) 8 2 #[.int .i64 1, .int .i64 2, .int .i64 3, .int .i64 4, .int .i64 5, .int .i64 6, .int .i64 7, .int .i64 0] b [1, 2, 3, 4, 5, 6, 7, 0] w4 hk (by omega) HBY.out (CD.out w4 W4.out) (by omega) S4.out rfl (by omega) (by omega) (fun q hq => by rcases (show q = 0 ∨ q = 1 ∨ q = 2 ∨ q = 3 ∨ q = 4 ∨ q = 5 ∨ q = 6 ∨ q = 7 by omega) with rfl | rfl | rfl | rfl | rfl | rfl | rfl | rfl <;> rfl))
  go_wp2_with fail
  refine CP.out.mono ?_
  rintro e w5 ⟨r9, hr9, rfl, hs, ho, hz9⟩
  have hv : 0 ≤ gi [1, 2, 3, 4, 5, 6, 7, 0] r9 ∧ gi [1, 2, 3, 4, 5, 6, 7, 0] r9 ≤ 7 := by rcases (show r9 = 0 ∨ r9 = 1 ∨ r9 = 2 ∨ r9 = 3 ∨ r9 = 4 ∨ r9 = 5 ∨ r9 = 6 ∨ r9 = 7 by omega) with rfl | rfl | rfl | rfl | rfl | rfl | rfl | rfl <;> decide
  generalize gi [1, 2, 3, 4, 5, 6, 7, 0] r9 = v8 at *
  clear hr9 CP
  have z5 := ho.1.size
  have W5 : Hid (Below w.heap.size w w5) := W4.out.trans (ho.1.mono (by omega))
  have N5 : Hid (Sl w5 p.g5 (p.g5 + 1) p.A5 (p.n5 * 3) (fun j => .int .i64 (gi ns j))) := N4.out.only ho (by have := N3.out; omega) (by have := N3.out; omega)
  clear hs ho hv
  go_wp2
  go_ret3
  exact ⟨p.A5, p.n5, p.c5, ns, v9, v8, rfl, N3.out.2.2.2, N5.out.wide (by have := N3.out; omega) (by have := N3.out; omega), W5.out⟩

end Go.Proofs.YtckapndpefkcgaaGreat
