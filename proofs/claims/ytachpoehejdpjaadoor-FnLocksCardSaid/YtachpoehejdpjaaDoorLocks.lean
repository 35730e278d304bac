/-
  The walk of FnLocks: for every code that can be read it returns true. No conditions beyond that.
-/
import Derived.Test.YtachpoehejdpjaaDoorDraw6e
import Derived.Test.YtachpoehejdpjaaDoorDraw1d
import Derived.Test.YtachpoehejdpjaaDoorImpl6e
import Derived.Test.YtachpoehejdpjaaDoorSpec6d
import Derived.Test.YtachpoehejdpjaaDoorSpec6e
import Derived.Test.YtachpoehejdpjaaDoorSame6
import Derived.Test.YtachpoehejdpjaaDoorKit6b
import Derived.Test.YtachpoehejdpjaaDoorMath6c
import Derived.Deep.RegionHeld3
namespace Go.Proofs.YtachpoehejdpjaaDoor
open Go.RowKit
set_option maxRecDepth 100000

/-- a row of numbers, wherever it lies, but not in the block bn -/
def RowN (bn : Nat) (W : World) (A : Option Addr) (xs : List Int) : Prop := ∃ lo hi, (hi ≤ bn ∨ bn < lo) ∧ Sl W lo hi A xs.length (fun k => .int .i64 (gi xs k))
theorem or_row {w : World} {base n c : Nat} {A : Option Addr} {xs : List Int} (h : OR 2 1 w base A n c xs) : Sl w base w.heap.size A n (fun k => .int .i64 (gi xs k)) := by
  have := h.sl0
  rwa [Nat.mul_one] at this
theorem or_capn {w : World} {base n c : Nat} {A : Option Addr} {xs : List Int} (h : OR 2 1 w base A n c xs) : n ≤ c ∧ (A = none → c = 0) := ⟨h.cap, h.capA⟩
theorem or_len1 {w : World} {base n c : Nat} {A : Option Addr} {xs : List Int} (h : OR 2 1 w base A n c xs) : xs.length = n := by have := h.len; omega
theorem run_lr0 (q n o : Int) (g : Bool) (A B : Option Addr) (k c m d : Nat) (W : World) : (Instr.field 30 (.agg #[.int .i64 q, .bool g, .int .i64 n, .int .i64 o, .slice A k c, .slice B m d]) 0).run Tryd.prog W = .ok (.int .i64 q) W := by kernel_rfl
theorem run_lr1 (q n o : Int) (g : Bool) (A B : Option Addr) (k c m d : Nat) (W : World) : (Instr.field 30 (.agg #[.int .i64 q, .bool g, .int .i64 n, .int .i64 o, .slice A k c, .slice B m d]) 1).run Tryd.prog W = .ok (.bool g) W := by kernel_rfl
theorem run_lr2 (q n o : Int) (g : Bool) (A B : Option Addr) (k c m d : Nat) (W : World) : (Instr.field 30 (.agg #[.int .i64 q, .bool g, .int .i64 n, .int .i64 o, .slice A k c, .slice B m d]) 2).run Tryd.prog W = .ok (.int .i64 n) W := by kernel_rfl
theorem run_lr3 (q n o : Int) (g : Bool) (A B : Option Addr) (k c m d : Nat) (W : World) : (Instr.field 30 (.agg #[.int .i64 q, .bool g, .int .i64 n, .int .i64 o, .slice A k c, .slice B m d]) 3).run Tryd.prog W = .ok (.agg #[.int .i64 o, .slice A k c]) W := by kernel_rfl
theorem run_lr4 (q n o : Int) (g : Bool) (A B : Option Addr) (k c m d : Nat) (W : World) : (Instr.field 30 (.agg #[.int .i64 q, .bool g, .int .i64 n, .int .i64 o, .slice A k c, .slice B m d]) 4).run Tryd.prog W = .ok (.slice B m d) W := by kernel_rfl
theorem run_ix0 (b o n c : Nat) (h : 0 < n) (W : World) : (Instr.indexAt 24 (.slice (some ⟨b, o, none⟩) n c) (.int .i64 0)).run Tryd.prog W = .ok (.pointer (some ⟨b, o, none⟩)) W := by
  have h1 : (0 : Int) < (n : Int) := by omega
  have h2 : ¬ n = 0 := by omega
  simp [go_sem]
  simp [*]
/-- a round of the law's loop: the lock now in its box -/
def RoundLk (w0 : World) (xs : List Int) (i : Value) (wr : World) : Prop :=
  ∃ (k : Nat) (o : Int) (R : Option Addr) (cr : Nat), k ≤ xs.length ∧ i = .int .i64 k ∧ RowN w0.heap.size wr R (xs.drop k) ∧ (xs.length - k ≤ cr ∧ (R = none → cr = 0)) ∧
    wr.heap[w0.heap.size]? = some (.cells #[.int .i64 o, .slice R (xs.length - k) cr] 26 (0, 0)) ∧ lf6 o (xs.drop k) = 0 ∧ Below w0.heap.size w0 wr
theorem run_ixk (b o n c k : Nat) (h : k < n) (W : World) : (Instr.indexAt 24 (.slice (some ⟨b, o, none⟩) n c) (.int .i64 (k : Int))).run Tryd.prog W = .ok (.pointer (some ⟨b, o + k, none⟩)) W := by
  have h1 : (k : Int) < (n : Int) := by omega
  have h2 : ¬ (k : Int) < 0 := by omega
  simp [go_sem, h]
theorem RowN.set {bn : Nat} {W : World} {A : Option Addr} {xs : List Int} (h : RowN bn W A xs) (j : Nat) (v : Value) : RowN bn (W.setCell ⟨bn, j, none⟩ v) A xs := by
  obtain ⟨lo, hi, hd, hs⟩ := h
  exact ⟨lo, hi, hd, hs.keep fun b h1 h2 => Below.heap_setCell _ _ _ _ (by show b ≠ bn; omega)⟩
theorem wrap_small1 {n : Nat} (h : n ≤ 1048576) : IntKind.i64.wrap ((n : Int) + 1) = (n : Int) + 1 := by
  have h1 : (n : Int) ≤ 1048576 := by omega
  go_arith

/-- an answer's parts -/
theorem six6 (r : A6) : ∃ q g n o y z, r = (q, g, n, o, y, z) := ⟨_, _, _, _, _, _, rfl⟩
/-- an answer, laid open -/
theorem LA.open6 {q n o : Int} {g : Bool} {y z : List Int} {w : World} {e : Ending} {w' : World} (h : LA (q, g, n, o, y, z) w e w') :
    ∃ A c B d, e = .returned (.agg #[.int .i64 q, .bool g, .int .i64 n, .int .i64 o, .slice A y.length c, .slice B z.length d]) ∧ Sl w' w.heap.size w'.heap.size A y.length (fun k => .int .i64 (gi y k)) ∧ (y.length ≤ c ∧ (A = none → c = 0)) ∧ Sl w' w.heap.size w'.heap.size B z.length (fun k => .int .i64 (gi z k)) ∧ (z.length ≤ d ∧ (B = none → d = 0)) ∧ Below w.heap.size w w' := by
  obtain ⟨A, c, B, d, h1, h2, h3, _, h5⟩ := h
  exact ⟨A, c, B, d, h1, or_row h2, or_capn h2, or_row h3, or_capn h3, h5⟩

set_option maxHeartbeats 16000000 in
theorem walkLocks (E : E6) (A : Option Addr) (k c : Nat) (b : Nat → Int) (w : World) (hE : Errs E w) (hU : Unf E w) (h : Sl w 0 w.heap.size A k (fun j => .int .u8 (b j))) (hb : ∀ j, 0 ≤ b j ∧ b j ≤ 255) (hk : k ≤ 1048576) :
    Calls Tryd.prog 3 #[.slice A k c] w fun e w' => e = .returned (.bool true) ∧ Below w.heap.size w w' := by
  have H := Lib.hid h
  have HBY := Lib.hid hb
  have HE := Lib.hid (show ∀ W, Below w.heap.size w W → Errs E W ∧ Unf E W from fun W hW => ⟨hE.below hW, hU.below hW⟩)
  have HC : Hid (∀ W, Below w.heap.size w W → Sl W 0 w.heap.size A k (fun j => .int .u8 (b j))) := fun W hW => H.out.below hW (Nat.le_refl _)
  have B0 : Hid (Below w.heap.size w w) := Below.refl _ _
  clear h hb hE hU
  go_enter Tryd.func3, Tryd.ntmps3
  go_wp2_with fail
  refine (lwBig_any A k c w).mono ?_
  rintro e w' ⟨rfl, rfl⟩
  go_wp2_with fail
  refine (DrawTakeLock_any 0 w.heap.size A k c b w hk HBY.out (HC.out w B0.out)).mono ?_
  rintro e w1 ⟨lT, XT, mT, eT, xT, iT, rfl, hx, hm, hor, hb⟩
  subst hx
  have SXT := Lib.hid (or_row hor)
  have CXT := Lib.hid (or_capn hor)
  have NXT := Lib.hid hm
  have BBw1 := Lib.hid hb
  clear hor hm hb
  obtain ⟨w2, hw2⟩ : ∃ w2, w2 = w1.alloc (.cells #[.int .i64 lT, .slice XT xT.length eT] 26) := ⟨_, rfl⟩
  have KXT : Hid (w2.heap[w1.heap.size]? = some (.cells #[.int .i64 lT, .slice XT xT.length eT] 26 (0, 0))) := by show _ = _; rw [hw2]; exact heap_alloc_new w1 _
  have BNw2 : Hid (Below w1.heap.size w1 w2) := by rw [hw2]; exact below_new w1 _
  have ZNw2 : Hid (w2.heap.size = w1.heap.size + 1) := by show _ = _; rw [hw2]; simp
  have HW := Lib.hid hw2
  clear hw2
  have BCw2 : Hid (Below w.heap.size w w2) := BBw1.out.trans (BNw2.out.mono BBw1.out.size)
  have B2 : Hid (Below w.heap.size w w2) := B0.out.trans (BCw2.out.mono B0.out.size)
  go_upto_region 4 with (fail)
  rw [← HW.out]
  clear HW
  have r0 := cell_of_row w2 _ 0 _ _ _ KXT.out; have r1 := cell_of_row w2 _ 1 _ _ _ KXT.out
  simp at r0 r1
  obtain ⟨qT, gT, nT, oT, yT, zT, hr⟩ := six6 (take6 lT xT iT)
  have HRT := Lib.hid hr
  have C := implTakeLock_any E w.heap.size w1.heap.size XT xT.length eT lT xT iT w2 (HE.out w2 B2.out).1 (HE.out w2 B2.out).2 (by have := NXT.out; omega) CXT.out.1 rfl CXT.out.2 (SXT.out.below BNw2.out (Nat.le_refl _))
  rw [hr] at C
  clear hr
  go_wp2_with fail
  refine C.mono ?_
  rintro e w3 hla
  obtain ⟨YT, cT, ZT, ddT, rfl, hy, hyc, hz, hzc, hb⟩ := hla.open6
  have SYT := Lib.hid hy
  have CYT := Lib.hid hyc
  have BBw3 := Lib.hid hb
  clear hy hyc hz hzc hb hla C r0 r1
  obtain ⟨w4, hw4⟩ : ∃ w4, w4 = w3.alloc (.cells #[.int .i64 qT, .bool gT, .int .i64 nT, .int .i64 oT, .slice YT yT.length cT, .slice ZT zT.length ddT] 30) := ⟨_, rfl⟩
  have KT : Hid (w4.heap[w3.heap.size]? = some (.cells #[.int .i64 qT, .bool gT, .int .i64 nT, .int .i64 oT, .slice YT yT.length cT, .slice ZT zT.length ddT] 30 (0, 0))) := by show _ = _; rw [hw4]; exact heap_alloc_new w3 _
  have BNw4 : Hid (Below w3.heap.size w3 w4) := by rw [hw4]; exact below_new w3 _
  have ZNw4 : Hid (w4.heap.size = w3.heap.size + 1) := by show _ = _; rw [hw4]; simp
  have HW := Lib.hid hw4
  clear hw4
  have BCw4 : Hid (Below w2.heap.size w2 w4) := BBw3.out.trans (BNw4.out.mono BBw3.out.size)
  have B4 : Hid (Below w.heap.size w w4) := B2.out.trans (BCw4.out.mono B2.out.size)
  go_upto_region 5 with (fail)
  rw [← HW.out]
  clear HW
  go_wp2_with fail
  refine (DrawPassLock_any 0 w.heap.size A k c b w4 hk HBY.out (HC.out w4 B4.out)).mono ?_
  rintro e w5 ⟨lP, XP, mP, eP, xP, iP, rfl, hx, hm, hor, hb⟩
  subst hx
  have SXP := Lib.hid (or_row hor)
  have CXP := Lib.hid (or_capn hor)
  have NXP := Lib.hid hm
  have BBw5 := Lib.hid hb
  clear hor hm hb
  obtain ⟨w6, hw6⟩ : ∃ w6, w6 = w5.alloc (.cells #[.int .i64 lP, .slice XP xP.length eP] 26) := ⟨_, rfl⟩
  have KXP : Hid (w6.heap[w5.heap.size]? = some (.cells #[.int .i64 lP, .slice XP xP.length eP] 26 (0, 0))) := by show _ = _; rw [hw6]; exact heap_alloc_new w5 _
  have BNw6 : Hid (Below w5.heap.size w5 w6) := by rw [hw6]; exact below_new w5 _
  have ZNw6 : Hid (w6.heap.size = w5.heap.size + 1) := by show _ = _; rw [hw6]; simp
  have HW := Lib.hid hw6
  clear hw6
  have BCw6 : Hid (Below w4.heap.size w4 w6) := BBw5.out.trans (BNw6.out.mono BBw5.out.size)
  have B6 : Hid (Below w.heap.size w w6) := B4.out.trans (BCw6.out.mono B4.out.size)
  go_upto_region 6 with (fail)
  rw [← HW.out]
  clear HW
  have r0 := cell_of_row w6 _ 0 _ _ _ KXP.out; have r1 := cell_of_row w6 _ 1 _ _ _ KXP.out
  simp at r0 r1
  obtain ⟨qP, gP, nP, oP, yP, zP, hr⟩ := six6 (pass6 lP xP iP)
  have HRP := Lib.hid hr
  have C := implPassLock_any E w4.heap.size w5.heap.size XP xP.length eP lP xP iP w6 (HE.out w6 B6.out).1 (HE.out w6 B6.out).2 (by have := NXP.out; omega) CXP.out.1 rfl CXP.out.2 (SXP.out.below BNw6.out (Nat.le_refl _))
  rw [hr] at C
  clear hr
  go_wp2_with fail
  refine C.mono ?_
  rintro e w7 hla
  obtain ⟨YP, cP, ZP, ddP, rfl, hy, hyc, hz, hzc, hb⟩ := hla.open6
  have SYP := Lib.hid hy
  have CYP := Lib.hid hyc
  have BBw7 := Lib.hid hb
  clear hy hyc hz hzc hb hla C r0 r1
  obtain ⟨w8, hw8⟩ : ∃ w8, w8 = w7.alloc (.cells #[.int .i64 qP, .bool gP, .int .i64 nP, .int .i64 oP, .slice YP yP.length cP, .slice ZP zP.length ddP] 30) := ⟨_, rfl⟩
  have KP : Hid (w8.heap[w7.heap.size]? = some (.cells #[.int .i64 qP, .bool gP, .int .i64 nP, .int .i64 oP, .slice YP yP.length cP, .slice ZP zP.length ddP] 30 (0, 0))) := by show _ = _; rw [hw8]; exact heap_alloc_new w7 _
  have BNw8 : Hid (Below w7.heap.size w7 w8) := by rw [hw8]; exact below_new w7 _
  have ZNw8 : Hid (w8.heap.size = w7.heap.size + 1) := by show _ = _; rw [hw8]; simp
  have HW := Lib.hid hw8
  clear hw8
  have BCw8 : Hid (Below w6.heap.size w6 w8) := BBw7.out.trans (BNw8.out.mono BBw7.out.size)
  have B8 : Hid (Below w.heap.size w w8) := B6.out.trans (BCw8.out.mono B6.out.size)
  go_upto_region 7 with (fail)
  rw [← HW.out]
  clear HW
  go_wp2_with fail
  refine (DrawSameLocks_any 0 w.heap.size A k c b w8 hk HBY.out (HC.out w8 B8.out)).mono ?_
  rintro e w9 ⟨la, Xa, ma, ea, xa, lb, Xb, mb, eb, xb, rfl, hxa, hma, hxb, hmb, hoa, hob, hb⟩
  subst hxa hxb
  have SXa := Lib.hid (or_row hoa)
  have CXa := Lib.hid (or_capn hoa)
  have NXa := Lib.hid hma
  have SXb := Lib.hid (or_row hob)
  have CXb := Lib.hid (or_capn hob)
  have NXb := Lib.hid hmb
  have BBw9 := Lib.hid hb
  clear hoa hob hma hmb hb
  obtain ⟨w11, hw11⟩ : ∃ w11, w11 = (w9.alloc (.cells #[.int .i64 la, .slice Xa xa.length ea] 26)).alloc (.cells #[.int .i64 lb, .slice Xb xb.length eb] 26) := ⟨_, rfl⟩
  have KXa : Hid (w11.heap[w9.heap.size]? = some (.cells #[.int .i64 la, .slice Xa xa.length ea] 26 (0, 0))) := by show _ = _; rw [hw11]; exact heap_alloc2_old w9 _ _
  have KXb : Hid (w11.heap[w9.heap.size + 1]? = some (.cells #[.int .i64 lb, .slice Xb xb.length eb] 26 (0, 0))) := by show _ = _; rw [hw11]; exact heap_alloc2_new w9 _ _
  have BNw11 : Hid (Below w9.heap.size w9 w11) := by rw [hw11]; exact (below_new w9 _).alloc (by simp) _
  have ZNw11 : Hid (w11.heap.size = w9.heap.size + 2) := by show _ = _; rw [hw11]; simp
  have HW := Lib.hid hw11
  clear hw11
  have BCw11 : Hid (Below w8.heap.size w8 w11) := BBw9.out.trans (BNw11.out.mono BBw9.out.size)
  have B11 : Hid (Below w.heap.size w w11) := B8.out.trans (BCw11.out.mono B8.out.size)
  go_upto_region 8 with (fail)
  rw [← HW.out]
  clear HW
  have D6 : Hid (Below w6.heap.size w6 w11) := BCw8.out.trans (BCw11.out.mono BCw8.out.size)
  have D4 : Hid (Below w4.heap.size w4 w11) := BCw6.out.trans (D6.out.mono BCw6.out.size)
  have D2 : Hid (Below w2.heap.size w2 w11) := BCw4.out.trans (D4.out.mono BCw4.out.size)
  have LT : Hid (w1.heap.size < w2.heap.size ∧ w2.heap.size ≤ w3.heap.size ∧ w3.heap.size < w4.heap.size ∧ w4.heap.size ≤ w5.heap.size ∧ w5.heap.size < w6.heap.size ∧ w6.heap.size ≤ w7.heap.size ∧ w7.heap.size < w8.heap.size ∧ w8.heap.size ≤ w9.heap.size ∧ w9.heap.size + 1 < w11.heap.size) :=
    ⟨by have := ZNw2.out; omega, BBw3.out.size, by have := ZNw4.out; omega, BBw5.out.size, by have := ZNw6.out; omega, BBw7.out.size, by have := ZNw8.out; omega, BBw9.out.size, by have := ZNw11.out; omega⟩
  have KK : Hid (∀ W, Below w11.heap.size w11 W → W.heap[w1.heap.size]? = some (.cells #[.int .i64 lT, .slice XT xT.length eT] 26 (0, 0)) ∧ W.heap[w3.heap.size]? = some (.cells #[.int .i64 qT, .bool gT, .int .i64 nT, .int .i64 oT, .slice YT yT.length cT, .slice ZT zT.length ddT] 30 (0, 0)) ∧ W.heap[w5.heap.size]? = some (.cells #[.int .i64 lP, .slice XP xP.length eP] 26 (0, 0)) ∧ W.heap[w7.heap.size]? = some (.cells #[.int .i64 qP, .bool gP, .int .i64 nP, .int .i64 oP, .slice YP yP.length cP, .slice ZP zP.length ddP] 30 (0, 0)) ∧
      W.heap[w9.heap.size]? = some (.cells #[.int .i64 la, .slice Xa xa.length ea] 26 (0, 0)) ∧ W.heap[w9.heap.size + 1]? = some (.cells #[.int .i64 lb, .slice Xb xb.length eb] 26 (0, 0))) := fun W hW => by
    obtain ⟨l1, l2, l3, l4, l5, l6, l7, l8, l9⟩ := LT.out
    exact ⟨(hW.block _ (by omega)).trans ((D2.out.block _ (by omega)).trans KXT.out), (hW.block _ (by omega)).trans ((D4.out.block _ (by omega)).trans KT.out), (hW.block _ (by omega)).trans ((D6.out.block _ (by omega)).trans KXP.out), (hW.block _ (by omega)).trans ((BCw11.out.block _ (by omega)).trans KP.out), (hW.block _ (by omega)).trans KXa.out, (hW.block _ (by omega)).trans KXb.out⟩
  have RR : Hid (∀ W, Below w11.heap.size w11 W → Sl W 0 w11.heap.size XT xT.length (fun k => .int .i64 (gi xT k)) ∧ Sl W 0 w11.heap.size YT yT.length (fun k => .int .i64 (gi yT k)) ∧ Sl W 0 w11.heap.size XP xP.length (fun k => .int .i64 (gi xP k)) ∧ Sl W 0 w11.heap.size YP yP.length (fun k => .int .i64 (gi yP k)) ∧ Sl W 0 w11.heap.size Xa xa.length (fun k => .int .i64 (gi xa k)) ∧ Sl W 0 w11.heap.size Xb xb.length (fun k => .int .i64 (gi xb k))) := fun W hW => by
    obtain ⟨l1, l2, l3, l4, l5, l6, l7, l8, l9⟩ := LT.out
    exact ⟨(((SXT.out.below BNw2.out (Nat.le_refl _)).below D2.out (by omega)).below hW (by omega)).wide (Nat.zero_le _) (by omega), (((SYT.out.below BNw4.out (Nat.le_refl _)).below D4.out (by omega)).below hW (by omega)).wide (Nat.zero_le _) (by omega), (((SXP.out.below BNw6.out (Nat.le_refl _)).below D6.out (by omega)).below hW (by omega)).wide (Nat.zero_le _) (by omega), (((SYP.out.below BNw8.out (Nat.le_refl _)).below BCw11.out (by omega)).below hW (by omega)).wide (Nat.zero_le _) (by omega),
      ((SXa.out.below BNw11.out (Nat.le_refl _)).below hW (by omega)).wide (Nat.zero_le _) (by omega), ((SXb.out.below BNw11.out (Nat.le_refl _)).below hW (by omega)).wide (Nat.zero_le _) (by omega)⟩
  have GE : Hid (∀ W, Below w11.heap.size w11 W → Errs E W ∧ Unf E W) := fun W hW => HE.out W (B11.out.trans (hW.mono B11.out.size))
  have SMT : Hid (yT.length ≤ 1048577) := by have := (take6_len lT xT iT xT.length (by have := NXT.out; omega) rfl).1; rw [HRT.out] at this; exact this
  have SMP : Hid (yP.length ≤ 1048577) := by have := (pass6_len lP xP iP xP.length (by have := NXP.out; omega) rfl).1; rw [HRP.out] at this; exact this
  clear B0 B2 B4 B6 B8 BCw2 BCw4 BCw6 BCw8 BCw11 D6 D4 D2 BBw1 BBw3 BBw5 BBw7 BBw9 BNw2 BNw4 BNw6 BNw8 BNw11 ZNw2 ZNw4 ZNw6 ZNw8 ZNw11 KXT KT KXP KP KXa KXb SXT SYT SXP SYP SXa SXb HC HE H HBY
  obtain ⟨zab, hz⟩ : ∃ zab, decide (la = lb ∧ xa = xb) = zab := ⟨_, rfl⟩
  have HZ := Lib.hid hz
  clear hz
  go_cut [115] from 14 (fun s wx => s = .bool false ∧ Below w11.heap.size w11 wx)
  case first =>
    focus
      have KS : Hid (∀ W, Below w11.heap.size w11 W → (W.cell? ⟨w1.heap.size, 0, none⟩ = some (.int .i64 lT) ∧ W.cell? ⟨w1.heap.size, 1, none⟩ = some (.slice XT xT.length eT) ∧ W.cell? ⟨w3.heap.size, 0, none⟩ = some (.int .i64 qT) ∧ W.cell? ⟨w3.heap.size, 1, none⟩ = some (.bool gT) ∧ W.cell? ⟨w3.heap.size, 2, none⟩ = some (.int .i64 nT) ∧ W.cell? ⟨w3.heap.size, 3, none⟩ = some (.int .i64 oT) ∧ W.cell? ⟨w3.heap.size, 4, none⟩ = some (.slice YT yT.length cT) ∧ W.cell? ⟨w5.heap.size, 0, none⟩ = some (.int .i64 lP) ∧ W.cell? ⟨w5.heap.size, 1, none⟩ = some (.slice XP xP.length eP) ∧ W.cell? ⟨w7.heap.size, 0, none⟩ = some (.int .i64 qP) ∧ W.cell? ⟨w7.heap.size, 2, none⟩ = some (.int .i64 nP) ∧ W.cell? ⟨w7.heap.size, 3, none⟩ = some (.int .i64 oP) ∧ W.cell? ⟨w7.heap.size, 4, none⟩ = some (.slice YP yP.length cP) ∧ W.cell? ⟨w9.heap.size, 0, none⟩ = some (.int .i64 la) ∧ W.cell? ⟨w9.heap.size, 1, none⟩ = some (.slice Xa xa.length ea) ∧ W.cell? ⟨w9.heap.size + 1, 0, none⟩ = some (.int .i64 lb) ∧ W.cell? ⟨w9.heap.size + 1, 1, none⟩ = some (.slice Xb xb.length eb) ∧ Below w11.heap.size w11 W)) := fun W hB => by
        obtain ⟨k1, k2, k3, k4, k5, k6⟩ := KK.out W hB
        exact ⟨cell_of_row W _ 0 _ _ _ k1, cell_of_row W _ 1 _ _ _ k1, cell_of_row W _ 0 _ _ _ k2, cell_of_row W _ 1 _ _ _ k2, cell_of_row W _ 2 _ _ _ k2, cell_of_row W _ 3 _ _ _ k2, cell_of_row W _ 4 _ _ _ k2, cell_of_row W _ 0 _ _ _ k3, cell_of_row W _ 1 _ _ _ k3, cell_of_row W _ 0 _ _ _ k4, cell_of_row W _ 2 _ _ _ k4, cell_of_row W _ 3 _ _ _ k4, cell_of_row W _ 4 _ _ _ k4, cell_of_row W _ 0 _ _ _ k5, cell_of_row W _ 1 _ _ _ k5, cell_of_row W _ 0 _ _ _ k6, cell_of_row W _ 1 _ _ _ k6, hB⟩
      have PS : Hid (∀ W, (W.cell? ⟨w1.heap.size, 0, none⟩ = some (.int .i64 lT) ∧ W.cell? ⟨w1.heap.size, 1, none⟩ = some (.slice XT xT.length eT) ∧ W.cell? ⟨w3.heap.size, 0, none⟩ = some (.int .i64 qT) ∧ W.cell? ⟨w3.heap.size, 1, none⟩ = some (.bool gT) ∧ W.cell? ⟨w3.heap.size, 2, none⟩ = some (.int .i64 nT) ∧ W.cell? ⟨w3.heap.size, 3, none⟩ = some (.int .i64 oT) ∧ W.cell? ⟨w3.heap.size, 4, none⟩ = some (.slice YT yT.length cT) ∧ W.cell? ⟨w5.heap.size, 0, none⟩ = some (.int .i64 lP) ∧ W.cell? ⟨w5.heap.size, 1, none⟩ = some (.slice XP xP.length eP) ∧ W.cell? ⟨w7.heap.size, 0, none⟩ = some (.int .i64 qP) ∧ W.cell? ⟨w7.heap.size, 2, none⟩ = some (.int .i64 nP) ∧ W.cell? ⟨w7.heap.size, 3, none⟩ = some (.int .i64 oP) ∧ W.cell? ⟨w7.heap.size, 4, none⟩ = some (.slice YP yP.length cP) ∧ W.cell? ⟨w9.heap.size, 0, none⟩ = some (.int .i64 la) ∧ W.cell? ⟨w9.heap.size, 1, none⟩ = some (.slice Xa xa.length ea) ∧ W.cell? ⟨w9.heap.size + 1, 0, none⟩ = some (.int .i64 lb) ∧ W.cell? ⟨w9.heap.size + 1, 1, none⟩ = some (.slice Xb xb.length eb) ∧ Below w11.heap.size w11 W) → Below w11.heap.size w11 W) := fun W h => h.2.2.2.2.2.2.2.2.2.2.2.2.2.2.2.2.2
    have AT : Hid (∀ W, Below w11.heap.size w11 W → Calls Tryd.prog 11 #[.agg #[.int .i64 lT, .slice XT xT.length eT], .int .i64 iT] W fun e w' => ∃ A c B d, e = .returned (.agg #[.int .i64 qT, .bool gT, .int .i64 nT, .int .i64 oT, .slice A yT.length c, .slice B zT.length d]) ∧ (Sl w' 0 w'.heap.size A yT.length (fun k => .int .i64 (gi yT k)) ∧ Sl w' 0 w'.heap.size B zT.length (fun k => .int .i64 (gi zT k))) ∧ Below w11.heap.size w11 w') := fun W hB => by
      have C := specTakeLock_any 0 w11.heap.size XT xT.length eT lT xT iT W (by have := NXT.out; omega) CXT.out.1 rfl CXT.out.2 (RR.out W hB).1
      rw [HRT.out] at C
      refine C.mono fun e w' hla => ?_
      obtain ⟨A, c, B, d, h1, h2, _, h3, _, h5⟩ := hla.open6
      exact ⟨A, c, B, d, h1, ⟨h2.wide (Nat.zero_le _) (Nat.le_refl _), h3.wide (Nat.zero_le _) (Nat.le_refl _)⟩, hB.trans (h5.mono hB.size)⟩
    have AP : Hid (∀ W, Below w11.heap.size w11 W → Calls Tryd.prog 13 #[.agg #[.int .i64 lP, .slice XP xP.length eP], .int .i64 iP] W fun e w' => ∃ A c B d, e = .returned (.agg #[.int .i64 qP, .bool gP, .int .i64 nP, .int .i64 oP, .slice A yP.length c, .slice B zP.length d]) ∧ (Sl w' 0 w'.heap.size A yP.length (fun k => .int .i64 (gi yP k)) ∧ Sl w' 0 w'.heap.size B zP.length (fun k => .int .i64 (gi zP k))) ∧ Below w11.heap.size w11 w') := fun W hB => by
      have C := specPassLock_any 0 w11.heap.size XP xP.length eP lP xP iP W (by have := NXP.out; omega) CXP.out.1 rfl CXP.out.2 (RR.out W hB).2.2.1
      rw [HRP.out] at C
      refine C.mono fun e w' hla => ?_
      obtain ⟨A, c, B, d, h1, h2, _, h3, _, h5⟩ := hla.open6
      exact ⟨A, c, B, d, h1, ⟨h2.wide (Nat.zero_le _) (Nat.le_refl _), h3.wide (Nat.zero_le _) (Nat.le_refl _)⟩, hB.trans (h5.mono hB.size)⟩
    have ST : Hid (∀ W A c, Sl W 0 W.heap.size A yT.length (fun k => .int .i64 (gi yT k)) → Below w11.heap.size w11 W → Calls Tryd.prog 12 #[.agg #[.int .i64 oT, .slice YT yT.length cT], .agg #[.int .i64 oT, .slice A yT.length c]] W fun e w' => e = .returned (.bool true) ∧ Below w11.heap.size w11 w') := fun W A c hs hB => by
      have C := implSameLocks_any 0 w11.heap.size 0 W.heap.size YT A yT.length cT yT.length c oT oT yT yT W (by have := SMT.out; omega) rfl rfl (RR.out W hB).2.1 hs
      exact C.mono fun e w' ⟨h1, h2⟩ => ⟨by rw [h1]; simp, hB.trans (h2.mono hB.size)⟩
    have SP : Hid (∀ W A c, Sl W 0 W.heap.size A yP.length (fun k => .int .i64 (gi yP k)) → Below w11.heap.size w11 W → Calls Tryd.prog 12 #[.agg #[.int .i64 oP, .slice YP yP.length cP], .agg #[.int .i64 oP, .slice A yP.length c]] W fun e w' => e = .returned (.bool true) ∧ Below w11.heap.size w11 w') := fun W A c hs hB => by
      have C := implSameLocks_any 0 w11.heap.size 0 W.heap.size YP A yP.length cP yP.length c oP oP yP yP W (by have := SMP.out; omega) rfl rfl (RR.out W hB).2.2.2.1 hs
      exact C.mono fun e w' ⟨h1, h2⟩ => ⟨by rw [h1]; simp, hB.trans (h2.mono hB.size)⟩
    have SAimpl : Hid (∀ W, Below w11.heap.size w11 W → Calls Tryd.prog 12 #[.agg #[.int .i64 la, .slice Xa xa.length ea], .agg #[.int .i64 lb, .slice Xb xb.length eb]] W fun e w' => e = .returned (.bool zab) ∧ Below w11.heap.size w11 w') := fun W hB => by
      have C := implSameLocks_any 0 w11.heap.size 0 w11.heap.size Xa Xb xa.length ea xb.length eb la lb xa xb W (by have := NXa.out; omega) rfl rfl (RR.out W hB).2.2.2.2.1 (RR.out W hB).2.2.2.2.2
      rw [HZ.out] at C
      exact C.mono fun e w' ⟨h1, h2⟩ => ⟨h1, hB.trans (h2.mono hB.size)⟩
    have SAspec : Hid (∀ W, Below w11.heap.size w11 W → Calls Tryd.prog 14 #[.agg #[.int .i64 la, .slice Xa xa.length ea], .agg #[.int .i64 lb, .slice Xb xb.length eb]] W fun e w' => e = .returned (.bool zab) ∧ Below w11.heap.size w11 w') := fun W hB => by
      have C := specSameLocks_any 0 w11.heap.size 0 w11.heap.size Xa Xb xa.length ea xb.length eb la lb xa xb W (by have := NXa.out; omega) rfl rfl (RR.out W hB).2.2.2.2.1 (RR.out W hB).2.2.2.2.2
      rw [HZ.out] at C
      exact C.mono fun e w' ⟨h1, h2⟩ => ⟨h1, hB.trans (h2.mono hB.size)⟩
    have LI : Hid (∀ W, Below w11.heap.size w11 W → Calls Tryd.prog 15 #[.agg #[.int .i64 lT, .slice XT xT.length eT]] W fun e w' => e = .returned (.int .i64 (lf6 lT xT)) ∧ Below w11.heap.size w11 w') := fun W hB => by
      have C := implLockFault_any E 0 w11.heap.size XT xT.length eT lT xT W (GE.out W hB).1 (GE.out W hB).2 (by have := NXT.out; omega) CXT.out.1 rfl (RR.out W hB).1
      exact C.mono fun e w' ⟨h1, h2⟩ => ⟨h1, hB.trans (h2.mono hB.size)⟩
    have LS : Hid (∀ W, Below w11.heap.size w11 W → Calls Tryd.prog 16 #[.agg #[.int .i64 lT, .slice XT xT.length eT]] W fun e w' => e = .returned (.int .i64 (lf6 lT xT)) ∧ Below w11.heap.size w11 w') := fun W hB => by
      have C := specLockFault_any 0 w11.heap.size XT xT.length eT lT xT W (by have := NXT.out; omega) CXT.out.1 rfl (RR.out W hB).1
      exact C.mono fun e w' ⟨h1, h2⟩ => ⟨h1, hB.trans (h2.mono hB.size)⟩
    have f0 := run_lr0
    have f1 := run_lr1
    have f2 := run_lr2
    have f3 := run_lr3
    have na1 := Below.refl w11.heap.size w11
    simp only [List.append]
    go_region_held3 (fun W => W.cell? ⟨w1.heap.size, 0, none⟩ = some (.int .i64 lT) ∧ W.cell? ⟨w1.heap.size, 1, none⟩ = some (.slice XT xT.length eT) ∧ W.cell? ⟨w3.heap.size, 0, none⟩ = some (.int .i64 qT) ∧ W.cell? ⟨w3.heap.size, 1, none⟩ = some (.bool gT) ∧ W.cell? ⟨w3.heap.size, 2, none⟩ = some (.int .i64 nT) ∧ W.cell? ⟨w3.heap.size, 3, none⟩ = some (.int .i64 oT) ∧ W.cell? ⟨w3.heap.size, 4, none⟩ = some (.slice YT yT.length cT) ∧ W.cell? ⟨w5.heap.size, 0, none⟩ = some (.int .i64 lP) ∧ W.cell? ⟨w5.heap.size, 1, none⟩ = some (.slice XP xP.length eP) ∧ W.cell? ⟨w7.heap.size, 0, none⟩ = some (.int .i64 qP) ∧ W.cell? ⟨w7.heap.size, 2, none⟩ = some (.int .i64 nP) ∧ W.cell? ⟨w7.heap.size, 3, none⟩ = some (.int .i64 oP) ∧ W.cell? ⟨w7.heap.size, 4, none⟩ = some (.slice YP yP.length cP) ∧ W.cell? ⟨w9.heap.size, 0, none⟩ = some (.int .i64 la) ∧ W.cell? ⟨w9.heap.size, 1, none⟩ = some (.slice Xa xa.length ea) ∧ W.cell? ⟨w9.heap.size + 1, 0, none⟩ = some (.int .i64 lb) ∧ W.cell? ⟨w9.heap.size + 1, 1, none⟩ = some (.slice Xb xb.length eb) ∧ Below w11.heap.size w11 W) (first | with_reducible exact KS.out _ (by assumption) | exact KS.out _ (Below.drew na1)) (first | (go_at_call 11; with_reducible refine (AT.out _ (PS.out _ (by assumption))).mono ?_; rintro e w' ⟨A9, c9, B9, d9, rfl, ⟨hy9, hz9⟩, hb9⟩) | (go_at_call 13; with_reducible refine (AP.out _ (PS.out _ (by assumption))).mono ?_; rintro e w' ⟨A9, c9, B9, d9, rfl, ⟨hy9, hz9⟩, hb9⟩) | (go_at_call 12; with_reducible refine (SAimpl.out _ (PS.out _ (by assumption))).mono ?_; rintro e w' ⟨rfl, hb9⟩) | (go_at_call 12; with_reducible refine (ST.out _ _ _ (by assumption) (PS.out _ (by assumption))).mono ?_; rintro e w' ⟨rfl, hb9⟩) | (go_at_call 12; with_reducible refine (SP.out _ _ _ (by assumption) (PS.out _ (by assumption))).mono ?_; rintro e w' ⟨rfl, hb9⟩) | (go_at_call 14; with_reducible refine (SAspec.out _ (PS.out _ (by assumption))).mono ?_; rintro e w' ⟨rfl, hb9⟩) | (go_at_call 15; with_reducible refine (LI.out _ (PS.out _ (by assumption))).mono ?_; rintro e w' ⟨rfl, hb9⟩) | (go_at_call 16; with_reducible refine (LS.out _ (PS.out _ (by assumption))).mono ?_; rintro e w' ⟨rfl, hb9⟩))
    all_goals (go_wp2_with fail; go_meet; exact ⟨rfl, by assumption⟩)
  case rest =>
    obtain ⟨rfl, hbw⟩ := hcut
    go_upto_region 10 with (fail)
    go_cut [140] from 14 (fun s wx => s = .bool false ∧ Below w11.heap.size w11 wx)
    case first => as_aux_lemma =>
      by_cases hq : qT = 0
      · subst hq
        obtain ⟨t1, t2, s3, s4, s5⟩ := take6_succ (o := lT) (xs := xT) (id := iT) (by rw [HRT.out])
        rw [HRT.out] at s3 s4 s5
        have t3 : lf6 oT yT = 0 := s3
        have t4 : gT = decide (lT = -1) := s4
        have t5 : (take6 oT yT iT).1 = 6 := s5
        clear s3 s4 s5
        have AL : Hid (∀ W, Below w11.heap.size w11 W → Calls Tryd.prog 15 #[.agg #[.int .i64 oT, .slice YT yT.length cT]] W fun e w' => e = .returned (.int .i64 0) ∧ Below w11.heap.size w11 w') := fun W hB => by
          have C := implLockFault_any E 0 w11.heap.size YT yT.length cT oT yT W (GE.out W hB).1 (GE.out W hB).2 (by have := SMT.out; omega) CYT.out.1 rfl (RR.out W hB).2.1
          rw [t3] at C
          exact C.mono fun e w' ⟨h1, h2⟩ => ⟨h1, hB.trans (h2.mono hB.size)⟩
        have FEW := Lib.hid (lf6_few t3)
        obtain ⟨q9, g9, n9, o9, y9, z9, hr9⟩ := six6 (take6 oT yT iT)
        have hq9 : q9 = 6 := by rw [hr9] at t5; exact t5
        subst hq9
        have AT : Hid (∀ W, Below w11.heap.size w11 W → Calls Tryd.prog 7 #[.agg #[.int .i64 oT, .slice YT yT.length cT], .int .i64 iT] W fun e w' => ∃ A c B d, e = .returned (.agg #[.int .i64 6, .bool g9, .int .i64 n9, .int .i64 o9, .slice A y9.length c, .slice B z9.length d]) ∧ Below w11.heap.size w11 w') := fun W hB => by
          have C := implTakeLock_any E 0 w11.heap.size YT yT.length cT oT yT iT W (GE.out W hB).1 (GE.out W hB).2 (by have := FEW.out; omega) CYT.out.1 rfl CYT.out.2 (RR.out W hB).2.1
          rw [hr9] at C
          refine C.mono fun e w' hla => ?_
          obtain ⟨A, c, B, d, h1, _, _, _, _, h5⟩ := hla.open6
          exact ⟨A, c, B, d, h1, hB.trans (h5.mono hB.size)⟩
        have f0 := run_lr0
        clear t1 t2 t3 t5 hr9
        by_cases ho : lT = -1
        · have tg : gT = true := by rw [t4]; simp [ho]
          subst tg
          subst ho
          clear t4
          obtain ⟨k1, k2, _, _, _, _⟩ := KK.out wc hbw
          have r10 := cell_of_row wc _ 0 _ _ _ k1
          have r11 := cell_of_row wc _ 1 _ _ _ k1
          have r20 := cell_of_row wc _ 0 _ _ _ k2
          have r21 := cell_of_row wc _ 1 _ _ _ k2
          have r22 := cell_of_row wc _ 2 _ _ _ k2
          have r23 := cell_of_row wc _ 3 _ _ _ k2
          have r24 := cell_of_row wc _ 4 _ _ _ k2
          simp at r10 r11 r20 r21 r22 r23 r24
          clear k1 k2
          go_wp2_with fail
          with_reducible refine (AL.out wc hbw).mono ?_
          rintro e w20 ⟨rfl, hb20⟩
          obtain ⟨k1, k2, _, _, _, _⟩ := KK.out w20 hb20
          have r10 := cell_of_row w20 _ 0 _ _ _ k1
          have r11 := cell_of_row w20 _ 1 _ _ _ k1
          have r20 := cell_of_row w20 _ 0 _ _ _ k2
          have r21 := cell_of_row w20 _ 1 _ _ _ k2
          have r22 := cell_of_row w20 _ 2 _ _ _ k2
          have r23 := cell_of_row w20 _ 3 _ _ _ k2
          have r24 := cell_of_row w20 _ 4 _ _ _ k2
          simp at r10 r11 r20 r21 r22 r23 r24
          clear k1 k2
          dsimp only
          go_wp2_with fail
          with_reducible refine (AT.out w20 hb20).mono ?_
          rintro e w21 ⟨A9, c9, B9, d9, rfl, hb21⟩
          dsimp only
          go_wp2_with fail
          go_meet
          exact ⟨rfl, hb21⟩
        · have tg : gT = false := by rw [t4]; simp [ho]
          subst tg
          have ho' : (lT == -1) = false := by simp [ho]
          clear t4 ho
          obtain ⟨k1, k2, _, _, _, _⟩ := KK.out wc hbw
          have r10 := cell_of_row wc _ 0 _ _ _ k1
          have r11 := cell_of_row wc _ 1 _ _ _ k1
          have r20 := cell_of_row wc _ 0 _ _ _ k2
          have r21 := cell_of_row wc _ 1 _ _ _ k2
          have r22 := cell_of_row wc _ 2 _ _ _ k2
          have r23 := cell_of_row wc _ 3 _ _ _ k2
          have r24 := cell_of_row wc _ 4 _ _ _ k2
          simp at r10 r11 r20 r21 r22 r23 r24
          clear k1 k2
          go_wp2_with fail
          with_reducible refine (AL.out wc hbw).mono ?_
          rintro e w20 ⟨rfl, hb20⟩
          obtain ⟨k1, k2, _, _, _, _⟩ := KK.out w20 hb20
          have r10 := cell_of_row w20 _ 0 _ _ _ k1
          have r11 := cell_of_row w20 _ 1 _ _ _ k1
          have r20 := cell_of_row w20 _ 0 _ _ _ k2
          have r21 := cell_of_row w20 _ 1 _ _ _ k2
          have r22 := cell_of_row w20 _ 2 _ _ _ k2
          have r23 := cell_of_row w20 _ 3 _ _ _ k2
          have r24 := cell_of_row w20 _ 4 _ _ _ k2
          simp at r10 r11 r20 r21 r22 r23 r24
          clear k1 k2
          dsimp only
          go_wp2_with fail
          with_reducible refine (AT.out w20 hb20).mono ?_
          rintro e w21 ⟨A9, c9, B9, d9, rfl, hb21⟩
          dsimp only
          go_wp2_with fail
          go_meet
          exact ⟨rfl, hb21⟩
      · have hq' : (qT == 0) = false := by simp [hq]
        obtain ⟨_, k2, _, _, _, _⟩ := KK.out wc hbw
        have r20 := cell_of_row wc _ 0 _ _ _ k2
        have r21 := cell_of_row wc _ 1 _ _ _ k2
        have r22 := cell_of_row wc _ 2 _ _ _ k2
        have r23 := cell_of_row wc _ 3 _ _ _ k2
        have r24 := cell_of_row wc _ 4 _ _ _ k2
        simp at r20 r21 r22 r23 r24
        clear k2
        go_wp2_with fail
        go_meet
        exact ⟨rfl, hbw⟩
    case rest =>
      obtain ⟨rfl, hbw⟩ := hcut
      by_cases hq : qP = 0
      rotate_left
      · have hq' : (qP != 0) = true := by simp [hq]
        obtain ⟨_, _, _, k4, _, _⟩ := KK.out wc hbw
        have r40 := cell_of_row wc _ 0 _ _ _ k4
        have r42 := cell_of_row wc _ 2 _ _ _ k4
        have r43 := cell_of_row wc _ 3 _ _ _ k4
        have r44 := cell_of_row wc _ 4 _ _ _ k4
        simp at r40 r42 r43 r44
        clear k4
        go_wp2_with fail
        go_ret
        exact ⟨rfl, B11.out.trans (hbw.mono B11.out.size)⟩
      subst hq
      obtain ⟨t1, t2, t3, t4, t5, t6⟩ := pass6_succ (o := lP) (xs := xP) (id := iP) (by rw [HRP.out])
      rw [HRP.out] at t4 t5 t6
      have u4 : lf6 oP yP = 0 := t4
      have u5 : oP = nP := t5
      have u6 : (pass6 oP yP iP).1 = 7 := t6
      clear t4 t5 t6
      subst u5
      have LFX := Lib.hid t1
      have AL : Hid (∀ W, Below w11.heap.size w11 W → Calls Tryd.prog 15 #[.agg #[.int .i64 oP, .slice YP yP.length cP]] W fun e w' => e = .returned (.int .i64 0) ∧ Below w11.heap.size w11 w') := fun W hB => by
        have C := implLockFault_any E 0 w11.heap.size YP yP.length cP oP yP W (GE.out W hB).1 (GE.out W hB).2 (by have := SMP.out; omega) CYP.out.1 rfl (RR.out W hB).2.2.2.1
        rw [u4] at C
        exact C.mono fun e w' ⟨h1, h2⟩ => ⟨h1, hB.trans (h2.mono hB.size)⟩
      have FEW := Lib.hid (lf6_few u4)
      obtain ⟨q9, g9, n9, o9, y9, z9, hr9⟩ := six6 (pass6 oP yP iP)
      have hq9 : q9 = 7 := by rw [hr9] at u6; exact u6
      subst hq9
      have AT : Hid (∀ W, Below w11.heap.size w11 W → Calls Tryd.prog 9 #[.agg #[.int .i64 oP, .slice YP yP.length cP], .int .i64 iP] W fun e w' => ∃ A c B d, e = .returned (.agg #[.int .i64 7, .bool g9, .int .i64 n9, .int .i64 o9, .slice A y9.length c, .slice B z9.length d]) ∧ Below w11.heap.size w11 w') := fun W hB => by
        have C := implPassLock_any E 0 w11.heap.size YP yP.length cP oP yP iP W (GE.out W hB).1 (GE.out W hB).2 (by have := FEW.out; omega) CYP.out.1 rfl CYP.out.2 (RR.out W hB).2.2.2.1
        rw [hr9] at C
        refine C.mono fun e w' hla => ?_
        obtain ⟨A, c, B, d, h1, _, _, _, _, h5⟩ := hla.open6
        exact ⟨A, c, B, d, h1, hB.trans (h5.mono hB.size)⟩
      have f0 := run_lr0
      clear t1 t2 t3 u4 u6 hr9
      obtain ⟨_, _, _, k4, _, _⟩ := KK.out wc hbw
      have r40 := cell_of_row wc _ 0 _ _ _ k4
      have r42 := cell_of_row wc _ 2 _ _ _ k4
      have r43 := cell_of_row wc _ 3 _ _ _ k4
      have r44 := cell_of_row wc _ 4 _ _ _ k4
      simp at r40 r42 r43 r44
      clear k4
      go_wp2_with fail
      with_reducible refine (AL.out wc hbw).mono ?_
      rintro e w20 ⟨rfl, hb20⟩
      obtain ⟨_, _, _, k4, _, _⟩ := KK.out w20 hb20
      have r40 := cell_of_row w20 _ 0 _ _ _ k4
      have r42 := cell_of_row w20 _ 2 _ _ _ k4
      have r43 := cell_of_row w20 _ 3 _ _ _ k4
      have r44 := cell_of_row w20 _ 4 _ _ _ k4
      simp at r40 r42 r43 r44
      clear k4
      dsimp only
      go_wp2_with fail
      with_reducible refine (AT.out w20 hb20).mono ?_
      rintro e w21 ⟨A9, c9, B9, d9, rfl, hb21⟩
      dsimp only
      clear AT AL
      obtain ⟨_, _, k3, _, _, _⟩ := KK.out w21 hb21
      have r30 := cell_of_row w21 _ 0 _ _ _ k3
      have r31 := cell_of_row w21 _ 1 _ _ _ k3
      simp at r30 r31
      clear k3
      obtain ⟨_, _, sq0, _⟩ := RR.out w21 hb21
      obtain ⟨v1, hv1⟩ : ∃ v1, v1 = w21.alloc (.cells #[.int .i64 lP, .slice XP xP.length eP] 26) := ⟨_, rfl⟩
      have KV : Hid (v1.heap[w21.heap.size]? = some (.cells #[.int .i64 lP, .slice XP xP.length eP] 26 (0, 0))) := by show _ = _; rw [hv1]; exact heap_alloc_new w21 _
      have BV : Hid (Below w21.heap.size w21 v1) := by rw [hv1]; exact below_new w21 _
      have B0 := Lib.hid hb21
      have SQ0 := Lib.hid sq0
      have HV := Lib.hid hv1
      clear hbw hb20 hb21 sq0 hv1
      go_upto_region 17 with (fail)
      rw [← HV.out]
      clear HV r30 r31
      go_wp2_with fail
      go_loopw [12] (fun i wr => RoundLk w21 xP i wr) (fun i _ => xP.length - (intOf i).toNat)
      case atStart =>
        refine ⟨0, lP, XP, eP, Nat.zero_le _, rfl, ⟨0, w11.heap.size, .inl B0.out.size, ?_⟩, by rw [Nat.sub_zero]; exact CXP.out, by rw [Nat.sub_zero]; exact KV.out, by rw [List.drop_zero]; exact LFX.out, BV.out⟩
        rw [List.drop_zero]
        exact SQ0.out.below BV.out B0.out.size
      case round =>
        obtain ⟨k, o, R, cr, hk, rfl, hR, hcR, hbx, hlf, hbw⟩ := hrel
        have BW := Lib.hid hbw
        have BX := Lib.hid hbx
        have HR := Lib.hid hR
        have CR' := Lib.hid hcR
        have HLF := Lib.hid hlf
        have B9w : Hid (Below w11.heap.size w11 wr) := B0.out.trans (hbw.mono B0.out.size)
        clear hbw hbx hR hcR hlf
        by_cases hlt : k < xP.length
        · obtain ⟨e1, hlf'⟩ := pass6_step hlt HLF.out
          have HLF' := Lib.hid hlf'
          have hlt' : (k : Int) < (xP.length : Int) := by omega
          obtain ⟨lo1, hi1, hd1, hs1⟩ := HR.out
          rw [List.length_drop] at hs1
          have C := implPassLock_any E lo1 hi1 R (xP.length - k) cr o (xP.drop k) o wr (GE.out _ B9w.out).1 (GE.out _ B9w.out).2 (by have := NXP.out; omega) CR'.out.1 (by simp) CR'.out.2 hs1
          rw [e1] at C
          have r0 := cell_of_row wr _ 0 _ _ _ BX.out
          have r1 := cell_of_row wr _ 1 _ _ _ BX.out
          simp at r0 r1
          clear hs1 hlf' e1
          obtain ⟨_, _, k3, _, _, _⟩ := KK.out wr B9w.out
          have r30 := cell_of_row wr _ 0 _ _ _ k3
          have r31 := cell_of_row wr _ 1 _ _ _ k3
          simp at r30 r31
          clear k3
          go_wp2_with fail
          with_reducible refine C.mono ?_
          rintro e w2' hla
          obtain ⟨Y2, c2, Z2, d2, rfl, hy, hyc, hz, hzc, hb⟩ := hla.open6
          rw [show (xP.drop (k + 1)).length = xP.length - (k + 1) by simp] at hy hyc ⊢
          have BS := BW.out.size
          have szb := hb.size
          have hlb := (Array.getElem?_eq_some_iff.1 BX.out).1
          obtain ⟨w3', hw3⟩ : ∃ w3', w3' = w2'.alloc (.cells #[.int .i64 0, .bool false, .int .i64 (gi xP k), .int .i64 (gi xP k), .slice Y2 (xP.length - (k + 1)) c2, .slice Z2 ([] : List Int).length d2] 30) := ⟨_, rfl⟩
          have k3 : w3'.heap[w2'.heap.size]? = some (.cells #[.int .i64 0, .bool false, .int .i64 (gi xP k), .int .i64 (gi xP k), .slice Y2 (xP.length - (k + 1)) c2, .slice Z2 ([] : List Int).length d2] 30 (0, 0)) := by rw [hw3]; exact heap_alloc_new w2' _
          have bn3 : Below w2'.heap.size w2' w3' := by rw [hw3]; exact below_new w2' _
          have bx3 : w3'.heap[w21.heap.size]? = some (.cells #[.int .i64 o, .slice R (xP.length - k) cr] 26 (0, 0)) := (bn3.block _ (by omega)).trans ((hb.block _ (by omega)).trans BX.out)
          have BB3 : Hid (Below w21.heap.size w21 w3') := BW.out.trans ((hb.trans (bn3.mono hb.size)).mono BS)
          have B93 : Hid (Below w11.heap.size w11 w3') := B0.out.trans (BB3.out.mono B0.out.size)
          have HY2 : Hid (RowN w21.heap.size w3' Y2 (xP.drop (k + 1))) := ⟨wr.heap.size, w2'.heap.size, .inr (by omega), by rw [List.length_drop]; exact hy.below bn3 (Nat.le_refl _)⟩
          have CY2 := Lib.hid hyc
          have BX3 := Lib.hid bx3
          have K3 := Lib.hid k3
          have HW3 := Lib.hid hw3
          clear hw3 C hla hy hyc hz hzc hb k3 bn3 bx3 szb hlb BS r0 r1 r30 r31
          simp only [List.length_nil] at HW3 K3 ⊢
          go_upto_region 21 with (fail)
          rw [← HW3.out]
          clear HW3
          have hlk : k < xP.length := hlt
          obtain ⟨bq, oq, hz, _, _, _⟩ := (RR.out w3' B93.out).2.2.1.at_ hlk
          have hix := run_ixk bq oq xP.length eP k hlk
          subst hz
          have SX : Hid (∀ W, Below w3'.heap.size w3' W → W.cell? ⟨w2'.heap.size, 0, none⟩ = some (.int .i64 0) ∧ W.cell? ⟨w2'.heap.size, 2, none⟩ = some (.int .i64 (gi xP k)) ∧ W.cell? ⟨w5.heap.size, 1, none⟩ = some (.slice (some ⟨bq, oq, none⟩) xP.length eP) ∧ W.cell? ⟨bq, oq + k, none⟩ = some (.int .i64 (gi xP k)) ∧ Below w3'.heap.size w3' W) := fun W hB => by
            have hB9 : Below w11.heap.size w11 W := B93.out.trans (hB.mono B93.out.size)
            obtain ⟨_, _, k3, _, _, _⟩ := KK.out W hB9
            have kk := (hB.block w2'.heap.size ((Array.getElem?_eq_some_iff.1 K3.out).1)).trans K3.out
            obtain ⟨b', o', hz, _, _, hzc⟩ := (RR.out W hB9).2.2.1.at_ hlk
            injection hz with hz
            injection hz with h1 h2
            subst h1; subst h2
            exact ⟨cell_of_row W _ 0 _ _ _ kk, cell_of_row W _ 2 _ _ _ kk, cell_of_row W _ 1 _ _ _ k3, hzc k hlk, hB⟩
          obtain ⟨w4', hw4⟩ : ∃ w4', w4' = w3'.drew := ⟨_, rfl⟩
          have hbc : Below w3'.heap.size w3' w4' := by rw [hw4]; exact Below.drew (Below.refl _ _)
          have na1 := Below.refl w3'.heap.size w3'
          go_region_held3 (fun W => W.cell? ⟨w2'.heap.size, 0, none⟩ = some (.int .i64 0) ∧ W.cell? ⟨w2'.heap.size, 2, none⟩ = some (.int .i64 (gi xP k)) ∧ W.cell? ⟨w5.heap.size, 1, none⟩ = some (.slice (some ⟨bq, oq, none⟩) xP.length eP) ∧ W.cell? ⟨bq, oq + k, none⟩ = some (.int .i64 (gi xP k)) ∧ Below w3'.heap.size w3' W) (first | with_reducible exact SX.out _ (by assumption) | exact SX.out _ (Below.drew na1)) (fail)
          rw [← hw4]
          clear hw4 na1
          have kk := (hbc.block w2'.heap.size ((Array.getElem?_eq_some_iff.1 K3.out).1)).trans K3.out
          have bx4 := (hbc.block w21.heap.size ((Array.getElem?_eq_some_iff.1 BX3.out).1)).trans BX3.out
          have BX4 := Lib.hid bx4
          have BB4 : Hid (Below w21.heap.size w21 w4') := BB3.out.trans (hbc.mono BB3.out.size)
          have HY4 : Hid (RowN w21.heap.size w4' Y2 (xP.drop (k + 1))) := by
            obtain ⟨lo, hi, hd, hs⟩ := HY2.out
            exact ⟨lo, min hi w3'.heap.size, by omega, hs.lt.below hbc (by omega)⟩
          have q3 := cell_of_row w4' _ 3 _ _ _ kk
          have q4 := cell_of_row w4' _ 4 _ _ _ kk
          have b0 := cell_of_row w4' _ 0 _ _ _ bx4
          have b1 := cell_of_row w4' _ 1 _ _ _ bx4
          have f0' := frozen_of_row w4' _ 0 _ _ bx4
          have f1' := frozen_of_row w4' _ 1 _ _ bx4
          simp at q3 q4 b0 b1
          clear kk bx4 hbc hix SX
          have wk1 := wrap_small1 (n := k) (by have := NXP.out; omega)
          go_wp2
          go_roundw
          case rel =>
            exact ⟨k + 1, gi xP k, Y2, c2, by omega, by rfl, (HY4.out.set _ _).set _ _, CY2.out, heap_setCell_same _ _ 1 _ _ _ (heap_setCell_same _ _ 0 _ _ _ BX4.out), HLF'.out, (BB4.out.setCell (p := ⟨w21.heap.size, 0, none⟩) (Nat.le_refl _) _).setCell (p := ⟨w21.heap.size, 1, none⟩) (Nat.le_refl _) _⟩
          case measure => simp [intOf]; omega
        · have hke : k = xP.length := by omega
          subst hke
          have hlt' : ¬ (xP.length : Int) < (xP.length : Int) := by omega
          have r1 := cell_of_row wr _ 1 _ _ _ BX.out
          rw [Nat.sub_self] at r1
          simp at r1
          obtain ⟨_, _, k3, _, _, _⟩ := KK.out wr B9w.out
          have r30 := cell_of_row wr _ 0 _ _ _ k3
          have r31 := cell_of_row wr _ 1 _ _ _ k3
          simp at r30 r31
          clear k3
          go_wp2_with fail
          go_ret
          exact ⟨rfl, B11.out.trans (B9w.out.mono B11.out.size)⟩

end Go.Proofs.YtachpoehejdpjaaDoor
