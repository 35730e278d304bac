/-
  The walk of FnWakes: for every code that can be read it returns true. No conditions beyond that.
-/
import Derived.Test.YtachpoehejdpjaaDoorDraw6c
import Derived.Test.YtachpoehejdpjaaDoorDraw1d
import Derived.Test.YtachpoehejdpjaaDoorImpl6e
import Derived.Test.YtachpoehejdpjaaDoorImpl6i
import Derived.Test.YtachpoehejdpjaaDoorSpec6f
import Derived.Test.YtachpoehejdpjaaDoorSpec6g
import Derived.Test.YtachpoehejdpjaaDoorSame6
import Derived.Test.YtachpoehejdpjaaDoorKit6b
import Derived.Test.YtachpoehejdpjaaDoorKit6d
import Derived.Test.YtachpoehejdpjaaDoorMath6c
import Derived.Deep.RegionHeld3
namespace Go.Proofs.YtachpoehejdpjaaDoor
open Go.RowKit
set_option maxRecDepth 100000

/-- a row of numbers, wherever it lies, but not in the block bn -/
def RowN (bn : Nat) (W : World) (A : Option Addr) (xs : List Int) : Prop := ∃ lo hi, (hi ≤ bn ∨ bn < lo) ∧ Sl W lo hi A xs.length (fun k => .int .i64 (gi xs k))
theorem or_row {w : World} {base n c : Nat} {A : Option Addr} {xs : List Int} (h : OR 2 1 w base A n c xs) : Sl w base w.heap.size A n (fun k => .int .i64 (gi xs k)) := by
  have := h.sl0
  rwa [Nat.mul_one] at this
theorem or_capn {w : World} {base n c : Nat} {A : Option Addr} {xs : List Int} (h : OR 2 1 w base A n c xs) : n ≤ c ∧ (A = none → c = 0) := ⟨h.cap, h.capA⟩
theorem or_len1 {w : World} {base n c : Nat} {A : Option Addr} {xs : List Int} (h : OR 2 1 w base A n c xs) : xs.length = n := by have := h.len; omega
theorem run_lr0 (q n o : Int) (g : Bool) (A B : Option Addr) (k c m d : Nat) (W : World) : (Instr.field 30 (.agg #[.int .i64 q, .bool g, .int .i64 n, .int .i64 o, .slice A k c, .slice B m d]) 0).run Tryd.prog W = .ok (.int .i64 q) W := by kernel_rfl
theorem run_lr1 (q n o : Int) (g : Bool) (A B : Option Addr) (k c m d : Nat) (W : World) : (Instr.field 30 (.agg #[.int .i64 q, .bool g, .int .i64 n, .int .i64 o, .slice A k c, .slice B m d]) 1).run Tryd.prog W = .ok (.bool g) W := by kernel_rfl
theorem run_lr2 (q n o : Int) (g : Bool) (A B : Option Addr) (k c m d : Nat) (W : World) : (Instr.field 30 (.agg #[.int .i64 q, .bool g, .int .i64 n, .int .i64 o, .slice A k c, .slice B m d]) 2).run Tryd.prog W = .ok (.int .i64 n) W := by kernel_rfl
theorem run_lr3 (q n o : Int) (g : Bool) (A B : Option Addr) (k c m d : Nat) (W : World) : (Instr.field 30 (.agg #[.int .i64 q, .bool g, .int .i64 n, .int .i64 o, .slice A k c, .slice B m d]) 3).run Tryd.prog W = .ok (.agg #[.int .i64 o, .slice A k c]) W := by kernel_rfl
theorem run_lr4 (q n o : Int) (g : Bool) (A B : Option Addr) (k c m d : Nat) (W : World) : (Instr.field 30 (.agg #[.int .i64 q, .bool g, .int .i64 n, .int .i64 o, .slice A k c, .slice B m d]) 4).run Tryd.prog W = .ok (.slice B m d) W := by kernel_rfl
theorem run_ix0 (b o n c : Nat) (h : 0 < n) (W : World) : (Instr.indexAt 24 (.slice (some ⟨b, o, none⟩) n c) (.int .i64 0)).run Tryd.prog W = .ok (.pointer (some ⟨b, o, none⟩)) W := by
  have h1 : (0 : Int) < (n : Int) := by omega
  have h2 : ¬ n = 0 := by omega
  simp [go_sem]
  simp [*]
/-- a round of the law's loop: what is left of the queue, the lock now in its box -/
def RoundWk (w0 : World) (xs : List Int) (tot : A6) (r i : Value) (wr : World) : Prop :=
  ∃ (k : Nat) (o : Int) (ys : List Int) (R Y : Option Addr) (cr cy : Nat), k ≤ xs.length ∧ i = .int .i64 k ∧ r = .slice R (xs.length - k) cr ∧ RowN w0.heap.size wr R (xs.drop k) ∧ (xs.length - k ≤ cr ∧ (R = none → cr = 0)) ∧
    wr.heap[w0.heap.size]? = some (.cells #[.int .i64 o, .slice Y ys.length cy] 26 (0, 0)) ∧ RowN w0.heap.size wr Y ys ∧ (ys.length ≤ cy ∧ (Y = none → cy = 0)) ∧ Woken xs tot k o ys ∧ Below w0.heap.size w0 wr
theorem RowN.set {bn : Nat} {W : World} {A : Option Addr} {xs : List Int} (h : RowN bn W A xs) (j : Nat) (v : Value) : RowN bn (W.setCell ⟨bn, j, none⟩ v) A xs := by
  obtain ⟨lo, hi, hd, hs⟩ := h
  exact ⟨lo, hi, hd, hs.keep fun b h1 h2 => Below.heap_setCell _ _ _ _ (by show b ≠ bn; omega)⟩
theorem wrap_small1 {n : Nat} (h : n ≤ 1048576) : IntKind.i64.wrap ((n : Int) + 1) = (n : Int) + 1 := by
  have h1 : (n : Int) ≤ 1048576 := by omega
  go_arith

/-- an answer's parts -/
theorem six6 (r : A6) : ∃ q g n o y z, r = (q, g, n, o, y, z) := ⟨_, _, _, _, _, _, rfl⟩
/-- an answer, laid open -/
theorem LA.open6 {q n o : Int} {g : Bool} {y z : List Int} {w : World} {e : Ending} {w' : World} (h : LA (q, g, n, o, y, z) w e w') :
    ∃ A c B d, e = .returned (.agg #[.int .i64 q, .bool g, .int .i64 n, .int .i64 o, .slice A y.length c, .slice B z.length d]) ∧ Sl w' w.heap.size w'.heap.size A y.length (fun k => .int .i64 (gi y k)) ∧ (y.length ≤ c ∧ (A = none → c = 0)) ∧ Sl w' w.heap.size w'.heap.size B z.length (fun k => .int .i64 (gi z k)) ∧ (z.length ≤ d ∧ (B = none → d = 0)) ∧ Below w.heap.size w w' := by
  obtain ⟨A, c, B, d, h1, h2, h3, _, h5⟩ := h
  exact ⟨A, c, B, d, h1, or_row h2, or_capn h2, or_row h3, or_capn h3, h5⟩

set_option maxHeartbeats 16000000 in
theorem walkWakes (E : E6) (A : Option Addr) (k c : Nat) (b : Nat → Int) (w : World) (hE : Errs E w) (hU : Unf E w) (h : Sl w 0 w.heap.size A k (fun j => .int .u8 (b j))) (hb : ∀ j, 0 ≤ b j ∧ b j ≤ 255) (hk : k ≤ 1048576) :
    Calls Tryd.prog 4 #[.slice A k c] w fun e w' => e = .returned (.bool true) ∧ Below w.heap.size w w' := by
  have H := Lib.hid h
  have HBY := Lib.hid hb
  have HE := Lib.hid (show ∀ W, Below w.heap.size w W → Errs E W ∧ Unf E W from fun W hW => ⟨hE.below hW, hU.below hW⟩)
  have HC : Hid (∀ W, Below w.heap.size w W → Sl W 0 w.heap.size A k (fun j => .int .u8 (b j))) := fun W hW => H.out.below hW (Nat.le_refl _)
  clear h hb hE hU
  go_enter Tryd.func4, Tryd.ntmps4
  go_wp2_with fail
  refine (lwBig_any A k c w).mono ?_
  rintro e w' ⟨rfl, rfl⟩
  go_wp2_with fail
  refine (DrawWakeAll_any 0 w.heap.size A k c b w hk HBY.out H.out).mono ?_
  rintro e w1 ⟨BQ, nq, cq, xs, lo0, BL, nl, cl, ys, rfl, hx, hnq, hy, hnl, hoq, hol, hb1⟩
  subst hx hy
  have SQ := Lib.hid (or_row hoq)
  have CQ := Lib.hid (or_capn hoq)
  have SL := Lib.hid (or_row hol)
  have CL := Lib.hid (or_capn hol)
  have NQ := Lib.hid hnq
  have NL := Lib.hid hnl
  have B1 := Lib.hid hb1
  clear hoq hol hnq hnl hb1
  obtain ⟨w2, hw2⟩ : ∃ w2, w2 = w1.alloc (.cells #[.int .i64 lo0, .slice BL ys.length cl] 26) := ⟨_, rfl⟩
  have K2 : Hid (w2.heap[w1.heap.size]? = some (.cells #[.int .i64 lo0, .slice BL ys.length cl] 26 (0, 0))) := by show _ = _; rw [hw2]; exact heap_alloc_new w1 _
  have B12 : Hid (Below w1.heap.size w1 w2) := by rw [hw2]; exact below_new w1 _
  have Z2 : Hid (w2.heap.size = w1.heap.size + 1) := by show _ = _; rw [hw2]; simp
  have HW2 := Lib.hid hw2
  clear hw2
  go_upto_region 4 with (fail)
  rw [← HW2.out]
  clear HW2
  have B2 : Hid (Below w.heap.size w w2) := B1.out.trans (B12.out.mono B1.out.size)
  have ZZ1 := Lib.hid B1.out.size
  obtain ⟨qa, ga, na, oa, ya, za, hra⟩ := six6 (all6 xs lo0 ys)
  have HRa := Lib.hid hra
  have Ca := implWakeAll_any E 0 w2.heap.size 0 w2.heap.size BL BQ ys.length cl xs.length cq lo0 ys xs w2 (HE.out w2 B2.out).1 (HE.out w2 B2.out).2 (by have := NL.out; omega) CL.out.1 rfl CL.out.2 ((SL.out.below B12.out (Nat.le_refl _)).wide (Nat.zero_le _) B12.out.size) (by have := NQ.out; omega) CQ.out.1 rfl CQ.out.2 ((SQ.out.below B12.out (Nat.le_refl _)).wide (Nat.zero_le _) B12.out.size)
  rw [hra] at Ca
  clear hra
  have r0 := cell_of_row w2 _ 0 _ _ _ K2.out; have r1 := cell_of_row w2 _ 1 _ _ _ K2.out
  simp at r0 r1
  go_wp2_with fail
  refine Ca.mono ?_
  rintro e w3 hla
  obtain ⟨Ya, ca, Za, dda, rfl, hy, hyc, hz, hzc, hb⟩ := hla.open6
  have SYa := Lib.hid hy
  have CYa := Lib.hid hyc
  have SZa := Lib.hid hz
  have CZa := Lib.hid hzc
  have BBa := Lib.hid hb
  clear hy hyc hz hzc hb hla Ca r0 r1
  obtain ⟨w4, hw4⟩ : ∃ w4, w4 = w3.alloc (.cells #[.int .i64 qa, .bool ga, .int .i64 na, .int .i64 oa, .slice Ya ya.length ca, .slice Za za.length dda] 30) := ⟨_, rfl⟩
  have Ka : Hid (w4.heap[w3.heap.size]? = some (.cells #[.int .i64 qa, .bool ga, .int .i64 na, .int .i64 oa, .slice Ya ya.length ca, .slice Za za.length dda] 30 (0, 0))) := by show _ = _; rw [hw4]; exact heap_alloc_new w3 _
  have BNa : Hid (Below w3.heap.size w3 w4) := by rw [hw4]; exact below_new w3 _
  have ZNa : Hid (w4.heap.size = w3.heap.size + 1) := by show _ = _; rw [hw4]; simp
  have HWa := Lib.hid hw4
  clear hw4
  go_upto_region 5 with (fail)
  rw [← HWa.out]
  clear HWa
  have B24 : Hid (Below w2.heap.size w2 w4) := BBa.out.trans (BNa.out.mono BBa.out.size)
  have B4 : Hid (Below w.heap.size w w4) := B2.out.trans (B24.out.mono B2.out.size)
  have K24 := Lib.hid ((B24.out.block w1.heap.size (by have := Z2.out; omega)).trans K2.out)
  have S14 : Hid (∀ W, Below w2.heap.size w2 W → Sl W 0 W.heap.size BL ys.length (fun k => .int .i64 (gi ys k)) ∧ Sl W 0 W.heap.size BQ xs.length (fun k => .int .i64 (gi xs k))) := fun W hW =>
    have hb := B12.out.trans (hW.mono B12.out.size)
    ⟨(SL.out.below hb (Nat.le_refl _)).wide (Nat.zero_le _) hb.size, (SQ.out.below hb (Nat.le_refl _)).wide (Nat.zero_le _) hb.size⟩
  obtain ⟨qo, go, no, oo, yo, zo, hro⟩ := six6 (one6 xs lo0 ys)
  have HRo := Lib.hid hro
  have Co := implWakeOne_any E 0 w4.heap.size 0 w4.heap.size BL BQ ys.length cl xs.length cq lo0 ys xs w4 (HE.out w4 B4.out).1 (HE.out w4 B4.out).2 (by have := NL.out; omega) CL.out.1 rfl CL.out.2 (S14.out w4 B24.out).1 (by have := NQ.out; omega) CQ.out.1 rfl CQ.out.2 (S14.out w4 B24.out).2
  rw [hro] at Co
  clear hro
  have r0 := cell_of_row w4 _ 0 _ _ _ K24.out; have r1 := cell_of_row w4 _ 1 _ _ _ K24.out
  simp at r0 r1
  go_wp2_with fail
  refine Co.mono ?_
  rintro e w5 hla
  obtain ⟨Yo, co, Zo, ddo, rfl, hy, hyc, hz, hzc, hb⟩ := hla.open6
  have SYo := Lib.hid hy
  have CYo := Lib.hid hyc
  have SZo := Lib.hid hz
  have CZo := Lib.hid hzc
  have BBo := Lib.hid hb
  clear hy hyc hz hzc hb hla Co r0 r1
  obtain ⟨w6, hw6⟩ : ∃ w6, w6 = w5.alloc (.cells #[.int .i64 qo, .bool go, .int .i64 no, .int .i64 oo, .slice Yo yo.length co, .slice Zo zo.length ddo] 30) := ⟨_, rfl⟩
  have Ko : Hid (w6.heap[w5.heap.size]? = some (.cells #[.int .i64 qo, .bool go, .int .i64 no, .int .i64 oo, .slice Yo yo.length co, .slice Zo zo.length ddo] 30 (0, 0))) := by show _ = _; rw [hw6]; exact heap_alloc_new w5 _
  have BNo : Hid (Below w5.heap.size w5 w6) := by rw [hw6]; exact below_new w5 _
  have ZNo : Hid (w6.heap.size = w5.heap.size + 1) := by show _ = _; rw [hw6]; simp
  have HWo := Lib.hid hw6
  clear hw6
  go_upto_region 6 with (fail)
  rw [← HWo.out]
  clear HWo
  have B46 : Hid (Below w4.heap.size w4 w6) := BBo.out.trans (BNo.out.mono BBo.out.size)
  have B6 : Hid (Below w.heap.size w w6) := B4.out.trans (B46.out.mono B4.out.size)
  go_wp2_with fail
  refine (DrawWaitQueue_any 0 w.heap.size A k c b w6 hk HBY.out (HC.out w6 B6.out)).mono ?_
  rintro e w7 ⟨BR, nr, cr, rs, vid, rfl, hx, hnr, hor, hb7⟩
  subst hx
  have SR := Lib.hid (or_row hor)
  have CR := Lib.hid (or_capn hor)
  have NR := Lib.hid hnr
  have B67 := Lib.hid hb7
  have B7 : Hid (Below w.heap.size w w7) := B6.out.trans (hb7.mono B6.out.size)
  clear hor hnr hb7
  obtain ⟨qw, gw, nw, ow, yw, zw, hrw⟩ := six6 (wait6 rs vid)
  have HRw := Lib.hid hrw
  have Cw := implWaitQueue_any E w6.heap.size w7.heap.size BR rs.length cr rs vid w7 (HE.out w7 B7.out).1 (by have := NR.out; omega) CR.out.1 rfl CR.out.2 SR.out
  rw [hrw] at Cw
  clear hrw
  skip
  go_wp2_with fail
  refine Cw.mono ?_
  rintro e w8 hla
  obtain ⟨Yw, cw, Zw, ddw, rfl, hy, hyc, hz, hzc, hb⟩ := hla.open6
  have SYw := Lib.hid hy
  have CYw := Lib.hid hyc
  have SZw := Lib.hid hz
  have CZw := Lib.hid hzc
  have BBw := Lib.hid hb
  clear hy hyc hz hzc hb hla Cw 
  obtain ⟨w9, hw9⟩ : ∃ w9, w9 = w8.alloc (.cells #[.int .i64 qw, .bool gw, .int .i64 nw, .int .i64 ow, .slice Yw yw.length cw, .slice Zw zw.length ddw] 30) := ⟨_, rfl⟩
  have Kw : Hid (w9.heap[w8.heap.size]? = some (.cells #[.int .i64 qw, .bool gw, .int .i64 nw, .int .i64 ow, .slice Yw yw.length cw, .slice Zw zw.length ddw] 30 (0, 0))) := by show _ = _; rw [hw9]; exact heap_alloc_new w8 _
  have BNw : Hid (Below w8.heap.size w8 w9) := by rw [hw9]; exact below_new w8 _
  have ZNw : Hid (w9.heap.size = w8.heap.size + 1) := by show _ = _; rw [hw9]; simp
  have HWw := Lib.hid hw9
  clear hw9
  have SMA : Hid (ya.length ≤ 1999999) := by have := (all6_len xs lo0 ys).1; rw [HRa.out] at this; exact this
  have SMW : Hid (zw.length ≤ 1999999) := by have := (wait6_len rs vid rs.length (by have := NR.out; omega) rfl).2; rw [HRw.out] at this; exact Nat.le_trans this (by omega)
  go_upto_region 8 with (fail)
  rw [← HWw.out]
  clear HWw
  have B79 : Hid (Below w7.heap.size w7 w9) := BBw.out.trans (BNw.out.mono BBw.out.size)
  have B69 : Hid (Below w6.heap.size w6 w9) := B67.out.trans (B79.out.mono B67.out.size)
  have B49 : Hid (Below w4.heap.size w4 w9) := B46.out.trans (B69.out.mono B46.out.size)
  have B29 : Hid (Below w2.heap.size w2 w9) := B24.out.trans (B49.out.mono B24.out.size)
  have B9 : Hid (Below w.heap.size w w9) := B7.out.trans (B79.out.mono B7.out.size)
  have LT : Hid (w1.heap.size < w2.heap.size ∧ w2.heap.size ≤ w3.heap.size ∧ w3.heap.size < w4.heap.size ∧ w4.heap.size ≤ w5.heap.size ∧ w5.heap.size < w6.heap.size ∧ w6.heap.size ≤ w7.heap.size ∧ w7.heap.size ≤ w8.heap.size ∧ w8.heap.size < w9.heap.size) :=
    ⟨by have := Z2.out; omega, BBa.out.size, by have := ZNa.out; omega, BBo.out.size, by have := ZNo.out; omega, B67.out.size, BBw.out.size, by have := ZNw.out; omega⟩
  have KK : Hid (∀ W, Below w9.heap.size w9 W → W.heap[w1.heap.size]? = some (.cells #[.int .i64 lo0, .slice BL ys.length cl] 26 (0, 0)) ∧ W.heap[w3.heap.size]? = some (.cells #[.int .i64 qa, .bool ga, .int .i64 na, .int .i64 oa, .slice Ya ya.length ca, .slice Za za.length dda] 30 (0, 0)) ∧ W.heap[w5.heap.size]? = some (.cells #[.int .i64 qo, .bool go, .int .i64 no, .int .i64 oo, .slice Yo yo.length co, .slice Zo zo.length ddo] 30 (0, 0)) ∧ W.heap[w8.heap.size]? = some (.cells #[.int .i64 qw, .bool gw, .int .i64 nw, .int .i64 ow, .slice Yw yw.length cw, .slice Zw zw.length ddw] 30 (0, 0))) := fun W hW => by
    obtain ⟨l1, l2, l3, l4, l5, l6, l7, l8⟩ := LT.out
    exact ⟨(hW.block _ (by omega)).trans ((B29.out.block _ (by omega)).trans K2.out), (hW.block _ (by omega)).trans ((B49.out.block _ (by omega)).trans Ka.out), (hW.block _ (by omega)).trans ((B69.out.block _ (by omega)).trans Ko.out), (hW.block _ (by omega)).trans Kw.out⟩
  have RR : Hid (∀ W, Below w9.heap.size w9 W → (Sl W 0 w9.heap.size BL ys.length (fun k => .int .i64 (gi ys k)) ∧ Sl W 0 w9.heap.size BQ xs.length (fun k => .int .i64 (gi xs k))) ∧ Sl W 0 w9.heap.size Ya ya.length (fun k => .int .i64 (gi ya k)) ∧ Sl W 0 w9.heap.size Zo zo.length (fun k => .int .i64 (gi zo k)) ∧ Sl W 0 w9.heap.size BR rs.length (fun k => .int .i64 (gi rs k)) ∧ Sl W 0 w9.heap.size Zw zw.length (fun k => .int .i64 (gi zw k))) := fun W hW => by
    obtain ⟨l1, l2, l3, l4, l5, l6, l7, l8⟩ := LT.out
    obtain ⟨s1, s2⟩ := S14.out w9 B29.out
    exact ⟨⟨s1.below hW (Nat.le_refl _), s2.below hW (Nat.le_refl _)⟩, (((SYa.out.below BNa.out (Nat.le_refl _)).below B49.out (by omega)).below hW (by omega)).wide (Nat.zero_le _) (by omega), (((SZo.out.below BNo.out (Nat.le_refl _)).below B69.out (by omega)).below hW (by omega)).wide (Nat.zero_le _) (by omega),
      ((SR.out.below B79.out (Nat.le_refl _)).below hW (by omega)).wide (Nat.zero_le _) (by omega), ((SZw.out.below BNw.out (Nat.le_refl _)).below hW (by omega)).wide (Nat.zero_le _) (by omega)⟩
  have GE : Hid (∀ W, Below w9.heap.size w9 W → Errs E W ∧ Unf E W) := fun W hW => HE.out W (B9.out.trans (hW.mono B9.out.size))
  clear B1 B12 Z2 B2 B24 B4 K24 B46 B6 B67 B7 B79 B69 B49 B29 K2 Ka Ko Kw BNa BNo BNw ZNa ZNo ZNw BBa BBo BBw SL SQ S14 SYa SZa SYo SZo SYw SZw SR HC HE H HBY
  go_upto_region 8 with (fail)
  go_cut [104] from 14 (fun s wx => s = .bool false ∧ Below w9.heap.size w9 wx)
  case first =>
    focus
      have KS : Hid (∀ W, Below w9.heap.size w9 W → (W.cell? ⟨w1.heap.size, 0, none⟩ = some (.int .i64 lo0) ∧ W.cell? ⟨w1.heap.size, 1, none⟩ = some (.slice BL ys.length cl) ∧ W.cell? ⟨w3.heap.size, 0, none⟩ = some (.int .i64 qa) ∧ W.cell? ⟨w3.heap.size, 2, none⟩ = some (.int .i64 na) ∧ W.cell? ⟨w3.heap.size, 3, none⟩ = some (.int .i64 oa) ∧ W.cell? ⟨w3.heap.size, 4, none⟩ = some (.slice Ya ya.length ca) ∧ W.cell? ⟨w5.heap.size, 0, none⟩ = some (.int .i64 qo) ∧ W.cell? ⟨w5.heap.size, 2, none⟩ = some (.int .i64 no) ∧ W.cell? ⟨w8.heap.size, 0, none⟩ = some (.int .i64 qw) ∧ W.cell? ⟨w8.heap.size, 5, none⟩ = some (.slice Zw zw.length ddw) ∧ Below w9.heap.size w9 W)) := fun W hB => by
        obtain ⟨k1, k2, k3, k4⟩ := KK.out W hB
        exact ⟨cell_of_row W _ 0 _ _ _ k1, cell_of_row W _ 1 _ _ _ k1, cell_of_row W _ 0 _ _ _ k2, cell_of_row W _ 2 _ _ _ k2, cell_of_row W _ 3 _ _ _ k2, cell_of_row W _ 4 _ _ _ k2, cell_of_row W _ 0 _ _ _ k3, cell_of_row W _ 2 _ _ _ k3, cell_of_row W _ 0 _ _ _ k4, cell_of_row W _ 5 _ _ _ k4, hB⟩
      have PS : Hid (∀ W, (W.cell? ⟨w1.heap.size, 0, none⟩ = some (.int .i64 lo0) ∧ W.cell? ⟨w1.heap.size, 1, none⟩ = some (.slice BL ys.length cl) ∧ W.cell? ⟨w3.heap.size, 0, none⟩ = some (.int .i64 qa) ∧ W.cell? ⟨w3.heap.size, 2, none⟩ = some (.int .i64 na) ∧ W.cell? ⟨w3.heap.size, 3, none⟩ = some (.int .i64 oa) ∧ W.cell? ⟨w3.heap.size, 4, none⟩ = some (.slice Ya ya.length ca) ∧ W.cell? ⟨w5.heap.size, 0, none⟩ = some (.int .i64 qo) ∧ W.cell? ⟨w5.heap.size, 2, none⟩ = some (.int .i64 no) ∧ W.cell? ⟨w8.heap.size, 0, none⟩ = some (.int .i64 qw) ∧ W.cell? ⟨w8.heap.size, 5, none⟩ = some (.slice Zw zw.length ddw) ∧ Below w9.heap.size w9 W) → Below w9.heap.size w9 W) := fun W h => h.2.2.2.2.2.2.2.2.2.2
    have AA : Hid (∀ W, Below w9.heap.size w9 W → Calls Tryd.prog 22 #[.slice BQ xs.length cq, .agg #[.int .i64 lo0, .slice BL ys.length cl]] W fun e w' => ∃ A c B d, e = .returned (.agg #[.int .i64 qa, .bool ga, .int .i64 na, .int .i64 oa, .slice A ya.length c, .slice B za.length d]) ∧ (Sl w' 0 w'.heap.size A ya.length (fun k => .int .i64 (gi ya k)) ∧ Sl w' 0 w'.heap.size B za.length (fun k => .int .i64 (gi za k))) ∧ Below w9.heap.size w9 w') := fun W hB => by
      have C := specWakeAll_any 0 w9.heap.size 0 w9.heap.size BL BQ ys.length cl xs.length cq lo0 ys xs W (by have := NL.out; omega) CL.out.1 rfl CL.out.2 (RR.out W hB).1.1 (by have := NQ.out; omega) CQ.out.1 rfl CQ.out.2 (RR.out W hB).1.2
      rw [HRa.out] at C
      refine C.mono fun e w' hla => ?_
      obtain ⟨A, c, B, d, h1, h2, _, h3, _, h5⟩ := hla.open6
      exact ⟨A, c, B, d, h1, ⟨h2.wide (Nat.zero_le _) (Nat.le_refl _), h3.wide (Nat.zero_le _) (Nat.le_refl _)⟩, hB.trans (h5.mono hB.size)⟩
    have AO : Hid (∀ W, Below w9.heap.size w9 W → Calls Tryd.prog 23 #[.slice BQ xs.length cq, .agg #[.int .i64 lo0, .slice BL ys.length cl]] W fun e w' => ∃ A c B d, e = .returned (.agg #[.int .i64 qo, .bool go, .int .i64 no, .int .i64 oo, .slice A yo.length c, .slice B zo.length d]) ∧ (Sl w' 0 w'.heap.size A yo.length (fun k => .int .i64 (gi yo k)) ∧ Sl w' 0 w'.heap.size B zo.length (fun k => .int .i64 (gi zo k))) ∧ Below w9.heap.size w9 w') := fun W hB => by
      have C := specWakeOne_any 0 w9.heap.size 0 w9.heap.size BL BQ ys.length cl xs.length cq lo0 ys xs W (by have := NL.out; omega) CL.out.1 rfl CL.out.2 (RR.out W hB).1.1 (by have := NQ.out; omega) CQ.out.1 rfl CQ.out.2 (RR.out W hB).1.2
      rw [HRo.out] at C
      refine C.mono fun e w' hla => ?_
      obtain ⟨A, c, B, d, h1, h2, _, h3, _, h5⟩ := hla.open6
      exact ⟨A, c, B, d, h1, ⟨h2.wide (Nat.zero_le _) (Nat.le_refl _), h3.wide (Nat.zero_le _) (Nat.le_refl _)⟩, hB.trans (h5.mono hB.size)⟩
    have AW : Hid (∀ W, Below w9.heap.size w9 W → Calls Tryd.prog 24 #[.slice BR rs.length cr, .int .i64 vid] W fun e w' => ∃ A c B d, e = .returned (.agg #[.int .i64 qw, .bool gw, .int .i64 nw, .int .i64 ow, .slice A yw.length c, .slice B zw.length d]) ∧ (Sl w' 0 w'.heap.size A yw.length (fun k => .int .i64 (gi yw k)) ∧ Sl w' 0 w'.heap.size B zw.length (fun k => .int .i64 (gi zw k))) ∧ Below w9.heap.size w9 w') := fun W hB => by
      have C := specWaitQueue_any 0 w9.heap.size BR rs.length cr rs vid W (by have := NR.out; omega) CR.out.1 rfl CR.out.2 (RR.out W hB).2.2.2.1
      rw [HRw.out] at C
      refine C.mono fun e w' hla => ?_
      obtain ⟨A, c, B, d, h1, h2, _, h3, _, h5⟩ := hla.open6
      exact ⟨A, c, B, d, h1, ⟨h2.wide (Nat.zero_le _) (Nat.le_refl _), h3.wide (Nat.zero_le _) (Nat.le_refl _)⟩, hB.trans (h5.mono hB.size)⟩
    have AS : Hid (∀ W A c, Sl W 0 W.heap.size A ya.length (fun k => .int .i64 (gi ya k)) → Below w9.heap.size w9 W → Calls Tryd.prog 12 #[.agg #[.int .i64 oa, .slice Ya ya.length ca], .agg #[.int .i64 oa, .slice A ya.length c]] W fun e w' => e = .returned (.bool true) ∧ Below w9.heap.size w9 w') := fun W A c hs hB => by
      have C := implSameLocks_any 0 w9.heap.size 0 W.heap.size Ya A ya.length ca ya.length c oa oa ya ya W (by have := SMA.out; omega) rfl rfl (RR.out W hB).2.1 hs
      exact C.mono fun e w' ⟨h1, h2⟩ => ⟨by rw [h1]; simp, hB.trans (h2.mono hB.size)⟩
    have AN : Hid (∀ W A c, Sl W 0 W.heap.size A zw.length (fun k => .int .i64 (gi zw k)) → Below w9.heap.size w9 W → Calls Tryd.prog 25 #[.slice Zw zw.length ddw, .slice A zw.length c] W fun e w' => e = .returned (.bool true) ∧ Below w9.heap.size w9 w') := fun W A c hs hB => by
      have C := lwNums_any 0 w9.heap.size 0 W.heap.size Zw A zw zw zw.length zw.length ddw c W (by have := SMW.out; omega) rfl rfl (RR.out W hB).2.2.2.2 hs
      exact C.mono fun e w' ⟨h1, h2⟩ => ⟨by rw [h1]; simp, hB.trans (h2.mono hB.size)⟩
    have AQi : Hid (∀ W, Below w9.heap.size w9 W → Calls Tryd.prog 26 #[.slice BQ xs.length cq] W fun e w' => e = .returned (.int .i64 (qf6 xs)) ∧ Below w9.heap.size w9 w') := fun W hB => by
      have C := implQueueFault_any E 0 w9.heap.size BQ xs.length cq xs W (GE.out W hB).1 (by have := NQ.out; omega) CQ.out.1 rfl (RR.out W hB).1.2
      exact C.mono fun e w' ⟨h1, h2⟩ => ⟨h1, hB.trans (h2.mono hB.size)⟩
    have AQs : Hid (∀ W, Below w9.heap.size w9 W → Calls Tryd.prog 27 #[.slice BQ xs.length cq] W fun e w' => e = .returned (.int .i64 (qf6 xs)) ∧ Below w9.heap.size w9 w') := fun W hB => by
      have C := specQueueFault_any 0 w9.heap.size BQ xs.length cq xs W (by have := NQ.out; omega) CQ.out.1 rfl (RR.out W hB).1.2
      exact C.mono fun e w' ⟨h1, h2⟩ => ⟨h1, hB.trans (h2.mono hB.size)⟩
    have f0 := run_lr0
    have f2 := run_lr2
    have f3 := run_lr3
    have f4 := run_lr4
    have na1 := Below.refl w9.heap.size w9
    simp only [List.append]
    go_region_held3 (fun W => W.cell? ⟨w1.heap.size, 0, none⟩ = some (.int .i64 lo0) ∧ W.cell? ⟨w1.heap.size, 1, none⟩ = some (.slice BL ys.length cl) ∧ W.cell? ⟨w3.heap.size, 0, none⟩ = some (.int .i64 qa) ∧ W.cell? ⟨w3.heap.size, 2, none⟩ = some (.int .i64 na) ∧ W.cell? ⟨w3.heap.size, 3, none⟩ = some (.int .i64 oa) ∧ W.cell? ⟨w3.heap.size, 4, none⟩ = some (.slice Ya ya.length ca) ∧ W.cell? ⟨w5.heap.size, 0, none⟩ = some (.int .i64 qo) ∧ W.cell? ⟨w5.heap.size, 2, none⟩ = some (.int .i64 no) ∧ W.cell? ⟨w8.heap.size, 0, none⟩ = some (.int .i64 qw) ∧ W.cell? ⟨w8.heap.size, 5, none⟩ = some (.slice Zw zw.length ddw) ∧ Below w9.heap.size w9 W) (first | with_reducible exact KS.out _ (by assumption) | exact KS.out _ (Below.drew na1)) (first | (go_at_call 22; with_reducible refine (AA.out _ (PS.out _ (by assumption))).mono ?_; rintro e w' ⟨A9, c9, B9, d9, rfl, ⟨hy9, hz9⟩, hb9⟩) | (go_at_call 23; with_reducible refine (AO.out _ (PS.out _ (by assumption))).mono ?_; rintro e w' ⟨A9, c9, B9, d9, rfl, ⟨hy9, hz9⟩, hb9⟩) | (go_at_call 24; with_reducible refine (AW.out _ (PS.out _ (by assumption))).mono ?_; rintro e w' ⟨A9, c9, B9, d9, rfl, ⟨hy9, hz9⟩, hb9⟩) | (go_at_call 12; refine (AS.out _ _ _ (by assumption) (PS.out _ (by assumption))).mono ?_; rintro e w' ⟨rfl, hb9⟩) | (go_at_call 25; refine (AN.out _ _ _ (by assumption) (PS.out _ (by assumption))).mono ?_; rintro e w' ⟨rfl, hb9⟩) | (go_at_call 26; with_reducible refine (AQi.out _ (PS.out _ (by assumption))).mono ?_; rintro e w' ⟨rfl, hb9⟩) | (go_at_call 27; with_reducible refine (AQs.out _ (PS.out _ (by assumption))).mono ?_; rintro e w' ⟨rfl, hb9⟩))
    all_goals (go_wp2_with fail; go_meet; exact ⟨rfl, by assumption⟩)
  case rest =>
    obtain ⟨rfl, hbw⟩ := hcut
    go_upto_region 10 with (fail)
    go_cut [132] from 14 (fun s wx => s = .bool false ∧ Below w9.heap.size w9 wx)
    case first => as_aux_lemma =>
      obtain ⟨_, _, _, k4⟩ := KK.out wc hbw
      have r0 := cell_of_row wc _ 0 _ _ _ k4
      have r5 := cell_of_row wc _ 5 _ _ _ k4
      by_cases hq : qw = 0
      · subst hq
        obtain ⟨e1, e2⟩ := wait6_ok (xs := rs) (id := vid) (by rw [HRw.out])
        rw [HRw.out] at e1
        simp only [Prod.mk.injEq] at e1
        obtain ⟨_, rfl, rfl, rfl, rfl, rfl⟩ := e1
        have ln : (rs ++ [vid]).length = rs.length + 1 := by simp
        have C : Hid (∀ W, Below w9.heap.size w9 W → Calls Tryd.prog 26 #[.slice Zw (rs.length + 1) ddw] W fun e w' => e = .returned (.int .i64 0) ∧ Below w9.heap.size w9 w') := fun W hB => by
          have C := implQueueFault_any E 0 w9.heap.size Zw (rs.length + 1) ddw (rs ++ [vid]) W (GE.out W hB).1 (by have := NR.out; omega) (by have := CZw.out.1; omega) ln (by have := (RR.out W hB).2.2.2.2; rw [ln] at this; exact this)
          rw [e2] at C
          exact C.mono fun e w' ⟨h1, h2⟩ => ⟨h1, hB.trans (h2.mono hB.size)⟩
        rw [ln] at r5
        simp at r0 r5
        go_wp2_with fail
        with_reducible refine (C.out wc hbw).mono ?_
        rintro e w10 ⟨rfl, hb10⟩
        obtain ⟨_, _, _, k4⟩ := KK.out w10 hb10
        have r0 := cell_of_row w10 _ 0 _ _ _ k4
        have r5 := cell_of_row w10 _ 5 _ _ _ k4
        rw [ln] at r5
        simp at r0 r5
        obtain ⟨bz, oz, hz, _, _, hzc⟩ := (RR.out w10 hb10).2.2.2.2.at_ (show rs.length < (rs ++ [vid]).length by omega)
        subst hz
        have cz := hzc rs.length (by omega)
        rw [show gi (rs ++ [vid]) rs.length = vid by simp [gi]] at cz
        have wr := wrap_small1 (n := rs.length) (by have := NR.out; omega)
        have b1 : (rs.length : Int) < (rs.length : Int) + 1 := by omega
        clear hzc k4 C
        go_wp2_with fail
        go_meet
        exact ⟨rfl, hb10⟩
      · have hq' : (qw == 0) = false := by simp [hq]
        simp at r0 r5
        go_wp2_with fail
        go_meet
        exact ⟨rfl, hbw⟩
    case rest =>
      obtain ⟨rfl, hbw⟩ := hcut
      obtain ⟨_, k2, _, _⟩ := KK.out wc hbw
      have r0 := cell_of_row wc _ 0 _ _ _ k2
      simp at r0
      by_cases hqa : qa = 0
      rotate_left
      · have hq' : (qa != 0) = true := by simp [hqa]
        clear k2
        go_wp2_with fail
        go_ret
        exact ⟨rfl, B9.out.trans (hbw.mono B9.out.size)⟩
      subst hqa
      by_cases hn0 : xs.length = 0
      · have h' : ((xs.length : Int) == 0) = true := by simp [hn0]
        clear k2
        go_wp2_with fail
        go_ret
        exact ⟨rfl, B9.out.trans (hbw.mono B9.out.size)⟩
      have hn0' : ((xs.length : Int) == 0) = false := by simp; intro h; exact hn0 (by rw [h]; rfl)
      have WS := Woken.start (ys := xs) (o := lo0) (xs := ys) (by rw [HRa.out])
      rw [HRa.out] at WS
      obtain ⟨g1, o1, x1, e1, _⟩ := WS.next (by omega)
      rw [List.drop_zero, HRo.out] at e1
      simp only [Prod.mk.injEq] at e1
      obtain ⟨rfl, rfl, rfl, rfl, rfl, rfl⟩ := e1
      have WK := Lib.hid WS
      have NP := Lib.hid (show 0 < xs.length by omega)
      clear WS k2
      go_upto_region 14 with (fail)
      go_cut [159] from 14 (fun s wx => s = .bool false ∧ Below w9.heap.size w9 wx)
      case first => as_aux_lemma =>
        obtain ⟨bq, oq, hz, _, _, hzc⟩ := (RR.out wc hbw).1.2.at_ NP.out
        subst hz
        have hlq : 1 ≤ xs.length := NP.out
        have ci : (0 : Int) < (xs.length : Int) := by omega
        have hix := run_ix0 bq oq xs.length cq hlq
        have rt := run_tail bq oq xs.length cq hlq
        have SX : Hid (∀ W, Below w9.heap.size w9 W → W.cell? ⟨w5.heap.size, 0, none⟩ = some (.int .i64 0) ∧ W.cell? ⟨w5.heap.size, 2, none⟩ = some (.int .i64 (gi xs 0)) ∧ W.cell? ⟨w5.heap.size, 5, none⟩ = some (.slice Zo (xs.length - 1) ddo) ∧ W.cell? ⟨bq, oq, none⟩ = some (.int .i64 (gi xs 0)) ∧ Below w9.heap.size w9 W) := fun W hB => by
          obtain ⟨_, _, k3, _⟩ := KK.out W hB
          rw [show (xs.drop (0 + 1)).length = xs.length - 1 by simp] at k3
          obtain ⟨b', o', hz, _, _, hzc⟩ := (RR.out W hB).1.2.at_ NP.out
          injection hz with hz
          injection hz with h1 h2
          subst h1; subst h2
          exact ⟨cell_of_row W _ 0 _ _ _ k3, cell_of_row W _ 2 _ _ _ k3, cell_of_row W _ 5 _ _ _ k3, hzc 0 NP.out, hB⟩
        have PX : Hid (∀ W, (W.cell? ⟨w5.heap.size, 0, none⟩ = some (.int .i64 0) ∧ W.cell? ⟨w5.heap.size, 2, none⟩ = some (.int .i64 (gi xs 0)) ∧ W.cell? ⟨w5.heap.size, 5, none⟩ = some (.slice Zo (xs.length - 1) ddo) ∧ W.cell? ⟨bq, oq, none⟩ = some (.int .i64 (gi xs 0)) ∧ Below w9.heap.size w9 W) → Below w9.heap.size w9 W) := fun W h => h.2.2.2.2
        have AN : Hid (∀ W, Below w9.heap.size w9 W → Calls Tryd.prog 25 #[.slice Zo (xs.length - 1) ddo, .slice (some (nextA bq oq cq)) (xs.length - 1) (cq - 1)] W fun e w' => e = .returned (.bool true) ∧ Below w9.heap.size w9 w') := fun W hB => by
          have C := lwNums_any 0 w9.heap.size 0 w9.heap.size Zo (some (nextA bq oq cq)) (xs.drop (0 + 1)) (xs.drop 1) (xs.length - 1) (xs.length - 1) ddo (cq - 1) W (by have := NQ.out; omega) (by simp) (by simp) (by have := (RR.out W hB).2.2.1; rw [show (xs.drop (0 + 1)).length = xs.length - 1 by simp] at this; exact this) (sl_tail rfl CQ.out.1 (RR.out W hB).1.2)
          exact C.mono fun e w' ⟨h1, h2⟩ => ⟨by rw [h1]; simp, hB.trans (h2.mono hB.size)⟩
        have na1 := Lib.hid hbw
        clear hbw hzc
        go_region_held3 (fun W => W.cell? ⟨w5.heap.size, 0, none⟩ = some (.int .i64 0) ∧ W.cell? ⟨w5.heap.size, 2, none⟩ = some (.int .i64 (gi xs 0)) ∧ W.cell? ⟨w5.heap.size, 5, none⟩ = some (.slice Zo (xs.length - 1) ddo) ∧ W.cell? ⟨bq, oq, none⟩ = some (.int .i64 (gi xs 0)) ∧ Below w9.heap.size w9 W) (first | with_reducible exact SX.out _ (by assumption) | exact SX.out _ (Below.drew na1.out)) (first | (go_at_call 25; with_reducible refine (AN.out _ (PX.out _ (by assumption))).mono ?_; rintro e w' ⟨rfl, hb9⟩))
        all_goals (go_wp2_with fail; go_meet; exact ⟨rfl, by assumption⟩)
      case rest =>
      obtain ⟨rfl, hbw⟩ := hcut
      obtain ⟨v0, hv0⟩ : ∃ v0, v0 = wc := ⟨_, rfl⟩
      subst hv0
      obtain ⟨k1, _, _, _⟩ := KK.out v0 hbw
      obtain ⟨⟨sl0, sq0⟩, _⟩ := RR.out v0 hbw
      obtain ⟨v1, hv1⟩ : ∃ v1, v1 = v0.alloc (.cells #[.int .i64 lo0, .slice BL ys.length cl] 26) := ⟨_, rfl⟩
      have KV : Hid (v1.heap[v0.heap.size]? = some (.cells #[.int .i64 lo0, .slice BL ys.length cl] 26 (0, 0))) := by show _ = _; rw [hv1]; exact heap_alloc_new v0 _
      have BV : Hid (Below v0.heap.size v0 v1) := by rw [hv1]; exact below_new v0 _
      have B0 := Lib.hid hbw
      have SL0 := Lib.hid sl0
      have SQ0 := Lib.hid sq0
      have r0 := cell_of_row v0 _ 0 _ _ _ k1
      have r1 := cell_of_row v0 _ 1 _ _ _ k1
      have HV := Lib.hid hv1
      simp at r0 r1
      clear hbw sl0 sq0 k1 hv1
      go_upto_region 17 with (fail)
      rw [← HV.out]
      clear HV r0 r1
      go_wp2_with fail
      go_loopw [11, 12] (fun r i wr => RoundWk v0 xs (0, ga, na, oa, ya, za) r i wr) (fun r i _ => xs.length - (intOf i).toNat)
      case atStart =>
        refine ⟨0, lo0, ys, BQ, BL, cq, cl, Nat.zero_le _, rfl, by rw [Nat.sub_zero], ⟨0, w9.heap.size, .inl B0.out.size, ?_⟩, by rw [Nat.sub_zero]; exact CQ.out, KV.out, ⟨0, w9.heap.size, .inl B0.out.size, SL0.out.below BV.out B0.out.size⟩, CL.out, WK.out, BV.out⟩
        rw [List.drop_zero]
        exact SQ0.out.below BV.out B0.out.size
      case round =>
        obtain ⟨k, o, ys', R, Y, cr, cy, hk, rfl, rfl, hR, hcR, hbx, hY, hcY, hwk, hbw⟩ := hrel
        have BW := Lib.hid hbw
        have BX := Lib.hid hbx
        have HR := Lib.hid hR
        have HY := Lib.hid hY
        have CR' := Lib.hid hcR
        have CY' := Lib.hid hcY
        have HWK := Lib.hid hwk
        have FEW := Lib.hid hwk.few
        have B9w : Hid (Below w9.heap.size w9 wr) := B0.out.trans (hbw.mono B0.out.size)
        clear hbw hbx hR hY hcR hcY
        by_cases hlt : k < xs.length
        · obtain ⟨g', o', x', e1, hwk'⟩ := hwk.next hlt
          have HW' := Lib.hid hwk'
          have hlt' : (k : Int) < (xs.length : Int) := by omega
          obtain ⟨lo1, hi1, hd1, hs1⟩ := HR.out
          obtain ⟨lo2, hi2, hd2, hs2⟩ := HY.out
          rw [List.length_drop] at hs1
          have C := implWakeOne_any E lo2 hi2 lo1 hi1 Y R ys'.length cy (xs.length - k) cr o ys' (xs.drop k) wr (GE.out _ B9w.out).1 (GE.out _ B9w.out).2 (by have := FEW.out.2; omega) CY'.out.1 rfl CY'.out.2 hs2 (by have := NQ.out; omega) CR'.out.1 (by simp) CR'.out.2 hs1
          rw [e1] at C
          have r0 := cell_of_row wr _ 0 _ _ _ BX.out
          have r1 := cell_of_row wr _ 1 _ _ _ BX.out
          simp at r0 r1
          clear hs1 hs2 hwk hwk' e1
          go_wp2_with fail
          with_reducible refine C.mono ?_
          rintro e w2' hla
          obtain ⟨Y2, c2, Z2, d2, rfl, hy, hyc, hz, hzc, hb⟩ := hla.open6
          rw [show (xs.drop (k + 1)).length = xs.length - (k + 1) by simp] at hz hzc ⊢
          have BS := BW.out.size
          have szb := hb.size
          have hlb := (Array.getElem?_eq_some_iff.1 BX.out).1
          obtain ⟨w3', hw3⟩ : ∃ w3', w3' = w2'.alloc (.cells #[.int .i64 0, .bool g', .int .i64 (gi xs k), .int .i64 o', .slice Y2 x'.length c2, .slice Z2 (xs.length - (k + 1)) d2] 30) := ⟨_, rfl⟩
          have k3 : w3'.heap[w2'.heap.size]? = some (.cells #[.int .i64 0, .bool g', .int .i64 (gi xs k), .int .i64 o', .slice Y2 x'.length c2, .slice Z2 (xs.length - (k + 1)) d2] 30 (0, 0)) := by rw [hw3]; exact heap_alloc_new w2' _
          have bn3 : Below w2'.heap.size w2' w3' := by rw [hw3]; exact below_new w2' _
          have bx3 : w3'.heap[v0.heap.size]? = some (.cells #[.int .i64 o, .slice Y ys'.length cy] 26 (0, 0)) := (bn3.block _ (by omega)).trans ((hb.block _ (by omega)).trans BX.out)
          have BB3 : Hid (Below v0.heap.size v0 w3') := BW.out.trans ((hb.trans (bn3.mono hb.size)).mono BS)
          have HY2 : Hid (RowN v0.heap.size w3' Y2 x') := ⟨wr.heap.size, w2'.heap.size, .inr (by omega), hy.below bn3 (Nat.le_refl _)⟩
          have HZ2 : Hid (RowN v0.heap.size w3' Z2 (xs.drop (k + 1))) := ⟨wr.heap.size, w2'.heap.size, .inr (by omega), by rw [List.length_drop]; exact hz.below bn3 (Nat.le_refl _)⟩
          have CY2 := Lib.hid hyc
          have CZ2 := Lib.hid hzc
          have BX3 := Lib.hid bx3
          have HW3 := Lib.hid hw3
          have q0 := cell_of_row w3' _ 0 _ _ _ k3
          have q3 := cell_of_row w3' _ 3 _ _ _ k3
          have q4 := cell_of_row w3' _ 4 _ _ _ k3
          have q5 := cell_of_row w3' _ 5 _ _ _ k3
          have b0 := cell_of_row w3' _ 0 _ _ _ bx3
          have b1 := cell_of_row w3' _ 1 _ _ _ bx3
          have f0 := frozen_of_row w3' _ 0 _ _ bx3
          have f1 := frozen_of_row w3' _ 1 _ _ bx3
          have nb : w2'.heap.size ≠ v0.heap.size := by omega
          simp at q0 q3 q4 q5 b0 b1
          clear hw3 C hla hy hyc hz hzc hb k3 bn3 bx3 szb hlb BS
          go_upto_region 22 with (fail)
          rw [← HW3.out]
          clear HW3 r0 r1
          have wk1 := wrap_small1 (n := k) (by have := NQ.out; omega)
          go_wp2
          go_roundw
          case rel =>
            exact ⟨k + 1, o', x', Z2, Y2, d2, c2, by omega, by rfl, rfl, (HZ2.out.set _ _).set _ _, CZ2.out, heap_setCell_same _ _ 1 _ _ _ (heap_setCell_same _ _ 0 _ _ _ BX3.out), (HY2.out.set _ _).set _ _, CY2.out, HW'.out, (BB3.out.setCell (p := ⟨v0.heap.size, 0, none⟩) (Nat.le_refl _) _).setCell (p := ⟨v0.heap.size, 1, none⟩) (Nat.le_refl _) _⟩
          case measure => simp [intOf]; omega
        · have hke : k = xs.length := by omega
          subst hke
          obtain ⟨h1, h2, h3⟩ := hwk.last
          have h1 : oa = o := h1
          have h2 : ya = ys' := h2
          subst h1; subst h2
          have hlt' : ¬ (xs.length : Int) < (xs.length : Int) := by omega
          obtain ⟨lo2, hi2, hd2, hs2⟩ := HY.out
          have hs3 : Sl wr 0 wr.heap.size Y ya.length (fun k => .int .i64 (gi ya k)) := hs2.lt.wide (Nat.zero_le _) (Nat.min_le_right _ _)
          have r0 := cell_of_row wr _ 0 _ _ _ BX.out
          have r1 := cell_of_row wr _ 1 _ _ _ BX.out
          obtain ⟨_, k2, _, _⟩ := KK.out wr B9w.out
          have q3 := cell_of_row wr _ 3 _ _ _ k2
          have q4 := cell_of_row wr _ 4 _ _ _ k2
          have C := implSameLocks_any 0 wr.heap.size 0 w9.heap.size Y Ya ya.length cy ya.length ca oa oa ya ya wr (by have := FEW.out.2; omega) rfl rfl hs3 (RR.out wr B9w.out).2.1
          have LF := Lib.hid h3
          have HS3 := Lib.hid hs3
          simp at r0 r1 q3 q4
          rw [Nat.sub_self]
          simp only [and_self, decide_true] at C
          clear hs2 hwk h3 k2 hs3
          go_wp2_with fail
          with_reducible refine C.mono ?_
          rintro e w2' ⟨rfl, hb⟩
          have bx2 := (hb.block v0.heap.size (Array.getElem?_eq_some_iff.1 BX.out).1).trans BX.out
          have r0 := cell_of_row w2' _ 0 _ _ _ bx2
          have r1 := cell_of_row w2' _ 1 _ _ _ bx2
          have B92 : Below w9.heap.size w9 w2' := B9w.out.trans (hb.mono B9w.out.size)
          have C := implLockFault_any E 0 wr.heap.size Y ya.length cy oa ya w2' (GE.out _ B92).1 (GE.out _ B92).2 (by have := FEW.out.2; omega) CY'.out.1 rfl (HS3.out.below hb (Nat.le_refl _))
          rw [LF.out] at C
          simp at r0 r1
          clear bx2 hb
          go_wp2_with fail
          with_reducible refine C.mono ?_
          rintro e w3' ⟨rfl, hb⟩
          go_wp2_with fail
          go_ret
          exact ⟨rfl, B9.out.trans ((B92.trans (hb.mono B92.size)).mono B9.out.size)⟩

end Go.Proofs.YtachpoehejdpjaaDoor
