/-
  CountNotes, the model's and the program's: how many notes are of env and of this kind. No conditions beyond that the list can be read.
  Ahead of it:
  An answer of chapter 3 written into a box of the call's own, whether the box was made ahead of the answer or behind it.
  Ahead of it:
  The law's helpers on what a run answers: compare, mark, look again. No conditions beyond that its lists can be read.
  Ahead of it:
  The law's helpers on lists of notes that came in: size, copy; how such a list is opened. No conditions beyond that the lists can be read.
  Ahead of it:
  The laws' helpers on slices of accounts: copy, compare, mark, look again: what each does, for every slice that can be read. No conditions beyond that the slices can be read.
-/
import Derived.Test.YtckapndpefkcgaaGreatChecked
import Derived.Test.YtckapndpefkcgaaGreatDo3
import Derived.Test.YtckapndpefkcgaaGreatLoop3
import Derived.Test.YtckapndpefkcgaaGreatAcc2
import Derived.Test.YtckapndpefkcgaaGreatOwn4
import Derived.Test.YtckapndpefkcgaaGreatKans3
import Derived.Test.YtckapndpefkcgaaGreatU8s
set_option maxHeartbeats 1000000

namespace Go.Proofs.YtckapndpefkcgaaGreat
open Go.RowKit

def m3 (m : Nat) : Bool := decide (((m : Nat) : Int).tmod 3 = 0)
theorem Tryz.info_bool : (Tryz.prog.info? 4).map (fun i => (i.zero, i.size, i.bytes)) = some (some (.bool false), 1, 1) := by kernel_rfl



theorem Tryz.info_Account : (Tryz.prog.info? 68).map (fun i => (i.zero, i.size, i.bytes)) = some (some (.agg #[.int .i64 0, .int .i64 0, .int .i64 0, .int .i64 0]), 4, 32) := by kernel_rfl


set_option maxRecDepth 100000

theorem Tryz.info_Note9 : (Tryz.prog.info? 96).map (fun i => (i.zero, i.size, i.bytes)) = some (some (.agg #[.int .i64 0, .int .i64 0, .int .i64 0]), 3, 24) := by kernel_rfl


theorem RQ.below {w w' : World} {lo hi : Nat} {p : Rq} {K : Ker} {cs ns : List Int} (h : RQ w lo hi p K cs ns) (hb : Below w.heap.size w w') (hh : hi ≤ w.heap.size) : RQ w' lo hi p K cs ns :=
  ⟨h.l1, h.l2, h.l3, h.l4, h.l5, h.m1.below hb (by have := h.b1; omega), h.m2.below hb (by have := h.b2; omega), h.m3.below hb (by have := h.b3; omega), h.m4.below hb (by have := h.b4; omega), h.m5.below hb (by have := h.b5; omega), h.d14, h.b1, h.b2, h.b3, h.b4, h.b5, h.k4, h.k5⟩
theorem RQ.keep {w w' : World} {lo hi : Nat} {p : Rq} {K : Ker} {cs ns : List Int} (h : RQ w lo hi p K cs ns) (hb : ∀ b, lo ≤ b → b < hi → w'.heap[b]? = w.heap[b]?) : RQ w' lo hi p K cs ns :=
  ⟨h.l1, h.l2, h.l3, h.l4, h.l5, h.m1.keep (fun b x y => hb b (by have := h.b1; omega) (by have := h.b1; omega)), h.m2.keep (fun b x y => hb b (by have := h.b2; omega) (by have := h.b2; omega)), h.m3.keep (fun b x y => hb b (by have := h.b3; omega) (by have := h.b3; omega)), h.m4.keep (fun b x y => hb b (by have := h.b4; omega) (by have := h.b4; omega)), h.m5.keep (fun b x y => hb b (by have := h.b5; omega) (by have := h.b5; omega)), h.d14, h.b1, h.b2, h.b3, h.b4, h.b5, h.k4, h.k5⟩

def MkQ (w : World) (p : Rq) : Prop :=
  Mine w p.g1 (p.g1 + 1) 2 p.A1 p.n1 (fun k => .int .i64 ((1 + k : Nat) : Int)) ∧ Mine w p.g2 (p.g2 + 1) 4 p.A2 p.n2 (fun k => .bool (Go.Proofs.YtckapndpefkcgaaGreat.m3 (1 + p.n1 + k))) ∧ Mine w p.g3 (p.g3 + 1) 68 p.A3 (p.n3 * 4) (fun k => .int .i64 ((1 + p.n1 + p.n2 + k : Nat) : Int)) ∧
    Mine w p.g4 (p.g4 + 1) 2 p.A4 p.n4 (fun k => .int .i64 ((1 + p.n1 + p.n2 + p.n3 * 4 + k : Nat) : Int)) ∧ Mine w p.g5 (p.g5 + 1) 96 p.A5 (p.n5 * 3) (fun k => .int .i64 ((1 + p.n1 + p.n2 + p.n3 * 4 + p.n4 + k : Nat) : Int))
def Rq.lt (p : Rq) (w : World) : Prop := p.g1 < w.heap.size ∧ p.g2 < w.heap.size ∧ p.g3 < w.heap.size ∧ p.g4 < w.heap.size ∧ p.g5 < w.heap.size
theorem MkQ.below {w w' : World} {p : Rq} (h : MkQ w p) (b : Below w.heap.size w w') (hg : p.lt w) : MkQ w' p :=
  ⟨h.1.below b hg.1, h.2.1.below b hg.2.1, h.2.2.1.below b hg.2.2.1, h.2.2.2.1.below b hg.2.2.2.1, h.2.2.2.2.below b hg.2.2.2.2⟩


def AnsAt (w : World) (gb : Nat) (q : Int) (K : Ker) (ns : List Int) (W : World) : Prop :=
  ∃ p : Rp, W.heap[gb]? = some (.cells #[.int .i64 q, .slice p.A1 p.n1 p.c1, .slice p.A2 p.n2 p.c2, .slice p.A3 p.n3 p.c3, .int .i64 K.tick, .int .i64 K.run, .slice p.A4 p.n4 p.c4] 61 (0, 0)) ∧ ROwn W w.heap.size W.heap.size p K ns ∧ (gb ≠ p.g1 ∧ gb ≠ p.g2 ∧ gb ≠ p.g3 ∧ gb ≠ p.g4) ∧ (w.heap.size ≤ gb ∧ gb < W.heap.size) ∧ Below w.heap.size w W
theorem ROwn.kep {gs : List Nat} {w w' : World} {lo hi : Nat} {p : Rp} {K : Ker} {ns : List Int} (h : ROwn w lo hi p K ns) (k : Kept gs w w') (h1 : p.g1 ∉ gs) (h2 : p.g2 ∉ gs) (h3 : p.g3 ∉ gs) (h4 : p.g4 ∉ gs) : ROwn w' lo hi p K ns :=
  ⟨h.l1, h.l2, h.l3, h.l4, h.nil1, h.m1.kept k h1, h.m2.kept k h2, h.m3.kept k h3, h.m4.kept k h4, h.d12, h.d13, h.d14, h.d23, h.d24, h.d34, h.b1, h.b2, h.b3, h.b4⟩
theorem ansAt_of {w v : World} {gb lo hi : Nat} {p : Rp} {K : Ker} {q : Int} {ns : List Int} (hx : v.heap[gb]? = some (.cells #[.int .i64 0, .slice none 0 0, .slice none 0 0, .slice none 0 0, .int .i64 0, .int .i64 0, .slice none 0 0] 61 (0, 0))) (ho : ROwn v lo hi p K ns) (hd : gb < lo ∨ hi ≤ gb) (hlo : w.heap.size ≤ lo) (hhi : hi ≤ v.heap.size) (hg : w.heap.size ≤ gb) (hb : Below w.heap.size w v) :
    AnsAt w gb q K ns (v.setRow gb #[.int .i64 q, .slice p.A1 p.n1 p.c1, .slice p.A2 p.n2 p.c2, .slice p.A3 p.n3 p.c3, .int .i64 K.tick, .int .i64 K.run, .slice p.A4 p.n4 p.c4]) := by
  have gl := (Array.getElem?_eq_some_iff.1 hx).1
  have b1 := ho.b1; have b2 := ho.b2; have b3 := ho.b3; have b4 := ho.b4
  have far : ∀ {u n : Nat} {t : TypeId} {A : Option Addr} {f : Nat → Value}, Mine v u (u + 1) t A n f → gb ≠ u → Mine (v.setRow gb #[.int .i64 q, .slice p.A1 p.n1 p.c1, .slice p.A2 p.n2 p.c2, .slice p.A3 p.n3 p.c3, .int .i64 K.tick, .int .i64 K.run, .slice p.A4 p.n4 p.c4]) u (u + 1) t A n f := fun hm hne =>
    hm.keep fun b h1 h2 => setRow_other v gb b _ (by omega)
  have d1 : gb ≠ p.g1 := by omega
  have d2 : gb ≠ p.g2 := by omega
  have d3 : gb ≠ p.g3 := by omega
  have d4 : gb ≠ p.g4 := by omega
  refine ⟨p, setRow_heap v gb _ _ _ _ hx, ⟨ho.l1, ho.l2, ho.l3, ho.l4, ho.nil1, far ho.m1 d1, far ho.m2 d2, far ho.m3 d3, far ho.m4 d4, ho.d12, ho.d13, ho.d14, ho.d23, ho.d24, ho.d34, ?_, ?_, ?_, ?_⟩, ⟨d1, d2, d3, d4⟩, ⟨hg, by simp; exact gl⟩, below_setRow hb hg _⟩
  all_goals (simp; omega)

theorem AnsAt.below {w W W' : World} {gb : Nat} {q : Int} {K : Ker} {ns : List Int} (h : AnsAt w gb q K ns W) (hb : Below W.heap.size W W') : AnsAt w gb q K ns W' := by
  obtain ⟨p, hx, ho, hd, hg, hw⟩ := h
  have hs := hb.size
  have ho2 := ho.kep (Kept.of_below hb []) (by simp) (by simp) (by simp) (by simp)
  have b1 := ho2.b1; have b2 := ho2.b2; have b3 := ho2.b3; have b4 := ho2.b4
  exact ⟨p, (hb.block gb hg.2).trans hx, ⟨ho2.l1, ho2.l2, ho2.l3, ho2.l4, ho2.nil1, ho2.m1, ho2.m2, ho2.m3, ho2.m4, ho2.d12, ho2.d13, ho2.d14, ho2.d23, ho2.d24, ho2.d34, ⟨b1.1, by omega⟩, ⟨b2.1, by omega⟩, ⟨b3.1, by omega⟩, ⟨b4.1, by omega⟩⟩, hd, ⟨hg.1, by omega⟩, hw.trans (hb.mono hw.size)⟩
theorem AnsAt.fst {w W : World} {gb : Nat} {q : Int} {K : Ker} {ns : List Int} (h : AnsAt w gb q K ns W) : Below w.heap.size w W := by obtain ⟨_, _, _, _, _, h⟩ := h; exact h

def MkR (w : World) (p : Rp) : Prop :=
  Mine w p.g1 (p.g1 + 1) 2 p.A1 p.n1 (fun k => .int .i64 ((1 + k : Nat) : Int)) ∧ Mine w p.g2 (p.g2 + 1) 4 p.A2 p.n2 (fun k => .bool (Go.Proofs.YtckapndpefkcgaaGreat.m3 (1 + p.n1 + k))) ∧ Mine w p.g3 (p.g3 + 1) 68 p.A3 (p.n3 * 4) (fun k => .int .i64 ((1 + p.n1 + p.n2 + k : Nat) : Int)) ∧
    Mine w p.g4 (p.g4 + 1) 96 p.A4 (p.n4 * 3) (fun k => .int .i64 ((1 + p.n1 + p.n2 + p.n3 * 4 + k : Nat) : Int))
theorem MkR.below {w w' : World} {p : Rp} (h : MkR w p) (b : Below w.heap.size w w') (hg : p.g1 < w.heap.size ∧ p.g2 < w.heap.size ∧ p.g3 < w.heap.size ∧ p.g4 < w.heap.size) : MkR w' p :=
  ⟨h.1.below b hg.1, h.2.1.below b hg.2.1, h.2.2.1.below b hg.2.2.1, h.2.2.2.below b hg.2.2.2⟩


def nct (x : Nat → Int) (ev kd : Int) : Nat → Nat
  | 0 => 0
  | i + 1 => nct x ev kd i + (if x (i * 3 + 1) = ev ∧ x (i * 3 + 2) = kd then 1 else 0)
theorem nct_le (x : Nat → Int) (ev kd : Int) : ∀ n, nct x ev kd n ≤ n
  | 0 => Nat.le_refl _
  | i + 1 => by
    have := nct_le x ev kd i
    unfold nct
    split <;> omega

theorem specCountNotes_any (lo hi : Nat) (A : Option Addr) (n c : Nat) (x : Nat → Int) (ev kd : Int) (w : World) (hn : n ≤ 1048576) (h : Sl w lo hi A (n * 3) (fun k => .int .i64 (x k))) :
    Calls Tryz.prog 15 #[.slice A n c, .int .i64 ev, .int .i64 kd] w fun e w' => e = .returned (.int .i64 (nct x ev kd n)) ∧ Below w.heap.size w w' := by
  have H := Lib.hid h.lt
  clear h
  go_enter Tryz.func15, Tryz.ntmps15
  go_wp2_with fail
  go_loopw [7, 8] (fun q i wr => ∃ k : Nat, k ≤ n ∧ i = .int .i64 (k : Int) ∧ q = .int .i64 (nct x ev kd k : Int) ∧ Below w.heap.size w wr) (fun _ i _ => n - (intOf i).toNat)
  case atStart => exact ⟨0, Nat.zero_le _, rfl, rfl, Below.refl _ _⟩
  case round =>
    obtain ⟨k, hk, rfl, rfl, hb⟩ := hrel
    have BR := Lib.hid hb
    by_cases hlt : k < n
    · obtain ⟨b, off, rfl, h1, h2, hc⟩ := H.out.at_ (show k * 3 < n * 3 by omega)
      have c0 : wr.cell? ⟨b, off + k * 3, none⟩ = some (.int .i64 (x (k * 3))) := (hb.cell (p := ⟨b, off + (k * 3), none⟩) (by simp; omega)).trans (hc (k * 3) (by omega))
      have c1 : wr.cell? ⟨b, off + k * 3 + 1, none⟩ = some (.int .i64 (x (k * 3 + 1))) := (hb.cell (p := ⟨b, off + (k * 3 + 1), none⟩) (by simp; omega)).trans (hc (k * 3 + 1) (by omega))
      have c2 : wr.cell? ⟨b, off + k * 3 + 2, none⟩ = some (.int .i64 (x (k * 3 + 2))) := (hb.cell (p := ⟨b, off + (k * 3 + 2), none⟩) (by simp; omega)).trans (hc (k * 3 + 2) (by omega))
      have NX := Lib.hid (show nct x ev kd (k + 1) = nct x ev kd k + (if x (k * 3 + 1) = ev ∧ x (k * 3 + 2) = kd then 1 else 0) from rfl)
      have NL := nct_le x ev kd k
      have z0 : (0 : Int) ≤ (k : Int) := by omega
      have z1 : (k : Int) < (n : Int) := by omega
      generalize x (k * 3 + 1) = a1 at *
      generalize x (k * 3 + 2) = a2 at *
      clear hb hc c0
      by_cases e1 : a1 = ev
      · have y1 : (a1 == ev) = true := by simp [e1]
        by_cases e2 : a2 = kd
        · have y2 : (a2 == kd) = true := by simp [e2]
          have E := Lib.hid (And.intro e1 e2)
          clear e1 e2
          go_wp2
          go_roundw
          case rel => exact ⟨k + 1, by omega, by go_num, by rw [NX.out, if_pos E.out]; go_num, BR.out⟩
          case measure => simp [intOf]; omega
        · have y2 : (a2 == kd) = false := by simp [e2]
          have E : Hid (¬ (a1 = ev ∧ a2 = kd)) := fun hh => e2 hh.2
          clear e1 e2
          go_wp2
          go_roundw
          case rel => exact ⟨k + 1, by omega, by go_num, by rw [NX.out, if_neg E.out]; go_num, BR.out⟩
          case measure => simp [intOf]; omega
      · have y1 : (a1 == ev) = false := by simp [e1]
        have E : Hid (¬ (a1 = ev ∧ a2 = kd)) := fun hh => e1 hh.1
        clear e1
        go_wp2
        go_roundw
        case rel => exact ⟨k + 1, by omega, by go_num, by rw [NX.out, if_neg E.out]; go_num, BR.out⟩
        case measure => simp [intOf]; omega
    · obtain rfl : k = n := by omega
      go_wp2
      go_ret
      exact ⟨rfl, BR.out⟩

theorem implCountNotes_any (lo hi : Nat) (A : Option Addr) (n c : Nat) (x : Nat → Int) (ev kd : Int) (w : World) (hn : n ≤ 1048576) (h : Sl w lo hi A (n * 3) (fun k => .int .i64 (x k))) :
    Calls Tryz.prog 14 #[.slice A n c, .int .i64 ev, .int .i64 kd] w fun e w' => e = .returned (.int .i64 (nct x ev kd n)) ∧ Below w.heap.size w w' := by
  have H := Lib.hid h.lt
  clear h
  go_enter Tryz.func14, Tryz.ntmps14
  go_wp2_with fail
  go_loopw [7, 12] (fun q i wr => ∃ k : Nat, k ≤ n ∧ i = .int .i64 (k : Int) ∧ q = .int .i64 (nct x ev kd k : Int) ∧ Below w.heap.size w wr) (fun _ i _ => n - (intOf i).toNat)
  case atStart => exact ⟨0, Nat.zero_le _, rfl, rfl, Below.refl _ _⟩
  case round =>
    obtain ⟨k, hk, rfl, rfl, hb⟩ := hrel
    have BR := Lib.hid hb
    by_cases hlt : k < n
    · obtain ⟨b, off, rfl, h1, h2, hc⟩ := H.out.at_ (show k * 3 < n * 3 by omega)
      have c0 : wr.cell? ⟨b, off + k * 3, none⟩ = some (.int .i64 (x (k * 3))) := (hb.cell (p := ⟨b, off + (k * 3), none⟩) (by simp; omega)).trans (hc (k * 3) (by omega))
      have c1 : wr.cell? ⟨b, off + k * 3 + 1, none⟩ = some (.int .i64 (x (k * 3 + 1))) := (hb.cell (p := ⟨b, off + (k * 3 + 1), none⟩) (by simp; omega)).trans (hc (k * 3 + 1) (by omega))
      have c2 : wr.cell? ⟨b, off + k * 3 + 2, none⟩ = some (.int .i64 (x (k * 3 + 2))) := (hb.cell (p := ⟨b, off + (k * 3 + 2), none⟩) (by simp; omega)).trans (hc (k * 3 + 2) (by omega))
      have NX := Lib.hid (show nct x ev kd (k + 1) = nct x ev kd k + (if x (k * 3 + 1) = ev ∧ x (k * 3 + 2) = kd then 1 else 0) from rfl)
      have NL := nct_le x ev kd k
      have z0 : (0 : Int) ≤ (k : Int) := by omega
      have z1 : (k : Int) < (n : Int) := by omega
      obtain ⟨w9, hw9⟩ : ∃ V, V = wr.alloc (.cells #[.int .i64 (x (k * 3)), .int .i64 (x (k * 3 + 1)), .int .i64 (x (k * 3 + 2))] 96) := ⟨_, rfl⟩
      have K9 : w9.heap[wr.heap.size]? = some (.cells #[.int .i64 (x (k * 3)), .int .i64 (x (k * 3 + 1)), .int .i64 (x (k * 3 + 2))] 96 (0, 0)) := by rw [hw9]; exact heap_alloc_new wr _
      have B9 : Hid (Below w.heap.size w w9) := by rw [hw9]; exact BR.out.trans ((below_new wr _).mono BR.out.size)
      have u1 := cell_of_row w9 _ 1 _ _ _ K9; have u2 := cell_of_row w9 _ 2 _ _ _ K9
      simp at u1 u2
      have HW9 := Lib.hid hw9
      clear hw9 K9 hb hc
      go_upto_region 5 with (fail)
      rw [← HW9.out]
      clear HW9 c0 c1 c2
      generalize x (k * 3 + 1) = a1 at *
      generalize x (k * 3 + 2) = a2 at *
      by_cases e1 : a1 = ev
      · have y1 : (a1 == ev) = true := by simp [e1]
        by_cases e2 : a2 = kd
        · have y2 : (a2 == kd) = true := by simp [e2]
          have E := Lib.hid (And.intro e1 e2)
          clear e1 e2
          go_wp2
          go_roundw
          case rel => exact ⟨k + 1, by omega, by go_num, by rw [NX.out, if_pos E.out]; go_num, B9.out⟩
          case measure => simp [intOf]; omega
        · have y2 : (a2 == kd) = false := by simp [e2]
          have E : Hid (¬ (a1 = ev ∧ a2 = kd)) := fun hh => e2 hh.2
          clear e1 e2
          go_wp2
          go_roundw
          case rel => exact ⟨k + 1, by omega, by go_num, by rw [NX.out, if_neg E.out]; go_num, B9.out⟩
          case measure => simp [intOf]; omega
      · have y1 : (a1 == ev) = false := by simp [e1]
        have E : Hid (¬ (a1 = ev ∧ a2 = kd)) := fun hh => e1 hh.1
        clear e1
        go_wp2
        go_roundw
        case rel => exact ⟨k + 1, by omega, by go_num, by rw [NX.out, if_neg E.out]; go_num, B9.out⟩
        case measure => simp [intOf]; omega
    · obtain rfl : k = n := by omega
      go_wp2
      go_ret
      exact ⟨rfl, BR.out⟩

end Go.Proofs.YtckapndpefkcgaaGreat
