/-
  The laws' own helpers on slices of int64 (copy, compare, mark, look again): what each does, for every slice that can be read. No conditions beyond that the slices can be read.
-/
import Derived.Test.YtaemegkdmbhpnaaChecked
import Derived.Test.YtaemegkdmbhpnaaBase
namespace Go.Proofs.Ytaemegkdmbhpnaa
open Go.RowKit

theorem Try.info_i64 : (Try.prog.info? 2).map (fun i => (i.zero, i.size, i.bytes)) = some (some (.int .i64 0), 1, 8) := by kernel_rfl

/-- toInt64S: a new row that reads as the slice did. -/
theorem toInt64S_any (lo hi : Nat) (A : Option Addr) (n c : Nat) (x : Nat → Int) (w : World) (hn : n * 8 ≤ 140737488351232) (h : Sl w lo hi A n (fun k => .int .i64 (x k))) (hhi : hi ≤ w.heap.size) :
    Calls Try.prog 74 #[.slice A n c] w fun e w' =>
      e = .returned (.slice (some ⟨w.heap.size, 0, none⟩) n n) ∧ Row w' w.heap.size 0 2 n (fun k => .int .i64 (x k)) ∧ Below w.heap.size w w' := by
  have hmk := run_make_row' (P := Try.prog) 22 2 (.int .i64 0) 8 Try.underlying22 Try.info_i64 rfl .i64 .i64 n (by omega) (by omega)
  have H := Lib.hid h
  clear h
  go_enter Try.func74, Try.ntmps74
  go_wp2
  go_loopw [4] (fun i wr => ∃ k : Nat, k ≤ n ∧ i = .int .i64 k ∧ Row wr w.heap.size 0 2 n (fun j => if j < k then .int .i64 (x j) else .int .i64 0) ∧ Below w.heap.size w wr) (fun i _ => n - (intOf i).toNat)
  case atStart => exact ⟨0, Nat.zero_le _, rfl, (Row.made w _ n _).congr (fun k hk => by simp), (Below.refl _ _).alloc (Nat.le_refl _) _⟩
  case round =>
    obtain ⟨k, hk, rfl, hrow, hb⟩ := hrel
    by_cases hlt : k < n
    · obtain ⟨b, off, rfl, h1, h2, hc⟩ := H.out.at_ hlt
      have hck := (hb.cell (p := ⟨b, off + k, none⟩) (by simp; omega)).trans (hc k hlt)
      have hco := hrow.cell hlt
      have hfo := hrow.frozen (0 + k)
      rw [Nat.zero_add] at hco hfo
      have R : Row (wr.setCell ⟨w.heap.size, k, none⟩ (.int .i64 (x k))) w.heap.size 0 2 n (fun j => if j < k + 1 then .int .i64 (x j) else .int .i64 0) := by
        have := hrow.set hlt (.int .i64 (x k))
        rw [Nat.zero_add] at this
        refine this.congr fun j hj => ?_
        by_cases e : j = k
        · subst e; simp
        · by_cases e2 : j < k
          · rw [if_neg e, if_pos e2, if_pos (by omega)]
          · rw [if_neg e, if_neg e2, if_neg (by omega)]
      have B : Below w.heap.size w (wr.setCell ⟨w.heap.size, k, none⟩ (.int .i64 (x k))) := hb.setCell (Nat.le_refl _) _
      have HR := Lib.hid R
      have HB := Lib.hid B
      clear R B hc hrow hb H
      go_wp2
      go_roundw
      case rel => exact ⟨k + 1, by omega, by go_num, HR.out, HB.out⟩
      case measure => simp [intOf]; omega
    · go_wp2
      go_ret
      exact ⟨rfl, hrow.congr (fun j hj => by rw [if_pos (by omega)]), hb⟩

/-- eqInt64S of two slices that read alike: true. -/
theorem eqInt64S_same (lo hi lo' hi' : Nat) (A A' : Option Addr) (n c c' : Nat) (x : Nat → Int) (w : World) (hn : n * 8 ≤ 140737488351232)
    (h : Sl w lo hi A n (fun k => .int .i64 (x k))) (h' : Sl w lo' hi' A' n (fun k => .int .i64 (x k))) :
    Calls Try.prog 79 #[.slice A n c, .slice A' n c'] w fun e w' => e = .returned (.bool true) ∧ Below w.heap.size w w' := by
  have H := Lib.hid h
  have H' := Lib.hid h'
  clear h h'
  go_enter Try.func79, Try.ntmps79
  go_wp2
  go_loopw [5] (fun i wr => ∃ k : Nat, k ≤ n ∧ i = .int .i64 k ∧ Below w.heap.size w wr) (fun i _ => n - (intOf i).toNat)
  case atStart => exact ⟨0, Nat.zero_le _, rfl, Below.refl _ _⟩
  case round =>
    obtain ⟨k, hk, rfl, hb⟩ := hrel
    by_cases hlt : k < n
    · obtain ⟨b, off, rfl, h1, h2, hc⟩ := H.out.lt.at_ hlt
      obtain ⟨b', off', rfl, h1', h2', hc'⟩ := H'.out.lt.at_ hlt
      have hck := (hb.cell (p := ⟨b, off + k, none⟩) (by simp; omega)).trans (hc k hlt)
      have hck' := (hb.cell (p := ⟨b', off' + k, none⟩) (by simp; omega)).trans (hc' k hlt)
      have HB := Lib.hid hb
      clear hb hc hc' H H'
      go_wp2_with fail
      go_quiet (fail)
      go_wp2
      go_roundw
      case rel => exact ⟨k + 1, by omega, by go_num, below_drewN HB.out _⟩
      case measure => simp [intOf]; omega
    · go_wp2
      go_ret
      exact ⟨rfl, hb⟩

/-- markInt64S of a row of one's own: the row reads k, k + 1, .. afterwards; nothing else turns. -/
theorem markInt64S_any (lo hi : Nat) (A : Option Addr) (n c : Nat) (x : Nat → Value) (m : Nat) (w : World) (hn : n * 8 ≤ 140737488351232) (hm : m ≤ 4611686018427387904)
    (hx : ∀ k, k < n → ∃ y, x k = .int .i64 y) (h : Mine w lo hi 2 A n x) :
    Calls Try.prog 103 #[.slice A n c, .int .i64 m] w fun e w' =>
      e = .returned (.int .i64 ((m + n : Nat) : Int)) ∧ Mine w' lo hi 2 A n (fun k => .int .i64 ((m + k : Nat) : Int)) ∧ Only lo hi w w' := by
  have H := Lib.hid h
  have X := Lib.hid hx
  clear h hx
  go_enter Try.func103, Try.ntmps103
  go_wp2
  go_loopw [1, 5] (fun q i wr => ∃ k : Nat, k ≤ n ∧ i = .int .i64 k ∧ q = .int .i64 ((m + k : Nat) : Int) ∧ Mine wr lo hi 2 A n (fun j => if j < k then .int .i64 ((m + j : Nat) : Int) else x j) ∧ Only lo hi w wr) (fun _ i _ => n - (intOf i).toNat)
  case atStart => exact ⟨0, Nat.zero_le _, rfl, rfl, H.out.congr (fun k hk => by simp), Only.refl _ _ _⟩
  case round =>
    obtain ⟨k, hk, rfl, rfl, hmine, hb⟩ := hrel
    by_cases hlt : k < n
    · rcases hmine with h0 | ⟨g, off, rfl, h1, h2, hrow⟩
      · omega
      obtain ⟨y, hy⟩ := X.out k hlt
      have hco := hrow.cell hlt
      simp only [Nat.lt_irrefl, if_false] at hco
      rw [hy] at hco
      have hfo := hrow.frozen (off + k)
      have R : Row (wr.setCell ⟨g, off + k, none⟩ (.int .i64 ((m + k : Nat) : Int))) g off 2 n (fun j => if j < k + 1 then .int .i64 ((m + j : Nat) : Int) else x j) := by
        refine (hrow.set hlt (.int .i64 ((m + k : Nat) : Int))).congr fun j hj => ?_
        by_cases e : j = k
        · subst e; simp
        · by_cases e2 : j < k
          · rw [if_neg e, if_pos e2, if_pos (by omega)]
          · rw [if_neg e, if_neg e2, if_neg (by omega)]
      have HR := Lib.hid R
      have HB := Lib.hid (hb.setCell (p := ⟨g, off + k, none⟩) h1 h2 (.int .i64 ((m + k : Nat) : Int)))
      have e1 : ((m + k : Nat) : Int) = (m : Int) + k := by omega
      rw [e1] at HR HB
      rw [e1]
      clear e1 R hb hrow H X hy
      go_wp2
      go_roundw
      case rel => exact ⟨k + 1, by omega, by go_num, by go_num, .inr ⟨g, off, rfl, h1, h2, HR.out⟩, HB.out⟩
      case measure => simp [intOf]; omega
    · have e0 : k = n := by omega
      subst e0
      go_wp2
      go_ret
      exact ⟨rfl, hmine.congr (fun j hj => by rw [if_pos hj]), hb⟩

/-- heldInt64S of a slice that reads m, m + 1, ..: m + n. -/
theorem heldInt64S_any (lo hi : Nat) (A : Option Addr) (n c : Nat) (m : Nat) (w : World) (hn : n * 8 ≤ 140737488351232) (hm : m ≤ 4611686018427387904)
    (h : Sl w lo hi A n (fun k => .int .i64 ((m + k : Nat) : Int))) :
    Calls Try.prog 104 #[.slice A n c, .int .i64 m] w fun e w' => e = .returned (.int .i64 ((m + n : Nat) : Int)) ∧ Below w.heap.size w w' := by
  have H := Lib.hid h
  clear h
  go_enter Try.func104, Try.ntmps104
  go_wp2
  go_loopw [1, 5] (fun q i wr => ∃ k : Nat, k ≤ n ∧ i = .int .i64 k ∧ q = .int .i64 ((m + k : Nat) : Int) ∧ Below w.heap.size w wr) (fun _ i _ => n - (intOf i).toNat)
  case atStart => exact ⟨0, Nat.zero_le _, rfl, rfl, Below.refl _ _⟩
  case round =>
    obtain ⟨k, hk, rfl, rfl, hb⟩ := hrel
    by_cases hlt : k < n
    · obtain ⟨b, off, rfl, h1, h2, hc⟩ := H.out.lt.at_ hlt
      have hck := (hb.cell (p := ⟨b, off + k, none⟩) (by simp; omega)).trans (hc k hlt)
      have HB := Lib.hid hb
      have e1 : ((m + k : Nat) : Int) = (m : Int) + k := by omega
      rw [e1] at hck
      rw [e1]
      clear e1 hb hc H
      go_wp2
      go_roundw
      case rel => exact ⟨k + 1, by omega, by go_num, by go_num, HB.out⟩
      case measure => simp [intOf]; omega
    · have e0 : k = n := by omega
      subst e0
      go_wp2
      go_ret
      exact ⟨rfl, hb⟩

/-- eqIntsResult of two answers that read alike: true. -/
theorem eqIntsResult_same (lo hi lo' hi' : Nat) (A A' : Option Addr) (n c c' : Nat) (q : Int) (x : Nat → Int) (w : World) (hn : n * 8 ≤ 140737488351232)
    (h : Sl w lo hi A n (fun k => .int .i64 (x k))) (h' : Sl w lo' hi' A' n (fun k => .int .i64 (x k))) :
    Calls Try.prog 22 #[.agg #[.int .i64 q, .slice A n c], .agg #[.int .i64 q, .slice A' n c']] w fun e w' => e = .returned (.bool true) ∧ Below w.heap.size w w' := by
  have H := Lib.hid h
  have H' := Lib.hid h'
  clear h h'
  go_enter Try.func22, Try.ntmps22
  go_wp2_with fail
  have B2 : ∀ o o', Below w.heap.size w ((w.alloc o).alloc o') := fun o o' => ((Below.refl _ _).alloc (Nat.le_refl _) o).alloc (by simp) o'
  refine (eqInt64S_same lo (min hi w.heap.size) lo' (min hi' w.heap.size) A A' n c c' x _ hn (H.out.lt.below (B2 _ _) (by omega)) (H'.out.lt.below (B2 _ _) (by omega))).mono ?_
  rintro e w' ⟨rfl, hb⟩
  have HB := Lib.hid ((B2 _ _).trans (hb.mono (by simp; omega)))
  clear hb B2
  go_wp2
  go_ret
  exact ⟨rfl, HB.out⟩

/-- markIntsResult of an answer whose list is one's own. -/
theorem markIntsResult_any (lo hi : Nat) (A : Option Addr) (n c : Nat) (q : Int) (x : Nat → Value) (m : Nat) (w : World) (hn : n * 8 ≤ 140737488351232) (hm : m ≤ 4611686018427387904) (hlo : lo ≤ w.heap.size)
    (hx : ∀ k, k < n → ∃ y, x k = .int .i64 y) (h : Mine w lo hi 2 A n x) (hhi : hi ≤ w.heap.size) :
    Calls Try.prog 24 #[.agg #[.int .i64 q, .slice A n c], .int .i64 m] w fun e w' =>
      e = .returned (.int .i64 ((m + n : Nat) : Int)) ∧ Mine w' lo hi 2 A n (fun k => .int .i64 ((m + k : Nat) : Int)) ∧ Only lo hi w w' := by
  have H := Lib.hid h
  have X := Lib.hid hx
  clear h hx
  go_enter Try.func24, Try.ntmps24
  go_wp2_with fail
  have B1 : ∀ o, Below w.heap.size w (w.alloc o) := fun o => (Below.refl _ _).alloc (Nat.le_refl _) o
  refine (markInt64S_any lo hi A n c x m _ hn hm X.out (H.out.below (B1 _) hhi)).mono ?_
  rintro e w' ⟨rfl, hmine, hb⟩
  have HB := Lib.hid ((Only.of_below (B1 _) hlo).trans hb)
  have HM := Lib.hid hmine
  clear hb B1 hmine
  go_wp2
  go_ret
  exact ⟨rfl, HM.out, HB.out⟩

/-- heldIntsResult of an answer whose list reads m, m + 1, .. -/
theorem heldIntsResult_any (lo hi : Nat) (A : Option Addr) (n c : Nat) (q : Int) (m : Nat) (w : World) (hn : n * 8 ≤ 140737488351232) (hm : m ≤ 4611686018427387904)
    (h : Sl w lo hi A n (fun k => .int .i64 ((m + k : Nat) : Int))) :
    Calls Try.prog 25 #[.agg #[.int .i64 q, .slice A n c], .int .i64 m] w fun e w' => e = .returned (.int .i64 ((m + n : Nat) : Int)) ∧ Below w.heap.size w w' := by
  have H := Lib.hid h
  clear h
  go_enter Try.func25, Try.ntmps25
  go_wp2_with fail
  have B1 : ∀ o, Below w.heap.size w (w.alloc o) := fun o => (Below.refl _ _).alloc (Nat.le_refl _) o
  refine (heldInt64S_any lo (min hi w.heap.size) A n c m _ hn hm (H.out.lt.below (B1 _) (by omega))).mono ?_
  rintro e w' ⟨rfl, hb⟩
  have HB := Lib.hid ((B1 _).trans (hb.mono (by simp)))
  clear hb B1
  go_wp2
  go_ret
  exact ⟨rfl, HB.out⟩

/-- eqIntResult of two answers that are alike: true. -/
theorem eqIntResult_same (q v : Int) (w : World) :
    Calls Try.prog 13 #[.agg #[.int .i64 q, .int .i64 v], .agg #[.int .i64 q, .int .i64 v]] w fun e w' => e = .returned (.bool true) ∧ Below w.heap.size w w' := by
  have B2 : Hid (∀ o o', Below w.heap.size w ((w.alloc o).alloc o')) := fun o o' => ((Below.refl _ _).alloc (Nat.le_refl _) o).alloc (by simp) o'
  go_enter Try.func13, Try.ntmps13
  go_wp2
  go_ret
  exact ⟨rfl, B2.out _ _⟩

end Go.Proofs.Ytaemegkdmbhpnaa
