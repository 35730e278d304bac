/-
  The laws' helpers on entries and on slices of entries: copy, compare, mark, look again: what each does, for every slice that can be read. No conditions beyond that the slices can be read.
-/
import Derived.Test.YtfaamjbdffcngaaChecked
import Derived.Test.YtfaamjbdffcngaaBase3
namespace Go.Proofs.Ytfaamjbdffcngaa
open Go.RowKit

theorem toEntry_any (a b : Int) (w : World) :
    Calls Try.prog 28 #[.agg #[.int .i64 a, .int .i64 b]] w fun r w' => r = .returned (.agg #[.int .i64 a, .int .i64 b]) ∧ Below w.heap.size w w' := by
  have B3 : Hid (∀ o o' o'', Below w.heap.size w (((w.alloc o).alloc o').alloc o'')) := fun o o' o'' => (((Below.refl _ _).alloc (Nat.le_refl _) o).alloc (by simp) o').alloc (by simp; omega) o''
  go_enter Try.func28, Try.ntmps28
  go_wp2
  go_returns
  exact ⟨rfl, B3.out _ _ _⟩

theorem eqEntry_same (a b : Int) (w : World) :
    Calls Try.prog 59 #[.agg #[.int .i64 a, .int .i64 b], .agg #[.int .i64 a, .int .i64 b]] w fun e w' => e = .returned (.bool true) ∧ Below w.heap.size w w' := by
  have B2 : Hid (∀ o o', Below w.heap.size w ((w.alloc o).alloc o')) := fun o o' => ((Below.refl _ _).alloc (Nat.le_refl _) o).alloc (by simp) o'
  go_enter Try.func59, Try.ntmps59
  go_wp2
  go_ret
  exact ⟨rfl, B2.out _ _⟩

theorem Row.set2 {w : World} {g : Nat} {t : TypeId} {n i : Nat} {f : Nat → Value} (h : Row w g 0 t n f) (hi : i + 1 < n) (u0 u1 : Value) :
    Row ((w.setCell ⟨g, i, none⟩ u0).setCell ⟨g, i + 1, none⟩ u1) g 0 t n (fun k => (if k = i + 1 then u1 else (if k = i then u0 else f k))) := by
  have h0 := Row.set h (show i < n by omega) u0
  rw [Nat.zero_add] at h0
  have h1 := Row.set h0 (show i + 1 < n by omega) u1
  rw [Nat.zero_add] at h1
  exact h1
theorem below_set2 {B : Nat} {a w : World} {g i : Nat} (h : Below B a w) (hg : B ≤ g) (u0 u1 : Value) : Below B a ((w.setCell ⟨g, i, none⟩ u0).setCell ⟨g, i + 1, none⟩ u1) :=
  (h.setCell (p := ⟨g, i, none⟩) hg u0).setCell (p := ⟨g, i + 1, none⟩) hg u1
theorem next2 {N : Nat} (i : Nat) (x : Nat → Int) : ∀ k, k < N → (if k = i * 2 + 1 then .int .i64 (x (i * 2 + 1)) else (if k = i * 2 then .int .i64 (x (i * 2)) else (if k < i * 2 then Value.int .i64 (x k) else .int .i64 0))) = (if k < (i + 1) * 2 then Value.int .i64 (x k) else .int .i64 0) := by
  intro k _
  by_cases e1 : k = i * 2 + 1
  · subst e1; first | (simp; done) | (simp; omega)
  rw [if_neg e1]
  by_cases e0 : k = i * 2
  · subst e0; first | (simp; done) | (simp; omega)
  rw [if_neg e0]
  by_cases hk : k < i * 2
  · rw [if_pos hk, if_pos (by omega)]
  · rw [if_neg hk, if_neg (by omega)]

theorem Row.mark2 {w : World} {g off n k m : Nat} {t : TypeId} {x : Nat → Value} (h : Row w g off t (n * 2) (fun j => if j < k * 2 then .int .i64 ((m + j : Nat) : Int) else x j)) (hk : k < n) :
    Row ((w.setCell ⟨g, off + k * 2, none⟩ (.int .i64 ((m : Int) + k * 2))).setCell ⟨g, off + k * 2 + 1, none⟩ (.int .i64 ((m : Int) + k * 2 + 1))) g off t (n * 2) (fun j => if j < (k + 1) * 2 then .int .i64 ((m + j : Nat) : Int) else x j) := by
  have h0 := Row.set h (show k * 2 < n * 2 by omega) (.int .i64 ((m : Int) + k * 2))
  have h1 := Row.set h0 (show k * 2 + 1 < n * 2 by omega) (.int .i64 ((m : Int) + k * 2 + 1))
  refine Row.congr h1 fun j hj => ?_
  by_cases e1 : j = k * 2 + 1
  · subst e1; rw [if_pos rfl, if_pos (by omega)]; first | (congr 1; done) | (congr 1; omega)
  rw [if_neg e1]
  by_cases e0 : j = k * 2
  · subst e0; rw [if_pos rfl, if_pos (by omega)]; first | (congr 1; done) | (congr 1; omega)
  rw [if_neg e0]
  by_cases hk : j < k * 2
  · rw [if_pos hk, if_pos (by omega)]
  · rw [if_neg hk, if_neg (by omega)]
theorem Only.set2 {lo hi : Nat} {w w' : World} {g i : Nat} (h : Only lo hi w w') (h1 : lo ≤ g) (h2 : g < hi) (u0 u1 : Value) : Only lo hi w ((w'.setCell ⟨g, i, none⟩ u0).setCell ⟨g, i + 1, none⟩ u1) :=
  (h.setCell (p := ⟨g, i, none⟩) h1 h2 u0).setCell (p := ⟨g, i + 1, none⟩) h1 h2 u1

theorem Try.info_Entry : (Try.prog.info? 26).map (fun i => (i.zero, i.size, i.bytes)) = some (some (.agg #[.int .i64 0, .int .i64 0]), 2, 16) := by kernel_rfl

/-- toEntryS: a new row that reads as the slice did. -/
theorem toEntryS_any (lo hi : Nat) (A : Option Addr) (n c : Nat) (x : Nat → Int) (w : World) (hn : n * 16 ≤ 140737488351232) (h : Sl w lo hi A (n * 2) (fun k => .int .i64 (x k))) (hhi : hi ≤ w.heap.size) :
    Calls Try.prog 30 #[.slice A n c] w fun e w' =>
      e = .returned (.slice (some ⟨w.heap.size, 0, none⟩) n n) ∧ Row w' w.heap.size 0 26 (n * 2) (fun k => .int .i64 (x k)) ∧ Below w.heap.size w w' := by
  have hmk := run_make_rows (P := Try.prog) 24 26 _ 2 16 Try.underlying24 Try.info_Entry .i64 .i64 n (by omega) (by omega)
  have H := Lib.hid h
  clear h
  go_enter Try.func30, Try.ntmps30
  go_wp2
  go_loopw [4] (fun i wr => ∃ k : Nat, k ≤ n ∧ i = .int .i64 k ∧ Row wr w.heap.size 0 26 (n * 2) (fun j => if j < k * 2 then .int .i64 (x j) else .int .i64 0) ∧ Below w.heap.size w wr) (fun i _ => n - (intOf i).toNat)
  case atStart => exact ⟨0, Nat.zero_le _, rfl, (Row.mades w _ (.int .i64 0) (n * 2) _ (by decide) (by intro r hr; match r, hr with | 0, _ => rfl | 1, _ => rfl)).congr (fun k hk => by simp), (Below.refl _ _).alloc (Nat.le_refl _) _⟩
  case round =>
    obtain ⟨k, hk, rfl, hrow, hb⟩ := hrel
    by_cases hlt : k < n
    · obtain ⟨b, off, rfl, h1, h2, hc⟩ := H.out.at_ (show k * 2 < n * 2 by omega)
      have c0 : wr.cell? ⟨b, off + k * 2, none⟩ = some (.int .i64 (x (k * 2))) := (hb.cell (p := ⟨b, off + (k * 2), none⟩) (by simp; omega)).trans (hc (k * 2) (by omega))
      have c1 : wr.cell? ⟨b, off + k * 2 + 1, none⟩ = some (.int .i64 (x (k * 2 + 1))) := (hb.cell (p := ⟨b, off + (k * 2 + 1), none⟩) (by simp; omega)).trans (hc (k * 2 + 1) (by omega))
      have HR := Lib.hid hrow
      have HB := Lib.hid hb
      clear hc hrow hb H
      go_wp2_with fail
      refine (toEntry_any _ _ _).mono ?_
      rintro e w1 ⟨rfl, hb1⟩
      have hrow := HR.out.below hb1 HR.out.lt
      have o0 := hrow.cell (show k * 2 + 0 < n * 2 by omega)
      have f0 := hrow.frozen (0 + (k * 2 + 0))
      have o1 := hrow.cell (show k * 2 + 1 < n * 2 by omega)
      have f1 := hrow.frozen (0 + (k * 2 + 1))
      simp only [Nat.zero_add, Nat.add_zero] at o0 f0 o1 f1
      have HB2 := Lib.hid (HB.out.trans (hb1.mono HB.out.size))
      have HR2 := Lib.hid hrow
      clear hrow hb1 HR HB
      go_wp2
      go_roundw
      case rel => exact ⟨k + 1, by omega, by go_num, (HR2.out.set2 (by omega) (.int .i64 (x (k * 2))) (.int .i64 (x (k * 2 + 1)))).congr (next2 k x), below_set2 HB2.out (Nat.le_refl _) _ _⟩
      case measure => simp [intOf]; omega
    · go_wp2
      go_ret
      exact ⟨rfl, hrow.congr (fun j hj => by rw [if_pos (by omega)]), hb⟩

/-- eqEntryS of two slices that read alike: true. -/
theorem eqEntryS_same (lo hi lo' hi' : Nat) (A A' : Option Addr) (n c c' : Nat) (x : Nat → Int) (w : World) (hn : n * 16 ≤ 140737488351232)
    (h : Sl w lo hi A (n * 2) (fun k => .int .i64 (x k))) (h' : Sl w lo' hi' A' (n * 2) (fun k => .int .i64 (x k))) :
    Calls Try.prog 31 #[.slice A n c, .slice A' n c'] w fun e w' => e = .returned (.bool true) ∧ Below w.heap.size w w' := by
  have H := Lib.hid h
  have H' := Lib.hid h'
  clear h h'
  go_enter Try.func31, Try.ntmps31
  go_wp2
  go_loopw [5] (fun i wr => ∃ k : Nat, k ≤ n ∧ i = .int .i64 k ∧ Below w.heap.size w wr) (fun i _ => n - (intOf i).toNat)
  case atStart => exact ⟨0, Nat.zero_le _, rfl, Below.refl _ _⟩
  case round =>
    obtain ⟨k, hk, rfl, hb⟩ := hrel
    by_cases hlt : k < n
    · obtain ⟨b, off, rfl, h1, h2, hc⟩ := H.out.lt.at_ (show k * 2 < n * 2 by omega)
      obtain ⟨b', off', rfl, h1', h2', hc'⟩ := H'.out.lt.at_ (show k * 2 < n * 2 by omega)
      have p0 : wr.cell? ⟨b, off + k * 2, none⟩ = some (.int .i64 (x (k * 2))) := (hb.cell (p := ⟨b, off + (k * 2), none⟩) (by simp; omega)).trans (hc (k * 2) (by omega))
      have p1 : wr.cell? ⟨b, off + k * 2 + 1, none⟩ = some (.int .i64 (x (k * 2 + 1))) := (hb.cell (p := ⟨b, off + (k * 2 + 1), none⟩) (by simp; omega)).trans (hc (k * 2 + 1) (by omega))
      have q0 : wr.cell? ⟨b', off' + k * 2, none⟩ = some (.int .i64 (x (k * 2))) := (hb.cell (p := ⟨b', off' + (k * 2), none⟩) (by simp; omega)).trans (hc' (k * 2) (by omega))
      have q1 : wr.cell? ⟨b', off' + k * 2 + 1, none⟩ = some (.int .i64 (x (k * 2 + 1))) := (hb.cell (p := ⟨b', off' + (k * 2 + 1), none⟩) (by simp; omega)).trans (hc' (k * 2 + 1) (by omega))
      have HB := Lib.hid hb
      clear hb hc hc' H H'
      go_wp2_with fail
      go_region_with (refine (eqEntry_same _ _ _).mono ?_; rintro e w1 ⟨rfl, hb1⟩; have HB1 := Lib.hid ((below_drewN HB.out 1).trans (hb1.mono HB.out.size)); clear hb1)
      all_goals
        go_wp2
        go_roundw
        case rel => exact ⟨k + 1, by omega, by go_num, HB1.out⟩
        case measure => simp [intOf]; omega
    · go_wp2
      go_ret
      exact ⟨rfl, hb⟩

/-- markEntryS of a row of one's own: the row reads k, k + 1, .. afterwards; nothing else turns. -/
theorem markEntryS_any (lo hi : Nat) (A : Option Addr) (n c : Nat) (x : Nat → Value) (m : Nat) (w : World) (hn : n * 16 ≤ 140737488351232) (hm : m ≤ 2305843009213693952)
    (hx : ∀ k, k < n * 2 → ∃ y, x k = .int .i64 y) (h : Mine w lo hi 26 A (n * 2) x) :
    Calls Try.prog 33 #[.slice A n c, .int .i64 m] w fun e w' =>
      e = .returned (.int .i64 ((m + n * 2 : Nat) : Int)) ∧ Mine w' lo hi 26 A (n * 2) (fun k => .int .i64 ((m + k : Nat) : Int)) ∧ Only lo hi w w' := by
  have H := Lib.hid h
  have X := Lib.hid hx
  clear h hx
  go_enter Try.func33, Try.ntmps33
  go_wp2
  go_loopw [1, 5] (fun q i wr => ∃ k : Nat, k ≤ n ∧ i = .int .i64 k ∧ q = .int .i64 ((m + k * 2 : Nat) : Int) ∧ Mine wr lo hi 26 A (n * 2) (fun j => if j < k * 2 then .int .i64 ((m + j : Nat) : Int) else x j) ∧ Only lo hi w wr) (fun _ i _ => n - (intOf i).toNat)
  case atStart => exact ⟨0, Nat.zero_le _, rfl, by go_num, H.out.congr (fun k hk => by simp), Only.refl _ _ _⟩
  case round =>
    obtain ⟨k, hk, rfl, rfl, hmine, hb⟩ := hrel
    by_cases hlt : k < n
    · rcases hmine with h0 | ⟨g, off, rfl, h1, h2, hrow⟩
      · omega
      obtain ⟨y0, hy0⟩ := X.out (k * 2 + 0) (by omega)
      have o0 : wr.cell? ⟨g, off + k * 2, none⟩ = some (.int .i64 y0) := by
        have := hrow.cell (show k * 2 + 0 < n * 2 by omega)
        rw [if_neg (by omega), hy0] at this
        exact this
      have f0 := hrow.frozen (off + k * 2)
      obtain ⟨y1, hy1⟩ := X.out (k * 2 + 1) (by omega)
      have o1 : wr.cell? ⟨g, off + k * 2 + 1, none⟩ = some (.int .i64 y1) := by
        have := hrow.cell (show k * 2 + 1 < n * 2 by omega)
        rw [if_neg (by omega), hy1] at this
        exact this
      have f1 := hrow.frozen (off + k * 2 + 1)
      have e0 : ((m + k * 2 : Nat) : Int) = (m : Int) + k * 2 := by omega
      have HR := Lib.hid (hrow.mark2 hlt)
      have HB := Lib.hid (hb.set2 (g := g) (i := off + k * 2) h1 h2 (.int .i64 ((m : Int) + k * 2)) (.int .i64 ((m : Int) + k * 2 + 1)))
      rw [e0]
      clear e0 hb hrow H X hy0 hy1
      go_wp2
      go_roundw
      case rel => exact ⟨k + 1, by omega, by go_num, by go_num, .inr ⟨g, off, rfl, h1, h2, HR.out⟩, HB.out⟩
      case measure => simp [intOf]; omega
    · have e0 : k = n := by omega
      subst e0
      go_wp2
      go_ret
      exact ⟨rfl, hmine.congr (fun j hj => by rw [if_pos hj]), hb⟩

/-- heldEntryS of a slice that reads m, m + 1, ..: m + n * 2. -/
theorem heldEntryS_any (lo hi : Nat) (A : Option Addr) (n c : Nat) (m : Nat) (w : World) (hn : n * 16 ≤ 140737488351232) (hm : m ≤ 2305843009213693952)
    (h : Sl w lo hi A (n * 2) (fun k => .int .i64 ((m + k : Nat) : Int))) :
    Calls Try.prog 60 #[.slice A n c, .int .i64 m] w fun e w' => e = .returned (.int .i64 ((m + n * 2 : Nat) : Int)) ∧ Below w.heap.size w w' := by
  have H := Lib.hid h
  clear h
  go_enter Try.func60, Try.ntmps60
  go_wp2
  go_loopw [1, 5] (fun q i wr => ∃ k : Nat, k ≤ n ∧ i = .int .i64 k ∧ q = .int .i64 ((m + k * 2 : Nat) : Int) ∧ Below w.heap.size w wr) (fun _ i _ => n - (intOf i).toNat)
  case atStart => exact ⟨0, Nat.zero_le _, rfl, by go_num, Below.refl _ _⟩
  case round =>
    obtain ⟨k, hk, rfl, rfl, hb⟩ := hrel
    by_cases hlt : k < n
    · obtain ⟨b, off, rfl, h1, h2, hc⟩ := H.out.lt.at_ (show k * 2 < n * 2 by omega)
      have c0 : wr.cell? ⟨b, off + k * 2, none⟩ = some (.int .i64 ((m : Int) + k * 2)) := by
        rw [show ((m : Int) + k * 2 : Int) = ((m + (k * 2) : Nat) : Int) by omega]
        exact (hb.cell (p := ⟨b, off + (k * 2), none⟩) (by simp; omega)).trans (hc (k * 2) (by omega))
      have c1 : wr.cell? ⟨b, off + k * 2 + 1, none⟩ = some (.int .i64 ((m : Int) + k * 2 + 1)) := by
        rw [show ((m : Int) + k * 2 + 1 : Int) = ((m + (k * 2 + 1) : Nat) : Int) by omega]
        exact (hb.cell (p := ⟨b, off + (k * 2 + 1), none⟩) (by simp; omega)).trans (hc (k * 2 + 1) (by omega))
      have HB := Lib.hid hb
      have e0 : ((m + k * 2 : Nat) : Int) = (m : Int) + k * 2 := by omega
      rw [e0]
      clear e0 hb hc H
      go_wp2
      go_roundw
      case rel => exact ⟨k + 1, by omega, by go_num, by go_num, HB.out⟩
      case measure => simp [intOf]; omega
    · have e0 : k = n := by omega
      subst e0
      go_wp2
      go_ret
      exact ⟨rfl, hb⟩

end Go.Proofs.Ytfaamjbdffcngaa
