/-
  The law's helpers on threads and lists of threads: size, copy, compare. No conditions beyond that the lists can be read.
-/
import Derived.Test.YtaemegkdmbhpnaaChecked
import Derived.Test.YtaemegkdmbhpnaaBase3
namespace Go.Proofs.Ytaemegkdmbhpnaa
open Go.RowKit
set_option maxRecDepth 100000

theorem Row.set5 {w : World} {g : Nat} {t : TypeId} {n i : Nat} {f : Nat → Value} (h : Row w g 0 t n f) (hi : i + 4 < n) (u0 u1 u2 u3 u4 : Value) :
    Row ((((((w.setCell ⟨g, i, none⟩ u0).setCell ⟨g, i + 1, none⟩ u1).setCell ⟨g, i + 2, none⟩ u2).setCell ⟨g, i + 3, none⟩ u3).setCell ⟨g, i + 4, none⟩ u4)) g 0 t n (fun k => (if k = i + 4 then u4 else (if k = i + 3 then u3 else (if k = i + 2 then u2 else (if k = i + 1 then u1 else (if k = i then u0 else f k)))))) := by
  have h0 := Row.set h (show i < n by omega) u0
  rw [Nat.zero_add] at h0
  have h1 := Row.set h0 (show i + 1 < n by omega) u1
  rw [Nat.zero_add] at h1
  have h2 := Row.set h1 (show i + 2 < n by omega) u2
  rw [Nat.zero_add] at h2
  have h3 := Row.set h2 (show i + 3 < n by omega) u3
  rw [Nat.zero_add] at h3
  have h4 := Row.set h3 (show i + 4 < n by omega) u4
  rw [Nat.zero_add] at h4
  exact h4
theorem below_set5 {B : Nat} {a w : World} {g i : Nat} (h : Below B a w) (hg : B ≤ g) (u0 u1 u2 u3 u4 : Value) : Below B a ((((((w.setCell ⟨g, i, none⟩ u0).setCell ⟨g, i + 1, none⟩ u1).setCell ⟨g, i + 2, none⟩ u2).setCell ⟨g, i + 3, none⟩ u3).setCell ⟨g, i + 4, none⟩ u4)) :=
  (((((h.setCell (p := ⟨g, i, none⟩) hg u0).setCell (p := ⟨g, i + 1, none⟩) hg u1).setCell (p := ⟨g, i + 2, none⟩) hg u2).setCell (p := ⟨g, i + 3, none⟩) hg u3).setCell (p := ⟨g, i + 4, none⟩) hg u4)
theorem next5 {N : Nat} (i : Nat) (x : Nat → Int) : ∀ k, k < N → (if k = i * 5 + 4 then .int .i64 (x (i * 5 + 4)) else (if k = i * 5 + 3 then .int .i64 (x (i * 5 + 3)) else (if k = i * 5 + 2 then .int .i64 (x (i * 5 + 2)) else (if k = i * 5 + 1 then .int .i64 (x (i * 5 + 1)) else (if k = i * 5 then .int .i64 (x (i * 5)) else (if k < i * 5 then Value.int .i64 (x k) else .int .i64 0)))))) = (if k < (i + 1) * 5 then Value.int .i64 (x k) else .int .i64 0) := by
  intro k _
  by_cases e4 : k = i * 5 + 4
  · subst e4; first | (simp; done) | (simp; omega)
  rw [if_neg e4]
  by_cases e3 : k = i * 5 + 3
  · subst e3; first | (simp; done) | (simp; omega)
  rw [if_neg e3]
  by_cases e2 : k = i * 5 + 2
  · subst e2; first | (simp; done) | (simp; omega)
  rw [if_neg e2]
  by_cases e1 : k = i * 5 + 1
  · subst e1; first | (simp; done) | (simp; omega)
  rw [if_neg e1]
  by_cases e0 : k = i * 5
  · subst e0; first | (simp; done) | (simp; omega)
  rw [if_neg e0]
  by_cases hk : k < i * 5
  · rw [if_pos hk, if_pos (by omega)]
  · rw [if_neg hk, if_neg (by omega)]

theorem toThread_any (a b c d e : Int) (w : World) :
    Calls Try.prog 163 #[.agg #[.int .i64 a, .int .i64 b, .int .i64 c, .int .i64 d, .int .i64 e]] w fun r w' => r = .returned (.agg #[.int .i64 a, .int .i64 b, .int .i64 c, .int .i64 d, .int .i64 e]) ∧ Below w.heap.size w w' := by
  have B3 : Hid (∀ o o' o'', Below w.heap.size w (((w.alloc o).alloc o').alloc o'')) := fun o o' o'' => (((Below.refl _ _).alloc (Nat.le_refl _) o).alloc (by simp) o').alloc (by simp; omega) o''
  go_enter Try.func163, Try.ntmps163
  go_wp2
  go_returns
  exact ⟨rfl, B3.out _ _ _⟩
theorem eqThread_same (a b c d e : Int) (w : World) :
    Calls Try.prog 166 #[.agg #[.int .i64 a, .int .i64 b, .int .i64 c, .int .i64 d, .int .i64 e], .agg #[.int .i64 a, .int .i64 b, .int .i64 c, .int .i64 d, .int .i64 e]] w fun e w' => e = .returned (.bool true) ∧ Below w.heap.size w w' := by
  have B2 : Hid (∀ o o', Below w.heap.size w ((w.alloc o).alloc o')) := fun o o' => ((Below.refl _ _).alloc (Nat.le_refl _) o).alloc (by simp) o'
  go_enter Try.func166, Try.ntmps166
  go_wp2
  go_ret
  exact ⟨rfl, B2.out _ _⟩
theorem Try.info_Thread7 : (Try.prog.info? 200).map (fun i => (i.zero, i.size, i.bytes)) = some (some (.agg #[.int .i64 0, .int .i64 0, .int .i64 0, .int .i64 0, .int .i64 0]), 5, 40) := by kernel_rfl

set_option maxHeartbeats 1000000 in
theorem toThreadS_any (lo hi : Nat) (A : Option Addr) (n c : Nat) (x : Nat → Int) (w : World) (hn : n * 40 ≤ 140737488351232) (h : Sl w lo hi A (n * 5) (fun k => .int .i64 (x k))) (hhi : hi ≤ w.heap.size) :
    Calls Try.prog 88 #[.slice A n c] w fun e w' =>
      e = .returned (.slice (some ⟨w.heap.size, 0, none⟩) n n) ∧ Row w' w.heap.size 0 200 (n * 5) (fun k => .int .i64 (x k)) ∧ Below w.heap.size w w' := by
  have hmk := run_make_rows (P := Try.prog) 51 200 _ 5 40 Try.underlying51 Try.info_Thread7 .i64 .i64 n (by omega) (by omega)
  have H := Lib.hid h
  clear h
  go_enter Try.func88, Try.ntmps88
  go_wp2
  go_loopw [4] (fun i wr => ∃ k : Nat, k ≤ n ∧ i = .int .i64 k ∧ Row wr w.heap.size 0 200 (n * 5) (fun j => if j < k * 5 then .int .i64 (x j) else .int .i64 0) ∧ Below w.heap.size w wr) (fun i _ => n - (intOf i).toNat)
  case atStart => exact ⟨0, Nat.zero_le _, rfl, (Row.mades w _ (.int .i64 0) (n * 5) _ (by decide) (by intro r hr; match r, hr with | 0, _ => rfl | 1, _ => rfl | 2, _ => rfl | 3, _ => rfl | 4, _ => rfl)).congr (fun k hk => by simp), (Below.refl _ _).alloc (Nat.le_refl _) _⟩
  case round =>
    obtain ⟨k, hk, rfl, hrow, hb⟩ := hrel
    by_cases hlt : k < n
    · obtain ⟨b, off, rfl, h1, h2, hc⟩ := H.out.at_ (show k * 5 < n * 5 by omega)
      have c0 : wr.cell? ⟨b, off + k * 5, none⟩ = some (.int .i64 (x (k * 5))) := (hb.cell (p := ⟨b, off + (k * 5), none⟩) (by simp; omega)).trans (hc (k * 5) (by omega))
      have c1 : wr.cell? ⟨b, off + k * 5 + 1, none⟩ = some (.int .i64 (x (k * 5 + 1))) := (hb.cell (p := ⟨b, off + (k * 5 + 1), none⟩) (by simp; omega)).trans (hc (k * 5 + 1) (by omega))
      have c2 : wr.cell? ⟨b, off + k * 5 + 2, none⟩ = some (.int .i64 (x (k * 5 + 2))) := (hb.cell (p := ⟨b, off + (k * 5 + 2), none⟩) (by simp; omega)).trans (hc (k * 5 + 2) (by omega))
      have c3 : wr.cell? ⟨b, off + k * 5 + 3, none⟩ = some (.int .i64 (x (k * 5 + 3))) := (hb.cell (p := ⟨b, off + (k * 5 + 3), none⟩) (by simp; omega)).trans (hc (k * 5 + 3) (by omega))
      have c4 : wr.cell? ⟨b, off + k * 5 + 4, none⟩ = some (.int .i64 (x (k * 5 + 4))) := (hb.cell (p := ⟨b, off + (k * 5 + 4), none⟩) (by simp; omega)).trans (hc (k * 5 + 4) (by omega))
      have HR := Lib.hid hrow
      have HB := Lib.hid hb
      clear hc hrow hb H
      go_wp2_with fail
      refine (toThread_any _ _ _ _ _ _).mono ?_
      rintro e w1 ⟨rfl, hb1⟩
      have hrow := HR.out.below hb1 HR.out.lt
      have o0 := hrow.cell (show k * 5 < n * 5 by omega)
      have f0 := hrow.frozen (0 + (k * 5))
      have o1 := hrow.cell (show k * 5 + 1 < n * 5 by omega)
      have f1 := hrow.frozen (0 + (k * 5 + 1))
      have o2 := hrow.cell (show k * 5 + 2 < n * 5 by omega)
      have f2 := hrow.frozen (0 + (k * 5 + 2))
      have o3 := hrow.cell (show k * 5 + 3 < n * 5 by omega)
      have f3 := hrow.frozen (0 + (k * 5 + 3))
      have o4 := hrow.cell (show k * 5 + 4 < n * 5 by omega)
      have f4 := hrow.frozen (0 + (k * 5 + 4))
      simp only [Nat.zero_add, Nat.add_zero] at o0 f0 o1 f1 o2 f2 o3 f3 o4 f4
      have HB2 := Lib.hid (HB.out.trans (hb1.mono HB.out.size))
      have HR2 := Lib.hid hrow
      clear hrow hb1 HR HB
      go_wp2
      go_roundw
      case rel => exact ⟨k + 1, by omega, by go_num, (HR2.out.set5 (by omega) (.int .i64 (x (k * 5))) (.int .i64 (x (k * 5 + 1))) (.int .i64 (x (k * 5 + 2))) (.int .i64 (x (k * 5 + 3))) (.int .i64 (x (k * 5 + 4)))).congr (next5 k x), below_set5 HB2.out (Nat.le_refl _) _ _ _ _ _⟩
      case measure => simp [intOf]; omega
    · go_wp2
      go_ret
      exact ⟨rfl, hrow.congr (fun j hj => by rw [if_pos (by omega)]), hb⟩

/-- eqThreadS of two slices that read alike: true. -/
theorem eqThreadS_same (lo hi lo' hi' : Nat) (A A' : Option Addr) (n c c' : Nat) (x : Nat → Int) (w : World) (hn : n * 40 ≤ 140737488351232)
    (h : Sl w lo hi A (n * 5) (fun k => .int .i64 (x k))) (h' : Sl w lo' hi' A' (n * 5) (fun k => .int .i64 (x k))) :
    Calls Try.prog 93 #[.slice A n c, .slice A' n c'] w fun e w' => e = .returned (.bool true) ∧ Below w.heap.size w w' := by
  have H := Lib.hid h
  have H' := Lib.hid h'
  clear h h'
  go_enter Try.func93, Try.ntmps93
  go_wp2
  go_loopw [5] (fun i wr => ∃ k : Nat, k ≤ n ∧ i = .int .i64 k ∧ Below w.heap.size w wr) (fun i _ => n - (intOf i).toNat)
  case atStart => exact ⟨0, Nat.zero_le _, rfl, Below.refl _ _⟩
  case round =>
    obtain ⟨k, hk, rfl, hb⟩ := hrel
    by_cases hlt : k < n
    · obtain ⟨b, off, rfl, h1, h2, hc⟩ := H.out.lt.at_ (show k * 5 < n * 5 by omega)
      obtain ⟨b', off', rfl, h1', h2', hc'⟩ := H'.out.lt.at_ (show k * 5 < n * 5 by omega)
      have p0 : wr.cell? ⟨b, off + k * 5, none⟩ = some (.int .i64 (x (k * 5))) := (hb.cell (p := ⟨b, off + (k * 5), none⟩) (by simp; omega)).trans (hc (k * 5) (by omega))
      have q0 : wr.cell? ⟨b', off' + k * 5, none⟩ = some (.int .i64 (x (k * 5))) := (hb.cell (p := ⟨b', off' + (k * 5), none⟩) (by simp; omega)).trans (hc' (k * 5) (by omega))
      have p1 : wr.cell? ⟨b, off + k * 5 + 1, none⟩ = some (.int .i64 (x (k * 5 + 1))) := (hb.cell (p := ⟨b, off + (k * 5 + 1), none⟩) (by simp; omega)).trans (hc (k * 5 + 1) (by omega))
      have q1 : wr.cell? ⟨b', off' + k * 5 + 1, none⟩ = some (.int .i64 (x (k * 5 + 1))) := (hb.cell (p := ⟨b', off' + (k * 5 + 1), none⟩) (by simp; omega)).trans (hc' (k * 5 + 1) (by omega))
      have p2 : wr.cell? ⟨b, off + k * 5 + 2, none⟩ = some (.int .i64 (x (k * 5 + 2))) := (hb.cell (p := ⟨b, off + (k * 5 + 2), none⟩) (by simp; omega)).trans (hc (k * 5 + 2) (by omega))
      have q2 : wr.cell? ⟨b', off' + k * 5 + 2, none⟩ = some (.int .i64 (x (k * 5 + 2))) := (hb.cell (p := ⟨b', off' + (k * 5 + 2), none⟩) (by simp; omega)).trans (hc' (k * 5 + 2) (by omega))
      have p3 : wr.cell? ⟨b, off + k * 5 + 3, none⟩ = some (.int .i64 (x (k * 5 + 3))) := (hb.cell (p := ⟨b, off + (k * 5 + 3), none⟩) (by simp; omega)).trans (hc (k * 5 + 3) (by omega))
      have q3 : wr.cell? ⟨b', off' + k * 5 + 3, none⟩ = some (.int .i64 (x (k * 5 + 3))) := (hb.cell (p := ⟨b', off' + (k * 5 + 3), none⟩) (by simp; omega)).trans (hc' (k * 5 + 3) (by omega))
      have p4 : wr.cell? ⟨b, off + k * 5 + 4, none⟩ = some (.int .i64 (x (k * 5 + 4))) := (hb.cell (p := ⟨b, off + (k * 5 + 4), none⟩) (by simp; omega)).trans (hc (k * 5 + 4) (by omega))
      have q4 : wr.cell? ⟨b', off' + k * 5 + 4, none⟩ = some (.int .i64 (x (k * 5 + 4))) := (hb.cell (p := ⟨b', off' + (k * 5 + 4), none⟩) (by simp; omega)).trans (hc' (k * 5 + 4) (by omega))
      have HB := Lib.hid hb
      clear hb hc hc' H H'
      go_wp2_with fail
      go_region_with (refine (eqThread_same _ _ _ _ _ _).mono ?_; rintro e w1 ⟨rfl, hb1⟩; have HB1 := Lib.hid ((below_drewN HB.out 1).trans (hb1.mono HB.out.size)); clear hb1)
      all_goals
        go_wp2
        go_roundw
        case rel => exact ⟨k + 1, by omega, by go_num, HB1.out⟩
        case measure => simp [intOf]; omega
    · go_wp2
      go_ret
      exact ⟨rfl, hb⟩

theorem szThreadS_any (A : Option Addr) (n c : Nat) (L : Int) (w : World) (hn : n ≤ 9223372036854775807) (h0 : 0 ≤ L ∧ L ≤ 1048576) :
    Calls Try.prog 83 #[.slice A n c, .int .i64 L] w fun e w' => e = .returned (.int .i64 (if (n : Int) ≤ L then L - (n : Int) else -1)) ∧ w = w' := by
  have wn : IntKind.i64.wrap (L - (n : Int)) = L - (n : Int) := IntWalk.i64_in _ (by omega)
  by_cases h : (n : Int) ≤ L
  · have h1 : ¬ (L - (n : Int) < 0) := by omega
    have v : (if (n : Int) ≤ L then L - (n : Int) else -1) = L - (n : Int) := if_pos h
    rw [v]
    clear v
    go_enter Try.func83, Try.ntmps83
    go_wp2
    go_ret
    exact ⟨rfl, rfl⟩
  · have h1 : L - (n : Int) < 0 := by omega
    have v : (if (n : Int) ≤ L then L - (n : Int) else -1) = -1 := if_neg h
    rw [v]
    clear v h
    go_enter Try.func83, Try.ntmps83
    go_wp2
    go_ret
    exact ⟨rfl, rfl⟩
theorem szReadyS7_any (A : Option Addr) (n c : Nat) (L : Int) (w : World) (hn : n ≤ 9223372036854775807) (h0 : 0 ≤ L ∧ L ≤ 1048576) :
    Calls Try.prog 160 #[.slice A n c, .int .i64 L] w fun e w' => e = .returned (.int .i64 (if (n : Int) ≤ L then L - (n : Int) else -1)) ∧ w = w' := by
  have wn : IntKind.i64.wrap (L - (n : Int)) = L - (n : Int) := IntWalk.i64_in _ (by omega)
  by_cases h : (n : Int) ≤ L
  · have h1 : ¬ (L - (n : Int) < 0) := by omega
    have v : (if (n : Int) ≤ L then L - (n : Int) else -1) = L - (n : Int) := if_pos h
    rw [v]
    clear v
    go_enter Try.func160, Try.ntmps160
    go_wp2
    go_ret
    exact ⟨rfl, rfl⟩
  · have h1 : L - (n : Int) < 0 := by omega
    have v : (if (n : Int) ≤ L then L - (n : Int) else -1) = -1 := if_neg h
    rw [v]
    clear v h
    go_enter Try.func160, Try.ntmps160
    go_wp2
    go_ret
    exact ⟨rfl, rfl⟩
theorem szInt64S7_any (A : Option Addr) (n c : Nat) (L : Int) (w : World) (hn : n ≤ 9223372036854775807) (h0 : 0 ≤ L ∧ L ≤ 1048576) :
    Calls Try.prog 69 #[.slice A n c, .int .i64 L] w fun e w' => e = .returned (.int .i64 (if (n : Int) ≤ L then L - (n : Int) else -1)) ∧ w = w' := by
  have wn : IntKind.i64.wrap (L - (n : Int)) = L - (n : Int) := IntWalk.i64_in _ (by omega)
  by_cases h : (n : Int) ≤ L
  · have h1 : ¬ (L - (n : Int) < 0) := by omega
    have v : (if (n : Int) ≤ L then L - (n : Int) else -1) = L - (n : Int) := if_pos h
    rw [v]
    clear v
    go_enter Try.func69, Try.ntmps69
    go_wp2
    go_ret
    exact ⟨rfl, rfl⟩
  · have h1 : L - (n : Int) < 0 := by omega
    have v : (if (n : Int) ≤ L then L - (n : Int) else -1) = -1 := if_neg h
    rw [v]
    clear v h
    go_enter Try.func69, Try.ntmps69
    go_wp2
    go_ret
    exact ⟨rfl, rfl⟩

end Go.Proofs.Ytaemegkdmbhpnaa
