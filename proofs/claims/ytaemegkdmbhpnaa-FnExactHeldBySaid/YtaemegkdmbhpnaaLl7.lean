/-
  The law's helpers on lists of locks: size, copy, compare. No conditions beyond that the lists can be read.
-/
import Derived.Test.YtaemegkdmbhpnaaPl7
import Derived.Test.YtaemegkdmbhpnaaKit6
namespace Go.Proofs.Ytaemegkdmbhpnaa
open Go.RowKit
set_option maxRecDepth 100000

theorem szLock7_any (t : Int) (A : Option Addr) (n c : Nat) (L : Int) (w : World) (hn : n ≤ 9223372036854775807) (h0 : 0 ≤ L ∧ L ≤ 1048576) :
    Calls Try.prog 161 #[.agg #[.int .i64 t, .slice A n c], .int .i64 L] w fun e w' => e = .returned (.int .i64 (if (n : Int) ≤ L then L - (n : Int) else -1)) ∧ Below w.heap.size w w' := by
  refine (szLock_any A n c t L w hn h0.1 h0.2).mono fun e w' ⟨h1, h2⟩ => ⟨?_, h2⟩
  rw [h1]
  by_cases h : (n : Int) ≤ L
  · rw [if_pos h, if_neg (by omega)]
  · rw [if_neg h, if_pos (by omega)]
/-- a list of locks that can be read -/
structure LL (W : World) (lo hi : Nat) (A : Option Addr) (n : Nat) (t : Nat → Int) (B : Nat → Option Addr) (m d : Nat → Nat) (x : Nat → Nat → Int) : Prop where
  row : Sl W lo hi A (n * 2) (pc7 t B m d)
  qs : ∀ i, i < n → Sl W lo hi (B i) (m i) (fun k => .int .i64 (x i k))
section
variable {W W' : World} {lo hi n : Nat} {A : Option Addr} {t : Nat → Int} {B : Nat → Option Addr} {m d : Nat → Nat} {x : Nat → Nat → Int}
theorem LL.below (h : LL W lo hi A n t B m d x) {b : Nat} (hb : Below b W W') (hB : hi ≤ b) : LL W' lo hi A n t B m d x := ⟨h.row.below hb hB, fun i hi => (h.qs i hi).below hb hB⟩
theorem LL.wide (h : LL W lo hi A n t B m d x) {lo' hi' : Nat} (h1 : lo' ≤ lo) (h2 : hi ≤ hi') : LL W lo' hi' A n t B m d x := ⟨h.row.wide h1 h2, fun i hi => (h.qs i hi).wide h1 h2⟩
theorem LL.lt (h : LL W lo hi A n t B m d x) : LL W lo (min hi W.heap.size) A n t B m d x := ⟨h.row.lt, fun i hi => (h.qs i hi).lt⟩
/-- the two cells of one plan, in a later world -/
theorem LL.at_ (h : LL W lo hi A n t B m d x) {k : Nat} (hk : k < n) : ∃ b off, A = some ⟨b, off, none⟩ ∧ lo ≤ b ∧ b < hi ∧ ∀ i, i < n → W.cell? ⟨b, off + i * 2, none⟩ = some (.int .i64 (t i)) ∧ W.cell? ⟨b, off + i * 2 + 1, none⟩ = some (.slice (B i) (m i) (d i)) := by
  obtain ⟨b, off, e, h1, h2, hc⟩ := h.row.at_ (show k * 2 < n * 2 by omega)
  refine ⟨b, off, e, h1, h2, fun i hi => ⟨?_, ?_⟩⟩
  · have := hc (i * 2) (by omega); rwa [pc7_0] at this
  · have := hc (i * 2 + 1) (by omega); rwa [pc7_1] at this
end

/-- a round of the sizes' loop -/
def SzL (w : World) (n : Nat) (m : Nat → Nat) (l i : Value) (wr : World) : Prop := ∃ (k : Nat) (L : Int), k ≤ n ∧ i = .int .i64 k ∧ l = .int .i64 L ∧ 0 ≤ L ∧ L ≤ 1048576 ∧ (∀ i, i < k → m i ≤ 1048576) ∧ Below w.heap.size w wr

set_option maxHeartbeats 1000000 in
theorem szLockS_any (lo hi : Nat) (A : Option Addr) (n c : Nat) (t : Nat → Int) (B : Nat → Option Addr) (m d : Nat → Nat) (x : Nat → Nat → Int) (L0 : Int) (w : World) (h0 : 0 ≤ L0 ∧ L0 ≤ 1048576) (hn : n ≤ 9223372036854775807) (hm : ∀ i, i < n → m i ≤ 9223372036854775807) (h : LL w lo hi A n t B m d x) :
    Calls Try.prog 84 #[.slice A n c, .int .i64 L0] w fun e w' => ∃ v : Int, e = .returned (.int .i64 v) ∧ (v = -1 ∨ (0 ≤ v ∧ v ≤ 1048576 ∧ n ≤ 1048576 ∧ ∀ i, i < n → m i ≤ 1048576)) ∧ Below w.heap.size w w' := by
  have wn : IntKind.i64.wrap (L0 - (n : Int)) = L0 - (n : Int) := IntWalk.i64_in _ (by omega)
  have H := Lib.hid h.lt
  have HM := Lib.hid hm
  have HN := Lib.hid hn
  clear h hm hn
  by_cases h20 : (n : Int) ≤ L0
  rotate_left
  · have h1 : L0 - (n : Int) < 0 := by omega
    go_enter Try.func84, Try.ntmps84
    go_wp2
    go_ret
    exact ⟨-1, rfl, .inl rfl, Below.refl _ _⟩
  have h1 : ¬ (L0 - (n : Int) < 0) := by omega
  have H20 := Lib.hid (show n ≤ 1048576 ∧ (n : Int) ≤ L0 ∧ L0 ≤ 1048576 by omega)
  clear h20 h0
  go_enter Try.func84, Try.ntmps84
  go_wp2
  go_loopw [1, 5] (fun l i wr => SzL w n m l i wr) (fun _ i _ => n - (intOf i).toNat)
  case atStart => exact ⟨0, _, Nat.zero_le _, rfl, rfl, by have := H20.out; omega, by have := H20.out; omega, fun i hi => absurd hi (Nat.not_lt_zero _), Below.refl _ _⟩
  case round =>
    obtain ⟨k, L, hk, rfl, rfl, hL0, hL1, hs, hb⟩ := hrel
    by_cases hlt : k < n
    · have wk : IntKind.i64.wrap ((k : Int) + 1) = (k : Int) + 1 := IntWalk.i64_in _ (by have := H20.out; omega)
      obtain ⟨b, off, rfl, h1, h2, hc⟩ := H.out.at_ hlt
      obtain ⟨p0, p1⟩ := hc k hlt
      have c0 : wr.cell? ⟨b, off + k * 2, none⟩ = _ := (hb.cell (p := ⟨b, off + k * 2, none⟩) (by simp; omega)).trans p0
      have c1 : wr.cell? ⟨b, off + k * 2 + 1, none⟩ = _ := (hb.cell (p := ⟨b, off + k * 2 + 1, none⟩) (by simp; omega)).trans p1
      have SZ := Lib.hid (szLock7_any (t k) (B k) (m k) (d k) L wr (HM.out k hlt) ⟨hL0, hL1⟩)
      have HB := Lib.hid hb
      have HS := Lib.hid hs
      have HL := Lib.hid (show 0 ≤ L ∧ L ≤ 1048576 from ⟨hL0, hL1⟩)
      clear hc p0 p1 hb hs H hL0 hL1
      go_wp2_with fail
      with_reducible refine SZ.out.mono ?_
      rintro e w1 ⟨rfl, hb1⟩
      have HB1 := Lib.hid (HB.out.trans (hb1.mono HB.out.size))
      clear hb1 SZ c0 c1
      by_cases hv : (m k : Int) ≤ L
      · rw [if_pos hv]
        have h0 : ¬ (L - (m k : Int) < 0) := by omega
        have HV := Lib.hid hv
        clear hv
        go_wp2
        go_roundw
        case rel =>
          have hn := H20.out.1
          refine ⟨k + 1, L - (m k : Int), by omega, by rfl, rfl, by have := HV.out; omega, by have := HL.out; omega, fun i hi => ?_, HB1.out⟩
          rcases Nat.lt_succ_iff_lt_or_eq.1 hi with h' | h'
          · exact HS.out i h'
          · subst h'; have := HV.out; have := HL.out; omega
        case measure => simp [intOf]; omega
      · rw [if_neg hv]
        clear hv
        go_wp2
        go_ret
        exact ⟨-1, rfl, .inl rfl, HB1.out⟩
    · have HL := Lib.hid hL0
      have HL1 := Lib.hid hL1
      have HS := Lib.hid hs
      clear hL0 hL1 hs
      go_wp2
      go_ret
      exact ⟨L, rfl, .inr ⟨HL.out, HL1.out, H20.out.1, fun i hi => HS.out i (by omega)⟩, hb⟩

theorem Try.info_Lock7 : (Try.prog.info? 132).map (fun i => (i.zero, i.size, i.bytes)) = some (some (.agg #[.int .i64 0, .slice none 0 0]), 2, 32) := by kernel_rfl
/-- a round of the copy's loop -/
def ToL (w : World) (n : Nat) (t : Nat → Int) (m : Nat → Nat) (x : Nat → Nat → Int) (i : Value) (wr : World) : Prop :=
  ∃ (k : Nat) (B : Nat → Option Addr), k ≤ n ∧ i = .int .i64 k ∧ Row wr w.heap.size 0 132 (n * 2) (fun j => if j < k * 2 then pc7 t B m m j else zc7 j) ∧ (∀ i, i < k → Sl wr (w.heap.size + 1) wr.heap.size (B i) (m i) (fun k => .int .i64 (x i k)) ∧ ∃ u, B i = some ⟨u, 0, none⟩) ∧ Below w.heap.size w wr
set_option maxHeartbeats 1000000 in
/-- toLockS: a new list that reads as the old one did -/
theorem toLockS_any (lo hi : Nat) (A : Option Addr) (n c : Nat) (t : Nat → Int) (B : Nat → Option Addr) (m d : Nat → Nat) (x : Nat → Nat → Int) (w : World) (hn : n ≤ 1048576) (hm : ∀ i, i < n → m i ≤ 1048576) (h : LL w lo hi A n t B m d x) :
    Calls Try.prog 89 #[.slice A n c] w fun e w' => ∃ B' : Nat → Option Addr, e = .returned (.slice (some ⟨w.heap.size, 0, none⟩) n n) ∧ LL w' w.heap.size w'.heap.size (some ⟨w.heap.size, 0, none⟩) n t B' m m x ∧ Below w.heap.size w w' := by
  have hmk := run_make_rows (P := Try.prog) 52 132 _ 2 32 Try.underlying52 Try.info_Lock7 .i64 .i64 n (by omega) (by omega)
  have H := Lib.hid h.lt
  have HM := Lib.hid hm
  have HN := Lib.hid hn
  clear h hm hn
  go_enter Try.func89, Try.ntmps89
  go_wp2
  go_loopw [4] (fun i wr => ToL w n t m x i wr) (fun i _ => n - (intOf i).toNat)
  case atStart =>
    refine ⟨0, fun _ => none, Nat.zero_le _, rfl, ?_, fun i hi => absurd hi (Nat.not_lt_zero _), (Below.refl _ _).alloc (Nat.le_refl _) _⟩
    refine Row.new w _ _ _ _ fun k hk => ?_
    rcases Nat.mod_two_eq_zero_or_one k with h2 | h2
    · simp [madeCells, hk, zc7, h2, Value.cells]
    · simp [madeCells, hk, zc7, h2, Value.cells]
  case round =>
    obtain ⟨k, B', hk, rfl, hrow, hs, hb⟩ := hrel
    by_cases hlt : k < n
    · have wk : IntKind.i64.wrap ((k : Int) + 1) = (k : Int) + 1 := IntWalk.i64_in _ (by have := HN.out; omega)
      obtain ⟨b, off, rfl, h1, h2, hc⟩ := H.out.at_ hlt
      obtain ⟨p0, p1⟩ := hc k hlt
      have c0 : wr.cell? ⟨b, off + k * 2, none⟩ = _ := (hb.cell (p := ⟨b, off + k * 2, none⟩) (by simp; omega)).trans p0
      have c1 : wr.cell? ⟨b, off + k * 2 + 1, none⟩ = _ := (hb.cell (p := ⟨b, off + k * 2 + 1, none⟩) (by simp; omega)).trans p1
      have HR := Lib.hid hrow
      have HB := Lib.hid hb
      have HS := Lib.hid hs
      have TP := Lib.hid (toLock_any lo (min hi w.heap.size) (B k) (m k) (d k) (t k) (x k) wr (by have := HM.out k hlt; omega) ((H.out.qs k hlt).below hb (by omega)))
      clear hc p0 p1 hrow hb hs H
      go_wp2_with fail
      with_reducible refine TP.out.mono ?_
      rintro e w1 ⟨u, rfl, hu, hru, hb1⟩
      have hrow := HR.out.below hb1 HR.out.lt
      have o0 := hrow.cell (show k * 2 < n * 2 by omega)
      have f0 := hrow.frozen (0 + (k * 2))
      have o1 := hrow.cell (show k * 2 + 1 < n * 2 by omega)
      have f1 := hrow.frozen (0 + (k * 2 + 1))
      simp only [Nat.zero_add, Nat.add_zero] at o0 f0 o1 f1
      have HB2 := Lib.hid (HB.out.trans (hb1.mono HB.out.size))
      have HR2 := Lib.hid hrow
      have HU := Lib.hid hu
      have SU : Hid (Sl w1 u (u + 1) (some ⟨u, 0, none⟩) (m k) (fun j => .int .i64 (x k j))) := Mine.sl (t := 2) (.inr ⟨u, 0, rfl, Nat.le_refl _, Nat.lt_succ_self _, hru⟩)
      have SS : Hid (∀ i, i < k → Sl w1 (w.heap.size + 1) wr.heap.size (B' i) (m i) (fun k => .int .i64 (x i k)) ∧ ∃ u, B' i = some ⟨u, 0, none⟩) := fun i hi => ⟨(HS.out i hi).1.below hb1 (Nat.le_refl _), (HS.out i hi).2⟩
      have ZR := Lib.hid (show w.heap.size < wr.heap.size from HR.out.lt)
      have ZB := Lib.hid hb1.size
      clear hrow hb1 HR HB hu hru HS TP c0 c1
      go_wp2
      go_roundw
      case rel =>
        have hn := HN.out
        refine ⟨k + 1, fun i => if i = k then some ⟨u, 0, none⟩ else B' i, by omega, by rfl, (Row.set2_7 HR2.out (show k * 2 + 1 < n * 2 by omega) (.int .i64 (t k)) (.slice (some ⟨u, 0, none⟩) (m k) (m k))).congr (pc7_next t B' m k u), fun i hi => ?_, ?_⟩
        · have keep : ∀ {lo hi : Nat} {A : Option Addr} {q : Nat} {f : Nat → Value}, w.heap.size < lo → Sl w1 lo hi A q f → Sl ((w1.setCell ⟨w.heap.size, k * 2, none⟩ (.int .i64 (t k))).setCell ⟨w.heap.size, k * 2 + 1, none⟩ (.slice (some ⟨u, 0, none⟩) (m k) (m k))) lo hi A q f := fun hl hh => hh.keep fun b hb1 hb2 => ((Below.heap_setCell _ _ _ _ (by show b ≠ w.heap.size; omega)).trans (Below.heap_setCell _ _ _ _ (by show b ≠ w.heap.size; omega)))
          have HU := HU.out
          have ZR := ZR.out
          have ZB := ZB.out
          dsimp only
          by_cases e : i = k
          · subst e
            rw [if_pos rfl]
            exact ⟨(keep (by omega) SU.out).wide (by omega) (by simp; omega), u, rfl⟩
          · rw [if_neg e]
            obtain ⟨s1, s2⟩ := SS.out i (by omega)
            exact ⟨(keep (by omega) s1).wide (Nat.le_refl _) (by simp; omega), s2⟩
        · exact (HB2.out.setCell (p := ⟨w.heap.size, k * 2, none⟩) (Nat.le_refl _) _).setCell (p := ⟨w.heap.size, k * 2 + 1, none⟩) (Nat.le_refl _) _
      case measure => simp [intOf]; omega
    · have hkn : k = n := by omega
      subst hkn
      go_wp2
      go_ret
      refine ⟨B', rfl, ⟨Mine.sl (t := 132) (.inr ⟨w.heap.size, 0, rfl, Nat.le_refl _, hrow.lt, hrow.congr (fun j hj => by rw [if_pos (by omega)])⟩), fun i hi => (hs i hi).1.wide (by omega) (Nat.le_refl _)⟩, hb⟩

set_option maxHeartbeats 1000000 in
/-- eqLockS of two lists that read alike: true -/
theorem eqLockS_same (lo hi lo' hi' : Nat) (A A' : Option Addr) (n c c' : Nat) (t : Nat → Int) (B B' : Nat → Option Addr) (m d d' : Nat → Nat) (x : Nat → Nat → Int) (w : World) (hn : n ≤ 1048576) (hm : ∀ i, i < n → m i ≤ 1048576) (h : LL w lo hi A n t B m d x) (h' : LL w lo' hi' A' n t B' m d' x) :
    Calls Try.prog 94 #[.slice A n c, .slice A' n c'] w fun e w' => e = .returned (.bool true) ∧ Below w.heap.size w w' := by
  have H := Lib.hid h.lt
  have H' := Lib.hid h'.lt
  have HM := Lib.hid hm
  have HN := Lib.hid hn
  clear h h' hm hn
  go_enter Try.func94, Try.ntmps94
  go_wp2
  go_loopw [5] (fun i wr => ∃ k : Nat, k ≤ n ∧ i = .int .i64 k ∧ Below w.heap.size w wr) (fun i _ => n - (intOf i).toNat)
  case atStart => exact ⟨0, Nat.zero_le _, rfl, Below.refl _ _⟩
  case round =>
    obtain ⟨k, hk, rfl, hb⟩ := hrel
    by_cases hlt : k < n
    · have wk : IntKind.i64.wrap ((k : Int) + 1) = (k : Int) + 1 := IntWalk.i64_in _ (by have := HN.out; omega)
      obtain ⟨b, off, rfl, h1, h2, hc⟩ := H.out.at_ hlt
      obtain ⟨b', off', rfl, h1', h2', hc'⟩ := H'.out.at_ hlt
      obtain ⟨p0, p1⟩ := hc k hlt
      obtain ⟨q0, q1⟩ := hc' k hlt
      have c0 : wr.cell? ⟨b, off + k * 2, none⟩ = _ := (hb.cell (p := ⟨b, off + k * 2, none⟩) (by simp; omega)).trans p0
      have c1 : wr.cell? ⟨b, off + k * 2 + 1, none⟩ = _ := (hb.cell (p := ⟨b, off + k * 2 + 1, none⟩) (by simp; omega)).trans p1
      have e0 : wr.cell? ⟨b', off' + k * 2, none⟩ = _ := (hb.cell (p := ⟨b', off' + k * 2, none⟩) (by simp; omega)).trans q0
      have e1 : wr.cell? ⟨b', off' + k * 2 + 1, none⟩ = _ := (hb.cell (p := ⟨b', off' + k * 2 + 1, none⟩) (by simp; omega)).trans q1
      have HB := Lib.hid hb
      have EQ : Hid (∀ W, Below w.heap.size w W → Calls Try.prog 167 #[.agg #[.int .i64 (t k), .slice (B k) (m k) (d k)], .agg #[.int .i64 (t k), .slice (B' k) (m k) (d' k)]] W fun e w' => e = .returned (.bool true) ∧ Below W.heap.size W w') := fun W hW =>
        eqLock_same lo (min hi w.heap.size) lo' (min hi' w.heap.size) (B k) (B' k) (m k) (d k) (d' k) (t k) (x k) W (by have := HM.out k hlt; omega) ((H.out.qs k hlt).below hW (by omega)) ((H'.out.qs k hlt).below hW (by omega))
      clear hc hc' p0 p1 q0 q1 hb H H'
      go_wp2_with fail
      go_region_with (refine (EQ.out _ (Below.drew HB.out)).mono ?_; rintro e w1 ⟨rfl, hb1⟩; have HB1 := Lib.hid ((Below.drew HB.out).trans (hb1.mono HB.out.size)); clear hb1)
      all_goals
        go_wp2
        go_roundw
        case rel => exact ⟨k + 1, by omega, by rfl, HB1.out⟩
        case measure => simp [intOf]; omega
    · go_wp2
      go_ret
      exact ⟨rfl, hb⟩

end Go.Proofs.Ytaemegkdmbhpnaa
