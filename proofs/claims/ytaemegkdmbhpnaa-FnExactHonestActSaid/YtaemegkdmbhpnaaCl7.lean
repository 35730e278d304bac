/-
  The law's helpers on lists of lists of numbers: size, copy, compare. No conditions beyond that the lists can be read.
-/
import Derived.Test.YtaemegkdmbhpnaaThr7
import Derived.Test.YtaemegkdmbhpnaaInts
namespace Go.Proofs.Ytaemegkdmbhpnaa
open Go.RowKit
set_option maxRecDepth 100000

/-- a list of lists of numbers that can be read -/
structure CL (W : World) (lo hi : Nat) (A : Option Addr) (n : Nat) (B : Nat → Option Addr) (m d : Nat → Nat) (x : Nat → Nat → Int) : Prop where
  row : Sl W lo hi A n (fun i => .slice (B i) (m i) (d i))
  qs : ∀ i, i < n → Sl W lo hi (B i) (m i) (fun k => .int .i64 (x i k))
section
variable {W W' : World} {lo hi n : Nat} {A : Option Addr} {B : Nat → Option Addr} {m d : Nat → Nat} {x : Nat → Nat → Int}
theorem CL.below (h : CL W lo hi A n B m d x) {b : Nat} (hb : Below b W W') (hB : hi ≤ b) : CL W' lo hi A n B m d x := ⟨h.row.below hb hB, fun i hi => (h.qs i hi).below hb hB⟩
theorem CL.wide (h : CL W lo hi A n B m d x) {lo' hi' : Nat} (h1 : lo' ≤ lo) (h2 : hi ≤ hi') : CL W lo' hi' A n B m d x := ⟨h.row.wide h1 h2, fun i hi => (h.qs i hi).wide h1 h2⟩
theorem CL.lt (h : CL W lo hi A n B m d x) : CL W lo (min hi W.heap.size) A n B m d x := ⟨h.row.lt, fun i hi => (h.qs i hi).lt⟩
theorem CL.at_ (h : CL W lo hi A n B m d x) {k : Nat} (hk : k < n) : ∃ b off, A = some ⟨b, off, none⟩ ∧ lo ≤ b ∧ b < hi ∧ ∀ i, i < n → W.cell? ⟨b, off + i, none⟩ = some (.slice (B i) (m i) (d i)) := by
  obtain ⟨b, off, e, h1, h2, hc⟩ := h.row.at_ hk
  exact ⟨b, off, e, h1, h2, fun i hi => hc i hi⟩
end

/-- a round of the sizes' loop -/
def SzC (w : World) (n : Nat) (m : Nat → Nat) (l i : Value) (wr : World) : Prop := ∃ (k : Nat) (L : Int), k ≤ n ∧ i = .int .i64 k ∧ l = .int .i64 L ∧ 0 ≤ L ∧ L ≤ 1048576 ∧ (∀ i, i < k → m i ≤ 1048576) ∧ Below w.heap.size w wr

set_option maxHeartbeats 1000000 in
theorem szInt64SS_any (lo hi : Nat) (A : Option Addr) (n c : Nat) (B : Nat → Option Addr) (m d : Nat → Nat) (x : Nat → Nat → Int) (L0 : Int) (w : World) (h0 : 0 ≤ L0 ∧ L0 ≤ 1048576) (hn : n ≤ 9223372036854775807) (hm : ∀ i, i < n → m i ≤ 9223372036854775807) (h : CL w lo hi A n B m d x) :
    Calls Try.prog 85 #[.slice A n c, .int .i64 L0] w fun e w' => ∃ v : Int, e = .returned (.int .i64 v) ∧ (v = -1 ∨ (0 ≤ v ∧ v ≤ 1048576 ∧ n ≤ 1048576 ∧ ∀ i, i < n → m i ≤ 1048576)) ∧ Below w.heap.size w w' := by
  have wn : IntKind.i64.wrap (L0 - (n : Int)) = L0 - (n : Int) := IntWalk.i64_in _ (by omega)
  have H := Lib.hid h.lt
  have HM := Lib.hid hm
  have HN := Lib.hid hn
  clear h hm hn
  by_cases h20 : (n : Int) ≤ L0
  rotate_left
  · have h1 : L0 - (n : Int) < 0 := by omega
    go_enter Try.func85, Try.ntmps85
    go_wp2
    go_ret
    exact ⟨-1, rfl, .inl rfl, Below.refl _ _⟩
  have h1 : ¬ (L0 - (n : Int) < 0) := by omega
  have H20 := Lib.hid (show n ≤ 1048576 ∧ (n : Int) ≤ L0 ∧ L0 ≤ 1048576 by omega)
  clear h20 h0
  go_enter Try.func85, Try.ntmps85
  go_wp2
  go_loopw [1, 5] (fun l i wr => SzC w n m l i wr) (fun _ i _ => n - (intOf i).toNat)
  case atStart => exact ⟨0, _, Nat.zero_le _, rfl, rfl, by have := H20.out; omega, by have := H20.out; omega, fun i hi => absurd hi (Nat.not_lt_zero _), Below.refl _ _⟩
  case round =>
    obtain ⟨k, L, hk, rfl, rfl, hL0, hL1, hs, hb⟩ := hrel
    by_cases hlt : k < n
    · have wk : IntKind.i64.wrap ((k : Int) + 1) = (k : Int) + 1 := IntWalk.i64_in _ (by have := H20.out; omega)
      obtain ⟨b, off, rfl, h1, h2, hc⟩ := H.out.at_ hlt
      have c0 : wr.cell? ⟨b, off + k, none⟩ = _ := (hb.cell (p := ⟨b, off + k, none⟩) (by simp; omega)).trans (hc k hlt)
      have SZ := Lib.hid (szInt64S7_any (B k) (m k) (d k) L wr (HM.out k hlt) ⟨hL0, hL1⟩)
      have HB := Lib.hid hb
      have HS := Lib.hid hs
      have HL := Lib.hid (show 0 ≤ L ∧ L ≤ 1048576 from ⟨hL0, hL1⟩)
      clear hc hb hs H hL0 hL1
      go_wp2_with fail
      with_reducible refine SZ.out.mono ?_
      rintro e w1 ⟨rfl, rfl⟩
      have HB1 := HB
      clear SZ c0
      by_cases hv : (m k : Int) ≤ L
      · rw [if_pos hv]
        have h0 : ¬ (L - (m k : Int) < 0) := by omega
        have HV := Lib.hid hv
        clear hv
        go_wp2
        go_roundw
        case rel =>
          have hn := H20.out.1
          refine ⟨k + 1, L - (m k : Int), by omega, by rfl, rfl, by have := HV.out; omega, by have := HL.out; omega, fun i hi => ?_, HB1.out⟩
          rcases Nat.lt_succ_iff_lt_or_eq.1 hi with h' | h'
          · exact HS.out i h'
          · subst h'; have := HV.out; have := HL.out; omega
        case measure => simp [intOf]; omega
      · rw [if_neg hv]
        clear hv
        go_wp2
        go_ret
        exact ⟨-1, rfl, .inl rfl, HB1.out⟩
    · have HL := Lib.hid hL0
      have HL1 := Lib.hid hL1
      have HS := Lib.hid hs
      clear hL0 hL1 hs
      go_wp2
      go_ret
      exact ⟨L, rfl, .inr ⟨HL.out, HL1.out, H20.out.1, fun i hi => HS.out i (by omega)⟩, hb⟩

theorem Try.info_Ints7 : (Try.prog.info? 22).map (fun i => (i.zero, i.size, i.bytes)) = some (some (.slice none 0 0), 1, 24) := by kernel_rfl
/-- a round of the copy's loop -/
def ToC (w : World) (n : Nat) (m : Nat → Nat) (x : Nat → Nat → Int) (i : Value) (wr : World) : Prop :=
  ∃ (k : Nat) (B : Nat → Option Addr), k ≤ n ∧ i = .int .i64 k ∧ Row wr w.heap.size 0 22 n (fun j => if j < k then .slice (B j) (m j) (m j) else .slice none 0 0) ∧ (∀ i, i < k → Sl wr (w.heap.size + 1) wr.heap.size (B i) (m i) (fun k => .int .i64 (x i k)) ∧ ∃ u, B i = some ⟨u, 0, none⟩) ∧ Below w.heap.size w wr

set_option maxHeartbeats 1000000 in
/-- toInt64SS: a new list that reads as the old one did -/
theorem toInt64SS_any (lo hi : Nat) (A : Option Addr) (n c : Nat) (B : Nat → Option Addr) (m d : Nat → Nat) (x : Nat → Nat → Int) (w : World) (hn : n ≤ 1048576) (hm : ∀ i, i < n → m i ≤ 1048576) (h : CL w lo hi A n B m d x) :
    Calls Try.prog 90 #[.slice A n c] w fun e w' => ∃ B' : Nat → Option Addr, e = .returned (.slice (some ⟨w.heap.size, 0, none⟩) n n) ∧ CL w' w.heap.size w'.heap.size (some ⟨w.heap.size, 0, none⟩) n B' m m x ∧ Below w.heap.size w w' := by
  have hmk := run_make_rows (P := Try.prog) 43 22 _ 1 24 Try.underlying43 Try.info_Ints7 .i64 .i64 n (by omega) (by omega)
  rw [Nat.mul_one] at hmk
  have H := Lib.hid h.lt
  have HM := Lib.hid hm
  have HN := Lib.hid hn
  clear h hm hn
  go_enter Try.func90, Try.ntmps90
  go_wp2
  go_loopw [4] (fun i wr => ToC w n m x i wr) (fun i _ => n - (intOf i).toNat)
  case atStart =>
    refine ⟨0, fun _ => none, Nat.zero_le _, rfl, ?_, fun i hi => absurd hi (Nat.not_lt_zero _), (Below.refl _ _).alloc (Nat.le_refl _) _⟩
    refine Row.new w _ _ _ _ fun k hk => ?_
    simp [madeCells, hk, Value.cells, Nat.mod_one]
  case round =>
    obtain ⟨k, B', hk, rfl, hrow, hs, hb⟩ := hrel
    by_cases hlt : k < n
    · have wk : IntKind.i64.wrap ((k : Int) + 1) = (k : Int) + 1 := IntWalk.i64_in _ (by have := HN.out; omega)
      obtain ⟨b, off, rfl, h1, h2, hc⟩ := H.out.at_ hlt
      have c0 : wr.cell? ⟨b, off + k, none⟩ = _ := (hb.cell (p := ⟨b, off + k, none⟩) (by simp; omega)).trans (hc k hlt)
      have HR := Lib.hid hrow
      have HB := Lib.hid hb
      have HS := Lib.hid hs
      have TP := Lib.hid (toInt64S_any lo (min hi w.heap.size) (B k) (m k) (d k) (x k) wr (by have := HM.out k hlt; omega) ((H.out.qs k hlt).below hb (by omega)) (by have := hb.size; omega))
      have ZR := Lib.hid (show w.heap.size < wr.heap.size from hrow.lt)
      clear hc hrow hb hs H
      go_wp2_with fail
      with_reducible refine TP.out.mono ?_
      rintro e w1 ⟨rfl, hru, hb1⟩
      have hrow := HR.out.below hb1 HR.out.lt
      have o0 := hrow.cell hlt
      have f0 := hrow.frozen (0 + k)
      simp only [Nat.zero_add, Nat.add_zero] at o0 f0
      have HB2 := Lib.hid (HB.out.trans (hb1.mono HB.out.size))
      have HR2 := Lib.hid hrow
      have HU := Lib.hid hru.lt
      obtain ⟨u, hu⟩ : ∃ u, u = wr.heap.size := ⟨_, rfl⟩
      have SU : Hid (Sl w1 u (u + 1) (some ⟨u, 0, none⟩) (m k) (fun j => .int .i64 (x k j))) := by rw [hu]; exact Mine.sl (t := 2) (.inr ⟨_, 0, rfl, Nat.le_refl _, Nat.lt_succ_self _, hru⟩)
      have SS : Hid (∀ i, i < k → Sl w1 (w.heap.size + 1) wr.heap.size (B' i) (m i) (fun k => .int .i64 (x i k)) ∧ ∃ u, B' i = some ⟨u, 0, none⟩) := fun i hi => ⟨(HS.out i hi).1.below hb1 (Nat.le_refl _), (HS.out i hi).2⟩
      have ZB := Lib.hid hb1.size
      rw [← hu] at ZR ZB HU SS ⊢
      clear hrow hb1 HR HB hru HS TP c0 hu
      go_wp2
      go_roundw
      case rel =>
        have hn := HN.out
        have hset := Row.set HR2.out hlt (.slice (some ⟨u, 0, none⟩) (m k) (m k))
        rw [Nat.zero_add] at hset
        refine ⟨k + 1, fun i => if i = k then some ⟨u, 0, none⟩ else B' i, by omega, by rfl, hset.congr (fun j hj => ?_), fun i hi => ?_, ?_⟩
        · by_cases e : j = k
          · subst e; rw [if_pos rfl, if_pos (by omega)]; simp
          · rw [if_neg e]
            by_cases h : j < k
            · rw [if_pos h, if_pos (by omega)]; simp [e]
            · rw [if_neg h, if_neg (by omega)]
        · have keep : ∀ {lo hi : Nat} {A : Option Addr} {q : Nat} {f : Nat → Value}, w.heap.size < lo → Sl w1 lo hi A q f → Sl (w1.setCell ⟨w.heap.size, k, none⟩ (.slice (some ⟨u, 0, none⟩) (m k) (m k))) lo hi A q f := fun hl hh => hh.keep fun b hb1 hb2 => Below.heap_setCell _ _ _ _ (by show b ≠ w.heap.size; omega)
          have HU := HU.out
          have ZR := ZR.out
          have ZB := ZB.out
          dsimp only
          by_cases e : i = k
          · subst e
            rw [if_pos rfl]
            exact ⟨(keep (by omega) SU.out).wide (by omega) (by simp; omega), u, rfl⟩
          · rw [if_neg e]
            obtain ⟨s1, s2⟩ := SS.out i (by omega)
            exact ⟨(keep (by omega) s1).wide (Nat.le_refl _) (by simp; omega), s2⟩
        · exact HB2.out.setCell (p := ⟨w.heap.size, k, none⟩) (Nat.le_refl _) _
      case measure => simp [intOf]; omega
    · have hkn : k = n := by omega
      subst hkn
      go_wp2
      go_ret
      refine ⟨B', rfl, ⟨Mine.sl (t := 22) (.inr ⟨w.heap.size, 0, rfl, Nat.le_refl _, hrow.lt, hrow.congr (fun j hj => by rw [if_pos hj])⟩), fun i hi => (hs i hi).1.wide (by omega) (Nat.le_refl _)⟩, hb⟩

set_option maxHeartbeats 1000000 in
/-- eqInt64SS of two lists that read alike: true -/
theorem eqInt64SS_same (lo hi lo' hi' : Nat) (A A' : Option Addr) (n c c' : Nat) (B B' : Nat → Option Addr) (m d d' : Nat → Nat) (x : Nat → Nat → Int) (w : World) (hn : n ≤ 1048576) (hm : ∀ i, i < n → m i ≤ 1048576) (h : CL w lo hi A n B m d x) (h' : CL w lo' hi' A' n B' m d' x) :
    Calls Try.prog 95 #[.slice A n c, .slice A' n c'] w fun e w' => e = .returned (.bool true) ∧ Below w.heap.size w w' := by
  have H := Lib.hid h.lt
  have H' := Lib.hid h'.lt
  have HM := Lib.hid hm
  have HN := Lib.hid hn
  clear h h' hm hn
  go_enter Try.func95, Try.ntmps95
  go_wp2
  go_loopw [5] (fun i wr => ∃ k : Nat, k ≤ n ∧ i = .int .i64 k ∧ Below w.heap.size w wr) (fun i _ => n - (intOf i).toNat)
  case atStart => exact ⟨0, Nat.zero_le _, rfl, Below.refl _ _⟩
  case round =>
    obtain ⟨k, hk, rfl, hb⟩ := hrel
    by_cases hlt : k < n
    · have wk : IntKind.i64.wrap ((k : Int) + 1) = (k : Int) + 1 := IntWalk.i64_in _ (by have := HN.out; omega)
      obtain ⟨b, off, rfl, h1, h2, hc⟩ := H.out.at_ hlt
      obtain ⟨b', off', rfl, h1', h2', hc'⟩ := H'.out.at_ hlt
      have c0 : wr.cell? ⟨b, off + k, none⟩ = _ := (hb.cell (p := ⟨b, off + k, none⟩) (by simp; omega)).trans (hc k hlt)
      have e0 : wr.cell? ⟨b', off' + k, none⟩ = _ := (hb.cell (p := ⟨b', off' + k, none⟩) (by simp; omega)).trans (hc' k hlt)
      have HB := Lib.hid hb
      have EQ : Hid (∀ W, Below w.heap.size w W → Calls Try.prog 79 #[.slice (B k) (m k) (d k), .slice (B' k) (m k) (d' k)] W fun e w' => e = .returned (.bool true) ∧ Below W.heap.size W w') := fun W hW =>
        eqInt64S_same lo (min hi w.heap.size) lo' (min hi' w.heap.size) (B k) (B' k) (m k) (d k) (d' k) (x k) W (by have := HM.out k hlt; omega) ((H.out.qs k hlt).below hW (by omega)) ((H'.out.qs k hlt).below hW (by omega))
      clear hc hc' hb H H'
      go_wp2_with fail
      go_region_with (refine (EQ.out _ (Below.drew HB.out)).mono ?_; rintro e w1 ⟨rfl, hb1⟩; have HB1 := Lib.hid ((Below.drew HB.out).trans (hb1.mono HB.out.size)); clear hb1)
      all_goals
        go_wp2
        go_roundw
        case rel => exact ⟨k + 1, by omega, by rfl, HB1.out⟩
        case measure => simp [intOf]; omega
    · go_wp2
      go_ret
      exact ⟨rfl, hb⟩

end Go.Proofs.Ytaemegkdmbhpnaa
