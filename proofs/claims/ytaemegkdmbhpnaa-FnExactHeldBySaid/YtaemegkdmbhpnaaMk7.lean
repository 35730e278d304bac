/-
  Copies of lists of lists whose inner lists lie in blocks that rise. No conditions beyond that the lists can be read.
-/
import Derived.Test.YtaemegkdmbhpnaaLib7
namespace Go.Proofs.Ytaemegkdmbhpnaa
open Go.RowKit
set_option maxRecDepth 100000

def bl7 (U : Nat → Nat) : Nat → Option Addr := fun i => some ⟨U i, 0, none⟩
theorem bl7_next (U : Nat → Nat) (k u : Nat) : bl7 (fun i => if i = k then u else U i) = fun i => if i = k then some ⟨u, 0, none⟩ else bl7 U i := by
  funext i
  unfold bl7
  by_cases h : i = k
  · simp [h]
  · simp [h]
/-- a list of locks of one's own, each queue in a block of its own -/
structure LM (W : World) (lo hi g n : Nat) (t : Nat → Int) (U m : Nat → Nat) (x : Nat → Nat → Int) : Prop where
  row : Row W g 0 132 (n * 2) (pc7 t (bl7 U) m m)
  gl : lo ≤ g ∧ g < hi
  qs : ∀ i, i < n → (g < U i ∧ U i < hi) ∧ Row W (U i) 0 2 (m i) (fun k => .int .i64 (x i k))
  up : ∀ i j, i < j → j < n → U i < U j
/-- a list of lists of one's own -/
structure CM (W : World) (lo hi g n : Nat) (U m : Nat → Nat) (x : Nat → Nat → Int) : Prop where
  row : Row W g 0 22 n (fun i => .slice (bl7 U i) (m i) (m i))
  gl : lo ≤ g ∧ g < hi
  qs : ∀ i, i < n → (g < U i ∧ U i < hi) ∧ Row W (U i) 0 2 (m i) (fun k => .int .i64 (x i k))
  up : ∀ i j, i < j → j < n → U i < U j

/-- a round of the copy's loop -/
def ToLM (w : World) (n : Nat) (t : Nat → Int) (m : Nat → Nat) (x : Nat → Nat → Int) (i : Value) (wr : World) : Prop :=
  ∃ (k : Nat) (U : Nat → Nat), k ≤ n ∧ i = .int .i64 k ∧ Row wr w.heap.size 0 132 (n * 2) (fun j => if j < k * 2 then pc7 t (bl7 U) m m j else zc7 j) ∧ (∀ i, i < k → (w.heap.size < U i ∧ U i < wr.heap.size) ∧ Row wr (U i) 0 2 (m i) (fun k => .int .i64 (x i k))) ∧ (∀ i j, i < j → j < k → U i < U j) ∧ Below w.heap.size w wr
set_option maxHeartbeats 1000000 in
/-- toLockS: a new list that reads as the old one did -/
theorem toLockSM_any (lo hi : Nat) (A : Option Addr) (n c : Nat) (t : Nat → Int) (B : Nat → Option Addr) (m d : Nat → Nat) (x : Nat → Nat → Int) (w : World) (hn : n ≤ 1048576) (hm : ∀ i, i < n → m i ≤ 1048576) (h : LL w lo hi A n t B m d x) :
    Calls Try.prog 89 #[.slice A n c] w fun e w' => ∃ U : Nat → Nat, e = .returned (.slice (some ⟨w.heap.size, 0, none⟩) n n) ∧ LM w' w.heap.size w'.heap.size w.heap.size n t U m x ∧ Below w.heap.size w w' := by
  have hmk := run_make_rows (P := Try.prog) 52 132 _ 2 32 Try.underlying52 Try.info_Lock7 .i64 .i64 n (by omega) (by omega)
  have H := Lib.hid h.lt
  have HM := Lib.hid hm
  have HN := Lib.hid hn
  clear h hm hn
  go_enter Try.func89, Try.ntmps89
  go_wp2
  go_loopw [4] (fun i wr => ToLM w n t m x i wr) (fun i _ => n - (intOf i).toNat)
  case atStart =>
    refine ⟨0, fun _ => 0, Nat.zero_le _, rfl, ?_, fun i hi => absurd hi (Nat.not_lt_zero _), fun i j _ hj => absurd hj (Nat.not_lt_zero _), (Below.refl _ _).alloc (Nat.le_refl _) _⟩
    refine Row.new w _ _ _ _ fun k hk => ?_
    rcases Nat.mod_two_eq_zero_or_one k with h2 | h2
    · simp [madeCells, hk, zc7, h2, Value.cells]
    · simp [madeCells, hk, zc7, h2, Value.cells]
  case round =>
    obtain ⟨k, U, hk, rfl, hrow, hs, hup, hb⟩ := hrel
    have HUP := Lib.hid hup
    have HSS := Lib.hid hs
    clear hup
    by_cases hlt : k < n
    · have wk : IntKind.i64.wrap ((k : Int) + 1) = (k : Int) + 1 := IntWalk.i64_in _ (by have := HN.out; omega)
      obtain ⟨b, off, rfl, h1, h2, hc⟩ := H.out.at_ hlt
      obtain ⟨p0, p1⟩ := hc k hlt
      have c0 : wr.cell? ⟨b, off + k * 2, none⟩ = _ := (hb.cell (p := ⟨b, off + k * 2, none⟩) (by simp; omega)).trans p0
      have c1 : wr.cell? ⟨b, off + k * 2 + 1, none⟩ = _ := (hb.cell (p := ⟨b, off + k * 2 + 1, none⟩) (by simp; omega)).trans p1
      have HR := Lib.hid hrow
      have HB := Lib.hid hb
      have HS := Lib.hid hs
      have TP := Lib.hid (toLock_any lo (min hi w.heap.size) (B k) (m k) (d k) (t k) (x k) wr (by have := HM.out k hlt; omega) ((H.out.qs k hlt).below hb (by omega)))
      clear hc p0 p1 hrow hb hs H
      go_wp2_with fail
      with_reducible refine TP.out.mono ?_
      rintro e w1 ⟨u, rfl, hu, hru, hb1⟩
      have hrow := HR.out.below hb1 HR.out.lt
      have o0 := hrow.cell (show k * 2 < n * 2 by omega)
      have f0 := hrow.frozen (0 + (k * 2))
      have o1 := hrow.cell (show k * 2 + 1 < n * 2 by omega)
      have f1 := hrow.frozen (0 + (k * 2 + 1))
      simp only [Nat.zero_add, Nat.add_zero] at o0 f0 o1 f1
      have HB2 := Lib.hid (HB.out.trans (hb1.mono HB.out.size))
      have HR2 := Lib.hid hrow
      have HU := Lib.hid hu
      have SU : Hid (Row w1 u 0 2 (m k) (fun j => .int .i64 (x k j))) := hru
      have SS : Hid (∀ i, i < k → (w.heap.size < U i ∧ U i < wr.heap.size) ∧ Row w1 (U i) 0 2 (m i) (fun k => .int .i64 (x i k))) := fun i hi => ⟨(HS.out i hi).1, (HS.out i hi).2.below hb1 (HS.out i hi).1.2⟩
      have ZR := Lib.hid (show w.heap.size < wr.heap.size from HR.out.lt)
      have ZB := Lib.hid hb1.size
      clear hrow hb1 HR HB hu hru HS TP c0 c1
      go_wp2
      go_roundw
      case rel =>
        have hn := HN.out
        refine ⟨k + 1, fun i => if i = k then u else U i, by omega, by rfl, (Row.set2_7 HR2.out (show k * 2 + 1 < n * 2 by omega) (.int .i64 (t k)) (.slice (some ⟨u, 0, none⟩) (m k) (m k))).congr (by rw [bl7_next U k u]; exact pc7_next t (bl7 U) m k u), fun i hi => ?_, fun i j hij hj => ?_, ?_⟩
        · have keep : ∀ {b q : Nat} {f : Nat → Value}, w.heap.size < b → Row w1 b 0 2 q f → Row ((w1.setCell ⟨w.heap.size, k * 2, none⟩ (.int .i64 (t k))).setCell ⟨w.heap.size, k * 2 + 1, none⟩ (.slice (some ⟨u, 0, none⟩) (m k) (m k))) b 0 2 q f := fun {b q f} hl hh => hh.keep ((Below.heap_setCell _ _ _ _ (by show b ≠ w.heap.size; omega)).trans (Below.heap_setCell _ _ _ _ (by show b ≠ w.heap.size; omega)))
          have HU := HU.out
          have ZR := ZR.out
          have ZB := ZB.out
          dsimp only
          by_cases e : i = k
          · subst e
            rw [if_pos rfl]
            exact ⟨⟨by omega, by simp; omega⟩, keep (by omega) SU.out⟩
          · rw [if_neg e]
            obtain ⟨s1, s2⟩ := SS.out i (by omega)
            exact ⟨⟨s1.1, by have := s1.2; simp; omega⟩, keep s1.1 s2⟩
        · have ZR := ZR.out
          have HU := HU.out
          dsimp only
          by_cases e : j = k
          · rw [if_pos e, if_neg (by omega)]
            have := (SS.out i (by omega)).1.2
            omega
          · rw [if_neg e, if_neg (by omega)]
            exact HUP.out i j hij (by omega)
        · exact (HB2.out.setCell (p := ⟨w.heap.size, k * 2, none⟩) (Nat.le_refl _) _).setCell (p := ⟨w.heap.size, k * 2 + 1, none⟩) (Nat.le_refl _) _
      case measure => simp [intOf]; omega
    · have hkn : k = n := by omega
      subst hkn
      go_wp2
      go_ret
      exact ⟨U, rfl, ⟨hrow.congr (fun j hj => by rw [if_pos (by omega)]), ⟨Nat.le_refl _, hrow.lt⟩, fun i hi => HSS.out i hi, HUP.out⟩, hb⟩

/-- a round of the copy's loop -/
def ToCM (w : World) (n : Nat) (m : Nat → Nat) (x : Nat → Nat → Int) (i : Value) (wr : World) : Prop :=
  ∃ (k : Nat) (U : Nat → Nat), k ≤ n ∧ i = .int .i64 k ∧ Row wr w.heap.size 0 22 n (fun j => if j < k then .slice (bl7 U j) (m j) (m j) else .slice none 0 0) ∧ (∀ i, i < k → (w.heap.size < U i ∧ U i < wr.heap.size) ∧ Row wr (U i) 0 2 (m i) (fun k => .int .i64 (x i k))) ∧ (∀ i j, i < j → j < k → U i < U j) ∧ Below w.heap.size w wr

set_option maxHeartbeats 1000000 in
/-- toInt64SS: a new list that reads as the old one did -/
theorem toInt64SSM_any (lo hi : Nat) (A : Option Addr) (n c : Nat) (B : Nat → Option Addr) (m d : Nat → Nat) (x : Nat → Nat → Int) (w : World) (hn : n ≤ 1048576) (hm : ∀ i, i < n → m i ≤ 1048576) (h : CL w lo hi A n B m d x) :
    Calls Try.prog 90 #[.slice A n c] w fun e w' => ∃ U : Nat → Nat, e = .returned (.slice (some ⟨w.heap.size, 0, none⟩) n n) ∧ CM w' w.heap.size w'.heap.size w.heap.size n U m x ∧ Below w.heap.size w w' := by
  have hmk := run_make_rows (P := Try.prog) 43 22 _ 1 24 Try.underlying43 Try.info_Ints7 .i64 .i64 n (by omega) (by omega)
  rw [Nat.mul_one] at hmk
  have H := Lib.hid h.lt
  have HM := Lib.hid hm
  have HN := Lib.hid hn
  clear h hm hn
  go_enter Try.func90, Try.ntmps90
  go_wp2
  go_loopw [4] (fun i wr => ToCM w n m x i wr) (fun i _ => n - (intOf i).toNat)
  case atStart =>
    refine ⟨0, fun _ => 0, Nat.zero_le _, rfl, ?_, fun i hi => absurd hi (Nat.not_lt_zero _), fun i j _ hj => absurd hj (Nat.not_lt_zero _), (Below.refl _ _).alloc (Nat.le_refl _) _⟩
    refine Row.new w _ _ _ _ fun k hk => ?_
    simp [madeCells, hk, Value.cells, Nat.mod_one]
  case round =>
    obtain ⟨k, U, hk, rfl, hrow, hs, hup, hb⟩ := hrel
    have HUP := Lib.hid hup
    have HSS := Lib.hid hs
    clear hup
    by_cases hlt : k < n
    · have wk : IntKind.i64.wrap ((k : Int) + 1) = (k : Int) + 1 := IntWalk.i64_in _ (by have := HN.out; omega)
      obtain ⟨b, off, rfl, h1, h2, hc⟩ := H.out.at_ hlt
      have c0 : wr.cell? ⟨b, off + k, none⟩ = _ := (hb.cell (p := ⟨b, off + k, none⟩) (by simp; omega)).trans (hc k hlt)
      have HR := Lib.hid hrow
      have HB := Lib.hid hb
      have HS := Lib.hid hs
      have TP := Lib.hid (toInt64S_any lo (min hi w.heap.size) (B k) (m k) (d k) (x k) wr (by have := HM.out k hlt; omega) ((H.out.qs k hlt).below hb (by omega)) (by have := hb.size; omega))
      have ZR := Lib.hid (show w.heap.size < wr.heap.size from hrow.lt)
      clear hc hrow hb hs H
      go_wp2_with fail
      with_reducible refine TP.out.mono ?_
      rintro e w1 ⟨rfl, hru, hb1⟩
      have hrow := HR.out.below hb1 HR.out.lt
      have o0 := hrow.cell hlt
      have f0 := hrow.frozen (0 + k)
      simp only [Nat.zero_add, Nat.add_zero] at o0 f0
      have HB2 := Lib.hid (HB.out.trans (hb1.mono HB.out.size))
      have HR2 := Lib.hid hrow
      have HU := Lib.hid hru.lt
      obtain ⟨u, hu⟩ : ∃ u, u = wr.heap.size := ⟨_, rfl⟩
      have SU : Hid (Row w1 u 0 2 (m k) (fun j => .int .i64 (x k j))) := by rw [hu]; exact hru
      have SS : Hid (∀ i, i < k → (w.heap.size < U i ∧ U i < wr.heap.size) ∧ Row w1 (U i) 0 2 (m i) (fun k => .int .i64 (x i k))) := fun i hi => ⟨(HS.out i hi).1, (HS.out i hi).2.below hb1 (HS.out i hi).1.2⟩
      have ZB := Lib.hid hb1.size
      rw [← hu] at ZR ZB HU SS ⊢
      clear hrow hb1 HR HB hru HS TP c0 hu
      go_wp2
      go_roundw
      case rel =>
        have hn := HN.out
        have hset := Row.set HR2.out hlt (.slice (some ⟨u, 0, none⟩) (m k) (m k))
        rw [Nat.zero_add] at hset
        refine ⟨k + 1, fun i => if i = k then u else U i, by omega, by rfl, hset.congr (fun j hj => ?_), fun i hi => ?_, fun i j hij hj => ?_, ?_⟩
        · rw [bl7_next U k u]
          by_cases e : j = k
          · subst e; rw [if_pos rfl, if_pos (by omega)]; simp
          · rw [if_neg e]
            by_cases h : j < k
            · rw [if_pos h, if_pos (by omega)]; simp [e]
            · rw [if_neg h, if_neg (by omega)]
        · have keep : ∀ {b q : Nat} {f : Nat → Value}, w.heap.size < b → Row w1 b 0 2 q f → Row (w1.setCell ⟨w.heap.size, k, none⟩ (.slice (some ⟨u, 0, none⟩) (m k) (m k))) b 0 2 q f := fun {b q f} hl hh => hh.keep (Below.heap_setCell _ _ _ _ (by show b ≠ w.heap.size; omega))
          have HU := HU.out
          have ZR := ZR.out
          have ZB := ZB.out
          dsimp only
          by_cases e : i = k
          · subst e
            rw [if_pos rfl]
            exact ⟨⟨by omega, by simp; omega⟩, keep (by omega) SU.out⟩
          · rw [if_neg e]
            obtain ⟨s1, s2⟩ := SS.out i (by omega)
            exact ⟨⟨s1.1, by have := s1.2; simp; omega⟩, keep s1.1 s2⟩
        · have ZR := ZR.out
          have HU := HU.out
          dsimp only
          by_cases e : j = k
          · rw [if_pos e, if_neg (by omega)]
            have := (SS.out i (by omega)).1.2
            omega
          · rw [if_neg e, if_neg (by omega)]
            exact HUP.out i j hij (by omega)
        · exact HB2.out.setCell (p := ⟨w.heap.size, k, none⟩) (Nat.le_refl _) _
      case measure => simp [intOf]; omega
    · have hkn : k = n := by omega
      subst hkn
      go_wp2
      go_ret
      exact ⟨U, rfl, ⟨hrow.congr (fun j hj => by rw [if_pos hj]), ⟨Nat.le_refl _, hrow.lt⟩, fun i hi => HSS.out i hi, HUP.out⟩, hb⟩

end Go.Proofs.Ytaemegkdmbhpnaa
