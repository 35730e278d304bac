/-
  The model's tick. No conditions beyond that the kernel is one of the call's own and right, and the act is right.
-/
import Derived.Maps.AppendAt
import Derived.Laws.AppendOwnNone
import Derived.Laws.CopyOwn
import Derived.Laws.Tables
import Derived.BigRegion
import Derived.BigQuiet
import Derived.StillTailTactics
import Derived.Test.YtckapndpefkcgaaGreatSpec3v
import Derived.Test.YtckapndpefkcgaaGreatU8s
set_option maxHeartbeats 1000000
namespace Go.Proofs.YtckapndpefkcgaaGreat
open List renaming getElem_toArray → zz1, getElem_cons_succ → zz2, getElem_cons_zero → zz3, setIfInBounds_toArray → zz4, set_cons_zero → zz5, set_cons_succ → zz6
open Go.RowKit
set_option maxRecDepth 100000

theorem Tryz.info_Note : (Tryz.prog.info? 96).map (fun i => (i.zero, i.size, i.bytes)) = some (some (.agg #[.int .i64 0, .int .i64 0, .int .i64 0]), 3, 24) := by kernel_rfl
theorem or_of3 {t : TypeId} {m : Nat} {w : World} {base n : Nat} {v : Value} {hs : List Int} (h : w.ownsRow base t m v n (vals hs)) : ∃ A c, v = .slice A n c ∧ OR t m w base A n c hs := by
  rcases h.2 with ⟨rfl, rfl⟩ | ⟨g, cap, cur, rfl, _⟩
  · exact ⟨none, 0, rfl, h⟩
  · exact ⟨some ⟨g, 0, none⟩, cap, rfl, h⟩
theorem Kept.low {gs : List Nat} {w a b : World} (h : Kept gs w a) (k : Below w.heap.size a b) : Kept gs w b :=
  ⟨h.1.trans (k.mono (Nat.zero_le _)), fun j hj hn => (k.block j hj).trans (h.2 j hj hn)⟩
theorem KB.low {a b : World} {g B : Nat} {p : Kp} {K : Ker} (h : KB a g p K) (k : Below B a b) (h0 : g < B) (h1 : p.g1 < B) (h2 : p.g2 < B) (h3 : p.g3 < B) : KB b g p K := by
  have hk : Kept (List.range' B (a.heap.size - B)) a b := ⟨k.mono (Nat.zero_le _), fun j hj hn => k.block j (by
    rw [List.mem_range'_1] at hn
    omega)⟩
  exact h.kept hk (by rw [List.mem_range'_1]; omega) (by rw [List.mem_range'_1]; omega) (by rw [List.mem_range'_1]; omega) (by rw [List.mem_range'_1]; omega)
theorem lit3 (w : World) (a b c : Int) (k : Nat) (hk : w.heap[k]? = some (.cells #[.int .i64 a, .int .i64 b, .int .i64 c] 96 (0, 0))) : ∀ j u, ([.int .i64 a, .int .i64 b, .int .i64 c] : List Value)[j]? = some u → w.cell? ((⟨k, 0, none⟩ : Addr).add j) = some u := by
  intro j u hu
  rw [Go.WideShapes.add_plain]
  rcases j with _ | _ | _ | j
  · injection hu with hu; subst hu; exact cell_of_row w _ 0 _ _ _ hk
  · injection hu with hu; subst hu; exact cell_of_row w _ 1 _ _ _ hk
  · injection hu with hu; subst hu; exact cell_of_row w _ 2 _ _ _ hk
  · simp at hu
theorem OR.grew {t : TypeId} {m : Nat} {a b : World} {base n c : Nat} {A : Option Addr} {hs : List Int} (h : OR t m a base A n c hs) (hb : base ≤ a.heap.size) (hg : a.grownBy b (Value.slice A n c).ownBlock) : Below base a b :=
  (Below.refl base a).grown hg hb (fun k hk => by
    rcases A with _ | ad
    · cases hk
    · obtain ⟨g', e, h1, h2⟩ := OR.at_ h (by simp)
      injection e with e
      subst e
      have hk' : some g' = some k := hk
      injection hk' with e2
      omega)
theorem Kept.rowNew {gs : List Nat} {w a : World} (h : Kept gs w a) {j : Nat} (hj : w.heap.size ≤ j) (cs : Array Value) : Kept gs w (a.setRow j cs) :=
  h.low (below_setRow (Below.refl _ _) hj cs)
theorem begin3_tick (K : Ker) : (tickB K).1.tick = K.tick := by
  unfold tickB begin3
  split
  · split
    · rfl
    · split
      · exact (put3_os _ _ _).2.2.1
      · rfl
  · rfl
theorem act3_tick (K : Ker) (k to : Int) : (tickA K k to).1.tick = K.tick := by
  unfold tickA act3
  split
  · split
    · rfl
    · split
      · exact (put3_os _ _ _).2.2.1
      · exact (put3_os _ _ _).2.2.1
  · rfl
theorem TK.tickB {K : Ker} (h : TK K) : TK (tickB K).1 := by
  unfold Go.Proofs.YtckapndpefkcgaaGreat.tickB
  split
  · exact h.begin
  · exact h
theorem TK.tickA {K : Ker} (h : TK K) (k to : Int) (ht : 0 ≤ to ∧ to < 4) : TK (tickA K k to).1 := by
  unfold Go.Proofs.YtckapndpefkcgaaGreat.tickA
  split
  · exact h.act (by assumption) k to ht
  · exact h
theorem begin3_len (K : Ker) : (tickB K).2.length ≤ 3 := by
  unfold Go.Proofs.YtckapndpefkcgaaGreat.tickB begin3
  split
  · split
    · simp
    · split <;> simp
  · simp
theorem act3_len (K : Ker) (k to : Int) : (tickA K k to).2.length ≤ 3 := by
  unfold Go.Proofs.YtckapndpefkcgaaGreat.tickA act3
  split
  · split
    · simp
    · split <;> simp
  · simp

set_option maxHeartbeats 4000000 in
theorem specTick_any {w : World} {g : Nat} {p : Kp} {K : Ker} (h : KB w g p K) (t : TK K) (ga oa : Nat) (k to : Int) (ht : 0 ≤ to ∧ to < 4) (hga : ga ≠ g ∧ ga ≠ p.g3) (hc0 : w.cell? ⟨ga, oa, none⟩ = some (.int .i64 k)) (hc1 : w.cell? ⟨ga, oa + 1, none⟩ = some (.int .i64 to)) :
    Calls Tryz.prog 75 #[.pointer (some ⟨g, 0, none⟩), .pointer (some ⟨ga, oa, none⟩)] w (fun e w' => ∃ A n c, e = .returned (.slice A n c) ∧ OR 96 3 w' w.heap.size A n c (tick3 K k to).2 ∧ KB w' g p (tick3 K k to).1 ∧ Kept [g, p.g3] w w') := by
  obtain ⟨i0, hi0, hz0, hz1, hz2⟩ := info_parts Tryz.info_Note
  have TT := Lib.hid t
  obtain ⟨ph, hph⟩ : ∃ ph, ph = K.tick % 9 := ⟨_, rfl⟩
  have PH : Hid (∀ W (K' : Ker), K'.tick = K.tick → KB W g p K' → Calls Tryz.prog 105 #[.pointer (some ⟨g, 0, none⟩)] W fun e w' => e = .returned (.int .i64 ph) ∧ W = w') := fun W K' hK hW => by
    rw [hph, ← hK]; exact specPhase_any g K'.tick W (by rw [hK]; exact TT.out.tick.1) hW.cells.2.2.2.1
  have HPH := Lib.hid hph
  have LA := Lib.hid (World.block_lt_of_cell? _ _ hc0)
  have AK : Hid (∀ W, Kept [g, p.g3] w W → (W.cell? ⟨ga, oa, none⟩ = some (.int .i64 k) ∧ W.cell? ⟨ga, oa + 1, none⟩ = some (.int .i64 to))) := fun W hW => by
    have e : W.heap[ga]? = w.heap[ga]? := hW.2 ga LA.out (by simp; omega)
    exact ⟨(World.cell?_of_block (a := ⟨ga, oa, none⟩) e).trans hc0, (World.cell?_of_block (a := ⟨ga, oa + 1, none⟩) e).trans hc1⟩
  have NE := Lib.hid (show g < w.heap.size ∧ p.g1 < w.heap.size ∧ p.g2 < w.heap.size ∧ p.g3 < w.heap.size from ⟨h.lt, h.lt1 (by have := h.own.l1; have := t.l1; omega), h.lt2.1, h.lt2.2⟩)
  have HX := Lib.hid h
  clear hph hc0 hc1 h t
  obtain ⟨w1, hw1⟩ : ∃ w1, w1 = w.alloc (.cells #[] 96) := ⟨_, rfl⟩
  have X1 := Lib.hid (show Kept [g, p.g3] w w1 by rw [hw1]; exact (Kept.refl _ _).alloc _)
  have H1 := Lib.hid (HX.out.kept (show Kept [] w w1 by rw [hw1]; exact (Kept.refl _ _).alloc _) (by simp) (by simp) (by simp) (by simp))
  have O1 := Lib.hid (show OR 96 3 w1 w.heap.size (some ⟨w.heap.size, 0, none⟩) 0 0 [] by rw [hw1]; exact OR.empty w (Nat.le_refl _))
  have HW1 := Lib.hid hw1
  clear hw1 HX
  go_enter Tryz.func75, Tryz.ntmps75
  go_upto_region 2 with (fail)
  rw [← HW1.out]
  clear HW1
  go_wp2_with fail
  refine (PH.out _ K rfl H1.out).mono ?_
  rintro e9 w2 ⟨rfl, rfl⟩
  go_upto_if 13 with (fail)
  go_cut [5] from 6 (fun x wx => ∃ (A : Option Addr) (n c : Nat), x = .slice A n c ∧ OR 96 3 wx w.heap.size A n c (tickB K).2 ∧ KB wx g p (tickB K).1 ∧ Kept [g, p.g3] w wx)
  case first => as_aux_lemma =>
    by_cases hp : ph = 0
    · have BE : Hid (tickB K = begin3 K) := by show _ = _; unfold tickB; rw [← HPH.out, if_pos hp]
      subst hp
      go_wp2_with fail
      refine (specBegin_any H1.out TT.out).mono ?_
      rintro e9 w3 ⟨a, b, c, rfl, hbe, hkb, hkk⟩
      have E3 := Lib.hid hbe
      have H3 := Lib.hid hkb
      have X3 := Lib.hid (X1.out.trans hkk)
      have O3 := Lib.hid (O1.out.kept hkk (by have := NE.out; intro j e; injection e with e; injection e with e; simp; omega))
      clear hbe hkb hkk O1 H1 X1
      obtain ⟨w4, hw4⟩ : ∃ w4, w4 = (w3.alloc (.cells #[.int .i64 a, .int .i64 b, .int .i64 c] 96)).alloc (.cells #[.int .i64 a, .int .i64 b, .int .i64 c] 96) := ⟨_, rfl⟩
      have k4 : w4.heap[w3.heap.size + 1]? = some (.cells #[.int .i64 a, .int .i64 b, .int .i64 c] 96 (0, 0)) := by rw [hw4]; exact heap_alloc2_new w3 _ _
      have Y4 : Kept [] w3 w4 := by rw [hw4]; exact ((Kept.refl _ _).alloc _).alloc _
      have NW := Lib.hid (lit3 w4 a b c _ k4)
      have H4 := Lib.hid (H3.out.kept Y4 (by simp) (by simp) (by simp) (by simp))
      have X4 := Lib.hid (X3.out.trans (Y4.mono (gs' := [g, p.g3]) (by simp)))
      have O4 := Lib.hid (O3.out.kept Y4 (by simp))
      have Z4 := Lib.hid (show w.heap.size ≤ w4.heap.size from X4.out.1.size)
      have HW4 := Lib.hid hw4
      clear hw4 k4 Y4 H3 X3 O3
      go_wp2_with
        (at_builtin
         rw [← HW4.out]
         refine wpList_append_own _ rfl (.tmp 16) (.tmp 18) 31 rfl w.heap.size 96 i0 (.agg #[.int .i64 0, .int .i64 0, .int .i64 0]) 3 24 Tryz.underlying31 hi0 hz0 hz1 hz2 rfl (by decide) _ 0 _ rfl O4.out ⟨w3.heap.size + 1, 0, none⟩ 1 1 [.int .i64 a, .int .i64 b, .int .i64 c] rfl rfl NW.out (by simp [Value.oneCell']) (by decide) (by decide) Z4.out ?_
         intro v' w5 hown hgrow _
         have GW := Lib.hid (O4.out.grew Z4.out hgrow)
         have ho := hown
         rw [show vals [] ++ [Value.int .i64 a, .int .i64 b, .int .i64 c] = vals [a, b, c] by simp [vals]] at ho
         clear hown hgrow
         obtain ⟨A', c', rfl, ho⟩ := or_of3 ho
         have O5 := Lib.hid ho
         have H5 := Lib.hid (H4.out.low GW.out NE.out.1 NE.out.2.1 NE.out.2.2.1 NE.out.2.2.2)
         have X5 := Lib.hid (X4.out.low GW.out)
         clear ho GW O4 H4 X4 Z4 NW HW4)
      go_meet
      case rel => exact ⟨_, _, _, rfl, by rw [BE.out, E3.out]; exact O5.out, by rw [BE.out]; exact H5.out, X5.out⟩
    · have BE : Hid (tickB K = (K, [])) := by show _ = _; unfold tickB; rw [← HPH.out, if_neg hp]
      have hp' : (ph == 0) = false := by simp [hp]
      clear hp
      go_wp2_with fail
      go_meet
      case rel => exact ⟨_, _, _, rfl, by rw [BE.out]; exact O1.out, by rw [BE.out]; exact H1.out, X1.out⟩
  case rest => as_aux_lemma =>
    obtain ⟨A, n, c, rfl, ho, hkb, hkk⟩ := hcut
    have O2 := Lib.hid ho
    have H2 := Lib.hid hkb
    have X2 := Lib.hid hkk
    have T2 := Lib.hid TT.out.tickB
    have TE := Lib.hid (show tick3 K k to = ({ (tickE (tickA (tickB K).1 k to).1).1 with tick := K.tick + 1 }, (tickB K).2 ++ (tickA (tickB K).1 k to).2 ++ (tickE (tickA (tickB K).1 k to).1).2) from rfl)
    have ET := Lib.hid (begin3_tick K)
    have EL := Lib.hid (begin3_len K)
    obtain ⟨K1, hK1⟩ : ∃ K1, K1 = (tickB K).1 := ⟨_, rfl⟩
    obtain ⟨L1, hL1⟩ : ∃ L1, L1 = (tickB K).2 := ⟨_, rfl⟩
    rw [← hK1, ← hL1] at TE
    rw [← hK1] at H2 T2 ET
    rw [← hL1] at O2 EL
    clear ho hkb hkk hK1 hL1 O1 H1 X1
    obtain ⟨q0, q1, q2, q3, q4⟩ := H2.out.cells
    go_upto_if 24 with (fail)
    go_cut [5] from 6 (fun x wx => ∃ (A : Option Addr) (n c : Nat), x = .slice A n c ∧ OR 96 3 wx w.heap.size A n c (L1 ++ (tickA K1 k to).2) ∧ KB wx g p (tickA K1 k to).1 ∧ Kept [g, p.g3] w wx)
    case first => as_aux_lemma =>
      by_cases hr : K1.run = -1
      · have AE : Hid (tickA K1 k to = (K1, [])) := by show _ = _; unfold tickA; rw [if_neg (by simp [hr])]
        have g1 : (K1.run != -1) = false := by simp [hr]
        clear hr q0 q1 q2 q3 q4
        go_wp2_with fail
        go_meet
        case rel => exact ⟨_, _, _, rfl, by rw [AE.out, List.append_nil]; exact O2.out, by rw [AE.out]; exact H2.out, X2.out⟩
      · have AE : Hid (tickA K1 k to = act3 K1 k to) := by show _ = _; unfold tickA; rw [if_pos hr]
        have g1 : (K1.run != -1) = true := by simp [hr]
        have HR := Lib.hid hr
        clear hr q0 q1 q2 q3 q4
        obtain ⟨c0, c1⟩ := AK.out _ X2.out
        have C0 := Lib.hid c0
        have C1 := Lib.hid c1
        clear c0 c1
        go_wp2_with fail
        refine (specAct_any H2.out T2.out HR.out ga oa k to ht hga C0.out C1.out).mono ?_
        rintro e9 w3 ⟨A2, n2, c2, rfl, ho2, hkb, hkk⟩
        have H3 := Lib.hid hkb
        have X3 := Lib.hid (X2.out.trans hkk)
        have O3 := Lib.hid (O2.out.kept hkk (by
          rcases A with _ | ad
          · intro j e; cases e
          · obtain ⟨g', e, h1, h2⟩ := OR.at_ O2.out (by simp)
            have := NE.out
            intro j e'
            rw [e] at e'
            injection e' with e'
            injection e' with e'
            simp
            omega))
        have EA := Lib.hid (act3_len K1 k to)
        rw [AE.out] at EA
        obtain ⟨L2, hL2⟩ : ∃ L2, L2 = (act3 K1 k to).2 := ⟨_, rfl⟩
        rw [← hL2] at ho2 EA
        have EL2 := Lib.hid hL2
        have P3 := Lib.hid ho2
        have Z3 := Lib.hid (show w.heap.size ≤ w3.heap.size from X3.out.1.size)
        clear hkb hkk ho2 hL2 O2 H2 X2 C0 C1
        have n1 : n ≤ 1 := by have := EL.out; have := O3.out.len; omega
        have n22 : n2 ≤ 1 := by have := EA.out; have := P3.out.len; omega
        rcases A2 with _ | ad
        · obtain ⟨hn, hc⟩ := OR.nil0 P3.out
          subst hn hc
          have E0 : Hid (L2 = []) := by have := P3.out.len; exact List.length_eq_zero_iff.1 (by omega)
          go_wp2_with (at_builtin; refine wpList_append_own_none rfl (.tmp 28) (.tmp 29) 31 rfl w.heap.size 96 i0 3 Tryz.underlying31 hi0 _ n _ rfl O3.out rfl ?_)
          go_meet
          case rel => exact ⟨_, _, _, rfl, by rw [AE.out, ← EL2.out, E0.out, List.append_nil]; exact O3.out, by rw [AE.out]; exact H3.out, X3.out⟩
        · obtain ⟨g2, e2, hg2, hg3⟩ := OR.at_ P3.out (by simp)
          injection e2 with e2
          subst e2
          have NW : Hid (∀ j u, (vals L2)[j]? = some u → w3.cell? ((⟨g2, 0, none⟩ : Addr).add j) = some u) := by
            intro j u hu
            have hj : j < L2.length := by have := (List.getElem?_eq_some_iff.1 hu).1; simpa [vals] using this
            rw [vals_get L2 j hj] at hu
            injection hu with hu
            subst hu
            rw [Go.WideShapes.add_plain]
            simp only [Nat.zero_add]
            exact P3.out.cell (by rw [← P3.out.len]; exact hj)
          have ON : Hid (∀ u ∈ vals L2, u.oneCell' = true) := by
            intro u hu
            simp only [vals, List.mem_map] at hu
            obtain ⟨_, _, rfl⟩ := hu
            rfl
          have LN : Hid ((vals L2).length = n2 * 3) := by show _ = _; simp [vals, P3.out.len]
          clear hg2 hg3
          go_wp2_with
            (at_builtin
             refine wpList_append_own _ rfl (.tmp 28) (.tmp 29) 31 rfl w.heap.size 96 i0 (.agg #[.int .i64 0, .int .i64 0, .int .i64 0]) 3 24 Tryz.underlying31 hi0 hz0 hz1 hz2 rfl (by decide) _ n _ rfl O3.out ⟨g2, 0, none⟩ n2 c2 (vals L2) rfl LN.out NW.out ON.out (by unfold maxLen; omega) (by omega) Z3.out ?_
             intro v' w5 hown hgrow _
             have GW := Lib.hid (O3.out.grew Z3.out hgrow)
             have ho := hown
             rw [show vals L1 ++ vals L2 = vals (L1 ++ L2) by simp [vals]] at ho
             clear hown hgrow
             obtain ⟨A', c', rfl, ho⟩ := or_of3 ho
             have O5 := Lib.hid ho
             have H5 := Lib.hid (H3.out.low GW.out NE.out.1 NE.out.2.1 NE.out.2.2.1 NE.out.2.2.2)
             have X5 := Lib.hid (X3.out.low GW.out)
             clear ho GW O3 H3 X3 Z3 NW ON LN P3)
          go_meet
          case rel => exact ⟨_, _, _, rfl, by rw [AE.out, ← EL2.out]; exact O5.out, by rw [AE.out]; exact H5.out, X5.out⟩
    case rest => as_aux_lemma =>
      obtain ⟨A, n, c, rfl, ho, hkb, hkk⟩ := hcut
      have O3 := Lib.hid ho
      have H3 := Lib.hid hkb
      have X3 := Lib.hid hkk
      have T3 := Lib.hid (T2.out.tickA k to ht)
      have E3 := Lib.hid ((act3_tick K1 k to).trans ET.out)
      have EL3 := Lib.hid (act3_len K1 k to)
      obtain ⟨K2, hK2⟩ : ∃ K2, K2 = (tickA K1 k to).1 := ⟨_, rfl⟩
      obtain ⟨L2, hL2⟩ : ∃ L2, L2 = (tickA K1 k to).2 := ⟨_, rfl⟩
      rw [← hK2, ← hL2] at TE
      rw [← hK2] at H3 T3 E3
      rw [← hL2] at O3 EL3
      have FAR : Hid (∀ W (A : Option Addr) (n c : Nat) (hs : List Int), OR 96 3 W w.heap.size A n c hs → ∀ j, A = some ⟨j, 0, none⟩ → j ∉ [g]) := fun W A n c hs hO j e => by
        subst e
        have := NE.out
        have := hO.lt
        simp
        omega
      have TK9 := Lib.hid TT.out.tick
      have hwr : IntKind.i64.wrap (K.tick + 1) = K.tick + 1 := IntWalk.i64_in _ (by have := TK9.out; omega)
      clear ho hkb hkk hK2 hL2 O2 H2 X2 q0 q1 q2 q3 q4 T2 ET
      obtain ⟨q0, q1, q2, q3, q4⟩ := H3.out.cells
      rw [E3.out] at q3
      have f3 := frozen_of_row wc _ 3 _ _ H3.out.box
      clear q0 q1
      go_wp2_with fail
      refine (PH.out _ K2 E3.out H3.out).mono ?_
      rintro e9 w4 ⟨rfl, rfl⟩
      by_cases hp8 : ph = 8
      · by_cases hr : K2.run = -1
        · have SE : Hid (tickE K2 = (K2, [])) := by show _ = _; unfold tickE; rw [if_neg (by simp [hr])]
          subst hp8
          have g1 : (K2.run != -1) = false := by simp [hr]
          clear hr q2
          go_wp2
          go_ret
          exact ⟨_, _, _, rfl, by rw [TE.out, SE.out]; exact ((show Hid (OR 96 3 wc w.heap.size A n c (L1 ++ L2 ++ [])) by rw [List.append_nil]; exact O3).out.kept ((Kept.refl [g] wc).setCell (p := ⟨g, 3, none⟩) (by simp) _) (FAR.out _ _ _ _ _ (show Hid (OR 96 3 wc w.heap.size A n c (L1 ++ L2 ++ [])) by rw [List.append_nil]; exact O3).out)), by rw [TE.out, SE.out]; exact H3.out.setTick _, X3.out.setCell (p := ⟨g, 3, none⟩) (by simp) _⟩
        · have SE : Hid (tickE K2 = end3 K2) := by show _ = _; unfold tickE; rw [E3.out, ← HPH.out, if_pos ⟨hp8, hr⟩]
          obtain ⟨rn, hrn⟩ : ∃ rn : Nat, K2.run = (rn : Int) := ⟨K2.run.toNat, by have := T3.out.run; omega⟩
          have hr4 : rn < 4 := by have := T3.out.run; omega
          have HRN := Lib.hid hrn
          have g1 : ((rn : Int) != -1) = true := by simp
          have y0 : (0 : Int) ≤ (rn : Int) := by omega
          have y1 : (rn : Int) < 4 := by omega
          rw [hrn] at q4
          subst hp8
          clear hr hrn
          obtain ⟨o3, hA3, hR3⟩ := H3.out.accs
          have HA3 := Lib.hid hA3
          rw [hA3] at q2
          have AFK := Lib.hid (T3.out.ac rn hr4)
          obtain ⟨zu, hzu⟩ : ∃ z, z = gi K2.ac (rn * 4) := ⟨_, rfl⟩
          obtain ⟨zx, hzx⟩ : ∃ z, z = gi K2.ac (rn * 4 + 1) := ⟨_, rfl⟩
          obtain ⟨zg, hzg⟩ : ∃ z, z = gi K2.ac (rn * 4 + 2) := ⟨_, rfl⟩
          obtain ⟨zd, hzd⟩ : ∃ z, z = gi K2.ac (rn * 4 + 3) := ⟨_, rfl⟩
          have PA : Hid (acf K2 rn pun2 = pun2 zu zx zg zd) := by show _ = _; unfold acf; rw [hzu, hzx, hzg, hzd]
          have a0 : wc.cell? ⟨p.g3, o3 + rn * 4, none⟩ = some (.int .i64 zu) := by rw [hzu]; exact hR3.cell (k := rn * 4) (by omega)
          have a1 : wc.cell? ⟨p.g3, o3 + rn * 4 + 1, none⟩ = some (.int .i64 zx) := by rw [hzx]; exact hR3.cell (k := rn * 4 + 1) (by omega)
          have a2 : wc.cell? ⟨p.g3, o3 + rn * 4 + 2, none⟩ = some (.int .i64 zg) := by rw [hzg]; exact hR3.cell (k := rn * 4 + 2) (by omega)
          have a3 : wc.cell? ⟨p.g3, o3 + rn * 4 + 3, none⟩ = some (.int .i64 zd) := by rw [hzd]; exact hR3.cell (k := rn * 4 + 3) (by omega)
          have CA := Lib.hid (⟨a0, a1, a2, a3⟩ : _ ∧ _ ∧ _ ∧ _)
          have PC : Hid ((pun2 zu zx zg zd).1 = 0) := by
            have h0 := AFK.out
            unfold afk at h0
            rw [← hzu, ← hzx, ← hzg, ← hzd] at h0
            show _ = _
            unfold pun2
            rw [if_neg (by rw [h0]; simp)]
            split <;> rfl
          obtain ⟨q, u, x, y, d, b, hpn⟩ := six (pun2 zu zx zg zd)
          have PN := Lib.hid hpn
          have QZ : Hid (q = 0) := by have := PC.out; rw [PN.out] at this; exact this
          have EE : Hid (end3 K2 = ({ K2 with ac := setAcc K2.ac rn u x y d, run := -1 }, [K.tick, (rn : Int), if b = true then 7 else 6])) := by
            show _ = _
            unfold end3
            rw [HRN.out, Int.toNat_natCast, PA.out, PN.out]
            unfold put3
            split
            · rw [← E3.out]
            · rename_i hh
              exact absurd QZ.out hh
          clear hA3 hR3 hpn hzu hzx hzg hzd a0 a1 a2 a3 f3
          go_upto_region 9 with (fail)
          obtain ⟨wa, hwa⟩ : ∃ wa, wa = wc := ⟨_, rfl⟩
          subst hwa
          have HA2 := Lib.hid q2
          have SK : Hid (∀ W, Kept [] wa W → (W.cell? ⟨g, 2, none⟩ = some (.slice (some ⟨p.g3, o3, none⟩) 4 p.c3) ∧ W.cell? ⟨g, 4, none⟩ = some (.int .i64 (rn : Int)))) := fun W hW => by
            have e : W.heap[g]? = wa.heap[g]? := hW.2 g H3.out.lt (by simp)
            exact ⟨(World.cell?_of_block (a := ⟨g, 2, none⟩) e).trans q2, (World.cell?_of_block (a := ⟨g, 4, none⟩) e).trans q4⟩
          have CK : Hid (∀ W, Kept [] wa W → (W.cell? ⟨p.g3, o3 + rn * 4, none⟩ = some (.int .i64 zu) ∧ W.cell? ⟨p.g3, o3 + rn * 4 + 1, none⟩ = some (.int .i64 zx) ∧ W.cell? ⟨p.g3, o3 + rn * 4 + 2, none⟩ = some (.int .i64 zg) ∧ W.cell? ⟨p.g3, o3 + rn * 4 + 3, none⟩ = some (.int .i64 zd))) := fun W hW => by
            have e : W.heap[p.g3]? = wa.heap[p.g3]? := hW.2 p.g3 (by have := NE.out; have := X3.out.1.size; omega) (by simp)
            obtain ⟨b0, b1, b2, b3⟩ := CA.out
            exact ⟨(World.cell?_of_block (a := ⟨p.g3, _, none⟩) e).trans b0, (World.cell?_of_block (a := ⟨p.g3, _, none⟩) e).trans b1, (World.cell?_of_block (a := ⟨p.g3, _, none⟩) e).trans b2, (World.cell?_of_block (a := ⟨p.g3, _, none⟩) e).trans b3⟩
          clear q3 hwr
          go_cut [8] from 41 (fun x8 wx => ∃ b8 : Nat, x8 = .pointer (some ⟨b8, 0, none⟩) ∧ wx.heap[b8]? = some (.cells #[.int .i64 q, .int .i64 u, .int .i64 x, .int .i64 y, .int .i64 d, .bool b] 163 (0, 0)) ∧ wa.heap.size ≤ b8 ∧ Kept [] wa wx)
          case first => as_aux_lemma =>
            refine wp_region_held_drew (S := fun W => ((W.cell? ⟨g, 2, none⟩ = some (.slice (some ⟨p.g3, o3, none⟩) 4 p.c3) ∧ W.cell? ⟨g, 4, none⟩ = some (.int .i64 (rn : Int))) ∧ W.cell? ⟨p.g3, o3 + rn * 4, none⟩ = some (.int .i64 zu) ∧ W.cell? ⟨p.g3, o3 + rn * 4 + 1, none⟩ = some (.int .i64 zx) ∧ W.cell? ⟨p.g3, o3 + rn * 4 + 2, none⟩ = some (.int .i64 zg) ∧ W.cell? ⟨p.g3, o3 + rn * 4 + 3, none⟩ = some (.int .i64 zd))) (by kernel_rfl) (⟨⟨q2, q4⟩, CA.out⟩) (fun hHeld => ?_)
            obtain ⟨v0, hv0⟩ : ∃ v0, v0 = wa.drew := ⟨_, rfl⟩
            have BL0 : Hid (Below wa.heap.size wa v0) := by rw [hv0]; exact Below.drew (Below.refl _ _)
            rw [← hv0] at hHeld ⊢
            clear hv0
            refine tkH 0 ?_ rfl ?_ hHeld ?_; rotate_left; (intro w hSw; (try dsimp only at hSw); go_simp; try with_reducible rfl); try simp only [Act.put, zz1, zz2, zz3, zz4, zz5, zz6]
            refine tkH 1 ?_ rfl ?_ hHeld ?_; rotate_left; (intro w hSw; (try dsimp only at hSw); go_simp; try with_reducible rfl); try simp only [Act.put, zz1, zz2, zz3, zz4, zz5, zz6]
            refine tkH 2 ?_ rfl ?_ hHeld ?_; rotate_left; (intro w hSw; (try dsimp only at hSw); go_simp; try with_reducible rfl); try simp only [Act.put, zz1, zz2, zz3, zz4, zz5, zz6]
            refine tkH 3 ?_ rfl ?_ hHeld ?_; rotate_left; (intro w hSw; (try dsimp only at hSw); go_simp; try with_reducible rfl); try simp only [Act.put, zz1, zz2, zz3, zz4, zz5, zz6]
            refine tkH 4 ?_ rfl ?_ hHeld ?_; rotate_left; (intro w hSw; (try dsimp only at hSw); go_simp; try with_reducible rfl); try simp only [Act.put, zz1, zz2, zz3, zz4, zz5, zz6]
            refine tkH 5 ?_ rfl ?_ hHeld ?_; rotate_left; (intro w hSw; (try dsimp only at hSw); go_simp; try with_reducible rfl); try simp only [Act.put, zz1, zz2, zz3, zz4, zz5, zz6]
            refine tkH 6 ?_ rfl ?_ hHeld ?_; rotate_left; (intro w hSw; (try dsimp only at hSw); go_simp; try with_reducible rfl); try simp only [Act.put, zz1, zz2, zz3, zz4, zz5, zz6]
            refine tkH 7 ?_ rfl ?_ hHeld ?_; rotate_left; (intro w hSw; (try dsimp only at hSw); go_simp; try with_reducible rfl); try simp only [Act.put, zz1, zz2, zz3, zz4, zz5, zz6]
            refine tkH 8 ?_ rfl ?_ hHeld ?_; rotate_left; (intro w hSw; (try dsimp only at hSw); go_simp; try with_reducible rfl); try simp only [Act.put, zz1, zz2, zz3, zz4, zz5, zz6]
            refine tkH 9 ?_ rfl ?_ hHeld ?_; rotate_left; (intro w hSw; (try dsimp only at hSw); go_simp; try with_reducible rfl); try simp only [Act.put, zz1, zz2, zz3, zz4, zz5, zz6]
            refine wpAnyH_ready (rs := [10, 11]) (by kernel_rfl) (by simp) ?_
            refine AllReadyH.cons (o := _) rfl (fun K0 hK0 => ?_) (AllReadyH.cons (o := _) rfl (fun K0 hK0 => ?_) AllReadyH.nil)
            · go_simp
              refine (specPunishAccount_any _ _ _ _ _).mono ?_
              rintro e9 v1 ⟨rfl, hb⟩
              rw [PN.out, rv_eq]
              have B1 := Lib.hid (BL0.out.trans (hb.mono BL0.out.size))
              clear hb
              go_wp2_with fail
              refine hK0.out _ _ (⟨SK.out _ (Kept.of_below B1.out []), CK.out _ (Kept.of_below B1.out [])⟩) (fun hHeld => ?_)
              clear hK0 K0
              try simp only [Act.put, zz1, zz2, zz3, zz4, zz5, zz6]
              refine wpAnyH_ready (rs := [11]) (by kernel_rfl) (by simp) ?_
              refine AllReadyH.cons (o := _) rfl (fun K0 hK0 => ?_) AllReadyH.nil
              go_simp
              refine hK0.out _ _ (⟨SK.out _ ((Kept.of_below B1.out []).alloc _), CK.out _ ((Kept.of_below B1.out []).alloc _)⟩) (fun hHeld => ?_)
              clear hK0 K0
              try simp only [Act.put, zz1, zz2, zz3, zz4, zz5, zz6]
              refine wpAnyH_ready (rs := [12]) (by kernel_rfl) (by simp) ?_
              refine AllReadyH.cons (o := _) rfl (fun K0 hK0 => ?_) AllReadyH.nil
              clear hHeld
              rw [if_pos (by rfl)]
              refine wp_store_row 163 _ _ rfl (v1.heap.size) _ rfl rfl 163 _ (heap_alloc_new _ _) (by kernel_rfl) rfl (by simp [Value.oneCell']) ?_
              refine hK0.out _ _ (⟨SK.out _ (((Kept.of_below B1.out []).alloc _).rowNew B1.out.size _), CK.out _ (((Kept.of_below B1.out []).alloc _).rowNew B1.out.size _)⟩) (fun hHeld => ?_)
              clear hK0 K0
              try simp only [Act.put, zz1, zz2, zz3, zz4, zz5, zz6]
              refine wpAnyH_done (by kernel_rfl) ?_ _
              go_wp2_with fail
              go_meet
              case rel => exact ⟨_, rfl, setRow_heap _ _ _ _ _ _ (heap_alloc_new _ _), B1.out.size, ((Kept.of_below B1.out []).alloc _).rowNew B1.out.size _⟩
            · go_simp
              refine hK0.out _ _ (⟨SK.out _ ((Kept.of_below BL0.out []).alloc _), CK.out _ ((Kept.of_below BL0.out []).alloc _)⟩) (fun hHeld => ?_)
              clear hK0 K0
              try simp only [Act.put, zz1, zz2, zz3, zz4, zz5, zz6]
              refine wpAnyH_ready (rs := [10]) (by kernel_rfl) (by simp) ?_
              refine AllReadyH.cons (o := _) rfl (fun K0 hK0 => ?_) AllReadyH.nil
              go_simp
              refine (specPunishAccount_any _ _ _ _ _).mono ?_
              rintro e9 v1 ⟨rfl, hb⟩
              rw [PN.out, rv_eq]
              have B1 := Lib.hid ((BL0.out.alloc BL0.out.size _).trans (hb.mono (by have := BL0.out.size; simp; omega)))
              have ZB := Lib.hid ((hb.block v0.heap.size (by simp)).trans (heap_alloc_new v0 _))
              clear hb
              go_wp2_with fail
              refine hK0.out _ _ (⟨SK.out _ (Kept.of_below B1.out []), CK.out _ (Kept.of_below B1.out [])⟩) (fun hHeld => ?_)
              clear hK0 K0
              try simp only [Act.put, zz1, zz2, zz3, zz4, zz5, zz6]
              refine wpAnyH_ready (rs := [12]) (by kernel_rfl) (by simp) ?_
              refine AllReadyH.cons (o := _) rfl (fun K0 hK0 => ?_) AllReadyH.nil
              clear hHeld
              rw [if_pos (by rfl)]
              refine wp_store_row 163 _ _ rfl (v0.heap.size) _ rfl rfl 163 _ ZB.out (by kernel_rfl) rfl (by simp [Value.oneCell']) ?_
              refine hK0.out _ _ (⟨SK.out _ ((Kept.of_below B1.out []).rowNew BL0.out.size _), CK.out _ ((Kept.of_below B1.out []).rowNew BL0.out.size _)⟩) (fun hHeld => ?_)
              clear hK0 K0
              try simp only [Act.put, zz1, zz2, zz3, zz4, zz5, zz6]
              refine wpAnyH_done (by kernel_rfl) ?_ _
              go_wp2_with fail
              go_meet
              case rel => exact ⟨_, rfl, setRow_heap _ _ _ _ _ _ ZB.out, BL0.out.size, (Kept.of_below B1.out []).rowNew BL0.out.size _⟩
          case rest => as_aux_lemma =>
            obtain ⟨b8, rfl, hb8, hz8, hkk⟩ := hcut
            have H4 := Lib.hid (H3.out.kept hkk (by simp) (by simp) (by simp) (by simp))
            have X4 := Lib.hid (X3.out.trans (hkk.mono (gs' := [g, p.g3]) (by simp)))
            have O4 := Lib.hid (O3.out.kept hkk (by simp))
            have R8 := Lib.hid hb8
            have Z8 := Lib.hid (show w.heap.size ≤ b8 by have := X3.out.1.size; omega)
            clear q2 q4 hb8 hz8 hkk H3 X3 O3 SK CK CA HA2
            obtain ⟨wb, hwb⟩ : ∃ wb, wb = wc := ⟨_, rfl⟩
            subst hwb
            obtain ⟨q0, q1, q2, q3, q4⟩ := H4.out.cells
            rw [E3.out] at q3
            rw [HRN.out] at q4
            clear q0 q1 q2
            have SK : Hid (∀ W, Kept [] wb W → (W.cell? ⟨g, 3, none⟩ = some (.int .i64 K.tick) ∧ W.cell? ⟨g, 4, none⟩ = some (.int .i64 (rn : Int)))) := fun W hW => by
              have e : W.heap[g]? = wb.heap[g]? := hW.2 g H4.out.lt (by simp)
              exact ⟨(World.cell?_of_block (a := ⟨g, 3, none⟩) e).trans q3, (World.cell?_of_block (a := ⟨g, 4, none⟩) e).trans q4⟩
            go_upto_region 10 with (fail)
            go_cut [9] from 52 (fun x9 wx => ∃ b9 : Nat, x9 = .pointer (some ⟨b9, 0, none⟩) ∧ wx.heap[b9]? = some (.cells #[.int .i64 K.tick, .int .i64 (rn : Int), .int .i64 6] 96 (0, 0)) ∧ wb.heap.size ≤ b9 ∧ Kept [] wb wx)
            case first => as_aux_lemma =>
              refine wp_region_held_drew (S := fun W => (W.cell? ⟨g, 3, none⟩ = some (.int .i64 K.tick) ∧ W.cell? ⟨g, 4, none⟩ = some (.int .i64 (rn : Int)))) (by kernel_rfl) (⟨q3, q4⟩) (fun hHeld => ?_)
              obtain ⟨v0, hv0⟩ : ∃ v0, v0 = wb.drew := ⟨_, rfl⟩
              have BL0 : Hid (Below wb.heap.size wb v0) := by rw [hv0]; exact Below.drew (Below.refl _ _)
              rw [← hv0] at hHeld ⊢
              clear hv0
              refine tkH 0 ?_ rfl ?_ hHeld ?_; rotate_left; (intro w hSw; (try dsimp only at hSw); go_simp; try with_reducible rfl); try simp only [Act.put, zz1, zz2, zz3, zz4, zz5, zz6]
              refine tkH 1 ?_ rfl ?_ hHeld ?_; rotate_left; (intro w hSw; (try dsimp only at hSw); go_simp; try with_reducible rfl); try simp only [Act.put, zz1, zz2, zz3, zz4, zz5, zz6]
              refine tkH 2 ?_ rfl ?_ hHeld ?_; rotate_left; (intro w hSw; (try dsimp only at hSw); go_simp; try with_reducible rfl); try simp only [Act.put, zz1, zz2, zz3, zz4, zz5, zz6]
              refine tkH 3 ?_ rfl ?_ hHeld ?_; rotate_left; (intro w hSw; (try dsimp only at hSw); go_simp; try with_reducible rfl); try simp only [Act.put, zz1, zz2, zz3, zz4, zz5, zz6]
              refine tkH 4 ?_ rfl ?_ hHeld ?_; rotate_left; (intro w hSw; (try dsimp only at hSw); go_simp; try with_reducible rfl); try simp only [Act.put, zz1, zz2, zz3, zz4, zz5, zz6]
              refine tkH 5 ?_ rfl ?_ hHeld ?_; rotate_left; (intro w hSw; (try dsimp only at hSw); go_simp; try with_reducible rfl); try simp only [Act.put, zz1, zz2, zz3, zz4, zz5, zz6]
              refine tkH 6 ?_ rfl ?_ hHeld ?_; rotate_left; (intro w hSw; (try dsimp only at hSw); go_simp; try with_reducible rfl); try simp only [Act.put, zz1, zz2, zz3, zz4, zz5, zz6]
              refine tkH 7 ?_ rfl ?_ hHeld ?_; rotate_left; (intro w hSw; (try dsimp only at hSw); go_simp; try with_reducible rfl); try simp only [Act.put, zz1, zz2, zz3, zz4, zz5, zz6]
              refine tkH 8 ?_ rfl ?_ hHeld ?_; rotate_left; (intro w hSw; (try dsimp only at hSw); go_simp; try with_reducible rfl); try simp only [Act.put, zz1, zz2, zz3, zz4, zz5, zz6]
              refine wpAnyH_ready (rs := [9]) (by kernel_rfl) (by simp) ?_
              refine AllReadyH.cons (o := _) rfl (fun K0 hK0 => ?_) AllReadyH.nil
              go_simp
              refine hK0.out _ _ (SK.out _ ((Kept.of_below BL0.out []).alloc _)) (fun hHeld => ?_)
              clear hK0 K0
              try simp only [Act.put, zz1, zz2, zz3, zz4, zz5, zz6]
              refine wpAnyH_ready (rs := [10]) (by kernel_rfl) (by simp) ?_
              refine AllReadyH.cons (o := _) rfl (fun K0 hK0 => ?_) AllReadyH.nil
              clear hHeld
              rw [if_pos (by rfl)]
              refine wp_store_row 96 _ _ rfl (v0.heap.size) _ rfl rfl 96 _ (heap_alloc_new _ _) (by kernel_rfl) rfl (by simp [Value.oneCell']) ?_
              refine hK0.out _ _ (SK.out _ (((Kept.of_below BL0.out []).alloc _).rowNew BL0.out.size _)) (fun hHeld => ?_)
              clear hK0 K0
              try simp only [Act.put, zz1, zz2, zz3, zz4, zz5, zz6]
              refine wpAnyH_done (by kernel_rfl) ?_ _
              go_wp2_with fail
              go_meet
              case rel => exact ⟨_, rfl, setRow_heap _ _ _ _ _ _ (heap_alloc_new _ _), BL0.out.size, ((Kept.of_below BL0.out []).alloc _).rowNew BL0.out.size _⟩
            case rest => as_aux_lemma =>
              obtain ⟨b9, rfl, hb9, hz9, hkk⟩ := hcut
              have H5 := Lib.hid (H4.out.kept hkk (by simp) (by simp) (by simp) (by simp))
              have X5 := Lib.hid (X4.out.trans (hkk.mono (gs' := [g, p.g3]) (by simp)))
              have O5 := Lib.hid (O4.out.kept hkk (by simp))
              have hl8 := (Array.getElem?_eq_some_iff.1 R8.out).1
              have R85 := Lib.hid ((hkk.2 b8 hl8 (by simp)).trans R8.out)
              have NB := Lib.hid (show b8 ≠ b9 by omega)
              have ZA := Lib.hid (show w.heap.size ≤ b9 by have := X4.out.1.size; omega)
              have OB9 : Hid (∀ j, A = some ⟨j, 0, none⟩ → j ≠ b9) := fun j e => by
                subst e
                have := O4.out.lt
                omega
              have R9 := Lib.hid hb9
              clear q3 q4 hb9 hz9 hkk hl8 H4 X4 O4 R8 SK
              obtain ⟨wd, hwd⟩ : ∃ wd, wd = wc := ⟨_, rfl⟩
              subst hwd
              have c5 := cell_of_row wd _ 5 _ _ _ R85.out
              have x2 := cell_of_row wd _ 2 _ _ _ R9.out
              have f2 := frozen_of_row wd _ 2 _ _ R9.out
              simp at c5 x2
              go_upto_if 62 with (fail)
              obtain ⟨kd, hkd⟩ : ∃ kd : Int, kd = if b = true then 7 else 6 := ⟨_, rfl⟩
              have KD := Lib.hid hkd
              clear hkd
              go_cut [] from 63 (fun wx => wx.heap[b9]? = some (.cells #[.int .i64 K.tick, .int .i64 (rn : Int), .int .i64 kd] 96 (0, 0)) ∧ Kept [b9] wd wx)
              case first => as_aux_lemma =>
                rcases b with _ | _
                · obtain rfl : kd = 6 := KD.out
                  go_wp2_with fail
                  go_meet
                  case rel => exact ⟨R9.out, Kept.refl _ _⟩
                · obtain rfl : kd = 7 := KD.out
                  go_wp2_with fail
                  go_meet
                  case rel => exact ⟨by have := heap_setCell_same _ _ 2 _ _ (.int .i64 7) R9.out; simpa using this, (Kept.refl [b9] wd).setCell (p := ⟨b9, 2, none⟩) (by simp) _⟩
              case rest => as_aux_lemma =>
                obtain ⟨hr9, hkk⟩ := hcut
                have H6 := Lib.hid (H5.out.kept hkk (by have := NE.out; have := ZA.out; simp; omega) (by have := NE.out; have := ZA.out; simp; omega) (by have := NE.out; have := ZA.out; simp; omega) (by have := NE.out; have := ZA.out; simp; omega))
                have X6 := Lib.hid (X5.out.trans' hkk (by have := ZA.out; intro j hj hjw; simp at hj; omega))
                have O6 := Lib.hid (O5.out.kept hkk (fun j e => by have := OB9.out j e; simp; exact this))
                have R86 := Lib.hid ((hkk.2 b8 (Array.getElem?_eq_some_iff.1 R85.out).1 (by have := NB.out; simp; exact this)).trans R85.out)
                have R96 := Lib.hid hr9
                clear hr9 hkk c5 x2 f2 H5 X5 O5 R85 R9
                obtain ⟨we, hwe⟩ : ∃ we, we = wc := ⟨_, rfl⟩
                subst hwe
                obtain ⟨q0, q1, q2, q3, q4⟩ := H6.out.cells
                rw [HRN.out] at q4
                rw [HA3.out] at q2
                obtain ⟨o3', hA3', hR3'⟩ := H6.out.accs
                obtain rfl : o3 = o3' := by rw [HA3.out] at hA3'; injection hA3' with e1; injection e1
                have a0 : we.cell? ⟨p.g3, o3 + rn * 4, none⟩ = some (.int .i64 (gi K2.ac (rn * 4))) := hR3'.cell (k := rn * 4) (by omega); have a1 : we.cell? ⟨p.g3, o3 + rn * 4 + 1, none⟩ = some (.int .i64 (gi K2.ac (rn * 4 + 1))) := hR3'.cell (k := rn * 4 + 1) (by omega); have a2 : we.cell? ⟨p.g3, o3 + rn * 4 + 2, none⟩ = some (.int .i64 (gi K2.ac (rn * 4 + 2))) := hR3'.cell (k := rn * 4 + 2) (by omega); have a3 : we.cell? ⟨p.g3, o3 + rn * 4 + 3, none⟩ = some (.int .i64 (gi K2.ac (rn * 4 + 3))) := hR3'.cell (k := rn * 4 + 3) (by omega)
                have f0 : we.frozen? ⟨p.g3, o3 + rn * 4, none⟩ = false := hR3'.frozen (o3 + rn * 4); have f1 : we.frozen? ⟨p.g3, o3 + rn * 4 + 1, none⟩ = false := hR3'.frozen (o3 + rn * 4 + 1); have f2 : we.frozen? ⟨p.g3, o3 + rn * 4 + 2, none⟩ = false := hR3'.frozen (o3 + rn * 4 + 2); have f3 : we.frozen? ⟨p.g3, o3 + rn * 4 + 3, none⟩ = false := hR3'.frozen (o3 + rn * 4 + 3)
                have b1 := cell_of_row we _ 1 _ _ _ R86.out; have b2 := cell_of_row we _ 2 _ _ _ R86.out; have b3 := cell_of_row we _ 3 _ _ _ R86.out; have b4 := cell_of_row we _ 4 _ _ _ R86.out
                simp at b1 b2 b3 b4
                clear q0 q1 q3 hA3' hR3'
                go_upto_region 13 with (fail)
                go_cut [] from 64 (fun wx => KB wx g p { K2 with ac := setAcc K2.ac rn u x y d } ∧ Kept [p.g3] we wx)
                case first => as_aux_lemma =>
                  go_region
                  all_goals
                    go_wp2_with fail
                    go_meet
                    exact ⟨(H6.out.setAccount HA3.out hr4 u x y d).drew, ((Kept.refl [p.g3] we).set4 (by simp) _ _ _ _).drew⟩
                case rest => as_aux_lemma =>
                  obtain ⟨hkb, hkk⟩ := hcut
                  have H7 := Lib.hid hkb
                  have X7 := Lib.hid (X6.out.trans (hkk.mono (gs' := [g, p.g3]) (by simp)))
                  have G3 : Hid (∀ W (A : Option Addr) (n c : Nat) (hs : List Int), OR 96 3 W w.heap.size A n c hs → ∀ j, A = some ⟨j, 0, none⟩ → j ∉ [p.g3]) := fun W A n c hs hO j e => by
                    subst e
                    have := NE.out
                    have := hO.lt
                    simp
                    omega
                  have O7 := Lib.hid (O6.out.kept hkk (G3.out _ _ _ _ _ O6.out))
                  have R97 := Lib.hid ((hkk.2 b9 (Array.getElem?_eq_some_iff.1 R96.out).1 (by have := NE.out; have := ZA.out; simp; omega)).trans R96.out)
                  clear hkb hkk q2 q4 a0 a1 a2 a3 f0 f1 f2 f3 b1 b2 b3 b4 H6 X6 O6 R86 R96 G3
                  have q4 := H7.out.cells.2.2.2.2
                  have f4 := frozen_of_row wc _ 4 _ _ H7.out.box
                  go_upto_region 15 with (fail)
                  obtain ⟨w8, hw8⟩ : ∃ w8, w8 = wc.setCell ⟨g, 4, none⟩ (.int .i64 (-1)) := ⟨_, rfl⟩
                  rw [← hw8]
                  have H8 := Lib.hid (show KB w8 g p { K2 with ac := setAcc K2.ac rn u x y d, run := -1 } by rw [hw8]; exact H7.out.setRun _)
                  have K8 : Kept [g] wc w8 := by rw [hw8]; exact (Kept.refl _ _).setCell (p := ⟨g, 4, none⟩) (by simp) _
                  have X8 := Lib.hid (X7.out.trans (K8.mono (gs' := [g, p.g3]) (by simp)))
                  have O8 := Lib.hid (O7.out.kept K8 (FAR.out _ _ _ _ _ O7.out))
                  have R98 := Lib.hid ((K8.2 b9 (Array.getElem?_eq_some_iff.1 R97.out).1 (by have := NE.out; have := ZA.out; simp; omega)).trans R97.out)
                  clear K8 hw8 q4 f4 H7 X7 O7 R97
                  have x0 := cell_of_row w8 _ 0 _ _ _ R98.out; have x1 := cell_of_row w8 _ 1 _ _ _ R98.out; have x2 := cell_of_row w8 _ 2 _ _ _ R98.out
                  simp at x0 x1 x2
                  obtain ⟨w9, hw9⟩ : ∃ w9, w9 = w8.alloc (.cells #[.int .i64 K.tick, .int .i64 (rn : Int), .int .i64 kd] 96) := ⟨_, rfl⟩
                  have k9 : w9.heap[w8.heap.size]? = some (.cells #[.int .i64 K.tick, .int .i64 (rn : Int), .int .i64 kd] 96 (0, 0)) := by rw [hw9]; exact heap_alloc_new w8 _
                  have Y9 : Kept [] w8 w9 := by rw [hw9]; exact (Kept.refl _ _).alloc _
                  have NW := Lib.hid (lit3 w9 _ _ _ _ k9)
                  have H9 := Lib.hid (H8.out.kept Y9 (by simp) (by simp) (by simp) (by simp))
                  have X9 := Lib.hid (X8.out.trans (Y9.mono (gs' := [g, p.g3]) (by simp)))
                  have O9 := Lib.hid (O8.out.kept Y9 (by simp))
                  have Z9 := Lib.hid (show w.heap.size ≤ w9.heap.size from X9.out.1.size)
                  have HW9 := Lib.hid hw9
                  have n2 : n ≤ 2 := by have := EL.out; have := EL3.out; have := O9.out.len; simp at this; omega
                  clear hw9 k9 Y9 H8 X8 O8 R98
                  go_upto_region 16 with
                    (at_builtin
                     rw [← HW9.out]
                     refine wpList_append_own _ rfl (.tmp 78) (.tmp 80) 31 rfl w.heap.size 96 i0 (.agg #[.int .i64 0, .int .i64 0, .int .i64 0]) 3 24 Tryz.underlying31 hi0 hz0 hz1 hz2 rfl (by decide) _ n _ rfl O9.out ⟨w8.heap.size, 0, none⟩ 1 1 [.int .i64 K.tick, .int .i64 (rn : Int), .int .i64 kd] rfl rfl NW.out (by simp [Value.oneCell']) (by unfold maxLen; omega) (by omega) Z9.out ?_
                     intro v' wf hown hgrow _
                     have GW := Lib.hid (O9.out.grew Z9.out hgrow)
                     have ho := hown
                     rw [show vals (L1 ++ L2) ++ [Value.int .i64 K.tick, .int .i64 (rn : Int), .int .i64 kd] = vals (L1 ++ L2 ++ [K.tick, (rn : Int), kd]) by simp [vals]] at ho
                     clear hown hgrow
                     obtain ⟨A', c', rfl, ho⟩ := or_of3 ho
                     have OF := Lib.hid ho
                     have HF := Lib.hid (H9.out.low GW.out NE.out.1 NE.out.2.1 NE.out.2.2.1 NE.out.2.2.2)
                     have XF := Lib.hid (X9.out.low GW.out)
                     clear ho GW O9 H9 X9 Z9 NW HW9 x0 x1 x2)
                  have q3 := HF.out.cells.2.2.2.1
                  rw [show ({ K2 with ac := setAcc K2.ac rn u x y d, run := -1 } : Ker).tick = K.tick from E3.out] at q3
                  have f3 := frozen_of_row wf _ 3 _ _ HF.out.box
                  have hwr : IntKind.i64.wrap (K.tick + 1) = K.tick + 1 := IntWalk.i64_in _ (by have := TK9.out; omega)
                  go_wp2
                  go_ret
                  exact ⟨_, _, _, rfl, by rw [TE.out, SE.out, EE.out]; show OR _ _ _ _ _ _ _ (L1 ++ L2 ++ [K.tick, (rn : Int), if b = true then 7 else 6]); rw [← KD.out]; exact (OR.kept OF.out ((Kept.refl [g] wf).setCell (p := ⟨g, 3, none⟩) (by simp) _) (FAR.out _ _ _ _ _ OF.out)), by rw [TE.out, SE.out, EE.out]; exact HF.out.setTick _, XF.out.setCell (p := ⟨g, 3, none⟩) (by simp) _⟩
      · have SE : Hid (tickE K2 = (K2, [])) := by show _ = _; unfold tickE; rw [E3.out, ← HPH.out, if_neg (fun hh => hp8 hh.1)]
        have g1 : (ph == 8) = false := by simp [hp8]
        clear hp8 q2
        go_wp2
        go_ret
        exact ⟨_, _, _, rfl, by rw [TE.out, SE.out]; exact ((show Hid (OR 96 3 wc w.heap.size A n c (L1 ++ L2 ++ [])) by rw [List.append_nil]; exact O3).out.kept ((Kept.refl [g] wc).setCell (p := ⟨g, 3, none⟩) (by simp) _) (FAR.out _ _ _ _ _ (show Hid (OR 96 3 wc w.heap.size A n c (L1 ++ L2 ++ [])) by rw [List.append_nil]; exact O3).out)), by rw [TE.out, SE.out]; exact H3.out.setTick _, X3.out.setCell (p := ⟨g, 3, none⟩) (by simp) _⟩

end Go.Proofs.YtckapndpefkcgaaGreat
