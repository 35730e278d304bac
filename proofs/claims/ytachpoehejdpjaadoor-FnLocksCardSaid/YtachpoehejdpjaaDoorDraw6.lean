/-
  What chapter 6's draws answer: queues and locks of the call's own, of a few numbers. No conditions beyond that the code can be read.
-/
import Derived.Test.YtachpoehejdpjaaDoorDraw1
import Derived.Test.YtachpoehejdpjaaDoorPick
import Derived.Test.YtachpoehejdpjaaDoorRow6
import Derived.Test.YtachpoehejdpjaaDoorSpec6a
namespace Go.Proofs.YtachpoehejdpjaaDoor
open Go.RowKit
set_option maxRecDepth 100000

/-- a queue of one's own is drawn -/
def QDrawn (g : Nat) (A : Option Addr) (k c a : Nat) (w : World) (e : Ending) (w' : World) : Prop :=
  ∃ B n c' xs a', e = .returned (.slice B n c') ∧ xs.length = n ∧ n ≤ 6 ∧ OR 2 1 w' w.heap.size B n c' xs ∧ a' ≤ a + 6 ∧ Src w' g A k c a' ∧ Only g (g + 1) w w'
theorem OR.keptG {t : TypeId} {m : Nat} {w w' : World} {base n c : Nat} {B : Option Addr} {hs : List Int} {row : Option Nat} (h : OR t m w base B n c hs) (hg : w.grownBy w' row) (hr : ∀ k, row = some k → k < base) : OR t m w' base B n c hs :=
  h.keepAll fun g e => by
    subst e
    have hl := h.lt
    exact hg.block g hl.2 (fun e => by have := hr g e.symm; omega)

theorem or_made6 (w : World) (n base : Nat) (hb : base ≤ w.heap.size) (hn : n ≤ maxLen) : OR 2 1 (w.alloc (.cells (madeCells #[.int .i64 0] n) 2)) base (some ⟨w.heap.size, 0, none⟩) n n (List.replicate n 0) := by
  refine ⟨by simp [vals], .inr ⟨w.heap.size, n, madeCells #[.int .i64 0] n, rfl, hb, heap_alloc_new _ _, Nat.le_refl _, hn, by rw [Nat.mul_one]; exact size_madeCells _ _, ?_⟩⟩
  apply List.ext_getElem?
  intro j
  by_cases hj : j < n
  · simp [madeCells, vals, hj, Nat.mod_one]
  · simp [madeCells, vals, hj]

set_option maxHeartbeats 2000000 in
theorem l6Queue_any (lo hi g : Nat) (A : Option Addr) (k c a : Nat) (b : Nat → Int) (w : World) (hk : k ≤ 1048576) (ha : a ≤ 1048576)
    (hb : ∀ j, 0 ≤ b j ∧ b j ≤ 255) (h : Sl w lo hi A k (fun j => .int .u8 (b j))) (hg : hi ≤ g) (hs : Src w g A k c a) :
    Calls Tryd.prog 49 #[.pointer (some ⟨g, 0, none⟩)] w (QDrawn g A k c a w) := by
  obtain ⟨i0, hi0, hz0, hz1, hz2⟩ := info_parts Tryd.info_i64
  have hgw := hs.lt
  have H := Lib.hid h
  have HBY := Lib.hid hb
  have HE : Hid (Only g (g + 1) w (w.alloc (.cells #[] 2))) := (Only.refl _ _ _).alloc (by omega) _
  have HS := Lib.hid (hs.alloc (.cells #[] 2))
  have own0 : Hid (OR 2 1 (w.alloc (.cells #[] 2)) w.heap.size (some ⟨w.heap.size, 0, none⟩) 0 0 []) := OR.empty w (Nat.le_refl _)
  have C := Lib.hid (l1Next_any lo hi g A k c a 4 b (w.alloc (.cells #[] 2)) (by omega) hk (by omega) hb (h.lt.below (below_new w _) (by omega) |>.wide (Nat.le_refl _) (by omega)) (by omega) HS.out)
  clear h hb hs HS
  go_enter Tryd.func49, Tryd.ntmps49
  go_wp2_with fail
  refine C.out.mono ?_
  rintro e w1 ⟨N, rfl, hr, _, hs1, ho1⟩
  have hN3 : N ≤ 3 := by have := hr (by omega); omega
  have HS1 := Lib.hid hs1
  have HO1 := Lib.hid (HE.out.trans ho1)
  have OW1 := Lib.hid (OR.keptG own0.out ho1.grownBy (fun k hk => by injection hk with hk; omega))
  clear hs1 ho1 C HE own0 hr
  go_wp2_with fail
  go_loopw [4, 3] (fun i v wr => ∃ (j a' : Nat) (ys : List Int) (B : Option Addr) (c' : Nat), j ≤ N ∧ i = .int .i64 ((N - j : Nat) : Int) ∧ v = .slice B ys.length c' ∧ ys.length ≤ j ∧ OR 2 1 wr w.heap.size B ys.length c' ys ∧ a' ≤ a + 1 + j ∧ Src wr g A k c a' ∧ Only g (g + 1) w wr) (fun i _ _ => (intOf i).toNat)
  case atStart => exact ⟨0, a + 1, [], _, _, Nat.zero_le _, rfl, rfl, Nat.le_refl _, OW1.out, by omega, HS1.out, HO1.out⟩
  case round =>
    obtain ⟨j, a', ys, B, c', hj, rfl, rfl, hys, hown, ha', hs2, ho2⟩ := hrel
    have OW := Lib.hid hown
    have HYS := Lib.hid hys
    have HS2 := Lib.hid hs2
    have HO2 := Lib.hid ho2
    have hzr : w.heap.size ≤ wr.heap.size := ho2.1.size
    clear hown hs2 ho2 HS1 HO1 OW1
    by_cases hlt : j < N
    · have HD1 : Hid (((N - j : Nat) : Int) - 1 = ((N - (j + 1) : Nat) : Int)) := by show _ = _; omega
      have hpos : (0 : Int) < ((N - j : Nat) : Int) := by omega
      have hle : ((N - j : Nat) : Int) ≤ 12 := by omega
      generalize hd : ((N - j : Nat) : Int) = d at *
      have HD := Lib.hid hd
      clear hd
      have CN := Lib.hid (l1Next_any lo (min hi w.heap.size) g A k c a' 5 b wr (by omega) hk (by omega) HBY.out (H.out.lt.only HO2.out (by omega) (.inl (by omega))) (by omega) HS2.out)
      go_wp2_with fail
      refine CN.out.mono ?_
      rintro e w2 ⟨r2, rfl, _, _, hs3, ho3⟩
      have HS3 := Lib.hid hs3
      have HO3 := Lib.hid (HO2.out.trans ho3)
      have OW2 := Lib.hid (OR.keptG OW.out ho3.grownBy (fun k hk => by injection hk with hk; omega))
      have hsz2 : wr.heap.size ≤ w2.heap.size := ho3.1.size
      clear hs3 ho3 CN OW
      have HA := Lib.hid (l1Has_any w.heap.size w2.heap.size B ys.length c' ys r2 w2 (by omega) rfl (by have := OR.sl0 OW2.out; rw [Nat.mul_one] at this; exact this))
      go_wp2_with fail
      refine HA.out.mono ?_
      rintro e w9 ⟨rfl, rfl⟩
      clear HA
      rcases hh : decide ((r2 : Int) ∈ ys) with _ | _
      · have NW := Lib.hid (one_new6 w2 r2)
        have O6 := Lib.hid (OR.alloc OW2.out (.cells #[.int .i64 r2] 2))
        go_wp2_with (at_builtin; refine wpList_append_own _ rfl (.tmp 19) (.tmp 21) 24 rfl w.heap.size 2 i0 (.int .i64 0) 1 8 Tryd.underlying24 hi0 hz0 hz1 hz2 rfl (by decide) (.slice B ys.length c') ys.length (vals ys) rfl O6.out ⟨w2.heap.size, 0, none⟩ 1 1 [.int .i64 r2] rfl rfl NW.out (by simp [Value.oneCell']) (by unfold maxLen; omega) (by omega) (by simp; omega) ?_; intro v7 w7 hown hgrow hat; obtain ⟨I7, d7, rfl, ho7⟩ := row_more6 hown; have OI7 := Lib.hid ho7; have HG7 := Lib.hid hgrow; clear hown hgrow hat ho7)
        have HO4 := Lib.hid ((HO3.out.alloc (by omega) (.cells #[.int .i64 r2] 2)).grown HG7.out (by omega) (own_base O6.out))
        have HS4 := Lib.hid ((HS3.out.alloc (.cells #[.int .i64 r2] 2)).grown HG7.out (fun q hq => by have := own_base O6.out q hq; omega))
        go_roundw
        case rel =>
          have e9 : (ys ++ [(r2 : Int)]).length = ys.length + 1 := by simp
          exact ⟨j + 1, a' + 1, ys ++ [(r2 : Int)], I7, d7, by omega, by rw [HD1.out], by rw [e9], by rw [e9]; have := HYS.out; omega, by rw [e9]; exact OI7.out, by omega, HS4.out, HO4.out⟩
        case measure => simp [intOf]; omega
      · go_wp2
        go_roundw
        case rel => exact ⟨j + 1, a' + 1, ys, B, c', by omega, by rw [HD1.out], rfl, by have := HYS.out; omega, OW2.out, by omega, HS3.out, HO3.out⟩
        case measure => simp [intOf]; omega
    · have hjN : j = N := by omega
      subst hjN
      have e0 : ((j - j : Nat) : Int) = 0 := by omega
      rw [e0]
      clear e0
      have CN := Lib.hid (l1Next_any lo (min hi w.heap.size) g A k c a' 20 b wr (by omega) hk (by omega) HBY.out (H.out.lt.only HO2.out (by omega) (.inl (by omega))) (by omega) HS2.out)
      go_wp2_with fail
      refine CN.out.mono ?_
      rintro e w2 ⟨r2, rfl, _, _, hs3, ho3⟩
      have HS3 := Lib.hid hs3
      have HO3 := Lib.hid (HO2.out.trans ho3)
      have OW2 := Lib.hid (OR.keptG OW.out ho3.grownBy (fun k hk => by injection hk with hk; omega))
      have hsz2 : wr.heap.size ≤ w2.heap.size := ho3.1.size
      have HC3 : Hid (Sl w2 lo (min hi w.heap.size) A k (fun j => .int .u8 (b j))) := (H.out.lt.only HO3.out (by omega) (.inl (by omega)))
      clear hs3 ho3 CN OW HO2 HS2
      by_cases hr0 : r2 = 0
      · subst hr0
        have HC4 : Hid (Sl (w2.alloc (.cells #[.int .i64 5, .int .i64 (-1), .int .i64 0] 2)) lo (min hi w.heap.size) A k (fun j => .int .u8 (b j))) := HC3.out.below (below_new w2 _) (by omega)
        have CP := Lib.hid (l1Pick_any lo (min hi w.heap.size) g w2.heap.size (w2.heap.size + 1) A (some ⟨w2.heap.size, 0, none⟩) k c (a' + 1) 3 3 b [5, -1, 0] (w2.alloc (.cells #[.int .i64 5, .int .i64 (-1), .int .i64 0] 2)) hk (by omega) HBY.out HC4.out (by omega) (HS3.out.alloc _) rfl (by omega) (by omega) (sl_new w2 _ _ [5, -1, 0] 3 (fun q hq => by rcases (show q = 0 ∨ q = 1 ∨ q = 2 by omega) with rfl | rfl | rfl <;> rfl)) (by omega) (by simp))
        have OW3 := Lib.hid (OR.alloc OW2.out (.cells #[.int .i64 5, .int .i64 (-1), .int .i64 0] 2))
        go_wp2_with fail
        refine CP.out.mono ?_
        rintro e w3 ⟨r3, hr3, rfl, hs3, ho3⟩
        generalize gi [5, -1, 0] r3 = v3 at *
        have HS4 := Lib.hid hs3
        have HO4 := Lib.hid ((HO3.out.alloc (by omega) (.cells #[.int .i64 5, .int .i64 (-1), .int .i64 0] 2)).trans ho3)
        have OW4 := Lib.hid (OR.keptG OW3.out ho3.grownBy (fun k hk => by injection hk with hk; omega))
        have hsz3 : w2.heap.size < w3.heap.size := by have := ho3.1.size; simp at this; omega
        clear hs3 ho3 CP HC4 OW2 OW3 HO3 HS3
        have NW := Lib.hid (one_new6 w3 v3)
        have O6 := Lib.hid (OR.alloc OW4.out (.cells #[.int .i64 v3] 2))
        go_wp2_with (at_builtin; refine wpList_append_own _ rfl (.tmp 27) (.tmp 31) 24 rfl w.heap.size 2 i0 (.int .i64 0) 1 8 Tryd.underlying24 hi0 hz0 hz1 hz2 rfl (by decide) (.slice B ys.length c') ys.length (vals ys) rfl O6.out ⟨w3.heap.size, 0, none⟩ 1 1 [.int .i64 v3] rfl rfl NW.out (by simp [Value.oneCell']) (by unfold maxLen; omega) (by omega) (by simp; omega) ?_; intro v7 w7 hown hgrow hat; obtain ⟨I7, d7, rfl, ho7⟩ := row_more6 hown; have OI7 := Lib.hid ho7; have HG7 := Lib.hid hgrow; clear hown hgrow hat ho7)
        have HO5 := Lib.hid ((HO4.out.alloc (by omega) (.cells #[.int .i64 v3] 2)).grown HG7.out (by omega) (own_base O6.out))
        have HS5 := Lib.hid ((HS4.out.alloc (.cells #[.int .i64 v3] 2)).grown HG7.out (fun q hq => by have := own_base O6.out q hq; omega))
        go_ret
        exact ⟨I7, ys.length + 1, d7, ys ++ [v3], a' + 1 + 1, rfl, by simp, by have := HYS.out; omega, OI7.out, by omega, HS5.out, HO5.out⟩
      by_cases hr1 : r2 = 1
      · subst hr1
        have HC4 : Hid (Sl (w2.alloc (.cells #[.int .i64 2, .int .i64 6] 2)) lo (min hi w.heap.size) A k (fun j => .int .u8 (b j))) := HC3.out.below (below_new w2 _) (by omega)
        have CP := Lib.hid (l1Pick_any lo (min hi w.heap.size) g w2.heap.size (w2.heap.size + 1) A (some ⟨w2.heap.size, 0, none⟩) k c (a' + 1) 2 2 b [2, 6] (w2.alloc (.cells #[.int .i64 2, .int .i64 6] 2)) hk (by omega) HBY.out HC4.out (by omega) (HS3.out.alloc _) rfl (by omega) (by omega) (sl_new w2 _ _ [2, 6] 2 (fun q hq => by rcases (show q = 0 ∨ q = 1 by omega) with rfl | rfl <;> rfl)) (by omega) (by simp))
        go_wp2_with fail
        refine CP.out.mono ?_
        rintro e w3 ⟨r3, hr3, rfl, hs3, ho3⟩
        obtain ⟨v3, hv3, hv13⟩ : ∃ v3 : Nat, gi [2, 6] r3 = (v3 : Int) ∧ v3 ≤ 6 := by
          have hr3 : r3 < 2 := hr3
          rcases (show r3 = 0 ∨ r3 = 1 by omega) with rfl | rfl
          · exact ⟨2, rfl, by omega⟩
          · exact ⟨6, rfl, by omega⟩
        rw [hv3]
        clear hv3 hr3
        have HS4 := Lib.hid (hs3.alloc (.cells (madeCells #[.int .i64 0] v3) 2))
        have hsz3 : w2.heap.size < w3.heap.size := by have := ho3.1.size; simp at this; omega
        have HO4 := Lib.hid (((HO3.out.alloc (by omega) (.cells #[.int .i64 2, .int .i64 6] 2)).trans ho3).alloc (by omega) (.cells (madeCells #[.int .i64 0] v3) 2))
        have hmk := run_make_row' (P := Tryd.prog) 24 2 (.int .i64 0) 8 Tryd.underlying24 Tryd.info_i64 rfl .i64 .i64 v3 (by omega) (by omega)
        clear hs3 ho3 CP HC4 OW2 HO3 HS3
        go_wp2
        go_ret
        exact ⟨_, v3, v3, List.replicate v3 0, a' + 1 + 1, rfl, by simp, hv13, or_made6 w3 v3 w.heap.size (by omega) (by unfold maxLen; omega), by omega, HS4.out, HO4.out⟩
      · go_wp2
        go_ret
        exact ⟨B, ys.length, c', ys, a' + 1, rfl, rfl, by have := HYS.out; omega, OW2.out, by omega, HS3.out, HO3.out⟩

end Go.Proofs.YtachpoehejdpjaaDoor
