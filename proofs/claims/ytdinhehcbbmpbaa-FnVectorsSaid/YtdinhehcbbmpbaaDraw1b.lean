/-
  The model's draw of a list of owners (l1Draw): it returns a list of at most 13 small numbers in memory of its own, and writes nothing but its source. For codes of at most 2^20 bytes.
-/
import Derived.Test.YtdinhehcbbmpbaaDraw1
namespace Go.Proofs.Ytdinhehcbbmpbaa
open Go.RowKit

/-- a drawn list: n numbers from -2 to 4, in memory of its own; the source is at most 20 places on -/
def Drawn (g : Nat) (A : Option Addr) (k c a : Nat) (w : World) (e : Ending) (w' : World) : Prop :=
  ∃ B n c' xs a', e = .returned (.slice B n c') ∧ xs.length = n ∧ n ≤ 13 ∧ (B = none → c' = 0) ∧ Mine w' w.heap.size w'.heap.size 2 B n (fun j => .int .i64 (gi xs j)) ∧ (∀ j, -2 ≤ gi xs j ∧ gi xs j ≤ 4) ∧
    a' ≤ a + 20 ∧ Src w' g A k c a' ∧ Only g (g + 1) w w'

def picks8 : List Int := [-1, -1, 0, 0, 1, 1, 2, 3]
theorem picks8_ok (r : Nat) (h : r < picks8.length) : -2 ≤ gi picks8 r ∧ gi picks8 r ≤ 4 := by
  have h : r < 8 := h
  rcases (show r = 0 ∨ r = 1 ∨ r = 2 ∨ r = 3 ∨ r = 4 ∨ r = 5 ∨ r = 6 ∨ r = 7 by omega) with rfl | rfl | rfl | rfl | rfl | rfl | rfl | rfl <;> decide
theorem gi_snoc (xs : List Int) (v : Int) (j : Nat) : gi (xs ++ [v]) j = if j < xs.length then gi xs j else if j = xs.length then v else 0 := by
  unfold gi
  simp only [List.getD_eq_getElem?_getD]
  by_cases h : j < xs.length
  · rw [if_pos h, List.getElem?_append_left h]
  · rw [if_neg h, List.getElem?_append_right (by omega)]
    by_cases e : j = xs.length
    · subst e; simp
    · rw [if_neg e, List.getElem?_eq_none (by simp; omega)]; rfl
theorem vals_snoc (xs : List Int) (v : Int) : vals xs ++ [.int .i64 v] = vals (xs ++ [v]) := by simp [vals]
theorem sl_new (w : World) (cs : Array Value) (t : TypeId) (xs : List Int) (n : Nat) (hc : ∀ j, j < n → cs[j]? = some (.int .i64 (gi xs j))) :
    Sl (w.alloc (.cells cs t)) w.heap.size (w.heap.size + 1) (some ⟨w.heap.size, 0, none⟩) n (fun j => .int .i64 (gi xs j)) :=
  (Row.new w cs t _ n hc).sl (Nat.le_refl _) (Nat.lt_succ_self _)
theorem picks8_at (j : Nat) (h : j < 8) : (#[.int .i64 (-1), .int .i64 (-1), .int .i64 0, .int .i64 0, .int .i64 1, .int .i64 1, .int .i64 2, .int .i64 3] : Array Value)[j]? = some (.int .i64 (gi picks8 j)) := by
  rcases (show j = 0 ∨ j = 1 ∨ j = 2 ∨ j = 3 ∨ j = 4 ∨ j = 5 ∨ j = 6 ∨ j = 7 by omega) with rfl | rfl | rfl | rfl | rfl | rfl | rfl | rfl <;> rfl

theorem hm2 {w wr w2 : World} {g n : Nat} {t : TypeId} {B : Option Addr} {f : Nat → Value} (h : Mine wr w.heap.size wr.heap.size t B n f) (ho : Only g (g + 1) wr w2) (hg : g < w.heap.size) : Mine w2 w.heap.size wr.heap.size t B n f :=
  h.only ho (Nat.le_refl _) (.inr (by omega))

set_option maxHeartbeats 1000000 in
theorem l1Draw_any (lo hi g : Nat) (A : Option Addr) (k c a : Nat) (b : Nat → Int) (w : World) (hk : k ≤ 1048576) (ha : a ≤ 1048576)
    (hb : ∀ j, 0 ≤ b j ∧ b j ≤ 255) (h : Sl w lo hi A k (fun j => .int .u8 (b j))) (hg : hi ≤ g) (hs : Src w g A k c a) :
    Calls Try.prog 43 #[.pointer (some ⟨g, 0, none⟩)] w (Drawn g A k c a w) := by
  obtain ⟨i0, hi0, hz0, hz1, hz2⟩ := info_parts Try.info_i64
  have hgw := hs.lt
  have H := Lib.hid h
  have HBY := Lib.hid hb
  have HE : Hid (Only g (g + 1) w (w.alloc (.cells #[] 2))) := (Only.refl _ _ _).alloc (by omega) _
  have HS := Lib.hid (hs.alloc (.cells #[] 2))
  have own0 : Hid ((w.alloc (.cells #[] 2)).ownsRow w.heap.size 2 1 (.slice (some ⟨w.heap.size, 0, none⟩) 0 0) 0 (vals [])) :=
    ⟨rfl, .inr ⟨w.heap.size, 0, #[], rfl, Nat.le_refl _, heap_alloc_new _ _, Nat.le_refl _, by simp [maxLen], rfl, rfl⟩⟩
  have C := Lib.hid (l1Next_any lo hi g A k c a 12 b (w.alloc (.cells #[] 2)) (by omega) hk (by omega) hb (h.lt.below (below_new w _) (by omega) |>.wide (Nat.le_refl _) (by omega)) (by omega) HS.out)
  clear h hb hs HS
  go_enter Try.func43, Try.ntmps43
  go_wp2_with fail
  refine C.out.mono ?_
  rintro e w1 ⟨r, rfl, hr, _, hs1, ho1⟩
  have hr12 : r < 12 := by have := hr (by omega); omega
  have HS1 := Lib.hid hs1
  have HO1 := Lib.hid (HE.out.trans ho1)
  have OW1 := Lib.hid (own0.out.kept ho1.grownBy (.inr (fun e => by have := own_base own0.out g e; omega)))
  clear hs1 ho1 C HE own0 hr
  obtain ⟨N, hN, hN13⟩ : ∃ N : Nat, (1 : Int) + (r : Int) = (N : Int) ∧ N ≤ 12 := ⟨1 + r, by omega, by omega⟩
  have hN1 : 1 ≤ N := by omega
  have HN := Lib.hid hN
  clear hN
  go_wp2
  rw [HN.out]
  go_loopw [4, 3] (fun i v wr => ∃ (j a' : Nat) (ys : List Int), j ≤ N ∧ i = .int .i64 ((N - j : Nat) : Int) ∧ ys.length = j ∧ wr.ownsRow w.heap.size 2 1 v j (vals ys) ∧ (∀ q, -2 ≤ gi ys q ∧ gi ys q ≤ 4) ∧ a' ≤ a + 1 + j ∧ Src wr g A k c a' ∧ Only g (g + 1) w wr) (fun i _ _ => (intOf i).toNat)
  case atStart => exact ⟨0, a + 1, [], Nat.zero_le _, rfl, rfl, OW1.out, fun q => by simp [gi], by omega, HS1.out, HO1.out⟩
  case round =>
    obtain ⟨j, a', ys, hj, rfl, hys, hown, hgi, ha', hs2, ho2⟩ := hrel
    have OW := Lib.hid hown
    have HYS := Lib.hid hys
    have HGI := Lib.hid hgi
    have HS2 := Lib.hid hs2
    have HO2 := Lib.hid ho2
    have hzr : w.heap.size ≤ wr.heap.size := ho2.1.size
    clear hown hys hgi hs2 ho2 HS1 HO1 OW1
    by_cases hlt : j < N
    · have HD1 : Hid (((N - j : Nat) : Int) - 1 = ((N - (j + 1) : Nat) : Int)) := by show _ = _; omega
      have hpos : (0 : Int) < ((N - j : Nat) : Int) := by omega
      have hle : ((N - j : Nat) : Int) ≤ 12 := by omega
      generalize hd : ((N - j : Nat) : Int) = d at *
      have HD := Lib.hid hd
      clear hd
      have HC2 : Hid (Sl (wr.alloc (.cells #[.int .i64 (-1), .int .i64 (-1), .int .i64 0, .int .i64 0, .int .i64 1, .int .i64 1, .int .i64 2, .int .i64 3] 2)) lo (min hi w.heap.size) A k (fun j => .int .u8 (b j))) :=
        (H.out.lt.only HO2.out (by omega) (.inl (by omega))).below (below_new wr _) (by omega)
      have CP := Lib.hid (l1Pick_any lo (min hi w.heap.size) g wr.heap.size (wr.heap.size + 1) A (some ⟨wr.heap.size, 0, none⟩) k c a' 8 8 b picks8 (wr.alloc (.cells #[.int .i64 (-1), .int .i64 (-1), .int .i64 0, .int .i64 0, .int .i64 1, .int .i64 1, .int .i64 2, .int .i64 3] 2)) hk (by omega) HBY.out HC2.out (by omega) (HS2.out.alloc _) rfl (by omega) (by omega) (sl_new wr _ _ picks8 8 picks8_at) (by omega) (by simp))
      go_wp2_with fail
      refine CP.out.mono ?_
      rintro e w2 ⟨r2, hr2, rfl, hs3, ho3⟩
      obtain ⟨v2, hv2⟩ : ∃ v2, gi picks8 r2 = v2 := ⟨_, rfl⟩
      have HV2 : Hid (-2 ≤ v2 ∧ v2 ≤ 4) := by have := picks8_ok r2 hr2; rw [hv2] at this; exact this
      rw [hv2]
      clear hv2 hr2
      have HS3 := Lib.hid hs3
      have HO3 := Lib.hid ((HO2.out.alloc (by omega) (.cells #[.int .i64 (-1), .int .i64 (-1), .int .i64 0, .int .i64 0, .int .i64 1, .int .i64 1, .int .i64 2, .int .i64 3] 2)).trans ho3)
      have OWA := (OW.out.alloc (.cells #[.int .i64 (-1), .int .i64 (-1), .int .i64 0, .int .i64 0, .int .i64 1, .int .i64 1, .int .i64 2, .int .i64 3] 2))
      have OW2 := Lib.hid ((OWA.kept ho3.grownBy (.inr (fun e => by have := own_base OWA g e; omega))).alloc (.cells #[.int .i64 v2] 2))
      have hsz2 : w.heap.size < w2.heap.size := by have := ho3.1.size; simp at this; omega
      clear hs3 ho3 OWA CP HC2
      go_wp2_with (at_builtin; (refine wpList_append_own _ rfl (.tmp 13) (.tmp 17) 24 rfl w.heap.size 2 i0 (.int .i64 0) 1 8 Try.underlying24 hi0 hz0 hz1 hz2 rfl (by decide) _ j _ rfl OW2.out ⟨w2.heap.size, 0, none⟩ 1 1 [.int .i64 v2] rfl rfl (cell_one_new _ _ _) (by intro u hu; simp at hu; subst hu; rfl) (by unfold maxLen; omega) (by omega) (by simp; omega) ?_); intro v' w3 hown' hgrow' _; have HO := Lib.hid hown'; have HG := Lib.hid hgrow'; clear hown' hgrow')
      have hgr : (w2.alloc (.cells #[.int .i64 v2] 2)).grownBy w3 u3.ownBlock := HG.out
      have HO4 := Lib.hid ((HO3.out.alloc (by omega) (.cells #[.int .i64 v2] 2)).grown hgr (by omega) (own_base OW2.out))
      have HS4 := Lib.hid ((HS3.out.alloc (.cells #[.int .i64 v2] 2)).grown hgr (fun q hq => by have := own_base OW2.out q hq; omega))
      clear hgr
      go_roundw
      case rel =>
        refine ⟨j + 1, a' + 1, ys ++ [v2], by omega, by rw [HD1.out], by simp [HYS.out], by have := HO.out; rwa [vals_snoc] at this, fun q => ?_, by omega, HS4.out, HO4.out⟩
        rw [gi_snoc]
        have h1 := HGI.out q
        have h2 := HV2.out
        split
        · exact h1
        · split
          · exact h2
          · omega
      case measure => simp [intOf]; omega
    · have hjN : j = N := by omega
      subst hjN
      obtain ⟨B, c', rfl, hnc, hB, hm⟩ := mine_of_own OW.out
      have e0 : ((j - j : Nat) : Int) = 0 := by omega
      rw [e0]
      have HM : Hid (Mine wr w.heap.size wr.heap.size 2 B j (fun q => .int .i64 (gi ys q))) := hm.congr (fun q hq => vals_getD ys q (by rw [HYS.out]; exact hq))
      clear hm e0
      have CN := Lib.hid (l1Next_any lo (min hi w.heap.size) g A k c a' 24 b wr (by omega) hk (by omega) HBY.out (H.out.lt.only HO2.out (by omega) (.inl (by omega))) (by omega) HS2.out)
      go_wp2_with fail
      refine CN.out.mono ?_
      rintro e w2 ⟨r2, rfl, _, _, hs3, ho3⟩
      have HS3 := Lib.hid hs3
      have HO3 := Lib.hid (HO2.out.trans ho3)
      have HM2 := Lib.hid (hm2 HM.out ho3 hgw)
      have hsz2 : wr.heap.size ≤ w2.heap.size := ho3.1.size
      have HC3 : Hid (Sl w2 lo (min hi w.heap.size) A k (fun j => .int .u8 (b j))) := (H.out.lt.only HO3.out (by omega) (.inl (by omega)))
      clear hs3 ho3 CN HM HO2 HS2
      by_cases hr0 : r2 = 0
      · subst hr0
        have HC4 : Hid (Sl (w2.alloc (.cells #[.int .i64 (-2), .int .i64 4] 2)) lo (min hi w.heap.size) A k (fun j => .int .u8 (b j))) := HC3.out.below (below_new w2 _) (by omega)
        have CP := Lib.hid (l1Pick_any lo (min hi w.heap.size) g w2.heap.size (w2.heap.size + 1) A (some ⟨w2.heap.size, 0, none⟩) k c (a' + 1) 2 2 b [-2, 4] (w2.alloc (.cells #[.int .i64 (-2), .int .i64 4] 2)) hk (by omega) HBY.out HC4.out (by omega) (HS3.out.alloc _) rfl (by omega) (by omega) (sl_new w2 _ _ [-2, 4] 2 (fun q hq => by rcases (show q = 0 ∨ q = 1 by omega) with rfl | rfl <;> rfl)) (by omega) (by simp))
        go_wp2_with fail
        refine CP.out.mono ?_
        rintro e w3 ⟨r3, hr3, rfl, hs3, ho3⟩
        obtain ⟨v3, hv3⟩ : ∃ v3, gi [-2, 4] r3 = v3 := ⟨_, rfl⟩
        have HV3 : Hid (-2 ≤ v3 ∧ v3 ≤ 4) := by
          have hr3 : r3 < 2 := hr3
          subst hv3
          rcases (show r3 = 0 ∨ r3 = 1 by omega) with rfl | rfl <;> (show _ ∧ _; decide)
        rw [hv3]
        clear hv3 hr3
        have HS4 := Lib.hid hs3
        have HO4 := Lib.hid ((HO3.out.alloc (by omega) (.cells #[.int .i64 (-2), .int .i64 4] 2)).trans ho3)
        have HM3 := Lib.hid ((HM2.out.below (below_new w2 (.cells #[.int .i64 (-2), .int .i64 4] 2)) (by omega)).only ho3 (by simp; omega) (.inr (by omega)))
        have hsz3 : w2.heap.size < w3.heap.size := by have := ho3.1.size; simp at this; omega
        clear hs3 ho3 CP HC4 HM2 HO3 HS3
        rcases HM3.out with h0 | ⟨x, off, rfl, hx1, hx2, hrow⟩
        · omega
        have hj0 : 0 < j := by omega
        have hco := hrow.cell hj0
        have hfo := hrow.frozen (off + 0)
        rw [Nat.add_zero] at hco hfo
        have HR := Lib.hid (hrow.set hj0 (.int .i64 v3))
        have HO5 := Lib.hid (HO4.out.1.setCell (p := ⟨x, off, none⟩) (by simp; omega) (.int .i64 v3))
        have HO6 : Hid (∀ q, g + 1 ≤ q → q < w.heap.size → (w3.setCell ⟨x, off, none⟩ (.int .i64 v3)).heap[q]? = w.heap[q]?) := fun q h1 h2 => (Below.heap_setCell w3 ⟨x, off, none⟩ _ q (by simp; omega)).trans (HO4.out.2 q h1 h2)
        have HS6 : Hid (Src (w3.setCell ⟨x, off, none⟩ (.int .i64 v3)) g A k c (a' + 1 + 1)) := (Below.heap_setCell w3 ⟨x, off, none⟩ _ g (by simp; omega)).trans HS4.out
        clear hrow HM3
        go_wp2
        go_ret
        refine ⟨_, j, c', ys.set 0 v3, a' + 1 + 1, rfl, by simp [HYS.out], by omega, fun h => by simp at h, .inr ⟨x, off, rfl, hx1, by simp [World.setCell]; omega, ?_⟩, fun q => ?_, by omega, HS6.out, HO5.out, HO6.out⟩
        · have := HR.out
          rw [Nat.add_zero] at this
          refine this.congr fun q hq => ?_
          rw [gi_set]
          by_cases e : q = 0
          · rw [if_pos e, if_pos ⟨e, by rw [HYS.out]; exact hj0⟩]
          · rw [if_neg e, if_neg (fun h => e h.1)]
        · rw [gi_set]
          split
          · exact HV3.out
          · exact HGI.out q
      by_cases hr1 : r2 = 1
      · subst hr1
        have HC4 : Hid (Sl (w2.alloc (.cells #[.int .i64 0, .int .i64 6, .int .i64 7, .int .i64 12, .int .i64 13] 2)) lo (min hi w.heap.size) A k (fun j => .int .u8 (b j))) := HC3.out.below (below_new w2 _) (by omega)
        have CP := Lib.hid (l1Pick_any lo (min hi w.heap.size) g w2.heap.size (w2.heap.size + 1) A (some ⟨w2.heap.size, 0, none⟩) k c (a' + 1) 5 5 b [0, 6, 7, 12, 13] (w2.alloc (.cells #[.int .i64 0, .int .i64 6, .int .i64 7, .int .i64 12, .int .i64 13] 2)) hk (by omega) HBY.out HC4.out (by omega) (HS3.out.alloc _) rfl (by omega) (by omega) (sl_new w2 _ _ [0, 6, 7, 12, 13] 5 (fun q hq => by rcases (show q = 0 ∨ q = 1 ∨ q = 2 ∨ q = 3 ∨ q = 4 by omega) with rfl | rfl | rfl | rfl | rfl <;> rfl)) (by omega) (by simp))
        go_wp2_with fail
        refine CP.out.mono ?_
        rintro e w3 ⟨r3, hr3, rfl, hs3, ho3⟩
        obtain ⟨v3, hv3, hv13⟩ : ∃ v3 : Nat, gi [0, 6, 7, 12, 13] r3 = (v3 : Int) ∧ v3 ≤ 13 := by
          have hr3 : r3 < 5 := hr3
          rcases (show r3 = 0 ∨ r3 = 1 ∨ r3 = 2 ∨ r3 = 3 ∨ r3 = 4 by omega) with rfl | rfl | rfl | rfl | rfl
          · exact ⟨0, rfl, by omega⟩
          · exact ⟨6, rfl, by omega⟩
          · exact ⟨7, rfl, by omega⟩
          · exact ⟨12, rfl, by omega⟩
          · exact ⟨13, rfl, by omega⟩
        rw [hv3]
        clear hv3 hr3
        have HS4 := Lib.hid (hs3.alloc (.cells (madeCells #[.int .i64 0] v3) 2))
        have hsz3 : w2.heap.size < w3.heap.size := by have := ho3.1.size; simp at this; omega
        have HO4 := Lib.hid (((HO3.out.alloc (by omega) (.cells #[.int .i64 0, .int .i64 6, .int .i64 7, .int .i64 12, .int .i64 13] 2)).trans ho3).alloc (by omega) (.cells (madeCells #[.int .i64 0] v3) 2))
        have hmk := run_make_row' (P := Try.prog) 24 2 (.int .i64 0) 8 Try.underlying24 Try.info_i64 rfl .i64 .i64 v3 (by omega) (by omega)
        clear hs3 ho3 CP HC4 HM2 HO3 HS3
        go_wp2
        go_ret
        refine ⟨_, v3, v3, List.replicate v3 0, a' + 1 + 1, rfl, by simp, hv13, fun h => by simp at h, .inr ⟨w3.heap.size, 0, rfl, by omega, by simp, ?_⟩, fun q => ?_, by omega, HS4.out, HO4.out⟩
        · refine (Row.made w3 _ v3 _).congr fun q hq => ?_
          rw [gi_lt _ q (by simpa using hq)]; simp
        · by_cases hq : q < v3
          · rw [gi_lt _ q (by simpa using hq)]; simp
          · unfold gi; rw [List.getD_eq_getElem?_getD, List.getElem?_eq_none (by simp; omega)]; decide
      · go_wp2
        go_ret
        exact ⟨B, j, c', ys, a' + 1, rfl, HYS.out, by omega, hB, HM2.out.wide (Nat.le_refl _) (by omega), HGI.out, by omega, HS3.out, HO3.out⟩

end Go.Proofs.Ytdinhehcbbmpbaa
