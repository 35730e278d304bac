/-
  The model's functions of chapter 1: what each answers, for every list that can be read and is at most 2^20 long. Stated with the lists of Math1.
-/
import Derived.Test.YtachpoehejdpjaaDoorChecked
import Derived.Test.YtachpoehejdpjaaDoorMath1
import Derived.Test.YtachpoehejdpjaaDoorInts
import Derived.Laws.AppendOwnNone
namespace Go.Proofs.YtachpoehejdpjaaDoor
open Go.RowKit
set_option maxRecDepth 100000

theorem l1In_any (v lo hi : Int) (w : World) :
    Calls Tryd.prog 59 #[.int .i64 v, .int .i64 lo, .int .i64 hi] w fun e w' => e = .returned (.bool (inR lo hi v)) ∧ w = w' := by
  by_cases h1 : lo ≤ v
  · by_cases h2 : v ≤ hi
    · go_enter Tryd.func59, Tryd.ntmps59
      go_wp2
      go_ret
      exact ⟨ret_bool (inR_true ⟨h1, h2⟩).symm, rfl⟩
    · go_enter Tryd.func59, Tryd.ntmps59
      go_wp2
      go_ret
      exact ⟨ret_bool (inR_false (by omega)).symm, rfl⟩
  · go_enter Tryd.func59, Tryd.ntmps59
    go_wp2
    go_ret
    exact ⟨ret_bool (inR_false (by omega)).symm, rfl⟩

/-- the numbers of a list as values -/
def vals (xs : List Int) : List Value := xs.map (Value.int .i64)
theorem vals_get (xs : List Int) (k : Nat) (h : k < xs.length) : (vals xs)[k]? = some (.int .i64 (gi xs k)) := by
  simp [vals, h, gi_lt xs k h]
theorem vals_getD (xs : List Int) (k : Nat) (h : k < xs.length) : (vals xs).getD k undef = .int .i64 (gi xs k) := by
  rw [List.getD_eq_getElem?_getD, vals_get xs k h]; rfl

/-- l1Ints: a new slice of one's own that reads as the list did -/
theorem l1Ints_any (lo hi : Nat) (A : Option Addr) (n c : Nat) (xs : List Int) (w : World) (hn : n * 8 ≤ 140737488351232) (ex : xs.length = n) (hA : A = none → c = 0) (h : Sl w lo hi A n (fun k => .int .i64 (gi xs k))) :
    Calls Tryd.prog 41 #[.slice A n c] w fun e w' => ∃ A' c', e = .returned (.slice A' n c') ∧ (A' = none → c' = 0) ∧ Mine w' w.heap.size w'.heap.size 2 A' n (fun k => .int .i64 (gi xs k)) ∧ Below w.heap.size w w' := by
  have H := Lib.hid h
  have EX := Lib.hid ex
  have HA := Lib.hid hA
  clear h ex hA
  obtain ⟨i0, hi0, hz0, hz1, hz2⟩ := info_parts Tryd.info_i64
  have fin : ∀ (v' : Value) (w1 : World), w1.ownsRow w.heap.size 2 1 v' n (vals xs) → Below w.heap.size w w1 →
      ∃ A' c', v' = .slice A' n c' ∧ (A' = none → c' = 0) ∧ Mine w1 w.heap.size w1.heap.size 2 A' n (fun k => .int .i64 (gi xs k)) ∧ Below w.heap.size w w1 := by
    intro v' w1 h1 h2
    obtain ⟨A', c', rfl, _, hc, hm⟩ := mine_of_own h1
    exact ⟨A', c', rfl, hc, hm.congr (fun k hk => vals_getD xs k (by rw [EX.out]; exact hk)), h2⟩
  have FIN := Lib.hid fin
  clear fin
  have own0 : Hid ((w.alloc (.cells #[] 2)).ownsRow w.heap.size 2 1 (.slice (some ⟨w.heap.size, 0, none⟩) 0 0) 0 []) :=
    ⟨rfl, .inr ⟨w.heap.size, 0, #[], rfl, Nat.le_refl _, heap_alloc_new _ _, Nat.le_refl _, by simp [maxLen], rfl, rfl⟩⟩
  have b0 : Hid (Below w.heap.size w (w.alloc (.cells #[] 2))) := (Below.refl _ _).alloc (Nat.le_refl _) _
  rcases A with _ | ad
  · have hn0 : n = 0 := by
      rcases Nat.eq_zero_or_pos n with h0 | h0
      · exact h0
      · obtain ⟨_, _, hx, _⟩ := H.out 0 h0
        cases hx
    subst hn0
    obtain rfl := HA.out rfl
    go_enter Tryd.func41, Tryd.ntmps41
    go_wp2_with (at_builtin; refine wpList_append_own_none rfl (.tmp 3) (.tmp 4) 24 rfl w.heap.size 2 i0 1 Tryd.underlying24 hi0 _ 0 [] rfl own0.out rfl ?_)
    go_ret
    exact ⟨_, _, rfl, fun h => by simp at h, .inl rfl, b0.out⟩
  · have NW : Hid (∀ j u, (vals xs)[j]? = some u → (w.alloc (.cells #[] 2)).cell? (ad.add j) = some u) := by
      intro j u hu
      have hj : j < xs.length := by have := (List.getElem?_eq_some_iff.1 hu).1; simpa [vals] using this
      rw [vals_get xs j hj] at hu
      injection hu with hu
      subst hu
      obtain ⟨b, off, hx, h1, h2, hc⟩ := (H.out.lt) j (by rw [← EX.out]; exact hj)
      injection hx with hx
      subst hx
      rw [Go.WideShapes.add_plain]
      exact (b0.out.cell (p := ⟨b, off + j, none⟩) (by simp; omega)).trans hc
    have ON : Hid (∀ u ∈ vals xs, u.oneCell' = true) := by
      intro u hu
      simp only [vals, List.mem_map] at hu
      obtain ⟨_, _, rfl⟩ := hu
      rfl
    have LN : Hid ((vals xs).length = n * 1) := by simp [Hid, vals, EX.out]
    go_enter Tryd.func41, Tryd.ntmps41
    go_wp2_with (at_builtin; refine wpList_append_own _ rfl (.tmp 3) (.tmp 4) 24 rfl w.heap.size 2 i0 (.int .i64 0) 1 8 Tryd.underlying24 hi0 hz0 hz1 hz2 rfl (by decide) _ 0 [] rfl own0.out ad n c (vals xs) rfl LN.out NW.out ON.out (by unfold maxLen; omega) (by omega) b0.out.size ?_; intro v' w1 hown hgrow _; have HO := Lib.hid hown; have HG := Lib.hid hgrow; clear hown hgrow)
    go_ret
    have hb : Below w.heap.size w w1 := b0.out.grown HG.out b0.out.size (fun k hk => by have hk' : some w.heap.size = some k := hk; injection hk' with e; omega)
    have ho := HO.out
    simp only [Nat.zero_add, List.nil_append] at ho
    obtain ⟨A', c', rfl, h1, h2, h3⟩ := FIN.out _ _ ho hb
    exact ⟨A', c', rfl, h1, h2, h3⟩

end Go.Proofs.YtachpoehejdpjaaDoor
