/-
  Rows of numbers of one's own: a copy by the model, by the program, and one number more. No conditions beyond that the list can be read.
-/
import Derived.Test.YtachpoehejdpjaaDoorOwn4
import Derived.Test.YtachpoehejdpjaaDoorCut6
import Derived.Laws.AppendOwnNone
namespace Go.Proofs.YtachpoehejdpjaaDoor
open Go.RowKit
set_option maxRecDepth 100000

theorem or_of6 {t : TypeId} {m : Nat} {w : World} {base n : Nat} {v : Value} {hs : List Int} (h : w.ownsRow base t m v n (vals hs)) : ∃ A c, v = .slice A n c ∧ OR t m w base A n c hs := by
  rcases h.2 with ⟨rfl, rfl⟩ | ⟨g, cap, cur, rfl, _⟩
  · exact ⟨none, 0, rfl, h⟩
  · exact ⟨some ⟨g, 0, none⟩, cap, rfl, h⟩
theorem OR.grew6 {t : TypeId} {m : Nat} {a b : World} {base n c : Nat} {A : Option Addr} {hs : List Int} (h : OR t m a base A n c hs) (hb : base ≤ a.heap.size) (hg : a.grownBy b (Value.slice A n c).ownBlock) : Below base a b :=
  (Below.refl base a).grown hg hb (fun k hk => by
    rcases A with _ | ad
    · cases hk
    · obtain ⟨g', e, h1, h2⟩ := OR.at_ h (by simp)
      injection e with e
      subst e
      have hk' : some g' = some k := hk
      injection hk' with e2
      omega)
theorem one_new6 (w : World) (v : Int) : ∀ j u, ([.int .i64 v] : List Value)[j]? = some u → (w.alloc (.cells #[.int .i64 v] 2)).cell? ((⟨w.heap.size, 0, none⟩ : Addr).add j) = some u := by
  intro j u hu
  rw [Go.WideShapes.add_plain]
  rcases j with _ | j
  · injection hu with hu; subst hu; exact cell_of_row _ _ 0 _ _ _ (heap_alloc_new w _)
  · simp at hu
theorem row_more6 {t : TypeId} {w : World} {base n : Nat} {x : Value} {hs : List Int} {v : Int} (h : w.ownsRow base t 1 x (n + 1) (vals hs ++ [.int .i64 v])) : ∃ A c, x = .slice A (n + 1) c ∧ OR t 1 w base A (n + 1) c (hs ++ [v]) := by
  rw [show vals hs ++ [Value.int .i64 v] = vals (hs ++ [v]) by simp [vals]] at h
  exact or_of6 h
theorem own_ne6 {t t' : TypeId} {m : Nat} {w : World} {base n c s : Nat} {A : Option Addr} {hs : List Int} {cs : Array Value} (h : OR t m w base A n c hs) (hk : w.heap[s]? = some (.cells cs t' (0, 0))) (ht : t ≠ t') : some s ≠ (Value.slice A n c).ownBlock := by
  intro e
  rcases h.2 with ⟨h0, _⟩ | ⟨g', cap', cur, h0, _, hg, _⟩
  · injection h0 with h0 _ _; subst h0; cases e
  · injection h0 with h0 _ _
    subst h0
    have e' : s = g' := Option.some.inj e
    subst e'
    rw [hk] at hg
    injection hg with hg
    injection hg with _ hg _
    exact ht hg.symm
theorem OR.capA {t : TypeId} {m : Nat} {a : World} {base n c : Nat} {A : Option Addr} {hs : List Int} (h : OR t m a base A n c hs) : A = none → c = 0 := fun e => by
  subst e
  exact (OR.nil0 h).2

theorem l1IntsO_any (lo hi : Nat) (A : Option Addr) (n c : Nat) (xs : List Int) (w : World) (hn : n ≤ 1048576) (ex : xs.length = n) (hA : A = none → c = 0) (h : Sl w lo hi A n (fun k => .int .i64 (gi xs k))) :
    Calls Tryd.prog 41 #[.slice A n c] w fun e w' => ∃ A' c', e = .returned (.slice A' n c') ∧ OR 2 1 w' w.heap.size A' n c' xs ∧ Below w.heap.size w w' := by
  have H := Lib.hid h
  have EX := Lib.hid ex
  have HA := Lib.hid hA
  clear h ex hA
  obtain ⟨i0, hi0, hz0, hz1, hz2⟩ := info_parts Tryd.info_i64
  have own0 : Hid ((w.alloc (.cells #[] 2)).ownsRow w.heap.size 2 1 (.slice (some ⟨w.heap.size, 0, none⟩) 0 0) 0 []) :=
    ⟨rfl, .inr ⟨w.heap.size, 0, #[], rfl, Nat.le_refl _, heap_alloc_new _ _, Nat.le_refl _, by simp [maxLen], rfl, rfl⟩⟩
  have b0 : Hid (Below w.heap.size w (w.alloc (.cells #[] 2))) := (Below.refl _ _).alloc (Nat.le_refl _) _
  rcases A with _ | ad
  · have hn0 : n = 0 := by
      rcases Nat.eq_zero_or_pos n with h0 | h0
      · exact h0
      · obtain ⟨_, _, hx, _⟩ := H.out 0 h0
        cases hx
    subst hn0
    obtain rfl := HA.out rfl
    have hxs : xs = [] := List.length_eq_zero_iff.1 EX.out
    subst hxs
    go_enter Tryd.func41, Tryd.ntmps41
    go_wp2_with (at_builtin; refine wpList_append_own_none rfl (.tmp 3) (.tmp 4) 24 rfl w.heap.size 2 i0 1 Tryd.underlying24 hi0 _ 0 [] rfl own0.out rfl ?_)
    go_ret
    exact ⟨_, _, rfl, own0.out, b0.out⟩
  · have NW : Hid (∀ j u, (vals xs)[j]? = some u → (w.alloc (.cells #[] 2)).cell? (ad.add j) = some u) := by
      intro j u hu
      have hj : j < xs.length := by have := (List.getElem?_eq_some_iff.1 hu).1; simpa [vals] using this
      rw [vals_get xs j hj] at hu
      injection hu with hu
      subst hu
      obtain ⟨b, off, hx, h1, h2, hc⟩ := (H.out.lt) j (by rw [← EX.out]; exact hj)
      injection hx with hx
      subst hx
      rw [Go.WideShapes.add_plain]
      exact (b0.out.cell (p := ⟨b, off + j, none⟩) (by simp; omega)).trans hc
    have ON : Hid (∀ u ∈ vals xs, u.oneCell' = true) := by
      intro u hu
      simp only [vals, List.mem_map] at hu
      obtain ⟨_, _, rfl⟩ := hu
      rfl
    have LN : Hid ((vals xs).length = n * 1) := by simp [Hid, vals, EX.out]
    go_enter Tryd.func41, Tryd.ntmps41
    go_wp2_with (at_builtin; refine wpList_append_own _ rfl (.tmp 3) (.tmp 4) 24 rfl w.heap.size 2 i0 (.int .i64 0) 1 8 Tryd.underlying24 hi0 hz0 hz1 hz2 rfl (by decide) _ 0 [] rfl own0.out ad n c (vals xs) rfl LN.out NW.out ON.out (by unfold maxLen; omega) (by omega) b0.out.size ?_; intro v' w1 hown hgrow _; have HO := Lib.hid hown; have HG := Lib.hid hgrow; clear hown hgrow)
    (try go_wp2)
    go_ret
    have hb : Below w.heap.size w w1 := b0.out.grown HG.out b0.out.size (fun k hk => by have hk' : some w.heap.size = some k := hk; injection hk' with e; omega)
    have ho := HO.out
    simp only [Nat.zero_add, List.nil_append] at ho
    obtain ⟨A', c', rfl, ho⟩ := or_of6 ho
    exact ⟨A', c', rfl, ho, hb⟩

theorem clone6_any (lo hi : Nat) (A : Option Addr) (n c : Nat) (xs : List Int) (w : World) (hn : n ≤ 1048576) (ex : xs.length = n) (hA : A = none → c = 0) (h : Sl w lo hi A n (fun k => .int .i64 (gi xs k))) :
    Calls Tryd.prog 57 #[.slice A n c] w fun e w' => ∃ A' c', e = .returned (.slice A' n c') ∧ OR 2 1 w' w.heap.size A' n c' xs ∧ Below w.heap.size w w' := by
  have H := Lib.hid h
  have EX := Lib.hid ex
  have HA := Lib.hid hA
  clear h ex hA
  obtain ⟨i0, hi0, hz0, hz1, hz2⟩ := info_parts Tryd.info_i64
  have own0 : Hid ((w.alloc (.cells #[] 2)).ownsRow w.heap.size 2 1 (.slice (some ⟨w.heap.size, 0, none⟩) 0 0) 0 []) :=
    ⟨rfl, .inr ⟨w.heap.size, 0, #[], rfl, Nat.le_refl _, heap_alloc_new _ _, Nat.le_refl _, by simp [maxLen], rfl, rfl⟩⟩
  have b0 : Hid (Below w.heap.size w (w.alloc (.cells #[] 2))) := (Below.refl _ _).alloc (Nat.le_refl _) _
  rcases A with _ | ad
  · have hn0 : n = 0 := by
      rcases Nat.eq_zero_or_pos n with h0 | h0
      · exact h0
      · obtain ⟨_, _, hx, _⟩ := H.out 0 h0
        cases hx
    subst hn0
    obtain rfl := HA.out rfl
    have hxs : xs = [] := List.length_eq_zero_iff.1 EX.out
    subst hxs
    go_enter Tryd.func57, Tryd.ntmps57
    have hnl : ∀ W, (binOp .eql 24 (.slice none 0 0) (.slice none 0 0)).run Tryd.prog W = .ok (.bool true) W := fun W => by first | rfl | kernel_rfl | simp [go_sem, Tryd.underlying24]
    go_wp2
    go_ret
    exact ⟨none, 0, rfl, OR.void _ _, Below.refl _ _⟩
  · have NW : Hid (∀ j u, (vals xs)[j]? = some u → (w.alloc (.cells #[] 2)).cell? (ad.add j) = some u) := by
      intro j u hu
      have hj : j < xs.length := by have := (List.getElem?_eq_some_iff.1 hu).1; simpa [vals] using this
      rw [vals_get xs j hj] at hu
      injection hu with hu
      subst hu
      obtain ⟨b, off, hx, h1, h2, hc⟩ := (H.out.lt) j (by rw [← EX.out]; exact hj)
      injection hx with hx
      subst hx
      rw [Go.WideShapes.add_plain]
      exact (b0.out.cell (p := ⟨b, off + j, none⟩) (by simp; omega)).trans hc
    have ON : Hid (∀ u ∈ vals xs, u.oneCell' = true) := by
      intro u hu
      simp only [vals, List.mem_map] at hu
      obtain ⟨_, _, rfl⟩ := hu
      rfl
    have LN : Hid ((vals xs).length = n * 1) := by simp [Hid, vals, EX.out]
    have hnl : ∀ W, (binOp .eql 24 (.slice (some ad) n c) (.slice none 0 0)).run Tryd.prog W = .ok (.bool false) W := fun W => by first | rfl | kernel_rfl | simp [go_sem, Tryd.underlying24]
    go_enter Tryd.func57, Tryd.ntmps57
    go_wp2_with (at_builtin; refine wpList_append_own _ rfl (.tmp 5) (.tmp 6) 24 rfl w.heap.size 2 i0 (.int .i64 0) 1 8 Tryd.underlying24 hi0 hz0 hz1 hz2 rfl (by decide) _ 0 [] rfl own0.out ad n c (vals xs) rfl LN.out NW.out ON.out (by unfold maxLen; omega) (by omega) b0.out.size ?_; intro v' w1 hown hgrow _; have HO := Lib.hid hown; have HG := Lib.hid hgrow; clear hown hgrow)
    (try go_wp2)
    go_ret
    have hb : Below w.heap.size w w1 := b0.out.grown HG.out b0.out.size (fun k hk => by have hk' : some w.heap.size = some k := hk; injection hk' with e; omega)
    have ho := HO.out
    simp only [Nat.zero_add, List.nil_append] at ho
    obtain ⟨A', c', rfl, ho⟩ := or_of6 ho
    exact ⟨A', c', rfl, ho, hb⟩

set_option maxHeartbeats 1000000 in
theorem behind6_any (lo hi : Nat) (A : Option Addr) (n c : Nat) (xs : List Int) (v : Int) (w : World) (hn : n ≤ 1048576) (ex : xs.length = n) (hA : A = none → c = 0) (h : Sl w lo hi A n (fun k => .int .i64 (gi xs k))) :
    Calls Tryd.prog 56 #[.slice A n c, .int .i64 v] w fun e w' => ∃ A' c', e = .returned (.slice A' (n + 1) c') ∧ OR 2 1 w' w.heap.size A' (n + 1) c' (xs ++ [v]) ∧ Below w.heap.size w w' := by
  obtain ⟨i0, hi0, hz0, hz1, hz2⟩ := info_parts Tryd.info_i64
  have CL := Lib.hid (clone6_any lo hi A n c xs w (by omega) ex hA h)
  clear h ex hA
  go_enter Tryd.func56, Tryd.ntmps56
  go_wp2_with (first
    | (go_at_call 57; refine CL.out.mono ?_; rintro e9 w2 ⟨A', c', rfl, ho, hb⟩
       have HO2 := Lib.hid (OR.alloc ho (.cells #[.int .i64 v] 2))
       have HB2 := Lib.hid (hb.alloc hb.size (.cells #[.int .i64 v] 2))
       have NW := Lib.hid (one_new6 w2 v)
       clear ho hb)
    | (at_builtin
       refine wpList_append_own _ rfl (.tmp 6) (.tmp 8) 24 rfl w.heap.size 2 i0 (.int .i64 0) 1 8 Tryd.underlying24 hi0 hz0 hz1 hz2 rfl (by decide) (.slice A' n c') n (vals xs) rfl HO2.out ⟨w2.heap.size, 0, none⟩ 1 1 [.int .i64 v] rfl rfl NW.out (by simp [Value.oneCell']) (by unfold maxLen; omega) (by omega) HB2.out.size ?_
       intro v' w3 hown hgrow _
       have HO3 := Lib.hid (row_more6 hown)
       have HB3 := Lib.hid (HB2.out.trans (OR.grew6 HO2.out HB2.out.size hgrow))
       clear hown hgrow))
  go_ret
  obtain ⟨A3, c3, rfl, ho3⟩ := HO3.out
  exact ⟨A3, c3, rfl, ho3, HB3.out⟩

end Go.Proofs.YtachpoehejdpjaaDoor
