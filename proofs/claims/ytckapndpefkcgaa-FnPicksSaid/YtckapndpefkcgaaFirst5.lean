/-
  The one with the least pass of those in a map. No conditions beyond that the map can be read.
-/
import Derived.Test.YtckapndpefkcgaaTk
import Derived.Test.YtckapndpefkcgaaIter5
set_option maxHeartbeats 1000000
namespace Go.Proofs.Ytckapndpefkcgaa
open List renaming getElem_toArray → zz1, getElem_cons_succ → zz2, getElem_cons_zero → zz3, setIfInBounds_toArray → zz4, set_cons_zero → zz5, set_cons_succ → zz6
open Go.RowKit Go.Shelf
set_option maxRecDepth 100000
attribute [local go_sem] Oper.semAt_some

theorem rising_any (r : Nat) (w : World) :
    Calls Try.prog 98 #[.map (some r)] w fun e w' => e = .returned (.func (.func 110) #[] #[.pointer (some ⟨w.heap.size, 0, none⟩)]) ∧ w' = w.alloc (.cells #[.map (some r)] 108) := by
  go_enter Try.func98, Try.ntmps98
  go_wp2
  go_ret
  exact ⟨rfl, rfl⟩
theorem rising_stops (n : Nat) (hn : 1 ≤ n) (bx r n₀ : Nat) (M : Int → Option R3) (hr : r < n₀) (w : World) (hn₀ : n₀ ≤ w.heap.size)
    (hbx : w.heap[bx]? = some (.cells #[.map (some r)] 108 (0, 0))) (hM : RM w r M) :
    SeqStopsK Fence.wide n Try.prog 110 #[.pointer (some ⟨bx, 0, none⟩)] (fun x : R3 => #[rv x]) (KpI n₀ bx) (fun ys => ys = upTo M 5) (fun pre => pre <+: upTo M 5) (upTo M 5).length w :=
  fun l J Jx W hW hJ _ hY h0 => rising1_in n hn l bx r n₀ W.heap.size M hr J Jx hJ hY W ((hW.block bx (Array.getElem?_eq_some_iff.1 hbx).1).trans hbx) (hM.keepAll (hW.block r (by omega))) h0
theorem kpI_b {n₀ bx : Nat} {w : World} (hn : n₀ ≤ w.heap.size) (hb : bx < w.heap.size) : ∀ (W : World) (l : Nat) (o o' : Obj), w.heap.size ≤ l → W.heap[l]? = some o → o.isCells = false → o.isWalk = false → KpI n₀ bx W (W.putObj l o') :=
  fun W l o o' hl hW h1 h2 => ⟨belowK_b hn W l o o' hl hW h1 h2, World.putObj_heap_other (by omega)⟩
theorem block_own {β : Type} (B b : Nat) (f : β → Obj) (hf : ∀ s, (f s).isCells = true) : OwnFrom B (fun s W => W.heap[b]? = some (f s)) := by
  intro s W W' row h hg hr
  refine (hg.block b (Array.getElem?_eq_some_iff.1 h).1 ?_).trans h
  intro e
  obtain ⟨_, o, ho, hc⟩ := hr b e.symm
  rw [h] at ho
  cases ho
  rw [hf] at hc
  cases hc
def lst (xs : List R3) : R3 × Bool := xs.foldl (fun acc x => if acc.2 = false ∨ x.2.2 < acc.1.2.2 then (x, true) else acc) ((0, 0, 0), false)
theorem set3_block {W : World} {b : Nat} {t : TypeId} {u0 u1 u2 : Value} (h : W.heap[b]? = some (.cells #[u0, u1, u2] t (0, 0))) (v0 v1 v2 : Value) :
    (((W.setCell ⟨b, 0, none⟩ v0).setCell ⟨b, 1, none⟩ v1).setCell ⟨b, 2, none⟩ v2).heap[b]? = some (.cells #[v0, v1, v2] t (0, 0)) :=
  heap_setCell_same _ _ 2 _ _ _ (heap_setCell_same _ _ 1 _ _ _ (heap_setCell_same _ _ 0 _ _ _ h))
theorem set1_block {W : World} {b : Nat} {t : TypeId} {u0 : Value} (h : W.heap[b]? = some (.cells #[u0] t (0, 0))) (v0 : Value) :
    (W.setCell ⟨b, 0, none⟩ v0).heap[b]? = some (.cells #[v0] t (0, 0)) := heap_setCell_same _ _ 0 _ _ _ h
theorem lst_snoc (xs : List R3) (x : R3) : lst (xs ++ [x]) = if (lst xs).2 = false ∨ x.2.2 < (lst xs).1.2.2 then (x, true) else lst xs := by
  unfold lst; rw [List.foldl_append]; rfl
def r3c (x : R3) : Array Value := #[.int .i64 x.1, .int .i64 x.2.1, .int .i64 x.2.2]

theorem results_row_one {P : Program} {fn : Func} {p u : Tmp} {ty ty' : TypeId} (h : fn.results = #[.cell p ty, .cell u ty']) (tmps : Array Value) (w : World) (g : Nat) (t : TypeId) (cs : Array Value) (fr : Nat × Nat) (d : TypeDesc)
    (hp : tmps.getD p undef = .pointer (some ⟨g, 0, none⟩)) (hg : w.heap[g]? = some (.cells cs t fr))
    (hu : P.underlying ty = some d) (hd : (match d with | .struct _ | .array _ _ => true | _ => false) = true) (hi : (P.info? ty).map (·.size) = some cs.size)
    (g2 : Nat) (hp2 : tmps.getD u undef = .pointer (some ⟨g2, 0, none⟩)) (v : Value) (hv : (loadVar ty' ⟨g2, 0, none⟩).run P w = .ok v w) :
    (results fn tmps).run P w = .ok (.tuple #[.agg cs, v]) w := by
  have hp' : tmps[p]?.getD undef = .pointer (some ⟨g, 0, none⟩) := by simpa using hp
  have hp2' : tmps[u]?.getD undef = .pointer (some ⟨g2, 0, none⟩) := by simpa using hp2
  simp [results, h, hp', hp2', asAddr, run_loadVar_row w g t ty cs fr d hg hu hd hi, hv, Result.andThen]

set_option maxHeartbeats 4000000 in
theorem first_any (r : Nat) (M : Int → Option R3) (w : World) (hM : RM w r M) :
    Calls Try.prog 96 #[.map (some r)] w fun e w' => e = .returned (.tuple #[rv (lst (upTo M 5)).1, .bool (lst (upTo M 5)).2]) ∧ Below w.heap.size w w' := by
  refine (callsIn_wide (n := 3)).1 ?_
  refine callsIn_of_wp_marks Try.func96 rfl trivial ?_ rfl
  simp only [Try.ntmps96, List.size_toArray, List.length_cons, List.length_nil, Nat.reduceAdd, Nat.reduceSub, Array.replicate_succ, Array.replicate_zero, List.push_toArray, List.append_toArray, List.nil_append, List.cons_append]
  gi_wp2_with (refine ⟨trivial, ?_⟩; gi_at_call 98; refine (callsIn_wide.2 (rising_any _ _)).mono ?_; rintro e w' ⟨rfl, rfl⟩)
  have hsz : (((w.alloc (.cells #[.int .i64 0, .int .i64 0, .int .i64 0] 52)).alloc (.cells #[.bool false] 4)).alloc (.cells #[.map (some r)] 108)).heap.size = w.heap.size + 3 := by simp
  have d0 : (((w.alloc (.cells #[.int .i64 0, .int .i64 0, .int .i64 0] 52)).alloc (.cells #[.bool false] 4)).alloc (.cells #[.map (some r)] 108)).heap[w.heap.size]? = some (.cells #[.int .i64 0, .int .i64 0, .int .i64 0] 52 (0, 0)) :=
    (Below.heap_alloc _ _ _ (by simp; omega)).trans (heap_alloc2_old w _ _)
  have d1 : (((w.alloc (.cells #[.int .i64 0, .int .i64 0, .int .i64 0] 52)).alloc (.cells #[.bool false] 4)).alloc (.cells #[.map (some r)] 108)).heap[w.heap.size + 1]? = some (.cells #[.bool false] 4 (0, 0)) :=
    (Below.heap_alloc _ _ _ (by simp)).trans (heap_alloc2_new w _ _)
  have d2 : (((w.alloc (.cells #[.int .i64 0, .int .i64 0, .int .i64 0] 52)).alloc (.cells #[.bool false] 4)).alloc (.cells #[.map (some r)] 108)).heap[w.heap.size + 1 + 1]? = some (.cells #[.map (some r)] 108 (0, 0)) := by
    have := heap_alloc_new ((w.alloc (.cells #[.int .i64 0, .int .i64 0, .int .i64 0] 52)).alloc (.cells #[.bool false] 4)) (.cells #[.map (some r)] 108)
    simpa only [World.size_alloc] using this
  have hB0 : Below w.heap.size w (((w.alloc (.cells #[.int .i64 0, .int .i64 0, .int .i64 0] 52)).alloc (.cells #[.bool false] 4)).alloc (.cells #[.map (some r)] 108)) := (((Below.refl _ w).alloc (Nat.le_refl _) _).alloc (by simp) _).alloc (by simp; omega) _
  obtain ⟨W0, hW0⟩ : ∃ W0, ((w.alloc (.cells #[.int .i64 0, .int .i64 0, .int .i64 0] 52)).alloc (.cells #[.bool false] 4)).alloc (.cells #[.map (some r)] 108) = W0 := ⟨_, rfl⟩
  rw [hW0] at hsz d0 d1 d2 hB0 ⊢
  clear hW0
  have hr := hM.lt
  refine wpIn_rangeFunc_ownH rfl (by omega) (gf := 110) (lb := #[.pointer (some ⟨w.heap.size + 1 + 1, 0, none⟩)]) rfl trivial (enters_of Try.func110 (by kernel_rfl) rfl)
    (rising_stops _ (by omega) (w.heap.size + 1 + 1) r w.heap.size M hr W0 (by omega) d2 (hM.keepAll (hB0.block r hr))) (fun h k => h.trans k) (kpI_b (by omega) (by omega)) (Below.refl _ _) (fun _ => rfl)
    (fun pre W => (W.heap[w.heap.size]? = some (.cells (r3c (lst pre).1) 52 (0, 0)) ∧ W.heap[w.heap.size + 1]? = some (.cells #[.bool (lst pre).2] 4 (0, 0))) ∧ Below w.heap.size w W ∧ w.heap.size + 3 ≤ W.heap.size)
    (fun _ _ _ => False)
    (OwnFrom.and (OwnFrom.and (block_own _ _ (fun pre => .cells (r3c (lst pre).1) 52 (0, 0)) (fun _ => rfl)) (block_own _ _ (fun pre => .cells #[.bool (lst pre).2] 4 (0, 0)) (fun _ => rfl))) (OwnFrom.and (ownFrom_below (Nat.le_refl _) (by omega)) (fun _ _ _ _ hs hg _ => Nat.le_trans hs hg.size)))
    (fun _ _ _ _ _ hs _ _ => hs)
    ⟨⟨d0, d1⟩, hB0, by omega⟩
    (fun x a' W => ∃ Bx, w.heap.size + 1 + 1 < Bx ∧ W.heap[Bx]? = some (.cells (r3c x) 52 (0, 0)) ∧ a' = { tmps := #[.map (some r), undef, .pointer (some ⟨w.heap.size, 0, none⟩), .pointer (some ⟨w.heap.size + 1, 0, none⟩), .pointer (some ⟨Bx, 0, none⟩), .map (some r), .func (.func 110) #[] #[.pointer (some ⟨w.heap.size + 1 + 1, 0, none⟩)], rv x, undef, undef, undef, undef, undef, undef, undef, undef, undef, undef, undef, undef], defers := [] })
    (fun x a' s X Y row hs hg hr => by obtain ⟨Bx, h1, h2, h3⟩ := hs; exact ⟨Bx, h1, block_own W0.heap.size Bx (fun (_ : Unit) => .cells (r3c x) 52 (0, 0)) (fun _ => rfl) () X Y row h2 hg hr, h3⟩)
    ?assign ?body ?done ?stop
  case assign =>
    rintro l pre x W K ⟨⟨e0, e1⟩, hB1, hz⟩ hK
    have hK' := Lib.hid hK
    unfold rv
    gi_wp2
    exact hK'.out _ _ ((KeepsOthers.alloc _ _).from _) ⟨(Below.refl _ W).alloc (by omega) _, Below.heap_alloc _ _ _ (by omega)⟩ ⟨⟨(Below.heap_alloc _ _ _ (by omega)).trans e0, (Below.heap_alloc _ _ _ (by omega)).trans e1⟩, hB1.alloc (by omega) _, by simp; omega⟩ ⟨W.heap.size, by omega, heap_alloc_new _ _, rfl⟩
  case body =>
    rintro l pre x a' W hl ⟨r', hr'⟩ ⟨⟨e0, e1⟩, hB1, hz⟩ ⟨Bx, hBx, eX, rfl⟩ hlt
    have LS := Lib.hid (lst_snoc pre x)
    obtain ⟨L, hL⟩ : ∃ L, L = lst pre := ⟨_, rfl⟩
    rw [← hL] at e0 e1 LS
    clear hL
    obtain ⟨⟨f0, f1, f2⟩, b⟩ := L
    obtain ⟨x0, x1, x2⟩ := x
    have E0 := Lib.hid e0; have E1 := Lib.hid e1; have HB := Lib.hid hB1; have HZ := Lib.hid hz
    unfold r3c at e0 eX
    have a0 := cell_of_row W _ 0 _ _ _ e0; have a1 := cell_of_row W _ 1 _ _ _ e0; have a2 := cell_of_row W _ 2 _ _ _ e0
    have g0 := frozen_of_row W _ 0 _ _ e0; have g1 := frozen_of_row W _ 1 _ _ e0; have g2 := frozen_of_row W _ 2 _ _ e0
    have b0 := cell_of_row W _ 0 _ _ _ e1; have k0 := frozen_of_row W _ 0 _ _ e1
    have c0 := cell_of_row W _ 0 _ _ _ eX; have c1 := cell_of_row W _ 1 _ _ _ eX; have c2 := cell_of_row W _ 2 _ _ _ eX
    simp at a0 a1 a2 b0 c0 c1 c2
    clear e0 e1 eX hB1 hz
    have FIN : Hid (lst (pre ++ [(x0, x1, x2)]) = ((x0, x1, x2), true) → ownPostG (w.heap.size + 3) (KpI w.heap.size (w.heap.size + 1 + 1))
        (fun pre W => (W.heap[w.heap.size]? = some (.cells (r3c (lst pre).1) 52 (0, 0)) ∧ W.heap[w.heap.size + 1]? = some (.cells #[.bool (lst pre).2] 4 (0, 0))) ∧ Below w.heap.size w W ∧ w.heap.size + 3 ≤ W.heap.size)
        (fun _ _ _ => False) (pre ++ [(x0, x1, x2)]) W Exit.normal { tmps := #[], defers := [] }
        ((((W.setCell ⟨w.heap.size, 0, none⟩ (.int .i64 x0)).setCell ⟨w.heap.size, 1, none⟩ (.int .i64 x1)).setCell ⟨w.heap.size, 2, none⟩ (.int .i64 x2)).setCell ⟨w.heap.size + 1, 0, none⟩ (.bool true))) := fun h => by
      have e0 := E0.out; have e1 := E1.out; have hz := HZ.out
      refine ⟨((((KeepsOthers.setCell _ _ _).trans (KeepsOthers.setCell _ _ _)).trans (KeepsOthers.setCell _ _ _)).trans (KeepsOthers.setCell _ _ _)).from _, ⟨((((Below.refl _ W).setCell (p := ⟨w.heap.size, 0, none⟩) (Nat.le_refl _) _).setCell (p := ⟨w.heap.size, 1, none⟩) (Nat.le_refl _) _).setCell (p := ⟨w.heap.size, 2, none⟩) (Nat.le_refl _) _).setCell (p := ⟨w.heap.size + 1, 0, none⟩) (by simp) _, ?_⟩, ⟨?_, ?_⟩, ?_, by simp; omega⟩
      · rw [Below.heap_setCell _ _ _ _ (by simp), Below.heap_setCell _ _ _ _ (by simp; omega), Below.heap_setCell _ _ _ _ (by simp; omega), Below.heap_setCell _ _ _ _ (by simp; omega)]
      · rw [h, Below.heap_setCell _ _ _ _ (by simp)]
        exact set3_block e0 _ _ _
      · rw [h]
        refine set1_block (u0 := .bool b) ?_ _
        rw [Below.heap_setCell _ _ _ _ (by simp), Below.heap_setCell _ _ _ _ (by simp), Below.heap_setCell _ _ _ _ (by simp)]
        exact e1
      · exact (((HB.out.setCell (p := ⟨w.heap.size, 0, none⟩) (Nat.le_refl _) _).setCell (p := ⟨w.heap.size, 1, none⟩) (Nat.le_refl _) _).setCell (p := ⟨w.heap.size, 2, none⟩) (Nat.le_refl _) _).setCell (p := ⟨w.heap.size + 1, 0, none⟩) (by simp) _
    cases b with
    | false =>
      gi_wp2
      exact FIN.out (by rw [LS.out]; simp)
    | true =>
      by_cases hlt2 : x2 < f2
      · have hL := Lib.hid hlt2
        gi_wp2
        exact FIN.out (by rw [LS.out]; simp [hL.out])
      · have hL := Lib.hid hlt2
        gi_wp2
        exact ⟨(KeepsOthers.refl _).from _, ⟨Below.refl _ _, rfl⟩, ⟨by rw [LS.out, if_neg (by simp; exact hL.out)]; exact E0.out, by rw [LS.out, if_neg (by simp; exact hL.out)]; exact E1.out⟩, HB.out, HZ.out⟩
  case done =>
    rintro D ys W hD rfl ⟨⟨e0, e1⟩, hB1, hz⟩ hK
    obtain ⟨L, hL⟩ : ∃ L, L = lst (upTo M 5) := ⟨_, rfl⟩
    rw [← hL] at e0 e1
    have HL := Lib.hid hL
    clear hL
    obtain ⟨⟨f0, f1, f2⟩, b⟩ := L
    have E0 := Lib.hid e0; have E1 := Lib.hid e1; have HB := Lib.hid hB1; have HZ := Lib.hid hz; have HK := Lib.hid hK; have HD := Lib.hid hD
    unfold r3c at e0
    have KS : Hid (∀ V : World, V.heap[w.heap.size]? = some (.cells #[.int .i64 f0, .int .i64 f1, .int .i64 f2] 52 (0, 0)) → V.heap[w.heap.size + 1]? = some (.cells #[.bool b] 4 (0, 0)) → (V.cell? ⟨w.heap.size, 0, none⟩ = some (.int .i64 f0) ∧ V.cell? ⟨w.heap.size, 1, none⟩ = some (.int .i64 f1) ∧ V.cell? ⟨w.heap.size, 2, none⟩ = some (.int .i64 f2) ∧ V.cell? ⟨w.heap.size + 1, 0, none⟩ = some (.bool b))) := fun V h0 h1 => ⟨cell_of_row V _ 0 _ _ _ h0, cell_of_row V _ 1 _ _ _ h0, cell_of_row V _ 2 _ _ _ h0, cell_of_row V _ 0 _ _ _ h1⟩
    gi_wp2
    refine wpIn_wide.2 ?_
    have g0 := frozen_of_row W _ 0 _ _ e0; have g1 := frozen_of_row W _ 1 _ _ e0; have g2 := frozen_of_row W _ 2 _ _ e0
    have k0 := frozen_of_row W _ 0 _ _ e1
    have KS0 := KS.out W.drew e0 e1
    obtain ⟨a0, a1, a2, b0⟩ := KS.out W e0 e1
    refine wp_region_noPanic ?_
    refine wp_region_held_drew (S := fun V => (V.cell? ⟨w.heap.size, 0, none⟩ = some (.int .i64 f0) ∧ V.cell? ⟨w.heap.size, 1, none⟩ = some (.int .i64 f1) ∧ V.cell? ⟨w.heap.size, 2, none⟩ = some (.int .i64 f2) ∧ V.cell? ⟨w.heap.size + 1, 0, none⟩ = some (.bool b))) (by kernel_rfl) KS0 (fun hHeld => ?_)
    refine tkH 0 ?_ rfl ?_ hHeld ?_
    rotate_left
    · (intro w hSw; (try dsimp only at hSw); go_simp; try with_reducible rfl)
    try simp only [Act.put, List.getElem_toArray, List.getElem_cons_zero, List.setIfInBounds_toArray, List.set_cons_zero, List.set_cons_succ]
    refine tkH 1 ?_ rfl ?_ hHeld ?_; rotate_left; (intro w hSw; (try dsimp only at hSw); go_simp; try with_reducible rfl); try simp only [Act.put, zz1, zz2, zz3, zz4, zz5, zz6]
    refine wpAnyH_ready (rs := [2]) (by kernel_rfl) (by simp) ?_
    refine AllReadyH.cons (o := _) rfl (fun K0 hK0 => ?_) AllReadyH.nil
    go_simp
    refine hK0.out _ _ (KS.out _ (set3_block e0 _ _ _) (by
      show (((W.setCell ⟨w.heap.size, 0, none⟩ (.int .i64 f0)).setCell ⟨w.heap.size, 1, none⟩ (.int .i64 f1)).setCell ⟨w.heap.size, 2, none⟩ (.int .i64 f2)).heap[w.heap.size + 1]? = _
      rw [Below.heap_setCell _ _ _ _ (by simp), Below.heap_setCell _ _ _ _ (by simp), Below.heap_setCell _ _ _ _ (by simp)]
      exact e1)) (fun hHeld => ?_)
    clear hK0 K0
    try simp only [Act.put, zz1, zz2, zz3, zz4, zz5, zz6]
    refine wpAnyH_ready (rs := [3]) (by kernel_rfl) (by simp) ?_
    refine AllReadyH.cons (o := _) rfl (fun K0 hK0 => ?_) AllReadyH.nil
    go_simp
    obtain ⟨W9, hW9⟩ : ∃ W9, W9 = ((((W.setCell ⟨w.heap.size, 0, none⟩ (.int .i64 f0)).setCell ⟨w.heap.size, 1, none⟩ (.int .i64 f1)).setCell ⟨w.heap.size, 2, none⟩ (.int .i64 f2)).setCell ⟨w.heap.size + 1, 0, none⟩ (.bool b)).drew := ⟨_, rfl⟩
    have X0 : W9.heap[w.heap.size]? = some (.cells #[.int .i64 f0, .int .i64 f1, .int .i64 f2] 52 (0, 0)) := by
      rw [hW9]
      show ((((W.setCell ⟨w.heap.size, 0, none⟩ (.int .i64 f0)).setCell ⟨w.heap.size, 1, none⟩ (.int .i64 f1)).setCell ⟨w.heap.size, 2, none⟩ (.int .i64 f2)).setCell ⟨w.heap.size + 1, 0, none⟩ (.bool b)).heap[w.heap.size]? = _
      rw [Below.heap_setCell _ _ _ _ (by simp)]
      exact set3_block e0 _ _ _
    have X1 : W9.heap[w.heap.size + 1]? = some (.cells #[.bool b] 4 (0, 0)) := by
      rw [hW9]
      refine set1_block (u0 := .bool b) ?_ _
      rw [Below.heap_setCell _ _ _ _ (by simp), Below.heap_setCell _ _ _ _ (by simp), Below.heap_setCell _ _ _ _ (by simp)]
      exact e1
    have XD : W9.heap[D]? = some (.deferred (some [])) := by
      have hD := HD.out
      rw [hW9]
      show ((((W.setCell ⟨w.heap.size, 0, none⟩ (.int .i64 f0)).setCell ⟨w.heap.size, 1, none⟩ (.int .i64 f1)).setCell ⟨w.heap.size, 2, none⟩ (.int .i64 f2)).setCell ⟨w.heap.size + 1, 0, none⟩ (.bool b)).heap[D]? = _
      rw [Below.heap_setCell _ _ _ _ (by simp; omega), Below.heap_setCell _ _ _ _ (by simp; omega), Below.heap_setCell _ _ _ _ (by simp; omega), Below.heap_setCell _ _ _ _ (by simp; omega)]
      exact HK.out
    have XB : Hid (Below w.heap.size w W9) := by
      rw [hW9]
      exact ((((HB.out.setCell (p := ⟨w.heap.size, 0, none⟩) (Nat.le_refl _) _).setCell (p := ⟨w.heap.size, 1, none⟩) (Nat.le_refl _) _).setCell (p := ⟨w.heap.size, 2, none⟩) (Nat.le_refl _) _).setCell (p := ⟨w.heap.size + 1, 0, none⟩) (by simp) _).drew
    rw [← hW9]
    clear hW9
    refine hK0.out _ _ (KS.out _ X0 X1) (fun hHeld => ?_)
    clear hK0 K0 hHeld
    refine wpAnyH_done (by kernel_rfl) ?_ _
    refine NoPanic.normal ?_
    have HX0 := Lib.hid X0; have HX1 := Lib.hid X1; have HXD := Lib.hid XD
    clear X0 X1 XD
    gi_wp2
    refine ⟨by simp, .inl ⟨_, _, rfl, run_takeDeferred HXD.out, ?_⟩⟩
    have Y0 := (World.putObj_heap_other (w := W9) (o := .deferred none) (show w.heap.size ≠ D by have := HD.out; omega)).trans HX0.out
    have Y1 := (World.putObj_heap_other (w := W9) (o := .deferred none) (show w.heap.size + 1 ≠ D by have := HD.out; omega)).trans HX1.out
    have y1 := cell_of_row _ _ 0 _ _ _ Y1
    simp at y1
    refine ⟨_, results_row_one rfl _ _ w.heap.size _ _ (0, 0) _ rfl Y0 Try.underlying52 rfl (by kernel_rfl) (w.heap.size + 1) rfl (.bool b) (by go_simp), ?_, ?_⟩
    · rw [← HL.out]; rfl
    · exact XB.out.trans (belowK_b (w := w) (Nat.le_refl _) W9 D _ _ (by have := HD.out; omega) HXD.out rfl rfl)
  case stop =>
    rintro D c pre W _ _ h _
    exact h.elim

end Go.Proofs.Ytckapndpefkcgaa
