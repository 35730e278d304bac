/-
  Those that are ready, collected in a slice of the call's own. No conditions beyond that the map can be read.
-/
import Derived.Test.YtckapndpefkcgaaFirst5
import Derived.Test.YtckapndpefkcgaaOwn4
set_option maxHeartbeats 1000000
namespace Go.Proofs.Ytckapndpefkcgaa
open Go.RowKit Go.Shelf
set_option maxRecDepth 100000
attribute [local go_sem] Oper.semAt_some

def fl (xs : List R3) : List Int := xs.flatMap fun x => [x.1, x.2.1, x.2.2]
theorem fl_snoc (xs : List R3) (x : R3) : fl (xs ++ [x]) = fl xs ++ [x.1, x.2.1, x.2.2] := by simp [fl]
theorem fl_len (xs : List R3) : (fl xs).length = xs.length * 3 := by
  induction xs with
  | nil => rfl
  | cons x xs ih => simp [fl] at ih ⊢; omega
theorem infoReady : (Try.prog.info? 52).map (fun i => (i.zero, i.size, i.bytes)) = some (some (.agg #[.int .i64 0, .int .i64 0, .int .i64 0]), 3, 24) := by kernel_rfl
theorem upTo_len (M : Int → Option R3) (k : Nat) : (upTo M k).length ≤ k := by
  induction k with
  | zero => simp [upTo]
  | succ k ih =>
    cases h : M (k : Int) with
    | none => rw [upTo_none h]; omega
    | some x => rw [upTo_some h]; simp; omega

theorem cell_three_new (W : World) (a b c : Value) (t : TypeId) (j : Nat) (u : Value) (h : [a, b, c][j]? = some u) : (W.alloc (.cells #[a, b, c] t)).cell? ((⟨W.heap.size, 0, none⟩ : Addr).add j) = some u := by
  match j, h with
  | 0, h => simp at h; subst h; simp [Addr.add]
  | 1, h => simp at h; subst h; simp [Addr.add]
  | 2, h => simp at h; subst h; simp [Addr.add]
  | n + 3, h => simp at h

set_option maxHeartbeats 4000000 in
theorem appendSeq_any (bx r : Nat) (M : Int → Option R3) (w : World) (hM : RM w r M) (hbx : w.heap[bx]? = some (.cells #[.map (some r)] 108 (0, 0))) :
    Calls Try.prog 112 #[.slice none 0 0, .func (.func 110) #[] #[.pointer (some ⟨bx, 0, none⟩)]] w fun e w' =>
      ∃ v, e = .returned v ∧ w'.ownsRow w.heap.size 52 3 v (upTo M 5).length (vals (fl (upTo M 5))) ∧ Below w.heap.size w w' := by
  obtain ⟨i0, hi, hz0, hz1, hz2⟩ := info_parts infoReady
  refine (callsIn_wide (n := 3)).1 ?_
  refine callsIn_of_wp_marks Try.func112 rfl trivial ?_ rfl
  simp only [Try.ntmps112, List.size_toArray, List.length_cons, List.length_nil, Nat.reduceAdd, Nat.reduceSub, Array.replicate_succ, Array.replicate_zero, List.push_toArray, List.append_toArray, List.nil_append, List.cons_append]
  gi_wp2
  have bO := Boxed.new w 41 (.slice none 0 0)
  have hB0 : Below w.heap.size w (w.alloc (.cells #[.slice none 0 0] 41)) := (Below.refl _ w).alloc (Nat.le_refl _) _
  have hsz : (w.alloc (.cells #[.slice none 0 0] 41)).heap.size = w.heap.size + 1 := by simp
  obtain ⟨W0, hW0⟩ : ∃ W0, w.alloc (.cells #[.slice none 0 0] 41) = W0 := ⟨_, rfl⟩
  rw [hW0] at bO hB0 hsz ⊢
  clear hW0
  have HSZ := Lib.hid hsz
  have hr := hM.lt
  have hbl := (Array.getElem?_eq_some_iff.1 hbx).1
  refine wpIn_rangeFunc_ownH rfl (by omega) (gf := 110) (lb := #[.pointer (some ⟨bx, 0, none⟩)]) rfl trivial (enters_of Try.func110 (by kernel_rfl) rfl)
    (rising_stops _ (by omega) bx r w.heap.size M hr W0 (by omega) ((hB0.block bx hbl).trans hbx) (hM.keepAll (hB0.block r hr))) (fun h k => h.trans k) (kpI_b (by omega) (by omega)) (Below.refl _ _) (fun _ => rfl)
    (fun pre W => (∃ v, Boxed W w.heap.size 41 v ∧ W.ownsRow w.heap.size 52 3 v pre.length (vals (fl pre)) ∧ True) ∧ Below w.heap.size w W ∧ w.heap.size + 1 ≤ W.heap.size)
    (fun _ _ _ => False)
    (OwnFrom.and (Own.from (holdsRow_own w.heap.size w.heap.size 41 52 3 (fun pre : List R3 => pre.length) (fun pre => vals (fl pre)) (fun _ _ => True)) _) (OwnFrom.and (ownFrom_below (Nat.le_refl _) (by omega)) (fun _ _ _ _ hs hg _ => Nat.le_trans hs hg.size)))
    (fun _ _ _ _ _ hs _ _ => hs)
    ⟨⟨_, bO, World.ownsRow_nil _ _ _ _, trivial⟩, hB0, by omega⟩
    (fun x a' W => ∃ Bx, w.heap.size < Bx ∧ W.heap[Bx]? = some (.cells (r3c x) 52 (0, 0)) ∧ a' = { tmps := #[.slice none 0 0, .func (.func 110) #[] #[.pointer (some ⟨bx, 0, none⟩)], .pointer (some ⟨w.heap.size, 0, none⟩), undef, .slice none 0 0, .pointer (some ⟨Bx, 0, none⟩), .func (.func 110) #[] #[.pointer (some ⟨bx, 0, none⟩)], rv x, undef, undef, undef, undef, undef], defers := [] })
    (fun x a' s X Y row hs hg hr => by obtain ⟨Bx, h1, h2, h3⟩ := hs; exact ⟨Bx, h1, block_own W0.heap.size Bx (fun (_ : Unit) => .cells (r3c x) 52 (0, 0)) (fun _ => rfl) () X Y row h2 hg hr, h3⟩)
    ?assign ?body ?done ?stop
  case assign =>
    rintro l pre x W K ⟨⟨v, hv, hrow, -⟩, hB1, hz⟩ hK
    have hK' := Lib.hid hK
    unfold rv
    gi_wp2
    exact hK'.out _ _ ((KeepsOthers.alloc _ _).from _) ⟨(Below.refl _ W).alloc (by omega) _, Below.heap_alloc _ _ _ (by omega)⟩ ⟨⟨v, hv.alloc _, hrow.alloc _, trivial⟩, hB1.alloc (by omega) _, by simp; omega⟩ ⟨W.heap.size, by omega, heap_alloc_new _ _, rfl⟩
  case body =>
    rintro l pre x a' W hl ⟨r', hr'⟩ ⟨⟨v, hv, hrow, -⟩, hB1, hz⟩ ⟨Bx, hBx, eX, rfl⟩ hlt
    obtain ⟨x0, x1, x2⟩ := x
    have hlen : pre.length < 5 := Nat.lt_of_lt_of_le hlt (upTo_len M 5)
    have HB := Lib.hid hB1; have HZ := Lib.hid hz; have HL := Lib.hid hlen
    have hc := hv.cell
    unfold r3c at eX
    have c0 := cell_of_row W _ 0 _ _ _ eX; have c1 := cell_of_row W _ 1 _ _ _ eX; have c2 := cell_of_row W _ 2 _ _ _ eX
    simp at c0 c1 c2
    clear eX hB1 hz hlen hlt hsz
    gi_wp2_with (gi_at_builtin; refine wpListIn_append_own _ rfl _ _ 41 rfl w.heap.size 52 i0 _ 3 24 Try.underlying41 hi hz0 hz1 hz2 rfl (by decide) _ _ _ rfl (hrow.alloc _) ⟨W.heap.size, 0, none⟩ 1 1 [.int .i64 x0, .int .i64 x1, .int .i64 x2] rfl rfl (cell_three_new _ _ _ _ _) (by simp [Value.oneCell']) (by have := HL.out; simp [maxLen]; omega) (by have := HL.out; omega) (by have := HB.out.size; simp; omega) ?_; intro v' w1 hown' hgrow _; obtain ⟨g', cap', rfl⟩ := ownsRow_succ hown'; obtain ⟨hv1, hv2, hr2, hk2, hb2⟩ := hv.appended (by decide) hrow HB.out.size (Nat.le_refl _) hown' hgrow; have hc1 := hv1.cell; have hf1 := hv1.frozen)
    exact ⟨hk2.from _, ⟨hb2, hb2.block bx hbl⟩, ⟨_, hv2, by simpa [fl_snoc, vals] using hr2, trivial⟩, HB.out.trans hb2, Nat.le_trans HZ.out hb2.size⟩
  case done =>
    rintro D ys W hD rfl ⟨⟨v, hv, hrow, -⟩, hB1, hz⟩ hK
    have hc := hv.cell
    have HK := Lib.hid hK; have HD := Lib.hid hD
    clear hsz
    gi_wp2
    refine ⟨by simp, .inl ⟨_, _, rfl, run_takeDeferred HK.out, ?_⟩⟩
    exact ⟨_, results_tmp rfl _ _ _, _, rfl, ownsRow_putObj hrow _ HK.out rfl, hB1.trans (belowK_b (w := w) (Nat.le_refl _) W D _ _ (by have := HD.out; have := HSZ.out; omega) HK.out rfl rfl)⟩
  case stop =>
    rintro D c pre W _ _ h _
    exact h.elim

theorem collect_any (bx r : Nat) (M : Int → Option R3) (w : World) (hM : RM w r M) (hbx : w.heap[bx]? = some (.cells #[.map (some r)] 108 (0, 0))) :
    Calls Try.prog 109 #[.func (.func 110) #[] #[.pointer (some ⟨bx, 0, none⟩)]] w fun e w' =>
      ∃ v, e = .returned v ∧ w'.ownsRow w.heap.size 52 3 v (upTo M 5).length (vals (fl (upTo M 5))) ∧ Below w.heap.size w w' := by
  have AS := Lib.hid (appendSeq_any bx r M w hM hbx)
  clear hM hbx
  go_enter Try.func109, Try.ntmps109
  go_wp2_with fail
  refine AS.out.mono ?_
  rintro e w' ⟨v, rfl, ho, hb⟩
  have HO := Lib.hid ho; have HB := Lib.hid hb
  clear ho hb AS
  go_wp2
  go_ret
  exact ⟨_, rfl, HO.out, HB.out⟩

end Go.Proofs.Ytckapndpefkcgaa
