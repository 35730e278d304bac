/-
  A range over a function whose body always goes on, where the iterator may know what the rounds say of the world. No conditions beyond those.
-/
import Derived.Test.YtckapndpefkcgaaFirst5
set_option maxHeartbeats 1000000
namespace Go.Proofs.Ytckapndpefkcgaa
open Go.RowKit Go.Shelf
set_option maxRecDepth 100000

def Lies (d : Nat) (r : Loop) (W : World) : Prop := W.heap[d + 1]? = some (.loop r) ∧ W.heap[d]? = some (.deferred (some []))
theorem Lies.put {d : Nat} {r r' : Loop} {W : World} (h : Lies d r W) : Lies d r' (W.putObj (d + 1) (.loop r')) :=
  ⟨World.putObj_heap_same (Array.getElem?_eq_some_iff.1 h.1).1, (World.putObj_heap_other (by omega)).trans h.2⟩
theorem Lies.from {d : Nat} {r : Loop} {W W' : World} (h : Lies d r W) (k : KeepsFrom d W W') : Lies d r W' :=
  ⟨k.same _ _ (by omega) h.1 rfl, k.same _ _ (Nat.le_refl _) h.2 rfl⟩

theorem range_on {α : Type} {P : Program} {F : Fence} {n : Nat} {g : Operand} {ps : Array Tmp} {assign body : Code} {Q : Exit → Act → World → Prop} {a : Act} {w : World}
    (hro : F.round = none) (h1 : 1 ≤ n) {gf : Nat} {lb : Array Value} (hg : a.eval g = .func (.func gf) #[] lb) (hFg : F.fn gf) (eg : ∀ args w, (callFunc gf args).run P w = .ok (.enter gf args) w)
    {encs : α → Array Value} (hps : ∀ x, (encs x).size = ps.size) (I : List α → World → Prop) (ok : List α → α → Prop) (S : List α → Prop) (hI : OwnFrom w.heap.size I) (h0 : I [] w)
    (hseq : ∀ (l : Nat) (J : List α → World → Prop) (W : World), Below w.heap.size w W → AbidesFrom W.heap.size J → (∀ pre V, J pre V → I pre V) →
      (∀ pre x V, J pre V → ok pre x → YieldAt F (n - 1 - 1) P l (encs x) V fun e V' => e = .returned (.bool true) ∧ J (pre ++ [x]) V') → J [] W →
      CallsIn F (n - 1) P gf (#[.func (.yield l) #[] #[]] ++ lb) W fun e W' => (∃ v, e = .returned v) ∧ ∃ xs, S xs ∧ J xs W')
    (Ax : α → Act → World → Prop) (hAx : ∀ x a', OwnFrom w.heap.size (fun (_ : Unit) W => Ax x a' W))
    (hassign : ∀ (l : Nat) (pre : List α) (x : α) (W : World) (K : Act → World → Prop), I pre W → ok pre x → (∀ a' W', KeepsFrom w.heap.size W W' → I pre W' → Ax x a' W' → K a' W') →
      assign.wpIn (F.inRound l) (n - 1 - 1) P (Exit.then K (fun _ _ _ => False)) { tmps := (ps.zip (encs x)).foldl (fun t (p, v) => t.setIfInBounds p v) a.tmps, defers := [] } W)
    (hbody : ∀ (l : Nat) (pre : List α) (x : α) (a' : Act) (W : World), w.heap.size < l → I pre W → ok pre x → Ax x a' W →
      body.wpIn (F.inRound l) (n - 1 - 1) P (fun e _ W' => e = .normal ∧ KeepsFrom w.heap.size W W' ∧ I (pre ++ [x]) W') a' W)
    (hdone : ∀ (D : Nat) (xs : List α) (W : World), w.heap.size ≤ D → S xs → I xs W → W.heap[D]? = some (.deferred (some [])) → Q .normal { a with defers := { target := .collected D, args := #[] } :: a.defers } W) :
    (Code.rangeFunc g ps assign body).wpIn F n P Q a w := by
  refine wpIn_rangeFunc fun fn hfn => ?_
  rw [hro]
  obtain ⟨r0, hr0⟩ : ∃ r0 : Loop, r0 = { state := .ready, pending := none, fn, tmps := a.tmps, params := ps, assign, body, defers := w.heap.size } := ⟨_, rfl⟩
  obtain ⟨rb, hrb⟩ : ∃ rb : Loop, rb = { r0 with state := .busy } := ⟨_, rfl⟩
  obtain ⟨W1, hW1⟩ : ∃ W1, W1 = (w.alloc (.deferred (some []))).alloc (.loop r0) := ⟨_, rfl⟩
  have Z1 : W1.heap.size = w.heap.size + 2 := by rw [hW1]; simp
  have L1 : Lies w.heap.size r0 W1 := by rw [hW1]; exact ⟨heap_alloc2_new w _ _, heap_alloc2_old w _ _⟩
  have B1 : Below w.heap.size w W1 := by rw [hW1]; exact (below_new w _).alloc (by simp) _
  have I1 : I [] W1 := by rw [hW1]; exact hI.alloc _ (hI.alloc _ h0)
  have walk : ∀ {A B : World} {row : Option Nat}, A.grownBy B row → (∀ r, row = some r → W1.heap.size ≤ r ∧ ∃ o : Obj, A.heap[r]? = some o ∧ o.isWalk = true) → ∀ r, row = some r → w.heap.size ≤ r ∧ ∃ o : Obj, A.heap[r]? = some o ∧ o.isCells = false :=
    fun _ hr r e => by
      obtain ⟨h2, o, ho, hw⟩ := hr r e
      exact ⟨by omega, o, ho, Obj.not_cells_of_walk hw⟩
  refine ⟨w.heap.size + 1, [{ target := .collected w.heap.size, args := #[] }], W1, { target := .fn (.func gf) lb, args := #[.func (.yield (w.heap.size + 1)) #[] #[]] }, W1, gf,
    #[.func (.yield (w.heap.size + 1)) #[] #[]] ++ lb, W1, by rw [hW1, hr0]; exact run_enterLoop_outer _ _ _ _ _, by simp only [resolve, hg]; simp [go_sem], fun f' hf' => by simp [Target.leads] at hf'; subst hf'; exact hFg, by simp [invoke, go_sem, eg], fun _ => h1, ?_⟩
  refine (hseq (w.heap.size + 1) (fun pre W => I pre W ∧ Lies w.heap.size r0 W) W1 B1
    (fun s A B row hs hgr hr => ⟨hI s A B row hs.1 hgr (walk hgr hr), (grownBy_keeps hgr (fun r e => (hr r e).2) hs.2.1 rfl).trans hs.2.1, (grownBy_keeps hgr (fun r e => (hr r e).2) hs.2.2 rfl).trans hs.2.2⟩)
    (fun _ _ h => h.1) ?_ ⟨I1, L1⟩).mono ?_
  · rintro pre x V ⟨hi, hl⟩ hok
    have hy := run_yield (P := P) (args := encs x) hl.1 (by rw [hr0]; exact hps x)
    rw [hr0] at hy
    refine ⟨fn, _, assign, body, hy, roundIn_of_wpIn hfn (hassign _ pre x V _ hi hok fun a' Va hka hia hax => ?_)⟩
    have la := hl.from hka
    refine ⟨_, run_beginRound la.1 (by rw [hr0]), wpIn_mono (hbody _ pre x a' _ (Nat.lt_succ_self _) (hI.putObj _ hia (by omega) la.1 rfl) hok ((hAx x a').putObj (s := ()) _ hax (by omega) la.1 rfl)) ?_⟩
    rintro e a3 V3 ⟨rfl, hk3, hi3⟩
    have l3 := (la.put (r' := { r0 with state := .busy })).from hk3
    refine ⟨_, _, run_endRound none l3.1, rfl, hI.putObj _ hi3 (by omega) l3.1 rfl, ?_⟩
    have := l3.put (r' := r0)
    rw [hr0] at this ⊢
    exact this
  · rintro e W2 ⟨⟨v, rfl⟩, xs, hS, hi, hl⟩
    exact ⟨none, _, by have := run_endLoop (P := P) hl.1 (by rw [hr0]; simp); rw [hr0] at this; exact this, hdone _ xs _ (Nat.le_refl _) hS (hI.putObj _ hi (by omega) hl.1 rfl) ((World.putObj_heap_other (by omega)).trans hl.2)⟩

def nextOf (M : Int → Option R3) (pre : List R3) (x : R3) : Prop := ∃ k : Nat, k < 5 ∧ pre = upTo M k ∧ M (k : Int) = some x
set_option maxHeartbeats 1000000 in
theorem rising1_on (n : Nat) (hn : 1 ≤ n) (l bx r B : Nat) (M : Int → Option R3) (Mp : List R3 → Int → Option R3) (hMp : ∀ k : Nat, k < 5 → Mp (upTo M k) (k : Int) = M (k : Int)) (J : List R3 → World → Prop) (hJ : AbidesFrom B J)
    (hV : ∀ pre V, J pre V → V.heap[bx]? = some (.cells #[.map (some r)] 108 (0, 0)) ∧ RM V r (Mp pre))
    (hY : ∀ pre x V, J pre V → nextOf M pre x → YieldAt Fence.wide (n - 1) Try.prog l #[rv x] V fun e V' => e = .returned (.bool true) ∧ J (pre ++ [x]) V')
    (W : World) (h0 : J [] W) :
    CallsIn Fence.wide n Try.prog 110 #[.func (.yield l) #[] #[], .pointer (some ⟨bx, 0, none⟩)] W fun e W' => (∃ v, e = .returned v) ∧ ∃ ys, ys = upTo M 5 ∧ J ys W' := by
  refine callsIn_of_wp Try.func110 rfl trivial ?_ rfl
  simp only [Try.ntmps110, List.size_toArray, List.length_cons, List.length_nil, Nat.reduceAdd, Nat.reduceSub, Array.replicate_succ, Array.replicate_zero, List.push_toArray, List.append_toArray, List.nil_append, List.cons_append]
  gi_wp2
  gi_loopw [3] (fun p wr => ∃ k : Nat, k ≤ 5 ∧ p = .int .i64 (k : Int) ∧ J (upTo M k) wr)
    (fun p _ => 5 - (intOf p).toNat)
  case atStart =>
    exact ⟨0, by omega, rfl, h0⟩
  case round =>
    obtain ⟨k, hk, rfl, hj⟩ := hrel
    obtain ⟨hb, hm⟩ := hV _ _ hj
    have cb := cell_of_row wr _ 0 _ _ _ hb
    simp at cb
    by_cases hlt : k < 5
    · have MK := hMp k hlt
      cases hx : M (k : Int) with
      | none =>
        rw [hx] at MK
        obtain ⟨z, hz, -⟩ : ∃ z : Int, (zeroValue 52).run Try.prog wr = .ok (rv (z, z, z)) wr ∧ True := ⟨0, by kernel_rfl, trivial⟩
        have L := IM.miss hm Try.underlying108 Try.underlying2 (k : Int) (by rw [MK]; rfl) hz true
        simp only [rv, if_pos] at L
        have G := Lib.hid (World.grownBy_alloc wr (.cells #[.int .i64 z, .int .i64 z, .int .i64 z] 52) none)
        have hj' := hJ _ _ _ _ hj G.out (fun r e => by cases e)
        clear hz MK
        gi_wp2
        refine ⟨fun _ h => (by cases h), ?_⟩
        gi_wp2
        go_roundw
        case rel => exact ⟨k + 1, by omega, by go_num, by rw [upTo_none hx]; exact hj'⟩
        case measure => simp [intOf]; omega
      | some x =>
        rw [hx] at MK
        have L := IM.look hm Try.underlying108 Try.underlying2 (k : Int) (rv x) (by rw [MK]; rfl) true
        simp only [rv, if_pos] at L
        have G := Lib.hid (World.grownBy_alloc wr (.cells #[.int .i64 x.1, .int .i64 x.2.1, .int .i64 x.2.2] 52) none)
        have hj' := hJ _ _ _ _ hj G.out (fun r e => by cases e)
        obtain ⟨fn, tmps, assign, body, hy, hR⟩ := hY (upTo M k) x _ hj' ⟨k, hlt, rfl, hx⟩
        simp only [rv] at hy
        have HX := Lib.hid hx
        clear hx MK
        gi_wp2
        refine hR.mono ?_
        rintro e W3 ⟨rfl, hJ3⟩
        gi_wp2
        go_roundw
        case rel => exact ⟨k + 1, by omega, by go_num, by rw [upTo_some HX.out]; exact hJ3⟩
        case measure => simp [intOf]; omega
    · obtain rfl : k = 5 := by omega
      gi_wp2
      go_end0
      exact ⟨⟨_, rfl⟩, _, rfl, hj⟩

end Go.Proofs.Ytckapndpefkcgaa
