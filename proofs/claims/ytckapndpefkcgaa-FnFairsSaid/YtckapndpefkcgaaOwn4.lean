/-
  Rows of a call's own whose content is a list of numbers, m for each element: read, written, grown, cut. No program is named here.
-/
import Derived.Laws.OwnMore
import Derived.Test.YtckapndpefkcgaaSpec1
import Derived.Test.YtckapndpefkcgaaBase3
set_option maxHeartbeats 1000000
namespace Go.Proofs.Ytckapndpefkcgaa
open Go.RowKit

def OR (t : TypeId) (m : Nat) (w : World) (base : Nat) (A : Option Addr) (n c : Nat) (hs : List Int) : Prop := w.ownsRow base t m (.slice A n c) n (vals hs)
section
variable {t : TypeId} {m : Nat} {w w' : World} {base n c g : Nat} {A : Option Addr} {hs : List Int}
theorem OR.len (h : OR t m w base A n c hs) : hs.length = n * m := by
  have := h.1
  simpa [vals] using this
theorem OR.at_ (h : OR t m w base A n c hs) (hn : A ≠ none) : ∃ g, A = some ⟨g, 0, none⟩ ∧ base ≤ g ∧ g < w.heap.size := by
  rcases h.2 with ⟨h', _⟩ | ⟨g', cap', cur, h', hb, hg, _⟩
  · injection h' with h' _ _; exact absurd h' hn
  · injection h' with h' _ _
    exact ⟨g', h', hb, (Array.getElem?_eq_some_iff.1 hg).1⟩
theorem OR.pos (h : OR t m w base A n c hs) (hn : 0 < n) : ∃ g, A = some ⟨g, 0, none⟩ ∧ base ≤ g ∧ g < w.heap.size := by
  refine h.at_ fun e => ?_
  rcases h.2 with ⟨_, h0⟩ | ⟨g', cap', cur, h', _⟩
  · omega
  · injection h' with h' _ _; rw [e] at h'; cases h'
theorem OR.cap (h : OR t m w base A n c hs) : n ≤ c := by
  rcases h.2 with ⟨h', h0⟩ | ⟨g', cap', cur, h', _, _, hn, _⟩
  · omega
  · injection h' with _ _ h'; omega
theorem OR.cell (h : OR t m w base (some ⟨g, 0, none⟩) n c hs) {j : Nat} (hj : j < n * m) : w.cell? ⟨g, j, none⟩ = some (.int .i64 (gi hs j)) := by
  have h1 := World.ownsRow.cellAt h j hj
  rw [vals_get hs j (by rw [h.len]; exact hj)] at h1
  exact h1
theorem OR.frozen (h : OR t m w base (some ⟨g, 0, none⟩) n c hs) (j : Nat) : w.frozen? ⟨g, j, none⟩ = false := World.ownsRow.frozenAt h j
theorem OR.set (h : OR t m w base (some ⟨g, 0, none⟩) n c hs) (j : Nat) (v : Int) : OR t m (w.setCell ⟨g, j, none⟩ (.int .i64 v)) base (some ⟨g, 0, none⟩) n c (hs.set j v) := by
  have h1 := (World.ownsRow.stored h j (.int .i64 v)).1
  unfold OR
  rw [show vals (hs.set j v) = (vals hs).set j (.int .i64 v) by simp [vals, List.map_set]]
  exact h1
theorem OR.keepAll (h : OR t m w base A n c hs) (hw : ∀ g, A = some ⟨g, 0, none⟩ → w'.heap[g]? = w.heap[g]?) : OR t m w' base A n c hs := by
  refine ⟨h.1, ?_⟩
  rcases h.2 with h' | ⟨g', cap', cur, h', hb, hg, rest⟩
  · exact .inl h'
  · refine .inr ⟨g', cap', cur, h', hb, ?_, rest⟩
    injection h' with h' _ _
    exact (hw g' h').trans hg
theorem OR.lt (h : OR t m w base (some ⟨g, 0, none⟩) n c hs) : base ≤ g ∧ g < w.heap.size := by
  obtain ⟨g', e, h1, h2⟩ := h.at_ (by simp)
  injection e with e
  injection e with e
  subst e
  exact ⟨h1, h2⟩
theorem OR.below (h : OR t m w base A n c hs) {B : Nat} (hb : Below B w w') (hB : w.heap.size ≤ B) : OR t m w' base A n c hs :=
  h.keepAll fun g e => by
    subst e
    exact hb.block g (by have := h.lt; omega)
theorem OR.kept (h : OR t m w base A n c hs) {gs : List Nat} (k : Kept gs w w') (hg : ∀ g, A = some ⟨g, 0, none⟩ → g ∉ gs) : OR t m w' base A n c hs :=
  h.keepAll fun g e => by
    have := hg g e
    subst e
    exact k.2 g h.lt.2 this
theorem OR.mono (h : OR t m w base A n c hs) {base' : Nat} (hb : base' ≤ base) : OR t m w base' A n c hs := by
  refine ⟨h.1, ?_⟩
  rcases h.2 with h' | ⟨g', cap', cur, h', hb', rest⟩
  · exact .inl h'
  · exact .inr ⟨g', cap', cur, h', by omega, rest⟩
theorem OR.high (h : OR t m w base (some ⟨g, 0, none⟩) n c hs) : OR t m w g (some ⟨g, 0, none⟩) n c hs := by
  refine ⟨h.1, ?_⟩
  rcases h.2 with ⟨h', _⟩ | ⟨g', cap', cur, h', hb', rest⟩
  · cases h'
  · refine .inr ⟨g', cap', cur, h', ?_, rest⟩
    injection h' with h' _ _
    injection h' with h'
    injection h' with h'
    omega
theorem OR.row (h : OR t m w base (some ⟨g, 0, none⟩) n c hs) : Row w g 0 t (n * m) (fun k => .int .i64 (gi hs k)) := by
  rcases h.2 with ⟨h', _⟩ | ⟨g', cap', cur, h', hb', hg, _, _, _, ht⟩
  · cases h'
  · injection h' with h' _ _
    injection h' with h'
    injection h' with h'
    subst h'
    refine ⟨cur, hg, fun k hk => ?_⟩
    have h1 := vals_get hs k (by rw [h.len]; exact hk)
    rw [← ht, List.getElem?_take, if_pos hk] at h1
    simpa using h1
theorem OR.sl (h : OR t m w base A n c hs) (hm : 0 < n) : Sl w base w.heap.size A (n * m) (fun k => .int .i64 (gi hs k)) := by
  obtain ⟨g, rfl, h1, h2⟩ := h.pos hm
  exact h.row.sl h1 h2
theorem OR.sl0 (h : OR t m w base A n c hs) : Sl w base w.heap.size A (n * m) (fun k => .int .i64 (gi hs k)) := by
  rcases Nat.eq_zero_or_pos n with rfl | hn
  · intro k hk; omega
  · exact h.sl hn
theorem OR.void (w : World) (base : Nat) : OR t m w base none 0 0 [] := World.ownsRow_nil _ _ _ _
theorem OR.drewN (h : OR t m w base A n c hs) (k : Nat) : OR t m (w.drewN k) base A n c hs := h.keepAll fun _ _ => rfl
theorem OR.alloc (h : OR t m w base A n c hs) (o : Obj) : OR t m (w.alloc o) base A n c hs := World.ownsRow.alloc h o
end
theorem OR.empty {t : TypeId} {m : Nat} (w : World) {base : Nat} (hb : base ≤ w.heap.size) : OR t m (w.alloc (.cells #[] t)) base (some ⟨w.heap.size, 0, none⟩) 0 0 [] :=
  ⟨by simp [vals], .inr ⟨w.heap.size, 0, #[], rfl, hb, heap_alloc_new _ _, Nat.le_refl _, by simp [maxLen], by simp, by simp [vals]⟩⟩

end Go.Proofs.Ytckapndpefkcgaa
