/-
  Plain words and lemmas for the proofs of this seat: slices that read as a function of the index, rows of the call's own, worlds that only grow. No conditions; no function of the program is named here.
-/
import Derived.WalkKit
import Derived.WalkSpells
import Derived.Deep.OwnRows
import Derived.Deep.QuietTactic
import Derived.BigQuiet
import Derived.Deep.LoopGhost
import Derived.Deep.Cut
import Derived.Handy
import Derived.Lib.Hide
import Derived.SizedLaws
import Derived.ProofKit
set_option maxHeartbeats 1000000
namespace Go.Proofs.YtckapndpefkcgaaDoor
open Go.RowKit

def Sl (w : World) (lo hi : Nat) (A : Option Addr) (n : Nat) (f : Nat → Value) : Prop :=
  ∀ k, k < n → ∃ b off, A = some ⟨b, off, none⟩ ∧ lo ≤ b ∧ b < hi ∧ w.cell? ⟨b, off + k, none⟩ = some (f k)

def Row (w : World) (g off : Nat) (t : TypeId) (n : Nat) (f : Nat → Value) : Prop :=
  ∃ cur : Array Value, w.heap[g]? = some (.cells cur t (0, 0)) ∧ ∀ k, k < n → cur[off + k]? = some (f k)

section
variable {w w' : World} {lo hi lo' hi' n g off : Nat} {A : Option Addr} {f f' : Nat → Value} {t : TypeId}

theorem Sl.at_ (h : Sl w lo hi A n f) {k : Nat} (hk : k < n) : ∃ b off, A = some ⟨b, off, none⟩ ∧ lo ≤ b ∧ b < hi ∧ ∀ j, j < n → w.cell? ⟨b, off + j, none⟩ = some (f j) := by
  obtain ⟨b, off, hA, h1, h2, _⟩ := h k hk
  refine ⟨b, off, hA, h1, h2, fun j hj => ?_⟩
  obtain ⟨b', off', hA', _, _, hc⟩ := h j hj
  rw [hA] at hA'
  injection hA' with hA'
  injection hA' with e1 e2
  subst e1 e2
  exact hc
theorem Sl.nil : Sl w lo hi A 0 f := fun _ h => absurd h (Nat.not_lt_zero _)
theorem Sl.congr (h : Sl w lo hi A n f) (e : ∀ k, k < n → f k = f' k) : Sl w lo hi A n f' := fun k hk => by
  obtain ⟨b, off, hA, h1, h2, hc⟩ := h k hk
  exact ⟨b, off, hA, h1, h2, by rw [hc, e k hk]⟩
theorem Sl.keep (h : Sl w lo hi A n f) (hw : ∀ b, lo ≤ b → b < hi → w'.heap[b]? = w.heap[b]?) : Sl w' lo hi A n f := fun k hk => by
  obtain ⟨b, off, hA, h1, h2, hc⟩ := h k hk
  exact ⟨b, off, hA, h1, h2, (World.cell?_of_block (hw b h1 h2)).trans hc⟩
theorem Sl.below (h : Sl w lo hi A n f) {B : Nat} (hb : Below B w w') (hB : hi ≤ B) : Sl w' lo hi A n f := h.keep fun b _ h2 => hb.block b (by omega)
theorem Sl.take (h : Sl w lo hi A n f) {m : Nat} (hm : m ≤ n) : Sl w lo hi A m f := fun k hk => h k (by omega)
theorem Sl.lt (h : Sl w lo hi A n f) : Sl w lo (min hi w.heap.size) A n f := fun k hk => by
  obtain ⟨b, off, hA, h1, h2, hc⟩ := h k hk
  have := World.block_lt_of_cell? _ _ hc
  simp at this
  exact ⟨b, off, hA, h1, by omega, hc⟩

theorem Row.lt (h : Row w g off t n f) : g < w.heap.size := by
  obtain ⟨cur, hh, _⟩ := h
  exact (Array.getElem?_eq_some_iff.1 hh).1
theorem Row.cell (h : Row w g off t n f) {k : Nat} (hk : k < n) : w.cell? ⟨g, off + k, none⟩ = some (f k) := by
  obtain ⟨cur, hh, hc⟩ := h
  rw [cell_of_row w g (off + k) cur t (0, 0) hh, hc k hk]
theorem Row.frozen (h : Row w g off t n f) (i : Nat) : w.frozen? ⟨g, i, none⟩ = false := by
  obtain ⟨cur, hh, _⟩ := h
  simp [World.frozen?, hh]
theorem Row.sl (h : Row w g off t n f) (hlo : lo ≤ g) (hhi : g < hi) : Sl w lo hi (some ⟨g, off, none⟩) n f := fun _ hk => ⟨g, off, rfl, hlo, hhi, h.cell hk⟩
theorem Row.keep (h : Row w g off t n f) (hw : w'.heap[g]? = w.heap[g]?) : Row w' g off t n f := by
  obtain ⟨cur, hh, hc⟩ := h
  exact ⟨cur, hw.trans hh, hc⟩
theorem Row.below (h : Row w g off t n f) {B : Nat} (hb : Below B w w') (hB : g < B) : Row w' g off t n f := h.keep (hb.block g hB)
theorem Row.congr (h : Row w g off t n f) (e : ∀ k, k < n → f k = f' k) : Row w g off t n f' := by
  obtain ⟨cur, hh, hc⟩ := h
  exact ⟨cur, hh, fun k hk => by rw [hc k hk, e k hk]⟩
theorem Row.set (h : Row w g off t n f) {i : Nat} (hi : i < n) (u : Value) : Row (w.setCell ⟨g, off + i, none⟩ u) g off t n (fun k => if k = i then u else f k) := by
  obtain ⟨cur, hh, hc⟩ := h
  refine ⟨cur.setIfInBounds (off + i) u, by simp [World.setCell, Array.getElem?_modify, hh], fun k hk => ?_⟩
  rw [Array.getElem?_setIfInBounds]
  by_cases e : k = i
  · subst e
    have := (Array.getElem?_eq_some_iff.1 (hc k hk)).1
    simp [this]
  · rw [if_neg (by omega)]
    show cur[off + k]? = some (if k = i then u else f k)
    rw [if_neg e]
    exact hc k hk
theorem Row.alloc (h : Row w g off t n f) (o : Obj) : Row (w.alloc o) g off t n f := h.keep (Below.heap_alloc w o g h.lt)
theorem Row.drew (h : Row w g off t n f) : Row w.drew g off t n f := h
theorem Row.drewN (h : Row w g off t n f) (m : Nat) : Row (w.drewN m) g off t n f := h
theorem below_drewN {B : Nat} {a w : World} (h : Below B a w) (n : Nat) : Below B a (w.drewN n) := ⟨h.os, h.tape, h.output, h.size, h.block⟩
end

def Mine (w : World) (lo hi : Nat) (t : TypeId) (A : Option Addr) (n : Nat) (f : Nat → Value) : Prop :=
  n = 0 ∨ ∃ g off, A = some ⟨g, off, none⟩ ∧ lo ≤ g ∧ g < hi ∧ Row w g off t n f

section
variable {w w' : World} {lo hi lo' hi' n : Nat} {A : Option Addr} {f f' : Nat → Value} {t : TypeId}
theorem Mine.sl (h : Mine w lo hi t A n f) : Sl w lo hi A n f := by
  rcases h with rfl | ⟨g, off, rfl, h1, h2, hr⟩
  · exact Sl.nil
  · exact hr.sl h1 h2
theorem Mine.keep (h : Mine w lo hi t A n f) (hw : ∀ b, lo ≤ b → b < hi → w'.heap[b]? = w.heap[b]?) : Mine w' lo hi t A n f := by
  rcases h with h | ⟨g, off, hA, h1, h2, hr⟩
  · exact .inl h
  · exact .inr ⟨g, off, hA, h1, h2, hr.keep (hw g h1 h2)⟩
theorem Mine.below (h : Mine w lo hi t A n f) {B : Nat} (hb : Below B w w') (hB : hi ≤ B) : Mine w' lo hi t A n f := h.keep fun b _ h2 => hb.block b (by omega)
theorem Mine.congr (h : Mine w lo hi t A n f) (e : ∀ k, k < n → f k = f' k) : Mine w lo hi t A n f' := by
  rcases h with h | ⟨g, off, hA, h1, h2, hr⟩
  · exact .inl h
  · exact .inr ⟨g, off, hA, h1, h2, hr.congr e⟩
end

theorem frozen_new (w : World) (cs : Array Value) (t : TypeId) (i : Nat) : (w.alloc (.cells cs t)).frozen? ⟨w.heap.size, i, none⟩ = false := frozen_of_row _ _ i _ t (heap_alloc_new w _)
theorem below_new (w : World) (o : Obj) : Below w.heap.size w (w.alloc o) := (Below.refl _ _).alloc (Nat.le_refl _) o

theorem own_base {w : World} {base : Nat} {e : TypeId} {v : Value} {n size : Nat} {xs : List Value} (h : w.ownsRow base e size v n xs) : ∀ k, v.ownBlock = some k → base ≤ k := by
  intro k hk
  rcases h.2 with ⟨rfl, _⟩ | ⟨g, cap, cur, rfl, hg, _⟩
  · cases hk
  · have : some g = some k := hk
    injection this with e
    omega
theorem mine_of_own {w : World} {base : Nat} {e : TypeId} {v : Value} {n : Nat} {xs : List Value} (h : w.ownsRow base e 1 v n xs) :
    ∃ A c, v = .slice A n c ∧ n ≤ c ∧ (A = none → c = 0) ∧ Mine w base w.heap.size e A n (fun k => xs.getD k undef) := by
  obtain ⟨hl, h⟩ := h
  rcases h with ⟨rfl, rfl⟩ | ⟨g, cap, cur, rfl, hg, hh, hn, _, hs, ht⟩
  · exact ⟨none, 0, rfl, Nat.le_refl _, fun _ => rfl, .inl rfl⟩
  · refine ⟨_, cap, rfl, hn, fun h => by simp at h, .inr ⟨g, 0, rfl, hg, (Array.getElem?_eq_some_iff.1 hh).1, cur, hh, fun k hk => ?_⟩⟩
    have e1 : xs[k]? = cur.toList[k]? := by
      rw [← ht, List.getElem?_take, if_pos (by omega)]
    have hk' : k < xs.length := by omega
    rw [Nat.zero_add]
    have e2 : cur[k]? = cur.toList[k]? := by simp
    rw [e2, ← e1, List.getElem?_eq_getElem hk']
    simp [List.getD_eq_getElem?_getD, List.getElem?_eq_getElem hk']

def Only (lo hi : Nat) (w w' : World) : Prop := Below lo w w' ∧ ∀ b, hi ≤ b → b < w.heap.size → w'.heap[b]? = w.heap[b]?
theorem Only.refl (lo hi : Nat) (w : World) : Only lo hi w w := ⟨Below.refl _ _, fun _ _ _ => rfl⟩
theorem Only.setCell {lo hi : Nat} {w w' : World} (h : Only lo hi w w') {p : Addr} (h1 : lo ≤ p.block) (h2 : p.block < hi) (u : Value) : Only lo hi w (w'.setCell p u) :=
  ⟨h.1.setCell h1 u, fun b hb hs => (Below.heap_setCell w' p u b (by omega)).trans (h.2 b hb hs)⟩
theorem Only.of_below {lo hi : Nat} {w w' : World} (h : Below w.heap.size w w') (hlo : lo ≤ w.heap.size) : Only lo hi w w' := ⟨h.mono hlo, fun b _ hs => h.block b hs⟩
theorem Only.trans {lo hi : Nat} {a b c : World} (h : Only lo hi a b) (k : Only lo hi b c) : Only lo hi a c :=
  ⟨h.1.trans k.1, fun i hi hs => (k.2 i hi (Nat.lt_of_lt_of_le hs h.1.size)).trans (h.2 i hi hs)⟩
theorem Only.block {lo hi b : Nat} {w w' : World} (h : Only lo hi w w') (hs : b < w.heap.size) (hb : b < lo ∨ hi ≤ b) : w'.heap[b]? = w.heap[b]? := by
  rcases hb with hb | hb
  · exact h.1.block b hb
  · exact h.2 b hb hs
theorem Sl.only {w w' : World} {lo hi lo' hi' n : Nat} {A : Option Addr} {f : Nat → Value} (h : Sl w lo hi A n f) (ho : Only lo' hi' w w') (hs : hi ≤ w.heap.size) (hd : hi ≤ lo' ∨ hi' ≤ lo) : Sl w' lo hi A n f :=
  h.keep fun b h1 h2 => ho.block (by omega) (by omega)
theorem Mine.only {w w' : World} {lo hi lo' hi' n : Nat} {A : Option Addr} {f : Nat → Value} {t : TypeId} (h : Mine w lo hi t A n f) (ho : Only lo' hi' w w') (hs : hi ≤ w.heap.size) (hd : hi ≤ lo' ∨ hi' ≤ lo) : Mine w' lo hi t A n f :=
  h.keep fun b h1 h2 => ho.block (by omega) (by omega)

end Go.Proofs.YtckapndpefkcgaaDoor
