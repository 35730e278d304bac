/-
  Plain words and lemmas for the proofs of this seat: slices that read as a function of the index, rows of the call's own, worlds that only grow. No conditions; no function of the program is named here.
-/
import Derived.WalkKit
import Derived.WalkSpells
import Derived.Deep.OwnRows
import Derived.Deep.QuietTactic
import Derived.BigQuiet
import Derived.Deep.LoopGhost
import Derived.Deep.Cut
import Derived.Handy
import Derived.Lib.Hide
import Derived.SizedLaws
import Derived.ProofKit
set_option maxHeartbeats 1000000
namespace Go.Proofs.Ytckapndpefkcgaa
open Go.RowKit

def gi (xs : List Int) (k : Nat) : Int := xs.getD k 0
def iv (xs : List Int) (k : Nat) : Value := .int .i64 (gi xs k)

theorem gi_lt (xs : List Int) (k : Nat) (h : k < xs.length) : gi xs k = xs[k] := by unfold gi; simp [h]

def Sl (w : World) (lo hi : Nat) (A : Option Addr) (n : Nat) (f : Nat → Value) : Prop :=
  ∀ k, k < n → ∃ b off, A = some ⟨b, off, none⟩ ∧ lo ≤ b ∧ b < hi ∧ w.cell? ⟨b, off + k, none⟩ = some (f k)

def Row (w : World) (g off : Nat) (t : TypeId) (n : Nat) (f : Nat → Value) : Prop :=
  ∃ cur : Array Value, w.heap[g]? = some (.cells cur t (0, 0)) ∧ ∀ k, k < n → cur[off + k]? = some (f k)

section
variable {w w' : World} {lo hi lo' hi' n g off : Nat} {A : Option Addr} {f f' : Nat → Value} {t : TypeId}

theorem Sl.at_ (h : Sl w lo hi A n f) {k : Nat} (hk : k < n) : ∃ b off, A = some ⟨b, off, none⟩ ∧ lo ≤ b ∧ b < hi ∧ ∀ j, j < n → w.cell? ⟨b, off + j, none⟩ = some (f j) := by
  obtain ⟨b, off, hA, h1, h2, _⟩ := h k hk
  refine ⟨b, off, hA, h1, h2, fun j hj => ?_⟩
  obtain ⟨b', off', hA', _, _, hc⟩ := h j hj
  rw [hA] at hA'
  injection hA' with hA'
  injection hA' with e1 e2
  subst e1 e2
  exact hc
theorem Sl.nil : Sl w lo hi A 0 f := fun _ h => absurd h (Nat.not_lt_zero _)
theorem Sl.congr (h : Sl w lo hi A n f) (e : ∀ k, k < n → f k = f' k) : Sl w lo hi A n f' := fun k hk => by
  obtain ⟨b, off, hA, h1, h2, hc⟩ := h k hk
  exact ⟨b, off, hA, h1, h2, by rw [hc, e k hk]⟩
theorem Sl.keep (h : Sl w lo hi A n f) (hw : ∀ b, lo ≤ b → b < hi → w'.heap[b]? = w.heap[b]?) : Sl w' lo hi A n f := fun k hk => by
  obtain ⟨b, off, hA, h1, h2, hc⟩ := h k hk
  exact ⟨b, off, hA, h1, h2, (World.cell?_of_block (hw b h1 h2)).trans hc⟩
theorem Sl.below (h : Sl w lo hi A n f) {B : Nat} (hb : Below B w w') (hB : hi ≤ B) : Sl w' lo hi A n f := h.keep fun b _ h2 => hb.block b (by omega)
theorem Sl.wide (h : Sl w lo hi A n f) (h1 : lo' ≤ lo) (h2 : hi ≤ hi') : Sl w lo' hi' A n f := fun k hk => by
  obtain ⟨b, off, hA, a1, a2, hc⟩ := h k hk
  exact ⟨b, off, hA, by omega, by omega, hc⟩
theorem Sl.take (h : Sl w lo hi A n f) {m : Nat} (hm : m ≤ n) : Sl w lo hi A m f := fun k hk => h k (by omega)
theorem Sl.lt (h : Sl w lo hi A n f) : Sl w lo (min hi w.heap.size) A n f := fun k hk => by
  obtain ⟨b, off, hA, h1, h2, hc⟩ := h k hk
  have := World.block_lt_of_cell? _ _ hc
  simp at this
  exact ⟨b, off, hA, h1, by omega, hc⟩

theorem Row.lt (h : Row w g off t n f) : g < w.heap.size := by
  obtain ⟨cur, hh, _⟩ := h
  exact (Array.getElem?_eq_some_iff.1 hh).1
theorem Row.cell (h : Row w g off t n f) {k : Nat} (hk : k < n) : w.cell? ⟨g, off + k, none⟩ = some (f k) := by
  obtain ⟨cur, hh, hc⟩ := h
  rw [cell_of_row w g (off + k) cur t (0, 0) hh, hc k hk]
theorem Row.frozen (h : Row w g off t n f) (i : Nat) : w.frozen? ⟨g, i, none⟩ = false := by
  obtain ⟨cur, hh, _⟩ := h
  simp [World.frozen?, hh]
theorem Row.sl (h : Row w g off t n f) (hlo : lo ≤ g) (hhi : g < hi) : Sl w lo hi (some ⟨g, off, none⟩) n f := fun _ hk => ⟨g, off, rfl, hlo, hhi, h.cell hk⟩
theorem Row.keep (h : Row w g off t n f) (hw : w'.heap[g]? = w.heap[g]?) : Row w' g off t n f := by
  obtain ⟨cur, hh, hc⟩ := h
  exact ⟨cur, hw.trans hh, hc⟩
theorem Row.below (h : Row w g off t n f) {B : Nat} (hb : Below B w w') (hB : g < B) : Row w' g off t n f := h.keep (hb.block g hB)
theorem Row.congr (h : Row w g off t n f) (e : ∀ k, k < n → f k = f' k) : Row w g off t n f' := by
  obtain ⟨cur, hh, hc⟩ := h
  exact ⟨cur, hh, fun k hk => by rw [hc k hk, e k hk]⟩
theorem Row.set (h : Row w g off t n f) {i : Nat} (hi : i < n) (u : Value) : Row (w.setCell ⟨g, off + i, none⟩ u) g off t n (fun k => if k = i then u else f k) := by
  obtain ⟨cur, hh, hc⟩ := h
  refine ⟨cur.setIfInBounds (off + i) u, by simp [World.setCell, Array.getElem?_modify, hh], fun k hk => ?_⟩
  rw [Array.getElem?_setIfInBounds]
  by_cases e : k = i
  · subst e
    have := (Array.getElem?_eq_some_iff.1 (hc k hk)).1
    simp [this]
  · rw [if_neg (by omega)]
    show cur[off + k]? = some (if k = i then u else f k)
    rw [if_neg e]
    exact hc k hk
theorem Row.far (h : Row w g off t n f) {p : Addr} (hp : g ≠ p.block) (u : Value) : Row (w.setCell p u) g off t n f := h.keep (Below.heap_setCell w p u g hp)
theorem Row.alloc (h : Row w g off t n f) (o : Obj) : Row (w.alloc o) g off t n f := h.keep (Below.heap_alloc w o g h.lt)
theorem Row.drew (h : Row w g off t n f) : Row w.drew g off t n f := h
theorem Row.drewN (h : Row w g off t n f) (m : Nat) : Row (w.drewN m) g off t n f := h
theorem Row.new (w : World) (cur : Array Value) (t : TypeId) (f : Nat → Value) (n : Nat) (hc : ∀ k, k < n → cur[k]? = some (f k)) : Row (w.alloc (.cells cur t)) w.heap.size 0 t n f :=
  ⟨cur, heap_alloc_new w _, fun k hk => by rw [Nat.zero_add]; exact hc k hk⟩
theorem Row.made (w : World) (z : Value) (n : Nat) (t : TypeId) : Row (w.alloc (.cells (madeCells #[z] n) t)) w.heap.size 0 t n (fun _ => z) :=
  Row.new w _ t _ n fun k hk => by simp [madeCells, hk, Nat.mod_one]
theorem below_drewN {B : Nat} {a w : World} (h : Below B a w) (n : Nat) : Below B a (w.drewN n) := ⟨h.os, h.tape, h.output, h.size, h.block⟩
end

def Mine (w : World) (lo hi : Nat) (t : TypeId) (A : Option Addr) (n : Nat) (f : Nat → Value) : Prop :=
  n = 0 ∨ ∃ g off, A = some ⟨g, off, none⟩ ∧ lo ≤ g ∧ g < hi ∧ Row w g off t n f

section
variable {w w' : World} {lo hi lo' hi' n : Nat} {A : Option Addr} {f f' : Nat → Value} {t : TypeId}
theorem Mine.sl (h : Mine w lo hi t A n f) : Sl w lo hi A n f := by
  rcases h with rfl | ⟨g, off, rfl, h1, h2, hr⟩
  · exact Sl.nil
  · exact hr.sl h1 h2
theorem Mine.keep (h : Mine w lo hi t A n f) (hw : ∀ b, lo ≤ b → b < hi → w'.heap[b]? = w.heap[b]?) : Mine w' lo hi t A n f := by
  rcases h with h | ⟨g, off, hA, h1, h2, hr⟩
  · exact .inl h
  · exact .inr ⟨g, off, hA, h1, h2, hr.keep (hw g h1 h2)⟩
theorem Mine.below (h : Mine w lo hi t A n f) {B : Nat} (hb : Below B w w') (hB : hi ≤ B) : Mine w' lo hi t A n f := h.keep fun b _ h2 => hb.block b (by omega)
theorem Mine.wide (h : Mine w lo hi t A n f) (h1 : lo' ≤ lo) (h2 : hi ≤ hi') : Mine w lo' hi' t A n f := by
  rcases h with h | ⟨g, off, hA, a1, a2, hr⟩
  · exact .inl h
  · exact .inr ⟨g, off, hA, by omega, by omega, hr⟩
theorem Mine.congr (h : Mine w lo hi t A n f) (e : ∀ k, k < n → f k = f' k) : Mine w lo hi t A n f' := by
  rcases h with h | ⟨g, off, hA, h1, h2, hr⟩
  · exact .inl h
  · exact .inr ⟨g, off, hA, h1, h2, hr.congr e⟩
end

theorem Mine.far {w : World} {lo hi n : Nat} {A : Option Addr} {f : Nat → Value} {t : TypeId} (h : Mine w lo hi t A n f) {p : Addr} (hp : p.block < lo) (u : Value) : Mine (w.setCell p u) lo hi t A n f :=
  h.keep fun b h1 _ => Below.heap_setCell w p u b (by omega)
theorem below_new (w : World) (o : Obj) : Below w.heap.size w (w.alloc o) := (Below.refl _ _).alloc (Nat.le_refl _) o

theorem blk2_set {w : World} {g : Nat} {a b : Value} {t : TypeId} (h : w.heap[g]? = some (.cells #[a, b] t (0, 0))) (a' b' : Value) :
    ((w.setCell ⟨g, 0, none⟩ a').setCell ⟨g, 1, none⟩ b').heap[g]? = some (.cells #[a', b'] t (0, 0)) :=
  heap_setCell_same _ g 1 _ t b' (heap_setCell_same w g 0 _ t a' h)
theorem own_base {w : World} {base : Nat} {e : TypeId} {v : Value} {n size : Nat} {xs : List Value} (h : w.ownsRow base e size v n xs) : ∀ k, v.ownBlock = some k → base ≤ k := by
  intro k hk
  rcases h.2 with ⟨rfl, _⟩ | ⟨g, cap, cur, rfl, hg, _⟩
  · cases hk
  · have : some g = some k := hk
    injection this with e
    omega
def Only (lo hi : Nat) (w w' : World) : Prop := Below lo w w' ∧ ∀ b, hi ≤ b → b < w.heap.size → w'.heap[b]? = w.heap[b]?
theorem Only.refl (lo hi : Nat) (w : World) : Only lo hi w w := ⟨Below.refl _ _, fun _ _ _ => rfl⟩
theorem Only.setCell {lo hi : Nat} {w w' : World} (h : Only lo hi w w') {p : Addr} (h1 : lo ≤ p.block) (h2 : p.block < hi) (u : Value) : Only lo hi w (w'.setCell p u) :=
  ⟨h.1.setCell h1 u, fun b hb hs => (Below.heap_setCell w' p u b (by omega)).trans (h.2 b hb hs)⟩
theorem Only.trans {lo hi : Nat} {a b c : World} (h : Only lo hi a b) (k : Only lo hi b c) : Only lo hi a c :=
  ⟨h.1.trans k.1, fun i hi hs => (k.2 i hi (Nat.lt_of_lt_of_le hs h.1.size)).trans (h.2 i hi hs)⟩
theorem Only.block {lo hi b : Nat} {w w' : World} (h : Only lo hi w w') (hs : b < w.heap.size) (hb : b < lo ∨ hi ≤ b) : w'.heap[b]? = w.heap[b]? := by
  rcases hb with hb | hb
  · exact h.1.block b hb
  · exact h.2 b hb hs
theorem Sl.only {w w' : World} {lo hi lo' hi' n : Nat} {A : Option Addr} {f : Nat → Value} (h : Sl w lo hi A n f) (ho : Only lo' hi' w w') (hs : hi ≤ w.heap.size) (hd : hi ≤ lo' ∨ hi' ≤ lo) : Sl w' lo hi A n f :=
  h.keep fun b h1 h2 => ho.block (by omega) (by omega)
theorem Mine.only {w w' : World} {lo hi lo' hi' n : Nat} {A : Option Addr} {f : Nat → Value} {t : TypeId} (h : Mine w lo hi t A n f) (ho : Only lo' hi' w w') (hs : hi ≤ w.heap.size) (hd : hi ≤ lo' ∨ hi' ≤ lo) : Mine w' lo hi t A n f :=
  h.keep fun b h1 h2 => ho.block (by omega) (by omega)

theorem same_lists {xs ys : List Int} {n : Nat} (ex : xs.length = n) (ey : ys.length = n) (h : ∀ j, j < n → gi xs j = gi ys j) : xs = ys := by
  apply List.ext_getElem (by omega)
  intro j h1 h2
  have := h j (by omega)
  rwa [gi_lt xs j h1, gi_lt ys j h2] at this

theorem upto_succ {p : Nat → Prop} {k : Nat} (h : ∀ j, j < k → p j) (hk : p k) : ∀ j, j < k + 1 → p j := fun j hj => by
  rcases Nat.lt_or_ge j k with h' | h'
  · exact h j h'
  · obtain rfl : j = k := by omega
    exact hk
theorem ret_true {p : Prop} [Decidable p] (h : p) : Ending.returned (.bool true) = .returned (.bool (decide p)) := by rw [decide_eq_true h]
theorem ret_false {p : Prop} [Decidable p] (h : ¬ p) : Ending.returned (.bool false) = .returned (.bool (decide p)) := by rw [decide_eq_false h]
theorem ret_bool {a b : Bool} (h : a = b) : Ending.returned (.bool a) = .returned (.bool b) := by rw [h]
theorem ret_i64 {a b : Int} (h : a = b) : Ending.returned (.int .i64 a) = .returned (.int .i64 b) := by rw [h]

end Go.Proofs.Ytckapndpefkcgaa
