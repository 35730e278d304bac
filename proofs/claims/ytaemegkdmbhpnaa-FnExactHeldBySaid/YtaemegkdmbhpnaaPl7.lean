/-
  The law's helpers on lists of plans: size, copy, compare. No conditions beyond that the lists can be read.
-/
import Derived.Test.YtaemegkdmbhpnaaKit7
namespace Go.Proofs.Ytaemegkdmbhpnaa
open Go.RowKit
set_option maxRecDepth 100000

/-- the cells of a list of plans: tickets and a slice of ops each -/
def pc7 (t : Nat → Int) (B : Nat → Option Addr) (m d : Nat → Nat) (j : Nat) : Value := if j % 2 = 0 then .int .i64 (t (j / 2)) else .slice (B (j / 2)) (m (j / 2)) (d (j / 2))
theorem pc7_0 (t : Nat → Int) (B : Nat → Option Addr) (m d : Nat → Nat) (i : Nat) : pc7 t B m d (i * 2) = .int .i64 (t i) := by
  unfold pc7
  rw [if_pos (by omega), show i * 2 / 2 = i by omega]
theorem pc7_1 (t : Nat → Int) (B : Nat → Option Addr) (m d : Nat → Nat) (i : Nat) : pc7 t B m d (i * 2 + 1) = .slice (B i) (m i) (d i) := by
  unfold pc7
  rw [if_neg (by omega), show (i * 2 + 1) / 2 = i by omega]
/-- a list of plans that can be read -/
structure PL (W : World) (lo hi : Nat) (A : Option Addr) (n : Nat) (t : Nat → Int) (B : Nat → Option Addr) (m d : Nat → Nat) (x : Nat → Nat → Int) : Prop where
  row : Sl W lo hi A (n * 2) (pc7 t B m d)
  ops : ∀ i, i < n → Sl W lo hi (B i) (m i * 3) (fun k => .int .i64 (x i k))
section
variable {W W' : World} {lo hi n : Nat} {A : Option Addr} {t : Nat → Int} {B : Nat → Option Addr} {m d : Nat → Nat} {x : Nat → Nat → Int}
theorem PL.below (h : PL W lo hi A n t B m d x) {b : Nat} (hb : Below b W W') (hB : hi ≤ b) : PL W' lo hi A n t B m d x := ⟨h.row.below hb hB, fun i hi => (h.ops i hi).below hb hB⟩
theorem PL.wide (h : PL W lo hi A n t B m d x) {lo' hi' : Nat} (h1 : lo' ≤ lo) (h2 : hi ≤ hi') : PL W lo' hi' A n t B m d x := ⟨h.row.wide h1 h2, fun i hi => (h.ops i hi).wide h1 h2⟩
theorem PL.lt (h : PL W lo hi A n t B m d x) : PL W lo (min hi W.heap.size) A n t B m d x := ⟨h.row.lt, fun i hi => (h.ops i hi).lt⟩
/-- the two cells of one plan, in a later world -/
theorem PL.at_ (h : PL W lo hi A n t B m d x) {k : Nat} (hk : k < n) : ∃ b off, A = some ⟨b, off, none⟩ ∧ lo ≤ b ∧ b < hi ∧ ∀ i, i < n → W.cell? ⟨b, off + i * 2, none⟩ = some (.int .i64 (t i)) ∧ W.cell? ⟨b, off + i * 2 + 1, none⟩ = some (.slice (B i) (m i) (d i)) := by
  obtain ⟨b, off, e, h1, h2, hc⟩ := h.row.at_ (show k * 2 < n * 2 by omega)
  refine ⟨b, off, e, h1, h2, fun i hi => ⟨?_, ?_⟩⟩
  · have := hc (i * 2) (by omega); rwa [pc7_0] at this
  · have := hc (i * 2 + 1) (by omega); rwa [pc7_1] at this
end

/-- a round of the sizes' loop -/
def SzR (w : World) (n : Nat) (m : Nat → Nat) (l i : Value) (wr : World) : Prop := ∃ (k : Nat) (L : Int), k ≤ n ∧ i = .int .i64 k ∧ l = .int .i64 L ∧ 0 ≤ L ∧ L ≤ 1048576 ∧ (∀ i, i < k → m i ≤ 1048576) ∧ Below w.heap.size w wr

/-- a plan's cell where none has been laid yet -/
def zc7 (j : Nat) : Value := if j % 2 = 0 then .int .i64 0 else .slice none 0 0
theorem Row.set2_7 {w : World} {g : Nat} {t : TypeId} {n i : Nat} {f : Nat → Value} (h : Row w g 0 t n f) (hi : i + 1 < n) (u0 u1 : Value) :
    Row ((w.setCell ⟨g, i, none⟩ u0).setCell ⟨g, i + 1, none⟩ u1) g 0 t n (fun k => (if k = i + 1 then u1 else (if k = i then u0 else f k))) := by
  have h0 := Row.set h (show i < n by omega) u0
  rw [Nat.zero_add] at h0
  have h1 := Row.set h0 (show i + 1 < n by omega) u1
  rw [Nat.zero_add] at h1
  exact h1
theorem pc7_next {N : Nat} (t : Nat → Int) (B : Nat → Option Addr) (m : Nat → Nat) (k u : Nat) : ∀ j, j < N → (if j = k * 2 + 1 then Value.slice (some ⟨u, 0, none⟩) (m k) (m k) else (if j = k * 2 then .int .i64 (t k) else (if j < k * 2 then pc7 t B m m j else zc7 j))) = (if j < (k + 1) * 2 then pc7 t (fun i => if i = k then some ⟨u, 0, none⟩ else B i) m m j else zc7 j) := by
  intro j _
  by_cases e1 : j = k * 2 + 1
  · subst e1
    rw [if_pos rfl, if_pos (by omega), pc7_1]
    simp
  rw [if_neg e1]
  by_cases e0 : j = k * 2
  · subst e0
    rw [if_pos rfl, if_pos (by omega), pc7_0]
  rw [if_neg e0]
  by_cases h : j < k * 2
  · rw [if_pos h, if_pos (by omega)]
    unfold pc7
    have hne : ¬ j / 2 = k := by omega
    by_cases h2 : j % 2 = 0
    · rw [if_pos h2, if_pos h2]
    · rw [if_neg h2, if_neg h2]
      simp [hne]
  · rw [if_neg h, if_neg (by omega)]

end Go.Proofs.Ytaemegkdmbhpnaa
