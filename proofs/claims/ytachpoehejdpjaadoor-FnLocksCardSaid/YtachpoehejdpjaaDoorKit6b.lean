/-
  Two rows of an answer, each in a block of its own (or none, where it is empty); how long an answer's lists are. No conditions.
-/
import Derived.Test.YtachpoehejdpjaaDoorKit6
import Derived.Test.YtachpoehejdpjaaDoorAns6
namespace Go.Proofs.YtachpoehejdpjaaDoor
open Go.RowKit
set_option maxRecDepth 100000

theorem cell?_block6 {W W' : World} {b : Nat} (h : W'.heap[b]? = W.heap[b]?) (j : Nat) : W'.cell? ⟨b, j, none⟩ = W.cell? ⟨b, j, none⟩ := by simp [World.cell?, h]
theorem or_mine6 {w : World} {base u n c : Nat} {A : Option Addr} {hs : List Int} (h : OR 2 1 w base A n c hs) :
    ∃ g, ((g = u ∧ n = 0) ∨ (base ≤ g ∧ g < w.heap.size ∧ A = some ⟨g, 0, none⟩)) ∧ Mine w g (g + 1) 2 A n (fun k => .int .i64 (gi hs k)) := by
  rcases Nat.eq_zero_or_pos n with h0 | h0
  · exact ⟨u, .inl ⟨rfl, h0⟩, .inl h0⟩
  · obtain ⟨g, rfl, h1, h2⟩ := OR.pos h h0
    have hrow := OR.row h
    rw [Nat.mul_one] at hrow
    exact ⟨g, .inr ⟨h1, h2, rfl⟩, .inr ⟨g, 0, rfl, Nat.le_refl _, Nat.lt_succ_self _, hrow⟩⟩
/-- two rows that are apart: blocks; u and v stand in where a row is empty -/
theorem two_rows {w : World} {base u v n m c d : Nat} {A B : Option Addr} {hs ks : List Int} (h : OR 2 1 w base A n c hs) (k : OR 2 1 w base B m d ks) (ap : Apart A B) (hu : u < base) (hv : v < base) (huv : u ≠ v) :
    ∃ g g2, ((g = u ∧ n = 0) ∨ (base ≤ g ∧ g < w.heap.size)) ∧ ((g2 = v ∧ m = 0) ∨ (base ≤ g2 ∧ g2 < w.heap.size)) ∧ g ≠ g2 ∧ Mine w g (g + 1) 2 A n (fun k => .int .i64 (gi hs k)) ∧ Mine w g2 (g2 + 1) 2 B m (fun j => .int .i64 (gi ks j)) := by
  obtain ⟨g, h1, h2⟩ := or_mine6 (u := u) h
  obtain ⟨g2, k1, k2⟩ := or_mine6 (u := v) k
  refine ⟨g, g2, ?_, ?_, ?_, h2, k2⟩
  · rcases h1 with h | ⟨a, b, _⟩
    · exact .inl h
    · exact .inr ⟨a, b⟩
  · rcases k1 with h | ⟨a, b, _⟩
    · exact .inl h
    · exact .inr ⟨a, b⟩
  · rcases h1 with ⟨h, _⟩ | ⟨a, b, e⟩
    · rcases k1 with ⟨k, _⟩ | ⟨a', b', e'⟩ <;> omega
    · rcases k1 with ⟨k, _⟩ | ⟨a', b', e'⟩
      · omega
      · rintro rfl
        exact ap g e e'
theorem z6_len (q : Int) : (z6 q).2.2.2.2.1.length ≤ 1048577 ∧ (z6 q).2.2.2.2.2.length ≤ 1048577 := ⟨Nat.zero_le _, Nat.zero_le _⟩
theorem take6_len (o : Int) (xs : List Int) (id : Int) (n : Nat) (h : n ≤ 1048576) (hl : xs.length = n) : (take6 o xs id).2.2.2.2.1.length ≤ 1048577 ∧ (take6 o xs id).2.2.2.2.2.length ≤ 1048577 := by
  unfold take6
  split
  · exact z6_len _
  · have := @tk6_len o id xs
    exact ⟨by omega, by rw [this.2]; simp⟩
theorem pass6_len (o : Int) (xs : List Int) (id : Int) (n : Nat) (h : n ≤ 1048576) (hl : xs.length = n) : (pass6 o xs id).2.2.2.2.1.length ≤ 1048577 ∧ (pass6 o xs id).2.2.2.2.2.length ≤ 1048577 := by
  unfold pass6 ps6
  split
  · exact z6_len _
  split
  · exact z6_len _
  split
  · exact z6_len _
  split
  · simp
  · simp; omega
theorem wait6_len (xs : List Int) (id : Int) (n : Nat) (h : n ≤ 1048576) (hl : xs.length = n) : (wait6 xs id).2.2.2.2.1.length ≤ 1048577 ∧ (wait6 xs id).2.2.2.2.2.length ≤ 1048577 := by
  unfold wait6 wt6
  split
  · exact z6_len _
  split
  · exact z6_len _
  split
  · exact z6_len _
  · simp; omega

end Go.Proofs.YtachpoehejdpjaaDoor
