/-
  Picking one number out of a list that is written out in the call: the number is one of the list's, and nothing but the source turns. For codes of at most 2^20 bytes.
-/
import Derived.Test.YtckapndpefkcgaaDraw1
set_option maxHeartbeats 1000000
namespace Go.Proofs.Ytckapndpefkcgaa
open Go.RowKit

theorem sl_new (w : World) (cs : Array Value) (t : TypeId) (xs : List Int) (n : Nat) (hc : ∀ j, j < n → cs[j]? = some (.int .i64 (gi xs j))) :
    Sl (w.alloc (.cells cs t)) w.heap.size (w.heap.size + 1) (some ⟨w.heap.size, 0, none⟩) n (fun j => .int .i64 (gi xs j)) :=
  (Row.new w cs t _ n hc).sl (Nat.le_refl _) (Nat.lt_succ_self _)

theorem pick_lit (lo hi g : Nat) (A : Option Addr) (k c a n : Nat) (t : TypeId) (cs : Array Value) (b : Nat → Int) (xs : List Int) (w : World) (hk : k ≤ 1048576) (ha : a ≤ 1099511627776)
    (hb : ∀ j, 0 ≤ b j ∧ b j ≤ 255) (h : Sl w lo hi A k (fun j => .int .u8 (b j))) (hg : hi ≤ g) (hs : Src w g A k c a)
    (ex : xs.length = n) (hn1 : 1 ≤ n) (hn2 : n ≤ 1048576) (hc : ∀ j, j < n → cs[j]? = some (.int .i64 (gi xs j))) :
    Calls Try.prog 56 #[.pointer (some ⟨g, 0, none⟩), .slice (some ⟨w.heap.size, 0, none⟩) n n] (w.alloc (.cells cs t))
      fun e w' => ∃ r, r < n ∧ e = .returned (.int .i64 (gi xs r)) ∧ Src w' g A k c (a + 1) ∧ Only g (g + 1) w w' ∧ w.heap.size < w'.heap.size := by
  have hgw := hs.lt
  refine (l1Pick_any lo hi g w.heap.size (w.heap.size + 1) A (some ⟨w.heap.size, 0, none⟩) k c a n n b xs (w.alloc (.cells cs t)) hk ha hb (h.below (below_new w _) (by omega)) hg (hs.alloc _) ex hn1 hn2 (sl_new w cs t xs n hc) hgw (by simp)).mono ?_
  rintro e w' ⟨r, hr, rfl, h1, h2⟩
  exact ⟨r, by rw [← ex]; exact hr, rfl, h1, ((Only.refl g (g + 1) w).alloc (by omega) _).trans h2, by have := h2.1.size; simp at this; omega⟩

end Go.Proofs.Ytckapndpefkcgaa
