/-
  Rows of numbers of one's own: a copy by the model, by the program, and one number more. No conditions beyond that the list can be read.
-/
import Derived.Test.YtkhphkfbjbhgaaaOwn4
import Derived.Test.YtkhphkfbjbhgaaaCut6
import Derived.Laws.AppendOwnNone
namespace Go.Proofs.Ytkhphkfbjbhgaaa
open Go.RowKit
set_option maxRecDepth 100000

theorem or_of6 {t : TypeId} {m : Nat} {w : World} {base n : Nat} {v : Value} {hs : List Int} (h : w.ownsRow base t m v n (vals hs)) : ∃ A c, v = .slice A n c ∧ OR t m w base A n c hs := by
  rcases h.2 with ⟨rfl, rfl⟩ | ⟨g, cap, cur, rfl, _⟩
  · exact ⟨none, 0, rfl, h⟩
  · exact ⟨some ⟨g, 0, none⟩, cap, rfl, h⟩
theorem OR.grew6 {t : TypeId} {m : Nat} {a b : World} {base n c : Nat} {A : Option Addr} {hs : List Int} (h : OR t m a base A n c hs) (hb : base ≤ a.heap.size) (hg : a.grownBy b (Value.slice A n c).ownBlock) : Below base a b :=
  (Below.refl base a).grown hg hb (fun k hk => by
    rcases A with _ | ad
    · cases hk
    · obtain ⟨g', e, h1, h2⟩ := OR.at_ h (by simp)
      injection e with e
      subst e
      have hk' : some g' = some k := hk
      injection hk' with e2
      omega)
theorem one_new6 (w : World) (v : Int) : ∀ j u, ([.int .i64 v] : List Value)[j]? = some u → (w.alloc (.cells #[.int .i64 v] 2)).cell? ((⟨w.heap.size, 0, none⟩ : Addr).add j) = some u := by
  intro j u hu
  rw [Go.WideShapes.add_plain]
  rcases j with _ | j
  · injection hu with hu; subst hu; exact cell_of_row _ _ 0 _ _ _ (heap_alloc_new w _)
  · simp at hu
theorem row_more6 {t : TypeId} {w : World} {base n : Nat} {x : Value} {hs : List Int} {v : Int} (h : w.ownsRow base t 1 x (n + 1) (vals hs ++ [.int .i64 v])) : ∃ A c, x = .slice A (n + 1) c ∧ OR t 1 w base A (n + 1) c (hs ++ [v]) := by
  rw [show vals hs ++ [Value.int .i64 v] = vals (hs ++ [v]) by simp [vals]] at h
  exact or_of6 h
theorem own_ne6 {t t' : TypeId} {m : Nat} {w : World} {base n c s : Nat} {A : Option Addr} {hs : List Int} {cs : Array Value} (h : OR t m w base A n c hs) (hk : w.heap[s]? = some (.cells cs t' (0, 0))) (ht : t ≠ t') : some s ≠ (Value.slice A n c).ownBlock := by
  intro e
  rcases h.2 with ⟨h0, _⟩ | ⟨g', cap', cur, h0, _, hg, _⟩
  · injection h0 with h0 _ _; subst h0; cases e
  · injection h0 with h0 _ _
    subst h0
    have e' : s = g' := Option.some.inj e
    subst e'
    rw [hk] at hg
    injection hg with hg
    injection hg with _ hg _
    exact ht hg.symm
theorem OR.capA {t : TypeId} {m : Nat} {a : World} {base n c : Nat} {A : Option Addr} {hs : List Int} (h : OR t m a base A n c hs) : A = none → c = 0 := fun e => by
  subst e
  exact (OR.nil0 h).2

end Go.Proofs.Ytkhphkfbjbhgaaa
