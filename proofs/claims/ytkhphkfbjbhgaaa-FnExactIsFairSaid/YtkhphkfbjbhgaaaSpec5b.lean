/-
  The model's l5Find and l5Leave. No conditions beyond that the schedule can be read.
-/
import Derived.Test.YtkhphkfbjbhgaaaSpec5a
import Derived.Test.YtkhphkfbjbhgaaaAns5
import Derived.Deep.AppendLies
import Derived.Deep.RegionLaw
namespace Go.Proofs.Ytkhphkfbjbhgaaa
open Go.RowKit
set_option maxRecDepth 100000

theorem mth_first {xs : List R3} {i : Int} {k : Nat} (h : k < xs.length) (hk : (g3 xs k).1 = i) : mth xs i ≠ none := fun e => mth_none.1 e _ (g3_mem h) hk
theorem or_own_ne {t t' : TypeId} {m : Nat} {w : World} {base n c s : Nat} {A : Option Addr} {hs : List Int} {cs : Array Value} (hk : w.heap[s]? = some (.cells cs t' (0, 0))) (ht : t ≠ t') (h : OR t m w base A n c hs) : some s ≠ (Value.slice A n c).ownBlock := by
  intro e
  rcases h.2 with ⟨h0, _⟩ | ⟨g', cap', cur, h0, _, hg, _⟩
  · injection h0 with h0 _ _; subst h0; cases e
  · injection h0 with h0 _ _
    subst h0
    have e' : s = g' := Option.some.inj e
    subst e'
    rw [hk] at hg
    injection hg with hg
    injection hg with _ hg _
    exact ht hg.symm
/-- behind an append to a row of the call's own nothing older has turned -/
theorem below_append {t : TypeId} {m : Nat} {w0 w w7 : World} {base n c : Nat} {A : Option Addr} {hs : List Int} (hb : Below base w0 w) (hz : base ≤ w.heap.size) (h : OR t m w base A n c hs) (hg : w.grownBy w7 (Value.slice A n c).ownBlock) : Below base w0 w7 :=
  hb.grown hg hz fun k e => by
    rcases h.2 with ⟨h0, _⟩ | ⟨g', cap', cur, h0, hb', _⟩
    · injection h0 with h0 _ _; subst h0; cases e
    · injection h0 with h0 _ _
      subst h0
      have e' : g' = k := Option.some.inj e
      omega

/-- what the one that leaves was above the base, of those that came -/
def rst5 (b : Int) (xs : List R3) (i : Int) : Int := if mth xs i = none then 0 else pass5 xs i - b
theorem rst_snoc (b : Int) (xs : List R3) (x : R3) (i : Int) (h : ∀ y, y ∈ xs → y.1 ≠ x.1) : rst5 b (xs ++ [x]) i = if x.1 = i then x.2.2 - b else rst5 b xs i := by
  unfold rst5 pass5
  simp only [mth_snoc xs x h]
  by_cases e : i = x.1
  · subst e; simp
  · simp only [if_neg e]
    rw [if_neg (show ¬ x.1 = i from fun h => e h.symm)]
theorem results_row_tmp {P : Program} {fn : Func} {p u : Tmp} {ty : TypeId} (h : fn.results = #[.cell p ty, .tmp u]) (tmps : Array Value) (w : World) (g : Nat) (t : TypeId) (cs : Array Value) (fr : Nat × Nat) (d : TypeDesc)
    (hp : tmps.getD p undef = .pointer (some ⟨g, 0, none⟩)) (hg : w.heap[g]? = some (.cells cs t fr))
    (hu : P.underlying ty = some d) (hd : (match d with | .struct _ | .array _ _ => true | _ => false) = true) (hi : (P.info? ty).map (·.size) = some cs.size) :
    (results fn tmps).run P w = .ok (.tuple #[.agg cs, tmps.getD u undef]) w := by
  have hp' : tmps[p]?.getD undef = .pointer (some ⟨g, 0, none⟩) := by simpa using hp
  simp [results, h, hp', asAddr, run_loadVar_row w g t ty cs fr d hg hu hd hi, Result.andThen]
theorem lv_snoc (xs : List R3) (x : R3) (i : Int) : lv5 (xs ++ [x]) i = if x.1 = i then lv5 xs i else lv5 xs i ++ [x] := by
  unfold lv5
  rw [List.filter_append]
  by_cases e : x.1 = i
  · rw [if_pos e]; simp [e]
  · rw [if_neg e]; simp [e]
theorem Ris.new {xs : List R3} (h : Ris xs) {k : Nat} (hk : k < xs.length) : ∀ y, y ∈ xs.take k → y.1 ≠ (g3 xs k).1 := fun y hy => by
  have h3 : (xs.take (k + 1)).Pairwise fun a b => a.1 < b.1 := h.up.sublist (List.take_sublist _ _)
  rw [take_snoc xs k hk, List.pairwise_append] at h3
  have := h3.2.2 y hy (g3 xs k) (by simp)
  omega

end Go.Proofs.Ytkhphkfbjbhgaaa
