/-
  The one with the least pass of those in a map. No conditions beyond that the map can be read.
-/
import Derived.Test.YtachpoehejdpjaaIter5
namespace Go.Proofs.Ytachpoehejdpjaa
open Go.RowKit Go.Shelf
set_option maxRecDepth 100000
attribute [local go_sem] Oper.semAt_some

theorem kpI_b {n₀ bx : Nat} {w : World} (hn : n₀ ≤ w.heap.size) (hb : bx < w.heap.size) : ∀ (W : World) (l : Nat) (o o' : Obj), w.heap.size ≤ l → W.heap[l]? = some o → o.isCells = false → o.isWalk = false → KpI n₀ bx W (W.putObj l o') :=
  fun W l o o' hl hW h1 h2 => ⟨belowK_b hn W l o o' hl hW h1 h2, World.putObj_heap_other (by omega)⟩
/-- a block of cells abides the loop's own book-keeping -/
theorem block_own {β : Type} (B b : Nat) (f : β → Obj) (hf : ∀ s, (f s).isCells = true) : OwnFrom B (fun s W => W.heap[b]? = some (f s)) := by
  intro s W W' row h hg hr
  refine (hg.block b (Array.getElem?_eq_some_iff.1 h).1 ?_).trans h
  intro e
  obtain ⟨_, o, ho, hc⟩ := hr b e.symm
  rw [h] at ho
  cases ho
  rw [hf] at hc
  cases hc
/-- the least one of those that came, the first of several -/
def lst (xs : List R3) : R3 × Bool := xs.foldl (fun acc x => if acc.2 = false ∨ x.2.2 < acc.1.2.2 then (x, true) else acc) ((0, 0, 0), false)
theorem set3_block {W : World} {b : Nat} {t : TypeId} {u0 u1 u2 : Value} (h : W.heap[b]? = some (.cells #[u0, u1, u2] t (0, 0))) (v0 v1 v2 : Value) :
    (((W.setCell ⟨b, 0, none⟩ v0).setCell ⟨b, 1, none⟩ v1).setCell ⟨b, 2, none⟩ v2).heap[b]? = some (.cells #[v0, v1, v2] t (0, 0)) :=
  heap_setCell_same _ _ 2 _ _ _ (heap_setCell_same _ _ 1 _ _ _ (heap_setCell_same _ _ 0 _ _ _ h))
theorem set1_block {W : World} {b : Nat} {t : TypeId} {u0 : Value} (h : W.heap[b]? = some (.cells #[u0] t (0, 0))) (v0 : Value) :
    (W.setCell ⟨b, 0, none⟩ v0).heap[b]? = some (.cells #[v0] t (0, 0)) := heap_setCell_same _ _ 0 _ _ _ h
theorem lst_snoc (xs : List R3) (x : R3) : lst (xs ++ [x]) = if (lst xs).2 = false ∨ x.2.2 < (lst xs).1.2.2 then (x, true) else lst xs := by
  unfold lst; rw [List.foldl_append]; rfl
def r3c (x : R3) : Array Value := #[.int .i64 x.1, .int .i64 x.2.1, .int .i64 x.2.2]

theorem results_row_one {P : Program} {fn : Func} {p u : Tmp} {ty ty' : TypeId} (h : fn.results = #[.cell p ty, .cell u ty']) (tmps : Array Value) (w : World) (g : Nat) (t : TypeId) (cs : Array Value) (fr : Nat × Nat) (d : TypeDesc)
    (hp : tmps.getD p undef = .pointer (some ⟨g, 0, none⟩)) (hg : w.heap[g]? = some (.cells cs t fr))
    (hu : P.underlying ty = some d) (hd : (match d with | .struct _ | .array _ _ => true | _ => false) = true) (hi : (P.info? ty).map (·.size) = some cs.size)
    (g2 : Nat) (hp2 : tmps.getD u undef = .pointer (some ⟨g2, 0, none⟩)) (v : Value) (hv : (loadVar ty' ⟨g2, 0, none⟩).run P w = .ok v w) :
    (results fn tmps).run P w = .ok (.tuple #[.agg cs, v]) w := by
  have hp' : tmps[p]?.getD undef = .pointer (some ⟨g, 0, none⟩) := by simpa using hp
  have hp2' : tmps[u]?.getD undef = .pointer (some ⟨g2, 0, none⟩) := by simpa using hp2
  simp [results, h, hp', hp2', asAddr, run_loadVar_row w g t ty cs fr d hg hu hd hi, hv, Result.andThen]

end Go.Proofs.Ytachpoehejdpjaa
