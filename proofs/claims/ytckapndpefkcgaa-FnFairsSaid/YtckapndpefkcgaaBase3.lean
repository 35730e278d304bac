/-
  Rows of structs of numbers: n elements of m cells each, as n * m cells. No program is named here.
-/
import Derived.Laws.MakeOwn
import Derived.Deep.RegionHeld3
import Derived.BigQuiet
import Derived.Test.YtckapndpefkcgaaBase
set_option maxHeartbeats 1000000
namespace Go.Proofs.Ytckapndpefkcgaa
open Go.RowKit

theorem run_make_rows {P : Program} (t e : TypeId) (z : Value) (m bytes : Nat) (ht : P.underlying t = some (.slice e)) (hinfo : (P.info? e).map (fun i => (i.zero, i.size, i.bytes)) = some (some z, m, bytes))
    (kl kc : IntKind) (n : Nat) (hbytes : bytes * n ≤ 281474976710656) (h63 : n ≤ 9223372036854775807) (w : World) :
    (Instr.makeSlice t (.int kl (n : Int)) (.int kc (n : Int))).run P w = .ok (.slice (some ⟨w.heap.size, 0, none⟩) n n) (w.alloc (.cells (madeCells z.cells (n * m)) e)) := by
  obtain ⟨i, hi, hzz⟩ := Option.map_eq_some_iff.1 hinfo
  simp only [Prod.mk.injEq] at hzz
  obtain ⟨hz, hs, hb⟩ := hzz
  have hb' : (i.bytes : Int) * (n : Int) ≤ 281474976710656 := by
    rw [hb]
    have h : ((bytes * n : Nat) : Int) ≤ 281474976710656 := by omega
    rwa [Int.natCast_mul] at h
  have hr := run_make (P := P) w t e i z ht hi hz kl kc n n (by omega) (Int.le_refl _) hb' (by omega)
  simp only [Int.toNat_natCast, hs] at hr
  exact hr
theorem Mine.one {w : World} {lo hi n : Nat} {t : TypeId} {A : Option Addr} {f : Nat → Value} (h : Mine w lo hi t A n f) (h0 : n ≠ 0) : ∃ g, lo ≤ g ∧ g < hi ∧ g < w.heap.size ∧ Mine w g (g + 1) t A n f := by
  rcases h with h | ⟨g, off, hA, h1, h2, hr⟩
  · exact absurd h h0
  · exact ⟨g, h1, h2, hr.lt, .inr ⟨g, off, hA, Nat.le_refl _, Nat.lt_succ_self _, hr⟩⟩

def Kept (gs : List Nat) (w w' : World) : Prop := Below 0 w w' ∧ ∀ b, b < w.heap.size → b ∉ gs → w'.heap[b]? = w.heap[b]?
theorem Kept.refl (gs : List Nat) (w : World) : Kept gs w w := ⟨Below.refl _ _, fun _ _ _ => rfl⟩
theorem Kept.trans {gs : List Nat} {a b c : World} (h : Kept gs a b) (k : Kept gs b c) : Kept gs a c :=
  ⟨h.1.trans k.1, fun x hx hn => (k.2 x (by have := h.1.size; omega) hn).trans (h.2 x hx hn)⟩
theorem Kept.mono {gs gs' : List Nat} {w w' : World} (h : Kept gs w w') (hs : ∀ b, b ∈ gs → b < w.heap.size → b ∈ gs') : Kept gs' w w' := ⟨h.1, fun b hb hn => h.2 b hb fun hc => hn (hs b hc hb)⟩
theorem Kept.setCell {gs : List Nat} {w w' : World} (h : Kept gs w w') {p : Addr} (hp : p.block ∈ gs) (u : Value) : Kept gs w (w'.setCell p u) :=
  ⟨h.1.setCell (p := p) (Nat.zero_le _) u, fun b hb hn => (Below.heap_setCell w' p u b (fun e => hn (e ▸ hp))).trans (h.2 b hb hn)⟩
theorem Kept.drewN {gs : List Nat} {w w' : World} (h : Kept gs w w') (n : Nat) : Kept gs w (w'.drewN n) := ⟨below_drewN h.1 n, h.2⟩
theorem Kept.alloc {gs : List Nat} {w w' : World} (h : Kept gs w w') (o : Obj) : Kept gs w (w'.alloc o) :=
  ⟨h.1.alloc (Nat.zero_le _) o, fun b hb hn => (Below.heap_alloc w' o b (by have := h.1.size; omega)).trans (h.2 b hb hn)⟩
theorem Kept.below {gs : List Nat} {w w' : World} (h : Kept gs w w') {B : Nat} (hB : B ≤ w.heap.size) (hg : ∀ b, b ∈ gs → B ≤ b) : Below B w w' :=
  ⟨h.1.os, h.1.tape, h.1.output, h.1.size, fun b hb => h.2 b (by omega) (fun hc => by have := hg b hc; omega)⟩
theorem Mine.kept {gs : List Nat} {w w' : World} {g n : Nat} {t : TypeId} {A : Option Addr} {f : Nat → Value} (h : Mine w g (g + 1) t A n f) (k : Kept gs w w') (hg : g ∉ gs) : Mine w' g (g + 1) t A n f := by
  rcases h with h | ⟨g', off, hA, h1, h2, hr⟩
  · exact .inl h
  · obtain rfl : g' = g := by omega
    exact .inr ⟨g', off, hA, h1, h2, hr.keep (k.2 g' hr.lt hg)⟩
theorem Sl.kept {gs : List Nat} {w w' : World} {lo hi n : Nat} {A : Option Addr} {f : Nat → Value} (h : Sl w lo hi A n f) (k : Kept gs w w') (hg : ∀ b, b ∈ gs → b < lo ∨ hi ≤ b) : Sl w' lo hi A n f := fun j hj => by
  obtain ⟨b, off, hA, h1, h2, hc⟩ := h j hj
  refine ⟨b, off, hA, h1, h2, (World.cell?_of_block (k.2 b (World.block_lt_of_cell? _ _ hc) fun hm => ?_)).trans hc⟩
  have := hg b hm
  omega

theorem Row.set4 {w : World} {g : Nat} {t : TypeId} {n i : Nat} {f : Nat → Value} (h : Row w g 0 t n f) (hi : i + 3 < n) (u0 u1 u2 u3 : Value) :
    Row ((((w.setCell ⟨g, i, none⟩ u0).setCell ⟨g, i + 1, none⟩ u1).setCell ⟨g, i + 2, none⟩ u2).setCell ⟨g, i + 3, none⟩ u3) g 0 t n (fun k => (if k = i + 3 then u3 else (if k = i + 2 then u2 else (if k = i + 1 then u1 else (if k = i then u0 else f k))))) := by
  have h0 := Row.set h (show i < n by omega) u0
  rw [Nat.zero_add] at h0
  have h1 := Row.set h0 (show i + 1 < n by omega) u1
  rw [Nat.zero_add] at h1
  have h2 := Row.set h1 (show i + 2 < n by omega) u2
  rw [Nat.zero_add] at h2
  have h3 := Row.set h2 (show i + 3 < n by omega) u3
  rw [Nat.zero_add] at h3
  exact h3
theorem Only.set4 {lo hi : Nat} {w w' : World} {g i : Nat} (h : Only lo hi w w') (h1 : lo ≤ g) (h2 : g < hi) (u0 u1 u2 u3 : Value) : Only lo hi w ((((w'.setCell ⟨g, i, none⟩ u0).setCell ⟨g, i + 1, none⟩ u1).setCell ⟨g, i + 2, none⟩ u2).setCell ⟨g, i + 3, none⟩ u3) :=
  (((h.setCell (p := ⟨g, i, none⟩) h1 h2 u0).setCell (p := ⟨g, i + 1, none⟩) h1 h2 u1).setCell (p := ⟨g, i + 2, none⟩) h1 h2 u2).setCell (p := ⟨g, i + 3, none⟩) h1 h2 u3

end Go.Proofs.Ytckapndpefkcgaa
