/-
  Rows of a call's own whose content is a list of numbers, m for each element: read, written, grown, cut. No program is named here.
  Ahead of it:
  The laws' helpers on slices of accounts: copy, compare, mark, look again: what each does, for every slice that can be read. No conditions beyond that the slices can be read.
  Ahead of it:
  Rows of structs of numbers: n elements of m cells each, as n * m cells. No program is named here.
-/
import Derived.Laws.OwnMore
import Derived.Test.YtckapndpefkcgaaGreatChecked
import Derived.Laws.MakeOwn
import Derived.Deep.RegionHeld3
import Derived.BigQuiet
import Derived.Test.YtckapndpefkcgaaGreatSpec1
import Derived.Test.YtckapndpefkcgaaGreatAcc2
import Derived.Test.YtckapndpefkcgaaGreatU8s
set_option maxHeartbeats 1000000
namespace Go.Proofs.YtckapndpefkcgaaGreat
open Go.RowKit

theorem run_make_rows {P : Program} (t e : TypeId) (z : Value) (m bytes : Nat) (ht : P.underlying t = some (.slice e)) (hinfo : (P.info? e).map (fun i => (i.zero, i.size, i.bytes)) = some (some z, m, bytes))
    (kl kc : IntKind) (n : Nat) (hbytes : bytes * n ≤ 281474976710656) (h63 : n ≤ 9223372036854775807) (w : World) :
    (Instr.makeSlice t (.int kl (n : Int)) (.int kc (n : Int))).run P w = .ok (.slice (some ⟨w.heap.size, 0, none⟩) n n) (w.alloc (.cells (madeCells z.cells (n * m)) e)) := by
  obtain ⟨i, hi, hzz⟩ := Option.map_eq_some_iff.1 hinfo
  simp only [Prod.mk.injEq] at hzz
  obtain ⟨hz, hs, hb⟩ := hzz
  have hb' : (i.bytes : Int) * (n : Int) ≤ 281474976710656 := by
    rw [hb]
    have h : ((bytes * n : Nat) : Int) ≤ 281474976710656 := by omega
    rwa [Int.natCast_mul] at h
  have hr := run_make (P := P) w t e i z ht hi hz kl kc n n (by omega) (Int.le_refl _) hb' (by omega)
  simp only [Int.toNat_natCast, hs] at hr
  exact hr
theorem Row.mades (w : World) (zs : Array Value) (v : Value) (N : Nat) (t : TypeId) (h0 : 0 < zs.size) (hz : ∀ r, r < zs.size → zs[r]! = v) : Row (w.alloc (.cells (madeCells zs N) t)) w.heap.size 0 t N (fun _ => v) :=
  Row.new w _ t _ N fun k hk => by simp [madeCells, hk, hz (k % zs.size) (Nat.mod_lt _ h0)]

theorem mine_of_owns {w : World} {base : Nat} {e : TypeId} {v : Value} {n size : Nat} {xs : List Value} (h : w.ownsRow base e size v n xs) :
    ∃ A c g, v = .slice A n c ∧ n ≤ c ∧ (A = none → c = 0) ∧ base ≤ g ∧ Mine w g (g + 1) e A (n * size) (fun k => xs.getD k undef) ∧ (A = none → n = 0) ∧ (A ≠ none → g < w.heap.size) := by
  obtain ⟨hl, h⟩ := h
  rcases h with ⟨rfl, rfl⟩ | ⟨g, cap, cur, rfl, hg, hh, hn, _, hs, ht⟩
  · exact ⟨none, 0, base, rfl, Nat.le_refl _, fun _ => rfl, Nat.le_refl _, .inl (by simp), fun _ => rfl, fun h => absurd rfl h⟩
  · refine ⟨_, cap, g, rfl, hn, fun h => by simp at h, hg, .inr ⟨g, 0, rfl, Nat.le_refl _, Nat.lt_succ_self _, cur, hh, fun k hk => ?_⟩, fun h => by simp at h, fun _ => (Array.getElem?_eq_some_iff.1 hh).1⟩
    have hk' : k < xs.length := by omega
    have e1 : xs[k]? = cur.toList[k]? := by
      rw [← ht, List.getElem?_take, if_pos (by omega)]
    rw [Nat.zero_add]
    have e2 : cur[k]? = cur.toList[k]? := by simp
    rw [e2, ← e1, List.getElem?_eq_getElem hk']
    simp [List.getD_eq_getElem?_getD, List.getElem?_eq_getElem hk']

theorem Mine.one {w : World} {lo hi n : Nat} {t : TypeId} {A : Option Addr} {f : Nat → Value} (h : Mine w lo hi t A n f) (h0 : n ≠ 0) : ∃ g, lo ≤ g ∧ g < hi ∧ g < w.heap.size ∧ Mine w g (g + 1) t A n f := by
  rcases h with h | ⟨g, off, hA, h1, h2, hr⟩
  · exact absurd h h0
  · exact ⟨g, h1, h2, hr.lt, .inr ⟨g, off, hA, Nat.le_refl _, Nat.lt_succ_self _, hr⟩⟩

def Kept (gs : List Nat) (w w' : World) : Prop := Below 0 w w' ∧ ∀ b, b < w.heap.size → b ∉ gs → w'.heap[b]? = w.heap[b]?
theorem Kept.refl (gs : List Nat) (w : World) : Kept gs w w := ⟨Below.refl _ _, fun _ _ _ => rfl⟩
theorem Kept.of_below {w w' : World} (h : Below w.heap.size w w') (gs : List Nat) : Kept gs w w' := ⟨h.mono (Nat.zero_le _), fun b hb _ => h.block b hb⟩
theorem Kept.trans {gs : List Nat} {a b c : World} (h : Kept gs a b) (k : Kept gs b c) : Kept gs a c :=
  ⟨h.1.trans k.1, fun x hx hn => (k.2 x (by have := h.1.size; omega) hn).trans (h.2 x hx hn)⟩
theorem Kept.mono {gs gs' : List Nat} {w w' : World} (h : Kept gs w w') (hs : ∀ b, b ∈ gs → b < w.heap.size → b ∈ gs') : Kept gs' w w' := ⟨h.1, fun b hb hn => h.2 b hb fun hc => hn (hs b hc hb)⟩
theorem Kept.then_below {gs : List Nat} {a b c : World} (h : Kept gs a b) (k : Below b.heap.size b c) : Kept gs a c := h.trans (Kept.of_below k gs)
theorem Kept.trans' {gs gs' : List Nat} {a b c : World} (h : Kept gs a b) (k : Kept gs' b c) (hs : ∀ x, x ∈ gs' → x < a.heap.size → x ∈ gs) : Kept gs a c :=
  ⟨h.1.trans k.1, fun x hx hn => (k.2 x (by have := h.1.size; omega) (fun hc => hn (hs x hc hx))).trans (h.2 x hx hn)⟩
theorem Kept.setCell {gs : List Nat} {w w' : World} (h : Kept gs w w') {p : Addr} (hp : p.block ∈ gs) (u : Value) : Kept gs w (w'.setCell p u) :=
  ⟨h.1.setCell (p := p) (Nat.zero_le _) u, fun b hb hn => (Below.heap_setCell w' p u b (fun e => hn (e ▸ hp))).trans (h.2 b hb hn)⟩
theorem Kept.setNew {gs : List Nat} {w w' : World} (h : Kept gs w w') {p : Addr} (hp : w.heap.size ≤ p.block) (u : Value) : Kept gs w (w'.setCell p u) :=
  ⟨h.1.setCell (p := p) (Nat.zero_le _) u, fun b hb hn => (Below.heap_setCell w' p u b (by omega)).trans (h.2 b hb hn)⟩
theorem Kept.drewN {gs : List Nat} {w w' : World} (h : Kept gs w w') (n : Nat) : Kept gs w (w'.drewN n) := ⟨below_drewN h.1 n, h.2⟩
theorem Kept.alloc {gs : List Nat} {w w' : World} (h : Kept gs w w') (o : Obj) : Kept gs w (w'.alloc o) :=
  ⟨h.1.alloc (Nat.zero_le _) o, fun b hb hn => (Below.heap_alloc w' o b (by have := h.1.size; omega)).trans (h.2 b hb hn)⟩
theorem Kept.below {gs : List Nat} {w w' : World} (h : Kept gs w w') {B : Nat} (hB : B ≤ w.heap.size) (hg : ∀ b, b ∈ gs → B ≤ b) : Below B w w' :=
  ⟨h.1.os, h.1.tape, h.1.output, h.1.size, fun b hb => h.2 b (by omega) (fun hc => by have := hg b hc; omega)⟩
theorem Mine.kept {gs : List Nat} {w w' : World} {g n : Nat} {t : TypeId} {A : Option Addr} {f : Nat → Value} (h : Mine w g (g + 1) t A n f) (k : Kept gs w w') (hg : g ∉ gs) : Mine w' g (g + 1) t A n f := by
  rcases h with h | ⟨g', off, hA, h1, h2, hr⟩
  · exact .inl h
  · obtain rfl : g' = g := by omega
    exact .inr ⟨g', off, hA, h1, h2, hr.keep (k.2 g' hr.lt hg)⟩
theorem Sl.kept {gs : List Nat} {w w' : World} {lo hi n : Nat} {A : Option Addr} {f : Nat → Value} (h : Sl w lo hi A n f) (k : Kept gs w w') (hg : ∀ b, b ∈ gs → b < lo ∨ hi ≤ b) : Sl w' lo hi A n f := fun j hj => by
  obtain ⟨b, off, hA, h1, h2, hc⟩ := h j hj
  refine ⟨b, off, hA, h1, h2, (World.cell?_of_block (k.2 b (World.block_lt_of_cell? _ _ hc) fun hm => ?_)).trans hc⟩
  have := hg b hm
  omega

theorem Row.set3 {w : World} {g : Nat} {t : TypeId} {n i : Nat} {f : Nat → Value} (h : Row w g 0 t n f) (hi : i + 2 < n) (u0 u1 u2 : Value) :
    Row (((w.setCell ⟨g, i, none⟩ u0).setCell ⟨g, i + 1, none⟩ u1).setCell ⟨g, i + 2, none⟩ u2) g 0 t n (fun k => (if k = i + 2 then u2 else (if k = i + 1 then u1 else (if k = i then u0 else f k)))) := by
  have h0 := Row.set h (show i < n by omega) u0
  rw [Nat.zero_add] at h0
  have h1 := Row.set h0 (show i + 1 < n by omega) u1
  rw [Nat.zero_add] at h1
  have h2 := Row.set h1 (show i + 2 < n by omega) u2
  rw [Nat.zero_add] at h2
  exact h2
theorem Row.set4 {w : World} {g : Nat} {t : TypeId} {n i : Nat} {f : Nat → Value} (h : Row w g 0 t n f) (hi : i + 3 < n) (u0 u1 u2 u3 : Value) :
    Row ((((w.setCell ⟨g, i, none⟩ u0).setCell ⟨g, i + 1, none⟩ u1).setCell ⟨g, i + 2, none⟩ u2).setCell ⟨g, i + 3, none⟩ u3) g 0 t n (fun k => (if k = i + 3 then u3 else (if k = i + 2 then u2 else (if k = i + 1 then u1 else (if k = i then u0 else f k))))) := by
  have h0 := Row.set h (show i < n by omega) u0
  rw [Nat.zero_add] at h0
  have h1 := Row.set h0 (show i + 1 < n by omega) u1
  rw [Nat.zero_add] at h1
  have h2 := Row.set h1 (show i + 2 < n by omega) u2
  rw [Nat.zero_add] at h2
  have h3 := Row.set h2 (show i + 3 < n by omega) u3
  rw [Nat.zero_add] at h3
  exact h3
theorem Only.set3 {lo hi : Nat} {w w' : World} {g i : Nat} (h : Only lo hi w w') (h1 : lo ≤ g) (h2 : g < hi) (u0 u1 u2 : Value) : Only lo hi w (((w'.setCell ⟨g, i, none⟩ u0).setCell ⟨g, i + 1, none⟩ u1).setCell ⟨g, i + 2, none⟩ u2) :=
  ((h.setCell (p := ⟨g, i, none⟩) h1 h2 u0).setCell (p := ⟨g, i + 1, none⟩) h1 h2 u1).setCell (p := ⟨g, i + 2, none⟩) h1 h2 u2

theorem Only.set4 {lo hi : Nat} {w w' : World} {g i : Nat} (h : Only lo hi w w') (h1 : lo ≤ g) (h2 : g < hi) (u0 u1 u2 u3 : Value) : Only lo hi w ((((w'.setCell ⟨g, i, none⟩ u0).setCell ⟨g, i + 1, none⟩ u1).setCell ⟨g, i + 2, none⟩ u2).setCell ⟨g, i + 3, none⟩ u3) :=
  (((h.setCell (p := ⟨g, i, none⟩) h1 h2 u0).setCell (p := ⟨g, i + 1, none⟩) h1 h2 u1).setCell (p := ⟨g, i + 2, none⟩) h1 h2 u2).setCell (p := ⟨g, i + 3, none⟩) h1 h2 u3



def m3 (m : Nat) : Bool := decide (((m : Nat) : Int).tmod 3 = 0)
theorem Tryz.info_bool : (Tryz.prog.info? 4).map (fun i => (i.zero, i.size, i.bytes)) = some (some (.bool false), 1, 1) := by kernel_rfl



theorem Tryz.info_Account : (Tryz.prog.info? 68).map (fun i => (i.zero, i.size, i.bytes)) = some (some (.agg #[.int .i64 0, .int .i64 0, .int .i64 0, .int .i64 0]), 4, 32) := by kernel_rfl



def OR (t : TypeId) (m : Nat) (w : World) (base : Nat) (A : Option Addr) (n c : Nat) (hs : List Int) : Prop := w.ownsRow base t m (.slice A n c) n (vals hs)
section
variable {t : TypeId} {m : Nat} {w w' : World} {base n c g : Nat} {A : Option Addr} {hs : List Int}
theorem OR.len (h : OR t m w base A n c hs) : hs.length = n * m := by
  have := h.1
  simpa [vals] using this
theorem OR.at_ (h : OR t m w base A n c hs) (hn : A ≠ none) : ∃ g, A = some ⟨g, 0, none⟩ ∧ base ≤ g ∧ g < w.heap.size := by
  rcases h.2 with ⟨h', _⟩ | ⟨g', cap', cur, h', hb, hg, _⟩
  · injection h' with h' _ _; exact absurd h' hn
  · injection h' with h' _ _
    exact ⟨g', h', hb, (Array.getElem?_eq_some_iff.1 hg).1⟩
theorem OR.pos (h : OR t m w base A n c hs) (hn : 0 < n) : ∃ g, A = some ⟨g, 0, none⟩ ∧ base ≤ g ∧ g < w.heap.size := by
  refine h.at_ fun e => ?_
  rcases h.2 with ⟨_, h0⟩ | ⟨g', cap', cur, h', _⟩
  · omega
  · injection h' with h' _ _; rw [e] at h'; cases h'
theorem OR.cap (h : OR t m w base A n c hs) : n ≤ c := by
  rcases h.2 with ⟨h', h0⟩ | ⟨g', cap', cur, h', _, _, hn, _⟩
  · omega
  · injection h' with _ _ h'; omega
theorem OR.nil0 (h : OR t m w base none n c hs) : n = 0 ∧ c = 0 := by
  rcases h.2 with ⟨h', h0⟩ | ⟨g', cap', cur, h', _⟩
  · injection h' with _ _ h'; exact ⟨h0, h'⟩
  · injection h' with h' _ _; cases h'
theorem OR.cell (h : OR t m w base (some ⟨g, 0, none⟩) n c hs) {j : Nat} (hj : j < n * m) : w.cell? ⟨g, j, none⟩ = some (.int .i64 (gi hs j)) := by
  have h1 := World.ownsRow.cellAt h j hj
  rw [vals_get hs j (by rw [h.len]; exact hj)] at h1
  exact h1
theorem OR.frozen (h : OR t m w base (some ⟨g, 0, none⟩) n c hs) (j : Nat) : w.frozen? ⟨g, j, none⟩ = false := World.ownsRow.frozenAt h j
theorem OR.set (h : OR t m w base (some ⟨g, 0, none⟩) n c hs) (j : Nat) (v : Int) : OR t m (w.setCell ⟨g, j, none⟩ (.int .i64 v)) base (some ⟨g, 0, none⟩) n c (hs.set j v) := by
  have h1 := (World.ownsRow.stored h j (.int .i64 v)).1
  unfold OR
  rw [show vals (hs.set j v) = (vals hs).set j (.int .i64 v) by simp [vals, List.map_set]]
  exact h1
theorem OR.keepAll (h : OR t m w base A n c hs) (hw : ∀ g, A = some ⟨g, 0, none⟩ → w'.heap[g]? = w.heap[g]?) : OR t m w' base A n c hs := by
  refine ⟨h.1, ?_⟩
  rcases h.2 with h' | ⟨g', cap', cur, h', hb, hg, rest⟩
  · exact .inl h'
  · refine .inr ⟨g', cap', cur, h', hb, ?_, rest⟩
    injection h' with h' _ _
    exact (hw g' h').trans hg
theorem OR.lt (h : OR t m w base (some ⟨g, 0, none⟩) n c hs) : base ≤ g ∧ g < w.heap.size := by
  obtain ⟨g', e, h1, h2⟩ := h.at_ (by simp)
  injection e with e
  injection e with e
  subst e
  exact ⟨h1, h2⟩
theorem OR.below (h : OR t m w base A n c hs) {B : Nat} (hb : Below B w w') (hB : w.heap.size ≤ B) : OR t m w' base A n c hs :=
  h.keepAll fun g e => by
    subst e
    exact hb.block g (by have := h.lt; omega)
theorem OR.kept (h : OR t m w base A n c hs) {gs : List Nat} (k : Kept gs w w') (hg : ∀ g, A = some ⟨g, 0, none⟩ → g ∉ gs) : OR t m w' base A n c hs :=
  h.keepAll fun g e => by
    have := hg g e
    subst e
    exact k.2 g h.lt.2 this
theorem OR.mono (h : OR t m w base A n c hs) {base' : Nat} (hb : base' ≤ base) : OR t m w base' A n c hs := by
  refine ⟨h.1, ?_⟩
  rcases h.2 with h' | ⟨g', cap', cur, h', hb', rest⟩
  · exact .inl h'
  · exact .inr ⟨g', cap', cur, h', by omega, rest⟩
theorem OR.high (h : OR t m w base (some ⟨g, 0, none⟩) n c hs) : OR t m w g (some ⟨g, 0, none⟩) n c hs := by
  refine ⟨h.1, ?_⟩
  rcases h.2 with ⟨h', _⟩ | ⟨g', cap', cur, h', hb', rest⟩
  · cases h'
  · refine .inr ⟨g', cap', cur, h', ?_, rest⟩
    injection h' with h' _ _
    injection h' with h'
    injection h' with h'
    omega
theorem OR.row (h : OR t m w base (some ⟨g, 0, none⟩) n c hs) : Row w g 0 t (n * m) (fun k => .int .i64 (gi hs k)) := by
  rcases h.2 with ⟨h', _⟩ | ⟨g', cap', cur, h', hb', hg, _, _, _, ht⟩
  · cases h'
  · injection h' with h' _ _
    injection h' with h'
    injection h' with h'
    subst h'
    refine ⟨cur, hg, fun k hk => ?_⟩
    have h1 := vals_get hs k (by rw [h.len]; exact hk)
    rw [← ht, List.getElem?_take, if_pos hk] at h1
    simpa using h1
theorem OR.sl (h : OR t m w base A n c hs) (hm : 0 < n) : Sl w base w.heap.size A (n * m) (fun k => .int .i64 (gi hs k)) := by
  obtain ⟨g, rfl, h1, h2⟩ := h.pos hm
  exact h.row.sl h1 h2
theorem OR.sl0 (h : OR t m w base A n c hs) : Sl w base w.heap.size A (n * m) (fun k => .int .i64 (gi hs k)) := by
  rcases Nat.eq_zero_or_pos n with rfl | hn
  · intro k hk; omega
  · exact h.sl hn
theorem OR.mine (h : OR t m w base A n c hs) (hs0 : base < w.heap.size) : ∃ g, base ≤ g ∧ g < w.heap.size ∧ Mine w g (g + 1) t A (n * m) (fun k => .int .i64 (gi hs k)) := by
  rcases Nat.eq_zero_or_pos n with rfl | hn
  · exact ⟨base, Nat.le_refl _, hs0, .inl (by omega)⟩
  · obtain ⟨g, rfl, h1, h2⟩ := h.pos hn
    exact ⟨g, h1, h2, .inr ⟨g, 0, rfl, Nat.le_refl _, Nat.lt_succ_self _, h.row⟩⟩
theorem OR.void (w : World) (base : Nat) : OR t m w base none 0 0 [] := World.ownsRow_nil _ _ _ _
theorem OR.drewN (h : OR t m w base A n c hs) (k : Nat) : OR t m (w.drewN k) base A n c hs := h.keepAll fun _ _ => rfl
theorem OR.alloc (h : OR t m w base A n c hs) (o : Obj) : OR t m (w.alloc o) base A n c hs := World.ownsRow.alloc h o
end
theorem OR.empty {t : TypeId} {m : Nat} (w : World) {base : Nat} (hb : base ≤ w.heap.size) : OR t m (w.alloc (.cells #[] t)) base (some ⟨w.heap.size, 0, none⟩) 0 0 [] :=
  ⟨by simp [vals], .inr ⟨w.heap.size, 0, #[], rfl, hb, heap_alloc_new _ _, Nat.le_refl _, by simp [maxLen], by simp, by simp [vals]⟩⟩

end Go.Proofs.YtckapndpefkcgaaGreat
