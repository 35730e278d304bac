/-
  How a code that came in is opened: a list of numbers from 0 to 255. No conditions.
  Ahead of it:
  The frame of a law's statement, once for all laws of this seat: if the call returns true and nothing that was there turns, then the row's post holds; and how arguments of the kinds that the laws take are opened. No function of the program is named here.
  Ahead of it:
  The laws' own helpers on slices of int64 (copy, compare, mark, look again): what each does, for every slice that can be read. No conditions beyond that the slices can be read.
  Ahead of it:
  Two short words for the walks of regions that draw their order: an operation that yields is taken first; one whose guard is false yields nothing.
  Ahead of it:
  Plain words and lemmas for the proofs of this seat: slices that read as a function of the index, rows of the call's own, worlds that only grow. No conditions; no function of the program is named here.
-/
import Derived.Test.YtckapndpefkcgaaGreatRows
import Derived.ChangeOld
import Derived.Test.YtckapndpefkcgaaGreatChecked
import Derived.OrdersHeld
import Derived.WalkKit
import Derived.WalkSpells
import Derived.Deep.OwnRows
import Derived.Deep.QuietTactic
import Derived.BigQuiet
import Derived.Deep.LoopGhost
import Derived.Deep.Cut
import Derived.Handy
import Derived.Lib.Hide
import Derived.SizedLaws
import Derived.ProofKit
set_option maxHeartbeats 1000000
namespace Go.Proofs.YtckapndpefkcgaaGreat
open Go.RowKit

def gi (xs : List Int) (k : Nat) : Int := xs.getD k 0
theorem gi_lt (xs : List Int) (k : Nat) (h : k < xs.length) : gi xs k = xs[k] := by unfold gi; simp [h]

def Sl (w : World) (lo hi : Nat) (A : Option Addr) (n : Nat) (f : Nat → Value) : Prop :=
  ∀ k, k < n → ∃ b off, A = some ⟨b, off, none⟩ ∧ lo ≤ b ∧ b < hi ∧ w.cell? ⟨b, off + k, none⟩ = some (f k)

def Row (w : World) (g off : Nat) (t : TypeId) (n : Nat) (f : Nat → Value) : Prop :=
  ∃ cur : Array Value, w.heap[g]? = some (.cells cur t (0, 0)) ∧ ∀ k, k < n → cur[off + k]? = some (f k)

section
variable {w w' : World} {lo hi lo' hi' n g off : Nat} {A : Option Addr} {f f' : Nat → Value} {t : TypeId}

theorem Sl.at_ (h : Sl w lo hi A n f) {k : Nat} (hk : k < n) : ∃ b off, A = some ⟨b, off, none⟩ ∧ lo ≤ b ∧ b < hi ∧ ∀ j, j < n → w.cell? ⟨b, off + j, none⟩ = some (f j) := by
  obtain ⟨b, off, hA, h1, h2, _⟩ := h k hk
  refine ⟨b, off, hA, h1, h2, fun j hj => ?_⟩
  obtain ⟨b', off', hA', _, _, hc⟩ := h j hj
  rw [hA] at hA'
  injection hA' with hA'
  injection hA' with e1 e2
  subst e1 e2
  exact hc
theorem Sl.nil : Sl w lo hi A 0 f := fun _ h => absurd h (Nat.not_lt_zero _)
theorem Sl.congr (h : Sl w lo hi A n f) (e : ∀ k, k < n → f k = f' k) : Sl w lo hi A n f' := fun k hk => by
  obtain ⟨b, off, hA, h1, h2, hc⟩ := h k hk
  exact ⟨b, off, hA, h1, h2, by rw [hc, e k hk]⟩
theorem Sl.keep (h : Sl w lo hi A n f) (hw : ∀ b, lo ≤ b → b < hi → w'.heap[b]? = w.heap[b]?) : Sl w' lo hi A n f := fun k hk => by
  obtain ⟨b, off, hA, h1, h2, hc⟩ := h k hk
  exact ⟨b, off, hA, h1, h2, (World.cell?_of_block (hw b h1 h2)).trans hc⟩
theorem Sl.below (h : Sl w lo hi A n f) {B : Nat} (hb : Below B w w') (hB : hi ≤ B) : Sl w' lo hi A n f := h.keep fun b _ h2 => hb.block b (by omega)
theorem Sl.wide (h : Sl w lo hi A n f) (h1 : lo' ≤ lo) (h2 : hi ≤ hi') : Sl w lo' hi' A n f := fun k hk => by
  obtain ⟨b, off, hA, a1, a2, hc⟩ := h k hk
  exact ⟨b, off, hA, by omega, by omega, hc⟩
theorem Sl.take (h : Sl w lo hi A n f) {m : Nat} (hm : m ≤ n) : Sl w lo hi A m f := fun k hk => h k (by omega)
theorem Sl.lt (h : Sl w lo hi A n f) : Sl w lo (min hi w.heap.size) A n f := fun k hk => by
  obtain ⟨b, off, hA, h1, h2, hc⟩ := h k hk
  have := World.block_lt_of_cell? _ _ hc
  simp at this
  exact ⟨b, off, hA, h1, by omega, hc⟩

theorem Row.lt (h : Row w g off t n f) : g < w.heap.size := by
  obtain ⟨cur, hh, _⟩ := h
  exact (Array.getElem?_eq_some_iff.1 hh).1
theorem Row.cell (h : Row w g off t n f) {k : Nat} (hk : k < n) : w.cell? ⟨g, off + k, none⟩ = some (f k) := by
  obtain ⟨cur, hh, hc⟩ := h
  rw [cell_of_row w g (off + k) cur t (0, 0) hh, hc k hk]
theorem Row.frozen (h : Row w g off t n f) (i : Nat) : w.frozen? ⟨g, i, none⟩ = false := by
  obtain ⟨cur, hh, _⟩ := h
  simp [World.frozen?, hh]
theorem Row.sl (h : Row w g off t n f) (hlo : lo ≤ g) (hhi : g < hi) : Sl w lo hi (some ⟨g, off, none⟩) n f := fun _ hk => ⟨g, off, rfl, hlo, hhi, h.cell hk⟩
theorem Row.keep (h : Row w g off t n f) (hw : w'.heap[g]? = w.heap[g]?) : Row w' g off t n f := by
  obtain ⟨cur, hh, hc⟩ := h
  exact ⟨cur, hw.trans hh, hc⟩
theorem Row.below (h : Row w g off t n f) {B : Nat} (hb : Below B w w') (hB : g < B) : Row w' g off t n f := h.keep (hb.block g hB)
theorem Row.congr (h : Row w g off t n f) (e : ∀ k, k < n → f k = f' k) : Row w g off t n f' := by
  obtain ⟨cur, hh, hc⟩ := h
  exact ⟨cur, hh, fun k hk => by rw [hc k hk, e k hk]⟩
theorem Row.set (h : Row w g off t n f) {i : Nat} (hi : i < n) (u : Value) : Row (w.setCell ⟨g, off + i, none⟩ u) g off t n (fun k => if k = i then u else f k) := by
  obtain ⟨cur, hh, hc⟩ := h
  refine ⟨cur.setIfInBounds (off + i) u, by simp [World.setCell, Array.getElem?_modify, hh], fun k hk => ?_⟩
  rw [Array.getElem?_setIfInBounds]
  by_cases e : k = i
  · subst e
    have := (Array.getElem?_eq_some_iff.1 (hc k hk)).1
    simp [this]
  · rw [if_neg (by omega)]
    show cur[off + k]? = some (if k = i then u else f k)
    rw [if_neg e]
    exact hc k hk
theorem Row.far (h : Row w g off t n f) {p : Addr} (hp : g ≠ p.block) (u : Value) : Row (w.setCell p u) g off t n f := h.keep (Below.heap_setCell w p u g hp)
theorem Row.alloc (h : Row w g off t n f) (o : Obj) : Row (w.alloc o) g off t n f := h.keep (Below.heap_alloc w o g h.lt)
theorem Row.drew (h : Row w g off t n f) : Row w.drew g off t n f := h
theorem Row.drewN (h : Row w g off t n f) (m : Nat) : Row (w.drewN m) g off t n f := h
theorem Row.new (w : World) (cur : Array Value) (t : TypeId) (f : Nat → Value) (n : Nat) (hc : ∀ k, k < n → cur[k]? = some (f k)) : Row (w.alloc (.cells cur t)) w.heap.size 0 t n f :=
  ⟨cur, heap_alloc_new w _, fun k hk => by rw [Nat.zero_add]; exact hc k hk⟩
theorem Row.made (w : World) (z : Value) (n : Nat) (t : TypeId) : Row (w.alloc (.cells (madeCells #[z] n) t)) w.heap.size 0 t n (fun _ => z) :=
  Row.new w _ t _ n fun k hk => by simp [madeCells, hk, Nat.mod_one]
theorem below_drewN {B : Nat} {a w : World} (h : Below B a w) (n : Nat) : Below B a (w.drewN n) := ⟨h.os, h.tape, h.output, h.size, h.block⟩
end

def Mine (w : World) (lo hi : Nat) (t : TypeId) (A : Option Addr) (n : Nat) (f : Nat → Value) : Prop :=
  n = 0 ∨ ∃ g off, A = some ⟨g, off, none⟩ ∧ lo ≤ g ∧ g < hi ∧ Row w g off t n f

section
variable {w w' : World} {lo hi lo' hi' n : Nat} {A : Option Addr} {f f' : Nat → Value} {t : TypeId}
theorem Mine.sl (h : Mine w lo hi t A n f) : Sl w lo hi A n f := by
  rcases h with rfl | ⟨g, off, rfl, h1, h2, hr⟩
  · exact Sl.nil
  · exact hr.sl h1 h2
theorem Mine.keep (h : Mine w lo hi t A n f) (hw : ∀ b, lo ≤ b → b < hi → w'.heap[b]? = w.heap[b]?) : Mine w' lo hi t A n f := by
  rcases h with h | ⟨g, off, hA, h1, h2, hr⟩
  · exact .inl h
  · exact .inr ⟨g, off, hA, h1, h2, hr.keep (hw g h1 h2)⟩
theorem Mine.below (h : Mine w lo hi t A n f) {B : Nat} (hb : Below B w w') (hB : hi ≤ B) : Mine w' lo hi t A n f := h.keep fun b _ h2 => hb.block b (by omega)
theorem Mine.wide (h : Mine w lo hi t A n f) (h1 : lo' ≤ lo) (h2 : hi ≤ hi') : Mine w lo' hi' t A n f := by
  rcases h with h | ⟨g, off, hA, a1, a2, hr⟩
  · exact .inl h
  · exact .inr ⟨g, off, hA, by omega, by omega, hr⟩
theorem Mine.congr (h : Mine w lo hi t A n f) (e : ∀ k, k < n → f k = f' k) : Mine w lo hi t A n f' := by
  rcases h with h | ⟨g, off, hA, h1, h2, hr⟩
  · exact .inl h
  · exact .inr ⟨g, off, hA, h1, h2, hr.congr e⟩
end

theorem Mine.far {w : World} {lo hi n : Nat} {A : Option Addr} {f : Nat → Value} {t : TypeId} (h : Mine w lo hi t A n f) {p : Addr} (hp : p.block < lo) (u : Value) : Mine (w.setCell p u) lo hi t A n f :=
  h.keep fun b h1 _ => Below.heap_setCell w p u b (by omega)
def Ans (t : TypeId) (r : Int × List Int) (w : World) (e : Ending) (w' : World) : Prop :=
  ∃ A n c, e = .returned (.agg #[.int .i64 r.1, .slice A n c]) ∧ r.2.length = n ∧ (A = none → c = 0) ∧ Mine w' w.heap.size w'.heap.size t A n (fun k => .int .i64 (gi r.2 k)) ∧ Below w.heap.size w w'
theorem ans_code {t : TypeId} {q : Int} {r : Int × List Int} {w w' : World} (h : r = (q, [])) (hb : Below w.heap.size w w') : Ans t r w (.returned (.agg #[.int .i64 q, .slice none 0 0])) w' := by
  subst h
  exact ⟨none, 0, 0, rfl, rfl, fun _ => rfl, .inl rfl, hb⟩
theorem below_new (w : World) (o : Obj) : Below w.heap.size w (w.alloc o) := (Below.refl _ _).alloc (Nat.le_refl _) o

theorem blk2_set {w : World} {g : Nat} {a b : Value} {t : TypeId} (h : w.heap[g]? = some (.cells #[a, b] t (0, 0))) (a' b' : Value) :
    ((w.setCell ⟨g, 0, none⟩ a').setCell ⟨g, 1, none⟩ b').heap[g]? = some (.cells #[a', b'] t (0, 0)) :=
  heap_setCell_same _ g 1 _ t b' (heap_setCell_same w g 0 _ t a' h)
theorem ans_ok {t : TypeId} {r : Int × List Int} {w w1 : World} {q : Int} {A : Option Addr} {n c : Nat} {f : Nat → Value} {ys : List Int} (hr : r = (q, ys)) (hb : Below w.heap.size w w1) (hl : ys.length = n) (hA : A = none → c = 0)
    (hm : Mine w1 (w.heap.size + 1) w1.heap.size t A n f) (hf : ∀ j, j < n → f j = .int .i64 (gi ys j)) (u v : Value) :
    Ans t r w (.returned (.agg #[.int .i64 q, .slice A n c])) ((w1.setCell ⟨w.heap.size, 0, none⟩ u).setCell ⟨w.heap.size, 1, none⟩ v) := by
  subst hr
  refine ⟨A, n, c, rfl, hl, hA, ?_, (hb.setCell (Nat.le_refl _) _).setCell (Nat.le_refl _) _⟩
  have := ((hm.far (p := ⟨w.heap.size, 0, none⟩) (by simp) u).far (p := ⟨w.heap.size, 1, none⟩) (by simp) v).congr hf
  exact this.wide (by omega) (by simp [World.setCell])

theorem own_base {w : World} {base : Nat} {e : TypeId} {v : Value} {n size : Nat} {xs : List Value} (h : w.ownsRow base e size v n xs) : ∀ k, v.ownBlock = some k → base ≤ k := by
  intro k hk
  rcases h.2 with ⟨rfl, _⟩ | ⟨g, cap, cur, rfl, hg, _⟩
  · cases hk
  · have : some g = some k := hk
    injection this with e
    omega
theorem wpList_load_rowg {P : Program} {ops : Array Oper} {rest : List Oper} {o : Oper} {a : Act} {w : World} {Q : Exit → Act → World → Prop} (hw : Region.wanted o (yielded ops a.tmps) = true) (ty : TypeId) (x : Operand) (ho : o.op = .load ty x)
    (g : Nat) (hx : a.eval x = .pointer (some ⟨g, 0, none⟩)) (t : TypeId) (cs : Array Value) (fr : Nat × Nat) (d : TypeDesc) (hg : w.heap[g]? = some (.cells cs t fr))
    (hu : P.underlying ty = some d) (hd : (match d with | .struct _ | .array _ _ => true | _ => false) = true) (hi : (P.info? ty).map (·.size) = some cs.size)
    (h : wpList P ops Q rest (a.put o.dst (.agg cs)) w) : wpList P ops Q (o :: rest) a w :=
  BigFrame.wpList_want hw fun _ hK => wp_load_row ty x ho g hx t cs fr d hg hu hd hi (hK _ _ h)

theorem mine_of_own {w : World} {base : Nat} {e : TypeId} {v : Value} {n : Nat} {xs : List Value} (h : w.ownsRow base e 1 v n xs) :
    ∃ A c, v = .slice A n c ∧ n ≤ c ∧ (A = none → c = 0) ∧ Mine w base w.heap.size e A n (fun k => xs.getD k undef) := by
  obtain ⟨hl, h⟩ := h
  rcases h with ⟨rfl, rfl⟩ | ⟨g, cap, cur, rfl, hg, hh, hn, _, hs, ht⟩
  · exact ⟨none, 0, rfl, Nat.le_refl _, fun _ => rfl, .inl rfl⟩
  · refine ⟨_, cap, rfl, hn, fun h => by simp at h, .inr ⟨g, 0, rfl, hg, (Array.getElem?_eq_some_iff.1 hh).1, cur, hh, fun k hk => ?_⟩⟩
    have e1 : xs[k]? = cur.toList[k]? := by
      rw [← ht, List.getElem?_take, if_pos (by omega)]
    have hk' : k < xs.length := by omega
    rw [Nat.zero_add]
    have e2 : cur[k]? = cur.toList[k]? := by simp
    rw [e2, ← e1, List.getElem?_eq_getElem hk']
    simp [List.getD_eq_getElem?_getD, List.getElem?_eq_getElem hk']

def Only (lo hi : Nat) (w w' : World) : Prop := Below lo w w' ∧ ∀ b, hi ≤ b → b < w.heap.size → w'.heap[b]? = w.heap[b]?
theorem Only.refl (lo hi : Nat) (w : World) : Only lo hi w w := ⟨Below.refl _ _, fun _ _ _ => rfl⟩
theorem Only.setCell {lo hi : Nat} {w w' : World} (h : Only lo hi w w') {p : Addr} (h1 : lo ≤ p.block) (h2 : p.block < hi) (u : Value) : Only lo hi w (w'.setCell p u) :=
  ⟨h.1.setCell h1 u, fun b hb hs => (Below.heap_setCell w' p u b (by omega)).trans (h.2 b hb hs)⟩
theorem Only.of_below {lo hi : Nat} {w w' : World} (h : Below w.heap.size w w') (hlo : lo ≤ w.heap.size) : Only lo hi w w' := ⟨h.mono hlo, fun b _ hs => h.block b hs⟩
theorem Only.trans {lo hi : Nat} {a b c : World} (h : Only lo hi a b) (k : Only lo hi b c) : Only lo hi a c :=
  ⟨h.1.trans k.1, fun i hi hs => (k.2 i hi (Nat.lt_of_lt_of_le hs h.1.size)).trans (h.2 i hi hs)⟩
theorem Only.block {lo hi b : Nat} {w w' : World} (h : Only lo hi w w') (hs : b < w.heap.size) (hb : b < lo ∨ hi ≤ b) : w'.heap[b]? = w.heap[b]? := by
  rcases hb with hb | hb
  · exact h.1.block b hb
  · exact h.2 b hb hs
theorem Sl.only {w w' : World} {lo hi lo' hi' n : Nat} {A : Option Addr} {f : Nat → Value} (h : Sl w lo hi A n f) (ho : Only lo' hi' w w') (hs : hi ≤ w.heap.size) (hd : hi ≤ lo' ∨ hi' ≤ lo) : Sl w' lo hi A n f :=
  h.keep fun b h1 h2 => ho.block (by omega) (by omega)
theorem Mine.only {w w' : World} {lo hi lo' hi' n : Nat} {A : Option Addr} {f : Nat → Value} {t : TypeId} (h : Mine w lo hi t A n f) (ho : Only lo' hi' w w') (hs : hi ≤ w.heap.size) (hd : hi ≤ lo' ∨ hi' ≤ lo) : Mine w' lo hi t A n f :=
  h.keep fun b h1 h2 => ho.block (by omega) (by omega)

theorem same_lists {xs ys : List Int} {n : Nat} (ex : xs.length = n) (ey : ys.length = n) (h : ∀ j, j < n → gi xs j = gi ys j) : xs = ys := by
  apply List.ext_getElem (by omega)
  intro j h1 h2
  have := h j (by omega)
  rwa [gi_lt xs j h1, gi_lt ys j h2] at this

theorem upto_succ {p : Nat → Prop} {k : Nat} (h : ∀ j, j < k → p j) (hk : p k) : ∀ j, j < k + 1 → p j := fun j hj => by
  rcases Nat.lt_or_ge j k with h' | h'
  · exact h j h'
  · obtain rfl : j = k := by omega
    exact hk
theorem ret_true {p : Prop} [Decidable p] (h : p) : Ending.returned (.bool true) = .returned (.bool (decide p)) := by rw [decide_eq_true h]
theorem ret_false {p : Prop} [Decidable p] (h : ¬ p) : Ending.returned (.bool false) = .returned (.bool (decide p)) := by rw [decide_eq_false h]
theorem ret_bool {a b : Bool} (h : a = b) : Ending.returned (.bool a) = .returned (.bool b) := by rw [h]
theorem ret_i64 {a b : Int} (h : a = b) : Ending.returned (.int .i64 a) = .returned (.int .i64 b) := by rw [h]



theorem tkH {P : Program} {md : Region.Mode} {ops : Array Oper} {Q : Exit → Act → World → Prop} {S : World → Prop} (i : Nat) (v : Value) {oi : Oper} {fuel : Nat} {listed : Array Bool} {a : Act} {w : World} (hi : ops[i]? = some oi)
    (hv : ∀ w, S w → (execOp a.eval oi).run P w = .ok (.value v) w) (hS : S w) (h : wpAnyH P md ops Q S fuel (listed.setIfInBounds i true) (a.put oi.dst v) w)
    (hs : Region.noSelect ops = true := by kernel_rfl) (hf : Region.free md ops listed i = true := by kernel_rfl) (hr : (Region.ready md ops listed).contains i = true := by kernel_rfl)
    (hQ : ∀ c a w, Q (.panic c) (a.put oi.dst v) w → Q (.panic c) a w := by exact fun _ _ _ h => h) (hw : Region.wanted oi (yielded ops a.tmps) = true := by rfl) : wpAnyH P md ops Q S (fuel + 1) listed a w :=
  wpAnyH_take hi hs hf hr hQ (Or.inl ⟨hw, hv⟩) hS h
theorem tuH {P : Program} {md : Region.Mode} {ops : Array Oper} {Q : Exit → Act → World → Prop} {S : World → Prop} (i : Nat) {oi : Oper} {fuel : Nat} {listed : Array Bool} {a : Act} {w : World} (hi : ops[i]? = some oi)
    (hS : S w) (h : wpAnyH P md ops Q S fuel (listed.setIfInBounds i true) (a.put oi.dst undef) w)
    (hs : Region.noSelect ops = true := by kernel_rfl) (hf : Region.free md ops listed i = true := by kernel_rfl) (hr : (Region.ready md ops listed).contains i = true := by kernel_rfl)
    (hQ : ∀ c a w, Q (.panic c) (a.put oi.dst undef) w → Q (.panic c) a w := by exact fun _ _ _ h => h) (hw : Region.wanted oi (yielded ops a.tmps) = false := by rfl) : wpAnyH P md ops Q S (fuel + 1) listed a w :=
  wpAnyH_take hi hs hf hr hQ (Or.inr ⟨hw, rfl⟩) hS h



theorem Tryz.info_i64 : (Tryz.prog.info? 2).map (fun i => (i.zero, i.size, i.bytes)) = some (some (.int .i64 0), 1, 8) := by kernel_rfl

theorem specSameInts_any (lo hi lo' hi' : Nat) (A A' : Option Addr) (xs ys : List Int) (n n' c c' : Nat) (w : World) (hn : n * 8 ≤ 140737488351232) (ex : xs.length = n) (ey : ys.length = n')
    (h : Sl w lo hi A n (fun k => .int .i64 (gi xs k))) (h' : Sl w lo' hi' A' n' (fun k => .int .i64 (gi ys k))) :
    Calls Tryz.prog 97 #[.slice A n c, .slice A' n' c'] w fun e w' => e = .returned (.bool (decide (xs = ys))) ∧ Below w.heap.size w w' := by
  have H := Lib.hid h
  have H' := Lib.hid h'
  have EX := Lib.hid ex
  have EY := Lib.hid ey
  clear h h' ex ey
  by_cases hne : n = n'
  · subst hne
    go_enter Tryz.func97, Tryz.ntmps97
    go_wp2
    go_loopw [5] (fun i wr => ∃ k : Nat, k ≤ n ∧ i = .int .i64 k ∧ Below w.heap.size w wr ∧ ∀ j, j < k → gi xs j = gi ys j) (fun i _ => n - (intOf i).toNat)
    case atStart => exact ⟨0, Nat.zero_le _, rfl, Below.refl _ _, fun j hj => absurd hj (Nat.not_lt_zero _)⟩
    case round =>
      obtain ⟨k, hk, rfl, hb, hs⟩ := hrel
      by_cases hlt : k < n
      · obtain ⟨b, off, rfl, h1, h2, hc⟩ := H.out.lt.at_ hlt
        obtain ⟨b', off', rfl, h1', h2', hc'⟩ := H'.out.lt.at_ hlt
        have hck := (hb.cell (p := ⟨b, off + k, none⟩) (by simp; omega)).trans (hc k hlt)
        have hck' := (hb.cell (p := ⟨b', off' + k, none⟩) (by simp; omega)).trans (hc' k hlt)
        have HB := Lib.hid hb
        have HS := Lib.hid hs
        clear hb hc hc' hs H H'
        go_wp2_with fail
        go_quiet (fail)
        by_cases he : gi xs k = gi ys k
        · go_wp2
          go_roundw
          case rel => exact ⟨k + 1, by omega, by go_num, below_drewN HB.out _, upto_succ HS.out he⟩
          case measure => simp [intOf]; omega
        · go_wp2
          go_ret
          exact ⟨ret_false (fun h => he (by rw [h])), below_drewN HB.out _⟩
      · go_wp2
        go_ret
        exact ⟨ret_true (same_lists EX.out EY.out fun j hj => hs j (by omega)), hb⟩
  · go_enter Tryz.func97, Tryz.ntmps97
    go_wp2
    go_ret
    exact ⟨ret_false (fun h => hne (by rw [← EX.out, ← EY.out, h])), Below.refl _ _⟩


open Go.ChangeShapes Go.WideShapes Go.ChangeAt Go.RowKit
set_option maxRecDepth 100000

theorem own : ownKnob Tryz.prog.godebug = none := by kernel_rfl
theorem laidOut : laidOutB Tryz.prog = true := by kernel_rfl

theorem trodAll_below {H : Type} {enc : TypeId × Value → H} {P : Program} (hl : laidOutB P = true) {W W' : World} (hb : Below W.heap.size W W') (ts : List TypeId) :
    ∀ (vs : List Value) (ds : List (DataW H)) (ps : List MemPlace), ts.all (fun t => P.readableRec t && decide (t < P.types.size)) = true →
      DataW.TrodAll enc P W 0 (fun _ => true) true ts vs ds ps → (∀ x ∈ ps, x.block < W.heap.size) →
      DataW.TrodAll enc P W' 0 (fun b => decide (b < W.heap.size)) true ts vs ds ps := by
  induction ts with
  | nil =>
    intro vs ds ps _ h _
    obtain ⟨rfl, rfl, rfl⟩ := trodAll_nil h
    exact trodAll_mk0
  | cons t ts ih =>
    intro vs ds ps ht h hlt
    obtain ⟨v, vs', d, ds', p, q, rfl, rfl, rfl, h0, r0⟩ := trodAll_cons h
    rw [List.all_cons, Bool.and_eq_true, Bool.and_eq_true] at ht
    exact trodAll_cons_mk (Below.trod hl ht.1.1 (of_decide_eq_true ht.1.2) h0 hb (fun x hx => hlt x (List.mem_append_left _ hx)))
      (ih vs' ds' q ht.2 r0 (fun x hx => hlt x (List.mem_append_right _ hx)))

theorem law_post {H : Type} {enc : TypeId × Value → H} {fn : Func} {S : ChangeSpec} {W : World} {args : Array Value} {ds gs : List (DataW H)} {before : List MemPlace} {K : FuncId}
    (hW : DataW.Whole enc Tryz.prog fn.params.toList S.vars false W args.toList ds gs before) (hv : S.vars = [])
    (hfn : S.fn H (ds ++ gs) = { results := [.lit (.bool true)], args := ds }) (hres : fn.resultTypes = #[4])
    (hts : fn.params.toList.all (fun t => Tryz.prog.readableRec t && decide (t < Tryz.prog.types.size)) = true)
    (walk : Calls Tryz.prog K args W fun e w' => e = .returned (.bool true) ∧ Below W.heap.size W w') :
    Calls Tryz.prog K args W fun e W' => ∃ v, e = .returned v ∧ S.post enc Tryz.prog fn false true false false W args v W' := by
  refine walk.mono fun e W' ⟨he, bel⟩ => ?_
  subst he
  have hW' := hW
  obtain ⟨p, q, hA, hV, rfl, hfz, hnd⟩ := hW
  have hlt : ∀ x ∈ p ++ q, x.block < W.heap.size := fun x hx => hW'.lt x hx
  rw [hv] at hV
  obtain ⟨rfl, rfl⟩ := trodVars_none hV
  refine ⟨_, rfl, ds, [], p ++ [], [], p, [], hW', ?_, ?_, ?_, bel.frame _, fun h => by cases h⟩
  · rw [hfn, hres]
    exact trodAll_mk1 (shut_bool Tryz.underlying4 _)
  · rw [hfn]
    exact trodAll_below laidOut bel _ _ _ _ hts hA (fun x hx => hlt x (List.mem_append_left _ hx))
  · rw [hfn, hv]
    rfl



theorem open_u8s {H : Type} {enc : TypeId × Value → H} {W : World} {r : Reach} {b0 : Nat} {v : Value} {d : DataW H} {ps : List MemPlace}
    (hval : Value.okWide Tryz.prog W r b0 22 v) (h : DataW.Trod enc Tryz.prog W 0 (fun _ => true) true 22 v d ps) :
    ∃ A n c xs, v = .slice A n c ∧ n ≤ c ∧ xs.length = n ∧ Sl W 0 W.heap.size A n (fun k => .int .u8 (gi xs k)) ∧ ∀ k, 0 ≤ gi xs k ∧ gi xs k ≤ 255 := by
  obtain ⟨a0, len0, cap0, rfl⟩ := okWide_slice Tryz.underlying22 hval
  obtain ⟨fuel, hf⟩ := h
  rcases open_ints Tryz.underlying22 Tryz.underlying5 (by kernel_rfl) hf with ⟨hcs, _⟩ | ⟨x, l, c, zs, hcs, _, hl, hm, hz, _, hcell, hwz⟩
  · simp [Value.cells] at hcs
    obtain ⟨rfl, rfl, rfl⟩ := hcs
    exact ⟨none, 0, 0, [], rfl, Nat.le_refl _, rfl, Sl.nil, fun k => by simp [gi]⟩
  · simp [Value.cells] at hcs
    obtain ⟨rfl, rfl, rfl⟩ := hcs
    simp only [if_true] at hz
    have hg : ∀ k, k < len0 → gi (zs.take len0) k = gi zs k := fun k hk => by simp [gi, hk]
    refine ⟨some x, len0, cap0, zs.take len0, rfl, hl, by simp; omega, ?_, fun k => ?_⟩
    · intro k hk
      obtain ⟨b, off, spot⟩ := x
      have hspot : spot = none := by simpa [Addr.add] using World.cell?_spot (hcell 0 (by omega))
      subst hspot
      have hc := hcell k (by omega)
      rw [add_plain] at hc
      have hbl := World.block_lt_of_cell? _ _ hc
      refine ⟨b, off, rfl, Nat.zero_le _, hbl, ?_⟩
      rw [hc]
      show _ = some (Value.int .u8 (gi (zs.take len0) k))
      rw [hg k hk]
      rfl
    · by_cases hk : k < len0
      · rw [hg k hk, gi_lt zs k (by omega)]
        have := hwz _ (List.getElem_mem (show k < zs.length by omega))
        have h1 : IntKind.u8.min = 0 := rfl
        have h2 : IntKind.u8.max = 255 := rfl
        simp only [Lit.wf, Bool.and_eq_true, decide_eq_true_eq, h1, h2] at this
        exact this
      · have : gi (zs.take len0) k = 0 := by unfold gi; rw [List.getD_eq_getElem?_getD, List.getElem?_eq_none (by simp; omega)]; rfl
        rw [this]
        decide

end Go.Proofs.YtckapndpefkcgaaGreat
