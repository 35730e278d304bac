/-
  What the loop of a run keeps, the model's and the program's, and what a run answers. No program's function is named here.
-/
import Derived.Maps.AppendAt
import Derived.Deep.AppendLies
import Derived.Test.YtckapndpefkcgaaGreatSpec3x
import Derived.Test.YtckapndpefkcgaaGreatMath3r
set_option maxHeartbeats 1000000
namespace Go.Proofs.YtckapndpefkcgaaGreat
open Go.RowKit
set_option maxRecDepth 100000

theorem blk_ne {w : World} {a b : Nat} {cs cs' : Array Value} {t t' : TypeId} (h : w.heap[a]? = some (.cells cs t (0, 0))) (k : w.heap[b]? = some (.cells cs' t' (0, 0))) (ht : t ≠ t') : a ≠ b := by
  rintro rfl
  rw [h] at k
  injection k with k
  injection k with _ k _
  exact ht k
theorem or_blk {t : TypeId} {m : Nat} {w : World} {base n c g : Nat} {hs : List Int} (h : OR t m w base (some ⟨g, 0, none⟩) n c hs) : ∃ cs, w.heap[g]? = some (.cells cs t (0, 0)) := by
  obtain ⟨cs, e, _⟩ := h.row
  exact ⟨cs, e⟩
theorem mine_blk {w : World} {g n : Nat} {t : TypeId} {A : Option Addr} {f : Nat → Value} (h : Mine w g (g + 1) t A n f) (hn : n ≠ 0) : ∃ cs, w.heap[g]? = some (.cells cs t (0, 0)) := by
  rcases h with h | ⟨g', off, _, h1, h2, cs, e, _⟩
  · exact absurd h hn
  · obtain rfl : g' = g := by omega
    exact ⟨cs, e⟩
theorem own_ne3 {t t' : TypeId} {m : Nat} {w : World} {base n c s : Nat} {A : Option Addr} {hs : List Int} {cs : Array Value} (hk : w.heap[s]? = some (.cells cs t' (0, 0))) (ht : t ≠ t') (h : OR t m w base A n c hs) : some s ≠ (Value.slice A n c).ownBlock := by
  intro e
  rcases h.2 with ⟨h0, _⟩ | ⟨g', cap', cur, h0, _, hg, _⟩
  · injection h0 with h0 _ _; subst h0; cases e
  · injection h0 with h0 _ _
    subst h0
    have e' : s = g' := Option.some.inj e
    subst e'
    rw [hk] at hg
    injection hg with hg
    injection hg with _ hg _
    exact ht hg.symm
theorem own_ap3 {t : TypeId} {m : Nat} {w : World} {base n c s : Nat} {A : Option Addr} {hs : List Int} (h : OR t m w base A n c hs) (ap : ∀ b, A = some ⟨b, 0, none⟩ → b ≠ s) : some s ≠ (Value.slice A n c).ownBlock := by
  intro e
  rcases A with _ | ad
  · cases e
  · obtain ⟨b, e1, _⟩ := OR.at_ h (by simp)
    injection e1 with e1
    subst e1
    have e2 : s = b := Option.some.inj e
    exact ap b rfl e2.symm
theorem KOwn.keepB {w V : World} {p : Kp} {K : Ker} (h : KOwn w p K) (h1 : V.heap[p.g1]? = w.heap[p.g1]?) (h2 : V.heap[p.g2]? = w.heap[p.g2]?) (h3 : V.heap[p.g3]? = w.heap[p.g3]?) : KOwn V p K := by
  have e1 : ∀ b, p.g1 ≤ b → b < p.g1 + 1 → V.heap[b]? = w.heap[b]? := fun b x y => by
    obtain rfl : b = p.g1 := by omega
    exact h1
  have e2 : ∀ b, p.g2 ≤ b → b < p.g2 + 1 → V.heap[b]? = w.heap[b]? := fun b x y => by
    obtain rfl : b = p.g2 := by omega
    exact h2
  have e3 : ∀ b, p.g3 ≤ b → b < p.g3 + 1 → V.heap[b]? = w.heap[b]? := fun b x y => by
    obtain rfl : b = p.g3 := by omega
    exact h3
  exact ⟨h.l1, h.l2, h.l3, h.nil1, h.m1.keep e1, h.m2.keep e2, h.m3.keep e3, h.d12, h.d13, h.d23⟩
theorem set8_block {W : World} {s : Nat} {t : TypeId} {u0 u1 u2 u3 u4 u5 u6 u7 : Value} (h : W.heap[s]? = some (.cells #[u0, u1, u2, u3, u4, u5, u6, u7] t (0, 0))) (v6 : Value) : (W.setCell ⟨s, 6, none⟩ v6).heap[s]? = some (.cells #[u0, u1, u2, u3, u4, u5, v6, u7] t (0, 0)) := heap_setCell_same _ _ 6 _ _ _ h
theorem set8_block7 {W : World} {s : Nat} {t : TypeId} {u0 u1 u2 u3 u4 u5 u6 u7 : Value} (h : W.heap[s]? = some (.cells #[u0, u1, u2, u3, u4, u5, u6, u7] t (0, 0))) (v7 : Value) : (W.setCell ⟨s, 7, none⟩ v7).heap[s]? = some (.cells #[u0, u1, u2, u3, u4, u5, u6, v7] t (0, 0)) := heap_setCell_same _ _ 7 _ _ _ h

structure LoopR (w W : World) (g h : Nat) (p : Kp) (K : Ker) (A4 : Option Addr) (k c4 : Nat) (cs : List Int) (A5 : Option Addr) (m c5 : Nat) (ns : List Int) : Prop where
  kb : KB W g p K
  n1 : 1 ≤ p.n1
  box : W.heap[h]? = some (.cells #[.int .i64 0, .slice none 0 0, .slice none 0 0, .slice none 0 0, .int .i64 0, .int .i64 0, .slice A4 k c4, .slice A5 m c5] 41 (0, 0))
  oc : OR 2 1 W w.heap.size A4 k c4 cs
  on : OR 96 3 W w.heap.size A5 m c5 ns
  ap : ∀ b, A4 = some ⟨b, 0, none⟩ → b ≠ p.g1
  lo : (w.heap.size ≤ g ∧ w.heap.size ≤ h) ∧ w.heap.size ≤ p.g1 ∧ w.heap.size ≤ p.g2 ∧ w.heap.size ≤ p.g3
  bw : Below w.heap.size w W
theorem LoopR.event {w W : World} {g h : Nat} {p : Kp} {K : Ker} {A4 : Option Addr} {k c4 : Nat} {cs : List Int} {A5 : Option Addr} {m c5 : Nat} {ns : List Int} (J : LoopR w W g h p K A4 k c4 cs A5 m c5 ns) {W1 : World} {p' : Kp} {K' : Ker} (kb : KB W1 g p' K') (n1 : 1 ≤ p'.n1) (e1 : p'.g1 = p.g1 ∨ W.heap.size ≤ p'.g1) (e2 : p'.g2 = p.g2) (e3 : p'.g3 = p.g3) (kk : Kept [g, p.g2, p.g3] W W1) : LoopR w W1 g h p' K' A4 k c4 cs A5 m c5 ns := by
  obtain ⟨x2, hx2⟩ := mine_blk J.kb.own.m2 (by decide)
  obtain ⟨x3, hx3⟩ := mine_blk J.kb.own.m3 (by decide)
  have nb : ∀ {b : Nat} {cs' : Array Value} {t : TypeId}, W.heap[b]? = some (.cells cs' t (0, 0)) → t ≠ 39 → t ≠ 4 → t ≠ 68 → b ∉ [g, p.g2, p.g3] := fun hb n1 n2 n3 => by
    simp only [List.mem_cons, List.not_mem_nil, or_false, not_or]
    exact ⟨blk_ne hb J.kb.box n1, blk_ne hb hx2 n2, blk_ne hb hx3 n3⟩
  have zb := J.bw.size
  refine ⟨kb, n1, ?_, ?_, ?_, fun b hb => ?_, ⟨J.lo.1, ?_, by rw [e2]; exact J.lo.2.2.1, by rw [e3]; exact J.lo.2.2.2⟩, ?_⟩
  · exact (kk.2 h (Array.getElem?_eq_some_iff.1 J.box).1 (nb J.box (by decide) (by decide) (by decide))).trans J.box
  · refine J.oc.kept kk fun b e => ?_
    have hoc := J.oc
    rw [e] at hoc
    obtain ⟨_, hx⟩ := or_blk hoc
    exact nb hx (by decide) (by decide) (by decide)
  · refine J.on.kept kk fun b e => ?_
    have hoc := J.on
    rw [e] at hoc
    obtain ⟨_, hx⟩ := or_blk hoc
    exact nb hx (by decide) (by decide) (by decide)
  · rcases e1 with e1 | e1
    · rw [e1]; exact J.ap b hb
    · have hoc := J.oc
      rw [hb] at hoc
      have := hoc.lt
      omega
  · rcases e1 with e1 | e1
    · rw [e1]; exact J.lo.2.1
    · omega
  · refine J.bw.trans (kk.below zb fun b hb => ?_)
    have := J.lo
    simp only [List.mem_cons, List.not_mem_nil, or_false] at hb
    rcases hb with rfl | rfl | rfl
    · exact J.lo.1.1
    · exact J.lo.2.2.1
    · exact J.lo.2.2.2

structure LoopI (w W : World) (h : Nat) (p : Kp) (K : Ker) (A4 : Option Addr) (k c4 : Nat) (cs : List Int) (A5 : Option Addr) (m c5 : Nat) (ns : List Int) : Prop where
  own : KOwn W p K
  n1 : 1 ≤ p.n1
  box : W.heap[h]? = some (.cells #[.int .i64 0, .slice p.A1 p.n1 p.c1, .slice p.A2 4 p.c2, .slice p.A3 4 p.c3, .int .i64 K.tick, .int .i64 K.run, .slice A4 k c4, .slice A5 m c5] 41 (0, 0))
  oc : OR 2 1 W w.heap.size A4 k c4 cs
  on : OR 96 3 W w.heap.size A5 m c5 ns
  ap : ∀ b, A4 = some ⟨b, 0, none⟩ → b ≠ p.g1
  lo : w.heap.size ≤ h ∧ w.heap.size ≤ p.g1 ∧ w.heap.size ≤ p.g2 ∧ w.heap.size ≤ p.g3
  bw : Below w.heap.size w W
theorem LoopI.below {w W : World} {h : Nat} {p : Kp} {K : Ker} {A4 : Option Addr} {k c4 : Nat} {cs : List Int} {A5 : Option Addr} {m c5 : Nat} {ns : List Int} (J : LoopI w W h p K A4 k c4 cs A5 m c5 ns) {W1 : World} (hb : Below W.heap.size W W1) : LoopI w W1 h p K A4 k c4 cs A5 m c5 ns := by
  obtain ⟨x1, hx1⟩ := mine_blk J.own.m1 (by have := J.n1; omega)
  obtain ⟨x2, hx2⟩ := mine_blk J.own.m2 (by decide)
  obtain ⟨x3, hx3⟩ := mine_blk J.own.m3 (by decide)
  have lt : ∀ {b : Nat} {o : Obj}, W.heap[b]? = some o → W1.heap[b]? = W.heap[b]? := fun hb' => hb.block _ (Array.getElem?_eq_some_iff.1 hb').1
  exact ⟨J.own.keepB (lt hx1) (lt hx2) (lt hx3), J.n1, (lt J.box).trans J.box, J.oc.below hb (Nat.le_refl _), J.on.below hb (Nat.le_refl _), J.ap, J.lo, J.bw.trans (hb.mono J.bw.size)⟩

theorem LoopR.code {w W : World} {g h : Nat} {p : Kp} {K : Ker} {A4 : Option Addr} {k c4 : Nat} {cs : List Int} {A5 : Option Addr} {m c5 : Nat} {ns : List Int} (J : LoopR w W g h p K A4 k c4 cs A5 m c5 ns) (q : Int) {V : World} {A' : Option Addr} {cap : Nat} (hown : OR 2 1 V w.heap.size A' (k + 1) cap (cs ++ [q])) (hg : (W.alloc (.cells #[.int .i64 q] 2)).grownBy V (Value.slice A4 k c4).ownBlock)
    (hat : (Value.slice A' (k + 1) cap).ownBlock = (Value.slice A4 k c4).ownBlock ∨ (Value.slice A' (k + 1) cap).ownBlock = some (W.alloc (.cells #[.int .i64 q] 2)).heap.size) :
    LoopR w (V.setCell ⟨h, 6, none⟩ (.slice A' (k + 1) cap)) g h p K A' (k + 1) cap (cs ++ [q]) A5 m c5 ns := by
  obtain ⟨x1, hx1⟩ := mine_blk J.kb.own.m1 (by have := J.n1; omega)
  obtain ⟨x2, hx2⟩ := mine_blk J.kb.own.m2 (by decide)
  obtain ⟨x3, hx3⟩ := mine_blk J.kb.own.m3 (by decide)
  have KV : ∀ b, b < W.heap.size → some b ≠ (Value.slice A4 k c4).ownBlock → V.heap[b]? = W.heap[b]? := fun b hb hne => (hg.block b (by simp; omega) hne).trans (Below.heap_alloc _ _ _ hb)
  have lt : ∀ {b : Nat} {o : Obj}, W.heap[b]? = some o → b < W.heap.size := fun hb' => (Array.getElem?_eq_some_iff.1 hb').1
  have S : ∀ b, b ≠ h → (V.setCell ⟨h, 6, none⟩ (.slice A' (k + 1) cap)).heap[b]? = V.heap[b]? := fun b hb => Below.heap_setCell _ _ _ _ hb
  have hV : V.heap[h]? = some (.cells #[.int .i64 0, .slice none 0 0, .slice none 0 0, .slice none 0 0, .int .i64 0, .int .i64 0, .slice A4 k c4, .slice A5 m c5] 41 (0, 0)) := (KV h (lt J.box) (own_ne3 J.box (by decide) J.oc)).trans J.box
  have k1 : (V.setCell ⟨h, 6, none⟩ (.slice A' (k + 1) cap)).heap[p.g1]? = W.heap[p.g1]? := (S _ (blk_ne hx1 J.box (by decide))).trans (KV _ (lt hx1) (own_ap3 J.oc J.ap))
  have k2 : (V.setCell ⟨h, 6, none⟩ (.slice A' (k + 1) cap)).heap[p.g2]? = W.heap[p.g2]? := (S _ (blk_ne hx2 J.box (by decide))).trans (KV _ (lt hx2) (own_ne3 hx2 (by decide) J.oc))
  have k3 : (V.setCell ⟨h, 6, none⟩ (.slice A' (k + 1) cap)).heap[p.g3]? = W.heap[p.g3]? := (S _ (blk_ne hx3 J.box (by decide))).trans (KV _ (lt hx3) (own_ne3 hx3 (by decide) J.oc))
  have other : ∀ b, A5 = some ⟨b, 0, none⟩ → (V.setCell ⟨h, 6, none⟩ (.slice A' (k + 1) cap)).heap[b]? = W.heap[b]? := fun b e => by
    have hoc := J.on
    rw [e] at hoc
    obtain ⟨_, hx⟩ := or_blk hoc
    exact (S _ (blk_ne hx J.box (by decide))).trans (KV _ (lt hx) (own_ne3 hx (by decide) J.oc))
  have mine' : OR 2 1 (V.setCell ⟨h, 6, none⟩ (.slice A' (k + 1) cap)) w.heap.size A' (k + 1) cap (cs ++ [q]) := hown.keepAll fun b e => S b (by
    subst e
    obtain ⟨_, hx⟩ := or_blk hown
    exact blk_ne hx hV (by decide))
  have hz : w.heap.size ≤ W.heap.size := J.bw.size
  have bV : Below w.heap.size w V := (J.bw.alloc hz _).grown hg (by simp; omega) (fun b e => by
    have hoc := J.oc
    rcases A4 with _ | ad
    · cases e
    · obtain ⟨b', e1, h1, _⟩ := OR.at_ hoc (by simp)
      injection e1 with e1
      subst e1
      have e2 : b' = b := Option.some.inj e
      omega)
  refine ⟨⟨(S _ (blk_ne J.kb.box J.box (by decide)) |>.trans (KV _ (lt J.kb.box) (own_ne3 J.kb.box (by decide) J.oc))).trans J.kb.box, J.kb.own.keepB k1 k2 k3, J.kb.e1, J.kb.e2, J.kb.e3⟩, J.n1, set8_block hV _, mine', J.on.keepAll other, ?_, J.lo, bV.setCell (p := ⟨h, 6, none⟩) J.lo.1.2 _⟩
  exact fun b e => by
    subst e
    rcases hat with h1 | h1
    · intro e2
      exact own_ap3 J.oc J.ap ((congrArg some e2).symm.trans h1)
    · have e2 : b = (W.alloc (.cells #[.int .i64 q] 2)).heap.size := Option.some.inj h1
      have := lt hx1
      simp at e2
      omega
theorem LoopR.notes {w W : World} {g h : Nat} {p : Kp} {K : Ker} {A4 : Option Addr} {k c4 : Nat} {cs : List Int} {A5 : Option Addr} {m c5 : Nat} {ns : List Int} (J : LoopR w W g h p K A4 k c4 cs A5 m c5 ns) {mm : Nat} {more : List Int} {V : World} {A' : Option Addr} {cap : Nat} (hown : OR 96 3 V w.heap.size A' (m + mm) cap (ns ++ more)) (hg : W.grownBy V (Value.slice A5 m c5).ownBlock)
    (hat : (Value.slice A' (m + mm) cap).ownBlock = (Value.slice A5 m c5).ownBlock ∨ (Value.slice A' (m + mm) cap).ownBlock = some W.heap.size) :
    LoopR w (V.setCell ⟨h, 7, none⟩ (.slice A' (m + mm) cap)) g h p K A4 k c4 cs A' (m + mm) cap (ns ++ more) := by
  obtain ⟨x1, hx1⟩ := mine_blk J.kb.own.m1 (by have := J.n1; omega)
  obtain ⟨x2, hx2⟩ := mine_blk J.kb.own.m2 (by decide)
  obtain ⟨x3, hx3⟩ := mine_blk J.kb.own.m3 (by decide)
  have KV : ∀ b, b < W.heap.size → some b ≠ (Value.slice A5 m c5).ownBlock → V.heap[b]? = W.heap[b]? := fun b hb hne => hg.block b hb hne
  have lt : ∀ {b : Nat} {o : Obj}, W.heap[b]? = some o → b < W.heap.size := fun hb' => (Array.getElem?_eq_some_iff.1 hb').1
  have S : ∀ b, b ≠ h → (V.setCell ⟨h, 7, none⟩ (.slice A' (m + mm) cap)).heap[b]? = V.heap[b]? := fun b hb => Below.heap_setCell _ _ _ _ hb
  have hV : V.heap[h]? = some (.cells #[.int .i64 0, .slice none 0 0, .slice none 0 0, .slice none 0 0, .int .i64 0, .int .i64 0, .slice A4 k c4, .slice A5 m c5] 41 (0, 0)) := (KV h (lt J.box) (own_ne3 J.box (by decide) J.on)).trans J.box
  have k1 : (V.setCell ⟨h, 7, none⟩ (.slice A' (m + mm) cap)).heap[p.g1]? = W.heap[p.g1]? := (S _ (blk_ne hx1 J.box (by decide))).trans (KV _ (lt hx1) (own_ne3 hx1 (by decide) J.on))
  have k2 : (V.setCell ⟨h, 7, none⟩ (.slice A' (m + mm) cap)).heap[p.g2]? = W.heap[p.g2]? := (S _ (blk_ne hx2 J.box (by decide))).trans (KV _ (lt hx2) (own_ne3 hx2 (by decide) J.on))
  have k3 : (V.setCell ⟨h, 7, none⟩ (.slice A' (m + mm) cap)).heap[p.g3]? = W.heap[p.g3]? := (S _ (blk_ne hx3 J.box (by decide))).trans (KV _ (lt hx3) (own_ne3 hx3 (by decide) J.on))
  have other : ∀ b, A4 = some ⟨b, 0, none⟩ → (V.setCell ⟨h, 7, none⟩ (.slice A' (m + mm) cap)).heap[b]? = W.heap[b]? := fun b e => by
    have hoc := J.oc
    rw [e] at hoc
    obtain ⟨_, hx⟩ := or_blk hoc
    exact (S _ (blk_ne hx J.box (by decide))).trans (KV _ (lt hx) (own_ne3 hx (by decide) J.on))
  have mine' : OR 96 3 (V.setCell ⟨h, 7, none⟩ (.slice A' (m + mm) cap)) w.heap.size A' (m + mm) cap (ns ++ more) := hown.keepAll fun b e => S b (by
    subst e
    obtain ⟨_, hx⟩ := or_blk hown
    exact blk_ne hx hV (by decide))
  have hz : w.heap.size ≤ W.heap.size := J.bw.size
  have bV : Below w.heap.size w V := J.bw.grown hg hz (fun b e => by
    have hoc := J.on
    rcases A5 with _ | ad
    · cases e
    · obtain ⟨b', e1, h1, _⟩ := OR.at_ hoc (by simp)
      injection e1 with e1
      subst e1
      have e2 : b' = b := Option.some.inj e
      omega)
  exact ⟨⟨(S _ (blk_ne J.kb.box J.box (by decide)) |>.trans (KV _ (lt J.kb.box) (own_ne3 J.kb.box (by decide) J.on))).trans J.kb.box, J.kb.own.keepB k1 k2 k3, J.kb.e1, J.kb.e2, J.kb.e3⟩, J.n1, set8_block7 hV _, J.oc.keepAll other, mine', J.ap, J.lo, bV.setCell (p := ⟨h, 7, none⟩) J.lo.1.2 _⟩
theorem LoopI.code {w W : World} {h : Nat} {p : Kp} {K : Ker} {A4 : Option Addr} {k c4 : Nat} {cs : List Int} {A5 : Option Addr} {m c5 : Nat} {ns : List Int} (J : LoopI w W h p K A4 k c4 cs A5 m c5 ns) (q : Int) {V : World} {A' : Option Addr} {cap : Nat} (hown : OR 2 1 V w.heap.size A' (k + 1) cap (cs ++ [q])) (hg : (W.alloc (.cells #[.int .i64 q] 2)).grownBy V (Value.slice A4 k c4).ownBlock)
    (hat : (Value.slice A' (k + 1) cap).ownBlock = (Value.slice A4 k c4).ownBlock ∨ (Value.slice A' (k + 1) cap).ownBlock = some (W.alloc (.cells #[.int .i64 q] 2)).heap.size) :
    LoopI w (V.setCell ⟨h, 6, none⟩ (.slice A' (k + 1) cap)) h p K A' (k + 1) cap (cs ++ [q]) A5 m c5 ns := by
  obtain ⟨x1, hx1⟩ := mine_blk J.own.m1 (by have := J.n1; omega)
  obtain ⟨x2, hx2⟩ := mine_blk J.own.m2 (by decide)
  obtain ⟨x3, hx3⟩ := mine_blk J.own.m3 (by decide)
  have KV : ∀ b, b < W.heap.size → some b ≠ (Value.slice A4 k c4).ownBlock → V.heap[b]? = W.heap[b]? := fun b hb hne => (hg.block b (by simp; omega) hne).trans (Below.heap_alloc _ _ _ hb)
  have lt : ∀ {b : Nat} {o : Obj}, W.heap[b]? = some o → b < W.heap.size := fun hb' => (Array.getElem?_eq_some_iff.1 hb').1
  have S : ∀ b, b ≠ h → (V.setCell ⟨h, 6, none⟩ (.slice A' (k + 1) cap)).heap[b]? = V.heap[b]? := fun b hb => Below.heap_setCell _ _ _ _ hb
  have hV : V.heap[h]? = some (.cells #[.int .i64 0, .slice p.A1 p.n1 p.c1, .slice p.A2 4 p.c2, .slice p.A3 4 p.c3, .int .i64 K.tick, .int .i64 K.run, .slice A4 k c4, .slice A5 m c5] 41 (0, 0)) := (KV h (lt J.box) (own_ne3 J.box (by decide) J.oc)).trans J.box
  have k1 : (V.setCell ⟨h, 6, none⟩ (.slice A' (k + 1) cap)).heap[p.g1]? = W.heap[p.g1]? := (S _ (blk_ne hx1 J.box (by decide))).trans (KV _ (lt hx1) (own_ap3 J.oc J.ap))
  have k2 : (V.setCell ⟨h, 6, none⟩ (.slice A' (k + 1) cap)).heap[p.g2]? = W.heap[p.g2]? := (S _ (blk_ne hx2 J.box (by decide))).trans (KV _ (lt hx2) (own_ne3 hx2 (by decide) J.oc))
  have k3 : (V.setCell ⟨h, 6, none⟩ (.slice A' (k + 1) cap)).heap[p.g3]? = W.heap[p.g3]? := (S _ (blk_ne hx3 J.box (by decide))).trans (KV _ (lt hx3) (own_ne3 hx3 (by decide) J.oc))
  have other : ∀ b, A5 = some ⟨b, 0, none⟩ → (V.setCell ⟨h, 6, none⟩ (.slice A' (k + 1) cap)).heap[b]? = W.heap[b]? := fun b e => by
    have hoc := J.on
    rw [e] at hoc
    obtain ⟨_, hx⟩ := or_blk hoc
    exact (S _ (blk_ne hx J.box (by decide))).trans (KV _ (lt hx) (own_ne3 hx (by decide) J.oc))
  have mine' : OR 2 1 (V.setCell ⟨h, 6, none⟩ (.slice A' (k + 1) cap)) w.heap.size A' (k + 1) cap (cs ++ [q]) := hown.keepAll fun b e => S b (by
    subst e
    obtain ⟨_, hx⟩ := or_blk hown
    exact blk_ne hx hV (by decide))
  have hz : w.heap.size ≤ W.heap.size := J.bw.size
  have bV : Below w.heap.size w V := (J.bw.alloc hz _).grown hg (by simp; omega) (fun b e => by
    have hoc := J.oc
    rcases A4 with _ | ad
    · cases e
    · obtain ⟨b', e1, h1, _⟩ := OR.at_ hoc (by simp)
      injection e1 with e1
      subst e1
      have e2 : b' = b := Option.some.inj e
      omega)
  refine ⟨J.own.keepB k1 k2 k3, J.n1, set8_block hV _, mine', J.on.keepAll other, ?_, J.lo, bV.setCell (p := ⟨h, 6, none⟩) J.lo.1 _⟩
  exact fun b e => by
    subst e
    rcases hat with h1 | h1
    · intro e2
      exact own_ap3 J.oc J.ap ((congrArg some e2).symm.trans h1)
    · have e2 : b = (W.alloc (.cells #[.int .i64 q] 2)).heap.size := Option.some.inj h1
      have := lt hx1
      simp at e2
      omega
theorem LoopI.notes {w W : World} {h : Nat} {p : Kp} {K : Ker} {A4 : Option Addr} {k c4 : Nat} {cs : List Int} {A5 : Option Addr} {m c5 : Nat} {ns : List Int} (J : LoopI w W h p K A4 k c4 cs A5 m c5 ns) {mm : Nat} {more : List Int} {V : World} {A' : Option Addr} {cap : Nat} (hown : OR 96 3 V w.heap.size A' (m + mm) cap (ns ++ more)) (hg : W.grownBy V (Value.slice A5 m c5).ownBlock)
    (hat : (Value.slice A' (m + mm) cap).ownBlock = (Value.slice A5 m c5).ownBlock ∨ (Value.slice A' (m + mm) cap).ownBlock = some W.heap.size) :
    LoopI w (V.setCell ⟨h, 7, none⟩ (.slice A' (m + mm) cap)) h p K A4 k c4 cs A' (m + mm) cap (ns ++ more) := by
  obtain ⟨x1, hx1⟩ := mine_blk J.own.m1 (by have := J.n1; omega)
  obtain ⟨x2, hx2⟩ := mine_blk J.own.m2 (by decide)
  obtain ⟨x3, hx3⟩ := mine_blk J.own.m3 (by decide)
  have KV : ∀ b, b < W.heap.size → some b ≠ (Value.slice A5 m c5).ownBlock → V.heap[b]? = W.heap[b]? := fun b hb hne => hg.block b hb hne
  have lt : ∀ {b : Nat} {o : Obj}, W.heap[b]? = some o → b < W.heap.size := fun hb' => (Array.getElem?_eq_some_iff.1 hb').1
  have S : ∀ b, b ≠ h → (V.setCell ⟨h, 7, none⟩ (.slice A' (m + mm) cap)).heap[b]? = V.heap[b]? := fun b hb => Below.heap_setCell _ _ _ _ hb
  have hV : V.heap[h]? = some (.cells #[.int .i64 0, .slice p.A1 p.n1 p.c1, .slice p.A2 4 p.c2, .slice p.A3 4 p.c3, .int .i64 K.tick, .int .i64 K.run, .slice A4 k c4, .slice A5 m c5] 41 (0, 0)) := (KV h (lt J.box) (own_ne3 J.box (by decide) J.on)).trans J.box
  have k1 : (V.setCell ⟨h, 7, none⟩ (.slice A' (m + mm) cap)).heap[p.g1]? = W.heap[p.g1]? := (S _ (blk_ne hx1 J.box (by decide))).trans (KV _ (lt hx1) (own_ne3 hx1 (by decide) J.on))
  have k2 : (V.setCell ⟨h, 7, none⟩ (.slice A' (m + mm) cap)).heap[p.g2]? = W.heap[p.g2]? := (S _ (blk_ne hx2 J.box (by decide))).trans (KV _ (lt hx2) (own_ne3 hx2 (by decide) J.on))
  have k3 : (V.setCell ⟨h, 7, none⟩ (.slice A' (m + mm) cap)).heap[p.g3]? = W.heap[p.g3]? := (S _ (blk_ne hx3 J.box (by decide))).trans (KV _ (lt hx3) (own_ne3 hx3 (by decide) J.on))
  have other : ∀ b, A4 = some ⟨b, 0, none⟩ → (V.setCell ⟨h, 7, none⟩ (.slice A' (m + mm) cap)).heap[b]? = W.heap[b]? := fun b e => by
    have hoc := J.oc
    rw [e] at hoc
    obtain ⟨_, hx⟩ := or_blk hoc
    exact (S _ (blk_ne hx J.box (by decide))).trans (KV _ (lt hx) (own_ne3 hx (by decide) J.on))
  have mine' : OR 96 3 (V.setCell ⟨h, 7, none⟩ (.slice A' (m + mm) cap)) w.heap.size A' (m + mm) cap (ns ++ more) := hown.keepAll fun b e => S b (by
    subst e
    obtain ⟨_, hx⟩ := or_blk hown
    exact blk_ne hx hV (by decide))
  have hz : w.heap.size ≤ W.heap.size := J.bw.size
  have bV : Below w.heap.size w V := J.bw.grown hg hz (fun b e => by
    have hoc := J.on
    rcases A5 with _ | ad
    · cases e
    · obtain ⟨b', e1, h1, _⟩ := OR.at_ hoc (by simp)
      injection e1 with e1
      subst e1
      have e2 : b' = b := Option.some.inj e
      omega)
  exact ⟨J.own.keepB k1 k2 k3, J.n1, set8_block7 hV _, J.oc.keepAll other, mine', J.ap, J.lo, bV.setCell (p := ⟨h, 7, none⟩) J.lo.1 _⟩

structure Rq where
  A1 : Option Addr
  n1 : Nat
  c1 : Nat
  A2 : Option Addr
  n2 : Nat
  c2 : Nat
  A3 : Option Addr
  n3 : Nat
  c3 : Nat
  A4 : Option Addr
  n4 : Nat
  c4 : Nat
  A5 : Option Addr
  n5 : Nat
  c5 : Nat
  g1 : Nat
  g2 : Nat
  g3 : Nat
  g4 : Nat
  g5 : Nat
def Rq.cells (p : Rq) (q : Int) (K : Ker) : Array Value := #[.int .i64 q, .slice p.A1 p.n1 p.c1, .slice p.A2 p.n2 p.c2, .slice p.A3 p.n3 p.c3, .int .i64 K.tick, .int .i64 K.run, .slice p.A4 p.n4 p.c4, .slice p.A5 p.n5 p.c5]
end Go.Proofs.YtckapndpefkcgaaGreat
