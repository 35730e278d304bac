/-
  The walk of FnHeaps.
-/
import Derived.Test.YtckapndpefkcgaaDrawI10
import Derived.Test.YtckapndpefkcgaaDraw1d
import Derived.Test.YtckapndpefkcgaaSpec4h
import Derived.Test.YtckapndpefkcgaaImpl4j
import Derived.Test.YtckapndpefkcgaaImpl4i
import Derived.Test.YtckapndpefkcgaaImpl4h
import Derived.Test.YtckapndpefkcgaaMath4j
set_option maxHeartbeats 1000000
namespace Go.Proofs.Ytckapndpefkcgaa
open Go.RowKit
set_option maxRecDepth 100000

/-- what is known of a list of entries whatever the world -/
structure HL (A : Option Addr) (n c : Nat) (hs : List Int) : Prop where
  len : hs.length = n * 2
  nil : A = none → c = 0
  cap : n ≤ c
  small : n ≤ 13
theorem OR.hl {t : TypeId} {w : World} {base n c : Nat} {A : Option Addr} {hs : List Int} (h : OR t 2 w base A n c hs) (hn : n ≤ 13) : HL A n c hs :=
  ⟨h.len, fun e => by subst e; exact (OR.nil0 h).2, h.cap, hn⟩
theorem run_hr0 (q : Int) (A : Option Addr) (k c : Nat) (W : World) : (Instr.field 30 (.agg #[.int .i64 q, .slice A k c]) 0).run Try.prog W = .ok (.int .i64 q) W := by kernel_rfl
theorem run_hr1 (q : Int) (A : Option Addr) (k c : Nat) (W : World) : (Instr.field 30 (.agg #[.int .i64 q, .slice A k c]) 1).run Try.prog W = .ok (.slice A k c) W := by kernel_rfl
theorem run_er0 (q a b : Int) (A : Option Addr) (k c : Nat) (W : World) : (Instr.field 34 (.agg #[.int .i64 q, .int .i64 a, .int .i64 b, .slice A k c]) 0).run Try.prog W = .ok (.int .i64 q) W := by kernel_rfl
theorem run_er1 (q a b : Int) (A : Option Addr) (k c : Nat) (W : World) : (Instr.field 34 (.agg #[.int .i64 q, .int .i64 a, .int .i64 b, .slice A k c]) 1).run Try.prog W = .ok (.agg #[.int .i64 a, .int .i64 b]) W := by kernel_rfl
theorem popH_good {hs : List Int} {n : Nat} {a b : Int} {os : List Int} (hl : hs.length = n * 2) (h : popH hs n = (0, a, b, os)) : ∃ m, n = m + 1 ∧ os.length = m * 2 ∧ hf os m = 0 ∧ (0 < m → ∃ a' b' os', popH os m = (0, a', b', os') ∧ lt4 a' b' a b = false) := by
  unfold popH at h
  by_cases h0 : hf hs n = 0
  · rw [if_neg (by simp [h0])] at h
    by_cases h1 : n = 0
    · rw [if_pos h1] at h
      exact absurd (congrArg Prod.fst h) (by simp)
    · rw [if_neg h1] at h
      obtain ⟨m, rfl⟩ : ∃ m, n = m + 1 := ⟨n - 1, by omega⟩
      have ea : gi hs 0 = a := congrArg (fun r => r.2.1) h
      have eb : gi hs 1 = b := congrArg (fun r => r.2.2.1) h
      have eo : pop4 hs m = os := congrArg (fun r => r.2.2.2) h
      obtain ⟨g1, g2⟩ := pop_ok hl h0
      have ol : os.length = m * 2 := by rw [← eo]; exact pop4_len hl
      rw [eo] at g1 g2
      refine ⟨m, rfl, ol, g1, fun hm => ⟨gi os 0, gi os 1, pop4 os (m - 1), ?_, ?_⟩⟩
      · unfold popH
        rw [if_neg (by simp [g1]), if_neg (by omega)]
      · have hh := (g2 0 hm).asymm
        unfold Ls en at hh
        unfold lt4
        rw [← ea, ← eb]
        simp
        simp at hh
        omega
  · rw [if_pos (by simpa using h0)] at h
    exact absurd (congrArg Prod.fst h) h0
theorem hof_good {ls : List Int} {n : Nat} {ms : List Int} (h : heapOf4 ls n = (0, ms)) : hf ms n = 0 ∧ ms.length = n * 2 ∧ sorted4 ms n = (0, srt4 n ms) := by
  unfold heapOf4 at h
  by_cases h0 : 12 < n
  · rw [if_pos h0] at h
    exact absurd (congrArg Prod.fst h) (by simp)
  · rw [if_neg h0] at h
    have e0 : hf [] 0 = 0 := by decide
    obtain ⟨g1, g2⟩ := hof_ok ls n 0 0 [] rfl e0 (congrArg Prod.fst h)
    rw [h, Nat.zero_add] at g1 g2
    exact ⟨g1, g2, by unfold sorted4; rw [if_neg (by simp [g1])]⟩
theorem srt_good {hs : List Int} {n : Nat} {ss : List Int} (hl : hs.length = n * 2) (h : sorted4 hs n = (0, ss)) : ss.length = n * 2 ∧ ∀ i, i + 1 < n → lt4 (gi ss (i * 2)) (gi ss (i * 2 + 1)) (gi ss ((i + 1) * 2)) (gi ss ((i + 1) * 2 + 1)) = true := by
  unfold sorted4 at h
  by_cases h0 : hf hs n = 0
  · rw [if_neg (by simp [h0])] at h
    have e : srt4 n hs = ss := congrArg Prod.snd h
    subst e
    refine ⟨srt4_len n hs, fun i hi => ?_⟩
    have r := srt_rise n hs hl h0 i hi
    unfold Ls en at r
    unfold lt4
    simp
    simp at r
    omega
  · rw [if_pos (by simpa using h0)] at h
    exact absurd (congrArg Prod.fst h) h0

set_option maxHeartbeats 32000000 in
theorem walkHeaps (A : Option Addr) (k c : Nat) (b : Nat → Int) (w : World) (h : Sl w 0 w.heap.size A k (fun j => .int .u8 (b j))) (hb : ∀ j, 0 ≤ b j ∧ b j ≤ 255) (hk : k ≤ 1048576) :
    Calls Try.prog 3 #[.slice A k c] w fun e w' => e = .returned (.bool true) ∧ Below w.heap.size w w' := by
  have HBY := Lib.hid hb
  have CD : Hid (∀ W, Below w.heap.size w W → Sl W 0 w.heap.size A k (fun j => .int .u8 (b j))) := fun W hW => h.below hW (Nat.le_refl _)
  have D0 := Lib.hid (DrawPushHeap_any 0 w.heap.size A k c b w hk hb h)
  clear h hb
  go_enter Try.func3, Try.ntmps3
  go_wp2_with fail
  refine (lwBig_any A k c w).mono ?_
  rintro e w' ⟨rfl, rfl⟩
  have hk2 : ¬ ((1048576 : Int) < (k : Int)) := by omega
  go_wp2_with fail
  refine D0.out.mono ?_
  rintro e w1 ⟨B, n, c', xs, p, d, rfl, hn, ho, hb⟩
  have Ow1 := Lib.hid ho
  have Rw1 := Lib.hid hb
  have HB_ := Lib.hid (ho.hl hn)
  clear hn ho hb D0 hk2
  obtain ⟨w2, hw2⟩ : ∃ V, V = w1.alloc (.cells #[.int .i64 p, .int .i64 d] 26) := ⟨_, rfl⟩
  obtain ⟨be, hbe⟩ : ∃ b, b = w1.heap.size := ⟨_, rfl⟩
  have Kw2 : Hid (w2.heap[be]? = some (.cells #[.int .i64 p, .int .i64 d] 26 (0, 0))) := by show _ = _; rw [hw2, hbe]; exact heap_alloc_new w1 _
  have Nw2 : Hid (Below w1.heap.size w1 w2) := by rw [hw2]; exact below_new w1 _
  have Zw2 : Hid (w2.heap.size = be + 1 ∧ be = w1.heap.size) := by show _ ∧ _; rw [hw2, hbe]; simp
  have HWw2 := Lib.hid hw2; have HBbe := Lib.hid hbe
  clear hw2 hbe
  go_upto_region 4 with (fail)
  rw [← HWw2.out, ← HBbe.out]
  clear HWw2 HBbe
  have U2 : Hid (Below w.heap.size w w2) := Rw1.out.trans (Nw2.out.mono Rw1.out.size)
  have Ow2 := Lib.hid (Ow1.out.below Nw2.out (Nat.le_refl _))
  have q0 := cell_of_row w2 _ 0 _ _ _ Kw2.out; have q1 := cell_of_row w2 _ 1 _ _ _ Kw2.out
  simp at q0 q1
  obtain ⟨pq, Ph, hq⟩ : ∃ pq Ph, pushH xs n p d = (pq, Ph) := ⟨_, _, rfl⟩
  have EQ1 := Lib.hid hq
  have IP := Lib.hid (implPushHeap_any _ _ B n c' xs p d w2 (by have := HB_.out.small; omega) HB_.out.len HB_.out.nil HB_.out.cap (OR.sl0 Ow2.out))
  rw [hq] at IP
  go_wp2_with fail
  refine IP.out.mono ?_
  rintro e w3 ⟨Q1, np, cp, rfl, ho, hb⟩
  have Ow3 := Lib.hid ho
  have Rw3 := Lib.hid hb
  have HQ1 : Hid (HL Q1 np cp Ph) := ho.hl (by have a := ho.len; obtain ⟨j, b1, b2, _⟩ := pushH_len xs n p d HB_.out.len; rw [hq] at b1; have b1 : Ph.length = j * 2 := b1; have a : Ph.length = np * 2 := a; omega)
  clear ho hb IP hq
  dsimp only
  clear q0 q1 Ow2
  obtain ⟨w4, hw4⟩ : ∃ V, V = w3.alloc (.cells #[.int .i64 pq, .slice Q1 np cp] 30) := ⟨_, rfl⟩
  obtain ⟨x1, hx1⟩ : ∃ b, b = w3.heap.size := ⟨_, rfl⟩
  have Kw4 : Hid (w4.heap[x1]? = some (.cells #[.int .i64 pq, .slice Q1 np cp] 30 (0, 0))) := by show _ = _; rw [hw4, hx1]; exact heap_alloc_new w3 _
  have Nw4 : Hid (Below w3.heap.size w3 w4) := by rw [hw4]; exact below_new w3 _
  have Zw4 : Hid (w4.heap.size = x1 + 1 ∧ x1 = w3.heap.size) := by show _ ∧ _; rw [hw4, hx1]; simp
  have HWw4 := Lib.hid hw4; have HBx1 := Lib.hid hx1
  clear hw4 hx1
  go_upto_region 5 with (fail)
  rw [← HWw4.out, ← HBx1.out]
  clear HWw4 HBx1
  have U4 : Hid (Below w.heap.size w w4) := U2.out.trans ((Rw3.out.trans (Nw4.out.mono Rw3.out.size)).mono U2.out.size)
  have D1 := Lib.hid (DrawPopHeap_any 0 w.heap.size A k c b w4 hk HBY.out (CD.out w4 U4.out))
  go_wp2_with fail
  refine D1.out.mono ?_
  rintro e w5 ⟨G, ng, cg, gs, rfl, hn, ho, hb⟩
  have Ow5 := Lib.hid ho
  have Rw5 := Lib.hid hb
  have HG := Lib.hid (ho.hl hn)
  clear hn ho hb D1
  have U5 : Hid (Below w.heap.size w w5) := U4.out.trans (Rw5.out.mono U4.out.size)
  obtain ⟨oq, o0, o1, Oh, hq⟩ : ∃ oq o0 o1 Oh, popH gs ng = (oq, o0, o1, Oh) := ⟨_, _, _, _, rfl⟩
  have EQ2 := Lib.hid hq
  have IP := Lib.hid (implPopHeap_any _ _ G ng cg gs w5 (by have := HG.out.small; omega) HG.out.len HG.out.nil HG.out.cap (OR.sl0 Ow5.out))
  rw [hq] at IP
  go_wp2_with fail
  refine IP.out.mono ?_
  rintro e w6 ⟨Q2, no, co, rfl, ho, hb⟩
  have Ow6 := Lib.hid ho
  have Rw6 := Lib.hid hb
  have HQ2 : Hid (HL Q2 no co Oh) := ho.hl (by have a := ho.len; obtain ⟨j, b1, b2⟩ := popH_len gs ng HG.out.len; rw [hq] at b1; have b1 : Oh.length = j * 2 := b1; have a : Oh.length = no * 2 := a; omega)
  clear ho hb IP hq
  dsimp only
  obtain ⟨w7, hw7⟩ : ∃ V, V = w6.alloc (.cells #[.int .i64 oq, .int .i64 o0, .int .i64 o1, .slice Q2 no co] 34) := ⟨_, rfl⟩
  obtain ⟨x2, hx2⟩ : ∃ b, b = w6.heap.size := ⟨_, rfl⟩
  have Kw7 : Hid (w7.heap[x2]? = some (.cells #[.int .i64 oq, .int .i64 o0, .int .i64 o1, .slice Q2 no co] 34 (0, 0))) := by show _ = _; rw [hw7, hx2]; exact heap_alloc_new w6 _
  have Nw7 : Hid (Below w6.heap.size w6 w7) := by rw [hw7]; exact below_new w6 _
  have Zw7 : Hid (w7.heap.size = x2 + 1 ∧ x2 = w6.heap.size) := by show _ ∧ _; rw [hw7, hx2]; simp
  have HWw7 := Lib.hid hw7; have HBx2 := Lib.hid hx2
  clear hw7 hx2
  go_upto_region 7 with (fail)
  rw [← HWw7.out, ← HBx2.out]
  clear HWw7 HBx2
  have U7 : Hid (Below w.heap.size w w7) := U5.out.trans ((Rw6.out.trans (Nw7.out.mono Rw6.out.size)).mono U5.out.size)
  have D2 := Lib.hid (DrawHeapOf_any 0 w.heap.size A k c b w7 hk HBY.out (CD.out w7 U7.out))
  go_wp2_with fail
  refine D2.out.mono ?_
  rintro e w8 ⟨M0, nl, cl, ls, rfl, hn, ho, hb⟩
  have Ow8 := Lib.hid ho
  have Rw8 := Lib.hid hb
  have HM0 := Lib.hid (ho.hl hn)
  clear hn ho hb D2
  have U8 : Hid (Below w.heap.size w w8) := U7.out.trans (Rw8.out.mono U7.out.size)
  obtain ⟨mq, Mh, hq⟩ : ∃ mq Mh, heapOf4 ls nl = (mq, Mh) := ⟨_, _, rfl⟩
  have EQ3 := Lib.hid hq
  have IP := Lib.hid (implHeapOf_any _ _ M0 nl cl ls w8 (by have := HM0.out.small; omega) (OR.sl0 Ow8.out))
  rw [hq] at IP
  go_wp2_with fail
  refine IP.out.mono ?_
  rintro e w9 ⟨Q3, nm, cm, rfl, ho, hb⟩
  have Ow9 := Lib.hid ho
  have Rw9 := Lib.hid hb
  have HQ3 : Hid (HL Q3 nm cm Mh) := ho.hl (by have a := ho.len; obtain ⟨j, b1, b2⟩ := heapOf4_len ls nl; rw [hq] at b1; have b1 : Mh.length = j * 2 := b1; have a : Mh.length = nm * 2 := a; omega)
  clear ho hb IP hq
  dsimp only
  obtain ⟨wa, hwa⟩ : ∃ V, V = w9.alloc (.cells #[.int .i64 mq, .slice Q3 nm cm] 30) := ⟨_, rfl⟩
  obtain ⟨x3, hx3⟩ : ∃ b, b = w9.heap.size := ⟨_, rfl⟩
  have Kwa : Hid (wa.heap[x3]? = some (.cells #[.int .i64 mq, .slice Q3 nm cm] 30 (0, 0))) := by show _ = _; rw [hwa, hx3]; exact heap_alloc_new w9 _
  have Nwa : Hid (Below w9.heap.size w9 wa) := by rw [hwa]; exact below_new w9 _
  have Zwa : Hid (wa.heap.size = x3 + 1 ∧ x3 = w9.heap.size) := by show _ ∧ _; rw [hwa, hx3]; simp
  have HWwa := Lib.hid hwa; have HBx3 := Lib.hid hx3
  clear hwa hx3
  go_upto_region 9 with (fail)
  rw [← HWwa.out, ← HBx3.out]
  clear HWwa HBx3
  have Ua : Hid (Below w.heap.size w wa) := U8.out.trans ((Rw9.out.trans (Nwa.out.mono Rw9.out.size)).mono U8.out.size)
  have D3 := Lib.hid (DrawSortedOf_any 0 w.heap.size A k c b wa hk HBY.out (CD.out wa Ua.out))
  go_wp2_with fail
  refine D3.out.mono ?_
  rintro e wb ⟨X0, nx, cx, zs, rfl, hn, ho, hb⟩
  have Owb := Lib.hid ho
  have Rwb := Lib.hid hb
  have HX0 := Lib.hid (ho.hl hn)
  clear hn ho hb D3
  have Ub : Hid (Below w.heap.size w wb) := Ua.out.trans (Rwb.out.mono Ua.out.size)
  obtain ⟨sq, Sh, hq⟩ : ∃ sq Sh, sorted4 zs nx = (sq, Sh) := ⟨_, _, rfl⟩
  have EQ4 := Lib.hid hq
  have IP := Lib.hid (implSortedOf_any _ _ X0 nx cx zs wb (by have := HX0.out.small; omega) HX0.out.len HX0.out.nil HX0.out.cap (OR.sl0 Owb.out))
  rw [hq] at IP
  go_wp2_with fail
  refine IP.out.mono ?_
  rintro e wc ⟨Q4, nz, cz, rfl, ho, hb⟩
  have Owc := Lib.hid ho
  have Rwc := Lib.hid hb
  have HQ4 : Hid (HL Q4 nz cz Sh) := ho.hl (by have a := ho.len; obtain ⟨j, b1, b2⟩ := sorted4_len zs nx; rw [hq] at b1; have b1 : Sh.length = j * 2 := b1; have a : Sh.length = nz * 2 := a; omega)
  clear ho hb IP hq
  dsimp only
  obtain ⟨wd, hwd⟩ : ∃ V, V = wc.alloc (.cells #[.int .i64 sq, .slice Q4 nz cz] 30) := ⟨_, rfl⟩
  obtain ⟨x4, hx4⟩ : ∃ b, b = wc.heap.size := ⟨_, rfl⟩
  have Kwd : Hid (wd.heap[x4]? = some (.cells #[.int .i64 sq, .slice Q4 nz cz] 30 (0, 0))) := by show _ = _; rw [hwd, hx4]; exact heap_alloc_new wc _
  have Nwd : Hid (Below wc.heap.size wc wd) := by rw [hwd]; exact below_new wc _
  have Zwd : Hid (wd.heap.size = x4 + 1 ∧ x4 = wc.heap.size) := by show _ ∧ _; rw [hwd, hx4]; simp
  have HWwd := Lib.hid hwd; have HBx4 := Lib.hid hx4
  clear hwd hx4
  go_upto_region 11 with (fail)
  rw [← HWwd.out, ← HBx4.out]
  clear HWwd HBx4
  have Ud : Hid (Below w.heap.size w wd) := Ub.out.trans ((Rwc.out.trans (Nwd.out.mono Rwc.out.size)).mono Ub.out.size)
  have D4 := Lib.hid (DrawIsLess_any 0 w.heap.size A k c b wd hk HBY.out (CD.out wd Ud.out))
  go_wp2_with fail
  refine D4.out.mono ?_
  rintro e wE ⟨a0, a1, b0, b1, rfl, hb⟩
  have RE := Lib.hid hb
  clear hb D4
  go_upto_region 12 with (fail)
  obtain ⟨wf, hwf⟩ : ∃ V, V = wE.alloc (.cells #[.int .i64 a0, .int .i64 a1] 26) := ⟨_, rfl⟩
  obtain ⟨wy, hwy⟩ : ∃ V, V = wf.alloc (.cells #[.int .i64 b0, .int .i64 b1] 26) := ⟨_, rfl⟩
  obtain ⟨ya, hya⟩ : ∃ b, b = wE.heap.size := ⟨_, rfl⟩
  obtain ⟨yb, hyb⟩ : ∃ b, b = ya + 1 := ⟨_, rfl⟩
  have Nf : Below wE.heap.size wE wf := by rw [hwf]; exact below_new wE _
  have Ng : Below wf.heap.size wf wy := by rw [hwy]; exact below_new wf _
  have zf : wf.heap.size = ya + 1 := by rw [hwf, hya]; simp
  have zy : wy.heap.size = ya + 2 := by rw [hwy]; simp; omega
  have Sf : wf.heap[ya]? = some (.cells #[.int .i64 a0, .int .i64 a1] 26 (0, 0)) := by rw [hwf, hya]; exact heap_alloc_new wE _
  have Sy : Hid (wy.heap[ya]? = some (.cells #[.int .i64 a0, .int .i64 a1] 26 (0, 0))) := (Ng.block ya (by omega)).trans Sf
  have Ty : Hid (wy.heap[yb]? = some (.cells #[.int .i64 b0, .int .i64 b1] 26 (0, 0))) := by show _ = _; rw [hwy, hyb, ← zf]; exact heap_alloc_new wf _
  have NY : Hid (Below wE.heap.size wE wy) := Nf.trans (Ng.mono (by omega))
  rw [← hwf, ← hwy, ← hya, ← hyb]
  have ZY : Hid (wE.heap.size = ya ∧ yb = ya + 1 ∧ wy.heap.size = ya + 2) := ⟨hya.symm, hyb, zy⟩
  clear hwf hwy hya hyb Nf Ng zf zy Sf
  have F : Hid (∀ W, Below wy.heap.size wy W → (W.cell? ⟨be, 0, none⟩ = some (.int .i64 p) ∧ W.cell? ⟨be, 1, none⟩ = some (.int .i64 d)) ∧ (W.cell? ⟨x1, 0, none⟩ = some (.int .i64 pq) ∧ W.cell? ⟨x1, 1, none⟩ = some (.slice Q1 np cp)) ∧ (W.cell? ⟨x2, 0, none⟩ = some (.int .i64 oq) ∧ W.cell? ⟨x2, 1, none⟩ = some (.int .i64 o0) ∧ W.cell? ⟨x2, 2, none⟩ = some (.int .i64 o1) ∧ W.cell? ⟨x2, 3, none⟩ = some (.slice Q2 no co)) ∧ (W.cell? ⟨x3, 0, none⟩ = some (.int .i64 mq) ∧ W.cell? ⟨x3, 1, none⟩ = some (.slice Q3 nm cm)) ∧ (W.cell? ⟨x4, 0, none⟩ = some (.int .i64 sq) ∧ W.cell? ⟨x4, 1, none⟩ = some (.slice Q4 nz cz)) ∧ (W.cell? ⟨ya, 0, none⟩ = some (.int .i64 a0) ∧ W.cell? ⟨ya, 1, none⟩ = some (.int .i64 a1)) ∧ (W.cell? ⟨yb, 0, none⟩ = some (.int .i64 b0) ∧ W.cell? ⟨yb, 1, none⟩ = some (.int .i64 b1)) ∧ Sl W 0 wy.heap.size B (n * 2) (fun j => .int .i64 (gi xs j)) ∧ Sl W 0 wy.heap.size G (ng * 2) (fun j => .int .i64 (gi gs j)) ∧ Sl W 0 wy.heap.size M0 (nl * 2) (fun j => .int .i64 (gi ls j)) ∧ Sl W 0 wy.heap.size X0 (nx * 2) (fun j => .int .i64 (gi zs j)) ∧ Sl W 0 wy.heap.size Q1 (np * 2) (fun j => .int .i64 (gi Ph j)) ∧ Sl W 0 wy.heap.size Q2 (no * 2) (fun j => .int .i64 (gi Oh j)) ∧ Sl W 0 wy.heap.size Q3 (nm * 2) (fun j => .int .i64 (gi Mh j)) ∧ Sl W 0 wy.heap.size Q4 (nz * 2) (fun j => .int .i64 (gi Sh j)) ∧ Below w.heap.size w W) := fun W hW => by
    have z2 := Zw2.out; have z4 := Zw4.out; have z7 := Zw7.out; have za := Zwa.out; have zd := Zwd.out; have zy := ZY.out
    have s1 := Rw1.out.size; have s3 := Rw3.out.size; have s5 := Rw5.out.size; have s6 := Rw6.out.size; have s8 := Rw8.out.size; have s9 := Rw9.out.size; have sb := Rwb.out.size; have sc := Rwc.out.size; have se := RE.out.size
    have fE : Below wE.heap.size wE W := NY.out.trans (hW.mono (by omega))
    have fd : Below wd.heap.size wd W := RE.out.trans (fE.mono se)
    have fc : Below wc.heap.size wc W := Nwd.out.trans (fd.mono (by omega))
    have fb : Below wb.heap.size wb W := Rwc.out.trans (fc.mono sc)
    have fa : Below wa.heap.size wa W := Rwb.out.trans (fb.mono sb)
    have f9 : Below w9.heap.size w9 W := Nwa.out.trans (fa.mono (by omega))
    have f8 : Below w8.heap.size w8 W := Rw9.out.trans (f9.mono s9)
    have f7 : Below w7.heap.size w7 W := Rw8.out.trans (f8.mono s8)
    have f6 : Below w6.heap.size w6 W := Nw7.out.trans (f7.mono (by omega))
    have f5 : Below w5.heap.size w5 W := Rw6.out.trans (f6.mono s6)
    have f4 : Below w4.heap.size w4 W := Rw5.out.trans (f5.mono s5)
    have f3 : Below w3.heap.size w3 W := Nw4.out.trans (f4.mono (by omega))
    have f2 : Below w2.heap.size w2 W := Rw3.out.trans (f3.mono s3)
    have f1 : Below w1.heap.size w1 W := Nw2.out.trans (f2.mono (by omega))
    have je := (f2.block be (by omega)).trans Kw2.out
    have j1 := (f4.block x1 (by omega)).trans Kw4.out
    have j2 := (f7.block x2 (by omega)).trans Kw7.out
    have j3 := (fa.block x3 (by omega)).trans Kwa.out
    have j4 := (fd.block x4 (by omega)).trans Kwd.out
    have ja := (hW.block ya (by omega)).trans Sy.out
    have jb := (hW.block yb (by omega)).trans Ty.out
    have g1 := (OR.sl0 Ow1.out).below f1 (Nat.le_refl _); have g2 := (OR.sl0 Ow5.out).below f5 (Nat.le_refl _); have g3 := (OR.sl0 Ow8.out).below f8 (Nat.le_refl _); have g4 := (OR.sl0 Owb.out).below fb (Nat.le_refl _)
    have g5 := (OR.sl0 Ow3.out).below f3 (Nat.le_refl _); have g6 := (OR.sl0 Ow6.out).below f6 (Nat.le_refl _); have g7 := (OR.sl0 Ow9.out).below f9 (Nat.le_refl _); have g8 := (OR.sl0 Owc.out).below fc (Nat.le_refl _)
    exact ⟨⟨cell_of_row W _ 0 _ _ _ je, cell_of_row W _ 1 _ _ _ je⟩, ⟨cell_of_row W _ 0 _ _ _ j1, cell_of_row W _ 1 _ _ _ j1⟩, ⟨cell_of_row W _ 0 _ _ _ j2, cell_of_row W _ 1 _ _ _ j2, cell_of_row W _ 2 _ _ _ j2, cell_of_row W _ 3 _ _ _ j2⟩, ⟨cell_of_row W _ 0 _ _ _ j3, cell_of_row W _ 1 _ _ _ j3⟩, ⟨cell_of_row W _ 0 _ _ _ j4, cell_of_row W _ 1 _ _ _ j4⟩, ⟨cell_of_row W _ 0 _ _ _ ja, cell_of_row W _ 1 _ _ _ ja⟩, ⟨cell_of_row W _ 0 _ _ _ jb, cell_of_row W _ 1 _ _ _ jb⟩, g1.wide (Nat.zero_le _) (by omega), g2.wide (Nat.zero_le _) (by omega), g3.wide (Nat.zero_le _) (by omega), g4.wide (Nat.zero_le _) (by omega), g5.wide (Nat.zero_le _) (by omega), g6.wide (Nat.zero_le _) (by omega), g7.wide (Nat.zero_le _) (by omega), g8.wide (Nat.zero_le _) (by omega), Rw1.out.trans (f1.mono s1)⟩
  clear Ow1 Ow3 Ow5 Ow6 Ow8 Ow9 Owb Owc Rw1 Rw3 Rw5 Rw6 Rw8 Rw9 Rwb Rwc RE Kw2 Kw4 Kw7 Kwa Kwd Nw2 Nw4 Nw7 Nwa Nwd Zw2 Zw4 Zw7 Zwa Zwd Sy Ty NY ZY U2 U4 U5 U7 U8 Ua Ub Ud CD HBY
  have UP : ∀ {W W' : World}, Below wy.heap.size wy W → Below W.heap.size W W' → Below wy.heap.size wy W' := fun a b => a.trans (b.mono a.size)
  have KH : Hid (∀ W, Below wy.heap.size wy W → ((W.cell? ⟨be, 0, none⟩ = some (.int .i64 p) ∧ W.cell? ⟨be, 1, none⟩ = some (.int .i64 d)) ∧ (W.cell? ⟨x1, 0, none⟩ = some (.int .i64 pq) ∧ W.cell? ⟨x1, 1, none⟩ = some (.slice Q1 np cp)) ∧ (W.cell? ⟨x2, 0, none⟩ = some (.int .i64 oq) ∧ W.cell? ⟨x2, 1, none⟩ = some (.int .i64 o0) ∧ W.cell? ⟨x2, 2, none⟩ = some (.int .i64 o1) ∧ W.cell? ⟨x2, 3, none⟩ = some (.slice Q2 no co)) ∧ (W.cell? ⟨x3, 0, none⟩ = some (.int .i64 mq) ∧ W.cell? ⟨x3, 1, none⟩ = some (.slice Q3 nm cm)) ∧ (W.cell? ⟨x4, 0, none⟩ = some (.int .i64 sq) ∧ W.cell? ⟨x4, 1, none⟩ = some (.slice Q4 nz cz)) ∧ (W.cell? ⟨ya, 0, none⟩ = some (.int .i64 a0) ∧ W.cell? ⟨ya, 1, none⟩ = some (.int .i64 a1)) ∧ (W.cell? ⟨yb, 0, none⟩ = some (.int .i64 b0) ∧ W.cell? ⟨yb, 1, none⟩ = some (.int .i64 b1))) ∧ Below wy.heap.size wy W) := fun W hW => by
    obtain ⟨h1, h2, h3, h4, h5, h6, h7, _⟩ := F.out W hW
    exact ⟨⟨h1, h2, h3, h4, h5, h6, h7⟩, hW⟩
  have SPU : Hid (∀ W, Below wy.heap.size wy W → Calls Try.prog 17 #[.slice B n c', .agg #[.int .i64 p, .int .i64 d]] W fun e w' => ∃ A k c, e = .returned (.agg #[.int .i64 pq, .slice A k c]) ∧ Below wy.heap.size wy w') := fun W hW => by
    obtain ⟨_, _, _, _, _, _, _, l1, _⟩ := F.out W hW
    have := specPushHeap_any _ _ B n c' xs p d W (by have := HB_.out.small; omega) HB_.out.len HB_.out.nil l1
    rw [EQ1.out] at this
    exact this.mono fun e w' ⟨A, k, c, he, _, hb⟩ => ⟨A, k, c, he, UP hW hb⟩
  have SPO : Hid (∀ W, Below wy.heap.size wy W → Calls Try.prog 18 #[.slice G ng cg] W fun e w' => ∃ A k c, e = .returned (.agg #[.int .i64 oq, .int .i64 o0, .int .i64 o1, .slice A k c]) ∧ Below wy.heap.size wy w') := fun W hW => by
    obtain ⟨_, _, _, _, _, _, _, _, l2, _⟩ := F.out W hW
    have := specPopHeap_any _ _ G ng cg gs W (by have := HG.out.small; omega) HG.out.len HG.out.nil l2
    rw [EQ2.out] at this
    exact this.mono fun e w' ⟨A, k, c, he, _, hb⟩ => ⟨A, k, c, he, UP hW hb⟩
  have SHO : Hid (∀ W, Below wy.heap.size wy W → Calls Try.prog 19 #[.slice M0 nl cl] W fun e w' => ∃ A k c, e = .returned (.agg #[.int .i64 mq, .slice A k c]) ∧ Below wy.heap.size wy w') := fun W hW => by
    obtain ⟨_, _, _, _, _, _, _, _, _, l3, _⟩ := F.out W hW
    have := specHeapOf_any _ _ M0 nl cl ls W (by have := HM0.out.small; omega) l3
    rw [EQ3.out] at this
    exact this.mono fun e w' ⟨A, k, c, he, _, hb⟩ => ⟨A, k, c, he, UP hW hb⟩
  have SSO : Hid (∀ W, Below wy.heap.size wy W → Calls Try.prog 20 #[.slice X0 nx cx] W fun e w' => ∃ A k c, e = .returned (.agg #[.int .i64 sq, .slice A k c]) ∧ Below wy.heap.size wy w') := fun W hW => by
    obtain ⟨_, _, _, _, _, _, _, _, _, _, l4, _⟩ := F.out W hW
    have := specSortedOf_any _ _ X0 nx cx zs W (by have := HX0.out.small; omega) HX0.out.len HX0.out.nil l4
    rw [EQ4.out] at this
    exact this.mono fun e w' ⟨A, k, c, he, _, hb⟩ => ⟨A, k, c, he, UP hW hb⟩
  obtain ⟨lq, hlq⟩ : ∃ lq, lt4 a0 a1 b0 b1 = lq := ⟨_, rfl⟩
  obtain ⟨hq, hhq⟩ : ∃ hq, hf xs n = hq := ⟨_, rfl⟩
  have IL1 : Hid (∀ W, Below wy.heap.size wy W → Calls Try.prog 21 #[.agg #[.int .i64 a0, .int .i64 a1], .agg #[.int .i64 b0, .int .i64 b1]] W fun e w' => e = .returned (.bool lq) ∧ Below wy.heap.size wy w') := fun W hW => (implIsLess_any a0 a1 b0 b1 W).mono fun e w' hh => ⟨hh.1.trans (by rw [hlq]), UP hW hh.2⟩
  have IL2 : Hid (∀ W, Below wy.heap.size wy W → Calls Try.prog 22 #[.agg #[.int .i64 a0, .int .i64 a1], .agg #[.int .i64 b0, .int .i64 b1]] W fun e w' => e = .returned (.bool lq) ∧ Below wy.heap.size wy w') := fun W hW => (specIsLess_any a0 a1 b0 b1 W).mono fun e w' hh => ⟨hh.1.trans (by rw [hlq]), UP hW hh.2⟩
  have HF1 : Hid (∀ W, Below wy.heap.size wy W → Calls Try.prog 23 #[.slice B n c'] W fun e w' => e = .returned (.int .i64 hq) ∧ Below wy.heap.size wy w') := fun W hW => by
    obtain ⟨_, _, _, _, _, _, _, l1, _⟩ := F.out W hW
    exact (implHeapFault_any _ _ B n c' xs W (by have := HB_.out.small; omega) HB_.out.len HB_.out.nil HB_.out.cap l1).mono fun e w' hh => ⟨hh.1.trans (by rw [hhq]), UP hW hh.2⟩
  have HF2 : Hid (∀ W, Below wy.heap.size wy W → Calls Try.prog 24 #[.slice B n c'] W fun e w' => e = .returned (.int .i64 hq) ∧ Below wy.heap.size wy w') := fun W hW => by
    obtain ⟨_, _, _, _, _, _, _, l1, _⟩ := F.out W hW
    exact (specHeapFault_any _ _ B n c' xs W (by have := HB_.out.small; omega) l1).mono fun e w' hh => ⟨hh.1.trans (by rw [hhq]), UP hW hh.2⟩
  clear hlq hhq
  have y1 : (pq != pq) = false := by simp
  have y2 : (oq != oq) = false := by simp
  have y3 : (mq != mq) = false := by simp
  have y4 : (sq != sq) = false := by simp
  have y5 : (lq != lq) = false := by simp
  have y6 : (hq != hq) = false := by simp
  have fh0 := fun (q : Int) (A : Option Addr) (k c : Nat) (W : World) => run_hr0 q A k c W
  have fh1 := fun (q : Int) (A : Option Addr) (k c : Nat) (W : World) => run_hr1 q A k c W
  have fe0 := fun (q a b : Int) (A : Option Addr) (k c : Nat) (W : World) => run_er0 q a b A k c W
  have fe1 := fun (q a b : Int) (A : Option Addr) (k c : Nat) (W : World) => run_er1 q a b A k c W
  go_cut [96] from 15 (fun x wx => x = .bool false ∧ Below wy.heap.size wy wx)
  case first => as_aux_lemma =>
    refine wp_region_held_drew (S := fun W => ((W.cell? ⟨be, 0, none⟩ = some (.int .i64 p) ∧ W.cell? ⟨be, 1, none⟩ = some (.int .i64 d)) ∧ (W.cell? ⟨x1, 0, none⟩ = some (.int .i64 pq) ∧ W.cell? ⟨x1, 1, none⟩ = some (.slice Q1 np cp)) ∧ (W.cell? ⟨x2, 0, none⟩ = some (.int .i64 oq) ∧ W.cell? ⟨x2, 1, none⟩ = some (.int .i64 o0) ∧ W.cell? ⟨x2, 2, none⟩ = some (.int .i64 o1) ∧ W.cell? ⟨x2, 3, none⟩ = some (.slice Q2 no co)) ∧ (W.cell? ⟨x3, 0, none⟩ = some (.int .i64 mq) ∧ W.cell? ⟨x3, 1, none⟩ = some (.slice Q3 nm cm)) ∧ (W.cell? ⟨x4, 0, none⟩ = some (.int .i64 sq) ∧ W.cell? ⟨x4, 1, none⟩ = some (.slice Q4 nz cz)) ∧ (W.cell? ⟨ya, 0, none⟩ = some (.int .i64 a0) ∧ W.cell? ⟨ya, 1, none⟩ = some (.int .i64 a1)) ∧ (W.cell? ⟨yb, 0, none⟩ = some (.int .i64 b0) ∧ W.cell? ⟨yb, 1, none⟩ = some (.int .i64 b1))) ∧ Below wy.heap.size wy W) (by kernel_rfl) (KH.out _ (Below.drew (Below.refl _ _))) (fun hHeld => ?_)
    obtain ⟨v0, hv0⟩ : ∃ v0, v0 = wy.drew := ⟨_, rfl⟩
    have BL0 : Hid (Below wy.heap.size wy v0) := by rw [hv0]; exact Below.drew (Below.refl _ _)
    rw [← hv0] at hHeld ⊢
    clear hv0
    refine wpAnyH_take (i := 0) (oi := _) (v := ?_) rfl (by kernel_rfl) (by kernel_rfl) (by kernel_rfl) (fun _ _ _ h => h) (Or.inl ⟨by rfl, ?_⟩) hHeld ?_
    rotate_left
    · (intro w hSw; (try dsimp only at hSw); go_simp; try with_reducible rfl)
    try simp only [Act.put, List.getElem_toArray, List.getElem_cons_succ, List.getElem_cons_zero, List.setIfInBounds_toArray, List.set_cons_zero, List.set_cons_succ]
    refine wpAnyH_take (i := 1) (oi := _) (v := ?_) rfl (by kernel_rfl) (by kernel_rfl) (by kernel_rfl) (fun _ _ _ h => h) (Or.inl ⟨by rfl, ?_⟩) hHeld ?_
    rotate_left
    · (intro w hSw; (try dsimp only at hSw); go_simp; try with_reducible rfl)
    try simp only [Act.put, List.getElem_toArray, List.getElem_cons_succ, List.getElem_cons_zero, List.setIfInBounds_toArray, List.set_cons_zero, List.set_cons_succ]
    refine wpAnyH_take (i := 2) (oi := _) (v := ?_) rfl (by kernel_rfl) (by kernel_rfl) (by kernel_rfl) (fun _ _ _ h => h) (Or.inl ⟨by rfl, ?_⟩) hHeld ?_
    rotate_left
    · (intro w hSw; (try dsimp only at hSw); go_simp; try with_reducible rfl)
    try simp only [Act.put, List.getElem_toArray, List.getElem_cons_succ, List.getElem_cons_zero, List.setIfInBounds_toArray, List.set_cons_zero, List.set_cons_succ]
    refine wpAnyH_take (i := 3) (oi := _) (v := ?_) rfl (by kernel_rfl) (by kernel_rfl) (by kernel_rfl) (fun _ _ _ h => h) (Or.inl ⟨by rfl, ?_⟩) hHeld ?_
    rotate_left
    · (intro w hSw; (try dsimp only at hSw); go_simp; try with_reducible rfl)
    try simp only [Act.put, List.getElem_toArray, List.getElem_cons_succ, List.getElem_cons_zero, List.setIfInBounds_toArray, List.set_cons_zero, List.set_cons_succ]
    refine wpAnyH_ready (rs := [4]) (by kernel_rfl) (by simp) ?_
    refine AllReadyH.cons (o := _) rfl (fun K0 hK0 => ?_) AllReadyH.nil
    go_simp
    refine (SPU.out _ (by go_split_ands; assumption)).mono ?_
    rintro e9 v1 ⟨A1_, k1_, c1_, rfl, hv1⟩
    go_wp2_with fail
    skip
    refine hK0.out _ _ (KH.out _ hv1) (fun hHeld => ?_)
    clear hK0 K0
    try simp only [Act.put, List.getElem_toArray, List.getElem_cons_succ, List.getElem_cons_zero, List.setIfInBounds_toArray, List.set_cons_zero, List.set_cons_succ]
    refine wpAnyH_take (i := 5) (oi := _) (v := ?_) rfl (by kernel_rfl) (by kernel_rfl) (by kernel_rfl) (fun _ _ _ h => h) (Or.inl ⟨by rfl, ?_⟩) hHeld ?_
    rotate_left
    · (intro w hSw; (try dsimp only at hSw); go_simp; try with_reducible rfl)
    try simp only [Act.put, List.getElem_toArray, List.getElem_cons_succ, List.getElem_cons_zero, List.setIfInBounds_toArray, List.set_cons_zero, List.set_cons_succ]
    refine wpAnyH_take (i := 6) (oi := _) (v := ?_) rfl (by kernel_rfl) (by kernel_rfl) (by kernel_rfl) (fun _ _ _ h => h) (Or.inl ⟨by rfl, ?_⟩) hHeld ?_
    rotate_left
    · (intro w hSw; (try dsimp only at hSw); go_simp; try with_reducible rfl)
    try simp only [Act.put, List.getElem_toArray, List.getElem_cons_succ, List.getElem_cons_zero, List.setIfInBounds_toArray, List.set_cons_zero, List.set_cons_succ]
    refine wpAnyH_take (i := 7) (oi := _) (v := ?_) rfl (by kernel_rfl) (by kernel_rfl) (by kernel_rfl) (fun _ _ _ h => h) (Or.inl ⟨by rfl, ?_⟩) hHeld ?_
    rotate_left
    · (intro w hSw; (try dsimp only at hSw); go_simp; try with_reducible rfl)
    try simp only [Act.put, List.getElem_toArray, List.getElem_cons_succ, List.getElem_cons_zero, List.setIfInBounds_toArray, List.set_cons_zero, List.set_cons_succ]
    refine wpAnyH_take (i := 8) (oi := _) (v := ?_) rfl (by kernel_rfl) (by kernel_rfl) (by kernel_rfl) (fun _ _ _ h => h) (Or.inl ⟨by rfl, ?_⟩) hHeld ?_
    rotate_left
    · (intro w hSw; (try dsimp only at hSw); go_simp; try with_reducible rfl)
    try simp only [Act.put, List.getElem_toArray, List.getElem_cons_succ, List.getElem_cons_zero, List.setIfInBounds_toArray, List.set_cons_zero, List.set_cons_succ]
    refine wpAnyH_take (i := 9) (oi := _) (v := ?_) rfl (by kernel_rfl) (by kernel_rfl) (by kernel_rfl) (fun _ _ _ h => h) (Or.inl ⟨by rfl, ?_⟩) hHeld ?_
    rotate_left
    · (intro w hSw; (try dsimp only at hSw); go_simp; try with_reducible rfl)
    try simp only [Act.put, List.getElem_toArray, List.getElem_cons_succ, List.getElem_cons_zero, List.setIfInBounds_toArray, List.set_cons_zero, List.set_cons_succ]
    refine wpAnyH_take (i := 10) (oi := _) (v := ?_) rfl (by kernel_rfl) (by kernel_rfl) (by kernel_rfl) (fun _ _ _ h => h) (Or.inl ⟨by rfl, ?_⟩) hHeld ?_
    rotate_left
    · (intro w hSw; (try dsimp only at hSw); go_simp; try with_reducible rfl)
    try simp only [Act.put, List.getElem_toArray, List.getElem_cons_succ, List.getElem_cons_zero, List.setIfInBounds_toArray, List.set_cons_zero, List.set_cons_succ]
    refine wpAnyH_ready (rs := [11]) (by kernel_rfl) (by simp) ?_
    refine AllReadyH.cons (o := _) rfl (fun K0 hK0 => ?_) AllReadyH.nil
    go_simp
    refine (SPO.out _ (by go_split_ands; assumption)).mono ?_
    rintro e9 v2 ⟨A2_, k2_, c2_, rfl, hv2⟩
    go_wp2_with fail
    skip
    refine hK0.out _ _ (KH.out _ hv2) (fun hHeld => ?_)
    clear hK0 K0
    try simp only [Act.put, List.getElem_toArray, List.getElem_cons_succ, List.getElem_cons_zero, List.setIfInBounds_toArray, List.set_cons_zero, List.set_cons_succ]
    refine wpAnyH_take (i := 12) (oi := _) (v := ?_) rfl (by kernel_rfl) (by kernel_rfl) (by kernel_rfl) (fun _ _ _ h => h) (Or.inl ⟨by rfl, ?_⟩) hHeld ?_
    rotate_left
    · (intro w hSw; (try dsimp only at hSw); go_simp; try with_reducible rfl)
    try simp only [Act.put, List.getElem_toArray, List.getElem_cons_succ, List.getElem_cons_zero, List.setIfInBounds_toArray, List.set_cons_zero, List.set_cons_succ]
    refine wpAnyH_take (i := 13) (oi := _) (v := ?_) rfl (by kernel_rfl) (by kernel_rfl) (by kernel_rfl) (fun _ _ _ h => h) (Or.inl ⟨by rfl, ?_⟩) hHeld ?_
    rotate_left
    · (intro w hSw; (try dsimp only at hSw); go_simp; try with_reducible rfl)
    try simp only [Act.put, List.getElem_toArray, List.getElem_cons_succ, List.getElem_cons_zero, List.setIfInBounds_toArray, List.set_cons_zero, List.set_cons_succ]
    refine wpAnyH_take (i := 14) (oi := _) (v := ?_) rfl (by kernel_rfl) (by kernel_rfl) (by kernel_rfl) (fun _ _ _ h => h) (Or.inl ⟨by rfl, ?_⟩) hHeld ?_
    rotate_left
    · (intro w hSw; (try dsimp only at hSw); go_simp; try with_reducible rfl)
    try simp only [Act.put, List.getElem_toArray, List.getElem_cons_succ, List.getElem_cons_zero, List.setIfInBounds_toArray, List.set_cons_zero, List.set_cons_succ]
    refine wpAnyH_take (i := 15) (oi := _) (v := ?_) rfl (by kernel_rfl) (by kernel_rfl) (by kernel_rfl) (fun _ _ _ h => h) (Or.inl ⟨by rfl, ?_⟩) hHeld ?_
    rotate_left
    · (intro w hSw; (try dsimp only at hSw); go_simp; try with_reducible rfl)
    try simp only [Act.put, List.getElem_toArray, List.getElem_cons_succ, List.getElem_cons_zero, List.setIfInBounds_toArray, List.set_cons_zero, List.set_cons_succ]
    refine wpAnyH_take (i := 16) (oi := _) (v := ?_) rfl (by kernel_rfl) (by kernel_rfl) (by kernel_rfl) (fun _ _ _ h => h) (Or.inl ⟨by rfl, ?_⟩) hHeld ?_
    rotate_left
    · (intro w hSw; (try dsimp only at hSw); go_simp; try with_reducible rfl)
    try simp only [Act.put, List.getElem_toArray, List.getElem_cons_succ, List.getElem_cons_zero, List.setIfInBounds_toArray, List.set_cons_zero, List.set_cons_succ]
    refine wpAnyH_take (i := 17) (oi := _) (v := ?_) rfl (by kernel_rfl) (by kernel_rfl) (by kernel_rfl) (fun _ _ _ h => h) (Or.inl ⟨by rfl, ?_⟩) hHeld ?_
    rotate_left
    · (intro w hSw; (try dsimp only at hSw); go_simp; try with_reducible rfl)
    try simp only [Act.put, List.getElem_toArray, List.getElem_cons_succ, List.getElem_cons_zero, List.setIfInBounds_toArray, List.set_cons_zero, List.set_cons_succ]
    refine wpAnyH_take (i := 18) (oi := _) (v := ?_) rfl (by kernel_rfl) (by kernel_rfl) (by kernel_rfl) (fun _ _ _ h => h) (Or.inl ⟨by rfl, ?_⟩) hHeld ?_
    rotate_left
    · (intro w hSw; (try dsimp only at hSw); go_simp; try with_reducible rfl)
    try simp only [Act.put, List.getElem_toArray, List.getElem_cons_succ, List.getElem_cons_zero, List.setIfInBounds_toArray, List.set_cons_zero, List.set_cons_succ]
    refine wpAnyH_ready (rs := [19]) (by kernel_rfl) (by simp) ?_
    refine AllReadyH.cons (o := _) rfl (fun K0 hK0 => ?_) AllReadyH.nil
    go_simp
    refine (SPO.out _ (by go_split_ands; assumption)).mono ?_
    rintro e9 v3 ⟨A3_, k3_, c3_, rfl, hv3⟩
    go_wp2_with fail
    skip
    refine hK0.out _ _ (KH.out _ hv3) (fun hHeld => ?_)
    clear hK0 K0
    try simp only [Act.put, List.getElem_toArray, List.getElem_cons_succ, List.getElem_cons_zero, List.setIfInBounds_toArray, List.set_cons_zero, List.set_cons_succ]
    refine wpAnyH_take (i := 20) (oi := _) (v := ?_) rfl (by kernel_rfl) (by kernel_rfl) (by kernel_rfl) (fun _ _ _ h => h) (Or.inl ⟨by rfl, ?_⟩) hHeld ?_
    rotate_left
    · (intro w hSw; (try dsimp only at hSw); go_simp; try with_reducible rfl)
    try simp only [Act.put, List.getElem_toArray, List.getElem_cons_succ, List.getElem_cons_zero, List.setIfInBounds_toArray, List.set_cons_zero, List.set_cons_succ]
    refine wpAnyH_take (i := 21) (oi := _) (v := ?_) rfl (by kernel_rfl) (by kernel_rfl) (by kernel_rfl) (fun _ _ _ h => h) (Or.inl ⟨by rfl, ?_⟩) hHeld ?_
    rotate_left
    · (intro w hSw; (try dsimp only at hSw); go_simp; try with_reducible rfl)
    try simp only [Act.put, List.getElem_toArray, List.getElem_cons_succ, List.getElem_cons_zero, List.setIfInBounds_toArray, List.set_cons_zero, List.set_cons_succ]
    refine wpAnyH_take (i := 22) (oi := _) (v := ?_) rfl (by kernel_rfl) (by kernel_rfl) (by kernel_rfl) (fun _ _ _ h => h) (Or.inl ⟨by rfl, ?_⟩) hHeld ?_
    rotate_left
    · (intro w hSw; (try dsimp only at hSw); go_simp; try with_reducible rfl)
    try simp only [Act.put, List.getElem_toArray, List.getElem_cons_succ, List.getElem_cons_zero, List.setIfInBounds_toArray, List.set_cons_zero, List.set_cons_succ]
    refine wpAnyH_take (i := 23) (oi := _) (v := ?_) rfl (by kernel_rfl) (by kernel_rfl) (by kernel_rfl) (fun _ _ _ h => h) (Or.inl ⟨by rfl, ?_⟩) hHeld ?_
    rotate_left
    · (intro w hSw; (try dsimp only at hSw); go_simp; try with_reducible rfl)
    try simp only [Act.put, List.getElem_toArray, List.getElem_cons_succ, List.getElem_cons_zero, List.setIfInBounds_toArray, List.set_cons_zero, List.set_cons_succ]
    refine wpAnyH_take (i := 24) (oi := _) (v := ?_) rfl (by kernel_rfl) (by kernel_rfl) (by kernel_rfl) (fun _ _ _ h => h) (Or.inl ⟨by rfl, ?_⟩) hHeld ?_
    rotate_left
    · (intro w hSw; (try dsimp only at hSw); go_simp; try with_reducible rfl)
    try simp only [Act.put, List.getElem_toArray, List.getElem_cons_succ, List.getElem_cons_zero, List.setIfInBounds_toArray, List.set_cons_zero, List.set_cons_succ]
    refine wpAnyH_take (i := 25) (oi := _) (v := ?_) rfl (by kernel_rfl) (by kernel_rfl) (by kernel_rfl) (fun _ _ _ h => h) (Or.inl ⟨by rfl, ?_⟩) hHeld ?_
    rotate_left
    · (intro w hSw; (try dsimp only at hSw); go_simp; try with_reducible rfl)
    try simp only [Act.put, List.getElem_toArray, List.getElem_cons_succ, List.getElem_cons_zero, List.setIfInBounds_toArray, List.set_cons_zero, List.set_cons_succ]
    refine wpAnyH_take (i := 26) (oi := _) (v := ?_) rfl (by kernel_rfl) (by kernel_rfl) (by kernel_rfl) (fun _ _ _ h => h) (Or.inl ⟨by rfl, ?_⟩) hHeld ?_
    rotate_left
    · (intro w hSw; (try dsimp only at hSw); go_simp; try with_reducible rfl)
    try simp only [Act.put, List.getElem_toArray, List.getElem_cons_succ, List.getElem_cons_zero, List.setIfInBounds_toArray, List.set_cons_zero, List.set_cons_succ]
    refine wpAnyH_ready (rs := [27]) (by kernel_rfl) (by simp) ?_
    refine AllReadyH.cons (o := _) rfl (fun K0 hK0 => ?_) AllReadyH.nil
    go_simp
    refine (SHO.out _ (by go_split_ands; assumption)).mono ?_
    rintro e9 v4 ⟨A4_, k4_, c4_, rfl, hv4⟩
    go_wp2_with fail
    skip
    refine hK0.out _ _ (KH.out _ hv4) (fun hHeld => ?_)
    clear hK0 K0
    try simp only [Act.put, List.getElem_toArray, List.getElem_cons_succ, List.getElem_cons_zero, List.setIfInBounds_toArray, List.set_cons_zero, List.set_cons_succ]
    refine wpAnyH_take (i := 28) (oi := _) (v := ?_) rfl (by kernel_rfl) (by kernel_rfl) (by kernel_rfl) (fun _ _ _ h => h) (Or.inl ⟨by rfl, ?_⟩) hHeld ?_
    rotate_left
    · (intro w hSw; (try dsimp only at hSw); go_simp; try with_reducible rfl)
    try simp only [Act.put, List.getElem_toArray, List.getElem_cons_succ, List.getElem_cons_zero, List.setIfInBounds_toArray, List.set_cons_zero, List.set_cons_succ]
    refine wpAnyH_take (i := 29) (oi := _) (v := ?_) rfl (by kernel_rfl) (by kernel_rfl) (by kernel_rfl) (fun _ _ _ h => h) (Or.inl ⟨by rfl, ?_⟩) hHeld ?_
    rotate_left
    · (intro w hSw; (try dsimp only at hSw); go_simp; try with_reducible rfl)
    try simp only [Act.put, List.getElem_toArray, List.getElem_cons_succ, List.getElem_cons_zero, List.setIfInBounds_toArray, List.set_cons_zero, List.set_cons_succ]
    refine wpAnyH_take (i := 30) (oi := _) (v := ?_) rfl (by kernel_rfl) (by kernel_rfl) (by kernel_rfl) (fun _ _ _ h => h) (Or.inl ⟨by rfl, ?_⟩) hHeld ?_
    rotate_left
    · (intro w hSw; (try dsimp only at hSw); go_simp; try with_reducible rfl)
    try simp only [Act.put, List.getElem_toArray, List.getElem_cons_succ, List.getElem_cons_zero, List.setIfInBounds_toArray, List.set_cons_zero, List.set_cons_succ]
    refine wpAnyH_take (i := 31) (oi := _) (v := ?_) rfl (by kernel_rfl) (by kernel_rfl) (by kernel_rfl) (fun _ _ _ h => h) (Or.inl ⟨by rfl, ?_⟩) hHeld ?_
    rotate_left
    · (intro w hSw; (try dsimp only at hSw); go_simp; try with_reducible rfl)
    try simp only [Act.put, List.getElem_toArray, List.getElem_cons_succ, List.getElem_cons_zero, List.setIfInBounds_toArray, List.set_cons_zero, List.set_cons_succ]
    refine wpAnyH_take (i := 32) (oi := _) (v := ?_) rfl (by kernel_rfl) (by kernel_rfl) (by kernel_rfl) (fun _ _ _ h => h) (Or.inl ⟨by rfl, ?_⟩) hHeld ?_
    rotate_left
    · (intro w hSw; (try dsimp only at hSw); go_simp; try with_reducible rfl)
    try simp only [Act.put, List.getElem_toArray, List.getElem_cons_succ, List.getElem_cons_zero, List.setIfInBounds_toArray, List.set_cons_zero, List.set_cons_succ]
    refine wpAnyH_take (i := 33) (oi := _) (v := ?_) rfl (by kernel_rfl) (by kernel_rfl) (by kernel_rfl) (fun _ _ _ h => h) (Or.inl ⟨by rfl, ?_⟩) hHeld ?_
    rotate_left
    · (intro w hSw; (try dsimp only at hSw); go_simp; try with_reducible rfl)
    try simp only [Act.put, List.getElem_toArray, List.getElem_cons_succ, List.getElem_cons_zero, List.setIfInBounds_toArray, List.set_cons_zero, List.set_cons_succ]
    refine wpAnyH_take (i := 34) (oi := _) (v := ?_) rfl (by kernel_rfl) (by kernel_rfl) (by kernel_rfl) (fun _ _ _ h => h) (Or.inl ⟨by rfl, ?_⟩) hHeld ?_
    rotate_left
    · (intro w hSw; (try dsimp only at hSw); go_simp; try with_reducible rfl)
    try simp only [Act.put, List.getElem_toArray, List.getElem_cons_succ, List.getElem_cons_zero, List.setIfInBounds_toArray, List.set_cons_zero, List.set_cons_succ]
    refine wpAnyH_ready (rs := [35]) (by kernel_rfl) (by simp) ?_
    refine AllReadyH.cons (o := _) rfl (fun K0 hK0 => ?_) AllReadyH.nil
    go_simp
    refine (SSO.out _ (by go_split_ands; assumption)).mono ?_
    rintro e9 v5 ⟨A5_, k5_, c5_, rfl, hv5⟩
    go_wp2_with fail
    skip
    refine hK0.out _ _ (KH.out _ hv5) (fun hHeld => ?_)
    clear hK0 K0
    try simp only [Act.put, List.getElem_toArray, List.getElem_cons_succ, List.getElem_cons_zero, List.setIfInBounds_toArray, List.set_cons_zero, List.set_cons_succ]
    refine wpAnyH_take (i := 36) (oi := _) (v := ?_) rfl (by kernel_rfl) (by kernel_rfl) (by kernel_rfl) (fun _ _ _ h => h) (Or.inl ⟨by rfl, ?_⟩) hHeld ?_
    rotate_left
    · (intro w hSw; (try dsimp only at hSw); go_simp; try with_reducible rfl)
    try simp only [Act.put, List.getElem_toArray, List.getElem_cons_succ, List.getElem_cons_zero, List.setIfInBounds_toArray, List.set_cons_zero, List.set_cons_succ]
    refine wpAnyH_take (i := 37) (oi := _) (v := ?_) rfl (by kernel_rfl) (by kernel_rfl) (by kernel_rfl) (fun _ _ _ h => h) (Or.inl ⟨by rfl, ?_⟩) hHeld ?_
    rotate_left
    · (intro w hSw; (try dsimp only at hSw); go_simp; try with_reducible rfl)
    try simp only [Act.put, List.getElem_toArray, List.getElem_cons_succ, List.getElem_cons_zero, List.setIfInBounds_toArray, List.set_cons_zero, List.set_cons_succ]
    refine wpAnyH_take (i := 38) (oi := _) (v := ?_) rfl (by kernel_rfl) (by kernel_rfl) (by kernel_rfl) (fun _ _ _ h => h) (Or.inl ⟨by rfl, ?_⟩) hHeld ?_
    rotate_left
    · (intro w hSw; (try dsimp only at hSw); go_simp; try with_reducible rfl)
    try simp only [Act.put, List.getElem_toArray, List.getElem_cons_succ, List.getElem_cons_zero, List.setIfInBounds_toArray, List.set_cons_zero, List.set_cons_succ]
    refine wpAnyH_take (i := 39) (oi := _) (v := ?_) rfl (by kernel_rfl) (by kernel_rfl) (by kernel_rfl) (fun _ _ _ h => h) (Or.inl ⟨by rfl, ?_⟩) hHeld ?_
    rotate_left
    · (intro w hSw; (try dsimp only at hSw); go_simp; try with_reducible rfl)
    try simp only [Act.put, List.getElem_toArray, List.getElem_cons_succ, List.getElem_cons_zero, List.setIfInBounds_toArray, List.set_cons_zero, List.set_cons_succ]
    refine wpAnyH_take (i := 40) (oi := _) (v := ?_) rfl (by kernel_rfl) (by kernel_rfl) (by kernel_rfl) (fun _ _ _ h => h) (Or.inl ⟨by rfl, ?_⟩) hHeld ?_
    rotate_left
    · (intro w hSw; (try dsimp only at hSw); go_simp; try with_reducible rfl)
    try simp only [Act.put, List.getElem_toArray, List.getElem_cons_succ, List.getElem_cons_zero, List.setIfInBounds_toArray, List.set_cons_zero, List.set_cons_succ]
    refine wpAnyH_take (i := 41) (oi := _) (v := ?_) rfl (by kernel_rfl) (by kernel_rfl) (by kernel_rfl) (fun _ _ _ h => h) (Or.inl ⟨by rfl, ?_⟩) hHeld ?_
    rotate_left
    · (intro w hSw; (try dsimp only at hSw); go_simp; try with_reducible rfl)
    try simp only [Act.put, List.getElem_toArray, List.getElem_cons_succ, List.getElem_cons_zero, List.setIfInBounds_toArray, List.set_cons_zero, List.set_cons_succ]
    refine wpAnyH_take (i := 43) (oi := _) (v := ?_) rfl (by kernel_rfl) (by kernel_rfl) (by kernel_rfl) (fun _ _ _ h => h) (Or.inl ⟨by rfl, ?_⟩) hHeld ?_
    rotate_left
    · (intro w hSw; (try dsimp only at hSw); go_simp; try with_reducible rfl)
    try simp only [Act.put, List.getElem_toArray, List.getElem_cons_succ, List.getElem_cons_zero, List.setIfInBounds_toArray, List.set_cons_zero, List.set_cons_succ]
    refine wpAnyH_take (i := 44) (oi := _) (v := ?_) rfl (by kernel_rfl) (by kernel_rfl) (by kernel_rfl) (fun _ _ _ h => h) (Or.inl ⟨by rfl, ?_⟩) hHeld ?_
    rotate_left
    · (intro w hSw; (try dsimp only at hSw); go_simp; try with_reducible rfl)
    try simp only [Act.put, List.getElem_toArray, List.getElem_cons_succ, List.getElem_cons_zero, List.setIfInBounds_toArray, List.set_cons_zero, List.set_cons_succ]
    refine wpAnyH_ready (rs := [42]) (by kernel_rfl) (by simp) ?_
    refine AllReadyH.cons (o := _) rfl (fun K0 hK0 => ?_) AllReadyH.nil
    go_simp
    refine (IL1.out _ (by go_split_ands; assumption)).mono ?_
    rintro e9 v6 ⟨rfl, hv6⟩
    go_wp2_with fail
    skip
    refine hK0.out _ _ (KH.out _ hv6) (fun hHeld => ?_)
    clear hK0 K0
    try simp only [Act.put, List.getElem_toArray, List.getElem_cons_succ, List.getElem_cons_zero, List.setIfInBounds_toArray, List.set_cons_zero, List.set_cons_succ]
    refine wpAnyH_ready (rs := [45]) (by kernel_rfl) (by simp) ?_
    refine AllReadyH.cons (o := _) rfl (fun K0 hK0 => ?_) AllReadyH.nil
    go_simp
    refine (IL2.out _ (by go_split_ands; assumption)).mono ?_
    rintro e9 v7 ⟨rfl, hv7⟩
    go_wp2_with fail
    skip
    refine hK0.out _ _ (KH.out _ hv7) (fun hHeld => ?_)
    clear hK0 K0
    try simp only [Act.put, List.getElem_toArray, List.getElem_cons_succ, List.getElem_cons_zero, List.setIfInBounds_toArray, List.set_cons_zero, List.set_cons_succ]
    refine wpAnyH_take (i := 46) (oi := _) (v := ?_) rfl (by kernel_rfl) (by kernel_rfl) (by kernel_rfl) (fun _ _ _ h => h) (Or.inl ⟨by rfl, ?_⟩) hHeld ?_
    rotate_left
    · (intro w hSw; (try dsimp only at hSw); go_simp; try with_reducible rfl)
    try simp only [Act.put, List.getElem_toArray, List.getElem_cons_succ, List.getElem_cons_zero, List.setIfInBounds_toArray, List.set_cons_zero, List.set_cons_succ]
    refine wpAnyH_take (i := 47) (oi := _) (v := ?_) rfl (by kernel_rfl) (by kernel_rfl) (by kernel_rfl) (fun _ _ _ h => h) (Or.inl ⟨by rfl, ?_⟩) hHeld ?_
    rotate_left
    · (intro w hSw; (try dsimp only at hSw); go_simp; try with_reducible rfl)
    try simp only [Act.put, List.getElem_toArray, List.getElem_cons_succ, List.getElem_cons_zero, List.setIfInBounds_toArray, List.set_cons_zero, List.set_cons_succ]
    refine wpAnyH_take (i := 48) (oi := _) (v := ?_) rfl (by kernel_rfl) (by kernel_rfl) (by kernel_rfl) (fun _ _ _ h => h) (Or.inl ⟨by rfl, ?_⟩) hHeld ?_
    rotate_left
    · (intro w hSw; (try dsimp only at hSw); go_simp; try with_reducible rfl)
    try simp only [Act.put, List.getElem_toArray, List.getElem_cons_succ, List.getElem_cons_zero, List.setIfInBounds_toArray, List.set_cons_zero, List.set_cons_succ]
    refine wpAnyH_take (i := 49) (oi := _) (v := ?_) rfl (by kernel_rfl) (by kernel_rfl) (by kernel_rfl) (fun _ _ _ h => h) (Or.inl ⟨by rfl, ?_⟩) hHeld ?_
    rotate_left
    · (intro w hSw; (try dsimp only at hSw); go_simp; try with_reducible rfl)
    try simp only [Act.put, List.getElem_toArray, List.getElem_cons_succ, List.getElem_cons_zero, List.setIfInBounds_toArray, List.set_cons_zero, List.set_cons_succ]
    refine wpAnyH_take (i := 51) (oi := _) (v := ?_) rfl (by kernel_rfl) (by kernel_rfl) (by kernel_rfl) (fun _ _ _ h => h) (Or.inl ⟨by rfl, ?_⟩) hHeld ?_
    rotate_left
    · (intro w hSw; (try dsimp only at hSw); go_simp; try with_reducible rfl)
    try simp only [Act.put, List.getElem_toArray, List.getElem_cons_succ, List.getElem_cons_zero, List.setIfInBounds_toArray, List.set_cons_zero, List.set_cons_succ]
    refine wpAnyH_ready (rs := [50]) (by kernel_rfl) (by simp) ?_
    refine AllReadyH.cons (o := _) rfl (fun K0 hK0 => ?_) AllReadyH.nil
    go_simp
    refine (HF1.out _ (by go_split_ands; assumption)).mono ?_
    rintro e9 v8 ⟨rfl, hv8⟩
    go_wp2_with fail
    skip
    refine hK0.out _ _ (KH.out _ hv8) (fun hHeld => ?_)
    clear hK0 K0
    try simp only [Act.put, List.getElem_toArray, List.getElem_cons_succ, List.getElem_cons_zero, List.setIfInBounds_toArray, List.set_cons_zero, List.set_cons_succ]
    refine wpAnyH_ready (rs := [52]) (by kernel_rfl) (by simp) ?_
    refine AllReadyH.cons (o := _) rfl (fun K0 hK0 => ?_) AllReadyH.nil
    go_simp
    refine (HF2.out _ (by go_split_ands; assumption)).mono ?_
    rintro e9 v9 ⟨rfl, hv9⟩
    go_wp2_with fail
    skip
    refine hK0.out _ _ (KH.out _ hv9) (fun hHeld => ?_)
    clear hK0 K0
    try simp only [Act.put, List.getElem_toArray, List.getElem_cons_succ, List.getElem_cons_zero, List.setIfInBounds_toArray, List.set_cons_zero, List.set_cons_succ]
    refine wpAnyH_take (i := 53) (oi := _) (v := ?_) rfl (by kernel_rfl) (by kernel_rfl) (by kernel_rfl) (fun _ _ _ h => h) (Or.inl ⟨by rfl, ?_⟩) hHeld ?_
    rotate_left
    · (intro w hSw; (try dsimp only at hSw); go_simp; try with_reducible rfl)
    try simp only [Act.put, List.getElem_toArray, List.getElem_cons_succ, List.getElem_cons_zero, List.setIfInBounds_toArray, List.set_cons_zero, List.set_cons_succ]
    refine wpAnyH_take (i := 54) (oi := _) (v := ?_) rfl (by kernel_rfl) (by kernel_rfl) (by kernel_rfl) (fun _ _ _ h => h) (Or.inl ⟨by rfl, ?_⟩) hHeld ?_
    rotate_left
    · (intro w hSw; (try dsimp only at hSw); go_simp; try with_reducible rfl)
    try simp only [Act.put, List.getElem_toArray, List.getElem_cons_succ, List.getElem_cons_zero, List.setIfInBounds_toArray, List.set_cons_zero, List.set_cons_succ]
    refine wpAnyH_done (by kernel_rfl) ?_ _
    clear hHeld
    go_wp2_with fail
    go_meet
    exact ⟨rfl, hv9⟩
  case rest =>
    rename World => v9
    obtain ⟨rfl, hb⟩ := hcut
    have BA := Lib.hid hb
    clear hb SPU SPO SHO SSO IL1 IL2 HF1 HF2 KH y1 y2 y3 y4 y5 y6 UP
    obtain ⟨⟨e0_, e1_⟩, ⟨r0_, r1_⟩, ⟨s0_, s1_, s2_, s3_⟩, ⟨t0_, t1_⟩, ⟨u0_, u1_⟩, ⟨y0_, y1_⟩, ⟨z0_, z1_⟩, l1, l2, l3, l4, l5, l6, l7, l8, bw⟩ := F.out v9 BA.out
    clear l1 l2 l3 l4 l6 l7 l8 bw
    go_upto_region 14 with (fail)
    go_cut [122] from 15 (fun x wx => x = .bool false ∧ Below wy.heap.size wy wx)
    case first => as_aux_lemma =>
      by_cases hp : pq = 0
      case neg =>
        have z : (pq == 0) = false := by simp [hp]
        clear l5
        go_wp2
        go_meet
        exact ⟨rfl, BA.out⟩
      have z : (pq == 0) = true := by simp [hp]
      have ok := pushH_ok HB_.out.len (p := p) (d := d) (by rw [EQ1.out]; exact hp)
      rw [EQ1.out] at ok
      have ok : hf Ph (n + 1) = 0 ∧ Ph.length = (n + 1) * 2 ∧ (pushH Ph (n + 1) p d).1 = 6 := ok
      obtain rfl : np = n + 1 := by have := HQ1.out.len; omega
      have HFC := Lib.hid (implHeapFault_any _ _ Q1 (n + 1) cp Ph v9 (by have := HQ1.out.small; omega) HQ1.out.len HQ1.out.nil HQ1.out.cap l5)
      rw [ok.1] at HFC
      obtain ⟨uq, Uh, hu⟩ : ∃ uq Uh, pushH Ph (n + 1) p d = (uq, Uh) := ⟨_, _, rfl⟩
      have hu6 : uq = 6 := by have := ok.2.2; rw [hu] at this; exact this
      have HU := Lib.hid hu
      clear ok hu l5 hp
      go_wp2_with fail
      refine HFC.out.mono ?_
      rintro e va ⟨rfl, hb⟩
      have BB := Lib.hid (BA.out.trans (hb.mono BA.out.size))
      clear hb HFC e0_ e1_ r0_ r1_ s0_ s1_ s2_ s3_ t0_ t1_ u0_ u1_ y0_ y1_ z0_ z1_
      obtain ⟨⟨e0_, e1_⟩, ⟨r0_, r1_⟩, ⟨s0_, s1_, s2_, s3_⟩, ⟨t0_, t1_⟩, ⟨u0_, u1_⟩, ⟨y0_, y1_⟩, ⟨z0_, z1_⟩, l1, l2, l3, l4, l5, l6, l7, l8, bw⟩ := F.out va BB.out
      have PU := Lib.hid (implPushHeap_any _ _ Q1 (n + 1) cp Ph p d va (by have := HQ1.out.small; omega) HQ1.out.len HQ1.out.nil HQ1.out.cap l5)
      rw [HU.out] at PU
      have n13 : n ≤ 13 := HB_.out.small
      have wr1 : IntKind.i64.wrap ((n : Int) + 1) = (n : Int) + 1 := IntWalk.i64_in _ (by omega)
      have zn : (((n : Int) + 1) != (n : Int) + 1) = false := by simp
      clear l1 l2 l3 l4 l5 l6 l7 l8 bw
      go_wp2_with fail
      refine PU.out.mono ?_
      rintro e vb ⟨_, _, _, rfl, _, hb⟩
      have BB2 := Lib.hid (BB.out.trans (hb.mono BB.out.size))
      dsimp only
      clear hb PU HU
      subst hu6
      have fh0 := fun (q : Int) (A : Option Addr) (k c : Nat) (W : World) => run_hr0 q A k c W
      go_wp2
      go_meet
      exact ⟨rfl, BB2.out⟩
    case rest =>
      rename World => vc
      obtain ⟨rfl, hb⟩ := hcut
      have BC := Lib.hid hb
      clear hb e0_ e1_ r0_ r1_ s0_ s1_ s2_ s3_ t0_ t1_ u0_ u1_ y0_ y1_ z0_ z1_ l5 BA
      obtain ⟨⟨e0_, e1_⟩, ⟨r0_, r1_⟩, ⟨s0_, s1_, s2_, s3_⟩, ⟨t0_, t1_⟩, ⟨u0_, u1_⟩, ⟨y0_, y1_⟩, ⟨z0_, z1_⟩, l1, l2, l3, l4, l5, l6, l7, l8, bw⟩ := F.out vc BC.out
      go_upto_region 16 with (fail)
      clear l1 l2 l3 l4 l5 l6 l7 l8 bw
      go_cut [155] from 15 (fun x wx => x = .bool false ∧ Below wy.heap.size wy wx)
      case first => as_aux_lemma =>
        by_cases hp : oq = 0
        case neg =>
          have z : (oq == 0) = false := by simp [hp]
          have KH2 : Hid (∀ W, Below wy.heap.size wy W → (W.cell? ⟨x2, 0, none⟩ = some (.int .i64 oq) ∧ W.cell? ⟨x2, 1, none⟩ = some (.int .i64 o0) ∧ W.cell? ⟨x2, 2, none⟩ = some (.int .i64 o1) ∧ W.cell? ⟨x2, 3, none⟩ = some (.slice Q2 no co)) ∧ Below wy.heap.size wy W) := fun W hW => by
            obtain ⟨_, _, h3, _⟩ := F.out W hW
            exact ⟨h3, hW⟩
          clear e0_ e1_ r0_ r1_ s0_ s1_ s2_ s3_ t0_ t1_ u0_ u1_ y0_ y1_ z0_ z1_
          refine wp_region_held_drew (S := fun W => (W.cell? ⟨x2, 0, none⟩ = some (.int .i64 oq) ∧ W.cell? ⟨x2, 1, none⟩ = some (.int .i64 o0) ∧ W.cell? ⟨x2, 2, none⟩ = some (.int .i64 o1) ∧ W.cell? ⟨x2, 3, none⟩ = some (.slice Q2 no co)) ∧ Below wy.heap.size wy W) (by kernel_rfl) (KH2.out _ BC.out.drew) (fun hHeld => ?_)
          obtain ⟨v0, hv0⟩ : ∃ v0, v0 = vc.drew := ⟨_, rfl⟩
          have BL0 : Hid (Below vc.heap.size vc v0) := by rw [hv0]; exact Below.drew (Below.refl _ _)
          rw [← hv0] at hHeld ⊢
          clear hv0
          refine wpAnyH_take (i := 0) (oi := _) (v := ?_) rfl (by kernel_rfl) (by kernel_rfl) (by kernel_rfl) (fun _ _ _ h => h) (Or.inl ⟨by rfl, ?_⟩) hHeld ?_
          rotate_left
          · (intro w hSw; (try dsimp only at hSw); go_simp; try with_reducible rfl)
          try simp only [Act.put, List.getElem_toArray, List.getElem_cons_succ, List.getElem_cons_zero, List.setIfInBounds_toArray, List.set_cons_zero, List.set_cons_succ]
          refine wpAnyH_take (i := 1) (oi := _) (v := ?_) rfl (by kernel_rfl) (by kernel_rfl) (by kernel_rfl) (fun _ _ _ h => h) (Or.inl ⟨by rfl, ?_⟩) hHeld ?_
          rotate_left
          · (intro w hSw; (try dsimp only at hSw); go_simp; try with_reducible rfl)
          try simp only [Act.put, List.getElem_toArray, List.getElem_cons_succ, List.getElem_cons_zero, List.setIfInBounds_toArray, List.set_cons_zero, List.set_cons_succ]
          refine wpAnyH_take (i := 2) (oi := _) (v := ?_) rfl (by kernel_rfl) (by kernel_rfl) (by kernel_rfl) (fun _ _ _ h => h) (Or.inl ⟨by rfl, ?_⟩) hHeld ?_
          rotate_left
          · (intro w hSw; (try dsimp only at hSw); go_simp; try with_reducible rfl)
          try simp only [Act.put, List.getElem_toArray, List.getElem_cons_succ, List.getElem_cons_zero, List.setIfInBounds_toArray, List.set_cons_zero, List.set_cons_succ]
          refine wpAnyH_take (i := 3) (oi := _) (v := ?_) rfl (by kernel_rfl) (by kernel_rfl) (by kernel_rfl) (fun _ _ _ h => h) (Or.inl ⟨by rfl, ?_⟩) hHeld ?_
          rotate_left
          · (intro w hSw; (try dsimp only at hSw); go_simp; try with_reducible rfl)
          try simp only [Act.put, List.getElem_toArray, List.getElem_cons_succ, List.getElem_cons_zero, List.setIfInBounds_toArray, List.set_cons_zero, List.set_cons_succ]
          refine wpAnyH_take (i := 4) (oi := _) (v := undef) rfl (by kernel_rfl) (by kernel_rfl) (by kernel_rfl) (fun _ _ _ h => h) (Or.inr ⟨by rfl, rfl⟩) hHeld ?_
          try simp only [Act.put, List.getElem_toArray, List.getElem_cons_succ, List.getElem_cons_zero, List.setIfInBounds_toArray, List.set_cons_zero, List.set_cons_succ]
          refine wpAnyH_take (i := 5) (oi := _) (v := undef) rfl (by kernel_rfl) (by kernel_rfl) (by kernel_rfl) (fun _ _ _ h => h) (Or.inr ⟨by rfl, rfl⟩) hHeld ?_
          try simp only [Act.put, List.getElem_toArray, List.getElem_cons_succ, List.getElem_cons_zero, List.setIfInBounds_toArray, List.set_cons_zero, List.set_cons_succ]
          refine wpAnyH_take (i := 6) (oi := _) (v := undef) rfl (by kernel_rfl) (by kernel_rfl) (by kernel_rfl) (fun _ _ _ h => h) (Or.inr ⟨by rfl, rfl⟩) hHeld ?_
          try simp only [Act.put, List.getElem_toArray, List.getElem_cons_succ, List.getElem_cons_zero, List.setIfInBounds_toArray, List.set_cons_zero, List.set_cons_succ]
          refine wpAnyH_take (i := 7) (oi := _) (v := undef) rfl (by kernel_rfl) (by kernel_rfl) (by kernel_rfl) (fun _ _ _ h => h) (Or.inr ⟨by rfl, rfl⟩) hHeld ?_
          try simp only [Act.put, List.getElem_toArray, List.getElem_cons_succ, List.getElem_cons_zero, List.setIfInBounds_toArray, List.set_cons_zero, List.set_cons_succ]
          refine wpAnyH_take (i := 8) (oi := _) (v := undef) rfl (by kernel_rfl) (by kernel_rfl) (by kernel_rfl) (fun _ _ _ h => h) (Or.inr ⟨by rfl, rfl⟩) hHeld ?_
          try simp only [Act.put, List.getElem_toArray, List.getElem_cons_succ, List.getElem_cons_zero, List.setIfInBounds_toArray, List.set_cons_zero, List.set_cons_succ]
          refine wpAnyH_take (i := 9) (oi := _) (v := undef) rfl (by kernel_rfl) (by kernel_rfl) (by kernel_rfl) (fun _ _ _ h => h) (Or.inr ⟨by rfl, rfl⟩) hHeld ?_
          try simp only [Act.put, List.getElem_toArray, List.getElem_cons_succ, List.getElem_cons_zero, List.setIfInBounds_toArray, List.set_cons_zero, List.set_cons_succ]
          refine wpAnyH_take (i := 10) (oi := _) (v := undef) rfl (by kernel_rfl) (by kernel_rfl) (by kernel_rfl) (fun _ _ _ h => h) (Or.inr ⟨by rfl, rfl⟩) hHeld ?_
          try simp only [Act.put, List.getElem_toArray, List.getElem_cons_succ, List.getElem_cons_zero, List.setIfInBounds_toArray, List.set_cons_zero, List.set_cons_succ]
          refine wpAnyH_take (i := 11) (oi := _) (v := undef) rfl (by kernel_rfl) (by kernel_rfl) (by kernel_rfl) (fun _ _ _ h => h) (Or.inr ⟨by rfl, rfl⟩) hHeld ?_
          try simp only [Act.put, List.getElem_toArray, List.getElem_cons_succ, List.getElem_cons_zero, List.setIfInBounds_toArray, List.set_cons_zero, List.set_cons_succ]
          refine wpAnyH_take (i := 12) (oi := _) (v := undef) rfl (by kernel_rfl) (by kernel_rfl) (by kernel_rfl) (fun _ _ _ h => h) (Or.inr ⟨by rfl, rfl⟩) hHeld ?_
          try simp only [Act.put, List.getElem_toArray, List.getElem_cons_succ, List.getElem_cons_zero, List.setIfInBounds_toArray, List.set_cons_zero, List.set_cons_succ]
          refine wpAnyH_take (i := 13) (oi := _) (v := undef) rfl (by kernel_rfl) (by kernel_rfl) (by kernel_rfl) (fun _ _ _ h => h) (Or.inr ⟨by rfl, rfl⟩) hHeld ?_
          try simp only [Act.put, List.getElem_toArray, List.getElem_cons_succ, List.getElem_cons_zero, List.setIfInBounds_toArray, List.set_cons_zero, List.set_cons_succ]
          refine wpAnyH_take (i := 14) (oi := _) (v := undef) rfl (by kernel_rfl) (by kernel_rfl) (by kernel_rfl) (fun _ _ _ h => h) (Or.inr ⟨by rfl, rfl⟩) hHeld ?_
          try simp only [Act.put, List.getElem_toArray, List.getElem_cons_succ, List.getElem_cons_zero, List.setIfInBounds_toArray, List.set_cons_zero, List.set_cons_succ]
          refine wpAnyH_take (i := 15) (oi := _) (v := undef) rfl (by kernel_rfl) (by kernel_rfl) (by kernel_rfl) (fun _ _ _ h => h) (Or.inr ⟨by rfl, rfl⟩) hHeld ?_
          try simp only [Act.put, List.getElem_toArray, List.getElem_cons_succ, List.getElem_cons_zero, List.setIfInBounds_toArray, List.set_cons_zero, List.set_cons_succ]
          refine wpAnyH_take (i := 16) (oi := _) (v := undef) rfl (by kernel_rfl) (by kernel_rfl) (by kernel_rfl) (fun _ _ _ h => h) (Or.inr ⟨by rfl, rfl⟩) hHeld ?_
          try simp only [Act.put, List.getElem_toArray, List.getElem_cons_succ, List.getElem_cons_zero, List.setIfInBounds_toArray, List.set_cons_zero, List.set_cons_succ]
          refine wpAnyH_take (i := 17) (oi := _) (v := undef) rfl (by kernel_rfl) (by kernel_rfl) (by kernel_rfl) (fun _ _ _ h => h) (Or.inr ⟨by rfl, rfl⟩) hHeld ?_
          try simp only [Act.put, List.getElem_toArray, List.getElem_cons_succ, List.getElem_cons_zero, List.setIfInBounds_toArray, List.set_cons_zero, List.set_cons_succ]
          refine wpAnyH_take (i := 18) (oi := _) (v := undef) rfl (by kernel_rfl) (by kernel_rfl) (by kernel_rfl) (fun _ _ _ h => h) (Or.inr ⟨by rfl, rfl⟩) hHeld ?_
          try simp only [Act.put, List.getElem_toArray, List.getElem_cons_succ, List.getElem_cons_zero, List.setIfInBounds_toArray, List.set_cons_zero, List.set_cons_succ]
          refine wpAnyH_take (i := 19) (oi := _) (v := undef) rfl (by kernel_rfl) (by kernel_rfl) (by kernel_rfl) (fun _ _ _ h => h) (Or.inr ⟨by rfl, rfl⟩) hHeld ?_
          try simp only [Act.put, List.getElem_toArray, List.getElem_cons_succ, List.getElem_cons_zero, List.setIfInBounds_toArray, List.set_cons_zero, List.set_cons_succ]
          refine wpAnyH_take (i := 20) (oi := _) (v := undef) rfl (by kernel_rfl) (by kernel_rfl) (by kernel_rfl) (fun _ _ _ h => h) (Or.inr ⟨by rfl, rfl⟩) hHeld ?_
          try simp only [Act.put, List.getElem_toArray, List.getElem_cons_succ, List.getElem_cons_zero, List.setIfInBounds_toArray, List.set_cons_zero, List.set_cons_succ]
          refine wpAnyH_take (i := 21) (oi := _) (v := undef) rfl (by kernel_rfl) (by kernel_rfl) (by kernel_rfl) (fun _ _ _ h => h) (Or.inr ⟨by rfl, rfl⟩) hHeld ?_
          try simp only [Act.put, List.getElem_toArray, List.getElem_cons_succ, List.getElem_cons_zero, List.setIfInBounds_toArray, List.set_cons_zero, List.set_cons_succ]
          refine wpAnyH_take (i := 22) (oi := _) (v := undef) rfl (by kernel_rfl) (by kernel_rfl) (by kernel_rfl) (fun _ _ _ h => h) (Or.inr ⟨by rfl, rfl⟩) hHeld ?_
          try simp only [Act.put, List.getElem_toArray, List.getElem_cons_succ, List.getElem_cons_zero, List.setIfInBounds_toArray, List.set_cons_zero, List.set_cons_succ]
          refine wpAnyH_take (i := 23) (oi := _) (v := undef) rfl (by kernel_rfl) (by kernel_rfl) (by kernel_rfl) (fun _ _ _ h => h) (Or.inr ⟨by rfl, rfl⟩) hHeld ?_
          try simp only [Act.put, List.getElem_toArray, List.getElem_cons_succ, List.getElem_cons_zero, List.setIfInBounds_toArray, List.set_cons_zero, List.set_cons_succ]
          refine wpAnyH_take (i := 24) (oi := _) (v := undef) rfl (by kernel_rfl) (by kernel_rfl) (by kernel_rfl) (fun _ _ _ h => h) (Or.inr ⟨by rfl, rfl⟩) hHeld ?_
          try simp only [Act.put, List.getElem_toArray, List.getElem_cons_succ, List.getElem_cons_zero, List.setIfInBounds_toArray, List.set_cons_zero, List.set_cons_succ]
          refine wpAnyH_take (i := 25) (oi := _) (v := undef) rfl (by kernel_rfl) (by kernel_rfl) (by kernel_rfl) (fun _ _ _ h => h) (Or.inr ⟨by rfl, rfl⟩) hHeld ?_
          try simp only [Act.put, List.getElem_toArray, List.getElem_cons_succ, List.getElem_cons_zero, List.setIfInBounds_toArray, List.set_cons_zero, List.set_cons_succ]
          refine wpAnyH_take (i := 26) (oi := _) (v := undef) rfl (by kernel_rfl) (by kernel_rfl) (by kernel_rfl) (fun _ _ _ h => h) (Or.inr ⟨by rfl, rfl⟩) hHeld ?_
          try simp only [Act.put, List.getElem_toArray, List.getElem_cons_succ, List.getElem_cons_zero, List.setIfInBounds_toArray, List.set_cons_zero, List.set_cons_succ]
          refine wpAnyH_take (i := 27) (oi := _) (v := undef) rfl (by kernel_rfl) (by kernel_rfl) (by kernel_rfl) (fun _ _ _ h => h) (Or.inr ⟨by rfl, rfl⟩) hHeld ?_
          try simp only [Act.put, List.getElem_toArray, List.getElem_cons_succ, List.getElem_cons_zero, List.setIfInBounds_toArray, List.set_cons_zero, List.set_cons_succ]
          refine wpAnyH_take (i := 28) (oi := _) (v := undef) rfl (by kernel_rfl) (by kernel_rfl) (by kernel_rfl) (fun _ _ _ h => h) (Or.inr ⟨by rfl, rfl⟩) hHeld ?_
          try simp only [Act.put, List.getElem_toArray, List.getElem_cons_succ, List.getElem_cons_zero, List.setIfInBounds_toArray, List.set_cons_zero, List.set_cons_succ]
          refine wpAnyH_take (i := 29) (oi := _) (v := undef) rfl (by kernel_rfl) (by kernel_rfl) (by kernel_rfl) (fun _ _ _ h => h) (Or.inr ⟨by rfl, rfl⟩) hHeld ?_
          try simp only [Act.put, List.getElem_toArray, List.getElem_cons_succ, List.getElem_cons_zero, List.setIfInBounds_toArray, List.set_cons_zero, List.set_cons_succ]
          refine wpAnyH_take (i := 30) (oi := _) (v := undef) rfl (by kernel_rfl) (by kernel_rfl) (by kernel_rfl) (fun _ _ _ h => h) (Or.inr ⟨by rfl, rfl⟩) hHeld ?_
          try simp only [Act.put, List.getElem_toArray, List.getElem_cons_succ, List.getElem_cons_zero, List.setIfInBounds_toArray, List.set_cons_zero, List.set_cons_succ]
          refine wpAnyH_take (i := 31) (oi := _) (v := undef) rfl (by kernel_rfl) (by kernel_rfl) (by kernel_rfl) (fun _ _ _ h => h) (Or.inr ⟨by rfl, rfl⟩) hHeld ?_
          try simp only [Act.put, List.getElem_toArray, List.getElem_cons_succ, List.getElem_cons_zero, List.setIfInBounds_toArray, List.set_cons_zero, List.set_cons_succ]
          refine wpAnyH_take (i := 32) (oi := _) (v := ?_) rfl (by kernel_rfl) (by kernel_rfl) (by kernel_rfl) (fun _ _ _ h => h) (Or.inl ⟨by rfl, ?_⟩) hHeld ?_
          rotate_left
          · (intro w hSw; (try dsimp only at hSw); go_simp; try with_reducible rfl)
          try simp only [Act.put, List.getElem_toArray, List.getElem_cons_succ, List.getElem_cons_zero, List.setIfInBounds_toArray, List.set_cons_zero, List.set_cons_succ]
          refine wpAnyH_done (by kernel_rfl) ?_ _
          clear hHeld
          go_wp2_with fail
          go_meet
          exact ⟨rfl, BC.out.trans (BL0.out.mono BC.out.size)⟩
        have z : (oq == 0) = true := by simp [hp]
        subst hp
        obtain ⟨m, hng, hom, hfo, hlt⟩ := popH_good HG.out.len EQ2.out
        obtain rfl : no = m := by have := HQ2.out.len; omega
        subst hng
        have m13 : no ≤ 13 := HQ2.out.small
        have wr1 : IntKind.i64.wrap ((no : Int) + 1 - 1) = (no : Int) := by rw [IntWalk.i64_in _ (by omega)]; omega
        have wr2 : IntKind.i64.wrap (no : Int) = (no : Int) := IntWalk.i64_in _ (by omega)
        have zn : ((no : Int) != (no : Int)) = false := by simp
        have UP : ∀ {W W' : World}, Below wy.heap.size wy W → Below W.heap.size W W' → Below wy.heap.size wy W' := fun a b => a.trans (b.mono a.size)
        have KH2 : Hid (∀ W, Below wy.heap.size wy W → (W.cell? ⟨x2, 0, none⟩ = some (.int .i64 0) ∧ W.cell? ⟨x2, 1, none⟩ = some (.int .i64 o0) ∧ W.cell? ⟨x2, 2, none⟩ = some (.int .i64 o1) ∧ W.cell? ⟨x2, 3, none⟩ = some (.slice Q2 no co)) ∧ Below wy.heap.size wy W) := fun W hW => by
          obtain ⟨_, _, h3, _⟩ := F.out W hW
          exact ⟨h3, hW⟩
        have HFO : Hid (∀ W, Below wy.heap.size wy W → Calls Try.prog 23 #[.slice Q2 no co] W fun e w' => e = .returned (.int .i64 0) ∧ Below wy.heap.size wy w') := fun W hW => by
          obtain ⟨_, _, _, _, _, _, _, _, _, _, _, _, l6, _⟩ := F.out W hW
          have := implHeapFault_any _ _ Q2 no co Oh W (by omega) HQ2.out.len HQ2.out.nil HQ2.out.cap l6
          rw [hfo] at this
          exact this.mono fun e w' hh => ⟨hh.1, UP hW hh.2⟩
        clear e0_ e1_ r0_ r1_ s0_ s1_ s2_ s3_ t0_ t1_ u0_ u1_ y0_ y1_ z0_ z1_
        by_cases hm : no = 0
        · have hg0 : decide ((no : Int) > 0) = false := decide_eq_false (by omega)
          have hg1 : ¬ (0 : Int) < (no : Int) := by omega
          have hg2 : ¬ 0 < no := by omega
          have hg3 : decide (0 < no) = false := decide_eq_false hg2
          clear hlt hm
          refine wp_region_held_drew (S := fun W => (W.cell? ⟨x2, 0, none⟩ = some (.int .i64 0) ∧ W.cell? ⟨x2, 1, none⟩ = some (.int .i64 o0) ∧ W.cell? ⟨x2, 2, none⟩ = some (.int .i64 o1) ∧ W.cell? ⟨x2, 3, none⟩ = some (.slice Q2 no co)) ∧ Below wy.heap.size wy W) (by kernel_rfl) (KH2.out _ BC.out.drew) (fun hHeld => ?_)
          obtain ⟨v0, hv0⟩ : ∃ v0, v0 = vc.drew := ⟨_, rfl⟩
          have BL0 : Hid (Below vc.heap.size vc v0) := by rw [hv0]; exact Below.drew (Below.refl _ _)
          rw [← hv0] at hHeld ⊢
          clear hv0
          refine wpAnyH_take (i := 0) (oi := _) (v := ?_) rfl (by kernel_rfl) (by kernel_rfl) (by kernel_rfl) (fun _ _ _ h => h) (Or.inl ⟨by rfl, ?_⟩) hHeld ?_
          rotate_left
          · (intro w hSw; (try dsimp only at hSw); go_simp; try with_reducible rfl)
          try simp only [Act.put, List.getElem_toArray, List.getElem_cons_succ, List.getElem_cons_zero, List.setIfInBounds_toArray, List.set_cons_zero, List.set_cons_succ]
          refine wpAnyH_take (i := 1) (oi := _) (v := ?_) rfl (by kernel_rfl) (by kernel_rfl) (by kernel_rfl) (fun _ _ _ h => h) (Or.inl ⟨by rfl, ?_⟩) hHeld ?_
          rotate_left
          · (intro w hSw; (try dsimp only at hSw); go_simp; try with_reducible rfl)
          try simp only [Act.put, List.getElem_toArray, List.getElem_cons_succ, List.getElem_cons_zero, List.setIfInBounds_toArray, List.set_cons_zero, List.set_cons_succ]
          refine wpAnyH_take (i := 2) (oi := _) (v := ?_) rfl (by kernel_rfl) (by kernel_rfl) (by kernel_rfl) (fun _ _ _ h => h) (Or.inl ⟨by rfl, ?_⟩) hHeld ?_
          rotate_left
          · (intro w hSw; (try dsimp only at hSw); go_simp; try with_reducible rfl)
          try simp only [Act.put, List.getElem_toArray, List.getElem_cons_succ, List.getElem_cons_zero, List.setIfInBounds_toArray, List.set_cons_zero, List.set_cons_succ]
          refine wpAnyH_take (i := 3) (oi := _) (v := ?_) rfl (by kernel_rfl) (by kernel_rfl) (by kernel_rfl) (fun _ _ _ h => h) (Or.inl ⟨by rfl, ?_⟩) hHeld ?_
          rotate_left
          · (intro w hSw; (try dsimp only at hSw); go_simp; try with_reducible rfl)
          try simp only [Act.put, List.getElem_toArray, List.getElem_cons_succ, List.getElem_cons_zero, List.setIfInBounds_toArray, List.set_cons_zero, List.set_cons_succ]
          refine wpAnyH_take (i := 4) (oi := _) (v := ?_) rfl (by kernel_rfl) (by kernel_rfl) (by kernel_rfl) (fun _ _ _ h => h) (Or.inl ⟨by rfl, ?_⟩) hHeld ?_
          rotate_left
          · (intro w hSw; (try dsimp only at hSw); go_simp; try with_reducible rfl)
          try simp only [Act.put, List.getElem_toArray, List.getElem_cons_succ, List.getElem_cons_zero, List.setIfInBounds_toArray, List.set_cons_zero, List.set_cons_succ]
          refine wpAnyH_take (i := 5) (oi := _) (v := ?_) rfl (by kernel_rfl) (by kernel_rfl) (by kernel_rfl) (fun _ _ _ h => h) (Or.inl ⟨by rfl, ?_⟩) hHeld ?_
          rotate_left
          · (intro w hSw; (try dsimp only at hSw); go_simp; try with_reducible rfl)
          try simp only [Act.put, List.getElem_toArray, List.getElem_cons_succ, List.getElem_cons_zero, List.setIfInBounds_toArray, List.set_cons_zero, List.set_cons_succ]
          refine wpAnyH_ready (rs := [6]) (by kernel_rfl) (by simp) ?_
          refine AllReadyH.cons (o := _) rfl (fun K0 hK0 => ?_) AllReadyH.nil
          go_simp
          refine (HFO.out _ (by go_split_ands; assumption)).mono ?_
          rintro e9 va ⟨rfl, hva⟩
          go_wp2_with fail
          skip
          refine hK0.out _ _ (KH2.out _ hva) (fun hHeld => ?_)
          clear hK0 K0
          try simp only [Act.put, List.getElem_toArray, List.getElem_cons_succ, List.getElem_cons_zero, List.setIfInBounds_toArray, List.set_cons_zero, List.set_cons_succ]
          refine wpAnyH_take (i := 7) (oi := _) (v := ?_) rfl (by kernel_rfl) (by kernel_rfl) (by kernel_rfl) (fun _ _ _ h => h) (Or.inl ⟨by rfl, ?_⟩) hHeld ?_
          rotate_left
          · (intro w hSw; (try dsimp only at hSw); go_simp; try with_reducible rfl)
          try simp only [Act.put, List.getElem_toArray, List.getElem_cons_succ, List.getElem_cons_zero, List.setIfInBounds_toArray, List.set_cons_zero, List.set_cons_succ]
          refine wpAnyH_take (i := 8) (oi := _) (v := ?_) rfl (by kernel_rfl) (by kernel_rfl) (by kernel_rfl) (fun _ _ _ h => h) (Or.inl ⟨by rfl, ?_⟩) hHeld ?_
          rotate_left
          · (intro w hSw; (try dsimp only at hSw); go_simp; try with_reducible rfl)
          try simp only [Act.put, List.getElem_toArray, List.getElem_cons_succ, List.getElem_cons_zero, List.setIfInBounds_toArray, List.set_cons_zero, List.set_cons_succ]
          refine wpAnyH_take (i := 9) (oi := _) (v := ?_) rfl (by kernel_rfl) (by kernel_rfl) (by kernel_rfl) (fun _ _ _ h => h) (Or.inl ⟨by rfl, ?_⟩) hHeld ?_
          rotate_left
          · (intro w hSw; (try dsimp only at hSw); go_simp; try with_reducible rfl)
          try simp only [Act.put, List.getElem_toArray, List.getElem_cons_succ, List.getElem_cons_zero, List.setIfInBounds_toArray, List.set_cons_zero, List.set_cons_succ]
          refine wpAnyH_take (i := 10) (oi := _) (v := ?_) rfl (by kernel_rfl) (by kernel_rfl) (by kernel_rfl) (fun _ _ _ h => h) (Or.inl ⟨by rfl, ?_⟩) hHeld ?_
          rotate_left
          · (intro w hSw; (try dsimp only at hSw); go_simp; try with_reducible rfl)
          try simp only [Act.put, List.getElem_toArray, List.getElem_cons_succ, List.getElem_cons_zero, List.setIfInBounds_toArray, List.set_cons_zero, List.set_cons_succ]
          refine wpAnyH_take (i := 11) (oi := _) (v := ?_) rfl (by kernel_rfl) (by kernel_rfl) (by kernel_rfl) (fun _ _ _ h => h) (Or.inl ⟨by rfl, ?_⟩) hHeld ?_
          rotate_left
          · (intro w hSw; (try dsimp only at hSw); go_simp; try with_reducible rfl)
          try simp only [Act.put, List.getElem_toArray, List.getElem_cons_succ, List.getElem_cons_zero, List.setIfInBounds_toArray, List.set_cons_zero, List.set_cons_succ]
          refine wpAnyH_take (i := 12) (oi := _) (v := ?_) rfl (by kernel_rfl) (by kernel_rfl) (by kernel_rfl) (fun _ _ _ h => h) (Or.inl ⟨by rfl, ?_⟩) hHeld ?_
          rotate_left
          · (intro w hSw; (try dsimp only at hSw); go_simp; try with_reducible rfl)
          try simp only [Act.put, List.getElem_toArray, List.getElem_cons_succ, List.getElem_cons_zero, List.setIfInBounds_toArray, List.set_cons_zero, List.set_cons_succ]
          refine wpAnyH_take (i := 13) (oi := _) (v := ?_) rfl (by kernel_rfl) (by kernel_rfl) (by kernel_rfl) (fun _ _ _ h => h) (Or.inl ⟨by rfl, ?_⟩) hHeld ?_
          rotate_left
          · (intro w hSw; (try dsimp only at hSw); go_simp; try with_reducible rfl)
          try simp only [Act.put, List.getElem_toArray, List.getElem_cons_succ, List.getElem_cons_zero, List.setIfInBounds_toArray, List.set_cons_zero, List.set_cons_succ]
          refine wpAnyH_take (i := 14) (oi := _) (v := ?_) rfl (by kernel_rfl) (by kernel_rfl) (by kernel_rfl) (fun _ _ _ h => h) (Or.inl ⟨by rfl, ?_⟩) hHeld ?_
          rotate_left
          · (intro w hSw; (try dsimp only at hSw); go_simp; try with_reducible rfl)
          try simp only [Act.put, List.getElem_toArray, List.getElem_cons_succ, List.getElem_cons_zero, List.setIfInBounds_toArray, List.set_cons_zero, List.set_cons_succ]
          refine wpAnyH_take (i := 15) (oi := _) (v := ?_) rfl (by kernel_rfl) (by kernel_rfl) (by kernel_rfl) (fun _ _ _ h => h) (Or.inl ⟨by rfl, ?_⟩) hHeld ?_
          rotate_left
          · (intro w hSw; (try dsimp only at hSw); go_simp; try with_reducible rfl)
          try simp only [Act.put, List.getElem_toArray, List.getElem_cons_succ, List.getElem_cons_zero, List.setIfInBounds_toArray, List.set_cons_zero, List.set_cons_succ]
          refine wpAnyH_take (i := 16) (oi := _) (v := ?_) rfl (by kernel_rfl) (by kernel_rfl) (by kernel_rfl) (fun _ _ _ h => h) (Or.inl ⟨by rfl, ?_⟩) hHeld ?_
          rotate_left
          · (intro w hSw; (try dsimp only at hSw); go_simp; try with_reducible rfl)
          try simp only [Act.put, List.getElem_toArray, List.getElem_cons_succ, List.getElem_cons_zero, List.setIfInBounds_toArray, List.set_cons_zero, List.set_cons_succ]
          refine wpAnyH_take (i := 17) (oi := _) (v := ?_) rfl (by kernel_rfl) (by kernel_rfl) (by kernel_rfl) (fun _ _ _ h => h) (Or.inl ⟨by rfl, ?_⟩) hHeld ?_
          rotate_left
          · (intro w hSw; (try dsimp only at hSw); go_simp; try with_reducible rfl)
          try simp only [Act.put, List.getElem_toArray, List.getElem_cons_succ, List.getElem_cons_zero, List.setIfInBounds_toArray, List.set_cons_zero, List.set_cons_succ]
          refine wpAnyH_take (i := 18) (oi := _) (v := ?_) rfl (by kernel_rfl) (by kernel_rfl) (by kernel_rfl) (fun _ _ _ h => h) (Or.inl ⟨by rfl, ?_⟩) hHeld ?_
          rotate_left
          · (intro w hSw; (try dsimp only at hSw); go_simp; try with_reducible rfl)
          try simp only [Act.put, List.getElem_toArray, List.getElem_cons_succ, List.getElem_cons_zero, List.setIfInBounds_toArray, List.set_cons_zero, List.set_cons_succ]
          refine wpAnyH_take (i := 19) (oi := _) (v := ?_) rfl (by kernel_rfl) (by kernel_rfl) (by kernel_rfl) (fun _ _ _ h => h) (Or.inl ⟨by rfl, ?_⟩) hHeld ?_
          rotate_left
          · (intro w hSw; (try dsimp only at hSw); go_simp; try with_reducible rfl)
          try simp only [Act.put, List.getElem_toArray, List.getElem_cons_succ, List.getElem_cons_zero, List.setIfInBounds_toArray, List.set_cons_zero, List.set_cons_succ]
          refine wpAnyH_take (i := 20) (oi := _) (v := ?_) rfl (by kernel_rfl) (by kernel_rfl) (by kernel_rfl) (fun _ _ _ h => h) (Or.inl ⟨by rfl, ?_⟩) hHeld ?_
          rotate_left
          · (intro w hSw; (try dsimp only at hSw); go_simp; try with_reducible rfl)
          try simp only [Act.put, List.getElem_toArray, List.getElem_cons_succ, List.getElem_cons_zero, List.setIfInBounds_toArray, List.set_cons_zero, List.set_cons_succ]
          refine wpAnyH_take (i := 21) (oi := _) (v := ?_) rfl (by kernel_rfl) (by kernel_rfl) (by kernel_rfl) (fun _ _ _ h => h) (Or.inl ⟨by rfl, ?_⟩) hHeld ?_
          rotate_left
          · (intro w hSw; (try dsimp only at hSw); go_simp; try with_reducible rfl)
          try simp only [Act.put, List.getElem_toArray, List.getElem_cons_succ, List.getElem_cons_zero, List.setIfInBounds_toArray, List.set_cons_zero, List.set_cons_succ]
          refine wpAnyH_take (i := 22) (oi := _) (v := ?_) rfl (by kernel_rfl) (by kernel_rfl) (by kernel_rfl) (fun _ _ _ h => h) (Or.inl ⟨by rfl, ?_⟩) hHeld ?_
          rotate_left
          · (intro w hSw; (try dsimp only at hSw); go_simp; try with_reducible rfl)
          try simp only [Act.put, List.getElem_toArray, List.getElem_cons_succ, List.getElem_cons_zero, List.setIfInBounds_toArray, List.set_cons_zero, List.set_cons_succ]
          refine wpAnyH_take (i := 23) (oi := _) (v := undef) rfl (by kernel_rfl) (by kernel_rfl) (by kernel_rfl) (fun _ _ _ h => h) (Or.inr ⟨by rfl, rfl⟩) hHeld ?_
          try simp only [Act.put, List.getElem_toArray, List.getElem_cons_succ, List.getElem_cons_zero, List.setIfInBounds_toArray, List.set_cons_zero, List.set_cons_succ]
          refine wpAnyH_take (i := 24) (oi := _) (v := undef) rfl (by kernel_rfl) (by kernel_rfl) (by kernel_rfl) (fun _ _ _ h => h) (Or.inr ⟨by rfl, rfl⟩) hHeld ?_
          try simp only [Act.put, List.getElem_toArray, List.getElem_cons_succ, List.getElem_cons_zero, List.setIfInBounds_toArray, List.set_cons_zero, List.set_cons_succ]
          refine wpAnyH_take (i := 25) (oi := _) (v := undef) rfl (by kernel_rfl) (by kernel_rfl) (by kernel_rfl) (fun _ _ _ h => h) (Or.inr ⟨by rfl, rfl⟩) hHeld ?_
          try simp only [Act.put, List.getElem_toArray, List.getElem_cons_succ, List.getElem_cons_zero, List.setIfInBounds_toArray, List.set_cons_zero, List.set_cons_succ]
          refine wpAnyH_take (i := 26) (oi := _) (v := undef) rfl (by kernel_rfl) (by kernel_rfl) (by kernel_rfl) (fun _ _ _ h => h) (Or.inr ⟨by rfl, rfl⟩) hHeld ?_
          try simp only [Act.put, List.getElem_toArray, List.getElem_cons_succ, List.getElem_cons_zero, List.setIfInBounds_toArray, List.set_cons_zero, List.set_cons_succ]
          refine wpAnyH_take (i := 27) (oi := _) (v := undef) rfl (by kernel_rfl) (by kernel_rfl) (by kernel_rfl) (fun _ _ _ h => h) (Or.inr ⟨by rfl, rfl⟩) hHeld ?_
          try simp only [Act.put, List.getElem_toArray, List.getElem_cons_succ, List.getElem_cons_zero, List.setIfInBounds_toArray, List.set_cons_zero, List.set_cons_succ]
          refine wpAnyH_take (i := 28) (oi := _) (v := undef) rfl (by kernel_rfl) (by kernel_rfl) (by kernel_rfl) (fun _ _ _ h => h) (Or.inr ⟨by rfl, rfl⟩) hHeld ?_
          try simp only [Act.put, List.getElem_toArray, List.getElem_cons_succ, List.getElem_cons_zero, List.setIfInBounds_toArray, List.set_cons_zero, List.set_cons_succ]
          refine wpAnyH_take (i := 29) (oi := _) (v := undef) rfl (by kernel_rfl) (by kernel_rfl) (by kernel_rfl) (fun _ _ _ h => h) (Or.inr ⟨by rfl, rfl⟩) hHeld ?_
          try simp only [Act.put, List.getElem_toArray, List.getElem_cons_succ, List.getElem_cons_zero, List.setIfInBounds_toArray, List.set_cons_zero, List.set_cons_succ]
          refine wpAnyH_take (i := 30) (oi := _) (v := ?_) rfl (by kernel_rfl) (by kernel_rfl) (by kernel_rfl) (fun _ _ _ h => h) (Or.inl ⟨by rfl, ?_⟩) hHeld ?_
          rotate_left
          · (intro w hSw; (try dsimp only at hSw); go_simp; try with_reducible rfl)
          try simp only [Act.put, List.getElem_toArray, List.getElem_cons_succ, List.getElem_cons_zero, List.setIfInBounds_toArray, List.set_cons_zero, List.set_cons_succ]
          refine wpAnyH_take (i := 31) (oi := _) (v := ?_) rfl (by kernel_rfl) (by kernel_rfl) (by kernel_rfl) (fun _ _ _ h => h) (Or.inl ⟨by rfl, ?_⟩) hHeld ?_
          rotate_left
          · (intro w hSw; (try dsimp only at hSw); go_simp; try with_reducible rfl)
          try simp only [Act.put, List.getElem_toArray, List.getElem_cons_succ, List.getElem_cons_zero, List.setIfInBounds_toArray, List.set_cons_zero, List.set_cons_succ]
          refine wpAnyH_take (i := 32) (oi := _) (v := ?_) rfl (by kernel_rfl) (by kernel_rfl) (by kernel_rfl) (fun _ _ _ h => h) (Or.inl ⟨by rfl, ?_⟩) hHeld ?_
          rotate_left
          · (intro w hSw; (try dsimp only at hSw); go_simp; try with_reducible rfl)
          try simp only [Act.put, List.getElem_toArray, List.getElem_cons_succ, List.getElem_cons_zero, List.setIfInBounds_toArray, List.set_cons_zero, List.set_cons_succ]
          refine wpAnyH_done (by kernel_rfl) ?_ _
          clear hHeld
          go_wp2_with fail
          go_meet
          exact ⟨rfl, hva⟩
        · have hg0 : decide ((no : Int) > 0) = true := decide_eq_true (by omega)
          have hg1 : (0 : Int) < (no : Int) := by omega
          have hg2 : 0 < no := by omega
          have hg3 : decide (0 < no) = true := decide_eq_true hg2
          obtain ⟨a', b', os', ep, el⟩ := hlt (by omega)
          have IPO : Hid (∀ W, Below wy.heap.size wy W → Calls Try.prog 11 #[.slice Q2 no co] W fun e w' => ∃ A k c, e = .returned (.agg #[.int .i64 0, .int .i64 a', .int .i64 b', .slice A k c]) ∧ Below wy.heap.size wy w') := fun W hW => by
            obtain ⟨_, _, _, _, _, _, _, _, _, _, _, _, l6, _⟩ := F.out W hW
            have := implPopHeap_any _ _ Q2 no co Oh W (by omega) HQ2.out.len HQ2.out.nil HQ2.out.cap l6
            rw [ep] at this
            exact this.mono fun e w' ⟨A, k, c, he, _, hb⟩ => ⟨A, k, c, he, UP hW hb⟩
          have ILS : Hid (∀ W, Below wy.heap.size wy W → Calls Try.prog 21 #[.agg #[.int .i64 a', .int .i64 b'], .agg #[.int .i64 o0, .int .i64 o1]] W fun e w' => e = .returned (.bool false) ∧ Below wy.heap.size wy w') := fun W hW => by
            have := implIsLess_any a' b' o0 o1 W
            rw [el] at this
            exact this.mono fun e w' hh => ⟨hh.1, UP hW hh.2⟩
          have fe1 := fun (q a b : Int) (A : Option Addr) (k c : Nat) (W : World) => run_er1 q a b A k c W
          clear hlt hm ep el
          refine wp_region_held_drew (S := fun W => (W.cell? ⟨x2, 0, none⟩ = some (.int .i64 0) ∧ W.cell? ⟨x2, 1, none⟩ = some (.int .i64 o0) ∧ W.cell? ⟨x2, 2, none⟩ = some (.int .i64 o1) ∧ W.cell? ⟨x2, 3, none⟩ = some (.slice Q2 no co)) ∧ Below wy.heap.size wy W) (by kernel_rfl) (KH2.out _ BC.out.drew) (fun hHeld => ?_)
          obtain ⟨v0, hv0⟩ : ∃ v0, v0 = vc.drew := ⟨_, rfl⟩
          have BL0 : Hid (Below vc.heap.size vc v0) := by rw [hv0]; exact Below.drew (Below.refl _ _)
          rw [← hv0] at hHeld ⊢
          clear hv0
          refine wpAnyH_take (i := 0) (oi := _) (v := ?_) rfl (by kernel_rfl) (by kernel_rfl) (by kernel_rfl) (fun _ _ _ h => h) (Or.inl ⟨by rfl, ?_⟩) hHeld ?_
          rotate_left
          · (intro w hSw; (try dsimp only at hSw); go_simp; try with_reducible rfl)
          try simp only [Act.put, List.getElem_toArray, List.getElem_cons_succ, List.getElem_cons_zero, List.setIfInBounds_toArray, List.set_cons_zero, List.set_cons_succ]
          refine wpAnyH_take (i := 1) (oi := _) (v := ?_) rfl (by kernel_rfl) (by kernel_rfl) (by kernel_rfl) (fun _ _ _ h => h) (Or.inl ⟨by rfl, ?_⟩) hHeld ?_
          rotate_left
          · (intro w hSw; (try dsimp only at hSw); go_simp; try with_reducible rfl)
          try simp only [Act.put, List.getElem_toArray, List.getElem_cons_succ, List.getElem_cons_zero, List.setIfInBounds_toArray, List.set_cons_zero, List.set_cons_succ]
          refine wpAnyH_take (i := 2) (oi := _) (v := ?_) rfl (by kernel_rfl) (by kernel_rfl) (by kernel_rfl) (fun _ _ _ h => h) (Or.inl ⟨by rfl, ?_⟩) hHeld ?_
          rotate_left
          · (intro w hSw; (try dsimp only at hSw); go_simp; try with_reducible rfl)
          try simp only [Act.put, List.getElem_toArray, List.getElem_cons_succ, List.getElem_cons_zero, List.setIfInBounds_toArray, List.set_cons_zero, List.set_cons_succ]
          refine wpAnyH_take (i := 3) (oi := _) (v := ?_) rfl (by kernel_rfl) (by kernel_rfl) (by kernel_rfl) (fun _ _ _ h => h) (Or.inl ⟨by rfl, ?_⟩) hHeld ?_
          rotate_left
          · (intro w hSw; (try dsimp only at hSw); go_simp; try with_reducible rfl)
          try simp only [Act.put, List.getElem_toArray, List.getElem_cons_succ, List.getElem_cons_zero, List.setIfInBounds_toArray, List.set_cons_zero, List.set_cons_succ]
          refine wpAnyH_take (i := 4) (oi := _) (v := ?_) rfl (by kernel_rfl) (by kernel_rfl) (by kernel_rfl) (fun _ _ _ h => h) (Or.inl ⟨by rfl, ?_⟩) hHeld ?_
          rotate_left
          · (intro w hSw; (try dsimp only at hSw); go_simp; try with_reducible rfl)
          try simp only [Act.put, List.getElem_toArray, List.getElem_cons_succ, List.getElem_cons_zero, List.setIfInBounds_toArray, List.set_cons_zero, List.set_cons_succ]
          refine wpAnyH_take (i := 5) (oi := _) (v := ?_) rfl (by kernel_rfl) (by kernel_rfl) (by kernel_rfl) (fun _ _ _ h => h) (Or.inl ⟨by rfl, ?_⟩) hHeld ?_
          rotate_left
          · (intro w hSw; (try dsimp only at hSw); go_simp; try with_reducible rfl)
          try simp only [Act.put, List.getElem_toArray, List.getElem_cons_succ, List.getElem_cons_zero, List.setIfInBounds_toArray, List.set_cons_zero, List.set_cons_succ]
          refine wpAnyH_ready (rs := [6]) (by kernel_rfl) (by simp) ?_
          refine AllReadyH.cons (o := _) rfl (fun K0 hK0 => ?_) AllReadyH.nil
          go_simp
          refine (HFO.out _ (by go_split_ands; assumption)).mono ?_
          rintro e9 va ⟨rfl, hva⟩
          go_wp2_with fail
          skip
          refine hK0.out _ _ (KH2.out _ hva) (fun hHeld => ?_)
          clear hK0 K0
          try simp only [Act.put, List.getElem_toArray, List.getElem_cons_succ, List.getElem_cons_zero, List.setIfInBounds_toArray, List.set_cons_zero, List.set_cons_succ]
          refine wpAnyH_take (i := 7) (oi := _) (v := ?_) rfl (by kernel_rfl) (by kernel_rfl) (by kernel_rfl) (fun _ _ _ h => h) (Or.inl ⟨by rfl, ?_⟩) hHeld ?_
          rotate_left
          · (intro w hSw; (try dsimp only at hSw); go_simp; try with_reducible rfl)
          try simp only [Act.put, List.getElem_toArray, List.getElem_cons_succ, List.getElem_cons_zero, List.setIfInBounds_toArray, List.set_cons_zero, List.set_cons_succ]
          refine wpAnyH_take (i := 8) (oi := _) (v := ?_) rfl (by kernel_rfl) (by kernel_rfl) (by kernel_rfl) (fun _ _ _ h => h) (Or.inl ⟨by rfl, ?_⟩) hHeld ?_
          rotate_left
          · (intro w hSw; (try dsimp only at hSw); go_simp; try with_reducible rfl)
          try simp only [Act.put, List.getElem_toArray, List.getElem_cons_succ, List.getElem_cons_zero, List.setIfInBounds_toArray, List.set_cons_zero, List.set_cons_succ]
          refine wpAnyH_take (i := 9) (oi := _) (v := ?_) rfl (by kernel_rfl) (by kernel_rfl) (by kernel_rfl) (fun _ _ _ h => h) (Or.inl ⟨by rfl, ?_⟩) hHeld ?_
          rotate_left
          · (intro w hSw; (try dsimp only at hSw); go_simp; try with_reducible rfl)
          try simp only [Act.put, List.getElem_toArray, List.getElem_cons_succ, List.getElem_cons_zero, List.setIfInBounds_toArray, List.set_cons_zero, List.set_cons_succ]
          refine wpAnyH_take (i := 10) (oi := _) (v := ?_) rfl (by kernel_rfl) (by kernel_rfl) (by kernel_rfl) (fun _ _ _ h => h) (Or.inl ⟨by rfl, ?_⟩) hHeld ?_
          rotate_left
          · (intro w hSw; (try dsimp only at hSw); go_simp; try with_reducible rfl)
          try simp only [Act.put, List.getElem_toArray, List.getElem_cons_succ, List.getElem_cons_zero, List.setIfInBounds_toArray, List.set_cons_zero, List.set_cons_succ]
          refine wpAnyH_take (i := 11) (oi := _) (v := ?_) rfl (by kernel_rfl) (by kernel_rfl) (by kernel_rfl) (fun _ _ _ h => h) (Or.inl ⟨by rfl, ?_⟩) hHeld ?_
          rotate_left
          · (intro w hSw; (try dsimp only at hSw); go_simp; try with_reducible rfl)
          try simp only [Act.put, List.getElem_toArray, List.getElem_cons_succ, List.getElem_cons_zero, List.setIfInBounds_toArray, List.set_cons_zero, List.set_cons_succ]
          refine wpAnyH_take (i := 12) (oi := _) (v := ?_) rfl (by kernel_rfl) (by kernel_rfl) (by kernel_rfl) (fun _ _ _ h => h) (Or.inl ⟨by rfl, ?_⟩) hHeld ?_
          rotate_left
          · (intro w hSw; (try dsimp only at hSw); go_simp; try with_reducible rfl)
          try simp only [Act.put, List.getElem_toArray, List.getElem_cons_succ, List.getElem_cons_zero, List.setIfInBounds_toArray, List.set_cons_zero, List.set_cons_succ]
          refine wpAnyH_take (i := 13) (oi := _) (v := ?_) rfl (by kernel_rfl) (by kernel_rfl) (by kernel_rfl) (fun _ _ _ h => h) (Or.inl ⟨by rfl, ?_⟩) hHeld ?_
          rotate_left
          · (intro w hSw; (try dsimp only at hSw); go_simp; try with_reducible rfl)
          try simp only [Act.put, List.getElem_toArray, List.getElem_cons_succ, List.getElem_cons_zero, List.setIfInBounds_toArray, List.set_cons_zero, List.set_cons_succ]
          refine wpAnyH_take (i := 14) (oi := _) (v := ?_) rfl (by kernel_rfl) (by kernel_rfl) (by kernel_rfl) (fun _ _ _ h => h) (Or.inl ⟨by rfl, ?_⟩) hHeld ?_
          rotate_left
          · (intro w hSw; (try dsimp only at hSw); go_simp; try with_reducible rfl)
          try simp only [Act.put, List.getElem_toArray, List.getElem_cons_succ, List.getElem_cons_zero, List.setIfInBounds_toArray, List.set_cons_zero, List.set_cons_succ]
          refine wpAnyH_take (i := 15) (oi := _) (v := ?_) rfl (by kernel_rfl) (by kernel_rfl) (by kernel_rfl) (fun _ _ _ h => h) (Or.inl ⟨by rfl, ?_⟩) hHeld ?_
          rotate_left
          · (intro w hSw; (try dsimp only at hSw); go_simp; try with_reducible rfl)
          try simp only [Act.put, List.getElem_toArray, List.getElem_cons_succ, List.getElem_cons_zero, List.setIfInBounds_toArray, List.set_cons_zero, List.set_cons_succ]
          refine wpAnyH_take (i := 16) (oi := _) (v := ?_) rfl (by kernel_rfl) (by kernel_rfl) (by kernel_rfl) (fun _ _ _ h => h) (Or.inl ⟨by rfl, ?_⟩) hHeld ?_
          rotate_left
          · (intro w hSw; (try dsimp only at hSw); go_simp; try with_reducible rfl)
          try simp only [Act.put, List.getElem_toArray, List.getElem_cons_succ, List.getElem_cons_zero, List.setIfInBounds_toArray, List.set_cons_zero, List.set_cons_succ]
          refine wpAnyH_take (i := 17) (oi := _) (v := ?_) rfl (by kernel_rfl) (by kernel_rfl) (by kernel_rfl) (fun _ _ _ h => h) (Or.inl ⟨by rfl, ?_⟩) hHeld ?_
          rotate_left
          · (intro w hSw; (try dsimp only at hSw); go_simp; try with_reducible rfl)
          try simp only [Act.put, List.getElem_toArray, List.getElem_cons_succ, List.getElem_cons_zero, List.setIfInBounds_toArray, List.set_cons_zero, List.set_cons_succ]
          refine wpAnyH_take (i := 18) (oi := _) (v := ?_) rfl (by kernel_rfl) (by kernel_rfl) (by kernel_rfl) (fun _ _ _ h => h) (Or.inl ⟨by rfl, ?_⟩) hHeld ?_
          rotate_left
          · (intro w hSw; (try dsimp only at hSw); go_simp; try with_reducible rfl)
          try simp only [Act.put, List.getElem_toArray, List.getElem_cons_succ, List.getElem_cons_zero, List.setIfInBounds_toArray, List.set_cons_zero, List.set_cons_succ]
          refine wpAnyH_take (i := 19) (oi := _) (v := ?_) rfl (by kernel_rfl) (by kernel_rfl) (by kernel_rfl) (fun _ _ _ h => h) (Or.inl ⟨by rfl, ?_⟩) hHeld ?_
          rotate_left
          · (intro w hSw; (try dsimp only at hSw); go_simp; try with_reducible rfl)
          try simp only [Act.put, List.getElem_toArray, List.getElem_cons_succ, List.getElem_cons_zero, List.setIfInBounds_toArray, List.set_cons_zero, List.set_cons_succ]
          refine wpAnyH_take (i := 20) (oi := _) (v := ?_) rfl (by kernel_rfl) (by kernel_rfl) (by kernel_rfl) (fun _ _ _ h => h) (Or.inl ⟨by rfl, ?_⟩) hHeld ?_
          rotate_left
          · (intro w hSw; (try dsimp only at hSw); go_simp; try with_reducible rfl)
          try simp only [Act.put, List.getElem_toArray, List.getElem_cons_succ, List.getElem_cons_zero, List.setIfInBounds_toArray, List.set_cons_zero, List.set_cons_succ]
          refine wpAnyH_take (i := 21) (oi := _) (v := ?_) rfl (by kernel_rfl) (by kernel_rfl) (by kernel_rfl) (fun _ _ _ h => h) (Or.inl ⟨by rfl, ?_⟩) hHeld ?_
          rotate_left
          · (intro w hSw; (try dsimp only at hSw); go_simp; try with_reducible rfl)
          try simp only [Act.put, List.getElem_toArray, List.getElem_cons_succ, List.getElem_cons_zero, List.setIfInBounds_toArray, List.set_cons_zero, List.set_cons_succ]
          refine wpAnyH_take (i := 22) (oi := _) (v := ?_) rfl (by kernel_rfl) (by kernel_rfl) (by kernel_rfl) (fun _ _ _ h => h) (Or.inl ⟨by rfl, ?_⟩) hHeld ?_
          rotate_left
          · (intro w hSw; (try dsimp only at hSw); go_simp; try with_reducible rfl)
          try simp only [Act.put, List.getElem_toArray, List.getElem_cons_succ, List.getElem_cons_zero, List.setIfInBounds_toArray, List.set_cons_zero, List.set_cons_succ]
          refine wpAnyH_take (i := 23) (oi := _) (v := ?_) rfl (by kernel_rfl) (by kernel_rfl) (by kernel_rfl) (fun _ _ _ h => h) (Or.inl ⟨by rfl, ?_⟩) hHeld ?_
          rotate_left
          · (intro w hSw; (try dsimp only at hSw); go_simp; try with_reducible rfl)
          try simp only [Act.put, List.getElem_toArray, List.getElem_cons_succ, List.getElem_cons_zero, List.setIfInBounds_toArray, List.set_cons_zero, List.set_cons_succ]
          refine wpAnyH_take (i := 24) (oi := _) (v := ?_) rfl (by kernel_rfl) (by kernel_rfl) (by kernel_rfl) (fun _ _ _ h => h) (Or.inl ⟨by rfl, ?_⟩) hHeld ?_
          rotate_left
          · (intro w hSw; (try dsimp only at hSw); go_simp; try with_reducible rfl)
          try simp only [Act.put, List.getElem_toArray, List.getElem_cons_succ, List.getElem_cons_zero, List.setIfInBounds_toArray, List.set_cons_zero, List.set_cons_succ]
          refine wpAnyH_take (i := 27) (oi := _) (v := ?_) rfl (by kernel_rfl) (by kernel_rfl) (by kernel_rfl) (fun _ _ _ h => h) (Or.inl ⟨by rfl, ?_⟩) hHeld ?_
          rotate_left
          · (intro w hSw; (try dsimp only at hSw); go_simp; try with_reducible rfl)
          try simp only [Act.put, List.getElem_toArray, List.getElem_cons_succ, List.getElem_cons_zero, List.setIfInBounds_toArray, List.set_cons_zero, List.set_cons_succ]
          refine wpAnyH_take (i := 28) (oi := _) (v := ?_) rfl (by kernel_rfl) (by kernel_rfl) (by kernel_rfl) (fun _ _ _ h => h) (Or.inl ⟨by rfl, ?_⟩) hHeld ?_
          rotate_left
          · (intro w hSw; (try dsimp only at hSw); go_simp; try with_reducible rfl)
          try simp only [Act.put, List.getElem_toArray, List.getElem_cons_succ, List.getElem_cons_zero, List.setIfInBounds_toArray, List.set_cons_zero, List.set_cons_succ]
          refine wpAnyH_ready (rs := [25]) (by kernel_rfl) (by simp) ?_
          refine AllReadyH.cons (o := _) rfl (fun K0 hK0 => ?_) AllReadyH.nil
          go_simp
          refine (IPO.out _ (by go_split_ands; assumption)).mono ?_
          rintro e9 vb ⟨A7_, k7_, c7_, rfl, hvb⟩
          go_wp2_with fail
          skip
          refine hK0.out _ _ (KH2.out _ hvb) (fun hHeld => ?_)
          clear hK0 K0
          try simp only [Act.put, List.getElem_toArray, List.getElem_cons_succ, List.getElem_cons_zero, List.setIfInBounds_toArray, List.set_cons_zero, List.set_cons_succ]
          refine wpAnyH_take (i := 26) (oi := _) (v := ?_) rfl (by kernel_rfl) (by kernel_rfl) (by kernel_rfl) (fun _ _ _ h => h) (Or.inl ⟨by rfl, ?_⟩) hHeld ?_
          rotate_left
          · (intro w hSw; (try dsimp only at hSw); go_simp; try with_reducible rfl)
          try simp only [Act.put, List.getElem_toArray, List.getElem_cons_succ, List.getElem_cons_zero, List.setIfInBounds_toArray, List.set_cons_zero, List.set_cons_succ]
          refine wpAnyH_ready (rs := [29]) (by kernel_rfl) (by simp) ?_
          refine AllReadyH.cons (o := _) rfl (fun K0 hK0 => ?_) AllReadyH.nil
          go_simp
          refine (ILS.out _ (by go_split_ands; assumption)).mono ?_
          rintro e9 vd ⟨rfl, hvd⟩
          go_wp2_with fail
          skip
          refine hK0.out _ _ (KH2.out _ hvd) (fun hHeld => ?_)
          clear hK0 K0
          try simp only [Act.put, List.getElem_toArray, List.getElem_cons_succ, List.getElem_cons_zero, List.setIfInBounds_toArray, List.set_cons_zero, List.set_cons_succ]
          refine wpAnyH_take (i := 30) (oi := _) (v := ?_) rfl (by kernel_rfl) (by kernel_rfl) (by kernel_rfl) (fun _ _ _ h => h) (Or.inl ⟨by rfl, ?_⟩) hHeld ?_
          rotate_left
          · (intro w hSw; (try dsimp only at hSw); go_simp; try with_reducible rfl)
          try simp only [Act.put, List.getElem_toArray, List.getElem_cons_succ, List.getElem_cons_zero, List.setIfInBounds_toArray, List.set_cons_zero, List.set_cons_succ]
          refine wpAnyH_take (i := 31) (oi := _) (v := ?_) rfl (by kernel_rfl) (by kernel_rfl) (by kernel_rfl) (fun _ _ _ h => h) (Or.inl ⟨by rfl, ?_⟩) hHeld ?_
          rotate_left
          · (intro w hSw; (try dsimp only at hSw); go_simp; try with_reducible rfl)
          try simp only [Act.put, List.getElem_toArray, List.getElem_cons_succ, List.getElem_cons_zero, List.setIfInBounds_toArray, List.set_cons_zero, List.set_cons_succ]
          refine wpAnyH_take (i := 32) (oi := _) (v := ?_) rfl (by kernel_rfl) (by kernel_rfl) (by kernel_rfl) (fun _ _ _ h => h) (Or.inl ⟨by rfl, ?_⟩) hHeld ?_
          rotate_left
          · (intro w hSw; (try dsimp only at hSw); go_simp; try with_reducible rfl)
          try simp only [Act.put, List.getElem_toArray, List.getElem_cons_succ, List.getElem_cons_zero, List.setIfInBounds_toArray, List.set_cons_zero, List.set_cons_succ]
          refine wpAnyH_done (by kernel_rfl) ?_ _
          clear hHeld
          go_wp2_with fail
          go_meet
          exact ⟨rfl, hvd⟩
      case rest =>
        rename World => ve
        obtain ⟨rfl, hb⟩ := hcut
        have BE := Lib.hid hb
        clear hb e0_ e1_ r0_ r1_ s0_ s1_ s2_ s3_ t0_ t1_ u0_ u1_ y0_ y1_ z0_ z1_ BC
        obtain ⟨⟨e0_, e1_⟩, ⟨r0_, r1_⟩, ⟨s0_, s1_, s2_, s3_⟩, ⟨t0_, t1_⟩, ⟨u0_, u1_⟩, ⟨y0_, y1_⟩, ⟨z0_, z1_⟩, l1, l2, l3, l4, l5, l6, l7, l8, bw⟩ := F.out ve BE.out
        go_upto_region 18 with (fail)
        clear l1 l2 l3 l4 l5 l6 l8 bw
        go_cut [174] from 15 (fun x wx => x = .bool false ∧ Below wy.heap.size wy wx)
        case first => as_aux_lemma =>
          by_cases hp : mq = 0
          case neg =>
            have z : (mq == 0) = false := by simp [hp]
            clear l7
            go_wp2
            go_meet
            exact ⟨rfl, BE.out⟩
          have z : (mq == 0) = true := by simp [hp]
          subst hp
          obtain ⟨g1, g2, g3⟩ := hof_good EQ3.out
          obtain rfl : nm = nl := by have := HQ3.out.len; omega
          have m13 : nm ≤ 13 := HQ3.out.small
          have HFC := Lib.hid (implHeapFault_any _ _ Q3 nm cm Mh ve (by omega) HQ3.out.len HQ3.out.nil HQ3.out.cap l7)
          rw [g1] at HFC
          have G3 := Lib.hid g3
          clear g1 g2 g3 l7
          go_wp2_with fail
          refine HFC.out.mono ?_
          rintro e vf ⟨rfl, hb⟩
          have BF := Lib.hid (BE.out.trans (hb.mono BE.out.size))
          clear hb HFC e0_ e1_ r0_ r1_ s0_ s1_ s2_ s3_ t0_ t1_ u0_ u1_ y0_ y1_ z0_ z1_
          obtain ⟨⟨e0_, e1_⟩, ⟨r0_, r1_⟩, ⟨s0_, s1_, s2_, s3_⟩, ⟨t0_, t1_⟩, ⟨u0_, u1_⟩, ⟨y0_, y1_⟩, ⟨z0_, z1_⟩, l1, l2, l3, l4, l5, l6, l7, l8, bw⟩ := F.out vf BF.out
          have SO := Lib.hid (implSortedOf_any _ _ Q3 nm cm Mh vf (by omega) HQ3.out.len HQ3.out.nil HQ3.out.cap l7)
          rw [G3.out] at SO
          clear l1 l2 l3 l4 l5 l6 l7 l8 bw
          go_wp2_with fail
          refine SO.out.mono ?_
          rintro e vg ⟨A8_, k8, c8_, rfl, ho, hb⟩
          obtain rfl : k8 = nm := by have a := ho.len; have b := srt4_len nm Mh; have a : (srt4 nm Mh).length = k8 * 2 := a; omega
          have BG := Lib.hid (BF.out.trans (hb.mono BF.out.size))
          clear ho hb SO
          dsimp only
          have fh1 := fun (q : Int) (A : Option Addr) (k c : Nat) (W : World) => run_hr1 q A k c W
          have zn : ((k8 : Int) != (k8 : Int)) = false := by simp
          go_wp2
          go_meet
          exact ⟨rfl, BG.out⟩
        case rest =>
          rename World => vh
          obtain ⟨rfl, hb⟩ := hcut
          have BH := Lib.hid hb
          clear hb e0_ e1_ r0_ r1_ s0_ s1_ s2_ s3_ t0_ t1_ u0_ u1_ y0_ y1_ z0_ z1_ BE l7
          obtain ⟨⟨e0_, e1_⟩, ⟨r0_, r1_⟩, ⟨s0_, s1_, s2_, s3_⟩, ⟨t0_, t1_⟩, ⟨u0_, u1_⟩, ⟨y0_, y1_⟩, ⟨z0_, z1_⟩, l1, l2, l3, l4, l5, l6, l7, l8, bw⟩ := F.out vh BH.out
          have BWH := Lib.hid bw
          clear l1 l2 l3 l4 l5 l6 l7 l8 bw
          by_cases hp : sq = 0
          case neg =>
            have z : (sq != 0) = true := by simp [hp]
            go_wp2
            go_ret
            exact ⟨rfl, BWH.out⟩
          have z : (sq != 0) = false := by simp [hp]
          subst hp
          obtain ⟨g1, g2⟩ := srt_good HX0.out.len EQ4.out
          obtain rfl : nz = nx := by have := HQ4.out.len; omega
          have m13 : nz ≤ 13 := HQ4.out.small
          have GR := Lib.hid g2
          clear g1 g2
          go_wp2_with fail
          go_loopw [14] (fun i wr => ∃ j : Nat, 1 ≤ j ∧ (j ≤ nz ∨ j = 1) ∧ i = .int .i64 (j : Int) ∧ Below wy.heap.size wy wr) (fun i _ => nz - (intOf i).toNat)
          case atStart => exact ⟨1, by omega, .inr rfl, rfl, BH.out⟩
          case round =>
            obtain ⟨j, hj1, hj, rfl, hb⟩ := hrel
            have BR := Lib.hid hb
            clear hb e0_ e1_ r0_ r1_ s0_ s1_ s2_ s3_ t0_ t1_ u0_ u1_ y0_ y1_ z0_ z1_
            obtain ⟨⟨e0_, e1_⟩, ⟨r0_, r1_⟩, ⟨s0_, s1_, s2_, s3_⟩, ⟨t0_, t1_⟩, ⟨u0_, u1_⟩, ⟨y0_, y1_⟩, ⟨z0_, z1_⟩, l1, l2, l3, l4, l5, l6, l7, l8, bw⟩ := F.out wr BR.out
            have BW := Lib.hid bw
            clear bw l1 l2 l3 l4 l5 l6 l7
            by_cases hlt : j < nz
            · obtain ⟨i, rfl⟩ : ∃ i, j = i + 1 := ⟨j - 1, by omega⟩
              obtain ⟨g8, off, hA, _, _, hc⟩ := l8.at_ (show i * 2 < nz * 2 by omega)
              have SD : Hid (∀ W, Below wy.heap.size wy W → (W.cell? ⟨x4, 1, none⟩ = some (.slice (some ⟨g8, off, none⟩) nz cz) ∧ W.cell? ⟨g8, off + i * 2, none⟩ = some (.int .i64 (gi Sh (i * 2))) ∧ W.cell? ⟨g8, off + i * 2 + 1, none⟩ = some (.int .i64 (gi Sh (i * 2 + 1))) ∧ W.cell? ⟨g8, off + (i + 1) * 2, none⟩ = some (.int .i64 (gi Sh ((i + 1) * 2))) ∧ W.cell? ⟨g8, off + (i + 1) * 2 + 1, none⟩ = some (.int .i64 (gi Sh ((i + 1) * 2 + 1)))) ∧ Below wy.heap.size wy W) := fun W hW => by
                obtain ⟨_, _, _, _, ⟨_, h4⟩, _, _, _, _, _, _, _, _, _, l8', _⟩ := F.out W hW
                obtain ⟨g9, off9, hA9, _, _, hc9⟩ := l8'.at_ (show i * 2 < nz * 2 by omega)
                rw [hA] at hA9
                injection hA9 with hA9
                injection hA9 with e1 e2
                subst e1; subst e2
                rw [hA] at h4
                exact ⟨⟨h4, hc9 (i * 2) (by omega), hc9 (i * 2 + 1) (by omega), hc9 ((i + 1) * 2) (by omega), hc9 ((i + 1) * 2 + 1) (by omega)⟩, hW⟩
              have LT := GR.out i (by omega)
              clear hc l8 hA e0_ e1_ r0_ r1_ s0_ s1_ s2_ s3_ t0_ t1_ u0_ u1_ y0_ y1_ z0_ z1_
              obtain ⟨⟨u1_, s0_, s1_, t0_, t1_⟩, _⟩ := SD.out wr BR.out
              generalize gi Sh (i * 2) = c0 at *
              generalize gi Sh (i * 2 + 1) = c1 at *
              generalize gi Sh ((i + 1) * 2) = c2 at *
              generalize gi Sh ((i + 1) * 2 + 1) = c3 at *
              have ILS : Hid (∀ W, Below wy.heap.size wy W → Calls Try.prog 21 #[.agg #[.int .i64 c0, .int .i64 c1], .agg #[.int .i64 c2, .int .i64 c3]] W fun e w' => e = .returned (.bool true) ∧ Below wy.heap.size wy w') := fun W hW => by
                have := implIsLess_any c0 c1 c2 c3 W
                rw [LT] at this
                exact this.mono fun e w' hh => ⟨hh.1, hW.trans (hh.2.mono hW.size)⟩
              have hs : IntKind.i64.wrap (((i + 1 : Nat) : Int) - 1) = (i : Int) := by rw [IntWalk.i64_in _ (by omega)]; omega
              have hs2 : IntKind.i64.wrap ((i : Int) + 1 - 1) = (i : Int) := by rw [IntWalk.i64_in _ (by omega)]; omega
              have hs3 : IntKind.i64.wrap (i : Int) = (i : Int) := IntWalk.i64_in _ (by omega)
              have hlt3 : (i : Int) + 1 < (nz : Int) := by omega
              have hltN : i + 1 < nz := hlt
              have hltM : i < nz := by omega
              have hlt2 : ((i + 1 : Nat) : Int) < (nz : Int) := by omega
              have hi0 : (0 : Int) ≤ (i : Int) := by omega
              have hi1 : (i : Int) < (nz : Int) := by omega
              have hi2 : (0 : Int) ≤ (i : Int) + 1 := by omega
              clear LT
              go_wp2_with fail
              refine wp_region_held_drew (S := fun W => (W.cell? ⟨x4, 1, none⟩ = some (.slice (some ⟨g8, off, none⟩) nz cz) ∧ W.cell? ⟨g8, off + i * 2, none⟩ = some (.int .i64 c0) ∧ W.cell? ⟨g8, off + i * 2 + 1, none⟩ = some (.int .i64 c1) ∧ W.cell? ⟨g8, off + (i + 1) * 2, none⟩ = some (.int .i64 c2) ∧ W.cell? ⟨g8, off + (i + 1) * 2 + 1, none⟩ = some (.int .i64 c3)) ∧ Below wy.heap.size wy W) (by kernel_rfl) (SD.out _ BR.out.drew) (fun hHeld => ?_)
              obtain ⟨v0, hv0⟩ : ∃ v0, v0 = wr.drew := ⟨_, rfl⟩
              have BL0 : Hid (Below wr.heap.size wr v0) := by rw [hv0]; exact Below.drew (Below.refl _ _)
              rw [← hv0] at hHeld ⊢
              clear hv0
              refine wpAnyH_take (i := 0) (oi := _) (v := ?_) rfl (by kernel_rfl) (by kernel_rfl) (by kernel_rfl) (fun _ _ _ h => h) (Or.inl ⟨by rfl, ?_⟩) hHeld ?_
              rotate_left
              · (intro w hSw; (try dsimp only at hSw); go_simp; try with_reducible rfl)
              try simp only [Act.put, List.getElem_toArray, List.getElem_cons_succ, List.getElem_cons_zero, List.setIfInBounds_toArray, List.set_cons_zero, List.set_cons_succ]
              refine wpAnyH_take (i := 1) (oi := _) (v := ?_) rfl (by kernel_rfl) (by kernel_rfl) (by kernel_rfl) (fun _ _ _ h => h) (Or.inl ⟨by rfl, ?_⟩) hHeld ?_
              rotate_left
              · (intro w hSw; (try dsimp only at hSw); go_simp; try with_reducible rfl)
              try simp only [Act.put, List.getElem_toArray, List.getElem_cons_succ, List.getElem_cons_zero, List.setIfInBounds_toArray, List.set_cons_zero, List.set_cons_succ]
              refine wpAnyH_take (i := 2) (oi := _) (v := ?_) rfl (by kernel_rfl) (by kernel_rfl) (by kernel_rfl) (fun _ _ _ h => h) (Or.inl ⟨by rfl, ?_⟩) hHeld ?_
              rotate_left
              · (intro w hSw; (try dsimp only at hSw); go_simp; try with_reducible rfl)
              try simp only [Act.put, List.getElem_toArray, List.getElem_cons_succ, List.getElem_cons_zero, List.setIfInBounds_toArray, List.set_cons_zero, List.set_cons_succ]
              refine wpAnyH_take (i := 3) (oi := _) (v := ?_) rfl (by kernel_rfl) (by kernel_rfl) (by kernel_rfl) (fun _ _ _ h => h) (Or.inl ⟨by rfl, ?_⟩) hHeld ?_
              rotate_left
              · (intro w hSw; (try dsimp only at hSw); go_simp; try with_reducible rfl)
              try simp only [Act.put, List.getElem_toArray, List.getElem_cons_succ, List.getElem_cons_zero, List.setIfInBounds_toArray, List.set_cons_zero, List.set_cons_succ]
              refine wpAnyH_take (i := 4) (oi := _) (v := ?_) rfl (by kernel_rfl) (by kernel_rfl) (by kernel_rfl) (fun _ _ _ h => h) (Or.inl ⟨by rfl, ?_⟩) hHeld ?_
              rotate_left
              · (intro w hSw; (try dsimp only at hSw); go_simp; try with_reducible rfl)
              try simp only [Act.put, List.getElem_toArray, List.getElem_cons_succ, List.getElem_cons_zero, List.setIfInBounds_toArray, List.set_cons_zero, List.set_cons_succ]
              refine wpAnyH_take (i := 5) (oi := _) (v := ?_) rfl (by kernel_rfl) (by kernel_rfl) (by kernel_rfl) (fun _ _ _ h => h) (Or.inl ⟨by rfl, ?_⟩) hHeld ?_
              rotate_left
              · (intro w hSw; (try dsimp only at hSw); go_simp; try with_reducible rfl)
              try simp only [Act.put, List.getElem_toArray, List.getElem_cons_succ, List.getElem_cons_zero, List.setIfInBounds_toArray, List.set_cons_zero, List.set_cons_succ]
              refine wpAnyH_take (i := 6) (oi := _) (v := ?_) rfl (by kernel_rfl) (by kernel_rfl) (by kernel_rfl) (fun _ _ _ h => h) (Or.inl ⟨by rfl, ?_⟩) hHeld ?_
              rotate_left
              · (intro w hSw; (try dsimp only at hSw); go_simp; try with_reducible rfl)
              try simp only [Act.put, List.getElem_toArray, List.getElem_cons_succ, List.getElem_cons_zero, List.setIfInBounds_toArray, List.set_cons_zero, List.set_cons_succ]
              refine wpAnyH_take (i := 7) (oi := _) (v := ?_) rfl (by kernel_rfl) (by kernel_rfl) (by kernel_rfl) (fun _ _ _ h => h) (Or.inl ⟨by rfl, ?_⟩) hHeld ?_
              rotate_left
              · (intro w hSw; (try dsimp only at hSw); go_simp; try with_reducible rfl)
              try simp only [Act.put, List.getElem_toArray, List.getElem_cons_succ, List.getElem_cons_zero, List.setIfInBounds_toArray, List.set_cons_zero, List.set_cons_succ]
              refine wpAnyH_take (i := 8) (oi := _) (v := ?_) rfl (by kernel_rfl) (by kernel_rfl) (by kernel_rfl) (fun _ _ _ h => h) (Or.inl ⟨by rfl, ?_⟩) hHeld ?_
              rotate_left
              · (intro w hSw; (try dsimp only at hSw); go_simp; try with_reducible rfl)
              try simp only [Act.put, List.getElem_toArray, List.getElem_cons_succ, List.getElem_cons_zero, List.setIfInBounds_toArray, List.set_cons_zero, List.set_cons_succ]
              refine wpAnyH_take (i := 9) (oi := _) (v := ?_) rfl (by kernel_rfl) (by kernel_rfl) (by kernel_rfl) (fun _ _ _ h => h) (Or.inl ⟨by rfl, ?_⟩) hHeld ?_
              rotate_left
              · (intro w hSw; (try dsimp only at hSw); go_simp; try with_reducible rfl)
              try simp only [Act.put, List.getElem_toArray, List.getElem_cons_succ, List.getElem_cons_zero, List.setIfInBounds_toArray, List.set_cons_zero, List.set_cons_succ]
              refine wpAnyH_take (i := 10) (oi := _) (v := ?_) rfl (by kernel_rfl) (by kernel_rfl) (by kernel_rfl) (fun _ _ _ h => h) (Or.inl ⟨by rfl, ?_⟩) hHeld ?_
              rotate_left
              · (intro w hSw; (try dsimp only at hSw); go_simp; try with_reducible rfl)
              try simp only [Act.put, List.getElem_toArray, List.getElem_cons_succ, List.getElem_cons_zero, List.setIfInBounds_toArray, List.set_cons_zero, List.set_cons_succ]
              refine wpAnyH_ready (rs := [11]) (by kernel_rfl) (by simp) ?_
              refine AllReadyH.cons (o := _) rfl (fun K0 hK0 => ?_) AllReadyH.nil
              go_simp
              refine (ILS.out _ (by go_split_ands; assumption)).mono ?_
              rintro e9 vi ⟨rfl, hvi⟩
              go_wp2_with fail
              skip
              refine hK0.out _ _ (SD.out _ hvi) (fun hHeld => ?_)
              clear hK0 K0
              try simp only [Act.put, List.getElem_toArray, List.getElem_cons_succ, List.getElem_cons_zero, List.setIfInBounds_toArray, List.set_cons_zero, List.set_cons_succ]
              refine wpAnyH_take (i := 12) (oi := _) (v := ?_) rfl (by kernel_rfl) (by kernel_rfl) (by kernel_rfl) (fun _ _ _ h => h) (Or.inl ⟨by rfl, ?_⟩) hHeld ?_
              rotate_left
              · (intro w hSw; (try dsimp only at hSw); go_simp; try with_reducible rfl)
              try simp only [Act.put, List.getElem_toArray, List.getElem_cons_succ, List.getElem_cons_zero, List.setIfInBounds_toArray, List.set_cons_zero, List.set_cons_succ]
              refine wpAnyH_done (by kernel_rfl) ?_ _
              clear hHeld
              have BI := Lib.hid hvi
              clear hvi
              go_wp2
              go_roundw
              case rel => exact ⟨i + 1 + 1, by omega, .inl (by omega), by go_num, BI.out⟩
              case measure => simp [intOf]; omega
            · have hjn : ¬ ((j : Int) < (nz : Int)) := by omega
              clear l8
              go_wp2
              go_ret
              exact ⟨rfl, BW.out⟩

end Go.Proofs.Ytckapndpefkcgaa
