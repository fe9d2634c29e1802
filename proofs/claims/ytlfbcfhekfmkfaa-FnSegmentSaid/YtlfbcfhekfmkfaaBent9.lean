/- The draw l9Bent. -/
import Derived.Test.YtlfbcfhekfmkfaaDraw9
namespace Go.Proofs.Ytlfbcfhekfmkfaa
open Go.RowKit Go.Lib

set_option maxRecDepth 100000 in
set_option maxHeartbeats 16000000 in
theorem l9Bent_any (B g : Nat) (w : World) (hc : CurB w B g) : Calls Try.prog 29 #[.pointer (some ⟨g, 0, none⟩)] w (SegEnd w B g) := by
  have hlt := hc.lt
  have hBg := hc.1
  have C0 := Lib.hid hc
  clear hc
  go_enter Try.func29, Try.ntmps29
  go_wp2_with fail
  refine (l9Segment_any B g _ (C0.out.new (.cells #[.int .i64 0, .int .i64 0, .int .i64 0, .int .i64 0, .int .i64 0, .int .i64 0, .int .i64 0, .int .i64 0, .bool false, .bool false, .int .i64 0, .int .i64 0, .string ⟨#[]⟩] 27))).mono ?_
  rintro e w1 ⟨p, d, q, a, r, n, m, c, k, t, v, u, b, rfl, hcu, hgr⟩
  have K1 := Lib.hid ((Blk.new w [.int .i64 0, .int .i64 0, .int .i64 0, .int .i64 0, .int .i64 0, .int .i64 0, .int .i64 0, .int .i64 0, .bool false, .bool false, .int .i64 0, .int .i64 0, .string ⟨#[]⟩] 27).grown hgr (by omega))
  have C1 := Lib.hid hcu
  have G1 := Lib.hid (grown_tr (World.grownBy_alloc w (.cells #[.int .i64 0, .int .i64 0, .int .i64 0, .int .i64 0, .int .i64 0, .int .i64 0, .int .i64 0, .int .i64 0, .bool false, .bool false, .int .i64 0, .int .i64 0, .string ⟨#[]⟩] 27) (some g)) hgr)
  clear hcu hgr C0
  go_wp2_with fail
  have hr0 : w.heap.size < w1.heap.size := K1.out.lt
  have hgf : g < w1.heap.size := C1.out.lt
  have K2 := Lib.hid (K1.out.alloc (.cells #[.int .i64 p, .int .i64 d, .int .i64 q, .int .i64 a, .int .i64 r, .int .i64 n, .int .i64 m, .int .i64 c, .bool k, .bool t, .int .i64 v, .int .i64 u, .string b] 27))
  have F2 := Lib.hid (Blk.new w1 [.int .i64 p, .int .i64 d, .int .i64 q, .int .i64 a, .int .i64 r, .int .i64 n, .int .i64 m, .int .i64 c, .bool k, .bool t, .int .i64 v, .int .i64 u, .string b] 27)
  have C2 := Lib.hid (C1.out.new (.cells #[.int .i64 p, .int .i64 d, .int .i64 q, .int .i64 a, .int .i64 r, .int .i64 n, .int .i64 m, .int .i64 c, .bool k, .bool t, .int .i64 v, .int .i64 u, .string b] 27))
  have G2 := Lib.hid (grown_new G1.out (.cells #[.int .i64 p, .int .i64 d, .int .i64 q, .int .i64 a, .int .i64 r, .int .i64 n, .int .i64 m, .int .i64 c, .bool k, .bool t, .int .i64 v, .int .i64 u, .string b] 27))
  clear K1 C1 G1
  generalize w1.alloc (.cells #[.int .i64 p, .int .i64 d, .int .i64 q, .int .i64 a, .int .i64 r, .int .i64 n, .int .i64 m, .int .i64 c, .bool k, .bool t, .int .i64 v, .int .i64 u, .string b] 27) = w2 at K2 F2 C2 G2 ⊢
  generalize hf : w1.heap.size = f at hr0 F2 hgf ⊢
  clear hf
  have hfg : f ≠ g := Nat.ne_of_gt hgf
  have hrg : w.heap.size ≠ g := Nat.ne_of_gt hlt
  have hwf : w.heap.size ≠ f := Nat.ne_of_lt hr0
  have hwf2 : ¬ f = w.heap.size := fun e => hwf e.symm
  have hfl : w.heap.size ≤ f := Nat.le_of_lt hr0
  have hBf : B ≤ f := by omega
  have hB : B ≤ w.heap.size := by omega
  have hrl : w.heap.size ≤ w.heap.size := Nat.le_refl _
  refine (l1Below_pos B g w2 C2.out 12 (by omega) (by omega)).mono ?_
  rintro e w3 ⟨z, rfl, ⟨z0, z1⟩, hcu, hgr⟩
  have K3 := Lib.hid (K2.out.grown hgr hrg)
  have F3 := Lib.hid (F2.out.grown hgr hfg)
  have G3 := Lib.hid (grown_tr G2.out hgr)
  have C3 := Lib.hid (hcu)
  clear hcu hgr K2 F2 G2 C2
  have hq : z = 0 ∨ z = 1 ∨ z = 2 ∨ z = 3 ∨ z = 4 ∨ z = 5 ∨ 6 ≤ z := by omega
  clear z0
  rcases hq with rfl | rfl | rfl | rfl | rfl | rfl | hq
  · go_wp2_with fail
    refine (l2Word_any B g w3 C3.out).mono ?_
    rintro e w4 ⟨x, rfl, _, hcu, hgr⟩
    have K4 := Lib.hid (K3.out.grown hgr hrg)
    have F4 := Lib.hid (F3.out.grown hgr hfg)
    have G4 := Lib.hid (grown_tr G3.out hgr)
    have C4 := Lib.hid (hcu)
    clear hcu hgr K3 F3 G3 C3
    obtain ⟨⟨c0, c1, c2, c3, c4, c5, c6, c7, c8, c9, c10, c11, c12⟩, f0, f1, f2, f3, f4, f5, f6, f7, f8, f9, f10, f11, f12⟩ := F4.out.of13
    obtain ⟨⟨d0, d1, d2, d3, d4, d5, d6, d7, d8, d9, d10, d11, d12⟩, e0, e1, e2, e3, e4, e5, e6, e7, e8, e9, e10, e11, e12⟩ := K4.out.of13
    go_wp2_with fail
    refine bodyPost_ret (v := .agg #[.int .i64 x, .int .i64 d, .int .i64 q, .int .i64 a, .int .i64 r, .int .i64 n, .int .i64 m, .int .i64 c, .bool k, .bool t, .int .i64 v, .int .i64 u, .string b]) (by simp [results, Try.results29, go_sem, d0, d1, d2, d3, d4, d5, d6, d7, d8, d9, d10, d11, d12]) rfl ⟨_, _, _, _, _, _, _, _, _, _, _, _, _, rfl, ?_, ?_⟩
    · exact (((((((((((((C4.out.setOther ⟨f, 0, none⟩ (.int .i64 x) hBf hfg).setOther _ _ hB hrg).setOther _ _ hB hrg).setOther _ _ hB hrg).setOther _ _ hB hrg).setOther _ _ hB hrg).setOther _ _ hB hrg).setOther _ _ hB hrg).setOther _ _ hB hrg).setOther _ _ hB hrg).setOther _ _ hB hrg).setOther _ _ hB hrg).setOther _ _ hB hrg).setOther _ _ hB hrg
    · exact grown_setNew (grown_setNew (grown_setNew (grown_setNew (grown_setNew (grown_setNew (grown_setNew (grown_setNew (grown_setNew (grown_setNew (grown_setNew (grown_setNew (grown_setNew (grown_setNew G4.out ⟨f, 0, none⟩ (.int .i64 x) hfl) _ _ hrl) _ _ hrl) _ _ hrl) _ _ hrl) _ _ hrl) _ _ hrl) _ _ hrl) _ _ hrl) _ _ hrl) _ _ hrl) _ _ hrl) _ _ hrl) _ _ hrl
  · go_wp2_with fail
    refine (l2Word_any B g w3 C3.out).mono ?_
    rintro e w4 ⟨x, rfl, _, hcu, hgr⟩
    have K4 := Lib.hid (K3.out.grown hgr hrg)
    have F4 := Lib.hid (F3.out.grown hgr hfg)
    have G4 := Lib.hid (grown_tr G3.out hgr)
    have C4 := Lib.hid (hcu)
    clear hcu hgr K3 F3 G3 C3
    obtain ⟨⟨c0, c1, c2, c3, c4, c5, c6, c7, c8, c9, c10, c11, c12⟩, f0, f1, f2, f3, f4, f5, f6, f7, f8, f9, f10, f11, f12⟩ := F4.out.of13
    obtain ⟨⟨d0, d1, d2, d3, d4, d5, d6, d7, d8, d9, d10, d11, d12⟩, e0, e1, e2, e3, e4, e5, e6, e7, e8, e9, e10, e11, e12⟩ := K4.out.of13
    go_wp2_with fail
    refine bodyPost_ret (v := .agg #[.int .i64 p, .int .i64 d, .int .i64 x, .int .i64 a, .int .i64 r, .int .i64 n, .int .i64 m, .int .i64 c, .bool k, .bool t, .int .i64 v, .int .i64 u, .string b]) (by simp [results, Try.results29, go_sem, d0, d1, d2, d3, d4, d5, d6, d7, d8, d9, d10, d11, d12]) rfl ⟨_, _, _, _, _, _, _, _, _, _, _, _, _, rfl, ?_, ?_⟩
    · exact (((((((((((((C4.out.setOther ⟨f, 2, none⟩ (.int .i64 x) hBf hfg).setOther _ _ hB hrg).setOther _ _ hB hrg).setOther _ _ hB hrg).setOther _ _ hB hrg).setOther _ _ hB hrg).setOther _ _ hB hrg).setOther _ _ hB hrg).setOther _ _ hB hrg).setOther _ _ hB hrg).setOther _ _ hB hrg).setOther _ _ hB hrg).setOther _ _ hB hrg).setOther _ _ hB hrg
    · exact grown_setNew (grown_setNew (grown_setNew (grown_setNew (grown_setNew (grown_setNew (grown_setNew (grown_setNew (grown_setNew (grown_setNew (grown_setNew (grown_setNew (grown_setNew (grown_setNew G4.out ⟨f, 2, none⟩ (.int .i64 x) hfl) _ _ hrl) _ _ hrl) _ _ hrl) _ _ hrl) _ _ hrl) _ _ hrl) _ _ hrl) _ _ hrl) _ _ hrl) _ _ hrl) _ _ hrl) _ _ hrl) _ _ hrl
  · go_wp2_with fail
    refine (pickBad B g w3 C3.out).mono ?_
    rintro e w4 ⟨x, rfl, _, hcu, hgr⟩
    have K4 := Lib.hid (K3.out.grown hgr hrg)
    have F4 := Lib.hid (F3.out.grown hgr hfg)
    have G4 := Lib.hid (grown_tr G3.out hgr)
    have C4 := Lib.hid (hcu)
    clear hcu hgr K3 F3 G3 C3
    obtain ⟨⟨c0, c1, c2, c3, c4, c5, c6, c7, c8, c9, c10, c11, c12⟩, f0, f1, f2, f3, f4, f5, f6, f7, f8, f9, f10, f11, f12⟩ := F4.out.of13
    obtain ⟨⟨d0, d1, d2, d3, d4, d5, d6, d7, d8, d9, d10, d11, d12⟩, e0, e1, e2, e3, e4, e5, e6, e7, e8, e9, e10, e11, e12⟩ := K4.out.of13
    go_wp2_with fail
    refine bodyPost_ret (v := .agg #[.int .i64 p, .int .i64 d, .int .i64 q, .int .i64 a, .int .i64 x, .int .i64 n, .int .i64 m, .int .i64 c, .bool k, .bool t, .int .i64 v, .int .i64 u, .string b]) (by simp [results, Try.results29, go_sem, d0, d1, d2, d3, d4, d5, d6, d7, d8, d9, d10, d11, d12]) rfl ⟨_, _, _, _, _, _, _, _, _, _, _, _, _, rfl, ?_, ?_⟩
    · exact (((((((((((((C4.out.setOther ⟨f, 4, none⟩ (.int .i64 x) hBf hfg).setOther _ _ hB hrg).setOther _ _ hB hrg).setOther _ _ hB hrg).setOther _ _ hB hrg).setOther _ _ hB hrg).setOther _ _ hB hrg).setOther _ _ hB hrg).setOther _ _ hB hrg).setOther _ _ hB hrg).setOther _ _ hB hrg).setOther _ _ hB hrg).setOther _ _ hB hrg).setOther _ _ hB hrg
    · exact grown_setNew (grown_setNew (grown_setNew (grown_setNew (grown_setNew (grown_setNew (grown_setNew (grown_setNew (grown_setNew (grown_setNew (grown_setNew (grown_setNew (grown_setNew (grown_setNew G4.out ⟨f, 4, none⟩ (.int .i64 x) hfl) _ _ hrl) _ _ hrl) _ _ hrl) _ _ hrl) _ _ hrl) _ _ hrl) _ _ hrl) _ _ hrl) _ _ hrl) _ _ hrl) _ _ hrl) _ _ hrl) _ _ hrl
  · go_wp2_with fail
    refine (l2Word_any B g w3 C3.out).mono ?_
    rintro e w4 ⟨x, rfl, _, hcu, hgr⟩
    have K4 := Lib.hid (K3.out.grown hgr hrg)
    have F4 := Lib.hid (F3.out.grown hgr hfg)
    have G4 := Lib.hid (grown_tr G3.out hgr)
    have C4 := Lib.hid (hcu)
    clear hcu hgr K3 F3 G3 C3
    obtain ⟨⟨c0, c1, c2, c3, c4, c5, c6, c7, c8, c9, c10, c11, c12⟩, f0, f1, f2, f3, f4, f5, f6, f7, f8, f9, f10, f11, f12⟩ := F4.out.of13
    obtain ⟨⟨d0, d1, d2, d3, d4, d5, d6, d7, d8, d9, d10, d11, d12⟩, e0, e1, e2, e3, e4, e5, e6, e7, e8, e9, e10, e11, e12⟩ := K4.out.of13
    go_wp2_with fail
    refine bodyPost_ret (v := .agg #[.int .i64 p, .int .i64 d, .int .i64 q, .int .i64 a, .int .i64 r, .int .i64 x, .int .i64 m, .int .i64 c, .bool k, .bool t, .int .i64 v, .int .i64 u, .string b]) (by simp [results, Try.results29, go_sem, d0, d1, d2, d3, d4, d5, d6, d7, d8, d9, d10, d11, d12]) rfl ⟨_, _, _, _, _, _, _, _, _, _, _, _, _, rfl, ?_, ?_⟩
    · exact (((((((((((((C4.out.setOther ⟨f, 5, none⟩ (.int .i64 x) hBf hfg).setOther _ _ hB hrg).setOther _ _ hB hrg).setOther _ _ hB hrg).setOther _ _ hB hrg).setOther _ _ hB hrg).setOther _ _ hB hrg).setOther _ _ hB hrg).setOther _ _ hB hrg).setOther _ _ hB hrg).setOther _ _ hB hrg).setOther _ _ hB hrg).setOther _ _ hB hrg).setOther _ _ hB hrg
    · exact grown_setNew (grown_setNew (grown_setNew (grown_setNew (grown_setNew (grown_setNew (grown_setNew (grown_setNew (grown_setNew (grown_setNew (grown_setNew (grown_setNew (grown_setNew (grown_setNew G4.out ⟨f, 5, none⟩ (.int .i64 x) hfl) _ _ hrl) _ _ hrl) _ _ hrl) _ _ hrl) _ _ hrl) _ _ hrl) _ _ hrl) _ _ hrl) _ _ hrl) _ _ hrl) _ _ hrl) _ _ hrl) _ _ hrl
  · go_wp2_with fail
    refine (l8Bent_any B g w3 C3.out).mono ?_
    rintro e w4 ⟨xm, xc, xk, xt, xv, xu, rfl, hcu, hgr⟩
    have K4 := Lib.hid (K3.out.grown hgr hrg)
    have F4 := Lib.hid (F3.out.grown hgr hfg)
    have G4 := Lib.hid (grown_tr G3.out hgr)
    have C4 := Lib.hid (hcu)
    clear hcu hgr K3 F3 G3 C3
    obtain ⟨⟨c0, c1, c2, c3, c4, c5, c6, c7, c8, c9, c10, c11, c12⟩, f0, f1, f2, f3, f4, f5, f6, f7, f8, f9, f10, f11, f12⟩ := F4.out.of13
    go_upto_region 15 with fail
    have F5 := Lib.hid (show Blk ((((((w4.setCell ⟨f, 6, none⟩ (.int .i64 xm)).setCell ⟨f, 7, none⟩ (.int .i64 xc)).setCell ⟨f, 8, none⟩ (.bool xk)).setCell ⟨f, 9, none⟩ (.bool xt)).setCell ⟨f, 10, none⟩ (.int .i64 xv)).setCell ⟨f, 11, none⟩ (.int .i64 xu)) f [.int .i64 p, .int .i64 d, .int .i64 q, .int .i64 a, .int .i64 r, .int .i64 n, .int .i64 xm, .int .i64 xc, .bool xk, .bool xt, .int .i64 xv, .int .i64 xu, .string b] from ((((((F4.out.set 6 (.int .i64 xm)).set 7 (.int .i64 xc)).set 8 (.bool xk)).set 9 (.bool xt)).set 10 (.int .i64 xv)).set 11 (.int .i64 xu)))
    have K5 := Lib.hid ((((((K4.out.setOther ⟨f, 6, none⟩ (.int .i64 xm) hwf).setOther ⟨f, 7, none⟩ (.int .i64 xc) hwf).setOther ⟨f, 8, none⟩ (.bool xk) hwf).setOther ⟨f, 9, none⟩ (.bool xt) hwf).setOther ⟨f, 10, none⟩ (.int .i64 xv) hwf).setOther ⟨f, 11, none⟩ (.int .i64 xu) hwf)
    have C5 := Lib.hid ((((((C4.out.setOther ⟨f, 6, none⟩ (.int .i64 xm) hBf hfg).setOther ⟨f, 7, none⟩ (.int .i64 xc) hBf hfg).setOther ⟨f, 8, none⟩ (.bool xk) hBf hfg).setOther ⟨f, 9, none⟩ (.bool xt) hBf hfg).setOther ⟨f, 10, none⟩ (.int .i64 xv) hBf hfg).setOther ⟨f, 11, none⟩ (.int .i64 xu) hBf hfg)
    have G5 := Lib.hid (grown_setNew (grown_setNew (grown_setNew (grown_setNew (grown_setNew (grown_setNew G4.out ⟨f, 6, none⟩ (.int .i64 xm) hfl) ⟨f, 7, none⟩ (.int .i64 xc) hfl) ⟨f, 8, none⟩ (.bool xk) hfl) ⟨f, 9, none⟩ (.bool xt) hfl) ⟨f, 10, none⟩ (.int .i64 xv) hfl) ⟨f, 11, none⟩ (.int .i64 xu) hfl)
    clear F4 K4 C4 G4 c0 c1 c2 c3 c4 c5 c6 c7 c8 c9 c10 c11 c12 f0 f1 f2 f3 f4 f5 f6 f7 f8 f9 f10 f11 f12
    generalize ((((((w4.setCell ⟨f, 6, none⟩ (.int .i64 xm)).setCell ⟨f, 7, none⟩ (.int .i64 xc)).setCell ⟨f, 8, none⟩ (.bool xk)).setCell ⟨f, 9, none⟩ (.bool xt)).setCell ⟨f, 10, none⟩ (.int .i64 xv)).setCell ⟨f, 11, none⟩ (.int .i64 xu)) = w5 at F5 K5 C5 G5 ⊢
    obtain ⟨⟨c0, c1, c2, c3, c4, c5, c6, c7, c8, c9, c10, c11, c12⟩, f0, f1, f2, f3, f4, f5, f6, f7, f8, f9, f10, f11, f12⟩ := F5.out.of13
    obtain ⟨⟨d0, d1, d2, d3, d4, d5, d6, d7, d8, d9, d10, d11, d12⟩, e0, e1, e2, e3, e4, e5, e6, e7, e8, e9, e10, e11, e12⟩ := K5.out.of13
    go_wp2_with fail
    refine bodyPost_ret (v := .agg #[.int .i64 p, .int .i64 d, .int .i64 q, .int .i64 a, .int .i64 r, .int .i64 n, .int .i64 xm, .int .i64 xc, .bool xk, .bool xt, .int .i64 xv, .int .i64 xu, .string b]) (by simp [results, Try.results29, go_sem, d0, d1, d2, d3, d4, d5, d6, d7, d8, d9, d10, d11, d12]) rfl ⟨_, _, _, _, _, _, _, _, _, _, _, _, _, rfl, ?_, ?_⟩
    · exact ((((((((((((C5.out.setOther _ _ hB hrg).setOther _ _ hB hrg).setOther _ _ hB hrg).setOther _ _ hB hrg).setOther _ _ hB hrg).setOther _ _ hB hrg).setOther _ _ hB hrg).setOther _ _ hB hrg).setOther _ _ hB hrg).setOther _ _ hB hrg).setOther _ _ hB hrg).setOther _ _ hB hrg).setOther _ _ hB hrg
    · exact grown_setNew (grown_setNew (grown_setNew (grown_setNew (grown_setNew (grown_setNew (grown_setNew (grown_setNew (grown_setNew (grown_setNew (grown_setNew (grown_setNew (grown_setNew G5.out _ _ hrl) _ _ hrl) _ _ hrl) _ _ hrl) _ _ hrl) _ _ hrl) _ _ hrl) _ _ hrl) _ _ hrl) _ _ hrl) _ _ hrl) _ _ hrl) _ _ hrl
  · go_wp2_with fail
    refine (l1Below_pos B g w3 C3.out 3 (by omega) (by omega)).mono ?_
    rintro e u' ⟨r9, rfl, ⟨r90, r91⟩, hcu9, hgr9⟩
    obtain ⟨n9, rfl⟩ : ∃ n : Nat, r9 = (n : Int) := ⟨r9.toNat, by omega⟩
    have CU := Lib.hid hcu9
    have GU := Lib.hid hgr9
    clear hcu9 hgr9
    go_wp2_with fail
    have hL := l5Long_any (1419 + n9) (by omega) u'
    rw [show ((1419 + n9 : Nat) : Int) = 1419 + (n9 : Int) by omega] at hL
    refine hL.mono ?_
    rintro e w4 ⟨x, rfl, hx0, hb8⟩
    have hcu := CU.out.below hb8
    have hgr := grown_tr GU.out (below_any (row := some g) hb8)
    clear hb8 hx0 r90 r91 CU GU hL
    have K4 := Lib.hid (K3.out.grown hgr hrg)
    have F4 := Lib.hid (F3.out.grown hgr hfg)
    have G4 := Lib.hid (grown_tr G3.out hgr)
    have C4 := Lib.hid (hcu)
    clear hcu hgr K3 F3 G3 C3
    obtain ⟨⟨c0, c1, c2, c3, c4, c5, c6, c7, c8, c9, c10, c11, c12⟩, f0, f1, f2, f3, f4, f5, f6, f7, f8, f9, f10, f11, f12⟩ := F4.out.of13
    obtain ⟨⟨d0, d1, d2, d3, d4, d5, d6, d7, d8, d9, d10, d11, d12⟩, e0, e1, e2, e3, e4, e5, e6, e7, e8, e9, e10, e11, e12⟩ := K4.out.of13
    go_wp2_with fail
    refine bodyPost_ret (v := .agg #[.int .i64 p, .int .i64 d, .int .i64 q, .int .i64 a, .int .i64 r, .int .i64 n, .int .i64 m, .int .i64 c, .bool k, .bool t, .int .i64 v, .int .i64 u, .string x]) (by simp [results, Try.results29, go_sem, d0, d1, d2, d3, d4, d5, d6, d7, d8, d9, d10, d11, d12]) rfl ⟨_, _, _, _, _, _, _, _, _, _, _, _, _, rfl, ?_, ?_⟩
    · exact (((((((((((((C4.out.setOther ⟨f, 12, none⟩ (.string x) hBf hfg).setOther _ _ hB hrg).setOther _ _ hB hrg).setOther _ _ hB hrg).setOther _ _ hB hrg).setOther _ _ hB hrg).setOther _ _ hB hrg).setOther _ _ hB hrg).setOther _ _ hB hrg).setOther _ _ hB hrg).setOther _ _ hB hrg).setOther _ _ hB hrg).setOther _ _ hB hrg).setOther _ _ hB hrg
    · exact grown_setNew (grown_setNew (grown_setNew (grown_setNew (grown_setNew (grown_setNew (grown_setNew (grown_setNew (grown_setNew (grown_setNew (grown_setNew (grown_setNew (grown_setNew (grown_setNew G4.out ⟨f, 12, none⟩ (.string x) hfl) _ _ hrl) _ _ hrl) _ _ hrl) _ _ hrl) _ _ hrl) _ _ hrl) _ _ hrl) _ _ hrl) _ _ hrl) _ _ hrl) _ _ hrl) _ _ hrl) _ _ hrl
  · have nq0 : (z == 0) = false := by simp; omega
    have nq1 : (z == 1) = false := by simp; omega
    have nq2 : (z == 2) = false := by simp; omega
    have nq3 : (z == 3) = false := by simp; omega
    have nq4 : (z == 4) = false := by simp; omega
    have nq5 : (z == 5) = false := by simp; omega
    clear hq z1
    obtain ⟨⟨c0, c1, c2, c3, c4, c5, c6, c7, c8, c9, c10, c11, c12⟩, f0, f1, f2, f3, f4, f5, f6, f7, f8, f9, f10, f11, f12⟩ := F3.out.of13
    obtain ⟨⟨d0, d1, d2, d3, d4, d5, d6, d7, d8, d9, d10, d11, d12⟩, e0, e1, e2, e3, e4, e5, e6, e7, e8, e9, e10, e11, e12⟩ := K3.out.of13
    go_wp2_with fail
    refine bodyPost_ret (v := .agg #[.int .i64 p, .int .i64 d, .int .i64 q, .int .i64 a, .int .i64 r, .int .i64 n, .int .i64 m, .int .i64 c, .bool k, .bool t, .int .i64 v, .int .i64 u, .string b]) (by simp [results, Try.results29, go_sem, d0, d1, d2, d3, d4, d5, d6, d7, d8, d9, d10, d11, d12]) rfl ⟨_, _, _, _, _, _, _, _, _, _, _, _, _, rfl, ?_, ?_⟩
    · exact ((((((((((((C3.out.setOther _ _ hB hrg).setOther _ _ hB hrg).setOther _ _ hB hrg).setOther _ _ hB hrg).setOther _ _ hB hrg).setOther _ _ hB hrg).setOther _ _ hB hrg).setOther _ _ hB hrg).setOther _ _ hB hrg).setOther _ _ hB hrg).setOther _ _ hB hrg).setOther _ _ hB hrg).setOther _ _ hB hrg
    · exact grown_setNew (grown_setNew (grown_setNew (grown_setNew (grown_setNew (grown_setNew (grown_setNew (grown_setNew (grown_setNew (grown_setNew (grown_setNew (grown_setNew (grown_setNew G3.out _ _ hrl) _ _ hrl) _ _ hrl) _ _ hrl) _ _ hrl) _ _ hrl) _ _ hrl) _ _ hrl) _ _ hrl) _ _ hrl) _ _ hrl) _ _ hrl) _ _ hrl
end Go.Proofs.Ytlfbcfhekfmkfaa
