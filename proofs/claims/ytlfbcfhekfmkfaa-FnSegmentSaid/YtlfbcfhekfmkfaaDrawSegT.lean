/- The draw DrawSegmentText. -/
import Derived.Test.YtlfbcfhekfmkfaaBent9
import Derived.Test.YtlfbcfhekfmkfaaIp6
import Derived.Test.YtlfbcfhekfmkfaaCurO
import Derived.Deep.RegionWith
namespace Go.Proofs.Ytlfbcfhekfmkfaa
open Go.RowKit Go.Lib

set_option maxRecDepth 100000 in
set_option maxHeartbeats 8000000 in
theorem drawSegmentText (a0 : Option Addr) (bs : List UInt8) (cap : Nat) (w : World) (hrow : Row w w.heap.size a0 (byteCells bs)) (hbs : bs.length ≤ 1048576) :
    Calls Try.prog 11 #[.slice a0 bs.length cap] w fun e w' => ∃ (p d q a r n m c : Int) (k t : Bool) (v u : Int) (b : ByteArray) (x y : Int), e = .returned (.tuple #[.agg #[.int .i64 p, .int .i64 d, .int .i64 q, .int .i64 a, .int .i64 r, .int .i64 n, .int .i64 m, .int .i64 c, .bool k, .bool t, .int .i64 v, .int .i64 u, .string b], .int .i64 x, .int .i64 y]) ∧ (I64 x ∧ I64 y) ∧ Below w.heap.size w w' := by
  have A0 : Below w.heap.size w (w.alloc (.cells #[.int .i64 0, .int .i64 0, .int .i64 0, .int .i64 0, .int .i64 0, .int .i64 0, .int .i64 0, .int .i64 0, .bool false, .bool false, .int .i64 0, .int .i64 0, .string ⟨#[]⟩] 27)) := (Below.refl _ _).alloc (Nat.le_refl _) _
  have C := Lib.hid (l1New_any a0 bs cap _ ((hrow.below A0).mono A0.size) hbs)
  clear hrow A0
  go_enter Try.func11, Try.ntmps11
  go_wp2_with fail
  refine C.out.mono ?_
  rintro e w1 ⟨g, rfl, hc1, hb1⟩
  have hg : w.heap.size + 1 ≤ g := by have := hc1.1; simp at this; omega
  have C1 := Lib.hid hc1
  have K1 := Lib.hid ((Blk.new w [.int .i64 0, .int .i64 0, .int .i64 0, .int .i64 0, .int .i64 0, .int .i64 0, .int .i64 0, .int .i64 0, .bool false, .bool false, .int .i64 0, .int .i64 0, .string ⟨#[]⟩] 27).below hb1)
  have B1 := Lib.hid (((Below.refl w.heap.size w).alloc (Nat.le_refl _) _).trans (hb1.mono (by simp)))
  clear hc1 hb1
  go_wp2_with fail
  refine (l9Bent_any _ g w1 C1.out).mono ?_
  rintro e w2 ⟨p, d, q, a, r, n, m, c, k, t, v, u, b, rfl, hc2, hg2⟩
  have K2 := Lib.hid (K1.out.grown hg2 (by omega))
  have B2 := Lib.hid (B1.out.trans (grown_below hg2 (by omega) B1.out.size))
  have C2 := Lib.hid hc2
  clear hc2 hg2 C1 K1 B1
  go_wp2_with fail
  have hcl := C2.out.lt
  have F2 := Lib.hid (Blk.new w2 [.int .i64 p, .int .i64 d, .int .i64 q, .int .i64 a, .int .i64 r, .int .i64 n, .int .i64 m, .int .i64 c, .bool k, .bool t, .int .i64 v, .int .i64 u, .string b] 27)
  have K3 := Lib.hid (K2.out.alloc (.cells #[.int .i64 p, .int .i64 d, .int .i64 q, .int .i64 a, .int .i64 r, .int .i64 n, .int .i64 m, .int .i64 c, .bool k, .bool t, .int .i64 v, .int .i64 u, .string b] 27))
  have B3 := Lib.hid (B2.out.alloc B2.out.size (.cells #[.int .i64 p, .int .i64 d, .int .i64 q, .int .i64 a, .int .i64 r, .int .i64 n, .int .i64 m, .int .i64 c, .bool k, .bool t, .int .i64 v, .int .i64 u, .string b] 27))
  have C3 := Lib.hid (C2.out.new (.cells #[.int .i64 p, .int .i64 d, .int .i64 q, .int .i64 a, .int .i64 r, .int .i64 n, .int .i64 m, .int .i64 c, .bool k, .bool t, .int .i64 v, .int .i64 u, .string b] 27))
  have hs2 : w.heap.size ≤ w2.heap.size := B2.out.size
  clear K2 B2 C2 C
  generalize w2.alloc (.cells #[.int .i64 p, .int .i64 d, .int .i64 q, .int .i64 a, .int .i64 r, .int .i64 n, .int .i64 m, .int .i64 c, .bool k, .bool t, .int .i64 v, .int .i64 u, .string b] 27) = w3 at F2 K3 B3 C3 ⊢
  generalize w2.heap.size = f at hcl F2 hs2 ⊢
  have hfg : f ≠ g := by omega
  have hrg : w.heap.size ≠ g := by omega
  have hg0 : w.heap.size ≤ g := by omega
  refine (l1Once_any _ g w3 C3.out 10 (by omega) (by omega)).mono ?_
  rintro e w4 ⟨o, rfl, hc4, hg4⟩
  have K4 := Lib.hid (K3.out.grown hg4 hrg).drew
  have F4 := Lib.hid (F2.out.grown hg4 hfg).drew
  have B4 := Lib.hid (B3.out.trans (grown_below hg4 hg0 B3.out.size)).drew
  have C4 := Lib.hid (hc4.draws 1)
  clear hc4 hg4 C3 K3 F2 B3
  obtain ⟨⟨c0, c1, c2, c3, c4, c5, c6, c7, c8, c9, c10, c11, c12⟩, _, _, _, _, _, _, _, _, _, _, _, _, _⟩ := F4.out.of13
  cases o with
  | false =>
    go_wp2_with fail
    go_region_with (first | (go_at_call 32; refine (l6Ip_any _ g _ C4.out).mono ?_; rintro e w5 ⟨x, rfl, hm, hcn, hgn⟩; have F5 := Lib.hid (F4.out.grown hgn hfg); have K5 := Lib.hid (K4.out.grown hgn hrg); have B5 := Lib.hid (B4.out.trans (grown_below hgn hg0 B4.out.size)); have C5 := Lib.hid hcn; have Q5 := Lib.hid hm; clear hcn hgn hm; obtain ⟨⟨c5_0, c5_1, c5_2, c5_3, c5_4, c5_5, c5_6, c5_7, c5_8, c5_9, c5_10, c5_11, c5_12⟩, _⟩ := F5.out.of13; obtain ⟨⟨d5_0, d5_1, d5_2, d5_3, d5_4, d5_5, d5_6, d5_7, d5_8, d5_9, d5_10, d5_11, d5_12⟩, e5_0, e5_1, e5_2, e5_3, e5_4, e5_5, e5_6, e5_7, e5_8, e5_9, e5_10, e5_11, e5_12⟩ := K5.out.of13) | (go_at_call 32; refine (l6Ip_any _ g _ C5.out).mono ?_; rintro e w6 ⟨y, rfl, hm, hcn, hgn⟩; have F6 := Lib.hid (F5.out.grown hgn hfg); have K6 := Lib.hid (K5.out.grown hgn hrg); have B6 := Lib.hid (B5.out.trans (grown_below hgn hg0 B5.out.size)); have C6 := Lib.hid hcn; have Q6 := Lib.hid hm; clear hcn hgn hm; obtain ⟨⟨c6_0, c6_1, c6_2, c6_3, c6_4, c6_5, c6_6, c6_7, c6_8, c6_9, c6_10, c6_11, c6_12⟩, _⟩ := F6.out.of13; obtain ⟨⟨d6_0, d6_1, d6_2, d6_3, d6_4, d6_5, d6_6, d6_7, d6_8, d6_9, d6_10, d6_11, d6_12⟩, e6_0, e6_1, e6_2, e6_3, e6_4, e6_5, e6_6, e6_7, e6_8, e6_9, e6_10, e6_11, e6_12⟩ := K6.out.of13))
    all_goals go_wp2_with fail
    all_goals exact bodyPost_ret (v := .tuple #[.agg #[.int .i64 p, .int .i64 d, .int .i64 q, .int .i64 a, .int .i64 r, .int .i64 n, .int .i64 m, .int .i64 c, .bool k, .bool t, .int .i64 v, .int .i64 u, .string b], .int .i64 x, .int .i64 y]) (by simp [results, Try.results11, go_sem, d6_0, d6_1, d6_2, d6_3, d6_4, d6_5, d6_6, d6_7, d6_8, d6_9, d6_10, d6_11, d6_12]) rfl ⟨_, _, _, _, _, _, _, _, _, _, _, _, _, _, _, rfl, ⟨Q5.out, Q6.out⟩, (((((((((((((B6.out.setCell (Nat.le_refl _) _).setCell (Nat.le_refl _) _).setCell (Nat.le_refl _) _).setCell (Nat.le_refl _) _).setCell (Nat.le_refl _) _).setCell (Nat.le_refl _) _).setCell (Nat.le_refl _) _).setCell (Nat.le_refl _) _).setCell (Nat.le_refl _) _).setCell (Nat.le_refl _) _).setCell (Nat.le_refl _) _).setCell (Nat.le_refl _) _).setCell (Nat.le_refl _) _)⟩
  | true =>
    go_wp2_with fail
    go_region_with (first | (go_at_call 31; refine (l2Word_any _ g _ C4.out).mono ?_; rintro e w5 ⟨x, rfl, hm, hcn, hgn⟩; have F5 := Lib.hid (F4.out.grown hgn hfg); have K5 := Lib.hid (K4.out.grown hgn hrg); have B5 := Lib.hid (B4.out.trans (grown_below hgn hg0 B4.out.size)); have C5 := Lib.hid hcn; have Q5 := Lib.hid hm; clear hcn hgn hm; obtain ⟨⟨c5_0, c5_1, c5_2, c5_3, c5_4, c5_5, c5_6, c5_7, c5_8, c5_9, c5_10, c5_11, c5_12⟩, _⟩ := F5.out.of13; obtain ⟨⟨d5_0, d5_1, d5_2, d5_3, d5_4, d5_5, d5_6, d5_7, d5_8, d5_9, d5_10, d5_11, d5_12⟩, e5_0, e5_1, e5_2, e5_3, e5_4, e5_5, e5_6, e5_7, e5_8, e5_9, e5_10, e5_11, e5_12⟩ := K5.out.of13) | (go_at_call 32; refine (l6Ip_any _ g _ C5.out).mono ?_; rintro e w6 ⟨y, rfl, hm, hcn, hgn⟩; have F6 := Lib.hid (F5.out.grown hgn hfg); have K6 := Lib.hid (K5.out.grown hgn hrg); have B6 := Lib.hid (B5.out.trans (grown_below hgn hg0 B5.out.size)); have C6 := Lib.hid hcn; have Q6 := Lib.hid hm; clear hcn hgn hm; obtain ⟨⟨c6_0, c6_1, c6_2, c6_3, c6_4, c6_5, c6_6, c6_7, c6_8, c6_9, c6_10, c6_11, c6_12⟩, _⟩ := F6.out.of13; obtain ⟨⟨d6_0, d6_1, d6_2, d6_3, d6_4, d6_5, d6_6, d6_7, d6_8, d6_9, d6_10, d6_11, d6_12⟩, e6_0, e6_1, e6_2, e6_3, e6_4, e6_5, e6_6, e6_7, e6_8, e6_9, e6_10, e6_11, e6_12⟩ := K6.out.of13))
    all_goals go_wp2_with fail
    all_goals exact bodyPost_ret (v := .tuple #[.agg #[.int .i64 p, .int .i64 d, .int .i64 q, .int .i64 a, .int .i64 r, .int .i64 n, .int .i64 m, .int .i64 c, .bool k, .bool t, .int .i64 v, .int .i64 u, .string b], .int .i64 x, .int .i64 y]) (by simp [results, Try.results11, go_sem, d6_0, d6_1, d6_2, d6_3, d6_4, d6_5, d6_6, d6_7, d6_8, d6_9, d6_10, d6_11, d6_12]) rfl ⟨_, _, _, _, _, _, _, _, _, _, _, _, _, _, _, rfl, ⟨Q5.out, Q6.out⟩, (((((((((((((B6.out.setCell (Nat.le_refl _) _).setCell (Nat.le_refl _) _).setCell (Nat.le_refl _) _).setCell (Nat.le_refl _) _).setCell (Nat.le_refl _) _).setCell (Nat.le_refl _) _).setCell (Nat.le_refl _) _).setCell (Nat.le_refl _) _).setCell (Nat.le_refl _) _).setCell (Nat.le_refl _) _).setCell (Nat.le_refl _) _).setCell (Nat.le_refl _) _).setCell (Nat.le_refl _) _)⟩
end Go.Proofs.Ytlfbcfhekfmkfaa
