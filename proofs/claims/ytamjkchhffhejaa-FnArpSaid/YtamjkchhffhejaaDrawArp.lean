/- The draw of chapter 6: DrawArpReply. -/
import Derived.Test.YtamjkchhffhejaaDraw6
import Derived.Test.YtamjkchhffhejaaCurO
import Derived.Deep.RegionWith
namespace Go.Proofs.Ytamjkchhffhejaa
open Go.RowKit Go.Lib

set_option maxRecDepth 100000 in
set_option maxHeartbeats 2000000 in
theorem drawArpReply (a : Option Addr) (bs : List UInt8) (cap : Nat) (w : World) (hrow : Row w w.heap.size a (byteCells bs)) (hbs : bs.length ≤ 1048576) :
    Calls Try.prog 9 #[.slice a bs.length cap] w fun e w' => ∃ (k a b c d m ip : Int), e = .returned (.tuple #[.agg #[.int .i64 k, .int .i64 a, .int .i64 b, .int .i64 c, .int .i64 d], .int .i64 m, .int .i64 ip]) ∧ (I64 k ∧ I64 a ∧ I64 b ∧ I64 c ∧ I64 d ∧ I64 m ∧ I64 ip) ∧ Below w.heap.size w w' := by
  have A0 : Below w.heap.size w (w.alloc (.cells #[.int .i64 0, .int .i64 0, .int .i64 0, .int .i64 0, .int .i64 0] 25)) := (Below.refl _ _).alloc (Nat.le_refl _) _
  have C := Lib.hid (l1New_any a bs cap _ ((hrow.below A0).mono A0.size) hbs)
  clear hrow A0
  go_enter Try.func9, Try.ntmps9
  go_wp2_with fail
  refine C.out.mono ?_
  rintro e w1 ⟨g, rfl, hc1, hb1⟩
  have hg : w.heap.size + 1 ≤ g := by have := hc1.1; simp at this; omega
  have C1 := Lib.hid hc1
  have K1 := Lib.hid ((Blk.new w [.int .i64 0, .int .i64 0, .int .i64 0, .int .i64 0, .int .i64 0] 25).below hb1)
  have B1 := Lib.hid (((Below.refl w.heap.size w).alloc (Nat.le_refl _) _).trans (hb1.mono (by simp)))
  clear hc1 hb1
  go_wp2_with fail
  refine (l6Arp_any _ g w1 C1.out).mono ?_
  rintro e w2 ⟨k, a, b, c, d, rfl, hq, hc2, hg2⟩
  have K2 := Lib.hid (K1.out.grown hg2 (by omega))
  have B2 := Lib.hid (B1.out.trans (grown_below hg2 (by omega) B1.out.size))
  have C2 := Lib.hid hc2
  have Q := Lib.hid hq
  clear hq hc2 hg2 C1 K1 B1
  go_wp2_with fail
  have hcl := C2.out.lt
  have F2 := Lib.hid (Blk.new w2 [.int .i64 k, .int .i64 a, .int .i64 b, .int .i64 c, .int .i64 d] 25)
  have K3 := Lib.hid (K2.out.alloc (.cells #[.int .i64 k, .int .i64 a, .int .i64 b, .int .i64 c, .int .i64 d] 25))
  have B3 := Lib.hid (B2.out.alloc B2.out.size (.cells #[.int .i64 k, .int .i64 a, .int .i64 b, .int .i64 c, .int .i64 d] 25))
  have C3 := Lib.hid (C2.out.new (.cells #[.int .i64 k, .int .i64 a, .int .i64 b, .int .i64 c, .int .i64 d] 25))
  have hs2 : w.heap.size ≤ w2.heap.size := B2.out.size
  clear K2 B2 C2
  generalize w2.alloc (.cells #[.int .i64 k, .int .i64 a, .int .i64 b, .int .i64 c, .int .i64 d] 25) = w3 at F2 K3 B3 C3 ⊢
  generalize w2.heap.size = f at hcl F2 hs2 ⊢
  have hfg : f ≠ g := by omega
  have hrg : w.heap.size ≠ g := by omega
  refine (l1Once_any _ g w3 C3.out 2 (by omega) (by omega)).mono ?_
  rintro e w4 ⟨o, rfl, hc4, hg4⟩
  have K4 := Lib.hid (K3.out.grown hg4 hrg)
  have F4 := Lib.hid (F2.out.grown hg4 hfg)
  have B4 := Lib.hid (B3.out.trans (grown_below hg4 (by omega) B3.out.size))
  have C4 := Lib.hid hc4
  clear hc4 hg4 C3 K3 F2 B3
  have F4' := Lib.hid F4.out.drew
  have K4' := Lib.hid K4.out.drew
  have B4' := Lib.hid B4.out.drew
  have C4' := Lib.hid (C4.out.draws 1)
  clear F4 K4 B4 C4
  obtain ⟨⟨c0, c1, c2, c3, c4⟩, _, _, _, _, _⟩ := F4'.out.of5
  cases o with
  | false =>
    go_wp2_with fail
    go_region_with (first | (go_at_call 23; refine (l5Mac_any _ g _ C4'.out).mono ?_; rintro e w5 ⟨m, rfl, hm, hc5, hg5⟩; have F5 := Lib.hid (F4'.out.grown hg5 hfg); have K5 := Lib.hid (K4'.out.grown hg5 hrg); have B5 := Lib.hid (B4'.out.trans (grown_below hg5 (by omega) B4'.out.size)); have C5 := Lib.hid hc5; have Q5 := Lib.hid hm; clear hc5 hg5 hm; obtain ⟨⟨c50, c51, c52, c53, c54⟩, f50, f51, f52, f53, f54⟩ := F5.out.of5; obtain ⟨⟨d50, d51, d52, d53, d54⟩, e50, e51, e52, e53, e54⟩ := K5.out.of5) | (go_at_call 24; refine (l6Ip_any _ g _ C5.out).mono ?_; rintro e w6 ⟨ip, rfl, hip, hc6, hg6⟩; have F6 := Lib.hid (F5.out.grown hg6 hfg); have K6 := Lib.hid (K5.out.grown hg6 hrg); have B6 := Lib.hid (B5.out.trans (grown_below hg6 (by omega) B5.out.size)); have C6 := Lib.hid hc6; have Q6 := Lib.hid hip; clear hc6 hg6 hip; obtain ⟨⟨c60, c61, c62, c63, c64⟩, f60, f61, f62, f63, f64⟩ := F6.out.of5; obtain ⟨⟨d60, d61, d62, d63, d64⟩, e60, e61, e62, e63, e64⟩ := K6.out.of5))
    all_goals go_wp2_with fail
    all_goals exact bodyPost_ret (v := .tuple #[.agg #[.int .i64 k, .int .i64 a, .int .i64 b, .int .i64 c, .int .i64 d], .int .i64 m, .int .i64 ip]) (by simp [results, Try.results9, go_sem, d60, d61, d62, d63, d64]) rfl ⟨_, _, _, _, _, _, _, rfl, ⟨Q.out.1, Q.out.2.1, Q.out.2.2.1, Q.out.2.2.2.1, Q.out.2.2.2.2, Q5.out, Q6.out⟩, (((((B6.out.setCell (Nat.le_refl _) _).setCell (Nat.le_refl _) _).setCell (Nat.le_refl _) _).setCell (Nat.le_refl _) _).setCell (Nat.le_refl _) _)⟩
  | true =>
    go_wp2_with fail
    go_region_with ((go_at_call 23; refine (l5Mac_any _ g _ C4'.out).mono ?_; rintro e w5 ⟨m, rfl, hm, hc5, hg5⟩; have F5 := Lib.hid (F4'.out.grown hg5 hfg); have K5 := Lib.hid (K4'.out.grown hg5 hrg); have B5 := Lib.hid (B4'.out.trans (grown_below hg5 (by omega) B4'.out.size)); have C5 := Lib.hid hc5; have Q5 := Lib.hid hm; clear hc5 hg5 hm; obtain ⟨⟨c50, c51, c52, c53, c54⟩, f50, f51, f52, f53, f54⟩ := F5.out.of5; obtain ⟨⟨d50, d51, d52, d53, d54⟩, e50, e51, e52, e53, e54⟩ := K5.out.of5))
    all_goals go_wp2_with fail
    all_goals exact bodyPost_ret (v := .tuple #[.agg #[.int .i64 k, .int .i64 a, .int .i64 b, .int .i64 c, .int .i64 d], .int .i64 m, .int .i64 d]) (by simp [results, Try.results9, go_sem, d50, d51, d52, d53, d54]) rfl ⟨_, _, _, _, _, _, _, rfl, ⟨Q.out.1, Q.out.2.1, Q.out.2.2.1, Q.out.2.2.2.1, Q.out.2.2.2.2, Q5.out, Q.out.2.2.2.2⟩, (((((B5.out.setCell (Nat.le_refl _) _).setCell (Nat.le_refl _) _).setCell (Nat.le_refl _) _).setCell (Nat.le_refl _) _).setCell (Nat.le_refl _) _)⟩
end Go.Proofs.Ytamjkchhffhejaa
