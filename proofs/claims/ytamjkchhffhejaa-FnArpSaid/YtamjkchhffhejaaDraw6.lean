/- The draws' own l6Ip, l6Arp. -/
import Derived.Test.YtamjkchhffhejaaMac5
import Derived.Test.YtamjkchhffhejaaDrawWordA
import Derived.Test.YtamjkchhffhejaaBlk5
namespace Go.Proofs.Ytamjkchhffhejaa
open Go.RowKit Go.Lib

def ipCs : Array Value := #[.int .i64 167772161, .int .i64 167772162, .int .i64 167772163, .int .i64 0, .int .i64 4294967295]
theorem ipCs_bd : ∀ v ∈ ipCs.toList, ∃ x, v = .int .i64 x ∧ I64 x := by
  intro v hv
  simp only [ipCs, List.mem_cons, List.mem_nil_iff, or_false] at hv
  unfold I64
  rcases hv with rfl | rfl | rfl | rfl | rfl <;> exact ⟨_, rfl, by decide⟩
theorem pickIp (B g : Nat) (w : World) (hc : CurB w B g) : Calls Try.prog 34 #[.pointer (some ⟨g, 0, none⟩), .slice (some ⟨w.heap.size, 0, none⟩) 5 5] (w.alloc (.cells ipCs 3)) (WholeEnd w B g) :=
  pickNew B g w hc ipCs (by decide) (by decide) ipCs_bd

set_option maxRecDepth 100000 in
set_option maxHeartbeats 1000000 in
theorem l6Ip_any (B g : Nat) (w : World) (hc : CurB w B g) : Calls Try.prog 24 #[.pointer (some ⟨g, 0, none⟩)] w (WholeEnd w B g) := by
  have C := Lib.hid (pickIp B g w hc)
  clear hc
  go_enter Try.func24, Try.ntmps24
  go_wp2_with fail
  refine C.out.mono ?_
  rintro e w1 ⟨n, rfl, hn, hc1, hg1⟩
  have N := Lib.hid hn
  have C1 := Lib.hid hc1
  have G1 := Lib.hid hg1
  clear hn hc1 hg1
  go_wp2_with fail
  go_ret
  exact ⟨n, rfl, N.out, C1.out, G1.out⟩

/-- What l6Arp hands back: a message of some fields; only the cursor has turned. -/
def ArpEnd (w : World) (B g : Nat) (e : Ending) (w' : World) : Prop := ∃ (k a b c d : Int), e = .returned (.agg #[.int .i64 k, .int .i64 a, .int .i64 b, .int .i64 c, .int .i64 d]) ∧ (I64 k ∧ I64 a ∧ I64 b ∧ I64 c ∧ I64 d) ∧ CurB w' B g ∧ w.grownBy w' (some g)

set_option maxRecDepth 100000 in
set_option maxHeartbeats 8000000 in
theorem l6Arp_any (B g : Nat) (w : World) (hc : CurB w B g) : Calls Try.prog 21 #[.pointer (some ⟨g, 0, none⟩)] w (ArpEnd w B g) := by
  have hlt := hc.lt
  have hBg := hc.1
  have C0 := Lib.hid hc
  clear hc
  go_enter Try.func21, Try.ntmps21
  go_wp2_with fail
  refine (l1Below_pos B g _ (C0.out.new _) 2 (by omega) (by omega)).mono ?_
  rintro e w1 ⟨r, rfl, hvr, hcu, hgr⟩
  have Dr := Lib.hid hvr
  have K1 := Lib.hid ((Blk.new w [.int .i64 0, .int .i64 0, .int .i64 0, .int .i64 0, .int .i64 0] 25).grown hgr (by omega))
  have G1 := Lib.hid (grown_tr (World.grownBy_alloc w _ _) hgr)
  have C1 := Lib.hid hcu
  clear hcu hgr C0
  have ir := hvr.1
  have jr := hvr.2
  clear hvr
  go_wp2_with fail
  refine (l5Mac_any B g w1 C1.out).mono ?_
  rintro e w2 ⟨a, rfl, hva, hcu, hgr⟩
  have Da := Lib.hid hva
  have K2 := Lib.hid (K1.out.grown hgr (by omega))
  have G2 := Lib.hid (grown_tr G1.out hgr)
  have C2 := Lib.hid hcu
  clear hcu hgr C1 K1 G1 hva
  go_wp2_with fail
  refine (l6Ip_any B g w2 C2.out).mono ?_
  rintro e w3 ⟨b, rfl, hvb, hcu, hgr⟩
  have Db := Lib.hid hvb
  have K3 := Lib.hid (K2.out.grown hgr (by omega))
  have G3 := Lib.hid (grown_tr G2.out hgr)
  have C3 := Lib.hid hcu
  clear hcu hgr C2 K2 G2 hvb
  go_wp2_with fail
  refine (l5Mac_any B g w3 C3.out).mono ?_
  rintro e w4 ⟨c, rfl, hvc, hcu, hgr⟩
  have Dc := Lib.hid hvc
  have K4 := Lib.hid (K3.out.grown hgr (by omega))
  have G4 := Lib.hid (grown_tr G3.out hgr)
  have C4 := Lib.hid hcu
  clear hcu hgr C3 K3 G3 hvc
  go_wp2_with fail
  refine (l6Ip_any B g w4 C4.out).mono ?_
  rintro e w5 ⟨d, rfl, hvd, hcu, hgr⟩
  have Dd := Lib.hid hvd
  have K5 := Lib.hid (K4.out.grown hgr (by omega))
  have G5 := Lib.hid (grown_tr G4.out hgr)
  have C5 := Lib.hid hcu
  clear hcu hgr C4 K4 G4 hvd
  go_wp2_with fail
  have hr0 : w.heap.size < w5.heap.size := K5.out.lt
  have K6 := Lib.hid (K5.out.alloc (.cells #[.int .i64 (1 + r), .int .i64 a, .int .i64 b, .int .i64 c, .int .i64 d] 25))
  have F6 := Lib.hid (Blk.new w5 [.int .i64 (1 + r), .int .i64 a, .int .i64 b, .int .i64 c, .int .i64 d] 25)
  have C6 := Lib.hid (C5.out.new (.cells #[.int .i64 (1 + r), .int .i64 a, .int .i64 b, .int .i64 c, .int .i64 d] 25))
  have G6 := Lib.hid (grown_new G5.out (.cells #[.int .i64 (1 + r), .int .i64 a, .int .i64 b, .int .i64 c, .int .i64 d] 25))
  have hfg : w5.heap.size ≠ g := Nat.ne_of_gt C5.out.lt
  have hrg : w.heap.size ≠ g := Nat.ne_of_gt hlt
  have hB : B ≤ w.heap.size := by omega
  have hrl : w.heap.size ≤ w.heap.size := Nat.le_refl _
  clear C5 K5 G5
  generalize w5.alloc (.cells #[.int .i64 (1 + r), .int .i64 a, .int .i64 b, .int .i64 c, .int .i64 d] 25) = w6 at K6 F6 C6 G6 ⊢
  generalize hf : w5.heap.size = f at hr0 F6 hfg ⊢
  have hfl : w.heap.size ≤ f := by omega
  have hBf : B ≤ f := by omega
  clear hf
  refine (l1Below_pos B g w6 C6.out 14 (by omega) (by omega)).mono ?_
  rintro e w7 ⟨q, rfl, ⟨q0, q1⟩, hcu, hgr⟩
  have K7 := Lib.hid (K6.out.grown hgr hrg)
  have F7 := Lib.hid (F6.out.grown hgr hfg)
  have G7 := Lib.hid (grown_tr G6.out hgr)
  have C7 := Lib.hid (hcu)
  clear hcu hgr C6 K6 F6 G6
  have hq : q = 0 ∨ q = 1 ∨ q = 2 ∨ q = 3 ∨ 4 ≤ q := by omega
  clear q0
  rcases hq with rfl | rfl | rfl | rfl | hq
  · go_wp2_with fail
    refine (l1Below_pos B g w7 C7.out 5 (by omega) (by omega)).mono ?_
    rintro e w8 ⟨x, rfl, hvx, hcu, hgr⟩
    have Dx := Lib.hid hvx
    have K8 := Lib.hid (K7.out.grown hgr hrg)
    have F8 := Lib.hid (F7.out.grown hgr hfg)
    have G8 := Lib.hid (grown_tr G7.out hgr)
    have C8 := Lib.hid (hcu)
    clear hcu hgr C7 K7 F7 G7
    have ix := hvx.1
    have jx := hvx.2
    clear hvx
    obtain ⟨⟨d0, d1, d2, d3, d4⟩, e0, e1, e2, e3, e4⟩ := K8.out.of5
    obtain ⟨⟨c0, c1, c2, c3, c4⟩, f0, f1, f2, f3, f4⟩ := F8.out.of5
    have hne : ¬ w.heap.size = f := by omega
    have hne2 : ¬ f = w.heap.size := by omega
    go_wp2_with fail
    refine bodyPost_ret (v := .agg #[.int .i64 (x - 1), .int .i64 a, .int .i64 b, .int .i64 c, .int .i64 d]) (by simp [results, Try.results21, go_sem, d0, d1, d2, d3, d4]) rfl ⟨_, _, _, _, _, rfl, ⟨by have := Dx.out; unfold I64; omega, Da.out, Db.out, Dc.out, Dd.out⟩, ?_, ?_⟩
    · exact (((((C8.out.setOther _ _ hBf hfg).setOther _ _ hB hrg).setOther _ _ hB hrg).setOther _ _ hB hrg).setOther _ _ hB hrg).setOther _ _ hB hrg
    · exact grown_setNew (grown_setNew (grown_setNew (grown_setNew (grown_setNew (grown_setNew G8.out _ _ hfl) _ _ hrl) _ _ hrl) _ _ hrl) _ _ hrl) _ _ hrl
  · go_wp2_with fail
    refine (l2Word_any B g w7 C7.out).mono ?_
    rintro e w8 ⟨x, rfl, hvx, hcu, hgr⟩
    have Dx := Lib.hid hvx
    have K8 := Lib.hid (K7.out.grown hgr hrg)
    have F8 := Lib.hid (F7.out.grown hgr hfg)
    have G8 := Lib.hid (grown_tr G7.out hgr)
    have C8 := Lib.hid (hcu)
    clear hcu hgr C7 K7 F7 G7 hvx
    obtain ⟨⟨d0, d1, d2, d3, d4⟩, e0, e1, e2, e3, e4⟩ := K8.out.of5
    obtain ⟨⟨c0, c1, c2, c3, c4⟩, f0, f1, f2, f3, f4⟩ := F8.out.of5
    have hne : ¬ w.heap.size = f := by omega
    have hne2 : ¬ f = w.heap.size := by omega
    go_wp2_with fail
    refine bodyPost_ret (v := .agg #[.int .i64 (1 + r), .int .i64 x, .int .i64 b, .int .i64 c, .int .i64 d]) (by simp [results, Try.results21, go_sem, d0, d1, d2, d3, d4]) rfl ⟨_, _, _, _, _, rfl, ⟨by have := Dr.out; unfold I64; omega, Dx.out, Db.out, Dc.out, Dd.out⟩, ?_, ?_⟩
    · exact (((((C8.out.setOther _ _ hBf hfg).setOther _ _ hB hrg).setOther _ _ hB hrg).setOther _ _ hB hrg).setOther _ _ hB hrg).setOther _ _ hB hrg
    · exact grown_setNew (grown_setNew (grown_setNew (grown_setNew (grown_setNew (grown_setNew G8.out _ _ hfl) _ _ hrl) _ _ hrl) _ _ hrl) _ _ hrl) _ _ hrl
  · go_wp2_with fail
    refine (l2Word_any B g w7 C7.out).mono ?_
    rintro e w8 ⟨x, rfl, hvx, hcu, hgr⟩
    have Dx := Lib.hid hvx
    have K8 := Lib.hid (K7.out.grown hgr hrg)
    have F8 := Lib.hid (F7.out.grown hgr hfg)
    have G8 := Lib.hid (grown_tr G7.out hgr)
    have C8 := Lib.hid (hcu)
    clear hcu hgr C7 K7 F7 G7 hvx
    obtain ⟨⟨d0, d1, d2, d3, d4⟩, e0, e1, e2, e3, e4⟩ := K8.out.of5
    obtain ⟨⟨c0, c1, c2, c3, c4⟩, f0, f1, f2, f3, f4⟩ := F8.out.of5
    have hne : ¬ w.heap.size = f := by omega
    have hne2 : ¬ f = w.heap.size := by omega
    go_wp2_with fail
    refine bodyPost_ret (v := .agg #[.int .i64 (1 + r), .int .i64 a, .int .i64 x, .int .i64 c, .int .i64 d]) (by simp [results, Try.results21, go_sem, d0, d1, d2, d3, d4]) rfl ⟨_, _, _, _, _, rfl, ⟨by have := Dr.out; unfold I64; omega, Da.out, Dx.out, Dc.out, Dd.out⟩, ?_, ?_⟩
    · exact (((((C8.out.setOther _ _ hBf hfg).setOther _ _ hB hrg).setOther _ _ hB hrg).setOther _ _ hB hrg).setOther _ _ hB hrg).setOther _ _ hB hrg
    · exact grown_setNew (grown_setNew (grown_setNew (grown_setNew (grown_setNew (grown_setNew G8.out _ _ hfl) _ _ hrl) _ _ hrl) _ _ hrl) _ _ hrl) _ _ hrl
  · go_wp2_with fail
    refine (l2Word_any B g w7 C7.out).mono ?_
    rintro e w8 ⟨x, rfl, hvx, hcu, hgr⟩
    have Dx := Lib.hid hvx
    have K8 := Lib.hid (K7.out.grown hgr hrg)
    have F8 := Lib.hid (F7.out.grown hgr hfg)
    have G8 := Lib.hid (grown_tr G7.out hgr)
    have C8 := Lib.hid (hcu)
    clear hcu hgr C7 K7 F7 G7 hvx
    obtain ⟨⟨d0, d1, d2, d3, d4⟩, e0, e1, e2, e3, e4⟩ := K8.out.of5
    obtain ⟨⟨c0, c1, c2, c3, c4⟩, f0, f1, f2, f3, f4⟩ := F8.out.of5
    have hne : ¬ w.heap.size = f := by omega
    have hne2 : ¬ f = w.heap.size := by omega
    go_wp2_with fail
    refine bodyPost_ret (v := .agg #[.int .i64 (1 + r), .int .i64 a, .int .i64 b, .int .i64 c, .int .i64 x]) (by simp [results, Try.results21, go_sem, d0, d1, d2, d3, d4]) rfl ⟨_, _, _, _, _, rfl, ⟨by have := Dr.out; unfold I64; omega, Da.out, Db.out, Dc.out, Dx.out⟩, ?_, ?_⟩
    · exact (((((C8.out.setOther _ _ hBf hfg).setOther _ _ hB hrg).setOther _ _ hB hrg).setOther _ _ hB hrg).setOther _ _ hB hrg).setOther _ _ hB hrg
    · exact grown_setNew (grown_setNew (grown_setNew (grown_setNew (grown_setNew (grown_setNew G8.out _ _ hfl) _ _ hrl) _ _ hrl) _ _ hrl) _ _ hrl) _ _ hrl
  · have nq0 : (q == 0) = false := by simp; omega
    have nq1 : (q == 1) = false := by simp; omega
    have nq2 : (q == 2) = false := by simp; omega
    have nq3 : (q == 3) = false := by simp; omega
    clear hq q1
    obtain ⟨⟨d0, d1, d2, d3, d4⟩, e0, e1, e2, e3, e4⟩ := K7.out.of5
    obtain ⟨⟨c0, c1, c2, c3, c4⟩, f0, f1, f2, f3, f4⟩ := F7.out.of5
    have hne : ¬ w.heap.size = f := by omega
    have hne2 : ¬ f = w.heap.size := by omega
    go_wp2_with fail
    refine bodyPost_ret (v := .agg #[.int .i64 (1 + r), .int .i64 a, .int .i64 b, .int .i64 c, .int .i64 d]) (by simp [results, Try.results21, go_sem, d0, d1, d2, d3, d4]) rfl ⟨_, _, _, _, _, rfl, ⟨by have := Dr.out; unfold I64; omega, Da.out, Db.out, Dc.out, Dd.out⟩, ?_, ?_⟩
    · exact ((((C7.out.setOther _ _ hB hrg).setOther _ _ hB hrg).setOther _ _ hB hrg).setOther _ _ hB hrg).setOther _ _ hB hrg
    · exact grown_setNew (grown_setNew (grown_setNew (grown_setNew (grown_setNew G7.out _ _ hrl) _ _ hrl) _ _ hrl) _ _ hrl) _ _ hrl
end Go.Proofs.Ytamjkchhffhejaa
