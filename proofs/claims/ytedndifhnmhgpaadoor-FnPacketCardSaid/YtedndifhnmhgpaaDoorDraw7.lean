/- The draws' own l7Packet. -/
import Derived.Test.YtedndifhnmhgpaaDoorIp6
import Derived.Test.YtedndifhnmhgpaaDoorBytesA
import Derived.Test.YtedndifhnmhgpaaDoorLong
import Derived.Test.YtedndifhnmhgpaaDoorDrawWordA
import Derived.Test.YtedndifhnmhgpaaDoorBlk
namespace Go.Proofs.YtedndifhnmhgpaaDoor
open Go.RowKit Go.Lib

def protoCs : Array Value := #[.int .i64 6, .int .i64 6, .int .i64 17, .int .i64 0]
theorem protoCs_bd : ∀ v ∈ protoCs.toList, ∃ x, v = .int .i64 x ∧ I64 x := by
  intro v hv
  simp only [protoCs, List.mem_cons, List.mem_nil_iff, or_false] at hv
  unfold I64
  rcases hv with rfl | rfl | rfl | rfl <;> exact ⟨_, rfl, by decide⟩
theorem pickProto (B g : Nat) (w : World) (hc : CurB w B g) : Calls Tryd.prog 38 #[.pointer (some ⟨g, 0, none⟩), .slice (some ⟨w.heap.size, 0, none⟩) 4 4] (w.alloc (.cells protoCs 3)) (WholeEnd w B g) :=
  pickNew B g w hc protoCs (by decide) (by decide) protoCs_bd
def ttlCs : Array Value := #[.int .i64 0, .int .i64 255, .int .i64 256]
theorem ttlCs_bd : ∀ v ∈ ttlCs.toList, ∃ x, v = .int .i64 x ∧ I64 x := by
  intro v hv
  simp only [ttlCs, List.mem_cons, List.mem_nil_iff, or_false] at hv
  unfold I64
  rcases hv with rfl | rfl | rfl <;> exact ⟨_, rfl, by decide⟩
theorem pickTtl (B g : Nat) (w : World) (hc : CurB w B g) : Calls Tryd.prog 38 #[.pointer (some ⟨g, 0, none⟩), .slice (some ⟨w.heap.size, 0, none⟩) 3 3] (w.alloc (.cells ttlCs 3)) (WholeEnd w B g) :=
  pickNew B g w hc ttlCs (by decide) (by decide) ttlCs_bd
/-- What l7Packet hands back: a packet of some fields; only the cursor has turned. -/
def PkEnd (w : World) (B g : Nat) (e : Ending) (w' : World) : Prop := ∃ (s d t p i : Int) (b : ByteArray), e = .returned (.agg #[.int .i64 s, .int .i64 d, .int .i64 t, .int .i64 p, .int .i64 i, .string b]) ∧ (I64 s ∧ I64 d ∧ I64 t ∧ I64 p ∧ I64 i ∧ b.size ≤ 1600) ∧ CurB w' B g ∧ w.grownBy w' (some g)

set_option maxRecDepth 100000 in
set_option maxHeartbeats 8000000 in
theorem l7Packet_any (B g : Nat) (w : World) (hc : CurB w B g) : Calls Tryd.prog 18 #[.pointer (some ⟨g, 0, none⟩)] w (PkEnd w B g) := by
  have hlt := hc.lt
  have hBg := hc.1
  have C0 := Lib.hid hc
  clear hc
  go_enter Tryd.func18, Tryd.ntmps18
  go_wp2_with fail
  refine (l6Ip_any B g _ (C0.out.new _)).mono ?_
  rintro e w1 ⟨s, rfl, hvs, hcu, hgr⟩
  have Ds := Lib.hid hvs
  have K1 := Lib.hid ((Blk.new w [.int .i64 0, .int .i64 0, .int .i64 0, .int .i64 0, .int .i64 0, .string ⟨#[]⟩] 25).grown hgr (by omega))
  have G1 := Lib.hid (grown_tr (World.grownBy_alloc w _ _) hgr)
  have C1 := Lib.hid hcu
  clear hcu hgr C0 hvs
  go_wp2_with fail
  refine (l6Ip_any B g w1 C1.out).mono ?_
  rintro e w2 ⟨d, rfl, hvd, hcu, hgr⟩
  have Dd := Lib.hid hvd
  have K2 := Lib.hid (K1.out.grown hgr (by omega))
  have G2 := Lib.hid (grown_tr G1.out hgr)
  have C2 := Lib.hid hcu
  clear hcu hgr C1 K1 G1 hvd
  go_wp2_with fail
  refine (l1Below_pos B g w2 C2.out 64 (by omega) (by omega)).mono ?_
  rintro e w3 ⟨r, rfl, hvr, hcu, hgr⟩
  have Dr := Lib.hid hvr
  have K3 := Lib.hid (K2.out.grown hgr (by omega))
  have G3 := Lib.hid (grown_tr G2.out hgr)
  have C3 := Lib.hid hcu
  clear hcu hgr C2 K2 G2
  have ir := hvr.1
  have jr := hvr.2
  clear hvr
  go_wp2_with fail
  refine (pickProto B g w3 C3.out).mono ?_
  rintro e w4 ⟨p, rfl, hvp, hcu, hgr⟩
  have Dp := Lib.hid hvp
  have K4 := Lib.hid (K3.out.grown hgr (by omega))
  have G4 := Lib.hid (grown_tr G3.out hgr)
  have C4 := Lib.hid hcu
  clear hcu hgr C3 K3 G3 hvp
  go_wp2_with fail
  refine (l1Below_pos B g w4 C4.out 65536 (by omega) (by omega)).mono ?_
  rintro e w5 ⟨i, rfl, hvi, hcu, hgr⟩
  have Di := Lib.hid hvi
  have K5 := Lib.hid (K4.out.grown hgr (by omega))
  have G5 := Lib.hid (grown_tr G4.out hgr)
  have C5 := Lib.hid hcu
  clear hcu hgr C4 K4 G4
  have ii := hvi.1
  have ji := hvi.2
  clear hvi
  go_wp2_with fail
  refine (l1Below_pos B g w5 C5.out 8 (by omega) (by omega)).mono ?_
  rintro e w6 ⟨zm, rfl, ⟨im, jm⟩, hcu, hgr⟩
  obtain ⟨m, rfl⟩ : ∃ n : Nat, zm = (n : Int) := ⟨zm.toNat, by omega⟩
  have K6 := Lib.hid (K5.out.grown hgr (by omega))
  have G6 := Lib.hid (grown_tr G5.out hgr)
  have C6 := Lib.hid hcu
  clear hcu hgr C5 K5 G5
  go_wp2_with fail
  refine (l1Bytes_any B g m w6 C6.out (by omega)).mono ?_
  rintro e w7 ⟨ub, lb, rfl, hlb, hob, hcu, hgr⟩
  have hcv := run_string_own (P := Tryd.prog) Tryd.underlying22 Tryd.underlying5 Tryd.underlying9 hob
  obtain ⟨b, hbb⟩ : ∃ b : ByteArray, (⟨lb.toArray⟩ : ByteArray) = b := ⟨_, rfl⟩
  have hvb : b.size ≤ 1600 := by rw [← hbb]; simp [ByteArray.size]; omega
  rw [hbb] at hcv
  have Db := Lib.hid hvb
  have K7 := Lib.hid (K6.out.grown hgr (by omega))
  have G7 := Lib.hid (grown_tr G6.out hgr)
  have C7 := Lib.hid hcu
  clear hcu hgr C6 K6 G6 hvb hlb hob hbb
  go_wp2_with fail
  clear hcv
  have hr0 : w.heap.size < w7.heap.size := K7.out.lt
  have K8 := Lib.hid (K7.out.alloc (.cells #[.int .i64 s, .int .i64 d, .int .i64 (1 + r), .int .i64 p, .int .i64 i, .string b] 25))
  have F8 := Lib.hid (Blk.new w7 [.int .i64 s, .int .i64 d, .int .i64 (1 + r), .int .i64 p, .int .i64 i, .string b] 25)
  have C8 := Lib.hid (C7.out.new (.cells #[.int .i64 s, .int .i64 d, .int .i64 (1 + r), .int .i64 p, .int .i64 i, .string b] 25))
  have G8 := Lib.hid (grown_new G7.out (.cells #[.int .i64 s, .int .i64 d, .int .i64 (1 + r), .int .i64 p, .int .i64 i, .string b] 25))
  have hfg : w7.heap.size ≠ g := Nat.ne_of_gt C7.out.lt
  have hrg : w.heap.size ≠ g := Nat.ne_of_gt hlt
  have hB : B ≤ w.heap.size := by omega
  have hrl : w.heap.size ≤ w.heap.size := Nat.le_refl _
  clear C7 K7 G7
  generalize w7.alloc (.cells #[.int .i64 s, .int .i64 d, .int .i64 (1 + r), .int .i64 p, .int .i64 i, .string b] 25) = w8 at K8 F8 C8 G8 ⊢
  generalize hf : w7.heap.size = f at hr0 F8 hfg ⊢
  have hfl : w.heap.size ≤ f := by omega
  have hBf : B ≤ f := by omega
  clear hf
  refine (l1Below_pos B g w8 C8.out 14 (by omega) (by omega)).mono ?_
  rintro e w9 ⟨q, rfl, ⟨q0, q1⟩, hcu, hgr⟩
  have K9 := Lib.hid (K8.out.grown hgr hrg)
  have F9 := Lib.hid (F8.out.grown hgr hfg)
  have G9 := Lib.hid (grown_tr G8.out hgr)
  have C9 := Lib.hid (hcu)
  clear hcu hgr C8 K8 F8 G8
  have hq : q = 0 ∨ q = 1 ∨ q = 2 ∨ q = 3 ∨ 4 ≤ q := by omega
  clear q0
  rcases hq with rfl | rfl | rfl | rfl | hq
  · go_wp2_with fail
    refine (l2Word_any B g w9 C9.out).mono ?_
    rintro e w10 ⟨x, rfl, hvx, hcu, hgr⟩
    have Dx := Lib.hid hvx
    have K10 := Lib.hid (K9.out.grown hgr hrg)
    have F10 := Lib.hid (F9.out.grown hgr hfg)
    have G10 := Lib.hid (grown_tr G9.out hgr)
    have C10 := Lib.hid (hcu)
    clear hcu hgr C9 K9 F9 G9 hvx
    obtain ⟨⟨d0, d1, d2, d3, d4, d5⟩, e0, e1, e2, e3, e4, e5⟩ := K10.out.of6
    obtain ⟨⟨c0, c1, c2, c3, c4, c5⟩, f0, f1, f2, f3, f4, f5⟩ := F10.out.of6
    have hne : ¬ w.heap.size = f := by omega
    have hne2 : ¬ f = w.heap.size := by omega
    go_wp2_with fail
    refine bodyPost_ret (v := .agg #[.int .i64 x, .int .i64 d, .int .i64 (1 + r), .int .i64 p, .int .i64 i, .string b]) (by simp [results, Tryd.results18, go_sem, d0, d1, d2, d3, d4, d5]) rfl ⟨_, _, _, _, _, _, rfl, ⟨Dx.out, Dd.out, by have := Dr.out; unfold I64; omega, Dp.out, by have := Di.out; unfold I64; omega, Db.out⟩, ?_, ?_⟩
    · exact ((((((C10.out.setOther _ _ hBf hfg).setOther _ _ hB hrg).setOther _ _ hB hrg).setOther _ _ hB hrg).setOther _ _ hB hrg).setOther _ _ hB hrg).setOther _ _ hB hrg
    · exact grown_setNew (grown_setNew (grown_setNew (grown_setNew (grown_setNew (grown_setNew (grown_setNew G10.out _ _ hfl) _ _ hrl) _ _ hrl) _ _ hrl) _ _ hrl) _ _ hrl) _ _ hrl
  · go_wp2_with fail
    refine (pickTtl B g w9 C9.out).mono ?_
    rintro e w10 ⟨x, rfl, hvx, hcu, hgr⟩
    have Dx := Lib.hid hvx
    have K10 := Lib.hid (K9.out.grown hgr hrg)
    have F10 := Lib.hid (F9.out.grown hgr hfg)
    have G10 := Lib.hid (grown_tr G9.out hgr)
    have C10 := Lib.hid (hcu)
    clear hcu hgr C9 K9 F9 G9 hvx
    obtain ⟨⟨d0, d1, d2, d3, d4, d5⟩, e0, e1, e2, e3, e4, e5⟩ := K10.out.of6
    obtain ⟨⟨c0, c1, c2, c3, c4, c5⟩, f0, f1, f2, f3, f4, f5⟩ := F10.out.of6
    have hne : ¬ w.heap.size = f := by omega
    have hne2 : ¬ f = w.heap.size := by omega
    go_wp2_with fail
    refine bodyPost_ret (v := .agg #[.int .i64 s, .int .i64 d, .int .i64 x, .int .i64 p, .int .i64 i, .string b]) (by simp [results, Tryd.results18, go_sem, d0, d1, d2, d3, d4, d5]) rfl ⟨_, _, _, _, _, _, rfl, ⟨Ds.out, Dd.out, Dx.out, Dp.out, by have := Di.out; unfold I64; omega, Db.out⟩, ?_, ?_⟩
    · exact ((((((C10.out.setOther _ _ hBf hfg).setOther _ _ hB hrg).setOther _ _ hB hrg).setOther _ _ hB hrg).setOther _ _ hB hrg).setOther _ _ hB hrg).setOther _ _ hB hrg
    · exact grown_setNew (grown_setNew (grown_setNew (grown_setNew (grown_setNew (grown_setNew (grown_setNew G10.out _ _ hfl) _ _ hrl) _ _ hrl) _ _ hrl) _ _ hrl) _ _ hrl) _ _ hrl
  · go_wp2_with fail
    refine (l1Below_pos B g w9 C9.out 3 (by omega) (by omega)).mono ?_
    rintro e u ⟨r9, rfl, ⟨r90, r91⟩, hcu9, hgr9⟩
    obtain ⟨n9, rfl⟩ : ∃ n : Nat, r9 = (n : Int) := ⟨r9.toNat, by omega⟩
    have CU := Lib.hid hcu9
    have GU := Lib.hid hgr9
    clear hcu9 hgr9
    go_wp2_with fail
    have hL := l5Long_any (1479 + n9) (by omega) u
    rw [show ((1479 + n9 : Nat) : Int) = 1479 + (n9 : Int) by omega] at hL
    refine hL.mono ?_
    rintro e w10 ⟨x, rfl, hx0, hb8⟩
    have hvx : x.size ≤ 1600 := by omega
    have Dx := Lib.hid hvx
    have hcu := CU.out.below hb8
    have hgr := grown_tr GU.out (below_any (row := some g) hb8)
    clear hb8 hx0 r90 r91 CU GU hL
    have K10 := Lib.hid (K9.out.grown hgr hrg)
    have F10 := Lib.hid (F9.out.grown hgr hfg)
    have G10 := Lib.hid (grown_tr G9.out hgr)
    have C10 := Lib.hid (hcu)
    clear hcu hgr C9 K9 F9 G9 hvx
    obtain ⟨⟨d0, d1, d2, d3, d4, d5⟩, e0, e1, e2, e3, e4, e5⟩ := K10.out.of6
    obtain ⟨⟨c0, c1, c2, c3, c4, c5⟩, f0, f1, f2, f3, f4, f5⟩ := F10.out.of6
    have hne : ¬ w.heap.size = f := by omega
    have hne2 : ¬ f = w.heap.size := by omega
    go_wp2_with fail
    refine bodyPost_ret (v := .agg #[.int .i64 s, .int .i64 d, .int .i64 (1 + r), .int .i64 p, .int .i64 i, .string x]) (by simp [results, Tryd.results18, go_sem, d0, d1, d2, d3, d4, d5]) rfl ⟨_, _, _, _, _, _, rfl, ⟨Ds.out, Dd.out, by have := Dr.out; unfold I64; omega, Dp.out, by have := Di.out; unfold I64; omega, Dx.out⟩, ?_, ?_⟩
    · exact ((((((C10.out.setOther _ _ hBf hfg).setOther _ _ hB hrg).setOther _ _ hB hrg).setOther _ _ hB hrg).setOther _ _ hB hrg).setOther _ _ hB hrg).setOther _ _ hB hrg
    · exact grown_setNew (grown_setNew (grown_setNew (grown_setNew (grown_setNew (grown_setNew (grown_setNew G10.out _ _ hfl) _ _ hrl) _ _ hrl) _ _ hrl) _ _ hrl) _ _ hrl) _ _ hrl
  · go_wp2_with fail
    refine (l2Word_any B g w9 C9.out).mono ?_
    rintro e w10 ⟨x, rfl, hvx, hcu, hgr⟩
    have Dx := Lib.hid hvx
    have K10 := Lib.hid (K9.out.grown hgr hrg)
    have F10 := Lib.hid (F9.out.grown hgr hfg)
    have G10 := Lib.hid (grown_tr G9.out hgr)
    have C10 := Lib.hid (hcu)
    clear hcu hgr C9 K9 F9 G9 hvx
    obtain ⟨⟨d0, d1, d2, d3, d4, d5⟩, e0, e1, e2, e3, e4, e5⟩ := K10.out.of6
    obtain ⟨⟨c0, c1, c2, c3, c4, c5⟩, f0, f1, f2, f3, f4, f5⟩ := F10.out.of6
    have hne : ¬ w.heap.size = f := by omega
    have hne2 : ¬ f = w.heap.size := by omega
    go_wp2_with fail
    refine bodyPost_ret (v := .agg #[.int .i64 s, .int .i64 d, .int .i64 (1 + r), .int .i64 p, .int .i64 x, .string b]) (by simp [results, Tryd.results18, go_sem, d0, d1, d2, d3, d4, d5]) rfl ⟨_, _, _, _, _, _, rfl, ⟨Ds.out, Dd.out, by have := Dr.out; unfold I64; omega, Dp.out, Dx.out, Db.out⟩, ?_, ?_⟩
    · exact ((((((C10.out.setOther _ _ hBf hfg).setOther _ _ hB hrg).setOther _ _ hB hrg).setOther _ _ hB hrg).setOther _ _ hB hrg).setOther _ _ hB hrg).setOther _ _ hB hrg
    · exact grown_setNew (grown_setNew (grown_setNew (grown_setNew (grown_setNew (grown_setNew (grown_setNew G10.out _ _ hfl) _ _ hrl) _ _ hrl) _ _ hrl) _ _ hrl) _ _ hrl) _ _ hrl
  · have nq0 : (q == 0) = false := by simp; omega
    have nq1 : (q == 1) = false := by simp; omega
    have nq2 : (q == 2) = false := by simp; omega
    have nq3 : (q == 3) = false := by simp; omega
    clear hq q1
    obtain ⟨⟨d0, d1, d2, d3, d4, d5⟩, e0, e1, e2, e3, e4, e5⟩ := K9.out.of6
    obtain ⟨⟨c0, c1, c2, c3, c4, c5⟩, f0, f1, f2, f3, f4, f5⟩ := F9.out.of6
    have hne : ¬ w.heap.size = f := by omega
    have hne2 : ¬ f = w.heap.size := by omega
    go_wp2_with fail
    refine bodyPost_ret (v := .agg #[.int .i64 s, .int .i64 d, .int .i64 (1 + r), .int .i64 p, .int .i64 i, .string b]) (by simp [results, Tryd.results18, go_sem, d0, d1, d2, d3, d4, d5]) rfl ⟨_, _, _, _, _, _, rfl, ⟨Ds.out, Dd.out, by have := Dr.out; unfold I64; omega, Dp.out, by have := Di.out; unfold I64; omega, Db.out⟩, ?_, ?_⟩
    · exact (((((C9.out.setOther _ _ hB hrg).setOther _ _ hB hrg).setOther _ _ hB hrg).setOther _ _ hB hrg).setOther _ _ hB hrg).setOther _ _ hB hrg
    · exact grown_setNew (grown_setNew (grown_setNew (grown_setNew (grown_setNew (grown_setNew G9.out _ _ hrl) _ _ hrl) _ _ hrl) _ _ hrl) _ _ hrl) _ _ hrl
end Go.Proofs.YtedndifhnmhgpaaDoor
