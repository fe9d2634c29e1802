/- Texts of one proof that belong together, joined. Nothing here is a claim. -/
import Derived.Test.YtobfgkiccmhgdaaDraw13
import Derived.Test.YtobfgkiccmhgdaaPickNew
import Derived.Test.YtobfgkiccmhgdaaCurO
import Derived.Test.YtobfgkiccmhgdaaWhole
import Derived.Test.YtobfgkiccmhgdaaKeysF
import Derived.Test.YtobfgkiccmhgdaaKeysA
import Derived.Test.YtobfgkiccmhgdaaBase
import Derived.Test.YtobfgkiccmhgdaaKit
import Derived.ProofKit
import Derived.OpenShut
import Derived.SliceStrings
namespace Go.Proofs.Ytobfgkiccmhgdaa
open Go.RowKit Go.Lib

/-- Keys and a Mac that were drawn. -/
def RotDraw (w : World) (e : Ending) (w' : World) : Prop :=
  ∃ (x : Int) (p q : M) (t : Bool) (m : M), e = .returned (.tuple #[.agg #[.int .i64 x, .bool p.u, .int .u64 (n64 p.k), .int .u64 (n64 p.l), .slice p.a p.rs.length p.c, .bool q.u, .int .u64 (n64 q.k), .int .u64 (n64 q.l), .slice q.a q.rs.length q.c, .bool t], .agg #[.bool m.u, .int .u64 (n64 m.k), .int .u64 (n64 m.l), .slice m.a m.rs.length m.c]]) ∧ I64 x ∧ (p.On w' ∧ q.On w' ∧ m.On w') ∧ (p.Fit ∧ q.Fit ∧ m.Fit) ∧ Below w.heap.size w w'

set_option maxRecDepth 100000 in
set_option maxHeartbeats 4000000 in
theorem drawRot (a : Option Addr) (bs : List UInt8) (cap : Nat) (w : World) (hrow : Row w w.heap.size a (byteCells bs)) (hbs : bs.length ≤ 1048576) :
    Calls Try.prog 13 #[.slice a bs.length cap] w (RotDraw w) := by
  have HR := Lib.hid hrow
  clear hrow
  go_enter Try.func13, Try.ntmps13
  have B0 := Lib.hid (show Below w.heap.size w ((w.alloc (.cells #[.int .i64 0, .bool false, .int .u64 0, .int .u64 0, .slice none 0 0, .bool false, .int .u64 0, .int .u64 0, .slice none 0 0, .bool false] 29)).alloc (.cells #[.bool false, .int .u64 0, .int .u64 0, .slice none 0 0] 27)) from (((Below.refl _ w).alloc (by simp) _).alloc (by simp) _))
  have KR0 := Lib.hid (show Blk ((w.alloc (.cells #[.int .i64 0, .bool false, .int .u64 0, .int .u64 0, .slice none 0 0, .bool false, .int .u64 0, .int .u64 0, .slice none 0 0, .bool false] 29)).alloc (.cells #[.bool false, .int .u64 0, .int .u64 0, .slice none 0 0] 27)) (w.heap.size) [.int .i64 0, .bool false, .int .u64 0, .int .u64 0, .slice none 0 0, .bool false, .int .u64 0, .int .u64 0, .slice none 0 0, .bool false] from (Blk.new w [.int .i64 0, .bool false, .int .u64 0, .int .u64 0, .slice none 0 0, .bool false, .int .u64 0, .int .u64 0, .slice none 0 0, .bool false] 29).alloc (.cells #[.bool false, .int .u64 0, .int .u64 0, .slice none 0 0] 27))
  have s1 : (w.alloc (.cells #[.int .i64 0, .bool false, .int .u64 0, .int .u64 0, .slice none 0 0, .bool false, .int .u64 0, .int .u64 0, .slice none 0 0, .bool false] 29)).heap.size = w.heap.size + 1 := by simp
  have KQ0 := Lib.hid (show Blk ((w.alloc (.cells #[.int .i64 0, .bool false, .int .u64 0, .int .u64 0, .slice none 0 0, .bool false, .int .u64 0, .int .u64 0, .slice none 0 0, .bool false] 29)).alloc (.cells #[.bool false, .int .u64 0, .int .u64 0, .slice none 0 0] 27)) (w.heap.size + 1) [.bool false, .int .u64 0, .int .u64 0, .slice none 0 0] by have h0 := Blk.new (w.alloc (.cells #[.int .i64 0, .bool false, .int .u64 0, .int .u64 0, .slice none 0 0, .bool false, .int .u64 0, .int .u64 0, .slice none 0 0, .bool false] 29)) [.bool false, .int .u64 0, .int .u64 0, .slice none 0 0] 27; rwa [s1] at h0)
  have n_R_Q : w.heap.size ≠ w.heap.size + 1 := by omega
  clear s1
  go_wp2_with fail
  change Calls _ _ _ ((w.alloc (.cells #[.int .i64 0, .bool false, .int .u64 0, .int .u64 0, .slice none 0 0, .bool false, .int .u64 0, .int .u64 0, .slice none 0 0, .bool false] 29)).alloc (.cells #[.bool false, .int .u64 0, .int .u64 0, .slice none 0 0] 27)) _
  generalize (w.alloc (.cells #[.int .i64 0, .bool false, .int .u64 0, .int .u64 0, .slice none 0 0, .bool false, .int .u64 0, .int .u64 0, .slice none 0 0, .bool false] 29)).alloc (.cells #[.bool false, .int .u64 0, .int .u64 0, .slice none 0 0] 27) = v0 at B0 KR0 KQ0 ⊢
  generalize hh_Q : w.heap.size + 1 = g_Q at KQ0 n_R_Q ⊢
  generalize hh_R : w.heap.size = g_R at KR0 n_R_Q ⊢
  have l_R : w.heap.size ≤ g_R := by omega
  have l_Q : w.heap.size ≤ g_Q := by omega
  clear hh_R hh_Q
  refine (l1New_any a bs cap v0 ((HR.out.below B0.out).mono B0.out.size) hbs).mono ?_
  rintro e v1 ⟨g, rfl, hc, hb⟩
  have hlg : w.heap.size ≤ g := Nat.le_trans B0.out.size hc.1
  have c_R : g_R ≠ g := by have h1 := KR0.out.lt; have h2 := hc.1; omega
  have KR1 := Lib.hid (KR0.out.below hb)
  have c_Q : g_Q ≠ g := by have h1 := KQ0.out.lt; have h2 := hc.1; omega
  have KQ1 := Lib.hid (KQ0.out.below hb)
  have G1 := Lib.hid (below_any (row := some g) (B0.out.trans (hb.mono B0.out.size)))
  have C1 := Lib.hid hc
  clear hc hb B0 KR0 KQ0 HR
  obtain ⟨⟨cR0, cR1, cR2, cR3, cR4, cR5, cR6, cR7, cR8, cR9⟩, dR0, dR1, dR2, dR3, dR4, dR5, dR6, dR7, dR8, dR9⟩ := KR1.out.of10
  obtain ⟨⟨cQ0, cQ1, cQ2, cQ3⟩, dQ0, dQ1, dQ2, dQ3⟩ := KQ1.out.four
  go_wp2_with fail
  clear cR0 cR1 cR2 cR3 cR4 cR5 cR6 cR7 cR8 cR9 dR0 dR1 dR2 dR3 dR4 dR5 dR6 dR7 dR8 dR9 cQ0 cQ1 cQ2 cQ3 dQ0 dQ1 dQ2 dQ3
  refine (l13Bent_any _ g v1 C1.out).mono ?_
  rintro e v2 ⟨x, p, q, t, rfl, hx, hp, hq, hcu, hgr⟩
  have HX := Lib.hid hx
  clear hx
  have KR2 := Lib.hid (KR1.out.grown hgr c_R)
  have KQ2 := Lib.hid (KQ1.out.grown hgr c_Q)
  have Dp2 := Lib.hid (hp)
  have p_p_R : g_R < v1.heap.size ∨ v2.heap.size ≤ g_R := .inl KR1.out.lt
  have p_p_Q : g_Q < v1.heap.size ∨ v2.heap.size ≤ g_Q := .inl KQ1.out.lt
  have Dq2 := Lib.hid (hq)
  have p_q_R : g_R < v1.heap.size ∨ v2.heap.size ≤ g_R := .inl KR1.out.lt
  have p_q_Q : g_Q < v1.heap.size ∨ v2.heap.size ≤ g_Q := .inl KQ1.out.lt
  have G2 := Lib.hid (grown_tr G1.out hgr)
  have C2 := Lib.hid hcu
  clear hcu hgr KR1 KQ1 hp hq G1 C1
  obtain ⟨⟨cR0, cR1, cR2, cR3, cR4, cR5, cR6, cR7, cR8, cR9⟩, dR0, dR1, dR2, dR3, dR4, dR5, dR6, dR7, dR8, dR9⟩ := KR2.out.of10
  obtain ⟨⟨cQ0, cQ1, cQ2, cQ3⟩, dQ0, dQ1, dQ2, dQ3⟩ := KQ2.out.four
  go_wp2_with fail
  clear cR0 cR1 cR2 cR3 cR4 cR5 cR6 cR7 cR8 cR9 dR0 dR1 dR2 dR3 dR4 dR5 dR6 dR7 dR8 dR9 cQ0 cQ1 cQ2 cQ3 dQ0 dQ1 dQ2 dQ3
  refine (l11Mac_any _ g v2 C2.out).mono ?_
  rintro e v3 ⟨u, k, l, a2, c2, rs, rfl, ht, hcu, hgr⟩
  have KR3 := Lib.hid (KR2.out.grown hgr c_R)
  have KQ3 := Lib.hid (KQ2.out.grown hgr c_Q)
  have Dp3 := Lib.hid (Dp2.out.grown hgr)
  have Dq3 := Lib.hid (Dq2.out.grown hgr)
  have Dm3 := Lib.hid (DrawnM.of_tab (u := u) (k := k) (l := l) ht)
  have p_m_R : g_R < v2.heap.size ∨ v3.heap.size ≤ g_R := .inl KR2.out.lt
  have p_m_Q : g_Q < v2.heap.size ∨ v3.heap.size ≤ g_Q := .inl KQ2.out.lt
  have G3 := Lib.hid (grown_tr G2.out hgr)
  have C3 := Lib.hid hcu
  clear hcu hgr KR2 KQ2 Dp2 Dq2 ht G2 C2
  obtain ⟨⟨cR0, cR1, cR2, cR3, cR4, cR5, cR6, cR7, cR8, cR9⟩, dR0, dR1, dR2, dR3, dR4, dR5, dR6, dR7, dR8, dR9⟩ := KR3.out.of10
  obtain ⟨⟨cQ0, cQ1, cQ2, cQ3⟩, dQ0, dQ1, dQ2, dQ3⟩ := KQ3.out.four
  go_wp2_with fail
  exact bodyPost_ret (v := .tuple #[.agg #[.int .i64 x, .bool p.u, .int .u64 (n64 p.k), .int .u64 (n64 p.l), .slice p.a p.rs.length p.c, .bool q.u, .int .u64 (n64 q.k), .int .u64 (n64 q.l), .slice q.a q.rs.length q.c, .bool t], .agg #[.bool u, .int .u64 (n64 k), .int .u64 (n64 l), .slice a2 rs.length c2]]) (by simp [results, Try.results13, go_sem, cR0, cR1, cR2, cR3, cR4, cR5, cR6, cR7, cR8, cR9, cQ0, cQ1, cQ2, cQ3]) rfl ⟨x, p, q, t, ⟨u, k, l, a2, c2, rs⟩, rfl, HX.out, ⟨((((((((((((((Dp3.out.set _ _ p_p_R).set _ _ p_p_R).set _ _ p_p_R).set _ _ p_p_R).set _ _ p_p_R).set _ _ p_p_R).set _ _ p_p_R).set _ _ p_p_R).set _ _ p_p_R).set _ _ p_p_R).set _ _ p_p_Q).set _ _ p_p_Q).set _ _ p_p_Q).set _ _ p_p_Q).on, ((((((((((((((Dq3.out.set _ _ p_q_R).set _ _ p_q_R).set _ _ p_q_R).set _ _ p_q_R).set _ _ p_q_R).set _ _ p_q_R).set _ _ p_q_R).set _ _ p_q_R).set _ _ p_q_R).set _ _ p_q_R).set _ _ p_q_Q).set _ _ p_q_Q).set _ _ p_q_Q).set _ _ p_q_Q).on, ((((((((((((((Dm3.out.set _ _ p_m_R).set _ _ p_m_R).set _ _ p_m_R).set _ _ p_m_R).set _ _ p_m_R).set _ _ p_m_R).set _ _ p_m_R).set _ _ p_m_R).set _ _ p_m_R).set _ _ p_m_R).set _ _ p_m_Q).set _ _ p_m_Q).set _ _ p_m_Q).set _ _ p_m_Q).on⟩, ⟨Dp3.out.fit, Dq3.out.fit, Dm3.out.fit⟩, (((((((((((((((grown_below G3.out hlg (Nat.le_refl _)).setCell l_R _).setCell l_R _).setCell l_R _).setCell l_R _).setCell l_R _).setCell l_R _).setCell l_R _).setCell l_R _).setCell l_R _).setCell l_R _).setCell l_Q _).setCell l_Q _).setCell l_Q _).setCell l_Q _)⟩
end Go.Proofs.Ytobfgkiccmhgdaa
namespace Go.Proofs.Ytobfgkiccmhgdaa
open Go.RowKit Go.Lib

def ipCs : Array Value := #[.int .i64 167772161, .int .i64 167772162, .int .i64 167772163, .int .i64 0, .int .i64 4294967295]
theorem ipCs_bd : ∀ v ∈ ipCs.toList, ∃ x, v = .int .i64 x ∧ I64 x := by
  intro v hv
  simp only [ipCs, List.mem_cons, List.mem_nil_iff, or_false] at hv
  unfold I64
  rcases hv with rfl | rfl | rfl | rfl | rfl <;> exact ⟨_, rfl, by decide⟩
theorem pickIp (B g : Nat) (w : World) (hc : CurB w B g) : Calls Try.prog 49 #[.pointer (some ⟨g, 0, none⟩), .slice (some ⟨w.heap.size, 0, none⟩) 5 5] (w.alloc (.cells ipCs 3)) (WholeEnd w B g) :=
  pickNew B g w hc ipCs (by decide) (by decide) ipCs_bd

set_option maxRecDepth 100000 in
set_option maxHeartbeats 1000000 in
theorem l6Ip_any (B g : Nat) (w : World) (hc : CurB w B g) : Calls Try.prog 95 #[.pointer (some ⟨g, 0, none⟩)] w (WholeEnd w B g) := by
  have C := Lib.hid (pickIp B g w hc)
  clear hc
  go_enter Try.func95, Try.ntmps95
  go_wp2_with fail
  refine C.out.mono ?_
  rintro e w1 ⟨n, rfl, hn, hc1, hg1⟩
  have N := Lib.hid hn
  have C1 := Lib.hid hc1
  have G1 := Lib.hid hg1
  clear hn hc1 hg1
  go_wp2_with fail
  go_ret
  exact ⟨n, rfl, N.out, C1.out, G1.out⟩

end Go.Proofs.Ytobfgkiccmhgdaa
namespace Go.Proofs.Ytobfgkiccmhgdaa
open Go.RowKit Go.Lib

theorem pow256_4 (k : Nat) (h : k ≤ 4) : (256 : Int) ^ k ≤ 4294967296 := by
  have h : k = 0 ∨ k = 1 ∨ k = 2 ∨ k = 3 ∨ k = 4 := by omega
  rcases h with rfl | rfl | rfl | rfl | rfl <;> decide
def deepCs : Array Value := #[.int .i64 0, .int .i64 1, .int .i64 4294967295, .int .i64 2147483647, .int .i64 2147483648, .int .i64 4294967294]
theorem deepCs_bd : ∀ v ∈ deepCs.toList, ∃ x, v = .int .i64 x ∧ I64 x := by
  intro v hv
  simp only [deepCs, List.mem_cons, List.mem_nil_iff, or_false] at hv
  unfold I64
  rcases hv with rfl | rfl | rfl | rfl | rfl | rfl <;> exact ⟨_, rfl, by decide⟩
theorem pickDeep (B g : Nat) (w : World) (hc : CurB w B g) : Calls Try.prog 49 #[.pointer (some ⟨g, 0, none⟩), .slice (some ⟨w.heap.size, 0, none⟩) 6 6] (w.alloc (.cells deepCs 3)) (WholeEnd w B g) :=
  pickNew B g w hc deepCs (by decide) (by decide) deepCs_bd

set_option maxRecDepth 100000 in
set_option maxHeartbeats 1000000 in
theorem l2Deep_any (B g : Nat) (w : World) (hc : CurB w B g) : Calls Try.prog 79 #[.pointer (some ⟨g, 0, none⟩)] w (WholeEnd w B g) := by
  have C := Lib.hid (l1Once_any B g w hc 3 (by omega) (by omega))
  clear hc
  go_enter Try.func79, Try.ntmps79
  go_wp2_with fail
  refine C.out.mono ?_
  rintro e w1 ⟨b, rfl, hc1, hg1⟩
  have C1 := Lib.hid hc1
  have G1 := Lib.hid hg1
  clear hc1 hg1
  cases b with
  | true =>
    go_wp2_with fail
    refine (pickDeep B g w1 C1.out).mono ?_
    rintro e w2 ⟨n, rfl, hn, hc2, hg2⟩
    have N := Lib.hid hn
    have C2 := Lib.hid hc2
    have G2 := Lib.hid (grown_tr G1.out hg2)
    clear hn hc2 hg2
    go_wp2_with fail
    go_ret
    exact ⟨n, rfl, N.out, C2.out, G2.out⟩
  | false =>
    go_wp2_with fail
    go_loopw [3, 4] (fun n i wr => ∃ (k : Nat) (q : Int), k ≤ 4 ∧ i = .int .i64 k ∧ n = .int .i64 q ∧ (0 ≤ q ∧ q < 256 ^ k) ∧ CurB wr B g ∧ w.grownBy wr (some g))
      (fun _ i _ => 4 - (RowKit.intOf i).toNat)
    case atStart => exact ⟨0, 0, Nat.zero_le _, rfl, rfl, ⟨by omega, by decide⟩, C1.out, G1.out⟩
    case round =>
      obtain ⟨k, q, hk, rfl, rfl, ⟨q0, q1⟩, hcur, hgr⟩ := hrel
      have K := Lib.hid hcur
      have G := Lib.hid hgr
      have hq4 : q < 4294967296 := Int.lt_of_lt_of_le q1 (pow256_4 k hk)
      have Q := Lib.hid q1
      clear hcur hgr q1
      by_cases hlt : k < 4
      · go_wp2_with fail
        refine (l1Byte_any B g wr K.out).mono ?_
        rintro e w2 ⟨x, rfl, ⟨x0, x1⟩, hc2, hg2⟩
        have K2 := Lib.hid hc2
        have G2 := Lib.hid (grown_tr G.out hg2)
        clear hc2 hg2
        go_wp2_with fail
        go_roundw
        case rel => exact ⟨k + 1, 256 * q + x, by omega, by go_num, by go_num, ⟨by omega, by have := Q.out; rw [Int.pow_succ]; omega⟩, K2.out, G2.out⟩
        case measure => simp [RowKit.intOf]; omega
      · go_wp2_with fail
        go_ret
        exact ⟨q, rfl, ⟨by omega, by omega⟩, K.out, G.out⟩

end Go.Proofs.Ytobfgkiccmhgdaa
namespace Go.Proofs.Ytobfgkiccmhgdaa
open Go.RowKit Go.Lib

theorem results_four {fn : Func} {t u v x : Tmp} (h : fn.results = #[.tmp t, .tmp u, .tmp v, .tmp x]) (tmps : Array Value) (P : Program) (w : World) :
    (results fn tmps).run P w = .ok (.tuple #[tmps.getD t undef, tmps.getD u undef, tmps.getD v undef, tmps.getD x undef]) w := by
  simp [results, h]

set_option maxHeartbeats 1000000 in
theorem l4Place_any (B g : Nat) (w : World) (hc : CurB w B g) : Calls Try.prog 48 #[.pointer (some ⟨g, 0, none⟩)] w (WholeEnd w B g) := by
  have C := Lib.hid (l1Once_any B g w hc 12 (by omega) (by omega))
  clear hc
  go_enter Try.func48, Try.ntmps48
  go_wp2_with fail
  refine C.out.mono ?_
  rintro e w1 ⟨b, rfl, hc1, hg1⟩
  have C1 := Lib.hid hc1
  have G1 := Lib.hid hg1
  clear hc1 hg1
  cases b with
  | true =>
    go_wp2_with fail
    refine (l1Whole_any B g w1 C1.out).mono ?_
    rintro e w2 ⟨n, rfl, hn, hc2, hg2⟩
    have N := Lib.hid hn
    have C2 := Lib.hid hc2
    have G2 := Lib.hid (grown_tr G1.out hg2)
    clear hn hc2 hg2
    go_wp2_with fail
    go_ret
    exact ⟨n, rfl, N.out, C2.out, G2.out⟩
  | false =>
    go_wp2_with fail
    refine (l2Deep_any B g w1 C1.out).mono ?_
    rintro e w2 ⟨n, rfl, hn, hc2, hg2⟩
    have N := Lib.hid hn
    have C2 := Lib.hid hc2
    have G2 := Lib.hid (grown_tr G1.out hg2)
    clear hn hc2 hg2
    go_wp2_with fail
    go_ret
    exact ⟨n, rfl, N.out, C2.out, G2.out⟩

end Go.Proofs.Ytobfgkiccmhgdaa
namespace Go.Proofs.Ytobfgkiccmhgdaa
open Go.RowKit Go.Lib

/-- The numbers among which l2Word picks. -/
def word2Cs : Array Value := #[.int .i64 0, .int .i64 1, .int .i64 255, .int .i64 256, .int .i64 65535, .int .i64 65536, .int .i64 16777215, .int .i64 4294967295, .int .i64 4294967296, .int .i64 281474976710655, .int .i64 281474976710656]
theorem word2Cs_bd : ∀ v ∈ word2Cs.toList, ∃ x, v = .int .i64 x ∧ I64 x := by
  intro v hv
  simp only [word2Cs, List.mem_cons, List.mem_nil_iff, or_false] at hv
  unfold I64
  rcases hv with rfl | rfl | rfl | rfl | rfl | rfl | rfl | rfl | rfl | rfl | rfl <;> exact ⟨_, rfl, by decide⟩
theorem pickWord2 (B g : Nat) (w : World) (hc : CurB w B g) : Calls Try.prog 49 #[.pointer (some ⟨g, 0, none⟩), .slice (some ⟨w.heap.size, 0, none⟩) 11 11] (w.alloc (.cells word2Cs 3)) (WholeEnd w B g) :=
  pickNew B g w hc word2Cs (by decide) (by decide) word2Cs_bd

set_option maxRecDepth 100000 in
set_option maxHeartbeats 1000000 in
theorem l2Word_any (B g : Nat) (w : World) (hc : CurB w B g) : Calls Try.prog 77 #[.pointer (some ⟨g, 0, none⟩)] w (WholeEnd w B g) := by
  have C := Lib.hid (l1Below_pos B g w hc 3 (by omega) (by omega))
  clear hc
  go_enter Try.func77, Try.ntmps77
  go_wp2_with fail
  refine C.out.mono ?_
  rintro e w1 ⟨r, rfl, ⟨r0, r1⟩, hc1, hg1⟩
  have C1 := Lib.hid hc1
  have G1 := Lib.hid hg1
  clear hc1 hg1
  have hr : r = 0 ∨ r = 1 ∨ r = 2 := by omega
  rcases hr with rfl | rfl | rfl
  · go_wp2_with fail
    refine (l1Whole_any B g w1 C1.out).mono ?_
    rintro e w2 ⟨n, rfl, hn, hc2, hg2⟩
    have N := Lib.hid hn
    have C2 := Lib.hid hc2
    have G2 := Lib.hid (grown_tr G1.out hg2)
    clear hn hc2 hg2
    go_wp2_with fail
    go_ret
    exact ⟨n, rfl, N.out, C2.out, G2.out⟩
  · go_wp2_with fail
    refine (pickWord2 B g w1 C1.out).mono ?_
    rintro e w2 ⟨n, rfl, hn, hc2, hg2⟩
    have N := Lib.hid hn
    have C2 := Lib.hid hc2
    have G2 := Lib.hid (grown_tr G1.out hg2)
    clear hn hc2 hg2
    go_wp2_with fail
    go_ret
    exact ⟨n, rfl, N.out, C2.out, G2.out⟩
  · go_wp2_with fail
    refine (l1Below_pos B g w1 C1.out 65536 (by omega) (by omega)).mono ?_
    rintro e w2 ⟨n, rfl, ⟨n0, n1⟩, hc2, hg2⟩
    have C2 := Lib.hid hc2
    have G2 := Lib.hid (grown_tr G1.out hg2)
    clear hc2 hg2
    go_wp2_with fail
    go_ret
    exact ⟨_, rfl, ⟨by omega, by omega⟩, C2.out, G2.out⟩
end Go.Proofs.Ytobfgkiccmhgdaa
namespace Go.Proofs.Ytobfgkiccmhgdaa
open Go.RowKit Go.Lib

theorem Blk.of3 {w : World} {g : Nat} {v0 v1 v2 : Value} (h : Blk w g [v0, v1, v2]) : (w.cell? ⟨g, 0, none⟩ = some v0 ∧ w.cell? ⟨g, 1, none⟩ = some v1 ∧ w.cell? ⟨g, 2, none⟩ = some v2) ∧ w.frozen? ⟨g, 0, none⟩ = false ∧ w.frozen? ⟨g, 1, none⟩ = false ∧ w.frozen? ⟨g, 2, none⟩ = false :=
  ⟨⟨h.cell 0 _ rfl, h.cell 1 _ rfl, h.cell 2 _ rfl⟩, h.open 0, h.open 1, h.open 2⟩
def portCs : Array Value := #[.int .i64 40000, .int .i64 40001, .int .i64 40002]
theorem portCs_bd : ∀ v ∈ portCs.toList, ∃ x, v = .int .i64 x ∧ I64 x := by
  intro v hv
  simp only [portCs, List.mem_cons, List.mem_nil_iff, or_false] at hv
  unfold I64
  rcases hv with rfl | rfl | rfl <;> exact ⟨_, rfl, by decide⟩
theorem pickPort (B g : Nat) (w : World) (hc : CurB w B g) : Calls Try.prog 49 #[.pointer (some ⟨g, 0, none⟩), .slice (some ⟨w.heap.size, 0, none⟩) 3 3] (w.alloc (.cells portCs 3)) (WholeEnd w B g) :=
  pickNew B g w hc portCs (by decide) (by decide) portCs_bd
def numCs : Array Value := #[.int .i64 0, .int .i64 1, .int .i64 31, .int .i64 32, .int .i64 4294967295, .int .i64 4294967296, .int .i64 (-1)]
theorem numCs_bd : ∀ v ∈ numCs.toList, ∃ x, v = .int .i64 x ∧ I64 x := by
  intro v hv
  simp only [numCs, List.mem_cons, List.mem_nil_iff, or_false] at hv
  unfold I64
  rcases hv with rfl | rfl | rfl | rfl | rfl | rfl | rfl <;> exact ⟨_, rfl, by decide⟩
theorem pickNum (B g : Nat) (w : World) (hc : CurB w B g) : Calls Try.prog 49 #[.pointer (some ⟨g, 0, none⟩), .slice (some ⟨w.heap.size, 0, none⟩) 7 7] (w.alloc (.cells numCs 3)) (WholeEnd w B g) :=
  pickNew B g w hc numCs (by decide) (by decide) numCs_bd
/-- What l12Tuple and l12Bent hand back: a Tuple; only the cursor has turned. -/
def TupEnd (w : World) (B g : Nat) (e : Ending) (w' : World) : Prop := ∃ (p q r : Int), e = .returned (.agg #[.int .i64 p, .int .i64 q, .int .i64 r]) ∧ (I64 p ∧ I64 q ∧ I64 r) ∧ CurB w' B g ∧ w.grownBy w' (some g)

set_option maxRecDepth 100000 in
set_option maxHeartbeats 2000000 in
theorem l12Tuple_any (B g : Nat) (w : World) (hc : CurB w B g) : Calls Try.prog 76 #[.pointer (some ⟨g, 0, none⟩)] w (TupEnd w B g) := by
  have hlt := hc.lt
  have hBg := hc.1
  have P0 := Lib.hid (l6Ip_any B g (w.alloc (.cells #[.int .i64 0, .int .i64 0, .int .i64 0] 33)) (hc.new _))
  clear hc
  go_enter Try.func76, Try.ntmps76
  go_wp2_with fail
  refine P0.out.mono ?_
  rintro e w1 ⟨p, rfl, hp, hcu, hgr⟩
  have K1 := Lib.hid ((Blk.new w [.int .i64 0, .int .i64 0, .int .i64 0] 33).grown hgr (by omega))
  have G1 := Lib.hid (grown_tr (World.grownBy_alloc w (.cells #[.int .i64 0, .int .i64 0, .int .i64 0] 33) (some g)) hgr)
  have C1 := Lib.hid hcu
  have P := Lib.hid hp
  clear hcu hgr hp P0
  go_wp2_with fail
  refine (pickPort B g w1 C1.out).mono ?_
  rintro e w2 ⟨q, rfl, hq, hcu, hgr⟩
  have K2 := Lib.hid (K1.out.grown hgr (by omega))
  have G2 := Lib.hid (grown_tr G1.out hgr)
  have C2 := Lib.hid hcu
  have Q := Lib.hid hq
  clear hcu hgr hq K1 G1 C1
  have hrg : w.heap.size ≠ g := Nat.ne_of_gt hlt
  have hB : B ≤ w.heap.size := by omega
  have hrl : w.heap.size ≤ w.heap.size := Nat.le_refl _
  obtain ⟨⟨d0, d1, d2⟩, e0, e1, e2⟩ := K2.out.of3
  go_wp2_with fail
  refine bodyPost_ret (v := .agg #[.int .i64 p, .int .i64 q, .int .i64 80]) (by simp [results, Try.results76, go_sem, d0, d1, d2]) rfl ⟨_, _, _, rfl, ⟨P.out, Q.out, by unfold I64; omega⟩, ?_, ?_⟩
  · exact ((C2.out.setOther _ _ hB hrg).setOther _ _ hB hrg).setOther _ _ hB hrg
  · exact grown_setNew (grown_setNew (grown_setNew G2.out _ _ hrl) _ _ hrl) _ _ hrl

set_option maxRecDepth 100000 in
set_option maxHeartbeats 4000000 in
theorem l12Bent_any (B g : Nat) (w : World) (hc : CurB w B g) : Calls Try.prog 47 #[.pointer (some ⟨g, 0, none⟩)] w (TupEnd w B g) := by
  have hlt := hc.lt
  have hBg := hc.1
  have C0 := Lib.hid hc
  clear hc
  go_enter Try.func47, Try.ntmps47
  go_wp2_with fail
  refine (l12Tuple_any B g _ (C0.out.new (.cells #[.int .i64 0, .int .i64 0, .int .i64 0] 33))).mono ?_
  rintro e w1 ⟨p, q, r, rfl, hbd, hcu, hgr⟩
  have BD := Lib.hid hbd
  have K1 := Lib.hid ((Blk.new w [.int .i64 0, .int .i64 0, .int .i64 0] 33).grown hgr (by omega))
  have C1 := Lib.hid hcu
  have G1 := Lib.hid (grown_tr (World.grownBy_alloc w (.cells #[.int .i64 0, .int .i64 0, .int .i64 0] 33) (some g)) hgr)
  clear hcu hgr C0 hbd
  go_wp2_with fail
  have hr0 : w.heap.size < w1.heap.size := K1.out.lt
  have hgf : g < w1.heap.size := C1.out.lt
  have K2 := Lib.hid (K1.out.alloc (.cells #[.int .i64 p, .int .i64 q, .int .i64 r] 33))
  have F2 := Lib.hid (Blk.new w1 [.int .i64 p, .int .i64 q, .int .i64 r] 33)
  have C2 := Lib.hid (C1.out.new (.cells #[.int .i64 p, .int .i64 q, .int .i64 r] 33))
  have G2 := Lib.hid (grown_new G1.out (.cells #[.int .i64 p, .int .i64 q, .int .i64 r] 33))
  clear K1 C1 G1
  generalize w1.alloc (.cells #[.int .i64 p, .int .i64 q, .int .i64 r] 33) = w2 at K2 F2 C2 G2 ⊢
  generalize hf : w1.heap.size = f at hr0 F2 hgf ⊢
  clear hf
  have hfg : f ≠ g := Nat.ne_of_gt hgf
  have hrg : w.heap.size ≠ g := Nat.ne_of_gt hlt
  have hwf : w.heap.size ≠ f := Nat.ne_of_lt hr0
  have hwf2 : ¬ f = w.heap.size := fun e => hwf e.symm
  have hfl : w.heap.size ≤ f := Nat.le_of_lt hr0
  have hBf : B ≤ f := by omega
  have hB : B ≤ w.heap.size := by omega
  have hrl : w.heap.size ≤ w.heap.size := Nat.le_refl _
  refine (l1Below_pos B g w2 C2.out 10 (by omega) (by omega)).mono ?_
  rintro e w3 ⟨z, rfl, ⟨z0, z1⟩, hcu, hgr⟩
  have K3 := Lib.hid (K2.out.grown hgr hrg)
  have F3 := Lib.hid (F2.out.grown hgr hfg)
  have G3 := Lib.hid (grown_tr G2.out hgr)
  have C3 := Lib.hid (hcu)
  clear hcu hgr K2 F2 G2 C2
  have hq : z = 0 ∨ z = 1 ∨ z = 2 ∨ 3 ≤ z := by omega
  clear z0
  rcases hq with rfl | rfl | rfl | hq
  · go_wp2_with fail
    refine (l2Word_any B g w3 C3.out).mono ?_
    rintro e w4 ⟨x, rfl, hx, hcu, hgr⟩
    have X := Lib.hid hx
    have K4 := Lib.hid (K3.out.grown hgr hrg)
    have F4 := Lib.hid (F3.out.grown hgr hfg)
    have G4 := Lib.hid (grown_tr G3.out hgr)
    have C4 := Lib.hid (hcu)
    clear hcu hgr hx K3 F3 G3 C3
    obtain ⟨⟨c0, c1, c2⟩, f0, f1, f2⟩ := F4.out.of3
    obtain ⟨⟨d0, d1, d2⟩, e0, e1, e2⟩ := K4.out.of3
    go_wp2_with fail
    refine bodyPost_ret (v := .agg #[.int .i64 x, .int .i64 q, .int .i64 r]) (by simp [results, Try.results47, go_sem, d0, d1, d2]) rfl ⟨_, _, _, rfl, ⟨X.out, BD.out.2.1, BD.out.2.2⟩, ?_, ?_⟩
    · exact (((C4.out.setOther ⟨f, 0, none⟩ (.int .i64 x) hBf hfg).setOther _ _ hB hrg).setOther _ _ hB hrg).setOther _ _ hB hrg
    · exact grown_setNew (grown_setNew (grown_setNew (grown_setNew G4.out ⟨f, 0, none⟩ (.int .i64 x) hfl) _ _ hrl) _ _ hrl) _ _ hrl
  · go_wp2_with fail
    refine (l2Word_any B g w3 C3.out).mono ?_
    rintro e w4 ⟨x, rfl, hx, hcu, hgr⟩
    have X := Lib.hid hx
    have K4 := Lib.hid (K3.out.grown hgr hrg)
    have F4 := Lib.hid (F3.out.grown hgr hfg)
    have G4 := Lib.hid (grown_tr G3.out hgr)
    have C4 := Lib.hid (hcu)
    clear hcu hgr hx K3 F3 G3 C3
    obtain ⟨⟨c0, c1, c2⟩, f0, f1, f2⟩ := F4.out.of3
    obtain ⟨⟨d0, d1, d2⟩, e0, e1, e2⟩ := K4.out.of3
    go_wp2_with fail
    refine bodyPost_ret (v := .agg #[.int .i64 p, .int .i64 x, .int .i64 r]) (by simp [results, Try.results47, go_sem, d0, d1, d2]) rfl ⟨_, _, _, rfl, ⟨BD.out.1, X.out, BD.out.2.2⟩, ?_, ?_⟩
    · exact (((C4.out.setOther ⟨f, 1, none⟩ (.int .i64 x) hBf hfg).setOther _ _ hB hrg).setOther _ _ hB hrg).setOther _ _ hB hrg
    · exact grown_setNew (grown_setNew (grown_setNew (grown_setNew G4.out ⟨f, 1, none⟩ (.int .i64 x) hfl) _ _ hrl) _ _ hrl) _ _ hrl
  · go_wp2_with fail
    refine (l2Word_any B g w3 C3.out).mono ?_
    rintro e w4 ⟨x, rfl, hx, hcu, hgr⟩
    have X := Lib.hid hx
    have K4 := Lib.hid (K3.out.grown hgr hrg)
    have F4 := Lib.hid (F3.out.grown hgr hfg)
    have G4 := Lib.hid (grown_tr G3.out hgr)
    have C4 := Lib.hid (hcu)
    clear hcu hgr hx K3 F3 G3 C3
    obtain ⟨⟨c0, c1, c2⟩, f0, f1, f2⟩ := F4.out.of3
    obtain ⟨⟨d0, d1, d2⟩, e0, e1, e2⟩ := K4.out.of3
    go_wp2_with fail
    refine bodyPost_ret (v := .agg #[.int .i64 p, .int .i64 q, .int .i64 x]) (by simp [results, Try.results47, go_sem, d0, d1, d2]) rfl ⟨_, _, _, rfl, ⟨BD.out.1, BD.out.2.1, X.out⟩, ?_, ?_⟩
    · exact (((C4.out.setOther ⟨f, 2, none⟩ (.int .i64 x) hBf hfg).setOther _ _ hB hrg).setOther _ _ hB hrg).setOther _ _ hB hrg
    · exact grown_setNew (grown_setNew (grown_setNew (grown_setNew G4.out ⟨f, 2, none⟩ (.int .i64 x) hfl) _ _ hrl) _ _ hrl) _ _ hrl
  · have nq0 : (z == 0) = false := by simp; omega
    have nq1 : (z == 1) = false := by simp; omega
    have nq2 : (z == 2) = false := by simp; omega
    clear hq z1
    obtain ⟨⟨c0, c1, c2⟩, f0, f1, f2⟩ := F3.out.of3
    obtain ⟨⟨d0, d1, d2⟩, e0, e1, e2⟩ := K3.out.of3
    go_wp2_with fail
    refine bodyPost_ret (v := .agg #[.int .i64 p, .int .i64 q, .int .i64 r]) (by simp [results, Try.results47, go_sem, d0, d1, d2]) rfl ⟨_, _, _, rfl, BD.out, ?_, ?_⟩
    · exact ((C3.out.setOther _ _ hB hrg).setOther _ _ hB hrg).setOther _ _ hB hrg
    · exact grown_setNew (grown_setNew (grown_setNew G3.out _ _ hrl) _ _ hrl) _ _ hrl

end Go.Proofs.Ytobfgkiccmhgdaa
namespace Go.Proofs.Ytobfgkiccmhgdaa
open Go.RowKit Go.Lib

set_option maxRecDepth 100000 in
set_option maxHeartbeats 2000000 in
theorem drawMacInput (a : Option Addr) (bs : List UInt8) (cap : Nat) (w : World) (hrow : Row w w.heap.size a (byteCells bs)) (hbs : bs.length ≤ 1048576) :
    Calls Try.prog 14 #[.slice a bs.length cap] w fun e w' => ∃ (p q r s t i : Int), e = .returned (.tuple #[.agg #[.int .i64 p, .int .i64 q, .int .i64 r], .int .i64 s, .int .i64 t, .int .i64 i]) ∧ (I64 p ∧ I64 q ∧ I64 r ∧ I64 s ∧ I64 t ∧ I64 i) ∧ Below w.heap.size w w' := by
  have A0 : Below w.heap.size w (w.alloc (.cells #[.int .i64 0, .int .i64 0, .int .i64 0] 33)) := (Below.refl _ _).alloc (Nat.le_refl _) _
  have C := Lib.hid (l1New_any a bs cap _ ((hrow.below A0).mono A0.size) hbs)
  clear hrow A0
  go_enter Try.func14, Try.ntmps14
  go_wp2_with fail
  refine C.out.mono ?_
  rintro e w1 ⟨g, rfl, hc1, hb1⟩
  have hg : w.heap.size + 1 ≤ g := by have := hc1.1; simp at this; omega
  have C1 := Lib.hid hc1
  have K1 := Lib.hid ((Blk.new w [.int .i64 0, .int .i64 0, .int .i64 0] 33).below hb1)
  have B1 := Lib.hid (((Below.refl w.heap.size w).alloc (Nat.le_refl _) _).trans (hb1.mono (by simp)))
  clear hc1 hb1
  go_wp2_with fail
  refine (l12Bent_any _ g w1 C1.out).mono ?_
  rintro e w2 ⟨p, q, r, rfl, hq, hcu, hgr⟩
  have K2 := Lib.hid (K1.out.grown hgr (by omega))
  have B2 := Lib.hid (B1.out.trans (grown_below hgr (by omega) B1.out.size))
  have C2 := Lib.hid hcu
  have Q := Lib.hid hq
  clear hcu hgr hq C1 K1 B1
  go_wp2_with fail
  refine (l4Place_any _ g w2 C2.out).mono ?_
  rintro e w3 ⟨s, rfl, hq, hcu, hgr⟩
  have K3 := Lib.hid (K2.out.grown hgr (by omega))
  have B3 := Lib.hid (B2.out.trans (grown_below hgr (by omega) B2.out.size))
  have C3 := Lib.hid hcu
  have S := Lib.hid hq
  clear hcu hgr hq C2 K2 B2
  go_wp2_with fail
  refine (pickNum _ g w3 C3.out).mono ?_
  rintro e w4 ⟨t, rfl, hq, hcu, hgr⟩
  have K4 := Lib.hid (K3.out.grown hgr (by omega))
  have B4 := Lib.hid (B3.out.trans (grown_below hgr (by omega) B3.out.size))
  have C4 := Lib.hid hcu
  have T := Lib.hid hq
  clear hcu hgr hq C3 K3 B3
  go_wp2_with fail
  refine (l1Below_pos _ g w4 C4.out 10 (by omega) (by omega)).mono ?_
  rintro e w5 ⟨i, rfl, ⟨i0, i1⟩, hcu, hgr⟩
  have K5 := Lib.hid (K4.out.grown hgr (by omega))
  have B5 := Lib.hid (B4.out.trans (grown_below hgr (by omega) B4.out.size))
  have C5 := Lib.hid hcu
  clear hcu hgr  C4 K4 B4
  have hwi : wrap64 (i - 1) = i - 1 := by unfold wrap64; omega
  have I5 := Lib.hid (And.intro i0 i1)
  clear i0 i1
  obtain ⟨⟨d0, d1, d2⟩, e0, e1, e2⟩ := K5.out.of3
  go_wp2_with fail
  exact bodyPost_ret (v := .tuple #[.agg #[.int .i64 p, .int .i64 q, .int .i64 r], .int .i64 s, .int .i64 t, .int .i64 (i - 1)]) (by simp [results, Try.results14, go_sem, d0, d1, d2, hwi]) rfl ⟨_, _, _, _, _, _, rfl, ⟨Q.out.1, Q.out.2.1, Q.out.2.2, S.out, T.out, by unfold I64; have := I5.out; omega⟩, ((B5.out.setCell (Nat.le_refl _) _).setCell (Nat.le_refl _) _).setCell (Nat.le_refl _) _⟩
end Go.Proofs.Ytobfgkiccmhgdaa
namespace Go.Proofs.Ytobfgkiccmhgdaa
open Go.RowKit Go.Lib

theorem cookie_word {m : M} {x y z s e i : Int} (h : macArg x y z s e i = true) : wordOk (cookieOf m x y z s e i) 32 = true ∧ cpI (cookieOf m x y z s e i) = i ∧ cookieOf m x y z s e i / 134217728 = e % 32 := by
  obtain ⟨⟨h0, h1⟩, h2, h3⟩ := macArg_bd h
  obtain ⟨b0, b1⟩ := M.of_bd m (macIn x y z s e i)
  rw [cookieOf_yes h]
  generalize m.of (macIn x y z s e i) = a at b0 b1 ⊢
  have hw : wordOk (e % 32 * 134217728 + i * 16777216 + a) 32 = true := (word32_iff _).2 (by omega)
  refine ⟨hw, ?_, by omega⟩
  rw [(cp_yes hw).2.1]
  omega
theorem macArg_at {x y z s e e' i : Int} (h : macArg x y z s e i = true) (he : wordOk e' 32 = true) : macArg x y z s e' i = true := by
  unfold macArg at h ⊢
  simp only [Bool.and_eq_true] at h ⊢
  exact ⟨h.1, h.2.1, he, h.2.2.2⟩
theorem ck_now {e : Int} {p q : M} {t : Bool} {x y z s i : Int} (hk : keysOk e p q t = true) (h : macArg x y z s e i = true) : ck e p q t x y z s (cookieOf p x y z s e i) = (e, i, true) := by
  obtain ⟨hw, hi, _⟩ := cookie_word (m := p) h
  unfold ck
  rw [hk, hw, hi]
  exact ckR_one rfl
theorem keysOk_next {e : Int} {p q m : M} {t : Bool} (hk : keysOk e p q t = true) (hm : m.ok = true) (he : (e == 4294967295) = false) : keysOk (e + 1) m p true = true := by
  obtain ⟨⟨h0, h1⟩, h2, _⟩ := keysOk_all hk
  have he' : e ≠ 4294967295 := by simpa using he
  unfold keysOk
  rw [hm, h2, (word32_iff (e + 1)).2 (by omega)]
  simp
  omega
theorem ck_next {e : Int} {p q m : M} {t : Bool} {x y z s i : Int} (hk : keysOk e p q t = true) (hm : m.ok = true) (he : (e == 4294967295) = false) (h : macArg x y z s e i = true) : ck (e + 1) m p true x y z s (cookieOf p x y z s e i) = (e, i, true) := by
  obtain ⟨hw, hi, hd⟩ := cookie_word (m := p) h
  obtain ⟨⟨h0, h1⟩, _⟩ := keysOk_all hk
  have he' : e ≠ 4294967295 := by simpa using he
  have hw1 : wordOk (e + 1) 32 = true := (word32_iff (e + 1)).2 (by omega)
  obtain ⟨_, _, hd1⟩ := cookie_word (m := m) (macArg_at h hw1)
  unfold ck
  rw [keysOk_next hk hm he, hw, hi]
  have e1 : e + 1 - 1 = e := by omega
  rw [e1]
  have hne : (cookieOf m x y z s (e + 1) i == cookieOf p x y z s e i) = false := by
    rw [beq_eq_false_iff_ne]
    intro hc
    rw [hc] at hd1
    omega
  rw [Bool.and_self, if_pos rfl, ckR_two hne rfl, e1]
theorem M.same_self (m : M) : m.same m = true := by unfold M.same sameM sameR; simp
theorem sameR_refl (rs : List MR) : sameR rs rs = true := by unfold sameR; simp
end Go.Proofs.Ytobfgkiccmhgdaa
namespace Go.Proofs.Ytobfgkiccmhgdaa
open Go.RowKit Go.Lib

/-- Whether two keys are the same. -/
noncomputable def sameK (e1 e2 : Int) (p1 q1 p2 q2 : M) (t1 t2 : Bool) : Bool := (e1 == e2) && ((t1 == t2) && (p1.same p2 && q1.same q2))

set_option maxRecDepth 100000 in
set_option maxHeartbeats 4000000 in
theorem sameKeysI (e1 e2 : Int) (p1 q1 p2 q2 : M) (t1 t2 : Bool) (w : World) (hp1 : p1.On w) (hq1 : q1.On w) (hp2 : p2.On w) (hq2 : q2.On w) (fp1 : p1.Fit) (fq1 : q1.Fit) :
    Calls Try.prog 43 #[.agg #[.int .i64 e1, .bool p1.u, .int .u64 (n64 p1.k), .int .u64 (n64 p1.l), .slice p1.a p1.rs.length p1.c, .bool q1.u, .int .u64 (n64 q1.k), .int .u64 (n64 q1.l), .slice q1.a q1.rs.length q1.c, .bool t1], .agg #[.int .i64 e2, .bool p2.u, .int .u64 (n64 p2.k), .int .u64 (n64 p2.l), .slice p2.a p2.rs.length p2.c, .bool q2.u, .int .u64 (n64 q2.k), .int .u64 (n64 q2.l), .slice q2.a q2.rs.length q2.c, .bool t2]] w (EndB (sameK e1 e2 p1 q1 p2 q2 t1 t2) w) := by
  have HP1 := Lib.hid hp1
  have HQ1 := Lib.hid hq1
  have HP2 := Lib.hid hp2
  have HQ2 := Lib.hid hq2
  clear hp1 hq1 hp2 hq2
  have C1 := Lib.hid (fun w h h' => M.sameI p1 p2 w h h' fp1)
  have C2 := Lib.hid (fun w h h' => M.sameI q1 q2 w h h' fq1)
  clear fp1 fq1
  have D : Hid (sameK e1 e2 p1 q1 p2 q2 t1 t2 = ((e1 == e2) && ((t1 == t2) && (p1.same p2 && q1.same q2)))) := rfl
  rw [D.out]
  clear D
  obtain ⟨x1, hx1⟩ : ∃ x, p1.same p2 = x := ⟨_, rfl⟩
  rw [hx1] at C1 ⊢
  clear hx1
  obtain ⟨x2, hx2⟩ : ∃ x, q1.same q2 = x := ⟨_, rfl⟩
  rw [hx2] at C2 ⊢
  clear hx2
  by_cases he : (e1 == e2) = false
  · rw [he]
    go_enter Try.func43, Try.ntmps43
    go_wp2_with fail
    go_ret
    exact ⟨rfl, ((Below.refl _ _).alloc (Nat.le_refl _) _).alloc (by simp) _⟩
  obtain rfl : e1 = e2 := by simpa using he
  clear he
  by_cases ht : (t1 == t2) = false
  · rw [ht]
    go_enter Try.func43, Try.ntmps43
    go_wp2_with fail
    go_ret
    exact ⟨ret_bool (by simp), ((Below.refl _ _).alloc (Nat.le_refl _) _).alloc (by simp) _⟩
  obtain rfl : t1 = t2 := by simpa using ht
  clear ht
  cases x1 with
  | false =>
    go_enter Try.func43, Try.ntmps43
    have B0 := Lib.hid (show Below w.heap.size w ((w.alloc (.cells #[.int .i64 e1, .bool p1.u, .int .u64 (n64 p1.k), .int .u64 (n64 p1.l), .slice p1.a p1.rs.length p1.c, .bool q1.u, .int .u64 (n64 q1.k), .int .u64 (n64 q1.l), .slice q1.a q1.rs.length q1.c, .bool t1] 29)).alloc (.cells #[.int .i64 e1, .bool p2.u, .int .u64 (n64 p2.k), .int .u64 (n64 p2.l), .slice p2.a p2.rs.length p2.c, .bool q2.u, .int .u64 (n64 q2.k), .int .u64 (n64 q2.l), .slice q2.a q2.rs.length q2.c, .bool t1] 29)) from (((Below.refl _ w).alloc (by simp) _).alloc (by simp) _))
    have KA0 := Lib.hid (show Blk ((w.alloc (.cells #[.int .i64 e1, .bool p1.u, .int .u64 (n64 p1.k), .int .u64 (n64 p1.l), .slice p1.a p1.rs.length p1.c, .bool q1.u, .int .u64 (n64 q1.k), .int .u64 (n64 q1.l), .slice q1.a q1.rs.length q1.c, .bool t1] 29)).alloc (.cells #[.int .i64 e1, .bool p2.u, .int .u64 (n64 p2.k), .int .u64 (n64 p2.l), .slice p2.a p2.rs.length p2.c, .bool q2.u, .int .u64 (n64 q2.k), .int .u64 (n64 q2.l), .slice q2.a q2.rs.length q2.c, .bool t1] 29)) (w.heap.size) [.int .i64 e1, .bool p1.u, .int .u64 (n64 p1.k), .int .u64 (n64 p1.l), .slice p1.a p1.rs.length p1.c, .bool q1.u, .int .u64 (n64 q1.k), .int .u64 (n64 q1.l), .slice q1.a q1.rs.length q1.c, .bool t1] from (Blk.new w [.int .i64 e1, .bool p1.u, .int .u64 (n64 p1.k), .int .u64 (n64 p1.l), .slice p1.a p1.rs.length p1.c, .bool q1.u, .int .u64 (n64 q1.k), .int .u64 (n64 q1.l), .slice q1.a q1.rs.length q1.c, .bool t1] 29).alloc (.cells #[.int .i64 e1, .bool p2.u, .int .u64 (n64 p2.k), .int .u64 (n64 p2.l), .slice p2.a p2.rs.length p2.c, .bool q2.u, .int .u64 (n64 q2.k), .int .u64 (n64 q2.l), .slice q2.a q2.rs.length q2.c, .bool t1] 29))
    have s1 : (w.alloc (.cells #[.int .i64 e1, .bool p1.u, .int .u64 (n64 p1.k), .int .u64 (n64 p1.l), .slice p1.a p1.rs.length p1.c, .bool q1.u, .int .u64 (n64 q1.k), .int .u64 (n64 q1.l), .slice q1.a q1.rs.length q1.c, .bool t1] 29)).heap.size = w.heap.size + 1 := by simp
    have KB0 := Lib.hid (show Blk ((w.alloc (.cells #[.int .i64 e1, .bool p1.u, .int .u64 (n64 p1.k), .int .u64 (n64 p1.l), .slice p1.a p1.rs.length p1.c, .bool q1.u, .int .u64 (n64 q1.k), .int .u64 (n64 q1.l), .slice q1.a q1.rs.length q1.c, .bool t1] 29)).alloc (.cells #[.int .i64 e1, .bool p2.u, .int .u64 (n64 p2.k), .int .u64 (n64 p2.l), .slice p2.a p2.rs.length p2.c, .bool q2.u, .int .u64 (n64 q2.k), .int .u64 (n64 q2.l), .slice q2.a q2.rs.length q2.c, .bool t1] 29)) (w.heap.size + 1) [.int .i64 e1, .bool p2.u, .int .u64 (n64 p2.k), .int .u64 (n64 p2.l), .slice p2.a p2.rs.length p2.c, .bool q2.u, .int .u64 (n64 q2.k), .int .u64 (n64 q2.l), .slice q2.a q2.rs.length q2.c, .bool t1] by have h0 := Blk.new (w.alloc (.cells #[.int .i64 e1, .bool p1.u, .int .u64 (n64 p1.k), .int .u64 (n64 p1.l), .slice p1.a p1.rs.length p1.c, .bool q1.u, .int .u64 (n64 q1.k), .int .u64 (n64 q1.l), .slice q1.a q1.rs.length q1.c, .bool t1] 29)) [.int .i64 e1, .bool p2.u, .int .u64 (n64 p2.k), .int .u64 (n64 p2.l), .slice p2.a p2.rs.length p2.c, .bool q2.u, .int .u64 (n64 q2.k), .int .u64 (n64 q2.l), .slice q2.a q2.rs.length q2.c, .bool t1] 29; rwa [s1] at h0)
    have n_A_B : w.heap.size ≠ w.heap.size + 1 := by omega
    clear s1
    have Hp10 := Lib.hid (show p1.On ((w.alloc (.cells #[.int .i64 e1, .bool p1.u, .int .u64 (n64 p1.k), .int .u64 (n64 p1.l), .slice p1.a p1.rs.length p1.c, .bool q1.u, .int .u64 (n64 q1.k), .int .u64 (n64 q1.l), .slice q1.a q1.rs.length q1.c, .bool t1] 29)).alloc (.cells #[.int .i64 e1, .bool p2.u, .int .u64 (n64 p2.k), .int .u64 (n64 p2.l), .slice p2.a p2.rs.length p2.c, .bool q2.u, .int .u64 (n64 q2.k), .int .u64 (n64 q2.l), .slice q2.a q2.rs.length q2.c, .bool t1] 29)) from HP1.out.below B0.out)
    clear HP1
    have Hq10 := Lib.hid (show q1.On ((w.alloc (.cells #[.int .i64 e1, .bool p1.u, .int .u64 (n64 p1.k), .int .u64 (n64 p1.l), .slice p1.a p1.rs.length p1.c, .bool q1.u, .int .u64 (n64 q1.k), .int .u64 (n64 q1.l), .slice q1.a q1.rs.length q1.c, .bool t1] 29)).alloc (.cells #[.int .i64 e1, .bool p2.u, .int .u64 (n64 p2.k), .int .u64 (n64 p2.l), .slice p2.a p2.rs.length p2.c, .bool q2.u, .int .u64 (n64 q2.k), .int .u64 (n64 q2.l), .slice q2.a q2.rs.length q2.c, .bool t1] 29)) from HQ1.out.below B0.out)
    clear HQ1
    have Hp20 := Lib.hid (show p2.On ((w.alloc (.cells #[.int .i64 e1, .bool p1.u, .int .u64 (n64 p1.k), .int .u64 (n64 p1.l), .slice p1.a p1.rs.length p1.c, .bool q1.u, .int .u64 (n64 q1.k), .int .u64 (n64 q1.l), .slice q1.a q1.rs.length q1.c, .bool t1] 29)).alloc (.cells #[.int .i64 e1, .bool p2.u, .int .u64 (n64 p2.k), .int .u64 (n64 p2.l), .slice p2.a p2.rs.length p2.c, .bool q2.u, .int .u64 (n64 q2.k), .int .u64 (n64 q2.l), .slice q2.a q2.rs.length q2.c, .bool t1] 29)) from HP2.out.below B0.out)
    clear HP2
    have Hq20 := Lib.hid (show q2.On ((w.alloc (.cells #[.int .i64 e1, .bool p1.u, .int .u64 (n64 p1.k), .int .u64 (n64 p1.l), .slice p1.a p1.rs.length p1.c, .bool q1.u, .int .u64 (n64 q1.k), .int .u64 (n64 q1.l), .slice q1.a q1.rs.length q1.c, .bool t1] 29)).alloc (.cells #[.int .i64 e1, .bool p2.u, .int .u64 (n64 p2.k), .int .u64 (n64 p2.l), .slice p2.a p2.rs.length p2.c, .bool q2.u, .int .u64 (n64 q2.k), .int .u64 (n64 q2.l), .slice q2.a q2.rs.length q2.c, .bool t1] 29)) from HQ2.out.below B0.out)
    clear HQ2
    go_wp2_with fail
    change Calls _ _ _ ((w.alloc (.cells #[.int .i64 e1, .bool p1.u, .int .u64 (n64 p1.k), .int .u64 (n64 p1.l), .slice p1.a p1.rs.length p1.c, .bool q1.u, .int .u64 (n64 q1.k), .int .u64 (n64 q1.l), .slice q1.a q1.rs.length q1.c, .bool t1] 29)).alloc (.cells #[.int .i64 e1, .bool p2.u, .int .u64 (n64 p2.k), .int .u64 (n64 p2.l), .slice p2.a p2.rs.length p2.c, .bool q2.u, .int .u64 (n64 q2.k), .int .u64 (n64 q2.l), .slice q2.a q2.rs.length q2.c, .bool t1] 29)) _
    generalize (w.alloc (.cells #[.int .i64 e1, .bool p1.u, .int .u64 (n64 p1.k), .int .u64 (n64 p1.l), .slice p1.a p1.rs.length p1.c, .bool q1.u, .int .u64 (n64 q1.k), .int .u64 (n64 q1.l), .slice q1.a q1.rs.length q1.c, .bool t1] 29)).alloc (.cells #[.int .i64 e1, .bool p2.u, .int .u64 (n64 p2.k), .int .u64 (n64 p2.l), .slice p2.a p2.rs.length p2.c, .bool q2.u, .int .u64 (n64 q2.k), .int .u64 (n64 q2.l), .slice q2.a q2.rs.length q2.c, .bool t1] 29) = v0 at B0 KA0 KB0 Hp10 Hq10 Hp20 Hq20 ⊢
    generalize w.heap.size + 1 = g_B at KB0 n_A_B ⊢
    generalize w.heap.size = g_A at KA0 n_A_B ⊢
    refine (C1.out _ Hp10.out Hp20.out).mono ?_
    rintro e v1 ⟨rfl, hb⟩
    have B1 := Lib.hid (B0.out.trans (hb.mono B0.out.size))
    have KA1 := Lib.hid (KA0.out.below hb)
    have KB1 := Lib.hid (KB0.out.below hb)
    have Hp11 := Lib.hid (Hp10.out.below hb)
    have Hq11 := Lib.hid (Hq10.out.below hb)
    have Hp21 := Lib.hid (Hp20.out.below hb)
    have Hq21 := Lib.hid (Hq20.out.below hb)
    clear hb B0 KA0 KB0 Hp10 Hq10 Hp20 Hq20
    obtain ⟨⟨cA0, cA1, cA2, cA3, cA4, cA5, cA6, cA7, cA8, cA9⟩, dA0, dA1, dA2, dA3, dA4, dA5, dA6, dA7, dA8, dA9⟩ := KA1.out.of10
    obtain ⟨⟨cB0, cB1, cB2, cB3, cB4, cB5, cB6, cB7, cB8, cB9⟩, dB0, dB1, dB2, dB3, dB4, dB5, dB6, dB7, dB8, dB9⟩ := KB1.out.of10
    go_wp2_with fail
    go_ret
    exact ⟨ret_bool (by simp), B1.out⟩
  | true =>
    go_enter Try.func43, Try.ntmps43
    have B0 := Lib.hid (show Below w.heap.size w ((w.alloc (.cells #[.int .i64 e1, .bool p1.u, .int .u64 (n64 p1.k), .int .u64 (n64 p1.l), .slice p1.a p1.rs.length p1.c, .bool q1.u, .int .u64 (n64 q1.k), .int .u64 (n64 q1.l), .slice q1.a q1.rs.length q1.c, .bool t1] 29)).alloc (.cells #[.int .i64 e1, .bool p2.u, .int .u64 (n64 p2.k), .int .u64 (n64 p2.l), .slice p2.a p2.rs.length p2.c, .bool q2.u, .int .u64 (n64 q2.k), .int .u64 (n64 q2.l), .slice q2.a q2.rs.length q2.c, .bool t1] 29)) from (((Below.refl _ w).alloc (by simp) _).alloc (by simp) _))
    have KA0 := Lib.hid (show Blk ((w.alloc (.cells #[.int .i64 e1, .bool p1.u, .int .u64 (n64 p1.k), .int .u64 (n64 p1.l), .slice p1.a p1.rs.length p1.c, .bool q1.u, .int .u64 (n64 q1.k), .int .u64 (n64 q1.l), .slice q1.a q1.rs.length q1.c, .bool t1] 29)).alloc (.cells #[.int .i64 e1, .bool p2.u, .int .u64 (n64 p2.k), .int .u64 (n64 p2.l), .slice p2.a p2.rs.length p2.c, .bool q2.u, .int .u64 (n64 q2.k), .int .u64 (n64 q2.l), .slice q2.a q2.rs.length q2.c, .bool t1] 29)) (w.heap.size) [.int .i64 e1, .bool p1.u, .int .u64 (n64 p1.k), .int .u64 (n64 p1.l), .slice p1.a p1.rs.length p1.c, .bool q1.u, .int .u64 (n64 q1.k), .int .u64 (n64 q1.l), .slice q1.a q1.rs.length q1.c, .bool t1] from (Blk.new w [.int .i64 e1, .bool p1.u, .int .u64 (n64 p1.k), .int .u64 (n64 p1.l), .slice p1.a p1.rs.length p1.c, .bool q1.u, .int .u64 (n64 q1.k), .int .u64 (n64 q1.l), .slice q1.a q1.rs.length q1.c, .bool t1] 29).alloc (.cells #[.int .i64 e1, .bool p2.u, .int .u64 (n64 p2.k), .int .u64 (n64 p2.l), .slice p2.a p2.rs.length p2.c, .bool q2.u, .int .u64 (n64 q2.k), .int .u64 (n64 q2.l), .slice q2.a q2.rs.length q2.c, .bool t1] 29))
    have s1 : (w.alloc (.cells #[.int .i64 e1, .bool p1.u, .int .u64 (n64 p1.k), .int .u64 (n64 p1.l), .slice p1.a p1.rs.length p1.c, .bool q1.u, .int .u64 (n64 q1.k), .int .u64 (n64 q1.l), .slice q1.a q1.rs.length q1.c, .bool t1] 29)).heap.size = w.heap.size + 1 := by simp
    have KB0 := Lib.hid (show Blk ((w.alloc (.cells #[.int .i64 e1, .bool p1.u, .int .u64 (n64 p1.k), .int .u64 (n64 p1.l), .slice p1.a p1.rs.length p1.c, .bool q1.u, .int .u64 (n64 q1.k), .int .u64 (n64 q1.l), .slice q1.a q1.rs.length q1.c, .bool t1] 29)).alloc (.cells #[.int .i64 e1, .bool p2.u, .int .u64 (n64 p2.k), .int .u64 (n64 p2.l), .slice p2.a p2.rs.length p2.c, .bool q2.u, .int .u64 (n64 q2.k), .int .u64 (n64 q2.l), .slice q2.a q2.rs.length q2.c, .bool t1] 29)) (w.heap.size + 1) [.int .i64 e1, .bool p2.u, .int .u64 (n64 p2.k), .int .u64 (n64 p2.l), .slice p2.a p2.rs.length p2.c, .bool q2.u, .int .u64 (n64 q2.k), .int .u64 (n64 q2.l), .slice q2.a q2.rs.length q2.c, .bool t1] by have h0 := Blk.new (w.alloc (.cells #[.int .i64 e1, .bool p1.u, .int .u64 (n64 p1.k), .int .u64 (n64 p1.l), .slice p1.a p1.rs.length p1.c, .bool q1.u, .int .u64 (n64 q1.k), .int .u64 (n64 q1.l), .slice q1.a q1.rs.length q1.c, .bool t1] 29)) [.int .i64 e1, .bool p2.u, .int .u64 (n64 p2.k), .int .u64 (n64 p2.l), .slice p2.a p2.rs.length p2.c, .bool q2.u, .int .u64 (n64 q2.k), .int .u64 (n64 q2.l), .slice q2.a q2.rs.length q2.c, .bool t1] 29; rwa [s1] at h0)
    have n_A_B : w.heap.size ≠ w.heap.size + 1 := by omega
    clear s1
    have Hp10 := Lib.hid (show p1.On ((w.alloc (.cells #[.int .i64 e1, .bool p1.u, .int .u64 (n64 p1.k), .int .u64 (n64 p1.l), .slice p1.a p1.rs.length p1.c, .bool q1.u, .int .u64 (n64 q1.k), .int .u64 (n64 q1.l), .slice q1.a q1.rs.length q1.c, .bool t1] 29)).alloc (.cells #[.int .i64 e1, .bool p2.u, .int .u64 (n64 p2.k), .int .u64 (n64 p2.l), .slice p2.a p2.rs.length p2.c, .bool q2.u, .int .u64 (n64 q2.k), .int .u64 (n64 q2.l), .slice q2.a q2.rs.length q2.c, .bool t1] 29)) from HP1.out.below B0.out)
    clear HP1
    have Hq10 := Lib.hid (show q1.On ((w.alloc (.cells #[.int .i64 e1, .bool p1.u, .int .u64 (n64 p1.k), .int .u64 (n64 p1.l), .slice p1.a p1.rs.length p1.c, .bool q1.u, .int .u64 (n64 q1.k), .int .u64 (n64 q1.l), .slice q1.a q1.rs.length q1.c, .bool t1] 29)).alloc (.cells #[.int .i64 e1, .bool p2.u, .int .u64 (n64 p2.k), .int .u64 (n64 p2.l), .slice p2.a p2.rs.length p2.c, .bool q2.u, .int .u64 (n64 q2.k), .int .u64 (n64 q2.l), .slice q2.a q2.rs.length q2.c, .bool t1] 29)) from HQ1.out.below B0.out)
    clear HQ1
    have Hp20 := Lib.hid (show p2.On ((w.alloc (.cells #[.int .i64 e1, .bool p1.u, .int .u64 (n64 p1.k), .int .u64 (n64 p1.l), .slice p1.a p1.rs.length p1.c, .bool q1.u, .int .u64 (n64 q1.k), .int .u64 (n64 q1.l), .slice q1.a q1.rs.length q1.c, .bool t1] 29)).alloc (.cells #[.int .i64 e1, .bool p2.u, .int .u64 (n64 p2.k), .int .u64 (n64 p2.l), .slice p2.a p2.rs.length p2.c, .bool q2.u, .int .u64 (n64 q2.k), .int .u64 (n64 q2.l), .slice q2.a q2.rs.length q2.c, .bool t1] 29)) from HP2.out.below B0.out)
    clear HP2
    have Hq20 := Lib.hid (show q2.On ((w.alloc (.cells #[.int .i64 e1, .bool p1.u, .int .u64 (n64 p1.k), .int .u64 (n64 p1.l), .slice p1.a p1.rs.length p1.c, .bool q1.u, .int .u64 (n64 q1.k), .int .u64 (n64 q1.l), .slice q1.a q1.rs.length q1.c, .bool t1] 29)).alloc (.cells #[.int .i64 e1, .bool p2.u, .int .u64 (n64 p2.k), .int .u64 (n64 p2.l), .slice p2.a p2.rs.length p2.c, .bool q2.u, .int .u64 (n64 q2.k), .int .u64 (n64 q2.l), .slice q2.a q2.rs.length q2.c, .bool t1] 29)) from HQ2.out.below B0.out)
    clear HQ2
    go_wp2_with fail
    change Calls _ _ _ ((w.alloc (.cells #[.int .i64 e1, .bool p1.u, .int .u64 (n64 p1.k), .int .u64 (n64 p1.l), .slice p1.a p1.rs.length p1.c, .bool q1.u, .int .u64 (n64 q1.k), .int .u64 (n64 q1.l), .slice q1.a q1.rs.length q1.c, .bool t1] 29)).alloc (.cells #[.int .i64 e1, .bool p2.u, .int .u64 (n64 p2.k), .int .u64 (n64 p2.l), .slice p2.a p2.rs.length p2.c, .bool q2.u, .int .u64 (n64 q2.k), .int .u64 (n64 q2.l), .slice q2.a q2.rs.length q2.c, .bool t1] 29)) _
    generalize (w.alloc (.cells #[.int .i64 e1, .bool p1.u, .int .u64 (n64 p1.k), .int .u64 (n64 p1.l), .slice p1.a p1.rs.length p1.c, .bool q1.u, .int .u64 (n64 q1.k), .int .u64 (n64 q1.l), .slice q1.a q1.rs.length q1.c, .bool t1] 29)).alloc (.cells #[.int .i64 e1, .bool p2.u, .int .u64 (n64 p2.k), .int .u64 (n64 p2.l), .slice p2.a p2.rs.length p2.c, .bool q2.u, .int .u64 (n64 q2.k), .int .u64 (n64 q2.l), .slice q2.a q2.rs.length q2.c, .bool t1] 29) = v0 at B0 KA0 KB0 Hp10 Hq10 Hp20 Hq20 ⊢
    generalize w.heap.size + 1 = g_B at KB0 n_A_B ⊢
    generalize w.heap.size = g_A at KA0 n_A_B ⊢
    refine (C1.out _ Hp10.out Hp20.out).mono ?_
    rintro e v1 ⟨rfl, hb⟩
    have B1 := Lib.hid (B0.out.trans (hb.mono B0.out.size))
    have KA1 := Lib.hid (KA0.out.below hb)
    have KB1 := Lib.hid (KB0.out.below hb)
    have Hp11 := Lib.hid (Hp10.out.below hb)
    have Hq11 := Lib.hid (Hq10.out.below hb)
    have Hp21 := Lib.hid (Hp20.out.below hb)
    have Hq21 := Lib.hid (Hq20.out.below hb)
    clear hb B0 KA0 KB0 Hp10 Hq10 Hp20 Hq20
    obtain ⟨⟨cA0, cA1, cA2, cA3, cA4, cA5, cA6, cA7, cA8, cA9⟩, dA0, dA1, dA2, dA3, dA4, dA5, dA6, dA7, dA8, dA9⟩ := KA1.out.of10
    obtain ⟨⟨cB0, cB1, cB2, cB3, cB4, cB5, cB6, cB7, cB8, cB9⟩, dB0, dB1, dB2, dB3, dB4, dB5, dB6, dB7, dB8, dB9⟩ := KB1.out.of10
    go_wp2_with fail
    clear cA0 cA1 cA2 cA3 cA4 cA5 cA6 cA7 cA8 cA9 dA0 dA1 dA2 dA3 dA4 dA5 dA6 dA7 dA8 dA9 cB0 cB1 cB2 cB3 cB4 cB5 cB6 cB7 cB8 cB9 dB0 dB1 dB2 dB3 dB4 dB5 dB6 dB7 dB8 dB9
    refine (C2.out _ Hq11.out Hq21.out).mono ?_
    rintro e v2 ⟨rfl, hb⟩
    have B2 := Lib.hid (B1.out.trans (hb.mono B1.out.size))
    have KA2 := Lib.hid (KA1.out.below hb)
    have KB2 := Lib.hid (KB1.out.below hb)
    have Hp12 := Lib.hid (Hp11.out.below hb)
    have Hq12 := Lib.hid (Hq11.out.below hb)
    have Hp22 := Lib.hid (Hp21.out.below hb)
    have Hq22 := Lib.hid (Hq21.out.below hb)
    clear hb B1 KA1 KB1 Hp11 Hq11 Hp21 Hq21
    obtain ⟨⟨cA0, cA1, cA2, cA3, cA4, cA5, cA6, cA7, cA8, cA9⟩, dA0, dA1, dA2, dA3, dA4, dA5, dA6, dA7, dA8, dA9⟩ := KA2.out.of10
    obtain ⟨⟨cB0, cB1, cB2, cB3, cB4, cB5, cB6, cB7, cB8, cB9⟩, dB0, dB1, dB2, dB3, dB4, dB5, dB6, dB7, dB8, dB9⟩ := KB2.out.of10
    go_wp2_with fail
    go_ret
    exact ⟨ret_bool (by simp), B2.out⟩

set_option maxRecDepth 100000 in
set_option maxHeartbeats 4000000 in
theorem sameKeysS (e1 e2 : Int) (p1 q1 p2 q2 : M) (t1 t2 : Bool) (w : World) (hp1 : p1.On w) (hq1 : q1.On w) (hp2 : p2.On w) (hq2 : q2.On w) (fp1 : p1.Fit) (fq1 : q1.Fit) :
    Calls Try.prog 23 #[.agg #[.int .i64 e1, .bool p1.u, .int .u64 (n64 p1.k), .int .u64 (n64 p1.l), .slice p1.a p1.rs.length p1.c, .bool q1.u, .int .u64 (n64 q1.k), .int .u64 (n64 q1.l), .slice q1.a q1.rs.length q1.c, .bool t1], .agg #[.int .i64 e2, .bool p2.u, .int .u64 (n64 p2.k), .int .u64 (n64 p2.l), .slice p2.a p2.rs.length p2.c, .bool q2.u, .int .u64 (n64 q2.k), .int .u64 (n64 q2.l), .slice q2.a q2.rs.length q2.c, .bool t2]] w (EndB (sameK e1 e2 p1 q1 p2 q2 t1 t2) w) := by
  have HP1 := Lib.hid hp1
  have HQ1 := Lib.hid hq1
  have HP2 := Lib.hid hp2
  have HQ2 := Lib.hid hq2
  clear hp1 hq1 hp2 hq2
  have C1 := Lib.hid (fun w h h' => M.sameS p1 p2 w h h' fp1)
  have C2 := Lib.hid (fun w h h' => M.sameS q1 q2 w h h' fq1)
  clear fp1 fq1
  have D : Hid (sameK e1 e2 p1 q1 p2 q2 t1 t2 = ((e1 == e2) && ((t1 == t2) && (p1.same p2 && q1.same q2)))) := rfl
  rw [D.out]
  clear D
  obtain ⟨x1, hx1⟩ : ∃ x, p1.same p2 = x := ⟨_, rfl⟩
  rw [hx1] at C1 ⊢
  clear hx1
  obtain ⟨x2, hx2⟩ : ∃ x, q1.same q2 = x := ⟨_, rfl⟩
  rw [hx2] at C2 ⊢
  clear hx2
  by_cases he : (e1 == e2) = false
  · rw [he]
    go_enter Try.func23, Try.ntmps23
    go_wp2_with fail
    go_ret
    exact ⟨rfl, ((Below.refl _ _).alloc (Nat.le_refl _) _).alloc (by simp) _⟩
  obtain rfl : e1 = e2 := by simpa using he
  clear he
  by_cases ht : (t1 == t2) = false
  · rw [ht]
    go_enter Try.func23, Try.ntmps23
    go_wp2_with fail
    go_ret
    exact ⟨ret_bool (by simp), ((Below.refl _ _).alloc (Nat.le_refl _) _).alloc (by simp) _⟩
  obtain rfl : t1 = t2 := by simpa using ht
  clear ht
  cases x1 with
  | false =>
    go_enter Try.func23, Try.ntmps23
    have B0 := Lib.hid (show Below w.heap.size w ((w.alloc (.cells #[.int .i64 e1, .bool p1.u, .int .u64 (n64 p1.k), .int .u64 (n64 p1.l), .slice p1.a p1.rs.length p1.c, .bool q1.u, .int .u64 (n64 q1.k), .int .u64 (n64 q1.l), .slice q1.a q1.rs.length q1.c, .bool t1] 29)).alloc (.cells #[.int .i64 e1, .bool p2.u, .int .u64 (n64 p2.k), .int .u64 (n64 p2.l), .slice p2.a p2.rs.length p2.c, .bool q2.u, .int .u64 (n64 q2.k), .int .u64 (n64 q2.l), .slice q2.a q2.rs.length q2.c, .bool t1] 29)) from (((Below.refl _ w).alloc (by simp) _).alloc (by simp) _))
    have KA0 := Lib.hid (show Blk ((w.alloc (.cells #[.int .i64 e1, .bool p1.u, .int .u64 (n64 p1.k), .int .u64 (n64 p1.l), .slice p1.a p1.rs.length p1.c, .bool q1.u, .int .u64 (n64 q1.k), .int .u64 (n64 q1.l), .slice q1.a q1.rs.length q1.c, .bool t1] 29)).alloc (.cells #[.int .i64 e1, .bool p2.u, .int .u64 (n64 p2.k), .int .u64 (n64 p2.l), .slice p2.a p2.rs.length p2.c, .bool q2.u, .int .u64 (n64 q2.k), .int .u64 (n64 q2.l), .slice q2.a q2.rs.length q2.c, .bool t1] 29)) (w.heap.size) [.int .i64 e1, .bool p1.u, .int .u64 (n64 p1.k), .int .u64 (n64 p1.l), .slice p1.a p1.rs.length p1.c, .bool q1.u, .int .u64 (n64 q1.k), .int .u64 (n64 q1.l), .slice q1.a q1.rs.length q1.c, .bool t1] from (Blk.new w [.int .i64 e1, .bool p1.u, .int .u64 (n64 p1.k), .int .u64 (n64 p1.l), .slice p1.a p1.rs.length p1.c, .bool q1.u, .int .u64 (n64 q1.k), .int .u64 (n64 q1.l), .slice q1.a q1.rs.length q1.c, .bool t1] 29).alloc (.cells #[.int .i64 e1, .bool p2.u, .int .u64 (n64 p2.k), .int .u64 (n64 p2.l), .slice p2.a p2.rs.length p2.c, .bool q2.u, .int .u64 (n64 q2.k), .int .u64 (n64 q2.l), .slice q2.a q2.rs.length q2.c, .bool t1] 29))
    have s1 : (w.alloc (.cells #[.int .i64 e1, .bool p1.u, .int .u64 (n64 p1.k), .int .u64 (n64 p1.l), .slice p1.a p1.rs.length p1.c, .bool q1.u, .int .u64 (n64 q1.k), .int .u64 (n64 q1.l), .slice q1.a q1.rs.length q1.c, .bool t1] 29)).heap.size = w.heap.size + 1 := by simp
    have KB0 := Lib.hid (show Blk ((w.alloc (.cells #[.int .i64 e1, .bool p1.u, .int .u64 (n64 p1.k), .int .u64 (n64 p1.l), .slice p1.a p1.rs.length p1.c, .bool q1.u, .int .u64 (n64 q1.k), .int .u64 (n64 q1.l), .slice q1.a q1.rs.length q1.c, .bool t1] 29)).alloc (.cells #[.int .i64 e1, .bool p2.u, .int .u64 (n64 p2.k), .int .u64 (n64 p2.l), .slice p2.a p2.rs.length p2.c, .bool q2.u, .int .u64 (n64 q2.k), .int .u64 (n64 q2.l), .slice q2.a q2.rs.length q2.c, .bool t1] 29)) (w.heap.size + 1) [.int .i64 e1, .bool p2.u, .int .u64 (n64 p2.k), .int .u64 (n64 p2.l), .slice p2.a p2.rs.length p2.c, .bool q2.u, .int .u64 (n64 q2.k), .int .u64 (n64 q2.l), .slice q2.a q2.rs.length q2.c, .bool t1] by have h0 := Blk.new (w.alloc (.cells #[.int .i64 e1, .bool p1.u, .int .u64 (n64 p1.k), .int .u64 (n64 p1.l), .slice p1.a p1.rs.length p1.c, .bool q1.u, .int .u64 (n64 q1.k), .int .u64 (n64 q1.l), .slice q1.a q1.rs.length q1.c, .bool t1] 29)) [.int .i64 e1, .bool p2.u, .int .u64 (n64 p2.k), .int .u64 (n64 p2.l), .slice p2.a p2.rs.length p2.c, .bool q2.u, .int .u64 (n64 q2.k), .int .u64 (n64 q2.l), .slice q2.a q2.rs.length q2.c, .bool t1] 29; rwa [s1] at h0)
    have n_A_B : w.heap.size ≠ w.heap.size + 1 := by omega
    clear s1
    have Hp10 := Lib.hid (show p1.On ((w.alloc (.cells #[.int .i64 e1, .bool p1.u, .int .u64 (n64 p1.k), .int .u64 (n64 p1.l), .slice p1.a p1.rs.length p1.c, .bool q1.u, .int .u64 (n64 q1.k), .int .u64 (n64 q1.l), .slice q1.a q1.rs.length q1.c, .bool t1] 29)).alloc (.cells #[.int .i64 e1, .bool p2.u, .int .u64 (n64 p2.k), .int .u64 (n64 p2.l), .slice p2.a p2.rs.length p2.c, .bool q2.u, .int .u64 (n64 q2.k), .int .u64 (n64 q2.l), .slice q2.a q2.rs.length q2.c, .bool t1] 29)) from HP1.out.below B0.out)
    clear HP1
    have Hq10 := Lib.hid (show q1.On ((w.alloc (.cells #[.int .i64 e1, .bool p1.u, .int .u64 (n64 p1.k), .int .u64 (n64 p1.l), .slice p1.a p1.rs.length p1.c, .bool q1.u, .int .u64 (n64 q1.k), .int .u64 (n64 q1.l), .slice q1.a q1.rs.length q1.c, .bool t1] 29)).alloc (.cells #[.int .i64 e1, .bool p2.u, .int .u64 (n64 p2.k), .int .u64 (n64 p2.l), .slice p2.a p2.rs.length p2.c, .bool q2.u, .int .u64 (n64 q2.k), .int .u64 (n64 q2.l), .slice q2.a q2.rs.length q2.c, .bool t1] 29)) from HQ1.out.below B0.out)
    clear HQ1
    have Hp20 := Lib.hid (show p2.On ((w.alloc (.cells #[.int .i64 e1, .bool p1.u, .int .u64 (n64 p1.k), .int .u64 (n64 p1.l), .slice p1.a p1.rs.length p1.c, .bool q1.u, .int .u64 (n64 q1.k), .int .u64 (n64 q1.l), .slice q1.a q1.rs.length q1.c, .bool t1] 29)).alloc (.cells #[.int .i64 e1, .bool p2.u, .int .u64 (n64 p2.k), .int .u64 (n64 p2.l), .slice p2.a p2.rs.length p2.c, .bool q2.u, .int .u64 (n64 q2.k), .int .u64 (n64 q2.l), .slice q2.a q2.rs.length q2.c, .bool t1] 29)) from HP2.out.below B0.out)
    clear HP2
    have Hq20 := Lib.hid (show q2.On ((w.alloc (.cells #[.int .i64 e1, .bool p1.u, .int .u64 (n64 p1.k), .int .u64 (n64 p1.l), .slice p1.a p1.rs.length p1.c, .bool q1.u, .int .u64 (n64 q1.k), .int .u64 (n64 q1.l), .slice q1.a q1.rs.length q1.c, .bool t1] 29)).alloc (.cells #[.int .i64 e1, .bool p2.u, .int .u64 (n64 p2.k), .int .u64 (n64 p2.l), .slice p2.a p2.rs.length p2.c, .bool q2.u, .int .u64 (n64 q2.k), .int .u64 (n64 q2.l), .slice q2.a q2.rs.length q2.c, .bool t1] 29)) from HQ2.out.below B0.out)
    clear HQ2
    go_wp2_with fail
    change Calls _ _ _ ((w.alloc (.cells #[.int .i64 e1, .bool p1.u, .int .u64 (n64 p1.k), .int .u64 (n64 p1.l), .slice p1.a p1.rs.length p1.c, .bool q1.u, .int .u64 (n64 q1.k), .int .u64 (n64 q1.l), .slice q1.a q1.rs.length q1.c, .bool t1] 29)).alloc (.cells #[.int .i64 e1, .bool p2.u, .int .u64 (n64 p2.k), .int .u64 (n64 p2.l), .slice p2.a p2.rs.length p2.c, .bool q2.u, .int .u64 (n64 q2.k), .int .u64 (n64 q2.l), .slice q2.a q2.rs.length q2.c, .bool t1] 29)) _
    generalize (w.alloc (.cells #[.int .i64 e1, .bool p1.u, .int .u64 (n64 p1.k), .int .u64 (n64 p1.l), .slice p1.a p1.rs.length p1.c, .bool q1.u, .int .u64 (n64 q1.k), .int .u64 (n64 q1.l), .slice q1.a q1.rs.length q1.c, .bool t1] 29)).alloc (.cells #[.int .i64 e1, .bool p2.u, .int .u64 (n64 p2.k), .int .u64 (n64 p2.l), .slice p2.a p2.rs.length p2.c, .bool q2.u, .int .u64 (n64 q2.k), .int .u64 (n64 q2.l), .slice q2.a q2.rs.length q2.c, .bool t1] 29) = v0 at B0 KA0 KB0 Hp10 Hq10 Hp20 Hq20 ⊢
    generalize w.heap.size + 1 = g_B at KB0 n_A_B ⊢
    generalize w.heap.size = g_A at KA0 n_A_B ⊢
    refine (C1.out _ Hp10.out Hp20.out).mono ?_
    rintro e v1 ⟨rfl, hb⟩
    have B1 := Lib.hid (B0.out.trans (hb.mono B0.out.size))
    have KA1 := Lib.hid (KA0.out.below hb)
    have KB1 := Lib.hid (KB0.out.below hb)
    have Hp11 := Lib.hid (Hp10.out.below hb)
    have Hq11 := Lib.hid (Hq10.out.below hb)
    have Hp21 := Lib.hid (Hp20.out.below hb)
    have Hq21 := Lib.hid (Hq20.out.below hb)
    clear hb B0 KA0 KB0 Hp10 Hq10 Hp20 Hq20
    obtain ⟨⟨cA0, cA1, cA2, cA3, cA4, cA5, cA6, cA7, cA8, cA9⟩, dA0, dA1, dA2, dA3, dA4, dA5, dA6, dA7, dA8, dA9⟩ := KA1.out.of10
    obtain ⟨⟨cB0, cB1, cB2, cB3, cB4, cB5, cB6, cB7, cB8, cB9⟩, dB0, dB1, dB2, dB3, dB4, dB5, dB6, dB7, dB8, dB9⟩ := KB1.out.of10
    go_wp2_with fail
    go_ret
    exact ⟨ret_bool (by simp), B1.out⟩
  | true =>
    go_enter Try.func23, Try.ntmps23
    have B0 := Lib.hid (show Below w.heap.size w ((w.alloc (.cells #[.int .i64 e1, .bool p1.u, .int .u64 (n64 p1.k), .int .u64 (n64 p1.l), .slice p1.a p1.rs.length p1.c, .bool q1.u, .int .u64 (n64 q1.k), .int .u64 (n64 q1.l), .slice q1.a q1.rs.length q1.c, .bool t1] 29)).alloc (.cells #[.int .i64 e1, .bool p2.u, .int .u64 (n64 p2.k), .int .u64 (n64 p2.l), .slice p2.a p2.rs.length p2.c, .bool q2.u, .int .u64 (n64 q2.k), .int .u64 (n64 q2.l), .slice q2.a q2.rs.length q2.c, .bool t1] 29)) from (((Below.refl _ w).alloc (by simp) _).alloc (by simp) _))
    have KA0 := Lib.hid (show Blk ((w.alloc (.cells #[.int .i64 e1, .bool p1.u, .int .u64 (n64 p1.k), .int .u64 (n64 p1.l), .slice p1.a p1.rs.length p1.c, .bool q1.u, .int .u64 (n64 q1.k), .int .u64 (n64 q1.l), .slice q1.a q1.rs.length q1.c, .bool t1] 29)).alloc (.cells #[.int .i64 e1, .bool p2.u, .int .u64 (n64 p2.k), .int .u64 (n64 p2.l), .slice p2.a p2.rs.length p2.c, .bool q2.u, .int .u64 (n64 q2.k), .int .u64 (n64 q2.l), .slice q2.a q2.rs.length q2.c, .bool t1] 29)) (w.heap.size) [.int .i64 e1, .bool p1.u, .int .u64 (n64 p1.k), .int .u64 (n64 p1.l), .slice p1.a p1.rs.length p1.c, .bool q1.u, .int .u64 (n64 q1.k), .int .u64 (n64 q1.l), .slice q1.a q1.rs.length q1.c, .bool t1] from (Blk.new w [.int .i64 e1, .bool p1.u, .int .u64 (n64 p1.k), .int .u64 (n64 p1.l), .slice p1.a p1.rs.length p1.c, .bool q1.u, .int .u64 (n64 q1.k), .int .u64 (n64 q1.l), .slice q1.a q1.rs.length q1.c, .bool t1] 29).alloc (.cells #[.int .i64 e1, .bool p2.u, .int .u64 (n64 p2.k), .int .u64 (n64 p2.l), .slice p2.a p2.rs.length p2.c, .bool q2.u, .int .u64 (n64 q2.k), .int .u64 (n64 q2.l), .slice q2.a q2.rs.length q2.c, .bool t1] 29))
    have s1 : (w.alloc (.cells #[.int .i64 e1, .bool p1.u, .int .u64 (n64 p1.k), .int .u64 (n64 p1.l), .slice p1.a p1.rs.length p1.c, .bool q1.u, .int .u64 (n64 q1.k), .int .u64 (n64 q1.l), .slice q1.a q1.rs.length q1.c, .bool t1] 29)).heap.size = w.heap.size + 1 := by simp
    have KB0 := Lib.hid (show Blk ((w.alloc (.cells #[.int .i64 e1, .bool p1.u, .int .u64 (n64 p1.k), .int .u64 (n64 p1.l), .slice p1.a p1.rs.length p1.c, .bool q1.u, .int .u64 (n64 q1.k), .int .u64 (n64 q1.l), .slice q1.a q1.rs.length q1.c, .bool t1] 29)).alloc (.cells #[.int .i64 e1, .bool p2.u, .int .u64 (n64 p2.k), .int .u64 (n64 p2.l), .slice p2.a p2.rs.length p2.c, .bool q2.u, .int .u64 (n64 q2.k), .int .u64 (n64 q2.l), .slice q2.a q2.rs.length q2.c, .bool t1] 29)) (w.heap.size + 1) [.int .i64 e1, .bool p2.u, .int .u64 (n64 p2.k), .int .u64 (n64 p2.l), .slice p2.a p2.rs.length p2.c, .bool q2.u, .int .u64 (n64 q2.k), .int .u64 (n64 q2.l), .slice q2.a q2.rs.length q2.c, .bool t1] by have h0 := Blk.new (w.alloc (.cells #[.int .i64 e1, .bool p1.u, .int .u64 (n64 p1.k), .int .u64 (n64 p1.l), .slice p1.a p1.rs.length p1.c, .bool q1.u, .int .u64 (n64 q1.k), .int .u64 (n64 q1.l), .slice q1.a q1.rs.length q1.c, .bool t1] 29)) [.int .i64 e1, .bool p2.u, .int .u64 (n64 p2.k), .int .u64 (n64 p2.l), .slice p2.a p2.rs.length p2.c, .bool q2.u, .int .u64 (n64 q2.k), .int .u64 (n64 q2.l), .slice q2.a q2.rs.length q2.c, .bool t1] 29; rwa [s1] at h0)
    have n_A_B : w.heap.size ≠ w.heap.size + 1 := by omega
    clear s1
    have Hp10 := Lib.hid (show p1.On ((w.alloc (.cells #[.int .i64 e1, .bool p1.u, .int .u64 (n64 p1.k), .int .u64 (n64 p1.l), .slice p1.a p1.rs.length p1.c, .bool q1.u, .int .u64 (n64 q1.k), .int .u64 (n64 q1.l), .slice q1.a q1.rs.length q1.c, .bool t1] 29)).alloc (.cells #[.int .i64 e1, .bool p2.u, .int .u64 (n64 p2.k), .int .u64 (n64 p2.l), .slice p2.a p2.rs.length p2.c, .bool q2.u, .int .u64 (n64 q2.k), .int .u64 (n64 q2.l), .slice q2.a q2.rs.length q2.c, .bool t1] 29)) from HP1.out.below B0.out)
    clear HP1
    have Hq10 := Lib.hid (show q1.On ((w.alloc (.cells #[.int .i64 e1, .bool p1.u, .int .u64 (n64 p1.k), .int .u64 (n64 p1.l), .slice p1.a p1.rs.length p1.c, .bool q1.u, .int .u64 (n64 q1.k), .int .u64 (n64 q1.l), .slice q1.a q1.rs.length q1.c, .bool t1] 29)).alloc (.cells #[.int .i64 e1, .bool p2.u, .int .u64 (n64 p2.k), .int .u64 (n64 p2.l), .slice p2.a p2.rs.length p2.c, .bool q2.u, .int .u64 (n64 q2.k), .int .u64 (n64 q2.l), .slice q2.a q2.rs.length q2.c, .bool t1] 29)) from HQ1.out.below B0.out)
    clear HQ1
    have Hp20 := Lib.hid (show p2.On ((w.alloc (.cells #[.int .i64 e1, .bool p1.u, .int .u64 (n64 p1.k), .int .u64 (n64 p1.l), .slice p1.a p1.rs.length p1.c, .bool q1.u, .int .u64 (n64 q1.k), .int .u64 (n64 q1.l), .slice q1.a q1.rs.length q1.c, .bool t1] 29)).alloc (.cells #[.int .i64 e1, .bool p2.u, .int .u64 (n64 p2.k), .int .u64 (n64 p2.l), .slice p2.a p2.rs.length p2.c, .bool q2.u, .int .u64 (n64 q2.k), .int .u64 (n64 q2.l), .slice q2.a q2.rs.length q2.c, .bool t1] 29)) from HP2.out.below B0.out)
    clear HP2
    have Hq20 := Lib.hid (show q2.On ((w.alloc (.cells #[.int .i64 e1, .bool p1.u, .int .u64 (n64 p1.k), .int .u64 (n64 p1.l), .slice p1.a p1.rs.length p1.c, .bool q1.u, .int .u64 (n64 q1.k), .int .u64 (n64 q1.l), .slice q1.a q1.rs.length q1.c, .bool t1] 29)).alloc (.cells #[.int .i64 e1, .bool p2.u, .int .u64 (n64 p2.k), .int .u64 (n64 p2.l), .slice p2.a p2.rs.length p2.c, .bool q2.u, .int .u64 (n64 q2.k), .int .u64 (n64 q2.l), .slice q2.a q2.rs.length q2.c, .bool t1] 29)) from HQ2.out.below B0.out)
    clear HQ2
    go_wp2_with fail
    change Calls _ _ _ ((w.alloc (.cells #[.int .i64 e1, .bool p1.u, .int .u64 (n64 p1.k), .int .u64 (n64 p1.l), .slice p1.a p1.rs.length p1.c, .bool q1.u, .int .u64 (n64 q1.k), .int .u64 (n64 q1.l), .slice q1.a q1.rs.length q1.c, .bool t1] 29)).alloc (.cells #[.int .i64 e1, .bool p2.u, .int .u64 (n64 p2.k), .int .u64 (n64 p2.l), .slice p2.a p2.rs.length p2.c, .bool q2.u, .int .u64 (n64 q2.k), .int .u64 (n64 q2.l), .slice q2.a q2.rs.length q2.c, .bool t1] 29)) _
    generalize (w.alloc (.cells #[.int .i64 e1, .bool p1.u, .int .u64 (n64 p1.k), .int .u64 (n64 p1.l), .slice p1.a p1.rs.length p1.c, .bool q1.u, .int .u64 (n64 q1.k), .int .u64 (n64 q1.l), .slice q1.a q1.rs.length q1.c, .bool t1] 29)).alloc (.cells #[.int .i64 e1, .bool p2.u, .int .u64 (n64 p2.k), .int .u64 (n64 p2.l), .slice p2.a p2.rs.length p2.c, .bool q2.u, .int .u64 (n64 q2.k), .int .u64 (n64 q2.l), .slice q2.a q2.rs.length q2.c, .bool t1] 29) = v0 at B0 KA0 KB0 Hp10 Hq10 Hp20 Hq20 ⊢
    generalize w.heap.size + 1 = g_B at KB0 n_A_B ⊢
    generalize w.heap.size = g_A at KA0 n_A_B ⊢
    refine (C1.out _ Hp10.out Hp20.out).mono ?_
    rintro e v1 ⟨rfl, hb⟩
    have B1 := Lib.hid (B0.out.trans (hb.mono B0.out.size))
    have KA1 := Lib.hid (KA0.out.below hb)
    have KB1 := Lib.hid (KB0.out.below hb)
    have Hp11 := Lib.hid (Hp10.out.below hb)
    have Hq11 := Lib.hid (Hq10.out.below hb)
    have Hp21 := Lib.hid (Hp20.out.below hb)
    have Hq21 := Lib.hid (Hq20.out.below hb)
    clear hb B0 KA0 KB0 Hp10 Hq10 Hp20 Hq20
    obtain ⟨⟨cA0, cA1, cA2, cA3, cA4, cA5, cA6, cA7, cA8, cA9⟩, dA0, dA1, dA2, dA3, dA4, dA5, dA6, dA7, dA8, dA9⟩ := KA1.out.of10
    obtain ⟨⟨cB0, cB1, cB2, cB3, cB4, cB5, cB6, cB7, cB8, cB9⟩, dB0, dB1, dB2, dB3, dB4, dB5, dB6, dB7, dB8, dB9⟩ := KB1.out.of10
    go_wp2_with fail
    clear cA0 cA1 cA2 cA3 cA4 cA5 cA6 cA7 cA8 cA9 dA0 dA1 dA2 dA3 dA4 dA5 dA6 dA7 dA8 dA9 cB0 cB1 cB2 cB3 cB4 cB5 cB6 cB7 cB8 cB9 dB0 dB1 dB2 dB3 dB4 dB5 dB6 dB7 dB8 dB9
    refine (C2.out _ Hq11.out Hq21.out).mono ?_
    rintro e v2 ⟨rfl, hb⟩
    have B2 := Lib.hid (B1.out.trans (hb.mono B1.out.size))
    have KA2 := Lib.hid (KA1.out.below hb)
    have KB2 := Lib.hid (KB1.out.below hb)
    have Hp12 := Lib.hid (Hp11.out.below hb)
    have Hq12 := Lib.hid (Hq11.out.below hb)
    have Hp22 := Lib.hid (Hp21.out.below hb)
    have Hq22 := Lib.hid (Hq21.out.below hb)
    clear hb B1 KA1 KB1 Hp11 Hq11 Hp21 Hq21
    obtain ⟨⟨cA0, cA1, cA2, cA3, cA4, cA5, cA6, cA7, cA8, cA9⟩, dA0, dA1, dA2, dA3, dA4, dA5, dA6, dA7, dA8, dA9⟩ := KA2.out.of10
    obtain ⟨⟨cB0, cB1, cB2, cB3, cB4, cB5, cB6, cB7, cB8, cB9⟩, dB0, dB1, dB2, dB3, dB4, dB5, dB6, dB7, dB8, dB9⟩ := KB2.out.of10
    go_wp2_with fail
    go_ret
    exact ⟨ret_bool (by simp), B2.out⟩

end Go.Proofs.Ytobfgkiccmhgdaa
namespace Go.Proofs.Ytobfgkiccmhgdaa
open Go.RowKit Go.Lib

theorem big_yes (a : Option Addr) (n cap : Nat) (w : World) (h : 1048576 < n) (hm : n ≤ 9223372036854775807) : Calls Try.prog 12 #[.slice a n cap] w fun e w' => e = .returned (.bool true) ∧ w = w' := by
  have hd : decide ((1048576 : Int) < (n : Int)) = true := by simp; omega
  go_enter Try.func12, Try.ntmps12
  go_wp2_with fail
  go_ret
  exact ⟨by simp, rfl⟩
theorem big_no (a : Option Addr) (n cap : Nat) (w : World) (h : n ≤ 1048576) : Calls Try.prog 12 #[.slice a n cap] w fun e w' => e = .returned (.bool false) ∧ w = w' := by
  have hd : decide ((1048576 : Int) < (n : Int)) = false := by simp; omega
  go_enter Try.func12, Try.ntmps12
  go_wp2_with fail
  go_ret
  exact ⟨by simp, rfl⟩
end Go.Proofs.Ytobfgkiccmhgdaa
namespace Go.Proofs.Ytobfgkiccmhgdaa
open Go.ChangeShapes Go.WideShapes Go.RowKit Go.Lib

theorem add_lit (b off j : Nat) : (⟨b, off, none⟩ : Addr).add j = ⟨b, off + j, none⟩ := by unfold Addr.add; split <;> simp_all

/-- What the walk is told of a []byte. -/
def IsBytes (w : World) (a : Option Addr) (len : Nat) (bs : List UInt8) : Prop := (bs.length = len ∧ len ≤ maxLen) ∧ Row w w.heap.size a (byteCells bs)

theorem openBytes {H : Type} {enc : TypeId × Value → H} {P : Program} {w : World} {t e : TypeId} {fuel : Nat} {a : Option Addr} {len cap : Nat} {x : DataW H × List MemPlace} (ht : P.underlying t = some (.slice e)) (he : P.underlying e = some (.int .u8)) (hc : P.cellsOf e = 1)
    (h : DataW.trod enc P w 0 (fun _ => true) true fuel t (Value.slice a len cap).cells.toList = some x) : ∃ bs : List UInt8, IsBytes w a len bs := by
  rcases open_ints ht he hc h with ⟨hcs, _⟩ | ⟨y, l, c, zs, hcs, _, hl, hm, hz, _, hcell, hwz⟩
  · simp [Value.cells] at hcs
    obtain ⟨rfl, rfl, rfl⟩ := hcs
    exact ⟨[], ⟨rfl, Nat.zero_le _⟩, Row.nil⟩
  · simp [Value.cells] at hcs
    obtain ⟨rfl, rfl, rfl⟩ := hcs
    simp only [if_true] at hz
    have hlen : ((zs.take len).map fun z => UInt8.ofNat z.toNat).length = len := by simp; omega
    refine ⟨(zs.take len).map fun z => UInt8.ofNat z.toNat, ⟨hlen, Nat.le_trans hl hm⟩, fun hx => ?_⟩
    have hpos : 0 < len := by
      rcases Nat.eq_zero_or_pos len with h | h
      · subst h; exact absurd rfl hx
      · exact h
    obtain ⟨b, off, spot⟩ := y
    have hc0 := hcell 0 (by omega)
    have hspot : spot = none := by simpa [Addr.add] using World.cell?_spot hc0
    subst hspot
    refine ⟨b, off, rfl, World.block_lt_of_cell? w ⟨b, off, none⟩ (by simpa [Addr.add] using hc0), fun j u hu => ?_⟩
    have hj : j < len := by
      have := (List.getElem?_eq_some_iff.1 hu).1
      rw [byteCells_length, hlen] at this; exact this
    have hj2 : j < zs.length := by omega
    have hb := bounds_u8 (hwz zs[j] (List.getElem_mem hj2))
    have := hcell j hj2
    rw [add_lit] at this
    rw [this, ← hu]
    simp only [byteCells, List.getElem?_map, List.getElem?_take, if_pos hj, List.getElem?_eq_getElem hj2, Option.map_some, List.getD_eq_getElem?_getD, Option.getD_some]
    rw [UInt8.toNat_ofNat']
    congr 2
    omega

/-- What the walk is told of a []string. -/
def IsTexts (w : World) (a : Option Addr) (len cap : Nat) (ss : List ByteArray) : Prop := (ss.length = len ∧ len ≤ cap ∧ cap ≤ maxLen ∧ ∀ s ∈ ss, s.size ≤ maxLen) ∧ Row w w.heap.size a (strVals ss)
theorem openStr {H : Type} {enc : TypeId × Value → H} {P : Program} {w : World} {t e : TypeId} {fuel : Nat} {a : Option Addr} {len cap : Nat} {x : DataW H × List MemPlace} (ht : P.underlying t = some (.slice e)) (he : P.underlying e = some .string) (hc : P.cellsOf e = 1)
    (h : DataW.trod enc P w 0 (fun _ => true) true fuel t (Value.slice a len cap).cells.toList = some x) : ∃ ss : List ByteArray, IsTexts w a len cap ss := by
  rcases open_strings ht he hc h with ⟨hcs, _⟩ | ⟨y, l, c, ss, hcs, _, hl, hm, hz, _, hcell, hws⟩
  · simp [Value.cells] at hcs
    obtain ⟨rfl, rfl, rfl⟩ := hcs
    exact ⟨[], ⟨rfl, Nat.le_refl _, Nat.zero_le _, fun _ h => by cases h⟩, Row.nil⟩
  · simp [Value.cells] at hcs
    obtain ⟨rfl, rfl, rfl⟩ := hcs
    simp only [if_true] at hz
    have hlen : (ss.take len).length = len := by simp; omega
    refine ⟨ss.take len, ⟨hlen, hl, hm, fun s hs => hws s (List.mem_of_mem_take hs)⟩, fun hx => ?_⟩
    have hpos : 0 < len := by
      rcases Nat.eq_zero_or_pos len with h | h
      · subst h; exact absurd rfl hx
      · exact h
    obtain ⟨b, off, spot⟩ := y
    have hc0 := hcell 0 (by omega)
    have hspot : spot = none := by simpa [Addr.add] using World.cell?_spot hc0
    subst hspot
    refine ⟨b, off, rfl, World.block_lt_of_cell? w ⟨b, off, none⟩ (by simpa [Addr.add] using hc0), fun j u hu => ?_⟩
    have hj : j < (ss.take len).length := by
      have := (List.getElem?_eq_some_iff.1 hu).1
      simpa [strVals] using this
    have hj2 : j < ss.length := by rw [hlen] at hj; omega
    rw [strVals_at _ j hj] at hu
    have := hcell j hj2
    rw [add_lit] at this
    rw [this, ← hu, List.getD_eq_getElem?_getD, List.getElem?_eq_getElem hj2]
    simp
end Go.Proofs.Ytobfgkiccmhgdaa
