/- Proved here: for every code of at most 1048576 bytes, with the keys, the Mac, the tuple and the numbers that are drawn from it: where the keys, the tuple and the numbers are valid, the cookie that impl.CookieOf makes with the current Mac and epoch is accepted by impl.CheckCookie with its epoch and index, and so it is behind one impl.Rotated, whose keys are valid and one epoch on; where nothing can be rotated the keys stay the same; where they are not valid impl.KeysOk says what the model says (a longer code is not asked); the call returns true for every argument, without condition. -/
import Derived.Test.YtobfgkiccmhgdaaRows
import Derived.Test.YtobfgkiccmhgdaaPkFnCookie
import Derived.Test.YtobfgkiccmhgdaaKeysE
import Derived.Test.YtobfgkiccmhgdaaKeysF
import Derived.Deep.RegionHeld3
import Derived.ShutString
import Derived.ChangeOld
import Derived.Below
namespace Go.Proofs.Ytobfgkiccmhgdaa.fnCookie
open Go.ChangeShapes Go.WideShapes Go.ChangeAt Go.RowKit Go.Lib

/-- The law's word: true, and what lay before the call lies as it lay. -/
def OkB (w : World) (e : Ending) (w' : World) : Prop := e = .returned (.bool true) ∧ Below w.heap.size w w'

set_option maxRecDepth 100000 in
set_option maxHeartbeats 16000000 in
theorem go (a0 : Option Addr) (cap0 : Nat) (s0 : List UInt8) (w : World) (hrow : Row w w.heap.size a0 (byteCells s0)) (hs : s0.length ≤ 1048576) :
    Calls Try.prog 3 #[.slice a0 s0.length cap0] w (OkB w) := by
  have HR := Lib.hid hrow
  clear hrow
  go_enter Try.func3, Try.ntmps3
  go_wp2_with fail
  refine (big_no _ _ _ _ hs).mono ?_
  rintro e w' ⟨rfl, rfl⟩
  have B0 := Lib.hid (Below.refl w.heap.size w)
  go_wp2_with fail
  refine (drawRot a0 s0 cap0 w HR.out hs).mono ?_
  rintro e v1 ⟨e, p, q, t, m, rfl, hx, ⟨hp, hq, hm⟩, ⟨fp, fq, fm⟩, hb⟩
  have HX := Lib.hid hx
  have Hp1 := Lib.hid hp
  have Hq1 := Lib.hid hq
  have Hm1 := Lib.hid hm
  clear hx hp hq hm
  have B1 := Lib.hid (B0.out.trans (hb.mono B0.out.size))
  clear hb B0
  have B2 := Lib.hid ((B1.out.alloc (by have h0 := B1.out.size; simp <;> omega) (.cells #[.int .i64 e, .bool p.u, .int .u64 (n64 p.k), .int .u64 (n64 p.l), .slice p.a p.rs.length p.c, .bool q.u, .int .u64 (n64 q.k), .int .u64 (n64 q.l), .slice q.a q.rs.length q.c, .bool t] 29)).alloc (by have h0 := B1.out.size; simp <;> omega) (.cells #[.bool m.u, .int .u64 (n64 m.k), .int .u64 (n64 m.l), .slice m.a m.rs.length m.c] 27))
  have Hp2 := Lib.hid ((Hp1.out.alloc (.cells #[.int .i64 e, .bool p.u, .int .u64 (n64 p.k), .int .u64 (n64 p.l), .slice p.a p.rs.length p.c, .bool q.u, .int .u64 (n64 q.k), .int .u64 (n64 q.l), .slice q.a q.rs.length q.c, .bool t] 29)).alloc (.cells #[.bool m.u, .int .u64 (n64 m.k), .int .u64 (n64 m.l), .slice m.a m.rs.length m.c] 27))
  have Hq2 := Lib.hid ((Hq1.out.alloc (.cells #[.int .i64 e, .bool p.u, .int .u64 (n64 p.k), .int .u64 (n64 p.l), .slice p.a p.rs.length p.c, .bool q.u, .int .u64 (n64 q.k), .int .u64 (n64 q.l), .slice q.a q.rs.length q.c, .bool t] 29)).alloc (.cells #[.bool m.u, .int .u64 (n64 m.k), .int .u64 (n64 m.l), .slice m.a m.rs.length m.c] 27))
  have Hm2 := Lib.hid ((Hm1.out.alloc (.cells #[.int .i64 e, .bool p.u, .int .u64 (n64 p.k), .int .u64 (n64 p.l), .slice p.a p.rs.length p.c, .bool q.u, .int .u64 (n64 q.k), .int .u64 (n64 q.l), .slice q.a q.rs.length q.c, .bool t] 29)).alloc (.cells #[.bool m.u, .int .u64 (n64 m.k), .int .u64 (n64 m.l), .slice m.a m.rs.length m.c] 27))
  have KK2 := Lib.hid (show Blk ((v1.alloc (.cells #[.int .i64 e, .bool p.u, .int .u64 (n64 p.k), .int .u64 (n64 p.l), .slice p.a p.rs.length p.c, .bool q.u, .int .u64 (n64 q.k), .int .u64 (n64 q.l), .slice q.a q.rs.length q.c, .bool t] 29)).alloc (.cells #[.bool m.u, .int .u64 (n64 m.k), .int .u64 (n64 m.l), .slice m.a m.rs.length m.c] 27)) (v1.heap.size) [.int .i64 e, .bool p.u, .int .u64 (n64 p.k), .int .u64 (n64 p.l), .slice p.a p.rs.length p.c, .bool q.u, .int .u64 (n64 q.k), .int .u64 (n64 q.l), .slice q.a q.rs.length q.c, .bool t] from ((Blk.new v1 [.int .i64 e, .bool p.u, .int .u64 (n64 p.k), .int .u64 (n64 p.l), .slice p.a p.rs.length p.c, .bool q.u, .int .u64 (n64 q.k), .int .u64 (n64 q.l), .slice q.a q.rs.length q.c, .bool t] 29).alloc (.cells #[.bool m.u, .int .u64 (n64 m.k), .int .u64 (n64 m.l), .slice m.a m.rs.length m.c] 27)))
  have n_K_M : v1.heap.size ≠ v1.heap.size + 1 := by omega
  have KM2 := Lib.hid (show Blk ((v1.alloc (.cells #[.int .i64 e, .bool p.u, .int .u64 (n64 p.k), .int .u64 (n64 p.l), .slice p.a p.rs.length p.c, .bool q.u, .int .u64 (n64 q.k), .int .u64 (n64 q.l), .slice q.a q.rs.length q.c, .bool t] 29)).alloc (.cells #[.bool m.u, .int .u64 (n64 m.k), .int .u64 (n64 m.l), .slice m.a m.rs.length m.c] 27)) (v1.heap.size + 1) [.bool m.u, .int .u64 (n64 m.k), .int .u64 (n64 m.l), .slice m.a m.rs.length m.c] by have h0 := (Blk.new (v1.alloc (.cells #[.int .i64 e, .bool p.u, .int .u64 (n64 p.k), .int .u64 (n64 p.l), .slice p.a p.rs.length p.c, .bool q.u, .int .u64 (n64 q.k), .int .u64 (n64 q.l), .slice q.a q.rs.length q.c, .bool t] 29)) [.bool m.u, .int .u64 (n64 m.k), .int .u64 (n64 m.l), .slice m.a m.rs.length m.c] 27); rwa [show (v1.alloc (.cells #[.int .i64 e, .bool p.u, .int .u64 (n64 p.k), .int .u64 (n64 p.l), .slice p.a p.rs.length p.c, .bool q.u, .int .u64 (n64 q.k), .int .u64 (n64 q.l), .slice q.a q.rs.length q.c, .bool t] 29)).heap.size = v1.heap.size + 1 by simp] at h0)
  clear B1 Hp1 Hq1 Hm1
  obtain ⟨⟨cK0, cK1, cK2, cK3, cK4, cK5, cK6, cK7, cK8, cK9⟩, dK0, dK1, dK2, dK3, dK4, dK5, dK6, dK7, dK8, dK9⟩ := KK2.out.of10
  obtain ⟨⟨cM0, cM1, cM2, cM3⟩, dM0, dM1, dM2, dM3⟩ := KM2.out.four
  go_wp2_with fail
  clear cK0 cK1 cK2 cK3 cK4 cK5 cK6 cK7 cK8 cK9 dK0 dK1 dK2 dK3 dK4 dK5 dK6 dK7 dK8 dK9 cM0 cM1 cM2 cM3 dM0 dM1 dM2 dM3
  change Calls _ _ _ ((v1.alloc (.cells #[.int .i64 e, .bool p.u, .int .u64 (n64 p.k), .int .u64 (n64 p.l), .slice p.a p.rs.length p.c, .bool q.u, .int .u64 (n64 q.k), .int .u64 (n64 q.l), .slice q.a q.rs.length q.c, .bool t] 29)).alloc (.cells #[.bool m.u, .int .u64 (n64 m.k), .int .u64 (n64 m.l), .slice m.a m.rs.length m.c] 27)) _
  generalize (v1.alloc (.cells #[.int .i64 e, .bool p.u, .int .u64 (n64 p.k), .int .u64 (n64 p.l), .slice p.a p.rs.length p.c, .bool q.u, .int .u64 (n64 q.k), .int .u64 (n64 q.l), .slice q.a q.rs.length q.c, .bool t] 29)).alloc (.cells #[.bool m.u, .int .u64 (n64 m.k), .int .u64 (n64 m.l), .slice m.a m.rs.length m.c] 27) = v2 at B2 Hp2 Hq2 Hm2 KK2 KM2 ⊢
  generalize v1.heap.size + 1 = g_M at KM2 n_K_M ⊢
  generalize v1.heap.size = g_K at KK2 n_K_M ⊢
  refine (drawMacInput a0 s0 cap0 _ ((HR.out.below B2.out).mono B2.out.size) hs).mono ?_
  rintro e v3 ⟨x, y, z, s, e2, i, rfl, hi, hb⟩
  have HI := Lib.hid hi
  clear hi HR
  have B3 := Lib.hid (B2.out.trans (hb.mono B2.out.size))
  have KK3 := Lib.hid (KK2.out.below hb)
  have KM3 := Lib.hid (KM2.out.below hb)
  have Hp3 := Lib.hid (Hp2.out.below hb)
  have Hq3 := Lib.hid (Hq2.out.below hb)
  have Hm3 := Lib.hid (Hm2.out.below hb)
  clear hb B2 KK2 KM2 Hp2 Hq2 Hm2
  have KTn := Lib.hid (Blk.new v3 [.int .i64 x, .int .i64 y, .int .i64 z] 33)
  have n_K_T : g_K ≠ v3.heap.size := by have h1 := KK3.out.lt; omega
  have n_M_T : g_M ≠ v3.heap.size := by have h1 := KM3.out.lt; omega
  have Bn := Lib.hid (B3.out.alloc B3.out.size (.cells #[.int .i64 x, .int .i64 y, .int .i64 z] 33))
  have KKn := Lib.hid (KK3.out.alloc (.cells #[.int .i64 x, .int .i64 y, .int .i64 z] 33))
  have KMn := Lib.hid (KM3.out.alloc (.cells #[.int .i64 x, .int .i64 y, .int .i64 z] 33))
  have Hpn := Lib.hid (Hp3.out.alloc (.cells #[.int .i64 x, .int .i64 y, .int .i64 z] 33))
  have Hqn := Lib.hid (Hq3.out.alloc (.cells #[.int .i64 x, .int .i64 y, .int .i64 z] 33))
  have Hmn := Lib.hid (Hm3.out.alloc (.cells #[.int .i64 x, .int .i64 y, .int .i64 z] 33))
  clear B3 KK3 KM3 Hp3 Hq3 Hm3
  obtain ⟨⟨cK0, cK1, cK2, cK3, cK4, cK5, cK6, cK7, cK8, cK9⟩, dK0, dK1, dK2, dK3, dK4, dK5, dK6, dK7, dK8, dK9⟩ := KKn.out.of10
  obtain ⟨⟨cM0, cM1, cM2, cM3⟩, dM0, dM1, dM2, dM3⟩ := KMn.out.four
  go_wp2_with fail
  clear cK0 cK1 cK2 cK3 cK4 cK5 cK6 cK7 cK8 cK9 dK0 dK1 dK2 dK3 dK4 dK5 dK6 dK7 dK8 dK9 cM0 cM1 cM2 cM3 dM0 dM1 dM2 dM3
  change Calls _ _ _ (v3.alloc (.cells #[.int .i64 x, .int .i64 y, .int .i64 z] 33)) _
  generalize v3.alloc (.cells #[.int .i64 x, .int .i64 y, .int .i64 z] 33) = v4 at KTn Bn KKn KMn Hpn Hqn Hmn ⊢
  generalize v3.heap.size = g_T at KTn n_K_T n_M_T ⊢
  clear v3
  have KK4 := KKn
  clear KKn
  have KM4 := KMn
  clear KMn
  have KT4 := KTn
  clear KTn
  have Hp4 := Hpn
  clear Hpn
  have Hq4 := Hqn
  clear Hqn
  have Hm4 := Hmn
  clear Hmn
  have B4 := Bn
  clear Bn
  have C1 := Lib.hid (fun w h1 h2 => keysOkS e p q t w h1 h2 fp fq)
  have C1i := Lib.hid (fun w h1 h2 => keysOkI e p q t w h1 h2 fp fq)
  have C2 := Lib.hid (fun w => tupOkS x y z w)
  have C3 := Lib.hid (fun w => wordOkS_b s 32 w)
  obtain ⟨b1, hb1⟩ : ∃ b, keysOk e p q t = b := ⟨_, rfl⟩
  obtain ⟨b2, hb2⟩ : ∃ b, tupOk x y z = b := ⟨_, rfl⟩
  obtain ⟨b3, hb3⟩ : ∃ b, wordOk s 32 = b := ⟨_, rfl⟩
  rw [hb1] at C1 C1i
  rw [hb2] at C2
  rw [hb3] at C3
  cases b1 with
  | false =>
    clear hb1 hb2 hb3
    refine (C1.out _ Hp4.out Hq4.out).mono ?_
    rintro e v5 ⟨rfl, hb⟩
    have B5 := Lib.hid (B4.out.trans (hb.mono B4.out.size))
    have KK5 := Lib.hid (KK4.out.below hb)
    have KM5 := Lib.hid (KM4.out.below hb)
    have KT5 := Lib.hid (KT4.out.below hb)
    have Hp5 := Lib.hid (Hp4.out.below hb)
    have Hq5 := Lib.hid (Hq4.out.below hb)
    have Hm5 := Lib.hid (Hm4.out.below hb)
    clear hb B4 KK4 KM4 KT4 Hp4 Hq4 Hm4
    obtain ⟨⟨cK0, cK1, cK2, cK3, cK4, cK5, cK6, cK7, cK8, cK9⟩, dK0, dK1, dK2, dK3, dK4, dK5, dK6, dK7, dK8, dK9⟩ := KK5.out.of10
    obtain ⟨⟨cM0, cM1, cM2, cM3⟩, dM0, dM1, dM2, dM3⟩ := KM5.out.four
    obtain ⟨⟨cT0, cT1, cT2⟩, dT0, dT1, dT2⟩ := KT5.out.o3
    go_wp2_with fail
    clear cK0 cK1 cK2 cK3 cK4 cK5 cK6 cK7 cK8 cK9 dK0 dK1 dK2 dK3 dK4 dK5 dK6 dK7 dK8 dK9 cM0 cM1 cM2 cM3 dM0 dM1 dM2 dM3 cT0 cT1 cT2 dT0 dT1 dT2
    obtain ⟨⟨cK0, cK1, cK2, cK3, cK4, cK5, cK6, cK7, cK8, cK9⟩, dK0, dK1, dK2, dK3, dK4, dK5, dK6, dK7, dK8, dK9⟩ := KK5.out.of10
    have P5_0 : True := trivial
    have P5_1 : True := trivial
    go_region_held3 (fun w' => (w'.cell? ⟨g_K, 0, none⟩ = some (.int .i64 e) ∧ w'.cell? ⟨g_K, 1, none⟩ = some (.bool p.u) ∧ w'.cell? ⟨g_K, 2, none⟩ = some (.int .u64 (n64 p.k)) ∧ w'.cell? ⟨g_K, 3, none⟩ = some (.int .u64 (n64 p.l)) ∧ w'.cell? ⟨g_K, 4, none⟩ = some (.slice p.a p.rs.length p.c) ∧ w'.cell? ⟨g_K, 5, none⟩ = some (.bool q.u) ∧ w'.cell? ⟨g_K, 6, none⟩ = some (.int .u64 (n64 q.k)) ∧ w'.cell? ⟨g_K, 7, none⟩ = some (.int .u64 (n64 q.l)) ∧ w'.cell? ⟨g_K, 8, none⟩ = some (.slice q.a q.rs.length q.c) ∧ w'.cell? ⟨g_K, 9, none⟩ = some (.bool t)))
      (first | go_keep | (exact KK6.out.of10.1) | (exact KK7.out.of10.1))
      (first | (have q := P5_0; go_at_call 18; clear q P5_0; refine (C1i.out _ Hp5.out.drew Hq5.out.drew).mono ?_; rintro e v6 ⟨rfl, hb⟩; replace hb := (Below.refl _ v5).drew.trans hb; have B6 := Lib.hid (B5.out.trans (hb.mono B5.out.size)); have KK6 := Lib.hid (KK5.out.below hb); have KM6 := Lib.hid (KM5.out.below hb); have KT6 := Lib.hid (KT5.out.below hb); have Hp6 := Lib.hid (Hp5.out.below hb); have Hq6 := Lib.hid (Hq5.out.below hb); have Hm6 := Lib.hid (Hm5.out.below hb); clear hb B5 KK5 KM5 KT5 Hp5 Hq5 Hm5) | (have q := P5_1; go_at_call 15; clear q P5_1; refine (C1.out _ Hp6.out Hq6.out).mono ?_; rintro e v7 ⟨rfl, hb⟩; have B7 := Lib.hid (B6.out.trans (hb.mono B6.out.size)); have KK7 := Lib.hid (KK6.out.below hb); have KM7 := Lib.hid (KM6.out.below hb); have KT7 := Lib.hid (KT6.out.below hb); have Hp7 := Lib.hid (Hp6.out.below hb); have Hq7 := Lib.hid (Hq6.out.below hb); have Hm7 := Lib.hid (Hm6.out.below hb); clear hb B6 KK6 KM6 KT6 Hp6 Hq6 Hm6))
    try clear cK0 cK1 cK2 cK3 cK4 cK5 cK6 cK7 cK8 cK9 dK0 dK1 dK2 dK3 dK4 dK5 dK6 dK7 dK8 dK9
    obtain ⟨⟨cK0, cK1, cK2, cK3, cK4, cK5, cK6, cK7, cK8, cK9⟩, dK0, dK1, dK2, dK3, dK4, dK5, dK6, dK7, dK8, dK9⟩ := KK7.out.of10
    obtain ⟨⟨cM0, cM1, cM2, cM3⟩, dM0, dM1, dM2, dM3⟩ := KM7.out.four
    obtain ⟨⟨cT0, cT1, cT2⟩, dT0, dT1, dT2⟩ := KT7.out.o3
    go_wp2_with fail
    go_ret
    exact ⟨rfl, B7.out⟩
  | true =>
    cases b2 with
    | false =>
      clear hb1 hb2 hb3
      refine (C1.out _ Hp4.out Hq4.out).mono ?_
      rintro e v5 ⟨rfl, hb⟩
      have B5 := Lib.hid (B4.out.trans (hb.mono B4.out.size))
      have KK5 := Lib.hid (KK4.out.below hb)
      have KM5 := Lib.hid (KM4.out.below hb)
      have KT5 := Lib.hid (KT4.out.below hb)
      have Hp5 := Lib.hid (Hp4.out.below hb)
      have Hq5 := Lib.hid (Hq4.out.below hb)
      have Hm5 := Lib.hid (Hm4.out.below hb)
      clear hb B4 KK4 KM4 KT4 Hp4 Hq4 Hm4
      obtain ⟨⟨cK0, cK1, cK2, cK3, cK4, cK5, cK6, cK7, cK8, cK9⟩, dK0, dK1, dK2, dK3, dK4, dK5, dK6, dK7, dK8, dK9⟩ := KK5.out.of10
      obtain ⟨⟨cM0, cM1, cM2, cM3⟩, dM0, dM1, dM2, dM3⟩ := KM5.out.four
      obtain ⟨⟨cT0, cT1, cT2⟩, dT0, dT1, dT2⟩ := KT5.out.o3
      go_wp2_with fail
      clear cK0 cK1 cK2 cK3 cK4 cK5 cK6 cK7 cK8 cK9 dK0 dK1 dK2 dK3 dK4 dK5 dK6 dK7 dK8 dK9 cM0 cM1 cM2 cM3 dM0 dM1 dM2 dM3 cT0 cT1 cT2 dT0 dT1 dT2
      refine (C2.out _).mono ?_
      rintro e v6 ⟨rfl, hb⟩
      have B6 := Lib.hid (B5.out.trans (hb.mono B5.out.size))
      have KK6 := Lib.hid (KK5.out.below hb)
      have KM6 := Lib.hid (KM5.out.below hb)
      have KT6 := Lib.hid (KT5.out.below hb)
      have Hp6 := Lib.hid (Hp5.out.below hb)
      have Hq6 := Lib.hid (Hq5.out.below hb)
      have Hm6 := Lib.hid (Hm5.out.below hb)
      clear hb B5 KK5 KM5 KT5 Hp5 Hq5 Hm5
      obtain ⟨⟨cK0, cK1, cK2, cK3, cK4, cK5, cK6, cK7, cK8, cK9⟩, dK0, dK1, dK2, dK3, dK4, dK5, dK6, dK7, dK8, dK9⟩ := KK6.out.of10
      obtain ⟨⟨cM0, cM1, cM2, cM3⟩, dM0, dM1, dM2, dM3⟩ := KM6.out.four
      obtain ⟨⟨cT0, cT1, cT2⟩, dT0, dT1, dT2⟩ := KT6.out.o3
      go_wp2_with fail
      clear cK0 cK1 cK2 cK3 cK4 cK5 cK6 cK7 cK8 cK9 dK0 dK1 dK2 dK3 dK4 dK5 dK6 dK7 dK8 dK9 cM0 cM1 cM2 cM3 dM0 dM1 dM2 dM3 cT0 cT1 cT2 dT0 dT1 dT2
      obtain ⟨⟨cK0, cK1, cK2, cK3, cK4, cK5, cK6, cK7, cK8, cK9⟩, dK0, dK1, dK2, dK3, dK4, dK5, dK6, dK7, dK8, dK9⟩ := KK6.out.of10
      have P6_0 : True := trivial
      have P6_1 : True := trivial
      go_region_held3 (fun w' => (w'.cell? ⟨g_K, 0, none⟩ = some (.int .i64 e) ∧ w'.cell? ⟨g_K, 1, none⟩ = some (.bool p.u) ∧ w'.cell? ⟨g_K, 2, none⟩ = some (.int .u64 (n64 p.k)) ∧ w'.cell? ⟨g_K, 3, none⟩ = some (.int .u64 (n64 p.l)) ∧ w'.cell? ⟨g_K, 4, none⟩ = some (.slice p.a p.rs.length p.c) ∧ w'.cell? ⟨g_K, 5, none⟩ = some (.bool q.u) ∧ w'.cell? ⟨g_K, 6, none⟩ = some (.int .u64 (n64 q.k)) ∧ w'.cell? ⟨g_K, 7, none⟩ = some (.int .u64 (n64 q.l)) ∧ w'.cell? ⟨g_K, 8, none⟩ = some (.slice q.a q.rs.length q.c) ∧ w'.cell? ⟨g_K, 9, none⟩ = some (.bool t)))
        (first | go_keep | (exact KK7.out.of10.1) | (exact KK8.out.of10.1))
        (first | (have q := P6_0; go_at_call 18; clear q P6_0; refine (C1i.out _ Hp6.out.drew Hq6.out.drew).mono ?_; rintro e v7 ⟨rfl, hb⟩; replace hb := (Below.refl _ v6).drew.trans hb; have B7 := Lib.hid (B6.out.trans (hb.mono B6.out.size)); have KK7 := Lib.hid (KK6.out.below hb); have KM7 := Lib.hid (KM6.out.below hb); have KT7 := Lib.hid (KT6.out.below hb); have Hp7 := Lib.hid (Hp6.out.below hb); have Hq7 := Lib.hid (Hq6.out.below hb); have Hm7 := Lib.hid (Hm6.out.below hb); clear hb B6 KK6 KM6 KT6 Hp6 Hq6 Hm6) | (have q := P6_1; go_at_call 15; clear q P6_1; refine (C1.out _ Hp7.out Hq7.out).mono ?_; rintro e v8 ⟨rfl, hb⟩; have B8 := Lib.hid (B7.out.trans (hb.mono B7.out.size)); have KK8 := Lib.hid (KK7.out.below hb); have KM8 := Lib.hid (KM7.out.below hb); have KT8 := Lib.hid (KT7.out.below hb); have Hp8 := Lib.hid (Hp7.out.below hb); have Hq8 := Lib.hid (Hq7.out.below hb); have Hm8 := Lib.hid (Hm7.out.below hb); clear hb B7 KK7 KM7 KT7 Hp7 Hq7 Hm7))
      try clear cK0 cK1 cK2 cK3 cK4 cK5 cK6 cK7 cK8 cK9 dK0 dK1 dK2 dK3 dK4 dK5 dK6 dK7 dK8 dK9
      obtain ⟨⟨cK0, cK1, cK2, cK3, cK4, cK5, cK6, cK7, cK8, cK9⟩, dK0, dK1, dK2, dK3, dK4, dK5, dK6, dK7, dK8, dK9⟩ := KK8.out.of10
      obtain ⟨⟨cM0, cM1, cM2, cM3⟩, dM0, dM1, dM2, dM3⟩ := KM8.out.four
      obtain ⟨⟨cT0, cT1, cT2⟩, dT0, dT1, dT2⟩ := KT8.out.o3
      go_wp2_with fail
      go_ret
      exact ⟨rfl, B8.out⟩
    | true =>
      cases b3 with
      | false =>
        clear hb1 hb2 hb3
        refine (C1.out _ Hp4.out Hq4.out).mono ?_
        rintro e v5 ⟨rfl, hb⟩
        have B5 := Lib.hid (B4.out.trans (hb.mono B4.out.size))
        have KK5 := Lib.hid (KK4.out.below hb)
        have KM5 := Lib.hid (KM4.out.below hb)
        have KT5 := Lib.hid (KT4.out.below hb)
        have Hp5 := Lib.hid (Hp4.out.below hb)
        have Hq5 := Lib.hid (Hq4.out.below hb)
        have Hm5 := Lib.hid (Hm4.out.below hb)
        clear hb B4 KK4 KM4 KT4 Hp4 Hq4 Hm4
        obtain ⟨⟨cK0, cK1, cK2, cK3, cK4, cK5, cK6, cK7, cK8, cK9⟩, dK0, dK1, dK2, dK3, dK4, dK5, dK6, dK7, dK8, dK9⟩ := KK5.out.of10
        obtain ⟨⟨cM0, cM1, cM2, cM3⟩, dM0, dM1, dM2, dM3⟩ := KM5.out.four
        obtain ⟨⟨cT0, cT1, cT2⟩, dT0, dT1, dT2⟩ := KT5.out.o3
        go_wp2_with fail
        clear cK0 cK1 cK2 cK3 cK4 cK5 cK6 cK7 cK8 cK9 dK0 dK1 dK2 dK3 dK4 dK5 dK6 dK7 dK8 dK9 cM0 cM1 cM2 cM3 dM0 dM1 dM2 dM3 cT0 cT1 cT2 dT0 dT1 dT2
        refine (C2.out _).mono ?_
        rintro e v6 ⟨rfl, hb⟩
        have B6 := Lib.hid (B5.out.trans (hb.mono B5.out.size))
        have KK6 := Lib.hid (KK5.out.below hb)
        have KM6 := Lib.hid (KM5.out.below hb)
        have KT6 := Lib.hid (KT5.out.below hb)
        have Hp6 := Lib.hid (Hp5.out.below hb)
        have Hq6 := Lib.hid (Hq5.out.below hb)
        have Hm6 := Lib.hid (Hm5.out.below hb)
        clear hb B5 KK5 KM5 KT5 Hp5 Hq5 Hm5
        obtain ⟨⟨cK0, cK1, cK2, cK3, cK4, cK5, cK6, cK7, cK8, cK9⟩, dK0, dK1, dK2, dK3, dK4, dK5, dK6, dK7, dK8, dK9⟩ := KK6.out.of10
        obtain ⟨⟨cM0, cM1, cM2, cM3⟩, dM0, dM1, dM2, dM3⟩ := KM6.out.four
        obtain ⟨⟨cT0, cT1, cT2⟩, dT0, dT1, dT2⟩ := KT6.out.o3
        go_wp2_with fail
        clear cK0 cK1 cK2 cK3 cK4 cK5 cK6 cK7 cK8 cK9 dK0 dK1 dK2 dK3 dK4 dK5 dK6 dK7 dK8 dK9 cM0 cM1 cM2 cM3 dM0 dM1 dM2 dM3 cT0 cT1 cT2 dT0 dT1 dT2
        refine (C3.out _).mono ?_
        rintro e v7 ⟨rfl, hb⟩
        have B7 := Lib.hid (B6.out.trans (hb.mono B6.out.size))
        have KK7 := Lib.hid (KK6.out.below hb)
        have KM7 := Lib.hid (KM6.out.below hb)
        have KT7 := Lib.hid (KT6.out.below hb)
        have Hp7 := Lib.hid (Hp6.out.below hb)
        have Hq7 := Lib.hid (Hq6.out.below hb)
        have Hm7 := Lib.hid (Hm6.out.below hb)
        clear hb B6 KK6 KM6 KT6 Hp6 Hq6 Hm6
        obtain ⟨⟨cK0, cK1, cK2, cK3, cK4, cK5, cK6, cK7, cK8, cK9⟩, dK0, dK1, dK2, dK3, dK4, dK5, dK6, dK7, dK8, dK9⟩ := KK7.out.of10
        obtain ⟨⟨cM0, cM1, cM2, cM3⟩, dM0, dM1, dM2, dM3⟩ := KM7.out.four
        obtain ⟨⟨cT0, cT1, cT2⟩, dT0, dT1, dT2⟩ := KT7.out.o3
        go_wp2_with fail
        clear cK0 cK1 cK2 cK3 cK4 cK5 cK6 cK7 cK8 cK9 dK0 dK1 dK2 dK3 dK4 dK5 dK6 dK7 dK8 dK9 cM0 cM1 cM2 cM3 dM0 dM1 dM2 dM3 cT0 cT1 cT2 dT0 dT1 dT2
        obtain ⟨⟨cK0, cK1, cK2, cK3, cK4, cK5, cK6, cK7, cK8, cK9⟩, dK0, dK1, dK2, dK3, dK4, dK5, dK6, dK7, dK8, dK9⟩ := KK7.out.of10
        have P7_0 : True := trivial
        have P7_1 : True := trivial
        go_region_held3 (fun w' => (w'.cell? ⟨g_K, 0, none⟩ = some (.int .i64 e) ∧ w'.cell? ⟨g_K, 1, none⟩ = some (.bool p.u) ∧ w'.cell? ⟨g_K, 2, none⟩ = some (.int .u64 (n64 p.k)) ∧ w'.cell? ⟨g_K, 3, none⟩ = some (.int .u64 (n64 p.l)) ∧ w'.cell? ⟨g_K, 4, none⟩ = some (.slice p.a p.rs.length p.c) ∧ w'.cell? ⟨g_K, 5, none⟩ = some (.bool q.u) ∧ w'.cell? ⟨g_K, 6, none⟩ = some (.int .u64 (n64 q.k)) ∧ w'.cell? ⟨g_K, 7, none⟩ = some (.int .u64 (n64 q.l)) ∧ w'.cell? ⟨g_K, 8, none⟩ = some (.slice q.a q.rs.length q.c) ∧ w'.cell? ⟨g_K, 9, none⟩ = some (.bool t)))
          (first | go_keep | (exact KK8.out.of10.1) | (exact KK9.out.of10.1))
          (first | (have q := P7_0; go_at_call 18; clear q P7_0; refine (C1i.out _ Hp7.out.drew Hq7.out.drew).mono ?_; rintro e v8 ⟨rfl, hb⟩; replace hb := (Below.refl _ v7).drew.trans hb; have B8 := Lib.hid (B7.out.trans (hb.mono B7.out.size)); have KK8 := Lib.hid (KK7.out.below hb); have KM8 := Lib.hid (KM7.out.below hb); have KT8 := Lib.hid (KT7.out.below hb); have Hp8 := Lib.hid (Hp7.out.below hb); have Hq8 := Lib.hid (Hq7.out.below hb); have Hm8 := Lib.hid (Hm7.out.below hb); clear hb B7 KK7 KM7 KT7 Hp7 Hq7 Hm7) | (have q := P7_1; go_at_call 15; clear q P7_1; refine (C1.out _ Hp8.out Hq8.out).mono ?_; rintro e v9 ⟨rfl, hb⟩; have B9 := Lib.hid (B8.out.trans (hb.mono B8.out.size)); have KK9 := Lib.hid (KK8.out.below hb); have KM9 := Lib.hid (KM8.out.below hb); have KT9 := Lib.hid (KT8.out.below hb); have Hp9 := Lib.hid (Hp8.out.below hb); have Hq9 := Lib.hid (Hq8.out.below hb); have Hm9 := Lib.hid (Hm8.out.below hb); clear hb B8 KK8 KM8 KT8 Hp8 Hq8 Hm8))
        try clear cK0 cK1 cK2 cK3 cK4 cK5 cK6 cK7 cK8 cK9 dK0 dK1 dK2 dK3 dK4 dK5 dK6 dK7 dK8 dK9
        obtain ⟨⟨cK0, cK1, cK2, cK3, cK4, cK5, cK6, cK7, cK8, cK9⟩, dK0, dK1, dK2, dK3, dK4, dK5, dK6, dK7, dK8, dK9⟩ := KK9.out.of10
        obtain ⟨⟨cM0, cM1, cM2, cM3⟩, dM0, dM1, dM2, dM3⟩ := KM9.out.four
        obtain ⟨⟨cT0, cT1, cT2⟩, dT0, dT1, dT2⟩ := KT9.out.o3
        go_wp2_with fail
        go_ret
        exact ⟨rfl, B9.out⟩
      | true =>
        by_cases hi0 : i < 0
        case pos =>
          clear hb1 hb2 hb3
          refine (C1.out _ Hp4.out Hq4.out).mono ?_
          rintro e v5 ⟨rfl, hb⟩
          have B5 := Lib.hid (B4.out.trans (hb.mono B4.out.size))
          have KK5 := Lib.hid (KK4.out.below hb)
          have KM5 := Lib.hid (KM4.out.below hb)
          have KT5 := Lib.hid (KT4.out.below hb)
          have Hp5 := Lib.hid (Hp4.out.below hb)
          have Hq5 := Lib.hid (Hq4.out.below hb)
          have Hm5 := Lib.hid (Hm4.out.below hb)
          clear hb B4 KK4 KM4 KT4 Hp4 Hq4 Hm4
          obtain ⟨⟨cK0, cK1, cK2, cK3, cK4, cK5, cK6, cK7, cK8, cK9⟩, dK0, dK1, dK2, dK3, dK4, dK5, dK6, dK7, dK8, dK9⟩ := KK5.out.of10
          obtain ⟨⟨cM0, cM1, cM2, cM3⟩, dM0, dM1, dM2, dM3⟩ := KM5.out.four
          obtain ⟨⟨cT0, cT1, cT2⟩, dT0, dT1, dT2⟩ := KT5.out.o3
          go_wp2_with fail
          clear cK0 cK1 cK2 cK3 cK4 cK5 cK6 cK7 cK8 cK9 dK0 dK1 dK2 dK3 dK4 dK5 dK6 dK7 dK8 dK9 cM0 cM1 cM2 cM3 dM0 dM1 dM2 dM3 cT0 cT1 cT2 dT0 dT1 dT2
          refine (C2.out _).mono ?_
          rintro e v6 ⟨rfl, hb⟩
          have B6 := Lib.hid (B5.out.trans (hb.mono B5.out.size))
          have KK6 := Lib.hid (KK5.out.below hb)
          have KM6 := Lib.hid (KM5.out.below hb)
          have KT6 := Lib.hid (KT5.out.below hb)
          have Hp6 := Lib.hid (Hp5.out.below hb)
          have Hq6 := Lib.hid (Hq5.out.below hb)
          have Hm6 := Lib.hid (Hm5.out.below hb)
          clear hb B5 KK5 KM5 KT5 Hp5 Hq5 Hm5
          obtain ⟨⟨cK0, cK1, cK2, cK3, cK4, cK5, cK6, cK7, cK8, cK9⟩, dK0, dK1, dK2, dK3, dK4, dK5, dK6, dK7, dK8, dK9⟩ := KK6.out.of10
          obtain ⟨⟨cM0, cM1, cM2, cM3⟩, dM0, dM1, dM2, dM3⟩ := KM6.out.four
          obtain ⟨⟨cT0, cT1, cT2⟩, dT0, dT1, dT2⟩ := KT6.out.o3
          go_wp2_with fail
          clear cK0 cK1 cK2 cK3 cK4 cK5 cK6 cK7 cK8 cK9 dK0 dK1 dK2 dK3 dK4 dK5 dK6 dK7 dK8 dK9 cM0 cM1 cM2 cM3 dM0 dM1 dM2 dM3 cT0 cT1 cT2 dT0 dT1 dT2
          refine (C3.out _).mono ?_
          rintro e v7 ⟨rfl, hb⟩
          have B7 := Lib.hid (B6.out.trans (hb.mono B6.out.size))
          have KK7 := Lib.hid (KK6.out.below hb)
          have KM7 := Lib.hid (KM6.out.below hb)
          have KT7 := Lib.hid (KT6.out.below hb)
          have Hp7 := Lib.hid (Hp6.out.below hb)
          have Hq7 := Lib.hid (Hq6.out.below hb)
          have Hm7 := Lib.hid (Hm6.out.below hb)
          clear hb B6 KK6 KM6 KT6 Hp6 Hq6 Hm6
          obtain ⟨⟨cK0, cK1, cK2, cK3, cK4, cK5, cK6, cK7, cK8, cK9⟩, dK0, dK1, dK2, dK3, dK4, dK5, dK6, dK7, dK8, dK9⟩ := KK7.out.of10
          obtain ⟨⟨cM0, cM1, cM2, cM3⟩, dM0, dM1, dM2, dM3⟩ := KM7.out.four
          obtain ⟨⟨cT0, cT1, cT2⟩, dT0, dT1, dT2⟩ := KT7.out.o3
          go_wp2_with fail
          clear cK0 cK1 cK2 cK3 cK4 cK5 cK6 cK7 cK8 cK9 dK0 dK1 dK2 dK3 dK4 dK5 dK6 dK7 dK8 dK9 cM0 cM1 cM2 cM3 dM0 dM1 dM2 dM3 cT0 cT1 cT2 dT0 dT1 dT2
          obtain ⟨⟨cK0, cK1, cK2, cK3, cK4, cK5, cK6, cK7, cK8, cK9⟩, dK0, dK1, dK2, dK3, dK4, dK5, dK6, dK7, dK8, dK9⟩ := KK7.out.of10
          have P7_0 : True := trivial
          have P7_1 : True := trivial
          go_region_held3 (fun w' => (w'.cell? ⟨g_K, 0, none⟩ = some (.int .i64 e) ∧ w'.cell? ⟨g_K, 1, none⟩ = some (.bool p.u) ∧ w'.cell? ⟨g_K, 2, none⟩ = some (.int .u64 (n64 p.k)) ∧ w'.cell? ⟨g_K, 3, none⟩ = some (.int .u64 (n64 p.l)) ∧ w'.cell? ⟨g_K, 4, none⟩ = some (.slice p.a p.rs.length p.c) ∧ w'.cell? ⟨g_K, 5, none⟩ = some (.bool q.u) ∧ w'.cell? ⟨g_K, 6, none⟩ = some (.int .u64 (n64 q.k)) ∧ w'.cell? ⟨g_K, 7, none⟩ = some (.int .u64 (n64 q.l)) ∧ w'.cell? ⟨g_K, 8, none⟩ = some (.slice q.a q.rs.length q.c) ∧ w'.cell? ⟨g_K, 9, none⟩ = some (.bool t)))
            (first | go_keep | (exact KK8.out.of10.1) | (exact KK9.out.of10.1))
            (first | (have q := P7_0; go_at_call 18; clear q P7_0; refine (C1i.out _ Hp7.out.drew Hq7.out.drew).mono ?_; rintro e v8 ⟨rfl, hb⟩; replace hb := (Below.refl _ v7).drew.trans hb; have B8 := Lib.hid (B7.out.trans (hb.mono B7.out.size)); have KK8 := Lib.hid (KK7.out.below hb); have KM8 := Lib.hid (KM7.out.below hb); have KT8 := Lib.hid (KT7.out.below hb); have Hp8 := Lib.hid (Hp7.out.below hb); have Hq8 := Lib.hid (Hq7.out.below hb); have Hm8 := Lib.hid (Hm7.out.below hb); clear hb B7 KK7 KM7 KT7 Hp7 Hq7 Hm7) | (have q := P7_1; go_at_call 15; clear q P7_1; refine (C1.out _ Hp8.out Hq8.out).mono ?_; rintro e v9 ⟨rfl, hb⟩; have B9 := Lib.hid (B8.out.trans (hb.mono B8.out.size)); have KK9 := Lib.hid (KK8.out.below hb); have KM9 := Lib.hid (KM8.out.below hb); have KT9 := Lib.hid (KT8.out.below hb); have Hp9 := Lib.hid (Hp8.out.below hb); have Hq9 := Lib.hid (Hq8.out.below hb); have Hm9 := Lib.hid (Hm8.out.below hb); clear hb B8 KK8 KM8 KT8 Hp8 Hq8 Hm8))
          try clear cK0 cK1 cK2 cK3 cK4 cK5 cK6 cK7 cK8 cK9 dK0 dK1 dK2 dK3 dK4 dK5 dK6 dK7 dK8 dK9
          obtain ⟨⟨cK0, cK1, cK2, cK3, cK4, cK5, cK6, cK7, cK8, cK9⟩, dK0, dK1, dK2, dK3, dK4, dK5, dK6, dK7, dK8, dK9⟩ := KK9.out.of10
          obtain ⟨⟨cM0, cM1, cM2, cM3⟩, dM0, dM1, dM2, dM3⟩ := KM9.out.four
          obtain ⟨⟨cT0, cT1, cT2⟩, dT0, dT1, dT2⟩ := KT9.out.o3
          go_wp2_with fail
          go_ret
          exact ⟨rfl, B9.out⟩
        by_cases hi7 : 7 < i
        case pos =>
          clear hb1 hb2 hb3
          refine (C1.out _ Hp4.out Hq4.out).mono ?_
          rintro e v5 ⟨rfl, hb⟩
          have B5 := Lib.hid (B4.out.trans (hb.mono B4.out.size))
          have KK5 := Lib.hid (KK4.out.below hb)
          have KM5 := Lib.hid (KM4.out.below hb)
          have KT5 := Lib.hid (KT4.out.below hb)
          have Hp5 := Lib.hid (Hp4.out.below hb)
          have Hq5 := Lib.hid (Hq4.out.below hb)
          have Hm5 := Lib.hid (Hm4.out.below hb)
          clear hb B4 KK4 KM4 KT4 Hp4 Hq4 Hm4
          obtain ⟨⟨cK0, cK1, cK2, cK3, cK4, cK5, cK6, cK7, cK8, cK9⟩, dK0, dK1, dK2, dK3, dK4, dK5, dK6, dK7, dK8, dK9⟩ := KK5.out.of10
          obtain ⟨⟨cM0, cM1, cM2, cM3⟩, dM0, dM1, dM2, dM3⟩ := KM5.out.four
          obtain ⟨⟨cT0, cT1, cT2⟩, dT0, dT1, dT2⟩ := KT5.out.o3
          go_wp2_with fail
          clear cK0 cK1 cK2 cK3 cK4 cK5 cK6 cK7 cK8 cK9 dK0 dK1 dK2 dK3 dK4 dK5 dK6 dK7 dK8 dK9 cM0 cM1 cM2 cM3 dM0 dM1 dM2 dM3 cT0 cT1 cT2 dT0 dT1 dT2
          refine (C2.out _).mono ?_
          rintro e v6 ⟨rfl, hb⟩
          have B6 := Lib.hid (B5.out.trans (hb.mono B5.out.size))
          have KK6 := Lib.hid (KK5.out.below hb)
          have KM6 := Lib.hid (KM5.out.below hb)
          have KT6 := Lib.hid (KT5.out.below hb)
          have Hp6 := Lib.hid (Hp5.out.below hb)
          have Hq6 := Lib.hid (Hq5.out.below hb)
          have Hm6 := Lib.hid (Hm5.out.below hb)
          clear hb B5 KK5 KM5 KT5 Hp5 Hq5 Hm5
          obtain ⟨⟨cK0, cK1, cK2, cK3, cK4, cK5, cK6, cK7, cK8, cK9⟩, dK0, dK1, dK2, dK3, dK4, dK5, dK6, dK7, dK8, dK9⟩ := KK6.out.of10
          obtain ⟨⟨cM0, cM1, cM2, cM3⟩, dM0, dM1, dM2, dM3⟩ := KM6.out.four
          obtain ⟨⟨cT0, cT1, cT2⟩, dT0, dT1, dT2⟩ := KT6.out.o3
          go_wp2_with fail
          clear cK0 cK1 cK2 cK3 cK4 cK5 cK6 cK7 cK8 cK9 dK0 dK1 dK2 dK3 dK4 dK5 dK6 dK7 dK8 dK9 cM0 cM1 cM2 cM3 dM0 dM1 dM2 dM3 cT0 cT1 cT2 dT0 dT1 dT2
          refine (C3.out _).mono ?_
          rintro e v7 ⟨rfl, hb⟩
          have B7 := Lib.hid (B6.out.trans (hb.mono B6.out.size))
          have KK7 := Lib.hid (KK6.out.below hb)
          have KM7 := Lib.hid (KM6.out.below hb)
          have KT7 := Lib.hid (KT6.out.below hb)
          have Hp7 := Lib.hid (Hp6.out.below hb)
          have Hq7 := Lib.hid (Hq6.out.below hb)
          have Hm7 := Lib.hid (Hm6.out.below hb)
          clear hb B6 KK6 KM6 KT6 Hp6 Hq6 Hm6
          obtain ⟨⟨cK0, cK1, cK2, cK3, cK4, cK5, cK6, cK7, cK8, cK9⟩, dK0, dK1, dK2, dK3, dK4, dK5, dK6, dK7, dK8, dK9⟩ := KK7.out.of10
          obtain ⟨⟨cM0, cM1, cM2, cM3⟩, dM0, dM1, dM2, dM3⟩ := KM7.out.four
          obtain ⟨⟨cT0, cT1, cT2⟩, dT0, dT1, dT2⟩ := KT7.out.o3
          go_wp2_with fail
          clear cK0 cK1 cK2 cK3 cK4 cK5 cK6 cK7 cK8 cK9 dK0 dK1 dK2 dK3 dK4 dK5 dK6 dK7 dK8 dK9 cM0 cM1 cM2 cM3 dM0 dM1 dM2 dM3 cT0 cT1 cT2 dT0 dT1 dT2
          obtain ⟨⟨cK0, cK1, cK2, cK3, cK4, cK5, cK6, cK7, cK8, cK9⟩, dK0, dK1, dK2, dK3, dK4, dK5, dK6, dK7, dK8, dK9⟩ := KK7.out.of10
          have P7_0 : True := trivial
          have P7_1 : True := trivial
          go_region_held3 (fun w' => (w'.cell? ⟨g_K, 0, none⟩ = some (.int .i64 e) ∧ w'.cell? ⟨g_K, 1, none⟩ = some (.bool p.u) ∧ w'.cell? ⟨g_K, 2, none⟩ = some (.int .u64 (n64 p.k)) ∧ w'.cell? ⟨g_K, 3, none⟩ = some (.int .u64 (n64 p.l)) ∧ w'.cell? ⟨g_K, 4, none⟩ = some (.slice p.a p.rs.length p.c) ∧ w'.cell? ⟨g_K, 5, none⟩ = some (.bool q.u) ∧ w'.cell? ⟨g_K, 6, none⟩ = some (.int .u64 (n64 q.k)) ∧ w'.cell? ⟨g_K, 7, none⟩ = some (.int .u64 (n64 q.l)) ∧ w'.cell? ⟨g_K, 8, none⟩ = some (.slice q.a q.rs.length q.c) ∧ w'.cell? ⟨g_K, 9, none⟩ = some (.bool t)))
            (first | go_keep | (exact KK8.out.of10.1) | (exact KK9.out.of10.1))
            (first | (have q := P7_0; go_at_call 18; clear q P7_0; refine (C1i.out _ Hp7.out.drew Hq7.out.drew).mono ?_; rintro e v8 ⟨rfl, hb⟩; replace hb := (Below.refl _ v7).drew.trans hb; have B8 := Lib.hid (B7.out.trans (hb.mono B7.out.size)); have KK8 := Lib.hid (KK7.out.below hb); have KM8 := Lib.hid (KM7.out.below hb); have KT8 := Lib.hid (KT7.out.below hb); have Hp8 := Lib.hid (Hp7.out.below hb); have Hq8 := Lib.hid (Hq7.out.below hb); have Hm8 := Lib.hid (Hm7.out.below hb); clear hb B7 KK7 KM7 KT7 Hp7 Hq7 Hm7) | (have q := P7_1; go_at_call 15; clear q P7_1; refine (C1.out _ Hp8.out Hq8.out).mono ?_; rintro e v9 ⟨rfl, hb⟩; have B9 := Lib.hid (B8.out.trans (hb.mono B8.out.size)); have KK9 := Lib.hid (KK8.out.below hb); have KM9 := Lib.hid (KM8.out.below hb); have KT9 := Lib.hid (KT8.out.below hb); have Hp9 := Lib.hid (Hp8.out.below hb); have Hq9 := Lib.hid (Hq8.out.below hb); have Hm9 := Lib.hid (Hm8.out.below hb); clear hb B8 KK8 KM8 KT8 Hp8 Hq8 Hm8))
          try clear cK0 cK1 cK2 cK3 cK4 cK5 cK6 cK7 cK8 cK9 dK0 dK1 dK2 dK3 dK4 dK5 dK6 dK7 dK8 dK9
          obtain ⟨⟨cK0, cK1, cK2, cK3, cK4, cK5, cK6, cK7, cK8, cK9⟩, dK0, dK1, dK2, dK3, dK4, dK5, dK6, dK7, dK8, dK9⟩ := KK9.out.of10
          obtain ⟨⟨cM0, cM1, cM2, cM3⟩, dM0, dM1, dM2, dM3⟩ := KM9.out.four
          obtain ⟨⟨cT0, cT1, cT2⟩, dT0, dT1, dT2⟩ := KT9.out.o3
          go_wp2_with fail
          go_ret
          exact ⟨rfl, B9.out⟩
        have ha : macArg x y z s e i = true := by unfold macArg; rw [hb2, hb3, (word32_iff e).2 (keysOk_all hb1).1]; simp; omega
        obtain ⟨⟨e0, e1⟩, _⟩ := keysOk_all hb1
        have D1 : Hid (∀ w, p.On w → Calls Try.prog 19 #[.agg #[.bool p.u, .int .u64 (n64 p.k), .int .u64 (n64 p.l), .slice p.a p.rs.length p.c], .agg #[.int .i64 x, .int .i64 y, .int .i64 z], .int .i64 s, .int .i64 e, .int .i64 i] w (EndN (cookieOf p x y z s e i) w)) := fun w h => cookieOfI p x y z s e i w h fp
        have D2 : Hid (∀ w, p.On w → q.On w → Calls Try.prog 20 #[.agg #[.int .i64 e, .bool p.u, .int .u64 (n64 p.k), .int .u64 (n64 p.l), .slice p.a p.rs.length p.c, .bool q.u, .int .u64 (n64 q.k), .int .u64 (n64 q.l), .slice q.a q.rs.length q.c, .bool t], .agg #[.int .i64 x, .int .i64 y, .int .i64 z], .int .i64 s, .int .i64 (cookieOf p x y z s e i)] w (EndC (e, i, true) w)) := by intro w h1 h2; have h := checkI e p q t x y z s (cookieOf p x y z s e i) w h1 h2 fp fq; rwa [ck_now hb1 ha] at h
        have D3 := Lib.hid (fun w h1 h2 h3 => rotatedI e p q m t w h1 h2 h3 fp fq fm)
        have D4 := Lib.hid (fun w h => M.macOkS m w h fm)
        have D5 : Hid (m.ok = true → (e == 4294967295) = false → ∀ (a b : Option Addr) (c d : Nat) (w : World), (m.at a c).On w → (p.at b d).On w → Calls Try.prog 20 #[.agg #[.int .i64 (e + 1), .bool m.u, .int .u64 (n64 m.k), .int .u64 (n64 m.l), .slice a m.rs.length c, .bool p.u, .int .u64 (n64 p.k), .int .u64 (n64 p.l), .slice b p.rs.length d, .bool true], .agg #[.int .i64 x, .int .i64 y, .int .i64 z], .int .i64 s, .int .i64 (cookieOf p x y z s e i)] w (EndC (e, i, true) w)) := by intro hm he a b c d w h1 h2; have h : Calls Try.prog 20 #[.agg #[.int .i64 (e + 1), .bool m.u, .int .u64 (n64 m.k), .int .u64 (n64 m.l), .slice a m.rs.length c, .bool p.u, .int .u64 (n64 p.k), .int .u64 (n64 p.l), .slice b p.rs.length d, .bool true], .agg #[.int .i64 x, .int .i64 y, .int .i64 z], .int .i64 s, .int .i64 (cookieOf p x y z s e i)] w (EndC (ck (e + 1) m p true x y z s (cookieOf p x y z s e i)) w) := checkI (e + 1) (m.at a c) (p.at b d) true x y z s _ w h1 h2 fm fp; rwa [ck_next hb1 hm he ha] at h
        have D6 : Hid (m.ok = true → (e == 4294967295) = false → ∀ (a b : Option Addr) (c d : Nat) (w : World), (m.at a c).On w → (p.at b d).On w → Calls Try.prog 15 #[.agg #[.int .i64 (e + 1), .bool m.u, .int .u64 (n64 m.k), .int .u64 (n64 m.l), .slice a m.rs.length c, .bool p.u, .int .u64 (n64 p.k), .int .u64 (n64 p.l), .slice b p.rs.length d, .bool true]] w (EndB true w)) := by intro hm he a b c d w h1 h2; have h : Calls Try.prog 15 #[.agg #[.int .i64 (e + 1), .bool m.u, .int .u64 (n64 m.k), .int .u64 (n64 m.l), .slice a m.rs.length c, .bool p.u, .int .u64 (n64 p.k), .int .u64 (n64 p.l), .slice b p.rs.length d, .bool true]] w (EndB (keysOk (e + 1) m p true) w) := keysOkS (e + 1) (m.at a c) (p.at b d) true w h1 h2 fm fp; rwa [keysOk_next hb1 hm he] at h
        have D7 : Hid (∀ (a b : Option Addr) (c d : Nat) (w : World), (p.at a c).On w → (q.at b d).On w → p.On w → q.On w → Calls Try.prog 23 #[.agg #[.int .i64 e, .bool p.u, .int .u64 (n64 p.k), .int .u64 (n64 p.l), .slice a p.rs.length c, .bool q.u, .int .u64 (n64 q.k), .int .u64 (n64 q.l), .slice b q.rs.length d, .bool t], .agg #[.int .i64 e, .bool p.u, .int .u64 (n64 p.k), .int .u64 (n64 p.l), .slice p.a p.rs.length p.c, .bool q.u, .int .u64 (n64 q.k), .int .u64 (n64 q.l), .slice q.a q.rs.length q.c, .bool t]] w (EndB true w)) := by intro a b c d w h1 h2 h3 h4; have h := sameKeysS e e (p.at a c) (q.at b d) p q t t w h1 h2 h3 h4 fp fq; rwa [show sameK e e (p.at a c) (q.at b d) p q t t = true by unfold sameK; rw [show (p.at a c).same p = p.same p from rfl, show (q.at b d).same q = q.same q from rfl, M.same_self, M.same_self]; simp] at h
        obtain ⟨ro, hro⟩ : ∃ b, rotOk e p q m t = b := ⟨_, rfl⟩
        have hro2 : ro = (m.ok && !(e == 4294967295)) := by rw [← hro]; unfold rotOk; rw [hb1, Bool.true_and]
        obtain ⟨mo, hmo⟩ : ∃ b, m.ok = b := ⟨_, rfl⟩
        rw [hmo] at D4 hro2
        have HD5 := Lib.hid (fun (h : mo = true) => D5.out (hmo.trans h))
        have HD6 := Lib.hid (fun (h : mo = true) => D6.out (hmo.trans h))
        clear D5 D6
        generalize cookieOf p x y z s e i = c at D1 D2 HD5
        clear ha hb1 hb2 hb3 C1i
        refine (C1.out _ Hp4.out Hq4.out).mono ?_
        rintro e v5 ⟨rfl, hb⟩
        have B5 := Lib.hid (B4.out.trans (hb.mono B4.out.size))
        have KK5 := Lib.hid (KK4.out.below hb)
        have KM5 := Lib.hid (KM4.out.below hb)
        have KT5 := Lib.hid (KT4.out.below hb)
        have Hp5 := Lib.hid (Hp4.out.below hb)
        have Hq5 := Lib.hid (Hq4.out.below hb)
        have Hm5 := Lib.hid (Hm4.out.below hb)
        clear hb B4 KK4 KM4 KT4 Hp4 Hq4 Hm4
        obtain ⟨⟨cK0, cK1, cK2, cK3, cK4, cK5, cK6, cK7, cK8, cK9⟩, dK0, dK1, dK2, dK3, dK4, dK5, dK6, dK7, dK8, dK9⟩ := KK5.out.of10
        obtain ⟨⟨cM0, cM1, cM2, cM3⟩, dM0, dM1, dM2, dM3⟩ := KM5.out.four
        obtain ⟨⟨cT0, cT1, cT2⟩, dT0, dT1, dT2⟩ := KT5.out.o3
        go_wp2_with fail
        clear cK0 cK1 cK2 cK3 cK4 cK5 cK6 cK7 cK8 cK9 dK0 dK1 dK2 dK3 dK4 dK5 dK6 dK7 dK8 dK9 cM0 cM1 cM2 cM3 dM0 dM1 dM2 dM3 cT0 cT1 cT2 dT0 dT1 dT2
        refine (C2.out _).mono ?_
        rintro e v6 ⟨rfl, hb⟩
        have B6 := Lib.hid (B5.out.trans (hb.mono B5.out.size))
        have KK6 := Lib.hid (KK5.out.below hb)
        have KM6 := Lib.hid (KM5.out.below hb)
        have KT6 := Lib.hid (KT5.out.below hb)
        have Hp6 := Lib.hid (Hp5.out.below hb)
        have Hq6 := Lib.hid (Hq5.out.below hb)
        have Hm6 := Lib.hid (Hm5.out.below hb)
        clear hb B5 KK5 KM5 KT5 Hp5 Hq5 Hm5
        obtain ⟨⟨cK0, cK1, cK2, cK3, cK4, cK5, cK6, cK7, cK8, cK9⟩, dK0, dK1, dK2, dK3, dK4, dK5, dK6, dK7, dK8, dK9⟩ := KK6.out.of10
        obtain ⟨⟨cM0, cM1, cM2, cM3⟩, dM0, dM1, dM2, dM3⟩ := KM6.out.four
        obtain ⟨⟨cT0, cT1, cT2⟩, dT0, dT1, dT2⟩ := KT6.out.o3
        go_wp2_with fail
        clear cK0 cK1 cK2 cK3 cK4 cK5 cK6 cK7 cK8 cK9 dK0 dK1 dK2 dK3 dK4 dK5 dK6 dK7 dK8 dK9 cM0 cM1 cM2 cM3 dM0 dM1 dM2 dM3 cT0 cT1 cT2 dT0 dT1 dT2
        refine (C3.out _).mono ?_
        rintro e v7 ⟨rfl, hb⟩
        have B7 := Lib.hid (B6.out.trans (hb.mono B6.out.size))
        have KK7 := Lib.hid (KK6.out.below hb)
        have KM7 := Lib.hid (KM6.out.below hb)
        have KT7 := Lib.hid (KT6.out.below hb)
        have Hp7 := Lib.hid (Hp6.out.below hb)
        have Hq7 := Lib.hid (Hq6.out.below hb)
        have Hm7 := Lib.hid (Hm6.out.below hb)
        clear hb B6 KK6 KM6 KT6 Hp6 Hq6 Hm6
        obtain ⟨⟨cK0, cK1, cK2, cK3, cK4, cK5, cK6, cK7, cK8, cK9⟩, dK0, dK1, dK2, dK3, dK4, dK5, dK6, dK7, dK8, dK9⟩ := KK7.out.of10
        obtain ⟨⟨cM0, cM1, cM2, cM3⟩, dM0, dM1, dM2, dM3⟩ := KM7.out.four
        obtain ⟨⟨cT0, cT1, cT2⟩, dT0, dT1, dT2⟩ := KT7.out.o3
        go_wp2_with fail
        clear cK0 cK1 cK2 cK3 cK4 cK5 cK6 cK7 cK8 cK9 dK0 dK1 dK2 dK3 dK4 dK5 dK6 dK7 dK8 dK9 cM0 cM1 cM2 cM3 dM0 dM1 dM2 dM3 cT0 cT1 cT2 dT0 dT1 dT2
        refine (D1.out _ Hp7.out).mono ?_
        rintro e v8 ⟨rfl, hb⟩
        have B8 := Lib.hid (B7.out.trans (hb.mono B7.out.size))
        have KK8 := Lib.hid (KK7.out.below hb)
        have KM8 := Lib.hid (KM7.out.below hb)
        have KT8 := Lib.hid (KT7.out.below hb)
        have Hp8 := Lib.hid (Hp7.out.below hb)
        have Hq8 := Lib.hid (Hq7.out.below hb)
        have Hm8 := Lib.hid (Hm7.out.below hb)
        clear hb B7 KK7 KM7 KT7 Hp7 Hq7 Hm7
        obtain ⟨⟨cK0, cK1, cK2, cK3, cK4, cK5, cK6, cK7, cK8, cK9⟩, dK0, dK1, dK2, dK3, dK4, dK5, dK6, dK7, dK8, dK9⟩ := KK8.out.of10
        obtain ⟨⟨cM0, cM1, cM2, cM3⟩, dM0, dM1, dM2, dM3⟩ := KM8.out.four
        obtain ⟨⟨cT0, cT1, cT2⟩, dT0, dT1, dT2⟩ := KT8.out.o3
        go_wp2_with fail
        clear cK0 cK1 cK2 cK3 cK4 cK5 cK6 cK7 cK8 cK9 dK0 dK1 dK2 dK3 dK4 dK5 dK6 dK7 dK8 dK9 cM0 cM1 cM2 cM3 dM0 dM1 dM2 dM3 cT0 cT1 cT2 dT0 dT1 dT2
        refine (D2.out _ Hp8.out Hq8.out).mono ?_
        rintro e v9 ⟨rfl, hb⟩
        have B9 := Lib.hid (B8.out.trans (hb.mono B8.out.size))
        have KK9 := Lib.hid (KK8.out.below hb)
        have KM9 := Lib.hid (KM8.out.below hb)
        have KT9 := Lib.hid (KT8.out.below hb)
        have Hp9 := Lib.hid (Hp8.out.below hb)
        have Hq9 := Lib.hid (Hq8.out.below hb)
        have Hm9 := Lib.hid (Hm8.out.below hb)
        clear hb B8 KK8 KM8 KT8 Hp8 Hq8 Hm8
        obtain ⟨⟨cK0, cK1, cK2, cK3, cK4, cK5, cK6, cK7, cK8, cK9⟩, dK0, dK1, dK2, dK3, dK4, dK5, dK6, dK7, dK8, dK9⟩ := KK9.out.of10
        obtain ⟨⟨cM0, cM1, cM2, cM3⟩, dM0, dM1, dM2, dM3⟩ := KM9.out.four
        obtain ⟨⟨cT0, cT1, cT2⟩, dT0, dT1, dT2⟩ := KT9.out.o3
        go_wp2_with fail
        cases mo with
        | false =>
          simp only [RotI.no (hro.trans (by rw [hro2]; rfl))] at D3
          clear hro hro2 hmo HD5 HD6
          clear cK0 cK1 cK2 cK3 cK4 cK5 cK6 cK7 cK8 cK9 dK0 dK1 dK2 dK3 dK4 dK5 dK6 dK7 dK8 dK9 cM0 cM1 cM2 cM3 dM0 dM1 dM2 dM3 cT0 cT1 cT2 dT0 dT1 dT2
          refine (D3.out _ Hp9.out Hq9.out Hm9.out).mono ?_
          rintro e v10 ⟨a, cc, b, d, rfl, ho1, ho2, hn1, hn2, hd, hb⟩
          have Ha := Lib.hid (M.on_I ho1 hn1)
          have Hb := Lib.hid (M.on_I ho2 hn2)
          clear ho1 ho2 hn1 hn2 hd
          have B10 := Lib.hid (B9.out.trans (hb.mono B9.out.size))
          have KK10 := Lib.hid (KK9.out.below hb)
          have KM10 := Lib.hid (KM9.out.below hb)
          have KT10 := Lib.hid (KT9.out.below hb)
          have Hp10 := Lib.hid (Hp9.out.below hb)
          have Hq10 := Lib.hid (Hq9.out.below hb)
          have Hm10 := Lib.hid (Hm9.out.below hb)
          clear hb B9 KK9 KM9 KT9 Hp9 Hq9 Hm9
          have KNn := Lib.hid (Blk.new v10 [.int .i64 e, .bool p.u, .int .u64 (n64 p.k), .int .u64 (n64 p.l), .slice a p.rs.length cc, .bool q.u, .int .u64 (n64 q.k), .int .u64 (n64 q.l), .slice b q.rs.length d, .bool t] 29)
          have n_K_N : g_K ≠ v10.heap.size := by have h1 := KK10.out.lt; omega
          have n_M_N : g_M ≠ v10.heap.size := by have h1 := KM10.out.lt; omega
          have n_T_N : g_T ≠ v10.heap.size := by have h1 := KT10.out.lt; omega
          have Bn := Lib.hid (B10.out.alloc B10.out.size (.cells #[.int .i64 e, .bool p.u, .int .u64 (n64 p.k), .int .u64 (n64 p.l), .slice a p.rs.length cc, .bool q.u, .int .u64 (n64 q.k), .int .u64 (n64 q.l), .slice b q.rs.length d, .bool t] 29))
          have KKn := Lib.hid (KK10.out.alloc (.cells #[.int .i64 e, .bool p.u, .int .u64 (n64 p.k), .int .u64 (n64 p.l), .slice a p.rs.length cc, .bool q.u, .int .u64 (n64 q.k), .int .u64 (n64 q.l), .slice b q.rs.length d, .bool t] 29))
          have KMn := Lib.hid (KM10.out.alloc (.cells #[.int .i64 e, .bool p.u, .int .u64 (n64 p.k), .int .u64 (n64 p.l), .slice a p.rs.length cc, .bool q.u, .int .u64 (n64 q.k), .int .u64 (n64 q.l), .slice b q.rs.length d, .bool t] 29))
          have KTn := Lib.hid (KT10.out.alloc (.cells #[.int .i64 e, .bool p.u, .int .u64 (n64 p.k), .int .u64 (n64 p.l), .slice a p.rs.length cc, .bool q.u, .int .u64 (n64 q.k), .int .u64 (n64 q.l), .slice b q.rs.length d, .bool t] 29))
          have Hpn := Lib.hid (Hp10.out.alloc (.cells #[.int .i64 e, .bool p.u, .int .u64 (n64 p.k), .int .u64 (n64 p.l), .slice a p.rs.length cc, .bool q.u, .int .u64 (n64 q.k), .int .u64 (n64 q.l), .slice b q.rs.length d, .bool t] 29))
          have Hqn := Lib.hid (Hq10.out.alloc (.cells #[.int .i64 e, .bool p.u, .int .u64 (n64 p.k), .int .u64 (n64 p.l), .slice a p.rs.length cc, .bool q.u, .int .u64 (n64 q.k), .int .u64 (n64 q.l), .slice b q.rs.length d, .bool t] 29))
          have Hmn := Lib.hid (Hm10.out.alloc (.cells #[.int .i64 e, .bool p.u, .int .u64 (n64 p.k), .int .u64 (n64 p.l), .slice a p.rs.length cc, .bool q.u, .int .u64 (n64 q.k), .int .u64 (n64 q.l), .slice b q.rs.length d, .bool t] 29))
          have Han := Lib.hid (Ha.out.alloc (.cells #[.int .i64 e, .bool p.u, .int .u64 (n64 p.k), .int .u64 (n64 p.l), .slice a p.rs.length cc, .bool q.u, .int .u64 (n64 q.k), .int .u64 (n64 q.l), .slice b q.rs.length d, .bool t] 29))
          have Hbn := Lib.hid (Hb.out.alloc (.cells #[.int .i64 e, .bool p.u, .int .u64 (n64 p.k), .int .u64 (n64 p.l), .slice a p.rs.length cc, .bool q.u, .int .u64 (n64 q.k), .int .u64 (n64 q.l), .slice b q.rs.length d, .bool t] 29))
          clear B10 KK10 KM10 KT10 Hp10 Hq10 Hm10 Ha Hb
          obtain ⟨⟨cK0, cK1, cK2, cK3, cK4, cK5, cK6, cK7, cK8, cK9⟩, dK0, dK1, dK2, dK3, dK4, dK5, dK6, dK7, dK8, dK9⟩ := KKn.out.of10
          obtain ⟨⟨cM0, cM1, cM2, cM3⟩, dM0, dM1, dM2, dM3⟩ := KMn.out.four
          obtain ⟨⟨cT0, cT1, cT2⟩, dT0, dT1, dT2⟩ := KTn.out.o3
          go_wp2_with fail
          clear cK0 cK1 cK2 cK3 cK4 cK5 cK6 cK7 cK8 cK9 dK0 dK1 dK2 dK3 dK4 dK5 dK6 dK7 dK8 dK9 cM0 cM1 cM2 cM3 dM0 dM1 dM2 dM3 cT0 cT1 cT2 dT0 dT1 dT2
          change Calls _ _ _ (v10.alloc (.cells #[.int .i64 e, .bool p.u, .int .u64 (n64 p.k), .int .u64 (n64 p.l), .slice a p.rs.length cc, .bool q.u, .int .u64 (n64 q.k), .int .u64 (n64 q.l), .slice b q.rs.length d, .bool t] 29)) _
          generalize v10.alloc (.cells #[.int .i64 e, .bool p.u, .int .u64 (n64 p.k), .int .u64 (n64 p.l), .slice a p.rs.length cc, .bool q.u, .int .u64 (n64 q.k), .int .u64 (n64 q.l), .slice b q.rs.length d, .bool t] 29) = v11 at KNn Bn KKn KMn KTn Hpn Hqn Hmn Han Hbn ⊢
          generalize v10.heap.size = g_N at KNn n_K_N n_M_N n_T_N ⊢
          clear v10
          have KK11 := KKn
          clear KKn
          have KM11 := KMn
          clear KMn
          have KT11 := KTn
          clear KTn
          have KN11 := KNn
          clear KNn
          have Hp11 := Hpn
          clear Hpn
          have Hq11 := Hqn
          clear Hqn
          have Hm11 := Hmn
          clear Hmn
          have Ha11 := Han
          clear Han
          have Hb11 := Hbn
          clear Hbn
          have B11 := Bn
          clear Bn
          refine (D4.out _ Hm11.out).mono ?_
          rintro e v12 ⟨rfl, hb⟩
          have B12 := Lib.hid (B11.out.trans (hb.mono B11.out.size))
          have KK12 := Lib.hid (KK11.out.below hb)
          have KM12 := Lib.hid (KM11.out.below hb)
          have KT12 := Lib.hid (KT11.out.below hb)
          have KN12 := Lib.hid (KN11.out.below hb)
          have Hp12 := Lib.hid (Hp11.out.below hb)
          have Hq12 := Lib.hid (Hq11.out.below hb)
          have Hm12 := Lib.hid (Hm11.out.below hb)
          have Ha12 := Lib.hid (Ha11.out.below hb)
          have Hb12 := Lib.hid (Hb11.out.below hb)
          clear hb B11 KK11 KM11 KT11 KN11 Hp11 Hq11 Hm11 Ha11 Hb11
          obtain ⟨⟨cK0, cK1, cK2, cK3, cK4, cK5, cK6, cK7, cK8, cK9⟩, dK0, dK1, dK2, dK3, dK4, dK5, dK6, dK7, dK8, dK9⟩ := KK12.out.of10
          obtain ⟨⟨cM0, cM1, cM2, cM3⟩, dM0, dM1, dM2, dM3⟩ := KM12.out.four
          obtain ⟨⟨cT0, cT1, cT2⟩, dT0, dT1, dT2⟩ := KT12.out.o3
          obtain ⟨⟨cN0, cN1, cN2, cN3, cN4, cN5, cN6, cN7, cN8, cN9⟩, dN0, dN1, dN2, dN3, dN4, dN5, dN6, dN7, dN8, dN9⟩ := KN12.out.of10
          go_wp2_with fail
          clear cK0 cK1 cK2 cK3 cK4 cK5 cK6 cK7 cK8 cK9 dK0 dK1 dK2 dK3 dK4 dK5 dK6 dK7 dK8 dK9 cM0 cM1 cM2 cM3 dM0 dM1 dM2 dM3 cT0 cT1 cT2 dT0 dT1 dT2 cN0 cN1 cN2 cN3 cN4 cN5 cN6 cN7 cN8 cN9 dN0 dN1 dN2 dN3 dN4 dN5 dN6 dN7 dN8 dN9
          refine (D7.out a b cc d _ Ha12.out Hb12.out Hp12.out Hq12.out).mono ?_
          rintro e v13 ⟨rfl, hb⟩
          have B13 := Lib.hid (B12.out.trans (hb.mono B12.out.size))
          have KK13 := Lib.hid (KK12.out.below hb)
          have KM13 := Lib.hid (KM12.out.below hb)
          have KT13 := Lib.hid (KT12.out.below hb)
          have KN13 := Lib.hid (KN12.out.below hb)
          have Hp13 := Lib.hid (Hp12.out.below hb)
          have Hq13 := Lib.hid (Hq12.out.below hb)
          have Hm13 := Lib.hid (Hm12.out.below hb)
          have Ha13 := Lib.hid (Ha12.out.below hb)
          have Hb13 := Lib.hid (Hb12.out.below hb)
          clear hb B12 KK12 KM12 KT12 KN12 Hp12 Hq12 Hm12 Ha12 Hb12
          obtain ⟨⟨cK0, cK1, cK2, cK3, cK4, cK5, cK6, cK7, cK8, cK9⟩, dK0, dK1, dK2, dK3, dK4, dK5, dK6, dK7, dK8, dK9⟩ := KK13.out.of10
          obtain ⟨⟨cM0, cM1, cM2, cM3⟩, dM0, dM1, dM2, dM3⟩ := KM13.out.four
          obtain ⟨⟨cT0, cT1, cT2⟩, dT0, dT1, dT2⟩ := KT13.out.o3
          obtain ⟨⟨cN0, cN1, cN2, cN3, cN4, cN5, cN6, cN7, cN8, cN9⟩, dN0, dN1, dN2, dN3, dN4, dN5, dN6, dN7, dN8, dN9⟩ := KN13.out.of10
          go_wp2_with fail
          go_ret
          exact ⟨rfl, B13.out⟩
        | true =>
          by_cases he : (e == 4294967295) = false
          case neg =>
            have he' : (e == 4294967295) = true := by simpa using he
            simp only [RotI.no (hro.trans (by rw [hro2, he']; rfl))] at D3
            clear hro hro2 hmo HD5 HD6 he
            clear cK0 cK1 cK2 cK3 cK4 cK5 cK6 cK7 cK8 cK9 dK0 dK1 dK2 dK3 dK4 dK5 dK6 dK7 dK8 dK9 cM0 cM1 cM2 cM3 dM0 dM1 dM2 dM3 cT0 cT1 cT2 dT0 dT1 dT2
            refine (D3.out _ Hp9.out Hq9.out Hm9.out).mono ?_
            rintro e v10 ⟨a, cc, b, d, rfl, ho1, ho2, hn1, hn2, hd, hb⟩
            have Ha := Lib.hid (M.on_I ho1 hn1)
            have Hb := Lib.hid (M.on_I ho2 hn2)
            clear ho1 ho2 hn1 hn2 hd
            have B10 := Lib.hid (B9.out.trans (hb.mono B9.out.size))
            have KK10 := Lib.hid (KK9.out.below hb)
            have KM10 := Lib.hid (KM9.out.below hb)
            have KT10 := Lib.hid (KT9.out.below hb)
            have Hp10 := Lib.hid (Hp9.out.below hb)
            have Hq10 := Lib.hid (Hq9.out.below hb)
            have Hm10 := Lib.hid (Hm9.out.below hb)
            clear hb B9 KK9 KM9 KT9 Hp9 Hq9 Hm9
            have KNn := Lib.hid (Blk.new v10 [.int .i64 e, .bool p.u, .int .u64 (n64 p.k), .int .u64 (n64 p.l), .slice a p.rs.length cc, .bool q.u, .int .u64 (n64 q.k), .int .u64 (n64 q.l), .slice b q.rs.length d, .bool t] 29)
            have n_K_N : g_K ≠ v10.heap.size := by have h1 := KK10.out.lt; omega
            have n_M_N : g_M ≠ v10.heap.size := by have h1 := KM10.out.lt; omega
            have n_T_N : g_T ≠ v10.heap.size := by have h1 := KT10.out.lt; omega
            have Bn := Lib.hid (B10.out.alloc B10.out.size (.cells #[.int .i64 e, .bool p.u, .int .u64 (n64 p.k), .int .u64 (n64 p.l), .slice a p.rs.length cc, .bool q.u, .int .u64 (n64 q.k), .int .u64 (n64 q.l), .slice b q.rs.length d, .bool t] 29))
            have KKn := Lib.hid (KK10.out.alloc (.cells #[.int .i64 e, .bool p.u, .int .u64 (n64 p.k), .int .u64 (n64 p.l), .slice a p.rs.length cc, .bool q.u, .int .u64 (n64 q.k), .int .u64 (n64 q.l), .slice b q.rs.length d, .bool t] 29))
            have KMn := Lib.hid (KM10.out.alloc (.cells #[.int .i64 e, .bool p.u, .int .u64 (n64 p.k), .int .u64 (n64 p.l), .slice a p.rs.length cc, .bool q.u, .int .u64 (n64 q.k), .int .u64 (n64 q.l), .slice b q.rs.length d, .bool t] 29))
            have KTn := Lib.hid (KT10.out.alloc (.cells #[.int .i64 e, .bool p.u, .int .u64 (n64 p.k), .int .u64 (n64 p.l), .slice a p.rs.length cc, .bool q.u, .int .u64 (n64 q.k), .int .u64 (n64 q.l), .slice b q.rs.length d, .bool t] 29))
            have Hpn := Lib.hid (Hp10.out.alloc (.cells #[.int .i64 e, .bool p.u, .int .u64 (n64 p.k), .int .u64 (n64 p.l), .slice a p.rs.length cc, .bool q.u, .int .u64 (n64 q.k), .int .u64 (n64 q.l), .slice b q.rs.length d, .bool t] 29))
            have Hqn := Lib.hid (Hq10.out.alloc (.cells #[.int .i64 e, .bool p.u, .int .u64 (n64 p.k), .int .u64 (n64 p.l), .slice a p.rs.length cc, .bool q.u, .int .u64 (n64 q.k), .int .u64 (n64 q.l), .slice b q.rs.length d, .bool t] 29))
            have Hmn := Lib.hid (Hm10.out.alloc (.cells #[.int .i64 e, .bool p.u, .int .u64 (n64 p.k), .int .u64 (n64 p.l), .slice a p.rs.length cc, .bool q.u, .int .u64 (n64 q.k), .int .u64 (n64 q.l), .slice b q.rs.length d, .bool t] 29))
            have Han := Lib.hid (Ha.out.alloc (.cells #[.int .i64 e, .bool p.u, .int .u64 (n64 p.k), .int .u64 (n64 p.l), .slice a p.rs.length cc, .bool q.u, .int .u64 (n64 q.k), .int .u64 (n64 q.l), .slice b q.rs.length d, .bool t] 29))
            have Hbn := Lib.hid (Hb.out.alloc (.cells #[.int .i64 e, .bool p.u, .int .u64 (n64 p.k), .int .u64 (n64 p.l), .slice a p.rs.length cc, .bool q.u, .int .u64 (n64 q.k), .int .u64 (n64 q.l), .slice b q.rs.length d, .bool t] 29))
            clear B10 KK10 KM10 KT10 Hp10 Hq10 Hm10 Ha Hb
            obtain ⟨⟨cK0, cK1, cK2, cK3, cK4, cK5, cK6, cK7, cK8, cK9⟩, dK0, dK1, dK2, dK3, dK4, dK5, dK6, dK7, dK8, dK9⟩ := KKn.out.of10
            obtain ⟨⟨cM0, cM1, cM2, cM3⟩, dM0, dM1, dM2, dM3⟩ := KMn.out.four
            obtain ⟨⟨cT0, cT1, cT2⟩, dT0, dT1, dT2⟩ := KTn.out.o3
            go_wp2_with fail
            clear cK0 cK1 cK2 cK3 cK4 cK5 cK6 cK7 cK8 cK9 dK0 dK1 dK2 dK3 dK4 dK5 dK6 dK7 dK8 dK9 cM0 cM1 cM2 cM3 dM0 dM1 dM2 dM3 cT0 cT1 cT2 dT0 dT1 dT2
            change Calls _ _ _ (v10.alloc (.cells #[.int .i64 e, .bool p.u, .int .u64 (n64 p.k), .int .u64 (n64 p.l), .slice a p.rs.length cc, .bool q.u, .int .u64 (n64 q.k), .int .u64 (n64 q.l), .slice b q.rs.length d, .bool t] 29)) _
            generalize v10.alloc (.cells #[.int .i64 e, .bool p.u, .int .u64 (n64 p.k), .int .u64 (n64 p.l), .slice a p.rs.length cc, .bool q.u, .int .u64 (n64 q.k), .int .u64 (n64 q.l), .slice b q.rs.length d, .bool t] 29) = v11 at KNn Bn KKn KMn KTn Hpn Hqn Hmn Han Hbn ⊢
            generalize v10.heap.size = g_N at KNn n_K_N n_M_N n_T_N ⊢
            clear v10
            have KK11 := KKn
            clear KKn
            have KM11 := KMn
            clear KMn
            have KT11 := KTn
            clear KTn
            have KN11 := KNn
            clear KNn
            have Hp11 := Hpn
            clear Hpn
            have Hq11 := Hqn
            clear Hqn
            have Hm11 := Hmn
            clear Hmn
            have Ha11 := Han
            clear Han
            have Hb11 := Hbn
            clear Hbn
            have B11 := Bn
            clear Bn
            refine (D4.out _ Hm11.out).mono ?_
            rintro e v12 ⟨rfl, hb⟩
            have B12 := Lib.hid (B11.out.trans (hb.mono B11.out.size))
            have KK12 := Lib.hid (KK11.out.below hb)
            have KM12 := Lib.hid (KM11.out.below hb)
            have KT12 := Lib.hid (KT11.out.below hb)
            have KN12 := Lib.hid (KN11.out.below hb)
            have Hp12 := Lib.hid (Hp11.out.below hb)
            have Hq12 := Lib.hid (Hq11.out.below hb)
            have Hm12 := Lib.hid (Hm11.out.below hb)
            have Ha12 := Lib.hid (Ha11.out.below hb)
            have Hb12 := Lib.hid (Hb11.out.below hb)
            clear hb B11 KK11 KM11 KT11 KN11 Hp11 Hq11 Hm11 Ha11 Hb11
            obtain ⟨⟨cK0, cK1, cK2, cK3, cK4, cK5, cK6, cK7, cK8, cK9⟩, dK0, dK1, dK2, dK3, dK4, dK5, dK6, dK7, dK8, dK9⟩ := KK12.out.of10
            obtain ⟨⟨cM0, cM1, cM2, cM3⟩, dM0, dM1, dM2, dM3⟩ := KM12.out.four
            obtain ⟨⟨cT0, cT1, cT2⟩, dT0, dT1, dT2⟩ := KT12.out.o3
            obtain ⟨⟨cN0, cN1, cN2, cN3, cN4, cN5, cN6, cN7, cN8, cN9⟩, dN0, dN1, dN2, dN3, dN4, dN5, dN6, dN7, dN8, dN9⟩ := KN12.out.of10
            go_wp2_with fail
            clear cK0 cK1 cK2 cK3 cK4 cK5 cK6 cK7 cK8 cK9 dK0 dK1 dK2 dK3 dK4 dK5 dK6 dK7 dK8 dK9 cM0 cM1 cM2 cM3 dM0 dM1 dM2 dM3 cT0 cT1 cT2 dT0 dT1 dT2 cN0 cN1 cN2 cN3 cN4 cN5 cN6 cN7 cN8 cN9 dN0 dN1 dN2 dN3 dN4 dN5 dN6 dN7 dN8 dN9
            refine (D7.out a b cc d _ Ha12.out Hb12.out Hp12.out Hq12.out).mono ?_
            rintro e v13 ⟨rfl, hb⟩
            have B13 := Lib.hid (B12.out.trans (hb.mono B12.out.size))
            have KK13 := Lib.hid (KK12.out.below hb)
            have KM13 := Lib.hid (KM12.out.below hb)
            have KT13 := Lib.hid (KT12.out.below hb)
            have KN13 := Lib.hid (KN12.out.below hb)
            have Hp13 := Lib.hid (Hp12.out.below hb)
            have Hq13 := Lib.hid (Hq12.out.below hb)
            have Hm13 := Lib.hid (Hm12.out.below hb)
            have Ha13 := Lib.hid (Ha12.out.below hb)
            have Hb13 := Lib.hid (Hb12.out.below hb)
            clear hb B12 KK12 KM12 KT12 KN12 Hp12 Hq12 Hm12 Ha12 Hb12
            obtain ⟨⟨cK0, cK1, cK2, cK3, cK4, cK5, cK6, cK7, cK8, cK9⟩, dK0, dK1, dK2, dK3, dK4, dK5, dK6, dK7, dK8, dK9⟩ := KK13.out.of10
            obtain ⟨⟨cM0, cM1, cM2, cM3⟩, dM0, dM1, dM2, dM3⟩ := KM13.out.four
            obtain ⟨⟨cT0, cT1, cT2⟩, dT0, dT1, dT2⟩ := KT13.out.o3
            obtain ⟨⟨cN0, cN1, cN2, cN3, cN4, cN5, cN6, cN7, cN8, cN9⟩, dN0, dN1, dN2, dN3, dN4, dN5, dN6, dN7, dN8, dN9⟩ := KN13.out.of10
            go_wp2_with fail
            go_ret
            exact ⟨rfl, B13.out⟩
          simp only [RotI.yes (hro.trans (by rw [hro2, he]; rfl))] at D3
          have E5 := Lib.hid (HD5.out rfl he)
          have E6 := Lib.hid (HD6.out rfl he)
          have hne : e ≠ 4294967295 := by simpa using he
          have hw : IntKind.i64.wrap (e + 1) = e + 1 := IntWalk.i64_in _ (by omega)
          clear hro hro2 hmo HD5 HD6 hne
          clear cK0 cK1 cK2 cK3 cK4 cK5 cK6 cK7 cK8 cK9 dK0 dK1 dK2 dK3 dK4 dK5 dK6 dK7 dK8 dK9 cM0 cM1 cM2 cM3 dM0 dM1 dM2 dM3 cT0 cT1 cT2 dT0 dT1 dT2
          refine (D3.out _ Hp9.out Hq9.out Hm9.out).mono ?_
          rintro e v10 ⟨a, cc, b, d, rfl, ho1, ho2, hn1, hn2, hd, hb⟩
          have Ha := Lib.hid (M.on_I ho1 hn1)
          have Hb := Lib.hid (M.on_I ho2 hn2)
          clear ho1 ho2 hn1 hn2 hd
          have B10 := Lib.hid (B9.out.trans (hb.mono B9.out.size))
          have KK10 := Lib.hid (KK9.out.below hb)
          have KM10 := Lib.hid (KM9.out.below hb)
          have KT10 := Lib.hid (KT9.out.below hb)
          have Hp10 := Lib.hid (Hp9.out.below hb)
          have Hq10 := Lib.hid (Hq9.out.below hb)
          have Hm10 := Lib.hid (Hm9.out.below hb)
          clear hb B9 KK9 KM9 KT9 Hp9 Hq9 Hm9
          have KNn := Lib.hid (Blk.new v10 [.int .i64 (e + 1), .bool m.u, .int .u64 (n64 m.k), .int .u64 (n64 m.l), .slice a m.rs.length cc, .bool p.u, .int .u64 (n64 p.k), .int .u64 (n64 p.l), .slice b p.rs.length d, .bool true] 29)
          have n_K_N : g_K ≠ v10.heap.size := by have h1 := KK10.out.lt; omega
          have n_M_N : g_M ≠ v10.heap.size := by have h1 := KM10.out.lt; omega
          have n_T_N : g_T ≠ v10.heap.size := by have h1 := KT10.out.lt; omega
          have Bn := Lib.hid (B10.out.alloc B10.out.size (.cells #[.int .i64 (e + 1), .bool m.u, .int .u64 (n64 m.k), .int .u64 (n64 m.l), .slice a m.rs.length cc, .bool p.u, .int .u64 (n64 p.k), .int .u64 (n64 p.l), .slice b p.rs.length d, .bool true] 29))
          have KKn := Lib.hid (KK10.out.alloc (.cells #[.int .i64 (e + 1), .bool m.u, .int .u64 (n64 m.k), .int .u64 (n64 m.l), .slice a m.rs.length cc, .bool p.u, .int .u64 (n64 p.k), .int .u64 (n64 p.l), .slice b p.rs.length d, .bool true] 29))
          have KMn := Lib.hid (KM10.out.alloc (.cells #[.int .i64 (e + 1), .bool m.u, .int .u64 (n64 m.k), .int .u64 (n64 m.l), .slice a m.rs.length cc, .bool p.u, .int .u64 (n64 p.k), .int .u64 (n64 p.l), .slice b p.rs.length d, .bool true] 29))
          have KTn := Lib.hid (KT10.out.alloc (.cells #[.int .i64 (e + 1), .bool m.u, .int .u64 (n64 m.k), .int .u64 (n64 m.l), .slice a m.rs.length cc, .bool p.u, .int .u64 (n64 p.k), .int .u64 (n64 p.l), .slice b p.rs.length d, .bool true] 29))
          have Hpn := Lib.hid (Hp10.out.alloc (.cells #[.int .i64 (e + 1), .bool m.u, .int .u64 (n64 m.k), .int .u64 (n64 m.l), .slice a m.rs.length cc, .bool p.u, .int .u64 (n64 p.k), .int .u64 (n64 p.l), .slice b p.rs.length d, .bool true] 29))
          have Hqn := Lib.hid (Hq10.out.alloc (.cells #[.int .i64 (e + 1), .bool m.u, .int .u64 (n64 m.k), .int .u64 (n64 m.l), .slice a m.rs.length cc, .bool p.u, .int .u64 (n64 p.k), .int .u64 (n64 p.l), .slice b p.rs.length d, .bool true] 29))
          have Hmn := Lib.hid (Hm10.out.alloc (.cells #[.int .i64 (e + 1), .bool m.u, .int .u64 (n64 m.k), .int .u64 (n64 m.l), .slice a m.rs.length cc, .bool p.u, .int .u64 (n64 p.k), .int .u64 (n64 p.l), .slice b p.rs.length d, .bool true] 29))
          have Han := Lib.hid (Ha.out.alloc (.cells #[.int .i64 (e + 1), .bool m.u, .int .u64 (n64 m.k), .int .u64 (n64 m.l), .slice a m.rs.length cc, .bool p.u, .int .u64 (n64 p.k), .int .u64 (n64 p.l), .slice b p.rs.length d, .bool true] 29))
          have Hbn := Lib.hid (Hb.out.alloc (.cells #[.int .i64 (e + 1), .bool m.u, .int .u64 (n64 m.k), .int .u64 (n64 m.l), .slice a m.rs.length cc, .bool p.u, .int .u64 (n64 p.k), .int .u64 (n64 p.l), .slice b p.rs.length d, .bool true] 29))
          clear B10 KK10 KM10 KT10 Hp10 Hq10 Hm10 Ha Hb
          obtain ⟨⟨cK0, cK1, cK2, cK3, cK4, cK5, cK6, cK7, cK8, cK9⟩, dK0, dK1, dK2, dK3, dK4, dK5, dK6, dK7, dK8, dK9⟩ := KKn.out.of10
          obtain ⟨⟨cM0, cM1, cM2, cM3⟩, dM0, dM1, dM2, dM3⟩ := KMn.out.four
          obtain ⟨⟨cT0, cT1, cT2⟩, dT0, dT1, dT2⟩ := KTn.out.o3
          go_wp2_with fail
          clear cK0 cK1 cK2 cK3 cK4 cK5 cK6 cK7 cK8 cK9 dK0 dK1 dK2 dK3 dK4 dK5 dK6 dK7 dK8 dK9 cM0 cM1 cM2 cM3 dM0 dM1 dM2 dM3 cT0 cT1 cT2 dT0 dT1 dT2
          change Calls _ _ _ (v10.alloc (.cells #[.int .i64 (e + 1), .bool m.u, .int .u64 (n64 m.k), .int .u64 (n64 m.l), .slice a m.rs.length cc, .bool p.u, .int .u64 (n64 p.k), .int .u64 (n64 p.l), .slice b p.rs.length d, .bool true] 29)) _
          generalize v10.alloc (.cells #[.int .i64 (e + 1), .bool m.u, .int .u64 (n64 m.k), .int .u64 (n64 m.l), .slice a m.rs.length cc, .bool p.u, .int .u64 (n64 p.k), .int .u64 (n64 p.l), .slice b p.rs.length d, .bool true] 29) = v11 at KNn Bn KKn KMn KTn Hpn Hqn Hmn Han Hbn ⊢
          generalize v10.heap.size = g_N at KNn n_K_N n_M_N n_T_N ⊢
          clear v10
          have KK11 := KKn
          clear KKn
          have KM11 := KMn
          clear KMn
          have KT11 := KTn
          clear KTn
          have KN11 := KNn
          clear KNn
          have Hp11 := Hpn
          clear Hpn
          have Hq11 := Hqn
          clear Hqn
          have Hm11 := Hmn
          clear Hmn
          have Ha11 := Han
          clear Han
          have Hb11 := Hbn
          clear Hbn
          have B11 := Bn
          clear Bn
          refine (D4.out _ Hm11.out).mono ?_
          rintro e v12 ⟨rfl, hb⟩
          have B12 := Lib.hid (B11.out.trans (hb.mono B11.out.size))
          have KK12 := Lib.hid (KK11.out.below hb)
          have KM12 := Lib.hid (KM11.out.below hb)
          have KT12 := Lib.hid (KT11.out.below hb)
          have KN12 := Lib.hid (KN11.out.below hb)
          have Hp12 := Lib.hid (Hp11.out.below hb)
          have Hq12 := Lib.hid (Hq11.out.below hb)
          have Hm12 := Lib.hid (Hm11.out.below hb)
          have Ha12 := Lib.hid (Ha11.out.below hb)
          have Hb12 := Lib.hid (Hb11.out.below hb)
          clear hb B11 KK11 KM11 KT11 KN11 Hp11 Hq11 Hm11 Ha11 Hb11
          obtain ⟨⟨cK0, cK1, cK2, cK3, cK4, cK5, cK6, cK7, cK8, cK9⟩, dK0, dK1, dK2, dK3, dK4, dK5, dK6, dK7, dK8, dK9⟩ := KK12.out.of10
          obtain ⟨⟨cM0, cM1, cM2, cM3⟩, dM0, dM1, dM2, dM3⟩ := KM12.out.four
          obtain ⟨⟨cT0, cT1, cT2⟩, dT0, dT1, dT2⟩ := KT12.out.o3
          obtain ⟨⟨cN0, cN1, cN2, cN3, cN4, cN5, cN6, cN7, cN8, cN9⟩, dN0, dN1, dN2, dN3, dN4, dN5, dN6, dN7, dN8, dN9⟩ := KN12.out.of10
          go_wp2_with fail
          clear cK0 cK1 cK2 cK3 cK4 cK5 cK6 cK7 cK8 cK9 dK0 dK1 dK2 dK3 dK4 dK5 dK6 dK7 dK8 dK9 cM0 cM1 cM2 cM3 dM0 dM1 dM2 dM3 cT0 cT1 cT2 dT0 dT1 dT2 cN0 cN1 cN2 cN3 cN4 cN5 cN6 cN7 cN8 cN9 dN0 dN1 dN2 dN3 dN4 dN5 dN6 dN7 dN8 dN9
          refine (E5.out a b cc d _ Ha12.out Hb12.out).mono ?_
          rintro e v13 ⟨rfl, hb⟩
          have B13 := Lib.hid (B12.out.trans (hb.mono B12.out.size))
          have KK13 := Lib.hid (KK12.out.below hb)
          have KM13 := Lib.hid (KM12.out.below hb)
          have KT13 := Lib.hid (KT12.out.below hb)
          have KN13 := Lib.hid (KN12.out.below hb)
          have Hp13 := Lib.hid (Hp12.out.below hb)
          have Hq13 := Lib.hid (Hq12.out.below hb)
          have Hm13 := Lib.hid (Hm12.out.below hb)
          have Ha13 := Lib.hid (Ha12.out.below hb)
          have Hb13 := Lib.hid (Hb12.out.below hb)
          clear hb B12 KK12 KM12 KT12 KN12 Hp12 Hq12 Hm12 Ha12 Hb12
          obtain ⟨⟨cK0, cK1, cK2, cK3, cK4, cK5, cK6, cK7, cK8, cK9⟩, dK0, dK1, dK2, dK3, dK4, dK5, dK6, dK7, dK8, dK9⟩ := KK13.out.of10
          obtain ⟨⟨cM0, cM1, cM2, cM3⟩, dM0, dM1, dM2, dM3⟩ := KM13.out.four
          obtain ⟨⟨cT0, cT1, cT2⟩, dT0, dT1, dT2⟩ := KT13.out.o3
          obtain ⟨⟨cN0, cN1, cN2, cN3, cN4, cN5, cN6, cN7, cN8, cN9⟩, dN0, dN1, dN2, dN3, dN4, dN5, dN6, dN7, dN8, dN9⟩ := KN13.out.of10
          go_wp2_with fail
          clear cK0 cK1 cK2 cK3 cK4 cK5 cK6 cK7 cK8 cK9 dK0 dK1 dK2 dK3 dK4 dK5 dK6 dK7 dK8 dK9 cM0 cM1 cM2 cM3 dM0 dM1 dM2 dM3 cT0 cT1 cT2 dT0 dT1 dT2 cN0 cN1 cN2 cN3 cN4 cN5 cN6 cN7 cN8 cN9 dN0 dN1 dN2 dN3 dN4 dN5 dN6 dN7 dN8 dN9
          refine (E6.out a b cc d _ Ha13.out Hb13.out).mono ?_
          rintro e v14 ⟨rfl, hb⟩
          have B14 := Lib.hid (B13.out.trans (hb.mono B13.out.size))
          have KK14 := Lib.hid (KK13.out.below hb)
          have KM14 := Lib.hid (KM13.out.below hb)
          have KT14 := Lib.hid (KT13.out.below hb)
          have KN14 := Lib.hid (KN13.out.below hb)
          have Hp14 := Lib.hid (Hp13.out.below hb)
          have Hq14 := Lib.hid (Hq13.out.below hb)
          have Hm14 := Lib.hid (Hm13.out.below hb)
          have Ha14 := Lib.hid (Ha13.out.below hb)
          have Hb14 := Lib.hid (Hb13.out.below hb)
          clear hb B13 KK13 KM13 KT13 KN13 Hp13 Hq13 Hm13 Ha13 Hb13
          obtain ⟨⟨cK0, cK1, cK2, cK3, cK4, cK5, cK6, cK7, cK8, cK9⟩, dK0, dK1, dK2, dK3, dK4, dK5, dK6, dK7, dK8, dK9⟩ := KK14.out.of10
          obtain ⟨⟨cM0, cM1, cM2, cM3⟩, dM0, dM1, dM2, dM3⟩ := KM14.out.four
          obtain ⟨⟨cT0, cT1, cT2⟩, dT0, dT1, dT2⟩ := KT14.out.o3
          obtain ⟨⟨cN0, cN1, cN2, cN3, cN4, cN5, cN6, cN7, cN8, cN9⟩, dN0, dN1, dN2, dN3, dN4, dN5, dN6, dN7, dN8, dN9⟩ := KN14.out.of10
          go_wp2_with fail
          go_ret
          exact ⟨ret_bool (by simp), B14.out⟩

theorem walk (a0 : Option Addr) (len0 cap0 : Nat) (s0 : List UInt8) {w : World} (w0 : IsBytes w a0 len0 s0) :
    Calls Try.prog 3 #[.slice a0 len0 cap0] w fun e w' => e = .returned (.bool true) ∧ Below w.heap.size w w' := by
  obtain ⟨⟨rfl, hm⟩, hrow⟩ := w0
  unfold maxLen at hm
  by_cases hs : s0.length ≤ 1048576
  · exact go a0 cap0 s0 w hrow hs
  · have h1 : 1048576 < s0.length := by omega
    go_enter Try.func3, Try.ntmps3
    go_wp2_with fail
    refine (big_yes _ _ _ _ h1 hm).mono ?_
    rintro e w' ⟨rfl, rfl⟩
    go_wp2_with fail
    go_ret
    exact ⟨rfl, Below.refl _ _⟩
theorem own : ownKnob Try.prog.godebug = none := by kernel_rfl
theorem laidOut : laidOutB Try.prog = true := by kernel_rfl

set_option maxRecDepth 100000 in
theorem lifted (os : Os) (started : os.Started) (H : Type) (enc : TypeId × Value → H) :
    ReturnsInHanded {} Try.checked os 3 .any (Rows.fnCookieSpec.pre6 enc Try.prog Try.f3 Rows.fnCookieRow.domain false) (Rows.fnCookieSpec.post enc Try.prog Try.f3 false true false false) := by
  refine returnsInHanded_of_change (C := Try.checked) own started (by kernel_rfl) Try.func3
    (ChangeSpec.witness6 (enc := enc) (C := Try.checked) false ⟨#[], #[.slice none 0 0], []⟩ 8 (by kernel_rfl) (by kernel_rfl) (by kernel_rfl) (by kernel_rfl)) ?_
  intro W base args ds gs before hval0 hW _ _
  have hval : ∀ (j : Nat) t v, Try.f3.params[j]? = some t → args[j]? = some v → Value.okWide Try.prog W .any base t v := hval0
  have hW' := hW
  obtain ⟨p, q, hA0, hV, rfl, _, _⟩ := hW
  have hA : DataW.TrodAll enc Try.prog W 0 (fun _ => true) true Try.f3.params.toList args.toList ds p := hA0
  rw [Try.params3] at hA hval
  obtain ⟨v0, vs0, d0, ds0, p0, q0, hargs, rfl, rfl, h0, r0⟩ := trodAll_cons hA
  obtain ⟨rfl, rfl, rfl⟩ := trodAll_nil r0
  obtain rfl : args = #[v0] := by cases args; simp_all
  obtain ⟨rfl, rfl⟩ := trodVars_none hV
  obtain ⟨a0, len0, cap0, rfl⟩ := okWide_slice Try.underlying22 (hval 0 22 v0 rfl rfl)
  have k0 := h0
  have lt0 : ∀ x ∈ p0, x.block < W.heap.size := by obtain ⟨m, hm⟩ := k0; exact DataW.trod_lt m _ _ _ hm
  obtain ⟨s0, w0⟩ : ∃ bs : List UInt8, IsBytes W a0 len0 bs := by obtain ⟨fuel, hf⟩ := h0; exact openBytes Try.underlying22 Try.underlying5 (by kernel_rfl) hf
  clear hA0 hval0
  refine (walk a0 len0 cap0 s0 w0).mono fun e W' ⟨he, bel⟩ => ?_
  subst he
  exact ⟨_, rfl, _, _, _, [], _, [], hW', trodAll_mk1 (shut_bool Try.underlying4 _), (trodAll_cons_mk (Below.trod laidOut (by kernel_rfl) (of_decide_eq_true (by kernel_rfl)) k0 bel lt0) trodAll_mk0), rfl, bel.frame _, fun h => by cases h⟩

theorem over : Rows.fnCookieRow.holds Try.pinned (OpenSpec.ofChange Rows.fnCookieSpec) :=
  OpenClaim.holds_of_wide 3 Try.f3 rfl rfl rfl rfl rfl rfl rfl ⟨rfl, rfl, rfl, rfl, rfl⟩ rfl rfl rfl rfl rfl (by kernel_rfl) Try.func3 (by kernel_rfl)
    (of_decide_eq_true (by kernel_rfl)) (by unfold Func.isWrapper; first | (rw [if_pos (by decide +kernel)]; kernel_rfl) | (rw [if_neg (by decide +kernel)]; exact ⟨rfl, rfl⟩))
    (fun os started H enc _ => lifted os started H enc)

theorem proved : Rows.FnCookieSaid := over
#print axioms proved
end Go.Proofs.Ytobfgkiccmhgdaa.fnCookie
