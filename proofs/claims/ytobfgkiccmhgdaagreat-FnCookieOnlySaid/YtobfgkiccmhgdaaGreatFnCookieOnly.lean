/- Proved here: for every code of at most 1048576 bytes, with the keys, the tuple and the cookie that are drawn from it: impl.CheckCookie answers as the model's; where it accepts, the epoch is the current one or, with two keys, the one before, impl.SecretOf has its Mac, and the cookie is the one that impl.CookieOf and the model make of it; where it does not, the numbers are 0 (a longer code is not asked); the call returns true for every argument, without condition. -/
import Derived.Test.YtobfgkiccmhgdaaGreatRows
import Derived.Test.YtobfgkiccmhgdaaGreatPkFnCookieOnly
import Derived.ShutString
import Derived.ChangeOld
import Derived.Below
namespace Go.Proofs.YtobfgkiccmhgdaaGreat.fnCookieOnly
open Go.ChangeShapes Go.WideShapes Go.ChangeAt Go.RowKit Go.Lib

/-- The law's word: true, and what lay before the call lies as it lay. -/
def OkB (w : World) (e : Ending) (w' : World) : Prop := e = .returned (.bool true) ∧ Below w.heap.size w w'

set_option maxRecDepth 100000 in
set_option maxHeartbeats 16000000 in
theorem go (a0 : Option Addr) (cap0 : Nat) (s0 : List UInt8) (w : World) (hrow : Row w w.heap.size a0 (byteCells s0)) (hs : s0.length ≤ 1048576) :
    Calls Tryz.prog 3 #[.slice a0 s0.length cap0] w (OkB w) := by
  have HR := Lib.hid hrow
  clear hrow
  go_enter Tryz.func3, Tryz.ntmps3
  go_wp2_with fail
  refine (big_no _ _ _ _ hs).mono ?_
  rintro r w' ⟨rfl, rfl⟩
  have B0 := Lib.hid (Below.refl w.heap.size w)
  go_wp2_with fail
  refine (drawCk a0 s0 cap0 w HR.out hs).mono ?_
  rintro e v1 ⟨e, p, q, t, x, y, z, s, c, rfl, hx, ⟨hp, hq⟩, ⟨fp, fq⟩, hb⟩
  have HX := Lib.hid hx
  have Hp1 := Lib.hid hp
  have Hq1 := Lib.hid hq
  clear hx hp hq HR
  have B1 := Lib.hid (B0.out.trans (hb.mono B0.out.size))
  clear hb B0
  have B2 := Lib.hid ((B1.out.alloc (by have h0 := B1.out.size; simp <;> omega) (.cells #[.int .i64 e, .bool p.u, .int .u64 (n64 p.k), .int .u64 (n64 p.l), .slice p.a p.rs.length p.c, .bool q.u, .int .u64 (n64 q.k), .int .u64 (n64 q.l), .slice q.a q.rs.length q.c, .bool t] 29)).alloc (by have h0 := B1.out.size; simp <;> omega) (.cells #[.int .i64 x, .int .i64 y, .int .i64 z] 31))
  have Hp2 := Lib.hid ((Hp1.out.alloc (.cells #[.int .i64 e, .bool p.u, .int .u64 (n64 p.k), .int .u64 (n64 p.l), .slice p.a p.rs.length p.c, .bool q.u, .int .u64 (n64 q.k), .int .u64 (n64 q.l), .slice q.a q.rs.length q.c, .bool t] 29)).alloc (.cells #[.int .i64 x, .int .i64 y, .int .i64 z] 31))
  have Hq2 := Lib.hid ((Hq1.out.alloc (.cells #[.int .i64 e, .bool p.u, .int .u64 (n64 p.k), .int .u64 (n64 p.l), .slice p.a p.rs.length p.c, .bool q.u, .int .u64 (n64 q.k), .int .u64 (n64 q.l), .slice q.a q.rs.length q.c, .bool t] 29)).alloc (.cells #[.int .i64 x, .int .i64 y, .int .i64 z] 31))
  have KK2 := Lib.hid (show Blk ((v1.alloc (.cells #[.int .i64 e, .bool p.u, .int .u64 (n64 p.k), .int .u64 (n64 p.l), .slice p.a p.rs.length p.c, .bool q.u, .int .u64 (n64 q.k), .int .u64 (n64 q.l), .slice q.a q.rs.length q.c, .bool t] 29)).alloc (.cells #[.int .i64 x, .int .i64 y, .int .i64 z] 31)) (v1.heap.size) [.int .i64 e, .bool p.u, .int .u64 (n64 p.k), .int .u64 (n64 p.l), .slice p.a p.rs.length p.c, .bool q.u, .int .u64 (n64 q.k), .int .u64 (n64 q.l), .slice q.a q.rs.length q.c, .bool t] from ((Blk.new v1 [.int .i64 e, .bool p.u, .int .u64 (n64 p.k), .int .u64 (n64 p.l), .slice p.a p.rs.length p.c, .bool q.u, .int .u64 (n64 q.k), .int .u64 (n64 q.l), .slice q.a q.rs.length q.c, .bool t] 29).alloc (.cells #[.int .i64 x, .int .i64 y, .int .i64 z] 31)))
  have n_K_T : v1.heap.size ≠ v1.heap.size + 1 := by omega
  have KT2 := Lib.hid (show Blk ((v1.alloc (.cells #[.int .i64 e, .bool p.u, .int .u64 (n64 p.k), .int .u64 (n64 p.l), .slice p.a p.rs.length p.c, .bool q.u, .int .u64 (n64 q.k), .int .u64 (n64 q.l), .slice q.a q.rs.length q.c, .bool t] 29)).alloc (.cells #[.int .i64 x, .int .i64 y, .int .i64 z] 31)) (v1.heap.size + 1) [.int .i64 x, .int .i64 y, .int .i64 z] by have h0 := (Blk.new (v1.alloc (.cells #[.int .i64 e, .bool p.u, .int .u64 (n64 p.k), .int .u64 (n64 p.l), .slice p.a p.rs.length p.c, .bool q.u, .int .u64 (n64 q.k), .int .u64 (n64 q.l), .slice q.a q.rs.length q.c, .bool t] 29)) [.int .i64 x, .int .i64 y, .int .i64 z] 31); rwa [show (v1.alloc (.cells #[.int .i64 e, .bool p.u, .int .u64 (n64 p.k), .int .u64 (n64 p.l), .slice p.a p.rs.length p.c, .bool q.u, .int .u64 (n64 q.k), .int .u64 (n64 q.l), .slice q.a q.rs.length q.c, .bool t] 29)).heap.size = v1.heap.size + 1 by simp] at h0)
  clear B1 Hp1 Hq1
  obtain ⟨⟨cK0, cK1, cK2, cK3, cK4, cK5, cK6, cK7, cK8, cK9⟩, dK0, dK1, dK2, dK3, dK4, dK5, dK6, dK7, dK8, dK9⟩ := KK2.out.of10
  obtain ⟨⟨cT0, cT1, cT2⟩, dT0, dT1, dT2⟩ := KT2.out.o3
  go_wp2_with fail
  clear cK0 cK1 cK2 cK3 cK4 cK5 cK6 cK7 cK8 cK9 dK0 dK1 dK2 dK3 dK4 dK5 dK6 dK7 dK8 dK9 cT0 cT1 cT2 dT0 dT1 dT2
  change Calls _ _ _ ((v1.alloc (.cells #[.int .i64 e, .bool p.u, .int .u64 (n64 p.k), .int .u64 (n64 p.l), .slice p.a p.rs.length p.c, .bool q.u, .int .u64 (n64 q.k), .int .u64 (n64 q.l), .slice q.a q.rs.length q.c, .bool t] 29)).alloc (.cells #[.int .i64 x, .int .i64 y, .int .i64 z] 31)) _
  generalize (v1.alloc (.cells #[.int .i64 e, .bool p.u, .int .u64 (n64 p.k), .int .u64 (n64 p.l), .slice p.a p.rs.length p.c, .bool q.u, .int .u64 (n64 q.k), .int .u64 (n64 q.l), .slice q.a q.rs.length q.c, .bool t] 29)).alloc (.cells #[.int .i64 x, .int .i64 y, .int .i64 z] 31) = v2 at B2 Hp2 Hq2 KK2 KT2 ⊢
  generalize v1.heap.size + 1 = g_T at KT2 n_K_T ⊢
  generalize v1.heap.size = g_K at KK2 n_K_T ⊢
  have C1 := Lib.hid (fun w h1 h2 => checkI e p q t x y z s c w h1 h2 fp fq)
  have C2 := Lib.hid (fun w h1 h2 => checkS e p q t x y z s c w h1 h2 fp fq)
  rcases ck_cases e p q t x y z s c with ⟨hv, hk, hw, h1⟩ | ⟨hv, hk, hw, h0, rfl, h1⟩ | ⟨hv, _⟩
  · rw [hv] at C1 C2
    clear hk
    generalize cpI c = i at *
    clear hv hw
    have D1 : Hid (∀ (a : Option Addr) (d : Nat) (w : World), (p.at a d).On w → Calls Tryz.prog 10 #[.agg #[.bool p.u, .int .u64 (n64 p.k), .int .u64 (n64 p.l), .slice a p.rs.length d], .agg #[.int .i64 x, .int .i64 y, .int .i64 z], .int .i64 s, .int .i64 e, .int .i64 i] w (EndN c w)) := by intro a d w h; have h2 : Calls Tryz.prog 10 #[.agg #[.bool p.u, .int .u64 (n64 p.k), .int .u64 (n64 p.l), .slice a p.rs.length d], .agg #[.int .i64 x, .int .i64 y, .int .i64 z], .int .i64 s, .int .i64 e, .int .i64 i] w (EndN (cookieOf p x y z s e i) w) := cookieOfI (p.at a d) x y z s e i w h fp; rwa [h1] at h2
    have D2 : Hid (∀ (a : Option Addr) (d : Nat) (w : World), (p.at a d).On w → Calls Tryz.prog 11 #[.agg #[.bool p.u, .int .u64 (n64 p.k), .int .u64 (n64 p.l), .slice a p.rs.length d], .agg #[.int .i64 x, .int .i64 y, .int .i64 z], .int .i64 s, .int .i64 e, .int .i64 i] w (EndN c w)) := by intro a d w h; have h2 : Calls Tryz.prog 11 #[.agg #[.bool p.u, .int .u64 (n64 p.k), .int .u64 (n64 p.l), .slice a p.rs.length d], .agg #[.int .i64 x, .int .i64 y, .int .i64 z], .int .i64 s, .int .i64 e, .int .i64 i] w (EndN (cookieOf p x y z s e i) w) := cookieOfS (p.at a d) x y z s e i w h fp; rwa [h1] at h2
    clear h1
    refine (C1.out _ Hp2.out Hq2.out).mono ?_
    rintro e v3 ⟨rfl, hb⟩
    have B3 := Lib.hid (B2.out.trans (hb.mono B2.out.size))
    have KK3 := Lib.hid (KK2.out.below hb)
    have KT3 := Lib.hid (KT2.out.below hb)
    have Hp3 := Lib.hid (Hp2.out.below hb)
    have Hq3 := Lib.hid (Hq2.out.below hb)
    clear hb B2 KK2 KT2 Hp2 Hq2
    obtain ⟨⟨cK0, cK1, cK2, cK3, cK4, cK5, cK6, cK7, cK8, cK9⟩, dK0, dK1, dK2, dK3, dK4, dK5, dK6, dK7, dK8, dK9⟩ := KK3.out.of10
    obtain ⟨⟨cT0, cT1, cT2⟩, dT0, dT1, dT2⟩ := KT3.out.o3
    go_wp2_with fail
    clear cK0 cK1 cK2 cK3 cK4 cK5 cK6 cK7 cK8 cK9 dK0 dK1 dK2 dK3 dK4 dK5 dK6 dK7 dK8 dK9 cT0 cT1 cT2 dT0 dT1 dT2
    refine (C2.out _ Hp3.out Hq3.out).mono ?_
    rintro e v4 ⟨rfl, hb⟩
    have B4 := Lib.hid (B3.out.trans (hb.mono B3.out.size))
    have KK4 := Lib.hid (KK3.out.below hb)
    have KT4 := Lib.hid (KT3.out.below hb)
    have Hp4 := Lib.hid (Hp3.out.below hb)
    have Hq4 := Lib.hid (Hq3.out.below hb)
    clear hb B3 KK3 KT3 Hp3 Hq3
    obtain ⟨⟨cK0, cK1, cK2, cK3, cK4, cK5, cK6, cK7, cK8, cK9⟩, dK0, dK1, dK2, dK3, dK4, dK5, dK6, dK7, dK8, dK9⟩ := KK4.out.of10
    obtain ⟨⟨cT0, cT1, cT2⟩, dT0, dT1, dT2⟩ := KT4.out.o3
    go_wp2_with fail
    clear cK0 cK1 cK2 cK3 cK4 cK5 cK6 cK7 cK8 cK9 dK0 dK1 dK2 dK3 dK4 dK5 dK6 dK7 dK8 dK9 cT0 cT1 cT2 dT0 dT1 dT2
    refine (secNowI e p q t _ Hp4.out Hq4.out fp).mono ?_
    rintro e v5 ⟨a, d, rfl, ho, hn, hb⟩
    have Ha := Lib.hid (M.on_I ho hn)
    clear ho hn
    have B5 := Lib.hid (B4.out.trans (hb.mono B4.out.size))
    have KK5 := Lib.hid (KK4.out.below hb)
    have KT5 := Lib.hid (KT4.out.below hb)
    have Hp5 := Lib.hid (Hp4.out.below hb)
    have Hq5 := Lib.hid (Hq4.out.below hb)
    clear hb B4 KK4 KT4 Hp4 Hq4
    have KGn := Lib.hid (Blk.new v5 [.bool p.u, .int .u64 (n64 p.k), .int .u64 (n64 p.l), .slice a p.rs.length d] 27)
    have n_K_G : g_K ≠ v5.heap.size := by have h1 := KK5.out.lt; omega
    have n_T_G : g_T ≠ v5.heap.size := by have h1 := KT5.out.lt; omega
    have Bn := Lib.hid (B5.out.alloc B5.out.size (.cells #[.bool p.u, .int .u64 (n64 p.k), .int .u64 (n64 p.l), .slice a p.rs.length d] 27))
    have KKn := Lib.hid (KK5.out.alloc (.cells #[.bool p.u, .int .u64 (n64 p.k), .int .u64 (n64 p.l), .slice a p.rs.length d] 27))
    have KTn := Lib.hid (KT5.out.alloc (.cells #[.bool p.u, .int .u64 (n64 p.k), .int .u64 (n64 p.l), .slice a p.rs.length d] 27))
    have Hpn := Lib.hid (Hp5.out.alloc (.cells #[.bool p.u, .int .u64 (n64 p.k), .int .u64 (n64 p.l), .slice a p.rs.length d] 27))
    have Hqn := Lib.hid (Hq5.out.alloc (.cells #[.bool p.u, .int .u64 (n64 p.k), .int .u64 (n64 p.l), .slice a p.rs.length d] 27))
    have Han := Lib.hid (Ha.out.alloc (.cells #[.bool p.u, .int .u64 (n64 p.k), .int .u64 (n64 p.l), .slice a p.rs.length d] 27))
    clear B5 KK5 KT5 Hp5 Hq5 Ha
    obtain ⟨⟨cK0, cK1, cK2, cK3, cK4, cK5, cK6, cK7, cK8, cK9⟩, dK0, dK1, dK2, dK3, dK4, dK5, dK6, dK7, dK8, dK9⟩ := KKn.out.of10
    obtain ⟨⟨cT0, cT1, cT2⟩, dT0, dT1, dT2⟩ := KTn.out.o3
    go_wp2_with fail
    clear cK0 cK1 cK2 cK3 cK4 cK5 cK6 cK7 cK8 cK9 dK0 dK1 dK2 dK3 dK4 dK5 dK6 dK7 dK8 dK9 cT0 cT1 cT2 dT0 dT1 dT2
    change Calls _ _ _ (v5.alloc (.cells #[.bool p.u, .int .u64 (n64 p.k), .int .u64 (n64 p.l), .slice a p.rs.length d] 27)) _
    generalize v5.alloc (.cells #[.bool p.u, .int .u64 (n64 p.k), .int .u64 (n64 p.l), .slice a p.rs.length d] 27) = v6 at KGn Bn KKn KTn Hpn Hqn Han ⊢
    generalize v5.heap.size = g_G at KGn n_K_G n_T_G ⊢
    clear v5
    have KK6 := KKn
    clear KKn
    have KT6 := KTn
    clear KTn
    have KG6 := KGn
    clear KGn
    have Hp6 := Hpn
    clear Hpn
    have Hq6 := Hqn
    clear Hqn
    have Ha6 := Han
    clear Han
    have B6 := Bn
    clear Bn
    refine (D1.out a d _ Ha6.out).mono ?_
    rintro e v7 ⟨rfl, hb⟩
    have B7 := Lib.hid (B6.out.trans (hb.mono B6.out.size))
    have KK7 := Lib.hid (KK6.out.below hb)
    have KT7 := Lib.hid (KT6.out.below hb)
    have KG7 := Lib.hid (KG6.out.below hb)
    have Hp7 := Lib.hid (Hp6.out.below hb)
    have Hq7 := Lib.hid (Hq6.out.below hb)
    have Ha7 := Lib.hid (Ha6.out.below hb)
    clear hb B6 KK6 KT6 KG6 Hp6 Hq6 Ha6
    obtain ⟨⟨cK0, cK1, cK2, cK3, cK4, cK5, cK6, cK7, cK8, cK9⟩, dK0, dK1, dK2, dK3, dK4, dK5, dK6, dK7, dK8, dK9⟩ := KK7.out.of10
    obtain ⟨⟨cT0, cT1, cT2⟩, dT0, dT1, dT2⟩ := KT7.out.o3
    obtain ⟨⟨cG0, cG1, cG2, cG3⟩, dG0, dG1, dG2, dG3⟩ := KG7.out.four
    go_wp2_with fail
    clear cK0 cK1 cK2 cK3 cK4 cK5 cK6 cK7 cK8 cK9 dK0 dK1 dK2 dK3 dK4 dK5 dK6 dK7 dK8 dK9 cT0 cT1 cT2 dT0 dT1 dT2 cG0 cG1 cG2 cG3 dG0 dG1 dG2 dG3
    refine (D2.out a d _ Ha7.out).mono ?_
    rintro e v8 ⟨rfl, hb⟩
    have B8 := Lib.hid (B7.out.trans (hb.mono B7.out.size))
    have KK8 := Lib.hid (KK7.out.below hb)
    have KT8 := Lib.hid (KT7.out.below hb)
    have KG8 := Lib.hid (KG7.out.below hb)
    have Hp8 := Lib.hid (Hp7.out.below hb)
    have Hq8 := Lib.hid (Hq7.out.below hb)
    have Ha8 := Lib.hid (Ha7.out.below hb)
    clear hb B7 KK7 KT7 KG7 Hp7 Hq7 Ha7
    obtain ⟨⟨cK0, cK1, cK2, cK3, cK4, cK5, cK6, cK7, cK8, cK9⟩, dK0, dK1, dK2, dK3, dK4, dK5, dK6, dK7, dK8, dK9⟩ := KK8.out.of10
    obtain ⟨⟨cT0, cT1, cT2⟩, dT0, dT1, dT2⟩ := KT8.out.o3
    obtain ⟨⟨cG0, cG1, cG2, cG3⟩, dG0, dG1, dG2, dG3⟩ := KG8.out.four
    go_wp2_with fail
    go_ret
    exact ⟨ret_bool (by simp), B8.out⟩
  · rw [hv] at C1 C2
    obtain ⟨he, _⟩ := keysOk_all hk
    have hne : ((e - 1) == e) = false := by simp; omega
    have w1 : IntKind.i64.wrap (e - 1) = e - 1 := IntWalk.i64_in _ (by omega)
    have w2 : wrap64 (e - 1) = e - 1 := by unfold wrap64; omega
    clear hk h0
    generalize cpI c = i at *
    clear hv hw
    have D1 : Hid (∀ (a : Option Addr) (d : Nat) (w : World), (q.at a d).On w → Calls Tryz.prog 10 #[.agg #[.bool q.u, .int .u64 (n64 q.k), .int .u64 (n64 q.l), .slice a q.rs.length d], .agg #[.int .i64 x, .int .i64 y, .int .i64 z], .int .i64 s, .int .i64 (e - 1), .int .i64 i] w (EndN c w)) := by intro a d w h; have h2 : Calls Tryz.prog 10 #[.agg #[.bool q.u, .int .u64 (n64 q.k), .int .u64 (n64 q.l), .slice a q.rs.length d], .agg #[.int .i64 x, .int .i64 y, .int .i64 z], .int .i64 s, .int .i64 (e - 1), .int .i64 i] w (EndN (cookieOf q x y z s (e - 1) i) w) := cookieOfI (q.at a d) x y z s (e - 1) i w h fq; rwa [h1] at h2
    have D2 : Hid (∀ (a : Option Addr) (d : Nat) (w : World), (q.at a d).On w → Calls Tryz.prog 11 #[.agg #[.bool q.u, .int .u64 (n64 q.k), .int .u64 (n64 q.l), .slice a q.rs.length d], .agg #[.int .i64 x, .int .i64 y, .int .i64 z], .int .i64 s, .int .i64 (e - 1), .int .i64 i] w (EndN c w)) := by intro a d w h; have h2 : Calls Tryz.prog 11 #[.agg #[.bool q.u, .int .u64 (n64 q.k), .int .u64 (n64 q.l), .slice a q.rs.length d], .agg #[.int .i64 x, .int .i64 y, .int .i64 z], .int .i64 s, .int .i64 (e - 1), .int .i64 i] w (EndN (cookieOf q x y z s (e - 1) i) w) := cookieOfS (q.at a d) x y z s (e - 1) i w h fq; rwa [h1] at h2
    clear h1
    refine (C1.out _ Hp2.out Hq2.out).mono ?_
    rintro e v3 ⟨rfl, hb⟩
    have B3 := Lib.hid (B2.out.trans (hb.mono B2.out.size))
    have KK3 := Lib.hid (KK2.out.below hb)
    have KT3 := Lib.hid (KT2.out.below hb)
    have Hp3 := Lib.hid (Hp2.out.below hb)
    have Hq3 := Lib.hid (Hq2.out.below hb)
    clear hb B2 KK2 KT2 Hp2 Hq2
    obtain ⟨⟨cK0, cK1, cK2, cK3, cK4, cK5, cK6, cK7, cK8, cK9⟩, dK0, dK1, dK2, dK3, dK4, dK5, dK6, dK7, dK8, dK9⟩ := KK3.out.of10
    obtain ⟨⟨cT0, cT1, cT2⟩, dT0, dT1, dT2⟩ := KT3.out.o3
    go_wp2_with fail
    clear cK0 cK1 cK2 cK3 cK4 cK5 cK6 cK7 cK8 cK9 dK0 dK1 dK2 dK3 dK4 dK5 dK6 dK7 dK8 dK9 cT0 cT1 cT2 dT0 dT1 dT2
    refine (C2.out _ Hp3.out Hq3.out).mono ?_
    rintro e v4 ⟨rfl, hb⟩
    have B4 := Lib.hid (B3.out.trans (hb.mono B3.out.size))
    have KK4 := Lib.hid (KK3.out.below hb)
    have KT4 := Lib.hid (KT3.out.below hb)
    have Hp4 := Lib.hid (Hp3.out.below hb)
    have Hq4 := Lib.hid (Hq3.out.below hb)
    clear hb B3 KK3 KT3 Hp3 Hq3
    obtain ⟨⟨cK0, cK1, cK2, cK3, cK4, cK5, cK6, cK7, cK8, cK9⟩, dK0, dK1, dK2, dK3, dK4, dK5, dK6, dK7, dK8, dK9⟩ := KK4.out.of10
    obtain ⟨⟨cT0, cT1, cT2⟩, dT0, dT1, dT2⟩ := KT4.out.o3
    go_wp2_with fail
    clear cK0 cK1 cK2 cK3 cK4 cK5 cK6 cK7 cK8 cK9 dK0 dK1 dK2 dK3 dK4 dK5 dK6 dK7 dK8 dK9 cT0 cT1 cT2 dT0 dT1 dT2
    refine (secBefI e (e - 1) p q _ Hp4.out Hq4.out fq hne w2.symm).mono ?_
    rintro e v5 ⟨a, d, rfl, ho, hn, hb⟩
    have Ha := Lib.hid (M.on_I ho hn)
    clear ho hn
    have B5 := Lib.hid (B4.out.trans (hb.mono B4.out.size))
    have KK5 := Lib.hid (KK4.out.below hb)
    have KT5 := Lib.hid (KT4.out.below hb)
    have Hp5 := Lib.hid (Hp4.out.below hb)
    have Hq5 := Lib.hid (Hq4.out.below hb)
    clear hb B4 KK4 KT4 Hp4 Hq4
    have KGn := Lib.hid (Blk.new v5 [.bool q.u, .int .u64 (n64 q.k), .int .u64 (n64 q.l), .slice a q.rs.length d] 27)
    have n_K_G : g_K ≠ v5.heap.size := by have h1 := KK5.out.lt; omega
    have n_T_G : g_T ≠ v5.heap.size := by have h1 := KT5.out.lt; omega
    have Bn := Lib.hid (B5.out.alloc B5.out.size (.cells #[.bool q.u, .int .u64 (n64 q.k), .int .u64 (n64 q.l), .slice a q.rs.length d] 27))
    have KKn := Lib.hid (KK5.out.alloc (.cells #[.bool q.u, .int .u64 (n64 q.k), .int .u64 (n64 q.l), .slice a q.rs.length d] 27))
    have KTn := Lib.hid (KT5.out.alloc (.cells #[.bool q.u, .int .u64 (n64 q.k), .int .u64 (n64 q.l), .slice a q.rs.length d] 27))
    have Hpn := Lib.hid (Hp5.out.alloc (.cells #[.bool q.u, .int .u64 (n64 q.k), .int .u64 (n64 q.l), .slice a q.rs.length d] 27))
    have Hqn := Lib.hid (Hq5.out.alloc (.cells #[.bool q.u, .int .u64 (n64 q.k), .int .u64 (n64 q.l), .slice a q.rs.length d] 27))
    have Han := Lib.hid (Ha.out.alloc (.cells #[.bool q.u, .int .u64 (n64 q.k), .int .u64 (n64 q.l), .slice a q.rs.length d] 27))
    clear B5 KK5 KT5 Hp5 Hq5 Ha
    obtain ⟨⟨cK0, cK1, cK2, cK3, cK4, cK5, cK6, cK7, cK8, cK9⟩, dK0, dK1, dK2, dK3, dK4, dK5, dK6, dK7, dK8, dK9⟩ := KKn.out.of10
    obtain ⟨⟨cT0, cT1, cT2⟩, dT0, dT1, dT2⟩ := KTn.out.o3
    go_wp2_with fail
    clear cK0 cK1 cK2 cK3 cK4 cK5 cK6 cK7 cK8 cK9 dK0 dK1 dK2 dK3 dK4 dK5 dK6 dK7 dK8 dK9 cT0 cT1 cT2 dT0 dT1 dT2
    change Calls _ _ _ (v5.alloc (.cells #[.bool q.u, .int .u64 (n64 q.k), .int .u64 (n64 q.l), .slice a q.rs.length d] 27)) _
    generalize v5.alloc (.cells #[.bool q.u, .int .u64 (n64 q.k), .int .u64 (n64 q.l), .slice a q.rs.length d] 27) = v6 at KGn Bn KKn KTn Hpn Hqn Han ⊢
    generalize v5.heap.size = g_G at KGn n_K_G n_T_G ⊢
    clear v5
    have KK6 := KKn
    clear KKn
    have KT6 := KTn
    clear KTn
    have KG6 := KGn
    clear KGn
    have Hp6 := Hpn
    clear Hpn
    have Hq6 := Hqn
    clear Hqn
    have Ha6 := Han
    clear Han
    have B6 := Bn
    clear Bn
    refine (D1.out a d _ Ha6.out).mono ?_
    rintro e v7 ⟨rfl, hb⟩
    have B7 := Lib.hid (B6.out.trans (hb.mono B6.out.size))
    have KK7 := Lib.hid (KK6.out.below hb)
    have KT7 := Lib.hid (KT6.out.below hb)
    have KG7 := Lib.hid (KG6.out.below hb)
    have Hp7 := Lib.hid (Hp6.out.below hb)
    have Hq7 := Lib.hid (Hq6.out.below hb)
    have Ha7 := Lib.hid (Ha6.out.below hb)
    clear hb B6 KK6 KT6 KG6 Hp6 Hq6 Ha6
    obtain ⟨⟨cK0, cK1, cK2, cK3, cK4, cK5, cK6, cK7, cK8, cK9⟩, dK0, dK1, dK2, dK3, dK4, dK5, dK6, dK7, dK8, dK9⟩ := KK7.out.of10
    obtain ⟨⟨cT0, cT1, cT2⟩, dT0, dT1, dT2⟩ := KT7.out.o3
    obtain ⟨⟨cG0, cG1, cG2, cG3⟩, dG0, dG1, dG2, dG3⟩ := KG7.out.four
    go_wp2_with fail
    clear cK0 cK1 cK2 cK3 cK4 cK5 cK6 cK7 cK8 cK9 dK0 dK1 dK2 dK3 dK4 dK5 dK6 dK7 dK8 dK9 cT0 cT1 cT2 dT0 dT1 dT2 cG0 cG1 cG2 cG3 dG0 dG1 dG2 dG3
    refine (D2.out a d _ Ha7.out).mono ?_
    rintro e v8 ⟨rfl, hb⟩
    have B8 := Lib.hid (B7.out.trans (hb.mono B7.out.size))
    have KK8 := Lib.hid (KK7.out.below hb)
    have KT8 := Lib.hid (KT7.out.below hb)
    have KG8 := Lib.hid (KG7.out.below hb)
    have Hp8 := Lib.hid (Hp7.out.below hb)
    have Hq8 := Lib.hid (Hq7.out.below hb)
    have Ha8 := Lib.hid (Ha7.out.below hb)
    clear hb B7 KK7 KT7 KG7 Hp7 Hq7 Ha7
    obtain ⟨⟨cK0, cK1, cK2, cK3, cK4, cK5, cK6, cK7, cK8, cK9⟩, dK0, dK1, dK2, dK3, dK4, dK5, dK6, dK7, dK8, dK9⟩ := KK8.out.of10
    obtain ⟨⟨cT0, cT1, cT2⟩, dT0, dT1, dT2⟩ := KT8.out.o3
    obtain ⟨⟨cG0, cG1, cG2, cG3⟩, dG0, dG1, dG2, dG3⟩ := KG8.out.four
    go_wp2_with fail
    go_ret
    exact ⟨ret_bool (by simp), B8.out⟩
  · rw [hv] at C1 C2
    clear hv
    refine (C1.out _ Hp2.out Hq2.out).mono ?_
    rintro e v3 ⟨rfl, hb⟩
    have B3 := Lib.hid (B2.out.trans (hb.mono B2.out.size))
    have KK3 := Lib.hid (KK2.out.below hb)
    have KT3 := Lib.hid (KT2.out.below hb)
    have Hp3 := Lib.hid (Hp2.out.below hb)
    have Hq3 := Lib.hid (Hq2.out.below hb)
    clear hb B2 KK2 KT2 Hp2 Hq2
    obtain ⟨⟨cK0, cK1, cK2, cK3, cK4, cK5, cK6, cK7, cK8, cK9⟩, dK0, dK1, dK2, dK3, dK4, dK5, dK6, dK7, dK8, dK9⟩ := KK3.out.of10
    obtain ⟨⟨cT0, cT1, cT2⟩, dT0, dT1, dT2⟩ := KT3.out.o3
    go_wp2_with fail
    clear cK0 cK1 cK2 cK3 cK4 cK5 cK6 cK7 cK8 cK9 dK0 dK1 dK2 dK3 dK4 dK5 dK6 dK7 dK8 dK9 cT0 cT1 cT2 dT0 dT1 dT2
    refine (C2.out _ Hp3.out Hq3.out).mono ?_
    rintro e v4 ⟨rfl, hb⟩
    have B4 := Lib.hid (B3.out.trans (hb.mono B3.out.size))
    have KK4 := Lib.hid (KK3.out.below hb)
    have KT4 := Lib.hid (KT3.out.below hb)
    have Hp4 := Lib.hid (Hp3.out.below hb)
    have Hq4 := Lib.hid (Hq3.out.below hb)
    clear hb B3 KK3 KT3 Hp3 Hq3
    obtain ⟨⟨cK0, cK1, cK2, cK3, cK4, cK5, cK6, cK7, cK8, cK9⟩, dK0, dK1, dK2, dK3, dK4, dK5, dK6, dK7, dK8, dK9⟩ := KK4.out.of10
    obtain ⟨⟨cT0, cT1, cT2⟩, dT0, dT1, dT2⟩ := KT4.out.o3
    go_wp2_with fail
    go_ret
    exact ⟨rfl, B4.out⟩

theorem walk (a0 : Option Addr) (len0 cap0 : Nat) (s0 : List UInt8) {w : World} (w0 : IsBytes w a0 len0 s0) :
    Calls Tryz.prog 3 #[.slice a0 len0 cap0] w fun e w' => e = .returned (.bool true) ∧ Below w.heap.size w w' := by
  obtain ⟨⟨rfl, hm⟩, hrow⟩ := w0
  unfold maxLen at hm
  by_cases hs : s0.length ≤ 1048576
  · exact go a0 cap0 s0 w hrow hs
  · have h1 : 1048576 < s0.length := by omega
    go_enter Tryz.func3, Tryz.ntmps3
    go_wp2_with fail
    refine (big_yes _ _ _ _ h1 hm).mono ?_
    rintro e w' ⟨rfl, rfl⟩
    go_wp2_with fail
    go_ret
    exact ⟨rfl, Below.refl _ _⟩
theorem own : ownKnob Tryz.prog.godebug = none := by kernel_rfl
theorem laidOut : laidOutB Tryz.prog = true := by kernel_rfl

set_option maxRecDepth 100000 in
theorem lifted (os : Os) (started : os.Started) (H : Type) (enc : TypeId × Value → H) :
    ReturnsInHanded {} Tryz.checked os 3 .any (Rows.fnCookieOnlySpec.pre6 enc Tryz.prog Tryz.f3 Rows.fnCookieOnlyRow.domain false) (Rows.fnCookieOnlySpec.post enc Tryz.prog Tryz.f3 false true false false) := by
  refine returnsInHanded_of_change (C := Tryz.checked) own started (by kernel_rfl) Tryz.func3
    (ChangeSpec.witness6 (enc := enc) (C := Tryz.checked) false ⟨#[], #[.slice none 0 0], []⟩ 8 (by kernel_rfl) (by kernel_rfl) (by kernel_rfl) (by kernel_rfl)) ?_
  intro W base args ds gs before hval0 hW _ _
  have hval : ∀ (j : Nat) t v, Tryz.f3.params[j]? = some t → args[j]? = some v → Value.okWide Tryz.prog W .any base t v := hval0
  have hW' := hW
  obtain ⟨p, q, hA0, hV, rfl, _, _⟩ := hW
  have hA : DataW.TrodAll enc Tryz.prog W 0 (fun _ => true) true Tryz.f3.params.toList args.toList ds p := hA0
  rw [Tryz.params3] at hA hval
  obtain ⟨v0, vs0, d0, ds0, p0, q0, hargs, rfl, rfl, h0, r0⟩ := trodAll_cons hA
  obtain ⟨rfl, rfl, rfl⟩ := trodAll_nil r0
  obtain rfl : args = #[v0] := by cases args; simp_all
  obtain ⟨rfl, rfl⟩ := trodVars_none hV
  obtain ⟨a0, len0, cap0, rfl⟩ := okWide_slice Tryz.underlying22 (hval 0 22 v0 rfl rfl)
  have k0 := h0
  have lt0 : ∀ x ∈ p0, x.block < W.heap.size := by obtain ⟨m, hm⟩ := k0; exact DataW.trod_lt m _ _ _ hm
  obtain ⟨s0, w0⟩ : ∃ bs : List UInt8, IsBytes W a0 len0 bs := by obtain ⟨fuel, hf⟩ := h0; exact openBytes Tryz.underlying22 Tryz.underlying5 (by kernel_rfl) hf
  clear hA0 hval0
  refine (walk a0 len0 cap0 s0 w0).mono fun e W' ⟨he, bel⟩ => ?_
  subst he
  exact ⟨_, rfl, _, _, _, [], _, [], hW', trodAll_mk1 (shut_bool Tryz.underlying4 _), (trodAll_cons_mk (Below.trod laidOut (by kernel_rfl) (of_decide_eq_true (by kernel_rfl)) k0 bel lt0) trodAll_mk0), rfl, bel.frame _, fun h => by cases h⟩

theorem over : Rows.fnCookieOnlyRow.holds Tryz.pinned (OpenSpec.ofChange Rows.fnCookieOnlySpec) :=
  OpenClaim.holds_of_wide 3 Tryz.f3 rfl rfl rfl rfl rfl rfl rfl ⟨rfl, rfl, rfl, rfl, rfl⟩ rfl rfl rfl rfl rfl (by kernel_rfl) Tryz.func3 (by kernel_rfl)
    (of_decide_eq_true (by kernel_rfl)) (by unfold Func.isWrapper; first | (rw [if_pos (by decide +kernel)]; kernel_rfl) | (rw [if_neg (by decide +kernel)]; exact ⟨rfl, rfl⟩))
    (fun os started H enc _ => lifted os started H enc)

theorem proved : Rows.FnCookieOnlySaid := over
#print axioms proved
end Go.Proofs.YtobfgkiccmhgdaaGreat.fnCookieOnly
