/- Proved here: for every code of at most 1048576 bytes, with the keys, the tuple and the cookie that are drawn from it: impl.CheckCookie accepts where the model's does, and it does just where one of the two epochs that are tried makes this cookie by impl.CookieOf with the model's secret; never both do (a longer code is not asked); the call returns true for every argument, without condition. -/
import Derived.Test.YtobfgkiccmhgdaaGreatRows
import Derived.Test.YtobfgkiccmhgdaaGreatPkFnTwoEpochs
import Derived.ShutString
import Derived.ChangeOld
import Derived.Below
namespace Go.Proofs.YtobfgkiccmhgdaaGreat.fnTwoEpochs
open Go.ChangeShapes Go.WideShapes Go.ChangeAt Go.RowKit Go.Lib

/-- The law's word: true, and what lay before the call lies as it lay. -/
def OkB (w : World) (e : Ending) (w' : World) : Prop := e = .returned (.bool true) ∧ Below w.heap.size w w'

set_option maxRecDepth 100000 in
set_option maxHeartbeats 16000000 in
theorem go (a0 : Option Addr) (cap0 : Nat) (s0 : List UInt8) (w : World) (hrow : Row w w.heap.size a0 (byteCells s0)) (hs : s0.length ≤ 1048576) :
    Calls Tryz.prog 4 #[.slice a0 s0.length cap0] w (OkB w) := by
  have HR := Lib.hid hrow
  clear hrow
  go_enter Tryz.func4, Tryz.ntmps4
  go_wp2_with fail
  refine (big_no _ _ _ _ hs).mono ?_
  rintro r w' ⟨rfl, rfl⟩
  have B0 := Lib.hid (Below.refl w.heap.size w)
  go_wp2_with fail
  refine (drawCk a0 s0 cap0 w HR.out hs).mono ?_
  rintro e v1 ⟨e, p, q, t, x, y, z, s, c, rfl, hx, ⟨hp, hq⟩, ⟨fp, fq⟩, hb⟩
  have HX := Lib.hid hx
  have Hp1 := Lib.hid hp
  have Hq1 := Lib.hid hq
  clear hx hp hq HR
  have B1 := Lib.hid (B0.out.trans (hb.mono B0.out.size))
  clear hb B0
  have B2 := Lib.hid ((B1.out.alloc (by have h0 := B1.out.size; simp <;> omega) (.cells #[.int .i64 e, .bool p.u, .int .u64 (n64 p.k), .int .u64 (n64 p.l), .slice p.a p.rs.length p.c, .bool q.u, .int .u64 (n64 q.k), .int .u64 (n64 q.l), .slice q.a q.rs.length q.c, .bool t] 29)).alloc (by have h0 := B1.out.size; simp <;> omega) (.cells #[.int .i64 x, .int .i64 y, .int .i64 z] 31))
  have Hp2 := Lib.hid ((Hp1.out.alloc (.cells #[.int .i64 e, .bool p.u, .int .u64 (n64 p.k), .int .u64 (n64 p.l), .slice p.a p.rs.length p.c, .bool q.u, .int .u64 (n64 q.k), .int .u64 (n64 q.l), .slice q.a q.rs.length q.c, .bool t] 29)).alloc (.cells #[.int .i64 x, .int .i64 y, .int .i64 z] 31))
  have Hq2 := Lib.hid ((Hq1.out.alloc (.cells #[.int .i64 e, .bool p.u, .int .u64 (n64 p.k), .int .u64 (n64 p.l), .slice p.a p.rs.length p.c, .bool q.u, .int .u64 (n64 q.k), .int .u64 (n64 q.l), .slice q.a q.rs.length q.c, .bool t] 29)).alloc (.cells #[.int .i64 x, .int .i64 y, .int .i64 z] 31))
  have KK2 := Lib.hid (show Blk ((v1.alloc (.cells #[.int .i64 e, .bool p.u, .int .u64 (n64 p.k), .int .u64 (n64 p.l), .slice p.a p.rs.length p.c, .bool q.u, .int .u64 (n64 q.k), .int .u64 (n64 q.l), .slice q.a q.rs.length q.c, .bool t] 29)).alloc (.cells #[.int .i64 x, .int .i64 y, .int .i64 z] 31)) (v1.heap.size) [.int .i64 e, .bool p.u, .int .u64 (n64 p.k), .int .u64 (n64 p.l), .slice p.a p.rs.length p.c, .bool q.u, .int .u64 (n64 q.k), .int .u64 (n64 q.l), .slice q.a q.rs.length q.c, .bool t] from ((Blk.new v1 [.int .i64 e, .bool p.u, .int .u64 (n64 p.k), .int .u64 (n64 p.l), .slice p.a p.rs.length p.c, .bool q.u, .int .u64 (n64 q.k), .int .u64 (n64 q.l), .slice q.a q.rs.length q.c, .bool t] 29).alloc (.cells #[.int .i64 x, .int .i64 y, .int .i64 z] 31)))
  have n_K_T : v1.heap.size ≠ v1.heap.size + 1 := by omega
  have KT2 := Lib.hid (show Blk ((v1.alloc (.cells #[.int .i64 e, .bool p.u, .int .u64 (n64 p.k), .int .u64 (n64 p.l), .slice p.a p.rs.length p.c, .bool q.u, .int .u64 (n64 q.k), .int .u64 (n64 q.l), .slice q.a q.rs.length q.c, .bool t] 29)).alloc (.cells #[.int .i64 x, .int .i64 y, .int .i64 z] 31)) (v1.heap.size + 1) [.int .i64 x, .int .i64 y, .int .i64 z] by have h0 := (Blk.new (v1.alloc (.cells #[.int .i64 e, .bool p.u, .int .u64 (n64 p.k), .int .u64 (n64 p.l), .slice p.a p.rs.length p.c, .bool q.u, .int .u64 (n64 q.k), .int .u64 (n64 q.l), .slice q.a q.rs.length q.c, .bool t] 29)) [.int .i64 x, .int .i64 y, .int .i64 z] 31); rwa [show (v1.alloc (.cells #[.int .i64 e, .bool p.u, .int .u64 (n64 p.k), .int .u64 (n64 p.l), .slice p.a p.rs.length p.c, .bool q.u, .int .u64 (n64 q.k), .int .u64 (n64 q.l), .slice q.a q.rs.length q.c, .bool t] 29)).heap.size = v1.heap.size + 1 by simp] at h0)
  clear B1 Hp1 Hq1
  obtain ⟨⟨cK0, cK1, cK2, cK3, cK4, cK5, cK6, cK7, cK8, cK9⟩, dK0, dK1, dK2, dK3, dK4, dK5, dK6, dK7, dK8, dK9⟩ := KK2.out.of10
  obtain ⟨⟨cT0, cT1, cT2⟩, dT0, dT1, dT2⟩ := KT2.out.o3
  go_wp2_with fail
  clear cK0 cK1 cK2 cK3 cK4 cK5 cK6 cK7 cK8 cK9 dK0 dK1 dK2 dK3 dK4 dK5 dK6 dK7 dK8 dK9 cT0 cT1 cT2 dT0 dT1 dT2
  change Calls _ _ _ ((v1.alloc (.cells #[.int .i64 e, .bool p.u, .int .u64 (n64 p.k), .int .u64 (n64 p.l), .slice p.a p.rs.length p.c, .bool q.u, .int .u64 (n64 q.k), .int .u64 (n64 q.l), .slice q.a q.rs.length q.c, .bool t] 29)).alloc (.cells #[.int .i64 x, .int .i64 y, .int .i64 z] 31)) _
  generalize (v1.alloc (.cells #[.int .i64 e, .bool p.u, .int .u64 (n64 p.k), .int .u64 (n64 p.l), .slice p.a p.rs.length p.c, .bool q.u, .int .u64 (n64 q.k), .int .u64 (n64 q.l), .slice q.a q.rs.length q.c, .bool t] 29)).alloc (.cells #[.int .i64 x, .int .i64 y, .int .i64 z] 31) = v2 at B2 Hp2 Hq2 KK2 KT2 ⊢
  generalize v1.heap.size + 1 = g_T at KT2 n_K_T ⊢
  generalize v1.heap.size = g_K at KK2 n_K_T ⊢
  have C1 := Lib.hid (fun w h1 h2 => checkI e p q t x y z s c w h1 h2 fp fq)
  have C2 := Lib.hid (fun w h1 h2 => checkS e p q t x y z s c w h1 h2 fp fq)
  have C3 : Hid (∀ w, Calls Tryz.prog 13 #[.int .i64 c] w fun x w' => x = .returned (.tuple #[.int .i64 (cpE c), .int .i64 (cpI c), .int .i64 (cpT c)]) ∧ Below w.heap.size w w') := fun w => (cookPS c w).mono fun x w' h => ⟨h.1, by rw [h.2]; exact Below.refl _ _⟩
  have C4 := Lib.hid (fun w h1 h2 => keysOkS e p q t w h1 h2 fp fq)
  have D1 : Hid (∀ (g d : Nat) (w : World), (p.at (some ⟨g, 0, none⟩) d).On w → Calls Tryz.prog 10 #[.agg #[.bool p.u, .int .u64 (n64 p.k), .int .u64 (n64 p.l), .slice (some ⟨g, 0, none⟩) p.rs.length d], .agg #[.int .i64 x, .int .i64 y, .int .i64 z], .int .i64 s, .int .i64 e, .int .i64 (cpI c)] w (EndN (cookieOf p x y z s e (cpI c)) w)) := fun g d w h => cookieOfI (p.at (some ⟨g, 0, none⟩) d) x y z s e (cpI c) w h fp
  have D2 : Hid (∀ (g d : Nat) (w : World), (q.at (some ⟨g, 0, none⟩) d).On w → Calls Tryz.prog 10 #[.agg #[.bool q.u, .int .u64 (n64 q.k), .int .u64 (n64 q.l), .slice (some ⟨g, 0, none⟩) q.rs.length d], .agg #[.int .i64 x, .int .i64 y, .int .i64 z], .int .i64 s, .int .i64 (e - 1), .int .i64 (cpI c)] w (EndN (cookieOf q x y z s (e - 1) (cpI c)) w)) := fun g d w h => cookieOfI (q.at (some ⟨g, 0, none⟩) d) x y z s (e - 1) (cpI c) w h fq
  obtain ⟨kk, hk⟩ : ∃ b, keysOk e p q t = b := ⟨_, rfl⟩
  have hka : kk = true → (0 ≤ e ∧ e < 4294967296) ∧ (t = true → 1 ≤ e) := fun h => by obtain ⟨h1, _, _, h2, _⟩ := keysOk_all (hk.trans h); exact ⟨h1, h2⟩
  have hbad := fun (h : kk = false) => ck_bad (x := x) (y := y) (z := z) (s := s) (c := c) (hk.trans h)
  have hcnt := fun (h : kk = true) => ck_count (x := x) (y := y) (z := z) (s := s) (c := c) (hk.trans h)
  rw [hk] at C4
  generalize ck e p q t x y z s c = v at *
  obtain ⟨ra, rb, rc⟩ := v
  dsimp only at hbad hcnt
  generalize cookieOf p x y z s e (cpI c) = y1 at *
  generalize cookieOf q x y z s (e - 1) (cpI c) = y2 at *
  generalize cpE c = ce at *
  generalize cpI c = ci at *
  generalize cpT c = ct at *
  clear hk
  have HBAD := Lib.hid hbad
  have HCNT := Lib.hid hcnt
  have HKA := Lib.hid hka
  clear hbad hcnt hka
  refine (C1.out _ Hp2.out Hq2.out).mono ?_
  rintro e v3 ⟨rfl, hb⟩
  have B3 := Lib.hid (B2.out.trans (hb.mono B2.out.size))
  have KK3 := Lib.hid (KK2.out.below hb)
  have KT3 := Lib.hid (KT2.out.below hb)
  have Hp3 := Lib.hid (Hp2.out.below hb)
  have Hq3 := Lib.hid (Hq2.out.below hb)
  clear hb B2 KK2 KT2 Hp2 Hq2
  obtain ⟨⟨cK0, cK1, cK2, cK3, cK4, cK5, cK6, cK7, cK8, cK9⟩, dK0, dK1, dK2, dK3, dK4, dK5, dK6, dK7, dK8, dK9⟩ := KK3.out.of10
  obtain ⟨⟨cT0, cT1, cT2⟩, dT0, dT1, dT2⟩ := KT3.out.o3
  go_wp2_with fail
  clear cK0 cK1 cK2 cK3 cK4 cK5 cK6 cK7 cK8 cK9 dK0 dK1 dK2 dK3 dK4 dK5 dK6 dK7 dK8 dK9 cT0 cT1 cT2 dT0 dT1 dT2
  refine (C2.out _ Hp3.out Hq3.out).mono ?_
  rintro e v4 ⟨rfl, hb⟩
  have B4 := Lib.hid (B3.out.trans (hb.mono B3.out.size))
  have KK4 := Lib.hid (KK3.out.below hb)
  have KT4 := Lib.hid (KT3.out.below hb)
  have Hp4 := Lib.hid (Hp3.out.below hb)
  have Hq4 := Lib.hid (Hq3.out.below hb)
  clear hb B3 KK3 KT3 Hp3 Hq3
  obtain ⟨⟨cK0, cK1, cK2, cK3, cK4, cK5, cK6, cK7, cK8, cK9⟩, dK0, dK1, dK2, dK3, dK4, dK5, dK6, dK7, dK8, dK9⟩ := KK4.out.of10
  obtain ⟨⟨cT0, cT1, cT2⟩, dT0, dT1, dT2⟩ := KT4.out.o3
  cases kk with
  | false =>
    have hv3 : rc = false := HBAD.out rfl
    subst hv3
    have HE := Lib.hid HX.out
    by_cases he0 : 0 ≤ e
    · have hI : I64 e := HE.out
      unfold I64 at hI
      have w1 : IntKind.i64.wrap (e - 1) = e - 1 := IntWalk.i64_in _ (by omega)
      clear hI
      go_wp2_with fail
      go_loopw [13, 14] (fun n0 i0 wr => n0 = .int .i64 0 ∧ i0 = .int .i64 e ∧ wr = v4) (fun _ i0 _ => 0)
      case atStart => exact ⟨rfl, rfl, rfl⟩
      case round =>
        obtain ⟨rfl, rfl, hwr⟩ := hrel
        rw [hwr]
        obtain ⟨⟨cK0, cK1, cK2, cK3, cK4, cK5, cK6, cK7, cK8, cK9⟩, dK0, dK1, dK2, dK3, dK4, dK5, dK6, dK7, dK8, dK9⟩ := KK4.out.of10
        obtain ⟨⟨cT0, cT1, cT2⟩, dT0, dT1, dT2⟩ := KT4.out.o3
        go_wp2_with fail
        clear cK0 cK1 cK2 cK3 cK4 cK5 cK6 cK7 cK8 cK9 dK0 dK1 dK2 dK3 dK4 dK5 dK6 dK7 dK8 dK9 cT0 cT1 cT2 dT0 dT1 dT2
        refine (C4.out _ Hp4.out Hq4.out).mono ?_
        rintro e v5 ⟨rfl, hb⟩
        have B5 := Lib.hid (B4.out.trans (hb.mono B4.out.size))
        have KK5 := Lib.hid (KK4.out.below hb)
        have KT5 := Lib.hid (KT4.out.below hb)
        have Hp5 := Lib.hid (Hp4.out.below hb)
        have Hq5 := Lib.hid (Hq4.out.below hb)
        clear hb B4 KK4 KT4 Hp4 Hq4
        obtain ⟨⟨cK0, cK1, cK2, cK3, cK4, cK5, cK6, cK7, cK8, cK9⟩, dK0, dK1, dK2, dK3, dK4, dK5, dK6, dK7, dK8, dK9⟩ := KK5.out.of10
        obtain ⟨⟨cT0, cT1, cT2⟩, dT0, dT1, dT2⟩ := KT5.out.o3
        go_wp2_with fail
        go_ret
        exact ⟨rfl, B5.out⟩
    · go_wp2_with fail
      go_loopw [13, 14] (fun n0 i0 wr => n0 = .int .i64 0 ∧ i0 = .int .i64 e ∧ wr = v4) (fun _ i0 _ => 0)
      case atStart => exact ⟨rfl, rfl, rfl⟩
      case round =>
        obtain ⟨rfl, rfl, hwr⟩ := hrel
        rw [hwr]
        go_wp2_with fail
        go_ret
        exact ⟨rfl, B4.out⟩
  | true =>
    obtain ⟨⟨e0, e1⟩, ht1⟩ := HKA.out rfl
    have HT1 := Lib.hid ht1
    clear ht1
    have w1 : IntKind.i64.wrap (e - 1) = e - 1 := IntWalk.i64_in _ (by omega)
    have w2 : wrap64 (e - 1) = e - 1 := by unfold wrap64; omega
    have w3 : IntKind.i64.wrap (e - 1 - 1) = e - 1 - 1 := IntWalk.i64_in _ (by omega)
    have hne : ((e - 1) == e) = false := by simp; omega
    obtain ⟨b1, hb1⟩ : ∃ b : Bool, b = decide (0 ≤ ci ∧ y1 = c) := ⟨_, rfl⟩
    obtain ⟨b2, hb2⟩ : ∃ b : Bool, b = decide (t = true ∧ 0 ≤ ci ∧ y2 = c) := ⟨_, rfl⟩
    obtain ⟨h12, hrc⟩ := HCNT.out rfl
    rw [← hb1, ← hb2] at hrc
    have H12 : Hid (b1 = true → b2 = true → False) := fun h3 h4 => h12 (by rw [hb1] at h3; exact of_decide_eq_true h3) (by rw [hb2] at h4; exact of_decide_eq_true h4)
    have HRC := Lib.hid hrc
    clear h12 hrc
    go_wp2_with fail
    go_loopw [13, 14] (fun n0 i0 wr => ∃ (j : Nat) (k : Int), n0 = .int .i64 k ∧ i0 = .int .i64 (e - (j : Int)) ∧ Hid (Below v4.heap.size v4 wr) ∧ ((j = 0 ∧ k = 0) ∨ (j = 1 ∧ k = (if b1 = true then (1 : Int) else 0)) ∨ (j = 2 ∧ k = (if b1 = true then (1 : Int) else 0) + (if b2 = true then (1 : Int) else 0)))) (fun _ i0 _ => (RowKit.intOf i0 + 2 - e).toNat)
    case atStart => exact ⟨0, 0, rfl, by simp, Below.refl _ _, .inl ⟨rfl, rfl⟩⟩
    case round =>
      obtain ⟨j, k, rfl, rfl, hbl, hj⟩ := hrel
      rcases hj with ⟨rfl, hk⟩ | ⟨rfl, hk⟩ | ⟨rfl, hk⟩
      · subst hk
        have q0 : e - ((0 : Nat) : Int) = e := by omega
        rw [q0]
        clear q0
        have hbl' := hbl
        have B50 := Lib.hid (B4.out.trans (hbl.out.mono B4.out.size))
        have KK50 := Lib.hid (KK4.out.below hbl.out)
        have KT50 := Lib.hid (KT4.out.below hbl.out)
        have Hp50 := Lib.hid (Hp4.out.below hbl.out)
        have Hq50 := Lib.hid (Hq4.out.below hbl.out)
        clear hbl
        obtain ⟨⟨cK0, cK1, cK2, cK3, cK4, cK5, cK6, cK7, cK8, cK9⟩, dK0, dK1, dK2, dK3, dK4, dK5, dK6, dK7, dK8, dK9⟩ := KK50.out.of10
        obtain ⟨⟨cT0, cT1, cT2⟩, dT0, dT1, dT2⟩ := KT50.out.o3
        go_wp2_with fail
        clear cK0 cK1 cK2 cK3 cK4 cK5 cK6 cK7 cK8 cK9 dK0 dK1 dK2 dK3 dK4 dK5 dK6 dK7 dK8 dK9 cT0 cT1 cT2 dT0 dT1 dT2
        refine (C4.out _ Hp50.out Hq50.out).mono ?_
        rintro e v51 ⟨rfl, hb⟩
        have B51 := Lib.hid (B50.out.trans (hb.mono B50.out.size))
        replace hbl' := Lib.hid (hbl'.out.trans (hb.mono hbl'.out.size))
        have KK51 := Lib.hid (KK50.out.below hb)
        have KT51 := Lib.hid (KT50.out.below hb)
        have Hp51 := Lib.hid (Hp50.out.below hb)
        have Hq51 := Lib.hid (Hq50.out.below hb)
        clear hb B50 KK50 KT50 Hp50 Hq50
        obtain ⟨⟨cK0, cK1, cK2, cK3, cK4, cK5, cK6, cK7, cK8, cK9⟩, dK0, dK1, dK2, dK3, dK4, dK5, dK6, dK7, dK8, dK9⟩ := KK51.out.of10
        obtain ⟨⟨cT0, cT1, cT2⟩, dT0, dT1, dT2⟩ := KT51.out.o3
        go_wp2_with fail
        clear cK0 cK1 cK2 cK3 cK4 cK5 cK6 cK7 cK8 cK9 dK0 dK1 dK2 dK3 dK4 dK5 dK6 dK7 dK8 dK9 cT0 cT1 cT2 dT0 dT1 dT2
        refine (C3.out _).mono ?_
        rintro e v52 ⟨rfl, hb⟩
        have B52 := Lib.hid (B51.out.trans (hb.mono B51.out.size))
        replace hbl' := Lib.hid (hbl'.out.trans (hb.mono hbl'.out.size))
        have KK52 := Lib.hid (KK51.out.below hb)
        have KT52 := Lib.hid (KT51.out.below hb)
        have Hp52 := Lib.hid (Hp51.out.below hb)
        have Hq52 := Lib.hid (Hq51.out.below hb)
        clear hb B51 KK51 KT51 Hp51 Hq51
        obtain ⟨⟨cK0, cK1, cK2, cK3, cK4, cK5, cK6, cK7, cK8, cK9⟩, dK0, dK1, dK2, dK3, dK4, dK5, dK6, dK7, dK8, dK9⟩ := KK52.out.of10
        obtain ⟨⟨cT0, cT1, cT2⟩, dT0, dT1, dT2⟩ := KT52.out.o3
        go_wp2_with fail
        clear cK0 cK1 cK2 cK3 cK4 cK5 cK6 cK7 cK8 cK9 dK0 dK1 dK2 dK3 dK4 dK5 dK6 dK7 dK8 dK9 cT0 cT1 cT2 dT0 dT1 dT2
        refine (secNowS e p q t _ Hp52.out Hq52.out fp).mono ?_
        rintro e v53 ⟨g, d, rfl, ho, hb⟩
        have Ha := Lib.hid (M.on_at ho)
        clear ho
        have B53 := Lib.hid (B52.out.trans (hb.mono B52.out.size))
        replace hbl' := Lib.hid (hbl'.out.trans (hb.mono hbl'.out.size))
        have KK53 := Lib.hid (KK52.out.below hb)
        have KT53 := Lib.hid (KT52.out.below hb)
        have Hp53 := Lib.hid (Hp52.out.below hb)
        have Hq53 := Lib.hid (Hq52.out.below hb)
        clear hb B52 KK52 KT52 Hp52 Hq52
        by_cases hc0 : 0 ≤ ci
        · have KSn := Lib.hid (Blk.new v53 [.bool p.u, .int .u64 (n64 p.k), .int .u64 (n64 p.l), .slice (some ⟨g, 0, none⟩) p.rs.length d] 27)
          have n_K_S : g_K ≠ v53.heap.size := by have h1 := KK53.out.lt; omega
          have n_T_S : g_T ≠ v53.heap.size := by have h1 := KT53.out.lt; omega
          have Bn := Lib.hid (B53.out.alloc B53.out.size (.cells #[.bool p.u, .int .u64 (n64 p.k), .int .u64 (n64 p.l), .slice (some ⟨g, 0, none⟩) p.rs.length d] 27))
          replace hbl' := Lib.hid (hbl'.out.alloc hbl'.out.size (.cells #[.bool p.u, .int .u64 (n64 p.k), .int .u64 (n64 p.l), .slice (some ⟨g, 0, none⟩) p.rs.length d] 27))
          have KKn := Lib.hid (KK53.out.alloc (.cells #[.bool p.u, .int .u64 (n64 p.k), .int .u64 (n64 p.l), .slice (some ⟨g, 0, none⟩) p.rs.length d] 27))
          have KTn := Lib.hid (KT53.out.alloc (.cells #[.bool p.u, .int .u64 (n64 p.k), .int .u64 (n64 p.l), .slice (some ⟨g, 0, none⟩) p.rs.length d] 27))
          have Hpn := Lib.hid (Hp53.out.alloc (.cells #[.bool p.u, .int .u64 (n64 p.k), .int .u64 (n64 p.l), .slice (some ⟨g, 0, none⟩) p.rs.length d] 27))
          have Hqn := Lib.hid (Hq53.out.alloc (.cells #[.bool p.u, .int .u64 (n64 p.k), .int .u64 (n64 p.l), .slice (some ⟨g, 0, none⟩) p.rs.length d] 27))
          have Han := Lib.hid (Ha.out.alloc (.cells #[.bool p.u, .int .u64 (n64 p.k), .int .u64 (n64 p.l), .slice (some ⟨g, 0, none⟩) p.rs.length d] 27))
          clear B53 KK53 KT53 Hp53 Hq53 Ha
          obtain ⟨⟨cK0, cK1, cK2, cK3, cK4, cK5, cK6, cK7, cK8, cK9⟩, dK0, dK1, dK2, dK3, dK4, dK5, dK6, dK7, dK8, dK9⟩ := KKn.out.of10
          obtain ⟨⟨cT0, cT1, cT2⟩, dT0, dT1, dT2⟩ := KTn.out.o3
          go_wp2_with fail
          clear cK0 cK1 cK2 cK3 cK4 cK5 cK6 cK7 cK8 cK9 dK0 dK1 dK2 dK3 dK4 dK5 dK6 dK7 dK8 dK9 cT0 cT1 cT2 dT0 dT1 dT2
          change Calls _ _ _ (v53.alloc (.cells #[.bool p.u, .int .u64 (n64 p.k), .int .u64 (n64 p.l), .slice (some ⟨g, 0, none⟩) p.rs.length d] 27)) _
          generalize v53.alloc (.cells #[.bool p.u, .int .u64 (n64 p.k), .int .u64 (n64 p.l), .slice (some ⟨g, 0, none⟩) p.rs.length d] 27) = v54 at hbl' KSn Bn KKn KTn Hpn Hqn Han ⊢
          generalize v53.heap.size = g_S at KSn n_K_S n_T_S ⊢
          clear v53
          have KK54 := KKn
          clear KKn
          have KT54 := KTn
          clear KTn
          have KS54 := KSn
          clear KSn
          have Hp54 := Hpn
          clear Hpn
          have Hq54 := Hqn
          clear Hqn
          have Ha54 := Han
          clear Han
          have B54 := Bn
          clear Bn
          refine (D1.out g d _ Ha54.out).mono ?_
          rintro e v55 ⟨rfl, hb⟩
          have B55 := Lib.hid (B54.out.trans (hb.mono B54.out.size))
          replace hbl' := Lib.hid (hbl'.out.trans (hb.mono hbl'.out.size))
          have KK55 := Lib.hid (KK54.out.below hb)
          have KT55 := Lib.hid (KT54.out.below hb)
          have KS55 := Lib.hid (KS54.out.below hb)
          have Hp55 := Lib.hid (Hp54.out.below hb)
          have Hq55 := Lib.hid (Hq54.out.below hb)
          have Ha55 := Lib.hid (Ha54.out.below hb)
          clear hb B54 KK54 KT54 KS54 Hp54 Hq54 Ha54
          by_cases hy : (y1 == c) = false
          obtain ⟨⟨cK0, cK1, cK2, cK3, cK4, cK5, cK6, cK7, cK8, cK9⟩, dK0, dK1, dK2, dK3, dK4, dK5, dK6, dK7, dK8, dK9⟩ := KK55.out.of10
          obtain ⟨⟨cT0, cT1, cT2⟩, dT0, dT1, dT2⟩ := KT55.out.o3
          obtain ⟨⟨cS0, cS1, cS2, cS3⟩, dS0, dS1, dS2, dS3⟩ := KS55.out.four
          · have hbb : b1 = false := by rw [hb1]; have h9 : ¬ y1 = c := (by simpa using hy); simp [h9]
            go_wp2_with fail
            go_roundw
            case rel => exact ⟨1, 0, by go_num, by (congr 1 <;> omega), hbl', .inr (.inl ⟨rfl, by rw [hbb]; simp⟩)⟩
            case measure => simp [RowKit.intOf] <;> omega
          · have h9 : y1 = c := by simpa using hy
            have hbb : b1 = true := by rw [hb1]; simp [h9, hc0]
            have hy' : (y1 == c) = true := by simpa using hy
            go_wp2_with fail
            go_roundw
            case rel => exact ⟨1, 1, by go_num, by (congr 1 <;> omega), hbl', .inr (.inl ⟨rfl, by rw [hbb]; simp⟩)⟩
            case measure => simp [RowKit.intOf] <;> omega
        · have hbb : b1 = false := by rw [hb1]; simp [hc0]
          obtain ⟨⟨cK0, cK1, cK2, cK3, cK4, cK5, cK6, cK7, cK8, cK9⟩, dK0, dK1, dK2, dK3, dK4, dK5, dK6, dK7, dK8, dK9⟩ := KK53.out.of10
          obtain ⟨⟨cT0, cT1, cT2⟩, dT0, dT1, dT2⟩ := KT53.out.o3
          go_wp2_with fail
          go_roundw
          case rel => exact ⟨1, 0, by go_num, by (congr 1 <;> omega), (Lib.hid (hbl'.out.alloc hbl'.out.size (.cells #[.bool p.u, .int .u64 (n64 p.k), .int .u64 (n64 p.l), .slice (some ⟨g, 0, none⟩) p.rs.length d] 27))), .inr (.inl ⟨rfl, by rw [hbb]; simp⟩)⟩
          case measure => simp [RowKit.intOf] <;> omega
      · have hk01 : 0 ≤ k ∧ k ≤ 1 := by rw [hk]; split <;> omega
        have HK := Lib.hid hk
        clear hk
        have hkw : IntKind.i64.wrap (k + 1) = k + 1 := IntWalk.i64_in _ (by omega)
        have q1 : e - ((1 : Nat) : Int) = e - 1 := by omega
        rw [q1]
        clear q1
        cases t with
        | true =>
          have he1 : 1 ≤ e := HT1.out rfl
          have hbl' := hbl
          have B50 := Lib.hid (B4.out.trans (hbl.out.mono B4.out.size))
          have KK50 := Lib.hid (KK4.out.below hbl.out)
          have KT50 := Lib.hid (KT4.out.below hbl.out)
          have Hp50 := Lib.hid (Hp4.out.below hbl.out)
          have Hq50 := Lib.hid (Hq4.out.below hbl.out)
          clear hbl
          obtain ⟨⟨cK0, cK1, cK2, cK3, cK4, cK5, cK6, cK7, cK8, cK9⟩, dK0, dK1, dK2, dK3, dK4, dK5, dK6, dK7, dK8, dK9⟩ := KK50.out.of10
          obtain ⟨⟨cT0, cT1, cT2⟩, dT0, dT1, dT2⟩ := KT50.out.o3
          go_wp2_with fail
          clear cK0 cK1 cK2 cK3 cK4 cK5 cK6 cK7 cK8 cK9 dK0 dK1 dK2 dK3 dK4 dK5 dK6 dK7 dK8 dK9 cT0 cT1 cT2 dT0 dT1 dT2
          refine (C4.out _ Hp50.out Hq50.out).mono ?_
          rintro e v51 ⟨rfl, hb⟩
          have B51 := Lib.hid (B50.out.trans (hb.mono B50.out.size))
          replace hbl' := Lib.hid (hbl'.out.trans (hb.mono hbl'.out.size))
          have KK51 := Lib.hid (KK50.out.below hb)
          have KT51 := Lib.hid (KT50.out.below hb)
          have Hp51 := Lib.hid (Hp50.out.below hb)
          have Hq51 := Lib.hid (Hq50.out.below hb)
          clear hb B50 KK50 KT50 Hp50 Hq50
          obtain ⟨⟨cK0, cK1, cK2, cK3, cK4, cK5, cK6, cK7, cK8, cK9⟩, dK0, dK1, dK2, dK3, dK4, dK5, dK6, dK7, dK8, dK9⟩ := KK51.out.of10
          obtain ⟨⟨cT0, cT1, cT2⟩, dT0, dT1, dT2⟩ := KT51.out.o3
          go_wp2_with fail
          clear cK0 cK1 cK2 cK3 cK4 cK5 cK6 cK7 cK8 cK9 dK0 dK1 dK2 dK3 dK4 dK5 dK6 dK7 dK8 dK9 cT0 cT1 cT2 dT0 dT1 dT2
          refine (C3.out _).mono ?_
          rintro e v52 ⟨rfl, hb⟩
          have B52 := Lib.hid (B51.out.trans (hb.mono B51.out.size))
          replace hbl' := Lib.hid (hbl'.out.trans (hb.mono hbl'.out.size))
          have KK52 := Lib.hid (KK51.out.below hb)
          have KT52 := Lib.hid (KT51.out.below hb)
          have Hp52 := Lib.hid (Hp51.out.below hb)
          have Hq52 := Lib.hid (Hq51.out.below hb)
          clear hb B51 KK51 KT51 Hp51 Hq51
          obtain ⟨⟨cK0, cK1, cK2, cK3, cK4, cK5, cK6, cK7, cK8, cK9⟩, dK0, dK1, dK2, dK3, dK4, dK5, dK6, dK7, dK8, dK9⟩ := KK52.out.of10
          obtain ⟨⟨cT0, cT1, cT2⟩, dT0, dT1, dT2⟩ := KT52.out.o3
          go_wp2_with fail
          clear cK0 cK1 cK2 cK3 cK4 cK5 cK6 cK7 cK8 cK9 dK0 dK1 dK2 dK3 dK4 dK5 dK6 dK7 dK8 dK9 cT0 cT1 cT2 dT0 dT1 dT2
          refine (secBefS e (e - 1) p q _ Hp52.out Hq52.out fq hne w2.symm).mono ?_
          rintro e v53 ⟨g, d, rfl, ho, hb⟩
          have Ha := Lib.hid (M.on_at ho)
          clear ho
          have B53 := Lib.hid (B52.out.trans (hb.mono B52.out.size))
          replace hbl' := Lib.hid (hbl'.out.trans (hb.mono hbl'.out.size))
          have KK53 := Lib.hid (KK52.out.below hb)
          have KT53 := Lib.hid (KT52.out.below hb)
          have Hp53 := Lib.hid (Hp52.out.below hb)
          have Hq53 := Lib.hid (Hq52.out.below hb)
          clear hb B52 KK52 KT52 Hp52 Hq52
          by_cases hc0 : 0 ≤ ci
          · have KSn := Lib.hid (Blk.new v53 [.bool q.u, .int .u64 (n64 q.k), .int .u64 (n64 q.l), .slice (some ⟨g, 0, none⟩) q.rs.length d] 27)
            have n_K_S : g_K ≠ v53.heap.size := by have h1 := KK53.out.lt; omega
            have n_T_S : g_T ≠ v53.heap.size := by have h1 := KT53.out.lt; omega
            have Bn := Lib.hid (B53.out.alloc B53.out.size (.cells #[.bool q.u, .int .u64 (n64 q.k), .int .u64 (n64 q.l), .slice (some ⟨g, 0, none⟩) q.rs.length d] 27))
            replace hbl' := Lib.hid (hbl'.out.alloc hbl'.out.size (.cells #[.bool q.u, .int .u64 (n64 q.k), .int .u64 (n64 q.l), .slice (some ⟨g, 0, none⟩) q.rs.length d] 27))
            have KKn := Lib.hid (KK53.out.alloc (.cells #[.bool q.u, .int .u64 (n64 q.k), .int .u64 (n64 q.l), .slice (some ⟨g, 0, none⟩) q.rs.length d] 27))
            have KTn := Lib.hid (KT53.out.alloc (.cells #[.bool q.u, .int .u64 (n64 q.k), .int .u64 (n64 q.l), .slice (some ⟨g, 0, none⟩) q.rs.length d] 27))
            have Hpn := Lib.hid (Hp53.out.alloc (.cells #[.bool q.u, .int .u64 (n64 q.k), .int .u64 (n64 q.l), .slice (some ⟨g, 0, none⟩) q.rs.length d] 27))
            have Hqn := Lib.hid (Hq53.out.alloc (.cells #[.bool q.u, .int .u64 (n64 q.k), .int .u64 (n64 q.l), .slice (some ⟨g, 0, none⟩) q.rs.length d] 27))
            have Han := Lib.hid (Ha.out.alloc (.cells #[.bool q.u, .int .u64 (n64 q.k), .int .u64 (n64 q.l), .slice (some ⟨g, 0, none⟩) q.rs.length d] 27))
            clear B53 KK53 KT53 Hp53 Hq53 Ha
            obtain ⟨⟨cK0, cK1, cK2, cK3, cK4, cK5, cK6, cK7, cK8, cK9⟩, dK0, dK1, dK2, dK3, dK4, dK5, dK6, dK7, dK8, dK9⟩ := KKn.out.of10
            obtain ⟨⟨cT0, cT1, cT2⟩, dT0, dT1, dT2⟩ := KTn.out.o3
            go_wp2_with fail
            clear cK0 cK1 cK2 cK3 cK4 cK5 cK6 cK7 cK8 cK9 dK0 dK1 dK2 dK3 dK4 dK5 dK6 dK7 dK8 dK9 cT0 cT1 cT2 dT0 dT1 dT2
            change Calls _ _ _ (v53.alloc (.cells #[.bool q.u, .int .u64 (n64 q.k), .int .u64 (n64 q.l), .slice (some ⟨g, 0, none⟩) q.rs.length d] 27)) _
            generalize v53.alloc (.cells #[.bool q.u, .int .u64 (n64 q.k), .int .u64 (n64 q.l), .slice (some ⟨g, 0, none⟩) q.rs.length d] 27) = v54 at hbl' KSn Bn KKn KTn Hpn Hqn Han ⊢
            generalize v53.heap.size = g_S at KSn n_K_S n_T_S ⊢
            clear v53
            have KK54 := KKn
            clear KKn
            have KT54 := KTn
            clear KTn
            have KS54 := KSn
            clear KSn
            have Hp54 := Hpn
            clear Hpn
            have Hq54 := Hqn
            clear Hqn
            have Ha54 := Han
            clear Han
            have B54 := Bn
            clear Bn
            refine (D2.out g d _ Ha54.out).mono ?_
            rintro e v55 ⟨rfl, hb⟩
            have B55 := Lib.hid (B54.out.trans (hb.mono B54.out.size))
            replace hbl' := Lib.hid (hbl'.out.trans (hb.mono hbl'.out.size))
            have KK55 := Lib.hid (KK54.out.below hb)
            have KT55 := Lib.hid (KT54.out.below hb)
            have KS55 := Lib.hid (KS54.out.below hb)
            have Hp55 := Lib.hid (Hp54.out.below hb)
            have Hq55 := Lib.hid (Hq54.out.below hb)
            have Ha55 := Lib.hid (Ha54.out.below hb)
            clear hb B54 KK54 KT54 KS54 Hp54 Hq54 Ha54
            by_cases hy : (y2 == c) = false
            obtain ⟨⟨cK0, cK1, cK2, cK3, cK4, cK5, cK6, cK7, cK8, cK9⟩, dK0, dK1, dK2, dK3, dK4, dK5, dK6, dK7, dK8, dK9⟩ := KK55.out.of10
            obtain ⟨⟨cT0, cT1, cT2⟩, dT0, dT1, dT2⟩ := KT55.out.o3
            obtain ⟨⟨cS0, cS1, cS2, cS3⟩, dS0, dS1, dS2, dS3⟩ := KS55.out.four
            · have hbb : b2 = false := by rw [hb2]; have h9 : ¬ y2 = c := (by simpa using hy); simp [h9]
              go_wp2_with fail
              go_roundw
              case rel => exact ⟨2, k, by first | rfl | go_num | (congr 1 <;> omega), by (congr 1 <;> omega), hbl', .inr (.inr ⟨rfl, by rw [HK.out, hbb]; simp⟩)⟩
              case measure => simp [RowKit.intOf] <;> omega
            · have h9 : y2 = c := by simpa using hy
              have hbb : b2 = true := by rw [hb2]; simp [h9, hc0]
              have hy' : (y2 == c) = true := by simpa using hy
              go_wp2_with fail
              go_roundw
              case rel => exact ⟨2, k + 1, by first | rfl | go_num | (congr 1 <;> omega), by (congr 1 <;> omega), hbl', .inr (.inr ⟨rfl, by rw [HK.out, hbb]; simp⟩)⟩
              case measure => simp [RowKit.intOf] <;> omega
          · have hbb : b2 = false := by rw [hb2]; simp [hc0]
            obtain ⟨⟨cK0, cK1, cK2, cK3, cK4, cK5, cK6, cK7, cK8, cK9⟩, dK0, dK1, dK2, dK3, dK4, dK5, dK6, dK7, dK8, dK9⟩ := KK53.out.of10
            obtain ⟨⟨cT0, cT1, cT2⟩, dT0, dT1, dT2⟩ := KT53.out.o3
            go_wp2_with fail
            go_roundw
            case rel => exact ⟨2, k, by first | rfl | go_num | (congr 1 <;> omega), by (congr 1 <;> omega), (Lib.hid (hbl'.out.alloc hbl'.out.size (.cells #[.bool q.u, .int .u64 (n64 q.k), .int .u64 (n64 q.l), .slice (some ⟨g, 0, none⟩) q.rs.length d] 27))), .inr (.inr ⟨rfl, by rw [HK.out, hbb]; simp⟩)⟩
            case measure => simp [RowKit.intOf] <;> omega
        | false =>
          have hbb : b2 = false := by rw [hb2]; simp
          have hbl' := hbl
          have B50 := Lib.hid (B4.out.trans (hbl.out.mono B4.out.size))
          have KK50 := Lib.hid (KK4.out.below hbl.out)
          have KT50 := Lib.hid (KT4.out.below hbl.out)
          have Hp50 := Lib.hid (Hp4.out.below hbl.out)
          have Hq50 := Lib.hid (Hq4.out.below hbl.out)
          clear hbl
          by_cases he1 : 1 ≤ e
          · obtain ⟨⟨cK0, cK1, cK2, cK3, cK4, cK5, cK6, cK7, cK8, cK9⟩, dK0, dK1, dK2, dK3, dK4, dK5, dK6, dK7, dK8, dK9⟩ := KK50.out.of10
            obtain ⟨⟨cT0, cT1, cT2⟩, dT0, dT1, dT2⟩ := KT50.out.o3
            go_wp2_with fail
            clear cK0 cK1 cK2 cK3 cK4 cK5 cK6 cK7 cK8 cK9 dK0 dK1 dK2 dK3 dK4 dK5 dK6 dK7 dK8 dK9 cT0 cT1 cT2 dT0 dT1 dT2
            refine (C4.out _ Hp50.out Hq50.out).mono ?_
            rintro e v51 ⟨rfl, hb⟩
            have B51 := Lib.hid (B50.out.trans (hb.mono B50.out.size))
            replace hbl' := Lib.hid (hbl'.out.trans (hb.mono hbl'.out.size))
            have KK51 := Lib.hid (KK50.out.below hb)
            have KT51 := Lib.hid (KT50.out.below hb)
            have Hp51 := Lib.hid (Hp50.out.below hb)
            have Hq51 := Lib.hid (Hq50.out.below hb)
            clear hb B50 KK50 KT50 Hp50 Hq50
            obtain ⟨⟨cK0, cK1, cK2, cK3, cK4, cK5, cK6, cK7, cK8, cK9⟩, dK0, dK1, dK2, dK3, dK4, dK5, dK6, dK7, dK8, dK9⟩ := KK51.out.of10
            obtain ⟨⟨cT0, cT1, cT2⟩, dT0, dT1, dT2⟩ := KT51.out.o3
            go_wp2_with fail
            clear cK0 cK1 cK2 cK3 cK4 cK5 cK6 cK7 cK8 cK9 dK0 dK1 dK2 dK3 dK4 dK5 dK6 dK7 dK8 dK9 cT0 cT1 cT2 dT0 dT1 dT2
            refine (C3.out _).mono ?_
            rintro e v52 ⟨rfl, hb⟩
            have B52 := Lib.hid (B51.out.trans (hb.mono B51.out.size))
            replace hbl' := Lib.hid (hbl'.out.trans (hb.mono hbl'.out.size))
            have KK52 := Lib.hid (KK51.out.below hb)
            have KT52 := Lib.hid (KT51.out.below hb)
            have Hp52 := Lib.hid (Hp51.out.below hb)
            have Hq52 := Lib.hid (Hq51.out.below hb)
            clear hb B51 KK51 KT51 Hp51 Hq51
            obtain ⟨⟨cK0, cK1, cK2, cK3, cK4, cK5, cK6, cK7, cK8, cK9⟩, dK0, dK1, dK2, dK3, dK4, dK5, dK6, dK7, dK8, dK9⟩ := KK52.out.of10
            obtain ⟨⟨cT0, cT1, cT2⟩, dT0, dT1, dT2⟩ := KT52.out.o3
            go_wp2_with fail
            clear cK0 cK1 cK2 cK3 cK4 cK5 cK6 cK7 cK8 cK9 dK0 dK1 dK2 dK3 dK4 dK5 dK6 dK7 dK8 dK9 cT0 cT1 cT2 dT0 dT1 dT2
            refine (secNoOneS e (e - 1) p q _ hne).mono ?_
            rintro e v53 ⟨rfl, hb⟩
            have B53 := Lib.hid (B52.out.trans (hb.mono B52.out.size))
            replace hbl' := Lib.hid (hbl'.out.trans (hb.mono hbl'.out.size))
            have KK53 := Lib.hid (KK52.out.below hb)
            have KT53 := Lib.hid (KT52.out.below hb)
            have Hp53 := Lib.hid (Hp52.out.below hb)
            have Hq53 := Lib.hid (Hq52.out.below hb)
            clear hb B52 KK52 KT52 Hp52 Hq52
            obtain ⟨⟨cK0, cK1, cK2, cK3, cK4, cK5, cK6, cK7, cK8, cK9⟩, dK0, dK1, dK2, dK3, dK4, dK5, dK6, dK7, dK8, dK9⟩ := KK53.out.of10
            obtain ⟨⟨cT0, cT1, cT2⟩, dT0, dT1, dT2⟩ := KT53.out.o3
            go_wp2_with fail
            go_roundw
            case rel => exact ⟨2, k, by first | rfl | go_num | (congr 1 <;> omega), by (congr 1 <;> omega), (Lib.hid (hbl'.out.alloc hbl'.out.size (.cells #[.bool false, .int .u64 0, .int .u64 0, .slice none 0 0] 27))), .inr (.inr ⟨rfl, by rw [HK.out, hbb]; simp⟩)⟩
            case measure => simp [RowKit.intOf] <;> omega
          · replace HK := Lib.hid (show k = (if b1 = true then 1 else 0) + (if b2 = true then 1 else 0) by rw [HK.out, hbb]; simp)
            clear hkw hk01 hbb
            have hrc := HRC.out
            subst hrc
            clear hb1 hb2 HRC
            cases b1 <;> cases b2
            · obtain rfl : k = 0 := by rw [HK.out]; simp
              obtain ⟨⟨cK0, cK1, cK2, cK3, cK4, cK5, cK6, cK7, cK8, cK9⟩, dK0, dK1, dK2, dK3, dK4, dK5, dK6, dK7, dK8, dK9⟩ := KK50.out.of10
              obtain ⟨⟨cT0, cT1, cT2⟩, dT0, dT1, dT2⟩ := KT50.out.o3
              go_wp2_with fail
              go_ret
              exact ⟨ret_bool (by simp), B50.out⟩
            · obtain rfl : k = 1 := by rw [HK.out]; simp
              obtain ⟨⟨cK0, cK1, cK2, cK3, cK4, cK5, cK6, cK7, cK8, cK9⟩, dK0, dK1, dK2, dK3, dK4, dK5, dK6, dK7, dK8, dK9⟩ := KK50.out.of10
              obtain ⟨⟨cT0, cT1, cT2⟩, dT0, dT1, dT2⟩ := KT50.out.o3
              go_wp2_with fail
              go_ret
              exact ⟨ret_bool (by simp), B50.out⟩
            · obtain rfl : k = 1 := by rw [HK.out]; simp
              obtain ⟨⟨cK0, cK1, cK2, cK3, cK4, cK5, cK6, cK7, cK8, cK9⟩, dK0, dK1, dK2, dK3, dK4, dK5, dK6, dK7, dK8, dK9⟩ := KK50.out.of10
              obtain ⟨⟨cT0, cT1, cT2⟩, dT0, dT1, dT2⟩ := KT50.out.o3
              go_wp2_with fail
              go_ret
              exact ⟨ret_bool (by simp), B50.out⟩
            · exact absurd rfl (fun h => H12.out h rfl)
      · have HK := Lib.hid hk
        clear hk
        have q2 : e - ((2 : Nat) : Int) = e - 2 := by omega
        rw [q2]
        clear q2
        have hbl' := hbl
        have B50 := Lib.hid (B4.out.trans (hbl.out.mono B4.out.size))
        have KK50 := Lib.hid (KK4.out.below hbl.out)
        have KT50 := Lib.hid (KT4.out.below hbl.out)
        have Hp50 := Lib.hid (Hp4.out.below hbl.out)
        have Hq50 := Lib.hid (Hq4.out.below hbl.out)
        clear hbl
        have hrc := HRC.out
        subst hrc
        clear hb1 hb2 HRC
        cases b1 <;> cases b2
        · obtain rfl : k = 0 := by rw [HK.out]; simp
          obtain ⟨⟨cK0, cK1, cK2, cK3, cK4, cK5, cK6, cK7, cK8, cK9⟩, dK0, dK1, dK2, dK3, dK4, dK5, dK6, dK7, dK8, dK9⟩ := KK50.out.of10
          obtain ⟨⟨cT0, cT1, cT2⟩, dT0, dT1, dT2⟩ := KT50.out.o3
          go_wp2_with fail
          all_goals go_ret
          all_goals exact ⟨ret_bool (by simp), B50.out⟩
        · obtain rfl : k = 1 := by rw [HK.out]; simp
          obtain ⟨⟨cK0, cK1, cK2, cK3, cK4, cK5, cK6, cK7, cK8, cK9⟩, dK0, dK1, dK2, dK3, dK4, dK5, dK6, dK7, dK8, dK9⟩ := KK50.out.of10
          obtain ⟨⟨cT0, cT1, cT2⟩, dT0, dT1, dT2⟩ := KT50.out.o3
          go_wp2_with fail
          all_goals go_ret
          all_goals exact ⟨ret_bool (by simp), B50.out⟩
        · obtain rfl : k = 1 := by rw [HK.out]; simp
          obtain ⟨⟨cK0, cK1, cK2, cK3, cK4, cK5, cK6, cK7, cK8, cK9⟩, dK0, dK1, dK2, dK3, dK4, dK5, dK6, dK7, dK8, dK9⟩ := KK50.out.of10
          obtain ⟨⟨cT0, cT1, cT2⟩, dT0, dT1, dT2⟩ := KT50.out.o3
          go_wp2_with fail
          all_goals go_ret
          all_goals exact ⟨ret_bool (by simp), B50.out⟩
        · exact absurd rfl (fun h => H12.out h rfl)

theorem walk (a0 : Option Addr) (len0 cap0 : Nat) (s0 : List UInt8) {w : World} (w0 : IsBytes w a0 len0 s0) :
    Calls Tryz.prog 4 #[.slice a0 len0 cap0] w fun e w' => e = .returned (.bool true) ∧ Below w.heap.size w w' := by
  obtain ⟨⟨rfl, hm⟩, hrow⟩ := w0
  unfold maxLen at hm
  by_cases hs : s0.length ≤ 1048576
  · exact go a0 cap0 s0 w hrow hs
  · have h1 : 1048576 < s0.length := by omega
    go_enter Tryz.func4, Tryz.ntmps4
    go_wp2_with fail
    refine (big_yes _ _ _ _ h1 hm).mono ?_
    rintro e w' ⟨rfl, rfl⟩
    go_wp2_with fail
    go_ret
    exact ⟨rfl, Below.refl _ _⟩
theorem own : ownKnob Tryz.prog.godebug = none := by kernel_rfl
theorem laidOut : laidOutB Tryz.prog = true := by kernel_rfl

set_option maxRecDepth 100000 in
theorem lifted (os : Os) (started : os.Started) (H : Type) (enc : TypeId × Value → H) :
    ReturnsInHanded {} Tryz.checked os 4 .any (Rows.fnTwoEpochsSpec.pre6 enc Tryz.prog Tryz.f4 Rows.fnTwoEpochsRow.domain false) (Rows.fnTwoEpochsSpec.post enc Tryz.prog Tryz.f4 false true false false) := by
  refine returnsInHanded_of_change (C := Tryz.checked) own started (by kernel_rfl) Tryz.func4
    (ChangeSpec.witness6 (enc := enc) (C := Tryz.checked) false ⟨#[], #[.slice none 0 0], []⟩ 8 (by kernel_rfl) (by kernel_rfl) (by kernel_rfl) (by kernel_rfl)) ?_
  intro W base args ds gs before hval0 hW _ _
  have hval : ∀ (j : Nat) t v, Tryz.f4.params[j]? = some t → args[j]? = some v → Value.okWide Tryz.prog W .any base t v := hval0
  have hW' := hW
  obtain ⟨p, q, hA0, hV, rfl, _, _⟩ := hW
  have hA : DataW.TrodAll enc Tryz.prog W 0 (fun _ => true) true Tryz.f4.params.toList args.toList ds p := hA0
  rw [Tryz.params4] at hA hval
  obtain ⟨v0, vs0, d0, ds0, p0, q0, hargs, rfl, rfl, h0, r0⟩ := trodAll_cons hA
  obtain ⟨rfl, rfl, rfl⟩ := trodAll_nil r0
  obtain rfl : args = #[v0] := by cases args; simp_all
  obtain ⟨rfl, rfl⟩ := trodVars_none hV
  obtain ⟨a0, len0, cap0, rfl⟩ := okWide_slice Tryz.underlying22 (hval 0 22 v0 rfl rfl)
  have k0 := h0
  have lt0 : ∀ x ∈ p0, x.block < W.heap.size := by obtain ⟨m, hm⟩ := k0; exact DataW.trod_lt m _ _ _ hm
  obtain ⟨s0, w0⟩ : ∃ bs : List UInt8, IsBytes W a0 len0 bs := by obtain ⟨fuel, hf⟩ := h0; exact openBytes Tryz.underlying22 Tryz.underlying5 (by kernel_rfl) hf
  clear hA0 hval0
  refine (walk a0 len0 cap0 s0 w0).mono fun e W' ⟨he, bel⟩ => ?_
  subst he
  exact ⟨_, rfl, _, _, _, [], _, [], hW', trodAll_mk1 (shut_bool Tryz.underlying4 _), (trodAll_cons_mk (Below.trod laidOut (by kernel_rfl) (of_decide_eq_true (by kernel_rfl)) k0 bel lt0) trodAll_mk0), rfl, bel.frame _, fun h => by cases h⟩

theorem over : Rows.fnTwoEpochsRow.holds Tryz.pinned (OpenSpec.ofChange Rows.fnTwoEpochsSpec) :=
  OpenClaim.holds_of_wide 4 Tryz.f4 rfl rfl rfl rfl rfl rfl rfl ⟨rfl, rfl, rfl, rfl, rfl⟩ rfl rfl rfl rfl rfl (by kernel_rfl) Tryz.func4 (by kernel_rfl)
    (of_decide_eq_true (by kernel_rfl)) (by unfold Func.isWrapper; first | (rw [if_pos (by decide +kernel)]; kernel_rfl) | (rw [if_neg (by decide +kernel)]; exact ⟨rfl, rfl⟩))
    (fun os started H enc _ => lifted os started H enc)

theorem proved : Rows.FnTwoEpochsSaid := over
#print axioms proved
end Go.Proofs.YtobfgkiccmhgdaaGreat.fnTwoEpochs
