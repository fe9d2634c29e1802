/- Proved here: for every code of at most 1048576 bytes, with the Sender and the text that are drawn from it, impl.Queued and impl.SenderOk answer what the model answers; a sender that is not valid, or has a FIN, is left as it is; else the answer is valid, holds the old bytes and behind them as many of the text as were taken, is next where it was, and all was taken or MaxOut bytes are held (a longer code is not asked); the call returns true for every argument, without condition. -/
import Derived.Test.YtkigkfedkjnkeaaRows
import Derived.Test.YtkigkfedkjnkeaaSndLaw2
import Derived.Test.YtkigkfedkjnkeaaSndQ
import Derived.Test.YtkigkfedkjnkeaaSndPos
import Derived.Test.YtkigkfedkjnkeaaDraw17D
import Derived.Deep.RegionHeld3
import Derived.Deep.DeepCutAuto
import Derived.Test.YtkigkfedkjnkeaaBig
import Derived.Test.YtkigkfedkjnkeaaOpen
import Derived.ShutString
import Derived.ChangeOld
import Derived.Below
namespace Go.Proofs.Ytkigkfedkjnkeaa.fnSender
open Go.ChangeShapes Go.WideShapes Go.ChangeAt Go.RowKit Go.Lib

/-- The law's word: true, and what lay before the call lies as it lay. -/
def OkB (w : World) (e : Ending) (w' : World) : Prop := e = .returned (.bool true) ∧ Below w.heap.size w w'

set_option maxRecDepth 100000 in
set_option maxHeartbeats 8000000 in
theorem walk (a0 : Option Addr) (len0 cap0 : Nat) (s0 : List UInt8) {w : World} (w0 : IsBytes w a0 len0 s0) :
    Calls Try.prog 3 #[.slice a0 len0 cap0] w (OkB w) := by
  obtain ⟨⟨rfl, hm⟩, hrow⟩ := w0
  unfold maxLen at hm
  have HR := Lib.hid hrow
  clear hrow
  by_cases hs : s0.length ≤ 1048576
  · go_enter Try.func3, Try.ntmps3
    go_wp2_with fail
    refine (big_no _ _ _ _ hs).mono ?_
    rintro e w' ⟨rfl, rfl⟩
    go_wp2_with fail
    have B0 := Lib.hid (Below.refl w.heap.size w)
    refine (drawQueued a0 s0 cap0 w HR.out hs).mono ?_
    rintro e v1 ⟨u, d, t, b1, b2, b3, x, rfl, ⟨hd, hx⟩, hb⟩
    have B1 := Lib.hid (B0.out.trans (hb.mono B0.out.size))
    clear hb B0
    clear HR hs hm
    have QI := queuedI u d t b1 b2 b3 x (by omega)
    have QS := queuedS u d t b1 b2 b3 x (by omega)
    have OI := sndOkI u d t b1 b2 b3
    have OS := sndOkS u d t b1 b2 b3
    unfold EndQ at QI QS
    clear hd hx
    cases hok : sndOk ⟨u, d, t, b1, b2, b3⟩ with
    | false =>
      rw [(qn_no (s := ⟨u, d, t, b1, b2, b3⟩) (x := x) (by rw [hok]; rfl)).1, (qn_no (s := ⟨u, d, t, b1, b2, b3⟩) (x := x) (by rw [hok]; rfl)).2] at QI QS
      rw [hok] at OI OS
      simp only [Snd.cs] at QI QS
      replace QI := Lib.hid QI
      replace QS := Lib.hid QS
      replace OI := Lib.hid OI
      replace OS := Lib.hid OS
      clear hok
      have Ksn := Lib.hid (Blk.new v1 [.int .i64 u, .string d, .int .i64 t, .bool b1, .bool b2, .bool b3] 25)
      have l_s : w.heap.size ≤ v1.heap.size := B1.out.size
      have Bn := Lib.hid (B1.out.alloc B1.out.size (.cells #[.int .i64 u, .string d, .int .i64 t, .bool b1, .bool b2, .bool b3] 25))
      clear B1
      go_wp2_with fail
      change Calls _ _ _ (v1.alloc (.cells #[.int .i64 u, .string d, .int .i64 t, .bool b1, .bool b2, .bool b3] 25)) _
      generalize v1.alloc (.cells #[.int .i64 u, .string d, .int .i64 t, .bool b1, .bool b2, .bool b3] 25) = v2 at Ksn Bn ⊢
      generalize v1.heap.size = g_s at Ksn l_s ⊢
      clear v1
      have Ks2 := Ksn
      clear Ksn
      have B2 := Bn
      clear Bn
      refine (QI.out _).mono ?_
      rintro e v3 ⟨rfl, hb⟩
      have B3 := Lib.hid (B2.out.trans (hb.mono B2.out.size))
      have Ks3 := Lib.hid (Ks2.out.below hb)
      clear hb B2 Ks2
      have Kxn := Lib.hid (Blk.new v3 [.int .i64 u, .string d, .int .i64 t, .bool b1, .bool b2, .bool b3] 25)
      have l_x : w.heap.size ≤ v3.heap.size := B3.out.size
      have n_s_x : g_s ≠ v3.heap.size := by have h1 := Ks3.out.lt; omega
      have Bn := Lib.hid (B3.out.alloc B3.out.size (.cells #[.int .i64 u, .string d, .int .i64 t, .bool b1, .bool b2, .bool b3] 25))
      have Ksn := Lib.hid (Ks3.out.alloc (.cells #[.int .i64 u, .string d, .int .i64 t, .bool b1, .bool b2, .bool b3] 25))
      clear B3 Ks3
      obtain ⟨⟨cs0, cs1, cs2, cs3, cs4, cs5⟩, ds0, ds1, ds2, ds3, ds4, ds5⟩ := Ksn.out.of6
      go_wp2_with fail
      clear cs0 cs1 cs2 cs3 cs4 cs5 ds0 ds1 ds2 ds3 ds4 ds5
      change Calls _ _ _ (v3.alloc (.cells #[.int .i64 u, .string d, .int .i64 t, .bool b1, .bool b2, .bool b3] 25)) _
      generalize v3.alloc (.cells #[.int .i64 u, .string d, .int .i64 t, .bool b1, .bool b2, .bool b3] 25) = v4 at Kxn Bn Ksn ⊢
      generalize v3.heap.size = g_x at Kxn l_x n_s_x ⊢
      clear v3
      have Ks4 := Ksn
      clear Ksn
      have Kx4 := Kxn
      clear Kxn
      have B4 := Bn
      clear Bn
      refine (QS.out _).mono ?_
      rintro e v5 ⟨rfl, hb⟩
      have B5 := Lib.hid (B4.out.trans (hb.mono B4.out.size))
      have Ks5 := Lib.hid (Ks4.out.below hb)
      have Kx5 := Lib.hid (Kx4.out.below hb)
      clear hb B4 Ks4 Kx4
      have Kyn := Lib.hid (Blk.new v5 [.int .i64 u, .string d, .int .i64 t, .bool b1, .bool b2, .bool b3] 25)
      have l_y : w.heap.size ≤ v5.heap.size := B5.out.size
      have n_s_y : g_s ≠ v5.heap.size := by have h1 := Ks5.out.lt; omega
      have n_x_y : g_x ≠ v5.heap.size := by have h1 := Kx5.out.lt; omega
      have Bn := Lib.hid (B5.out.alloc B5.out.size (.cells #[.int .i64 u, .string d, .int .i64 t, .bool b1, .bool b2, .bool b3] 25))
      have Ksn := Lib.hid (Ks5.out.alloc (.cells #[.int .i64 u, .string d, .int .i64 t, .bool b1, .bool b2, .bool b3] 25))
      have Kxn := Lib.hid (Kx5.out.alloc (.cells #[.int .i64 u, .string d, .int .i64 t, .bool b1, .bool b2, .bool b3] 25))
      clear B5 Ks5 Kx5
      obtain ⟨⟨cs0, cs1, cs2, cs3, cs4, cs5⟩, ds0, ds1, ds2, ds3, ds4, ds5⟩ := Ksn.out.of6
      obtain ⟨⟨cx0, cx1, cx2, cx3, cx4, cx5⟩, dx0, dx1, dx2, dx3, dx4, dx5⟩ := Kxn.out.of6
      go_upto_region 6 with fail
      clear cs0 cs1 cs2 cs3 cs4 cs5 ds0 ds1 ds2 ds3 ds4 ds5 cx0 cx1 cx2 cx3 cx4 cx5 dx0 dx1 dx2 dx3 dx4 dx5
      generalize v5.alloc (.cells #[.int .i64 u, .string d, .int .i64 t, .bool b1, .bool b2, .bool b3] 25) = v6 at Kyn Bn Ksn Kxn ⊢
      generalize v5.heap.size = g_y at Kyn l_y n_s_y n_x_y ⊢
      clear v5
      have Ks6 := Ksn
      clear Ksn
      have Kx6 := Kxn
      clear Kxn
      have Ky6 := Kyn
      clear Kyn
      have B6 := Bn
      clear Bn
      obtain ⟨⟨cs0, cs1, cs2, cs3, cs4, cs5⟩, ds0, ds1, ds2, ds3, ds4, ds5⟩ := Ks6.out.of6
      obtain ⟨⟨cx0, cx1, cx2, cx3, cx4, cx5⟩, dx0, dx1, dx2, dx3, dx4, dx5⟩ := Kx6.out.of6
      obtain ⟨⟨cy0, cy1, cy2, cy3, cy4, cy5⟩, dy0, dy1, dy2, dy3, dy4, dy5⟩ := Ky6.out.of6
      have P6_0 : True := trivial
      have P6_1 : True := trivial
      go_region_held3 (fun w' => (w'.cell? ⟨g_s, 0, none⟩ = some (.int .i64 u) ∧ w'.cell? ⟨g_s, 1, none⟩ = some (.string d) ∧ w'.cell? ⟨g_s, 2, none⟩ = some (.int .i64 t) ∧ w'.cell? ⟨g_s, 3, none⟩ = some (.bool b1) ∧ w'.cell? ⟨g_s, 4, none⟩ = some (.bool b2) ∧ w'.cell? ⟨g_s, 5, none⟩ = some (.bool b3)) ∧ (w'.cell? ⟨g_x, 0, none⟩ = some (.int .i64 u) ∧ w'.cell? ⟨g_x, 1, none⟩ = some (.string d) ∧ w'.cell? ⟨g_x, 2, none⟩ = some (.int .i64 t) ∧ w'.cell? ⟨g_x, 3, none⟩ = some (.bool b1) ∧ w'.cell? ⟨g_x, 4, none⟩ = some (.bool b2) ∧ w'.cell? ⟨g_x, 5, none⟩ = some (.bool b3)) ∧ (w'.cell? ⟨g_y, 0, none⟩ = some (.int .i64 u) ∧ w'.cell? ⟨g_y, 1, none⟩ = some (.string d) ∧ w'.cell? ⟨g_y, 2, none⟩ = some (.int .i64 t) ∧ w'.cell? ⟨g_y, 3, none⟩ = some (.bool b1) ∧ w'.cell? ⟨g_y, 4, none⟩ = some (.bool b2) ∧ w'.cell? ⟨g_y, 5, none⟩ = some (.bool b3)))
        (first | go_keep | (exact ⟨Ks7.out.of6.1, Kx7.out.of6.1, Ky7.out.of6.1⟩) | (exact ⟨Ks8.out.of6.1, Kx8.out.of6.1, Ky8.out.of6.1⟩))
        (first | (have q := P6_0; go_at_call 18; clear q P6_0; refine (OI.out _).mono ?_; rintro e v7 ⟨rfl, hb⟩; replace hb := (Below.refl _ v6).drew.trans hb; have B7 := Lib.hid (B6.out.trans (hb.mono B6.out.size)); have Ks7 := Lib.hid (Ks6.out.below hb); have Kx7 := Lib.hid (Kx6.out.below hb); have Ky7 := Lib.hid (Ky6.out.below hb); clear hb B6 Ks6 Kx6 Ky6) | (have q := P6_1; go_at_call 19; clear q P6_1; refine (OS.out _).mono ?_; rintro e v8 ⟨rfl, hb⟩; have B8 := Lib.hid (B7.out.trans (hb.mono B7.out.size)); have Ks8 := Lib.hid (Ks7.out.below hb); have Kx8 := Lib.hid (Kx7.out.below hb); have Ky8 := Lib.hid (Ky7.out.below hb); clear hb B7 Ks7 Kx7 Ky7))
      try clear cs0 cs1 cs2 cs3 cs4 cs5 ds0 ds1 ds2 ds3 ds4 ds5 cx0 cx1 cx2 cx3 cx4 cx5 dx0 dx1 dx2 dx3 dx4 dx5 cy0 cy1 cy2 cy3 cy4 cy5 dy0 dy1 dy2 dy3 dy4 dy5
      obtain ⟨⟨cs0, cs1, cs2, cs3, cs4, cs5⟩, ds0, ds1, ds2, ds3, ds4, ds5⟩ := Ks8.out.of6
      obtain ⟨⟨cx0, cx1, cx2, cx3, cx4, cx5⟩, dx0, dx1, dx2, dx3, dx4, dx5⟩ := Kx8.out.of6
      obtain ⟨⟨cy0, cy1, cy2, cy3, cy4, cy5⟩, dy0, dy1, dy2, dy3, dy4, dy5⟩ := Ky8.out.of6
      go_wp2_with fail
      clear cs0 cs1 cs2 cs3 cs4 cs5 ds0 ds1 ds2 ds3 ds4 ds5 cx0 cx1 cx2 cx3 cx4 cx5 dx0 dx1 dx2 dx3 dx4 dx5 cy0 cy1 cy2 cy3 cy4 cy5 dy0 dy1 dy2 dy3 dy4 dy5
      refine (OS.out _).mono ?_
      rintro e v9 ⟨rfl, hb⟩
      have B9 := Lib.hid (B8.out.trans (hb.mono B8.out.size))
      have Ks9 := Lib.hid (Ks8.out.below hb)
      have Kx9 := Lib.hid (Kx8.out.below hb)
      have Ky9 := Lib.hid (Ky8.out.below hb)
      clear hb B8 Ks8 Kx8 Ky8
      obtain ⟨⟨cs0, cs1, cs2, cs3, cs4, cs5⟩, ds0, ds1, ds2, ds3, ds4, ds5⟩ := Ks9.out.of6
      obtain ⟨⟨cx0, cx1, cx2, cx3, cx4, cx5⟩, dx0, dx1, dx2, dx3, dx4, dx5⟩ := Kx9.out.of6
      obtain ⟨⟨cy0, cy1, cy2, cy3, cy4, cy5⟩, dy0, dy1, dy2, dy3, dy4, dy5⟩ := Ky9.out.of6
      go_wp2_with fail
      go_ret
      exact ⟨rfl, B9.out⟩
    | true =>
      cases b1 with
      | true =>
        rw [(qn_no (s := ⟨u, d, t, true, b2, b3⟩) (x := x) (by rw [hok]; rfl)).1, (qn_no (s := ⟨u, d, t, true, b2, b3⟩) (x := x) (by rw [hok]; rfl)).2] at QI QS
        rw [hok] at OI OS
        simp only [Snd.cs] at QI QS
        replace QI := Lib.hid QI
        replace QS := Lib.hid QS
        replace OI := Lib.hid OI
        replace OS := Lib.hid OS
        clear hok
        have Ksn := Lib.hid (Blk.new v1 [.int .i64 u, .string d, .int .i64 t, .bool true, .bool b2, .bool b3] 25)
        have l_s : w.heap.size ≤ v1.heap.size := B1.out.size
        have Bn := Lib.hid (B1.out.alloc B1.out.size (.cells #[.int .i64 u, .string d, .int .i64 t, .bool true, .bool b2, .bool b3] 25))
        clear B1
        go_wp2_with fail
        change Calls _ _ _ (v1.alloc (.cells #[.int .i64 u, .string d, .int .i64 t, .bool true, .bool b2, .bool b3] 25)) _
        generalize v1.alloc (.cells #[.int .i64 u, .string d, .int .i64 t, .bool true, .bool b2, .bool b3] 25) = v2 at Ksn Bn ⊢
        generalize v1.heap.size = g_s at Ksn l_s ⊢
        clear v1
        have Ks2 := Ksn
        clear Ksn
        have B2 := Bn
        clear Bn
        refine (QI.out _).mono ?_
        rintro e v3 ⟨rfl, hb⟩
        have B3 := Lib.hid (B2.out.trans (hb.mono B2.out.size))
        have Ks3 := Lib.hid (Ks2.out.below hb)
        clear hb B2 Ks2
        have Kxn := Lib.hid (Blk.new v3 [.int .i64 u, .string d, .int .i64 t, .bool true, .bool b2, .bool b3] 25)
        have l_x : w.heap.size ≤ v3.heap.size := B3.out.size
        have n_s_x : g_s ≠ v3.heap.size := by have h1 := Ks3.out.lt; omega
        have Bn := Lib.hid (B3.out.alloc B3.out.size (.cells #[.int .i64 u, .string d, .int .i64 t, .bool true, .bool b2, .bool b3] 25))
        have Ksn := Lib.hid (Ks3.out.alloc (.cells #[.int .i64 u, .string d, .int .i64 t, .bool true, .bool b2, .bool b3] 25))
        clear B3 Ks3
        obtain ⟨⟨cs0, cs1, cs2, cs3, cs4, cs5⟩, ds0, ds1, ds2, ds3, ds4, ds5⟩ := Ksn.out.of6
        go_wp2_with fail
        clear cs0 cs1 cs2 cs3 cs4 cs5 ds0 ds1 ds2 ds3 ds4 ds5
        change Calls _ _ _ (v3.alloc (.cells #[.int .i64 u, .string d, .int .i64 t, .bool true, .bool b2, .bool b3] 25)) _
        generalize v3.alloc (.cells #[.int .i64 u, .string d, .int .i64 t, .bool true, .bool b2, .bool b3] 25) = v4 at Kxn Bn Ksn ⊢
        generalize v3.heap.size = g_x at Kxn l_x n_s_x ⊢
        clear v3
        have Ks4 := Ksn
        clear Ksn
        have Kx4 := Kxn
        clear Kxn
        have B4 := Bn
        clear Bn
        refine (QS.out _).mono ?_
        rintro e v5 ⟨rfl, hb⟩
        have B5 := Lib.hid (B4.out.trans (hb.mono B4.out.size))
        have Ks5 := Lib.hid (Ks4.out.below hb)
        have Kx5 := Lib.hid (Kx4.out.below hb)
        clear hb B4 Ks4 Kx4
        have Kyn := Lib.hid (Blk.new v5 [.int .i64 u, .string d, .int .i64 t, .bool true, .bool b2, .bool b3] 25)
        have l_y : w.heap.size ≤ v5.heap.size := B5.out.size
        have n_s_y : g_s ≠ v5.heap.size := by have h1 := Ks5.out.lt; omega
        have n_x_y : g_x ≠ v5.heap.size := by have h1 := Kx5.out.lt; omega
        have Bn := Lib.hid (B5.out.alloc B5.out.size (.cells #[.int .i64 u, .string d, .int .i64 t, .bool true, .bool b2, .bool b3] 25))
        have Ksn := Lib.hid (Ks5.out.alloc (.cells #[.int .i64 u, .string d, .int .i64 t, .bool true, .bool b2, .bool b3] 25))
        have Kxn := Lib.hid (Kx5.out.alloc (.cells #[.int .i64 u, .string d, .int .i64 t, .bool true, .bool b2, .bool b3] 25))
        clear B5 Ks5 Kx5
        obtain ⟨⟨cs0, cs1, cs2, cs3, cs4, cs5⟩, ds0, ds1, ds2, ds3, ds4, ds5⟩ := Ksn.out.of6
        obtain ⟨⟨cx0, cx1, cx2, cx3, cx4, cx5⟩, dx0, dx1, dx2, dx3, dx4, dx5⟩ := Kxn.out.of6
        go_upto_region 6 with fail
        clear cs0 cs1 cs2 cs3 cs4 cs5 ds0 ds1 ds2 ds3 ds4 ds5 cx0 cx1 cx2 cx3 cx4 cx5 dx0 dx1 dx2 dx3 dx4 dx5
        generalize v5.alloc (.cells #[.int .i64 u, .string d, .int .i64 t, .bool true, .bool b2, .bool b3] 25) = v6 at Kyn Bn Ksn Kxn ⊢
        generalize v5.heap.size = g_y at Kyn l_y n_s_y n_x_y ⊢
        clear v5
        have Ks6 := Ksn
        clear Ksn
        have Kx6 := Kxn
        clear Kxn
        have Ky6 := Kyn
        clear Kyn
        have B6 := Bn
        clear Bn
        obtain ⟨⟨cs0, cs1, cs2, cs3, cs4, cs5⟩, ds0, ds1, ds2, ds3, ds4, ds5⟩ := Ks6.out.of6
        obtain ⟨⟨cx0, cx1, cx2, cx3, cx4, cx5⟩, dx0, dx1, dx2, dx3, dx4, dx5⟩ := Kx6.out.of6
        obtain ⟨⟨cy0, cy1, cy2, cy3, cy4, cy5⟩, dy0, dy1, dy2, dy3, dy4, dy5⟩ := Ky6.out.of6
        have P6_0 : True := trivial
        have P6_1 : True := trivial
        go_region_held3 (fun w' => (w'.cell? ⟨g_s, 0, none⟩ = some (.int .i64 u) ∧ w'.cell? ⟨g_s, 1, none⟩ = some (.string d) ∧ w'.cell? ⟨g_s, 2, none⟩ = some (.int .i64 t) ∧ w'.cell? ⟨g_s, 3, none⟩ = some (.bool true) ∧ w'.cell? ⟨g_s, 4, none⟩ = some (.bool b2) ∧ w'.cell? ⟨g_s, 5, none⟩ = some (.bool b3)) ∧ (w'.cell? ⟨g_x, 0, none⟩ = some (.int .i64 u) ∧ w'.cell? ⟨g_x, 1, none⟩ = some (.string d) ∧ w'.cell? ⟨g_x, 2, none⟩ = some (.int .i64 t) ∧ w'.cell? ⟨g_x, 3, none⟩ = some (.bool true) ∧ w'.cell? ⟨g_x, 4, none⟩ = some (.bool b2) ∧ w'.cell? ⟨g_x, 5, none⟩ = some (.bool b3)) ∧ (w'.cell? ⟨g_y, 0, none⟩ = some (.int .i64 u) ∧ w'.cell? ⟨g_y, 1, none⟩ = some (.string d) ∧ w'.cell? ⟨g_y, 2, none⟩ = some (.int .i64 t) ∧ w'.cell? ⟨g_y, 3, none⟩ = some (.bool true) ∧ w'.cell? ⟨g_y, 4, none⟩ = some (.bool b2) ∧ w'.cell? ⟨g_y, 5, none⟩ = some (.bool b3)))
          (first | go_keep | (exact ⟨Ks7.out.of6.1, Kx7.out.of6.1, Ky7.out.of6.1⟩) | (exact ⟨Ks8.out.of6.1, Kx8.out.of6.1, Ky8.out.of6.1⟩))
          (first | (have q := P6_0; go_at_call 18; clear q P6_0; refine (OI.out _).mono ?_; rintro e v7 ⟨rfl, hb⟩; replace hb := (Below.refl _ v6).drew.trans hb; have B7 := Lib.hid (B6.out.trans (hb.mono B6.out.size)); have Ks7 := Lib.hid (Ks6.out.below hb); have Kx7 := Lib.hid (Kx6.out.below hb); have Ky7 := Lib.hid (Ky6.out.below hb); clear hb B6 Ks6 Kx6 Ky6) | (have q := P6_1; go_at_call 19; clear q P6_1; refine (OS.out _).mono ?_; rintro e v8 ⟨rfl, hb⟩; have B8 := Lib.hid (B7.out.trans (hb.mono B7.out.size)); have Ks8 := Lib.hid (Ks7.out.below hb); have Kx8 := Lib.hid (Kx7.out.below hb); have Ky8 := Lib.hid (Ky7.out.below hb); clear hb B7 Ks7 Kx7 Ky7))
        try clear cs0 cs1 cs2 cs3 cs4 cs5 ds0 ds1 ds2 ds3 ds4 ds5 cx0 cx1 cx2 cx3 cx4 cx5 dx0 dx1 dx2 dx3 dx4 dx5 cy0 cy1 cy2 cy3 cy4 cy5 dy0 dy1 dy2 dy3 dy4 dy5
        obtain ⟨⟨cs0, cs1, cs2, cs3, cs4, cs5⟩, ds0, ds1, ds2, ds3, ds4, ds5⟩ := Ks8.out.of6
        obtain ⟨⟨cx0, cx1, cx2, cx3, cx4, cx5⟩, dx0, dx1, dx2, dx3, dx4, dx5⟩ := Kx8.out.of6
        obtain ⟨⟨cy0, cy1, cy2, cy3, cy4, cy5⟩, dy0, dy1, dy2, dy3, dy4, dy5⟩ := Ky8.out.of6
        go_wp2_with fail
        clear cs0 cs1 cs2 cs3 cs4 cs5 ds0 ds1 ds2 ds3 ds4 ds5 cx0 cx1 cx2 cx3 cx4 cx5 dx0 dx1 dx2 dx3 dx4 dx5 cy0 cy1 cy2 cy3 cy4 cy5 dy0 dy1 dy2 dy3 dy4 dy5
        refine (OS.out _).mono ?_
        rintro e v9 ⟨rfl, hb⟩
        have B9 := Lib.hid (B8.out.trans (hb.mono B8.out.size))
        have Ks9 := Lib.hid (Ks8.out.below hb)
        have Kx9 := Lib.hid (Kx8.out.below hb)
        have Ky9 := Lib.hid (Ky8.out.below hb)
        clear hb B8 Ks8 Kx8 Ky8
        obtain ⟨⟨cs0, cs1, cs2, cs3, cs4, cs5⟩, ds0, ds1, ds2, ds3, ds4, ds5⟩ := Ks9.out.of6
        obtain ⟨⟨cx0, cx1, cx2, cx3, cx4, cx5⟩, dx0, dx1, dx2, dx3, dx4, dx5⟩ := Kx9.out.of6
        obtain ⟨⟨cy0, cy1, cy2, cy3, cy4, cy5⟩, dy0, dy1, dy2, dy3, dy4, dy5⟩ := Ky9.out.of6
        go_wp2_with fail
        go_ret
        exact ⟨rfl, B9.out⟩
      | false =>
        obtain ⟨n, en, eq, hnx, ox, hz, hz2, hn48⟩ := que_facts x hok
        rw [en, eq] at QI QS
        rw [hok] at OI OS
        have OX := sndOkI u (d ++ x.extract 0 n) t false b2 b3
        rw [ox] at OX
        have N1 := nextOfI u (d ++ x.extract 0 n) t false b2 b3
        have N2 := nextOfI u d t false b2 b3
        generalize nxt u t b2 = q at N1 N2
        simp only [Snd.cs] at QI QS
        have hdn : ¬ 9223372036854775807 < d.size + n := by omega
        generalize hD : d ++ x.extract 0 n = D at QI QS OX N1 hz
        replace QI := Lib.hid QI
        replace QS := Lib.hid QS
        replace OI := Lib.hid OI
        replace OS := Lib.hid OS
        replace OX := Lib.hid OX
        replace N1 := Lib.hid N1
        replace N2 := Lib.hid N2
        replace hD := Lib.hid hD
        clear hok en eq ox
        by_cases h0 : n = x.size
        case pos =>
          have h1 : ((n : Int) == (x.size : Int)) = true := by simp; omega
          clear h0 hz hz2 hn48
          have Ksn := Lib.hid (Blk.new v1 [.int .i64 u, .string d, .int .i64 t, .bool false, .bool b2, .bool b3] 25)
          have l_s : w.heap.size ≤ v1.heap.size := B1.out.size
          have Bn := Lib.hid (B1.out.alloc B1.out.size (.cells #[.int .i64 u, .string d, .int .i64 t, .bool false, .bool b2, .bool b3] 25))
          clear B1
          go_wp2_with fail
          change Calls _ _ _ (v1.alloc (.cells #[.int .i64 u, .string d, .int .i64 t, .bool false, .bool b2, .bool b3] 25)) _
          generalize v1.alloc (.cells #[.int .i64 u, .string d, .int .i64 t, .bool false, .bool b2, .bool b3] 25) = v2 at Ksn Bn ⊢
          generalize v1.heap.size = g_s at Ksn l_s ⊢
          clear v1
          have Ks2 := Ksn
          clear Ksn
          have B2 := Bn
          clear Bn
          refine (QI.out _).mono ?_
          rintro e v3 ⟨rfl, hb⟩
          have B3 := Lib.hid (B2.out.trans (hb.mono B2.out.size))
          have Ks3 := Lib.hid (Ks2.out.below hb)
          clear hb B2 Ks2
          have Kxn := Lib.hid (Blk.new v3 [.int .i64 u, .string D, .int .i64 t, .bool false, .bool b2, .bool b3] 25)
          have l_x : w.heap.size ≤ v3.heap.size := B3.out.size
          have n_s_x : g_s ≠ v3.heap.size := by have h1 := Ks3.out.lt; omega
          have Bn := Lib.hid (B3.out.alloc B3.out.size (.cells #[.int .i64 u, .string D, .int .i64 t, .bool false, .bool b2, .bool b3] 25))
          have Ksn := Lib.hid (Ks3.out.alloc (.cells #[.int .i64 u, .string D, .int .i64 t, .bool false, .bool b2, .bool b3] 25))
          clear B3 Ks3
          obtain ⟨⟨cs0, cs1, cs2, cs3, cs4, cs5⟩, ds0, ds1, ds2, ds3, ds4, ds5⟩ := Ksn.out.of6
          go_wp2_with fail
          clear cs0 cs1 cs2 cs3 cs4 cs5 ds0 ds1 ds2 ds3 ds4 ds5
          change Calls _ _ _ (v3.alloc (.cells #[.int .i64 u, .string D, .int .i64 t, .bool false, .bool b2, .bool b3] 25)) _
          generalize v3.alloc (.cells #[.int .i64 u, .string D, .int .i64 t, .bool false, .bool b2, .bool b3] 25) = v4 at Kxn Bn Ksn ⊢
          generalize v3.heap.size = g_x at Kxn l_x n_s_x ⊢
          clear v3
          have Ks4 := Ksn
          clear Ksn
          have Kx4 := Kxn
          clear Kxn
          have B4 := Bn
          clear Bn
          refine (QS.out _).mono ?_
          rintro e v5 ⟨rfl, hb⟩
          have B5 := Lib.hid (B4.out.trans (hb.mono B4.out.size))
          have Ks5 := Lib.hid (Ks4.out.below hb)
          have Kx5 := Lib.hid (Kx4.out.below hb)
          clear hb B4 Ks4 Kx4
          have Kyn := Lib.hid (Blk.new v5 [.int .i64 u, .string D, .int .i64 t, .bool false, .bool b2, .bool b3] 25)
          have l_y : w.heap.size ≤ v5.heap.size := B5.out.size
          have n_s_y : g_s ≠ v5.heap.size := by have h1 := Ks5.out.lt; omega
          have n_x_y : g_x ≠ v5.heap.size := by have h1 := Kx5.out.lt; omega
          have Bn := Lib.hid (B5.out.alloc B5.out.size (.cells #[.int .i64 u, .string D, .int .i64 t, .bool false, .bool b2, .bool b3] 25))
          have Ksn := Lib.hid (Ks5.out.alloc (.cells #[.int .i64 u, .string D, .int .i64 t, .bool false, .bool b2, .bool b3] 25))
          have Kxn := Lib.hid (Kx5.out.alloc (.cells #[.int .i64 u, .string D, .int .i64 t, .bool false, .bool b2, .bool b3] 25))
          clear B5 Ks5 Kx5
          obtain ⟨⟨cs0, cs1, cs2, cs3, cs4, cs5⟩, ds0, ds1, ds2, ds3, ds4, ds5⟩ := Ksn.out.of6
          obtain ⟨⟨cx0, cx1, cx2, cx3, cx4, cx5⟩, dx0, dx1, dx2, dx3, dx4, dx5⟩ := Kxn.out.of6
          go_upto_region 6 with fail
          clear cs0 cs1 cs2 cs3 cs4 cs5 ds0 ds1 ds2 ds3 ds4 ds5 cx0 cx1 cx2 cx3 cx4 cx5 dx0 dx1 dx2 dx3 dx4 dx5
          generalize v5.alloc (.cells #[.int .i64 u, .string D, .int .i64 t, .bool false, .bool b2, .bool b3] 25) = v6 at Kyn Bn Ksn Kxn ⊢
          generalize v5.heap.size = g_y at Kyn l_y n_s_y n_x_y ⊢
          clear v5
          have Ks6 := Ksn
          clear Ksn
          have Kx6 := Kxn
          clear Kxn
          have Ky6 := Kyn
          clear Kyn
          have B6 := Bn
          clear Bn
          obtain ⟨⟨cs0, cs1, cs2, cs3, cs4, cs5⟩, ds0, ds1, ds2, ds3, ds4, ds5⟩ := Ks6.out.of6
          obtain ⟨⟨cx0, cx1, cx2, cx3, cx4, cx5⟩, dx0, dx1, dx2, dx3, dx4, dx5⟩ := Kx6.out.of6
          obtain ⟨⟨cy0, cy1, cy2, cy3, cy4, cy5⟩, dy0, dy1, dy2, dy3, dy4, dy5⟩ := Ky6.out.of6
          have P6_0 : True := trivial
          have P6_1 : True := trivial
          go_region_held3 (fun w' => (w'.cell? ⟨g_s, 0, none⟩ = some (.int .i64 u) ∧ w'.cell? ⟨g_s, 1, none⟩ = some (.string d) ∧ w'.cell? ⟨g_s, 2, none⟩ = some (.int .i64 t) ∧ w'.cell? ⟨g_s, 3, none⟩ = some (.bool false) ∧ w'.cell? ⟨g_s, 4, none⟩ = some (.bool b2) ∧ w'.cell? ⟨g_s, 5, none⟩ = some (.bool b3)) ∧ (w'.cell? ⟨g_x, 0, none⟩ = some (.int .i64 u) ∧ w'.cell? ⟨g_x, 1, none⟩ = some (.string D) ∧ w'.cell? ⟨g_x, 2, none⟩ = some (.int .i64 t) ∧ w'.cell? ⟨g_x, 3, none⟩ = some (.bool false) ∧ w'.cell? ⟨g_x, 4, none⟩ = some (.bool b2) ∧ w'.cell? ⟨g_x, 5, none⟩ = some (.bool b3)) ∧ (w'.cell? ⟨g_y, 0, none⟩ = some (.int .i64 u) ∧ w'.cell? ⟨g_y, 1, none⟩ = some (.string D) ∧ w'.cell? ⟨g_y, 2, none⟩ = some (.int .i64 t) ∧ w'.cell? ⟨g_y, 3, none⟩ = some (.bool false) ∧ w'.cell? ⟨g_y, 4, none⟩ = some (.bool b2) ∧ w'.cell? ⟨g_y, 5, none⟩ = some (.bool b3)))
            (first | go_keep | (exact ⟨Ks7.out.of6.1, Kx7.out.of6.1, Ky7.out.of6.1⟩) | (exact ⟨Ks8.out.of6.1, Kx8.out.of6.1, Ky8.out.of6.1⟩))
            (first | (have q := P6_0; go_at_call 18; clear q P6_0; refine (OI.out _).mono ?_; rintro e v7 ⟨rfl, hb⟩; replace hb := (Below.refl _ v6).drew.trans hb; have B7 := Lib.hid (B6.out.trans (hb.mono B6.out.size)); have Ks7 := Lib.hid (Ks6.out.below hb); have Kx7 := Lib.hid (Kx6.out.below hb); have Ky7 := Lib.hid (Ky6.out.below hb); clear hb B6 Ks6 Kx6 Ky6) | (have q := P6_1; go_at_call 19; clear q P6_1; refine (OS.out _).mono ?_; rintro e v8 ⟨rfl, hb⟩; have B8 := Lib.hid (B7.out.trans (hb.mono B7.out.size)); have Ks8 := Lib.hid (Ks7.out.below hb); have Kx8 := Lib.hid (Kx7.out.below hb); have Ky8 := Lib.hid (Ky7.out.below hb); clear hb B7 Ks7 Kx7 Ky7))
          try clear cs0 cs1 cs2 cs3 cs4 cs5 ds0 ds1 ds2 ds3 ds4 ds5 cx0 cx1 cx2 cx3 cx4 cx5 dx0 dx1 dx2 dx3 dx4 dx5 cy0 cy1 cy2 cy3 cy4 cy5 dy0 dy1 dy2 dy3 dy4 dy5
          obtain ⟨⟨cs0, cs1, cs2, cs3, cs4, cs5⟩, ds0, ds1, ds2, ds3, ds4, ds5⟩ := Ks8.out.of6
          obtain ⟨⟨cx0, cx1, cx2, cx3, cx4, cx5⟩, dx0, dx1, dx2, dx3, dx4, dx5⟩ := Kx8.out.of6
          obtain ⟨⟨cy0, cy1, cy2, cy3, cy4, cy5⟩, dy0, dy1, dy2, dy3, dy4, dy5⟩ := Ky8.out.of6
          go_wp2_with fail
          clear cs0 cs1 cs2 cs3 cs4 cs5 ds0 ds1 ds2 ds3 ds4 ds5 cx0 cx1 cx2 cx3 cx4 cx5 dx0 dx1 dx2 dx3 dx4 dx5 cy0 cy1 cy2 cy3 cy4 cy5 dy0 dy1 dy2 dy3 dy4 dy5
          refine (OS.out _).mono ?_
          rintro e v9 ⟨rfl, hb⟩
          have B9 := Lib.hid (B8.out.trans (hb.mono B8.out.size))
          have Ks9 := Lib.hid (Ks8.out.below hb)
          have Kx9 := Lib.hid (Kx8.out.below hb)
          have Ky9 := Lib.hid (Ky8.out.below hb)
          clear hb B8 Ks8 Kx8 Ky8
          obtain ⟨⟨cs0, cs1, cs2, cs3, cs4, cs5⟩, ds0, ds1, ds2, ds3, ds4, ds5⟩ := Ks9.out.of6
          obtain ⟨⟨cx0, cx1, cx2, cx3, cx4, cx5⟩, dx0, dx1, dx2, dx3, dx4, dx5⟩ := Kx9.out.of6
          obtain ⟨⟨cy0, cy1, cy2, cy3, cy4, cy5⟩, dy0, dy1, dy2, dy3, dy4, dy5⟩ := Ky9.out.of6
          go_upto_region 10 with fail
          clear cs0 cs1 cs2 cs3 cs4 cs5 ds0 ds1 ds2 ds3 ds4 ds5 cx0 cx1 cx2 cx3 cx4 cx5 dx0 dx1 dx2 dx3 dx4 dx5 cy0 cy1 cy2 cy3 cy4 cy5 dy0 dy1 dy2 dy3 dy4 dy5
          refine wp_region_noPanic ?_
          refine wp_region_held_drew (S := fun w' => Blk w' g_s [.int .i64 u, .string d, .int .i64 t, .bool false, .bool b2, .bool b3] ∧ Blk w' g_x [.int .i64 u, .string D, .int .i64 t, .bool false, .bool b2, .bool b3]) (by kernel_rfl) ⟨Ks9.out, Kx9.out⟩ (fun hS => ?_)
          have B10 := Lib.hid (show Below w.heap.size w v9.drew from B9.out.drew)
          have Ks10 := Lib.hid (show Blk v9.drew g_s [.int .i64 u, .string d, .int .i64 t, .bool false, .bool b2, .bool b3] from Ks9.out.drew)
          have Kx10 := Lib.hid (show Blk v9.drew g_x [.int .i64 u, .string D, .int .i64 t, .bool false, .bool b2, .bool b3] from Kx9.out.drew)
          have Ky10 := Lib.hid (show Blk v9.drew g_y [.int .i64 u, .string D, .int .i64 t, .bool false, .bool b2, .bool b3] from Ky9.out.drew)
          clear hS B9 Ks9 Kx9 Ky9
          generalize v9.drew = v10 at B10 Ks10 Kx10 Ky10 ⊢
          have hS : Blk v10 g_s [.int .i64 u, .string d, .int .i64 t, .bool false, .bool b2, .bool b3] ∧ Blk v10 g_x [.int .i64 u, .string D, .int .i64 t, .bool false, .bool b2, .bool b3] := ⟨Ks10.out, Kx10.out⟩
          refine wpAnyH_take (i := 0) (v := .agg #[.int .i64 u, .string D, .int .i64 t, .bool false, .bool b2, .bool b3]) rfl (by kernel_rfl) (by kernel_rfl) (by kernel_rfl) (fun _ _ _ h => h) (Or.inl ⟨rfl, by intro w hS; obtain ⟨⟨hh0, hh1, hh2, hh3, hh4, hh5⟩, _⟩ := hS.2.of6; go_simp⟩) hS ?_
          change wpAnyH _ _ _ _ _ _ _ { tmps := #[_, _, _, _, _, _, _, _, _, _, _, _, _, _, _, _, _, _, _, _, _, _, _, _, _, _, _, _, _, _, _, _, _, _, _, _, _, _, _, _, _, _, _, _, _, _, _, _, _, _, _, _, _, _, _, _, _, _, _, _, _, _, _, _, _, _, _, _, _, _, _, _, _, _, _, _, _, _, _, _, _, _, _, _, _, _, _, _, _], defers := [] } _
          refine wpAnyH_ready (rs := [1]) (by kernel_rfl) (by simp) ?_
          refine AllReadyH.cons (i := 1) rfl (fun K hK => ?zq1) AllReadyH.nil
          rw [if_pos (by first | rfl | kernel_rfl)]
          go_simp
          clear hS
          refine (OX.out _).mono ?_
          rintro e v11 ⟨rfl, hb⟩
          have B11 := Lib.hid (B10.out.trans (hb.mono B10.out.size))
          have Ks11 := Lib.hid (Ks10.out.below hb)
          have Kx11 := Lib.hid (Kx10.out.below hb)
          have Ky11 := Lib.hid (Ky10.out.below hb)
          clear hb B10 Ks10 Kx10 Ky10
          refine hK.out _ _ ⟨Ks11.out, Kx11.out⟩ (fun hS => ?_)
          clear hK K
          change wpAnyH _ _ _ _ _ _ _ { tmps := #[_, _, _, _, _, _, _, _, _, _, _, _, _, _, _, _, _, _, _, _, _, _, _, _, _, _, _, _, _, _, _, _, _, _, _, _, _, _, _, _, _, _, _, _, _, _, _, _, _, _, _, _, _, _, _, _, _, _, _, _, _, _, _, _, _, _, _, _, _, _, _, _, _, _, _, _, _, _, _, _, _, _, _, _, _, _, _, _, _], defers := [] } _
          refine wpAnyH_take (i := 2) (v := .bool true) rfl (by kernel_rfl) (by kernel_rfl) (by kernel_rfl) (fun _ _ _ h => h) (Or.inl ⟨rfl, by intro w hS; go_simp⟩) hS ?_
          change wpAnyH _ _ _ _ _ _ _ { tmps := #[_, _, _, _, _, _, _, _, _, _, _, _, _, _, _, _, _, _, _, _, _, _, _, _, _, _, _, _, _, _, _, _, _, _, _, _, _, _, _, _, _, _, _, _, _, _, _, _, _, _, _, _, _, _, _, _, _, _, _, _, _, _, _, _, _, _, _, _, _, _, _, _, _, _, _, _, _, _, _, _, _, _, _, _, _, _, _, _, _], defers := [] } _
          refine wpAnyH_take (i := 3) (v := .pointer (some ⟨g_x, 1, none⟩)) rfl (by kernel_rfl) (by kernel_rfl) (by kernel_rfl) (fun _ _ _ h => h) (Or.inl ⟨rfl, by intro w hS; go_simp⟩) hS ?_
          change wpAnyH _ _ _ _ _ _ _ { tmps := #[_, _, _, _, _, _, _, _, _, _, _, _, _, _, _, _, _, _, _, _, _, _, _, _, _, _, _, _, _, _, _, _, _, _, _, _, _, _, _, _, _, _, _, _, _, _, _, _, _, _, _, _, _, _, _, _, _, _, _, _, _, _, _, _, _, _, _, _, _, _, _, _, _, _, _, _, _, _, _, _, _, _, _, _, _, _, _, _, _], defers := [] } _
          refine wpAnyH_take (i := 4) (v := .string D) rfl (by kernel_rfl) (by kernel_rfl) (by kernel_rfl) (fun _ _ _ h => h) (Or.inl ⟨rfl, by intro w hS; obtain ⟨⟨hh0, hh1, hh2, hh3, hh4, hh5⟩, _⟩ := hS.2.of6; go_simp⟩) hS ?_
          change wpAnyH _ _ _ _ _ _ _ { tmps := #[_, _, _, _, _, _, _, _, _, _, _, _, _, _, _, _, _, _, _, _, _, _, _, _, _, _, _, _, _, _, _, _, _, _, _, _, _, _, _, _, _, _, _, _, _, _, _, _, _, _, _, _, _, _, _, _, _, _, _, _, _, _, _, _, _, _, _, _, _, _, _, _, _, _, _, _, _, _, _, _, _, _, _, _, _, _, _, _, _], defers := [] } _
          refine wpAnyH_take (i := 5) (v := .pointer (some ⟨g_s, 1, none⟩)) rfl (by kernel_rfl) (by kernel_rfl) (by kernel_rfl) (fun _ _ _ h => h) (Or.inl ⟨rfl, by intro w hS; go_simp⟩) hS ?_
          change wpAnyH _ _ _ _ _ _ _ { tmps := #[_, _, _, _, _, _, _, _, _, _, _, _, _, _, _, _, _, _, _, _, _, _, _, _, _, _, _, _, _, _, _, _, _, _, _, _, _, _, _, _, _, _, _, _, _, _, _, _, _, _, _, _, _, _, _, _, _, _, _, _, _, _, _, _, _, _, _, _, _, _, _, _, _, _, _, _, _, _, _, _, _, _, _, _, _, _, _, _, _], defers := [] } _
          refine wpAnyH_take (i := 6) (v := .string d) rfl (by kernel_rfl) (by kernel_rfl) (by kernel_rfl) (fun _ _ _ h => h) (Or.inl ⟨rfl, by intro w hS; obtain ⟨⟨hh0, hh1, hh2, hh3, hh4, hh5⟩, _⟩ := hS.1.of6; go_simp⟩) hS ?_
          change wpAnyH _ _ _ _ _ _ _ { tmps := #[_, _, _, _, _, _, _, _, _, _, _, _, _, _, _, _, _, _, _, _, _, _, _, _, _, _, _, _, _, _, _, _, _, _, _, _, _, _, _, _, _, _, _, _, _, _, _, _, _, _, _, _, _, _, _, _, _, _, _, _, _, _, _, _, _, _, _, _, _, _, _, _, _, _, _, _, _, _, _, _, _, _, _, _, _, _, _, _, _], defers := [] } _
          refine wpAnyH_take (i := 7) (v := .string x) rfl (by kernel_rfl) (by kernel_rfl) (by kernel_rfl) (fun _ _ _ h => h) (Or.inl ⟨rfl, by intro w hS; go_simp⟩) hS ?_
          change wpAnyH _ _ _ _ _ _ _ { tmps := #[_, _, _, _, _, _, _, _, _, _, _, _, _, _, _, _, _, _, _, _, _, _, _, _, _, _, _, _, _, _, _, _, _, _, _, _, _, _, _, _, _, _, _, _, _, _, _, _, _, _, _, _, _, _, _, _, _, _, _, _, _, _, _, _, _, _, _, _, _, _, _, _, _, _, _, _, _, _, _, _, _, _, _, _, _, _, _, _, _], defers := [] } _
          refine wpAnyH_take (i := 8) (v := .int .i64 n) rfl (by kernel_rfl) (by kernel_rfl) (by kernel_rfl) (fun _ _ _ h => h) (Or.inl ⟨rfl, by intro w hS; go_simp⟩) hS ?_
          change wpAnyH _ _ _ _ _ _ _ { tmps := #[_, _, _, _, _, _, _, _, _, _, _, _, _, _, _, _, _, _, _, _, _, _, _, _, _, _, _, _, _, _, _, _, _, _, _, _, _, _, _, _, _, _, _, _, _, _, _, _, _, _, _, _, _, _, _, _, _, _, _, _, _, _, _, _, _, _, _, _, _, _, _, _, _, _, _, _, _, _, _, _, _, _, _, _, _, _, _, _, _], defers := [] } _
          refine wpAnyH_take (i := 9) (v := .string (x.extract 0 n)) rfl (by kernel_rfl) (by kernel_rfl) (by kernel_rfl) (fun _ _ _ h => h) (Or.inl ⟨rfl, by intro w hS; go_simp⟩) hS ?_
          change wpAnyH _ _ _ _ _ _ _ { tmps := #[_, _, _, _, _, _, _, _, _, _, _, _, _, _, _, _, _, _, _, _, _, _, _, _, _, _, _, _, _, _, _, _, _, _, _, _, _, _, _, _, _, _, _, _, _, _, _, _, _, _, _, _, _, _, _, _, _, _, _, _, _, _, _, _, _, _, _, _, _, _, _, _, _, _, _, _, _, _, _, _, _, _, _, _, _, _, _, _, _], defers := [] } _
          refine wpAnyH_take (i := 10) (v := .string D) rfl (by kernel_rfl) (by kernel_rfl) (by kernel_rfl) (fun _ _ _ h => h) (Or.inl ⟨rfl, by intro w hS; first | (go_simp; done) | (go_simp; exact hD.out) | (go_simp; rw [hD.out])⟩) hS ?_
          change wpAnyH _ _ _ _ _ _ _ { tmps := #[_, _, _, _, _, _, _, _, _, _, _, _, _, _, _, _, _, _, _, _, _, _, _, _, _, _, _, _, _, _, _, _, _, _, _, _, _, _, _, _, _, _, _, _, _, _, _, _, _, _, _, _, _, _, _, _, _, _, _, _, _, _, _, _, _, _, _, _, _, _, _, _, _, _, _, _, _, _, _, _, _, _, _, _, _, _, _, _, _], defers := [] } _
          refine wpAnyH_take (i := 11) (v := .bool true) rfl (by kernel_rfl) (by kernel_rfl) (by kernel_rfl) (fun _ _ _ h => h) (Or.inl ⟨rfl, by intro w hS; go_simp⟩) hS ?_
          change wpAnyH _ _ _ _ _ _ _ { tmps := #[_, _, _, _, _, _, _, _, _, _, _, _, _, _, _, _, _, _, _, _, _, _, _, _, _, _, _, _, _, _, _, _, _, _, _, _, _, _, _, _, _, _, _, _, _, _, _, _, _, _, _, _, _, _, _, _, _, _, _, _, _, _, _, _, _, _, _, _, _, _, _, _, _, _, _, _, _, _, _, _, _, _, _, _, _, _, _, _, _], defers := [] } _
          refine wpAnyH_take (i := 12) (v := .bool true) rfl (by kernel_rfl) (by kernel_rfl) (by kernel_rfl) (fun _ _ _ h => h) (Or.inl ⟨rfl, by intro w hS; go_simp⟩) hS ?_
          change wpAnyH _ _ _ _ _ _ _ { tmps := #[_, _, _, _, _, _, _, _, _, _, _, _, _, _, _, _, _, _, _, _, _, _, _, _, _, _, _, _, _, _, _, _, _, _, _, _, _, _, _, _, _, _, _, _, _, _, _, _, _, _, _, _, _, _, _, _, _, _, _, _, _, _, _, _, _, _, _, _, _, _, _, _, _, _, _, _, _, _, _, _, _, _, _, _, _, _, _, _, _], defers := [] } _
          refine wpAnyH_take (i := 13) (v := .bool true) rfl (by kernel_rfl) (by kernel_rfl) (by kernel_rfl) (fun _ _ _ h => h) (Or.inl ⟨rfl, by intro w hS; go_simp⟩) hS ?_
          change wpAnyH _ _ _ _ _ _ _ { tmps := #[_, _, _, _, _, _, _, _, _, _, _, _, _, _, _, _, _, _, _, _, _, _, _, _, _, _, _, _, _, _, _, _, _, _, _, _, _, _, _, _, _, _, _, _, _, _, _, _, _, _, _, _, _, _, _, _, _, _, _, _, _, _, _, _, _, _, _, _, _, _, _, _, _, _, _, _, _, _, _, _, _, _, _, _, _, _, _, _, _], defers := [] } _
          refine wpAnyH_take (i := 14) (v := .agg #[.int .i64 u, .string D, .int .i64 t, .bool false, .bool b2, .bool b3]) rfl (by kernel_rfl) (by kernel_rfl) (by kernel_rfl) (fun _ _ _ h => h) (Or.inl ⟨rfl, by intro w hS; obtain ⟨⟨hh0, hh1, hh2, hh3, hh4, hh5⟩, _⟩ := hS.2.of6; go_simp⟩) hS ?_
          change wpAnyH _ _ _ _ _ _ _ { tmps := #[_, _, _, _, _, _, _, _, _, _, _, _, _, _, _, _, _, _, _, _, _, _, _, _, _, _, _, _, _, _, _, _, _, _, _, _, _, _, _, _, _, _, _, _, _, _, _, _, _, _, _, _, _, _, _, _, _, _, _, _, _, _, _, _, _, _, _, _, _, _, _, _, _, _, _, _, _, _, _, _, _, _, _, _, _, _, _, _, _], defers := [] } _
          refine wpAnyH_take (i := 16) (v := .agg #[.int .i64 u, .string d, .int .i64 t, .bool false, .bool b2, .bool b3]) rfl (by kernel_rfl) (by kernel_rfl) (by kernel_rfl) (fun _ _ _ h => h) (Or.inl ⟨rfl, by intro w hS; obtain ⟨⟨hh0, hh1, hh2, hh3, hh4, hh5⟩, _⟩ := hS.1.of6; go_simp⟩) hS ?_
          change wpAnyH _ _ _ _ _ _ _ { tmps := #[_, _, _, _, _, _, _, _, _, _, _, _, _, _, _, _, _, _, _, _, _, _, _, _, _, _, _, _, _, _, _, _, _, _, _, _, _, _, _, _, _, _, _, _, _, _, _, _, _, _, _, _, _, _, _, _, _, _, _, _, _, _, _, _, _, _, _, _, _, _, _, _, _, _, _, _, _, _, _, _, _, _, _, _, _, _, _, _, _], defers := [] } _
          refine wpAnyH_ready (rs := [15]) (by kernel_rfl) (by simp) ?_
          refine AllReadyH.cons (i := 15) rfl (fun K hK => ?zq2) AllReadyH.nil
          rw [if_pos (by first | rfl | kernel_rfl)]
          go_simp
          clear hS
          refine (N1.out _).mono ?_
          rintro e v12 ⟨rfl, hb⟩
          have B12 := Lib.hid (B11.out.trans (hb.mono B11.out.size))
          have Ks12 := Lib.hid (Ks11.out.below hb)
          have Kx12 := Lib.hid (Kx11.out.below hb)
          have Ky12 := Lib.hid (Ky11.out.below hb)
          clear hb B11 Ks11 Kx11 Ky11
          refine hK.out _ _ ⟨Ks12.out, Kx12.out⟩ (fun hS => ?_)
          clear hK K
          change wpAnyH _ _ _ _ _ _ _ { tmps := #[_, _, _, _, _, _, _, _, _, _, _, _, _, _, _, _, _, _, _, _, _, _, _, _, _, _, _, _, _, _, _, _, _, _, _, _, _, _, _, _, _, _, _, _, _, _, _, _, _, _, _, _, _, _, _, _, _, _, _, _, _, _, _, _, _, _, _, _, _, _, _, _, _, _, _, _, _, _, _, _, _, _, _, _, _, _, _, _, _], defers := [] } _
          refine wpAnyH_ready (rs := [17]) (by kernel_rfl) (by simp) ?_
          refine AllReadyH.cons (i := 17) rfl (fun K hK => ?zq3) AllReadyH.nil
          rw [if_pos (by first | rfl | kernel_rfl)]
          go_simp
          clear hS
          refine (N2.out _).mono ?_
          rintro e v13 ⟨rfl, hb⟩
          have B13 := Lib.hid (B12.out.trans (hb.mono B12.out.size))
          have Ks13 := Lib.hid (Ks12.out.below hb)
          have Kx13 := Lib.hid (Kx12.out.below hb)
          have Ky13 := Lib.hid (Ky12.out.below hb)
          clear hb B12 Ks12 Kx12 Ky12
          refine hK.out _ _ ⟨Ks13.out, Kx13.out⟩ (fun hS => ?_)
          clear hK K
          change wpAnyH _ _ _ _ _ _ _ { tmps := #[_, _, _, _, _, _, _, _, _, _, _, _, _, _, _, _, _, _, _, _, _, _, _, _, _, _, _, _, _, _, _, _, _, _, _, _, _, _, _, _, _, _, _, _, _, _, _, _, _, _, _, _, _, _, _, _, _, _, _, _, _, _, _, _, _, _, _, _, _, _, _, _, _, _, _, _, _, _, _, _, _, _, _, _, _, _, _, _, _], defers := [] } _
          refine wpAnyH_take (i := 18) (v := .bool true) rfl (by kernel_rfl) (by kernel_rfl) (by kernel_rfl) (fun _ _ _ h => h) (Or.inl ⟨rfl, by intro w hS; go_simp⟩) hS ?_
          change wpAnyH _ _ _ _ _ _ _ { tmps := #[_, _, _, _, _, _, _, _, _, _, _, _, _, _, _, _, _, _, _, _, _, _, _, _, _, _, _, _, _, _, _, _, _, _, _, _, _, _, _, _, _, _, _, _, _, _, _, _, _, _, _, _, _, _, _, _, _, _, _, _, _, _, _, _, _, _, _, _, _, _, _, _, _, _, _, _, _, _, _, _, _, _, _, _, _, _, _, _, _], defers := [] } _
          refine wpAnyH_take (i := 19) (v := .bool true) rfl (by kernel_rfl) (by kernel_rfl) (by kernel_rfl) (fun _ _ _ h => h) (Or.inl ⟨rfl, by intro w hS; go_simp⟩) hS ?_
          change wpAnyH _ _ _ _ _ _ _ { tmps := #[_, _, _, _, _, _, _, _, _, _, _, _, _, _, _, _, _, _, _, _, _, _, _, _, _, _, _, _, _, _, _, _, _, _, _, _, _, _, _, _, _, _, _, _, _, _, _, _, _, _, _, _, _, _, _, _, _, _, _, _, _, _, _, _, _, _, _, _, _, _, _, _, _, _, _, _, _, _, _, _, _, _, _, _, _, _, _, _, _], defers := [] } _
          refine wpAnyH_take (i := 20) (v := .bool true) rfl (by kernel_rfl) (by kernel_rfl) (by kernel_rfl) (fun _ _ _ h => h) (Or.inl ⟨rfl, by intro w hS; go_simp⟩) hS ?_
          change wpAnyH _ _ _ _ _ _ _ { tmps := #[_, _, _, _, _, _, _, _, _, _, _, _, _, _, _, _, _, _, _, _, _, _, _, _, _, _, _, _, _, _, _, _, _, _, _, _, _, _, _, _, _, _, _, _, _, _, _, _, _, _, _, _, _, _, _, _, _, _, _, _, _, _, _, _, _, _, _, _, _, _, _, _, _, _, _, _, _, _, _, _, _, _, _, _, _, _, _, _, _], defers := [] } _
          refine wpAnyH_take (i := 21) (v := .int .i64 n) rfl (by kernel_rfl) (by kernel_rfl) (by kernel_rfl) (fun _ _ _ h => h) (Or.inl ⟨rfl, by intro w hS; go_simp⟩) hS ?_
          change wpAnyH _ _ _ _ _ _ _ { tmps := #[_, _, _, _, _, _, _, _, _, _, _, _, _, _, _, _, _, _, _, _, _, _, _, _, _, _, _, _, _, _, _, _, _, _, _, _, _, _, _, _, _, _, _, _, _, _, _, _, _, _, _, _, _, _, _, _, _, _, _, _, _, _, _, _, _, _, _, _, _, _, _, _, _, _, _, _, _, _, _, _, _, _, _, _, _, _, _, _, _], defers := [] } _
          refine wpAnyH_take (i := 22) (v := .string x) rfl (by kernel_rfl) (by kernel_rfl) (by kernel_rfl) (fun _ _ _ h => h) (Or.inl ⟨rfl, by intro w hS; go_simp⟩) hS ?_
          change wpAnyH _ _ _ _ _ _ _ { tmps := #[_, _, _, _, _, _, _, _, _, _, _, _, _, _, _, _, _, _, _, _, _, _, _, _, _, _, _, _, _, _, _, _, _, _, _, _, _, _, _, _, _, _, _, _, _, _, _, _, _, _, _, _, _, _, _, _, _, _, _, _, _, _, _, _, _, _, _, _, _, _, _, _, _, _, _, _, _, _, _, _, _, _, _, _, _, _, _, _, _], defers := [] } _
          refine wpAnyH_take (i := 23) (v := .int .i64 x.size) rfl (by kernel_rfl) (by kernel_rfl) (by kernel_rfl) (fun _ _ _ h => h) (Or.inl ⟨rfl, by intro w hS; go_simp⟩) hS ?_
          change wpAnyH _ _ _ _ _ _ _ { tmps := #[_, _, _, _, _, _, _, _, _, _, _, _, _, _, _, _, _, _, _, _, _, _, _, _, _, _, _, _, _, _, _, _, _, _, _, _, _, _, _, _, _, _, _, _, _, _, _, _, _, _, _, _, _, _, _, _, _, _, _, _, _, _, _, _, _, _, _, _, _, _, _, _, _, _, _, _, _, _, _, _, _, _, _, _, _, _, _, _, _], defers := [] } _
          refine wpAnyH_take (i := 24) (v := .bool true) rfl (by kernel_rfl) (by kernel_rfl) (by kernel_rfl) (fun _ _ _ h => h) (Or.inl ⟨rfl, by intro w hS; go_simp⟩) hS ?_
          change wpAnyH _ _ _ _ _ _ _ { tmps := #[_, _, _, _, _, _, _, _, _, _, _, _, _, _, _, _, _, _, _, _, _, _, _, _, _, _, _, _, _, _, _, _, _, _, _, _, _, _, _, _, _, _, _, _, _, _, _, _, _, _, _, _, _, _, _, _, _, _, _, _, _, _, _, _, _, _, _, _, _, _, _, _, _, _, _, _, _, _, _, _, _, _, _, _, _, _, _, _, _], defers := [] } _
          refine wpAnyH_take (i := 25) (v := .bool true) rfl (by kernel_rfl) (by kernel_rfl) (by kernel_rfl) (fun _ _ _ h => h) (Or.inl ⟨rfl, by intro w hS; go_simp⟩) hS ?_
          change wpAnyH _ _ _ _ _ _ _ { tmps := #[_, _, _, _, _, _, _, _, _, _, _, _, _, _, _, _, _, _, _, _, _, _, _, _, _, _, _, _, _, _, _, _, _, _, _, _, _, _, _, _, _, _, _, _, _, _, _, _, _, _, _, _, _, _, _, _, _, _, _, _, _, _, _, _, _, _, _, _, _, _, _, _, _, _, _, _, _, _, _, _, _, _, _, _, _, _, _, _, _], defers := [] } _
          refine wpAnyH_take (i := 26) (v := undef) rfl (by kernel_rfl) (by kernel_rfl) (by kernel_rfl) (fun _ _ _ h => h) (Or.inr ⟨rfl, rfl⟩) hS ?_
          change wpAnyH _ _ _ _ _ _ _ { tmps := #[_, _, _, _, _, _, _, _, _, _, _, _, _, _, _, _, _, _, _, _, _, _, _, _, _, _, _, _, _, _, _, _, _, _, _, _, _, _, _, _, _, _, _, _, _, _, _, _, _, _, _, _, _, _, _, _, _, _, _, _, _, _, _, _, _, _, _, _, _, _, _, _, _, _, _, _, _, _, _, _, _, _, _, _, _, _, _, _, _], defers := [] } _
          refine wpAnyH_take (i := 27) (v := undef) rfl (by kernel_rfl) (by kernel_rfl) (by kernel_rfl) (fun _ _ _ h => h) (Or.inr ⟨rfl, rfl⟩) hS ?_
          change wpAnyH _ _ _ _ _ _ _ { tmps := #[_, _, _, _, _, _, _, _, _, _, _, _, _, _, _, _, _, _, _, _, _, _, _, _, _, _, _, _, _, _, _, _, _, _, _, _, _, _, _, _, _, _, _, _, _, _, _, _, _, _, _, _, _, _, _, _, _, _, _, _, _, _, _, _, _, _, _, _, _, _, _, _, _, _, _, _, _, _, _, _, _, _, _, _, _, _, _, _, _], defers := [] } _
          refine wpAnyH_take (i := 28) (v := undef) rfl (by kernel_rfl) (by kernel_rfl) (by kernel_rfl) (fun _ _ _ h => h) (Or.inr ⟨rfl, rfl⟩) hS ?_
          change wpAnyH _ _ _ _ _ _ _ { tmps := #[_, _, _, _, _, _, _, _, _, _, _, _, _, _, _, _, _, _, _, _, _, _, _, _, _, _, _, _, _, _, _, _, _, _, _, _, _, _, _, _, _, _, _, _, _, _, _, _, _, _, _, _, _, _, _, _, _, _, _, _, _, _, _, _, _, _, _, _, _, _, _, _, _, _, _, _, _, _, _, _, _, _, _, _, _, _, _, _, _], defers := [] } _
          refine wpAnyH_take (i := 29) (v := undef) rfl (by kernel_rfl) (by kernel_rfl) (by kernel_rfl) (fun _ _ _ h => h) (Or.inr ⟨rfl, rfl⟩) hS ?_
          change wpAnyH _ _ _ _ _ _ _ { tmps := #[_, _, _, _, _, _, _, _, _, _, _, _, _, _, _, _, _, _, _, _, _, _, _, _, _, _, _, _, _, _, _, _, _, _, _, _, _, _, _, _, _, _, _, _, _, _, _, _, _, _, _, _, _, _, _, _, _, _, _, _, _, _, _, _, _, _, _, _, _, _, _, _, _, _, _, _, _, _, _, _, _, _, _, _, _, _, _, _, _], defers := [] } _
          refine wpAnyH_take (i := 30) (v := .bool true) rfl (by kernel_rfl) (by kernel_rfl) (by kernel_rfl) (fun _ _ _ h => h) (Or.inl ⟨rfl, by intro w hS; go_simp⟩) hS ?_
          change wpAnyH _ _ _ _ _ _ _ { tmps := #[_, _, _, _, _, _, _, _, _, _, _, _, _, _, _, _, _, _, _, _, _, _, _, _, _, _, _, _, _, _, _, _, _, _, _, _, _, _, _, _, _, _, _, _, _, _, _, _, _, _, _, _, _, _, _, _, _, _, _, _, _, _, _, _, _, _, _, _, _, _, _, _, _, _, _, _, _, _, _, _, _, _, _, _, _, _, _, _, _], defers := [] } _
          refine wpAnyH_take (i := 31) (v := .bool true) rfl (by kernel_rfl) (by kernel_rfl) (by kernel_rfl) (fun _ _ _ h => h) (Or.inl ⟨rfl, by intro w hS; go_simp⟩) hS ?_
          change wpAnyH _ _ _ _ _ _ _ { tmps := #[_, _, _, _, _, _, _, _, _, _, _, _, _, _, _, _, _, _, _, _, _, _, _, _, _, _, _, _, _, _, _, _, _, _, _, _, _, _, _, _, _, _, _, _, _, _, _, _, _, _, _, _, _, _, _, _, _, _, _, _, _, _, _, _, _, _, _, _, _, _, _, _, _, _, _, _, _, _, _, _, _, _, _, _, _, _, _, _, _], defers := [] } _
          refine wpAnyH_take (i := 32) (v := .bool true) rfl (by kernel_rfl) (by kernel_rfl) (by kernel_rfl) (fun _ _ _ h => h) (Or.inl ⟨rfl, by intro w hS; go_simp⟩) hS ?_
          change wpAnyH _ _ _ _ _ _ _ { tmps := #[_, _, _, _, _, _, _, _, _, _, _, _, _, _, _, _, _, _, _, _, _, _, _, _, _, _, _, _, _, _, _, _, _, _, _, _, _, _, _, _, _, _, _, _, _, _, _, _, _, _, _, _, _, _, _, _, _, _, _, _, _, _, _, _, _, _, _, _, _, _, _, _, _, _, _, _, _, _, _, _, _, _, _, _, _, _, _, _, _], defers := [] } _
          refine wpAnyH_done (by kernel_rfl) ?_ _
          refine NoPanic.normal ?_
          obtain ⟨⟨cs0, cs1, cs2, cs3, cs4, cs5⟩, ds0, ds1, ds2, ds3, ds4, ds5⟩ := Ks13.out.of6
          obtain ⟨⟨cx0, cx1, cx2, cx3, cx4, cx5⟩, dx0, dx1, dx2, dx3, dx4, dx5⟩ := Kx13.out.of6
          obtain ⟨⟨cy0, cy1, cy2, cy3, cy4, cy5⟩, dy0, dy1, dy2, dy3, dy4, dy5⟩ := Ky13.out.of6
          go_wp2_with fail
          go_ret
          exact ⟨rfl, B13.out⟩
        have h1 : ((n : Int) == (x.size : Int)) = false := by simp; omega
        have hDs : D.size = 48 := by rw [hz]; exact hn48 h0
        clear h0 hz hz2 hn48
        have Ksn := Lib.hid (Blk.new v1 [.int .i64 u, .string d, .int .i64 t, .bool false, .bool b2, .bool b3] 25)
        have l_s : w.heap.size ≤ v1.heap.size := B1.out.size
        have Bn := Lib.hid (B1.out.alloc B1.out.size (.cells #[.int .i64 u, .string d, .int .i64 t, .bool false, .bool b2, .bool b3] 25))
        clear B1
        go_wp2_with fail
        change Calls _ _ _ (v1.alloc (.cells #[.int .i64 u, .string d, .int .i64 t, .bool false, .bool b2, .bool b3] 25)) _
        generalize v1.alloc (.cells #[.int .i64 u, .string d, .int .i64 t, .bool false, .bool b2, .bool b3] 25) = v2 at Ksn Bn ⊢
        generalize v1.heap.size = g_s at Ksn l_s ⊢
        clear v1
        have Ks2 := Ksn
        clear Ksn
        have B2 := Bn
        clear Bn
        refine (QI.out _).mono ?_
        rintro e v3 ⟨rfl, hb⟩
        have B3 := Lib.hid (B2.out.trans (hb.mono B2.out.size))
        have Ks3 := Lib.hid (Ks2.out.below hb)
        clear hb B2 Ks2
        have Kxn := Lib.hid (Blk.new v3 [.int .i64 u, .string D, .int .i64 t, .bool false, .bool b2, .bool b3] 25)
        have l_x : w.heap.size ≤ v3.heap.size := B3.out.size
        have n_s_x : g_s ≠ v3.heap.size := by have h1 := Ks3.out.lt; omega
        have Bn := Lib.hid (B3.out.alloc B3.out.size (.cells #[.int .i64 u, .string D, .int .i64 t, .bool false, .bool b2, .bool b3] 25))
        have Ksn := Lib.hid (Ks3.out.alloc (.cells #[.int .i64 u, .string D, .int .i64 t, .bool false, .bool b2, .bool b3] 25))
        clear B3 Ks3
        obtain ⟨⟨cs0, cs1, cs2, cs3, cs4, cs5⟩, ds0, ds1, ds2, ds3, ds4, ds5⟩ := Ksn.out.of6
        go_wp2_with fail
        clear cs0 cs1 cs2 cs3 cs4 cs5 ds0 ds1 ds2 ds3 ds4 ds5
        change Calls _ _ _ (v3.alloc (.cells #[.int .i64 u, .string D, .int .i64 t, .bool false, .bool b2, .bool b3] 25)) _
        generalize v3.alloc (.cells #[.int .i64 u, .string D, .int .i64 t, .bool false, .bool b2, .bool b3] 25) = v4 at Kxn Bn Ksn ⊢
        generalize v3.heap.size = g_x at Kxn l_x n_s_x ⊢
        clear v3
        have Ks4 := Ksn
        clear Ksn
        have Kx4 := Kxn
        clear Kxn
        have B4 := Bn
        clear Bn
        refine (QS.out _).mono ?_
        rintro e v5 ⟨rfl, hb⟩
        have B5 := Lib.hid (B4.out.trans (hb.mono B4.out.size))
        have Ks5 := Lib.hid (Ks4.out.below hb)
        have Kx5 := Lib.hid (Kx4.out.below hb)
        clear hb B4 Ks4 Kx4
        have Kyn := Lib.hid (Blk.new v5 [.int .i64 u, .string D, .int .i64 t, .bool false, .bool b2, .bool b3] 25)
        have l_y : w.heap.size ≤ v5.heap.size := B5.out.size
        have n_s_y : g_s ≠ v5.heap.size := by have h1 := Ks5.out.lt; omega
        have n_x_y : g_x ≠ v5.heap.size := by have h1 := Kx5.out.lt; omega
        have Bn := Lib.hid (B5.out.alloc B5.out.size (.cells #[.int .i64 u, .string D, .int .i64 t, .bool false, .bool b2, .bool b3] 25))
        have Ksn := Lib.hid (Ks5.out.alloc (.cells #[.int .i64 u, .string D, .int .i64 t, .bool false, .bool b2, .bool b3] 25))
        have Kxn := Lib.hid (Kx5.out.alloc (.cells #[.int .i64 u, .string D, .int .i64 t, .bool false, .bool b2, .bool b3] 25))
        clear B5 Ks5 Kx5
        obtain ⟨⟨cs0, cs1, cs2, cs3, cs4, cs5⟩, ds0, ds1, ds2, ds3, ds4, ds5⟩ := Ksn.out.of6
        obtain ⟨⟨cx0, cx1, cx2, cx3, cx4, cx5⟩, dx0, dx1, dx2, dx3, dx4, dx5⟩ := Kxn.out.of6
        go_upto_region 6 with fail
        clear cs0 cs1 cs2 cs3 cs4 cs5 ds0 ds1 ds2 ds3 ds4 ds5 cx0 cx1 cx2 cx3 cx4 cx5 dx0 dx1 dx2 dx3 dx4 dx5
        generalize v5.alloc (.cells #[.int .i64 u, .string D, .int .i64 t, .bool false, .bool b2, .bool b3] 25) = v6 at Kyn Bn Ksn Kxn ⊢
        generalize v5.heap.size = g_y at Kyn l_y n_s_y n_x_y ⊢
        clear v5
        have Ks6 := Ksn
        clear Ksn
        have Kx6 := Kxn
        clear Kxn
        have Ky6 := Kyn
        clear Kyn
        have B6 := Bn
        clear Bn
        obtain ⟨⟨cs0, cs1, cs2, cs3, cs4, cs5⟩, ds0, ds1, ds2, ds3, ds4, ds5⟩ := Ks6.out.of6
        obtain ⟨⟨cx0, cx1, cx2, cx3, cx4, cx5⟩, dx0, dx1, dx2, dx3, dx4, dx5⟩ := Kx6.out.of6
        obtain ⟨⟨cy0, cy1, cy2, cy3, cy4, cy5⟩, dy0, dy1, dy2, dy3, dy4, dy5⟩ := Ky6.out.of6
        have P6_0 : True := trivial
        have P6_1 : True := trivial
        go_region_held3 (fun w' => (w'.cell? ⟨g_s, 0, none⟩ = some (.int .i64 u) ∧ w'.cell? ⟨g_s, 1, none⟩ = some (.string d) ∧ w'.cell? ⟨g_s, 2, none⟩ = some (.int .i64 t) ∧ w'.cell? ⟨g_s, 3, none⟩ = some (.bool false) ∧ w'.cell? ⟨g_s, 4, none⟩ = some (.bool b2) ∧ w'.cell? ⟨g_s, 5, none⟩ = some (.bool b3)) ∧ (w'.cell? ⟨g_x, 0, none⟩ = some (.int .i64 u) ∧ w'.cell? ⟨g_x, 1, none⟩ = some (.string D) ∧ w'.cell? ⟨g_x, 2, none⟩ = some (.int .i64 t) ∧ w'.cell? ⟨g_x, 3, none⟩ = some (.bool false) ∧ w'.cell? ⟨g_x, 4, none⟩ = some (.bool b2) ∧ w'.cell? ⟨g_x, 5, none⟩ = some (.bool b3)) ∧ (w'.cell? ⟨g_y, 0, none⟩ = some (.int .i64 u) ∧ w'.cell? ⟨g_y, 1, none⟩ = some (.string D) ∧ w'.cell? ⟨g_y, 2, none⟩ = some (.int .i64 t) ∧ w'.cell? ⟨g_y, 3, none⟩ = some (.bool false) ∧ w'.cell? ⟨g_y, 4, none⟩ = some (.bool b2) ∧ w'.cell? ⟨g_y, 5, none⟩ = some (.bool b3)))
          (first | go_keep | (exact ⟨Ks7.out.of6.1, Kx7.out.of6.1, Ky7.out.of6.1⟩) | (exact ⟨Ks8.out.of6.1, Kx8.out.of6.1, Ky8.out.of6.1⟩))
          (first | (have q := P6_0; go_at_call 18; clear q P6_0; refine (OI.out _).mono ?_; rintro e v7 ⟨rfl, hb⟩; replace hb := (Below.refl _ v6).drew.trans hb; have B7 := Lib.hid (B6.out.trans (hb.mono B6.out.size)); have Ks7 := Lib.hid (Ks6.out.below hb); have Kx7 := Lib.hid (Kx6.out.below hb); have Ky7 := Lib.hid (Ky6.out.below hb); clear hb B6 Ks6 Kx6 Ky6) | (have q := P6_1; go_at_call 19; clear q P6_1; refine (OS.out _).mono ?_; rintro e v8 ⟨rfl, hb⟩; have B8 := Lib.hid (B7.out.trans (hb.mono B7.out.size)); have Ks8 := Lib.hid (Ks7.out.below hb); have Kx8 := Lib.hid (Kx7.out.below hb); have Ky8 := Lib.hid (Ky7.out.below hb); clear hb B7 Ks7 Kx7 Ky7))
        try clear cs0 cs1 cs2 cs3 cs4 cs5 ds0 ds1 ds2 ds3 ds4 ds5 cx0 cx1 cx2 cx3 cx4 cx5 dx0 dx1 dx2 dx3 dx4 dx5 cy0 cy1 cy2 cy3 cy4 cy5 dy0 dy1 dy2 dy3 dy4 dy5
        obtain ⟨⟨cs0, cs1, cs2, cs3, cs4, cs5⟩, ds0, ds1, ds2, ds3, ds4, ds5⟩ := Ks8.out.of6
        obtain ⟨⟨cx0, cx1, cx2, cx3, cx4, cx5⟩, dx0, dx1, dx2, dx3, dx4, dx5⟩ := Kx8.out.of6
        obtain ⟨⟨cy0, cy1, cy2, cy3, cy4, cy5⟩, dy0, dy1, dy2, dy3, dy4, dy5⟩ := Ky8.out.of6
        go_wp2_with fail
        clear cs0 cs1 cs2 cs3 cs4 cs5 ds0 ds1 ds2 ds3 ds4 ds5 cx0 cx1 cx2 cx3 cx4 cx5 dx0 dx1 dx2 dx3 dx4 dx5 cy0 cy1 cy2 cy3 cy4 cy5 dy0 dy1 dy2 dy3 dy4 dy5
        refine (OS.out _).mono ?_
        rintro e v9 ⟨rfl, hb⟩
        have B9 := Lib.hid (B8.out.trans (hb.mono B8.out.size))
        have Ks9 := Lib.hid (Ks8.out.below hb)
        have Kx9 := Lib.hid (Kx8.out.below hb)
        have Ky9 := Lib.hid (Ky8.out.below hb)
        clear hb B8 Ks8 Kx8 Ky8
        obtain ⟨⟨cs0, cs1, cs2, cs3, cs4, cs5⟩, ds0, ds1, ds2, ds3, ds4, ds5⟩ := Ks9.out.of6
        obtain ⟨⟨cx0, cx1, cx2, cx3, cx4, cx5⟩, dx0, dx1, dx2, dx3, dx4, dx5⟩ := Kx9.out.of6
        obtain ⟨⟨cy0, cy1, cy2, cy3, cy4, cy5⟩, dy0, dy1, dy2, dy3, dy4, dy5⟩ := Ky9.out.of6
        go_upto_region 10 with fail
        clear cs0 cs1 cs2 cs3 cs4 cs5 ds0 ds1 ds2 ds3 ds4 ds5 cx0 cx1 cx2 cx3 cx4 cx5 dx0 dx1 dx2 dx3 dx4 dx5 cy0 cy1 cy2 cy3 cy4 cy5 dy0 dy1 dy2 dy3 dy4 dy5
        refine wp_region_noPanic ?_
        refine wp_region_held_drew (S := fun w' => Blk w' g_s [.int .i64 u, .string d, .int .i64 t, .bool false, .bool b2, .bool b3] ∧ Blk w' g_x [.int .i64 u, .string D, .int .i64 t, .bool false, .bool b2, .bool b3]) (by kernel_rfl) ⟨Ks9.out, Kx9.out⟩ (fun hS => ?_)
        have B10 := Lib.hid (show Below w.heap.size w v9.drew from B9.out.drew)
        have Ks10 := Lib.hid (show Blk v9.drew g_s [.int .i64 u, .string d, .int .i64 t, .bool false, .bool b2, .bool b3] from Ks9.out.drew)
        have Kx10 := Lib.hid (show Blk v9.drew g_x [.int .i64 u, .string D, .int .i64 t, .bool false, .bool b2, .bool b3] from Kx9.out.drew)
        have Ky10 := Lib.hid (show Blk v9.drew g_y [.int .i64 u, .string D, .int .i64 t, .bool false, .bool b2, .bool b3] from Ky9.out.drew)
        clear hS B9 Ks9 Kx9 Ky9
        generalize v9.drew = v10 at B10 Ks10 Kx10 Ky10 ⊢
        have hS : Blk v10 g_s [.int .i64 u, .string d, .int .i64 t, .bool false, .bool b2, .bool b3] ∧ Blk v10 g_x [.int .i64 u, .string D, .int .i64 t, .bool false, .bool b2, .bool b3] := ⟨Ks10.out, Kx10.out⟩
        refine wpAnyH_take (i := 0) (v := .agg #[.int .i64 u, .string D, .int .i64 t, .bool false, .bool b2, .bool b3]) rfl (by kernel_rfl) (by kernel_rfl) (by kernel_rfl) (fun _ _ _ h => h) (Or.inl ⟨rfl, by intro w hS; obtain ⟨⟨hh0, hh1, hh2, hh3, hh4, hh5⟩, _⟩ := hS.2.of6; go_simp⟩) hS ?_
        change wpAnyH _ _ _ _ _ _ _ { tmps := #[_, _, _, _, _, _, _, _, _, _, _, _, _, _, _, _, _, _, _, _, _, _, _, _, _, _, _, _, _, _, _, _, _, _, _, _, _, _, _, _, _, _, _, _, _, _, _, _, _, _, _, _, _, _, _, _, _, _, _, _, _, _, _, _, _, _, _, _, _, _, _, _, _, _, _, _, _, _, _, _, _, _, _, _, _, _, _, _, _], defers := [] } _
        refine wpAnyH_ready (rs := [1]) (by kernel_rfl) (by simp) ?_
        refine AllReadyH.cons (i := 1) rfl (fun K hK => ?zq4) AllReadyH.nil
        rw [if_pos (by first | rfl | kernel_rfl)]
        go_simp
        clear hS
        refine (OX.out _).mono ?_
        rintro e v11 ⟨rfl, hb⟩
        have B11 := Lib.hid (B10.out.trans (hb.mono B10.out.size))
        have Ks11 := Lib.hid (Ks10.out.below hb)
        have Kx11 := Lib.hid (Kx10.out.below hb)
        have Ky11 := Lib.hid (Ky10.out.below hb)
        clear hb B10 Ks10 Kx10 Ky10
        refine hK.out _ _ ⟨Ks11.out, Kx11.out⟩ (fun hS => ?_)
        clear hK K
        change wpAnyH _ _ _ _ _ _ _ { tmps := #[_, _, _, _, _, _, _, _, _, _, _, _, _, _, _, _, _, _, _, _, _, _, _, _, _, _, _, _, _, _, _, _, _, _, _, _, _, _, _, _, _, _, _, _, _, _, _, _, _, _, _, _, _, _, _, _, _, _, _, _, _, _, _, _, _, _, _, _, _, _, _, _, _, _, _, _, _, _, _, _, _, _, _, _, _, _, _, _, _], defers := [] } _
        refine wpAnyH_take (i := 2) (v := .bool true) rfl (by kernel_rfl) (by kernel_rfl) (by kernel_rfl) (fun _ _ _ h => h) (Or.inl ⟨rfl, by intro w hS; go_simp⟩) hS ?_
        change wpAnyH _ _ _ _ _ _ _ { tmps := #[_, _, _, _, _, _, _, _, _, _, _, _, _, _, _, _, _, _, _, _, _, _, _, _, _, _, _, _, _, _, _, _, _, _, _, _, _, _, _, _, _, _, _, _, _, _, _, _, _, _, _, _, _, _, _, _, _, _, _, _, _, _, _, _, _, _, _, _, _, _, _, _, _, _, _, _, _, _, _, _, _, _, _, _, _, _, _, _, _], defers := [] } _
        refine wpAnyH_take (i := 3) (v := .pointer (some ⟨g_x, 1, none⟩)) rfl (by kernel_rfl) (by kernel_rfl) (by kernel_rfl) (fun _ _ _ h => h) (Or.inl ⟨rfl, by intro w hS; go_simp⟩) hS ?_
        change wpAnyH _ _ _ _ _ _ _ { tmps := #[_, _, _, _, _, _, _, _, _, _, _, _, _, _, _, _, _, _, _, _, _, _, _, _, _, _, _, _, _, _, _, _, _, _, _, _, _, _, _, _, _, _, _, _, _, _, _, _, _, _, _, _, _, _, _, _, _, _, _, _, _, _, _, _, _, _, _, _, _, _, _, _, _, _, _, _, _, _, _, _, _, _, _, _, _, _, _, _, _], defers := [] } _
        refine wpAnyH_take (i := 4) (v := .string D) rfl (by kernel_rfl) (by kernel_rfl) (by kernel_rfl) (fun _ _ _ h => h) (Or.inl ⟨rfl, by intro w hS; obtain ⟨⟨hh0, hh1, hh2, hh3, hh4, hh5⟩, _⟩ := hS.2.of6; go_simp⟩) hS ?_
        change wpAnyH _ _ _ _ _ _ _ { tmps := #[_, _, _, _, _, _, _, _, _, _, _, _, _, _, _, _, _, _, _, _, _, _, _, _, _, _, _, _, _, _, _, _, _, _, _, _, _, _, _, _, _, _, _, _, _, _, _, _, _, _, _, _, _, _, _, _, _, _, _, _, _, _, _, _, _, _, _, _, _, _, _, _, _, _, _, _, _, _, _, _, _, _, _, _, _, _, _, _, _], defers := [] } _
        refine wpAnyH_take (i := 5) (v := .pointer (some ⟨g_s, 1, none⟩)) rfl (by kernel_rfl) (by kernel_rfl) (by kernel_rfl) (fun _ _ _ h => h) (Or.inl ⟨rfl, by intro w hS; go_simp⟩) hS ?_
        change wpAnyH _ _ _ _ _ _ _ { tmps := #[_, _, _, _, _, _, _, _, _, _, _, _, _, _, _, _, _, _, _, _, _, _, _, _, _, _, _, _, _, _, _, _, _, _, _, _, _, _, _, _, _, _, _, _, _, _, _, _, _, _, _, _, _, _, _, _, _, _, _, _, _, _, _, _, _, _, _, _, _, _, _, _, _, _, _, _, _, _, _, _, _, _, _, _, _, _, _, _, _], defers := [] } _
        refine wpAnyH_take (i := 6) (v := .string d) rfl (by kernel_rfl) (by kernel_rfl) (by kernel_rfl) (fun _ _ _ h => h) (Or.inl ⟨rfl, by intro w hS; obtain ⟨⟨hh0, hh1, hh2, hh3, hh4, hh5⟩, _⟩ := hS.1.of6; go_simp⟩) hS ?_
        change wpAnyH _ _ _ _ _ _ _ { tmps := #[_, _, _, _, _, _, _, _, _, _, _, _, _, _, _, _, _, _, _, _, _, _, _, _, _, _, _, _, _, _, _, _, _, _, _, _, _, _, _, _, _, _, _, _, _, _, _, _, _, _, _, _, _, _, _, _, _, _, _, _, _, _, _, _, _, _, _, _, _, _, _, _, _, _, _, _, _, _, _, _, _, _, _, _, _, _, _, _, _], defers := [] } _
        refine wpAnyH_take (i := 7) (v := .string x) rfl (by kernel_rfl) (by kernel_rfl) (by kernel_rfl) (fun _ _ _ h => h) (Or.inl ⟨rfl, by intro w hS; go_simp⟩) hS ?_
        change wpAnyH _ _ _ _ _ _ _ { tmps := #[_, _, _, _, _, _, _, _, _, _, _, _, _, _, _, _, _, _, _, _, _, _, _, _, _, _, _, _, _, _, _, _, _, _, _, _, _, _, _, _, _, _, _, _, _, _, _, _, _, _, _, _, _, _, _, _, _, _, _, _, _, _, _, _, _, _, _, _, _, _, _, _, _, _, _, _, _, _, _, _, _, _, _, _, _, _, _, _, _], defers := [] } _
        refine wpAnyH_take (i := 8) (v := .int .i64 n) rfl (by kernel_rfl) (by kernel_rfl) (by kernel_rfl) (fun _ _ _ h => h) (Or.inl ⟨rfl, by intro w hS; go_simp⟩) hS ?_
        change wpAnyH _ _ _ _ _ _ _ { tmps := #[_, _, _, _, _, _, _, _, _, _, _, _, _, _, _, _, _, _, _, _, _, _, _, _, _, _, _, _, _, _, _, _, _, _, _, _, _, _, _, _, _, _, _, _, _, _, _, _, _, _, _, _, _, _, _, _, _, _, _, _, _, _, _, _, _, _, _, _, _, _, _, _, _, _, _, _, _, _, _, _, _, _, _, _, _, _, _, _, _], defers := [] } _
        refine wpAnyH_take (i := 9) (v := .string (x.extract 0 n)) rfl (by kernel_rfl) (by kernel_rfl) (by kernel_rfl) (fun _ _ _ h => h) (Or.inl ⟨rfl, by intro w hS; go_simp⟩) hS ?_
        change wpAnyH _ _ _ _ _ _ _ { tmps := #[_, _, _, _, _, _, _, _, _, _, _, _, _, _, _, _, _, _, _, _, _, _, _, _, _, _, _, _, _, _, _, _, _, _, _, _, _, _, _, _, _, _, _, _, _, _, _, _, _, _, _, _, _, _, _, _, _, _, _, _, _, _, _, _, _, _, _, _, _, _, _, _, _, _, _, _, _, _, _, _, _, _, _, _, _, _, _, _, _], defers := [] } _
        refine wpAnyH_take (i := 10) (v := .string D) rfl (by kernel_rfl) (by kernel_rfl) (by kernel_rfl) (fun _ _ _ h => h) (Or.inl ⟨rfl, by intro w hS; first | (go_simp; done) | (go_simp; exact hD.out) | (go_simp; rw [hD.out])⟩) hS ?_
        change wpAnyH _ _ _ _ _ _ _ { tmps := #[_, _, _, _, _, _, _, _, _, _, _, _, _, _, _, _, _, _, _, _, _, _, _, _, _, _, _, _, _, _, _, _, _, _, _, _, _, _, _, _, _, _, _, _, _, _, _, _, _, _, _, _, _, _, _, _, _, _, _, _, _, _, _, _, _, _, _, _, _, _, _, _, _, _, _, _, _, _, _, _, _, _, _, _, _, _, _, _, _], defers := [] } _
        refine wpAnyH_take (i := 11) (v := .bool true) rfl (by kernel_rfl) (by kernel_rfl) (by kernel_rfl) (fun _ _ _ h => h) (Or.inl ⟨rfl, by intro w hS; go_simp⟩) hS ?_
        change wpAnyH _ _ _ _ _ _ _ { tmps := #[_, _, _, _, _, _, _, _, _, _, _, _, _, _, _, _, _, _, _, _, _, _, _, _, _, _, _, _, _, _, _, _, _, _, _, _, _, _, _, _, _, _, _, _, _, _, _, _, _, _, _, _, _, _, _, _, _, _, _, _, _, _, _, _, _, _, _, _, _, _, _, _, _, _, _, _, _, _, _, _, _, _, _, _, _, _, _, _, _], defers := [] } _
        refine wpAnyH_take (i := 12) (v := .bool true) rfl (by kernel_rfl) (by kernel_rfl) (by kernel_rfl) (fun _ _ _ h => h) (Or.inl ⟨rfl, by intro w hS; go_simp⟩) hS ?_
        change wpAnyH _ _ _ _ _ _ _ { tmps := #[_, _, _, _, _, _, _, _, _, _, _, _, _, _, _, _, _, _, _, _, _, _, _, _, _, _, _, _, _, _, _, _, _, _, _, _, _, _, _, _, _, _, _, _, _, _, _, _, _, _, _, _, _, _, _, _, _, _, _, _, _, _, _, _, _, _, _, _, _, _, _, _, _, _, _, _, _, _, _, _, _, _, _, _, _, _, _, _, _], defers := [] } _
        refine wpAnyH_take (i := 13) (v := .bool true) rfl (by kernel_rfl) (by kernel_rfl) (by kernel_rfl) (fun _ _ _ h => h) (Or.inl ⟨rfl, by intro w hS; go_simp⟩) hS ?_
        change wpAnyH _ _ _ _ _ _ _ { tmps := #[_, _, _, _, _, _, _, _, _, _, _, _, _, _, _, _, _, _, _, _, _, _, _, _, _, _, _, _, _, _, _, _, _, _, _, _, _, _, _, _, _, _, _, _, _, _, _, _, _, _, _, _, _, _, _, _, _, _, _, _, _, _, _, _, _, _, _, _, _, _, _, _, _, _, _, _, _, _, _, _, _, _, _, _, _, _, _, _, _], defers := [] } _
        refine wpAnyH_take (i := 14) (v := .agg #[.int .i64 u, .string D, .int .i64 t, .bool false, .bool b2, .bool b3]) rfl (by kernel_rfl) (by kernel_rfl) (by kernel_rfl) (fun _ _ _ h => h) (Or.inl ⟨rfl, by intro w hS; obtain ⟨⟨hh0, hh1, hh2, hh3, hh4, hh5⟩, _⟩ := hS.2.of6; go_simp⟩) hS ?_
        change wpAnyH _ _ _ _ _ _ _ { tmps := #[_, _, _, _, _, _, _, _, _, _, _, _, _, _, _, _, _, _, _, _, _, _, _, _, _, _, _, _, _, _, _, _, _, _, _, _, _, _, _, _, _, _, _, _, _, _, _, _, _, _, _, _, _, _, _, _, _, _, _, _, _, _, _, _, _, _, _, _, _, _, _, _, _, _, _, _, _, _, _, _, _, _, _, _, _, _, _, _, _], defers := [] } _
        refine wpAnyH_take (i := 16) (v := .agg #[.int .i64 u, .string d, .int .i64 t, .bool false, .bool b2, .bool b3]) rfl (by kernel_rfl) (by kernel_rfl) (by kernel_rfl) (fun _ _ _ h => h) (Or.inl ⟨rfl, by intro w hS; obtain ⟨⟨hh0, hh1, hh2, hh3, hh4, hh5⟩, _⟩ := hS.1.of6; go_simp⟩) hS ?_
        change wpAnyH _ _ _ _ _ _ _ { tmps := #[_, _, _, _, _, _, _, _, _, _, _, _, _, _, _, _, _, _, _, _, _, _, _, _, _, _, _, _, _, _, _, _, _, _, _, _, _, _, _, _, _, _, _, _, _, _, _, _, _, _, _, _, _, _, _, _, _, _, _, _, _, _, _, _, _, _, _, _, _, _, _, _, _, _, _, _, _, _, _, _, _, _, _, _, _, _, _, _, _], defers := [] } _
        refine wpAnyH_ready (rs := [15]) (by kernel_rfl) (by simp) ?_
        refine AllReadyH.cons (i := 15) rfl (fun K hK => ?zq5) AllReadyH.nil
        rw [if_pos (by first | rfl | kernel_rfl)]
        go_simp
        clear hS
        refine (N1.out _).mono ?_
        rintro e v12 ⟨rfl, hb⟩
        have B12 := Lib.hid (B11.out.trans (hb.mono B11.out.size))
        have Ks12 := Lib.hid (Ks11.out.below hb)
        have Kx12 := Lib.hid (Kx11.out.below hb)
        have Ky12 := Lib.hid (Ky11.out.below hb)
        clear hb B11 Ks11 Kx11 Ky11
        refine hK.out _ _ ⟨Ks12.out, Kx12.out⟩ (fun hS => ?_)
        clear hK K
        change wpAnyH _ _ _ _ _ _ _ { tmps := #[_, _, _, _, _, _, _, _, _, _, _, _, _, _, _, _, _, _, _, _, _, _, _, _, _, _, _, _, _, _, _, _, _, _, _, _, _, _, _, _, _, _, _, _, _, _, _, _, _, _, _, _, _, _, _, _, _, _, _, _, _, _, _, _, _, _, _, _, _, _, _, _, _, _, _, _, _, _, _, _, _, _, _, _, _, _, _, _, _], defers := [] } _
        refine wpAnyH_ready (rs := [17]) (by kernel_rfl) (by simp) ?_
        refine AllReadyH.cons (i := 17) rfl (fun K hK => ?zq6) AllReadyH.nil
        rw [if_pos (by first | rfl | kernel_rfl)]
        go_simp
        clear hS
        refine (N2.out _).mono ?_
        rintro e v13 ⟨rfl, hb⟩
        have B13 := Lib.hid (B12.out.trans (hb.mono B12.out.size))
        have Ks13 := Lib.hid (Ks12.out.below hb)
        have Kx13 := Lib.hid (Kx12.out.below hb)
        have Ky13 := Lib.hid (Ky12.out.below hb)
        clear hb B12 Ks12 Kx12 Ky12
        refine hK.out _ _ ⟨Ks13.out, Kx13.out⟩ (fun hS => ?_)
        clear hK K
        change wpAnyH _ _ _ _ _ _ _ { tmps := #[_, _, _, _, _, _, _, _, _, _, _, _, _, _, _, _, _, _, _, _, _, _, _, _, _, _, _, _, _, _, _, _, _, _, _, _, _, _, _, _, _, _, _, _, _, _, _, _, _, _, _, _, _, _, _, _, _, _, _, _, _, _, _, _, _, _, _, _, _, _, _, _, _, _, _, _, _, _, _, _, _, _, _, _, _, _, _, _, _], defers := [] } _
        refine wpAnyH_take (i := 18) (v := .bool true) rfl (by kernel_rfl) (by kernel_rfl) (by kernel_rfl) (fun _ _ _ h => h) (Or.inl ⟨rfl, by intro w hS; go_simp⟩) hS ?_
        change wpAnyH _ _ _ _ _ _ _ { tmps := #[_, _, _, _, _, _, _, _, _, _, _, _, _, _, _, _, _, _, _, _, _, _, _, _, _, _, _, _, _, _, _, _, _, _, _, _, _, _, _, _, _, _, _, _, _, _, _, _, _, _, _, _, _, _, _, _, _, _, _, _, _, _, _, _, _, _, _, _, _, _, _, _, _, _, _, _, _, _, _, _, _, _, _, _, _, _, _, _, _], defers := [] } _
        refine wpAnyH_take (i := 19) (v := .bool true) rfl (by kernel_rfl) (by kernel_rfl) (by kernel_rfl) (fun _ _ _ h => h) (Or.inl ⟨rfl, by intro w hS; go_simp⟩) hS ?_
        change wpAnyH _ _ _ _ _ _ _ { tmps := #[_, _, _, _, _, _, _, _, _, _, _, _, _, _, _, _, _, _, _, _, _, _, _, _, _, _, _, _, _, _, _, _, _, _, _, _, _, _, _, _, _, _, _, _, _, _, _, _, _, _, _, _, _, _, _, _, _, _, _, _, _, _, _, _, _, _, _, _, _, _, _, _, _, _, _, _, _, _, _, _, _, _, _, _, _, _, _, _, _], defers := [] } _
        refine wpAnyH_take (i := 20) (v := .bool true) rfl (by kernel_rfl) (by kernel_rfl) (by kernel_rfl) (fun _ _ _ h => h) (Or.inl ⟨rfl, by intro w hS; go_simp⟩) hS ?_
        change wpAnyH _ _ _ _ _ _ _ { tmps := #[_, _, _, _, _, _, _, _, _, _, _, _, _, _, _, _, _, _, _, _, _, _, _, _, _, _, _, _, _, _, _, _, _, _, _, _, _, _, _, _, _, _, _, _, _, _, _, _, _, _, _, _, _, _, _, _, _, _, _, _, _, _, _, _, _, _, _, _, _, _, _, _, _, _, _, _, _, _, _, _, _, _, _, _, _, _, _, _, _], defers := [] } _
        refine wpAnyH_take (i := 21) (v := .int .i64 n) rfl (by kernel_rfl) (by kernel_rfl) (by kernel_rfl) (fun _ _ _ h => h) (Or.inl ⟨rfl, by intro w hS; go_simp⟩) hS ?_
        change wpAnyH _ _ _ _ _ _ _ { tmps := #[_, _, _, _, _, _, _, _, _, _, _, _, _, _, _, _, _, _, _, _, _, _, _, _, _, _, _, _, _, _, _, _, _, _, _, _, _, _, _, _, _, _, _, _, _, _, _, _, _, _, _, _, _, _, _, _, _, _, _, _, _, _, _, _, _, _, _, _, _, _, _, _, _, _, _, _, _, _, _, _, _, _, _, _, _, _, _, _, _], defers := [] } _
        refine wpAnyH_take (i := 22) (v := .string x) rfl (by kernel_rfl) (by kernel_rfl) (by kernel_rfl) (fun _ _ _ h => h) (Or.inl ⟨rfl, by intro w hS; go_simp⟩) hS ?_
        change wpAnyH _ _ _ _ _ _ _ { tmps := #[_, _, _, _, _, _, _, _, _, _, _, _, _, _, _, _, _, _, _, _, _, _, _, _, _, _, _, _, _, _, _, _, _, _, _, _, _, _, _, _, _, _, _, _, _, _, _, _, _, _, _, _, _, _, _, _, _, _, _, _, _, _, _, _, _, _, _, _, _, _, _, _, _, _, _, _, _, _, _, _, _, _, _, _, _, _, _, _, _], defers := [] } _
        refine wpAnyH_take (i := 23) (v := .int .i64 x.size) rfl (by kernel_rfl) (by kernel_rfl) (by kernel_rfl) (fun _ _ _ h => h) (Or.inl ⟨rfl, by intro w hS; go_simp⟩) hS ?_
        change wpAnyH _ _ _ _ _ _ _ { tmps := #[_, _, _, _, _, _, _, _, _, _, _, _, _, _, _, _, _, _, _, _, _, _, _, _, _, _, _, _, _, _, _, _, _, _, _, _, _, _, _, _, _, _, _, _, _, _, _, _, _, _, _, _, _, _, _, _, _, _, _, _, _, _, _, _, _, _, _, _, _, _, _, _, _, _, _, _, _, _, _, _, _, _, _, _, _, _, _, _, _], defers := [] } _
        refine wpAnyH_take (i := 24) (v := .bool false) rfl (by kernel_rfl) (by kernel_rfl) (by kernel_rfl) (fun _ _ _ h => h) (Or.inl ⟨rfl, by intro w hS; go_simp⟩) hS ?_
        change wpAnyH _ _ _ _ _ _ _ { tmps := #[_, _, _, _, _, _, _, _, _, _, _, _, _, _, _, _, _, _, _, _, _, _, _, _, _, _, _, _, _, _, _, _, _, _, _, _, _, _, _, _, _, _, _, _, _, _, _, _, _, _, _, _, _, _, _, _, _, _, _, _, _, _, _, _, _, _, _, _, _, _, _, _, _, _, _, _, _, _, _, _, _, _, _, _, _, _, _, _, _], defers := [] } _
        refine wpAnyH_take (i := 25) (v := .bool false) rfl (by kernel_rfl) (by kernel_rfl) (by kernel_rfl) (fun _ _ _ h => h) (Or.inl ⟨rfl, by intro w hS; go_simp⟩) hS ?_
        change wpAnyH _ _ _ _ _ _ _ { tmps := #[_, _, _, _, _, _, _, _, _, _, _, _, _, _, _, _, _, _, _, _, _, _, _, _, _, _, _, _, _, _, _, _, _, _, _, _, _, _, _, _, _, _, _, _, _, _, _, _, _, _, _, _, _, _, _, _, _, _, _, _, _, _, _, _, _, _, _, _, _, _, _, _, _, _, _, _, _, _, _, _, _, _, _, _, _, _, _, _, _], defers := [] } _
        refine wpAnyH_take (i := 26) (v := .pointer (some ⟨g_x, 1, none⟩)) rfl (by kernel_rfl) (by kernel_rfl) (by kernel_rfl) (fun _ _ _ h => h) (Or.inl ⟨rfl, by intro w hS; go_simp⟩) hS ?_
        change wpAnyH _ _ _ _ _ _ _ { tmps := #[_, _, _, _, _, _, _, _, _, _, _, _, _, _, _, _, _, _, _, _, _, _, _, _, _, _, _, _, _, _, _, _, _, _, _, _, _, _, _, _, _, _, _, _, _, _, _, _, _, _, _, _, _, _, _, _, _, _, _, _, _, _, _, _, _, _, _, _, _, _, _, _, _, _, _, _, _, _, _, _, _, _, _, _, _, _, _, _, _], defers := [] } _
        refine wpAnyH_take (i := 27) (v := .string D) rfl (by kernel_rfl) (by kernel_rfl) (by kernel_rfl) (fun _ _ _ h => h) (Or.inl ⟨rfl, by intro w hS; obtain ⟨⟨hh0, hh1, hh2, hh3, hh4, hh5⟩, _⟩ := hS.2.of6; go_simp⟩) hS ?_
        change wpAnyH _ _ _ _ _ _ _ { tmps := #[_, _, _, _, _, _, _, _, _, _, _, _, _, _, _, _, _, _, _, _, _, _, _, _, _, _, _, _, _, _, _, _, _, _, _, _, _, _, _, _, _, _, _, _, _, _, _, _, _, _, _, _, _, _, _, _, _, _, _, _, _, _, _, _, _, _, _, _, _, _, _, _, _, _, _, _, _, _, _, _, _, _, _, _, _, _, _, _, _], defers := [] } _
        refine wpAnyH_take (i := 28) (v := .int .i64 48) rfl (by kernel_rfl) (by kernel_rfl) (by kernel_rfl) (fun _ _ _ h => h) (Or.inl ⟨rfl, by intro w hS; first | (go_simp; done) | (go_simp; omega)⟩) hS ?_
        change wpAnyH _ _ _ _ _ _ _ { tmps := #[_, _, _, _, _, _, _, _, _, _, _, _, _, _, _, _, _, _, _, _, _, _, _, _, _, _, _, _, _, _, _, _, _, _, _, _, _, _, _, _, _, _, _, _, _, _, _, _, _, _, _, _, _, _, _, _, _, _, _, _, _, _, _, _, _, _, _, _, _, _, _, _, _, _, _, _, _, _, _, _, _, _, _, _, _, _, _, _, _], defers := [] } _
        refine wpAnyH_take (i := 29) (v := .bool true) rfl (by kernel_rfl) (by kernel_rfl) (by kernel_rfl) (fun _ _ _ h => h) (Or.inl ⟨rfl, by intro w hS; go_simp⟩) hS ?_
        change wpAnyH _ _ _ _ _ _ _ { tmps := #[_, _, _, _, _, _, _, _, _, _, _, _, _, _, _, _, _, _, _, _, _, _, _, _, _, _, _, _, _, _, _, _, _, _, _, _, _, _, _, _, _, _, _, _, _, _, _, _, _, _, _, _, _, _, _, _, _, _, _, _, _, _, _, _, _, _, _, _, _, _, _, _, _, _, _, _, _, _, _, _, _, _, _, _, _, _, _, _, _], defers := [] } _
        refine wpAnyH_take (i := 30) (v := .bool true) rfl (by kernel_rfl) (by kernel_rfl) (by kernel_rfl) (fun _ _ _ h => h) (Or.inl ⟨rfl, by intro w hS; go_simp⟩) hS ?_
        change wpAnyH _ _ _ _ _ _ _ { tmps := #[_, _, _, _, _, _, _, _, _, _, _, _, _, _, _, _, _, _, _, _, _, _, _, _, _, _, _, _, _, _, _, _, _, _, _, _, _, _, _, _, _, _, _, _, _, _, _, _, _, _, _, _, _, _, _, _, _, _, _, _, _, _, _, _, _, _, _, _, _, _, _, _, _, _, _, _, _, _, _, _, _, _, _, _, _, _, _, _, _], defers := [] } _
        refine wpAnyH_take (i := 31) (v := .bool true) rfl (by kernel_rfl) (by kernel_rfl) (by kernel_rfl) (fun _ _ _ h => h) (Or.inl ⟨rfl, by intro w hS; go_simp⟩) hS ?_
        change wpAnyH _ _ _ _ _ _ _ { tmps := #[_, _, _, _, _, _, _, _, _, _, _, _, _, _, _, _, _, _, _, _, _, _, _, _, _, _, _, _, _, _, _, _, _, _, _, _, _, _, _, _, _, _, _, _, _, _, _, _, _, _, _, _, _, _, _, _, _, _, _, _, _, _, _, _, _, _, _, _, _, _, _, _, _, _, _, _, _, _, _, _, _, _, _, _, _, _, _, _, _], defers := [] } _
        refine wpAnyH_take (i := 32) (v := .bool true) rfl (by kernel_rfl) (by kernel_rfl) (by kernel_rfl) (fun _ _ _ h => h) (Or.inl ⟨rfl, by intro w hS; go_simp⟩) hS ?_
        change wpAnyH _ _ _ _ _ _ _ { tmps := #[_, _, _, _, _, _, _, _, _, _, _, _, _, _, _, _, _, _, _, _, _, _, _, _, _, _, _, _, _, _, _, _, _, _, _, _, _, _, _, _, _, _, _, _, _, _, _, _, _, _, _, _, _, _, _, _, _, _, _, _, _, _, _, _, _, _, _, _, _, _, _, _, _, _, _, _, _, _, _, _, _, _, _, _, _, _, _, _, _], defers := [] } _
        refine wpAnyH_done (by kernel_rfl) ?_ _
        refine NoPanic.normal ?_
        obtain ⟨⟨cs0, cs1, cs2, cs3, cs4, cs5⟩, ds0, ds1, ds2, ds3, ds4, ds5⟩ := Ks13.out.of6
        obtain ⟨⟨cx0, cx1, cx2, cx3, cx4, cx5⟩, dx0, dx1, dx2, dx3, dx4, dx5⟩ := Kx13.out.of6
        obtain ⟨⟨cy0, cy1, cy2, cy3, cy4, cy5⟩, dy0, dy1, dy2, dy3, dy4, dy5⟩ := Ky13.out.of6
        go_wp2_with fail
        go_ret
        exact ⟨rfl, B13.out⟩
  · have h1 : 1048576 < s0.length := by omega
    go_enter Try.func3, Try.ntmps3
    go_wp2_with fail
    refine (big_yes _ _ _ _ h1 hm).mono ?_
    rintro e w' ⟨rfl, rfl⟩
    go_wp2_with fail
    go_ret
    exact ⟨rfl, Below.refl _ _⟩
theorem own : ownKnob Try.prog.godebug = none := by kernel_rfl
theorem laidOut : laidOutB Try.prog = true := by kernel_rfl

set_option maxRecDepth 100000 in
theorem lifted (os : Os) (started : os.Started) (H : Type) (enc : TypeId × Value → H) :
    ReturnsInHanded {} Try.checked os 3 .any (Rows.fnSenderSpec.pre6 enc Try.prog Try.f3 Rows.fnSenderRow.domain false) (Rows.fnSenderSpec.post enc Try.prog Try.f3 false true false false) := by
  refine returnsInHanded_of_change (C := Try.checked) own started (by kernel_rfl) Try.func3
    (ChangeSpec.witness6 (enc := enc) (C := Try.checked) false ⟨#[], #[.slice none 0 0], []⟩ 8 (by kernel_rfl) (by kernel_rfl) (by kernel_rfl) (by kernel_rfl)) ?_
  intro W base args ds gs before hval0 hW _ _
  have hval : ∀ (j : Nat) t v, Try.f3.params[j]? = some t → args[j]? = some v → Value.okWide Try.prog W .any base t v := hval0
  have hW' := hW
  obtain ⟨p, q, hA0, hV, rfl, _, _⟩ := hW
  have hA : DataW.TrodAll enc Try.prog W 0 (fun _ => true) true Try.f3.params.toList args.toList ds p := hA0
  rw [Try.params3] at hA hval
  obtain ⟨v0, vs0, d0, ds0, p0, q0, hargs, rfl, rfl, h0, r0⟩ := trodAll_cons hA
  obtain ⟨rfl, rfl, rfl⟩ := trodAll_nil r0
  obtain rfl : args = #[v0] := by cases args; simp_all
  obtain ⟨rfl, rfl⟩ := trodVars_none hV
  obtain ⟨a0, len0, cap0, rfl⟩ := okWide_slice Try.underlying22 (hval 0 22 v0 rfl rfl)
  have k0 := h0
  have lt0 : ∀ x ∈ p0, x.block < W.heap.size := by obtain ⟨m, hm⟩ := k0; exact DataW.trod_lt m _ _ _ hm
  obtain ⟨s0, w0⟩ : ∃ bs : List UInt8, IsBytes W a0 len0 bs := by obtain ⟨fuel, hf⟩ := h0; exact openBytes Try.underlying22 Try.underlying5 (by kernel_rfl) hf
  clear hA0 hval0
  refine (walk a0 len0 cap0 s0 w0).mono fun e W' ⟨he, bel⟩ => ?_
  subst he
  exact ⟨_, rfl, _, _, _, [], _, [], hW', trodAll_mk1 (shut_bool Try.underlying4 _), (trodAll_cons_mk (Below.trod laidOut (by kernel_rfl) (of_decide_eq_true (by kernel_rfl)) k0 bel lt0) trodAll_mk0), rfl, bel.frame _, fun h => by cases h⟩

theorem over : Rows.fnSenderRow.holds Try.pinned (OpenSpec.ofChange Rows.fnSenderSpec) :=
  OpenClaim.holds_of_wide 3 Try.f3 rfl rfl rfl rfl rfl rfl rfl ⟨rfl, rfl, rfl, rfl, rfl⟩ rfl rfl rfl rfl rfl (by kernel_rfl) Try.func3 (by kernel_rfl)
    (of_decide_eq_true (by kernel_rfl)) (by unfold Func.isWrapper; first | (rw [if_pos (by decide +kernel)]; kernel_rfl) | (rw [if_neg (by decide +kernel)]; exact ⟨rfl, rfl⟩))
    (fun os started H enc _ => lifted os started H enc)

theorem proved : Rows.FnSenderSaid := over
#print axioms proved
end Go.Proofs.Ytkigkfedkjnkeaa.fnSender
