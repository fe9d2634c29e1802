/- ConnOk of the model in the states 1 to 4. Nothing here is a claim. -/
import Derived.Test.YtajekjjaaohbnaaConnFit
import Derived.Test.YtajekjjaaohbnaaBulk
import Derived.Test.YtajekjjaaohbnaaTupOk
import Derived.Test.YtajekjjaaohbnaaSndOk
import Derived.Test.YtajekjjaaohbnaaSndPos
import Derived.Test.YtajekjjaaohbnaaRcvOkS
import Derived.Test.YtajekjjaaohbnaaOptOk
import Derived.Test.YtajekjjaaohbnaaCurA
import Derived.Deep.QuietTactic
import Derived.BigQuiet
namespace Go.Proofs.Ytajekjjaaohbnaa
open Go.RowKit Go.Lib

set_option maxRecDepth 100000 in
set_option maxHeartbeats 16000000 in
theorem connOkS_1 (p q r u : Int) (d : ByteArray) (t : Int) (f g h : Bool) (n : Int) (y : ByteArray) (a : Option Addr) (cap : Nat) (rs : List HP) (fi : Int) (z : Bool) (wi mo m c : Int) (k s : Bool) (v x ti tr : Int) (hB : RB y rs) (w : World) (hrow : Row w w.heap.size a (hps rs)) (t1 : tupOk p q r = true) (t2 : sndOk ⟨u, d, t, f, g, h⟩ = true) (t3 : rcvOk ⟨n, y, rs, fi, z⟩ = true) (t4 : optOk ⟨m, c, k, s, v, x⟩ = true) (g1 : 0 ≤ wi) (g2 : wi ≤ mo) (g3 : mo ≤ 1073725440) (g4 : 0 ≤ tr) (g5 : tr ≤ 3) (g6 : 0 ≤ ti) (g7 : ti ≤ 3) :
    Calls Try.prog 27 #[.agg #[.int .i64 p, .int .i64 q, .int .i64 r, .int .i64 1, .int .i64 u, .string d, .int .i64 t, .bool f, .bool g, .bool h, .int .i64 n, .string y, .slice a rs.length cap, .int .i64 fi, .bool z, .int .i64 wi, .int .i64 mo, .int .i64 m, .int .i64 c, .bool k, .bool s, .int .i64 v, .int .i64 x, .int .i64 ti, .int .i64 tr]] w (SndB (cnFits 1 f h z) w) := by
  have HR := Lib.hid hrow
  clear hrow
  have T := fun w => tupOkS p q r w
  have S := fun w => sndOkS u d t f g h w
  have R := fun w (k : Row w w.heap.size a (hps rs)) => rcvOkS n fi z y a cap rs hB w k
  have O := fun w => optionsOkS m c k s v x w
  clear hB
  have I1 := fun w => l1In_s 1 1 8 w
  have I2 := fun w => l1In_s wi 0 mo w
  have I3 := fun w => l1In_s tr 0 3 w
  rw [t1] at T
  rw [t2] at S
  rw [t3] at R
  rw [t4] at O
  rw [decide_eq_true (show (1 : Int) ≤ 1 ∧ (1 : Int) ≤ 8 by omega)] at I1
  rw [decide_eq_true ⟨g1, g2⟩] at I2
  rw [decide_eq_true ⟨g4, g5⟩] at I3
  have I4 := fun w => l1In_s ti 0 3 w
  rw [decide_eq_true ⟨g6, g7⟩] at I4
  have FN := fun w => l19Fin_s 1 w
  rw [show finS 1 = false by decide] at FN
  have h3 : ¬ (1073725440 : Int) < mo := by omega
  clear t1 t2 t3 t4 g1 g2 g3 g4 g5 g6 g7
  replace T := Lib.hid T
  replace S := Lib.hid S
  replace R := Lib.hid R
  replace O := Lib.hid O
  replace I1 := Lib.hid I1
  replace I2 := Lib.hid I2
  replace I3 := Lib.hid I3
  replace I4 := Lib.hid I4
  replace FN := Lib.hid FN
  go_enter Try.func27, Try.ntmps27
  have B0 := Lib.hid (show Below w.heap.size w (w.alloc (.cells #[.int .i64 p, .int .i64 q, .int .i64 r, .int .i64 1, .int .i64 u, .string d, .int .i64 t, .bool f, .bool g, .bool h, .int .i64 n, .string y, .slice a rs.length cap, .int .i64 fi, .bool z, .int .i64 wi, .int .i64 mo, .int .i64 m, .int .i64 c, .bool k, .bool s, .int .i64 v, .int .i64 x, .int .i64 ti, .int .i64 tr] 36)) from ((Below.refl _ w).alloc (by simp) _))
  have KA0 := Lib.hid (show Blk (w.alloc (.cells #[.int .i64 p, .int .i64 q, .int .i64 r, .int .i64 1, .int .i64 u, .string d, .int .i64 t, .bool f, .bool g, .bool h, .int .i64 n, .string y, .slice a rs.length cap, .int .i64 fi, .bool z, .int .i64 wi, .int .i64 mo, .int .i64 m, .int .i64 c, .bool k, .bool s, .int .i64 v, .int .i64 x, .int .i64 ti, .int .i64 tr] 36)) (w.heap.size) [.int .i64 p, .int .i64 q, .int .i64 r, .int .i64 1, .int .i64 u, .string d, .int .i64 t, .bool f, .bool g, .bool h, .int .i64 n, .string y, .slice a rs.length cap, .int .i64 fi, .bool z, .int .i64 wi, .int .i64 mo, .int .i64 m, .int .i64 c, .bool k, .bool s, .int .i64 v, .int .i64 x, .int .i64 ti, .int .i64 tr] from Blk.new w [.int .i64 p, .int .i64 q, .int .i64 r, .int .i64 1, .int .i64 u, .string d, .int .i64 t, .bool f, .bool g, .bool h, .int .i64 n, .string y, .slice a rs.length cap, .int .i64 fi, .bool z, .int .i64 wi, .int .i64 mo, .int .i64 m, .int .i64 c, .bool k, .bool s, .int .i64 v, .int .i64 x, .int .i64 ti, .int .i64 tr] 36)
  go_wp2_with fail
  change Calls _ _ _ (w.alloc (.cells #[.int .i64 p, .int .i64 q, .int .i64 r, .int .i64 1, .int .i64 u, .string d, .int .i64 t, .bool f, .bool g, .bool h, .int .i64 n, .string y, .slice a rs.length cap, .int .i64 fi, .bool z, .int .i64 wi, .int .i64 mo, .int .i64 m, .int .i64 c, .bool k, .bool s, .int .i64 v, .int .i64 x, .int .i64 ti, .int .i64 tr] 36)) _
  generalize w.alloc (.cells #[.int .i64 p, .int .i64 q, .int .i64 r, .int .i64 1, .int .i64 u, .string d, .int .i64 t, .bool f, .bool g, .bool h, .int .i64 n, .string y, .slice a rs.length cap, .int .i64 fi, .bool z, .int .i64 wi, .int .i64 mo, .int .i64 m, .int .i64 c, .bool k, .bool s, .int .i64 v, .int .i64 x, .int .i64 ti, .int .i64 tr] 36) = v0 at B0 KA0 ⊢
  generalize w.heap.size = g_A at KA0 ⊢
  refine (T.out _).mono ?_
  rintro e v1 ⟨rfl, hb⟩
  have B1 := Lib.hid (B0.out.trans (hb.mono B0.out.size))
  have KA1 := Lib.hid (KA0.out.below hb)
  clear hb B0 KA0
  have cA4 : v1.cell? ⟨g_A, 4, none⟩ = some (.int .i64 u) := KA1.out.cell 4 _ rfl
  have cA5 : v1.cell? ⟨g_A, 5, none⟩ = some (.string d) := KA1.out.cell 5 _ rfl
  have cA6 : v1.cell? ⟨g_A, 6, none⟩ = some (.int .i64 t) := KA1.out.cell 6 _ rfl
  have cA7 : v1.cell? ⟨g_A, 7, none⟩ = some (.bool f) := KA1.out.cell 7 _ rfl
  have cA8 : v1.cell? ⟨g_A, 8, none⟩ = some (.bool g) := KA1.out.cell 8 _ rfl
  have cA9 : v1.cell? ⟨g_A, 9, none⟩ = some (.bool h) := KA1.out.cell 9 _ rfl
  go_wp2_with fail
  clear cA4 cA5 cA6 cA7 cA8 cA9
  refine (S.out _).mono ?_
  rintro e v2 ⟨rfl, hb⟩
  have B2 := Lib.hid (B1.out.trans (hb.mono B1.out.size))
  have KA2 := Lib.hid (KA1.out.below hb)
  clear hb B1 KA1
  have cA10 : v2.cell? ⟨g_A, 10, none⟩ = some (.int .i64 n) := KA2.out.cell 10 _ rfl
  have cA11 : v2.cell? ⟨g_A, 11, none⟩ = some (.string y) := KA2.out.cell 11 _ rfl
  have cA12 : v2.cell? ⟨g_A, 12, none⟩ = some (.slice a rs.length cap) := KA2.out.cell 12 _ rfl
  have cA13 : v2.cell? ⟨g_A, 13, none⟩ = some (.int .i64 fi) := KA2.out.cell 13 _ rfl
  have cA14 : v2.cell? ⟨g_A, 14, none⟩ = some (.bool z) := KA2.out.cell 14 _ rfl
  go_wp2_with fail
  clear cA10 cA11 cA12 cA13 cA14
  refine (R.out _ ((HR.out.below B2.out).mono B2.out.size)).mono ?_
  rintro e v3 ⟨rfl, hb⟩
  have B3 := Lib.hid (B2.out.trans (hb.mono B2.out.size))
  have KA3 := Lib.hid (KA2.out.below hb)
  clear hb B2 KA2
  have cA17 : v3.cell? ⟨g_A, 17, none⟩ = some (.int .i64 m) := KA3.out.cell 17 _ rfl
  have cA18 : v3.cell? ⟨g_A, 18, none⟩ = some (.int .i64 c) := KA3.out.cell 18 _ rfl
  have cA19 : v3.cell? ⟨g_A, 19, none⟩ = some (.bool k) := KA3.out.cell 19 _ rfl
  have cA20 : v3.cell? ⟨g_A, 20, none⟩ = some (.bool s) := KA3.out.cell 20 _ rfl
  have cA21 : v3.cell? ⟨g_A, 21, none⟩ = some (.int .i64 v) := KA3.out.cell 21 _ rfl
  have cA22 : v3.cell? ⟨g_A, 22, none⟩ = some (.int .i64 x) := KA3.out.cell 22 _ rfl
  go_wp2_with fail
  clear cA17 cA18 cA19 cA20 cA21 cA22
  refine (O.out _).mono ?_
  rintro e v4 ⟨rfl, hb⟩
  have B4 := Lib.hid (B3.out.trans (hb.mono B3.out.size))
  have KA4 := Lib.hid (KA3.out.below hb)
  clear hb B3 KA3
  have cA3 : v4.cell? ⟨g_A, 3, none⟩ = some (.int .i64 1) := KA4.out.cell 3 _ rfl
  go_wp2_with fail
  clear cA3
  refine (I1.out _).mono ?_
  rintro e v5 ⟨rfl, hb⟩
  have B5 := Lib.hid (B4.out.trans (hb.mono B4.out.size))
  have KA5 := Lib.hid (KA4.out.below hb)
  clear hb B4 KA4
  have cA15 : v5.cell? ⟨g_A, 15, none⟩ = some (.int .i64 wi) := KA5.out.cell 15 _ rfl
  have cA16 : v5.cell? ⟨g_A, 16, none⟩ = some (.int .i64 mo) := KA5.out.cell 16 _ rfl
  go_wp2_with fail
  clear cA15 cA16
  refine (I2.out _).mono ?_
  rintro e v6 ⟨rfl, hb⟩
  have B6 := Lib.hid (B5.out.trans (hb.mono B5.out.size))
  have KA6 := Lib.hid (KA5.out.below hb)
  clear hb B5 KA5
  have cA16 : v6.cell? ⟨g_A, 16, none⟩ = some (.int .i64 mo) := KA6.out.cell 16 _ rfl
  have cA24 : v6.cell? ⟨g_A, 24, none⟩ = some (.int .i64 tr) := KA6.out.cell 24 _ rfl
  go_wp2_with fail
  clear cA16 cA24
  refine (I3.out _).mono ?_
  rintro e v7 ⟨rfl, hb⟩
  have B7 := Lib.hid (B6.out.trans (hb.mono B6.out.size))
  have KA7 := Lib.hid (KA6.out.below hb)
  clear hb B6 KA6
  have cA3 : v7.cell? ⟨g_A, 3, none⟩ = some (.int .i64 1) := KA7.out.cell 3 _ rfl
  have cA23 : v7.cell? ⟨g_A, 23, none⟩ = some (.int .i64 ti) := KA7.out.cell 23 _ rfl
  go_wp2_with fail
  clear cA3 cA23
  refine (I4.out _).mono ?_
  rintro e v8 ⟨rfl, hb⟩
  have B8 := Lib.hid (B7.out.trans (hb.mono B7.out.size))
  have KA8 := Lib.hid (KA7.out.below hb)
  clear hb B7 KA7
  have cA3 : v8.cell? ⟨g_A, 3, none⟩ = some (.int .i64 1) := KA8.out.cell 3 _ rfl
  have cA7 : v8.cell? ⟨g_A, 7, none⟩ = some (.bool f) := KA8.out.cell 7 _ rfl
  have cA9 : v8.cell? ⟨g_A, 9, none⟩ = some (.bool h) := KA8.out.cell 9 _ rfl
  have cA14 : v8.cell? ⟨g_A, 14, none⟩ = some (.bool z) := KA8.out.cell 14 _ rfl
  go_wp2_with fail
  cases f <;> cases h
  all_goals
    go_quiet (first | (go_at_call 71; refine Calls.quiet_of_same (FN.out _)))
    go_wp2_with fail
    go_ret
    exact ⟨ret_bool (by cases z <;> rfl), below_drewN B8.out _⟩

set_option maxRecDepth 100000 in
set_option maxHeartbeats 16000000 in
theorem connOkS_2 (p q r u : Int) (d : ByteArray) (t : Int) (f g h : Bool) (n : Int) (y : ByteArray) (a : Option Addr) (cap : Nat) (rs : List HP) (fi : Int) (z : Bool) (wi mo m c : Int) (k s : Bool) (v x ti tr : Int) (hB : RB y rs) (w : World) (hrow : Row w w.heap.size a (hps rs)) (t1 : tupOk p q r = true) (t2 : sndOk ⟨u, d, t, f, g, h⟩ = true) (t3 : rcvOk ⟨n, y, rs, fi, z⟩ = true) (t4 : optOk ⟨m, c, k, s, v, x⟩ = true) (g1 : 0 ≤ wi) (g2 : wi ≤ mo) (g3 : mo ≤ 1073725440) (g4 : 0 ≤ tr) (g5 : tr ≤ 3) (g6 : 0 ≤ ti) (g7 : ti ≤ 3) :
    Calls Try.prog 27 #[.agg #[.int .i64 p, .int .i64 q, .int .i64 r, .int .i64 2, .int .i64 u, .string d, .int .i64 t, .bool f, .bool g, .bool h, .int .i64 n, .string y, .slice a rs.length cap, .int .i64 fi, .bool z, .int .i64 wi, .int .i64 mo, .int .i64 m, .int .i64 c, .bool k, .bool s, .int .i64 v, .int .i64 x, .int .i64 ti, .int .i64 tr]] w (SndB (cnFits 2 f h z) w) := by
  have HR := Lib.hid hrow
  clear hrow
  have T := fun w => tupOkS p q r w
  have S := fun w => sndOkS u d t f g h w
  have R := fun w (k : Row w w.heap.size a (hps rs)) => rcvOkS n fi z y a cap rs hB w k
  have O := fun w => optionsOkS m c k s v x w
  clear hB
  have I1 := fun w => l1In_s 2 1 8 w
  have I2 := fun w => l1In_s wi 0 mo w
  have I3 := fun w => l1In_s tr 0 3 w
  rw [t1] at T
  rw [t2] at S
  rw [t3] at R
  rw [t4] at O
  rw [decide_eq_true (show (1 : Int) ≤ 2 ∧ (2 : Int) ≤ 8 by omega)] at I1
  rw [decide_eq_true ⟨g1, g2⟩] at I2
  rw [decide_eq_true ⟨g4, g5⟩] at I3
  have I4 := fun w => l1In_s ti 0 3 w
  rw [decide_eq_true ⟨g6, g7⟩] at I4
  have FN := fun w => l19Fin_s 2 w
  rw [show finS 2 = true by decide] at FN
  have h3 : ¬ (1073725440 : Int) < mo := by omega
  clear t1 t2 t3 t4 g1 g2 g3 g4 g5 g6 g7
  replace T := Lib.hid T
  replace S := Lib.hid S
  replace R := Lib.hid R
  replace O := Lib.hid O
  replace I1 := Lib.hid I1
  replace I2 := Lib.hid I2
  replace I3 := Lib.hid I3
  replace I4 := Lib.hid I4
  replace FN := Lib.hid FN
  go_enter Try.func27, Try.ntmps27
  have B0 := Lib.hid (show Below w.heap.size w (w.alloc (.cells #[.int .i64 p, .int .i64 q, .int .i64 r, .int .i64 2, .int .i64 u, .string d, .int .i64 t, .bool f, .bool g, .bool h, .int .i64 n, .string y, .slice a rs.length cap, .int .i64 fi, .bool z, .int .i64 wi, .int .i64 mo, .int .i64 m, .int .i64 c, .bool k, .bool s, .int .i64 v, .int .i64 x, .int .i64 ti, .int .i64 tr] 36)) from ((Below.refl _ w).alloc (by simp) _))
  have KA0 := Lib.hid (show Blk (w.alloc (.cells #[.int .i64 p, .int .i64 q, .int .i64 r, .int .i64 2, .int .i64 u, .string d, .int .i64 t, .bool f, .bool g, .bool h, .int .i64 n, .string y, .slice a rs.length cap, .int .i64 fi, .bool z, .int .i64 wi, .int .i64 mo, .int .i64 m, .int .i64 c, .bool k, .bool s, .int .i64 v, .int .i64 x, .int .i64 ti, .int .i64 tr] 36)) (w.heap.size) [.int .i64 p, .int .i64 q, .int .i64 r, .int .i64 2, .int .i64 u, .string d, .int .i64 t, .bool f, .bool g, .bool h, .int .i64 n, .string y, .slice a rs.length cap, .int .i64 fi, .bool z, .int .i64 wi, .int .i64 mo, .int .i64 m, .int .i64 c, .bool k, .bool s, .int .i64 v, .int .i64 x, .int .i64 ti, .int .i64 tr] from Blk.new w [.int .i64 p, .int .i64 q, .int .i64 r, .int .i64 2, .int .i64 u, .string d, .int .i64 t, .bool f, .bool g, .bool h, .int .i64 n, .string y, .slice a rs.length cap, .int .i64 fi, .bool z, .int .i64 wi, .int .i64 mo, .int .i64 m, .int .i64 c, .bool k, .bool s, .int .i64 v, .int .i64 x, .int .i64 ti, .int .i64 tr] 36)
  go_wp2_with fail
  change Calls _ _ _ (w.alloc (.cells #[.int .i64 p, .int .i64 q, .int .i64 r, .int .i64 2, .int .i64 u, .string d, .int .i64 t, .bool f, .bool g, .bool h, .int .i64 n, .string y, .slice a rs.length cap, .int .i64 fi, .bool z, .int .i64 wi, .int .i64 mo, .int .i64 m, .int .i64 c, .bool k, .bool s, .int .i64 v, .int .i64 x, .int .i64 ti, .int .i64 tr] 36)) _
  generalize w.alloc (.cells #[.int .i64 p, .int .i64 q, .int .i64 r, .int .i64 2, .int .i64 u, .string d, .int .i64 t, .bool f, .bool g, .bool h, .int .i64 n, .string y, .slice a rs.length cap, .int .i64 fi, .bool z, .int .i64 wi, .int .i64 mo, .int .i64 m, .int .i64 c, .bool k, .bool s, .int .i64 v, .int .i64 x, .int .i64 ti, .int .i64 tr] 36) = v0 at B0 KA0 ⊢
  generalize w.heap.size = g_A at KA0 ⊢
  refine (T.out _).mono ?_
  rintro e v1 ⟨rfl, hb⟩
  have B1 := Lib.hid (B0.out.trans (hb.mono B0.out.size))
  have KA1 := Lib.hid (KA0.out.below hb)
  clear hb B0 KA0
  have cA4 : v1.cell? ⟨g_A, 4, none⟩ = some (.int .i64 u) := KA1.out.cell 4 _ rfl
  have cA5 : v1.cell? ⟨g_A, 5, none⟩ = some (.string d) := KA1.out.cell 5 _ rfl
  have cA6 : v1.cell? ⟨g_A, 6, none⟩ = some (.int .i64 t) := KA1.out.cell 6 _ rfl
  have cA7 : v1.cell? ⟨g_A, 7, none⟩ = some (.bool f) := KA1.out.cell 7 _ rfl
  have cA8 : v1.cell? ⟨g_A, 8, none⟩ = some (.bool g) := KA1.out.cell 8 _ rfl
  have cA9 : v1.cell? ⟨g_A, 9, none⟩ = some (.bool h) := KA1.out.cell 9 _ rfl
  go_wp2_with fail
  clear cA4 cA5 cA6 cA7 cA8 cA9
  refine (S.out _).mono ?_
  rintro e v2 ⟨rfl, hb⟩
  have B2 := Lib.hid (B1.out.trans (hb.mono B1.out.size))
  have KA2 := Lib.hid (KA1.out.below hb)
  clear hb B1 KA1
  have cA10 : v2.cell? ⟨g_A, 10, none⟩ = some (.int .i64 n) := KA2.out.cell 10 _ rfl
  have cA11 : v2.cell? ⟨g_A, 11, none⟩ = some (.string y) := KA2.out.cell 11 _ rfl
  have cA12 : v2.cell? ⟨g_A, 12, none⟩ = some (.slice a rs.length cap) := KA2.out.cell 12 _ rfl
  have cA13 : v2.cell? ⟨g_A, 13, none⟩ = some (.int .i64 fi) := KA2.out.cell 13 _ rfl
  have cA14 : v2.cell? ⟨g_A, 14, none⟩ = some (.bool z) := KA2.out.cell 14 _ rfl
  go_wp2_with fail
  clear cA10 cA11 cA12 cA13 cA14
  refine (R.out _ ((HR.out.below B2.out).mono B2.out.size)).mono ?_
  rintro e v3 ⟨rfl, hb⟩
  have B3 := Lib.hid (B2.out.trans (hb.mono B2.out.size))
  have KA3 := Lib.hid (KA2.out.below hb)
  clear hb B2 KA2
  have cA17 : v3.cell? ⟨g_A, 17, none⟩ = some (.int .i64 m) := KA3.out.cell 17 _ rfl
  have cA18 : v3.cell? ⟨g_A, 18, none⟩ = some (.int .i64 c) := KA3.out.cell 18 _ rfl
  have cA19 : v3.cell? ⟨g_A, 19, none⟩ = some (.bool k) := KA3.out.cell 19 _ rfl
  have cA20 : v3.cell? ⟨g_A, 20, none⟩ = some (.bool s) := KA3.out.cell 20 _ rfl
  have cA21 : v3.cell? ⟨g_A, 21, none⟩ = some (.int .i64 v) := KA3.out.cell 21 _ rfl
  have cA22 : v3.cell? ⟨g_A, 22, none⟩ = some (.int .i64 x) := KA3.out.cell 22 _ rfl
  go_wp2_with fail
  clear cA17 cA18 cA19 cA20 cA21 cA22
  refine (O.out _).mono ?_
  rintro e v4 ⟨rfl, hb⟩
  have B4 := Lib.hid (B3.out.trans (hb.mono B3.out.size))
  have KA4 := Lib.hid (KA3.out.below hb)
  clear hb B3 KA3
  have cA3 : v4.cell? ⟨g_A, 3, none⟩ = some (.int .i64 2) := KA4.out.cell 3 _ rfl
  go_wp2_with fail
  clear cA3
  refine (I1.out _).mono ?_
  rintro e v5 ⟨rfl, hb⟩
  have B5 := Lib.hid (B4.out.trans (hb.mono B4.out.size))
  have KA5 := Lib.hid (KA4.out.below hb)
  clear hb B4 KA4
  have cA15 : v5.cell? ⟨g_A, 15, none⟩ = some (.int .i64 wi) := KA5.out.cell 15 _ rfl
  have cA16 : v5.cell? ⟨g_A, 16, none⟩ = some (.int .i64 mo) := KA5.out.cell 16 _ rfl
  go_wp2_with fail
  clear cA15 cA16
  refine (I2.out _).mono ?_
  rintro e v6 ⟨rfl, hb⟩
  have B6 := Lib.hid (B5.out.trans (hb.mono B5.out.size))
  have KA6 := Lib.hid (KA5.out.below hb)
  clear hb B5 KA5
  have cA16 : v6.cell? ⟨g_A, 16, none⟩ = some (.int .i64 mo) := KA6.out.cell 16 _ rfl
  have cA24 : v6.cell? ⟨g_A, 24, none⟩ = some (.int .i64 tr) := KA6.out.cell 24 _ rfl
  go_wp2_with fail
  clear cA16 cA24
  refine (I3.out _).mono ?_
  rintro e v7 ⟨rfl, hb⟩
  have B7 := Lib.hid (B6.out.trans (hb.mono B6.out.size))
  have KA7 := Lib.hid (KA6.out.below hb)
  clear hb B6 KA6
  have cA3 : v7.cell? ⟨g_A, 3, none⟩ = some (.int .i64 2) := KA7.out.cell 3 _ rfl
  have cA23 : v7.cell? ⟨g_A, 23, none⟩ = some (.int .i64 ti) := KA7.out.cell 23 _ rfl
  go_wp2_with fail
  clear cA3 cA23
  refine (I4.out _).mono ?_
  rintro e v8 ⟨rfl, hb⟩
  have B8 := Lib.hid (B7.out.trans (hb.mono B7.out.size))
  have KA8 := Lib.hid (KA7.out.below hb)
  clear hb B7 KA7
  have cA3 : v8.cell? ⟨g_A, 3, none⟩ = some (.int .i64 2) := KA8.out.cell 3 _ rfl
  have cA7 : v8.cell? ⟨g_A, 7, none⟩ = some (.bool f) := KA8.out.cell 7 _ rfl
  have cA9 : v8.cell? ⟨g_A, 9, none⟩ = some (.bool h) := KA8.out.cell 9 _ rfl
  have cA14 : v8.cell? ⟨g_A, 14, none⟩ = some (.bool z) := KA8.out.cell 14 _ rfl
  go_wp2_with fail
  cases f <;> cases h
  all_goals
    go_quiet (first | (go_at_call 71; refine Calls.quiet_of_same (FN.out _)))
    go_wp2_with fail
    go_ret
    exact ⟨ret_bool (by cases z <;> rfl), below_drewN B8.out _⟩

set_option maxRecDepth 100000 in
set_option maxHeartbeats 16000000 in
theorem connOkS_3 (p q r u : Int) (d : ByteArray) (t : Int) (f g h : Bool) (n : Int) (y : ByteArray) (a : Option Addr) (cap : Nat) (rs : List HP) (fi : Int) (z : Bool) (wi mo m c : Int) (k s : Bool) (v x ti tr : Int) (hB : RB y rs) (w : World) (hrow : Row w w.heap.size a (hps rs)) (t1 : tupOk p q r = true) (t2 : sndOk ⟨u, d, t, f, g, h⟩ = true) (t3 : rcvOk ⟨n, y, rs, fi, z⟩ = true) (t4 : optOk ⟨m, c, k, s, v, x⟩ = true) (g1 : 0 ≤ wi) (g2 : wi ≤ mo) (g3 : mo ≤ 1073725440) (g4 : 0 ≤ tr) (g5 : tr ≤ 3) (g6 : 0 ≤ ti) (g7 : ti ≤ 3) :
    Calls Try.prog 27 #[.agg #[.int .i64 p, .int .i64 q, .int .i64 r, .int .i64 3, .int .i64 u, .string d, .int .i64 t, .bool f, .bool g, .bool h, .int .i64 n, .string y, .slice a rs.length cap, .int .i64 fi, .bool z, .int .i64 wi, .int .i64 mo, .int .i64 m, .int .i64 c, .bool k, .bool s, .int .i64 v, .int .i64 x, .int .i64 ti, .int .i64 tr]] w (SndB (cnFits 3 f h z) w) := by
  have HR := Lib.hid hrow
  clear hrow
  have T := fun w => tupOkS p q r w
  have S := fun w => sndOkS u d t f g h w
  have R := fun w (k : Row w w.heap.size a (hps rs)) => rcvOkS n fi z y a cap rs hB w k
  have O := fun w => optionsOkS m c k s v x w
  clear hB
  have I1 := fun w => l1In_s 3 1 8 w
  have I2 := fun w => l1In_s wi 0 mo w
  have I3 := fun w => l1In_s tr 0 3 w
  rw [t1] at T
  rw [t2] at S
  rw [t3] at R
  rw [t4] at O
  rw [decide_eq_true (show (1 : Int) ≤ 3 ∧ (3 : Int) ≤ 8 by omega)] at I1
  rw [decide_eq_true ⟨g1, g2⟩] at I2
  rw [decide_eq_true ⟨g4, g5⟩] at I3
  have I4 := fun w => l1In_s ti 0 3 w
  rw [decide_eq_true ⟨g6, g7⟩] at I4
  have FN := fun w => l19Fin_s 3 w
  rw [show finS 3 = true by decide] at FN
  have h3 : ¬ (1073725440 : Int) < mo := by omega
  clear t1 t2 t3 t4 g1 g2 g3 g4 g5 g6 g7
  replace T := Lib.hid T
  replace S := Lib.hid S
  replace R := Lib.hid R
  replace O := Lib.hid O
  replace I1 := Lib.hid I1
  replace I2 := Lib.hid I2
  replace I3 := Lib.hid I3
  replace I4 := Lib.hid I4
  replace FN := Lib.hid FN
  go_enter Try.func27, Try.ntmps27
  have B0 := Lib.hid (show Below w.heap.size w (w.alloc (.cells #[.int .i64 p, .int .i64 q, .int .i64 r, .int .i64 3, .int .i64 u, .string d, .int .i64 t, .bool f, .bool g, .bool h, .int .i64 n, .string y, .slice a rs.length cap, .int .i64 fi, .bool z, .int .i64 wi, .int .i64 mo, .int .i64 m, .int .i64 c, .bool k, .bool s, .int .i64 v, .int .i64 x, .int .i64 ti, .int .i64 tr] 36)) from ((Below.refl _ w).alloc (by simp) _))
  have KA0 := Lib.hid (show Blk (w.alloc (.cells #[.int .i64 p, .int .i64 q, .int .i64 r, .int .i64 3, .int .i64 u, .string d, .int .i64 t, .bool f, .bool g, .bool h, .int .i64 n, .string y, .slice a rs.length cap, .int .i64 fi, .bool z, .int .i64 wi, .int .i64 mo, .int .i64 m, .int .i64 c, .bool k, .bool s, .int .i64 v, .int .i64 x, .int .i64 ti, .int .i64 tr] 36)) (w.heap.size) [.int .i64 p, .int .i64 q, .int .i64 r, .int .i64 3, .int .i64 u, .string d, .int .i64 t, .bool f, .bool g, .bool h, .int .i64 n, .string y, .slice a rs.length cap, .int .i64 fi, .bool z, .int .i64 wi, .int .i64 mo, .int .i64 m, .int .i64 c, .bool k, .bool s, .int .i64 v, .int .i64 x, .int .i64 ti, .int .i64 tr] from Blk.new w [.int .i64 p, .int .i64 q, .int .i64 r, .int .i64 3, .int .i64 u, .string d, .int .i64 t, .bool f, .bool g, .bool h, .int .i64 n, .string y, .slice a rs.length cap, .int .i64 fi, .bool z, .int .i64 wi, .int .i64 mo, .int .i64 m, .int .i64 c, .bool k, .bool s, .int .i64 v, .int .i64 x, .int .i64 ti, .int .i64 tr] 36)
  go_wp2_with fail
  change Calls _ _ _ (w.alloc (.cells #[.int .i64 p, .int .i64 q, .int .i64 r, .int .i64 3, .int .i64 u, .string d, .int .i64 t, .bool f, .bool g, .bool h, .int .i64 n, .string y, .slice a rs.length cap, .int .i64 fi, .bool z, .int .i64 wi, .int .i64 mo, .int .i64 m, .int .i64 c, .bool k, .bool s, .int .i64 v, .int .i64 x, .int .i64 ti, .int .i64 tr] 36)) _
  generalize w.alloc (.cells #[.int .i64 p, .int .i64 q, .int .i64 r, .int .i64 3, .int .i64 u, .string d, .int .i64 t, .bool f, .bool g, .bool h, .int .i64 n, .string y, .slice a rs.length cap, .int .i64 fi, .bool z, .int .i64 wi, .int .i64 mo, .int .i64 m, .int .i64 c, .bool k, .bool s, .int .i64 v, .int .i64 x, .int .i64 ti, .int .i64 tr] 36) = v0 at B0 KA0 ⊢
  generalize w.heap.size = g_A at KA0 ⊢
  refine (T.out _).mono ?_
  rintro e v1 ⟨rfl, hb⟩
  have B1 := Lib.hid (B0.out.trans (hb.mono B0.out.size))
  have KA1 := Lib.hid (KA0.out.below hb)
  clear hb B0 KA0
  have cA4 : v1.cell? ⟨g_A, 4, none⟩ = some (.int .i64 u) := KA1.out.cell 4 _ rfl
  have cA5 : v1.cell? ⟨g_A, 5, none⟩ = some (.string d) := KA1.out.cell 5 _ rfl
  have cA6 : v1.cell? ⟨g_A, 6, none⟩ = some (.int .i64 t) := KA1.out.cell 6 _ rfl
  have cA7 : v1.cell? ⟨g_A, 7, none⟩ = some (.bool f) := KA1.out.cell 7 _ rfl
  have cA8 : v1.cell? ⟨g_A, 8, none⟩ = some (.bool g) := KA1.out.cell 8 _ rfl
  have cA9 : v1.cell? ⟨g_A, 9, none⟩ = some (.bool h) := KA1.out.cell 9 _ rfl
  go_wp2_with fail
  clear cA4 cA5 cA6 cA7 cA8 cA9
  refine (S.out _).mono ?_
  rintro e v2 ⟨rfl, hb⟩
  have B2 := Lib.hid (B1.out.trans (hb.mono B1.out.size))
  have KA2 := Lib.hid (KA1.out.below hb)
  clear hb B1 KA1
  have cA10 : v2.cell? ⟨g_A, 10, none⟩ = some (.int .i64 n) := KA2.out.cell 10 _ rfl
  have cA11 : v2.cell? ⟨g_A, 11, none⟩ = some (.string y) := KA2.out.cell 11 _ rfl
  have cA12 : v2.cell? ⟨g_A, 12, none⟩ = some (.slice a rs.length cap) := KA2.out.cell 12 _ rfl
  have cA13 : v2.cell? ⟨g_A, 13, none⟩ = some (.int .i64 fi) := KA2.out.cell 13 _ rfl
  have cA14 : v2.cell? ⟨g_A, 14, none⟩ = some (.bool z) := KA2.out.cell 14 _ rfl
  go_wp2_with fail
  clear cA10 cA11 cA12 cA13 cA14
  refine (R.out _ ((HR.out.below B2.out).mono B2.out.size)).mono ?_
  rintro e v3 ⟨rfl, hb⟩
  have B3 := Lib.hid (B2.out.trans (hb.mono B2.out.size))
  have KA3 := Lib.hid (KA2.out.below hb)
  clear hb B2 KA2
  have cA17 : v3.cell? ⟨g_A, 17, none⟩ = some (.int .i64 m) := KA3.out.cell 17 _ rfl
  have cA18 : v3.cell? ⟨g_A, 18, none⟩ = some (.int .i64 c) := KA3.out.cell 18 _ rfl
  have cA19 : v3.cell? ⟨g_A, 19, none⟩ = some (.bool k) := KA3.out.cell 19 _ rfl
  have cA20 : v3.cell? ⟨g_A, 20, none⟩ = some (.bool s) := KA3.out.cell 20 _ rfl
  have cA21 : v3.cell? ⟨g_A, 21, none⟩ = some (.int .i64 v) := KA3.out.cell 21 _ rfl
  have cA22 : v3.cell? ⟨g_A, 22, none⟩ = some (.int .i64 x) := KA3.out.cell 22 _ rfl
  go_wp2_with fail
  clear cA17 cA18 cA19 cA20 cA21 cA22
  refine (O.out _).mono ?_
  rintro e v4 ⟨rfl, hb⟩
  have B4 := Lib.hid (B3.out.trans (hb.mono B3.out.size))
  have KA4 := Lib.hid (KA3.out.below hb)
  clear hb B3 KA3
  have cA3 : v4.cell? ⟨g_A, 3, none⟩ = some (.int .i64 3) := KA4.out.cell 3 _ rfl
  go_wp2_with fail
  clear cA3
  refine (I1.out _).mono ?_
  rintro e v5 ⟨rfl, hb⟩
  have B5 := Lib.hid (B4.out.trans (hb.mono B4.out.size))
  have KA5 := Lib.hid (KA4.out.below hb)
  clear hb B4 KA4
  have cA15 : v5.cell? ⟨g_A, 15, none⟩ = some (.int .i64 wi) := KA5.out.cell 15 _ rfl
  have cA16 : v5.cell? ⟨g_A, 16, none⟩ = some (.int .i64 mo) := KA5.out.cell 16 _ rfl
  go_wp2_with fail
  clear cA15 cA16
  refine (I2.out _).mono ?_
  rintro e v6 ⟨rfl, hb⟩
  have B6 := Lib.hid (B5.out.trans (hb.mono B5.out.size))
  have KA6 := Lib.hid (KA5.out.below hb)
  clear hb B5 KA5
  have cA16 : v6.cell? ⟨g_A, 16, none⟩ = some (.int .i64 mo) := KA6.out.cell 16 _ rfl
  have cA24 : v6.cell? ⟨g_A, 24, none⟩ = some (.int .i64 tr) := KA6.out.cell 24 _ rfl
  go_wp2_with fail
  clear cA16 cA24
  refine (I3.out _).mono ?_
  rintro e v7 ⟨rfl, hb⟩
  have B7 := Lib.hid (B6.out.trans (hb.mono B6.out.size))
  have KA7 := Lib.hid (KA6.out.below hb)
  clear hb B6 KA6
  have cA3 : v7.cell? ⟨g_A, 3, none⟩ = some (.int .i64 3) := KA7.out.cell 3 _ rfl
  have cA23 : v7.cell? ⟨g_A, 23, none⟩ = some (.int .i64 ti) := KA7.out.cell 23 _ rfl
  go_wp2_with fail
  clear cA3 cA23
  refine (I4.out _).mono ?_
  rintro e v8 ⟨rfl, hb⟩
  have B8 := Lib.hid (B7.out.trans (hb.mono B7.out.size))
  have KA8 := Lib.hid (KA7.out.below hb)
  clear hb B7 KA7
  have cA3 : v8.cell? ⟨g_A, 3, none⟩ = some (.int .i64 3) := KA8.out.cell 3 _ rfl
  have cA7 : v8.cell? ⟨g_A, 7, none⟩ = some (.bool f) := KA8.out.cell 7 _ rfl
  have cA9 : v8.cell? ⟨g_A, 9, none⟩ = some (.bool h) := KA8.out.cell 9 _ rfl
  have cA14 : v8.cell? ⟨g_A, 14, none⟩ = some (.bool z) := KA8.out.cell 14 _ rfl
  go_wp2_with fail
  cases f <;> cases h
  all_goals
    go_quiet (first | (go_at_call 71; refine Calls.quiet_of_same (FN.out _)))
    go_wp2_with fail
    go_ret
    exact ⟨ret_bool (by cases z <;> rfl), below_drewN B8.out _⟩

set_option maxRecDepth 100000 in
set_option maxHeartbeats 16000000 in
theorem connOkS_4 (p q r u : Int) (d : ByteArray) (t : Int) (f g h : Bool) (n : Int) (y : ByteArray) (a : Option Addr) (cap : Nat) (rs : List HP) (fi : Int) (z : Bool) (wi mo m c : Int) (k s : Bool) (v x ti tr : Int) (hB : RB y rs) (w : World) (hrow : Row w w.heap.size a (hps rs)) (t1 : tupOk p q r = true) (t2 : sndOk ⟨u, d, t, f, g, h⟩ = true) (t3 : rcvOk ⟨n, y, rs, fi, z⟩ = true) (t4 : optOk ⟨m, c, k, s, v, x⟩ = true) (g1 : 0 ≤ wi) (g2 : wi ≤ mo) (g3 : mo ≤ 1073725440) (g4 : 0 ≤ tr) (g5 : tr ≤ 3) (g6 : 0 ≤ ti) (g7 : ti ≤ 3) :
    Calls Try.prog 27 #[.agg #[.int .i64 p, .int .i64 q, .int .i64 r, .int .i64 4, .int .i64 u, .string d, .int .i64 t, .bool f, .bool g, .bool h, .int .i64 n, .string y, .slice a rs.length cap, .int .i64 fi, .bool z, .int .i64 wi, .int .i64 mo, .int .i64 m, .int .i64 c, .bool k, .bool s, .int .i64 v, .int .i64 x, .int .i64 ti, .int .i64 tr]] w (SndB (cnFits 4 f h z) w) := by
  have HR := Lib.hid hrow
  clear hrow
  have T := fun w => tupOkS p q r w
  have S := fun w => sndOkS u d t f g h w
  have R := fun w (k : Row w w.heap.size a (hps rs)) => rcvOkS n fi z y a cap rs hB w k
  have O := fun w => optionsOkS m c k s v x w
  clear hB
  have I1 := fun w => l1In_s 4 1 8 w
  have I2 := fun w => l1In_s wi 0 mo w
  have I3 := fun w => l1In_s tr 0 3 w
  rw [t1] at T
  rw [t2] at S
  rw [t3] at R
  rw [t4] at O
  rw [decide_eq_true (show (1 : Int) ≤ 4 ∧ (4 : Int) ≤ 8 by omega)] at I1
  rw [decide_eq_true ⟨g1, g2⟩] at I2
  rw [decide_eq_true ⟨g4, g5⟩] at I3
  have I4 := fun w => l1In_s ti 0 3 w
  rw [decide_eq_true ⟨g6, g7⟩] at I4
  have FN := fun w => l19Fin_s 4 w
  rw [show finS 4 = false by decide] at FN
  have h3 : ¬ (1073725440 : Int) < mo := by omega
  clear t1 t2 t3 t4 g1 g2 g3 g4 g5 g6 g7
  replace T := Lib.hid T
  replace S := Lib.hid S
  replace R := Lib.hid R
  replace O := Lib.hid O
  replace I1 := Lib.hid I1
  replace I2 := Lib.hid I2
  replace I3 := Lib.hid I3
  replace I4 := Lib.hid I4
  replace FN := Lib.hid FN
  go_enter Try.func27, Try.ntmps27
  have B0 := Lib.hid (show Below w.heap.size w (w.alloc (.cells #[.int .i64 p, .int .i64 q, .int .i64 r, .int .i64 4, .int .i64 u, .string d, .int .i64 t, .bool f, .bool g, .bool h, .int .i64 n, .string y, .slice a rs.length cap, .int .i64 fi, .bool z, .int .i64 wi, .int .i64 mo, .int .i64 m, .int .i64 c, .bool k, .bool s, .int .i64 v, .int .i64 x, .int .i64 ti, .int .i64 tr] 36)) from ((Below.refl _ w).alloc (by simp) _))
  have KA0 := Lib.hid (show Blk (w.alloc (.cells #[.int .i64 p, .int .i64 q, .int .i64 r, .int .i64 4, .int .i64 u, .string d, .int .i64 t, .bool f, .bool g, .bool h, .int .i64 n, .string y, .slice a rs.length cap, .int .i64 fi, .bool z, .int .i64 wi, .int .i64 mo, .int .i64 m, .int .i64 c, .bool k, .bool s, .int .i64 v, .int .i64 x, .int .i64 ti, .int .i64 tr] 36)) (w.heap.size) [.int .i64 p, .int .i64 q, .int .i64 r, .int .i64 4, .int .i64 u, .string d, .int .i64 t, .bool f, .bool g, .bool h, .int .i64 n, .string y, .slice a rs.length cap, .int .i64 fi, .bool z, .int .i64 wi, .int .i64 mo, .int .i64 m, .int .i64 c, .bool k, .bool s, .int .i64 v, .int .i64 x, .int .i64 ti, .int .i64 tr] from Blk.new w [.int .i64 p, .int .i64 q, .int .i64 r, .int .i64 4, .int .i64 u, .string d, .int .i64 t, .bool f, .bool g, .bool h, .int .i64 n, .string y, .slice a rs.length cap, .int .i64 fi, .bool z, .int .i64 wi, .int .i64 mo, .int .i64 m, .int .i64 c, .bool k, .bool s, .int .i64 v, .int .i64 x, .int .i64 ti, .int .i64 tr] 36)
  go_wp2_with fail
  change Calls _ _ _ (w.alloc (.cells #[.int .i64 p, .int .i64 q, .int .i64 r, .int .i64 4, .int .i64 u, .string d, .int .i64 t, .bool f, .bool g, .bool h, .int .i64 n, .string y, .slice a rs.length cap, .int .i64 fi, .bool z, .int .i64 wi, .int .i64 mo, .int .i64 m, .int .i64 c, .bool k, .bool s, .int .i64 v, .int .i64 x, .int .i64 ti, .int .i64 tr] 36)) _
  generalize w.alloc (.cells #[.int .i64 p, .int .i64 q, .int .i64 r, .int .i64 4, .int .i64 u, .string d, .int .i64 t, .bool f, .bool g, .bool h, .int .i64 n, .string y, .slice a rs.length cap, .int .i64 fi, .bool z, .int .i64 wi, .int .i64 mo, .int .i64 m, .int .i64 c, .bool k, .bool s, .int .i64 v, .int .i64 x, .int .i64 ti, .int .i64 tr] 36) = v0 at B0 KA0 ⊢
  generalize w.heap.size = g_A at KA0 ⊢
  refine (T.out _).mono ?_
  rintro e v1 ⟨rfl, hb⟩
  have B1 := Lib.hid (B0.out.trans (hb.mono B0.out.size))
  have KA1 := Lib.hid (KA0.out.below hb)
  clear hb B0 KA0
  have cA4 : v1.cell? ⟨g_A, 4, none⟩ = some (.int .i64 u) := KA1.out.cell 4 _ rfl
  have cA5 : v1.cell? ⟨g_A, 5, none⟩ = some (.string d) := KA1.out.cell 5 _ rfl
  have cA6 : v1.cell? ⟨g_A, 6, none⟩ = some (.int .i64 t) := KA1.out.cell 6 _ rfl
  have cA7 : v1.cell? ⟨g_A, 7, none⟩ = some (.bool f) := KA1.out.cell 7 _ rfl
  have cA8 : v1.cell? ⟨g_A, 8, none⟩ = some (.bool g) := KA1.out.cell 8 _ rfl
  have cA9 : v1.cell? ⟨g_A, 9, none⟩ = some (.bool h) := KA1.out.cell 9 _ rfl
  go_wp2_with fail
  clear cA4 cA5 cA6 cA7 cA8 cA9
  refine (S.out _).mono ?_
  rintro e v2 ⟨rfl, hb⟩
  have B2 := Lib.hid (B1.out.trans (hb.mono B1.out.size))
  have KA2 := Lib.hid (KA1.out.below hb)
  clear hb B1 KA1
  have cA10 : v2.cell? ⟨g_A, 10, none⟩ = some (.int .i64 n) := KA2.out.cell 10 _ rfl
  have cA11 : v2.cell? ⟨g_A, 11, none⟩ = some (.string y) := KA2.out.cell 11 _ rfl
  have cA12 : v2.cell? ⟨g_A, 12, none⟩ = some (.slice a rs.length cap) := KA2.out.cell 12 _ rfl
  have cA13 : v2.cell? ⟨g_A, 13, none⟩ = some (.int .i64 fi) := KA2.out.cell 13 _ rfl
  have cA14 : v2.cell? ⟨g_A, 14, none⟩ = some (.bool z) := KA2.out.cell 14 _ rfl
  go_wp2_with fail
  clear cA10 cA11 cA12 cA13 cA14
  refine (R.out _ ((HR.out.below B2.out).mono B2.out.size)).mono ?_
  rintro e v3 ⟨rfl, hb⟩
  have B3 := Lib.hid (B2.out.trans (hb.mono B2.out.size))
  have KA3 := Lib.hid (KA2.out.below hb)
  clear hb B2 KA2
  have cA17 : v3.cell? ⟨g_A, 17, none⟩ = some (.int .i64 m) := KA3.out.cell 17 _ rfl
  have cA18 : v3.cell? ⟨g_A, 18, none⟩ = some (.int .i64 c) := KA3.out.cell 18 _ rfl
  have cA19 : v3.cell? ⟨g_A, 19, none⟩ = some (.bool k) := KA3.out.cell 19 _ rfl
  have cA20 : v3.cell? ⟨g_A, 20, none⟩ = some (.bool s) := KA3.out.cell 20 _ rfl
  have cA21 : v3.cell? ⟨g_A, 21, none⟩ = some (.int .i64 v) := KA3.out.cell 21 _ rfl
  have cA22 : v3.cell? ⟨g_A, 22, none⟩ = some (.int .i64 x) := KA3.out.cell 22 _ rfl
  go_wp2_with fail
  clear cA17 cA18 cA19 cA20 cA21 cA22
  refine (O.out _).mono ?_
  rintro e v4 ⟨rfl, hb⟩
  have B4 := Lib.hid (B3.out.trans (hb.mono B3.out.size))
  have KA4 := Lib.hid (KA3.out.below hb)
  clear hb B3 KA3
  have cA3 : v4.cell? ⟨g_A, 3, none⟩ = some (.int .i64 4) := KA4.out.cell 3 _ rfl
  go_wp2_with fail
  clear cA3
  refine (I1.out _).mono ?_
  rintro e v5 ⟨rfl, hb⟩
  have B5 := Lib.hid (B4.out.trans (hb.mono B4.out.size))
  have KA5 := Lib.hid (KA4.out.below hb)
  clear hb B4 KA4
  have cA15 : v5.cell? ⟨g_A, 15, none⟩ = some (.int .i64 wi) := KA5.out.cell 15 _ rfl
  have cA16 : v5.cell? ⟨g_A, 16, none⟩ = some (.int .i64 mo) := KA5.out.cell 16 _ rfl
  go_wp2_with fail
  clear cA15 cA16
  refine (I2.out _).mono ?_
  rintro e v6 ⟨rfl, hb⟩
  have B6 := Lib.hid (B5.out.trans (hb.mono B5.out.size))
  have KA6 := Lib.hid (KA5.out.below hb)
  clear hb B5 KA5
  have cA16 : v6.cell? ⟨g_A, 16, none⟩ = some (.int .i64 mo) := KA6.out.cell 16 _ rfl
  have cA24 : v6.cell? ⟨g_A, 24, none⟩ = some (.int .i64 tr) := KA6.out.cell 24 _ rfl
  go_wp2_with fail
  clear cA16 cA24
  refine (I3.out _).mono ?_
  rintro e v7 ⟨rfl, hb⟩
  have B7 := Lib.hid (B6.out.trans (hb.mono B6.out.size))
  have KA7 := Lib.hid (KA6.out.below hb)
  clear hb B6 KA6
  have cA3 : v7.cell? ⟨g_A, 3, none⟩ = some (.int .i64 4) := KA7.out.cell 3 _ rfl
  have cA23 : v7.cell? ⟨g_A, 23, none⟩ = some (.int .i64 ti) := KA7.out.cell 23 _ rfl
  go_wp2_with fail
  clear cA3 cA23
  refine (I4.out _).mono ?_
  rintro e v8 ⟨rfl, hb⟩
  have B8 := Lib.hid (B7.out.trans (hb.mono B7.out.size))
  have KA8 := Lib.hid (KA7.out.below hb)
  clear hb B7 KA7
  have cA3 : v8.cell? ⟨g_A, 3, none⟩ = some (.int .i64 4) := KA8.out.cell 3 _ rfl
  have cA7 : v8.cell? ⟨g_A, 7, none⟩ = some (.bool f) := KA8.out.cell 7 _ rfl
  have cA9 : v8.cell? ⟨g_A, 9, none⟩ = some (.bool h) := KA8.out.cell 9 _ rfl
  have cA14 : v8.cell? ⟨g_A, 14, none⟩ = some (.bool z) := KA8.out.cell 14 _ rfl
  go_wp2_with fail
  cases f <;> cases h
  all_goals
    go_quiet (first | (go_at_call 71; refine Calls.quiet_of_same (FN.out _)))
    go_wp2_with fail
    go_ret
    exact ⟨ret_bool (by cases z <;> rfl), below_drewN B8.out _⟩
end Go.Proofs.Ytajekjjaaohbnaa
