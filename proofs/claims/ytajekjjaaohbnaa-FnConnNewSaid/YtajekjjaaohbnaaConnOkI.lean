/- ConnOk of the program. Nothing here is a claim. -/
import Derived.Test.YtajekjjaaohbnaaConnFit
import Derived.Test.YtajekjjaaohbnaaBulk
import Derived.Test.YtajekjjaaohbnaaTupOk
import Derived.Test.YtajekjjaaohbnaaSndOk
import Derived.Test.YtajekjjaaohbnaaSndPos
import Derived.Test.YtajekjjaaohbnaaRcvOkI
import Derived.Test.YtajekjjaaohbnaaOptOk
import Derived.Test.YtajekjjaaohbnaaCurA
import Derived.Deep.QuietTactic
import Derived.BigQuiet
import Derived.Deep.RegionHeld3
namespace Go.Proofs.Ytajekjjaaohbnaa
open Go.RowKit Go.Lib

set_option maxRecDepth 100000 in
set_option maxHeartbeats 16000000 in
theorem connOkI_no (p q r st u : Int) (d : ByteArray) (t : Int) (f g h : Bool) (n : Int) (y : ByteArray) (a : Option Addr) (cap : Nat) (rs : List HP) (fi : Int) (z : Bool) (wi mo m c : Int) (k s : Bool) (v x ti tr : Int) (hB : RB y rs) (w : World) (hrow : Row w w.heap.size a (hps rs)) (hno : ¬ (tupOk p q r = true ∧ sndOk ⟨u, d, t, f, g, h⟩ = true ∧ rcvOk ⟨n, y, rs, fi, z⟩ = true ∧ optOk ⟨m, c, k, s, v, x⟩ = true ∧ 0 ≤ wi ∧ wi ≤ mo ∧ mo ≤ 1073725440)) :
    Calls Try.prog 16 #[.agg #[.int .i64 p, .int .i64 q, .int .i64 r, .int .i64 st, .int .i64 u, .string d, .int .i64 t, .bool f, .bool g, .bool h, .int .i64 n, .string y, .slice a rs.length cap, .int .i64 fi, .bool z, .int .i64 wi, .int .i64 mo, .int .i64 m, .int .i64 c, .bool k, .bool s, .int .i64 v, .int .i64 x, .int .i64 ti, .int .i64 tr]] w (SndB (cnOk ⟨p, q, r, st, ⟨u, d, t, f, g, h⟩, ⟨n, y, rs, fi, z⟩, wi, mo, ⟨m, c, k, s, v, x⟩, ti, tr⟩) w) := by
  have HR := Lib.hid hrow
  clear hrow
  have T := fun w => tupOkI p q r w
  have S := fun w => sndOkI u d t f g h w
  have R := fun w (k : Row w w.heap.size a (hps rs)) => rcvOkI n fi z y a cap rs hB w k
  have O := fun w => optionsOkI m c k s v x w
  clear hB
  obtain ⟨top, htop⟩ : ∃ q, cnTop st = q := ⟨_, rfl⟩
  have D : cnOk ⟨p, q, r, st, ⟨u, d, t, f, g, h⟩, ⟨n, y, rs, fi, z⟩, wi, mo, ⟨m, c, k, s, v, x⟩, ti, tr⟩ = (tupOk p q r && (sndOk ⟨u, d, t, f, g, h⟩ && (rcvOk ⟨n, y, rs, fi, z⟩ && (optOk ⟨m, c, k, s, v, x⟩ && cnTail st f h z wi mo ti tr)))) := rfl
  generalize cnOk ⟨p, q, r, st, ⟨u, d, t, f, g, h⟩, ⟨n, y, rs, fi, z⟩, wi, mo, ⟨m, c, k, s, v, x⟩, ti, tr⟩ = ans at D ⊢
  generalize tupOk p q r = b1 at T D hno
  generalize sndOk ⟨u, d, t, f, g, h⟩ = b2 at S D hno
  generalize rcvOk ⟨n, y, rs, fi, z⟩ = b3 at R D hno
  generalize optOk ⟨m, c, k, s, v, x⟩ = b4 at O D hno
  have HT := Lib.hid htop
  clear htop
  replace T := Lib.hid T
  replace S := Lib.hid S
  replace R := Lib.hid R
  replace O := Lib.hid O
  replace D := Lib.hid D
  replace hno := Lib.hid hno
  go_enter Try.func16, Try.ntmps16
  have B0 := Lib.hid (show Below w.heap.size w (w.alloc (.cells #[.int .i64 p, .int .i64 q, .int .i64 r, .int .i64 st, .int .i64 u, .string d, .int .i64 t, .bool f, .bool g, .bool h, .int .i64 n, .string y, .slice a rs.length cap, .int .i64 fi, .bool z, .int .i64 wi, .int .i64 mo, .int .i64 m, .int .i64 c, .bool k, .bool s, .int .i64 v, .int .i64 x, .int .i64 ti, .int .i64 tr] 36)) from ((Below.refl _ w).alloc (by simp) _))
  have KA0 := Lib.hid (show Blk (w.alloc (.cells #[.int .i64 p, .int .i64 q, .int .i64 r, .int .i64 st, .int .i64 u, .string d, .int .i64 t, .bool f, .bool g, .bool h, .int .i64 n, .string y, .slice a rs.length cap, .int .i64 fi, .bool z, .int .i64 wi, .int .i64 mo, .int .i64 m, .int .i64 c, .bool k, .bool s, .int .i64 v, .int .i64 x, .int .i64 ti, .int .i64 tr] 36)) (w.heap.size) [.int .i64 p, .int .i64 q, .int .i64 r, .int .i64 st, .int .i64 u, .string d, .int .i64 t, .bool f, .bool g, .bool h, .int .i64 n, .string y, .slice a rs.length cap, .int .i64 fi, .bool z, .int .i64 wi, .int .i64 mo, .int .i64 m, .int .i64 c, .bool k, .bool s, .int .i64 v, .int .i64 x, .int .i64 ti, .int .i64 tr] from Blk.new w [.int .i64 p, .int .i64 q, .int .i64 r, .int .i64 st, .int .i64 u, .string d, .int .i64 t, .bool f, .bool g, .bool h, .int .i64 n, .string y, .slice a rs.length cap, .int .i64 fi, .bool z, .int .i64 wi, .int .i64 mo, .int .i64 m, .int .i64 c, .bool k, .bool s, .int .i64 v, .int .i64 x, .int .i64 ti, .int .i64 tr] 36)
  go_wp2_with fail
  change Calls _ _ _ (w.alloc (.cells #[.int .i64 p, .int .i64 q, .int .i64 r, .int .i64 st, .int .i64 u, .string d, .int .i64 t, .bool f, .bool g, .bool h, .int .i64 n, .string y, .slice a rs.length cap, .int .i64 fi, .bool z, .int .i64 wi, .int .i64 mo, .int .i64 m, .int .i64 c, .bool k, .bool s, .int .i64 v, .int .i64 x, .int .i64 ti, .int .i64 tr] 36)) _
  generalize w.alloc (.cells #[.int .i64 p, .int .i64 q, .int .i64 r, .int .i64 st, .int .i64 u, .string d, .int .i64 t, .bool f, .bool g, .bool h, .int .i64 n, .string y, .slice a rs.length cap, .int .i64 fi, .bool z, .int .i64 wi, .int .i64 mo, .int .i64 m, .int .i64 c, .bool k, .bool s, .int .i64 v, .int .i64 x, .int .i64 ti, .int .i64 tr] 36) = v0 at B0 KA0 ⊢
  generalize w.heap.size = g_A at KA0 ⊢
  refine (T.out _).mono ?_
  rintro e v1 ⟨rfl, hb⟩
  have B1 := Lib.hid (B0.out.trans (hb.mono B0.out.size))
  have KA1 := Lib.hid (KA0.out.below hb)
  clear hb B0 KA0
  cases b1
  case false =>
    go_wp2_with fail
    go_ret
    exact ⟨ret_bool (by rw [D.out]; simp), B1.out⟩
  have cA4 : v1.cell? ⟨g_A, 4, none⟩ = some (.int .i64 u) := KA1.out.cell 4 _ rfl
  have cA5 : v1.cell? ⟨g_A, 5, none⟩ = some (.string d) := KA1.out.cell 5 _ rfl
  have cA6 : v1.cell? ⟨g_A, 6, none⟩ = some (.int .i64 t) := KA1.out.cell 6 _ rfl
  have cA7 : v1.cell? ⟨g_A, 7, none⟩ = some (.bool f) := KA1.out.cell 7 _ rfl
  have cA8 : v1.cell? ⟨g_A, 8, none⟩ = some (.bool g) := KA1.out.cell 8 _ rfl
  have cA9 : v1.cell? ⟨g_A, 9, none⟩ = some (.bool h) := KA1.out.cell 9 _ rfl
  go_wp2_with fail
  clear cA4 cA5 cA6 cA7 cA8 cA9
  refine (S.out _).mono ?_
  rintro e v2 ⟨rfl, hb⟩
  have B2 := Lib.hid (B1.out.trans (hb.mono B1.out.size))
  have KA2 := Lib.hid (KA1.out.below hb)
  clear hb B1 KA1
  cases b2
  case false =>
    go_wp2_with fail
    go_ret
    exact ⟨ret_bool (by rw [D.out]; simp), B2.out⟩
  have cA10 : v2.cell? ⟨g_A, 10, none⟩ = some (.int .i64 n) := KA2.out.cell 10 _ rfl
  have cA11 : v2.cell? ⟨g_A, 11, none⟩ = some (.string y) := KA2.out.cell 11 _ rfl
  have cA12 : v2.cell? ⟨g_A, 12, none⟩ = some (.slice a rs.length cap) := KA2.out.cell 12 _ rfl
  have cA13 : v2.cell? ⟨g_A, 13, none⟩ = some (.int .i64 fi) := KA2.out.cell 13 _ rfl
  have cA14 : v2.cell? ⟨g_A, 14, none⟩ = some (.bool z) := KA2.out.cell 14 _ rfl
  go_wp2_with fail
  clear cA10 cA11 cA12 cA13 cA14
  refine (R.out _ ((HR.out.below B2.out).mono B2.out.size)).mono ?_
  rintro e v3 ⟨rfl, hb⟩
  have B3 := Lib.hid (B2.out.trans (hb.mono B2.out.size))
  have KA3 := Lib.hid (KA2.out.below hb)
  clear hb B2 KA2
  cases b3
  case false =>
    go_wp2_with fail
    go_ret
    exact ⟨ret_bool (by rw [D.out]; simp), B3.out⟩
  have cA17 : v3.cell? ⟨g_A, 17, none⟩ = some (.int .i64 m) := KA3.out.cell 17 _ rfl
  have cA18 : v3.cell? ⟨g_A, 18, none⟩ = some (.int .i64 c) := KA3.out.cell 18 _ rfl
  have cA19 : v3.cell? ⟨g_A, 19, none⟩ = some (.bool k) := KA3.out.cell 19 _ rfl
  have cA20 : v3.cell? ⟨g_A, 20, none⟩ = some (.bool s) := KA3.out.cell 20 _ rfl
  have cA21 : v3.cell? ⟨g_A, 21, none⟩ = some (.int .i64 v) := KA3.out.cell 21 _ rfl
  have cA22 : v3.cell? ⟨g_A, 22, none⟩ = some (.int .i64 x) := KA3.out.cell 22 _ rfl
  go_wp2_with fail
  clear cA17 cA18 cA19 cA20 cA21 cA22
  refine (O.out _).mono ?_
  rintro e v4 ⟨rfl, hb⟩
  have B4 := Lib.hid (B3.out.trans (hb.mono B3.out.size))
  have KA4 := Lib.hid (KA3.out.below hb)
  clear hb B3 KA3
  cases b4
  case false =>
    go_wp2_with fail
    go_ret
    exact ⟨ret_bool (by rw [D.out]; simp), B4.out⟩
  have D2 := Lib.hid (show ans = cnTail st f h z wi mo ti tr by rw [D.out]; rfl)
  clear D
  by_cases h1 : wi < 0
  case pos =>
    have cA15 : v4.cell? ⟨g_A, 15, none⟩ = some (.int .i64 wi) := KA4.out.cell 15 _ rfl
    have cA16 : v4.cell? ⟨g_A, 16, none⟩ = some (.int .i64 mo) := KA4.out.cell 16 _ rfl
    have cA23 : v4.cell? ⟨g_A, 23, none⟩ = some (.int .i64 ti) := KA4.out.cell 23 _ rfl
    have cA24 : v4.cell? ⟨g_A, 24, none⟩ = some (.int .i64 tr) := KA4.out.cell 24 _ rfl
    have cA3 : v4.cell? ⟨g_A, 3, none⟩ = some (.int .i64 st) := KA4.out.cell 3 _ rfl
    go_wp2_with fail
    go_ret
    exact ⟨ret_bool ((D2.out.trans (cnTail_no HT.out (fun _ _ _ _ _ _ _ _ _ => by omega))).symm), B4.out⟩
  by_cases h2 : mo < wi
  case pos =>
    have cA15 : v4.cell? ⟨g_A, 15, none⟩ = some (.int .i64 wi) := KA4.out.cell 15 _ rfl
    have cA16 : v4.cell? ⟨g_A, 16, none⟩ = some (.int .i64 mo) := KA4.out.cell 16 _ rfl
    have cA23 : v4.cell? ⟨g_A, 23, none⟩ = some (.int .i64 ti) := KA4.out.cell 23 _ rfl
    have cA24 : v4.cell? ⟨g_A, 24, none⟩ = some (.int .i64 tr) := KA4.out.cell 24 _ rfl
    have cA3 : v4.cell? ⟨g_A, 3, none⟩ = some (.int .i64 st) := KA4.out.cell 3 _ rfl
    go_wp2_with fail
    go_ret
    exact ⟨ret_bool ((D2.out.trans (cnTail_no HT.out (fun _ _ _ _ _ _ _ _ _ => by omega))).symm), B4.out⟩
  by_cases h3 : (1073725440 : Int) < mo
  case pos =>
    have cA15 : v4.cell? ⟨g_A, 15, none⟩ = some (.int .i64 wi) := KA4.out.cell 15 _ rfl
    have cA16 : v4.cell? ⟨g_A, 16, none⟩ = some (.int .i64 mo) := KA4.out.cell 16 _ rfl
    have cA23 : v4.cell? ⟨g_A, 23, none⟩ = some (.int .i64 ti) := KA4.out.cell 23 _ rfl
    have cA24 : v4.cell? ⟨g_A, 24, none⟩ = some (.int .i64 tr) := KA4.out.cell 24 _ rfl
    have cA3 : v4.cell? ⟨g_A, 3, none⟩ = some (.int .i64 st) := KA4.out.cell 3 _ rfl
    go_wp2_with fail
    go_ret
    exact ⟨ret_bool ((D2.out.trans (cnTail_no HT.out (fun _ _ _ _ _ _ _ _ _ => by omega))).symm), B4.out⟩
  exact (hno.out ⟨(by first | trivial | rfl), (by first | trivial | rfl), (by first | trivial | rfl), (by first | trivial | rfl), by omega, by omega, by omega⟩).elim

set_option maxRecDepth 100000 in
set_option maxHeartbeats 16000000 in
theorem connOkI_4 (p q r st u : Int) (d : ByteArray) (t : Int) (f g h : Bool) (n : Int) (y : ByteArray) (a : Option Addr) (cap : Nat) (rs : List HP) (fi : Int) (z : Bool) (wi mo m c : Int) (k s : Bool) (v x ti tr : Int) (hB : RB y rs) (w : World) (hrow : Row w w.heap.size a (hps rs)) (t1 : tupOk p q r = true) (t2 : sndOk ⟨u, d, t, f, g, h⟩ = true) (t3 : rcvOk ⟨n, y, rs, fi, z⟩ = true) (t4 : optOk ⟨m, c, k, s, v, x⟩ = true) (g1 : 0 ≤ wi) (g2 : wi ≤ mo) (g3 : mo ≤ 1073725440) (h4 : ¬ 0 ≤ ti) :
    Calls Try.prog 16 #[.agg #[.int .i64 p, .int .i64 q, .int .i64 r, .int .i64 st, .int .i64 u, .string d, .int .i64 t, .bool f, .bool g, .bool h, .int .i64 n, .string y, .slice a rs.length cap, .int .i64 fi, .bool z, .int .i64 wi, .int .i64 mo, .int .i64 m, .int .i64 c, .bool k, .bool s, .int .i64 v, .int .i64 x, .int .i64 ti, .int .i64 tr]] w (SndB (false) w) := by
  have HR := Lib.hid hrow
  clear hrow
  have T := fun w => tupOkI p q r w
  have S := fun w => sndOkI u d t f g h w
  have R := fun w (k : Row w w.heap.size a (hps rs)) => rcvOkI n fi z y a cap rs hB w k
  have O := fun w => optionsOkI m c k s v x w
  clear hB
  rw [t1] at T
  rw [t2] at S
  rw [t3] at R
  rw [t4] at O
  clear t1 t2 t3 t4
  obtain ⟨top, htop⟩ : ∃ q, cnTop st = q := ⟨_, rfl⟩
  have LT := fun w => longestI st w
  rw [htop] at LT
  clear htop
  replace T := Lib.hid T
  replace S := Lib.hid S
  replace R := Lib.hid R
  replace O := Lib.hid O
  replace LT := Lib.hid LT
  have e1 : ¬ wi < 0 := by omega
  have e2 : ¬ mo < wi := by omega
  have e3 : ¬ (1073725440 : Int) < mo := by omega
  clear g1 g2 g3
  have e4 : decide (0 ≤ ti) = false := decide_eq_false h4
  go_enter Try.func16, Try.ntmps16
  have B0 := Lib.hid (show Below w.heap.size w (w.alloc (.cells #[.int .i64 p, .int .i64 q, .int .i64 r, .int .i64 st, .int .i64 u, .string d, .int .i64 t, .bool f, .bool g, .bool h, .int .i64 n, .string y, .slice a rs.length cap, .int .i64 fi, .bool z, .int .i64 wi, .int .i64 mo, .int .i64 m, .int .i64 c, .bool k, .bool s, .int .i64 v, .int .i64 x, .int .i64 ti, .int .i64 tr] 36)) from ((Below.refl _ w).alloc (by simp) _))
  have KA0 := Lib.hid (show Blk (w.alloc (.cells #[.int .i64 p, .int .i64 q, .int .i64 r, .int .i64 st, .int .i64 u, .string d, .int .i64 t, .bool f, .bool g, .bool h, .int .i64 n, .string y, .slice a rs.length cap, .int .i64 fi, .bool z, .int .i64 wi, .int .i64 mo, .int .i64 m, .int .i64 c, .bool k, .bool s, .int .i64 v, .int .i64 x, .int .i64 ti, .int .i64 tr] 36)) (w.heap.size) [.int .i64 p, .int .i64 q, .int .i64 r, .int .i64 st, .int .i64 u, .string d, .int .i64 t, .bool f, .bool g, .bool h, .int .i64 n, .string y, .slice a rs.length cap, .int .i64 fi, .bool z, .int .i64 wi, .int .i64 mo, .int .i64 m, .int .i64 c, .bool k, .bool s, .int .i64 v, .int .i64 x, .int .i64 ti, .int .i64 tr] from Blk.new w [.int .i64 p, .int .i64 q, .int .i64 r, .int .i64 st, .int .i64 u, .string d, .int .i64 t, .bool f, .bool g, .bool h, .int .i64 n, .string y, .slice a rs.length cap, .int .i64 fi, .bool z, .int .i64 wi, .int .i64 mo, .int .i64 m, .int .i64 c, .bool k, .bool s, .int .i64 v, .int .i64 x, .int .i64 ti, .int .i64 tr] 36)
  go_wp2_with fail
  change Calls _ _ _ (w.alloc (.cells #[.int .i64 p, .int .i64 q, .int .i64 r, .int .i64 st, .int .i64 u, .string d, .int .i64 t, .bool f, .bool g, .bool h, .int .i64 n, .string y, .slice a rs.length cap, .int .i64 fi, .bool z, .int .i64 wi, .int .i64 mo, .int .i64 m, .int .i64 c, .bool k, .bool s, .int .i64 v, .int .i64 x, .int .i64 ti, .int .i64 tr] 36)) _
  generalize w.alloc (.cells #[.int .i64 p, .int .i64 q, .int .i64 r, .int .i64 st, .int .i64 u, .string d, .int .i64 t, .bool f, .bool g, .bool h, .int .i64 n, .string y, .slice a rs.length cap, .int .i64 fi, .bool z, .int .i64 wi, .int .i64 mo, .int .i64 m, .int .i64 c, .bool k, .bool s, .int .i64 v, .int .i64 x, .int .i64 ti, .int .i64 tr] 36) = v0 at B0 KA0 ⊢
  generalize w.heap.size = g_A at KA0 ⊢
  refine (T.out _).mono ?_
  rintro e v1 ⟨rfl, hb⟩
  have B1 := Lib.hid (B0.out.trans (hb.mono B0.out.size))
  have KA1 := Lib.hid (KA0.out.below hb)
  clear hb B0 KA0
  have cA4 : v1.cell? ⟨g_A, 4, none⟩ = some (.int .i64 u) := KA1.out.cell 4 _ rfl
  have cA5 : v1.cell? ⟨g_A, 5, none⟩ = some (.string d) := KA1.out.cell 5 _ rfl
  have cA6 : v1.cell? ⟨g_A, 6, none⟩ = some (.int .i64 t) := KA1.out.cell 6 _ rfl
  have cA7 : v1.cell? ⟨g_A, 7, none⟩ = some (.bool f) := KA1.out.cell 7 _ rfl
  have cA8 : v1.cell? ⟨g_A, 8, none⟩ = some (.bool g) := KA1.out.cell 8 _ rfl
  have cA9 : v1.cell? ⟨g_A, 9, none⟩ = some (.bool h) := KA1.out.cell 9 _ rfl
  go_wp2_with fail
  clear cA4 cA5 cA6 cA7 cA8 cA9
  refine (S.out _).mono ?_
  rintro e v2 ⟨rfl, hb⟩
  have B2 := Lib.hid (B1.out.trans (hb.mono B1.out.size))
  have KA2 := Lib.hid (KA1.out.below hb)
  clear hb B1 KA1
  have cA10 : v2.cell? ⟨g_A, 10, none⟩ = some (.int .i64 n) := KA2.out.cell 10 _ rfl
  have cA11 : v2.cell? ⟨g_A, 11, none⟩ = some (.string y) := KA2.out.cell 11 _ rfl
  have cA12 : v2.cell? ⟨g_A, 12, none⟩ = some (.slice a rs.length cap) := KA2.out.cell 12 _ rfl
  have cA13 : v2.cell? ⟨g_A, 13, none⟩ = some (.int .i64 fi) := KA2.out.cell 13 _ rfl
  have cA14 : v2.cell? ⟨g_A, 14, none⟩ = some (.bool z) := KA2.out.cell 14 _ rfl
  go_wp2_with fail
  clear cA10 cA11 cA12 cA13 cA14
  refine (R.out _ ((HR.out.below B2.out).mono B2.out.size)).mono ?_
  rintro e v3 ⟨rfl, hb⟩
  have B3 := Lib.hid (B2.out.trans (hb.mono B2.out.size))
  have KA3 := Lib.hid (KA2.out.below hb)
  clear hb B2 KA2
  have cA17 : v3.cell? ⟨g_A, 17, none⟩ = some (.int .i64 m) := KA3.out.cell 17 _ rfl
  have cA18 : v3.cell? ⟨g_A, 18, none⟩ = some (.int .i64 c) := KA3.out.cell 18 _ rfl
  have cA19 : v3.cell? ⟨g_A, 19, none⟩ = some (.bool k) := KA3.out.cell 19 _ rfl
  have cA20 : v3.cell? ⟨g_A, 20, none⟩ = some (.bool s) := KA3.out.cell 20 _ rfl
  have cA21 : v3.cell? ⟨g_A, 21, none⟩ = some (.int .i64 v) := KA3.out.cell 21 _ rfl
  have cA22 : v3.cell? ⟨g_A, 22, none⟩ = some (.int .i64 x) := KA3.out.cell 22 _ rfl
  go_wp2_with fail
  clear cA17 cA18 cA19 cA20 cA21 cA22
  refine (O.out _).mono ?_
  rintro e v4 ⟨rfl, hb⟩
  have B4 := Lib.hid (B3.out.trans (hb.mono B3.out.size))
  have KA4 := Lib.hid (KA3.out.below hb)
  clear hb B3 KA3
  have cA15 : v4.cell? ⟨g_A, 15, none⟩ = some (.int .i64 wi) := KA4.out.cell 15 _ rfl
  have cA16 : v4.cell? ⟨g_A, 16, none⟩ = some (.int .i64 mo) := KA4.out.cell 16 _ rfl
  have cA23 : v4.cell? ⟨g_A, 23, none⟩ = some (.int .i64 ti) := KA4.out.cell 23 _ rfl
  have cA24 : v4.cell? ⟨g_A, 24, none⟩ = some (.int .i64 tr) := KA4.out.cell 24 _ rfl
  have cA3 : v4.cell? ⟨g_A, 3, none⟩ = some (.int .i64 st) := KA4.out.cell 3 _ rfl
  go_wp2_with fail
  go_quiet (first | (go_at_call 57; refine Calls.quiet_of_same (LT.out _)))
  go_wp2_with fail
  go_ret
  exact ⟨rfl, below_drewN B4.out _⟩

set_option maxRecDepth 100000 in
set_option maxHeartbeats 16000000 in
theorem connOkI_5 (p q r st u : Int) (d : ByteArray) (t : Int) (f g h : Bool) (n : Int) (y : ByteArray) (a : Option Addr) (cap : Nat) (rs : List HP) (fi : Int) (z : Bool) (wi mo m c : Int) (k s : Bool) (v x ti tr : Int) (hB : RB y rs) (w : World) (hrow : Row w w.heap.size a (hps rs)) (t1 : tupOk p q r = true) (t2 : sndOk ⟨u, d, t, f, g, h⟩ = true) (t3 : rcvOk ⟨n, y, rs, fi, z⟩ = true) (t4 : optOk ⟨m, c, k, s, v, x⟩ = true) (g1 : 0 ≤ wi) (g2 : wi ≤ mo) (g3 : mo ≤ 1073725440) (h4 : 0 ≤ ti) (h5 : ¬ ti ≤ cnTop st) :
    Calls Try.prog 16 #[.agg #[.int .i64 p, .int .i64 q, .int .i64 r, .int .i64 st, .int .i64 u, .string d, .int .i64 t, .bool f, .bool g, .bool h, .int .i64 n, .string y, .slice a rs.length cap, .int .i64 fi, .bool z, .int .i64 wi, .int .i64 mo, .int .i64 m, .int .i64 c, .bool k, .bool s, .int .i64 v, .int .i64 x, .int .i64 ti, .int .i64 tr]] w (SndB (false) w) := by
  have HR := Lib.hid hrow
  clear hrow
  have T := fun w => tupOkI p q r w
  have S := fun w => sndOkI u d t f g h w
  have R := fun w (k : Row w w.heap.size a (hps rs)) => rcvOkI n fi z y a cap rs hB w k
  have O := fun w => optionsOkI m c k s v x w
  clear hB
  rw [t1] at T
  rw [t2] at S
  rw [t3] at R
  rw [t4] at O
  clear t1 t2 t3 t4
  obtain ⟨top, htop⟩ : ∃ q, cnTop st = q := ⟨_, rfl⟩
  have LT := fun w => longestI st w
  rw [htop] at LT
  rw [htop] at h5
  clear htop
  replace T := Lib.hid T
  replace S := Lib.hid S
  replace R := Lib.hid R
  replace O := Lib.hid O
  replace LT := Lib.hid LT
  have e1 : ¬ wi < 0 := by omega
  have e2 : ¬ mo < wi := by omega
  have e3 : ¬ (1073725440 : Int) < mo := by omega
  clear g1 g2 g3
  have e5 : decide (ti ≤ top) = false := decide_eq_false h5
  go_enter Try.func16, Try.ntmps16
  have B0 := Lib.hid (show Below w.heap.size w (w.alloc (.cells #[.int .i64 p, .int .i64 q, .int .i64 r, .int .i64 st, .int .i64 u, .string d, .int .i64 t, .bool f, .bool g, .bool h, .int .i64 n, .string y, .slice a rs.length cap, .int .i64 fi, .bool z, .int .i64 wi, .int .i64 mo, .int .i64 m, .int .i64 c, .bool k, .bool s, .int .i64 v, .int .i64 x, .int .i64 ti, .int .i64 tr] 36)) from ((Below.refl _ w).alloc (by simp) _))
  have KA0 := Lib.hid (show Blk (w.alloc (.cells #[.int .i64 p, .int .i64 q, .int .i64 r, .int .i64 st, .int .i64 u, .string d, .int .i64 t, .bool f, .bool g, .bool h, .int .i64 n, .string y, .slice a rs.length cap, .int .i64 fi, .bool z, .int .i64 wi, .int .i64 mo, .int .i64 m, .int .i64 c, .bool k, .bool s, .int .i64 v, .int .i64 x, .int .i64 ti, .int .i64 tr] 36)) (w.heap.size) [.int .i64 p, .int .i64 q, .int .i64 r, .int .i64 st, .int .i64 u, .string d, .int .i64 t, .bool f, .bool g, .bool h, .int .i64 n, .string y, .slice a rs.length cap, .int .i64 fi, .bool z, .int .i64 wi, .int .i64 mo, .int .i64 m, .int .i64 c, .bool k, .bool s, .int .i64 v, .int .i64 x, .int .i64 ti, .int .i64 tr] from Blk.new w [.int .i64 p, .int .i64 q, .int .i64 r, .int .i64 st, .int .i64 u, .string d, .int .i64 t, .bool f, .bool g, .bool h, .int .i64 n, .string y, .slice a rs.length cap, .int .i64 fi, .bool z, .int .i64 wi, .int .i64 mo, .int .i64 m, .int .i64 c, .bool k, .bool s, .int .i64 v, .int .i64 x, .int .i64 ti, .int .i64 tr] 36)
  go_wp2_with fail
  change Calls _ _ _ (w.alloc (.cells #[.int .i64 p, .int .i64 q, .int .i64 r, .int .i64 st, .int .i64 u, .string d, .int .i64 t, .bool f, .bool g, .bool h, .int .i64 n, .string y, .slice a rs.length cap, .int .i64 fi, .bool z, .int .i64 wi, .int .i64 mo, .int .i64 m, .int .i64 c, .bool k, .bool s, .int .i64 v, .int .i64 x, .int .i64 ti, .int .i64 tr] 36)) _
  generalize w.alloc (.cells #[.int .i64 p, .int .i64 q, .int .i64 r, .int .i64 st, .int .i64 u, .string d, .int .i64 t, .bool f, .bool g, .bool h, .int .i64 n, .string y, .slice a rs.length cap, .int .i64 fi, .bool z, .int .i64 wi, .int .i64 mo, .int .i64 m, .int .i64 c, .bool k, .bool s, .int .i64 v, .int .i64 x, .int .i64 ti, .int .i64 tr] 36) = v0 at B0 KA0 ⊢
  generalize w.heap.size = g_A at KA0 ⊢
  refine (T.out _).mono ?_
  rintro e v1 ⟨rfl, hb⟩
  have B1 := Lib.hid (B0.out.trans (hb.mono B0.out.size))
  have KA1 := Lib.hid (KA0.out.below hb)
  clear hb B0 KA0
  have cA4 : v1.cell? ⟨g_A, 4, none⟩ = some (.int .i64 u) := KA1.out.cell 4 _ rfl
  have cA5 : v1.cell? ⟨g_A, 5, none⟩ = some (.string d) := KA1.out.cell 5 _ rfl
  have cA6 : v1.cell? ⟨g_A, 6, none⟩ = some (.int .i64 t) := KA1.out.cell 6 _ rfl
  have cA7 : v1.cell? ⟨g_A, 7, none⟩ = some (.bool f) := KA1.out.cell 7 _ rfl
  have cA8 : v1.cell? ⟨g_A, 8, none⟩ = some (.bool g) := KA1.out.cell 8 _ rfl
  have cA9 : v1.cell? ⟨g_A, 9, none⟩ = some (.bool h) := KA1.out.cell 9 _ rfl
  go_wp2_with fail
  clear cA4 cA5 cA6 cA7 cA8 cA9
  refine (S.out _).mono ?_
  rintro e v2 ⟨rfl, hb⟩
  have B2 := Lib.hid (B1.out.trans (hb.mono B1.out.size))
  have KA2 := Lib.hid (KA1.out.below hb)
  clear hb B1 KA1
  have cA10 : v2.cell? ⟨g_A, 10, none⟩ = some (.int .i64 n) := KA2.out.cell 10 _ rfl
  have cA11 : v2.cell? ⟨g_A, 11, none⟩ = some (.string y) := KA2.out.cell 11 _ rfl
  have cA12 : v2.cell? ⟨g_A, 12, none⟩ = some (.slice a rs.length cap) := KA2.out.cell 12 _ rfl
  have cA13 : v2.cell? ⟨g_A, 13, none⟩ = some (.int .i64 fi) := KA2.out.cell 13 _ rfl
  have cA14 : v2.cell? ⟨g_A, 14, none⟩ = some (.bool z) := KA2.out.cell 14 _ rfl
  go_wp2_with fail
  clear cA10 cA11 cA12 cA13 cA14
  refine (R.out _ ((HR.out.below B2.out).mono B2.out.size)).mono ?_
  rintro e v3 ⟨rfl, hb⟩
  have B3 := Lib.hid (B2.out.trans (hb.mono B2.out.size))
  have KA3 := Lib.hid (KA2.out.below hb)
  clear hb B2 KA2
  have cA17 : v3.cell? ⟨g_A, 17, none⟩ = some (.int .i64 m) := KA3.out.cell 17 _ rfl
  have cA18 : v3.cell? ⟨g_A, 18, none⟩ = some (.int .i64 c) := KA3.out.cell 18 _ rfl
  have cA19 : v3.cell? ⟨g_A, 19, none⟩ = some (.bool k) := KA3.out.cell 19 _ rfl
  have cA20 : v3.cell? ⟨g_A, 20, none⟩ = some (.bool s) := KA3.out.cell 20 _ rfl
  have cA21 : v3.cell? ⟨g_A, 21, none⟩ = some (.int .i64 v) := KA3.out.cell 21 _ rfl
  have cA22 : v3.cell? ⟨g_A, 22, none⟩ = some (.int .i64 x) := KA3.out.cell 22 _ rfl
  go_wp2_with fail
  clear cA17 cA18 cA19 cA20 cA21 cA22
  refine (O.out _).mono ?_
  rintro e v4 ⟨rfl, hb⟩
  have B4 := Lib.hid (B3.out.trans (hb.mono B3.out.size))
  have KA4 := Lib.hid (KA3.out.below hb)
  clear hb B3 KA3
  have cA15 : v4.cell? ⟨g_A, 15, none⟩ = some (.int .i64 wi) := KA4.out.cell 15 _ rfl
  have cA16 : v4.cell? ⟨g_A, 16, none⟩ = some (.int .i64 mo) := KA4.out.cell 16 _ rfl
  have cA23 : v4.cell? ⟨g_A, 23, none⟩ = some (.int .i64 ti) := KA4.out.cell 23 _ rfl
  have cA24 : v4.cell? ⟨g_A, 24, none⟩ = some (.int .i64 tr) := KA4.out.cell 24 _ rfl
  have cA3 : v4.cell? ⟨g_A, 3, none⟩ = some (.int .i64 st) := KA4.out.cell 3 _ rfl
  go_wp2_with fail
  go_quiet (first | (go_at_call 57; refine Calls.quiet_of_same (LT.out _)))
  go_wp2_with fail
  go_ret
  exact ⟨rfl, below_drewN B4.out _⟩

set_option maxRecDepth 100000 in
set_option maxHeartbeats 16000000 in
theorem connOkI_6 (p q r st u : Int) (d : ByteArray) (t : Int) (f g h : Bool) (n : Int) (y : ByteArray) (a : Option Addr) (cap : Nat) (rs : List HP) (fi : Int) (z : Bool) (wi mo m c : Int) (k s : Bool) (v x ti tr : Int) (hB : RB y rs) (w : World) (hrow : Row w w.heap.size a (hps rs)) (t1 : tupOk p q r = true) (t2 : sndOk ⟨u, d, t, f, g, h⟩ = true) (t3 : rcvOk ⟨n, y, rs, fi, z⟩ = true) (t4 : optOk ⟨m, c, k, s, v, x⟩ = true) (g1 : 0 ≤ wi) (g2 : wi ≤ mo) (g3 : mo ≤ 1073725440) (h4 : 0 ≤ ti) (h5 : ti ≤ cnTop st) (h6 : ¬ 0 ≤ tr) :
    Calls Try.prog 16 #[.agg #[.int .i64 p, .int .i64 q, .int .i64 r, .int .i64 st, .int .i64 u, .string d, .int .i64 t, .bool f, .bool g, .bool h, .int .i64 n, .string y, .slice a rs.length cap, .int .i64 fi, .bool z, .int .i64 wi, .int .i64 mo, .int .i64 m, .int .i64 c, .bool k, .bool s, .int .i64 v, .int .i64 x, .int .i64 ti, .int .i64 tr]] w (SndB (false) w) := by
  have HR := Lib.hid hrow
  clear hrow
  have T := fun w => tupOkI p q r w
  have S := fun w => sndOkI u d t f g h w
  have R := fun w (k : Row w w.heap.size a (hps rs)) => rcvOkI n fi z y a cap rs hB w k
  have O := fun w => optionsOkI m c k s v x w
  clear hB
  rw [t1] at T
  rw [t2] at S
  rw [t3] at R
  rw [t4] at O
  clear t1 t2 t3 t4
  obtain ⟨top, htop⟩ : ∃ q, cnTop st = q := ⟨_, rfl⟩
  have LT := fun w => longestI st w
  rw [htop] at LT
  rw [htop] at h5
  clear htop
  replace T := Lib.hid T
  replace S := Lib.hid S
  replace R := Lib.hid R
  replace O := Lib.hid O
  replace LT := Lib.hid LT
  have e1 : ¬ wi < 0 := by omega
  have e2 : ¬ mo < wi := by omega
  have e3 : ¬ (1073725440 : Int) < mo := by omega
  clear g1 g2 g3
  have e6 : decide (0 ≤ tr) = false := decide_eq_false h6
  go_enter Try.func16, Try.ntmps16
  have B0 := Lib.hid (show Below w.heap.size w (w.alloc (.cells #[.int .i64 p, .int .i64 q, .int .i64 r, .int .i64 st, .int .i64 u, .string d, .int .i64 t, .bool f, .bool g, .bool h, .int .i64 n, .string y, .slice a rs.length cap, .int .i64 fi, .bool z, .int .i64 wi, .int .i64 mo, .int .i64 m, .int .i64 c, .bool k, .bool s, .int .i64 v, .int .i64 x, .int .i64 ti, .int .i64 tr] 36)) from ((Below.refl _ w).alloc (by simp) _))
  have KA0 := Lib.hid (show Blk (w.alloc (.cells #[.int .i64 p, .int .i64 q, .int .i64 r, .int .i64 st, .int .i64 u, .string d, .int .i64 t, .bool f, .bool g, .bool h, .int .i64 n, .string y, .slice a rs.length cap, .int .i64 fi, .bool z, .int .i64 wi, .int .i64 mo, .int .i64 m, .int .i64 c, .bool k, .bool s, .int .i64 v, .int .i64 x, .int .i64 ti, .int .i64 tr] 36)) (w.heap.size) [.int .i64 p, .int .i64 q, .int .i64 r, .int .i64 st, .int .i64 u, .string d, .int .i64 t, .bool f, .bool g, .bool h, .int .i64 n, .string y, .slice a rs.length cap, .int .i64 fi, .bool z, .int .i64 wi, .int .i64 mo, .int .i64 m, .int .i64 c, .bool k, .bool s, .int .i64 v, .int .i64 x, .int .i64 ti, .int .i64 tr] from Blk.new w [.int .i64 p, .int .i64 q, .int .i64 r, .int .i64 st, .int .i64 u, .string d, .int .i64 t, .bool f, .bool g, .bool h, .int .i64 n, .string y, .slice a rs.length cap, .int .i64 fi, .bool z, .int .i64 wi, .int .i64 mo, .int .i64 m, .int .i64 c, .bool k, .bool s, .int .i64 v, .int .i64 x, .int .i64 ti, .int .i64 tr] 36)
  go_wp2_with fail
  change Calls _ _ _ (w.alloc (.cells #[.int .i64 p, .int .i64 q, .int .i64 r, .int .i64 st, .int .i64 u, .string d, .int .i64 t, .bool f, .bool g, .bool h, .int .i64 n, .string y, .slice a rs.length cap, .int .i64 fi, .bool z, .int .i64 wi, .int .i64 mo, .int .i64 m, .int .i64 c, .bool k, .bool s, .int .i64 v, .int .i64 x, .int .i64 ti, .int .i64 tr] 36)) _
  generalize w.alloc (.cells #[.int .i64 p, .int .i64 q, .int .i64 r, .int .i64 st, .int .i64 u, .string d, .int .i64 t, .bool f, .bool g, .bool h, .int .i64 n, .string y, .slice a rs.length cap, .int .i64 fi, .bool z, .int .i64 wi, .int .i64 mo, .int .i64 m, .int .i64 c, .bool k, .bool s, .int .i64 v, .int .i64 x, .int .i64 ti, .int .i64 tr] 36) = v0 at B0 KA0 ⊢
  generalize w.heap.size = g_A at KA0 ⊢
  refine (T.out _).mono ?_
  rintro e v1 ⟨rfl, hb⟩
  have B1 := Lib.hid (B0.out.trans (hb.mono B0.out.size))
  have KA1 := Lib.hid (KA0.out.below hb)
  clear hb B0 KA0
  have cA4 : v1.cell? ⟨g_A, 4, none⟩ = some (.int .i64 u) := KA1.out.cell 4 _ rfl
  have cA5 : v1.cell? ⟨g_A, 5, none⟩ = some (.string d) := KA1.out.cell 5 _ rfl
  have cA6 : v1.cell? ⟨g_A, 6, none⟩ = some (.int .i64 t) := KA1.out.cell 6 _ rfl
  have cA7 : v1.cell? ⟨g_A, 7, none⟩ = some (.bool f) := KA1.out.cell 7 _ rfl
  have cA8 : v1.cell? ⟨g_A, 8, none⟩ = some (.bool g) := KA1.out.cell 8 _ rfl
  have cA9 : v1.cell? ⟨g_A, 9, none⟩ = some (.bool h) := KA1.out.cell 9 _ rfl
  go_wp2_with fail
  clear cA4 cA5 cA6 cA7 cA8 cA9
  refine (S.out _).mono ?_
  rintro e v2 ⟨rfl, hb⟩
  have B2 := Lib.hid (B1.out.trans (hb.mono B1.out.size))
  have KA2 := Lib.hid (KA1.out.below hb)
  clear hb B1 KA1
  have cA10 : v2.cell? ⟨g_A, 10, none⟩ = some (.int .i64 n) := KA2.out.cell 10 _ rfl
  have cA11 : v2.cell? ⟨g_A, 11, none⟩ = some (.string y) := KA2.out.cell 11 _ rfl
  have cA12 : v2.cell? ⟨g_A, 12, none⟩ = some (.slice a rs.length cap) := KA2.out.cell 12 _ rfl
  have cA13 : v2.cell? ⟨g_A, 13, none⟩ = some (.int .i64 fi) := KA2.out.cell 13 _ rfl
  have cA14 : v2.cell? ⟨g_A, 14, none⟩ = some (.bool z) := KA2.out.cell 14 _ rfl
  go_wp2_with fail
  clear cA10 cA11 cA12 cA13 cA14
  refine (R.out _ ((HR.out.below B2.out).mono B2.out.size)).mono ?_
  rintro e v3 ⟨rfl, hb⟩
  have B3 := Lib.hid (B2.out.trans (hb.mono B2.out.size))
  have KA3 := Lib.hid (KA2.out.below hb)
  clear hb B2 KA2
  have cA17 : v3.cell? ⟨g_A, 17, none⟩ = some (.int .i64 m) := KA3.out.cell 17 _ rfl
  have cA18 : v3.cell? ⟨g_A, 18, none⟩ = some (.int .i64 c) := KA3.out.cell 18 _ rfl
  have cA19 : v3.cell? ⟨g_A, 19, none⟩ = some (.bool k) := KA3.out.cell 19 _ rfl
  have cA20 : v3.cell? ⟨g_A, 20, none⟩ = some (.bool s) := KA3.out.cell 20 _ rfl
  have cA21 : v3.cell? ⟨g_A, 21, none⟩ = some (.int .i64 v) := KA3.out.cell 21 _ rfl
  have cA22 : v3.cell? ⟨g_A, 22, none⟩ = some (.int .i64 x) := KA3.out.cell 22 _ rfl
  go_wp2_with fail
  clear cA17 cA18 cA19 cA20 cA21 cA22
  refine (O.out _).mono ?_
  rintro e v4 ⟨rfl, hb⟩
  have B4 := Lib.hid (B3.out.trans (hb.mono B3.out.size))
  have KA4 := Lib.hid (KA3.out.below hb)
  clear hb B3 KA3
  have cA15 : v4.cell? ⟨g_A, 15, none⟩ = some (.int .i64 wi) := KA4.out.cell 15 _ rfl
  have cA16 : v4.cell? ⟨g_A, 16, none⟩ = some (.int .i64 mo) := KA4.out.cell 16 _ rfl
  have cA23 : v4.cell? ⟨g_A, 23, none⟩ = some (.int .i64 ti) := KA4.out.cell 23 _ rfl
  have cA24 : v4.cell? ⟨g_A, 24, none⟩ = some (.int .i64 tr) := KA4.out.cell 24 _ rfl
  have cA3 : v4.cell? ⟨g_A, 3, none⟩ = some (.int .i64 st) := KA4.out.cell 3 _ rfl
  go_wp2_with fail
  go_quiet (first | (go_at_call 57; refine Calls.quiet_of_same (LT.out _)))
  go_wp2_with fail
  go_ret
  exact ⟨rfl, below_drewN B4.out _⟩

set_option maxRecDepth 100000 in
set_option maxHeartbeats 16000000 in
theorem connOkI_7 (p q r st u : Int) (d : ByteArray) (t : Int) (f g h : Bool) (n : Int) (y : ByteArray) (a : Option Addr) (cap : Nat) (rs : List HP) (fi : Int) (z : Bool) (wi mo m c : Int) (k s : Bool) (v x ti tr : Int) (hB : RB y rs) (w : World) (hrow : Row w w.heap.size a (hps rs)) (t1 : tupOk p q r = true) (t2 : sndOk ⟨u, d, t, f, g, h⟩ = true) (t3 : rcvOk ⟨n, y, rs, fi, z⟩ = true) (t4 : optOk ⟨m, c, k, s, v, x⟩ = true) (g1 : 0 ≤ wi) (g2 : wi ≤ mo) (g3 : mo ≤ 1073725440) (h4 : 0 ≤ ti) (h5 : ti ≤ cnTop st) (h6 : 0 ≤ tr) (h7 : ¬ tr ≤ 3) :
    Calls Try.prog 16 #[.agg #[.int .i64 p, .int .i64 q, .int .i64 r, .int .i64 st, .int .i64 u, .string d, .int .i64 t, .bool f, .bool g, .bool h, .int .i64 n, .string y, .slice a rs.length cap, .int .i64 fi, .bool z, .int .i64 wi, .int .i64 mo, .int .i64 m, .int .i64 c, .bool k, .bool s, .int .i64 v, .int .i64 x, .int .i64 ti, .int .i64 tr]] w (SndB (false) w) := by
  have HR := Lib.hid hrow
  clear hrow
  have T := fun w => tupOkI p q r w
  have S := fun w => sndOkI u d t f g h w
  have R := fun w (k : Row w w.heap.size a (hps rs)) => rcvOkI n fi z y a cap rs hB w k
  have O := fun w => optionsOkI m c k s v x w
  clear hB
  rw [t1] at T
  rw [t2] at S
  rw [t3] at R
  rw [t4] at O
  clear t1 t2 t3 t4
  obtain ⟨top, htop⟩ : ∃ q, cnTop st = q := ⟨_, rfl⟩
  have LT := fun w => longestI st w
  rw [htop] at LT
  rw [htop] at h5
  clear htop
  replace T := Lib.hid T
  replace S := Lib.hid S
  replace R := Lib.hid R
  replace O := Lib.hid O
  replace LT := Lib.hid LT
  have e1 : ¬ wi < 0 := by omega
  have e2 : ¬ mo < wi := by omega
  have e3 : ¬ (1073725440 : Int) < mo := by omega
  clear g1 g2 g3
  have e7 : decide (tr ≤ 3) = false := decide_eq_false h7
  go_enter Try.func16, Try.ntmps16
  have B0 := Lib.hid (show Below w.heap.size w (w.alloc (.cells #[.int .i64 p, .int .i64 q, .int .i64 r, .int .i64 st, .int .i64 u, .string d, .int .i64 t, .bool f, .bool g, .bool h, .int .i64 n, .string y, .slice a rs.length cap, .int .i64 fi, .bool z, .int .i64 wi, .int .i64 mo, .int .i64 m, .int .i64 c, .bool k, .bool s, .int .i64 v, .int .i64 x, .int .i64 ti, .int .i64 tr] 36)) from ((Below.refl _ w).alloc (by simp) _))
  have KA0 := Lib.hid (show Blk (w.alloc (.cells #[.int .i64 p, .int .i64 q, .int .i64 r, .int .i64 st, .int .i64 u, .string d, .int .i64 t, .bool f, .bool g, .bool h, .int .i64 n, .string y, .slice a rs.length cap, .int .i64 fi, .bool z, .int .i64 wi, .int .i64 mo, .int .i64 m, .int .i64 c, .bool k, .bool s, .int .i64 v, .int .i64 x, .int .i64 ti, .int .i64 tr] 36)) (w.heap.size) [.int .i64 p, .int .i64 q, .int .i64 r, .int .i64 st, .int .i64 u, .string d, .int .i64 t, .bool f, .bool g, .bool h, .int .i64 n, .string y, .slice a rs.length cap, .int .i64 fi, .bool z, .int .i64 wi, .int .i64 mo, .int .i64 m, .int .i64 c, .bool k, .bool s, .int .i64 v, .int .i64 x, .int .i64 ti, .int .i64 tr] from Blk.new w [.int .i64 p, .int .i64 q, .int .i64 r, .int .i64 st, .int .i64 u, .string d, .int .i64 t, .bool f, .bool g, .bool h, .int .i64 n, .string y, .slice a rs.length cap, .int .i64 fi, .bool z, .int .i64 wi, .int .i64 mo, .int .i64 m, .int .i64 c, .bool k, .bool s, .int .i64 v, .int .i64 x, .int .i64 ti, .int .i64 tr] 36)
  go_wp2_with fail
  change Calls _ _ _ (w.alloc (.cells #[.int .i64 p, .int .i64 q, .int .i64 r, .int .i64 st, .int .i64 u, .string d, .int .i64 t, .bool f, .bool g, .bool h, .int .i64 n, .string y, .slice a rs.length cap, .int .i64 fi, .bool z, .int .i64 wi, .int .i64 mo, .int .i64 m, .int .i64 c, .bool k, .bool s, .int .i64 v, .int .i64 x, .int .i64 ti, .int .i64 tr] 36)) _
  generalize w.alloc (.cells #[.int .i64 p, .int .i64 q, .int .i64 r, .int .i64 st, .int .i64 u, .string d, .int .i64 t, .bool f, .bool g, .bool h, .int .i64 n, .string y, .slice a rs.length cap, .int .i64 fi, .bool z, .int .i64 wi, .int .i64 mo, .int .i64 m, .int .i64 c, .bool k, .bool s, .int .i64 v, .int .i64 x, .int .i64 ti, .int .i64 tr] 36) = v0 at B0 KA0 ⊢
  generalize w.heap.size = g_A at KA0 ⊢
  refine (T.out _).mono ?_
  rintro e v1 ⟨rfl, hb⟩
  have B1 := Lib.hid (B0.out.trans (hb.mono B0.out.size))
  have KA1 := Lib.hid (KA0.out.below hb)
  clear hb B0 KA0
  have cA4 : v1.cell? ⟨g_A, 4, none⟩ = some (.int .i64 u) := KA1.out.cell 4 _ rfl
  have cA5 : v1.cell? ⟨g_A, 5, none⟩ = some (.string d) := KA1.out.cell 5 _ rfl
  have cA6 : v1.cell? ⟨g_A, 6, none⟩ = some (.int .i64 t) := KA1.out.cell 6 _ rfl
  have cA7 : v1.cell? ⟨g_A, 7, none⟩ = some (.bool f) := KA1.out.cell 7 _ rfl
  have cA8 : v1.cell? ⟨g_A, 8, none⟩ = some (.bool g) := KA1.out.cell 8 _ rfl
  have cA9 : v1.cell? ⟨g_A, 9, none⟩ = some (.bool h) := KA1.out.cell 9 _ rfl
  go_wp2_with fail
  clear cA4 cA5 cA6 cA7 cA8 cA9
  refine (S.out _).mono ?_
  rintro e v2 ⟨rfl, hb⟩
  have B2 := Lib.hid (B1.out.trans (hb.mono B1.out.size))
  have KA2 := Lib.hid (KA1.out.below hb)
  clear hb B1 KA1
  have cA10 : v2.cell? ⟨g_A, 10, none⟩ = some (.int .i64 n) := KA2.out.cell 10 _ rfl
  have cA11 : v2.cell? ⟨g_A, 11, none⟩ = some (.string y) := KA2.out.cell 11 _ rfl
  have cA12 : v2.cell? ⟨g_A, 12, none⟩ = some (.slice a rs.length cap) := KA2.out.cell 12 _ rfl
  have cA13 : v2.cell? ⟨g_A, 13, none⟩ = some (.int .i64 fi) := KA2.out.cell 13 _ rfl
  have cA14 : v2.cell? ⟨g_A, 14, none⟩ = some (.bool z) := KA2.out.cell 14 _ rfl
  go_wp2_with fail
  clear cA10 cA11 cA12 cA13 cA14
  refine (R.out _ ((HR.out.below B2.out).mono B2.out.size)).mono ?_
  rintro e v3 ⟨rfl, hb⟩
  have B3 := Lib.hid (B2.out.trans (hb.mono B2.out.size))
  have KA3 := Lib.hid (KA2.out.below hb)
  clear hb B2 KA2
  have cA17 : v3.cell? ⟨g_A, 17, none⟩ = some (.int .i64 m) := KA3.out.cell 17 _ rfl
  have cA18 : v3.cell? ⟨g_A, 18, none⟩ = some (.int .i64 c) := KA3.out.cell 18 _ rfl
  have cA19 : v3.cell? ⟨g_A, 19, none⟩ = some (.bool k) := KA3.out.cell 19 _ rfl
  have cA20 : v3.cell? ⟨g_A, 20, none⟩ = some (.bool s) := KA3.out.cell 20 _ rfl
  have cA21 : v3.cell? ⟨g_A, 21, none⟩ = some (.int .i64 v) := KA3.out.cell 21 _ rfl
  have cA22 : v3.cell? ⟨g_A, 22, none⟩ = some (.int .i64 x) := KA3.out.cell 22 _ rfl
  go_wp2_with fail
  clear cA17 cA18 cA19 cA20 cA21 cA22
  refine (O.out _).mono ?_
  rintro e v4 ⟨rfl, hb⟩
  have B4 := Lib.hid (B3.out.trans (hb.mono B3.out.size))
  have KA4 := Lib.hid (KA3.out.below hb)
  clear hb B3 KA3
  have cA15 : v4.cell? ⟨g_A, 15, none⟩ = some (.int .i64 wi) := KA4.out.cell 15 _ rfl
  have cA16 : v4.cell? ⟨g_A, 16, none⟩ = some (.int .i64 mo) := KA4.out.cell 16 _ rfl
  have cA23 : v4.cell? ⟨g_A, 23, none⟩ = some (.int .i64 ti) := KA4.out.cell 23 _ rfl
  have cA24 : v4.cell? ⟨g_A, 24, none⟩ = some (.int .i64 tr) := KA4.out.cell 24 _ rfl
  have cA3 : v4.cell? ⟨g_A, 3, none⟩ = some (.int .i64 st) := KA4.out.cell 3 _ rfl
  go_wp2_with fail
  go_quiet (first | (go_at_call 57; refine Calls.quiet_of_same (LT.out _)))
  go_wp2_with fail
  go_ret
  exact ⟨rfl, below_drewN B4.out _⟩

set_option maxRecDepth 100000 in
set_option maxHeartbeats 16000000 in
theorem connOkI_8 (p q r st u : Int) (d : ByteArray) (t : Int) (f g h : Bool) (n : Int) (y : ByteArray) (a : Option Addr) (cap : Nat) (rs : List HP) (fi : Int) (z : Bool) (wi mo m c : Int) (k s : Bool) (v x ti tr : Int) (hB : RB y rs) (w : World) (hrow : Row w w.heap.size a (hps rs)) (t1 : tupOk p q r = true) (t2 : sndOk ⟨u, d, t, f, g, h⟩ = true) (t3 : rcvOk ⟨n, y, rs, fi, z⟩ = true) (t4 : optOk ⟨m, c, k, s, v, x⟩ = true) (g1 : 0 ≤ wi) (g2 : wi ≤ mo) (g3 : mo ≤ 1073725440) (h4 : 0 ≤ ti) (h5 : ti ≤ cnTop st) (h6 : 0 ≤ tr) (h7 : tr ≤ 3) :
    Calls Try.prog 16 #[.agg #[.int .i64 p, .int .i64 q, .int .i64 r, .int .i64 st, .int .i64 u, .string d, .int .i64 t, .bool f, .bool g, .bool h, .int .i64 n, .string y, .slice a rs.length cap, .int .i64 fi, .bool z, .int .i64 wi, .int .i64 mo, .int .i64 m, .int .i64 c, .bool k, .bool s, .int .i64 v, .int .i64 x, .int .i64 ti, .int .i64 tr]] w (SndB (cnFits st f h z) w) := by
  have HR := Lib.hid hrow
  clear hrow
  have T := fun w => tupOkI p q r w
  have S := fun w => sndOkI u d t f g h w
  have R := fun w (k : Row w w.heap.size a (hps rs)) => rcvOkI n fi z y a cap rs hB w k
  have O := fun w => optionsOkI m c k s v x w
  clear hB
  rw [t1] at T
  rw [t2] at S
  rw [t3] at R
  rw [t4] at O
  clear t1 t2 t3 t4
  obtain ⟨top, htop⟩ : ∃ q, cnTop st = q := ⟨_, rfl⟩
  have LT := fun w => longestI_b st w
  rw [htop] at LT
  have FI := Lib.hid (fun w => fitsI p q r st u d t f g h n y a cap rs fi z wi mo m c k s v x ti tr w)
  generalize cnFits st f h z = ans at FI ⊢
  rw [htop] at h5
  clear htop
  replace T := Lib.hid T
  replace S := Lib.hid S
  replace R := Lib.hid R
  replace O := Lib.hid O
  replace LT := Lib.hid LT
  have e1 : ¬ wi < 0 := by omega
  have e2 : ¬ mo < wi := by omega
  have e3 : ¬ (1073725440 : Int) < mo := by omega
  clear g1 g2 g3
  go_enter Try.func16, Try.ntmps16
  have B0 := Lib.hid (show Below w.heap.size w (w.alloc (.cells #[.int .i64 p, .int .i64 q, .int .i64 r, .int .i64 st, .int .i64 u, .string d, .int .i64 t, .bool f, .bool g, .bool h, .int .i64 n, .string y, .slice a rs.length cap, .int .i64 fi, .bool z, .int .i64 wi, .int .i64 mo, .int .i64 m, .int .i64 c, .bool k, .bool s, .int .i64 v, .int .i64 x, .int .i64 ti, .int .i64 tr] 36)) from ((Below.refl _ w).alloc (by simp) _))
  have KA0 := Lib.hid (show Blk (w.alloc (.cells #[.int .i64 p, .int .i64 q, .int .i64 r, .int .i64 st, .int .i64 u, .string d, .int .i64 t, .bool f, .bool g, .bool h, .int .i64 n, .string y, .slice a rs.length cap, .int .i64 fi, .bool z, .int .i64 wi, .int .i64 mo, .int .i64 m, .int .i64 c, .bool k, .bool s, .int .i64 v, .int .i64 x, .int .i64 ti, .int .i64 tr] 36)) (w.heap.size) [.int .i64 p, .int .i64 q, .int .i64 r, .int .i64 st, .int .i64 u, .string d, .int .i64 t, .bool f, .bool g, .bool h, .int .i64 n, .string y, .slice a rs.length cap, .int .i64 fi, .bool z, .int .i64 wi, .int .i64 mo, .int .i64 m, .int .i64 c, .bool k, .bool s, .int .i64 v, .int .i64 x, .int .i64 ti, .int .i64 tr] from Blk.new w [.int .i64 p, .int .i64 q, .int .i64 r, .int .i64 st, .int .i64 u, .string d, .int .i64 t, .bool f, .bool g, .bool h, .int .i64 n, .string y, .slice a rs.length cap, .int .i64 fi, .bool z, .int .i64 wi, .int .i64 mo, .int .i64 m, .int .i64 c, .bool k, .bool s, .int .i64 v, .int .i64 x, .int .i64 ti, .int .i64 tr] 36)
  go_wp2_with fail
  change Calls _ _ _ (w.alloc (.cells #[.int .i64 p, .int .i64 q, .int .i64 r, .int .i64 st, .int .i64 u, .string d, .int .i64 t, .bool f, .bool g, .bool h, .int .i64 n, .string y, .slice a rs.length cap, .int .i64 fi, .bool z, .int .i64 wi, .int .i64 mo, .int .i64 m, .int .i64 c, .bool k, .bool s, .int .i64 v, .int .i64 x, .int .i64 ti, .int .i64 tr] 36)) _
  generalize w.alloc (.cells #[.int .i64 p, .int .i64 q, .int .i64 r, .int .i64 st, .int .i64 u, .string d, .int .i64 t, .bool f, .bool g, .bool h, .int .i64 n, .string y, .slice a rs.length cap, .int .i64 fi, .bool z, .int .i64 wi, .int .i64 mo, .int .i64 m, .int .i64 c, .bool k, .bool s, .int .i64 v, .int .i64 x, .int .i64 ti, .int .i64 tr] 36) = v0 at B0 KA0 ⊢
  generalize w.heap.size = g_A at KA0 ⊢
  refine (T.out _).mono ?_
  rintro e v1 ⟨rfl, hb⟩
  have B1 := Lib.hid (B0.out.trans (hb.mono B0.out.size))
  have KA1 := Lib.hid (KA0.out.below hb)
  clear hb B0 KA0
  have cA4 : v1.cell? ⟨g_A, 4, none⟩ = some (.int .i64 u) := KA1.out.cell 4 _ rfl
  have cA5 : v1.cell? ⟨g_A, 5, none⟩ = some (.string d) := KA1.out.cell 5 _ rfl
  have cA6 : v1.cell? ⟨g_A, 6, none⟩ = some (.int .i64 t) := KA1.out.cell 6 _ rfl
  have cA7 : v1.cell? ⟨g_A, 7, none⟩ = some (.bool f) := KA1.out.cell 7 _ rfl
  have cA8 : v1.cell? ⟨g_A, 8, none⟩ = some (.bool g) := KA1.out.cell 8 _ rfl
  have cA9 : v1.cell? ⟨g_A, 9, none⟩ = some (.bool h) := KA1.out.cell 9 _ rfl
  go_wp2_with fail
  clear cA4 cA5 cA6 cA7 cA8 cA9
  refine (S.out _).mono ?_
  rintro e v2 ⟨rfl, hb⟩
  have B2 := Lib.hid (B1.out.trans (hb.mono B1.out.size))
  have KA2 := Lib.hid (KA1.out.below hb)
  clear hb B1 KA1
  have cA10 : v2.cell? ⟨g_A, 10, none⟩ = some (.int .i64 n) := KA2.out.cell 10 _ rfl
  have cA11 : v2.cell? ⟨g_A, 11, none⟩ = some (.string y) := KA2.out.cell 11 _ rfl
  have cA12 : v2.cell? ⟨g_A, 12, none⟩ = some (.slice a rs.length cap) := KA2.out.cell 12 _ rfl
  have cA13 : v2.cell? ⟨g_A, 13, none⟩ = some (.int .i64 fi) := KA2.out.cell 13 _ rfl
  have cA14 : v2.cell? ⟨g_A, 14, none⟩ = some (.bool z) := KA2.out.cell 14 _ rfl
  go_wp2_with fail
  clear cA10 cA11 cA12 cA13 cA14
  refine (R.out _ ((HR.out.below B2.out).mono B2.out.size)).mono ?_
  rintro e v3 ⟨rfl, hb⟩
  have B3 := Lib.hid (B2.out.trans (hb.mono B2.out.size))
  have KA3 := Lib.hid (KA2.out.below hb)
  clear hb B2 KA2
  have cA17 : v3.cell? ⟨g_A, 17, none⟩ = some (.int .i64 m) := KA3.out.cell 17 _ rfl
  have cA18 : v3.cell? ⟨g_A, 18, none⟩ = some (.int .i64 c) := KA3.out.cell 18 _ rfl
  have cA19 : v3.cell? ⟨g_A, 19, none⟩ = some (.bool k) := KA3.out.cell 19 _ rfl
  have cA20 : v3.cell? ⟨g_A, 20, none⟩ = some (.bool s) := KA3.out.cell 20 _ rfl
  have cA21 : v3.cell? ⟨g_A, 21, none⟩ = some (.int .i64 v) := KA3.out.cell 21 _ rfl
  have cA22 : v3.cell? ⟨g_A, 22, none⟩ = some (.int .i64 x) := KA3.out.cell 22 _ rfl
  go_wp2_with fail
  clear cA17 cA18 cA19 cA20 cA21 cA22
  refine (O.out _).mono ?_
  rintro e v4 ⟨rfl, hb⟩
  have B4 := Lib.hid (B3.out.trans (hb.mono B3.out.size))
  have KA4 := Lib.hid (KA3.out.below hb)
  clear hb B3 KA3
  have cA15 : v4.cell? ⟨g_A, 15, none⟩ = some (.int .i64 wi) := KA4.out.cell 15 _ rfl
  have cA16 : v4.cell? ⟨g_A, 16, none⟩ = some (.int .i64 mo) := KA4.out.cell 16 _ rfl
  have cA23 : v4.cell? ⟨g_A, 23, none⟩ = some (.int .i64 ti) := KA4.out.cell 23 _ rfl
  have cA24 : v4.cell? ⟨g_A, 24, none⟩ = some (.int .i64 tr) := KA4.out.cell 24 _ rfl
  have cA3 : v4.cell? ⟨g_A, 3, none⟩ = some (.int .i64 st) := KA4.out.cell 3 _ rfl
  go_wp2_with fail
  clear cA15 cA16 cA23 cA24 cA3
  have cA23 : v4.cell? ⟨g_A, 23, none⟩ = some (.int .i64 ti) := KA4.out.cell 23 _ rfl
  have cA24 : v4.cell? ⟨g_A, 24, none⟩ = some (.int .i64 tr) := KA4.out.cell 24 _ rfl
  have cA3 : v4.cell? ⟨g_A, 3, none⟩ = some (.int .i64 st) := KA4.out.cell 3 _ rfl
  have P4_0 : True := trivial
  go_region_held3 (fun w' => w'.cell? ⟨g_A, 23, none⟩ = some (.int .i64 ti) ∧ w'.cell? ⟨g_A, 24, none⟩ = some (.int .i64 tr) ∧ w'.cell? ⟨g_A, 3, none⟩ = some (.int .i64 st))
    (first | go_keep | (exact ⟨KA5.out.cell 23 _ rfl, KA5.out.cell 24 _ rfl, KA5.out.cell 3 _ rfl⟩))
    ((have q := P4_0; go_at_call 57; clear q P4_0; refine (LT.out _).mono ?_; rintro e v5 ⟨rfl, hb⟩; replace hb := (Below.refl _ v4).drew.trans hb; have B5 := Lib.hid (B4.out.trans (hb.mono B4.out.size)); have KA5 := Lib.hid (KA4.out.below hb); clear hb B4 KA4))
  try clear cA23 cA24 cA3
  have HLA := blk_load (P := Try.prog) 36 KA5.out Try.underlying36 rfl (by kernel_rfl)
  go_wp2_with (refine wpList_load_val rfl _ _ rfl _ _ rfl HLA ?_)
  clear HLA
  refine (FI.out _).mono ?_
  rintro e v6 ⟨rfl, hb⟩
  have B6 := Lib.hid (B5.out.trans (hb.mono B5.out.size))
  have KA6 := Lib.hid (KA5.out.below hb)
  clear hb B5 KA5
  go_wp2_with fail
  go_ret
  exact ⟨rfl, B6.out⟩

theorem connOkI (p q r st u : Int) (d : ByteArray) (t : Int) (f g h : Bool) (n : Int) (y : ByteArray) (a : Option Addr) (cap : Nat) (rs : List HP) (fi : Int) (z : Bool) (wi mo m c : Int) (k s : Bool) (v x ti tr : Int) (hB : RB y rs) (w : World) (hrow : Row w w.heap.size a (hps rs)) :
    Calls Try.prog 16 #[.agg #[.int .i64 p, .int .i64 q, .int .i64 r, .int .i64 st, .int .i64 u, .string d, .int .i64 t, .bool f, .bool g, .bool h, .int .i64 n, .string y, .slice a rs.length cap, .int .i64 fi, .bool z, .int .i64 wi, .int .i64 mo, .int .i64 m, .int .i64 c, .bool k, .bool s, .int .i64 v, .int .i64 x, .int .i64 ti, .int .i64 tr]] w (SndB (cnOk ⟨p, q, r, st, ⟨u, d, t, f, g, h⟩, ⟨n, y, rs, fi, z⟩, wi, mo, ⟨m, c, k, s, v, x⟩, ti, tr⟩) w) := by
  by_cases hno : tupOk p q r = true ∧ sndOk ⟨u, d, t, f, g, h⟩ = true ∧ rcvOk ⟨n, y, rs, fi, z⟩ = true ∧ optOk ⟨m, c, k, s, v, x⟩ = true ∧ 0 ≤ wi ∧ wi ≤ mo ∧ mo ≤ 1073725440
  · obtain ⟨t1, t2, t3, t4, g1, g2, g3⟩ := hno
    by_cases h4 : 0 ≤ ti
    · by_cases h5 : ti ≤ cnTop st
      · by_cases h6 : 0 ≤ tr
        · by_cases h7 : tr ≤ 3
          · have e : cnOk ⟨p, q, r, st, ⟨u, d, t, f, g, h⟩, ⟨n, y, rs, fi, z⟩, wi, mo, ⟨m, c, k, s, v, x⟩, ti, tr⟩ = cnFits st f h z := by unfold cnOk; simp only [t1, t2, t3, t4, Bool.true_and]; exact cnTail_yes rfl g1 g2 g3 h6 h7 h4 h5
            rw [e]
            exact connOkI_8 p q r st u d t f g h n y a cap rs fi z wi mo m c k s v x ti tr hB w hrow t1 t2 t3 t4 g1 g2 g3 h4 h5 h6 h7
          · have e : cnOk ⟨p, q, r, st, ⟨u, d, t, f, g, h⟩, ⟨n, y, rs, fi, z⟩, wi, mo, ⟨m, c, k, s, v, x⟩, ti, tr⟩ = false := by unfold cnOk; rw [show cnTail st f h z wi mo ti tr = false from cnTail_no rfl (fun _ _ _ _ _ _ _ _ _ => by omega)]; simp
            rw [e]
            exact connOkI_7 p q r st u d t f g h n y a cap rs fi z wi mo m c k s v x ti tr hB w hrow t1 t2 t3 t4 g1 g2 g3 h4 h5 h6 h7
        · have e : cnOk ⟨p, q, r, st, ⟨u, d, t, f, g, h⟩, ⟨n, y, rs, fi, z⟩, wi, mo, ⟨m, c, k, s, v, x⟩, ti, tr⟩ = false := by unfold cnOk; rw [show cnTail st f h z wi mo ti tr = false from cnTail_no rfl (fun _ _ _ _ _ _ _ _ _ => by omega)]; simp
          rw [e]
          exact connOkI_6 p q r st u d t f g h n y a cap rs fi z wi mo m c k s v x ti tr hB w hrow t1 t2 t3 t4 g1 g2 g3 h4 h5 h6
      · have e : cnOk ⟨p, q, r, st, ⟨u, d, t, f, g, h⟩, ⟨n, y, rs, fi, z⟩, wi, mo, ⟨m, c, k, s, v, x⟩, ti, tr⟩ = false := by unfold cnOk; rw [show cnTail st f h z wi mo ti tr = false from cnTail_no rfl (fun _ _ _ _ _ _ _ _ _ => by omega)]; simp
        rw [e]
        exact connOkI_5 p q r st u d t f g h n y a cap rs fi z wi mo m c k s v x ti tr hB w hrow t1 t2 t3 t4 g1 g2 g3 h4 h5
    · have e : cnOk ⟨p, q, r, st, ⟨u, d, t, f, g, h⟩, ⟨n, y, rs, fi, z⟩, wi, mo, ⟨m, c, k, s, v, x⟩, ti, tr⟩ = false := by unfold cnOk; rw [show cnTail st f h z wi mo ti tr = false from cnTail_no rfl (fun _ _ _ _ _ _ _ _ _ => by omega)]; simp
      rw [e]
      exact connOkI_4 p q r st u d t f g h n y a cap rs fi z wi mo m c k s v x ti tr hB w hrow t1 t2 t3 t4 g1 g2 g3 h4
  · exact connOkI_no p q r st u d t f g h n y a cap rs fi z wi mo m c k s v x ti tr hB w hrow hno
end Go.Proofs.Ytajekjjaaohbnaa
