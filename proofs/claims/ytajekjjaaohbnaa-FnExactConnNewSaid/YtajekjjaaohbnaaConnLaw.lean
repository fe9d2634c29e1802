/- The laws' own szConn, toConn, eqConn, markConn, heldConn. Nothing here is a claim. -/
import Derived.Test.YtajekjjaaohbnaaConnKit
import Derived.Test.YtajekjjaaohbnaaBulk
import Derived.Test.YtajekjjaaohbnaaRcvLaw2
import Derived.Test.YtajekjjaaohbnaaTupleLaw
import Derived.Test.YtajekjjaaohbnaaTupleEq
import Derived.Test.YtajekjjaaohbnaaSenderLaw
import Derived.Test.YtajekjjaaohbnaaSenderEq
import Derived.Test.YtajekjjaaohbnaaOptionsLaw
import Derived.Test.YtajekjjaaohbnaaOptionsEq
import Derived.Test.YtajekjjaaohbnaaCurA
import Derived.Test.YtajekjjaaohbnaaTabMac
namespace Go.Proofs.Ytajekjjaaohbnaa
open Go.RowKit Go.Lib

/-- A connection whose pieces lie in new memory, of full capacity: never nil. -/
def ToCn (C : Cn) (w : World) (e : Ending) (w' : World) : Prop :=
  ∃ g, e = .returned (.agg #[.int .i64 C.p, .int .i64 C.q, .int .i64 C.r, .int .i64 C.st, .int .i64 C.S.u, .string C.S.d, .int .i64 C.S.t, .bool C.S.f, .bool C.S.g, .bool C.S.h, .int .i64 C.R.n, .string C.R.d, .slice (some ⟨g, 0, none⟩) C.R.rs.length C.R.rs.length, .int .i64 C.R.f, .bool C.R.z, .int .i64 C.wi, .int .i64 C.mo, .int .i64 C.O.m, .int .i64 C.O.c, .bool C.O.k, .bool C.O.t, .int .i64 C.O.v, .int .i64 C.O.e, .int .i64 C.ti, .int .i64 C.tr]) ∧ w'.ownsRow w.heap.size 100 2 (.slice (some ⟨g, 0, none⟩) C.R.rs.length C.R.rs.length) C.R.rs.length (hps C.R.rs) ∧ Below w.heap.size w w'
/-- A connection whose pieces lie in new memory, or that holds none. -/
def NewCn (C : Cn) (w : World) (e : Ending) (w' : World) : Prop :=
  ∃ a cap, e = .returned (.agg #[.int .i64 C.p, .int .i64 C.q, .int .i64 C.r, .int .i64 C.st, .int .i64 C.S.u, .string C.S.d, .int .i64 C.S.t, .bool C.S.f, .bool C.S.g, .bool C.S.h, .int .i64 C.R.n, .string C.R.d, .slice a C.R.rs.length cap, .int .i64 C.R.f, .bool C.R.z, .int .i64 C.wi, .int .i64 C.mo, .int .i64 C.O.m, .int .i64 C.O.c, .bool C.O.k, .bool C.O.t, .int .i64 C.O.v, .int .i64 C.O.e, .int .i64 C.ti, .int .i64 C.tr]) ∧ w'.ownsRow w.heap.size 100 2 (.slice a C.R.rs.length cap) C.R.rs.length (hps C.R.rs) ∧ Below w.heap.size w w'
/-- What szConn tells. -/
def SzC (d y : ByteArray) (rs : List HP) (left : Int) (w : World) (e : Ending) (w' : World) : Prop :=
  Below w.heap.size w w' ∧ ∃ r : Int, e = .returned (.int .i64 r) ∧ r ≤ left ∧ (0 ≤ r → (d.size : Int) ≤ left ∧ r = left - d.size - y.size - rs.length - plens rs)

set_option maxRecDepth 100000 in
set_option maxHeartbeats 4000000 in
theorem szConn_any (p q r st u : Int) (d : ByteArray) (t : Int) (f g h : Bool) (n : Int) (y : ByteArray) (a : Option Addr) (cap : Nat) (rs : List HP) (fi : Int) (z : Bool) (wi mo m c : Int) (k s : Bool) (v x ti tr : Int) (left : Int) (w : World) (hrow : Row w w.heap.size a (hps rs)) (hd : d.size ≤ maxLen) (hy : y.size ≤ maxLen) (hl : rs.length ≤ maxLen) (hsz : ∀ r ∈ rs, r.t.size ≤ maxLen) (h0 : 0 ≤ left) (h1 : left ≤ 1048576) :
    Calls Try.prog 26 #[.agg #[.int .i64 p, .int .i64 q, .int .i64 r, .int .i64 st, .int .i64 u, .string d, .int .i64 t, .bool f, .bool g, .bool h, .int .i64 n, .string y, .slice a rs.length cap, .int .i64 fi, .bool z, .int .i64 wi, .int .i64 mo, .int .i64 m, .int .i64 c, .bool k, .bool s, .int .i64 v, .int .i64 x, .int .i64 ti, .int .i64 tr], .int .i64 left] w (SzC d y rs left w) := by
  have HR := Lib.hid hrow
  replace hy := Lib.hid hy
  replace hl := Lib.hid hl
  replace hsz := Lib.hid hsz
  clear hrow
  by_cases hq : (d.size : Int) ≤ left
  case neg =>
    have SN := Lib.hid (fun w => szSender_no u d t f g h left w h0 hd (by omega))
    clear hd
    go_enter Try.func26, Try.ntmps26
    have B0 := Lib.hid (show Below w.heap.size w (w.alloc (.cells #[.int .i64 p, .int .i64 q, .int .i64 r, .int .i64 st, .int .i64 u, .string d, .int .i64 t, .bool f, .bool g, .bool h, .int .i64 n, .string y, .slice a rs.length cap, .int .i64 fi, .bool z, .int .i64 wi, .int .i64 mo, .int .i64 m, .int .i64 c, .bool k, .bool s, .int .i64 v, .int .i64 x, .int .i64 ti, .int .i64 tr] 58)) from ((Below.refl _ w).alloc (by simp) _))
    have KA0 := Lib.hid (show Blk (w.alloc (.cells #[.int .i64 p, .int .i64 q, .int .i64 r, .int .i64 st, .int .i64 u, .string d, .int .i64 t, .bool f, .bool g, .bool h, .int .i64 n, .string y, .slice a rs.length cap, .int .i64 fi, .bool z, .int .i64 wi, .int .i64 mo, .int .i64 m, .int .i64 c, .bool k, .bool s, .int .i64 v, .int .i64 x, .int .i64 ti, .int .i64 tr] 58)) (w.heap.size) [.int .i64 p, .int .i64 q, .int .i64 r, .int .i64 st, .int .i64 u, .string d, .int .i64 t, .bool f, .bool g, .bool h, .int .i64 n, .string y, .slice a rs.length cap, .int .i64 fi, .bool z, .int .i64 wi, .int .i64 mo, .int .i64 m, .int .i64 c, .bool k, .bool s, .int .i64 v, .int .i64 x, .int .i64 ti, .int .i64 tr] from Blk.new w [.int .i64 p, .int .i64 q, .int .i64 r, .int .i64 st, .int .i64 u, .string d, .int .i64 t, .bool f, .bool g, .bool h, .int .i64 n, .string y, .slice a rs.length cap, .int .i64 fi, .bool z, .int .i64 wi, .int .i64 mo, .int .i64 m, .int .i64 c, .bool k, .bool s, .int .i64 v, .int .i64 x, .int .i64 ti, .int .i64 tr] 58)
    go_wp2_with fail
    change Calls _ _ _ (w.alloc (.cells #[.int .i64 p, .int .i64 q, .int .i64 r, .int .i64 st, .int .i64 u, .string d, .int .i64 t, .bool f, .bool g, .bool h, .int .i64 n, .string y, .slice a rs.length cap, .int .i64 fi, .bool z, .int .i64 wi, .int .i64 mo, .int .i64 m, .int .i64 c, .bool k, .bool s, .int .i64 v, .int .i64 x, .int .i64 ti, .int .i64 tr] 58)) _
    generalize w.alloc (.cells #[.int .i64 p, .int .i64 q, .int .i64 r, .int .i64 st, .int .i64 u, .string d, .int .i64 t, .bool f, .bool g, .bool h, .int .i64 n, .string y, .slice a rs.length cap, .int .i64 fi, .bool z, .int .i64 wi, .int .i64 mo, .int .i64 m, .int .i64 c, .bool k, .bool s, .int .i64 v, .int .i64 x, .int .i64 ti, .int .i64 tr] 58) = v0 at B0 KA0 ⊢
    generalize w.heap.size = g_A at KA0 ⊢
    refine (SN.out _).mono ?_
    rintro e v1 ⟨rfl, hb⟩
    have B1 := Lib.hid (B0.out.trans (hb.mono B0.out.size))
    have KA1 := Lib.hid (KA0.out.below hb)
    clear hb B0 KA0
    go_wp2_with fail
    go_ret
    exact ⟨B1.out, -1, rfl, by omega, fun h => by omega⟩
  have SY := fun w => szSender_yes u d t f g h left w h1 hq
  obtain ⟨l1, hl1⟩ : ∃ q, left - (d.size : Int) = q := ⟨_, rfl⟩
  rw [hl1] at SY
  replace SY := Lib.hid SY
  replace h0 : 0 ≤ l1 := by omega
  go_enter Try.func26, Try.ntmps26
  have B0 := Lib.hid (show Below w.heap.size w (w.alloc (.cells #[.int .i64 p, .int .i64 q, .int .i64 r, .int .i64 st, .int .i64 u, .string d, .int .i64 t, .bool f, .bool g, .bool h, .int .i64 n, .string y, .slice a rs.length cap, .int .i64 fi, .bool z, .int .i64 wi, .int .i64 mo, .int .i64 m, .int .i64 c, .bool k, .bool s, .int .i64 v, .int .i64 x, .int .i64 ti, .int .i64 tr] 58)) from ((Below.refl _ w).alloc (by simp) _))
  have KA0 := Lib.hid (show Blk (w.alloc (.cells #[.int .i64 p, .int .i64 q, .int .i64 r, .int .i64 st, .int .i64 u, .string d, .int .i64 t, .bool f, .bool g, .bool h, .int .i64 n, .string y, .slice a rs.length cap, .int .i64 fi, .bool z, .int .i64 wi, .int .i64 mo, .int .i64 m, .int .i64 c, .bool k, .bool s, .int .i64 v, .int .i64 x, .int .i64 ti, .int .i64 tr] 58)) (w.heap.size) [.int .i64 p, .int .i64 q, .int .i64 r, .int .i64 st, .int .i64 u, .string d, .int .i64 t, .bool f, .bool g, .bool h, .int .i64 n, .string y, .slice a rs.length cap, .int .i64 fi, .bool z, .int .i64 wi, .int .i64 mo, .int .i64 m, .int .i64 c, .bool k, .bool s, .int .i64 v, .int .i64 x, .int .i64 ti, .int .i64 tr] from Blk.new w [.int .i64 p, .int .i64 q, .int .i64 r, .int .i64 st, .int .i64 u, .string d, .int .i64 t, .bool f, .bool g, .bool h, .int .i64 n, .string y, .slice a rs.length cap, .int .i64 fi, .bool z, .int .i64 wi, .int .i64 mo, .int .i64 m, .int .i64 c, .bool k, .bool s, .int .i64 v, .int .i64 x, .int .i64 ti, .int .i64 tr] 58)
  go_wp2_with fail
  change Calls _ _ _ (w.alloc (.cells #[.int .i64 p, .int .i64 q, .int .i64 r, .int .i64 st, .int .i64 u, .string d, .int .i64 t, .bool f, .bool g, .bool h, .int .i64 n, .string y, .slice a rs.length cap, .int .i64 fi, .bool z, .int .i64 wi, .int .i64 mo, .int .i64 m, .int .i64 c, .bool k, .bool s, .int .i64 v, .int .i64 x, .int .i64 ti, .int .i64 tr] 58)) _
  generalize w.alloc (.cells #[.int .i64 p, .int .i64 q, .int .i64 r, .int .i64 st, .int .i64 u, .string d, .int .i64 t, .bool f, .bool g, .bool h, .int .i64 n, .string y, .slice a rs.length cap, .int .i64 fi, .bool z, .int .i64 wi, .int .i64 mo, .int .i64 m, .int .i64 c, .bool k, .bool s, .int .i64 v, .int .i64 x, .int .i64 ti, .int .i64 tr] 58) = v0 at B0 KA0 ⊢
  generalize w.heap.size = g_A at KA0 ⊢
  refine (SY.out _).mono ?_
  rintro e v1 ⟨rfl, hb⟩
  have B1 := Lib.hid (B0.out.trans (hb.mono B0.out.size))
  have KA1 := Lib.hid (KA0.out.below hb)
  clear hb B0 KA0
  have cA10 : v1.cell? ⟨g_A, 10, none⟩ = some (.int .i64 n) := KA1.out.cell 10 _ rfl
  have cA11 : v1.cell? ⟨g_A, 11, none⟩ = some (.string y) := KA1.out.cell 11 _ rfl
  have cA12 : v1.cell? ⟨g_A, 12, none⟩ = some (.slice a rs.length cap) := KA1.out.cell 12 _ rfl
  have cA13 : v1.cell? ⟨g_A, 13, none⟩ = some (.int .i64 fi) := KA1.out.cell 13 _ rfl
  have cA14 : v1.cell? ⟨g_A, 14, none⟩ = some (.bool z) := KA1.out.cell 14 _ rfl
  go_wp2_with fail
  refine (szReceiver_any n fi z y a cap rs l1 _ ((HR.out.below B1.out).mono B1.out.size) hy.out hl.out hsz.out h0 (by omega)).mono ?_
  rintro e v9 ⟨hb, j, rfl, hr1, hr2⟩
  have HB := Lib.hid (B1.out.trans (hb.mono B1.out.size))
  have HQ := Lib.hid hr2
  clear cA10 cA11 cA12 cA13 cA14
  clear hb hr2 B1 KA1
  by_cases hz : j < 0
  · go_wp2_with fail
    go_ret
    exact ⟨HB.out, -1, rfl, by omega, fun h => by omega⟩
  · go_wp2_with fail
    go_ret
    exact ⟨HB.out, j, rfl, by omega, fun h => by have := HQ.out h; omega⟩

set_option maxRecDepth 100000 in
set_option maxHeartbeats 16000000 in
theorem toConn_any (p q r st u : Int) (d : ByteArray) (t : Int) (f g h : Bool) (n : Int) (y : ByteArray) (a : Option Addr) (cap : Nat) (rs : List HP) (fi : Int) (z : Bool) (wi mo m c : Int) (k s : Bool) (v x ti tr : Int) (w : World) (hrow : Row w w.heap.size a (hps rs)) (hl : rs.length ≤ 1048576) :
    Calls Try.prog 28 #[.agg #[.int .i64 p, .int .i64 q, .int .i64 r, .int .i64 st, .int .i64 u, .string d, .int .i64 t, .bool f, .bool g, .bool h, .int .i64 n, .string y, .slice a rs.length cap, .int .i64 fi, .bool z, .int .i64 wi, .int .i64 mo, .int .i64 m, .int .i64 c, .bool k, .bool s, .int .i64 v, .int .i64 x, .int .i64 ti, .int .i64 tr]] w (ToCn ⟨p, q, r, st, ⟨u, d, t, f, g, h⟩, ⟨n, y, rs, fi, z⟩, wi, mo, ⟨m, c, k, s, v, x⟩, ti, tr⟩ w) := by
  have HR := Lib.hid hrow
  replace hl := Lib.hid hl
  clear hrow
  go_enter Try.func28, Try.ntmps28
  have B0 := Lib.hid (show Below w.heap.size w (((w.alloc (.cells #[.int .i64 p, .int .i64 q, .int .i64 r, .int .i64 st, .int .i64 u, .string d, .int .i64 t, .bool f, .bool g, .bool h, .int .i64 n, .string y, .slice a rs.length cap, .int .i64 fi, .bool z, .int .i64 wi, .int .i64 mo, .int .i64 m, .int .i64 c, .bool k, .bool s, .int .i64 v, .int .i64 x, .int .i64 ti, .int .i64 tr] 58)).alloc (.cells #[.int .i64 0, .int .i64 0, .int .i64 0, .int .i64 0, .int .i64 0, .string ⟨#[]⟩, .int .i64 0, .bool false, .bool false, .bool false, .int .i64 0, .string ⟨#[]⟩, .slice none 0 0, .int .i64 0, .bool false, .int .i64 0, .int .i64 0, .int .i64 0, .int .i64 0, .bool false, .bool false, .int .i64 0, .int .i64 0, .int .i64 0, .int .i64 0] 36)).alloc (.cells #[.int .i64 0, .int .i64 0, .int .i64 0, .int .i64 0, .int .i64 0, .string ⟨#[]⟩, .int .i64 0, .bool false, .bool false, .bool false, .int .i64 0, .string ⟨#[]⟩, .slice none 0 0, .int .i64 0, .bool false, .int .i64 0, .int .i64 0, .int .i64 0, .int .i64 0, .bool false, .bool false, .int .i64 0, .int .i64 0, .int .i64 0, .int .i64 0] 36)) from ((((Below.refl _ w).alloc (by simp) _).alloc (by simp) _).alloc (by simp; omega) _))
  have KA0 := Lib.hid (show Blk (((w.alloc (.cells #[.int .i64 p, .int .i64 q, .int .i64 r, .int .i64 st, .int .i64 u, .string d, .int .i64 t, .bool f, .bool g, .bool h, .int .i64 n, .string y, .slice a rs.length cap, .int .i64 fi, .bool z, .int .i64 wi, .int .i64 mo, .int .i64 m, .int .i64 c, .bool k, .bool s, .int .i64 v, .int .i64 x, .int .i64 ti, .int .i64 tr] 58)).alloc (.cells #[.int .i64 0, .int .i64 0, .int .i64 0, .int .i64 0, .int .i64 0, .string ⟨#[]⟩, .int .i64 0, .bool false, .bool false, .bool false, .int .i64 0, .string ⟨#[]⟩, .slice none 0 0, .int .i64 0, .bool false, .int .i64 0, .int .i64 0, .int .i64 0, .int .i64 0, .bool false, .bool false, .int .i64 0, .int .i64 0, .int .i64 0, .int .i64 0] 36)).alloc (.cells #[.int .i64 0, .int .i64 0, .int .i64 0, .int .i64 0, .int .i64 0, .string ⟨#[]⟩, .int .i64 0, .bool false, .bool false, .bool false, .int .i64 0, .string ⟨#[]⟩, .slice none 0 0, .int .i64 0, .bool false, .int .i64 0, .int .i64 0, .int .i64 0, .int .i64 0, .bool false, .bool false, .int .i64 0, .int .i64 0, .int .i64 0, .int .i64 0] 36)) (w.heap.size) [.int .i64 p, .int .i64 q, .int .i64 r, .int .i64 st, .int .i64 u, .string d, .int .i64 t, .bool f, .bool g, .bool h, .int .i64 n, .string y, .slice a rs.length cap, .int .i64 fi, .bool z, .int .i64 wi, .int .i64 mo, .int .i64 m, .int .i64 c, .bool k, .bool s, .int .i64 v, .int .i64 x, .int .i64 ti, .int .i64 tr] from ((Blk.new w [.int .i64 p, .int .i64 q, .int .i64 r, .int .i64 st, .int .i64 u, .string d, .int .i64 t, .bool f, .bool g, .bool h, .int .i64 n, .string y, .slice a rs.length cap, .int .i64 fi, .bool z, .int .i64 wi, .int .i64 mo, .int .i64 m, .int .i64 c, .bool k, .bool s, .int .i64 v, .int .i64 x, .int .i64 ti, .int .i64 tr] 58).alloc (.cells #[.int .i64 0, .int .i64 0, .int .i64 0, .int .i64 0, .int .i64 0, .string ⟨#[]⟩, .int .i64 0, .bool false, .bool false, .bool false, .int .i64 0, .string ⟨#[]⟩, .slice none 0 0, .int .i64 0, .bool false, .int .i64 0, .int .i64 0, .int .i64 0, .int .i64 0, .bool false, .bool false, .int .i64 0, .int .i64 0, .int .i64 0, .int .i64 0] 36)).alloc (.cells #[.int .i64 0, .int .i64 0, .int .i64 0, .int .i64 0, .int .i64 0, .string ⟨#[]⟩, .int .i64 0, .bool false, .bool false, .bool false, .int .i64 0, .string ⟨#[]⟩, .slice none 0 0, .int .i64 0, .bool false, .int .i64 0, .int .i64 0, .int .i64 0, .int .i64 0, .bool false, .bool false, .int .i64 0, .int .i64 0, .int .i64 0, .int .i64 0] 36))
  have s1 : (w.alloc (.cells #[.int .i64 p, .int .i64 q, .int .i64 r, .int .i64 st, .int .i64 u, .string d, .int .i64 t, .bool f, .bool g, .bool h, .int .i64 n, .string y, .slice a rs.length cap, .int .i64 fi, .bool z, .int .i64 wi, .int .i64 mo, .int .i64 m, .int .i64 c, .bool k, .bool s, .int .i64 v, .int .i64 x, .int .i64 ti, .int .i64 tr] 58)).heap.size = w.heap.size + 1 := by simp
  have KR0 := Lib.hid (show Blk (((w.alloc (.cells #[.int .i64 p, .int .i64 q, .int .i64 r, .int .i64 st, .int .i64 u, .string d, .int .i64 t, .bool f, .bool g, .bool h, .int .i64 n, .string y, .slice a rs.length cap, .int .i64 fi, .bool z, .int .i64 wi, .int .i64 mo, .int .i64 m, .int .i64 c, .bool k, .bool s, .int .i64 v, .int .i64 x, .int .i64 ti, .int .i64 tr] 58)).alloc (.cells #[.int .i64 0, .int .i64 0, .int .i64 0, .int .i64 0, .int .i64 0, .string ⟨#[]⟩, .int .i64 0, .bool false, .bool false, .bool false, .int .i64 0, .string ⟨#[]⟩, .slice none 0 0, .int .i64 0, .bool false, .int .i64 0, .int .i64 0, .int .i64 0, .int .i64 0, .bool false, .bool false, .int .i64 0, .int .i64 0, .int .i64 0, .int .i64 0] 36)).alloc (.cells #[.int .i64 0, .int .i64 0, .int .i64 0, .int .i64 0, .int .i64 0, .string ⟨#[]⟩, .int .i64 0, .bool false, .bool false, .bool false, .int .i64 0, .string ⟨#[]⟩, .slice none 0 0, .int .i64 0, .bool false, .int .i64 0, .int .i64 0, .int .i64 0, .int .i64 0, .bool false, .bool false, .int .i64 0, .int .i64 0, .int .i64 0, .int .i64 0] 36)) (w.heap.size + 1) [.int .i64 0, .int .i64 0, .int .i64 0, .int .i64 0, .int .i64 0, .string ⟨#[]⟩, .int .i64 0, .bool false, .bool false, .bool false, .int .i64 0, .string ⟨#[]⟩, .slice none 0 0, .int .i64 0, .bool false, .int .i64 0, .int .i64 0, .int .i64 0, .int .i64 0, .bool false, .bool false, .int .i64 0, .int .i64 0, .int .i64 0, .int .i64 0] by have h0 := (Blk.new (w.alloc (.cells #[.int .i64 p, .int .i64 q, .int .i64 r, .int .i64 st, .int .i64 u, .string d, .int .i64 t, .bool f, .bool g, .bool h, .int .i64 n, .string y, .slice a rs.length cap, .int .i64 fi, .bool z, .int .i64 wi, .int .i64 mo, .int .i64 m, .int .i64 c, .bool k, .bool s, .int .i64 v, .int .i64 x, .int .i64 ti, .int .i64 tr] 58)) [.int .i64 0, .int .i64 0, .int .i64 0, .int .i64 0, .int .i64 0, .string ⟨#[]⟩, .int .i64 0, .bool false, .bool false, .bool false, .int .i64 0, .string ⟨#[]⟩, .slice none 0 0, .int .i64 0, .bool false, .int .i64 0, .int .i64 0, .int .i64 0, .int .i64 0, .bool false, .bool false, .int .i64 0, .int .i64 0, .int .i64 0, .int .i64 0] 36).alloc (.cells #[.int .i64 0, .int .i64 0, .int .i64 0, .int .i64 0, .int .i64 0, .string ⟨#[]⟩, .int .i64 0, .bool false, .bool false, .bool false, .int .i64 0, .string ⟨#[]⟩, .slice none 0 0, .int .i64 0, .bool false, .int .i64 0, .int .i64 0, .int .i64 0, .int .i64 0, .bool false, .bool false, .int .i64 0, .int .i64 0, .int .i64 0, .int .i64 0] 36); rwa [s1] at h0)
  have n_A_R : w.heap.size ≠ w.heap.size + 1 := by omega
  have s2 : ((w.alloc (.cells #[.int .i64 p, .int .i64 q, .int .i64 r, .int .i64 st, .int .i64 u, .string d, .int .i64 t, .bool f, .bool g, .bool h, .int .i64 n, .string y, .slice a rs.length cap, .int .i64 fi, .bool z, .int .i64 wi, .int .i64 mo, .int .i64 m, .int .i64 c, .bool k, .bool s, .int .i64 v, .int .i64 x, .int .i64 ti, .int .i64 tr] 58)).alloc (.cells #[.int .i64 0, .int .i64 0, .int .i64 0, .int .i64 0, .int .i64 0, .string ⟨#[]⟩, .int .i64 0, .bool false, .bool false, .bool false, .int .i64 0, .string ⟨#[]⟩, .slice none 0 0, .int .i64 0, .bool false, .int .i64 0, .int .i64 0, .int .i64 0, .int .i64 0, .bool false, .bool false, .int .i64 0, .int .i64 0, .int .i64 0, .int .i64 0] 36)).heap.size = w.heap.size + 1 + 1 := by simp
  have Ko0 := Lib.hid (show Blk (((w.alloc (.cells #[.int .i64 p, .int .i64 q, .int .i64 r, .int .i64 st, .int .i64 u, .string d, .int .i64 t, .bool f, .bool g, .bool h, .int .i64 n, .string y, .slice a rs.length cap, .int .i64 fi, .bool z, .int .i64 wi, .int .i64 mo, .int .i64 m, .int .i64 c, .bool k, .bool s, .int .i64 v, .int .i64 x, .int .i64 ti, .int .i64 tr] 58)).alloc (.cells #[.int .i64 0, .int .i64 0, .int .i64 0, .int .i64 0, .int .i64 0, .string ⟨#[]⟩, .int .i64 0, .bool false, .bool false, .bool false, .int .i64 0, .string ⟨#[]⟩, .slice none 0 0, .int .i64 0, .bool false, .int .i64 0, .int .i64 0, .int .i64 0, .int .i64 0, .bool false, .bool false, .int .i64 0, .int .i64 0, .int .i64 0, .int .i64 0] 36)).alloc (.cells #[.int .i64 0, .int .i64 0, .int .i64 0, .int .i64 0, .int .i64 0, .string ⟨#[]⟩, .int .i64 0, .bool false, .bool false, .bool false, .int .i64 0, .string ⟨#[]⟩, .slice none 0 0, .int .i64 0, .bool false, .int .i64 0, .int .i64 0, .int .i64 0, .int .i64 0, .bool false, .bool false, .int .i64 0, .int .i64 0, .int .i64 0, .int .i64 0] 36)) (w.heap.size + 1 + 1) [.int .i64 0, .int .i64 0, .int .i64 0, .int .i64 0, .int .i64 0, .string ⟨#[]⟩, .int .i64 0, .bool false, .bool false, .bool false, .int .i64 0, .string ⟨#[]⟩, .slice none 0 0, .int .i64 0, .bool false, .int .i64 0, .int .i64 0, .int .i64 0, .int .i64 0, .bool false, .bool false, .int .i64 0, .int .i64 0, .int .i64 0, .int .i64 0] by have h0 := Blk.new ((w.alloc (.cells #[.int .i64 p, .int .i64 q, .int .i64 r, .int .i64 st, .int .i64 u, .string d, .int .i64 t, .bool f, .bool g, .bool h, .int .i64 n, .string y, .slice a rs.length cap, .int .i64 fi, .bool z, .int .i64 wi, .int .i64 mo, .int .i64 m, .int .i64 c, .bool k, .bool s, .int .i64 v, .int .i64 x, .int .i64 ti, .int .i64 tr] 58)).alloc (.cells #[.int .i64 0, .int .i64 0, .int .i64 0, .int .i64 0, .int .i64 0, .string ⟨#[]⟩, .int .i64 0, .bool false, .bool false, .bool false, .int .i64 0, .string ⟨#[]⟩, .slice none 0 0, .int .i64 0, .bool false, .int .i64 0, .int .i64 0, .int .i64 0, .int .i64 0, .bool false, .bool false, .int .i64 0, .int .i64 0, .int .i64 0, .int .i64 0] 36)) [.int .i64 0, .int .i64 0, .int .i64 0, .int .i64 0, .int .i64 0, .string ⟨#[]⟩, .int .i64 0, .bool false, .bool false, .bool false, .int .i64 0, .string ⟨#[]⟩, .slice none 0 0, .int .i64 0, .bool false, .int .i64 0, .int .i64 0, .int .i64 0, .int .i64 0, .bool false, .bool false, .int .i64 0, .int .i64 0, .int .i64 0, .int .i64 0] 36; rwa [s2] at h0)
  have n_A_o : w.heap.size ≠ w.heap.size + 1 + 1 := by omega
  have n_R_o : w.heap.size + 1 ≠ w.heap.size + 1 + 1 := by omega
  clear s1 s2
  go_wp2_with fail
  change Calls _ _ _ (((w.alloc (.cells #[.int .i64 p, .int .i64 q, .int .i64 r, .int .i64 st, .int .i64 u, .string d, .int .i64 t, .bool f, .bool g, .bool h, .int .i64 n, .string y, .slice a rs.length cap, .int .i64 fi, .bool z, .int .i64 wi, .int .i64 mo, .int .i64 m, .int .i64 c, .bool k, .bool s, .int .i64 v, .int .i64 x, .int .i64 ti, .int .i64 tr] 58)).alloc (.cells #[.int .i64 0, .int .i64 0, .int .i64 0, .int .i64 0, .int .i64 0, .string ⟨#[]⟩, .int .i64 0, .bool false, .bool false, .bool false, .int .i64 0, .string ⟨#[]⟩, .slice none 0 0, .int .i64 0, .bool false, .int .i64 0, .int .i64 0, .int .i64 0, .int .i64 0, .bool false, .bool false, .int .i64 0, .int .i64 0, .int .i64 0, .int .i64 0] 36)).alloc (.cells #[.int .i64 0, .int .i64 0, .int .i64 0, .int .i64 0, .int .i64 0, .string ⟨#[]⟩, .int .i64 0, .bool false, .bool false, .bool false, .int .i64 0, .string ⟨#[]⟩, .slice none 0 0, .int .i64 0, .bool false, .int .i64 0, .int .i64 0, .int .i64 0, .int .i64 0, .bool false, .bool false, .int .i64 0, .int .i64 0, .int .i64 0, .int .i64 0] 36)) _
  generalize ((w.alloc (.cells #[.int .i64 p, .int .i64 q, .int .i64 r, .int .i64 st, .int .i64 u, .string d, .int .i64 t, .bool f, .bool g, .bool h, .int .i64 n, .string y, .slice a rs.length cap, .int .i64 fi, .bool z, .int .i64 wi, .int .i64 mo, .int .i64 m, .int .i64 c, .bool k, .bool s, .int .i64 v, .int .i64 x, .int .i64 ti, .int .i64 tr] 58)).alloc (.cells #[.int .i64 0, .int .i64 0, .int .i64 0, .int .i64 0, .int .i64 0, .string ⟨#[]⟩, .int .i64 0, .bool false, .bool false, .bool false, .int .i64 0, .string ⟨#[]⟩, .slice none 0 0, .int .i64 0, .bool false, .int .i64 0, .int .i64 0, .int .i64 0, .int .i64 0, .bool false, .bool false, .int .i64 0, .int .i64 0, .int .i64 0, .int .i64 0] 36)).alloc (.cells #[.int .i64 0, .int .i64 0, .int .i64 0, .int .i64 0, .int .i64 0, .string ⟨#[]⟩, .int .i64 0, .bool false, .bool false, .bool false, .int .i64 0, .string ⟨#[]⟩, .slice none 0 0, .int .i64 0, .bool false, .int .i64 0, .int .i64 0, .int .i64 0, .int .i64 0, .bool false, .bool false, .int .i64 0, .int .i64 0, .int .i64 0, .int .i64 0] 36) = v0 at B0 KA0 KR0 Ko0 ⊢
  generalize hh_o : w.heap.size + 1 + 1 = g_o at Ko0 n_A_o n_R_o ⊢
  generalize hh_R : w.heap.size + 1 = g_R at KR0 n_A_R n_R_o ⊢
  generalize hh_A : w.heap.size = g_A at KA0 n_A_R n_A_o ⊢
  have l_A : w.heap.size ≤ g_A := by omega
  have l_R : w.heap.size ≤ g_R := by omega
  have l_o : w.heap.size ≤ g_o := by omega
  clear hh_A hh_R hh_o
  refine (toTuple_any p q r _).mono ?_
  rintro e v1 ⟨rfl, hb⟩
  have B1 := Lib.hid (B0.out.trans (hb.mono B0.out.size))
  have KA1 := Lib.hid (KA0.out.below hb)
  have KR1 := Lib.hid (KR0.out.below hb)
  have Ko1 := Lib.hid (Ko0.out.below hb)
  clear hb B0 KA0 KR0 Ko0
  have cA3 : v1.cell? ⟨g_A, 3, none⟩ = some (.int .i64 st) := KA1.out.cell 3 _ rfl
  have cA4 : v1.cell? ⟨g_A, 4, none⟩ = some (.int .i64 u) := KA1.out.cell 4 _ rfl
  have cA5 : v1.cell? ⟨g_A, 5, none⟩ = some (.string d) := KA1.out.cell 5 _ rfl
  have cA6 : v1.cell? ⟨g_A, 6, none⟩ = some (.int .i64 t) := KA1.out.cell 6 _ rfl
  have cA7 : v1.cell? ⟨g_A, 7, none⟩ = some (.bool f) := KA1.out.cell 7 _ rfl
  have cA8 : v1.cell? ⟨g_A, 8, none⟩ = some (.bool g) := KA1.out.cell 8 _ rfl
  have cA9 : v1.cell? ⟨g_A, 9, none⟩ = some (.bool h) := KA1.out.cell 9 _ rfl
  have co0 : v1.cell? ⟨g_o, 0, none⟩ = some (.int .i64 0) := Ko1.out.cell 0 _ rfl
  have do0 := Ko1.out.open 0
  have co1 : v1.cell? ⟨g_o, 1, none⟩ = some (.int .i64 0) := Ko1.out.cell 1 _ rfl
  have do1 := Ko1.out.open 1
  have co2 : v1.cell? ⟨g_o, 2, none⟩ = some (.int .i64 0) := Ko1.out.cell 2 _ rfl
  have do2 := Ko1.out.open 2
  have co3 : v1.cell? ⟨g_o, 3, none⟩ = some (.int .i64 0) := Ko1.out.cell 3 _ rfl
  have do3 := Ko1.out.open 3
  have KA2 := Lib.hid (show Blk ((((v1.setCell ⟨g_o, 0, none⟩ (.int .i64 p)).setCell ⟨g_o, 1, none⟩ (.int .i64 q)).setCell ⟨g_o, 2, none⟩ (.int .i64 r)).setCell ⟨g_o, 3, none⟩ (.int .i64 st)) g_A [.int .i64 p, .int .i64 q, .int .i64 r, .int .i64 st, .int .i64 u, .string d, .int .i64 t, .bool f, .bool g, .bool h, .int .i64 n, .string y, .slice a rs.length cap, .int .i64 fi, .bool z, .int .i64 wi, .int .i64 mo, .int .i64 m, .int .i64 c, .bool k, .bool s, .int .i64 v, .int .i64 x, .int .i64 ti, .int .i64 tr] from ((((KA1.out.setOther ⟨g_o, 0, none⟩ (.int .i64 p) (n_A_o)).setOther ⟨g_o, 1, none⟩ (.int .i64 q) (n_A_o)).setOther ⟨g_o, 2, none⟩ (.int .i64 r) (n_A_o)).setOther ⟨g_o, 3, none⟩ (.int .i64 st) (n_A_o)))
  have KR2 := Lib.hid (show Blk ((((v1.setCell ⟨g_o, 0, none⟩ (.int .i64 p)).setCell ⟨g_o, 1, none⟩ (.int .i64 q)).setCell ⟨g_o, 2, none⟩ (.int .i64 r)).setCell ⟨g_o, 3, none⟩ (.int .i64 st)) g_R [.int .i64 0, .int .i64 0, .int .i64 0, .int .i64 0, .int .i64 0, .string ⟨#[]⟩, .int .i64 0, .bool false, .bool false, .bool false, .int .i64 0, .string ⟨#[]⟩, .slice none 0 0, .int .i64 0, .bool false, .int .i64 0, .int .i64 0, .int .i64 0, .int .i64 0, .bool false, .bool false, .int .i64 0, .int .i64 0, .int .i64 0, .int .i64 0] from ((((KR1.out.setOther ⟨g_o, 0, none⟩ (.int .i64 p) (n_R_o)).setOther ⟨g_o, 1, none⟩ (.int .i64 q) (n_R_o)).setOther ⟨g_o, 2, none⟩ (.int .i64 r) (n_R_o)).setOther ⟨g_o, 3, none⟩ (.int .i64 st) (n_R_o)))
  have Ko2 := Lib.hid (show Blk ((((v1.setCell ⟨g_o, 0, none⟩ (.int .i64 p)).setCell ⟨g_o, 1, none⟩ (.int .i64 q)).setCell ⟨g_o, 2, none⟩ (.int .i64 r)).setCell ⟨g_o, 3, none⟩ (.int .i64 st)) g_o [.int .i64 p, .int .i64 q, .int .i64 r, .int .i64 st, .int .i64 0, .string ⟨#[]⟩, .int .i64 0, .bool false, .bool false, .bool false, .int .i64 0, .string ⟨#[]⟩, .slice none 0 0, .int .i64 0, .bool false, .int .i64 0, .int .i64 0, .int .i64 0, .int .i64 0, .bool false, .bool false, .int .i64 0, .int .i64 0, .int .i64 0, .int .i64 0] from ((((Ko1.out.set 0 (.int .i64 p)).set 1 (.int .i64 q)).set 2 (.int .i64 r)).set 3 (.int .i64 st)))
  have B2 := Lib.hid (show Below w.heap.size w ((((v1.setCell ⟨g_o, 0, none⟩ (.int .i64 p)).setCell ⟨g_o, 1, none⟩ (.int .i64 q)).setCell ⟨g_o, 2, none⟩ (.int .i64 r)).setCell ⟨g_o, 3, none⟩ (.int .i64 st)) from ((((B1.out.setCell l_o (.int .i64 p)).setCell l_o (.int .i64 q)).setCell l_o (.int .i64 r)).setCell l_o (.int .i64 st)))
  clear B1
  go_wp2_with fail
  clear KA1 KR1 Ko1
  clear cA3 cA4 cA5 cA6 cA7 cA8 cA9 co0 do0 co1 do1 co2 do2 co3 do3
  change Calls _ _ _ ((((v1.setCell ⟨g_o, 0, none⟩ (.int .i64 p)).setCell ⟨g_o, 1, none⟩ (.int .i64 q)).setCell ⟨g_o, 2, none⟩ (.int .i64 r)).setCell ⟨g_o, 3, none⟩ (.int .i64 st)) _
  generalize (((v1.setCell ⟨g_o, 0, none⟩ (.int .i64 p)).setCell ⟨g_o, 1, none⟩ (.int .i64 q)).setCell ⟨g_o, 2, none⟩ (.int .i64 r)).setCell ⟨g_o, 3, none⟩ (.int .i64 st) = v2 at B2 KA2 KR2 Ko2 ⊢
  refine (toSender_any u d t f g h _).mono ?_
  rintro e v3 ⟨rfl, hb⟩
  have B3 := Lib.hid (B2.out.trans (hb.mono B2.out.size))
  have KA3 := Lib.hid (KA2.out.below hb)
  have KR3 := Lib.hid (KR2.out.below hb)
  have Ko3 := Lib.hid (Ko2.out.below hb)
  clear hb B2 KA2 KR2 Ko2
  have cA10 : v3.cell? ⟨g_A, 10, none⟩ = some (.int .i64 n) := KA3.out.cell 10 _ rfl
  have cA11 : v3.cell? ⟨g_A, 11, none⟩ = some (.string y) := KA3.out.cell 11 _ rfl
  have cA12 : v3.cell? ⟨g_A, 12, none⟩ = some (.slice a rs.length cap) := KA3.out.cell 12 _ rfl
  have cA13 : v3.cell? ⟨g_A, 13, none⟩ = some (.int .i64 fi) := KA3.out.cell 13 _ rfl
  have cA14 : v3.cell? ⟨g_A, 14, none⟩ = some (.bool z) := KA3.out.cell 14 _ rfl
  have co4 : v3.cell? ⟨g_o, 4, none⟩ = some (.int .i64 0) := Ko3.out.cell 4 _ rfl
  have do4 := Ko3.out.open 4
  have co5 : v3.cell? ⟨g_o, 5, none⟩ = some (.string ⟨#[]⟩) := Ko3.out.cell 5 _ rfl
  have do5 := Ko3.out.open 5
  have co6 : v3.cell? ⟨g_o, 6, none⟩ = some (.int .i64 0) := Ko3.out.cell 6 _ rfl
  have do6 := Ko3.out.open 6
  have co7 : v3.cell? ⟨g_o, 7, none⟩ = some (.bool false) := Ko3.out.cell 7 _ rfl
  have do7 := Ko3.out.open 7
  have co8 : v3.cell? ⟨g_o, 8, none⟩ = some (.bool false) := Ko3.out.cell 8 _ rfl
  have do8 := Ko3.out.open 8
  have co9 : v3.cell? ⟨g_o, 9, none⟩ = some (.bool false) := Ko3.out.cell 9 _ rfl
  have do9 := Ko3.out.open 9
  have KA4 := Lib.hid (show Blk ((((((v3.setCell ⟨g_o, 4, none⟩ (.int .i64 u)).setCell ⟨g_o, 5, none⟩ (.string d)).setCell ⟨g_o, 6, none⟩ (.int .i64 t)).setCell ⟨g_o, 7, none⟩ (.bool f)).setCell ⟨g_o, 8, none⟩ (.bool g)).setCell ⟨g_o, 9, none⟩ (.bool h)) g_A [.int .i64 p, .int .i64 q, .int .i64 r, .int .i64 st, .int .i64 u, .string d, .int .i64 t, .bool f, .bool g, .bool h, .int .i64 n, .string y, .slice a rs.length cap, .int .i64 fi, .bool z, .int .i64 wi, .int .i64 mo, .int .i64 m, .int .i64 c, .bool k, .bool s, .int .i64 v, .int .i64 x, .int .i64 ti, .int .i64 tr] from ((((((KA3.out.setOther ⟨g_o, 4, none⟩ (.int .i64 u) (n_A_o)).setOther ⟨g_o, 5, none⟩ (.string d) (n_A_o)).setOther ⟨g_o, 6, none⟩ (.int .i64 t) (n_A_o)).setOther ⟨g_o, 7, none⟩ (.bool f) (n_A_o)).setOther ⟨g_o, 8, none⟩ (.bool g) (n_A_o)).setOther ⟨g_o, 9, none⟩ (.bool h) (n_A_o)))
  have KR4 := Lib.hid (show Blk ((((((v3.setCell ⟨g_o, 4, none⟩ (.int .i64 u)).setCell ⟨g_o, 5, none⟩ (.string d)).setCell ⟨g_o, 6, none⟩ (.int .i64 t)).setCell ⟨g_o, 7, none⟩ (.bool f)).setCell ⟨g_o, 8, none⟩ (.bool g)).setCell ⟨g_o, 9, none⟩ (.bool h)) g_R [.int .i64 0, .int .i64 0, .int .i64 0, .int .i64 0, .int .i64 0, .string ⟨#[]⟩, .int .i64 0, .bool false, .bool false, .bool false, .int .i64 0, .string ⟨#[]⟩, .slice none 0 0, .int .i64 0, .bool false, .int .i64 0, .int .i64 0, .int .i64 0, .int .i64 0, .bool false, .bool false, .int .i64 0, .int .i64 0, .int .i64 0, .int .i64 0] from ((((((KR3.out.setOther ⟨g_o, 4, none⟩ (.int .i64 u) (n_R_o)).setOther ⟨g_o, 5, none⟩ (.string d) (n_R_o)).setOther ⟨g_o, 6, none⟩ (.int .i64 t) (n_R_o)).setOther ⟨g_o, 7, none⟩ (.bool f) (n_R_o)).setOther ⟨g_o, 8, none⟩ (.bool g) (n_R_o)).setOther ⟨g_o, 9, none⟩ (.bool h) (n_R_o)))
  have Ko4 := Lib.hid (show Blk ((((((v3.setCell ⟨g_o, 4, none⟩ (.int .i64 u)).setCell ⟨g_o, 5, none⟩ (.string d)).setCell ⟨g_o, 6, none⟩ (.int .i64 t)).setCell ⟨g_o, 7, none⟩ (.bool f)).setCell ⟨g_o, 8, none⟩ (.bool g)).setCell ⟨g_o, 9, none⟩ (.bool h)) g_o [.int .i64 p, .int .i64 q, .int .i64 r, .int .i64 st, .int .i64 u, .string d, .int .i64 t, .bool f, .bool g, .bool h, .int .i64 0, .string ⟨#[]⟩, .slice none 0 0, .int .i64 0, .bool false, .int .i64 0, .int .i64 0, .int .i64 0, .int .i64 0, .bool false, .bool false, .int .i64 0, .int .i64 0, .int .i64 0, .int .i64 0] from ((((((Ko3.out.set 4 (.int .i64 u)).set 5 (.string d)).set 6 (.int .i64 t)).set 7 (.bool f)).set 8 (.bool g)).set 9 (.bool h)))
  have B4 := Lib.hid (show Below w.heap.size w ((((((v3.setCell ⟨g_o, 4, none⟩ (.int .i64 u)).setCell ⟨g_o, 5, none⟩ (.string d)).setCell ⟨g_o, 6, none⟩ (.int .i64 t)).setCell ⟨g_o, 7, none⟩ (.bool f)).setCell ⟨g_o, 8, none⟩ (.bool g)).setCell ⟨g_o, 9, none⟩ (.bool h)) from ((((((B3.out.setCell l_o (.int .i64 u)).setCell l_o (.string d)).setCell l_o (.int .i64 t)).setCell l_o (.bool f)).setCell l_o (.bool g)).setCell l_o (.bool h)))
  clear B3
  go_wp2_with fail
  clear KA3 KR3 Ko3
  clear cA10 cA11 cA12 cA13 cA14 co4 do4 co5 do5 co6 do6 co7 do7 co8 do8 co9 do9
  change Calls _ _ _ ((((((v3.setCell ⟨g_o, 4, none⟩ (.int .i64 u)).setCell ⟨g_o, 5, none⟩ (.string d)).setCell ⟨g_o, 6, none⟩ (.int .i64 t)).setCell ⟨g_o, 7, none⟩ (.bool f)).setCell ⟨g_o, 8, none⟩ (.bool g)).setCell ⟨g_o, 9, none⟩ (.bool h)) _
  generalize (((((v3.setCell ⟨g_o, 4, none⟩ (.int .i64 u)).setCell ⟨g_o, 5, none⟩ (.string d)).setCell ⟨g_o, 6, none⟩ (.int .i64 t)).setCell ⟨g_o, 7, none⟩ (.bool f)).setCell ⟨g_o, 8, none⟩ (.bool g)).setCell ⟨g_o, 9, none⟩ (.bool h) = v4 at B4 KA4 KR4 Ko4 ⊢
  refine (toReceiver_any n fi z y a cap rs _ ((HR.out.below B4.out).mono B4.out.size) hl.out).mono ?_
  rintro e v5 ⟨g_p, rfl, ho_p, hb⟩
  have n_A_p : g_A ≠ g_p := by have h1 := KA4.out.lt; have h2 := (ho_p.lt g_p rfl).1; omega
  have n_R_p : g_R ≠ g_p := by have h1 := KR4.out.lt; have h2 := (ho_p.lt g_p rfl).1; omega
  have n_o_p : g_o ≠ g_p := by have h1 := Ko4.out.lt; have h2 := (ho_p.lt g_p rfl).1; omega
  have l_p : w.heap.size ≤ g_p := Nat.le_trans B4.out.size (ho_p.lt g_p rfl).1
  have B5 := Lib.hid (B4.out.trans (hb.mono B4.out.size))
  have KA5 := Lib.hid (KA4.out.below hb)
  have KR5 := Lib.hid (KR4.out.below hb)
  have Ko5 := Lib.hid (Ko4.out.below hb)
  have Op5 := Lib.hid (own_down ho_p (Nat.zero_le _))
  clear hb B4 KA4 KR4 Ko4 ho_p
  have cA15 : v5.cell? ⟨g_A, 15, none⟩ = some (.int .i64 wi) := KA5.out.cell 15 _ rfl
  have cA16 : v5.cell? ⟨g_A, 16, none⟩ = some (.int .i64 mo) := KA5.out.cell 16 _ rfl
  have cA17 : v5.cell? ⟨g_A, 17, none⟩ = some (.int .i64 m) := KA5.out.cell 17 _ rfl
  have cA18 : v5.cell? ⟨g_A, 18, none⟩ = some (.int .i64 c) := KA5.out.cell 18 _ rfl
  have cA19 : v5.cell? ⟨g_A, 19, none⟩ = some (.bool k) := KA5.out.cell 19 _ rfl
  have cA20 : v5.cell? ⟨g_A, 20, none⟩ = some (.bool s) := KA5.out.cell 20 _ rfl
  have cA21 : v5.cell? ⟨g_A, 21, none⟩ = some (.int .i64 v) := KA5.out.cell 21 _ rfl
  have cA22 : v5.cell? ⟨g_A, 22, none⟩ = some (.int .i64 x) := KA5.out.cell 22 _ rfl
  have co10 : v5.cell? ⟨g_o, 10, none⟩ = some (.int .i64 0) := Ko5.out.cell 10 _ rfl
  have do10 := Ko5.out.open 10
  have co11 : v5.cell? ⟨g_o, 11, none⟩ = some (.string ⟨#[]⟩) := Ko5.out.cell 11 _ rfl
  have do11 := Ko5.out.open 11
  have co12 : v5.cell? ⟨g_o, 12, none⟩ = some (.slice none 0 0) := Ko5.out.cell 12 _ rfl
  have do12 := Ko5.out.open 12
  have co13 : v5.cell? ⟨g_o, 13, none⟩ = some (.int .i64 0) := Ko5.out.cell 13 _ rfl
  have do13 := Ko5.out.open 13
  have co14 : v5.cell? ⟨g_o, 14, none⟩ = some (.bool false) := Ko5.out.cell 14 _ rfl
  have do14 := Ko5.out.open 14
  have co15 : v5.cell? ⟨g_o, 15, none⟩ = some (.int .i64 0) := Ko5.out.cell 15 _ rfl
  have do15 := Ko5.out.open 15
  have co16 : v5.cell? ⟨g_o, 16, none⟩ = some (.int .i64 0) := Ko5.out.cell 16 _ rfl
  have do16 := Ko5.out.open 16
  have KA6 := Lib.hid (show Blk (((((((v5.setCell ⟨g_o, 10, none⟩ (.int .i64 n)).setCell ⟨g_o, 11, none⟩ (.string y)).setCell ⟨g_o, 12, none⟩ (.slice (some ⟨g_p, 0, none⟩) rs.length rs.length)).setCell ⟨g_o, 13, none⟩ (.int .i64 fi)).setCell ⟨g_o, 14, none⟩ (.bool z)).setCell ⟨g_o, 15, none⟩ (.int .i64 wi)).setCell ⟨g_o, 16, none⟩ (.int .i64 mo)) g_A [.int .i64 p, .int .i64 q, .int .i64 r, .int .i64 st, .int .i64 u, .string d, .int .i64 t, .bool f, .bool g, .bool h, .int .i64 n, .string y, .slice a rs.length cap, .int .i64 fi, .bool z, .int .i64 wi, .int .i64 mo, .int .i64 m, .int .i64 c, .bool k, .bool s, .int .i64 v, .int .i64 x, .int .i64 ti, .int .i64 tr] from (((((((KA5.out.setOther ⟨g_o, 10, none⟩ (.int .i64 n) (n_A_o)).setOther ⟨g_o, 11, none⟩ (.string y) (n_A_o)).setOther ⟨g_o, 12, none⟩ (.slice (some ⟨g_p, 0, none⟩) rs.length rs.length) (n_A_o)).setOther ⟨g_o, 13, none⟩ (.int .i64 fi) (n_A_o)).setOther ⟨g_o, 14, none⟩ (.bool z) (n_A_o)).setOther ⟨g_o, 15, none⟩ (.int .i64 wi) (n_A_o)).setOther ⟨g_o, 16, none⟩ (.int .i64 mo) (n_A_o)))
  have KR6 := Lib.hid (show Blk (((((((v5.setCell ⟨g_o, 10, none⟩ (.int .i64 n)).setCell ⟨g_o, 11, none⟩ (.string y)).setCell ⟨g_o, 12, none⟩ (.slice (some ⟨g_p, 0, none⟩) rs.length rs.length)).setCell ⟨g_o, 13, none⟩ (.int .i64 fi)).setCell ⟨g_o, 14, none⟩ (.bool z)).setCell ⟨g_o, 15, none⟩ (.int .i64 wi)).setCell ⟨g_o, 16, none⟩ (.int .i64 mo)) g_R [.int .i64 0, .int .i64 0, .int .i64 0, .int .i64 0, .int .i64 0, .string ⟨#[]⟩, .int .i64 0, .bool false, .bool false, .bool false, .int .i64 0, .string ⟨#[]⟩, .slice none 0 0, .int .i64 0, .bool false, .int .i64 0, .int .i64 0, .int .i64 0, .int .i64 0, .bool false, .bool false, .int .i64 0, .int .i64 0, .int .i64 0, .int .i64 0] from (((((((KR5.out.setOther ⟨g_o, 10, none⟩ (.int .i64 n) (n_R_o)).setOther ⟨g_o, 11, none⟩ (.string y) (n_R_o)).setOther ⟨g_o, 12, none⟩ (.slice (some ⟨g_p, 0, none⟩) rs.length rs.length) (n_R_o)).setOther ⟨g_o, 13, none⟩ (.int .i64 fi) (n_R_o)).setOther ⟨g_o, 14, none⟩ (.bool z) (n_R_o)).setOther ⟨g_o, 15, none⟩ (.int .i64 wi) (n_R_o)).setOther ⟨g_o, 16, none⟩ (.int .i64 mo) (n_R_o)))
  have Ko6 := Lib.hid (show Blk (((((((v5.setCell ⟨g_o, 10, none⟩ (.int .i64 n)).setCell ⟨g_o, 11, none⟩ (.string y)).setCell ⟨g_o, 12, none⟩ (.slice (some ⟨g_p, 0, none⟩) rs.length rs.length)).setCell ⟨g_o, 13, none⟩ (.int .i64 fi)).setCell ⟨g_o, 14, none⟩ (.bool z)).setCell ⟨g_o, 15, none⟩ (.int .i64 wi)).setCell ⟨g_o, 16, none⟩ (.int .i64 mo)) g_o [.int .i64 p, .int .i64 q, .int .i64 r, .int .i64 st, .int .i64 u, .string d, .int .i64 t, .bool f, .bool g, .bool h, .int .i64 n, .string y, .slice (some ⟨g_p, 0, none⟩) rs.length rs.length, .int .i64 fi, .bool z, .int .i64 wi, .int .i64 mo, .int .i64 0, .int .i64 0, .bool false, .bool false, .int .i64 0, .int .i64 0, .int .i64 0, .int .i64 0] from (((((((Ko5.out.set 10 (.int .i64 n)).set 11 (.string y)).set 12 (.slice (some ⟨g_p, 0, none⟩) rs.length rs.length)).set 13 (.int .i64 fi)).set 14 (.bool z)).set 15 (.int .i64 wi)).set 16 (.int .i64 mo)))
  have Op6 := Lib.hid (own_set' (own_set' (own_set' (own_set' (own_set' (own_set' (own_set' Op5.out 10 (.int .i64 n) (n_o_p)) 11 (.string y) (n_o_p)) 12 (.slice (some ⟨g_p, 0, none⟩) rs.length rs.length) (n_o_p)) 13 (.int .i64 fi) (n_o_p)) 14 (.bool z) (n_o_p)) 15 (.int .i64 wi) (n_o_p)) 16 (.int .i64 mo) (n_o_p))
  have B6 := Lib.hid (show Below w.heap.size w (((((((v5.setCell ⟨g_o, 10, none⟩ (.int .i64 n)).setCell ⟨g_o, 11, none⟩ (.string y)).setCell ⟨g_o, 12, none⟩ (.slice (some ⟨g_p, 0, none⟩) rs.length rs.length)).setCell ⟨g_o, 13, none⟩ (.int .i64 fi)).setCell ⟨g_o, 14, none⟩ (.bool z)).setCell ⟨g_o, 15, none⟩ (.int .i64 wi)).setCell ⟨g_o, 16, none⟩ (.int .i64 mo)) from (((((((B5.out.setCell l_o (.int .i64 n)).setCell l_o (.string y)).setCell l_o (.slice (some ⟨g_p, 0, none⟩) rs.length rs.length)).setCell l_o (.int .i64 fi)).setCell l_o (.bool z)).setCell l_o (.int .i64 wi)).setCell l_o (.int .i64 mo)))
  clear B5
  go_wp2_with fail
  clear KA5 KR5 Ko5 Op5
  clear cA15 cA16 cA17 cA18 cA19 cA20 cA21 cA22 co10 do10 co11 do11 co12 do12 co13 do13 co14 do14 co15 do15 co16 do16
  change Calls _ _ _ (((((((v5.setCell ⟨g_o, 10, none⟩ (.int .i64 n)).setCell ⟨g_o, 11, none⟩ (.string y)).setCell ⟨g_o, 12, none⟩ (.slice (some ⟨g_p, 0, none⟩) rs.length rs.length)).setCell ⟨g_o, 13, none⟩ (.int .i64 fi)).setCell ⟨g_o, 14, none⟩ (.bool z)).setCell ⟨g_o, 15, none⟩ (.int .i64 wi)).setCell ⟨g_o, 16, none⟩ (.int .i64 mo)) _
  generalize ((((((v5.setCell ⟨g_o, 10, none⟩ (.int .i64 n)).setCell ⟨g_o, 11, none⟩ (.string y)).setCell ⟨g_o, 12, none⟩ (.slice (some ⟨g_p, 0, none⟩) rs.length rs.length)).setCell ⟨g_o, 13, none⟩ (.int .i64 fi)).setCell ⟨g_o, 14, none⟩ (.bool z)).setCell ⟨g_o, 15, none⟩ (.int .i64 wi)).setCell ⟨g_o, 16, none⟩ (.int .i64 mo) = v6 at B6 KA6 KR6 Ko6 Op6 ⊢
  refine (toOptions_any m c k s v x _).mono ?_
  rintro e v7 ⟨rfl, hb⟩
  have B7 := Lib.hid (B6.out.trans (hb.mono B6.out.size))
  have KA7 := Lib.hid (KA6.out.below hb)
  have KR7 := Lib.hid (KR6.out.below hb)
  have Ko7 := Lib.hid (Ko6.out.below hb)
  have Op7 := Lib.hid (Op6.out.kept (below_any (row := none) hb) (.inr (by simp [Value.ownBlock])))
  clear hb B6 KA6 KR6 Ko6 Op6
  have cA23 : v7.cell? ⟨g_A, 23, none⟩ = some (.int .i64 ti) := KA7.out.cell 23 _ rfl
  have cA24 : v7.cell? ⟨g_A, 24, none⟩ = some (.int .i64 tr) := KA7.out.cell 24 _ rfl
  have co17 : v7.cell? ⟨g_o, 17, none⟩ = some (.int .i64 0) := Ko7.out.cell 17 _ rfl
  have do17 := Ko7.out.open 17
  have co18 : v7.cell? ⟨g_o, 18, none⟩ = some (.int .i64 0) := Ko7.out.cell 18 _ rfl
  have do18 := Ko7.out.open 18
  have co19 : v7.cell? ⟨g_o, 19, none⟩ = some (.bool false) := Ko7.out.cell 19 _ rfl
  have do19 := Ko7.out.open 19
  have co20 : v7.cell? ⟨g_o, 20, none⟩ = some (.bool false) := Ko7.out.cell 20 _ rfl
  have do20 := Ko7.out.open 20
  have co21 : v7.cell? ⟨g_o, 21, none⟩ = some (.int .i64 0) := Ko7.out.cell 21 _ rfl
  have do21 := Ko7.out.open 21
  have co22 : v7.cell? ⟨g_o, 22, none⟩ = some (.int .i64 0) := Ko7.out.cell 22 _ rfl
  have do22 := Ko7.out.open 22
  have co23 : v7.cell? ⟨g_o, 23, none⟩ = some (.int .i64 0) := Ko7.out.cell 23 _ rfl
  have do23 := Ko7.out.open 23
  have co24 : v7.cell? ⟨g_o, 24, none⟩ = some (.int .i64 0) := Ko7.out.cell 24 _ rfl
  have do24 := Ko7.out.open 24
  have KA8 := Lib.hid (show Blk ((((((((v7.setCell ⟨g_o, 17, none⟩ (.int .i64 m)).setCell ⟨g_o, 18, none⟩ (.int .i64 c)).setCell ⟨g_o, 19, none⟩ (.bool k)).setCell ⟨g_o, 20, none⟩ (.bool s)).setCell ⟨g_o, 21, none⟩ (.int .i64 v)).setCell ⟨g_o, 22, none⟩ (.int .i64 x)).setCell ⟨g_o, 23, none⟩ (.int .i64 ti)).setCell ⟨g_o, 24, none⟩ (.int .i64 tr)) g_A [.int .i64 p, .int .i64 q, .int .i64 r, .int .i64 st, .int .i64 u, .string d, .int .i64 t, .bool f, .bool g, .bool h, .int .i64 n, .string y, .slice a rs.length cap, .int .i64 fi, .bool z, .int .i64 wi, .int .i64 mo, .int .i64 m, .int .i64 c, .bool k, .bool s, .int .i64 v, .int .i64 x, .int .i64 ti, .int .i64 tr] from ((((((((KA7.out.setOther ⟨g_o, 17, none⟩ (.int .i64 m) (n_A_o)).setOther ⟨g_o, 18, none⟩ (.int .i64 c) (n_A_o)).setOther ⟨g_o, 19, none⟩ (.bool k) (n_A_o)).setOther ⟨g_o, 20, none⟩ (.bool s) (n_A_o)).setOther ⟨g_o, 21, none⟩ (.int .i64 v) (n_A_o)).setOther ⟨g_o, 22, none⟩ (.int .i64 x) (n_A_o)).setOther ⟨g_o, 23, none⟩ (.int .i64 ti) (n_A_o)).setOther ⟨g_o, 24, none⟩ (.int .i64 tr) (n_A_o)))
  have KR8 := Lib.hid (show Blk ((((((((v7.setCell ⟨g_o, 17, none⟩ (.int .i64 m)).setCell ⟨g_o, 18, none⟩ (.int .i64 c)).setCell ⟨g_o, 19, none⟩ (.bool k)).setCell ⟨g_o, 20, none⟩ (.bool s)).setCell ⟨g_o, 21, none⟩ (.int .i64 v)).setCell ⟨g_o, 22, none⟩ (.int .i64 x)).setCell ⟨g_o, 23, none⟩ (.int .i64 ti)).setCell ⟨g_o, 24, none⟩ (.int .i64 tr)) g_R [.int .i64 0, .int .i64 0, .int .i64 0, .int .i64 0, .int .i64 0, .string ⟨#[]⟩, .int .i64 0, .bool false, .bool false, .bool false, .int .i64 0, .string ⟨#[]⟩, .slice none 0 0, .int .i64 0, .bool false, .int .i64 0, .int .i64 0, .int .i64 0, .int .i64 0, .bool false, .bool false, .int .i64 0, .int .i64 0, .int .i64 0, .int .i64 0] from ((((((((KR7.out.setOther ⟨g_o, 17, none⟩ (.int .i64 m) (n_R_o)).setOther ⟨g_o, 18, none⟩ (.int .i64 c) (n_R_o)).setOther ⟨g_o, 19, none⟩ (.bool k) (n_R_o)).setOther ⟨g_o, 20, none⟩ (.bool s) (n_R_o)).setOther ⟨g_o, 21, none⟩ (.int .i64 v) (n_R_o)).setOther ⟨g_o, 22, none⟩ (.int .i64 x) (n_R_o)).setOther ⟨g_o, 23, none⟩ (.int .i64 ti) (n_R_o)).setOther ⟨g_o, 24, none⟩ (.int .i64 tr) (n_R_o)))
  have Ko8 := Lib.hid (show Blk ((((((((v7.setCell ⟨g_o, 17, none⟩ (.int .i64 m)).setCell ⟨g_o, 18, none⟩ (.int .i64 c)).setCell ⟨g_o, 19, none⟩ (.bool k)).setCell ⟨g_o, 20, none⟩ (.bool s)).setCell ⟨g_o, 21, none⟩ (.int .i64 v)).setCell ⟨g_o, 22, none⟩ (.int .i64 x)).setCell ⟨g_o, 23, none⟩ (.int .i64 ti)).setCell ⟨g_o, 24, none⟩ (.int .i64 tr)) g_o [.int .i64 p, .int .i64 q, .int .i64 r, .int .i64 st, .int .i64 u, .string d, .int .i64 t, .bool f, .bool g, .bool h, .int .i64 n, .string y, .slice (some ⟨g_p, 0, none⟩) rs.length rs.length, .int .i64 fi, .bool z, .int .i64 wi, .int .i64 mo, .int .i64 m, .int .i64 c, .bool k, .bool s, .int .i64 v, .int .i64 x, .int .i64 ti, .int .i64 tr] from ((((((((Ko7.out.set 17 (.int .i64 m)).set 18 (.int .i64 c)).set 19 (.bool k)).set 20 (.bool s)).set 21 (.int .i64 v)).set 22 (.int .i64 x)).set 23 (.int .i64 ti)).set 24 (.int .i64 tr)))
  have Op8 := Lib.hid (own_set' (own_set' (own_set' (own_set' (own_set' (own_set' (own_set' (own_set' Op7.out 17 (.int .i64 m) (n_o_p)) 18 (.int .i64 c) (n_o_p)) 19 (.bool k) (n_o_p)) 20 (.bool s) (n_o_p)) 21 (.int .i64 v) (n_o_p)) 22 (.int .i64 x) (n_o_p)) 23 (.int .i64 ti) (n_o_p)) 24 (.int .i64 tr) (n_o_p))
  have B8 := Lib.hid (show Below w.heap.size w ((((((((v7.setCell ⟨g_o, 17, none⟩ (.int .i64 m)).setCell ⟨g_o, 18, none⟩ (.int .i64 c)).setCell ⟨g_o, 19, none⟩ (.bool k)).setCell ⟨g_o, 20, none⟩ (.bool s)).setCell ⟨g_o, 21, none⟩ (.int .i64 v)).setCell ⟨g_o, 22, none⟩ (.int .i64 x)).setCell ⟨g_o, 23, none⟩ (.int .i64 ti)).setCell ⟨g_o, 24, none⟩ (.int .i64 tr)) from ((((((((B7.out.setCell l_o (.int .i64 m)).setCell l_o (.int .i64 c)).setCell l_o (.bool k)).setCell l_o (.bool s)).setCell l_o (.int .i64 v)).setCell l_o (.int .i64 x)).setCell l_o (.int .i64 ti)).setCell l_o (.int .i64 tr)))
  clear B7
  go_upto_region 11 with fail
  clear KA7 KR7 Ko7 Op7
  clear cA23 cA24 co17 do17 co18 do18 co19 do19 co20 do20 co21 do21 co22 do22 co23 do23 co24 do24
  generalize (((((((v7.setCell ⟨g_o, 17, none⟩ (.int .i64 m)).setCell ⟨g_o, 18, none⟩ (.int .i64 c)).setCell ⟨g_o, 19, none⟩ (.bool k)).setCell ⟨g_o, 20, none⟩ (.bool s)).setCell ⟨g_o, 21, none⟩ (.int .i64 v)).setCell ⟨g_o, 22, none⟩ (.int .i64 x)).setCell ⟨g_o, 23, none⟩ (.int .i64 ti)).setCell ⟨g_o, 24, none⟩ (.int .i64 tr) = v8 at B8 KA8 KR8 Ko8 Op8 ⊢
  have HLo := blk_load (P := Try.prog) 36 Ko8.out Try.underlying36 rfl (by kernel_rfl)
  go_wp2_with (first | (refine wpList_load_val rfl _ _ rfl _ _ rfl HLo ?_) | (refine wpList_store_blk (cs' := [.int .i64 p, .int .i64 q, .int .i64 r, .int .i64 st, .int .i64 u, .string d, .int .i64 t, .bool f, .bool g, .bool h, .int .i64 n, .string y, .slice (some ⟨g_p, 0, none⟩) rs.length rs.length, .int .i64 fi, .bool z, .int .i64 wi, .int .i64 mo, .int .i64 m, .int .i64 c, .bool k, .bool s, .int .i64 v, .int .i64 x, .int .i64 ti, .int .i64 tr]) rfl 36 _ _ rfl rfl rfl KR8.out rfl (by kernel_rfl) rfl (fun w' hB hg => ?_)))
  exact bodyPost_ret (v := .agg #[.int .i64 p, .int .i64 q, .int .i64 r, .int .i64 st, .int .i64 u, .string d, .int .i64 t, .bool f, .bool g, .bool h, .int .i64 n, .string y, .slice (some ⟨g_p, 0, none⟩) rs.length rs.length, .int .i64 fi, .bool z, .int .i64 wi, .int .i64 mo, .int .i64 m, .int .i64 c, .bool k, .bool s, .int .i64 v, .int .i64 x, .int .i64 ti, .int .i64 tr]) (blk_results rfl hB rfl Try.underlying36 rfl (by kernel_rfl)) rfl ⟨g_p, rfl, own_up (Op8.out.kept hg (.inr (own_ne (fun e => n_R_p e.symm)))) l_p, B8.out.trans (grown_below hg l_R B8.out.size)⟩

set_option maxRecDepth 100000 in
set_option maxHeartbeats 16000000 in
theorem eqConn_self (p q r st u : Int) (d : ByteArray) (t : Int) (f g h : Bool) (n : Int) (y : ByteArray) (a : Option Addr) (cap : Nat) (rs : List HP) (fi : Int) (z : Bool) (wi mo m c : Int) (k s : Bool) (v x ti tr : Int) (b : Option Addr) (cap' : Nat) (w : World) (ha : Row w w.heap.size a (hps rs)) (hb : Row w w.heap.size b (hps rs)) (hl : rs.length ≤ 1048576) :
    Calls Try.prog 23 #[.agg #[.int .i64 p, .int .i64 q, .int .i64 r, .int .i64 st, .int .i64 u, .string d, .int .i64 t, .bool f, .bool g, .bool h, .int .i64 n, .string y, .slice a rs.length cap, .int .i64 fi, .bool z, .int .i64 wi, .int .i64 mo, .int .i64 m, .int .i64 c, .bool k, .bool s, .int .i64 v, .int .i64 x, .int .i64 ti, .int .i64 tr], .agg #[.int .i64 p, .int .i64 q, .int .i64 r, .int .i64 st, .int .i64 u, .string d, .int .i64 t, .bool f, .bool g, .bool h, .int .i64 n, .string y, .slice b rs.length cap', .int .i64 fi, .bool z, .int .i64 wi, .int .i64 mo, .int .i64 m, .int .i64 c, .bool k, .bool s, .int .i64 v, .int .i64 x, .int .i64 ti, .int .i64 tr]] w (BoolE true w) := by
  have HA := Lib.hid ha
  have HB := Lib.hid hb
  replace hl := Lib.hid hl
  clear ha hb
  go_enter Try.func23, Try.ntmps23
  have B0 := Lib.hid (show Below w.heap.size w ((w.alloc (.cells #[.int .i64 p, .int .i64 q, .int .i64 r, .int .i64 st, .int .i64 u, .string d, .int .i64 t, .bool f, .bool g, .bool h, .int .i64 n, .string y, .slice a rs.length cap, .int .i64 fi, .bool z, .int .i64 wi, .int .i64 mo, .int .i64 m, .int .i64 c, .bool k, .bool s, .int .i64 v, .int .i64 x, .int .i64 ti, .int .i64 tr] 36)).alloc (.cells #[.int .i64 p, .int .i64 q, .int .i64 r, .int .i64 st, .int .i64 u, .string d, .int .i64 t, .bool f, .bool g, .bool h, .int .i64 n, .string y, .slice b rs.length cap', .int .i64 fi, .bool z, .int .i64 wi, .int .i64 mo, .int .i64 m, .int .i64 c, .bool k, .bool s, .int .i64 v, .int .i64 x, .int .i64 ti, .int .i64 tr] 36)) from (((Below.refl _ w).alloc (by simp) _).alloc (by simp) _))
  have Kl0 := Lib.hid (show Blk ((w.alloc (.cells #[.int .i64 p, .int .i64 q, .int .i64 r, .int .i64 st, .int .i64 u, .string d, .int .i64 t, .bool f, .bool g, .bool h, .int .i64 n, .string y, .slice a rs.length cap, .int .i64 fi, .bool z, .int .i64 wi, .int .i64 mo, .int .i64 m, .int .i64 c, .bool k, .bool s, .int .i64 v, .int .i64 x, .int .i64 ti, .int .i64 tr] 36)).alloc (.cells #[.int .i64 p, .int .i64 q, .int .i64 r, .int .i64 st, .int .i64 u, .string d, .int .i64 t, .bool f, .bool g, .bool h, .int .i64 n, .string y, .slice b rs.length cap', .int .i64 fi, .bool z, .int .i64 wi, .int .i64 mo, .int .i64 m, .int .i64 c, .bool k, .bool s, .int .i64 v, .int .i64 x, .int .i64 ti, .int .i64 tr] 36)) (w.heap.size) [.int .i64 p, .int .i64 q, .int .i64 r, .int .i64 st, .int .i64 u, .string d, .int .i64 t, .bool f, .bool g, .bool h, .int .i64 n, .string y, .slice a rs.length cap, .int .i64 fi, .bool z, .int .i64 wi, .int .i64 mo, .int .i64 m, .int .i64 c, .bool k, .bool s, .int .i64 v, .int .i64 x, .int .i64 ti, .int .i64 tr] from (Blk.new w [.int .i64 p, .int .i64 q, .int .i64 r, .int .i64 st, .int .i64 u, .string d, .int .i64 t, .bool f, .bool g, .bool h, .int .i64 n, .string y, .slice a rs.length cap, .int .i64 fi, .bool z, .int .i64 wi, .int .i64 mo, .int .i64 m, .int .i64 c, .bool k, .bool s, .int .i64 v, .int .i64 x, .int .i64 ti, .int .i64 tr] 36).alloc (.cells #[.int .i64 p, .int .i64 q, .int .i64 r, .int .i64 st, .int .i64 u, .string d, .int .i64 t, .bool f, .bool g, .bool h, .int .i64 n, .string y, .slice b rs.length cap', .int .i64 fi, .bool z, .int .i64 wi, .int .i64 mo, .int .i64 m, .int .i64 c, .bool k, .bool s, .int .i64 v, .int .i64 x, .int .i64 ti, .int .i64 tr] 36))
  have s1 : (w.alloc (.cells #[.int .i64 p, .int .i64 q, .int .i64 r, .int .i64 st, .int .i64 u, .string d, .int .i64 t, .bool f, .bool g, .bool h, .int .i64 n, .string y, .slice a rs.length cap, .int .i64 fi, .bool z, .int .i64 wi, .int .i64 mo, .int .i64 m, .int .i64 c, .bool k, .bool s, .int .i64 v, .int .i64 x, .int .i64 ti, .int .i64 tr] 36)).heap.size = w.heap.size + 1 := by simp
  have Kr0 := Lib.hid (show Blk ((w.alloc (.cells #[.int .i64 p, .int .i64 q, .int .i64 r, .int .i64 st, .int .i64 u, .string d, .int .i64 t, .bool f, .bool g, .bool h, .int .i64 n, .string y, .slice a rs.length cap, .int .i64 fi, .bool z, .int .i64 wi, .int .i64 mo, .int .i64 m, .int .i64 c, .bool k, .bool s, .int .i64 v, .int .i64 x, .int .i64 ti, .int .i64 tr] 36)).alloc (.cells #[.int .i64 p, .int .i64 q, .int .i64 r, .int .i64 st, .int .i64 u, .string d, .int .i64 t, .bool f, .bool g, .bool h, .int .i64 n, .string y, .slice b rs.length cap', .int .i64 fi, .bool z, .int .i64 wi, .int .i64 mo, .int .i64 m, .int .i64 c, .bool k, .bool s, .int .i64 v, .int .i64 x, .int .i64 ti, .int .i64 tr] 36)) (w.heap.size + 1) [.int .i64 p, .int .i64 q, .int .i64 r, .int .i64 st, .int .i64 u, .string d, .int .i64 t, .bool f, .bool g, .bool h, .int .i64 n, .string y, .slice b rs.length cap', .int .i64 fi, .bool z, .int .i64 wi, .int .i64 mo, .int .i64 m, .int .i64 c, .bool k, .bool s, .int .i64 v, .int .i64 x, .int .i64 ti, .int .i64 tr] by have h0 := Blk.new (w.alloc (.cells #[.int .i64 p, .int .i64 q, .int .i64 r, .int .i64 st, .int .i64 u, .string d, .int .i64 t, .bool f, .bool g, .bool h, .int .i64 n, .string y, .slice a rs.length cap, .int .i64 fi, .bool z, .int .i64 wi, .int .i64 mo, .int .i64 m, .int .i64 c, .bool k, .bool s, .int .i64 v, .int .i64 x, .int .i64 ti, .int .i64 tr] 36)) [.int .i64 p, .int .i64 q, .int .i64 r, .int .i64 st, .int .i64 u, .string d, .int .i64 t, .bool f, .bool g, .bool h, .int .i64 n, .string y, .slice b rs.length cap', .int .i64 fi, .bool z, .int .i64 wi, .int .i64 mo, .int .i64 m, .int .i64 c, .bool k, .bool s, .int .i64 v, .int .i64 x, .int .i64 ti, .int .i64 tr] 36; rwa [s1] at h0)
  have n_l_r : w.heap.size ≠ w.heap.size + 1 := by omega
  clear s1
  go_wp2_with fail
  change Calls _ _ _ ((w.alloc (.cells #[.int .i64 p, .int .i64 q, .int .i64 r, .int .i64 st, .int .i64 u, .string d, .int .i64 t, .bool f, .bool g, .bool h, .int .i64 n, .string y, .slice a rs.length cap, .int .i64 fi, .bool z, .int .i64 wi, .int .i64 mo, .int .i64 m, .int .i64 c, .bool k, .bool s, .int .i64 v, .int .i64 x, .int .i64 ti, .int .i64 tr] 36)).alloc (.cells #[.int .i64 p, .int .i64 q, .int .i64 r, .int .i64 st, .int .i64 u, .string d, .int .i64 t, .bool f, .bool g, .bool h, .int .i64 n, .string y, .slice b rs.length cap', .int .i64 fi, .bool z, .int .i64 wi, .int .i64 mo, .int .i64 m, .int .i64 c, .bool k, .bool s, .int .i64 v, .int .i64 x, .int .i64 ti, .int .i64 tr] 36)) _
  generalize (w.alloc (.cells #[.int .i64 p, .int .i64 q, .int .i64 r, .int .i64 st, .int .i64 u, .string d, .int .i64 t, .bool f, .bool g, .bool h, .int .i64 n, .string y, .slice a rs.length cap, .int .i64 fi, .bool z, .int .i64 wi, .int .i64 mo, .int .i64 m, .int .i64 c, .bool k, .bool s, .int .i64 v, .int .i64 x, .int .i64 ti, .int .i64 tr] 36)).alloc (.cells #[.int .i64 p, .int .i64 q, .int .i64 r, .int .i64 st, .int .i64 u, .string d, .int .i64 t, .bool f, .bool g, .bool h, .int .i64 n, .string y, .slice b rs.length cap', .int .i64 fi, .bool z, .int .i64 wi, .int .i64 mo, .int .i64 m, .int .i64 c, .bool k, .bool s, .int .i64 v, .int .i64 x, .int .i64 ti, .int .i64 tr] 36) = v0 at B0 Kl0 Kr0 ⊢
  generalize w.heap.size + 1 = g_r at Kr0 n_l_r ⊢
  generalize w.heap.size = g_l at Kl0 n_l_r ⊢
  refine (eqTuple_self p q r _).mono ?_
  rintro e v1 ⟨rfl, hb⟩
  have B1 := Lib.hid (B0.out.trans (hb.mono B0.out.size))
  have Kl1 := Lib.hid (Kl0.out.below hb)
  have Kr1 := Lib.hid (Kr0.out.below hb)
  clear hb B0 Kl0 Kr0
  have cl3 : v1.cell? ⟨g_l, 3, none⟩ = some (.int .i64 st) := Kl1.out.cell 3 _ rfl
  have cl4 : v1.cell? ⟨g_l, 4, none⟩ = some (.int .i64 u) := Kl1.out.cell 4 _ rfl
  have cl5 : v1.cell? ⟨g_l, 5, none⟩ = some (.string d) := Kl1.out.cell 5 _ rfl
  have cl6 : v1.cell? ⟨g_l, 6, none⟩ = some (.int .i64 t) := Kl1.out.cell 6 _ rfl
  have cl7 : v1.cell? ⟨g_l, 7, none⟩ = some (.bool f) := Kl1.out.cell 7 _ rfl
  have cl8 : v1.cell? ⟨g_l, 8, none⟩ = some (.bool g) := Kl1.out.cell 8 _ rfl
  have cl9 : v1.cell? ⟨g_l, 9, none⟩ = some (.bool h) := Kl1.out.cell 9 _ rfl
  have cr3 : v1.cell? ⟨g_r, 3, none⟩ = some (.int .i64 st) := Kr1.out.cell 3 _ rfl
  have cr4 : v1.cell? ⟨g_r, 4, none⟩ = some (.int .i64 u) := Kr1.out.cell 4 _ rfl
  have cr5 : v1.cell? ⟨g_r, 5, none⟩ = some (.string d) := Kr1.out.cell 5 _ rfl
  have cr6 : v1.cell? ⟨g_r, 6, none⟩ = some (.int .i64 t) := Kr1.out.cell 6 _ rfl
  have cr7 : v1.cell? ⟨g_r, 7, none⟩ = some (.bool f) := Kr1.out.cell 7 _ rfl
  have cr8 : v1.cell? ⟨g_r, 8, none⟩ = some (.bool g) := Kr1.out.cell 8 _ rfl
  have cr9 : v1.cell? ⟨g_r, 9, none⟩ = some (.bool h) := Kr1.out.cell 9 _ rfl
  go_wp2_with fail
  clear cl3 cl4 cl5 cl6 cl7 cl8 cl9 cr3 cr4 cr5 cr6 cr7 cr8 cr9
  refine (eqSender_self u d t f g h _).mono ?_
  rintro e v2 ⟨rfl, hb⟩
  have B2 := Lib.hid (B1.out.trans (hb.mono B1.out.size))
  have Kl2 := Lib.hid (Kl1.out.below hb)
  have Kr2 := Lib.hid (Kr1.out.below hb)
  clear hb B1 Kl1 Kr1
  have cl10 : v2.cell? ⟨g_l, 10, none⟩ = some (.int .i64 n) := Kl2.out.cell 10 _ rfl
  have cl11 : v2.cell? ⟨g_l, 11, none⟩ = some (.string y) := Kl2.out.cell 11 _ rfl
  have cl12 : v2.cell? ⟨g_l, 12, none⟩ = some (.slice a rs.length cap) := Kl2.out.cell 12 _ rfl
  have cl13 : v2.cell? ⟨g_l, 13, none⟩ = some (.int .i64 fi) := Kl2.out.cell 13 _ rfl
  have cl14 : v2.cell? ⟨g_l, 14, none⟩ = some (.bool z) := Kl2.out.cell 14 _ rfl
  have cr10 : v2.cell? ⟨g_r, 10, none⟩ = some (.int .i64 n) := Kr2.out.cell 10 _ rfl
  have cr11 : v2.cell? ⟨g_r, 11, none⟩ = some (.string y) := Kr2.out.cell 11 _ rfl
  have cr12 : v2.cell? ⟨g_r, 12, none⟩ = some (.slice b rs.length cap') := Kr2.out.cell 12 _ rfl
  have cr13 : v2.cell? ⟨g_r, 13, none⟩ = some (.int .i64 fi) := Kr2.out.cell 13 _ rfl
  have cr14 : v2.cell? ⟨g_r, 14, none⟩ = some (.bool z) := Kr2.out.cell 14 _ rfl
  go_wp2_with fail
  clear cl10 cl11 cl12 cl13 cl14 cr10 cr11 cr12 cr13 cr14
  refine (eqReceiver_self n fi z y a b cap cap' rs _ ((HA.out.below B2.out).mono B2.out.size) ((HB.out.below B2.out).mono B2.out.size) hl.out).mono ?_
  rintro e v3 ⟨rfl, hb⟩
  have B3 := Lib.hid (B2.out.trans (hb.mono B2.out.size))
  have Kl3 := Lib.hid (Kl2.out.below hb)
  have Kr3 := Lib.hid (Kr2.out.below hb)
  clear hb B2 Kl2 Kr2
  have cl15 : v3.cell? ⟨g_l, 15, none⟩ = some (.int .i64 wi) := Kl3.out.cell 15 _ rfl
  have cl16 : v3.cell? ⟨g_l, 16, none⟩ = some (.int .i64 mo) := Kl3.out.cell 16 _ rfl
  have cl17 : v3.cell? ⟨g_l, 17, none⟩ = some (.int .i64 m) := Kl3.out.cell 17 _ rfl
  have cl18 : v3.cell? ⟨g_l, 18, none⟩ = some (.int .i64 c) := Kl3.out.cell 18 _ rfl
  have cl19 : v3.cell? ⟨g_l, 19, none⟩ = some (.bool k) := Kl3.out.cell 19 _ rfl
  have cl20 : v3.cell? ⟨g_l, 20, none⟩ = some (.bool s) := Kl3.out.cell 20 _ rfl
  have cl21 : v3.cell? ⟨g_l, 21, none⟩ = some (.int .i64 v) := Kl3.out.cell 21 _ rfl
  have cl22 : v3.cell? ⟨g_l, 22, none⟩ = some (.int .i64 x) := Kl3.out.cell 22 _ rfl
  have cr15 : v3.cell? ⟨g_r, 15, none⟩ = some (.int .i64 wi) := Kr3.out.cell 15 _ rfl
  have cr16 : v3.cell? ⟨g_r, 16, none⟩ = some (.int .i64 mo) := Kr3.out.cell 16 _ rfl
  have cr17 : v3.cell? ⟨g_r, 17, none⟩ = some (.int .i64 m) := Kr3.out.cell 17 _ rfl
  have cr18 : v3.cell? ⟨g_r, 18, none⟩ = some (.int .i64 c) := Kr3.out.cell 18 _ rfl
  have cr19 : v3.cell? ⟨g_r, 19, none⟩ = some (.bool k) := Kr3.out.cell 19 _ rfl
  have cr20 : v3.cell? ⟨g_r, 20, none⟩ = some (.bool s) := Kr3.out.cell 20 _ rfl
  have cr21 : v3.cell? ⟨g_r, 21, none⟩ = some (.int .i64 v) := Kr3.out.cell 21 _ rfl
  have cr22 : v3.cell? ⟨g_r, 22, none⟩ = some (.int .i64 x) := Kr3.out.cell 22 _ rfl
  go_wp2_with fail
  clear cl15 cl16 cl17 cl18 cl19 cl20 cl21 cl22 cr15 cr16 cr17 cr18 cr19 cr20 cr21 cr22
  refine (eqOptions_self m c k s v x _).mono ?_
  rintro e v4 ⟨rfl, hb⟩
  have B4 := Lib.hid (B3.out.trans (hb.mono B3.out.size))
  have Kl4 := Lib.hid (Kl3.out.below hb)
  have Kr4 := Lib.hid (Kr3.out.below hb)
  clear hb B3 Kl3 Kr3
  have cl23 : v4.cell? ⟨g_l, 23, none⟩ = some (.int .i64 ti) := Kl4.out.cell 23 _ rfl
  have cl24 : v4.cell? ⟨g_l, 24, none⟩ = some (.int .i64 tr) := Kl4.out.cell 24 _ rfl
  have cr23 : v4.cell? ⟨g_r, 23, none⟩ = some (.int .i64 ti) := Kr4.out.cell 23 _ rfl
  have cr24 : v4.cell? ⟨g_r, 24, none⟩ = some (.int .i64 tr) := Kr4.out.cell 24 _ rfl
  go_wp2_with fail
  go_ret
  exact ⟨rfl, B4.out⟩

set_option maxRecDepth 100000 in
set_option maxHeartbeats 4000000 in
theorem heldConn_none (p q r st u : Int) (d : ByteArray) (t : Int) (f g h : Bool) (n : Int) (y : ByteArray) (a : Option Addr) (cap : Nat) (fi : Int) (z : Bool) (wi mo m c : Int) (k s : Bool) (v x ti tr : Int) (j : Nat) (w : World) (hrow : Row w w.heap.size a (hps (marksP j 0))) (h0 : 0 < j) (h1 : j ≤ 1000000000) :
    Calls Try.prog 25 #[.agg #[.int .i64 p, .int .i64 q, .int .i64 r, .int .i64 st, .int .i64 u, .string d, .int .i64 t, .bool f, .bool g, .bool h, .int .i64 n, .string y, .slice a 0 cap, .int .i64 fi, .bool z, .int .i64 wi, .int .i64 mo, .int .i64 m, .int .i64 c, .bool k, .bool s, .int .i64 v, .int .i64 x, .int .i64 ti, .int .i64 tr], .int .i64 j] w (IntE ((j + 2 * 0 : Nat) : Int) w) := by
  have HR := Lib.hid hrow
  clear hrow
  go_enter Try.func25, Try.ntmps25
  have B0 := Lib.hid (show Below w.heap.size w (w.alloc (.cells #[.int .i64 p, .int .i64 q, .int .i64 r, .int .i64 st, .int .i64 u, .string d, .int .i64 t, .bool f, .bool g, .bool h, .int .i64 n, .string y, .slice a 0 cap, .int .i64 fi, .bool z, .int .i64 wi, .int .i64 mo, .int .i64 m, .int .i64 c, .bool k, .bool s, .int .i64 v, .int .i64 x, .int .i64 ti, .int .i64 tr] 36)) from ((Below.refl _ w).alloc (by simp) _))
  have Kl0 := Lib.hid (show Blk (w.alloc (.cells #[.int .i64 p, .int .i64 q, .int .i64 r, .int .i64 st, .int .i64 u, .string d, .int .i64 t, .bool f, .bool g, .bool h, .int .i64 n, .string y, .slice a 0 cap, .int .i64 fi, .bool z, .int .i64 wi, .int .i64 mo, .int .i64 m, .int .i64 c, .bool k, .bool s, .int .i64 v, .int .i64 x, .int .i64 ti, .int .i64 tr] 36)) (w.heap.size) [.int .i64 p, .int .i64 q, .int .i64 r, .int .i64 st, .int .i64 u, .string d, .int .i64 t, .bool f, .bool g, .bool h, .int .i64 n, .string y, .slice a 0 cap, .int .i64 fi, .bool z, .int .i64 wi, .int .i64 mo, .int .i64 m, .int .i64 c, .bool k, .bool s, .int .i64 v, .int .i64 x, .int .i64 ti, .int .i64 tr] from Blk.new w [.int .i64 p, .int .i64 q, .int .i64 r, .int .i64 st, .int .i64 u, .string d, .int .i64 t, .bool f, .bool g, .bool h, .int .i64 n, .string y, .slice a 0 cap, .int .i64 fi, .bool z, .int .i64 wi, .int .i64 mo, .int .i64 m, .int .i64 c, .bool k, .bool s, .int .i64 v, .int .i64 x, .int .i64 ti, .int .i64 tr] 36)
  go_wp2_with fail
  change Calls _ _ _ (w.alloc (.cells #[.int .i64 p, .int .i64 q, .int .i64 r, .int .i64 st, .int .i64 u, .string d, .int .i64 t, .bool f, .bool g, .bool h, .int .i64 n, .string y, .slice a 0 cap, .int .i64 fi, .bool z, .int .i64 wi, .int .i64 mo, .int .i64 m, .int .i64 c, .bool k, .bool s, .int .i64 v, .int .i64 x, .int .i64 ti, .int .i64 tr] 36)) _
  generalize w.alloc (.cells #[.int .i64 p, .int .i64 q, .int .i64 r, .int .i64 st, .int .i64 u, .string d, .int .i64 t, .bool f, .bool g, .bool h, .int .i64 n, .string y, .slice a 0 cap, .int .i64 fi, .bool z, .int .i64 wi, .int .i64 mo, .int .i64 m, .int .i64 c, .bool k, .bool s, .int .i64 v, .int .i64 x, .int .i64 ti, .int .i64 tr] 36) = v0 at B0 Kl0 ⊢
  generalize w.heap.size = g_l at Kl0 ⊢
  refine (heldReceiver_any n fi z y a 0 cap j _ ((HR.out.below B0.out).mono B0.out.size) h0 h1 (by omega)).mono ?_
  rintro e v1 ⟨rfl, hb⟩
  have B1 := Lib.hid (B0.out.trans (hb.mono B0.out.size))
  have Kl1 := Lib.hid (Kl0.out.below hb)
  clear hb B0 Kl0
  have h3 : ¬ ((j + 2 * 0 : Nat) : Int) < 0 := by omega
  go_wp2_with fail
  go_ret
  exact ⟨rfl, B1.out⟩

set_option maxRecDepth 100000 in
set_option maxHeartbeats 4000000 in
theorem markConn_none (p q r st u : Int) (d : ByteArray) (t : Int) (f g h : Bool) (n : Int) (y : ByteArray) (a : Option Addr) (cap : Nat) (fi : Int) (z : Bool) (wi mo m c : Int) (k s : Bool) (v x ti tr : Int) (j : Nat) (w : World) :
    Calls Try.prog 24 #[.agg #[.int .i64 p, .int .i64 q, .int .i64 r, .int .i64 st, .int .i64 u, .string d, .int .i64 t, .bool f, .bool g, .bool h, .int .i64 n, .string y, .slice a 0 cap, .int .i64 fi, .bool z, .int .i64 wi, .int .i64 mo, .int .i64 m, .int .i64 c, .bool k, .bool s, .int .i64 v, .int .i64 x, .int .i64 ti, .int .i64 tr], .int .i64 j] w (IntE (j : Int) w) := by
  go_enter Try.func24, Try.ntmps24
  have B0 := Lib.hid (show Below w.heap.size w (w.alloc (.cells #[.int .i64 p, .int .i64 q, .int .i64 r, .int .i64 st, .int .i64 u, .string d, .int .i64 t, .bool f, .bool g, .bool h, .int .i64 n, .string y, .slice a 0 cap, .int .i64 fi, .bool z, .int .i64 wi, .int .i64 mo, .int .i64 m, .int .i64 c, .bool k, .bool s, .int .i64 v, .int .i64 x, .int .i64 ti, .int .i64 tr] 36)) from ((Below.refl _ w).alloc (by simp) _))
  have Kl0 := Lib.hid (show Blk (w.alloc (.cells #[.int .i64 p, .int .i64 q, .int .i64 r, .int .i64 st, .int .i64 u, .string d, .int .i64 t, .bool f, .bool g, .bool h, .int .i64 n, .string y, .slice a 0 cap, .int .i64 fi, .bool z, .int .i64 wi, .int .i64 mo, .int .i64 m, .int .i64 c, .bool k, .bool s, .int .i64 v, .int .i64 x, .int .i64 ti, .int .i64 tr] 36)) (w.heap.size) [.int .i64 p, .int .i64 q, .int .i64 r, .int .i64 st, .int .i64 u, .string d, .int .i64 t, .bool f, .bool g, .bool h, .int .i64 n, .string y, .slice a 0 cap, .int .i64 fi, .bool z, .int .i64 wi, .int .i64 mo, .int .i64 m, .int .i64 c, .bool k, .bool s, .int .i64 v, .int .i64 x, .int .i64 ti, .int .i64 tr] from Blk.new w [.int .i64 p, .int .i64 q, .int .i64 r, .int .i64 st, .int .i64 u, .string d, .int .i64 t, .bool f, .bool g, .bool h, .int .i64 n, .string y, .slice a 0 cap, .int .i64 fi, .bool z, .int .i64 wi, .int .i64 mo, .int .i64 m, .int .i64 c, .bool k, .bool s, .int .i64 v, .int .i64 x, .int .i64 ti, .int .i64 tr] 36)
  go_wp2_with fail
  change Calls _ _ _ (w.alloc (.cells #[.int .i64 p, .int .i64 q, .int .i64 r, .int .i64 st, .int .i64 u, .string d, .int .i64 t, .bool f, .bool g, .bool h, .int .i64 n, .string y, .slice a 0 cap, .int .i64 fi, .bool z, .int .i64 wi, .int .i64 mo, .int .i64 m, .int .i64 c, .bool k, .bool s, .int .i64 v, .int .i64 x, .int .i64 ti, .int .i64 tr] 36)) _
  generalize w.alloc (.cells #[.int .i64 p, .int .i64 q, .int .i64 r, .int .i64 st, .int .i64 u, .string d, .int .i64 t, .bool f, .bool g, .bool h, .int .i64 n, .string y, .slice a 0 cap, .int .i64 fi, .bool z, .int .i64 wi, .int .i64 mo, .int .i64 m, .int .i64 c, .bool k, .bool s, .int .i64 v, .int .i64 x, .int .i64 ti, .int .i64 tr] 36) = v0 at B0 Kl0 ⊢
  generalize w.heap.size = g_l at Kl0 ⊢
  refine (markReceiver_none n fi z y a cap j _).mono ?_
  rintro e v1 ⟨rfl, hb⟩
  have B1 := Lib.hid (B0.out.trans (hb.mono B0.out.size))
  have Kl1 := Lib.hid (Kl0.out.below hb)
  clear hb B0 Kl0
  go_wp2_with fail
  go_ret
  exact ⟨rfl, B1.out⟩
end Go.Proofs.Ytajekjjaaohbnaa
