/- SameConn of the model. Nothing here is a claim. -/
import Derived.Test.YtajekjjaaohbnaaConnEq
import Derived.Test.YtajekjjaaohbnaaBulk
import Derived.Test.YtajekjjaaohbnaaSameRcv
import Derived.Test.YtajekjjaaohbnaaSndPos
import Derived.Test.YtajekjjaaohbnaaCurA
namespace Go.Proofs.Ytajekjjaaohbnaa
open Go.RowKit Go.Lib

/-- Two connections are the same. -/
noncomputable def cnSame (C D : Cn) : Bool := (decide (C.p = D.p ∧ C.q = D.q ∧ C.r = D.r) && ((C.st == D.st) && (decide (C.S.u = D.S.u ∧ C.S.d = D.S.d ∧ C.S.t = D.S.t ∧ C.S.f = D.S.f ∧ C.S.g = D.S.g ∧ C.S.h = D.S.h) && (sameR C.R D.R && ((C.wi == D.wi) && ((C.mo == D.mo) && (decide (C.O.m = D.O.m ∧ C.O.c = D.O.c ∧ C.O.k = D.O.k ∧ C.O.t = D.O.t ∧ C.O.v = D.O.v ∧ C.O.e = D.O.e) && ((C.ti == D.ti) && (C.tr == D.tr)))))))))

set_option maxRecDepth 100000 in
set_option maxHeartbeats 16000000 in
theorem sameConnS (p q r st u : Int) (d : ByteArray) (t : Int) (f g h : Bool) (n : Int) (y : ByteArray) (a : Option Addr) (cap : Nat) (rs : List HP) (fi : Int) (z : Bool) (wi mo m c : Int) (k s : Bool) (v x ti tr : Int) (p' q' r' st' u' : Int) (d' : ByteArray) (t' : Int) (f' g' h' : Bool) (n' : Int) (y' : ByteArray) (a' : Option Addr) (cap' : Nat) (rs' : List HP) (fi' : Int) (z' : Bool) (wi' mo' m' c' : Int) (k' s' : Bool) (v' x' ti' tr' : Int) (w : World) (ha : Row w w.heap.size a (hps rs)) (hb : Row w w.heap.size a' (hps rs')) (hl : rs.length ≤ 1048577) :
    Calls Try.prog 13 #[.agg #[.int .i64 p, .int .i64 q, .int .i64 r, .int .i64 st, .int .i64 u, .string d, .int .i64 t, .bool f, .bool g, .bool h, .int .i64 n, .string y, .slice a rs.length cap, .int .i64 fi, .bool z, .int .i64 wi, .int .i64 mo, .int .i64 m, .int .i64 c, .bool k, .bool s, .int .i64 v, .int .i64 x, .int .i64 ti, .int .i64 tr], .agg #[.int .i64 p', .int .i64 q', .int .i64 r', .int .i64 st', .int .i64 u', .string d', .int .i64 t', .bool f', .bool g', .bool h', .int .i64 n', .string y', .slice a' rs'.length cap', .int .i64 fi', .bool z', .int .i64 wi', .int .i64 mo', .int .i64 m', .int .i64 c', .bool k', .bool s', .int .i64 v', .int .i64 x', .int .i64 ti', .int .i64 tr']] w (SndB (cnSame ⟨p, q, r, st, ⟨u, d, t, f, g, h⟩, ⟨n, y, rs, fi, z⟩, wi, mo, ⟨m, c, k, s, v, x⟩, ti, tr⟩ ⟨p', q', r', st', ⟨u', d', t', f', g', h'⟩, ⟨n', y', rs', fi', z'⟩, wi', mo', ⟨m', c', k', s', v', x'⟩, ti', tr'⟩) w) := by
  have HA := Lib.hid ha
  have HB := Lib.hid hb
  replace hl := Lib.hid hl
  clear ha hb
  have E1 := fun w => eqTT p p' q q' r r' w
  have E3 := fun w => eqSS u u' d d' t t' f f' g g' h h' w
  have E7 := fun w => eqOO m m' c c' k k' s s' v v' x x' w
  have CR := fun w ka kb => sameRcvS n n' fi fi' y y' z z' a a' cap cap' rs rs' w ka kb hl.out
  have D0 : cnSame ⟨p, q, r, st, ⟨u, d, t, f, g, h⟩, ⟨n, y, rs, fi, z⟩, wi, mo, ⟨m, c, k, s, v, x⟩, ti, tr⟩ ⟨p', q', r', st', ⟨u', d', t', f', g', h'⟩, ⟨n', y', rs', fi', z'⟩, wi', mo', ⟨m', c', k', s', v', x'⟩, ti', tr'⟩ = (decide (p = p' ∧ q = q' ∧ r = r') && ((st == st') && (decide (u = u' ∧ d = d' ∧ t = t' ∧ f = f' ∧ g = g' ∧ h = h') && (sameR ⟨n, y, rs, fi, z⟩ ⟨n', y', rs', fi', z'⟩ && ((wi == wi') && ((mo == mo') && (decide (m = m' ∧ c = c' ∧ k = k' ∧ s = s' ∧ v = v' ∧ x = x') && ((ti == ti') && (tr == tr'))))))))) := rfl
  generalize cnSame ⟨p, q, r, st, ⟨u, d, t, f, g, h⟩, ⟨n, y, rs, fi, z⟩, wi, mo, ⟨m, c, k, s, v, x⟩, ti, tr⟩ ⟨p', q', r', st', ⟨u', d', t', f', g', h'⟩, ⟨n', y', rs', fi', z'⟩, wi', mo', ⟨m', c', k', s', v', x'⟩, ti', tr'⟩ = ans at D0 ⊢
  generalize decide (p = p' ∧ q = q' ∧ r = r') = b1 at E1 D0
  generalize decide (u = u' ∧ d = d' ∧ t = t' ∧ f = f' ∧ g = g' ∧ h = h') = b3 at E3 D0
  generalize decide (m = m' ∧ c = c' ∧ k = k' ∧ s = s' ∧ v = v' ∧ x = x') = b7 at E7 D0
  generalize sameR ⟨n, y, rs, fi, z⟩ ⟨n', y', rs', fi', z'⟩ = b4 at CR D0
  replace CR := Lib.hid CR
  replace D0 := Lib.hid D0
  go_enter Try.func13, Try.ntmps13
  have B0 := Lib.hid (show Below w.heap.size w ((w.alloc (.cells #[.int .i64 p, .int .i64 q, .int .i64 r, .int .i64 st, .int .i64 u, .string d, .int .i64 t, .bool f, .bool g, .bool h, .int .i64 n, .string y, .slice a rs.length cap, .int .i64 fi, .bool z, .int .i64 wi, .int .i64 mo, .int .i64 m, .int .i64 c, .bool k, .bool s, .int .i64 v, .int .i64 x, .int .i64 ti, .int .i64 tr] 36)).alloc (.cells #[.int .i64 p', .int .i64 q', .int .i64 r', .int .i64 st', .int .i64 u', .string d', .int .i64 t', .bool f', .bool g', .bool h', .int .i64 n', .string y', .slice a' rs'.length cap', .int .i64 fi', .bool z', .int .i64 wi', .int .i64 mo', .int .i64 m', .int .i64 c', .bool k', .bool s', .int .i64 v', .int .i64 x', .int .i64 ti', .int .i64 tr'] 36)) from (((Below.refl _ w).alloc (by simp) _).alloc (by simp) _))
  have KA0 := Lib.hid (show Blk ((w.alloc (.cells #[.int .i64 p, .int .i64 q, .int .i64 r, .int .i64 st, .int .i64 u, .string d, .int .i64 t, .bool f, .bool g, .bool h, .int .i64 n, .string y, .slice a rs.length cap, .int .i64 fi, .bool z, .int .i64 wi, .int .i64 mo, .int .i64 m, .int .i64 c, .bool k, .bool s, .int .i64 v, .int .i64 x, .int .i64 ti, .int .i64 tr] 36)).alloc (.cells #[.int .i64 p', .int .i64 q', .int .i64 r', .int .i64 st', .int .i64 u', .string d', .int .i64 t', .bool f', .bool g', .bool h', .int .i64 n', .string y', .slice a' rs'.length cap', .int .i64 fi', .bool z', .int .i64 wi', .int .i64 mo', .int .i64 m', .int .i64 c', .bool k', .bool s', .int .i64 v', .int .i64 x', .int .i64 ti', .int .i64 tr'] 36)) (w.heap.size) [.int .i64 p, .int .i64 q, .int .i64 r, .int .i64 st, .int .i64 u, .string d, .int .i64 t, .bool f, .bool g, .bool h, .int .i64 n, .string y, .slice a rs.length cap, .int .i64 fi, .bool z, .int .i64 wi, .int .i64 mo, .int .i64 m, .int .i64 c, .bool k, .bool s, .int .i64 v, .int .i64 x, .int .i64 ti, .int .i64 tr] from (Blk.new w [.int .i64 p, .int .i64 q, .int .i64 r, .int .i64 st, .int .i64 u, .string d, .int .i64 t, .bool f, .bool g, .bool h, .int .i64 n, .string y, .slice a rs.length cap, .int .i64 fi, .bool z, .int .i64 wi, .int .i64 mo, .int .i64 m, .int .i64 c, .bool k, .bool s, .int .i64 v, .int .i64 x, .int .i64 ti, .int .i64 tr] 36).alloc (.cells #[.int .i64 p', .int .i64 q', .int .i64 r', .int .i64 st', .int .i64 u', .string d', .int .i64 t', .bool f', .bool g', .bool h', .int .i64 n', .string y', .slice a' rs'.length cap', .int .i64 fi', .bool z', .int .i64 wi', .int .i64 mo', .int .i64 m', .int .i64 c', .bool k', .bool s', .int .i64 v', .int .i64 x', .int .i64 ti', .int .i64 tr'] 36))
  have s1 : (w.alloc (.cells #[.int .i64 p, .int .i64 q, .int .i64 r, .int .i64 st, .int .i64 u, .string d, .int .i64 t, .bool f, .bool g, .bool h, .int .i64 n, .string y, .slice a rs.length cap, .int .i64 fi, .bool z, .int .i64 wi, .int .i64 mo, .int .i64 m, .int .i64 c, .bool k, .bool s, .int .i64 v, .int .i64 x, .int .i64 ti, .int .i64 tr] 36)).heap.size = w.heap.size + 1 := by simp
  have KB0 := Lib.hid (show Blk ((w.alloc (.cells #[.int .i64 p, .int .i64 q, .int .i64 r, .int .i64 st, .int .i64 u, .string d, .int .i64 t, .bool f, .bool g, .bool h, .int .i64 n, .string y, .slice a rs.length cap, .int .i64 fi, .bool z, .int .i64 wi, .int .i64 mo, .int .i64 m, .int .i64 c, .bool k, .bool s, .int .i64 v, .int .i64 x, .int .i64 ti, .int .i64 tr] 36)).alloc (.cells #[.int .i64 p', .int .i64 q', .int .i64 r', .int .i64 st', .int .i64 u', .string d', .int .i64 t', .bool f', .bool g', .bool h', .int .i64 n', .string y', .slice a' rs'.length cap', .int .i64 fi', .bool z', .int .i64 wi', .int .i64 mo', .int .i64 m', .int .i64 c', .bool k', .bool s', .int .i64 v', .int .i64 x', .int .i64 ti', .int .i64 tr'] 36)) (w.heap.size + 1) [.int .i64 p', .int .i64 q', .int .i64 r', .int .i64 st', .int .i64 u', .string d', .int .i64 t', .bool f', .bool g', .bool h', .int .i64 n', .string y', .slice a' rs'.length cap', .int .i64 fi', .bool z', .int .i64 wi', .int .i64 mo', .int .i64 m', .int .i64 c', .bool k', .bool s', .int .i64 v', .int .i64 x', .int .i64 ti', .int .i64 tr'] by have h0 := Blk.new (w.alloc (.cells #[.int .i64 p, .int .i64 q, .int .i64 r, .int .i64 st, .int .i64 u, .string d, .int .i64 t, .bool f, .bool g, .bool h, .int .i64 n, .string y, .slice a rs.length cap, .int .i64 fi, .bool z, .int .i64 wi, .int .i64 mo, .int .i64 m, .int .i64 c, .bool k, .bool s, .int .i64 v, .int .i64 x, .int .i64 ti, .int .i64 tr] 36)) [.int .i64 p', .int .i64 q', .int .i64 r', .int .i64 st', .int .i64 u', .string d', .int .i64 t', .bool f', .bool g', .bool h', .int .i64 n', .string y', .slice a' rs'.length cap', .int .i64 fi', .bool z', .int .i64 wi', .int .i64 mo', .int .i64 m', .int .i64 c', .bool k', .bool s', .int .i64 v', .int .i64 x', .int .i64 ti', .int .i64 tr'] 36; rwa [s1] at h0)
  have n_A_B : w.heap.size ≠ w.heap.size + 1 := by omega
  clear s1
  go_upto_region 1 with fail
  generalize (w.alloc (.cells #[.int .i64 p, .int .i64 q, .int .i64 r, .int .i64 st, .int .i64 u, .string d, .int .i64 t, .bool f, .bool g, .bool h, .int .i64 n, .string y, .slice a rs.length cap, .int .i64 fi, .bool z, .int .i64 wi, .int .i64 mo, .int .i64 m, .int .i64 c, .bool k, .bool s, .int .i64 v, .int .i64 x, .int .i64 ti, .int .i64 tr] 36)).alloc (.cells #[.int .i64 p', .int .i64 q', .int .i64 r', .int .i64 st', .int .i64 u', .string d', .int .i64 t', .bool f', .bool g', .bool h', .int .i64 n', .string y', .slice a' rs'.length cap', .int .i64 fi', .bool z', .int .i64 wi', .int .i64 mo', .int .i64 m', .int .i64 c', .bool k', .bool s', .int .i64 v', .int .i64 x', .int .i64 ti', .int .i64 tr'] 36) = v0 at B0 KA0 KB0 ⊢
  generalize w.heap.size + 1 = g_B at KB0 n_A_B ⊢
  generalize w.heap.size = g_A at KA0 n_A_B ⊢
  cases b1
  case false =>
    have cA0 : v0.cell? ⟨g_A, 0, none⟩ = some (.int .i64 p) := KA0.out.cell 0 _ rfl
    have cA1 : v0.cell? ⟨g_A, 1, none⟩ = some (.int .i64 q) := KA0.out.cell 1 _ rfl
    have cA2 : v0.cell? ⟨g_A, 2, none⟩ = some (.int .i64 r) := KA0.out.cell 2 _ rfl
    have cB0 : v0.cell? ⟨g_B, 0, none⟩ = some (.int .i64 p') := KB0.out.cell 0 _ rfl
    have cB1 : v0.cell? ⟨g_B, 1, none⟩ = some (.int .i64 q') := KB0.out.cell 1 _ rfl
    have cB2 : v0.cell? ⟨g_B, 2, none⟩ = some (.int .i64 r') := KB0.out.cell 2 _ rfl
    go_wp2_with fail
    go_ret
    exact ⟨ret_bool (by rw [D0.out]; simp), B0.out⟩
  by_cases i_st : st = st'
  case neg =>
    have j_st : (st == st') = false := by simpa using i_st
    have cA0 : v0.cell? ⟨g_A, 0, none⟩ = some (.int .i64 p) := KA0.out.cell 0 _ rfl
    have cA1 : v0.cell? ⟨g_A, 1, none⟩ = some (.int .i64 q) := KA0.out.cell 1 _ rfl
    have cA2 : v0.cell? ⟨g_A, 2, none⟩ = some (.int .i64 r) := KA0.out.cell 2 _ rfl
    have cA3 : v0.cell? ⟨g_A, 3, none⟩ = some (.int .i64 st) := KA0.out.cell 3 _ rfl
    have cB0 : v0.cell? ⟨g_B, 0, none⟩ = some (.int .i64 p') := KB0.out.cell 0 _ rfl
    have cB1 : v0.cell? ⟨g_B, 1, none⟩ = some (.int .i64 q') := KB0.out.cell 1 _ rfl
    have cB2 : v0.cell? ⟨g_B, 2, none⟩ = some (.int .i64 r') := KB0.out.cell 2 _ rfl
    have cB3 : v0.cell? ⟨g_B, 3, none⟩ = some (.int .i64 st') := KB0.out.cell 3 _ rfl
    go_wp2_with fail
    go_ret
    exact ⟨ret_bool (by rw [D0.out]; simp [i_st]), B0.out⟩
  subst i_st
  cases b3
  case false =>
    have cA0 : v0.cell? ⟨g_A, 0, none⟩ = some (.int .i64 p) := KA0.out.cell 0 _ rfl
    have cA1 : v0.cell? ⟨g_A, 1, none⟩ = some (.int .i64 q) := KA0.out.cell 1 _ rfl
    have cA2 : v0.cell? ⟨g_A, 2, none⟩ = some (.int .i64 r) := KA0.out.cell 2 _ rfl
    have cA3 : v0.cell? ⟨g_A, 3, none⟩ = some (.int .i64 st) := KA0.out.cell 3 _ rfl
    have cA4 : v0.cell? ⟨g_A, 4, none⟩ = some (.int .i64 u) := KA0.out.cell 4 _ rfl
    have cA5 : v0.cell? ⟨g_A, 5, none⟩ = some (.string d) := KA0.out.cell 5 _ rfl
    have cA6 : v0.cell? ⟨g_A, 6, none⟩ = some (.int .i64 t) := KA0.out.cell 6 _ rfl
    have cA7 : v0.cell? ⟨g_A, 7, none⟩ = some (.bool f) := KA0.out.cell 7 _ rfl
    have cA8 : v0.cell? ⟨g_A, 8, none⟩ = some (.bool g) := KA0.out.cell 8 _ rfl
    have cA9 : v0.cell? ⟨g_A, 9, none⟩ = some (.bool h) := KA0.out.cell 9 _ rfl
    have cB0 : v0.cell? ⟨g_B, 0, none⟩ = some (.int .i64 p') := KB0.out.cell 0 _ rfl
    have cB1 : v0.cell? ⟨g_B, 1, none⟩ = some (.int .i64 q') := KB0.out.cell 1 _ rfl
    have cB2 : v0.cell? ⟨g_B, 2, none⟩ = some (.int .i64 r') := KB0.out.cell 2 _ rfl
    have cB3 : v0.cell? ⟨g_B, 3, none⟩ = some (.int .i64 st) := KB0.out.cell 3 _ rfl
    have cB4 : v0.cell? ⟨g_B, 4, none⟩ = some (.int .i64 u') := KB0.out.cell 4 _ rfl
    have cB5 : v0.cell? ⟨g_B, 5, none⟩ = some (.string d') := KB0.out.cell 5 _ rfl
    have cB6 : v0.cell? ⟨g_B, 6, none⟩ = some (.int .i64 t') := KB0.out.cell 6 _ rfl
    have cB7 : v0.cell? ⟨g_B, 7, none⟩ = some (.bool f') := KB0.out.cell 7 _ rfl
    have cB8 : v0.cell? ⟨g_B, 8, none⟩ = some (.bool g') := KB0.out.cell 8 _ rfl
    have cB9 : v0.cell? ⟨g_B, 9, none⟩ = some (.bool h') := KB0.out.cell 9 _ rfl
    go_wp2_with fail
    go_ret
    exact ⟨ret_bool (by rw [D0.out]; simp), B0.out⟩
  have cA0 : v0.cell? ⟨g_A, 0, none⟩ = some (.int .i64 p) := KA0.out.cell 0 _ rfl
  have cA1 : v0.cell? ⟨g_A, 1, none⟩ = some (.int .i64 q) := KA0.out.cell 1 _ rfl
  have cA2 : v0.cell? ⟨g_A, 2, none⟩ = some (.int .i64 r) := KA0.out.cell 2 _ rfl
  have cA3 : v0.cell? ⟨g_A, 3, none⟩ = some (.int .i64 st) := KA0.out.cell 3 _ rfl
  have cA4 : v0.cell? ⟨g_A, 4, none⟩ = some (.int .i64 u) := KA0.out.cell 4 _ rfl
  have cA5 : v0.cell? ⟨g_A, 5, none⟩ = some (.string d) := KA0.out.cell 5 _ rfl
  have cA6 : v0.cell? ⟨g_A, 6, none⟩ = some (.int .i64 t) := KA0.out.cell 6 _ rfl
  have cA7 : v0.cell? ⟨g_A, 7, none⟩ = some (.bool f) := KA0.out.cell 7 _ rfl
  have cA8 : v0.cell? ⟨g_A, 8, none⟩ = some (.bool g) := KA0.out.cell 8 _ rfl
  have cA9 : v0.cell? ⟨g_A, 9, none⟩ = some (.bool h) := KA0.out.cell 9 _ rfl
  have cA10 : v0.cell? ⟨g_A, 10, none⟩ = some (.int .i64 n) := KA0.out.cell 10 _ rfl
  have cA11 : v0.cell? ⟨g_A, 11, none⟩ = some (.string y) := KA0.out.cell 11 _ rfl
  have cA12 : v0.cell? ⟨g_A, 12, none⟩ = some (.slice a rs.length cap) := KA0.out.cell 12 _ rfl
  have cA13 : v0.cell? ⟨g_A, 13, none⟩ = some (.int .i64 fi) := KA0.out.cell 13 _ rfl
  have cA14 : v0.cell? ⟨g_A, 14, none⟩ = some (.bool z) := KA0.out.cell 14 _ rfl
  have cB0 : v0.cell? ⟨g_B, 0, none⟩ = some (.int .i64 p') := KB0.out.cell 0 _ rfl
  have cB1 : v0.cell? ⟨g_B, 1, none⟩ = some (.int .i64 q') := KB0.out.cell 1 _ rfl
  have cB2 : v0.cell? ⟨g_B, 2, none⟩ = some (.int .i64 r') := KB0.out.cell 2 _ rfl
  have cB3 : v0.cell? ⟨g_B, 3, none⟩ = some (.int .i64 st) := KB0.out.cell 3 _ rfl
  have cB4 : v0.cell? ⟨g_B, 4, none⟩ = some (.int .i64 u') := KB0.out.cell 4 _ rfl
  have cB5 : v0.cell? ⟨g_B, 5, none⟩ = some (.string d') := KB0.out.cell 5 _ rfl
  have cB6 : v0.cell? ⟨g_B, 6, none⟩ = some (.int .i64 t') := KB0.out.cell 6 _ rfl
  have cB7 : v0.cell? ⟨g_B, 7, none⟩ = some (.bool f') := KB0.out.cell 7 _ rfl
  have cB8 : v0.cell? ⟨g_B, 8, none⟩ = some (.bool g') := KB0.out.cell 8 _ rfl
  have cB9 : v0.cell? ⟨g_B, 9, none⟩ = some (.bool h') := KB0.out.cell 9 _ rfl
  have cB10 : v0.cell? ⟨g_B, 10, none⟩ = some (.int .i64 n') := KB0.out.cell 10 _ rfl
  have cB11 : v0.cell? ⟨g_B, 11, none⟩ = some (.string y') := KB0.out.cell 11 _ rfl
  have cB12 : v0.cell? ⟨g_B, 12, none⟩ = some (.slice a' rs'.length cap') := KB0.out.cell 12 _ rfl
  have cB13 : v0.cell? ⟨g_B, 13, none⟩ = some (.int .i64 fi') := KB0.out.cell 13 _ rfl
  have cB14 : v0.cell? ⟨g_B, 14, none⟩ = some (.bool z') := KB0.out.cell 14 _ rfl
  go_wp2_with fail
  clear cA0 cA1 cA2 cA3 cA4 cA5 cA6 cA7 cA8 cA9 cA10 cA11 cA12 cA13 cA14 cB0 cB1 cB2 cB3 cB4 cB5 cB6 cB7 cB8 cB9 cB10 cB11 cB12 cB13 cB14
  refine (CR.out _ ((HA.out.below B0.out).mono B0.out.size) ((HB.out.below B0.out).mono B0.out.size)).mono ?_
  rintro e v1 ⟨rfl, hb⟩
  have B1 := Lib.hid (B0.out.trans (hb.mono B0.out.size))
  have KA1 := Lib.hid (KA0.out.below hb)
  have KB1 := Lib.hid (KB0.out.below hb)
  clear hb B0 KA0 KB0
  cases b4
  case false =>
    go_wp2_with fail
    go_ret
    exact ⟨ret_bool (by rw [D0.out]; simp), B1.out⟩
  by_cases i_wi : wi = wi'
  case neg =>
    have j_wi : (wi == wi') = false := by simpa using i_wi
    have cA15 : v1.cell? ⟨g_A, 15, none⟩ = some (.int .i64 wi) := KA1.out.cell 15 _ rfl
    have cB15 : v1.cell? ⟨g_B, 15, none⟩ = some (.int .i64 wi') := KB1.out.cell 15 _ rfl
    go_wp2_with fail
    go_ret
    exact ⟨ret_bool (by rw [D0.out]; simp [i_wi]), B1.out⟩
  subst i_wi
  by_cases i_mo : mo = mo'
  case neg =>
    have j_mo : (mo == mo') = false := by simpa using i_mo
    have cA15 : v1.cell? ⟨g_A, 15, none⟩ = some (.int .i64 wi) := KA1.out.cell 15 _ rfl
    have cA16 : v1.cell? ⟨g_A, 16, none⟩ = some (.int .i64 mo) := KA1.out.cell 16 _ rfl
    have cB15 : v1.cell? ⟨g_B, 15, none⟩ = some (.int .i64 wi) := KB1.out.cell 15 _ rfl
    have cB16 : v1.cell? ⟨g_B, 16, none⟩ = some (.int .i64 mo') := KB1.out.cell 16 _ rfl
    go_wp2_with fail
    go_ret
    exact ⟨ret_bool (by rw [D0.out]; simp [i_mo]), B1.out⟩
  subst i_mo
  cases b7
  case false =>
    have cA15 : v1.cell? ⟨g_A, 15, none⟩ = some (.int .i64 wi) := KA1.out.cell 15 _ rfl
    have cA16 : v1.cell? ⟨g_A, 16, none⟩ = some (.int .i64 mo) := KA1.out.cell 16 _ rfl
    have cA17 : v1.cell? ⟨g_A, 17, none⟩ = some (.int .i64 m) := KA1.out.cell 17 _ rfl
    have cA18 : v1.cell? ⟨g_A, 18, none⟩ = some (.int .i64 c) := KA1.out.cell 18 _ rfl
    have cA19 : v1.cell? ⟨g_A, 19, none⟩ = some (.bool k) := KA1.out.cell 19 _ rfl
    have cA20 : v1.cell? ⟨g_A, 20, none⟩ = some (.bool s) := KA1.out.cell 20 _ rfl
    have cA21 : v1.cell? ⟨g_A, 21, none⟩ = some (.int .i64 v) := KA1.out.cell 21 _ rfl
    have cA22 : v1.cell? ⟨g_A, 22, none⟩ = some (.int .i64 x) := KA1.out.cell 22 _ rfl
    have cB15 : v1.cell? ⟨g_B, 15, none⟩ = some (.int .i64 wi) := KB1.out.cell 15 _ rfl
    have cB16 : v1.cell? ⟨g_B, 16, none⟩ = some (.int .i64 mo) := KB1.out.cell 16 _ rfl
    have cB17 : v1.cell? ⟨g_B, 17, none⟩ = some (.int .i64 m') := KB1.out.cell 17 _ rfl
    have cB18 : v1.cell? ⟨g_B, 18, none⟩ = some (.int .i64 c') := KB1.out.cell 18 _ rfl
    have cB19 : v1.cell? ⟨g_B, 19, none⟩ = some (.bool k') := KB1.out.cell 19 _ rfl
    have cB20 : v1.cell? ⟨g_B, 20, none⟩ = some (.bool s') := KB1.out.cell 20 _ rfl
    have cB21 : v1.cell? ⟨g_B, 21, none⟩ = some (.int .i64 v') := KB1.out.cell 21 _ rfl
    have cB22 : v1.cell? ⟨g_B, 22, none⟩ = some (.int .i64 x') := KB1.out.cell 22 _ rfl
    go_wp2_with fail
    go_ret
    exact ⟨ret_bool (by rw [D0.out]; simp), B1.out⟩
  by_cases i_ti : ti = ti'
  case neg =>
    have j_ti : (ti == ti') = false := by simpa using i_ti
    have cA15 : v1.cell? ⟨g_A, 15, none⟩ = some (.int .i64 wi) := KA1.out.cell 15 _ rfl
    have cA16 : v1.cell? ⟨g_A, 16, none⟩ = some (.int .i64 mo) := KA1.out.cell 16 _ rfl
    have cA17 : v1.cell? ⟨g_A, 17, none⟩ = some (.int .i64 m) := KA1.out.cell 17 _ rfl
    have cA18 : v1.cell? ⟨g_A, 18, none⟩ = some (.int .i64 c) := KA1.out.cell 18 _ rfl
    have cA19 : v1.cell? ⟨g_A, 19, none⟩ = some (.bool k) := KA1.out.cell 19 _ rfl
    have cA20 : v1.cell? ⟨g_A, 20, none⟩ = some (.bool s) := KA1.out.cell 20 _ rfl
    have cA21 : v1.cell? ⟨g_A, 21, none⟩ = some (.int .i64 v) := KA1.out.cell 21 _ rfl
    have cA22 : v1.cell? ⟨g_A, 22, none⟩ = some (.int .i64 x) := KA1.out.cell 22 _ rfl
    have cA23 : v1.cell? ⟨g_A, 23, none⟩ = some (.int .i64 ti) := KA1.out.cell 23 _ rfl
    have cB15 : v1.cell? ⟨g_B, 15, none⟩ = some (.int .i64 wi) := KB1.out.cell 15 _ rfl
    have cB16 : v1.cell? ⟨g_B, 16, none⟩ = some (.int .i64 mo) := KB1.out.cell 16 _ rfl
    have cB17 : v1.cell? ⟨g_B, 17, none⟩ = some (.int .i64 m') := KB1.out.cell 17 _ rfl
    have cB18 : v1.cell? ⟨g_B, 18, none⟩ = some (.int .i64 c') := KB1.out.cell 18 _ rfl
    have cB19 : v1.cell? ⟨g_B, 19, none⟩ = some (.bool k') := KB1.out.cell 19 _ rfl
    have cB20 : v1.cell? ⟨g_B, 20, none⟩ = some (.bool s') := KB1.out.cell 20 _ rfl
    have cB21 : v1.cell? ⟨g_B, 21, none⟩ = some (.int .i64 v') := KB1.out.cell 21 _ rfl
    have cB22 : v1.cell? ⟨g_B, 22, none⟩ = some (.int .i64 x') := KB1.out.cell 22 _ rfl
    have cB23 : v1.cell? ⟨g_B, 23, none⟩ = some (.int .i64 ti') := KB1.out.cell 23 _ rfl
    go_wp2_with fail
    go_ret
    exact ⟨ret_bool (by rw [D0.out]; simp [i_ti]), B1.out⟩
  subst i_ti
  have cA15 : v1.cell? ⟨g_A, 15, none⟩ = some (.int .i64 wi) := KA1.out.cell 15 _ rfl
  have cA16 : v1.cell? ⟨g_A, 16, none⟩ = some (.int .i64 mo) := KA1.out.cell 16 _ rfl
  have cA17 : v1.cell? ⟨g_A, 17, none⟩ = some (.int .i64 m) := KA1.out.cell 17 _ rfl
  have cA18 : v1.cell? ⟨g_A, 18, none⟩ = some (.int .i64 c) := KA1.out.cell 18 _ rfl
  have cA19 : v1.cell? ⟨g_A, 19, none⟩ = some (.bool k) := KA1.out.cell 19 _ rfl
  have cA20 : v1.cell? ⟨g_A, 20, none⟩ = some (.bool s) := KA1.out.cell 20 _ rfl
  have cA21 : v1.cell? ⟨g_A, 21, none⟩ = some (.int .i64 v) := KA1.out.cell 21 _ rfl
  have cA22 : v1.cell? ⟨g_A, 22, none⟩ = some (.int .i64 x) := KA1.out.cell 22 _ rfl
  have cA23 : v1.cell? ⟨g_A, 23, none⟩ = some (.int .i64 ti) := KA1.out.cell 23 _ rfl
  have cA24 : v1.cell? ⟨g_A, 24, none⟩ = some (.int .i64 tr) := KA1.out.cell 24 _ rfl
  have cB15 : v1.cell? ⟨g_B, 15, none⟩ = some (.int .i64 wi) := KB1.out.cell 15 _ rfl
  have cB16 : v1.cell? ⟨g_B, 16, none⟩ = some (.int .i64 mo) := KB1.out.cell 16 _ rfl
  have cB17 : v1.cell? ⟨g_B, 17, none⟩ = some (.int .i64 m') := KB1.out.cell 17 _ rfl
  have cB18 : v1.cell? ⟨g_B, 18, none⟩ = some (.int .i64 c') := KB1.out.cell 18 _ rfl
  have cB19 : v1.cell? ⟨g_B, 19, none⟩ = some (.bool k') := KB1.out.cell 19 _ rfl
  have cB20 : v1.cell? ⟨g_B, 20, none⟩ = some (.bool s') := KB1.out.cell 20 _ rfl
  have cB21 : v1.cell? ⟨g_B, 21, none⟩ = some (.int .i64 v') := KB1.out.cell 21 _ rfl
  have cB22 : v1.cell? ⟨g_B, 22, none⟩ = some (.int .i64 x') := KB1.out.cell 22 _ rfl
  have cB23 : v1.cell? ⟨g_B, 23, none⟩ = some (.int .i64 ti) := KB1.out.cell 23 _ rfl
  have cB24 : v1.cell? ⟨g_B, 24, none⟩ = some (.int .i64 tr') := KB1.out.cell 24 _ rfl
  go_wp2_with fail
  go_ret
  exact ⟨ret_bool (by rw [D0.out]; simp), B1.out⟩
end Go.Proofs.Ytajekjjaaohbnaa
