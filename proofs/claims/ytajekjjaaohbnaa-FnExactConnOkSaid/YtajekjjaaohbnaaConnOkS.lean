/- ConnOk of the model. Nothing here is a claim. -/
import Derived.Test.YtajekjjaaohbnaaConnOkS0
import Derived.Test.YtajekjjaaohbnaaConnOkS1
import Derived.Test.YtajekjjaaohbnaaConnOkS2
namespace Go.Proofs.Ytajekjjaaohbnaa
open Go.RowKit Go.Lib

theorem connOkS (p q r st u : Int) (d : ByteArray) (t : Int) (f g h : Bool) (n : Int) (y : ByteArray) (a : Option Addr) (cap : Nat) (rs : List HP) (fi : Int) (z : Bool) (wi mo m c : Int) (k s : Bool) (v x ti tr : Int) (hB : RB y rs) (w : World) (hrow : Row w w.heap.size a (hps rs)) :
    Calls Try.prog 27 #[.agg #[.int .i64 p, .int .i64 q, .int .i64 r, .int .i64 st, .int .i64 u, .string d, .int .i64 t, .bool f, .bool g, .bool h, .int .i64 n, .string y, .slice a rs.length cap, .int .i64 fi, .bool z, .int .i64 wi, .int .i64 mo, .int .i64 m, .int .i64 c, .bool k, .bool s, .int .i64 v, .int .i64 x, .int .i64 ti, .int .i64 tr]] w (SndB (cnOk ⟨p, q, r, st, ⟨u, d, t, f, g, h⟩, ⟨n, y, rs, fi, z⟩, wi, mo, ⟨m, c, k, s, v, x⟩, ti, tr⟩) w) := by
  by_cases hno : tupOk p q r = true ∧ sndOk ⟨u, d, t, f, g, h⟩ = true ∧ rcvOk ⟨n, y, rs, fi, z⟩ = true ∧ optOk ⟨m, c, k, s, v, x⟩ = true ∧ 1 ≤ st ∧ st ≤ 8 ∧ 0 ≤ wi ∧ wi ≤ mo ∧ mo ≤ 1073725440 ∧ 0 ≤ tr ∧ tr ≤ 3 ∧ 0 ≤ ti ∧ ti ≤ cnTop st
  · obtain ⟨t1, t2, t3, t4, k1, k2, g1, g2, g3, g4, g5, g6, g7⟩ := hno
    have e : cnOk ⟨p, q, r, st, ⟨u, d, t, f, g, h⟩, ⟨n, y, rs, fi, z⟩, wi, mo, ⟨m, c, k, s, v, x⟩, ti, tr⟩ = cnFits st f h z := by unfold cnOk; simp only [t1, t2, t3, t4, Bool.true_and]; exact cnTail_yes rfl g1 g2 g3 g4 g5 g6 g7
    rw [e]
    clear e
    have hs : st = 1 ∨ st = 2 ∨ st = 3 ∨ st = 4 ∨ st = 5 ∨ st = 6 ∨ st = 7 ∨ st = 8 := by omega
    rcases hs with rfl | rfl | rfl | rfl | rfl | rfl | rfl | rfl
    · exact connOkS_1 p q r u d t f g h n y a cap rs fi z wi mo m c k s v x ti tr hB w hrow t1 t2 t3 t4 g1 g2 g3 g4 g5 g6 (by unfold cnTop at g7; omega)
    · exact connOkS_2 p q r u d t f g h n y a cap rs fi z wi mo m c k s v x ti tr hB w hrow t1 t2 t3 t4 g1 g2 g3 g4 g5 g6 (by unfold cnTop at g7; omega)
    · exact connOkS_3 p q r u d t f g h n y a cap rs fi z wi mo m c k s v x ti tr hB w hrow t1 t2 t3 t4 g1 g2 g3 g4 g5 g6 (by unfold cnTop at g7; omega)
    · exact connOkS_4 p q r u d t f g h n y a cap rs fi z wi mo m c k s v x ti tr hB w hrow t1 t2 t3 t4 g1 g2 g3 g4 g5 g6 (by unfold cnTop at g7; omega)
    · exact connOkS_5 p q r u d t f g h n y a cap rs fi z wi mo m c k s v x ti tr hB w hrow t1 t2 t3 t4 g1 g2 g3 g4 g5 g6 (by unfold cnTop at g7; omega)
    · exact connOkS_6 p q r u d t f g h n y a cap rs fi z wi mo m c k s v x ti tr hB w hrow t1 t2 t3 t4 g1 g2 g3 g4 g5 g6 (by unfold cnTop at g7; omega)
    · exact connOkS_7 p q r u d t f g h n y a cap rs fi z wi mo m c k s v x ti tr hB w hrow t1 t2 t3 t4 g1 g2 g3 g4 g5 g6 (by unfold cnTop at g7; omega)
    · exact connOkS_8 p q r u d t f g h n y a cap rs fi z wi mo m c k s v x ti tr hB w hrow t1 t2 t3 t4 g1 g2 g3 g4 g5 g6 (by unfold cnTop at g7; omega)
  · exact connOkS_no p q r st u d t f g h n y a cap rs fi z wi mo m c k s v x ti tr hB w hrow hno
end Go.Proofs.Ytajekjjaaohbnaa
