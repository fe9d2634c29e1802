/- The laws' own szMac, toMac, eqMac. Nothing here is a claim. -/
import Derived.Test.YtobfgkiccmhgdaaMacLaw
import Derived.Test.YtobfgkiccmhgdaaCurA
namespace Go.Proofs.Ytobfgkiccmhgdaa
open Go.RowKit Go.Lib

theorem szMac_any (u : Bool) (x y : Int) (a : Option Addr) (cap : Nat) (rs : List MR) (left : Int) (w : World) (hrow : Row w w.heap.size a (mrs rs)) (hl : rs.length ≤ maxLen) (hsz : ∀ r ∈ rs, r.s.size ≤ maxLen) (h0 : 0 ≤ left) (h1 : left ≤ 1048576) :
    Calls Try.prog 35 #[.agg #[.bool u, .int .u64 x, .int .u64 y, .slice a rs.length cap], .int .i64 left] w (SzM rs left w) := by
  have R := Lib.hid (szMacRowS_any a cap rs left (w.alloc (.cells #[.bool u, .int .u64 x, .int .u64 y, .slice a rs.length cap] 50)) ((hrow.below ((Below.refl _ _).alloc (Nat.le_refl _) _)).mono (by simp)) hl hsz h0 h1)
  clear hrow
  go_enter Try.func35, Try.ntmps35
  go_wp2_with fail
  refine R.out.mono ?_
  rintro e w1 ⟨hb, r, rfl, hr1, hr2⟩
  have HB := Lib.hid (show Below w.heap.size w w1 from ((Below.refl _ w).alloc (Nat.le_refl _) _).trans (hb.mono (by simp)))
  have HR := Lib.hid hr2
  clear hb hr2
  by_cases h : r < 0
  · go_wp2_with fail
    go_ret
    exact ⟨HB.out, -1, rfl, by omega, fun h => by omega⟩
  · go_wp2_with fail
    go_ret
    exact ⟨HB.out, r, rfl, hr1, HR.out⟩

/-- What toMac hands back: the same, its rows in new memory. -/
def ToMac (u : Bool) (x y : Int) (rs : List MR) (w : World) (e : Ending) (w' : World) : Prop :=
  ∃ g, e = .returned (.agg #[.bool u, .int .u64 x, .int .u64 y, .slice (some ⟨g, 0, none⟩) rs.length rs.length]) ∧ w'.ownsRow w.heap.size 92 2 (.slice (some ⟨g, 0, none⟩) rs.length rs.length) rs.length (mrs rs) ∧ Below w.heap.size w w'

set_option maxHeartbeats 1000000 in
theorem toMac_any (u : Bool) (x y : Int) (a : Option Addr) (cap : Nat) (rs : List MR) (w : World) (hrow : Row w w.heap.size a (mrs rs)) (hl : rs.length ≤ 1048576) :
    Calls Try.prog 37 #[.agg #[.bool u, .int .u64 x, .int .u64 y, .slice a rs.length cap]] w (ToMac u x y rs w) := by
  have HR := Lib.hid hrow
  clear hrow
  go_enter Try.func37, Try.ntmps37
  go_wp2_with fail
  have s1 : (w.alloc (.cells #[.bool u, .int .u64 x, .int .u64 y, .slice a rs.length cap] 50)).heap.size = w.heap.size + 1 := by simp
  have s2 : ((w.alloc (.cells #[.bool u, .int .u64 x, .int .u64 y, .slice a rs.length cap] 50)).alloc (.cells #[.bool false, .int .u64 0, .int .u64 0, .slice none 0 0] 27)).heap.size = w.heap.size + 1 + 1 := by simp
  have B3 := Lib.hid (show Below w.heap.size w (((w.alloc (.cells #[.bool u, .int .u64 x, .int .u64 y, .slice a rs.length cap] 50)).alloc (.cells #[.bool false, .int .u64 0, .int .u64 0, .slice none 0 0] 27)).alloc (.cells #[.bool u, .int .u64 x, .int .u64 y, .slice none 0 0] 27)) from (((Below.refl _ w).alloc (Nat.le_refl _) _).alloc (by simp) _).alloc (by simp; omega) _)
  have E1 := Lib.hid (show Blk (((w.alloc (.cells #[.bool u, .int .u64 x, .int .u64 y, .slice a rs.length cap] 50)).alloc (.cells #[.bool false, .int .u64 0, .int .u64 0, .slice none 0 0] 27)).alloc (.cells #[.bool u, .int .u64 x, .int .u64 y, .slice none 0 0] 27)) (w.heap.size + 1) [.bool false, .int .u64 0, .int .u64 0, .slice none 0 0] by
    have := (Blk.new (w.alloc (.cells #[.bool u, .int .u64 x, .int .u64 y, .slice a rs.length cap] 50)) [.bool false, .int .u64 0, .int .u64 0, .slice none 0 0] 27).alloc (.cells #[.bool u, .int .u64 x, .int .u64 y, .slice none 0 0] 27)
    rwa [s1] at this)
  have E2 := Lib.hid (show Blk (((w.alloc (.cells #[.bool u, .int .u64 x, .int .u64 y, .slice a rs.length cap] 50)).alloc (.cells #[.bool false, .int .u64 0, .int .u64 0, .slice none 0 0] 27)).alloc (.cells #[.bool u, .int .u64 x, .int .u64 y, .slice none 0 0] 27)) (w.heap.size + 1 + 1) [.bool u, .int .u64 x, .int .u64 y, .slice none 0 0] by
    have := Blk.new ((w.alloc (.cells #[.bool u, .int .u64 x, .int .u64 y, .slice a rs.length cap] 50)).alloc (.cells #[.bool false, .int .u64 0, .int .u64 0, .slice none 0 0] 27)) [.bool u, .int .u64 x, .int .u64 y, .slice none 0 0] 27
    rwa [s2] at this)
  clear s1 s2
  generalize (((w.alloc (.cells #[.bool u, .int .u64 x, .int .u64 y, .slice a rs.length cap] 50)).alloc (.cells #[.bool false, .int .u64 0, .int .u64 0, .slice none 0 0] 27)).alloc (.cells #[.bool u, .int .u64 x, .int .u64 y, .slice none 0 0] 27)) = w3 at B3 E1 E2 ⊢
  refine (toMacRowS_any a cap rs w3 ((HR.out.below B3.out).mono B3.out.size) hl).mono ?_
  rintro e w4 ⟨g, rfl, hown, hb⟩
  have O4 := Lib.hid hown
  have B4 := Lib.hid (B3.out.trans (hb.mono B3.out.size))
  have F1 := Lib.hid (E1.out.below hb)
  have F2 := Lib.hid (E2.out.below hb)
  have hz := B3.out.size
  have hl1 := E1.out.lt
  have hl2 := E2.out.lt
  clear hown hb B3 E1 E2 HR
  obtain ⟨⟨c0, c1, c2, c3⟩, f0, f1, f2, f3⟩ := F1.out.four
  obtain ⟨⟨d0, d1, d2, d3⟩, h0, h1, h2, h3⟩ := F2.out.four
  go_wp2_with fail
  refine bodyPost_ret (v := .agg #[.bool u, .int .u64 x, .int .u64 y, .slice (some ⟨g, 0, none⟩) rs.length rs.length]) (by simp [results, Try.results37, go_sem, c0, c1, c2, c3]) rfl ⟨g, rfl, ?_, ((((B4.out.setCell (by simp; omega) _).setCell (by simp) _).setCell (by simp) _).setCell (by simp) _).setCell (by simp) _⟩
  exact own_down (own_set (own_set (own_set (own_set (own_set O4.out _ _ hl2 _) _ _ hl1 _) _ _ hl1 _) _ _ hl1 _) _ _ hl1 _) hz

set_option maxHeartbeats 1000000 in
theorem eqMac_self (u : Bool) (x y : Int) (a b : Option Addr) (c d : Nat) (rs : List MR) (w : World) (ha : Row w w.heap.size a (mrs rs)) (hb : Row w w.heap.size b (mrs rs)) (hl : rs.length ≤ 1048576) :
    Calls Try.prog 31 #[.agg #[.bool u, .int .u64 x, .int .u64 y, .slice a rs.length c], .agg #[.bool u, .int .u64 x, .int .u64 y, .slice b rs.length d]] w fun e w' => e = .returned (.bool true) ∧ Below w.heap.size w w' := by
  have B2 := Lib.hid (show Below w.heap.size w ((w.alloc (.cells #[.bool u, .int .u64 x, .int .u64 y, .slice a rs.length c] 27)).alloc (.cells #[.bool u, .int .u64 x, .int .u64 y, .slice b rs.length d] 27)) from ((Below.refl _ w).alloc (Nat.le_refl _) _).alloc (by simp) _)
  have A0 := Lib.hid ((ha.below B2.out).mono B2.out.size)
  have B0 := Lib.hid ((hb.below B2.out).mono B2.out.size)
  clear ha hb
  go_enter Try.func31, Try.ntmps31
  go_wp2_with fail
  refine (eqMacRowS_self a b c d rs _ A0.out B0.out hl).mono ?_
  rintro e w1 ⟨rfl, hb1⟩
  have B1 := Lib.hid (B2.out.trans (hb1.mono B2.out.size))
  clear hb1 B2 A0 B0
  go_wp2_with fail
  go_ret
  exact ⟨rfl, B1.out⟩
end Go.Proofs.Ytobfgkiccmhgdaa
