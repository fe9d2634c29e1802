/- The draws' own DrawMacOf. Nothing here is a claim. -/
import Derived.Test.YtkmflfmbmmpohaaDrawMac
namespace Go.Proofs.Ytkmflfmbmmpohaa
open Go.RowKit Go.Lib

theorem TabOf.set {w w1 : World} {g : Nat} {a : Option Addr} {cap : Nat} {rs : List MR} (h : TabOf w w1 g a cap rs) (q k : Nat) (hq : q < w.heap.size) (u : Value) : TabOf w (w1.setCell ⟨q, k, none⟩ u) g a cap rs :=
  ⟨h.1, h.2.imp id fun ⟨b, h3, hne, ho⟩ => ⟨b, h3, hne, own_set ho q k hq u⟩⟩
/-- What DrawMacOf hands back. -/
def MacOfEnd (w : World) (e : Ending) (w' : World) : Prop :=
  ∃ (u : Bool) (k l : BitVec 64) (a : Option Addr) (cap : Nat) (rs : List MR) (x : ByteArray), e = .returned (.tuple #[.agg #[.bool u, .int .u64 (n64 k), .int .u64 (n64 l), .slice a rs.length cap], .string x]) ∧ x.size ≤ 2 ∧ (∃ w0 g, TabOf w0 w' g a cap rs) ∧ Below w.heap.size w w'

set_option maxRecDepth 100000 in
set_option maxHeartbeats 4000000 in
theorem drawMacOf (a : Option Addr) (s : List UInt8) (cap : Nat) (w : World) (hrow : Row w w.heap.size a (byteCells s)) (hs : s.length ≤ 1048576) :
    Calls Try.prog 10 #[.slice a s.length cap] w (MacOfEnd w) := by
  have B0 := Lib.hid (show Below w.heap.size w (w.alloc (.cells #[.bool false, .int .u64 0, .int .u64 0, .slice none 0 0] 27)) from (Below.refl _ w).alloc (Nat.le_refl _) _)
  have K0 := Lib.hid (Blk.new w [.bool false, .int .u64 0, .int .u64 0, .slice none 0 0] 27)
  have R := Lib.hid ((hrow.below B0.out).mono B0.out.size)
  clear hrow
  go_enter Try.func10, Try.ntmps10
  go_wp2_with fail
  have hz : w.heap.size < (w.alloc (.cells #[.bool false, .int .u64 0, .int .u64 0, .slice none 0 0] 27)).heap.size := by simp
  change Calls _ _ _ (w.alloc (.cells #[.bool false, .int .u64 0, .int .u64 0, .slice none 0 0] 27)) _
  generalize w.alloc (.cells #[.bool false, .int .u64 0, .int .u64 0, .slice none 0 0] 27) = w0 at B0 K0 R hz ⊢
  refine (l1New_any a s cap w0 R.out hs).mono ?_
  rintro e w1 ⟨g, rfl, hc1, hb1⟩
  have hg0 : w0.heap.size ≤ g := hc1.1
  have hrg : w.heap.size ≠ g := by omega
  have hz1 : w.heap.size < w1.heap.size := Nat.lt_of_lt_of_le hz hb1.size
  have B1 := Lib.hid (B0.out.trans (hb1.mono B0.out.size))
  have K1 := Lib.hid (K0.out.below hb1)
  have C1 := Lib.hid hc1
  clear hc1 hb1 K0 R B0
  go_wp2_with fail
  refine (l11Mac_any w0.heap.size g w1 C1.out).mono ?_
  rintro e w2 ⟨u, k, l, a2, cap2, rs, rfl, ht, hc2, hg2⟩
  have T2 := Lib.hid ht
  have K2 := Lib.hid (K1.out.grown hg2 hrg)
  have B2 := Lib.hid (B1.out.trans (grown_below hg2 (by omega) (Nat.le_of_lt hz1)))
  have hz2 : w.heap.size ≤ w2.heap.size := Nat.le_trans (Nat.le_of_lt hz1) hg2.size
  have C2 := Lib.hid hc2
  clear ht hc2 hg2 K1 B1 C1
  go_wp2_with fail
  refine (pickOf w0.heap.size g w2 C2.out).mono ?_
  rintro e w3 ⟨x, rfl, hx, hc3, hg3⟩
  have T3 := Lib.hid (T2.out.kept hg3 (fun k e => .inl (by injection e with e; exact e.symm)))
  have K3 := Lib.hid (K2.out.grown hg3 hrg)
  have B3 := Lib.hid (B2.out.trans (grown_below hg3 (by omega) hz2))
  clear hc3 hg3 K2 B2 C2 T2
  obtain ⟨⟨d0, d1, d2, d3⟩, e0, e1, e2, e3⟩ := K3.out.four
  go_wp2_with fail
  refine bodyPost_ret (v := .tuple #[.agg #[.bool u, .int .u64 (n64 k), .int .u64 (n64 l), .slice a2 rs.length cap2], .string x]) (by simp [results, Try.results10, go_sem, d0, d1, d2, d3]) rfl ⟨u, k, l, a2, cap2, rs, x, rfl, hx, ⟨w1, g, ?_⟩, ?_⟩
  · exact (((T3.out.set _ _ hz1 _).set _ _ hz1 _).set _ _ hz1 _).set _ _ hz1 _
  · exact (((B3.out.setCell (Nat.le_refl _) _).setCell (Nat.le_refl _) _).setCell (Nat.le_refl _) _).setCell (Nat.le_refl _) _
end Go.Proofs.Ytkmflfmbmmpohaa
