/- The draws' own l10Sip, DrawSipWord. Nothing here is a claim. -/
import Derived.Test.YtojkkholopodaaaKey10
import Derived.Test.YtojkkholopodaaaSipW
namespace Go.Proofs.Ytojkkholopodaaa
open Go.RowKit Go.Lib

theorem row_up {w w' : World} {a : Option Addr} {l : List Value} (h : Below w.heap.size w w') (hr : Row w w.heap.size a l) : Row w' w'.heap.size a l := by
  intro hne
  obtain ⟨b, off, ha, hb, hc⟩ := hr.below h hne
  exact ⟨b, off, ha, Nat.lt_of_lt_of_le hb h.size, hc⟩

set_option maxHeartbeats 1000000 in
theorem l10Sip_any (B g : Nat) (w : World) (hc : CurB w B g) : Calls Try.prog 27 #[.pointer (some ⟨g, 0, none⟩)] w fun e w' => ∃ s : S4, e = .returned (.agg #[.int .u64 (n64 s.a), .int .u64 (n64 s.b), .int .u64 (n64 s.c), .int .u64 (n64 s.d)]) ∧ CurB w' B g ∧ w.grownBy w' (some g) := by
  have hlt := hc.lt
  have hB := hc.1
  have C0 := Lib.hid (hc.new (.cells #[.int .u64 0, .int .u64 0, .int .u64 0, .int .u64 0] 26))
  have R0 := Lib.hid (Blk.new w [.int .u64 0, .int .u64 0, .int .u64 0, .int .u64 0] 26)
  have G0 := Lib.hid (grown_new (show w.grownBy w (some g) from ⟨rfl, rfl, rfl, Nat.le_refl _, fun _ _ _ => rfl⟩) (.cells #[.int .u64 0, .int .u64 0, .int .u64 0, .int .u64 0] 26))
  have hrg : w.heap.size ≠ g := Nat.ne_of_gt hlt
  have hBr : B ≤ w.heap.size := by omega
  clear hc
  go_enter Try.func27, Try.ntmps27
  go_wp2_with fail
  change Calls _ _ _ (w.alloc (.cells #[.int .u64 0, .int .u64 0, .int .u64 0, .int .u64 0] 26)) _
  generalize w.alloc (.cells #[.int .u64 0, .int .u64 0, .int .u64 0, .int .u64 0] 26) = w0 at C0 R0 G0 ⊢
  refine (l10Key_any B g w0 C0.out).mono ?_
  rintro e w1 ⟨a, rfl, hc, hg⟩
  have R1 := Lib.hid (R0.out.grown hg hrg)
  have G1 := Lib.hid (grown_tr G0.out hg)
  have C1 := Lib.hid hc
  clear hc hg C0 R0 G0
  go_wp2_with fail
  refine (l10Key_any B g w1 C1.out).mono ?_
  rintro e w2 ⟨b, rfl, hc, hg⟩
  have R2 := Lib.hid (R1.out.grown hg hrg)
  have G2 := Lib.hid (grown_tr G1.out hg)
  have C2 := Lib.hid hc
  clear hc hg C1 R1 G1
  go_wp2_with fail
  refine (l10Key_any B g w2 C2.out).mono ?_
  rintro e w3 ⟨c, rfl, hc, hg⟩
  have R3 := Lib.hid (R2.out.grown hg hrg)
  have G3 := Lib.hid (grown_tr G2.out hg)
  have C3 := Lib.hid hc
  clear hc hg C2 R2 G2
  go_wp2_with fail
  refine (l10Key_any B g w3 C3.out).mono ?_
  rintro e w4 ⟨d, rfl, hc, hg⟩
  have R4 := Lib.hid (R3.out.grown hg hrg)
  have G4 := Lib.hid (grown_tr G3.out hg)
  have C4 := Lib.hid hc
  clear hc hg C3 R3 G3
  obtain ⟨⟨d0, d1, d2, d3⟩, e0, e1, e2, e3⟩ := R4.out.four
  go_wp2_with fail
  refine bodyPost_ret (v := .agg #[.int .u64 (n64 a), .int .u64 (n64 b), .int .u64 (n64 c), .int .u64 (n64 d)]) (by simp [results, Try.results27, go_sem, d0, d1, d2, d3]) rfl ⟨⟨a, b, c, d⟩, rfl, ?_, ?_⟩
  · exact (((C4.out.setOther _ _ hBr hrg).setOther _ _ hBr hrg).setOther _ _ hBr hrg).setOther _ _ hBr hrg
  · exact grown_setNew (grown_setNew (grown_setNew (grown_setNew G4.out _ _ (Nat.le_refl _)) _ _ (Nat.le_refl _)) _ _ (Nat.le_refl _)) _ _ (Nat.le_refl _)

set_option maxHeartbeats 1000000 in
theorem drawSipWord (a : Option Addr) (bs : List UInt8) (cap : Nat) (w : World) (hrow : Row w w.heap.size a (byteCells bs)) (hbs : bs.length ≤ 1048576) :
    Calls Try.prog 11 #[.slice a bs.length cap] w fun e w' => ∃ (s : S4) (m : BitVec 64), e = .returned (.tuple #[.agg #[.int .u64 (n64 s.a), .int .u64 (n64 s.b), .int .u64 (n64 s.c), .int .u64 (n64 s.d)], .int .u64 (n64 m)]) ∧ Below w.heap.size w w' := by
  have B0 := Lib.hid ((Below.refl w.heap.size w).alloc (Nat.le_refl _) (.cells #[.int .u64 0, .int .u64 0, .int .u64 0, .int .u64 0] 26))
  have R0 := Lib.hid (Blk.new w [.int .u64 0, .int .u64 0, .int .u64 0, .int .u64 0] 26)
  have C := Lib.hid (fun w' (h : Below w.heap.size w w') => l1New_any a bs cap w' (row_up h hrow) hbs)
  clear hrow
  go_enter Try.func11, Try.ntmps11
  go_wp2_with fail
  change Calls _ _ _ (w.alloc (.cells #[.int .u64 0, .int .u64 0, .int .u64 0, .int .u64 0] 26)) _
  generalize w.alloc (.cells #[.int .u64 0, .int .u64 0, .int .u64 0, .int .u64 0] 26) = w0 at B0 R0 ⊢
  refine (C.out w0 B0.out).mono ?_
  rintro e w1 ⟨g, rfl, hc1, hb1⟩
  have hrg : w.heap.size ≠ g := by have := R0.out.lt; have := hc1.1; omega
  have C1 := Lib.hid hc1
  have B1 := Lib.hid (B0.out.trans (hb1.mono B0.out.size))
  have R1 := Lib.hid (R0.out.below hb1)
  have hg0 : w.heap.size ≤ g := Nat.le_trans B0.out.size hc1.1
  clear hc1 hb1 C B0 R0
  go_wp2_with fail
  refine (l10Sip_any _ g w1 C1.out).mono ?_
  rintro e w2 ⟨s, rfl, hc2, hg2⟩
  have C2 := Lib.hid hc2
  have R2 := Lib.hid (R1.out.grown hg2 hrg)
  have B2 := Lib.hid (B1.out.trans (grown_below hg2 hg0 B1.out.size))
  clear hc2 hg2 C1 B1 R1
  go_wp2_with fail
  refine (l10Key_any _ g w2 C2.out).mono ?_
  rintro e w3 ⟨m, rfl, hc3, hg3⟩
  have R3 := Lib.hid (R2.out.grown hg3 hrg)
  have B3 := Lib.hid (B2.out.trans (grown_below hg3 hg0 B2.out.size))
  clear hc3 hg3 C2 B2 R2
  obtain ⟨⟨d0, d1, d2, d3⟩, e0, e1, e2, e3⟩ := R3.out.four
  go_wp2_with fail
  exact bodyPost_ret (v := .tuple #[.agg #[.int .u64 (n64 s.a), .int .u64 (n64 s.b), .int .u64 (n64 s.c), .int .u64 (n64 s.d)], .int .u64 (n64 m)]) (by simp [results, Try.results11, go_sem, d0, d1, d2, d3]) rfl ⟨s, m, rfl, (((B3.out.setCell (Nat.le_refl _) _).setCell (Nat.le_refl _) _).setCell (Nat.le_refl _) _).setCell (Nat.le_refl _) _⟩
end Go.Proofs.Ytojkkholopodaaa
