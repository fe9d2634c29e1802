/- impl's SipStart, SipRound, SipWord, SipEnd, and the methods word and end. Nothing here is a claim. -/
import Derived.Test.YtobfgkiccmhgdaaGreatSipMeth
namespace Go.Proofs.YtobfgkiccmhgdaaGreat
open Go.RowKit Go.Lib

def S4.inD (s : S4) (m : BitVec 64) : S4 := ⟨s.a, s.b, s.c, s.d ^^^ m⟩
def S4.inA (s : S4) (m : BitVec 64) : S4 := ⟨s.a ^^^ m, s.b, s.c, s.d⟩
def S4.inC (s : S4) (m : BitVec 64) : S4 := ⟨s.a, s.b, s.c ^^^ m, s.d⟩
/-- One word of the text. -/
def S4.wrd (s : S4) (m : BitVec 64) : S4 := ((s.inD m).rnds 2).inA m
def S4.mark (s : S4) : S4 := s.inC 255
def S4.fold (s : S4) : BitVec 64 := s.a ^^^ s.b ^^^ s.c ^^^ s.d
/-- The end. -/
def S4.fin (s : S4) : BitVec 64 := (s.mark.rnds 4).fold
def S4.start (k l : BitVec 64) : S4 := ⟨k ^^^ 8317987319222330741, l ^^^ 7237128888997146477, k ^^^ 7816392313619706465, l ^^^ 8387220255154660723⟩
theorem xor64c (x : BitVec 64) (n : Nat) (h : n < 18446744073709551616) : bits .xor .u64 (n64 x) (n : Int) = n64 (x ^^^ BitVec.ofNat 64 n) := by
  rw [← xor64]
  congr 1
  unfold n64
  rw [BitVec.toNat_ofNat]
  omega
theorem xor255 (x : BitVec 64) : bits .xor .u64 (n64 x) 255 = n64 (x ^^^ 255) := xor64c x 255 (by decide)
theorem xorA (x : BitVec 64) : bits .xor .u64 (n64 x) 8317987319222330741 = n64 (x ^^^ 8317987319222330741) := xor64c x 8317987319222330741 (by decide)
theorem xorB (x : BitVec 64) : bits .xor .u64 (n64 x) 7237128888997146477 = n64 (x ^^^ 7237128888997146477) := xor64c x 7237128888997146477 (by decide)
theorem xorC (x : BitVec 64) : bits .xor .u64 (n64 x) 7816392313619706465 = n64 (x ^^^ 7816392313619706465) := xor64c x 7816392313619706465 (by decide)
theorem xorD (x : BitVec 64) : bits .xor .u64 (n64 x) 8387220255154660723 = n64 (x ^^^ 8387220255154660723) := xor64c x 8387220255154660723 (by decide)

set_option maxRecDepth 100000 in
set_option maxHeartbeats 1000000 in
theorem sipStartI (k l : BitVec 64) (w : World) : Calls Tryz.prog 62 #[.int .u64 (n64 k), .int .u64 (n64 l)] w fun e w' => e = .returned (.agg #[.int .u64 (n64 (S4.start k l).a), .int .u64 (n64 (S4.start k l).b), .int .u64 (n64 (S4.start k l).c), .int .u64 (n64 (S4.start k l).d)]) ∧ Below w.heap.size w w' := by
  go_enter Tryz.func62, Tryz.ntmps62
  go_wp2_with fail
  rw [xorA, xorB, xorC, xorD]
  exact bodyPost_ret (v := .agg #[.int .u64 (n64 (S4.start k l).a), .int .u64 (n64 (S4.start k l).b), .int .u64 (n64 (S4.start k l).c), .int .u64 (n64 (S4.start k l).d)]) (by simp [results, Tryz.results62, go_sem, S4.start]) rfl ⟨rfl, (Below.refl _ _).alloc (Nat.le_refl _) _⟩
set_option maxRecDepth 100000 in
set_option maxHeartbeats 1000000 in
theorem wordI (s : S4) (m : BitVec 64) (g : Nat) (w : World) (hB : Blk w g s.vs) : Calls Tryz.prog 63 #[.pointer (some ⟨g, 0, none⟩), .int .u64 (n64 m)] w (TurnEnd w g (s.wrd m).vs) := by
  have B0 := Lib.hid hB
  clear hB
  obtain ⟨⟨c0, c1, c2, c3⟩, f0, f1, f2, f3⟩ := B0.out.sip
  go_enter Tryz.func63, Tryz.ntmps63
  go_wp2_with fail
  rw [xor64]
  obtain ⟨w1, B1, G1⟩ : ∃ w1, Hid (w1 = w.setCell ⟨g, 3, none⟩ (.int .u64 (n64 (s.d ^^^ m))) ∧ Blk w1 g (s.inD m).vs) ∧ Hid (w.grownBy w1 (some g)) := ⟨_, ⟨rfl, B0.out.set 3 _⟩, grown_set ⟨rfl, rfl, rfl, Nat.le_refl _, fun _ _ _ => rfl⟩ _ _⟩
  rw [← B1.out.1]
  clear c0 c1 c2 c3 f0 f1 f2 f3
  refine (roundsI (s.inD m) 2 g (by decide) w1 B1.out.2).mono ?_
  rintro e w2 ⟨rfl, hB2, hG2⟩
  have B2 := Lib.hid hB2
  have G2 := Lib.hid (grown_tr G1.out hG2)
  clear hB2 hG2
  obtain ⟨⟨c0, c1, c2, c3⟩, f0, f1, f2, f3⟩ := B2.out.sip
  go_wp2_with fail
  rw [xor64]
  go_end0
  exact ⟨rfl, B2.out.set 0 _, grown_set G2.out _ _⟩
set_option maxRecDepth 100000 in
set_option maxHeartbeats 1000000 in
theorem endI (s : S4) (g : Nat) (w : World) (hB : Blk w g s.vs) : Calls Tryz.prog 65 #[.pointer (some ⟨g, 0, none⟩)] w fun e w' => e = .returned (.int .u64 (n64 s.fin)) ∧ w.grownBy w' (some g) := by
  have B0 := Lib.hid hB
  clear hB
  obtain ⟨⟨c0, c1, c2, c3⟩, f0, f1, f2, f3⟩ := B0.out.sip
  go_enter Tryz.func65, Tryz.ntmps65
  go_wp2_with fail
  rw [xor255]
  obtain ⟨w1, B1, G1⟩ : ∃ w1, Hid (w1 = w.setCell ⟨g, 2, none⟩ (.int .u64 (n64 (s.c ^^^ 255))) ∧ Blk w1 g s.mark.vs) ∧ Hid (w.grownBy w1 (some g)) := ⟨_, ⟨rfl, B0.out.set 2 _⟩, grown_set ⟨rfl, rfl, rfl, Nat.le_refl _, fun _ _ _ => rfl⟩ _ _⟩
  rw [← B1.out.1]
  clear c0 c1 c2 c3 f0 f1 f2 f3
  refine (roundsI s.mark 4 g (by decide) w1 B1.out.2).mono ?_
  rintro e w2 ⟨rfl, hB2, hG2⟩
  have B2 := Lib.hid hB2
  have G2 := Lib.hid (grown_tr G1.out hG2)
  clear hB2 hG2
  obtain ⟨⟨c0, c1, c2, c3⟩, f0, f1, f2, f3⟩ := B2.out.sip
  go_wp2_with fail
  go_quiet (fail)
  rw [xor64, xor64, xor64]
  go_wp2_with fail
  go_ret
  exact ⟨rfl, grown_draws G2.out _⟩
end Go.Proofs.YtobfgkiccmhgdaaGreat
