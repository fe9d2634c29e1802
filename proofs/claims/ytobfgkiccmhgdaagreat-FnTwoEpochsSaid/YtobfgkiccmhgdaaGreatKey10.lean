/- The draws' own l10Key. Nothing here is a claim. -/
import Derived.Test.YtobfgkiccmhgdaaGreatSipLow
import Derived.Test.YtobfgkiccmhgdaaGreatCurA
namespace Go.Proofs.YtobfgkiccmhgdaaGreat
open Go.RowKit Go.Lib

/-- A word is handed back; only the cursor has turned. -/
def KeyEnd (w : World) (B g : Nat) (e : Ending) (w' : World) : Prop := ∃ x, e = .returned (.int .u64 (n64 x)) ∧ CurB w' B g ∧ w.grownBy w' (some g)
theorem key_byte (r : Int) (h0 : 0 ≤ r) (h1 : r ≤ 255) (x : BitVec 64) : ∃ y, bits .or .u64 (IntKind.u64.wrap (n64 x * 256)) r = n64 y := by
  obtain ⟨z, rfl⟩ := n64_of r (by omega)
  exact ⟨_, by rw [shl8, or64]⟩

set_option maxHeartbeats 1000000 in
theorem l10Key_any (B g : Nat) (w : World) (hc : CurB w B g) : Calls Tryz.prog 55 #[.pointer (some ⟨g, 0, none⟩)] w (KeyEnd w B g) := by
  have C := Lib.hid (l1Below_pos B g w hc 3 (by omega) (by omega))
  clear hc
  go_enter Tryz.func55, Tryz.ntmps55
  go_wp2_with fail
  refine C.out.mono ?_
  rintro e w1 ⟨q, rfl, ⟨q0, q1⟩, hc1, hg1⟩
  have C1 := Lib.hid hc1
  have G1 := Lib.hid hg1
  clear hc1 hg1
  have hq : q = 0 ∨ q = 1 ∨ q = 2 := by omega
  clear q0 q1
  rcases hq with rfl | rfl | rfl
  · go_wp2_with fail
    go_ret
    exact ⟨0, rfl, C1.out, G1.out⟩
  · go_wp2_with fail
    go_ret
    exact ⟨506097522914230528, rfl, C1.out, G1.out⟩
  · go_wp2_with fail
    go_loopw [3, 4] (fun u i wr => ∃ k : Nat, k ≤ 8 ∧ i = .int .i64 k ∧ ∃ x, u = .int .u64 (n64 x) ∧ Hid (CurB wr B g) ∧ Hid (w.grownBy wr (some g)))
      (fun _ i _ => 8 - (RowKit.intOf i).toNat)
    case atStart => exact ⟨0, Nat.zero_le _, rfl, 0, rfl, C1, G1⟩
    case round =>
      obtain ⟨k, hk, rfl, x, rfl, C2, G2⟩ := hrel
      by_cases hlt : k < 8
      · go_wp2_with fail
        refine (l1Byte_any B g wr C2.out).mono ?_
        rintro e w2 ⟨r, rfl, ⟨r0, r1⟩, hc2, hg2⟩
        have C3 := Lib.hid hc2
        have G3 := Lib.hid (grown_tr G2.out hg2)
        obtain ⟨y, hy⟩ := key_byte r r0 r1 x
        clear hc2 hg2
        go_wp2_with fail
        go_roundw
        case rel => exact ⟨k + 1, by omega, by go_num, y, rfl, C3, G3⟩
        case measure => simp [RowKit.intOf]; omega
      · obtain rfl : k = 8 := by omega
        go_wp2_with fail
        go_ret
        exact ⟨x, rfl, C2.out, G2.out⟩
end Go.Proofs.YtobfgkiccmhgdaaGreat
