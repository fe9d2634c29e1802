/- impl.putField. Nothing here is a claim. -/
import Derived.Test.YtlfbcfhekfmkfaaCopyText
import Derived.Test.YtlfbcfhekfmkfaaPutI
namespace Go.Proofs.Ytlfbcfhekfmkfaa
open Go.RowKit Go.Lib

theorem u8_size : (Try.prog.info? 5).map (·.size) = some 1 := by kernel_rfl
theorem putW_le2 (n : Int) (k : Nat) : (putW n k).size ≤ k := by
  unfold putW
  split
  · rename_i h
    show (wb n.toNat (k : Int).toNat).toArray.size ≤ k
    rw [List.size_toArray, wb_length]; omega
  · exact Nat.zero_le _
set_option maxRecDepth 100000 in
set_option maxHeartbeats 2000000 in
theorem putField_any (n : Int) (g off k : Nat) (l : List UInt8) (w : World) (hfit : off + k ≤ l.length) (hb : Blk w g (byteCells l)) :
    Calls Try.prog 36 #[.slice (some ⟨g, off, none⟩) k k, .int .i64 n] w fun e w' => e = .returned (.tuple #[]) ∧ Blk w' g (byteCells (lay l off (putW n k))) ∧ w.grownBy w' (some g) := by
  have C := Lib.hid (putWordI n k)
  have hz := putW_le2 n k
  obtain ⟨x, hx⟩ : ∃ x, putW n k = x := ⟨_, rfl⟩
  rw [hx] at C hz
  rw [hx]
  clear hx
  have BK := Lib.hid hb
  clear hb
  go_enter Try.func36, Try.ntmps36
  go_wp2_with fail
  refine (C.out _).mono ?_
  rintro e w1 ⟨rfl, hb1⟩
  have B1 := Lib.hid hb1
  have K1 := Lib.hid (BK.out.below hb1)
  clear hb1 BK
  obtain ⟨w2, hrun, k2, g2⟩ := run_copy_text (P := Try.prog) w1 22 9 3 5 (some ⟨g, off, none⟩) k k x g off l Try.underlying22 u8_size K1.out hz (by omega) (fun _ => rfl)
  have K2 := Lib.hid k2
  have G2 := Lib.hid g2
  clear k2 g2
  go_wp2_with fail
  go_end0
  exact ⟨rfl, K2.out, row_below B1.out G2.out⟩
end Go.Proofs.Ytlfbcfhekfmkfaa
