/- The draws' own l1Byte. -/
import Derived.Test.YtgnjbejkhklkiaaBase
import Derived.Test.YtgnjbejkhklkiaaCurKit
namespace Go.Proofs.Ytgnjbejkhklkiaa
open Go.RowKit Go.Lib

set_option maxRecDepth 100000 in
set_option maxHeartbeats 1000000 in
theorem l1Byte_any (B g : Nat) (w : World) (hc : CurB w B g) : Calls Try.prog 43 #[.pointer (some ⟨g, 0, none⟩)] w (DrawEnd w B g 255) := by
  obtain ⟨hB, a, bs, cap, i, h, hh, ⟨hi0, hi1⟩, hbs, hrow⟩ := hc
  have c0 : w.cell? ⟨g, 0, none⟩ = some (.slice a bs.length cap) := by rw [cell_of_row w g 0 _ _ _ hh]; rfl
  have c1 : w.cell? ⟨g, 1, none⟩ = some (.int .i64 i) := by rw [cell_of_row w g 1 _ _ _ hh]; rfl
  have c2 : w.cell? ⟨g, 2, none⟩ = some (.int .i64 h) := by rw [cell_of_row w g 2 _ _ _ hh]; rfl
  have f1 : w.frozen? ⟨g, 1, none⟩ = false := by simp [World.frozen?, hh]
  have f2 : w.frozen? ⟨g, 2, none⟩ = false := by simp [World.frozen?, hh]
  have HH := Lib.hid hh
  have HR := Lib.hid hrow
  clear hh hrow
  by_cases hlt : i < bs.length
  · obtain ⟨k, rfl⟩ : ∃ k : Nat, i = (k : Int) := ⟨i.toNat, by omega⟩
    have hk : k < bs.length := by omega
    obtain ⟨b, off, rfl, hb, hcs⟩ := HR.out.byte hk
    have c3 := hcs k hk
    have hne : ¬ b = g := by omega
    have h8 : bs[k].toNat < 256 := bs[k].toNat_lt
    clear hcs
    go_enter Try.func43, Try.ntmps43
    go_wp2_with fail
    go_quiet (fail)
    go_wp2_with fail
    go_quiet (fail)
    go_wp2_with fail
    go_quiet (fail)
    go_wp2_with fail
    go_ret
    refine ⟨_, rfl, mask255 _, ?_, ?_⟩
    · exact cur_step hB HH.out hbs HR.out _ _ (by omega)
    · exact grown_set (grown_draws (grown_set (World.grownBy.refl w (some g)) 2 _) _) 1 _
  · go_enter Try.func43, Try.ntmps43
    go_wp2_with fail
    go_quiet (fail)
    go_wp2_with fail
    go_quiet (fail)
    go_wp2_with fail
    go_ret
    refine ⟨_, rfl, mask255 _, ?_, ?_⟩
    · exact cur_set hB HH.out ⟨hi0, hi1⟩ hbs HR.out _
    · exact grown_draws (grown_draws (grown_set (World.grownBy.refl w (some g)) 2 _) _) _
end Go.Proofs.Ytgnjbejkhklkiaa
