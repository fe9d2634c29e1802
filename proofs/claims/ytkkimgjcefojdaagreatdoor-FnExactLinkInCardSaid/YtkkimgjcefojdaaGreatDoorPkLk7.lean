/- Texts of a proof that belong together, joined. Nothing here is a claim. -/
import Derived.IntWalk
import Derived.Test.YtkkimgjcefojdaaGreatDoorPkLk5
namespace Go.Proofs.YtkkimgjcefojdaaGreatDoor
open Go.RowKit Go.Lib

set_option maxHeartbeats 1000000 in
theorem atS (a : Option Addr) (n cap : Nat) (rs : List ER) (ip : Int) (w : World) (hrow : Row w w.heap.size a (ers rs)) (hn : rs.length = n) (hl : n ≤ 1048577) :
  Calls Tryz.prog 54 #[.slice a n cap, .int .i64 ip] w (IntE (placeE rs ip) w) := by
 subst hn
 have R := Lib.hid hrow
 clear hrow
 go_enter Tryz.func54, Tryz.ntmps54
 go_wp2_with fail
 go_loopw [5] (fun i wr => ∃ k : Nat, k ≤ rs.length ∧ i = .int .i64 k ∧ Hid (NoneE rs ip k) ∧ Hid (Below w.heap.size w wr)) (fun i _ => rs.length - (RowKit.intOf i).toNat)
 case atStart => exact ⟨0, Nat.zero_le _, rfl, NoneE.zero _ _, Below.refl _ _⟩
 case round =>
  obtain ⟨k, hk, rfl, hno, hb⟩ := hrel
  by_cases hlt : k < rs.length
  ·obtain ⟨b, off, rfl, hbb, hcs⟩ := (R.out.below hb.out).er hlt
   obtain ⟨hc0, hc1, hc2⟩ := hcs k hlt
   have hk0 : (0 : Int) ≤ (k : Int) := Int.natCast_nonneg _
   have hk1 : (k : Int) < (rs.length : Int) := by omega
   clear hcs
   by_cases he : rs[k].ip = ip
   ·have HE := Lib.hid he
    have he' : (rs[k].ip == ip) = true := by simp [he]
    clear he
    go_wp2_with fail
    go_ret
    exact ⟨by rw [hno.out.hit hlt HE.out]; rfl, hb.out⟩
   ·have HE := Lib.hid he
    have he' : (rs[k].ip == ip) = false := by simp [he]
    clear he
    go_wp2_with fail
    go_roundw
    case rel => exact ⟨k + 1, by omega, by go_num, hno.out.next hlt HE.out, hb.out⟩
    case measure => simp [RowKit.intOf]; omega
  ·obtain rfl : k = rs.length := by omega
   go_wp2_with fail
   go_ret
   exact ⟨by rw [hno.out.all]; rfl, hb.out⟩
theorem wordOkS_E (x n : Int) (w : World) : Calls Tryz.prog 45 #[.int .i64 x, .int .i64 n] w (BoolE (wordOk x n) w) := (wordOkS x n w).mono fun _ _ h => ⟨h.1, by rw [← h.2]; exact Below.refl _ _⟩
theorem l1In_E (x lo hi : Int) (w : World) : Calls Tryz.prog 81 #[.int .i64 x, .int .i64 lo, .int .i64 hi] w (BoolE (decide (lo ≤ x ∧ x ≤ hi)) w) := (l1In_any x lo hi w).mono fun _ _ h => ⟨h.1, by rw [← h.2]; exact Below.refl _ _⟩
end Go.Proofs.YtkkimgjcefojdaaGreatDoor
