/- impl.Joined -/
import Derived.Test.YtahkaemdgelmdaaDoorBase
import Derived.Test.YtahkaemdgelmdaaDoorJoinKit
import Derived.Test.YtahkaemdgelmdaaDoorShelf
namespace Go.Proofs.YtahkaemdgelmdaaDoor
open Go.RowKit Go.Lib

theorem bytes_back (ss : List ByteArray) : ss.map (·.data.toList) = bytesOf ss := rfl
/-- The program's Joined. -/
theorem joinedI (a : Option Addr) (cap : Nat) (ss : List ByteArray) (by_ : ByteArray) (w : World) (hrow : Row w w.heap.size a (strVals ss)) (hcap : ss.length ≤ cap) (hl : ss.length ≤ 1048576) (hb0 : by_.size ≤ 1048576) (hs : lens (bytesOf ss) ≤ 1048576) :
    Calls Tryd.prog 17 #[.slice a ss.length cap, .string by_] w fun e w' => e = .returned (.string ⟨(jn ss by_ ss.length).toArray⟩) ∧ Below w.heap.size w w' := by
  have hj : jn ss by_ ss.length = Lib.join (ss.map (·.data.toList)) by_.data.toList := by unfold jn; rw [List.take_of_length_le (Nat.le_refl _)]; rfl
  have hbd : (Lib.join (ss.map (·.data.toList)) by_.data.toList).length ≤ 140737488355328 := by
    rw [← hj]
    have h1 := jn_length ss by_ ss.length
    have h2 := Nat.mul_le_mul hb0 hl
    omega
  rw [hj]
  by_cases h0 : 0 < ss.length
  · obtain ⟨b, off, rfl, hbb, hcs⟩ := hrow.str h0
    have C := Lib.hid (Tryd.strings_Join b off cap ss by_ w (fun j x hx => by
      obtain ⟨hj, rfl⟩ := List.getElem?_eq_some_iff.1 hx; exact hcs j hj) hbb (by omega) hcap hbd)
    clear hcs hj hbd hrow
    go_enter Tryd.func17, Tryd.ntmps17
    go_wp2_with fail
    refine C.out.mono ?_
    rintro e w1 ⟨rfl, hb⟩
    go_wp2_with fail
    go_ret
    exact ⟨rfl, hb⟩
  · have hn : ss = [] := List.eq_nil_of_length_eq_zero (by omega)
    subst hn
    have C := Lib.hid (Tryd.strings_Join_none a cap by_ w)
    clear hj hbd hrow
    go_enter Tryd.func17, Tryd.ntmps17
    go_wp2_with fail
    refine C.out.mono ?_
    rintro e w1 ⟨rfl, rfl⟩
    go_wp2_with fail
    go_ret
    exact ⟨rfl, Below.refl _ _⟩
end Go.Proofs.YtahkaemdgelmdaaDoor
