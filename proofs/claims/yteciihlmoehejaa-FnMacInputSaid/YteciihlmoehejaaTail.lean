/- The laws' own tail. -/
import Derived.Test.YteciihlmoehejaaBase
import Derived.Test.YteciihlmoehejaaCurKit
namespace Go.Proofs.Yteciihlmoehejaa
open Go.RowKit Go.Lib

set_option maxHeartbeats 400000 in
theorem tail_any (a : Option Addr) (bs : List UInt8) (cap : Nat) (hc : bs.length ≤ cap) (hm : cap ≤ 9223372036854775807) (B : Nat) (w : World) (hrow : Row w B a (byteCells bs)) (hbs : bs.length ≤ 1048576) :
    Calls Try.prog 12 #[.slice a bs.length cap] w fun e w' => ∃ (a' : Option Addr) (bs' : List UInt8) (cap' : Nat), e = .returned (.slice a' bs'.length cap') ∧ Row w B a' (byteCells bs') ∧ bs'.length ≤ bs.length ∧ w = w' := by
  cases bs with
  | nil =>
    go_enter Try.func12, Try.ntmps12
    go_wp2_with fail
    go_ret
    exact ⟨a, [], cap, rfl, hrow, Nat.le_refl _, rfl⟩
  | cons x xs =>
    obtain ⟨b, off, rfl, hb, hcs⟩ := hrow.byte (k := 0) (by simp)
    have HC := Lib.hid hcs
    clear hrow hcs
    simp only [List.length_cons] at hc hbs ⊢
    by_cases h1 : cap = 1
    · subst h1
      have hx : xs = [] := by cases xs <;> simp_all
      subst hx
      go_enter Try.func12, Try.ntmps12
      go_wp2_with fail
      go_ret
      exact ⟨some ⟨b, off, none⟩, [], 0, rfl, Row.nil, by simp, rfl⟩
    · have R : Hid (Row w B (some ⟨b, off + 1, none⟩) (byteCells xs)) := by
        intro _
        refine ⟨b, off + 1, rfl, hb, fun j u hu => ?_⟩
        have hj : j < xs.length := by have := (List.getElem?_eq_some_iff.1 hu).1; simpa [byteCells] using this
        have h := HC.out (j + 1) (by simpa using hj)
        rw [show off + 1 + j = off + (j + 1) by omega, h]
        simp [byteCells, hj] at hu ⊢
        exact hu
      clear HC
      go_enter Try.func12, Try.ntmps12
      go_wp2_with fail
      go_ret
      exact ⟨some ⟨b, off + 1, none⟩, xs, _, rfl, R.out, by omega, rfl⟩
end Go.Proofs.Yteciihlmoehejaa
