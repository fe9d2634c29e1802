/- The draw DrawReadOptions. -/
import Derived.Test.YtgnjbejkhklkiaaDrawOpt
import Derived.Test.YtgnjbejkhklkiaaOptTxtS
import Derived.Test.YtgnjbejkhklkiaaOptRound
import Derived.Test.YtgnjbejkhklkiaaTurned
namespace Go.Proofs.Ytgnjbejkhklkiaa
open Go.RowKit Go.Lib

def turn8Cs : Array Value := #[.string ⟨#[0]⟩, .string ⟨#[1]⟩, .string ⟨#[2]⟩, .string ⟨#[4, 2]⟩, .string ⟨#[5, 10, 0, 0, 0, 0, 0, 0, 0, 0]⟩, .string ⟨#[3, 3, 15]⟩, .string ⟨#[2, 3, 1]⟩, .string ⟨#[255]⟩]
theorem turn8Cs_bd : ∀ v ∈ turn8Cs.toList, ∃ x, v = .string x ∧ x.size ≤ 100 := by
  intro v hv
  simp only [turn8Cs, List.mem_cons, List.mem_nil_iff, or_false] at hv
  rcases hv with rfl | rfl | rfl | rfl | rfl | rfl | rfl | rfl <;> exact ⟨_, rfl, by decide⟩
theorem turnNew8 (B g : Nat) (w : World) (hc : CurB w B g) (s : ByteArray) (hs : s.size ≤ 1000000) :
    Calls Try.prog 29 #[.pointer (some ⟨g, 0, none⟩), .string s, .slice (some ⟨w.heap.size, 0, none⟩) 8 8] (w.alloc (.cells turn8Cs 9)) (TurnEnd w B g (s.size + 100)) := by
  have hlt := hc.lt
  refine (l1Turned_any B g w.heap.size _ (hc.new _) s hs turn8Cs (heap_alloc_new w _) (by omega) (by decide) (by decide) turn8Cs_bd).mono ?_
  rintro e w' ⟨t, rfl, ht, h1, h2⟩
  exact ⟨t, rfl, ht, h1, grown_tr (World.grownBy_alloc w _ _) h2⟩

set_option maxRecDepth 100000 in
set_option maxHeartbeats 4000000 in
theorem drawReadOptions (a : Option Addr) (bs : List UInt8) (cap : Nat) (w : World) (hrow : Row w w.heap.size a (byteCells bs)) (hbs : bs.length ≤ 1048576) :
    Calls Try.prog 13 #[.slice a bs.length cap] w fun e w' => ∃ t : ByteArray, e = .returned (.string t) ∧ t.size ≤ 1048576 ∧ Below w.heap.size w w' := by
  have C := Lib.hid (l1New_any a bs cap w hrow hbs)
  clear hrow
  go_enter Try.func13, Try.ntmps13
  go_wp2_with fail
  refine C.out.mono ?_
  rintro e w1 ⟨g, rfl, hc1, hb1⟩
  have C1 := Lib.hid hc1
  have B1 := Lib.hid hb1
  clear hc1 hb1
  go_wp2_with fail
  refine (l8Options_any _ g w1 C1.out).mono ?_
  rintro e w2 ⟨m, c, k, t, v, u, rfl, hc2, hg2⟩
  have B2 := Lib.hid (below_cur B1.out C1.out hg2)
  have C2 := Lib.hid hc2
  have zx := (optText_size ⟨m, c, k, t, v, u⟩).2
  have CT := Lib.hid (optionsTextS m c k t v u w2)
  obtain ⟨x, hx⟩ : ∃ x, optText ⟨m, c, k, t, v, u⟩ = x := ⟨_, rfl⟩
  rw [hx] at CT zx
  clear hc2 hg2 hx
  go_wp2_with fail
  refine CT.out.mono ?_
  rintro e w3 ⟨rfl, hb3⟩
  have C3 := Lib.hid (C2.out.below hb3)
  have B3 := Lib.hid (B2.out.trans (hb3.mono B2.out.size))
  clear hb3 CT
  go_wp2_with fail
  refine (l1Once_any _ g w3 C3.out 3 (by omega) (by omega)).mono ?_
  rintro e w4 ⟨o, rfl, hc5, hg5⟩
  have C4 := Lib.hid hc5
  have B4 := Lib.hid (below_cur B3.out C3.out hg5)
  clear hc5 hg5
  cases o with
  | false =>
    go_wp2_with fail
    refine (turnNew8 _ g w4 C4.out x (by omega)).mono ?_
    rintro e w5 ⟨y, rfl, hy, hc6, hg6⟩
    have B5 := Lib.hid (below_cur B4.out C4.out hg6)
    clear hc6 hg6
    go_wp2_with fail
    go_ret
    exact ⟨y, rfl, by omega, B5.out⟩
  | true =>
    go_wp2_with fail
    refine (l8Options_any _ g w4 C4.out).mono ?_
    rintro e w5 ⟨m, c, k, t, v, u, rfl, hc2, hg2⟩
    have B5 := Lib.hid (below_cur B4.out C4.out hg2)
    have C5 := Lib.hid hc2
    have zx2 := (optText_size ⟨m, c, k, t, v, u⟩).2
    have CT := Lib.hid (optionsTextS m c k t v u w5)
    obtain ⟨x2, hx⟩ : ∃ x, optText ⟨m, c, k, t, v, u⟩ = x := ⟨_, rfl⟩
    rw [hx] at CT zx2
    clear hc2 hg2 hx
    go_wp2_with fail
    refine CT.out.mono ?_
    rintro e w6 ⟨rfl, hb3⟩
    have C6 := Lib.hid (C5.out.below hb3)
    have B6 := Lib.hid (B5.out.trans (hb3.mono B5.out.size))
    clear hb3 CT
    have m0 : ¬ 9223372036854775807 < x.size + x2.size := by omega
    have zz : (x ++ x2).size ≤ 1000 := by rw [ByteArray.size_append]; omega
    go_wp2_with fail
    refine (turnNew8 _ g w6 C6.out (x ++ x2) (by omega)).mono ?_
    rintro e w7 ⟨y, rfl, hy, hc6, hg6⟩
    have B7 := Lib.hid (below_cur B6.out C6.out hg6)
    clear hc6 hg6
    go_wp2_with fail
    go_ret
    exact ⟨y, rfl, by omega, B7.out⟩
end Go.Proofs.Ytgnjbejkhklkiaa
