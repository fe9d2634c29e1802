/- The draws of chapter 5: DrawFrameText, DrawReadFrame. -/
import Derived.Test.YtjldfmifccjniaaDraw5
import Derived.Test.YtjldfmifccjniaaFrameTxt
import Derived.Test.YtjldfmifccjniaaTurned
namespace Go.Proofs.Ytjldfmifccjniaa
open Go.RowKit Go.Lib

set_option maxRecDepth 100000 in
set_option maxHeartbeats 2000000 in
theorem drawFrameText (a : Option Addr) (bs : List UInt8) (cap : Nat) (w : World) (hrow : Row w w.heap.size a (byteCells bs)) (hbs : bs.length ≤ 1048576) :
    Calls Try.prog 9 #[.slice a bs.length cap] w fun e w' => ∃ (d s t : Int) (b : ByteArray), e = .returned (.agg #[.int .i64 d, .int .i64 s, .int .i64 t, .string b]) ∧ (I64 d ∧ I64 s ∧ I64 t ∧ b.size ≤ 1600) ∧ Below w.heap.size w w' := by
  have A0 : Below w.heap.size w (w.alloc (.cells #[.int .i64 0, .int .i64 0, .int .i64 0, .string ⟨#[]⟩] 25)) := (Below.refl _ _).alloc (Nat.le_refl _) _
  have C := Lib.hid (l1New_any a bs cap _ ((hrow.below A0).mono A0.size) hbs)
  clear hrow A0
  go_enter Try.func9, Try.ntmps9
  go_wp2_with fail
  refine C.out.mono ?_
  rintro e w1 ⟨g, rfl, hc1, hb1⟩
  have hg : w.heap.size + 1 ≤ g := by have := hc1.1; simp at this; omega
  have C1 := Lib.hid hc1
  have K1 := Lib.hid ((Blk.new w [.int .i64 0, .int .i64 0, .int .i64 0, .string ⟨#[]⟩] 25).below hb1)
  have B1 := Lib.hid (((Below.refl w.heap.size w).alloc (Nat.le_refl _) _).trans (hb1.mono (by simp)))
  clear hc1 hb1
  go_wp2_with fail
  refine (l5Frame_any _ g w1 C1.out).mono ?_
  rintro e w2 ⟨d, s, t, b, rfl, hq, hc2, hg2⟩
  have K2 := Lib.hid (K1.out.grown hg2 (by omega))
  have B2 := Lib.hid (B1.out.trans (grown_below hg2 (by omega) B1.out.size))
  have Q := Lib.hid hq
  clear hq hc2 hg2
  obtain ⟨⟨d0, d1, d2, d3⟩, e0, e1, e2, e3⟩ := K2.out.four
  go_wp2_with fail
  exact bodyPost_ret (v := .agg #[.int .i64 d, .int .i64 s, .int .i64 t, .string b]) (by simp [results, Try.results9, go_sem, d0, d1, d2, d3]) rfl
    ⟨_, _, _, _, rfl, Q.out, (((B2.out.setCell (Nat.le_refl _) _).setCell (Nat.le_refl _) _).setCell (Nat.le_refl _) _).setCell (Nat.le_refl _) _⟩

def turn5Cs : Array Value := #[.string ⟨#[0]⟩, .string ⟨#[5]⟩, .string ⟨#[120]⟩]
theorem turn5Cs_bd : ∀ v ∈ turn5Cs.toList, ∃ x, v = .string x ∧ x.size ≤ 100 := by
  intro v hv
  simp only [turn5Cs, List.mem_cons, List.mem_nil_iff, or_false] at hv
  rcases hv with rfl | rfl | rfl <;> exact ⟨_, rfl, by decide⟩

set_option maxRecDepth 100000 in
set_option maxHeartbeats 2000000 in
theorem drawReadFrame (a : Option Addr) (bs : List UInt8) (cap : Nat) (w : World) (hrow : Row w w.heap.size a (byteCells bs)) (hbs : bs.length ≤ 1048576) :
    Calls Try.prog 13 #[.slice a bs.length cap] w fun e w' => ∃ t : ByteArray, e = .returned (.string t) ∧ t.size ≤ 1048576 ∧ Below w.heap.size w w' := by
  have C := Lib.hid (l1New_any a bs cap w hrow hbs)
  clear hrow
  go_enter Try.func13, Try.ntmps13
  go_wp2_with fail
  refine C.out.mono ?_
  rintro e w1 ⟨g, rfl, hc1, hb1⟩
  have C1 := Lib.hid hc1
  have B1 := Lib.hid hb1
  clear hc1 hb1
  go_wp2_with fail
  refine (l5Frame_any _ g w1 C1.out).mono ?_
  rintro e w2 ⟨d, s, t, b, rfl, hq, hc2, hg2⟩
  have B2 := Lib.hid (below_cur B1.out C1.out hg2)
  have C2 := Lib.hid hc2
  have hsz := frameText_le d s t b
  have CT := Lib.hid (frameTextS d s t b w2)
  obtain ⟨x, hx⟩ : ∃ x, frameText d s t b = x := ⟨_, rfl⟩
  rw [hx] at CT hsz
  clear hq hc2 hg2 hx
  go_wp2_with fail
  refine CT.out.mono ?_
  rintro e w3 ⟨rfl, hb3⟩
  have C3 := Lib.hid (C2.out.below hb3)
  have B3 := Lib.hid (B2.out.trans (hb3.mono B2.out.size))
  clear hb3
  go_wp2_with fail
  have hlt := C3.out.lt
  refine (l1Turned_any _ g w3.heap.size _ (C3.out.new _) x (by omega) turn5Cs (heap_alloc_new w3 _) (by omega) (by decide) (by decide) turn5Cs_bd).mono ?_
  rintro e w4 ⟨y, rfl, hy, hc4, hg4⟩
  have B4 := Lib.hid (below_cur B3.out C3.out (grown_tr (World.grownBy_alloc w3 _ _) hg4))
  clear hc4 hg4 hlt
  go_wp2_with fail
  go_ret
  exact ⟨y, rfl, by omega, B4.out⟩
end Go.Proofs.Ytjldfmifccjniaa
