/- The draws of chapter 7: DrawPacketText, DrawReadPacket. -/
import Derived.Test.YtedndifhnmhgpaaDoorDraw7
import Derived.Test.YtedndifhnmhgpaaDoorPacketTxt
import Derived.Test.YtedndifhnmhgpaaDoorTurned7
namespace Go.Proofs.YtedndifhnmhgpaaDoor
open Go.RowKit Go.Lib

set_option maxRecDepth 100000 in
set_option maxHeartbeats 2000000 in
theorem drawPacketText (a : Option Addr) (bs : List UInt8) (cap : Nat) (w : World) (hrow : Row w w.heap.size a (byteCells bs)) (hbs : bs.length ≤ 1048576) :
    Calls Tryd.prog 7 #[.slice a bs.length cap] w fun e w' => ∃ (s d t p i : Int) (b : ByteArray), e = .returned (.agg #[.int .i64 s, .int .i64 d, .int .i64 t, .int .i64 p, .int .i64 i, .string b]) ∧ (I64 s ∧ I64 d ∧ I64 t ∧ I64 p ∧ I64 i ∧ b.size ≤ 1600) ∧ Below w.heap.size w w' := by
  have A0 : Below w.heap.size w (w.alloc (.cells #[.int .i64 0, .int .i64 0, .int .i64 0, .int .i64 0, .int .i64 0, .string ⟨#[]⟩] 25)) := (Below.refl _ _).alloc (Nat.le_refl _) _
  have C := Lib.hid (l1New_any a bs cap _ ((hrow.below A0).mono A0.size) hbs)
  clear hrow A0
  go_enter Tryd.func7, Tryd.ntmps7
  go_wp2_with fail
  refine C.out.mono ?_
  rintro e w1 ⟨g, rfl, hc1, hb1⟩
  have hg : w.heap.size + 1 ≤ g := by have := hc1.1; simp at this; omega
  have C1 := Lib.hid hc1
  have K1 := Lib.hid ((Blk.new w [.int .i64 0, .int .i64 0, .int .i64 0, .int .i64 0, .int .i64 0, .string ⟨#[]⟩] 25).below hb1)
  have B1 := Lib.hid (((Below.refl w.heap.size w).alloc (Nat.le_refl _) _).trans (hb1.mono (by simp)))
  clear hc1 hb1
  go_wp2_with fail
  refine (l7Packet_any _ g w1 C1.out).mono ?_
  rintro e w2 ⟨s, d, t, p, i, b, rfl, hq, hc2, hg2⟩
  have K2 := Lib.hid (K1.out.grown hg2 (by omega))
  have B2 := Lib.hid (B1.out.trans (grown_below hg2 (by omega) B1.out.size))
  have Q := Lib.hid hq
  clear hq hc2 hg2
  obtain ⟨⟨d0, d1, d2, d3, d4, d5⟩, e0, e1, e2, e3, e4, e5⟩ := K2.out.of6
  go_wp2_with fail
  exact bodyPost_ret (v := .agg #[.int .i64 s, .int .i64 d, .int .i64 t, .int .i64 p, .int .i64 i, .string b]) (by simp [results, Tryd.results7, go_sem, d0, d1, d2, d3, d4, d5]) rfl
    ⟨_, _, _, _, _, _, rfl, Q.out, (((((B2.out.setCell (Nat.le_refl _) _).setCell (Nat.le_refl _) _).setCell (Nat.le_refl _) _).setCell (Nat.le_refl _) _).setCell (Nat.le_refl _) _).setCell (Nat.le_refl _) _⟩

def pad7Cs : Array Value := #[.string ⟨#[]⟩, .string ⟨#[0]⟩, .string ⟨#[112, 97, 100]⟩]
theorem pad7Cs_bd : ∀ v ∈ pad7Cs.toList, ∃ x, v = .string x ∧ x.size ≤ 3 := by
  intro v hv
  simp only [pad7Cs, List.mem_cons, List.mem_nil_iff, or_false] at hv
  rcases hv with rfl | rfl | rfl <;> exact ⟨_, rfl, by decide⟩
theorem pickPad7 (B g : Nat) (w : World) (hc : CurB w B g) :
    Calls Tryd.prog 29 #[.pointer (some ⟨g, 0, none⟩), .slice (some ⟨w.heap.size, 0, none⟩) 3 3] (w.alloc (.cells pad7Cs 9)) fun e w' => ∃ x : ByteArray, e = .returned (.string x) ∧ x.size ≤ 3 ∧ CurB w' B g ∧ w.grownBy w' (some g) := by
  have hlt := hc.lt
  refine (l1Pick_any B g w.heap.size _ (hc.new _) pad7Cs (heap_alloc_new w _) (by omega) (by decide) (by decide) (fun v hv => (pad7Cs_bd v hv).imp fun _ h => h.1)).mono ?_
  rintro e w' ⟨v, hv, rfl, h1, h2⟩
  obtain ⟨x, rfl, hx⟩ := pad7Cs_bd v hv
  exact ⟨x, rfl, hx, h1, grown_tr (World.grownBy_alloc w _ _) h2⟩

set_option maxRecDepth 100000 in
set_option maxHeartbeats 2000000 in
theorem drawReadPacket (a : Option Addr) (bs : List UInt8) (cap : Nat) (w : World) (hrow : Row w w.heap.size a (byteCells bs)) (hbs : bs.length ≤ 1048576) :
    Calls Tryd.prog 13 #[.slice a bs.length cap] w fun e w' => ∃ t : ByteArray, e = .returned (.string t) ∧ t.size ≤ 1048576 ∧ Below w.heap.size w w' := by
  have C := Lib.hid (l1New_any a bs cap w hrow hbs)
  clear hrow
  go_enter Tryd.func13, Tryd.ntmps13
  go_wp2_with fail
  refine C.out.mono ?_
  rintro e w1 ⟨g, rfl, hc1, hb1⟩
  have C1 := Lib.hid hc1
  have B1 := Lib.hid hb1
  clear hc1 hb1
  go_wp2_with fail
  refine (l7Packet_any _ g w1 C1.out).mono ?_
  rintro e w2 ⟨s, d, t, p, i, b, rfl, hq, hc2, hg2⟩
  have B2 := Lib.hid (below_cur B1.out C1.out hg2)
  have C2 := Lib.hid hc2
  have hsz := packText_le s d t p i b
  have CT := Lib.hid (packTextS s d t p i b w2)
  obtain ⟨x, hx⟩ : ∃ x, packText s d t p i b = x := ⟨_, rfl⟩
  rw [hx] at CT hsz
  clear hq hc2 hg2 hx
  go_wp2_with fail
  refine CT.out.mono ?_
  rintro e w3 ⟨rfl, hb3⟩
  have C3 := Lib.hid (C2.out.below hb3)
  have B3 := Lib.hid (B2.out.trans (hb3.mono B2.out.size))
  clear hb3
  go_wp2_with fail
  refine (pickPad7 _ g w3 C3.out).mono ?_
  rintro e w4 ⟨y, rfl, hy, hc4, hg4⟩
  have C4 := Lib.hid hc4
  have B4 := Lib.hid (below_cur B3.out C3.out hg4)
  have m0 : ¬ 9223372036854775807 < x.size + y.size := by omega
  have hz : (x ++ y).size ≤ 1000000 := by rw [ByteArray.size_append]; omega
  clear hc4 hg4
  go_wp2_with fail
  generalize x ++ y = z at hz ⊢
  refine (l1Once_any _ g w4 C4.out 2 (by omega) (by omega)).mono ?_
  rintro e w5 ⟨o, rfl, hc5, hg5⟩
  have C5 := Lib.hid hc5
  have B5 := Lib.hid (below_cur B4.out C4.out hg5)
  clear hc5 hg5
  cases o with
  | true =>
    go_wp2_with fail
    refine (l7Turned_any _ g w5 C5.out z hz).mono ?_
    rintro e w6 ⟨u, rfl, hu, hc6, hg6⟩
    have B6 := Lib.hid (below_cur B5.out C5.out hg6)
    clear hc6 hg6
    go_wp2_with fail
    go_ret
    exact ⟨u, rfl, by omega, B6.out⟩
  | false =>
    go_wp2_with fail
    go_ret
    exact ⟨z, rfl, by omega, B5.out⟩
end Go.Proofs.YtedndifhnmhgpaaDoor
