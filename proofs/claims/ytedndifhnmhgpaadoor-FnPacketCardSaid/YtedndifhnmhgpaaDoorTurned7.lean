/- The draws' own l7Turned. -/
import Derived.Test.YtedndifhnmhgpaaDoorTurned
import Derived.Test.YtedndifhnmhgpaaDoorCurO
import Derived.Test.YtedndifhnmhgpaaDoorPickNew
import Derived.Test.YtedndifhnmhgpaaDoorBytesOf
import Derived.Test.YtedndifhnmhgpaaDoorSum2
import Derived.Test.YtedndifhnmhgpaaDoorBlk
namespace Go.Proofs.YtedndifhnmhgpaaDoor
open Go.RowKit Go.Lib

def turn7Cs : Array Value := #[.string ⟨#[0]⟩, .string ⟨#[69]⟩, .string ⟨#[120]⟩]
theorem turn7Cs_bd : ∀ v ∈ turn7Cs.toList, ∃ x, v = .string x ∧ x.size ≤ 100 := by
  intro v hv
  simp only [turn7Cs, List.mem_cons, List.mem_nil_iff, or_false] at hv
  rcases hv with rfl | rfl | rfl <;> exact ⟨_, rfl, by decide⟩
def at7Cs : Array Value := #[.int .i64 0, .int .i64 1, .int .i64 2, .int .i64 3, .int .i64 6, .int .i64 7, .int .i64 8, .int .i64 10, .int .i64 19]
theorem at7Cs_bd : ∀ v ∈ at7Cs.toList, ∃ x : Nat, v = .int .i64 (x : Int) ∧ x < 20 := by
  intro v hv
  simp only [at7Cs, List.mem_cons, List.mem_nil_iff, or_false] at hv
  rcases hv with rfl | rfl | rfl | rfl | rfl | rfl | rfl | rfl | rfl
  · exact ⟨0, rfl, by decide⟩
  · exact ⟨1, rfl, by decide⟩
  · exact ⟨2, rfl, by decide⟩
  · exact ⟨3, rfl, by decide⟩
  · exact ⟨6, rfl, by decide⟩
  · exact ⟨7, rfl, by decide⟩
  · exact ⟨8, rfl, by decide⟩
  · exact ⟨10, rfl, by decide⟩
  · exact ⟨19, rfl, by decide⟩
def by7Cs : Array Value := #[.int .i64 0, .int .i64 64, .int .i64 32, .int .i64 69, .int .i64 70, .int .i64 1, .int .i64 255]
theorem by7Cs_bd : ∀ v ∈ by7Cs.toList, ∃ x : UInt8, v = .int .i64 (x.toNat : Int) := by
  intro v hv
  simp only [by7Cs, List.mem_cons, List.mem_nil_iff, or_false] at hv
  rcases hv with rfl | rfl | rfl | rfl | rfl | rfl | rfl
  · exact ⟨0, rfl⟩
  · exact ⟨64, rfl⟩
  · exact ⟨32, rfl⟩
  · exact ⟨69, rfl⟩
  · exact ⟨70, rfl⟩
  · exact ⟨1, rfl⟩
  · exact ⟨255, rfl⟩
theorem pickAt7 (B g : Nat) (w : World) (hc : CurB w B g) :
    Calls Tryd.prog 38 #[.pointer (some ⟨g, 0, none⟩), .slice (some ⟨w.heap.size, 0, none⟩) 9 9] (w.alloc (.cells at7Cs 3)) fun e w' => ∃ x : Nat, e = .returned (.int .i64 (x : Int)) ∧ x < 20 ∧ CurB w' B g ∧ w.grownBy w' (some g) := by
  have hlt := hc.lt
  refine (l1PickInt_any B g w.heap.size _ (hc.new _) at7Cs (heap_alloc_new w _) (by omega) (by decide) (by decide) (fun v hv => by obtain ⟨x, h, _⟩ := at7Cs_bd v hv; exact ⟨_, h⟩)).mono ?_
  rintro e w' ⟨v, hv, rfl, h1, h2⟩
  obtain ⟨x, rfl, hx⟩ := at7Cs_bd v hv
  exact ⟨x, rfl, hx, h1, grown_tr (World.grownBy_alloc w _ _) h2⟩
theorem pickBy7 (B g : Nat) (w : World) (hc : CurB w B g) :
    Calls Tryd.prog 38 #[.pointer (some ⟨g, 0, none⟩), .slice (some ⟨w.heap.size, 0, none⟩) 7 7] (w.alloc (.cells by7Cs 3)) fun e w' => ∃ x : UInt8, e = .returned (.int .i64 (x.toNat : Int)) ∧ CurB w' B g ∧ w.grownBy w' (some g) := by
  have hlt := hc.lt
  refine (l1PickInt_any B g w.heap.size _ (hc.new _) by7Cs (heap_alloc_new w _) (by omega) (by decide) (by decide) (fun v hv => by obtain ⟨x, h⟩ := by7Cs_bd v hv; exact ⟨_, h⟩)).mono ?_
  rintro e w' ⟨v, hv, rfl, h1, h2⟩
  obtain ⟨x, rfl⟩ := by7Cs_bd v hv
  exact ⟨x, rfl, h1, grown_tr (World.grownBy_alloc w _ _) h2⟩
theorem turnNew7 (B g : Nat) (w : World) (hc : CurB w B g) (s : ByteArray) (hs : s.size ≤ 1000000) :
    Calls Tryd.prog 53 #[.pointer (some ⟨g, 0, none⟩), .string s, .slice (some ⟨w.heap.size, 0, none⟩) 3 3] (w.alloc (.cells turn7Cs 9)) (TurnEnd w B g (s.size + 100)) := by
  have hlt := hc.lt
  refine (l1Turned_any B g w.heap.size _ (hc.new _) s hs turn7Cs (heap_alloc_new w _) (by omega) (by decide) (by decide) turn7Cs_bd).mono ?_
  rintro e w' ⟨t, rfl, ht, h1, h2⟩
  exact ⟨t, rfl, ht, h1, grown_tr (World.grownBy_alloc w _ _) h2⟩

set_option maxRecDepth 100000 in
set_option maxHeartbeats 2000000 in
theorem l7Turned_any (B g : Nat) (w : World) (hc : CurB w B g) (s : ByteArray) (hs : s.size ≤ 1000000) :
    Calls Tryd.prog 31 #[.pointer (some ⟨g, 0, none⟩), .string s] w (TurnEnd w B g (s.size + 100)) := by
  have hlt := hc.lt
  have hBg := hc.1
  have C := Lib.hid hc
  clear hc
  by_cases h : (s.size : Int) < 20
  · have T := Lib.hid (turnNew7 B g w C.out s hs)
    go_enter Tryd.func31, Tryd.ntmps31
    go_wp2_with fail
    refine T.out.mono ?_
    rintro e w1 ⟨t, rfl, ht, hc1, hg1⟩
    go_wp2_with fail
    go_ret
    exact ⟨t, rfl, ht, hc1, hg1⟩
  · have O := Lib.hid (l1Once_any B g w C.out 3 (by omega) (by omega))
    go_enter Tryd.func31, Tryd.ntmps31
    go_wp2_with fail
    refine O.out.mono ?_
    rintro e w1 ⟨b, rfl, hc1, hg1⟩
    have C1 := Lib.hid hc1
    have G1 := Lib.hid hg1
    clear hc1 hg1 O
    cases b with
    | true =>
      go_wp2_with fail
      refine (turnNew7 B g w1 C1.out s hs).mono ?_
      rintro e w2 ⟨t, rfl, ht, hc2, hg2⟩
      have G2 := Lib.hid (grown_tr G1.out hg2)
      have C2 := Lib.hid hc2
      clear hc2 hg2
      go_wp2_with fail
      go_ret
      exact ⟨t, rfl, ht, C2.out, G2.out⟩
    | false =>
      obtain ⟨cap, W, hcv, hcap, hlaid, hbW⟩ := bytes_new2 (P := Tryd.prog) w1 9 22 5 s Tryd.underlying9 Tryd.underlying22 Tryd.underlying5
      have hl : s.data.toList.length = s.size := by simp
      obtain ⟨l, el⟩ : ∃ l, s.data.toList = l := ⟨_, rfl⟩
      rw [el] at hl hlaid
      have L := Lib.hid hlaid
      have CW := Lib.hid (C1.out.below hbW)
      have GW := Lib.hid (grown_tr G1.out (below_any (row := some g) hbW))
      have hfg : w1.heap.size ≠ g := Nat.ne_of_gt C1.out.lt
      clear hlaid hbW el
      go_wp2_with fail
      clear hcv
      refine (pickAt7 B g W CW.out).mono ?_
      rintro e w2 ⟨x, rfl, hx, hc2, hg2⟩
      have L2 := Lib.hid (L.out.grown (by omega) hg2 hfg)
      have C2 := Lib.hid hc2
      have G2 := Lib.hid (grown_tr GW.out hg2)
      clear hc2 hg2 L CW GW
      go_wp2_with fail
      refine (pickBy7 B g w2 C2.out).mono ?_
      rintro e w3 ⟨y, rfl, hc3, hg3⟩
      have L3 := Lib.hid (L2.out.grown (by omega) hg3 hfg)
      have C3 := Lib.hid hc3
      have G3 := Lib.hid (grown_tr G2.out hg3)
      clear hc3 hg3 L2 C2 G2
      have hfl : w.heap.size ≤ w1.heap.size := G1.out.size
      have hBf : B ≤ w1.heap.size := by omega
      clear C1 G1
      generalize w1.heap.size = f at *
      have h20 : 20 ≤ s.size := by omega
      have wy : IntKind.u8.wrap (y.toNat : Int) = y.toNat := by have := y.toNat_lt; simp only [IntKind.wrap, IntKind.bits, IntKind.signed]; simp; omega
      have hcell := L3.out.1 x (by omega)
      have hfz := L3.out.2 x (by omega)
      have L4 := Lib.hid (L3.out.set (i := x) (by omega) y)
      have C4 := Lib.hid (C3.out.setOther ⟨f, x, none⟩ (.int .u8 (y.toNat : Int)) hBf hfg)
      have G4 := Lib.hid (grown_setNew G3.out ⟨f, x, none⟩ (.int .u8 (y.toNat : Int)) hfl)
      have hxs : x < s.size := by omega
      have hxi : (x : Int) < s.size := by omega
      go_wp2_with fail
      generalize w3.setCell ⟨f, x, none⟩ (.int .u8 (y.toNat : Int)) = w4 at L4 C4 G4 ⊢
      have hl4 : (l.set x y).length = s.size := by rw [List.length_set, hl]
      generalize l.set x y = l4 at L4 hl4
      clear hcell hfz L3 C3 G3 wy
      refine (l1Once_any B g w4 C4.out 4 (by omega) (by omega)).mono ?_
      rintro e w5 ⟨b, rfl, hc5, hg5⟩
      have L5 := Lib.hid (L4.out.grown (by omega) hg5 hfg)
      have C5 := Lib.hid hc5
      have G5 := Lib.hid (grown_tr G4.out hg5)
      clear hc5 hg5 L4 C4 G4
      cases b with
      | true =>
        have hcv5 := L5.out.conv (P := Tryd.prog) 22 9 5 cap s.size (by omega) Tryd.underlying22 Tryd.underlying5 Tryd.underlying9
        have hz : (⟨(l4.take s.size).toArray⟩ : ByteArray).size ≤ s.size + 100 := by show (l4.take s.size).toArray.size ≤ _; rw [List.size_toArray, List.length_take]; omega
        generalize (⟨(l4.take s.size).toArray⟩ : ByteArray) = t at hcv5 hz
        go_wp2_with fail
        go_ret
        exact ⟨t, rfl, hz, C5.out, G5.out⟩
      | false =>
        have c10 := L5.out.1 10 (by omega)
        have c11 := L5.out.1 11 (by omega)
        have z10 := L5.out.2 10 (by omega)
        have z11 := L5.out.2 11 (by omega)
        have L7 : Laid8 ((w5.setCell ⟨f, 10, none⟩ (.int .u8 0)).setCell ⟨f, 11, none⟩ (.int .u8 0)) f ((l4.set 10 0).set 11 0) :=
          (L5.out.set (i := 10) (by omega) 0).set (i := 11) (by rw [List.length_set]; omega) 0
        have L7 := Lib.hid L7
        have hl7 : ((l4.set 10 0).set 11 0).length = s.size := by rw [List.length_set, List.length_set, hl4]
        generalize (l4.set 10 0).set 11 0 = l7 at L7 hl7
        have C7 := Lib.hid ((C5.out.setOther ⟨f, 10, none⟩ (.int .u8 0) hBf hfg).setOther ⟨f, 11, none⟩ (.int .u8 0) hBf hfg)
        have G7 := Lib.hid (grown_setNew (grown_setNew G5.out ⟨f, 10, none⟩ (.int .u8 0) hfl) ⟨f, 11, none⟩ (.int .u8 0) hfl)
        have hcv7 := L7.out.conv (P := Tryd.prog) 22 9 5 cap 20 (by omega) Tryd.underlying22 Tryd.underlying5 Tryd.underlying9
        have hz7 : (⟨(l7.take 20).toArray⟩ : ByteArray).size = 20 := by show (l7.take 20).toArray.size = _; rw [List.size_toArray, List.length_take]; omega
        generalize (⟨(l7.take 20).toArray⟩ : ByteArray) = t7 at hcv7 hz7
        have SO := Lib.hid (sumOfS t7 (by omega))
        have hso := sumOf_bd t7
        obtain ⟨c, hc⟩ : ∃ c : Nat, sumOf t7 = (c : Int) := ⟨(sumOf t7).toNat, by omega⟩
        rw [hc] at SO hso
        clear hc hz7
        have hcap20 : (20 : Int) ≤ cap := by omega
        go_wp2_with fail
        generalize (w5.setCell ⟨f, 10, none⟩ (.int .u8 0)).setCell ⟨f, 11, none⟩ (.int .u8 0) = w6 at L7 C7 G7 hcv7 ⊢
        clear hcv7 c10 c11 z10 z11 L5 C5 G5
        refine (SO.out _).mono ?_
        rintro e w7 ⟨rfl, rfl⟩
        have c10 := L7.out.1 10 (by omega)
        have c11 := L7.out.1 11 (by omega)
        have z10 := L7.out.2 10 (by omega)
        have z11 := L7.out.2 11 (by omega)
        obtain ⟨u, hu⟩ : ∃ u : UInt8, IntKind.u8.wrap ((c : Int) / 256) = (u.toNat : Int) := ⟨UInt8.ofNat (c / 256), by rw [UInt8.toNat_ofNat']; simp only [IntKind.wrap, IntKind.bits, IntKind.signed]; simp⟩
        obtain ⟨v, hv⟩ : ∃ v : UInt8, IntKind.u8.wrap ((c : Int) % 256) = (v.toNat : Int) := ⟨UInt8.ofNat (c % 256), by rw [UInt8.toNat_ofNat']; simp only [IntKind.wrap, IntKind.bits, IntKind.signed]; simp⟩
        have L9 : Laid8 ((w6.setCell ⟨f, 10, none⟩ (.int .u8 (u.toNat : Int))).setCell ⟨f, 11, none⟩ (.int .u8 (v.toNat : Int))) f ((l7.set 10 u).set 11 v) :=
          (L7.out.set (i := 10) (by omega) u).set (i := 11) (by rw [List.length_set]; omega) v
        have L9 := Lib.hid L9
        have hl9 : ((l7.set 10 u).set 11 v).length = s.size := by rw [List.length_set, List.length_set, hl7]
        generalize (l7.set 10 u).set 11 v = l9 at L9 hl9
        have C9 := Lib.hid ((C7.out.setOther ⟨f, 10, none⟩ (.int .u8 (u.toNat : Int)) hBf hfg).setOther ⟨f, 11, none⟩ (.int .u8 (v.toNat : Int)) hBf hfg)
        have G9 := Lib.hid (grown_setNew (grown_setNew G7.out ⟨f, 10, none⟩ (.int .u8 (u.toNat : Int)) hfl) ⟨f, 11, none⟩ (.int .u8 (v.toNat : Int)) hfl)
        have hcv9 := L9.out.conv (P := Tryd.prog) 22 9 5 cap s.size (by omega) Tryd.underlying22 Tryd.underlying5 Tryd.underlying9
        have hz : (⟨(l9.take s.size).toArray⟩ : ByteArray).size ≤ s.size + 100 := by show (l9.take s.size).toArray.size ≤ _; rw [List.size_toArray, List.length_take]; omega
        generalize (⟨(l9.take s.size).toArray⟩ : ByteArray) = t at hcv9 hz
        go_wp2_with fail
        go_ret
        exact ⟨t, rfl, hz, C9.out, G9.out⟩
end Go.Proofs.YtedndifhnmhgpaaDoor
