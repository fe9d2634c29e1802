/- Proved here: for every code of at most 1048576 bytes, with the texts that are drawn from it, Unhex reads the text from its Hex, which is twice as long, and the parts of a text joined by what was between them are the text again (a longer code is not asked); the only condition is that the library's two listed tables hold what the program's own text lays (the card ties them). -/
import Derived.Test.YtbpmebpnnooidaaDoorRows
import Derived.Test.YtbpmebpnnooidaaDoorCards
import Derived.Test.YtbpmebpnnooidaaDoorTie
import Derived.Test.YtbpmebpnnooidaaDoorDrawHex
import Derived.Test.YtbpmebpnnooidaaDoorHexBack
import Derived.Test.YtbpmebpnnooidaaDoorHexB
import Derived.Test.YtbpmebpnnooidaaDoorUnhexB
import Derived.Test.YtbpmebpnnooidaaDoorPartsA
import Derived.Test.YtbpmebpnnooidaaDoorJoinI
import Derived.Test.YtbpmebpnnooidaaDoorBig
import Derived.Test.YtbpmebpnnooidaaDoorOpen
import Derived.Test.YtbpmebpnnooidaaDoorShape
import Derived.Deep.RegionHeld3
import Derived.ShutString
import Derived.ChangeOld
import Derived.Below
import Derived.Lay
import Derived.LaidMore
import Derived.Stop.Joined
import Derived.SevenTiedAt
namespace Go.Proofs.YtbpmebpnnooidaaDoor.fnHex
open Go.ChangeShapes Go.WideShapes Go.ChangeAt Go.RowKit
open Go.ChangeMaps (open_string shut_string)

/-- h is the Hex of s. -/
def HexOf (s h : ByteArray) : Prop := h = ⟨(hexL s.data.toList).toArray⟩
theorem HexOf.size {s h : ByteArray} (hh : HexOf s h) : h.size = 2 * s.size := by
  rw [hh]; show (hexL s.data.toList).toArray.size = _; rw [List.size_toArray, hexL_length]; simp
theorem hexOf (s : ByteArray) (w : World) (hs : s.size ≤ 12) : Calls Tryd.prog 14 #[.string s] w fun e w' => ∃ h, e = .returned (.string h) ∧ HexOf s h ∧ Below w.heap.size w w' :=
  (hexI s w (by omega)).mono fun _ _ h => ⟨_, h.1, rfl, h.2⟩
theorem unhexBack (s h : ByteArray) (hh : HexOf s h) (w : World) (hs : s.size ≤ 12) : Calls Tryd.prog 15 #[.string h] w fun e w' => e = .returned (.tuple #[.string s, .bool true]) ∧ Below w.heap.size w w' := by
  have c := unhexI h w (by rw [hh.size]; omega)
  rw [show unhexOut h = (s, true) by rw [hh]; exact unhex_hex s] at c
  exact c
theorem cell_lit (w : World) (c : UInt8) : (w.alloc (.cells #[.int .u8 c.toNat] 5)).cell? ⟨w.heap.size, 0, none⟩ = some (.int .u8 c.toNat) := by
  rw [World.cell?_alloc_at _ _ _ _ rfl]; rfl
/-- Parts, then Joined: the text again. -/
def PartsOf (t : ByteArray) (c : UInt8) (w : World) (e : Ending) (w' : World) : Prop :=
  ∃ g, e = .returned (.slice (some ⟨g, 0, none⟩) (pieces t c).length (pieces t c).length) ∧ Row w' w'.heap.size (some ⟨g, 0, none⟩) (strVals (pieces t c)) ∧ Below w.heap.size w w'
theorem joinBack (a : Option Addr) (t : ByteArray) (c : UInt8) (cap : Nat) (w : World) (ht : t.size ≤ 12) (hrow : Row w w.heap.size a (strVals (pieces t c))) (hcap : (pieces t c).length ≤ cap) :
    Calls Tryd.prog 17 #[.slice a (pieces t c).length cap, .string ⟨#[c]⟩] w fun e w' => e = .returned (.string t) ∧ Below w.heap.size w w' := by
  have h := joinedI a cap (pieces t c) ⟨#[c]⟩ w hrow hcap (by have := pieces_length t c; omega) (by show (1 : Nat) ≤ 1048576; omega) (by have := lens_pieces t c; omega)
  rw [pieces_join] at h
  exact h

set_option maxRecDepth 100000 in
set_option maxHeartbeats 2000000 in
theorem walk {w : World} (a0 : Option Addr) (len0 cap0 : Nat) (s0 : List UInt8) (w0 : IsBytes w a0 len0 s0) (hm : ∃ m, w.cell? ⟨0, 0, none⟩ = some (.int .i64 m)) :
    Calls Tryd.prog 4 #[.slice a0 len0 cap0] w fun e w' => e = .returned (.bool true) ∧ Below w.heap.size w w' := by
  obtain ⟨⟨rfl, hlen⟩, hrow⟩ := w0
  obtain ⟨m, hm⟩ := hm
  have hlt := World.block_lt_of_cell? w _ hm
  unfold maxLen at hlen
  have HR := Lib.hid hrow
  have HM := Lib.hid hm
  clear hrow hm
  by_cases hs : s0.length ≤ 1048576
  · go_enter Tryd.func4, Tryd.ntmps4
    go_wp2_with fail
    refine (big_no _ _ _ _ hs).mono ?_
    rintro e w' ⟨rfl, rfl⟩
    go_wp2_with fail
    refine (drawHex a0 s0 cap0 w HR.out hs).mono ?_
    rintro e w1 ⟨s, rfl, hsz, hb1⟩
    have B1 := Lib.hid hb1
    clear hb1
    go_wp2_with fail
    refine (hexOf s w1 hsz).mono ?_
    rintro e w2 ⟨h, rfl, hh, hb2⟩
    have HH := Lib.hid hh
    clear hh
    have B2 := Lib.hid (B1.out.trans (hb2.mono B1.out.size))
    clear hb2
    go_wp2_with fail
    refine (unhexBack s h HH.out w2 hsz).mono ?_
    rintro e w3 ⟨rfl, hb3⟩
    have B3 := Lib.hid (B2.out.trans (hb3.mono B2.out.size))
    clear hb3
    go_wp2_with fail
    refine (drawParts a0 s0 cap0 w3 ((HR.out.below B3.out).mono B3.out.size) hs).mono ?_
    rintro e w4 ⟨t, c, rfl, htz, hb4⟩
    have B4 := Lib.hid (B3.out.trans (hb4.mono B3.out.size))
    have hm4 : w4.cell? ⟨0, 0, none⟩ = some (.int .i64 m) := (B4.out.cell (p := ⟨0, 0, none⟩) hlt).trans HM.out
    have hlt4 : 0 < w4.heap.size := Nat.lt_of_lt_of_le hlt B4.out.size
    have hwr : IntKind.i64.wrap (2 * (s.size : Int)) = 2 * (s.size : Int) := IntWalk.i64_in _ (by omega)
    have hle : ((h.size : Int) == 2 * (s.size : Int)) = true := by rw [HH.out.size]; simp
    have HM4 := Lib.hid hm4
    clear hb4 hm4
    have hcv : ∀ (W : World) (r : Nat), W.cell? ⟨r, 0, none⟩ = some (.int .u8 c.toNat) → (convert 22 9 (.slice (some ⟨r, 0, none⟩) 1 1)).run Tryd.prog W = .ok (.string ⟨#[c]⟩) W := fun W r h =>
      run_convert_bytes_back W 22 9 5 ⟨r, 0, none⟩ 1 [c] Tryd.underlying22 Tryd.underlying5 Tryd.underlying9 (fun j hj => by
        obtain rfl : j = 0 := by simpa using hj
        simpa [Addr.add] using h)
    go_wp2_with fail
    refine wp_region_noPanic ?_
    refine wp_region_held_drew (S := fun _ => True) (by kernel_rfl) trivial (fun _ => ?_)
    refine wpAnyH_take (i := 0) (v := Value.bool true) rfl (by kernel_rfl) (by kernel_rfl) (by kernel_rfl) (fun _ _ _ h => h) (Or.inl ⟨rfl, fun _ _ => rfl⟩) trivial ?_
    change wpAnyH _ _ _ _ _ _ _ { tmps := #[Value.slice a0 s0.length cap0, undef, Value.bool false, Value.string s, Value.string h, Value.string s, Value.bool true, Value.string t, Value.int IntKind.u8 ↑c.toNat, Value.slice a0 s0.length cap0, Value.bool false, Value.slice a0 s0.length cap0, Value.string s, Value.string s, Value.string h, Value.tuple #[Value.string s, Value.bool true], Value.string h, Value.tuple #[Value.string s, Value.bool true], Value.string s, Value.bool true, Value.tuple #[Value.string t, Value.int IntKind.u8 ↑c.toNat], Value.slice a0 s0.length cap0, Value.tuple #[Value.string t, Value.int IntKind.u8 ↑c.toNat], Value.string t, Value.int IntKind.u8 ↑c.toNat, Value.bool true, undef, undef, undef, undef, undef, undef, undef, undef, undef, undef, undef, undef, undef, undef, undef, undef, undef, undef, undef, undef, undef, undef, undef, undef], defers := [] } _
    refine wpAnyH_take (i := 1) (v := Value.bool true) rfl (by kernel_rfl) (by kernel_rfl) (by kernel_rfl) (fun _ _ _ h => h) (Or.inl ⟨rfl, fun _ _ => rfl⟩) trivial ?_
    change wpAnyH _ _ _ _ _ _ _ { tmps := #[Value.slice a0 s0.length cap0, undef, Value.bool false, Value.string s, Value.string h, Value.string s, Value.bool true, Value.string t, Value.int IntKind.u8 ↑c.toNat, Value.slice a0 s0.length cap0, Value.bool false, Value.slice a0 s0.length cap0, Value.string s, Value.string s, Value.string h, Value.tuple #[Value.string s, Value.bool true], Value.string h, Value.tuple #[Value.string s, Value.bool true], Value.string s, Value.bool true, Value.tuple #[Value.string t, Value.int IntKind.u8 ↑c.toNat], Value.slice a0 s0.length cap0, Value.tuple #[Value.string t, Value.int IntKind.u8 ↑c.toNat], Value.string t, Value.int IntKind.u8 ↑c.toNat, Value.bool true, Value.bool true, undef, undef, undef, undef, undef, undef, undef, undef, undef, undef, undef, undef, undef, undef, undef, undef, undef, undef, undef, undef, undef, undef, undef], defers := [] } _
    refine wpAnyH_take (i := 2) (v := Value.string s) rfl (by kernel_rfl) (by kernel_rfl) (by kernel_rfl) (fun _ _ _ h => h) (Or.inl ⟨rfl, fun _ _ => rfl⟩) trivial ?_
    change wpAnyH _ _ _ _ _ _ _ { tmps := #[Value.slice a0 s0.length cap0, undef, Value.bool false, Value.string s, Value.string h, Value.string s, Value.bool true, Value.string t, Value.int IntKind.u8 ↑c.toNat, Value.slice a0 s0.length cap0, Value.bool false, Value.slice a0 s0.length cap0, Value.string s, Value.string s, Value.string h, Value.tuple #[Value.string s, Value.bool true], Value.string h, Value.tuple #[Value.string s, Value.bool true], Value.string s, Value.bool true, Value.tuple #[Value.string t, Value.int IntKind.u8 ↑c.toNat], Value.slice a0 s0.length cap0, Value.tuple #[Value.string t, Value.int IntKind.u8 ↑c.toNat], Value.string t, Value.int IntKind.u8 ↑c.toNat, Value.bool true, Value.bool true, Value.string s, undef, undef, undef, undef, undef, undef, undef, undef, undef, undef, undef, undef, undef, undef, undef, undef, undef, undef, undef, undef, undef, undef], defers := [] } _
    refine wpAnyH_take (i := 3) (v := Value.string s) rfl (by kernel_rfl) (by kernel_rfl) (by kernel_rfl) (fun _ _ _ h => h) (Or.inl ⟨rfl, fun _ _ => rfl⟩) trivial ?_
    change wpAnyH _ _ _ _ _ _ _ { tmps := #[Value.slice a0 s0.length cap0, undef, Value.bool false, Value.string s, Value.string h, Value.string s, Value.bool true, Value.string t, Value.int IntKind.u8 ↑c.toNat, Value.slice a0 s0.length cap0, Value.bool false, Value.slice a0 s0.length cap0, Value.string s, Value.string s, Value.string h, Value.tuple #[Value.string s, Value.bool true], Value.string h, Value.tuple #[Value.string s, Value.bool true], Value.string s, Value.bool true, Value.tuple #[Value.string t, Value.int IntKind.u8 ↑c.toNat], Value.slice a0 s0.length cap0, Value.tuple #[Value.string t, Value.int IntKind.u8 ↑c.toNat], Value.string t, Value.int IntKind.u8 ↑c.toNat, Value.bool true, Value.bool true, Value.string s, Value.string s, undef, undef, undef, undef, undef, undef, undef, undef, undef, undef, undef, undef, undef, undef, undef, undef, undef, undef, undef, undef, undef], defers := [] } _
    refine wpAnyH_take (i := 4) (v := Value.bool true) rfl (by kernel_rfl) (by kernel_rfl) (by kernel_rfl) (fun _ _ _ h => h) (Or.inl ⟨rfl, by intro w _; go_simp⟩) trivial ?_
    change wpAnyH _ _ _ _ _ _ _ { tmps := #[Value.slice a0 s0.length cap0, undef, Value.bool false, Value.string s, Value.string h, Value.string s, Value.bool true, Value.string t, Value.int IntKind.u8 ↑c.toNat, Value.slice a0 s0.length cap0, Value.bool false, Value.slice a0 s0.length cap0, Value.string s, Value.string s, Value.string h, Value.tuple #[Value.string s, Value.bool true], Value.string h, Value.tuple #[Value.string s, Value.bool true], Value.string s, Value.bool true, Value.tuple #[Value.string t, Value.int IntKind.u8 ↑c.toNat], Value.slice a0 s0.length cap0, Value.tuple #[Value.string t, Value.int IntKind.u8 ↑c.toNat], Value.string t, Value.int IntKind.u8 ↑c.toNat, Value.bool true, Value.bool true, Value.string s, Value.string s, Value.bool true, undef, undef, undef, undef, undef, undef, undef, undef, undef, undef, undef, undef, undef, undef, undef, undef, undef, undef, undef, undef], defers := [] } _
    refine wpAnyH_take (i := 5) (v := Value.bool true) rfl (by kernel_rfl) (by kernel_rfl) (by kernel_rfl) (fun _ _ _ h => h) (Or.inl ⟨rfl, fun _ _ => rfl⟩) trivial ?_
    change wpAnyH _ _ _ _ _ _ _ { tmps := #[Value.slice a0 s0.length cap0, undef, Value.bool false, Value.string s, Value.string h, Value.string s, Value.bool true, Value.string t, Value.int IntKind.u8 ↑c.toNat, Value.slice a0 s0.length cap0, Value.bool false, Value.slice a0 s0.length cap0, Value.string s, Value.string s, Value.string h, Value.tuple #[Value.string s, Value.bool true], Value.string h, Value.tuple #[Value.string s, Value.bool true], Value.string s, Value.bool true, Value.tuple #[Value.string t, Value.int IntKind.u8 ↑c.toNat], Value.slice a0 s0.length cap0, Value.tuple #[Value.string t, Value.int IntKind.u8 ↑c.toNat], Value.string t, Value.int IntKind.u8 ↑c.toNat, Value.bool true, Value.bool true, Value.string s, Value.string s, Value.bool true, Value.bool true, undef, undef, undef, undef, undef, undef, undef, undef, undef, undef, undef, undef, undef, undef, undef, undef, undef, undef, undef], defers := [] } _
    refine wpAnyH_take (i := 6) (v := Value.bool true) rfl (by kernel_rfl) (by kernel_rfl) (by kernel_rfl) (fun _ _ _ h => h) (Or.inl ⟨rfl, fun _ _ => rfl⟩) trivial ?_
    change wpAnyH _ _ _ _ _ _ _ { tmps := #[Value.slice a0 s0.length cap0, undef, Value.bool false, Value.string s, Value.string h, Value.string s, Value.bool true, Value.string t, Value.int IntKind.u8 ↑c.toNat, Value.slice a0 s0.length cap0, Value.bool false, Value.slice a0 s0.length cap0, Value.string s, Value.string s, Value.string h, Value.tuple #[Value.string s, Value.bool true], Value.string h, Value.tuple #[Value.string s, Value.bool true], Value.string s, Value.bool true, Value.tuple #[Value.string t, Value.int IntKind.u8 ↑c.toNat], Value.slice a0 s0.length cap0, Value.tuple #[Value.string t, Value.int IntKind.u8 ↑c.toNat], Value.string t, Value.int IntKind.u8 ↑c.toNat, Value.bool true, Value.bool true, Value.string s, Value.string s, Value.bool true, Value.bool true, Value.bool true, undef, undef, undef, undef, undef, undef, undef, undef, undef, undef, undef, undef, undef, undef, undef, undef, undef, undef], defers := [] } _
    refine wpAnyH_take (i := 7) (v := Value.string h) rfl (by kernel_rfl) (by kernel_rfl) (by kernel_rfl) (fun _ _ _ h => h) (Or.inl ⟨rfl, fun _ _ => rfl⟩) trivial ?_
    change wpAnyH _ _ _ _ _ _ _ { tmps := #[Value.slice a0 s0.length cap0, undef, Value.bool false, Value.string s, Value.string h, Value.string s, Value.bool true, Value.string t, Value.int IntKind.u8 ↑c.toNat, Value.slice a0 s0.length cap0, Value.bool false, Value.slice a0 s0.length cap0, Value.string s, Value.string s, Value.string h, Value.tuple #[Value.string s, Value.bool true], Value.string h, Value.tuple #[Value.string s, Value.bool true], Value.string s, Value.bool true, Value.tuple #[Value.string t, Value.int IntKind.u8 ↑c.toNat], Value.slice a0 s0.length cap0, Value.tuple #[Value.string t, Value.int IntKind.u8 ↑c.toNat], Value.string t, Value.int IntKind.u8 ↑c.toNat, Value.bool true, Value.bool true, Value.string s, Value.string s, Value.bool true, Value.bool true, Value.bool true, Value.string h, undef, undef, undef, undef, undef, undef, undef, undef, undef, undef, undef, undef, undef, undef, undef, undef, undef], defers := [] } _
    refine wpAnyH_take (i := 8) (v := Value.int IntKind.i64 ↑h.size) rfl (by kernel_rfl) (by kernel_rfl) (by kernel_rfl) (fun _ _ _ h => h) (Or.inl ⟨rfl, by intro w _; go_simp⟩) trivial ?_
    change wpAnyH _ _ _ _ _ _ _ { tmps := #[Value.slice a0 s0.length cap0, undef, Value.bool false, Value.string s, Value.string h, Value.string s, Value.bool true, Value.string t, Value.int IntKind.u8 ↑c.toNat, Value.slice a0 s0.length cap0, Value.bool false, Value.slice a0 s0.length cap0, Value.string s, Value.string s, Value.string h, Value.tuple #[Value.string s, Value.bool true], Value.string h, Value.tuple #[Value.string s, Value.bool true], Value.string s, Value.bool true, Value.tuple #[Value.string t, Value.int IntKind.u8 ↑c.toNat], Value.slice a0 s0.length cap0, Value.tuple #[Value.string t, Value.int IntKind.u8 ↑c.toNat], Value.string t, Value.int IntKind.u8 ↑c.toNat, Value.bool true, Value.bool true, Value.string s, Value.string s, Value.bool true, Value.bool true, Value.bool true, Value.string h, Value.int IntKind.i64 ↑h.size, undef, undef, undef, undef, undef, undef, undef, undef, undef, undef, undef, undef, undef, undef, undef, undef], defers := [] } _
    refine wpAnyH_take (i := 9) (v := Value.string s) rfl (by kernel_rfl) (by kernel_rfl) (by kernel_rfl) (fun _ _ _ h => h) (Or.inl ⟨rfl, fun _ _ => rfl⟩) trivial ?_
    change wpAnyH _ _ _ _ _ _ _ { tmps := #[Value.slice a0 s0.length cap0, undef, Value.bool false, Value.string s, Value.string h, Value.string s, Value.bool true, Value.string t, Value.int IntKind.u8 ↑c.toNat, Value.slice a0 s0.length cap0, Value.bool false, Value.slice a0 s0.length cap0, Value.string s, Value.string s, Value.string h, Value.tuple #[Value.string s, Value.bool true], Value.string h, Value.tuple #[Value.string s, Value.bool true], Value.string s, Value.bool true, Value.tuple #[Value.string t, Value.int IntKind.u8 ↑c.toNat], Value.slice a0 s0.length cap0, Value.tuple #[Value.string t, Value.int IntKind.u8 ↑c.toNat], Value.string t, Value.int IntKind.u8 ↑c.toNat, Value.bool true, Value.bool true, Value.string s, Value.string s, Value.bool true, Value.bool true, Value.bool true, Value.string h, Value.int IntKind.i64 ↑h.size, Value.string s, undef, undef, undef, undef, undef, undef, undef, undef, undef, undef, undef, undef, undef, undef, undef], defers := [] } _
    refine wpAnyH_take (i := 10) (v := Value.int IntKind.i64 ↑s.size) rfl (by kernel_rfl) (by kernel_rfl) (by kernel_rfl) (fun _ _ _ h => h) (Or.inl ⟨rfl, by intro w _; go_simp⟩) trivial ?_
    change wpAnyH _ _ _ _ _ _ _ { tmps := #[Value.slice a0 s0.length cap0, undef, Value.bool false, Value.string s, Value.string h, Value.string s, Value.bool true, Value.string t, Value.int IntKind.u8 ↑c.toNat, Value.slice a0 s0.length cap0, Value.bool false, Value.slice a0 s0.length cap0, Value.string s, Value.string s, Value.string h, Value.tuple #[Value.string s, Value.bool true], Value.string h, Value.tuple #[Value.string s, Value.bool true], Value.string s, Value.bool true, Value.tuple #[Value.string t, Value.int IntKind.u8 ↑c.toNat], Value.slice a0 s0.length cap0, Value.tuple #[Value.string t, Value.int IntKind.u8 ↑c.toNat], Value.string t, Value.int IntKind.u8 ↑c.toNat, Value.bool true, Value.bool true, Value.string s, Value.string s, Value.bool true, Value.bool true, Value.bool true, Value.string h, Value.int IntKind.i64 ↑h.size, Value.string s, Value.int IntKind.i64 ↑s.size, undef, undef, undef, undef, undef, undef, undef, undef, undef, undef, undef, undef, undef, undef], defers := [] } _
    refine wpAnyH_take (i := 11) (v := Value.int IntKind.i64 (2 * ↑s.size)) rfl (by kernel_rfl) (by kernel_rfl) (by kernel_rfl) (fun _ _ _ h => h) (Or.inl ⟨rfl, by intro w _; go_simp⟩) trivial ?_
    change wpAnyH _ _ _ _ _ _ _ { tmps := #[Value.slice a0 s0.length cap0, undef, Value.bool false, Value.string s, Value.string h, Value.string s, Value.bool true, Value.string t, Value.int IntKind.u8 ↑c.toNat, Value.slice a0 s0.length cap0, Value.bool false, Value.slice a0 s0.length cap0, Value.string s, Value.string s, Value.string h, Value.tuple #[Value.string s, Value.bool true], Value.string h, Value.tuple #[Value.string s, Value.bool true], Value.string s, Value.bool true, Value.tuple #[Value.string t, Value.int IntKind.u8 ↑c.toNat], Value.slice a0 s0.length cap0, Value.tuple #[Value.string t, Value.int IntKind.u8 ↑c.toNat], Value.string t, Value.int IntKind.u8 ↑c.toNat, Value.bool true, Value.bool true, Value.string s, Value.string s, Value.bool true, Value.bool true, Value.bool true, Value.string h, Value.int IntKind.i64 ↑h.size, Value.string s, Value.int IntKind.i64 ↑s.size, Value.int IntKind.i64 (2 * ↑s.size), undef, undef, undef, undef, undef, undef, undef, undef, undef, undef, undef, undef, undef], defers := [] } _
    refine wpAnyH_take (i := 12) (v := Value.bool true) rfl (by kernel_rfl) (by kernel_rfl) (by kernel_rfl) (fun _ _ _ h => h) (Or.inl ⟨rfl, by intro w _; go_simp⟩) trivial ?_
    change wpAnyH _ _ _ _ _ _ _ { tmps := #[Value.slice a0 s0.length cap0, undef, Value.bool false, Value.string s, Value.string h, Value.string s, Value.bool true, Value.string t, Value.int IntKind.u8 ↑c.toNat, Value.slice a0 s0.length cap0, Value.bool false, Value.slice a0 s0.length cap0, Value.string s, Value.string s, Value.string h, Value.tuple #[Value.string s, Value.bool true], Value.string h, Value.tuple #[Value.string s, Value.bool true], Value.string s, Value.bool true, Value.tuple #[Value.string t, Value.int IntKind.u8 ↑c.toNat], Value.slice a0 s0.length cap0, Value.tuple #[Value.string t, Value.int IntKind.u8 ↑c.toNat], Value.string t, Value.int IntKind.u8 ↑c.toNat, Value.bool true, Value.bool true, Value.string s, Value.string s, Value.bool true, Value.bool true, Value.bool true, Value.string h, Value.int IntKind.i64 ↑h.size, Value.string s, Value.int IntKind.i64 ↑s.size, Value.int IntKind.i64 (2 * ↑s.size), Value.bool true, undef, undef, undef, undef, undef, undef, undef, undef, undef, undef, undef, undef], defers := [] } _
    refine wpAnyH_take (i := 13) (v := Value.bool true) rfl (by kernel_rfl) (by kernel_rfl) (by kernel_rfl) (fun _ _ _ h => h) (Or.inl ⟨rfl, fun _ _ => rfl⟩) trivial ?_
    change wpAnyH _ _ _ _ _ _ _ { tmps := #[Value.slice a0 s0.length cap0, undef, Value.bool false, Value.string s, Value.string h, Value.string s, Value.bool true, Value.string t, Value.int IntKind.u8 ↑c.toNat, Value.slice a0 s0.length cap0, Value.bool false, Value.slice a0 s0.length cap0, Value.string s, Value.string s, Value.string h, Value.tuple #[Value.string s, Value.bool true], Value.string h, Value.tuple #[Value.string s, Value.bool true], Value.string s, Value.bool true, Value.tuple #[Value.string t, Value.int IntKind.u8 ↑c.toNat], Value.slice a0 s0.length cap0, Value.tuple #[Value.string t, Value.int IntKind.u8 ↑c.toNat], Value.string t, Value.int IntKind.u8 ↑c.toNat, Value.bool true, Value.bool true, Value.string s, Value.string s, Value.bool true, Value.bool true, Value.bool true, Value.string h, Value.int IntKind.i64 ↑h.size, Value.string s, Value.int IntKind.i64 ↑s.size, Value.int IntKind.i64 (2 * ↑s.size), Value.bool true, Value.bool true, undef, undef, undef, undef, undef, undef, undef, undef, undef, undef, undef], defers := [] } _
    refine wpAnyH_take (i := 14) (v := Value.bool true) rfl (by kernel_rfl) (by kernel_rfl) (by kernel_rfl) (fun _ _ _ h => h) (Or.inl ⟨rfl, fun _ _ => rfl⟩) trivial ?_
    change wpAnyH _ _ _ _ _ _ _ { tmps := #[Value.slice a0 s0.length cap0, undef, Value.bool false, Value.string s, Value.string h, Value.string s, Value.bool true, Value.string t, Value.int IntKind.u8 ↑c.toNat, Value.slice a0 s0.length cap0, Value.bool false, Value.slice a0 s0.length cap0, Value.string s, Value.string s, Value.string h, Value.tuple #[Value.string s, Value.bool true], Value.string h, Value.tuple #[Value.string s, Value.bool true], Value.string s, Value.bool true, Value.tuple #[Value.string t, Value.int IntKind.u8 ↑c.toNat], Value.slice a0 s0.length cap0, Value.tuple #[Value.string t, Value.int IntKind.u8 ↑c.toNat], Value.string t, Value.int IntKind.u8 ↑c.toNat, Value.bool true, Value.bool true, Value.string s, Value.string s, Value.bool true, Value.bool true, Value.bool true, Value.string h, Value.int IntKind.i64 ↑h.size, Value.string s, Value.int IntKind.i64 ↑s.size, Value.int IntKind.i64 (2 * ↑s.size), Value.bool true, Value.bool true, Value.bool true, undef, undef, undef, undef, undef, undef, undef, undef, undef, undef], defers := [] } _
    refine wpAnyH_take (i := 15) (v := Value.string t) rfl (by kernel_rfl) (by kernel_rfl) (by kernel_rfl) (fun _ _ _ h => h) (Or.inl ⟨rfl, fun _ _ => rfl⟩) trivial ?_
    change wpAnyH _ _ _ _ _ _ _ { tmps := #[Value.slice a0 s0.length cap0, undef, Value.bool false, Value.string s, Value.string h, Value.string s, Value.bool true, Value.string t, Value.int IntKind.u8 ↑c.toNat, Value.slice a0 s0.length cap0, Value.bool false, Value.slice a0 s0.length cap0, Value.string s, Value.string s, Value.string h, Value.tuple #[Value.string s, Value.bool true], Value.string h, Value.tuple #[Value.string s, Value.bool true], Value.string s, Value.bool true, Value.tuple #[Value.string t, Value.int IntKind.u8 ↑c.toNat], Value.slice a0 s0.length cap0, Value.tuple #[Value.string t, Value.int IntKind.u8 ↑c.toNat], Value.string t, Value.int IntKind.u8 ↑c.toNat, Value.bool true, Value.bool true, Value.string s, Value.string s, Value.bool true, Value.bool true, Value.bool true, Value.string h, Value.int IntKind.i64 ↑h.size, Value.string s, Value.int IntKind.i64 ↑s.size, Value.int IntKind.i64 (2 * ↑s.size), Value.bool true, Value.bool true, Value.bool true, Value.string t, undef, undef, undef, undef, undef, undef, undef, undef, undef], defers := [] } _
    refine wpAnyH_take (i := 16) (v := Value.int IntKind.u8 ↑c.toNat) rfl (by kernel_rfl) (by kernel_rfl) (by kernel_rfl) (fun _ _ _ h => h) (Or.inl ⟨rfl, fun _ _ => rfl⟩) trivial ?_
    change wpAnyH _ _ _ _ _ _ _ { tmps := #[Value.slice a0 s0.length cap0, undef, Value.bool false, Value.string s, Value.string h, Value.string s, Value.bool true, Value.string t, Value.int IntKind.u8 ↑c.toNat, Value.slice a0 s0.length cap0, Value.bool false, Value.slice a0 s0.length cap0, Value.string s, Value.string s, Value.string h, Value.tuple #[Value.string s, Value.bool true], Value.string h, Value.tuple #[Value.string s, Value.bool true], Value.string s, Value.bool true, Value.tuple #[Value.string t, Value.int IntKind.u8 ↑c.toNat], Value.slice a0 s0.length cap0, Value.tuple #[Value.string t, Value.int IntKind.u8 ↑c.toNat], Value.string t, Value.int IntKind.u8 ↑c.toNat, Value.bool true, Value.bool true, Value.string s, Value.string s, Value.bool true, Value.bool true, Value.bool true, Value.string h, Value.int IntKind.i64 ↑h.size, Value.string s, Value.int IntKind.i64 ↑s.size, Value.int IntKind.i64 (2 * ↑s.size), Value.bool true, Value.bool true, Value.bool true, Value.string t, Value.int IntKind.u8 ↑c.toNat, undef, undef, undef, undef, undef, undef, undef, undef], defers := [] } _
    refine wpAnyH_take (i := 18) (v := Value.int IntKind.u8 ↑c.toNat) rfl (by kernel_rfl) (by kernel_rfl) (by kernel_rfl) (fun _ _ _ h => h) (Or.inl ⟨rfl, fun _ _ => rfl⟩) trivial ?_
    change wpAnyH _ _ _ _ _ _ _ { tmps := #[Value.slice a0 s0.length cap0, undef, Value.bool false, Value.string s, Value.string h, Value.string s, Value.bool true, Value.string t, Value.int IntKind.u8 ↑c.toNat, Value.slice a0 s0.length cap0, Value.bool false, Value.slice a0 s0.length cap0, Value.string s, Value.string s, Value.string h, Value.tuple #[Value.string s, Value.bool true], Value.string h, Value.tuple #[Value.string s, Value.bool true], Value.string s, Value.bool true, Value.tuple #[Value.string t, Value.int IntKind.u8 ↑c.toNat], Value.slice a0 s0.length cap0, Value.tuple #[Value.string t, Value.int IntKind.u8 ↑c.toNat], Value.string t, Value.int IntKind.u8 ↑c.toNat, Value.bool true, Value.bool true, Value.string s, Value.string s, Value.bool true, Value.bool true, Value.bool true, Value.string h, Value.int IntKind.i64 ↑h.size, Value.string s, Value.int IntKind.i64 ↑s.size, Value.int IntKind.i64 (2 * ↑s.size), Value.bool true, Value.bool true, Value.bool true, Value.string t, Value.int IntKind.u8 ↑c.toNat, undef, Value.int IntKind.u8 ↑c.toNat, undef, undef, undef, undef, undef, undef], defers := [] } _
    refine wpAnyH_take (i := 22) (v := Value.string t) rfl (by kernel_rfl) (by kernel_rfl) (by kernel_rfl) (fun _ _ _ h => h) (Or.inl ⟨rfl, fun _ _ => rfl⟩) trivial ?_
    change wpAnyH _ _ _ _ _ _ _ { tmps := #[Value.slice a0 s0.length cap0, undef, Value.bool false, Value.string s, Value.string h, Value.string s, Value.bool true, Value.string t, Value.int IntKind.u8 ↑c.toNat, Value.slice a0 s0.length cap0, Value.bool false, Value.slice a0 s0.length cap0, Value.string s, Value.string s, Value.string h, Value.tuple #[Value.string s, Value.bool true], Value.string h, Value.tuple #[Value.string s, Value.bool true], Value.string s, Value.bool true, Value.tuple #[Value.string t, Value.int IntKind.u8 ↑c.toNat], Value.slice a0 s0.length cap0, Value.tuple #[Value.string t, Value.int IntKind.u8 ↑c.toNat], Value.string t, Value.int IntKind.u8 ↑c.toNat, Value.bool true, Value.bool true, Value.string s, Value.string s, Value.bool true, Value.bool true, Value.bool true, Value.string h, Value.int IntKind.i64 ↑h.size, Value.string s, Value.int IntKind.i64 ↑s.size, Value.int IntKind.i64 (2 * ↑s.size), Value.bool true, Value.bool true, Value.bool true, Value.string t, Value.int IntKind.u8 ↑c.toNat, undef, Value.int IntKind.u8 ↑c.toNat, undef, undef, undef, Value.string t, undef, undef], defers := [] } _
    clear hwr hle
    refine wpAnyH_ready (rs := [17, 19]) (by kernel_rfl) (by simp) ?_
    refine AllReadyH.cons (i := 17) rfl (fun K hK => ?za1) ?zb1
    case za1 =>
      rw [if_pos (by rfl)]
      go_simp
      refine (partsI t c m _ (by omega) (by exact HM4.out)).mono ?_
      rintro e w5 ⟨g5, cap5, rfl, hown5, hb5, hcap5⟩
      have O5 := Lib.hid hown5
      have B5 := Lib.hid hb5
      clear hown5 hb5
      refine hK.out _ _ trivial (fun _ => ?_)
      clear hK K
      change wpAnyH _ _ _ _ _ _ _ { tmps := #[Value.slice a0 s0.length cap0, undef, Value.bool false, Value.string s, Value.string h, Value.string s, Value.bool true, Value.string t, Value.int IntKind.u8 ↑c.toNat, Value.slice a0 s0.length cap0, Value.bool false, Value.slice a0 s0.length cap0, Value.string s, Value.string s, Value.string h, Value.tuple #[Value.string s, Value.bool true], Value.string h, Value.tuple #[Value.string s, Value.bool true], Value.string s, Value.bool true, Value.tuple #[Value.string t, Value.int IntKind.u8 ↑c.toNat], Value.slice a0 s0.length cap0, Value.tuple #[Value.string t, Value.int IntKind.u8 ↑c.toNat], Value.string t, Value.int IntKind.u8 ↑c.toNat, Value.bool true, Value.bool true, Value.string s, Value.string s, Value.bool true, Value.bool true, Value.bool true, Value.string h, Value.int IntKind.i64 ↑h.size, Value.string s, Value.int IntKind.i64 ↑s.size, Value.int IntKind.i64 (2 * ↑s.size), Value.bool true, Value.bool true, Value.bool true, Value.string t, Value.int IntKind.u8 ↑c.toNat, Value.slice (some { block := g5, off := 0 }) (pieces t c).length cap5, Value.int IntKind.u8 ↑c.toNat, undef, undef, undef, Value.string t, undef, undef], defers := [] } _
      refine wpAnyH_ready (rs := [19]) (by kernel_rfl) (by simp) ?_
      refine AllReadyH.cons (i := 19) rfl (fun K hK => ?za2) ?zb2
      case zb2 => exact AllReadyH.nil
      rw [if_pos (by rfl)]
      go_simp
      refine hK.out _ _ trivial (fun _ => ?_)
      clear hK K
      change wpAnyH _ _ _ _ _ _ _ { tmps := #[Value.slice a0 s0.length cap0, undef, Value.bool false, Value.string s, Value.string h, Value.string s, Value.bool true, Value.string t, Value.int IntKind.u8 ↑c.toNat, Value.slice a0 s0.length cap0, Value.bool false, Value.slice a0 s0.length cap0, Value.string s, Value.string s, Value.string h, Value.tuple #[Value.string s, Value.bool true], Value.string h, Value.tuple #[Value.string s, Value.bool true], Value.string s, Value.bool true, Value.tuple #[Value.string t, Value.int IntKind.u8 ↑c.toNat], Value.slice a0 s0.length cap0, Value.tuple #[Value.string t, Value.int IntKind.u8 ↑c.toNat], Value.string t, Value.int IntKind.u8 ↑c.toNat, Value.bool true, Value.bool true, Value.string s, Value.string s, Value.bool true, Value.bool true, Value.bool true, Value.string h, Value.int IntKind.i64 ↑h.size, Value.string s, Value.int IntKind.i64 ↑s.size, Value.int IntKind.i64 (2 * ↑s.size), Value.bool true, Value.bool true, Value.bool true, Value.string t, Value.int IntKind.u8 ↑c.toNat, Value.slice (some { block := g5, off := 0 }) (pieces t c).length cap5, Value.int IntKind.u8 ↑c.toNat, Value.slice (some { block := w5.heap.size, off := 0 }) 1 1, undef, undef, Value.string t, undef, undef], defers := [] } _
      refine wpAnyH_ready (rs := [20]) (by kernel_rfl) (by simp) ?_
      refine AllReadyH.cons (i := 20) rfl (fun K hK => ?za3) ?zb3
      case zb3 => exact AllReadyH.nil
      have hcc := hcv _ _ (cell_lit w5 c)
      rw [if_pos (by rfl)]
      go_simp
      clear hcc
      refine hK.out _ _ trivial (fun _ => ?_)
      clear hK K
      change wpAnyH _ _ _ _ _ _ _ { tmps := #[Value.slice a0 s0.length cap0, undef, Value.bool false, Value.string s, Value.string h, Value.string s, Value.bool true, Value.string t, Value.int IntKind.u8 ↑c.toNat, Value.slice a0 s0.length cap0, Value.bool false, Value.slice a0 s0.length cap0, Value.string s, Value.string s, Value.string h, Value.tuple #[Value.string s, Value.bool true], Value.string h, Value.tuple #[Value.string s, Value.bool true], Value.string s, Value.bool true, Value.tuple #[Value.string t, Value.int IntKind.u8 ↑c.toNat], Value.slice a0 s0.length cap0, Value.tuple #[Value.string t, Value.int IntKind.u8 ↑c.toNat], Value.string t, Value.int IntKind.u8 ↑c.toNat, Value.bool true, Value.bool true, Value.string s, Value.string s, Value.bool true, Value.bool true, Value.bool true, Value.string h, Value.int IntKind.i64 ↑h.size, Value.string s, Value.int IntKind.i64 ↑s.size, Value.int IntKind.i64 (2 * ↑s.size), Value.bool true, Value.bool true, Value.bool true, Value.string t, Value.int IntKind.u8 ↑c.toNat, Value.slice (some { block := g5, off := 0 }) (pieces t c).length cap5, Value.int IntKind.u8 ↑c.toNat, Value.slice (some { block := w5.heap.size, off := 0 }) 1 1, Value.string { data := #[c] }, undef, Value.string t, undef, undef], defers := [] } _
      refine wpAnyH_ready (rs := [21]) (by kernel_rfl) (by simp) ?_
      refine AllReadyH.cons (i := 21) rfl (fun K hK => ?za4) ?zb4
      case zb4 => exact AllReadyH.nil
      rw [if_pos (by rfl)]
      go_simp
      refine (joinBack _ t c cap5 _ htz (by exact Row.own (O5.out.alloc _)) hcap5).mono ?_
      rintro e w6 ⟨rfl, hb6⟩
      have B6 : Hid (Below w.heap.size w w6) := (B4.out.drew.trans (B5.out.mono B4.out.size)).trans (((Below.refl _ _).alloc (Nat.le_trans B4.out.size B5.out.size) _).trans (hb6.mono (by have := B4.out.size; have := B5.out.size; simp at *; omega)))
      clear hb6 B5 O5 B4
      refine hK.out _ _ trivial (fun _ => ?_)
      clear hK K
      change wpAnyH _ _ _ _ _ _ _ { tmps := #[Value.slice a0 s0.length cap0, undef, Value.bool false, Value.string s, Value.string h, Value.string s, Value.bool true, Value.string t, Value.int IntKind.u8 ↑c.toNat, Value.slice a0 s0.length cap0, Value.bool false, Value.slice a0 s0.length cap0, Value.string s, Value.string s, Value.string h, Value.tuple #[Value.string s, Value.bool true], Value.string h, Value.tuple #[Value.string s, Value.bool true], Value.string s, Value.bool true, Value.tuple #[Value.string t, Value.int IntKind.u8 ↑c.toNat], Value.slice a0 s0.length cap0, Value.tuple #[Value.string t, Value.int IntKind.u8 ↑c.toNat], Value.string t, Value.int IntKind.u8 ↑c.toNat, Value.bool true, Value.bool true, Value.string s, Value.string s, Value.bool true, Value.bool true, Value.bool true, Value.string h, Value.int IntKind.i64 ↑h.size, Value.string s, Value.int IntKind.i64 ↑s.size, Value.int IntKind.i64 (2 * ↑s.size), Value.bool true, Value.bool true, Value.bool true, Value.string t, Value.int IntKind.u8 ↑c.toNat, Value.slice (some { block := g5, off := 0 }) (pieces t c).length cap5, Value.int IntKind.u8 ↑c.toNat, Value.slice (some { block := w5.heap.size, off := 0 }) 1 1, Value.string { data := #[c] }, Value.string t, Value.string t, undef, undef], defers := [] } _
      refine wpAnyH_take (i := 23) (v := Value.bool true) rfl (by kernel_rfl) (by kernel_rfl) (by kernel_rfl) (fun _ _ _ h => h) (Or.inl ⟨rfl, by intro w _; go_simp⟩) trivial ?_
      change wpAnyH _ _ _ _ _ _ _ { tmps := #[Value.slice a0 s0.length cap0, undef, Value.bool false, Value.string s, Value.string h, Value.string s, Value.bool true, Value.string t, Value.int IntKind.u8 ↑c.toNat, Value.slice a0 s0.length cap0, Value.bool false, Value.slice a0 s0.length cap0, Value.string s, Value.string s, Value.string h, Value.tuple #[Value.string s, Value.bool true], Value.string h, Value.tuple #[Value.string s, Value.bool true], Value.string s, Value.bool true, Value.tuple #[Value.string t, Value.int IntKind.u8 ↑c.toNat], Value.slice a0 s0.length cap0, Value.tuple #[Value.string t, Value.int IntKind.u8 ↑c.toNat], Value.string t, Value.int IntKind.u8 ↑c.toNat, Value.bool true, Value.bool true, Value.string s, Value.string s, Value.bool true, Value.bool true, Value.bool true, Value.string h, Value.int IntKind.i64 ↑h.size, Value.string s, Value.int IntKind.i64 ↑s.size, Value.int IntKind.i64 (2 * ↑s.size), Value.bool true, Value.bool true, Value.bool true, Value.string t, Value.int IntKind.u8 ↑c.toNat, Value.slice (some { block := g5, off := 0 }) (pieces t c).length cap5, Value.int IntKind.u8 ↑c.toNat, Value.slice (some { block := w5.heap.size, off := 0 }) 1 1, Value.string { data := #[c] }, Value.string t, Value.string t, Value.bool true, undef], defers := [] } _
      refine wpAnyH_take (i := 24) (v := Value.bool true) rfl (by kernel_rfl) (by kernel_rfl) (by kernel_rfl) (fun _ _ _ h => h) (Or.inl ⟨rfl, fun _ _ => rfl⟩) trivial ?_
      change wpAnyH _ _ _ _ _ _ _ { tmps := #[Value.slice a0 s0.length cap0, undef, Value.bool false, Value.string s, Value.string h, Value.string s, Value.bool true, Value.string t, Value.int IntKind.u8 ↑c.toNat, Value.slice a0 s0.length cap0, Value.bool false, Value.slice a0 s0.length cap0, Value.string s, Value.string s, Value.string h, Value.tuple #[Value.string s, Value.bool true], Value.string h, Value.tuple #[Value.string s, Value.bool true], Value.string s, Value.bool true, Value.tuple #[Value.string t, Value.int IntKind.u8 ↑c.toNat], Value.slice a0 s0.length cap0, Value.tuple #[Value.string t, Value.int IntKind.u8 ↑c.toNat], Value.string t, Value.int IntKind.u8 ↑c.toNat, Value.bool true, Value.bool true, Value.string s, Value.string s, Value.bool true, Value.bool true, Value.bool true, Value.string h, Value.int IntKind.i64 ↑h.size, Value.string s, Value.int IntKind.i64 ↑s.size, Value.int IntKind.i64 (2 * ↑s.size), Value.bool true, Value.bool true, Value.bool true, Value.string t, Value.int IntKind.u8 ↑c.toNat, Value.slice (some { block := g5, off := 0 }) (pieces t c).length cap5, Value.int IntKind.u8 ↑c.toNat, Value.slice (some { block := w5.heap.size, off := 0 }) 1 1, Value.string { data := #[c] }, Value.string t, Value.string t, Value.bool true, Value.bool true], defers := [] } _
      refine wpAnyH_take (i := 25) (v := Value.bool true) rfl (by kernel_rfl) (by kernel_rfl) (by kernel_rfl) (fun _ _ _ h => h) (Or.inl ⟨rfl, fun _ _ => rfl⟩) trivial ?_
      change wpAnyH _ _ _ _ _ _ _ { tmps := #[Value.slice a0 s0.length cap0, undef, Value.bool true, Value.string s, Value.string h, Value.string s, Value.bool true, Value.string t, Value.int IntKind.u8 ↑c.toNat, Value.slice a0 s0.length cap0, Value.bool false, Value.slice a0 s0.length cap0, Value.string s, Value.string s, Value.string h, Value.tuple #[Value.string s, Value.bool true], Value.string h, Value.tuple #[Value.string s, Value.bool true], Value.string s, Value.bool true, Value.tuple #[Value.string t, Value.int IntKind.u8 ↑c.toNat], Value.slice a0 s0.length cap0, Value.tuple #[Value.string t, Value.int IntKind.u8 ↑c.toNat], Value.string t, Value.int IntKind.u8 ↑c.toNat, Value.bool true, Value.bool true, Value.string s, Value.string s, Value.bool true, Value.bool true, Value.bool true, Value.string h, Value.int IntKind.i64 ↑h.size, Value.string s, Value.int IntKind.i64 ↑s.size, Value.int IntKind.i64 (2 * ↑s.size), Value.bool true, Value.bool true, Value.bool true, Value.string t, Value.int IntKind.u8 ↑c.toNat, Value.slice (some { block := g5, off := 0 }) (pieces t c).length cap5, Value.int IntKind.u8 ↑c.toNat, Value.slice (some { block := w5.heap.size, off := 0 }) 1 1, Value.string { data := #[c] }, Value.string t, Value.string t, Value.bool true, Value.bool true], defers := [] } _
      refine wpAnyH_done (by kernel_rfl) ?_ _
      refine NoPanic.normal ?_
      go_wp2_with fail
      go_ret
      exact ⟨rfl, B6.out⟩
    case zb1 =>
      refine AllReadyH.cons (i := 19) rfl (fun K hK => ?za5) ?zb5
      case zb5 => exact AllReadyH.nil
      rw [if_pos (by rfl)]
      go_simp
      refine hK.out _ _ trivial (fun _ => ?_)
      clear hK K
      change wpAnyH _ _ _ _ _ _ _ { tmps := #[Value.slice a0 s0.length cap0, undef, Value.bool false, Value.string s, Value.string h, Value.string s, Value.bool true, Value.string t, Value.int IntKind.u8 ↑c.toNat, Value.slice a0 s0.length cap0, Value.bool false, Value.slice a0 s0.length cap0, Value.string s, Value.string s, Value.string h, Value.tuple #[Value.string s, Value.bool true], Value.string h, Value.tuple #[Value.string s, Value.bool true], Value.string s, Value.bool true, Value.tuple #[Value.string t, Value.int IntKind.u8 ↑c.toNat], Value.slice a0 s0.length cap0, Value.tuple #[Value.string t, Value.int IntKind.u8 ↑c.toNat], Value.string t, Value.int IntKind.u8 ↑c.toNat, Value.bool true, Value.bool true, Value.string s, Value.string s, Value.bool true, Value.bool true, Value.bool true, Value.string h, Value.int IntKind.i64 ↑h.size, Value.string s, Value.int IntKind.i64 ↑s.size, Value.int IntKind.i64 (2 * ↑s.size), Value.bool true, Value.bool true, Value.bool true, Value.string t, Value.int IntKind.u8 ↑c.toNat, undef, Value.int IntKind.u8 ↑c.toNat, Value.slice (some { block := w4.heap.size, off := 0 }) 1 1, undef, undef, Value.string t, undef, undef], defers := [] } _
      obtain ⟨W, hW⟩ : ∃ W, W = (w4.alloc (Obj.cells #[Value.int IntKind.u8 ↑c.toNat] 5)).drew := ⟨_, rfl⟩
      have hWc : W.cell? ⟨w4.heap.size, 0, none⟩ = some (.int .u8 c.toNat) := by rw [hW]; exact cell_lit w4 c
      have hWm : W.cell? ⟨0, 0, none⟩ = some (.int .i64 m) := by rw [hW]; exact (World.cell?_alloc_past _ _ _ hlt4).trans HM4.out
      have hWl : w4.heap.size < W.heap.size := by rw [hW]; show w4.heap.size < (w4.alloc _).heap.size; simp
      have BW : Hid (Below w.heap.size w W) := by show Below _ _ _; rw [hW]; exact (B4.out.alloc B4.out.size _).drew
      rw [← hW]
      have HWc := Lib.hid hWc
      have HWm := Lib.hid hWm
      clear hW hWc hWm B4 HM4
      refine wpAnyH_ready (rs := [17, 20]) (by kernel_rfl) (by simp) ?_
      refine AllReadyH.cons (i := 17) rfl (fun K hK => ?za6) ?zb6
      case za6 =>
        rw [if_pos (by rfl)]
        go_simp
        refine (partsI t c m _ (by omega) (by exact HWm.out)).mono ?_
        rintro e w5 ⟨g5, cap5, rfl, hown5, hb5, hcap5⟩
        have O5 := Lib.hid hown5
        have B5 := Lib.hid hb5
        clear hown5 hb5
        refine hK.out _ _ trivial (fun _ => ?_)
        clear hK K
        change wpAnyH _ _ _ _ _ _ _ { tmps := #[Value.slice a0 s0.length cap0, undef, Value.bool false, Value.string s, Value.string h, Value.string s, Value.bool true, Value.string t, Value.int IntKind.u8 ↑c.toNat, Value.slice a0 s0.length cap0, Value.bool false, Value.slice a0 s0.length cap0, Value.string s, Value.string s, Value.string h, Value.tuple #[Value.string s, Value.bool true], Value.string h, Value.tuple #[Value.string s, Value.bool true], Value.string s, Value.bool true, Value.tuple #[Value.string t, Value.int IntKind.u8 ↑c.toNat], Value.slice a0 s0.length cap0, Value.tuple #[Value.string t, Value.int IntKind.u8 ↑c.toNat], Value.string t, Value.int IntKind.u8 ↑c.toNat, Value.bool true, Value.bool true, Value.string s, Value.string s, Value.bool true, Value.bool true, Value.bool true, Value.string h, Value.int IntKind.i64 ↑h.size, Value.string s, Value.int IntKind.i64 ↑s.size, Value.int IntKind.i64 (2 * ↑s.size), Value.bool true, Value.bool true, Value.bool true, Value.string t, Value.int IntKind.u8 ↑c.toNat, Value.slice (some { block := g5, off := 0 }) (pieces t c).length cap5, Value.int IntKind.u8 ↑c.toNat, Value.slice (some { block := w4.heap.size, off := 0 }) 1 1, undef, undef, Value.string t, undef, undef], defers := [] } _
        refine wpAnyH_ready (rs := [20]) (by kernel_rfl) (by simp) ?_
        refine AllReadyH.cons (i := 20) rfl (fun K hK => ?za7) ?zb7
        case zb7 => exact AllReadyH.nil
        have hcc := hcv _ _ ((B5.out.cell (p := ⟨w4.heap.size, 0, none⟩) hWl).trans HWc.out)
        rw [if_pos (by rfl)]
        go_simp
        clear hcc
        refine hK.out _ _ trivial (fun _ => ?_)
        clear hK K
        change wpAnyH _ _ _ _ _ _ _ { tmps := #[Value.slice a0 s0.length cap0, undef, Value.bool false, Value.string s, Value.string h, Value.string s, Value.bool true, Value.string t, Value.int IntKind.u8 ↑c.toNat, Value.slice a0 s0.length cap0, Value.bool false, Value.slice a0 s0.length cap0, Value.string s, Value.string s, Value.string h, Value.tuple #[Value.string s, Value.bool true], Value.string h, Value.tuple #[Value.string s, Value.bool true], Value.string s, Value.bool true, Value.tuple #[Value.string t, Value.int IntKind.u8 ↑c.toNat], Value.slice a0 s0.length cap0, Value.tuple #[Value.string t, Value.int IntKind.u8 ↑c.toNat], Value.string t, Value.int IntKind.u8 ↑c.toNat, Value.bool true, Value.bool true, Value.string s, Value.string s, Value.bool true, Value.bool true, Value.bool true, Value.string h, Value.int IntKind.i64 ↑h.size, Value.string s, Value.int IntKind.i64 ↑s.size, Value.int IntKind.i64 (2 * ↑s.size), Value.bool true, Value.bool true, Value.bool true, Value.string t, Value.int IntKind.u8 ↑c.toNat, Value.slice (some { block := g5, off := 0 }) (pieces t c).length cap5, Value.int IntKind.u8 ↑c.toNat, Value.slice (some { block := w4.heap.size, off := 0 }) 1 1, Value.string { data := #[c] }, undef, Value.string t, undef, undef], defers := [] } _
        refine wpAnyH_ready (rs := [21]) (by kernel_rfl) (by simp) ?_
        refine AllReadyH.cons (i := 21) rfl (fun K hK => ?za8) ?zb8
        case zb8 => exact AllReadyH.nil
        rw [if_pos (by rfl)]
        go_simp
        refine (joinBack _ t c cap5 _ htz (by exact Row.own O5.out) hcap5).mono ?_
        rintro e w6 ⟨rfl, hb6⟩
        have B6 : Hid (Below w.heap.size w w6) := (BW.out.trans (B5.out.mono BW.out.size)).trans (hb6.mono (Nat.le_trans BW.out.size B5.out.size))
        clear hb6 B5 O5 BW HWc HWm
        refine hK.out _ _ trivial (fun _ => ?_)
        clear hK K
        change wpAnyH _ _ _ _ _ _ _ { tmps := #[Value.slice a0 s0.length cap0, undef, Value.bool false, Value.string s, Value.string h, Value.string s, Value.bool true, Value.string t, Value.int IntKind.u8 ↑c.toNat, Value.slice a0 s0.length cap0, Value.bool false, Value.slice a0 s0.length cap0, Value.string s, Value.string s, Value.string h, Value.tuple #[Value.string s, Value.bool true], Value.string h, Value.tuple #[Value.string s, Value.bool true], Value.string s, Value.bool true, Value.tuple #[Value.string t, Value.int IntKind.u8 ↑c.toNat], Value.slice a0 s0.length cap0, Value.tuple #[Value.string t, Value.int IntKind.u8 ↑c.toNat], Value.string t, Value.int IntKind.u8 ↑c.toNat, Value.bool true, Value.bool true, Value.string s, Value.string s, Value.bool true, Value.bool true, Value.bool true, Value.string h, Value.int IntKind.i64 ↑h.size, Value.string s, Value.int IntKind.i64 ↑s.size, Value.int IntKind.i64 (2 * ↑s.size), Value.bool true, Value.bool true, Value.bool true, Value.string t, Value.int IntKind.u8 ↑c.toNat, Value.slice (some { block := g5, off := 0 }) (pieces t c).length cap5, Value.int IntKind.u8 ↑c.toNat, Value.slice (some { block := w4.heap.size, off := 0 }) 1 1, Value.string { data := #[c] }, Value.string t, Value.string t, undef, undef], defers := [] } _
        refine wpAnyH_take (i := 23) (v := Value.bool true) rfl (by kernel_rfl) (by kernel_rfl) (by kernel_rfl) (fun _ _ _ h => h) (Or.inl ⟨rfl, by intro w _; go_simp⟩) trivial ?_
        change wpAnyH _ _ _ _ _ _ _ { tmps := #[Value.slice a0 s0.length cap0, undef, Value.bool false, Value.string s, Value.string h, Value.string s, Value.bool true, Value.string t, Value.int IntKind.u8 ↑c.toNat, Value.slice a0 s0.length cap0, Value.bool false, Value.slice a0 s0.length cap0, Value.string s, Value.string s, Value.string h, Value.tuple #[Value.string s, Value.bool true], Value.string h, Value.tuple #[Value.string s, Value.bool true], Value.string s, Value.bool true, Value.tuple #[Value.string t, Value.int IntKind.u8 ↑c.toNat], Value.slice a0 s0.length cap0, Value.tuple #[Value.string t, Value.int IntKind.u8 ↑c.toNat], Value.string t, Value.int IntKind.u8 ↑c.toNat, Value.bool true, Value.bool true, Value.string s, Value.string s, Value.bool true, Value.bool true, Value.bool true, Value.string h, Value.int IntKind.i64 ↑h.size, Value.string s, Value.int IntKind.i64 ↑s.size, Value.int IntKind.i64 (2 * ↑s.size), Value.bool true, Value.bool true, Value.bool true, Value.string t, Value.int IntKind.u8 ↑c.toNat, Value.slice (some { block := g5, off := 0 }) (pieces t c).length cap5, Value.int IntKind.u8 ↑c.toNat, Value.slice (some { block := w4.heap.size, off := 0 }) 1 1, Value.string { data := #[c] }, Value.string t, Value.string t, Value.bool true, undef], defers := [] } _
        refine wpAnyH_take (i := 24) (v := Value.bool true) rfl (by kernel_rfl) (by kernel_rfl) (by kernel_rfl) (fun _ _ _ h => h) (Or.inl ⟨rfl, fun _ _ => rfl⟩) trivial ?_
        change wpAnyH _ _ _ _ _ _ _ { tmps := #[Value.slice a0 s0.length cap0, undef, Value.bool false, Value.string s, Value.string h, Value.string s, Value.bool true, Value.string t, Value.int IntKind.u8 ↑c.toNat, Value.slice a0 s0.length cap0, Value.bool false, Value.slice a0 s0.length cap0, Value.string s, Value.string s, Value.string h, Value.tuple #[Value.string s, Value.bool true], Value.string h, Value.tuple #[Value.string s, Value.bool true], Value.string s, Value.bool true, Value.tuple #[Value.string t, Value.int IntKind.u8 ↑c.toNat], Value.slice a0 s0.length cap0, Value.tuple #[Value.string t, Value.int IntKind.u8 ↑c.toNat], Value.string t, Value.int IntKind.u8 ↑c.toNat, Value.bool true, Value.bool true, Value.string s, Value.string s, Value.bool true, Value.bool true, Value.bool true, Value.string h, Value.int IntKind.i64 ↑h.size, Value.string s, Value.int IntKind.i64 ↑s.size, Value.int IntKind.i64 (2 * ↑s.size), Value.bool true, Value.bool true, Value.bool true, Value.string t, Value.int IntKind.u8 ↑c.toNat, Value.slice (some { block := g5, off := 0 }) (pieces t c).length cap5, Value.int IntKind.u8 ↑c.toNat, Value.slice (some { block := w4.heap.size, off := 0 }) 1 1, Value.string { data := #[c] }, Value.string t, Value.string t, Value.bool true, Value.bool true], defers := [] } _
        refine wpAnyH_take (i := 25) (v := Value.bool true) rfl (by kernel_rfl) (by kernel_rfl) (by kernel_rfl) (fun _ _ _ h => h) (Or.inl ⟨rfl, fun _ _ => rfl⟩) trivial ?_
        change wpAnyH _ _ _ _ _ _ _ { tmps := #[Value.slice a0 s0.length cap0, undef, Value.bool true, Value.string s, Value.string h, Value.string s, Value.bool true, Value.string t, Value.int IntKind.u8 ↑c.toNat, Value.slice a0 s0.length cap0, Value.bool false, Value.slice a0 s0.length cap0, Value.string s, Value.string s, Value.string h, Value.tuple #[Value.string s, Value.bool true], Value.string h, Value.tuple #[Value.string s, Value.bool true], Value.string s, Value.bool true, Value.tuple #[Value.string t, Value.int IntKind.u8 ↑c.toNat], Value.slice a0 s0.length cap0, Value.tuple #[Value.string t, Value.int IntKind.u8 ↑c.toNat], Value.string t, Value.int IntKind.u8 ↑c.toNat, Value.bool true, Value.bool true, Value.string s, Value.string s, Value.bool true, Value.bool true, Value.bool true, Value.string h, Value.int IntKind.i64 ↑h.size, Value.string s, Value.int IntKind.i64 ↑s.size, Value.int IntKind.i64 (2 * ↑s.size), Value.bool true, Value.bool true, Value.bool true, Value.string t, Value.int IntKind.u8 ↑c.toNat, Value.slice (some { block := g5, off := 0 }) (pieces t c).length cap5, Value.int IntKind.u8 ↑c.toNat, Value.slice (some { block := w4.heap.size, off := 0 }) 1 1, Value.string { data := #[c] }, Value.string t, Value.string t, Value.bool true, Value.bool true], defers := [] } _
        refine wpAnyH_done (by kernel_rfl) ?_ _
        refine NoPanic.normal ?_
        go_wp2_with fail
        go_ret
        exact ⟨rfl, B6.out⟩
      case zb6 =>
        refine AllReadyH.cons (i := 20) rfl (fun K hK => ?za9) ?zb9
        case zb9 => exact AllReadyH.nil
        have hcc := hcv _ _ (HWc.out)
        rw [if_pos (by rfl)]
        go_simp
        clear hcc
        refine hK.out _ _ trivial (fun _ => ?_)
        clear hK K
        change wpAnyH _ _ _ _ _ _ _ { tmps := #[Value.slice a0 s0.length cap0, undef, Value.bool false, Value.string s, Value.string h, Value.string s, Value.bool true, Value.string t, Value.int IntKind.u8 ↑c.toNat, Value.slice a0 s0.length cap0, Value.bool false, Value.slice a0 s0.length cap0, Value.string s, Value.string s, Value.string h, Value.tuple #[Value.string s, Value.bool true], Value.string h, Value.tuple #[Value.string s, Value.bool true], Value.string s, Value.bool true, Value.tuple #[Value.string t, Value.int IntKind.u8 ↑c.toNat], Value.slice a0 s0.length cap0, Value.tuple #[Value.string t, Value.int IntKind.u8 ↑c.toNat], Value.string t, Value.int IntKind.u8 ↑c.toNat, Value.bool true, Value.bool true, Value.string s, Value.string s, Value.bool true, Value.bool true, Value.bool true, Value.string h, Value.int IntKind.i64 ↑h.size, Value.string s, Value.int IntKind.i64 ↑s.size, Value.int IntKind.i64 (2 * ↑s.size), Value.bool true, Value.bool true, Value.bool true, Value.string t, Value.int IntKind.u8 ↑c.toNat, undef, Value.int IntKind.u8 ↑c.toNat, Value.slice (some { block := w4.heap.size, off := 0 }) 1 1, Value.string { data := #[c] }, undef, Value.string t, undef, undef], defers := [] } _
        refine wpAnyH_ready (rs := [17]) (by kernel_rfl) (by simp) ?_
        refine AllReadyH.cons (i := 17) rfl (fun K hK => ?za10) ?zb10
        case zb10 => exact AllReadyH.nil
        rw [if_pos (by rfl)]
        go_simp
        refine (partsI t c m _ (by omega) (by exact HWm.out)).mono ?_
        rintro e w5 ⟨g5, cap5, rfl, hown5, hb5, hcap5⟩
        have O5 := Lib.hid hown5
        have B5 := Lib.hid hb5
        clear hown5 hb5
        refine hK.out _ _ trivial (fun _ => ?_)
        clear hK K
        change wpAnyH _ _ _ _ _ _ _ { tmps := #[Value.slice a0 s0.length cap0, undef, Value.bool false, Value.string s, Value.string h, Value.string s, Value.bool true, Value.string t, Value.int IntKind.u8 ↑c.toNat, Value.slice a0 s0.length cap0, Value.bool false, Value.slice a0 s0.length cap0, Value.string s, Value.string s, Value.string h, Value.tuple #[Value.string s, Value.bool true], Value.string h, Value.tuple #[Value.string s, Value.bool true], Value.string s, Value.bool true, Value.tuple #[Value.string t, Value.int IntKind.u8 ↑c.toNat], Value.slice a0 s0.length cap0, Value.tuple #[Value.string t, Value.int IntKind.u8 ↑c.toNat], Value.string t, Value.int IntKind.u8 ↑c.toNat, Value.bool true, Value.bool true, Value.string s, Value.string s, Value.bool true, Value.bool true, Value.bool true, Value.string h, Value.int IntKind.i64 ↑h.size, Value.string s, Value.int IntKind.i64 ↑s.size, Value.int IntKind.i64 (2 * ↑s.size), Value.bool true, Value.bool true, Value.bool true, Value.string t, Value.int IntKind.u8 ↑c.toNat, Value.slice (some { block := g5, off := 0 }) (pieces t c).length cap5, Value.int IntKind.u8 ↑c.toNat, Value.slice (some { block := w4.heap.size, off := 0 }) 1 1, Value.string { data := #[c] }, undef, Value.string t, undef, undef], defers := [] } _
        refine wpAnyH_ready (rs := [21]) (by kernel_rfl) (by simp) ?_
        refine AllReadyH.cons (i := 21) rfl (fun K hK => ?za11) ?zb11
        case zb11 => exact AllReadyH.nil
        rw [if_pos (by rfl)]
        go_simp
        refine (joinBack _ t c cap5 _ htz (by exact Row.own O5.out) hcap5).mono ?_
        rintro e w6 ⟨rfl, hb6⟩
        have B6 : Hid (Below w.heap.size w w6) := (BW.out.trans (B5.out.mono BW.out.size)).trans (hb6.mono (Nat.le_trans BW.out.size B5.out.size))
        clear hb6 B5 O5 BW HWc HWm
        refine hK.out _ _ trivial (fun _ => ?_)
        clear hK K
        change wpAnyH _ _ _ _ _ _ _ { tmps := #[Value.slice a0 s0.length cap0, undef, Value.bool false, Value.string s, Value.string h, Value.string s, Value.bool true, Value.string t, Value.int IntKind.u8 ↑c.toNat, Value.slice a0 s0.length cap0, Value.bool false, Value.slice a0 s0.length cap0, Value.string s, Value.string s, Value.string h, Value.tuple #[Value.string s, Value.bool true], Value.string h, Value.tuple #[Value.string s, Value.bool true], Value.string s, Value.bool true, Value.tuple #[Value.string t, Value.int IntKind.u8 ↑c.toNat], Value.slice a0 s0.length cap0, Value.tuple #[Value.string t, Value.int IntKind.u8 ↑c.toNat], Value.string t, Value.int IntKind.u8 ↑c.toNat, Value.bool true, Value.bool true, Value.string s, Value.string s, Value.bool true, Value.bool true, Value.bool true, Value.string h, Value.int IntKind.i64 ↑h.size, Value.string s, Value.int IntKind.i64 ↑s.size, Value.int IntKind.i64 (2 * ↑s.size), Value.bool true, Value.bool true, Value.bool true, Value.string t, Value.int IntKind.u8 ↑c.toNat, Value.slice (some { block := g5, off := 0 }) (pieces t c).length cap5, Value.int IntKind.u8 ↑c.toNat, Value.slice (some { block := w4.heap.size, off := 0 }) 1 1, Value.string { data := #[c] }, Value.string t, Value.string t, undef, undef], defers := [] } _
        refine wpAnyH_take (i := 23) (v := Value.bool true) rfl (by kernel_rfl) (by kernel_rfl) (by kernel_rfl) (fun _ _ _ h => h) (Or.inl ⟨rfl, by intro w _; go_simp⟩) trivial ?_
        change wpAnyH _ _ _ _ _ _ _ { tmps := #[Value.slice a0 s0.length cap0, undef, Value.bool false, Value.string s, Value.string h, Value.string s, Value.bool true, Value.string t, Value.int IntKind.u8 ↑c.toNat, Value.slice a0 s0.length cap0, Value.bool false, Value.slice a0 s0.length cap0, Value.string s, Value.string s, Value.string h, Value.tuple #[Value.string s, Value.bool true], Value.string h, Value.tuple #[Value.string s, Value.bool true], Value.string s, Value.bool true, Value.tuple #[Value.string t, Value.int IntKind.u8 ↑c.toNat], Value.slice a0 s0.length cap0, Value.tuple #[Value.string t, Value.int IntKind.u8 ↑c.toNat], Value.string t, Value.int IntKind.u8 ↑c.toNat, Value.bool true, Value.bool true, Value.string s, Value.string s, Value.bool true, Value.bool true, Value.bool true, Value.string h, Value.int IntKind.i64 ↑h.size, Value.string s, Value.int IntKind.i64 ↑s.size, Value.int IntKind.i64 (2 * ↑s.size), Value.bool true, Value.bool true, Value.bool true, Value.string t, Value.int IntKind.u8 ↑c.toNat, Value.slice (some { block := g5, off := 0 }) (pieces t c).length cap5, Value.int IntKind.u8 ↑c.toNat, Value.slice (some { block := w4.heap.size, off := 0 }) 1 1, Value.string { data := #[c] }, Value.string t, Value.string t, Value.bool true, undef], defers := [] } _
        refine wpAnyH_take (i := 24) (v := Value.bool true) rfl (by kernel_rfl) (by kernel_rfl) (by kernel_rfl) (fun _ _ _ h => h) (Or.inl ⟨rfl, fun _ _ => rfl⟩) trivial ?_
        change wpAnyH _ _ _ _ _ _ _ { tmps := #[Value.slice a0 s0.length cap0, undef, Value.bool false, Value.string s, Value.string h, Value.string s, Value.bool true, Value.string t, Value.int IntKind.u8 ↑c.toNat, Value.slice a0 s0.length cap0, Value.bool false, Value.slice a0 s0.length cap0, Value.string s, Value.string s, Value.string h, Value.tuple #[Value.string s, Value.bool true], Value.string h, Value.tuple #[Value.string s, Value.bool true], Value.string s, Value.bool true, Value.tuple #[Value.string t, Value.int IntKind.u8 ↑c.toNat], Value.slice a0 s0.length cap0, Value.tuple #[Value.string t, Value.int IntKind.u8 ↑c.toNat], Value.string t, Value.int IntKind.u8 ↑c.toNat, Value.bool true, Value.bool true, Value.string s, Value.string s, Value.bool true, Value.bool true, Value.bool true, Value.string h, Value.int IntKind.i64 ↑h.size, Value.string s, Value.int IntKind.i64 ↑s.size, Value.int IntKind.i64 (2 * ↑s.size), Value.bool true, Value.bool true, Value.bool true, Value.string t, Value.int IntKind.u8 ↑c.toNat, Value.slice (some { block := g5, off := 0 }) (pieces t c).length cap5, Value.int IntKind.u8 ↑c.toNat, Value.slice (some { block := w4.heap.size, off := 0 }) 1 1, Value.string { data := #[c] }, Value.string t, Value.string t, Value.bool true, Value.bool true], defers := [] } _
        refine wpAnyH_take (i := 25) (v := Value.bool true) rfl (by kernel_rfl) (by kernel_rfl) (by kernel_rfl) (fun _ _ _ h => h) (Or.inl ⟨rfl, fun _ _ => rfl⟩) trivial ?_
        change wpAnyH _ _ _ _ _ _ _ { tmps := #[Value.slice a0 s0.length cap0, undef, Value.bool true, Value.string s, Value.string h, Value.string s, Value.bool true, Value.string t, Value.int IntKind.u8 ↑c.toNat, Value.slice a0 s0.length cap0, Value.bool false, Value.slice a0 s0.length cap0, Value.string s, Value.string s, Value.string h, Value.tuple #[Value.string s, Value.bool true], Value.string h, Value.tuple #[Value.string s, Value.bool true], Value.string s, Value.bool true, Value.tuple #[Value.string t, Value.int IntKind.u8 ↑c.toNat], Value.slice a0 s0.length cap0, Value.tuple #[Value.string t, Value.int IntKind.u8 ↑c.toNat], Value.string t, Value.int IntKind.u8 ↑c.toNat, Value.bool true, Value.bool true, Value.string s, Value.string s, Value.bool true, Value.bool true, Value.bool true, Value.string h, Value.int IntKind.i64 ↑h.size, Value.string s, Value.int IntKind.i64 ↑s.size, Value.int IntKind.i64 (2 * ↑s.size), Value.bool true, Value.bool true, Value.bool true, Value.string t, Value.int IntKind.u8 ↑c.toNat, Value.slice (some { block := g5, off := 0 }) (pieces t c).length cap5, Value.int IntKind.u8 ↑c.toNat, Value.slice (some { block := w4.heap.size, off := 0 }) 1 1, Value.string { data := #[c] }, Value.string t, Value.string t, Value.bool true, Value.bool true], defers := [] } _
        refine wpAnyH_done (by kernel_rfl) ?_ _
        refine NoPanic.normal ?_
        go_wp2_with fail
        go_ret
        exact ⟨rfl, B6.out⟩
  · go_enter Tryd.func4, Tryd.ntmps4
    go_wp2_with fail
    refine (big_yes _ _ _ _ (by omega) (by omega)).mono ?_
    rintro e w' ⟨rfl, rfl⟩
    go_wp2_with fail
    go_ret
    exact ⟨rfl, Below.refl _ _⟩

theorem own : ownKnob Tryd.prog.godebug = none := by kernel_rfl
theorem laidOut : laidOutB Tryd.prog = true := by kernel_rfl
/-- The list of the row. -/
abbrev laidL : List (String × DataW Unit) := [("unicode/utf8.acceptRanges", Rows.laid_unicode_utf8_acceptRanges), ("unicode/utf8.first", Rows.laid_unicode_utf8_first)]
/-- A heap in which the listed tables are laid meets the list. -/
theorem door_met (os : Os) (args : Array Value) : laidMetH Tryd.prog laidL ((World.laidAll Tryd.prog os laidL).forCall (fun _ _ => 0) ⟨#[], args, []⟩).memory := by
  rw [MakeChecks.laidMetH_plain _ _ _ (by kernel_rfl)]; exact laidMet_laidAll _ (by kernel_rfl) (by kernel_rfl)

set_option maxRecDepth 100000 in
theorem lifted (os : Os) (started : os.Started) (H : Type) (enc : TypeId × Value → H) :
    ReturnsInHanded {} Tryd.checked os 4 .any (fun w args => (Rows.fnHexSpec.pre enc Tryd.prog Tryd.f4 [] false w args ∧ laidMetH Tryd.prog laidL w) ∧ sizedMet enc Tryd.prog Tryd.f4 (OpenSpec.ofChange Rows.fnHexSpec) false w args)
      (Rows.fnHexSpec.post enc Tryd.prog Tryd.f4 false true false false) := by
  refine returns_shaped (C := Tryd.checked) (X := fun w _ => laidMetH Tryd.prog laidL w) (fun _ _ _ hh h => h.of_heap hh) own started (by kernel_rfl) Tryd.func4
    (ChangeSpec.witness_shaped (enc := enc) (C := Tryd.checked) (os := os) (X := fun w _ => laidMetH Tryd.prog laidL w) false (World.laidAll Tryd.prog os laidL) #[.slice none 0 0] 8 (World.laidAll_os _ _ _) (World.shaped_of_ZipB (by kernel_rfl) (by kernel_rfl)) (by kernel_rfl) (by kernel_rfl) (by kernel_rfl) (door_met os _)) ?_
  intro W base args ds gs before hval0 hW _ hsh
  have hval : ∀ (j : Nat) t v, Tryd.f4.params[j]? = some t → args[j]? = some v → Value.okWide Tryd.prog W .any base t v := hval0
  have hW' := hW
  obtain ⟨p, q, hA0, hV, rfl, _, _⟩ := hW
  have hA : DataW.TrodAll enc Tryd.prog W 0 (fun _ => true) true Tryd.f4.params.toList args.toList ds p := hA0
  rw [Tryd.params4] at hA hval
  obtain ⟨v0, vs0, d0, ds0, p0, q0, hargs, rfl, rfl, h0, r0⟩ := trodAll_cons hA
  obtain ⟨rfl, rfl, rfl⟩ := trodAll_nil r0
  obtain rfl : args = #[v0] := by cases args; simp_all
  obtain ⟨rfl, rfl⟩ := trodVars_none hV
  obtain ⟨a0, len0, cap0, rfl⟩ := okWide_slice Tryd.underlying22 (hval 0 22 v0 rfl rfl)
  have k0 := h0
  have lt0 : ∀ x ∈ p0, x.block < W.heap.size := by obtain ⟨m, hm⟩ := k0; exact DataW.trod_lt m _ _ _ hm
  obtain ⟨s0, w0⟩ : ∃ bs : List UInt8, IsBytes W a0 len0 bs := by obtain ⟨fuel, hf⟩ := h0; exact openBytes Tryd.underlying22 Tryd.underlying5 (by kernel_rfl) hf
  have hT := maxLen_cell hsh
  clear hA0 hval0
  refine (walk (w := W) a0 len0 cap0 s0 w0 hT).mono fun e W' ⟨he, bel⟩ => ?_
  subst he
  exact ⟨_, rfl, _, _, _, [], _, [], hW', trodAll_mk1 (shut_bool Tryd.underlying4 _), (trodAll_cons_mk (Below.trod laidOut (by kernel_rfl) (of_decide_eq_true (by kernel_rfl)) k0 bel lt0) trodAll_mk0), rfl, bel.frame _, fun h => by cases h⟩

theorem row_holds : Rows.FnHexSaid :=
  OpenClaim.holds_of_wide 4 Tryd.f4 rfl rfl rfl rfl rfl rfl rfl ⟨rfl, rfl, rfl, rfl, rfl⟩ rfl rfl rfl rfl rfl (by kernel_rfl) Tryd.func4 (by kernel_rfl)
    (of_decide_eq_true (by kernel_rfl)) (by unfold Func.isWrapper; first | (rw [if_pos (by decide +kernel)]; kernel_rfl) | (rw [if_neg (by decide +kernel)]; exact ⟨rfl, rfl⟩))
    (fun os started H enc _ => lifted os started H enc)

theorem proved : Rows.FnHexCardSaid :=
  Claim7.holds_tied_plain_at .later [] [.data, .pinned] true (true, "ca97fc34d6b01d97925f5a745f9e7ec18e5658b93275e269d15352d3608ccb4f") false
    row_holds (fun _ h => by cases h) (by kernel_rfl) (fun _ h => by cases h) fnHex_row_tie rfl ⟨rfl, rfl⟩ (by kernel_rfl) rfl
    (fun f fn hf hfn => by
      obtain rfl : f = 4 := Option.some.inj ((show Tryd.prog.funcNamed Rows.fnHexRow.func = some 4 by kernel_rfl).symm.trans hf) |>.symm
      obtain rfl : fn = Tryd.f4 := (Option.some.inj (Tryd.func4.symm.trans hfn)).symm
      exact ⟨by kernel_rfl, fun j t ht => by
        rw [Tryd.params4] at ht
        have hm : t ∈ [22] := by simpa using Array.mem_of_getElem? ht
        have hall : ([22].all fun u => !Tryd.prog.wantsStandIn u) = true := by kernel_rfl
        exact (show Tryd.prog.wantsStandIn t = false by simpa using List.all_eq_true.1 hall t hm)⟩)
    (by kernel_rfl)
#print axioms proved

end Go.Proofs.YtbpmebpnnooidaaDoor.fnHex
