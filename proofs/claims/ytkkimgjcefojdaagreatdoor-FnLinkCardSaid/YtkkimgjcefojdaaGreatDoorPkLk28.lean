/- Texts of a proof that belong together, joined. Nothing here is a claim. -/
import Derived.Test.YtkkimgjcefojdaaGreatDoorPkLk27
import Derived.Test.YtkkimgjcefojdaaGreatDoorPkLk17
namespace Go.Proofs.YtkkimgjcefojdaaGreatDoor
open Go.RowKit Go.Lib

/-- The numbers among which l1Whole picks. -/
def wholeCs : Array Value := #[.int .i64 0, .int .i64 1, .int .i64 (-1), .int .i64 9, .int .i64 10, .int .i64 999999999999, .int .i64 1000000000000, .int .i64 9223372036854775807, .int .i64 4294967295, .int .i64 4294967296, .int .i64 65535, .int .i64 65536, .int .i64 (-9223372036854775808)]
theorem wholeCs_bd : ∀ v ∈ wholeCs.toList, ∃ x, v = .int .i64 x ∧ I64 x := by
 intro v hv
 simp only [wholeCs, List.mem_cons, List.mem_nil_iff, or_false] at hv
 unfold I64
 rcases hv with rfl | rfl | rfl | rfl | rfl | rfl | rfl | rfl | rfl | rfl | rfl | rfl | rfl <;> exact ⟨_, rfl, by decide⟩
theorem pickWhole (B g : Nat) (w : World) (hc : CurB w B g) : Calls Tryz.prog 63 #[.pointer (some ⟨g, 0, none⟩), .slice (some ⟨w.heap.size, 0, none⟩) 13 13] (w.alloc (.cells wholeCs 3)) (WholeEnd w B g) := by
 have hlt := hc.lt
 refine (l1PickInt_any B g w.heap.size _ (hc.new _) wholeCs (heap_alloc_new w _) (by omega) (by decide) (by decide) (fun v hv => (wholeCs_bd v hv).imp fun _ h => h.1)).mono ?_
 rintro e w' ⟨v, hv, rfl, h1, h2⟩
 obtain ⟨x, rfl, hx⟩ := wholeCs_bd v hv
 exact ⟨x, rfl, hx, h1, grown_tr (World.grownBy_alloc w _ _) h2⟩

set_option maxRecDepth 100000 in
set_option maxHeartbeats 1000000 in
theorem l1Whole_any (B g : Nat) (w : World) (hc : CurB w B g) : Calls Tryz.prog 98 #[.pointer (some ⟨g, 0, none⟩)] w (WholeEnd w B g) := by
 have C := Lib.hid (l1Below_pos B g w hc 3 (by omega) (by omega))
 clear hc
 go_enter Tryz.func98, Tryz.ntmps98
 go_wp2_with fail
 refine C.out.mono ?_
 rintro e w1 ⟨r, rfl, ⟨r0, r1⟩, hc1, hg1⟩
 have C1 := Lib.hid hc1
 have G1 := Lib.hid hg1
 clear hc1 hg1
 have hr : r = 0 ∨ r = 1 ∨ r = 2 := by omega
 rcases hr with rfl | rfl | rfl
 ·go_wp2_with fail
  refine (pickWhole B g w1 C1.out).mono ?_
  rintro e w2 ⟨n, rfl, hn, hc2, hg2⟩
  have N := Lib.hid hn
  have C2 := Lib.hid hc2
  have G2 := Lib.hid (grown_tr G1.out hg2)
  clear hn hc2 hg2
  go_wp2_with fail
  go_ret
  exact ⟨n, rfl, N.out, C2.out, G2.out⟩
 ·go_wp2_with fail
  refine (l1Below_pos B g w1 C1.out 1000000 (by omega) (by omega)).mono ?_
  rintro e w2 ⟨n, rfl, ⟨n0, n1⟩, hc2, hg2⟩
  have C2 := Lib.hid hc2
  have G2 := Lib.hid (grown_tr G1.out hg2)
  clear hc2 hg2
  go_wp2_with fail
  go_ret
  exact ⟨_, rfl, ⟨by omega, by omega⟩, C2.out, G2.out⟩
 ·go_wp2_with fail
  refine (l1Below_pos B g w1 C1.out 20 (by omega) (by omega)).mono ?_
  rintro e w2 ⟨n, rfl, ⟨n0, n1⟩, hc2, hg2⟩
  have C2 := Lib.hid hc2
  have G2 := Lib.hid (grown_tr G1.out hg2)
  clear hc2 hg2
  go_wp2_with fail
  go_ret
  exact ⟨_, rfl, ⟨by omega, by omega⟩, C2.out, G2.out⟩


end Go.Proofs.YtkkimgjcefojdaaGreatDoor
namespace Go.Proofs.YtkkimgjcefojdaaGreatDoor
open Go.RowKit Go.Lib

/-- The numbers among which l2Word picks. -/
def word2Cs : Array Value := #[.int .i64 0, .int .i64 1, .int .i64 255, .int .i64 256, .int .i64 65535, .int .i64 65536, .int .i64 16777215, .int .i64 4294967295, .int .i64 4294967296, .int .i64 281474976710655, .int .i64 281474976710656]
theorem word2Cs_bd : ∀ v ∈ word2Cs.toList, ∃ x, v = .int .i64 x ∧ I64 x := by
 intro v hv
 simp only [word2Cs, List.mem_cons, List.mem_nil_iff, or_false] at hv
 unfold I64
 rcases hv with rfl | rfl | rfl | rfl | rfl | rfl | rfl | rfl | rfl | rfl | rfl <;> exact ⟨_, rfl, by decide⟩
theorem pickWord2 (B g : Nat) (w : World) (hc : CurB w B g) : Calls Tryz.prog 63 #[.pointer (some ⟨g, 0, none⟩), .slice (some ⟨w.heap.size, 0, none⟩) 11 11] (w.alloc (.cells word2Cs 3)) (WholeEnd w B g) :=
 pickNew B g w hc word2Cs (by decide) (by decide) word2Cs_bd

set_option maxRecDepth 100000 in
set_option maxHeartbeats 1000000 in
theorem l2Word_any (B g : Nat) (w : World) (hc : CurB w B g) : Calls Tryz.prog 61 #[.pointer (some ⟨g, 0, none⟩)] w (WholeEnd w B g) := by
 have C := Lib.hid (l1Below_pos B g w hc 3 (by omega) (by omega))
 clear hc
 go_enter Tryz.func61, Tryz.ntmps61
 go_wp2_with fail
 refine C.out.mono ?_
 rintro e w1 ⟨r, rfl, ⟨r0, r1⟩, hc1, hg1⟩
 have C1 := Lib.hid hc1
 have G1 := Lib.hid hg1
 clear hc1 hg1
 have hr : r = 0 ∨ r = 1 ∨ r = 2 := by omega
 rcases hr with rfl | rfl | rfl
 ·go_wp2_with fail
  refine (l1Whole_any B g w1 C1.out).mono ?_
  rintro e w2 ⟨n, rfl, hn, hc2, hg2⟩
  have N := Lib.hid hn
  have C2 := Lib.hid hc2
  have G2 := Lib.hid (grown_tr G1.out hg2)
  clear hn hc2 hg2
  go_wp2_with fail
  go_ret
  exact ⟨n, rfl, N.out, C2.out, G2.out⟩
 ·go_wp2_with fail
  refine (pickWord2 B g w1 C1.out).mono ?_
  rintro e w2 ⟨n, rfl, hn, hc2, hg2⟩
  have N := Lib.hid hn
  have C2 := Lib.hid hc2
  have G2 := Lib.hid (grown_tr G1.out hg2)
  clear hn hc2 hg2
  go_wp2_with fail
  go_ret
  exact ⟨n, rfl, N.out, C2.out, G2.out⟩
 ·go_wp2_with fail
  refine (l1Below_pos B g w1 C1.out 65536 (by omega) (by omega)).mono ?_
  rintro e w2 ⟨n, rfl, ⟨n0, n1⟩, hc2, hg2⟩
  have C2 := Lib.hid hc2
  have G2 := Lib.hid (grown_tr G1.out hg2)
  clear hc2 hg2
  go_wp2_with fail
  go_ret
  exact ⟨_, rfl, ⟨by omega, by omega⟩, C2.out, G2.out⟩
end Go.Proofs.YtkkimgjcefojdaaGreatDoor
namespace Go.Proofs.YtkkimgjcefojdaaGreatDoor
open Go.RowKit Go.Lib

/-- What l1Bytes hands back: n bytes in a new row. -/
def BytesEnd (w : World) (B g n : Nat) (e : Ending) (w' : World) : Prop :=
 ∃ (v : Value) (l : List UInt8), e = .returned v ∧ l.length = n ∧ w'.ownsRow w.heap.size 5 1 v n (byteCells l) ∧ CurB w' B g ∧ w.grownBy w' (some g)

set_option maxHeartbeats 1000000 in
theorem l1Bytes_any (B g n : Nat) (w : World) (hc : CurB w B g) (hn : n ≤ 1048576) : Calls Tryz.prog 49 #[.pointer (some ⟨g, 0, none⟩), .int .i64 n] w (BytesEnd w B g n) := by
 obtain ⟨i0, hi, hz0, hz1, hz2⟩ := info_parts Tryz.info5
 have hglt := hc.lt
 have hBg := hc.1
 have C := Lib.hid hc
 clear hc
 go_enter Tryz.func49, Tryz.ntmps49
 go_wp2_with fail
 go_loopw [5, 6] (fun v i wr => ∃ k : Nat, k ≤ n ∧ i = .int .i64 k ∧ ∃ l : List UInt8, Hid (l.length = k) ∧ wr.ownsRow w.heap.size 5 1 v k (byteCells l) ∧ CurB wr B g ∧ w.grownBy wr (some g))
  (fun _ i _ => n - (RowKit.intOf i).toNat)
 case atStart => exact ⟨0, Nat.zero_le _, rfl, [], rfl, World.ownsRow_lit w #[] 0 (Nat.le_refl _) (by simp [maxLen]) rfl, C.out.new _, World.grownBy_alloc w _ _⟩
 case round =>
  obtain ⟨k, hk, rfl, l, hl, hown, hcur, hgr⟩ := hrel
  by_cases hlt : k < n
  ·have O := Lib.hid hown
   have K := Lib.hid hcur
   have G := Lib.hid hgr
   clear hown hcur hgr
   go_wp2_with fail
   refine (l1Byte_any B g wr K.out).mono ?_
   rintro e w1 ⟨r, rfl, ⟨r0, r1⟩, hc1, hg1⟩
   obtain ⟨c, rfl⟩ : ∃ c : UInt8, r = (c.toNat : Int) := ⟨UInt8.ofNat r.toNat, by rw [UInt8.toNat_ofNat']; omega⟩
   have hown1 := O.out.kept hg1 (.inr (fun e => by have := (O.out.lt g e).1; omega))
   have hG1 := grown_tr G.out hg1
   have hsz : w.heap.size ≤ w1.heap.size := hG1.size
   have K1 := Lib.hid hc1
   have G1 := Lib.hid hG1
   clear hc1 hg1 hG1
   go_wp2_with (at_builtin; refine wpList_append_lies _ rfl _ _ _ rfl w.heap.size 5 i0 _ 1 1 Tryz.underlying22 hi hz0 hz1 hz2 rfl (by omega) _ k _ rfl (hown1.alloc _) ⟨w1.heap.size, 0, none⟩ 1 1 [.int .u8 c.toNat] rfl rfl (World.news_of_block (cs := #[.int .u8 c.toNat]) (t := 5) (fr := (0, 0)) (heap_alloc_new w1 _)) (by simp [Value.oneCell']) (by omega) (by unfold maxLen; omega) (by omega) (by simp; omega) (w1.heap.size + 1) (by simp) ?_; intro gg cap w2 hown2 hgrow hat hlt')
   have hk2 := app_keeps K1.out hglt (Nat.le_of_lt (Nat.lt_of_le_of_lt hBg hglt)) rfl G1.out hown1 hgrow
   have O2 := Lib.hid (show w2.ownsRow w.heap.size 5 1 (.slice (some ⟨gg, 0, none⟩) (k + 1) cap) (k + 1) (byteCells (l ++ [c])) by rw [byteCells_append]; exact hown2)
   clear hown1 hown2 hgrow hat hlt'
   go_roundw
   case rel => exact ⟨k + 1, by omega, by go_num, l ++ [c], by show _ = _; rw [List.length_append, hl.out]; rfl, O2.out, hk2.1, hk2.2⟩
   case measure => simp [RowKit.intOf]; omega
  ·obtain rfl : k = n := by omega
   go_wp2_with fail
   go_ret
   exact ⟨_, l, rfl, hl.out, hown, hcur, hgr⟩

end Go.Proofs.YtkkimgjcefojdaaGreatDoor
namespace Go.Proofs.YtkkimgjcefojdaaGreatDoor
open Go.RowKit Go.Lib

/-- A coin. -/
theorem l1Once_any (B g : Nat) (w : World) (hc : CurB w B g) (n : Int) (h0 : 0 < n) (h1 : n ≤ 4000000000) :
  Calls Tryz.prog 48 #[.pointer (some ⟨g, 0, none⟩), .int .i64 n] w fun e w' => ∃ b : Bool, e = .returned (.bool b) ∧ CurB w' B g ∧ w.grownBy w' (some g) := by
 have C := Lib.hid (l1Below_pos B g w hc n h0 h1)
 clear hc
 go_enter Tryz.func48, Tryz.ntmps48
 go_wp2_with fail
 refine C.out.mono ?_
 rintro e w1 ⟨r, rfl, ⟨r0, r1⟩, hc1, hg1⟩
 have C1 := Lib.hid hc1
 have G1 := Lib.hid hg1
 clear hc1 hg1
 go_wp2_with fail
 go_ret
 exact ⟨_, rfl, C1.out, G1.out⟩
end Go.Proofs.YtkkimgjcefojdaaGreatDoor
namespace Go.Proofs.YtkkimgjcefojdaaGreatDoor
open Go.RowKit Go.Lib

set_option maxRecDepth 100000 in
set_option maxHeartbeats 8000000 in
theorem packTextS (s d t p i : Int) (b : ByteArray) (w : World) :
  Calls Tryz.prog 53 #[.agg #[.int .i64 s, .int .i64 d, .int .i64 t, .int .i64 p, .int .i64 i, .string b]] w fun e w' => e = .returned (.string (packText s d t p i b)) ∧ Below w.heap.size w w' := by
 have C1 := Lib.hid (packOkS s d t p i b)
 cases ho : packOk s d t p i b with
 | false =>
  rw [packText_no ho]
  rw [ho] at C1
  clear ho
  go_enter Tryz.func53, Tryz.ntmps53
  go_wp2_with fail
  refine (C1.out _).mono ?_
  rintro e w1 ⟨rfl, hb1⟩
  have B1 := Lib.hid (((Below.refl w.heap.size w).alloc (Nat.le_refl _) _).trans (hb1.mono (by simp)))
  clear hb1
  go_wp2_with fail
  go_ret
  exact ⟨rfl, B1.out⟩
 | true =>
  have hz := (packOk_all ho).2.2.2.2.2
  have eh := packHead_size ho
  rw [packText_yes ho]
  rw [ho] at C1
  have hw : IntKind.i64.wrap (20 + (b.size : Int)) = 20 + b.size := by rw [IntKind.wrap_i64]; omega
  have E : Hid (packHead (20 + b.size) i t p = ⟨#[69, 0]⟩ ++ putW (20 + b.size) 2 ++ putW i 2 ++ ⟨#[0, 0]⟩ ++ putW t 1 ++ putW p 1) := rfl
  have E2 : Hid (packTail s d = putW s 4 ++ putW d 4) := rfl
  have P1 := Lib.hid (putWordS (20 + b.size) 2)
  have P2 := Lib.hid (putWordS (i) 2)
  have P3 := Lib.hid (putWordS (t) 1)
  have P4 := Lib.hid (putWordS (p) 1)
  have P5 := Lib.hid (putWordS (s) 4)
  have P6 := Lib.hid (putWordS (d) 4)
  have zy1 := putW_le (20 + b.size) 2
  have zy2 := putW_le (i) 2
  have zy3 := putW_le (t) 1
  have zy4 := putW_le (p) 1
  have zy5 := putW_le (s) 4
  have zy6 := putW_le (d) 4
  obtain ⟨y1, hy1⟩ : ∃ y, putW (20 + b.size) 2 = y := ⟨_, rfl⟩
  rw [hy1] at P1 zy1 E
  clear hy1
  obtain ⟨y2, hy2⟩ : ∃ y, putW (i) 2 = y := ⟨_, rfl⟩
  rw [hy2] at P2 zy2 E
  clear hy2
  obtain ⟨y3, hy3⟩ : ∃ y, putW (t) 1 = y := ⟨_, rfl⟩
  rw [hy3] at P3 zy3 E
  clear hy3
  obtain ⟨y4, hy4⟩ : ∃ y, putW (p) 1 = y := ⟨_, rfl⟩
  rw [hy4] at P4 zy4 E
  clear hy4
  obtain ⟨y5, hy5⟩ : ∃ y, putW (s) 4 = y := ⟨_, rfl⟩
  rw [hy5] at P5 zy5 E2
  clear hy5
  obtain ⟨y6, hy6⟩ : ∃ y, putW (d) 4 = y := ⟨_, rfl⟩
  rw [hy6] at P6 zy6 E2
  clear hy6
  obtain ⟨H, hH⟩ : ∃ H : ByteArray, packHead (20 + b.size) i t p = H := ⟨_, rfl⟩
  obtain ⟨T, hT⟩ : ∃ T : ByteArray, packTail s d = T := ⟨_, rfl⟩
  rw [hH] at E eh
  rw [hT] at E2
  rw [hH, hT]
  clear hH hT ho
  have zH : H.size ≤ 40 := by omega
  have zT : T.size ≤ 12 := by rw [E2.out, ByteArray.size_append]; omega
  have SO := Lib.hid (sumOfS (H ++ T) (by simp only [ByteArray.size_append, eh]; omega))
  clear eh
  have P7 := Lib.hid (putWordS (sumOf (H ++ T)) 2)
  have z7 := putW_le (sumOf (H ++ T)) 2
  obtain ⟨c, hc⟩ : ∃ c, sumOf (H ++ T) = c := ⟨_, rfl⟩
  rw [hc] at SO P7 z7
  rw [hc]
  clear hc
  obtain ⟨k, hk⟩ : ∃ k, putW c 2 = k := ⟨_, rfl⟩
  rw [hk] at P7 z7
  rw [hk]
  clear hk
  have m0 : ¬ 9223372036854775807 < 2 + y1.size := by omega
  have m1 : ¬ 9223372036854775807 < 2 + y1.size + y2.size := by omega
  have m2 : ¬ 9223372036854775807 < 2 + y1.size + y2.size + 2 := by omega
  have m3 : ¬ 9223372036854775807 < 2 + y1.size + y2.size + 2 + y3.size := by omega
  have m4 : ¬ 9223372036854775807 < 2 + y1.size + y2.size + 2 + y3.size + y4.size := by omega
  have m5 : ¬ 9223372036854775807 < y5.size + y6.size := by omega
  have m6 : ¬ 9223372036854775807 < H.size + T.size := by omega
  have m7 : ¬ 9223372036854775807 < H.size + k.size := by omega
  have m8 : ¬ 9223372036854775807 < H.size + k.size + T.size := by omega
  have m9 : ¬ 9223372036854775807 < H.size + k.size + T.size + b.size := by omega
  clear zy1 zy2 zy3 zy4 zy5 zy6 zH zT z7 hz
  go_enter Tryz.func53, Tryz.ntmps53
  go_wp2_with fail
  refine (C1.out _).mono ?_
  rintro e w1 ⟨rfl, hb1⟩
  have B1 := Lib.hid (((Below.refl w.heap.size w).alloc (Nat.le_refl _) _).trans (hb1.mono (by simp)))
  have K1 := Lib.hid ((HasC.new w #[.int .i64 s, .int .i64 d, .int .i64 t, .int .i64 p, .int .i64 i, .string b] 30).keep hb1)
  clear hb1
  obtain ⟨c0, c1, c2, c3, c4, c5⟩ := K1.out.of6
  have hg := K1.out.1
  go_wp2_with fail
  go_region_held3 (fun w' => w.heap.size < w'.heap.size ∧ w'.cell? ⟨w.heap.size, 0, none⟩ = some (.int .i64 s) ∧ w'.cell? ⟨w.heap.size, 1, none⟩ = some (.int .i64 d) ∧ w'.cell? ⟨w.heap.size, 2, none⟩ = some (.int .i64 t) ∧ w'.cell? ⟨w.heap.size, 3, none⟩ = some (.int .i64 p) ∧ w'.cell? ⟨w.heap.size, 4, none⟩ = some (.int .i64 i) ∧ w'.cell? ⟨w.heap.size, 5, none⟩ = some (.string b))
   (first | (exact keep6 (by assumption) hb6) | (exact keep6 (by assumption) hb5) | (exact keep6 (by assumption) hb4) | (exact keep6 (by assumption) hb3) | go_keep)
   ((go_at_call 87; first | ((with_reducible refine (P1.out _).mono ?_); rintro e w3 ⟨rfl, hb3⟩) | ((with_reducible refine (P2.out _).mono ?_); rintro e w4 ⟨rfl, hb4⟩) | ((with_reducible refine (P3.out _).mono ?_); rintro e w5 ⟨rfl, hb5⟩) | ((with_reducible refine (P4.out _).mono ?_); rintro e w6 ⟨rfl, hb6⟩)))
  have Bhb3 := Lib.hid (B1.out.drew.trans (hb3.mono (B1.out.drew).size))
  have Bhb4 := Lib.hid (Bhb3.out.trans (hb4.mono (Bhb3.out).size))
  have Bhb5 := Lib.hid (Bhb4.out.trans (hb5.mono (Bhb4.out).size))
  have Bhb6 := Lib.hid (Bhb5.out.trans (hb6.mono (Bhb5.out).size))
  have K2 := Lib.hid (((((K1.out.drew).keep hb3).keep hb4).keep hb5).keep hb6)
  clear c0 c1 c2 c3 c4 c5 hg K1 hb3 hb4 hb5 hb6
  rw [← E.out]
  clear E
  obtain ⟨c0, c1, c2, c3, c4, c5⟩ := K2.out.of6
  have hg := K2.out.1
  go_wp2_with fail
  go_region_held3 (fun w' => w.heap.size < w'.heap.size ∧ w'.cell? ⟨w.heap.size, 0, none⟩ = some (.int .i64 s) ∧ w'.cell? ⟨w.heap.size, 1, none⟩ = some (.int .i64 d) ∧ w'.cell? ⟨w.heap.size, 2, none⟩ = some (.int .i64 t) ∧ w'.cell? ⟨w.heap.size, 3, none⟩ = some (.int .i64 p) ∧ w'.cell? ⟨w.heap.size, 4, none⟩ = some (.int .i64 i) ∧ w'.cell? ⟨w.heap.size, 5, none⟩ = some (.string b))
   (first | (exact keep6 (by assumption) hb8) | (exact keep6 (by assumption) hb7) | go_keep)
   ((go_at_call 87; first | ((with_reducible refine (P5.out _).mono ?_); rintro e w7 ⟨rfl, hb7⟩) | ((with_reducible refine (P6.out _).mono ?_); rintro e w8 ⟨rfl, hb8⟩)))
  have Bhb7 := Lib.hid (Bhb6.out.drew.trans (hb7.mono (Bhb6.out.drew).size))
  have Bhb8 := Lib.hid (Bhb7.out.trans (hb8.mono (Bhb7.out).size))
  have K3 := Lib.hid (((K2.out.drew).keep hb7).keep hb8)
  clear c0 c1 c2 c3 c4 c5 hg K2 hb7 hb8
  rw [← E2.out]
  clear E2
  obtain ⟨c0, c1, c2, c3, c4, c5⟩ := K3.out.of6
  have hg := K3.out.1
  go_wp2_with fail
  go_region_held3 (fun w' => w.heap.size < w'.heap.size ∧ w'.cell? ⟨w.heap.size, 0, none⟩ = some (.int .i64 s) ∧ w'.cell? ⟨w.heap.size, 1, none⟩ = some (.int .i64 d) ∧ w'.cell? ⟨w.heap.size, 2, none⟩ = some (.int .i64 t) ∧ w'.cell? ⟨w.heap.size, 3, none⟩ = some (.int .i64 p) ∧ w'.cell? ⟨w.heap.size, 4, none⟩ = some (.int .i64 i) ∧ w'.cell? ⟨w.heap.size, 5, none⟩ = some (.string b))
   (first | (exact keep6 (by assumption) hb10) | go_keep)
   (first | (go_at_call 94; (with_reducible refine (SO.out _).mono ?_); rintro e w9 ⟨rfl, rfl⟩) | (go_at_call 87; (with_reducible refine (P7.out _).mono ?_); rintro e w10 ⟨rfl, hb10⟩))
  have Bhb10 := Lib.hid (Bhb8.out.drew.trans (hb10.mono (Bhb8.out.drew).size))
  clear c0 c1 c2 c3 c4 c5 hg K3 hb10
  go_wp2_with fail
  go_ret
  exact ⟨rfl, Bhb10.out⟩
end Go.Proofs.YtkkimgjcefojdaaGreatDoor
namespace Go.Proofs.YtkkimgjcefojdaaGreatDoor
open Go.RowKit Go.Lib

/-- An append of structs to a row of the call's own leaves the cursor, and all that was there but the cursor. -/
theorem app_keepsE {w w1 w2 : World} {B g base size : Nat} {e : TypeId} {v : Value} {n : Nat} {xs : List Value} {o : Obj} (hc : CurB w1 B g) (hgb : g < base) (hB : B ≤ base) (hw : base = w.heap.size) (hg1 : w.grownBy w1 (some g)) (hown : w1.ownsRow base e size v n xs) (hg : (w1.alloc o).grownBy w2 v.ownBlock) :
  CurB w2 B g ∧ w.grownBy w2 (some g) := by
 have hlt := hc.lt
 have hv : ∀ k, k < base → some k ≠ v.ownBlock := fun k hk e => by have := (hown.lt k e.symm).1; omega
 have hk : ∀ k, k < w1.heap.size → k < base → w2.heap[k]? = w1.heap[k]? := fun k h1 h2 =>
  (hg.block k (by simp; omega) (hv k h2)).trans (Below.heap_alloc w1 o k h1)
 refine ⟨hc.keep (hk g hlt hgb) ⟨hg.os, hg.tape, hg.output, Nat.le_trans (by simp) hg.size, fun k h => hk k (by have := hc.1; omega) (by omega)⟩, ?_⟩
 exact ⟨hg.os.trans hg1.os, hg.tape.trans hg1.tape, hg.output.trans hg1.output, Nat.le_trans hg1.size (Nat.le_trans (by simp) hg.size), fun k h1 h2 =>
  (hk k (Nat.lt_of_lt_of_le h1 hg1.size) (by omega)).trans (hg1.block k h1 h2)⟩
theorem goodE_of {x y z : Int} (hx : I64 x) (hy : I64 y) (hz : I64 z) : goodE ⟨x, y, z⟩ := ⟨wf_int hx.1 hx.2, wf_int hy.1 hy.2, wf_int hz.1 hz.2⟩
theorem goodE_app {rs : List ER} {q : ER} (h : ∀ r ∈ rs, goodE r) (hq : goodE q) : ∀ r ∈ rs ++ [q], goodE r := fun r hr => by
 rcases List.mem_append.1 hr with h1 | h1
 ·exact h r h1
 ·rw [List.mem_singleton.1 h1]; exact hq
/-- A drawn cache: new memory, at most six entries; only the cursor has turned. -/
def CacheEnd (w : World) (B g : Nat) (e : Ending) (w' : World) : Prop :=
 ∃ (rs : List ER) (gg cap : Nat), e = .returned (.slice (some ⟨gg, 0, none⟩) rs.length cap) ∧ (rs.length ≤ 6 ∧ ∀ r ∈ rs, goodE r) ∧ w'.ownsRow w.heap.size 71 3 (.slice (some ⟨gg, 0, none⟩) rs.length cap) rs.length (ers rs) ∧ CurB w' B g ∧ w.grownBy w' (some g)

set_option maxRecDepth 100000 in
set_option maxHeartbeats 4000000 in
theorem l15Cache_any (B g : Nat) (w : World) (hc : CurB w B g) : Calls Tryz.prog 97 #[.pointer (some ⟨g, 0, none⟩)] w (fun e w' => ∃ (rs : List ER) (gg cap : Nat), e = .returned (.slice (some ⟨gg, 0, none⟩) rs.length cap) ∧ (rs.length ≤ 5 ∧ ∀ r ∈ rs, goodE r) ∧ w'.ownsRow w.heap.size 71 3 (.slice (some ⟨gg, 0, none⟩) rs.length cap) rs.length (ers rs) ∧ CurB w' B g ∧ w.grownBy w' (some g)) := by
 have hglt := hc.lt
 have hBg := hc.1
 have C := Lib.hid hc
 clear hc
 go_enter Tryz.func97, Tryz.ntmps97
 go_wp2_with fail
 refine (l1Below_pos B g _ (C.out.new _) 6 (by omega) (by omega)).mono ?_
 rintro e w0 ⟨r, rfl, ⟨r0, r1⟩, hc0, hg0⟩
 obtain ⟨n, rfl⟩ : ∃ n : Nat, r = (n : Int) := ⟨r.toNat, by omega⟩
 have hn : n ≤ 5 := by omega
 have O0 := Lib.hid ((World.ownsRow_lit (base := w.heap.size) (e := 71) (size := 3) w #[] 0 (Nat.le_refl _) (Nat.zero_le _) rfl).kept hg0 (.inr (own_ne (by omega))))
 have C0 := Lib.hid hc0
 have G0 := Lib.hid (grown_tr (World.grownBy_alloc w _ _) hg0)
 clear hc0 hg0 r0 r1 C
 go_wp2_with fail
 go_loopw [3, 5] (fun v i wr => ∃ k : Nat, k ≤ n ∧ i = .int .i64 k ∧ ∃ (rs : List ER) (gg cap : Nat), v = .slice (some ⟨gg, 0, none⟩) rs.length cap ∧ Hid (rs.length ≤ k ∧ ∀ r ∈ rs, goodE r) ∧ Hid (wr.ownsRow w.heap.size 71 3 (.slice (some ⟨gg, 0, none⟩) rs.length cap) rs.length (ers rs)) ∧ Hid (CurB wr B g) ∧ Hid (w.grownBy wr (some g)))
  (fun _ i _ => n - (RowKit.intOf i).toNat)
 case atStart => exact ⟨0, Nat.zero_le _, rfl, [], w.heap.size, 0, rfl, ⟨Nat.le_refl _, fun _ h => by cases h⟩, O0, C0, G0⟩
 case round =>
  obtain ⟨k, hk, rfl, rs, gg, cap, rfl, HG, hO, hC, hG⟩ := hrel
  clear O0 C0 G0
  by_cases hlt : k < n
  ·have hne : gg ≠ g := by have := (hO.out.lt gg rfl).1; omega
   go_wp2_with fail
   refine (l1Below_pos B g wr hC.out 7 (by omega) (by omega)).mono ?_
   rintro e w1 ⟨p, rfl, hp, hcu, hgr⟩
   have G1 := Lib.hid (grown_tr hG.out hgr)
   have C1 := Lib.hid hcu
   have O1 := Lib.hid (hO.out.kept hgr (.inr (own_ne hne)))
   clear hcu hgr hC hG hO
   have hpw : IntKind.i64.wrap (167772160 + p) = 167772160 + p := IntWalk.i64_in _ (by omega)
   go_wp2_with fail
   refine (l1Below_pos B g w1 C1.out 3 (by omega) (by omega)).mono ?_
   rintro e w2 ⟨q, rfl, hq, hcu, hgr⟩
   have G2 := Lib.hid (grown_tr G1.out hgr)
   have C2 := Lib.hid hcu
   have O2 := Lib.hid (O1.out.kept hgr (.inr (own_ne hne)))
   clear hcu hgr C1 G1 O1
   have hqw : IntKind.i64.wrap (11 + q) = 11 + q := IntWalk.i64_in _ (by omega)
   go_wp2_with fail
   have HL := HG.out.1
   have HC := (own_cap O2.out).1
   have hg1 := Lib.hid (goodE_learn (ip := 167772160 + p) (hw := 11 + q) HG.out.2 (wf_int (by omega) (by omega)) (wf_int (by omega) (by omega)))
   have hl1 := learnE_length rs (167772160 + p) (11 + q)
   refine (learnedN gg 0 cap rs (167772160 + p) (11 + q) w2 (Row.ownK O2.out) (by omega) HC).mono ?_
   rintro e w3 ⟨g3, c3, rfl, ho, hb⟩
   have O3 := Lib.hid (own_down ho G2.out.size)
   have G3 := Lib.hid (grown_tr G2.out (below_any hb))
   have C3 := Lib.hid (C2.out.below hb)
   clear ho hb hne C2 G2 O2
   have hne : g3 ≠ g := by have := (O3.out.lt g3 rfl).1; omega
   generalize learnE rs (167772160 + p) (11 + q) = L at *
   go_wp2_with fail
   refine (l1Once_any B g _ C3.out 2 (by omega) (by omega)).mono ?_
   rintro e w4 ⟨b, rfl, hcu, hgr⟩
   have G4 := Lib.hid (grown_tr G3.out hgr)
   have C4 := Lib.hid hcu
   have O4 := Lib.hid (O3.out.kept hgr (.inr (own_ne hne)))
   clear hcu hgr C3 G3 O3
   cases b with
   | false =>
    go_wp2_with fail
    go_roundw
    case rel => exact ⟨k + 1, by omega, by go_num, L, g3, c3, rfl, ⟨by omega, hg1.out⟩, O4, C4, G4⟩
    case measure => simp [RowKit.intOf]; omega
   | true =>
    go_wp2_with fail
    have hl2 := agedE_length L
    have hg2 := goodE_aged hg1.out
    refine (agedN (some ⟨g3, 0, none⟩) c3 L w4 (Row.ownK O4.out) (by omega) hg1.out).mono ?_
    rintro e w5 ⟨g5, c5, rfl, ho, hb⟩
    have O5 := Lib.hid (own_down ho G4.out.size)
    have G5 := Lib.hid (grown_tr G4.out (below_any hb))
    have C5 := Lib.hid (C4.out.below hb)
    clear ho hb hne C4 G4 O4
    have hne : g5 ≠ g := by have := (O5.out.lt g5 rfl).1; omega
    generalize agedE L = L2 at *
    have hg3 := Lib.hid hg2
    clear hg2
    go_wp2_with fail
    go_roundw
    case rel => exact ⟨k + 1, by omega, by go_num, L2, g5, c5, rfl, ⟨by omega, hg3.out⟩, O5, C5, G5⟩
    case measure => simp [RowKit.intOf]; omega
  ·obtain rfl : k = n := by omega
   go_wp2_with fail
   go_ret
   have HL := HG.out.1
   exact ⟨rs, gg, cap, rfl, ⟨by omega, HG.out.2⟩, hO.out, hC.out, hG.out⟩

theorem pickAge (B g : Nat) (w : World) (hc : CurB w B g) : Calls Tryz.prog 63 #[.pointer (some ⟨g, 0, none⟩), .slice (some ⟨w.heap.size, 0, none⟩) 4 4] (w.alloc (.cells #[.int .i64 0, .int .i64 9, .int .i64 10, .int .i64 (-1)] 3)) (WholeEnd w B g) :=
 pickNew B g w hc #[.int .i64 0, .int .i64 9, .int .i64 10, .int .i64 (-1)] (by simp) (by simp) (by
  intro v hv
  simp only [List.mem_cons, List.mem_nil_iff, or_false] at hv
  unfold I64
  rcases hv with rfl | rfl | rfl | rfl <;> exact ⟨_, rfl, by decide⟩)
def lenOf : Value → Nat
 | .slice _ n _ => n
 | _ => 0
set_option maxRecDepth 100000 in
set_option maxHeartbeats 4000000 in
theorem l15Bent_any (B g : Nat) (w : World) (hc : CurB w B g) : Calls Tryz.prog 62 #[.pointer (some ⟨g, 0, none⟩)] w (CacheEnd w B g) := by
 obtain ⟨i0, hi, hz0, hz1, hz2⟩ := info_parts Tryz.info71
 have hglt := hc.lt
 have hBg := hc.1
 have C := Lib.hid (l15Cache_any B g w hc)
 clear hc
 go_enter Tryz.func62, Tryz.ntmps62
 go_wp2_with fail
 refine C.out.mono ?_
 rintro e w1 ⟨rs, gg, cap, rfl, hgd, ho, hcu, hgr⟩
 have HG := Lib.hid hgd
 have O1 := Lib.hid ho
 have C1 := Lib.hid hcu
 have G1 := Lib.hid hgr
 have hne : gg ≠ g := by have := (ho.lt gg rfl).1; omega
 clear hgd ho hcu hgr C
 go_wp2_with fail
 refine (l1Below_pos B g w1 C1.out 8 (by omega) (by omega)).mono ?_
 rintro e w2 ⟨r, rfl, hr, hcu, hgr⟩
 have G2 := Lib.hid (grown_tr G1.out hgr)
 have C2 := Lib.hid hcu
 have O2 := Lib.hid (O1.out.kept hgr (.inr (own_ne hne)))
 clear hcu hgr C1 G1 O1
 have HL := HG.out.1
 by_cases h0 : r = 0
 ·subst h0
  go_wp2_with fail
  refine (l2Word_any B g w2 C2.out).mono ?_
  rintro e w3 ⟨x, rfl, hx, hcu, hgr⟩
  have G3 := Lib.hid (grown_tr G2.out hgr)
  have C3 := Lib.hid hcu
  have O3 := Lib.hid (O2.out.kept hgr (.inr (own_ne hne)))
  clear hcu hgr C2 G2 O2
  go_wp2_with fail
  refine (l2Word_any B g w3 C3.out).mono ?_
  rintro e w4 ⟨y, rfl, hy, hcu, hgr⟩
  have G4 := Lib.hid (grown_tr G3.out hgr)
  have C4 := Lib.hid hcu
  have O4 := Lib.hid (O3.out.kept hgr (.inr (own_ne hne)))
  clear hcu hgr C3 G3 O3
  go_wp2_with fail
  refine (pickAge B g w4 C4.out).mono ?_
  rintro e w5 ⟨z, rfl, hz, hcu, hgr⟩
  have G5 := Lib.hid (grown_tr G4.out hgr)
  have C5 := Lib.hid hcu
  have O5 := Lib.hid (O4.out.kept hgr (.inr (own_ne hne)))
  clear hcu hgr C4 G4 O4
  have hgo := Lib.hid (goodE_app HG.out.2 (goodE_of hx hy hz))
  clear hx hy hz
  have hsz : w.heap.size ≤ w5.heap.size := G5.out.size
  go_wp2_with (at_builtin; refine wpList_append_lies _ rfl _ _ _ rfl w.heap.size 71 i0 _ 3 24 Tryz.underlying24 hi hz0 hz1 hz2 rfl (by omega) _ rs.length _ rfl (O5.out.alloc _) ⟨w5.heap.size, 0, none⟩ 1 1 [.int .i64 x, .int .i64 y, .int .i64 z] rfl rfl (World.news_of_block (cs := #[.int .i64 x, .int .i64 y, .int .i64 z]) (t := 71) (fr := (0, 0)) (heap_alloc_new w5 _)) (by simp [Value.oneCell']) (by omega) (by unfold maxLen; omega) (by omega) (by simp; omega) (w5.heap.size + 1) (by simp) ?_; intro gg' cap' w9 hown hgrow hat hlt')
  have hk2 := app_keepsE C5.out hglt (Nat.le_of_lt (Nat.lt_of_le_of_lt hBg hglt)) rfl G5.out O5.out hgrow
  go_ret
  exact ⟨rs ++ [⟨x, y, z⟩], gg', cap', by rw [List.length_append]; rfl, ⟨by rw [List.length_append]; show rs.length + 1 ≤ 6; omega, hgo.out⟩, by rw [List.length_append, ers_append]; exact hown, hk2.1, hk2.2⟩
 have h0' : (r == 0) = false := by simp [h0]
 by_cases h1 : r = 1
 case neg =>
  have h1' : (r == 1) = false := by simp [h1]
  clear h0 h1
  go_wp2_with fail
  go_ret
  exact ⟨rs, gg, cap, rfl, ⟨by omega, HG.out.2⟩, O2.out, C2.out, G2.out⟩
 subst h1
 clear h0 h0' hne
 go_wp2_with fail
 go_loopw [3] (fun v wr => ∃ (rs : List ER) (gg cap : Nat), v = .slice (some ⟨gg, 0, none⟩) rs.length cap ∧ Hid (rs.length ≤ 5 ∧ ∀ r ∈ rs, goodE r) ∧ Hid (wr.ownsRow w.heap.size 71 3 (.slice (some ⟨gg, 0, none⟩) rs.length cap) rs.length (ers rs)) ∧ Hid (CurB wr B g) ∧ Hid (w.grownBy wr (some g))) (fun v _ => 5 - lenOf v)
 case atStart => exact ⟨rs, gg, cap, rfl, HG, O2, C2, G2⟩
 case round =>
  obtain ⟨rs, gg, cap, rfl, HG, hO, hC, hG⟩ := hrel
  clear O2 C2 G2 HL
  have HL := HG.out.1
  have hne : gg ≠ g := by have := (hO.out.lt gg rfl).1; omega
  go_wp2_with fail
  refine (l1Below_pos B g wr hC.out 2 (by omega) (by omega)).mono ?_
  rintro e w3 ⟨t, rfl, ht, hcu, hgr⟩
  have G3 := Lib.hid (grown_tr hG.out hgr)
  have C3 := Lib.hid hcu
  have O3 := Lib.hid (hO.out.kept hgr (.inr (own_ne hne)))
  clear hcu hgr hC hG hO
  have htw : IntKind.i64.wrap (4 + t) = 4 + t := IntWalk.i64_in _ (by omega)
  by_cases hlt : (rs.length : Int) < 4 + t
  case neg =>
   go_wp2_with fail
   go_ret
   exact ⟨rs, gg, cap, rfl, ⟨by omega, HG.out.2⟩, O3.out, C3.out, G3.out⟩
  go_wp2_with fail
  refine (l1Below_pos B g w3 C3.out 10 (by omega) (by omega)).mono ?_
  rintro e w4 ⟨u, rfl, hu, hcu, hgr⟩
  have G4 := Lib.hid (grown_tr G3.out hgr)
  have C4 := Lib.hid hcu
  have O4 := Lib.hid (O3.out.kept hgr (.inr (own_ne hne)))
  clear hcu hgr C3 G3 O3
  have hgo := Lib.hid (goodE_app (q := ⟨(rs.length : Int), 0, u⟩) HG.out.2 (goodE_of ⟨by omega, by omega⟩ ⟨by omega, by omega⟩ ⟨by omega, by omega⟩))
  have hsz : w.heap.size ≤ w4.heap.size := G4.out.size
  go_wp2_with (at_builtin; refine wpList_append_lies _ rfl _ _ _ rfl w.heap.size 71 i0 _ 3 24 Tryz.underlying24 hi hz0 hz1 hz2 rfl (by omega) _ rs.length _ rfl (O4.out.alloc _) ⟨w4.heap.size, 0, none⟩ 1 1 [.int .i64 rs.length, .int .i64 0, .int .i64 u] rfl rfl (World.news_of_block (cs := #[.int .i64 rs.length, .int .i64 0, .int .i64 u]) (t := 71) (fr := (0, 0)) (heap_alloc_new w4 _)) (by simp [Value.oneCell']) (by omega) (by unfold maxLen; omega) (by omega) (by simp; omega) (w4.heap.size + 1) (by simp) ?_; intro gg' cap' w9 hown hgrow hat hlt')
  have hk2 := app_keepsE C4.out hglt (Nat.le_of_lt (Nat.lt_of_le_of_lt hBg hglt)) rfl G4.out O4.out hgrow
  go_roundw
  case rel => exact ⟨rs ++ [⟨(rs.length : Int), 0, u⟩], gg', cap', by rw [List.length_append]; rfl, ⟨by rw [List.length_append]; show rs.length + 1 ≤ 5; omega, hgo.out⟩, by rw [List.length_append, ers_append]; exact hown, hk2.1, hk2.2⟩
  case measure => show 5 - (rs.length + 1) < 5 - rs.length; omega

end Go.Proofs.YtkkimgjcefojdaaGreatDoor
