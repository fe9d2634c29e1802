/- Texts of a proof that belong together, joined. Nothing here is a claim. -/
import Derived.Test.YtkkimgjcefojdaaGreatDoorPkLk29
namespace Go.Proofs.YtkkimgjcefojdaaGreatDoor
open Go.RowKit Go.Lib

end Go.Proofs.YtkkimgjcefojdaaGreatDoor
namespace Go.Proofs.YtkkimgjcefojdaaGreatDoor
open Go.RowKit Go.Lib

end Go.Proofs.YtkkimgjcefojdaaGreatDoor
namespace Go.Proofs.YtkkimgjcefojdaaGreatDoor
open Go.RowKit Go.Lib

end Go.Proofs.YtkkimgjcefojdaaGreatDoor
namespace Go.Proofs.YtkkimgjcefojdaaGreatDoor
open Go.RowKit Go.Lib

end Go.Proofs.YtkkimgjcefojdaaGreatDoor
namespace Go.Proofs.YtkkimgjcefojdaaGreatDoor
open Go.RowKit Go.Lib

end Go.Proofs.YtkkimgjcefojdaaGreatDoor
namespace Go.Proofs.YtkkimgjcefojdaaGreatDoor
open Go.RowKit Go.Lib

end Go.Proofs.YtkkimgjcefojdaaGreatDoor
namespace Go.Proofs.YtkkimgjcefojdaaGreatDoor
open Go.RowKit Go.Lib

/-- A word that stands in a text, read back. -/
theorem gw_back (n : Int) (k i : Nat) (hk : 1 ≤ k ∧ k ≤ 6) (h : wordOk n (8 * k) = true) (p q x : ByteArray) (hx : x = p ++ (putW n k ++ q)) (hi : p.size = i) : ((gw x i k : Nat) : Int) = n := by
 have := gw_at n k hk h p q
 rw [← hi, hx, ← ByteArray.append_assoc]; exact this
theorem gw1 (s : ByteArray) (a : Nat) : gw s a 1 = (at8 s a).toNat := by simp [gw]
end Go.Proofs.YtkkimgjcefojdaaGreatDoor
namespace Go.Proofs.YtkkimgjcefojdaaGreatDoor
open Go.RowKit Go.Lib

end Go.Proofs.YtkkimgjcefojdaaGreatDoor
namespace Go.Proofs.YtkkimgjcefojdaaGreatDoor
open Go.RowKit Go.Lib

end Go.Proofs.YtkkimgjcefojdaaGreatDoor
namespace Go.Proofs.YtkkimgjcefojdaaGreatDoor
open Go.RowKit Go.Lib

theorem wsum_append (s t : ByteArray) (h : s.size % 2 = 0) : wsum (s ++ t) = wsum s + wsum t := by
 unfold wsum
 have hl : s.data.toList.length = s.size := by simp
 rw [show (s ++ t).data.toList = s.data.toList ++ t.data.toList by simp, sm_append, hl]
 unfold flip; rw [if_pos h]

theorem sumRight_iff (s : ByteArray) : sumRight s = decide (0 < wsum s ∧ wsum s % 65535 = 0) := by
 unfold sumRight sumOf foldI
 rw [decide_eq_decide]
 split <;> omega
end Go.Proofs.YtkkimgjcefojdaaGreatDoor
namespace Go.Proofs.YtkkimgjcefojdaaGreatDoor
open Go.RowKit Go.Lib

theorem putW_sum (s : ByteArray) : ∃ c : Nat, sumOf s = c ∧ c ≤ 65535 ∧ putW (sumOf s) 2 = ⟨#[UInt8.ofNat (c / 256), UInt8.ofNat c]⟩ := by
 have h := sumOf_bd s
 refine ⟨(sumOf s).toNat, by omega, by omega, ?_⟩
 unfold putW
 rw [if_pos ⟨by omega, by omega, Int.lt_of_le_of_lt h.2 (by decide)⟩]
 simp [wb, wbAt, List.range, List.range.loop]
theorem wsum_two (x y : UInt8) : wsum ⟨#[x, y]⟩ = 256 * x.toNat + y.toNat := by simp [wsum, sm]
theorem wsum_seal (s : ByteArray) (h : s.size % 2 = 0) : ∃ c : Nat, sumOf s = c ∧ wsum (s ++ putW (sumOf s) 2) = wsum s + c := by
 obtain ⟨c, h1, h2, h3⟩ := putW_sum s
 refine ⟨c, h1, ?_⟩
 rw [wsum_append s _ h, h3, wsum_two, UInt8.toNat_ofNat', UInt8.toNat_ofNat']
 omega
theorem seal_right (s : ByteArray) (h : s.size % 2 = 0) : sumRight (s ++ putW (sumOf s) 2) = true := by
 obtain ⟨c, h1, h2⟩ := wsum_seal s h
 rw [sumRight_iff, h2]
 apply decide_eq_true
 unfold sumOf foldI at h1
 split at h1 <;> omega
end Go.Proofs.YtkkimgjcefojdaaGreatDoor
namespace Go.Proofs.YtkkimgjcefojdaaGreatDoor
open Go.RowKit Go.Lib

end Go.Proofs.YtkkimgjcefojdaaGreatDoor
namespace Go.Proofs.YtkkimgjcefojdaaGreatDoor
open Go.RowKit Go.Lib

end Go.Proofs.YtkkimgjcefojdaaGreatDoor
namespace Go.Proofs.YtkkimgjcefojdaaGreatDoor
open Go.RowKit Go.Lib

end Go.Proofs.YtkkimgjcefojdaaGreatDoor
namespace Go.Proofs.YtkkimgjcefojdaaGreatDoor
open Go.RowKit Go.Lib

end Go.Proofs.YtkkimgjcefojdaaGreatDoor
namespace Go.Proofs.YtkkimgjcefojdaaGreatDoor
open Go.RowKit Go.Lib

end Go.Proofs.YtkkimgjcefojdaaGreatDoor
namespace Go.Proofs.YtkkimgjcefojdaaGreatDoor
open Go.RowKit Go.Lib

end Go.Proofs.YtkkimgjcefojdaaGreatDoor
namespace Go.Proofs.YtkkimgjcefojdaaGreatDoor
open Go.RowKit Go.Lib

end Go.Proofs.YtkkimgjcefojdaaGreatDoor
namespace Go.Proofs.YtkkimgjcefojdaaGreatDoor
open Go.RowKit Go.Lib

end Go.Proofs.YtkkimgjcefojdaaGreatDoor
namespace Go.Proofs.YtkkimgjcefojdaaGreatDoor
open Go

end Go.Proofs.YtkkimgjcefojdaaGreatDoor
namespace Go.Proofs.YtkkimgjcefojdaaGreatDoor
open Go.RowKit Go.Lib

set_option maxHeartbeats 2000000 in
theorem packOkI (s d t p i : Int) (b : ByteArray) (w : World) :
  Calls Tryz.prog 89 #[.agg #[.int .i64 s, .int .i64 d, .int .i64 t, .int .i64 p, .int .i64 i, .string b]] w fun e w' => e = .returned (.bool (packOk s d t p i b)) ∧ Below w.heap.size w w' := by
 have C1 := Lib.hid (fun w => wordOkI s 32 w)
 have C2 := Lib.hid (fun w => wordOkI d 32 w)
 have C4 := Lib.hid (fun w => wordOkI p 8 w)
 have C5 := Lib.hid (fun w => wordOkI i 16 w)
 have D : Hid (packOk s d t p i b = (wordOk s 32 && (wordOk d 32 && (decide (1 ≤ t ∧ t ≤ 255) && (wordOk p 8 && (wordOk i 16 && decide (b.size ≤ 1480))))))) := rfl
 obtain ⟨x1, hx1⟩ : ∃ x, wordOk s 32 = x := ⟨_, rfl⟩
 rw [hx1] at C1 D
 clear hx1
 obtain ⟨x2, hx2⟩ : ∃ x, wordOk d 32 = x := ⟨_, rfl⟩
 rw [hx2] at C2 D
 clear hx2
 obtain ⟨x4, hx4⟩ : ∃ x, wordOk p 8 = x := ⟨_, rfl⟩
 rw [hx4] at C4 D
 clear hx4
 obtain ⟨x5, hx5⟩ : ∃ x, wordOk i 16 = x := ⟨_, rfl⟩
 rw [hx5] at C5 D
 clear hx5
 by_cases ht : 1 ≤ t
 ·have C3 := Lib.hid (fun w => wordOkI t 8 w)
  rw [ttl_word t ht] at C3
  obtain ⟨x3, hx3⟩ : ∃ x, decide (1 ≤ t ∧ t ≤ 255) = x := ⟨_, rfl⟩
  rw [hx3] at C3 D
  clear hx3
  rw [D.out]
  clear D
  cases x1 with
  | false =>
   go_enter Tryz.func89, Tryz.ntmps89
   go_wp2_with fail
   refine (C1.out _).mono ?_
   rintro e w1 ⟨rfl, rfl⟩
   go_wp2_with fail
   go_ret
   exact ⟨ret_bool (by simp), (Below.refl _ _).alloc (Nat.le_refl _) _⟩
  | true =>
   cases x2 with
   | false =>
    go_enter Tryz.func89, Tryz.ntmps89
    go_wp2_with fail
    refine (C1.out _).mono ?_
    rintro e w1 ⟨rfl, rfl⟩
    go_wp2_with fail
    refine (C2.out _).mono ?_
    rintro e w1 ⟨rfl, rfl⟩
    go_wp2_with fail
    go_ret
    exact ⟨ret_bool (by simp), (Below.refl _ _).alloc (Nat.le_refl _) _⟩
   | true =>
    cases x5 with
    | false =>
     go_enter Tryz.func89, Tryz.ntmps89
     go_wp2_with fail
     refine (C1.out _).mono ?_
     rintro e w1 ⟨rfl, rfl⟩
     go_wp2_with fail
     refine (C2.out _).mono ?_
     rintro e w1 ⟨rfl, rfl⟩
     go_wp2_with fail
     refine (C5.out _).mono ?_
     rintro e w1 ⟨rfl, rfl⟩
     go_wp2_with fail
     go_ret
     exact ⟨ret_bool (by simp), (Below.refl _ _).alloc (Nat.le_refl _) _⟩
    | true =>
     cases x3 with
     | false =>
      go_enter Tryz.func89, Tryz.ntmps89
      go_wp2_with fail
      refine (C1.out _).mono ?_
      rintro e w1 ⟨rfl, rfl⟩
      go_wp2_with fail
      refine (C2.out _).mono ?_
      rintro e w1 ⟨rfl, rfl⟩
      go_wp2_with fail
      refine (C5.out _).mono ?_
      rintro e w1 ⟨rfl, rfl⟩
      go_wp2_with fail
      refine (C3.out _).mono ?_
      rintro e w1 ⟨rfl, rfl⟩
      go_wp2_with fail
      go_ret
      exact ⟨ret_bool (by simp), (Below.refl _ _).alloc (Nat.le_refl _) _⟩
     | true =>
      cases x4 with
      | false =>
       go_enter Tryz.func89, Tryz.ntmps89
       go_wp2_with fail
       refine (C1.out _).mono ?_
       rintro e w1 ⟨rfl, rfl⟩
       go_wp2_with fail
       refine (C2.out _).mono ?_
       rintro e w1 ⟨rfl, rfl⟩
       go_wp2_with fail
       refine (C5.out _).mono ?_
       rintro e w1 ⟨rfl, rfl⟩
       go_wp2_with fail
       refine (C3.out _).mono ?_
       rintro e w1 ⟨rfl, rfl⟩
       go_wp2_with fail
       refine (C4.out _).mono ?_
       rintro e w1 ⟨rfl, rfl⟩
       go_wp2_with fail
       go_ret
       exact ⟨ret_bool (by simp), (Below.refl _ _).alloc (Nat.le_refl _) _⟩
      | true =>
       go_enter Tryz.func89, Tryz.ntmps89
       go_wp2_with fail
       refine (C1.out _).mono ?_
       rintro e w1 ⟨rfl, rfl⟩
       go_wp2_with fail
       refine (C2.out _).mono ?_
       rintro e w1 ⟨rfl, rfl⟩
       go_wp2_with fail
       refine (C5.out _).mono ?_
       rintro e w1 ⟨rfl, rfl⟩
       go_wp2_with fail
       refine (C3.out _).mono ?_
       rintro e w1 ⟨rfl, rfl⟩
       go_wp2_with fail
       refine (C4.out _).mono ?_
       rintro e w1 ⟨rfl, rfl⟩
       go_wp2_with fail
       go_ret
       exact ⟨ret_bool (by simp only [Bool.true_and]; rw [decide_eq_decide]; omega), (Below.refl _ _).alloc (Nat.le_refl _) _⟩
 ·rw [D.out, decide_eq_false (show ¬ (1 ≤ t ∧ t ≤ 255) by omega)]
  clear D
  cases x1 with
  | false =>
   go_enter Tryz.func89, Tryz.ntmps89
   go_wp2_with fail
   refine (C1.out _).mono ?_
   rintro e w1 ⟨rfl, rfl⟩
   go_wp2_with fail
   go_ret
   exact ⟨ret_bool (by simp), (Below.refl _ _).alloc (Nat.le_refl _) _⟩
  | true =>
   cases x2 with
   | false =>
    go_enter Tryz.func89, Tryz.ntmps89
    go_wp2_with fail
    refine (C1.out _).mono ?_
    rintro e w1 ⟨rfl, rfl⟩
    go_wp2_with fail
    refine (C2.out _).mono ?_
    rintro e w1 ⟨rfl, rfl⟩
    go_wp2_with fail
    go_ret
    exact ⟨ret_bool (by simp), (Below.refl _ _).alloc (Nat.le_refl _) _⟩
   | true =>
    cases x5 with
    | false =>
     go_enter Tryz.func89, Tryz.ntmps89
     go_wp2_with fail
     refine (C1.out _).mono ?_
     rintro e w1 ⟨rfl, rfl⟩
     go_wp2_with fail
     refine (C2.out _).mono ?_
     rintro e w1 ⟨rfl, rfl⟩
     go_wp2_with fail
     refine (C5.out _).mono ?_
     rintro e w1 ⟨rfl, rfl⟩
     go_wp2_with fail
     go_ret
     exact ⟨ret_bool (by simp), (Below.refl _ _).alloc (Nat.le_refl _) _⟩
    | true =>
     go_enter Tryz.func89, Tryz.ntmps89
     go_wp2_with fail
     refine (C1.out _).mono ?_
     rintro e w1 ⟨rfl, rfl⟩
     go_wp2_with fail
     refine (C2.out _).mono ?_
     rintro e w1 ⟨rfl, rfl⟩
     go_wp2_with fail
     refine (C5.out _).mono ?_
     rintro e w1 ⟨rfl, rfl⟩
     go_wp2_with fail
     go_ret
     exact ⟨ret_bool (by simp), (Below.refl _ _).alloc (Nat.le_refl _) _⟩

end Go.Proofs.YtkkimgjcefojdaaGreatDoor
namespace Go.Proofs.YtkkimgjcefojdaaGreatDoor
open Go.RowKit Go.Lib

/-- The sum of two texts with two bytes of 0 between them. -/
theorem sumOf_zero (x y : ByteArray) (h : x.size % 2 = 0) : sumOf (x ++ ⟨#[0, 0]⟩ ++ y) = sumOf (x ++ y) := by
 have e : wsum (x ++ ⟨#[0, 0]⟩ ++ y) = wsum (x ++ y) := by
  rw [wsum_append _ _ (by rw [ByteArray.size_append]; show (x.size + 2) % 2 = 0; omega), wsum_append _ _ h, wsum_append _ _ h]
  have : wsum ⟨#[0, 0]⟩ = 0 := rfl
  omega
 unfold sumOf; rw [e]
theorem first_byte : putW 69 1 = ⟨#[69]⟩ := by decide +kernel
end Go.Proofs.YtkkimgjcefojdaaGreatDoor
namespace Go.Proofs.YtkkimgjcefojdaaGreatDoor
open Go.RowKit Go.Lib

end Go.Proofs.YtkkimgjcefojdaaGreatDoor
namespace Go.Proofs.YtkkimgjcefojdaaGreatDoor
open Go.RowKit Go.Lib

set_option maxHeartbeats 1000000 in
theorem hwOfS (a : Option Addr) (cap : Nat) (rs : List ER) (ip : Int) (w : World) (hrow : Row w w.heap.size a (ers rs)) (hl : rs.length ≤ 1048577) :
  Calls Tryz.prog 19 #[.slice a rs.length cap, .int .i64 ip] w (HwEnd rs ip w) := by
 have HR := Lib.hid hrow
 clear hrow
 have C := Lib.hid (fun w1 h => atS a rs.length cap rs ip w1 h rfl hl)
 by_cases h : atE rs ip < rs.length
 ·have HP : HwEnd rs ip w = fun e w' => e = .returned (.tuple #[.int .i64 rs[atE rs ip].hw, .bool true]) ∧ Below w.heap.size w w' := by
   funext e w'
   unfold HwEnd hwE hasE
   rw [List.getElem?_eq_getElem h, decide_eq_true h]
  rw [HP]
  rw [placeE_yes h] at C
  generalize hk : atE rs ip = k at C h ⊢
  clear HP hk
  go_enter Tryz.func19, Tryz.ntmps19
  go_wp2_with fail
  refine (C.out w HR.out).mono ?_
  rintro e w2 ⟨rfl, hb⟩
  have B2 := Lib.hid hb
  clear hb
  obtain ⟨b, off, rfl, hbb, hcs⟩ := (HR.out.below B2.out).er h
  obtain ⟨hc0, hc1, hc2⟩ := hcs k h
  have hk0 : (0 : Int) ≤ (k : Int) := Int.natCast_nonneg _
  have hk1 : (k : Int) < (rs.length : Int) := by omega
  clear hcs
  go_wp2_with fail
  exact bodyPost_ret (v := .tuple #[.int .i64 rs[k].hw, .bool true]) (by simp [results, Tryz.results19, go_sem]) rfl ⟨rfl, B2.out⟩
 ·have HP : HwEnd rs ip w = fun e w' => e = .returned (.tuple #[.int .i64 0, .bool false]) ∧ Below w.heap.size w w' := by
   funext e w'
   unfold HwEnd hwE hasE
   rw [List.getElem?_eq_none (by omega), decide_eq_false h]
  rw [HP]
  rw [placeE_no h] at C
  clear HP
  go_enter Tryz.func19, Tryz.ntmps19
  go_wp2_with fail
  refine (C.out w HR.out).mono ?_
  rintro e w2 ⟨rfl, hb⟩
  have B2 := Lib.hid hb
  clear hb
  go_wp2_with fail
  exact bodyPost_ret (v := .tuple #[.int .i64 0, .bool false]) (by simp [results, Tryz.results19, go_sem]) rfl ⟨rfl, B2.out⟩
end Go.Proofs.YtkkimgjcefojdaaGreatDoor
namespace Go.Proofs.YtkkimgjcefojdaaGreatDoor
open Go.RowKit Go.Lib

set_option maxRecDepth 100000 in
set_option maxHeartbeats 8000000 in
theorem packTextI (s d t p i : Int) (b : ByteArray) (w : World) :
  Calls Tryz.prog 51 #[.agg #[.int .i64 s, .int .i64 d, .int .i64 t, .int .i64 p, .int .i64 i, .string b]] w fun e w' => e = .returned (.string (packText s d t p i b)) ∧ Below w.heap.size w w' := by
 have C1 := Lib.hid (packOkI s d t p i b)
 cases ho : packOk s d t p i b with
 | false =>
  rw [packText_no ho]
  rw [ho] at C1
  clear ho
  go_enter Tryz.func51, Tryz.ntmps51
  go_wp2_with fail
  refine (C1.out _).mono ?_
  rintro e w1 ⟨rfl, hb1⟩
  have B1 := Lib.hid (((Below.refl w.heap.size w).alloc (Nat.le_refl _) _).trans (hb1.mono (by simp)))
  clear hb1
  go_wp2_with fail
  go_ret
  exact ⟨rfl, B1.out⟩
 | true =>
  have hz := (packOk_all ho).2.2.2.2.2
  have eh := packHead_size ho
  rw [packText_yes ho]
  rw [ho] at C1
  have hw : IntKind.i64.wrap (20 + (b.size : Int)) = 20 + b.size := by rw [IntKind.wrap_i64]; omega
  have P0 := Lib.hid (putWordI 69 1)
  have zy0 := putW_le 69 1
  have E : Hid (packHead (20 + b.size) i t p = putW 69 1 ++ ⟨#[0]⟩ ++ putW (20 + b.size) 2 ++ putW i 2 ++ ⟨#[0, 0]⟩ ++ putW t 1 ++ putW p 1) := by show _ = _; rw [first_byte]; rfl
  obtain ⟨y0, hy0⟩ : ∃ y, putW 69 1 = y := ⟨_, rfl⟩
  rw [hy0] at P0 E zy0
  clear hy0
  have zz := sumOf_zero (packHead (20 + b.size) i t p) (packTail s d) (by omega)
  have E2 : Hid (packTail s d = putW s 4 ++ putW d 4) := rfl
  have P1 := Lib.hid (putWordI (20 + b.size) 2)
  have P2 := Lib.hid (putWordI (i) 2)
  have P3 := Lib.hid (putWordI (t) 1)
  have P4 := Lib.hid (putWordI (p) 1)
  have P5 := Lib.hid (putWordI (s) 4)
  have P6 := Lib.hid (putWordI (d) 4)
  have zy1 := putW_le (20 + b.size) 2
  have zy2 := putW_le (i) 2
  have zy3 := putW_le (t) 1
  have zy4 := putW_le (p) 1
  have zy5 := putW_le (s) 4
  have zy6 := putW_le (d) 4
  obtain ⟨y1, hy1⟩ : ∃ y, putW (20 + b.size) 2 = y := ⟨_, rfl⟩
  rw [hy1] at P1 zy1 E
  clear hy1
  obtain ⟨y2, hy2⟩ : ∃ y, putW (i) 2 = y := ⟨_, rfl⟩
  rw [hy2] at P2 zy2 E
  clear hy2
  obtain ⟨y3, hy3⟩ : ∃ y, putW (t) 1 = y := ⟨_, rfl⟩
  rw [hy3] at P3 zy3 E
  clear hy3
  obtain ⟨y4, hy4⟩ : ∃ y, putW (p) 1 = y := ⟨_, rfl⟩
  rw [hy4] at P4 zy4 E
  clear hy4
  obtain ⟨y5, hy5⟩ : ∃ y, putW (s) 4 = y := ⟨_, rfl⟩
  rw [hy5] at P5 zy5 E2
  clear hy5
  obtain ⟨y6, hy6⟩ : ∃ y, putW (d) 4 = y := ⟨_, rfl⟩
  rw [hy6] at P6 zy6 E2
  clear hy6
  obtain ⟨H, hH⟩ : ∃ H : ByteArray, packHead (20 + b.size) i t p = H := ⟨_, rfl⟩
  obtain ⟨T, hT⟩ : ∃ T : ByteArray, packTail s d = T := ⟨_, rfl⟩
  rw [hH] at E eh zz
  rw [hT] at E2 zz
  rw [hH, hT, ← zz]
  clear zz
  clear hH hT ho
  have zH : H.size ≤ 40 := by omega
  have zT : T.size ≤ 12 := by rw [E2.out, ByteArray.size_append]; omega
  have SO := Lib.hid (sumOfI (H ++ ⟨#[0, 0]⟩ ++ T) (by simp only [ByteArray.size_append, eh]; show 10 + 2 + T.size ≤ _; omega))
  clear eh
  have P7 := Lib.hid (putWordI (sumOf (H ++ ⟨#[0, 0]⟩ ++ T)) 2)
  have z7 := putW_le (sumOf (H ++ ⟨#[0, 0]⟩ ++ T)) 2
  obtain ⟨c, hc⟩ : ∃ c, sumOf (H ++ ⟨#[0, 0]⟩ ++ T) = c := ⟨_, rfl⟩
  rw [hc] at SO P7 z7
  rw [hc]
  clear hc
  obtain ⟨k, hk⟩ : ∃ k, putW c 2 = k := ⟨_, rfl⟩
  rw [hk] at P7 z7
  rw [hk]
  clear hk
  have m0 : ¬ 9223372036854775807 < y0.size + 1 := by omega
  have m1 : ¬ 9223372036854775807 < y0.size + 1 + y1.size := by omega
  have m2 : ¬ 9223372036854775807 < y0.size + 1 + y1.size + y2.size := by omega
  have m3 : ¬ 9223372036854775807 < y0.size + 1 + y1.size + y2.size + 2 := by omega
  have m4 : ¬ 9223372036854775807 < y0.size + 1 + y1.size + y2.size + 2 + y3.size := by omega
  have m5 : ¬ 9223372036854775807 < y0.size + 1 + y1.size + y2.size + 2 + y3.size + y4.size := by omega
  have m6 : ¬ 9223372036854775807 < y5.size + y6.size := by omega
  have m7 : ¬ 9223372036854775807 < H.size + 2 := by omega
  have m8 : ¬ 9223372036854775807 < H.size + 2 + T.size := by omega
  have m9 : ¬ 9223372036854775807 < H.size + k.size := by omega
  have m10 : ¬ 9223372036854775807 < H.size + k.size + T.size := by omega
  have m11 : ¬ 9223372036854775807 < H.size + k.size + T.size + b.size := by omega
  clear zy0 zy1 zy2 zy3 zy4 zy5 zy6 zH zT z7 hz
  go_enter Tryz.func51, Tryz.ntmps51
  go_wp2_with fail
  refine (C1.out _).mono ?_
  rintro e w1 ⟨rfl, hb1⟩
  have B1 := Lib.hid (((Below.refl w.heap.size w).alloc (Nat.le_refl _) _).trans (hb1.mono (by simp)))
  have K1 := Lib.hid ((HasC.new w #[.int .i64 s, .int .i64 d, .int .i64 t, .int .i64 p, .int .i64 i, .string b] 30).keep hb1)
  clear hb1
  obtain ⟨c0, c1, c2, c3, c4, c5⟩ := K1.out.of6
  have hg := K1.out.1
  go_wp2_with fail
  go_region_held3 (fun w' => w.heap.size < w'.heap.size ∧ w'.cell? ⟨w.heap.size, 0, none⟩ = some (.int .i64 s) ∧ w'.cell? ⟨w.heap.size, 1, none⟩ = some (.int .i64 d) ∧ w'.cell? ⟨w.heap.size, 2, none⟩ = some (.int .i64 t) ∧ w'.cell? ⟨w.heap.size, 3, none⟩ = some (.int .i64 p) ∧ w'.cell? ⟨w.heap.size, 4, none⟩ = some (.int .i64 i) ∧ w'.cell? ⟨w.heap.size, 5, none⟩ = some (.string b))
   (first | (exact keep6 (by assumption) hb6) | (exact keep6 (by assumption) hb5) | (exact keep6 (by assumption) hb4) | (exact keep6 (by assumption) hb3) | (exact keep6 (by assumption) hb2) | go_keep)
   ((go_at_call 90; first | ((with_reducible refine (P0.out _).mono ?_); rintro e w2 ⟨rfl, hb2⟩) | ((with_reducible refine (P1.out _).mono ?_); rintro e w3 ⟨rfl, hb3⟩) | ((with_reducible refine (P2.out _).mono ?_); rintro e w4 ⟨rfl, hb4⟩) | ((with_reducible refine (P3.out _).mono ?_); rintro e w5 ⟨rfl, hb5⟩) | ((with_reducible refine (P4.out _).mono ?_); rintro e w6 ⟨rfl, hb6⟩)))
  have Bhb2 := Lib.hid (B1.out.drew.trans (hb2.mono (B1.out.drew).size))
  have Bhb3 := Lib.hid (Bhb2.out.trans (hb3.mono (Bhb2.out).size))
  have Bhb4 := Lib.hid (Bhb3.out.trans (hb4.mono (Bhb3.out).size))
  have Bhb5 := Lib.hid (Bhb4.out.trans (hb5.mono (Bhb4.out).size))
  have Bhb6 := Lib.hid (Bhb5.out.trans (hb6.mono (Bhb5.out).size))
  have K2 := Lib.hid ((((((K1.out.drew).keep hb2).keep hb3).keep hb4).keep hb5).keep hb6)
  clear c0 c1 c2 c3 c4 c5 hg K1 hb2 hb3 hb4 hb5 hb6
  rw [← E.out]
  clear E
  obtain ⟨c0, c1, c2, c3, c4, c5⟩ := K2.out.of6
  have hg := K2.out.1
  go_wp2_with fail
  go_region_held3 (fun w' => w.heap.size < w'.heap.size ∧ w'.cell? ⟨w.heap.size, 0, none⟩ = some (.int .i64 s) ∧ w'.cell? ⟨w.heap.size, 1, none⟩ = some (.int .i64 d) ∧ w'.cell? ⟨w.heap.size, 2, none⟩ = some (.int .i64 t) ∧ w'.cell? ⟨w.heap.size, 3, none⟩ = some (.int .i64 p) ∧ w'.cell? ⟨w.heap.size, 4, none⟩ = some (.int .i64 i) ∧ w'.cell? ⟨w.heap.size, 5, none⟩ = some (.string b))
   (first | (exact keep6 (by assumption) hb8) | (exact keep6 (by assumption) hb7) | go_keep)
   ((go_at_call 90; first | ((with_reducible refine (P5.out _).mono ?_); rintro e w7 ⟨rfl, hb7⟩) | ((with_reducible refine (P6.out _).mono ?_); rintro e w8 ⟨rfl, hb8⟩)))
  have Bhb7 := Lib.hid (Bhb6.out.drew.trans (hb7.mono (Bhb6.out.drew).size))
  have Bhb8 := Lib.hid (Bhb7.out.trans (hb8.mono (Bhb7.out).size))
  have K3 := Lib.hid (((K2.out.drew).keep hb7).keep hb8)
  clear c0 c1 c2 c3 c4 c5 hg K2 hb7 hb8
  rw [← E2.out]
  clear E2
  obtain ⟨c0, c1, c2, c3, c4, c5⟩ := K3.out.of6
  have hg := K3.out.1
  go_wp2_with fail
  go_region_held3 (fun w' => w.heap.size < w'.heap.size ∧ w'.cell? ⟨w.heap.size, 0, none⟩ = some (.int .i64 s) ∧ w'.cell? ⟨w.heap.size, 1, none⟩ = some (.int .i64 d) ∧ w'.cell? ⟨w.heap.size, 2, none⟩ = some (.int .i64 t) ∧ w'.cell? ⟨w.heap.size, 3, none⟩ = some (.int .i64 p) ∧ w'.cell? ⟨w.heap.size, 4, none⟩ = some (.int .i64 i) ∧ w'.cell? ⟨w.heap.size, 5, none⟩ = some (.string b))
   (first | (exact keep6 (by assumption) hb10) | (exact keep6 (by assumption) hb9) | go_keep)
   (first | (go_at_call 91; (with_reducible refine (SO.out _).mono ?_); rintro e w9 ⟨rfl, hb9⟩) | (go_at_call 90; (with_reducible refine (P7.out _).mono ?_); rintro e w10 ⟨rfl, hb10⟩))
  have Bhb9 := Lib.hid (Bhb8.out.drew.trans (hb9.mono (Bhb8.out.drew).size))
  have Bhb10 := Lib.hid (Bhb9.out.trans (hb10.mono (Bhb9.out).size))
  clear c0 c1 c2 c3 c4 c5 hg K3 hb10 hb9
  go_wp2_with fail
  go_ret
  exact ⟨rfl, Bhb10.out⟩
end Go.Proofs.YtkkimgjcefojdaaGreatDoor
namespace Go.Proofs.YtkkimgjcefojdaaGreatDoor
open Go.RowKit Go.Lib

theorem goodE_ip {r : ER} (h : goodE r) : I64 r.ip := by
 have h2 : IntKind.i64.min ≤ r.ip ∧ r.ip ≤ IntKind.i64.max := by simpa [Lit.wf] using h.1
 have e1 : IntKind.i64.min = -9223372036854775808 := by decide
 have e2 : IntKind.i64.max = 9223372036854775807 := by decide
 unfold I64
 omega

set_option maxRecDepth 100000 in
set_option maxHeartbeats 4000000 in
theorem drawLinkOut (a : Option Addr) (s : List UInt8) (cap : Nat) (w : World) (hrow : Row w w.heap.size a (byteCells s)) (hs : s.length ≤ 1048576) :
  Calls Tryz.prog 16 #[.slice a s.length cap] w fun e w' => ∃ (m ip : Int) (rs : List ER) (gg c : Nat) (dst : Int) (t : ByteArray), e = .returned (.tuple #[.agg #[.int .i64 m, .int .i64 ip, .slice (some ⟨gg, 0, none⟩) rs.length c], .int .i64 dst, .string t]) ∧ (I64 dst ∧ t.size ≤ 1600) ∧ DrawnL m ip rs gg c w w' := by
 have HR := Lib.hid hrow
 clear hrow
 go_enter Tryz.func16, Tryz.ntmps16
 have B0 := Lib.hid (show Below w.heap.size w (w.alloc (.cells #[.int .i64 0, .int .i64 0, .slice none 0 0] 26)) from (Below.refl _ w).alloc (Nat.le_refl _) _)
 have K0 := Lib.hid (Blk.new w [.int .i64 0, .int .i64 0, .slice none 0 0] 26)
 go_wp2_with fail
 generalize w.alloc (.cells #[.int .i64 0, .int .i64 0, .slice none 0 0] 26) = v0 at B0 K0 ⊢
 generalize hh : w.heap.size = gr at K0 ⊢
 have l_r : w.heap.size ≤ gr := Nat.le_of_eq hh
 clear hh
 have hr0 := K0.out.lt
 refine (l1New_any a s cap v0 ((HR.out.below B0.out).mono B0.out.size) hs).mono ?_
 rintro e v1 ⟨g, rfl, hc1, hb1⟩
 have C1 := Lib.hid hc1
 have L1 := Lib.hid hc1
 have G1 := Lib.hid (World.grownBy.refl v1 (some g))
 have B1 := Lib.hid hb1
 have Kr1 := Lib.hid (K0.out.below hb1)
 have c_r : gr ≠ g := by have := hc1.1; omega
 have hv1 : v0.heap.size ≤ v1.heap.size := hb1.size
 clear hc1 hb1 K0 HR hs
 obtain ⟨⟨cr0, cr1, cr2⟩, dr0, dr1, dr2⟩ := Kr1.out.o3
 go_wp2_with fail
 clear cr0 cr1 cr2 dr0 dr1 dr2
 refine (l16Bent_any _ g _ C1.out).mono ?_
 rintro e v2 ⟨m, ip, rs, gg, c, rfl, hn, ho, hcu, hgr⟩
 have Kr2 := Lib.hid (Kr1.out.grown hgr c_r)
 have G2 := Lib.hid (grown_tr G1.out hgr)
 have C2 := Lib.hid hcu
 clear hcu hgr Kr1 G1 C1
 have De2 := Lib.hid (show DrnE v1.heap.size g gg c rs v2 from ⟨ho, by have h1 := (ho.lt gg rfl).1; have h2 := L1.out.lt; omega⟩)
 have ne_r : gr ≠ gg := by have h1 := (ho.lt gg rfl).1; omega
 have HN := Lib.hid hn
 have hgl := De2.out.lt.2
 clear ho hn
 have hBg : v0.heap.size ≤ g := L1.out.1
 have Kr3 := Lib.hid (Kr2.out.alloc (.cells #[.int .i64 m, .int .i64 ip, .slice (some ⟨gg, 0, none⟩) rs.length c] 26))
 have n_r_l : gr ≠ v2.heap.size := by have h1 := Kr2.out.lt; omega
 have De3 := Lib.hid (De2.out.alloc (.cells #[.int .i64 m, .int .i64 ip, .slice (some ⟨gg, 0, none⟩) rs.length c] 26))
 have Kl3 := Lib.hid (Blk.new v2 [.int .i64 m, .int .i64 ip, .slice (some ⟨gg, 0, none⟩) rs.length c] 26)
 have G3 := Lib.hid (grown_new G2.out (.cells #[.int .i64 m, .int .i64 ip, .slice (some ⟨gg, 0, none⟩) rs.length c] 26))
 have C3 := Lib.hid (C2.out.new (.cells #[.int .i64 m, .int .i64 ip, .slice (some ⟨gg, 0, none⟩) rs.length c] 26))
 have l_l : w.heap.size ≤ v2.heap.size := by have h1 := G2.out.size; have h2 := B0.out.size; omega
 have c_l : v2.heap.size ≠ g := Nat.ne_of_gt C2.out.lt
 have b_l : v0.heap.size ≤ v2.heap.size := by have h1 := C2.out.lt; omega
 clear Kr2 De2 G2 C2
 obtain ⟨⟨cr0, cr1, cr2⟩, dr0, dr1, dr2⟩ := Kr3.out.o3
 obtain ⟨⟨cl0, cl1, cl2⟩, dl0, dl1, dl2⟩ := Kl3.out.o3
 go_wp2_with fail
 clear cr0 cr1 cr2 dr0 dr1 dr2 cl0 cl1 cl2 dl0 dl1 dl2
 generalize v2.alloc (.cells #[.int .i64 m, .int .i64 ip, .slice (some ⟨gg, 0, none⟩) rs.length c] 26) = v3 at Kr3 Kl3 De3 C3 G3 ⊢
 generalize hh : v2.heap.size = g_l at Kl3 l_l c_l b_l n_r_l  hgl ⊢
 clear hh
 have ne_l : g_l ≠ gg := by omega
 clear hgl
 refine (l1Below_pos _ g _ C3.out 7 (by omega) (by omega)).mono ?_
 rintro e v4 ⟨p, rfl, hp, hcu, hgr⟩
 have Kr4 := Lib.hid (Kr3.out.grown hgr c_r)
 have Kl4 := Lib.hid (Kl3.out.grown hgr c_l)
 have De4 := Lib.hid (De3.out.grown hgr)
 have G4 := Lib.hid (grown_tr G3.out hgr)
 have C4 := Lib.hid hcu
 clear hcu hgr Kr3 Kl3 De3 G3 C3
 have hpw : IntKind.i64.wrap (167772160 + p) = 167772160 + p := IntWalk.i64_in _ (by omega)
 by_cases h0 : 0 < rs.length
 case neg =>
  have h0' : ¬ (0 : Int) < (rs.length : Int) := by omega
  have HP := Lib.hid hp
  obtain ⟨⟨cr0, cr1, cr2⟩, dr0, dr1, dr2⟩ := Kr4.out.o3
  obtain ⟨⟨cl0, cl1, cl2⟩, dl0, dl1, dl2⟩ := Kl4.out.o3
  go_wp2_with fail
  clear cr0 cr1 cr2 dr0 dr1 dr2 cl0 cl1 cl2 dl0 dl1 dl2
  refine (l1Below_pos _ g _ C4.out 4 (by omega) (by omega)).mono ?_
  rintro e v5 ⟨u, rfl, hu, hcu, hgr⟩
  have Kr5 := Lib.hid (Kr4.out.grown hgr c_r)
  have Kl5 := Lib.hid (Kl4.out.grown hgr c_l)
  have De5 := Lib.hid (De4.out.grown hgr)
  have G5 := Lib.hid (grown_tr G4.out hgr)
  have C5 := Lib.hid hcu
  clear hcu hgr Kr4 Kl4 De4 G4 C4
  obtain ⟨n, rfl⟩ : ∃ n : Nat, u = (n : Int) := ⟨u.toNat, by omega⟩
  obtain ⟨⟨cr0, cr1, cr2⟩, dr0, dr1, dr2⟩ := Kr5.out.o3
  obtain ⟨⟨cl0, cl1, cl2⟩, dl0, dl1, dl2⟩ := Kl5.out.o3
  go_wp2_with fail
  clear cr0 cr1 cr2 dr0 dr1 dr2 cl0 cl1 cl2 dl0 dl1 dl2
  refine (l1Bytes_any _ g n _ C5.out (by omega)).mono ?_
  rintro e v6 ⟨ub, lb, rfl, hlb, hob, hcu, hgr⟩
  have hcv := run_string_own (P := Tryz.prog) Tryz.underlying22 Tryz.underlying5 Tryz.underlying9 hob
  have hsz : (⟨lb.toArray⟩ : ByteArray).size ≤ 1600 := by simp [ByteArray.size]; omega
  generalize (⟨lb.toArray⟩ : ByteArray) = pb at hcv hsz
  have Kr6 := Lib.hid (Kr5.out.grown hgr c_r)
  have Kl6 := Lib.hid (Kl5.out.grown hgr c_l)
  have De6 := Lib.hid (De5.out.grown hgr)
  have G6 := Lib.hid (grown_tr G5.out hgr)
  have C6 := Lib.hid hcu
  clear hcu hgr Kr5 Kl5 De5 G5 C5
  clear hlb hob hu
  obtain ⟨⟨cr0, cr1, cr2⟩, dr0, dr1, dr2⟩ := Kr6.out.o3
  obtain ⟨⟨cl0, cl1, cl2⟩, dl0, dl1, dl2⟩ := Kl6.out.o3
  go_wp2_with fail
  clear cr0 cr1 cr2 dr0 dr1 dr2 cl0 cl1 cl2 dl0 dl1 dl2
  clear hcv
  refine (l1Once_any _ g _ C6.out 16 (by omega) (by omega)).mono ?_
  rintro e v7 ⟨b, rfl, hcu, hgr⟩
  have Kr7 := Lib.hid (Kr6.out.grown hgr c_r)
  have Kl7 := Lib.hid (Kl6.out.grown hgr c_l)
  have De7 := Lib.hid (De6.out.grown hgr)
  have G7 := Lib.hid (grown_tr G6.out hgr)
  have C7 := Lib.hid hcu
  clear hcu hgr Kr6 Kl6 De6 G6 C6
  cases b with
  | false =>
   have hz : w.heap.size ≤ v0.heap.size := B0.out.size
   obtain ⟨⟨cr0, cr1, cr2⟩, dr0, dr1, dr2⟩ := Kr7.out.o3
   obtain ⟨⟨cl0, cl1, cl2⟩, dl0, dl1, dl2⟩ := Kl7.out.o3
   go_wp2_with fail
   exact bodyPost_ret (v := .tuple #[.agg #[.int .i64 m, .int .i64 ip, .slice (some ⟨gg, 0, none⟩) rs.length c], .int .i64 (167772160 + p), .string pb]) (by simp [results, Tryz.results16, go_sem, cr0, cr1, cr2]) rfl ⟨m, ip, rs, gg, c, (167772160 + p), pb, rfl, ⟨⟨by have := HP.out; omega, by have := HP.out; omega⟩, hsz⟩, HN.out.1, HN.out.2.1, HN.out.2.2.1, HN.out.2.2.2, (own_cap De7.out.1).1, Row.ownK (((De7.out.set (b := gr) 0 _ ne_r).set (b := gr) 1 _ ne_r).set (b := gr) 2 _ ne_r).1, ((((B0.out.trans ((below_new B1.out L1.out G7.out).mono hz)).setCell l_r _).setCell l_r _).setCell l_r _)⟩
  | true =>
   obtain ⟨⟨cr0, cr1, cr2⟩, dr0, dr1, dr2⟩ := Kr7.out.o3
   obtain ⟨⟨cl0, cl1, cl2⟩, dl0, dl1, dl2⟩ := Kl7.out.o3
   go_wp2_with fail
   clear cr0 cr1 cr2 dr0 dr1 dr2 cl0 cl1 cl2 dl0 dl1 dl2
   refine (l1Below_pos _ g _ C7.out 3 (by omega) (by omega)).mono ?_
   rintro e v8 ⟨q, rfl, hq, hcu, hgr⟩
   have Kr8 := Lib.hid (Kr7.out.grown hgr c_r)
   have Kl8 := Lib.hid (Kl7.out.grown hgr c_l)
   have De8 := Lib.hid (De7.out.grown hgr)
   have G8 := Lib.hid (grown_tr G7.out hgr)
   have C8 := Lib.hid hcu
   clear hcu hgr Kr7 Kl7 De7 G7 C7
   obtain ⟨q, rfl⟩ : ∃ n : Nat, q = (n : Int) := ⟨q.toNat, by omega⟩
   have hqw : IntKind.i64.wrap (1479 + (q : Int)) = ((1479 + q : Nat) : Int) := by rw [IntWalk.i64_in _ (by omega)]; omega
   obtain ⟨⟨cr0, cr1, cr2⟩, dr0, dr1, dr2⟩ := Kr8.out.o3
   obtain ⟨⟨cl0, cl1, cl2⟩, dl0, dl1, dl2⟩ := Kl8.out.o3
   go_wp2_with fail
   clear cr0 cr1 cr2 dr0 dr1 dr2 cl0 cl1 cl2 dl0 dl1 dl2
   refine (l5Long_any (1479 + q) (by omega) _).mono ?_
   rintro e v9 ⟨lt, rfl, hlz, hb⟩
   have Kr9 := Lib.hid (Kr8.out.below hb)
   have Kl9 := Lib.hid (Kl8.out.below hb)
   have De9 := Lib.hid (De8.out.below hb)
   have G9 := Lib.hid (grown_tr G8.out (below_any hb))
   have C9 := Lib.hid (C8.out.below hb)
   clear hb Kr8 Kl8 De8 G8 C8
   clear hqw
   have hz : w.heap.size ≤ v0.heap.size := B0.out.size
   obtain ⟨⟨cr0, cr1, cr2⟩, dr0, dr1, dr2⟩ := Kr9.out.o3
   obtain ⟨⟨cl0, cl1, cl2⟩, dl0, dl1, dl2⟩ := Kl9.out.o3
   go_wp2_with fail
   exact bodyPost_ret (v := .tuple #[.agg #[.int .i64 m, .int .i64 ip, .slice (some ⟨gg, 0, none⟩) rs.length c], .int .i64 (167772160 + p), .string lt]) (by simp [results, Tryz.results16, go_sem, cr0, cr1, cr2]) rfl ⟨m, ip, rs, gg, c, (167772160 + p), lt, rfl, ⟨⟨by have := HP.out; omega, by have := HP.out; omega⟩, by omega⟩, HN.out.1, HN.out.2.1, HN.out.2.2.1, HN.out.2.2.2, (own_cap De9.out.1).1, Row.ownK (((De9.out.set (b := gr) 0 _ ne_r).set (b := gr) 1 _ ne_r).set (b := gr) 2 _ ne_r).1, ((((B0.out.trans ((below_new B1.out L1.out G9.out).mono hz)).setCell l_r _).setCell l_r _).setCell l_r _)⟩
 case pos =>
  have h0' : (0 : Int) < (rs.length : Int) := by omega
  obtain ⟨⟨cr0, cr1, cr2⟩, dr0, dr1, dr2⟩ := Kr4.out.o3
  obtain ⟨⟨cl0, cl1, cl2⟩, dl0, dl1, dl2⟩ := Kl4.out.o3
  go_wp2_with fail
  clear cr0 cr1 cr2 dr0 dr1 dr2 cl0 cl1 cl2 dl0 dl1 dl2
  refine (l1Once_any _ g _ C4.out 2 (by omega) (by omega)).mono ?_
  rintro e v5 ⟨b, rfl, hcu, hgr⟩
  have Kr5 := Lib.hid (Kr4.out.grown hgr c_r)
  have Kl5 := Lib.hid (Kl4.out.grown hgr c_l)
  have De5 := Lib.hid (De4.out.grown hgr)
  have G5 := Lib.hid (grown_tr G4.out hgr)
  have C5 := Lib.hid hcu
  clear hcu hgr Kr4 Kl4 De4 G4 C4
  cases b with
  | false =>
   have HP := Lib.hid hp
   obtain ⟨⟨cr0, cr1, cr2⟩, dr0, dr1, dr2⟩ := Kr5.out.o3
   obtain ⟨⟨cl0, cl1, cl2⟩, dl0, dl1, dl2⟩ := Kl5.out.o3
   go_wp2_with fail
   clear cr0 cr1 cr2 dr0 dr1 dr2 cl0 cl1 cl2 dl0 dl1 dl2
   refine (l1Below_pos _ g _ C5.out 4 (by omega) (by omega)).mono ?_
   rintro e v6 ⟨u, rfl, hu, hcu, hgr⟩
   have Kr6 := Lib.hid (Kr5.out.grown hgr c_r)
   have Kl6 := Lib.hid (Kl5.out.grown hgr c_l)
   have De6 := Lib.hid (De5.out.grown hgr)
   have G6 := Lib.hid (grown_tr G5.out hgr)
   have C6 := Lib.hid hcu
   clear hcu hgr Kr5 Kl5 De5 G5 C5
   obtain ⟨n, rfl⟩ : ∃ n : Nat, u = (n : Int) := ⟨u.toNat, by omega⟩
   obtain ⟨⟨cr0, cr1, cr2⟩, dr0, dr1, dr2⟩ := Kr6.out.o3
   obtain ⟨⟨cl0, cl1, cl2⟩, dl0, dl1, dl2⟩ := Kl6.out.o3
   go_wp2_with fail
   clear cr0 cr1 cr2 dr0 dr1 dr2 cl0 cl1 cl2 dl0 dl1 dl2
   refine (l1Bytes_any _ g n _ C6.out (by omega)).mono ?_
   rintro e v7 ⟨ub, lb, rfl, hlb, hob, hcu, hgr⟩
   have hcv := run_string_own (P := Tryz.prog) Tryz.underlying22 Tryz.underlying5 Tryz.underlying9 hob
   have hsz : (⟨lb.toArray⟩ : ByteArray).size ≤ 1600 := by simp [ByteArray.size]; omega
   generalize (⟨lb.toArray⟩ : ByteArray) = pb at hcv hsz
   have Kr7 := Lib.hid (Kr6.out.grown hgr c_r)
   have Kl7 := Lib.hid (Kl6.out.grown hgr c_l)
   have De7 := Lib.hid (De6.out.grown hgr)
   have G7 := Lib.hid (grown_tr G6.out hgr)
   have C7 := Lib.hid hcu
   clear hcu hgr Kr6 Kl6 De6 G6 C6
   clear hlb hob hu
   obtain ⟨⟨cr0, cr1, cr2⟩, dr0, dr1, dr2⟩ := Kr7.out.o3
   obtain ⟨⟨cl0, cl1, cl2⟩, dl0, dl1, dl2⟩ := Kl7.out.o3
   go_wp2_with fail
   clear cr0 cr1 cr2 dr0 dr1 dr2 cl0 cl1 cl2 dl0 dl1 dl2
   clear hcv
   refine (l1Once_any _ g _ C7.out 16 (by omega) (by omega)).mono ?_
   rintro e v8 ⟨b, rfl, hcu, hgr⟩
   have Kr8 := Lib.hid (Kr7.out.grown hgr c_r)
   have Kl8 := Lib.hid (Kl7.out.grown hgr c_l)
   have De8 := Lib.hid (De7.out.grown hgr)
   have G8 := Lib.hid (grown_tr G7.out hgr)
   have C8 := Lib.hid hcu
   clear hcu hgr Kr7 Kl7 De7 G7 C7
   cases b with
   | false =>
    have hz : w.heap.size ≤ v0.heap.size := B0.out.size
    obtain ⟨⟨cr0, cr1, cr2⟩, dr0, dr1, dr2⟩ := Kr8.out.o3
    obtain ⟨⟨cl0, cl1, cl2⟩, dl0, dl1, dl2⟩ := Kl8.out.o3
    go_wp2_with fail
    exact bodyPost_ret (v := .tuple #[.agg #[.int .i64 m, .int .i64 ip, .slice (some ⟨gg, 0, none⟩) rs.length c], .int .i64 (167772160 + p), .string pb]) (by simp [results, Tryz.results16, go_sem, cr0, cr1, cr2]) rfl ⟨m, ip, rs, gg, c, (167772160 + p), pb, rfl, ⟨⟨by have := HP.out; omega, by have := HP.out; omega⟩, hsz⟩, HN.out.1, HN.out.2.1, HN.out.2.2.1, HN.out.2.2.2, (own_cap De8.out.1).1, Row.ownK (((De8.out.set (b := gr) 0 _ ne_r).set (b := gr) 1 _ ne_r).set (b := gr) 2 _ ne_r).1, ((((B0.out.trans ((below_new B1.out L1.out G8.out).mono hz)).setCell l_r _).setCell l_r _).setCell l_r _)⟩
   | true =>
    obtain ⟨⟨cr0, cr1, cr2⟩, dr0, dr1, dr2⟩ := Kr8.out.o3
    obtain ⟨⟨cl0, cl1, cl2⟩, dl0, dl1, dl2⟩ := Kl8.out.o3
    go_wp2_with fail
    clear cr0 cr1 cr2 dr0 dr1 dr2 cl0 cl1 cl2 dl0 dl1 dl2
    refine (l1Below_pos _ g _ C8.out 3 (by omega) (by omega)).mono ?_
    rintro e v9 ⟨q, rfl, hq, hcu, hgr⟩
    have Kr9 := Lib.hid (Kr8.out.grown hgr c_r)
    have Kl9 := Lib.hid (Kl8.out.grown hgr c_l)
    have De9 := Lib.hid (De8.out.grown hgr)
    have G9 := Lib.hid (grown_tr G8.out hgr)
    have C9 := Lib.hid hcu
    clear hcu hgr Kr8 Kl8 De8 G8 C8
    obtain ⟨q, rfl⟩ : ∃ n : Nat, q = (n : Int) := ⟨q.toNat, by omega⟩
    have hqw : IntKind.i64.wrap (1479 + (q : Int)) = ((1479 + q : Nat) : Int) := by rw [IntWalk.i64_in _ (by omega)]; omega
    obtain ⟨⟨cr0, cr1, cr2⟩, dr0, dr1, dr2⟩ := Kr9.out.o3
    obtain ⟨⟨cl0, cl1, cl2⟩, dl0, dl1, dl2⟩ := Kl9.out.o3
    go_wp2_with fail
    clear cr0 cr1 cr2 dr0 dr1 dr2 cl0 cl1 cl2 dl0 dl1 dl2
    refine (l5Long_any (1479 + q) (by omega) _).mono ?_
    rintro e v10 ⟨lt, rfl, hlz, hb⟩
    have Kr10 := Lib.hid (Kr9.out.below hb)
    have Kl10 := Lib.hid (Kl9.out.below hb)
    have De10 := Lib.hid (De9.out.below hb)
    have G10 := Lib.hid (grown_tr G9.out (below_any hb))
    have C10 := Lib.hid (C9.out.below hb)
    clear hb Kr9 Kl9 De9 G9 C9
    clear hqw
    have hz : w.heap.size ≤ v0.heap.size := B0.out.size
    obtain ⟨⟨cr0, cr1, cr2⟩, dr0, dr1, dr2⟩ := Kr10.out.o3
    obtain ⟨⟨cl0, cl1, cl2⟩, dl0, dl1, dl2⟩ := Kl10.out.o3
    go_wp2_with fail
    exact bodyPost_ret (v := .tuple #[.agg #[.int .i64 m, .int .i64 ip, .slice (some ⟨gg, 0, none⟩) rs.length c], .int .i64 (167772160 + p), .string lt]) (by simp [results, Tryz.results16, go_sem, cr0, cr1, cr2]) rfl ⟨m, ip, rs, gg, c, (167772160 + p), lt, rfl, ⟨⟨by have := HP.out; omega, by have := HP.out; omega⟩, by omega⟩, HN.out.1, HN.out.2.1, HN.out.2.2.1, HN.out.2.2.2, (own_cap De10.out.1).1, Row.ownK (((De10.out.set (b := gr) 0 _ ne_r).set (b := gr) 1 _ ne_r).set (b := gr) 2 _ ne_r).1, ((((B0.out.trans ((below_new B1.out L1.out G10.out).mono hz)).setCell l_r _).setCell l_r _).setCell l_r _)⟩
  | true =>
   have hd0 := (De5.out.1.cellAt (0 * 3) (by omega)).trans (ers_ip rs 0 h0)
   simp only [Nat.zero_mul] at hd0
   have HW := Lib.hid (HN.out.2.2.2 rs[0] (List.getElem_mem h0))
   have h01 : (0 : Int) < (rs.length : Int) := h0'
   obtain ⟨⟨cr0, cr1, cr2⟩, dr0, dr1, dr2⟩ := Kr5.out.o3
   obtain ⟨⟨cl0, cl1, cl2⟩, dl0, dl1, dl2⟩ := Kl5.out.o3
   go_wp2_with fail
   clear cr0 cr1 cr2 dr0 dr1 dr2 cl0 cl1 cl2 dl0 dl1 dl2
   refine (l1Below_pos _ g _ C5.out 4 (by omega) (by omega)).mono ?_
   rintro e v6 ⟨u, rfl, hu, hcu, hgr⟩
   have Kr6 := Lib.hid (Kr5.out.grown hgr c_r)
   have Kl6 := Lib.hid (Kl5.out.grown hgr c_l)
   have De6 := Lib.hid (De5.out.grown hgr)
   have G6 := Lib.hid (grown_tr G5.out hgr)
   have C6 := Lib.hid hcu
   clear hcu hgr Kr5 Kl5 De5 G5 C5
   obtain ⟨n, rfl⟩ : ∃ n : Nat, u = (n : Int) := ⟨u.toNat, by omega⟩
   obtain ⟨⟨cr0, cr1, cr2⟩, dr0, dr1, dr2⟩ := Kr6.out.o3
   obtain ⟨⟨cl0, cl1, cl2⟩, dl0, dl1, dl2⟩ := Kl6.out.o3
   go_wp2_with fail
   clear cr0 cr1 cr2 dr0 dr1 dr2 cl0 cl1 cl2 dl0 dl1 dl2
   refine (l1Bytes_any _ g n _ C6.out (by omega)).mono ?_
   rintro e v7 ⟨ub, lb, rfl, hlb, hob, hcu, hgr⟩
   have hcv := run_string_own (P := Tryz.prog) Tryz.underlying22 Tryz.underlying5 Tryz.underlying9 hob
   have hsz : (⟨lb.toArray⟩ : ByteArray).size ≤ 1600 := by simp [ByteArray.size]; omega
   generalize (⟨lb.toArray⟩ : ByteArray) = pb at hcv hsz
   have Kr7 := Lib.hid (Kr6.out.grown hgr c_r)
   have Kl7 := Lib.hid (Kl6.out.grown hgr c_l)
   have De7 := Lib.hid (De6.out.grown hgr)
   have G7 := Lib.hid (grown_tr G6.out hgr)
   have C7 := Lib.hid hcu
   clear hcu hgr Kr6 Kl6 De6 G6 C6
   clear hlb hob hu
   obtain ⟨⟨cr0, cr1, cr2⟩, dr0, dr1, dr2⟩ := Kr7.out.o3
   obtain ⟨⟨cl0, cl1, cl2⟩, dl0, dl1, dl2⟩ := Kl7.out.o3
   go_wp2_with fail
   clear cr0 cr1 cr2 dr0 dr1 dr2 cl0 cl1 cl2 dl0 dl1 dl2
   clear hcv
   refine (l1Once_any _ g _ C7.out 16 (by omega) (by omega)).mono ?_
   rintro e v8 ⟨b, rfl, hcu, hgr⟩
   have Kr8 := Lib.hid (Kr7.out.grown hgr c_r)
   have Kl8 := Lib.hid (Kl7.out.grown hgr c_l)
   have De8 := Lib.hid (De7.out.grown hgr)
   have G8 := Lib.hid (grown_tr G7.out hgr)
   have C8 := Lib.hid hcu
   clear hcu hgr Kr7 Kl7 De7 G7 C7
   cases b with
   | false =>
    have hz : w.heap.size ≤ v0.heap.size := B0.out.size
    obtain ⟨⟨cr0, cr1, cr2⟩, dr0, dr1, dr2⟩ := Kr8.out.o3
    obtain ⟨⟨cl0, cl1, cl2⟩, dl0, dl1, dl2⟩ := Kl8.out.o3
    go_wp2_with fail
    exact bodyPost_ret (v := .tuple #[.agg #[.int .i64 m, .int .i64 ip, .slice (some ⟨gg, 0, none⟩) rs.length c], .int .i64 rs[0].ip, .string pb]) (by simp [results, Tryz.results16, go_sem, cr0, cr1, cr2]) rfl ⟨m, ip, rs, gg, c, rs[0].ip, pb, rfl, ⟨goodE_ip HW.out, hsz⟩, HN.out.1, HN.out.2.1, HN.out.2.2.1, HN.out.2.2.2, (own_cap De8.out.1).1, Row.ownK (((De8.out.set (b := gr) 0 _ ne_r).set (b := gr) 1 _ ne_r).set (b := gr) 2 _ ne_r).1, ((((B0.out.trans ((below_new B1.out L1.out G8.out).mono hz)).setCell l_r _).setCell l_r _).setCell l_r _)⟩
   | true =>
    obtain ⟨⟨cr0, cr1, cr2⟩, dr0, dr1, dr2⟩ := Kr8.out.o3
    obtain ⟨⟨cl0, cl1, cl2⟩, dl0, dl1, dl2⟩ := Kl8.out.o3
    go_wp2_with fail
    clear cr0 cr1 cr2 dr0 dr1 dr2 cl0 cl1 cl2 dl0 dl1 dl2
    refine (l1Below_pos _ g _ C8.out 3 (by omega) (by omega)).mono ?_
    rintro e v9 ⟨q, rfl, hq, hcu, hgr⟩
    have Kr9 := Lib.hid (Kr8.out.grown hgr c_r)
    have Kl9 := Lib.hid (Kl8.out.grown hgr c_l)
    have De9 := Lib.hid (De8.out.grown hgr)
    have G9 := Lib.hid (grown_tr G8.out hgr)
    have C9 := Lib.hid hcu
    clear hcu hgr Kr8 Kl8 De8 G8 C8
    obtain ⟨q, rfl⟩ : ∃ n : Nat, q = (n : Int) := ⟨q.toNat, by omega⟩
    have hqw : IntKind.i64.wrap (1479 + (q : Int)) = ((1479 + q : Nat) : Int) := by rw [IntWalk.i64_in _ (by omega)]; omega
    obtain ⟨⟨cr0, cr1, cr2⟩, dr0, dr1, dr2⟩ := Kr9.out.o3
    obtain ⟨⟨cl0, cl1, cl2⟩, dl0, dl1, dl2⟩ := Kl9.out.o3
    go_wp2_with fail
    clear cr0 cr1 cr2 dr0 dr1 dr2 cl0 cl1 cl2 dl0 dl1 dl2
    refine (l5Long_any (1479 + q) (by omega) _).mono ?_
    rintro e v10 ⟨lt, rfl, hlz, hb⟩
    have Kr10 := Lib.hid (Kr9.out.below hb)
    have Kl10 := Lib.hid (Kl9.out.below hb)
    have De10 := Lib.hid (De9.out.below hb)
    have G10 := Lib.hid (grown_tr G9.out (below_any hb))
    have C10 := Lib.hid (C9.out.below hb)
    clear hb Kr9 Kl9 De9 G9 C9
    clear hqw
    have hz : w.heap.size ≤ v0.heap.size := B0.out.size
    obtain ⟨⟨cr0, cr1, cr2⟩, dr0, dr1, dr2⟩ := Kr10.out.o3
    obtain ⟨⟨cl0, cl1, cl2⟩, dl0, dl1, dl2⟩ := Kl10.out.o3
    go_wp2_with fail
    exact bodyPost_ret (v := .tuple #[.agg #[.int .i64 m, .int .i64 ip, .slice (some ⟨gg, 0, none⟩) rs.length c], .int .i64 rs[0].ip, .string lt]) (by simp [results, Tryz.results16, go_sem, cr0, cr1, cr2]) rfl ⟨m, ip, rs, gg, c, rs[0].ip, lt, rfl, ⟨goodE_ip HW.out, by omega⟩, HN.out.1, HN.out.2.1, HN.out.2.2.1, HN.out.2.2.2, (own_cap De10.out.1).1, Row.ownK (((De10.out.set (b := gr) 0 _ ne_r).set (b := gr) 1 _ ne_r).set (b := gr) 2 _ ne_r).1, ((((B0.out.trans ((below_new B1.out L1.out G10.out).mono hz)).setCell l_r _).setCell l_r _).setCell l_r _)⟩
end Go.Proofs.YtkkimgjcefojdaaGreatDoor
