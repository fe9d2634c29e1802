/- Texts of a proof that belong together, joined. Nothing here is a claim. -/
import Derived.Test.YtkkimgjcefojdaaGreatDoorPkLk3
namespace Go.Proofs.YtkkimgjcefojdaaGreatDoor
open Go.RowKit Go.Lib

end Go.Proofs.YtkkimgjcefojdaaGreatDoor
namespace Go.Proofs.YtkkimgjcefojdaaGreatDoor
open Go.RowKit Go.Lib

end Go.Proofs.YtkkimgjcefojdaaGreatDoor
namespace Go.Proofs.YtkkimgjcefojdaaGreatDoor
open Go.RowKit Go.Lib

end Go.Proofs.YtkkimgjcefojdaaGreatDoor
namespace Go.Proofs.YtkkimgjcefojdaaGreatDoor
open Go.RowKit Go.Lib

end Go.Proofs.YtkkimgjcefojdaaGreatDoor
namespace Go.Proofs.YtkkimgjcefojdaaGreatDoor
open Go.RowKit Go.Lib

end Go.Proofs.YtkkimgjcefojdaaGreatDoor
namespace Go.Proofs.YtkkimgjcefojdaaGreatDoor
open Go.RowKit Go.Lib

theorem gw_div (s : ByteArray) (a j : Nat) : gw s a (j + 1) / 256 = gw s a j := by
 have h := (at8 s (a + j)).toNat_lt
 simp only [gw]; omega
theorem gw_divs (s : ByteArray) (a j d : Nat) : gw s a (j + d) / 256 ^ d = gw s a j := by
 induction d with
 | zero => simp
 | succ d ih => rw [Nat.pow_succ, Nat.mul_comm, ← Nat.div_div_eq_div_mul, ← Nat.add_assoc, gw_div, ih]
theorem wb_gw (s : ByteArray) (a k i : Nat) (h : i < k) : wbAt (gw s a k) k i = at8 s (a + i) := by
 apply UInt8.toNat_inj.1
 have h8 := (at8 s (a + i)).toNat_lt
 rw [wbAt_nat, show gw s a k = gw s a ((i + 1) + (k - 1 - i)) by rw [show (i + 1) + (k - 1 - i) = k by omega], gw_divs]
 simp only [gw]; omega

/-- The bytes of s from a on, k of them. -/
def cutB (s : ByteArray) (a k : Nat) : List UInt8 := (s.data.toList.drop a).take k
theorem wb_cut (s : ByteArray) (a k : Nat) (h : a + k ≤ s.size) : wb (gw s a k) k = cutB s a k := by
 apply List.ext_getElem?
 intro i
 by_cases hi : i < k
 ·rw [wb_get _ _ _ hi, wb_gw s a k i hi]
  have h2 : a + i < s.data.toList.length := by rw [Array.length_toList, ByteArray.size_data]; omega
  unfold cutB
  rw [List.getElem?_take, if_pos hi, List.getElem?_drop, List.getElem?_eq_getElem h2]
  unfold at8; rw [List.getD_eq_getElem?_getD, List.getElem?_eq_getElem h2]; rfl
 ·unfold cutB
  rw [List.getElem?_eq_none (by rw [wb_length]; omega), List.getElem?_eq_none (by simp; omega)]
theorem put_get (s : ByteArray) (a k : Nat) (hk : 1 ≤ k ∧ k ≤ 6) (h : a + k ≤ s.size) : putW (gw s a k) k = ⟨(cutB s a k).toArray⟩ := by
 unfold putW
 have h1 := gw_lt s a k
 rw [if_pos]
 ·rw [← wb_cut s a k h]; simp
 ·refine ⟨by omega, by omega, ?_⟩
  rw [show (8 * (k : Int)).toNat = 8 * k by omega]
  have h2 : (2 : Nat) ^ (8 * k) = 256 ^ k := pow8 k
  have h3 : gw s a k < 2 ^ (8 * k) := by rw [h2]; exact h1
  exact_mod_cast h3

theorem cut_extract (s : ByteArray) (a k : Nat) : (⟨(cutB s a k).toArray⟩ : ByteArray) = s.extract a (a + k) := by
 apply ByteArray.ext
 apply Array.toList_inj.1
 unfold cutB
 simp [ByteArray.data_extract, List.extract_eq_take_drop]
end Go.Proofs.YtkkimgjcefojdaaGreatDoor
namespace Go.Proofs.YtkkimgjcefojdaaGreatDoor
open Go.RowKit Go.Lib

end Go.Proofs.YtkkimgjcefojdaaGreatDoor
namespace Go.Proofs.YtkkimgjcefojdaaGreatDoor
open Go.RowKit Go.Lib

end Go.Proofs.YtkkimgjcefojdaaGreatDoor
namespace Go.Proofs.YtkkimgjcefojdaaGreatDoor
open Go.RowKit Go.Lib

end Go.Proofs.YtkkimgjcefojdaaGreatDoor
namespace Go.Proofs.YtkkimgjcefojdaaGreatDoor
open Go.RowKit Go.Lib

end Go.Proofs.YtkkimgjcefojdaaGreatDoor
namespace Go.Proofs.YtkkimgjcefojdaaGreatDoor
open Go.RowKit Go.Lib

end Go.Proofs.YtkkimgjcefojdaaGreatDoor
namespace Go.Proofs.YtkkimgjcefojdaaGreatDoor
open Go.RowKit Go.Lib

end Go.Proofs.YtkkimgjcefojdaaGreatDoor
namespace Go.Proofs.YtkkimgjcefojdaaGreatDoor
open Go.RowKit Go.Lib

end Go.Proofs.YtkkimgjcefojdaaGreatDoor
namespace Go.Proofs.YtkkimgjcefojdaaGreatDoor
open Go.RowKit Go.Lib

end Go.Proofs.YtkkimgjcefojdaaGreatDoor
namespace Go.Proofs.YtkkimgjcefojdaaGreatDoor
open Go.RowKit Go.Lib

end Go.Proofs.YtkkimgjcefojdaaGreatDoor
namespace Go.Proofs.YtkkimgjcefojdaaGreatDoor
open Go.RowKit Go.Lib

end Go.Proofs.YtkkimgjcefojdaaGreatDoor
namespace Go.Proofs.YtkkimgjcefojdaaGreatDoor
open Go.RowKit Go.Lib

end Go.Proofs.YtkkimgjcefojdaaGreatDoor
namespace Go.Proofs.YtkkimgjcefojdaaGreatDoor
open Go.RowKit Go.Lib

end Go.Proofs.YtkkimgjcefojdaaGreatDoor
namespace Go.Proofs.YtkkimgjcefojdaaGreatDoor
open Go.RowKit Go.Lib

end Go.Proofs.YtkkimgjcefojdaaGreatDoor
namespace Go.Proofs.YtkkimgjcefojdaaGreatDoor
open Go

end Go.Proofs.YtkkimgjcefojdaaGreatDoor
namespace Go.Proofs.YtkkimgjcefojdaaGreatDoor
open Go.RowKit Go.Lib

theorem ER.ext {r q : ER} (h1 : r.ip = q.ip) (h2 : r.hw = q.hw) (h3 : r.age = q.age) : r = q := by cases r; cases q; simp_all
end Go.Proofs.YtkkimgjcefojdaaGreatDoor
namespace Go.Proofs.YtkkimgjcefojdaaGreatDoor
open Go.RowKit Go.Lib

theorem cut4 (s : ByteArray) (h : 14 ≤ s.size) : s.extract 0 6 ++ s.extract 6 12 ++ s.extract 12 14 ++ s.extract 14 s.size = s := by
 rw [← ByteArray.extract_eq_extract_append_extract 6 (by omega) (by omega), ← ByteArray.extract_eq_extract_append_extract 12 (by omega) (by omega), ← ByteArray.extract_eq_extract_append_extract 14 (by omega) (by omega)]
 simp
/-- The text of the frame that was read is what was read. -/
theorem text_read (s : ByteArray) (h : 14 ≤ s.size) (hr : readOk s = true) : frameText (gw s 0 6) (gw s 6 6) (gw s 12 2) (s.extract 14 s.size) = s := by
 unfold frameText
 unfold readOk at hr
 rw [if_pos hr]
 have e0 := put_get s 0 6 (by omega) (by omega)
 have e1 := put_get s 6 6 (by omega) (by omega)
 have e2 := put_get s 12 2 (by omega) (by omega)
 rw [cut_extract] at e0 e1 e2
 have f0 : putW (gw s 0 6 : Int) 6 = s.extract 0 6 := e0
 have f1 : putW (gw s 6 6 : Int) 6 = s.extract 6 12 := e1
 have f2 : putW (gw s 12 2 : Int) 2 = s.extract 12 14 := e2
 rw [f0, f1, f2, cut4 s h]
theorem notEmpty (s : ByteArray) (h : 0 < s.size) : s.toList.isEmpty = false := by
  rw [ByteArray.toList_eq]
  cases hl : s.data.toList with
  | nil => have e : s.data.toList.length = 0 := by rw [hl]; rfl
           rw [Array.length_toList, ByteArray.size_data] at e; omega
  | cons _ _ => rfl
end Go.Proofs.YtkkimgjcefojdaaGreatDoor
namespace Go.Proofs.YtkkimgjcefojdaaGreatDoor
open Go.RowKit Go.Lib

set_option maxHeartbeats 400000 in
theorem getWordS (s : ByteArray) (a n : Int) (w : World) (hs : s.size ≤ 1048576) (ha : -9223372036854775808 ≤ a ∧ a ≤ 9223372036854775807) :
  Calls Tryz.prog 43 #[.string s, .int .i64 a, .int .i64 n] w fun e w' => e = .returned (.tuple #[.int .i64 (getW s a n).1, .bool (getW s a n).2]) ∧ w = w' := by
 obtain ⟨ha1, ha2⟩ := ha
 by_cases h : 1 ≤ n ∧ n ≤ 6
 ·have C1 := Lib.hid (fun w => (l1In_any n 1 6 w).mono fun _ _ ⟨a, b⟩ => (⟨a.trans (ret_bool (decide_eq_true h)), b⟩ : _ = Ending.returned (.bool true) ∧ w = _))
  by_cases h2 : 0 ≤ a
  ·by_cases h3 : a ≤ s.size - n
   ·obtain ⟨hn1, hn2⟩ := h
    obtain ⟨k, rfl⟩ : ∃ k : Nat, n = (k : Int) := ⟨n.toNat, by omega⟩
    obtain ⟨at', rfl⟩ : ∃ k : Nat, a = (k : Int) := ⟨a.toNat, by omega⟩
    rw [getW_yes s at' k (by omega) (by omega)]
    go_enter Tryz.func43, Tryz.ntmps43
    go_wp2_with fail
    refine (C1.out _).mono ?_
    rintro e w1 ⟨rfl, rfl⟩
    go_wp2_with fail
    refine ((l1In_yes _ _ _ _ (by omega) (by omega))).mono ?_
    rintro e w1 ⟨rfl, rfl⟩
    go_wp2_with fail
    go_loop [8, 9] (fun x i => ∃ (j q : Nat), j ≤ k ∧ i = .int .i64 j ∧ x = .int .i64 q ∧ Hid (q = gw s at' j))
     (fun _ i => k - (RowKit.intOf i).toNat)
    case atStart => exact ⟨0, 0, Nat.zero_le _, rfl, rfl, rfl⟩
    case round =>
     obtain ⟨j, q, hj, rfl, rfl, hq⟩ := hrel
     by_cases hlt : j < k
     ·have hqb : q ≤ 1099511627775 := by rw [hq.out]; exact gw_bd5 s at' j (by omega)
      have hin : at' + j < s.size := by omega
      have h8 : s[at' + j].toNat < 256 := s[at' + j].toNat_lt
      have E : Hid (256 * q + s[at' + j].toNat = gw s at' (j + 1)) := by show _ = _; rw [hq.out, at8_eq s (at' + j) hin]; rfl
      go_wp2_with fail
      go_round
      case rel => exact ⟨j + 1, _, by omega, by go_num, by go_num, E⟩
      case measure => simp [RowKit.intOf]; omega
     ·obtain rfl : j = k := by omega
      go_wp2_with fail
      go_ret2
      rw [hq.out]
      exact ⟨rfl, rfl⟩
   ·rw [getW_no2 s a n (fun hh => h3 hh.2)]
    obtain ⟨hn1, hn2⟩ := h
    go_enter Tryz.func43, Tryz.ntmps43
    go_wp2_with fail
    refine (C1.out _).mono ?_
    rintro e w1 ⟨rfl, rfl⟩
    go_wp2_with fail
    refine (l1In_no _ _ _ _ (by omega)).mono ?_
    rintro e w1 ⟨rfl, rfl⟩
    go_wp2_with fail
    go_ret2
    exact ⟨rfl, rfl⟩
  ·rw [getW_no2 s a n (fun hh => h2 hh.1)]
   obtain ⟨hn1, hn2⟩ := h
   go_enter Tryz.func43, Tryz.ntmps43
   go_wp2_with fail
   refine (C1.out _).mono ?_
   rintro e w1 ⟨rfl, rfl⟩
   go_wp2_with fail
   refine (l1In_no _ _ _ _ (by omega)).mono ?_
   rintro e w1 ⟨rfl, rfl⟩
   go_wp2_with fail
   go_ret2
   exact ⟨rfl, rfl⟩
 ·rw [getW_no s a n h]
  have C1 := Lib.hid (fun w => (l1In_any n 1 6 w).mono fun _ _ ⟨a, b⟩ => (⟨a.trans (ret_bool (decide_eq_false h)), b⟩ : _ = Ending.returned (.bool false) ∧ w = _))
  clear h
  go_enter Tryz.func43, Tryz.ntmps43
  go_wp2_with fail
  refine (C1.out _).mono ?_
  rintro e w1 ⟨rfl, rfl⟩
  go_wp2_with fail
  go_ret2
  exact ⟨rfl, rfl⟩
theorem get3S (s : ByteArray) (a n : Nat) (w : World) (hs : s.size ≤ 1048576) (hn : 1 ≤ n ∧ n ≤ 6) (h : a + n ≤ s.size) :
  Calls Tryz.prog 43 #[.string s, .int .i64 a, .int .i64 n] w fun e w' => e = .returned (.tuple #[.int .i64 (gw s a n : Nat), .bool true]) ∧ w = w' := by
 have := getWordS s a n w hs (by omega)
 rw [getW_yes s a n hn h] at this; exact this
end Go.Proofs.YtkkimgjcefojdaaGreatDoor
namespace Go.Proofs.YtkkimgjcefojdaaGreatDoor
open Go.RowKit Go.Lib

set_option maxRecDepth 100000 in
set_option maxHeartbeats 2000000 in
theorem readFrameS_short (s : ByteArray) (w : World) (h : s.size < 14) :
  Calls Tryz.prog 14 #[.string s] w fun e w' => e = .returned (.tuple #[.agg #[.int .i64 0, .int .i64 0, .int .i64 0, .string ⟨#[]⟩], .bool false]) ∧ Below w.heap.size w w' := by
 go_enter Tryz.func14, Tryz.ntmps14
 go_wp2
 exact bodyPost_ret (v := .tuple #[.agg #[.int .i64 0, .int .i64 0, .int .i64 0, .string ⟨#[]⟩], .bool false]) (by simp [results, Tryz.results14, go_sem]) rfl ⟨rfl, (Below.refl _ _).alloc (Nat.le_refl _) _⟩

set_option maxRecDepth 100000 in
set_option maxHeartbeats 4000000 in
theorem readFrameS_no (s : ByteArray) (w : World) (hs : s.size ≤ 1048576) (h : 14 ≤ s.size) (hr : readOk s = false) :
  Calls Tryz.prog 14 #[.string s] w fun e w' => e = .returned (.tuple #[.agg #[.int .i64 0, .int .i64 0, .int .i64 0, .string ⟨#[]⟩], .bool false]) ∧ Below w.heap.size w w' := by
 have G0 := Lib.hid (fun w => get3S s 0 6 w hs (by omega) (by omega))
 have G1 := Lib.hid (fun w => get3S s 6 6 w hs (by omega) (by omega))
 have G2 := Lib.hid (fun w => get3S s 12 2 w hs (by omega) (by omega))
 have C := Lib.hid (frameTextS (gw s 0 6 : Nat) (gw s 6 6 : Nat) (gw s 12 2 : Nat) (s.extract 14 s.size))
 have e : frameText (gw s 0 6 : Nat) (gw s 6 6 : Nat) (gw s 12 2 : Nat) (s.extract 14 s.size) = ⟨#[]⟩ := by
  unfold frameText; rw [if_neg (by unfold readOk at hr; rw [hr]; decide)]
 rw [e] at C
 clear hr e
 have hl := notEmpty s (by omega)
 generalize gw s 0 6 = x at G0 C
 generalize gw s 6 6 = y at G1 C
 generalize gw s 12 2 = z at G2 C
 have h0 : ¬ (s.size : Int) < 14 := by omega
 go_enter Tryz.func14, Tryz.ntmps14
 go_wp2_with fail
 refine (G0.out _).mono ?_
 rintro e w1 ⟨rfl, rfl⟩
 go_wp2_with fail
 refine (G1.out _).mono ?_
 rintro e w1 ⟨rfl, rfl⟩
 go_wp2_with fail
 refine (G2.out _).mono ?_
 rintro e w1 ⟨rfl, rfl⟩
 go_wp2_with fail
 refine (C.out _).mono ?_
 rintro e w1 ⟨rfl, hb⟩
 have B := Lib.hid ((((Below.refl w.heap.size w).alloc (Nat.le_refl _) _).alloc (by simp) _).trans (hb.mono (by simp; omega)))
 have K := Lib.hid (((HasC.new w #[.int .i64 0, .int .i64 0, .int .i64 0, .string ⟨#[]⟩] 38).alloc _).keep hb)
 obtain ⟨hc, hf⟩ := bcell hb
 clear hb
 go_wp2_with fail
 obtain ⟨d0, d1, d2, d3⟩ := K.out.four
 exact bodyPost_ret (v := .tuple #[.agg #[.int .i64 0, .int .i64 0, .int .i64 0, .string ⟨#[]⟩], .bool false]) (by simp [results, Tryz.results14, go_sem, d0, d1, d2, d3]) rfl ⟨rfl, (((B.out.setCell (Nat.le_refl _) _).setCell (Nat.le_refl _) _).setCell (Nat.le_refl _) _).setCell (Nat.le_refl _) _⟩

set_option maxRecDepth 100000 in
set_option maxHeartbeats 4000000 in
theorem readFrameS_yes (s : ByteArray) (w : World) (hs : s.size ≤ 1048576) (h : 14 ≤ s.size) (hr : readOk s = true) :
  Calls Tryz.prog 14 #[.string s] w fun e w' => e = .returned (.tuple #[.agg #[.int .i64 (gw s 0 6 : Nat), .int .i64 (gw s 6 6 : Nat), .int .i64 (gw s 12 2 : Nat), .string (s.extract 14 s.size)], .bool true]) ∧ Below w.heap.size w w' := by
 have G0 := Lib.hid (fun w => get3S s 0 6 w hs (by omega) (by omega))
 have G1 := Lib.hid (fun w => get3S s 6 6 w hs (by omega) (by omega))
 have G2 := Lib.hid (fun w => get3S s 12 2 w hs (by omega) (by omega))
 have C := Lib.hid (frameTextS (gw s 0 6 : Nat) (gw s 6 6 : Nat) (gw s 12 2 : Nat) (s.extract 14 s.size))
 rw [text_read s h hr] at C
 clear hr
 generalize gw s 0 6 = x at G0 C ⊢
 generalize gw s 6 6 = y at G1 C ⊢
 generalize gw s 12 2 = z at G2 C ⊢
 have h0 : ¬ (s.size : Int) < 14 := by omega
 go_enter Tryz.func14, Tryz.ntmps14
 go_wp2_with fail
 refine (G0.out _).mono ?_
 rintro e w1 ⟨rfl, rfl⟩
 go_wp2_with fail
 refine (G1.out _).mono ?_
 rintro e w1 ⟨rfl, rfl⟩
 go_wp2_with fail
 refine (G2.out _).mono ?_
 rintro e w1 ⟨rfl, rfl⟩
 go_wp2_with fail
 refine (C.out _).mono ?_
 rintro e w1 ⟨rfl, hb⟩
 have B := Lib.hid ((((Below.refl w.heap.size w).alloc (Nat.le_refl _) _).alloc (by simp) _).trans (hb.mono (by simp; omega)))
 have K := Lib.hid (((HasC.new w #[.int .i64 0, .int .i64 0, .int .i64 0, .string ⟨#[]⟩] 38).alloc _).keep hb)
 obtain ⟨hc, hf⟩ := bcell hb
 clear hb
 go_wp2_with fail
 obtain ⟨d0, d1, d2, d3⟩ := K.out.four
 exact bodyPost_ret (v := .tuple #[.agg #[.int .i64 x, .int .i64 y, .int .i64 z, .string (s.extract 14 s.size)], .bool true]) (by simp [results, Tryz.results14, go_sem, d0, d1, d2, d3]) rfl ⟨rfl, (((B.out.setCell (Nat.le_refl _) _).setCell (Nat.le_refl _) _).setCell (Nat.le_refl _) _).setCell (Nat.le_refl _) _⟩

end Go.Proofs.YtkkimgjcefojdaaGreatDoor
namespace Go.Proofs.YtkkimgjcefojdaaGreatDoor
open Go.RowKit Go.Lib

theorem readFrameS (s : ByteArray) (w : World) (hs : s.size ≤ 1048576) :
  Calls Tryz.prog 14 #[.string s] w fun e w' => e = .returned (rfV s) ∧ Below w.heap.size w w' := by
 by_cases h : 14 ≤ s.size
 ·cases hr : readOk s with
  | true => rw [rfV_yes s (by simp [rfOk, h, hr])]; exact readFrameS_yes s w hs h hr
  | false => rw [rfV_no s (by simp [rfOk, hr])]; exact readFrameS_no s w hs h hr
 ·rw [rfV_no s (by simp [rfOk, h])]; exact readFrameS_short s w (by omega)
end Go.Proofs.YtkkimgjcefojdaaGreatDoor
namespace Go.Proofs.YtkkimgjcefojdaaGreatDoor
open Go.RowKit Go.Lib

end Go.Proofs.YtkkimgjcefojdaaGreatDoor
namespace Go.Proofs.YtkkimgjcefojdaaGreatDoor
open Go.RowKit Go.Lib

theorem and191_all : ∀ n : Fin 256, (bits .and .u8 (n.val : Int) 191 = 0 ↔ (n.val = 0 ∨ n.val = 64)) := by decide +kernel
theorem and191 (n : Nat) (h : n < 256) : bits .and .u8 (n : Int) 191 = 0 ↔ (n = 0 ∨ n = 64) := and191_all ⟨n, h⟩
theorem gw2 (s : ByteArray) (a : Nat) : gw s a 2 = 256 * (at8 s a).toNat + (at8 s (a + 1)).toNat := by simp [gw]
theorem frag_bytes (s : ByteArray) : (gw s 6 2 = 0 ∨ gw s 6 2 = 16384) ↔ (bits .and .u8 ((at8 s 6).toNat : Int) 191 = 0 ∧ (at8 s 7).toNat = 0) := by
 have h1 := (at8 s 6).toNat_lt
 have h2 := (at8 s 7).toNat_lt
 have e : gw s 6 2 = 256 * (at8 s 6).toNat + (at8 s 7).toNat := gw2 s 6
 rw [e, and191 _ h1]
 omega
end Go.Proofs.YtkkimgjcefojdaaGreatDoor
namespace Go.Proofs.YtkkimgjcefojdaaGreatDoor
open Go.RowKit Go.Lib

end Go.Proofs.YtkkimgjcefojdaaGreatDoor
namespace Go.Proofs.YtkkimgjcefojdaaGreatDoor
open Go.RowKit Go.Lib

end Go.Proofs.YtkkimgjcefojdaaGreatDoor
namespace Go.Proofs.YtkkimgjcefojdaaGreatDoor
open Go.RowKit Go.Lib

set_option maxHeartbeats 400000 in
theorem sumRightS (s : ByteArray) (hs : s.size ≤ 1048592) (w : World) :
  Calls Tryz.prog 80 #[.string s] w fun e w' => e = .returned (.bool (sumRight s)) ∧ w = w' := by
 have C1 := Lib.hid (sumOfS s hs)
 have E : Hid (sumRight s = (sumOf s == 0)) := rfl
 obtain ⟨f, hf'⟩ : ∃ f, sumOf s = f := ⟨_, rfl⟩
 rw [hf'] at C1 E
 clear hf'
 rw [E.out]
 go_enter Tryz.func80, Tryz.ntmps80
 go_wp2_with fail
 refine (C1.out _).mono ?_
 rintro e w1 ⟨rfl, rfl⟩
 go_wp2_with fail
 go_ret
 exact ⟨rfl, rfl⟩

end Go.Proofs.YtkkimgjcefojdaaGreatDoor
namespace Go.Proofs.YtkkimgjcefojdaaGreatDoor
open Go.RowKit Go.Lib

theorem l1Min_any (x y : Int) (w : World) :
  Calls Tryz.prog 82 #[.int .i64 x, .int .i64 y] w fun e w' => e = .returned (.int .i64 (if x < y then x else y)) ∧ w = w' := by
 by_cases h : x < y
 ·rw [if_pos h]
  go_enter Tryz.func82, Tryz.ntmps82
  go_wp2
  go_ret
  exact ⟨rfl, rfl⟩
 ·rw [if_neg h]
  go_enter Tryz.func82, Tryz.ntmps82
  go_wp2
  go_ret
  exact ⟨rfl, rfl⟩

set_option maxRecDepth 100000 in
set_option maxHeartbeats 1000000 in
theorem readPkS_short (s : ByteArray) (w : World) (h : s.size < 20) :
  Calls Tryz.prog 36 #[.string s] w fun e w' => e = .returned (.tuple #[.agg #[.int .i64 0, .int .i64 0, .int .i64 0, .int .i64 0, .int .i64 0, .string ⟨#[]⟩], .int .i64 1]) ∧ Below w.heap.size w w' := by
 have h0 : (s.size : Int) < 20 := by omega
 go_enter Tryz.func36, Tryz.ntmps36
 go_wp2
 exact bodyPost_ret (v := .tuple #[.agg #[.int .i64 0, .int .i64 0, .int .i64 0, .int .i64 0, .int .i64 0, .string ⟨#[]⟩], .int .i64 1]) (by simp [results, Tryz.results36, go_sem]) rfl ⟨rfl, (Below.refl _ _).alloc (Nat.le_refl _) _⟩

set_option maxRecDepth 100000 in
set_option maxHeartbeats 1000000 in
theorem readPkS_version (s : ByteArray) (w : World) (h : 20 ≤ s.size) (hv : ¬ (at8 s 0).toNat = 69) :
  Calls Tryz.prog 36 #[.string s] w fun e w' => e = .returned (.tuple #[.agg #[.int .i64 0, .int .i64 0, .int .i64 0, .int .i64 0, .int .i64 0, .string ⟨#[]⟩], .int .i64 2]) ∧ Below w.heap.size w w' := by
 have h0 : ¬ (s.size : Int) < 20 := by omega
 have h1 : 0 < s.size := by omega
 have hb : ((s[0].toNat : Int) != 69) = true := by rw [at8_eq]; simp; omega
 clear hv
 go_enter Tryz.func36, Tryz.ntmps36
 go_wp2
 exact bodyPost_ret (v := .tuple #[.agg #[.int .i64 0, .int .i64 0, .int .i64 0, .int .i64 0, .int .i64 0, .string ⟨#[]⟩], .int .i64 2]) (by simp [results, Tryz.results36, go_sem]) rfl ⟨rfl, (Below.refl _ _).alloc (Nat.le_refl _) _⟩

set_option maxRecDepth 100000 in
set_option maxHeartbeats 1000000 in
theorem readPkS_sum (s : ByteArray) (w : World) (hs : s.size ≤ 1048576) (h : 20 ≤ s.size) (hv : (at8 s 0).toNat = 69) (hr : sumRight (s.extract 0 20) = false) :
  Calls Tryz.prog 36 #[.string s] w fun e w' => e = .returned (.tuple #[.agg #[.int .i64 0, .int .i64 0, .int .i64 0, .int .i64 0, .int .i64 0, .string ⟨#[]⟩], .int .i64 3]) ∧ Below w.heap.size w w' := by
 have h0 : ¬ (s.size : Int) < 20 := by omega
 have h1 : 0 < s.size := by omega
 have hb : ((s[0].toNat : Int) != 69) = false := by rw [at8_eq]; simp; omega
 clear hv
 have R := Lib.hid (sumRightS (s.extract 0 20) (by rw [ByteArray.size_extract]; omega))
 rw [hr] at R
 clear hr
 go_enter Tryz.func36, Tryz.ntmps36
 go_wp2_with fail
 refine (R.out _).mono ?_
 rintro e w1 ⟨rfl, rfl⟩
 go_wp2
 exact bodyPost_ret (v := .tuple #[.agg #[.int .i64 0, .int .i64 0, .int .i64 0, .int .i64 0, .int .i64 0, .string ⟨#[]⟩], .int .i64 3]) (by simp [results, Tryz.results36, go_sem]) rfl ⟨rfl, (Below.refl _ _).alloc (Nat.le_refl _) _⟩

set_option maxRecDepth 100000 in
set_option maxHeartbeats 1000000 in
theorem readPkS_length (s : ByteArray) (w : World) (hs : s.size ≤ 1048576) (h : 20 ≤ s.size) (hv : (at8 s 0).toNat = 69) (hr : sumRight (s.extract 0 20) = true) (hx : ¬ (20 ≤ gw s 2 2 ∧ gw s 2 2 ≤ s.size ∧ gw s 2 2 ≤ 1500)) :
  Calls Tryz.prog 36 #[.string s] w fun e w' => e = .returned (.tuple #[.agg #[.int .i64 0, .int .i64 0, .int .i64 0, .int .i64 0, .int .i64 0, .string ⟨#[]⟩], .int .i64 4]) ∧ Below w.heap.size w w' := by
 have h0 : ¬ (s.size : Int) < 20 := by omega
 have h1 : 0 < s.size := by omega
 have hb : ((s[0].toNat : Int) != 69) = false := by rw [at8_eq]; simp; omega
 clear hv
 have R := Lib.hid (sumRightS (s.extract 0 20) (by rw [ByteArray.size_extract]; omega))
 rw [hr] at R
 clear hr
 have G2 := Lib.hid (fun w => get3S s 2 2 w hs (by omega) (by omega))
 have M := Lib.hid (l1Min_any (s.size : Int) 1500)
 have I := Lib.hid (l1In_any (gw s 2 2 : Nat) 20 (if (s.size : Int) < 1500 then s.size else 1500))
 rw [decide_eq_false (show ¬ ((20 : Int) ≤ (gw s 2 2 : Nat) ∧ ((gw s 2 2 : Nat) : Int) ≤ (if (s.size : Int) < 1500 then (s.size : Int) else 1500)) by split <;> omega)] at I
 generalize (if (s.size : Int) < 1500 then (s.size : Int) else 1500) = mm at M I
 clear hx
 generalize gw s 2 2 = x at *
 go_enter Tryz.func36, Tryz.ntmps36
 go_wp2_with fail
 refine (R.out _).mono ?_
 rintro e w1 ⟨rfl, rfl⟩
 go_wp2_with fail
 refine (G2.out _).mono ?_
 rintro e w1 ⟨rfl, rfl⟩
 go_wp2_with fail
 refine (M.out _).mono ?_
 rintro e w1 ⟨rfl, rfl⟩
 go_wp2_with fail
 refine (I.out _).mono ?_
 rintro e w1 ⟨rfl, rfl⟩
 go_wp2
 exact bodyPost_ret (v := .tuple #[.agg #[.int .i64 0, .int .i64 0, .int .i64 0, .int .i64 0, .int .i64 0, .string ⟨#[]⟩], .int .i64 4]) (by simp [results, Tryz.results36, go_sem]) rfl ⟨rfl, (Below.refl _ _).alloc (Nat.le_refl _) _⟩

set_option maxRecDepth 100000 in
set_option maxHeartbeats 1000000 in
theorem readPkS_frag6 (s : ByteArray) (w : World) (hs : s.size ≤ 1048576) (h : 20 ≤ s.size) (hv : (at8 s 0).toNat = 69) (hr : sumRight (s.extract 0 20) = true) (hx : 20 ≤ gw s 2 2 ∧ gw s 2 2 ≤ s.size ∧ gw s 2 2 ≤ 1500) (hy : ¬ bits .and .u8 ((at8 s 6).toNat : Int) 191 = 0) :
  Calls Tryz.prog 36 #[.string s] w fun e w' => e = .returned (.tuple #[.agg #[.int .i64 0, .int .i64 0, .int .i64 0, .int .i64 0, .int .i64 0, .string ⟨#[]⟩], .int .i64 5]) ∧ Below w.heap.size w w' := by
 have h0 : ¬ (s.size : Int) < 20 := by omega
 have h1 : 0 < s.size := by omega
 have h6 : 6 < s.size := by omega
 have h7 : 7 < s.size := by omega
 have i6 : (6 : Int) < s.size := by omega
 have i7 : (7 : Int) < s.size := by omega
 have hb : ((s[0].toNat : Int) != 69) = false := by rw [at8_eq]; simp; omega
 clear hv
 have R := Lib.hid (sumRightS (s.extract 0 20) (by rw [ByteArray.size_extract]; omega))
 rw [hr] at R
 clear hr
 have G2 := Lib.hid (fun w => get3S s 2 2 w hs (by omega) (by omega))
 have M := Lib.hid (l1Min_any (s.size : Int) 1500)
 have I := Lib.hid (l1In_any (gw s 2 2 : Nat) 20 (if (s.size : Int) < 1500 then s.size else 1500))
 rw [decide_eq_true (show ((20 : Int) ≤ (gw s 2 2 : Nat) ∧ ((gw s 2 2 : Nat) : Int) ≤ (if (s.size : Int) < 1500 then (s.size : Int) else 1500)) by split <;> omega)] at I
 generalize (if (s.size : Int) < 1500 then (s.size : Int) else 1500) = mm at M I
 obtain ⟨hx0, hx1, _⟩ := hx
 generalize gw s 2 2 = x at *
 have hf : (bits .and .u8 (s[6].toNat : Int) 191 != 0) = true := by rw [at8_eq]; simpa using hy
 clear hy
 go_enter Tryz.func36, Tryz.ntmps36
 go_wp2_with fail
 refine (R.out _).mono ?_
 rintro e w1 ⟨rfl, rfl⟩
 go_wp2_with fail
 refine (G2.out _).mono ?_
 rintro e w1 ⟨rfl, rfl⟩
 go_wp2_with fail
 refine (M.out _).mono ?_
 rintro e w1 ⟨rfl, rfl⟩
 go_wp2_with fail
 refine (I.out _).mono ?_
 rintro e w1 ⟨rfl, rfl⟩
 go_wp2
 exact bodyPost_ret (v := .tuple #[.agg #[.int .i64 0, .int .i64 0, .int .i64 0, .int .i64 0, .int .i64 0, .string ⟨#[]⟩], .int .i64 5]) (by simp [results, Tryz.results36, go_sem]) rfl ⟨rfl, (Below.refl _ _).alloc (Nat.le_refl _) _⟩

set_option maxRecDepth 100000 in
set_option maxHeartbeats 1000000 in
theorem readPkS_frag7 (s : ByteArray) (w : World) (hs : s.size ≤ 1048576) (h : 20 ≤ s.size) (hv : (at8 s 0).toNat = 69) (hr : sumRight (s.extract 0 20) = true) (hx : 20 ≤ gw s 2 2 ∧ gw s 2 2 ≤ s.size ∧ gw s 2 2 ≤ 1500) (hy : bits .and .u8 ((at8 s 6).toNat : Int) 191 = 0) (hy7 : ¬ (at8 s 7).toNat = 0) :
  Calls Tryz.prog 36 #[.string s] w fun e w' => e = .returned (.tuple #[.agg #[.int .i64 0, .int .i64 0, .int .i64 0, .int .i64 0, .int .i64 0, .string ⟨#[]⟩], .int .i64 5]) ∧ Below w.heap.size w w' := by
 have h0 : ¬ (s.size : Int) < 20 := by omega
 have h1 : 0 < s.size := by omega
 have h6 : 6 < s.size := by omega
 have h7 : 7 < s.size := by omega
 have i6 : (6 : Int) < s.size := by omega
 have i7 : (7 : Int) < s.size := by omega
 have hb : ((s[0].toNat : Int) != 69) = false := by rw [at8_eq]; simp; omega
 clear hv
 have R := Lib.hid (sumRightS (s.extract 0 20) (by rw [ByteArray.size_extract]; omega))
 rw [hr] at R
 clear hr
 have G2 := Lib.hid (fun w => get3S s 2 2 w hs (by omega) (by omega))
 have M := Lib.hid (l1Min_any (s.size : Int) 1500)
 have I := Lib.hid (l1In_any (gw s 2 2 : Nat) 20 (if (s.size : Int) < 1500 then s.size else 1500))
 rw [decide_eq_true (show ((20 : Int) ≤ (gw s 2 2 : Nat) ∧ ((gw s 2 2 : Nat) : Int) ≤ (if (s.size : Int) < 1500 then (s.size : Int) else 1500)) by split <;> omega)] at I
 generalize (if (s.size : Int) < 1500 then (s.size : Int) else 1500) = mm at M I
 obtain ⟨hx0, hx1, _⟩ := hx
 generalize gw s 2 2 = x at *
 have hf : (bits .and .u8 (s[6].toNat : Int) 191 != 0) = false := by rw [at8_eq]; simpa using hy
 have hf7 : ((s[7].toNat : Int) != 0) = true := by rw [at8_eq]; simpa using hy7
 clear hy hy7
 go_enter Tryz.func36, Tryz.ntmps36
 go_wp2_with fail
 refine (R.out _).mono ?_
 rintro e w1 ⟨rfl, rfl⟩
 go_wp2_with fail
 refine (G2.out _).mono ?_
 rintro e w1 ⟨rfl, rfl⟩
 go_wp2_with fail
 refine (M.out _).mono ?_
 rintro e w1 ⟨rfl, rfl⟩
 go_wp2_with fail
 refine (I.out _).mono ?_
 rintro e w1 ⟨rfl, rfl⟩
 go_wp2
 exact bodyPost_ret (v := .tuple #[.agg #[.int .i64 0, .int .i64 0, .int .i64 0, .int .i64 0, .int .i64 0, .string ⟨#[]⟩], .int .i64 5]) (by simp [results, Tryz.results36, go_sem]) rfl ⟨rfl, (Below.refl _ _).alloc (Nat.le_refl _) _⟩

set_option maxRecDepth 100000 in
set_option maxHeartbeats 1000000 in
theorem readPkS_ttl (s : ByteArray) (w : World) (hs : s.size ≤ 1048576) (h : 20 ≤ s.size) (hv : (at8 s 0).toNat = 69) (hr : sumRight (s.extract 0 20) = true) (hx : 20 ≤ gw s 2 2 ∧ gw s 2 2 ≤ s.size ∧ gw s 2 2 ≤ 1500) (hy : bits .and .u8 ((at8 s 6).toNat : Int) 191 = 0) (hy7 : (at8 s 7).toNat = 0) (ht : (at8 s 8).toNat = 0) :
  Calls Tryz.prog 36 #[.string s] w fun e w' => e = .returned (.tuple #[.agg #[.int .i64 0, .int .i64 0, .int .i64 0, .int .i64 0, .int .i64 0, .string ⟨#[]⟩], .int .i64 6]) ∧ Below w.heap.size w w' := by
 have h0 : ¬ (s.size : Int) < 20 := by omega
 have h1 : 0 < s.size := by omega
 have h6 : 6 < s.size := by omega
 have h7 : 7 < s.size := by omega
 have i6 : (6 : Int) < s.size := by omega
 have i7 : (7 : Int) < s.size := by omega
 have hb : ((s[0].toNat : Int) != 69) = false := by rw [at8_eq]; simp; omega
 clear hv
 have R := Lib.hid (sumRightS (s.extract 0 20) (by rw [ByteArray.size_extract]; omega))
 rw [hr] at R
 clear hr
 have G2 := Lib.hid (fun w => get3S s 2 2 w hs (by omega) (by omega))
 have M := Lib.hid (l1Min_any (s.size : Int) 1500)
 have I := Lib.hid (l1In_any (gw s 2 2 : Nat) 20 (if (s.size : Int) < 1500 then s.size else 1500))
 rw [decide_eq_true (show ((20 : Int) ≤ (gw s 2 2 : Nat) ∧ ((gw s 2 2 : Nat) : Int) ≤ (if (s.size : Int) < 1500 then (s.size : Int) else 1500)) by split <;> omega)] at I
 generalize (if (s.size : Int) < 1500 then (s.size : Int) else 1500) = mm at M I
 obtain ⟨hx0, hx1, _⟩ := hx
 generalize gw s 2 2 = x at *
 have hf : (bits .and .u8 (s[6].toNat : Int) 191 != 0) = false := by rw [at8_eq]; simpa using hy
 have hf7 : ((s[7].toNat : Int) != 0) = false := by rw [at8_eq]; simpa using hy7
 clear hy hy7
 have h8 : 8 < s.size := by omega
 have h9 : 9 < s.size := by omega
 have i8 : (8 : Int) < s.size := by omega
 have i9 : (9 : Int) < s.size := by omega
 have w8 : IntKind.i64.wrap (s[8].toNat : Int) = s[8].toNat := by have := s[8].toNat_lt; rw [IntKind.wrap_i64]; omega
 have w9 : IntKind.i64.wrap (s[9].toNat : Int) = s[9].toNat := by have := s[9].toNat_lt; rw [IntKind.wrap_i64]; omega
 have q1 : (20 : Int) ≤ x := by omega
 have q2 : (x : Int) ≤ s.size := by omega
 have ht8 : ((s[8].toNat : Int) == 0) = true := by rw [at8_eq]; simp; omega
 clear ht
 go_enter Tryz.func36, Tryz.ntmps36
 go_wp2_with fail
 refine (R.out _).mono ?_
 rintro e w1 ⟨rfl, rfl⟩
 go_wp2_with fail
 refine (G2.out _).mono ?_
 rintro e w1 ⟨rfl, rfl⟩
 go_wp2_with fail
 refine (M.out _).mono ?_
 rintro e w1 ⟨rfl, rfl⟩
 go_wp2_with fail
 refine (I.out _).mono ?_
 rintro e w1 ⟨rfl, rfl⟩
 go_wp2_with fail
 go_region_with fail
 all_goals go_wp2_with fail
 all_goals exact bodyPost_ret (v := .tuple #[.agg #[.int .i64 0, .int .i64 0, .int .i64 0, .int .i64 0, .int .i64 0, .string ⟨#[]⟩], .int .i64 6]) (by simp [results, Tryz.results36, go_sem]) rfl ⟨rfl, (((Below.refl _ _).alloc (Nat.le_refl _) _).alloc (by simp) _).drew⟩

set_option maxRecDepth 100000 in
set_option maxHeartbeats 1000000 in
theorem readPkS_ok (s : ByteArray) (w : World) (hs : s.size ≤ 1048576) (h : 20 ≤ s.size) (hv : (at8 s 0).toNat = 69) (hr : sumRight (s.extract 0 20) = true) (hx : 20 ≤ gw s 2 2 ∧ gw s 2 2 ≤ s.size ∧ gw s 2 2 ≤ 1500) (hy : bits .and .u8 ((at8 s 6).toNat : Int) 191 = 0) (hy7 : (at8 s 7).toNat = 0) (ht : ¬ (at8 s 8).toNat = 0) :
  Calls Tryz.prog 36 #[.string s] w fun e w' => e = .returned (.tuple #[.agg #[.int .i64 (gw s 12 4 : Nat), .int .i64 (gw s 16 4 : Nat), .int .i64 (at8 s 8).toNat, .int .i64 (at8 s 9).toNat, .int .i64 (gw s 4 2 : Nat), .string (s.extract 20 (gw s 2 2))], .int .i64 0]) ∧ Below w.heap.size w w' := by
 have h0 : ¬ (s.size : Int) < 20 := by omega
 have h1 : 0 < s.size := by omega
 have h6 : 6 < s.size := by omega
 have h7 : 7 < s.size := by omega
 have i6 : (6 : Int) < s.size := by omega
 have i7 : (7 : Int) < s.size := by omega
 have hb : ((s[0].toNat : Int) != 69) = false := by rw [at8_eq]; simp; omega
 clear hv
 have R := Lib.hid (sumRightS (s.extract 0 20) (by rw [ByteArray.size_extract]; omega))
 rw [hr] at R
 clear hr
 have G2 := Lib.hid (fun w => get3S s 2 2 w hs (by omega) (by omega))
 have M := Lib.hid (l1Min_any (s.size : Int) 1500)
 have I := Lib.hid (l1In_any (gw s 2 2 : Nat) 20 (if (s.size : Int) < 1500 then s.size else 1500))
 rw [decide_eq_true (show ((20 : Int) ≤ (gw s 2 2 : Nat) ∧ ((gw s 2 2 : Nat) : Int) ≤ (if (s.size : Int) < 1500 then (s.size : Int) else 1500)) by split <;> omega)] at I
 generalize (if (s.size : Int) < 1500 then (s.size : Int) else 1500) = mm at M I
 obtain ⟨hx0, hx1, _⟩ := hx
 generalize gw s 2 2 = x at *
 have G4 := Lib.hid (fun w => get3S s 4 2 w hs (by omega) (by omega))
 have G12 := Lib.hid (fun w => get3S s 12 4 w hs (by omega) (by omega))
 have G16 := Lib.hid (fun w => get3S s 16 4 w hs (by omega) (by omega))
 generalize gw s 4 2 = x4 at *
 generalize gw s 12 4 = x12 at *
 generalize gw s 16 4 = x16 at *
 have hf : (bits .and .u8 (s[6].toNat : Int) 191 != 0) = false := by rw [at8_eq]; simpa using hy
 have hf7 : ((s[7].toNat : Int) != 0) = false := by rw [at8_eq]; simpa using hy7
 clear hy hy7
 have h8 : 8 < s.size := by omega
 have h9 : 9 < s.size := by omega
 have i8 : (8 : Int) < s.size := by omega
 have i9 : (9 : Int) < s.size := by omega
 have w8 : IntKind.i64.wrap (s[8].toNat : Int) = s[8].toNat := by have := s[8].toNat_lt; rw [IntKind.wrap_i64]; omega
 have w9 : IntKind.i64.wrap (s[9].toNat : Int) = s[9].toNat := by have := s[9].toNat_lt; rw [IntKind.wrap_i64]; omega
 have q1 : (20 : Int) ≤ x := by omega
 have q2 : (x : Int) ≤ s.size := by omega
 have ht8 : ((s[8].toNat : Int) == 0) = false := by rw [at8_eq]; simp; omega
 clear ht
 rw [← at8_eq s 8 h8, ← at8_eq s 9 h9]
 go_enter Tryz.func36, Tryz.ntmps36
 go_wp2_with fail
 refine (R.out _).mono ?_
 rintro e w1 ⟨rfl, rfl⟩
 go_wp2_with fail
 refine (G2.out _).mono ?_
 rintro e w1 ⟨rfl, rfl⟩
 go_wp2_with fail
 refine (M.out _).mono ?_
 rintro e w1 ⟨rfl, rfl⟩
 go_wp2_with fail
 refine (I.out _).mono ?_
 rintro e w1 ⟨rfl, rfl⟩
 go_wp2_with fail
 go_region_with fail
 all_goals (go_wp2_with fail; refine (G4.out _).mono ?_; rintro e w1 ⟨rfl, rfl⟩)
 all_goals (go_wp2_with fail; refine (G12.out _).mono ?_; rintro e w1 ⟨rfl, rfl⟩)
 all_goals (go_wp2_with fail; refine (G16.out _).mono ?_; rintro e w1 ⟨rfl, rfl⟩)
 all_goals go_wp2_with fail
 all_goals exact bodyPost_ret (v := .tuple #[.agg #[.int .i64 x12, .int .i64 x16, .int .i64 s[8].toNat, .int .i64 s[9].toNat, .int .i64 x4, .string (s.extract 20 x)], .int .i64 0]) (by simp [results, Tryz.results36, go_sem]) rfl ⟨rfl, (((Below.refl _ _).alloc (Nat.le_refl _) _).alloc (by simp) _).drew⟩

end Go.Proofs.YtkkimgjcefojdaaGreatDoor
namespace Go.Proofs.YtkkimgjcefojdaaGreatDoor
open Go.RowKit Go.Lib

theorem readPkS (s : ByteArray) (w : World) (hs : s.size ≤ 1048576) :
  Calls Tryz.prog 36 #[.string s] w fun e w' => e = .returned (rkV s) ∧ Below w.heap.size w w' := by
 by_cases h : 20 ≤ s.size
 ·by_cases hv : (at8 s 0).toNat = 69
  ·cases hr : sumRight (s.extract 0 20) with
   | false => rw [rkV_no s 3 (by unfold pkWhy; rw [if_neg (by omega), if_neg (by omega), if_pos hr]) (by omega)]; exact readPkS_sum s w hs h hv hr
   | true =>
    have hr' : ¬ sumRight (s.extract 0 20) = false := by rw [hr]; decide
    by_cases hx : 20 ≤ gw s 2 2 ∧ gw s 2 2 ≤ s.size ∧ gw s 2 2 ≤ 1500
    ·by_cases hy : gw s 6 2 = 0 ∨ gw s 6 2 = 16384
     ·obtain ⟨hy1, hy2⟩ := (frag_bytes s).1 hy
      by_cases ht : (at8 s 8).toNat = 0
      ·rw [rkV_no s 6 (by unfold pkWhy; rw [if_neg (by omega), if_neg (by omega), if_neg hr', if_neg (by omega), if_neg (by omega), if_pos ht]) (by omega)]; exact readPkS_ttl s w hs h hv hr hx hy1 hy2 ht
      ·rw [rkV_yes s (by unfold pkWhy; rw [if_neg (by omega), if_neg (by omega), if_neg hr', if_neg (by omega), if_neg (by omega), if_neg ht])]; exact readPkS_ok s w hs h hv hr hx hy1 hy2 ht
     ·rw [rkV_no s 5 (by unfold pkWhy; rw [if_neg (by omega), if_neg (by omega), if_neg hr', if_neg (by omega), if_pos hy]) (by omega)]
      by_cases h6 : bits .and .u8 ((at8 s 6).toNat : Int) 191 = 0
      ·exact readPkS_frag7 s w hs h hv hr hx h6 (fun h7 => hy ((frag_bytes s).2 ⟨h6, h7⟩))
      ·exact readPkS_frag6 s w hs h hv hr hx h6
    ·rw [rkV_no s 4 (by unfold pkWhy; rw [if_neg (by omega), if_neg (by omega), if_neg hr', if_pos hx]) (by omega)]; exact readPkS_length s w hs h hv hr hx
  ·rw [rkV_no s 2 (by unfold pkWhy; rw [if_neg (by omega), if_pos hv]) (by omega)]; exact readPkS_version s w h hv
 ·rw [rkV_no s 1 (by unfold pkWhy; rw [if_pos (by omega)]) (by omega)]; exact readPkS_short s w (by omega)
end Go.Proofs.YtkkimgjcefojdaaGreatDoor
namespace Go.Proofs.YtkkimgjcefojdaaGreatDoor
open Go.RowKit Go.Lib


set_option maxHeartbeats 1000000 in
theorem arpOkS (k a b c d : Int) (w : World) :
  Calls Tryz.prog 101 #[.agg #[.int .i64 k, .int .i64 a, .int .i64 b, .int .i64 c, .int .i64 d]] w fun e w' => e = .returned (.bool (arpOk k a b c d)) ∧ Below w.heap.size w w' := by
 have Cp := Lib.hid (fun w => wordOkS a 48 w)
 obtain ⟨p, hp⟩ : ∃ p, wordOk a 48 = p := ⟨_, rfl⟩
 rw [hp] at Cp
 have Cq := Lib.hid (fun w => wordOkS c 48 w)
 obtain ⟨q, hq⟩ : ∃ q, wordOk c 48 = q := ⟨_, rfl⟩
 rw [hq] at Cq
 have Cr := Lib.hid (fun w => wordOkS b 32 w)
 obtain ⟨r, hr⟩ : ∃ r, wordOk b 32 = r := ⟨_, rfl⟩
 rw [hr] at Cr
 have Cs := Lib.hid (fun w => wordOkS d 32 w)
 obtain ⟨s, hs⟩ : ∃ s, wordOk d 32 = s := ⟨_, rfl⟩
 rw [hs] at Cs
 have Ct := Lib.hid (fun w => l1In_any k 1 2 w)
 obtain ⟨t, ht⟩ : ∃ t, decide (1 ≤ k ∧ k ≤ 2) = t := ⟨_, rfl⟩
 rw [ht] at Ct
 unfold arpOk
 rw [ht, hp, hq, hr, hs]
 clear ht hp hq hr hs
 cases t with
 | false =>
  go_enter Tryz.func101, Tryz.ntmps101
  go_wp2_with fail
  refine (Ct.out _).mono ?_
  rintro e w1 ⟨rfl, rfl⟩
  go_wp2_with fail
  go_ret
  exact ⟨rfl, (Below.refl _ _).alloc (Nat.le_refl _) _⟩
 | true =>
  cases p with
  | false =>
   go_enter Tryz.func101, Tryz.ntmps101
   go_wp2_with fail
   refine (Ct.out _).mono ?_
   rintro e w1 ⟨rfl, rfl⟩
   go_wp2_with fail
   refine (Cp.out _).mono ?_
   rintro e w1 ⟨rfl, rfl⟩
   go_wp2_with fail
   go_ret
   exact ⟨rfl, (Below.refl _ _).alloc (Nat.le_refl _) _⟩
  | true =>
   cases q with
   | false =>
    go_enter Tryz.func101, Tryz.ntmps101
    go_wp2_with fail
    refine (Ct.out _).mono ?_
    rintro e w1 ⟨rfl, rfl⟩
    go_wp2_with fail
    refine (Cp.out _).mono ?_
    rintro e w1 ⟨rfl, rfl⟩
    go_wp2_with fail
    refine (Cq.out _).mono ?_
    rintro e w1 ⟨rfl, rfl⟩
    go_wp2_with fail
    go_ret
    exact ⟨rfl, (Below.refl _ _).alloc (Nat.le_refl _) _⟩
   | true =>
    cases r with
    | false =>
     go_enter Tryz.func101, Tryz.ntmps101
     go_wp2_with fail
     refine (Ct.out _).mono ?_
     rintro e w1 ⟨rfl, rfl⟩
     go_wp2_with fail
     refine (Cp.out _).mono ?_
     rintro e w1 ⟨rfl, rfl⟩
     go_wp2_with fail
     refine (Cq.out _).mono ?_
     rintro e w1 ⟨rfl, rfl⟩
     go_wp2_with fail
     refine (Cr.out _).mono ?_
     rintro e w1 ⟨rfl, rfl⟩
     go_wp2_with fail
     go_ret
     exact ⟨rfl, (Below.refl _ _).alloc (Nat.le_refl _) _⟩
    | true =>
     cases s with
     | false =>
      go_enter Tryz.func101, Tryz.ntmps101
      go_wp2_with fail
      refine (Ct.out _).mono ?_
      rintro e w1 ⟨rfl, rfl⟩
      go_wp2_with fail
      refine (Cp.out _).mono ?_
      rintro e w1 ⟨rfl, rfl⟩
      go_wp2_with fail
      refine (Cq.out _).mono ?_
      rintro e w1 ⟨rfl, rfl⟩
      go_wp2_with fail
      refine (Cr.out _).mono ?_
      rintro e w1 ⟨rfl, rfl⟩
      go_wp2_with fail
      refine (Cs.out _).mono ?_
      rintro e w1 ⟨rfl, rfl⟩
      go_wp2_with fail
      go_ret
      exact ⟨rfl, (Below.refl _ _).alloc (Nat.le_refl _) _⟩
     | true =>
      go_enter Tryz.func101, Tryz.ntmps101
      go_wp2_with fail
      refine (Ct.out _).mono ?_
      rintro e w1 ⟨rfl, rfl⟩
      go_wp2_with fail
      refine (Cp.out _).mono ?_
      rintro e w1 ⟨rfl, rfl⟩
      go_wp2_with fail
      refine (Cq.out _).mono ?_
      rintro e w1 ⟨rfl, rfl⟩
      go_wp2_with fail
      refine (Cr.out _).mono ?_
      rintro e w1 ⟨rfl, rfl⟩
      go_wp2_with fail
      refine (Cs.out _).mono ?_
      rintro e w1 ⟨rfl, rfl⟩
      go_wp2_with fail
      go_ret
      exact ⟨rfl, (Below.refl _ _).alloc (Nat.le_refl _) _⟩

end Go.Proofs.YtkkimgjcefojdaaGreatDoor
namespace Go.Proofs.YtkkimgjcefojdaaGreatDoor
open Go.RowKit Go.Lib


set_option maxRecDepth 100000 in
set_option maxHeartbeats 4000000 in
theorem arpTextS (k a b c d : Int) (w : World) :
  Calls Tryz.prog 65 #[.agg #[.int .i64 k, .int .i64 a, .int .i64 b, .int .i64 c, .int .i64 d]] w fun e w' => e = .returned (.string (arpText k a b c d)) ∧ Below w.heap.size w w' := by
 have C1 := Lib.hid (arpOkS k a b c d)
 obtain ⟨o, ho⟩ : ∃ o, arpOk k a b c d = o := ⟨_, rfl⟩
 rw [ho] at C1
 unfold arpText
 rw [ho]
 cases o with
 | false =>
  clear ho
  go_enter Tryz.func65, Tryz.ntmps65
  go_wp2_with fail
  refine (C1.out _).mono ?_
  rintro e w1 ⟨rfl, hb1⟩
  have B1 := Lib.hid (((Below.refl w.heap.size w).alloc (Nat.le_refl _) _).trans (hb1.mono (by simp)))
  clear hb1
  go_wp2_with fail
  go_ret
  exact ⟨rfl, B1.out⟩
 | true =>
  have P0 := Lib.hid (putWordS k 2)
  obtain ⟨x0, e0⟩ : ∃ x, putW k 2 = x := ⟨_, rfl⟩
  have z0 := putW_le k 2
  rw [e0] at P0 z0
  have P1 := Lib.hid (putWordS a 6)
  obtain ⟨x1, e1⟩ : ∃ x, putW a 6 = x := ⟨_, rfl⟩
  have z1 := putW_le a 6
  rw [e1] at P1 z1
  have P2 := Lib.hid (putWordS b 4)
  obtain ⟨x2, e2⟩ : ∃ x, putW b 4 = x := ⟨_, rfl⟩
  have z2 := putW_le b 4
  rw [e2] at P2 z2
  have P3 := Lib.hid (putWordS c 6)
  obtain ⟨x3, e3⟩ : ∃ x, putW c 6 = x := ⟨_, rfl⟩
  have z3 := putW_le c 6
  rw [e3] at P3 z3
  have P4 := Lib.hid (putWordS d 4)
  obtain ⟨x4, e4⟩ : ∃ x, putW d 4 = x := ⟨_, rfl⟩
  have z4 := putW_le d 4
  rw [e4] at P4 z4
  rw [e0, e1, e2, e3, e4, if_pos rfl]
  have m0 : ¬ 9223372036854775807 < 6 + x0.size := by omega
  have m1 : ¬ 9223372036854775807 < 6 + x0.size + x1.size := by omega
  have m2 : ¬ 9223372036854775807 < 6 + x0.size + x1.size + x2.size := by omega
  have m3 : ¬ 9223372036854775807 < 6 + x0.size + x1.size + x2.size + x3.size := by omega
  have m4 : ¬ 9223372036854775807 < 6 + x0.size + x1.size + x2.size + x3.size + x4.size := by omega
  clear ho e0 e1 e2 e3 e4 z0 z1 z2 z3 z4
  go_enter Tryz.func65, Tryz.ntmps65
  go_wp2_with fail
  refine (C1.out _).mono ?_
  rintro e w1 ⟨rfl, hb1⟩
  have B1 := Lib.hid (((Below.refl w.heap.size w).alloc (Nat.le_refl _) _).trans (hb1.mono (by simp)))
  have K1 := Lib.hid ((HasC.new w #[.int .i64 k, .int .i64 a, .int .i64 b, .int .i64 c, .int .i64 d] 96).keep hb1)
  clear hb1
  obtain ⟨c0, c1, c2, c3, c4⟩ := K1.out.of5
  have hg := K1.out.1
  go_wp2_with fail
  go_region_held3 (fun w' => w.heap.size < w'.heap.size ∧ w'.cell? ⟨w.heap.size, 0, none⟩ = some (.int .i64 k) ∧ w'.cell? ⟨w.heap.size, 1, none⟩ = some (.int .i64 a) ∧ w'.cell? ⟨w.heap.size, 2, none⟩ = some (.int .i64 b) ∧ w'.cell? ⟨w.heap.size, 3, none⟩ = some (.int .i64 c) ∧ w'.cell? ⟨w.heap.size, 4, none⟩ = some (.int .i64 d))
   (first | (exact keep5 (by assumption) hb6) | (exact keep5 (by assumption) hb5) | (exact keep5 (by assumption) hb4) | (exact keep5 (by assumption) hb3) | (exact keep5 (by assumption) hb2) | go_keep)
   ((go_at_call 87; first | ((with_reducible refine (P0.out _).mono ?_); rintro e w2 ⟨rfl, hb2⟩) | ((with_reducible refine (P1.out _).mono ?_); rintro e w3 ⟨rfl, hb3⟩) | ((with_reducible refine (P2.out _).mono ?_); rintro e w4 ⟨rfl, hb4⟩) | ((with_reducible refine (P3.out _).mono ?_); rintro e w5 ⟨rfl, hb5⟩) | ((with_reducible refine (P4.out _).mono ?_); rintro e w6 ⟨rfl, hb6⟩)))
  have B2 := Lib.hid (B1.out.drew.trans (hb2.mono B1.out.size))
  have B3 := Lib.hid (B2.out.trans (hb3.mono B2.out.size))
  have B4 := Lib.hid (B3.out.trans (hb4.mono B3.out.size))
  have B5 := Lib.hid (B4.out.trans (hb5.mono B4.out.size))
  have B6 := Lib.hid (B5.out.trans (hb6.mono B5.out.size))
  clear hb2 hb3 hb4 hb5 hb6 c0 c1 c2 c3 c4
  go_wp2_with fail
  go_ret
  exact ⟨rfl, B6.out⟩
  
end Go.Proofs.YtkkimgjcefojdaaGreatDoor
