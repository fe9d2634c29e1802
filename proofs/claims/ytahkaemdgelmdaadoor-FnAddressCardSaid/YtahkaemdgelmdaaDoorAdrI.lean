/- impl.AddressText -/
import Derived.Test.YtahkaemdgelmdaaDoorPutI
import Derived.Test.YtahkaemdgelmdaaDoorDigB
import Derived.Test.YtahkaemdgelmdaaDoorJoinI
import Derived.Test.YtahkaemdgelmdaaDoorAdrS
namespace Go.Proofs.YtahkaemdgelmdaaDoor
open Go.RowKit Go.Lib

theorem made_strings (k : Nat) : (madeCells (Value.string ⟨#[]⟩).cells (k * 1)).toList = List.replicate k (.string ⟨#[]⟩) := by
  simp [madeCells, Value.cells, Nat.mod_one, List.map_const']

set_option maxHeartbeats 1000000 in
theorem addressTextI (n : Int) (w : World) (htab : TabIs Tryd.prog w "internal/strconv.uint64pow10" .u64 pow10Tab) :
    Calls Tryd.prog 6 #[.int .i64 n] w fun e w' => e = .returned (.string (adrText n)) ∧ Below w.heap.size w w' := by
  obtain ⟨i0, hi, hz0, hz1, hz2⟩ := info_parts Tryd.info9
  have T := Lib.hid htab
  clear htab
  have C := Lib.hid (putWordI n 4)
  have E : Hid (adrText n = textOf (putW n 4)) := rfl
  have ht := putW_size n
  obtain ⟨t, hpt⟩ : ∃ t, putW n 4 = t := ⟨_, rfl⟩
  rw [hpt] at C E ht
  rw [E.out]
  clear E hpt
  rcases ht with rfl | ht
  · rw [textOf_none]
    go_enter Tryd.func6, Tryd.ntmps6
    go_wp2_with fail
    refine (C.out w).mono ?_
    rintro e w1 ⟨rfl, hb1⟩
    go_wp2_with fail
    go_ret
    exact ⟨rfl, hb1⟩
  · have he : t.toList.isEmpty = false := by
      rw [ByteArray.toList_eq]
      cases hl : t.data.toList with
      | nil => exact absurd (by rw [← ByteArray.size_data, ← Array.length_toList, hl]; rfl) (show t.size ≠ 0 by omega)
      | cons _ _ => rfl
    have hl := digs_length t
    rw [ht] at hl
    have HL := Lib.hid hl
    clear hl
    go_enter Tryd.func6, Tryd.ntmps6
    go_wp2_with fail
    refine (C.out w).mono ?_
    rintro e w1 ⟨rfl, hb1⟩
    have B1 := Lib.hid hb1
    have hsz := hb1.size
    clear hb1
    go_wp2_with (at_make; refine wpList_make_full _ rfl _ _ _ rfl w.heap.size 9 i0 _ 1 Tryd.underlying35 hi hz0 hz1 _ _ _ _ 4 rfl rfl rfl rfl (by rw [hz2]; omega) (by unfold maxLen; omega) hsz ?_; intro w2 hown hgrow)
    rw [made_strings] at hown
    have B2 := Lib.hid (B1.out.trans ((below_made hgrow).mono hsz))
    clear hgrow he hsz
    go_loopw [11] (fun i wr => ∃ k : Nat, k ≤ 4 ∧ i = .int .i64 k ∧ wr.ownsRow w.heap.size 9 1 (.slice (some ⟨w1.heap.size, 0, none⟩) 4 4) 4 (fillS (digs t) k) ∧ Below w.heap.size w wr)
      (fun i _ => 4 - (RowKit.intOf i).toNat)
    case atStart => exact ⟨0, Nat.zero_le _, rfl, by rw [fillS_zero, HL.out]; exact hown, B2.out⟩
    case round =>
      clear hown B2
      obtain ⟨k, hk, rfl, hown, hb⟩ := hrel
      by_cases hlt : k < 4
      · have hkt : k < t.size := by omega
        have h8 : t[k].toNat < 256 := t[k].toNat_lt
        have O := Lib.hid hown
        have B := Lib.hid hb
        clear hown hb
        go_wp2_with fail
        refine (digitsI (t[k].toNat : Int) wr (by omega) (by omega) (tab_below T.out B.out)).mono ?_
        rintro e w2 ⟨rfl, hb2⟩
        have hown := kept_below O.out hb2
        have B2 := Lib.hid (B.out.trans (hb2.mono B.out.size))
        have hB1 := B1.out.size
        have hfz := hown.frozenAt k
        have hcell := (hown.cellAt k (by omega)).trans (fillS_at (digs t) k (by rw [HL.out]; exact hlt))
        have E : Hid ((⟨(itoa (t[k].toNat : Int)).toArray⟩ : ByteArray) = dig1 t[k]) := rfl
        obtain ⟨d, hd⟩ : ∃ d : ByteArray, (⟨(itoa (t[k].toNat : Int)).toArray⟩ : ByteArray) = d := ⟨_, rfl⟩
        rw [hd] at E
        rw [hd]
        have S := Lib.hid (hown.stored k (.string d)).1
        clear hb2 hd hown
        go_wp2_with fail
        go_roundw
        case rel => exact ⟨k + 1, by omega, by go_num, by rw [← fillS_set (digs t) k (by rw [HL.out]; exact hlt), digs_get t k hkt, ← E.out]; exact S.out, B2.out.setCell (p := ⟨w1.heap.size, k, none⟩) hB1 _⟩
        case measure => simp [RowKit.intOf]; omega
      · rw [fillS_all (digs t) k (by rw [HL.out]; omega)] at hown
        have hrow := Row.own hown
        have hl := HL.out
        have J := Lib.hid (joinedI (some ⟨w1.heap.size, 0, none⟩) 4 (digs t) ⟨#[46]⟩ wr hrow (by omega) (by omega) (by decide) (lens_digs t (by omega)))
        rw [hl] at J
        have B := Lib.hid hb
        clear hown hrow hb
        go_wp2_with fail
        refine J.out.mono ?_
        rintro e w2 ⟨rfl, hb2⟩
        have B2 := Lib.hid (B.out.trans (hb2.mono B.out.size))
        clear hb2
        go_wp2_with fail
        go_ret
        exact ⟨ret_str (by unfold textOf; rw [hl]), B2.out⟩
end Go.Proofs.YtahkaemdgelmdaaDoor
