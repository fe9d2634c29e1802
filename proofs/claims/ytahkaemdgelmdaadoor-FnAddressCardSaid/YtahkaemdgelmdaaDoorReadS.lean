/- spec.Address -/
import Derived.Test.YtahkaemdgelmdaaDoorAdrS
import Derived.Test.YtahkaemdgelmdaaDoorPartsA
namespace Go.Proofs.YtahkaemdgelmdaaDoor
open Go.RowKit Go.Lib

theorem getD_eq (ps : List ByteArray) (k : Nat) (h : k < ps.length) : ps.getD k ⟨#[]⟩ = ps[k] := by
  rw [List.getD_eq_getElem?_getD, List.getElem?_eq_getElem h]; rfl
theorem numS (s : ByteArray) (m : Int) (b : Bool) (h : Hid (numOut s = (m, b))) (w : World) (hs : s.size ≤ 1048576) : Calls Tryd.prog 24 #[.string s] w fun e w' => e = .returned (.tuple #[.int .i64 m, .bool b]) ∧ Below w.heap.size w w' := by
  have := numberS s w hs; rw [h.out] at this; exact this
theorem piece_size (s : ByteArray) (c : UInt8) (k : Nat) (h : k < (pieces s c).length) : (pieces s c)[k].size ≤ s.size := by
  have h1 := lens_pieces s c
  have h2 := lens_take (pieces s c) k h
  have h3 : lens (bytesOf ((pieces s c).take (k + 1))) ≤ lens (bytesOf (pieces s c)) := by
    have e : bytesOf (pieces s c) = bytesOf ((pieces s c).take (k + 1)) ++ bytesOf ((pieces s c).drop (k + 1)) := by
      unfold bytesOf; rw [← List.map_append, List.take_append_drop]
    rw [e]; unfold lens; rw [List.map_append, List.sum_append]; omega
  omega

/-- What is known at the end of the loop. -/
theorem adrOut_of (s : ByteArray) (k q : Nat) (hk : k = (pieces s 46).length ∨ k = 4) (h1 : k ≤ (pieces s 46).length) (h4 : k ≤ 4) (hq : q = adn (pieces s 46) k) :
    adrOut s = if s.size = 0 ∨ adrText q ≠ s then (0, false) else ((q : Int), true) := by
  have e : min (pieces s 46).length 4 = k := by omega
  unfold adrOut; rw [e, ← hq]

set_option maxHeartbeats 1000000 in
theorem addressS (s : ByteArray) (w : World) (hs : s.size ≤ 1048576) :
    Calls Tryd.prog 9 #[.string s] w fun e w' => e = .returned (.tuple #[.int .i64 (adrOut s).1, .bool (adrOut s).2]) ∧ Below w.heap.size w w' := by
  have C := Lib.hid (partsS s 46 w hs)
  have hlen := pieces_length s 46
  have hps := Lib.hid (piece_size s 46)
  have OUT := Lib.hid (adrOut_of s)
  obtain ⟨out, hout⟩ : ∃ out, adrOut s = out := ⟨_, rfl⟩
  rw [hout] at OUT
  rw [hout]
  clear hout
  obtain ⟨ps, hpp⟩ : ∃ ps, pieces s 46 = ps := ⟨_, rfl⟩
  unfold PartsEnd at C
  rw [hpp] at C hlen hps OUT
  clear hpp
  go_enter Tryd.func9, Tryd.ntmps9
  go_wp2_with fail
  refine C.out.mono ?_
  rintro e w1 ⟨g, cap, rfl, hown, hb1, hcap⟩
  have hrow := Row.own hown
  have R := Lib.hid hrow
  have B1 := Lib.hid hb1
  clear hown hb1 hrow
  go_wp2_with fail
  go_loopw [5, 6] (fun n i wr => ∃ k q : Nat, (k ≤ ps.length ∧ k ≤ 4) ∧ i = .int .i64 k ∧ n = .int .i64 q ∧ q ≤ 4294967295 ∧ Hid (q = adn ps k) ∧ Below w1.heap.size w1 wr)
    (fun _ i _ => 4 - (RowKit.intOf i).toNat)
  case atStart => exact ⟨0, 0, ⟨Nat.zero_le _, Nat.zero_le _⟩, rfl, rfl, by omega, rfl, Below.refl _ _⟩
  case round =>
    obtain ⟨k, q, ⟨hk, hk4⟩, rfl, rfl, hq4, hq, hb⟩ := hrel
    have B := Lib.hid hb
    by_cases hlt : k < ps.length ∧ k < 4
    · obtain ⟨h1, h4⟩ := hlt
      obtain ⟨b, off, hao, hbb, hcs⟩ := (R.out.below hb).str h1
      cases hao
      have hc := hcs k h1
      rw [Nat.zero_add] at hc
      have hk0 : (0 : Int) ≤ (k : Int) := by omega
      have hk1 : (k : Int) < (ps.length : Int) := by omega
      have hqb := adn_bd ps k (by omega)
      obtain ⟨x, y, hxy⟩ : ∃ x y, numOut ps[k] = (x, y) := ⟨_, _, rfl⟩
      have hx := numOut_bd ps[k]
      rw [hxy] at hx
      obtain ⟨hx0, hx1⟩ := hx
      have NUM := Lib.hid hxy
      have hsz := Nat.le_trans (hps.out k h1) hs
      have E : Hid (256 * q + (x % 256).toNat = adn ps (k + 1)) := by show _ = _; rw [hq.out]; simp only [adn]; rw [getD_eq ps k h1, NUM.out]
      have hqn := adn_bd ps (k + 1) (by omega)
      rw [← E.out] at hqn
      clear hcs hxy hb
      go_wp2_with fail
      refine (numS ps[k] x y NUM wr hsz).mono ?_
      rintro e w2 ⟨rfl, hb2⟩
      have B2 := Lib.hid (B.out.trans (hb2.mono B.out.size))
      clear hb2 hc
      go_wp2_with fail
      go_roundw
      case rel => exact ⟨k + 1, 256 * q + (x % 256).toNat, ⟨by omega, by omega⟩, by go_num, by go_num, hqn, E, B2.out⟩
      case measure => simp [RowKit.intOf]; omega
    · have O : Hid (out = if s.size = 0 ∨ adrText q ≠ s then (0, false) else ((q : Int), true)) := OUT.out k q (by omega) hk hk4 hq.out
      clear hb
      by_cases h0 : s.size = 0
      · have e0 : s.toList.isEmpty = true := by
          rw [ByteArray.toList_eq, List.eq_nil_of_length_eq_zero (show s.data.toList.length = 0 by simpa using h0)]; rfl
        have O2 : Hid (out = (0, false)) := O.out.trans (if_pos (.inl h0))
        clear O OUT
        have h1 : ¬ k < ps.length := by omega
        go_wp2_with fail
        go_ret2
        rw [O2.out]
        exact ⟨rfl, B1.out.trans (B.out.mono B1.out.size)⟩
      · have e0 : s.toList.isEmpty = false := by
          rw [ByteArray.toList_eq]
          cases hl : s.data.toList with
          | nil => exact absurd (by rw [← ByteArray.size_data, ← Array.length_toList, hl]; rfl) h0
          | cons _ _ => rfl
        have CT := Lib.hid (addressTextS (q : Int))
        by_cases hu : adrText q = s
        · have O2 : Hid (out = ((q : Int), true)) := O.out.trans (if_neg (fun hh => hh.elim h0 (fun hn => hn hu)))
          rw [hu] at CT
          clear O OUT hu
          by_cases h1 : k < ps.length
          · go_wp2_with fail
            refine (CT.out wr).mono ?_
            rintro e w2 ⟨rfl, hb2⟩
            have B2 := Lib.hid (B1.out.trans ((B.out.trans (hb2.mono B.out.size)).mono B1.out.size))
            clear hb2
            go_wp2_with fail
            go_ret2
            rw [O2.out]
            exact ⟨rfl, B2.out⟩
          · go_wp2_with fail
            refine (CT.out wr).mono ?_
            rintro e w2 ⟨rfl, hb2⟩
            have B2 := Lib.hid (B1.out.trans ((B.out.trans (hb2.mono B.out.size)).mono B1.out.size))
            clear hb2
            go_wp2_with fail
            go_ret2
            rw [O2.out]
            exact ⟨rfl, B2.out⟩
        · have O2 : Hid (out = (0, false)) := O.out.trans (if_pos (.inr hu))
          obtain ⟨u, hu2⟩ : ∃ u, adrText q = u := ⟨_, rfl⟩
          rw [hu2] at CT hu
          have hne : (u.toList == s.toList) = false := by
            rw [beq_eq_false_iff_ne, ByteArray.toList_eq, ByteArray.toList_eq]
            exact fun e => hu (ByteArray.ext (Array.toList_inj.1 e))
          clear O OUT hu hu2
          by_cases h1 : k < ps.length
          · go_wp2_with fail
            refine (CT.out wr).mono ?_
            rintro e w2 ⟨rfl, hb2⟩
            have B2 := Lib.hid (B1.out.trans ((B.out.trans (hb2.mono B.out.size)).mono B1.out.size))
            clear hb2
            go_wp2_with fail
            go_ret2
            rw [O2.out]
            exact ⟨rfl, B2.out⟩
          · go_wp2_with fail
            refine (CT.out wr).mono ?_
            rintro e w2 ⟨rfl, hb2⟩
            have B2 := Lib.hid (B1.out.trans ((B.out.trans (hb2.mono B.out.size)).mono B1.out.size))
            clear hb2
            go_wp2_with fail
            go_ret2
            rw [O2.out]
            exact ⟨rfl, B2.out⟩
end Go.Proofs.YtahkaemdgelmdaaDoor
