/- What the program reads out of a row's fields; impl.segmentRight. Nothing here is a claim. -/
import Derived.Test.YtlfbcfhekfmkfaaSegTxt
import Derived.Test.YtlfbcfhekfmkfaaCopyText
import Derived.Test.YtlfbcfhekfmkfaaSum
import Derived.Test.YtlfbcfhekfmkfaaGetI
import Derived.Test.YtlfbcfhekfmkfaaPseudo
namespace Go.Proofs.Ytlfbcfhekfmkfaa
open Go.RowKit Go.Lib

theorem gw_part (s : ByteArray) (o k j : Nat) (h : j ≤ k) : gw (s.extract o (o + k)) 0 j = gw s o j := by
  induction j with
  | zero => rfl
  | succ j ih => simp only [gw]; rw [ih (by omega), at8_extract s o (o + k) (0 + j) (by omega), Nat.zero_add]
theorem field_conv {P : Program} {W : World} {g : Nat} {s : ByteArray} (h : Laid8 W g (s.extract 0 20).data.toList) (hs20 : 20 ≤ s.size) (o k : Nat) (hk : o + k ≤ 20) (src dst e : TypeId) (cap : Nat) (hs : P.underlying src = some (.slice e)) (he : P.underlying e = some (.int .u8)) (hd : P.underlying dst = some .string) :
    (convert src dst (.slice (some ⟨g, o, none⟩) k cap)).run P W = .ok (.string (s.extract o (o + k))) W := by
  have e0 : s.data.toList.length = s.size := by simp
  have el : (s.extract o (o + k)).data.toList.length = k := by
    rw [len_list, ByteArray.size_extract]; omega
  have := run_convert_bytes_back (P := P) W src dst e ⟨g, o, none⟩ cap (s.extract o (o + k)).data.toList hs he hd (fun j hj => by
    have hj' : j < k := by omega
    have hl : o + j < (s.extract 0 20).data.toList.length := by rw [len_list, ByteArray.size_extract]; omega
    rw [show (⟨g, o, none⟩ : Addr).add j = ⟨g, o + j, none⟩ by simp [Addr.add]]
    rw [h.1 (o + j) hl]
    have e1 : (s.extract 0 20).data.toList[o + j] = (s.extract o (o + k)).data.toList[j] := by
      simp only [ByteArray.data_extract, Array.getElem_toList, Array.getElem_extract, Nat.zero_add]
    rw [e1])
  rw [el] at this
  exact this
theorem and_63 (n : Nat) (h : n < 256) : bits .and .i64 (n : Int) 63 = ((n % 64 : Nat) : Int) := by
  have h1 : (BitVec.ofInt 64 (n : Int)).toNat = n := by
    rw [BitVec.ofInt_natCast, BitVec.toNat_ofNat]; exact Nat.mod_eq_of_lt (by omega)
  have h2 : (BitVec.ofInt 64 (63 : Int)).toNat = 63 := by decide
  have h4 : (BitVec.ofInt 64 (n : Int) &&& BitVec.ofInt 64 (63 : Int)).toNat = n % 64 := by
    rw [BitVec.toNat_and, h1, h2]; exact Nat.and_two_pow_sub_one_eq_mod n 6
  have h3 : bits .and .i64 (n : Int) 63 = IntKind.i64.wrap ((BitVec.ofInt 64 (n : Int) &&& BitVec.ofInt 64 (63 : Int)).toNat : Int) := rfl
  rw [h3, h4, IntKind.wrap_i64]
  omega
theorem Laid8.setOther {W : World} {g : Nat} {l : List UInt8} (h : Laid8 W g l) (q : Addr) (v : Value) (hne : g ≠ q.block) : Laid8 (W.setCell q v) g l := h.heap (Below.heap_setCell W q v g hne)

set_option maxHeartbeats 1000000 in
theorem segRightI (s : ByteArray) (x z : Int) (w : World) (hs : s.size ≤ 1048576) :
    Calls Try.prog 45 #[.string s, .int .i64 x, .int .i64 z] w fun e w' => e = .returned (.bool (decide (segPs x z s.size ≠ ⟨#[]⟩) && sumRight (segPs x z s.size ++ s))) ∧ Below w.heap.size w w' := by
  have CP := Lib.hid (pseudoHeadI x z s.size)
  have e0 : segPs x z s.size = pseudo (putW x 4) (putW z 4) (putW s.size 2) := rfl
  rw [← e0] at CP
  clear e0
  have zp := pseudo_le x z s.size
  obtain ⟨P, hP⟩ : ∃ P, segPs x z s.size = P := ⟨_, rfl⟩
  rw [hP] at CP zp ⊢
  clear hP
  by_cases hp : P = ⟨#[]⟩
  · subst hp
    rw [decide_eq_false (show ¬ ((⟨#[]⟩ : ByteArray) ≠ ⟨#[]⟩) from fun h => h rfl), Bool.false_and]
    clear zp
    go_enter Try.func45, Try.ntmps45
    go_wp2_with fail
    refine (CP.out _).mono ?_
    rintro e w1 ⟨rfl, hb1⟩
    have B1 := Lib.hid hb1
    clear hb1
    go_wp2_with fail
    go_ret
    exact ⟨rfl, B1.out⟩
  · have ep := empty_no hp
    rw [decide_eq_true hp, Bool.true_and]
    clear hp
    have ms : ¬ 9223372036854775807 < P.size + s.size := by omega
    have CR := Lib.hid (sumRightI (P ++ s) (by rw [ByteArray.size_append]; omega))
    obtain ⟨r, hr⟩ : ∃ r, sumRight (P ++ s) = r := ⟨_, rfl⟩
    rw [hr] at CR ⊢
    clear hr zp hs
    go_enter Try.func45, Try.ntmps45
    go_wp2_with fail
    refine (CP.out _).mono ?_
    rintro e w1 ⟨rfl, hb1⟩
    have B1 := Lib.hid hb1
    clear hb1
    go_wp2_with fail
    refine (CR.out _).mono ?_
    rintro e w2 ⟨rfl, hb2⟩
    have B2 := Lib.hid (B1.out.trans (hb2.mono B1.out.size))
    clear hb2
    go_wp2_with fail
    go_ret
    exact ⟨rfl, B2.out⟩
end Go.Proofs.Ytlfbcfhekfmkfaa
