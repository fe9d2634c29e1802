/- Plain lemmas: a segment's text is read as the segment. Nothing here is a claim. -/
import Derived.Test.YtlfbcfhekfmkfaaSegRound
namespace Go.Proofs.Ytlfbcfhekfmkfaa
open Go.RowKit Go.Lib

set_option maxHeartbeats 4000000 in
theorem seg_fields {x : Seg} (h : segOk x = true) (K t : ByteArray) (hK : K.size = 2) (ht : t = segFst x (optText x.o) ++ K ++ segEnd (optText x.o) x.b) :
    segN t = 20 + (optText x.o).size ∧ segCand t = x ∧ (optRead (t.extract 20 (segN t))).2 = true ∧ t.size = 20 + (optText x.o).size + x.b.size := by
  obtain ⟨o1, o2, o3, o4, o5, o6, o7, _⟩ := segOk_all h
  have h1 := optText_size x.o
  have oN : wordOk ((((20 + (optText x.o).size) / 4 * 16 : Nat)) : Int) (8 * (1 : Nat)) = true := wordOk_of (k := 1) (by omega) (by omega) (by show _ < (256 : Int); omega)
  have zA := segFst_size h
  have z1 : (putW x.p 2).size = 2 := putW_len x.p 2 (by omega) o1
  have z2 : (putW x.d 2).size = 2 := putW_len x.d 2 (by omega) o2
  have z3 : (putW x.q 4).size = 4 := putW_len x.q 4 (by omega) o4
  have z4 : (putW x.a 4).size = 4 := putW_len x.a 4 (by omega) o5
  have z5 : (putW (((20 + (optText x.o).size) / 4 * 16 : Nat) : Int) 1).size = 1 := putW_len (((20 + (optText x.o).size) / 4 * 16 : Nat) : Int) 1 (by omega) oN
  have z6 : (putW x.g 1).size = 1 := putW_len x.g 1 (by omega) (wordOk6 o6)
  have z7 : (putW x.n 2).size = 2 := putW_len x.n 2 (by omega) o3
  have e : t = putW x.p 2 ++ (putW x.d 2 ++ (putW x.q 4 ++ (putW x.a 4 ++ (putW (((20 + (optText x.o).size) / 4 * 16 : Nat) : Int) 1 ++ (putW x.g 1 ++ (putW x.n 2 ++ (K ++ (⟨#[0, 0]⟩ ++ (optText x.o ++ x.b))))))))) := by
    rw [ht]
    unfold segFst segEnd
    simp only [ByteArray.append_assoc]
  have f0 := gw_back x.p 2 0 (by omega) o1 ⟨#[]⟩ (putW x.d 2 ++ (putW x.q 4 ++ (putW x.a 4 ++ (putW (((20 + (optText x.o).size) / 4 * 16 : Nat) : Int) 1 ++ (putW x.g 1 ++ (putW x.n 2 ++ (K ++ (⟨#[0, 0]⟩ ++ (optText x.o ++ x.b))))))))) t (by rw [e]; exact (ByteArray.empty_append).symm) rfl
  have f2 := gw_back x.d 2 2 (by omega) o2 (putW x.p 2) (putW x.q 4 ++ (putW x.a 4 ++ (putW (((20 + (optText x.o).size) / 4 * 16 : Nat) : Int) 1 ++ (putW x.g 1 ++ (putW x.n 2 ++ (K ++ (⟨#[0, 0]⟩ ++ (optText x.o ++ x.b)))))))) t (by rw [e]; rfl) (by first | omega | (simp only [ByteArray.size_append]; omega))
  have f4 := gw_back x.q 4 4 (by omega) o4 (putW x.p 2 ++ (putW x.d 2)) (putW x.a 4 ++ (putW (((20 + (optText x.o).size) / 4 * 16 : Nat) : Int) 1 ++ (putW x.g 1 ++ (putW x.n 2 ++ (K ++ (⟨#[0, 0]⟩ ++ (optText x.o ++ x.b))))))) t (by rw [e]; simp only [ByteArray.append_assoc]; rfl) (by first | omega | (simp only [ByteArray.size_append]; omega))
  have f8 := gw_back x.a 4 8 (by omega) o5 (putW x.p 2 ++ (putW x.d 2 ++ (putW x.q 4))) (putW (((20 + (optText x.o).size) / 4 * 16 : Nat) : Int) 1 ++ (putW x.g 1 ++ (putW x.n 2 ++ (K ++ (⟨#[0, 0]⟩ ++ (optText x.o ++ x.b)))))) t (by rw [e]; simp only [ByteArray.append_assoc]; rfl) (by first | omega | (simp only [ByteArray.size_append]; omega))
  have f12 := gw_back (((20 + (optText x.o).size) / 4 * 16 : Nat) : Int) 1 12 (by omega) oN (putW x.p 2 ++ (putW x.d 2 ++ (putW x.q 4 ++ (putW x.a 4)))) (putW x.g 1 ++ (putW x.n 2 ++ (K ++ (⟨#[0, 0]⟩ ++ (optText x.o ++ x.b))))) t (by rw [e]; simp only [ByteArray.append_assoc]; rfl) (by first | omega | (simp only [ByteArray.size_append]; omega))
  have f13 := gw_back x.g 1 13 (by omega) (wordOk6 o6) (putW x.p 2 ++ (putW x.d 2 ++ (putW x.q 4 ++ (putW x.a 4 ++ (putW (((20 + (optText x.o).size) / 4 * 16 : Nat) : Int) 1))))) (putW x.n 2 ++ (K ++ (⟨#[0, 0]⟩ ++ (optText x.o ++ x.b)))) t (by rw [e]; simp only [ByteArray.append_assoc]; rfl) (by first | omega | (simp only [ByteArray.size_append]; omega))
  have f14 := gw_back x.n 2 14 (by omega) o3 (putW x.p 2 ++ (putW x.d 2 ++ (putW x.q 4 ++ (putW x.a 4 ++ (putW (((20 + (optText x.o).size) / 4 * 16 : Nat) : Int) 1 ++ (putW x.g 1)))))) (K ++ (⟨#[0, 0]⟩ ++ (optText x.o ++ x.b))) t (by rw [e]; simp only [ByteArray.append_assoc]; rfl) (by first | omega | (simp only [ByteArray.size_append]; omega))
  have hz : t.size = 20 + (optText x.o).size + x.b.size := by
    rw [ht]; unfold segEnd; simp only [ByteArray.size_append, zA, hK, zero_size]; omega
  have hN : segN t = 20 + (optText x.o).size := by
    unfold segN
    rw [← gw1]
    omega
  have eh : t = (segFst x (optText x.o) ++ K ++ ⟨#[0, 0]⟩) ++ (optText x.o ++ x.b) := by
    rw [ht]; unfold segEnd; simp only [ByteArray.append_assoc]
  have zh : (segFst x (optText x.o) ++ K ++ ⟨#[0, 0]⟩ : ByteArray).size = 20 := by simp only [ByteArray.size_append, zA, hK, zero_size]
  have ho : t.extract 20 (20 + (optText x.o).size) = optText x.o := by
    have := cut_mid (segFst x (optText x.o) ++ K ++ ⟨#[0, 0]⟩) (optText x.o) x.b t eh
    rw [zh] at this; exact this
  have hb : t.extract (20 + (optText x.o).size) t.size = x.b := by
    have e2 : t = (segFst x (optText x.o) ++ K ++ ⟨#[0, 0]⟩ ++ optText x.o) ++ (x.b ++ ⟨#[]⟩) := by
      rw [eh, show x.b ++ (⟨#[]⟩ : ByteArray) = x.b from ByteArray.append_empty]; simp only [ByteArray.append_assoc]
    have := cut_mid (segFst x (optText x.o) ++ K ++ ⟨#[0, 0]⟩ ++ optText x.o) x.b ⟨#[]⟩ t e2
    rw [ByteArray.size_append, zh] at this
    rw [hz]; exact this
  have hg : ((at8 t 13).toNat % 64 : Nat) = (at8 t 13).toNat := by
    have := f13
    rw [gw1] at this
    have o6' : x.g < 64 := by unfold wordOk at o6; exact (of_decide_eq_true o6).2.2
    omega
  refine ⟨hN, ?_, ?_, hz⟩
  · unfold segCand
    rw [hN, ho, hb, hg, ← gw1 t 13, f0, f2, f4, f8, f13, f14, opt_round o7]
  · rw [hN, ho, opt_round o7]
/-- The low byte of a word's sum. -/
theorem word_wsum (n : Nat) (h : n < 4294967296) : wsum (putW (n : Int) 4) = n / 65536 + n % 65536 := by
  unfold putW
  rw [if_pos ⟨by omega, by omega, by show (n : Int) < 4294967296; omega⟩]
  have : (wb (n : Int).toNat (4 : Int).toNat) = [UInt8.ofNat (n / 16777216), UInt8.ofNat (n / 65536), UInt8.ofNat (n / 256), UInt8.ofNat (n / 1)] := by
    simp [wb, wbAt, List.range, List.range.loop]
  rw [this]
  simp only [wsum, sm]
  simp
  omega
theorem word_int (n : Nat) (h : n < 4294967296) : (wsum (putW (n : Int) 4) : Int) = (n : Int) / 65536 + (n : Int) % 65536 := by
  rw [word_wsum n h]; simp
theorem low_diff (n m : Int) (h : m / 256 = n / 256) : (m / 65536 + m % 65536) - (n / 65536 + n % 65536) = m % 256 - n % 256 := by omega
theorem segPs_wsum {s d : Int} {M : Nat} (h1 : wordOk s 32 = true) (h2 : wordOk d 32 = true) (h3 : wordOk (M : Int) 16 = true) : wsum (segPs s d M) = wsum (putW s 4) + wsum (putW d 4) + 6 + wsum (putW M 2) := by
  have z1 : (putW s 4).size = 4 := putW_len s 4 (by omega) h1
  have z2 : (putW d 4).size = 4 := putW_len d 4 (by omega) h2
  have h6 : wsum ⟨#[0, 6]⟩ = 6 := rfl
  have s6 : (⟨#[0, 6]⟩ : ByteArray).size = 2 := rfl
  rw [segPs_eq h1 h2 h3, wsum_append _ _ (by simp only [ByteArray.size_append]; omega), wsum_append _ _ (by simp only [ByteArray.size_append]; omega), wsum_append _ _ (by omega), h6]
/-- Another last byte: what Go's xor makes of a word. -/
theorem xor_low (n k : Nat) (hn : n < 4294967296) (hk : 0 < k ∧ k < 256) : ∃ m : Nat, bits .xor .i64 (n : Int) (k : Int) = m ∧ m < 4294967296 ∧ m / 256 = n / 256 ∧ m % 256 ≠ n % 256 := by
  have h1 (j : Nat) (hj : j < 4294967296) : (BitVec.ofInt 64 (j : Int)).toNat = j := by
    rw [BitVec.ofInt_natCast, BitVec.toNat_ofNat]; exact Nat.mod_eq_of_lt (by omega)
  have h3 : bits .xor .i64 (n : Int) (k : Int) = IntKind.i64.wrap ((BitVec.ofInt 64 (n : Int) ^^^ BitVec.ofInt 64 (k : Int)).toNat : Int) := rfl
  have h4 : (BitVec.ofInt 64 (n : Int) ^^^ BitVec.ofInt 64 (k : Int)).toNat = n ^^^ k := by rw [BitVec.toNat_xor, h1 n hn, h1 k (by omega)]
  have hlt : n ^^^ k < 4294967296 := Nat.xor_lt_two_pow (n := 32) hn (by omega)
  refine ⟨n ^^^ k, ?_, hlt, ?_, ?_⟩
  · rw [h3, h4, IntKind.wrap_i64]; omega
  · have := Nat.xor_div_two_pow (a := n) (b := k) (n := 8)
    rw [show (2 : Nat) ^ 8 = 256 from rfl, show k / 256 = 0 by omega, Nat.xor_zero] at this
    exact this
  · intro e
    have h5 := Nat.xor_mod_two_pow (a := n) (b := k) (n := 8)
    rw [show (2 : Nat) ^ 8 = 256 from rfl, e, show k % 256 = k by omega] at h5
    have h6 : (n % 256) ^^^ (n % 256) = (n % 256) ^^^ ((n % 256) ^^^ k) := by rw [← h5]
    rw [Nat.xor_self, ← Nat.xor_assoc, Nat.xor_self, Nat.zero_xor] at h6
    omega
theorem segText_shape {x : Seg} {s d : Int} (h : segOk x = true) (hp : segPs s d (20 + (optText x.o).size + x.b.size) ≠ ⟨#[]⟩) :
    segText x s d = segFst x (optText x.o) ++ putW (sumOf (segPs s d (20 + (optText x.o).size + x.b.size) ++ segFst x (optText x.o) ++ ⟨#[0, 0]⟩ ++ segEnd (optText x.o) x.b)) 2 ++ segEnd (optText x.o) x.b := by
  rw [segText_yes s d h, segAll_yes _ _ hp]
theorem seg_pos {s d : Int} {M : Nat} (h : segPs s d M ≠ ⟨#[]⟩) : 0 < wsum (segPs s d M) := by
  obtain ⟨h1, h2, h3⟩ := segPs_words h
  rw [segPs_wsum h1 h2 h3]; omega
/-- A segment's text is read as the segment. -/
theorem seg_round {x : Seg} {s d : Int} (h : segOk x = true) (hp : segPs s d (20 + (optText x.o).size + x.b.size) ≠ ⟨#[]⟩) : readSeg (segText x s d) s d = (x, true) := by
  obtain ⟨hN, hc, ho, hz⟩ := seg_fields h _ _ (sum_size _) (segText_shape h hp)
  have hr := seg_right _ _ (segFst x (optText x.o)) (segEnd (optText x.o) x.b) (segPs_size hp) (segPs_size hp) (segFst_size h) (seg_pos hp)
  rw [← segText_shape h hp] at hr
  have hg : segGood (segText x s d) s d = true := by
    unfold segGood
    rw [hc, ho, hN, hz, hr, h, decide_eq_true hp, decide_eq_true (show 20 ≤ 20 + (optText x.o).size + x.b.size by omega), decide_eq_true (show 20 ≤ 20 + (optText x.o).size ∧ 20 + (optText x.o).size ≤ 20 + (optText x.o).size + x.b.size by omega),
      decide_eq_true (show 0 < wsum (segPs s d (20 + (optText x.o).size + x.b.size)) + wsum (segFst x (optText x.o)) + (sumOf (segPs s d (20 + (optText x.o).size + x.b.size) ++ segFst x (optText x.o) ++ ⟨#[0, 0]⟩ ++ segEnd (optText x.o) x.b)).toNat + wsum (segEnd (optText x.o) x.b) ∧ ((wsum (segPs s d (20 + (optText x.o).size + x.b.size)) : Int) - wsum (segPs s d (20 + (optText x.o).size + x.b.size))) % 65535 = 0 by have := seg_pos hp; omega)]
    rfl
  rw [readSeg_yes hg, hc]
/-- With another last byte of the address it is read no more. -/
theorem seg_other {x : Seg} {s d : Int} (h : segOk x = true) (hp : segPs s d (20 + (optText x.o).size + x.b.size) ≠ ⟨#[]⟩) (k : Nat) (hk : 0 < k ∧ k < 256) : readSeg (segText x s d) s (bits .xor .i64 d (k : Int)) = (segZ, false) := by
  obtain ⟨hN, hc, ho, hz⟩ := seg_fields h _ _ (sum_size _) (segText_shape h hp)
  obtain ⟨w1, w2, w3⟩ := segPs_words hp
  obtain ⟨n, rfl⟩ : ∃ n : Nat, d = (n : Int) := ⟨d.toNat, by unfold wordOk at w2; have := (of_decide_eq_true w2).2.1; omega⟩
  have hn : n < 4294967296 := by unfold wordOk at w2; have : (n : Int) < 4294967296 := (of_decide_eq_true w2).2.2; omega
  obtain ⟨m, hm, hm1, hm2, hm3⟩ := xor_low n k hn hk
  rw [hm]
  have w2' : wordOk (m : Int) 32 = true := wordOk_of (k := 4) (by omega) (by omega) (by show (m : Int) < 4294967296; omega)
  have hp' : segPs s m (20 + (optText x.o).size + x.b.size) ≠ ⟨#[]⟩ := by
    intro e
    have hs := congrArg ByteArray.size e
    rw [segPs_eq w1 w2' w3, ByteArray.size_append, ByteArray.size_append] at hs
    have h0 : (⟨#[]⟩ : ByteArray).size = 0 := rfl
    have h6 : (⟨#[0, 6]⟩ : ByteArray).size = 2 := rfl
    omega
  have hr := seg_right (segPs s n (20 + (optText x.o).size + x.b.size)) (segPs s m (20 + (optText x.o).size + x.b.size)) (segFst x (optText x.o)) (segEnd (optText x.o) x.b) (segPs_size hp) (segPs_size hp') (segFst_size h) (seg_pos hp)
  rw [← segText_shape h hp] at hr
  have d1 : (wsum (segPs s m (20 + (optText x.o).size + x.b.size)) : Int) - wsum (segPs s n (20 + (optText x.o).size + x.b.size)) = (m : Int) % 256 - (n : Int) % 256 := by
    rw [segPs_wsum w1 w2' w3, segPs_wsum w1 w2 w3]
    have a1 := word_int m hm1
    have a2 := word_int n hn
    have a3 := low_diff n m (by omega)
    generalize wsum (putW s 4) = t1 at *
    generalize wsum (putW ((20 + (optText x.o).size + x.b.size : Nat) : Int) 2) = t2 at *
    generalize wsum (putW (m : Int) 4) = t3 at *
    generalize wsum (putW (n : Int) 4) = t4 at *
    rw [← a3]
    simp only [Int.natCast_add]
    omega
  have d2 : (m : Int) % 256 ≠ (n : Int) % 256 := by omega
  generalize wsum (segPs s m (20 + (optText x.o).size + x.b.size)) = t1 at hr d1
  generalize wsum (segPs s n (20 + (optText x.o).size + x.b.size)) = t2 at hr d1
  have hf : sumRight (segPs s m (20 + (optText x.o).size + x.b.size) ++ segText x s n) = false := by
    rw [hr]
    apply decide_eq_false
    rintro ⟨_, h9⟩
    rw [d1] at h9
    clear hr d1 hm1 hn hm
    omega
  apply readSeg_no
  unfold segGood
  rw [hz, hf]
  simp
/-- Where a segment's text is empty, the segment is not valid or an address is no word. -/
theorem seg_empty {x : Seg} {s d : Int} (h : segText x s d = ⟨#[]⟩) : segOk x = false ∨ wordOk s 32 = false ∨ wordOk d 32 = false := by
  cases h1 : segOk x with
  | false => exact .inl rfl
  | true =>
    cases h2 : wordOk s 32 with
    | false => exact .inr (.inl rfl)
    | true =>
      cases h3 : wordOk d 32 with
      | false => exact .inr (.inr rfl)
      | true =>
        exfalso
        have w3 := len_word9 _ (segM_le h1)
        have hp : segPs s d (20 + (optText x.o).size + x.b.size) ≠ ⟨#[]⟩ := by
          intro e
          have hs := congrArg ByteArray.size e
          rw [segPs_eq h2 h3 w3, ByteArray.size_append, ByteArray.size_append] at hs
          have h0 : (⟨#[]⟩ : ByteArray).size = 0 := rfl
          have h6 : (⟨#[0, 6]⟩ : ByteArray).size = 2 := rfl
          omega
        have hz := (seg_fields h1 _ _ (sum_size _) (segText_shape h1 hp)).2.2.2
        rw [h] at hz
        have h0 : (⟨#[]⟩ : ByteArray).size = 0 := rfl
        omega
theorem seg_some {x : Seg} {s d : Int} (h : segText x s d ≠ ⟨#[]⟩) : segOk x = true ∧ segPs s d (20 + (optText x.o).size + x.b.size) ≠ ⟨#[]⟩ := by
  cases h1 : segOk x with
  | false => exact absurd (segText_no s d h1) h
  | true =>
    refine ⟨rfl, fun e => h ?_⟩
    rw [segText_yes s d h1, e, segAll_no]
theorem segText_le (x : Seg) (s d : Int) : (segText x s d).size ≤ 1460 := by
  by_cases h : segText x s d = ⟨#[]⟩
  · rw [h]; exact Nat.zero_le _
  · obtain ⟨h1, hp⟩ := seg_some h
    rw [(seg_fields h1 _ _ (sum_size _) (segText_shape h1 hp)).2.2.2]
    exact segM_le h1
end Go.Proofs.Ytlfbcfhekfmkfaa
