/- Plain lemmas: a packet's text is read as the packet, whatever stands behind it; with one byte of its head turned it is read no more. Nothing here is a claim. -/
import Derived.Test.YtedndifhnmhgpaaDoorReadPk
import Derived.Test.YtedndifhnmhgpaaDoorGetKit
import Derived.Test.YtedndifhnmhgpaaDoorSumLaws
namespace Go.Proofs.YtedndifhnmhgpaaDoor
open Go.RowKit Go.Lib

theorem gw1 (s : ByteArray) (a : Nat) : gw s a 1 = (at8 s a).toNat := by simp [gw]
/-- The first twenty bytes of a packet's text. -/
def packTop (s d t p i : Int) (b : ByteArray) : ByteArray := packHead (20 + b.size) i t p ++ putW (sumOf (packHead (20 + b.size) i t p ++ packTail s d)) 2 ++ packTail s d
theorem packTop_size {s d t p i : Int} {b : ByteArray} (h : packOk s d t p i b = true) : (packTop s d t p i b).size = 20 := by
  obtain ⟨_, _, _, _, z⟩ := putW_word (sumOf (packHead (20 + b.size) i t p ++ packTail s d)) 2 (by omega) (sum_word _)
  have z : (putW (sumOf (packHead (20 + b.size) i t p ++ packTail s d)) 2).size = 2 := z
  unfold packTop
  rw [ByteArray.size_append, ByteArray.size_append, packHead_size h, packTail_size h, z]
theorem packTop_right {s d t p i : Int} {b : ByteArray} (h : packOk s d t p i b = true) : sumRight (packTop s d t p i b) = true := by
  have h1 := packHead_size h
  have h2 := packTail_size h
  have hs := seal_right (packHead (20 + b.size) i t p ++ packTail s d) (by rw [ByteArray.size_append, h1, h2])
  obtain ⟨_, _, _, _, z⟩ := putW_word (sumOf (packHead (20 + b.size) i t p ++ packTail s d)) 2 (by omega) (sum_word _)
  have z : (putW (sumOf (packHead (20 + b.size) i t p ++ packTail s d)) 2).size = 2 := z
  unfold packTop
  generalize putW (sumOf (packHead (20 + b.size) i t p ++ packTail s d)) 2 = k at hs z ⊢
  generalize packHead (20 + b.size) i t p = H at hs h1 ⊢
  generalize packTail s d = T at hs h2 ⊢
  have e : wsum (H ++ k ++ T) = wsum (H ++ T ++ k) := by
    rw [wsum_append _ _ (by rw [ByteArray.size_append]; omega), wsum_append _ _ (by omega), wsum_append _ _ (by rw [ByteArray.size_append]; omega), wsum_append _ _ (by omega)]
    omega
  rw [sumRight_iff] at hs ⊢
  rw [e]; exact hs
theorem packText_top {s d t p i : Int} {b : ByteArray} (h : packOk s d t p i b = true) : packText s d t p i b = packTop s d t p i b ++ b := packText_yes h
theorem two_zero : putW 0 2 = ⟨#[0, 0]⟩ := by decide +kernel

theorem pk_round {s d t p i : Int} {b : ByteArray} (h : packOk s d t p i b = true) (q : ByteArray) :
    pkWhy (packText s d t p i b ++ q) = 0 ∧ rkS (packText s d t p i b ++ q) = s ∧ rkD (packText s d t p i b ++ q) = d ∧ rkT (packText s d t p i b ++ q) = t ∧ rkP (packText s d t p i b ++ q) = p ∧ rkI (packText s d t p i b ++ q) = i ∧ rkB (packText s d t p i b ++ q) = b := by
  obtain ⟨hs, hd, ht, hp, hi, hb⟩ := packOk_all h
  have hn := len_word b hb
  have hc := sum_word (packHead (20 + b.size) i t p ++ packTail s d)
  have ht8 : wordOk t 8 = true := by rw [ttl_word t ht.1]; exact decide_eq_true ht
  obtain ⟨_, _, _, _, z1⟩ := putW_word (20 + b.size) 2 (by omega) hn
  obtain ⟨_, _, _, _, z2⟩ := putW_word i 2 (by omega) hi
  obtain ⟨_, _, _, _, z3⟩ := putW_word t 1 (by omega) ht8
  obtain ⟨_, _, _, _, z4⟩ := putW_word p 1 (by omega) hp
  obtain ⟨_, _, _, _, z5⟩ := putW_word s 4 (by omega) hs
  obtain ⟨_, _, _, _, z6⟩ := putW_word d 4 (by omega) hd
  obtain ⟨_, _, _, _, z7⟩ := putW_word (sumOf (packHead (20 + b.size) i t p ++ packTail s d)) 2 (by omega) hc
  have z1 : (putW (20 + b.size) 2).size = 2 := z1
  have z2 : (putW i 2).size = 2 := z2
  have z3 : (putW t 1).size = 1 := z3
  have z4 : (putW p 1).size = 1 := z4
  have z5 : (putW s 4).size = 4 := z5
  have z6 : (putW d 4).size = 4 := z6
  have z7 : (putW (sumOf (packHead (20 + b.size) i t p ++ packTail s d)) 2).size = 2 := z7
  have a0 : (putW 69 1).size = 1 := by rw [first_byte]; rfl
  have a1 : (⟨#[0]⟩ : ByteArray).size = 1 := rfl
  have a6 : (putW 0 2).size = 2 := by rw [two_zero]; rfl
  have w0 : wordOk 69 (8 * (1 : Nat)) = true := by decide +kernel
  have w6 : wordOk 0 (8 * (2 : Nat)) = true := by decide +kernel
  have hr := packTop_right h
  have hz := packTop_size h
  have et := packText_top h
  obtain ⟨x, hx⟩ : ∃ x, packText s d t p i b ++ q = x := ⟨_, rfl⟩
  have e : x = putW 69 1 ++ (⟨#[0]⟩ ++ (putW (20 + b.size) 2 ++ (putW i 2 ++ (putW 0 2 ++ (putW t 1 ++ (putW p 1 ++ (putW (sumOf (packHead (20 + b.size) i t p ++ packTail s d)) 2 ++ (putW s 4 ++ (putW d 4 ++ (b ++ q)))))))))) := by
    rw [← hx, packText_yes h]
    generalize putW (sumOf (packHead (20 + b.size) i t p ++ packTail s d)) 2 = k
    unfold packHead packTail
    have e69 : (⟨#[69, 0]⟩ : ByteArray) = putW 69 1 ++ ⟨#[0]⟩ := by rw [first_byte]; rfl
    rw [e69, ← two_zero]
    simp only [ByteArray.append_assoc]
  have e20 : x = packTop s d t p i b ++ (b ++ q) := by rw [← hx, et, ByteArray.append_assoc]
  rw [hx]
  generalize putW (sumOf (packHead (20 + b.size) i t p ++ packTail s d)) 2 = k at e z7
  have hsz : x.size = 20 + b.size + q.size := by rw [e20]; simp only [ByteArray.size_append]; omega
  have f0 := gw_back 69 1 0 (by omega) w0 ⟨#[]⟩ (⟨#[0]⟩ ++ (putW (20 + b.size) 2 ++ (putW i 2 ++ (putW 0 2 ++ (putW t 1 ++ (putW p 1 ++ (k ++ (putW s 4 ++ (putW d 4 ++ (b ++ q)))))))))) x (by rw [e]; exact (ByteArray.empty_append).symm) rfl
  have f2 := gw_back (20 + b.size) 2 2 (by omega) hn (putW 69 1 ++ ⟨#[0]⟩) (putW i 2 ++ (putW 0 2 ++ (putW t 1 ++ (putW p 1 ++ (k ++ (putW s 4 ++ (putW d 4 ++ (b ++ q)))))))) x (by rw [e]; simp only [ByteArray.append_assoc]; rfl) (by simp only [ByteArray.size_append]; omega)
  have f4 := gw_back i 2 4 (by omega) hi (putW 69 1 ++ (⟨#[0]⟩ ++ putW (20 + b.size) 2)) (putW 0 2 ++ (putW t 1 ++ (putW p 1 ++ (k ++ (putW s 4 ++ (putW d 4 ++ (b ++ q))))))) x (by rw [e]; simp only [ByteArray.append_assoc]; rfl) (by simp only [ByteArray.size_append]; omega)
  have f6 := gw_back 0 2 6 (by omega) w6 (putW 69 1 ++ (⟨#[0]⟩ ++ (putW (20 + b.size) 2 ++ putW i 2))) (putW t 1 ++ (putW p 1 ++ (k ++ (putW s 4 ++ (putW d 4 ++ (b ++ q)))))) x (by rw [e]; simp only [ByteArray.append_assoc]; rfl) (by simp only [ByteArray.size_append]; omega)
  have f8 := gw_back t 1 8 (by omega) ht8 (putW 69 1 ++ (⟨#[0]⟩ ++ (putW (20 + b.size) 2 ++ (putW i 2 ++ putW 0 2)))) (putW p 1 ++ (k ++ (putW s 4 ++ (putW d 4 ++ (b ++ q))))) x (by rw [e]; simp only [ByteArray.append_assoc]; rfl) (by simp only [ByteArray.size_append]; omega)
  have f9 := gw_back p 1 9 (by omega) hp (putW 69 1 ++ (⟨#[0]⟩ ++ (putW (20 + b.size) 2 ++ (putW i 2 ++ (putW 0 2 ++ putW t 1))))) (k ++ (putW s 4 ++ (putW d 4 ++ (b ++ q)))) x (by rw [e]; simp only [ByteArray.append_assoc]; rfl) (by simp only [ByteArray.size_append]; omega)
  have f12 := gw_back s 4 12 (by omega) hs (putW 69 1 ++ (⟨#[0]⟩ ++ (putW (20 + b.size) 2 ++ (putW i 2 ++ (putW 0 2 ++ (putW t 1 ++ (putW p 1 ++ k))))))) (putW d 4 ++ (b ++ q)) x (by rw [e]; simp only [ByteArray.append_assoc]; rfl) (by simp only [ByteArray.size_append]; omega)
  have f16 := gw_back d 4 16 (by omega) hd (putW 69 1 ++ (⟨#[0]⟩ ++ (putW (20 + b.size) 2 ++ (putW i 2 ++ (putW 0 2 ++ (putW t 1 ++ (putW p 1 ++ (k ++ putW s 4)))))))) ((b ++ q)) x (by rw [e]; simp only [ByteArray.append_assoc]; rfl) (by simp only [ByteArray.size_append]; omega)
  rw [gw1] at f0 f8 f9
  have ex : x.extract 0 20 = packTop s d t p i b := by rw [e20]; exact ByteArray.extract_append_eq_left hz.symm
  have eb : x.extract 20 (gw x 2 2) = b := by
    have e1 := ByteArray.extract_append_size_add (a := packTop s d t p i b) (b := b ++ q) (i := 0) (j := b.size)
    rw [Nat.add_zero, hz] at e1
    rw [show gw x 2 2 = 20 + b.size by omega, e20, e1]
    exact ByteArray.extract_append_eq_left rfl
  have hk : pkWhy x = 0 := by
    unfold pkWhy
    rw [if_neg (by omega), if_neg (by omega), if_neg (by rw [ex, hr]; decide), if_neg (by omega), if_neg (by omega), if_neg (by omega)]
  refine ⟨hk, ?_, ?_, ?_, ?_, ?_, ?_⟩
  · unfold rkS rkF; rw [if_pos hk]; exact f12
  · unfold rkD rkF; rw [if_pos hk]; exact f16
  · unfold rkT rkF; rw [if_pos hk]; exact f8
  · unfold rkP rkF; rw [if_pos hk]; exact f9
  · unfold rkI rkF; rw [if_pos hk]; exact f4
  · unfold rkB; rw [if_pos hk]; exact eb

/-- With one byte of its head turned, a packet's text begins with no packet. -/
theorem pk_turned {s d t p i : Int} {b : ByteArray} (h : packOk s d t p i b = true) (a : Nat) (ha : a < 20) (y : UInt8) (hl : a < (packText s d t p i b).size) (hy : y ≠ (packText s d t p i b)[a]) :
    ¬ pkWhy (turn (packText s d t p i b) a y) = 0 := by
  intro hk
  obtain ⟨_, _, hr, _⟩ := pkWhy_zero hk
  have hz := packTop_size h
  have hr0 := packTop_right h
  have et := packText_top h
  generalize packText s d t p i b = x at *
  subst et
  generalize packTop s d t p i b = T at *
  have e : (turn (T ++ b) a y).extract 0 20 = turn T a y := by
    apply ByteArray.ext
    apply Array.toList_inj.1
    have hT : T.data.toList.length = 20 := by simpa using hz
    unfold turn
    simp only [ByteArray.data_extract, ByteArray.data_append, Array.toList_append]
    rw [Array.toList_extract, List.extract_eq_take_drop]
    simp only [List.drop_zero, Nat.sub_zero]
    rw [List.set_append_left _ _ (by omega), List.take_append_of_le_length (by rw [List.length_set]; omega), List.take_of_length_le (by rw [List.length_set]; omega)]
  rw [e] at hr
  have hyT : y ≠ T[a]'(by omega) := by
    have : (T ++ b)[a] = T[a]'(by omega) := by
      simp only [ByteArray.getElem_eq_getElem_data, ByteArray.data_append]
      rw [Array.getElem_append_left]
    rw [← this]; exact hy
  rw [turn_wrong T a y (by omega) hr0 hyT] at hr
  cases hr
end Go.Proofs.YtedndifhnmhgpaaDoor
namespace Go.Proofs.YtedndifhnmhgpaaDoor
open Go.RowKit Go.Lib

theorem gw_word (s : ByteArray) (a k : Nat) (hk : 1 ≤ k ∧ k ≤ 6) : wordOk (gw s a k : Nat) (8 * k) = true := by
  have h := gw_lt s a k
  unfold wordOk
  apply decide_eq_true
  refine ⟨by omega, by omega, ?_⟩
  rw [show (8 * (k : Int)).toNat = 8 * k by omega]
  have h2 : (2 : Nat) ^ (8 * k) = 256 ^ k := pow8 k
  have h3 : gw s a k < 2 ^ (8 * k) := by rw [h2]; exact h
  exact_mod_cast h3
theorem byte_word (x : UInt8) : wordOk (x.toNat : Nat) 8 = true := by
  have h := x.toNat_lt
  unfold wordOk
  apply decide_eq_true
  refine ⟨by omega, by omega, ?_⟩
  show (x.toNat : Int) < 256
  omega
theorem read_ok (s : ByteArray) (h : pkWhy s = 0) : packOk (gw s 12 4 : Nat) (gw s 16 4 : Nat) (at8 s 8).toNat (at8 s 9).toNat (gw s 4 2 : Nat) (s.extract 20 (gw s 2 2)) = true := by
  obtain ⟨_, _, _, ⟨h2, h3, h4⟩, _, ht⟩ := pkWhy_zero h
  have h8 := (at8 s 8).toNat_lt
  unfold packOk
  simp only [Bool.and_eq_true, decide_eq_true_eq]
  refine ⟨gw_word s 12 4 (by omega), gw_word s 16 4 (by omega), by omega, byte_word _, gw_word s 4 2 (by omega), ?_⟩
  rw [ByteArray.size_extract]; omega
theorem read_size (s : ByteArray) (h : pkWhy s = 0) : (s.extract 20 (gw s 2 2)).size + 20 ≤ s.size := by
  obtain ⟨_, _, _, ⟨h2, h3, h4⟩, _, _⟩ := pkWhy_zero h
  rw [ByteArray.size_extract]; omega
end Go.Proofs.YtedndifhnmhgpaaDoor
