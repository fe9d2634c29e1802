/- Plain words on an Options value's text: its size; what a walk over OptionsText knows behind each 'if'. Nothing here is a claim. -/
import Derived.Test.YtlfbcfhekfmkfaaOptKit
import Derived.Test.YtlfbcfhekfmkfaaCells
namespace Go.Proofs.Ytlfbcfhekfmkfaa
open Go.RowKit Go.Lib

theorem putW_one : putW 1 1 = ⟨#[1]⟩ := by decide +kernel
theorem optText_no {o : Opt} (h : optOk o = false) : optText o = ⟨#[]⟩ := by unfold optText; rw [if_neg (by rw [h]; decide)]
theorem optText_yes {o : Opt} (h : optOk o = true) : optText o = optBody o ++ ones ((4 - (optBody o).size % 4) % 4) := by unfold optText; rw [if_pos h]
theorem opt_scale {o : Opt} (h : optOk o = true) : -1 ≤ o.c := by
  unfold optOk at h
  simp only [Bool.and_eq_true, decide_eq_true_eq] at h
  exact h.1.2.1
/-- The text so far is x; the boxed argument stands; what was there stands. -/
def OtRel (w : World) (m c : Int) (k t : Bool) (v e : Int) (x : ByteArray) (n : Nat) (s : Value) (wx : World) : Prop :=
  ∃ y : ByteArray, s = .string y ∧ y = x ∧ y.size ≤ n ∧ HasC wx w.heap.size [.int .i64 m, .int .i64 c, .bool k, .bool t, .int .i64 v, .int .i64 e] ∧ Below w.heap.size w wx
theorem sz_two (a b c : ByteArray) (n : Nat) (h : a.size + b.size + c.size ≤ n) : (a ++ (b ++ c)).size ≤ n := by rw [ByteArray.size_append, ByteArray.size_append]; omega
theorem sz_two' (a b c : ByteArray) (n : Nat) (h : a.size + b.size + c.size ≤ n) : (a ++ b ++ c).size ≤ n := by rw [ByteArray.size_append, ByteArray.size_append]; omega
theorem sz_four (a b c d : ByteArray) (n : Nat) (h : a.size + b.size + c.size + d.size ≤ n) : (a ++ (b ++ c ++ d)).size ≤ n := by rw [ByteArray.size_append, ByteArray.size_append, ByteArray.size_append]; omega
theorem sz_four' (a b c d : ByteArray) (n : Nat) (h : a.size + b.size + c.size + d.size ≤ n) : (a ++ b ++ c ++ d).size ≤ n := by rw [ByteArray.size_append, ByteArray.size_append, ByteArray.size_append]; omega
def strLen : Value → Nat
  | .string b => b.size
  | _ => 0
theorem ones_size (n : Nat) : (ones n).size = n := by unfold ones; show (List.replicate n (1 : UInt8)).toArray.size = n; simp
theorem ones_zero : ones 0 = ⟨#[]⟩ := rfl
theorem ones_succ (n : Nat) : ones n ++ ⟨#[1]⟩ = ones (n + 1) := by
  apply ByteArray.ext
  apply Array.toList_inj.1
  unfold ones
  rw [ByteArray.data_append, Array.toList_append, List.replicate_succ']
end Go.Proofs.Ytlfbcfhekfmkfaa
namespace Go.Proofs.Ytlfbcfhekfmkfaa
open Go.RowKit Go.Lib

theorem optRd_fuel (s : ByteArray) (f : Nat) : ∀ (g a : Nat) (o : Opt), s.size ≤ a + f → s.size ≤ a + g → optRd s f a o = optRd s g a o := by
  induction f with
  | zero =>
    intro g a o h _
    rw [optRd_end s g a o (.inl (by omega))]; rfl
  | succ f ih =>
    intro g a o h hg
    by_cases h0 : s.size ≤ a ∨ (at8 s a).toNat = 0
    · rw [optRd_end s _ a o h0, optRd_end s _ a o h0]
    · cases g with
      | zero => exact absurd (Or.inl (by omega)) h0
      | succ g =>
        have ha : a < s.size := by omega
        have hz : ¬ (at8 s a).toNat = 0 := fun e => h0 (.inr e)
        by_cases h1 : (at8 s a).toNat = 1
        · rw [optRd_pad s f a o ha h1, optRd_pad s g a o ha h1]
          exact ih g (a + 1) o (by omega) (by omega)
        · by_cases hb : optBad s a
          · rw [optRd_bad s f a o ha hz h1 hb, optRd_bad s g a o ha hz h1 hb]
          · rw [optRd_next s f a o ha hz h1 hb, optRd_next s g a o ha hz h1 hb]
            unfold optBad at hb
            exact ih g _ _ (by omega) (by omega)
/-- What ReadOptions answers from a on. -/
def optFrom (s : ByteArray) (a : Nat) (o : Opt) : Opt × Bool := optRd s (s.size - a) a o
theorem optRead_from (s : ByteArray) : optRead s = optFrom s 0 optNo := rfl
theorem optFrom_end (s : ByteArray) (a : Nat) (o : Opt) (h : s.size ≤ a) : optFrom s a o = (o, true) := optRd_end s _ a o (.inl h)
theorem at8_mid (p x q s : ByteArray) (i : Nat) (hs : s = p ++ (x ++ q)) (hi : i < x.size) : at8 s (p.size + i) = at8 x i := by
  have hl : i < x.data.toList.length := by simpa using hi
  have hp : p.data.toList.length = p.size := by simp
  subst hs
  unfold at8
  simp only [ByteArray.data_append, Array.toList_append, List.getD_eq_getElem?_getD]
  rw [List.getElem?_append_right (by omega), hp, Nat.add_sub_cancel_left, List.getElem?_append_left hl]
theorem cut_mid (p x q s : ByteArray) (hs : s = p ++ (x ++ q)) : s.extract p.size (p.size + x.size) = x := by
  subst hs
  have e1 := ByteArray.extract_append_size_add (a := p) (b := x ++ q) (i := 0) (j := x.size)
  rw [Nat.add_zero] at e1
  rw [e1]
  exact ByteArray.extract_append_eq_left rfl
/-- An option that stands in a text is laid. -/
theorem optFrom_next (p x q s : ByteArray) (a : Nat) (o : Opt) (hs : s = p ++ (x ++ q)) (hp : p.size = a) (h2 : 2 ≤ x.size) (h0 : 2 ≤ (at8 x 0).toNat) (hx : (at8 x 1).toNat = x.size) : optFrom s a o = optFrom s (a + x.size) (optLay o x) := by
  subst hp
  have a0 := at8_mid p x q s 0 hs (by omega)
  have a1 := at8_mid p x q s 1 hs (by omega)
  have hc := cut_mid p x q s hs
  have hz : s.size = p.size + (x.size + q.size) := by rw [hs, ByteArray.size_append, ByteArray.size_append]
  rw [Nat.add_zero] at a0
  unfold optFrom
  obtain ⟨f, hf⟩ : ∃ f, s.size - p.size = f + 1 := ⟨s.size - p.size - 1, by omega⟩
  rw [hf, optRd_next s f p.size o (by omega) (by rw [a0]; omega) (by rw [a0]; omega) (by unfold optBad; rw [a1]; omega), a1, hx, hc]
  exact optRd_fuel s _ _ _ _ (by omega) (by omega)
/-- Nothing but padding stands behind. -/
theorem optFrom_ones (n : Nat) : ∀ (p s : ByteArray) (a : Nat) (o : Opt), s = p ++ ones n → p.size = a → optFrom s a o = (o, true) := by
  induction n with
  | zero =>
    intro p s a o hs hp
    exact optFrom_end s a o (by rw [hs, ByteArray.size_append, ones_size]; omega)
  | succ n ih =>
    intro p s a o hs hp
    have e : ones (n + 1) = ⟨#[1]⟩ ++ ones n := by
      apply ByteArray.ext
      apply Array.toList_inj.1
      unfold ones
      rw [ByteArray.data_append, Array.toList_append, List.replicate_succ]
      rfl
    have hz : s.size = p.size + (n + 1) := by rw [hs, ByteArray.size_append, ones_size]
    rw [e] at hs
    subst hp
    have a0 := at8_mid p ⟨#[1]⟩ (ones n) s 0 hs (by decide)
    rw [Nat.add_zero] at a0
    have a1 : (at8 ⟨#[1]⟩ 0).toNat = 1 := rfl
    have h1 := ih (p ++ ⟨#[1]⟩) s (p.size + 1) o (by rw [hs, ByteArray.append_assoc]) (by rw [ByteArray.size_append]; rfl)
    rw [← h1]
    unfold optFrom
    obtain ⟨f, hf⟩ : ∃ f, s.size - p.size = f + 1 := ⟨s.size - p.size - 1, by omega⟩
    rw [hf, optRd_pad s f p.size o (by omega) (by rw [a0, a1])]
    exact optRd_fuel s _ _ _ _ (by omega) (by omega)

theorem optOk_all {o : Opt} (h : optOk o = true) : wordOk o.m 16 = true ∧ (-1 ≤ o.c ∧ o.c ≤ 14) ∧ (o.t = true → wordOk o.v 32 = true ∧ wordOk o.e 32 = true) ∧ (o.t = false → o.v = 0 ∧ o.e = 0) := by
  obtain ⟨m, c, k, t, v, e⟩ := o
  unfold optOk at h
  cases t <;> simp only [Bool.and_eq_true, decide_eq_true_eq, cond_true, cond_false] at h
  · exact ⟨h.1.1, h.1.2, fun x => (by cases x), fun _ => h.2⟩
  · exact ⟨h.1.1, h.1.2, fun _ => h.2, fun x => (by cases x)⟩
theorem two_size (a b : UInt8) : (⟨#[a, b]⟩ : ByteArray).size = 2 := rfl
theorem at8_two (a b : UInt8) (y : ByteArray) : at8 (⟨#[a, b]⟩ ++ y) 0 = a ∧ at8 (⟨#[a, b]⟩ ++ y) 1 = b := by
  have e : ((⟨#[a, b]⟩ : ByteArray) ++ y).data.toList = a :: b :: y.data.toList := by rw [ByteArray.data_append, Array.toList_append]; rfl
  unfold at8
  rw [e]
  exact ⟨rfl, rfl⟩
theorem optM_size {o : Opt} (h : optOk o = true) : (optM o).size = if o.m = 0 then 0 else 4 := by
  obtain ⟨hm, _⟩ := optOk_all h
  obtain ⟨_, _, _, _, z⟩ := putW_word o.m 2 (by omega) hm
  have z : (putW o.m 2).size = 2 := z
  unfold optM
  split
  · rfl
  · rw [ByteArray.size_append, two_size]; omega
theorem scale_word {c : Int} (h : 0 ≤ c ∧ c ≤ 14) : wordOk c (8 * (1 : Nat)) = true := by
  unfold wordOk; apply decide_eq_true; refine ⟨by omega, by omega, ?_⟩
  show c < 256
  omega
theorem optC_size {o : Opt} (h : optOk o = true) : (optC o).size = if o.c = -1 then 0 else 3 := by
  obtain ⟨_, hc, _⟩ := optOk_all h
  unfold optC
  split
  · rfl
  · obtain ⟨_, _, _, _, z⟩ := putW_word o.c 1 (by omega) (scale_word (by omega))
    have z : (putW o.c 1).size = 1 := z
    rw [ByteArray.size_append, two_size]; omega
theorem optK_size (o : Opt) : (optK o).size = bif o.k then 2 else 0 := by
  unfold optK
  cases o.k <;> rfl
theorem optT_size {o : Opt} (h : optOk o = true) : (optT o).size = bif o.t then 10 else 0 := by
  obtain ⟨_, _, h1, _⟩ := optOk_all h
  unfold optT
  cases ht : o.t with
  | false => rfl
  | true =>
    obtain ⟨hv, he⟩ := h1 ht
    obtain ⟨_, _, _, _, z1⟩ := putW_word o.v 4 (by omega) hv
    obtain ⟨_, _, _, _, z2⟩ := putW_word o.e 4 (by omega) he
    have z1 : (putW o.v 4).size = 4 := z1
    have z2 : (putW o.e 4).size = 4 := z2
    show (⟨#[8, 10]⟩ ++ putW o.v 4 ++ putW o.e 4 : ByteArray).size = 10
    rw [ByteArray.size_append, ByteArray.size_append, two_size]; omega
theorem optText_size (o : Opt) : (optText o).size % 4 = 0 ∧ (optText o).size ≤ 20 := by
  cases h : optOk o with
  | false => rw [optText_no h]; decide
  | true =>
    have z1 := optM_size h
    have z2 := optC_size h
    have z3 := optK_size o
    have z4 := optT_size h
    have a1 : (optM o).size ≤ 4 := by rw [z1]; split <;> omega
    have a2 : (optC o).size ≤ 3 := by rw [z2]; split <;> omega
    have a3 : (optK o).size ≤ 2 := by rw [z3]; cases o.k <;> decide
    have a4 : (optT o).size ≤ 10 := by rw [z4]; cases o.t <;> decide
    have hb : (optBody o).size ≤ 19 := by unfold optBody; rw [ByteArray.size_append, ByteArray.size_append, ByteArray.size_append]; omega
    rw [optText_yes h, ByteArray.size_append, ones_size]
    omega

theorem from_M {o : Opt} (h : optOk o = true) (p q s : ByteArray) (a : Nat) (o' : Opt) (h0 : o'.m = 0) (hs : s = p ++ (optM o ++ q)) (hp : p.size = a) : optFrom s a o' = optFrom s (a + (optM o).size) { o' with m := o.m } := by
  obtain ⟨hm, _⟩ := optOk_all h
  obtain ⟨_, _, _, _, z⟩ := putW_word o.m 2 (by omega) hm
  have z : (putW o.m 2).size = 2 := z
  by_cases e : o.m = 0
  · have e1 : optM o = ⟨#[]⟩ := by unfold optM; rw [if_pos e]
    rw [e1, e, ← h0]; rfl
  · have e1 : optM o = ⟨#[2, 4]⟩ ++ putW o.m 2 := by unfold optM; rw [if_neg e]
    have g := gw_back o.m 2 2 (by omega) hm ⟨#[2, 4]⟩ ⟨#[]⟩ (optM o) (by rw [e1]; exact congrArg _ ByteArray.append_empty.symm) rfl
    have zz : (optM o).size = 4 := by rw [e1, ByteArray.size_append, z]; rfl
    obtain ⟨b0, b1⟩ := at8_two 2 4 (putW o.m 2)
    rw [← e1] at b0 b1
    rw [optFrom_next p (optM o) q s a o' hs hp (by omega) (by rw [b0]; decide) (by rw [b1, zz]; rfl)]
    congr 1
    unfold optLay
    rw [if_pos ⟨by rw [b0]; rfl, zz⟩, g]
theorem from_C {o : Opt} (h : optOk o = true) (p q s : ByteArray) (a : Nat) (o' : Opt) (h0 : o'.c = -1) (hs : s = p ++ (optC o ++ q)) (hp : p.size = a) : optFrom s a o' = optFrom s (a + (optC o).size) { o' with c := o.c } := by
  obtain ⟨_, hc, _⟩ := optOk_all h
  by_cases e : o.c = -1
  · have e1 : optC o = ⟨#[]⟩ := by unfold optC; rw [if_pos e]
    rw [e1, e, ← h0]; rfl
  · have hw := scale_word (show 0 ≤ o.c ∧ o.c ≤ 14 by omega)
    obtain ⟨_, _, _, _, z⟩ := putW_word o.c 1 (by omega) hw
    have z : (putW o.c 1).size = 1 := z
    have e1 : optC o = ⟨#[3, 3]⟩ ++ putW o.c 1 := by unfold optC; rw [if_neg e]
    have g := gw_back o.c 1 2 (by omega) hw ⟨#[3, 3]⟩ ⟨#[]⟩ (optC o) (by rw [e1]; exact congrArg _ ByteArray.append_empty.symm) rfl
    have zz : (optC o).size = 3 := by rw [e1, ByteArray.size_append, z]; rfl
    obtain ⟨b0, b1⟩ := at8_two 3 3 (putW o.c 1)
    rw [← e1] at b0 b1
    rw [optFrom_next p (optC o) q s a o' hs hp (by omega) (by rw [b0]; decide) (by rw [b1, zz]; rfl)]
    congr 1
    unfold optLay
    rw [if_neg (by rw [b0]; exact fun x => absurd x.1 (by decide)), if_pos ⟨by rw [b0]; rfl, zz⟩]
    rw [gw1] at g
    rw [show ((min (at8 (optC o) 2).toNat 14 : Nat) : Int) = o.c by omega]
theorem from_K {o : Opt} (p q s : ByteArray) (a : Nat) (o' : Opt) (h0 : o'.k = false) (hs : s = p ++ (optK o ++ q)) (hp : p.size = a) : optFrom s a o' = optFrom s (a + (optK o).size) { o' with k := o.k } := by
  cases e : o.k with
  | false =>
    have e1 : optK o = ⟨#[]⟩ := by unfold optK; rw [e]; rfl
    rw [e1, ← h0]; rfl
  | true =>
    have e1 : optK o = ⟨#[4, 2]⟩ ++ ⟨#[]⟩ := by unfold optK; rw [e]; rfl
    have zz : (optK o).size = 2 := by rw [e1]; rfl
    obtain ⟨b0, b1⟩ := at8_two 4 2 ⟨#[]⟩
    rw [← e1] at b0 b1
    rw [optFrom_next p (optK o) q s a o' hs hp (by omega) (by rw [b0]; decide) (by rw [b1, zz]; rfl)]
    congr 1
    unfold optLay
    rw [if_neg (by rw [b0]; exact fun x => absurd x.1 (by decide)), if_neg (by rw [b0]; exact fun x => absurd x.1 (by decide)), if_pos ⟨by rw [b0]; rfl, zz⟩]
theorem from_T {o : Opt} (h : optOk o = true) (p q s : ByteArray) (a : Nat) (o' : Opt) (h0 : o'.t = false ∧ o'.v = 0 ∧ o'.e = 0) (hs : s = p ++ (optT o ++ q)) (hp : p.size = a) : optFrom s a o' = optFrom s (a + (optT o).size) { o' with t := o.t, v := o.v, e := o.e } := by
  obtain ⟨_, _, h1, h2⟩ := optOk_all h
  cases e : o.t with
  | false =>
    obtain ⟨hv, he⟩ := h2 e
    have e1 : optT o = ⟨#[]⟩ := by unfold optT; rw [e]; rfl
    obtain ⟨k0, k1, k2⟩ := h0
    rw [e1, hv, he]
    obtain ⟨m, c, k, t, v, e'⟩ := o'
    simp only at k0 k1 k2
    rw [k0, k1, k2]; rfl
  | true =>
    obtain ⟨hv, he⟩ := h1 e
    obtain ⟨_, _, _, _, z1⟩ := putW_word o.v 4 (by omega) hv
    obtain ⟨_, _, _, _, z2⟩ := putW_word o.e 4 (by omega) he
    have z1 : (putW o.v 4).size = 4 := z1
    have z2 : (putW o.e 4).size = 4 := z2
    have e1 : optT o = ⟨#[8, 10]⟩ ++ (putW o.v 4 ++ putW o.e 4) := by unfold optT; rw [e]; exact ByteArray.append_assoc
    have g1 := gw_back o.v 4 2 (by omega) hv ⟨#[8, 10]⟩ (putW o.e 4) (optT o) e1 rfl
    have g2 := gw_back o.e 4 6 (by omega) he (⟨#[8, 10]⟩ ++ putW o.v 4) ⟨#[]⟩ (optT o) (by rw [e1, ByteArray.append_assoc]; exact congrArg (fun y => (⟨#[8, 10]⟩ : ByteArray) ++ (putW o.v 4 ++ y)) ByteArray.append_empty.symm) (by rw [ByteArray.size_append, two_size]; omega)
    have zz : (optT o).size = 10 := by rw [e1, ByteArray.size_append, ByteArray.size_append, z1, z2]; rfl
    obtain ⟨b0, b1⟩ := at8_two 8 10 (putW o.v 4 ++ putW o.e 4)
    rw [← e1] at b0 b1
    rw [optFrom_next p (optT o) q s a o' hs hp (by omega) (by rw [b0]; decide) (by rw [b1, zz]; rfl)]
    congr 1
    unfold optLay
    rw [if_neg (by rw [b0]; exact fun x => absurd x.1 (by decide)), if_neg (by rw [b0]; exact fun x => absurd x.1 (by decide)), if_neg (by rw [b0]; exact fun x => absurd x.1 (by decide)), if_pos ⟨by rw [b0]; rfl, zz⟩, g1, g2]
/-- The text of a valid Options value is read as that value. -/
theorem opt_round {o : Opt} (h : optOk o = true) : optRead (optText o) = (o, true) := by
  obtain ⟨s, hs⟩ : ∃ s, optText o = s := ⟨_, rfl⟩
  rw [hs, optRead_from]
  rw [optText_yes h] at hs
  generalize (4 - (optBody o).size % 4) % 4 = n at hs
  unfold optBody at hs
  have s1 : s = ⟨#[]⟩ ++ (optM o ++ (optC o ++ (optK o ++ (optT o ++ ones n)))) := by
    rw [← hs]; simp only [ByteArray.append_assoc]; exact ByteArray.empty_append.symm
  have s2 : s = optM o ++ (optC o ++ (optK o ++ (optT o ++ ones n))) := by rw [← hs]; simp only [ByteArray.append_assoc]
  have s3 : s = (optM o ++ optC o) ++ (optK o ++ (optT o ++ ones n)) := by rw [← hs]; simp only [ByteArray.append_assoc]
  have s4 : s = (optM o ++ optC o ++ optK o) ++ (optT o ++ ones n) := by rw [← hs]; simp only [ByteArray.append_assoc]
  have s5 : s = (optM o ++ optC o ++ optK o ++ optT o) ++ ones n := by rw [← hs]
  rw [from_M h ⟨#[]⟩ _ s 0 optNo rfl s1 rfl, from_C h (optM o) _ s _ _ rfl s2 (Nat.zero_add _).symm, from_K (o := o) (optM o ++ optC o) _ s _ _ rfl s3 (by rw [ByteArray.size_append]; omega),
    from_T h (optM o ++ optC o ++ optK o) _ s _ _ ⟨rfl, rfl, rfl⟩ s4 (by rw [ByteArray.size_append, ByteArray.size_append]; omega),
    optFrom_ones n (optM o ++ optC o ++ optK o ++ optT o) s _ _ s5 (by rw [ByteArray.size_append, ByteArray.size_append, ByteArray.size_append]; omega)]

theorem optOk_mk {m c : Int} {k t : Bool} {v e : Int} (h1 : wordOk m 16 = true) (h2 : -1 ≤ c ∧ c ≤ 14) (h3 : (bif t then wordOk v 32 && wordOk e 32 else decide (v = 0 ∧ e = 0)) = true) : optOk ⟨m, c, k, t, v, e⟩ = true := by
  show (wordOk m 16 && decide (-1 ≤ c ∧ c ≤ 14) && bif t then wordOk v 32 && wordOk e 32 else decide (v = 0 ∧ e = 0)) = true
  rw [h1, h3, decide_eq_true h2]; rfl
theorem optOk_get {m c : Int} {k t : Bool} {v e : Int} (h : optOk ⟨m, c, k, t, v, e⟩ = true) : wordOk m 16 = true ∧ (-1 ≤ c ∧ c ≤ 14) ∧ (bif t then wordOk v 32 && wordOk e 32 else decide (v = 0 ∧ e = 0)) = true := by
  have h : (wordOk m 16 && decide (-1 ≤ c ∧ c ≤ 14) && bif t then wordOk v 32 && wordOk e 32 else decide (v = 0 ∧ e = 0)) = true := h
  rw [Bool.and_eq_true, Bool.and_eq_true, decide_eq_true_eq] at h
  exact ⟨h.1.1, h.1.2, h.2⟩
theorem min14 (n : Nat) : (-1 : Int) ≤ ((min n 14 : Nat) : Int) ∧ ((min n 14 : Nat) : Int) ≤ 14 := by omega
/-- Where an option is laid into a valid value, the value is valid again. -/
theorem lay_ok {o : Opt} (h : optOk o = true) (x : ByteArray) : optOk (optLay o x) = true := by
  have w1 : wordOk (gw x 2 2 : Nat) 16 = true := gw_word x 2 2 (by omega)
  have w2 : wordOk (gw x 2 4 : Nat) 32 = true := gw_word x 2 4 (by omega)
  have w3 : wordOk (gw x 6 4 : Nat) 32 = true := gw_word x 6 4 (by omega)
  have w4 := min14 (at8 x 2).toNat
  obtain ⟨m, c, k, t, v, e⟩ := o
  obtain ⟨h1, h2, h3⟩ := optOk_get h
  unfold optLay
  generalize gw x 2 2 = y1 at w1 ⊢
  generalize gw x 2 4 = y2 at w2 ⊢
  generalize gw x 6 4 = y3 at w3 ⊢
  generalize min (at8 x 2).toNat 14 = y4 at w4 ⊢
  by_cases a1 : (at8 x 0).toNat = 2 ∧ x.size = 4
  · rw [if_pos a1]; exact optOk_mk w1 h2 h3
  by_cases a2 : (at8 x 0).toNat = 3 ∧ x.size = 3
  · rw [if_neg a1, if_pos a2]; exact optOk_mk h1 w4 h3
  by_cases a3 : (at8 x 0).toNat = 4 ∧ x.size = 2
  · rw [if_neg a1, if_neg a2, if_pos a3]; exact optOk_mk h1 h2 h3
  by_cases a4 : (at8 x 0).toNat = 8 ∧ x.size = 10
  · rw [if_neg a1, if_neg a2, if_neg a3, if_pos a4]; exact optOk_mk h1 h2 (by rw [w2, w3]; rfl)
  · rw [if_neg a1, if_neg a2, if_neg a3, if_neg a4]; exact h
theorem optRd_ok (s : ByteArray) (f : Nat) : ∀ (a : Nat) (o : Opt), optOk o = true → optOk (optRd s f a o).1 = true ∧ ((optRd s f a o).2 = false → (optRd s f a o).1 = optNo) := by
  induction f with
  | zero => intro a o h; exact ⟨h, fun x => by cases x⟩
  | succ f ih =>
    intro a o h
    by_cases h0 : s.size ≤ a ∨ (at8 s a).toNat = 0
    · rw [optRd_end s _ a o h0]; exact ⟨h, fun x => by cases x⟩
    · have ha : a < s.size := by omega
      have hz : ¬ (at8 s a).toNat = 0 := fun e => h0 (.inr e)
      by_cases h1 : (at8 s a).toNat = 1
      · rw [optRd_pad s f a o ha h1]; exact ih _ _ h
      · by_cases hb : optBad s a
        · rw [optRd_bad s f a o ha hz h1 hb]; exact ⟨optOk_no, fun _ => rfl⟩
        · rw [optRd_next s f a o ha hz h1 hb]; exact ih _ _ (lay_ok h _)
/-- What is read is valid; where nothing is read, it is NoOptions. -/
theorem read_valid (s : ByteArray) : optOk (optRead s).1 = true ∧ ((optRead s).2 = false → (optRead s).1 = optNo) := optRd_ok s _ _ _ optOk_no
end Go.Proofs.Ytlfbcfhekfmkfaa
