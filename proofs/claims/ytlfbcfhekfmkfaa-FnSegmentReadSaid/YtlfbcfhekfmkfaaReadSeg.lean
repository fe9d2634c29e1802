/- ReadSegment, of the model and of the program: one contract each. Nothing here is a claim. -/
import Derived.Test.YtlfbcfhekfmkfaaSegRdS
import Derived.Test.YtlfbcfhekfmkfaaSegRdS2
import Derived.Test.YtlfbcfhekfmkfaaSegRdI
import Derived.Test.YtlfbcfhekfmkfaaSegRdI2
import Derived.Test.YtlfbcfhekfmkfaaSegRdI3
import Derived.Test.YtlfbcfhekfmkfaaSegRdI4
namespace Go.Proofs.Ytlfbcfhekfmkfaa
open Go.RowKit Go.Lib

theorem segGood_iff (s : ByteArray) (x z : Int) : segGood s x z = true ↔ (20 ≤ s.size ∧ (20 ≤ segN s ∧ segN s ≤ s.size) ∧ segPs x z s.size ≠ ⟨#[]⟩ ∧ sumRight (segPs x z s.size ++ s) = true ∧ (optRead (s.extract 20 (segN s))).2 = true ∧ segOk (segCand s) = true) := by
  unfold segGood
  simp only [Bool.and_eq_true, decide_eq_true_eq]
theorem bool_no {b : Bool} (h : ¬ b = true) : b = false := by cases b; rfl; exact absurd rfl h

theorem readSegS (s : ByteArray) (x z : Int) (w : World) (hs : s.size ≤ 1048576) :
    Calls Try.prog 19 #[.string s, .int .i64 x, .int .i64 z] w fun e w' => e = .returned (.tuple #[.agg (readSeg s x z).1.cs, .bool (readSeg s x z).2]) ∧ Below w.heap.size w w' := by
  by_cases hg : segGood s x z = true
  · rw [readSeg_yes hg]
    obtain ⟨h, hn, hp, hr, ho, hc⟩ := (segGood_iff s x z).1 hg
    exact readSegS_ok s x z w hs h hn hp hr ho hc
  · rw [readSeg_no (bool_no hg)]
    by_cases h : 20 ≤ s.size
    · by_cases hn : 20 ≤ segN s ∧ segN s ≤ s.size
      · by_cases hp : segPs x z s.size = ⟨#[]⟩
        · exact readSegS_head s x z w hs h hn hp
        · by_cases hr : sumRight (segPs x z s.size ++ s) = true
          · by_cases ho : (optRead (s.extract 20 (segN s))).2 = true
            · by_cases hc : segOk (segCand s) = true
              · exact absurd ((segGood_iff s x z).2 ⟨h, hn, hp, hr, ho, hc⟩) hg
              · exact readSegS_bad s x z w hs h hn hp hr ho (bool_no hc)
            · exact readSegS_opts s x z w hs h hn hp hr (bool_no ho)
          · exact readSegS_sum s x z w hs h hn hp (bool_no hr)
      · exact readSegS_len s x z w hs h hn
    · exact readSegS_short s x z w (by omega)

theorem readSegI (s : ByteArray) (x z : Int) (w : World) (hs : s.size ≤ 1048576) :
    Calls Try.prog 16 #[.string s, .int .i64 x, .int .i64 z] w fun e w' => e = .returned (.tuple #[.agg (readSeg s x z).1.cs, .bool (readSeg s x z).2]) ∧ Below w.heap.size w w' := by
  by_cases hg : segGood s x z = true
  · rw [readSeg_yes hg]
    obtain ⟨h, hn, hp, hr, ho, hc⟩ := (segGood_iff s x z).1 hg
    exact readSegI_ok s x z w hs h hn (by rw [decide_eq_true hp, hr]; rfl) ho hc
  · rw [readSeg_no (bool_no hg)]
    by_cases h : 20 ≤ s.size
    · by_cases hn : 20 ≤ segN s ∧ segN s ≤ s.size
      · by_cases hr : (decide (segPs x z s.size ≠ ⟨#[]⟩) && sumRight (segPs x z s.size ++ s)) = true
        · have hr' := hr
          rw [Bool.and_eq_true, decide_eq_true_eq] at hr'
          by_cases ho : (optRead (s.extract 20 (segN s))).2 = true
          · by_cases hc : segOk (segCand s) = true
            · exact absurd ((segGood_iff s x z).2 ⟨h, hn, hr'.1, hr'.2, ho, hc⟩) hg
            · exact readSegI_bad s x z w hs h hn hr ho (bool_no hc)
          · exact readSegI_opts s x z w hs h hn hr (bool_no ho)
        · exact readSegI_wrong s x z w hs h hn (bool_no hr)
      · exact readSegI_len s x z w hs h hn
    · exact readSegI_short s x z w (by omega)
end Go.Proofs.Ytlfbcfhekfmkfaa
