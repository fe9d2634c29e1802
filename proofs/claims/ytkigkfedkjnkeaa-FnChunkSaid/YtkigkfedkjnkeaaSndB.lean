/- Bounds of senders (pure). Nothing here is a claim. -/
import Derived.Test.YtkigkfedkjnkeaaSndOpK
namespace Go.Proofs.Ytkigkfedkjnkeaa
open Go.RowKit Go.Lib

def SB (s : Snd) : Prop := s.d.size ≤ 48 ∧ 0 ≤ s.t ∧ s.t ≤ 48
theorem sb_ok {s : Snd} (h : sndOk s = true) : SB s := by
  obtain ⟨_, ⟨h1, h2, h3⟩, _, _⟩ := sndOk_iff.1 h
  exact ⟨h1, h2, by omega⟩
theorem sb_queued {s : Snd} (x : ByteArray) (h : SB s) : SB (queued s x) := by
  cases e : (sndOk s && !s.f) with
  | false => rw [(qn_no e).2]; exact h
  | true =>
    have h2 := qn_yes (x := x) e
    rw [h2.2]
    refine ⟨?_, h.2⟩
    show (s.d ++ x.extract 0 (qn s x)).size ≤ 48
    rw [ByteArray.size_append, ByteArray.size_extract, h2.1]
    have := h.1
    omega
theorem sb_off {s : Snd} (c : Chk) (h : SB s) : SB (sentOff s c) := by
  cases e : (sndOk s && sndOk (offS s c)) with
  | false => rw [off_no e]; exact h
  | true =>
    rw [off_yes e]
    rw [Bool.and_eq_true] at e
    exact sb_ok e.2
theorem sb_acked {s : Snd} (a : Int) (h : SB s) : SB (acked s a) := by
  cases e : akOk s a with
  | false => rw [ak_no e]; exact h
  | true =>
    have e2 := e
    unfold akOk at e2
    rw [Bool.and_eq_true, decide_eq_true_eq] at e2
    obtain ⟨h1, h2, h3⟩ := h
    by_cases k : s.t < df a s.u
    · rw [ak_fin e k]
      refine ⟨?_, Int.le_refl _, by show (0 : Int) ≤ 48; omega⟩
      show (s.d.extract s.t.toNat s.d.size).size ≤ 48
      rw [ByteArray.size_extract]; omega
    · rw [ak_yes e k]
      refine ⟨?_, ?_, ?_⟩
      · show (s.d.extract (df a s.u).toNat s.d.size).size ≤ 48
        rw [ByteArray.size_extract]; omega
      · show 0 ≤ s.t - df a s.u
        omega
      · show s.t - df a s.u ≤ 48
        omega
theorem sb_fl {s : Snd} (h : SB s) : 0 ≤ fl s.t s.g ∧ fl s.t s.g ≤ 49 := by
  obtain ⟨h1, h2, h3⟩ := h
  rw [fl_in h2 (by omega)]
  cases s.g
  · simp only [cond_false]; omega
  · simp only [cond_true]; omega
end Go.Proofs.Ytkigkfedkjnkeaa
