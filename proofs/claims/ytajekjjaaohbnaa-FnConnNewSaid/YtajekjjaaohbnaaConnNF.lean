/- A new connection (pure). Nothing here is a claim. -/
import Derived.Test.YtajekjjaaohbnaaConnNK
import Derived.Test.YtajekjjaaohbnaaConnKit
import Derived.Test.YtajekjjaaohbnaaConnSt
import Derived.Test.YtajekjjaaohbnaaConnSameS
import Derived.Test.YtajekjjaaohbnaaRcvKit
import Derived.Test.YtajekjjaaohbnaaSndKit
import Derived.Test.YtajekjjaaohbnaaTupOk
namespace Go.Proofs.Ytajekjjaaohbnaa
open Go.RowKit Go.Lib

theorem pl_pl (n : Int) : pl (pl n) = pl n := by unfold pl; omega
theorem plW (n : Int) : wordOk (pl n) 32 = true := by
  have h := pl_bd n
  unfold wordOk; rw [decide_eq_true_iff]; simp; omega
theorem cnO_ok (o : Opt) : optOk (cnO o) = true := by
  unfold cnO
  cases h : optOk o with
  | false => rfl
  | true => exact h
theorem cnWd_bd (wd : Int) : 0 ≤ cnWd wd ∧ cnWd wd ≤ 65535 := by
  unfold cnWd
  cases h : wordOk wd 16 with
  | false => exact (by decide : (0 : Int) ≤ 0 ∧ (0 : Int) ≤ 65535)
  | true =>
    unfold wordOk at h
    rw [decide_eq_true_iff] at h
    simp at h
    show 0 ≤ wd ∧ wd ≤ 65535
    omega
theorem scaled_bd {wd c : Int} (h0 : 0 ≤ wd) (h1 : wd ≤ 65535) (hc : c ≤ 14) : 0 ≤ scaled wd c ∧ scaled wd c ≤ 1073725440 := by
  unfold scaled
  obtain ⟨k, hk, hk2⟩ : ∃ k : Nat, min (max c 0).toNat 64 = k ∧ k ≤ 14 := ⟨_, rfl, by omega⟩
  rw [hk]
  have hs : k = 0 ∨ k = 1 ∨ k = 2 ∨ k = 3 ∨ k = 4 ∨ k = 5 ∨ k = 6 ∨ k = 7 ∨ k = 8 ∨ k = 9 ∨ k = 10 ∨ k = 11 ∨ k = 12 ∨ k = 13 ∨ k = 14 := by omega
  clear hk hk2
  rcases hs with rfl | rfl | rfl | rfl | rfl | rfl | rfl | rfl | rfl | rfl | rfl | rfl | rfl | rfl | rfl <;> simp only [Int.reducePow] <;> rw [IntWalk.wrap64_in _ (by omega)] <;> omega
theorem mssF_bd (m : Int) : 1 ≤ mssF m ∧ mssF m ≤ 1460 := by
  unfold mssF
  by_cases h : m = 0
  · rw [if_pos h]; omega
  · rw [if_neg h]; omega
theorem cnSame_self (C : Cn) : cnSame C C = true := by simp [cnSame, sameR_self]
/-- A new connection is valid where its tuple is. -/
theorem cn_new_ok (p q r i j : Int) (o : Opt) (wd : Int) :
    cnOk ⟨p, q, r, 1, ⟨pl i, ⟨#[]⟩, 0, false, false, false⟩, ⟨pl j, ⟨#[]⟩, [], -1, false⟩, scaled (cnWd wd) (cnO o).c, scaled (cnWd wd) (cnO o).c, cnO o, 0, 0⟩ = tupOk p q r := by
  have hw := cnWd_bd wd
  have hb := scaled_bd hw.1 hw.2 (cnO_scale o)
  unfold cnOk
  rw [show sndOk ⟨pl i, ⟨#[]⟩, 0, false, false, false⟩ = true from sndOk_mk (plW i) (Nat.zero_le _) (Int.le_refl _) (Int.le_refl _) (fun k => by cases k) (fun k => by cases k),
    show rcvOk ⟨pl j, ⟨#[]⟩, [], -1, false⟩ = true from rcvOk_yes ⟨plW j, Nat.zero_le _, Nat.zero_le _, .inl rfl, fun k h => by simp at h⟩, cnO_ok,
    show cnTail 1 false false false (scaled (cnWd wd) (cnO o).c) (scaled (cnWd wd) (cnO o).c) 0 0 = true from (cnTail_yes (top := 3) rfl hb.1 (Int.le_refl _) hb.2 (by decide) (by decide) (by decide) (by decide)).trans rfl]
  simp
theorem tup_seg {p q r : Int} (i j : Int) (h : tupOk p q r = true) : segOk ⟨r, q, pl i, pl j, 16, 32, ⟨0, -1, false, false, 0, 0⟩, ⟨#[]⟩⟩ = true := by
  unfold tupOk at h
  simp only [Bool.and_eq_true] at h
  rw [segOk_of h.2.2 h.2.1 (by decide : wordOk 32 16 = true) (plW i) (plW j) (by decide : wordOk 16 6 = true)]
  rfl
theorem nxt_new (n : Int) : nxt (pl n) 0 false = pl n := by
  show pl (pl n + 0) = pl n
  rw [Int.add_zero, pl_pl]
theorem win_new : win ⟨#[]⟩ false = 32 := by decide

end Go.Proofs.Ytajekjjaaohbnaa
