/- Connections (pure). Nothing here is a claim. -/
import Derived.Test.YtajekjjaaohbnaaBase
import Derived.Test.YtajekjjaaohbnaaKit
import Derived.Test.YtajekjjaaohbnaaTupOk
import Derived.Test.YtajekjjaaohbnaaSndKit
import Derived.Test.YtajekjjaaohbnaaRcvKit
namespace Go.Proofs.Ytajekjjaaohbnaa
open Go.RowKit Go.Lib

/-- A connection: the tuple's three fields, the state, the sender, the receiver, the peer's window and the largest one, the options, the timer and the tries. -/
structure Cn where
  p : Int
  q : Int
  r : Int
  st : Int
  S : Snd
  R : Rcv
  wi : Int
  mo : Int
  O : Opt
  ti : Int
  tr : Int
def cnTop (st : Int) : Int := if st = 7 then 4 else 3
/-- Whether the three marks are those of the state. -/
def cnFits (st : Int) (f h z : Bool) : Bool :=
  if st = 1 then !f && (!h && !z) else if st = 2 then f && (!h && !z) else if st = 3 then f && (h && !z) else if st = 4 then !f && (!h && z) else if st = 5 then f && (!h && z) else if st = 6 then f && (!h && z) else if st = 7 then f && (h && z) else decide (st = 8)
theorem cnFits_in {st : Int} {f h z : Bool} (k : cnFits st f h z = true) : 1 ≤ st ∧ st ≤ 8 := by
  unfold cnFits at k
  by_cases h1 : st = 1; · omega
  by_cases h2 : st = 2; · omega
  by_cases h3 : st = 3; · omega
  by_cases h4 : st = 4; · omega
  by_cases h5 : st = 5; · omega
  by_cases h6 : st = 6; · omega
  by_cases h7 : st = 7; · omega
  rw [if_neg h1, if_neg h2, if_neg h3, if_neg h4, if_neg h5, if_neg h6, if_neg h7] at k
  have := of_decide_eq_true k
  omega
theorem cnFits_out {st : Int} {f h z : Bool} (k : ¬ (1 ≤ st ∧ st ≤ 8)) : cnFits st f h z = false := by
  cases e : cnFits st f h z with
  | false => rfl
  | true => exact absurd (cnFits_in e) k
/-- What ConnOk asks behind its four parts. -/
def cnTail (st : Int) (f h z : Bool) (wi mo ti tr : Int) : Bool :=
  decide (0 ≤ wi ∧ wi ≤ mo) && (decide (mo ≤ 1073725440) && (decide (0 ≤ tr ∧ tr ≤ 3) && (decide (0 ≤ ti ∧ ti ≤ cnTop st) && cnFits st f h z)))
theorem cnTail_yes {st top : Int} {f h z : Bool} {wi mo ti tr : Int} (e : cnTop st = top) (h1 : 0 ≤ wi) (h2 : wi ≤ mo) (h3 : mo ≤ 1073725440) (h4 : 0 ≤ tr) (h5 : tr ≤ 3) (h6 : 0 ≤ ti) (h7 : ti ≤ top) : cnTail st f h z wi mo ti tr = cnFits st f h z := by
  unfold cnTail
  rw [e, decide_eq_true ⟨h1, h2⟩, decide_eq_true h3, decide_eq_true ⟨h4, h5⟩, decide_eq_true ⟨h6, h7⟩]
  rfl
theorem cnTail_no {st top : Int} {f h z : Bool} {wi mo ti tr : Int} (e : cnTop st = top) (k : 1 ≤ st → st ≤ 8 → 0 ≤ wi → wi ≤ mo → mo ≤ 1073725440 → 0 ≤ tr → tr ≤ 3 → 0 ≤ ti → ti ≤ top → False) : cnTail st f h z wi mo ti tr = false := by
  cases e2 : cnTail st f h z wi mo ti tr with
  | false => rfl
  | true =>
    unfold cnTail at e2
    simp only [Bool.and_eq_true, decide_eq_true_eq, e] at e2
    obtain ⟨⟨a1, a2⟩, a3, ⟨a4, a5⟩, ⟨a6, a7⟩, a8⟩ := e2
    have := cnFits_in a8
    exact (k this.1 this.2 a1 a2 a3 a4 a5 a6 a7).elim
/-- What ConnOk answers. -/
noncomputable def cnOk (C : Cn) : Bool := tupOk C.p C.q C.r && (sndOk C.S && (rcvOk C.R && (optOk C.O && cnTail C.st C.S.f C.S.h C.R.z C.wi C.mo C.ti C.tr)))

end Go.Proofs.Ytajekjjaaohbnaa
