/- ArpReply, of the model and of the program: one contract each. -/
import Derived.Test.YtamjkchhffhejaaArpRep
namespace Go.Proofs.Ytamjkchhffhejaa
open Go.RowKit Go.Lib

def rpF (k a b d m ip x : Int) : Int := if rpOk k a b d m ip then x else 0
def rpV (k a b d m ip : Int) : Value := .tuple #[.agg #[.int .i64 (rpF k a b d m ip 2), .int .i64 (rpF k a b d m ip m), .int .i64 (rpF k a b d m ip ip), .int .i64 (rpF k a b d m ip a), .int .i64 (rpF k a b d m ip b)], .bool (rpOk k a b d m ip)]
theorem rpV_yes (k a b d m ip : Int) (h : rpOk k a b d m ip = true) : rpV k a b d m ip = .tuple #[.agg #[.int .i64 2, .int .i64 m, .int .i64 ip, .int .i64 a, .int .i64 b], .bool true] := by
  unfold rpV rpF; simp only [h, if_true]
theorem rpV_no (k a b d m ip : Int) (h : rpOk k a b d m ip = false) : rpV k a b d m ip = .tuple #[.agg #[.int .i64 0, .int .i64 0, .int .i64 0, .int .i64 0, .int .i64 0], .bool false] := by
  unfold rpV rpF; simp only [h, Bool.false_eq_true, if_false]

theorem arpReplyI (k a b c d m ip : Int) (w : World) :
    Calls Try.prog 10 #[.agg #[.int .i64 k, .int .i64 a, .int .i64 b, .int .i64 c, .int .i64 d], .int .i64 m, .int .i64 ip] w fun e w' => e = .returned (rpV k a b d m ip) ∧ Below w.heap.size w w' := by
  by_cases hk : k = 1
  · subst hk
    by_cases hd : d = ip
    · subst hd
      cases hr : arpOk 2 m d a b with
      | true => rw [rpV_yes _ _ _ _ _ _ (by simp [rpOk, hr])]; exact arpReplyI_yes a b c m d w hr
      | false => rw [rpV_no _ _ _ _ _ _ (by simp [rpOk, hr])]; exact arpReplyI_no a b c m d w hr
    · rw [rpV_no _ _ _ _ _ _ (by simp [rpOk, hd])]; exact arpReplyI_other a b c d m ip w hd
  · rw [rpV_no _ _ _ _ _ _ (by simp [rpOk, hk])]; exact arpReplyI_kind k a b c d m ip w hk
theorem arpReplyS (k a b c d m ip : Int) (w : World) :
    Calls Try.prog 11 #[.agg #[.int .i64 k, .int .i64 a, .int .i64 b, .int .i64 c, .int .i64 d], .int .i64 m, .int .i64 ip] w fun e w' => e = .returned (rpV k a b d m ip) ∧ Below w.heap.size w w' := by
  by_cases hk : k = 1
  · subst hk
    by_cases hd : d = ip
    · subst hd
      cases hr : arpOk 2 m d a b with
      | true => rw [rpV_yes _ _ _ _ _ _ (by simp [rpOk, hr])]; exact arpReplyS_yes a b c m d w hr
      | false => rw [rpV_no _ _ _ _ _ _ (by simp [rpOk, hr])]; exact arpReplyS_no a b c m d w hr
    · rw [rpV_no _ _ _ _ _ _ (by simp [rpOk, hd])]; exact arpReplyS_other a b c d m ip w hd
  · rw [rpV_no _ _ _ _ _ _ (by simp [rpOk, hk])]; exact arpReplyS_kind k a b c d m ip w hk
end Go.Proofs.Ytamjkchhffhejaa
