/- l2Deep. -/
import Derived.Test.YtpbnkkgfjmkcdaaPickNew
import Derived.Test.YtpbnkkgfjmkcdaaCurO
namespace Go.Proofs.Ytpbnkkgfjmkcdaa
open Go.RowKit Go.Lib

theorem pow256_4 (k : Nat) (h : k ≤ 4) : (256 : Int) ^ k ≤ 4294967296 := by
  have h : k = 0 ∨ k = 1 ∨ k = 2 ∨ k = 3 ∨ k = 4 := by omega
  rcases h with rfl | rfl | rfl | rfl | rfl <;> decide
def deepCs : Array Value := #[.int .i64 0, .int .i64 1, .int .i64 4294967295, .int .i64 2147483647, .int .i64 2147483648, .int .i64 4294967294]
theorem deepCs_bd : ∀ v ∈ deepCs.toList, ∃ x, v = .int .i64 x ∧ I64 x := by
  intro v hv
  simp only [deepCs, List.mem_cons, List.mem_nil_iff, or_false] at hv
  unfold I64
  rcases hv with rfl | rfl | rfl | rfl | rfl | rfl <;> exact ⟨_, rfl, by decide⟩
theorem pickDeep (B g : Nat) (w : World) (hc : CurB w B g) : Calls Try.prog 50 #[.pointer (some ⟨g, 0, none⟩), .slice (some ⟨w.heap.size, 0, none⟩) 6 6] (w.alloc (.cells deepCs 3)) (WholeEnd w B g) :=
  pickNew B g w hc deepCs (by decide) (by decide) deepCs_bd

set_option maxRecDepth 100000 in
set_option maxHeartbeats 1000000 in
theorem l2Deep_any (B g : Nat) (w : World) (hc : CurB w B g) : Calls Try.prog 65 #[.pointer (some ⟨g, 0, none⟩)] w (WholeEnd w B g) := by
  have C := Lib.hid (l1Once_any B g w hc 3 (by omega) (by omega))
  clear hc
  go_enter Try.func65, Try.ntmps65
  go_wp2_with fail
  refine C.out.mono ?_
  rintro e w1 ⟨b, rfl, hc1, hg1⟩
  have C1 := Lib.hid hc1
  have G1 := Lib.hid hg1
  clear hc1 hg1
  cases b with
  | true =>
    go_wp2_with fail
    refine (pickDeep B g w1 C1.out).mono ?_
    rintro e w2 ⟨n, rfl, hn, hc2, hg2⟩
    have N := Lib.hid hn
    have C2 := Lib.hid hc2
    have G2 := Lib.hid (grown_tr G1.out hg2)
    clear hn hc2 hg2
    go_wp2_with fail
    go_ret
    exact ⟨n, rfl, N.out, C2.out, G2.out⟩
  | false =>
    go_wp2_with fail
    go_loopw [3, 4] (fun n i wr => ∃ (k : Nat) (q : Int), k ≤ 4 ∧ i = .int .i64 k ∧ n = .int .i64 q ∧ (0 ≤ q ∧ q < 256 ^ k) ∧ CurB wr B g ∧ w.grownBy wr (some g))
      (fun _ i _ => 4 - (RowKit.intOf i).toNat)
    case atStart => exact ⟨0, 0, Nat.zero_le _, rfl, rfl, ⟨by omega, by decide⟩, C1.out, G1.out⟩
    case round =>
      obtain ⟨k, q, hk, rfl, rfl, ⟨q0, q1⟩, hcur, hgr⟩ := hrel
      have K := Lib.hid hcur
      have G := Lib.hid hgr
      have hq4 : q < 4294967296 := Int.lt_of_lt_of_le q1 (pow256_4 k hk)
      have Q := Lib.hid q1
      clear hcur hgr q1
      by_cases hlt : k < 4
      · go_wp2_with fail
        refine (l1Byte_any B g wr K.out).mono ?_
        rintro e w2 ⟨x, rfl, ⟨x0, x1⟩, hc2, hg2⟩
        have K2 := Lib.hid hc2
        have G2 := Lib.hid (grown_tr G.out hg2)
        clear hc2 hg2
        go_wp2_with fail
        go_roundw
        case rel => exact ⟨k + 1, 256 * q + x, by omega, by go_num, by go_num, ⟨by omega, by have := Q.out; rw [Int.pow_succ]; omega⟩, K2.out, G2.out⟩
        case measure => simp [RowKit.intOf]; omega
      · go_wp2_with fail
        go_ret
        exact ⟨q, rfl, ⟨by omega, by omega⟩, K.out, G.out⟩

end Go.Proofs.Ytpbnkkgfjmkcdaa
