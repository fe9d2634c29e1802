/- Two links compared: slices.Equal at Entry; SameLink, both sides. Nothing here is a claim. -/
import Derived.Test.YtkkimgjcefojdaaEntKit
import Derived.Test.YtkkimgjcefojdaaBlk10
import Derived.Laws.StructEq
namespace Go.Proofs.Ytkkimgjcefojdaa
open Go.RowKit Go.Lib

noncomputable def sameE (a b : List ER) : Bool := decide (a = b)

set_option maxRecDepth 100000 in
theorem eqEE (r q : ER) (w : World) : (Op.equalIn 10000 51 (.agg #[.int .i64 r.ip, .int .i64 r.hw, .int .i64 r.age]) (.agg #[.int .i64 q.ip, .int .i64 q.hw, .int .i64 q.age])).run Try.prog w = .ok (decide (r = q)) w := by
  have u3 := Try.underlying3
  have a3 := Try.isAgg3
  have z3 := Try.sizeOf3
  have hS : Try.prog.underlying 51 = some (.struct (Try.prog.fieldsOf 51)) := by kernel_rfl
  have hp : Try.prog.stoodInHeld 51 = false := by kernel_rfl
  rw [show (10000 : Nat) = 9999 + 1 from rfl, run_equalIn_agg w 9999 51 _ _ hS hp]
  simp only [Program.fieldsOf, Try.underlying51]
  go_simp
  by_cases h1 : r.ip = q.ip
  · rw [if_pos h1]
    by_cases h2 : r.hw = q.hw
    · rw [if_pos h2]
      by_cases h3 : r.age = q.age
      · rw [if_pos h3, decide_eq_true (ER.ext h1 h2 h3)]
      · rw [if_neg h3, decide_eq_false (fun e => h3 (by rw [e]))]
    · rw [if_neg h2, decide_eq_false (fun e => h2 (by rw [e]))]
  · rw [if_neg h1, decide_eq_false (fun e => h1 (by rw [e]))]

theorem eqEE_yes {r q : ER} (h : r = q) (w : World) : (Op.equalIn 10000 51 (.agg #[.int .i64 r.ip, .int .i64 r.hw, .int .i64 r.age]) (.agg #[.int .i64 q.ip, .int .i64 q.hw, .int .i64 q.age])).run Try.prog w = .ok true w := by
  rw [eqEE, decide_eq_true h]
theorem eqEE_no {r q : ER} (h : r ≠ q) (w : World) : (Op.equalIn 10000 51 (.agg #[.int .i64 r.ip, .int .i64 r.hw, .int .i64 r.age]) (.agg #[.int .i64 q.ip, .int .i64 q.hw, .int .i64 q.age])).run Try.prog w = .ok false w := by
  rw [eqEE, decide_eq_false h]

/-- Up to k, the two lists agree. -/
def AlikeE (rs ss : List ER) (k : Nat) : Prop := ∀ j (h : j < rs.length) (h' : j < ss.length), j < k → rs[j] = ss[j]
theorem AlikeE.zero (rs ss : List ER) : AlikeE rs ss 0 := fun _ _ _ h => by omega
theorem AlikeE.next {rs ss : List ER} {k : Nat} (h : AlikeE rs ss k) (h1 : k < rs.length) (h2 : k < ss.length) (he : rs[k] = ss[k]) : AlikeE rs ss (k + 1) := fun j a b hj => by
  rcases Nat.lt_or_ge j k with h3 | h3
  · exact h j a b h3
  · obtain rfl : j = k := by omega
    exact he
theorem AlikeE.all {rs ss : List ER} (h : AlikeE rs ss rs.length) (hl : rs.length = ss.length) : sameE rs ss = true := by
  unfold sameE
  exact decide_eq_true (List.ext_getElem hl fun i h1 h2 => h i h1 h2 h1)
theorem sameE_no {rs ss : List ER} {k : Nat} (h1 : k < rs.length) (h2 : k < ss.length) (he : rs[k] ≠ ss[k]) : sameE rs ss = false := by
  unfold sameE
  exact decide_eq_false fun e => he (by subst e; rfl)
theorem sameE_len {rs ss : List ER} (h : rs.length ≠ ss.length) : sameE rs ss = false := by
  unfold sameE
  exact decide_eq_false fun e => h (by rw [e])

set_option maxRecDepth 100000 in
set_option maxHeartbeats 1000000 in
theorem equalE (a b : Option Addr) (c d : Nat) (rs ss : List ER) (w : World) (ha : Row w w.heap.size a (ers rs)) (hb : Row w w.heap.size b (ers ss)) (hl : rs.length ≤ 1048577) :
    Calls Try.prog 28 #[.slice a rs.length c, .slice b ss.length d] w (BoolE (sameE rs ss) w) := by
  have A0 := Lib.hid ha
  have B0 := Lib.hid hb
  clear ha hb
  by_cases hn : rs.length = ss.length
  · go_enter Try.func28, Try.ntmps28
    go_wp2_with fail
    go_loopw [13] (fun i wr => ∃ k : Nat, k ≤ ss.length ∧ i = .int .i64 k ∧ Hid (AlikeE rs ss k) ∧ Hid (Below w.heap.size w wr)) (fun i _ => ss.length - (RowKit.intOf i).toNat)
    case atStart => exact ⟨0, Nat.zero_le _, rfl, AlikeE.zero _ _, Below.refl _ _⟩
    case round =>
      obtain ⟨k, hk, rfl, hal, hbl⟩ := hrel
      by_cases hlt : k < ss.length
      · have hlt' : k < rs.length := by omega
        obtain ⟨p, o, rfl, _, hcs⟩ := (A0.out.below hbl.out).er hlt'
        obtain ⟨q, u, rfl, _, hds⟩ := (B0.out.below hbl.out).er hlt
        obtain ⟨hc0, hc1, hc2⟩ := hcs k hlt'
        obtain ⟨hd0, hd1, hd2⟩ := hds k hlt
        have hk0 : (0 : Int) ≤ (k : Int) := Int.natCast_nonneg _
        have hk1 : (k : Int) < (ss.length : Int) := by omega
        clear hcs hds
        by_cases he : rs[k] = ss[k]
        · have E := fun w => eqEE_yes he w
          have HE := Lib.hid he
          clear he
          go_wp2_with fail
          go_quiet (fail)
          go_wp2_with fail
          go_roundw
          case rel => exact ⟨k + 1, by omega, by go_num, hal.out.next hlt' hlt HE.out, below_drawn hbl.out _⟩
          case measure => simp [RowKit.intOf]; omega
        · have E := fun w => eqEE_no he w
          have HE := Lib.hid he
          clear he
          go_wp2_with fail
          go_quiet (fail)
          go_wp2_with fail
          go_ret
          exact ⟨ret_bool (sameE_no hlt' hlt HE.out).symm, below_drawn hbl.out _⟩
      · obtain rfl : k = ss.length := by omega
        go_wp2_with fail
        go_ret
        exact ⟨ret_bool (AlikeE.all (by rw [hn]; exact hal.out) hn).symm, hbl.out⟩
  · rw [sameE_len hn]
    have hn' : ((rs.length : Int) == (ss.length : Int)) = false := by simp; omega
    go_enter Try.func28, Try.ntmps28
    go_wp2_with fail
    go_ret
    exact ⟨rfl, Below.refl _ _⟩

/-- Two links are the same. -/
noncomputable def sameL (m n ip jp : Int) (rs ss : List ER) : Bool := (m == n) && ((ip == jp) && sameE rs ss)
theorem sameL_m {m n ip jp : Int} {rs ss : List ER} (h : (m == n) = false) : sameL m n ip jp rs ss = false := by simp [sameL, h]
theorem sameL_i {m n ip jp : Int} {rs ss : List ER} (h : (ip == jp) = false) : sameL m n ip jp rs ss = false := by simp [sameL, h]
theorem sameL_r (m ip : Int) (rs ss : List ER) : sameL m m ip ip rs ss = sameE rs ss := by simp [sameL]
theorem sameL_len {m n ip jp : Int} {rs ss : List ER} (h : rs.length ≠ ss.length) : sameL m n ip jp rs ss = false := by simp [sameL, sameE_len h]
theorem sameL_self (m ip : Int) (rs : List ER) : sameL m m ip ip rs rs = true := by simp [sameL, sameE]

set_option maxRecDepth 100000 in
set_option maxHeartbeats 2000000 in
theorem sameLinkI (m n ip jp : Int) (a1 a2 : Option Addr) (c1 c2 : Nat) (rs ss : List ER) (w : World) (ha : Row w w.heap.size a1 (ers rs)) (hb : Row w w.heap.size a2 (ers ss)) (hl : rs.length ≤ 1048577) :
    Calls Try.prog 14 #[.agg #[.int .i64 m, .int .i64 ip, .slice a1 rs.length c1], .agg #[.int .i64 n, .int .i64 jp, .slice a2 ss.length c2]] w (BoolE (sameL m n ip jp rs ss) w) := by
  have B2 := Lib.hid (show Below w.heap.size w ((w.alloc (.cells #[.int .i64 m, .int .i64 ip, .slice a1 rs.length c1] 29)).alloc (.cells #[.int .i64 n, .int .i64 jp, .slice a2 ss.length c2] 29)) from ((Below.refl _ w).alloc (Nat.le_refl _) _).alloc (by simp) _)
  have A0 := Lib.hid ((ha.below B2.out).mono B2.out.size)
  have B0 := Lib.hid ((hb.below B2.out).mono B2.out.size)
  clear ha hb
  by_cases hu : (m == n) = false
  · rw [sameL_m hu]
    go_enter Try.func14, Try.ntmps14
    go_wp2_with fail
    go_ret
    exact ⟨rfl, B2.out⟩
  obtain rfl : m = n := by simpa using hu
  clear hu
  by_cases hu : (ip == jp) = false
  · rw [sameL_i hu]
    go_enter Try.func14, Try.ntmps14
    go_wp2_with fail
    go_ret
    exact ⟨rfl, B2.out⟩
  obtain rfl : ip = jp := by simpa using hu
  clear hu
  rw [sameL_r]
  go_enter Try.func14, Try.ntmps14
  go_wp2_with fail
  refine (equalE a1 a2 c1 c2 rs ss _ A0.out B0.out hl).mono ?_
  rintro e w1 ⟨rfl, hb1⟩
  have B3 := Lib.hid (B2.out.trans (hb1.mono B2.out.size))
  clear hb1
  go_wp2_with fail
  go_ret
  exact ⟨rfl, B3.out⟩

set_option maxRecDepth 100000 in
set_option maxHeartbeats 2000000 in
theorem sameLinkS (m n ip jp : Int) (a1 a2 : Option Addr) (c1 c2 : Nat) (rs ss : List ER) (w : World) (ha : Row w w.heap.size a1 (ers rs)) (hb : Row w w.heap.size a2 (ers ss)) (hl : rs.length ≤ 1048577) :
    Calls Try.prog 13 #[.agg #[.int .i64 m, .int .i64 ip, .slice a1 rs.length c1], .agg #[.int .i64 n, .int .i64 jp, .slice a2 ss.length c2]] w (BoolE (sameL m n ip jp rs ss) w) := by
  have B2 := Lib.hid (show Below w.heap.size w ((w.alloc (.cells #[.int .i64 m, .int .i64 ip, .slice a1 rs.length c1] 29)).alloc (.cells #[.int .i64 n, .int .i64 jp, .slice a2 ss.length c2] 29)) from ((Below.refl _ w).alloc (Nat.le_refl _) _).alloc (by simp) _)
  have A0 := Lib.hid ((ha.below B2.out).mono B2.out.size)
  have B0 := Lib.hid ((hb.below B2.out).mono B2.out.size)
  clear ha hb
  by_cases hu : (m == n) = false
  · rw [sameL_m hu]
    have hu' : (m != n) = true := by simp [bne, hu]
    go_enter Try.func13, Try.ntmps13
    go_wp2_with fail
    go_ret
    exact ⟨rfl, B2.out⟩
  obtain rfl : m = n := by simpa using hu
  clear hu
  by_cases hu : (ip == jp) = false
  · rw [sameL_i hu]
    have hu' : (ip != jp) = true := by simp [bne, hu]
    go_enter Try.func13, Try.ntmps13
    go_wp2_with fail
    go_ret
    exact ⟨rfl, B2.out⟩
  obtain rfl : ip = jp := by simpa using hu
  clear hu
  by_cases hn : rs.length = ss.length
  case neg =>
    have hn' : ((rs.length : Int) == (ss.length : Int)) = false := by simp; omega
    have hn2 : ((rs.length : Int) != (ss.length : Int)) = true := by simp [bne, hn']
    rw [sameL_len hn]
    go_enter Try.func13, Try.ntmps13
    go_wp2_with fail
    go_ret
    exact ⟨rfl, B2.out⟩
  have HN := Lib.hid hn
  have hn' : ((rs.length : Int) == (ss.length : Int)) = true := by simp; omega
  have hn2 : ((rs.length : Int) != (ss.length : Int)) = false := by simp [bne, hn']
  clear hn
  rw [sameL_r]
  have s1 : (w.alloc (.cells #[.int .i64 m, .int .i64 ip, .slice a1 rs.length c1] 29)).heap.size = w.heap.size + 1 := by simp
  have E1 := Lib.hid (show Blk ((w.alloc (.cells #[.int .i64 m, .int .i64 ip, .slice a1 rs.length c1] 29)).alloc (.cells #[.int .i64 m, .int .i64 ip, .slice a2 ss.length c2] 29)) w.heap.size [.int .i64 m, .int .i64 ip, .slice a1 rs.length c1] from (Blk.new w [.int .i64 m, .int .i64 ip, .slice a1 rs.length c1] 29).alloc _)
  have E2 := Lib.hid (show Blk ((w.alloc (.cells #[.int .i64 m, .int .i64 ip, .slice a1 rs.length c1] 29)).alloc (.cells #[.int .i64 m, .int .i64 ip, .slice a2 ss.length c2] 29)) (w.heap.size + 1) [.int .i64 m, .int .i64 ip, .slice a2 ss.length c2] by
    have := Blk.new (w.alloc (.cells #[.int .i64 m, .int .i64 ip, .slice a1 rs.length c1] 29)) [.int .i64 m, .int .i64 ip, .slice a2 ss.length c2] 29
    rwa [s1] at this)
  clear s1
  go_enter Try.func13, Try.ntmps13
  go_wp2_with fail
  generalize ((w.alloc (.cells #[.int .i64 m, .int .i64 ip, .slice a1 rs.length c1] 29)).alloc (.cells #[.int .i64 m, .int .i64 ip, .slice a2 ss.length c2] 29)) = w2 at B2 A0 B0 E1 E2 ⊢
  clear hn' hn2
  go_loopw [5] (fun i wr => ∃ k : Nat, k ≤ rs.length ∧ i = .int .i64 k ∧ Hid (AlikeE rs ss k) ∧ Hid (Below w2.heap.size w2 wr)) (fun i _ => rs.length - (RowKit.intOf i).toNat)
  case atStart => exact ⟨0, Nat.zero_le _, rfl, AlikeE.zero _ _, Below.refl _ _⟩
  case round =>
    obtain ⟨k, hk, rfl, hal, hbl⟩ := hrel
    obtain ⟨⟨x0, x1, x2⟩, _, _, _⟩ := (E1.out.below hbl.out).o3
    obtain ⟨⟨y0, y1, y2⟩, _, _, _⟩ := (E2.out.below hbl.out).o3
    by_cases hlt : k < rs.length
    · have hlt2 : k < ss.length := by have := HN.out; omega
      obtain ⟨p, o, rfl, _, hcs⟩ := (A0.out.below hbl.out).er hlt
      obtain ⟨q, u, rfl, _, hds⟩ := (B0.out.below hbl.out).er hlt2
      obtain ⟨hc0, hc1, hc2⟩ := hcs k hlt
      obtain ⟨hd0, hd1, hd2⟩ := hds k hlt2
      have hk0 : (0 : Int) ≤ (k : Int) := Int.natCast_nonneg _
      have hk1 : (k : Int) < (rs.length : Int) := by omega
      have hk2 : (k : Int) < (ss.length : Int) := by omega
      clear hcs hds
      by_cases he : rs[k] = ss[k]
      · have E := fun w => eqEE_yes he w
        have HE := Lib.hid he
        clear he
        go_wp2_with fail
        go_quiet (fail)
        go_wp2_with fail
        go_roundw
        case rel => exact ⟨k + 1, by omega, by go_num, hal.out.next hlt hlt2 HE.out, below_drawn hbl.out _⟩
        case measure => simp [RowKit.intOf]; omega
      · have E := fun w => eqEE_no he w
        have HE := Lib.hid he
        clear he
        go_wp2_with fail
        go_quiet (fail)
        go_wp2_with fail
        go_ret
        exact ⟨ret_bool (sameE_no hlt hlt2 HE.out).symm, B2.out.trans ((below_drawn hbl.out _).mono B2.out.size)⟩
    · obtain rfl : k = rs.length := by omega
      go_wp2_with fail
      go_ret
      exact ⟨ret_bool (AlikeE.all hal.out HN.out).symm, B2.out.trans (hbl.out.mono B2.out.size)⟩
end Go.Proofs.Ytkkimgjcefojdaa
