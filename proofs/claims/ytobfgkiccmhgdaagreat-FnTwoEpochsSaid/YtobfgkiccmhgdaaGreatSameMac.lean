/- Two tables compared: slices.Equal at MacRow; SameMac, both sides. Nothing here is a claim. -/
import Derived.Test.YtobfgkiccmhgdaaGreatBase
import Derived.Test.YtobfgkiccmhgdaaGreatFlatRow
import Derived.Test.YtobfgkiccmhgdaaGreatCurA
import Derived.Test.YtobfgkiccmhgdaaGreatSipKit
import Derived.Laws.StructEq
namespace Go.Proofs.YtobfgkiccmhgdaaGreat
open Go.RowKit Go.Lib

theorem MR.ext {r q : MR} (h1 : r.s = q.s) (h2 : r.v = q.v) : r = q := by cases r; cases q; simp_all
noncomputable def sameR (a b : List MR) : Bool := decide (a = b)

set_option maxRecDepth 100000 in
theorem eqMR (r q : MR) (w : World) : (Op.equalIn 10000 72 (.agg #[.string r.s, .int .i64 r.v]) (.agg #[.string q.s, .int .i64 q.v])).run Tryz.prog w = .ok (decide (r = q)) w := by
  have u3 := Tryz.underlying3
  have u9 := Tryz.underlying9
  have a3 := Tryz.isAgg3
  have z3 := Tryz.sizeOf3
  have a9 := Tryz.isAgg9
  have z9 := Tryz.sizeOf9
  have hS : Tryz.prog.underlying 72 = some (.struct (Tryz.prog.fieldsOf 72)) := by kernel_rfl
  have hp : Tryz.prog.stoodInHeld 72 = false := by kernel_rfl
  rw [show (10000 : Nat) = 9999 + 1 from rfl, run_equalIn_agg w 9999 72 _ _ hS hp]
  simp only [Program.fieldsOf, Tryz.underlying72]
  go_simp
  by_cases h1 : r.s = q.s
  · rw [if_pos (by rw [h1])]
    by_cases h2 : r.v = q.v
    · rw [if_pos h2, decide_eq_true (MR.ext h1 h2)]
    · rw [if_neg h2, decide_eq_false (fun e => h2 (by rw [e]))]
  · rw [if_neg (fun e => h1 (by rw [ByteArray.toList_eq, ByteArray.toList_eq] at e; exact ByteArray.ext (Array.toList_inj.1 e))), decide_eq_false (fun e => h1 (by rw [e]))]

theorem eqMR_yes {r q : MR} (h : r = q) (w : World) : (Op.equalIn 10000 72 (.agg #[.string r.s, .int .i64 r.v]) (.agg #[.string q.s, .int .i64 q.v])).run Tryz.prog w = .ok true w := by
  rw [eqMR, decide_eq_true h]
theorem eqMR_no {r q : MR} (h : r ≠ q) (w : World) : (Op.equalIn 10000 72 (.agg #[.string r.s, .int .i64 r.v]) (.agg #[.string q.s, .int .i64 q.v])).run Tryz.prog w = .ok false w := by
  rw [eqMR, decide_eq_false h]

/-- Up to k, the two tables agree. -/
def Alike (rs ss : List MR) (k : Nat) : Prop := ∀ j (h : j < rs.length) (h' : j < ss.length), j < k → rs[j] = ss[j]
theorem Alike.zero (rs ss : List MR) : Alike rs ss 0 := fun _ _ _ h => by omega
theorem Alike.next {rs ss : List MR} {k : Nat} (h : Alike rs ss k) (h1 : k < rs.length) (h2 : k < ss.length) (he : rs[k] = ss[k]) : Alike rs ss (k + 1) := fun j a b hj => by
  rcases Nat.lt_or_ge j k with h3 | h3
  · exact h j a b h3
  · obtain rfl : j = k := by omega
    exact he
theorem Alike.all {rs ss : List MR} (h : Alike rs ss rs.length) (hl : rs.length = ss.length) : sameR rs ss = true := by
  unfold sameR
  exact decide_eq_true (List.ext_getElem hl fun i h1 h2 => h i h1 h2 h1)
theorem sameR_no {rs ss : List MR} {k : Nat} (h1 : k < rs.length) (h2 : k < ss.length) (he : rs[k] ≠ ss[k]) : sameR rs ss = false := by
  unfold sameR
  exact decide_eq_false fun e => he (by subst e; rfl)
theorem sameR_len {rs ss : List MR} (h : rs.length ≠ ss.length) : sameR rs ss = false := by
  unfold sameR
  exact decide_eq_false fun e => h (by rw [e])

set_option maxRecDepth 100000 in
set_option maxHeartbeats 1000000 in
theorem equalR (a b : Option Addr) (c d : Nat) (rs ss : List MR) (w : World) (ha : Row w w.heap.size a (mrs rs)) (hb : Row w w.heap.size b (mrs ss)) (hl : rs.length ≤ 1048577) :
    Calls Tryz.prog 100 #[.slice a rs.length c, .slice b ss.length d] w fun e w' => e = .returned (.bool (sameR rs ss)) ∧ Below w.heap.size w w' := by
  have A0 := Lib.hid ha
  have B0 := Lib.hid hb
  clear ha hb
  by_cases hn : rs.length = ss.length
  · go_enter Tryz.func100, Tryz.ntmps100
    go_wp2_with fail
    go_loopw [13] (fun i wr => ∃ k : Nat, k ≤ ss.length ∧ i = .int .i64 k ∧ Hid (Alike rs ss k) ∧ Hid (Below w.heap.size w wr)) (fun i _ => ss.length - (RowKit.intOf i).toNat)
    case atStart => exact ⟨0, Nat.zero_le _, rfl, Alike.zero _ _, Below.refl _ _⟩
    case round =>
      obtain ⟨k, hk, rfl, hal, hbl⟩ := hrel
      by_cases hlt : k < ss.length
      · have hlt' : k < rs.length := by omega
        obtain ⟨p, o, rfl, _, hcs⟩ := (A0.out.below hbl.out).mr hlt'
        obtain ⟨q, u, rfl, _, hds⟩ := (B0.out.below hbl.out).mr hlt
        obtain ⟨hc0, hc1⟩ := hcs k hlt'
        obtain ⟨hd0, hd1⟩ := hds k hlt
        have hk0 : (0 : Int) ≤ (k : Int) := Int.natCast_nonneg _
        have hk1 : (k : Int) < (ss.length : Int) := by omega
        clear hcs hds
        by_cases he : rs[k] = ss[k]
        · have E := fun w => eqMR rs[k] ss[k] w
          rw [decide_eq_true he] at E
          have HE := Lib.hid he
          clear he
          go_wp2_with fail
          go_quiet (fail)
          go_wp2_with fail
          go_roundw
          case rel => exact ⟨k + 1, by omega, by go_num, hal.out.next hlt' hlt HE.out, below_drawn hbl.out _⟩
          case measure => simp [RowKit.intOf]; omega
        · have E := fun w => eqMR_no he w
          have HE := Lib.hid he
          clear he
          go_wp2_with fail
          go_quiet (fail)
          go_wp2_with fail
          go_ret
          exact ⟨ret_bool (sameR_no hlt' hlt HE.out).symm, below_drawn hbl.out _⟩
      · obtain rfl : k = ss.length := by omega
        go_wp2_with fail
        go_ret
        exact ⟨ret_bool (Alike.all (by rw [hn]; exact hal.out) hn).symm, hbl.out⟩
  · rw [sameR_len hn]
    have hn' : ((rs.length : Int) == (ss.length : Int)) = false := by simp; omega
    go_enter Tryz.func100, Tryz.ntmps100
    go_wp2_with fail
    go_ret
    exact ⟨rfl, Below.refl _ _⟩

/-- Two Macs are the same. -/
noncomputable def sameM (u1 u2 : Bool) (k1 k2 l1 l2 : Int) (rs ss : List MR) : Bool := (u1 == u2) && (k1 == k2) && (l1 == l2) && sameR rs ss
theorem sameM_u {u1 u2 : Bool} {k1 k2 l1 l2 : Int} {rs ss : List MR} (h : (u1 == u2) = false) : sameM u1 u2 k1 k2 l1 l2 rs ss = false := by simp [sameM, h]
theorem sameM_k {u1 u2 : Bool} {k1 k2 l1 l2 : Int} {rs ss : List MR} (h : (k1 == k2) = false) : sameM u1 u2 k1 k2 l1 l2 rs ss = false := by simp [sameM, h]
theorem sameM_l {u1 u2 : Bool} {k1 k2 l1 l2 : Int} {rs ss : List MR} (h : (l1 == l2) = false) : sameM u1 u2 k1 k2 l1 l2 rs ss = false := by simp [sameM, h]
theorem sameM_r (u : Bool) (k l : Int) (rs ss : List MR) : sameM u u k k l l rs ss = sameR rs ss := by simp [sameM]

set_option maxRecDepth 100000 in
set_option maxHeartbeats 2000000 in
theorem sameMacI (u1 u2 : Bool) (k1 k2 l1 l2 : Int) (a1 a2 : Option Addr) (c1 c2 : Nat) (rs ss : List MR) (w : World) (ha : Row w w.heap.size a1 (mrs rs)) (hb : Row w w.heap.size a2 (mrs ss)) (hl : rs.length ≤ 1048577) :
    Calls Tryz.prog 98 #[.agg #[.bool u1, .int .u64 k1, .int .u64 l1, .slice a1 rs.length c1], .agg #[.bool u2, .int .u64 k2, .int .u64 l2, .slice a2 ss.length c2]] w fun e w' => e = .returned (.bool (sameM u1 u2 k1 k2 l1 l2 rs ss)) ∧ Below w.heap.size w w' := by
  have B2 := Lib.hid (show Below w.heap.size w ((w.alloc (.cells #[.bool u1, .int .u64 k1, .int .u64 l1, .slice a1 rs.length c1] 27)).alloc (.cells #[.bool u2, .int .u64 k2, .int .u64 l2, .slice a2 ss.length c2] 27)) from ((Below.refl _ w).alloc (Nat.le_refl _) _).alloc (by simp) _)
  have A0 := Lib.hid ((ha.below B2.out).mono B2.out.size)
  have B0 := Lib.hid ((hb.below B2.out).mono B2.out.size)
  clear ha hb
  by_cases hu : (u1 == u2) = false
  · rw [sameM_u hu]
    go_enter Tryz.func98, Tryz.ntmps98
    go_wp2_with fail
    go_ret
    exact ⟨rfl, B2.out⟩
  obtain rfl : u1 = u2 := by simpa using hu
  clear hu
  by_cases hk : (k1 == k2) = false
  · rw [sameM_k hk]
    go_enter Tryz.func98, Tryz.ntmps98
    go_wp2_with fail
    go_ret
    exact ⟨rfl, B2.out⟩
  obtain rfl : k1 = k2 := by simpa using hk
  clear hk
  by_cases hq : (l1 == l2) = false
  · rw [sameM_l hq]
    go_enter Tryz.func98, Tryz.ntmps98
    go_wp2_with fail
    go_ret
    exact ⟨rfl, B2.out⟩
  obtain rfl : l1 = l2 := by simpa using hq
  clear hq
  rw [sameM_r]
  go_enter Tryz.func98, Tryz.ntmps98
  go_wp2_with fail
  refine (equalR a1 a2 c1 c2 rs ss _ A0.out B0.out hl).mono ?_
  rintro e w1 ⟨rfl, hb1⟩
  have B3 := Lib.hid (B2.out.trans (hb1.mono B2.out.size))
  clear hb1
  go_wp2_with fail
  go_ret
  exact ⟨rfl, B3.out⟩

theorem sameM_len {u1 u2 : Bool} {k1 k2 l1 l2 : Int} {rs ss : List MR} (h : rs.length ≠ ss.length) : sameM u1 u2 k1 k2 l1 l2 rs ss = false := by simp [sameM, sameR_len h]
set_option maxRecDepth 100000 in
set_option maxHeartbeats 2000000 in
theorem sameMacS (u1 u2 : Bool) (k1 k2 l1 l2 : Int) (a1 a2 : Option Addr) (c1 c2 : Nat) (rs ss : List MR) (w : World) (ha : Row w w.heap.size a1 (mrs rs)) (hb : Row w w.heap.size a2 (mrs ss)) (hl : rs.length ≤ 1048577) :
    Calls Tryz.prog 33 #[.agg #[.bool u1, .int .u64 k1, .int .u64 l1, .slice a1 rs.length c1], .agg #[.bool u2, .int .u64 k2, .int .u64 l2, .slice a2 ss.length c2]] w fun e w' => e = .returned (.bool (sameM u1 u2 k1 k2 l1 l2 rs ss)) ∧ Below w.heap.size w w' := by
  have B2 := Lib.hid (show Below w.heap.size w ((w.alloc (.cells #[.bool u1, .int .u64 k1, .int .u64 l1, .slice a1 rs.length c1] 27)).alloc (.cells #[.bool u2, .int .u64 k2, .int .u64 l2, .slice a2 ss.length c2] 27)) from ((Below.refl _ w).alloc (Nat.le_refl _) _).alloc (by simp) _)
  have A0 := Lib.hid ((ha.below B2.out).mono B2.out.size)
  have B0 := Lib.hid ((hb.below B2.out).mono B2.out.size)
  clear ha hb
  by_cases hu : (u1 == u2) = false
  · have hu' : (u1 != u2) = true := by simp [bne, hu]
    rw [sameM_u hu]
    go_enter Tryz.func33, Tryz.ntmps33
    go_wp2_with fail
    go_ret
    exact ⟨rfl, B2.out⟩
  obtain rfl : u1 = u2 := by simpa using hu
  clear hu
  by_cases hk : (k1 == k2) = false
  · have hk' : (k1 != k2) = true := by simp [bne, hk]
    rw [sameM_k hk]
    go_enter Tryz.func33, Tryz.ntmps33
    go_wp2_with fail
    go_ret
    exact ⟨rfl, B2.out⟩
  obtain rfl : k1 = k2 := by simpa using hk
  clear hk
  by_cases hq : (l1 == l2) = false
  · have hq' : (l1 != l2) = true := by simp [bne, hq]
    rw [sameM_l hq]
    go_enter Tryz.func33, Tryz.ntmps33
    go_wp2_with fail
    go_ret
    exact ⟨rfl, B2.out⟩
  obtain rfl : l1 = l2 := by simpa using hq
  clear hq
  by_cases hn : rs.length = ss.length
  case neg =>
    have hn' : ((rs.length : Int) == (ss.length : Int)) = false := by simp; omega
    have hn2 : ((rs.length : Int) != (ss.length : Int)) = true := by simp [bne, hn']
    rw [sameM_len hn]
    go_enter Tryz.func33, Tryz.ntmps33
    go_wp2_with fail
    go_ret
    exact ⟨rfl, B2.out⟩
  have HN := Lib.hid hn
  have hn' : ((rs.length : Int) == (ss.length : Int)) = true := by simp; omega
  have hn2 : ((rs.length : Int) != (ss.length : Int)) = false := by simp [bne, hn']
  clear hn
  rw [sameM_r]
  have s1 : (w.alloc (.cells #[.bool u1, .int .u64 k1, .int .u64 l1, .slice a1 rs.length c1] 27)).heap.size = w.heap.size + 1 := by simp
  have E1 := Lib.hid (show Blk ((w.alloc (.cells #[.bool u1, .int .u64 k1, .int .u64 l1, .slice a1 rs.length c1] 27)).alloc (.cells #[.bool u1, .int .u64 k1, .int .u64 l1, .slice a2 ss.length c2] 27)) w.heap.size [.bool u1, .int .u64 k1, .int .u64 l1, .slice a1 rs.length c1] from (Blk.new w [.bool u1, .int .u64 k1, .int .u64 l1, .slice a1 rs.length c1] 27).alloc _)
  have E2 := Lib.hid (show Blk ((w.alloc (.cells #[.bool u1, .int .u64 k1, .int .u64 l1, .slice a1 rs.length c1] 27)).alloc (.cells #[.bool u1, .int .u64 k1, .int .u64 l1, .slice a2 ss.length c2] 27)) (w.heap.size + 1) [.bool u1, .int .u64 k1, .int .u64 l1, .slice a2 ss.length c2] by
    have := Blk.new (w.alloc (.cells #[.bool u1, .int .u64 k1, .int .u64 l1, .slice a1 rs.length c1] 27)) [.bool u1, .int .u64 k1, .int .u64 l1, .slice a2 ss.length c2] 27
    rwa [s1] at this)
  clear s1
  go_enter Tryz.func33, Tryz.ntmps33
  go_wp2_with fail
  generalize ((w.alloc (.cells #[.bool u1, .int .u64 k1, .int .u64 l1, .slice a1 rs.length c1] 27)).alloc (.cells #[.bool u1, .int .u64 k1, .int .u64 l1, .slice a2 ss.length c2] 27)) = w2 at B2 A0 B0 E1 E2 ⊢
  clear hn' hn2
  go_loopw [5] (fun i wr => ∃ k : Nat, k ≤ rs.length ∧ i = .int .i64 k ∧ Hid (Alike rs ss k) ∧ Hid (Below w2.heap.size w2 wr)) (fun i _ => rs.length - (RowKit.intOf i).toNat)
  case atStart => exact ⟨0, Nat.zero_le _, rfl, Alike.zero _ _, Below.refl _ _⟩
  case round =>
    obtain ⟨k, hk, rfl, hal, hbl⟩ := hrel
    obtain ⟨⟨x0, x1, x2, x3⟩, _, _, _, _⟩ := (E1.out.below hbl.out).four
    obtain ⟨⟨y0, y1, y2, y3⟩, _, _, _, _⟩ := (E2.out.below hbl.out).four
    by_cases hlt : k < rs.length
    · have hlt2 : k < ss.length := by have := HN.out; omega
      obtain ⟨p, o, rfl, _, hcs⟩ := (A0.out.below hbl.out).mr hlt
      obtain ⟨q, u, rfl, _, hds⟩ := (B0.out.below hbl.out).mr hlt2
      obtain ⟨hc0, hc1⟩ := hcs k hlt
      obtain ⟨hd0, hd1⟩ := hds k hlt2
      have hk0 : (0 : Int) ≤ (k : Int) := Int.natCast_nonneg _
      have hk1 : (k : Int) < (rs.length : Int) := by omega
      have hk2 : (k : Int) < (ss.length : Int) := by omega
      clear hcs hds
      by_cases he : rs[k] = ss[k]
      · have E := fun w => eqMR_yes he w
        have HE := Lib.hid he
        clear he
        go_wp2_with fail
        go_quiet (fail)
        go_wp2_with fail
        go_roundw
        case rel => exact ⟨k + 1, by omega, by go_num, hal.out.next hlt hlt2 HE.out, below_drawn hbl.out _⟩
        case measure => simp [RowKit.intOf]; omega
      · have E := fun w => eqMR_no he w
        have HE := Lib.hid he
        clear he
        go_wp2_with fail
        go_quiet (fail)
        go_wp2_with fail
        go_ret
        exact ⟨ret_bool (sameR_no hlt hlt2 HE.out).symm, B2.out.trans ((below_drawn hbl.out _).mono B2.out.size)⟩
    · obtain rfl : k = rs.length := by omega
      go_wp2_with fail
      go_ret
      exact ⟨ret_bool (Alike.all hal.out HN.out).symm, B2.out.trans (hbl.out.mono B2.out.size)⟩
end Go.Proofs.YtobfgkiccmhgdaaGreat
