/- Two receivers compared: slices.Equal at Piece; SameReceiver, both sides. Nothing here is a claim. -/
import Derived.Test.YtajekjjaaohbnaaRcvKit
import Derived.Test.YtajekjjaaohbnaaRcvLaw2
import Derived.Test.YtajekjjaaohbnaaCurA
import Derived.Laws.StructEq
namespace Go.Proofs.Ytajekjjaaohbnaa
open Go.RowKit Go.Lib

noncomputable def sameP (a b : List HP) : Bool := decide (a = b)
theorem strEq {x y : ByteArray} (h : x = y) : (x.toList == y.toList) = true := by subst h; simp
theorem strNe {x y : ByteArray} (h : x ≠ y) : (x.toList == y.toList) = false := by
  cases e : (x.toList == y.toList) with
  | false => rfl
  | true => exact absurd (by
      have h1 : x.toList = y.toList := by simpa using e
      rw [ByteArray.toList_eq, ByteArray.toList_eq] at h1
      cases x; cases y
      simp_all) h

set_option maxRecDepth 100000 in
theorem eqPP (r q : HP) (w : World) : (Op.equalIn 10000 100 (.agg #[.int .i64 r.o, .string r.t]) (.agg #[.int .i64 q.o, .string q.t])).run Try.prog w = .ok (decide (r = q)) w := by
  have u3 := Try.underlying3
  have a3 := Try.isAgg3
  have z3 := Try.sizeOf3
  have u4 := Try.underlying9
  have a4 := Try.isAgg9
  have z4 := Try.sizeOf9
  have hS : Try.prog.underlying 100 = some (.struct (Try.prog.fieldsOf 100)) := by kernel_rfl
  have hp : Try.prog.stoodInHeld 100 = false := by kernel_rfl
  rw [show (10000 : Nat) = 9999 + 1 from rfl, run_equalIn_agg w 9999 100 _ _ hS hp]
  simp only [Program.fieldsOf, Try.underlying100]
  by_cases h2 : r.t = q.t
  · have h2' := strEq h2
    go_simp
    by_cases h1 : r.o = q.o
    · rw [if_pos h1, decide_eq_true (HP.ext h1 h2)]
    · rw [if_neg h1, decide_eq_false (fun e => h1 (by rw [e]))]
  · have h2' := strNe h2
    go_simp
    exact fun e => h2 (by rw [e])

theorem eqPP_yes {r q : HP} (h : r = q) (w : World) : (Op.equalIn 10000 100 (.agg #[.int .i64 r.o, .string r.t]) (.agg #[.int .i64 q.o, .string q.t])).run Try.prog w = .ok true w := by
  rw [eqPP, decide_eq_true h]
theorem eqPP_no {r q : HP} (h : r ≠ q) (w : World) : (Op.equalIn 10000 100 (.agg #[.int .i64 r.o, .string r.t]) (.agg #[.int .i64 q.o, .string q.t])).run Try.prog w = .ok false w := by
  rw [eqPP, decide_eq_false h]

/-- Up to k, the two lists agree. -/
def AlikeP (rs ss : List HP) (k : Nat) : Prop := ∀ j (h : j < rs.length) (h' : j < ss.length), j < k → rs[j] = ss[j]
theorem AlikeP.zero (rs ss : List HP) : AlikeP rs ss 0 := fun _ _ _ h => by omega
theorem AlikeP.next {rs ss : List HP} {k : Nat} (h : AlikeP rs ss k) (h1 : k < rs.length) (h2 : k < ss.length) (he : rs[k] = ss[k]) : AlikeP rs ss (k + 1) := fun j a b hj => by
  rcases Nat.lt_or_ge j k with h3 | h3
  · exact h j a b h3
  · obtain rfl : j = k := by omega
    exact he
theorem AlikeP.all {rs ss : List HP} (h : AlikeP rs ss rs.length) (hl : rs.length = ss.length) : sameP rs ss = true := by
  unfold sameP
  exact decide_eq_true (List.ext_getElem hl fun i h1 h2 => h i h1 h2 h1)
theorem sameP_no {rs ss : List HP} {k : Nat} (h1 : k < rs.length) (h2 : k < ss.length) (he : rs[k] ≠ ss[k]) : sameP rs ss = false := by
  unfold sameP
  exact decide_eq_false fun e => he (by subst e; rfl)
theorem sameP_len {rs ss : List HP} (h : rs.length ≠ ss.length) : sameP rs ss = false := by
  unfold sameP
  exact decide_eq_false fun e => h (by rw [e])

set_option maxRecDepth 100000 in
set_option maxHeartbeats 1000000 in
theorem equalP (a b : Option Addr) (c d : Nat) (rs ss : List HP) (w : World) (ha : Row w w.heap.size a (hps rs)) (hb : Row w w.heap.size b (hps ss)) (hl : rs.length ≤ 1048577) :
    Calls Try.prog 102 #[.slice a rs.length c, .slice b ss.length d] w (BoolE (sameP rs ss) w) := by
  have A0 := Lib.hid ha
  have B0 := Lib.hid hb
  clear ha hb
  by_cases hn : rs.length = ss.length
  · go_enter Try.func102, Try.ntmps102
    go_wp2_with fail
    go_loopw [13] (fun i wr => ∃ k : Nat, k ≤ ss.length ∧ i = .int .i64 k ∧ Hid (AlikeP rs ss k) ∧ Hid (Below w.heap.size w wr)) (fun i _ => ss.length - (RowKit.intOf i).toNat)
    case atStart => exact ⟨0, Nat.zero_le _, rfl, AlikeP.zero _ _, Below.refl _ _⟩
    case round =>
      obtain ⟨k, hk, rfl, hal, hbl⟩ := hrel
      by_cases hlt : k < ss.length
      · have hlt' : k < rs.length := by omega
        obtain ⟨p, o, rfl, _, hcs⟩ := (A0.out.below hbl.out).hp hlt'
        obtain ⟨q, u, rfl, _, hds⟩ := (B0.out.below hbl.out).hp hlt
        obtain ⟨hc0, hc1⟩ := hcs k hlt'
        obtain ⟨hd0, hd1⟩ := hds k hlt
        have hk0 : (0 : Int) ≤ (k : Int) := Int.natCast_nonneg _
        have hk1 : (k : Int) < (ss.length : Int) := by omega
        clear hcs hds
        by_cases he : rs[k] = ss[k]
        · have E := fun w => eqPP_yes he w
          have HE := Lib.hid he
          clear he
          go_wp2_with fail
          go_quiet (fail)
          go_wp2_with fail
          go_roundw
          case rel => exact ⟨k + 1, by omega, by go_num, hal.out.next hlt' hlt HE.out, below_drawn hbl.out _⟩
          case measure => simp [RowKit.intOf]; omega
        · have E := fun w => eqPP_no he w
          have HE := Lib.hid he
          clear he
          go_wp2_with fail
          go_quiet (fail)
          go_wp2_with fail
          go_ret
          exact ⟨ret_bool (sameP_no hlt' hlt HE.out).symm, below_drawn hbl.out _⟩
      · obtain rfl : k = ss.length := by omega
        go_wp2_with fail
        go_ret
        exact ⟨ret_bool (AlikeP.all (by rw [hn]; exact hal.out) hn).symm, hbl.out⟩
  · rw [sameP_len hn]
    have hn' : ((rs.length : Int) == (ss.length : Int)) = false := by simp; omega
    go_enter Try.func102, Try.ntmps102
    go_wp2_with fail
    go_ret
    exact ⟨rfl, Below.refl _ _⟩

/-- Two receivers are the same. -/
noncomputable def sameR (r s : Rcv) : Bool := (r.n == s.n) && (decide (r.d = s.d) && ((r.f == s.f) && ((r.z == s.z) && sameP r.rs s.rs)))
theorem sameR_n {n m f g : Int} {d x : ByteArray} {rs ss : List HP} {z y : Bool} (h : (n == m) = false) : sameR ⟨n, d, rs, f, z⟩ ⟨m, x, ss, g, y⟩ = false := by simp only [sameR, h, Bool.false_and]
theorem sameR_d {n m f g : Int} {d x : ByteArray} {rs ss : List HP} {z y : Bool} (h : d ≠ x) : sameR ⟨n, d, rs, f, z⟩ ⟨m, x, ss, g, y⟩ = false := by simp only [sameR, decide_eq_false h, Bool.false_and, Bool.and_false]
theorem sameR_f {n m f g : Int} {d x : ByteArray} {rs ss : List HP} {z y : Bool} (h : (f == g) = false) : sameR ⟨n, d, rs, f, z⟩ ⟨m, x, ss, g, y⟩ = false := by simp only [sameR, h, Bool.false_and, Bool.and_false]
theorem sameR_z {n m f g : Int} {d x : ByteArray} {rs ss : List HP} {z y : Bool} (h : (z == y) = false) : sameR ⟨n, d, rs, f, z⟩ ⟨m, x, ss, g, y⟩ = false := by simp only [sameR, h, Bool.false_and, Bool.and_false]
theorem sameR_r (n f : Int) (d : ByteArray) (rs ss : List HP) (z : Bool) : sameR ⟨n, d, rs, f, z⟩ ⟨n, d, ss, f, z⟩ = sameP rs ss := by simp [sameR]
theorem sameR_self (r : Rcv) : sameR r r = true := by simp [sameR, sameP]
theorem sameR_len {n f : Int} {d : ByteArray} {rs ss : List HP} {z : Bool} (h : rs.length ≠ ss.length) : sameR ⟨n, d, rs, f, z⟩ ⟨n, d, ss, f, z⟩ = false := by rw [sameR_r, sameP_len h]

set_option maxRecDepth 100000 in
set_option maxHeartbeats 2000000 in
theorem sameRcvI (n m f g : Int) (d x : ByteArray) (z y : Bool) (a1 a2 : Option Addr) (c1 c2 : Nat) (rs ss : List HP) (w : World) (ha : Row w w.heap.size a1 (hps rs)) (hb : Row w w.heap.size a2 (hps ss)) (hl : rs.length ≤ 1048577) :
    Calls Try.prog 94 #[.agg #[.int .i64 n, .string d, .slice a1 rs.length c1, .int .i64 f, .bool z], .agg #[.int .i64 m, .string x, .slice a2 ss.length c2, .int .i64 g, .bool y]] w (BoolE (sameR ⟨n, d, rs, f, z⟩ ⟨m, x, ss, g, y⟩) w) := by
  have B2 := Lib.hid (show Below w.heap.size w ((w.alloc (.cells #[.int .i64 n, .string d, .slice a1 rs.length c1, .int .i64 f, .bool z] 34)).alloc (.cells #[.int .i64 m, .string x, .slice a2 ss.length c2, .int .i64 g, .bool y] 34)) from ((Below.refl _ w).alloc (Nat.le_refl _) _).alloc (by simp) _)
  have A0 := Lib.hid ((ha.below B2.out).mono B2.out.size)
  have B0 := Lib.hid ((hb.below B2.out).mono B2.out.size)
  clear ha hb
  by_cases hu : (n == m) = false
  · rw [sameR_n hu]
    go_enter Try.func94, Try.ntmps94
    go_wp2_with fail
    go_ret
    exact ⟨rfl, B2.out⟩
  obtain rfl : n = m := by simpa using hu
  clear hu
  by_cases hu : d = x
  case neg =>
    rw [sameR_d hu]
    have hq := strNe hu
    clear hu
    go_enter Try.func94, Try.ntmps94
    go_wp2_with fail
    go_ret
    exact ⟨rfl, B2.out⟩
  subst hu
  by_cases hu : (f == g) = false
  · rw [sameR_f hu]
    go_enter Try.func94, Try.ntmps94
    go_wp2_with fail
    go_ret
    exact ⟨rfl, B2.out⟩
  obtain rfl : f = g := by simpa using hu
  clear hu
  by_cases hu : z = y
  case neg =>
    rw [sameR_z (by simpa using hu)]
    cases z <;> cases y
    · exact absurd rfl hu
    · clear hu
      go_enter Try.func94, Try.ntmps94
      go_wp2_with fail
      go_ret
      exact ⟨rfl, B2.out⟩
    · clear hu
      go_enter Try.func94, Try.ntmps94
      go_wp2_with fail
      go_ret
      exact ⟨rfl, B2.out⟩
    · exact absurd rfl hu
  subst hu
  cases z
  · rw [sameR_r]
    go_enter Try.func94, Try.ntmps94
    go_wp2_with fail
    refine (equalP a1 a2 c1 c2 rs ss _ A0.out B0.out hl).mono ?_
    rintro e w1 ⟨rfl, hb1⟩
    have B3 := Lib.hid (B2.out.trans (hb1.mono B2.out.size))
    clear hb1
    go_wp2_with fail
    go_ret
    exact ⟨rfl, B3.out⟩
  · rw [sameR_r]
    go_enter Try.func94, Try.ntmps94
    go_wp2_with fail
    refine (equalP a1 a2 c1 c2 rs ss _ A0.out B0.out hl).mono ?_
    rintro e w1 ⟨rfl, hb1⟩
    have B3 := Lib.hid (B2.out.trans (hb1.mono B2.out.size))
    clear hb1
    go_wp2_with fail
    go_ret
    exact ⟨rfl, B3.out⟩

set_option maxRecDepth 100000 in
set_option maxHeartbeats 2000000 in
theorem sameRcvS (n m f g : Int) (d x : ByteArray) (z y : Bool) (a1 a2 : Option Addr) (c1 c2 : Nat) (rs ss : List HP) (w : World) (ha : Row w w.heap.size a1 (hps rs)) (hb : Row w w.heap.size a2 (hps ss)) (hl : rs.length ≤ 1048577) :
    Calls Try.prog 46 #[.agg #[.int .i64 n, .string d, .slice a1 rs.length c1, .int .i64 f, .bool z], .agg #[.int .i64 m, .string x, .slice a2 ss.length c2, .int .i64 g, .bool y]] w (BoolE (sameR ⟨n, d, rs, f, z⟩ ⟨m, x, ss, g, y⟩) w) := by
  have B2 := Lib.hid (show Below w.heap.size w ((w.alloc (.cells #[.int .i64 n, .string d, .slice a1 rs.length c1, .int .i64 f, .bool z] 34)).alloc (.cells #[.int .i64 m, .string x, .slice a2 ss.length c2, .int .i64 g, .bool y] 34)) from ((Below.refl _ w).alloc (Nat.le_refl _) _).alloc (by simp) _)
  have A0 := Lib.hid ((ha.below B2.out).mono B2.out.size)
  have B0 := Lib.hid ((hb.below B2.out).mono B2.out.size)
  clear ha hb
  by_cases hu : (n == m) = false
  · rw [sameR_n hu]
    have hu' : (n != m) = true := by simp [bne, hu]
    go_enter Try.func46, Try.ntmps46
    go_wp2_with fail
    go_ret
    exact ⟨rfl, B2.out⟩
  obtain rfl : n = m := by simpa using hu
  clear hu
  by_cases hu : d = x
  case neg =>
    rw [sameR_d hu]
    have hq := strNe hu
    have hq' : (d.toList != x.toList) = true := by simp [bne, hq]
    clear hu
    go_enter Try.func46, Try.ntmps46
    go_wp2_with fail
    go_ret
    exact ⟨rfl, B2.out⟩
  subst hu
  by_cases hu : (f == g) = false
  · rw [sameR_f hu]
    have hu' : (f != g) = true := by simp [bne, hu]
    go_enter Try.func46, Try.ntmps46
    go_wp2_with fail
    go_ret
    exact ⟨rfl, B2.out⟩
  obtain rfl : f = g := by simpa using hu
  clear hu
  by_cases hu : z = y
  case neg =>
    rw [sameR_z (by simpa using hu)]
    cases z <;> cases y
    · exact absurd rfl hu
    · clear hu
      go_enter Try.func46, Try.ntmps46
      go_wp2_with fail
      go_ret
      exact ⟨rfl, B2.out⟩
    · clear hu
      go_enter Try.func46, Try.ntmps46
      go_wp2_with fail
      go_ret
      exact ⟨rfl, B2.out⟩
    · exact absurd rfl hu
  subst hu
  cases z
  · by_cases hn : rs.length = ss.length
    case neg =>
      have hn' : ((rs.length : Int) == (ss.length : Int)) = false := by simp; omega
      have hn2 : ((rs.length : Int) != (ss.length : Int)) = true := by simp [bne, hn']
      rw [sameR_len hn]
      go_enter Try.func46, Try.ntmps46
      go_wp2_with fail
      go_ret
      exact ⟨rfl, B2.out⟩
    have HN := Lib.hid hn
    have hn' : ((rs.length : Int) == (ss.length : Int)) = true := by simp; omega
    have hn2 : ((rs.length : Int) != (ss.length : Int)) = false := by simp [bne, hn']
    clear hn
    rw [sameR_r]
    have s1 : (w.alloc (.cells #[.int .i64 n, .string d, .slice a1 rs.length c1, .int .i64 f, .bool false] 34)).heap.size = w.heap.size + 1 := by simp
    have E1 := Lib.hid (show Blk ((w.alloc (.cells #[.int .i64 n, .string d, .slice a1 rs.length c1, .int .i64 f, .bool false] 34)).alloc (.cells #[.int .i64 n, .string d, .slice a2 ss.length c2, .int .i64 f, .bool false] 34)) w.heap.size [.int .i64 n, .string d, .slice a1 rs.length c1, .int .i64 f, .bool false] from (Blk.new w [.int .i64 n, .string d, .slice a1 rs.length c1, .int .i64 f, .bool false] 34).alloc _)
    have E2 := Lib.hid (show Blk ((w.alloc (.cells #[.int .i64 n, .string d, .slice a1 rs.length c1, .int .i64 f, .bool false] 34)).alloc (.cells #[.int .i64 n, .string d, .slice a2 ss.length c2, .int .i64 f, .bool false] 34)) (w.heap.size + 1) [.int .i64 n, .string d, .slice a2 ss.length c2, .int .i64 f, .bool false] by
      have := Blk.new (w.alloc (.cells #[.int .i64 n, .string d, .slice a1 rs.length c1, .int .i64 f, .bool false] 34)) [.int .i64 n, .string d, .slice a2 ss.length c2, .int .i64 f, .bool false] 34
      rwa [s1] at this)
    clear s1
    go_enter Try.func46, Try.ntmps46
    go_wp2_with fail
    generalize ((w.alloc (.cells #[.int .i64 n, .string d, .slice a1 rs.length c1, .int .i64 f, .bool false] 34)).alloc (.cells #[.int .i64 n, .string d, .slice a2 ss.length c2, .int .i64 f, .bool false] 34)) = w2 at B2 A0 B0 E1 E2 ⊢
    clear hn' hn2
    go_loopw [5] (fun i wr => ∃ k : Nat, k ≤ rs.length ∧ i = .int .i64 k ∧ Hid (AlikeP rs ss k) ∧ Hid (Below w2.heap.size w2 wr)) (fun i _ => rs.length - (RowKit.intOf i).toNat)
    case atStart => exact ⟨0, Nat.zero_le _, rfl, AlikeP.zero _ _, Below.refl _ _⟩
    case round =>
      obtain ⟨k, hk, rfl, hal, hbl⟩ := hrel
      obtain ⟨⟨x0, x1, x2, x3, x4⟩, _, _, _, _, _⟩ := (E1.out.below hbl.out).of5
      obtain ⟨⟨y0, y1, y2, y3, y4⟩, _, _, _, _, _⟩ := (E2.out.below hbl.out).of5
      by_cases hlt : k < rs.length
      · have hlt2 : k < ss.length := by have := HN.out; omega
        obtain ⟨p, o, rfl, _, hcs⟩ := (A0.out.below hbl.out).hp hlt
        obtain ⟨q, u, rfl, _, hds⟩ := (B0.out.below hbl.out).hp hlt2
        obtain ⟨hc0, hc1⟩ := hcs k hlt
        obtain ⟨hd0, hd1⟩ := hds k hlt2
        have hk0 : (0 : Int) ≤ (k : Int) := Int.natCast_nonneg _
        have hk1 : (k : Int) < (rs.length : Int) := by omega
        have hk2 : (k : Int) < (ss.length : Int) := by omega
        clear hcs hds
        by_cases he : rs[k] = ss[k]
        · have E := fun w => eqPP_yes he w
          have HE := Lib.hid he
          clear he
          go_wp2_with fail
          go_quiet (fail)
          go_wp2_with fail
          go_roundw
          case rel => exact ⟨k + 1, by omega, by go_num, hal.out.next hlt hlt2 HE.out, below_drawn hbl.out _⟩
          case measure => simp [RowKit.intOf]; omega
        · have E := fun w => eqPP_no he w
          have HE := Lib.hid he
          clear he
          go_wp2_with fail
          go_quiet (fail)
          go_wp2_with fail
          go_ret
          exact ⟨ret_bool (sameP_no hlt hlt2 HE.out).symm, B2.out.trans ((below_drawn hbl.out _).mono B2.out.size)⟩
      · obtain rfl : k = rs.length := by omega
        go_wp2_with fail
        go_ret
        exact ⟨ret_bool (AlikeP.all hal.out HN.out).symm, B2.out.trans (hbl.out.mono B2.out.size)⟩
  · by_cases hn : rs.length = ss.length
    case neg =>
      have hn' : ((rs.length : Int) == (ss.length : Int)) = false := by simp; omega
      have hn2 : ((rs.length : Int) != (ss.length : Int)) = true := by simp [bne, hn']
      rw [sameR_len hn]
      go_enter Try.func46, Try.ntmps46
      go_wp2_with fail
      go_ret
      exact ⟨rfl, B2.out⟩
    have HN := Lib.hid hn
    have hn' : ((rs.length : Int) == (ss.length : Int)) = true := by simp; omega
    have hn2 : ((rs.length : Int) != (ss.length : Int)) = false := by simp [bne, hn']
    clear hn
    rw [sameR_r]
    have s1 : (w.alloc (.cells #[.int .i64 n, .string d, .slice a1 rs.length c1, .int .i64 f, .bool true] 34)).heap.size = w.heap.size + 1 := by simp
    have E1 := Lib.hid (show Blk ((w.alloc (.cells #[.int .i64 n, .string d, .slice a1 rs.length c1, .int .i64 f, .bool true] 34)).alloc (.cells #[.int .i64 n, .string d, .slice a2 ss.length c2, .int .i64 f, .bool true] 34)) w.heap.size [.int .i64 n, .string d, .slice a1 rs.length c1, .int .i64 f, .bool true] from (Blk.new w [.int .i64 n, .string d, .slice a1 rs.length c1, .int .i64 f, .bool true] 34).alloc _)
    have E2 := Lib.hid (show Blk ((w.alloc (.cells #[.int .i64 n, .string d, .slice a1 rs.length c1, .int .i64 f, .bool true] 34)).alloc (.cells #[.int .i64 n, .string d, .slice a2 ss.length c2, .int .i64 f, .bool true] 34)) (w.heap.size + 1) [.int .i64 n, .string d, .slice a2 ss.length c2, .int .i64 f, .bool true] by
      have := Blk.new (w.alloc (.cells #[.int .i64 n, .string d, .slice a1 rs.length c1, .int .i64 f, .bool true] 34)) [.int .i64 n, .string d, .slice a2 ss.length c2, .int .i64 f, .bool true] 34
      rwa [s1] at this)
    clear s1
    go_enter Try.func46, Try.ntmps46
    go_wp2_with fail
    generalize ((w.alloc (.cells #[.int .i64 n, .string d, .slice a1 rs.length c1, .int .i64 f, .bool true] 34)).alloc (.cells #[.int .i64 n, .string d, .slice a2 ss.length c2, .int .i64 f, .bool true] 34)) = w2 at B2 A0 B0 E1 E2 ⊢
    clear hn' hn2
    go_loopw [5] (fun i wr => ∃ k : Nat, k ≤ rs.length ∧ i = .int .i64 k ∧ Hid (AlikeP rs ss k) ∧ Hid (Below w2.heap.size w2 wr)) (fun i _ => rs.length - (RowKit.intOf i).toNat)
    case atStart => exact ⟨0, Nat.zero_le _, rfl, AlikeP.zero _ _, Below.refl _ _⟩
    case round =>
      obtain ⟨k, hk, rfl, hal, hbl⟩ := hrel
      obtain ⟨⟨x0, x1, x2, x3, x4⟩, _, _, _, _, _⟩ := (E1.out.below hbl.out).of5
      obtain ⟨⟨y0, y1, y2, y3, y4⟩, _, _, _, _, _⟩ := (E2.out.below hbl.out).of5
      by_cases hlt : k < rs.length
      · have hlt2 : k < ss.length := by have := HN.out; omega
        obtain ⟨p, o, rfl, _, hcs⟩ := (A0.out.below hbl.out).hp hlt
        obtain ⟨q, u, rfl, _, hds⟩ := (B0.out.below hbl.out).hp hlt2
        obtain ⟨hc0, hc1⟩ := hcs k hlt
        obtain ⟨hd0, hd1⟩ := hds k hlt2
        have hk0 : (0 : Int) ≤ (k : Int) := Int.natCast_nonneg _
        have hk1 : (k : Int) < (rs.length : Int) := by omega
        have hk2 : (k : Int) < (ss.length : Int) := by omega
        clear hcs hds
        by_cases he : rs[k] = ss[k]
        · have E := fun w => eqPP_yes he w
          have HE := Lib.hid he
          clear he
          go_wp2_with fail
          go_quiet (fail)
          go_wp2_with fail
          go_roundw
          case rel => exact ⟨k + 1, by omega, by go_num, hal.out.next hlt hlt2 HE.out, below_drawn hbl.out _⟩
          case measure => simp [RowKit.intOf]; omega
        · have E := fun w => eqPP_no he w
          have HE := Lib.hid he
          clear he
          go_wp2_with fail
          go_quiet (fail)
          go_wp2_with fail
          go_ret
          exact ⟨ret_bool (sameP_no hlt hlt2 HE.out).symm, B2.out.trans ((below_drawn hbl.out _).mono B2.out.size)⟩
      · obtain rfl : k = rs.length := by omega
        go_wp2_with fail
        go_ret
        exact ⟨ret_bool (AlikeP.all hal.out HN.out).symm, B2.out.trans (hbl.out.mono B2.out.size)⟩
end Go.Proofs.Ytajekjjaaohbnaa
