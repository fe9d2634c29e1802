/- Texts of one proof that belong together, joined. Nothing here is a claim. -/
import Derived.Test.YtpbnkkgfjmkcdaaRcvKit
import Derived.Test.YtpbnkkgfjmkcdaaRcvLaw2
import Derived.Test.YtpbnkkgfjmkcdaaBlk10
import Derived.Laws.StructEq
import Derived.Test.YtpbnkkgfjmkcdaaRcvP
import Derived.Test.YtpbnkkgfjmkcdaaRcvTakeK
import Derived.Test.YtpbnkkgfjmkcdaaBase
import Derived.Test.YtpbnkkgfjmkcdaaKit
import Derived.Test.YtpbnkkgfjmkcdaaRcv18
import Derived.Test.YtpbnkkgfjmkcdaaTillTwo
import Derived.Test.YtpbnkkgfjmkcdaaDrawWordA
import Derived.Test.YtpbnkkgfjmkcdaaPickNew
import Derived.Test.YtpbnkkgfjmkcdaaCurP
import Derived.Deep.AppendLies
import Derived.Test.YtpbnkkgfjmkcdaaL4Place
import Derived.ProofKit
import Derived.OpenShut
import Derived.SliceStrings
namespace Go.Proofs.Ytpbnkkgfjmkcdaa
open Go.RowKit Go.Lib

noncomputable def sameP (a b : List HP) : Bool := decide (a = b)
theorem strEq {x y : ByteArray} (h : x = y) : (x.toList == y.toList) = true := by subst h; simp
theorem strNe {x y : ByteArray} (h : x ≠ y) : (x.toList == y.toList) = false := by
  cases e : (x.toList == y.toList) with
  | false => rfl
  | true => exact absurd (by
      have h1 : x.toList = y.toList := by simpa using e
      rw [ByteArray.toList_eq, ByteArray.toList_eq] at h1
      cases x; cases y
      simp_all) h

set_option maxRecDepth 100000 in
theorem eqPP (r q : HP) (w : World) : (Op.equalIn 10000 64 (.agg #[.int .i64 r.o, .string r.t]) (.agg #[.int .i64 q.o, .string q.t])).run Try.prog w = .ok (decide (r = q)) w := by
  have u3 := Try.underlying3
  have a3 := Try.isAgg3
  have z3 := Try.sizeOf3
  have u4 := Try.underlying9
  have a4 := Try.isAgg9
  have z4 := Try.sizeOf9
  have hS : Try.prog.underlying 64 = some (.struct (Try.prog.fieldsOf 64)) := by kernel_rfl
  have hp : Try.prog.stoodInHeld 64 = false := by kernel_rfl
  rw [show (10000 : Nat) = 9999 + 1 from rfl, run_equalIn_agg w 9999 64 _ _ hS hp]
  simp only [Program.fieldsOf, Try.underlying64]
  by_cases h2 : r.t = q.t
  · have h2' := strEq h2
    go_simp
    by_cases h1 : r.o = q.o
    · rw [if_pos h1, decide_eq_true (HP.ext h1 h2)]
    · rw [if_neg h1, decide_eq_false (fun e => h1 (by rw [e]))]
  · have h2' := strNe h2
    go_simp
    exact fun e => h2 (by rw [e])

theorem eqPP_yes {r q : HP} (h : r = q) (w : World) : (Op.equalIn 10000 64 (.agg #[.int .i64 r.o, .string r.t]) (.agg #[.int .i64 q.o, .string q.t])).run Try.prog w = .ok true w := by
  rw [eqPP, decide_eq_true h]
theorem eqPP_no {r q : HP} (h : r ≠ q) (w : World) : (Op.equalIn 10000 64 (.agg #[.int .i64 r.o, .string r.t]) (.agg #[.int .i64 q.o, .string q.t])).run Try.prog w = .ok false w := by
  rw [eqPP, decide_eq_false h]

/-- Up to k, the two lists agree. -/
def AlikeP (rs ss : List HP) (k : Nat) : Prop := ∀ j (h : j < rs.length) (h' : j < ss.length), j < k → rs[j] = ss[j]
theorem AlikeP.zero (rs ss : List HP) : AlikeP rs ss 0 := fun _ _ _ h => by omega
theorem AlikeP.next {rs ss : List HP} {k : Nat} (h : AlikeP rs ss k) (h1 : k < rs.length) (h2 : k < ss.length) (he : rs[k] = ss[k]) : AlikeP rs ss (k + 1) := fun j a b hj => by
  rcases Nat.lt_or_ge j k with h3 | h3
  · exact h j a b h3
  · obtain rfl : j = k := by omega
    exact he
theorem AlikeP.all {rs ss : List HP} (h : AlikeP rs ss rs.length) (hl : rs.length = ss.length) : sameP rs ss = true := by
  unfold sameP
  exact decide_eq_true (List.ext_getElem hl fun i h1 h2 => h i h1 h2 h1)
theorem sameP_no {rs ss : List HP} {k : Nat} (h1 : k < rs.length) (h2 : k < ss.length) (he : rs[k] ≠ ss[k]) : sameP rs ss = false := by
  unfold sameP
  exact decide_eq_false fun e => he (by subst e; rfl)
theorem sameP_len {rs ss : List HP} (h : rs.length ≠ ss.length) : sameP rs ss = false := by
  unfold sameP
  exact decide_eq_false fun e => h (by rw [e])

/-- Two receivers are the same. -/
noncomputable def sameR (r s : Rcv) : Bool := (r.n == s.n) && (decide (r.d = s.d) && ((r.f == s.f) && ((r.z == s.z) && sameP r.rs s.rs)))
theorem sameR_n {n m f g : Int} {d x : ByteArray} {rs ss : List HP} {z y : Bool} (h : (n == m) = false) : sameR ⟨n, d, rs, f, z⟩ ⟨m, x, ss, g, y⟩ = false := by simp only [sameR, h, Bool.false_and]
theorem sameR_d {n m f g : Int} {d x : ByteArray} {rs ss : List HP} {z y : Bool} (h : d ≠ x) : sameR ⟨n, d, rs, f, z⟩ ⟨m, x, ss, g, y⟩ = false := by simp only [sameR, decide_eq_false h, Bool.false_and, Bool.and_false]
theorem sameR_f {n m f g : Int} {d x : ByteArray} {rs ss : List HP} {z y : Bool} (h : (f == g) = false) : sameR ⟨n, d, rs, f, z⟩ ⟨m, x, ss, g, y⟩ = false := by simp only [sameR, h, Bool.false_and, Bool.and_false]
theorem sameR_z {n m f g : Int} {d x : ByteArray} {rs ss : List HP} {z y : Bool} (h : (z == y) = false) : sameR ⟨n, d, rs, f, z⟩ ⟨m, x, ss, g, y⟩ = false := by simp only [sameR, h, Bool.false_and, Bool.and_false]
theorem sameR_r (n f : Int) (d : ByteArray) (rs ss : List HP) (z : Bool) : sameR ⟨n, d, rs, f, z⟩ ⟨n, d, ss, f, z⟩ = sameP rs ss := by simp [sameR]
theorem sameR_self (r : Rcv) : sameR r r = true := by simp [sameR, sameP]
theorem sameR_len {n f : Int} {d : ByteArray} {rs ss : List HP} {z : Bool} (h : rs.length ≠ ss.length) : sameR ⟨n, d, rs, f, z⟩ ⟨n, d, ss, f, z⟩ = false := by rw [sameR_r, sameP_len h]

set_option maxRecDepth 100000 in
set_option maxHeartbeats 2000000 in
theorem sameRcvS (n m f g : Int) (d x : ByteArray) (z y : Bool) (a1 a2 : Option Addr) (c1 c2 : Nat) (rs ss : List HP) (w : World) (ha : Row w w.heap.size a1 (hps rs)) (hb : Row w w.heap.size a2 (hps ss)) (hl : rs.length ≤ 1048577) :
    Calls Try.prog 11 #[.agg #[.int .i64 n, .string d, .slice a1 rs.length c1, .int .i64 f, .bool z], .agg #[.int .i64 m, .string x, .slice a2 ss.length c2, .int .i64 g, .bool y]] w (BoolE (sameR ⟨n, d, rs, f, z⟩ ⟨m, x, ss, g, y⟩) w) := by
  have B2 := Lib.hid (show Below w.heap.size w ((w.alloc (.cells #[.int .i64 n, .string d, .slice a1 rs.length c1, .int .i64 f, .bool z] 26)).alloc (.cells #[.int .i64 m, .string x, .slice a2 ss.length c2, .int .i64 g, .bool y] 26)) from ((Below.refl _ w).alloc (Nat.le_refl _) _).alloc (by simp) _)
  have A0 := Lib.hid ((ha.below B2.out).mono B2.out.size)
  have B0 := Lib.hid ((hb.below B2.out).mono B2.out.size)
  clear ha hb
  by_cases hu : (n == m) = false
  · rw [sameR_n hu]
    have hu' : (n != m) = true := by simp [bne, hu]
    go_enter Try.func11, Try.ntmps11
    go_wp2_with fail
    go_ret
    exact ⟨rfl, B2.out⟩
  obtain rfl : n = m := by simpa using hu
  clear hu
  by_cases hu : d = x
  case neg =>
    rw [sameR_d hu]
    have hq := strNe hu
    have hq' : (d.toList != x.toList) = true := by simp [bne, hq]
    clear hu
    go_enter Try.func11, Try.ntmps11
    go_wp2_with fail
    go_ret
    exact ⟨rfl, B2.out⟩
  subst hu
  by_cases hu : (f == g) = false
  · rw [sameR_f hu]
    have hu' : (f != g) = true := by simp [bne, hu]
    go_enter Try.func11, Try.ntmps11
    go_wp2_with fail
    go_ret
    exact ⟨rfl, B2.out⟩
  obtain rfl : f = g := by simpa using hu
  clear hu
  by_cases hu : z = y
  case neg =>
    rw [sameR_z (by simpa using hu)]
    cases z <;> cases y
    · exact absurd rfl hu
    · clear hu
      go_enter Try.func11, Try.ntmps11
      go_wp2_with fail
      go_ret
      exact ⟨rfl, B2.out⟩
    · clear hu
      go_enter Try.func11, Try.ntmps11
      go_wp2_with fail
      go_ret
      exact ⟨rfl, B2.out⟩
    · exact absurd rfl hu
  subst hu
  cases z
  · by_cases hn : rs.length = ss.length
    case neg =>
      have hn' : ((rs.length : Int) == (ss.length : Int)) = false := by simp; omega
      have hn2 : ((rs.length : Int) != (ss.length : Int)) = true := by simp [bne, hn']
      rw [sameR_len hn]
      go_enter Try.func11, Try.ntmps11
      go_wp2_with fail
      go_ret
      exact ⟨rfl, B2.out⟩
    have HN := Lib.hid hn
    have hn' : ((rs.length : Int) == (ss.length : Int)) = true := by simp; omega
    have hn2 : ((rs.length : Int) != (ss.length : Int)) = false := by simp [bne, hn']
    clear hn
    rw [sameR_r]
    have s1 : (w.alloc (.cells #[.int .i64 n, .string d, .slice a1 rs.length c1, .int .i64 f, .bool false] 26)).heap.size = w.heap.size + 1 := by simp
    have E1 := Lib.hid (show Blk ((w.alloc (.cells #[.int .i64 n, .string d, .slice a1 rs.length c1, .int .i64 f, .bool false] 26)).alloc (.cells #[.int .i64 n, .string d, .slice a2 ss.length c2, .int .i64 f, .bool false] 26)) w.heap.size [.int .i64 n, .string d, .slice a1 rs.length c1, .int .i64 f, .bool false] from (Blk.new w [.int .i64 n, .string d, .slice a1 rs.length c1, .int .i64 f, .bool false] 26).alloc _)
    have E2 := Lib.hid (show Blk ((w.alloc (.cells #[.int .i64 n, .string d, .slice a1 rs.length c1, .int .i64 f, .bool false] 26)).alloc (.cells #[.int .i64 n, .string d, .slice a2 ss.length c2, .int .i64 f, .bool false] 26)) (w.heap.size + 1) [.int .i64 n, .string d, .slice a2 ss.length c2, .int .i64 f, .bool false] by
      have := Blk.new (w.alloc (.cells #[.int .i64 n, .string d, .slice a1 rs.length c1, .int .i64 f, .bool false] 26)) [.int .i64 n, .string d, .slice a2 ss.length c2, .int .i64 f, .bool false] 26
      rwa [s1] at this)
    clear s1
    go_enter Try.func11, Try.ntmps11
    go_wp2_with fail
    generalize ((w.alloc (.cells #[.int .i64 n, .string d, .slice a1 rs.length c1, .int .i64 f, .bool false] 26)).alloc (.cells #[.int .i64 n, .string d, .slice a2 ss.length c2, .int .i64 f, .bool false] 26)) = w2 at B2 A0 B0 E1 E2 ⊢
    clear hn' hn2
    go_loopw [5] (fun i wr => ∃ k : Nat, k ≤ rs.length ∧ i = .int .i64 k ∧ Hid (AlikeP rs ss k) ∧ Hid (Below w2.heap.size w2 wr)) (fun i _ => rs.length - (RowKit.intOf i).toNat)
    case atStart => exact ⟨0, Nat.zero_le _, rfl, AlikeP.zero _ _, Below.refl _ _⟩
    case round =>
      obtain ⟨k, hk, rfl, hal, hbl⟩ := hrel
      obtain ⟨⟨x0, x1, x2, x3, x4⟩, _, _, _, _, _⟩ := (E1.out.below hbl.out).of5
      obtain ⟨⟨y0, y1, y2, y3, y4⟩, _, _, _, _, _⟩ := (E2.out.below hbl.out).of5
      by_cases hlt : k < rs.length
      · have hlt2 : k < ss.length := by have := HN.out; omega
        obtain ⟨p, o, rfl, _, hcs⟩ := (A0.out.below hbl.out).hp hlt
        obtain ⟨q, u, rfl, _, hds⟩ := (B0.out.below hbl.out).hp hlt2
        obtain ⟨hc0, hc1⟩ := hcs k hlt
        obtain ⟨hd0, hd1⟩ := hds k hlt2
        have hk0 : (0 : Int) ≤ (k : Int) := Int.natCast_nonneg _
        have hk1 : (k : Int) < (rs.length : Int) := by omega
        have hk2 : (k : Int) < (ss.length : Int) := by omega
        clear hcs hds
        by_cases he : rs[k] = ss[k]
        · have E := fun w => eqPP_yes he w
          have HE := Lib.hid he
          clear he
          go_wp2_with fail
          go_quiet (fail)
          go_wp2_with fail
          go_roundw
          case rel => exact ⟨k + 1, by omega, by go_num, hal.out.next hlt hlt2 HE.out, below_drawn hbl.out _⟩
          case measure => simp [RowKit.intOf]; omega
        · have E := fun w => eqPP_no he w
          have HE := Lib.hid he
          clear he
          go_wp2_with fail
          go_quiet (fail)
          go_wp2_with fail
          go_ret
          exact ⟨ret_bool (sameP_no hlt hlt2 HE.out).symm, B2.out.trans ((below_drawn hbl.out _).mono B2.out.size)⟩
      · obtain rfl : k = rs.length := by omega
        go_wp2_with fail
        go_ret
        exact ⟨ret_bool (AlikeP.all hal.out HN.out).symm, B2.out.trans (hbl.out.mono B2.out.size)⟩
  · by_cases hn : rs.length = ss.length
    case neg =>
      have hn' : ((rs.length : Int) == (ss.length : Int)) = false := by simp; omega
      have hn2 : ((rs.length : Int) != (ss.length : Int)) = true := by simp [bne, hn']
      rw [sameR_len hn]
      go_enter Try.func11, Try.ntmps11
      go_wp2_with fail
      go_ret
      exact ⟨rfl, B2.out⟩
    have HN := Lib.hid hn
    have hn' : ((rs.length : Int) == (ss.length : Int)) = true := by simp; omega
    have hn2 : ((rs.length : Int) != (ss.length : Int)) = false := by simp [bne, hn']
    clear hn
    rw [sameR_r]
    have s1 : (w.alloc (.cells #[.int .i64 n, .string d, .slice a1 rs.length c1, .int .i64 f, .bool true] 26)).heap.size = w.heap.size + 1 := by simp
    have E1 := Lib.hid (show Blk ((w.alloc (.cells #[.int .i64 n, .string d, .slice a1 rs.length c1, .int .i64 f, .bool true] 26)).alloc (.cells #[.int .i64 n, .string d, .slice a2 ss.length c2, .int .i64 f, .bool true] 26)) w.heap.size [.int .i64 n, .string d, .slice a1 rs.length c1, .int .i64 f, .bool true] from (Blk.new w [.int .i64 n, .string d, .slice a1 rs.length c1, .int .i64 f, .bool true] 26).alloc _)
    have E2 := Lib.hid (show Blk ((w.alloc (.cells #[.int .i64 n, .string d, .slice a1 rs.length c1, .int .i64 f, .bool true] 26)).alloc (.cells #[.int .i64 n, .string d, .slice a2 ss.length c2, .int .i64 f, .bool true] 26)) (w.heap.size + 1) [.int .i64 n, .string d, .slice a2 ss.length c2, .int .i64 f, .bool true] by
      have := Blk.new (w.alloc (.cells #[.int .i64 n, .string d, .slice a1 rs.length c1, .int .i64 f, .bool true] 26)) [.int .i64 n, .string d, .slice a2 ss.length c2, .int .i64 f, .bool true] 26
      rwa [s1] at this)
    clear s1
    go_enter Try.func11, Try.ntmps11
    go_wp2_with fail
    generalize ((w.alloc (.cells #[.int .i64 n, .string d, .slice a1 rs.length c1, .int .i64 f, .bool true] 26)).alloc (.cells #[.int .i64 n, .string d, .slice a2 ss.length c2, .int .i64 f, .bool true] 26)) = w2 at B2 A0 B0 E1 E2 ⊢
    clear hn' hn2
    go_loopw [5] (fun i wr => ∃ k : Nat, k ≤ rs.length ∧ i = .int .i64 k ∧ Hid (AlikeP rs ss k) ∧ Hid (Below w2.heap.size w2 wr)) (fun i _ => rs.length - (RowKit.intOf i).toNat)
    case atStart => exact ⟨0, Nat.zero_le _, rfl, AlikeP.zero _ _, Below.refl _ _⟩
    case round =>
      obtain ⟨k, hk, rfl, hal, hbl⟩ := hrel
      obtain ⟨⟨x0, x1, x2, x3, x4⟩, _, _, _, _, _⟩ := (E1.out.below hbl.out).of5
      obtain ⟨⟨y0, y1, y2, y3, y4⟩, _, _, _, _, _⟩ := (E2.out.below hbl.out).of5
      by_cases hlt : k < rs.length
      · have hlt2 : k < ss.length := by have := HN.out; omega
        obtain ⟨p, o, rfl, _, hcs⟩ := (A0.out.below hbl.out).hp hlt
        obtain ⟨q, u, rfl, _, hds⟩ := (B0.out.below hbl.out).hp hlt2
        obtain ⟨hc0, hc1⟩ := hcs k hlt
        obtain ⟨hd0, hd1⟩ := hds k hlt2
        have hk0 : (0 : Int) ≤ (k : Int) := Int.natCast_nonneg _
        have hk1 : (k : Int) < (rs.length : Int) := by omega
        have hk2 : (k : Int) < (ss.length : Int) := by omega
        clear hcs hds
        by_cases he : rs[k] = ss[k]
        · have E := fun w => eqPP_yes he w
          have HE := Lib.hid he
          clear he
          go_wp2_with fail
          go_quiet (fail)
          go_wp2_with fail
          go_roundw
          case rel => exact ⟨k + 1, by omega, by go_num, hal.out.next hlt hlt2 HE.out, below_drawn hbl.out _⟩
          case measure => simp [RowKit.intOf]; omega
        · have E := fun w => eqPP_no he w
          have HE := Lib.hid he
          clear he
          go_wp2_with fail
          go_quiet (fail)
          go_wp2_with fail
          go_ret
          exact ⟨ret_bool (sameP_no hlt hlt2 HE.out).symm, B2.out.trans ((below_drawn hbl.out _).mono B2.out.size)⟩
      · obtain rfl : k = rs.length := by omega
        go_wp2_with fail
        go_ret
        exact ⟨ret_bool (AlikeP.all hal.out HN.out).symm, B2.out.trans (hbl.out.mono B2.out.size)⟩
end Go.Proofs.Ytpbnkkgfjmkcdaa
namespace Go.Proofs.Ytpbnkkgfjmkcdaa
open Go.RowKit Go.Lib

theorem tak_no {r : Rcv} {k : Int} (h : rcvOk r = false) : taken r k = r ∧ takenS r k = ⟨#[]⟩ := by unfold taken takenS; rw [h]; exact ⟨rfl, rfl⟩
/-- What is taken, what is left. -/
theorem tak_facts {n f : Int} {d : ByteArray} {rs : List HP} {z : Bool} (k : Int) (h : rcvOk ⟨n, d, rs, f, z⟩ = true) :
    ∃ (s d2 : ByteArray), taken ⟨n, d, rs, f, z⟩ k = ⟨n, d2, rs, f, z⟩ ∧ takenS ⟨n, d, rs, f, z⟩ k = s ∧ s ++ d2 = d ∧ rcvOk ⟨n, d2, rs, f, z⟩ = true ∧ (z = false → win d2 false = win d false + (s.size : Int)) ∧ s.size ≤ 32 ∧ d2.size ≤ 32 ∧ d.size ≤ 32 := by
  have h1 := rcvOk_iff.1 h
  have h2 := taken_ok h1 k
  have hd := h1.2.1
  unfold taken takenS at *
  rw [h] at h2 ⊢
  simp only [cond_true] at h2 hd ⊢
  have hk := tkn_le d k
  have hs : (d.extract 0 (tkn d k)).size = tkn d k := by rw [ByteArray.size_extract]; omega
  have hs2 : (d.extract (tkn d k) d.size).size = d.size - tkn d k := by rw [ByteArray.size_extract]; omega
  refine ⟨_, _, rfl, rfl, ?_, rcvOk_yes h2, fun _ => ?_, by omega, by omega, hd⟩
  · rw [ByteArray.extract_append_extract, Nat.min_eq_left (Nat.zero_le _), Nat.max_eq_right hk, ByteArray.extract_zero_size]
  · rw [win_is (by omega), win_is hd, hs, hs2]
    omega
theorem sameS_self (P : Rcv) : sameR P P = true := sameR_self P
end Go.Proofs.Ytpbnkkgfjmkcdaa
namespace Go.Proofs.Ytpbnkkgfjmkcdaa
open Go.RowKit Go.Lib

set_option maxRecDepth 100000 in
set_option maxHeartbeats 4000000 in
theorem takenInI (n f : Int) (z : Bool) (d : ByteArray) (a : Option Addr) (cap : Nat) (rs : List HP) (k : Int) (hB : RB d rs) (w : World) (hrow : HasP w a cap rs) :
    Calls Try.prog 20 #[.agg #[.int .i64 n, .string d, .slice a rs.length cap, .int .i64 f, .bool z], .int .i64 k] w (EndTk (taken ⟨n, d, rs, f, z⟩ k) (takenS ⟨n, d, rs, f, z⟩ k) w) := by
  have OK := fun w (h : HasP w a cap rs) => rcvOkI n f z d a cap rs hB w h.1
  have HR := Lib.hid hrow
  have hl := Lib.hid hB.2.1
  have hds := Lib.hid hB.1
  clear hrow hB
  unfold EndTk taken takenS
  cases hok : rcvOk ⟨n, d, rs, f, z⟩ with
  | false =>
    simp only [hok] at OK
    simp only [cond_false]
    replace OK := Lib.hid OK
    clear hok
    go_enter Try.func20, Try.ntmps20
    have B0 := Lib.hid (show Below w.heap.size w ((w.alloc (.cells #[.int .i64 n, .string d, .slice a rs.length cap, .int .i64 f, .bool z] 26)).alloc (.cells #[.int .i64 0, .string ⟨#[]⟩, .slice none 0 0, .int .i64 0, .bool false] 26)) from (((Below.refl _ w).alloc (by simp) _).alloc (by simp) _))
    have Kl0 := Lib.hid (show Blk ((w.alloc (.cells #[.int .i64 n, .string d, .slice a rs.length cap, .int .i64 f, .bool z] 26)).alloc (.cells #[.int .i64 0, .string ⟨#[]⟩, .slice none 0 0, .int .i64 0, .bool false] 26)) (w.heap.size) [.int .i64 n, .string d, .slice a rs.length cap, .int .i64 f, .bool z] from (Blk.new w [.int .i64 n, .string d, .slice a rs.length cap, .int .i64 f, .bool z] 26).alloc (.cells #[.int .i64 0, .string ⟨#[]⟩, .slice none 0 0, .int .i64 0, .bool false] 26))
    have s1 : (w.alloc (.cells #[.int .i64 n, .string d, .slice a rs.length cap, .int .i64 f, .bool z] 26)).heap.size = w.heap.size + 1 := by simp
    have Ko0 := Lib.hid (show Blk ((w.alloc (.cells #[.int .i64 n, .string d, .slice a rs.length cap, .int .i64 f, .bool z] 26)).alloc (.cells #[.int .i64 0, .string ⟨#[]⟩, .slice none 0 0, .int .i64 0, .bool false] 26)) (w.heap.size + 1) [.int .i64 0, .string ⟨#[]⟩, .slice none 0 0, .int .i64 0, .bool false] by have h0 := Blk.new (w.alloc (.cells #[.int .i64 n, .string d, .slice a rs.length cap, .int .i64 f, .bool z] 26)) [.int .i64 0, .string ⟨#[]⟩, .slice none 0 0, .int .i64 0, .bool false] 26; rwa [s1] at h0)
    have n_l_o : w.heap.size ≠ w.heap.size + 1 := by omega
    clear s1
    go_wp2_with fail
    change Calls _ _ _ ((w.alloc (.cells #[.int .i64 n, .string d, .slice a rs.length cap, .int .i64 f, .bool z] 26)).alloc (.cells #[.int .i64 0, .string ⟨#[]⟩, .slice none 0 0, .int .i64 0, .bool false] 26)) _
    generalize (w.alloc (.cells #[.int .i64 n, .string d, .slice a rs.length cap, .int .i64 f, .bool z] 26)).alloc (.cells #[.int .i64 0, .string ⟨#[]⟩, .slice none 0 0, .int .i64 0, .bool false] 26) = v0 at B0 Kl0 Ko0 ⊢
    generalize hh_o : w.heap.size + 1 = g_o at Ko0 n_l_o ⊢
    generalize hh_l : w.heap.size = g_l at Kl0 n_l_o ⊢
    have l_l : w.heap.size ≤ g_l := by omega
    have l_o : w.heap.size ≤ g_o := by omega
    clear hh_l hh_o
    have hz0 := B0.out.size
    have lt0_l := Kl0.out.lt
    have lt0_o := Ko0.out.lt
    refine (rcopyI n f z d a cap rs _ (HR.out.below B0.out).1 (HR.out.below B0.out).2 (by have := hl.out; omega)).mono ?_
    rintro e v1 ⟨a2, cap2, rfl, ho_p, hb⟩
    have hm := ho_p
    have B1 := Lib.hid (B0.out.trans (hb.mono B0.out.size))
    have Kl1 := Lib.hid (Kl0.out.below hb)
    have Ko1 := Lib.hid (Ko0.out.below hb)
    clear hb B0 Kl0 Ko0
    clear hm
    replace ho_p := (show World.ownsRow v1 _ 64 2 (.slice a2 rs.length cap2) rs.length (hps rs) from ho_p)
    have m_p_l : (.slice a2 rs.length cap2 : Value).ownBlock ≠ some g_l := fun e => by have h1 := (ho_p.lt _ e).1; have h2 := lt0_l; omega
    have m_p_o : (.slice a2 rs.length cap2 : Value).ownBlock ≠ some g_o := fun e => by have h1 := (ho_p.lt _ e).1; have h2 := lt0_o; omega
    have Np1 := Lib.hid ho_p
    clear ho_p
    have m_p_x : (.slice a2 rs.length cap2 : Value).ownBlock ≠ some v1.heap.size := fun e => by have h1 := (Np1.out.lt _ e).2; omega
    have Npn := Lib.hid (own_below Np1.out ((Below.refl _ v1).alloc (Nat.le_refl _) (.cells #[.int .i64 n, .string d, .slice a2 rs.length cap2, .int .i64 f, .bool z] 26)))
    clear Np1
    have Kxn := Lib.hid (Blk.new v1 [.int .i64 n, .string d, .slice a2 rs.length cap2, .int .i64 f, .bool z] 26)
    have l_x : w.heap.size ≤ v1.heap.size := B1.out.size
    have n_l_x : g_l ≠ v1.heap.size := by have h1 := Kl1.out.lt; omega
    have n_o_x : g_o ≠ v1.heap.size := by have h1 := Ko1.out.lt; omega
    have Bn := Lib.hid (B1.out.alloc B1.out.size (.cells #[.int .i64 n, .string d, .slice a2 rs.length cap2, .int .i64 f, .bool z] 26))
    have Kln := Lib.hid (Kl1.out.alloc (.cells #[.int .i64 n, .string d, .slice a2 rs.length cap2, .int .i64 f, .bool z] 26))
    have Kon := Lib.hid (Ko1.out.alloc (.cells #[.int .i64 n, .string d, .slice a2 rs.length cap2, .int .i64 f, .bool z] 26))
    clear B1 Kl1 Ko1
    obtain ⟨⟨cl0, cl1, cl2, cl3, cl4⟩, dl0, dl1, dl2, dl3, dl4⟩ := Kln.out.of5
    obtain ⟨⟨co0, co1, co2, co3, co4⟩, do0, do1, do2, do3, do4⟩ := Kon.out.of5
    go_wp2_with fail
    clear cl0 cl1 cl2 cl3 cl4 dl0 dl1 dl2 dl3 dl4 co0 co1 co2 co3 co4 do0 do1 do2 do3 do4
    change Calls _ _ _ (v1.alloc (.cells #[.int .i64 n, .string d, .slice a2 rs.length cap2, .int .i64 f, .bool z] 26)) _
    generalize v1.alloc (.cells #[.int .i64 n, .string d, .slice a2 rs.length cap2, .int .i64 f, .bool z] 26) = v2 at Kxn Bn Kln Kon Npn ⊢
    generalize v1.heap.size = g_x at Kxn l_x n_l_x n_o_x m_p_x ⊢
    clear v1
    have Kl2 := Kln
    clear Kln
    have Ko2 := Kon
    clear Kon
    have Kx2 := Kxn
    clear Kxn
    have B2 := Bn
    clear Bn
    have Np2 := Npn
    clear Npn
    refine (OK.out _ (HR.out.below B2.out)).mono ?_
    rintro e v3 ⟨rfl, hb⟩
    have B3 := Lib.hid (B2.out.trans (hb.mono B2.out.size))
    have Kl3 := Lib.hid (Kl2.out.below hb)
    have Ko3 := Lib.hid (Ko2.out.below hb)
    have Kx3 := Lib.hid (Kx2.out.below hb)
    have Np3 := Lib.hid (own_below Np2.out hb)
    clear hb B2 Kl2 Ko2 Kx2 Np2
    obtain ⟨⟨cl0, cl1, cl2, cl3, cl4⟩, dl0, dl1, dl2, dl3, dl4⟩ := Kl3.out.of5
    obtain ⟨⟨co0, co1, co2, co3, co4⟩, do0, do1, do2, do3, do4⟩ := Ko3.out.of5
    obtain ⟨⟨cx0, cx1, cx2, cx3, cx4⟩, dx0, dx1, dx2, dx3, dx4⟩ := Kx3.out.of5
    go_wp2_with fail
    refine bodyPost_ret (v := .tuple #[.agg #[.int .i64 n, .string d, .slice a2 rs.length cap2, .int .i64 f, .bool z], .string ⟨#[]⟩]) (by simp [results, Try.results20, go_sem, co0, co1, co2, co3, co4]) rfl ⟨_, _, rfl, ?_, ?_⟩
    · exact own_down (own_setn (own_setn (own_setn (own_setn (own_setn Np3.out (g := g_o) (k := 0) m_p_o (.int .i64 n)) (g := g_o) (k := 1) m_p_o (.string d)) (g := g_o) (k := 2) m_p_o (.slice a2 rs.length cap2)) (g := g_o) (k := 3) m_p_o (.int .i64 f)) (g := g_o) (k := 4) m_p_o (.bool z)) hz0
    · exact (((((B3.out.setCell l_o (.int .i64 n)).setCell l_o (.string d)).setCell l_o (.slice a2 rs.length cap2)).setCell l_o (.int .i64 f)).setCell l_o (.bool z))
  | true =>
    simp only [hok] at OK
    simp only [cond_true]
    replace OK := Lib.hid OK
    have HN := Lib.hid (tkn_is d k)
    have HM := Lib.hid (tkn_le d k)
    generalize tkn d k = m at HN HM ⊢
    clear hok
    go_enter Try.func20, Try.ntmps20
    have B0 := Lib.hid (show Below w.heap.size w ((w.alloc (.cells #[.int .i64 n, .string d, .slice a rs.length cap, .int .i64 f, .bool z] 26)).alloc (.cells #[.int .i64 0, .string ⟨#[]⟩, .slice none 0 0, .int .i64 0, .bool false] 26)) from (((Below.refl _ w).alloc (by simp) _).alloc (by simp) _))
    have Kl0 := Lib.hid (show Blk ((w.alloc (.cells #[.int .i64 n, .string d, .slice a rs.length cap, .int .i64 f, .bool z] 26)).alloc (.cells #[.int .i64 0, .string ⟨#[]⟩, .slice none 0 0, .int .i64 0, .bool false] 26)) (w.heap.size) [.int .i64 n, .string d, .slice a rs.length cap, .int .i64 f, .bool z] from (Blk.new w [.int .i64 n, .string d, .slice a rs.length cap, .int .i64 f, .bool z] 26).alloc (.cells #[.int .i64 0, .string ⟨#[]⟩, .slice none 0 0, .int .i64 0, .bool false] 26))
    have s1 : (w.alloc (.cells #[.int .i64 n, .string d, .slice a rs.length cap, .int .i64 f, .bool z] 26)).heap.size = w.heap.size + 1 := by simp
    have Ko0 := Lib.hid (show Blk ((w.alloc (.cells #[.int .i64 n, .string d, .slice a rs.length cap, .int .i64 f, .bool z] 26)).alloc (.cells #[.int .i64 0, .string ⟨#[]⟩, .slice none 0 0, .int .i64 0, .bool false] 26)) (w.heap.size + 1) [.int .i64 0, .string ⟨#[]⟩, .slice none 0 0, .int .i64 0, .bool false] by have h0 := Blk.new (w.alloc (.cells #[.int .i64 n, .string d, .slice a rs.length cap, .int .i64 f, .bool z] 26)) [.int .i64 0, .string ⟨#[]⟩, .slice none 0 0, .int .i64 0, .bool false] 26; rwa [s1] at h0)
    have n_l_o : w.heap.size ≠ w.heap.size + 1 := by omega
    clear s1
    go_wp2_with fail
    change Calls _ _ _ ((w.alloc (.cells #[.int .i64 n, .string d, .slice a rs.length cap, .int .i64 f, .bool z] 26)).alloc (.cells #[.int .i64 0, .string ⟨#[]⟩, .slice none 0 0, .int .i64 0, .bool false] 26)) _
    generalize (w.alloc (.cells #[.int .i64 n, .string d, .slice a rs.length cap, .int .i64 f, .bool z] 26)).alloc (.cells #[.int .i64 0, .string ⟨#[]⟩, .slice none 0 0, .int .i64 0, .bool false] 26) = v0 at B0 Kl0 Ko0 ⊢
    generalize hh_o : w.heap.size + 1 = g_o at Ko0 n_l_o ⊢
    generalize hh_l : w.heap.size = g_l at Kl0 n_l_o ⊢
    have l_l : w.heap.size ≤ g_l := by omega
    have l_o : w.heap.size ≤ g_o := by omega
    clear hh_l hh_o
    have hz0 := B0.out.size
    have lt0_l := Kl0.out.lt
    have lt0_o := Ko0.out.lt
    refine (rcopyI n f z d a cap rs _ (HR.out.below B0.out).1 (HR.out.below B0.out).2 (by have := hl.out; omega)).mono ?_
    rintro e v1 ⟨a2, cap2, rfl, ho_p, hb⟩
    have hm := ho_p
    have B1 := Lib.hid (B0.out.trans (hb.mono B0.out.size))
    have Kl1 := Lib.hid (Kl0.out.below hb)
    have Ko1 := Lib.hid (Ko0.out.below hb)
    clear hb B0 Kl0 Ko0
    clear hm
    replace ho_p := (show World.ownsRow v1 _ 64 2 (.slice a2 rs.length cap2) rs.length (hps rs) from ho_p)
    have m_p_l : (.slice a2 rs.length cap2 : Value).ownBlock ≠ some g_l := fun e => by have h1 := (ho_p.lt _ e).1; have h2 := lt0_l; omega
    have m_p_o : (.slice a2 rs.length cap2 : Value).ownBlock ≠ some g_o := fun e => by have h1 := (ho_p.lt _ e).1; have h2 := lt0_o; omega
    have Np1 := Lib.hid ho_p
    clear ho_p
    have m_p_x : (.slice a2 rs.length cap2 : Value).ownBlock ≠ some v1.heap.size := fun e => by have h1 := (Np1.out.lt _ e).2; omega
    have Npn := Lib.hid (own_below Np1.out ((Below.refl _ v1).alloc (Nat.le_refl _) (.cells #[.int .i64 n, .string d, .slice a2 rs.length cap2, .int .i64 f, .bool z] 26)))
    clear Np1
    have Kxn := Lib.hid (Blk.new v1 [.int .i64 n, .string d, .slice a2 rs.length cap2, .int .i64 f, .bool z] 26)
    have l_x : w.heap.size ≤ v1.heap.size := B1.out.size
    have n_l_x : g_l ≠ v1.heap.size := by have h1 := Kl1.out.lt; omega
    have n_o_x : g_o ≠ v1.heap.size := by have h1 := Ko1.out.lt; omega
    have Bn := Lib.hid (B1.out.alloc B1.out.size (.cells #[.int .i64 n, .string d, .slice a2 rs.length cap2, .int .i64 f, .bool z] 26))
    have Kln := Lib.hid (Kl1.out.alloc (.cells #[.int .i64 n, .string d, .slice a2 rs.length cap2, .int .i64 f, .bool z] 26))
    have Kon := Lib.hid (Ko1.out.alloc (.cells #[.int .i64 n, .string d, .slice a2 rs.length cap2, .int .i64 f, .bool z] 26))
    clear B1 Kl1 Ko1
    obtain ⟨⟨cl0, cl1, cl2, cl3, cl4⟩, dl0, dl1, dl2, dl3, dl4⟩ := Kln.out.of5
    obtain ⟨⟨co0, co1, co2, co3, co4⟩, do0, do1, do2, do3, do4⟩ := Kon.out.of5
    go_wp2_with fail
    clear cl0 cl1 cl2 cl3 cl4 dl0 dl1 dl2 dl3 dl4 co0 co1 co2 co3 co4 do0 do1 do2 do3 do4
    change Calls _ _ _ (v1.alloc (.cells #[.int .i64 n, .string d, .slice a2 rs.length cap2, .int .i64 f, .bool z] 26)) _
    generalize v1.alloc (.cells #[.int .i64 n, .string d, .slice a2 rs.length cap2, .int .i64 f, .bool z] 26) = v2 at Kxn Bn Kln Kon Npn ⊢
    generalize v1.heap.size = g_x at Kxn l_x n_l_x n_o_x m_p_x ⊢
    clear v1
    have Kl2 := Kln
    clear Kln
    have Ko2 := Kon
    clear Kon
    have Kx2 := Kxn
    clear Kxn
    have B2 := Bn
    clear Bn
    have Np2 := Npn
    clear Npn
    refine (OK.out _ (HR.out.below B2.out)).mono ?_
    rintro e v3 ⟨rfl, hb⟩
    have B3 := Lib.hid (B2.out.trans (hb.mono B2.out.size))
    have Kl3 := Lib.hid (Kl2.out.below hb)
    have Ko3 := Lib.hid (Ko2.out.below hb)
    have Kx3 := Lib.hid (Kx2.out.below hb)
    have Np3 := Lib.hid (own_below Np2.out hb)
    clear hb B2 Kl2 Ko2 Kx2 Np2
    obtain ⟨⟨cl0, cl1, cl2, cl3, cl4⟩, dl0, dl1, dl2, dl3, dl4⟩ := Kl3.out.of5
    obtain ⟨⟨co0, co1, co2, co3, co4⟩, do0, do1, do2, do3, do4⟩ := Ko3.out.of5
    obtain ⟨⟨cx0, cx1, cx2, cx3, cx4⟩, dx0, dx1, dx2, dx3, dx4⟩ := Kx3.out.of5
    go_upto_region 5 with fail
    rw [HN.out]
    have hm1 : ¬ ((m : Int) < 0) := by omega
    have hm2 : ¬ ((d.size : Int) < (m : Int)) := by have := HM.out; omega
    have Np4 := Lib.hid (own_setn Np3.out (g := g_x) (k := 1) m_p_x (.string (d.extract m d.size)))
    have Kl4 := Lib.hid (show Blk (v3.setCell ⟨g_x, 1, none⟩ (.string (d.extract m d.size))) g_l [.int .i64 n, .string d, .slice a rs.length cap, .int .i64 f, .bool z] from (Kl3.out.setOther ⟨g_x, 1, none⟩ (.string (d.extract m d.size)) (n_l_x)))
    have Ko4 := Lib.hid (show Blk (v3.setCell ⟨g_x, 1, none⟩ (.string (d.extract m d.size))) g_o [.int .i64 0, .string ⟨#[]⟩, .slice none 0 0, .int .i64 0, .bool false] from (Ko3.out.setOther ⟨g_x, 1, none⟩ (.string (d.extract m d.size)) (n_o_x)))
    have Kx4 := Lib.hid (show Blk (v3.setCell ⟨g_x, 1, none⟩ (.string (d.extract m d.size))) g_x [.int .i64 n, .string (d.extract m d.size), .slice a2 rs.length cap2, .int .i64 f, .bool z] from (Kx3.out.set 1 (.string (d.extract m d.size))))
    have B4 := Lib.hid (show Below w.heap.size w (v3.setCell ⟨g_x, 1, none⟩ (.string (d.extract m d.size))) from (B3.out.setCell l_x (.string (d.extract m d.size))))
    clear B3
    go_upto_region 6 with fail
    clear Kl3 Ko3 Kx3
    clear cl0 cl1 cl2 cl3 cl4 dl0 dl1 dl2 dl3 dl4 co0 co1 co2 co3 co4 do0 do1 do2 do3 do4 cx0 cx1 cx2 cx3 cx4 dx0 dx1 dx2 dx3 dx4
    generalize v3.setCell ⟨g_x, 1, none⟩ (.string (d.extract m d.size)) = v4 at B4 Kl4 Ko4 Kx4 Np4 ⊢
    clear Np3
    refine wp_region_noPanic ?_
    refine wp_region_held_drew (S := fun w' => Blk w' g_l [.int .i64 n, .string d, .slice a rs.length cap, .int .i64 f, .bool z] ∧ Blk w' g_x [.int .i64 n, .string (d.extract m d.size), .slice a2 rs.length cap2, .int .i64 f, .bool z]) (by kernel_rfl) ⟨Kl4.out, Kx4.out⟩ (fun hS => ?_)
    refine wpAnyH_take (i := 0) (v := .agg #[.int .i64 n, .string (d.extract m d.size), .slice a2 rs.length cap2, .int .i64 f, .bool z]) rfl (by kernel_rfl) (by kernel_rfl) (by kernel_rfl) (fun _ _ _ h => h) (Or.inl ⟨rfl, by intro w hS; obtain ⟨⟨h0, h1, h2, h3, h4⟩, _⟩ := hS.2.of5; go_simp⟩) hS ?_
    refine wpAnyH_take (i := 1) (v := .pointer (some ⟨g_l, 1, none⟩)) rfl (by kernel_rfl) (by kernel_rfl) (by kernel_rfl) (fun _ _ _ h => h) (Or.inl ⟨rfl, by intro w hS; go_simp⟩) hS ?_
    refine wpAnyH_take (i := 2) (v := .string d) rfl (by kernel_rfl) (by kernel_rfl) (by kernel_rfl) (fun _ _ _ h => h) (Or.inl ⟨rfl, by intro w hS; obtain ⟨⟨h0, h1, h2, h3, h4⟩, _⟩ := hS.1.of5; go_simp⟩) hS ?_
    refine wpAnyH_take (i := 3) (v := .int .i64 (m : Int)) rfl (by kernel_rfl) (by kernel_rfl) (by kernel_rfl) (fun _ _ _ h => h) (Or.inl ⟨rfl, by intro w hS; go_simp⟩) hS ?_
    refine wpAnyH_take (i := 4) (v := .string (d.extract 0 m)) rfl (by kernel_rfl) (by kernel_rfl) (by kernel_rfl) (fun _ _ _ h => h) (Or.inl ⟨rfl, by intro w hS; go_simp; exact fun hlt => absurd hlt (Nat.not_lt.2 HM.out)⟩) hS ?_
    obtain ⟨⟨co0, co1, co2, co3, co4⟩, do0, do1, do2, do3, do4⟩ := Ko4.out.of5
    refine wpAnyH_ready (rs := [5]) (by kernel_rfl) (by simp) ?_
    refine AllReadyH.cons (i := 5) rfl (fun K hK => ?zr3) AllReadyH.nil
    rw [if_pos (by rfl)]
    go_simp
    clear hS
    have Kl5 := Lib.hid (show Blk ((((((v4.setCell ⟨g_o, 0, none⟩ (.int .i64 n)).setCell ⟨g_o, 1, none⟩ (.string (d.extract m d.size))).setCell ⟨g_o, 2, none⟩ (.slice a2 rs.length cap2)).setCell ⟨g_o, 3, none⟩ (.int .i64 f)).setCell ⟨g_o, 4, none⟩ (.bool z)).drew) g_l [.int .i64 n, .string d, .slice a rs.length cap, .int .i64 f, .bool z] from (((((Kl4.out.setOther ⟨g_o, 0, none⟩ (.int .i64 n) (n_l_o)).setOther ⟨g_o, 1, none⟩ (.string (d.extract m d.size)) (n_l_o)).setOther ⟨g_o, 2, none⟩ (.slice a2 rs.length cap2) (n_l_o)).setOther ⟨g_o, 3, none⟩ (.int .i64 f) (n_l_o)).setOther ⟨g_o, 4, none⟩ (.bool z) (n_l_o)))
    have Ko5 := Lib.hid (show Blk ((((((v4.setCell ⟨g_o, 0, none⟩ (.int .i64 n)).setCell ⟨g_o, 1, none⟩ (.string (d.extract m d.size))).setCell ⟨g_o, 2, none⟩ (.slice a2 rs.length cap2)).setCell ⟨g_o, 3, none⟩ (.int .i64 f)).setCell ⟨g_o, 4, none⟩ (.bool z)).drew) g_o [.int .i64 n, .string (d.extract m d.size), .slice a2 rs.length cap2, .int .i64 f, .bool z] from (((((Ko4.out.set 0 (.int .i64 n)).set 1 (.string (d.extract m d.size))).set 2 (.slice a2 rs.length cap2)).set 3 (.int .i64 f)).set 4 (.bool z)))
    have Kx5 := Lib.hid (show Blk ((((((v4.setCell ⟨g_o, 0, none⟩ (.int .i64 n)).setCell ⟨g_o, 1, none⟩ (.string (d.extract m d.size))).setCell ⟨g_o, 2, none⟩ (.slice a2 rs.length cap2)).setCell ⟨g_o, 3, none⟩ (.int .i64 f)).setCell ⟨g_o, 4, none⟩ (.bool z)).drew) g_x [.int .i64 n, .string (d.extract m d.size), .slice a2 rs.length cap2, .int .i64 f, .bool z] from (((((Kx4.out.setOther ⟨g_o, 0, none⟩ (.int .i64 n) (fun e => n_o_x e.symm)).setOther ⟨g_o, 1, none⟩ (.string (d.extract m d.size)) (fun e => n_o_x e.symm)).setOther ⟨g_o, 2, none⟩ (.slice a2 rs.length cap2) (fun e => n_o_x e.symm)).setOther ⟨g_o, 3, none⟩ (.int .i64 f) (fun e => n_o_x e.symm)).setOther ⟨g_o, 4, none⟩ (.bool z) (fun e => n_o_x e.symm)))
    have B5 := Lib.hid (show Below w.heap.size w ((((((v4.setCell ⟨g_o, 0, none⟩ (.int .i64 n)).setCell ⟨g_o, 1, none⟩ (.string (d.extract m d.size))).setCell ⟨g_o, 2, none⟩ (.slice a2 rs.length cap2)).setCell ⟨g_o, 3, none⟩ (.int .i64 f)).setCell ⟨g_o, 4, none⟩ (.bool z)).drew) from (((((B4.out.setCell l_o (.int .i64 n)).setCell l_o (.string (d.extract m d.size))).setCell l_o (.slice a2 rs.length cap2)).setCell l_o (.int .i64 f)).setCell l_o (.bool z)).drew)
    have Np5 := Lib.hid (own_drewn (own_setn (own_setn (own_setn (own_setn (own_setn Np4.out (g := g_o) (k := 0) m_p_o (.int .i64 n)) (g := g_o) (k := 1) m_p_o (.string (d.extract m d.size))) (g := g_o) (k := 2) m_p_o (.slice a2 rs.length cap2)) (g := g_o) (k := 3) m_p_o (.int .i64 f)) (g := g_o) (k := 4) m_p_o (.bool z)))
    refine hK.out _ _ ⟨Kl5.out, Kx5.out⟩ (fun hS => ?_)
    clear hK K B4 co0 co1 co2 co3 co4 do0 do1 do2 do3 do4 Kl4 Ko4 Kx4 Np4
    generalize (((((v4.setCell ⟨g_o, 0, none⟩ (.int .i64 n)).setCell ⟨g_o, 1, none⟩ (.string (d.extract m d.size))).setCell ⟨g_o, 2, none⟩ (.slice a2 rs.length cap2)).setCell ⟨g_o, 3, none⟩ (.int .i64 f)).setCell ⟨g_o, 4, none⟩ (.bool z)).drew = v5 at hS Kl5 Ko5 Kx5 B5 Np5 ⊢
    refine wpAnyH_take (i := 6) (v := .string (d.extract 0 m)) rfl (by kernel_rfl) (by kernel_rfl) (by kernel_rfl) (fun _ _ _ h => h) (Or.inl ⟨rfl, by intro w hS; go_simp⟩) hS ?_
    refine wpAnyH_done (by kernel_rfl) ?_ _
    refine NoPanic.normal ?_
    obtain ⟨⟨co0, co1, co2, co3, co4⟩, do0, do1, do2, do3, do4⟩ := Ko5.out.of5
    go_wp2_with fail
    refine bodyPost_ret (v := .tuple #[.agg #[.int .i64 n, .string (d.extract m d.size), .slice a2 rs.length cap2, .int .i64 f, .bool z], .string (d.extract 0 m)]) (by simp [results, Try.results20, go_sem, co0, co1, co2, co3, co4]) rfl ⟨_, _, rfl, ?_, ?_⟩
    · exact own_down Np5.out hz0
    · exact B5.out
end Go.Proofs.Ytpbnkkgfjmkcdaa
namespace Go.Proofs.Ytpbnkkgfjmkcdaa
open Go.RowKit Go.Lib

theorem made_zero (k : Nat) : (madeCells (Value.int IntKind.u8 0).cells (k * 1)).toList = byteCells (List.replicate k (0 : UInt8)) := by
  apply List.ext_getElem?
  intro j
  by_cases hj : j < k
  · simp [madeCells, byteCells, hj, Value.cells, Nat.mod_one]
  · simp [madeCells, byteCells, hj]

set_option maxHeartbeats 400000 in
theorem l5Long_any (k : Nat) (hk : k ≤ 1000000) (w : World) :
    Calls Try.prog 62 #[.int .i64 k] w fun e w' => ∃ b : ByteArray, e = .returned (.string b) ∧ b.size = k ∧ Below w.heap.size w w' := by
  obtain ⟨i0, hi, hz0, hz1, hz2⟩ := info_parts Try.info5
  go_enter Try.func62, Try.ntmps62
  go_wp2_with (at_make; refine wpList_make_full _ rfl _ _ _ rfl w.heap.size 5 i0 _ 1 Try.underlying22 hi hz0 hz1 _ _ _ _ k rfl rfl rfl rfl (by rw [hz2]; omega) (by unfold maxLen; omega) (Nat.le_refl _) ?_; intro w1 hown hgrow; rw [made_zero] at hown; have hcv := run_string_own (P := Try.prog) Try.underlying22 Try.underlying5 Try.underlying9 hown)
  go_ret
  exact ⟨_, rfl, by simp [ByteArray.size], below_made hgrow⟩
end Go.Proofs.Ytpbnkkgfjmkcdaa
namespace Go.Proofs.Ytpbnkkgfjmkcdaa
open Go.RowKit Go.Lib

/-- The bounds of a drawn receiver, bent or not. -/
def RBd (d : ByteArray) (rs : List HP) : Prop := d.size ≤ 33 ∧ rs.length ≤ 4 ∧ ∀ p ∈ rs, p.t.size ≤ 32
theorem RBd.rb {d : ByteArray} {rs : List HP} (h : RBd d rs) : RB d rs := ⟨by have := h.1; omega, by have := h.2.1; omega, fun p hp => by have := h.2.2 p hp; omega⟩
/-- A drawn receiver, perhaps bent; only the cursor has turned. -/
def RcvBent (w : World) (B g : Nat) (e : Ending) (w' : World) : Prop :=
  ∃ (n : Int) (d : ByteArray) (rs : List HP) (f : Int) (z : Bool) (a : Option Addr) (cap : Nat), e = .returned (.agg #[.int .i64 n, .string d, .slice a rs.length cap, .int .i64 f, .bool z]) ∧ RBd d rs ∧ w'.ownsRow w.heap.size 64 2 (.slice a rs.length cap) rs.length (hps rs) ∧ CurB w' B g ∧ w.grownBy w' (some g)
theorem rbd_app {rs : List HP} {o : Int} {t : ByteArray} (h : rs.length ≤ 3) (h1 : ∀ p ∈ rs, p.t.size ≤ 32) (ht : t.size ≤ 2) : (rs ++ [(⟨o, t⟩ : HP)]).length ≤ 4 ∧ ∀ p ∈ rs ++ [(⟨o, t⟩ : HP)], p.t.size ≤ 32 := by
  refine ⟨by simp; omega, fun p hp => ?_⟩
  rcases List.mem_append.1 hp with h2 | h2
  · exact h1 p h2
  · rw [List.mem_singleton.1 h2]; show t.size ≤ 32; omega
def strCs : Array Value := #[.string ⟨#[]⟩, .string ⟨#[120]⟩, .string ⟨#[121, 122]⟩]
theorem strCs_bd : ∀ v ∈ strCs.toList, ∃ x : ByteArray, v = .string x ∧ x.size ≤ 2 := by
  intro v hv
  simp only [strCs, List.mem_cons, List.mem_nil_iff, or_false] at hv
  rcases hv with rfl | rfl | rfl <;> exact ⟨_, rfl, by decide⟩
def finCs : Array Value := #[.int .i64 (-2), .int .i64 (-1), .int .i64 0, .int .i64 5, .int .i64 32, .int .i64 33]
theorem finCs_bd : ∀ v ∈ finCs.toList, ∃ x, v = .int .i64 x ∧ I64 x := by
  intro v hv
  simp only [finCs, List.mem_cons, List.mem_nil_iff, or_false] at hv
  unfold I64
  rcases hv with rfl | rfl | rfl | rfl | rfl | rfl <;> exact ⟨_, rfl, by decide⟩
theorem pickFin (B g : Nat) (w : World) (hc : CurB w B g) : Calls Try.prog 50 #[.pointer (some ⟨g, 0, none⟩), .slice (some ⟨w.heap.size, 0, none⟩) 6 6] (w.alloc (.cells finCs 3)) (WholeEnd w B g) :=
  pickNew B g w hc finCs (by decide) (by decide) finCs_bd
def offCs : Array Value := #[.int .i64 0, .int .i64 1, .int .i64 20, .int .i64 31, .int .i64 32, .int .i64 (-1), .int .i64 9223372036854775807]
theorem offCs_bd : ∀ v ∈ offCs.toList, ∃ x, v = .int .i64 x ∧ I64 x := by
  intro v hv
  simp only [offCs, List.mem_cons, List.mem_nil_iff, or_false] at hv
  unfold I64
  rcases hv with rfl | rfl | rfl | rfl | rfl | rfl | rfl <;> exact ⟨_, rfl, by decide⟩

set_option maxRecDepth 100000 in
set_option maxHeartbeats 8000000 in
theorem l18Bent_any (B g : Nat) (w : World) (hc : CurB w B g) : Calls Try.prog 29 #[.pointer (some ⟨g, 0, none⟩)] w (RcvBent w B g) := by
  obtain ⟨i0, hi, hz0, hz1, hz2⟩ := info_parts Try.info64
  go_enter Try.func29, Try.ntmps29
  have hlt := hc.lt
  have hBg := hc.1
  have C0 := Lib.hid (show CurB (w.alloc (.cells #[.int .i64 0, .string ⟨#[]⟩, .slice none 0 0, .int .i64 0, .bool false] 26)) B g from (hc.new (.cells #[.int .i64 0, .string ⟨#[]⟩, .slice none 0 0, .int .i64 0, .bool false] 26)))
  have G0 := Lib.hid (show w.grownBy (w.alloc (.cells #[.int .i64 0, .string ⟨#[]⟩, .slice none 0 0, .int .i64 0, .bool false] 26)) (some g) from (grown_new (World.grownBy.refl w (some g)) (.cells #[.int .i64 0, .string ⟨#[]⟩, .slice none 0 0, .int .i64 0, .bool false] 26)))
  clear hc
  have KR0 := Lib.hid (show Blk (w.alloc (.cells #[.int .i64 0, .string ⟨#[]⟩, .slice none 0 0, .int .i64 0, .bool false] 26)) (w.heap.size) [.int .i64 0, .string ⟨#[]⟩, .slice none 0 0, .int .i64 0, .bool false] from ((Blk.new w [.int .i64 0, .string ⟨#[]⟩, .slice none 0 0, .int .i64 0, .bool false] 26)))
  go_upto_region 1 with fail
  generalize w.alloc (.cells #[.int .i64 0, .string ⟨#[]⟩, .slice none 0 0, .int .i64 0, .bool false] 26) = v0 at C0 G0 KR0 ⊢
  generalize hh_R : w.heap.size = g_R at KR0 ⊢
  have l_R : w.heap.size ≤ g_R := by omega
  have b_R : B ≤ g_R := by omega
  have c_R : g_R ≠ g := by omega
  clear hh_R
  go_wp2_with fail
  refine (l18Receiver_any B g v0 C0.out).mono ?_
  rintro e v1 ⟨n, d, rs, f, z, a, cap, rfl, hok, ho, hcu, hgr⟩
  have hgb : g < v0.heap.size := C0.out.lt
  have hRb : g_R < v0.heap.size := KR0.out.lt
  have hwb : w.heap.size ≤ v0.heap.size := G0.out.size
  have Dp1 := Lib.hid (show DrnP v0.heap.size g a cap rs v1 from ⟨ho, hgb⟩)
  have hpl := Dp1.out.apart
  have hv0 : v0.heap.size ≤ v1.heap.size := hgr.size
  have hb := (rb_ok hok).2
  have HB := Lib.hid hb
  have hd32 : d.size ≤ 32 := hb.1
  have hr3 : rs.length ≤ 3 := hb.2.1
  clear ho hok hb
  have KR1 := Lib.hid (KR0.out.grown hgr c_R)
  have G1 := Lib.hid (grown_tr G0.out hgr)
  have C1 := Lib.hid hcu
  clear hcu hgr KR0 G0 C0
  have KR2 := Lib.hid (KR1.out.alloc (.cells #[.int .i64 n, .string d, .slice a rs.length cap, .int .i64 f, .bool z] 26))
  have n_R_K : g_R ≠ v1.heap.size := by have h1 := KR1.out.lt; omega
  have Dp2 := Lib.hid (Dp1.out.alloc (.cells #[.int .i64 n, .string d, .slice a rs.length cap, .int .i64 f, .bool z] 26))
  have KK2 := Lib.hid (Blk.new v1 [.int .i64 n, .string d, .slice a rs.length cap, .int .i64 f, .bool z] 26)
  have G2 := Lib.hid (grown_new G1.out (.cells #[.int .i64 n, .string d, .slice a rs.length cap, .int .i64 f, .bool z] 26))
  have C2 := Lib.hid (C1.out.new (.cells #[.int .i64 n, .string d, .slice a rs.length cap, .int .i64 f, .bool z] 26))
  have l_K : w.heap.size ≤ v1.heap.size := G1.out.size
  have c_K : v1.heap.size ≠ g := Nat.ne_of_gt C1.out.lt
  have b_K : B ≤ v1.heap.size := by have h1 := C1.out.lt; omega
  clear KR1 Dp1 G1 C1
  obtain ⟨⟨cR0, cR1, cR2, cR3, cR4⟩, dR0, dR1, dR2, dR3, dR4⟩ := KR2.out.of5
  obtain ⟨⟨cK0, cK1, cK2, cK3, cK4⟩, dK0, dK1, dK2, dK3, dK4⟩ := KK2.out.of5
  go_wp2_with fail
  clear cR0 cR1 cR2 cR3 cR4 dR0 dR1 dR2 dR3 dR4 cK0 cK1 cK2 cK3 cK4 dK0 dK1 dK2 dK3 dK4
  generalize v1.alloc (.cells #[.int .i64 n, .string d, .slice a rs.length cap, .int .i64 f, .bool z] 26) = v2 at KR2 KK2 Dp2 C2 G2 ⊢
  generalize hh : v1.heap.size = g_K at KK2 l_K c_K b_K n_R_K  hpl hv0 ⊢
  clear hh
  refine (l1Below_pos B g v2 C2.out 12 (by omega) (by omega)).mono ?_
  rintro e v3 ⟨s, rfl, hs, hcu, hgr⟩
  have KR3 := Lib.hid (KR2.out.grown hgr c_R)
  have KK3 := Lib.hid (KK2.out.grown hgr c_K)
  have Dp3 := Lib.hid (Dp2.out.grown hgr)
  have G3 := Lib.hid (grown_tr G2.out hgr)
  have C3 := Lib.hid hcu
  clear hcu hgr KR2 KK2 Dp2 G2 C2
  by_cases h0 : s = 0
  case pos =>
    subst h0
    obtain ⟨⟨cR0, cR1, cR2, cR3, cR4⟩, dR0, dR1, dR2, dR3, dR4⟩ := KR3.out.of5
    obtain ⟨⟨cK0, cK1, cK2, cK3, cK4⟩, dK0, dK1, dK2, dK3, dK4⟩ := KK3.out.of5
    go_wp2_with fail
    clear cR0 cR1 cR2 cR3 cR4 dR0 dR1 dR2 dR3 dR4 cK0 cK1 cK2 cK3 cK4 dK0 dK1 dK2 dK3 dK4
    refine (l2Word_any B g v3 C3.out).mono ?_
    rintro e v4 ⟨x, rfl, hx, hcu, hgr⟩
    clear hx
    have KR4 := Lib.hid (KR3.out.grown hgr c_R)
    have KK4 := Lib.hid (KK3.out.grown hgr c_K)
    have Dp4 := Lib.hid (Dp3.out.grown hgr)
    have G4 := Lib.hid (grown_tr G3.out hgr)
    have C4 := Lib.hid hcu
    clear hcu hgr KR3 KK3 Dp3 G3 C3
    obtain ⟨⟨cR0, cR1, cR2, cR3, cR4⟩, dR0, dR1, dR2, dR3, dR4⟩ := KR4.out.of5
    obtain ⟨⟨cK0, cK1, cK2, cK3, cK4⟩, dK0, dK1, dK2, dK3, dK4⟩ := KK4.out.of5
    go_wp2_with fail
    exact bodyPost_ret (v := .agg #[.int .i64 x, .string d, .slice a rs.length cap, .int .i64 f, .bool z]) (by simp [results, Try.results29, go_sem, cR0, cR1, cR2, cR3, cR4]) rfl ⟨x, d, rs, f, z, a, cap, rfl, ⟨by omega, by omega, HB.out.2.2⟩, own_down ((((((Dp4.out.set 0 _ (.inr hpl)).set 0 _ (.inl hRb)).set 1 _ (.inl hRb)).set 2 _ (.inl hRb)).set 3 _ (.inl hRb)).set 4 _ (.inl hRb)).1 hwb, ((((((C4.out.setOther _ _ b_K c_K).setOther _ _ b_R c_R).setOther _ _ b_R c_R).setOther _ _ b_R c_R).setOther _ _ b_R c_R).setOther _ _ b_R c_R), (grown_setNew (grown_setNew (grown_setNew (grown_setNew (grown_setNew (grown_setNew G4.out _ _ l_K) _ _ l_R) _ _ l_R) _ _ l_R) _ _ l_R) _ _ l_R)⟩
  have h0' : (s == 0) = false := by simp [h0]
  by_cases h1 : s = 1
  case pos =>
    subst h1
    obtain ⟨⟨cR0, cR1, cR2, cR3, cR4⟩, dR0, dR1, dR2, dR3, dR4⟩ := KR3.out.of5
    obtain ⟨⟨cK0, cK1, cK2, cK3, cK4⟩, dK0, dK1, dK2, dK3, dK4⟩ := KK3.out.of5
    go_wp2_with fail
    clear cR0 cR1 cR2 cR3 cR4 dR0 dR1 dR2 dR3 dR4 cK0 cK1 cK2 cK3 cK4 dK0 dK1 dK2 dK3 dK4
    refine (pickFin B g v3 C3.out).mono ?_
    rintro e v4 ⟨x, rfl, hx, hcu, hgr⟩
    clear hx
    have KR4 := Lib.hid (KR3.out.grown hgr c_R)
    have KK4 := Lib.hid (KK3.out.grown hgr c_K)
    have Dp4 := Lib.hid (Dp3.out.grown hgr)
    have G4 := Lib.hid (grown_tr G3.out hgr)
    have C4 := Lib.hid hcu
    clear hcu hgr KR3 KK3 Dp3 G3 C3
    obtain ⟨⟨cR0, cR1, cR2, cR3, cR4⟩, dR0, dR1, dR2, dR3, dR4⟩ := KR4.out.of5
    obtain ⟨⟨cK0, cK1, cK2, cK3, cK4⟩, dK0, dK1, dK2, dK3, dK4⟩ := KK4.out.of5
    go_wp2_with fail
    exact bodyPost_ret (v := .agg #[.int .i64 n, .string d, .slice a rs.length cap, .int .i64 x, .bool z]) (by simp [results, Try.results29, go_sem, cR0, cR1, cR2, cR3, cR4]) rfl ⟨n, d, rs, x, z, a, cap, rfl, ⟨by omega, by omega, HB.out.2.2⟩, own_down ((((((Dp4.out.set 3 _ (.inr hpl)).set 0 _ (.inl hRb)).set 1 _ (.inl hRb)).set 2 _ (.inl hRb)).set 3 _ (.inl hRb)).set 4 _ (.inl hRb)).1 hwb, ((((((C4.out.setOther _ _ b_K c_K).setOther _ _ b_R c_R).setOther _ _ b_R c_R).setOther _ _ b_R c_R).setOther _ _ b_R c_R).setOther _ _ b_R c_R), (grown_setNew (grown_setNew (grown_setNew (grown_setNew (grown_setNew (grown_setNew G4.out _ _ l_K) _ _ l_R) _ _ l_R) _ _ l_R) _ _ l_R) _ _ l_R)⟩
  have h1' : (s == 1) = false := by simp [h1]
  by_cases h2 : s = 2
  case pos =>
    subst h2
    obtain ⟨⟨cR0, cR1, cR2, cR3, cR4⟩, dR0, dR1, dR2, dR3, dR4⟩ := KR3.out.of5
    obtain ⟨⟨cK0, cK1, cK2, cK3, cK4⟩, dK0, dK1, dK2, dK3, dK4⟩ := KK3.out.of5
    go_wp2_with fail
    exact bodyPost_ret (v := .agg #[.int .i64 n, .string d, .slice a rs.length cap, .int .i64 f, .bool (!z)]) (by simp [results, Try.results29, go_sem, cR0, cR1, cR2, cR3, cR4]) rfl ⟨n, d, rs, f, (!z), a, cap, rfl, ⟨by omega, by omega, HB.out.2.2⟩, own_down ((((((Dp3.out.set 4 _ (.inr hpl)).set 0 _ (.inl hRb)).set 1 _ (.inl hRb)).set 2 _ (.inl hRb)).set 3 _ (.inl hRb)).set 4 _ (.inl hRb)).1 hwb, ((((((C3.out.setOther _ _ b_K c_K).setOther _ _ b_R c_R).setOther _ _ b_R c_R).setOther _ _ b_R c_R).setOther _ _ b_R c_R).setOther _ _ b_R c_R), (grown_setNew (grown_setNew (grown_setNew (grown_setNew (grown_setNew (grown_setNew G3.out _ _ l_K) _ _ l_R) _ _ l_R) _ _ l_R) _ _ l_R) _ _ l_R)⟩
  have h2' : (s == 2) = false := by simp [h2]
  by_cases h3 : s = 3
  case pos =>
    subst h3
    obtain ⟨⟨cR0, cR1, cR2, cR3, cR4⟩, dR0, dR1, dR2, dR3, dR4⟩ := KR3.out.of5
    obtain ⟨⟨cK0, cK1, cK2, cK3, cK4⟩, dK0, dK1, dK2, dK3, dK4⟩ := KK3.out.of5
    go_upto_region 10 with fail
    clear cR0 cR1 cR2 cR3 cR4 dR0 dR1 dR2 dR3 dR4 cK0 cK1 cK2 cK3 cK4 dK0 dK1 dK2 dK3 dK4
    refine wp_region_noPanic ?_
    refine wp_region_till (S := fun w' => Blk w' g_K [.int .i64 n, .string d, .slice a rs.length cap, .int .i64 f, .bool z]) 12 (by kernel_rfl) KK3.out (fun hS => ?_)
    have KR4 := Lib.hid (show Blk v3.drew g_R [.int .i64 0, .string ⟨#[]⟩, .slice none 0 0, .int .i64 0, .bool false] from KR3.out.drew)
    have KK4 := Lib.hid (show Blk v3.drew g_K [.int .i64 n, .string d, .slice a rs.length cap, .int .i64 f, .bool z] from KK3.out.drew)
    have Dp4 := Lib.hid (Dp3.out.below (Below.refl _ v3).drew)
    have C4 := Lib.hid (show CurB v3.drew _ g from C3.out.below (Below.refl _ _).drew)
    have G4 := Lib.hid (show w.grownBy v3.drew (some g) from grown_tr G3.out (below_any (Below.refl _ v3).drew))
    clear KR3 KK3 Dp3 C3 G3
    clear hS
    generalize v3.drew = v4 at KR4 KK4 Dp4 C4 G4 ⊢
    refine wpTill_takeU (i := 0) (v := .pointer (some ⟨g_K, 2, none⟩)) rfl (by kernel_rfl) (by kernel_rfl) (by kernel_rfl) (by kernel_rfl) (fun _ _ _ h => h) (Or.inl ⟨by kernel_rfl, by intro w _; go_simp⟩) (fun _ => KK4.out) ?_
    refine wpTill_take (i := 1) (v := .slice a rs.length cap) rfl (by kernel_rfl) (by kernel_rfl) (by kernel_rfl) (by kernel_rfl) (by kernel_rfl) (by kernel_rfl) (fun _ _ _ h => h) (Or.inl ⟨by kernel_rfl, by intro w hS; obtain ⟨⟨h0, h1, h2, h3, h4⟩, _⟩ := hS.of5; go_simp⟩) (fun _ => KK4.out) ?_
    refine wpTill_takeU (i := 2) (v := .pointer (some ⟨g, 0, none⟩)) rfl (by kernel_rfl) (by kernel_rfl) (by kernel_rfl) (by kernel_rfl) (fun _ _ _ h => h) (Or.inl ⟨by kernel_rfl, by intro w _; go_simp⟩) (fun _ => KK4.out) ?_
    refine wpTill_takeU (i := 5) (v := .pointer (some ⟨g, 0, none⟩)) rfl (by kernel_rfl) (by kernel_rfl) (by kernel_rfl) (by kernel_rfl) (fun _ _ _ h => h) (Or.inl ⟨by kernel_rfl, by intro w _; go_simp⟩) (fun _ => KK4.out) ?_
    refine wpTill_two (i := 3) (j := 6) (by kernel_rfl) rfl rfl (fun K hK => ?zt4) (fun K hK => ?zt5)
    · rw [if_pos (by rfl)]
      go_simp
      have KR5 := Lib.hid (KR4.out.alloc (.cells #[.int .i64 0, .int .i64 1, .int .i64 20, .int .i64 31, .int .i64 32, .int .i64 (-1), .int .i64 9223372036854775807] 3))
      have KK5 := Lib.hid (KK4.out.alloc (.cells #[.int .i64 0, .int .i64 1, .int .i64 20, .int .i64 31, .int .i64 32, .int .i64 (-1), .int .i64 9223372036854775807] 3))
      have Dp5 := Lib.hid (Dp4.out.alloc (.cells #[.int .i64 0, .int .i64 1, .int .i64 20, .int .i64 31, .int .i64 32, .int .i64 (-1), .int .i64 9223372036854775807] 3))
      have Di5 := Lib.hid (HIs.new (.cells #[.int .i64 0, .int .i64 1, .int .i64 20, .int .i64 31, .int .i64 32, .int .i64 (-1), .int .i64 9223372036854775807] 3) v4 C4.out.lt)
      have G5 := Lib.hid (grown_new G4.out (.cells #[.int .i64 0, .int .i64 1, .int .i64 20, .int .i64 31, .int .i64 32, .int .i64 (-1), .int .i64 9223372036854775807] 3))
      have C5 := Lib.hid (C4.out.new (.cells #[.int .i64 0, .int .i64 1, .int .i64 20, .int .i64 31, .int .i64 32, .int .i64 (-1), .int .i64 9223372036854775807] 3))
      refine hK.out _ _ (fun _ => KK5.out) (fun _ => ?_)
      clear hK K
      clear KR4 KK4 Dp4 C4 G4
      generalize v4.alloc (.cells #[.int .i64 0, .int .i64 1, .int .i64 20, .int .i64 31, .int .i64 32, .int .i64 (-1), .int .i64 9223372036854775807] 3) = v5 at KR5 KK5 Dp5 Di5 C5 G5 ⊢
      generalize v4.heap.size = g_i at Di5 ⊢
      refine wpTill_two (i := 4) (j := 6) (by kernel_rfl) rfl rfl (fun K hK => ?zt6) (fun K hK => ?zt7)
      · rw [if_pos (by rfl)]
        go_simp
        refine (l1PickInt_any B g _ _ C5.out #[.int .i64 0, .int .i64 1, .int .i64 20, .int .i64 31, .int .i64 32, .int .i64 (-1), .int .i64 9223372036854775807] Di5.out.1 Di5.out.2 (by decide) (by decide) (fun v hv => (offCs_bd v hv).imp fun _ h => h.1)).mono ?_
        rintro e v6 ⟨pv, hpv, rfl, hcu, hgr⟩
        obtain ⟨ox, rfl, hox⟩ := offCs_bd pv hpv
        clear hpv hox
        have KR6 := Lib.hid (KR5.out.grown hgr c_R)
        have KK6 := Lib.hid (KK5.out.grown hgr c_K)
        have Dp6 := Lib.hid (Dp5.out.grown hgr)
        have Di6 := Lib.hid (Di5.out.grown hgr)
        have G6 := Lib.hid (grown_tr G5.out hgr)
        have C6 := Lib.hid hcu
        clear hcu hgr KR5 KK5 Dp5 Di5 G5 C5
        refine hK.out _ _ (fun _ => KK6.out) (fun _ => ?_)
        clear hK K
        refine wpTill_one (i := 6) (by kernel_rfl) rfl (fun K hK => ?zt8)
        rw [if_pos (by rfl)]
        go_simp
        have KR7 := Lib.hid (KR6.out.alloc (.cells #[.string ⟨#[]⟩, .string ⟨#[120]⟩, .string ⟨#[121, 122]⟩] 9))
        have KK7 := Lib.hid (KK6.out.alloc (.cells #[.string ⟨#[]⟩, .string ⟨#[120]⟩, .string ⟨#[121, 122]⟩] 9))
        have Dp7 := Lib.hid (Dp6.out.alloc (.cells #[.string ⟨#[]⟩, .string ⟨#[120]⟩, .string ⟨#[121, 122]⟩] 9))
        have Di7 := Lib.hid (Di6.out.alloc (.cells #[.string ⟨#[]⟩, .string ⟨#[120]⟩, .string ⟨#[121, 122]⟩] 9))
        have Dj7 := Lib.hid (HIs.new (.cells #[.string ⟨#[]⟩, .string ⟨#[120]⟩, .string ⟨#[121, 122]⟩] 9) v6 C6.out.lt)
        have G7 := Lib.hid (grown_new G6.out (.cells #[.string ⟨#[]⟩, .string ⟨#[120]⟩, .string ⟨#[121, 122]⟩] 9))
        have C7 := Lib.hid (C6.out.new (.cells #[.string ⟨#[]⟩, .string ⟨#[120]⟩, .string ⟨#[121, 122]⟩] 9))
        refine hK.out _ _ (fun _ => KK7.out) (fun _ => ?_)
        clear hK K
        clear KR6 KK6 Dp6 Di6 C6 G6
        generalize v6.alloc (.cells #[.string ⟨#[]⟩, .string ⟨#[120]⟩, .string ⟨#[121, 122]⟩] 9) = v7 at KR7 KK7 Dp7 Di7 Dj7 C7 G7 ⊢
        generalize v6.heap.size = g_j at Dj7 ⊢
        refine wpTill_one (i := 7) (by kernel_rfl) rfl (fun K hK => ?zt9)
        rw [if_pos (by rfl)]
        go_simp
        refine (l1Pick_any B g _ _ C7.out #[.string ⟨#[]⟩, .string ⟨#[120]⟩, .string ⟨#[121, 122]⟩] Dj7.out.1 Dj7.out.2 (by decide) (by decide) (fun v hv => (strCs_bd v hv).imp fun _ h => h.1)).mono ?_
        rintro e v8 ⟨pv, hpv, rfl, hcu, hgr⟩
        obtain ⟨tx, rfl, htx⟩ := strCs_bd pv hpv
        clear hpv
        have KR8 := Lib.hid (KR7.out.grown hgr c_R)
        have KK8 := Lib.hid (KK7.out.grown hgr c_K)
        have Dp8 := Lib.hid (Dp7.out.grown hgr)
        have Di8 := Lib.hid (Di7.out.grown hgr)
        have Dj8 := Lib.hid (Dj7.out.grown hgr)
        have G8 := Lib.hid (grown_tr G7.out hgr)
        have C8 := Lib.hid hcu
        clear hcu hgr KR7 KK7 Dp7 Di7 Dj7 G7 C7
        refine hK.out _ _ (fun _ => KK8.out) (fun _ => ?_)
        clear hK K
        clear Di8 Dj8
        refine wpTill_takeU (i := 8) (v := .agg #[.int .i64 ox, .string tx]) rfl (by kernel_rfl) (by kernel_rfl) (by kernel_rfl) (by kernel_rfl) (fun _ _ _ h => h) (Or.inl ⟨by kernel_rfl, by intro w _; go_simp⟩) (fun _ => KK8.out) ?_
        refine wpTill_one (i := 9) (by kernel_rfl) rfl (fun K hK => ?zt10)
        rw [if_pos (by rfl)]
        go_simp
        have KR9 := Lib.hid (KR8.out.alloc (.cells #[.int .i64 ox, .string tx] 64))
        have KK9 := Lib.hid (KK8.out.alloc (.cells #[.int .i64 ox, .string tx] 64))
        have Dp9 := Lib.hid (Dp8.out.alloc (.cells #[.int .i64 ox, .string tx] 64))
        have De9 := Lib.hid (HIs.new (.cells #[.int .i64 ox, .string tx] 64) v8 C8.out.lt)
        have G9 := Lib.hid (grown_new G8.out (.cells #[.int .i64 ox, .string tx] 64))
        have C9 := Lib.hid (C8.out.new (.cells #[.int .i64 ox, .string tx] 64))
        refine hK.out _ _ (fun _ => KK9.out) (fun _ => ?_)
        clear hK K
        clear KR8 KK8 Dp8 C8 G8
        generalize v8.alloc (.cells #[.int .i64 ox, .string tx] 64) = v9 at KR9 KK9 Dp9 De9 C9 G9 ⊢
        generalize v8.heap.size = g_e at De9 ⊢
        refine wpTill_one (i := 10) (by kernel_rfl) rfl (fun K hK => ?zt11)
        have hsz := Nat.le_trans hv0 (Nat.le_of_lt KK9.out.lt)
        refine step_append_lies _ rfl _ _ _ rfl v0.heap.size 64 i0 _ 2 24 Try.underlying24 hi hz0 hz1 hz2 rfl (by omega) _ rs.length _ rfl Dp9.out.1 ⟨g_e, 0, none⟩ 1 1 [.int .i64 ox, .string tx] rfl rfl (World.news_of_block (cs := #[.int .i64 ox, .string tx]) (t := 64) (fr := (0, 0)) De9.out.1) (by simp [Value.oneCell']) (by omega) (by unfold maxLen; omega) (by omega) hsz _ rfl ?_
        intro gg cp v10 hown hgrow hat hlt_
        have hk := app_keepsR C9.out hgb hwb G9.out Dp9.out.1 hgrow
        have C10 := Lib.hid hk.1
        have G10 := Lib.hid hk.2
        have KK10 := Lib.hid (blk_row KK9.out hgrow (fun e => hpl e.symm))
        have KR10 := Lib.hid (blk_row KR9.out hgrow (fun e => by have := (Dp9.out.1.lt _ e.symm).1; omega))
        have Dp10 := Lib.hid (show DrnP v0.heap.size g (some ⟨gg, 0, none⟩) cp (rs ++ [⟨ox, tx⟩]) v10 from ⟨by rw [List.length_append, hps_append]; exact hown, hgb⟩)
        have hpl2 : (Value.slice (some ⟨gg, 0, none⟩) (rs ++ [(⟨ox, tx⟩ : HP)]).length cp).ownBlock ≠ some g_K := own_ne (fun e => by rcases hat with h | h; exact hpl (h.trans (by rw [e])); have := KK9.out.lt; omega)
        have hl2 : (rs ++ [(⟨ox, tx⟩ : HP)]).length = rs.length + 1 := by simp
        clear hk hown hgrow hat hlt_ hsz Dp9 De9 C9 G9 KK9 KR9
        refine hK.out _ _ (fun _ => KK10.out) (fun _ => ?_)
        clear hK K
        refine wpTill_takeU (i := 11) (v := .pointer (some ⟨g_K, 2, none⟩)) rfl (by kernel_rfl) (by kernel_rfl) (by kernel_rfl) (by kernel_rfl) (fun _ _ _ h => h) (Or.inl ⟨by kernel_rfl, by intro w _; go_simp⟩) (fun _ => KK10.out) ?_
        rw [← hl2]
        generalize hrs : rs ++ [(⟨ox, tx⟩ : HP)] = rs2 at hl2 hpl2 Dp10 ⊢
        have hbd := rbd_app (o := ox) hr3 HB.out.2.2 htx
        rw [hrs] at hbd
        have HB2 := Lib.hid hbd
        clear hbd hrs htx hl2
        obtain ⟨⟨cK0, cK1, cK2, cK3, cK4⟩, dK0, dK1, dK2, dK3, dK4⟩ := KK10.out.of5
        refine wpTill_store (by kernel_rfl) rfl (by kernel_rfl) (fun K hK => ?zt12)
        rw [if_pos (by rfl)]
        go_simp
        have KR11 := Lib.hid (show Blk (v10.setCell ⟨g_K, 2, none⟩ (.slice (some ⟨gg, 0, none⟩) rs2.length cp)) g_R [.int .i64 0, .string ⟨#[]⟩, .slice none 0 0, .int .i64 0, .bool false] from (KR10.out.setOther ⟨g_K, 2, none⟩ (.slice (some ⟨gg, 0, none⟩) rs2.length cp) (n_R_K)))
        have KK11 := Lib.hid (show Blk (v10.setCell ⟨g_K, 2, none⟩ (.slice (some ⟨gg, 0, none⟩) rs2.length cp)) g_K [.int .i64 n, .string d, .slice (some ⟨gg, 0, none⟩) rs2.length cp, .int .i64 f, .bool z] from (KK10.out.set 2 (.slice (some ⟨gg, 0, none⟩) rs2.length cp)))
        have Dp11 := Lib.hid (Dp10.out.set 2 (.slice (some ⟨gg, 0, none⟩) rs2.length cp) (.inr hpl2))
        have G11 := Lib.hid (grown_setNew G10.out ⟨g_K, 2, none⟩ (.slice (some ⟨gg, 0, none⟩) rs2.length cp) l_K)
        have C11 := Lib.hid (C10.out.setOther ⟨g_K, 2, none⟩ (.slice (some ⟨gg, 0, none⟩) rs2.length cp) b_K c_K)
        refine hK.out _ _ ?_
        clear hK K KR10 KK10 Dp10 C10 G10
        clear cK0 cK1 cK2 cK3 cK4 dK0 dK1 dK2 dK3 dK4
        generalize v10.setCell ⟨g_K, 2, none⟩ (.slice (some ⟨gg, 0, none⟩) rs2.length cp) = v11 at KR11 KK11 Dp11 C11 G11 ⊢
        refine wpTill_done (by kernel_rfl) ?_ _
        refine NoPanic.normal ?_
        obtain ⟨⟨cR0, cR1, cR2, cR3, cR4⟩, dR0, dR1, dR2, dR3, dR4⟩ := KR11.out.of5
        obtain ⟨⟨cK0, cK1, cK2, cK3, cK4⟩, dK0, dK1, dK2, dK3, dK4⟩ := KK11.out.of5
        go_wp2_with fail
        exact bodyPost_ret (v := .agg #[.int .i64 n, .string d, .slice (some ⟨gg, 0, none⟩) rs2.length cp, .int .i64 f, .bool z]) (by simp [results, Try.results29, go_sem, cR0, cR1, cR2, cR3, cR4]) rfl ⟨n, d, rs2, f, z, (some ⟨gg, 0, none⟩), cp, rfl, ⟨by omega, HB2.out⟩, own_down (((((Dp11.out.set 0 _ (.inl hRb)).set 1 _ (.inl hRb)).set 2 _ (.inl hRb)).set 3 _ (.inl hRb)).set 4 _ (.inl hRb)).1 hwb, (((((C11.out.setOther _ _ b_R c_R).setOther _ _ b_R c_R).setOther _ _ b_R c_R).setOther _ _ b_R c_R).setOther _ _ b_R c_R), (grown_setNew (grown_setNew (grown_setNew (grown_setNew (grown_setNew G11.out _ _ l_R) _ _ l_R) _ _ l_R) _ _ l_R) _ _ l_R)⟩
      · rw [if_pos (by rfl)]
        go_simp
        have KR6 := Lib.hid (KR5.out.alloc (.cells #[.string ⟨#[]⟩, .string ⟨#[120]⟩, .string ⟨#[121, 122]⟩] 9))
        have KK6 := Lib.hid (KK5.out.alloc (.cells #[.string ⟨#[]⟩, .string ⟨#[120]⟩, .string ⟨#[121, 122]⟩] 9))
        have Dp6 := Lib.hid (Dp5.out.alloc (.cells #[.string ⟨#[]⟩, .string ⟨#[120]⟩, .string ⟨#[121, 122]⟩] 9))
        have Di6 := Lib.hid (Di5.out.alloc (.cells #[.string ⟨#[]⟩, .string ⟨#[120]⟩, .string ⟨#[121, 122]⟩] 9))
        have Dj6 := Lib.hid (HIs.new (.cells #[.string ⟨#[]⟩, .string ⟨#[120]⟩, .string ⟨#[121, 122]⟩] 9) v5 C5.out.lt)
        have G6 := Lib.hid (grown_new G5.out (.cells #[.string ⟨#[]⟩, .string ⟨#[120]⟩, .string ⟨#[121, 122]⟩] 9))
        have C6 := Lib.hid (C5.out.new (.cells #[.string ⟨#[]⟩, .string ⟨#[120]⟩, .string ⟨#[121, 122]⟩] 9))
        refine hK.out _ _ (fun _ => KK6.out) (fun _ => ?_)
        clear hK K
        clear KR5 KK5 Dp5 Di5 C5 G5
        generalize v5.alloc (.cells #[.string ⟨#[]⟩, .string ⟨#[120]⟩, .string ⟨#[121, 122]⟩] 9) = v6 at KR6 KK6 Dp6 Di6 Dj6 C6 G6 ⊢
        generalize v5.heap.size = g_j at Dj6 ⊢
        refine wpTill_one (i := 4) (by kernel_rfl) rfl (fun K hK => ?zt13)
        rw [if_pos (by rfl)]
        go_simp
        refine (l1PickInt_any B g _ _ C6.out #[.int .i64 0, .int .i64 1, .int .i64 20, .int .i64 31, .int .i64 32, .int .i64 (-1), .int .i64 9223372036854775807] Di6.out.1 Di6.out.2 (by decide) (by decide) (fun v hv => (offCs_bd v hv).imp fun _ h => h.1)).mono ?_
        rintro e v7 ⟨pv, hpv, rfl, hcu, hgr⟩
        obtain ⟨ox, rfl, hox⟩ := offCs_bd pv hpv
        clear hpv hox
        have KR7 := Lib.hid (KR6.out.grown hgr c_R)
        have KK7 := Lib.hid (KK6.out.grown hgr c_K)
        have Dp7 := Lib.hid (Dp6.out.grown hgr)
        have Di7 := Lib.hid (Di6.out.grown hgr)
        have Dj7 := Lib.hid (Dj6.out.grown hgr)
        have G7 := Lib.hid (grown_tr G6.out hgr)
        have C7 := Lib.hid hcu
        clear hcu hgr KR6 KK6 Dp6 Di6 Dj6 G6 C6
        refine hK.out _ _ (fun _ => KK7.out) (fun _ => ?_)
        clear hK K
        refine wpTill_one (i := 7) (by kernel_rfl) rfl (fun K hK => ?zt14)
        rw [if_pos (by rfl)]
        go_simp
        refine (l1Pick_any B g _ _ C7.out #[.string ⟨#[]⟩, .string ⟨#[120]⟩, .string ⟨#[121, 122]⟩] Dj7.out.1 Dj7.out.2 (by decide) (by decide) (fun v hv => (strCs_bd v hv).imp fun _ h => h.1)).mono ?_
        rintro e v8 ⟨pv, hpv, rfl, hcu, hgr⟩
        obtain ⟨tx, rfl, htx⟩ := strCs_bd pv hpv
        clear hpv
        have KR8 := Lib.hid (KR7.out.grown hgr c_R)
        have KK8 := Lib.hid (KK7.out.grown hgr c_K)
        have Dp8 := Lib.hid (Dp7.out.grown hgr)
        have Di8 := Lib.hid (Di7.out.grown hgr)
        have Dj8 := Lib.hid (Dj7.out.grown hgr)
        have G8 := Lib.hid (grown_tr G7.out hgr)
        have C8 := Lib.hid hcu
        clear hcu hgr KR7 KK7 Dp7 Di7 Dj7 G7 C7
        refine hK.out _ _ (fun _ => KK8.out) (fun _ => ?_)
        clear hK K
        clear Di8 Dj8
        refine wpTill_takeU (i := 8) (v := .agg #[.int .i64 ox, .string tx]) rfl (by kernel_rfl) (by kernel_rfl) (by kernel_rfl) (by kernel_rfl) (fun _ _ _ h => h) (Or.inl ⟨by kernel_rfl, by intro w _; go_simp⟩) (fun _ => KK8.out) ?_
        refine wpTill_one (i := 9) (by kernel_rfl) rfl (fun K hK => ?zt15)
        rw [if_pos (by rfl)]
        go_simp
        have KR9 := Lib.hid (KR8.out.alloc (.cells #[.int .i64 ox, .string tx] 64))
        have KK9 := Lib.hid (KK8.out.alloc (.cells #[.int .i64 ox, .string tx] 64))
        have Dp9 := Lib.hid (Dp8.out.alloc (.cells #[.int .i64 ox, .string tx] 64))
        have De9 := Lib.hid (HIs.new (.cells #[.int .i64 ox, .string tx] 64) v8 C8.out.lt)
        have G9 := Lib.hid (grown_new G8.out (.cells #[.int .i64 ox, .string tx] 64))
        have C9 := Lib.hid (C8.out.new (.cells #[.int .i64 ox, .string tx] 64))
        refine hK.out _ _ (fun _ => KK9.out) (fun _ => ?_)
        clear hK K
        clear KR8 KK8 Dp8 C8 G8
        generalize v8.alloc (.cells #[.int .i64 ox, .string tx] 64) = v9 at KR9 KK9 Dp9 De9 C9 G9 ⊢
        generalize v8.heap.size = g_e at De9 ⊢
        refine wpTill_one (i := 10) (by kernel_rfl) rfl (fun K hK => ?zt16)
        have hsz := Nat.le_trans hv0 (Nat.le_of_lt KK9.out.lt)
        refine step_append_lies _ rfl _ _ _ rfl v0.heap.size 64 i0 _ 2 24 Try.underlying24 hi hz0 hz1 hz2 rfl (by omega) _ rs.length _ rfl Dp9.out.1 ⟨g_e, 0, none⟩ 1 1 [.int .i64 ox, .string tx] rfl rfl (World.news_of_block (cs := #[.int .i64 ox, .string tx]) (t := 64) (fr := (0, 0)) De9.out.1) (by simp [Value.oneCell']) (by omega) (by unfold maxLen; omega) (by omega) hsz _ rfl ?_
        intro gg cp v10 hown hgrow hat hlt_
        have hk := app_keepsR C9.out hgb hwb G9.out Dp9.out.1 hgrow
        have C10 := Lib.hid hk.1
        have G10 := Lib.hid hk.2
        have KK10 := Lib.hid (blk_row KK9.out hgrow (fun e => hpl e.symm))
        have KR10 := Lib.hid (blk_row KR9.out hgrow (fun e => by have := (Dp9.out.1.lt _ e.symm).1; omega))
        have Dp10 := Lib.hid (show DrnP v0.heap.size g (some ⟨gg, 0, none⟩) cp (rs ++ [⟨ox, tx⟩]) v10 from ⟨by rw [List.length_append, hps_append]; exact hown, hgb⟩)
        have hpl2 : (Value.slice (some ⟨gg, 0, none⟩) (rs ++ [(⟨ox, tx⟩ : HP)]).length cp).ownBlock ≠ some g_K := own_ne (fun e => by rcases hat with h | h; exact hpl (h.trans (by rw [e])); have := KK9.out.lt; omega)
        have hl2 : (rs ++ [(⟨ox, tx⟩ : HP)]).length = rs.length + 1 := by simp
        clear hk hown hgrow hat hlt_ hsz Dp9 De9 C9 G9 KK9 KR9
        refine hK.out _ _ (fun _ => KK10.out) (fun _ => ?_)
        clear hK K
        refine wpTill_takeU (i := 11) (v := .pointer (some ⟨g_K, 2, none⟩)) rfl (by kernel_rfl) (by kernel_rfl) (by kernel_rfl) (by kernel_rfl) (fun _ _ _ h => h) (Or.inl ⟨by kernel_rfl, by intro w _; go_simp⟩) (fun _ => KK10.out) ?_
        rw [← hl2]
        generalize hrs : rs ++ [(⟨ox, tx⟩ : HP)] = rs2 at hl2 hpl2 Dp10 ⊢
        have hbd := rbd_app (o := ox) hr3 HB.out.2.2 htx
        rw [hrs] at hbd
        have HB2 := Lib.hid hbd
        clear hbd hrs htx hl2
        obtain ⟨⟨cK0, cK1, cK2, cK3, cK4⟩, dK0, dK1, dK2, dK3, dK4⟩ := KK10.out.of5
        refine wpTill_store (by kernel_rfl) rfl (by kernel_rfl) (fun K hK => ?zt17)
        rw [if_pos (by rfl)]
        go_simp
        have KR11 := Lib.hid (show Blk (v10.setCell ⟨g_K, 2, none⟩ (.slice (some ⟨gg, 0, none⟩) rs2.length cp)) g_R [.int .i64 0, .string ⟨#[]⟩, .slice none 0 0, .int .i64 0, .bool false] from (KR10.out.setOther ⟨g_K, 2, none⟩ (.slice (some ⟨gg, 0, none⟩) rs2.length cp) (n_R_K)))
        have KK11 := Lib.hid (show Blk (v10.setCell ⟨g_K, 2, none⟩ (.slice (some ⟨gg, 0, none⟩) rs2.length cp)) g_K [.int .i64 n, .string d, .slice (some ⟨gg, 0, none⟩) rs2.length cp, .int .i64 f, .bool z] from (KK10.out.set 2 (.slice (some ⟨gg, 0, none⟩) rs2.length cp)))
        have Dp11 := Lib.hid (Dp10.out.set 2 (.slice (some ⟨gg, 0, none⟩) rs2.length cp) (.inr hpl2))
        have G11 := Lib.hid (grown_setNew G10.out ⟨g_K, 2, none⟩ (.slice (some ⟨gg, 0, none⟩) rs2.length cp) l_K)
        have C11 := Lib.hid (C10.out.setOther ⟨g_K, 2, none⟩ (.slice (some ⟨gg, 0, none⟩) rs2.length cp) b_K c_K)
        refine hK.out _ _ ?_
        clear hK K KR10 KK10 Dp10 C10 G10
        clear cK0 cK1 cK2 cK3 cK4 dK0 dK1 dK2 dK3 dK4
        generalize v10.setCell ⟨g_K, 2, none⟩ (.slice (some ⟨gg, 0, none⟩) rs2.length cp) = v11 at KR11 KK11 Dp11 C11 G11 ⊢
        refine wpTill_done (by kernel_rfl) ?_ _
        refine NoPanic.normal ?_
        obtain ⟨⟨cR0, cR1, cR2, cR3, cR4⟩, dR0, dR1, dR2, dR3, dR4⟩ := KR11.out.of5
        obtain ⟨⟨cK0, cK1, cK2, cK3, cK4⟩, dK0, dK1, dK2, dK3, dK4⟩ := KK11.out.of5
        go_wp2_with fail
        exact bodyPost_ret (v := .agg #[.int .i64 n, .string d, .slice (some ⟨gg, 0, none⟩) rs2.length cp, .int .i64 f, .bool z]) (by simp [results, Try.results29, go_sem, cR0, cR1, cR2, cR3, cR4]) rfl ⟨n, d, rs2, f, z, (some ⟨gg, 0, none⟩), cp, rfl, ⟨by omega, HB2.out⟩, own_down (((((Dp11.out.set 0 _ (.inl hRb)).set 1 _ (.inl hRb)).set 2 _ (.inl hRb)).set 3 _ (.inl hRb)).set 4 _ (.inl hRb)).1 hwb, (((((C11.out.setOther _ _ b_R c_R).setOther _ _ b_R c_R).setOther _ _ b_R c_R).setOther _ _ b_R c_R).setOther _ _ b_R c_R), (grown_setNew (grown_setNew (grown_setNew (grown_setNew (grown_setNew G11.out _ _ l_R) _ _ l_R) _ _ l_R) _ _ l_R) _ _ l_R)⟩
    · rw [if_pos (by rfl)]
      go_simp
      have KR5 := Lib.hid (KR4.out.alloc (.cells #[.string ⟨#[]⟩, .string ⟨#[120]⟩, .string ⟨#[121, 122]⟩] 9))
      have KK5 := Lib.hid (KK4.out.alloc (.cells #[.string ⟨#[]⟩, .string ⟨#[120]⟩, .string ⟨#[121, 122]⟩] 9))
      have Dp5 := Lib.hid (Dp4.out.alloc (.cells #[.string ⟨#[]⟩, .string ⟨#[120]⟩, .string ⟨#[121, 122]⟩] 9))
      have Dj5 := Lib.hid (HIs.new (.cells #[.string ⟨#[]⟩, .string ⟨#[120]⟩, .string ⟨#[121, 122]⟩] 9) v4 C4.out.lt)
      have G5 := Lib.hid (grown_new G4.out (.cells #[.string ⟨#[]⟩, .string ⟨#[120]⟩, .string ⟨#[121, 122]⟩] 9))
      have C5 := Lib.hid (C4.out.new (.cells #[.string ⟨#[]⟩, .string ⟨#[120]⟩, .string ⟨#[121, 122]⟩] 9))
      refine hK.out _ _ (fun _ => KK5.out) (fun _ => ?_)
      clear hK K
      clear KR4 KK4 Dp4 C4 G4
      generalize v4.alloc (.cells #[.string ⟨#[]⟩, .string ⟨#[120]⟩, .string ⟨#[121, 122]⟩] 9) = v5 at KR5 KK5 Dp5 Dj5 C5 G5 ⊢
      generalize v4.heap.size = g_j at Dj5 ⊢
      refine wpTill_one (i := 3) (by kernel_rfl) rfl (fun K hK => ?zt18)
      rw [if_pos (by rfl)]
      go_simp
      have KR6 := Lib.hid (KR5.out.alloc (.cells #[.int .i64 0, .int .i64 1, .int .i64 20, .int .i64 31, .int .i64 32, .int .i64 (-1), .int .i64 9223372036854775807] 3))
      have KK6 := Lib.hid (KK5.out.alloc (.cells #[.int .i64 0, .int .i64 1, .int .i64 20, .int .i64 31, .int .i64 32, .int .i64 (-1), .int .i64 9223372036854775807] 3))
      have Dp6 := Lib.hid (Dp5.out.alloc (.cells #[.int .i64 0, .int .i64 1, .int .i64 20, .int .i64 31, .int .i64 32, .int .i64 (-1), .int .i64 9223372036854775807] 3))
      have Dj6 := Lib.hid (Dj5.out.alloc (.cells #[.int .i64 0, .int .i64 1, .int .i64 20, .int .i64 31, .int .i64 32, .int .i64 (-1), .int .i64 9223372036854775807] 3))
      have Di6 := Lib.hid (HIs.new (.cells #[.int .i64 0, .int .i64 1, .int .i64 20, .int .i64 31, .int .i64 32, .int .i64 (-1), .int .i64 9223372036854775807] 3) v5 C5.out.lt)
      have G6 := Lib.hid (grown_new G5.out (.cells #[.int .i64 0, .int .i64 1, .int .i64 20, .int .i64 31, .int .i64 32, .int .i64 (-1), .int .i64 9223372036854775807] 3))
      have C6 := Lib.hid (C5.out.new (.cells #[.int .i64 0, .int .i64 1, .int .i64 20, .int .i64 31, .int .i64 32, .int .i64 (-1), .int .i64 9223372036854775807] 3))
      refine hK.out _ _ (fun _ => KK6.out) (fun _ => ?_)
      clear hK K
      clear KR5 KK5 Dp5 Dj5 C5 G5
      generalize v5.alloc (.cells #[.int .i64 0, .int .i64 1, .int .i64 20, .int .i64 31, .int .i64 32, .int .i64 (-1), .int .i64 9223372036854775807] 3) = v6 at KR6 KK6 Dp6 Dj6 Di6 C6 G6 ⊢
      generalize v5.heap.size = g_i at Di6 ⊢
      refine wpTill_one (i := 4) (by kernel_rfl) rfl (fun K hK => ?zt19)
      rw [if_pos (by rfl)]
      go_simp
      refine (l1PickInt_any B g _ _ C6.out #[.int .i64 0, .int .i64 1, .int .i64 20, .int .i64 31, .int .i64 32, .int .i64 (-1), .int .i64 9223372036854775807] Di6.out.1 Di6.out.2 (by decide) (by decide) (fun v hv => (offCs_bd v hv).imp fun _ h => h.1)).mono ?_
      rintro e v7 ⟨pv, hpv, rfl, hcu, hgr⟩
      obtain ⟨ox, rfl, hox⟩ := offCs_bd pv hpv
      clear hpv hox
      have KR7 := Lib.hid (KR6.out.grown hgr c_R)
      have KK7 := Lib.hid (KK6.out.grown hgr c_K)
      have Dp7 := Lib.hid (Dp6.out.grown hgr)
      have Dj7 := Lib.hid (Dj6.out.grown hgr)
      have Di7 := Lib.hid (Di6.out.grown hgr)
      have G7 := Lib.hid (grown_tr G6.out hgr)
      have C7 := Lib.hid hcu
      clear hcu hgr KR6 KK6 Dp6 Dj6 Di6 G6 C6
      refine hK.out _ _ (fun _ => KK7.out) (fun _ => ?_)
      clear hK K
      refine wpTill_one (i := 7) (by kernel_rfl) rfl (fun K hK => ?zt20)
      rw [if_pos (by rfl)]
      go_simp
      refine (l1Pick_any B g _ _ C7.out #[.string ⟨#[]⟩, .string ⟨#[120]⟩, .string ⟨#[121, 122]⟩] Dj7.out.1 Dj7.out.2 (by decide) (by decide) (fun v hv => (strCs_bd v hv).imp fun _ h => h.1)).mono ?_
      rintro e v8 ⟨pv, hpv, rfl, hcu, hgr⟩
      obtain ⟨tx, rfl, htx⟩ := strCs_bd pv hpv
      clear hpv
      have KR8 := Lib.hid (KR7.out.grown hgr c_R)
      have KK8 := Lib.hid (KK7.out.grown hgr c_K)
      have Dp8 := Lib.hid (Dp7.out.grown hgr)
      have Dj8 := Lib.hid (Dj7.out.grown hgr)
      have Di8 := Lib.hid (Di7.out.grown hgr)
      have G8 := Lib.hid (grown_tr G7.out hgr)
      have C8 := Lib.hid hcu
      clear hcu hgr KR7 KK7 Dp7 Dj7 Di7 G7 C7
      refine hK.out _ _ (fun _ => KK8.out) (fun _ => ?_)
      clear hK K
      clear Di8 Dj8
      refine wpTill_takeU (i := 8) (v := .agg #[.int .i64 ox, .string tx]) rfl (by kernel_rfl) (by kernel_rfl) (by kernel_rfl) (by kernel_rfl) (fun _ _ _ h => h) (Or.inl ⟨by kernel_rfl, by intro w _; go_simp⟩) (fun _ => KK8.out) ?_
      refine wpTill_one (i := 9) (by kernel_rfl) rfl (fun K hK => ?zt21)
      rw [if_pos (by rfl)]
      go_simp
      have KR9 := Lib.hid (KR8.out.alloc (.cells #[.int .i64 ox, .string tx] 64))
      have KK9 := Lib.hid (KK8.out.alloc (.cells #[.int .i64 ox, .string tx] 64))
      have Dp9 := Lib.hid (Dp8.out.alloc (.cells #[.int .i64 ox, .string tx] 64))
      have De9 := Lib.hid (HIs.new (.cells #[.int .i64 ox, .string tx] 64) v8 C8.out.lt)
      have G9 := Lib.hid (grown_new G8.out (.cells #[.int .i64 ox, .string tx] 64))
      have C9 := Lib.hid (C8.out.new (.cells #[.int .i64 ox, .string tx] 64))
      refine hK.out _ _ (fun _ => KK9.out) (fun _ => ?_)
      clear hK K
      clear KR8 KK8 Dp8 C8 G8
      generalize v8.alloc (.cells #[.int .i64 ox, .string tx] 64) = v9 at KR9 KK9 Dp9 De9 C9 G9 ⊢
      generalize v8.heap.size = g_e at De9 ⊢
      refine wpTill_one (i := 10) (by kernel_rfl) rfl (fun K hK => ?zt22)
      have hsz := Nat.le_trans hv0 (Nat.le_of_lt KK9.out.lt)
      refine step_append_lies _ rfl _ _ _ rfl v0.heap.size 64 i0 _ 2 24 Try.underlying24 hi hz0 hz1 hz2 rfl (by omega) _ rs.length _ rfl Dp9.out.1 ⟨g_e, 0, none⟩ 1 1 [.int .i64 ox, .string tx] rfl rfl (World.news_of_block (cs := #[.int .i64 ox, .string tx]) (t := 64) (fr := (0, 0)) De9.out.1) (by simp [Value.oneCell']) (by omega) (by unfold maxLen; omega) (by omega) hsz _ rfl ?_
      intro gg cp v10 hown hgrow hat hlt_
      have hk := app_keepsR C9.out hgb hwb G9.out Dp9.out.1 hgrow
      have C10 := Lib.hid hk.1
      have G10 := Lib.hid hk.2
      have KK10 := Lib.hid (blk_row KK9.out hgrow (fun e => hpl e.symm))
      have KR10 := Lib.hid (blk_row KR9.out hgrow (fun e => by have := (Dp9.out.1.lt _ e.symm).1; omega))
      have Dp10 := Lib.hid (show DrnP v0.heap.size g (some ⟨gg, 0, none⟩) cp (rs ++ [⟨ox, tx⟩]) v10 from ⟨by rw [List.length_append, hps_append]; exact hown, hgb⟩)
      have hpl2 : (Value.slice (some ⟨gg, 0, none⟩) (rs ++ [(⟨ox, tx⟩ : HP)]).length cp).ownBlock ≠ some g_K := own_ne (fun e => by rcases hat with h | h; exact hpl (h.trans (by rw [e])); have := KK9.out.lt; omega)
      have hl2 : (rs ++ [(⟨ox, tx⟩ : HP)]).length = rs.length + 1 := by simp
      clear hk hown hgrow hat hlt_ hsz Dp9 De9 C9 G9 KK9 KR9
      refine hK.out _ _ (fun _ => KK10.out) (fun _ => ?_)
      clear hK K
      refine wpTill_takeU (i := 11) (v := .pointer (some ⟨g_K, 2, none⟩)) rfl (by kernel_rfl) (by kernel_rfl) (by kernel_rfl) (by kernel_rfl) (fun _ _ _ h => h) (Or.inl ⟨by kernel_rfl, by intro w _; go_simp⟩) (fun _ => KK10.out) ?_
      rw [← hl2]
      generalize hrs : rs ++ [(⟨ox, tx⟩ : HP)] = rs2 at hl2 hpl2 Dp10 ⊢
      have hbd := rbd_app (o := ox) hr3 HB.out.2.2 htx
      rw [hrs] at hbd
      have HB2 := Lib.hid hbd
      clear hbd hrs htx hl2
      obtain ⟨⟨cK0, cK1, cK2, cK3, cK4⟩, dK0, dK1, dK2, dK3, dK4⟩ := KK10.out.of5
      refine wpTill_store (by kernel_rfl) rfl (by kernel_rfl) (fun K hK => ?zt23)
      rw [if_pos (by rfl)]
      go_simp
      have KR11 := Lib.hid (show Blk (v10.setCell ⟨g_K, 2, none⟩ (.slice (some ⟨gg, 0, none⟩) rs2.length cp)) g_R [.int .i64 0, .string ⟨#[]⟩, .slice none 0 0, .int .i64 0, .bool false] from (KR10.out.setOther ⟨g_K, 2, none⟩ (.slice (some ⟨gg, 0, none⟩) rs2.length cp) (n_R_K)))
      have KK11 := Lib.hid (show Blk (v10.setCell ⟨g_K, 2, none⟩ (.slice (some ⟨gg, 0, none⟩) rs2.length cp)) g_K [.int .i64 n, .string d, .slice (some ⟨gg, 0, none⟩) rs2.length cp, .int .i64 f, .bool z] from (KK10.out.set 2 (.slice (some ⟨gg, 0, none⟩) rs2.length cp)))
      have Dp11 := Lib.hid (Dp10.out.set 2 (.slice (some ⟨gg, 0, none⟩) rs2.length cp) (.inr hpl2))
      have G11 := Lib.hid (grown_setNew G10.out ⟨g_K, 2, none⟩ (.slice (some ⟨gg, 0, none⟩) rs2.length cp) l_K)
      have C11 := Lib.hid (C10.out.setOther ⟨g_K, 2, none⟩ (.slice (some ⟨gg, 0, none⟩) rs2.length cp) b_K c_K)
      refine hK.out _ _ ?_
      clear hK K KR10 KK10 Dp10 C10 G10
      clear cK0 cK1 cK2 cK3 cK4 dK0 dK1 dK2 dK3 dK4
      generalize v10.setCell ⟨g_K, 2, none⟩ (.slice (some ⟨gg, 0, none⟩) rs2.length cp) = v11 at KR11 KK11 Dp11 C11 G11 ⊢
      refine wpTill_done (by kernel_rfl) ?_ _
      refine NoPanic.normal ?_
      obtain ⟨⟨cR0, cR1, cR2, cR3, cR4⟩, dR0, dR1, dR2, dR3, dR4⟩ := KR11.out.of5
      obtain ⟨⟨cK0, cK1, cK2, cK3, cK4⟩, dK0, dK1, dK2, dK3, dK4⟩ := KK11.out.of5
      go_wp2_with fail
      exact bodyPost_ret (v := .agg #[.int .i64 n, .string d, .slice (some ⟨gg, 0, none⟩) rs2.length cp, .int .i64 f, .bool z]) (by simp [results, Try.results29, go_sem, cR0, cR1, cR2, cR3, cR4]) rfl ⟨n, d, rs2, f, z, (some ⟨gg, 0, none⟩), cp, rfl, ⟨by omega, HB2.out⟩, own_down (((((Dp11.out.set 0 _ (.inl hRb)).set 1 _ (.inl hRb)).set 2 _ (.inl hRb)).set 3 _ (.inl hRb)).set 4 _ (.inl hRb)).1 hwb, (((((C11.out.setOther _ _ b_R c_R).setOther _ _ b_R c_R).setOther _ _ b_R c_R).setOther _ _ b_R c_R).setOther _ _ b_R c_R), (grown_setNew (grown_setNew (grown_setNew (grown_setNew (grown_setNew G11.out _ _ l_R) _ _ l_R) _ _ l_R) _ _ l_R) _ _ l_R)⟩
  have h3' : (s == 3) = false := by simp [h3]
  by_cases h4 : s = 4
  case pos =>
    subst h4
    obtain ⟨⟨cR0, cR1, cR2, cR3, cR4⟩, dR0, dR1, dR2, dR3, dR4⟩ := KR3.out.of5
    obtain ⟨⟨cK0, cK1, cK2, cK3, cK4⟩, dK0, dK1, dK2, dK3, dK4⟩ := KK3.out.of5
    go_wp2_with fail
    clear cR0 cR1 cR2 cR3 cR4 dR0 dR1 dR2 dR3 dR4 cK0 cK1 cK2 cK3 cK4 dK0 dK1 dK2 dK3 dK4
    refine (l1Below_pos B g v3 C3.out 3 (by omega) (by omega)).mono ?_
    rintro e v4 ⟨q, rfl, hq, hcu, hgr⟩
    obtain ⟨m, rfl⟩ : ∃ n : Nat, q = (n : Int) := ⟨q.toNat, by omega⟩
    have hqw : IntKind.i64.wrap (31 + (m : Int)) = ((31 + m : Nat) : Int) := by rw [IntWalk.i64_in _ (by omega)]; omega
    have KR4 := Lib.hid (KR3.out.grown hgr c_R)
    have KK4 := Lib.hid (KK3.out.grown hgr c_K)
    have Dp4 := Lib.hid (Dp3.out.grown hgr)
    have G4 := Lib.hid (grown_tr G3.out hgr)
    have C4 := Lib.hid hcu
    clear hcu hgr KR3 KK3 Dp3 G3 C3
    obtain ⟨⟨cR0, cR1, cR2, cR3, cR4⟩, dR0, dR1, dR2, dR3, dR4⟩ := KR4.out.of5
    obtain ⟨⟨cK0, cK1, cK2, cK3, cK4⟩, dK0, dK1, dK2, dK3, dK4⟩ := KK4.out.of5
    go_wp2_with fail
    clear cR0 cR1 cR2 cR3 cR4 dR0 dR1 dR2 dR3 dR4 cK0 cK1 cK2 cK3 cK4 dK0 dK1 dK2 dK3 dK4
    refine (l5Long_any (31 + m) (by omega) _).mono ?_
    rintro e v5 ⟨x, rfl, hz, hb⟩
    have KR5 := Lib.hid (KR4.out.below hb)
    have KK5 := Lib.hid (KK4.out.below hb)
    have Dp5 := Lib.hid (Dp4.out.below hb)
    have G5 := Lib.hid (grown_tr G4.out (below_any hb))
    have C5 := Lib.hid (C4.out.below hb)
    clear hb KR4 KK4 Dp4 G4 C4
    clear hqw
    obtain ⟨⟨cR0, cR1, cR2, cR3, cR4⟩, dR0, dR1, dR2, dR3, dR4⟩ := KR5.out.of5
    obtain ⟨⟨cK0, cK1, cK2, cK3, cK4⟩, dK0, dK1, dK2, dK3, dK4⟩ := KK5.out.of5
    go_wp2_with fail
    exact bodyPost_ret (v := .agg #[.int .i64 n, .string x, .slice a rs.length cap, .int .i64 f, .bool z]) (by simp [results, Try.results29, go_sem, cR0, cR1, cR2, cR3, cR4]) rfl ⟨n, x, rs, f, z, a, cap, rfl, ⟨by omega, by omega, HB.out.2.2⟩, own_down ((((((Dp5.out.set 1 _ (.inr hpl)).set 0 _ (.inl hRb)).set 1 _ (.inl hRb)).set 2 _ (.inl hRb)).set 3 _ (.inl hRb)).set 4 _ (.inl hRb)).1 hwb, ((((((C5.out.setOther _ _ b_K c_K).setOther _ _ b_R c_R).setOther _ _ b_R c_R).setOther _ _ b_R c_R).setOther _ _ b_R c_R).setOther _ _ b_R c_R), (grown_setNew (grown_setNew (grown_setNew (grown_setNew (grown_setNew (grown_setNew G5.out _ _ l_K) _ _ l_R) _ _ l_R) _ _ l_R) _ _ l_R) _ _ l_R)⟩
  have h4' : (s == 4) = false := by simp [h4]
  clear h0 h1 h2 h3 h4
  obtain ⟨⟨cR0, cR1, cR2, cR3, cR4⟩, dR0, dR1, dR2, dR3, dR4⟩ := KR3.out.of5
  obtain ⟨⟨cK0, cK1, cK2, cK3, cK4⟩, dK0, dK1, dK2, dK3, dK4⟩ := KK3.out.of5
  go_wp2_with fail
  exact bodyPost_ret (v := .agg #[.int .i64 n, .string d, .slice a rs.length cap, .int .i64 f, .bool z]) (by simp [results, Try.results29, go_sem, cR0, cR1, cR2, cR3, cR4]) rfl ⟨n, d, rs, f, z, a, cap, rfl, ⟨by omega, by omega, HB.out.2.2⟩, own_down (((((Dp3.out.set 0 _ (.inl hRb)).set 1 _ (.inl hRb)).set 2 _ (.inl hRb)).set 3 _ (.inl hRb)).set 4 _ (.inl hRb)).1 hwb, (((((C3.out.setOther _ _ b_R c_R).setOther _ _ b_R c_R).setOther _ _ b_R c_R).setOther _ _ b_R c_R).setOther _ _ b_R c_R), (grown_setNew (grown_setNew (grown_setNew (grown_setNew (grown_setNew G3.out _ _ l_R) _ _ l_R) _ _ l_R) _ _ l_R) _ _ l_R)⟩
end Go.Proofs.Ytpbnkkgfjmkcdaa
namespace Go.Proofs.Ytpbnkkgfjmkcdaa
open Go.RowKit Go.Lib

/-- A drawn receiver with a text that comes. -/
def DrnArr (zw : World) (e : Ending) (w' : World) : Prop :=
  ∃ (n : Int) (d : ByteArray) (rs : List HP) (f : Int) (z : Bool) (a : Option Addr) (cap : Nat) (s : Int) (x : ByteArray) (b : Bool), e = .returned (.tuple #[.agg #[.int .i64 n, .string d, .slice a rs.length cap, .int .i64 f, .bool z], .int .i64 s, .string x, .bool b]) ∧ (RBd d rs ∧ x.size ≤ 8) ∧ w'.ownsRow zw.heap.size 64 2 (.slice a rs.length cap) rs.length (hps rs) ∧ Below zw.heap.size zw w'
/-- A drawn receiver with a number of bytes to take. -/
def DrnTak (zw : World) (e : Ending) (w' : World) : Prop :=
  ∃ (n : Int) (d : ByteArray) (rs : List HP) (f : Int) (z : Bool) (a : Option Addr) (cap : Nat) (x : Int), e = .returned (.tuple #[.agg #[.int .i64 n, .string d, .slice a rs.length cap, .int .i64 f, .bool z], .int .i64 x]) ∧ RBd d rs ∧ w'.ownsRow zw.heap.size 64 2 (.slice a rs.length cap) rs.length (hps rs) ∧ Below zw.heap.size zw w'
def takCs : Array Value := #[.int .i64 0, .int .i64 1, .int .i64 5, .int .i64 40, .int .i64 (-1), .int .i64 9223372036854775807]
theorem takCs_bd : ∀ v ∈ takCs.toList, ∃ x, v = .int .i64 x ∧ I64 x := by
  intro v hv
  simp only [takCs, List.mem_cons, List.mem_nil_iff, or_false] at hv
  unfold I64
  rcases hv with rfl | rfl | rfl | rfl | rfl | rfl <;> exact ⟨_, rfl, by decide⟩
theorem pickTak (B g : Nat) (w : World) (hc : CurB w B g) : Calls Try.prog 50 #[.pointer (some ⟨g, 0, none⟩), .slice (some ⟨w.heap.size, 0, none⟩) 6 6] (w.alloc (.cells takCs 3)) (WholeEnd w B g) :=
  pickNew B g w hc takCs (by decide) (by decide) takCs_bd

set_option maxRecDepth 100000 in
set_option maxHeartbeats 8000000 in
theorem drawArrived (a0 : Option Addr) (s0 : List UInt8) (cap0 : Nat) (zw : World) (hrow : Row zw zw.heap.size a0 (byteCells s0)) (hs0 : s0.length ≤ 1048576) :
    Calls Try.prog 9 #[.slice a0 s0.length cap0] zw (DrnArr zw) := by
  have HR := Lib.hid hrow
  clear hrow
  go_enter Try.func9, Try.ntmps9
  have B0 := Lib.hid (show Below zw.heap.size zw (zw.alloc (.cells #[.int .i64 0, .string ⟨#[]⟩, .slice none 0 0, .int .i64 0, .bool false] 26)) from (Below.refl _ zw).alloc (Nat.le_refl _) _)
  have K0 := Lib.hid (Blk.new zw [.int .i64 0, .string ⟨#[]⟩, .slice none 0 0, .int .i64 0, .bool false] 26)
  go_wp2_with fail
  generalize zw.alloc (.cells #[.int .i64 0, .string ⟨#[]⟩, .slice none 0 0, .int .i64 0, .bool false] 26) = v0 at B0 K0 ⊢
  generalize hh : zw.heap.size = g_R at K0 ⊢
  have l_R : zw.heap.size ≤ g_R := Nat.le_of_eq hh
  clear hh
  have hr0 := K0.out.lt
  refine (l1New_any a0 s0 cap0 v0 ((HR.out.below B0.out).mono B0.out.size) hs0).mono ?_
  rintro e w ⟨g, rfl, hc1, hb1⟩
  have C1 := Lib.hid hc1
  have L1 := Lib.hid hc1
  have G1 := Lib.hid (World.grownBy.refl w (some g))
  have B1 := Lib.hid hb1
  have KR1 := Lib.hid (K0.out.below hb1)
  have c_R : g_R ≠ g := by have := hc1.1; omega
  have hz : zw.heap.size ≤ v0.heap.size := B0.out.size
  have hRw : g_R < w.heap.size := KR1.out.lt
  have hgb : g < w.heap.size := C1.out.lt
  have hzw : zw.heap.size ≤ w.heap.size := Nat.le_trans hz B1.out.size
  have hB : v0.heap.size ≤ g := hc1.1
  clear hc1 hb1 K0 HR hr0
  obtain ⟨⟨cR0, cR1, cR2, cR3, cR4⟩, dR0, dR1, dR2, dR3, dR4⟩ := KR1.out.of5
  go_wp2_with fail
  clear cR0 cR1 cR2 cR3 cR4 dR0 dR1 dR2 dR3 dR4
  refine (l18Bent_any _ g _ C1.out).mono ?_
  rintro e v2 ⟨n, d, rs, f, z, a, cap, rfl, hbd, ho, hcu, hgr⟩
  have Dp0 := Lib.hid (show DrnP w.heap.size g a cap rs v2 from ⟨own_down ho (Nat.le_refl _), hgb⟩)
  clear ho
  have KR2 := Lib.hid (KR1.out.grown hgr c_R)
  have G2 := Lib.hid (grown_tr G1.out hgr)
  have C2 := Lib.hid hcu
  clear hcu hgr KR1 G1 C1
  have hpl := Dp0.out.apart
  have KR3 := Lib.hid (KR2.out.alloc (.cells #[.int .i64 n, .string d, .slice a rs.length cap, .int .i64 f, .bool z] 26))
  have n_R_K : g_R ≠ v2.heap.size := by have h1 := KR2.out.lt; omega
  have Dp3 := Lib.hid (Dp0.out.alloc (.cells #[.int .i64 n, .string d, .slice a rs.length cap, .int .i64 f, .bool z] 26))
  have KK3 := Lib.hid (Blk.new v2 [.int .i64 n, .string d, .slice a rs.length cap, .int .i64 f, .bool z] 26)
  have G3 := Lib.hid (grown_new G2.out (.cells #[.int .i64 n, .string d, .slice a rs.length cap, .int .i64 f, .bool z] 26))
  have C3 := Lib.hid (C2.out.new (.cells #[.int .i64 n, .string d, .slice a rs.length cap, .int .i64 f, .bool z] 26))
  have l_K : w.heap.size ≤ v2.heap.size := G2.out.size
  have c_K : v2.heap.size ≠ g := Nat.ne_of_gt C2.out.lt
  have b_K : v0.heap.size ≤ v2.heap.size := by have h1 := C2.out.lt; omega
  clear KR2 Dp0 G2 C2
  obtain ⟨⟨cR0, cR1, cR2, cR3, cR4⟩, dR0, dR1, dR2, dR3, dR4⟩ := KR3.out.of5
  obtain ⟨⟨cK0, cK1, cK2, cK3, cK4⟩, dK0, dK1, dK2, dK3, dK4⟩ := KK3.out.of5
  go_wp2_with fail
  clear cR0 cR1 cR2 cR3 cR4 dR0 dR1 dR2 dR3 dR4 cK0 cK1 cK2 cK3 cK4 dK0 dK1 dK2 dK3 dK4
  generalize v2.alloc (.cells #[.int .i64 n, .string d, .slice a rs.length cap, .int .i64 f, .bool z] 26) = v3 at KR3 KK3 Dp3 C3 G3 ⊢
  generalize hh : v2.heap.size = g_K at KK3 l_K c_K b_K n_R_K  hpl ⊢
  clear hh
  refine (l18Stream_any _ g _ C3.out n f z d a rs.length cap).mono ?_
  rintro e v4 ⟨s, x, b, rfl, hx, hcu, hgr⟩
  have KR4 := Lib.hid (KR3.out.grown hgr c_R)
  have KK4 := Lib.hid (KK3.out.grown hgr c_K)
  have Dp4 := Lib.hid (Dp3.out.grown hgr)
  have G4 := Lib.hid (grown_tr G3.out hgr)
  have C4 := Lib.hid hcu
  clear hcu hgr KR3 KK3 Dp3 G3 C3
  obtain ⟨⟨cR0, cR1, cR2, cR3, cR4⟩, dR0, dR1, dR2, dR3, dR4⟩ := KR4.out.of5
  obtain ⟨⟨cK0, cK1, cK2, cK3, cK4⟩, dK0, dK1, dK2, dK3, dK4⟩ := KK4.out.of5
  go_wp2_with fail
  clear cR0 cR1 cR2 cR3 cR4 dR0 dR1 dR2 dR3 dR4 cK0 cK1 cK2 cK3 cK4 dK0 dK1 dK2 dK3 dK4
  refine (l1Once_any _ g _ C4.out 8 (by omega) (by omega)).mono ?_
  rintro e v5 ⟨b8, rfl, hcu, hgr⟩
  have KR5 := Lib.hid (KR4.out.grown hgr c_R)
  have KK5 := Lib.hid (KK4.out.grown hgr c_K)
  have Dp5 := Lib.hid (Dp4.out.grown hgr)
  have G5 := Lib.hid (grown_tr G4.out hgr)
  have C5 := Lib.hid hcu
  clear hcu hgr KR4 KK4 Dp4 G4 C4
  cases b8 with
  | false =>
    obtain ⟨⟨cR0, cR1, cR2, cR3, cR4⟩, dR0, dR1, dR2, dR3, dR4⟩ := KR5.out.of5
    obtain ⟨⟨cK0, cK1, cK2, cK3, cK4⟩, dK0, dK1, dK2, dK3, dK4⟩ := KK5.out.of5
    go_wp2_with fail
    exact bodyPost_ret (v := .tuple #[.agg #[.int .i64 n, .string d, .slice a rs.length cap, .int .i64 f, .bool z], .int .i64 s, .string x, .bool b]) (by simp [results, Try.results9, go_sem, cR0, cR1, cR2, cR3, cR4]) rfl ⟨n, d, rs, f, z, a, cap, s, x, b, rfl, ⟨hbd, hx⟩, own_down (((((Dp5.out.set 0 _ (.inl hRw)).set 1 _ (.inl hRw)).set 2 _ (.inl hRw)).set 3 _ (.inl hRw)).set 4 _ (.inl hRw)).1 hzw, ((((((B0.out.trans ((below_new B1.out L1.out G5.out).mono hz)).setCell l_R _).setCell l_R _).setCell l_R _).setCell l_R _).setCell l_R _)⟩
  | true =>
    obtain ⟨⟨cR0, cR1, cR2, cR3, cR4⟩, dR0, dR1, dR2, dR3, dR4⟩ := KR5.out.of5
    obtain ⟨⟨cK0, cK1, cK2, cK3, cK4⟩, dK0, dK1, dK2, dK3, dK4⟩ := KK5.out.of5
    go_wp2_with fail
    clear cR0 cR1 cR2 cR3 cR4 dR0 dR1 dR2 dR3 dR4 cK0 cK1 cK2 cK3 cK4 dK0 dK1 dK2 dK3 dK4
    refine (l4Place_any _ g _ C5.out).mono ?_
    rintro e v6 ⟨s9, rfl, hs9, hcu, hgr⟩
    clear hs9
    have KR6 := Lib.hid (KR5.out.grown hgr c_R)
    have KK6 := Lib.hid (KK5.out.grown hgr c_K)
    have Dp6 := Lib.hid (Dp5.out.grown hgr)
    have G6 := Lib.hid (grown_tr G5.out hgr)
    have C6 := Lib.hid hcu
    clear hcu hgr KR5 KK5 Dp5 G5 C5
    obtain ⟨⟨cR0, cR1, cR2, cR3, cR4⟩, dR0, dR1, dR2, dR3, dR4⟩ := KR6.out.of5
    obtain ⟨⟨cK0, cK1, cK2, cK3, cK4⟩, dK0, dK1, dK2, dK3, dK4⟩ := KK6.out.of5
    go_wp2_with fail
    exact bodyPost_ret (v := .tuple #[.agg #[.int .i64 n, .string d, .slice a rs.length cap, .int .i64 f, .bool z], .int .i64 s9, .string x, .bool b]) (by simp [results, Try.results9, go_sem, cR0, cR1, cR2, cR3, cR4]) rfl ⟨n, d, rs, f, z, a, cap, s9, x, b, rfl, ⟨hbd, hx⟩, own_down (((((Dp6.out.set 0 _ (.inl hRw)).set 1 _ (.inl hRw)).set 2 _ (.inl hRw)).set 3 _ (.inl hRw)).set 4 _ (.inl hRw)).1 hzw, ((((((B0.out.trans ((below_new B1.out L1.out G6.out).mono hz)).setCell l_R _).setCell l_R _).setCell l_R _).setCell l_R _).setCell l_R _)⟩

set_option maxRecDepth 100000 in
set_option maxHeartbeats 8000000 in
theorem drawTakenIn (a0 : Option Addr) (s0 : List UInt8) (cap0 : Nat) (zw : World) (hrow : Row zw zw.heap.size a0 (byteCells s0)) (hs0 : s0.length ≤ 1048576) :
    Calls Try.prog 21 #[.slice a0 s0.length cap0] zw (DrnTak zw) := by
  have HR := Lib.hid hrow
  clear hrow
  go_enter Try.func21, Try.ntmps21
  have B0 := Lib.hid (show Below zw.heap.size zw (zw.alloc (.cells #[.int .i64 0, .string ⟨#[]⟩, .slice none 0 0, .int .i64 0, .bool false] 26)) from (Below.refl _ zw).alloc (Nat.le_refl _) _)
  have K0 := Lib.hid (Blk.new zw [.int .i64 0, .string ⟨#[]⟩, .slice none 0 0, .int .i64 0, .bool false] 26)
  go_wp2_with fail
  generalize zw.alloc (.cells #[.int .i64 0, .string ⟨#[]⟩, .slice none 0 0, .int .i64 0, .bool false] 26) = v0 at B0 K0 ⊢
  generalize hh : zw.heap.size = g_R at K0 ⊢
  have l_R : zw.heap.size ≤ g_R := Nat.le_of_eq hh
  clear hh
  have hr0 := K0.out.lt
  refine (l1New_any a0 s0 cap0 v0 ((HR.out.below B0.out).mono B0.out.size) hs0).mono ?_
  rintro e w ⟨g, rfl, hc1, hb1⟩
  have C1 := Lib.hid hc1
  have L1 := Lib.hid hc1
  have G1 := Lib.hid (World.grownBy.refl w (some g))
  have B1 := Lib.hid hb1
  have KR1 := Lib.hid (K0.out.below hb1)
  have c_R : g_R ≠ g := by have := hc1.1; omega
  have hz : zw.heap.size ≤ v0.heap.size := B0.out.size
  have hRw : g_R < w.heap.size := KR1.out.lt
  have hgb : g < w.heap.size := C1.out.lt
  have hzw : zw.heap.size ≤ w.heap.size := Nat.le_trans hz B1.out.size
  have hB : v0.heap.size ≤ g := hc1.1
  clear hc1 hb1 K0 HR hr0
  obtain ⟨⟨cR0, cR1, cR2, cR3, cR4⟩, dR0, dR1, dR2, dR3, dR4⟩ := KR1.out.of5
  go_wp2_with fail
  clear cR0 cR1 cR2 cR3 cR4 dR0 dR1 dR2 dR3 dR4
  refine (l18Bent_any _ g _ C1.out).mono ?_
  rintro e v2 ⟨n, d, rs, f, z, a, cap, rfl, hbd, ho, hcu, hgr⟩
  have Dp0 := Lib.hid (show DrnP w.heap.size g a cap rs v2 from ⟨own_down ho (Nat.le_refl _), hgb⟩)
  clear ho
  have KR2 := Lib.hid (KR1.out.grown hgr c_R)
  have G2 := Lib.hid (grown_tr G1.out hgr)
  have C2 := Lib.hid hcu
  clear hcu hgr KR1 G1 C1
  obtain ⟨⟨cR0, cR1, cR2, cR3, cR4⟩, dR0, dR1, dR2, dR3, dR4⟩ := KR2.out.of5
  go_wp2_with fail
  clear cR0 cR1 cR2 cR3 cR4 dR0 dR1 dR2 dR3 dR4
  refine (pickTak _ g _ C2.out).mono ?_
  rintro e v3 ⟨x, rfl, hx, hcu, hgr⟩
  clear hx
  have KR3 := Lib.hid (KR2.out.grown hgr c_R)
  have Dp3 := Lib.hid (Dp0.out.grown hgr)
  have G3 := Lib.hid (grown_tr G2.out hgr)
  have C3 := Lib.hid hcu
  clear hcu hgr KR2 Dp0 G2 C2
  obtain ⟨⟨cR0, cR1, cR2, cR3, cR4⟩, dR0, dR1, dR2, dR3, dR4⟩ := KR3.out.of5
  go_wp2_with fail
  exact bodyPost_ret (v := .tuple #[.agg #[.int .i64 n, .string d, .slice a rs.length cap, .int .i64 f, .bool z], .int .i64 x]) (by simp [results, Try.results21, go_sem, cR0, cR1, cR2, cR3, cR4]) rfl ⟨n, d, rs, f, z, a, cap, x, rfl, hbd, own_down (((((Dp3.out.set 0 _ (.inl hRw)).set 1 _ (.inl hRw)).set 2 _ (.inl hRw)).set 3 _ (.inl hRw)).set 4 _ (.inl hRw)).1 hzw, ((((((B0.out.trans ((below_new B1.out L1.out G3.out).mono hz)).setCell l_R _).setCell l_R _).setCell l_R _).setCell l_R _).setCell l_R _)⟩
end Go.Proofs.Ytpbnkkgfjmkcdaa
namespace Go.Proofs.Ytpbnkkgfjmkcdaa
open Go.RowKit Go.Lib

theorem big_yes (a : Option Addr) (n cap : Nat) (w : World) (h : 1048576 < n) (hm : n ≤ 9223372036854775807) : Calls Try.prog 8 #[.slice a n cap] w fun e w' => e = .returned (.bool true) ∧ w = w' := by
  have hd : decide ((1048576 : Int) < (n : Int)) = true := by simp; omega
  go_enter Try.func8, Try.ntmps8
  go_wp2_with fail
  go_ret
  exact ⟨by simp, rfl⟩
theorem big_no (a : Option Addr) (n cap : Nat) (w : World) (h : n ≤ 1048576) : Calls Try.prog 8 #[.slice a n cap] w fun e w' => e = .returned (.bool false) ∧ w = w' := by
  have hd : decide ((1048576 : Int) < (n : Int)) = false := by simp; omega
  go_enter Try.func8, Try.ntmps8
  go_wp2_with fail
  go_ret
  exact ⟨by simp, rfl⟩
end Go.Proofs.Ytpbnkkgfjmkcdaa
namespace Go.Proofs.Ytpbnkkgfjmkcdaa
open Go.ChangeShapes Go.WideShapes Go.RowKit Go.Lib

theorem add_lit (b off j : Nat) : (⟨b, off, none⟩ : Addr).add j = ⟨b, off + j, none⟩ := by unfold Addr.add; split <;> simp_all

/-- What the walk is told of a []byte. -/
def IsBytes (w : World) (a : Option Addr) (len : Nat) (bs : List UInt8) : Prop := (bs.length = len ∧ len ≤ maxLen) ∧ Row w w.heap.size a (byteCells bs)

theorem openBytes {H : Type} {enc : TypeId × Value → H} {P : Program} {w : World} {t e : TypeId} {fuel : Nat} {a : Option Addr} {len cap : Nat} {x : DataW H × List MemPlace} (ht : P.underlying t = some (.slice e)) (he : P.underlying e = some (.int .u8)) (hc : P.cellsOf e = 1)
    (h : DataW.trod enc P w 0 (fun _ => true) true fuel t (Value.slice a len cap).cells.toList = some x) : ∃ bs : List UInt8, IsBytes w a len bs := by
  rcases open_ints ht he hc h with ⟨hcs, _⟩ | ⟨y, l, c, zs, hcs, _, hl, hm, hz, _, hcell, hwz⟩
  · simp [Value.cells] at hcs
    obtain ⟨rfl, rfl, rfl⟩ := hcs
    exact ⟨[], ⟨rfl, Nat.zero_le _⟩, Row.nil⟩
  · simp [Value.cells] at hcs
    obtain ⟨rfl, rfl, rfl⟩ := hcs
    simp only [if_true] at hz
    have hlen : ((zs.take len).map fun z => UInt8.ofNat z.toNat).length = len := by simp; omega
    refine ⟨(zs.take len).map fun z => UInt8.ofNat z.toNat, ⟨hlen, Nat.le_trans hl hm⟩, fun hx => ?_⟩
    have hpos : 0 < len := by
      rcases Nat.eq_zero_or_pos len with h | h
      · subst h; exact absurd rfl hx
      · exact h
    obtain ⟨b, off, spot⟩ := y
    have hc0 := hcell 0 (by omega)
    have hspot : spot = none := by simpa [Addr.add] using World.cell?_spot hc0
    subst hspot
    refine ⟨b, off, rfl, World.block_lt_of_cell? w ⟨b, off, none⟩ (by simpa [Addr.add] using hc0), fun j u hu => ?_⟩
    have hj : j < len := by
      have := (List.getElem?_eq_some_iff.1 hu).1
      rw [byteCells_length, hlen] at this; exact this
    have hj2 : j < zs.length := by omega
    have hb := bounds_u8 (hwz zs[j] (List.getElem_mem hj2))
    have := hcell j hj2
    rw [add_lit] at this
    rw [this, ← hu]
    simp only [byteCells, List.getElem?_map, List.getElem?_take, if_pos hj, List.getElem?_eq_getElem hj2, Option.map_some, List.getD_eq_getElem?_getD, Option.getD_some]
    rw [UInt8.toNat_ofNat']
    congr 2
    omega

/-- What the walk is told of a []string. -/
def IsTexts (w : World) (a : Option Addr) (len cap : Nat) (ss : List ByteArray) : Prop := (ss.length = len ∧ len ≤ cap ∧ cap ≤ maxLen ∧ ∀ s ∈ ss, s.size ≤ maxLen) ∧ Row w w.heap.size a (strVals ss)
theorem openStr {H : Type} {enc : TypeId × Value → H} {P : Program} {w : World} {t e : TypeId} {fuel : Nat} {a : Option Addr} {len cap : Nat} {x : DataW H × List MemPlace} (ht : P.underlying t = some (.slice e)) (he : P.underlying e = some .string) (hc : P.cellsOf e = 1)
    (h : DataW.trod enc P w 0 (fun _ => true) true fuel t (Value.slice a len cap).cells.toList = some x) : ∃ ss : List ByteArray, IsTexts w a len cap ss := by
  rcases open_strings ht he hc h with ⟨hcs, _⟩ | ⟨y, l, c, ss, hcs, _, hl, hm, hz, _, hcell, hws⟩
  · simp [Value.cells] at hcs
    obtain ⟨rfl, rfl, rfl⟩ := hcs
    exact ⟨[], ⟨rfl, Nat.le_refl _, Nat.zero_le _, fun _ h => by cases h⟩, Row.nil⟩
  · simp [Value.cells] at hcs
    obtain ⟨rfl, rfl, rfl⟩ := hcs
    simp only [if_true] at hz
    have hlen : (ss.take len).length = len := by simp; omega
    refine ⟨ss.take len, ⟨hlen, hl, hm, fun s hs => hws s (List.mem_of_mem_take hs)⟩, fun hx => ?_⟩
    have hpos : 0 < len := by
      rcases Nat.eq_zero_or_pos len with h | h
      · subst h; exact absurd rfl hx
      · exact h
    obtain ⟨b, off, spot⟩ := y
    have hc0 := hcell 0 (by omega)
    have hspot : spot = none := by simpa [Addr.add] using World.cell?_spot hc0
    subst hspot
    refine ⟨b, off, rfl, World.block_lt_of_cell? w ⟨b, off, none⟩ (by simpa [Addr.add] using hc0), fun j u hu => ?_⟩
    have hj : j < (ss.take len).length := by
      have := (List.getElem?_eq_some_iff.1 hu).1
      simpa [strVals] using this
    have hj2 : j < ss.length := by rw [hlen] at hj; omega
    rw [strVals_at _ j hj] at hu
    have := hcell j hj2
    rw [add_lit] at this
    rw [this, ← hu, List.getD_eq_getElem?_getD, List.getElem?_eq_getElem hj2]
    simp
end Go.Proofs.Ytpbnkkgfjmkcdaa
