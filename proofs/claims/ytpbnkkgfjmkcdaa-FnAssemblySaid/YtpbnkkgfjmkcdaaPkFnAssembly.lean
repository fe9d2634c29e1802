/- Texts of one proof that belong together, joined. Nothing here is a claim. -/
import Derived.Test.YtpbnkkgfjmkcdaaRcvKit
import Derived.Test.YtpbnkkgfjmkcdaaRcvLaw2
import Derived.Test.YtpbnkkgfjmkcdaaBlk10
import Derived.Laws.StructEq
import Derived.Test.YtpbnkkgfjmkcdaaRcvP
import Derived.Test.YtpbnkkgfjmkcdaaSndPos
import Derived.Test.YtpbnkkgfjmkcdaaCurA
import Derived.Test.YtpbnkkgfjmkcdaaRcvTakeK
import Derived.Test.YtpbnkkgfjmkcdaaCurO
import Derived.Test.YtpbnkkgfjmkcdaaPickNew
import Derived.Test.YtpbnkkgfjmkcdaaWhole
import Derived.Deep.DeepCutAuto
import Derived.Deep.RegionHeld3
import Derived.Test.YtpbnkkgfjmkcdaaRcvTakeS
import Derived.Test.YtpbnkkgfjmkcdaaArrS
import Derived.Test.YtpbnkkgfjmkcdaaHeldTill
import Derived.Test.YtpbnkkgfjmkcdaaBase
import Derived.Test.YtpbnkkgfjmkcdaaKit
import Derived.Deep.AppendLies
import Derived.Test.YtpbnkkgfjmkcdaaCurKit
import Derived.ProofKit
import Derived.OpenShut
import Derived.SliceStrings
namespace Go.Proofs.Ytpbnkkgfjmkcdaa
open Go.RowKit Go.Lib

noncomputable def sameP (a b : List HP) : Bool := decide (a = b)
theorem strEq {x y : ByteArray} (h : x = y) : (x.toList == y.toList) = true := by subst h; simp
theorem strNe {x y : ByteArray} (h : x ≠ y) : (x.toList == y.toList) = false := by
  cases e : (x.toList == y.toList) with
  | false => rfl
  | true => exact absurd (by
      have h1 : x.toList = y.toList := by simpa using e
      rw [ByteArray.toList_eq, ByteArray.toList_eq] at h1
      cases x; cases y
      simp_all) h

set_option maxRecDepth 100000 in
theorem eqPP (r q : HP) (w : World) : (Op.equalIn 10000 64 (.agg #[.int .i64 r.o, .string r.t]) (.agg #[.int .i64 q.o, .string q.t])).run Try.prog w = .ok (decide (r = q)) w := by
  have u3 := Try.underlying3
  have a3 := Try.isAgg3
  have z3 := Try.sizeOf3
  have u4 := Try.underlying9
  have a4 := Try.isAgg9
  have z4 := Try.sizeOf9
  have hS : Try.prog.underlying 64 = some (.struct (Try.prog.fieldsOf 64)) := by kernel_rfl
  have hp : Try.prog.stoodInHeld 64 = false := by kernel_rfl
  rw [show (10000 : Nat) = 9999 + 1 from rfl, run_equalIn_agg w 9999 64 _ _ hS hp]
  simp only [Program.fieldsOf, Try.underlying64]
  by_cases h2 : r.t = q.t
  · have h2' := strEq h2
    go_simp
    by_cases h1 : r.o = q.o
    · rw [if_pos h1, decide_eq_true (HP.ext h1 h2)]
    · rw [if_neg h1, decide_eq_false (fun e => h1 (by rw [e]))]
  · have h2' := strNe h2
    go_simp
    exact fun e => h2 (by rw [e])

theorem eqPP_yes {r q : HP} (h : r = q) (w : World) : (Op.equalIn 10000 64 (.agg #[.int .i64 r.o, .string r.t]) (.agg #[.int .i64 q.o, .string q.t])).run Try.prog w = .ok true w := by
  rw [eqPP, decide_eq_true h]
theorem eqPP_no {r q : HP} (h : r ≠ q) (w : World) : (Op.equalIn 10000 64 (.agg #[.int .i64 r.o, .string r.t]) (.agg #[.int .i64 q.o, .string q.t])).run Try.prog w = .ok false w := by
  rw [eqPP, decide_eq_false h]

/-- Up to k, the two lists agree. -/
def AlikeP (rs ss : List HP) (k : Nat) : Prop := ∀ j (h : j < rs.length) (h' : j < ss.length), j < k → rs[j] = ss[j]
theorem AlikeP.zero (rs ss : List HP) : AlikeP rs ss 0 := fun _ _ _ h => by omega
theorem AlikeP.next {rs ss : List HP} {k : Nat} (h : AlikeP rs ss k) (h1 : k < rs.length) (h2 : k < ss.length) (he : rs[k] = ss[k]) : AlikeP rs ss (k + 1) := fun j a b hj => by
  rcases Nat.lt_or_ge j k with h3 | h3
  · exact h j a b h3
  · obtain rfl : j = k := by omega
    exact he
theorem AlikeP.all {rs ss : List HP} (h : AlikeP rs ss rs.length) (hl : rs.length = ss.length) : sameP rs ss = true := by
  unfold sameP
  exact decide_eq_true (List.ext_getElem hl fun i h1 h2 => h i h1 h2 h1)
theorem sameP_no {rs ss : List HP} {k : Nat} (h1 : k < rs.length) (h2 : k < ss.length) (he : rs[k] ≠ ss[k]) : sameP rs ss = false := by
  unfold sameP
  exact decide_eq_false fun e => he (by subst e; rfl)
theorem sameP_len {rs ss : List HP} (h : rs.length ≠ ss.length) : sameP rs ss = false := by
  unfold sameP
  exact decide_eq_false fun e => h (by rw [e])

/-- Two receivers are the same. -/
noncomputable def sameR (r s : Rcv) : Bool := (r.n == s.n) && (decide (r.d = s.d) && ((r.f == s.f) && ((r.z == s.z) && sameP r.rs s.rs)))
theorem sameR_n {n m f g : Int} {d x : ByteArray} {rs ss : List HP} {z y : Bool} (h : (n == m) = false) : sameR ⟨n, d, rs, f, z⟩ ⟨m, x, ss, g, y⟩ = false := by simp only [sameR, h, Bool.false_and]
theorem sameR_d {n m f g : Int} {d x : ByteArray} {rs ss : List HP} {z y : Bool} (h : d ≠ x) : sameR ⟨n, d, rs, f, z⟩ ⟨m, x, ss, g, y⟩ = false := by simp only [sameR, decide_eq_false h, Bool.false_and, Bool.and_false]
theorem sameR_f {n m f g : Int} {d x : ByteArray} {rs ss : List HP} {z y : Bool} (h : (f == g) = false) : sameR ⟨n, d, rs, f, z⟩ ⟨m, x, ss, g, y⟩ = false := by simp only [sameR, h, Bool.false_and, Bool.and_false]
theorem sameR_z {n m f g : Int} {d x : ByteArray} {rs ss : List HP} {z y : Bool} (h : (z == y) = false) : sameR ⟨n, d, rs, f, z⟩ ⟨m, x, ss, g, y⟩ = false := by simp only [sameR, h, Bool.false_and, Bool.and_false]
theorem sameR_r (n f : Int) (d : ByteArray) (rs ss : List HP) (z : Bool) : sameR ⟨n, d, rs, f, z⟩ ⟨n, d, ss, f, z⟩ = sameP rs ss := by simp [sameR]
theorem sameR_self (r : Rcv) : sameR r r = true := by simp [sameR, sameP]
theorem sameR_len {n f : Int} {d : ByteArray} {rs ss : List HP} {z : Bool} (h : rs.length ≠ ss.length) : sameR ⟨n, d, rs, f, z⟩ ⟨n, d, ss, f, z⟩ = false := by rw [sameR_r, sameP_len h]

set_option maxRecDepth 100000 in
set_option maxHeartbeats 2000000 in
theorem sameRcvS (n m f g : Int) (d x : ByteArray) (z y : Bool) (a1 a2 : Option Addr) (c1 c2 : Nat) (rs ss : List HP) (w : World) (ha : Row w w.heap.size a1 (hps rs)) (hb : Row w w.heap.size a2 (hps ss)) (hl : rs.length ≤ 1048577) :
    Calls Try.prog 11 #[.agg #[.int .i64 n, .string d, .slice a1 rs.length c1, .int .i64 f, .bool z], .agg #[.int .i64 m, .string x, .slice a2 ss.length c2, .int .i64 g, .bool y]] w (BoolE (sameR ⟨n, d, rs, f, z⟩ ⟨m, x, ss, g, y⟩) w) := by
  have B2 := Lib.hid (show Below w.heap.size w ((w.alloc (.cells #[.int .i64 n, .string d, .slice a1 rs.length c1, .int .i64 f, .bool z] 26)).alloc (.cells #[.int .i64 m, .string x, .slice a2 ss.length c2, .int .i64 g, .bool y] 26)) from ((Below.refl _ w).alloc (Nat.le_refl _) _).alloc (by simp) _)
  have A0 := Lib.hid ((ha.below B2.out).mono B2.out.size)
  have B0 := Lib.hid ((hb.below B2.out).mono B2.out.size)
  clear ha hb
  by_cases hu : (n == m) = false
  · rw [sameR_n hu]
    have hu' : (n != m) = true := by simp [bne, hu]
    go_enter Try.func11, Try.ntmps11
    go_wp2_with fail
    go_ret
    exact ⟨rfl, B2.out⟩
  obtain rfl : n = m := by simpa using hu
  clear hu
  by_cases hu : d = x
  case neg =>
    rw [sameR_d hu]
    have hq := strNe hu
    have hq' : (d.toList != x.toList) = true := by simp [bne, hq]
    clear hu
    go_enter Try.func11, Try.ntmps11
    go_wp2_with fail
    go_ret
    exact ⟨rfl, B2.out⟩
  subst hu
  by_cases hu : (f == g) = false
  · rw [sameR_f hu]
    have hu' : (f != g) = true := by simp [bne, hu]
    go_enter Try.func11, Try.ntmps11
    go_wp2_with fail
    go_ret
    exact ⟨rfl, B2.out⟩
  obtain rfl : f = g := by simpa using hu
  clear hu
  by_cases hu : z = y
  case neg =>
    rw [sameR_z (by simpa using hu)]
    cases z <;> cases y
    · exact absurd rfl hu
    · clear hu
      go_enter Try.func11, Try.ntmps11
      go_wp2_with fail
      go_ret
      exact ⟨rfl, B2.out⟩
    · clear hu
      go_enter Try.func11, Try.ntmps11
      go_wp2_with fail
      go_ret
      exact ⟨rfl, B2.out⟩
    · exact absurd rfl hu
  subst hu
  cases z
  · by_cases hn : rs.length = ss.length
    case neg =>
      have hn' : ((rs.length : Int) == (ss.length : Int)) = false := by simp; omega
      have hn2 : ((rs.length : Int) != (ss.length : Int)) = true := by simp [bne, hn']
      rw [sameR_len hn]
      go_enter Try.func11, Try.ntmps11
      go_wp2_with fail
      go_ret
      exact ⟨rfl, B2.out⟩
    have HN := Lib.hid hn
    have hn' : ((rs.length : Int) == (ss.length : Int)) = true := by simp; omega
    have hn2 : ((rs.length : Int) != (ss.length : Int)) = false := by simp [bne, hn']
    clear hn
    rw [sameR_r]
    have s1 : (w.alloc (.cells #[.int .i64 n, .string d, .slice a1 rs.length c1, .int .i64 f, .bool false] 26)).heap.size = w.heap.size + 1 := by simp
    have E1 := Lib.hid (show Blk ((w.alloc (.cells #[.int .i64 n, .string d, .slice a1 rs.length c1, .int .i64 f, .bool false] 26)).alloc (.cells #[.int .i64 n, .string d, .slice a2 ss.length c2, .int .i64 f, .bool false] 26)) w.heap.size [.int .i64 n, .string d, .slice a1 rs.length c1, .int .i64 f, .bool false] from (Blk.new w [.int .i64 n, .string d, .slice a1 rs.length c1, .int .i64 f, .bool false] 26).alloc _)
    have E2 := Lib.hid (show Blk ((w.alloc (.cells #[.int .i64 n, .string d, .slice a1 rs.length c1, .int .i64 f, .bool false] 26)).alloc (.cells #[.int .i64 n, .string d, .slice a2 ss.length c2, .int .i64 f, .bool false] 26)) (w.heap.size + 1) [.int .i64 n, .string d, .slice a2 ss.length c2, .int .i64 f, .bool false] by
      have := Blk.new (w.alloc (.cells #[.int .i64 n, .string d, .slice a1 rs.length c1, .int .i64 f, .bool false] 26)) [.int .i64 n, .string d, .slice a2 ss.length c2, .int .i64 f, .bool false] 26
      rwa [s1] at this)
    clear s1
    go_enter Try.func11, Try.ntmps11
    go_wp2_with fail
    generalize ((w.alloc (.cells #[.int .i64 n, .string d, .slice a1 rs.length c1, .int .i64 f, .bool false] 26)).alloc (.cells #[.int .i64 n, .string d, .slice a2 ss.length c2, .int .i64 f, .bool false] 26)) = w2 at B2 A0 B0 E1 E2 ⊢
    clear hn' hn2
    go_loopw [5] (fun i wr => ∃ k : Nat, k ≤ rs.length ∧ i = .int .i64 k ∧ Hid (AlikeP rs ss k) ∧ Hid (Below w2.heap.size w2 wr)) (fun i _ => rs.length - (RowKit.intOf i).toNat)
    case atStart => exact ⟨0, Nat.zero_le _, rfl, AlikeP.zero _ _, Below.refl _ _⟩
    case round =>
      obtain ⟨k, hk, rfl, hal, hbl⟩ := hrel
      obtain ⟨⟨x0, x1, x2, x3, x4⟩, _, _, _, _, _⟩ := (E1.out.below hbl.out).of5
      obtain ⟨⟨y0, y1, y2, y3, y4⟩, _, _, _, _, _⟩ := (E2.out.below hbl.out).of5
      by_cases hlt : k < rs.length
      · have hlt2 : k < ss.length := by have := HN.out; omega
        obtain ⟨p, o, rfl, _, hcs⟩ := (A0.out.below hbl.out).hp hlt
        obtain ⟨q, u, rfl, _, hds⟩ := (B0.out.below hbl.out).hp hlt2
        obtain ⟨hc0, hc1⟩ := hcs k hlt
        obtain ⟨hd0, hd1⟩ := hds k hlt2
        have hk0 : (0 : Int) ≤ (k : Int) := Int.natCast_nonneg _
        have hk1 : (k : Int) < (rs.length : Int) := by omega
        have hk2 : (k : Int) < (ss.length : Int) := by omega
        clear hcs hds
        by_cases he : rs[k] = ss[k]
        · have E := fun w => eqPP_yes he w
          have HE := Lib.hid he
          clear he
          go_wp2_with fail
          go_quiet (fail)
          go_wp2_with fail
          go_roundw
          case rel => exact ⟨k + 1, by omega, by go_num, hal.out.next hlt hlt2 HE.out, below_drawn hbl.out _⟩
          case measure => simp [RowKit.intOf]; omega
        · have E := fun w => eqPP_no he w
          have HE := Lib.hid he
          clear he
          go_wp2_with fail
          go_quiet (fail)
          go_wp2_with fail
          go_ret
          exact ⟨ret_bool (sameP_no hlt hlt2 HE.out).symm, B2.out.trans ((below_drawn hbl.out _).mono B2.out.size)⟩
      · obtain rfl : k = rs.length := by omega
        go_wp2_with fail
        go_ret
        exact ⟨ret_bool (AlikeP.all hal.out HN.out).symm, B2.out.trans (hbl.out.mono B2.out.size)⟩
  · by_cases hn : rs.length = ss.length
    case neg =>
      have hn' : ((rs.length : Int) == (ss.length : Int)) = false := by simp; omega
      have hn2 : ((rs.length : Int) != (ss.length : Int)) = true := by simp [bne, hn']
      rw [sameR_len hn]
      go_enter Try.func11, Try.ntmps11
      go_wp2_with fail
      go_ret
      exact ⟨rfl, B2.out⟩
    have HN := Lib.hid hn
    have hn' : ((rs.length : Int) == (ss.length : Int)) = true := by simp; omega
    have hn2 : ((rs.length : Int) != (ss.length : Int)) = false := by simp [bne, hn']
    clear hn
    rw [sameR_r]
    have s1 : (w.alloc (.cells #[.int .i64 n, .string d, .slice a1 rs.length c1, .int .i64 f, .bool true] 26)).heap.size = w.heap.size + 1 := by simp
    have E1 := Lib.hid (show Blk ((w.alloc (.cells #[.int .i64 n, .string d, .slice a1 rs.length c1, .int .i64 f, .bool true] 26)).alloc (.cells #[.int .i64 n, .string d, .slice a2 ss.length c2, .int .i64 f, .bool true] 26)) w.heap.size [.int .i64 n, .string d, .slice a1 rs.length c1, .int .i64 f, .bool true] from (Blk.new w [.int .i64 n, .string d, .slice a1 rs.length c1, .int .i64 f, .bool true] 26).alloc _)
    have E2 := Lib.hid (show Blk ((w.alloc (.cells #[.int .i64 n, .string d, .slice a1 rs.length c1, .int .i64 f, .bool true] 26)).alloc (.cells #[.int .i64 n, .string d, .slice a2 ss.length c2, .int .i64 f, .bool true] 26)) (w.heap.size + 1) [.int .i64 n, .string d, .slice a2 ss.length c2, .int .i64 f, .bool true] by
      have := Blk.new (w.alloc (.cells #[.int .i64 n, .string d, .slice a1 rs.length c1, .int .i64 f, .bool true] 26)) [.int .i64 n, .string d, .slice a2 ss.length c2, .int .i64 f, .bool true] 26
      rwa [s1] at this)
    clear s1
    go_enter Try.func11, Try.ntmps11
    go_wp2_with fail
    generalize ((w.alloc (.cells #[.int .i64 n, .string d, .slice a1 rs.length c1, .int .i64 f, .bool true] 26)).alloc (.cells #[.int .i64 n, .string d, .slice a2 ss.length c2, .int .i64 f, .bool true] 26)) = w2 at B2 A0 B0 E1 E2 ⊢
    clear hn' hn2
    go_loopw [5] (fun i wr => ∃ k : Nat, k ≤ rs.length ∧ i = .int .i64 k ∧ Hid (AlikeP rs ss k) ∧ Hid (Below w2.heap.size w2 wr)) (fun i _ => rs.length - (RowKit.intOf i).toNat)
    case atStart => exact ⟨0, Nat.zero_le _, rfl, AlikeP.zero _ _, Below.refl _ _⟩
    case round =>
      obtain ⟨k, hk, rfl, hal, hbl⟩ := hrel
      obtain ⟨⟨x0, x1, x2, x3, x4⟩, _, _, _, _, _⟩ := (E1.out.below hbl.out).of5
      obtain ⟨⟨y0, y1, y2, y3, y4⟩, _, _, _, _, _⟩ := (E2.out.below hbl.out).of5
      by_cases hlt : k < rs.length
      · have hlt2 : k < ss.length := by have := HN.out; omega
        obtain ⟨p, o, rfl, _, hcs⟩ := (A0.out.below hbl.out).hp hlt
        obtain ⟨q, u, rfl, _, hds⟩ := (B0.out.below hbl.out).hp hlt2
        obtain ⟨hc0, hc1⟩ := hcs k hlt
        obtain ⟨hd0, hd1⟩ := hds k hlt2
        have hk0 : (0 : Int) ≤ (k : Int) := Int.natCast_nonneg _
        have hk1 : (k : Int) < (rs.length : Int) := by omega
        have hk2 : (k : Int) < (ss.length : Int) := by omega
        clear hcs hds
        by_cases he : rs[k] = ss[k]
        · have E := fun w => eqPP_yes he w
          have HE := Lib.hid he
          clear he
          go_wp2_with fail
          go_quiet (fail)
          go_wp2_with fail
          go_roundw
          case rel => exact ⟨k + 1, by omega, by go_num, hal.out.next hlt hlt2 HE.out, below_drawn hbl.out _⟩
          case measure => simp [RowKit.intOf]; omega
        · have E := fun w => eqPP_no he w
          have HE := Lib.hid he
          clear he
          go_wp2_with fail
          go_quiet (fail)
          go_wp2_with fail
          go_ret
          exact ⟨ret_bool (sameP_no hlt hlt2 HE.out).symm, B2.out.trans ((below_drawn hbl.out _).mono B2.out.size)⟩
      · obtain rfl : k = rs.length := by omega
        go_wp2_with fail
        go_ret
        exact ⟨ret_bool (AlikeP.all hal.out HN.out).symm, B2.out.trans (hbl.out.mono B2.out.size)⟩
end Go.Proofs.Ytpbnkkgfjmkcdaa
namespace Go.Proofs.Ytpbnkkgfjmkcdaa
open Go.RowKit Go.Lib

theorem tak_no {r : Rcv} {k : Int} (h : rcvOk r = false) : taken r k = r ∧ takenS r k = ⟨#[]⟩ := by unfold taken takenS; rw [h]; exact ⟨rfl, rfl⟩
/-- What is taken, what is left. -/
theorem tak_facts {n f : Int} {d : ByteArray} {rs : List HP} {z : Bool} (k : Int) (h : rcvOk ⟨n, d, rs, f, z⟩ = true) :
    ∃ (s d2 : ByteArray), taken ⟨n, d, rs, f, z⟩ k = ⟨n, d2, rs, f, z⟩ ∧ takenS ⟨n, d, rs, f, z⟩ k = s ∧ s ++ d2 = d ∧ rcvOk ⟨n, d2, rs, f, z⟩ = true ∧ (z = false → win d2 false = win d false + (s.size : Int)) ∧ s.size ≤ 32 ∧ d2.size ≤ 32 ∧ d.size ≤ 32 := by
  have h1 := rcvOk_iff.1 h
  have h2 := taken_ok h1 k
  have hd := h1.2.1
  unfold taken takenS at *
  rw [h] at h2 ⊢
  simp only [cond_true] at h2 hd ⊢
  have hk := tkn_le d k
  have hs : (d.extract 0 (tkn d k)).size = tkn d k := by rw [ByteArray.size_extract]; omega
  have hs2 : (d.extract (tkn d k) d.size).size = d.size - tkn d k := by rw [ByteArray.size_extract]; omega
  refine ⟨_, _, rfl, rfl, ?_, rcvOk_yes h2, fun _ => ?_, by omega, by omega, hd⟩
  · rw [ByteArray.extract_append_extract, Nat.min_eq_left (Nat.zero_le _), Nat.max_eq_right hk, ByteArray.extract_zero_size]
  · rw [win_is (by omega), win_is hd, hs, hs2]
    omega
theorem sameS_self (P : Rcv) : sameR P P = true := sameR_self P
end Go.Proofs.Ytpbnkkgfjmkcdaa
namespace Go.Proofs.Ytpbnkkgfjmkcdaa
open Go.RowKit Go.Lib

theorem get_some {x y : ByteArray} (h : y.size = x.size) (i : Nat) : (x.data[i]?).isSome = (y.data[i]?).isSome := by
  have h1 : x.data.size = x.size := rfl
  have h2 : y.data.size = y.size := rfl
  by_cases k : i < x.size
  · rw [Array.getElem?_eq_getElem (by omega), Array.getElem?_eq_getElem (by omega)]; rfl
  · rw [Array.getElem?_eq_none (by omega), Array.getElem?_eq_none (by omega)]
theorem arrT_some {n s l : Int} {x y : ByteArray} {T : Tab} (h : y.size = x.size) (o : Nat) : (arrT n s x l T o).isSome = (arrT n s y l T o).isSome := by
  unfold arrT
  cases T o with
  | some b => rfl
  | none =>
    simp only [Option.none_or]
    split
    · exact get_some h _
    · rfl
theorem cnt_congr {T T' : Tab} (h : ∀ o, (T o).isSome = (T' o).isSome) : cnt T = cnt T' := by
  unfold cnt
  congr 1
  funext o
  have := h o
  cases e : T o <;> cases e' : T' o <;> simp_all
theorem finAt_off (f e l : Int) (T : Tab) : finAt f false e l T = f := rfl
theorem append_nil (d : ByteArray) : d ++ (⟨#[]⟩ : ByteArray) = d := by
  apply ByteArray.ext
  simp
/-- What arrives where nothing is held and no end is known. -/
theorem arr_open {n : Int} {d : ByteArray} {rs : List HP} {s : Int} {x : ByteArray} (h : RcvOk ⟨n, d, rs, -1, false⟩) (T : Tab) (hT : arrTab ⟨n, d, rs, -1, false⟩ s x = T) :
    arrived ⟨n, d, rs, -1, false⟩ s x false = if 3 < (pcs T (cnt T) (33 - cnt T)).length then ⟨n, d, rs, -1, false⟩ else ⟨pl (n + cnt T), d ++ got T (cnt T), pcs T (cnt T) (33 - cnt T), -1, false⟩ := by
  unfold arrived
  rw [rcvOk_yes h, hT, finAt_off]
  show arrEnd _ _ _ _ = _
  unfold arrEnd
  split
  · rfl
  · rw [if_pos rfl]
theorem first_wins {n : Int} {d : ByteArray} {s : Int} {x y : ByteArray} (h : RcvOk ⟨n, d, [], -1, false⟩) (hy : y.size = x.size) :
    arrived (arrived ⟨n, d, [], -1, false⟩ s x false) s y false = arrived ⟨n, d, [], -1, false⟩ s x false := by
  obtain ⟨T, hT⟩ : ∃ T, arrTab ⟨n, d, [], -1, false⟩ s x = T := ⟨_, rfl⟩
  have e1 := arr_open h T hT
  have hc := arr_cnt h s x
  have hout := fun o ho => arrTab_out h s x o ho
  have hF := (arr_facts h s x false).ok
  rw [hT] at hc hout
  simp only at hc hout
  have hl : lim d (-1) false = 32 - (d.size : Int) := by rw [lim_yes]; exact win_is h.2.1
  rw [hl] at hc hout
  have hd := h.2.1
  simp only at hd
  by_cases h3 : 3 < (pcs T (cnt T) (33 - cnt T)).length
  · rw [if_pos h3] at e1
    rw [e1]
    obtain ⟨T2, hT2⟩ : ∃ T, arrTab ⟨n, d, [], -1, false⟩ s y = T := ⟨_, rfl⟩
    have hs : ∀ o, (T o).isSome = (T2 o).isSome := fun o => by rw [← hT, ← hT2]; exact arrT_some hy o
    rw [arr_open h T2 hT2, ← cnt_congr hs, ← (pcs_count (33 - cnt T) (fun j _ => hs (cnt T + j))).1, if_pos h3]
  · rw [if_neg h3] at e1
    rw [e1] at hF ⊢
    generalize hcc : cnt T = c at hc h3 hF e1 ⊢
    have hdz : (d ++ got T c).size = d.size + c := by rw [ByteArray.size_append, got_size]
    obtain ⟨T2, hT2⟩ : ∃ T2, arrTab ⟨pl (n + c), d ++ got T c, pcs T c (33 - c), -1, false⟩ s y = T2 := ⟨_, rfl⟩
    have hl2 : lim (d ++ got T c) (-1) false = 32 - (d.size : Int) - c := by rw [lim_yes, win_is (by omega), hdz]; omega
    have hX : ∀ o : Nat, (o : Int) < 32 - (d.size : Int) - c → x.data[(pl (n + (c + o : Nat) - s)).toNat]? = none → y.data[(pl (pl (n + c) + o - s)).toNat]? = none := fun o ho hx => by
      have e : pl (pl (n + c) + o - s) = pl (n + (c + o : Nat) - s) := by unfold pl; omega
      rw [e]
      have := get_some hy (pl (n + (c + o : Nat) - s)).toNat
      rw [hx] at this
      cases k : y.data[(pl (n + (c + o : Nat) - s)).toNat]? with
      | none => rfl
      | some b => rw [k] at this; cases this
    have hT2' : ∀ o, T2 o = if o < 33 - c then T (c + o) else none := fun o => by
      rw [← hT2]
      show arrT _ _ _ _ _ _ = _
      unfold arrT
      rw [heldT_ofPcs]
      simp only [hl2]
      by_cases ho : (o : Int) < 32 - (d.size : Int) - c
      · have h33 : o < 33 - c := by omega
        rw [if_pos ho, if_pos h33]
        cases k : T (c + o) with
        | some b => rfl
        | none =>
          have k2 : x.data[(pl (n + (c + o : Nat) - s)).toNat]? = none := by
            rw [← hT] at k
            have k3 : arrT n s x (lim d (-1) false) (heldT []) (c + o) = none := k
            unfold arrT at k3
            rw [hl, if_pos (by omega)] at k3
            simpa [heldT] using k3
          rw [hX o ho k2]
          rfl
      · rw [if_neg ho, Option.or_none]
    have hc0 : cnt T2 = 0 := cnt_eq (by decide) (by rw [hT2']; split; exact hc.2.1; rfl) (fun i hi => by omega)
    have hP : pcs T2 0 33 = pcs T c (33 - c) := by
      have e33 : 33 = (33 - c) + c := by omega
      have e2 := pcs_tail (T := T2) (n := 0) (k := 33 - c) c (fun j h1 h2 => by rw [Nat.zero_add, hT2', if_neg (by omega)])
      rw [← e33] at e2
      rw [e2]
      exact pcs_congr (fun j hj => by rw [Nat.zero_add, hT2', if_pos hj])
    rw [arr_open hF T2 hT2, hc0]
    rw [show 33 - 0 = 33 from rfl, hP, if_neg h3, got_zero, append_nil]
    congr 1
    unfold pl
    omega
end Go.Proofs.Ytpbnkkgfjmkcdaa
namespace Go.Proofs.Ytpbnkkgfjmkcdaa
open Go.RowKit Go.Lib

/-- The stream's byte at place p. -/
def letterU (p : Int) : UInt8 := UInt8.ofNat (97 + (p + 100) % 26).toNat
theorem letterU_val (p : Int) : ((letterU p).toNat : Int) = 97 + (p + 100) % 26 := by
  unfold letterU
  rw [UInt8.toNat_ofNat']
  omega
/-- What is known of a receiver that takes pieces of one stream: G has been taken. -/
structure Asm (st : Int) (r : Rcv) (G : ByteArray) : Prop where
  ok : RcvOk r
  f : r.f = -1
  z : r.z = false
  n : r.n = pl (st + (G.size + r.d.size : Nat))
  all : ∀ (i : Nat) (b : UInt8), (G ++ r.d).data[i]? = some b → b = letterU i
  held : ∀ (o : Nat) (b : UInt8), o < 33 → heldT r.rs o = some b → b = letterU ((G.size + r.d.size : Nat) + o)
theorem asm_new (st : Int) : Asm st ⟨pl st, ⟨#[]⟩, [], -1, false⟩ ⟨#[]⟩ := by
  refine ⟨⟨word_plR _, Nat.zero_le _, Nat.zero_le _, .inl rfl, fun k h => by simp at h⟩, rfl, rfl, ?_, fun i b h => ?_, fun o b _ h => ?_⟩
  · show pl st = pl (st + ((0 + 0 : Nat) : Int))
    simp
  · have h2 : ((⟨#[]⟩ : ByteArray) ++ (⟨#[]⟩ : ByteArray)).data[i]? = none := by simp
    rw [h2] at h
    cases h
  · cases h
theorem got_get (T : Tab) (c j : Nat) : (got T c).data[j]? = if j < c then some ((T j).getD 0) else none := by
  unfold got
  by_cases h : j < c
  · simp [h]
  · rw [if_neg h, Array.getElem?_eq_none (by simp; omega)]
theorem asm_arr {st : Int} {n f : Int} {d : ByteArray} {rs : List HP} {z : Bool} {G t : ByteArray} {off : Int} (h : Asm st ⟨n, d, rs, f, z⟩ G) (hC : G.size + d.size ≤ 1000) (h0 : -4 ≤ off) (h1 : off ≤ 40) (ht : t.size ≤ 8)
    (hl : ∀ (k : Nat) (b : UInt8), t.data[k]? = some b → b = letterU (off + k)) :
    Asm st (arrived ⟨n, d, rs, f, z⟩ (pl (st + off)) t false) G ∧ G.size + (arrived ⟨n, d, rs, f, z⟩ (pl (st + off)) t false).d.size ≤ G.size + d.size + 32 := by
  have hf : f = -1 := h.f
  have hz : z = false := h.z
  subst hf hz
  obtain ⟨T, hT⟩ : ∃ T, arrTab ⟨n, d, rs, -1, false⟩ (pl (st + off)) t = T := ⟨_, rfl⟩
  have e1 := arr_open h.ok T hT
  have hc := arr_cnt h.ok (pl (st + off)) t
  have hF := (arr_facts h.ok (pl (st + off)) t false).ok
  have hd := h.ok.2.1
  have hn := h.n
  rw [hT] at hc
  simp only at hc hd hn
  have hw : lim d (-1) false ≤ 32 := by rw [lim_yes, win_is hd]; omega
  have hTl : ∀ (o : Nat) (b : UInt8), o < 33 → T o = some b → b = letterU ((G.size + d.size : Nat) + o) := fun o b ho hb => by
    rw [← hT] at hb
    have hb2 : arrT n (pl (st + off)) t (lim d (-1) false) (heldT rs) o = some b := hb
    unfold arrT at hb2
    cases k : heldT rs o with
    | some b' =>
      rw [k] at hb2
      have e : b' = b := by simpa using hb2
      rw [← e]
      exact h.held o b' ho k
    | none =>
      rw [k, Option.none_or] at hb2
      split at hb2
      · have e : pl (n + o - pl (st + off)) = pl ((G.size + d.size : Nat) + o - off) := by rw [hn]; unfold pl; omega
        rw [e] at hb2
        obtain ⟨hi, _⟩ := Array.getElem?_eq_some_iff.1 hb2
        have hi2 : (pl ((G.size + d.size : Nat) + o - off)).toNat < t.size := hi
        have e2 := hl _ b hb2
        rw [e2]
        congr 1
        unfold pl at hi2 ⊢
        omega
      · cases hb2
  by_cases h3 : 3 < (pcs T (cnt T) (33 - cnt T)).length
  · rw [if_pos h3] at e1
    rw [e1]
    exact ⟨h, by simp only; omega⟩
  · rw [if_neg h3] at e1
    rw [e1] at hF ⊢
    generalize cnt T = c at hc h3 hF e1 ⊢
    have hdz : (d ++ got T c).size = d.size + c := by rw [ByteArray.size_append, got_size]
    refine ⟨⟨hF, rfl, rfl, ?_, fun i b hb => ?_, fun o b ho hb => ?_⟩, by simp only [hdz]; omega⟩
    · simp only [hdz, hn]
      unfold pl
      omega
    · have hb2 : ((G ++ (d ++ got T c)).data)[i]? = some b := hb
      have e : (G ++ (d ++ got T c)).data = (G ++ d).data ++ (got T c).data := by simp
      rw [e, Array.getElem?_append] at hb2
      have hs : (G ++ d).data.size = G.size + d.size := ByteArray.size_append
      split at hb2
      · exact h.all i b hb2
      · next hge =>
        rw [got_get] at hb2
        split at hb2
        · next hj =>
          rw [hs] at hj hb2 hge
          cases k : T (i - (G.size + d.size)) with
          | none => exact absurd k (hc.2.2 _ hj)
          | some b' =>
            rw [k] at hb2
            have e3 : b' = b := by simpa using hb2
            rw [← e3, hTl _ b' (by omega) k]
            congr 1
            omega
        · cases hb2
    · have hb2 : heldT (pcs T c (33 - c)) o = some b := hb
      rw [heldT_ofPcs] at hb2
      split at hb2
      · rw [hTl _ b (by omega) hb2]
        congr 1
        simp only [hdz]
        omega
      · cases hb2
theorem asm_tak {st : Int} {n f : Int} {d : ByteArray} {rs : List HP} {z : Bool} {G : ByteArray} (h : Asm st ⟨n, d, rs, f, z⟩ G) (q : Int) :
    ∃ (s d2 : ByteArray), taken ⟨n, d, rs, f, z⟩ q = ⟨n, d2, rs, f, z⟩ ∧ takenS ⟨n, d, rs, f, z⟩ q = s ∧ Asm st ⟨n, d2, rs, f, z⟩ (G ++ s) ∧ (G ++ s).size + d2.size = G.size + d.size ∧ s.size ≤ 32 := by
  have h2 := taken_ok h.ok q
  have hd := h.ok.2.1
  have hk := tkn_le d q
  simp only at hd
  have e1 : taken ⟨n, d, rs, f, z⟩ q = ⟨n, d.extract (tkn d q) d.size, rs, f, z⟩ := by unfold taken; rw [rcvOk_yes h.ok]; rfl
  have e2 : takenS ⟨n, d, rs, f, z⟩ q = d.extract 0 (tkn d q) := by unfold takenS; rw [rcvOk_yes h.ok]; rfl
  have hs : (d.extract 0 (tkn d q)).size = tkn d q := by rw [ByteArray.size_extract]; omega
  have hs2 : (d.extract (tkn d q) d.size).size = d.size - tkn d q := by rw [ByteArray.size_extract]; omega
  have hcat : d.extract 0 (tkn d q) ++ d.extract (tkn d q) d.size = d := by
    rw [ByteArray.extract_append_extract, Nat.min_eq_left (Nat.zero_le _), Nat.max_eq_right hk, ByteArray.extract_zero_size]
  rw [e1] at h2
  have hsz : (G ++ d.extract 0 (tkn d q)).size + (d.extract (tkn d q) d.size).size = G.size + d.size := by rw [ByteArray.size_append, hs, hs2]; omega
  refine ⟨_, _, e1, e2, ⟨h2, h.f, h.z, ?_, fun i b hb => ?_, fun o b ho hb => ?_⟩, hsz, by omega⟩
  · show n = _
    simp only [hsz]
    exact h.n
  · have e : (G ++ d.extract 0 (tkn d q)) ++ d.extract (tkn d q) d.size = G ++ d := by rw [ByteArray.append_assoc, hcat]
    have hb2 : ((G ++ d.extract 0 (tkn d q)) ++ d.extract (tkn d q) d.size).data[i]? = some b := hb
    rw [e] at hb2
    exact h.all i b hb2
  · simp only [hsz]
    exact h.held o b ho hb
end Go.Proofs.Ytpbnkkgfjmkcdaa
namespace Go.Proofs.Ytpbnkkgfjmkcdaa
open Go.RowKit Go.Lib

/-- A receiver at the beginning. -/
def EndN0 (y : Int) (w : World) (e : Ending) (w' : World) : Prop := e = .returned (.agg #[.int .i64 (pl y), .string ⟨#[]⟩, .slice none 0 0, .int .i64 (-1), .bool false]) ∧ Below w.heap.size w w'
theorem restS_s (y : Int) (w : World) : Calls Try.prog 43 #[.int .i64 y] w (SndI (pl y) w) := (restS y w).mono fun _ _ h => ⟨h.1, by rw [← h.2]; exact Below.refl _ _⟩

set_option maxRecDepth 100000 in
set_option maxHeartbeats 2000000 in
theorem rcvNewI (y : Int) (w : World) : Calls Try.prog 17 #[.int .i64 y] w (EndN0 y w) := by
  have C := Lib.hid (fun w => seqAddI_s y 0 w)
  simp only [Int.add_zero] at C
  go_enter Try.func17, Try.ntmps17
  have B0 := Lib.hid (show Below w.heap.size w (w.alloc (.cells #[.int .i64 0, .string ⟨#[]⟩, .slice none 0 0, .int .i64 0, .bool false] 26)) from ((Below.refl _ w).alloc (by simp) _))
  have Ko0 := Lib.hid (show Blk (w.alloc (.cells #[.int .i64 0, .string ⟨#[]⟩, .slice none 0 0, .int .i64 0, .bool false] 26)) (w.heap.size) [.int .i64 0, .string ⟨#[]⟩, .slice none 0 0, .int .i64 0, .bool false] from Blk.new w [.int .i64 0, .string ⟨#[]⟩, .slice none 0 0, .int .i64 0, .bool false] 26)
  go_wp2_with fail
  change Calls _ _ _ (w.alloc (.cells #[.int .i64 0, .string ⟨#[]⟩, .slice none 0 0, .int .i64 0, .bool false] 26)) _
  generalize w.alloc (.cells #[.int .i64 0, .string ⟨#[]⟩, .slice none 0 0, .int .i64 0, .bool false] 26) = v0 at B0 Ko0 ⊢
  generalize hh_o : w.heap.size = g_o at Ko0 ⊢
  have l_o : w.heap.size ≤ g_o := by omega
  clear hh_o
  refine (C.out _).mono ?_
  rintro e v1 ⟨rfl, hb⟩
  have B1 := Lib.hid (B0.out.trans (hb.mono B0.out.size))
  have Ko1 := Lib.hid (Ko0.out.below hb)
  clear hb B0 Ko0
  obtain ⟨⟨co0, co1, co2, co3, co4⟩, do0, do1, do2, do3, do4⟩ := Ko1.out.of5
  go_wp2_with fail
  exact bodyPost_ret (v := .agg #[.int .i64 (pl y), .string ⟨#[]⟩, .slice none 0 0, .int .i64 (-1), .bool false]) (by simp [results, Try.results17, go_sem, co0, co1, co2, co3, co4]) rfl ⟨rfl, (((((B1.out.setCell l_o (.int .i64 (pl y))).setCell l_o (.string ⟨#[]⟩)).setCell l_o (.slice none 0 0)).setCell l_o (.int .i64 (-1))).setCell l_o (.bool false))⟩

set_option maxRecDepth 100000 in
set_option maxHeartbeats 2000000 in
theorem rcvNewS (y : Int) (w : World) : Calls Try.prog 75 #[.int .i64 y] w (EndN0 y w) := by
  have C := Lib.hid (fun w => restS_s y w)
  go_enter Try.func75, Try.ntmps75
  have B0 := Lib.hid (show Below w.heap.size w (w.alloc (.cells #[.int .i64 0, .string ⟨#[]⟩, .slice none 0 0, .int .i64 0, .bool false] 26)) from ((Below.refl _ w).alloc (by simp) _))
  have Ko0 := Lib.hid (show Blk (w.alloc (.cells #[.int .i64 0, .string ⟨#[]⟩, .slice none 0 0, .int .i64 0, .bool false] 26)) (w.heap.size) [.int .i64 0, .string ⟨#[]⟩, .slice none 0 0, .int .i64 0, .bool false] from Blk.new w [.int .i64 0, .string ⟨#[]⟩, .slice none 0 0, .int .i64 0, .bool false] 26)
  go_wp2_with fail
  change Calls _ _ _ (w.alloc (.cells #[.int .i64 0, .string ⟨#[]⟩, .slice none 0 0, .int .i64 0, .bool false] 26)) _
  generalize w.alloc (.cells #[.int .i64 0, .string ⟨#[]⟩, .slice none 0 0, .int .i64 0, .bool false] 26) = v0 at B0 Ko0 ⊢
  generalize hh_o : w.heap.size = g_o at Ko0 ⊢
  have l_o : w.heap.size ≤ g_o := by omega
  clear hh_o
  refine (C.out _).mono ?_
  rintro e v1 ⟨rfl, hb⟩
  have B1 := Lib.hid (B0.out.trans (hb.mono B0.out.size))
  have Ko1 := Lib.hid (Ko0.out.below hb)
  clear hb B0 Ko0
  obtain ⟨⟨co0, co1, co2, co3, co4⟩, do0, do1, do2, do3, do4⟩ := Ko1.out.of5
  go_wp2_with fail
  exact bodyPost_ret (v := .agg #[.int .i64 (pl y), .string ⟨#[]⟩, .slice none 0 0, .int .i64 (-1), .bool false]) (by simp [results, Try.results75, go_sem, co0, co1, co2, co3, co4]) rfl ⟨rfl, (((((B1.out.setCell l_o (.int .i64 (pl y))).setCell l_o (.string ⟨#[]⟩)).setCell l_o (.slice none 0 0)).setCell l_o (.int .i64 (-1))).setCell l_o (.bool false))⟩
end Go.Proofs.Ytpbnkkgfjmkcdaa
namespace Go.Proofs.Ytpbnkkgfjmkcdaa
open Go.RowKit Go.Lib

set_option maxRecDepth 100000 in
set_option maxHeartbeats 4000000 in
theorem takenInI (n f : Int) (z : Bool) (d : ByteArray) (a : Option Addr) (cap : Nat) (rs : List HP) (k : Int) (hB : RB d rs) (w : World) (hrow : HasP w a cap rs) :
    Calls Try.prog 20 #[.agg #[.int .i64 n, .string d, .slice a rs.length cap, .int .i64 f, .bool z], .int .i64 k] w (EndTk (taken ⟨n, d, rs, f, z⟩ k) (takenS ⟨n, d, rs, f, z⟩ k) w) := by
  have OK := fun w (h : HasP w a cap rs) => rcvOkI n f z d a cap rs hB w h.1
  have HR := Lib.hid hrow
  have hl := Lib.hid hB.2.1
  have hds := Lib.hid hB.1
  clear hrow hB
  unfold EndTk taken takenS
  cases hok : rcvOk ⟨n, d, rs, f, z⟩ with
  | false =>
    simp only [hok] at OK
    simp only [cond_false]
    replace OK := Lib.hid OK
    clear hok
    go_enter Try.func20, Try.ntmps20
    have B0 := Lib.hid (show Below w.heap.size w ((w.alloc (.cells #[.int .i64 n, .string d, .slice a rs.length cap, .int .i64 f, .bool z] 26)).alloc (.cells #[.int .i64 0, .string ⟨#[]⟩, .slice none 0 0, .int .i64 0, .bool false] 26)) from (((Below.refl _ w).alloc (by simp) _).alloc (by simp) _))
    have Kl0 := Lib.hid (show Blk ((w.alloc (.cells #[.int .i64 n, .string d, .slice a rs.length cap, .int .i64 f, .bool z] 26)).alloc (.cells #[.int .i64 0, .string ⟨#[]⟩, .slice none 0 0, .int .i64 0, .bool false] 26)) (w.heap.size) [.int .i64 n, .string d, .slice a rs.length cap, .int .i64 f, .bool z] from (Blk.new w [.int .i64 n, .string d, .slice a rs.length cap, .int .i64 f, .bool z] 26).alloc (.cells #[.int .i64 0, .string ⟨#[]⟩, .slice none 0 0, .int .i64 0, .bool false] 26))
    have s1 : (w.alloc (.cells #[.int .i64 n, .string d, .slice a rs.length cap, .int .i64 f, .bool z] 26)).heap.size = w.heap.size + 1 := by simp
    have Ko0 := Lib.hid (show Blk ((w.alloc (.cells #[.int .i64 n, .string d, .slice a rs.length cap, .int .i64 f, .bool z] 26)).alloc (.cells #[.int .i64 0, .string ⟨#[]⟩, .slice none 0 0, .int .i64 0, .bool false] 26)) (w.heap.size + 1) [.int .i64 0, .string ⟨#[]⟩, .slice none 0 0, .int .i64 0, .bool false] by have h0 := Blk.new (w.alloc (.cells #[.int .i64 n, .string d, .slice a rs.length cap, .int .i64 f, .bool z] 26)) [.int .i64 0, .string ⟨#[]⟩, .slice none 0 0, .int .i64 0, .bool false] 26; rwa [s1] at h0)
    have n_l_o : w.heap.size ≠ w.heap.size + 1 := by omega
    clear s1
    go_wp2_with fail
    change Calls _ _ _ ((w.alloc (.cells #[.int .i64 n, .string d, .slice a rs.length cap, .int .i64 f, .bool z] 26)).alloc (.cells #[.int .i64 0, .string ⟨#[]⟩, .slice none 0 0, .int .i64 0, .bool false] 26)) _
    generalize (w.alloc (.cells #[.int .i64 n, .string d, .slice a rs.length cap, .int .i64 f, .bool z] 26)).alloc (.cells #[.int .i64 0, .string ⟨#[]⟩, .slice none 0 0, .int .i64 0, .bool false] 26) = v0 at B0 Kl0 Ko0 ⊢
    generalize hh_o : w.heap.size + 1 = g_o at Ko0 n_l_o ⊢
    generalize hh_l : w.heap.size = g_l at Kl0 n_l_o ⊢
    have l_l : w.heap.size ≤ g_l := by omega
    have l_o : w.heap.size ≤ g_o := by omega
    clear hh_l hh_o
    have hz0 := B0.out.size
    have lt0_l := Kl0.out.lt
    have lt0_o := Ko0.out.lt
    refine (rcopyI n f z d a cap rs _ (HR.out.below B0.out).1 (HR.out.below B0.out).2 (by have := hl.out; omega)).mono ?_
    rintro e v1 ⟨a2, cap2, rfl, ho_p, hb⟩
    have hm := ho_p
    have B1 := Lib.hid (B0.out.trans (hb.mono B0.out.size))
    have Kl1 := Lib.hid (Kl0.out.below hb)
    have Ko1 := Lib.hid (Ko0.out.below hb)
    clear hb B0 Kl0 Ko0
    clear hm
    replace ho_p := (show World.ownsRow v1 _ 64 2 (.slice a2 rs.length cap2) rs.length (hps rs) from ho_p)
    have m_p_l : (.slice a2 rs.length cap2 : Value).ownBlock ≠ some g_l := fun e => by have h1 := (ho_p.lt _ e).1; have h2 := lt0_l; omega
    have m_p_o : (.slice a2 rs.length cap2 : Value).ownBlock ≠ some g_o := fun e => by have h1 := (ho_p.lt _ e).1; have h2 := lt0_o; omega
    have Np1 := Lib.hid ho_p
    clear ho_p
    have m_p_x : (.slice a2 rs.length cap2 : Value).ownBlock ≠ some v1.heap.size := fun e => by have h1 := (Np1.out.lt _ e).2; omega
    have Npn := Lib.hid (own_below Np1.out ((Below.refl _ v1).alloc (Nat.le_refl _) (.cells #[.int .i64 n, .string d, .slice a2 rs.length cap2, .int .i64 f, .bool z] 26)))
    clear Np1
    have Kxn := Lib.hid (Blk.new v1 [.int .i64 n, .string d, .slice a2 rs.length cap2, .int .i64 f, .bool z] 26)
    have l_x : w.heap.size ≤ v1.heap.size := B1.out.size
    have n_l_x : g_l ≠ v1.heap.size := by have h1 := Kl1.out.lt; omega
    have n_o_x : g_o ≠ v1.heap.size := by have h1 := Ko1.out.lt; omega
    have Bn := Lib.hid (B1.out.alloc B1.out.size (.cells #[.int .i64 n, .string d, .slice a2 rs.length cap2, .int .i64 f, .bool z] 26))
    have Kln := Lib.hid (Kl1.out.alloc (.cells #[.int .i64 n, .string d, .slice a2 rs.length cap2, .int .i64 f, .bool z] 26))
    have Kon := Lib.hid (Ko1.out.alloc (.cells #[.int .i64 n, .string d, .slice a2 rs.length cap2, .int .i64 f, .bool z] 26))
    clear B1 Kl1 Ko1
    obtain ⟨⟨cl0, cl1, cl2, cl3, cl4⟩, dl0, dl1, dl2, dl3, dl4⟩ := Kln.out.of5
    obtain ⟨⟨co0, co1, co2, co3, co4⟩, do0, do1, do2, do3, do4⟩ := Kon.out.of5
    go_wp2_with fail
    clear cl0 cl1 cl2 cl3 cl4 dl0 dl1 dl2 dl3 dl4 co0 co1 co2 co3 co4 do0 do1 do2 do3 do4
    change Calls _ _ _ (v1.alloc (.cells #[.int .i64 n, .string d, .slice a2 rs.length cap2, .int .i64 f, .bool z] 26)) _
    generalize v1.alloc (.cells #[.int .i64 n, .string d, .slice a2 rs.length cap2, .int .i64 f, .bool z] 26) = v2 at Kxn Bn Kln Kon Npn ⊢
    generalize v1.heap.size = g_x at Kxn l_x n_l_x n_o_x m_p_x ⊢
    clear v1
    have Kl2 := Kln
    clear Kln
    have Ko2 := Kon
    clear Kon
    have Kx2 := Kxn
    clear Kxn
    have B2 := Bn
    clear Bn
    have Np2 := Npn
    clear Npn
    refine (OK.out _ (HR.out.below B2.out)).mono ?_
    rintro e v3 ⟨rfl, hb⟩
    have B3 := Lib.hid (B2.out.trans (hb.mono B2.out.size))
    have Kl3 := Lib.hid (Kl2.out.below hb)
    have Ko3 := Lib.hid (Ko2.out.below hb)
    have Kx3 := Lib.hid (Kx2.out.below hb)
    have Np3 := Lib.hid (own_below Np2.out hb)
    clear hb B2 Kl2 Ko2 Kx2 Np2
    obtain ⟨⟨cl0, cl1, cl2, cl3, cl4⟩, dl0, dl1, dl2, dl3, dl4⟩ := Kl3.out.of5
    obtain ⟨⟨co0, co1, co2, co3, co4⟩, do0, do1, do2, do3, do4⟩ := Ko3.out.of5
    obtain ⟨⟨cx0, cx1, cx2, cx3, cx4⟩, dx0, dx1, dx2, dx3, dx4⟩ := Kx3.out.of5
    go_wp2_with fail
    refine bodyPost_ret (v := .tuple #[.agg #[.int .i64 n, .string d, .slice a2 rs.length cap2, .int .i64 f, .bool z], .string ⟨#[]⟩]) (by simp [results, Try.results20, go_sem, co0, co1, co2, co3, co4]) rfl ⟨_, _, rfl, ?_, ?_⟩
    · exact own_down (own_setn (own_setn (own_setn (own_setn (own_setn Np3.out (g := g_o) (k := 0) m_p_o (.int .i64 n)) (g := g_o) (k := 1) m_p_o (.string d)) (g := g_o) (k := 2) m_p_o (.slice a2 rs.length cap2)) (g := g_o) (k := 3) m_p_o (.int .i64 f)) (g := g_o) (k := 4) m_p_o (.bool z)) hz0
    · exact (((((B3.out.setCell l_o (.int .i64 n)).setCell l_o (.string d)).setCell l_o (.slice a2 rs.length cap2)).setCell l_o (.int .i64 f)).setCell l_o (.bool z))
  | true =>
    simp only [hok] at OK
    simp only [cond_true]
    replace OK := Lib.hid OK
    have HN := Lib.hid (tkn_is d k)
    have HM := Lib.hid (tkn_le d k)
    generalize tkn d k = m at HN HM ⊢
    clear hok
    go_enter Try.func20, Try.ntmps20
    have B0 := Lib.hid (show Below w.heap.size w ((w.alloc (.cells #[.int .i64 n, .string d, .slice a rs.length cap, .int .i64 f, .bool z] 26)).alloc (.cells #[.int .i64 0, .string ⟨#[]⟩, .slice none 0 0, .int .i64 0, .bool false] 26)) from (((Below.refl _ w).alloc (by simp) _).alloc (by simp) _))
    have Kl0 := Lib.hid (show Blk ((w.alloc (.cells #[.int .i64 n, .string d, .slice a rs.length cap, .int .i64 f, .bool z] 26)).alloc (.cells #[.int .i64 0, .string ⟨#[]⟩, .slice none 0 0, .int .i64 0, .bool false] 26)) (w.heap.size) [.int .i64 n, .string d, .slice a rs.length cap, .int .i64 f, .bool z] from (Blk.new w [.int .i64 n, .string d, .slice a rs.length cap, .int .i64 f, .bool z] 26).alloc (.cells #[.int .i64 0, .string ⟨#[]⟩, .slice none 0 0, .int .i64 0, .bool false] 26))
    have s1 : (w.alloc (.cells #[.int .i64 n, .string d, .slice a rs.length cap, .int .i64 f, .bool z] 26)).heap.size = w.heap.size + 1 := by simp
    have Ko0 := Lib.hid (show Blk ((w.alloc (.cells #[.int .i64 n, .string d, .slice a rs.length cap, .int .i64 f, .bool z] 26)).alloc (.cells #[.int .i64 0, .string ⟨#[]⟩, .slice none 0 0, .int .i64 0, .bool false] 26)) (w.heap.size + 1) [.int .i64 0, .string ⟨#[]⟩, .slice none 0 0, .int .i64 0, .bool false] by have h0 := Blk.new (w.alloc (.cells #[.int .i64 n, .string d, .slice a rs.length cap, .int .i64 f, .bool z] 26)) [.int .i64 0, .string ⟨#[]⟩, .slice none 0 0, .int .i64 0, .bool false] 26; rwa [s1] at h0)
    have n_l_o : w.heap.size ≠ w.heap.size + 1 := by omega
    clear s1
    go_wp2_with fail
    change Calls _ _ _ ((w.alloc (.cells #[.int .i64 n, .string d, .slice a rs.length cap, .int .i64 f, .bool z] 26)).alloc (.cells #[.int .i64 0, .string ⟨#[]⟩, .slice none 0 0, .int .i64 0, .bool false] 26)) _
    generalize (w.alloc (.cells #[.int .i64 n, .string d, .slice a rs.length cap, .int .i64 f, .bool z] 26)).alloc (.cells #[.int .i64 0, .string ⟨#[]⟩, .slice none 0 0, .int .i64 0, .bool false] 26) = v0 at B0 Kl0 Ko0 ⊢
    generalize hh_o : w.heap.size + 1 = g_o at Ko0 n_l_o ⊢
    generalize hh_l : w.heap.size = g_l at Kl0 n_l_o ⊢
    have l_l : w.heap.size ≤ g_l := by omega
    have l_o : w.heap.size ≤ g_o := by omega
    clear hh_l hh_o
    have hz0 := B0.out.size
    have lt0_l := Kl0.out.lt
    have lt0_o := Ko0.out.lt
    refine (rcopyI n f z d a cap rs _ (HR.out.below B0.out).1 (HR.out.below B0.out).2 (by have := hl.out; omega)).mono ?_
    rintro e v1 ⟨a2, cap2, rfl, ho_p, hb⟩
    have hm := ho_p
    have B1 := Lib.hid (B0.out.trans (hb.mono B0.out.size))
    have Kl1 := Lib.hid (Kl0.out.below hb)
    have Ko1 := Lib.hid (Ko0.out.below hb)
    clear hb B0 Kl0 Ko0
    clear hm
    replace ho_p := (show World.ownsRow v1 _ 64 2 (.slice a2 rs.length cap2) rs.length (hps rs) from ho_p)
    have m_p_l : (.slice a2 rs.length cap2 : Value).ownBlock ≠ some g_l := fun e => by have h1 := (ho_p.lt _ e).1; have h2 := lt0_l; omega
    have m_p_o : (.slice a2 rs.length cap2 : Value).ownBlock ≠ some g_o := fun e => by have h1 := (ho_p.lt _ e).1; have h2 := lt0_o; omega
    have Np1 := Lib.hid ho_p
    clear ho_p
    have m_p_x : (.slice a2 rs.length cap2 : Value).ownBlock ≠ some v1.heap.size := fun e => by have h1 := (Np1.out.lt _ e).2; omega
    have Npn := Lib.hid (own_below Np1.out ((Below.refl _ v1).alloc (Nat.le_refl _) (.cells #[.int .i64 n, .string d, .slice a2 rs.length cap2, .int .i64 f, .bool z] 26)))
    clear Np1
    have Kxn := Lib.hid (Blk.new v1 [.int .i64 n, .string d, .slice a2 rs.length cap2, .int .i64 f, .bool z] 26)
    have l_x : w.heap.size ≤ v1.heap.size := B1.out.size
    have n_l_x : g_l ≠ v1.heap.size := by have h1 := Kl1.out.lt; omega
    have n_o_x : g_o ≠ v1.heap.size := by have h1 := Ko1.out.lt; omega
    have Bn := Lib.hid (B1.out.alloc B1.out.size (.cells #[.int .i64 n, .string d, .slice a2 rs.length cap2, .int .i64 f, .bool z] 26))
    have Kln := Lib.hid (Kl1.out.alloc (.cells #[.int .i64 n, .string d, .slice a2 rs.length cap2, .int .i64 f, .bool z] 26))
    have Kon := Lib.hid (Ko1.out.alloc (.cells #[.int .i64 n, .string d, .slice a2 rs.length cap2, .int .i64 f, .bool z] 26))
    clear B1 Kl1 Ko1
    obtain ⟨⟨cl0, cl1, cl2, cl3, cl4⟩, dl0, dl1, dl2, dl3, dl4⟩ := Kln.out.of5
    obtain ⟨⟨co0, co1, co2, co3, co4⟩, do0, do1, do2, do3, do4⟩ := Kon.out.of5
    go_wp2_with fail
    clear cl0 cl1 cl2 cl3 cl4 dl0 dl1 dl2 dl3 dl4 co0 co1 co2 co3 co4 do0 do1 do2 do3 do4
    change Calls _ _ _ (v1.alloc (.cells #[.int .i64 n, .string d, .slice a2 rs.length cap2, .int .i64 f, .bool z] 26)) _
    generalize v1.alloc (.cells #[.int .i64 n, .string d, .slice a2 rs.length cap2, .int .i64 f, .bool z] 26) = v2 at Kxn Bn Kln Kon Npn ⊢
    generalize v1.heap.size = g_x at Kxn l_x n_l_x n_o_x m_p_x ⊢
    clear v1
    have Kl2 := Kln
    clear Kln
    have Ko2 := Kon
    clear Kon
    have Kx2 := Kxn
    clear Kxn
    have B2 := Bn
    clear Bn
    have Np2 := Npn
    clear Npn
    refine (OK.out _ (HR.out.below B2.out)).mono ?_
    rintro e v3 ⟨rfl, hb⟩
    have B3 := Lib.hid (B2.out.trans (hb.mono B2.out.size))
    have Kl3 := Lib.hid (Kl2.out.below hb)
    have Ko3 := Lib.hid (Ko2.out.below hb)
    have Kx3 := Lib.hid (Kx2.out.below hb)
    have Np3 := Lib.hid (own_below Np2.out hb)
    clear hb B2 Kl2 Ko2 Kx2 Np2
    obtain ⟨⟨cl0, cl1, cl2, cl3, cl4⟩, dl0, dl1, dl2, dl3, dl4⟩ := Kl3.out.of5
    obtain ⟨⟨co0, co1, co2, co3, co4⟩, do0, do1, do2, do3, do4⟩ := Ko3.out.of5
    obtain ⟨⟨cx0, cx1, cx2, cx3, cx4⟩, dx0, dx1, dx2, dx3, dx4⟩ := Kx3.out.of5
    go_upto_region 5 with fail
    rw [HN.out]
    have hm1 : ¬ ((m : Int) < 0) := by omega
    have hm2 : ¬ ((d.size : Int) < (m : Int)) := by have := HM.out; omega
    have Np4 := Lib.hid (own_setn Np3.out (g := g_x) (k := 1) m_p_x (.string (d.extract m d.size)))
    have Kl4 := Lib.hid (show Blk (v3.setCell ⟨g_x, 1, none⟩ (.string (d.extract m d.size))) g_l [.int .i64 n, .string d, .slice a rs.length cap, .int .i64 f, .bool z] from (Kl3.out.setOther ⟨g_x, 1, none⟩ (.string (d.extract m d.size)) (n_l_x)))
    have Ko4 := Lib.hid (show Blk (v3.setCell ⟨g_x, 1, none⟩ (.string (d.extract m d.size))) g_o [.int .i64 0, .string ⟨#[]⟩, .slice none 0 0, .int .i64 0, .bool false] from (Ko3.out.setOther ⟨g_x, 1, none⟩ (.string (d.extract m d.size)) (n_o_x)))
    have Kx4 := Lib.hid (show Blk (v3.setCell ⟨g_x, 1, none⟩ (.string (d.extract m d.size))) g_x [.int .i64 n, .string (d.extract m d.size), .slice a2 rs.length cap2, .int .i64 f, .bool z] from (Kx3.out.set 1 (.string (d.extract m d.size))))
    have B4 := Lib.hid (show Below w.heap.size w (v3.setCell ⟨g_x, 1, none⟩ (.string (d.extract m d.size))) from (B3.out.setCell l_x (.string (d.extract m d.size))))
    clear B3
    go_upto_region 6 with fail
    clear Kl3 Ko3 Kx3
    clear cl0 cl1 cl2 cl3 cl4 dl0 dl1 dl2 dl3 dl4 co0 co1 co2 co3 co4 do0 do1 do2 do3 do4 cx0 cx1 cx2 cx3 cx4 dx0 dx1 dx2 dx3 dx4
    generalize v3.setCell ⟨g_x, 1, none⟩ (.string (d.extract m d.size)) = v4 at B4 Kl4 Ko4 Kx4 Np4 ⊢
    clear Np3
    refine wp_region_noPanic ?_
    refine wp_region_held_drew (S := fun w' => Blk w' g_l [.int .i64 n, .string d, .slice a rs.length cap, .int .i64 f, .bool z] ∧ Blk w' g_x [.int .i64 n, .string (d.extract m d.size), .slice a2 rs.length cap2, .int .i64 f, .bool z]) (by kernel_rfl) ⟨Kl4.out, Kx4.out⟩ (fun hS => ?_)
    refine wpAnyH_take (i := 0) (v := .agg #[.int .i64 n, .string (d.extract m d.size), .slice a2 rs.length cap2, .int .i64 f, .bool z]) rfl (by kernel_rfl) (by kernel_rfl) (by kernel_rfl) (fun _ _ _ h => h) (Or.inl ⟨rfl, by intro w hS; obtain ⟨⟨h0, h1, h2, h3, h4⟩, _⟩ := hS.2.of5; go_simp⟩) hS ?_
    refine wpAnyH_take (i := 1) (v := .pointer (some ⟨g_l, 1, none⟩)) rfl (by kernel_rfl) (by kernel_rfl) (by kernel_rfl) (fun _ _ _ h => h) (Or.inl ⟨rfl, by intro w hS; go_simp⟩) hS ?_
    refine wpAnyH_take (i := 2) (v := .string d) rfl (by kernel_rfl) (by kernel_rfl) (by kernel_rfl) (fun _ _ _ h => h) (Or.inl ⟨rfl, by intro w hS; obtain ⟨⟨h0, h1, h2, h3, h4⟩, _⟩ := hS.1.of5; go_simp⟩) hS ?_
    refine wpAnyH_take (i := 3) (v := .int .i64 (m : Int)) rfl (by kernel_rfl) (by kernel_rfl) (by kernel_rfl) (fun _ _ _ h => h) (Or.inl ⟨rfl, by intro w hS; go_simp⟩) hS ?_
    refine wpAnyH_take (i := 4) (v := .string (d.extract 0 m)) rfl (by kernel_rfl) (by kernel_rfl) (by kernel_rfl) (fun _ _ _ h => h) (Or.inl ⟨rfl, by intro w hS; go_simp; exact fun hlt => absurd hlt (Nat.not_lt.2 HM.out)⟩) hS ?_
    obtain ⟨⟨co0, co1, co2, co3, co4⟩, do0, do1, do2, do3, do4⟩ := Ko4.out.of5
    refine wpAnyH_ready (rs := [5]) (by kernel_rfl) (by simp) ?_
    refine AllReadyH.cons (i := 5) rfl (fun K hK => ?zr3) AllReadyH.nil
    rw [if_pos (by rfl)]
    go_simp
    clear hS
    have Kl5 := Lib.hid (show Blk ((((((v4.setCell ⟨g_o, 0, none⟩ (.int .i64 n)).setCell ⟨g_o, 1, none⟩ (.string (d.extract m d.size))).setCell ⟨g_o, 2, none⟩ (.slice a2 rs.length cap2)).setCell ⟨g_o, 3, none⟩ (.int .i64 f)).setCell ⟨g_o, 4, none⟩ (.bool z)).drew) g_l [.int .i64 n, .string d, .slice a rs.length cap, .int .i64 f, .bool z] from (((((Kl4.out.setOther ⟨g_o, 0, none⟩ (.int .i64 n) (n_l_o)).setOther ⟨g_o, 1, none⟩ (.string (d.extract m d.size)) (n_l_o)).setOther ⟨g_o, 2, none⟩ (.slice a2 rs.length cap2) (n_l_o)).setOther ⟨g_o, 3, none⟩ (.int .i64 f) (n_l_o)).setOther ⟨g_o, 4, none⟩ (.bool z) (n_l_o)))
    have Ko5 := Lib.hid (show Blk ((((((v4.setCell ⟨g_o, 0, none⟩ (.int .i64 n)).setCell ⟨g_o, 1, none⟩ (.string (d.extract m d.size))).setCell ⟨g_o, 2, none⟩ (.slice a2 rs.length cap2)).setCell ⟨g_o, 3, none⟩ (.int .i64 f)).setCell ⟨g_o, 4, none⟩ (.bool z)).drew) g_o [.int .i64 n, .string (d.extract m d.size), .slice a2 rs.length cap2, .int .i64 f, .bool z] from (((((Ko4.out.set 0 (.int .i64 n)).set 1 (.string (d.extract m d.size))).set 2 (.slice a2 rs.length cap2)).set 3 (.int .i64 f)).set 4 (.bool z)))
    have Kx5 := Lib.hid (show Blk ((((((v4.setCell ⟨g_o, 0, none⟩ (.int .i64 n)).setCell ⟨g_o, 1, none⟩ (.string (d.extract m d.size))).setCell ⟨g_o, 2, none⟩ (.slice a2 rs.length cap2)).setCell ⟨g_o, 3, none⟩ (.int .i64 f)).setCell ⟨g_o, 4, none⟩ (.bool z)).drew) g_x [.int .i64 n, .string (d.extract m d.size), .slice a2 rs.length cap2, .int .i64 f, .bool z] from (((((Kx4.out.setOther ⟨g_o, 0, none⟩ (.int .i64 n) (fun e => n_o_x e.symm)).setOther ⟨g_o, 1, none⟩ (.string (d.extract m d.size)) (fun e => n_o_x e.symm)).setOther ⟨g_o, 2, none⟩ (.slice a2 rs.length cap2) (fun e => n_o_x e.symm)).setOther ⟨g_o, 3, none⟩ (.int .i64 f) (fun e => n_o_x e.symm)).setOther ⟨g_o, 4, none⟩ (.bool z) (fun e => n_o_x e.symm)))
    have B5 := Lib.hid (show Below w.heap.size w ((((((v4.setCell ⟨g_o, 0, none⟩ (.int .i64 n)).setCell ⟨g_o, 1, none⟩ (.string (d.extract m d.size))).setCell ⟨g_o, 2, none⟩ (.slice a2 rs.length cap2)).setCell ⟨g_o, 3, none⟩ (.int .i64 f)).setCell ⟨g_o, 4, none⟩ (.bool z)).drew) from (((((B4.out.setCell l_o (.int .i64 n)).setCell l_o (.string (d.extract m d.size))).setCell l_o (.slice a2 rs.length cap2)).setCell l_o (.int .i64 f)).setCell l_o (.bool z)).drew)
    have Np5 := Lib.hid (own_drewn (own_setn (own_setn (own_setn (own_setn (own_setn Np4.out (g := g_o) (k := 0) m_p_o (.int .i64 n)) (g := g_o) (k := 1) m_p_o (.string (d.extract m d.size))) (g := g_o) (k := 2) m_p_o (.slice a2 rs.length cap2)) (g := g_o) (k := 3) m_p_o (.int .i64 f)) (g := g_o) (k := 4) m_p_o (.bool z)))
    refine hK.out _ _ ⟨Kl5.out, Kx5.out⟩ (fun hS => ?_)
    clear hK K B4 co0 co1 co2 co3 co4 do0 do1 do2 do3 do4 Kl4 Ko4 Kx4 Np4
    generalize (((((v4.setCell ⟨g_o, 0, none⟩ (.int .i64 n)).setCell ⟨g_o, 1, none⟩ (.string (d.extract m d.size))).setCell ⟨g_o, 2, none⟩ (.slice a2 rs.length cap2)).setCell ⟨g_o, 3, none⟩ (.int .i64 f)).setCell ⟨g_o, 4, none⟩ (.bool z)).drew = v5 at hS Kl5 Ko5 Kx5 B5 Np5 ⊢
    refine wpAnyH_take (i := 6) (v := .string (d.extract 0 m)) rfl (by kernel_rfl) (by kernel_rfl) (by kernel_rfl) (fun _ _ _ h => h) (Or.inl ⟨rfl, by intro w hS; go_simp⟩) hS ?_
    refine wpAnyH_done (by kernel_rfl) ?_ _
    refine NoPanic.normal ?_
    obtain ⟨⟨co0, co1, co2, co3, co4⟩, do0, do1, do2, do3, do4⟩ := Ko5.out.of5
    go_wp2_with fail
    refine bodyPost_ret (v := .tuple #[.agg #[.int .i64 n, .string (d.extract m d.size), .slice a2 rs.length cap2, .int .i64 f, .bool z], .string (d.extract 0 m)]) (by simp [results, Try.results20, go_sem, co0, co1, co2, co3, co4]) rfl ⟨_, _, rfl, ?_, ?_⟩
    · exact own_down Np5.out hz0
    · exact B5.out
end Go.Proofs.Ytpbnkkgfjmkcdaa
namespace Go.Proofs.Ytpbnkkgfjmkcdaa
open Go.RowKit Go.Lib

theorem own_g {w w' : World} {base size n g : Nat} {e : TypeId} {v : Value} {xs : List Value} (h : w.ownsRow base e size v n xs) (hb : g < base) (hg : w.grownBy w' (some g)) : w'.ownsRow base e size v n xs :=
  h.kept hg (.inr (fun e => by have := (h.lt _ e).1; omega))
/-- The pieces of a drawn receiver: their row is new or there is none. -/
def DrnP (base g : Nat) (a : Option Addr) (cap : Nat) (rs : List HP) (w : World) : Prop := w.ownsRow base 64 2 (.slice a rs.length cap) rs.length (hps rs) ∧ g < base
theorem DrnP.grown {base g cap : Nat} {a : Option Addr} {rs : List HP} {w w' : World} (h : DrnP base g a cap rs w) (hg : w.grownBy w' (some g)) : DrnP base g a cap rs w' := ⟨own_g h.1 h.2 hg, h.2⟩
theorem DrnP.below {base g cap : Nat} {a : Option Addr} {rs : List HP} {w w' : World} (h : DrnP base g a cap rs w) (hb : Below w.heap.size w w') : DrnP base g a cap rs w' := ⟨own_below h.1 hb, h.2⟩
theorem DrnP.alloc {base g cap : Nat} {a : Option Addr} {rs : List HP} {w : World} (h : DrnP base g a cap rs w) (o : Obj) : DrnP base g a cap rs (w.alloc o) := ⟨h.1.alloc o, h.2⟩
theorem DrnP.set {base g cap b : Nat} {a : Option Addr} {rs : List HP} {w : World} (h : DrnP base g a cap rs w) (k : Nat) (v : Value) (hb : b < base ∨ (Value.slice a rs.length cap).ownBlock ≠ some b) : DrnP base g a cap rs (w.setCell ⟨b, k, none⟩ v) := by
  rcases hb with hb | hb
  · exact ⟨own_set h.1 b k hb v, h.2⟩
  · exact ⟨h.1.kept (row := some b) ⟨rfl, rfl, rfl, by simp, fun j _ hj => Below.heap_setCell w ⟨b, k, none⟩ v j (fun e => hj (by rw [e]))⟩ (.inr hb), h.2⟩
theorem DrnP.apart {base g cap : Nat} {a : Option Addr} {rs : List HP} {w : World} (h : DrnP base g a cap rs w) : (Value.slice a rs.length cap).ownBlock ≠ some w.heap.size := fun e => by have := (h.1.lt _ e).2; omega
/-- A new block that is only read. -/
def HIs (g r : Nat) (o : Obj) (w : World) : Prop := w.heap[r]? = some o ∧ r ≠ g
theorem HIs.lt {g r : Nat} {o : Obj} {w : World} (h : HIs g r o w) : r < w.heap.size := by
  rcases Nat.lt_or_ge r w.heap.size with hlt | hge
  · exact hlt
  · have h1 := h.1; rw [Array.getElem?_eq_none hge] at h1; cases h1
theorem HIs.grown {g r : Nat} {o : Obj} {w w' : World} (h : HIs g r o w) (hg : w.grownBy w' (some g)) : HIs g r o w' := ⟨(hg.block r h.lt (fun e => h.2 (by injection e))).trans h.1, h.2⟩
theorem HIs.below {g r : Nat} {o : Obj} {w w' : World} (h : HIs g r o w) (hb : Below w.heap.size w w') : HIs g r o w' := ⟨(hb.block r h.lt).trans h.1, h.2⟩
theorem HIs.alloc {g r : Nat} {o : Obj} {w : World} (h : HIs g r o w) (o' : Obj) : HIs g r o (w.alloc o') := h.below ((Below.refl _ _).alloc (Nat.le_refl _) o')
theorem HIs.new {g : Nat} (o : Obj) (w : World) (h : g < w.heap.size) : HIs g w.heap.size o (w.alloc o) := ⟨heap_alloc_new w o, by omega⟩
/-- An append to a row leaves the cursor, and all that was there but the cursor. -/
theorem app_keepsR {w w1 w2 : World} {B g base size : Nat} {e : TypeId} {v : Value} {n : Nat} {xs : List Value} (hc : CurB w1 B g) (hgb : g < base) (hwb : w.heap.size ≤ base) (hg1 : w.grownBy w1 (some g)) (hown : w1.ownsRow base e size v n xs) (hg : w1.grownBy w2 v.ownBlock) :
    CurB w2 B g ∧ w.grownBy w2 (some g) := by
  have hlt := hc.lt
  have hB := hc.1
  have hv : ∀ k, k < base → some k ≠ v.ownBlock := fun k hk e => by have := (hown.lt k e.symm).1; omega
  refine ⟨hc.keep (hg.block g hlt (hv g hgb)) ⟨hg.os, hg.tape, hg.output, hg.size, fun k h => hg.block k (by omega) (hv k (by omega))⟩, ?_⟩
  exact ⟨hg.os.trans hg1.os, hg.tape.trans hg1.tape, hg.output.trans hg1.output, Nat.le_trans hg1.size hg.size, fun k h1 h2 =>
    (hg.block k (Nat.lt_of_lt_of_le h1 hg1.size) (hv k (by omega))).trans (hg1.block k h1 h2)⟩
theorem blk_rowD {w w' : World} {r : Nat} {vs : List Value} {row : Option Nat} (h : Blk w r vs) (hg : w.grownBy w' row) (hne : some r ≠ row) : Blk w' r vs := by
  have hlt := h.lt
  obtain ⟨t, ht⟩ := h
  exact ⟨t, (hg.block r hlt hne).trans ht⟩
theorem DrnP.has {base g cap : Nat} {a : Option Addr} {rs : List HP} {w : World} (h : DrnP base g a cap rs w) : HasP w a cap rs := HasP.own h.1
theorem DrnP.none (base g : Nat) (w : World) (h : g < base) : DrnP base g none 0 [] w := ⟨⟨rfl, .inl ⟨rfl, rfl⟩⟩, h⟩
/-- Bytes in a row of the draw's own. -/
def DrnB (base g : Nat) (v : Value) (l : List UInt8) (w : World) : Prop := w.ownsRow base 5 1 v l.length (byteCells l) ∧ g < base
theorem DrnB.grown {base g : Nat} {v : Value} {l : List UInt8} {w w' : World} (h : DrnB base g v l w) (hg : w.grownBy w' (some g)) : DrnB base g v l w' := ⟨own_g h.1 h.2 hg, h.2⟩
theorem DrnB.below {base g : Nat} {v : Value} {l : List UInt8} {w w' : World} (h : DrnB base g v l w) (hb : Below w.heap.size w w') : DrnB base g v l w' := ⟨own_below h.1 hb, h.2⟩
theorem DrnB.alloc {base g : Nat} {v : Value} {l : List UInt8} {w : World} (h : DrnB base g v l w) (o : Obj) : DrnB base g v l (w.alloc o) := ⟨h.1.alloc o, h.2⟩
theorem DrnB.set {base g b : Nat} {v : Value} {l : List UInt8} {w : World} (h : DrnB base g v l w) (k : Nat) (u : Value) (hb : b < base) : DrnB base g v l (w.setCell ⟨b, k, none⟩ u) := ⟨own_set h.1 b k hb u, h.2⟩
theorem mod8 (x : Int) : ∃ c : UInt8, x % 256 = (c.toNat : Int) := ⟨UInt8.ofNat (x % 256).toNat, by rw [UInt8.toNat_ofNat']; omega⟩
/-- A drawn text with its place and its end's mark; only the cursor has turned. -/
def StrEnd (w : World) (B g : Nat) (e : Ending) (w' : World) : Prop :=
  ∃ (s : Int) (x : ByteArray) (b : Bool), e = .returned (.tuple #[.int .i64 s, .string x, .bool b]) ∧ x.size ≤ 8 ∧ CurB w' B g ∧ w.grownBy w' (some g)
end Go.Proofs.Ytpbnkkgfjmkcdaa
namespace Go.Proofs.Ytpbnkkgfjmkcdaa
open Go.RowKit Go.Lib

/-- What l1Bytes hands back: n bytes in a new row. -/
def BytesEnd (w : World) (B g n : Nat) (e : Ending) (w' : World) : Prop :=
  ∃ (v : Value) (l : List UInt8), e = .returned v ∧ l.length = n ∧ w'.ownsRow w.heap.size 5 1 v n (byteCells l) ∧ CurB w' B g ∧ w.grownBy w' (some g)

set_option maxHeartbeats 1000000 in
theorem l1Bytes_any (B g n : Nat) (w : World) (hc : CurB w B g) (hn : n ≤ 1048576) : Calls Try.prog 63 #[.pointer (some ⟨g, 0, none⟩), .int .i64 n] w (BytesEnd w B g n) := by
  obtain ⟨i0, hi, hz0, hz1, hz2⟩ := info_parts Try.info5
  have hglt := hc.lt
  have hBg := hc.1
  have C := Lib.hid hc
  clear hc
  go_enter Try.func63, Try.ntmps63
  go_wp2_with fail
  go_loopw [5, 6] (fun v i wr => ∃ k : Nat, k ≤ n ∧ i = .int .i64 k ∧ ∃ l : List UInt8, Hid (l.length = k) ∧ wr.ownsRow w.heap.size 5 1 v k (byteCells l) ∧ CurB wr B g ∧ w.grownBy wr (some g))
    (fun _ i _ => n - (RowKit.intOf i).toNat)
  case atStart => exact ⟨0, Nat.zero_le _, rfl, [], rfl, World.ownsRow_lit w #[] 0 (Nat.le_refl _) (by simp [maxLen]) rfl, C.out.new _, World.grownBy_alloc w _ _⟩
  case round =>
    obtain ⟨k, hk, rfl, l, hl, hown, hcur, hgr⟩ := hrel
    by_cases hlt : k < n
    · have O := Lib.hid hown
      have K := Lib.hid hcur
      have G := Lib.hid hgr
      clear hown hcur hgr
      go_wp2_with fail
      refine (l1Byte_any B g wr K.out).mono ?_
      rintro e w1 ⟨r, rfl, ⟨r0, r1⟩, hc1, hg1⟩
      obtain ⟨c, rfl⟩ : ∃ c : UInt8, r = (c.toNat : Int) := ⟨UInt8.ofNat r.toNat, by rw [UInt8.toNat_ofNat']; omega⟩
      have hown1 := O.out.kept hg1 (.inr (fun e => by have := (O.out.lt g e).1; omega))
      have hG1 := grown_tr G.out hg1
      have hsz : w.heap.size ≤ w1.heap.size := hG1.size
      have K1 := Lib.hid hc1
      have G1 := Lib.hid hG1
      clear hc1 hg1 hG1
      go_wp2_with (at_builtin; refine wpList_append_lies _ rfl _ _ _ rfl w.heap.size 5 i0 _ 1 1 Try.underlying22 hi hz0 hz1 hz2 rfl (by omega) _ k _ rfl (hown1.alloc _) ⟨w1.heap.size, 0, none⟩ 1 1 [.int .u8 c.toNat] rfl rfl (World.news_of_block (cs := #[.int .u8 c.toNat]) (t := 5) (fr := (0, 0)) (heap_alloc_new w1 _)) (by simp [Value.oneCell']) (by omega) (by unfold maxLen; omega) (by omega) (by simp; omega) (w1.heap.size + 1) (by simp) ?_; intro gg cap w2 hown2 hgrow hat hlt')
      have hk2 := app_keeps K1.out hglt (Nat.le_of_lt (Nat.lt_of_le_of_lt hBg hglt)) rfl G1.out hown1 hgrow
      have O2 := Lib.hid (show w2.ownsRow w.heap.size 5 1 (.slice (some ⟨gg, 0, none⟩) (k + 1) cap) (k + 1) (byteCells (l ++ [c])) by rw [byteCells_append]; exact hown2)
      clear hown1 hown2 hgrow hat hlt'
      go_roundw
      case rel => exact ⟨k + 1, by omega, by go_num, l ++ [c], by show _ = _; rw [List.length_append, hl.out]; rfl, O2.out, hk2.1, hk2.2⟩
      case measure => simp [RowKit.intOf]; omega
    · obtain rfl : k = n := by omega
      go_wp2_with fail
      go_ret
      exact ⟨_, l, rfl, hl.out, hown, hcur, hgr⟩

end Go.Proofs.Ytpbnkkgfjmkcdaa
namespace Go.Proofs.Ytpbnkkgfjmkcdaa
open Go.RowKit Go.Lib

theorem pow256_4 (k : Nat) (h : k ≤ 4) : (256 : Int) ^ k ≤ 4294967296 := by
  have h : k = 0 ∨ k = 1 ∨ k = 2 ∨ k = 3 ∨ k = 4 := by omega
  rcases h with rfl | rfl | rfl | rfl | rfl <;> decide
def deepCs : Array Value := #[.int .i64 0, .int .i64 1, .int .i64 4294967295, .int .i64 2147483647, .int .i64 2147483648, .int .i64 4294967294]
theorem deepCs_bd : ∀ v ∈ deepCs.toList, ∃ x, v = .int .i64 x ∧ I64 x := by
  intro v hv
  simp only [deepCs, List.mem_cons, List.mem_nil_iff, or_false] at hv
  unfold I64
  rcases hv with rfl | rfl | rfl | rfl | rfl | rfl <;> exact ⟨_, rfl, by decide⟩
theorem pickDeep (B g : Nat) (w : World) (hc : CurB w B g) : Calls Try.prog 50 #[.pointer (some ⟨g, 0, none⟩), .slice (some ⟨w.heap.size, 0, none⟩) 6 6] (w.alloc (.cells deepCs 3)) (WholeEnd w B g) :=
  pickNew B g w hc deepCs (by decide) (by decide) deepCs_bd

set_option maxRecDepth 100000 in
set_option maxHeartbeats 1000000 in
theorem l2Deep_any (B g : Nat) (w : World) (hc : CurB w B g) : Calls Try.prog 65 #[.pointer (some ⟨g, 0, none⟩)] w (WholeEnd w B g) := by
  have C := Lib.hid (l1Once_any B g w hc 3 (by omega) (by omega))
  clear hc
  go_enter Try.func65, Try.ntmps65
  go_wp2_with fail
  refine C.out.mono ?_
  rintro e w1 ⟨b, rfl, hc1, hg1⟩
  have C1 := Lib.hid hc1
  have G1 := Lib.hid hg1
  clear hc1 hg1
  cases b with
  | true =>
    go_wp2_with fail
    refine (pickDeep B g w1 C1.out).mono ?_
    rintro e w2 ⟨n, rfl, hn, hc2, hg2⟩
    have N := Lib.hid hn
    have C2 := Lib.hid hc2
    have G2 := Lib.hid (grown_tr G1.out hg2)
    clear hn hc2 hg2
    go_wp2_with fail
    go_ret
    exact ⟨n, rfl, N.out, C2.out, G2.out⟩
  | false =>
    go_wp2_with fail
    go_loopw [3, 4] (fun n i wr => ∃ (k : Nat) (q : Int), k ≤ 4 ∧ i = .int .i64 k ∧ n = .int .i64 q ∧ (0 ≤ q ∧ q < 256 ^ k) ∧ CurB wr B g ∧ w.grownBy wr (some g))
      (fun _ i _ => 4 - (RowKit.intOf i).toNat)
    case atStart => exact ⟨0, 0, Nat.zero_le _, rfl, rfl, ⟨by omega, by decide⟩, C1.out, G1.out⟩
    case round =>
      obtain ⟨k, q, hk, rfl, rfl, ⟨q0, q1⟩, hcur, hgr⟩ := hrel
      have K := Lib.hid hcur
      have G := Lib.hid hgr
      have hq4 : q < 4294967296 := Int.lt_of_lt_of_le q1 (pow256_4 k hk)
      have Q := Lib.hid q1
      clear hcur hgr q1
      by_cases hlt : k < 4
      · go_wp2_with fail
        refine (l1Byte_any B g wr K.out).mono ?_
        rintro e w2 ⟨x, rfl, ⟨x0, x1⟩, hc2, hg2⟩
        have K2 := Lib.hid hc2
        have G2 := Lib.hid (grown_tr G.out hg2)
        clear hc2 hg2
        go_wp2_with fail
        go_roundw
        case rel => exact ⟨k + 1, 256 * q + x, by omega, by go_num, by go_num, ⟨by omega, by have := Q.out; rw [Int.pow_succ]; omega⟩, K2.out, G2.out⟩
        case measure => simp [RowKit.intOf]; omega
      · go_wp2_with fail
        go_ret
        exact ⟨q, rfl, ⟨by omega, by omega⟩, K.out, G.out⟩

end Go.Proofs.Ytpbnkkgfjmkcdaa
namespace Go.Proofs.Ytpbnkkgfjmkcdaa
open Go.RowKit Go.Lib

theorem results_four {fn : Func} {t u v x : Tmp} (h : fn.results = #[.tmp t, .tmp u, .tmp v, .tmp x]) (tmps : Array Value) (P : Program) (w : World) :
    (results fn tmps).run P w = .ok (.tuple #[tmps.getD t undef, tmps.getD u undef, tmps.getD v undef, tmps.getD x undef]) w := by
  simp [results, h]

set_option maxHeartbeats 1000000 in
theorem l4Place_any (B g : Nat) (w : World) (hc : CurB w B g) : Calls Try.prog 32 #[.pointer (some ⟨g, 0, none⟩)] w (WholeEnd w B g) := by
  have C := Lib.hid (l1Once_any B g w hc 12 (by omega) (by omega))
  clear hc
  go_enter Try.func32, Try.ntmps32
  go_wp2_with fail
  refine C.out.mono ?_
  rintro e w1 ⟨b, rfl, hc1, hg1⟩
  have C1 := Lib.hid hc1
  have G1 := Lib.hid hg1
  clear hc1 hg1
  cases b with
  | true =>
    go_wp2_with fail
    refine (l1Whole_any B g w1 C1.out).mono ?_
    rintro e w2 ⟨n, rfl, hn, hc2, hg2⟩
    have N := Lib.hid hn
    have C2 := Lib.hid hc2
    have G2 := Lib.hid (grown_tr G1.out hg2)
    clear hn hc2 hg2
    go_wp2_with fail
    go_ret
    exact ⟨n, rfl, N.out, C2.out, G2.out⟩
  | false =>
    go_wp2_with fail
    refine (l2Deep_any B g w1 C1.out).mono ?_
    rintro e w2 ⟨n, rfl, hn, hc2, hg2⟩
    have N := Lib.hid hn
    have C2 := Lib.hid hc2
    have G2 := Lib.hid (grown_tr G1.out hg2)
    clear hn hc2 hg2
    go_wp2_with fail
    go_ret
    exact ⟨n, rfl, N.out, C2.out, G2.out⟩

end Go.Proofs.Ytpbnkkgfjmkcdaa
namespace Go.Proofs.Ytpbnkkgfjmkcdaa
open Go.RowKit Go.Lib


set_option maxRecDepth 100000 in
set_option maxHeartbeats 8000000 in
theorem l18Stream_any (B g : Nat) (w : World) (hc : CurB w B g) (n f : Int) (z : Bool) (d : ByteArray) (a : Option Addr) (len cap : Nat) : Calls Try.prog 30 #[.pointer (some ⟨g, 0, none⟩), .agg #[.int .i64 n, .string d, .slice a len cap, .int .i64 f, .bool z]] w (StrEnd w B g) := by
  obtain ⟨i0, hi, hz0, hz1, hz2⟩ := info_parts Try.info5
  go_enter Try.func30, Try.ntmps30
  have hlt := hc.lt
  have hBg := hc.1
  have C0 := Lib.hid (show CurB (w.alloc (.cells #[.int .i64 n, .string d, .slice a len cap, .int .i64 f, .bool z] 26)) B g from (hc.new (.cells #[.int .i64 n, .string d, .slice a len cap, .int .i64 f, .bool z] 26)))
  have G0 := Lib.hid (show w.grownBy (w.alloc (.cells #[.int .i64 n, .string d, .slice a len cap, .int .i64 f, .bool z] 26)) (some g) from (grown_new (World.grownBy.refl w (some g)) (.cells #[.int .i64 n, .string d, .slice a len cap, .int .i64 f, .bool z] 26)))
  clear hc
  have KR0 := Lib.hid (show Blk (w.alloc (.cells #[.int .i64 n, .string d, .slice a len cap, .int .i64 f, .bool z] 26)) (w.heap.size) [.int .i64 n, .string d, .slice a len cap, .int .i64 f, .bool z] from ((Blk.new w [.int .i64 n, .string d, .slice a len cap, .int .i64 f, .bool z] 26)))
  go_upto_region 1 with fail
  generalize w.alloc (.cells #[.int .i64 n, .string d, .slice a len cap, .int .i64 f, .bool z] 26) = v0 at C0 G0 KR0 ⊢
  generalize hh_R : w.heap.size = g_R at KR0 ⊢
  have l_R : w.heap.size ≤ g_R := by omega
  have b_R : B ≤ g_R := by omega
  have c_R : g_R ≠ g := by omega
  clear hh_R
  go_wp2_with fail
  refine (l1Below_pos B g v0 C0.out 40 (by omega) (by omega)).mono ?_
  rintro e v1 ⟨q, rfl, hq, hcu, hgr⟩
  have KR1 := Lib.hid (KR0.out.grown hgr c_R)
  have G1 := Lib.hid (grown_tr G0.out hgr)
  have C1 := Lib.hid hcu
  clear hcu hgr KR0 G0 C0
  have hqw : IntKind.i64.wrap (q - 6) = q - 6 := IntWalk.i64_in _ (by omega)
  obtain ⟨⟨cR0, cR1, cR2, cR3, cR4⟩, dR0, dR1, dR2, dR3, dR4⟩ := KR1.out.of5
  go_wp2_with fail
  clear cR0 cR1 cR2 cR3 cR4 dR0 dR1 dR2 dR3 dR4
  refine (l1Below_pos B g v1 C1.out 9 (by omega) (by omega)).mono ?_
  rintro e v2 ⟨r, rfl, hr, hcu, hgr⟩
  obtain ⟨m, rfl⟩ : ∃ m : Nat, r = (m : Int) := ⟨r.toNat, by omega⟩
  have hm : m ≤ 8 := by omega
  clear hr
  have KR2 := Lib.hid (KR1.out.grown hgr c_R)
  have G2 := Lib.hid (grown_tr G1.out hgr)
  have C2 := Lib.hid hcu
  clear hcu hgr KR1 G1 C1
  have GW := G2
  have hgl2 := C2.out.lt
  have hBg2 := C2.out.1
  have hRl := KR2.out.lt
  clear hq
  go_wp2_with fail
  go_loopw [9, 10] (fun v i wr => ∃ (s9 : Value) (k : Nat), s9 = v ∧ k ≤ m ∧ i = .int .i64 k ∧ ∃ l : List UInt8, Hid (l.length = k) ∧ Hid (wr.ownsRow v2.heap.size 5 1 s9 k (byteCells l)) ∧ Hid (CurB wr B g) ∧ Hid (v2.grownBy wr (some g)))
    (fun _ i _ => m - (RowKit.intOf i).toNat)
  case atStart => exact ⟨_, 0, rfl, Nat.zero_le _, rfl, [], rfl, World.ownsRow_lit v2 #[] 0 (Nat.le_refl _) (by simp [maxLen]) rfl, C2.out.new _, World.grownBy_alloc v2 _ _⟩
  case round =>
    obtain ⟨s9, k, rfl, hk, rfl, l, hl, hown, hC50, hG50⟩ := hrel
    have KR50 := Lib.hid (KR2.out.grown hG50.out c_R)
    by_cases hlt : k < m
    · obtain ⟨⟨cR0, cR1, cR2, cR3, cR4⟩, dR0, dR1, dR2, dR3, dR4⟩ := KR50.out.of5
      clear KR2 C2
      go_wp2_with fail
      clear cR0 cR1 cR2 cR3 cR4 dR0 dR1 dR2 dR3 dR4
      refine (restS _ _).mono ?_
      rintro e w1 ⟨rfl, rfl⟩
      generalize pl _ = y
      obtain ⟨c, hcw⟩ := mod8 (wrap64 (97 + y.tmod 26))
      have hsz : v2.heap.size ≤ wr.heap.size := hG50.out.size
      have hl0 := Lib.hid hl
      go_wp2_with (at_builtin; refine wpList_append_lies _ rfl _ _ _ rfl v2.heap.size 5 i0 _ 1 1 Try.underlying22 hi hz0 hz1 hz2 rfl (by omega) _ k _ rfl (hown.out.alloc _) ⟨wr.heap.size, 0, none⟩ 1 1 [.int .u8 c.toNat] rfl rfl (World.news_of_block (cs := #[.int .u8 c.toNat]) (t := 5) (fr := (0, 0)) (heap_alloc_new wr _)) (by simp [Value.oneCell']) (by omega) (by unfold maxLen; omega) (by omega) (by simp; omega) (wr.heap.size + 1) (by simp) ?_; intro gg cp w2 hown2 hgrow hat hlt')
      have hk2 := app_keeps hC50.out hgl2 (Nat.le_of_lt (Nat.lt_of_le_of_lt hBg2 hgl2)) rfl hG50.out hown.out hgrow
      have O2 := Lib.hid (show w2.ownsRow v2.heap.size 5 1 (.slice (some ⟨gg, 0, none⟩) (k + 1) cp) (k + 1) (byteCells (l ++ [c])) by rw [byteCells_append]; exact hown2)
      clear hown2 hgrow hat hlt' hcw
      go_roundw
      case rel => exact ⟨_, k + 1, rfl, by omega, by go_num, l ++ [c], by show _ = _; rw [List.length_append, hl0.out.out]; rfl, O2, hk2.1, hk2.2⟩
      case measure => simp [RowKit.intOf]; omega
    · obtain rfl : k = m := by omega
      have hlk := hl.out
      have Db50 := Lib.hid (show DrnB v2.heap.size g s9 l wr from ⟨by rw [hlk]; exact hown.out, hgl2⟩)
      clear KR2 C2 hown hl
      obtain ⟨⟨cR0, cR1, cR2, cR3, cR4⟩, dR0, dR1, dR2, dR3, dR4⟩ := KR50.out.of5
      go_wp2_with fail
      clear cR0 cR1 cR2 cR3 cR4 dR0 dR1 dR2 dR3 dR4
      refine (l1Once_any B g wr hC50.out 6 (by omega) (by omega)).mono ?_
      rintro e v51 ⟨b8, rfl, hcu, hgr⟩
      have KR51 := Lib.hid (KR50.out.grown hgr c_R)
      have Db51 := Lib.hid (Db50.out.grown hgr)
      have G51 := Lib.hid (grown_tr hG50.out hgr)
      have C51 := Lib.hid hcu
      clear hcu hgr KR50 Db50 hG50 hC50
      cases b8 with
      | false =>
        go_upto_region 10 with fail
        refine wp_region_noPanic ?_
        refine wp_region_held_drew (S := fun w' => Blk w' g_R [.int .i64 n, .string d, .slice a len cap, .int .i64 f, .bool z] ∧ DrnB v2.heap.size g (s9) l w') (by kernel_rfl) ⟨KR51.out.drew, Db51.out.below (Below.refl _ _).drew⟩ (fun hS => ?_)
        have KR52 := Lib.hid (show Blk v51.drew g_R [.int .i64 n, .string d, .slice a len cap, .int .i64 f, .bool z] from KR51.out.drew)
        have Db52 := Lib.hid (Db51.out.below (Below.refl _ v51).drew)
        have C52 := Lib.hid (show CurB v51.drew _ g from C51.out.below (Below.refl _ _).drew)
        have G52 := Lib.hid (show v2.grownBy v51.drew (some g) from grown_tr G51.out (below_any (Below.refl _ v51).drew))
        clear KR51 Db51 C51 G51
        clear hS
        generalize v51.drew = v52 at KR52 Db52 C52 G52 ⊢
        have hS : Blk v52 g_R [.int .i64 n, .string d, .slice a len cap, .int .i64 f, .bool z] ∧ DrnB v2.heap.size g (s9) l v52 := ⟨KR52.out, Db52.out⟩
        refine wpAnyH_take (i := 0) (v := .pointer (some ⟨g_R, 0, none⟩)) rfl (by kernel_rfl) (by kernel_rfl) (by kernel_rfl) (fun _ _ _ h => h) (Or.inl ⟨rfl, by intro w hS; go_simp⟩) hS ?_
        refine wpAnyH_take (i := 1) (v := .int .i64 n) rfl (by kernel_rfl) (by kernel_rfl) (by kernel_rfl) (fun _ _ _ h => h) (Or.inl ⟨rfl, by intro w hS; obtain ⟨⟨h0, h1, h2, h3, h4⟩, _⟩ := hS.1.of5; go_simp⟩) hS ?_
        refine wpAnyH_take (i := 2) (v := .int .i64 (q - 6)) rfl (by kernel_rfl) (by kernel_rfl) (by kernel_rfl) (fun _ _ _ h => h) (Or.inl ⟨rfl, by intro w hS; go_simp⟩) hS ?_
        refine wpAnyH_take (i := 4) (v := s9) rfl (by kernel_rfl) (by kernel_rfl) (by kernel_rfl) (fun _ _ _ h => h) (Or.inl ⟨rfl, by intro w hS; go_simp⟩) hS ?_
        refine wpAnyH_take (i := 5) (v := .string ⟨l.toArray⟩) rfl (by kernel_rfl) (by kernel_rfl) (by kernel_rfl) (fun _ _ _ h => h) (Or.inl ⟨rfl, by intro w hS; have hcv := run_string_own (P := Try.prog) Try.underlying22 Try.underlying5 Try.underlying9 hS.2.1; go_simp⟩) hS ?_
        refine wpAnyH_take (i := 6) (v := .pointer (some ⟨g, 0, none⟩)) rfl (by kernel_rfl) (by kernel_rfl) (by kernel_rfl) (fun _ _ _ h => h) (Or.inl ⟨rfl, by intro w hS; go_simp⟩) hS ?_
        have SA := Lib.hid (seqAddS_s n (q - 6))
        generalize pl (n + (q - 6)) = sq at SA
        refine wpAnyH_ready (rs := [3]) (by kernel_rfl) (by simp) ?_
        refine AllReadyH.cons (i := 3) rfl (fun K hK => ?zq1) AllReadyH.nil
        rw [if_pos (by rfl)]
        go_simp
        clear hS
        refine (SA.out _).mono ?_
        rintro e v53 ⟨rfl, hb⟩
        have KR53 := Lib.hid (KR52.out.below hb)
        have Db53 := Lib.hid (Db52.out.below hb)
        have G53 := Lib.hid (grown_tr G52.out (below_any hb))
        have C53 := Lib.hid (C52.out.below hb)
        clear hb KR52 Db52 G52 C52
        refine hK.out _ _ ⟨KR53.out, Db53.out⟩ (fun hS => ?_)
        clear hK K
        refine wpAnyH_ready (rs := [7]) (by kernel_rfl) (by simp) ?_
        refine AllReadyH.cons (i := 7) rfl (fun K hK => ?zq2) AllReadyH.nil
        rw [if_pos (by rfl)]
        go_simp
        clear hS
        refine (l1Once_any B g _ C53.out 6 (by omega) (by omega)).mono ?_
        rintro e v54 ⟨b9, rfl, hcu, hgr⟩
        have KR54 := Lib.hid (KR53.out.grown hgr c_R)
        have Db54 := Lib.hid (Db53.out.grown hgr)
        have G54 := Lib.hid (grown_tr G53.out hgr)
        have C54 := Lib.hid hcu
        clear hcu hgr KR53 Db53 G53 C53
        refine hK.out _ _ ⟨KR54.out, Db54.out⟩ (fun hS => ?_)
        clear hK K
        refine wpAnyH_take (i := 8) (v := .int .i64 sq) rfl (by kernel_rfl) (by kernel_rfl) (by kernel_rfl) (fun _ _ _ h => h) (Or.inl ⟨rfl, by intro w hS; go_simp⟩) hS ?_
        refine wpAnyH_take (i := 9) (v := .string ⟨l.toArray⟩) rfl (by kernel_rfl) (by kernel_rfl) (by kernel_rfl) (fun _ _ _ h => h) (Or.inl ⟨rfl, by intro w hS; go_simp⟩) hS ?_
        refine wpAnyH_take (i := 10) (v := .bool b9) rfl (by kernel_rfl) (by kernel_rfl) (by kernel_rfl) (fun _ _ _ h => h) (Or.inl ⟨rfl, by intro w hS; go_simp⟩) hS ?_
        refine wpAnyH_done (by kernel_rfl) ?_ _
        refine NoPanic.normal ?_
        go_wp2_with fail
        exact bodyPost_ret (v := .tuple #[.int .i64 sq, .string ⟨l.toArray⟩, .bool b9]) (by simp [results, Try.results30, go_sem]) rfl ⟨sq, ⟨l.toArray⟩, b9, rfl, by show l.length ≤ 8; omega, C54.out, grown_tr GW.out G54.out⟩
      | true =>
        obtain ⟨⟨cR0, cR1, cR2, cR3, cR4⟩, dR0, dR1, dR2, dR3, dR4⟩ := KR51.out.of5
        go_wp2_with fail
        clear cR0 cR1 cR2 cR3 cR4 dR0 dR1 dR2 dR3 dR4
        have hgl3 := C51.out.lt
        refine (l1Bytes_any B g k _ C51.out (by omega)).mono ?_
        rintro e v52 ⟨ub, lb, rfl, hlb, hob, hcu, hgr⟩
        obtain rfl := hlb
        have Dc9 := Lib.hid (show DrnB v51.heap.size g ub lb v52 from ⟨hob, hgl3⟩)
        clear hob
        have KR52 := Lib.hid (KR51.out.grown hgr c_R)
        have Db52 := Lib.hid (Db51.out.grown hgr)
        have G52 := Lib.hid (grown_tr G51.out hgr)
        have C52 := Lib.hid hcu
        clear hcu hgr KR51 Db51 G51 C51
        clear Db52
        go_upto_region 10 with fail
        refine wp_region_noPanic ?_
        refine wp_region_held_drew (S := fun w' => Blk w' g_R [.int .i64 n, .string d, .slice a len cap, .int .i64 f, .bool z] ∧ DrnB v51.heap.size g (ub) lb w') (by kernel_rfl) ⟨KR52.out.drew, Dc9.out.below (Below.refl _ _).drew⟩ (fun hS => ?_)
        have KR53 := Lib.hid (show Blk v52.drew g_R [.int .i64 n, .string d, .slice a len cap, .int .i64 f, .bool z] from KR52.out.drew)
        have Db53 := Lib.hid (Dc9.out.below (Below.refl _ v52).drew)
        have C53 := Lib.hid (show CurB v52.drew _ g from C52.out.below (Below.refl _ _).drew)
        have G53 := Lib.hid (show v2.grownBy v52.drew (some g) from grown_tr G52.out (below_any (Below.refl _ v52).drew))
        clear KR52 Dc9 C52 G52
        clear hS
        generalize v52.drew = v53 at KR53 Db53 C53 G53 ⊢
        have hS : Blk v53 g_R [.int .i64 n, .string d, .slice a len cap, .int .i64 f, .bool z] ∧ DrnB v51.heap.size g (ub) lb v53 := ⟨KR53.out, Db53.out⟩
        refine wpAnyH_take (i := 0) (v := .pointer (some ⟨g_R, 0, none⟩)) rfl (by kernel_rfl) (by kernel_rfl) (by kernel_rfl) (fun _ _ _ h => h) (Or.inl ⟨rfl, by intro w hS; go_simp⟩) hS ?_
        refine wpAnyH_take (i := 1) (v := .int .i64 n) rfl (by kernel_rfl) (by kernel_rfl) (by kernel_rfl) (fun _ _ _ h => h) (Or.inl ⟨rfl, by intro w hS; obtain ⟨⟨h0, h1, h2, h3, h4⟩, _⟩ := hS.1.of5; go_simp⟩) hS ?_
        refine wpAnyH_take (i := 2) (v := .int .i64 (q - 6)) rfl (by kernel_rfl) (by kernel_rfl) (by kernel_rfl) (fun _ _ _ h => h) (Or.inl ⟨rfl, by intro w hS; go_simp⟩) hS ?_
        refine wpAnyH_take (i := 4) (v := ub) rfl (by kernel_rfl) (by kernel_rfl) (by kernel_rfl) (fun _ _ _ h => h) (Or.inl ⟨rfl, by intro w hS; go_simp⟩) hS ?_
        refine wpAnyH_take (i := 5) (v := .string ⟨lb.toArray⟩) rfl (by kernel_rfl) (by kernel_rfl) (by kernel_rfl) (fun _ _ _ h => h) (Or.inl ⟨rfl, by intro w hS; have hcv := run_string_own (P := Try.prog) Try.underlying22 Try.underlying5 Try.underlying9 hS.2.1; go_simp⟩) hS ?_
        refine wpAnyH_take (i := 6) (v := .pointer (some ⟨g, 0, none⟩)) rfl (by kernel_rfl) (by kernel_rfl) (by kernel_rfl) (fun _ _ _ h => h) (Or.inl ⟨rfl, by intro w hS; go_simp⟩) hS ?_
        have SA := Lib.hid (seqAddS_s n (q - 6))
        generalize pl (n + (q - 6)) = sq at SA
        refine wpAnyH_ready (rs := [3]) (by kernel_rfl) (by simp) ?_
        refine AllReadyH.cons (i := 3) rfl (fun K hK => ?zq3) AllReadyH.nil
        rw [if_pos (by rfl)]
        go_simp
        clear hS
        refine (SA.out _).mono ?_
        rintro e v54 ⟨rfl, hb⟩
        have KR54 := Lib.hid (KR53.out.below hb)
        have Db54 := Lib.hid (Db53.out.below hb)
        have G54 := Lib.hid (grown_tr G53.out (below_any hb))
        have C54 := Lib.hid (C53.out.below hb)
        clear hb KR53 Db53 G53 C53
        refine hK.out _ _ ⟨KR54.out, Db54.out⟩ (fun hS => ?_)
        clear hK K
        refine wpAnyH_ready (rs := [7]) (by kernel_rfl) (by simp) ?_
        refine AllReadyH.cons (i := 7) rfl (fun K hK => ?zq4) AllReadyH.nil
        rw [if_pos (by rfl)]
        go_simp
        clear hS
        refine (l1Once_any B g _ C54.out 6 (by omega) (by omega)).mono ?_
        rintro e v55 ⟨b9, rfl, hcu, hgr⟩
        have KR55 := Lib.hid (KR54.out.grown hgr c_R)
        have Db55 := Lib.hid (Db54.out.grown hgr)
        have G55 := Lib.hid (grown_tr G54.out hgr)
        have C55 := Lib.hid hcu
        clear hcu hgr KR54 Db54 G54 C54
        refine hK.out _ _ ⟨KR55.out, Db55.out⟩ (fun hS => ?_)
        clear hK K
        refine wpAnyH_take (i := 8) (v := .int .i64 sq) rfl (by kernel_rfl) (by kernel_rfl) (by kernel_rfl) (fun _ _ _ h => h) (Or.inl ⟨rfl, by intro w hS; go_simp⟩) hS ?_
        refine wpAnyH_take (i := 9) (v := .string ⟨lb.toArray⟩) rfl (by kernel_rfl) (by kernel_rfl) (by kernel_rfl) (fun _ _ _ h => h) (Or.inl ⟨rfl, by intro w hS; go_simp⟩) hS ?_
        refine wpAnyH_take (i := 10) (v := .bool b9) rfl (by kernel_rfl) (by kernel_rfl) (by kernel_rfl) (fun _ _ _ h => h) (Or.inl ⟨rfl, by intro w hS; go_simp⟩) hS ?_
        refine wpAnyH_done (by kernel_rfl) ?_ _
        refine NoPanic.normal ?_
        go_wp2_with fail
        exact bodyPost_ret (v := .tuple #[.int .i64 sq, .string ⟨lb.toArray⟩, .bool b9]) (by simp [results, Try.results30, go_sem]) rfl ⟨sq, ⟨lb.toArray⟩, b9, rfl, by show lb.length ≤ 8; omega, C55.out, grown_tr GW.out G55.out⟩
end Go.Proofs.Ytpbnkkgfjmkcdaa
namespace Go.Proofs.Ytpbnkkgfjmkcdaa
open Go.RowKit Go.Lib

theorem rcvNew_ok (x : Int) : RcvOk ⟨pl x, ⟨#[]⟩, [], -1, false⟩ := ⟨word_plR _, Nat.zero_le _, Nat.zero_le _, .inl rfl, fun k h => by simp at h⟩
/-- A drawn receiver; only the cursor has turned. -/
def RcvEnd (w : World) (B g : Nat) (e : Ending) (w' : World) : Prop :=
  ∃ (n : Int) (d : ByteArray) (rs : List HP) (f : Int) (z : Bool) (a : Option Addr) (cap : Nat), e = .returned (.agg #[.int .i64 n, .string d, .slice a rs.length cap, .int .i64 f, .bool z]) ∧ RcvOk ⟨n, d, rs, f, z⟩ ∧ w'.ownsRow w.heap.size 64 2 (.slice a rs.length cap) rs.length (hps rs) ∧ CurB w' B g ∧ w.grownBy w' (some g)

set_option maxRecDepth 100000 in
set_option maxHeartbeats 8000000 in
theorem l18Receiver_any (B g : Nat) (w : World) (hc : CurB w B g) : Calls Try.prog 58 #[.pointer (some ⟨g, 0, none⟩)] w (RcvEnd w B g) := by
  go_enter Try.func58, Try.ntmps58
  have hlt := hc.lt
  have hBg := hc.1
  have C0 := Lib.hid (show CurB (w.alloc (.cells #[.int .i64 0, .string ⟨#[]⟩, .slice none 0 0, .int .i64 0, .bool false] 26)) B g from (hc.new (.cells #[.int .i64 0, .string ⟨#[]⟩, .slice none 0 0, .int .i64 0, .bool false] 26)))
  have G0 := Lib.hid (show w.grownBy (w.alloc (.cells #[.int .i64 0, .string ⟨#[]⟩, .slice none 0 0, .int .i64 0, .bool false] 26)) (some g) from (grown_new (World.grownBy.refl w (some g)) (.cells #[.int .i64 0, .string ⟨#[]⟩, .slice none 0 0, .int .i64 0, .bool false] 26)))
  clear hc
  have KR0 := Lib.hid (show Blk (w.alloc (.cells #[.int .i64 0, .string ⟨#[]⟩, .slice none 0 0, .int .i64 0, .bool false] 26)) (w.heap.size) [.int .i64 0, .string ⟨#[]⟩, .slice none 0 0, .int .i64 0, .bool false] from ((Blk.new w [.int .i64 0, .string ⟨#[]⟩, .slice none 0 0, .int .i64 0, .bool false] 26)))
  go_upto_region 1 with fail
  generalize w.alloc (.cells #[.int .i64 0, .string ⟨#[]⟩, .slice none 0 0, .int .i64 0, .bool false] 26) = v0 at C0 G0 KR0 ⊢
  generalize hh_R : w.heap.size = g_R at KR0 ⊢
  have l_R : w.heap.size ≤ g_R := by omega
  have b_R : B ≤ g_R := by omega
  have c_R : g_R ≠ g := by omega
  clear hh_R
  go_wp2_with fail
  refine (l2Deep_any B g v0 C0.out).mono ?_
  rintro e v1 ⟨y, rfl, hy, hcu, hgr⟩
  clear hy
  have KR1 := Lib.hid (KR0.out.grown hgr c_R)
  have G1 := Lib.hid (grown_tr G0.out hgr)
  have C1 := Lib.hid hcu
  clear hcu hgr KR0 G0 C0
  obtain ⟨⟨cR0, cR1, cR2, cR3, cR4⟩, dR0, dR1, dR2, dR3, dR4⟩ := KR1.out.of5
  go_wp2_with fail
  clear cR0 cR1 cR2 cR3 cR4 dR0 dR1 dR2 dR3 dR4
  refine (rcvNewS y _).mono ?_
  rintro e v2 ⟨rfl, hb⟩
  have KR2 := Lib.hid (KR1.out.below hb)
  have G2 := Lib.hid (grown_tr G1.out (below_any hb))
  have C2 := Lib.hid (C1.out.below hb)
  clear hb KR1 G1 C1
  have hRK := KR2.out.lt
  have KR3 := Lib.hid (KR2.out.alloc (.cells #[.int .i64 (pl y), .string ⟨#[]⟩, .slice none 0 0, .int .i64 (-1), .bool false] 26))
  have n_R_K : g_R ≠ v2.heap.size := by have h1 := KR2.out.lt; omega
  have KK3 := Lib.hid (Blk.new v2 [.int .i64 (pl y), .string ⟨#[]⟩, .slice none 0 0, .int .i64 (-1), .bool false] 26)
  have G3 := Lib.hid (grown_new G2.out (.cells #[.int .i64 (pl y), .string ⟨#[]⟩, .slice none 0 0, .int .i64 (-1), .bool false] 26))
  have C3 := Lib.hid (C2.out.new (.cells #[.int .i64 (pl y), .string ⟨#[]⟩, .slice none 0 0, .int .i64 (-1), .bool false] 26))
  have l_K : w.heap.size ≤ v2.heap.size := G2.out.size
  have c_K : v2.heap.size ≠ g := Nat.ne_of_gt C2.out.lt
  have b_K : B ≤ v2.heap.size := by have h1 := C2.out.lt; omega
  clear KR2 G2 C2
  obtain ⟨⟨cR0, cR1, cR2, cR3, cR4⟩, dR0, dR1, dR2, dR3, dR4⟩ := KR3.out.of5
  obtain ⟨⟨cK0, cK1, cK2, cK3, cK4⟩, dK0, dK1, dK2, dK3, dK4⟩ := KK3.out.of5
  go_wp2_with fail
  clear cR0 cR1 cR2 cR3 cR4 dR0 dR1 dR2 dR3 dR4 cK0 cK1 cK2 cK3 cK4 dK0 dK1 dK2 dK3 dK4
  generalize v2.alloc (.cells #[.int .i64 (pl y), .string ⟨#[]⟩, .slice none 0 0, .int .i64 (-1), .bool false] 26) = v3 at KR3 KK3 C3 G3 ⊢
  generalize hh : v2.heap.size = g_K at KK3 l_K c_K b_K n_R_K  hRK ⊢
  clear hh
  have hgb : g < g_K + 1 := by omega
  have hRb : g_R < g_K + 1 := by omega
  have hKb : g_K < g_K + 1 := by omega
  have hwb : w.heap.size ≤ g_K + 1 := by omega
  refine (l1Below_pos B g v3 C3.out 7 (by omega) (by omega)).mono ?_
  rintro e v4 ⟨r, rfl, hr, hcu, hgr⟩
  obtain ⟨m, rfl⟩ : ∃ n : Nat, r = (n : Int) := ⟨r.toNat, by omega⟩
  have hm : m ≤ 6 := by omega
  clear hr
  have KR4 := Lib.hid (KR3.out.grown hgr c_R)
  have KK4 := Lib.hid (KK3.out.grown hgr c_K)
  have G4 := Lib.hid (grown_tr G3.out hgr)
  have C4 := Lib.hid hcu
  clear hcu hgr KR3 KK3 G3 C3
  obtain ⟨⟨cR0, cR1, cR2, cR3, cR4⟩, dR0, dR1, dR2, dR3, dR4⟩ := KR4.out.of5
  obtain ⟨⟨cK0, cK1, cK2, cK3, cK4⟩, dK0, dK1, dK2, dK3, dK4⟩ := KK4.out.of5
  go_wp2_with fail
  clear cR0 cR1 cR2 cR3 cR4 dR0 dR1 dR2 dR3 dR4 cK0 cK1 cK2 cK3 cK4 dK0 dK1 dK2 dK3 dK4
  go_loopw [5] (fun i wr => ∃ k : Nat, k ≤ m ∧ i = .int .i64 k ∧ ∃ (n : Int) (d : ByteArray) (rs : List HP) (f : Int) (z : Bool) (a : Option Addr) (cap : Nat), RcvOk ⟨n, d, rs, f, z⟩ ∧ Hid (Blk wr g_R [.int .i64 0, .string ⟨#[]⟩, .slice none 0 0, .int .i64 0, .bool false]) ∧ Hid (Blk wr g_K [.int .i64 n, .string d, .slice a rs.length cap, .int .i64 f, .bool z]) ∧ Hid (DrnP (g_K + 1) g a cap rs wr) ∧ Hid (CurB wr B g) ∧ Hid (w.grownBy wr (some g)))
    (fun i _ => m - (RowKit.intOf i).toNat)
  case atStart => exact ⟨0, Nat.zero_le _, rfl, pl y, ⟨#[]⟩, [], -1, false, none, 0, rcvNew_ok y, KR4, KK4, DrnP.none _ g _ hgb, C4, G4⟩
  case round =>
    obtain ⟨k, hk, rfl, n, d, rs, f, z, a, cap, hb0, KR50, KK50, Dp50, C50, G50⟩ := hrel
    have HB := Lib.hid hb0
    clear hb0 KR4 KK4 C4 G4
    by_cases hlt : k < m
    case neg =>
      obtain rfl : k = m := by omega
      obtain ⟨⟨cR0, cR1, cR2, cR3, cR4⟩, dR0, dR1, dR2, dR3, dR4⟩ := KR50.out.of5
      obtain ⟨⟨cK0, cK1, cK2, cK3, cK4⟩, dK0, dK1, dK2, dK3, dK4⟩ := KK50.out.of5
      go_wp2_with fail
      exact bodyPost_ret (v := .agg #[.int .i64 n, .string d, .slice a rs.length cap, .int .i64 f, .bool z]) (by simp [results, Try.results58, go_sem, cR0, cR1, cR2, cR3, cR4]) rfl ⟨n, d, rs, f, z, a, cap, rfl, HB.out, own_down (((((Dp50.out.set 0 _ (.inl hRb)).set 1 _ (.inl hRb)).set 2 _ (.inl hRb)).set 3 _ (.inl hRb)).set 4 _ (.inl hRb)).1 hwb, (((((C50.out.setOther _ _ b_R c_R).setOther _ _ b_R c_R).setOther _ _ b_R c_R).setOther _ _ b_R c_R).setOther _ _ b_R c_R), (grown_setNew (grown_setNew (grown_setNew (grown_setNew (grown_setNew G50.out _ _ l_R) _ _ l_R) _ _ l_R) _ _ l_R) _ _ l_R)⟩
    obtain ⟨⟨cR0, cR1, cR2, cR3, cR4⟩, dR0, dR1, dR2, dR3, dR4⟩ := KR50.out.of5
    obtain ⟨⟨cK0, cK1, cK2, cK3, cK4⟩, dK0, dK1, dK2, dK3, dK4⟩ := KK50.out.of5
    go_wp2_with fail
    clear cR0 cR1 cR2 cR3 cR4 dR0 dR1 dR2 dR3 dR4 cK0 cK1 cK2 cK3 cK4 dK0 dK1 dK2 dK3 dK4
    refine (l18Stream_any B g wr C50.out n f z d a rs.length cap).mono ?_
    rintro e v51 ⟨sq, x, b9, rfl, hx, hcu, hgr⟩
    have KR51 := Lib.hid (KR50.out.grown hgr c_R)
    have KK51 := Lib.hid (KK50.out.grown hgr c_K)
    have Dp51 := Lib.hid (Dp50.out.grown hgr)
    have G51 := Lib.hid (grown_tr G50.out hgr)
    have C51 := Lib.hid hcu
    clear hcu hgr KR50 KK50 Dp50 G50 C50
    obtain ⟨⟨cR0, cR1, cR2, cR3, cR4⟩, dR0, dR1, dR2, dR3, dR4⟩ := KR51.out.of5
    obtain ⟨⟨cK0, cK1, cK2, cK3, cK4⟩, dK0, dK1, dK2, dK3, dK4⟩ := KK51.out.of5
    go_wp2_with fail
    clear cR0 cR1 cR2 cR3 cR4 dR0 dR1 dR2 dR3 dR4 cK0 cK1 cK2 cK3 cK4 dK0 dK1 dK2 dK3 dK4
    have Q := arrS n f sq z b9 d x a cap rs (rb_ok HB.out).1 (by omega) _ Dp51.out.has
    unfold NewRE at Q
    have NB' := (arr_facts HB.out sq x b9).ok
    obtain ⟨⟨n', d', rs', f', z'⟩, ho⟩ : ∃ o : Rcv, arrived ⟨n, d, rs, f, z⟩ sq x b9 = o := ⟨_, rfl⟩
    rw [ho] at Q NB'
    simp only at Q
    replace Q := Lib.hid Q
    replace NB' := Lib.hid NB'
    clear ho
    clear hx
    refine (Q.out).mono ?_
    rintro e v52 ⟨a', cap', rfl, ho, hb⟩
    have Dq52 := Lib.hid (show DrnP (g_K + 1) g a' cap' rs' v52 from ⟨own_down ho KK51.out.lt, hgb⟩)
    clear ho
    have KR52 := Lib.hid (KR51.out.below hb)
    have KK52 := Lib.hid (KK51.out.below hb)
    have G52 := Lib.hid (grown_tr G51.out (below_any hb))
    have C52 := Lib.hid (C51.out.below hb)
    clear hb KR51 KK51 G51 C51 Dp51 Q
    obtain ⟨⟨cR0, cR1, cR2, cR3, cR4⟩, dR0, dR1, dR2, dR3, dR4⟩ := KR52.out.of5
    obtain ⟨⟨cK0, cK1, cK2, cK3, cK4⟩, dK0, dK1, dK2, dK3, dK4⟩ := KK52.out.of5
    have KR53 := Lib.hid (show Blk (((((v52.setCell ⟨g_K, 0, none⟩ (.int .i64 n')).setCell ⟨g_K, 1, none⟩ (.string d')).setCell ⟨g_K, 2, none⟩ (.slice a' rs'.length cap')).setCell ⟨g_K, 3, none⟩ (.int .i64 f')).setCell ⟨g_K, 4, none⟩ (.bool z')) g_R [.int .i64 0, .string ⟨#[]⟩, .slice none 0 0, .int .i64 0, .bool false] from (((((KR52.out.setOther ⟨g_K, 0, none⟩ (.int .i64 n') (n_R_K)).setOther ⟨g_K, 1, none⟩ (.string d') (n_R_K)).setOther ⟨g_K, 2, none⟩ (.slice a' rs'.length cap') (n_R_K)).setOther ⟨g_K, 3, none⟩ (.int .i64 f') (n_R_K)).setOther ⟨g_K, 4, none⟩ (.bool z') (n_R_K)))
    have KK53 := Lib.hid (show Blk (((((v52.setCell ⟨g_K, 0, none⟩ (.int .i64 n')).setCell ⟨g_K, 1, none⟩ (.string d')).setCell ⟨g_K, 2, none⟩ (.slice a' rs'.length cap')).setCell ⟨g_K, 3, none⟩ (.int .i64 f')).setCell ⟨g_K, 4, none⟩ (.bool z')) g_K [.int .i64 n', .string d', .slice a' rs'.length cap', .int .i64 f', .bool z'] from (((((KK52.out.set 0 (.int .i64 n')).set 1 (.string d')).set 2 (.slice a' rs'.length cap')).set 3 (.int .i64 f')).set 4 (.bool z')))
    have Dp53 := Lib.hid (((((Dq52.out.set 0 (.int .i64 n') (.inl hKb)).set 1 (.string d') (.inl hKb)).set 2 (.slice a' rs'.length cap') (.inl hKb)).set 3 (.int .i64 f') (.inl hKb)).set 4 (.bool z') (.inl hKb))
    have C53 := Lib.hid (((((C52.out.setOther ⟨g_K, 0, none⟩ (.int .i64 n') b_K c_K).setOther ⟨g_K, 1, none⟩ (.string d') b_K c_K).setOther ⟨g_K, 2, none⟩ (.slice a' rs'.length cap') b_K c_K).setOther ⟨g_K, 3, none⟩ (.int .i64 f') b_K c_K).setOther ⟨g_K, 4, none⟩ (.bool z') b_K c_K)
    have G53 := Lib.hid (grown_setNew (grown_setNew (grown_setNew (grown_setNew (grown_setNew G52.out ⟨g_K, 0, none⟩ (.int .i64 n') l_K) ⟨g_K, 1, none⟩ (.string d') l_K) ⟨g_K, 2, none⟩ (.slice a' rs'.length cap') l_K) ⟨g_K, 3, none⟩ (.int .i64 f') l_K) ⟨g_K, 4, none⟩ (.bool z') l_K)
    clear KR52 KK52 Dq52 C52 G52
    go_wp2_with fail
    clear cR0 cR1 cR2 cR3 cR4 dR0 dR1 dR2 dR3 dR4 cK0 cK1 cK2 cK3 cK4 dK0 dK1 dK2 dK3 dK4
    generalize ((((v52.setCell ⟨g_K, 0, none⟩ (.int .i64 n')).setCell ⟨g_K, 1, none⟩ (.string d')).setCell ⟨g_K, 2, none⟩ (.slice a' rs'.length cap')).setCell ⟨g_K, 3, none⟩ (.int .i64 f')).setCell ⟨g_K, 4, none⟩ (.bool z') = v53 at KR53 KK53 Dp53 C53 G53 ⊢
    refine (l1Once_any B g _ C53.out 3 (by omega) (by omega)).mono ?_
    rintro e v54 ⟨b8, rfl, hcu, hgr⟩
    have KR54 := Lib.hid (KR53.out.grown hgr c_R)
    have KK54 := Lib.hid (KK53.out.grown hgr c_K)
    have Dp54 := Lib.hid (Dp53.out.grown hgr)
    have G54 := Lib.hid (grown_tr G53.out hgr)
    have C54 := Lib.hid hcu
    clear hcu hgr KR53 KK53 Dp53 G53 C53
    cases b8 with
    | false =>
      obtain ⟨⟨cR0, cR1, cR2, cR3, cR4⟩, dR0, dR1, dR2, dR3, dR4⟩ := KR54.out.of5
      obtain ⟨⟨cK0, cK1, cK2, cK3, cK4⟩, dK0, dK1, dK2, dK3, dK4⟩ := KK54.out.of5
      go_wp2_with fail
      clear cR0 cR1 cR2 cR3 cR4 dR0 dR1 dR2 dR3 dR4 cK0 cK1 cK2 cK3 cK4 dK0 dK1 dK2 dK3 dK4
      go_roundw
      case rel => exact ⟨k + 1, by omega, by go_num, n', d', rs', f', z', a', cap', NB'.out, KR54, KK54, Dp54, C54, G54⟩
      case measure => simp [RowKit.intOf]; omega
    | true =>
      obtain ⟨⟨cR0, cR1, cR2, cR3, cR4⟩, dR0, dR1, dR2, dR3, dR4⟩ := KR54.out.of5
      obtain ⟨⟨cK0, cK1, cK2, cK3, cK4⟩, dK0, dK1, dK2, dK3, dK4⟩ := KK54.out.of5
      go_upto_region 9 with fail
      clear cR0 cR1 cR2 cR3 cR4 dR0 dR1 dR2 dR3 dR4 cK0 cK1 cK2 cK3 cK4 dK0 dK1 dK2 dK3 dK4
      refine wp_region_noPanic ?_
      refine wp_region_till (S := fun w' => Blk w' g_K [.int .i64 n', .string d', .slice a' rs'.length cap', .int .i64 f', .bool z']) 7 (by kernel_rfl) KK54.out (fun hS => ?_)
      have KR55 := Lib.hid (show Blk v54.drew g_R [.int .i64 0, .string ⟨#[]⟩, .slice none 0 0, .int .i64 0, .bool false] from KR54.out.drew)
      have KK55 := Lib.hid (show Blk v54.drew g_K [.int .i64 n', .string d', .slice a' rs'.length cap', .int .i64 f', .bool z'] from KK54.out.drew)
      have Dp55 := Lib.hid (Dp54.out.below (Below.refl _ v54).drew)
      have C55 := Lib.hid (show CurB v54.drew _ g from C54.out.below (Below.refl _ _).drew)
      have G55 := Lib.hid (show w.grownBy v54.drew (some g) from grown_tr G54.out (below_any (Below.refl _ v54).drew))
      clear KR54 KK54 Dp54 C54 G54
      clear hS
      generalize v54.drew = v55 at KR55 KK55 Dp55 C55 G55 ⊢
      refine wpTill_takeU (i := 1) (v := .pointer (some ⟨g, 0, none⟩)) rfl (by kernel_rfl) (by kernel_rfl) (by kernel_rfl) (by kernel_rfl) (fun _ _ _ h => h) (Or.inl ⟨by kernel_rfl, by intro w _; go_simp⟩) (fun _ => KK55.out) ?_
      refine wpTill_take (i := 0) (v := .agg #[.int .i64 n', .string d', .slice a' rs'.length cap', .int .i64 f', .bool z']) rfl (by kernel_rfl) (by kernel_rfl) (by kernel_rfl) (by kernel_rfl) (by kernel_rfl) (by kernel_rfl) (fun _ _ _ h => h) (Or.inl ⟨by kernel_rfl, by intro w hS; obtain ⟨⟨h0, h1, h2, h3, h4⟩, _⟩ := hS.of5; go_simp⟩) (fun _ => KK55.out) ?_
      refine wpTill_one (i := 2) (by kernel_rfl) rfl (fun K hK => ?zt1)
      rw [if_pos (by rfl)]
      go_simp
      refine (l1Below_pos B g _ C55.out 20 (by omega) (by omega)).mono ?_
      rintro e v56 ⟨q, rfl, hq, hcu, hgr⟩
      clear hq
      have KR56 := Lib.hid (KR55.out.grown hgr c_R)
      have KK56 := Lib.hid (KK55.out.grown hgr c_K)
      have Dp56 := Lib.hid (Dp55.out.grown hgr)
      have G56 := Lib.hid (grown_tr G55.out hgr)
      have C56 := Lib.hid hcu
      clear hcu hgr KR55 KK55 Dp55 G55 C55
      refine hK.out _ _ (fun _ => KK56.out) (fun _ => ?_)
      clear hK K
      have Q := takenInS n' f' z' d' a' cap' rs' q (rb_ok NB'.out).1 _ Dp56.out.has
      unfold EndTk at Q
      generalize takenS ⟨n', d', rs', f', z'⟩ q = s9 at Q
      have NB9 := taken_ok NB'.out q
      obtain ⟨⟨n9, d9, rs9, f9, z9⟩, ho⟩ : ∃ o : Rcv, taken ⟨n', d', rs', f', z'⟩ q = o := ⟨_, rfl⟩
      rw [ho] at Q NB9
      simp only at Q
      replace Q := Lib.hid Q
      replace NB9 := Lib.hid NB9
      clear ho
      refine wpTill_one (i := 3) (by kernel_rfl) rfl (fun K hK => ?zt2)
      rw [if_pos (by rfl)]
      go_simp
      refine (Q.out).mono ?_
      rintro e v57 ⟨a9, cap9, rfl, ho, hb⟩
      have Dq57 := Lib.hid (show DrnP (g_K + 1) g a9 cap9 rs9 v57 from ⟨own_down ho KK56.out.lt, hgb⟩)
      clear ho
      have KR57 := Lib.hid (KR56.out.below hb)
      have KK57 := Lib.hid (KK56.out.below hb)
      have G57 := Lib.hid (grown_tr G56.out (below_any hb))
      have C57 := Lib.hid (C56.out.below hb)
      clear hb KR56 KK56 G56 C56 Dp56 Q
      refine hK.out _ _ (fun _ => KK57.out) (fun _ => ?_)
      clear hK K
      refine wpTill_takeU (i := 4) (v := .tuple #[.agg #[.int .i64 n9, .string d9, .slice a9 rs9.length cap9, .int .i64 f9, .bool z9], .string s9]) rfl (by kernel_rfl) (by kernel_rfl) (by kernel_rfl) (by kernel_rfl) (fun _ _ _ h => h) (Or.inl ⟨by kernel_rfl, by intro w _; go_simp⟩) (fun _ => KK57.out) ?_
      refine wpTill_takeU (i := 5) (v := .agg #[.int .i64 n9, .string d9, .slice a9 rs9.length cap9, .int .i64 f9, .bool z9]) rfl (by kernel_rfl) (by kernel_rfl) (by kernel_rfl) (by kernel_rfl) (fun _ _ _ h => h) (Or.inl ⟨by kernel_rfl, by intro w _; go_simp⟩) (fun _ => KK57.out) ?_
      refine wpTill_takeU (i := 6) (v := .string s9) rfl (by kernel_rfl) (by kernel_rfl) (by kernel_rfl) (by kernel_rfl) (fun _ _ _ h => h) (Or.inl ⟨by kernel_rfl, by intro w _; go_simp⟩) (fun _ => KK57.out) ?_
      obtain ⟨⟨cK0, cK1, cK2, cK3, cK4⟩, dK0, dK1, dK2, dK3, dK4⟩ := KK57.out.of5
      refine wpTill_store (by kernel_rfl) rfl (by kernel_rfl) (fun K hK => ?zt3)
      rw [if_pos (by rfl)]
      go_simp
      have KR58 := Lib.hid (show Blk (((((v57.setCell ⟨g_K, 0, none⟩ (.int .i64 n9)).setCell ⟨g_K, 1, none⟩ (.string d9)).setCell ⟨g_K, 2, none⟩ (.slice a9 rs9.length cap9)).setCell ⟨g_K, 3, none⟩ (.int .i64 f9)).setCell ⟨g_K, 4, none⟩ (.bool z9)) g_R [.int .i64 0, .string ⟨#[]⟩, .slice none 0 0, .int .i64 0, .bool false] from (((((KR57.out.setOther ⟨g_K, 0, none⟩ (.int .i64 n9) (n_R_K)).setOther ⟨g_K, 1, none⟩ (.string d9) (n_R_K)).setOther ⟨g_K, 2, none⟩ (.slice a9 rs9.length cap9) (n_R_K)).setOther ⟨g_K, 3, none⟩ (.int .i64 f9) (n_R_K)).setOther ⟨g_K, 4, none⟩ (.bool z9) (n_R_K)))
      have KK58 := Lib.hid (show Blk (((((v57.setCell ⟨g_K, 0, none⟩ (.int .i64 n9)).setCell ⟨g_K, 1, none⟩ (.string d9)).setCell ⟨g_K, 2, none⟩ (.slice a9 rs9.length cap9)).setCell ⟨g_K, 3, none⟩ (.int .i64 f9)).setCell ⟨g_K, 4, none⟩ (.bool z9)) g_K [.int .i64 n9, .string d9, .slice a9 rs9.length cap9, .int .i64 f9, .bool z9] from (((((KK57.out.set 0 (.int .i64 n9)).set 1 (.string d9)).set 2 (.slice a9 rs9.length cap9)).set 3 (.int .i64 f9)).set 4 (.bool z9)))
      have Dp58 := Lib.hid (((((Dq57.out.set 0 (.int .i64 n9) (.inl hKb)).set 1 (.string d9) (.inl hKb)).set 2 (.slice a9 rs9.length cap9) (.inl hKb)).set 3 (.int .i64 f9) (.inl hKb)).set 4 (.bool z9) (.inl hKb))
      have G58 := Lib.hid (grown_setNew (grown_setNew (grown_setNew (grown_setNew (grown_setNew G57.out ⟨g_K, 0, none⟩ (.int .i64 n9) l_K) ⟨g_K, 1, none⟩ (.string d9) l_K) ⟨g_K, 2, none⟩ (.slice a9 rs9.length cap9) l_K) ⟨g_K, 3, none⟩ (.int .i64 f9) l_K) ⟨g_K, 4, none⟩ (.bool z9) l_K)
      have C58 := Lib.hid (((((C57.out.setOther ⟨g_K, 0, none⟩ (.int .i64 n9) b_K c_K).setOther ⟨g_K, 1, none⟩ (.string d9) b_K c_K).setOther ⟨g_K, 2, none⟩ (.slice a9 rs9.length cap9) b_K c_K).setOther ⟨g_K, 3, none⟩ (.int .i64 f9) b_K c_K).setOther ⟨g_K, 4, none⟩ (.bool z9) b_K c_K)
      refine hK.out _ _ ?_
      clear hK K KR57 KK57 Dq57 C57 G57
      clear cK0 cK1 cK2 cK3 cK4 dK0 dK1 dK2 dK3 dK4
      generalize ((((v57.setCell ⟨g_K, 0, none⟩ (.int .i64 n9)).setCell ⟨g_K, 1, none⟩ (.string d9)).setCell ⟨g_K, 2, none⟩ (.slice a9 rs9.length cap9)).setCell ⟨g_K, 3, none⟩ (.int .i64 f9)).setCell ⟨g_K, 4, none⟩ (.bool z9) = v58 at KR58 KK58 Dp58 C58 G58 ⊢
      refine wpTill_done (by kernel_rfl) ?_ _
      refine NoPanic.normal ?_
      go_wp2_with fail
      go_roundw
      case rel => exact ⟨k + 1, by omega, by go_num, n9, d9, rs9, f9, z9, a9, cap9, NB9.out, KR58, KK58, Dp58, C58, G58⟩
      case measure => simp [RowKit.intOf]; omega
end Go.Proofs.Ytpbnkkgfjmkcdaa
namespace Go.Proofs.Ytpbnkkgfjmkcdaa
open Go

section
variable {P : Program} {ops : Array Oper} {Q : Exit → Act → World → Prop} {md : Region.Mode} {S T : World → Prop} {L : Nat}

theorem wpTill_two {i j : Nat} {oi oj : Oper} {n : Nat} {ls : Array Bool} {a : Act} {w : World} (hr : Region.ready md ops ls = [i, j]) (hoi : ops[i]? = some oi) (hoj : ops[j]? = some oj)
    (h1 : ∀ K : Act → World → Prop, Shut (∀ b u, Till S L (ls.setIfInBounds i true) u → (Till S L (ls.setIfInBounds i true) u → wpTill P md ops Q S L n (ls.setIfInBounds i true) b u) → K b u) → if Region.wanted oi (yielded ops a.tmps) = true then Oper.wp P oi a w K Q else K (a.put oi.dst undef) w)
    (h2 : ∀ K : Act → World → Prop, Shut (∀ b u, Till S L (ls.setIfInBounds j true) u → (Till S L (ls.setIfInBounds j true) u → wpTill P md ops Q S L n (ls.setIfInBounds j true) b u) → K b u) → if Region.wanted oj (yielded ops a.tmps) = true then Oper.wp P oj a w K Q else K (a.put oj.dst undef) w) :
    wpTill P md ops Q S L (n + 1) ls a w := by
  refine ⟨fun h0 => (by rw [hr] at h0; cases h0), fun k hk => ?_⟩
  rw [hr] at hk
  simp only [List.mem_cons, List.not_mem_nil, or_false] at hk
  rcases hk with rfl | rfl
  · exact wpOp_step hoi (fun K hK => h1 K (fun b u hS hW => hK b u ⟨hS, hW hS⟩))
  · exact wpOp_step hoj (fun K hK => h2 K (fun b u hS hW => hK b u ⟨hS, hW hS⟩))
end
end Go.Proofs.Ytpbnkkgfjmkcdaa
namespace Go.Proofs.Ytpbnkkgfjmkcdaa
open Go.RowKit Go.Lib

/-- The numbers among which l2Word picks. -/
def word2Cs : Array Value := #[.int .i64 0, .int .i64 1, .int .i64 255, .int .i64 256, .int .i64 65535, .int .i64 65536, .int .i64 16777215, .int .i64 4294967295, .int .i64 4294967296, .int .i64 281474976710655, .int .i64 281474976710656]
theorem word2Cs_bd : ∀ v ∈ word2Cs.toList, ∃ x, v = .int .i64 x ∧ I64 x := by
  intro v hv
  simp only [word2Cs, List.mem_cons, List.mem_nil_iff, or_false] at hv
  unfold I64
  rcases hv with rfl | rfl | rfl | rfl | rfl | rfl | rfl | rfl | rfl | rfl | rfl <;> exact ⟨_, rfl, by decide⟩
theorem pickWord2 (B g : Nat) (w : World) (hc : CurB w B g) : Calls Try.prog 50 #[.pointer (some ⟨g, 0, none⟩), .slice (some ⟨w.heap.size, 0, none⟩) 11 11] (w.alloc (.cells word2Cs 3)) (WholeEnd w B g) :=
  pickNew B g w hc word2Cs (by decide) (by decide) word2Cs_bd

set_option maxRecDepth 100000 in
set_option maxHeartbeats 1000000 in
theorem l2Word_any (B g : Nat) (w : World) (hc : CurB w B g) : Calls Try.prog 60 #[.pointer (some ⟨g, 0, none⟩)] w (WholeEnd w B g) := by
  have C := Lib.hid (l1Below_pos B g w hc 3 (by omega) (by omega))
  clear hc
  go_enter Try.func60, Try.ntmps60
  go_wp2_with fail
  refine C.out.mono ?_
  rintro e w1 ⟨r, rfl, ⟨r0, r1⟩, hc1, hg1⟩
  have C1 := Lib.hid hc1
  have G1 := Lib.hid hg1
  clear hc1 hg1
  have hr : r = 0 ∨ r = 1 ∨ r = 2 := by omega
  rcases hr with rfl | rfl | rfl
  · go_wp2_with fail
    refine (l1Whole_any B g w1 C1.out).mono ?_
    rintro e w2 ⟨n, rfl, hn, hc2, hg2⟩
    have N := Lib.hid hn
    have C2 := Lib.hid hc2
    have G2 := Lib.hid (grown_tr G1.out hg2)
    clear hn hc2 hg2
    go_wp2_with fail
    go_ret
    exact ⟨n, rfl, N.out, C2.out, G2.out⟩
  · go_wp2_with fail
    refine (pickWord2 B g w1 C1.out).mono ?_
    rintro e w2 ⟨n, rfl, hn, hc2, hg2⟩
    have N := Lib.hid hn
    have C2 := Lib.hid hc2
    have G2 := Lib.hid (grown_tr G1.out hg2)
    clear hn hc2 hg2
    go_wp2_with fail
    go_ret
    exact ⟨n, rfl, N.out, C2.out, G2.out⟩
  · go_wp2_with fail
    refine (l1Below_pos B g w1 C1.out 65536 (by omega) (by omega)).mono ?_
    rintro e w2 ⟨n, rfl, ⟨n0, n1⟩, hc2, hg2⟩
    have C2 := Lib.hid hc2
    have G2 := Lib.hid (grown_tr G1.out hg2)
    clear hc2 hg2
    go_wp2_with fail
    go_ret
    exact ⟨_, rfl, ⟨by omega, by omega⟩, C2.out, G2.out⟩
end Go.Proofs.Ytpbnkkgfjmkcdaa
namespace Go.Proofs.Ytpbnkkgfjmkcdaa
open Go.RowKit Go.Lib

set_option maxHeartbeats 1000000 in
theorem l1Pick_any (B g r : Nat) (w : World) (hc : CurB w B g) (cs : Array Value) (h : w.heap[r]? = some (.cells cs 9 (0, 0))) (hne : r ≠ g) (h0 : 0 < cs.size) (h1 : cs.size ≤ 1000000) (hall : ∀ v ∈ cs.toList, ∃ x, v = .string x) :
    Calls Try.prog 61 #[.pointer (some ⟨g, 0, none⟩), .slice (some ⟨r, 0, none⟩) cs.size cs.size] w (PickEnd w B g cs.toList) := by
  have C := Lib.hid (l1Below_pos B g w hc cs.size (by omega) (by omega))
  have hr : r < w.heap.size := by
    rcases Nat.lt_or_ge r w.heap.size with hlt | hge
    · exact hlt
    · rw [Array.getElem?_eq_none hge] at h; cases h
  have HH := Lib.hid h
  have HA := Lib.hid hall
  clear hc h hall
  go_enter Try.func61, Try.ntmps61
  go_wp2_with fail
  refine C.out.mono ?_
  rintro e w1 ⟨q, rfl, ⟨q0, q1⟩, hc1, hg1⟩
  obtain ⟨k, rfl⟩ : ∃ k : Nat, q = (k : Int) := ⟨q.toNat, by omega⟩
  have hk : k < cs.size := by omega
  have h' : w1.heap[r]? = some (.cells cs 9 (0, 0)) := (hg1.block r hr (fun e => hne (by injection e))).trans HH.out
  have hcell := row_at h' hk
  obtain ⟨x, hx⟩ := HA.out cs[k] (by simp)
  have hmem : Hid (Value.string x ∈ cs.toList) := by show _ ∈ _; rw [← hx]; simp
  rw [hx] at hcell
  have C1 := Lib.hid hc1
  have G1 := Lib.hid hg1
  clear hc1 hg1 h' hx
  go_wp2_with fail
  go_ret
  exact ⟨_, hmem.out, rfl, C1.out, G1.out⟩

end Go.Proofs.Ytpbnkkgfjmkcdaa
namespace Go.Proofs.Ytpbnkkgfjmkcdaa
open Go.RowKit Go.Lib

theorem made_zero (k : Nat) : (madeCells (Value.int IntKind.u8 0).cells (k * 1)).toList = byteCells (List.replicate k (0 : UInt8)) := by
  apply List.ext_getElem?
  intro j
  by_cases hj : j < k
  · simp [madeCells, byteCells, hj, Value.cells, Nat.mod_one]
  · simp [madeCells, byteCells, hj]

set_option maxHeartbeats 400000 in
theorem l5Long_any (k : Nat) (hk : k ≤ 1000000) (w : World) :
    Calls Try.prog 62 #[.int .i64 k] w fun e w' => ∃ b : ByteArray, e = .returned (.string b) ∧ b.size = k ∧ Below w.heap.size w w' := by
  obtain ⟨i0, hi, hz0, hz1, hz2⟩ := info_parts Try.info5
  go_enter Try.func62, Try.ntmps62
  go_wp2_with (at_make; refine wpList_make_full _ rfl _ _ _ rfl w.heap.size 5 i0 _ 1 Try.underlying22 hi hz0 hz1 _ _ _ _ k rfl rfl rfl rfl (by rw [hz2]; omega) (by unfold maxLen; omega) (Nat.le_refl _) ?_; intro w1 hown hgrow; rw [made_zero] at hown; have hcv := run_string_own (P := Try.prog) Try.underlying22 Try.underlying5 Try.underlying9 hown)
  go_ret
  exact ⟨_, rfl, by simp [ByteArray.size], below_made hgrow⟩
end Go.Proofs.Ytpbnkkgfjmkcdaa
namespace Go.Proofs.Ytpbnkkgfjmkcdaa
open Go.RowKit Go.Lib

/-- The bounds of a drawn receiver, bent or not. -/
def RBd (d : ByteArray) (rs : List HP) : Prop := d.size ≤ 33 ∧ rs.length ≤ 4 ∧ ∀ p ∈ rs, p.t.size ≤ 32
theorem RBd.rb {d : ByteArray} {rs : List HP} (h : RBd d rs) : RB d rs := ⟨by have := h.1; omega, by have := h.2.1; omega, fun p hp => by have := h.2.2 p hp; omega⟩
/-- A drawn receiver, perhaps bent; only the cursor has turned. -/
def RcvBent (w : World) (B g : Nat) (e : Ending) (w' : World) : Prop :=
  ∃ (n : Int) (d : ByteArray) (rs : List HP) (f : Int) (z : Bool) (a : Option Addr) (cap : Nat), e = .returned (.agg #[.int .i64 n, .string d, .slice a rs.length cap, .int .i64 f, .bool z]) ∧ RBd d rs ∧ w'.ownsRow w.heap.size 64 2 (.slice a rs.length cap) rs.length (hps rs) ∧ CurB w' B g ∧ w.grownBy w' (some g)
theorem rbd_app {rs : List HP} {o : Int} {t : ByteArray} (h : rs.length ≤ 3) (h1 : ∀ p ∈ rs, p.t.size ≤ 32) (ht : t.size ≤ 2) : (rs ++ [(⟨o, t⟩ : HP)]).length ≤ 4 ∧ ∀ p ∈ rs ++ [(⟨o, t⟩ : HP)], p.t.size ≤ 32 := by
  refine ⟨by simp; omega, fun p hp => ?_⟩
  rcases List.mem_append.1 hp with h2 | h2
  · exact h1 p h2
  · rw [List.mem_singleton.1 h2]; show t.size ≤ 32; omega
def strCs : Array Value := #[.string ⟨#[]⟩, .string ⟨#[120]⟩, .string ⟨#[121, 122]⟩]
theorem strCs_bd : ∀ v ∈ strCs.toList, ∃ x : ByteArray, v = .string x ∧ x.size ≤ 2 := by
  intro v hv
  simp only [strCs, List.mem_cons, List.mem_nil_iff, or_false] at hv
  rcases hv with rfl | rfl | rfl <;> exact ⟨_, rfl, by decide⟩
def finCs : Array Value := #[.int .i64 (-2), .int .i64 (-1), .int .i64 0, .int .i64 5, .int .i64 32, .int .i64 33]
theorem finCs_bd : ∀ v ∈ finCs.toList, ∃ x, v = .int .i64 x ∧ I64 x := by
  intro v hv
  simp only [finCs, List.mem_cons, List.mem_nil_iff, or_false] at hv
  unfold I64
  rcases hv with rfl | rfl | rfl | rfl | rfl | rfl <;> exact ⟨_, rfl, by decide⟩
theorem pickFin (B g : Nat) (w : World) (hc : CurB w B g) : Calls Try.prog 50 #[.pointer (some ⟨g, 0, none⟩), .slice (some ⟨w.heap.size, 0, none⟩) 6 6] (w.alloc (.cells finCs 3)) (WholeEnd w B g) :=
  pickNew B g w hc finCs (by decide) (by decide) finCs_bd
def offCs : Array Value := #[.int .i64 0, .int .i64 1, .int .i64 20, .int .i64 31, .int .i64 32, .int .i64 (-1), .int .i64 9223372036854775807]
theorem offCs_bd : ∀ v ∈ offCs.toList, ∃ x, v = .int .i64 x ∧ I64 x := by
  intro v hv
  simp only [offCs, List.mem_cons, List.mem_nil_iff, or_false] at hv
  unfold I64
  rcases hv with rfl | rfl | rfl | rfl | rfl | rfl | rfl <;> exact ⟨_, rfl, by decide⟩

set_option maxRecDepth 100000 in
set_option maxHeartbeats 8000000 in
theorem l18Bent_any (B g : Nat) (w : World) (hc : CurB w B g) : Calls Try.prog 29 #[.pointer (some ⟨g, 0, none⟩)] w (RcvBent w B g) := by
  obtain ⟨i0, hi, hz0, hz1, hz2⟩ := info_parts Try.info64
  go_enter Try.func29, Try.ntmps29
  have hlt := hc.lt
  have hBg := hc.1
  have C0 := Lib.hid (show CurB (w.alloc (.cells #[.int .i64 0, .string ⟨#[]⟩, .slice none 0 0, .int .i64 0, .bool false] 26)) B g from (hc.new (.cells #[.int .i64 0, .string ⟨#[]⟩, .slice none 0 0, .int .i64 0, .bool false] 26)))
  have G0 := Lib.hid (show w.grownBy (w.alloc (.cells #[.int .i64 0, .string ⟨#[]⟩, .slice none 0 0, .int .i64 0, .bool false] 26)) (some g) from (grown_new (World.grownBy.refl w (some g)) (.cells #[.int .i64 0, .string ⟨#[]⟩, .slice none 0 0, .int .i64 0, .bool false] 26)))
  clear hc
  have KR0 := Lib.hid (show Blk (w.alloc (.cells #[.int .i64 0, .string ⟨#[]⟩, .slice none 0 0, .int .i64 0, .bool false] 26)) (w.heap.size) [.int .i64 0, .string ⟨#[]⟩, .slice none 0 0, .int .i64 0, .bool false] from ((Blk.new w [.int .i64 0, .string ⟨#[]⟩, .slice none 0 0, .int .i64 0, .bool false] 26)))
  go_upto_region 1 with fail
  generalize w.alloc (.cells #[.int .i64 0, .string ⟨#[]⟩, .slice none 0 0, .int .i64 0, .bool false] 26) = v0 at C0 G0 KR0 ⊢
  generalize hh_R : w.heap.size = g_R at KR0 ⊢
  have l_R : w.heap.size ≤ g_R := by omega
  have b_R : B ≤ g_R := by omega
  have c_R : g_R ≠ g := by omega
  clear hh_R
  go_wp2_with fail
  refine (l18Receiver_any B g v0 C0.out).mono ?_
  rintro e v1 ⟨n, d, rs, f, z, a, cap, rfl, hok, ho, hcu, hgr⟩
  have hgb : g < v0.heap.size := C0.out.lt
  have hRb : g_R < v0.heap.size := KR0.out.lt
  have hwb : w.heap.size ≤ v0.heap.size := G0.out.size
  have Dp1 := Lib.hid (show DrnP v0.heap.size g a cap rs v1 from ⟨ho, hgb⟩)
  have hpl := Dp1.out.apart
  have hv0 : v0.heap.size ≤ v1.heap.size := hgr.size
  have hb := (rb_ok hok).2
  have HB := Lib.hid hb
  have hd32 : d.size ≤ 32 := hb.1
  have hr3 : rs.length ≤ 3 := hb.2.1
  clear ho hok hb
  have KR1 := Lib.hid (KR0.out.grown hgr c_R)
  have G1 := Lib.hid (grown_tr G0.out hgr)
  have C1 := Lib.hid hcu
  clear hcu hgr KR0 G0 C0
  have KR2 := Lib.hid (KR1.out.alloc (.cells #[.int .i64 n, .string d, .slice a rs.length cap, .int .i64 f, .bool z] 26))
  have n_R_K : g_R ≠ v1.heap.size := by have h1 := KR1.out.lt; omega
  have Dp2 := Lib.hid (Dp1.out.alloc (.cells #[.int .i64 n, .string d, .slice a rs.length cap, .int .i64 f, .bool z] 26))
  have KK2 := Lib.hid (Blk.new v1 [.int .i64 n, .string d, .slice a rs.length cap, .int .i64 f, .bool z] 26)
  have G2 := Lib.hid (grown_new G1.out (.cells #[.int .i64 n, .string d, .slice a rs.length cap, .int .i64 f, .bool z] 26))
  have C2 := Lib.hid (C1.out.new (.cells #[.int .i64 n, .string d, .slice a rs.length cap, .int .i64 f, .bool z] 26))
  have l_K : w.heap.size ≤ v1.heap.size := G1.out.size
  have c_K : v1.heap.size ≠ g := Nat.ne_of_gt C1.out.lt
  have b_K : B ≤ v1.heap.size := by have h1 := C1.out.lt; omega
  clear KR1 Dp1 G1 C1
  obtain ⟨⟨cR0, cR1, cR2, cR3, cR4⟩, dR0, dR1, dR2, dR3, dR4⟩ := KR2.out.of5
  obtain ⟨⟨cK0, cK1, cK2, cK3, cK4⟩, dK0, dK1, dK2, dK3, dK4⟩ := KK2.out.of5
  go_wp2_with fail
  clear cR0 cR1 cR2 cR3 cR4 dR0 dR1 dR2 dR3 dR4 cK0 cK1 cK2 cK3 cK4 dK0 dK1 dK2 dK3 dK4
  generalize v1.alloc (.cells #[.int .i64 n, .string d, .slice a rs.length cap, .int .i64 f, .bool z] 26) = v2 at KR2 KK2 Dp2 C2 G2 ⊢
  generalize hh : v1.heap.size = g_K at KK2 l_K c_K b_K n_R_K  hpl hv0 ⊢
  clear hh
  refine (l1Below_pos B g v2 C2.out 12 (by omega) (by omega)).mono ?_
  rintro e v3 ⟨s, rfl, hs, hcu, hgr⟩
  have KR3 := Lib.hid (KR2.out.grown hgr c_R)
  have KK3 := Lib.hid (KK2.out.grown hgr c_K)
  have Dp3 := Lib.hid (Dp2.out.grown hgr)
  have G3 := Lib.hid (grown_tr G2.out hgr)
  have C3 := Lib.hid hcu
  clear hcu hgr KR2 KK2 Dp2 G2 C2
  by_cases h0 : s = 0
  case pos =>
    subst h0
    obtain ⟨⟨cR0, cR1, cR2, cR3, cR4⟩, dR0, dR1, dR2, dR3, dR4⟩ := KR3.out.of5
    obtain ⟨⟨cK0, cK1, cK2, cK3, cK4⟩, dK0, dK1, dK2, dK3, dK4⟩ := KK3.out.of5
    go_wp2_with fail
    clear cR0 cR1 cR2 cR3 cR4 dR0 dR1 dR2 dR3 dR4 cK0 cK1 cK2 cK3 cK4 dK0 dK1 dK2 dK3 dK4
    refine (l2Word_any B g v3 C3.out).mono ?_
    rintro e v4 ⟨x, rfl, hx, hcu, hgr⟩
    clear hx
    have KR4 := Lib.hid (KR3.out.grown hgr c_R)
    have KK4 := Lib.hid (KK3.out.grown hgr c_K)
    have Dp4 := Lib.hid (Dp3.out.grown hgr)
    have G4 := Lib.hid (grown_tr G3.out hgr)
    have C4 := Lib.hid hcu
    clear hcu hgr KR3 KK3 Dp3 G3 C3
    obtain ⟨⟨cR0, cR1, cR2, cR3, cR4⟩, dR0, dR1, dR2, dR3, dR4⟩ := KR4.out.of5
    obtain ⟨⟨cK0, cK1, cK2, cK3, cK4⟩, dK0, dK1, dK2, dK3, dK4⟩ := KK4.out.of5
    go_wp2_with fail
    exact bodyPost_ret (v := .agg #[.int .i64 x, .string d, .slice a rs.length cap, .int .i64 f, .bool z]) (by simp [results, Try.results29, go_sem, cR0, cR1, cR2, cR3, cR4]) rfl ⟨x, d, rs, f, z, a, cap, rfl, ⟨by omega, by omega, HB.out.2.2⟩, own_down ((((((Dp4.out.set 0 _ (.inr hpl)).set 0 _ (.inl hRb)).set 1 _ (.inl hRb)).set 2 _ (.inl hRb)).set 3 _ (.inl hRb)).set 4 _ (.inl hRb)).1 hwb, ((((((C4.out.setOther _ _ b_K c_K).setOther _ _ b_R c_R).setOther _ _ b_R c_R).setOther _ _ b_R c_R).setOther _ _ b_R c_R).setOther _ _ b_R c_R), (grown_setNew (grown_setNew (grown_setNew (grown_setNew (grown_setNew (grown_setNew G4.out _ _ l_K) _ _ l_R) _ _ l_R) _ _ l_R) _ _ l_R) _ _ l_R)⟩
  have h0' : (s == 0) = false := by simp [h0]
  by_cases h1 : s = 1
  case pos =>
    subst h1
    obtain ⟨⟨cR0, cR1, cR2, cR3, cR4⟩, dR0, dR1, dR2, dR3, dR4⟩ := KR3.out.of5
    obtain ⟨⟨cK0, cK1, cK2, cK3, cK4⟩, dK0, dK1, dK2, dK3, dK4⟩ := KK3.out.of5
    go_wp2_with fail
    clear cR0 cR1 cR2 cR3 cR4 dR0 dR1 dR2 dR3 dR4 cK0 cK1 cK2 cK3 cK4 dK0 dK1 dK2 dK3 dK4
    refine (pickFin B g v3 C3.out).mono ?_
    rintro e v4 ⟨x, rfl, hx, hcu, hgr⟩
    clear hx
    have KR4 := Lib.hid (KR3.out.grown hgr c_R)
    have KK4 := Lib.hid (KK3.out.grown hgr c_K)
    have Dp4 := Lib.hid (Dp3.out.grown hgr)
    have G4 := Lib.hid (grown_tr G3.out hgr)
    have C4 := Lib.hid hcu
    clear hcu hgr KR3 KK3 Dp3 G3 C3
    obtain ⟨⟨cR0, cR1, cR2, cR3, cR4⟩, dR0, dR1, dR2, dR3, dR4⟩ := KR4.out.of5
    obtain ⟨⟨cK0, cK1, cK2, cK3, cK4⟩, dK0, dK1, dK2, dK3, dK4⟩ := KK4.out.of5
    go_wp2_with fail
    exact bodyPost_ret (v := .agg #[.int .i64 n, .string d, .slice a rs.length cap, .int .i64 x, .bool z]) (by simp [results, Try.results29, go_sem, cR0, cR1, cR2, cR3, cR4]) rfl ⟨n, d, rs, x, z, a, cap, rfl, ⟨by omega, by omega, HB.out.2.2⟩, own_down ((((((Dp4.out.set 3 _ (.inr hpl)).set 0 _ (.inl hRb)).set 1 _ (.inl hRb)).set 2 _ (.inl hRb)).set 3 _ (.inl hRb)).set 4 _ (.inl hRb)).1 hwb, ((((((C4.out.setOther _ _ b_K c_K).setOther _ _ b_R c_R).setOther _ _ b_R c_R).setOther _ _ b_R c_R).setOther _ _ b_R c_R).setOther _ _ b_R c_R), (grown_setNew (grown_setNew (grown_setNew (grown_setNew (grown_setNew (grown_setNew G4.out _ _ l_K) _ _ l_R) _ _ l_R) _ _ l_R) _ _ l_R) _ _ l_R)⟩
  have h1' : (s == 1) = false := by simp [h1]
  by_cases h2 : s = 2
  case pos =>
    subst h2
    obtain ⟨⟨cR0, cR1, cR2, cR3, cR4⟩, dR0, dR1, dR2, dR3, dR4⟩ := KR3.out.of5
    obtain ⟨⟨cK0, cK1, cK2, cK3, cK4⟩, dK0, dK1, dK2, dK3, dK4⟩ := KK3.out.of5
    go_wp2_with fail
    exact bodyPost_ret (v := .agg #[.int .i64 n, .string d, .slice a rs.length cap, .int .i64 f, .bool (!z)]) (by simp [results, Try.results29, go_sem, cR0, cR1, cR2, cR3, cR4]) rfl ⟨n, d, rs, f, (!z), a, cap, rfl, ⟨by omega, by omega, HB.out.2.2⟩, own_down ((((((Dp3.out.set 4 _ (.inr hpl)).set 0 _ (.inl hRb)).set 1 _ (.inl hRb)).set 2 _ (.inl hRb)).set 3 _ (.inl hRb)).set 4 _ (.inl hRb)).1 hwb, ((((((C3.out.setOther _ _ b_K c_K).setOther _ _ b_R c_R).setOther _ _ b_R c_R).setOther _ _ b_R c_R).setOther _ _ b_R c_R).setOther _ _ b_R c_R), (grown_setNew (grown_setNew (grown_setNew (grown_setNew (grown_setNew (grown_setNew G3.out _ _ l_K) _ _ l_R) _ _ l_R) _ _ l_R) _ _ l_R) _ _ l_R)⟩
  have h2' : (s == 2) = false := by simp [h2]
  by_cases h3 : s = 3
  case pos =>
    subst h3
    obtain ⟨⟨cR0, cR1, cR2, cR3, cR4⟩, dR0, dR1, dR2, dR3, dR4⟩ := KR3.out.of5
    obtain ⟨⟨cK0, cK1, cK2, cK3, cK4⟩, dK0, dK1, dK2, dK3, dK4⟩ := KK3.out.of5
    go_upto_region 10 with fail
    clear cR0 cR1 cR2 cR3 cR4 dR0 dR1 dR2 dR3 dR4 cK0 cK1 cK2 cK3 cK4 dK0 dK1 dK2 dK3 dK4
    refine wp_region_noPanic ?_
    refine wp_region_till (S := fun w' => Blk w' g_K [.int .i64 n, .string d, .slice a rs.length cap, .int .i64 f, .bool z]) 12 (by kernel_rfl) KK3.out (fun hS => ?_)
    have KR4 := Lib.hid (show Blk v3.drew g_R [.int .i64 0, .string ⟨#[]⟩, .slice none 0 0, .int .i64 0, .bool false] from KR3.out.drew)
    have KK4 := Lib.hid (show Blk v3.drew g_K [.int .i64 n, .string d, .slice a rs.length cap, .int .i64 f, .bool z] from KK3.out.drew)
    have Dp4 := Lib.hid (Dp3.out.below (Below.refl _ v3).drew)
    have C4 := Lib.hid (show CurB v3.drew _ g from C3.out.below (Below.refl _ _).drew)
    have G4 := Lib.hid (show w.grownBy v3.drew (some g) from grown_tr G3.out (below_any (Below.refl _ v3).drew))
    clear KR3 KK3 Dp3 C3 G3
    clear hS
    generalize v3.drew = v4 at KR4 KK4 Dp4 C4 G4 ⊢
    refine wpTill_takeU (i := 0) (v := .pointer (some ⟨g_K, 2, none⟩)) rfl (by kernel_rfl) (by kernel_rfl) (by kernel_rfl) (by kernel_rfl) (fun _ _ _ h => h) (Or.inl ⟨by kernel_rfl, by intro w _; go_simp⟩) (fun _ => KK4.out) ?_
    refine wpTill_take (i := 1) (v := .slice a rs.length cap) rfl (by kernel_rfl) (by kernel_rfl) (by kernel_rfl) (by kernel_rfl) (by kernel_rfl) (by kernel_rfl) (fun _ _ _ h => h) (Or.inl ⟨by kernel_rfl, by intro w hS; obtain ⟨⟨h0, h1, h2, h3, h4⟩, _⟩ := hS.of5; go_simp⟩) (fun _ => KK4.out) ?_
    refine wpTill_takeU (i := 2) (v := .pointer (some ⟨g, 0, none⟩)) rfl (by kernel_rfl) (by kernel_rfl) (by kernel_rfl) (by kernel_rfl) (fun _ _ _ h => h) (Or.inl ⟨by kernel_rfl, by intro w _; go_simp⟩) (fun _ => KK4.out) ?_
    refine wpTill_takeU (i := 5) (v := .pointer (some ⟨g, 0, none⟩)) rfl (by kernel_rfl) (by kernel_rfl) (by kernel_rfl) (by kernel_rfl) (fun _ _ _ h => h) (Or.inl ⟨by kernel_rfl, by intro w _; go_simp⟩) (fun _ => KK4.out) ?_
    refine wpTill_two (i := 3) (j := 6) (by kernel_rfl) rfl rfl (fun K hK => ?zt4) (fun K hK => ?zt5)
    · rw [if_pos (by rfl)]
      go_simp
      have KR5 := Lib.hid (KR4.out.alloc (.cells #[.int .i64 0, .int .i64 1, .int .i64 20, .int .i64 31, .int .i64 32, .int .i64 (-1), .int .i64 9223372036854775807] 3))
      have KK5 := Lib.hid (KK4.out.alloc (.cells #[.int .i64 0, .int .i64 1, .int .i64 20, .int .i64 31, .int .i64 32, .int .i64 (-1), .int .i64 9223372036854775807] 3))
      have Dp5 := Lib.hid (Dp4.out.alloc (.cells #[.int .i64 0, .int .i64 1, .int .i64 20, .int .i64 31, .int .i64 32, .int .i64 (-1), .int .i64 9223372036854775807] 3))
      have Di5 := Lib.hid (HIs.new (.cells #[.int .i64 0, .int .i64 1, .int .i64 20, .int .i64 31, .int .i64 32, .int .i64 (-1), .int .i64 9223372036854775807] 3) v4 C4.out.lt)
      have G5 := Lib.hid (grown_new G4.out (.cells #[.int .i64 0, .int .i64 1, .int .i64 20, .int .i64 31, .int .i64 32, .int .i64 (-1), .int .i64 9223372036854775807] 3))
      have C5 := Lib.hid (C4.out.new (.cells #[.int .i64 0, .int .i64 1, .int .i64 20, .int .i64 31, .int .i64 32, .int .i64 (-1), .int .i64 9223372036854775807] 3))
      refine hK.out _ _ (fun _ => KK5.out) (fun _ => ?_)
      clear hK K
      clear KR4 KK4 Dp4 C4 G4
      generalize v4.alloc (.cells #[.int .i64 0, .int .i64 1, .int .i64 20, .int .i64 31, .int .i64 32, .int .i64 (-1), .int .i64 9223372036854775807] 3) = v5 at KR5 KK5 Dp5 Di5 C5 G5 ⊢
      generalize v4.heap.size = g_i at Di5 ⊢
      refine wpTill_two (i := 4) (j := 6) (by kernel_rfl) rfl rfl (fun K hK => ?zt6) (fun K hK => ?zt7)
      · rw [if_pos (by rfl)]
        go_simp
        refine (l1PickInt_any B g _ _ C5.out #[.int .i64 0, .int .i64 1, .int .i64 20, .int .i64 31, .int .i64 32, .int .i64 (-1), .int .i64 9223372036854775807] Di5.out.1 Di5.out.2 (by decide) (by decide) (fun v hv => (offCs_bd v hv).imp fun _ h => h.1)).mono ?_
        rintro e v6 ⟨pv, hpv, rfl, hcu, hgr⟩
        obtain ⟨ox, rfl, hox⟩ := offCs_bd pv hpv
        clear hpv hox
        have KR6 := Lib.hid (KR5.out.grown hgr c_R)
        have KK6 := Lib.hid (KK5.out.grown hgr c_K)
        have Dp6 := Lib.hid (Dp5.out.grown hgr)
        have Di6 := Lib.hid (Di5.out.grown hgr)
        have G6 := Lib.hid (grown_tr G5.out hgr)
        have C6 := Lib.hid hcu
        clear hcu hgr KR5 KK5 Dp5 Di5 G5 C5
        refine hK.out _ _ (fun _ => KK6.out) (fun _ => ?_)
        clear hK K
        refine wpTill_one (i := 6) (by kernel_rfl) rfl (fun K hK => ?zt8)
        rw [if_pos (by rfl)]
        go_simp
        have KR7 := Lib.hid (KR6.out.alloc (.cells #[.string ⟨#[]⟩, .string ⟨#[120]⟩, .string ⟨#[121, 122]⟩] 9))
        have KK7 := Lib.hid (KK6.out.alloc (.cells #[.string ⟨#[]⟩, .string ⟨#[120]⟩, .string ⟨#[121, 122]⟩] 9))
        have Dp7 := Lib.hid (Dp6.out.alloc (.cells #[.string ⟨#[]⟩, .string ⟨#[120]⟩, .string ⟨#[121, 122]⟩] 9))
        have Di7 := Lib.hid (Di6.out.alloc (.cells #[.string ⟨#[]⟩, .string ⟨#[120]⟩, .string ⟨#[121, 122]⟩] 9))
        have Dj7 := Lib.hid (HIs.new (.cells #[.string ⟨#[]⟩, .string ⟨#[120]⟩, .string ⟨#[121, 122]⟩] 9) v6 C6.out.lt)
        have G7 := Lib.hid (grown_new G6.out (.cells #[.string ⟨#[]⟩, .string ⟨#[120]⟩, .string ⟨#[121, 122]⟩] 9))
        have C7 := Lib.hid (C6.out.new (.cells #[.string ⟨#[]⟩, .string ⟨#[120]⟩, .string ⟨#[121, 122]⟩] 9))
        refine hK.out _ _ (fun _ => KK7.out) (fun _ => ?_)
        clear hK K
        clear KR6 KK6 Dp6 Di6 C6 G6
        generalize v6.alloc (.cells #[.string ⟨#[]⟩, .string ⟨#[120]⟩, .string ⟨#[121, 122]⟩] 9) = v7 at KR7 KK7 Dp7 Di7 Dj7 C7 G7 ⊢
        generalize v6.heap.size = g_j at Dj7 ⊢
        refine wpTill_one (i := 7) (by kernel_rfl) rfl (fun K hK => ?zt9)
        rw [if_pos (by rfl)]
        go_simp
        refine (l1Pick_any B g _ _ C7.out #[.string ⟨#[]⟩, .string ⟨#[120]⟩, .string ⟨#[121, 122]⟩] Dj7.out.1 Dj7.out.2 (by decide) (by decide) (fun v hv => (strCs_bd v hv).imp fun _ h => h.1)).mono ?_
        rintro e v8 ⟨pv, hpv, rfl, hcu, hgr⟩
        obtain ⟨tx, rfl, htx⟩ := strCs_bd pv hpv
        clear hpv
        have KR8 := Lib.hid (KR7.out.grown hgr c_R)
        have KK8 := Lib.hid (KK7.out.grown hgr c_K)
        have Dp8 := Lib.hid (Dp7.out.grown hgr)
        have Di8 := Lib.hid (Di7.out.grown hgr)
        have Dj8 := Lib.hid (Dj7.out.grown hgr)
        have G8 := Lib.hid (grown_tr G7.out hgr)
        have C8 := Lib.hid hcu
        clear hcu hgr KR7 KK7 Dp7 Di7 Dj7 G7 C7
        refine hK.out _ _ (fun _ => KK8.out) (fun _ => ?_)
        clear hK K
        clear Di8 Dj8
        refine wpTill_takeU (i := 8) (v := .agg #[.int .i64 ox, .string tx]) rfl (by kernel_rfl) (by kernel_rfl) (by kernel_rfl) (by kernel_rfl) (fun _ _ _ h => h) (Or.inl ⟨by kernel_rfl, by intro w _; go_simp⟩) (fun _ => KK8.out) ?_
        refine wpTill_one (i := 9) (by kernel_rfl) rfl (fun K hK => ?zt10)
        rw [if_pos (by rfl)]
        go_simp
        have KR9 := Lib.hid (KR8.out.alloc (.cells #[.int .i64 ox, .string tx] 64))
        have KK9 := Lib.hid (KK8.out.alloc (.cells #[.int .i64 ox, .string tx] 64))
        have Dp9 := Lib.hid (Dp8.out.alloc (.cells #[.int .i64 ox, .string tx] 64))
        have De9 := Lib.hid (HIs.new (.cells #[.int .i64 ox, .string tx] 64) v8 C8.out.lt)
        have G9 := Lib.hid (grown_new G8.out (.cells #[.int .i64 ox, .string tx] 64))
        have C9 := Lib.hid (C8.out.new (.cells #[.int .i64 ox, .string tx] 64))
        refine hK.out _ _ (fun _ => KK9.out) (fun _ => ?_)
        clear hK K
        clear KR8 KK8 Dp8 C8 G8
        generalize v8.alloc (.cells #[.int .i64 ox, .string tx] 64) = v9 at KR9 KK9 Dp9 De9 C9 G9 ⊢
        generalize v8.heap.size = g_e at De9 ⊢
        refine wpTill_one (i := 10) (by kernel_rfl) rfl (fun K hK => ?zt11)
        have hsz := Nat.le_trans hv0 (Nat.le_of_lt KK9.out.lt)
        refine step_append_lies _ rfl _ _ _ rfl v0.heap.size 64 i0 _ 2 24 Try.underlying24 hi hz0 hz1 hz2 rfl (by omega) _ rs.length _ rfl Dp9.out.1 ⟨g_e, 0, none⟩ 1 1 [.int .i64 ox, .string tx] rfl rfl (World.news_of_block (cs := #[.int .i64 ox, .string tx]) (t := 64) (fr := (0, 0)) De9.out.1) (by simp [Value.oneCell']) (by omega) (by unfold maxLen; omega) (by omega) hsz _ rfl ?_
        intro gg cp v10 hown hgrow hat hlt_
        have hk := app_keepsR C9.out hgb hwb G9.out Dp9.out.1 hgrow
        have C10 := Lib.hid hk.1
        have G10 := Lib.hid hk.2
        have KK10 := Lib.hid (blk_rowD KK9.out hgrow (fun e => hpl e.symm))
        have KR10 := Lib.hid (blk_rowD KR9.out hgrow (fun e => by have := (Dp9.out.1.lt _ e.symm).1; omega))
        have Dp10 := Lib.hid (show DrnP v0.heap.size g (some ⟨gg, 0, none⟩) cp (rs ++ [⟨ox, tx⟩]) v10 from ⟨by rw [List.length_append, hps_append]; exact hown, hgb⟩)
        have hpl2 : (Value.slice (some ⟨gg, 0, none⟩) (rs ++ [(⟨ox, tx⟩ : HP)]).length cp).ownBlock ≠ some g_K := own_ne (fun e => by rcases hat with h | h; exact hpl (h.trans (by rw [e])); have := KK9.out.lt; omega)
        have hl2 : (rs ++ [(⟨ox, tx⟩ : HP)]).length = rs.length + 1 := by simp
        clear hk hown hgrow hat hlt_ hsz Dp9 De9 C9 G9 KK9 KR9
        refine hK.out _ _ (fun _ => KK10.out) (fun _ => ?_)
        clear hK K
        refine wpTill_takeU (i := 11) (v := .pointer (some ⟨g_K, 2, none⟩)) rfl (by kernel_rfl) (by kernel_rfl) (by kernel_rfl) (by kernel_rfl) (fun _ _ _ h => h) (Or.inl ⟨by kernel_rfl, by intro w _; go_simp⟩) (fun _ => KK10.out) ?_
        rw [← hl2]
        generalize hrs : rs ++ [(⟨ox, tx⟩ : HP)] = rs2 at hl2 hpl2 Dp10 ⊢
        have hbd := rbd_app (o := ox) hr3 HB.out.2.2 htx
        rw [hrs] at hbd
        have HB2 := Lib.hid hbd
        clear hbd hrs htx hl2
        obtain ⟨⟨cK0, cK1, cK2, cK3, cK4⟩, dK0, dK1, dK2, dK3, dK4⟩ := KK10.out.of5
        refine wpTill_store (by kernel_rfl) rfl (by kernel_rfl) (fun K hK => ?zt12)
        rw [if_pos (by rfl)]
        go_simp
        have KR11 := Lib.hid (show Blk (v10.setCell ⟨g_K, 2, none⟩ (.slice (some ⟨gg, 0, none⟩) rs2.length cp)) g_R [.int .i64 0, .string ⟨#[]⟩, .slice none 0 0, .int .i64 0, .bool false] from (KR10.out.setOther ⟨g_K, 2, none⟩ (.slice (some ⟨gg, 0, none⟩) rs2.length cp) (n_R_K)))
        have KK11 := Lib.hid (show Blk (v10.setCell ⟨g_K, 2, none⟩ (.slice (some ⟨gg, 0, none⟩) rs2.length cp)) g_K [.int .i64 n, .string d, .slice (some ⟨gg, 0, none⟩) rs2.length cp, .int .i64 f, .bool z] from (KK10.out.set 2 (.slice (some ⟨gg, 0, none⟩) rs2.length cp)))
        have Dp11 := Lib.hid (Dp10.out.set 2 (.slice (some ⟨gg, 0, none⟩) rs2.length cp) (.inr hpl2))
        have G11 := Lib.hid (grown_setNew G10.out ⟨g_K, 2, none⟩ (.slice (some ⟨gg, 0, none⟩) rs2.length cp) l_K)
        have C11 := Lib.hid (C10.out.setOther ⟨g_K, 2, none⟩ (.slice (some ⟨gg, 0, none⟩) rs2.length cp) b_K c_K)
        refine hK.out _ _ ?_
        clear hK K KR10 KK10 Dp10 C10 G10
        clear cK0 cK1 cK2 cK3 cK4 dK0 dK1 dK2 dK3 dK4
        generalize v10.setCell ⟨g_K, 2, none⟩ (.slice (some ⟨gg, 0, none⟩) rs2.length cp) = v11 at KR11 KK11 Dp11 C11 G11 ⊢
        refine wpTill_done (by kernel_rfl) ?_ _
        refine NoPanic.normal ?_
        obtain ⟨⟨cR0, cR1, cR2, cR3, cR4⟩, dR0, dR1, dR2, dR3, dR4⟩ := KR11.out.of5
        obtain ⟨⟨cK0, cK1, cK2, cK3, cK4⟩, dK0, dK1, dK2, dK3, dK4⟩ := KK11.out.of5
        go_wp2_with fail
        exact bodyPost_ret (v := .agg #[.int .i64 n, .string d, .slice (some ⟨gg, 0, none⟩) rs2.length cp, .int .i64 f, .bool z]) (by simp [results, Try.results29, go_sem, cR0, cR1, cR2, cR3, cR4]) rfl ⟨n, d, rs2, f, z, (some ⟨gg, 0, none⟩), cp, rfl, ⟨by omega, HB2.out⟩, own_down (((((Dp11.out.set 0 _ (.inl hRb)).set 1 _ (.inl hRb)).set 2 _ (.inl hRb)).set 3 _ (.inl hRb)).set 4 _ (.inl hRb)).1 hwb, (((((C11.out.setOther _ _ b_R c_R).setOther _ _ b_R c_R).setOther _ _ b_R c_R).setOther _ _ b_R c_R).setOther _ _ b_R c_R), (grown_setNew (grown_setNew (grown_setNew (grown_setNew (grown_setNew G11.out _ _ l_R) _ _ l_R) _ _ l_R) _ _ l_R) _ _ l_R)⟩
      · rw [if_pos (by rfl)]
        go_simp
        have KR6 := Lib.hid (KR5.out.alloc (.cells #[.string ⟨#[]⟩, .string ⟨#[120]⟩, .string ⟨#[121, 122]⟩] 9))
        have KK6 := Lib.hid (KK5.out.alloc (.cells #[.string ⟨#[]⟩, .string ⟨#[120]⟩, .string ⟨#[121, 122]⟩] 9))
        have Dp6 := Lib.hid (Dp5.out.alloc (.cells #[.string ⟨#[]⟩, .string ⟨#[120]⟩, .string ⟨#[121, 122]⟩] 9))
        have Di6 := Lib.hid (Di5.out.alloc (.cells #[.string ⟨#[]⟩, .string ⟨#[120]⟩, .string ⟨#[121, 122]⟩] 9))
        have Dj6 := Lib.hid (HIs.new (.cells #[.string ⟨#[]⟩, .string ⟨#[120]⟩, .string ⟨#[121, 122]⟩] 9) v5 C5.out.lt)
        have G6 := Lib.hid (grown_new G5.out (.cells #[.string ⟨#[]⟩, .string ⟨#[120]⟩, .string ⟨#[121, 122]⟩] 9))
        have C6 := Lib.hid (C5.out.new (.cells #[.string ⟨#[]⟩, .string ⟨#[120]⟩, .string ⟨#[121, 122]⟩] 9))
        refine hK.out _ _ (fun _ => KK6.out) (fun _ => ?_)
        clear hK K
        clear KR5 KK5 Dp5 Di5 C5 G5
        generalize v5.alloc (.cells #[.string ⟨#[]⟩, .string ⟨#[120]⟩, .string ⟨#[121, 122]⟩] 9) = v6 at KR6 KK6 Dp6 Di6 Dj6 C6 G6 ⊢
        generalize v5.heap.size = g_j at Dj6 ⊢
        refine wpTill_one (i := 4) (by kernel_rfl) rfl (fun K hK => ?zt13)
        rw [if_pos (by rfl)]
        go_simp
        refine (l1PickInt_any B g _ _ C6.out #[.int .i64 0, .int .i64 1, .int .i64 20, .int .i64 31, .int .i64 32, .int .i64 (-1), .int .i64 9223372036854775807] Di6.out.1 Di6.out.2 (by decide) (by decide) (fun v hv => (offCs_bd v hv).imp fun _ h => h.1)).mono ?_
        rintro e v7 ⟨pv, hpv, rfl, hcu, hgr⟩
        obtain ⟨ox, rfl, hox⟩ := offCs_bd pv hpv
        clear hpv hox
        have KR7 := Lib.hid (KR6.out.grown hgr c_R)
        have KK7 := Lib.hid (KK6.out.grown hgr c_K)
        have Dp7 := Lib.hid (Dp6.out.grown hgr)
        have Di7 := Lib.hid (Di6.out.grown hgr)
        have Dj7 := Lib.hid (Dj6.out.grown hgr)
        have G7 := Lib.hid (grown_tr G6.out hgr)
        have C7 := Lib.hid hcu
        clear hcu hgr KR6 KK6 Dp6 Di6 Dj6 G6 C6
        refine hK.out _ _ (fun _ => KK7.out) (fun _ => ?_)
        clear hK K
        refine wpTill_one (i := 7) (by kernel_rfl) rfl (fun K hK => ?zt14)
        rw [if_pos (by rfl)]
        go_simp
        refine (l1Pick_any B g _ _ C7.out #[.string ⟨#[]⟩, .string ⟨#[120]⟩, .string ⟨#[121, 122]⟩] Dj7.out.1 Dj7.out.2 (by decide) (by decide) (fun v hv => (strCs_bd v hv).imp fun _ h => h.1)).mono ?_
        rintro e v8 ⟨pv, hpv, rfl, hcu, hgr⟩
        obtain ⟨tx, rfl, htx⟩ := strCs_bd pv hpv
        clear hpv
        have KR8 := Lib.hid (KR7.out.grown hgr c_R)
        have KK8 := Lib.hid (KK7.out.grown hgr c_K)
        have Dp8 := Lib.hid (Dp7.out.grown hgr)
        have Di8 := Lib.hid (Di7.out.grown hgr)
        have Dj8 := Lib.hid (Dj7.out.grown hgr)
        have G8 := Lib.hid (grown_tr G7.out hgr)
        have C8 := Lib.hid hcu
        clear hcu hgr KR7 KK7 Dp7 Di7 Dj7 G7 C7
        refine hK.out _ _ (fun _ => KK8.out) (fun _ => ?_)
        clear hK K
        clear Di8 Dj8
        refine wpTill_takeU (i := 8) (v := .agg #[.int .i64 ox, .string tx]) rfl (by kernel_rfl) (by kernel_rfl) (by kernel_rfl) (by kernel_rfl) (fun _ _ _ h => h) (Or.inl ⟨by kernel_rfl, by intro w _; go_simp⟩) (fun _ => KK8.out) ?_
        refine wpTill_one (i := 9) (by kernel_rfl) rfl (fun K hK => ?zt15)
        rw [if_pos (by rfl)]
        go_simp
        have KR9 := Lib.hid (KR8.out.alloc (.cells #[.int .i64 ox, .string tx] 64))
        have KK9 := Lib.hid (KK8.out.alloc (.cells #[.int .i64 ox, .string tx] 64))
        have Dp9 := Lib.hid (Dp8.out.alloc (.cells #[.int .i64 ox, .string tx] 64))
        have De9 := Lib.hid (HIs.new (.cells #[.int .i64 ox, .string tx] 64) v8 C8.out.lt)
        have G9 := Lib.hid (grown_new G8.out (.cells #[.int .i64 ox, .string tx] 64))
        have C9 := Lib.hid (C8.out.new (.cells #[.int .i64 ox, .string tx] 64))
        refine hK.out _ _ (fun _ => KK9.out) (fun _ => ?_)
        clear hK K
        clear KR8 KK8 Dp8 C8 G8
        generalize v8.alloc (.cells #[.int .i64 ox, .string tx] 64) = v9 at KR9 KK9 Dp9 De9 C9 G9 ⊢
        generalize v8.heap.size = g_e at De9 ⊢
        refine wpTill_one (i := 10) (by kernel_rfl) rfl (fun K hK => ?zt16)
        have hsz := Nat.le_trans hv0 (Nat.le_of_lt KK9.out.lt)
        refine step_append_lies _ rfl _ _ _ rfl v0.heap.size 64 i0 _ 2 24 Try.underlying24 hi hz0 hz1 hz2 rfl (by omega) _ rs.length _ rfl Dp9.out.1 ⟨g_e, 0, none⟩ 1 1 [.int .i64 ox, .string tx] rfl rfl (World.news_of_block (cs := #[.int .i64 ox, .string tx]) (t := 64) (fr := (0, 0)) De9.out.1) (by simp [Value.oneCell']) (by omega) (by unfold maxLen; omega) (by omega) hsz _ rfl ?_
        intro gg cp v10 hown hgrow hat hlt_
        have hk := app_keepsR C9.out hgb hwb G9.out Dp9.out.1 hgrow
        have C10 := Lib.hid hk.1
        have G10 := Lib.hid hk.2
        have KK10 := Lib.hid (blk_rowD KK9.out hgrow (fun e => hpl e.symm))
        have KR10 := Lib.hid (blk_rowD KR9.out hgrow (fun e => by have := (Dp9.out.1.lt _ e.symm).1; omega))
        have Dp10 := Lib.hid (show DrnP v0.heap.size g (some ⟨gg, 0, none⟩) cp (rs ++ [⟨ox, tx⟩]) v10 from ⟨by rw [List.length_append, hps_append]; exact hown, hgb⟩)
        have hpl2 : (Value.slice (some ⟨gg, 0, none⟩) (rs ++ [(⟨ox, tx⟩ : HP)]).length cp).ownBlock ≠ some g_K := own_ne (fun e => by rcases hat with h | h; exact hpl (h.trans (by rw [e])); have := KK9.out.lt; omega)
        have hl2 : (rs ++ [(⟨ox, tx⟩ : HP)]).length = rs.length + 1 := by simp
        clear hk hown hgrow hat hlt_ hsz Dp9 De9 C9 G9 KK9 KR9
        refine hK.out _ _ (fun _ => KK10.out) (fun _ => ?_)
        clear hK K
        refine wpTill_takeU (i := 11) (v := .pointer (some ⟨g_K, 2, none⟩)) rfl (by kernel_rfl) (by kernel_rfl) (by kernel_rfl) (by kernel_rfl) (fun _ _ _ h => h) (Or.inl ⟨by kernel_rfl, by intro w _; go_simp⟩) (fun _ => KK10.out) ?_
        rw [← hl2]
        generalize hrs : rs ++ [(⟨ox, tx⟩ : HP)] = rs2 at hl2 hpl2 Dp10 ⊢
        have hbd := rbd_app (o := ox) hr3 HB.out.2.2 htx
        rw [hrs] at hbd
        have HB2 := Lib.hid hbd
        clear hbd hrs htx hl2
        obtain ⟨⟨cK0, cK1, cK2, cK3, cK4⟩, dK0, dK1, dK2, dK3, dK4⟩ := KK10.out.of5
        refine wpTill_store (by kernel_rfl) rfl (by kernel_rfl) (fun K hK => ?zt17)
        rw [if_pos (by rfl)]
        go_simp
        have KR11 := Lib.hid (show Blk (v10.setCell ⟨g_K, 2, none⟩ (.slice (some ⟨gg, 0, none⟩) rs2.length cp)) g_R [.int .i64 0, .string ⟨#[]⟩, .slice none 0 0, .int .i64 0, .bool false] from (KR10.out.setOther ⟨g_K, 2, none⟩ (.slice (some ⟨gg, 0, none⟩) rs2.length cp) (n_R_K)))
        have KK11 := Lib.hid (show Blk (v10.setCell ⟨g_K, 2, none⟩ (.slice (some ⟨gg, 0, none⟩) rs2.length cp)) g_K [.int .i64 n, .string d, .slice (some ⟨gg, 0, none⟩) rs2.length cp, .int .i64 f, .bool z] from (KK10.out.set 2 (.slice (some ⟨gg, 0, none⟩) rs2.length cp)))
        have Dp11 := Lib.hid (Dp10.out.set 2 (.slice (some ⟨gg, 0, none⟩) rs2.length cp) (.inr hpl2))
        have G11 := Lib.hid (grown_setNew G10.out ⟨g_K, 2, none⟩ (.slice (some ⟨gg, 0, none⟩) rs2.length cp) l_K)
        have C11 := Lib.hid (C10.out.setOther ⟨g_K, 2, none⟩ (.slice (some ⟨gg, 0, none⟩) rs2.length cp) b_K c_K)
        refine hK.out _ _ ?_
        clear hK K KR10 KK10 Dp10 C10 G10
        clear cK0 cK1 cK2 cK3 cK4 dK0 dK1 dK2 dK3 dK4
        generalize v10.setCell ⟨g_K, 2, none⟩ (.slice (some ⟨gg, 0, none⟩) rs2.length cp) = v11 at KR11 KK11 Dp11 C11 G11 ⊢
        refine wpTill_done (by kernel_rfl) ?_ _
        refine NoPanic.normal ?_
        obtain ⟨⟨cR0, cR1, cR2, cR3, cR4⟩, dR0, dR1, dR2, dR3, dR4⟩ := KR11.out.of5
        obtain ⟨⟨cK0, cK1, cK2, cK3, cK4⟩, dK0, dK1, dK2, dK3, dK4⟩ := KK11.out.of5
        go_wp2_with fail
        exact bodyPost_ret (v := .agg #[.int .i64 n, .string d, .slice (some ⟨gg, 0, none⟩) rs2.length cp, .int .i64 f, .bool z]) (by simp [results, Try.results29, go_sem, cR0, cR1, cR2, cR3, cR4]) rfl ⟨n, d, rs2, f, z, (some ⟨gg, 0, none⟩), cp, rfl, ⟨by omega, HB2.out⟩, own_down (((((Dp11.out.set 0 _ (.inl hRb)).set 1 _ (.inl hRb)).set 2 _ (.inl hRb)).set 3 _ (.inl hRb)).set 4 _ (.inl hRb)).1 hwb, (((((C11.out.setOther _ _ b_R c_R).setOther _ _ b_R c_R).setOther _ _ b_R c_R).setOther _ _ b_R c_R).setOther _ _ b_R c_R), (grown_setNew (grown_setNew (grown_setNew (grown_setNew (grown_setNew G11.out _ _ l_R) _ _ l_R) _ _ l_R) _ _ l_R) _ _ l_R)⟩
    · rw [if_pos (by rfl)]
      go_simp
      have KR5 := Lib.hid (KR4.out.alloc (.cells #[.string ⟨#[]⟩, .string ⟨#[120]⟩, .string ⟨#[121, 122]⟩] 9))
      have KK5 := Lib.hid (KK4.out.alloc (.cells #[.string ⟨#[]⟩, .string ⟨#[120]⟩, .string ⟨#[121, 122]⟩] 9))
      have Dp5 := Lib.hid (Dp4.out.alloc (.cells #[.string ⟨#[]⟩, .string ⟨#[120]⟩, .string ⟨#[121, 122]⟩] 9))
      have Dj5 := Lib.hid (HIs.new (.cells #[.string ⟨#[]⟩, .string ⟨#[120]⟩, .string ⟨#[121, 122]⟩] 9) v4 C4.out.lt)
      have G5 := Lib.hid (grown_new G4.out (.cells #[.string ⟨#[]⟩, .string ⟨#[120]⟩, .string ⟨#[121, 122]⟩] 9))
      have C5 := Lib.hid (C4.out.new (.cells #[.string ⟨#[]⟩, .string ⟨#[120]⟩, .string ⟨#[121, 122]⟩] 9))
      refine hK.out _ _ (fun _ => KK5.out) (fun _ => ?_)
      clear hK K
      clear KR4 KK4 Dp4 C4 G4
      generalize v4.alloc (.cells #[.string ⟨#[]⟩, .string ⟨#[120]⟩, .string ⟨#[121, 122]⟩] 9) = v5 at KR5 KK5 Dp5 Dj5 C5 G5 ⊢
      generalize v4.heap.size = g_j at Dj5 ⊢
      refine wpTill_one (i := 3) (by kernel_rfl) rfl (fun K hK => ?zt18)
      rw [if_pos (by rfl)]
      go_simp
      have KR6 := Lib.hid (KR5.out.alloc (.cells #[.int .i64 0, .int .i64 1, .int .i64 20, .int .i64 31, .int .i64 32, .int .i64 (-1), .int .i64 9223372036854775807] 3))
      have KK6 := Lib.hid (KK5.out.alloc (.cells #[.int .i64 0, .int .i64 1, .int .i64 20, .int .i64 31, .int .i64 32, .int .i64 (-1), .int .i64 9223372036854775807] 3))
      have Dp6 := Lib.hid (Dp5.out.alloc (.cells #[.int .i64 0, .int .i64 1, .int .i64 20, .int .i64 31, .int .i64 32, .int .i64 (-1), .int .i64 9223372036854775807] 3))
      have Dj6 := Lib.hid (Dj5.out.alloc (.cells #[.int .i64 0, .int .i64 1, .int .i64 20, .int .i64 31, .int .i64 32, .int .i64 (-1), .int .i64 9223372036854775807] 3))
      have Di6 := Lib.hid (HIs.new (.cells #[.int .i64 0, .int .i64 1, .int .i64 20, .int .i64 31, .int .i64 32, .int .i64 (-1), .int .i64 9223372036854775807] 3) v5 C5.out.lt)
      have G6 := Lib.hid (grown_new G5.out (.cells #[.int .i64 0, .int .i64 1, .int .i64 20, .int .i64 31, .int .i64 32, .int .i64 (-1), .int .i64 9223372036854775807] 3))
      have C6 := Lib.hid (C5.out.new (.cells #[.int .i64 0, .int .i64 1, .int .i64 20, .int .i64 31, .int .i64 32, .int .i64 (-1), .int .i64 9223372036854775807] 3))
      refine hK.out _ _ (fun _ => KK6.out) (fun _ => ?_)
      clear hK K
      clear KR5 KK5 Dp5 Dj5 C5 G5
      generalize v5.alloc (.cells #[.int .i64 0, .int .i64 1, .int .i64 20, .int .i64 31, .int .i64 32, .int .i64 (-1), .int .i64 9223372036854775807] 3) = v6 at KR6 KK6 Dp6 Dj6 Di6 C6 G6 ⊢
      generalize v5.heap.size = g_i at Di6 ⊢
      refine wpTill_one (i := 4) (by kernel_rfl) rfl (fun K hK => ?zt19)
      rw [if_pos (by rfl)]
      go_simp
      refine (l1PickInt_any B g _ _ C6.out #[.int .i64 0, .int .i64 1, .int .i64 20, .int .i64 31, .int .i64 32, .int .i64 (-1), .int .i64 9223372036854775807] Di6.out.1 Di6.out.2 (by decide) (by decide) (fun v hv => (offCs_bd v hv).imp fun _ h => h.1)).mono ?_
      rintro e v7 ⟨pv, hpv, rfl, hcu, hgr⟩
      obtain ⟨ox, rfl, hox⟩ := offCs_bd pv hpv
      clear hpv hox
      have KR7 := Lib.hid (KR6.out.grown hgr c_R)
      have KK7 := Lib.hid (KK6.out.grown hgr c_K)
      have Dp7 := Lib.hid (Dp6.out.grown hgr)
      have Dj7 := Lib.hid (Dj6.out.grown hgr)
      have Di7 := Lib.hid (Di6.out.grown hgr)
      have G7 := Lib.hid (grown_tr G6.out hgr)
      have C7 := Lib.hid hcu
      clear hcu hgr KR6 KK6 Dp6 Dj6 Di6 G6 C6
      refine hK.out _ _ (fun _ => KK7.out) (fun _ => ?_)
      clear hK K
      refine wpTill_one (i := 7) (by kernel_rfl) rfl (fun K hK => ?zt20)
      rw [if_pos (by rfl)]
      go_simp
      refine (l1Pick_any B g _ _ C7.out #[.string ⟨#[]⟩, .string ⟨#[120]⟩, .string ⟨#[121, 122]⟩] Dj7.out.1 Dj7.out.2 (by decide) (by decide) (fun v hv => (strCs_bd v hv).imp fun _ h => h.1)).mono ?_
      rintro e v8 ⟨pv, hpv, rfl, hcu, hgr⟩
      obtain ⟨tx, rfl, htx⟩ := strCs_bd pv hpv
      clear hpv
      have KR8 := Lib.hid (KR7.out.grown hgr c_R)
      have KK8 := Lib.hid (KK7.out.grown hgr c_K)
      have Dp8 := Lib.hid (Dp7.out.grown hgr)
      have Dj8 := Lib.hid (Dj7.out.grown hgr)
      have Di8 := Lib.hid (Di7.out.grown hgr)
      have G8 := Lib.hid (grown_tr G7.out hgr)
      have C8 := Lib.hid hcu
      clear hcu hgr KR7 KK7 Dp7 Dj7 Di7 G7 C7
      refine hK.out _ _ (fun _ => KK8.out) (fun _ => ?_)
      clear hK K
      clear Di8 Dj8
      refine wpTill_takeU (i := 8) (v := .agg #[.int .i64 ox, .string tx]) rfl (by kernel_rfl) (by kernel_rfl) (by kernel_rfl) (by kernel_rfl) (fun _ _ _ h => h) (Or.inl ⟨by kernel_rfl, by intro w _; go_simp⟩) (fun _ => KK8.out) ?_
      refine wpTill_one (i := 9) (by kernel_rfl) rfl (fun K hK => ?zt21)
      rw [if_pos (by rfl)]
      go_simp
      have KR9 := Lib.hid (KR8.out.alloc (.cells #[.int .i64 ox, .string tx] 64))
      have KK9 := Lib.hid (KK8.out.alloc (.cells #[.int .i64 ox, .string tx] 64))
      have Dp9 := Lib.hid (Dp8.out.alloc (.cells #[.int .i64 ox, .string tx] 64))
      have De9 := Lib.hid (HIs.new (.cells #[.int .i64 ox, .string tx] 64) v8 C8.out.lt)
      have G9 := Lib.hid (grown_new G8.out (.cells #[.int .i64 ox, .string tx] 64))
      have C9 := Lib.hid (C8.out.new (.cells #[.int .i64 ox, .string tx] 64))
      refine hK.out _ _ (fun _ => KK9.out) (fun _ => ?_)
      clear hK K
      clear KR8 KK8 Dp8 C8 G8
      generalize v8.alloc (.cells #[.int .i64 ox, .string tx] 64) = v9 at KR9 KK9 Dp9 De9 C9 G9 ⊢
      generalize v8.heap.size = g_e at De9 ⊢
      refine wpTill_one (i := 10) (by kernel_rfl) rfl (fun K hK => ?zt22)
      have hsz := Nat.le_trans hv0 (Nat.le_of_lt KK9.out.lt)
      refine step_append_lies _ rfl _ _ _ rfl v0.heap.size 64 i0 _ 2 24 Try.underlying24 hi hz0 hz1 hz2 rfl (by omega) _ rs.length _ rfl Dp9.out.1 ⟨g_e, 0, none⟩ 1 1 [.int .i64 ox, .string tx] rfl rfl (World.news_of_block (cs := #[.int .i64 ox, .string tx]) (t := 64) (fr := (0, 0)) De9.out.1) (by simp [Value.oneCell']) (by omega) (by unfold maxLen; omega) (by omega) hsz _ rfl ?_
      intro gg cp v10 hown hgrow hat hlt_
      have hk := app_keepsR C9.out hgb hwb G9.out Dp9.out.1 hgrow
      have C10 := Lib.hid hk.1
      have G10 := Lib.hid hk.2
      have KK10 := Lib.hid (blk_rowD KK9.out hgrow (fun e => hpl e.symm))
      have KR10 := Lib.hid (blk_rowD KR9.out hgrow (fun e => by have := (Dp9.out.1.lt _ e.symm).1; omega))
      have Dp10 := Lib.hid (show DrnP v0.heap.size g (some ⟨gg, 0, none⟩) cp (rs ++ [⟨ox, tx⟩]) v10 from ⟨by rw [List.length_append, hps_append]; exact hown, hgb⟩)
      have hpl2 : (Value.slice (some ⟨gg, 0, none⟩) (rs ++ [(⟨ox, tx⟩ : HP)]).length cp).ownBlock ≠ some g_K := own_ne (fun e => by rcases hat with h | h; exact hpl (h.trans (by rw [e])); have := KK9.out.lt; omega)
      have hl2 : (rs ++ [(⟨ox, tx⟩ : HP)]).length = rs.length + 1 := by simp
      clear hk hown hgrow hat hlt_ hsz Dp9 De9 C9 G9 KK9 KR9
      refine hK.out _ _ (fun _ => KK10.out) (fun _ => ?_)
      clear hK K
      refine wpTill_takeU (i := 11) (v := .pointer (some ⟨g_K, 2, none⟩)) rfl (by kernel_rfl) (by kernel_rfl) (by kernel_rfl) (by kernel_rfl) (fun _ _ _ h => h) (Or.inl ⟨by kernel_rfl, by intro w _; go_simp⟩) (fun _ => KK10.out) ?_
      rw [← hl2]
      generalize hrs : rs ++ [(⟨ox, tx⟩ : HP)] = rs2 at hl2 hpl2 Dp10 ⊢
      have hbd := rbd_app (o := ox) hr3 HB.out.2.2 htx
      rw [hrs] at hbd
      have HB2 := Lib.hid hbd
      clear hbd hrs htx hl2
      obtain ⟨⟨cK0, cK1, cK2, cK3, cK4⟩, dK0, dK1, dK2, dK3, dK4⟩ := KK10.out.of5
      refine wpTill_store (by kernel_rfl) rfl (by kernel_rfl) (fun K hK => ?zt23)
      rw [if_pos (by rfl)]
      go_simp
      have KR11 := Lib.hid (show Blk (v10.setCell ⟨g_K, 2, none⟩ (.slice (some ⟨gg, 0, none⟩) rs2.length cp)) g_R [.int .i64 0, .string ⟨#[]⟩, .slice none 0 0, .int .i64 0, .bool false] from (KR10.out.setOther ⟨g_K, 2, none⟩ (.slice (some ⟨gg, 0, none⟩) rs2.length cp) (n_R_K)))
      have KK11 := Lib.hid (show Blk (v10.setCell ⟨g_K, 2, none⟩ (.slice (some ⟨gg, 0, none⟩) rs2.length cp)) g_K [.int .i64 n, .string d, .slice (some ⟨gg, 0, none⟩) rs2.length cp, .int .i64 f, .bool z] from (KK10.out.set 2 (.slice (some ⟨gg, 0, none⟩) rs2.length cp)))
      have Dp11 := Lib.hid (Dp10.out.set 2 (.slice (some ⟨gg, 0, none⟩) rs2.length cp) (.inr hpl2))
      have G11 := Lib.hid (grown_setNew G10.out ⟨g_K, 2, none⟩ (.slice (some ⟨gg, 0, none⟩) rs2.length cp) l_K)
      have C11 := Lib.hid (C10.out.setOther ⟨g_K, 2, none⟩ (.slice (some ⟨gg, 0, none⟩) rs2.length cp) b_K c_K)
      refine hK.out _ _ ?_
      clear hK K KR10 KK10 Dp10 C10 G10
      clear cK0 cK1 cK2 cK3 cK4 dK0 dK1 dK2 dK3 dK4
      generalize v10.setCell ⟨g_K, 2, none⟩ (.slice (some ⟨gg, 0, none⟩) rs2.length cp) = v11 at KR11 KK11 Dp11 C11 G11 ⊢
      refine wpTill_done (by kernel_rfl) ?_ _
      refine NoPanic.normal ?_
      obtain ⟨⟨cR0, cR1, cR2, cR3, cR4⟩, dR0, dR1, dR2, dR3, dR4⟩ := KR11.out.of5
      obtain ⟨⟨cK0, cK1, cK2, cK3, cK4⟩, dK0, dK1, dK2, dK3, dK4⟩ := KK11.out.of5
      go_wp2_with fail
      exact bodyPost_ret (v := .agg #[.int .i64 n, .string d, .slice (some ⟨gg, 0, none⟩) rs2.length cp, .int .i64 f, .bool z]) (by simp [results, Try.results29, go_sem, cR0, cR1, cR2, cR3, cR4]) rfl ⟨n, d, rs2, f, z, (some ⟨gg, 0, none⟩), cp, rfl, ⟨by omega, HB2.out⟩, own_down (((((Dp11.out.set 0 _ (.inl hRb)).set 1 _ (.inl hRb)).set 2 _ (.inl hRb)).set 3 _ (.inl hRb)).set 4 _ (.inl hRb)).1 hwb, (((((C11.out.setOther _ _ b_R c_R).setOther _ _ b_R c_R).setOther _ _ b_R c_R).setOther _ _ b_R c_R).setOther _ _ b_R c_R), (grown_setNew (grown_setNew (grown_setNew (grown_setNew (grown_setNew G11.out _ _ l_R) _ _ l_R) _ _ l_R) _ _ l_R) _ _ l_R)⟩
  have h3' : (s == 3) = false := by simp [h3]
  by_cases h4 : s = 4
  case pos =>
    subst h4
    obtain ⟨⟨cR0, cR1, cR2, cR3, cR4⟩, dR0, dR1, dR2, dR3, dR4⟩ := KR3.out.of5
    obtain ⟨⟨cK0, cK1, cK2, cK3, cK4⟩, dK0, dK1, dK2, dK3, dK4⟩ := KK3.out.of5
    go_wp2_with fail
    clear cR0 cR1 cR2 cR3 cR4 dR0 dR1 dR2 dR3 dR4 cK0 cK1 cK2 cK3 cK4 dK0 dK1 dK2 dK3 dK4
    refine (l1Below_pos B g v3 C3.out 3 (by omega) (by omega)).mono ?_
    rintro e v4 ⟨q, rfl, hq, hcu, hgr⟩
    obtain ⟨m, rfl⟩ : ∃ n : Nat, q = (n : Int) := ⟨q.toNat, by omega⟩
    have hqw : IntKind.i64.wrap (31 + (m : Int)) = ((31 + m : Nat) : Int) := by rw [IntWalk.i64_in _ (by omega)]; omega
    have KR4 := Lib.hid (KR3.out.grown hgr c_R)
    have KK4 := Lib.hid (KK3.out.grown hgr c_K)
    have Dp4 := Lib.hid (Dp3.out.grown hgr)
    have G4 := Lib.hid (grown_tr G3.out hgr)
    have C4 := Lib.hid hcu
    clear hcu hgr KR3 KK3 Dp3 G3 C3
    obtain ⟨⟨cR0, cR1, cR2, cR3, cR4⟩, dR0, dR1, dR2, dR3, dR4⟩ := KR4.out.of5
    obtain ⟨⟨cK0, cK1, cK2, cK3, cK4⟩, dK0, dK1, dK2, dK3, dK4⟩ := KK4.out.of5
    go_wp2_with fail
    clear cR0 cR1 cR2 cR3 cR4 dR0 dR1 dR2 dR3 dR4 cK0 cK1 cK2 cK3 cK4 dK0 dK1 dK2 dK3 dK4
    refine (l5Long_any (31 + m) (by omega) _).mono ?_
    rintro e v5 ⟨x, rfl, hz, hb⟩
    have KR5 := Lib.hid (KR4.out.below hb)
    have KK5 := Lib.hid (KK4.out.below hb)
    have Dp5 := Lib.hid (Dp4.out.below hb)
    have G5 := Lib.hid (grown_tr G4.out (below_any hb))
    have C5 := Lib.hid (C4.out.below hb)
    clear hb KR4 KK4 Dp4 G4 C4
    clear hqw
    obtain ⟨⟨cR0, cR1, cR2, cR3, cR4⟩, dR0, dR1, dR2, dR3, dR4⟩ := KR5.out.of5
    obtain ⟨⟨cK0, cK1, cK2, cK3, cK4⟩, dK0, dK1, dK2, dK3, dK4⟩ := KK5.out.of5
    go_wp2_with fail
    exact bodyPost_ret (v := .agg #[.int .i64 n, .string x, .slice a rs.length cap, .int .i64 f, .bool z]) (by simp [results, Try.results29, go_sem, cR0, cR1, cR2, cR3, cR4]) rfl ⟨n, x, rs, f, z, a, cap, rfl, ⟨by omega, by omega, HB.out.2.2⟩, own_down ((((((Dp5.out.set 1 _ (.inr hpl)).set 0 _ (.inl hRb)).set 1 _ (.inl hRb)).set 2 _ (.inl hRb)).set 3 _ (.inl hRb)).set 4 _ (.inl hRb)).1 hwb, ((((((C5.out.setOther _ _ b_K c_K).setOther _ _ b_R c_R).setOther _ _ b_R c_R).setOther _ _ b_R c_R).setOther _ _ b_R c_R).setOther _ _ b_R c_R), (grown_setNew (grown_setNew (grown_setNew (grown_setNew (grown_setNew (grown_setNew G5.out _ _ l_K) _ _ l_R) _ _ l_R) _ _ l_R) _ _ l_R) _ _ l_R)⟩
  have h4' : (s == 4) = false := by simp [h4]
  clear h0 h1 h2 h3 h4
  obtain ⟨⟨cR0, cR1, cR2, cR3, cR4⟩, dR0, dR1, dR2, dR3, dR4⟩ := KR3.out.of5
  obtain ⟨⟨cK0, cK1, cK2, cK3, cK4⟩, dK0, dK1, dK2, dK3, dK4⟩ := KK3.out.of5
  go_wp2_with fail
  exact bodyPost_ret (v := .agg #[.int .i64 n, .string d, .slice a rs.length cap, .int .i64 f, .bool z]) (by simp [results, Try.results29, go_sem, cR0, cR1, cR2, cR3, cR4]) rfl ⟨n, d, rs, f, z, a, cap, rfl, ⟨by omega, by omega, HB.out.2.2⟩, own_down (((((Dp3.out.set 0 _ (.inl hRb)).set 1 _ (.inl hRb)).set 2 _ (.inl hRb)).set 3 _ (.inl hRb)).set 4 _ (.inl hRb)).1 hwb, (((((C3.out.setOther _ _ b_R c_R).setOther _ _ b_R c_R).setOther _ _ b_R c_R).setOther _ _ b_R c_R).setOther _ _ b_R c_R), (grown_setNew (grown_setNew (grown_setNew (grown_setNew (grown_setNew G3.out _ _ l_R) _ _ l_R) _ _ l_R) _ _ l_R) _ _ l_R)⟩
end Go.Proofs.Ytpbnkkgfjmkcdaa
namespace Go.Proofs.Ytpbnkkgfjmkcdaa
open Go.RowKit Go.Lib

/-- A drawn receiver with a text that comes. -/
def DrnArr (zw : World) (e : Ending) (w' : World) : Prop :=
  ∃ (n : Int) (d : ByteArray) (rs : List HP) (f : Int) (z : Bool) (a : Option Addr) (cap : Nat) (s : Int) (x : ByteArray) (b : Bool), e = .returned (.tuple #[.agg #[.int .i64 n, .string d, .slice a rs.length cap, .int .i64 f, .bool z], .int .i64 s, .string x, .bool b]) ∧ (RBd d rs ∧ x.size ≤ 8) ∧ w'.ownsRow zw.heap.size 64 2 (.slice a rs.length cap) rs.length (hps rs) ∧ Below zw.heap.size zw w'
/-- A drawn receiver with a number of bytes to take. -/
def DrnTak (zw : World) (e : Ending) (w' : World) : Prop :=
  ∃ (n : Int) (d : ByteArray) (rs : List HP) (f : Int) (z : Bool) (a : Option Addr) (cap : Nat) (x : Int), e = .returned (.tuple #[.agg #[.int .i64 n, .string d, .slice a rs.length cap, .int .i64 f, .bool z], .int .i64 x]) ∧ RBd d rs ∧ w'.ownsRow zw.heap.size 64 2 (.slice a rs.length cap) rs.length (hps rs) ∧ Below zw.heap.size zw w'
def takCs : Array Value := #[.int .i64 0, .int .i64 1, .int .i64 5, .int .i64 40, .int .i64 (-1), .int .i64 9223372036854775807]
theorem takCs_bd : ∀ v ∈ takCs.toList, ∃ x, v = .int .i64 x ∧ I64 x := by
  intro v hv
  simp only [takCs, List.mem_cons, List.mem_nil_iff, or_false] at hv
  unfold I64
  rcases hv with rfl | rfl | rfl | rfl | rfl | rfl <;> exact ⟨_, rfl, by decide⟩
theorem pickTak (B g : Nat) (w : World) (hc : CurB w B g) : Calls Try.prog 50 #[.pointer (some ⟨g, 0, none⟩), .slice (some ⟨w.heap.size, 0, none⟩) 6 6] (w.alloc (.cells takCs 3)) (WholeEnd w B g) :=
  pickNew B g w hc takCs (by decide) (by decide) takCs_bd

set_option maxRecDepth 100000 in
set_option maxHeartbeats 8000000 in
theorem drawArrived (a0 : Option Addr) (s0 : List UInt8) (cap0 : Nat) (zw : World) (hrow : Row zw zw.heap.size a0 (byteCells s0)) (hs0 : s0.length ≤ 1048576) :
    Calls Try.prog 9 #[.slice a0 s0.length cap0] zw (DrnArr zw) := by
  have HR := Lib.hid hrow
  clear hrow
  go_enter Try.func9, Try.ntmps9
  have B0 := Lib.hid (show Below zw.heap.size zw (zw.alloc (.cells #[.int .i64 0, .string ⟨#[]⟩, .slice none 0 0, .int .i64 0, .bool false] 26)) from (Below.refl _ zw).alloc (Nat.le_refl _) _)
  have K0 := Lib.hid (Blk.new zw [.int .i64 0, .string ⟨#[]⟩, .slice none 0 0, .int .i64 0, .bool false] 26)
  go_wp2_with fail
  generalize zw.alloc (.cells #[.int .i64 0, .string ⟨#[]⟩, .slice none 0 0, .int .i64 0, .bool false] 26) = v0 at B0 K0 ⊢
  generalize hh : zw.heap.size = g_R at K0 ⊢
  have l_R : zw.heap.size ≤ g_R := Nat.le_of_eq hh
  clear hh
  have hr0 := K0.out.lt
  refine (l1New_any a0 s0 cap0 v0 ((HR.out.below B0.out).mono B0.out.size) hs0).mono ?_
  rintro e w ⟨g, rfl, hc1, hb1⟩
  have C1 := Lib.hid hc1
  have L1 := Lib.hid hc1
  have G1 := Lib.hid (World.grownBy.refl w (some g))
  have B1 := Lib.hid hb1
  have KR1 := Lib.hid (K0.out.below hb1)
  have c_R : g_R ≠ g := by have := hc1.1; omega
  have hz : zw.heap.size ≤ v0.heap.size := B0.out.size
  have hRw : g_R < w.heap.size := KR1.out.lt
  have hgb : g < w.heap.size := C1.out.lt
  have hzw : zw.heap.size ≤ w.heap.size := Nat.le_trans hz B1.out.size
  have hB : v0.heap.size ≤ g := hc1.1
  clear hc1 hb1 K0 HR hr0
  obtain ⟨⟨cR0, cR1, cR2, cR3, cR4⟩, dR0, dR1, dR2, dR3, dR4⟩ := KR1.out.of5
  go_wp2_with fail
  clear cR0 cR1 cR2 cR3 cR4 dR0 dR1 dR2 dR3 dR4
  refine (l18Bent_any _ g _ C1.out).mono ?_
  rintro e v2 ⟨n, d, rs, f, z, a, cap, rfl, hbd, ho, hcu, hgr⟩
  have Dp0 := Lib.hid (show DrnP w.heap.size g a cap rs v2 from ⟨own_down ho (Nat.le_refl _), hgb⟩)
  clear ho
  have KR2 := Lib.hid (KR1.out.grown hgr c_R)
  have G2 := Lib.hid (grown_tr G1.out hgr)
  have C2 := Lib.hid hcu
  clear hcu hgr KR1 G1 C1
  have hpl := Dp0.out.apart
  have KR3 := Lib.hid (KR2.out.alloc (.cells #[.int .i64 n, .string d, .slice a rs.length cap, .int .i64 f, .bool z] 26))
  have n_R_K : g_R ≠ v2.heap.size := by have h1 := KR2.out.lt; omega
  have Dp3 := Lib.hid (Dp0.out.alloc (.cells #[.int .i64 n, .string d, .slice a rs.length cap, .int .i64 f, .bool z] 26))
  have KK3 := Lib.hid (Blk.new v2 [.int .i64 n, .string d, .slice a rs.length cap, .int .i64 f, .bool z] 26)
  have G3 := Lib.hid (grown_new G2.out (.cells #[.int .i64 n, .string d, .slice a rs.length cap, .int .i64 f, .bool z] 26))
  have C3 := Lib.hid (C2.out.new (.cells #[.int .i64 n, .string d, .slice a rs.length cap, .int .i64 f, .bool z] 26))
  have l_K : w.heap.size ≤ v2.heap.size := G2.out.size
  have c_K : v2.heap.size ≠ g := Nat.ne_of_gt C2.out.lt
  have b_K : v0.heap.size ≤ v2.heap.size := by have h1 := C2.out.lt; omega
  clear KR2 Dp0 G2 C2
  obtain ⟨⟨cR0, cR1, cR2, cR3, cR4⟩, dR0, dR1, dR2, dR3, dR4⟩ := KR3.out.of5
  obtain ⟨⟨cK0, cK1, cK2, cK3, cK4⟩, dK0, dK1, dK2, dK3, dK4⟩ := KK3.out.of5
  go_wp2_with fail
  clear cR0 cR1 cR2 cR3 cR4 dR0 dR1 dR2 dR3 dR4 cK0 cK1 cK2 cK3 cK4 dK0 dK1 dK2 dK3 dK4
  generalize v2.alloc (.cells #[.int .i64 n, .string d, .slice a rs.length cap, .int .i64 f, .bool z] 26) = v3 at KR3 KK3 Dp3 C3 G3 ⊢
  generalize hh : v2.heap.size = g_K at KK3 l_K c_K b_K n_R_K  hpl ⊢
  clear hh
  refine (l18Stream_any _ g _ C3.out n f z d a rs.length cap).mono ?_
  rintro e v4 ⟨s, x, b, rfl, hx, hcu, hgr⟩
  have KR4 := Lib.hid (KR3.out.grown hgr c_R)
  have KK4 := Lib.hid (KK3.out.grown hgr c_K)
  have Dp4 := Lib.hid (Dp3.out.grown hgr)
  have G4 := Lib.hid (grown_tr G3.out hgr)
  have C4 := Lib.hid hcu
  clear hcu hgr KR3 KK3 Dp3 G3 C3
  obtain ⟨⟨cR0, cR1, cR2, cR3, cR4⟩, dR0, dR1, dR2, dR3, dR4⟩ := KR4.out.of5
  obtain ⟨⟨cK0, cK1, cK2, cK3, cK4⟩, dK0, dK1, dK2, dK3, dK4⟩ := KK4.out.of5
  go_wp2_with fail
  clear cR0 cR1 cR2 cR3 cR4 dR0 dR1 dR2 dR3 dR4 cK0 cK1 cK2 cK3 cK4 dK0 dK1 dK2 dK3 dK4
  refine (l1Once_any _ g _ C4.out 8 (by omega) (by omega)).mono ?_
  rintro e v5 ⟨b8, rfl, hcu, hgr⟩
  have KR5 := Lib.hid (KR4.out.grown hgr c_R)
  have KK5 := Lib.hid (KK4.out.grown hgr c_K)
  have Dp5 := Lib.hid (Dp4.out.grown hgr)
  have G5 := Lib.hid (grown_tr G4.out hgr)
  have C5 := Lib.hid hcu
  clear hcu hgr KR4 KK4 Dp4 G4 C4
  cases b8 with
  | false =>
    obtain ⟨⟨cR0, cR1, cR2, cR3, cR4⟩, dR0, dR1, dR2, dR3, dR4⟩ := KR5.out.of5
    obtain ⟨⟨cK0, cK1, cK2, cK3, cK4⟩, dK0, dK1, dK2, dK3, dK4⟩ := KK5.out.of5
    go_wp2_with fail
    exact bodyPost_ret (v := .tuple #[.agg #[.int .i64 n, .string d, .slice a rs.length cap, .int .i64 f, .bool z], .int .i64 s, .string x, .bool b]) (by simp [results, Try.results9, go_sem, cR0, cR1, cR2, cR3, cR4]) rfl ⟨n, d, rs, f, z, a, cap, s, x, b, rfl, ⟨hbd, hx⟩, own_down (((((Dp5.out.set 0 _ (.inl hRw)).set 1 _ (.inl hRw)).set 2 _ (.inl hRw)).set 3 _ (.inl hRw)).set 4 _ (.inl hRw)).1 hzw, ((((((B0.out.trans ((below_new B1.out L1.out G5.out).mono hz)).setCell l_R _).setCell l_R _).setCell l_R _).setCell l_R _).setCell l_R _)⟩
  | true =>
    obtain ⟨⟨cR0, cR1, cR2, cR3, cR4⟩, dR0, dR1, dR2, dR3, dR4⟩ := KR5.out.of5
    obtain ⟨⟨cK0, cK1, cK2, cK3, cK4⟩, dK0, dK1, dK2, dK3, dK4⟩ := KK5.out.of5
    go_wp2_with fail
    clear cR0 cR1 cR2 cR3 cR4 dR0 dR1 dR2 dR3 dR4 cK0 cK1 cK2 cK3 cK4 dK0 dK1 dK2 dK3 dK4
    refine (l4Place_any _ g _ C5.out).mono ?_
    rintro e v6 ⟨s9, rfl, hs9, hcu, hgr⟩
    clear hs9
    have KR6 := Lib.hid (KR5.out.grown hgr c_R)
    have KK6 := Lib.hid (KK5.out.grown hgr c_K)
    have Dp6 := Lib.hid (Dp5.out.grown hgr)
    have G6 := Lib.hid (grown_tr G5.out hgr)
    have C6 := Lib.hid hcu
    clear hcu hgr KR5 KK5 Dp5 G5 C5
    obtain ⟨⟨cR0, cR1, cR2, cR3, cR4⟩, dR0, dR1, dR2, dR3, dR4⟩ := KR6.out.of5
    obtain ⟨⟨cK0, cK1, cK2, cK3, cK4⟩, dK0, dK1, dK2, dK3, dK4⟩ := KK6.out.of5
    go_wp2_with fail
    exact bodyPost_ret (v := .tuple #[.agg #[.int .i64 n, .string d, .slice a rs.length cap, .int .i64 f, .bool z], .int .i64 s9, .string x, .bool b]) (by simp [results, Try.results9, go_sem, cR0, cR1, cR2, cR3, cR4]) rfl ⟨n, d, rs, f, z, a, cap, s9, x, b, rfl, ⟨hbd, hx⟩, own_down (((((Dp6.out.set 0 _ (.inl hRw)).set 1 _ (.inl hRw)).set 2 _ (.inl hRw)).set 3 _ (.inl hRw)).set 4 _ (.inl hRw)).1 hzw, ((((((B0.out.trans ((below_new B1.out L1.out G6.out).mono hz)).setCell l_R _).setCell l_R _).setCell l_R _).setCell l_R _).setCell l_R _)⟩

set_option maxRecDepth 100000 in
set_option maxHeartbeats 8000000 in
theorem drawTakenIn (a0 : Option Addr) (s0 : List UInt8) (cap0 : Nat) (zw : World) (hrow : Row zw zw.heap.size a0 (byteCells s0)) (hs0 : s0.length ≤ 1048576) :
    Calls Try.prog 21 #[.slice a0 s0.length cap0] zw (DrnTak zw) := by
  have HR := Lib.hid hrow
  clear hrow
  go_enter Try.func21, Try.ntmps21
  have B0 := Lib.hid (show Below zw.heap.size zw (zw.alloc (.cells #[.int .i64 0, .string ⟨#[]⟩, .slice none 0 0, .int .i64 0, .bool false] 26)) from (Below.refl _ zw).alloc (Nat.le_refl _) _)
  have K0 := Lib.hid (Blk.new zw [.int .i64 0, .string ⟨#[]⟩, .slice none 0 0, .int .i64 0, .bool false] 26)
  go_wp2_with fail
  generalize zw.alloc (.cells #[.int .i64 0, .string ⟨#[]⟩, .slice none 0 0, .int .i64 0, .bool false] 26) = v0 at B0 K0 ⊢
  generalize hh : zw.heap.size = g_R at K0 ⊢
  have l_R : zw.heap.size ≤ g_R := Nat.le_of_eq hh
  clear hh
  have hr0 := K0.out.lt
  refine (l1New_any a0 s0 cap0 v0 ((HR.out.below B0.out).mono B0.out.size) hs0).mono ?_
  rintro e w ⟨g, rfl, hc1, hb1⟩
  have C1 := Lib.hid hc1
  have L1 := Lib.hid hc1
  have G1 := Lib.hid (World.grownBy.refl w (some g))
  have B1 := Lib.hid hb1
  have KR1 := Lib.hid (K0.out.below hb1)
  have c_R : g_R ≠ g := by have := hc1.1; omega
  have hz : zw.heap.size ≤ v0.heap.size := B0.out.size
  have hRw : g_R < w.heap.size := KR1.out.lt
  have hgb : g < w.heap.size := C1.out.lt
  have hzw : zw.heap.size ≤ w.heap.size := Nat.le_trans hz B1.out.size
  have hB : v0.heap.size ≤ g := hc1.1
  clear hc1 hb1 K0 HR hr0
  obtain ⟨⟨cR0, cR1, cR2, cR3, cR4⟩, dR0, dR1, dR2, dR3, dR4⟩ := KR1.out.of5
  go_wp2_with fail
  clear cR0 cR1 cR2 cR3 cR4 dR0 dR1 dR2 dR3 dR4
  refine (l18Bent_any _ g _ C1.out).mono ?_
  rintro e v2 ⟨n, d, rs, f, z, a, cap, rfl, hbd, ho, hcu, hgr⟩
  have Dp0 := Lib.hid (show DrnP w.heap.size g a cap rs v2 from ⟨own_down ho (Nat.le_refl _), hgb⟩)
  clear ho
  have KR2 := Lib.hid (KR1.out.grown hgr c_R)
  have G2 := Lib.hid (grown_tr G1.out hgr)
  have C2 := Lib.hid hcu
  clear hcu hgr KR1 G1 C1
  obtain ⟨⟨cR0, cR1, cR2, cR3, cR4⟩, dR0, dR1, dR2, dR3, dR4⟩ := KR2.out.of5
  go_wp2_with fail
  clear cR0 cR1 cR2 cR3 cR4 dR0 dR1 dR2 dR3 dR4
  refine (pickTak _ g _ C2.out).mono ?_
  rintro e v3 ⟨x, rfl, hx, hcu, hgr⟩
  clear hx
  have KR3 := Lib.hid (KR2.out.grown hgr c_R)
  have Dp3 := Lib.hid (Dp0.out.grown hgr)
  have G3 := Lib.hid (grown_tr G2.out hgr)
  have C3 := Lib.hid hcu
  clear hcu hgr KR2 Dp0 G2 C2
  obtain ⟨⟨cR0, cR1, cR2, cR3, cR4⟩, dR0, dR1, dR2, dR3, dR4⟩ := KR3.out.of5
  go_wp2_with fail
  exact bodyPost_ret (v := .tuple #[.agg #[.int .i64 n, .string d, .slice a rs.length cap, .int .i64 f, .bool z], .int .i64 x]) (by simp [results, Try.results21, go_sem, cR0, cR1, cR2, cR3, cR4]) rfl ⟨n, d, rs, f, z, a, cap, x, rfl, hbd, own_down (((((Dp3.out.set 0 _ (.inl hRw)).set 1 _ (.inl hRw)).set 2 _ (.inl hRw)).set 3 _ (.inl hRw)).set 4 _ (.inl hRw)).1 hzw, ((((((B0.out.trans ((below_new B1.out L1.out G3.out).mono hz)).setCell l_R _).setCell l_R _).setCell l_R _).setCell l_R _).setCell l_R _)⟩
end Go.Proofs.Ytpbnkkgfjmkcdaa
namespace Go.Proofs.Ytpbnkkgfjmkcdaa
open Go.RowKit Go.Lib

set_option maxHeartbeats 400000 in
theorem at0_any (a : Option Addr) (bs : List UInt8) (cap i : Nat) (hi : i ≤ 100) (B : Nat) (w : World) (hrow : Row w B a (byteCells bs)) (hbs : bs.length ≤ 1048576) :
    Calls Try.prog 18 #[.slice a bs.length cap, .int .i64 i] w fun e w' => ∃ n : Int, e = .returned (.int .i64 n) ∧ (0 ≤ n ∧ n ≤ 255) ∧ w = w' := by
  by_cases hk : i < bs.length
  · obtain ⟨b, off, rfl, hb, hcs⟩ := hrow.byte hk
    have c := hcs i hk
    have h8 : bs[i].toNat < 256 := bs[i].toNat_lt
    clear hrow hcs
    go_enter Try.func18, Try.ntmps18
    go_wp2_with fail
    go_ret
    exact ⟨_, rfl, ⟨by omega, by omega⟩, rfl⟩
  · clear hrow
    go_enter Try.func18, Try.ntmps18
    go_wp2_with fail
    go_ret
    exact ⟨_, rfl, ⟨by omega, by omega⟩, rfl⟩
end Go.Proofs.Ytpbnkkgfjmkcdaa
namespace Go.Proofs.Ytpbnkkgfjmkcdaa
open Go.RowKit Go.Lib

theorem big_yes (a : Option Addr) (n cap : Nat) (w : World) (h : 1048576 < n) (hm : n ≤ 9223372036854775807) : Calls Try.prog 8 #[.slice a n cap] w fun e w' => e = .returned (.bool true) ∧ w = w' := by
  have hd : decide ((1048576 : Int) < (n : Int)) = true := by simp; omega
  go_enter Try.func8, Try.ntmps8
  go_wp2_with fail
  go_ret
  exact ⟨by simp, rfl⟩
theorem big_no (a : Option Addr) (n cap : Nat) (w : World) (h : n ≤ 1048576) : Calls Try.prog 8 #[.slice a n cap] w fun e w' => e = .returned (.bool false) ∧ w = w' := by
  have hd : decide ((1048576 : Int) < (n : Int)) = false := by simp; omega
  go_enter Try.func8, Try.ntmps8
  go_wp2_with fail
  go_ret
  exact ⟨by simp, rfl⟩
end Go.Proofs.Ytpbnkkgfjmkcdaa
namespace Go.Proofs.Ytpbnkkgfjmkcdaa
open Go.ChangeShapes Go.WideShapes Go.RowKit Go.Lib

theorem add_lit (b off j : Nat) : (⟨b, off, none⟩ : Addr).add j = ⟨b, off + j, none⟩ := by unfold Addr.add; split <;> simp_all

/-- What the walk is told of a []byte. -/
def IsBytes (w : World) (a : Option Addr) (len : Nat) (bs : List UInt8) : Prop := (bs.length = len ∧ len ≤ maxLen) ∧ Row w w.heap.size a (byteCells bs)

theorem openBytes {H : Type} {enc : TypeId × Value → H} {P : Program} {w : World} {t e : TypeId} {fuel : Nat} {a : Option Addr} {len cap : Nat} {x : DataW H × List MemPlace} (ht : P.underlying t = some (.slice e)) (he : P.underlying e = some (.int .u8)) (hc : P.cellsOf e = 1)
    (h : DataW.trod enc P w 0 (fun _ => true) true fuel t (Value.slice a len cap).cells.toList = some x) : ∃ bs : List UInt8, IsBytes w a len bs := by
  rcases open_ints ht he hc h with ⟨hcs, _⟩ | ⟨y, l, c, zs, hcs, _, hl, hm, hz, _, hcell, hwz⟩
  · simp [Value.cells] at hcs
    obtain ⟨rfl, rfl, rfl⟩ := hcs
    exact ⟨[], ⟨rfl, Nat.zero_le _⟩, Row.nil⟩
  · simp [Value.cells] at hcs
    obtain ⟨rfl, rfl, rfl⟩ := hcs
    simp only [if_true] at hz
    have hlen : ((zs.take len).map fun z => UInt8.ofNat z.toNat).length = len := by simp; omega
    refine ⟨(zs.take len).map fun z => UInt8.ofNat z.toNat, ⟨hlen, Nat.le_trans hl hm⟩, fun hx => ?_⟩
    have hpos : 0 < len := by
      rcases Nat.eq_zero_or_pos len with h | h
      · subst h; exact absurd rfl hx
      · exact h
    obtain ⟨b, off, spot⟩ := y
    have hc0 := hcell 0 (by omega)
    have hspot : spot = none := by simpa [Addr.add] using World.cell?_spot hc0
    subst hspot
    refine ⟨b, off, rfl, World.block_lt_of_cell? w ⟨b, off, none⟩ (by simpa [Addr.add] using hc0), fun j u hu => ?_⟩
    have hj : j < len := by
      have := (List.getElem?_eq_some_iff.1 hu).1
      rw [byteCells_length, hlen] at this; exact this
    have hj2 : j < zs.length := by omega
    have hb := bounds_u8 (hwz zs[j] (List.getElem_mem hj2))
    have := hcell j hj2
    rw [add_lit] at this
    rw [this, ← hu]
    simp only [byteCells, List.getElem?_map, List.getElem?_take, if_pos hj, List.getElem?_eq_getElem hj2, Option.map_some, List.getD_eq_getElem?_getD, Option.getD_some]
    rw [UInt8.toNat_ofNat']
    congr 2
    omega

/-- What the walk is told of a []string. -/
def IsTexts (w : World) (a : Option Addr) (len cap : Nat) (ss : List ByteArray) : Prop := (ss.length = len ∧ len ≤ cap ∧ cap ≤ maxLen ∧ ∀ s ∈ ss, s.size ≤ maxLen) ∧ Row w w.heap.size a (strVals ss)
theorem openStr {H : Type} {enc : TypeId × Value → H} {P : Program} {w : World} {t e : TypeId} {fuel : Nat} {a : Option Addr} {len cap : Nat} {x : DataW H × List MemPlace} (ht : P.underlying t = some (.slice e)) (he : P.underlying e = some .string) (hc : P.cellsOf e = 1)
    (h : DataW.trod enc P w 0 (fun _ => true) true fuel t (Value.slice a len cap).cells.toList = some x) : ∃ ss : List ByteArray, IsTexts w a len cap ss := by
  rcases open_strings ht he hc h with ⟨hcs, _⟩ | ⟨y, l, c, ss, hcs, _, hl, hm, hz, _, hcell, hws⟩
  · simp [Value.cells] at hcs
    obtain ⟨rfl, rfl, rfl⟩ := hcs
    exact ⟨[], ⟨rfl, Nat.le_refl _, Nat.zero_le _, fun _ h => by cases h⟩, Row.nil⟩
  · simp [Value.cells] at hcs
    obtain ⟨rfl, rfl, rfl⟩ := hcs
    simp only [if_true] at hz
    have hlen : (ss.take len).length = len := by simp; omega
    refine ⟨ss.take len, ⟨hlen, hl, hm, fun s hs => hws s (List.mem_of_mem_take hs)⟩, fun hx => ?_⟩
    have hpos : 0 < len := by
      rcases Nat.eq_zero_or_pos len with h | h
      · subst h; exact absurd rfl hx
      · exact h
    obtain ⟨b, off, spot⟩ := y
    have hc0 := hcell 0 (by omega)
    have hspot : spot = none := by simpa [Addr.add] using World.cell?_spot hc0
    subst hspot
    refine ⟨b, off, rfl, World.block_lt_of_cell? w ⟨b, off, none⟩ (by simpa [Addr.add] using hc0), fun j u hu => ?_⟩
    have hj : j < (ss.take len).length := by
      have := (List.getElem?_eq_some_iff.1 hu).1
      simpa [strVals] using this
    have hj2 : j < ss.length := by rw [hlen] at hj; omega
    rw [strVals_at _ j hj] at hu
    have := hcell j hj2
    rw [add_lit] at this
    rw [this, ← hu, List.getD_eq_getElem?_getD, List.getElem?_eq_getElem hj2]
    simp
end Go.Proofs.Ytpbnkkgfjmkcdaa
