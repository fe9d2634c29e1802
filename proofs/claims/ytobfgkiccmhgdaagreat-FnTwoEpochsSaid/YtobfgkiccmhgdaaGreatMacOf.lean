/- impl's and the model's MacOf. Nothing here is a claim. -/
import Derived.Test.YtobfgkiccmhgdaaGreatTagTab
import Derived.Test.YtobfgkiccmhgdaaGreatSipHash
import Derived.Test.YtobfgkiccmhgdaaGreatCurA
import Derived.Maps.OwnOps
namespace Go.Proofs.YtobfgkiccmhgdaaGreat
open Go.RowKit Go.Lib

/-- The tag of an input. -/
noncomputable def macOf (u : Bool) (k l : BitVec 64) (rs : List MR) (x : ByteArray) : Int := if u = true then tagOf rs x else n64 (sipHash k l x) % 16777216
theorem macOf_t (k l : BitVec 64) (rs : List MR) (x : ByteArray) : macOf true k l rs x = tagOf rs x := if_pos rfl
theorem macOf_f (k l : BitVec 64) (rs : List MR) (x : ByteArray) : macOf false k l rs x = n64 (sipHash k l x) % 16777216 := if_neg (by simp)
theorem and_tag64 (h : BitVec 64) : bits .and .u64 (n64 h) 16777215 = n64 h % 16777216 := by
  have e : (16777215 : Int) = n64 16777215#64 := by decide
  have e2 : bits .and .u64 (n64 h) (n64 16777215#64) = n64 (h &&& 16777215#64) := by
    show IntKind.u64.wrap ((BitVec.ofInt 64 (n64 h) &&& BitVec.ofInt 64 (n64 16777215#64)).toNat : Int) = _
    rw [ofInt_n64, ofInt_n64]
    exact wrap_n64 _
  rw [e, e2]
  unfold n64
  rw [BitVec.toNat_and, show (16777215#64 : BitVec 64).toNat = 2 ^ 24 - 1 by decide, Nat.and_two_pow_sub_one_eq_mod]
  omega

set_option maxRecDepth 100000 in
set_option maxHeartbeats 2000000 in
theorem macOfI (u : Bool) (k l : BitVec 64) (a : Option Addr) (cap : Nat) (rs : List MR) (x : ByteArray) (hl : rs.length ≤ 1048577) (hg : ∀ r ∈ rs, goodM r) (hx : x.size ≤ 1048576) (w : World) (hrow : Row w w.heap.size a (mrs rs)) :
    Calls Tryz.prog 28 #[.agg #[.bool u, .int .u64 (n64 k), .int .u64 (n64 l), .slice a rs.length cap], .string x] w fun e w' => e = .returned (.int .i64 (macOf u k l rs x)) ∧ Below w.heap.size w w' := by
  have B1 := Lib.hid (show Below w.heap.size w (w.alloc (.cells #[.bool u, .int .u64 (n64 k), .int .u64 (n64 l), .slice a rs.length cap] 27)) from (Below.refl _ w).alloc (Nat.le_refl _) _)
  have E1 := Lib.hid (Blk.new w [.bool u, .int .u64 (n64 k), .int .u64 (n64 l), .slice a rs.length cap] 27)
  have R := Lib.hid ((hrow.below B1.out).mono B1.out.size)
  clear hrow
  cases u
  · rw [macOf_f]
    obtain ⟨h, hh⟩ : ∃ h, Hid (sipHash k l x = h) := ⟨_, rfl⟩
    have C := Lib.hid (fun w => sipHashI k l x hx w)
    rw [hh.out] at C ⊢
    have hb := n64_bd h
    have m1 : bits .and .u64 (n64 h) 16777215 = n64 h % 16777216 := and_tag64 h
    go_enter Tryz.func28, Tryz.ntmps28
    go_wp2_with fail
    refine (C.out _).mono ?_
    rintro e w2 ⟨rfl, hb2⟩
    have B2 := Lib.hid (B1.out.trans (hb2.mono B1.out.size))
    clear hb2
    go_wp2_with fail
    go_ret
    exact ⟨by first | rfl | (refine ret_int ?_; omega), B2.out⟩
  · rw [macOf_t]
    have C := Lib.hid (tagTab a cap rs hl hg _ R.out)
    have hkey := WideMaps.keyOf_string_mk (P := Tryz.prog) Tryz.underlying9 (show x.size ≤ maxLen by unfold maxLen; omega)
    go_enter Tryz.func28, Tryz.ntmps28
    go_wp2_with fail
    refine C.out.mono ?_
    rintro e w2 ⟨b, rfl, hown, hb, hb2⟩
    have B2 := Lib.hid (B1.out.trans (hb2.mono B1.out.size))
    clear hb2 hb
    go_wp2_with (at_lookup; refine wpList_lookup_own_int _ rfl _ _ 76 rfl 9 3 .i64 (Maps.string_keyed Tryz.underlying9) Tryz.underlying76 Tryz.underlying3 (Tryz.zeroValue3 _) b rs.length _ rfl hown _ _ rfl hkey ?_; intro c hat hwc; have ec : c = rawTag rs x := (by have h2 := tabD_at x rs; unfold kx vl at h2; rw [h2] at hat; injection hat with h3; injection h3 with h4 h5; exact h5.symm))
    go_ret
    exact ⟨ret_int (by unfold tagOf; rw [← ec]; exact and_tag c), B2.out⟩

theorem str_no {x y : ByteArray} (h : x ≠ y) : (x.toList == y.toList) = false := by
  rw [beq_eq_false_iff_ne]
  exact fun e => h (by rw [ByteArray.toList_eq, ByteArray.toList_eq] at e; exact ByteArray.ext (Array.toList_inj.1 e))
theorem tmod24 (n : Int) : n.tmod 16777216 = n % 16777216 ∨ (n.tmod 16777216 = n % 16777216 - 16777216 ∧ n.tmod 16777216 < 0) := by
  rw [Int.tmod_eq_emod]
  have h1 := Int.emod_nonneg n (show (16777216 : Int) ≠ 0 by decide)
  have h2 := Int.emod_lt_of_pos n (show (0 : Int) < 16777216 by decide)
  split
  · left; omega
  · right; omega
theorem rem_tag (v : Int) : (v.tmod 16777216 < 0 → wrap64 (v.tmod 16777216 + 16777216) = v % 16777216) ∧ (¬ v.tmod 16777216 < 0 → v.tmod 16777216 = v % 16777216) := by
  have h := tmod24 v
  have h1 := Int.emod_nonneg v (show (16777216 : Int) ≠ 0 by decide)
  have h2 := Int.emod_lt_of_pos v (show (0 : Int) < 16777216 by decide)
  constructor <;> intro h3
  · unfold wrap64; omega
  · omega

set_option maxRecDepth 100000 in
set_option maxHeartbeats 2000000 in
theorem macOfS (u : Bool) (k l : BitVec 64) (a : Option Addr) (cap : Nat) (rs : List MR) (x : ByteArray) (hl : rs.length ≤ 1048577) (hx : x.size ≤ 1048576) (w : World) (hrow : Row w w.heap.size a (mrs rs)) :
    Calls Tryz.prog 30 #[.agg #[.bool u, .int .u64 (n64 k), .int .u64 (n64 l), .slice a rs.length cap], .string x] w fun e w' => e = .returned (.int .i64 (macOf u k l rs x)) ∧ Below w.heap.size w w' := by
  have B1 := Lib.hid (show Below w.heap.size w (w.alloc (.cells #[.bool u, .int .u64 (n64 k), .int .u64 (n64 l), .slice a rs.length cap] 27)) from (Below.refl _ w).alloc (Nat.le_refl _) _)
  have E1 := Lib.hid (Blk.new w [.bool u, .int .u64 (n64 k), .int .u64 (n64 l), .slice a rs.length cap] 27)
  have R := Lib.hid ((hrow.below B1.out).mono B1.out.size)
  clear hrow
  cases u
  · rw [macOf_f]
    obtain ⟨h, hh⟩ : ∃ h, Hid (sipHash k l x = h) := ⟨_, rfl⟩
    have C := Lib.hid (fun w => sipHashS k l x hx w)
    rw [hh.out] at C ⊢
    have hb := n64_bd h
    have m1 : (n64 h).tmod 16777216 = n64 h % 16777216 := Int.tmod_eq_emod_of_nonneg hb.1
    go_enter Tryz.func30, Tryz.ntmps30
    go_wp2_with fail
    refine (C.out _).mono ?_
    rintro e w2 ⟨rfl, hb2⟩
    have B2 := Lib.hid (B1.out.trans (hb2.mono B1.out.size))
    clear hb2
    go_wp2_with fail
    go_ret
    exact ⟨by first | rfl | (refine ret_int ?_; omega), B2.out⟩
  · rw [macOf_t]
    go_enter Tryz.func30, Tryz.ntmps30
    go_wp2_with fail
    generalize (w.alloc (.cells #[.bool true, .int .u64 (n64 k), .int .u64 (n64 l), .slice a rs.length cap] 27)) = w1 at B1 E1 R ⊢
    go_loopw [5] (fun i wr => ∃ j : Nat, j ≤ rs.length ∧ i = .int .i64 j ∧ Hid (∀ p (hp : p < rs.length), p < j → rs[p].s ≠ x) ∧ Hid (Below w1.heap.size w1 wr)) (fun i _ => rs.length - (RowKit.intOf i).toNat)
    case atStart => exact ⟨0, Nat.zero_le _, rfl, fun p hp h => absurd h (Nat.not_lt_zero p), Below.refl _ _⟩
    case round =>
      obtain ⟨j, hj, rfl, hno, hbl⟩ := hrel
      obtain ⟨⟨x0, x1, x2, x3⟩, _, _, _, _⟩ := (E1.out.below hbl.out).four
      by_cases hlt : j < rs.length
      · obtain ⟨p, o, rfl, _, hcs⟩ := (R.out.below hbl.out).mr hlt
        obtain ⟨hc0, hc1⟩ := hcs j hlt
        have hk0 : (0 : Int) ≤ (j : Int) := Int.natCast_nonneg _
        have hk1 : (j : Int) < (rs.length : Int) := by omega
        clear hcs
        by_cases he : rs[j].s = x
        · have ht := rawTag_hit hlt hno.out he
          obtain ⟨r1, r2⟩ := rem_tag rs[j].v
          by_cases hneg : rs[j].v.tmod 16777216 < 0
          · have r3 := Lib.hid (r1 hneg)
            clear r1 r2
            go_wp2_with fail
            go_ret
            refine ⟨ret_int ?_, B1.out.trans (hbl.out.mono B1.out.size)⟩
            unfold tagOf
            rw [ht, ← r3.out]
          · have r3 := Lib.hid (r2 hneg)
            clear r1 r2
            go_wp2_with fail
            go_ret
            refine ⟨ret_int ?_, B1.out.trans (hbl.out.mono B1.out.size)⟩
            unfold tagOf
            rw [ht, ← r3.out]
        · have hne := str_no he
          go_wp2_with fail
          go_roundw
          case rel =>
            refine ⟨j + 1, by omega, by go_num, fun p hp h => ?_, hbl⟩
            rcases Nat.lt_or_ge p j with h1 | h1
            · exact hno.out p hp h1
            · obtain rfl : p = j := by omega
              exact he
          case measure => simp [RowKit.intOf]; omega
      · obtain rfl : j = rs.length := by omega
        have ht : rawTag rs x = 0 := rawTag_none fun r hr => by obtain ⟨i, hi, rfl⟩ := List.getElem_of_mem hr; exact hno.out i hi hi
        go_wp2_with fail
        go_ret
        exact ⟨ret_int (by unfold tagOf; rw [ht]; rfl), B1.out.trans (hbl.out.mono B1.out.size)⟩
end Go.Proofs.YtobfgkiccmhgdaaGreat
