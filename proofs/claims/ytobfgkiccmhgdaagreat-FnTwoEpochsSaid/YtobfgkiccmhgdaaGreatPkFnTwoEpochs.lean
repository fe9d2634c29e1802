/- Texts of one proof that belong together, joined. Nothing here is a claim. -/
import Derived.Test.YtobfgkiccmhgdaaGreatIp6
import Derived.Test.YtobfgkiccmhgdaaGreatL4Place
import Derived.Test.YtobfgkiccmhgdaaGreatDrawWordA
import Derived.Test.YtobfgkiccmhgdaaGreatBase
import Derived.Test.YtobfgkiccmhgdaaGreatWhole
import Derived.Test.YtobfgkiccmhgdaaGreatDeep
import Derived.Test.YtobfgkiccmhgdaaGreatDraw13
import Derived.Test.YtobfgkiccmhgdaaGreatKeysC
import Derived.Deep.DeepCutAuto
import Derived.Deep.CutBlock
import Derived.Test.YtobfgkiccmhgdaaGreatWordA
import Derived.IntWalk
import Derived.Test.YtobfgkiccmhgdaaGreatKit
import Derived.ProofKit
import Derived.OpenShut
import Derived.SliceStrings
namespace Go.Proofs.YtobfgkiccmhgdaaGreat
open Go.RowKit Go.Lib

theorem Blk.of3 {w : World} {g : Nat} {v0 v1 v2 : Value} (h : Blk w g [v0, v1, v2]) : (w.cell? ⟨g, 0, none⟩ = some v0 ∧ w.cell? ⟨g, 1, none⟩ = some v1 ∧ w.cell? ⟨g, 2, none⟩ = some v2) ∧ w.frozen? ⟨g, 0, none⟩ = false ∧ w.frozen? ⟨g, 1, none⟩ = false ∧ w.frozen? ⟨g, 2, none⟩ = false :=
  ⟨⟨h.cell 0 _ rfl, h.cell 1 _ rfl, h.cell 2 _ rfl⟩, h.open 0, h.open 1, h.open 2⟩
def portCs : Array Value := #[.int .i64 40000, .int .i64 40001, .int .i64 40002]
theorem portCs_bd : ∀ v ∈ portCs.toList, ∃ x, v = .int .i64 x ∧ I64 x := by
  intro v hv
  simp only [portCs, List.mem_cons, List.mem_nil_iff, or_false] at hv
  unfold I64
  rcases hv with rfl | rfl | rfl <;> exact ⟨_, rfl, by decide⟩
theorem pickPort (B g : Nat) (w : World) (hc : CurB w B g) : Calls Tryz.prog 36 #[.pointer (some ⟨g, 0, none⟩), .slice (some ⟨w.heap.size, 0, none⟩) 3 3] (w.alloc (.cells portCs 3)) (WholeEnd w B g) :=
  pickNew B g w hc portCs (by decide) (by decide) portCs_bd
def numCs : Array Value := #[.int .i64 0, .int .i64 1, .int .i64 31, .int .i64 32, .int .i64 4294967295, .int .i64 4294967296, .int .i64 (-1)]
theorem numCs_bd : ∀ v ∈ numCs.toList, ∃ x, v = .int .i64 x ∧ I64 x := by
  intro v hv
  simp only [numCs, List.mem_cons, List.mem_nil_iff, or_false] at hv
  unfold I64
  rcases hv with rfl | rfl | rfl | rfl | rfl | rfl | rfl <;> exact ⟨_, rfl, by decide⟩
theorem pickNum (B g : Nat) (w : World) (hc : CurB w B g) : Calls Tryz.prog 36 #[.pointer (some ⟨g, 0, none⟩), .slice (some ⟨w.heap.size, 0, none⟩) 7 7] (w.alloc (.cells numCs 3)) (WholeEnd w B g) :=
  pickNew B g w hc numCs (by decide) (by decide) numCs_bd
/-- What l12Tuple and l12Bent hand back: a Tuple; only the cursor has turned. -/
def TupEnd (w : World) (B g : Nat) (e : Ending) (w' : World) : Prop := ∃ (p q r : Int), e = .returned (.agg #[.int .i64 p, .int .i64 q, .int .i64 r]) ∧ (I64 p ∧ I64 q ∧ I64 r) ∧ CurB w' B g ∧ w.grownBy w' (some g)

set_option maxRecDepth 100000 in
set_option maxHeartbeats 2000000 in
theorem l12Tuple_any (B g : Nat) (w : World) (hc : CurB w B g) : Calls Tryz.prog 38 #[.pointer (some ⟨g, 0, none⟩)] w (TupEnd w B g) := by
  have hlt := hc.lt
  have hBg := hc.1
  have P0 := Lib.hid (l6Ip_any B g (w.alloc (.cells #[.int .i64 0, .int .i64 0, .int .i64 0] 31)) (hc.new _))
  clear hc
  go_enter Tryz.func38, Tryz.ntmps38
  go_wp2_with fail
  refine P0.out.mono ?_
  rintro e w1 ⟨p, rfl, hp, hcu, hgr⟩
  have K1 := Lib.hid ((Blk.new w [.int .i64 0, .int .i64 0, .int .i64 0] 31).grown hgr (by omega))
  have G1 := Lib.hid (grown_tr (World.grownBy_alloc w (.cells #[.int .i64 0, .int .i64 0, .int .i64 0] 31) (some g)) hgr)
  have C1 := Lib.hid hcu
  have P := Lib.hid hp
  clear hcu hgr hp P0
  go_wp2_with fail
  refine (pickPort B g w1 C1.out).mono ?_
  rintro e w2 ⟨q, rfl, hq, hcu, hgr⟩
  have K2 := Lib.hid (K1.out.grown hgr (by omega))
  have G2 := Lib.hid (grown_tr G1.out hgr)
  have C2 := Lib.hid hcu
  have Q := Lib.hid hq
  clear hcu hgr hq K1 G1 C1
  have hrg : w.heap.size ≠ g := Nat.ne_of_gt hlt
  have hB : B ≤ w.heap.size := by omega
  have hrl : w.heap.size ≤ w.heap.size := Nat.le_refl _
  obtain ⟨⟨d0, d1, d2⟩, e0, e1, e2⟩ := K2.out.of3
  go_wp2_with fail
  refine bodyPost_ret (v := .agg #[.int .i64 p, .int .i64 q, .int .i64 80]) (by simp [results, Tryz.results38, go_sem, d0, d1, d2]) rfl ⟨_, _, _, rfl, ⟨P.out, Q.out, by unfold I64; omega⟩, ?_, ?_⟩
  · exact ((C2.out.setOther _ _ hB hrg).setOther _ _ hB hrg).setOther _ _ hB hrg
  · exact grown_setNew (grown_setNew (grown_setNew G2.out _ _ hrl) _ _ hrl) _ _ hrl

set_option maxRecDepth 100000 in
set_option maxHeartbeats 4000000 in
theorem l12Bent_any (B g : Nat) (w : World) (hc : CurB w B g) : Calls Tryz.prog 17 #[.pointer (some ⟨g, 0, none⟩)] w (TupEnd w B g) := by
  have hlt := hc.lt
  have hBg := hc.1
  have C0 := Lib.hid hc
  clear hc
  go_enter Tryz.func17, Tryz.ntmps17
  go_wp2_with fail
  refine (l12Tuple_any B g _ (C0.out.new (.cells #[.int .i64 0, .int .i64 0, .int .i64 0] 31))).mono ?_
  rintro e w1 ⟨p, q, r, rfl, hbd, hcu, hgr⟩
  have BD := Lib.hid hbd
  have K1 := Lib.hid ((Blk.new w [.int .i64 0, .int .i64 0, .int .i64 0] 31).grown hgr (by omega))
  have C1 := Lib.hid hcu
  have G1 := Lib.hid (grown_tr (World.grownBy_alloc w (.cells #[.int .i64 0, .int .i64 0, .int .i64 0] 31) (some g)) hgr)
  clear hcu hgr C0 hbd
  go_wp2_with fail
  have hr0 : w.heap.size < w1.heap.size := K1.out.lt
  have hgf : g < w1.heap.size := C1.out.lt
  have K2 := Lib.hid (K1.out.alloc (.cells #[.int .i64 p, .int .i64 q, .int .i64 r] 31))
  have F2 := Lib.hid (Blk.new w1 [.int .i64 p, .int .i64 q, .int .i64 r] 31)
  have C2 := Lib.hid (C1.out.new (.cells #[.int .i64 p, .int .i64 q, .int .i64 r] 31))
  have G2 := Lib.hid (grown_new G1.out (.cells #[.int .i64 p, .int .i64 q, .int .i64 r] 31))
  clear K1 C1 G1
  generalize w1.alloc (.cells #[.int .i64 p, .int .i64 q, .int .i64 r] 31) = w2 at K2 F2 C2 G2 ⊢
  generalize hf : w1.heap.size = f at hr0 F2 hgf ⊢
  clear hf
  have hfg : f ≠ g := Nat.ne_of_gt hgf
  have hrg : w.heap.size ≠ g := Nat.ne_of_gt hlt
  have hwf : w.heap.size ≠ f := Nat.ne_of_lt hr0
  have hwf2 : ¬ f = w.heap.size := fun e => hwf e.symm
  have hfl : w.heap.size ≤ f := Nat.le_of_lt hr0
  have hBf : B ≤ f := by omega
  have hB : B ≤ w.heap.size := by omega
  have hrl : w.heap.size ≤ w.heap.size := Nat.le_refl _
  refine (l1Below_pos B g w2 C2.out 10 (by omega) (by omega)).mono ?_
  rintro e w3 ⟨z, rfl, ⟨z0, z1⟩, hcu, hgr⟩
  have K3 := Lib.hid (K2.out.grown hgr hrg)
  have F3 := Lib.hid (F2.out.grown hgr hfg)
  have G3 := Lib.hid (grown_tr G2.out hgr)
  have C3 := Lib.hid (hcu)
  clear hcu hgr K2 F2 G2 C2
  have hq : z = 0 ∨ z = 1 ∨ z = 2 ∨ 3 ≤ z := by omega
  clear z0
  rcases hq with rfl | rfl | rfl | hq
  · go_wp2_with fail
    refine (l2Word_any B g w3 C3.out).mono ?_
    rintro e w4 ⟨x, rfl, hx, hcu, hgr⟩
    have X := Lib.hid hx
    have K4 := Lib.hid (K3.out.grown hgr hrg)
    have F4 := Lib.hid (F3.out.grown hgr hfg)
    have G4 := Lib.hid (grown_tr G3.out hgr)
    have C4 := Lib.hid (hcu)
    clear hcu hgr hx K3 F3 G3 C3
    obtain ⟨⟨c0, c1, c2⟩, f0, f1, f2⟩ := F4.out.of3
    obtain ⟨⟨d0, d1, d2⟩, e0, e1, e2⟩ := K4.out.of3
    go_wp2_with fail
    refine bodyPost_ret (v := .agg #[.int .i64 x, .int .i64 q, .int .i64 r]) (by simp [results, Tryz.results17, go_sem, d0, d1, d2]) rfl ⟨_, _, _, rfl, ⟨X.out, BD.out.2.1, BD.out.2.2⟩, ?_, ?_⟩
    · exact (((C4.out.setOther ⟨f, 0, none⟩ (.int .i64 x) hBf hfg).setOther _ _ hB hrg).setOther _ _ hB hrg).setOther _ _ hB hrg
    · exact grown_setNew (grown_setNew (grown_setNew (grown_setNew G4.out ⟨f, 0, none⟩ (.int .i64 x) hfl) _ _ hrl) _ _ hrl) _ _ hrl
  · go_wp2_with fail
    refine (l2Word_any B g w3 C3.out).mono ?_
    rintro e w4 ⟨x, rfl, hx, hcu, hgr⟩
    have X := Lib.hid hx
    have K4 := Lib.hid (K3.out.grown hgr hrg)
    have F4 := Lib.hid (F3.out.grown hgr hfg)
    have G4 := Lib.hid (grown_tr G3.out hgr)
    have C4 := Lib.hid (hcu)
    clear hcu hgr hx K3 F3 G3 C3
    obtain ⟨⟨c0, c1, c2⟩, f0, f1, f2⟩ := F4.out.of3
    obtain ⟨⟨d0, d1, d2⟩, e0, e1, e2⟩ := K4.out.of3
    go_wp2_with fail
    refine bodyPost_ret (v := .agg #[.int .i64 p, .int .i64 x, .int .i64 r]) (by simp [results, Tryz.results17, go_sem, d0, d1, d2]) rfl ⟨_, _, _, rfl, ⟨BD.out.1, X.out, BD.out.2.2⟩, ?_, ?_⟩
    · exact (((C4.out.setOther ⟨f, 1, none⟩ (.int .i64 x) hBf hfg).setOther _ _ hB hrg).setOther _ _ hB hrg).setOther _ _ hB hrg
    · exact grown_setNew (grown_setNew (grown_setNew (grown_setNew G4.out ⟨f, 1, none⟩ (.int .i64 x) hfl) _ _ hrl) _ _ hrl) _ _ hrl
  · go_wp2_with fail
    refine (l2Word_any B g w3 C3.out).mono ?_
    rintro e w4 ⟨x, rfl, hx, hcu, hgr⟩
    have X := Lib.hid hx
    have K4 := Lib.hid (K3.out.grown hgr hrg)
    have F4 := Lib.hid (F3.out.grown hgr hfg)
    have G4 := Lib.hid (grown_tr G3.out hgr)
    have C4 := Lib.hid (hcu)
    clear hcu hgr hx K3 F3 G3 C3
    obtain ⟨⟨c0, c1, c2⟩, f0, f1, f2⟩ := F4.out.of3
    obtain ⟨⟨d0, d1, d2⟩, e0, e1, e2⟩ := K4.out.of3
    go_wp2_with fail
    refine bodyPost_ret (v := .agg #[.int .i64 p, .int .i64 q, .int .i64 x]) (by simp [results, Tryz.results17, go_sem, d0, d1, d2]) rfl ⟨_, _, _, rfl, ⟨BD.out.1, BD.out.2.1, X.out⟩, ?_, ?_⟩
    · exact (((C4.out.setOther ⟨f, 2, none⟩ (.int .i64 x) hBf hfg).setOther _ _ hB hrg).setOther _ _ hB hrg).setOther _ _ hB hrg
    · exact grown_setNew (grown_setNew (grown_setNew (grown_setNew G4.out ⟨f, 2, none⟩ (.int .i64 x) hfl) _ _ hrl) _ _ hrl) _ _ hrl
  · have nq0 : (z == 0) = false := by simp; omega
    have nq1 : (z == 1) = false := by simp; omega
    have nq2 : (z == 2) = false := by simp; omega
    clear hq z1
    obtain ⟨⟨c0, c1, c2⟩, f0, f1, f2⟩ := F3.out.of3
    obtain ⟨⟨d0, d1, d2⟩, e0, e1, e2⟩ := K3.out.of3
    go_wp2_with fail
    refine bodyPost_ret (v := .agg #[.int .i64 p, .int .i64 q, .int .i64 r]) (by simp [results, Tryz.results17, go_sem, d0, d1, d2]) rfl ⟨_, _, _, rfl, BD.out, ?_, ?_⟩
    · exact ((C3.out.setOther _ _ hB hrg).setOther _ _ hB hrg).setOther _ _ hB hrg
    · exact grown_setNew (grown_setNew (grown_setNew G3.out _ _ hrl) _ _ hrl) _ _ hrl

end Go.Proofs.YtobfgkiccmhgdaaGreat
namespace Go.Proofs.YtobfgkiccmhgdaaGreat
open Go.RowKit Go.Lib

/-- The place of an int on the circle. -/
def pl (n : Int) : Int := n % 4294967296
/-- What SeqDiff answers. -/
def df (a b : Int) : Int := (a - b + 2147483648) % 4294967296 - 2147483648
theorem pl_bd (n : Int) : 0 ≤ pl n ∧ pl n ≤ 4294967295 := by unfold pl; omega
theorem df_bd (a b : Int) : -2147483648 ≤ df a b ∧ df a b ≤ 2147483647 := by unfold df; omega

theorem and_seq (n : Int) : bits .and .i64 n 4294967295 = n % 4294967296 := by
  have h1 : ((BitVec.ofInt 64 n).toNat : Int) = n % 18446744073709551616 := by
    rw [BitVec.toNat_ofInt]
    have h : (0 : Int) ≤ n % 18446744073709551616 := Int.emod_nonneg _ (by decide)
    exact Int.toNat_of_nonneg h
  have h2 : (BitVec.ofInt 64 (4294967295 : Int)).toNat = 4294967295 := by decide
  have h4 : (BitVec.ofInt 64 n &&& BitVec.ofInt 64 (4294967295 : Int)).toNat = (BitVec.ofInt 64 n).toNat % 4294967296 := by
    rw [BitVec.toNat_and, h2]; exact Nat.and_two_pow_sub_one_eq_mod _ 32
  have h3 : bits .and .i64 n 4294967295 = IntKind.i64.wrap ((BitVec.ofInt 64 n &&& BitVec.ofInt 64 (4294967295 : Int)).toNat : Int) := rfl
  rw [h3, h4, IntKind.wrap_i64]
  omega
end Go.Proofs.YtobfgkiccmhgdaaGreat
namespace Go.Proofs.YtobfgkiccmhgdaaGreat
open Go.RowKit Go.Lib

theorem wrap64_is (n : Int) : wrap64 n = (n + 9223372036854775808) % 18446744073709551616 - 9223372036854775808 := by
  unfold wrap64; omega
theorem wrap32_is (n : Int) : wrap32 n = (n + 2147483648) % 4294967296 - 2147483648 := by
  unfold wrap32; omega
theorem tmod_is (n m : Int) (h : 0 < m) : n.tmod m = n % m ∨ (n.tmod m = n % m - m ∧ n.tmod m < 0) := by
  rw [Int.tmod_eq_emod]
  have h1 := Int.emod_nonneg n (show m ≠ 0 by omega)
  have h2 := Int.emod_lt_of_pos n h
  split
  · left; omega
  · right; omega

set_option maxHeartbeats 400000 in
theorem restS (n : Int) (w : World) : Calls Tryz.prog 59 #[.int .i64 n] w fun e w' => e = .returned (.int .i64 (pl n)) ∧ w = w' := by
  go_enter Tryz.func59, Tryz.ntmps59
  go_wp2
  · go_ret
    refine ⟨?_, rfl⟩
    have := tmod_is n 4294967296 (by decide)
    have e : wrap64 (n.tmod 4294967296 + 4294967296) = pl n := by rw [wrap64_is]; unfold pl; omega
    rw [e]
    rfl
  · go_ret
    refine ⟨?_, rfl⟩
    have := tmod_is n 4294967296 (by decide)
    have e : n.tmod 4294967296 = pl n := by unfold pl; omega
    rw [e]
    rfl

set_option maxHeartbeats 400000 in
theorem seqAddS (a n : Int) (w : World) : Calls Tryz.prog 44 #[.int .i64 a, .int .i64 n] w fun e w' => e = .returned (.int .i64 (pl (a + n))) ∧ w = w' := by
  go_enter Tryz.func44, Tryz.ntmps44
  go_wp2_with fail
  refine (restS _ _).mono ?_
  rintro e w1 ⟨rfl, rfl⟩
  go_wp2_with fail
  refine (restS _ _).mono ?_
  rintro e w1 ⟨rfl, rfl⟩
  have h1 := pl_bd a
  have h2 := pl_bd n
  go_wp2_with fail
  refine (restS _ _).mono ?_
  rintro e w1 ⟨rfl, rfl⟩
  go_wp2_with fail
  go_ret
  refine ⟨?_, rfl⟩
  have e : pl (pl a + pl n) = pl (a + n) := by unfold pl; omega
  rw [e]
  rfl

end Go.Proofs.YtobfgkiccmhgdaaGreat
namespace Go.Proofs.YtobfgkiccmhgdaaGreat
open Go.RowKit Go.Lib

def nearCs : Array Value := #[.int .i64 2147483647, .int .i64 2147483648, .int .i64 (-1), .int .i64 1, .int .i64 0]
theorem nearCs_bd : ∀ v ∈ nearCs.toList, ∃ x, v = .int .i64 x ∧ I64 x := by
  intro v hv
  simp only [nearCs, List.mem_cons, List.mem_nil_iff, or_false] at hv
  unfold I64
  rcases hv with rfl | rfl | rfl | rfl | rfl <;> exact ⟨_, rfl, by decide⟩
theorem pickNear (B g : Nat) (w : World) (hc : CurB w B g) : Calls Tryz.prog 36 #[.pointer (some ⟨g, 0, none⟩), .slice (some ⟨w.heap.size, 0, none⟩) 5 5] (w.alloc (.cells nearCs 3)) (WholeEnd w B g) :=
  pickNew B g w hc nearCs (by decide) (by decide) nearCs_bd
theorem pl_i64 (n : Int) : I64 (pl n) := by have := pl_bd n; unfold I64; omega

set_option maxHeartbeats 1000000 in
theorem l4Near_any (B g : Nat) (w : World) (hc : CurB w B g) (x : Int) : Calls Tryz.prog 21 #[.pointer (some ⟨g, 0, none⟩), .int .i64 x] w (WholeEnd w B g) := by
  have C := Lib.hid (l1Below_pos B g w hc 4 (by omega) (by omega))
  clear hc
  go_enter Tryz.func21, Tryz.ntmps21
  go_wp2_with fail
  refine C.out.mono ?_
  rintro e w1 ⟨r, rfl, ⟨r0, r1⟩, hc1, hg1⟩
  have C1 := Lib.hid hc1
  have G1 := Lib.hid hg1
  clear hc1 hg1
  have hr : r = 0 ∨ r = 1 ∨ (r ≠ 0 ∧ r ≠ 1) := by omega
  rcases hr with rfl | rfl | ⟨hr0, hr1⟩
  · go_wp2_with fail
    refine (l4Place_any B g w1 C1.out).mono ?_
    rintro e w2 ⟨n, rfl, hn, hc2, hg2⟩
    have N := Lib.hid hn
    have C2 := Lib.hid hc2
    have G2 := Lib.hid (grown_tr G1.out hg2)
    clear hn hc2 hg2
    go_wp2_with fail
    go_ret
    exact ⟨n, rfl, N.out, C2.out, G2.out⟩
  · go_wp2_with fail
    refine (pickNear B g w1 C1.out).mono ?_
    rintro e w2 ⟨n, rfl, hn, hc2, hg2⟩
    have C2 := Lib.hid hc2
    have G2 := Lib.hid (grown_tr G1.out hg2)
    clear hn hc2 hg2
    go_wp2_with fail
    refine (seqAddS _ _ _).mono ?_
    rintro e w3 ⟨rfl, rfl⟩
    go_wp2_with fail
    go_ret
    exact ⟨_, rfl, pl_i64 _, C2.out, G2.out⟩
  · have e0 : (r == 0) = false := by simp; omega
    have e1 : (r == 1) = false := by simp; omega
    go_wp2_with fail
    refine (l1Below_pos B g w1 C1.out 41 (by omega) (by omega)).mono ?_
    rintro e w2 ⟨n, rfl, ⟨n0, n1⟩, hc2, hg2⟩
    have C2 := Lib.hid hc2
    have G2 := Lib.hid (grown_tr G1.out hg2)
    clear hc2 hg2
    go_wp2_with fail
    refine (seqAddS _ _ _).mono ?_
    rintro e w3 ⟨rfl, rfl⟩
    go_wp2_with fail
    go_ret
    exact ⟨_, rfl, pl_i64 _, C2.out, G2.out⟩

def sizeCs : Array Value := #[.int .i64 0, .int .i64 1, .int .i64 5, .int .i64 10, .int .i64 64, .int .i64 65535, .int .i64 (-1), .int .i64 4294967295, .int .i64 4294967296, .int .i64 9223372036854775807, .int .i64 (-9223372036854775808)]
theorem sizeCs_bd : ∀ v ∈ sizeCs.toList, ∃ x, v = .int .i64 x ∧ I64 x := by
  intro v hv
  simp only [sizeCs, List.mem_cons, List.mem_nil_iff, or_false] at hv
  unfold I64
  rcases hv with rfl | rfl | rfl | rfl | rfl | rfl | rfl | rfl | rfl | rfl | rfl <;> exact ⟨_, rfl, by decide⟩
theorem pickSize (B g : Nat) (w : World) (hc : CurB w B g) : Calls Tryz.prog 36 #[.pointer (some ⟨g, 0, none⟩), .slice (some ⟨w.heap.size, 0, none⟩) 11 11] (w.alloc (.cells sizeCs 3)) (WholeEnd w B g) :=
  pickNew B g w hc sizeCs (by decide) (by decide) sizeCs_bd

end Go.Proofs.YtobfgkiccmhgdaaGreat
namespace Go.Proofs.YtobfgkiccmhgdaaGreat
open Go.RowKit Go.Lib

theorem post_put2 {P : Program} {fn : Func} {R : Ending → World → Prop} {x : Exit} {a : Act} {d1 d2 : Option Nat} {w : World} {v1 v2 : Value} (n1 n2 : Nat) (h1 : d1 = some n1) (h2 : d2 = some n2) (h : bodyPost P fn R x ((a.put (some n1) v1).put (some n2) v2) w) : bodyPost P fn R x ((a.put d1 v1).put d2 v2) w := by
  subst h1 h2
  exact h
/-- Keys, a tuple and two numbers that were drawn. -/
def CkDraw (w : World) (r : Ending) (w' : World) : Prop :=
  ∃ (e : Int) (p q : M) (t : Bool) (x y z s c : Int), r = .returned (.tuple #[.agg #[.int .i64 e, .bool p.u, .int .u64 (n64 p.k), .int .u64 (n64 p.l), .slice p.a p.rs.length p.c, .bool q.u, .int .u64 (n64 q.k), .int .u64 (n64 q.l), .slice q.a q.rs.length q.c, .bool t], .agg #[.int .i64 x, .int .i64 y, .int .i64 z], .int .i64 s, .int .i64 c]) ∧ I64 e ∧ (p.On w' ∧ q.On w') ∧ (p.Fit ∧ q.Fit) ∧ Below w.heap.size w w'
/-- A Mac that SecretOf handed to a draw. -/
def SecD (g : Nat) (w : World) (x : Ending) (w' : World) : Prop := ∃ (m : M) (ok : Bool), x = .returned (.tuple #[.agg #[.bool m.u, .int .u64 (n64 m.k), .int .u64 (n64 m.l), .slice m.a m.rs.length m.c], .bool ok]) ∧ DrawnM w.heap.size w'.heap.size g m w' ∧ Below w.heap.size w w'
theorem SecS.drawn {m : M} {g : Nat} {w : World} {x : Ending} {w' : World} (hs : m.rs.length ≤ 4 ∧ ∀ r ∈ m.rs, goodM r) (hg : g < w.heap.size) (h : SecS m w x w') : SecD g w x w' := by
  obtain ⟨b, c, hx, ho, hb⟩ := h
  have hl := ho.lt b rfl
  exact ⟨m.at (some ⟨b, 0, none⟩) c, true, hx, ⟨hs, .inr ⟨b, rfl, by omega, hl.1, hl.2, own_down ho (Nat.zero_le _)⟩⟩, hb⟩
theorem SecNo.drawn {g : Nat} {w : World} {x : Ending} {w' : World} (h : SecNo w x w') : SecD g w x w' := ⟨⟨false, 0, 0, none, 0, []⟩, false, h.1, DrawnM.nil _ _ _ _ _ _ _, h.2⟩
theorem secDraw (e n : Int) (p q : M) (t : Bool) (lo hi lo' hi' g : Nat) (w : World) (hp : DrawnM lo hi g p w) (hq : DrawnM lo' hi' g q w) (hg : g < w.heap.size) :
    Calls Tryz.prog 14 #[.agg #[.int .i64 e, .bool p.u, .int .u64 (n64 p.k), .int .u64 (n64 p.l), .slice p.a p.rs.length p.c, .bool q.u, .int .u64 (n64 q.k), .int .u64 (n64 q.l), .slice q.a q.rs.length q.c, .bool t], .int .i64 n] w (SecD g w) := by
  by_cases hn : (n == e) = false
  · cases t
    · exact (secNoOneS e n p q w hn).mono fun _ _ h => h.drawn
    · by_cases hw : (n == wrap64 (e - 1)) = false
      · exact (secNoTwoS e n p q w hn hw).mono fun _ _ h => h.drawn
      · exact (secBefS e n p q w hp.on hq.on hq.fit hn (by simpa using hw)).mono fun _ _ h => h.drawn hq.1 hg
  · obtain rfl : n = e := by simpa using hn
    cases t
    · exact (secNowOneS n p q w hp.on hq.on hp.fit).mono fun _ _ h => h.drawn hp.1 hg
    · exact (secNowTwoS n p q w hp.on hq.on hp.fit).mono fun _ _ h => h.drawn hp.1 hg
theorem l1Max_if (a b : Int) (w : World) : Calls Tryz.prog 20 #[.int .i64 a, .int .i64 b] w fun e w' => e = .returned (.int .i64 (if b < a then a else b)) ∧ w = w' := by
  by_cases h : b < a
  · rw [if_pos h]
    go_enter Tryz.func20, Tryz.ntmps20
    go_wp2_with fail
    go_ret
    exact ⟨rfl, rfl⟩
  · rw [if_neg h]
    go_enter Tryz.func20, Tryz.ntmps20
    go_wp2_with fail
    go_ret
    exact ⟨rfl, rfl⟩
theorem l1Max_any (a b : Int) (w : World) : Calls Tryz.prog 20 #[.int .i64 a, .int .i64 b] w fun e w' => ∃ n : Int, e = .returned (.int .i64 n) ∧ Below w.heap.size w w' :=
  (l1Max_if a b w).mono fun _ _ h => ⟨_, h.1, by rw [h.2]; exact Below.refl _ _⟩

set_option maxRecDepth 100000 in
set_option maxHeartbeats 4000000 in
theorem drawCk (a : Option Addr) (bs : List UInt8) (cap : Nat) (w : World) (hrow : Row w w.heap.size a (byteCells bs)) (hbs : bs.length ≤ 1048576) :
    Calls Tryz.prog 6 #[.slice a bs.length cap] w (CkDraw w) := by
  have HR := Lib.hid hrow
  clear hrow
  go_enter Tryz.func6, Tryz.ntmps6
  have B0 := Lib.hid (show Below w.heap.size w ((w.alloc (.cells #[.int .i64 0, .bool false, .int .u64 0, .int .u64 0, .slice none 0 0, .bool false, .int .u64 0, .int .u64 0, .slice none 0 0, .bool false] 29)).alloc (.cells #[.int .i64 0, .int .i64 0, .int .i64 0] 31)) from (((Below.refl _ w).alloc (by simp) _).alloc (by simp) _))
  have KR0 := Lib.hid (show Blk ((w.alloc (.cells #[.int .i64 0, .bool false, .int .u64 0, .int .u64 0, .slice none 0 0, .bool false, .int .u64 0, .int .u64 0, .slice none 0 0, .bool false] 29)).alloc (.cells #[.int .i64 0, .int .i64 0, .int .i64 0] 31)) (w.heap.size) [.int .i64 0, .bool false, .int .u64 0, .int .u64 0, .slice none 0 0, .bool false, .int .u64 0, .int .u64 0, .slice none 0 0, .bool false] from (Blk.new w [.int .i64 0, .bool false, .int .u64 0, .int .u64 0, .slice none 0 0, .bool false, .int .u64 0, .int .u64 0, .slice none 0 0, .bool false] 29).alloc (.cells #[.int .i64 0, .int .i64 0, .int .i64 0] 31))
  have s1 : (w.alloc (.cells #[.int .i64 0, .bool false, .int .u64 0, .int .u64 0, .slice none 0 0, .bool false, .int .u64 0, .int .u64 0, .slice none 0 0, .bool false] 29)).heap.size = w.heap.size + 1 := by simp
  have KQ0 := Lib.hid (show Blk ((w.alloc (.cells #[.int .i64 0, .bool false, .int .u64 0, .int .u64 0, .slice none 0 0, .bool false, .int .u64 0, .int .u64 0, .slice none 0 0, .bool false] 29)).alloc (.cells #[.int .i64 0, .int .i64 0, .int .i64 0] 31)) (w.heap.size + 1) [.int .i64 0, .int .i64 0, .int .i64 0] by have h0 := Blk.new (w.alloc (.cells #[.int .i64 0, .bool false, .int .u64 0, .int .u64 0, .slice none 0 0, .bool false, .int .u64 0, .int .u64 0, .slice none 0 0, .bool false] 29)) [.int .i64 0, .int .i64 0, .int .i64 0] 31; rwa [s1] at h0)
  have n_R_Q : w.heap.size ≠ w.heap.size + 1 := by omega
  clear s1
  go_wp2_with fail
  change Calls _ _ _ ((w.alloc (.cells #[.int .i64 0, .bool false, .int .u64 0, .int .u64 0, .slice none 0 0, .bool false, .int .u64 0, .int .u64 0, .slice none 0 0, .bool false] 29)).alloc (.cells #[.int .i64 0, .int .i64 0, .int .i64 0] 31)) _
  generalize (w.alloc (.cells #[.int .i64 0, .bool false, .int .u64 0, .int .u64 0, .slice none 0 0, .bool false, .int .u64 0, .int .u64 0, .slice none 0 0, .bool false] 29)).alloc (.cells #[.int .i64 0, .int .i64 0, .int .i64 0] 31) = v0 at B0 KR0 KQ0 ⊢
  generalize hh_Q : w.heap.size + 1 = g_Q at KQ0 n_R_Q ⊢
  generalize hh_R : w.heap.size = g_R at KR0 n_R_Q ⊢
  have l_R : w.heap.size ≤ g_R := by omega
  have l_Q : w.heap.size ≤ g_Q := by omega
  clear hh_R hh_Q
  refine (l1New_any a bs cap v0 ((HR.out.below B0.out).mono B0.out.size) hbs).mono ?_
  rintro r v1 ⟨g, rfl, hc, hb⟩
  have hlg : w.heap.size ≤ g := Nat.le_trans B0.out.size hc.1
  have c_R : g_R ≠ g := by have h1 := KR0.out.lt; have h2 := hc.1; omega
  have KR1 := Lib.hid (KR0.out.below hb)
  have c_Q : g_Q ≠ g := by have h1 := KQ0.out.lt; have h2 := hc.1; omega
  have KQ1 := Lib.hid (KQ0.out.below hb)
  have G1 := Lib.hid (below_any (row := some g) (B0.out.trans (hb.mono B0.out.size)))
  have C1 := Lib.hid hc
  clear hc hb B0 KR0 KQ0 HR
  generalize v0.heap.size = B at C1
  have hBg := C1.out.1
  obtain ⟨⟨cR0, cR1, cR2, cR3, cR4, cR5, cR6, cR7, cR8, cR9⟩, dR0, dR1, dR2, dR3, dR4, dR5, dR6, dR7, dR8, dR9⟩ := KR1.out.of10
  obtain ⟨⟨cQ0, cQ1, cQ2⟩, dQ0, dQ1, dQ2⟩ := KQ1.out.o3
  go_wp2_with fail
  clear cR0 cR1 cR2 cR3 cR4 cR5 cR6 cR7 cR8 cR9 dR0 dR1 dR2 dR3 dR4 dR5 dR6 dR7 dR8 dR9 cQ0 cQ1 cQ2 dQ0 dQ1 dQ2
  refine (l13Bent_any B g v1 C1.out).mono ?_
  rintro e v2 ⟨e, p, q, t, rfl, hx, hp, hq, hcu, hgr⟩
  have HX := Lib.hid hx
  clear hx
  have KR2 := Lib.hid (KR1.out.grown hgr c_R)
  have KQ2 := Lib.hid (KQ1.out.grown hgr c_Q)
  have Dp2 := Lib.hid (hp)
  have p_p_R : g_R < v1.heap.size ∨ v2.heap.size ≤ g_R := .inl KR1.out.lt
  have p_p_Q : g_Q < v1.heap.size ∨ v2.heap.size ≤ g_Q := .inl KQ1.out.lt
  have Dq2 := Lib.hid (hq)
  have p_q_R : g_R < v1.heap.size ∨ v2.heap.size ≤ g_R := .inl KR1.out.lt
  have p_q_Q : g_Q < v1.heap.size ∨ v2.heap.size ≤ g_Q := .inl KQ1.out.lt
  have G2 := Lib.hid (grown_tr G1.out hgr)
  have C2 := Lib.hid hcu
  clear hcu hgr KR1 KQ1 hp hq G1 C1
  have KR3 := Lib.hid (KR2.out.alloc (.cells #[.int .i64 e, .bool p.u, .int .u64 (n64 p.k), .int .u64 (n64 p.l), .slice p.a p.rs.length p.c, .bool q.u, .int .u64 (n64 q.k), .int .u64 (n64 q.l), .slice q.a q.rs.length q.c, .bool t] 29))
  have n_R_K : g_R ≠ v2.heap.size := by have h1 := KR2.out.lt; omega
  have KQ3 := Lib.hid (KQ2.out.alloc (.cells #[.int .i64 e, .bool p.u, .int .u64 (n64 p.k), .int .u64 (n64 p.l), .slice p.a p.rs.length p.c, .bool q.u, .int .u64 (n64 q.k), .int .u64 (n64 q.l), .slice q.a q.rs.length q.c, .bool t] 29))
  have n_Q_K : g_Q ≠ v2.heap.size := by have h1 := KQ2.out.lt; omega
  have Dp3 := Lib.hid (Dp2.out.alloc (.cells #[.int .i64 e, .bool p.u, .int .u64 (n64 p.k), .int .u64 (n64 p.l), .slice p.a p.rs.length p.c, .bool q.u, .int .u64 (n64 q.k), .int .u64 (n64 q.l), .slice q.a q.rs.length q.c, .bool t] 29))
  have Dq3 := Lib.hid (Dq2.out.alloc (.cells #[.int .i64 e, .bool p.u, .int .u64 (n64 p.k), .int .u64 (n64 p.l), .slice p.a p.rs.length p.c, .bool q.u, .int .u64 (n64 q.k), .int .u64 (n64 q.l), .slice q.a q.rs.length q.c, .bool t] 29))
  have KK3 := Lib.hid (Blk.new v2 [.int .i64 e, .bool p.u, .int .u64 (n64 p.k), .int .u64 (n64 p.l), .slice p.a p.rs.length p.c, .bool q.u, .int .u64 (n64 q.k), .int .u64 (n64 q.l), .slice q.a q.rs.length q.c, .bool t] 29)
  have G3 := Lib.hid (grown_new G2.out (.cells #[.int .i64 e, .bool p.u, .int .u64 (n64 p.k), .int .u64 (n64 p.l), .slice p.a p.rs.length p.c, .bool q.u, .int .u64 (n64 q.k), .int .u64 (n64 q.l), .slice q.a q.rs.length q.c, .bool t] 29))
  have C3 := Lib.hid (C2.out.new (.cells #[.int .i64 e, .bool p.u, .int .u64 (n64 p.k), .int .u64 (n64 p.l), .slice p.a p.rs.length p.c, .bool q.u, .int .u64 (n64 q.k), .int .u64 (n64 q.l), .slice q.a q.rs.length q.c, .bool t] 29))
  have l_K : w.heap.size ≤ v2.heap.size := G2.out.size
  have c_K : v2.heap.size ≠ g := Nat.ne_of_gt C2.out.lt
  have b_K : B ≤ v2.heap.size := by have h1 := C2.out.lt; omega
  clear KR2 KQ2 Dp2 Dq2 G2 C2
  obtain ⟨⟨cR0, cR1, cR2, cR3, cR4, cR5, cR6, cR7, cR8, cR9⟩, dR0, dR1, dR2, dR3, dR4, dR5, dR6, dR7, dR8, dR9⟩ := KR3.out.of10
  obtain ⟨⟨cQ0, cQ1, cQ2⟩, dQ0, dQ1, dQ2⟩ := KQ3.out.o3
  obtain ⟨⟨cK0, cK1, cK2, cK3, cK4, cK5, cK6, cK7, cK8, cK9⟩, dK0, dK1, dK2, dK3, dK4, dK5, dK6, dK7, dK8, dK9⟩ := KK3.out.of10
  go_wp2_with fail
  clear cR0 cR1 cR2 cR3 cR4 cR5 cR6 cR7 cR8 cR9 dR0 dR1 dR2 dR3 dR4 dR5 dR6 dR7 dR8 dR9 cQ0 cQ1 cQ2 dQ0 dQ1 dQ2 cK0 cK1 cK2 cK3 cK4 cK5 cK6 cK7 cK8 cK9 dK0 dK1 dK2 dK3 dK4 dK5 dK6 dK7 dK8 dK9
  generalize v2.alloc (.cells #[.int .i64 e, .bool p.u, .int .u64 (n64 p.k), .int .u64 (n64 p.l), .slice p.a p.rs.length p.c, .bool q.u, .int .u64 (n64 q.k), .int .u64 (n64 q.l), .slice q.a q.rs.length q.c, .bool t] 29) = v3 at KR3 KQ3 KK3 Dp3 Dq3 C3 G3 ⊢
  generalize hh : v2.heap.size = g_K at KK3 l_K c_K b_K n_R_K n_Q_K Dp3 Dq3 p_p_R p_p_Q p_q_R p_q_Q ⊢
  have p_p_K : g_K < v1.heap.size ∨ g_K ≤ g_K := .inr (Nat.le_refl _)
  have p_q_K : g_K < v1.heap.size ∨ g_K ≤ g_K := .inr (Nat.le_refl _)
  clear hh
  refine (l12Bent_any B g v3 C3.out).mono ?_
  rintro e v4 ⟨x, y, z, rfl, hx, hcu, hgr⟩
  clear hx
  have KR4 := Lib.hid (KR3.out.grown hgr c_R)
  have KQ4 := Lib.hid (KQ3.out.grown hgr c_Q)
  have KK4 := Lib.hid (KK3.out.grown hgr c_K)
  have Dp4 := Lib.hid (Dp3.out.grown hgr)
  have Dq4 := Lib.hid (Dq3.out.grown hgr)
  have G4 := Lib.hid (grown_tr G3.out hgr)
  have C4 := Lib.hid hcu
  clear hcu hgr KR3 KQ3 KK3 Dp3 Dq3 G3 C3
  have KR5 := Lib.hid (KR4.out.alloc (.cells #[.int .i64 x, .int .i64 y, .int .i64 z] 31))
  have n_R_T : g_R ≠ v4.heap.size := by have h1 := KR4.out.lt; omega
  have KQ5 := Lib.hid (KQ4.out.alloc (.cells #[.int .i64 x, .int .i64 y, .int .i64 z] 31))
  have n_Q_T : g_Q ≠ v4.heap.size := by have h1 := KQ4.out.lt; omega
  have KK5 := Lib.hid (KK4.out.alloc (.cells #[.int .i64 x, .int .i64 y, .int .i64 z] 31))
  have n_K_T : g_K ≠ v4.heap.size := by have h1 := KK4.out.lt; omega
  have Dp5 := Lib.hid (Dp4.out.alloc (.cells #[.int .i64 x, .int .i64 y, .int .i64 z] 31))
  have Dq5 := Lib.hid (Dq4.out.alloc (.cells #[.int .i64 x, .int .i64 y, .int .i64 z] 31))
  have KT5 := Lib.hid (Blk.new v4 [.int .i64 x, .int .i64 y, .int .i64 z] 31)
  have G5 := Lib.hid (grown_new G4.out (.cells #[.int .i64 x, .int .i64 y, .int .i64 z] 31))
  have C5 := Lib.hid (C4.out.new (.cells #[.int .i64 x, .int .i64 y, .int .i64 z] 31))
  have l_T : w.heap.size ≤ v4.heap.size := G4.out.size
  have c_T : v4.heap.size ≠ g := Nat.ne_of_gt C4.out.lt
  have b_T : B ≤ v4.heap.size := by have h1 := C4.out.lt; omega
  have p_p_T : v4.heap.size < v1.heap.size ∨ g_K ≤ v4.heap.size := .inr (Nat.le_of_lt KK4.out.lt)
  have p_q_T : v4.heap.size < v1.heap.size ∨ g_K ≤ v4.heap.size := .inr (Nat.le_of_lt KK4.out.lt)
  clear KR4 KQ4 KK4 Dp4 Dq4 G4 C4
  obtain ⟨⟨cR0, cR1, cR2, cR3, cR4, cR5, cR6, cR7, cR8, cR9⟩, dR0, dR1, dR2, dR3, dR4, dR5, dR6, dR7, dR8, dR9⟩ := KR5.out.of10
  obtain ⟨⟨cQ0, cQ1, cQ2⟩, dQ0, dQ1, dQ2⟩ := KQ5.out.o3
  obtain ⟨⟨cK0, cK1, cK2, cK3, cK4, cK5, cK6, cK7, cK8, cK9⟩, dK0, dK1, dK2, dK3, dK4, dK5, dK6, dK7, dK8, dK9⟩ := KK5.out.of10
  obtain ⟨⟨cT0, cT1, cT2⟩, dT0, dT1, dT2⟩ := KT5.out.o3
  go_wp2_with fail
  clear cR0 cR1 cR2 cR3 cR4 cR5 cR6 cR7 cR8 cR9 dR0 dR1 dR2 dR3 dR4 dR5 dR6 dR7 dR8 dR9 cQ0 cQ1 cQ2 dQ0 dQ1 dQ2 cK0 cK1 cK2 cK3 cK4 cK5 cK6 cK7 cK8 cK9 dK0 dK1 dK2 dK3 dK4 dK5 dK6 dK7 dK8 dK9 cT0 cT1 cT2 dT0 dT1 dT2
  generalize v4.alloc (.cells #[.int .i64 x, .int .i64 y, .int .i64 z] 31) = v5 at KR5 KQ5 KK5 KT5 Dp5 Dq5 C5 G5 ⊢
  generalize hh : v4.heap.size = g_T at KT5 l_T c_T b_T n_R_T n_Q_T n_K_T p_p_T p_q_T ⊢
  clear hh
  refine (l4Place_any B g v5 C5.out).mono ?_
  rintro e v6 ⟨s, rfl, hx, hcu, hgr⟩
  clear hx
  have KR6 := Lib.hid (KR5.out.grown hgr c_R)
  have KQ6 := Lib.hid (KQ5.out.grown hgr c_Q)
  have KK6 := Lib.hid (KK5.out.grown hgr c_K)
  have KT6 := Lib.hid (KT5.out.grown hgr c_T)
  have Dp6 := Lib.hid (Dp5.out.grown hgr)
  have Dq6 := Lib.hid (Dq5.out.grown hgr)
  have G6 := Lib.hid (grown_tr G5.out hgr)
  have C6 := Lib.hid hcu
  clear hcu hgr KR5 KQ5 KK5 KT5 Dp5 Dq5 G5 C5
  obtain ⟨⟨cR0, cR1, cR2, cR3, cR4, cR5, cR6, cR7, cR8, cR9⟩, dR0, dR1, dR2, dR3, dR4, dR5, dR6, dR7, dR8, dR9⟩ := KR6.out.of10
  obtain ⟨⟨cQ0, cQ1, cQ2⟩, dQ0, dQ1, dQ2⟩ := KQ6.out.o3
  obtain ⟨⟨cK0, cK1, cK2, cK3, cK4, cK5, cK6, cK7, cK8, cK9⟩, dK0, dK1, dK2, dK3, dK4, dK5, dK6, dK7, dK8, dK9⟩ := KK6.out.of10
  obtain ⟨⟨cT0, cT1, cT2⟩, dT0, dT1, dT2⟩ := KT6.out.o3
  go_upto_region 5 with fail
  clear cR0 cR1 cR2 cR3 cR4 cR5 cR6 cR7 cR8 cR9 dR0 dR1 dR2 dR3 dR4 dR5 dR6 dR7 dR8 dR9 cQ0 cQ1 cQ2 dQ0 dQ1 dQ2 cK0 cK1 cK2 cK3 cK4 cK5 cK6 cK7 cK8 cK9 dK0 dK1 dK2 dK3 dK4 dK5 dK6 dK7 dK8 dK9 cT0 cT1 cT2 dT0 dT1 dT2
  go_cut [10, 11] (fun s10 s11 wx => ∃ (g_N : Nat) (m : M) (ok : Bool) (lo hi : Nat), s10 = .pointer (some ⟨g_N, 0, none⟩) ∧ s11 = .bool ok ∧ Hid (Blk wx g_R [.int .i64 0, .bool false, .int .u64 0, .int .u64 0, .slice none 0 0, .bool false, .int .u64 0, .int .u64 0, .slice none 0 0, .bool false]) ∧ Hid (Blk wx g_Q [.int .i64 0, .int .i64 0, .int .i64 0]) ∧ Hid (Blk wx g_K [.int .i64 e, .bool p.u, .int .u64 (n64 p.k), .int .u64 (n64 p.l), .slice p.a p.rs.length p.c, .bool q.u, .int .u64 (n64 q.k), .int .u64 (n64 q.l), .slice q.a q.rs.length q.c, .bool t]) ∧ Hid (Blk wx g_T [.int .i64 x, .int .i64 y, .int .i64 z]) ∧ Hid (Blk wx g_N [.bool m.u, .int .u64 (n64 m.k), .int .u64 (n64 m.l), .slice m.a m.rs.length m.c]) ∧ Hid (DrawnM v1.heap.size g_K g p wx) ∧ Hid (DrawnM v1.heap.size g_K g q wx) ∧ Hid (DrawnM lo hi g m wx) ∧ Hid (CurB wx B g) ∧ Hid (w.grownBy wx (some g)) ∧ (w.heap.size ≤ g_N ∧ B ≤ g_N ∧ g_N ≠ g ∧ g_R ≠ g_N ∧ g_Q ≠ g_N ∧ g_K ≠ g_N ∧ g_T ≠ g_N) ∧ ((g_R < lo ∨ hi ≤ g_R) ∧ (g_Q < lo ∨ hi ≤ g_Q) ∧ (g_K < lo ∨ hi ≤ g_K) ∧ (g_T < lo ∨ hi ≤ g_T) ∧ (g_N < lo ∨ hi ≤ g_N)) ∧ (g_N < v1.heap.size ∨ g_K ≤ g_N))
  case first =>
    refine wp_region_noPanic ?_
    refine wp_region_held_drew (S := fun w' => Blk w' g_K [.int .i64 e, .bool p.u, .int .u64 (n64 p.k), .int .u64 (n64 p.l), .slice p.a p.rs.length p.c, .bool q.u, .int .u64 (n64 q.k), .int .u64 (n64 q.l), .slice q.a q.rs.length q.c, .bool t]) (by kernel_rfl) KK6.out (fun hS => ?_)
    have KR7 := Lib.hid (show Blk v6.drew g_R [.int .i64 0, .bool false, .int .u64 0, .int .u64 0, .slice none 0 0, .bool false, .int .u64 0, .int .u64 0, .slice none 0 0, .bool false] from KR6.out.drew)
    have KQ7 := Lib.hid (show Blk v6.drew g_Q [.int .i64 0, .int .i64 0, .int .i64 0] from KQ6.out.drew)
    have KK7 := Lib.hid (show Blk v6.drew g_K [.int .i64 e, .bool p.u, .int .u64 (n64 p.k), .int .u64 (n64 p.l), .slice p.a p.rs.length p.c, .bool q.u, .int .u64 (n64 q.k), .int .u64 (n64 q.l), .slice q.a q.rs.length q.c, .bool t] from KK6.out.drew)
    have KT7 := Lib.hid (show Blk v6.drew g_T [.int .i64 x, .int .i64 y, .int .i64 z] from KT6.out.drew)
    have Dp7 := Lib.hid (Dp6.out.below (Below.refl _ _).drew)
    have Dq7 := Lib.hid (Dq6.out.below (Below.refl _ _).drew)
    have C7 := Lib.hid (show CurB v6.drew _ g from C6.out.below (Below.refl _ _).drew)
    have G7 := Lib.hid (show w.grownBy v6.drew (some g) from grown_tr G6.out (below_any (Below.refl _ v6).drew))
    clear KR6 KQ6 KK6 KT6 Dp6 Dq6 C6 G6
    clear hS
    generalize v6.drew = v7 at KR7 KQ7 KK7 KT7 Dp7 Dq7 C7 G7 ⊢
    have hS : Blk v7 g_K [.int .i64 e, .bool p.u, .int .u64 (n64 p.k), .int .u64 (n64 p.l), .slice p.a p.rs.length p.c, .bool q.u, .int .u64 (n64 q.k), .int .u64 (n64 q.l), .slice q.a q.rs.length q.c, .bool t] := KK7.out
    refine wpAnyH_take (i := 1) (v := .pointer (some ⟨g_K, 0, none⟩)) rfl (by kernel_rfl) (by kernel_rfl) (by kernel_rfl) (fun _ _ _ h => h) (Or.inl ⟨rfl, by intro w hS; go_simp⟩) hS ?_
    refine wpAnyH_take (i := 3) (v := .pointer (some ⟨g, 0, none⟩)) rfl (by kernel_rfl) (by kernel_rfl) (by kernel_rfl) (fun _ _ _ h => h) (Or.inl ⟨rfl, by intro w hS; go_simp⟩) hS ?_
    refine wpAnyH_take (i := 0) (v := .agg #[.int .i64 e, .bool p.u, .int .u64 (n64 p.k), .int .u64 (n64 p.l), .slice p.a p.rs.length p.c, .bool q.u, .int .u64 (n64 q.k), .int .u64 (n64 q.l), .slice q.a q.rs.length q.c, .bool t]) rfl (by kernel_rfl) (by kernel_rfl) (by kernel_rfl) (fun _ _ _ h => h) (Or.inl ⟨rfl, by intro w hS; obtain ⟨⟨h0, h1, h2, h3, h4, h5, h6, h7, h8, h9⟩, _⟩ := hS.of10; go_simp⟩) hS ?_
    refine wpAnyH_take (i := 2) (v := .int .i64 e) rfl (by kernel_rfl) (by kernel_rfl) (by kernel_rfl) (fun _ _ _ h => h) (Or.inl ⟨rfl, by intro w hS; obtain ⟨⟨h0, h1, h2, h3, h4, h5, h6, h7, h8, h9⟩, _⟩ := hS.of10; go_simp⟩) hS ?_
    refine wpAnyH_ready (rs := [4, 10]) (by kernel_rfl) (by simp) ?_
    refine AllReadyH.cons (i := 4) rfl (fun K hK => ?zq1) (AllReadyH.cons (i := 10) rfl (fun K hK => ?zq2) AllReadyH.nil)
    · rw [if_pos (by rfl)]
      go_simp
      clear hS
      refine (l1Below_pos B g v7 C7.out 2 (by omega) (by omega)).mono ?_
      rintro e v8 ⟨r, rfl, hr, hcu, hgr⟩
      have KR8 := Lib.hid (KR7.out.grown hgr c_R)
      have KQ8 := Lib.hid (KQ7.out.grown hgr c_Q)
      have KK8 := Lib.hid (KK7.out.grown hgr c_K)
      have KT8 := Lib.hid (KT7.out.grown hgr c_T)
      have Dp8 := Lib.hid (Dp7.out.grown hgr)
      have Dq8 := Lib.hid (Dq7.out.grown hgr)
      have G8 := Lib.hid (grown_tr G7.out hgr)
      have C8 := Lib.hid hcu
      clear hcu hgr KR7 KQ7 KK7 KT7 Dp7 Dq7 G7 C7
      clear hr
      refine hK.out _ _ KK8.out (fun hS => ?_)
      clear hK K
      refine wpAnyH_take (i := 5) (v := .int .i64 (IntKind.i64.wrap (e - r))) rfl (by kernel_rfl) (by kernel_rfl) (by kernel_rfl) (fun _ _ _ h => h) (Or.inl ⟨rfl, by intro w hS; go_simp⟩) hS ?_
      refine wpAnyH_ready (rs := [6, 10]) (by kernel_rfl) (by simp) ?_
      refine AllReadyH.cons (i := 6) rfl (fun K hK => ?zq3) (AllReadyH.cons (i := 10) rfl (fun K hK => ?zq4) AllReadyH.nil)
      · rw [if_pos (by rfl)]
        go_simp
        clear hS
        have lo_ := G8.out.size
        refine (secDraw e (IntKind.i64.wrap (e - r)) p q t _ _ _ _ g v8 Dp8.out Dq8.out C8.out.lt).mono ?_
        rintro e v9 ⟨m, ok, rfl, hm, hb⟩
        have Dm9 := Lib.hid hm
        clear hm
        have p_m_R : g_R < v8.heap.size ∨ v9.heap.size ≤ g_R := .inl KR8.out.lt
        have p_m_Q : g_Q < v8.heap.size ∨ v9.heap.size ≤ g_Q := .inl KQ8.out.lt
        have p_m_K : g_K < v8.heap.size ∨ v9.heap.size ≤ g_K := .inl KK8.out.lt
        have p_m_T : g_T < v8.heap.size ∨ v9.heap.size ≤ g_T := .inl KT8.out.lt
        have KR9 := Lib.hid (KR8.out.below hb)
        have KQ9 := Lib.hid (KQ8.out.below hb)
        have KK9 := Lib.hid (KK8.out.below hb)
        have KT9 := Lib.hid (KT8.out.below hb)
        have Dp9 := Lib.hid (Dp8.out.below hb)
        have Dq9 := Lib.hid (Dq8.out.below hb)
        have G9 := Lib.hid (grown_tr G8.out (below_any hb))
        have C9 := Lib.hid (C8.out.below hb)
        clear hb KR8 KQ8 KK8 KT8 Dp8 Dq8 G8 C8
        refine hK.out _ _ KK9.out (fun hS => ?_)
        clear hK K
        refine wpAnyH_take (i := 7) (v := .tuple #[.agg #[.bool m.u, .int .u64 (n64 m.k), .int .u64 (n64 m.l), .slice m.a m.rs.length m.c], .bool ok]) rfl (by kernel_rfl) (by kernel_rfl) (by kernel_rfl) (fun _ _ _ h => h) (Or.inl ⟨rfl, by intro w hS; go_simp⟩) hS ?_
        refine wpAnyH_take (i := 8) (v := .agg #[.bool m.u, .int .u64 (n64 m.k), .int .u64 (n64 m.l), .slice m.a m.rs.length m.c]) rfl (by kernel_rfl) (by kernel_rfl) (by kernel_rfl) (fun _ _ _ h => h) (Or.inl ⟨rfl, by intro w hS; go_simp⟩) hS ?_
        refine wpAnyH_take (i := 9) (v := .bool ok) rfl (by kernel_rfl) (by kernel_rfl) (by kernel_rfl) (fun _ _ _ h => h) (Or.inl ⟨rfl, by intro w hS; go_simp⟩) hS ?_
        refine wpAnyH_ready (rs := [10]) (by kernel_rfl) (by simp) ?_
        refine AllReadyH.cons (i := 10) rfl (fun K hK => ?zq5) AllReadyH.nil
        rw [if_pos (by rfl)]
        go_simp
        clear hS
        have KR10 := Lib.hid (KR9.out.alloc (.cells #[.bool false, .int .u64 0, .int .u64 0, .slice none 0 0] 27))
        have n_R_N : g_R ≠ v9.heap.size := by have h1 := KR9.out.lt; omega
        have KQ10 := Lib.hid (KQ9.out.alloc (.cells #[.bool false, .int .u64 0, .int .u64 0, .slice none 0 0] 27))
        have n_Q_N : g_Q ≠ v9.heap.size := by have h1 := KQ9.out.lt; omega
        have KK10 := Lib.hid (KK9.out.alloc (.cells #[.bool false, .int .u64 0, .int .u64 0, .slice none 0 0] 27))
        have n_K_N : g_K ≠ v9.heap.size := by have h1 := KK9.out.lt; omega
        have KT10 := Lib.hid (KT9.out.alloc (.cells #[.bool false, .int .u64 0, .int .u64 0, .slice none 0 0] 27))
        have n_T_N : g_T ≠ v9.heap.size := by have h1 := KT9.out.lt; omega
        have Dp10 := Lib.hid (Dp9.out.alloc (.cells #[.bool false, .int .u64 0, .int .u64 0, .slice none 0 0] 27))
        have Dq10 := Lib.hid (Dq9.out.alloc (.cells #[.bool false, .int .u64 0, .int .u64 0, .slice none 0 0] 27))
        have Dm10 := Lib.hid (Dm9.out.alloc (.cells #[.bool false, .int .u64 0, .int .u64 0, .slice none 0 0] 27))
        have KN10 := Lib.hid (Blk.new v9 [.bool false, .int .u64 0, .int .u64 0, .slice none 0 0] 27)
        have G10 := Lib.hid (grown_new G9.out (.cells #[.bool false, .int .u64 0, .int .u64 0, .slice none 0 0] 27))
        have C10 := Lib.hid (C9.out.new (.cells #[.bool false, .int .u64 0, .int .u64 0, .slice none 0 0] 27))
        have l_N : w.heap.size ≤ v9.heap.size := G9.out.size
        have c_N : v9.heap.size ≠ g := Nat.ne_of_gt C9.out.lt
        have b_N := Nat.le_trans (show _ ≤ g from C9.out.1) (Nat.le_of_lt C9.out.lt)
        have p_p_N : v9.heap.size < v1.heap.size ∨ g_K ≤ v9.heap.size := .inr (Nat.le_of_lt KK9.out.lt)
        have p_q_N : v9.heap.size < v1.heap.size ∨ g_K ≤ v9.heap.size := .inr (Nat.le_of_lt KK9.out.lt)
        clear KR9 KQ9 KK9 KT9 Dp9 Dq9 Dm9 G9 C9
        refine hK.out _ _ KK10.out (fun hS => ?_)
        clear hK K
        generalize v9.alloc (.cells #[.bool false, .int .u64 0, .int .u64 0, .slice none 0 0] 27) = v10 at hS KR10 KQ10 KK10 KT10 KN10 Dp10 Dq10 Dm10 C10 G10 ⊢
        generalize hh : v9.heap.size = g_N at KN10 l_N c_N b_N n_R_N n_Q_N n_K_N n_T_N Dm10 p_m_R p_m_Q p_m_K p_m_T p_p_N p_q_N ⊢
        have p_m_N : g_N < v8.heap.size ∨ g_N ≤ g_N := .inr (Nat.le_refl _)
        clear hh
        obtain ⟨⟨cN0, cN1, cN2, cN3⟩, dN0, dN1, dN2, dN3⟩ := KN10.out.four
        refine wpAnyH_ready (rs := [11]) (by kernel_rfl) (by simp) ?_
        refine AllReadyH.cons (i := 11) rfl (fun K hK => ?zq6) AllReadyH.nil
        rw [if_pos (by rfl)]
        go_simp
        clear hS
        have KR11 := Lib.hid (show Blk ((((v10.setCell ⟨g_N, 0, none⟩ (.bool m.u)).setCell ⟨g_N, 1, none⟩ (.int .u64 (n64 m.k))).setCell ⟨g_N, 2, none⟩ (.int .u64 (n64 m.l))).setCell ⟨g_N, 3, none⟩ (.slice m.a m.rs.length m.c)) g_R [.int .i64 0, .bool false, .int .u64 0, .int .u64 0, .slice none 0 0, .bool false, .int .u64 0, .int .u64 0, .slice none 0 0, .bool false] from ((((KR10.out.setOther ⟨g_N, 0, none⟩ (.bool m.u) (n_R_N)).setOther ⟨g_N, 1, none⟩ (.int .u64 (n64 m.k)) (n_R_N)).setOther ⟨g_N, 2, none⟩ (.int .u64 (n64 m.l)) (n_R_N)).setOther ⟨g_N, 3, none⟩ (.slice m.a m.rs.length m.c) (n_R_N)))
        have KQ11 := Lib.hid (show Blk ((((v10.setCell ⟨g_N, 0, none⟩ (.bool m.u)).setCell ⟨g_N, 1, none⟩ (.int .u64 (n64 m.k))).setCell ⟨g_N, 2, none⟩ (.int .u64 (n64 m.l))).setCell ⟨g_N, 3, none⟩ (.slice m.a m.rs.length m.c)) g_Q [.int .i64 0, .int .i64 0, .int .i64 0] from ((((KQ10.out.setOther ⟨g_N, 0, none⟩ (.bool m.u) (n_Q_N)).setOther ⟨g_N, 1, none⟩ (.int .u64 (n64 m.k)) (n_Q_N)).setOther ⟨g_N, 2, none⟩ (.int .u64 (n64 m.l)) (n_Q_N)).setOther ⟨g_N, 3, none⟩ (.slice m.a m.rs.length m.c) (n_Q_N)))
        have KK11 := Lib.hid (show Blk ((((v10.setCell ⟨g_N, 0, none⟩ (.bool m.u)).setCell ⟨g_N, 1, none⟩ (.int .u64 (n64 m.k))).setCell ⟨g_N, 2, none⟩ (.int .u64 (n64 m.l))).setCell ⟨g_N, 3, none⟩ (.slice m.a m.rs.length m.c)) g_K [.int .i64 e, .bool p.u, .int .u64 (n64 p.k), .int .u64 (n64 p.l), .slice p.a p.rs.length p.c, .bool q.u, .int .u64 (n64 q.k), .int .u64 (n64 q.l), .slice q.a q.rs.length q.c, .bool t] from ((((KK10.out.setOther ⟨g_N, 0, none⟩ (.bool m.u) (n_K_N)).setOther ⟨g_N, 1, none⟩ (.int .u64 (n64 m.k)) (n_K_N)).setOther ⟨g_N, 2, none⟩ (.int .u64 (n64 m.l)) (n_K_N)).setOther ⟨g_N, 3, none⟩ (.slice m.a m.rs.length m.c) (n_K_N)))
        have KT11 := Lib.hid (show Blk ((((v10.setCell ⟨g_N, 0, none⟩ (.bool m.u)).setCell ⟨g_N, 1, none⟩ (.int .u64 (n64 m.k))).setCell ⟨g_N, 2, none⟩ (.int .u64 (n64 m.l))).setCell ⟨g_N, 3, none⟩ (.slice m.a m.rs.length m.c)) g_T [.int .i64 x, .int .i64 y, .int .i64 z] from ((((KT10.out.setOther ⟨g_N, 0, none⟩ (.bool m.u) (n_T_N)).setOther ⟨g_N, 1, none⟩ (.int .u64 (n64 m.k)) (n_T_N)).setOther ⟨g_N, 2, none⟩ (.int .u64 (n64 m.l)) (n_T_N)).setOther ⟨g_N, 3, none⟩ (.slice m.a m.rs.length m.c) (n_T_N)))
        have KN11 := Lib.hid (show Blk ((((v10.setCell ⟨g_N, 0, none⟩ (.bool m.u)).setCell ⟨g_N, 1, none⟩ (.int .u64 (n64 m.k))).setCell ⟨g_N, 2, none⟩ (.int .u64 (n64 m.l))).setCell ⟨g_N, 3, none⟩ (.slice m.a m.rs.length m.c)) g_N [.bool m.u, .int .u64 (n64 m.k), .int .u64 (n64 m.l), .slice m.a m.rs.length m.c] from ((((KN10.out.set 0 (.bool m.u)).set 1 (.int .u64 (n64 m.k))).set 2 (.int .u64 (n64 m.l))).set 3 (.slice m.a m.rs.length m.c)))
        have Dp11 := Lib.hid ((((Dp10.out.set 0 (.bool m.u) p_p_N).set 1 (.int .u64 (n64 m.k)) p_p_N).set 2 (.int .u64 (n64 m.l)) p_p_N).set 3 (.slice m.a m.rs.length m.c) p_p_N)
        have Dq11 := Lib.hid ((((Dq10.out.set 0 (.bool m.u) p_q_N).set 1 (.int .u64 (n64 m.k)) p_q_N).set 2 (.int .u64 (n64 m.l)) p_q_N).set 3 (.slice m.a m.rs.length m.c) p_q_N)
        have Dm11 := Lib.hid ((((Dm10.out.set 0 (.bool m.u) p_m_N).set 1 (.int .u64 (n64 m.k)) p_m_N).set 2 (.int .u64 (n64 m.l)) p_m_N).set 3 (.slice m.a m.rs.length m.c) p_m_N)
        have G11 := Lib.hid (grown_setNew (grown_setNew (grown_setNew (grown_setNew G10.out ⟨g_N, 0, none⟩ (.bool m.u) l_N) ⟨g_N, 1, none⟩ (.int .u64 (n64 m.k)) l_N) ⟨g_N, 2, none⟩ (.int .u64 (n64 m.l)) l_N) ⟨g_N, 3, none⟩ (.slice m.a m.rs.length m.c) l_N)
        have C11 := Lib.hid ((((C10.out.setOther ⟨g_N, 0, none⟩ (.bool m.u) b_N c_N).setOther ⟨g_N, 1, none⟩ (.int .u64 (n64 m.k)) b_N c_N).setOther ⟨g_N, 2, none⟩ (.int .u64 (n64 m.l)) b_N c_N).setOther ⟨g_N, 3, none⟩ (.slice m.a m.rs.length m.c) b_N c_N)
        refine hK.out _ _ KK11.out (fun hS => ?_)
        clear hK K
        clear KR10 KQ10 KK10 KT10 KN10 Dp10 Dq10 Dm10 C10 G10
        clear cN0 cN1 cN2 cN3 dN0 dN1 dN2 dN3
        generalize (((v10.setCell ⟨g_N, 0, none⟩ (.bool m.u)).setCell ⟨g_N, 1, none⟩ (.int .u64 (n64 m.k))).setCell ⟨g_N, 2, none⟩ (.int .u64 (n64 m.l))).setCell ⟨g_N, 3, none⟩ (.slice m.a m.rs.length m.c) = v11 at hS KR11 KQ11 KK11 KT11 KN11 Dp11 Dq11 Dm11 C11 G11 ⊢
        refine wpAnyH_take (i := 12) (v := .bool ok) rfl (by kernel_rfl) (by kernel_rfl) (by kernel_rfl) (fun _ _ _ h => h) (Or.inl ⟨rfl, by intro w hS; go_simp⟩) hS ?_
        refine wpAnyH_done (by kernel_rfl) ?_ _
        refine NoPanic.normal ?_
        go_wp2_with fail
        go_meet
        case rel => exact ⟨g_N, m, ok, _, _, rfl, rfl, KR11, KQ11, KK11, KT11, KN11, Dp11, Dq11, Dm11, C11, G11, ⟨l_N, b_N, c_N, n_R_N, n_Q_N, n_K_N, n_T_N⟩, ⟨p_m_R, p_m_Q, p_m_K, p_m_T, p_m_N⟩, p_p_N⟩
      · rw [if_pos (by rfl)]
        go_simp
        clear hS
        have KR9 := Lib.hid (KR8.out.alloc (.cells #[.bool false, .int .u64 0, .int .u64 0, .slice none 0 0] 27))
        have n_R_N : g_R ≠ v8.heap.size := by have h1 := KR8.out.lt; omega
        have KQ9 := Lib.hid (KQ8.out.alloc (.cells #[.bool false, .int .u64 0, .int .u64 0, .slice none 0 0] 27))
        have n_Q_N : g_Q ≠ v8.heap.size := by have h1 := KQ8.out.lt; omega
        have KK9 := Lib.hid (KK8.out.alloc (.cells #[.bool false, .int .u64 0, .int .u64 0, .slice none 0 0] 27))
        have n_K_N : g_K ≠ v8.heap.size := by have h1 := KK8.out.lt; omega
        have KT9 := Lib.hid (KT8.out.alloc (.cells #[.bool false, .int .u64 0, .int .u64 0, .slice none 0 0] 27))
        have n_T_N : g_T ≠ v8.heap.size := by have h1 := KT8.out.lt; omega
        have Dp9 := Lib.hid (Dp8.out.alloc (.cells #[.bool false, .int .u64 0, .int .u64 0, .slice none 0 0] 27))
        have Dq9 := Lib.hid (Dq8.out.alloc (.cells #[.bool false, .int .u64 0, .int .u64 0, .slice none 0 0] 27))
        have KN9 := Lib.hid (Blk.new v8 [.bool false, .int .u64 0, .int .u64 0, .slice none 0 0] 27)
        have G9 := Lib.hid (grown_new G8.out (.cells #[.bool false, .int .u64 0, .int .u64 0, .slice none 0 0] 27))
        have C9 := Lib.hid (C8.out.new (.cells #[.bool false, .int .u64 0, .int .u64 0, .slice none 0 0] 27))
        have l_N : w.heap.size ≤ v8.heap.size := G8.out.size
        have c_N : v8.heap.size ≠ g := Nat.ne_of_gt C8.out.lt
        have b_N := Nat.le_trans (show _ ≤ g from C8.out.1) (Nat.le_of_lt C8.out.lt)
        have p_p_N : v8.heap.size < v1.heap.size ∨ g_K ≤ v8.heap.size := .inr (Nat.le_of_lt KK8.out.lt)
        have p_q_N : v8.heap.size < v1.heap.size ∨ g_K ≤ v8.heap.size := .inr (Nat.le_of_lt KK8.out.lt)
        clear KR8 KQ8 KK8 KT8 Dp8 Dq8 G8 C8
        refine hK.out _ _ KK9.out (fun hS => ?_)
        clear hK K
        generalize v8.alloc (.cells #[.bool false, .int .u64 0, .int .u64 0, .slice none 0 0] 27) = v9 at hS KR9 KQ9 KK9 KT9 KN9 Dp9 Dq9 C9 G9 ⊢
        generalize hh : v8.heap.size = g_N at KN9 l_N c_N b_N n_R_N n_Q_N n_K_N n_T_N p_p_N p_q_N ⊢
        clear hh
        refine wpAnyH_ready (rs := [6]) (by kernel_rfl) (by simp) ?_
        refine AllReadyH.cons (i := 6) rfl (fun K hK => ?zq7) AllReadyH.nil
        rw [if_pos (by rfl)]
        go_simp
        clear hS
        have lo_ := G9.out.size
        refine (secDraw e (IntKind.i64.wrap (e - r)) p q t _ _ _ _ g v9 Dp9.out Dq9.out C9.out.lt).mono ?_
        rintro e v10 ⟨m, ok, rfl, hm, hb⟩
        have Dm10 := Lib.hid hm
        clear hm
        have p_m_R : g_R < v9.heap.size ∨ v10.heap.size ≤ g_R := .inl KR9.out.lt
        have p_m_Q : g_Q < v9.heap.size ∨ v10.heap.size ≤ g_Q := .inl KQ9.out.lt
        have p_m_K : g_K < v9.heap.size ∨ v10.heap.size ≤ g_K := .inl KK9.out.lt
        have p_m_T : g_T < v9.heap.size ∨ v10.heap.size ≤ g_T := .inl KT9.out.lt
        have p_m_N : g_N < v9.heap.size ∨ v10.heap.size ≤ g_N := .inl KN9.out.lt
        have KR10 := Lib.hid (KR9.out.below hb)
        have KQ10 := Lib.hid (KQ9.out.below hb)
        have KK10 := Lib.hid (KK9.out.below hb)
        have KT10 := Lib.hid (KT9.out.below hb)
        have KN10 := Lib.hid (KN9.out.below hb)
        have Dp10 := Lib.hid (Dp9.out.below hb)
        have Dq10 := Lib.hid (Dq9.out.below hb)
        have G10 := Lib.hid (grown_tr G9.out (below_any hb))
        have C10 := Lib.hid (C9.out.below hb)
        clear hb KR9 KQ9 KK9 KT9 KN9 Dp9 Dq9 G9 C9
        refine hK.out _ _ KK10.out (fun hS => ?_)
        clear hK K
        refine wpAnyH_take (i := 7) (v := .tuple #[.agg #[.bool m.u, .int .u64 (n64 m.k), .int .u64 (n64 m.l), .slice m.a m.rs.length m.c], .bool ok]) rfl (by kernel_rfl) (by kernel_rfl) (by kernel_rfl) (fun _ _ _ h => h) (Or.inl ⟨rfl, by intro w hS; go_simp⟩) hS ?_
        refine wpAnyH_take (i := 8) (v := .agg #[.bool m.u, .int .u64 (n64 m.k), .int .u64 (n64 m.l), .slice m.a m.rs.length m.c]) rfl (by kernel_rfl) (by kernel_rfl) (by kernel_rfl) (fun _ _ _ h => h) (Or.inl ⟨rfl, by intro w hS; go_simp⟩) hS ?_
        refine wpAnyH_take (i := 9) (v := .bool ok) rfl (by kernel_rfl) (by kernel_rfl) (by kernel_rfl) (fun _ _ _ h => h) (Or.inl ⟨rfl, by intro w hS; go_simp⟩) hS ?_
        obtain ⟨⟨cN0, cN1, cN2, cN3⟩, dN0, dN1, dN2, dN3⟩ := KN10.out.four
        refine wpAnyH_ready (rs := [11]) (by kernel_rfl) (by simp) ?_
        refine AllReadyH.cons (i := 11) rfl (fun K hK => ?zq8) AllReadyH.nil
        rw [if_pos (by rfl)]
        go_simp
        clear hS
        have KR11 := Lib.hid (show Blk ((((v10.setCell ⟨g_N, 0, none⟩ (.bool m.u)).setCell ⟨g_N, 1, none⟩ (.int .u64 (n64 m.k))).setCell ⟨g_N, 2, none⟩ (.int .u64 (n64 m.l))).setCell ⟨g_N, 3, none⟩ (.slice m.a m.rs.length m.c)) g_R [.int .i64 0, .bool false, .int .u64 0, .int .u64 0, .slice none 0 0, .bool false, .int .u64 0, .int .u64 0, .slice none 0 0, .bool false] from ((((KR10.out.setOther ⟨g_N, 0, none⟩ (.bool m.u) (n_R_N)).setOther ⟨g_N, 1, none⟩ (.int .u64 (n64 m.k)) (n_R_N)).setOther ⟨g_N, 2, none⟩ (.int .u64 (n64 m.l)) (n_R_N)).setOther ⟨g_N, 3, none⟩ (.slice m.a m.rs.length m.c) (n_R_N)))
        have KQ11 := Lib.hid (show Blk ((((v10.setCell ⟨g_N, 0, none⟩ (.bool m.u)).setCell ⟨g_N, 1, none⟩ (.int .u64 (n64 m.k))).setCell ⟨g_N, 2, none⟩ (.int .u64 (n64 m.l))).setCell ⟨g_N, 3, none⟩ (.slice m.a m.rs.length m.c)) g_Q [.int .i64 0, .int .i64 0, .int .i64 0] from ((((KQ10.out.setOther ⟨g_N, 0, none⟩ (.bool m.u) (n_Q_N)).setOther ⟨g_N, 1, none⟩ (.int .u64 (n64 m.k)) (n_Q_N)).setOther ⟨g_N, 2, none⟩ (.int .u64 (n64 m.l)) (n_Q_N)).setOther ⟨g_N, 3, none⟩ (.slice m.a m.rs.length m.c) (n_Q_N)))
        have KK11 := Lib.hid (show Blk ((((v10.setCell ⟨g_N, 0, none⟩ (.bool m.u)).setCell ⟨g_N, 1, none⟩ (.int .u64 (n64 m.k))).setCell ⟨g_N, 2, none⟩ (.int .u64 (n64 m.l))).setCell ⟨g_N, 3, none⟩ (.slice m.a m.rs.length m.c)) g_K [.int .i64 e, .bool p.u, .int .u64 (n64 p.k), .int .u64 (n64 p.l), .slice p.a p.rs.length p.c, .bool q.u, .int .u64 (n64 q.k), .int .u64 (n64 q.l), .slice q.a q.rs.length q.c, .bool t] from ((((KK10.out.setOther ⟨g_N, 0, none⟩ (.bool m.u) (n_K_N)).setOther ⟨g_N, 1, none⟩ (.int .u64 (n64 m.k)) (n_K_N)).setOther ⟨g_N, 2, none⟩ (.int .u64 (n64 m.l)) (n_K_N)).setOther ⟨g_N, 3, none⟩ (.slice m.a m.rs.length m.c) (n_K_N)))
        have KT11 := Lib.hid (show Blk ((((v10.setCell ⟨g_N, 0, none⟩ (.bool m.u)).setCell ⟨g_N, 1, none⟩ (.int .u64 (n64 m.k))).setCell ⟨g_N, 2, none⟩ (.int .u64 (n64 m.l))).setCell ⟨g_N, 3, none⟩ (.slice m.a m.rs.length m.c)) g_T [.int .i64 x, .int .i64 y, .int .i64 z] from ((((KT10.out.setOther ⟨g_N, 0, none⟩ (.bool m.u) (n_T_N)).setOther ⟨g_N, 1, none⟩ (.int .u64 (n64 m.k)) (n_T_N)).setOther ⟨g_N, 2, none⟩ (.int .u64 (n64 m.l)) (n_T_N)).setOther ⟨g_N, 3, none⟩ (.slice m.a m.rs.length m.c) (n_T_N)))
        have KN11 := Lib.hid (show Blk ((((v10.setCell ⟨g_N, 0, none⟩ (.bool m.u)).setCell ⟨g_N, 1, none⟩ (.int .u64 (n64 m.k))).setCell ⟨g_N, 2, none⟩ (.int .u64 (n64 m.l))).setCell ⟨g_N, 3, none⟩ (.slice m.a m.rs.length m.c)) g_N [.bool m.u, .int .u64 (n64 m.k), .int .u64 (n64 m.l), .slice m.a m.rs.length m.c] from ((((KN10.out.set 0 (.bool m.u)).set 1 (.int .u64 (n64 m.k))).set 2 (.int .u64 (n64 m.l))).set 3 (.slice m.a m.rs.length m.c)))
        have Dp11 := Lib.hid ((((Dp10.out.set 0 (.bool m.u) p_p_N).set 1 (.int .u64 (n64 m.k)) p_p_N).set 2 (.int .u64 (n64 m.l)) p_p_N).set 3 (.slice m.a m.rs.length m.c) p_p_N)
        have Dq11 := Lib.hid ((((Dq10.out.set 0 (.bool m.u) p_q_N).set 1 (.int .u64 (n64 m.k)) p_q_N).set 2 (.int .u64 (n64 m.l)) p_q_N).set 3 (.slice m.a m.rs.length m.c) p_q_N)
        have Dm11 := Lib.hid ((((Dm10.out.set 0 (.bool m.u) p_m_N).set 1 (.int .u64 (n64 m.k)) p_m_N).set 2 (.int .u64 (n64 m.l)) p_m_N).set 3 (.slice m.a m.rs.length m.c) p_m_N)
        have G11 := Lib.hid (grown_setNew (grown_setNew (grown_setNew (grown_setNew G10.out ⟨g_N, 0, none⟩ (.bool m.u) l_N) ⟨g_N, 1, none⟩ (.int .u64 (n64 m.k)) l_N) ⟨g_N, 2, none⟩ (.int .u64 (n64 m.l)) l_N) ⟨g_N, 3, none⟩ (.slice m.a m.rs.length m.c) l_N)
        have C11 := Lib.hid ((((C10.out.setOther ⟨g_N, 0, none⟩ (.bool m.u) b_N c_N).setOther ⟨g_N, 1, none⟩ (.int .u64 (n64 m.k)) b_N c_N).setOther ⟨g_N, 2, none⟩ (.int .u64 (n64 m.l)) b_N c_N).setOther ⟨g_N, 3, none⟩ (.slice m.a m.rs.length m.c) b_N c_N)
        refine hK.out _ _ KK11.out (fun hS => ?_)
        clear hK K
        clear KR10 KQ10 KK10 KT10 KN10 Dp10 Dq10 Dm10 C10 G10
        clear cN0 cN1 cN2 cN3 dN0 dN1 dN2 dN3
        generalize (((v10.setCell ⟨g_N, 0, none⟩ (.bool m.u)).setCell ⟨g_N, 1, none⟩ (.int .u64 (n64 m.k))).setCell ⟨g_N, 2, none⟩ (.int .u64 (n64 m.l))).setCell ⟨g_N, 3, none⟩ (.slice m.a m.rs.length m.c) = v11 at hS KR11 KQ11 KK11 KT11 KN11 Dp11 Dq11 Dm11 C11 G11 ⊢
        refine wpAnyH_take (i := 12) (v := .bool ok) rfl (by kernel_rfl) (by kernel_rfl) (by kernel_rfl) (fun _ _ _ h => h) (Or.inl ⟨rfl, by intro w hS; go_simp⟩) hS ?_
        refine wpAnyH_done (by kernel_rfl) ?_ _
        refine NoPanic.normal ?_
        go_wp2_with fail
        go_meet
        case rel => exact ⟨g_N, m, ok, _, _, rfl, rfl, KR11, KQ11, KK11, KT11, KN11, Dp11, Dq11, Dm11, C11, G11, ⟨l_N, b_N, c_N, n_R_N, n_Q_N, n_K_N, n_T_N⟩, ⟨p_m_R, p_m_Q, p_m_K, p_m_T, p_m_N⟩, p_p_N⟩
    · rw [if_pos (by rfl)]
      go_simp
      clear hS
      have KR8 := Lib.hid (KR7.out.alloc (.cells #[.bool false, .int .u64 0, .int .u64 0, .slice none 0 0] 27))
      have n_R_N : g_R ≠ v7.heap.size := by have h1 := KR7.out.lt; omega
      have KQ8 := Lib.hid (KQ7.out.alloc (.cells #[.bool false, .int .u64 0, .int .u64 0, .slice none 0 0] 27))
      have n_Q_N : g_Q ≠ v7.heap.size := by have h1 := KQ7.out.lt; omega
      have KK8 := Lib.hid (KK7.out.alloc (.cells #[.bool false, .int .u64 0, .int .u64 0, .slice none 0 0] 27))
      have n_K_N : g_K ≠ v7.heap.size := by have h1 := KK7.out.lt; omega
      have KT8 := Lib.hid (KT7.out.alloc (.cells #[.bool false, .int .u64 0, .int .u64 0, .slice none 0 0] 27))
      have n_T_N : g_T ≠ v7.heap.size := by have h1 := KT7.out.lt; omega
      have Dp8 := Lib.hid (Dp7.out.alloc (.cells #[.bool false, .int .u64 0, .int .u64 0, .slice none 0 0] 27))
      have Dq8 := Lib.hid (Dq7.out.alloc (.cells #[.bool false, .int .u64 0, .int .u64 0, .slice none 0 0] 27))
      have KN8 := Lib.hid (Blk.new v7 [.bool false, .int .u64 0, .int .u64 0, .slice none 0 0] 27)
      have G8 := Lib.hid (grown_new G7.out (.cells #[.bool false, .int .u64 0, .int .u64 0, .slice none 0 0] 27))
      have C8 := Lib.hid (C7.out.new (.cells #[.bool false, .int .u64 0, .int .u64 0, .slice none 0 0] 27))
      have l_N : w.heap.size ≤ v7.heap.size := G7.out.size
      have c_N : v7.heap.size ≠ g := Nat.ne_of_gt C7.out.lt
      have b_N := Nat.le_trans (show _ ≤ g from C7.out.1) (Nat.le_of_lt C7.out.lt)
      have p_p_N : v7.heap.size < v1.heap.size ∨ g_K ≤ v7.heap.size := .inr (Nat.le_of_lt KK7.out.lt)
      have p_q_N : v7.heap.size < v1.heap.size ∨ g_K ≤ v7.heap.size := .inr (Nat.le_of_lt KK7.out.lt)
      clear KR7 KQ7 KK7 KT7 Dp7 Dq7 G7 C7
      refine hK.out _ _ KK8.out (fun hS => ?_)
      clear hK K
      generalize v7.alloc (.cells #[.bool false, .int .u64 0, .int .u64 0, .slice none 0 0] 27) = v8 at hS KR8 KQ8 KK8 KT8 KN8 Dp8 Dq8 C8 G8 ⊢
      generalize hh : v7.heap.size = g_N at KN8 l_N c_N b_N n_R_N n_Q_N n_K_N n_T_N p_p_N p_q_N ⊢
      clear hh
      refine wpAnyH_ready (rs := [4]) (by kernel_rfl) (by simp) ?_
      refine AllReadyH.cons (i := 4) rfl (fun K hK => ?zq9) AllReadyH.nil
      rw [if_pos (by rfl)]
      go_simp
      clear hS
      refine (l1Below_pos B g v8 C8.out 2 (by omega) (by omega)).mono ?_
      rintro e v9 ⟨r, rfl, hr, hcu, hgr⟩
      have KR9 := Lib.hid (KR8.out.grown hgr c_R)
      have KQ9 := Lib.hid (KQ8.out.grown hgr c_Q)
      have KK9 := Lib.hid (KK8.out.grown hgr c_K)
      have KT9 := Lib.hid (KT8.out.grown hgr c_T)
      have KN9 := Lib.hid (KN8.out.grown hgr c_N)
      have Dp9 := Lib.hid (Dp8.out.grown hgr)
      have Dq9 := Lib.hid (Dq8.out.grown hgr)
      have G9 := Lib.hid (grown_tr G8.out hgr)
      have C9 := Lib.hid hcu
      clear hcu hgr KR8 KQ8 KK8 KT8 KN8 Dp8 Dq8 G8 C8
      clear hr
      refine hK.out _ _ KK9.out (fun hS => ?_)
      clear hK K
      refine wpAnyH_take (i := 5) (v := .int .i64 (IntKind.i64.wrap (e - r))) rfl (by kernel_rfl) (by kernel_rfl) (by kernel_rfl) (fun _ _ _ h => h) (Or.inl ⟨rfl, by intro w hS; go_simp⟩) hS ?_
      refine wpAnyH_ready (rs := [6]) (by kernel_rfl) (by simp) ?_
      refine AllReadyH.cons (i := 6) rfl (fun K hK => ?zq10) AllReadyH.nil
      rw [if_pos (by rfl)]
      go_simp
      clear hS
      have lo_ := G9.out.size
      refine (secDraw e (IntKind.i64.wrap (e - r)) p q t _ _ _ _ g v9 Dp9.out Dq9.out C9.out.lt).mono ?_
      rintro e v10 ⟨m, ok, rfl, hm, hb⟩
      have Dm10 := Lib.hid hm
      clear hm
      have p_m_R : g_R < v9.heap.size ∨ v10.heap.size ≤ g_R := .inl KR9.out.lt
      have p_m_Q : g_Q < v9.heap.size ∨ v10.heap.size ≤ g_Q := .inl KQ9.out.lt
      have p_m_K : g_K < v9.heap.size ∨ v10.heap.size ≤ g_K := .inl KK9.out.lt
      have p_m_T : g_T < v9.heap.size ∨ v10.heap.size ≤ g_T := .inl KT9.out.lt
      have p_m_N : g_N < v9.heap.size ∨ v10.heap.size ≤ g_N := .inl KN9.out.lt
      have KR10 := Lib.hid (KR9.out.below hb)
      have KQ10 := Lib.hid (KQ9.out.below hb)
      have KK10 := Lib.hid (KK9.out.below hb)
      have KT10 := Lib.hid (KT9.out.below hb)
      have KN10 := Lib.hid (KN9.out.below hb)
      have Dp10 := Lib.hid (Dp9.out.below hb)
      have Dq10 := Lib.hid (Dq9.out.below hb)
      have G10 := Lib.hid (grown_tr G9.out (below_any hb))
      have C10 := Lib.hid (C9.out.below hb)
      clear hb KR9 KQ9 KK9 KT9 KN9 Dp9 Dq9 G9 C9
      refine hK.out _ _ KK10.out (fun hS => ?_)
      clear hK K
      refine wpAnyH_take (i := 7) (v := .tuple #[.agg #[.bool m.u, .int .u64 (n64 m.k), .int .u64 (n64 m.l), .slice m.a m.rs.length m.c], .bool ok]) rfl (by kernel_rfl) (by kernel_rfl) (by kernel_rfl) (fun _ _ _ h => h) (Or.inl ⟨rfl, by intro w hS; go_simp⟩) hS ?_
      refine wpAnyH_take (i := 8) (v := .agg #[.bool m.u, .int .u64 (n64 m.k), .int .u64 (n64 m.l), .slice m.a m.rs.length m.c]) rfl (by kernel_rfl) (by kernel_rfl) (by kernel_rfl) (fun _ _ _ h => h) (Or.inl ⟨rfl, by intro w hS; go_simp⟩) hS ?_
      refine wpAnyH_take (i := 9) (v := .bool ok) rfl (by kernel_rfl) (by kernel_rfl) (by kernel_rfl) (fun _ _ _ h => h) (Or.inl ⟨rfl, by intro w hS; go_simp⟩) hS ?_
      obtain ⟨⟨cN0, cN1, cN2, cN3⟩, dN0, dN1, dN2, dN3⟩ := KN10.out.four
      refine wpAnyH_ready (rs := [11]) (by kernel_rfl) (by simp) ?_
      refine AllReadyH.cons (i := 11) rfl (fun K hK => ?zq11) AllReadyH.nil
      rw [if_pos (by rfl)]
      go_simp
      clear hS
      have KR11 := Lib.hid (show Blk ((((v10.setCell ⟨g_N, 0, none⟩ (.bool m.u)).setCell ⟨g_N, 1, none⟩ (.int .u64 (n64 m.k))).setCell ⟨g_N, 2, none⟩ (.int .u64 (n64 m.l))).setCell ⟨g_N, 3, none⟩ (.slice m.a m.rs.length m.c)) g_R [.int .i64 0, .bool false, .int .u64 0, .int .u64 0, .slice none 0 0, .bool false, .int .u64 0, .int .u64 0, .slice none 0 0, .bool false] from ((((KR10.out.setOther ⟨g_N, 0, none⟩ (.bool m.u) (n_R_N)).setOther ⟨g_N, 1, none⟩ (.int .u64 (n64 m.k)) (n_R_N)).setOther ⟨g_N, 2, none⟩ (.int .u64 (n64 m.l)) (n_R_N)).setOther ⟨g_N, 3, none⟩ (.slice m.a m.rs.length m.c) (n_R_N)))
      have KQ11 := Lib.hid (show Blk ((((v10.setCell ⟨g_N, 0, none⟩ (.bool m.u)).setCell ⟨g_N, 1, none⟩ (.int .u64 (n64 m.k))).setCell ⟨g_N, 2, none⟩ (.int .u64 (n64 m.l))).setCell ⟨g_N, 3, none⟩ (.slice m.a m.rs.length m.c)) g_Q [.int .i64 0, .int .i64 0, .int .i64 0] from ((((KQ10.out.setOther ⟨g_N, 0, none⟩ (.bool m.u) (n_Q_N)).setOther ⟨g_N, 1, none⟩ (.int .u64 (n64 m.k)) (n_Q_N)).setOther ⟨g_N, 2, none⟩ (.int .u64 (n64 m.l)) (n_Q_N)).setOther ⟨g_N, 3, none⟩ (.slice m.a m.rs.length m.c) (n_Q_N)))
      have KK11 := Lib.hid (show Blk ((((v10.setCell ⟨g_N, 0, none⟩ (.bool m.u)).setCell ⟨g_N, 1, none⟩ (.int .u64 (n64 m.k))).setCell ⟨g_N, 2, none⟩ (.int .u64 (n64 m.l))).setCell ⟨g_N, 3, none⟩ (.slice m.a m.rs.length m.c)) g_K [.int .i64 e, .bool p.u, .int .u64 (n64 p.k), .int .u64 (n64 p.l), .slice p.a p.rs.length p.c, .bool q.u, .int .u64 (n64 q.k), .int .u64 (n64 q.l), .slice q.a q.rs.length q.c, .bool t] from ((((KK10.out.setOther ⟨g_N, 0, none⟩ (.bool m.u) (n_K_N)).setOther ⟨g_N, 1, none⟩ (.int .u64 (n64 m.k)) (n_K_N)).setOther ⟨g_N, 2, none⟩ (.int .u64 (n64 m.l)) (n_K_N)).setOther ⟨g_N, 3, none⟩ (.slice m.a m.rs.length m.c) (n_K_N)))
      have KT11 := Lib.hid (show Blk ((((v10.setCell ⟨g_N, 0, none⟩ (.bool m.u)).setCell ⟨g_N, 1, none⟩ (.int .u64 (n64 m.k))).setCell ⟨g_N, 2, none⟩ (.int .u64 (n64 m.l))).setCell ⟨g_N, 3, none⟩ (.slice m.a m.rs.length m.c)) g_T [.int .i64 x, .int .i64 y, .int .i64 z] from ((((KT10.out.setOther ⟨g_N, 0, none⟩ (.bool m.u) (n_T_N)).setOther ⟨g_N, 1, none⟩ (.int .u64 (n64 m.k)) (n_T_N)).setOther ⟨g_N, 2, none⟩ (.int .u64 (n64 m.l)) (n_T_N)).setOther ⟨g_N, 3, none⟩ (.slice m.a m.rs.length m.c) (n_T_N)))
      have KN11 := Lib.hid (show Blk ((((v10.setCell ⟨g_N, 0, none⟩ (.bool m.u)).setCell ⟨g_N, 1, none⟩ (.int .u64 (n64 m.k))).setCell ⟨g_N, 2, none⟩ (.int .u64 (n64 m.l))).setCell ⟨g_N, 3, none⟩ (.slice m.a m.rs.length m.c)) g_N [.bool m.u, .int .u64 (n64 m.k), .int .u64 (n64 m.l), .slice m.a m.rs.length m.c] from ((((KN10.out.set 0 (.bool m.u)).set 1 (.int .u64 (n64 m.k))).set 2 (.int .u64 (n64 m.l))).set 3 (.slice m.a m.rs.length m.c)))
      have Dp11 := Lib.hid ((((Dp10.out.set 0 (.bool m.u) p_p_N).set 1 (.int .u64 (n64 m.k)) p_p_N).set 2 (.int .u64 (n64 m.l)) p_p_N).set 3 (.slice m.a m.rs.length m.c) p_p_N)
      have Dq11 := Lib.hid ((((Dq10.out.set 0 (.bool m.u) p_q_N).set 1 (.int .u64 (n64 m.k)) p_q_N).set 2 (.int .u64 (n64 m.l)) p_q_N).set 3 (.slice m.a m.rs.length m.c) p_q_N)
      have Dm11 := Lib.hid ((((Dm10.out.set 0 (.bool m.u) p_m_N).set 1 (.int .u64 (n64 m.k)) p_m_N).set 2 (.int .u64 (n64 m.l)) p_m_N).set 3 (.slice m.a m.rs.length m.c) p_m_N)
      have G11 := Lib.hid (grown_setNew (grown_setNew (grown_setNew (grown_setNew G10.out ⟨g_N, 0, none⟩ (.bool m.u) l_N) ⟨g_N, 1, none⟩ (.int .u64 (n64 m.k)) l_N) ⟨g_N, 2, none⟩ (.int .u64 (n64 m.l)) l_N) ⟨g_N, 3, none⟩ (.slice m.a m.rs.length m.c) l_N)
      have C11 := Lib.hid ((((C10.out.setOther ⟨g_N, 0, none⟩ (.bool m.u) b_N c_N).setOther ⟨g_N, 1, none⟩ (.int .u64 (n64 m.k)) b_N c_N).setOther ⟨g_N, 2, none⟩ (.int .u64 (n64 m.l)) b_N c_N).setOther ⟨g_N, 3, none⟩ (.slice m.a m.rs.length m.c) b_N c_N)
      refine hK.out _ _ KK11.out (fun hS => ?_)
      clear hK K
      clear KR10 KQ10 KK10 KT10 KN10 Dp10 Dq10 Dm10 C10 G10
      clear cN0 cN1 cN2 cN3 dN0 dN1 dN2 dN3
      generalize (((v10.setCell ⟨g_N, 0, none⟩ (.bool m.u)).setCell ⟨g_N, 1, none⟩ (.int .u64 (n64 m.k))).setCell ⟨g_N, 2, none⟩ (.int .u64 (n64 m.l))).setCell ⟨g_N, 3, none⟩ (.slice m.a m.rs.length m.c) = v11 at hS KR11 KQ11 KK11 KT11 KN11 Dp11 Dq11 Dm11 C11 G11 ⊢
      refine wpAnyH_take (i := 12) (v := .bool ok) rfl (by kernel_rfl) (by kernel_rfl) (by kernel_rfl) (fun _ _ _ h => h) (Or.inl ⟨rfl, by intro w hS; go_simp⟩) hS ?_
      refine wpAnyH_done (by kernel_rfl) ?_ _
      refine NoPanic.normal ?_
      go_wp2_with fail
      go_meet
      case rel => exact ⟨g_N, m, ok, _, _, rfl, rfl, KR11, KQ11, KK11, KT11, KN11, Dp11, Dq11, Dm11, C11, G11, ⟨l_N, b_N, c_N, n_R_N, n_Q_N, n_K_N, n_T_N⟩, ⟨p_m_R, p_m_Q, p_m_K, p_m_T, p_m_N⟩, p_p_N⟩
  case rest =>
    clear KR6 KQ6 KK6 KT6 Dp6 Dq6 C6 G6
    obtain ⟨g_N, m, ok, lo, hi, rfl, rfl, KR30, KQ30, KK30, KT30, KN30, Dp30, Dq30, Dm30, C30, G30, ⟨l_N, b_N, c_N, n_R_N, n_Q_N, n_K_N, n_T_N⟩, ⟨p_m_R, p_m_Q, p_m_K, p_m_T, p_m_N⟩, p_p_N⟩ := hcut
    go_upto_region 6 with fail
    refine wp_region_noPanic ?_
    refine wp_region_held_drew (S := fun w' => Blk w' g_K [.int .i64 e, .bool p.u, .int .u64 (n64 p.k), .int .u64 (n64 p.l), .slice p.a p.rs.length p.c, .bool q.u, .int .u64 (n64 q.k), .int .u64 (n64 q.l), .slice q.a q.rs.length q.c, .bool t] ∧ Blk w' g_T [.int .i64 x, .int .i64 y, .int .i64 z] ∧ Blk w' g_N [.bool m.u, .int .u64 (n64 m.k), .int .u64 (n64 m.l), .slice m.a m.rs.length m.c]) (by kernel_rfl) ⟨KK30.out, KT30.out, KN30.out⟩ (fun hS => ?_)
    have KR31 := Lib.hid (show Blk wc.drew g_R [.int .i64 0, .bool false, .int .u64 0, .int .u64 0, .slice none 0 0, .bool false, .int .u64 0, .int .u64 0, .slice none 0 0, .bool false] from KR30.out.drew)
    have KQ31 := Lib.hid (show Blk wc.drew g_Q [.int .i64 0, .int .i64 0, .int .i64 0] from KQ30.out.drew)
    have KK31 := Lib.hid (show Blk wc.drew g_K [.int .i64 e, .bool p.u, .int .u64 (n64 p.k), .int .u64 (n64 p.l), .slice p.a p.rs.length p.c, .bool q.u, .int .u64 (n64 q.k), .int .u64 (n64 q.l), .slice q.a q.rs.length q.c, .bool t] from KK30.out.drew)
    have KT31 := Lib.hid (show Blk wc.drew g_T [.int .i64 x, .int .i64 y, .int .i64 z] from KT30.out.drew)
    have KN31 := Lib.hid (show Blk wc.drew g_N [.bool m.u, .int .u64 (n64 m.k), .int .u64 (n64 m.l), .slice m.a m.rs.length m.c] from KN30.out.drew)
    have Dp31 := Lib.hid (Dp30.out.below (Below.refl _ _).drew)
    have Dq31 := Lib.hid (Dq30.out.below (Below.refl _ _).drew)
    have Dm31 := Lib.hid (Dm30.out.below (Below.refl _ _).drew)
    have C31 := Lib.hid (show CurB wc.drew _ g from C30.out.below (Below.refl _ _).drew)
    have G31 := Lib.hid (show w.grownBy wc.drew (some g) from grown_tr G30.out (below_any (Below.refl _ wc).drew))
    clear KR30 KQ30 KK30 KT30 KN30 Dp30 Dq30 Dm30 C30 G30
    clear hS
    generalize wc.drew = v31 at KR31 KQ31 KK31 KT31 KN31 Dp31 Dq31 Dm31 C31 G31 ⊢
    have hS : Blk v31 g_K [.int .i64 e, .bool p.u, .int .u64 (n64 p.k), .int .u64 (n64 p.l), .slice p.a p.rs.length p.c, .bool q.u, .int .u64 (n64 q.k), .int .u64 (n64 q.l), .slice q.a q.rs.length q.c, .bool t] ∧ Blk v31 g_T [.int .i64 x, .int .i64 y, .int .i64 z] ∧ Blk v31 g_N [.bool m.u, .int .u64 (n64 m.k), .int .u64 (n64 m.l), .slice m.a m.rs.length m.c] := ⟨KK31.out, KT31.out, KN31.out⟩
    refine wpAnyH_take (i := 2) (v := .int .i64 s) rfl (by kernel_rfl) (by kernel_rfl) (by kernel_rfl) (fun _ _ _ h => h) (Or.inl ⟨rfl, by intro w hS; go_simp⟩) hS ?_
    refine wpAnyH_take (i := 3) (v := .pointer (some ⟨g_K, 0, none⟩)) rfl (by kernel_rfl) (by kernel_rfl) (by kernel_rfl) (fun _ _ _ h => h) (Or.inl ⟨rfl, by intro w hS; go_simp⟩) hS ?_
    refine wpAnyH_take (i := 5) (v := .pointer (some ⟨g, 0, none⟩)) rfl (by kernel_rfl) (by kernel_rfl) (by kernel_rfl) (fun _ _ _ h => h) (Or.inl ⟨rfl, by intro w hS; go_simp⟩) hS ?_
    refine wpAnyH_take (i := 9) (v := .pointer (some ⟨g, 0, none⟩)) rfl (by kernel_rfl) (by kernel_rfl) (by kernel_rfl) (fun _ _ _ h => h) (Or.inl ⟨rfl, by intro w hS; go_simp⟩) hS ?_
    refine wpAnyH_take (i := 0) (v := .agg #[.bool m.u, .int .u64 (n64 m.k), .int .u64 (n64 m.l), .slice m.a m.rs.length m.c]) rfl (by kernel_rfl) (by kernel_rfl) (by kernel_rfl) (fun _ _ _ h => h) (Or.inl ⟨rfl, by intro w hS; obtain ⟨⟨h0, h1, h2, h3⟩, _⟩ := hS.2.2.four; go_simp⟩) hS ?_
    refine wpAnyH_take (i := 1) (v := .agg #[.int .i64 x, .int .i64 y, .int .i64 z]) rfl (by kernel_rfl) (by kernel_rfl) (by kernel_rfl) (fun _ _ _ h => h) (Or.inl ⟨rfl, by intro w hS; obtain ⟨⟨h0, h1, h2⟩, _⟩ := hS.2.1.o3; go_simp⟩) hS ?_
    refine wpAnyH_take (i := 4) (v := .int .i64 e) rfl (by kernel_rfl) (by kernel_rfl) (by kernel_rfl) (fun _ _ _ h => h) (Or.inl ⟨rfl, by intro w hS; obtain ⟨⟨h0, h1, h2, h3, h4, h5, h6, h7, h8, h9⟩, _⟩ := hS.1.of10; go_simp⟩) hS ?_
    refine wpAnyH_ready (rs := [6]) (by kernel_rfl) (by simp) ?_
    refine AllReadyH.cons (i := 6) rfl (fun K hK => ?zq12) AllReadyH.nil
    rw [if_pos (by rfl)]
    go_simp
    clear hS
    refine (l1Below_pos B g v31 C31.out 3 (by omega) (by omega)).mono ?_
    rintro e v32 ⟨r3, rfl, hr, hcu, hgr⟩
    have KR32 := Lib.hid (KR31.out.grown hgr c_R)
    have KQ32 := Lib.hid (KQ31.out.grown hgr c_Q)
    have KK32 := Lib.hid (KK31.out.grown hgr c_K)
    have KT32 := Lib.hid (KT31.out.grown hgr c_T)
    have KN32 := Lib.hid (KN31.out.grown hgr c_N)
    have Dp32 := Lib.hid (Dp31.out.grown hgr)
    have Dq32 := Lib.hid (Dq31.out.grown hgr)
    have Dm32 := Lib.hid (Dm31.out.grown hgr)
    have G32 := Lib.hid (grown_tr G31.out hgr)
    have C32 := Lib.hid hcu
    clear hcu hgr KR31 KQ31 KK31 KT31 KN31 Dp31 Dq31 Dm31 G31 C31
    clear hr
    refine hK.out _ _ ⟨KK32.out, KT32.out, KN32.out⟩ (fun hS => ?_)
    clear hK K
    refine wpAnyH_take (i := 7) (v := .int .i64 (IntKind.i64.wrap (e - r3))) rfl (by kernel_rfl) (by kernel_rfl) (by kernel_rfl) (fun _ _ _ h => h) (Or.inl ⟨rfl, by intro w hS; go_simp⟩) hS ?_
    refine wpAnyH_ready (rs := [8]) (by kernel_rfl) (by simp) ?_
    refine AllReadyH.cons (i := 8) rfl (fun K hK => ?zq13) AllReadyH.nil
    rw [if_pos (by rfl)]
    go_simp
    clear hS
    refine (l1Max_any 0 (IntKind.i64.wrap (e - r3)) _).mono ?_
    rintro e v33 ⟨n, rfl, hb⟩
    have KR33 := Lib.hid (KR32.out.below hb)
    have KQ33 := Lib.hid (KQ32.out.below hb)
    have KK33 := Lib.hid (KK32.out.below hb)
    have KT33 := Lib.hid (KT32.out.below hb)
    have KN33 := Lib.hid (KN32.out.below hb)
    have Dp33 := Lib.hid (Dp32.out.below hb)
    have Dq33 := Lib.hid (Dq32.out.below hb)
    have Dm33 := Lib.hid (Dm32.out.below hb)
    have G33 := Lib.hid (grown_tr G32.out (below_any hb))
    have C33 := Lib.hid (C32.out.below hb)
    clear hb KR32 KQ32 KK32 KT32 KN32 Dp32 Dq32 Dm32 G32 C32
    refine hK.out _ _ ⟨KK33.out, KT33.out, KN33.out⟩ (fun hS => ?_)
    clear hK K
    refine wpAnyH_ready (rs := [10]) (by kernel_rfl) (by simp) ?_
    refine AllReadyH.cons (i := 10) rfl (fun K hK => ?zq14) AllReadyH.nil
    rw [if_pos (by rfl)]
    go_simp
    clear hS
    refine (l1Below_pos B g v33 C33.out 8 (by omega) (by omega)).mono ?_
    rintro e v34 ⟨r8, rfl, hr, hcu, hgr⟩
    have KR34 := Lib.hid (KR33.out.grown hgr c_R)
    have KQ34 := Lib.hid (KQ33.out.grown hgr c_Q)
    have KK34 := Lib.hid (KK33.out.grown hgr c_K)
    have KT34 := Lib.hid (KT33.out.grown hgr c_T)
    have KN34 := Lib.hid (KN33.out.grown hgr c_N)
    have Dp34 := Lib.hid (Dp33.out.grown hgr)
    have Dq34 := Lib.hid (Dq33.out.grown hgr)
    have Dm34 := Lib.hid (Dm33.out.grown hgr)
    have G34 := Lib.hid (grown_tr G33.out hgr)
    have C34 := Lib.hid hcu
    clear hcu hgr KR33 KQ33 KK33 KT33 KN33 Dp33 Dq33 Dm33 G33 C33
    clear hr
    refine hK.out _ _ ⟨KK34.out, KT34.out, KN34.out⟩ (fun hS => ?_)
    clear hK K
    refine wpAnyH_ready (rs := [11]) (by kernel_rfl) (by simp) ?_
    refine AllReadyH.cons (i := 11) rfl (fun K hK => ?zq15) AllReadyH.nil
    rw [if_pos (by rfl)]
    go_simp
    clear hS
    refine (cookieOfS m x y z s n r8 _ Dm34.out.on Dm34.out.fit).mono ?_
    rintro e v35 ⟨rfl, hb⟩
    have KR35 := Lib.hid (KR34.out.below hb)
    have KQ35 := Lib.hid (KQ34.out.below hb)
    have KK35 := Lib.hid (KK34.out.below hb)
    have KT35 := Lib.hid (KT34.out.below hb)
    have KN35 := Lib.hid (KN34.out.below hb)
    have Dp35 := Lib.hid (Dp34.out.below hb)
    have Dq35 := Lib.hid (Dq34.out.below hb)
    have Dm35 := Lib.hid (Dm34.out.below hb)
    have G35 := Lib.hid (grown_tr G34.out (below_any hb))
    have C35 := Lib.hid (C34.out.below hb)
    clear hb KR34 KQ34 KK34 KT34 KN34 Dp34 Dq34 Dm34 G34 C34
    refine hK.out _ _ ⟨KK35.out, KT35.out, KN35.out⟩ (fun hS => ?_)
    clear hK K
    refine wpAnyH_take (i := 12) (v := .int .i64 (cookieOf m x y z s n r8)) rfl (by kernel_rfl) (by kernel_rfl) (by kernel_rfl) (fun _ _ _ h => h) (Or.inl ⟨rfl, by intro w hS; go_simp⟩) hS ?_
    refine wpAnyH_done (by kernel_rfl) ?_ _
    refine NoPanic.normal ?_
    generalize cookieOf m x y z s n r8 = c1
    obtain ⟨⟨cR0, cR1, cR2, cR3, cR4, cR5, cR6, cR7, cR8, cR9⟩, dR0, dR1, dR2, dR3, dR4, dR5, dR6, dR7, dR8, dR9⟩ := KR35.out.of10
    obtain ⟨⟨cQ0, cQ1, cQ2⟩, dQ0, dQ1, dQ2⟩ := KQ35.out.o3
    obtain ⟨⟨cK0, cK1, cK2, cK3, cK4, cK5, cK6, cK7, cK8, cK9⟩, dK0, dK1, dK2, dK3, dK4, dK5, dK6, dK7, dK8, dK9⟩ := KK35.out.of10
    obtain ⟨⟨cT0, cT1, cT2⟩, dT0, dT1, dT2⟩ := KT35.out.o3
    obtain ⟨⟨cN0, cN1, cN2, cN3⟩, dN0, dN1, dN2, dN3⟩ := KN35.out.four
    go_wp2_with fail
    clear cR0 cR1 cR2 cR3 cR4 cR5 cR6 cR7 cR8 cR9 dR0 dR1 dR2 dR3 dR4 dR5 dR6 dR7 dR8 dR9 cQ0 cQ1 cQ2 dQ0 dQ1 dQ2 cK0 cK1 cK2 cK3 cK4 cK5 cK6 cK7 cK8 cK9 dK0 dK1 dK2 dK3 dK4 dK5 dK6 dK7 dK8 dK9 cT0 cT1 cT2 dT0 dT1 dT2 cN0 cN1 cN2 cN3 dN0 dN1 dN2 dN3
    refine (l1Below_pos B g v35 C35.out 4 (by omega) (by omega)).mono ?_
    rintro e v36 ⟨r, rfl, ⟨r0, r1⟩, hcu, hgr⟩
    have KR36 := Lib.hid (KR35.out.grown hgr c_R)
    have KQ36 := Lib.hid (KQ35.out.grown hgr c_Q)
    have KK36 := Lib.hid (KK35.out.grown hgr c_K)
    have KT36 := Lib.hid (KT35.out.grown hgr c_T)
    have KN36 := Lib.hid (KN35.out.grown hgr c_N)
    have Dp36 := Lib.hid (Dp35.out.grown hgr)
    have Dq36 := Lib.hid (Dq35.out.grown hgr)
    have Dm36 := Lib.hid (Dm35.out.grown hgr)
    have G36 := Lib.hid (grown_tr G35.out hgr)
    have C36 := Lib.hid hcu
    clear hcu hgr KR35 KQ35 KK35 KT35 KN35 Dp35 Dq35 Dm35 G35 C35
    obtain ⟨⟨cR0, cR1, cR2, cR3, cR4, cR5, cR6, cR7, cR8, cR9⟩, dR0, dR1, dR2, dR3, dR4, dR5, dR6, dR7, dR8, dR9⟩ := KR36.out.of10
    obtain ⟨⟨cQ0, cQ1, cQ2⟩, dQ0, dQ1, dQ2⟩ := KQ36.out.o3
    obtain ⟨⟨cK0, cK1, cK2, cK3, cK4, cK5, cK6, cK7, cK8, cK9⟩, dK0, dK1, dK2, dK3, dK4, dK5, dK6, dK7, dK8, dK9⟩ := KK36.out.of10
    obtain ⟨⟨cT0, cT1, cT2⟩, dT0, dT1, dT2⟩ := KT36.out.o3
    obtain ⟨⟨cN0, cN1, cN2, cN3⟩, dN0, dN1, dN2, dN3⟩ := KN36.out.four
    go_upto_block 0 with fail
    clear cR0 cR1 cR2 cR3 cR4 cR5 cR6 cR7 cR8 cR9 dR0 dR1 dR2 dR3 dR4 dR5 dR6 dR7 dR8 dR9 cQ0 cQ1 cQ2 dQ0 dQ1 dQ2 cK0 cK1 cK2 cK3 cK4 cK5 cK6 cK7 cK8 cK9 dK0 dK1 dK2 dK3 dK4 dK5 dK6 dK7 dK8 dK9 cT0 cT1 cT2 dT0 dT1 dT2 cN0 cN1 cN2 cN3 dN0 dN1 dN2 dN3
    go_cut [12] (fun s12 wx => ∃ c : Int, s12 = .int .i64 c ∧ Hid (Blk wx g_R [.int .i64 0, .bool false, .int .u64 0, .int .u64 0, .slice none 0 0, .bool false, .int .u64 0, .int .u64 0, .slice none 0 0, .bool false]) ∧ Hid (Blk wx g_Q [.int .i64 0, .int .i64 0, .int .i64 0]) ∧ Hid (Blk wx g_K [.int .i64 e, .bool p.u, .int .u64 (n64 p.k), .int .u64 (n64 p.l), .slice p.a p.rs.length p.c, .bool q.u, .int .u64 (n64 q.k), .int .u64 (n64 q.l), .slice q.a q.rs.length q.c, .bool t]) ∧ Hid (Blk wx g_T [.int .i64 x, .int .i64 y, .int .i64 z]) ∧ Hid (DrawnM v1.heap.size g_K g p wx) ∧ Hid (DrawnM v1.heap.size g_K g q wx) ∧ Hid (CurB wx B g) ∧ Hid (w.grownBy wx (some g)))
    case first =>
      have hr : r = 0 ∨ r = 1 ∨ 2 ≤ r := by omega
      clear r0
      rcases hr with rfl | rfl | hr
      · obtain ⟨⟨cR0, cR1, cR2, cR3, cR4, cR5, cR6, cR7, cR8, cR9⟩, dR0, dR1, dR2, dR3, dR4, dR5, dR6, dR7, dR8, dR9⟩ := KR36.out.of10
        obtain ⟨⟨cQ0, cQ1, cQ2⟩, dQ0, dQ1, dQ2⟩ := KQ36.out.o3
        obtain ⟨⟨cK0, cK1, cK2, cK3, cK4, cK5, cK6, cK7, cK8, cK9⟩, dK0, dK1, dK2, dK3, dK4, dK5, dK6, dK7, dK8, dK9⟩ := KK36.out.of10
        obtain ⟨⟨cT0, cT1, cT2⟩, dT0, dT1, dT2⟩ := KT36.out.o3
        obtain ⟨⟨cN0, cN1, cN2, cN3⟩, dN0, dN1, dN2, dN3⟩ := KN36.out.four
        go_wp2_with fail
        clear cR0 cR1 cR2 cR3 cR4 cR5 cR6 cR7 cR8 cR9 dR0 dR1 dR2 dR3 dR4 dR5 dR6 dR7 dR8 dR9 cQ0 cQ1 cQ2 dQ0 dQ1 dQ2 cK0 cK1 cK2 cK3 cK4 cK5 cK6 cK7 cK8 cK9 dK0 dK1 dK2 dK3 dK4 dK5 dK6 dK7 dK8 dK9 cT0 cT1 cT2 dT0 dT1 dT2 cN0 cN1 cN2 cN3 dN0 dN1 dN2 dN3
        refine (l4Near_any B g v36 C36.out c1).mono ?_
        rintro e v37 ⟨c2, rfl, hx, hcu, hgr⟩
        clear hx
        have KR37 := Lib.hid (KR36.out.grown hgr c_R)
        have KQ37 := Lib.hid (KQ36.out.grown hgr c_Q)
        have KK37 := Lib.hid (KK36.out.grown hgr c_K)
        have KT37 := Lib.hid (KT36.out.grown hgr c_T)
        have KN37 := Lib.hid (KN36.out.grown hgr c_N)
        have Dp37 := Lib.hid (Dp36.out.grown hgr)
        have Dq37 := Lib.hid (Dq36.out.grown hgr)
        have Dm37 := Lib.hid (Dm36.out.grown hgr)
        have G37 := Lib.hid (grown_tr G36.out hgr)
        have C37 := Lib.hid hcu
        clear hcu hgr KR36 KQ36 KK36 KT36 KN36 Dp36 Dq36 Dm36 G36 C36
        obtain ⟨⟨cR0, cR1, cR2, cR3, cR4, cR5, cR6, cR7, cR8, cR9⟩, dR0, dR1, dR2, dR3, dR4, dR5, dR6, dR7, dR8, dR9⟩ := KR37.out.of10
        obtain ⟨⟨cQ0, cQ1, cQ2⟩, dQ0, dQ1, dQ2⟩ := KQ37.out.o3
        obtain ⟨⟨cK0, cK1, cK2, cK3, cK4, cK5, cK6, cK7, cK8, cK9⟩, dK0, dK1, dK2, dK3, dK4, dK5, dK6, dK7, dK8, dK9⟩ := KK37.out.of10
        obtain ⟨⟨cT0, cT1, cT2⟩, dT0, dT1, dT2⟩ := KT37.out.o3
        obtain ⟨⟨cN0, cN1, cN2, cN3⟩, dN0, dN1, dN2, dN3⟩ := KN37.out.four
        go_wp2_with fail
        go_meet
        case rel => exact ⟨c2, rfl, KR37, KQ37, KK37, KT37, Dp37, Dq37, C37, G37⟩
      · obtain ⟨⟨cR0, cR1, cR2, cR3, cR4, cR5, cR6, cR7, cR8, cR9⟩, dR0, dR1, dR2, dR3, dR4, dR5, dR6, dR7, dR8, dR9⟩ := KR36.out.of10
        obtain ⟨⟨cQ0, cQ1, cQ2⟩, dQ0, dQ1, dQ2⟩ := KQ36.out.o3
        obtain ⟨⟨cK0, cK1, cK2, cK3, cK4, cK5, cK6, cK7, cK8, cK9⟩, dK0, dK1, dK2, dK3, dK4, dK5, dK6, dK7, dK8, dK9⟩ := KK36.out.of10
        obtain ⟨⟨cT0, cT1, cT2⟩, dT0, dT1, dT2⟩ := KT36.out.o3
        obtain ⟨⟨cN0, cN1, cN2, cN3⟩, dN0, dN1, dN2, dN3⟩ := KN36.out.four
        go_wp2_with fail
        clear cR0 cR1 cR2 cR3 cR4 cR5 cR6 cR7 cR8 cR9 dR0 dR1 dR2 dR3 dR4 dR5 dR6 dR7 dR8 dR9 cQ0 cQ1 cQ2 dQ0 dQ1 dQ2 cK0 cK1 cK2 cK3 cK4 cK5 cK6 cK7 cK8 cK9 dK0 dK1 dK2 dK3 dK4 dK5 dK6 dK7 dK8 dK9 cT0 cT1 cT2 dT0 dT1 dT2 cN0 cN1 cN2 cN3 dN0 dN1 dN2 dN3
        refine (secDraw e e p q t _ _ _ _ g v36 Dp36.out Dq36.out C36.out.lt).mono ?_
        rintro e v37 ⟨m2, ok2, rfl, hm, hb⟩
        have Dm237 := Lib.hid hm
        clear hm
        have p_m2_R : g_R < v36.heap.size ∨ v37.heap.size ≤ g_R := .inl KR36.out.lt
        have p_m2_Q : g_Q < v36.heap.size ∨ v37.heap.size ≤ g_Q := .inl KQ36.out.lt
        have p_m2_K : g_K < v36.heap.size ∨ v37.heap.size ≤ g_K := .inl KK36.out.lt
        have p_m2_T : g_T < v36.heap.size ∨ v37.heap.size ≤ g_T := .inl KT36.out.lt
        have p_m2_N : g_N < v36.heap.size ∨ v37.heap.size ≤ g_N := .inl KN36.out.lt
        have KR37 := Lib.hid (KR36.out.below hb)
        have KQ37 := Lib.hid (KQ36.out.below hb)
        have KK37 := Lib.hid (KK36.out.below hb)
        have KT37 := Lib.hid (KT36.out.below hb)
        have KN37 := Lib.hid (KN36.out.below hb)
        have Dp37 := Lib.hid (Dp36.out.below hb)
        have Dq37 := Lib.hid (Dq36.out.below hb)
        have Dm37 := Lib.hid (Dm36.out.below hb)
        have G37 := Lib.hid (grown_tr G36.out (below_any hb))
        have C37 := Lib.hid (C36.out.below hb)
        clear hb KR36 KQ36 KK36 KT36 KN36 Dp36 Dq36 Dm36 G36 C36
        obtain ⟨⟨cR0, cR1, cR2, cR3, cR4, cR5, cR6, cR7, cR8, cR9⟩, dR0, dR1, dR2, dR3, dR4, dR5, dR6, dR7, dR8, dR9⟩ := KR37.out.of10
        obtain ⟨⟨cQ0, cQ1, cQ2⟩, dQ0, dQ1, dQ2⟩ := KQ37.out.o3
        obtain ⟨⟨cK0, cK1, cK2, cK3, cK4, cK5, cK6, cK7, cK8, cK9⟩, dK0, dK1, dK2, dK3, dK4, dK5, dK6, dK7, dK8, dK9⟩ := KK37.out.of10
        obtain ⟨⟨cT0, cT1, cT2⟩, dT0, dT1, dT2⟩ := KT37.out.o3
        obtain ⟨⟨cN0, cN1, cN2, cN3⟩, dN0, dN1, dN2, dN3⟩ := KN37.out.four
        have KR38 := Lib.hid (show Blk ((((v37.setCell ⟨g_N, 0, none⟩ (.bool m2.u)).setCell ⟨g_N, 1, none⟩ (.int .u64 (n64 m2.k))).setCell ⟨g_N, 2, none⟩ (.int .u64 (n64 m2.l))).setCell ⟨g_N, 3, none⟩ (.slice m2.a m2.rs.length m2.c)) g_R [.int .i64 0, .bool false, .int .u64 0, .int .u64 0, .slice none 0 0, .bool false, .int .u64 0, .int .u64 0, .slice none 0 0, .bool false] from ((((KR37.out.setOther ⟨g_N, 0, none⟩ (.bool m2.u) (n_R_N)).setOther ⟨g_N, 1, none⟩ (.int .u64 (n64 m2.k)) (n_R_N)).setOther ⟨g_N, 2, none⟩ (.int .u64 (n64 m2.l)) (n_R_N)).setOther ⟨g_N, 3, none⟩ (.slice m2.a m2.rs.length m2.c) (n_R_N)))
        have KQ38 := Lib.hid (show Blk ((((v37.setCell ⟨g_N, 0, none⟩ (.bool m2.u)).setCell ⟨g_N, 1, none⟩ (.int .u64 (n64 m2.k))).setCell ⟨g_N, 2, none⟩ (.int .u64 (n64 m2.l))).setCell ⟨g_N, 3, none⟩ (.slice m2.a m2.rs.length m2.c)) g_Q [.int .i64 0, .int .i64 0, .int .i64 0] from ((((KQ37.out.setOther ⟨g_N, 0, none⟩ (.bool m2.u) (n_Q_N)).setOther ⟨g_N, 1, none⟩ (.int .u64 (n64 m2.k)) (n_Q_N)).setOther ⟨g_N, 2, none⟩ (.int .u64 (n64 m2.l)) (n_Q_N)).setOther ⟨g_N, 3, none⟩ (.slice m2.a m2.rs.length m2.c) (n_Q_N)))
        have KK38 := Lib.hid (show Blk ((((v37.setCell ⟨g_N, 0, none⟩ (.bool m2.u)).setCell ⟨g_N, 1, none⟩ (.int .u64 (n64 m2.k))).setCell ⟨g_N, 2, none⟩ (.int .u64 (n64 m2.l))).setCell ⟨g_N, 3, none⟩ (.slice m2.a m2.rs.length m2.c)) g_K [.int .i64 e, .bool p.u, .int .u64 (n64 p.k), .int .u64 (n64 p.l), .slice p.a p.rs.length p.c, .bool q.u, .int .u64 (n64 q.k), .int .u64 (n64 q.l), .slice q.a q.rs.length q.c, .bool t] from ((((KK37.out.setOther ⟨g_N, 0, none⟩ (.bool m2.u) (n_K_N)).setOther ⟨g_N, 1, none⟩ (.int .u64 (n64 m2.k)) (n_K_N)).setOther ⟨g_N, 2, none⟩ (.int .u64 (n64 m2.l)) (n_K_N)).setOther ⟨g_N, 3, none⟩ (.slice m2.a m2.rs.length m2.c) (n_K_N)))
        have KT38 := Lib.hid (show Blk ((((v37.setCell ⟨g_N, 0, none⟩ (.bool m2.u)).setCell ⟨g_N, 1, none⟩ (.int .u64 (n64 m2.k))).setCell ⟨g_N, 2, none⟩ (.int .u64 (n64 m2.l))).setCell ⟨g_N, 3, none⟩ (.slice m2.a m2.rs.length m2.c)) g_T [.int .i64 x, .int .i64 y, .int .i64 z] from ((((KT37.out.setOther ⟨g_N, 0, none⟩ (.bool m2.u) (n_T_N)).setOther ⟨g_N, 1, none⟩ (.int .u64 (n64 m2.k)) (n_T_N)).setOther ⟨g_N, 2, none⟩ (.int .u64 (n64 m2.l)) (n_T_N)).setOther ⟨g_N, 3, none⟩ (.slice m2.a m2.rs.length m2.c) (n_T_N)))
        have KN38 := Lib.hid (show Blk ((((v37.setCell ⟨g_N, 0, none⟩ (.bool m2.u)).setCell ⟨g_N, 1, none⟩ (.int .u64 (n64 m2.k))).setCell ⟨g_N, 2, none⟩ (.int .u64 (n64 m2.l))).setCell ⟨g_N, 3, none⟩ (.slice m2.a m2.rs.length m2.c)) g_N [.bool m2.u, .int .u64 (n64 m2.k), .int .u64 (n64 m2.l), .slice m2.a m2.rs.length m2.c] from ((((KN37.out.set 0 (.bool m2.u)).set 1 (.int .u64 (n64 m2.k))).set 2 (.int .u64 (n64 m2.l))).set 3 (.slice m2.a m2.rs.length m2.c)))
        have Dp38 := Lib.hid ((((Dp37.out.set 0 (.bool m2.u) p_p_N).set 1 (.int .u64 (n64 m2.k)) p_p_N).set 2 (.int .u64 (n64 m2.l)) p_p_N).set 3 (.slice m2.a m2.rs.length m2.c) p_p_N)
        have Dq38 := Lib.hid ((((Dq37.out.set 0 (.bool m2.u) p_p_N).set 1 (.int .u64 (n64 m2.k)) p_p_N).set 2 (.int .u64 (n64 m2.l)) p_p_N).set 3 (.slice m2.a m2.rs.length m2.c) p_p_N)
        have Dm238 := Lib.hid ((((Dm237.out.set 0 (.bool m2.u) p_m2_N).set 1 (.int .u64 (n64 m2.k)) p_m2_N).set 2 (.int .u64 (n64 m2.l)) p_m2_N).set 3 (.slice m2.a m2.rs.length m2.c) p_m2_N)
        have C38 := Lib.hid ((((C37.out.setOther ⟨g_N, 0, none⟩ (.bool m2.u) b_N c_N).setOther ⟨g_N, 1, none⟩ (.int .u64 (n64 m2.k)) b_N c_N).setOther ⟨g_N, 2, none⟩ (.int .u64 (n64 m2.l)) b_N c_N).setOther ⟨g_N, 3, none⟩ (.slice m2.a m2.rs.length m2.c) b_N c_N)
        have G38 := Lib.hid (grown_setNew (grown_setNew (grown_setNew (grown_setNew G37.out ⟨g_N, 0, none⟩ (.bool m2.u) l_N) ⟨g_N, 1, none⟩ (.int .u64 (n64 m2.k)) l_N) ⟨g_N, 2, none⟩ (.int .u64 (n64 m2.l)) l_N) ⟨g_N, 3, none⟩ (.slice m2.a m2.rs.length m2.c) l_N)
        clear KR37 KQ37 KK37 KT37 KN37 Dp37 Dq37 Dm237 C37 G37
        go_upto_region 12 with fail
        clear cR0 cR1 cR2 cR3 cR4 cR5 cR6 cR7 cR8 cR9 dR0 dR1 dR2 dR3 dR4 dR5 dR6 dR7 dR8 dR9 cQ0 cQ1 cQ2 dQ0 dQ1 dQ2 cK0 cK1 cK2 cK3 cK4 cK5 cK6 cK7 cK8 cK9 dK0 dK1 dK2 dK3 dK4 dK5 dK6 dK7 dK8 dK9 cT0 cT1 cT2 dT0 dT1 dT2 cN0 cN1 cN2 cN3 dN0 dN1 dN2 dN3
        generalize (((v37.setCell ⟨g_N, 0, none⟩ (.bool m2.u)).setCell ⟨g_N, 1, none⟩ (.int .u64 (n64 m2.k))).setCell ⟨g_N, 2, none⟩ (.int .u64 (n64 m2.l))).setCell ⟨g_N, 3, none⟩ (.slice m2.a m2.rs.length m2.c) = v38 at KR38 KQ38 KK38 KT38 KN38 Dp38 Dq38 Dm238 C38 G38 ⊢
        refine wp_region_noPanic ?_
        refine wp_region_held_drew (S := fun w' => Blk w' g_K [.int .i64 e, .bool p.u, .int .u64 (n64 p.k), .int .u64 (n64 p.l), .slice p.a p.rs.length p.c, .bool q.u, .int .u64 (n64 q.k), .int .u64 (n64 q.l), .slice q.a q.rs.length q.c, .bool t] ∧ Blk w' g_T [.int .i64 x, .int .i64 y, .int .i64 z] ∧ Blk w' g_N [.bool m2.u, .int .u64 (n64 m2.k), .int .u64 (n64 m2.l), .slice m2.a m2.rs.length m2.c]) (by kernel_rfl) ⟨KK38.out, KT38.out, KN38.out⟩ (fun hS => ?_)
        have KR39 := Lib.hid (show Blk v38.drew g_R [.int .i64 0, .bool false, .int .u64 0, .int .u64 0, .slice none 0 0, .bool false, .int .u64 0, .int .u64 0, .slice none 0 0, .bool false] from KR38.out.drew)
        have KQ39 := Lib.hid (show Blk v38.drew g_Q [.int .i64 0, .int .i64 0, .int .i64 0] from KQ38.out.drew)
        have KK39 := Lib.hid (show Blk v38.drew g_K [.int .i64 e, .bool p.u, .int .u64 (n64 p.k), .int .u64 (n64 p.l), .slice p.a p.rs.length p.c, .bool q.u, .int .u64 (n64 q.k), .int .u64 (n64 q.l), .slice q.a q.rs.length q.c, .bool t] from KK38.out.drew)
        have KT39 := Lib.hid (show Blk v38.drew g_T [.int .i64 x, .int .i64 y, .int .i64 z] from KT38.out.drew)
        have KN39 := Lib.hid (show Blk v38.drew g_N [.bool m2.u, .int .u64 (n64 m2.k), .int .u64 (n64 m2.l), .slice m2.a m2.rs.length m2.c] from KN38.out.drew)
        have Dp39 := Lib.hid (Dp38.out.below (Below.refl _ _).drew)
        have Dq39 := Lib.hid (Dq38.out.below (Below.refl _ _).drew)
        have Dm239 := Lib.hid (Dm238.out.below (Below.refl _ _).drew)
        have C39 := Lib.hid (show CurB v38.drew _ g from C38.out.below (Below.refl _ _).drew)
        have G39 := Lib.hid (show w.grownBy v38.drew (some g) from grown_tr G38.out (below_any (Below.refl _ v38).drew))
        clear KR38 KQ38 KK38 KT38 KN38 Dp38 Dq38 Dm238 C38 G38
        clear hS
        generalize v38.drew = v39 at KR39 KQ39 KK39 KT39 KN39 Dp39 Dq39 Dm239 C39 G39 ⊢
        have hS : Blk v39 g_K [.int .i64 e, .bool p.u, .int .u64 (n64 p.k), .int .u64 (n64 p.l), .slice p.a p.rs.length p.c, .bool q.u, .int .u64 (n64 q.k), .int .u64 (n64 q.l), .slice q.a q.rs.length q.c, .bool t] ∧ Blk v39 g_T [.int .i64 x, .int .i64 y, .int .i64 z] ∧ Blk v39 g_N [.bool m2.u, .int .u64 (n64 m2.k), .int .u64 (n64 m2.l), .slice m2.a m2.rs.length m2.c] := ⟨KK39.out, KT39.out, KN39.out⟩
        refine wpAnyH_take (i := 2) (v := .int .i64 s) rfl (by kernel_rfl) (by kernel_rfl) (by kernel_rfl) (fun _ _ _ h => h) (Or.inl ⟨rfl, by intro w hS; go_simp⟩) hS ?_
        refine wpAnyH_take (i := 3) (v := .pointer (some ⟨g_K, 0, none⟩)) rfl (by kernel_rfl) (by kernel_rfl) (by kernel_rfl) (fun _ _ _ h => h) (Or.inl ⟨rfl, by intro w hS; go_simp⟩) hS ?_
        refine wpAnyH_take (i := 5) (v := .pointer (some ⟨g, 0, none⟩)) rfl (by kernel_rfl) (by kernel_rfl) (by kernel_rfl) (fun _ _ _ h => h) (Or.inl ⟨rfl, by intro w hS; go_simp⟩) hS ?_
        refine wpAnyH_take (i := 0) (v := .agg #[.bool m2.u, .int .u64 (n64 m2.k), .int .u64 (n64 m2.l), .slice m2.a m2.rs.length m2.c]) rfl (by kernel_rfl) (by kernel_rfl) (by kernel_rfl) (fun _ _ _ h => h) (Or.inl ⟨rfl, by intro w hS; obtain ⟨⟨h0, h1, h2, h3⟩, _⟩ := hS.2.2.four; go_simp⟩) hS ?_
        refine wpAnyH_take (i := 1) (v := .agg #[.int .i64 x, .int .i64 y, .int .i64 z]) rfl (by kernel_rfl) (by kernel_rfl) (by kernel_rfl) (fun _ _ _ h => h) (Or.inl ⟨rfl, by intro w hS; obtain ⟨⟨h0, h1, h2⟩, _⟩ := hS.2.1.o3; go_simp⟩) hS ?_
        refine wpAnyH_take (i := 4) (v := .int .i64 e) rfl (by kernel_rfl) (by kernel_rfl) (by kernel_rfl) (fun _ _ _ h => h) (Or.inl ⟨rfl, by intro w hS; obtain ⟨⟨h0, h1, h2, h3, h4, h5, h6, h7, h8, h9⟩, _⟩ := hS.1.of10; go_simp⟩) hS ?_
        refine wpAnyH_ready (rs := [6]) (by kernel_rfl) (by simp) ?_
        refine AllReadyH.cons (i := 6) rfl (fun K hK => ?zq16) AllReadyH.nil
        rw [if_pos (by rfl)]
        go_simp
        clear hS
        refine (l1Below_pos B g v39 C39.out 8 (by omega) (by omega)).mono ?_
        rintro e v40 ⟨r9, rfl, hr, hcu, hgr⟩
        have KR40 := Lib.hid (KR39.out.grown hgr c_R)
        have KQ40 := Lib.hid (KQ39.out.grown hgr c_Q)
        have KK40 := Lib.hid (KK39.out.grown hgr c_K)
        have KT40 := Lib.hid (KT39.out.grown hgr c_T)
        have KN40 := Lib.hid (KN39.out.grown hgr c_N)
        have Dp40 := Lib.hid (Dp39.out.grown hgr)
        have Dq40 := Lib.hid (Dq39.out.grown hgr)
        have Dm240 := Lib.hid (Dm239.out.grown hgr)
        have G40 := Lib.hid (grown_tr G39.out hgr)
        have C40 := Lib.hid hcu
        clear hcu hgr KR39 KQ39 KK39 KT39 KN39 Dp39 Dq39 Dm239 G39 C39
        clear hr
        refine hK.out _ _ ⟨KK40.out, KT40.out, KN40.out⟩ (fun hS => ?_)
        clear hK K
        refine wpAnyH_ready (rs := [7]) (by kernel_rfl) (by simp) ?_
        refine AllReadyH.cons (i := 7) rfl (fun K hK => ?zq17) AllReadyH.nil
        rw [if_pos (by rfl)]
        go_simp
        clear hS
        refine (cookieOfS m2 x y z s e r9 _ Dm240.out.on Dm240.out.fit).mono ?_
        rintro e v41 ⟨rfl, hb⟩
        have KR41 := Lib.hid (KR40.out.below hb)
        have KQ41 := Lib.hid (KQ40.out.below hb)
        have KK41 := Lib.hid (KK40.out.below hb)
        have KT41 := Lib.hid (KT40.out.below hb)
        have KN41 := Lib.hid (KN40.out.below hb)
        have Dp41 := Lib.hid (Dp40.out.below hb)
        have Dq41 := Lib.hid (Dq40.out.below hb)
        have Dm241 := Lib.hid (Dm240.out.below hb)
        have G41 := Lib.hid (grown_tr G40.out (below_any hb))
        have C41 := Lib.hid (C40.out.below hb)
        clear hb KR40 KQ40 KK40 KT40 KN40 Dp40 Dq40 Dm240 G40 C40
        refine hK.out _ _ ⟨KK41.out, KT41.out, KN41.out⟩ (fun hS => ?_)
        clear hK K
        refine wpAnyH_take (i := 8) (v := .int .i64 (cookieOf m2 x y z s e r9)) rfl (by kernel_rfl) (by kernel_rfl) (by kernel_rfl) (fun _ _ _ h => h) (Or.inl ⟨rfl, by intro w hS; go_simp⟩) hS ?_
        refine wpAnyH_done (by kernel_rfl) ?_ _
        refine NoPanic.normal ?_
        generalize cookieOf m2 x y z s e r9 = c3
        obtain ⟨⟨cR0, cR1, cR2, cR3, cR4, cR5, cR6, cR7, cR8, cR9⟩, dR0, dR1, dR2, dR3, dR4, dR5, dR6, dR7, dR8, dR9⟩ := KR41.out.of10
        obtain ⟨⟨cQ0, cQ1, cQ2⟩, dQ0, dQ1, dQ2⟩ := KQ41.out.o3
        obtain ⟨⟨cK0, cK1, cK2, cK3, cK4, cK5, cK6, cK7, cK8, cK9⟩, dK0, dK1, dK2, dK3, dK4, dK5, dK6, dK7, dK8, dK9⟩ := KK41.out.of10
        obtain ⟨⟨cT0, cT1, cT2⟩, dT0, dT1, dT2⟩ := KT41.out.o3
        obtain ⟨⟨cN0, cN1, cN2, cN3⟩, dN0, dN1, dN2, dN3⟩ := KN41.out.four
        go_wp2_with fail
        go_meet
        case rel => exact ⟨c3, rfl, KR41, KQ41, KK41, KT41, Dp41, Dq41, C41, G41⟩
      · have nr0 : (r == 0) = false := by simp; omega
        have nr1 : (r == 1) = false := by simp; omega
        obtain ⟨⟨cR0, cR1, cR2, cR3, cR4, cR5, cR6, cR7, cR8, cR9⟩, dR0, dR1, dR2, dR3, dR4, dR5, dR6, dR7, dR8, dR9⟩ := KR36.out.of10
        obtain ⟨⟨cQ0, cQ1, cQ2⟩, dQ0, dQ1, dQ2⟩ := KQ36.out.o3
        obtain ⟨⟨cK0, cK1, cK2, cK3, cK4, cK5, cK6, cK7, cK8, cK9⟩, dK0, dK1, dK2, dK3, dK4, dK5, dK6, dK7, dK8, dK9⟩ := KK36.out.of10
        obtain ⟨⟨cT0, cT1, cT2⟩, dT0, dT1, dT2⟩ := KT36.out.o3
        obtain ⟨⟨cN0, cN1, cN2, cN3⟩, dN0, dN1, dN2, dN3⟩ := KN36.out.four
        go_wp2_with fail
        go_meet
        case rel => exact ⟨c1, rfl, KR36, KQ36, KK36, KT36, Dp36, Dq36, C36, G36⟩
    case rest =>
      clear KR36 KQ36 KK36 KT36 KN36 Dp36 Dq36 Dm36 C36 G36
      obtain ⟨c, rfl, KR70, KQ70, KK70, KT70, Dp70, Dq70, C70, G70⟩ := hcut
      generalize wc = wc1 at KR70 KQ70 KK70 KT70 Dp70 Dq70 C70 G70 ⊢
      obtain ⟨⟨cR0, cR1, cR2, cR3, cR4, cR5, cR6, cR7, cR8, cR9⟩, dR0, dR1, dR2, dR3, dR4, dR5, dR6, dR7, dR8, dR9⟩ := KR70.out.of10
      obtain ⟨⟨cQ0, cQ1, cQ2⟩, dQ0, dQ1, dQ2⟩ := KQ70.out.o3
      obtain ⟨⟨cK0, cK1, cK2, cK3, cK4, cK5, cK6, cK7, cK8, cK9⟩, dK0, dK1, dK2, dK3, dK4, dK5, dK6, dK7, dK8, dK9⟩ := KK70.out.of10
      obtain ⟨⟨cT0, cT1, cT2⟩, dT0, dT1, dT2⟩ := KT70.out.o3
      go_upto_region 13 with fail
      clear cR0 cR1 cR2 cR3 cR4 cR5 cR6 cR7 cR8 cR9 dR0 dR1 dR2 dR3 dR4 dR5 dR6 dR7 dR8 dR9 cQ0 cQ1 cQ2 dQ0 dQ1 dQ2 cK0 cK1 cK2 cK3 cK4 cK5 cK6 cK7 cK8 cK9 dK0 dK1 dK2 dK3 dK4 dK5 dK6 dK7 dK8 dK9 cT0 cT1 cT2 dT0 dT1 dT2
      refine wp_region_noPanic ?_
      refine wp_region_held_drew (S := fun w' => Blk w' g_K [.int .i64 e, .bool p.u, .int .u64 (n64 p.k), .int .u64 (n64 p.l), .slice p.a p.rs.length p.c, .bool q.u, .int .u64 (n64 q.k), .int .u64 (n64 q.l), .slice q.a q.rs.length q.c, .bool t] ∧ Blk w' g_T [.int .i64 x, .int .i64 y, .int .i64 z]) (by kernel_rfl) ⟨KK70.out, KT70.out⟩ (fun hS => ?_)
      have KR71 := Lib.hid (show Blk wc1.drew g_R [.int .i64 0, .bool false, .int .u64 0, .int .u64 0, .slice none 0 0, .bool false, .int .u64 0, .int .u64 0, .slice none 0 0, .bool false] from KR70.out.drew)
      have KQ71 := Lib.hid (show Blk wc1.drew g_Q [.int .i64 0, .int .i64 0, .int .i64 0] from KQ70.out.drew)
      have KK71 := Lib.hid (show Blk wc1.drew g_K [.int .i64 e, .bool p.u, .int .u64 (n64 p.k), .int .u64 (n64 p.l), .slice p.a p.rs.length p.c, .bool q.u, .int .u64 (n64 q.k), .int .u64 (n64 q.l), .slice q.a q.rs.length q.c, .bool t] from KK70.out.drew)
      have KT71 := Lib.hid (show Blk wc1.drew g_T [.int .i64 x, .int .i64 y, .int .i64 z] from KT70.out.drew)
      have Dp71 := Lib.hid (Dp70.out.below (Below.refl _ _).drew)
      have Dq71 := Lib.hid (Dq70.out.below (Below.refl _ _).drew)
      have C71 := Lib.hid (show CurB wc1.drew _ g from C70.out.below (Below.refl _ _).drew)
      have G71 := Lib.hid (show w.grownBy wc1.drew (some g) from grown_tr G70.out (below_any (Below.refl _ wc1).drew))
      clear KR70 KQ70 KK70 KT70 Dp70 Dq70 C70 G70
      clear hS
      generalize wc1.drew = v71 at KR71 KQ71 KK71 KT71 Dp71 Dq71 C71 G71 ⊢
      have hS : Blk v71 g_K [.int .i64 e, .bool p.u, .int .u64 (n64 p.k), .int .u64 (n64 p.l), .slice p.a p.rs.length p.c, .bool q.u, .int .u64 (n64 q.k), .int .u64 (n64 q.l), .slice q.a q.rs.length q.c, .bool t] ∧ Blk v71 g_T [.int .i64 x, .int .i64 y, .int .i64 z] := ⟨KK71.out, KT71.out⟩
      refine wpAnyH_take (i := 0) (v := .agg #[.int .i64 e, .bool p.u, .int .u64 (n64 p.k), .int .u64 (n64 p.l), .slice p.a p.rs.length p.c, .bool q.u, .int .u64 (n64 q.k), .int .u64 (n64 q.l), .slice q.a q.rs.length q.c, .bool t]) rfl (by kernel_rfl) (by kernel_rfl) (by kernel_rfl) (fun _ _ _ h => h) (Or.inl ⟨rfl, by intro w hS; obtain ⟨⟨h0, h1, h2, h3, h4, h5, h6, h7, h8, h9⟩, _⟩ := hS.1.of10; go_simp⟩) hS ?_
      refine wpAnyH_take (i := 1) (v := .agg #[.int .i64 x, .int .i64 y, .int .i64 z]) rfl (by kernel_rfl) (by kernel_rfl) (by kernel_rfl) (fun _ _ _ h => h) (Or.inl ⟨rfl, by intro w hS; obtain ⟨⟨h0, h1, h2⟩, _⟩ := hS.2.o3; go_simp⟩) hS ?_
      refine wpAnyH_take (i := 2) (v := .int .i64 s) rfl (by kernel_rfl) (by kernel_rfl) (by kernel_rfl) (fun _ _ _ h => h) (Or.inl ⟨rfl, by intro w hS; go_simp⟩) hS ?_
      refine wpAnyH_take (i := 3) (v := .int .i64 c) rfl (by kernel_rfl) (by kernel_rfl) (by kernel_rfl) (fun _ _ _ h => h) (Or.inl ⟨rfl, by intro w hS; go_simp⟩) hS ?_
      obtain ⟨⟨cR0, cR1, cR2, cR3, cR4, cR5, cR6, cR7, cR8, cR9⟩, dR0, dR1, dR2, dR3, dR4, dR5, dR6, dR7, dR8, dR9⟩ := KR71.out.of10
      refine wpAnyH_ready (rs := [4]) (by kernel_rfl) (by simp) ?_
      refine AllReadyH.cons (i := 4) rfl (fun K hK => ?zq18) AllReadyH.nil
      rw [if_pos (by rfl)]
      go_simp
      clear hS
      have KR72 := Lib.hid (show Blk ((((((((((v71.setCell ⟨g_R, 0, none⟩ (.int .i64 e)).setCell ⟨g_R, 1, none⟩ (.bool p.u)).setCell ⟨g_R, 2, none⟩ (.int .u64 (n64 p.k))).setCell ⟨g_R, 3, none⟩ (.int .u64 (n64 p.l))).setCell ⟨g_R, 4, none⟩ (.slice p.a p.rs.length p.c)).setCell ⟨g_R, 5, none⟩ (.bool q.u)).setCell ⟨g_R, 6, none⟩ (.int .u64 (n64 q.k))).setCell ⟨g_R, 7, none⟩ (.int .u64 (n64 q.l))).setCell ⟨g_R, 8, none⟩ (.slice q.a q.rs.length q.c)).setCell ⟨g_R, 9, none⟩ (.bool t)) g_R [.int .i64 e, .bool p.u, .int .u64 (n64 p.k), .int .u64 (n64 p.l), .slice p.a p.rs.length p.c, .bool q.u, .int .u64 (n64 q.k), .int .u64 (n64 q.l), .slice q.a q.rs.length q.c, .bool t] from ((((((((((KR71.out.set 0 (.int .i64 e)).set 1 (.bool p.u)).set 2 (.int .u64 (n64 p.k))).set 3 (.int .u64 (n64 p.l))).set 4 (.slice p.a p.rs.length p.c)).set 5 (.bool q.u)).set 6 (.int .u64 (n64 q.k))).set 7 (.int .u64 (n64 q.l))).set 8 (.slice q.a q.rs.length q.c)).set 9 (.bool t)))
      have KQ72 := Lib.hid (show Blk ((((((((((v71.setCell ⟨g_R, 0, none⟩ (.int .i64 e)).setCell ⟨g_R, 1, none⟩ (.bool p.u)).setCell ⟨g_R, 2, none⟩ (.int .u64 (n64 p.k))).setCell ⟨g_R, 3, none⟩ (.int .u64 (n64 p.l))).setCell ⟨g_R, 4, none⟩ (.slice p.a p.rs.length p.c)).setCell ⟨g_R, 5, none⟩ (.bool q.u)).setCell ⟨g_R, 6, none⟩ (.int .u64 (n64 q.k))).setCell ⟨g_R, 7, none⟩ (.int .u64 (n64 q.l))).setCell ⟨g_R, 8, none⟩ (.slice q.a q.rs.length q.c)).setCell ⟨g_R, 9, none⟩ (.bool t)) g_Q [.int .i64 0, .int .i64 0, .int .i64 0] from ((((((((((KQ71.out.setOther ⟨g_R, 0, none⟩ (.int .i64 e) (fun e => n_R_Q e.symm)).setOther ⟨g_R, 1, none⟩ (.bool p.u) (fun e => n_R_Q e.symm)).setOther ⟨g_R, 2, none⟩ (.int .u64 (n64 p.k)) (fun e => n_R_Q e.symm)).setOther ⟨g_R, 3, none⟩ (.int .u64 (n64 p.l)) (fun e => n_R_Q e.symm)).setOther ⟨g_R, 4, none⟩ (.slice p.a p.rs.length p.c) (fun e => n_R_Q e.symm)).setOther ⟨g_R, 5, none⟩ (.bool q.u) (fun e => n_R_Q e.symm)).setOther ⟨g_R, 6, none⟩ (.int .u64 (n64 q.k)) (fun e => n_R_Q e.symm)).setOther ⟨g_R, 7, none⟩ (.int .u64 (n64 q.l)) (fun e => n_R_Q e.symm)).setOther ⟨g_R, 8, none⟩ (.slice q.a q.rs.length q.c) (fun e => n_R_Q e.symm)).setOther ⟨g_R, 9, none⟩ (.bool t) (fun e => n_R_Q e.symm)))
      have KK72 := Lib.hid (show Blk ((((((((((v71.setCell ⟨g_R, 0, none⟩ (.int .i64 e)).setCell ⟨g_R, 1, none⟩ (.bool p.u)).setCell ⟨g_R, 2, none⟩ (.int .u64 (n64 p.k))).setCell ⟨g_R, 3, none⟩ (.int .u64 (n64 p.l))).setCell ⟨g_R, 4, none⟩ (.slice p.a p.rs.length p.c)).setCell ⟨g_R, 5, none⟩ (.bool q.u)).setCell ⟨g_R, 6, none⟩ (.int .u64 (n64 q.k))).setCell ⟨g_R, 7, none⟩ (.int .u64 (n64 q.l))).setCell ⟨g_R, 8, none⟩ (.slice q.a q.rs.length q.c)).setCell ⟨g_R, 9, none⟩ (.bool t)) g_K [.int .i64 e, .bool p.u, .int .u64 (n64 p.k), .int .u64 (n64 p.l), .slice p.a p.rs.length p.c, .bool q.u, .int .u64 (n64 q.k), .int .u64 (n64 q.l), .slice q.a q.rs.length q.c, .bool t] from ((((((((((KK71.out.setOther ⟨g_R, 0, none⟩ (.int .i64 e) (fun e => n_R_K e.symm)).setOther ⟨g_R, 1, none⟩ (.bool p.u) (fun e => n_R_K e.symm)).setOther ⟨g_R, 2, none⟩ (.int .u64 (n64 p.k)) (fun e => n_R_K e.symm)).setOther ⟨g_R, 3, none⟩ (.int .u64 (n64 p.l)) (fun e => n_R_K e.symm)).setOther ⟨g_R, 4, none⟩ (.slice p.a p.rs.length p.c) (fun e => n_R_K e.symm)).setOther ⟨g_R, 5, none⟩ (.bool q.u) (fun e => n_R_K e.symm)).setOther ⟨g_R, 6, none⟩ (.int .u64 (n64 q.k)) (fun e => n_R_K e.symm)).setOther ⟨g_R, 7, none⟩ (.int .u64 (n64 q.l)) (fun e => n_R_K e.symm)).setOther ⟨g_R, 8, none⟩ (.slice q.a q.rs.length q.c) (fun e => n_R_K e.symm)).setOther ⟨g_R, 9, none⟩ (.bool t) (fun e => n_R_K e.symm)))
      have KT72 := Lib.hid (show Blk ((((((((((v71.setCell ⟨g_R, 0, none⟩ (.int .i64 e)).setCell ⟨g_R, 1, none⟩ (.bool p.u)).setCell ⟨g_R, 2, none⟩ (.int .u64 (n64 p.k))).setCell ⟨g_R, 3, none⟩ (.int .u64 (n64 p.l))).setCell ⟨g_R, 4, none⟩ (.slice p.a p.rs.length p.c)).setCell ⟨g_R, 5, none⟩ (.bool q.u)).setCell ⟨g_R, 6, none⟩ (.int .u64 (n64 q.k))).setCell ⟨g_R, 7, none⟩ (.int .u64 (n64 q.l))).setCell ⟨g_R, 8, none⟩ (.slice q.a q.rs.length q.c)).setCell ⟨g_R, 9, none⟩ (.bool t)) g_T [.int .i64 x, .int .i64 y, .int .i64 z] from ((((((((((KT71.out.setOther ⟨g_R, 0, none⟩ (.int .i64 e) (fun e => n_R_T e.symm)).setOther ⟨g_R, 1, none⟩ (.bool p.u) (fun e => n_R_T e.symm)).setOther ⟨g_R, 2, none⟩ (.int .u64 (n64 p.k)) (fun e => n_R_T e.symm)).setOther ⟨g_R, 3, none⟩ (.int .u64 (n64 p.l)) (fun e => n_R_T e.symm)).setOther ⟨g_R, 4, none⟩ (.slice p.a p.rs.length p.c) (fun e => n_R_T e.symm)).setOther ⟨g_R, 5, none⟩ (.bool q.u) (fun e => n_R_T e.symm)).setOther ⟨g_R, 6, none⟩ (.int .u64 (n64 q.k)) (fun e => n_R_T e.symm)).setOther ⟨g_R, 7, none⟩ (.int .u64 (n64 q.l)) (fun e => n_R_T e.symm)).setOther ⟨g_R, 8, none⟩ (.slice q.a q.rs.length q.c) (fun e => n_R_T e.symm)).setOther ⟨g_R, 9, none⟩ (.bool t) (fun e => n_R_T e.symm)))
      have Dp72 := Lib.hid ((((((((((Dp71.out.set 0 (.int .i64 e) p_p_R).set 1 (.bool p.u) p_p_R).set 2 (.int .u64 (n64 p.k)) p_p_R).set 3 (.int .u64 (n64 p.l)) p_p_R).set 4 (.slice p.a p.rs.length p.c) p_p_R).set 5 (.bool q.u) p_p_R).set 6 (.int .u64 (n64 q.k)) p_p_R).set 7 (.int .u64 (n64 q.l)) p_p_R).set 8 (.slice q.a q.rs.length q.c) p_p_R).set 9 (.bool t) p_p_R)
      have Dq72 := Lib.hid ((((((((((Dq71.out.set 0 (.int .i64 e) p_q_R).set 1 (.bool p.u) p_q_R).set 2 (.int .u64 (n64 p.k)) p_q_R).set 3 (.int .u64 (n64 p.l)) p_q_R).set 4 (.slice p.a p.rs.length p.c) p_q_R).set 5 (.bool q.u) p_q_R).set 6 (.int .u64 (n64 q.k)) p_q_R).set 7 (.int .u64 (n64 q.l)) p_q_R).set 8 (.slice q.a q.rs.length q.c) p_q_R).set 9 (.bool t) p_q_R)
      have G72 := Lib.hid (grown_setNew (grown_setNew (grown_setNew (grown_setNew (grown_setNew (grown_setNew (grown_setNew (grown_setNew (grown_setNew (grown_setNew G71.out ⟨g_R, 0, none⟩ (.int .i64 e) l_R) ⟨g_R, 1, none⟩ (.bool p.u) l_R) ⟨g_R, 2, none⟩ (.int .u64 (n64 p.k)) l_R) ⟨g_R, 3, none⟩ (.int .u64 (n64 p.l)) l_R) ⟨g_R, 4, none⟩ (.slice p.a p.rs.length p.c) l_R) ⟨g_R, 5, none⟩ (.bool q.u) l_R) ⟨g_R, 6, none⟩ (.int .u64 (n64 q.k)) l_R) ⟨g_R, 7, none⟩ (.int .u64 (n64 q.l)) l_R) ⟨g_R, 8, none⟩ (.slice q.a q.rs.length q.c) l_R) ⟨g_R, 9, none⟩ (.bool t) l_R)
      refine hK.out _ _ ⟨KK72.out, KT72.out⟩ (fun hS => ?_)
      clear hK K
      clear KR71 KQ71 KK71 KT71 Dp71 Dq71 G71
      clear cR0 cR1 cR2 cR3 cR4 cR5 cR6 cR7 cR8 cR9 dR0 dR1 dR2 dR3 dR4 dR5 dR6 dR7 dR8 dR9
      generalize (((((((((v71.setCell ⟨g_R, 0, none⟩ (.int .i64 e)).setCell ⟨g_R, 1, none⟩ (.bool p.u)).setCell ⟨g_R, 2, none⟩ (.int .u64 (n64 p.k))).setCell ⟨g_R, 3, none⟩ (.int .u64 (n64 p.l))).setCell ⟨g_R, 4, none⟩ (.slice p.a p.rs.length p.c)).setCell ⟨g_R, 5, none⟩ (.bool q.u)).setCell ⟨g_R, 6, none⟩ (.int .u64 (n64 q.k))).setCell ⟨g_R, 7, none⟩ (.int .u64 (n64 q.l))).setCell ⟨g_R, 8, none⟩ (.slice q.a q.rs.length q.c)).setCell ⟨g_R, 9, none⟩ (.bool t) = v72 at hS KR72 KQ72 KK72 KT72 Dp72 Dq72 G72 ⊢
      obtain ⟨⟨cQ0, cQ1, cQ2⟩, dQ0, dQ1, dQ2⟩ := KQ72.out.o3
      refine wpAnyH_ready (rs := [5]) (by kernel_rfl) (by simp) ?_
      refine AllReadyH.cons (i := 5) rfl (fun K hK => ?zq19) AllReadyH.nil
      rw [if_pos (by rfl)]
      go_simp
      clear hS
      have KR73 := Lib.hid (show Blk (((v72.setCell ⟨g_Q, 0, none⟩ (.int .i64 x)).setCell ⟨g_Q, 1, none⟩ (.int .i64 y)).setCell ⟨g_Q, 2, none⟩ (.int .i64 z)) g_R [.int .i64 e, .bool p.u, .int .u64 (n64 p.k), .int .u64 (n64 p.l), .slice p.a p.rs.length p.c, .bool q.u, .int .u64 (n64 q.k), .int .u64 (n64 q.l), .slice q.a q.rs.length q.c, .bool t] from (((KR72.out.setOther ⟨g_Q, 0, none⟩ (.int .i64 x) (n_R_Q)).setOther ⟨g_Q, 1, none⟩ (.int .i64 y) (n_R_Q)).setOther ⟨g_Q, 2, none⟩ (.int .i64 z) (n_R_Q)))
      have KQ73 := Lib.hid (show Blk (((v72.setCell ⟨g_Q, 0, none⟩ (.int .i64 x)).setCell ⟨g_Q, 1, none⟩ (.int .i64 y)).setCell ⟨g_Q, 2, none⟩ (.int .i64 z)) g_Q [.int .i64 x, .int .i64 y, .int .i64 z] from (((KQ72.out.set 0 (.int .i64 x)).set 1 (.int .i64 y)).set 2 (.int .i64 z)))
      have KK73 := Lib.hid (show Blk (((v72.setCell ⟨g_Q, 0, none⟩ (.int .i64 x)).setCell ⟨g_Q, 1, none⟩ (.int .i64 y)).setCell ⟨g_Q, 2, none⟩ (.int .i64 z)) g_K [.int .i64 e, .bool p.u, .int .u64 (n64 p.k), .int .u64 (n64 p.l), .slice p.a p.rs.length p.c, .bool q.u, .int .u64 (n64 q.k), .int .u64 (n64 q.l), .slice q.a q.rs.length q.c, .bool t] from (((KK72.out.setOther ⟨g_Q, 0, none⟩ (.int .i64 x) (fun e => n_Q_K e.symm)).setOther ⟨g_Q, 1, none⟩ (.int .i64 y) (fun e => n_Q_K e.symm)).setOther ⟨g_Q, 2, none⟩ (.int .i64 z) (fun e => n_Q_K e.symm)))
      have KT73 := Lib.hid (show Blk (((v72.setCell ⟨g_Q, 0, none⟩ (.int .i64 x)).setCell ⟨g_Q, 1, none⟩ (.int .i64 y)).setCell ⟨g_Q, 2, none⟩ (.int .i64 z)) g_T [.int .i64 x, .int .i64 y, .int .i64 z] from (((KT72.out.setOther ⟨g_Q, 0, none⟩ (.int .i64 x) (fun e => n_Q_T e.symm)).setOther ⟨g_Q, 1, none⟩ (.int .i64 y) (fun e => n_Q_T e.symm)).setOther ⟨g_Q, 2, none⟩ (.int .i64 z) (fun e => n_Q_T e.symm)))
      have Dp73 := Lib.hid (((Dp72.out.set 0 (.int .i64 x) p_p_Q).set 1 (.int .i64 y) p_p_Q).set 2 (.int .i64 z) p_p_Q)
      have Dq73 := Lib.hid (((Dq72.out.set 0 (.int .i64 x) p_q_Q).set 1 (.int .i64 y) p_q_Q).set 2 (.int .i64 z) p_q_Q)
      have G73 := Lib.hid (grown_setNew (grown_setNew (grown_setNew G72.out ⟨g_Q, 0, none⟩ (.int .i64 x) l_Q) ⟨g_Q, 1, none⟩ (.int .i64 y) l_Q) ⟨g_Q, 2, none⟩ (.int .i64 z) l_Q)
      refine hK.out _ _ ⟨KK73.out, KT73.out⟩ (fun hS => ?_)
      clear hK K
      clear KR72 KQ72 KK72 KT72 Dp72 Dq72 G72
      clear cQ0 cQ1 cQ2 dQ0 dQ1 dQ2
      generalize ((v72.setCell ⟨g_Q, 0, none⟩ (.int .i64 x)).setCell ⟨g_Q, 1, none⟩ (.int .i64 y)).setCell ⟨g_Q, 2, none⟩ (.int .i64 z) = v73 at hS KR73 KQ73 KK73 KT73 Dp73 Dq73 G73 ⊢
      refine wpAnyH_take (i := 6) (v := .int .i64 s) rfl (by kernel_rfl) (by kernel_rfl) (by kernel_rfl) (fun _ _ _ h => h) (Or.inl ⟨rfl, by intro w hS; go_simp⟩) hS ?_
      refine wpAnyH_take (i := 7) (v := .int .i64 c) rfl (by kernel_rfl) (by kernel_rfl) (by kernel_rfl) (fun _ _ _ h => h) (Or.inl ⟨rfl, by intro w hS; go_simp⟩) hS ?_
      refine wpAnyH_done (by kernel_rfl) ?_ _
      refine NoPanic.normal ?_
      obtain ⟨⟨cR0, cR1, cR2, cR3, cR4, cR5, cR6, cR7, cR8, cR9⟩, dR0, dR1, dR2, dR3, dR4, dR5, dR6, dR7, dR8, dR9⟩ := KR73.out.of10
      obtain ⟨⟨cQ0, cQ1, cQ2⟩, dQ0, dQ1, dQ2⟩ := KQ73.out.o3
      go_wp2_with fail
      refine post_put2 4 5 rfl rfl ?_
      exact bodyPost_ret (v := .tuple #[.agg #[.int .i64 e, .bool p.u, .int .u64 (n64 p.k), .int .u64 (n64 p.l), .slice p.a p.rs.length p.c, .bool q.u, .int .u64 (n64 q.k), .int .u64 (n64 q.l), .slice q.a q.rs.length q.c, .bool t], .agg #[.int .i64 x, .int .i64 y, .int .i64 z], .int .i64 s, .int .i64 c]) (by simp [results, Tryz.results6, go_sem, cR0, cR1, cR2, cR3, cR4, cR5, cR6, cR7, cR8, cR9, cQ0, cQ1, cQ2]) rfl ⟨e, p, q, t, x, y, z, s, c, rfl, HX.out, ⟨Dp73.out.on, Dq73.out.on⟩, ⟨Dp73.out.fit, Dq73.out.fit⟩, grown_below G73.out hlg (Nat.le_refl _)⟩
end Go.Proofs.YtobfgkiccmhgdaaGreat
namespace Go.Proofs.YtobfgkiccmhgdaaGreat
open Go.RowKit Go.Lib

/-- The three parts of a cookie; -1 each where it is no 32-bit word. -/
def cpE (x : Int) : Int := if wordOk x 32 = true then x / 134217728 else -1
def cpI (x : Int) : Int := if wordOk x 32 = true then x / 16777216 % 8 else -1
def cpT (x : Int) : Int := if wordOk x 32 = true then x % 16777216 else -1
theorem word32_iff (x : Int) : wordOk x 32 = true ↔ 0 ≤ x ∧ x < 4294967296 := by unfold wordOk; rw [decide_eq_true_iff]; simp; 
theorem cp_yes {x : Int} (h : wordOk x 32 = true) : cpE x = x / 134217728 ∧ cpI x = x / 16777216 % 8 ∧ cpT x = x % 16777216 := by
  unfold cpE cpI cpT
  rw [if_pos h, if_pos h, if_pos h]
  exact ⟨rfl, rfl, rfl⟩
theorem cp_no {x : Int} (h : wordOk x 32 = false) : cpE x = -1 ∧ cpI x = -1 ∧ cpT x = -1 := by
  have h' : ¬ wordOk x 32 = true := by rw [h]; simp
  unfold cpE cpI cpT
  rw [if_neg h', if_neg h', if_neg h']
  exact ⟨rfl, rfl, rfl⟩
theorem cp_bd {x : Int} (h : wordOk x 32 = true) : 0 ≤ cpE x ∧ cpE x < 32 ∧ 0 ≤ cpI x ∧ cpI x < 8 ∧ 0 ≤ cpT x ∧ cpT x < 16777216 ∧ cpE x * 134217728 + cpI x * 16777216 + cpT x = x := by
  obtain ⟨e1, e2, e3⟩ := cp_yes h
  have h2 := (word32_iff x).1 h
  rw [e1, e2, e3]
  omega
theorem cpI_small (x : Int) : -1 ≤ cpI x ∧ cpI x ≤ 7 := by
  cases h : wordOk x 32 with
  | true => have := cp_bd h; omega
  | false => have := (cp_no h).2.1; omega

set_option maxHeartbeats 1000000 in
theorem cookPS (x : Int) (w : World) :
    Calls Tryz.prog 13 #[.int .i64 x] w fun e w' => e = .returned (.tuple #[.int .i64 (cpE x), .int .i64 (cpI x), .int .i64 (cpT x)]) ∧ w' = w := by
  have C := Lib.hid (fun w => wordOkS x 32 w)
  cases hw : wordOk x 32 with
  | false =>
    obtain ⟨e1, e2, e3⟩ := cp_no hw
    rw [hw] at C
    rw [e1, e2, e3]
    clear e1 e2 e3 hw
    go_enter Tryz.func13, Tryz.ntmps13
    go_wp2_with fail
    refine (C.out _).mono ?_
    rintro e w1 ⟨rfl, rfl⟩
    go_wp2_with fail
    exact bodyPost_ret (v := .tuple #[.int .i64 (-1), .int .i64 (-1), .int .i64 (-1)]) (by simp [results, Tryz.results13, go_sem]) rfl ⟨rfl, rfl⟩
  | true =>
    obtain ⟨e1, e2, e3⟩ := cp_yes hw
    have hb := (word32_iff x).1 hw
    rw [hw] at C
    rw [e1, e2, e3]
    clear e1 e2 e3 hw
    obtain ⟨h0, h1⟩ := hb
    have q1 : x.tdiv 134217728 = x / 134217728 := Int.tdiv_eq_ediv_of_nonneg h0
    have q2 : x.tdiv 16777216 = x / 16777216 := Int.tdiv_eq_ediv_of_nonneg h0
    have q3 : (x / 16777216).tmod 8 = x / 16777216 % 8 := Int.tmod_eq_emod_of_nonneg (by omega)
    have q4 : x.tmod 16777216 = x % 16777216 := Int.tmod_eq_emod_of_nonneg h0
    go_enter Tryz.func13, Tryz.ntmps13
    go_wp2_with fail
    refine (C.out _).mono ?_
    rintro e w1 ⟨rfl, rfl⟩
    go_wp2_with fail
    exact bodyPost_ret (v := .tuple #[.int .i64 (x / 134217728), .int .i64 (x / 16777216 % 8), .int .i64 (x % 16777216)]) (by simp [results, Tryz.results13, go_sem]) rfl ⟨rfl, rfl⟩
set_option maxHeartbeats 1000000 in
theorem cookPI (x : Int) (w : World) :
    Calls Tryz.prog 24 #[.int .i64 x] w fun e w' => e = .returned (.tuple #[.int .i64 (cpE x), .int .i64 (cpI x), .int .i64 (cpT x)]) ∧ w' = w := by
  have C := Lib.hid (fun w => wordOkI x 32 w)
  cases hw : wordOk x 32 with
  | false =>
    obtain ⟨e1, e2, e3⟩ := cp_no hw
    rw [hw] at C
    rw [e1, e2, e3]
    clear e1 e2 e3 hw
    go_enter Tryz.func24, Tryz.ntmps24
    go_wp2_with fail
    refine (C.out _).mono ?_
    rintro e w1 ⟨rfl, rfl⟩
    go_wp2_with fail
    exact bodyPost_ret (v := .tuple #[.int .i64 (-1), .int .i64 (-1), .int .i64 (-1)]) (by simp [results, Tryz.results24, go_sem]) rfl ⟨rfl, rfl⟩
  | true =>
    obtain ⟨e1, e2, e3⟩ := cp_yes hw
    have hb := (word32_iff x).1 hw
    rw [hw] at C
    rw [e1, e2, e3]
    clear e1 e2 e3 hw
    obtain ⟨h0, h1⟩ := hb
    have q1 : x.tdiv 134217728 = x / 134217728 := Int.tdiv_eq_ediv_of_nonneg h0
    have q2 : x.tdiv 16777216 = x / 16777216 := Int.tdiv_eq_ediv_of_nonneg h0
    have q3 : (x / 16777216).tmod 8 = x / 16777216 % 8 := Int.tmod_eq_emod_of_nonneg (by omega)
    have q4 : x.tmod 16777216 = x % 16777216 := Int.tmod_eq_emod_of_nonneg h0
    go_enter Tryz.func24, Tryz.ntmps24
    go_wp2_with fail
    refine (C.out _).mono ?_
    rintro e w1 ⟨rfl, rfl⟩
    go_wp2_with fail
    exact bodyPost_ret (v := .tuple #[.int .i64 (x / 134217728), .int .i64 (x / 16777216 % 8), .int .i64 (x % 16777216)]) (by simp [results, Tryz.results24, go_sem]) rfl ⟨rfl, rfl⟩
end Go.Proofs.YtobfgkiccmhgdaaGreat
namespace Go.Proofs.YtobfgkiccmhgdaaGreat
open Go.RowKit Go.Lib

theorem M.on_I {m : M} {a : Option Addr} {c B : Nat} {w : World} {e : TypeId} (ho : w.ownsRow B e 2 (.slice a m.rs.length c) m.rs.length (mrs m.rs)) (hn : (m.a = none ∧ a = none ∧ c = 0 ∧ m.rs = []) ∨ ∃ g, a = some ⟨g, 0, none⟩) : (m.at a c).On w := by
  rcases hn with ⟨_, h1, h2, h3⟩ | ⟨g, rfl⟩
  · exact .inl ⟨h1, h2, h3⟩
  · exact M.on_at ho
/-- What is answered of valid keys and a 32-bit word; y1, y2: the cookies of the two epochs. -/
def ckR (e : Int) (t : Bool) (y1 y2 c i : Int) : Int × Int × Bool := if y1 = c then (e, i, true) else if t = true ∧ y2 = c then (e - 1, i, true) else (0, 0, false)
/-- What CheckCookie answers. -/
noncomputable def ck (e : Int) (p q : M) (t : Bool) (x y z s c : Int) : Int × Int × Bool :=
  if (keysOk e p q t && wordOk c 32) = true then ckR e t (cookieOf p x y z s e (cpI c)) (cookieOf q x y z s (e - 1) (cpI c)) c (cpI c) else (0, 0, false)
def EndC (v : Int × Int × Bool) (w : World) (x : Ending) (w' : World) : Prop := x = .returned (.tuple #[.int .i64 v.1, .int .i64 v.2.1, .bool v.2.2]) ∧ Below w.heap.size w w'
theorem cpI_neg {c : Int} (h : wordOk c 32 = false) : cpI c = -1 := (cp_no h).2.1
theorem ckR_one {e : Int} {t : Bool} {y1 y2 c i : Int} (h : y1 = c) : ckR e t y1 y2 c i = (e, i, true) := if_pos h
theorem ckR_two {e : Int} {y1 y2 c i : Int} (h : (y1 == c) = false) (h2 : y2 = c) : ckR e true y1 y2 c i = (e - 1, i, true) := by
  unfold ckR; rw [if_neg (by simpa using h), if_pos ⟨rfl, h2⟩]
theorem ckR_no {e : Int} {t : Bool} {y1 y2 c i : Int} (h : (y1 == c) = false) (h2 : t = false ∨ (y2 == c) = false) : ckR e t y1 y2 c i = (0, 0, false) := by
  unfold ckR
  rw [if_neg (by simpa using h), if_neg]
  rintro ⟨h3, h4⟩
  rcases h2 with h2 | h2
  · rw [h2] at h3; cases h3
  · simp [h4] at h2

theorem secNowI (e : Int) (p q : M) (t : Bool) (w : World) (hp : p.On w) (hq : q.On w) (fp : p.Fit) : Calls Tryz.prog 9 #[.agg #[.int .i64 e, .bool p.u, .int .u64 (n64 p.k), .int .u64 (n64 p.l), .slice p.a p.rs.length p.c, .bool q.u, .int .u64 (n64 q.k), .int .u64 (n64 q.l), .slice q.a q.rs.length q.c, .bool t], .int .i64 e] w (SecI p w) := by
  cases t
  · exact secNowOneI e p q w hp hq fp
  · exact secNowTwoI e p q w hp hq fp
theorem secNowS (e : Int) (p q : M) (t : Bool) (w : World) (hp : p.On w) (hq : q.On w) (fp : p.Fit) : Calls Tryz.prog 14 #[.agg #[.int .i64 e, .bool p.u, .int .u64 (n64 p.k), .int .u64 (n64 p.l), .slice p.a p.rs.length p.c, .bool q.u, .int .u64 (n64 q.k), .int .u64 (n64 q.l), .slice q.a q.rs.length q.c, .bool t], .int .i64 e] w (SecS p w) := by
  cases t
  · exact secNowOneS e p q w hp hq fp
  · exact secNowTwoS e p q w hp hq fp
set_option maxRecDepth 100000 in
set_option maxHeartbeats 4000000 in
theorem checkI (e : Int) (p q : M) (t : Bool) (x y z s c : Int) (w : World) (hp : p.On w) (hq : q.On w) (fp : p.Fit) (fq : q.Fit) :
    Calls Tryz.prog 7 #[.agg #[.int .i64 e, .bool p.u, .int .u64 (n64 p.k), .int .u64 (n64 p.l), .slice p.a p.rs.length p.c, .bool q.u, .int .u64 (n64 q.k), .int .u64 (n64 q.l), .slice q.a q.rs.length q.c, .bool t], .agg #[.int .i64 x, .int .i64 y, .int .i64 z], .int .i64 s, .int .i64 c] w (EndC (ck e p q t x y z s c) w) := by
  have HP := Lib.hid hp
  have HQ := Lib.hid hq
  clear hp hq
  have C1 := Lib.hid (fun w h1 h2 => keysOkI e p q t w h1 h2 fp fq)
  have C2 := Lib.hid (fun w => wordOkI_b c 32 w)
  have C3 : Hid (∀ w, Calls Tryz.prog 24 #[.int .i64 c] w fun x w' => x = .returned (.tuple #[.int .i64 (cpE c), .int .i64 (cpI c), .int .i64 (cpT c)]) ∧ Below w.heap.size w w') := fun w => (cookPI c w).mono fun x w' h => ⟨h.1, by rw [h.2]; exact Below.refl _ _⟩
  obtain ⟨k1, hk⟩ : ∃ b, keysOk e p q t = b := ⟨_, rfl⟩
  rw [hk] at C1
  cases k1 with
  | false =>
    unfold ck
    rw [hk, Bool.false_and, if_neg (by simp)]
    clear hk C2
    go_enter Tryz.func7, Tryz.ntmps7
    have B0 := Lib.hid (show Below w.heap.size w ((w.alloc (.cells #[.int .i64 e, .bool p.u, .int .u64 (n64 p.k), .int .u64 (n64 p.l), .slice p.a p.rs.length p.c, .bool q.u, .int .u64 (n64 q.k), .int .u64 (n64 q.l), .slice q.a q.rs.length q.c, .bool t] 29)).alloc (.cells #[.int .i64 x, .int .i64 y, .int .i64 z] 31)) from (((Below.refl _ w).alloc (by simp) _).alloc (by simp) _))
    have KK0 := Lib.hid (show Blk ((w.alloc (.cells #[.int .i64 e, .bool p.u, .int .u64 (n64 p.k), .int .u64 (n64 p.l), .slice p.a p.rs.length p.c, .bool q.u, .int .u64 (n64 q.k), .int .u64 (n64 q.l), .slice q.a q.rs.length q.c, .bool t] 29)).alloc (.cells #[.int .i64 x, .int .i64 y, .int .i64 z] 31)) (w.heap.size) [.int .i64 e, .bool p.u, .int .u64 (n64 p.k), .int .u64 (n64 p.l), .slice p.a p.rs.length p.c, .bool q.u, .int .u64 (n64 q.k), .int .u64 (n64 q.l), .slice q.a q.rs.length q.c, .bool t] from (Blk.new w [.int .i64 e, .bool p.u, .int .u64 (n64 p.k), .int .u64 (n64 p.l), .slice p.a p.rs.length p.c, .bool q.u, .int .u64 (n64 q.k), .int .u64 (n64 q.l), .slice q.a q.rs.length q.c, .bool t] 29).alloc (.cells #[.int .i64 x, .int .i64 y, .int .i64 z] 31))
    have s1 : (w.alloc (.cells #[.int .i64 e, .bool p.u, .int .u64 (n64 p.k), .int .u64 (n64 p.l), .slice p.a p.rs.length p.c, .bool q.u, .int .u64 (n64 q.k), .int .u64 (n64 q.l), .slice q.a q.rs.length q.c, .bool t] 29)).heap.size = w.heap.size + 1 := by simp
    have KT0 := Lib.hid (show Blk ((w.alloc (.cells #[.int .i64 e, .bool p.u, .int .u64 (n64 p.k), .int .u64 (n64 p.l), .slice p.a p.rs.length p.c, .bool q.u, .int .u64 (n64 q.k), .int .u64 (n64 q.l), .slice q.a q.rs.length q.c, .bool t] 29)).alloc (.cells #[.int .i64 x, .int .i64 y, .int .i64 z] 31)) (w.heap.size + 1) [.int .i64 x, .int .i64 y, .int .i64 z] by have h0 := Blk.new (w.alloc (.cells #[.int .i64 e, .bool p.u, .int .u64 (n64 p.k), .int .u64 (n64 p.l), .slice p.a p.rs.length p.c, .bool q.u, .int .u64 (n64 q.k), .int .u64 (n64 q.l), .slice q.a q.rs.length q.c, .bool t] 29)) [.int .i64 x, .int .i64 y, .int .i64 z] 31; rwa [s1] at h0)
    have n_K_T : w.heap.size ≠ w.heap.size + 1 := by omega
    clear s1
    go_wp2_with fail
    change Calls _ _ _ ((w.alloc (.cells #[.int .i64 e, .bool p.u, .int .u64 (n64 p.k), .int .u64 (n64 p.l), .slice p.a p.rs.length p.c, .bool q.u, .int .u64 (n64 q.k), .int .u64 (n64 q.l), .slice q.a q.rs.length q.c, .bool t] 29)).alloc (.cells #[.int .i64 x, .int .i64 y, .int .i64 z] 31)) _
    generalize (w.alloc (.cells #[.int .i64 e, .bool p.u, .int .u64 (n64 p.k), .int .u64 (n64 p.l), .slice p.a p.rs.length p.c, .bool q.u, .int .u64 (n64 q.k), .int .u64 (n64 q.l), .slice q.a q.rs.length q.c, .bool t] 29)).alloc (.cells #[.int .i64 x, .int .i64 y, .int .i64 z] 31) = v0 at B0 KK0 KT0 ⊢
    generalize hh_T : w.heap.size + 1 = g_T at KT0 n_K_T ⊢
    generalize hh_K : w.heap.size = g_K at KK0 n_K_T ⊢
    have l_K : w.heap.size ≤ g_K := by omega
    have l_T : w.heap.size ≤ g_T := by omega
    clear hh_K hh_T
    refine (C1.out _ (HP.out.below B0.out) (HQ.out.below B0.out)).mono ?_
    rintro e v1 ⟨rfl, hb⟩
    have B1 := Lib.hid (B0.out.trans (hb.mono B0.out.size))
    have KK1 := Lib.hid (KK0.out.below hb)
    have KT1 := Lib.hid (KT0.out.below hb)
    clear hb B0 KK0 KT0
    obtain ⟨⟨cK0, cK1, cK2, cK3, cK4, cK5, cK6, cK7, cK8, cK9⟩, dK0, dK1, dK2, dK3, dK4, dK5, dK6, dK7, dK8, dK9⟩ := KK1.out.of10
    obtain ⟨⟨cT0, cT1, cT2⟩, dT0, dT1, dT2⟩ := KT1.out.o3
    go_wp2_with fail
    exact bodyPost_ret (v := .tuple #[.int .i64 0, .int .i64 0, .bool false]) (by simp [results, Tryz.results7, go_sem]) rfl ⟨rfl, B1.out⟩
  | true =>
    obtain ⟨⟨e0, e1⟩, _, _, ht1, _⟩ := keysOk_all hk
    cases hw : wordOk c 32 with
    | false =>
      unfold ck
      rw [hw, Bool.and_false, if_neg (by simp)]
      rw [hw] at C2
      clear hk hw ht1
      go_enter Tryz.func7, Tryz.ntmps7
      have B0 := Lib.hid (show Below w.heap.size w ((w.alloc (.cells #[.int .i64 e, .bool p.u, .int .u64 (n64 p.k), .int .u64 (n64 p.l), .slice p.a p.rs.length p.c, .bool q.u, .int .u64 (n64 q.k), .int .u64 (n64 q.l), .slice q.a q.rs.length q.c, .bool t] 29)).alloc (.cells #[.int .i64 x, .int .i64 y, .int .i64 z] 31)) from (((Below.refl _ w).alloc (by simp) _).alloc (by simp) _))
      have KK0 := Lib.hid (show Blk ((w.alloc (.cells #[.int .i64 e, .bool p.u, .int .u64 (n64 p.k), .int .u64 (n64 p.l), .slice p.a p.rs.length p.c, .bool q.u, .int .u64 (n64 q.k), .int .u64 (n64 q.l), .slice q.a q.rs.length q.c, .bool t] 29)).alloc (.cells #[.int .i64 x, .int .i64 y, .int .i64 z] 31)) (w.heap.size) [.int .i64 e, .bool p.u, .int .u64 (n64 p.k), .int .u64 (n64 p.l), .slice p.a p.rs.length p.c, .bool q.u, .int .u64 (n64 q.k), .int .u64 (n64 q.l), .slice q.a q.rs.length q.c, .bool t] from (Blk.new w [.int .i64 e, .bool p.u, .int .u64 (n64 p.k), .int .u64 (n64 p.l), .slice p.a p.rs.length p.c, .bool q.u, .int .u64 (n64 q.k), .int .u64 (n64 q.l), .slice q.a q.rs.length q.c, .bool t] 29).alloc (.cells #[.int .i64 x, .int .i64 y, .int .i64 z] 31))
      have s1 : (w.alloc (.cells #[.int .i64 e, .bool p.u, .int .u64 (n64 p.k), .int .u64 (n64 p.l), .slice p.a p.rs.length p.c, .bool q.u, .int .u64 (n64 q.k), .int .u64 (n64 q.l), .slice q.a q.rs.length q.c, .bool t] 29)).heap.size = w.heap.size + 1 := by simp
      have KT0 := Lib.hid (show Blk ((w.alloc (.cells #[.int .i64 e, .bool p.u, .int .u64 (n64 p.k), .int .u64 (n64 p.l), .slice p.a p.rs.length p.c, .bool q.u, .int .u64 (n64 q.k), .int .u64 (n64 q.l), .slice q.a q.rs.length q.c, .bool t] 29)).alloc (.cells #[.int .i64 x, .int .i64 y, .int .i64 z] 31)) (w.heap.size + 1) [.int .i64 x, .int .i64 y, .int .i64 z] by have h0 := Blk.new (w.alloc (.cells #[.int .i64 e, .bool p.u, .int .u64 (n64 p.k), .int .u64 (n64 p.l), .slice p.a p.rs.length p.c, .bool q.u, .int .u64 (n64 q.k), .int .u64 (n64 q.l), .slice q.a q.rs.length q.c, .bool t] 29)) [.int .i64 x, .int .i64 y, .int .i64 z] 31; rwa [s1] at h0)
      have n_K_T : w.heap.size ≠ w.heap.size + 1 := by omega
      clear s1
      go_wp2_with fail
      change Calls _ _ _ ((w.alloc (.cells #[.int .i64 e, .bool p.u, .int .u64 (n64 p.k), .int .u64 (n64 p.l), .slice p.a p.rs.length p.c, .bool q.u, .int .u64 (n64 q.k), .int .u64 (n64 q.l), .slice q.a q.rs.length q.c, .bool t] 29)).alloc (.cells #[.int .i64 x, .int .i64 y, .int .i64 z] 31)) _
      generalize (w.alloc (.cells #[.int .i64 e, .bool p.u, .int .u64 (n64 p.k), .int .u64 (n64 p.l), .slice p.a p.rs.length p.c, .bool q.u, .int .u64 (n64 q.k), .int .u64 (n64 q.l), .slice q.a q.rs.length q.c, .bool t] 29)).alloc (.cells #[.int .i64 x, .int .i64 y, .int .i64 z] 31) = v0 at B0 KK0 KT0 ⊢
      generalize hh_T : w.heap.size + 1 = g_T at KT0 n_K_T ⊢
      generalize hh_K : w.heap.size = g_K at KK0 n_K_T ⊢
      have l_K : w.heap.size ≤ g_K := by omega
      have l_T : w.heap.size ≤ g_T := by omega
      clear hh_K hh_T
      refine (C1.out _ (HP.out.below B0.out) (HQ.out.below B0.out)).mono ?_
      rintro e v1 ⟨rfl, hb⟩
      have B1 := Lib.hid (B0.out.trans (hb.mono B0.out.size))
      have KK1 := Lib.hid (KK0.out.below hb)
      have KT1 := Lib.hid (KT0.out.below hb)
      clear hb B0 KK0 KT0
      obtain ⟨⟨cK0, cK1, cK2, cK3, cK4, cK5, cK6, cK7, cK8, cK9⟩, dK0, dK1, dK2, dK3, dK4, dK5, dK6, dK7, dK8, dK9⟩ := KK1.out.of10
      obtain ⟨⟨cT0, cT1, cT2⟩, dT0, dT1, dT2⟩ := KT1.out.o3
      go_wp2_with fail
      clear cK0 cK1 cK2 cK3 cK4 cK5 cK6 cK7 cK8 cK9 dK0 dK1 dK2 dK3 dK4 dK5 dK6 dK7 dK8 dK9 cT0 cT1 cT2 dT0 dT1 dT2
      refine (C2.out _).mono ?_
      rintro e v2 ⟨rfl, hb⟩
      have B2 := Lib.hid (B1.out.trans (hb.mono B1.out.size))
      have KK2 := Lib.hid (KK1.out.below hb)
      have KT2 := Lib.hid (KT1.out.below hb)
      clear hb B1 KK1 KT1
      obtain ⟨⟨cK0, cK1, cK2, cK3, cK4, cK5, cK6, cK7, cK8, cK9⟩, dK0, dK1, dK2, dK3, dK4, dK5, dK6, dK7, dK8, dK9⟩ := KK2.out.of10
      obtain ⟨⟨cT0, cT1, cT2⟩, dT0, dT1, dT2⟩ := KT2.out.o3
      go_wp2_with fail
      exact bodyPost_ret (v := .tuple #[.int .i64 0, .int .i64 0, .bool false]) (by simp [results, Tryz.results7, go_sem]) rfl ⟨rfl, B2.out⟩
    | true =>
      have hi := (cp_bd hw).2.2.1
      have hi7 := cpI_small c
      unfold ck
      rw [hk, hw, Bool.true_and, if_pos rfl]
      rw [hw] at C2
      generalize cpE c = c0 at *
      generalize cpI c = i at *
      generalize cpT c = c2 at *
      clear hk hw
      have D1 : Hid (∀ (a : Option Addr) (d : Nat) (w : World), (p.at a d).On w → Calls Tryz.prog 10 #[.agg #[.bool p.u, .int .u64 (n64 p.k), .int .u64 (n64 p.l), .slice a p.rs.length d], .agg #[.int .i64 x, .int .i64 y, .int .i64 z], .int .i64 s, .int .i64 e, .int .i64 i] w (EndN (cookieOf p x y z s e i) w)) := fun a d w h => cookieOfI (p.at a d) x y z s e i w h fp
      have D2 : Hid (∀ (a : Option Addr) (d : Nat) (w : World), (q.at a d).On w → Calls Tryz.prog 10 #[.agg #[.bool q.u, .int .u64 (n64 q.k), .int .u64 (n64 q.l), .slice a q.rs.length d], .agg #[.int .i64 x, .int .i64 y, .int .i64 z], .int .i64 s, .int .i64 (e - 1), .int .i64 i] w (EndN (cookieOf q x y z s (e - 1) i) w)) := fun a d w h => cookieOfI (q.at a d) x y z s (e - 1) i w h fq
      generalize cookieOf p x y z s e i = y1 at *
      generalize cookieOf q x y z s (e - 1) i = y2 at *
      have w1 : IntKind.i64.wrap (e - 1) = e - 1 := IntWalk.i64_in _ (by omega)
      have w2 : wrap64 (e - 1) = e - 1 := by unfold wrap64; omega
      have HT1 := Lib.hid ht1
      clear ht1
      go_enter Tryz.func7, Tryz.ntmps7
      have B0 := Lib.hid (show Below w.heap.size w ((w.alloc (.cells #[.int .i64 e, .bool p.u, .int .u64 (n64 p.k), .int .u64 (n64 p.l), .slice p.a p.rs.length p.c, .bool q.u, .int .u64 (n64 q.k), .int .u64 (n64 q.l), .slice q.a q.rs.length q.c, .bool t] 29)).alloc (.cells #[.int .i64 x, .int .i64 y, .int .i64 z] 31)) from (((Below.refl _ w).alloc (by simp) _).alloc (by simp) _))
      have KK0 := Lib.hid (show Blk ((w.alloc (.cells #[.int .i64 e, .bool p.u, .int .u64 (n64 p.k), .int .u64 (n64 p.l), .slice p.a p.rs.length p.c, .bool q.u, .int .u64 (n64 q.k), .int .u64 (n64 q.l), .slice q.a q.rs.length q.c, .bool t] 29)).alloc (.cells #[.int .i64 x, .int .i64 y, .int .i64 z] 31)) (w.heap.size) [.int .i64 e, .bool p.u, .int .u64 (n64 p.k), .int .u64 (n64 p.l), .slice p.a p.rs.length p.c, .bool q.u, .int .u64 (n64 q.k), .int .u64 (n64 q.l), .slice q.a q.rs.length q.c, .bool t] from (Blk.new w [.int .i64 e, .bool p.u, .int .u64 (n64 p.k), .int .u64 (n64 p.l), .slice p.a p.rs.length p.c, .bool q.u, .int .u64 (n64 q.k), .int .u64 (n64 q.l), .slice q.a q.rs.length q.c, .bool t] 29).alloc (.cells #[.int .i64 x, .int .i64 y, .int .i64 z] 31))
      have s1 : (w.alloc (.cells #[.int .i64 e, .bool p.u, .int .u64 (n64 p.k), .int .u64 (n64 p.l), .slice p.a p.rs.length p.c, .bool q.u, .int .u64 (n64 q.k), .int .u64 (n64 q.l), .slice q.a q.rs.length q.c, .bool t] 29)).heap.size = w.heap.size + 1 := by simp
      have KT0 := Lib.hid (show Blk ((w.alloc (.cells #[.int .i64 e, .bool p.u, .int .u64 (n64 p.k), .int .u64 (n64 p.l), .slice p.a p.rs.length p.c, .bool q.u, .int .u64 (n64 q.k), .int .u64 (n64 q.l), .slice q.a q.rs.length q.c, .bool t] 29)).alloc (.cells #[.int .i64 x, .int .i64 y, .int .i64 z] 31)) (w.heap.size + 1) [.int .i64 x, .int .i64 y, .int .i64 z] by have h0 := Blk.new (w.alloc (.cells #[.int .i64 e, .bool p.u, .int .u64 (n64 p.k), .int .u64 (n64 p.l), .slice p.a p.rs.length p.c, .bool q.u, .int .u64 (n64 q.k), .int .u64 (n64 q.l), .slice q.a q.rs.length q.c, .bool t] 29)) [.int .i64 x, .int .i64 y, .int .i64 z] 31; rwa [s1] at h0)
      have n_K_T : w.heap.size ≠ w.heap.size + 1 := by omega
      clear s1
      go_wp2_with fail
      change Calls _ _ _ ((w.alloc (.cells #[.int .i64 e, .bool p.u, .int .u64 (n64 p.k), .int .u64 (n64 p.l), .slice p.a p.rs.length p.c, .bool q.u, .int .u64 (n64 q.k), .int .u64 (n64 q.l), .slice q.a q.rs.length q.c, .bool t] 29)).alloc (.cells #[.int .i64 x, .int .i64 y, .int .i64 z] 31)) _
      generalize (w.alloc (.cells #[.int .i64 e, .bool p.u, .int .u64 (n64 p.k), .int .u64 (n64 p.l), .slice p.a p.rs.length p.c, .bool q.u, .int .u64 (n64 q.k), .int .u64 (n64 q.l), .slice q.a q.rs.length q.c, .bool t] 29)).alloc (.cells #[.int .i64 x, .int .i64 y, .int .i64 z] 31) = v0 at B0 KK0 KT0 ⊢
      generalize hh_T : w.heap.size + 1 = g_T at KT0 n_K_T ⊢
      generalize hh_K : w.heap.size = g_K at KK0 n_K_T ⊢
      have l_K : w.heap.size ≤ g_K := by omega
      have l_T : w.heap.size ≤ g_T := by omega
      clear hh_K hh_T
      refine (C1.out _ (HP.out.below B0.out) (HQ.out.below B0.out)).mono ?_
      rintro e v1 ⟨rfl, hb⟩
      have B1 := Lib.hid (B0.out.trans (hb.mono B0.out.size))
      have KK1 := Lib.hid (KK0.out.below hb)
      have KT1 := Lib.hid (KT0.out.below hb)
      clear hb B0 KK0 KT0
      obtain ⟨⟨cK0, cK1, cK2, cK3, cK4, cK5, cK6, cK7, cK8, cK9⟩, dK0, dK1, dK2, dK3, dK4, dK5, dK6, dK7, dK8, dK9⟩ := KK1.out.of10
      obtain ⟨⟨cT0, cT1, cT2⟩, dT0, dT1, dT2⟩ := KT1.out.o3
      go_wp2_with fail
      clear cK0 cK1 cK2 cK3 cK4 cK5 cK6 cK7 cK8 cK9 dK0 dK1 dK2 dK3 dK4 dK5 dK6 dK7 dK8 dK9 cT0 cT1 cT2 dT0 dT1 dT2
      refine (C2.out _).mono ?_
      rintro e v2 ⟨rfl, hb⟩
      have B2 := Lib.hid (B1.out.trans (hb.mono B1.out.size))
      have KK2 := Lib.hid (KK1.out.below hb)
      have KT2 := Lib.hid (KT1.out.below hb)
      clear hb B1 KK1 KT1
      obtain ⟨⟨cK0, cK1, cK2, cK3, cK4, cK5, cK6, cK7, cK8, cK9⟩, dK0, dK1, dK2, dK3, dK4, dK5, dK6, dK7, dK8, dK9⟩ := KK2.out.of10
      obtain ⟨⟨cT0, cT1, cT2⟩, dT0, dT1, dT2⟩ := KT2.out.o3
      go_wp2_with fail
      clear cK0 cK1 cK2 cK3 cK4 cK5 cK6 cK7 cK8 cK9 dK0 dK1 dK2 dK3 dK4 dK5 dK6 dK7 dK8 dK9 cT0 cT1 cT2 dT0 dT1 dT2
      refine (C3.out _).mono ?_
      rintro e v3 ⟨rfl, hb⟩
      have B3 := Lib.hid (B2.out.trans (hb.mono B2.out.size))
      have KK3 := Lib.hid (KK2.out.below hb)
      have KT3 := Lib.hid (KT2.out.below hb)
      clear hb B2 KK2 KT2
      obtain ⟨⟨cK0, cK1, cK2, cK3, cK4, cK5, cK6, cK7, cK8, cK9⟩, dK0, dK1, dK2, dK3, dK4, dK5, dK6, dK7, dK8, dK9⟩ := KK3.out.of10
      obtain ⟨⟨cT0, cT1, cT2⟩, dT0, dT1, dT2⟩ := KT3.out.o3
      go_wp2_with fail
      clear cK0 cK1 cK2 cK3 cK4 cK5 cK6 cK7 cK8 cK9 dK0 dK1 dK2 dK3 dK4 dK5 dK6 dK7 dK8 dK9 cT0 cT1 cT2 dT0 dT1 dT2
      have ix0 : ∀ w : World, (Instr.index 50 (.agg #[.int .i64 e, .int .i64 (e - 1)]) (.int .i64 0)).run Tryz.prog w = .ok (.int .i64 e) w := fun _ => by kernel_rfl
      have ix1 : ∀ w : World, (Instr.index 50 (.agg #[.int .i64 e, .int .i64 (e - 1)]) (.int .i64 1)).run Tryz.prog w = .ok (.int .i64 (e - 1)) w := fun _ => by kernel_rfl
      go_loopw [38] (fun i0 wr => ∃ j : Nat, i0 = .int .i64 ((j : Nat) : Int) ∧ Hid (Below v3.heap.size v3 wr) ∧ (j = 0 ∨ (j = 1 ∧ Hid ((y1 == c) = false)) ∨ (j = 2 ∧ Hid ((y1 == c) = false) ∧ Hid (t = false ∨ (y2 == c) = false)))) (fun i0 _ => 2 - (RowKit.intOf i0).toNat)
      case atStart => exact ⟨0, by rfl, Below.refl _ _, .inl rfl⟩
      case round =>
        obtain ⟨j, rfl, hbl, hj⟩ := hrel
        rcases hj with rfl | ⟨rfl, hy1⟩ | ⟨rfl, hy1, hy2⟩
        · have B50 := Lib.hid (B3.out.trans (hbl.out.mono B3.out.size))
          have hbl' := hbl
          have KK50 := Lib.hid (KK3.out.below hbl.out)
          have KT50 := Lib.hid (KT3.out.below hbl.out)
          clear hbl
          obtain ⟨⟨cK0, cK1, cK2, cK3, cK4, cK5, cK6, cK7, cK8, cK9⟩, dK0, dK1, dK2, dK3, dK4, dK5, dK6, dK7, dK8, dK9⟩ := KK50.out.of10
          obtain ⟨⟨cT0, cT1, cT2⟩, dT0, dT1, dT2⟩ := KT50.out.o3
          go_wp2_with fail
          clear cK0 cK1 cK2 cK3 cK4 cK5 cK6 cK7 cK8 cK9 dK0 dK1 dK2 dK3 dK4 dK5 dK6 dK7 dK8 dK9 cT0 cT1 cT2 dT0 dT1 dT2
          refine (secNowI e p q t _ (HP.out.below B50.out) (HQ.out.below B50.out) fp).mono ?_
          rintro e v51 ⟨a, d, rfl, ho, hn, hb⟩
          have O := Lib.hid ho
          clear ho
          have B51 := Lib.hid (B50.out.trans (hb.mono B50.out.size))
          replace hbl' := Lib.hid (hbl'.out.trans (hb.mono hbl'.out.size))
          have KK51 := Lib.hid (KK50.out.below hb)
          have KT51 := Lib.hid (KT50.out.below hb)
          clear hb B50 KK50 KT50
          have hon := Lib.hid (M.on_I O.out hn)
          clear O hn
          have KSn := Lib.hid (Blk.new v51 [.bool p.u, .int .u64 (n64 p.k), .int .u64 (n64 p.l), .slice a p.rs.length d] 27)
          have n_K_S : g_K ≠ v51.heap.size := by have h1 := KK51.out.lt; omega
          have n_T_S : g_T ≠ v51.heap.size := by have h1 := KT51.out.lt; omega
          have Bn := Lib.hid (B51.out.alloc B51.out.size (.cells #[.bool p.u, .int .u64 (n64 p.k), .int .u64 (n64 p.l), .slice a p.rs.length d] 27))
          replace hbl' := Lib.hid (hbl'.out.alloc hbl'.out.size (.cells #[.bool p.u, .int .u64 (n64 p.k), .int .u64 (n64 p.l), .slice a p.rs.length d] 27))
          have KKn := Lib.hid (KK51.out.alloc (.cells #[.bool p.u, .int .u64 (n64 p.k), .int .u64 (n64 p.l), .slice a p.rs.length d] 27))
          have KTn := Lib.hid (KT51.out.alloc (.cells #[.bool p.u, .int .u64 (n64 p.k), .int .u64 (n64 p.l), .slice a p.rs.length d] 27))
          have Hmn := Lib.hid (hon.out.alloc (.cells #[.bool p.u, .int .u64 (n64 p.k), .int .u64 (n64 p.l), .slice a p.rs.length d] 27))
          clear B51 KK51 KT51 hon
          obtain ⟨⟨cK0, cK1, cK2, cK3, cK4, cK5, cK6, cK7, cK8, cK9⟩, dK0, dK1, dK2, dK3, dK4, dK5, dK6, dK7, dK8, dK9⟩ := KKn.out.of10
          obtain ⟨⟨cT0, cT1, cT2⟩, dT0, dT1, dT2⟩ := KTn.out.o3
          go_wp2_with fail
          clear cK0 cK1 cK2 cK3 cK4 cK5 cK6 cK7 cK8 cK9 dK0 dK1 dK2 dK3 dK4 dK5 dK6 dK7 dK8 dK9 cT0 cT1 cT2 dT0 dT1 dT2
          change Calls _ _ _ (v51.alloc (.cells #[.bool p.u, .int .u64 (n64 p.k), .int .u64 (n64 p.l), .slice a p.rs.length d] 27)) _
          generalize v51.alloc (.cells #[.bool p.u, .int .u64 (n64 p.k), .int .u64 (n64 p.l), .slice a p.rs.length d] 27) = v52 at hbl' KSn Bn KKn KTn Hmn ⊢
          generalize v51.heap.size = g_S at KSn n_K_S n_T_S ⊢
          clear v51
          have KK52 := KKn
          clear KKn
          have KT52 := KTn
          clear KTn
          have KS52 := KSn
          clear KSn
          have Hm52 := Hmn
          clear Hmn
          have B52 := Bn
          clear Bn
          refine (D1.out a d _ Hm52.out).mono ?_
          rintro e v53 ⟨rfl, hb⟩
          have B53 := Lib.hid (B52.out.trans (hb.mono B52.out.size))
          replace hbl' := Lib.hid (hbl'.out.trans (hb.mono hbl'.out.size))
          have KK53 := Lib.hid (KK52.out.below hb)
          have KT53 := Lib.hid (KT52.out.below hb)
          have KS53 := Lib.hid (KS52.out.below hb)
          have Hm53 := Lib.hid (Hm52.out.below hb)
          clear hb B52 KK52 KT52 KS52 Hm52
          by_cases hy : (y1 == c) = false
          obtain ⟨⟨cK0, cK1, cK2, cK3, cK4, cK5, cK6, cK7, cK8, cK9⟩, dK0, dK1, dK2, dK3, dK4, dK5, dK6, dK7, dK8, dK9⟩ := KK53.out.of10
          obtain ⟨⟨cT0, cT1, cT2⟩, dT0, dT1, dT2⟩ := KT53.out.o3
          obtain ⟨⟨cS0, cS1, cS2, cS3⟩, dS0, dS1, dS2, dS3⟩ := KS53.out.four
          · go_wp2_with fail
            go_roundw
            case rel => exact ⟨1, by go_num, hbl', .inr (.inl ⟨rfl, hy⟩)⟩
            case measure => simp [RowKit.intOf] <;> omega
          · obtain rfl : y1 = c := by simpa using hy
            clear hy
            go_wp2_with fail
            exact bodyPost_ret (v := .tuple #[.int .i64 e, .int .i64 i, .bool true]) (by simp [results, Tryz.results7, go_sem]) rfl ⟨by rw [ckR_one rfl], B53.out⟩
        · have hne : ((e - 1) == e) = false := by simp; omega
          cases t with
          | true =>
            have B50 := Lib.hid (B3.out.trans (hbl.out.mono B3.out.size))
            have hbl' := hbl
            have KK50 := Lib.hid (KK3.out.below hbl.out)
            have KT50 := Lib.hid (KT3.out.below hbl.out)
            clear hbl
            obtain ⟨⟨cK0, cK1, cK2, cK3, cK4, cK5, cK6, cK7, cK8, cK9⟩, dK0, dK1, dK2, dK3, dK4, dK5, dK6, dK7, dK8, dK9⟩ := KK50.out.of10
            obtain ⟨⟨cT0, cT1, cT2⟩, dT0, dT1, dT2⟩ := KT50.out.o3
            go_wp2_with fail
            clear cK0 cK1 cK2 cK3 cK4 cK5 cK6 cK7 cK8 cK9 dK0 dK1 dK2 dK3 dK4 dK5 dK6 dK7 dK8 dK9 cT0 cT1 cT2 dT0 dT1 dT2
            refine (secBefI e (e - 1) p q _ (HP.out.below B50.out) (HQ.out.below B50.out) fq hne w2.symm).mono ?_
            rintro e v51 ⟨a, d, rfl, ho, hn, hb⟩
            have O := Lib.hid ho
            clear ho
            have B51 := Lib.hid (B50.out.trans (hb.mono B50.out.size))
            replace hbl' := Lib.hid (hbl'.out.trans (hb.mono hbl'.out.size))
            have KK51 := Lib.hid (KK50.out.below hb)
            have KT51 := Lib.hid (KT50.out.below hb)
            clear hb B50 KK50 KT50
            have hon := Lib.hid (M.on_I O.out hn)
            clear O hn
            have KSn := Lib.hid (Blk.new v51 [.bool q.u, .int .u64 (n64 q.k), .int .u64 (n64 q.l), .slice a q.rs.length d] 27)
            have n_K_S : g_K ≠ v51.heap.size := by have h1 := KK51.out.lt; omega
            have n_T_S : g_T ≠ v51.heap.size := by have h1 := KT51.out.lt; omega
            have Bn := Lib.hid (B51.out.alloc B51.out.size (.cells #[.bool q.u, .int .u64 (n64 q.k), .int .u64 (n64 q.l), .slice a q.rs.length d] 27))
            replace hbl' := Lib.hid (hbl'.out.alloc hbl'.out.size (.cells #[.bool q.u, .int .u64 (n64 q.k), .int .u64 (n64 q.l), .slice a q.rs.length d] 27))
            have KKn := Lib.hid (KK51.out.alloc (.cells #[.bool q.u, .int .u64 (n64 q.k), .int .u64 (n64 q.l), .slice a q.rs.length d] 27))
            have KTn := Lib.hid (KT51.out.alloc (.cells #[.bool q.u, .int .u64 (n64 q.k), .int .u64 (n64 q.l), .slice a q.rs.length d] 27))
            have Hmn := Lib.hid (hon.out.alloc (.cells #[.bool q.u, .int .u64 (n64 q.k), .int .u64 (n64 q.l), .slice a q.rs.length d] 27))
            clear B51 KK51 KT51 hon
            obtain ⟨⟨cK0, cK1, cK2, cK3, cK4, cK5, cK6, cK7, cK8, cK9⟩, dK0, dK1, dK2, dK3, dK4, dK5, dK6, dK7, dK8, dK9⟩ := KKn.out.of10
            obtain ⟨⟨cT0, cT1, cT2⟩, dT0, dT1, dT2⟩ := KTn.out.o3
            go_wp2_with fail
            clear cK0 cK1 cK2 cK3 cK4 cK5 cK6 cK7 cK8 cK9 dK0 dK1 dK2 dK3 dK4 dK5 dK6 dK7 dK8 dK9 cT0 cT1 cT2 dT0 dT1 dT2
            change Calls _ _ _ (v51.alloc (.cells #[.bool q.u, .int .u64 (n64 q.k), .int .u64 (n64 q.l), .slice a q.rs.length d] 27)) _
            generalize v51.alloc (.cells #[.bool q.u, .int .u64 (n64 q.k), .int .u64 (n64 q.l), .slice a q.rs.length d] 27) = v52 at hbl' KSn Bn KKn KTn Hmn ⊢
            generalize v51.heap.size = g_S at KSn n_K_S n_T_S ⊢
            clear v51
            have KK52 := KKn
            clear KKn
            have KT52 := KTn
            clear KTn
            have KS52 := KSn
            clear KSn
            have Hm52 := Hmn
            clear Hmn
            have B52 := Bn
            clear Bn
            refine (D2.out a d _ Hm52.out).mono ?_
            rintro e v53 ⟨rfl, hb⟩
            have B53 := Lib.hid (B52.out.trans (hb.mono B52.out.size))
            replace hbl' := Lib.hid (hbl'.out.trans (hb.mono hbl'.out.size))
            have KK53 := Lib.hid (KK52.out.below hb)
            have KT53 := Lib.hid (KT52.out.below hb)
            have KS53 := Lib.hid (KS52.out.below hb)
            have Hm53 := Lib.hid (Hm52.out.below hb)
            clear hb B52 KK52 KT52 KS52 Hm52
            by_cases hy : (y2 == c) = false
            obtain ⟨⟨cK0, cK1, cK2, cK3, cK4, cK5, cK6, cK7, cK8, cK9⟩, dK0, dK1, dK2, dK3, dK4, dK5, dK6, dK7, dK8, dK9⟩ := KK53.out.of10
            obtain ⟨⟨cT0, cT1, cT2⟩, dT0, dT1, dT2⟩ := KT53.out.o3
            obtain ⟨⟨cS0, cS1, cS2, cS3⟩, dS0, dS1, dS2, dS3⟩ := KS53.out.four
            · go_wp2_with fail
              go_roundw
              case rel => exact ⟨2, by go_num, hbl', .inr (.inr ⟨rfl, hy1, .inr hy⟩)⟩
              case measure => simp [RowKit.intOf] <;> omega
            · obtain rfl : y2 = c := by simpa using hy
              clear hy
              go_wp2_with fail
              exact bodyPost_ret (v := .tuple #[.int .i64 (e - 1), .int .i64 i, .bool true]) (by simp [results, Tryz.results7, go_sem]) rfl ⟨by rw [ckR_two hy1.out rfl], B53.out⟩
          | false =>
            have B50 := Lib.hid (B3.out.trans (hbl.out.mono B3.out.size))
            have hbl' := hbl
            have KK50 := Lib.hid (KK3.out.below hbl.out)
            have KT50 := Lib.hid (KT3.out.below hbl.out)
            clear hbl
            obtain ⟨⟨cK0, cK1, cK2, cK3, cK4, cK5, cK6, cK7, cK8, cK9⟩, dK0, dK1, dK2, dK3, dK4, dK5, dK6, dK7, dK8, dK9⟩ := KK50.out.of10
            obtain ⟨⟨cT0, cT1, cT2⟩, dT0, dT1, dT2⟩ := KT50.out.o3
            go_wp2_with fail
            clear cK0 cK1 cK2 cK3 cK4 cK5 cK6 cK7 cK8 cK9 dK0 dK1 dK2 dK3 dK4 dK5 dK6 dK7 dK8 dK9 cT0 cT1 cT2 dT0 dT1 dT2
            refine (secNoOneI e (e - 1) p q _ hne).mono ?_
            rintro e v51 ⟨rfl, hb⟩
            have B51 := Lib.hid (B50.out.trans (hb.mono B50.out.size))
            replace hbl' := Lib.hid (hbl'.out.trans (hb.mono hbl'.out.size))
            have KK51 := Lib.hid (KK50.out.below hb)
            have KT51 := Lib.hid (KT50.out.below hb)
            clear hb B50 KK50 KT50
            obtain ⟨⟨cK0, cK1, cK2, cK3, cK4, cK5, cK6, cK7, cK8, cK9⟩, dK0, dK1, dK2, dK3, dK4, dK5, dK6, dK7, dK8, dK9⟩ := KK51.out.of10
            obtain ⟨⟨cT0, cT1, cT2⟩, dT0, dT1, dT2⟩ := KT51.out.o3
            go_wp2_with fail
            go_roundw
            case rel => exact ⟨2, by go_num, hbl'.out.alloc hbl'.out.size _, .inr (.inr ⟨rfl, hy1, .inl (by simp)⟩)⟩
            case measure => simp [RowKit.intOf] <;> omega
        · have B50 := Lib.hid (B3.out.trans (hbl.out.mono B3.out.size))
          have KK50 := Lib.hid (KK3.out.below hbl.out)
          have KT50 := Lib.hid (KT3.out.below hbl.out)
          clear hbl
          obtain ⟨⟨cK0, cK1, cK2, cK3, cK4, cK5, cK6, cK7, cK8, cK9⟩, dK0, dK1, dK2, dK3, dK4, dK5, dK6, dK7, dK8, dK9⟩ := KK50.out.of10
          obtain ⟨⟨cT0, cT1, cT2⟩, dT0, dT1, dT2⟩ := KT50.out.o3
          go_wp2_with fail
          all_goals exact bodyPost_ret (v := .tuple #[.int .i64 0, .int .i64 0, .bool false]) (by simp [results, Tryz.results7, go_sem]) rfl ⟨by rw [ckR_no hy1.out hy2.out], B50.out⟩

set_option maxRecDepth 100000 in
set_option maxHeartbeats 4000000 in
theorem checkS (e : Int) (p q : M) (t : Bool) (x y z s c : Int) (w : World) (hp : p.On w) (hq : q.On w) (fp : p.Fit) (fq : q.Fit) :
    Calls Tryz.prog 8 #[.agg #[.int .i64 e, .bool p.u, .int .u64 (n64 p.k), .int .u64 (n64 p.l), .slice p.a p.rs.length p.c, .bool q.u, .int .u64 (n64 q.k), .int .u64 (n64 q.l), .slice q.a q.rs.length q.c, .bool t], .agg #[.int .i64 x, .int .i64 y, .int .i64 z], .int .i64 s, .int .i64 c] w (EndC (ck e p q t x y z s c) w) := by
  have HP := Lib.hid hp
  have HQ := Lib.hid hq
  clear hp hq
  have C1 := Lib.hid (fun w h1 h2 => keysOkS e p q t w h1 h2 fp fq)
  have C2 := True.intro
  have C3 : Hid (∀ w, Calls Tryz.prog 13 #[.int .i64 c] w fun x w' => x = .returned (.tuple #[.int .i64 (cpE c), .int .i64 (cpI c), .int .i64 (cpT c)]) ∧ Below w.heap.size w w') := fun w => (cookPS c w).mono fun x w' h => ⟨h.1, by rw [h.2]; exact Below.refl _ _⟩
  obtain ⟨k1, hk⟩ : ∃ b, keysOk e p q t = b := ⟨_, rfl⟩
  rw [hk] at C1
  cases k1 with
  | false =>
    unfold ck
    rw [hk, Bool.false_and, if_neg (by simp)]
    clear hk C2
    go_enter Tryz.func8, Tryz.ntmps8
    have B0 := Lib.hid (show Below w.heap.size w ((w.alloc (.cells #[.int .i64 e, .bool p.u, .int .u64 (n64 p.k), .int .u64 (n64 p.l), .slice p.a p.rs.length p.c, .bool q.u, .int .u64 (n64 q.k), .int .u64 (n64 q.l), .slice q.a q.rs.length q.c, .bool t] 29)).alloc (.cells #[.int .i64 x, .int .i64 y, .int .i64 z] 31)) from (((Below.refl _ w).alloc (by simp) _).alloc (by simp) _))
    have KK0 := Lib.hid (show Blk ((w.alloc (.cells #[.int .i64 e, .bool p.u, .int .u64 (n64 p.k), .int .u64 (n64 p.l), .slice p.a p.rs.length p.c, .bool q.u, .int .u64 (n64 q.k), .int .u64 (n64 q.l), .slice q.a q.rs.length q.c, .bool t] 29)).alloc (.cells #[.int .i64 x, .int .i64 y, .int .i64 z] 31)) (w.heap.size) [.int .i64 e, .bool p.u, .int .u64 (n64 p.k), .int .u64 (n64 p.l), .slice p.a p.rs.length p.c, .bool q.u, .int .u64 (n64 q.k), .int .u64 (n64 q.l), .slice q.a q.rs.length q.c, .bool t] from (Blk.new w [.int .i64 e, .bool p.u, .int .u64 (n64 p.k), .int .u64 (n64 p.l), .slice p.a p.rs.length p.c, .bool q.u, .int .u64 (n64 q.k), .int .u64 (n64 q.l), .slice q.a q.rs.length q.c, .bool t] 29).alloc (.cells #[.int .i64 x, .int .i64 y, .int .i64 z] 31))
    have s1 : (w.alloc (.cells #[.int .i64 e, .bool p.u, .int .u64 (n64 p.k), .int .u64 (n64 p.l), .slice p.a p.rs.length p.c, .bool q.u, .int .u64 (n64 q.k), .int .u64 (n64 q.l), .slice q.a q.rs.length q.c, .bool t] 29)).heap.size = w.heap.size + 1 := by simp
    have KT0 := Lib.hid (show Blk ((w.alloc (.cells #[.int .i64 e, .bool p.u, .int .u64 (n64 p.k), .int .u64 (n64 p.l), .slice p.a p.rs.length p.c, .bool q.u, .int .u64 (n64 q.k), .int .u64 (n64 q.l), .slice q.a q.rs.length q.c, .bool t] 29)).alloc (.cells #[.int .i64 x, .int .i64 y, .int .i64 z] 31)) (w.heap.size + 1) [.int .i64 x, .int .i64 y, .int .i64 z] by have h0 := Blk.new (w.alloc (.cells #[.int .i64 e, .bool p.u, .int .u64 (n64 p.k), .int .u64 (n64 p.l), .slice p.a p.rs.length p.c, .bool q.u, .int .u64 (n64 q.k), .int .u64 (n64 q.l), .slice q.a q.rs.length q.c, .bool t] 29)) [.int .i64 x, .int .i64 y, .int .i64 z] 31; rwa [s1] at h0)
    have n_K_T : w.heap.size ≠ w.heap.size + 1 := by omega
    clear s1
    go_wp2_with fail
    change Calls _ _ _ ((w.alloc (.cells #[.int .i64 e, .bool p.u, .int .u64 (n64 p.k), .int .u64 (n64 p.l), .slice p.a p.rs.length p.c, .bool q.u, .int .u64 (n64 q.k), .int .u64 (n64 q.l), .slice q.a q.rs.length q.c, .bool t] 29)).alloc (.cells #[.int .i64 x, .int .i64 y, .int .i64 z] 31)) _
    generalize (w.alloc (.cells #[.int .i64 e, .bool p.u, .int .u64 (n64 p.k), .int .u64 (n64 p.l), .slice p.a p.rs.length p.c, .bool q.u, .int .u64 (n64 q.k), .int .u64 (n64 q.l), .slice q.a q.rs.length q.c, .bool t] 29)).alloc (.cells #[.int .i64 x, .int .i64 y, .int .i64 z] 31) = v0 at B0 KK0 KT0 ⊢
    generalize hh_T : w.heap.size + 1 = g_T at KT0 n_K_T ⊢
    generalize hh_K : w.heap.size = g_K at KK0 n_K_T ⊢
    have l_K : w.heap.size ≤ g_K := by omega
    have l_T : w.heap.size ≤ g_T := by omega
    clear hh_K hh_T
    refine (C3.out _).mono ?_
    rintro e v1 ⟨rfl, hb⟩
    have B1 := Lib.hid (B0.out.trans (hb.mono B0.out.size))
    have KK1 := Lib.hid (KK0.out.below hb)
    have KT1 := Lib.hid (KT0.out.below hb)
    clear hb B0 KK0 KT0
    obtain ⟨⟨cK0, cK1, cK2, cK3, cK4, cK5, cK6, cK7, cK8, cK9⟩, dK0, dK1, dK2, dK3, dK4, dK5, dK6, dK7, dK8, dK9⟩ := KK1.out.of10
    obtain ⟨⟨cT0, cT1, cT2⟩, dT0, dT1, dT2⟩ := KT1.out.o3
    go_wp2_with fail
    clear cK0 cK1 cK2 cK3 cK4 cK5 cK6 cK7 cK8 cK9 dK0 dK1 dK2 dK3 dK4 dK5 dK6 dK7 dK8 dK9 cT0 cT1 cT2 dT0 dT1 dT2
    refine (C1.out _ (HP.out.below B1.out) (HQ.out.below B1.out)).mono ?_
    rintro e v2 ⟨rfl, hb⟩
    have B2 := Lib.hid (B1.out.trans (hb.mono B1.out.size))
    have KK2 := Lib.hid (KK1.out.below hb)
    have KT2 := Lib.hid (KT1.out.below hb)
    clear hb B1 KK1 KT1
    obtain ⟨⟨cK0, cK1, cK2, cK3, cK4, cK5, cK6, cK7, cK8, cK9⟩, dK0, dK1, dK2, dK3, dK4, dK5, dK6, dK7, dK8, dK9⟩ := KK2.out.of10
    obtain ⟨⟨cT0, cT1, cT2⟩, dT0, dT1, dT2⟩ := KT2.out.o3
    go_wp2_with fail
    exact bodyPost_ret (v := .tuple #[.int .i64 0, .int .i64 0, .bool false]) (by simp [results, Tryz.results8, go_sem]) rfl ⟨rfl, B2.out⟩
  | true =>
    obtain ⟨⟨e0, e1⟩, _, _, ht1, _⟩ := keysOk_all hk
    cases hw : wordOk c 32 with
    | false =>
      unfold ck
      rw [hw, Bool.and_false, if_neg (by simp)]
      rw [cpI_neg hw] at C3
      clear hk hw ht1
      go_enter Tryz.func8, Tryz.ntmps8
      have B0 := Lib.hid (show Below w.heap.size w ((w.alloc (.cells #[.int .i64 e, .bool p.u, .int .u64 (n64 p.k), .int .u64 (n64 p.l), .slice p.a p.rs.length p.c, .bool q.u, .int .u64 (n64 q.k), .int .u64 (n64 q.l), .slice q.a q.rs.length q.c, .bool t] 29)).alloc (.cells #[.int .i64 x, .int .i64 y, .int .i64 z] 31)) from (((Below.refl _ w).alloc (by simp) _).alloc (by simp) _))
      have KK0 := Lib.hid (show Blk ((w.alloc (.cells #[.int .i64 e, .bool p.u, .int .u64 (n64 p.k), .int .u64 (n64 p.l), .slice p.a p.rs.length p.c, .bool q.u, .int .u64 (n64 q.k), .int .u64 (n64 q.l), .slice q.a q.rs.length q.c, .bool t] 29)).alloc (.cells #[.int .i64 x, .int .i64 y, .int .i64 z] 31)) (w.heap.size) [.int .i64 e, .bool p.u, .int .u64 (n64 p.k), .int .u64 (n64 p.l), .slice p.a p.rs.length p.c, .bool q.u, .int .u64 (n64 q.k), .int .u64 (n64 q.l), .slice q.a q.rs.length q.c, .bool t] from (Blk.new w [.int .i64 e, .bool p.u, .int .u64 (n64 p.k), .int .u64 (n64 p.l), .slice p.a p.rs.length p.c, .bool q.u, .int .u64 (n64 q.k), .int .u64 (n64 q.l), .slice q.a q.rs.length q.c, .bool t] 29).alloc (.cells #[.int .i64 x, .int .i64 y, .int .i64 z] 31))
      have s1 : (w.alloc (.cells #[.int .i64 e, .bool p.u, .int .u64 (n64 p.k), .int .u64 (n64 p.l), .slice p.a p.rs.length p.c, .bool q.u, .int .u64 (n64 q.k), .int .u64 (n64 q.l), .slice q.a q.rs.length q.c, .bool t] 29)).heap.size = w.heap.size + 1 := by simp
      have KT0 := Lib.hid (show Blk ((w.alloc (.cells #[.int .i64 e, .bool p.u, .int .u64 (n64 p.k), .int .u64 (n64 p.l), .slice p.a p.rs.length p.c, .bool q.u, .int .u64 (n64 q.k), .int .u64 (n64 q.l), .slice q.a q.rs.length q.c, .bool t] 29)).alloc (.cells #[.int .i64 x, .int .i64 y, .int .i64 z] 31)) (w.heap.size + 1) [.int .i64 x, .int .i64 y, .int .i64 z] by have h0 := Blk.new (w.alloc (.cells #[.int .i64 e, .bool p.u, .int .u64 (n64 p.k), .int .u64 (n64 p.l), .slice p.a p.rs.length p.c, .bool q.u, .int .u64 (n64 q.k), .int .u64 (n64 q.l), .slice q.a q.rs.length q.c, .bool t] 29)) [.int .i64 x, .int .i64 y, .int .i64 z] 31; rwa [s1] at h0)
      have n_K_T : w.heap.size ≠ w.heap.size + 1 := by omega
      clear s1
      go_wp2_with fail
      change Calls _ _ _ ((w.alloc (.cells #[.int .i64 e, .bool p.u, .int .u64 (n64 p.k), .int .u64 (n64 p.l), .slice p.a p.rs.length p.c, .bool q.u, .int .u64 (n64 q.k), .int .u64 (n64 q.l), .slice q.a q.rs.length q.c, .bool t] 29)).alloc (.cells #[.int .i64 x, .int .i64 y, .int .i64 z] 31)) _
      generalize (w.alloc (.cells #[.int .i64 e, .bool p.u, .int .u64 (n64 p.k), .int .u64 (n64 p.l), .slice p.a p.rs.length p.c, .bool q.u, .int .u64 (n64 q.k), .int .u64 (n64 q.l), .slice q.a q.rs.length q.c, .bool t] 29)).alloc (.cells #[.int .i64 x, .int .i64 y, .int .i64 z] 31) = v0 at B0 KK0 KT0 ⊢
      generalize hh_T : w.heap.size + 1 = g_T at KT0 n_K_T ⊢
      generalize hh_K : w.heap.size = g_K at KK0 n_K_T ⊢
      have l_K : w.heap.size ≤ g_K := by omega
      have l_T : w.heap.size ≤ g_T := by omega
      clear hh_K hh_T
      refine (C3.out _).mono ?_
      rintro e v1 ⟨rfl, hb⟩
      have B1 := Lib.hid (B0.out.trans (hb.mono B0.out.size))
      have KK1 := Lib.hid (KK0.out.below hb)
      have KT1 := Lib.hid (KT0.out.below hb)
      clear hb B0 KK0 KT0
      obtain ⟨⟨cK0, cK1, cK2, cK3, cK4, cK5, cK6, cK7, cK8, cK9⟩, dK0, dK1, dK2, dK3, dK4, dK5, dK6, dK7, dK8, dK9⟩ := KK1.out.of10
      obtain ⟨⟨cT0, cT1, cT2⟩, dT0, dT1, dT2⟩ := KT1.out.o3
      go_wp2_with fail
      clear cK0 cK1 cK2 cK3 cK4 cK5 cK6 cK7 cK8 cK9 dK0 dK1 dK2 dK3 dK4 dK5 dK6 dK7 dK8 dK9 cT0 cT1 cT2 dT0 dT1 dT2
      refine (C1.out _ (HP.out.below B1.out) (HQ.out.below B1.out)).mono ?_
      rintro e v2 ⟨rfl, hb⟩
      have B2 := Lib.hid (B1.out.trans (hb.mono B1.out.size))
      have KK2 := Lib.hid (KK1.out.below hb)
      have KT2 := Lib.hid (KT1.out.below hb)
      clear hb B1 KK1 KT1
      obtain ⟨⟨cK0, cK1, cK2, cK3, cK4, cK5, cK6, cK7, cK8, cK9⟩, dK0, dK1, dK2, dK3, dK4, dK5, dK6, dK7, dK8, dK9⟩ := KK2.out.of10
      obtain ⟨⟨cT0, cT1, cT2⟩, dT0, dT1, dT2⟩ := KT2.out.o3
      go_wp2_with fail
      exact bodyPost_ret (v := .tuple #[.int .i64 0, .int .i64 0, .bool false]) (by simp [results, Tryz.results8, go_sem]) rfl ⟨rfl, B2.out⟩
    | true =>
      have hi := (cp_bd hw).2.2.1
      have hi7 := cpI_small c
      unfold ck
      rw [hk, hw, Bool.true_and, if_pos rfl]
      generalize cpE c = c0 at *
      generalize cpI c = i at *
      generalize cpT c = c2 at *
      clear hk hw
      have D1 : Hid (∀ (a : Option Addr) (d : Nat) (w : World), (p.at a d).On w → Calls Tryz.prog 11 #[.agg #[.bool p.u, .int .u64 (n64 p.k), .int .u64 (n64 p.l), .slice a p.rs.length d], .agg #[.int .i64 x, .int .i64 y, .int .i64 z], .int .i64 s, .int .i64 e, .int .i64 i] w (EndN (cookieOf p x y z s e i) w)) := fun a d w h => cookieOfS (p.at a d) x y z s e i w h fp
      have D2 : Hid (∀ (a : Option Addr) (d : Nat) (w : World), (q.at a d).On w → Calls Tryz.prog 11 #[.agg #[.bool q.u, .int .u64 (n64 q.k), .int .u64 (n64 q.l), .slice a q.rs.length d], .agg #[.int .i64 x, .int .i64 y, .int .i64 z], .int .i64 s, .int .i64 (e - 1), .int .i64 i] w (EndN (cookieOf q x y z s (e - 1) i) w)) := fun a d w h => cookieOfS (q.at a d) x y z s (e - 1) i w h fq
      generalize cookieOf p x y z s e i = y1 at *
      generalize cookieOf q x y z s (e - 1) i = y2 at *
      have w1 : IntKind.i64.wrap (e - 1) = e - 1 := IntWalk.i64_in _ (by omega)
      have w2 : wrap64 (e - 1) = e - 1 := by unfold wrap64; omega
      have HT1 := Lib.hid ht1
      clear ht1
      go_enter Tryz.func8, Tryz.ntmps8
      have B0 := Lib.hid (show Below w.heap.size w ((w.alloc (.cells #[.int .i64 e, .bool p.u, .int .u64 (n64 p.k), .int .u64 (n64 p.l), .slice p.a p.rs.length p.c, .bool q.u, .int .u64 (n64 q.k), .int .u64 (n64 q.l), .slice q.a q.rs.length q.c, .bool t] 29)).alloc (.cells #[.int .i64 x, .int .i64 y, .int .i64 z] 31)) from (((Below.refl _ w).alloc (by simp) _).alloc (by simp) _))
      have KK0 := Lib.hid (show Blk ((w.alloc (.cells #[.int .i64 e, .bool p.u, .int .u64 (n64 p.k), .int .u64 (n64 p.l), .slice p.a p.rs.length p.c, .bool q.u, .int .u64 (n64 q.k), .int .u64 (n64 q.l), .slice q.a q.rs.length q.c, .bool t] 29)).alloc (.cells #[.int .i64 x, .int .i64 y, .int .i64 z] 31)) (w.heap.size) [.int .i64 e, .bool p.u, .int .u64 (n64 p.k), .int .u64 (n64 p.l), .slice p.a p.rs.length p.c, .bool q.u, .int .u64 (n64 q.k), .int .u64 (n64 q.l), .slice q.a q.rs.length q.c, .bool t] from (Blk.new w [.int .i64 e, .bool p.u, .int .u64 (n64 p.k), .int .u64 (n64 p.l), .slice p.a p.rs.length p.c, .bool q.u, .int .u64 (n64 q.k), .int .u64 (n64 q.l), .slice q.a q.rs.length q.c, .bool t] 29).alloc (.cells #[.int .i64 x, .int .i64 y, .int .i64 z] 31))
      have s1 : (w.alloc (.cells #[.int .i64 e, .bool p.u, .int .u64 (n64 p.k), .int .u64 (n64 p.l), .slice p.a p.rs.length p.c, .bool q.u, .int .u64 (n64 q.k), .int .u64 (n64 q.l), .slice q.a q.rs.length q.c, .bool t] 29)).heap.size = w.heap.size + 1 := by simp
      have KT0 := Lib.hid (show Blk ((w.alloc (.cells #[.int .i64 e, .bool p.u, .int .u64 (n64 p.k), .int .u64 (n64 p.l), .slice p.a p.rs.length p.c, .bool q.u, .int .u64 (n64 q.k), .int .u64 (n64 q.l), .slice q.a q.rs.length q.c, .bool t] 29)).alloc (.cells #[.int .i64 x, .int .i64 y, .int .i64 z] 31)) (w.heap.size + 1) [.int .i64 x, .int .i64 y, .int .i64 z] by have h0 := Blk.new (w.alloc (.cells #[.int .i64 e, .bool p.u, .int .u64 (n64 p.k), .int .u64 (n64 p.l), .slice p.a p.rs.length p.c, .bool q.u, .int .u64 (n64 q.k), .int .u64 (n64 q.l), .slice q.a q.rs.length q.c, .bool t] 29)) [.int .i64 x, .int .i64 y, .int .i64 z] 31; rwa [s1] at h0)
      have n_K_T : w.heap.size ≠ w.heap.size + 1 := by omega
      clear s1
      go_wp2_with fail
      change Calls _ _ _ ((w.alloc (.cells #[.int .i64 e, .bool p.u, .int .u64 (n64 p.k), .int .u64 (n64 p.l), .slice p.a p.rs.length p.c, .bool q.u, .int .u64 (n64 q.k), .int .u64 (n64 q.l), .slice q.a q.rs.length q.c, .bool t] 29)).alloc (.cells #[.int .i64 x, .int .i64 y, .int .i64 z] 31)) _
      generalize (w.alloc (.cells #[.int .i64 e, .bool p.u, .int .u64 (n64 p.k), .int .u64 (n64 p.l), .slice p.a p.rs.length p.c, .bool q.u, .int .u64 (n64 q.k), .int .u64 (n64 q.l), .slice q.a q.rs.length q.c, .bool t] 29)).alloc (.cells #[.int .i64 x, .int .i64 y, .int .i64 z] 31) = v0 at B0 KK0 KT0 ⊢
      generalize hh_T : w.heap.size + 1 = g_T at KT0 n_K_T ⊢
      generalize hh_K : w.heap.size = g_K at KK0 n_K_T ⊢
      have l_K : w.heap.size ≤ g_K := by omega
      have l_T : w.heap.size ≤ g_T := by omega
      clear hh_K hh_T
      refine (C3.out _).mono ?_
      rintro e v1 ⟨rfl, hb⟩
      have B1 := Lib.hid (B0.out.trans (hb.mono B0.out.size))
      have KK1 := Lib.hid (KK0.out.below hb)
      have KT1 := Lib.hid (KT0.out.below hb)
      clear hb B0 KK0 KT0
      obtain ⟨⟨cK0, cK1, cK2, cK3, cK4, cK5, cK6, cK7, cK8, cK9⟩, dK0, dK1, dK2, dK3, dK4, dK5, dK6, dK7, dK8, dK9⟩ := KK1.out.of10
      obtain ⟨⟨cT0, cT1, cT2⟩, dT0, dT1, dT2⟩ := KT1.out.o3
      go_wp2_with fail
      clear cK0 cK1 cK2 cK3 cK4 cK5 cK6 cK7 cK8 cK9 dK0 dK1 dK2 dK3 dK4 dK5 dK6 dK7 dK8 dK9 cT0 cT1 cT2 dT0 dT1 dT2
      refine (C1.out _ (HP.out.below B1.out) (HQ.out.below B1.out)).mono ?_
      rintro e v2 ⟨rfl, hb⟩
      have B2 := Lib.hid (B1.out.trans (hb.mono B1.out.size))
      have KK2 := Lib.hid (KK1.out.below hb)
      have KT2 := Lib.hid (KT1.out.below hb)
      clear hb B1 KK1 KT1
      obtain ⟨⟨cK0, cK1, cK2, cK3, cK4, cK5, cK6, cK7, cK8, cK9⟩, dK0, dK1, dK2, dK3, dK4, dK5, dK6, dK7, dK8, dK9⟩ := KK2.out.of10
      obtain ⟨⟨cT0, cT1, cT2⟩, dT0, dT1, dT2⟩ := KT2.out.o3
      go_wp2_with fail
      clear cK0 cK1 cK2 cK3 cK4 cK5 cK6 cK7 cK8 cK9 dK0 dK1 dK2 dK3 dK4 dK5 dK6 dK7 dK8 dK9 cT0 cT1 cT2 dT0 dT1 dT2
      go_loopw [14] (fun i0 wr => ∃ j : Nat, i0 = .int .i64 (e - ((j : Nat) : Int)) ∧ Hid (Below v2.heap.size v2 wr) ∧ (j = 0 ∨ (j = 1 ∧ Hid ((y1 == c) = false)) ∨ (j = 2 ∧ Hid ((y1 == c) = false) ∧ Hid (t = false ∨ (y2 == c) = false)))) (fun i0 _ => (RowKit.intOf i0 + 2 - e).toNat)
      case atStart => exact ⟨0, by simp, Below.refl _ _, .inl rfl⟩
      case round =>
        obtain ⟨j, rfl, hbl, hj⟩ := hrel
        rcases hj with rfl | ⟨rfl, hy1⟩ | ⟨rfl, hy1, hy2⟩
        · have q0 : e - ((0 : Nat) : Int) = e := by omega
          rw [q0]
          clear q0
          have B50 := Lib.hid (B2.out.trans (hbl.out.mono B2.out.size))
          have hbl' := hbl
          have KK50 := Lib.hid (KK2.out.below hbl.out)
          have KT50 := Lib.hid (KT2.out.below hbl.out)
          clear hbl
          obtain ⟨⟨cK0, cK1, cK2, cK3, cK4, cK5, cK6, cK7, cK8, cK9⟩, dK0, dK1, dK2, dK3, dK4, dK5, dK6, dK7, dK8, dK9⟩ := KK50.out.of10
          obtain ⟨⟨cT0, cT1, cT2⟩, dT0, dT1, dT2⟩ := KT50.out.o3
          go_wp2_with fail
          clear cK0 cK1 cK2 cK3 cK4 cK5 cK6 cK7 cK8 cK9 dK0 dK1 dK2 dK3 dK4 dK5 dK6 dK7 dK8 dK9 cT0 cT1 cT2 dT0 dT1 dT2
          refine (secNowS e p q t _ (HP.out.below B50.out) (HQ.out.below B50.out) fp).mono ?_
          rintro e v51 ⟨g, d, rfl, ho, hb⟩
          have O := Lib.hid ho
          clear ho
          have B51 := Lib.hid (B50.out.trans (hb.mono B50.out.size))
          replace hbl' := Lib.hid (hbl'.out.trans (hb.mono hbl'.out.size))
          have KK51 := Lib.hid (KK50.out.below hb)
          have KT51 := Lib.hid (KT50.out.below hb)
          clear hb B50 KK50 KT50
          have hon := Lib.hid (M.on_at O.out)
          clear O
          have KSn := Lib.hid (Blk.new v51 [.bool p.u, .int .u64 (n64 p.k), .int .u64 (n64 p.l), .slice (some ⟨g, 0, none⟩) p.rs.length d] 27)
          have n_K_S : g_K ≠ v51.heap.size := by have h1 := KK51.out.lt; omega
          have n_T_S : g_T ≠ v51.heap.size := by have h1 := KT51.out.lt; omega
          have Bn := Lib.hid (B51.out.alloc B51.out.size (.cells #[.bool p.u, .int .u64 (n64 p.k), .int .u64 (n64 p.l), .slice (some ⟨g, 0, none⟩) p.rs.length d] 27))
          replace hbl' := Lib.hid (hbl'.out.alloc hbl'.out.size (.cells #[.bool p.u, .int .u64 (n64 p.k), .int .u64 (n64 p.l), .slice (some ⟨g, 0, none⟩) p.rs.length d] 27))
          have KKn := Lib.hid (KK51.out.alloc (.cells #[.bool p.u, .int .u64 (n64 p.k), .int .u64 (n64 p.l), .slice (some ⟨g, 0, none⟩) p.rs.length d] 27))
          have KTn := Lib.hid (KT51.out.alloc (.cells #[.bool p.u, .int .u64 (n64 p.k), .int .u64 (n64 p.l), .slice (some ⟨g, 0, none⟩) p.rs.length d] 27))
          have Hmn := Lib.hid (hon.out.alloc (.cells #[.bool p.u, .int .u64 (n64 p.k), .int .u64 (n64 p.l), .slice (some ⟨g, 0, none⟩) p.rs.length d] 27))
          clear B51 KK51 KT51 hon
          obtain ⟨⟨cK0, cK1, cK2, cK3, cK4, cK5, cK6, cK7, cK8, cK9⟩, dK0, dK1, dK2, dK3, dK4, dK5, dK6, dK7, dK8, dK9⟩ := KKn.out.of10
          obtain ⟨⟨cT0, cT1, cT2⟩, dT0, dT1, dT2⟩ := KTn.out.o3
          go_wp2_with fail
          clear cK0 cK1 cK2 cK3 cK4 cK5 cK6 cK7 cK8 cK9 dK0 dK1 dK2 dK3 dK4 dK5 dK6 dK7 dK8 dK9 cT0 cT1 cT2 dT0 dT1 dT2
          change Calls _ _ _ (v51.alloc (.cells #[.bool p.u, .int .u64 (n64 p.k), .int .u64 (n64 p.l), .slice (some ⟨g, 0, none⟩) p.rs.length d] 27)) _
          generalize v51.alloc (.cells #[.bool p.u, .int .u64 (n64 p.k), .int .u64 (n64 p.l), .slice (some ⟨g, 0, none⟩) p.rs.length d] 27) = v52 at hbl' KSn Bn KKn KTn Hmn ⊢
          generalize v51.heap.size = g_S at KSn n_K_S n_T_S ⊢
          clear v51
          have KK52 := KKn
          clear KKn
          have KT52 := KTn
          clear KTn
          have KS52 := KSn
          clear KSn
          have Hm52 := Hmn
          clear Hmn
          have B52 := Bn
          clear Bn
          refine (D1.out (some ⟨g, 0, none⟩) d _ Hm52.out).mono ?_
          rintro e v53 ⟨rfl, hb⟩
          have B53 := Lib.hid (B52.out.trans (hb.mono B52.out.size))
          replace hbl' := Lib.hid (hbl'.out.trans (hb.mono hbl'.out.size))
          have KK53 := Lib.hid (KK52.out.below hb)
          have KT53 := Lib.hid (KT52.out.below hb)
          have KS53 := Lib.hid (KS52.out.below hb)
          have Hm53 := Lib.hid (Hm52.out.below hb)
          clear hb B52 KK52 KT52 KS52 Hm52
          by_cases hy : (y1 == c) = false
          obtain ⟨⟨cK0, cK1, cK2, cK3, cK4, cK5, cK6, cK7, cK8, cK9⟩, dK0, dK1, dK2, dK3, dK4, dK5, dK6, dK7, dK8, dK9⟩ := KK53.out.of10
          obtain ⟨⟨cT0, cT1, cT2⟩, dT0, dT1, dT2⟩ := KT53.out.o3
          obtain ⟨⟨cS0, cS1, cS2, cS3⟩, dS0, dS1, dS2, dS3⟩ := KS53.out.four
          · go_wp2_with fail
            go_roundw
            case rel => exact ⟨1, by simp, hbl', .inr (.inl ⟨rfl, hy⟩)⟩
            case measure => simp [RowKit.intOf] <;> omega
          · obtain rfl : y1 = c := by simpa using hy
            clear hy
            go_wp2_with fail
            exact bodyPost_ret (v := .tuple #[.int .i64 e, .int .i64 i, .bool true]) (by simp [results, Tryz.results8, go_sem]) rfl ⟨by rw [ckR_one rfl], B53.out⟩
        · have hne : ((e - 1) == e) = false := by simp; omega
          have q1 : e - ((1 : Nat) : Int) = e - 1 := by omega
          rw [q1]
          clear q1
          cases t with
          | true =>
            have he1 : 1 ≤ e := HT1.out rfl
            have B50 := Lib.hid (B2.out.trans (hbl.out.mono B2.out.size))
            have hbl' := hbl
            have KK50 := Lib.hid (KK2.out.below hbl.out)
            have KT50 := Lib.hid (KT2.out.below hbl.out)
            clear hbl
            obtain ⟨⟨cK0, cK1, cK2, cK3, cK4, cK5, cK6, cK7, cK8, cK9⟩, dK0, dK1, dK2, dK3, dK4, dK5, dK6, dK7, dK8, dK9⟩ := KK50.out.of10
            obtain ⟨⟨cT0, cT1, cT2⟩, dT0, dT1, dT2⟩ := KT50.out.o3
            go_wp2_with fail
            clear cK0 cK1 cK2 cK3 cK4 cK5 cK6 cK7 cK8 cK9 dK0 dK1 dK2 dK3 dK4 dK5 dK6 dK7 dK8 dK9 cT0 cT1 cT2 dT0 dT1 dT2
            refine (secBefS e (e - 1) p q _ (HP.out.below B50.out) (HQ.out.below B50.out) fq hne w2.symm).mono ?_
            rintro e v51 ⟨g, d, rfl, ho, hb⟩
            have O := Lib.hid ho
            clear ho
            have B51 := Lib.hid (B50.out.trans (hb.mono B50.out.size))
            replace hbl' := Lib.hid (hbl'.out.trans (hb.mono hbl'.out.size))
            have KK51 := Lib.hid (KK50.out.below hb)
            have KT51 := Lib.hid (KT50.out.below hb)
            clear hb B50 KK50 KT50
            have hon := Lib.hid (M.on_at O.out)
            clear O
            have KSn := Lib.hid (Blk.new v51 [.bool q.u, .int .u64 (n64 q.k), .int .u64 (n64 q.l), .slice (some ⟨g, 0, none⟩) q.rs.length d] 27)
            have n_K_S : g_K ≠ v51.heap.size := by have h1 := KK51.out.lt; omega
            have n_T_S : g_T ≠ v51.heap.size := by have h1 := KT51.out.lt; omega
            have Bn := Lib.hid (B51.out.alloc B51.out.size (.cells #[.bool q.u, .int .u64 (n64 q.k), .int .u64 (n64 q.l), .slice (some ⟨g, 0, none⟩) q.rs.length d] 27))
            replace hbl' := Lib.hid (hbl'.out.alloc hbl'.out.size (.cells #[.bool q.u, .int .u64 (n64 q.k), .int .u64 (n64 q.l), .slice (some ⟨g, 0, none⟩) q.rs.length d] 27))
            have KKn := Lib.hid (KK51.out.alloc (.cells #[.bool q.u, .int .u64 (n64 q.k), .int .u64 (n64 q.l), .slice (some ⟨g, 0, none⟩) q.rs.length d] 27))
            have KTn := Lib.hid (KT51.out.alloc (.cells #[.bool q.u, .int .u64 (n64 q.k), .int .u64 (n64 q.l), .slice (some ⟨g, 0, none⟩) q.rs.length d] 27))
            have Hmn := Lib.hid (hon.out.alloc (.cells #[.bool q.u, .int .u64 (n64 q.k), .int .u64 (n64 q.l), .slice (some ⟨g, 0, none⟩) q.rs.length d] 27))
            clear B51 KK51 KT51 hon
            obtain ⟨⟨cK0, cK1, cK2, cK3, cK4, cK5, cK6, cK7, cK8, cK9⟩, dK0, dK1, dK2, dK3, dK4, dK5, dK6, dK7, dK8, dK9⟩ := KKn.out.of10
            obtain ⟨⟨cT0, cT1, cT2⟩, dT0, dT1, dT2⟩ := KTn.out.o3
            go_wp2_with fail
            clear cK0 cK1 cK2 cK3 cK4 cK5 cK6 cK7 cK8 cK9 dK0 dK1 dK2 dK3 dK4 dK5 dK6 dK7 dK8 dK9 cT0 cT1 cT2 dT0 dT1 dT2
            change Calls _ _ _ (v51.alloc (.cells #[.bool q.u, .int .u64 (n64 q.k), .int .u64 (n64 q.l), .slice (some ⟨g, 0, none⟩) q.rs.length d] 27)) _
            generalize v51.alloc (.cells #[.bool q.u, .int .u64 (n64 q.k), .int .u64 (n64 q.l), .slice (some ⟨g, 0, none⟩) q.rs.length d] 27) = v52 at hbl' KSn Bn KKn KTn Hmn ⊢
            generalize v51.heap.size = g_S at KSn n_K_S n_T_S ⊢
            clear v51
            have KK52 := KKn
            clear KKn
            have KT52 := KTn
            clear KTn
            have KS52 := KSn
            clear KSn
            have Hm52 := Hmn
            clear Hmn
            have B52 := Bn
            clear Bn
            refine (D2.out (some ⟨g, 0, none⟩) d _ Hm52.out).mono ?_
            rintro e v53 ⟨rfl, hb⟩
            have B53 := Lib.hid (B52.out.trans (hb.mono B52.out.size))
            replace hbl' := Lib.hid (hbl'.out.trans (hb.mono hbl'.out.size))
            have KK53 := Lib.hid (KK52.out.below hb)
            have KT53 := Lib.hid (KT52.out.below hb)
            have KS53 := Lib.hid (KS52.out.below hb)
            have Hm53 := Lib.hid (Hm52.out.below hb)
            clear hb B52 KK52 KT52 KS52 Hm52
            by_cases hy : (y2 == c) = false
            obtain ⟨⟨cK0, cK1, cK2, cK3, cK4, cK5, cK6, cK7, cK8, cK9⟩, dK0, dK1, dK2, dK3, dK4, dK5, dK6, dK7, dK8, dK9⟩ := KK53.out.of10
            obtain ⟨⟨cT0, cT1, cT2⟩, dT0, dT1, dT2⟩ := KT53.out.o3
            obtain ⟨⟨cS0, cS1, cS2, cS3⟩, dS0, dS1, dS2, dS3⟩ := KS53.out.four
            · go_wp2_with fail
              go_roundw
              case rel => exact ⟨2, by (congr 1; omega), hbl', .inr (.inr ⟨rfl, hy1, .inr hy⟩)⟩
              case measure => simp [RowKit.intOf] <;> omega
            · obtain rfl : y2 = c := by simpa using hy
              clear hy
              go_wp2_with fail
              exact bodyPost_ret (v := .tuple #[.int .i64 (e - 1), .int .i64 i, .bool true]) (by simp [results, Tryz.results8, go_sem]) rfl ⟨by rw [ckR_two hy1.out rfl], B53.out⟩
          | false =>
            by_cases he1 : 1 ≤ e
            case neg =>
              have B50 := Lib.hid (B2.out.trans (hbl.out.mono B2.out.size))
              have KK50 := Lib.hid (KK2.out.below hbl.out)
              have KT50 := Lib.hid (KT2.out.below hbl.out)
              clear hbl
              obtain ⟨⟨cK0, cK1, cK2, cK3, cK4, cK5, cK6, cK7, cK8, cK9⟩, dK0, dK1, dK2, dK3, dK4, dK5, dK6, dK7, dK8, dK9⟩ := KK50.out.of10
              obtain ⟨⟨cT0, cT1, cT2⟩, dT0, dT1, dT2⟩ := KT50.out.o3
              go_wp2_with fail
              exact bodyPost_ret (v := .tuple #[.int .i64 0, .int .i64 0, .bool false]) (by simp [results, Tryz.results8, go_sem]) rfl ⟨by rw [ckR_no hy1.out (.inl rfl)], B50.out⟩
            have B50 := Lib.hid (B2.out.trans (hbl.out.mono B2.out.size))
            have hbl' := hbl
            have KK50 := Lib.hid (KK2.out.below hbl.out)
            have KT50 := Lib.hid (KT2.out.below hbl.out)
            clear hbl
            obtain ⟨⟨cK0, cK1, cK2, cK3, cK4, cK5, cK6, cK7, cK8, cK9⟩, dK0, dK1, dK2, dK3, dK4, dK5, dK6, dK7, dK8, dK9⟩ := KK50.out.of10
            obtain ⟨⟨cT0, cT1, cT2⟩, dT0, dT1, dT2⟩ := KT50.out.o3
            go_wp2_with fail
            clear cK0 cK1 cK2 cK3 cK4 cK5 cK6 cK7 cK8 cK9 dK0 dK1 dK2 dK3 dK4 dK5 dK6 dK7 dK8 dK9 cT0 cT1 cT2 dT0 dT1 dT2
            refine (secNoOneS e (e - 1) p q _ hne).mono ?_
            rintro e v51 ⟨rfl, hb⟩
            have B51 := Lib.hid (B50.out.trans (hb.mono B50.out.size))
            replace hbl' := Lib.hid (hbl'.out.trans (hb.mono hbl'.out.size))
            have KK51 := Lib.hid (KK50.out.below hb)
            have KT51 := Lib.hid (KT50.out.below hb)
            clear hb B50 KK50 KT50
            obtain ⟨⟨cK0, cK1, cK2, cK3, cK4, cK5, cK6, cK7, cK8, cK9⟩, dK0, dK1, dK2, dK3, dK4, dK5, dK6, dK7, dK8, dK9⟩ := KK51.out.of10
            obtain ⟨⟨cT0, cT1, cT2⟩, dT0, dT1, dT2⟩ := KT51.out.o3
            go_wp2_with fail
            go_roundw
            case rel => exact ⟨2, by (congr 1; omega), hbl'.out.alloc hbl'.out.size _, .inr (.inr ⟨rfl, hy1, .inl (by simp)⟩)⟩
            case measure => simp [RowKit.intOf] <;> omega
        · have q2 : e - ((2 : Nat) : Int) = e - 2 := by omega
          rw [q2]
          clear q2
          have B50 := Lib.hid (B2.out.trans (hbl.out.mono B2.out.size))
          have KK50 := Lib.hid (KK2.out.below hbl.out)
          have KT50 := Lib.hid (KT2.out.below hbl.out)
          clear hbl
          obtain ⟨⟨cK0, cK1, cK2, cK3, cK4, cK5, cK6, cK7, cK8, cK9⟩, dK0, dK1, dK2, dK3, dK4, dK5, dK6, dK7, dK8, dK9⟩ := KK50.out.of10
          obtain ⟨⟨cT0, cT1, cT2⟩, dT0, dT1, dT2⟩ := KT50.out.o3
          go_wp2_with fail
          all_goals exact bodyPost_ret (v := .tuple #[.int .i64 0, .int .i64 0, .bool false]) (by simp [results, Tryz.results8, go_sem]) rfl ⟨by rw [ckR_no hy1.out hy2.out], B50.out⟩

end Go.Proofs.YtobfgkiccmhgdaaGreat
namespace Go.Proofs.YtobfgkiccmhgdaaGreat
open Go.RowKit Go.Lib

theorem cookie_word {m : M} {x y z s e i : Int} (h : macArg x y z s e i = true) : wordOk (cookieOf m x y z s e i) 32 = true ∧ cpI (cookieOf m x y z s e i) = i ∧ cookieOf m x y z s e i / 134217728 = e % 32 := by
  obtain ⟨⟨h0, h1⟩, h2, h3⟩ := macArg_bd h
  obtain ⟨b0, b1⟩ := M.of_bd m (macIn x y z s e i)
  rw [cookieOf_yes h]
  generalize m.of (macIn x y z s e i) = a at b0 b1 ⊢
  have hw : wordOk (e % 32 * 134217728 + i * 16777216 + a) 32 = true := (word32_iff _).2 (by omega)
  refine ⟨hw, ?_, by omega⟩
  rw [(cp_yes hw).2.1]
  omega
theorem macArg_at {x y z s e e' i : Int} (h : macArg x y z s e i = true) (he : wordOk e' 32 = true) : macArg x y z s e' i = true := by
  unfold macArg at h ⊢
  simp only [Bool.and_eq_true] at h ⊢
  exact ⟨h.1, h.2.1, he, h.2.2.2⟩
theorem ck_now {e : Int} {p q : M} {t : Bool} {x y z s i : Int} (hk : keysOk e p q t = true) (h : macArg x y z s e i = true) : ck e p q t x y z s (cookieOf p x y z s e i) = (e, i, true) := by
  obtain ⟨hw, hi, _⟩ := cookie_word (m := p) h
  unfold ck
  rw [hk, hw, hi]
  exact ckR_one rfl
theorem keysOk_next {e : Int} {p q m : M} {t : Bool} (hk : keysOk e p q t = true) (hm : m.ok = true) (he : (e == 4294967295) = false) : keysOk (e + 1) m p true = true := by
  obtain ⟨⟨h0, h1⟩, h2, _⟩ := keysOk_all hk
  have he' : e ≠ 4294967295 := by simpa using he
  unfold keysOk
  rw [hm, h2, (word32_iff (e + 1)).2 (by omega)]
  simp
  omega
theorem ck_next {e : Int} {p q m : M} {t : Bool} {x y z s i : Int} (hk : keysOk e p q t = true) (hm : m.ok = true) (he : (e == 4294967295) = false) (h : macArg x y z s e i = true) : ck (e + 1) m p true x y z s (cookieOf p x y z s e i) = (e, i, true) := by
  obtain ⟨hw, hi, hd⟩ := cookie_word (m := p) h
  obtain ⟨⟨h0, h1⟩, _⟩ := keysOk_all hk
  have he' : e ≠ 4294967295 := by simpa using he
  have hw1 : wordOk (e + 1) 32 = true := (word32_iff (e + 1)).2 (by omega)
  obtain ⟨_, _, hd1⟩ := cookie_word (m := m) (macArg_at h hw1)
  unfold ck
  rw [keysOk_next hk hm he, hw, hi]
  have e1 : e + 1 - 1 = e := by omega
  rw [e1]
  have hne : (cookieOf m x y z s (e + 1) i == cookieOf p x y z s e i) = false := by
    rw [beq_eq_false_iff_ne]
    intro hc
    rw [hc] at hd1
    omega
  rw [Bool.and_self, if_pos rfl, ckR_two hne rfl, e1]
theorem M.same_self (m : M) : m.same m = true := by unfold M.same sameM sameR; simp
theorem sameR_refl (rs : List MR) : sameR rs rs = true := by unfold sameR; simp
end Go.Proofs.YtobfgkiccmhgdaaGreat
namespace Go.Proofs.YtobfgkiccmhgdaaGreat
open Go.RowKit Go.Lib

theorem ck_cases (e : Int) (p q : M) (t : Bool) (x y z s c : Int) :
    (ck e p q t x y z s c = (e, cpI c, true) ∧ keysOk e p q t = true ∧ wordOk c 32 = true ∧ cookieOf p x y z s e (cpI c) = c) ∨
    (ck e p q t x y z s c = (e - 1, cpI c, true) ∧ keysOk e p q t = true ∧ wordOk c 32 = true ∧ (cookieOf p x y z s e (cpI c) == c) = false ∧ t = true ∧ cookieOf q x y z s (e - 1) (cpI c) = c) ∨
    (ck e p q t x y z s c = (0, 0, false) ∧ ((keysOk e p q t && wordOk c 32) = true → (cookieOf p x y z s e (cpI c) == c) = false ∧ (t = false ∨ (cookieOf q x y z s (e - 1) (cpI c) == c) = false))) := by
  unfold ck
  by_cases h : (keysOk e p q t && wordOk c 32) = true
  · rw [if_pos h]
    rw [Bool.and_eq_true] at h
    by_cases h1 : cookieOf p x y z s e (cpI c) = c
    · exact .inl ⟨ckR_one h1, h.1, h.2, h1⟩
    · have h1' : (cookieOf p x y z s e (cpI c) == c) = false := by simpa using h1
      by_cases h2 : t = true ∧ cookieOf q x y z s (e - 1) (cpI c) = c
      · refine .inr (.inl ⟨?_, h.1, h.2, h1', h2.1, h2.2⟩)
        unfold ckR
        rw [if_neg h1, if_pos h2]
      · have h2' : t = false ∨ (cookieOf q x y z s (e - 1) (cpI c) == c) = false := by
          cases t
          · exact .inl rfl
          · exact .inr (by simpa using fun hc => h2 ⟨rfl, hc⟩)
        exact .inr (.inr ⟨ckR_no h1' h2', fun _ => ⟨h1', h2'⟩⟩)
  · rw [if_neg h]
    exact .inr (.inr ⟨rfl, fun h' => absurd h' h⟩)
/-- A cookie that is a word was made of valid fields. -/
theorem cookie_arg {m : M} {x y z s e i c : Int} (h : cookieOf m x y z s e i = c) (hc : wordOk c 32 = true) : macArg x y z s e i = true := by
  cases ha : macArg x y z s e i with
  | true => rfl
  | false => rw [cookieOf_no ha] at h; rw [← h] at hc; have := (word32_iff (-1)).1 hc; omega
/-- Two epochs that follow one another do not make one cookie. -/
theorem cookie_two {p q : M} {x y z s e i c : Int} (hc : wordOk c 32 = true) (h1 : cookieOf p x y z s e i = c) (h2 : cookieOf q x y z s (e - 1) i = c) : False := by
  have a1 := (cookie_word (m := p) (cookie_arg h1 hc)).2.2
  have a2 := (cookie_word (m := q) (cookie_arg h2 hc)).2.2
  rw [h1] at a1
  rw [h2] at a2
  omega
theorem ck_bad {e : Int} {p q : M} {t : Bool} {x y z s c : Int} (hk : keysOk e p q t = false) : (ck e p q t x y z s c).2.2 = false := by
  unfold ck
  rw [hk, Bool.false_and, if_neg (by simp)]
theorem ck_count {e : Int} {p q : M} {t : Bool} {x y z s c : Int} (hk : keysOk e p q t = true) :
    ((0 ≤ cpI c ∧ cookieOf p x y z s e (cpI c) = c) → (t = true ∧ 0 ≤ cpI c ∧ cookieOf q x y z s (e - 1) (cpI c) = c) → False) ∧
    (ck e p q t x y z s c).2.2 = (decide (0 ≤ cpI c ∧ cookieOf p x y z s e (cpI c) = c) || decide (t = true ∧ 0 ≤ cpI c ∧ cookieOf q x y z s (e - 1) (cpI c) = c)) := by
  cases hw : wordOk c 32 with
  | false =>
    have h0 := (cp_no hw).2.1
    refine ⟨fun h => by omega, ?_⟩
    rw [decide_eq_false (fun h => by omega), decide_eq_false (fun h => by omega)]
    unfold ck
    rw [hk, hw, Bool.and_false, if_neg (by simp)]
    rfl
  | true =>
    have h0 := (cp_bd hw).2.2.1
    refine ⟨fun h1 h2 => cookie_two hw h1.2 h2.2.2, ?_⟩
    unfold ck
    rw [hk, hw, Bool.and_self, if_pos rfl]
    by_cases h1 : cookieOf p x y z s e (cpI c) = c
    · rw [ckR_one h1, decide_eq_true ⟨h0, h1⟩]
      rfl
    · rw [decide_eq_false (fun h => h1 h.2)]
      by_cases h2 : t = true ∧ cookieOf q x y z s (e - 1) (cpI c) = c
      · rw [decide_eq_true ⟨h2.1, h0, h2.2⟩]
        unfold ckR
        rw [if_neg h1, if_pos h2]
        rfl
      · rw [decide_eq_false (fun h => h2 ⟨h.1, h.2.2⟩)]
        unfold ckR
        rw [if_neg h1, if_neg h2]
        rfl
end Go.Proofs.YtobfgkiccmhgdaaGreat
namespace Go.Proofs.YtobfgkiccmhgdaaGreat
open Go.RowKit Go.Lib

theorem big_yes (a : Option Addr) (n cap : Nat) (w : World) (h : 1048576 < n) (hm : n ≤ 9223372036854775807) : Calls Tryz.prog 5 #[.slice a n cap] w fun e w' => e = .returned (.bool true) ∧ w = w' := by
  have hd : decide ((1048576 : Int) < (n : Int)) = true := by simp; omega
  go_enter Tryz.func5, Tryz.ntmps5
  go_wp2_with fail
  go_ret
  exact ⟨by simp, rfl⟩
theorem big_no (a : Option Addr) (n cap : Nat) (w : World) (h : n ≤ 1048576) : Calls Tryz.prog 5 #[.slice a n cap] w fun e w' => e = .returned (.bool false) ∧ w = w' := by
  have hd : decide ((1048576 : Int) < (n : Int)) = false := by simp; omega
  go_enter Tryz.func5, Tryz.ntmps5
  go_wp2_with fail
  go_ret
  exact ⟨by simp, rfl⟩
end Go.Proofs.YtobfgkiccmhgdaaGreat
namespace Go.Proofs.YtobfgkiccmhgdaaGreat
open Go.ChangeShapes Go.WideShapes Go.RowKit Go.Lib

theorem add_lit (b off j : Nat) : (⟨b, off, none⟩ : Addr).add j = ⟨b, off + j, none⟩ := by unfold Addr.add; split <;> simp_all

/-- What the walk is told of a []byte. -/
def IsBytes (w : World) (a : Option Addr) (len : Nat) (bs : List UInt8) : Prop := (bs.length = len ∧ len ≤ maxLen) ∧ Row w w.heap.size a (byteCells bs)

theorem openBytes {H : Type} {enc : TypeId × Value → H} {P : Program} {w : World} {t e : TypeId} {fuel : Nat} {a : Option Addr} {len cap : Nat} {x : DataW H × List MemPlace} (ht : P.underlying t = some (.slice e)) (he : P.underlying e = some (.int .u8)) (hc : P.cellsOf e = 1)
    (h : DataW.trod enc P w 0 (fun _ => true) true fuel t (Value.slice a len cap).cells.toList = some x) : ∃ bs : List UInt8, IsBytes w a len bs := by
  rcases open_ints ht he hc h with ⟨hcs, _⟩ | ⟨y, l, c, zs, hcs, _, hl, hm, hz, _, hcell, hwz⟩
  · simp [Value.cells] at hcs
    obtain ⟨rfl, rfl, rfl⟩ := hcs
    exact ⟨[], ⟨rfl, Nat.zero_le _⟩, Row.nil⟩
  · simp [Value.cells] at hcs
    obtain ⟨rfl, rfl, rfl⟩ := hcs
    simp only [if_true] at hz
    have hlen : ((zs.take len).map fun z => UInt8.ofNat z.toNat).length = len := by simp; omega
    refine ⟨(zs.take len).map fun z => UInt8.ofNat z.toNat, ⟨hlen, Nat.le_trans hl hm⟩, fun hx => ?_⟩
    have hpos : 0 < len := by
      rcases Nat.eq_zero_or_pos len with h | h
      · subst h; exact absurd rfl hx
      · exact h
    obtain ⟨b, off, spot⟩ := y
    have hc0 := hcell 0 (by omega)
    have hspot : spot = none := by simpa [Addr.add] using World.cell?_spot hc0
    subst hspot
    refine ⟨b, off, rfl, World.block_lt_of_cell? w ⟨b, off, none⟩ (by simpa [Addr.add] using hc0), fun j u hu => ?_⟩
    have hj : j < len := by
      have := (List.getElem?_eq_some_iff.1 hu).1
      rw [byteCells_length, hlen] at this; exact this
    have hj2 : j < zs.length := by omega
    have hb := bounds_u8 (hwz zs[j] (List.getElem_mem hj2))
    have := hcell j hj2
    rw [add_lit] at this
    rw [this, ← hu]
    simp only [byteCells, List.getElem?_map, List.getElem?_take, if_pos hj, List.getElem?_eq_getElem hj2, Option.map_some, List.getD_eq_getElem?_getD, Option.getD_some]
    rw [UInt8.toNat_ofNat']
    congr 2
    omega

/-- What the walk is told of a []string. -/
def IsTexts (w : World) (a : Option Addr) (len cap : Nat) (ss : List ByteArray) : Prop := (ss.length = len ∧ len ≤ cap ∧ cap ≤ maxLen ∧ ∀ s ∈ ss, s.size ≤ maxLen) ∧ Row w w.heap.size a (strVals ss)
theorem openStr {H : Type} {enc : TypeId × Value → H} {P : Program} {w : World} {t e : TypeId} {fuel : Nat} {a : Option Addr} {len cap : Nat} {x : DataW H × List MemPlace} (ht : P.underlying t = some (.slice e)) (he : P.underlying e = some .string) (hc : P.cellsOf e = 1)
    (h : DataW.trod enc P w 0 (fun _ => true) true fuel t (Value.slice a len cap).cells.toList = some x) : ∃ ss : List ByteArray, IsTexts w a len cap ss := by
  rcases open_strings ht he hc h with ⟨hcs, _⟩ | ⟨y, l, c, ss, hcs, _, hl, hm, hz, _, hcell, hws⟩
  · simp [Value.cells] at hcs
    obtain ⟨rfl, rfl, rfl⟩ := hcs
    exact ⟨[], ⟨rfl, Nat.le_refl _, Nat.zero_le _, fun _ h => by cases h⟩, Row.nil⟩
  · simp [Value.cells] at hcs
    obtain ⟨rfl, rfl, rfl⟩ := hcs
    simp only [if_true] at hz
    have hlen : (ss.take len).length = len := by simp; omega
    refine ⟨ss.take len, ⟨hlen, hl, hm, fun s hs => hws s (List.mem_of_mem_take hs)⟩, fun hx => ?_⟩
    have hpos : 0 < len := by
      rcases Nat.eq_zero_or_pos len with h | h
      · subst h; exact absurd rfl hx
      · exact h
    obtain ⟨b, off, spot⟩ := y
    have hc0 := hcell 0 (by omega)
    have hspot : spot = none := by simpa [Addr.add] using World.cell?_spot hc0
    subst hspot
    refine ⟨b, off, rfl, World.block_lt_of_cell? w ⟨b, off, none⟩ (by simpa [Addr.add] using hc0), fun j u hu => ?_⟩
    have hj : j < (ss.take len).length := by
      have := (List.getElem?_eq_some_iff.1 hu).1
      simpa [strVals] using this
    have hj2 : j < ss.length := by rw [hlen] at hj; omega
    rw [strVals_at _ j hj] at hu
    have := hcell j hj2
    rw [add_lit] at this
    rw [this, ← hu, List.getD_eq_getElem?_getD, List.getElem?_eq_getElem hj2]
    simp
end Go.Proofs.YtobfgkiccmhgdaaGreat
