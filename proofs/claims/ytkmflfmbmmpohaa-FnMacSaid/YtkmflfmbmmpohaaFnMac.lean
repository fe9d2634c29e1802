/- Proved here: for every code of at most 1048576 bytes, with the Mac and the input that are drawn from it: impl.MacOf answers as the model's, a number from 0 to 16777215; without a table it is what impl.SipHash says, modulo 16777216; with a table, a row set before all others counts, and impl.MacOk answers as the model's (a longer code is not asked); the call returns true for every argument, without condition. -/
import Derived.Test.YtkmflfmbmmpohaaRows
import Derived.Test.YtkmflfmbmmpohaaDrawMacOf
import Derived.Test.YtkmflfmbmmpohaaMacOf
import Derived.Test.YtkmflfmbmmpohaaMacOkS
import Derived.Test.YtkmflfmbmmpohaaBig
import Derived.Test.YtkmflfmbmmpohaaOpen
import Derived.Deep.RegionHeld3
import Derived.Laws.AppendOwnNone
import Derived.ProofKit
import Derived.OpenShut
import Derived.ShutString
import Derived.ChangeOld
import Derived.Below
namespace Go.Proofs.Ytkmflfmbmmpohaa.fnMac
open Go.ChangeShapes Go.WideShapes Go.ChangeAt Go.RowKit Go.Lib

/-- The law's word: true, and what lay before the call lies as it lay. -/
def OkB (w : World) (e : Ending) (w' : World) : Prop := e = .returned (.bool true) ∧ Below w.heap.size w w'
theorem macOf_bd (u : Bool) (k l : BitVec 64) (rs : List MR) (x : ByteArray) : 0 ≤ macOf u k l rs x ∧ macOf u k l rs x < 16777216 := by
  cases u
  · rw [macOf_f]; omega
  · rw [macOf_t]; unfold tagOf; omega
theorem tag_first (rs : List MR) (x : ByteArray) : macOf true 0 0 (⟨x, 5⟩ :: rs) x = 5 := by
  rw [macOf_t]
  unfold tagOf rawTag
  rw [if_pos rfl]
  rfl
theorem n64_zero : n64 0 = 0 := rfl

set_option maxRecDepth 100000 in
set_option maxHeartbeats 16000000 in
theorem walk (a0 : Option Addr) (len0 cap0 : Nat) (s0 : List UInt8) {w : World} (w0 : IsBytes w a0 len0 s0) :
    Calls Try.prog 3 #[.slice a0 len0 cap0] w fun e w' => e = .returned (.bool true) ∧ Below w.heap.size w w' := by
  change Calls _ _ _ _ (OkB w)
  obtain ⟨⟨rfl, hm⟩, hrow⟩ := w0
  unfold maxLen at hm
  have HR := Lib.hid hrow
  clear hrow
  by_cases hs : s0.length ≤ 1048576
  case neg =>
    clear HR
    go_enter Try.func3, Try.ntmps3
    go_wp2_with fail
    refine (big_yes _ _ _ _ (by omega) (by omega)).mono ?_
    rintro e w' ⟨rfl, rfl⟩
    go_wp2_with fail
    go_ret
    exact ⟨rfl, Below.refl _ _⟩
  obtain ⟨i0, hi, hz0, hz1, hz2⟩ := info_parts Try.info34
  go_enter Try.func3, Try.ntmps3
  go_wp2_with fail
  refine (big_no _ _ _ _ hs).mono ?_
  rintro e w' ⟨rfl, rfl⟩
  go_wp2_with fail
  refine (drawMacOf a0 s0 cap0 w HR.out hs).mono ?_
  rintro e w1 ⟨u, k, l, a, cap, rs, x, rfl, hx, ⟨wt, gt, ht⟩, hb⟩
  have BD := Lib.hid hb
  have HX := Lib.hid (show x.size ≤ 1048576 by omega)
  have HA := Lib.hid ht.row
  have HG := Lib.hid ht.1.2
  have hn := ht.1.1
  have hsh := Lib.hid (ht.2.imp (fun h => h) (fun h => h))
  clear hb hx ht HR hm hs
  have hl7 : rs.length ≤ 1048577 := by omega
  cases u
  · clear hsh
    have B0 := Lib.hid (show Below w1.heap.size w1 (w1.alloc (.cells #[.bool false, .int .u64 (n64 k), .int .u64 (n64 l), .slice a rs.length cap] 27)) from ((Below.refl _ w1).alloc (by simp) _))
    have KM0 := Lib.hid (show Blk (w1.alloc (.cells #[.bool false, .int .u64 (n64 k), .int .u64 (n64 l), .slice a rs.length cap] 27)) (w1.heap.size) [.bool false, .int .u64 (n64 k), .int .u64 (n64 l), .slice a rs.length cap] from Blk.new w1 [.bool false, .int .u64 (n64 k), .int .u64 (n64 l), .slice a rs.length cap] 27)
    go_wp2_with fail
    change Calls _ _ _ (w1.alloc (.cells #[.bool false, .int .u64 (n64 k), .int .u64 (n64 l), .slice a rs.length cap] 27)) _
    generalize w1.alloc (.cells #[.bool false, .int .u64 (n64 k), .int .u64 (n64 l), .slice a rs.length cap] 27) = v0 at B0 KM0 ⊢
    generalize w1.heap.size = g_M at KM0 ⊢
    obtain ⟨mm, hmm⟩ : ∃ m, Hid (macOf false k l rs x = m) := ⟨_, rfl⟩
    have mb := macOf_bd false k l rs x
    rw [hmm.out] at mb
    obtain ⟨m0, m1⟩ := mb
    have m0' : ¬ mm < 0 := by omega
    have m1' : ¬ 16777216 ≤ mm := by omega
    refine (macOfI false k l a cap rs x hl7 HG.out HX.out _ ((HA.out.below B0.out).mono B0.out.size)).mono ?_
    rintro e v1 ⟨rfl, hb⟩
    have B1 := Lib.hid (B0.out.trans (hb.mono B0.out.size))
    have KM1 := Lib.hid (KM0.out.below hb)
    clear hb B0 KM0
    rw [hmm.out]
    obtain ⟨⟨cM0, cM1, cM2, cM3⟩, dM0, dM1, dM2, dM3⟩ := KM1.out.four
    go_wp2_with fail
    clear cM0 cM1 cM2 cM3 dM0 dM1 dM2 dM3
    refine (macOfS false k l a cap rs x hl7 HX.out _ ((HA.out.below B1.out).mono B1.out.size)).mono ?_
    rintro e v2 ⟨rfl, hb⟩
    have B2 := Lib.hid (B1.out.trans (hb.mono B1.out.size))
    have KM2 := Lib.hid (KM1.out.below hb)
    clear hb B1 KM1
    rw [hmm.out]
    obtain ⟨⟨cM0, cM1, cM2, cM3⟩, dM0, dM1, dM2, dM3⟩ := KM2.out.four
    go_wp2_with fail
    obtain ⟨h, hh⟩ : ∃ h, Hid (sipHash k l x = h) := ⟨_, rfl⟩
    clear cM0 cM1 cM2 cM3 dM0 dM1 dM2 dM3
    refine (sipHashI k l x HX.out _).mono ?_
    rintro e v3 ⟨rfl, hb⟩
    have B3 := Lib.hid (B2.out.trans (hb.mono B2.out.size))
    have KM3 := Lib.hid (KM2.out.below hb)
    clear hb B2 KM2
    rw [hh.out]
    have hm2 := hmm.out
    rw [macOf_f, hh.out] at hm2
    have hbd := n64_bd h
    have m3 : (n64 h).tmod 16777216 = mm := by rw [← hm2]; exact Int.tmod_eq_emod_of_nonneg hbd.1
    clear hm2
    obtain ⟨⟨cM0, cM1, cM2, cM3⟩, dM0, dM1, dM2, dM3⟩ := KM3.out.four
    go_wp2_with fail
    go_ret
    refine ⟨ret_bool ?_, BD.out.trans (B3.out.mono BD.out.size)⟩
    first | rfl | simp | (simp; omega)
  · rcases hsh.out with ⟨ha, hr, hc⟩ | ⟨b, ha, _, _⟩
    · subst ha hr hc
      clear hsh
      have B0 := Lib.hid (show Below w1.heap.size w1 (w1.alloc (.cells #[.bool true, .int .u64 (n64 k), .int .u64 (n64 l), .slice none 0 0] 27)) from ((Below.refl _ w1).alloc (by simp) _))
      have KM0 := Lib.hid (show Blk (w1.alloc (.cells #[.bool true, .int .u64 (n64 k), .int .u64 (n64 l), .slice none 0 0] 27)) (w1.heap.size) [.bool true, .int .u64 (n64 k), .int .u64 (n64 l), .slice none 0 0] from Blk.new w1 [.bool true, .int .u64 (n64 k), .int .u64 (n64 l), .slice none 0 0] 27)
      go_wp2_with fail
      change Calls _ _ _ (w1.alloc (.cells #[.bool true, .int .u64 (n64 k), .int .u64 (n64 l), .slice none 0 0] 27)) _
      generalize w1.alloc (.cells #[.bool true, .int .u64 (n64 k), .int .u64 (n64 l), .slice none 0 0] 27) = v0 at B0 KM0 ⊢
      generalize w1.heap.size = g_M at KM0 ⊢
      obtain ⟨mm, hmm⟩ : ∃ m, Hid (macOf true k l [] x = m) := ⟨_, rfl⟩
      have mb := macOf_bd true k l [] x
      rw [hmm.out] at mb
      obtain ⟨m0, m1⟩ := mb
      have m0' : ¬ mm < 0 := by omega
      have m1' : ¬ 16777216 ≤ mm := by omega
      refine (macOfI true k l none 0 [] x (by decide) HG.out HX.out _ ((HA.out.below B0.out).mono B0.out.size)).mono ?_
      rintro e v1 ⟨rfl, hb⟩
      have B1 := Lib.hid (B0.out.trans (hb.mono B0.out.size))
      have KM1 := Lib.hid (KM0.out.below hb)
      clear hb B0 KM0
      rw [hmm.out]
      obtain ⟨⟨cM0, cM1, cM2, cM3⟩, dM0, dM1, dM2, dM3⟩ := KM1.out.four
      go_wp2_with fail
      clear cM0 cM1 cM2 cM3 dM0 dM1 dM2 dM3
      refine (macOfS true k l none 0 [] x (by decide) HX.out _ ((HA.out.below B1.out).mono B1.out.size)).mono ?_
      rintro e v2 ⟨rfl, hb⟩
      have B2 := Lib.hid (B1.out.trans (hb.mono B1.out.size))
      have KM2 := Lib.hid (KM1.out.below hb)
      clear hb B1 KM1
      rw [hmm.out]
      have HQ := Lib.hid (World.ownsRow_lit (base := v2.heap.size) (e := 34) (size := 2) v2 #[.string x, .int .i64 5] 1 (Nat.le_refl _) (by decide) rfl)
      obtain ⟨⟨cM0, cM1, cM2, cM3⟩, dM0, dM1, dM2, dM3⟩ := KM2.out.four
      have cz3 := (KM2.out.alloc (.cells #[.string x, .int .i64 5] 34)).four.1.2.2.2
      go_wp2_with (at_builtin; refine wpList_append_own_none rfl _ _ 25 rfl v2.heap.size 34 i0 2 Try.underlying25 hi (.slice (some ⟨v2.heap.size, 0, none⟩) 1 1) 1 [.string x, .int .i64 5] rfl HQ.out rfl ?_)
      clear cM0 cM1 cM2 cM3 dM0 dM1 dM2 dM3 cz3
      have hb := (Below.refl v2.heap.size v2).alloc (Nat.le_refl _) (.cells #[.string x, .int .i64 5] 34)
      have KMq := Lib.hid (KM2.out.below hb)
      have Bq := Lib.hid (B2.out.trans (hb.mono B2.out.size))
      have Oq := Lib.hid (show (v2.alloc (.cells #[.string x, .int .i64 5] 34)).ownsRow v2.heap.size 34 2 (.slice (some ⟨v2.heap.size, 0, none⟩) [(⟨x, 5⟩ : MR)].length 1) [(⟨x, 5⟩ : MR)].length (mrs [(⟨x, 5⟩ : MR)]) from HQ.out)
      have l_q : v2.heap.size ≠ g_M := by have h1 := KM2.out.lt; omega
      clear hb HQ KM2 B2
      change Calls _ _ #[.slice (some ⟨v2.heap.size, 0, none⟩) [(⟨x, 5⟩ : MR)].length 1] (v2.alloc (.cells #[.string x, .int .i64 5] 34)) _
      generalize v2.alloc (.cells #[.string x, .int .i64 5] 34) = wq at KMq Bq Oq ⊢
      generalize v2.heap.size = g_q at Oq l_q ⊢
      have HQG := Lib.hid (show ∀ r ∈ [(⟨x, 5⟩ : MR)], goodM r by intro r hr; rw [List.mem_singleton.1 hr]; exact ⟨by show x.size ≤ maxLen; have := HX.out; unfold maxLen; omega, by show (Lit.int .i64 5).wf = true; decide⟩)
      have T5 := Lib.hid (tag_first [] x)
      obtain ⟨qs, hqs⟩ : ∃ q, q = [(⟨x, 5⟩ : MR)] := ⟨_, rfl⟩
      have hq7 : qs.length ≤ 1048577 := by rw [hqs, List.length_singleton]; decide
      rw [← hqs] at Oq T5 HQG ⊢
      clear hqs
      refine (tableMacI g_q 0 1 qs _ (Row.ownK Oq.out) hq7).mono ?_
      rintro e v3 ⟨g_t, c_t, rfl, ho_t, hb⟩
      have n_M_t : g_M ≠ g_t := by have h1 := KMq.out.lt; have h2 := (ho_t.lt g_t rfl).1; omega
      have l_t : w1.heap.size ≤ g_t := Nat.le_trans Bq.out.size (ho_t.lt g_t rfl).1
      have B3 := Lib.hid (Bq.out.trans (hb.mono Bq.out.size))
      have KM3 := Lib.hid (KMq.out.below hb)
      have Ot3 := Lib.hid (own_down ho_t (Nat.zero_le _))
      clear hb Bq KMq ho_t
      clear Oq
      have KTn := Lib.hid (Blk.new v3 [.bool true, .int .u64 0, .int .u64 0, .slice (some ⟨g_t, 0, none⟩) qs.length c_t] 27)
      have KMn := Lib.hid (KM3.out.alloc (.cells #[.bool true, .int .u64 0, .int .u64 0, .slice (some ⟨g_t, 0, none⟩) qs.length c_t] 27))
      have Otn := Lib.hid (Ot3.out.alloc (.cells #[.bool true, .int .u64 0, .int .u64 0, .slice (some ⟨g_t, 0, none⟩) qs.length c_t] 27))
      have Bn := Lib.hid (B3.out.alloc B3.out.size (.cells #[.bool true, .int .u64 0, .int .u64 0, .slice (some ⟨g_t, 0, none⟩) qs.length c_t] 27))
      clear KM3 Ot3 B3
      obtain ⟨⟨cT0, cT1, cT2, cT3⟩, _, _, _, _⟩ := KTn.out.four
      obtain ⟨⟨cM0, cM1, cM2, cM3⟩, _, _, _, _⟩ := KMn.out.four
      go_wp2_with fail
      clear cT0 cT1 cT2 cT3 cM0 cM1 cM2 cM3
      generalize v3.alloc (.cells #[.bool true, .int .u64 0, .int .u64 0, .slice (some ⟨g_t, 0, none⟩) qs.length c_t] 27) = vr at KTn KMn Otn Bn ⊢
      generalize v3.heap.size = g_T at KTn ⊢
      obtain ⟨⟨cT0, cT1, cT2, cT3⟩, _, _, _, _⟩ := KTn.out.four
      obtain ⟨⟨cM0, cM1, cM2, cM3⟩, _, _, _, _⟩ := KMn.out.four
      have CT := Lib.hid (macOfI true 0 0 (some ⟨g_t, 0, none⟩) c_t qs x hq7 HQG.out HX.out vr.drew (Row.ownK Otn.out))
      rw [T5.out, n64_zero] at CT
      obtain ⟨ok, hok⟩ : ∃ o, Hid (macOk true (n64 k) (n64 l) [] = o) := ⟨_, rfl⟩
      go_region_held3 (fun w' => (w'.cell? ⟨g_T, 0, none⟩ = some (.bool true) ∧ w'.cell? ⟨g_T, 1, none⟩ = some (.int .u64 0) ∧ w'.cell? ⟨g_T, 2, none⟩ = some (.int .u64 0) ∧ w'.cell? ⟨g_T, 3, none⟩ = some (.slice (some ⟨g_t, 0, none⟩) qs.length c_t)) ∧ (w'.cell? ⟨g_M, 0, none⟩ = some (.bool true) ∧ w'.cell? ⟨g_M, 1, none⟩ = some (.int .u64 (n64 k)) ∧ w'.cell? ⟨g_M, 2, none⟩ = some (.int .u64 (n64 l)) ∧ w'.cell? ⟨g_M, 3, none⟩ = some (.slice none 0 0)))
        (first | go_keep | (exact ⟨KT5.out.four.1, KM5.out.four.1⟩) | (exact ⟨KT6.out.four.1, KM6.out.four.1⟩) | (exact ⟨KT7.out.four.1, KM7.out.four.1⟩))
        (first | (go_at_call 11; refine (CT.out).mono ?_; rintro e v5 ⟨rfl, hb5⟩; have B5 := Lib.hid (Bn.out.drew.trans (hb5.mono Bn.out.size)); have KT5 := Lib.hid (KTn.out.drew.below hb5); have KM5 := Lib.hid (KMn.out.drew.below hb5)) | (go_at_call 15; refine (macOkI true (n64 k) (n64 l) none 0 [] (by decide) HG.out _ ((HA.out.below B5.out).mono B5.out.size)).mono ?_; rintro e v6 ⟨rfl, hb6⟩; rw [hok.out]; have B6 := Lib.hid (B5.out.trans (hb6.mono B5.out.size)); have KT6 := Lib.hid (KT5.out.below hb6); have KM6 := Lib.hid (KM5.out.below hb6)) | (go_at_call 16; refine (macOkS true (n64 k) (n64 l) none 0 [] (by decide) _ ((HA.out.below B6.out).mono B6.out.size)).mono ?_; rintro e v7 ⟨rfl, hb7⟩; rw [hok.out]; have B7 := Lib.hid (B6.out.trans (hb7.mono B6.out.size)); have KT7 := Lib.hid (KT6.out.below hb7); have KM7 := Lib.hid (KM6.out.below hb7)))
      go_wp2_with fail
      go_ret
      exact ⟨ret_bool (by simp), BD.out.trans (B7.out.mono BD.out.size)⟩
    · subst ha
      clear hsh
      have B0 := Lib.hid (show Below w1.heap.size w1 (w1.alloc (.cells #[.bool true, .int .u64 (n64 k), .int .u64 (n64 l), .slice (some ⟨b, 0, none⟩) rs.length cap] 27)) from ((Below.refl _ w1).alloc (by simp) _))
      have KM0 := Lib.hid (show Blk (w1.alloc (.cells #[.bool true, .int .u64 (n64 k), .int .u64 (n64 l), .slice (some ⟨b, 0, none⟩) rs.length cap] 27)) (w1.heap.size) [.bool true, .int .u64 (n64 k), .int .u64 (n64 l), .slice (some ⟨b, 0, none⟩) rs.length cap] from Blk.new w1 [.bool true, .int .u64 (n64 k), .int .u64 (n64 l), .slice (some ⟨b, 0, none⟩) rs.length cap] 27)
      go_wp2_with fail
      change Calls _ _ _ (w1.alloc (.cells #[.bool true, .int .u64 (n64 k), .int .u64 (n64 l), .slice (some ⟨b, 0, none⟩) rs.length cap] 27)) _
      generalize w1.alloc (.cells #[.bool true, .int .u64 (n64 k), .int .u64 (n64 l), .slice (some ⟨b, 0, none⟩) rs.length cap] 27) = v0 at B0 KM0 ⊢
      generalize w1.heap.size = g_M at KM0 ⊢
      obtain ⟨mm, hmm⟩ : ∃ m, Hid (macOf true k l rs x = m) := ⟨_, rfl⟩
      have mb := macOf_bd true k l rs x
      rw [hmm.out] at mb
      obtain ⟨m0, m1⟩ := mb
      have m0' : ¬ mm < 0 := by omega
      have m1' : ¬ 16777216 ≤ mm := by omega
      refine (macOfI true k l (some ⟨b, 0, none⟩) cap rs x hl7 HG.out HX.out _ ((HA.out.below B0.out).mono B0.out.size)).mono ?_
      rintro e v1 ⟨rfl, hb⟩
      have B1 := Lib.hid (B0.out.trans (hb.mono B0.out.size))
      have KM1 := Lib.hid (KM0.out.below hb)
      clear hb B0 KM0
      rw [hmm.out]
      obtain ⟨⟨cM0, cM1, cM2, cM3⟩, dM0, dM1, dM2, dM3⟩ := KM1.out.four
      go_wp2_with fail
      clear cM0 cM1 cM2 cM3 dM0 dM1 dM2 dM3
      refine (macOfS true k l (some ⟨b, 0, none⟩) cap rs x hl7 HX.out _ ((HA.out.below B1.out).mono B1.out.size)).mono ?_
      rintro e v2 ⟨rfl, hb⟩
      have B2 := Lib.hid (B1.out.trans (hb.mono B1.out.size))
      have KM2 := Lib.hid (KM1.out.below hb)
      clear hb B1 KM1
      rw [hmm.out]
      have HQ := Lib.hid (World.ownsRow_lit (base := v2.heap.size) (e := 34) (size := 2) v2 #[.string x, .int .i64 5] 1 (Nat.le_refl _) (by decide) rfl)
      obtain ⟨⟨cM0, cM1, cM2, cM3⟩, dM0, dM1, dM2, dM3⟩ := KM2.out.four
      have cz3 := (KM2.out.alloc (.cells #[.string x, .int .i64 5] 34)).four.1.2.2.2
      have HS := Lib.hid (row_adr (((((HA.out.below B2.out).mono B2.out.size)).below ((Below.refl _ _).alloc (Nat.le_refl _) (.cells #[.string x, .int .i64 5] 34))).mono (B' := v2.heap.size + 1) (by simp)))
      have e1 : 1 + rs.length = ((⟨x, 5⟩ : MR) :: rs).length := by rw [List.length_cons]; omega
      go_wp2_with (at_builtin; refine wpList_append_own _ rfl _ _ 25 rfl v2.heap.size 34 i0 (.agg #[.string ⟨#[]⟩, .int .i64 0]) 2 24 Try.underlying25 hi hz0 hz1 hz2 rfl (by decide) (.slice (some ⟨v2.heap.size, 0, none⟩) 1 1) 1 [.string x, .int .i64 5] rfl HQ.out ⟨b, 0, none⟩ rs.length cap (mrs rs) rfl (mrs_length rs) HS.out (mrs_one rs) (by unfold maxLen; omega) (by omega) (by simp) ?_; intro v' wq hown1 hgrow1 hnil1; rw [e1] at hown1; obtain ⟨g_q, c_q, rfl⟩ := own_shape hown1 (fun e => by have h1 := (hnil1.1 e).1; cases h1))
      clear cM0 cM1 cM2 cM3 dM0 dM1 dM2 dM3 cz3
      have hb := ((Below.refl v2.heap.size v2).alloc (Nat.le_refl _) (.cells #[.string x, .int .i64 5] 34)).grown hgrow1 (by simp) (fun j e => by cases e; exact Nat.le_refl _)
      have KMq := Lib.hid (KM2.out.below hb)
      have Bq := Lib.hid (B2.out.trans (hb.mono B2.out.size))
      have Oq := Lib.hid (show wq.ownsRow v2.heap.size 34 2 (.slice (some ⟨g_q, 0, none⟩) ((⟨x, 5⟩ : MR) :: rs).length c_q) ((⟨x, 5⟩ : MR) :: rs).length (mrs ((⟨x, 5⟩ : MR) :: rs)) from hown1)
      have l_q : g_q ≠ g_M := by have h1 := KM2.out.lt; have h2 := (hown1.lt g_q rfl).1; omega
      clear hb hown1 hgrow1 hnil1 HQ HS e1 KM2 B2
      obtain ⟨qs, hqs⟩ : ∃ q, q = (⟨x, 5⟩ : MR) :: rs := ⟨_, rfl⟩
      have HQG := Lib.hid (show ∀ r ∈ qs, goodM r by rw [hqs]; intro r hr; rcases List.mem_cons.1 hr with h | h; (rw [h]; exact ⟨by show x.size ≤ maxLen; have := HX.out; unfold maxLen; omega, by show (Lit.int .i64 5).wf = true; decide⟩); exact HG.out r h)
      have hq7 : qs.length ≤ 1048577 := by rw [hqs, List.length_cons]; omega
      have T5 := Lib.hid (tag_first rs x)
      rw [← hqs] at Oq T5
      have eL : rs.length + 1 = qs.length := by rw [hqs, List.length_cons]
      rw [eL]
      clear hqs eL
      refine (tableMacI g_q 0 c_q qs _ (Row.ownK Oq.out) hq7).mono ?_
      rintro e v3 ⟨g_t, c_t, rfl, ho_t, hb⟩
      have n_M_t : g_M ≠ g_t := by have h1 := KMq.out.lt; have h2 := (ho_t.lt g_t rfl).1; omega
      have l_t : w1.heap.size ≤ g_t := Nat.le_trans Bq.out.size (ho_t.lt g_t rfl).1
      have B3 := Lib.hid (Bq.out.trans (hb.mono Bq.out.size))
      have KM3 := Lib.hid (KMq.out.below hb)
      have Ot3 := Lib.hid (own_down ho_t (Nat.zero_le _))
      clear hb Bq KMq ho_t
      clear Oq
      have KTn := Lib.hid (Blk.new v3 [.bool true, .int .u64 0, .int .u64 0, .slice (some ⟨g_t, 0, none⟩) qs.length c_t] 27)
      have KMn := Lib.hid (KM3.out.alloc (.cells #[.bool true, .int .u64 0, .int .u64 0, .slice (some ⟨g_t, 0, none⟩) qs.length c_t] 27))
      have Otn := Lib.hid (Ot3.out.alloc (.cells #[.bool true, .int .u64 0, .int .u64 0, .slice (some ⟨g_t, 0, none⟩) qs.length c_t] 27))
      have Bn := Lib.hid (B3.out.alloc B3.out.size (.cells #[.bool true, .int .u64 0, .int .u64 0, .slice (some ⟨g_t, 0, none⟩) qs.length c_t] 27))
      clear KM3 Ot3 B3
      obtain ⟨⟨cT0, cT1, cT2, cT3⟩, _, _, _, _⟩ := KTn.out.four
      obtain ⟨⟨cM0, cM1, cM2, cM3⟩, _, _, _, _⟩ := KMn.out.four
      go_wp2_with fail
      clear cT0 cT1 cT2 cT3 cM0 cM1 cM2 cM3
      generalize v3.alloc (.cells #[.bool true, .int .u64 0, .int .u64 0, .slice (some ⟨g_t, 0, none⟩) qs.length c_t] 27) = vr at KTn KMn Otn Bn ⊢
      generalize v3.heap.size = g_T at KTn ⊢
      obtain ⟨⟨cT0, cT1, cT2, cT3⟩, _, _, _, _⟩ := KTn.out.four
      obtain ⟨⟨cM0, cM1, cM2, cM3⟩, _, _, _, _⟩ := KMn.out.four
      have CT := Lib.hid (macOfI true 0 0 (some ⟨g_t, 0, none⟩) c_t qs x hq7 HQG.out HX.out vr.drew (Row.ownK Otn.out))
      rw [T5.out, n64_zero] at CT
      obtain ⟨ok, hok⟩ : ∃ o, Hid (macOk true (n64 k) (n64 l) rs = o) := ⟨_, rfl⟩
      go_region_held3 (fun w' => (w'.cell? ⟨g_T, 0, none⟩ = some (.bool true) ∧ w'.cell? ⟨g_T, 1, none⟩ = some (.int .u64 0) ∧ w'.cell? ⟨g_T, 2, none⟩ = some (.int .u64 0) ∧ w'.cell? ⟨g_T, 3, none⟩ = some (.slice (some ⟨g_t, 0, none⟩) qs.length c_t)) ∧ (w'.cell? ⟨g_M, 0, none⟩ = some (.bool true) ∧ w'.cell? ⟨g_M, 1, none⟩ = some (.int .u64 (n64 k)) ∧ w'.cell? ⟨g_M, 2, none⟩ = some (.int .u64 (n64 l)) ∧ w'.cell? ⟨g_M, 3, none⟩ = some (.slice (some ⟨b, 0, none⟩) rs.length cap)))
        (first | go_keep | (exact ⟨KT5.out.four.1, KM5.out.four.1⟩) | (exact ⟨KT6.out.four.1, KM6.out.four.1⟩) | (exact ⟨KT7.out.four.1, KM7.out.four.1⟩))
        (first | (go_at_call 11; refine (CT.out).mono ?_; rintro e v5 ⟨rfl, hb5⟩; have B5 := Lib.hid (Bn.out.drew.trans (hb5.mono Bn.out.size)); have KT5 := Lib.hid (KTn.out.drew.below hb5); have KM5 := Lib.hid (KMn.out.drew.below hb5)) | (go_at_call 15; refine (macOkI true (n64 k) (n64 l) (some ⟨b, 0, none⟩) cap rs hl7 HG.out _ ((HA.out.below B5.out).mono B5.out.size)).mono ?_; rintro e v6 ⟨rfl, hb6⟩; rw [hok.out]; have B6 := Lib.hid (B5.out.trans (hb6.mono B5.out.size)); have KT6 := Lib.hid (KT5.out.below hb6); have KM6 := Lib.hid (KM5.out.below hb6)) | (go_at_call 16; refine (macOkS true (n64 k) (n64 l) (some ⟨b, 0, none⟩) cap rs hl7 _ ((HA.out.below B6.out).mono B6.out.size)).mono ?_; rintro e v7 ⟨rfl, hb7⟩; rw [hok.out]; have B7 := Lib.hid (B6.out.trans (hb7.mono B6.out.size)); have KT7 := Lib.hid (KT6.out.below hb7); have KM7 := Lib.hid (KM6.out.below hb7)))
      go_wp2_with fail
      go_ret
      exact ⟨ret_bool (by simp), BD.out.trans (B7.out.mono BD.out.size)⟩
theorem own : ownKnob Try.prog.godebug = none := by kernel_rfl
theorem laidOut : laidOutB Try.prog = true := by kernel_rfl

set_option maxRecDepth 100000 in
theorem lifted (os : Os) (started : os.Started) (H : Type) (enc : TypeId × Value → H) :
    ReturnsInHanded {} Try.checked os 3 .any (Rows.fnMacSpec.pre6 enc Try.prog Try.f3 Rows.fnMacRow.domain false) (Rows.fnMacSpec.post enc Try.prog Try.f3 false true false false) := by
  refine returnsInHanded_of_change (C := Try.checked) own started (by kernel_rfl) Try.func3
    (ChangeSpec.witness6 (enc := enc) (C := Try.checked) false ⟨#[], #[.slice none 0 0], []⟩ 8 (by kernel_rfl) (by kernel_rfl) (by kernel_rfl) (by kernel_rfl)) ?_
  intro W base args ds gs before hval0 hW _ _
  have hval : ∀ (j : Nat) t v, Try.f3.params[j]? = some t → args[j]? = some v → Value.okWide Try.prog W .any base t v := hval0
  have hW' := hW
  obtain ⟨p, q, hA0, hV, rfl, _, _⟩ := hW
  have hA : DataW.TrodAll enc Try.prog W 0 (fun _ => true) true Try.f3.params.toList args.toList ds p := hA0
  rw [Try.params3] at hA hval
  obtain ⟨v0, vs0, d0, ds0, p0, q0, hargs, rfl, rfl, h0, r0⟩ := trodAll_cons hA
  obtain ⟨rfl, rfl, rfl⟩ := trodAll_nil r0
  obtain rfl : args = #[v0] := by cases args; simp_all
  obtain ⟨rfl, rfl⟩ := trodVars_none hV
  obtain ⟨a0, len0, cap0, rfl⟩ := okWide_slice Try.underlying22 (hval 0 22 v0 rfl rfl)
  have k0 := h0
  have lt0 : ∀ x ∈ p0, x.block < W.heap.size := by obtain ⟨m, hm⟩ := k0; exact DataW.trod_lt m _ _ _ hm
  obtain ⟨s0, w0⟩ : ∃ bs : List UInt8, IsBytes W a0 len0 bs := by obtain ⟨fuel, hf⟩ := h0; exact openBytes Try.underlying22 Try.underlying5 (by kernel_rfl) hf
  clear hA0 hval0
  refine (walk a0 len0 cap0 s0 w0).mono fun e W' ⟨he, bel⟩ => ?_
  subst he
  exact ⟨_, rfl, _, _, _, [], _, [], hW', trodAll_mk1 (shut_bool Try.underlying4 _), (trodAll_cons_mk (Below.trod laidOut (by kernel_rfl) (of_decide_eq_true (by kernel_rfl)) k0 bel lt0) trodAll_mk0), rfl, bel.frame _, fun h => by cases h⟩

theorem over : Rows.fnMacRow.holds Try.pinned (OpenSpec.ofChange Rows.fnMacSpec) :=
  OpenClaim.holds_of_wide 3 Try.f3 rfl rfl rfl rfl rfl rfl rfl ⟨rfl, rfl, rfl, rfl, rfl⟩ rfl rfl rfl rfl rfl (by kernel_rfl) Try.func3 (by kernel_rfl)
    (of_decide_eq_true (by kernel_rfl)) (by unfold Func.isWrapper; first | (rw [if_pos (by decide +kernel)]; kernel_rfl) | (rw [if_neg (by decide +kernel)]; exact ⟨rfl, rfl⟩))
    (fun os started H enc _ => lifted os started H enc)

theorem proved : Rows.FnMacSaid := over
#print axioms proved
end Go.Proofs.Ytkmflfmbmmpohaa.fnMac
