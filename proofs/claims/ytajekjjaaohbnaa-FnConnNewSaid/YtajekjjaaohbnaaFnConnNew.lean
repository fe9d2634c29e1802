/- Proved here: for every code of at most 1048576 bytes, with the tuple, the two initial sequence numbers, the options and the window that are drawn from it, impl.ConnNew answers what the model answers; the answer is valid just where the tuple is; the segment that impl.AckOf makes of it bears the numbers one place behind the two initial ones and the whole window, and is valid where the tuple is; its segment size lies from 1 to 1460 (a longer code is not asked); the call returns true for every argument, without condition. -/
import Derived.Test.YtajekjjaaohbnaaRows
import Derived.Test.YtajekjjaaohbnaaConnNF
import Derived.Test.YtajekjjaaohbnaaConnNI
import Derived.Test.YtajekjjaaohbnaaConnNS
import Derived.Test.YtajekjjaaohbnaaConnOkI
import Derived.Test.YtajekjjaaohbnaaConnAck
import Derived.Test.YtajekjjaaohbnaaConnSameS
import Derived.Test.YtajekjjaaohbnaaConnSt
import Derived.Test.YtajekjjaaohbnaaSegOk
import Derived.Test.YtajekjjaaohbnaaDraw19
import Derived.Test.YtajekjjaaohbnaaBulk2
import Derived.Deep.RegionHeld3
import Derived.ProofKit
import Derived.OpenShut
import Derived.ChangeSame
import Derived.Test.YtajekjjaaohbnaaBase
import Derived.Test.YtajekjjaaohbnaaOpen
import Derived.ShutString
import Derived.ChangeOld
import Derived.Below
namespace Go.Proofs.Ytajekjjaaohbnaa.fnConnNew
open Go.ChangeShapes Go.WideShapes Go.ChangeAt Go.RowKit Go.Lib

/-- The law's word: true, and what lay before the call lies as it lay. -/
def OkB (w : World) (e : Ending) (w' : World) : Prop := e = .returned (.bool true) ∧ Below w.heap.size w w'

set_option maxRecDepth 100000 in
set_option maxHeartbeats 32000000 in
theorem walk (a0 : Option Addr) (len0 cap0 : Nat) (s0 : List UInt8) {w : World} (w0 : IsBytes w a0 len0 s0) :
    Calls Try.prog 3 #[.slice a0 len0 cap0] w (OkB w) := by
  obtain ⟨⟨rfl, hm⟩, hrow⟩ := w0
  unfold maxLen at hm
  have HR := Lib.hid hrow
  clear hrow
  by_cases hs : s0.length ≤ 1048576
  · go_enter Try.func3, Try.ntmps3
    go_wp2_with fail
    refine (big_no _ _ _ _ hs).mono ?_
    rintro e w' ⟨rfl, rfl⟩
    go_wp2_with fail
    have B0 := Lib.hid (Below.refl w.heap.size w)
    refine (drawConnNew a0 s0 cap0 w HR.out hs).mono ?_
    rintro e v1 ⟨p, q, r, i, j, m, c, k, s, v, x, wd, rfl, hb⟩
    have B1 := Lib.hid (B0.out.trans (hb.mono B0.out.size))
    clear hb B0
    clear HR hs hm
    have NS := fun w => connNewS p q r i j m c k s v x wd w
    have NI := fun w => connNewI p q r i j m c k s v x wd w
    have hok := cn_new_ok p q r (i + 1) (j + 1) ⟨m, c, k, s, v, x⟩ wd
    simp only [pl_pl] at NS NI
    generalize scaled (cnWd wd) (cnO ⟨m, c, k, s, v, x⟩).c = ms at NS NI hok
    generalize cnO ⟨m, c, k, s, v, x⟩ = oo at NS NI hok
    obtain ⟨om, oc, ok, os, ov, ox⟩ := oo
    have OKI := fun w => connOkI p q r 1 (pl (i + 1)) ⟨#[]⟩ 0 false false false (pl (j + 1)) ⟨#[]⟩ none 0 [] (-1) false ms ms om oc ok os ov ox 0 0 ⟨Nat.zero_le _, Nat.zero_le _, by simp⟩ w Row.nil
    simp only [hok] at OKI
    clear hok
    have TS := fun w => tupOkS p q r w
    have AK := fun w => ackOfI p q r 1 (pl (i + 1)) ⟨#[]⟩ 0 false false false (pl (j + 1)) ⟨#[]⟩ none 0 [] (-1) false ms ms om oc ok os ov ox 0 0 (Nat.zero_le _) w
    simp only [nxt_new, win_new] at AK
    have SS := fun w => sameConnS p q r 1 (pl (i + 1)) ⟨#[]⟩ 0 false false false (pl (j + 1)) ⟨#[]⟩ none 0 [] (-1) false ms ms om oc ok os ov ox 0 0 p q r 1 (pl (i + 1)) ⟨#[]⟩ 0 false false false (pl (j + 1)) ⟨#[]⟩ none 0 [] (-1) false ms ms om oc ok os ov ox 0 0 w Row.nil Row.nil (Nat.zero_le _)
    simp only [cnSame_self] at SS
    have SG := fun w => segOkS r q (pl (i + 1)) (pl (j + 1)) 16 32 0 (-1) false false 0 0 ⟨#[]⟩ w
    have hsg := fun h => tup_seg (p := p) (q := q) (r := r) (i + 1) (j + 1) h
    have A1 := fun w => seqAddS_s i 1 w
    have A2 := fun w => seqAddS_s j 1 w
    have MF := fun w => mssForI p q r 1 (pl (i + 1)) ⟨#[]⟩ 0 false false false (pl (j + 1)) ⟨#[]⟩ none 0 [] (-1) false ms ms om oc ok os ov ox 0 0 w
    have hmf := mssF_bd om
    generalize mssF om = mss at MF hmf
    generalize segOk ⟨r, q, pl (i + 1), pl (j + 1), 16, 32, ⟨0, -1, false, false, 0, 0⟩, ⟨#[]⟩⟩ = sg at SG hsg
    generalize pl (i + 1) = i1 at NS NI OKI AK SS SG A1 MF
    generalize pl (j + 1) = j1 at NS NI OKI AK SS SG A2 MF
    generalize tupOk p q r = tb at OKI TS hsg
    replace NS := Lib.hid NS
    replace NI := Lib.hid NI
    replace OKI := Lib.hid OKI
    replace TS := Lib.hid TS
    replace AK := Lib.hid AK
    replace SS := Lib.hid SS
    replace SG := Lib.hid SG
    replace hsg := Lib.hid hsg
    replace A1 := Lib.hid A1
    replace A2 := Lib.hid A2
    replace MF := Lib.hid MF
    replace hmf := Lib.hid hmf
    have B2 := Lib.hid ((B1.out.alloc (by have h0 := B1.out.size; simp <;> omega) (.cells #[.int .i64 p, .int .i64 q, .int .i64 r] 25)).alloc (by have h0 := B1.out.size; simp <;> omega) (.cells #[.int .i64 m, .int .i64 c, .bool k, .bool s, .int .i64 v, .int .i64 x] 27))
    have KT2 := Lib.hid (show Blk ((v1.alloc (.cells #[.int .i64 p, .int .i64 q, .int .i64 r] 25)).alloc (.cells #[.int .i64 m, .int .i64 c, .bool k, .bool s, .int .i64 v, .int .i64 x] 27)) (v1.heap.size) [.int .i64 p, .int .i64 q, .int .i64 r] from ((Blk.new v1 [.int .i64 p, .int .i64 q, .int .i64 r] 25).alloc (.cells #[.int .i64 m, .int .i64 c, .bool k, .bool s, .int .i64 v, .int .i64 x] 27)))
    have n_T_O : v1.heap.size ≠ v1.heap.size + 1 := by omega
    have KO2 := Lib.hid (show Blk ((v1.alloc (.cells #[.int .i64 p, .int .i64 q, .int .i64 r] 25)).alloc (.cells #[.int .i64 m, .int .i64 c, .bool k, .bool s, .int .i64 v, .int .i64 x] 27)) (v1.heap.size + 1) [.int .i64 m, .int .i64 c, .bool k, .bool s, .int .i64 v, .int .i64 x] by have h0 := (Blk.new (v1.alloc (.cells #[.int .i64 p, .int .i64 q, .int .i64 r] 25)) [.int .i64 m, .int .i64 c, .bool k, .bool s, .int .i64 v, .int .i64 x] 27); rwa [show (v1.alloc (.cells #[.int .i64 p, .int .i64 q, .int .i64 r] 25)).heap.size = v1.heap.size + 1 by simp] at h0)
    clear B1
    go_wp2_with fail
    change Calls _ _ _ ((v1.alloc (.cells #[.int .i64 p, .int .i64 q, .int .i64 r] 25)).alloc (.cells #[.int .i64 m, .int .i64 c, .bool k, .bool s, .int .i64 v, .int .i64 x] 27)) _
    generalize (v1.alloc (.cells #[.int .i64 p, .int .i64 q, .int .i64 r] 25)).alloc (.cells #[.int .i64 m, .int .i64 c, .bool k, .bool s, .int .i64 v, .int .i64 x] 27) = v2 at B2 KT2 KO2 ⊢
    generalize v1.heap.size + 1 = g_O at KO2 n_T_O ⊢
    generalize v1.heap.size = g_T at KT2 n_T_O ⊢
    refine (NI.out _).mono ?_
    rintro e v3 ⟨rfl, hb⟩
    have B3 := Lib.hid (B2.out.trans (hb.mono B2.out.size))
    have KT3 := Lib.hid (KT2.out.below hb)
    have KO3 := Lib.hid (KO2.out.below hb)
    clear hb B2 KT2 KO2
    have Kcn := Lib.hid (Blk.new v3 [.int .i64 p, .int .i64 q, .int .i64 r, .int .i64 1, .int .i64 i1, .string ⟨#[]⟩, .int .i64 0, .bool false, .bool false, .bool false, .int .i64 j1, .string ⟨#[]⟩, .slice none 0 0, .int .i64 (-1), .bool false, .int .i64 ms, .int .i64 ms, .int .i64 om, .int .i64 oc, .bool ok, .bool os, .int .i64 ov, .int .i64 ox, .int .i64 0, .int .i64 0] 36)
    have l_c : w.heap.size ≤ v3.heap.size := B3.out.size
    have n_T_c : g_T ≠ v3.heap.size := by have h1 := KT3.out.lt; omega
    have n_O_c : g_O ≠ v3.heap.size := by have h1 := KO3.out.lt; omega
    have Bn := Lib.hid (B3.out.alloc B3.out.size (.cells #[.int .i64 p, .int .i64 q, .int .i64 r, .int .i64 1, .int .i64 i1, .string ⟨#[]⟩, .int .i64 0, .bool false, .bool false, .bool false, .int .i64 j1, .string ⟨#[]⟩, .slice none 0 0, .int .i64 (-1), .bool false, .int .i64 ms, .int .i64 ms, .int .i64 om, .int .i64 oc, .bool ok, .bool os, .int .i64 ov, .int .i64 ox, .int .i64 0, .int .i64 0] 36))
    have KTn := Lib.hid (KT3.out.alloc (.cells #[.int .i64 p, .int .i64 q, .int .i64 r, .int .i64 1, .int .i64 i1, .string ⟨#[]⟩, .int .i64 0, .bool false, .bool false, .bool false, .int .i64 j1, .string ⟨#[]⟩, .slice none 0 0, .int .i64 (-1), .bool false, .int .i64 ms, .int .i64 ms, .int .i64 om, .int .i64 oc, .bool ok, .bool os, .int .i64 ov, .int .i64 ox, .int .i64 0, .int .i64 0] 36))
    have KOn := Lib.hid (KO3.out.alloc (.cells #[.int .i64 p, .int .i64 q, .int .i64 r, .int .i64 1, .int .i64 i1, .string ⟨#[]⟩, .int .i64 0, .bool false, .bool false, .bool false, .int .i64 j1, .string ⟨#[]⟩, .slice none 0 0, .int .i64 (-1), .bool false, .int .i64 ms, .int .i64 ms, .int .i64 om, .int .i64 oc, .bool ok, .bool os, .int .i64 ov, .int .i64 ox, .int .i64 0, .int .i64 0] 36))
    clear B3 KT3 KO3
    go_upto_region 5 with (first | (refine wpList_store_new rfl _ _ _ rfl rfl rfl rfl rfl (by kernel_rfl) rfl ?_))
    generalize v3.alloc (.cells #[.int .i64 p, .int .i64 q, .int .i64 r, .int .i64 1, .int .i64 i1, .string ⟨#[]⟩, .int .i64 0, .bool false, .bool false, .bool false, .int .i64 j1, .string ⟨#[]⟩, .slice none 0 0, .int .i64 (-1), .bool false, .int .i64 ms, .int .i64 ms, .int .i64 om, .int .i64 oc, .bool ok, .bool os, .int .i64 ov, .int .i64 ox, .int .i64 0, .int .i64 0] 36) = v4 at Kcn Bn KTn KOn ⊢
    generalize v3.heap.size = g_c at Kcn l_c n_T_c n_O_c ⊢
    clear v3
    have KT4 := KTn
    clear KTn
    have KO4 := KOn
    clear KOn
    have Kc4 := Kcn
    clear Kcn
    have B4 := Bn
    clear Bn
    refine wp_region_noPanic ?_
    refine wp_region_held_drew (S := fun w' => Blk w' g_T [.int .i64 p, .int .i64 q, .int .i64 r] ∧ Blk w' g_O [.int .i64 m, .int .i64 c, .bool k, .bool s, .int .i64 v, .int .i64 x] ∧ Blk w' g_c [.int .i64 p, .int .i64 q, .int .i64 r, .int .i64 1, .int .i64 i1, .string ⟨#[]⟩, .int .i64 0, .bool false, .bool false, .bool false, .int .i64 j1, .string ⟨#[]⟩, .slice none 0 0, .int .i64 (-1), .bool false, .int .i64 ms, .int .i64 ms, .int .i64 om, .int .i64 oc, .bool ok, .bool os, .int .i64 ov, .int .i64 ox, .int .i64 0, .int .i64 0]) (by kernel_rfl) ⟨KT4.out, KO4.out, Kc4.out⟩ (fun hS => ?_)
    refine wpAnyH_take (i := 0) (v := .agg #[.int .i64 p, .int .i64 q, .int .i64 r, .int .i64 1, .int .i64 i1, .string ⟨#[]⟩, .int .i64 0, .bool false, .bool false, .bool false, .int .i64 j1, .string ⟨#[]⟩, .slice none 0 0, .int .i64 (-1), .bool false, .int .i64 ms, .int .i64 ms, .int .i64 om, .int .i64 oc, .bool ok, .bool os, .int .i64 ov, .int .i64 ox, .int .i64 0, .int .i64 0]) rfl (by kernel_rfl) (by kernel_rfl) (by kernel_rfl) (fun _ _ _ h => h) (yieldsIf_load_mid rfl 36 _ rfl g_c 0 rfl [.int .i64 p, .int .i64 q, .int .i64 r, .int .i64 1, .int .i64 i1, .string ⟨#[]⟩, .int .i64 0, .bool false, .bool false, .bool false, .int .i64 j1, .string ⟨#[]⟩, .slice none 0 0, .int .i64 (-1), .bool false, .int .i64 ms, .int .i64 ms, .int .i64 om, .int .i64 oc, .bool ok, .bool os, .int .i64 ov, .int .i64 ox, .int .i64 0, .int .i64 0] _ (fun w hS => (hS.2.2).range) Try.underlying36 rfl (by kernel_rfl)) hS ?_
    refine wpAnyH_take (i := 1) (v := .agg #[.int .i64 p, .int .i64 q, .int .i64 r]) rfl (by kernel_rfl) (by kernel_rfl) (by kernel_rfl) (fun _ _ _ h => h) (Or.inl ⟨rfl, by intro w hS; have h0 := (hS.1).cell 0 _ rfl; have h1 := (hS.1).cell 1 _ rfl; have h2 := (hS.1).cell 2 _ rfl; go_simp⟩) hS ?_
    refine wpAnyH_take (i := 2) (v := .int .i64 i) rfl (by kernel_rfl) (by kernel_rfl) (by kernel_rfl) (fun _ _ _ h => h) (Or.inl ⟨rfl, by intro w hS; go_simp⟩) hS ?_
    refine wpAnyH_take (i := 3) (v := .int .i64 j) rfl (by kernel_rfl) (by kernel_rfl) (by kernel_rfl) (fun _ _ _ h => h) (Or.inl ⟨rfl, by intro w hS; go_simp⟩) hS ?_
    refine wpAnyH_take (i := 4) (v := .agg #[.int .i64 m, .int .i64 c, .bool k, .bool s, .int .i64 v, .int .i64 x]) rfl (by kernel_rfl) (by kernel_rfl) (by kernel_rfl) (fun _ _ _ h => h) (Or.inl ⟨rfl, by intro w hS; have h0 := (hS.2.1).cell 0 _ rfl; have h1 := (hS.2.1).cell 1 _ rfl; have h2 := (hS.2.1).cell 2 _ rfl; have h3 := (hS.2.1).cell 3 _ rfl; have h4 := (hS.2.1).cell 4 _ rfl; have h5 := (hS.2.1).cell 5 _ rfl; go_simp⟩) hS ?_
    refine wpAnyH_take (i := 5) (v := .int .i64 wd) rfl (by kernel_rfl) (by kernel_rfl) (by kernel_rfl) (fun _ _ _ h => h) (Or.inl ⟨rfl, by intro w hS; go_simp⟩) hS ?_
    refine wpAnyH_ready (rs := [6]) (by kernel_rfl) (by simp) ?_
    refine AllReadyH.cons (i := 6) rfl (fun K hK => ?zr1) AllReadyH.nil
    rw [if_pos (by rfl)]
    go_simp
    clear hS
    refine (NS.out _).mono ?_
    rintro e v5 ⟨rfl, hb⟩
    replace hb := (Below.refl _ v4).drew.trans hb
    have B5 := Lib.hid (B4.out.trans (hb.mono B4.out.size))
    have KT5 := Lib.hid (KT4.out.below hb)
    have KO5 := Lib.hid (KO4.out.below hb)
    have Kc5 := Lib.hid (Kc4.out.below hb)
    clear hb B4 KT4 KO4 Kc4
    refine hK.out _ _ ⟨KT5.out, KO5.out, Kc5.out⟩ (fun hS => ?_)
    clear hK K
    refine wpAnyH_ready (rs := [7]) (by kernel_rfl) (by simp) ?_
    refine AllReadyH.cons (i := 7) rfl (fun K hK => ?zr2) AllReadyH.nil
    rw [if_pos (by rfl)]
    go_simp
    clear hS
    refine (SS.out _).mono ?_
    rintro e v6 ⟨rfl, hb⟩
    have B6 := Lib.hid (B5.out.trans (hb.mono B5.out.size))
    have KT6 := Lib.hid (KT5.out.below hb)
    have KO6 := Lib.hid (KO5.out.below hb)
    have Kc6 := Lib.hid (Kc5.out.below hb)
    clear hb B5 KT5 KO5 Kc5
    refine hK.out _ _ ⟨KT6.out, KO6.out, Kc6.out⟩ (fun hS => ?_)
    clear hK K
    refine wpAnyH_take (i := 8) (v := .bool false) rfl (by kernel_rfl) (by kernel_rfl) (by kernel_rfl) (fun _ _ _ h => h) (Or.inl ⟨rfl, by intro w hS; go_simp⟩) hS ?_
    refine wpAnyH_done (by kernel_rfl) ?_ _
    refine NoPanic.normal ?_
    have HLc := blk_load (P := Try.prog) 36 Kc6.out Try.underlying36 rfl (by kernel_rfl)
    go_wp2_with (refine wpList_load_val rfl _ _ rfl _ _ rfl HLc ?_)
    clear HLc
    refine (AK.out _).mono ?_
    rintro e v7 ⟨rfl, hb⟩
    have B7 := Lib.hid (B6.out.trans (hb.mono B6.out.size))
    have KT7 := Lib.hid (KT6.out.below hb)
    have KO7 := Lib.hid (KO6.out.below hb)
    have Kc7 := Lib.hid (Kc6.out.below hb)
    clear hb B6 KT6 KO6 Kc6
    have Kgn := Lib.hid (Blk.new v7 [.int .i64 r, .int .i64 q, .int .i64 i1, .int .i64 j1, .int .i64 16, .int .i64 32, .int .i64 0, .int .i64 (-1), .bool false, .bool false, .int .i64 0, .int .i64 0, .string ⟨#[]⟩] 40)
    have l_g : w.heap.size ≤ v7.heap.size := B7.out.size
    have n_T_g : g_T ≠ v7.heap.size := by have h1 := KT7.out.lt; omega
    have n_O_g : g_O ≠ v7.heap.size := by have h1 := KO7.out.lt; omega
    have n_c_g : g_c ≠ v7.heap.size := by have h1 := Kc7.out.lt; omega
    have Bn := Lib.hid (B7.out.alloc B7.out.size (.cells #[.int .i64 r, .int .i64 q, .int .i64 i1, .int .i64 j1, .int .i64 16, .int .i64 32, .int .i64 0, .int .i64 (-1), .bool false, .bool false, .int .i64 0, .int .i64 0, .string ⟨#[]⟩] 40))
    have KTn := Lib.hid (KT7.out.alloc (.cells #[.int .i64 r, .int .i64 q, .int .i64 i1, .int .i64 j1, .int .i64 16, .int .i64 32, .int .i64 0, .int .i64 (-1), .bool false, .bool false, .int .i64 0, .int .i64 0, .string ⟨#[]⟩] 40))
    have KOn := Lib.hid (KO7.out.alloc (.cells #[.int .i64 r, .int .i64 q, .int .i64 i1, .int .i64 j1, .int .i64 16, .int .i64 32, .int .i64 0, .int .i64 (-1), .bool false, .bool false, .int .i64 0, .int .i64 0, .string ⟨#[]⟩] 40))
    have Kcn := Lib.hid (Kc7.out.alloc (.cells #[.int .i64 r, .int .i64 q, .int .i64 i1, .int .i64 j1, .int .i64 16, .int .i64 32, .int .i64 0, .int .i64 (-1), .bool false, .bool false, .int .i64 0, .int .i64 0, .string ⟨#[]⟩] 40))
    clear B7 KT7 KO7 Kc7
    go_upto_region 8 with (first | (refine wpList_store_new rfl _ _ _ rfl rfl rfl rfl rfl (by kernel_rfl) rfl ?_))
    generalize v7.alloc (.cells #[.int .i64 r, .int .i64 q, .int .i64 i1, .int .i64 j1, .int .i64 16, .int .i64 32, .int .i64 0, .int .i64 (-1), .bool false, .bool false, .int .i64 0, .int .i64 0, .string ⟨#[]⟩] 40) = v8 at Kgn Bn KTn KOn Kcn ⊢
    generalize v7.heap.size = g_g at Kgn l_g n_T_g n_O_g n_c_g ⊢
    clear v7
    have KT8 := KTn
    clear KTn
    have KO8 := KOn
    clear KOn
    have Kc8 := Kcn
    clear Kcn
    have Kg8 := Kgn
    clear Kgn
    have B8 := Bn
    clear Bn
    cases tb
    case false =>
      have h1 := hmf.out.1
      have h2 := hmf.out.2
      clear hmf
      clear hsg
      refine wp_region_noPanic ?_
      refine wp_region_held_drew (S := fun w' => Blk w' g_T [.int .i64 p, .int .i64 q, .int .i64 r] ∧ Blk w' g_c [.int .i64 p, .int .i64 q, .int .i64 r, .int .i64 1, .int .i64 i1, .string ⟨#[]⟩, .int .i64 0, .bool false, .bool false, .bool false, .int .i64 j1, .string ⟨#[]⟩, .slice none 0 0, .int .i64 (-1), .bool false, .int .i64 ms, .int .i64 ms, .int .i64 om, .int .i64 oc, .bool ok, .bool os, .int .i64 ov, .int .i64 ox, .int .i64 0, .int .i64 0] ∧ Blk w' g_g [.int .i64 r, .int .i64 q, .int .i64 i1, .int .i64 j1, .int .i64 16, .int .i64 32, .int .i64 0, .int .i64 (-1), .bool false, .bool false, .int .i64 0, .int .i64 0, .string ⟨#[]⟩]) (by kernel_rfl) ⟨KT8.out, Kc8.out, Kg8.out⟩ (fun hS => ?_)
      have B9 := Lib.hid (show Below w.heap.size w v8.drew from B8.out.drew)
      have KT9 := Lib.hid (show Blk v8.drew g_T [.int .i64 p, .int .i64 q, .int .i64 r] from KT8.out.drew)
      have KO9 := Lib.hid (show Blk v8.drew g_O [.int .i64 m, .int .i64 c, .bool k, .bool s, .int .i64 v, .int .i64 x] from KO8.out.drew)
      have Kc9 := Lib.hid (show Blk v8.drew g_c [.int .i64 p, .int .i64 q, .int .i64 r, .int .i64 1, .int .i64 i1, .string ⟨#[]⟩, .int .i64 0, .bool false, .bool false, .bool false, .int .i64 j1, .string ⟨#[]⟩, .slice none 0 0, .int .i64 (-1), .bool false, .int .i64 ms, .int .i64 ms, .int .i64 om, .int .i64 oc, .bool ok, .bool os, .int .i64 ov, .int .i64 ox, .int .i64 0, .int .i64 0] from Kc8.out.drew)
      have Kg9 := Lib.hid (show Blk v8.drew g_g [.int .i64 r, .int .i64 q, .int .i64 i1, .int .i64 j1, .int .i64 16, .int .i64 32, .int .i64 0, .int .i64 (-1), .bool false, .bool false, .int .i64 0, .int .i64 0, .string ⟨#[]⟩] from Kg8.out.drew)
      clear hS B8 KT8 KO8 Kc8 Kg8
      generalize v8.drew = v9 at B9 KT9 KO9 Kc9 Kg9 ⊢
      have hS : Blk v9 g_T [.int .i64 p, .int .i64 q, .int .i64 r] ∧ Blk v9 g_c [.int .i64 p, .int .i64 q, .int .i64 r, .int .i64 1, .int .i64 i1, .string ⟨#[]⟩, .int .i64 0, .bool false, .bool false, .bool false, .int .i64 j1, .string ⟨#[]⟩, .slice none 0 0, .int .i64 (-1), .bool false, .int .i64 ms, .int .i64 ms, .int .i64 om, .int .i64 oc, .bool ok, .bool os, .int .i64 ov, .int .i64 ox, .int .i64 0, .int .i64 0] ∧ Blk v9 g_g [.int .i64 r, .int .i64 q, .int .i64 i1, .int .i64 j1, .int .i64 16, .int .i64 32, .int .i64 0, .int .i64 (-1), .bool false, .bool false, .int .i64 0, .int .i64 0, .string ⟨#[]⟩] := ⟨KT9.out, Kc9.out, Kg9.out⟩
      refine wpAnyH_take (i := 0) (v := .agg #[.int .i64 p, .int .i64 q, .int .i64 r, .int .i64 1, .int .i64 i1, .string ⟨#[]⟩, .int .i64 0, .bool false, .bool false, .bool false, .int .i64 j1, .string ⟨#[]⟩, .slice none 0 0, .int .i64 (-1), .bool false, .int .i64 ms, .int .i64 ms, .int .i64 om, .int .i64 oc, .bool ok, .bool os, .int .i64 ov, .int .i64 ox, .int .i64 0, .int .i64 0]) rfl (by kernel_rfl) (by kernel_rfl) (by kernel_rfl) (fun _ _ _ h => h) (yieldsIf_load_mid rfl 36 _ rfl g_c 0 rfl [.int .i64 p, .int .i64 q, .int .i64 r, .int .i64 1, .int .i64 i1, .string ⟨#[]⟩, .int .i64 0, .bool false, .bool false, .bool false, .int .i64 j1, .string ⟨#[]⟩, .slice none 0 0, .int .i64 (-1), .bool false, .int .i64 ms, .int .i64 ms, .int .i64 om, .int .i64 oc, .bool ok, .bool os, .int .i64 ov, .int .i64 ox, .int .i64 0, .int .i64 0] _ (fun w hS => (hS.2.1).range) Try.underlying36 rfl (by kernel_rfl)) hS ?_
      change wpAnyH _ _ _ _ _ _ _ { tmps := #[_, _, _, _, _, _, _, _, _, _, _, _, _, _, _, _, _, _, _, _, _, _, _, _, _, _, _, _, _, _, _, _, _, _, _, _, _, _, _, _, _, _, _, _, _, _, _, _, _, _, _, _, _, _, _, _, _, _, _, _, _, _, _, _, _, _, _, _, _, _, _, _, _, _, _, _, _, _, _, _], defers := [] } _
      refine wpAnyH_take (i := 2) (v := .agg #[.int .i64 p, .int .i64 q, .int .i64 r]) rfl (by kernel_rfl) (by kernel_rfl) (by kernel_rfl) (fun _ _ _ h => h) (Or.inl ⟨rfl, by intro w hS; obtain ⟨⟨hh0, hh1, hh2⟩, _⟩ := hS.1.o3; go_simp⟩) hS ?_
      change wpAnyH _ _ _ _ _ _ _ { tmps := #[_, _, _, _, _, _, _, _, _, _, _, _, _, _, _, _, _, _, _, _, _, _, _, _, _, _, _, _, _, _, _, _, _, _, _, _, _, _, _, _, _, _, _, _, _, _, _, _, _, _, _, _, _, _, _, _, _, _, _, _, _, _, _, _, _, _, _, _, _, _, _, _, _, _, _, _, _, _, _, _], defers := [] } _
      refine wpAnyH_ready (rs := [1]) (by kernel_rfl) (by simp) ?_
      refine AllReadyH.cons (i := 1) rfl (fun K hK => ?zq1) AllReadyH.nil
      rw [if_pos (by first | rfl | kernel_rfl)]
      go_simp
      clear hS
      refine (OKI.out _).mono ?_
      rintro e v10 ⟨rfl, hb⟩
      have B10 := Lib.hid (B9.out.trans (hb.mono B9.out.size))
      have KT10 := Lib.hid (KT9.out.below hb)
      have KO10 := Lib.hid (KO9.out.below hb)
      have Kc10 := Lib.hid (Kc9.out.below hb)
      have Kg10 := Lib.hid (Kg9.out.below hb)
      clear hb B9 KT9 KO9 Kc9 Kg9
      refine hK.out _ _ ⟨KT10.out, Kc10.out, Kg10.out⟩ (fun hS => ?_)
      clear hK K
      change wpAnyH _ _ _ _ _ _ _ { tmps := #[_, _, _, _, _, _, _, _, _, _, _, _, _, _, _, _, _, _, _, _, _, _, _, _, _, _, _, _, _, _, _, _, _, _, _, _, _, _, _, _, _, _, _, _, _, _, _, _, _, _, _, _, _, _, _, _, _, _, _, _, _, _, _, _, _, _, _, _, _, _, _, _, _, _, _, _, _, _, _, _], defers := [] } _
      refine wpAnyH_ready (rs := [3]) (by kernel_rfl) (by simp) ?_
      refine AllReadyH.cons (i := 3) rfl (fun K hK => ?zq2) AllReadyH.nil
      rw [if_pos (by first | rfl | kernel_rfl)]
      go_simp
      clear hS
      refine (TS.out _).mono ?_
      rintro e v11 ⟨rfl, hb⟩
      have B11 := Lib.hid (B10.out.trans (hb.mono B10.out.size))
      have KT11 := Lib.hid (KT10.out.below hb)
      have KO11 := Lib.hid (KO10.out.below hb)
      have Kc11 := Lib.hid (Kc10.out.below hb)
      have Kg11 := Lib.hid (Kg10.out.below hb)
      clear hb B10 KT10 KO10 Kc10 Kg10
      refine hK.out _ _ ⟨KT11.out, Kc11.out, Kg11.out⟩ (fun hS => ?_)
      clear hK K
      change wpAnyH _ _ _ _ _ _ _ { tmps := #[_, _, _, _, _, _, _, _, _, _, _, _, _, _, _, _, _, _, _, _, _, _, _, _, _, _, _, _, _, _, _, _, _, _, _, _, _, _, _, _, _, _, _, _, _, _, _, _, _, _, _, _, _, _, _, _, _, _, _, _, _, _, _, _, _, _, _, _, _, _, _, _, _, _, _, _, _, _, _, _], defers := [] } _
      refine wpAnyH_take (i := 4) (v := .bool true) rfl (by kernel_rfl) (by kernel_rfl) (by kernel_rfl) (fun _ _ _ h => h) (Or.inl ⟨rfl, by intro w hS; go_simp⟩) hS ?_
      change wpAnyH _ _ _ _ _ _ _ { tmps := #[_, _, _, _, _, _, _, _, _, _, _, _, _, _, _, _, _, _, _, _, _, _, _, _, _, _, _, _, _, _, _, _, _, _, _, _, _, _, _, _, _, _, _, _, _, _, _, _, _, _, _, _, _, _, _, _, _, _, _, _, _, _, _, _, _, _, _, _, _, _, _, _, _, _, _, _, _, _, _, _], defers := [] } _
      refine wpAnyH_take (i := 5) (v := .bool true) rfl (by kernel_rfl) (by kernel_rfl) (by kernel_rfl) (fun _ _ _ h => h) (Or.inl ⟨rfl, by intro w hS; go_simp⟩) hS ?_
      change wpAnyH _ _ _ _ _ _ _ { tmps := #[_, _, _, _, _, _, _, _, _, _, _, _, _, _, _, _, _, _, _, _, _, _, _, _, _, _, _, _, _, _, _, _, _, _, _, _, _, _, _, _, _, _, _, _, _, _, _, _, _, _, _, _, _, _, _, _, _, _, _, _, _, _, _, _, _, _, _, _, _, _, _, _, _, _, _, _, _, _, _, _], defers := [] } _
      refine wpAnyH_take (i := 6) (v := .pointer (some ⟨g_g, 2, none⟩)) rfl (by kernel_rfl) (by kernel_rfl) (by kernel_rfl) (fun _ _ _ h => h) (Or.inl ⟨rfl, by intro w hS; go_simp⟩) hS ?_
      change wpAnyH _ _ _ _ _ _ _ { tmps := #[_, _, _, _, _, _, _, _, _, _, _, _, _, _, _, _, _, _, _, _, _, _, _, _, _, _, _, _, _, _, _, _, _, _, _, _, _, _, _, _, _, _, _, _, _, _, _, _, _, _, _, _, _, _, _, _, _, _, _, _, _, _, _, _, _, _, _, _, _, _, _, _, _, _, _, _, _, _, _, _], defers := [] } _
      refine wpAnyH_take (i := 7) (v := .int .i64 i1) rfl (by kernel_rfl) (by kernel_rfl) (by kernel_rfl) (fun _ _ _ h => h) (Or.inl ⟨rfl, by intro w hS; obtain ⟨⟨hh0, hh1, hh2, hh3, hh4, hh5, hh6, hh7, hh8, hh9, hh10, hh11, hh12⟩, _⟩ := hS.2.2.of13; go_simp⟩) hS ?_
      change wpAnyH _ _ _ _ _ _ _ { tmps := #[_, _, _, _, _, _, _, _, _, _, _, _, _, _, _, _, _, _, _, _, _, _, _, _, _, _, _, _, _, _, _, _, _, _, _, _, _, _, _, _, _, _, _, _, _, _, _, _, _, _, _, _, _, _, _, _, _, _, _, _, _, _, _, _, _, _, _, _, _, _, _, _, _, _, _, _, _, _, _, _], defers := [] } _
      refine wpAnyH_take (i := 8) (v := .int .i64 i) rfl (by kernel_rfl) (by kernel_rfl) (by kernel_rfl) (fun _ _ _ h => h) (Or.inl ⟨rfl, by intro w hS; go_simp⟩) hS ?_
      change wpAnyH _ _ _ _ _ _ _ { tmps := #[_, _, _, _, _, _, _, _, _, _, _, _, _, _, _, _, _, _, _, _, _, _, _, _, _, _, _, _, _, _, _, _, _, _, _, _, _, _, _, _, _, _, _, _, _, _, _, _, _, _, _, _, _, _, _, _, _, _, _, _, _, _, _, _, _, _, _, _, _, _, _, _, _, _, _, _, _, _, _, _], defers := [] } _
      refine wpAnyH_ready (rs := [9]) (by kernel_rfl) (by simp) ?_
      refine AllReadyH.cons (i := 9) rfl (fun K hK => ?zq3) AllReadyH.nil
      rw [if_pos (by first | rfl | kernel_rfl)]
      go_simp
      clear hS
      refine (A1.out _).mono ?_
      rintro e v12 ⟨rfl, hb⟩
      have B12 := Lib.hid (B11.out.trans (hb.mono B11.out.size))
      have KT12 := Lib.hid (KT11.out.below hb)
      have KO12 := Lib.hid (KO11.out.below hb)
      have Kc12 := Lib.hid (Kc11.out.below hb)
      have Kg12 := Lib.hid (Kg11.out.below hb)
      clear hb B11 KT11 KO11 Kc11 Kg11
      refine hK.out _ _ ⟨KT12.out, Kc12.out, Kg12.out⟩ (fun hS => ?_)
      clear hK K
      change wpAnyH _ _ _ _ _ _ _ { tmps := #[_, _, _, _, _, _, _, _, _, _, _, _, _, _, _, _, _, _, _, _, _, _, _, _, _, _, _, _, _, _, _, _, _, _, _, _, _, _, _, _, _, _, _, _, _, _, _, _, _, _, _, _, _, _, _, _, _, _, _, _, _, _, _, _, _, _, _, _, _, _, _, _, _, _, _, _, _, _, _, _], defers := [] } _
      refine wpAnyH_take (i := 10) (v := .bool true) rfl (by kernel_rfl) (by kernel_rfl) (by kernel_rfl) (fun _ _ _ h => h) (Or.inl ⟨rfl, by intro w hS; go_simp⟩) hS ?_
      change wpAnyH _ _ _ _ _ _ _ { tmps := #[_, _, _, _, _, _, _, _, _, _, _, _, _, _, _, _, _, _, _, _, _, _, _, _, _, _, _, _, _, _, _, _, _, _, _, _, _, _, _, _, _, _, _, _, _, _, _, _, _, _, _, _, _, _, _, _, _, _, _, _, _, _, _, _, _, _, _, _, _, _, _, _, _, _, _, _, _, _, _, _], defers := [] } _
      refine wpAnyH_take (i := 11) (v := .bool true) rfl (by kernel_rfl) (by kernel_rfl) (by kernel_rfl) (fun _ _ _ h => h) (Or.inl ⟨rfl, by intro w hS; go_simp⟩) hS ?_
      change wpAnyH _ _ _ _ _ _ _ { tmps := #[_, _, _, _, _, _, _, _, _, _, _, _, _, _, _, _, _, _, _, _, _, _, _, _, _, _, _, _, _, _, _, _, _, _, _, _, _, _, _, _, _, _, _, _, _, _, _, _, _, _, _, _, _, _, _, _, _, _, _, _, _, _, _, _, _, _, _, _, _, _, _, _, _, _, _, _, _, _, _, _], defers := [] } _
      refine wpAnyH_take (i := 12) (v := .bool true) rfl (by kernel_rfl) (by kernel_rfl) (by kernel_rfl) (fun _ _ _ h => h) (Or.inl ⟨rfl, by intro w hS; go_simp⟩) hS ?_
      change wpAnyH _ _ _ _ _ _ _ { tmps := #[_, _, _, _, _, _, _, _, _, _, _, _, _, _, _, _, _, _, _, _, _, _, _, _, _, _, _, _, _, _, _, _, _, _, _, _, _, _, _, _, _, _, _, _, _, _, _, _, _, _, _, _, _, _, _, _, _, _, _, _, _, _, _, _, _, _, _, _, _, _, _, _, _, _, _, _, _, _, _, _], defers := [] } _
      refine wpAnyH_take (i := 13) (v := .pointer (some ⟨g_g, 3, none⟩)) rfl (by kernel_rfl) (by kernel_rfl) (by kernel_rfl) (fun _ _ _ h => h) (Or.inl ⟨rfl, by intro w hS; go_simp⟩) hS ?_
      change wpAnyH _ _ _ _ _ _ _ { tmps := #[_, _, _, _, _, _, _, _, _, _, _, _, _, _, _, _, _, _, _, _, _, _, _, _, _, _, _, _, _, _, _, _, _, _, _, _, _, _, _, _, _, _, _, _, _, _, _, _, _, _, _, _, _, _, _, _, _, _, _, _, _, _, _, _, _, _, _, _, _, _, _, _, _, _, _, _, _, _, _, _], defers := [] } _
      refine wpAnyH_take (i := 14) (v := .int .i64 j1) rfl (by kernel_rfl) (by kernel_rfl) (by kernel_rfl) (fun _ _ _ h => h) (Or.inl ⟨rfl, by intro w hS; obtain ⟨⟨hh0, hh1, hh2, hh3, hh4, hh5, hh6, hh7, hh8, hh9, hh10, hh11, hh12⟩, _⟩ := hS.2.2.of13; go_simp⟩) hS ?_
      change wpAnyH _ _ _ _ _ _ _ { tmps := #[_, _, _, _, _, _, _, _, _, _, _, _, _, _, _, _, _, _, _, _, _, _, _, _, _, _, _, _, _, _, _, _, _, _, _, _, _, _, _, _, _, _, _, _, _, _, _, _, _, _, _, _, _, _, _, _, _, _, _, _, _, _, _, _, _, _, _, _, _, _, _, _, _, _, _, _, _, _, _, _], defers := [] } _
      refine wpAnyH_take (i := 15) (v := .int .i64 j) rfl (by kernel_rfl) (by kernel_rfl) (by kernel_rfl) (fun _ _ _ h => h) (Or.inl ⟨rfl, by intro w hS; go_simp⟩) hS ?_
      change wpAnyH _ _ _ _ _ _ _ { tmps := #[_, _, _, _, _, _, _, _, _, _, _, _, _, _, _, _, _, _, _, _, _, _, _, _, _, _, _, _, _, _, _, _, _, _, _, _, _, _, _, _, _, _, _, _, _, _, _, _, _, _, _, _, _, _, _, _, _, _, _, _, _, _, _, _, _, _, _, _, _, _, _, _, _, _, _, _, _, _, _, _], defers := [] } _
      refine wpAnyH_ready (rs := [16]) (by kernel_rfl) (by simp) ?_
      refine AllReadyH.cons (i := 16) rfl (fun K hK => ?zq4) AllReadyH.nil
      rw [if_pos (by first | rfl | kernel_rfl)]
      go_simp
      clear hS
      refine (A2.out _).mono ?_
      rintro e v13 ⟨rfl, hb⟩
      have B13 := Lib.hid (B12.out.trans (hb.mono B12.out.size))
      have KT13 := Lib.hid (KT12.out.below hb)
      have KO13 := Lib.hid (KO12.out.below hb)
      have Kc13 := Lib.hid (Kc12.out.below hb)
      have Kg13 := Lib.hid (Kg12.out.below hb)
      clear hb B12 KT12 KO12 Kc12 Kg12
      refine hK.out _ _ ⟨KT13.out, Kc13.out, Kg13.out⟩ (fun hS => ?_)
      clear hK K
      change wpAnyH _ _ _ _ _ _ _ { tmps := #[_, _, _, _, _, _, _, _, _, _, _, _, _, _, _, _, _, _, _, _, _, _, _, _, _, _, _, _, _, _, _, _, _, _, _, _, _, _, _, _, _, _, _, _, _, _, _, _, _, _, _, _, _, _, _, _, _, _, _, _, _, _, _, _, _, _, _, _, _, _, _, _, _, _, _, _, _, _, _, _], defers := [] } _
      refine wpAnyH_take (i := 17) (v := .bool true) rfl (by kernel_rfl) (by kernel_rfl) (by kernel_rfl) (fun _ _ _ h => h) (Or.inl ⟨rfl, by intro w hS; go_simp⟩) hS ?_
      change wpAnyH _ _ _ _ _ _ _ { tmps := #[_, _, _, _, _, _, _, _, _, _, _, _, _, _, _, _, _, _, _, _, _, _, _, _, _, _, _, _, _, _, _, _, _, _, _, _, _, _, _, _, _, _, _, _, _, _, _, _, _, _, _, _, _, _, _, _, _, _, _, _, _, _, _, _, _, _, _, _, _, _, _, _, _, _, _, _, _, _, _, _], defers := [] } _
      refine wpAnyH_take (i := 18) (v := .bool true) rfl (by kernel_rfl) (by kernel_rfl) (by kernel_rfl) (fun _ _ _ h => h) (Or.inl ⟨rfl, by intro w hS; go_simp⟩) hS ?_
      change wpAnyH _ _ _ _ _ _ _ { tmps := #[_, _, _, _, _, _, _, _, _, _, _, _, _, _, _, _, _, _, _, _, _, _, _, _, _, _, _, _, _, _, _, _, _, _, _, _, _, _, _, _, _, _, _, _, _, _, _, _, _, _, _, _, _, _, _, _, _, _, _, _, _, _, _, _, _, _, _, _, _, _, _, _, _, _, _, _, _, _, _, _], defers := [] } _
      refine wpAnyH_take (i := 19) (v := .bool true) rfl (by kernel_rfl) (by kernel_rfl) (by kernel_rfl) (fun _ _ _ h => h) (Or.inl ⟨rfl, by intro w hS; go_simp⟩) hS ?_
      change wpAnyH _ _ _ _ _ _ _ { tmps := #[_, _, _, _, _, _, _, _, _, _, _, _, _, _, _, _, _, _, _, _, _, _, _, _, _, _, _, _, _, _, _, _, _, _, _, _, _, _, _, _, _, _, _, _, _, _, _, _, _, _, _, _, _, _, _, _, _, _, _, _, _, _, _, _, _, _, _, _, _, _, _, _, _, _, _, _, _, _, _, _], defers := [] } _
      refine wpAnyH_take (i := 20) (v := .pointer (some ⟨g_g, 5, none⟩)) rfl (by kernel_rfl) (by kernel_rfl) (by kernel_rfl) (fun _ _ _ h => h) (Or.inl ⟨rfl, by intro w hS; go_simp⟩) hS ?_
      change wpAnyH _ _ _ _ _ _ _ { tmps := #[_, _, _, _, _, _, _, _, _, _, _, _, _, _, _, _, _, _, _, _, _, _, _, _, _, _, _, _, _, _, _, _, _, _, _, _, _, _, _, _, _, _, _, _, _, _, _, _, _, _, _, _, _, _, _, _, _, _, _, _, _, _, _, _, _, _, _, _, _, _, _, _, _, _, _, _, _, _, _, _], defers := [] } _
      refine wpAnyH_take (i := 21) (v := .int .i64 32) rfl (by kernel_rfl) (by kernel_rfl) (by kernel_rfl) (fun _ _ _ h => h) (Or.inl ⟨rfl, by intro w hS; obtain ⟨⟨hh0, hh1, hh2, hh3, hh4, hh5, hh6, hh7, hh8, hh9, hh10, hh11, hh12⟩, _⟩ := hS.2.2.of13; go_simp⟩) hS ?_
      change wpAnyH _ _ _ _ _ _ _ { tmps := #[_, _, _, _, _, _, _, _, _, _, _, _, _, _, _, _, _, _, _, _, _, _, _, _, _, _, _, _, _, _, _, _, _, _, _, _, _, _, _, _, _, _, _, _, _, _, _, _, _, _, _, _, _, _, _, _, _, _, _, _, _, _, _, _, _, _, _, _, _, _, _, _, _, _, _, _, _, _, _, _], defers := [] } _
      refine wpAnyH_take (i := 22) (v := .bool true) rfl (by kernel_rfl) (by kernel_rfl) (by kernel_rfl) (fun _ _ _ h => h) (Or.inl ⟨rfl, by intro w hS; go_simp⟩) hS ?_
      change wpAnyH _ _ _ _ _ _ _ { tmps := #[_, _, _, _, _, _, _, _, _, _, _, _, _, _, _, _, _, _, _, _, _, _, _, _, _, _, _, _, _, _, _, _, _, _, _, _, _, _, _, _, _, _, _, _, _, _, _, _, _, _, _, _, _, _, _, _, _, _, _, _, _, _, _, _, _, _, _, _, _, _, _, _, _, _, _, _, _, _, _, _], defers := [] } _
      refine wpAnyH_take (i := 23) (v := .bool true) rfl (by kernel_rfl) (by kernel_rfl) (by kernel_rfl) (fun _ _ _ h => h) (Or.inl ⟨rfl, by intro w hS; go_simp⟩) hS ?_
      change wpAnyH _ _ _ _ _ _ _ { tmps := #[_, _, _, _, _, _, _, _, _, _, _, _, _, _, _, _, _, _, _, _, _, _, _, _, _, _, _, _, _, _, _, _, _, _, _, _, _, _, _, _, _, _, _, _, _, _, _, _, _, _, _, _, _, _, _, _, _, _, _, _, _, _, _, _, _, _, _, _, _, _, _, _, _, _, _, _, _, _, _, _], defers := [] } _
      refine wpAnyH_take (i := 24) (v := .bool true) rfl (by kernel_rfl) (by kernel_rfl) (by kernel_rfl) (fun _ _ _ h => h) (Or.inl ⟨rfl, by intro w hS; go_simp⟩) hS ?_
      change wpAnyH _ _ _ _ _ _ _ { tmps := #[_, _, _, _, _, _, _, _, _, _, _, _, _, _, _, _, _, _, _, _, _, _, _, _, _, _, _, _, _, _, _, _, _, _, _, _, _, _, _, _, _, _, _, _, _, _, _, _, _, _, _, _, _, _, _, _, _, _, _, _, _, _, _, _, _, _, _, _, _, _, _, _, _, _, _, _, _, _, _, _], defers := [] } _
      refine wpAnyH_take (i := 25) (v := .agg #[.int .i64 p, .int .i64 q, .int .i64 r]) rfl (by kernel_rfl) (by kernel_rfl) (by kernel_rfl) (fun _ _ _ h => h) (Or.inl ⟨rfl, by intro w hS; obtain ⟨⟨hh0, hh1, hh2⟩, _⟩ := hS.1.o3; go_simp⟩) hS ?_
      change wpAnyH _ _ _ _ _ _ _ { tmps := #[_, _, _, _, _, _, _, _, _, _, _, _, _, _, _, _, _, _, _, _, _, _, _, _, _, _, _, _, _, _, _, _, _, _, _, _, _, _, _, _, _, _, _, _, _, _, _, _, _, _, _, _, _, _, _, _, _, _, _, _, _, _, _, _, _, _, _, _, _, _, _, _, _, _, _, _, _, _, _, _], defers := [] } _
      refine wpAnyH_ready (rs := [26]) (by kernel_rfl) (by simp) ?_
      refine AllReadyH.cons (i := 26) rfl (fun K hK => ?zq5) AllReadyH.nil
      rw [if_pos (by first | rfl | kernel_rfl)]
      go_simp
      clear hS
      refine (TS.out _).mono ?_
      rintro e v14 ⟨rfl, hb⟩
      have B14 := Lib.hid (B13.out.trans (hb.mono B13.out.size))
      have KT14 := Lib.hid (KT13.out.below hb)
      have KO14 := Lib.hid (KO13.out.below hb)
      have Kc14 := Lib.hid (Kc13.out.below hb)
      have Kg14 := Lib.hid (Kg13.out.below hb)
      clear hb B13 KT13 KO13 Kc13 Kg13
      refine hK.out _ _ ⟨KT14.out, Kc14.out, Kg14.out⟩ (fun hS => ?_)
      clear hK K
      change wpAnyH _ _ _ _ _ _ _ { tmps := #[_, _, _, _, _, _, _, _, _, _, _, _, _, _, _, _, _, _, _, _, _, _, _, _, _, _, _, _, _, _, _, _, _, _, _, _, _, _, _, _, _, _, _, _, _, _, _, _, _, _, _, _, _, _, _, _, _, _, _, _, _, _, _, _, _, _, _, _, _, _, _, _, _, _, _, _, _, _, _, _], defers := [] } _
      refine wpAnyH_take (i := 27) (v := .bool true) rfl (by kernel_rfl) (by kernel_rfl) (by kernel_rfl) (fun _ _ _ h => h) (Or.inl ⟨rfl, by intro w hS; go_simp⟩) hS ?_
      change wpAnyH _ _ _ _ _ _ _ { tmps := #[_, _, _, _, _, _, _, _, _, _, _, _, _, _, _, _, _, _, _, _, _, _, _, _, _, _, _, _, _, _, _, _, _, _, _, _, _, _, _, _, _, _, _, _, _, _, _, _, _, _, _, _, _, _, _, _, _, _, _, _, _, _, _, _, _, _, _, _, _, _, _, _, _, _, _, _, _, _, _, _], defers := [] } _
      refine wpAnyH_take (i := 28) (v := .bool true) rfl (by kernel_rfl) (by kernel_rfl) (by kernel_rfl) (fun _ _ _ h => h) (Or.inl ⟨rfl, by intro w hS; go_simp⟩) hS ?_
      change wpAnyH _ _ _ _ _ _ _ { tmps := #[_, _, _, _, _, _, _, _, _, _, _, _, _, _, _, _, _, _, _, _, _, _, _, _, _, _, _, _, _, _, _, _, _, _, _, _, _, _, _, _, _, _, _, _, _, _, _, _, _, _, _, _, _, _, _, _, _, _, _, _, _, _, _, _, _, _, _, _, _, _, _, _, _, _, _, _, _, _, _, _], defers := [] } _
      refine wpAnyH_take (i := 29) (v := undef) rfl (by kernel_rfl) (by kernel_rfl) (by kernel_rfl) (fun _ _ _ h => h) (Or.inr ⟨rfl, rfl⟩) hS ?_
      change wpAnyH _ _ _ _ _ _ _ { tmps := #[_, _, _, _, _, _, _, _, _, _, _, _, _, _, _, _, _, _, _, _, _, _, _, _, _, _, _, _, _, _, _, _, _, _, _, _, _, _, _, _, _, _, _, _, _, _, _, _, _, _, _, _, _, _, _, _, _, _, _, _, _, _, _, _, _, _, _, _, _, _, _, _, _, _, _, _, _, _, _, _], defers := [] } _
      refine wpAnyH_take (i := 30) (v := undef) rfl (by kernel_rfl) (by kernel_rfl) (by kernel_rfl) (fun _ _ _ h => h) (Or.inr ⟨rfl, rfl⟩) hS ?_
      change wpAnyH _ _ _ _ _ _ _ { tmps := #[_, _, _, _, _, _, _, _, _, _, _, _, _, _, _, _, _, _, _, _, _, _, _, _, _, _, _, _, _, _, _, _, _, _, _, _, _, _, _, _, _, _, _, _, _, _, _, _, _, _, _, _, _, _, _, _, _, _, _, _, _, _, _, _, _, _, _, _, _, _, _, _, _, _, _, _, _, _, _, _], defers := [] } _
      refine wpAnyH_take (i := 31) (v := .bool true) rfl (by kernel_rfl) (by kernel_rfl) (by kernel_rfl) (fun _ _ _ h => h) (Or.inl ⟨rfl, by intro w hS; go_simp⟩) hS ?_
      change wpAnyH _ _ _ _ _ _ _ { tmps := #[_, _, _, _, _, _, _, _, _, _, _, _, _, _, _, _, _, _, _, _, _, _, _, _, _, _, _, _, _, _, _, _, _, _, _, _, _, _, _, _, _, _, _, _, _, _, _, _, _, _, _, _, _, _, _, _, _, _, _, _, _, _, _, _, _, _, _, _, _, _, _, _, _, _, _, _, _, _, _, _], defers := [] } _
      refine wpAnyH_take (i := 32) (v := .bool true) rfl (by kernel_rfl) (by kernel_rfl) (by kernel_rfl) (fun _ _ _ h => h) (Or.inl ⟨rfl, by intro w hS; go_simp⟩) hS ?_
      change wpAnyH _ _ _ _ _ _ _ { tmps := #[_, _, _, _, _, _, _, _, _, _, _, _, _, _, _, _, _, _, _, _, _, _, _, _, _, _, _, _, _, _, _, _, _, _, _, _, _, _, _, _, _, _, _, _, _, _, _, _, _, _, _, _, _, _, _, _, _, _, _, _, _, _, _, _, _, _, _, _, _, _, _, _, _, _, _, _, _, _, _, _], defers := [] } _
      refine wpAnyH_take (i := 33) (v := .bool true) rfl (by kernel_rfl) (by kernel_rfl) (by kernel_rfl) (fun _ _ _ h => h) (Or.inl ⟨rfl, by intro w hS; go_simp⟩) hS ?_
      change wpAnyH _ _ _ _ _ _ _ { tmps := #[_, _, _, _, _, _, _, _, _, _, _, _, _, _, _, _, _, _, _, _, _, _, _, _, _, _, _, _, _, _, _, _, _, _, _, _, _, _, _, _, _, _, _, _, _, _, _, _, _, _, _, _, _, _, _, _, _, _, _, _, _, _, _, _, _, _, _, _, _, _, _, _, _, _, _, _, _, _, _, _], defers := [] } _
      refine wpAnyH_take (i := 34) (v := .agg #[.int .i64 p, .int .i64 q, .int .i64 r, .int .i64 1, .int .i64 i1, .string ⟨#[]⟩, .int .i64 0, .bool false, .bool false, .bool false, .int .i64 j1, .string ⟨#[]⟩, .slice none 0 0, .int .i64 (-1), .bool false, .int .i64 ms, .int .i64 ms, .int .i64 om, .int .i64 oc, .bool ok, .bool os, .int .i64 ov, .int .i64 ox, .int .i64 0, .int .i64 0]) rfl (by kernel_rfl) (by kernel_rfl) (by kernel_rfl) (fun _ _ _ h => h) (yieldsIf_load_mid rfl 36 _ rfl g_c 0 rfl [.int .i64 p, .int .i64 q, .int .i64 r, .int .i64 1, .int .i64 i1, .string ⟨#[]⟩, .int .i64 0, .bool false, .bool false, .bool false, .int .i64 j1, .string ⟨#[]⟩, .slice none 0 0, .int .i64 (-1), .bool false, .int .i64 ms, .int .i64 ms, .int .i64 om, .int .i64 oc, .bool ok, .bool os, .int .i64 ov, .int .i64 ox, .int .i64 0, .int .i64 0] _ (fun w hS => (hS.2.1).range) Try.underlying36 rfl (by kernel_rfl)) hS ?_
      change wpAnyH _ _ _ _ _ _ _ { tmps := #[_, _, _, _, _, _, _, _, _, _, _, _, _, _, _, _, _, _, _, _, _, _, _, _, _, _, _, _, _, _, _, _, _, _, _, _, _, _, _, _, _, _, _, _, _, _, _, _, _, _, _, _, _, _, _, _, _, _, _, _, _, _, _, _, _, _, _, _, _, _, _, _, _, _, _, _, _, _, _, _], defers := [] } _
      refine wpAnyH_ready (rs := [35]) (by kernel_rfl) (by simp) ?_
      refine AllReadyH.cons (i := 35) rfl (fun K hK => ?zq7) AllReadyH.nil
      rw [if_pos (by first | rfl | kernel_rfl)]
      go_simp
      clear hS
      refine (MF.out _).mono ?_
      rintro e v15 ⟨rfl, hb⟩
      have B15 := Lib.hid (B14.out.trans (hb.mono B14.out.size))
      have KT15 := Lib.hid (KT14.out.below hb)
      have KO15 := Lib.hid (KO14.out.below hb)
      have Kc15 := Lib.hid (Kc14.out.below hb)
      have Kg15 := Lib.hid (Kg14.out.below hb)
      clear hb B14 KT14 KO14 Kc14 Kg14
      refine hK.out _ _ ⟨KT15.out, Kc15.out, Kg15.out⟩ (fun hS => ?_)
      clear hK K
      change wpAnyH _ _ _ _ _ _ _ { tmps := #[_, _, _, _, _, _, _, _, _, _, _, _, _, _, _, _, _, _, _, _, _, _, _, _, _, _, _, _, _, _, _, _, _, _, _, _, _, _, _, _, _, _, _, _, _, _, _, _, _, _, _, _, _, _, _, _, _, _, _, _, _, _, _, _, _, _, _, _, _, _, _, _, _, _, _, _, _, _, _, _], defers := [] } _
      refine wpAnyH_take (i := 36) (v := .bool true) rfl (by kernel_rfl) (by kernel_rfl) (by kernel_rfl) (fun _ _ _ h => h) (Or.inl ⟨rfl, by intro w hS; first | (go_simp; done) | (go_simp; omega)⟩) hS ?_
      change wpAnyH _ _ _ _ _ _ _ { tmps := #[_, _, _, _, _, _, _, _, _, _, _, _, _, _, _, _, _, _, _, _, _, _, _, _, _, _, _, _, _, _, _, _, _, _, _, _, _, _, _, _, _, _, _, _, _, _, _, _, _, _, _, _, _, _, _, _, _, _, _, _, _, _, _, _, _, _, _, _, _, _, _, _, _, _, _, _, _, _, _, _], defers := [] } _
      refine wpAnyH_take (i := 37) (v := .bool true) rfl (by kernel_rfl) (by kernel_rfl) (by kernel_rfl) (fun _ _ _ h => h) (Or.inl ⟨rfl, by intro w hS; go_simp⟩) hS ?_
      change wpAnyH _ _ _ _ _ _ _ { tmps := #[_, _, _, _, _, _, _, _, _, _, _, _, _, _, _, _, _, _, _, _, _, _, _, _, _, _, _, _, _, _, _, _, _, _, _, _, _, _, _, _, _, _, _, _, _, _, _, _, _, _, _, _, _, _, _, _, _, _, _, _, _, _, _, _, _, _, _, _, _, _, _, _, _, _, _, _, _, _, _, _], defers := [] } _
      refine wpAnyH_take (i := 38) (v := .bool true) rfl (by kernel_rfl) (by kernel_rfl) (by kernel_rfl) (fun _ _ _ h => h) (Or.inl ⟨rfl, by intro w hS; go_simp⟩) hS ?_
      change wpAnyH _ _ _ _ _ _ _ { tmps := #[_, _, _, _, _, _, _, _, _, _, _, _, _, _, _, _, _, _, _, _, _, _, _, _, _, _, _, _, _, _, _, _, _, _, _, _, _, _, _, _, _, _, _, _, _, _, _, _, _, _, _, _, _, _, _, _, _, _, _, _, _, _, _, _, _, _, _, _, _, _, _, _, _, _, _, _, _, _, _, _], defers := [] } _
      refine wpAnyH_take (i := 39) (v := .agg #[.int .i64 p, .int .i64 q, .int .i64 r, .int .i64 1, .int .i64 i1, .string ⟨#[]⟩, .int .i64 0, .bool false, .bool false, .bool false, .int .i64 j1, .string ⟨#[]⟩, .slice none 0 0, .int .i64 (-1), .bool false, .int .i64 ms, .int .i64 ms, .int .i64 om, .int .i64 oc, .bool ok, .bool os, .int .i64 ov, .int .i64 ox, .int .i64 0, .int .i64 0]) rfl (by kernel_rfl) (by kernel_rfl) (by kernel_rfl) (fun _ _ _ h => h) (yieldsIf_load_mid rfl 36 _ rfl g_c 0 rfl [.int .i64 p, .int .i64 q, .int .i64 r, .int .i64 1, .int .i64 i1, .string ⟨#[]⟩, .int .i64 0, .bool false, .bool false, .bool false, .int .i64 j1, .string ⟨#[]⟩, .slice none 0 0, .int .i64 (-1), .bool false, .int .i64 ms, .int .i64 ms, .int .i64 om, .int .i64 oc, .bool ok, .bool os, .int .i64 ov, .int .i64 ox, .int .i64 0, .int .i64 0] _ (fun w hS => (hS.2.1).range) Try.underlying36 rfl (by kernel_rfl)) hS ?_
      change wpAnyH _ _ _ _ _ _ _ { tmps := #[_, _, _, _, _, _, _, _, _, _, _, _, _, _, _, _, _, _, _, _, _, _, _, _, _, _, _, _, _, _, _, _, _, _, _, _, _, _, _, _, _, _, _, _, _, _, _, _, _, _, _, _, _, _, _, _, _, _, _, _, _, _, _, _, _, _, _, _, _, _, _, _, _, _, _, _, _, _, _, _], defers := [] } _
      refine wpAnyH_ready (rs := [40]) (by kernel_rfl) (by simp) ?_
      refine AllReadyH.cons (i := 40) rfl (fun K hK => ?zq8) AllReadyH.nil
      rw [if_pos (by first | rfl | kernel_rfl)]
      go_simp
      clear hS
      refine (MF.out _).mono ?_
      rintro e v16 ⟨rfl, hb⟩
      have B16 := Lib.hid (B15.out.trans (hb.mono B15.out.size))
      have KT16 := Lib.hid (KT15.out.below hb)
      have KO16 := Lib.hid (KO15.out.below hb)
      have Kc16 := Lib.hid (Kc15.out.below hb)
      have Kg16 := Lib.hid (Kg15.out.below hb)
      clear hb B15 KT15 KO15 Kc15 Kg15
      refine hK.out _ _ ⟨KT16.out, Kc16.out, Kg16.out⟩ (fun hS => ?_)
      clear hK K
      change wpAnyH _ _ _ _ _ _ _ { tmps := #[_, _, _, _, _, _, _, _, _, _, _, _, _, _, _, _, _, _, _, _, _, _, _, _, _, _, _, _, _, _, _, _, _, _, _, _, _, _, _, _, _, _, _, _, _, _, _, _, _, _, _, _, _, _, _, _, _, _, _, _, _, _, _, _, _, _, _, _, _, _, _, _, _, _, _, _, _, _, _, _], defers := [] } _
      refine wpAnyH_take (i := 41) (v := .bool true) rfl (by kernel_rfl) (by kernel_rfl) (by kernel_rfl) (fun _ _ _ h => h) (Or.inl ⟨rfl, by intro w hS; first | (go_simp; done) | (go_simp; omega)⟩) hS ?_
      change wpAnyH _ _ _ _ _ _ _ { tmps := #[_, _, _, _, _, _, _, _, _, _, _, _, _, _, _, _, _, _, _, _, _, _, _, _, _, _, _, _, _, _, _, _, _, _, _, _, _, _, _, _, _, _, _, _, _, _, _, _, _, _, _, _, _, _, _, _, _, _, _, _, _, _, _, _, _, _, _, _, _, _, _, _, _, _, _, _, _, _, _, _], defers := [] } _
      refine wpAnyH_take (i := 42) (v := .bool true) rfl (by kernel_rfl) (by kernel_rfl) (by kernel_rfl) (fun _ _ _ h => h) (Or.inl ⟨rfl, by intro w hS; go_simp⟩) hS ?_
      change wpAnyH _ _ _ _ _ _ _ { tmps := #[_, _, _, _, _, _, _, _, _, _, _, _, _, _, _, _, _, _, _, _, _, _, _, _, _, _, _, _, _, _, _, _, _, _, _, _, _, _, _, _, _, _, _, _, _, _, _, _, _, _, _, _, _, _, _, _, _, _, _, _, _, _, _, _, _, _, _, _, _, _, _, _, _, _, _, _, _, _, _, _], defers := [] } _
      refine wpAnyH_take (i := 43) (v := .bool true) rfl (by kernel_rfl) (by kernel_rfl) (by kernel_rfl) (fun _ _ _ h => h) (Or.inl ⟨rfl, by intro w hS; go_simp⟩) hS ?_
      change wpAnyH _ _ _ _ _ _ _ { tmps := #[_, _, _, _, _, _, _, _, _, _, _, _, _, _, _, _, _, _, _, _, _, _, _, _, _, _, _, _, _, _, _, _, _, _, _, _, _, _, _, _, _, _, _, _, _, _, _, _, _, _, _, _, _, _, _, _, _, _, _, _, _, _, _, _, _, _, _, _, _, _, _, _, _, _, _, _, _, _, _, _], defers := [] } _
      refine wpAnyH_done (by kernel_rfl) ?_ _
      refine NoPanic.normal ?_
      go_wp2_with fail
      go_ret
      exact ⟨rfl, B16.out⟩
    case true =>
      have h1 := hmf.out.1
      have h2 := hmf.out.2
      clear hmf
      obtain rfl : sg = true := hsg.out rfl
      clear hsg
      refine wp_region_noPanic ?_
      refine wp_region_held_drew (S := fun w' => Blk w' g_T [.int .i64 p, .int .i64 q, .int .i64 r] ∧ Blk w' g_c [.int .i64 p, .int .i64 q, .int .i64 r, .int .i64 1, .int .i64 i1, .string ⟨#[]⟩, .int .i64 0, .bool false, .bool false, .bool false, .int .i64 j1, .string ⟨#[]⟩, .slice none 0 0, .int .i64 (-1), .bool false, .int .i64 ms, .int .i64 ms, .int .i64 om, .int .i64 oc, .bool ok, .bool os, .int .i64 ov, .int .i64 ox, .int .i64 0, .int .i64 0] ∧ Blk w' g_g [.int .i64 r, .int .i64 q, .int .i64 i1, .int .i64 j1, .int .i64 16, .int .i64 32, .int .i64 0, .int .i64 (-1), .bool false, .bool false, .int .i64 0, .int .i64 0, .string ⟨#[]⟩]) (by kernel_rfl) ⟨KT8.out, Kc8.out, Kg8.out⟩ (fun hS => ?_)
      have B9 := Lib.hid (show Below w.heap.size w v8.drew from B8.out.drew)
      have KT9 := Lib.hid (show Blk v8.drew g_T [.int .i64 p, .int .i64 q, .int .i64 r] from KT8.out.drew)
      have KO9 := Lib.hid (show Blk v8.drew g_O [.int .i64 m, .int .i64 c, .bool k, .bool s, .int .i64 v, .int .i64 x] from KO8.out.drew)
      have Kc9 := Lib.hid (show Blk v8.drew g_c [.int .i64 p, .int .i64 q, .int .i64 r, .int .i64 1, .int .i64 i1, .string ⟨#[]⟩, .int .i64 0, .bool false, .bool false, .bool false, .int .i64 j1, .string ⟨#[]⟩, .slice none 0 0, .int .i64 (-1), .bool false, .int .i64 ms, .int .i64 ms, .int .i64 om, .int .i64 oc, .bool ok, .bool os, .int .i64 ov, .int .i64 ox, .int .i64 0, .int .i64 0] from Kc8.out.drew)
      have Kg9 := Lib.hid (show Blk v8.drew g_g [.int .i64 r, .int .i64 q, .int .i64 i1, .int .i64 j1, .int .i64 16, .int .i64 32, .int .i64 0, .int .i64 (-1), .bool false, .bool false, .int .i64 0, .int .i64 0, .string ⟨#[]⟩] from Kg8.out.drew)
      clear hS B8 KT8 KO8 Kc8 Kg8
      generalize v8.drew = v9 at B9 KT9 KO9 Kc9 Kg9 ⊢
      have hS : Blk v9 g_T [.int .i64 p, .int .i64 q, .int .i64 r] ∧ Blk v9 g_c [.int .i64 p, .int .i64 q, .int .i64 r, .int .i64 1, .int .i64 i1, .string ⟨#[]⟩, .int .i64 0, .bool false, .bool false, .bool false, .int .i64 j1, .string ⟨#[]⟩, .slice none 0 0, .int .i64 (-1), .bool false, .int .i64 ms, .int .i64 ms, .int .i64 om, .int .i64 oc, .bool ok, .bool os, .int .i64 ov, .int .i64 ox, .int .i64 0, .int .i64 0] ∧ Blk v9 g_g [.int .i64 r, .int .i64 q, .int .i64 i1, .int .i64 j1, .int .i64 16, .int .i64 32, .int .i64 0, .int .i64 (-1), .bool false, .bool false, .int .i64 0, .int .i64 0, .string ⟨#[]⟩] := ⟨KT9.out, Kc9.out, Kg9.out⟩
      refine wpAnyH_take (i := 0) (v := .agg #[.int .i64 p, .int .i64 q, .int .i64 r, .int .i64 1, .int .i64 i1, .string ⟨#[]⟩, .int .i64 0, .bool false, .bool false, .bool false, .int .i64 j1, .string ⟨#[]⟩, .slice none 0 0, .int .i64 (-1), .bool false, .int .i64 ms, .int .i64 ms, .int .i64 om, .int .i64 oc, .bool ok, .bool os, .int .i64 ov, .int .i64 ox, .int .i64 0, .int .i64 0]) rfl (by kernel_rfl) (by kernel_rfl) (by kernel_rfl) (fun _ _ _ h => h) (yieldsIf_load_mid rfl 36 _ rfl g_c 0 rfl [.int .i64 p, .int .i64 q, .int .i64 r, .int .i64 1, .int .i64 i1, .string ⟨#[]⟩, .int .i64 0, .bool false, .bool false, .bool false, .int .i64 j1, .string ⟨#[]⟩, .slice none 0 0, .int .i64 (-1), .bool false, .int .i64 ms, .int .i64 ms, .int .i64 om, .int .i64 oc, .bool ok, .bool os, .int .i64 ov, .int .i64 ox, .int .i64 0, .int .i64 0] _ (fun w hS => (hS.2.1).range) Try.underlying36 rfl (by kernel_rfl)) hS ?_
      change wpAnyH _ _ _ _ _ _ _ { tmps := #[_, _, _, _, _, _, _, _, _, _, _, _, _, _, _, _, _, _, _, _, _, _, _, _, _, _, _, _, _, _, _, _, _, _, _, _, _, _, _, _, _, _, _, _, _, _, _, _, _, _, _, _, _, _, _, _, _, _, _, _, _, _, _, _, _, _, _, _, _, _, _, _, _, _, _, _, _, _, _, _], defers := [] } _
      refine wpAnyH_take (i := 2) (v := .agg #[.int .i64 p, .int .i64 q, .int .i64 r]) rfl (by kernel_rfl) (by kernel_rfl) (by kernel_rfl) (fun _ _ _ h => h) (Or.inl ⟨rfl, by intro w hS; obtain ⟨⟨hh0, hh1, hh2⟩, _⟩ := hS.1.o3; go_simp⟩) hS ?_
      change wpAnyH _ _ _ _ _ _ _ { tmps := #[_, _, _, _, _, _, _, _, _, _, _, _, _, _, _, _, _, _, _, _, _, _, _, _, _, _, _, _, _, _, _, _, _, _, _, _, _, _, _, _, _, _, _, _, _, _, _, _, _, _, _, _, _, _, _, _, _, _, _, _, _, _, _, _, _, _, _, _, _, _, _, _, _, _, _, _, _, _, _, _], defers := [] } _
      refine wpAnyH_ready (rs := [1]) (by kernel_rfl) (by simp) ?_
      refine AllReadyH.cons (i := 1) rfl (fun K hK => ?zq9) AllReadyH.nil
      rw [if_pos (by first | rfl | kernel_rfl)]
      go_simp
      clear hS
      refine (OKI.out _).mono ?_
      rintro e v10 ⟨rfl, hb⟩
      have B10 := Lib.hid (B9.out.trans (hb.mono B9.out.size))
      have KT10 := Lib.hid (KT9.out.below hb)
      have KO10 := Lib.hid (KO9.out.below hb)
      have Kc10 := Lib.hid (Kc9.out.below hb)
      have Kg10 := Lib.hid (Kg9.out.below hb)
      clear hb B9 KT9 KO9 Kc9 Kg9
      refine hK.out _ _ ⟨KT10.out, Kc10.out, Kg10.out⟩ (fun hS => ?_)
      clear hK K
      change wpAnyH _ _ _ _ _ _ _ { tmps := #[_, _, _, _, _, _, _, _, _, _, _, _, _, _, _, _, _, _, _, _, _, _, _, _, _, _, _, _, _, _, _, _, _, _, _, _, _, _, _, _, _, _, _, _, _, _, _, _, _, _, _, _, _, _, _, _, _, _, _, _, _, _, _, _, _, _, _, _, _, _, _, _, _, _, _, _, _, _, _, _], defers := [] } _
      refine wpAnyH_ready (rs := [3]) (by kernel_rfl) (by simp) ?_
      refine AllReadyH.cons (i := 3) rfl (fun K hK => ?zq10) AllReadyH.nil
      rw [if_pos (by first | rfl | kernel_rfl)]
      go_simp
      clear hS
      refine (TS.out _).mono ?_
      rintro e v11 ⟨rfl, hb⟩
      have B11 := Lib.hid (B10.out.trans (hb.mono B10.out.size))
      have KT11 := Lib.hid (KT10.out.below hb)
      have KO11 := Lib.hid (KO10.out.below hb)
      have Kc11 := Lib.hid (Kc10.out.below hb)
      have Kg11 := Lib.hid (Kg10.out.below hb)
      clear hb B10 KT10 KO10 Kc10 Kg10
      refine hK.out _ _ ⟨KT11.out, Kc11.out, Kg11.out⟩ (fun hS => ?_)
      clear hK K
      change wpAnyH _ _ _ _ _ _ _ { tmps := #[_, _, _, _, _, _, _, _, _, _, _, _, _, _, _, _, _, _, _, _, _, _, _, _, _, _, _, _, _, _, _, _, _, _, _, _, _, _, _, _, _, _, _, _, _, _, _, _, _, _, _, _, _, _, _, _, _, _, _, _, _, _, _, _, _, _, _, _, _, _, _, _, _, _, _, _, _, _, _, _], defers := [] } _
      refine wpAnyH_take (i := 4) (v := .bool true) rfl (by kernel_rfl) (by kernel_rfl) (by kernel_rfl) (fun _ _ _ h => h) (Or.inl ⟨rfl, by intro w hS; go_simp⟩) hS ?_
      change wpAnyH _ _ _ _ _ _ _ { tmps := #[_, _, _, _, _, _, _, _, _, _, _, _, _, _, _, _, _, _, _, _, _, _, _, _, _, _, _, _, _, _, _, _, _, _, _, _, _, _, _, _, _, _, _, _, _, _, _, _, _, _, _, _, _, _, _, _, _, _, _, _, _, _, _, _, _, _, _, _, _, _, _, _, _, _, _, _, _, _, _, _], defers := [] } _
      refine wpAnyH_take (i := 5) (v := .bool true) rfl (by kernel_rfl) (by kernel_rfl) (by kernel_rfl) (fun _ _ _ h => h) (Or.inl ⟨rfl, by intro w hS; go_simp⟩) hS ?_
      change wpAnyH _ _ _ _ _ _ _ { tmps := #[_, _, _, _, _, _, _, _, _, _, _, _, _, _, _, _, _, _, _, _, _, _, _, _, _, _, _, _, _, _, _, _, _, _, _, _, _, _, _, _, _, _, _, _, _, _, _, _, _, _, _, _, _, _, _, _, _, _, _, _, _, _, _, _, _, _, _, _, _, _, _, _, _, _, _, _, _, _, _, _], defers := [] } _
      refine wpAnyH_take (i := 6) (v := .pointer (some ⟨g_g, 2, none⟩)) rfl (by kernel_rfl) (by kernel_rfl) (by kernel_rfl) (fun _ _ _ h => h) (Or.inl ⟨rfl, by intro w hS; go_simp⟩) hS ?_
      change wpAnyH _ _ _ _ _ _ _ { tmps := #[_, _, _, _, _, _, _, _, _, _, _, _, _, _, _, _, _, _, _, _, _, _, _, _, _, _, _, _, _, _, _, _, _, _, _, _, _, _, _, _, _, _, _, _, _, _, _, _, _, _, _, _, _, _, _, _, _, _, _, _, _, _, _, _, _, _, _, _, _, _, _, _, _, _, _, _, _, _, _, _], defers := [] } _
      refine wpAnyH_take (i := 7) (v := .int .i64 i1) rfl (by kernel_rfl) (by kernel_rfl) (by kernel_rfl) (fun _ _ _ h => h) (Or.inl ⟨rfl, by intro w hS; obtain ⟨⟨hh0, hh1, hh2, hh3, hh4, hh5, hh6, hh7, hh8, hh9, hh10, hh11, hh12⟩, _⟩ := hS.2.2.of13; go_simp⟩) hS ?_
      change wpAnyH _ _ _ _ _ _ _ { tmps := #[_, _, _, _, _, _, _, _, _, _, _, _, _, _, _, _, _, _, _, _, _, _, _, _, _, _, _, _, _, _, _, _, _, _, _, _, _, _, _, _, _, _, _, _, _, _, _, _, _, _, _, _, _, _, _, _, _, _, _, _, _, _, _, _, _, _, _, _, _, _, _, _, _, _, _, _, _, _, _, _], defers := [] } _
      refine wpAnyH_take (i := 8) (v := .int .i64 i) rfl (by kernel_rfl) (by kernel_rfl) (by kernel_rfl) (fun _ _ _ h => h) (Or.inl ⟨rfl, by intro w hS; go_simp⟩) hS ?_
      change wpAnyH _ _ _ _ _ _ _ { tmps := #[_, _, _, _, _, _, _, _, _, _, _, _, _, _, _, _, _, _, _, _, _, _, _, _, _, _, _, _, _, _, _, _, _, _, _, _, _, _, _, _, _, _, _, _, _, _, _, _, _, _, _, _, _, _, _, _, _, _, _, _, _, _, _, _, _, _, _, _, _, _, _, _, _, _, _, _, _, _, _, _], defers := [] } _
      refine wpAnyH_ready (rs := [9]) (by kernel_rfl) (by simp) ?_
      refine AllReadyH.cons (i := 9) rfl (fun K hK => ?zq11) AllReadyH.nil
      rw [if_pos (by first | rfl | kernel_rfl)]
      go_simp
      clear hS
      refine (A1.out _).mono ?_
      rintro e v12 ⟨rfl, hb⟩
      have B12 := Lib.hid (B11.out.trans (hb.mono B11.out.size))
      have KT12 := Lib.hid (KT11.out.below hb)
      have KO12 := Lib.hid (KO11.out.below hb)
      have Kc12 := Lib.hid (Kc11.out.below hb)
      have Kg12 := Lib.hid (Kg11.out.below hb)
      clear hb B11 KT11 KO11 Kc11 Kg11
      refine hK.out _ _ ⟨KT12.out, Kc12.out, Kg12.out⟩ (fun hS => ?_)
      clear hK K
      change wpAnyH _ _ _ _ _ _ _ { tmps := #[_, _, _, _, _, _, _, _, _, _, _, _, _, _, _, _, _, _, _, _, _, _, _, _, _, _, _, _, _, _, _, _, _, _, _, _, _, _, _, _, _, _, _, _, _, _, _, _, _, _, _, _, _, _, _, _, _, _, _, _, _, _, _, _, _, _, _, _, _, _, _, _, _, _, _, _, _, _, _, _], defers := [] } _
      refine wpAnyH_take (i := 10) (v := .bool true) rfl (by kernel_rfl) (by kernel_rfl) (by kernel_rfl) (fun _ _ _ h => h) (Or.inl ⟨rfl, by intro w hS; go_simp⟩) hS ?_
      change wpAnyH _ _ _ _ _ _ _ { tmps := #[_, _, _, _, _, _, _, _, _, _, _, _, _, _, _, _, _, _, _, _, _, _, _, _, _, _, _, _, _, _, _, _, _, _, _, _, _, _, _, _, _, _, _, _, _, _, _, _, _, _, _, _, _, _, _, _, _, _, _, _, _, _, _, _, _, _, _, _, _, _, _, _, _, _, _, _, _, _, _, _], defers := [] } _
      refine wpAnyH_take (i := 11) (v := .bool true) rfl (by kernel_rfl) (by kernel_rfl) (by kernel_rfl) (fun _ _ _ h => h) (Or.inl ⟨rfl, by intro w hS; go_simp⟩) hS ?_
      change wpAnyH _ _ _ _ _ _ _ { tmps := #[_, _, _, _, _, _, _, _, _, _, _, _, _, _, _, _, _, _, _, _, _, _, _, _, _, _, _, _, _, _, _, _, _, _, _, _, _, _, _, _, _, _, _, _, _, _, _, _, _, _, _, _, _, _, _, _, _, _, _, _, _, _, _, _, _, _, _, _, _, _, _, _, _, _, _, _, _, _, _, _], defers := [] } _
      refine wpAnyH_take (i := 12) (v := .bool true) rfl (by kernel_rfl) (by kernel_rfl) (by kernel_rfl) (fun _ _ _ h => h) (Or.inl ⟨rfl, by intro w hS; go_simp⟩) hS ?_
      change wpAnyH _ _ _ _ _ _ _ { tmps := #[_, _, _, _, _, _, _, _, _, _, _, _, _, _, _, _, _, _, _, _, _, _, _, _, _, _, _, _, _, _, _, _, _, _, _, _, _, _, _, _, _, _, _, _, _, _, _, _, _, _, _, _, _, _, _, _, _, _, _, _, _, _, _, _, _, _, _, _, _, _, _, _, _, _, _, _, _, _, _, _], defers := [] } _
      refine wpAnyH_take (i := 13) (v := .pointer (some ⟨g_g, 3, none⟩)) rfl (by kernel_rfl) (by kernel_rfl) (by kernel_rfl) (fun _ _ _ h => h) (Or.inl ⟨rfl, by intro w hS; go_simp⟩) hS ?_
      change wpAnyH _ _ _ _ _ _ _ { tmps := #[_, _, _, _, _, _, _, _, _, _, _, _, _, _, _, _, _, _, _, _, _, _, _, _, _, _, _, _, _, _, _, _, _, _, _, _, _, _, _, _, _, _, _, _, _, _, _, _, _, _, _, _, _, _, _, _, _, _, _, _, _, _, _, _, _, _, _, _, _, _, _, _, _, _, _, _, _, _, _, _], defers := [] } _
      refine wpAnyH_take (i := 14) (v := .int .i64 j1) rfl (by kernel_rfl) (by kernel_rfl) (by kernel_rfl) (fun _ _ _ h => h) (Or.inl ⟨rfl, by intro w hS; obtain ⟨⟨hh0, hh1, hh2, hh3, hh4, hh5, hh6, hh7, hh8, hh9, hh10, hh11, hh12⟩, _⟩ := hS.2.2.of13; go_simp⟩) hS ?_
      change wpAnyH _ _ _ _ _ _ _ { tmps := #[_, _, _, _, _, _, _, _, _, _, _, _, _, _, _, _, _, _, _, _, _, _, _, _, _, _, _, _, _, _, _, _, _, _, _, _, _, _, _, _, _, _, _, _, _, _, _, _, _, _, _, _, _, _, _, _, _, _, _, _, _, _, _, _, _, _, _, _, _, _, _, _, _, _, _, _, _, _, _, _], defers := [] } _
      refine wpAnyH_take (i := 15) (v := .int .i64 j) rfl (by kernel_rfl) (by kernel_rfl) (by kernel_rfl) (fun _ _ _ h => h) (Or.inl ⟨rfl, by intro w hS; go_simp⟩) hS ?_
      change wpAnyH _ _ _ _ _ _ _ { tmps := #[_, _, _, _, _, _, _, _, _, _, _, _, _, _, _, _, _, _, _, _, _, _, _, _, _, _, _, _, _, _, _, _, _, _, _, _, _, _, _, _, _, _, _, _, _, _, _, _, _, _, _, _, _, _, _, _, _, _, _, _, _, _, _, _, _, _, _, _, _, _, _, _, _, _, _, _, _, _, _, _], defers := [] } _
      refine wpAnyH_ready (rs := [16]) (by kernel_rfl) (by simp) ?_
      refine AllReadyH.cons (i := 16) rfl (fun K hK => ?zq12) AllReadyH.nil
      rw [if_pos (by first | rfl | kernel_rfl)]
      go_simp
      clear hS
      refine (A2.out _).mono ?_
      rintro e v13 ⟨rfl, hb⟩
      have B13 := Lib.hid (B12.out.trans (hb.mono B12.out.size))
      have KT13 := Lib.hid (KT12.out.below hb)
      have KO13 := Lib.hid (KO12.out.below hb)
      have Kc13 := Lib.hid (Kc12.out.below hb)
      have Kg13 := Lib.hid (Kg12.out.below hb)
      clear hb B12 KT12 KO12 Kc12 Kg12
      refine hK.out _ _ ⟨KT13.out, Kc13.out, Kg13.out⟩ (fun hS => ?_)
      clear hK K
      change wpAnyH _ _ _ _ _ _ _ { tmps := #[_, _, _, _, _, _, _, _, _, _, _, _, _, _, _, _, _, _, _, _, _, _, _, _, _, _, _, _, _, _, _, _, _, _, _, _, _, _, _, _, _, _, _, _, _, _, _, _, _, _, _, _, _, _, _, _, _, _, _, _, _, _, _, _, _, _, _, _, _, _, _, _, _, _, _, _, _, _, _, _], defers := [] } _
      refine wpAnyH_take (i := 17) (v := .bool true) rfl (by kernel_rfl) (by kernel_rfl) (by kernel_rfl) (fun _ _ _ h => h) (Or.inl ⟨rfl, by intro w hS; go_simp⟩) hS ?_
      change wpAnyH _ _ _ _ _ _ _ { tmps := #[_, _, _, _, _, _, _, _, _, _, _, _, _, _, _, _, _, _, _, _, _, _, _, _, _, _, _, _, _, _, _, _, _, _, _, _, _, _, _, _, _, _, _, _, _, _, _, _, _, _, _, _, _, _, _, _, _, _, _, _, _, _, _, _, _, _, _, _, _, _, _, _, _, _, _, _, _, _, _, _], defers := [] } _
      refine wpAnyH_take (i := 18) (v := .bool true) rfl (by kernel_rfl) (by kernel_rfl) (by kernel_rfl) (fun _ _ _ h => h) (Or.inl ⟨rfl, by intro w hS; go_simp⟩) hS ?_
      change wpAnyH _ _ _ _ _ _ _ { tmps := #[_, _, _, _, _, _, _, _, _, _, _, _, _, _, _, _, _, _, _, _, _, _, _, _, _, _, _, _, _, _, _, _, _, _, _, _, _, _, _, _, _, _, _, _, _, _, _, _, _, _, _, _, _, _, _, _, _, _, _, _, _, _, _, _, _, _, _, _, _, _, _, _, _, _, _, _, _, _, _, _], defers := [] } _
      refine wpAnyH_take (i := 19) (v := .bool true) rfl (by kernel_rfl) (by kernel_rfl) (by kernel_rfl) (fun _ _ _ h => h) (Or.inl ⟨rfl, by intro w hS; go_simp⟩) hS ?_
      change wpAnyH _ _ _ _ _ _ _ { tmps := #[_, _, _, _, _, _, _, _, _, _, _, _, _, _, _, _, _, _, _, _, _, _, _, _, _, _, _, _, _, _, _, _, _, _, _, _, _, _, _, _, _, _, _, _, _, _, _, _, _, _, _, _, _, _, _, _, _, _, _, _, _, _, _, _, _, _, _, _, _, _, _, _, _, _, _, _, _, _, _, _], defers := [] } _
      refine wpAnyH_take (i := 20) (v := .pointer (some ⟨g_g, 5, none⟩)) rfl (by kernel_rfl) (by kernel_rfl) (by kernel_rfl) (fun _ _ _ h => h) (Or.inl ⟨rfl, by intro w hS; go_simp⟩) hS ?_
      change wpAnyH _ _ _ _ _ _ _ { tmps := #[_, _, _, _, _, _, _, _, _, _, _, _, _, _, _, _, _, _, _, _, _, _, _, _, _, _, _, _, _, _, _, _, _, _, _, _, _, _, _, _, _, _, _, _, _, _, _, _, _, _, _, _, _, _, _, _, _, _, _, _, _, _, _, _, _, _, _, _, _, _, _, _, _, _, _, _, _, _, _, _], defers := [] } _
      refine wpAnyH_take (i := 21) (v := .int .i64 32) rfl (by kernel_rfl) (by kernel_rfl) (by kernel_rfl) (fun _ _ _ h => h) (Or.inl ⟨rfl, by intro w hS; obtain ⟨⟨hh0, hh1, hh2, hh3, hh4, hh5, hh6, hh7, hh8, hh9, hh10, hh11, hh12⟩, _⟩ := hS.2.2.of13; go_simp⟩) hS ?_
      change wpAnyH _ _ _ _ _ _ _ { tmps := #[_, _, _, _, _, _, _, _, _, _, _, _, _, _, _, _, _, _, _, _, _, _, _, _, _, _, _, _, _, _, _, _, _, _, _, _, _, _, _, _, _, _, _, _, _, _, _, _, _, _, _, _, _, _, _, _, _, _, _, _, _, _, _, _, _, _, _, _, _, _, _, _, _, _, _, _, _, _, _, _], defers := [] } _
      refine wpAnyH_take (i := 22) (v := .bool true) rfl (by kernel_rfl) (by kernel_rfl) (by kernel_rfl) (fun _ _ _ h => h) (Or.inl ⟨rfl, by intro w hS; go_simp⟩) hS ?_
      change wpAnyH _ _ _ _ _ _ _ { tmps := #[_, _, _, _, _, _, _, _, _, _, _, _, _, _, _, _, _, _, _, _, _, _, _, _, _, _, _, _, _, _, _, _, _, _, _, _, _, _, _, _, _, _, _, _, _, _, _, _, _, _, _, _, _, _, _, _, _, _, _, _, _, _, _, _, _, _, _, _, _, _, _, _, _, _, _, _, _, _, _, _], defers := [] } _
      refine wpAnyH_take (i := 23) (v := .bool true) rfl (by kernel_rfl) (by kernel_rfl) (by kernel_rfl) (fun _ _ _ h => h) (Or.inl ⟨rfl, by intro w hS; go_simp⟩) hS ?_
      change wpAnyH _ _ _ _ _ _ _ { tmps := #[_, _, _, _, _, _, _, _, _, _, _, _, _, _, _, _, _, _, _, _, _, _, _, _, _, _, _, _, _, _, _, _, _, _, _, _, _, _, _, _, _, _, _, _, _, _, _, _, _, _, _, _, _, _, _, _, _, _, _, _, _, _, _, _, _, _, _, _, _, _, _, _, _, _, _, _, _, _, _, _], defers := [] } _
      refine wpAnyH_take (i := 24) (v := .bool true) rfl (by kernel_rfl) (by kernel_rfl) (by kernel_rfl) (fun _ _ _ h => h) (Or.inl ⟨rfl, by intro w hS; go_simp⟩) hS ?_
      change wpAnyH _ _ _ _ _ _ _ { tmps := #[_, _, _, _, _, _, _, _, _, _, _, _, _, _, _, _, _, _, _, _, _, _, _, _, _, _, _, _, _, _, _, _, _, _, _, _, _, _, _, _, _, _, _, _, _, _, _, _, _, _, _, _, _, _, _, _, _, _, _, _, _, _, _, _, _, _, _, _, _, _, _, _, _, _, _, _, _, _, _, _], defers := [] } _
      refine wpAnyH_take (i := 25) (v := .agg #[.int .i64 p, .int .i64 q, .int .i64 r]) rfl (by kernel_rfl) (by kernel_rfl) (by kernel_rfl) (fun _ _ _ h => h) (Or.inl ⟨rfl, by intro w hS; obtain ⟨⟨hh0, hh1, hh2⟩, _⟩ := hS.1.o3; go_simp⟩) hS ?_
      change wpAnyH _ _ _ _ _ _ _ { tmps := #[_, _, _, _, _, _, _, _, _, _, _, _, _, _, _, _, _, _, _, _, _, _, _, _, _, _, _, _, _, _, _, _, _, _, _, _, _, _, _, _, _, _, _, _, _, _, _, _, _, _, _, _, _, _, _, _, _, _, _, _, _, _, _, _, _, _, _, _, _, _, _, _, _, _, _, _, _, _, _, _], defers := [] } _
      refine wpAnyH_ready (rs := [26]) (by kernel_rfl) (by simp) ?_
      refine AllReadyH.cons (i := 26) rfl (fun K hK => ?zq13) AllReadyH.nil
      rw [if_pos (by first | rfl | kernel_rfl)]
      go_simp
      clear hS
      refine (TS.out _).mono ?_
      rintro e v14 ⟨rfl, hb⟩
      have B14 := Lib.hid (B13.out.trans (hb.mono B13.out.size))
      have KT14 := Lib.hid (KT13.out.below hb)
      have KO14 := Lib.hid (KO13.out.below hb)
      have Kc14 := Lib.hid (Kc13.out.below hb)
      have Kg14 := Lib.hid (Kg13.out.below hb)
      clear hb B13 KT13 KO13 Kc13 Kg13
      refine hK.out _ _ ⟨KT14.out, Kc14.out, Kg14.out⟩ (fun hS => ?_)
      clear hK K
      change wpAnyH _ _ _ _ _ _ _ { tmps := #[_, _, _, _, _, _, _, _, _, _, _, _, _, _, _, _, _, _, _, _, _, _, _, _, _, _, _, _, _, _, _, _, _, _, _, _, _, _, _, _, _, _, _, _, _, _, _, _, _, _, _, _, _, _, _, _, _, _, _, _, _, _, _, _, _, _, _, _, _, _, _, _, _, _, _, _, _, _, _, _], defers := [] } _
      refine wpAnyH_take (i := 27) (v := .bool false) rfl (by kernel_rfl) (by kernel_rfl) (by kernel_rfl) (fun _ _ _ h => h) (Or.inl ⟨rfl, by intro w hS; go_simp⟩) hS ?_
      change wpAnyH _ _ _ _ _ _ _ { tmps := #[_, _, _, _, _, _, _, _, _, _, _, _, _, _, _, _, _, _, _, _, _, _, _, _, _, _, _, _, _, _, _, _, _, _, _, _, _, _, _, _, _, _, _, _, _, _, _, _, _, _, _, _, _, _, _, _, _, _, _, _, _, _, _, _, _, _, _, _, _, _, _, _, _, _, _, _, _, _, _, _], defers := [] } _
      refine wpAnyH_take (i := 28) (v := .bool false) rfl (by kernel_rfl) (by kernel_rfl) (by kernel_rfl) (fun _ _ _ h => h) (Or.inl ⟨rfl, by intro w hS; go_simp⟩) hS ?_
      change wpAnyH _ _ _ _ _ _ _ { tmps := #[_, _, _, _, _, _, _, _, _, _, _, _, _, _, _, _, _, _, _, _, _, _, _, _, _, _, _, _, _, _, _, _, _, _, _, _, _, _, _, _, _, _, _, _, _, _, _, _, _, _, _, _, _, _, _, _, _, _, _, _, _, _, _, _, _, _, _, _, _, _, _, _, _, _, _, _, _, _, _, _], defers := [] } _
      refine wpAnyH_take (i := 29) (v := .agg #[.int .i64 r, .int .i64 q, .int .i64 i1, .int .i64 j1, .int .i64 16, .int .i64 32, .int .i64 0, .int .i64 (-1), .bool false, .bool false, .int .i64 0, .int .i64 0, .string ⟨#[]⟩]) rfl (by kernel_rfl) (by kernel_rfl) (by kernel_rfl) (fun _ _ _ h => h) (Or.inl ⟨rfl, by intro w hS; obtain ⟨⟨hh0, hh1, hh2, hh3, hh4, hh5, hh6, hh7, hh8, hh9, hh10, hh11, hh12⟩, _⟩ := hS.2.2.of13; go_simp⟩) hS ?_
      change wpAnyH _ _ _ _ _ _ _ { tmps := #[_, _, _, _, _, _, _, _, _, _, _, _, _, _, _, _, _, _, _, _, _, _, _, _, _, _, _, _, _, _, _, _, _, _, _, _, _, _, _, _, _, _, _, _, _, _, _, _, _, _, _, _, _, _, _, _, _, _, _, _, _, _, _, _, _, _, _, _, _, _, _, _, _, _, _, _, _, _, _, _], defers := [] } _
      refine wpAnyH_ready (rs := [30]) (by kernel_rfl) (by simp) ?_
      refine AllReadyH.cons (i := 30) rfl (fun K hK => ?zq14) AllReadyH.nil
      rw [if_pos (by first | rfl | kernel_rfl)]
      go_simp
      clear hS
      refine (SG.out _).mono ?_
      rintro e v15 ⟨rfl, hb⟩
      have B15 := Lib.hid (B14.out.trans (hb.mono B14.out.size))
      have KT15 := Lib.hid (KT14.out.below hb)
      have KO15 := Lib.hid (KO14.out.below hb)
      have Kc15 := Lib.hid (Kc14.out.below hb)
      have Kg15 := Lib.hid (Kg14.out.below hb)
      clear hb B14 KT14 KO14 Kc14 Kg14
      refine hK.out _ _ ⟨KT15.out, Kc15.out, Kg15.out⟩ (fun hS => ?_)
      clear hK K
      change wpAnyH _ _ _ _ _ _ _ { tmps := #[_, _, _, _, _, _, _, _, _, _, _, _, _, _, _, _, _, _, _, _, _, _, _, _, _, _, _, _, _, _, _, _, _, _, _, _, _, _, _, _, _, _, _, _, _, _, _, _, _, _, _, _, _, _, _, _, _, _, _, _, _, _, _, _, _, _, _, _, _, _, _, _, _, _, _, _, _, _, _, _], defers := [] } _
      refine wpAnyH_take (i := 31) (v := .bool true) rfl (by kernel_rfl) (by kernel_rfl) (by kernel_rfl) (fun _ _ _ h => h) (Or.inl ⟨rfl, by intro w hS; go_simp⟩) hS ?_
      change wpAnyH _ _ _ _ _ _ _ { tmps := #[_, _, _, _, _, _, _, _, _, _, _, _, _, _, _, _, _, _, _, _, _, _, _, _, _, _, _, _, _, _, _, _, _, _, _, _, _, _, _, _, _, _, _, _, _, _, _, _, _, _, _, _, _, _, _, _, _, _, _, _, _, _, _, _, _, _, _, _, _, _, _, _, _, _, _, _, _, _, _, _], defers := [] } _
      refine wpAnyH_take (i := 32) (v := .bool true) rfl (by kernel_rfl) (by kernel_rfl) (by kernel_rfl) (fun _ _ _ h => h) (Or.inl ⟨rfl, by intro w hS; go_simp⟩) hS ?_
      change wpAnyH _ _ _ _ _ _ _ { tmps := #[_, _, _, _, _, _, _, _, _, _, _, _, _, _, _, _, _, _, _, _, _, _, _, _, _, _, _, _, _, _, _, _, _, _, _, _, _, _, _, _, _, _, _, _, _, _, _, _, _, _, _, _, _, _, _, _, _, _, _, _, _, _, _, _, _, _, _, _, _, _, _, _, _, _, _, _, _, _, _, _], defers := [] } _
      refine wpAnyH_take (i := 33) (v := .bool true) rfl (by kernel_rfl) (by kernel_rfl) (by kernel_rfl) (fun _ _ _ h => h) (Or.inl ⟨rfl, by intro w hS; go_simp⟩) hS ?_
      change wpAnyH _ _ _ _ _ _ _ { tmps := #[_, _, _, _, _, _, _, _, _, _, _, _, _, _, _, _, _, _, _, _, _, _, _, _, _, _, _, _, _, _, _, _, _, _, _, _, _, _, _, _, _, _, _, _, _, _, _, _, _, _, _, _, _, _, _, _, _, _, _, _, _, _, _, _, _, _, _, _, _, _, _, _, _, _, _, _, _, _, _, _], defers := [] } _
      refine wpAnyH_take (i := 34) (v := .agg #[.int .i64 p, .int .i64 q, .int .i64 r, .int .i64 1, .int .i64 i1, .string ⟨#[]⟩, .int .i64 0, .bool false, .bool false, .bool false, .int .i64 j1, .string ⟨#[]⟩, .slice none 0 0, .int .i64 (-1), .bool false, .int .i64 ms, .int .i64 ms, .int .i64 om, .int .i64 oc, .bool ok, .bool os, .int .i64 ov, .int .i64 ox, .int .i64 0, .int .i64 0]) rfl (by kernel_rfl) (by kernel_rfl) (by kernel_rfl) (fun _ _ _ h => h) (yieldsIf_load_mid rfl 36 _ rfl g_c 0 rfl [.int .i64 p, .int .i64 q, .int .i64 r, .int .i64 1, .int .i64 i1, .string ⟨#[]⟩, .int .i64 0, .bool false, .bool false, .bool false, .int .i64 j1, .string ⟨#[]⟩, .slice none 0 0, .int .i64 (-1), .bool false, .int .i64 ms, .int .i64 ms, .int .i64 om, .int .i64 oc, .bool ok, .bool os, .int .i64 ov, .int .i64 ox, .int .i64 0, .int .i64 0] _ (fun w hS => (hS.2.1).range) Try.underlying36 rfl (by kernel_rfl)) hS ?_
      change wpAnyH _ _ _ _ _ _ _ { tmps := #[_, _, _, _, _, _, _, _, _, _, _, _, _, _, _, _, _, _, _, _, _, _, _, _, _, _, _, _, _, _, _, _, _, _, _, _, _, _, _, _, _, _, _, _, _, _, _, _, _, _, _, _, _, _, _, _, _, _, _, _, _, _, _, _, _, _, _, _, _, _, _, _, _, _, _, _, _, _, _, _], defers := [] } _
      refine wpAnyH_ready (rs := [35]) (by kernel_rfl) (by simp) ?_
      refine AllReadyH.cons (i := 35) rfl (fun K hK => ?zq15) AllReadyH.nil
      rw [if_pos (by first | rfl | kernel_rfl)]
      go_simp
      clear hS
      refine (MF.out _).mono ?_
      rintro e v16 ⟨rfl, hb⟩
      have B16 := Lib.hid (B15.out.trans (hb.mono B15.out.size))
      have KT16 := Lib.hid (KT15.out.below hb)
      have KO16 := Lib.hid (KO15.out.below hb)
      have Kc16 := Lib.hid (Kc15.out.below hb)
      have Kg16 := Lib.hid (Kg15.out.below hb)
      clear hb B15 KT15 KO15 Kc15 Kg15
      refine hK.out _ _ ⟨KT16.out, Kc16.out, Kg16.out⟩ (fun hS => ?_)
      clear hK K
      change wpAnyH _ _ _ _ _ _ _ { tmps := #[_, _, _, _, _, _, _, _, _, _, _, _, _, _, _, _, _, _, _, _, _, _, _, _, _, _, _, _, _, _, _, _, _, _, _, _, _, _, _, _, _, _, _, _, _, _, _, _, _, _, _, _, _, _, _, _, _, _, _, _, _, _, _, _, _, _, _, _, _, _, _, _, _, _, _, _, _, _, _, _], defers := [] } _
      refine wpAnyH_take (i := 36) (v := .bool true) rfl (by kernel_rfl) (by kernel_rfl) (by kernel_rfl) (fun _ _ _ h => h) (Or.inl ⟨rfl, by intro w hS; first | (go_simp; done) | (go_simp; omega)⟩) hS ?_
      change wpAnyH _ _ _ _ _ _ _ { tmps := #[_, _, _, _, _, _, _, _, _, _, _, _, _, _, _, _, _, _, _, _, _, _, _, _, _, _, _, _, _, _, _, _, _, _, _, _, _, _, _, _, _, _, _, _, _, _, _, _, _, _, _, _, _, _, _, _, _, _, _, _, _, _, _, _, _, _, _, _, _, _, _, _, _, _, _, _, _, _, _, _], defers := [] } _
      refine wpAnyH_take (i := 37) (v := .bool true) rfl (by kernel_rfl) (by kernel_rfl) (by kernel_rfl) (fun _ _ _ h => h) (Or.inl ⟨rfl, by intro w hS; go_simp⟩) hS ?_
      change wpAnyH _ _ _ _ _ _ _ { tmps := #[_, _, _, _, _, _, _, _, _, _, _, _, _, _, _, _, _, _, _, _, _, _, _, _, _, _, _, _, _, _, _, _, _, _, _, _, _, _, _, _, _, _, _, _, _, _, _, _, _, _, _, _, _, _, _, _, _, _, _, _, _, _, _, _, _, _, _, _, _, _, _, _, _, _, _, _, _, _, _, _], defers := [] } _
      refine wpAnyH_take (i := 38) (v := .bool true) rfl (by kernel_rfl) (by kernel_rfl) (by kernel_rfl) (fun _ _ _ h => h) (Or.inl ⟨rfl, by intro w hS; go_simp⟩) hS ?_
      change wpAnyH _ _ _ _ _ _ _ { tmps := #[_, _, _, _, _, _, _, _, _, _, _, _, _, _, _, _, _, _, _, _, _, _, _, _, _, _, _, _, _, _, _, _, _, _, _, _, _, _, _, _, _, _, _, _, _, _, _, _, _, _, _, _, _, _, _, _, _, _, _, _, _, _, _, _, _, _, _, _, _, _, _, _, _, _, _, _, _, _, _, _], defers := [] } _
      refine wpAnyH_take (i := 39) (v := .agg #[.int .i64 p, .int .i64 q, .int .i64 r, .int .i64 1, .int .i64 i1, .string ⟨#[]⟩, .int .i64 0, .bool false, .bool false, .bool false, .int .i64 j1, .string ⟨#[]⟩, .slice none 0 0, .int .i64 (-1), .bool false, .int .i64 ms, .int .i64 ms, .int .i64 om, .int .i64 oc, .bool ok, .bool os, .int .i64 ov, .int .i64 ox, .int .i64 0, .int .i64 0]) rfl (by kernel_rfl) (by kernel_rfl) (by kernel_rfl) (fun _ _ _ h => h) (yieldsIf_load_mid rfl 36 _ rfl g_c 0 rfl [.int .i64 p, .int .i64 q, .int .i64 r, .int .i64 1, .int .i64 i1, .string ⟨#[]⟩, .int .i64 0, .bool false, .bool false, .bool false, .int .i64 j1, .string ⟨#[]⟩, .slice none 0 0, .int .i64 (-1), .bool false, .int .i64 ms, .int .i64 ms, .int .i64 om, .int .i64 oc, .bool ok, .bool os, .int .i64 ov, .int .i64 ox, .int .i64 0, .int .i64 0] _ (fun w hS => (hS.2.1).range) Try.underlying36 rfl (by kernel_rfl)) hS ?_
      change wpAnyH _ _ _ _ _ _ _ { tmps := #[_, _, _, _, _, _, _, _, _, _, _, _, _, _, _, _, _, _, _, _, _, _, _, _, _, _, _, _, _, _, _, _, _, _, _, _, _, _, _, _, _, _, _, _, _, _, _, _, _, _, _, _, _, _, _, _, _, _, _, _, _, _, _, _, _, _, _, _, _, _, _, _, _, _, _, _, _, _, _, _], defers := [] } _
      refine wpAnyH_ready (rs := [40]) (by kernel_rfl) (by simp) ?_
      refine AllReadyH.cons (i := 40) rfl (fun K hK => ?zq16) AllReadyH.nil
      rw [if_pos (by first | rfl | kernel_rfl)]
      go_simp
      clear hS
      refine (MF.out _).mono ?_
      rintro e v17 ⟨rfl, hb⟩
      have B17 := Lib.hid (B16.out.trans (hb.mono B16.out.size))
      have KT17 := Lib.hid (KT16.out.below hb)
      have KO17 := Lib.hid (KO16.out.below hb)
      have Kc17 := Lib.hid (Kc16.out.below hb)
      have Kg17 := Lib.hid (Kg16.out.below hb)
      clear hb B16 KT16 KO16 Kc16 Kg16
      refine hK.out _ _ ⟨KT17.out, Kc17.out, Kg17.out⟩ (fun hS => ?_)
      clear hK K
      change wpAnyH _ _ _ _ _ _ _ { tmps := #[_, _, _, _, _, _, _, _, _, _, _, _, _, _, _, _, _, _, _, _, _, _, _, _, _, _, _, _, _, _, _, _, _, _, _, _, _, _, _, _, _, _, _, _, _, _, _, _, _, _, _, _, _, _, _, _, _, _, _, _, _, _, _, _, _, _, _, _, _, _, _, _, _, _, _, _, _, _, _, _], defers := [] } _
      refine wpAnyH_take (i := 41) (v := .bool true) rfl (by kernel_rfl) (by kernel_rfl) (by kernel_rfl) (fun _ _ _ h => h) (Or.inl ⟨rfl, by intro w hS; first | (go_simp; done) | (go_simp; omega)⟩) hS ?_
      change wpAnyH _ _ _ _ _ _ _ { tmps := #[_, _, _, _, _, _, _, _, _, _, _, _, _, _, _, _, _, _, _, _, _, _, _, _, _, _, _, _, _, _, _, _, _, _, _, _, _, _, _, _, _, _, _, _, _, _, _, _, _, _, _, _, _, _, _, _, _, _, _, _, _, _, _, _, _, _, _, _, _, _, _, _, _, _, _, _, _, _, _, _], defers := [] } _
      refine wpAnyH_take (i := 42) (v := .bool true) rfl (by kernel_rfl) (by kernel_rfl) (by kernel_rfl) (fun _ _ _ h => h) (Or.inl ⟨rfl, by intro w hS; go_simp⟩) hS ?_
      change wpAnyH _ _ _ _ _ _ _ { tmps := #[_, _, _, _, _, _, _, _, _, _, _, _, _, _, _, _, _, _, _, _, _, _, _, _, _, _, _, _, _, _, _, _, _, _, _, _, _, _, _, _, _, _, _, _, _, _, _, _, _, _, _, _, _, _, _, _, _, _, _, _, _, _, _, _, _, _, _, _, _, _, _, _, _, _, _, _, _, _, _, _], defers := [] } _
      refine wpAnyH_take (i := 43) (v := .bool true) rfl (by kernel_rfl) (by kernel_rfl) (by kernel_rfl) (fun _ _ _ h => h) (Or.inl ⟨rfl, by intro w hS; go_simp⟩) hS ?_
      change wpAnyH _ _ _ _ _ _ _ { tmps := #[_, _, _, _, _, _, _, _, _, _, _, _, _, _, _, _, _, _, _, _, _, _, _, _, _, _, _, _, _, _, _, _, _, _, _, _, _, _, _, _, _, _, _, _, _, _, _, _, _, _, _, _, _, _, _, _, _, _, _, _, _, _, _, _, _, _, _, _, _, _, _, _, _, _, _, _, _, _, _, _], defers := [] } _
      refine wpAnyH_done (by kernel_rfl) ?_ _
      refine NoPanic.normal ?_
      go_wp2_with fail
      go_ret
      exact ⟨rfl, B17.out⟩
  · have h1 : 1048576 < s0.length := by omega
    go_enter Try.func3, Try.ntmps3
    go_wp2_with fail
    refine (big_yes _ _ _ _ h1 hm).mono ?_
    rintro e w' ⟨rfl, rfl⟩
    go_wp2_with fail
    go_ret
    exact ⟨rfl, Below.refl _ _⟩
theorem own : ownKnob Try.prog.godebug = none := by kernel_rfl
theorem laidOut : laidOutB Try.prog = true := by kernel_rfl

set_option maxRecDepth 100000 in
theorem lifted (os : Os) (started : os.Started) (H : Type) (enc : TypeId × Value → H) :
    ReturnsInHanded {} Try.checked os 3 .any (Rows.fnConnNewSpec.pre6 enc Try.prog Try.f3 Rows.fnConnNewRow.domain false) (Rows.fnConnNewSpec.post enc Try.prog Try.f3 false true false false) := by
  refine returnsInHanded_of_change (C := Try.checked) own started (by kernel_rfl) Try.func3
    (ChangeSpec.witness6 (enc := enc) (C := Try.checked) false ⟨#[], #[.slice none 0 0], []⟩ 8 (by kernel_rfl) (by kernel_rfl) (by kernel_rfl) (by kernel_rfl)) ?_
  intro W base args ds gs before hval0 hW _ _
  have hval : ∀ (j : Nat) t v, Try.f3.params[j]? = some t → args[j]? = some v → Value.okWide Try.prog W .any base t v := hval0
  have hW' := hW
  obtain ⟨p, q, hA0, hV, rfl, _, _⟩ := hW
  have hA : DataW.TrodAll enc Try.prog W 0 (fun _ => true) true Try.f3.params.toList args.toList ds p := hA0
  rw [Try.params3] at hA hval
  obtain ⟨v0, vs0, d0, ds0, p0, q0, hargs, rfl, rfl, h0, r0⟩ := trodAll_cons hA
  obtain ⟨rfl, rfl, rfl⟩ := trodAll_nil r0
  obtain rfl : args = #[v0] := by cases args; simp_all
  obtain ⟨rfl, rfl⟩ := trodVars_none hV
  obtain ⟨a0, len0, cap0, rfl⟩ := okWide_slice Try.underlying22 (hval 0 22 v0 rfl rfl)
  have k0 := h0
  have lt0 : ∀ x ∈ p0, x.block < W.heap.size := by obtain ⟨m, hm⟩ := k0; exact DataW.trod_lt m _ _ _ hm
  obtain ⟨s0, w0⟩ : ∃ bs : List UInt8, IsBytes W a0 len0 bs := by obtain ⟨fuel, hf⟩ := h0; exact openBytes Try.underlying22 Try.underlying5 (by kernel_rfl) hf
  clear hA0 hval0
  refine (walk a0 len0 cap0 s0 w0).mono fun e W' ⟨he, bel⟩ => ?_
  subst he
  exact ⟨_, rfl, _, _, _, [], _, [], hW', trodAll_mk1 (shut_bool Try.underlying4 _), (trodAll_cons_mk (Below.trod laidOut (by kernel_rfl) (of_decide_eq_true (by kernel_rfl)) k0 bel lt0) trodAll_mk0), rfl, bel.frame _, fun h => by cases h⟩

theorem over : Rows.fnConnNewRow.holds Try.pinned (OpenSpec.ofChange Rows.fnConnNewSpec) :=
  OpenClaim.holds_of_wide 3 Try.f3 rfl rfl rfl rfl rfl rfl rfl ⟨rfl, rfl, rfl, rfl, rfl⟩ rfl rfl rfl rfl rfl (by kernel_rfl) Try.func3 (by kernel_rfl)
    (of_decide_eq_true (by kernel_rfl)) (by unfold Func.isWrapper; first | (rw [if_pos (by decide +kernel)]; kernel_rfl) | (rw [if_neg (by decide +kernel)]; exact ⟨rfl, rfl⟩))
    (fun os started H enc _ => lifted os started H enc)

theorem proved : Rows.FnConnNewSaid := over
#print axioms proved
end Go.Proofs.Ytajekjjaaohbnaa.fnConnNew
