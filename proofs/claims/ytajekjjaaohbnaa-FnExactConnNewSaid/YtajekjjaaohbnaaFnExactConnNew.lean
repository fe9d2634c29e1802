/- The law FnExactConnNew holds for every argument: impl's ConnNew answers as the model's, anew each time. No condition. -/
import Derived.Test.YtajekjjaaohbnaaRows
import Derived.Test.YtajekjjaaohbnaaConnNI
import Derived.Test.YtajekjjaaohbnaaConnNS
import Derived.Test.YtajekjjaaohbnaaConnLaw
import Derived.Test.YtajekjjaaohbnaaTupleLaw
import Derived.Test.YtajekjjaaohbnaaOptionsLaw
import Derived.Test.YtajekjjaaohbnaaBulk2
import Derived.Test.YtajekjjaaohbnaaNest
import Derived.Deep.RegionHeld3
import Derived.ProofKit
import Derived.OpenShut
import Derived.ShutString
import Derived.ChangeSame
namespace Go.Proofs.Ytajekjjaaohbnaa.fnExactConnNew
open Go.ChangeShapes Go.WideShapes Go.ChangeAt Go.RowKit Go.Lib
open Go.ChangeMaps (open_string shut_string)

/-- The law's word: true, and what lay before the call lies as it lay. -/
def OkB (w : World) (e : Ending) (w' : World) : Prop := e = .returned (.bool true) ∧ Below w.heap.size w w'

set_option maxRecDepth 100000 in
set_option maxHeartbeats 32000000 in
theorem go (p q r i j m c : Int) (k s : Bool) (v x wd : Int) (w : World) :
    Calls Try.prog 4 #[.agg #[.int .i64 p, .int .i64 q, .int .i64 r], .int .i64 i, .int .i64 j, .agg #[.int .i64 m, .int .i64 c, .bool k, .bool s, .int .i64 v, .int .i64 x], .int .i64 wd] w (OkB w) := by
  have NS := fun w => connNewS p q r i j m c k s v x wd w
  have NI := fun w => connNewI p q r i j m c k s v x wd w
  generalize scaled (cnWd wd) (cnO ⟨m, c, k, s, v, x⟩).c = ms at NS NI
  generalize cnO ⟨m, c, k, s, v, x⟩ = oo at NS NI
  obtain ⟨om, oc, ok, os, ov, ox⟩ := oo
  generalize pl (i + 1) = i1 at NS NI
  generalize pl (pl (j + 1)) = j2 at NS NI
  replace NS := Lib.hid NS
  replace NI := Lib.hid NI
  go_enter Try.func4, Try.ntmps4
  have B0 := Lib.hid (show Below w.heap.size w ((w.alloc (.cells #[.int .i64 p, .int .i64 q, .int .i64 r] 47)).alloc (.cells #[.int .i64 m, .int .i64 c, .bool k, .bool s, .int .i64 v, .int .i64 x] 48)) from (((Below.refl _ w).alloc (by simp) _).alloc (by simp) _))
  have KT0 := Lib.hid (show Blk ((w.alloc (.cells #[.int .i64 p, .int .i64 q, .int .i64 r] 47)).alloc (.cells #[.int .i64 m, .int .i64 c, .bool k, .bool s, .int .i64 v, .int .i64 x] 48)) (w.heap.size) [.int .i64 p, .int .i64 q, .int .i64 r] from (Blk.new w [.int .i64 p, .int .i64 q, .int .i64 r] 47).alloc (.cells #[.int .i64 m, .int .i64 c, .bool k, .bool s, .int .i64 v, .int .i64 x] 48))
  have s1 : (w.alloc (.cells #[.int .i64 p, .int .i64 q, .int .i64 r] 47)).heap.size = w.heap.size + 1 := by simp
  have KO0 := Lib.hid (show Blk ((w.alloc (.cells #[.int .i64 p, .int .i64 q, .int .i64 r] 47)).alloc (.cells #[.int .i64 m, .int .i64 c, .bool k, .bool s, .int .i64 v, .int .i64 x] 48)) (w.heap.size + 1) [.int .i64 m, .int .i64 c, .bool k, .bool s, .int .i64 v, .int .i64 x] by have h0 := Blk.new (w.alloc (.cells #[.int .i64 p, .int .i64 q, .int .i64 r] 47)) [.int .i64 m, .int .i64 c, .bool k, .bool s, .int .i64 v, .int .i64 x] 48; rwa [s1] at h0)
  have n_T_O : w.heap.size ≠ w.heap.size + 1 := by omega
  clear s1
  go_upto_region 1 with fail
  generalize (w.alloc (.cells #[.int .i64 p, .int .i64 q, .int .i64 r] 47)).alloc (.cells #[.int .i64 m, .int .i64 c, .bool k, .bool s, .int .i64 v, .int .i64 x] 48) = v0 at B0 KT0 KO0 ⊢
  generalize hh_O : w.heap.size + 1 = g_O at KO0 n_T_O ⊢
  generalize hh_T : w.heap.size = g_T at KT0 n_T_O ⊢
  have l_T : w.heap.size ≤ g_T := by omega
  have l_O : w.heap.size ≤ g_O := by omega
  clear hh_T hh_O
  go_cut [11] (fun s11 wx => ∃ (g_W : Nat), s11 = .pointer (some ⟨g_W, 0, none⟩) ∧ Hid (Below w.heap.size w wx) ∧ Hid (Blk wx g_T [.int .i64 p, .int .i64 q, .int .i64 r]) ∧ Hid (Blk wx g_O [.int .i64 m, .int .i64 c, .bool k, .bool s, .int .i64 v, .int .i64 x]) ∧ Hid (Blk wx g_W [.int .i64 p, .int .i64 q, .int .i64 r, .int .i64 1, .int .i64 i1, .string ⟨#[]⟩, .int .i64 0, .bool false, .bool false, .bool false, .int .i64 j2, .string ⟨#[]⟩, .slice none 0 0, .int .i64 (-1), .bool false, .int .i64 ms, .int .i64 ms, .int .i64 om, .int .i64 oc, .bool ok, .bool os, .int .i64 ov, .int .i64 ox, .int .i64 0, .int .i64 0]) ∧ (g_T ≠ g_W ∧ g_O ≠ g_W ∧ w.heap.size ≤ g_W))
  case first =>
    refine wp_region_noPanic ?_
    refine wp_region_held_drew (S := fun w' => Blk w' g_T [.int .i64 p, .int .i64 q, .int .i64 r] ∧ Blk w' g_O [.int .i64 m, .int .i64 c, .bool k, .bool s, .int .i64 v, .int .i64 x]) (by kernel_rfl) ⟨KT0.out, KO0.out⟩ (fun hS => ?_)
    have B1 := Lib.hid (show Below w.heap.size w v0.drew from B0.out.drew)
    have KT1 := Lib.hid (show Blk v0.drew g_T [.int .i64 p, .int .i64 q, .int .i64 r] from KT0.out.drew)
    have KO1 := Lib.hid (show Blk v0.drew g_O [.int .i64 m, .int .i64 c, .bool k, .bool s, .int .i64 v, .int .i64 x] from KO0.out.drew)
    clear hS B0 KT0 KO0
    generalize v0.drew = v1 at B1 KT1 KO1 ⊢
    have hS : Blk v1 g_T [.int .i64 p, .int .i64 q, .int .i64 r] ∧ Blk v1 g_O [.int .i64 m, .int .i64 c, .bool k, .bool s, .int .i64 v, .int .i64 x] := ⟨KT1.out, KO1.out⟩
    refine wpAnyH_take (i := 0) (v := .agg #[.int .i64 p, .int .i64 q, .int .i64 r]) rfl (by kernel_rfl) (by kernel_rfl) (by kernel_rfl) (fun _ _ _ h => h) (Or.inl ⟨by kernel_rfl, by intro w hS; obtain ⟨⟨h0, h1, h2⟩, _⟩ := hS.1.o3; go_simp⟩) hS ?_
    refine wpAnyH_take (i := 2) (v := .int .i64 i) rfl (by kernel_rfl) (by kernel_rfl) (by kernel_rfl) (fun _ _ _ h => h) (Or.inl ⟨by kernel_rfl, by intro w hS; go_simp⟩) hS ?_
    refine wpAnyH_take (i := 3) (v := .int .i64 j) rfl (by kernel_rfl) (by kernel_rfl) (by kernel_rfl) (fun _ _ _ h => h) (Or.inl ⟨by kernel_rfl, by intro w hS; go_simp⟩) hS ?_
    refine wpAnyH_take (i := 4) (v := .agg #[.int .i64 m, .int .i64 c, .bool k, .bool s, .int .i64 v, .int .i64 x]) rfl (by kernel_rfl) (by kernel_rfl) (by kernel_rfl) (fun _ _ _ h => h) (Or.inl ⟨by kernel_rfl, by intro w hS; obtain ⟨⟨h0, h1, h2, h3, h4, h5⟩, _⟩ := hS.2.of6; go_simp⟩) hS ?_
    refine wpAnyH_take (i := 6) (v := .int .i64 wd) rfl (by kernel_rfl) (by kernel_rfl) (by kernel_rfl) (fun _ _ _ h => h) (Or.inl ⟨by kernel_rfl, by intro w hS; go_simp⟩) hS ?_
    refine wpAnyH_ready (rs := [1, 8]) (by kernel_rfl) (by simp) ?_
    refine AllReadyH.cons (i := 1) rfl (fun K hK => ?zy2) (AllReadyH.cons (i := 8) rfl (fun K hK => ?zy1) AllReadyH.nil)
    · rw [if_pos (by rfl)]
      go_simp
      clear hS
      refine (toTuple_any p q r _).mono ?_
      rintro e v2 ⟨rfl, hb⟩
      have B2 := Lib.hid (B1.out.trans (hb.mono B1.out.size))
      have KT2 := Lib.hid (KT1.out.below hb)
      have KO2 := Lib.hid (KO1.out.below hb)
      clear hb B1 KT1 KO1
      refine hK.out _ _ ⟨KT2.out, KO2.out⟩ (fun hS => ?_)
      clear hK K
      refine wpAnyH_ready (rs := [5, 8]) (by kernel_rfl) (by simp) ?_
      refine AllReadyH.cons (i := 5) rfl (fun K hK => ?zy4) (AllReadyH.cons (i := 8) rfl (fun K hK => ?zy3) AllReadyH.nil)
      · rw [if_pos (by rfl)]
        go_simp
        clear hS
        refine (toOptions_any m c k s v x _).mono ?_
        rintro e v3 ⟨rfl, hb⟩
        have B3 := Lib.hid (B2.out.trans (hb.mono B2.out.size))
        have KT3 := Lib.hid (KT2.out.below hb)
        have KO3 := Lib.hid (KO2.out.below hb)
        clear hb B2 KT2 KO2
        refine hK.out _ _ ⟨KT3.out, KO3.out⟩ (fun hS => ?_)
        clear hK K
        refine wpAnyH_ready (rs := [7, 8]) (by kernel_rfl) (by simp) ?_
        refine AllReadyH.cons (i := 7) rfl (fun K hK => ?zy6) (AllReadyH.cons (i := 8) rfl (fun K hK => ?zy5) AllReadyH.nil)
        · rw [if_pos (by rfl)]
          go_simp
          clear hS
          refine (NS.out _).mono ?_
          rintro e v4 ⟨rfl, hb⟩
          have B4 := Lib.hid (B3.out.trans (hb.mono B3.out.size))
          have KT4 := Lib.hid (KT3.out.below hb)
          have KO4 := Lib.hid (KO3.out.below hb)
          clear hb B3 KT3 KO3
          refine hK.out _ _ ⟨KT4.out, KO4.out⟩ (fun hS => ?_)
          clear hK K
          refine wpAnyH_ready (rs := [8]) (by kernel_rfl) (by simp) ?_
          refine AllReadyH.cons (i := 8) rfl (fun K hK => ?zy7) AllReadyH.nil
          rw [if_pos (by rfl)]
          go_simp
          clear hS
          have B5 := Lib.hid (B4.out.alloc B4.out.size (.cells #[.int .i64 0, .int .i64 0, .int .i64 0, .int .i64 0, .int .i64 0, .string ⟨#[]⟩, .int .i64 0, .bool false, .bool false, .bool false, .int .i64 0, .string ⟨#[]⟩, .slice none 0 0, .int .i64 0, .bool false, .int .i64 0, .int .i64 0, .int .i64 0, .int .i64 0, .bool false, .bool false, .int .i64 0, .int .i64 0, .int .i64 0, .int .i64 0] 36))
          have l_W : w.heap.size ≤ v4.heap.size := B4.out.size
          have n_T_W : g_T ≠ v4.heap.size := by have h1 := KT4.out.lt; omega
          have n_O_W : g_O ≠ v4.heap.size := by have h1 := KO4.out.lt; omega
          have KT5 := Lib.hid (KT4.out.alloc (.cells #[.int .i64 0, .int .i64 0, .int .i64 0, .int .i64 0, .int .i64 0, .string ⟨#[]⟩, .int .i64 0, .bool false, .bool false, .bool false, .int .i64 0, .string ⟨#[]⟩, .slice none 0 0, .int .i64 0, .bool false, .int .i64 0, .int .i64 0, .int .i64 0, .int .i64 0, .bool false, .bool false, .int .i64 0, .int .i64 0, .int .i64 0, .int .i64 0] 36))
          have KO5 := Lib.hid (KO4.out.alloc (.cells #[.int .i64 0, .int .i64 0, .int .i64 0, .int .i64 0, .int .i64 0, .string ⟨#[]⟩, .int .i64 0, .bool false, .bool false, .bool false, .int .i64 0, .string ⟨#[]⟩, .slice none 0 0, .int .i64 0, .bool false, .int .i64 0, .int .i64 0, .int .i64 0, .int .i64 0, .bool false, .bool false, .int .i64 0, .int .i64 0, .int .i64 0, .int .i64 0] 36))
          have KW5 := Lib.hid (Blk.new v4 [.int .i64 0, .int .i64 0, .int .i64 0, .int .i64 0, .int .i64 0, .string ⟨#[]⟩, .int .i64 0, .bool false, .bool false, .bool false, .int .i64 0, .string ⟨#[]⟩, .slice none 0 0, .int .i64 0, .bool false, .int .i64 0, .int .i64 0, .int .i64 0, .int .i64 0, .bool false, .bool false, .int .i64 0, .int .i64 0, .int .i64 0, .int .i64 0] 36)
          clear B4 KT4 KO4
          refine hK.out _ _ ⟨KT5.out, KO5.out⟩ (fun hS => ?_)
          clear hK K
          generalize v4.alloc (.cells #[.int .i64 0, .int .i64 0, .int .i64 0, .int .i64 0, .int .i64 0, .string ⟨#[]⟩, .int .i64 0, .bool false, .bool false, .bool false, .int .i64 0, .string ⟨#[]⟩, .slice none 0 0, .int .i64 0, .bool false, .int .i64 0, .int .i64 0, .int .i64 0, .int .i64 0, .bool false, .bool false, .int .i64 0, .int .i64 0, .int .i64 0, .int .i64 0] 36) = v5 at hS B5 KT5 KO5 KW5 ⊢
          generalize v4.heap.size = g_W at KW5 l_W n_T_W n_O_W ⊢
          refine wpAnyH_ready (rs := [9]) (by kernel_rfl) (by simp) ?_
          refine AllReadyH.cons (i := 9) rfl (fun K hK => ?zy8) AllReadyH.nil
          rw [if_pos (by rfl)]
          refine wp_store_blk (cs' := [.int .i64 p, .int .i64 q, .int .i64 r, .int .i64 1, .int .i64 i1, .string ⟨#[]⟩, .int .i64 0, .bool false, .bool false, .bool false, .int .i64 j2, .string ⟨#[]⟩, .slice none 0 0, .int .i64 (-1), .bool false, .int .i64 ms, .int .i64 ms, .int .i64 om, .int .i64 oc, .bool ok, .bool os, .int .i64 ov, .int .i64 ox, .int .i64 0, .int .i64 0]) 36 _ _ rfl rfl rfl KW5.out rfl (by kernel_rfl) rfl (fun v6 hB hg => ?_)
          clear hS
          have B6 := Lib.hid (B5.out.trans (grown_below hg l_W B5.out.size))
          have KT6 := Lib.hid (KT5.out.grown hg (n_T_W))
          have KO6 := Lib.hid (KO5.out.grown hg (n_O_W))
          have KW6 := Lib.hid hB
          clear hB hg B5 KT5 KO5 KW5
          refine hK.out _ _ ⟨KT6.out, KO6.out⟩ (fun hS => ?_)
          clear hK K
          refine wpAnyH_done (by kernel_rfl) ?_ _
          refine NoPanic.normal ?_
          go_wp2_with fail
          go_meet
          case rel => exact ⟨g_W, rfl, B6, KT6, KO6, KW6, ⟨n_T_W, n_O_W, l_W⟩⟩
        · rw [if_pos (by rfl)]
          go_simp
          clear hS
          have B4 := Lib.hid (B3.out.alloc B3.out.size (.cells #[.int .i64 0, .int .i64 0, .int .i64 0, .int .i64 0, .int .i64 0, .string ⟨#[]⟩, .int .i64 0, .bool false, .bool false, .bool false, .int .i64 0, .string ⟨#[]⟩, .slice none 0 0, .int .i64 0, .bool false, .int .i64 0, .int .i64 0, .int .i64 0, .int .i64 0, .bool false, .bool false, .int .i64 0, .int .i64 0, .int .i64 0, .int .i64 0] 36))
          have l_W : w.heap.size ≤ v3.heap.size := B3.out.size
          have n_T_W : g_T ≠ v3.heap.size := by have h1 := KT3.out.lt; omega
          have n_O_W : g_O ≠ v3.heap.size := by have h1 := KO3.out.lt; omega
          have KT4 := Lib.hid (KT3.out.alloc (.cells #[.int .i64 0, .int .i64 0, .int .i64 0, .int .i64 0, .int .i64 0, .string ⟨#[]⟩, .int .i64 0, .bool false, .bool false, .bool false, .int .i64 0, .string ⟨#[]⟩, .slice none 0 0, .int .i64 0, .bool false, .int .i64 0, .int .i64 0, .int .i64 0, .int .i64 0, .bool false, .bool false, .int .i64 0, .int .i64 0, .int .i64 0, .int .i64 0] 36))
          have KO4 := Lib.hid (KO3.out.alloc (.cells #[.int .i64 0, .int .i64 0, .int .i64 0, .int .i64 0, .int .i64 0, .string ⟨#[]⟩, .int .i64 0, .bool false, .bool false, .bool false, .int .i64 0, .string ⟨#[]⟩, .slice none 0 0, .int .i64 0, .bool false, .int .i64 0, .int .i64 0, .int .i64 0, .int .i64 0, .bool false, .bool false, .int .i64 0, .int .i64 0, .int .i64 0, .int .i64 0] 36))
          have KW4 := Lib.hid (Blk.new v3 [.int .i64 0, .int .i64 0, .int .i64 0, .int .i64 0, .int .i64 0, .string ⟨#[]⟩, .int .i64 0, .bool false, .bool false, .bool false, .int .i64 0, .string ⟨#[]⟩, .slice none 0 0, .int .i64 0, .bool false, .int .i64 0, .int .i64 0, .int .i64 0, .int .i64 0, .bool false, .bool false, .int .i64 0, .int .i64 0, .int .i64 0, .int .i64 0] 36)
          clear B3 KT3 KO3
          refine hK.out _ _ ⟨KT4.out, KO4.out⟩ (fun hS => ?_)
          clear hK K
          generalize v3.alloc (.cells #[.int .i64 0, .int .i64 0, .int .i64 0, .int .i64 0, .int .i64 0, .string ⟨#[]⟩, .int .i64 0, .bool false, .bool false, .bool false, .int .i64 0, .string ⟨#[]⟩, .slice none 0 0, .int .i64 0, .bool false, .int .i64 0, .int .i64 0, .int .i64 0, .int .i64 0, .bool false, .bool false, .int .i64 0, .int .i64 0, .int .i64 0, .int .i64 0] 36) = v4 at hS B4 KT4 KO4 KW4 ⊢
          generalize v3.heap.size = g_W at KW4 l_W n_T_W n_O_W ⊢
          refine wpAnyH_ready (rs := [7]) (by kernel_rfl) (by simp) ?_
          refine AllReadyH.cons (i := 7) rfl (fun K hK => ?zy9) AllReadyH.nil
          rw [if_pos (by rfl)]
          go_simp
          clear hS
          refine (NS.out _).mono ?_
          rintro e v5 ⟨rfl, hb⟩
          have B5 := Lib.hid (B4.out.trans (hb.mono B4.out.size))
          have KT5 := Lib.hid (KT4.out.below hb)
          have KO5 := Lib.hid (KO4.out.below hb)
          have KW5 := Lib.hid (KW4.out.below hb)
          clear hb B4 KT4 KO4 KW4
          refine hK.out _ _ ⟨KT5.out, KO5.out⟩ (fun hS => ?_)
          clear hK K
          refine wpAnyH_ready (rs := [9]) (by kernel_rfl) (by simp) ?_
          refine AllReadyH.cons (i := 9) rfl (fun K hK => ?zy10) AllReadyH.nil
          rw [if_pos (by rfl)]
          refine wp_store_blk (cs' := [.int .i64 p, .int .i64 q, .int .i64 r, .int .i64 1, .int .i64 i1, .string ⟨#[]⟩, .int .i64 0, .bool false, .bool false, .bool false, .int .i64 j2, .string ⟨#[]⟩, .slice none 0 0, .int .i64 (-1), .bool false, .int .i64 ms, .int .i64 ms, .int .i64 om, .int .i64 oc, .bool ok, .bool os, .int .i64 ov, .int .i64 ox, .int .i64 0, .int .i64 0]) 36 _ _ rfl rfl rfl KW5.out rfl (by kernel_rfl) rfl (fun v6 hB hg => ?_)
          clear hS
          have B6 := Lib.hid (B5.out.trans (grown_below hg l_W B5.out.size))
          have KT6 := Lib.hid (KT5.out.grown hg (n_T_W))
          have KO6 := Lib.hid (KO5.out.grown hg (n_O_W))
          have KW6 := Lib.hid hB
          clear hB hg B5 KT5 KO5 KW5
          refine hK.out _ _ ⟨KT6.out, KO6.out⟩ (fun hS => ?_)
          clear hK K
          refine wpAnyH_done (by kernel_rfl) ?_ _
          refine NoPanic.normal ?_
          go_wp2_with fail
          go_meet
          case rel => exact ⟨g_W, rfl, B6, KT6, KO6, KW6, ⟨n_T_W, n_O_W, l_W⟩⟩
      · rw [if_pos (by rfl)]
        go_simp
        clear hS
        have B3 := Lib.hid (B2.out.alloc B2.out.size (.cells #[.int .i64 0, .int .i64 0, .int .i64 0, .int .i64 0, .int .i64 0, .string ⟨#[]⟩, .int .i64 0, .bool false, .bool false, .bool false, .int .i64 0, .string ⟨#[]⟩, .slice none 0 0, .int .i64 0, .bool false, .int .i64 0, .int .i64 0, .int .i64 0, .int .i64 0, .bool false, .bool false, .int .i64 0, .int .i64 0, .int .i64 0, .int .i64 0] 36))
        have l_W : w.heap.size ≤ v2.heap.size := B2.out.size
        have n_T_W : g_T ≠ v2.heap.size := by have h1 := KT2.out.lt; omega
        have n_O_W : g_O ≠ v2.heap.size := by have h1 := KO2.out.lt; omega
        have KT3 := Lib.hid (KT2.out.alloc (.cells #[.int .i64 0, .int .i64 0, .int .i64 0, .int .i64 0, .int .i64 0, .string ⟨#[]⟩, .int .i64 0, .bool false, .bool false, .bool false, .int .i64 0, .string ⟨#[]⟩, .slice none 0 0, .int .i64 0, .bool false, .int .i64 0, .int .i64 0, .int .i64 0, .int .i64 0, .bool false, .bool false, .int .i64 0, .int .i64 0, .int .i64 0, .int .i64 0] 36))
        have KO3 := Lib.hid (KO2.out.alloc (.cells #[.int .i64 0, .int .i64 0, .int .i64 0, .int .i64 0, .int .i64 0, .string ⟨#[]⟩, .int .i64 0, .bool false, .bool false, .bool false, .int .i64 0, .string ⟨#[]⟩, .slice none 0 0, .int .i64 0, .bool false, .int .i64 0, .int .i64 0, .int .i64 0, .int .i64 0, .bool false, .bool false, .int .i64 0, .int .i64 0, .int .i64 0, .int .i64 0] 36))
        have KW3 := Lib.hid (Blk.new v2 [.int .i64 0, .int .i64 0, .int .i64 0, .int .i64 0, .int .i64 0, .string ⟨#[]⟩, .int .i64 0, .bool false, .bool false, .bool false, .int .i64 0, .string ⟨#[]⟩, .slice none 0 0, .int .i64 0, .bool false, .int .i64 0, .int .i64 0, .int .i64 0, .int .i64 0, .bool false, .bool false, .int .i64 0, .int .i64 0, .int .i64 0, .int .i64 0] 36)
        clear B2 KT2 KO2
        refine hK.out _ _ ⟨KT3.out, KO3.out⟩ (fun hS => ?_)
        clear hK K
        generalize v2.alloc (.cells #[.int .i64 0, .int .i64 0, .int .i64 0, .int .i64 0, .int .i64 0, .string ⟨#[]⟩, .int .i64 0, .bool false, .bool false, .bool false, .int .i64 0, .string ⟨#[]⟩, .slice none 0 0, .int .i64 0, .bool false, .int .i64 0, .int .i64 0, .int .i64 0, .int .i64 0, .bool false, .bool false, .int .i64 0, .int .i64 0, .int .i64 0, .int .i64 0] 36) = v3 at hS B3 KT3 KO3 KW3 ⊢
        generalize v2.heap.size = g_W at KW3 l_W n_T_W n_O_W ⊢
        refine wpAnyH_ready (rs := [5]) (by kernel_rfl) (by simp) ?_
        refine AllReadyH.cons (i := 5) rfl (fun K hK => ?zy11) AllReadyH.nil
        rw [if_pos (by rfl)]
        go_simp
        clear hS
        refine (toOptions_any m c k s v x _).mono ?_
        rintro e v4 ⟨rfl, hb⟩
        have B4 := Lib.hid (B3.out.trans (hb.mono B3.out.size))
        have KT4 := Lib.hid (KT3.out.below hb)
        have KO4 := Lib.hid (KO3.out.below hb)
        have KW4 := Lib.hid (KW3.out.below hb)
        clear hb B3 KT3 KO3 KW3
        refine hK.out _ _ ⟨KT4.out, KO4.out⟩ (fun hS => ?_)
        clear hK K
        refine wpAnyH_ready (rs := [7]) (by kernel_rfl) (by simp) ?_
        refine AllReadyH.cons (i := 7) rfl (fun K hK => ?zy12) AllReadyH.nil
        rw [if_pos (by rfl)]
        go_simp
        clear hS
        refine (NS.out _).mono ?_
        rintro e v5 ⟨rfl, hb⟩
        have B5 := Lib.hid (B4.out.trans (hb.mono B4.out.size))
        have KT5 := Lib.hid (KT4.out.below hb)
        have KO5 := Lib.hid (KO4.out.below hb)
        have KW5 := Lib.hid (KW4.out.below hb)
        clear hb B4 KT4 KO4 KW4
        refine hK.out _ _ ⟨KT5.out, KO5.out⟩ (fun hS => ?_)
        clear hK K
        refine wpAnyH_ready (rs := [9]) (by kernel_rfl) (by simp) ?_
        refine AllReadyH.cons (i := 9) rfl (fun K hK => ?zy13) AllReadyH.nil
        rw [if_pos (by rfl)]
        refine wp_store_blk (cs' := [.int .i64 p, .int .i64 q, .int .i64 r, .int .i64 1, .int .i64 i1, .string ⟨#[]⟩, .int .i64 0, .bool false, .bool false, .bool false, .int .i64 j2, .string ⟨#[]⟩, .slice none 0 0, .int .i64 (-1), .bool false, .int .i64 ms, .int .i64 ms, .int .i64 om, .int .i64 oc, .bool ok, .bool os, .int .i64 ov, .int .i64 ox, .int .i64 0, .int .i64 0]) 36 _ _ rfl rfl rfl KW5.out rfl (by kernel_rfl) rfl (fun v6 hB hg => ?_)
        clear hS
        have B6 := Lib.hid (B5.out.trans (grown_below hg l_W B5.out.size))
        have KT6 := Lib.hid (KT5.out.grown hg (n_T_W))
        have KO6 := Lib.hid (KO5.out.grown hg (n_O_W))
        have KW6 := Lib.hid hB
        clear hB hg B5 KT5 KO5 KW5
        refine hK.out _ _ ⟨KT6.out, KO6.out⟩ (fun hS => ?_)
        clear hK K
        refine wpAnyH_done (by kernel_rfl) ?_ _
        refine NoPanic.normal ?_
        go_wp2_with fail
        go_meet
        case rel => exact ⟨g_W, rfl, B6, KT6, KO6, KW6, ⟨n_T_W, n_O_W, l_W⟩⟩
    · rw [if_pos (by rfl)]
      go_simp
      clear hS
      have B2 := Lib.hid (B1.out.alloc B1.out.size (.cells #[.int .i64 0, .int .i64 0, .int .i64 0, .int .i64 0, .int .i64 0, .string ⟨#[]⟩, .int .i64 0, .bool false, .bool false, .bool false, .int .i64 0, .string ⟨#[]⟩, .slice none 0 0, .int .i64 0, .bool false, .int .i64 0, .int .i64 0, .int .i64 0, .int .i64 0, .bool false, .bool false, .int .i64 0, .int .i64 0, .int .i64 0, .int .i64 0] 36))
      have l_W : w.heap.size ≤ v1.heap.size := B1.out.size
      have n_T_W : g_T ≠ v1.heap.size := by have h1 := KT1.out.lt; omega
      have n_O_W : g_O ≠ v1.heap.size := by have h1 := KO1.out.lt; omega
      have KT2 := Lib.hid (KT1.out.alloc (.cells #[.int .i64 0, .int .i64 0, .int .i64 0, .int .i64 0, .int .i64 0, .string ⟨#[]⟩, .int .i64 0, .bool false, .bool false, .bool false, .int .i64 0, .string ⟨#[]⟩, .slice none 0 0, .int .i64 0, .bool false, .int .i64 0, .int .i64 0, .int .i64 0, .int .i64 0, .bool false, .bool false, .int .i64 0, .int .i64 0, .int .i64 0, .int .i64 0] 36))
      have KO2 := Lib.hid (KO1.out.alloc (.cells #[.int .i64 0, .int .i64 0, .int .i64 0, .int .i64 0, .int .i64 0, .string ⟨#[]⟩, .int .i64 0, .bool false, .bool false, .bool false, .int .i64 0, .string ⟨#[]⟩, .slice none 0 0, .int .i64 0, .bool false, .int .i64 0, .int .i64 0, .int .i64 0, .int .i64 0, .bool false, .bool false, .int .i64 0, .int .i64 0, .int .i64 0, .int .i64 0] 36))
      have KW2 := Lib.hid (Blk.new v1 [.int .i64 0, .int .i64 0, .int .i64 0, .int .i64 0, .int .i64 0, .string ⟨#[]⟩, .int .i64 0, .bool false, .bool false, .bool false, .int .i64 0, .string ⟨#[]⟩, .slice none 0 0, .int .i64 0, .bool false, .int .i64 0, .int .i64 0, .int .i64 0, .int .i64 0, .bool false, .bool false, .int .i64 0, .int .i64 0, .int .i64 0, .int .i64 0] 36)
      clear B1 KT1 KO1
      refine hK.out _ _ ⟨KT2.out, KO2.out⟩ (fun hS => ?_)
      clear hK K
      generalize v1.alloc (.cells #[.int .i64 0, .int .i64 0, .int .i64 0, .int .i64 0, .int .i64 0, .string ⟨#[]⟩, .int .i64 0, .bool false, .bool false, .bool false, .int .i64 0, .string ⟨#[]⟩, .slice none 0 0, .int .i64 0, .bool false, .int .i64 0, .int .i64 0, .int .i64 0, .int .i64 0, .bool false, .bool false, .int .i64 0, .int .i64 0, .int .i64 0, .int .i64 0] 36) = v2 at hS B2 KT2 KO2 KW2 ⊢
      generalize v1.heap.size = g_W at KW2 l_W n_T_W n_O_W ⊢
      refine wpAnyH_ready (rs := [1]) (by kernel_rfl) (by simp) ?_
      refine AllReadyH.cons (i := 1) rfl (fun K hK => ?zy14) AllReadyH.nil
      rw [if_pos (by rfl)]
      go_simp
      clear hS
      refine (toTuple_any p q r _).mono ?_
      rintro e v3 ⟨rfl, hb⟩
      have B3 := Lib.hid (B2.out.trans (hb.mono B2.out.size))
      have KT3 := Lib.hid (KT2.out.below hb)
      have KO3 := Lib.hid (KO2.out.below hb)
      have KW3 := Lib.hid (KW2.out.below hb)
      clear hb B2 KT2 KO2 KW2
      refine hK.out _ _ ⟨KT3.out, KO3.out⟩ (fun hS => ?_)
      clear hK K
      refine wpAnyH_ready (rs := [5]) (by kernel_rfl) (by simp) ?_
      refine AllReadyH.cons (i := 5) rfl (fun K hK => ?zy15) AllReadyH.nil
      rw [if_pos (by rfl)]
      go_simp
      clear hS
      refine (toOptions_any m c k s v x _).mono ?_
      rintro e v4 ⟨rfl, hb⟩
      have B4 := Lib.hid (B3.out.trans (hb.mono B3.out.size))
      have KT4 := Lib.hid (KT3.out.below hb)
      have KO4 := Lib.hid (KO3.out.below hb)
      have KW4 := Lib.hid (KW3.out.below hb)
      clear hb B3 KT3 KO3 KW3
      refine hK.out _ _ ⟨KT4.out, KO4.out⟩ (fun hS => ?_)
      clear hK K
      refine wpAnyH_ready (rs := [7]) (by kernel_rfl) (by simp) ?_
      refine AllReadyH.cons (i := 7) rfl (fun K hK => ?zy16) AllReadyH.nil
      rw [if_pos (by rfl)]
      go_simp
      clear hS
      refine (NS.out _).mono ?_
      rintro e v5 ⟨rfl, hb⟩
      have B5 := Lib.hid (B4.out.trans (hb.mono B4.out.size))
      have KT5 := Lib.hid (KT4.out.below hb)
      have KO5 := Lib.hid (KO4.out.below hb)
      have KW5 := Lib.hid (KW4.out.below hb)
      clear hb B4 KT4 KO4 KW4
      refine hK.out _ _ ⟨KT5.out, KO5.out⟩ (fun hS => ?_)
      clear hK K
      refine wpAnyH_ready (rs := [9]) (by kernel_rfl) (by simp) ?_
      refine AllReadyH.cons (i := 9) rfl (fun K hK => ?zy17) AllReadyH.nil
      rw [if_pos (by rfl)]
      refine wp_store_blk (cs' := [.int .i64 p, .int .i64 q, .int .i64 r, .int .i64 1, .int .i64 i1, .string ⟨#[]⟩, .int .i64 0, .bool false, .bool false, .bool false, .int .i64 j2, .string ⟨#[]⟩, .slice none 0 0, .int .i64 (-1), .bool false, .int .i64 ms, .int .i64 ms, .int .i64 om, .int .i64 oc, .bool ok, .bool os, .int .i64 ov, .int .i64 ox, .int .i64 0, .int .i64 0]) 36 _ _ rfl rfl rfl KW5.out rfl (by kernel_rfl) rfl (fun v6 hB hg => ?_)
      clear hS
      have B6 := Lib.hid (B5.out.trans (grown_below hg l_W B5.out.size))
      have KT6 := Lib.hid (KT5.out.grown hg (n_T_W))
      have KO6 := Lib.hid (KO5.out.grown hg (n_O_W))
      have KW6 := Lib.hid hB
      clear hB hg B5 KT5 KO5 KW5
      refine hK.out _ _ ⟨KT6.out, KO6.out⟩ (fun hS => ?_)
      clear hK K
      refine wpAnyH_done (by kernel_rfl) ?_ _
      refine NoPanic.normal ?_
      go_wp2_with fail
      go_meet
      case rel => exact ⟨g_W, rfl, B6, KT6, KO6, KW6, ⟨n_T_W, n_O_W, l_W⟩⟩
  case rest =>
    clear B0 KT0 KO0
    obtain ⟨g_W, rfl, B101, KT101, KO101, KW101, ⟨n_T_W, n_O_W, l_W⟩⟩ := hcut
    generalize wc = wc_1 at B101 KT101 KO101 KW101 ⊢
    go_upto_region 2 with fail
    go_cut [12] (fun s12 wx => ∃ (g_G : Nat), s12 = .pointer (some ⟨g_G, 0, none⟩) ∧ Hid (Below w.heap.size w wx) ∧ Hid (Blk wx g_T [.int .i64 p, .int .i64 q, .int .i64 r]) ∧ Hid (Blk wx g_O [.int .i64 m, .int .i64 c, .bool k, .bool s, .int .i64 v, .int .i64 x]) ∧ Hid (Blk wx g_W [.int .i64 p, .int .i64 q, .int .i64 r, .int .i64 1, .int .i64 i1, .string ⟨#[]⟩, .int .i64 0, .bool false, .bool false, .bool false, .int .i64 j2, .string ⟨#[]⟩, .slice none 0 0, .int .i64 (-1), .bool false, .int .i64 ms, .int .i64 ms, .int .i64 om, .int .i64 oc, .bool ok, .bool os, .int .i64 ov, .int .i64 ox, .int .i64 0, .int .i64 0]) ∧ Hid (Blk wx g_G [.int .i64 p, .int .i64 q, .int .i64 r, .int .i64 1, .int .i64 i1, .string ⟨#[]⟩, .int .i64 0, .bool false, .bool false, .bool false, .int .i64 j2, .string ⟨#[]⟩, .slice none 0 0, .int .i64 (-1), .bool false, .int .i64 ms, .int .i64 ms, .int .i64 om, .int .i64 oc, .bool ok, .bool os, .int .i64 ov, .int .i64 ox, .int .i64 0, .int .i64 0]) ∧ (g_T ≠ g_G ∧ g_O ≠ g_G ∧ g_W ≠ g_G ∧ w.heap.size ≤ g_G))
    case first =>
      refine wp_region_noPanic ?_
      refine wp_region_held_drew (S := fun w' => Blk w' g_T [.int .i64 p, .int .i64 q, .int .i64 r] ∧ Blk w' g_O [.int .i64 m, .int .i64 c, .bool k, .bool s, .int .i64 v, .int .i64 x]) (by kernel_rfl) ⟨KT101.out, KO101.out⟩ (fun hS => ?_)
      have B102 := Lib.hid (show Below w.heap.size w wc_1.drew from B101.out.drew)
      have KT102 := Lib.hid (show Blk wc_1.drew g_T [.int .i64 p, .int .i64 q, .int .i64 r] from KT101.out.drew)
      have KO102 := Lib.hid (show Blk wc_1.drew g_O [.int .i64 m, .int .i64 c, .bool k, .bool s, .int .i64 v, .int .i64 x] from KO101.out.drew)
      have KW102 := Lib.hid (show Blk wc_1.drew g_W [.int .i64 p, .int .i64 q, .int .i64 r, .int .i64 1, .int .i64 i1, .string ⟨#[]⟩, .int .i64 0, .bool false, .bool false, .bool false, .int .i64 j2, .string ⟨#[]⟩, .slice none 0 0, .int .i64 (-1), .bool false, .int .i64 ms, .int .i64 ms, .int .i64 om, .int .i64 oc, .bool ok, .bool os, .int .i64 ov, .int .i64 ox, .int .i64 0, .int .i64 0] from KW101.out.drew)
      clear hS B101 KT101 KO101 KW101
      generalize wc_1.drew = v102 at B102 KT102 KO102 KW102 ⊢
      have hS : Blk v102 g_T [.int .i64 p, .int .i64 q, .int .i64 r] ∧ Blk v102 g_O [.int .i64 m, .int .i64 c, .bool k, .bool s, .int .i64 v, .int .i64 x] := ⟨KT102.out, KO102.out⟩
      refine wpAnyH_take (i := 0) (v := .agg #[.int .i64 p, .int .i64 q, .int .i64 r]) rfl (by kernel_rfl) (by kernel_rfl) (by kernel_rfl) (fun _ _ _ h => h) (Or.inl ⟨by kernel_rfl, by intro w hS; obtain ⟨⟨h0, h1, h2⟩, _⟩ := hS.1.o3; go_simp⟩) hS ?_
      refine wpAnyH_take (i := 2) (v := .int .i64 i) rfl (by kernel_rfl) (by kernel_rfl) (by kernel_rfl) (fun _ _ _ h => h) (Or.inl ⟨by kernel_rfl, by intro w hS; go_simp⟩) hS ?_
      refine wpAnyH_take (i := 3) (v := .int .i64 j) rfl (by kernel_rfl) (by kernel_rfl) (by kernel_rfl) (fun _ _ _ h => h) (Or.inl ⟨by kernel_rfl, by intro w hS; go_simp⟩) hS ?_
      refine wpAnyH_take (i := 4) (v := .agg #[.int .i64 m, .int .i64 c, .bool k, .bool s, .int .i64 v, .int .i64 x]) rfl (by kernel_rfl) (by kernel_rfl) (by kernel_rfl) (fun _ _ _ h => h) (Or.inl ⟨by kernel_rfl, by intro w hS; obtain ⟨⟨h0, h1, h2, h3, h4, h5⟩, _⟩ := hS.2.of6; go_simp⟩) hS ?_
      refine wpAnyH_take (i := 6) (v := .int .i64 wd) rfl (by kernel_rfl) (by kernel_rfl) (by kernel_rfl) (fun _ _ _ h => h) (Or.inl ⟨by kernel_rfl, by intro w hS; go_simp⟩) hS ?_
      refine wpAnyH_ready (rs := [1, 8]) (by kernel_rfl) (by simp) ?_
      refine AllReadyH.cons (i := 1) rfl (fun K hK => ?zy19) (AllReadyH.cons (i := 8) rfl (fun K hK => ?zy18) AllReadyH.nil)
      · rw [if_pos (by rfl)]
        go_simp
        clear hS
        refine (toTuple_any p q r _).mono ?_
        rintro e v103 ⟨rfl, hb⟩
        have B103 := Lib.hid (B102.out.trans (hb.mono B102.out.size))
        have KT103 := Lib.hid (KT102.out.below hb)
        have KO103 := Lib.hid (KO102.out.below hb)
        have KW103 := Lib.hid (KW102.out.below hb)
        clear hb B102 KT102 KO102 KW102
        refine hK.out _ _ ⟨KT103.out, KO103.out⟩ (fun hS => ?_)
        clear hK K
        refine wpAnyH_ready (rs := [5, 8]) (by kernel_rfl) (by simp) ?_
        refine AllReadyH.cons (i := 5) rfl (fun K hK => ?zy21) (AllReadyH.cons (i := 8) rfl (fun K hK => ?zy20) AllReadyH.nil)
        · rw [if_pos (by rfl)]
          go_simp
          clear hS
          refine (toOptions_any m c k s v x _).mono ?_
          rintro e v104 ⟨rfl, hb⟩
          have B104 := Lib.hid (B103.out.trans (hb.mono B103.out.size))
          have KT104 := Lib.hid (KT103.out.below hb)
          have KO104 := Lib.hid (KO103.out.below hb)
          have KW104 := Lib.hid (KW103.out.below hb)
          clear hb B103 KT103 KO103 KW103
          refine hK.out _ _ ⟨KT104.out, KO104.out⟩ (fun hS => ?_)
          clear hK K
          refine wpAnyH_ready (rs := [7, 8]) (by kernel_rfl) (by simp) ?_
          refine AllReadyH.cons (i := 7) rfl (fun K hK => ?zy23) (AllReadyH.cons (i := 8) rfl (fun K hK => ?zy22) AllReadyH.nil)
          · rw [if_pos (by rfl)]
            go_simp
            clear hS
            refine (NI.out _).mono ?_
            rintro e v105 ⟨rfl, hb⟩
            have B105 := Lib.hid (B104.out.trans (hb.mono B104.out.size))
            have KT105 := Lib.hid (KT104.out.below hb)
            have KO105 := Lib.hid (KO104.out.below hb)
            have KW105 := Lib.hid (KW104.out.below hb)
            clear hb B104 KT104 KO104 KW104
            refine hK.out _ _ ⟨KT105.out, KO105.out⟩ (fun hS => ?_)
            clear hK K
            refine wpAnyH_ready (rs := [8]) (by kernel_rfl) (by simp) ?_
            refine AllReadyH.cons (i := 8) rfl (fun K hK => ?zy24) AllReadyH.nil
            rw [if_pos (by rfl)]
            go_simp
            clear hS
            have B106 := Lib.hid (B105.out.alloc B105.out.size (.cells #[.int .i64 0, .int .i64 0, .int .i64 0, .int .i64 0, .int .i64 0, .string ⟨#[]⟩, .int .i64 0, .bool false, .bool false, .bool false, .int .i64 0, .string ⟨#[]⟩, .slice none 0 0, .int .i64 0, .bool false, .int .i64 0, .int .i64 0, .int .i64 0, .int .i64 0, .bool false, .bool false, .int .i64 0, .int .i64 0, .int .i64 0, .int .i64 0] 36))
            have l_G : w.heap.size ≤ v105.heap.size := B105.out.size
            have n_T_G : g_T ≠ v105.heap.size := by have h1 := KT105.out.lt; omega
            have n_O_G : g_O ≠ v105.heap.size := by have h1 := KO105.out.lt; omega
            have n_W_G : g_W ≠ v105.heap.size := by have h1 := KW105.out.lt; omega
            have KT106 := Lib.hid (KT105.out.alloc (.cells #[.int .i64 0, .int .i64 0, .int .i64 0, .int .i64 0, .int .i64 0, .string ⟨#[]⟩, .int .i64 0, .bool false, .bool false, .bool false, .int .i64 0, .string ⟨#[]⟩, .slice none 0 0, .int .i64 0, .bool false, .int .i64 0, .int .i64 0, .int .i64 0, .int .i64 0, .bool false, .bool false, .int .i64 0, .int .i64 0, .int .i64 0, .int .i64 0] 36))
            have KO106 := Lib.hid (KO105.out.alloc (.cells #[.int .i64 0, .int .i64 0, .int .i64 0, .int .i64 0, .int .i64 0, .string ⟨#[]⟩, .int .i64 0, .bool false, .bool false, .bool false, .int .i64 0, .string ⟨#[]⟩, .slice none 0 0, .int .i64 0, .bool false, .int .i64 0, .int .i64 0, .int .i64 0, .int .i64 0, .bool false, .bool false, .int .i64 0, .int .i64 0, .int .i64 0, .int .i64 0] 36))
            have KW106 := Lib.hid (KW105.out.alloc (.cells #[.int .i64 0, .int .i64 0, .int .i64 0, .int .i64 0, .int .i64 0, .string ⟨#[]⟩, .int .i64 0, .bool false, .bool false, .bool false, .int .i64 0, .string ⟨#[]⟩, .slice none 0 0, .int .i64 0, .bool false, .int .i64 0, .int .i64 0, .int .i64 0, .int .i64 0, .bool false, .bool false, .int .i64 0, .int .i64 0, .int .i64 0, .int .i64 0] 36))
            have KG106 := Lib.hid (Blk.new v105 [.int .i64 0, .int .i64 0, .int .i64 0, .int .i64 0, .int .i64 0, .string ⟨#[]⟩, .int .i64 0, .bool false, .bool false, .bool false, .int .i64 0, .string ⟨#[]⟩, .slice none 0 0, .int .i64 0, .bool false, .int .i64 0, .int .i64 0, .int .i64 0, .int .i64 0, .bool false, .bool false, .int .i64 0, .int .i64 0, .int .i64 0, .int .i64 0] 36)
            clear B105 KT105 KO105 KW105
            refine hK.out _ _ ⟨KT106.out, KO106.out⟩ (fun hS => ?_)
            clear hK K
            generalize v105.alloc (.cells #[.int .i64 0, .int .i64 0, .int .i64 0, .int .i64 0, .int .i64 0, .string ⟨#[]⟩, .int .i64 0, .bool false, .bool false, .bool false, .int .i64 0, .string ⟨#[]⟩, .slice none 0 0, .int .i64 0, .bool false, .int .i64 0, .int .i64 0, .int .i64 0, .int .i64 0, .bool false, .bool false, .int .i64 0, .int .i64 0, .int .i64 0, .int .i64 0] 36) = v106 at hS B106 KT106 KO106 KW106 KG106 ⊢
            generalize v105.heap.size = g_G at KG106 l_G n_T_G n_O_G n_W_G ⊢
            refine wpAnyH_ready (rs := [9]) (by kernel_rfl) (by simp) ?_
            refine AllReadyH.cons (i := 9) rfl (fun K hK => ?zy25) AllReadyH.nil
            rw [if_pos (by rfl)]
            refine wp_store_blk (cs' := [.int .i64 p, .int .i64 q, .int .i64 r, .int .i64 1, .int .i64 i1, .string ⟨#[]⟩, .int .i64 0, .bool false, .bool false, .bool false, .int .i64 j2, .string ⟨#[]⟩, .slice none 0 0, .int .i64 (-1), .bool false, .int .i64 ms, .int .i64 ms, .int .i64 om, .int .i64 oc, .bool ok, .bool os, .int .i64 ov, .int .i64 ox, .int .i64 0, .int .i64 0]) 36 _ _ rfl rfl rfl KG106.out rfl (by kernel_rfl) rfl (fun v107 hB hg => ?_)
            clear hS
            have B107 := Lib.hid (B106.out.trans (grown_below hg l_G B106.out.size))
            have KT107 := Lib.hid (KT106.out.grown hg (n_T_G))
            have KO107 := Lib.hid (KO106.out.grown hg (n_O_G))
            have KW107 := Lib.hid (KW106.out.grown hg (n_W_G))
            have KG107 := Lib.hid hB
            clear hB hg B106 KT106 KO106 KW106 KG106
            refine hK.out _ _ ⟨KT107.out, KO107.out⟩ (fun hS => ?_)
            clear hK K
            refine wpAnyH_done (by kernel_rfl) ?_ _
            refine NoPanic.normal ?_
            go_wp2_with fail
            go_meet
            case rel => exact ⟨g_G, rfl, B107, KT107, KO107, KW107, KG107, ⟨n_T_G, n_O_G, n_W_G, l_G⟩⟩
          · rw [if_pos (by rfl)]
            go_simp
            clear hS
            have B105 := Lib.hid (B104.out.alloc B104.out.size (.cells #[.int .i64 0, .int .i64 0, .int .i64 0, .int .i64 0, .int .i64 0, .string ⟨#[]⟩, .int .i64 0, .bool false, .bool false, .bool false, .int .i64 0, .string ⟨#[]⟩, .slice none 0 0, .int .i64 0, .bool false, .int .i64 0, .int .i64 0, .int .i64 0, .int .i64 0, .bool false, .bool false, .int .i64 0, .int .i64 0, .int .i64 0, .int .i64 0] 36))
            have l_G : w.heap.size ≤ v104.heap.size := B104.out.size
            have n_T_G : g_T ≠ v104.heap.size := by have h1 := KT104.out.lt; omega
            have n_O_G : g_O ≠ v104.heap.size := by have h1 := KO104.out.lt; omega
            have n_W_G : g_W ≠ v104.heap.size := by have h1 := KW104.out.lt; omega
            have KT105 := Lib.hid (KT104.out.alloc (.cells #[.int .i64 0, .int .i64 0, .int .i64 0, .int .i64 0, .int .i64 0, .string ⟨#[]⟩, .int .i64 0, .bool false, .bool false, .bool false, .int .i64 0, .string ⟨#[]⟩, .slice none 0 0, .int .i64 0, .bool false, .int .i64 0, .int .i64 0, .int .i64 0, .int .i64 0, .bool false, .bool false, .int .i64 0, .int .i64 0, .int .i64 0, .int .i64 0] 36))
            have KO105 := Lib.hid (KO104.out.alloc (.cells #[.int .i64 0, .int .i64 0, .int .i64 0, .int .i64 0, .int .i64 0, .string ⟨#[]⟩, .int .i64 0, .bool false, .bool false, .bool false, .int .i64 0, .string ⟨#[]⟩, .slice none 0 0, .int .i64 0, .bool false, .int .i64 0, .int .i64 0, .int .i64 0, .int .i64 0, .bool false, .bool false, .int .i64 0, .int .i64 0, .int .i64 0, .int .i64 0] 36))
            have KW105 := Lib.hid (KW104.out.alloc (.cells #[.int .i64 0, .int .i64 0, .int .i64 0, .int .i64 0, .int .i64 0, .string ⟨#[]⟩, .int .i64 0, .bool false, .bool false, .bool false, .int .i64 0, .string ⟨#[]⟩, .slice none 0 0, .int .i64 0, .bool false, .int .i64 0, .int .i64 0, .int .i64 0, .int .i64 0, .bool false, .bool false, .int .i64 0, .int .i64 0, .int .i64 0, .int .i64 0] 36))
            have KG105 := Lib.hid (Blk.new v104 [.int .i64 0, .int .i64 0, .int .i64 0, .int .i64 0, .int .i64 0, .string ⟨#[]⟩, .int .i64 0, .bool false, .bool false, .bool false, .int .i64 0, .string ⟨#[]⟩, .slice none 0 0, .int .i64 0, .bool false, .int .i64 0, .int .i64 0, .int .i64 0, .int .i64 0, .bool false, .bool false, .int .i64 0, .int .i64 0, .int .i64 0, .int .i64 0] 36)
            clear B104 KT104 KO104 KW104
            refine hK.out _ _ ⟨KT105.out, KO105.out⟩ (fun hS => ?_)
            clear hK K
            generalize v104.alloc (.cells #[.int .i64 0, .int .i64 0, .int .i64 0, .int .i64 0, .int .i64 0, .string ⟨#[]⟩, .int .i64 0, .bool false, .bool false, .bool false, .int .i64 0, .string ⟨#[]⟩, .slice none 0 0, .int .i64 0, .bool false, .int .i64 0, .int .i64 0, .int .i64 0, .int .i64 0, .bool false, .bool false, .int .i64 0, .int .i64 0, .int .i64 0, .int .i64 0] 36) = v105 at hS B105 KT105 KO105 KW105 KG105 ⊢
            generalize v104.heap.size = g_G at KG105 l_G n_T_G n_O_G n_W_G ⊢
            refine wpAnyH_ready (rs := [7]) (by kernel_rfl) (by simp) ?_
            refine AllReadyH.cons (i := 7) rfl (fun K hK => ?zy26) AllReadyH.nil
            rw [if_pos (by rfl)]
            go_simp
            clear hS
            refine (NI.out _).mono ?_
            rintro e v106 ⟨rfl, hb⟩
            have B106 := Lib.hid (B105.out.trans (hb.mono B105.out.size))
            have KT106 := Lib.hid (KT105.out.below hb)
            have KO106 := Lib.hid (KO105.out.below hb)
            have KW106 := Lib.hid (KW105.out.below hb)
            have KG106 := Lib.hid (KG105.out.below hb)
            clear hb B105 KT105 KO105 KW105 KG105
            refine hK.out _ _ ⟨KT106.out, KO106.out⟩ (fun hS => ?_)
            clear hK K
            refine wpAnyH_ready (rs := [9]) (by kernel_rfl) (by simp) ?_
            refine AllReadyH.cons (i := 9) rfl (fun K hK => ?zy27) AllReadyH.nil
            rw [if_pos (by rfl)]
            refine wp_store_blk (cs' := [.int .i64 p, .int .i64 q, .int .i64 r, .int .i64 1, .int .i64 i1, .string ⟨#[]⟩, .int .i64 0, .bool false, .bool false, .bool false, .int .i64 j2, .string ⟨#[]⟩, .slice none 0 0, .int .i64 (-1), .bool false, .int .i64 ms, .int .i64 ms, .int .i64 om, .int .i64 oc, .bool ok, .bool os, .int .i64 ov, .int .i64 ox, .int .i64 0, .int .i64 0]) 36 _ _ rfl rfl rfl KG106.out rfl (by kernel_rfl) rfl (fun v107 hB hg => ?_)
            clear hS
            have B107 := Lib.hid (B106.out.trans (grown_below hg l_G B106.out.size))
            have KT107 := Lib.hid (KT106.out.grown hg (n_T_G))
            have KO107 := Lib.hid (KO106.out.grown hg (n_O_G))
            have KW107 := Lib.hid (KW106.out.grown hg (n_W_G))
            have KG107 := Lib.hid hB
            clear hB hg B106 KT106 KO106 KW106 KG106
            refine hK.out _ _ ⟨KT107.out, KO107.out⟩ (fun hS => ?_)
            clear hK K
            refine wpAnyH_done (by kernel_rfl) ?_ _
            refine NoPanic.normal ?_
            go_wp2_with fail
            go_meet
            case rel => exact ⟨g_G, rfl, B107, KT107, KO107, KW107, KG107, ⟨n_T_G, n_O_G, n_W_G, l_G⟩⟩
        · rw [if_pos (by rfl)]
          go_simp
          clear hS
          have B104 := Lib.hid (B103.out.alloc B103.out.size (.cells #[.int .i64 0, .int .i64 0, .int .i64 0, .int .i64 0, .int .i64 0, .string ⟨#[]⟩, .int .i64 0, .bool false, .bool false, .bool false, .int .i64 0, .string ⟨#[]⟩, .slice none 0 0, .int .i64 0, .bool false, .int .i64 0, .int .i64 0, .int .i64 0, .int .i64 0, .bool false, .bool false, .int .i64 0, .int .i64 0, .int .i64 0, .int .i64 0] 36))
          have l_G : w.heap.size ≤ v103.heap.size := B103.out.size
          have n_T_G : g_T ≠ v103.heap.size := by have h1 := KT103.out.lt; omega
          have n_O_G : g_O ≠ v103.heap.size := by have h1 := KO103.out.lt; omega
          have n_W_G : g_W ≠ v103.heap.size := by have h1 := KW103.out.lt; omega
          have KT104 := Lib.hid (KT103.out.alloc (.cells #[.int .i64 0, .int .i64 0, .int .i64 0, .int .i64 0, .int .i64 0, .string ⟨#[]⟩, .int .i64 0, .bool false, .bool false, .bool false, .int .i64 0, .string ⟨#[]⟩, .slice none 0 0, .int .i64 0, .bool false, .int .i64 0, .int .i64 0, .int .i64 0, .int .i64 0, .bool false, .bool false, .int .i64 0, .int .i64 0, .int .i64 0, .int .i64 0] 36))
          have KO104 := Lib.hid (KO103.out.alloc (.cells #[.int .i64 0, .int .i64 0, .int .i64 0, .int .i64 0, .int .i64 0, .string ⟨#[]⟩, .int .i64 0, .bool false, .bool false, .bool false, .int .i64 0, .string ⟨#[]⟩, .slice none 0 0, .int .i64 0, .bool false, .int .i64 0, .int .i64 0, .int .i64 0, .int .i64 0, .bool false, .bool false, .int .i64 0, .int .i64 0, .int .i64 0, .int .i64 0] 36))
          have KW104 := Lib.hid (KW103.out.alloc (.cells #[.int .i64 0, .int .i64 0, .int .i64 0, .int .i64 0, .int .i64 0, .string ⟨#[]⟩, .int .i64 0, .bool false, .bool false, .bool false, .int .i64 0, .string ⟨#[]⟩, .slice none 0 0, .int .i64 0, .bool false, .int .i64 0, .int .i64 0, .int .i64 0, .int .i64 0, .bool false, .bool false, .int .i64 0, .int .i64 0, .int .i64 0, .int .i64 0] 36))
          have KG104 := Lib.hid (Blk.new v103 [.int .i64 0, .int .i64 0, .int .i64 0, .int .i64 0, .int .i64 0, .string ⟨#[]⟩, .int .i64 0, .bool false, .bool false, .bool false, .int .i64 0, .string ⟨#[]⟩, .slice none 0 0, .int .i64 0, .bool false, .int .i64 0, .int .i64 0, .int .i64 0, .int .i64 0, .bool false, .bool false, .int .i64 0, .int .i64 0, .int .i64 0, .int .i64 0] 36)
          clear B103 KT103 KO103 KW103
          refine hK.out _ _ ⟨KT104.out, KO104.out⟩ (fun hS => ?_)
          clear hK K
          generalize v103.alloc (.cells #[.int .i64 0, .int .i64 0, .int .i64 0, .int .i64 0, .int .i64 0, .string ⟨#[]⟩, .int .i64 0, .bool false, .bool false, .bool false, .int .i64 0, .string ⟨#[]⟩, .slice none 0 0, .int .i64 0, .bool false, .int .i64 0, .int .i64 0, .int .i64 0, .int .i64 0, .bool false, .bool false, .int .i64 0, .int .i64 0, .int .i64 0, .int .i64 0] 36) = v104 at hS B104 KT104 KO104 KW104 KG104 ⊢
          generalize v103.heap.size = g_G at KG104 l_G n_T_G n_O_G n_W_G ⊢
          refine wpAnyH_ready (rs := [5]) (by kernel_rfl) (by simp) ?_
          refine AllReadyH.cons (i := 5) rfl (fun K hK => ?zy28) AllReadyH.nil
          rw [if_pos (by rfl)]
          go_simp
          clear hS
          refine (toOptions_any m c k s v x _).mono ?_
          rintro e v105 ⟨rfl, hb⟩
          have B105 := Lib.hid (B104.out.trans (hb.mono B104.out.size))
          have KT105 := Lib.hid (KT104.out.below hb)
          have KO105 := Lib.hid (KO104.out.below hb)
          have KW105 := Lib.hid (KW104.out.below hb)
          have KG105 := Lib.hid (KG104.out.below hb)
          clear hb B104 KT104 KO104 KW104 KG104
          refine hK.out _ _ ⟨KT105.out, KO105.out⟩ (fun hS => ?_)
          clear hK K
          refine wpAnyH_ready (rs := [7]) (by kernel_rfl) (by simp) ?_
          refine AllReadyH.cons (i := 7) rfl (fun K hK => ?zy29) AllReadyH.nil
          rw [if_pos (by rfl)]
          go_simp
          clear hS
          refine (NI.out _).mono ?_
          rintro e v106 ⟨rfl, hb⟩
          have B106 := Lib.hid (B105.out.trans (hb.mono B105.out.size))
          have KT106 := Lib.hid (KT105.out.below hb)
          have KO106 := Lib.hid (KO105.out.below hb)
          have KW106 := Lib.hid (KW105.out.below hb)
          have KG106 := Lib.hid (KG105.out.below hb)
          clear hb B105 KT105 KO105 KW105 KG105
          refine hK.out _ _ ⟨KT106.out, KO106.out⟩ (fun hS => ?_)
          clear hK K
          refine wpAnyH_ready (rs := [9]) (by kernel_rfl) (by simp) ?_
          refine AllReadyH.cons (i := 9) rfl (fun K hK => ?zy30) AllReadyH.nil
          rw [if_pos (by rfl)]
          refine wp_store_blk (cs' := [.int .i64 p, .int .i64 q, .int .i64 r, .int .i64 1, .int .i64 i1, .string ⟨#[]⟩, .int .i64 0, .bool false, .bool false, .bool false, .int .i64 j2, .string ⟨#[]⟩, .slice none 0 0, .int .i64 (-1), .bool false, .int .i64 ms, .int .i64 ms, .int .i64 om, .int .i64 oc, .bool ok, .bool os, .int .i64 ov, .int .i64 ox, .int .i64 0, .int .i64 0]) 36 _ _ rfl rfl rfl KG106.out rfl (by kernel_rfl) rfl (fun v107 hB hg => ?_)
          clear hS
          have B107 := Lib.hid (B106.out.trans (grown_below hg l_G B106.out.size))
          have KT107 := Lib.hid (KT106.out.grown hg (n_T_G))
          have KO107 := Lib.hid (KO106.out.grown hg (n_O_G))
          have KW107 := Lib.hid (KW106.out.grown hg (n_W_G))
          have KG107 := Lib.hid hB
          clear hB hg B106 KT106 KO106 KW106 KG106
          refine hK.out _ _ ⟨KT107.out, KO107.out⟩ (fun hS => ?_)
          clear hK K
          refine wpAnyH_done (by kernel_rfl) ?_ _
          refine NoPanic.normal ?_
          go_wp2_with fail
          go_meet
          case rel => exact ⟨g_G, rfl, B107, KT107, KO107, KW107, KG107, ⟨n_T_G, n_O_G, n_W_G, l_G⟩⟩
      · rw [if_pos (by rfl)]
        go_simp
        clear hS
        have B103 := Lib.hid (B102.out.alloc B102.out.size (.cells #[.int .i64 0, .int .i64 0, .int .i64 0, .int .i64 0, .int .i64 0, .string ⟨#[]⟩, .int .i64 0, .bool false, .bool false, .bool false, .int .i64 0, .string ⟨#[]⟩, .slice none 0 0, .int .i64 0, .bool false, .int .i64 0, .int .i64 0, .int .i64 0, .int .i64 0, .bool false, .bool false, .int .i64 0, .int .i64 0, .int .i64 0, .int .i64 0] 36))
        have l_G : w.heap.size ≤ v102.heap.size := B102.out.size
        have n_T_G : g_T ≠ v102.heap.size := by have h1 := KT102.out.lt; omega
        have n_O_G : g_O ≠ v102.heap.size := by have h1 := KO102.out.lt; omega
        have n_W_G : g_W ≠ v102.heap.size := by have h1 := KW102.out.lt; omega
        have KT103 := Lib.hid (KT102.out.alloc (.cells #[.int .i64 0, .int .i64 0, .int .i64 0, .int .i64 0, .int .i64 0, .string ⟨#[]⟩, .int .i64 0, .bool false, .bool false, .bool false, .int .i64 0, .string ⟨#[]⟩, .slice none 0 0, .int .i64 0, .bool false, .int .i64 0, .int .i64 0, .int .i64 0, .int .i64 0, .bool false, .bool false, .int .i64 0, .int .i64 0, .int .i64 0, .int .i64 0] 36))
        have KO103 := Lib.hid (KO102.out.alloc (.cells #[.int .i64 0, .int .i64 0, .int .i64 0, .int .i64 0, .int .i64 0, .string ⟨#[]⟩, .int .i64 0, .bool false, .bool false, .bool false, .int .i64 0, .string ⟨#[]⟩, .slice none 0 0, .int .i64 0, .bool false, .int .i64 0, .int .i64 0, .int .i64 0, .int .i64 0, .bool false, .bool false, .int .i64 0, .int .i64 0, .int .i64 0, .int .i64 0] 36))
        have KW103 := Lib.hid (KW102.out.alloc (.cells #[.int .i64 0, .int .i64 0, .int .i64 0, .int .i64 0, .int .i64 0, .string ⟨#[]⟩, .int .i64 0, .bool false, .bool false, .bool false, .int .i64 0, .string ⟨#[]⟩, .slice none 0 0, .int .i64 0, .bool false, .int .i64 0, .int .i64 0, .int .i64 0, .int .i64 0, .bool false, .bool false, .int .i64 0, .int .i64 0, .int .i64 0, .int .i64 0] 36))
        have KG103 := Lib.hid (Blk.new v102 [.int .i64 0, .int .i64 0, .int .i64 0, .int .i64 0, .int .i64 0, .string ⟨#[]⟩, .int .i64 0, .bool false, .bool false, .bool false, .int .i64 0, .string ⟨#[]⟩, .slice none 0 0, .int .i64 0, .bool false, .int .i64 0, .int .i64 0, .int .i64 0, .int .i64 0, .bool false, .bool false, .int .i64 0, .int .i64 0, .int .i64 0, .int .i64 0] 36)
        clear B102 KT102 KO102 KW102
        refine hK.out _ _ ⟨KT103.out, KO103.out⟩ (fun hS => ?_)
        clear hK K
        generalize v102.alloc (.cells #[.int .i64 0, .int .i64 0, .int .i64 0, .int .i64 0, .int .i64 0, .string ⟨#[]⟩, .int .i64 0, .bool false, .bool false, .bool false, .int .i64 0, .string ⟨#[]⟩, .slice none 0 0, .int .i64 0, .bool false, .int .i64 0, .int .i64 0, .int .i64 0, .int .i64 0, .bool false, .bool false, .int .i64 0, .int .i64 0, .int .i64 0, .int .i64 0] 36) = v103 at hS B103 KT103 KO103 KW103 KG103 ⊢
        generalize v102.heap.size = g_G at KG103 l_G n_T_G n_O_G n_W_G ⊢
        refine wpAnyH_ready (rs := [1]) (by kernel_rfl) (by simp) ?_
        refine AllReadyH.cons (i := 1) rfl (fun K hK => ?zy31) AllReadyH.nil
        rw [if_pos (by rfl)]
        go_simp
        clear hS
        refine (toTuple_any p q r _).mono ?_
        rintro e v104 ⟨rfl, hb⟩
        have B104 := Lib.hid (B103.out.trans (hb.mono B103.out.size))
        have KT104 := Lib.hid (KT103.out.below hb)
        have KO104 := Lib.hid (KO103.out.below hb)
        have KW104 := Lib.hid (KW103.out.below hb)
        have KG104 := Lib.hid (KG103.out.below hb)
        clear hb B103 KT103 KO103 KW103 KG103
        refine hK.out _ _ ⟨KT104.out, KO104.out⟩ (fun hS => ?_)
        clear hK K
        refine wpAnyH_ready (rs := [5]) (by kernel_rfl) (by simp) ?_
        refine AllReadyH.cons (i := 5) rfl (fun K hK => ?zy32) AllReadyH.nil
        rw [if_pos (by rfl)]
        go_simp
        clear hS
        refine (toOptions_any m c k s v x _).mono ?_
        rintro e v105 ⟨rfl, hb⟩
        have B105 := Lib.hid (B104.out.trans (hb.mono B104.out.size))
        have KT105 := Lib.hid (KT104.out.below hb)
        have KO105 := Lib.hid (KO104.out.below hb)
        have KW105 := Lib.hid (KW104.out.below hb)
        have KG105 := Lib.hid (KG104.out.below hb)
        clear hb B104 KT104 KO104 KW104 KG104
        refine hK.out _ _ ⟨KT105.out, KO105.out⟩ (fun hS => ?_)
        clear hK K
        refine wpAnyH_ready (rs := [7]) (by kernel_rfl) (by simp) ?_
        refine AllReadyH.cons (i := 7) rfl (fun K hK => ?zy33) AllReadyH.nil
        rw [if_pos (by rfl)]
        go_simp
        clear hS
        refine (NI.out _).mono ?_
        rintro e v106 ⟨rfl, hb⟩
        have B106 := Lib.hid (B105.out.trans (hb.mono B105.out.size))
        have KT106 := Lib.hid (KT105.out.below hb)
        have KO106 := Lib.hid (KO105.out.below hb)
        have KW106 := Lib.hid (KW105.out.below hb)
        have KG106 := Lib.hid (KG105.out.below hb)
        clear hb B105 KT105 KO105 KW105 KG105
        refine hK.out _ _ ⟨KT106.out, KO106.out⟩ (fun hS => ?_)
        clear hK K
        refine wpAnyH_ready (rs := [9]) (by kernel_rfl) (by simp) ?_
        refine AllReadyH.cons (i := 9) rfl (fun K hK => ?zy34) AllReadyH.nil
        rw [if_pos (by rfl)]
        refine wp_store_blk (cs' := [.int .i64 p, .int .i64 q, .int .i64 r, .int .i64 1, .int .i64 i1, .string ⟨#[]⟩, .int .i64 0, .bool false, .bool false, .bool false, .int .i64 j2, .string ⟨#[]⟩, .slice none 0 0, .int .i64 (-1), .bool false, .int .i64 ms, .int .i64 ms, .int .i64 om, .int .i64 oc, .bool ok, .bool os, .int .i64 ov, .int .i64 ox, .int .i64 0, .int .i64 0]) 36 _ _ rfl rfl rfl KG106.out rfl (by kernel_rfl) rfl (fun v107 hB hg => ?_)
        clear hS
        have B107 := Lib.hid (B106.out.trans (grown_below hg l_G B106.out.size))
        have KT107 := Lib.hid (KT106.out.grown hg (n_T_G))
        have KO107 := Lib.hid (KO106.out.grown hg (n_O_G))
        have KW107 := Lib.hid (KW106.out.grown hg (n_W_G))
        have KG107 := Lib.hid hB
        clear hB hg B106 KT106 KO106 KW106 KG106
        refine hK.out _ _ ⟨KT107.out, KO107.out⟩ (fun hS => ?_)
        clear hK K
        refine wpAnyH_done (by kernel_rfl) ?_ _
        refine NoPanic.normal ?_
        go_wp2_with fail
        go_meet
        case rel => exact ⟨g_G, rfl, B107, KT107, KO107, KW107, KG107, ⟨n_T_G, n_O_G, n_W_G, l_G⟩⟩
    case rest =>
      clear B101 KT101 KO101 KW101
      obtain ⟨g_G, rfl, B102, KT102, KO102, KW102, KG102, ⟨n_T_G, n_O_G, n_W_G, l_G⟩⟩ := hcut
      generalize wc = wc_2 at B102 KT102 KO102 KW102 KG102 ⊢
      have HLG := blk_load (P := Try.prog) 36 KG102.out Try.underlying36 rfl (by kernel_rfl)
      have HLW := blk_load (P := Try.prog) 36 KW102.out Try.underlying36 rfl (by kernel_rfl)
      go_wp2_with (first | (refine wpList_load_val rfl _ _ rfl _ _ rfl HLG ?_) | (refine wpList_load_val rfl _ _ rfl _ _ rfl HLW ?_))
      clear HLG HLW
      refine (eqConn_self p q r 1 i1 ⟨#[]⟩ 0 false false false j2 ⟨#[]⟩ none 0 [] (-1) false ms ms om oc ok os ov ox 0 0 none 0 _ Row.nil Row.nil (by simp)).mono ?_
      rintro e v103 ⟨rfl, hb⟩
      have B103 := Lib.hid (B102.out.trans (hb.mono B102.out.size))
      have KT103 := Lib.hid (KT102.out.below hb)
      have KO103 := Lib.hid (KO102.out.below hb)
      have KW103 := Lib.hid (KW102.out.below hb)
      have KG103 := Lib.hid (KG102.out.below hb)
      clear hb B102 KT102 KO102 KW102 KG102
      have HLG := blk_load (P := Try.prog) 36 KG103.out Try.underlying36 rfl (by kernel_rfl)
      go_wp2_with (refine wpList_load_val rfl _ _ rfl _ _ rfl HLG ?_)
      clear HLG
      refine (markConn_none p q r 1 i1 ⟨#[]⟩ 0 false false false j2 ⟨#[]⟩ none 0 (-1) false ms ms om oc ok os ov ox 0 0 1 _).mono ?_
      rintro e v104 ⟨rfl, hb⟩
      have B104 := Lib.hid (B103.out.trans (hb.mono B103.out.size))
      have KT104 := Lib.hid (KT103.out.below hb)
      have KO104 := Lib.hid (KO103.out.below hb)
      have KW104 := Lib.hid (KW103.out.below hb)
      have KG104 := Lib.hid (KG103.out.below hb)
      clear hb B103 KT103 KO103 KW103 KG103
      have HLG := blk_load (P := Try.prog) 36 KG104.out Try.underlying36 rfl (by kernel_rfl)
      go_wp2_with (refine wpList_load_val rfl _ _ rfl _ _ rfl HLG ?_)
      clear HLG
      refine (heldConn_none p q r 1 i1 ⟨#[]⟩ 0 false false false j2 ⟨#[]⟩ none 0 (-1) false ms ms om oc ok os ov ox 0 0 1 _ Row.nil (by decide) (by decide)).mono ?_
      rintro e v105 ⟨rfl, hb⟩
      have B105 := Lib.hid (B104.out.trans (hb.mono B104.out.size))
      have KT105 := Lib.hid (KT104.out.below hb)
      have KO105 := Lib.hid (KO104.out.below hb)
      have KW105 := Lib.hid (KW104.out.below hb)
      have KG105 := Lib.hid (KG104.out.below hb)
      clear hb B104 KT104 KO104 KW104 KG104
      go_upto_region 13 with fail
      go_cut [15] (fun s15 wx => ∃ (g_H : Nat), s15 = .pointer (some ⟨g_H, 0, none⟩) ∧ Hid (Below w.heap.size w wx) ∧ Hid (Blk wx g_T [.int .i64 p, .int .i64 q, .int .i64 r]) ∧ Hid (Blk wx g_O [.int .i64 m, .int .i64 c, .bool k, .bool s, .int .i64 v, .int .i64 x]) ∧ Hid (Blk wx g_W [.int .i64 p, .int .i64 q, .int .i64 r, .int .i64 1, .int .i64 i1, .string ⟨#[]⟩, .int .i64 0, .bool false, .bool false, .bool false, .int .i64 j2, .string ⟨#[]⟩, .slice none 0 0, .int .i64 (-1), .bool false, .int .i64 ms, .int .i64 ms, .int .i64 om, .int .i64 oc, .bool ok, .bool os, .int .i64 ov, .int .i64 ox, .int .i64 0, .int .i64 0]) ∧ Hid (Blk wx g_G [.int .i64 p, .int .i64 q, .int .i64 r, .int .i64 1, .int .i64 i1, .string ⟨#[]⟩, .int .i64 0, .bool false, .bool false, .bool false, .int .i64 j2, .string ⟨#[]⟩, .slice none 0 0, .int .i64 (-1), .bool false, .int .i64 ms, .int .i64 ms, .int .i64 om, .int .i64 oc, .bool ok, .bool os, .int .i64 ov, .int .i64 ox, .int .i64 0, .int .i64 0]) ∧ Hid (Blk wx g_H [.int .i64 p, .int .i64 q, .int .i64 r, .int .i64 1, .int .i64 i1, .string ⟨#[]⟩, .int .i64 0, .bool false, .bool false, .bool false, .int .i64 j2, .string ⟨#[]⟩, .slice none 0 0, .int .i64 (-1), .bool false, .int .i64 ms, .int .i64 ms, .int .i64 om, .int .i64 oc, .bool ok, .bool os, .int .i64 ov, .int .i64 ox, .int .i64 0, .int .i64 0]) ∧ (g_T ≠ g_H ∧ g_O ≠ g_H ∧ g_W ≠ g_H ∧ g_G ≠ g_H ∧ w.heap.size ≤ g_H))
      case first =>
        refine wp_region_noPanic ?_
        refine wp_region_held_drew (S := fun w' => Blk w' g_T [.int .i64 p, .int .i64 q, .int .i64 r] ∧ Blk w' g_O [.int .i64 m, .int .i64 c, .bool k, .bool s, .int .i64 v, .int .i64 x]) (by kernel_rfl) ⟨KT105.out, KO105.out⟩ (fun hS => ?_)
        have B106 := Lib.hid (show Below w.heap.size w v105.drew from B105.out.drew)
        have KT106 := Lib.hid (show Blk v105.drew g_T [.int .i64 p, .int .i64 q, .int .i64 r] from KT105.out.drew)
        have KO106 := Lib.hid (show Blk v105.drew g_O [.int .i64 m, .int .i64 c, .bool k, .bool s, .int .i64 v, .int .i64 x] from KO105.out.drew)
        have KW106 := Lib.hid (show Blk v105.drew g_W [.int .i64 p, .int .i64 q, .int .i64 r, .int .i64 1, .int .i64 i1, .string ⟨#[]⟩, .int .i64 0, .bool false, .bool false, .bool false, .int .i64 j2, .string ⟨#[]⟩, .slice none 0 0, .int .i64 (-1), .bool false, .int .i64 ms, .int .i64 ms, .int .i64 om, .int .i64 oc, .bool ok, .bool os, .int .i64 ov, .int .i64 ox, .int .i64 0, .int .i64 0] from KW105.out.drew)
        have KG106 := Lib.hid (show Blk v105.drew g_G [.int .i64 p, .int .i64 q, .int .i64 r, .int .i64 1, .int .i64 i1, .string ⟨#[]⟩, .int .i64 0, .bool false, .bool false, .bool false, .int .i64 j2, .string ⟨#[]⟩, .slice none 0 0, .int .i64 (-1), .bool false, .int .i64 ms, .int .i64 ms, .int .i64 om, .int .i64 oc, .bool ok, .bool os, .int .i64 ov, .int .i64 ox, .int .i64 0, .int .i64 0] from KG105.out.drew)
        clear hS B105 KT105 KO105 KW105 KG105
        generalize v105.drew = v106 at B106 KT106 KO106 KW106 KG106 ⊢
        have hS : Blk v106 g_T [.int .i64 p, .int .i64 q, .int .i64 r] ∧ Blk v106 g_O [.int .i64 m, .int .i64 c, .bool k, .bool s, .int .i64 v, .int .i64 x] := ⟨KT106.out, KO106.out⟩
        refine wpAnyH_take (i := 0) (v := .agg #[.int .i64 p, .int .i64 q, .int .i64 r]) rfl (by kernel_rfl) (by kernel_rfl) (by kernel_rfl) (fun _ _ _ h => h) (Or.inl ⟨by kernel_rfl, by intro w hS; obtain ⟨⟨h0, h1, h2⟩, _⟩ := hS.1.o3; go_simp⟩) hS ?_
        refine wpAnyH_take (i := 2) (v := .int .i64 i) rfl (by kernel_rfl) (by kernel_rfl) (by kernel_rfl) (fun _ _ _ h => h) (Or.inl ⟨by kernel_rfl, by intro w hS; go_simp⟩) hS ?_
        refine wpAnyH_take (i := 3) (v := .int .i64 j) rfl (by kernel_rfl) (by kernel_rfl) (by kernel_rfl) (fun _ _ _ h => h) (Or.inl ⟨by kernel_rfl, by intro w hS; go_simp⟩) hS ?_
        refine wpAnyH_take (i := 4) (v := .agg #[.int .i64 m, .int .i64 c, .bool k, .bool s, .int .i64 v, .int .i64 x]) rfl (by kernel_rfl) (by kernel_rfl) (by kernel_rfl) (fun _ _ _ h => h) (Or.inl ⟨by kernel_rfl, by intro w hS; obtain ⟨⟨h0, h1, h2, h3, h4, h5⟩, _⟩ := hS.2.of6; go_simp⟩) hS ?_
        refine wpAnyH_take (i := 6) (v := .int .i64 wd) rfl (by kernel_rfl) (by kernel_rfl) (by kernel_rfl) (fun _ _ _ h => h) (Or.inl ⟨by kernel_rfl, by intro w hS; go_simp⟩) hS ?_
        refine wpAnyH_ready (rs := [1, 8]) (by kernel_rfl) (by simp) ?_
        refine AllReadyH.cons (i := 1) rfl (fun K hK => ?zy36) (AllReadyH.cons (i := 8) rfl (fun K hK => ?zy35) AllReadyH.nil)
        · rw [if_pos (by rfl)]
          go_simp
          clear hS
          refine (toTuple_any p q r _).mono ?_
          rintro e v107 ⟨rfl, hb⟩
          have B107 := Lib.hid (B106.out.trans (hb.mono B106.out.size))
          have KT107 := Lib.hid (KT106.out.below hb)
          have KO107 := Lib.hid (KO106.out.below hb)
          have KW107 := Lib.hid (KW106.out.below hb)
          have KG107 := Lib.hid (KG106.out.below hb)
          clear hb B106 KT106 KO106 KW106 KG106
          refine hK.out _ _ ⟨KT107.out, KO107.out⟩ (fun hS => ?_)
          clear hK K
          refine wpAnyH_ready (rs := [5, 8]) (by kernel_rfl) (by simp) ?_
          refine AllReadyH.cons (i := 5) rfl (fun K hK => ?zy38) (AllReadyH.cons (i := 8) rfl (fun K hK => ?zy37) AllReadyH.nil)
          · rw [if_pos (by rfl)]
            go_simp
            clear hS
            refine (toOptions_any m c k s v x _).mono ?_
            rintro e v108 ⟨rfl, hb⟩
            have B108 := Lib.hid (B107.out.trans (hb.mono B107.out.size))
            have KT108 := Lib.hid (KT107.out.below hb)
            have KO108 := Lib.hid (KO107.out.below hb)
            have KW108 := Lib.hid (KW107.out.below hb)
            have KG108 := Lib.hid (KG107.out.below hb)
            clear hb B107 KT107 KO107 KW107 KG107
            refine hK.out _ _ ⟨KT108.out, KO108.out⟩ (fun hS => ?_)
            clear hK K
            refine wpAnyH_ready (rs := [7, 8]) (by kernel_rfl) (by simp) ?_
            refine AllReadyH.cons (i := 7) rfl (fun K hK => ?zy40) (AllReadyH.cons (i := 8) rfl (fun K hK => ?zy39) AllReadyH.nil)
            · rw [if_pos (by rfl)]
              go_simp
              clear hS
              refine (NI.out _).mono ?_
              rintro e v109 ⟨rfl, hb⟩
              have B109 := Lib.hid (B108.out.trans (hb.mono B108.out.size))
              have KT109 := Lib.hid (KT108.out.below hb)
              have KO109 := Lib.hid (KO108.out.below hb)
              have KW109 := Lib.hid (KW108.out.below hb)
              have KG109 := Lib.hid (KG108.out.below hb)
              clear hb B108 KT108 KO108 KW108 KG108
              refine hK.out _ _ ⟨KT109.out, KO109.out⟩ (fun hS => ?_)
              clear hK K
              refine wpAnyH_ready (rs := [8]) (by kernel_rfl) (by simp) ?_
              refine AllReadyH.cons (i := 8) rfl (fun K hK => ?zy41) AllReadyH.nil
              rw [if_pos (by rfl)]
              go_simp
              clear hS
              have B110 := Lib.hid (B109.out.alloc B109.out.size (.cells #[.int .i64 0, .int .i64 0, .int .i64 0, .int .i64 0, .int .i64 0, .string ⟨#[]⟩, .int .i64 0, .bool false, .bool false, .bool false, .int .i64 0, .string ⟨#[]⟩, .slice none 0 0, .int .i64 0, .bool false, .int .i64 0, .int .i64 0, .int .i64 0, .int .i64 0, .bool false, .bool false, .int .i64 0, .int .i64 0, .int .i64 0, .int .i64 0] 36))
              have l_H : w.heap.size ≤ v109.heap.size := B109.out.size
              have n_T_H : g_T ≠ v109.heap.size := by have h1 := KT109.out.lt; omega
              have n_O_H : g_O ≠ v109.heap.size := by have h1 := KO109.out.lt; omega
              have n_W_H : g_W ≠ v109.heap.size := by have h1 := KW109.out.lt; omega
              have n_G_H : g_G ≠ v109.heap.size := by have h1 := KG109.out.lt; omega
              have KT110 := Lib.hid (KT109.out.alloc (.cells #[.int .i64 0, .int .i64 0, .int .i64 0, .int .i64 0, .int .i64 0, .string ⟨#[]⟩, .int .i64 0, .bool false, .bool false, .bool false, .int .i64 0, .string ⟨#[]⟩, .slice none 0 0, .int .i64 0, .bool false, .int .i64 0, .int .i64 0, .int .i64 0, .int .i64 0, .bool false, .bool false, .int .i64 0, .int .i64 0, .int .i64 0, .int .i64 0] 36))
              have KO110 := Lib.hid (KO109.out.alloc (.cells #[.int .i64 0, .int .i64 0, .int .i64 0, .int .i64 0, .int .i64 0, .string ⟨#[]⟩, .int .i64 0, .bool false, .bool false, .bool false, .int .i64 0, .string ⟨#[]⟩, .slice none 0 0, .int .i64 0, .bool false, .int .i64 0, .int .i64 0, .int .i64 0, .int .i64 0, .bool false, .bool false, .int .i64 0, .int .i64 0, .int .i64 0, .int .i64 0] 36))
              have KW110 := Lib.hid (KW109.out.alloc (.cells #[.int .i64 0, .int .i64 0, .int .i64 0, .int .i64 0, .int .i64 0, .string ⟨#[]⟩, .int .i64 0, .bool false, .bool false, .bool false, .int .i64 0, .string ⟨#[]⟩, .slice none 0 0, .int .i64 0, .bool false, .int .i64 0, .int .i64 0, .int .i64 0, .int .i64 0, .bool false, .bool false, .int .i64 0, .int .i64 0, .int .i64 0, .int .i64 0] 36))
              have KG110 := Lib.hid (KG109.out.alloc (.cells #[.int .i64 0, .int .i64 0, .int .i64 0, .int .i64 0, .int .i64 0, .string ⟨#[]⟩, .int .i64 0, .bool false, .bool false, .bool false, .int .i64 0, .string ⟨#[]⟩, .slice none 0 0, .int .i64 0, .bool false, .int .i64 0, .int .i64 0, .int .i64 0, .int .i64 0, .bool false, .bool false, .int .i64 0, .int .i64 0, .int .i64 0, .int .i64 0] 36))
              have KH110 := Lib.hid (Blk.new v109 [.int .i64 0, .int .i64 0, .int .i64 0, .int .i64 0, .int .i64 0, .string ⟨#[]⟩, .int .i64 0, .bool false, .bool false, .bool false, .int .i64 0, .string ⟨#[]⟩, .slice none 0 0, .int .i64 0, .bool false, .int .i64 0, .int .i64 0, .int .i64 0, .int .i64 0, .bool false, .bool false, .int .i64 0, .int .i64 0, .int .i64 0, .int .i64 0] 36)
              clear B109 KT109 KO109 KW109 KG109
              refine hK.out _ _ ⟨KT110.out, KO110.out⟩ (fun hS => ?_)
              clear hK K
              generalize v109.alloc (.cells #[.int .i64 0, .int .i64 0, .int .i64 0, .int .i64 0, .int .i64 0, .string ⟨#[]⟩, .int .i64 0, .bool false, .bool false, .bool false, .int .i64 0, .string ⟨#[]⟩, .slice none 0 0, .int .i64 0, .bool false, .int .i64 0, .int .i64 0, .int .i64 0, .int .i64 0, .bool false, .bool false, .int .i64 0, .int .i64 0, .int .i64 0, .int .i64 0] 36) = v110 at hS B110 KT110 KO110 KW110 KG110 KH110 ⊢
              generalize v109.heap.size = g_H at KH110 l_H n_T_H n_O_H n_W_H n_G_H ⊢
              refine wpAnyH_ready (rs := [9]) (by kernel_rfl) (by simp) ?_
              refine AllReadyH.cons (i := 9) rfl (fun K hK => ?zy42) AllReadyH.nil
              rw [if_pos (by rfl)]
              refine wp_store_blk (cs' := [.int .i64 p, .int .i64 q, .int .i64 r, .int .i64 1, .int .i64 i1, .string ⟨#[]⟩, .int .i64 0, .bool false, .bool false, .bool false, .int .i64 j2, .string ⟨#[]⟩, .slice none 0 0, .int .i64 (-1), .bool false, .int .i64 ms, .int .i64 ms, .int .i64 om, .int .i64 oc, .bool ok, .bool os, .int .i64 ov, .int .i64 ox, .int .i64 0, .int .i64 0]) 36 _ _ rfl rfl rfl KH110.out rfl (by kernel_rfl) rfl (fun v111 hB hg => ?_)
              clear hS
              have B111 := Lib.hid (B110.out.trans (grown_below hg l_H B110.out.size))
              have KT111 := Lib.hid (KT110.out.grown hg (n_T_H))
              have KO111 := Lib.hid (KO110.out.grown hg (n_O_H))
              have KW111 := Lib.hid (KW110.out.grown hg (n_W_H))
              have KG111 := Lib.hid (KG110.out.grown hg (n_G_H))
              have KH111 := Lib.hid hB
              clear hB hg B110 KT110 KO110 KW110 KG110 KH110
              refine hK.out _ _ ⟨KT111.out, KO111.out⟩ (fun hS => ?_)
              clear hK K
              refine wpAnyH_done (by kernel_rfl) ?_ _
              refine NoPanic.normal ?_
              go_wp2_with fail
              go_meet
              case rel => exact ⟨g_H, rfl, B111, KT111, KO111, KW111, KG111, KH111, ⟨n_T_H, n_O_H, n_W_H, n_G_H, l_H⟩⟩
            · rw [if_pos (by rfl)]
              go_simp
              clear hS
              have B109 := Lib.hid (B108.out.alloc B108.out.size (.cells #[.int .i64 0, .int .i64 0, .int .i64 0, .int .i64 0, .int .i64 0, .string ⟨#[]⟩, .int .i64 0, .bool false, .bool false, .bool false, .int .i64 0, .string ⟨#[]⟩, .slice none 0 0, .int .i64 0, .bool false, .int .i64 0, .int .i64 0, .int .i64 0, .int .i64 0, .bool false, .bool false, .int .i64 0, .int .i64 0, .int .i64 0, .int .i64 0] 36))
              have l_H : w.heap.size ≤ v108.heap.size := B108.out.size
              have n_T_H : g_T ≠ v108.heap.size := by have h1 := KT108.out.lt; omega
              have n_O_H : g_O ≠ v108.heap.size := by have h1 := KO108.out.lt; omega
              have n_W_H : g_W ≠ v108.heap.size := by have h1 := KW108.out.lt; omega
              have n_G_H : g_G ≠ v108.heap.size := by have h1 := KG108.out.lt; omega
              have KT109 := Lib.hid (KT108.out.alloc (.cells #[.int .i64 0, .int .i64 0, .int .i64 0, .int .i64 0, .int .i64 0, .string ⟨#[]⟩, .int .i64 0, .bool false, .bool false, .bool false, .int .i64 0, .string ⟨#[]⟩, .slice none 0 0, .int .i64 0, .bool false, .int .i64 0, .int .i64 0, .int .i64 0, .int .i64 0, .bool false, .bool false, .int .i64 0, .int .i64 0, .int .i64 0, .int .i64 0] 36))
              have KO109 := Lib.hid (KO108.out.alloc (.cells #[.int .i64 0, .int .i64 0, .int .i64 0, .int .i64 0, .int .i64 0, .string ⟨#[]⟩, .int .i64 0, .bool false, .bool false, .bool false, .int .i64 0, .string ⟨#[]⟩, .slice none 0 0, .int .i64 0, .bool false, .int .i64 0, .int .i64 0, .int .i64 0, .int .i64 0, .bool false, .bool false, .int .i64 0, .int .i64 0, .int .i64 0, .int .i64 0] 36))
              have KW109 := Lib.hid (KW108.out.alloc (.cells #[.int .i64 0, .int .i64 0, .int .i64 0, .int .i64 0, .int .i64 0, .string ⟨#[]⟩, .int .i64 0, .bool false, .bool false, .bool false, .int .i64 0, .string ⟨#[]⟩, .slice none 0 0, .int .i64 0, .bool false, .int .i64 0, .int .i64 0, .int .i64 0, .int .i64 0, .bool false, .bool false, .int .i64 0, .int .i64 0, .int .i64 0, .int .i64 0] 36))
              have KG109 := Lib.hid (KG108.out.alloc (.cells #[.int .i64 0, .int .i64 0, .int .i64 0, .int .i64 0, .int .i64 0, .string ⟨#[]⟩, .int .i64 0, .bool false, .bool false, .bool false, .int .i64 0, .string ⟨#[]⟩, .slice none 0 0, .int .i64 0, .bool false, .int .i64 0, .int .i64 0, .int .i64 0, .int .i64 0, .bool false, .bool false, .int .i64 0, .int .i64 0, .int .i64 0, .int .i64 0] 36))
              have KH109 := Lib.hid (Blk.new v108 [.int .i64 0, .int .i64 0, .int .i64 0, .int .i64 0, .int .i64 0, .string ⟨#[]⟩, .int .i64 0, .bool false, .bool false, .bool false, .int .i64 0, .string ⟨#[]⟩, .slice none 0 0, .int .i64 0, .bool false, .int .i64 0, .int .i64 0, .int .i64 0, .int .i64 0, .bool false, .bool false, .int .i64 0, .int .i64 0, .int .i64 0, .int .i64 0] 36)
              clear B108 KT108 KO108 KW108 KG108
              refine hK.out _ _ ⟨KT109.out, KO109.out⟩ (fun hS => ?_)
              clear hK K
              generalize v108.alloc (.cells #[.int .i64 0, .int .i64 0, .int .i64 0, .int .i64 0, .int .i64 0, .string ⟨#[]⟩, .int .i64 0, .bool false, .bool false, .bool false, .int .i64 0, .string ⟨#[]⟩, .slice none 0 0, .int .i64 0, .bool false, .int .i64 0, .int .i64 0, .int .i64 0, .int .i64 0, .bool false, .bool false, .int .i64 0, .int .i64 0, .int .i64 0, .int .i64 0] 36) = v109 at hS B109 KT109 KO109 KW109 KG109 KH109 ⊢
              generalize v108.heap.size = g_H at KH109 l_H n_T_H n_O_H n_W_H n_G_H ⊢
              refine wpAnyH_ready (rs := [7]) (by kernel_rfl) (by simp) ?_
              refine AllReadyH.cons (i := 7) rfl (fun K hK => ?zy43) AllReadyH.nil
              rw [if_pos (by rfl)]
              go_simp
              clear hS
              refine (NI.out _).mono ?_
              rintro e v110 ⟨rfl, hb⟩
              have B110 := Lib.hid (B109.out.trans (hb.mono B109.out.size))
              have KT110 := Lib.hid (KT109.out.below hb)
              have KO110 := Lib.hid (KO109.out.below hb)
              have KW110 := Lib.hid (KW109.out.below hb)
              have KG110 := Lib.hid (KG109.out.below hb)
              have KH110 := Lib.hid (KH109.out.below hb)
              clear hb B109 KT109 KO109 KW109 KG109 KH109
              refine hK.out _ _ ⟨KT110.out, KO110.out⟩ (fun hS => ?_)
              clear hK K
              refine wpAnyH_ready (rs := [9]) (by kernel_rfl) (by simp) ?_
              refine AllReadyH.cons (i := 9) rfl (fun K hK => ?zy44) AllReadyH.nil
              rw [if_pos (by rfl)]
              refine wp_store_blk (cs' := [.int .i64 p, .int .i64 q, .int .i64 r, .int .i64 1, .int .i64 i1, .string ⟨#[]⟩, .int .i64 0, .bool false, .bool false, .bool false, .int .i64 j2, .string ⟨#[]⟩, .slice none 0 0, .int .i64 (-1), .bool false, .int .i64 ms, .int .i64 ms, .int .i64 om, .int .i64 oc, .bool ok, .bool os, .int .i64 ov, .int .i64 ox, .int .i64 0, .int .i64 0]) 36 _ _ rfl rfl rfl KH110.out rfl (by kernel_rfl) rfl (fun v111 hB hg => ?_)
              clear hS
              have B111 := Lib.hid (B110.out.trans (grown_below hg l_H B110.out.size))
              have KT111 := Lib.hid (KT110.out.grown hg (n_T_H))
              have KO111 := Lib.hid (KO110.out.grown hg (n_O_H))
              have KW111 := Lib.hid (KW110.out.grown hg (n_W_H))
              have KG111 := Lib.hid (KG110.out.grown hg (n_G_H))
              have KH111 := Lib.hid hB
              clear hB hg B110 KT110 KO110 KW110 KG110 KH110
              refine hK.out _ _ ⟨KT111.out, KO111.out⟩ (fun hS => ?_)
              clear hK K
              refine wpAnyH_done (by kernel_rfl) ?_ _
              refine NoPanic.normal ?_
              go_wp2_with fail
              go_meet
              case rel => exact ⟨g_H, rfl, B111, KT111, KO111, KW111, KG111, KH111, ⟨n_T_H, n_O_H, n_W_H, n_G_H, l_H⟩⟩
          · rw [if_pos (by rfl)]
            go_simp
            clear hS
            have B108 := Lib.hid (B107.out.alloc B107.out.size (.cells #[.int .i64 0, .int .i64 0, .int .i64 0, .int .i64 0, .int .i64 0, .string ⟨#[]⟩, .int .i64 0, .bool false, .bool false, .bool false, .int .i64 0, .string ⟨#[]⟩, .slice none 0 0, .int .i64 0, .bool false, .int .i64 0, .int .i64 0, .int .i64 0, .int .i64 0, .bool false, .bool false, .int .i64 0, .int .i64 0, .int .i64 0, .int .i64 0] 36))
            have l_H : w.heap.size ≤ v107.heap.size := B107.out.size
            have n_T_H : g_T ≠ v107.heap.size := by have h1 := KT107.out.lt; omega
            have n_O_H : g_O ≠ v107.heap.size := by have h1 := KO107.out.lt; omega
            have n_W_H : g_W ≠ v107.heap.size := by have h1 := KW107.out.lt; omega
            have n_G_H : g_G ≠ v107.heap.size := by have h1 := KG107.out.lt; omega
            have KT108 := Lib.hid (KT107.out.alloc (.cells #[.int .i64 0, .int .i64 0, .int .i64 0, .int .i64 0, .int .i64 0, .string ⟨#[]⟩, .int .i64 0, .bool false, .bool false, .bool false, .int .i64 0, .string ⟨#[]⟩, .slice none 0 0, .int .i64 0, .bool false, .int .i64 0, .int .i64 0, .int .i64 0, .int .i64 0, .bool false, .bool false, .int .i64 0, .int .i64 0, .int .i64 0, .int .i64 0] 36))
            have KO108 := Lib.hid (KO107.out.alloc (.cells #[.int .i64 0, .int .i64 0, .int .i64 0, .int .i64 0, .int .i64 0, .string ⟨#[]⟩, .int .i64 0, .bool false, .bool false, .bool false, .int .i64 0, .string ⟨#[]⟩, .slice none 0 0, .int .i64 0, .bool false, .int .i64 0, .int .i64 0, .int .i64 0, .int .i64 0, .bool false, .bool false, .int .i64 0, .int .i64 0, .int .i64 0, .int .i64 0] 36))
            have KW108 := Lib.hid (KW107.out.alloc (.cells #[.int .i64 0, .int .i64 0, .int .i64 0, .int .i64 0, .int .i64 0, .string ⟨#[]⟩, .int .i64 0, .bool false, .bool false, .bool false, .int .i64 0, .string ⟨#[]⟩, .slice none 0 0, .int .i64 0, .bool false, .int .i64 0, .int .i64 0, .int .i64 0, .int .i64 0, .bool false, .bool false, .int .i64 0, .int .i64 0, .int .i64 0, .int .i64 0] 36))
            have KG108 := Lib.hid (KG107.out.alloc (.cells #[.int .i64 0, .int .i64 0, .int .i64 0, .int .i64 0, .int .i64 0, .string ⟨#[]⟩, .int .i64 0, .bool false, .bool false, .bool false, .int .i64 0, .string ⟨#[]⟩, .slice none 0 0, .int .i64 0, .bool false, .int .i64 0, .int .i64 0, .int .i64 0, .int .i64 0, .bool false, .bool false, .int .i64 0, .int .i64 0, .int .i64 0, .int .i64 0] 36))
            have KH108 := Lib.hid (Blk.new v107 [.int .i64 0, .int .i64 0, .int .i64 0, .int .i64 0, .int .i64 0, .string ⟨#[]⟩, .int .i64 0, .bool false, .bool false, .bool false, .int .i64 0, .string ⟨#[]⟩, .slice none 0 0, .int .i64 0, .bool false, .int .i64 0, .int .i64 0, .int .i64 0, .int .i64 0, .bool false, .bool false, .int .i64 0, .int .i64 0, .int .i64 0, .int .i64 0] 36)
            clear B107 KT107 KO107 KW107 KG107
            refine hK.out _ _ ⟨KT108.out, KO108.out⟩ (fun hS => ?_)
            clear hK K
            generalize v107.alloc (.cells #[.int .i64 0, .int .i64 0, .int .i64 0, .int .i64 0, .int .i64 0, .string ⟨#[]⟩, .int .i64 0, .bool false, .bool false, .bool false, .int .i64 0, .string ⟨#[]⟩, .slice none 0 0, .int .i64 0, .bool false, .int .i64 0, .int .i64 0, .int .i64 0, .int .i64 0, .bool false, .bool false, .int .i64 0, .int .i64 0, .int .i64 0, .int .i64 0] 36) = v108 at hS B108 KT108 KO108 KW108 KG108 KH108 ⊢
            generalize v107.heap.size = g_H at KH108 l_H n_T_H n_O_H n_W_H n_G_H ⊢
            refine wpAnyH_ready (rs := [5]) (by kernel_rfl) (by simp) ?_
            refine AllReadyH.cons (i := 5) rfl (fun K hK => ?zy45) AllReadyH.nil
            rw [if_pos (by rfl)]
            go_simp
            clear hS
            refine (toOptions_any m c k s v x _).mono ?_
            rintro e v109 ⟨rfl, hb⟩
            have B109 := Lib.hid (B108.out.trans (hb.mono B108.out.size))
            have KT109 := Lib.hid (KT108.out.below hb)
            have KO109 := Lib.hid (KO108.out.below hb)
            have KW109 := Lib.hid (KW108.out.below hb)
            have KG109 := Lib.hid (KG108.out.below hb)
            have KH109 := Lib.hid (KH108.out.below hb)
            clear hb B108 KT108 KO108 KW108 KG108 KH108
            refine hK.out _ _ ⟨KT109.out, KO109.out⟩ (fun hS => ?_)
            clear hK K
            refine wpAnyH_ready (rs := [7]) (by kernel_rfl) (by simp) ?_
            refine AllReadyH.cons (i := 7) rfl (fun K hK => ?zy46) AllReadyH.nil
            rw [if_pos (by rfl)]
            go_simp
            clear hS
            refine (NI.out _).mono ?_
            rintro e v110 ⟨rfl, hb⟩
            have B110 := Lib.hid (B109.out.trans (hb.mono B109.out.size))
            have KT110 := Lib.hid (KT109.out.below hb)
            have KO110 := Lib.hid (KO109.out.below hb)
            have KW110 := Lib.hid (KW109.out.below hb)
            have KG110 := Lib.hid (KG109.out.below hb)
            have KH110 := Lib.hid (KH109.out.below hb)
            clear hb B109 KT109 KO109 KW109 KG109 KH109
            refine hK.out _ _ ⟨KT110.out, KO110.out⟩ (fun hS => ?_)
            clear hK K
            refine wpAnyH_ready (rs := [9]) (by kernel_rfl) (by simp) ?_
            refine AllReadyH.cons (i := 9) rfl (fun K hK => ?zy47) AllReadyH.nil
            rw [if_pos (by rfl)]
            refine wp_store_blk (cs' := [.int .i64 p, .int .i64 q, .int .i64 r, .int .i64 1, .int .i64 i1, .string ⟨#[]⟩, .int .i64 0, .bool false, .bool false, .bool false, .int .i64 j2, .string ⟨#[]⟩, .slice none 0 0, .int .i64 (-1), .bool false, .int .i64 ms, .int .i64 ms, .int .i64 om, .int .i64 oc, .bool ok, .bool os, .int .i64 ov, .int .i64 ox, .int .i64 0, .int .i64 0]) 36 _ _ rfl rfl rfl KH110.out rfl (by kernel_rfl) rfl (fun v111 hB hg => ?_)
            clear hS
            have B111 := Lib.hid (B110.out.trans (grown_below hg l_H B110.out.size))
            have KT111 := Lib.hid (KT110.out.grown hg (n_T_H))
            have KO111 := Lib.hid (KO110.out.grown hg (n_O_H))
            have KW111 := Lib.hid (KW110.out.grown hg (n_W_H))
            have KG111 := Lib.hid (KG110.out.grown hg (n_G_H))
            have KH111 := Lib.hid hB
            clear hB hg B110 KT110 KO110 KW110 KG110 KH110
            refine hK.out _ _ ⟨KT111.out, KO111.out⟩ (fun hS => ?_)
            clear hK K
            refine wpAnyH_done (by kernel_rfl) ?_ _
            refine NoPanic.normal ?_
            go_wp2_with fail
            go_meet
            case rel => exact ⟨g_H, rfl, B111, KT111, KO111, KW111, KG111, KH111, ⟨n_T_H, n_O_H, n_W_H, n_G_H, l_H⟩⟩
        · rw [if_pos (by rfl)]
          go_simp
          clear hS
          have B107 := Lib.hid (B106.out.alloc B106.out.size (.cells #[.int .i64 0, .int .i64 0, .int .i64 0, .int .i64 0, .int .i64 0, .string ⟨#[]⟩, .int .i64 0, .bool false, .bool false, .bool false, .int .i64 0, .string ⟨#[]⟩, .slice none 0 0, .int .i64 0, .bool false, .int .i64 0, .int .i64 0, .int .i64 0, .int .i64 0, .bool false, .bool false, .int .i64 0, .int .i64 0, .int .i64 0, .int .i64 0] 36))
          have l_H : w.heap.size ≤ v106.heap.size := B106.out.size
          have n_T_H : g_T ≠ v106.heap.size := by have h1 := KT106.out.lt; omega
          have n_O_H : g_O ≠ v106.heap.size := by have h1 := KO106.out.lt; omega
          have n_W_H : g_W ≠ v106.heap.size := by have h1 := KW106.out.lt; omega
          have n_G_H : g_G ≠ v106.heap.size := by have h1 := KG106.out.lt; omega
          have KT107 := Lib.hid (KT106.out.alloc (.cells #[.int .i64 0, .int .i64 0, .int .i64 0, .int .i64 0, .int .i64 0, .string ⟨#[]⟩, .int .i64 0, .bool false, .bool false, .bool false, .int .i64 0, .string ⟨#[]⟩, .slice none 0 0, .int .i64 0, .bool false, .int .i64 0, .int .i64 0, .int .i64 0, .int .i64 0, .bool false, .bool false, .int .i64 0, .int .i64 0, .int .i64 0, .int .i64 0] 36))
          have KO107 := Lib.hid (KO106.out.alloc (.cells #[.int .i64 0, .int .i64 0, .int .i64 0, .int .i64 0, .int .i64 0, .string ⟨#[]⟩, .int .i64 0, .bool false, .bool false, .bool false, .int .i64 0, .string ⟨#[]⟩, .slice none 0 0, .int .i64 0, .bool false, .int .i64 0, .int .i64 0, .int .i64 0, .int .i64 0, .bool false, .bool false, .int .i64 0, .int .i64 0, .int .i64 0, .int .i64 0] 36))
          have KW107 := Lib.hid (KW106.out.alloc (.cells #[.int .i64 0, .int .i64 0, .int .i64 0, .int .i64 0, .int .i64 0, .string ⟨#[]⟩, .int .i64 0, .bool false, .bool false, .bool false, .int .i64 0, .string ⟨#[]⟩, .slice none 0 0, .int .i64 0, .bool false, .int .i64 0, .int .i64 0, .int .i64 0, .int .i64 0, .bool false, .bool false, .int .i64 0, .int .i64 0, .int .i64 0, .int .i64 0] 36))
          have KG107 := Lib.hid (KG106.out.alloc (.cells #[.int .i64 0, .int .i64 0, .int .i64 0, .int .i64 0, .int .i64 0, .string ⟨#[]⟩, .int .i64 0, .bool false, .bool false, .bool false, .int .i64 0, .string ⟨#[]⟩, .slice none 0 0, .int .i64 0, .bool false, .int .i64 0, .int .i64 0, .int .i64 0, .int .i64 0, .bool false, .bool false, .int .i64 0, .int .i64 0, .int .i64 0, .int .i64 0] 36))
          have KH107 := Lib.hid (Blk.new v106 [.int .i64 0, .int .i64 0, .int .i64 0, .int .i64 0, .int .i64 0, .string ⟨#[]⟩, .int .i64 0, .bool false, .bool false, .bool false, .int .i64 0, .string ⟨#[]⟩, .slice none 0 0, .int .i64 0, .bool false, .int .i64 0, .int .i64 0, .int .i64 0, .int .i64 0, .bool false, .bool false, .int .i64 0, .int .i64 0, .int .i64 0, .int .i64 0] 36)
          clear B106 KT106 KO106 KW106 KG106
          refine hK.out _ _ ⟨KT107.out, KO107.out⟩ (fun hS => ?_)
          clear hK K
          generalize v106.alloc (.cells #[.int .i64 0, .int .i64 0, .int .i64 0, .int .i64 0, .int .i64 0, .string ⟨#[]⟩, .int .i64 0, .bool false, .bool false, .bool false, .int .i64 0, .string ⟨#[]⟩, .slice none 0 0, .int .i64 0, .bool false, .int .i64 0, .int .i64 0, .int .i64 0, .int .i64 0, .bool false, .bool false, .int .i64 0, .int .i64 0, .int .i64 0, .int .i64 0] 36) = v107 at hS B107 KT107 KO107 KW107 KG107 KH107 ⊢
          generalize v106.heap.size = g_H at KH107 l_H n_T_H n_O_H n_W_H n_G_H ⊢
          refine wpAnyH_ready (rs := [1]) (by kernel_rfl) (by simp) ?_
          refine AllReadyH.cons (i := 1) rfl (fun K hK => ?zy48) AllReadyH.nil
          rw [if_pos (by rfl)]
          go_simp
          clear hS
          refine (toTuple_any p q r _).mono ?_
          rintro e v108 ⟨rfl, hb⟩
          have B108 := Lib.hid (B107.out.trans (hb.mono B107.out.size))
          have KT108 := Lib.hid (KT107.out.below hb)
          have KO108 := Lib.hid (KO107.out.below hb)
          have KW108 := Lib.hid (KW107.out.below hb)
          have KG108 := Lib.hid (KG107.out.below hb)
          have KH108 := Lib.hid (KH107.out.below hb)
          clear hb B107 KT107 KO107 KW107 KG107 KH107
          refine hK.out _ _ ⟨KT108.out, KO108.out⟩ (fun hS => ?_)
          clear hK K
          refine wpAnyH_ready (rs := [5]) (by kernel_rfl) (by simp) ?_
          refine AllReadyH.cons (i := 5) rfl (fun K hK => ?zy49) AllReadyH.nil
          rw [if_pos (by rfl)]
          go_simp
          clear hS
          refine (toOptions_any m c k s v x _).mono ?_
          rintro e v109 ⟨rfl, hb⟩
          have B109 := Lib.hid (B108.out.trans (hb.mono B108.out.size))
          have KT109 := Lib.hid (KT108.out.below hb)
          have KO109 := Lib.hid (KO108.out.below hb)
          have KW109 := Lib.hid (KW108.out.below hb)
          have KG109 := Lib.hid (KG108.out.below hb)
          have KH109 := Lib.hid (KH108.out.below hb)
          clear hb B108 KT108 KO108 KW108 KG108 KH108
          refine hK.out _ _ ⟨KT109.out, KO109.out⟩ (fun hS => ?_)
          clear hK K
          refine wpAnyH_ready (rs := [7]) (by kernel_rfl) (by simp) ?_
          refine AllReadyH.cons (i := 7) rfl (fun K hK => ?zy50) AllReadyH.nil
          rw [if_pos (by rfl)]
          go_simp
          clear hS
          refine (NI.out _).mono ?_
          rintro e v110 ⟨rfl, hb⟩
          have B110 := Lib.hid (B109.out.trans (hb.mono B109.out.size))
          have KT110 := Lib.hid (KT109.out.below hb)
          have KO110 := Lib.hid (KO109.out.below hb)
          have KW110 := Lib.hid (KW109.out.below hb)
          have KG110 := Lib.hid (KG109.out.below hb)
          have KH110 := Lib.hid (KH109.out.below hb)
          clear hb B109 KT109 KO109 KW109 KG109 KH109
          refine hK.out _ _ ⟨KT110.out, KO110.out⟩ (fun hS => ?_)
          clear hK K
          refine wpAnyH_ready (rs := [9]) (by kernel_rfl) (by simp) ?_
          refine AllReadyH.cons (i := 9) rfl (fun K hK => ?zy51) AllReadyH.nil
          rw [if_pos (by rfl)]
          refine wp_store_blk (cs' := [.int .i64 p, .int .i64 q, .int .i64 r, .int .i64 1, .int .i64 i1, .string ⟨#[]⟩, .int .i64 0, .bool false, .bool false, .bool false, .int .i64 j2, .string ⟨#[]⟩, .slice none 0 0, .int .i64 (-1), .bool false, .int .i64 ms, .int .i64 ms, .int .i64 om, .int .i64 oc, .bool ok, .bool os, .int .i64 ov, .int .i64 ox, .int .i64 0, .int .i64 0]) 36 _ _ rfl rfl rfl KH110.out rfl (by kernel_rfl) rfl (fun v111 hB hg => ?_)
          clear hS
          have B111 := Lib.hid (B110.out.trans (grown_below hg l_H B110.out.size))
          have KT111 := Lib.hid (KT110.out.grown hg (n_T_H))
          have KO111 := Lib.hid (KO110.out.grown hg (n_O_H))
          have KW111 := Lib.hid (KW110.out.grown hg (n_W_H))
          have KG111 := Lib.hid (KG110.out.grown hg (n_G_H))
          have KH111 := Lib.hid hB
          clear hB hg B110 KT110 KO110 KW110 KG110 KH110
          refine hK.out _ _ ⟨KT111.out, KO111.out⟩ (fun hS => ?_)
          clear hK K
          refine wpAnyH_done (by kernel_rfl) ?_ _
          refine NoPanic.normal ?_
          go_wp2_with fail
          go_meet
          case rel => exact ⟨g_H, rfl, B111, KT111, KO111, KW111, KG111, KH111, ⟨n_T_H, n_O_H, n_W_H, n_G_H, l_H⟩⟩
      case rest =>
        clear B105 KT105 KO105 KW105 KG105
        obtain ⟨g_H, rfl, B113, KT113, KO113, KW113, KG113, KH113, ⟨n_T_H, n_O_H, n_W_H, n_G_H, l_H⟩⟩ := hcut
        generalize wc = wc_13 at B113 KT113 KO113 KW113 KG113 KH113 ⊢
        have HLH := blk_load (P := Try.prog) 36 KH113.out Try.underlying36 rfl (by kernel_rfl)
        have HLW := blk_load (P := Try.prog) 36 KW113.out Try.underlying36 rfl (by kernel_rfl)
        go_wp2_with (first | (refine wpList_load_val rfl _ _ rfl _ _ rfl HLH ?_) | (refine wpList_load_val rfl _ _ rfl _ _ rfl HLW ?_))
        clear HLH HLW
        refine (eqConn_self p q r 1 i1 ⟨#[]⟩ 0 false false false j2 ⟨#[]⟩ none 0 [] (-1) false ms ms om oc ok os ov ox 0 0 none 0 _ Row.nil Row.nil (by simp)).mono ?_
        rintro e v114 ⟨rfl, hb⟩
        have B114 := Lib.hid (B113.out.trans (hb.mono B113.out.size))
        have KT114 := Lib.hid (KT113.out.below hb)
        have KO114 := Lib.hid (KO113.out.below hb)
        have KW114 := Lib.hid (KW113.out.below hb)
        have KG114 := Lib.hid (KG113.out.below hb)
        have KH114 := Lib.hid (KH113.out.below hb)
        clear hb B113 KT113 KO113 KW113 KG113 KH113
        have HLG := blk_load (P := Try.prog) 36 KG114.out Try.underlying36 rfl (by kernel_rfl)
        go_wp2_with (refine wpList_load_val rfl _ _ rfl _ _ rfl HLG ?_)
        clear HLG
        refine (heldConn_none p q r 1 i1 ⟨#[]⟩ 0 false false false j2 ⟨#[]⟩ none 0 (-1) false ms ms om oc ok os ov ox 0 0 1 _ Row.nil (by decide) (by decide)).mono ?_
        rintro e v115 ⟨rfl, hb⟩
        have B115 := Lib.hid (B114.out.trans (hb.mono B114.out.size))
        have KT115 := Lib.hid (KT114.out.below hb)
        have KO115 := Lib.hid (KO114.out.below hb)
        have KW115 := Lib.hid (KW114.out.below hb)
        have KG115 := Lib.hid (KG114.out.below hb)
        have KH115 := Lib.hid (KH114.out.below hb)
        clear hb B114 KT114 KO114 KW114 KG114 KH114
        go_wp2_with fail
        go_ret
        exact ⟨rfl, B115.out⟩

theorem walk (p q r i j m c : Int) (k s : Bool) (v x wd : Int) (_ : (Lit.int .i64 p).wf = true) (_ : (Lit.int .i64 q).wf = true) (_ : (Lit.int .i64 r).wf = true) (_ : (Lit.int .i64 i).wf = true) (_ : (Lit.int .i64 j).wf = true) (_ : (Lit.int .i64 m).wf = true) (_ : (Lit.int .i64 c).wf = true) (_ : True) (_ : True) (_ : (Lit.int .i64 v).wf = true) (_ : (Lit.int .i64 x).wf = true) (_ : (Lit.int .i64 wd).wf = true) (w : World) :
    Calls Try.prog 4 #[.agg #[.int .i64 p, .int .i64 q, .int .i64 r], .int .i64 i, .int .i64 j, .agg #[.int .i64 m, .int .i64 c, .bool k, .bool s, .int .i64 v, .int .i64 x], .int .i64 wd] w (OkB w) := go p q r i j m c k s v x wd w
theorem own : ownKnob Try.prog.godebug = none := by kernel_rfl
theorem laidOut : laidOutB Try.prog = true := by kernel_rfl

set_option maxRecDepth 100000 in
theorem opened0 {H : Type} {enc : TypeId × Value → H} {W : World} {base : Nat} {spare : Nat → Bool} {held : Bool} {r : Reach} {b0 : Nat} {v : Value} {d : DataW H} {p : List MemPlace}
    (hv : Value.okWide Try.prog W r b0 47 v) (h : DataW.Trod enc Try.prog W base spare held 47 v d p) : ∃ (x0 : Int) (x1 : Int) (x2 : Int), v = .agg #[.int .i64 x0, .int .i64 x1, .int .i64 x2] ∧ (Lit.int .i64 x0).wf = true ∧ (Lit.int .i64 x1).wf = true ∧ (Lit.int .i64 x2).wf = true := by
  obtain ⟨cs, n, rfl, hl, hf⟩ := open_flat Try.underlying47 (by kernel_rfl) (by kernel_rfl) hv h
  match cs, hl with
  | [c0, c1, c2], _ =>
    obtain ⟨_, t0⟩ := hf 0 _ rfl
    obtain ⟨x0, e0, _, w0⟩ := DataW.trod_int Try.underlying3 t0
    obtain rfl : c0 = .int .i64 x0 := (List.cons.inj e0).1
    obtain ⟨_, t1⟩ := hf 1 _ rfl
    obtain ⟨x1, e1, _, w1⟩ := DataW.trod_int Try.underlying3 t1
    obtain rfl : c1 = .int .i64 x1 := (List.cons.inj e1).1
    obtain ⟨_, t2⟩ := hf 2 _ rfl
    obtain ⟨x2, e2, _, w2⟩ := DataW.trod_int Try.underlying3 t2
    obtain rfl : c2 = .int .i64 x2 := (List.cons.inj e2).1
    exact ⟨_, _, _, rfl, w0, w1, w2⟩

set_option maxRecDepth 100000 in
theorem opened3 {H : Type} {enc : TypeId × Value → H} {W : World} {base : Nat} {spare : Nat → Bool} {held : Bool} {r : Reach} {b0 : Nat} {v : Value} {d : DataW H} {p : List MemPlace}
    (hv : Value.okWide Try.prog W r b0 48 v) (h : DataW.Trod enc Try.prog W base spare held 48 v d p) : ∃ (x0 : Int) (x1 : Int) (x2 : Bool) (x3 : Bool) (x4 : Int) (x5 : Int), v = .agg #[.int .i64 x0, .int .i64 x1, .bool x2, .bool x3, .int .i64 x4, .int .i64 x5] ∧ (Lit.int .i64 x0).wf = true ∧ (Lit.int .i64 x1).wf = true ∧ True ∧ True ∧ (Lit.int .i64 x4).wf = true ∧ (Lit.int .i64 x5).wf = true := by
  obtain ⟨cs, n, rfl, hl, hf⟩ := open_flat Try.underlying48 (by kernel_rfl) (by kernel_rfl) hv h
  match cs, hl with
  | [c0, c1, c2, c3, c4, c5], _ =>
    obtain ⟨_, t0⟩ := hf 0 _ rfl
    obtain ⟨x0, e0, _, w0⟩ := DataW.trod_int Try.underlying3 t0
    obtain rfl : c0 = .int .i64 x0 := (List.cons.inj e0).1
    obtain ⟨_, t1⟩ := hf 1 _ rfl
    obtain ⟨x1, e1, _, w1⟩ := DataW.trod_int Try.underlying3 t1
    obtain rfl : c1 = .int .i64 x1 := (List.cons.inj e1).1
    obtain ⟨_, t2⟩ := hf 2 _ rfl
    obtain ⟨x2, e2, _⟩ := DataW.trod_bool Try.underlying4 t2
    have w2 := trivial
    obtain rfl : c2 = .bool x2 := (List.cons.inj e2).1
    obtain ⟨_, t3⟩ := hf 3 _ rfl
    obtain ⟨x3, e3, _⟩ := DataW.trod_bool Try.underlying4 t3
    have w3 := trivial
    obtain rfl : c3 = .bool x3 := (List.cons.inj e3).1
    obtain ⟨_, t4⟩ := hf 4 _ rfl
    obtain ⟨x4, e4, _, w4⟩ := DataW.trod_int Try.underlying3 t4
    obtain rfl : c4 = .int .i64 x4 := (List.cons.inj e4).1
    obtain ⟨_, t5⟩ := hf 5 _ rfl
    obtain ⟨x5, e5, _, w5⟩ := DataW.trod_int Try.underlying3 t5
    obtain rfl : c5 = .int .i64 x5 := (List.cons.inj e5).1
    exact ⟨_, _, _, _, _, _, rfl, w0, w1, w2, w3, w4, w5⟩

set_option maxRecDepth 100000 in
theorem lifted (os : Os) (started : os.Started) (H : Type) (enc : TypeId × Value → H) :
    ReturnsInHanded {} Try.checked os 4 .any (Rows.fnExactConnNewSpec.pre6 enc Try.prog Try.f4 Rows.fnExactConnNewRow.domain false) (Rows.fnExactConnNewSpec.post enc Try.prog Try.f4 false true false false) := by
  refine returnsInHanded_of_change (C := Try.checked) own started (by kernel_rfl) Try.func4
    (ChangeSpec.witness6 (enc := enc) (C := Try.checked) false ⟨#[], #[.agg #[.int .i64 0, .int .i64 0, .int .i64 0], .int .i64 0, .int .i64 0, .agg #[.int .i64 0, .int .i64 0, .bool false, .bool false, .int .i64 0, .int .i64 0], .int .i64 0], []⟩ 8 (by kernel_rfl) (by kernel_rfl) (by kernel_rfl) (by kernel_rfl)) ?_
  intro W base args ds gs before hval0 hW _ _
  have hval : ∀ (j : Nat) t v, Try.f4.params[j]? = some t → args[j]? = some v → Value.okWide Try.prog W .any base t v := hval0
  have hW' := hW
  obtain ⟨p, q, hA0, hV, rfl, _, _⟩ := hW
  have hA : DataW.TrodAll enc Try.prog W 0 (fun _ => true) true Try.f4.params.toList args.toList ds p := hA0
  rw [Try.params4] at hA hval
  obtain ⟨v0, vs0, d0, ds0, p0, q0, hargs, rfl, rfl, h0, r0⟩ := trodAll_cons hA
  obtain ⟨v1, vs1, d1, ds1, p1, q1, rfl, rfl, rfl, h1, r1⟩ := trodAll_cons r0
  obtain ⟨v2, vs2, d2, ds2, p2, q2, rfl, rfl, rfl, h2, r2⟩ := trodAll_cons r1
  obtain ⟨v3, vs3, d3, ds3, p3, q3, rfl, rfl, rfl, h3, r3⟩ := trodAll_cons r2
  obtain ⟨v4, vs4, d4, ds4, p4, q4, rfl, rfl, rfl, h4, r4⟩ := trodAll_cons r3
  obtain ⟨rfl, rfl, rfl⟩ := trodAll_nil r4
  obtain rfl : args = #[v0, v1, v2, v3, v4] := by cases args; simp_all
  obtain ⟨rfl, rfl⟩ := trodVars_none hV
  obtain ⟨a0_0, a0_1, a0_2, rfl, w0_0, w0_1, w0_2⟩ := opened0 (hval 0 47 v0 rfl rfl) h0
  have k0 := h0
  have lt0 : ∀ x ∈ p0, x.block < W.heap.size := by obtain ⟨m, hm⟩ := k0; exact DataW.trod_lt m _ _ _ hm
  obtain ⟨a1, rfl, rfl, rfl, w1⟩ := open_int Try.underlying3 (hval 1 3 v1 rfl rfl) h1
  obtain ⟨a2, rfl, rfl, rfl, w2⟩ := open_int Try.underlying3 (hval 2 3 v2 rfl rfl) h2
  obtain ⟨a3_0, a3_1, a3_2, a3_3, a3_4, a3_5, rfl, w3_0, w3_1, w3_2, w3_3, w3_4, w3_5⟩ := opened3 (hval 3 48 v3 rfl rfl) h3
  have k3 := h3
  have lt3 : ∀ x ∈ p3, x.block < W.heap.size := by obtain ⟨m, hm⟩ := k3; exact DataW.trod_lt m _ _ _ hm
  obtain ⟨a4, rfl, rfl, rfl, w4⟩ := open_int Try.underlying3 (hval 4 3 v4 rfl rfl) h4
  clear hA0 hval0
  refine (walk a0_0 a0_1 a0_2 a1 a2 a3_0 a3_1 a3_2 a3_3 a3_4 a3_5 a4 w0_0 w0_1 w0_2 w1 w2 w3_0 w3_1 w3_2 w3_3 w3_4 w3_5 w4 W).mono fun e W' ⟨he, bel⟩ => ?_
  subst he
  exact ⟨_, rfl, _, _, _, [], _, [], hW', trodAll_mk1 (shut_bool Try.underlying4 _), (trodAll_cons_mk (Below.trod laidOut (by kernel_rfl) (of_decide_eq_true (by kernel_rfl)) k0 bel lt0) (trodAll_cons_mk (shut_int Try.underlying3 w1) (trodAll_cons_mk (shut_int Try.underlying3 w2) (trodAll_cons_mk (Below.trod laidOut (by kernel_rfl) (of_decide_eq_true (by kernel_rfl)) k3 bel lt3) (trodAll_cons_mk (shut_int Try.underlying3 w4) trodAll_mk0))))), rfl, bel.frame _, fun h => by cases h⟩

theorem over : Rows.fnExactConnNewRow.holds Try.pinned (OpenSpec.ofChange Rows.fnExactConnNewSpec) :=
  OpenClaim.holds_of_wide 4 Try.f4 rfl rfl rfl rfl rfl rfl rfl ⟨rfl, rfl, rfl, rfl, rfl⟩ rfl rfl rfl rfl rfl (by kernel_rfl) Try.func4 (by kernel_rfl)
    (of_decide_eq_true (by kernel_rfl)) (by unfold Func.isWrapper; first | (rw [if_pos (by decide +kernel)]; kernel_rfl) | (rw [if_neg (by decide +kernel)]; exact ⟨rfl, rfl⟩))
    (fun os started H enc _ => lifted os started H enc)

theorem proved : Rows.FnExactConnNewSaid := over
#print axioms proved
end Go.Proofs.Ytajekjjaaohbnaa.fnExactConnNew
