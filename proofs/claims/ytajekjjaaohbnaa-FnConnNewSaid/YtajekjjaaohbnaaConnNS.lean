/- ConnNew of the model. Nothing here is a claim. -/
import Derived.Test.YtajekjjaaohbnaaConnNK
import Derived.Test.YtajekjjaaohbnaaBulk2
import Derived.Test.YtajekjjaaohbnaaSndPos
import Derived.Test.YtajekjjaaohbnaaRcvOkI
import Derived.Test.YtajekjjaaohbnaaRcvOkS
import Derived.Test.YtajekjjaaohbnaaRcvNew
import Derived.Test.YtajekjjaaohbnaaOptOk
import Derived.Test.YtajekjjaaohbnaaCurA
namespace Go.Proofs.Ytajekjjaaohbnaa
open Go.RowKit Go.Lib

set_option maxRecDepth 100000 in
set_option maxHeartbeats 8000000 in
theorem connNewS_11 (p q r i j m c : Int) (k s : Bool) (v x wd : Int) (w : World) (ho : optOk ⟨m, c, k, s, v, x⟩ = true) (hw : wordOk wd 16 = true) (hc : c ≤ 14) :
    Calls Try.prog 14 #[.agg #[.int .i64 p, .int .i64 q, .int .i64 r], .int .i64 i, .int .i64 j, .agg #[.int .i64 m, .int .i64 c, .bool k, .bool s, .int .i64 v, .int .i64 x], .int .i64 wd] w (EndCN p q r (pl (i + 1)) (pl (pl (j + 1))) ⟨m, c, k, s, v, x⟩ (scaled wd c) w) := by
  have OK := fun w => optionsOkS m c k s v x w
  rw [ho] at OK
  have WK := fun w => wordS_s wd 16 w
  rw [hw] at WK
  replace OK := Lib.hid OK
  replace WK := Lib.hid WK
  have A1 := fun w => seqAddS_s i 1 w
  have A2 := fun w => seqAddS_s j 1 w
  have A3 := fun w => rcvNewS (pl (j + 1)) w
  have NO := Lib.hid (fun w => noOptionsS w)
  have MX := fun w => l1Max_s 0 c w
  obtain ⟨hcv, hsh⟩ := scaledS wd c hc
  generalize scaled wd c = ms at hsh ⊢
  obtain ⟨kk, hkk⟩ : ∃ t, max 0 c = t := ⟨_, rfl⟩
  rw [hkk] at MX hcv hsh
  clear hkk
  replace MX := Lib.hid MX
  clear hc
  unfold EndN0 at A3
  unfold EndCN
  generalize pl (pl (j + 1)) = j2 at A3 ⊢
  generalize pl (i + 1) = i1 at A1 ⊢
  generalize pl (j + 1) = j1 at A2 A3
  replace A1 := Lib.hid A1
  replace A2 := Lib.hid A2
  replace A3 := Lib.hid A3
  clear ho hw
  go_enter Try.func14, Try.ntmps14
  have B0 := Lib.hid (show Below w.heap.size w (((w.alloc (.cells #[.int .i64 p, .int .i64 q, .int .i64 r] 25)).alloc (.cells #[.int .i64 m, .int .i64 c, .bool k, .bool s, .int .i64 v, .int .i64 x] 27)).alloc (.cells #[.int .i64 0, .int .i64 0, .int .i64 0, .int .i64 0, .int .i64 0, .string ⟨#[]⟩, .int .i64 0, .bool false, .bool false, .bool false, .int .i64 0, .string ⟨#[]⟩, .slice none 0 0, .int .i64 0, .bool false, .int .i64 0, .int .i64 0, .int .i64 0, .int .i64 0, .bool false, .bool false, .int .i64 0, .int .i64 0, .int .i64 0, .int .i64 0] 36)) from ((((Below.refl _ w).alloc (by simp) _).alloc (by simp) _).alloc (by simp; omega) _))
  have KT0 := Lib.hid (show Blk (((w.alloc (.cells #[.int .i64 p, .int .i64 q, .int .i64 r] 25)).alloc (.cells #[.int .i64 m, .int .i64 c, .bool k, .bool s, .int .i64 v, .int .i64 x] 27)).alloc (.cells #[.int .i64 0, .int .i64 0, .int .i64 0, .int .i64 0, .int .i64 0, .string ⟨#[]⟩, .int .i64 0, .bool false, .bool false, .bool false, .int .i64 0, .string ⟨#[]⟩, .slice none 0 0, .int .i64 0, .bool false, .int .i64 0, .int .i64 0, .int .i64 0, .int .i64 0, .bool false, .bool false, .int .i64 0, .int .i64 0, .int .i64 0, .int .i64 0] 36)) (w.heap.size) [.int .i64 p, .int .i64 q, .int .i64 r] from ((Blk.new w [.int .i64 p, .int .i64 q, .int .i64 r] 25).alloc (.cells #[.int .i64 m, .int .i64 c, .bool k, .bool s, .int .i64 v, .int .i64 x] 27)).alloc (.cells #[.int .i64 0, .int .i64 0, .int .i64 0, .int .i64 0, .int .i64 0, .string ⟨#[]⟩, .int .i64 0, .bool false, .bool false, .bool false, .int .i64 0, .string ⟨#[]⟩, .slice none 0 0, .int .i64 0, .bool false, .int .i64 0, .int .i64 0, .int .i64 0, .int .i64 0, .bool false, .bool false, .int .i64 0, .int .i64 0, .int .i64 0, .int .i64 0] 36))
  have s1 : (w.alloc (.cells #[.int .i64 p, .int .i64 q, .int .i64 r] 25)).heap.size = w.heap.size + 1 := by simp
  have KO0 := Lib.hid (show Blk (((w.alloc (.cells #[.int .i64 p, .int .i64 q, .int .i64 r] 25)).alloc (.cells #[.int .i64 m, .int .i64 c, .bool k, .bool s, .int .i64 v, .int .i64 x] 27)).alloc (.cells #[.int .i64 0, .int .i64 0, .int .i64 0, .int .i64 0, .int .i64 0, .string ⟨#[]⟩, .int .i64 0, .bool false, .bool false, .bool false, .int .i64 0, .string ⟨#[]⟩, .slice none 0 0, .int .i64 0, .bool false, .int .i64 0, .int .i64 0, .int .i64 0, .int .i64 0, .bool false, .bool false, .int .i64 0, .int .i64 0, .int .i64 0, .int .i64 0] 36)) (w.heap.size + 1) [.int .i64 m, .int .i64 c, .bool k, .bool s, .int .i64 v, .int .i64 x] by have h0 := (Blk.new (w.alloc (.cells #[.int .i64 p, .int .i64 q, .int .i64 r] 25)) [.int .i64 m, .int .i64 c, .bool k, .bool s, .int .i64 v, .int .i64 x] 27).alloc (.cells #[.int .i64 0, .int .i64 0, .int .i64 0, .int .i64 0, .int .i64 0, .string ⟨#[]⟩, .int .i64 0, .bool false, .bool false, .bool false, .int .i64 0, .string ⟨#[]⟩, .slice none 0 0, .int .i64 0, .bool false, .int .i64 0, .int .i64 0, .int .i64 0, .int .i64 0, .bool false, .bool false, .int .i64 0, .int .i64 0, .int .i64 0, .int .i64 0] 36); rwa [s1] at h0)
  have n_T_O : w.heap.size ≠ w.heap.size + 1 := by omega
  have s2 : ((w.alloc (.cells #[.int .i64 p, .int .i64 q, .int .i64 r] 25)).alloc (.cells #[.int .i64 m, .int .i64 c, .bool k, .bool s, .int .i64 v, .int .i64 x] 27)).heap.size = w.heap.size + 1 + 1 := by simp
  have KR0 := Lib.hid (show Blk (((w.alloc (.cells #[.int .i64 p, .int .i64 q, .int .i64 r] 25)).alloc (.cells #[.int .i64 m, .int .i64 c, .bool k, .bool s, .int .i64 v, .int .i64 x] 27)).alloc (.cells #[.int .i64 0, .int .i64 0, .int .i64 0, .int .i64 0, .int .i64 0, .string ⟨#[]⟩, .int .i64 0, .bool false, .bool false, .bool false, .int .i64 0, .string ⟨#[]⟩, .slice none 0 0, .int .i64 0, .bool false, .int .i64 0, .int .i64 0, .int .i64 0, .int .i64 0, .bool false, .bool false, .int .i64 0, .int .i64 0, .int .i64 0, .int .i64 0] 36)) (w.heap.size + 1 + 1) [.int .i64 0, .int .i64 0, .int .i64 0, .int .i64 0, .int .i64 0, .string ⟨#[]⟩, .int .i64 0, .bool false, .bool false, .bool false, .int .i64 0, .string ⟨#[]⟩, .slice none 0 0, .int .i64 0, .bool false, .int .i64 0, .int .i64 0, .int .i64 0, .int .i64 0, .bool false, .bool false, .int .i64 0, .int .i64 0, .int .i64 0, .int .i64 0] by have h0 := Blk.new ((w.alloc (.cells #[.int .i64 p, .int .i64 q, .int .i64 r] 25)).alloc (.cells #[.int .i64 m, .int .i64 c, .bool k, .bool s, .int .i64 v, .int .i64 x] 27)) [.int .i64 0, .int .i64 0, .int .i64 0, .int .i64 0, .int .i64 0, .string ⟨#[]⟩, .int .i64 0, .bool false, .bool false, .bool false, .int .i64 0, .string ⟨#[]⟩, .slice none 0 0, .int .i64 0, .bool false, .int .i64 0, .int .i64 0, .int .i64 0, .int .i64 0, .bool false, .bool false, .int .i64 0, .int .i64 0, .int .i64 0, .int .i64 0] 36; rwa [s2] at h0)
  have n_T_R : w.heap.size ≠ w.heap.size + 1 + 1 := by omega
  have n_O_R : w.heap.size + 1 ≠ w.heap.size + 1 + 1 := by omega
  clear s1 s2
  go_upto_region 1 with fail
  generalize ((w.alloc (.cells #[.int .i64 p, .int .i64 q, .int .i64 r] 25)).alloc (.cells #[.int .i64 m, .int .i64 c, .bool k, .bool s, .int .i64 v, .int .i64 x] 27)).alloc (.cells #[.int .i64 0, .int .i64 0, .int .i64 0, .int .i64 0, .int .i64 0, .string ⟨#[]⟩, .int .i64 0, .bool false, .bool false, .bool false, .int .i64 0, .string ⟨#[]⟩, .slice none 0 0, .int .i64 0, .bool false, .int .i64 0, .int .i64 0, .int .i64 0, .int .i64 0, .bool false, .bool false, .int .i64 0, .int .i64 0, .int .i64 0, .int .i64 0] 36) = v0 at B0 KT0 KO0 KR0 ⊢
  generalize hh_R : w.heap.size + 1 + 1 = g_R at KR0 n_T_R n_O_R ⊢
  generalize hh_O : w.heap.size + 1 = g_O at KO0 n_T_O n_O_R ⊢
  generalize hh_T : w.heap.size = g_T at KT0 n_T_O n_T_R ⊢
  have l_T : w.heap.size ≤ g_T := by omega
  have l_O : w.heap.size ≤ g_O := by omega
  have l_R : w.heap.size ≤ g_R := by omega
  clear hh_T hh_O hh_R
  have cT0 : v0.cell? ⟨g_T, 0, none⟩ = some (.int .i64 p) := KT0.out.cell 0 _ rfl
  have cT1 : v0.cell? ⟨g_T, 1, none⟩ = some (.int .i64 q) := KT0.out.cell 1 _ rfl
  have cT2 : v0.cell? ⟨g_T, 2, none⟩ = some (.int .i64 r) := KT0.out.cell 2 _ rfl
  have cO0 : v0.cell? ⟨g_O, 0, none⟩ = some (.int .i64 m) := KO0.out.cell 0 _ rfl
  have dO0 := KO0.out.open 0
  have cO1 : v0.cell? ⟨g_O, 1, none⟩ = some (.int .i64 c) := KO0.out.cell 1 _ rfl
  have dO1 := KO0.out.open 1
  have cO2 : v0.cell? ⟨g_O, 2, none⟩ = some (.bool k) := KO0.out.cell 2 _ rfl
  have dO2 := KO0.out.open 2
  have cO3 : v0.cell? ⟨g_O, 3, none⟩ = some (.bool s) := KO0.out.cell 3 _ rfl
  have dO3 := KO0.out.open 3
  have cO4 : v0.cell? ⟨g_O, 4, none⟩ = some (.int .i64 v) := KO0.out.cell 4 _ rfl
  have dO4 := KO0.out.open 4
  have cO5 : v0.cell? ⟨g_O, 5, none⟩ = some (.int .i64 x) := KO0.out.cell 5 _ rfl
  have dO5 := KO0.out.open 5
  go_wp2_with fail
  clear cT0 cT1 cT2 cO0 dO0 cO1 dO1 cO2 dO2 cO3 dO3 cO4 dO4 cO5 dO5
  refine (OK.out _).mono ?_
  rintro e v1 ⟨rfl, hb⟩
  have B1 := Lib.hid (B0.out.trans (hb.mono B0.out.size))
  have KT1 := Lib.hid (KT0.out.below hb)
  have KO1 := Lib.hid (KO0.out.below hb)
  have KR1 := Lib.hid (KR0.out.below hb)
  clear hb B0 KT0 KO0 KR0
  have cT0 : v1.cell? ⟨g_T, 0, none⟩ = some (.int .i64 p) := KT1.out.cell 0 _ rfl
  have cT1 : v1.cell? ⟨g_T, 1, none⟩ = some (.int .i64 q) := KT1.out.cell 1 _ rfl
  have cT2 : v1.cell? ⟨g_T, 2, none⟩ = some (.int .i64 r) := KT1.out.cell 2 _ rfl
  have cO0 : v1.cell? ⟨g_O, 0, none⟩ = some (.int .i64 m) := KO1.out.cell 0 _ rfl
  have dO0 := KO1.out.open 0
  have cO1 : v1.cell? ⟨g_O, 1, none⟩ = some (.int .i64 c) := KO1.out.cell 1 _ rfl
  have dO1 := KO1.out.open 1
  have cO2 : v1.cell? ⟨g_O, 2, none⟩ = some (.bool k) := KO1.out.cell 2 _ rfl
  have dO2 := KO1.out.open 2
  have cO3 : v1.cell? ⟨g_O, 3, none⟩ = some (.bool s) := KO1.out.cell 3 _ rfl
  have dO3 := KO1.out.open 3
  have cO4 : v1.cell? ⟨g_O, 4, none⟩ = some (.int .i64 v) := KO1.out.cell 4 _ rfl
  have dO4 := KO1.out.open 4
  have cO5 : v1.cell? ⟨g_O, 5, none⟩ = some (.int .i64 x) := KO1.out.cell 5 _ rfl
  have dO5 := KO1.out.open 5
  go_wp2_with fail
  clear cT0 cT1 cT2 cO0 dO0 cO1 dO1 cO2 dO2 cO3 dO3 cO4 dO4 cO5 dO5
  refine (WK.out _).mono ?_
  rintro e v2 ⟨rfl, hb⟩
  have B2 := Lib.hid (B1.out.trans (hb.mono B1.out.size))
  have KT2 := Lib.hid (KT1.out.below hb)
  have KO2 := Lib.hid (KO1.out.below hb)
  have KR2 := Lib.hid (KR1.out.below hb)
  clear hb B1 KT1 KO1 KR1
  have cT0 : v2.cell? ⟨g_T, 0, none⟩ = some (.int .i64 p) := KT2.out.cell 0 _ rfl
  have cT1 : v2.cell? ⟨g_T, 1, none⟩ = some (.int .i64 q) := KT2.out.cell 1 _ rfl
  have cT2 : v2.cell? ⟨g_T, 2, none⟩ = some (.int .i64 r) := KT2.out.cell 2 _ rfl
  have cO0 : v2.cell? ⟨g_O, 0, none⟩ = some (.int .i64 m) := KO2.out.cell 0 _ rfl
  have dO0 := KO2.out.open 0
  have cO1 : v2.cell? ⟨g_O, 1, none⟩ = some (.int .i64 c) := KO2.out.cell 1 _ rfl
  have dO1 := KO2.out.open 1
  have cO2 : v2.cell? ⟨g_O, 2, none⟩ = some (.bool k) := KO2.out.cell 2 _ rfl
  have dO2 := KO2.out.open 2
  have cO3 : v2.cell? ⟨g_O, 3, none⟩ = some (.bool s) := KO2.out.cell 3 _ rfl
  have dO3 := KO2.out.open 3
  have cO4 : v2.cell? ⟨g_O, 4, none⟩ = some (.int .i64 v) := KO2.out.cell 4 _ rfl
  have dO4 := KO2.out.open 4
  have cO5 : v2.cell? ⟨g_O, 5, none⟩ = some (.int .i64 x) := KO2.out.cell 5 _ rfl
  have dO5 := KO2.out.open 5
  go_wp2_with fail
  clear cT0 cT1 cT2 cO0 dO0 cO1 dO1 cO2 dO2 cO3 dO3 cO4 dO4 cO5 dO5
  refine (MX.out _).mono ?_
  rintro e v3 ⟨rfl, hb⟩
  have B3 := Lib.hid (B2.out.trans (hb.mono B2.out.size))
  have KT3 := Lib.hid (KT2.out.below hb)
  have KO3 := Lib.hid (KO2.out.below hb)
  have KR3 := Lib.hid (KR2.out.below hb)
  clear hb B2 KT2 KO2 KR2
  have cT0 : v3.cell? ⟨g_T, 0, none⟩ = some (.int .i64 p) := KT3.out.cell 0 _ rfl
  have cT1 : v3.cell? ⟨g_T, 1, none⟩ = some (.int .i64 q) := KT3.out.cell 1 _ rfl
  have cT2 : v3.cell? ⟨g_T, 2, none⟩ = some (.int .i64 r) := KT3.out.cell 2 _ rfl
  have cO0 : v3.cell? ⟨g_O, 0, none⟩ = some (.int .i64 m) := KO3.out.cell 0 _ rfl
  have dO0 := KO3.out.open 0
  have cO1 : v3.cell? ⟨g_O, 1, none⟩ = some (.int .i64 c) := KO3.out.cell 1 _ rfl
  have dO1 := KO3.out.open 1
  have cO2 : v3.cell? ⟨g_O, 2, none⟩ = some (.bool k) := KO3.out.cell 2 _ rfl
  have dO2 := KO3.out.open 2
  have cO3 : v3.cell? ⟨g_O, 3, none⟩ = some (.bool s) := KO3.out.cell 3 _ rfl
  have dO3 := KO3.out.open 3
  have cO4 : v3.cell? ⟨g_O, 4, none⟩ = some (.int .i64 v) := KO3.out.cell 4 _ rfl
  have dO4 := KO3.out.open 4
  have cO5 : v3.cell? ⟨g_O, 5, none⟩ = some (.int .i64 x) := KO3.out.cell 5 _ rfl
  have dO5 := KO3.out.open 5
  go_upto_region 6 with fail
  clear cT0 cT1 cT2 cO0 dO0 cO1 dO1 cO2 dO2 cO3 dO3 cO4 dO4 cO5 dO5
  refine wp_region_noPanic ?_
  refine wp_region_held_drew (S := fun w' => Blk w' g_T [.int .i64 p, .int .i64 q, .int .i64 r] ∧ Blk w' g_O [.int .i64 m, .int .i64 c, .bool k, .bool s, .int .i64 v, .int .i64 x]) (by kernel_rfl) ⟨KT3.out, KO3.out⟩ (fun hS => ?_)
  refine wpAnyH_take (i := 0) (v := .agg #[.int .i64 p, .int .i64 q, .int .i64 r]) rfl (by kernel_rfl) (by kernel_rfl) (by kernel_rfl) (fun _ _ _ h => h) (Or.inl ⟨rfl, by intro w hS; have h0 := (hS.1).cell 0 _ rfl; have h1 := (hS.1).cell 1 _ rfl; have h2 := (hS.1).cell 2 _ rfl; go_simp⟩) hS ?_
  refine wpAnyH_take (i := 1) (v := .int .i64 i) rfl (by kernel_rfl) (by kernel_rfl) (by kernel_rfl) (fun _ _ _ h => h) (Or.inl ⟨rfl, by intro w hS; go_simp⟩) hS ?_
  refine wpAnyH_take (i := 4) (v := .int .i64 j) rfl (by kernel_rfl) (by kernel_rfl) (by kernel_rfl) (fun _ _ _ h => h) (Or.inl ⟨rfl, by intro w hS; go_simp⟩) hS ?_
  refine wpAnyH_take (i := 7) (v := .int .i64 ms) rfl (by kernel_rfl) (by kernel_rfl) (by kernel_rfl) (fun _ _ _ h => h) (Or.inl ⟨rfl, by intro w hS; go_simp⟩) hS ?_
  refine wpAnyH_take (i := 8) (v := .int .i64 ms) rfl (by kernel_rfl) (by kernel_rfl) (by kernel_rfl) (fun _ _ _ h => h) (Or.inl ⟨rfl, by intro w hS; go_simp⟩) hS ?_
  refine wpAnyH_take (i := 9) (v := .agg #[.int .i64 m, .int .i64 c, .bool k, .bool s, .int .i64 v, .int .i64 x]) rfl (by kernel_rfl) (by kernel_rfl) (by kernel_rfl) (fun _ _ _ h => h) (Or.inl ⟨rfl, by intro w hS; have h0 := (hS.2).cell 0 _ rfl; have h1 := (hS.2).cell 1 _ rfl; have h2 := (hS.2).cell 2 _ rfl; have h3 := (hS.2).cell 3 _ rfl; have h4 := (hS.2).cell 4 _ rfl; have h5 := (hS.2).cell 5 _ rfl; go_simp⟩) hS ?_
  refine wpAnyH_ready (rs := [2]) (by kernel_rfl) (by simp) ?_
  refine AllReadyH.cons (i := 2) rfl (fun K hK => ?zr1) AllReadyH.nil
  rw [if_pos (by rfl)]
  go_simp
  clear hS
  refine (A1.out _).mono ?_
  rintro e v4 ⟨rfl, hb⟩
  replace hb := (Below.refl _ v3).drew.trans hb
  have B4 := Lib.hid (B3.out.trans (hb.mono B3.out.size))
  have KT4 := Lib.hid (KT3.out.below hb)
  have KO4 := Lib.hid (KO3.out.below hb)
  have KR4 := Lib.hid (KR3.out.below hb)
  clear hb B3 KT3 KO3 KR3
  refine hK.out _ _ ⟨KT4.out, KO4.out⟩ (fun hS => ?_)
  clear hK K
  refine wpAnyH_take (i := 3) (v := .agg #[.int .i64 i1, .string ⟨#[]⟩, .int .i64 0, .bool false, .bool false, .bool false]) rfl (by kernel_rfl) (by kernel_rfl) (by kernel_rfl) (fun _ _ _ h => h) (Or.inl ⟨rfl, by intro w hS; go_simp⟩) hS ?_
  refine wpAnyH_ready (rs := [5]) (by kernel_rfl) (by simp) ?_
  refine AllReadyH.cons (i := 5) rfl (fun K hK => ?zr2) AllReadyH.nil
  rw [if_pos (by rfl)]
  go_simp
  clear hS
  refine (A2.out _).mono ?_
  rintro e v5 ⟨rfl, hb⟩
  have B5 := Lib.hid (B4.out.trans (hb.mono B4.out.size))
  have KT5 := Lib.hid (KT4.out.below hb)
  have KO5 := Lib.hid (KO4.out.below hb)
  have KR5 := Lib.hid (KR4.out.below hb)
  clear hb B4 KT4 KO4 KR4
  refine hK.out _ _ ⟨KT5.out, KO5.out⟩ (fun hS => ?_)
  clear hK K
  refine wpAnyH_ready (rs := [6]) (by kernel_rfl) (by simp) ?_
  refine AllReadyH.cons (i := 6) rfl (fun K hK => ?zr3) AllReadyH.nil
  rw [if_pos (by rfl)]
  go_simp
  clear hS
  refine (A3.out _).mono ?_
  rintro e v6 ⟨rfl, hb⟩
  have B6 := Lib.hid (B5.out.trans (hb.mono B5.out.size))
  have KT6 := Lib.hid (KT5.out.below hb)
  have KO6 := Lib.hid (KO5.out.below hb)
  have KR6 := Lib.hid (KR5.out.below hb)
  clear hb B5 KT5 KO5 KR5
  refine hK.out _ _ ⟨KT6.out, KO6.out⟩ (fun hS => ?_)
  clear hK K
  refine wpAnyH_take (i := 10) (v := .agg #[.int .i64 p, .int .i64 q, .int .i64 r, .int .i64 1, .int .i64 i1, .string ⟨#[]⟩, .int .i64 0, .bool false, .bool false, .bool false, .int .i64 j2, .string ⟨#[]⟩, .slice none 0 0, .int .i64 (-1), .bool false, .int .i64 ms, .int .i64 ms, .int .i64 m, .int .i64 c, .bool k, .bool s, .int .i64 v, .int .i64 x, .int .i64 0, .int .i64 0]) rfl (by kernel_rfl) (by kernel_rfl) (by kernel_rfl) (fun _ _ _ h => h) (Or.inl ⟨rfl, by intro w hS; go_simp⟩) hS ?_
  refine wpAnyH_ready (rs := [11]) (by kernel_rfl) (by simp) ?_
  refine AllReadyH.cons (i := 11) rfl (fun K hK => ?zr4) AllReadyH.nil
  rw [if_pos (by rfl)]
  refine wp_store_blk (cs' := [.int .i64 p, .int .i64 q, .int .i64 r, .int .i64 1, .int .i64 i1, .string ⟨#[]⟩, .int .i64 0, .bool false, .bool false, .bool false, .int .i64 j2, .string ⟨#[]⟩, .slice none 0 0, .int .i64 (-1), .bool false, .int .i64 ms, .int .i64 ms, .int .i64 m, .int .i64 c, .bool k, .bool s, .int .i64 v, .int .i64 x, .int .i64 0, .int .i64 0]) 36 _ _ rfl rfl rfl KR6.out rfl (by kernel_rfl) rfl (fun v7 hB hg => ?_)
  clear hS
  have B7 := Lib.hid (B6.out.trans (grown_below hg l_R B6.out.size))
  have KT7 := Lib.hid (KT6.out.grown hg (n_T_R))
  have KO7 := Lib.hid (KO6.out.grown hg (n_O_R))
  have KR7 := Lib.hid hB
  clear hB hg B6 KT6 KO6 KR6
  refine hK.out _ _ ⟨KT7.out, KO7.out⟩ (fun hS => ?_)
  clear hK K
  refine wpAnyH_done (by kernel_rfl) ?_ _
  refine NoPanic.normal ?_
  go_wp2_with fail
  exact bodyPost_ret (v := .agg #[.int .i64 p, .int .i64 q, .int .i64 r, .int .i64 1, .int .i64 i1, .string ⟨#[]⟩, .int .i64 0, .bool false, .bool false, .bool false, .int .i64 j2, .string ⟨#[]⟩, .slice none 0 0, .int .i64 (-1), .bool false, .int .i64 ms, .int .i64 ms, .int .i64 m, .int .i64 c, .bool k, .bool s, .int .i64 v, .int .i64 x, .int .i64 0, .int .i64 0]) (blk_results rfl KR7.out rfl Try.underlying36 rfl (by kernel_rfl)) rfl ⟨rfl, B7.out⟩

set_option maxRecDepth 100000 in
set_option maxHeartbeats 8000000 in
theorem connNewS_10 (p q r i j m c : Int) (k s : Bool) (v x wd : Int) (w : World) (ho : optOk ⟨m, c, k, s, v, x⟩ = true) (hw : wordOk wd 16 = false) (hc : c ≤ 14) :
    Calls Try.prog 14 #[.agg #[.int .i64 p, .int .i64 q, .int .i64 r], .int .i64 i, .int .i64 j, .agg #[.int .i64 m, .int .i64 c, .bool k, .bool s, .int .i64 v, .int .i64 x], .int .i64 wd] w (EndCN p q r (pl (i + 1)) (pl (pl (j + 1))) ⟨m, c, k, s, v, x⟩ (scaled 0 c) w) := by
  have OK := fun w => optionsOkS m c k s v x w
  rw [ho] at OK
  have WK := fun w => wordS_s wd 16 w
  rw [hw] at WK
  replace OK := Lib.hid OK
  replace WK := Lib.hid WK
  have A1 := fun w => seqAddS_s i 1 w
  have A2 := fun w => seqAddS_s j 1 w
  have A3 := fun w => rcvNewS (pl (j + 1)) w
  have NO := Lib.hid (fun w => noOptionsS w)
  have MX := fun w => l1Max_s 0 c w
  obtain ⟨hcv, hsh⟩ := scaledS 0 c hc
  generalize scaled 0 c = ms at hsh ⊢
  obtain ⟨kk, hkk⟩ : ∃ t, max 0 c = t := ⟨_, rfl⟩
  rw [hkk] at MX hcv hsh
  clear hkk
  replace MX := Lib.hid MX
  clear hc
  unfold EndN0 at A3
  unfold EndCN
  generalize pl (pl (j + 1)) = j2 at A3 ⊢
  generalize pl (i + 1) = i1 at A1 ⊢
  generalize pl (j + 1) = j1 at A2 A3
  replace A1 := Lib.hid A1
  replace A2 := Lib.hid A2
  replace A3 := Lib.hid A3
  clear ho hw
  go_enter Try.func14, Try.ntmps14
  have B0 := Lib.hid (show Below w.heap.size w (((w.alloc (.cells #[.int .i64 p, .int .i64 q, .int .i64 r] 25)).alloc (.cells #[.int .i64 m, .int .i64 c, .bool k, .bool s, .int .i64 v, .int .i64 x] 27)).alloc (.cells #[.int .i64 0, .int .i64 0, .int .i64 0, .int .i64 0, .int .i64 0, .string ⟨#[]⟩, .int .i64 0, .bool false, .bool false, .bool false, .int .i64 0, .string ⟨#[]⟩, .slice none 0 0, .int .i64 0, .bool false, .int .i64 0, .int .i64 0, .int .i64 0, .int .i64 0, .bool false, .bool false, .int .i64 0, .int .i64 0, .int .i64 0, .int .i64 0] 36)) from ((((Below.refl _ w).alloc (by simp) _).alloc (by simp) _).alloc (by simp; omega) _))
  have KT0 := Lib.hid (show Blk (((w.alloc (.cells #[.int .i64 p, .int .i64 q, .int .i64 r] 25)).alloc (.cells #[.int .i64 m, .int .i64 c, .bool k, .bool s, .int .i64 v, .int .i64 x] 27)).alloc (.cells #[.int .i64 0, .int .i64 0, .int .i64 0, .int .i64 0, .int .i64 0, .string ⟨#[]⟩, .int .i64 0, .bool false, .bool false, .bool false, .int .i64 0, .string ⟨#[]⟩, .slice none 0 0, .int .i64 0, .bool false, .int .i64 0, .int .i64 0, .int .i64 0, .int .i64 0, .bool false, .bool false, .int .i64 0, .int .i64 0, .int .i64 0, .int .i64 0] 36)) (w.heap.size) [.int .i64 p, .int .i64 q, .int .i64 r] from ((Blk.new w [.int .i64 p, .int .i64 q, .int .i64 r] 25).alloc (.cells #[.int .i64 m, .int .i64 c, .bool k, .bool s, .int .i64 v, .int .i64 x] 27)).alloc (.cells #[.int .i64 0, .int .i64 0, .int .i64 0, .int .i64 0, .int .i64 0, .string ⟨#[]⟩, .int .i64 0, .bool false, .bool false, .bool false, .int .i64 0, .string ⟨#[]⟩, .slice none 0 0, .int .i64 0, .bool false, .int .i64 0, .int .i64 0, .int .i64 0, .int .i64 0, .bool false, .bool false, .int .i64 0, .int .i64 0, .int .i64 0, .int .i64 0] 36))
  have s1 : (w.alloc (.cells #[.int .i64 p, .int .i64 q, .int .i64 r] 25)).heap.size = w.heap.size + 1 := by simp
  have KO0 := Lib.hid (show Blk (((w.alloc (.cells #[.int .i64 p, .int .i64 q, .int .i64 r] 25)).alloc (.cells #[.int .i64 m, .int .i64 c, .bool k, .bool s, .int .i64 v, .int .i64 x] 27)).alloc (.cells #[.int .i64 0, .int .i64 0, .int .i64 0, .int .i64 0, .int .i64 0, .string ⟨#[]⟩, .int .i64 0, .bool false, .bool false, .bool false, .int .i64 0, .string ⟨#[]⟩, .slice none 0 0, .int .i64 0, .bool false, .int .i64 0, .int .i64 0, .int .i64 0, .int .i64 0, .bool false, .bool false, .int .i64 0, .int .i64 0, .int .i64 0, .int .i64 0] 36)) (w.heap.size + 1) [.int .i64 m, .int .i64 c, .bool k, .bool s, .int .i64 v, .int .i64 x] by have h0 := (Blk.new (w.alloc (.cells #[.int .i64 p, .int .i64 q, .int .i64 r] 25)) [.int .i64 m, .int .i64 c, .bool k, .bool s, .int .i64 v, .int .i64 x] 27).alloc (.cells #[.int .i64 0, .int .i64 0, .int .i64 0, .int .i64 0, .int .i64 0, .string ⟨#[]⟩, .int .i64 0, .bool false, .bool false, .bool false, .int .i64 0, .string ⟨#[]⟩, .slice none 0 0, .int .i64 0, .bool false, .int .i64 0, .int .i64 0, .int .i64 0, .int .i64 0, .bool false, .bool false, .int .i64 0, .int .i64 0, .int .i64 0, .int .i64 0] 36); rwa [s1] at h0)
  have n_T_O : w.heap.size ≠ w.heap.size + 1 := by omega
  have s2 : ((w.alloc (.cells #[.int .i64 p, .int .i64 q, .int .i64 r] 25)).alloc (.cells #[.int .i64 m, .int .i64 c, .bool k, .bool s, .int .i64 v, .int .i64 x] 27)).heap.size = w.heap.size + 1 + 1 := by simp
  have KR0 := Lib.hid (show Blk (((w.alloc (.cells #[.int .i64 p, .int .i64 q, .int .i64 r] 25)).alloc (.cells #[.int .i64 m, .int .i64 c, .bool k, .bool s, .int .i64 v, .int .i64 x] 27)).alloc (.cells #[.int .i64 0, .int .i64 0, .int .i64 0, .int .i64 0, .int .i64 0, .string ⟨#[]⟩, .int .i64 0, .bool false, .bool false, .bool false, .int .i64 0, .string ⟨#[]⟩, .slice none 0 0, .int .i64 0, .bool false, .int .i64 0, .int .i64 0, .int .i64 0, .int .i64 0, .bool false, .bool false, .int .i64 0, .int .i64 0, .int .i64 0, .int .i64 0] 36)) (w.heap.size + 1 + 1) [.int .i64 0, .int .i64 0, .int .i64 0, .int .i64 0, .int .i64 0, .string ⟨#[]⟩, .int .i64 0, .bool false, .bool false, .bool false, .int .i64 0, .string ⟨#[]⟩, .slice none 0 0, .int .i64 0, .bool false, .int .i64 0, .int .i64 0, .int .i64 0, .int .i64 0, .bool false, .bool false, .int .i64 0, .int .i64 0, .int .i64 0, .int .i64 0] by have h0 := Blk.new ((w.alloc (.cells #[.int .i64 p, .int .i64 q, .int .i64 r] 25)).alloc (.cells #[.int .i64 m, .int .i64 c, .bool k, .bool s, .int .i64 v, .int .i64 x] 27)) [.int .i64 0, .int .i64 0, .int .i64 0, .int .i64 0, .int .i64 0, .string ⟨#[]⟩, .int .i64 0, .bool false, .bool false, .bool false, .int .i64 0, .string ⟨#[]⟩, .slice none 0 0, .int .i64 0, .bool false, .int .i64 0, .int .i64 0, .int .i64 0, .int .i64 0, .bool false, .bool false, .int .i64 0, .int .i64 0, .int .i64 0, .int .i64 0] 36; rwa [s2] at h0)
  have n_T_R : w.heap.size ≠ w.heap.size + 1 + 1 := by omega
  have n_O_R : w.heap.size + 1 ≠ w.heap.size + 1 + 1 := by omega
  clear s1 s2
  go_upto_region 1 with fail
  generalize ((w.alloc (.cells #[.int .i64 p, .int .i64 q, .int .i64 r] 25)).alloc (.cells #[.int .i64 m, .int .i64 c, .bool k, .bool s, .int .i64 v, .int .i64 x] 27)).alloc (.cells #[.int .i64 0, .int .i64 0, .int .i64 0, .int .i64 0, .int .i64 0, .string ⟨#[]⟩, .int .i64 0, .bool false, .bool false, .bool false, .int .i64 0, .string ⟨#[]⟩, .slice none 0 0, .int .i64 0, .bool false, .int .i64 0, .int .i64 0, .int .i64 0, .int .i64 0, .bool false, .bool false, .int .i64 0, .int .i64 0, .int .i64 0, .int .i64 0] 36) = v0 at B0 KT0 KO0 KR0 ⊢
  generalize hh_R : w.heap.size + 1 + 1 = g_R at KR0 n_T_R n_O_R ⊢
  generalize hh_O : w.heap.size + 1 = g_O at KO0 n_T_O n_O_R ⊢
  generalize hh_T : w.heap.size = g_T at KT0 n_T_O n_T_R ⊢
  have l_T : w.heap.size ≤ g_T := by omega
  have l_O : w.heap.size ≤ g_O := by omega
  have l_R : w.heap.size ≤ g_R := by omega
  clear hh_T hh_O hh_R
  have cT0 : v0.cell? ⟨g_T, 0, none⟩ = some (.int .i64 p) := KT0.out.cell 0 _ rfl
  have cT1 : v0.cell? ⟨g_T, 1, none⟩ = some (.int .i64 q) := KT0.out.cell 1 _ rfl
  have cT2 : v0.cell? ⟨g_T, 2, none⟩ = some (.int .i64 r) := KT0.out.cell 2 _ rfl
  have cO0 : v0.cell? ⟨g_O, 0, none⟩ = some (.int .i64 m) := KO0.out.cell 0 _ rfl
  have dO0 := KO0.out.open 0
  have cO1 : v0.cell? ⟨g_O, 1, none⟩ = some (.int .i64 c) := KO0.out.cell 1 _ rfl
  have dO1 := KO0.out.open 1
  have cO2 : v0.cell? ⟨g_O, 2, none⟩ = some (.bool k) := KO0.out.cell 2 _ rfl
  have dO2 := KO0.out.open 2
  have cO3 : v0.cell? ⟨g_O, 3, none⟩ = some (.bool s) := KO0.out.cell 3 _ rfl
  have dO3 := KO0.out.open 3
  have cO4 : v0.cell? ⟨g_O, 4, none⟩ = some (.int .i64 v) := KO0.out.cell 4 _ rfl
  have dO4 := KO0.out.open 4
  have cO5 : v0.cell? ⟨g_O, 5, none⟩ = some (.int .i64 x) := KO0.out.cell 5 _ rfl
  have dO5 := KO0.out.open 5
  go_wp2_with fail
  clear cT0 cT1 cT2 cO0 dO0 cO1 dO1 cO2 dO2 cO3 dO3 cO4 dO4 cO5 dO5
  refine (OK.out _).mono ?_
  rintro e v1 ⟨rfl, hb⟩
  have B1 := Lib.hid (B0.out.trans (hb.mono B0.out.size))
  have KT1 := Lib.hid (KT0.out.below hb)
  have KO1 := Lib.hid (KO0.out.below hb)
  have KR1 := Lib.hid (KR0.out.below hb)
  clear hb B0 KT0 KO0 KR0
  have cT0 : v1.cell? ⟨g_T, 0, none⟩ = some (.int .i64 p) := KT1.out.cell 0 _ rfl
  have cT1 : v1.cell? ⟨g_T, 1, none⟩ = some (.int .i64 q) := KT1.out.cell 1 _ rfl
  have cT2 : v1.cell? ⟨g_T, 2, none⟩ = some (.int .i64 r) := KT1.out.cell 2 _ rfl
  have cO0 : v1.cell? ⟨g_O, 0, none⟩ = some (.int .i64 m) := KO1.out.cell 0 _ rfl
  have dO0 := KO1.out.open 0
  have cO1 : v1.cell? ⟨g_O, 1, none⟩ = some (.int .i64 c) := KO1.out.cell 1 _ rfl
  have dO1 := KO1.out.open 1
  have cO2 : v1.cell? ⟨g_O, 2, none⟩ = some (.bool k) := KO1.out.cell 2 _ rfl
  have dO2 := KO1.out.open 2
  have cO3 : v1.cell? ⟨g_O, 3, none⟩ = some (.bool s) := KO1.out.cell 3 _ rfl
  have dO3 := KO1.out.open 3
  have cO4 : v1.cell? ⟨g_O, 4, none⟩ = some (.int .i64 v) := KO1.out.cell 4 _ rfl
  have dO4 := KO1.out.open 4
  have cO5 : v1.cell? ⟨g_O, 5, none⟩ = some (.int .i64 x) := KO1.out.cell 5 _ rfl
  have dO5 := KO1.out.open 5
  go_wp2_with fail
  clear cT0 cT1 cT2 cO0 dO0 cO1 dO1 cO2 dO2 cO3 dO3 cO4 dO4 cO5 dO5
  refine (WK.out _).mono ?_
  rintro e v2 ⟨rfl, hb⟩
  have B2 := Lib.hid (B1.out.trans (hb.mono B1.out.size))
  have KT2 := Lib.hid (KT1.out.below hb)
  have KO2 := Lib.hid (KO1.out.below hb)
  have KR2 := Lib.hid (KR1.out.below hb)
  clear hb B1 KT1 KO1 KR1
  have cT0 : v2.cell? ⟨g_T, 0, none⟩ = some (.int .i64 p) := KT2.out.cell 0 _ rfl
  have cT1 : v2.cell? ⟨g_T, 1, none⟩ = some (.int .i64 q) := KT2.out.cell 1 _ rfl
  have cT2 : v2.cell? ⟨g_T, 2, none⟩ = some (.int .i64 r) := KT2.out.cell 2 _ rfl
  have cO0 : v2.cell? ⟨g_O, 0, none⟩ = some (.int .i64 m) := KO2.out.cell 0 _ rfl
  have dO0 := KO2.out.open 0
  have cO1 : v2.cell? ⟨g_O, 1, none⟩ = some (.int .i64 c) := KO2.out.cell 1 _ rfl
  have dO1 := KO2.out.open 1
  have cO2 : v2.cell? ⟨g_O, 2, none⟩ = some (.bool k) := KO2.out.cell 2 _ rfl
  have dO2 := KO2.out.open 2
  have cO3 : v2.cell? ⟨g_O, 3, none⟩ = some (.bool s) := KO2.out.cell 3 _ rfl
  have dO3 := KO2.out.open 3
  have cO4 : v2.cell? ⟨g_O, 4, none⟩ = some (.int .i64 v) := KO2.out.cell 4 _ rfl
  have dO4 := KO2.out.open 4
  have cO5 : v2.cell? ⟨g_O, 5, none⟩ = some (.int .i64 x) := KO2.out.cell 5 _ rfl
  have dO5 := KO2.out.open 5
  go_wp2_with fail
  clear cT0 cT1 cT2 cO0 dO0 cO1 dO1 cO2 dO2 cO3 dO3 cO4 dO4 cO5 dO5
  refine (MX.out _).mono ?_
  rintro e v3 ⟨rfl, hb⟩
  have B3 := Lib.hid (B2.out.trans (hb.mono B2.out.size))
  have KT3 := Lib.hid (KT2.out.below hb)
  have KO3 := Lib.hid (KO2.out.below hb)
  have KR3 := Lib.hid (KR2.out.below hb)
  clear hb B2 KT2 KO2 KR2
  have cT0 : v3.cell? ⟨g_T, 0, none⟩ = some (.int .i64 p) := KT3.out.cell 0 _ rfl
  have cT1 : v3.cell? ⟨g_T, 1, none⟩ = some (.int .i64 q) := KT3.out.cell 1 _ rfl
  have cT2 : v3.cell? ⟨g_T, 2, none⟩ = some (.int .i64 r) := KT3.out.cell 2 _ rfl
  have cO0 : v3.cell? ⟨g_O, 0, none⟩ = some (.int .i64 m) := KO3.out.cell 0 _ rfl
  have dO0 := KO3.out.open 0
  have cO1 : v3.cell? ⟨g_O, 1, none⟩ = some (.int .i64 c) := KO3.out.cell 1 _ rfl
  have dO1 := KO3.out.open 1
  have cO2 : v3.cell? ⟨g_O, 2, none⟩ = some (.bool k) := KO3.out.cell 2 _ rfl
  have dO2 := KO3.out.open 2
  have cO3 : v3.cell? ⟨g_O, 3, none⟩ = some (.bool s) := KO3.out.cell 3 _ rfl
  have dO3 := KO3.out.open 3
  have cO4 : v3.cell? ⟨g_O, 4, none⟩ = some (.int .i64 v) := KO3.out.cell 4 _ rfl
  have dO4 := KO3.out.open 4
  have cO5 : v3.cell? ⟨g_O, 5, none⟩ = some (.int .i64 x) := KO3.out.cell 5 _ rfl
  have dO5 := KO3.out.open 5
  go_upto_region 6 with fail
  clear cT0 cT1 cT2 cO0 dO0 cO1 dO1 cO2 dO2 cO3 dO3 cO4 dO4 cO5 dO5
  refine wp_region_noPanic ?_
  refine wp_region_held_drew (S := fun w' => Blk w' g_T [.int .i64 p, .int .i64 q, .int .i64 r] ∧ Blk w' g_O [.int .i64 m, .int .i64 c, .bool k, .bool s, .int .i64 v, .int .i64 x]) (by kernel_rfl) ⟨KT3.out, KO3.out⟩ (fun hS => ?_)
  refine wpAnyH_take (i := 0) (v := .agg #[.int .i64 p, .int .i64 q, .int .i64 r]) rfl (by kernel_rfl) (by kernel_rfl) (by kernel_rfl) (fun _ _ _ h => h) (Or.inl ⟨rfl, by intro w hS; have h0 := (hS.1).cell 0 _ rfl; have h1 := (hS.1).cell 1 _ rfl; have h2 := (hS.1).cell 2 _ rfl; go_simp⟩) hS ?_
  refine wpAnyH_take (i := 1) (v := .int .i64 i) rfl (by kernel_rfl) (by kernel_rfl) (by kernel_rfl) (fun _ _ _ h => h) (Or.inl ⟨rfl, by intro w hS; go_simp⟩) hS ?_
  refine wpAnyH_take (i := 4) (v := .int .i64 j) rfl (by kernel_rfl) (by kernel_rfl) (by kernel_rfl) (fun _ _ _ h => h) (Or.inl ⟨rfl, by intro w hS; go_simp⟩) hS ?_
  refine wpAnyH_take (i := 7) (v := .int .i64 ms) rfl (by kernel_rfl) (by kernel_rfl) (by kernel_rfl) (fun _ _ _ h => h) (Or.inl ⟨rfl, by intro w hS; go_simp⟩) hS ?_
  refine wpAnyH_take (i := 8) (v := .int .i64 ms) rfl (by kernel_rfl) (by kernel_rfl) (by kernel_rfl) (fun _ _ _ h => h) (Or.inl ⟨rfl, by intro w hS; go_simp⟩) hS ?_
  refine wpAnyH_take (i := 9) (v := .agg #[.int .i64 m, .int .i64 c, .bool k, .bool s, .int .i64 v, .int .i64 x]) rfl (by kernel_rfl) (by kernel_rfl) (by kernel_rfl) (fun _ _ _ h => h) (Or.inl ⟨rfl, by intro w hS; have h0 := (hS.2).cell 0 _ rfl; have h1 := (hS.2).cell 1 _ rfl; have h2 := (hS.2).cell 2 _ rfl; have h3 := (hS.2).cell 3 _ rfl; have h4 := (hS.2).cell 4 _ rfl; have h5 := (hS.2).cell 5 _ rfl; go_simp⟩) hS ?_
  refine wpAnyH_ready (rs := [2]) (by kernel_rfl) (by simp) ?_
  refine AllReadyH.cons (i := 2) rfl (fun K hK => ?zr5) AllReadyH.nil
  rw [if_pos (by rfl)]
  go_simp
  clear hS
  refine (A1.out _).mono ?_
  rintro e v4 ⟨rfl, hb⟩
  replace hb := (Below.refl _ v3).drew.trans hb
  have B4 := Lib.hid (B3.out.trans (hb.mono B3.out.size))
  have KT4 := Lib.hid (KT3.out.below hb)
  have KO4 := Lib.hid (KO3.out.below hb)
  have KR4 := Lib.hid (KR3.out.below hb)
  clear hb B3 KT3 KO3 KR3
  refine hK.out _ _ ⟨KT4.out, KO4.out⟩ (fun hS => ?_)
  clear hK K
  refine wpAnyH_take (i := 3) (v := .agg #[.int .i64 i1, .string ⟨#[]⟩, .int .i64 0, .bool false, .bool false, .bool false]) rfl (by kernel_rfl) (by kernel_rfl) (by kernel_rfl) (fun _ _ _ h => h) (Or.inl ⟨rfl, by intro w hS; go_simp⟩) hS ?_
  refine wpAnyH_ready (rs := [5]) (by kernel_rfl) (by simp) ?_
  refine AllReadyH.cons (i := 5) rfl (fun K hK => ?zr6) AllReadyH.nil
  rw [if_pos (by rfl)]
  go_simp
  clear hS
  refine (A2.out _).mono ?_
  rintro e v5 ⟨rfl, hb⟩
  have B5 := Lib.hid (B4.out.trans (hb.mono B4.out.size))
  have KT5 := Lib.hid (KT4.out.below hb)
  have KO5 := Lib.hid (KO4.out.below hb)
  have KR5 := Lib.hid (KR4.out.below hb)
  clear hb B4 KT4 KO4 KR4
  refine hK.out _ _ ⟨KT5.out, KO5.out⟩ (fun hS => ?_)
  clear hK K
  refine wpAnyH_ready (rs := [6]) (by kernel_rfl) (by simp) ?_
  refine AllReadyH.cons (i := 6) rfl (fun K hK => ?zr7) AllReadyH.nil
  rw [if_pos (by rfl)]
  go_simp
  clear hS
  refine (A3.out _).mono ?_
  rintro e v6 ⟨rfl, hb⟩
  have B6 := Lib.hid (B5.out.trans (hb.mono B5.out.size))
  have KT6 := Lib.hid (KT5.out.below hb)
  have KO6 := Lib.hid (KO5.out.below hb)
  have KR6 := Lib.hid (KR5.out.below hb)
  clear hb B5 KT5 KO5 KR5
  refine hK.out _ _ ⟨KT6.out, KO6.out⟩ (fun hS => ?_)
  clear hK K
  refine wpAnyH_take (i := 10) (v := .agg #[.int .i64 p, .int .i64 q, .int .i64 r, .int .i64 1, .int .i64 i1, .string ⟨#[]⟩, .int .i64 0, .bool false, .bool false, .bool false, .int .i64 j2, .string ⟨#[]⟩, .slice none 0 0, .int .i64 (-1), .bool false, .int .i64 ms, .int .i64 ms, .int .i64 m, .int .i64 c, .bool k, .bool s, .int .i64 v, .int .i64 x, .int .i64 0, .int .i64 0]) rfl (by kernel_rfl) (by kernel_rfl) (by kernel_rfl) (fun _ _ _ h => h) (Or.inl ⟨rfl, by intro w hS; go_simp⟩) hS ?_
  refine wpAnyH_ready (rs := [11]) (by kernel_rfl) (by simp) ?_
  refine AllReadyH.cons (i := 11) rfl (fun K hK => ?zr8) AllReadyH.nil
  rw [if_pos (by rfl)]
  refine wp_store_blk (cs' := [.int .i64 p, .int .i64 q, .int .i64 r, .int .i64 1, .int .i64 i1, .string ⟨#[]⟩, .int .i64 0, .bool false, .bool false, .bool false, .int .i64 j2, .string ⟨#[]⟩, .slice none 0 0, .int .i64 (-1), .bool false, .int .i64 ms, .int .i64 ms, .int .i64 m, .int .i64 c, .bool k, .bool s, .int .i64 v, .int .i64 x, .int .i64 0, .int .i64 0]) 36 _ _ rfl rfl rfl KR6.out rfl (by kernel_rfl) rfl (fun v7 hB hg => ?_)
  clear hS
  have B7 := Lib.hid (B6.out.trans (grown_below hg l_R B6.out.size))
  have KT7 := Lib.hid (KT6.out.grown hg (n_T_R))
  have KO7 := Lib.hid (KO6.out.grown hg (n_O_R))
  have KR7 := Lib.hid hB
  clear hB hg B6 KT6 KO6 KR6
  refine hK.out _ _ ⟨KT7.out, KO7.out⟩ (fun hS => ?_)
  clear hK K
  refine wpAnyH_done (by kernel_rfl) ?_ _
  refine NoPanic.normal ?_
  go_wp2_with fail
  exact bodyPost_ret (v := .agg #[.int .i64 p, .int .i64 q, .int .i64 r, .int .i64 1, .int .i64 i1, .string ⟨#[]⟩, .int .i64 0, .bool false, .bool false, .bool false, .int .i64 j2, .string ⟨#[]⟩, .slice none 0 0, .int .i64 (-1), .bool false, .int .i64 ms, .int .i64 ms, .int .i64 m, .int .i64 c, .bool k, .bool s, .int .i64 v, .int .i64 x, .int .i64 0, .int .i64 0]) (blk_results rfl KR7.out rfl Try.underlying36 rfl (by kernel_rfl)) rfl ⟨rfl, B7.out⟩

set_option maxRecDepth 100000 in
set_option maxHeartbeats 8000000 in
theorem connNewS_01 (p q r i j m c : Int) (k s : Bool) (v x wd : Int) (w : World) (ho : optOk ⟨m, c, k, s, v, x⟩ = false) (hw : wordOk wd 16 = true) :
    Calls Try.prog 14 #[.agg #[.int .i64 p, .int .i64 q, .int .i64 r], .int .i64 i, .int .i64 j, .agg #[.int .i64 m, .int .i64 c, .bool k, .bool s, .int .i64 v, .int .i64 x], .int .i64 wd] w (EndCN p q r (pl (i + 1)) (pl (pl (j + 1))) ⟨0, -1, false, false, 0, 0⟩ (scaled wd (-1)) w) := by
  have OK := fun w => optionsOkS m c k s v x w
  rw [ho] at OK
  have WK := fun w => wordS_s wd 16 w
  rw [hw] at WK
  replace OK := Lib.hid OK
  replace WK := Lib.hid WK
  have A1 := fun w => seqAddS_s i 1 w
  have A2 := fun w => seqAddS_s j 1 w
  have A3 := fun w => rcvNewS (pl (j + 1)) w
  have NO := Lib.hid (fun w => noOptionsS w)
  have MX := fun w => l1Max_s 0 (-1) w
  obtain ⟨hcv, hsh⟩ := scaledS wd (-1) (by decide)
  generalize scaled wd (-1) = ms at hsh ⊢
  obtain ⟨kk, hkk⟩ : ∃ t, max 0 (-1) = t := ⟨_, rfl⟩
  rw [hkk] at MX hcv hsh
  clear hkk
  replace MX := Lib.hid MX
  unfold EndN0 at A3
  unfold EndCN
  generalize pl (pl (j + 1)) = j2 at A3 ⊢
  generalize pl (i + 1) = i1 at A1 ⊢
  generalize pl (j + 1) = j1 at A2 A3
  replace A1 := Lib.hid A1
  replace A2 := Lib.hid A2
  replace A3 := Lib.hid A3
  clear ho hw
  go_enter Try.func14, Try.ntmps14
  have B0 := Lib.hid (show Below w.heap.size w (((w.alloc (.cells #[.int .i64 p, .int .i64 q, .int .i64 r] 25)).alloc (.cells #[.int .i64 m, .int .i64 c, .bool k, .bool s, .int .i64 v, .int .i64 x] 27)).alloc (.cells #[.int .i64 0, .int .i64 0, .int .i64 0, .int .i64 0, .int .i64 0, .string ⟨#[]⟩, .int .i64 0, .bool false, .bool false, .bool false, .int .i64 0, .string ⟨#[]⟩, .slice none 0 0, .int .i64 0, .bool false, .int .i64 0, .int .i64 0, .int .i64 0, .int .i64 0, .bool false, .bool false, .int .i64 0, .int .i64 0, .int .i64 0, .int .i64 0] 36)) from ((((Below.refl _ w).alloc (by simp) _).alloc (by simp) _).alloc (by simp; omega) _))
  have KT0 := Lib.hid (show Blk (((w.alloc (.cells #[.int .i64 p, .int .i64 q, .int .i64 r] 25)).alloc (.cells #[.int .i64 m, .int .i64 c, .bool k, .bool s, .int .i64 v, .int .i64 x] 27)).alloc (.cells #[.int .i64 0, .int .i64 0, .int .i64 0, .int .i64 0, .int .i64 0, .string ⟨#[]⟩, .int .i64 0, .bool false, .bool false, .bool false, .int .i64 0, .string ⟨#[]⟩, .slice none 0 0, .int .i64 0, .bool false, .int .i64 0, .int .i64 0, .int .i64 0, .int .i64 0, .bool false, .bool false, .int .i64 0, .int .i64 0, .int .i64 0, .int .i64 0] 36)) (w.heap.size) [.int .i64 p, .int .i64 q, .int .i64 r] from ((Blk.new w [.int .i64 p, .int .i64 q, .int .i64 r] 25).alloc (.cells #[.int .i64 m, .int .i64 c, .bool k, .bool s, .int .i64 v, .int .i64 x] 27)).alloc (.cells #[.int .i64 0, .int .i64 0, .int .i64 0, .int .i64 0, .int .i64 0, .string ⟨#[]⟩, .int .i64 0, .bool false, .bool false, .bool false, .int .i64 0, .string ⟨#[]⟩, .slice none 0 0, .int .i64 0, .bool false, .int .i64 0, .int .i64 0, .int .i64 0, .int .i64 0, .bool false, .bool false, .int .i64 0, .int .i64 0, .int .i64 0, .int .i64 0] 36))
  have s1 : (w.alloc (.cells #[.int .i64 p, .int .i64 q, .int .i64 r] 25)).heap.size = w.heap.size + 1 := by simp
  have KO0 := Lib.hid (show Blk (((w.alloc (.cells #[.int .i64 p, .int .i64 q, .int .i64 r] 25)).alloc (.cells #[.int .i64 m, .int .i64 c, .bool k, .bool s, .int .i64 v, .int .i64 x] 27)).alloc (.cells #[.int .i64 0, .int .i64 0, .int .i64 0, .int .i64 0, .int .i64 0, .string ⟨#[]⟩, .int .i64 0, .bool false, .bool false, .bool false, .int .i64 0, .string ⟨#[]⟩, .slice none 0 0, .int .i64 0, .bool false, .int .i64 0, .int .i64 0, .int .i64 0, .int .i64 0, .bool false, .bool false, .int .i64 0, .int .i64 0, .int .i64 0, .int .i64 0] 36)) (w.heap.size + 1) [.int .i64 m, .int .i64 c, .bool k, .bool s, .int .i64 v, .int .i64 x] by have h0 := (Blk.new (w.alloc (.cells #[.int .i64 p, .int .i64 q, .int .i64 r] 25)) [.int .i64 m, .int .i64 c, .bool k, .bool s, .int .i64 v, .int .i64 x] 27).alloc (.cells #[.int .i64 0, .int .i64 0, .int .i64 0, .int .i64 0, .int .i64 0, .string ⟨#[]⟩, .int .i64 0, .bool false, .bool false, .bool false, .int .i64 0, .string ⟨#[]⟩, .slice none 0 0, .int .i64 0, .bool false, .int .i64 0, .int .i64 0, .int .i64 0, .int .i64 0, .bool false, .bool false, .int .i64 0, .int .i64 0, .int .i64 0, .int .i64 0] 36); rwa [s1] at h0)
  have n_T_O : w.heap.size ≠ w.heap.size + 1 := by omega
  have s2 : ((w.alloc (.cells #[.int .i64 p, .int .i64 q, .int .i64 r] 25)).alloc (.cells #[.int .i64 m, .int .i64 c, .bool k, .bool s, .int .i64 v, .int .i64 x] 27)).heap.size = w.heap.size + 1 + 1 := by simp
  have KR0 := Lib.hid (show Blk (((w.alloc (.cells #[.int .i64 p, .int .i64 q, .int .i64 r] 25)).alloc (.cells #[.int .i64 m, .int .i64 c, .bool k, .bool s, .int .i64 v, .int .i64 x] 27)).alloc (.cells #[.int .i64 0, .int .i64 0, .int .i64 0, .int .i64 0, .int .i64 0, .string ⟨#[]⟩, .int .i64 0, .bool false, .bool false, .bool false, .int .i64 0, .string ⟨#[]⟩, .slice none 0 0, .int .i64 0, .bool false, .int .i64 0, .int .i64 0, .int .i64 0, .int .i64 0, .bool false, .bool false, .int .i64 0, .int .i64 0, .int .i64 0, .int .i64 0] 36)) (w.heap.size + 1 + 1) [.int .i64 0, .int .i64 0, .int .i64 0, .int .i64 0, .int .i64 0, .string ⟨#[]⟩, .int .i64 0, .bool false, .bool false, .bool false, .int .i64 0, .string ⟨#[]⟩, .slice none 0 0, .int .i64 0, .bool false, .int .i64 0, .int .i64 0, .int .i64 0, .int .i64 0, .bool false, .bool false, .int .i64 0, .int .i64 0, .int .i64 0, .int .i64 0] by have h0 := Blk.new ((w.alloc (.cells #[.int .i64 p, .int .i64 q, .int .i64 r] 25)).alloc (.cells #[.int .i64 m, .int .i64 c, .bool k, .bool s, .int .i64 v, .int .i64 x] 27)) [.int .i64 0, .int .i64 0, .int .i64 0, .int .i64 0, .int .i64 0, .string ⟨#[]⟩, .int .i64 0, .bool false, .bool false, .bool false, .int .i64 0, .string ⟨#[]⟩, .slice none 0 0, .int .i64 0, .bool false, .int .i64 0, .int .i64 0, .int .i64 0, .int .i64 0, .bool false, .bool false, .int .i64 0, .int .i64 0, .int .i64 0, .int .i64 0] 36; rwa [s2] at h0)
  have n_T_R : w.heap.size ≠ w.heap.size + 1 + 1 := by omega
  have n_O_R : w.heap.size + 1 ≠ w.heap.size + 1 + 1 := by omega
  clear s1 s2
  go_upto_region 1 with fail
  generalize ((w.alloc (.cells #[.int .i64 p, .int .i64 q, .int .i64 r] 25)).alloc (.cells #[.int .i64 m, .int .i64 c, .bool k, .bool s, .int .i64 v, .int .i64 x] 27)).alloc (.cells #[.int .i64 0, .int .i64 0, .int .i64 0, .int .i64 0, .int .i64 0, .string ⟨#[]⟩, .int .i64 0, .bool false, .bool false, .bool false, .int .i64 0, .string ⟨#[]⟩, .slice none 0 0, .int .i64 0, .bool false, .int .i64 0, .int .i64 0, .int .i64 0, .int .i64 0, .bool false, .bool false, .int .i64 0, .int .i64 0, .int .i64 0, .int .i64 0] 36) = v0 at B0 KT0 KO0 KR0 ⊢
  generalize hh_R : w.heap.size + 1 + 1 = g_R at KR0 n_T_R n_O_R ⊢
  generalize hh_O : w.heap.size + 1 = g_O at KO0 n_T_O n_O_R ⊢
  generalize hh_T : w.heap.size = g_T at KT0 n_T_O n_T_R ⊢
  have l_T : w.heap.size ≤ g_T := by omega
  have l_O : w.heap.size ≤ g_O := by omega
  have l_R : w.heap.size ≤ g_R := by omega
  clear hh_T hh_O hh_R
  have cT0 : v0.cell? ⟨g_T, 0, none⟩ = some (.int .i64 p) := KT0.out.cell 0 _ rfl
  have cT1 : v0.cell? ⟨g_T, 1, none⟩ = some (.int .i64 q) := KT0.out.cell 1 _ rfl
  have cT2 : v0.cell? ⟨g_T, 2, none⟩ = some (.int .i64 r) := KT0.out.cell 2 _ rfl
  have cO0 : v0.cell? ⟨g_O, 0, none⟩ = some (.int .i64 m) := KO0.out.cell 0 _ rfl
  have dO0 := KO0.out.open 0
  have cO1 : v0.cell? ⟨g_O, 1, none⟩ = some (.int .i64 c) := KO0.out.cell 1 _ rfl
  have dO1 := KO0.out.open 1
  have cO2 : v0.cell? ⟨g_O, 2, none⟩ = some (.bool k) := KO0.out.cell 2 _ rfl
  have dO2 := KO0.out.open 2
  have cO3 : v0.cell? ⟨g_O, 3, none⟩ = some (.bool s) := KO0.out.cell 3 _ rfl
  have dO3 := KO0.out.open 3
  have cO4 : v0.cell? ⟨g_O, 4, none⟩ = some (.int .i64 v) := KO0.out.cell 4 _ rfl
  have dO4 := KO0.out.open 4
  have cO5 : v0.cell? ⟨g_O, 5, none⟩ = some (.int .i64 x) := KO0.out.cell 5 _ rfl
  have dO5 := KO0.out.open 5
  go_wp2_with fail
  clear cT0 cT1 cT2 cO0 dO0 cO1 dO1 cO2 dO2 cO3 dO3 cO4 dO4 cO5 dO5
  refine (OK.out _).mono ?_
  rintro e v1 ⟨rfl, hb⟩
  have B1 := Lib.hid (B0.out.trans (hb.mono B0.out.size))
  have KT1 := Lib.hid (KT0.out.below hb)
  have KO1 := Lib.hid (KO0.out.below hb)
  have KR1 := Lib.hid (KR0.out.below hb)
  clear hb B0 KT0 KO0 KR0
  have cT0 : v1.cell? ⟨g_T, 0, none⟩ = some (.int .i64 p) := KT1.out.cell 0 _ rfl
  have cT1 : v1.cell? ⟨g_T, 1, none⟩ = some (.int .i64 q) := KT1.out.cell 1 _ rfl
  have cT2 : v1.cell? ⟨g_T, 2, none⟩ = some (.int .i64 r) := KT1.out.cell 2 _ rfl
  have cO0 : v1.cell? ⟨g_O, 0, none⟩ = some (.int .i64 m) := KO1.out.cell 0 _ rfl
  have dO0 := KO1.out.open 0
  have cO1 : v1.cell? ⟨g_O, 1, none⟩ = some (.int .i64 c) := KO1.out.cell 1 _ rfl
  have dO1 := KO1.out.open 1
  have cO2 : v1.cell? ⟨g_O, 2, none⟩ = some (.bool k) := KO1.out.cell 2 _ rfl
  have dO2 := KO1.out.open 2
  have cO3 : v1.cell? ⟨g_O, 3, none⟩ = some (.bool s) := KO1.out.cell 3 _ rfl
  have dO3 := KO1.out.open 3
  have cO4 : v1.cell? ⟨g_O, 4, none⟩ = some (.int .i64 v) := KO1.out.cell 4 _ rfl
  have dO4 := KO1.out.open 4
  have cO5 : v1.cell? ⟨g_O, 5, none⟩ = some (.int .i64 x) := KO1.out.cell 5 _ rfl
  have dO5 := KO1.out.open 5
  go_wp2_with fail
  clear cT0 cT1 cT2 cO0 dO0 cO1 dO1 cO2 dO2 cO3 dO3 cO4 dO4 cO5 dO5
  refine (NO.out _).mono ?_
  rintro e v2 ⟨rfl, hb⟩
  have B2 := Lib.hid (B1.out.trans (hb.mono B1.out.size))
  have KT2 := Lib.hid (KT1.out.below hb)
  have KO2 := Lib.hid (KO1.out.below hb)
  have KR2 := Lib.hid (KR1.out.below hb)
  clear hb B1 KT1 KO1 KR1
  have cT0 : v2.cell? ⟨g_T, 0, none⟩ = some (.int .i64 p) := KT2.out.cell 0 _ rfl
  have cT1 : v2.cell? ⟨g_T, 1, none⟩ = some (.int .i64 q) := KT2.out.cell 1 _ rfl
  have cT2 : v2.cell? ⟨g_T, 2, none⟩ = some (.int .i64 r) := KT2.out.cell 2 _ rfl
  have cO0 : v2.cell? ⟨g_O, 0, none⟩ = some (.int .i64 m) := KO2.out.cell 0 _ rfl
  have dO0 := KO2.out.open 0
  have cO1 : v2.cell? ⟨g_O, 1, none⟩ = some (.int .i64 c) := KO2.out.cell 1 _ rfl
  have dO1 := KO2.out.open 1
  have cO2 : v2.cell? ⟨g_O, 2, none⟩ = some (.bool k) := KO2.out.cell 2 _ rfl
  have dO2 := KO2.out.open 2
  have cO3 : v2.cell? ⟨g_O, 3, none⟩ = some (.bool s) := KO2.out.cell 3 _ rfl
  have dO3 := KO2.out.open 3
  have cO4 : v2.cell? ⟨g_O, 4, none⟩ = some (.int .i64 v) := KO2.out.cell 4 _ rfl
  have dO4 := KO2.out.open 4
  have cO5 : v2.cell? ⟨g_O, 5, none⟩ = some (.int .i64 x) := KO2.out.cell 5 _ rfl
  have dO5 := KO2.out.open 5
  have KT3 := Lib.hid (show Blk ((((((v2.setCell ⟨g_O, 0, none⟩ (.int .i64 0)).setCell ⟨g_O, 1, none⟩ (.int .i64 (-1))).setCell ⟨g_O, 2, none⟩ (.bool false)).setCell ⟨g_O, 3, none⟩ (.bool false)).setCell ⟨g_O, 4, none⟩ (.int .i64 0)).setCell ⟨g_O, 5, none⟩ (.int .i64 0)) g_T [.int .i64 p, .int .i64 q, .int .i64 r] from ((((((KT2.out.setOther ⟨g_O, 0, none⟩ (.int .i64 0) (n_T_O)).setOther ⟨g_O, 1, none⟩ (.int .i64 (-1)) (n_T_O)).setOther ⟨g_O, 2, none⟩ (.bool false) (n_T_O)).setOther ⟨g_O, 3, none⟩ (.bool false) (n_T_O)).setOther ⟨g_O, 4, none⟩ (.int .i64 0) (n_T_O)).setOther ⟨g_O, 5, none⟩ (.int .i64 0) (n_T_O)))
  have KO3 := Lib.hid (show Blk ((((((v2.setCell ⟨g_O, 0, none⟩ (.int .i64 0)).setCell ⟨g_O, 1, none⟩ (.int .i64 (-1))).setCell ⟨g_O, 2, none⟩ (.bool false)).setCell ⟨g_O, 3, none⟩ (.bool false)).setCell ⟨g_O, 4, none⟩ (.int .i64 0)).setCell ⟨g_O, 5, none⟩ (.int .i64 0)) g_O [.int .i64 0, .int .i64 (-1), .bool false, .bool false, .int .i64 0, .int .i64 0] from ((((((KO2.out.set 0 (.int .i64 0)).set 1 (.int .i64 (-1))).set 2 (.bool false)).set 3 (.bool false)).set 4 (.int .i64 0)).set 5 (.int .i64 0)))
  have KR3 := Lib.hid (show Blk ((((((v2.setCell ⟨g_O, 0, none⟩ (.int .i64 0)).setCell ⟨g_O, 1, none⟩ (.int .i64 (-1))).setCell ⟨g_O, 2, none⟩ (.bool false)).setCell ⟨g_O, 3, none⟩ (.bool false)).setCell ⟨g_O, 4, none⟩ (.int .i64 0)).setCell ⟨g_O, 5, none⟩ (.int .i64 0)) g_R [.int .i64 0, .int .i64 0, .int .i64 0, .int .i64 0, .int .i64 0, .string ⟨#[]⟩, .int .i64 0, .bool false, .bool false, .bool false, .int .i64 0, .string ⟨#[]⟩, .slice none 0 0, .int .i64 0, .bool false, .int .i64 0, .int .i64 0, .int .i64 0, .int .i64 0, .bool false, .bool false, .int .i64 0, .int .i64 0, .int .i64 0, .int .i64 0] from ((((((KR2.out.setOther ⟨g_O, 0, none⟩ (.int .i64 0) (fun e => n_O_R e.symm)).setOther ⟨g_O, 1, none⟩ (.int .i64 (-1)) (fun e => n_O_R e.symm)).setOther ⟨g_O, 2, none⟩ (.bool false) (fun e => n_O_R e.symm)).setOther ⟨g_O, 3, none⟩ (.bool false) (fun e => n_O_R e.symm)).setOther ⟨g_O, 4, none⟩ (.int .i64 0) (fun e => n_O_R e.symm)).setOther ⟨g_O, 5, none⟩ (.int .i64 0) (fun e => n_O_R e.symm)))
  have B3 := Lib.hid (show Below w.heap.size w ((((((v2.setCell ⟨g_O, 0, none⟩ (.int .i64 0)).setCell ⟨g_O, 1, none⟩ (.int .i64 (-1))).setCell ⟨g_O, 2, none⟩ (.bool false)).setCell ⟨g_O, 3, none⟩ (.bool false)).setCell ⟨g_O, 4, none⟩ (.int .i64 0)).setCell ⟨g_O, 5, none⟩ (.int .i64 0)) from ((((((B2.out.setCell l_O (.int .i64 0)).setCell l_O (.int .i64 (-1))).setCell l_O (.bool false)).setCell l_O (.bool false)).setCell l_O (.int .i64 0)).setCell l_O (.int .i64 0)))
  clear B2
  go_wp2_with fail
  clear KT2 KO2 KR2
  clear cT0 cT1 cT2 cO0 dO0 cO1 dO1 cO2 dO2 cO3 dO3 cO4 dO4 cO5 dO5
  change Calls _ _ _ ((((((v2.setCell ⟨g_O, 0, none⟩ (.int .i64 0)).setCell ⟨g_O, 1, none⟩ (.int .i64 (-1))).setCell ⟨g_O, 2, none⟩ (.bool false)).setCell ⟨g_O, 3, none⟩ (.bool false)).setCell ⟨g_O, 4, none⟩ (.int .i64 0)).setCell ⟨g_O, 5, none⟩ (.int .i64 0)) _
  generalize (((((v2.setCell ⟨g_O, 0, none⟩ (.int .i64 0)).setCell ⟨g_O, 1, none⟩ (.int .i64 (-1))).setCell ⟨g_O, 2, none⟩ (.bool false)).setCell ⟨g_O, 3, none⟩ (.bool false)).setCell ⟨g_O, 4, none⟩ (.int .i64 0)).setCell ⟨g_O, 5, none⟩ (.int .i64 0) = v3 at B3 KT3 KO3 KR3 ⊢
  refine (WK.out _).mono ?_
  rintro e v4 ⟨rfl, hb⟩
  have B4 := Lib.hid (B3.out.trans (hb.mono B3.out.size))
  have KT4 := Lib.hid (KT3.out.below hb)
  have KO4 := Lib.hid (KO3.out.below hb)
  have KR4 := Lib.hid (KR3.out.below hb)
  clear hb B3 KT3 KO3 KR3
  have cT0 : v4.cell? ⟨g_T, 0, none⟩ = some (.int .i64 p) := KT4.out.cell 0 _ rfl
  have cT1 : v4.cell? ⟨g_T, 1, none⟩ = some (.int .i64 q) := KT4.out.cell 1 _ rfl
  have cT2 : v4.cell? ⟨g_T, 2, none⟩ = some (.int .i64 r) := KT4.out.cell 2 _ rfl
  have cO0 : v4.cell? ⟨g_O, 0, none⟩ = some (.int .i64 0) := KO4.out.cell 0 _ rfl
  have dO0 := KO4.out.open 0
  have cO1 : v4.cell? ⟨g_O, 1, none⟩ = some (.int .i64 (-1)) := KO4.out.cell 1 _ rfl
  have dO1 := KO4.out.open 1
  have cO2 : v4.cell? ⟨g_O, 2, none⟩ = some (.bool false) := KO4.out.cell 2 _ rfl
  have dO2 := KO4.out.open 2
  have cO3 : v4.cell? ⟨g_O, 3, none⟩ = some (.bool false) := KO4.out.cell 3 _ rfl
  have dO3 := KO4.out.open 3
  have cO4 : v4.cell? ⟨g_O, 4, none⟩ = some (.int .i64 0) := KO4.out.cell 4 _ rfl
  have dO4 := KO4.out.open 4
  have cO5 : v4.cell? ⟨g_O, 5, none⟩ = some (.int .i64 0) := KO4.out.cell 5 _ rfl
  have dO5 := KO4.out.open 5
  go_wp2_with fail
  clear cT0 cT1 cT2 cO0 dO0 cO1 dO1 cO2 dO2 cO3 dO3 cO4 dO4 cO5 dO5
  refine (MX.out _).mono ?_
  rintro e v5 ⟨rfl, hb⟩
  have B5 := Lib.hid (B4.out.trans (hb.mono B4.out.size))
  have KT5 := Lib.hid (KT4.out.below hb)
  have KO5 := Lib.hid (KO4.out.below hb)
  have KR5 := Lib.hid (KR4.out.below hb)
  clear hb B4 KT4 KO4 KR4
  have cT0 : v5.cell? ⟨g_T, 0, none⟩ = some (.int .i64 p) := KT5.out.cell 0 _ rfl
  have cT1 : v5.cell? ⟨g_T, 1, none⟩ = some (.int .i64 q) := KT5.out.cell 1 _ rfl
  have cT2 : v5.cell? ⟨g_T, 2, none⟩ = some (.int .i64 r) := KT5.out.cell 2 _ rfl
  have cO0 : v5.cell? ⟨g_O, 0, none⟩ = some (.int .i64 0) := KO5.out.cell 0 _ rfl
  have dO0 := KO5.out.open 0
  have cO1 : v5.cell? ⟨g_O, 1, none⟩ = some (.int .i64 (-1)) := KO5.out.cell 1 _ rfl
  have dO1 := KO5.out.open 1
  have cO2 : v5.cell? ⟨g_O, 2, none⟩ = some (.bool false) := KO5.out.cell 2 _ rfl
  have dO2 := KO5.out.open 2
  have cO3 : v5.cell? ⟨g_O, 3, none⟩ = some (.bool false) := KO5.out.cell 3 _ rfl
  have dO3 := KO5.out.open 3
  have cO4 : v5.cell? ⟨g_O, 4, none⟩ = some (.int .i64 0) := KO5.out.cell 4 _ rfl
  have dO4 := KO5.out.open 4
  have cO5 : v5.cell? ⟨g_O, 5, none⟩ = some (.int .i64 0) := KO5.out.cell 5 _ rfl
  have dO5 := KO5.out.open 5
  go_upto_region 6 with fail
  clear cT0 cT1 cT2 cO0 dO0 cO1 dO1 cO2 dO2 cO3 dO3 cO4 dO4 cO5 dO5
  refine wp_region_noPanic ?_
  refine wp_region_held_drew (S := fun w' => Blk w' g_T [.int .i64 p, .int .i64 q, .int .i64 r] ∧ Blk w' g_O [.int .i64 0, .int .i64 (-1), .bool false, .bool false, .int .i64 0, .int .i64 0]) (by kernel_rfl) ⟨KT5.out, KO5.out⟩ (fun hS => ?_)
  refine wpAnyH_take (i := 0) (v := .agg #[.int .i64 p, .int .i64 q, .int .i64 r]) rfl (by kernel_rfl) (by kernel_rfl) (by kernel_rfl) (fun _ _ _ h => h) (Or.inl ⟨rfl, by intro w hS; have h0 := (hS.1).cell 0 _ rfl; have h1 := (hS.1).cell 1 _ rfl; have h2 := (hS.1).cell 2 _ rfl; go_simp⟩) hS ?_
  refine wpAnyH_take (i := 1) (v := .int .i64 i) rfl (by kernel_rfl) (by kernel_rfl) (by kernel_rfl) (fun _ _ _ h => h) (Or.inl ⟨rfl, by intro w hS; go_simp⟩) hS ?_
  refine wpAnyH_take (i := 4) (v := .int .i64 j) rfl (by kernel_rfl) (by kernel_rfl) (by kernel_rfl) (fun _ _ _ h => h) (Or.inl ⟨rfl, by intro w hS; go_simp⟩) hS ?_
  refine wpAnyH_take (i := 7) (v := .int .i64 ms) rfl (by kernel_rfl) (by kernel_rfl) (by kernel_rfl) (fun _ _ _ h => h) (Or.inl ⟨rfl, by intro w hS; go_simp⟩) hS ?_
  refine wpAnyH_take (i := 8) (v := .int .i64 ms) rfl (by kernel_rfl) (by kernel_rfl) (by kernel_rfl) (fun _ _ _ h => h) (Or.inl ⟨rfl, by intro w hS; go_simp⟩) hS ?_
  refine wpAnyH_take (i := 9) (v := .agg #[.int .i64 0, .int .i64 (-1), .bool false, .bool false, .int .i64 0, .int .i64 0]) rfl (by kernel_rfl) (by kernel_rfl) (by kernel_rfl) (fun _ _ _ h => h) (Or.inl ⟨rfl, by intro w hS; have h0 := (hS.2).cell 0 _ rfl; have h1 := (hS.2).cell 1 _ rfl; have h2 := (hS.2).cell 2 _ rfl; have h3 := (hS.2).cell 3 _ rfl; have h4 := (hS.2).cell 4 _ rfl; have h5 := (hS.2).cell 5 _ rfl; go_simp⟩) hS ?_
  refine wpAnyH_ready (rs := [2]) (by kernel_rfl) (by simp) ?_
  refine AllReadyH.cons (i := 2) rfl (fun K hK => ?zr9) AllReadyH.nil
  rw [if_pos (by rfl)]
  go_simp
  clear hS
  refine (A1.out _).mono ?_
  rintro e v6 ⟨rfl, hb⟩
  replace hb := (Below.refl _ v5).drew.trans hb
  have B6 := Lib.hid (B5.out.trans (hb.mono B5.out.size))
  have KT6 := Lib.hid (KT5.out.below hb)
  have KO6 := Lib.hid (KO5.out.below hb)
  have KR6 := Lib.hid (KR5.out.below hb)
  clear hb B5 KT5 KO5 KR5
  refine hK.out _ _ ⟨KT6.out, KO6.out⟩ (fun hS => ?_)
  clear hK K
  refine wpAnyH_take (i := 3) (v := .agg #[.int .i64 i1, .string ⟨#[]⟩, .int .i64 0, .bool false, .bool false, .bool false]) rfl (by kernel_rfl) (by kernel_rfl) (by kernel_rfl) (fun _ _ _ h => h) (Or.inl ⟨rfl, by intro w hS; go_simp⟩) hS ?_
  refine wpAnyH_ready (rs := [5]) (by kernel_rfl) (by simp) ?_
  refine AllReadyH.cons (i := 5) rfl (fun K hK => ?zr10) AllReadyH.nil
  rw [if_pos (by rfl)]
  go_simp
  clear hS
  refine (A2.out _).mono ?_
  rintro e v7 ⟨rfl, hb⟩
  have B7 := Lib.hid (B6.out.trans (hb.mono B6.out.size))
  have KT7 := Lib.hid (KT6.out.below hb)
  have KO7 := Lib.hid (KO6.out.below hb)
  have KR7 := Lib.hid (KR6.out.below hb)
  clear hb B6 KT6 KO6 KR6
  refine hK.out _ _ ⟨KT7.out, KO7.out⟩ (fun hS => ?_)
  clear hK K
  refine wpAnyH_ready (rs := [6]) (by kernel_rfl) (by simp) ?_
  refine AllReadyH.cons (i := 6) rfl (fun K hK => ?zr11) AllReadyH.nil
  rw [if_pos (by rfl)]
  go_simp
  clear hS
  refine (A3.out _).mono ?_
  rintro e v8 ⟨rfl, hb⟩
  have B8 := Lib.hid (B7.out.trans (hb.mono B7.out.size))
  have KT8 := Lib.hid (KT7.out.below hb)
  have KO8 := Lib.hid (KO7.out.below hb)
  have KR8 := Lib.hid (KR7.out.below hb)
  clear hb B7 KT7 KO7 KR7
  refine hK.out _ _ ⟨KT8.out, KO8.out⟩ (fun hS => ?_)
  clear hK K
  refine wpAnyH_take (i := 10) (v := .agg #[.int .i64 p, .int .i64 q, .int .i64 r, .int .i64 1, .int .i64 i1, .string ⟨#[]⟩, .int .i64 0, .bool false, .bool false, .bool false, .int .i64 j2, .string ⟨#[]⟩, .slice none 0 0, .int .i64 (-1), .bool false, .int .i64 ms, .int .i64 ms, .int .i64 0, .int .i64 (-1), .bool false, .bool false, .int .i64 0, .int .i64 0, .int .i64 0, .int .i64 0]) rfl (by kernel_rfl) (by kernel_rfl) (by kernel_rfl) (fun _ _ _ h => h) (Or.inl ⟨rfl, by intro w hS; go_simp⟩) hS ?_
  refine wpAnyH_ready (rs := [11]) (by kernel_rfl) (by simp) ?_
  refine AllReadyH.cons (i := 11) rfl (fun K hK => ?zr12) AllReadyH.nil
  rw [if_pos (by rfl)]
  refine wp_store_blk (cs' := [.int .i64 p, .int .i64 q, .int .i64 r, .int .i64 1, .int .i64 i1, .string ⟨#[]⟩, .int .i64 0, .bool false, .bool false, .bool false, .int .i64 j2, .string ⟨#[]⟩, .slice none 0 0, .int .i64 (-1), .bool false, .int .i64 ms, .int .i64 ms, .int .i64 0, .int .i64 (-1), .bool false, .bool false, .int .i64 0, .int .i64 0, .int .i64 0, .int .i64 0]) 36 _ _ rfl rfl rfl KR8.out rfl (by kernel_rfl) rfl (fun v9 hB hg => ?_)
  clear hS
  have B9 := Lib.hid (B8.out.trans (grown_below hg l_R B8.out.size))
  have KT9 := Lib.hid (KT8.out.grown hg (n_T_R))
  have KO9 := Lib.hid (KO8.out.grown hg (n_O_R))
  have KR9 := Lib.hid hB
  clear hB hg B8 KT8 KO8 KR8
  refine hK.out _ _ ⟨KT9.out, KO9.out⟩ (fun hS => ?_)
  clear hK K
  refine wpAnyH_done (by kernel_rfl) ?_ _
  refine NoPanic.normal ?_
  go_wp2_with fail
  exact bodyPost_ret (v := .agg #[.int .i64 p, .int .i64 q, .int .i64 r, .int .i64 1, .int .i64 i1, .string ⟨#[]⟩, .int .i64 0, .bool false, .bool false, .bool false, .int .i64 j2, .string ⟨#[]⟩, .slice none 0 0, .int .i64 (-1), .bool false, .int .i64 ms, .int .i64 ms, .int .i64 0, .int .i64 (-1), .bool false, .bool false, .int .i64 0, .int .i64 0, .int .i64 0, .int .i64 0]) (blk_results rfl KR9.out rfl Try.underlying36 rfl (by kernel_rfl)) rfl ⟨rfl, B9.out⟩

set_option maxRecDepth 100000 in
set_option maxHeartbeats 8000000 in
theorem connNewS_00 (p q r i j m c : Int) (k s : Bool) (v x wd : Int) (w : World) (ho : optOk ⟨m, c, k, s, v, x⟩ = false) (hw : wordOk wd 16 = false) :
    Calls Try.prog 14 #[.agg #[.int .i64 p, .int .i64 q, .int .i64 r], .int .i64 i, .int .i64 j, .agg #[.int .i64 m, .int .i64 c, .bool k, .bool s, .int .i64 v, .int .i64 x], .int .i64 wd] w (EndCN p q r (pl (i + 1)) (pl (pl (j + 1))) ⟨0, -1, false, false, 0, 0⟩ (scaled 0 (-1)) w) := by
  have OK := fun w => optionsOkS m c k s v x w
  rw [ho] at OK
  have WK := fun w => wordS_s wd 16 w
  rw [hw] at WK
  replace OK := Lib.hid OK
  replace WK := Lib.hid WK
  have A1 := fun w => seqAddS_s i 1 w
  have A2 := fun w => seqAddS_s j 1 w
  have A3 := fun w => rcvNewS (pl (j + 1)) w
  have NO := Lib.hid (fun w => noOptionsS w)
  have MX := fun w => l1Max_s 0 (-1) w
  obtain ⟨hcv, hsh⟩ := scaledS 0 (-1) (by decide)
  generalize scaled 0 (-1) = ms at hsh ⊢
  obtain ⟨kk, hkk⟩ : ∃ t, max 0 (-1) = t := ⟨_, rfl⟩
  rw [hkk] at MX hcv hsh
  clear hkk
  replace MX := Lib.hid MX
  unfold EndN0 at A3
  unfold EndCN
  generalize pl (pl (j + 1)) = j2 at A3 ⊢
  generalize pl (i + 1) = i1 at A1 ⊢
  generalize pl (j + 1) = j1 at A2 A3
  replace A1 := Lib.hid A1
  replace A2 := Lib.hid A2
  replace A3 := Lib.hid A3
  clear ho hw
  go_enter Try.func14, Try.ntmps14
  have B0 := Lib.hid (show Below w.heap.size w (((w.alloc (.cells #[.int .i64 p, .int .i64 q, .int .i64 r] 25)).alloc (.cells #[.int .i64 m, .int .i64 c, .bool k, .bool s, .int .i64 v, .int .i64 x] 27)).alloc (.cells #[.int .i64 0, .int .i64 0, .int .i64 0, .int .i64 0, .int .i64 0, .string ⟨#[]⟩, .int .i64 0, .bool false, .bool false, .bool false, .int .i64 0, .string ⟨#[]⟩, .slice none 0 0, .int .i64 0, .bool false, .int .i64 0, .int .i64 0, .int .i64 0, .int .i64 0, .bool false, .bool false, .int .i64 0, .int .i64 0, .int .i64 0, .int .i64 0] 36)) from ((((Below.refl _ w).alloc (by simp) _).alloc (by simp) _).alloc (by simp; omega) _))
  have KT0 := Lib.hid (show Blk (((w.alloc (.cells #[.int .i64 p, .int .i64 q, .int .i64 r] 25)).alloc (.cells #[.int .i64 m, .int .i64 c, .bool k, .bool s, .int .i64 v, .int .i64 x] 27)).alloc (.cells #[.int .i64 0, .int .i64 0, .int .i64 0, .int .i64 0, .int .i64 0, .string ⟨#[]⟩, .int .i64 0, .bool false, .bool false, .bool false, .int .i64 0, .string ⟨#[]⟩, .slice none 0 0, .int .i64 0, .bool false, .int .i64 0, .int .i64 0, .int .i64 0, .int .i64 0, .bool false, .bool false, .int .i64 0, .int .i64 0, .int .i64 0, .int .i64 0] 36)) (w.heap.size) [.int .i64 p, .int .i64 q, .int .i64 r] from ((Blk.new w [.int .i64 p, .int .i64 q, .int .i64 r] 25).alloc (.cells #[.int .i64 m, .int .i64 c, .bool k, .bool s, .int .i64 v, .int .i64 x] 27)).alloc (.cells #[.int .i64 0, .int .i64 0, .int .i64 0, .int .i64 0, .int .i64 0, .string ⟨#[]⟩, .int .i64 0, .bool false, .bool false, .bool false, .int .i64 0, .string ⟨#[]⟩, .slice none 0 0, .int .i64 0, .bool false, .int .i64 0, .int .i64 0, .int .i64 0, .int .i64 0, .bool false, .bool false, .int .i64 0, .int .i64 0, .int .i64 0, .int .i64 0] 36))
  have s1 : (w.alloc (.cells #[.int .i64 p, .int .i64 q, .int .i64 r] 25)).heap.size = w.heap.size + 1 := by simp
  have KO0 := Lib.hid (show Blk (((w.alloc (.cells #[.int .i64 p, .int .i64 q, .int .i64 r] 25)).alloc (.cells #[.int .i64 m, .int .i64 c, .bool k, .bool s, .int .i64 v, .int .i64 x] 27)).alloc (.cells #[.int .i64 0, .int .i64 0, .int .i64 0, .int .i64 0, .int .i64 0, .string ⟨#[]⟩, .int .i64 0, .bool false, .bool false, .bool false, .int .i64 0, .string ⟨#[]⟩, .slice none 0 0, .int .i64 0, .bool false, .int .i64 0, .int .i64 0, .int .i64 0, .int .i64 0, .bool false, .bool false, .int .i64 0, .int .i64 0, .int .i64 0, .int .i64 0] 36)) (w.heap.size + 1) [.int .i64 m, .int .i64 c, .bool k, .bool s, .int .i64 v, .int .i64 x] by have h0 := (Blk.new (w.alloc (.cells #[.int .i64 p, .int .i64 q, .int .i64 r] 25)) [.int .i64 m, .int .i64 c, .bool k, .bool s, .int .i64 v, .int .i64 x] 27).alloc (.cells #[.int .i64 0, .int .i64 0, .int .i64 0, .int .i64 0, .int .i64 0, .string ⟨#[]⟩, .int .i64 0, .bool false, .bool false, .bool false, .int .i64 0, .string ⟨#[]⟩, .slice none 0 0, .int .i64 0, .bool false, .int .i64 0, .int .i64 0, .int .i64 0, .int .i64 0, .bool false, .bool false, .int .i64 0, .int .i64 0, .int .i64 0, .int .i64 0] 36); rwa [s1] at h0)
  have n_T_O : w.heap.size ≠ w.heap.size + 1 := by omega
  have s2 : ((w.alloc (.cells #[.int .i64 p, .int .i64 q, .int .i64 r] 25)).alloc (.cells #[.int .i64 m, .int .i64 c, .bool k, .bool s, .int .i64 v, .int .i64 x] 27)).heap.size = w.heap.size + 1 + 1 := by simp
  have KR0 := Lib.hid (show Blk (((w.alloc (.cells #[.int .i64 p, .int .i64 q, .int .i64 r] 25)).alloc (.cells #[.int .i64 m, .int .i64 c, .bool k, .bool s, .int .i64 v, .int .i64 x] 27)).alloc (.cells #[.int .i64 0, .int .i64 0, .int .i64 0, .int .i64 0, .int .i64 0, .string ⟨#[]⟩, .int .i64 0, .bool false, .bool false, .bool false, .int .i64 0, .string ⟨#[]⟩, .slice none 0 0, .int .i64 0, .bool false, .int .i64 0, .int .i64 0, .int .i64 0, .int .i64 0, .bool false, .bool false, .int .i64 0, .int .i64 0, .int .i64 0, .int .i64 0] 36)) (w.heap.size + 1 + 1) [.int .i64 0, .int .i64 0, .int .i64 0, .int .i64 0, .int .i64 0, .string ⟨#[]⟩, .int .i64 0, .bool false, .bool false, .bool false, .int .i64 0, .string ⟨#[]⟩, .slice none 0 0, .int .i64 0, .bool false, .int .i64 0, .int .i64 0, .int .i64 0, .int .i64 0, .bool false, .bool false, .int .i64 0, .int .i64 0, .int .i64 0, .int .i64 0] by have h0 := Blk.new ((w.alloc (.cells #[.int .i64 p, .int .i64 q, .int .i64 r] 25)).alloc (.cells #[.int .i64 m, .int .i64 c, .bool k, .bool s, .int .i64 v, .int .i64 x] 27)) [.int .i64 0, .int .i64 0, .int .i64 0, .int .i64 0, .int .i64 0, .string ⟨#[]⟩, .int .i64 0, .bool false, .bool false, .bool false, .int .i64 0, .string ⟨#[]⟩, .slice none 0 0, .int .i64 0, .bool false, .int .i64 0, .int .i64 0, .int .i64 0, .int .i64 0, .bool false, .bool false, .int .i64 0, .int .i64 0, .int .i64 0, .int .i64 0] 36; rwa [s2] at h0)
  have n_T_R : w.heap.size ≠ w.heap.size + 1 + 1 := by omega
  have n_O_R : w.heap.size + 1 ≠ w.heap.size + 1 + 1 := by omega
  clear s1 s2
  go_upto_region 1 with fail
  generalize ((w.alloc (.cells #[.int .i64 p, .int .i64 q, .int .i64 r] 25)).alloc (.cells #[.int .i64 m, .int .i64 c, .bool k, .bool s, .int .i64 v, .int .i64 x] 27)).alloc (.cells #[.int .i64 0, .int .i64 0, .int .i64 0, .int .i64 0, .int .i64 0, .string ⟨#[]⟩, .int .i64 0, .bool false, .bool false, .bool false, .int .i64 0, .string ⟨#[]⟩, .slice none 0 0, .int .i64 0, .bool false, .int .i64 0, .int .i64 0, .int .i64 0, .int .i64 0, .bool false, .bool false, .int .i64 0, .int .i64 0, .int .i64 0, .int .i64 0] 36) = v0 at B0 KT0 KO0 KR0 ⊢
  generalize hh_R : w.heap.size + 1 + 1 = g_R at KR0 n_T_R n_O_R ⊢
  generalize hh_O : w.heap.size + 1 = g_O at KO0 n_T_O n_O_R ⊢
  generalize hh_T : w.heap.size = g_T at KT0 n_T_O n_T_R ⊢
  have l_T : w.heap.size ≤ g_T := by omega
  have l_O : w.heap.size ≤ g_O := by omega
  have l_R : w.heap.size ≤ g_R := by omega
  clear hh_T hh_O hh_R
  have cT0 : v0.cell? ⟨g_T, 0, none⟩ = some (.int .i64 p) := KT0.out.cell 0 _ rfl
  have cT1 : v0.cell? ⟨g_T, 1, none⟩ = some (.int .i64 q) := KT0.out.cell 1 _ rfl
  have cT2 : v0.cell? ⟨g_T, 2, none⟩ = some (.int .i64 r) := KT0.out.cell 2 _ rfl
  have cO0 : v0.cell? ⟨g_O, 0, none⟩ = some (.int .i64 m) := KO0.out.cell 0 _ rfl
  have dO0 := KO0.out.open 0
  have cO1 : v0.cell? ⟨g_O, 1, none⟩ = some (.int .i64 c) := KO0.out.cell 1 _ rfl
  have dO1 := KO0.out.open 1
  have cO2 : v0.cell? ⟨g_O, 2, none⟩ = some (.bool k) := KO0.out.cell 2 _ rfl
  have dO2 := KO0.out.open 2
  have cO3 : v0.cell? ⟨g_O, 3, none⟩ = some (.bool s) := KO0.out.cell 3 _ rfl
  have dO3 := KO0.out.open 3
  have cO4 : v0.cell? ⟨g_O, 4, none⟩ = some (.int .i64 v) := KO0.out.cell 4 _ rfl
  have dO4 := KO0.out.open 4
  have cO5 : v0.cell? ⟨g_O, 5, none⟩ = some (.int .i64 x) := KO0.out.cell 5 _ rfl
  have dO5 := KO0.out.open 5
  go_wp2_with fail
  clear cT0 cT1 cT2 cO0 dO0 cO1 dO1 cO2 dO2 cO3 dO3 cO4 dO4 cO5 dO5
  refine (OK.out _).mono ?_
  rintro e v1 ⟨rfl, hb⟩
  have B1 := Lib.hid (B0.out.trans (hb.mono B0.out.size))
  have KT1 := Lib.hid (KT0.out.below hb)
  have KO1 := Lib.hid (KO0.out.below hb)
  have KR1 := Lib.hid (KR0.out.below hb)
  clear hb B0 KT0 KO0 KR0
  have cT0 : v1.cell? ⟨g_T, 0, none⟩ = some (.int .i64 p) := KT1.out.cell 0 _ rfl
  have cT1 : v1.cell? ⟨g_T, 1, none⟩ = some (.int .i64 q) := KT1.out.cell 1 _ rfl
  have cT2 : v1.cell? ⟨g_T, 2, none⟩ = some (.int .i64 r) := KT1.out.cell 2 _ rfl
  have cO0 : v1.cell? ⟨g_O, 0, none⟩ = some (.int .i64 m) := KO1.out.cell 0 _ rfl
  have dO0 := KO1.out.open 0
  have cO1 : v1.cell? ⟨g_O, 1, none⟩ = some (.int .i64 c) := KO1.out.cell 1 _ rfl
  have dO1 := KO1.out.open 1
  have cO2 : v1.cell? ⟨g_O, 2, none⟩ = some (.bool k) := KO1.out.cell 2 _ rfl
  have dO2 := KO1.out.open 2
  have cO3 : v1.cell? ⟨g_O, 3, none⟩ = some (.bool s) := KO1.out.cell 3 _ rfl
  have dO3 := KO1.out.open 3
  have cO4 : v1.cell? ⟨g_O, 4, none⟩ = some (.int .i64 v) := KO1.out.cell 4 _ rfl
  have dO4 := KO1.out.open 4
  have cO5 : v1.cell? ⟨g_O, 5, none⟩ = some (.int .i64 x) := KO1.out.cell 5 _ rfl
  have dO5 := KO1.out.open 5
  go_wp2_with fail
  clear cT0 cT1 cT2 cO0 dO0 cO1 dO1 cO2 dO2 cO3 dO3 cO4 dO4 cO5 dO5
  refine (NO.out _).mono ?_
  rintro e v2 ⟨rfl, hb⟩
  have B2 := Lib.hid (B1.out.trans (hb.mono B1.out.size))
  have KT2 := Lib.hid (KT1.out.below hb)
  have KO2 := Lib.hid (KO1.out.below hb)
  have KR2 := Lib.hid (KR1.out.below hb)
  clear hb B1 KT1 KO1 KR1
  have cT0 : v2.cell? ⟨g_T, 0, none⟩ = some (.int .i64 p) := KT2.out.cell 0 _ rfl
  have cT1 : v2.cell? ⟨g_T, 1, none⟩ = some (.int .i64 q) := KT2.out.cell 1 _ rfl
  have cT2 : v2.cell? ⟨g_T, 2, none⟩ = some (.int .i64 r) := KT2.out.cell 2 _ rfl
  have cO0 : v2.cell? ⟨g_O, 0, none⟩ = some (.int .i64 m) := KO2.out.cell 0 _ rfl
  have dO0 := KO2.out.open 0
  have cO1 : v2.cell? ⟨g_O, 1, none⟩ = some (.int .i64 c) := KO2.out.cell 1 _ rfl
  have dO1 := KO2.out.open 1
  have cO2 : v2.cell? ⟨g_O, 2, none⟩ = some (.bool k) := KO2.out.cell 2 _ rfl
  have dO2 := KO2.out.open 2
  have cO3 : v2.cell? ⟨g_O, 3, none⟩ = some (.bool s) := KO2.out.cell 3 _ rfl
  have dO3 := KO2.out.open 3
  have cO4 : v2.cell? ⟨g_O, 4, none⟩ = some (.int .i64 v) := KO2.out.cell 4 _ rfl
  have dO4 := KO2.out.open 4
  have cO5 : v2.cell? ⟨g_O, 5, none⟩ = some (.int .i64 x) := KO2.out.cell 5 _ rfl
  have dO5 := KO2.out.open 5
  have KT3 := Lib.hid (show Blk ((((((v2.setCell ⟨g_O, 0, none⟩ (.int .i64 0)).setCell ⟨g_O, 1, none⟩ (.int .i64 (-1))).setCell ⟨g_O, 2, none⟩ (.bool false)).setCell ⟨g_O, 3, none⟩ (.bool false)).setCell ⟨g_O, 4, none⟩ (.int .i64 0)).setCell ⟨g_O, 5, none⟩ (.int .i64 0)) g_T [.int .i64 p, .int .i64 q, .int .i64 r] from ((((((KT2.out.setOther ⟨g_O, 0, none⟩ (.int .i64 0) (n_T_O)).setOther ⟨g_O, 1, none⟩ (.int .i64 (-1)) (n_T_O)).setOther ⟨g_O, 2, none⟩ (.bool false) (n_T_O)).setOther ⟨g_O, 3, none⟩ (.bool false) (n_T_O)).setOther ⟨g_O, 4, none⟩ (.int .i64 0) (n_T_O)).setOther ⟨g_O, 5, none⟩ (.int .i64 0) (n_T_O)))
  have KO3 := Lib.hid (show Blk ((((((v2.setCell ⟨g_O, 0, none⟩ (.int .i64 0)).setCell ⟨g_O, 1, none⟩ (.int .i64 (-1))).setCell ⟨g_O, 2, none⟩ (.bool false)).setCell ⟨g_O, 3, none⟩ (.bool false)).setCell ⟨g_O, 4, none⟩ (.int .i64 0)).setCell ⟨g_O, 5, none⟩ (.int .i64 0)) g_O [.int .i64 0, .int .i64 (-1), .bool false, .bool false, .int .i64 0, .int .i64 0] from ((((((KO2.out.set 0 (.int .i64 0)).set 1 (.int .i64 (-1))).set 2 (.bool false)).set 3 (.bool false)).set 4 (.int .i64 0)).set 5 (.int .i64 0)))
  have KR3 := Lib.hid (show Blk ((((((v2.setCell ⟨g_O, 0, none⟩ (.int .i64 0)).setCell ⟨g_O, 1, none⟩ (.int .i64 (-1))).setCell ⟨g_O, 2, none⟩ (.bool false)).setCell ⟨g_O, 3, none⟩ (.bool false)).setCell ⟨g_O, 4, none⟩ (.int .i64 0)).setCell ⟨g_O, 5, none⟩ (.int .i64 0)) g_R [.int .i64 0, .int .i64 0, .int .i64 0, .int .i64 0, .int .i64 0, .string ⟨#[]⟩, .int .i64 0, .bool false, .bool false, .bool false, .int .i64 0, .string ⟨#[]⟩, .slice none 0 0, .int .i64 0, .bool false, .int .i64 0, .int .i64 0, .int .i64 0, .int .i64 0, .bool false, .bool false, .int .i64 0, .int .i64 0, .int .i64 0, .int .i64 0] from ((((((KR2.out.setOther ⟨g_O, 0, none⟩ (.int .i64 0) (fun e => n_O_R e.symm)).setOther ⟨g_O, 1, none⟩ (.int .i64 (-1)) (fun e => n_O_R e.symm)).setOther ⟨g_O, 2, none⟩ (.bool false) (fun e => n_O_R e.symm)).setOther ⟨g_O, 3, none⟩ (.bool false) (fun e => n_O_R e.symm)).setOther ⟨g_O, 4, none⟩ (.int .i64 0) (fun e => n_O_R e.symm)).setOther ⟨g_O, 5, none⟩ (.int .i64 0) (fun e => n_O_R e.symm)))
  have B3 := Lib.hid (show Below w.heap.size w ((((((v2.setCell ⟨g_O, 0, none⟩ (.int .i64 0)).setCell ⟨g_O, 1, none⟩ (.int .i64 (-1))).setCell ⟨g_O, 2, none⟩ (.bool false)).setCell ⟨g_O, 3, none⟩ (.bool false)).setCell ⟨g_O, 4, none⟩ (.int .i64 0)).setCell ⟨g_O, 5, none⟩ (.int .i64 0)) from ((((((B2.out.setCell l_O (.int .i64 0)).setCell l_O (.int .i64 (-1))).setCell l_O (.bool false)).setCell l_O (.bool false)).setCell l_O (.int .i64 0)).setCell l_O (.int .i64 0)))
  clear B2
  go_wp2_with fail
  clear KT2 KO2 KR2
  clear cT0 cT1 cT2 cO0 dO0 cO1 dO1 cO2 dO2 cO3 dO3 cO4 dO4 cO5 dO5
  change Calls _ _ _ ((((((v2.setCell ⟨g_O, 0, none⟩ (.int .i64 0)).setCell ⟨g_O, 1, none⟩ (.int .i64 (-1))).setCell ⟨g_O, 2, none⟩ (.bool false)).setCell ⟨g_O, 3, none⟩ (.bool false)).setCell ⟨g_O, 4, none⟩ (.int .i64 0)).setCell ⟨g_O, 5, none⟩ (.int .i64 0)) _
  generalize (((((v2.setCell ⟨g_O, 0, none⟩ (.int .i64 0)).setCell ⟨g_O, 1, none⟩ (.int .i64 (-1))).setCell ⟨g_O, 2, none⟩ (.bool false)).setCell ⟨g_O, 3, none⟩ (.bool false)).setCell ⟨g_O, 4, none⟩ (.int .i64 0)).setCell ⟨g_O, 5, none⟩ (.int .i64 0) = v3 at B3 KT3 KO3 KR3 ⊢
  refine (WK.out _).mono ?_
  rintro e v4 ⟨rfl, hb⟩
  have B4 := Lib.hid (B3.out.trans (hb.mono B3.out.size))
  have KT4 := Lib.hid (KT3.out.below hb)
  have KO4 := Lib.hid (KO3.out.below hb)
  have KR4 := Lib.hid (KR3.out.below hb)
  clear hb B3 KT3 KO3 KR3
  have cT0 : v4.cell? ⟨g_T, 0, none⟩ = some (.int .i64 p) := KT4.out.cell 0 _ rfl
  have cT1 : v4.cell? ⟨g_T, 1, none⟩ = some (.int .i64 q) := KT4.out.cell 1 _ rfl
  have cT2 : v4.cell? ⟨g_T, 2, none⟩ = some (.int .i64 r) := KT4.out.cell 2 _ rfl
  have cO0 : v4.cell? ⟨g_O, 0, none⟩ = some (.int .i64 0) := KO4.out.cell 0 _ rfl
  have dO0 := KO4.out.open 0
  have cO1 : v4.cell? ⟨g_O, 1, none⟩ = some (.int .i64 (-1)) := KO4.out.cell 1 _ rfl
  have dO1 := KO4.out.open 1
  have cO2 : v4.cell? ⟨g_O, 2, none⟩ = some (.bool false) := KO4.out.cell 2 _ rfl
  have dO2 := KO4.out.open 2
  have cO3 : v4.cell? ⟨g_O, 3, none⟩ = some (.bool false) := KO4.out.cell 3 _ rfl
  have dO3 := KO4.out.open 3
  have cO4 : v4.cell? ⟨g_O, 4, none⟩ = some (.int .i64 0) := KO4.out.cell 4 _ rfl
  have dO4 := KO4.out.open 4
  have cO5 : v4.cell? ⟨g_O, 5, none⟩ = some (.int .i64 0) := KO4.out.cell 5 _ rfl
  have dO5 := KO4.out.open 5
  go_wp2_with fail
  clear cT0 cT1 cT2 cO0 dO0 cO1 dO1 cO2 dO2 cO3 dO3 cO4 dO4 cO5 dO5
  refine (MX.out _).mono ?_
  rintro e v5 ⟨rfl, hb⟩
  have B5 := Lib.hid (B4.out.trans (hb.mono B4.out.size))
  have KT5 := Lib.hid (KT4.out.below hb)
  have KO5 := Lib.hid (KO4.out.below hb)
  have KR5 := Lib.hid (KR4.out.below hb)
  clear hb B4 KT4 KO4 KR4
  have cT0 : v5.cell? ⟨g_T, 0, none⟩ = some (.int .i64 p) := KT5.out.cell 0 _ rfl
  have cT1 : v5.cell? ⟨g_T, 1, none⟩ = some (.int .i64 q) := KT5.out.cell 1 _ rfl
  have cT2 : v5.cell? ⟨g_T, 2, none⟩ = some (.int .i64 r) := KT5.out.cell 2 _ rfl
  have cO0 : v5.cell? ⟨g_O, 0, none⟩ = some (.int .i64 0) := KO5.out.cell 0 _ rfl
  have dO0 := KO5.out.open 0
  have cO1 : v5.cell? ⟨g_O, 1, none⟩ = some (.int .i64 (-1)) := KO5.out.cell 1 _ rfl
  have dO1 := KO5.out.open 1
  have cO2 : v5.cell? ⟨g_O, 2, none⟩ = some (.bool false) := KO5.out.cell 2 _ rfl
  have dO2 := KO5.out.open 2
  have cO3 : v5.cell? ⟨g_O, 3, none⟩ = some (.bool false) := KO5.out.cell 3 _ rfl
  have dO3 := KO5.out.open 3
  have cO4 : v5.cell? ⟨g_O, 4, none⟩ = some (.int .i64 0) := KO5.out.cell 4 _ rfl
  have dO4 := KO5.out.open 4
  have cO5 : v5.cell? ⟨g_O, 5, none⟩ = some (.int .i64 0) := KO5.out.cell 5 _ rfl
  have dO5 := KO5.out.open 5
  go_upto_region 6 with fail
  clear cT0 cT1 cT2 cO0 dO0 cO1 dO1 cO2 dO2 cO3 dO3 cO4 dO4 cO5 dO5
  refine wp_region_noPanic ?_
  refine wp_region_held_drew (S := fun w' => Blk w' g_T [.int .i64 p, .int .i64 q, .int .i64 r] ∧ Blk w' g_O [.int .i64 0, .int .i64 (-1), .bool false, .bool false, .int .i64 0, .int .i64 0]) (by kernel_rfl) ⟨KT5.out, KO5.out⟩ (fun hS => ?_)
  refine wpAnyH_take (i := 0) (v := .agg #[.int .i64 p, .int .i64 q, .int .i64 r]) rfl (by kernel_rfl) (by kernel_rfl) (by kernel_rfl) (fun _ _ _ h => h) (Or.inl ⟨rfl, by intro w hS; have h0 := (hS.1).cell 0 _ rfl; have h1 := (hS.1).cell 1 _ rfl; have h2 := (hS.1).cell 2 _ rfl; go_simp⟩) hS ?_
  refine wpAnyH_take (i := 1) (v := .int .i64 i) rfl (by kernel_rfl) (by kernel_rfl) (by kernel_rfl) (fun _ _ _ h => h) (Or.inl ⟨rfl, by intro w hS; go_simp⟩) hS ?_
  refine wpAnyH_take (i := 4) (v := .int .i64 j) rfl (by kernel_rfl) (by kernel_rfl) (by kernel_rfl) (fun _ _ _ h => h) (Or.inl ⟨rfl, by intro w hS; go_simp⟩) hS ?_
  refine wpAnyH_take (i := 7) (v := .int .i64 ms) rfl (by kernel_rfl) (by kernel_rfl) (by kernel_rfl) (fun _ _ _ h => h) (Or.inl ⟨rfl, by intro w hS; go_simp⟩) hS ?_
  refine wpAnyH_take (i := 8) (v := .int .i64 ms) rfl (by kernel_rfl) (by kernel_rfl) (by kernel_rfl) (fun _ _ _ h => h) (Or.inl ⟨rfl, by intro w hS; go_simp⟩) hS ?_
  refine wpAnyH_take (i := 9) (v := .agg #[.int .i64 0, .int .i64 (-1), .bool false, .bool false, .int .i64 0, .int .i64 0]) rfl (by kernel_rfl) (by kernel_rfl) (by kernel_rfl) (fun _ _ _ h => h) (Or.inl ⟨rfl, by intro w hS; have h0 := (hS.2).cell 0 _ rfl; have h1 := (hS.2).cell 1 _ rfl; have h2 := (hS.2).cell 2 _ rfl; have h3 := (hS.2).cell 3 _ rfl; have h4 := (hS.2).cell 4 _ rfl; have h5 := (hS.2).cell 5 _ rfl; go_simp⟩) hS ?_
  refine wpAnyH_ready (rs := [2]) (by kernel_rfl) (by simp) ?_
  refine AllReadyH.cons (i := 2) rfl (fun K hK => ?zr13) AllReadyH.nil
  rw [if_pos (by rfl)]
  go_simp
  clear hS
  refine (A1.out _).mono ?_
  rintro e v6 ⟨rfl, hb⟩
  replace hb := (Below.refl _ v5).drew.trans hb
  have B6 := Lib.hid (B5.out.trans (hb.mono B5.out.size))
  have KT6 := Lib.hid (KT5.out.below hb)
  have KO6 := Lib.hid (KO5.out.below hb)
  have KR6 := Lib.hid (KR5.out.below hb)
  clear hb B5 KT5 KO5 KR5
  refine hK.out _ _ ⟨KT6.out, KO6.out⟩ (fun hS => ?_)
  clear hK K
  refine wpAnyH_take (i := 3) (v := .agg #[.int .i64 i1, .string ⟨#[]⟩, .int .i64 0, .bool false, .bool false, .bool false]) rfl (by kernel_rfl) (by kernel_rfl) (by kernel_rfl) (fun _ _ _ h => h) (Or.inl ⟨rfl, by intro w hS; go_simp⟩) hS ?_
  refine wpAnyH_ready (rs := [5]) (by kernel_rfl) (by simp) ?_
  refine AllReadyH.cons (i := 5) rfl (fun K hK => ?zr14) AllReadyH.nil
  rw [if_pos (by rfl)]
  go_simp
  clear hS
  refine (A2.out _).mono ?_
  rintro e v7 ⟨rfl, hb⟩
  have B7 := Lib.hid (B6.out.trans (hb.mono B6.out.size))
  have KT7 := Lib.hid (KT6.out.below hb)
  have KO7 := Lib.hid (KO6.out.below hb)
  have KR7 := Lib.hid (KR6.out.below hb)
  clear hb B6 KT6 KO6 KR6
  refine hK.out _ _ ⟨KT7.out, KO7.out⟩ (fun hS => ?_)
  clear hK K
  refine wpAnyH_ready (rs := [6]) (by kernel_rfl) (by simp) ?_
  refine AllReadyH.cons (i := 6) rfl (fun K hK => ?zr15) AllReadyH.nil
  rw [if_pos (by rfl)]
  go_simp
  clear hS
  refine (A3.out _).mono ?_
  rintro e v8 ⟨rfl, hb⟩
  have B8 := Lib.hid (B7.out.trans (hb.mono B7.out.size))
  have KT8 := Lib.hid (KT7.out.below hb)
  have KO8 := Lib.hid (KO7.out.below hb)
  have KR8 := Lib.hid (KR7.out.below hb)
  clear hb B7 KT7 KO7 KR7
  refine hK.out _ _ ⟨KT8.out, KO8.out⟩ (fun hS => ?_)
  clear hK K
  refine wpAnyH_take (i := 10) (v := .agg #[.int .i64 p, .int .i64 q, .int .i64 r, .int .i64 1, .int .i64 i1, .string ⟨#[]⟩, .int .i64 0, .bool false, .bool false, .bool false, .int .i64 j2, .string ⟨#[]⟩, .slice none 0 0, .int .i64 (-1), .bool false, .int .i64 ms, .int .i64 ms, .int .i64 0, .int .i64 (-1), .bool false, .bool false, .int .i64 0, .int .i64 0, .int .i64 0, .int .i64 0]) rfl (by kernel_rfl) (by kernel_rfl) (by kernel_rfl) (fun _ _ _ h => h) (Or.inl ⟨rfl, by intro w hS; go_simp⟩) hS ?_
  refine wpAnyH_ready (rs := [11]) (by kernel_rfl) (by simp) ?_
  refine AllReadyH.cons (i := 11) rfl (fun K hK => ?zr16) AllReadyH.nil
  rw [if_pos (by rfl)]
  refine wp_store_blk (cs' := [.int .i64 p, .int .i64 q, .int .i64 r, .int .i64 1, .int .i64 i1, .string ⟨#[]⟩, .int .i64 0, .bool false, .bool false, .bool false, .int .i64 j2, .string ⟨#[]⟩, .slice none 0 0, .int .i64 (-1), .bool false, .int .i64 ms, .int .i64 ms, .int .i64 0, .int .i64 (-1), .bool false, .bool false, .int .i64 0, .int .i64 0, .int .i64 0, .int .i64 0]) 36 _ _ rfl rfl rfl KR8.out rfl (by kernel_rfl) rfl (fun v9 hB hg => ?_)
  clear hS
  have B9 := Lib.hid (B8.out.trans (grown_below hg l_R B8.out.size))
  have KT9 := Lib.hid (KT8.out.grown hg (n_T_R))
  have KO9 := Lib.hid (KO8.out.grown hg (n_O_R))
  have KR9 := Lib.hid hB
  clear hB hg B8 KT8 KO8 KR8
  refine hK.out _ _ ⟨KT9.out, KO9.out⟩ (fun hS => ?_)
  clear hK K
  refine wpAnyH_done (by kernel_rfl) ?_ _
  refine NoPanic.normal ?_
  go_wp2_with fail
  exact bodyPost_ret (v := .agg #[.int .i64 p, .int .i64 q, .int .i64 r, .int .i64 1, .int .i64 i1, .string ⟨#[]⟩, .int .i64 0, .bool false, .bool false, .bool false, .int .i64 j2, .string ⟨#[]⟩, .slice none 0 0, .int .i64 (-1), .bool false, .int .i64 ms, .int .i64 ms, .int .i64 0, .int .i64 (-1), .bool false, .bool false, .int .i64 0, .int .i64 0, .int .i64 0, .int .i64 0]) (blk_results rfl KR9.out rfl Try.underlying36 rfl (by kernel_rfl)) rfl ⟨rfl, B9.out⟩

theorem connNewS (p q r i j m c : Int) (k s : Bool) (v x wd : Int) (w : World) : Calls Try.prog 14 #[.agg #[.int .i64 p, .int .i64 q, .int .i64 r], .int .i64 i, .int .i64 j, .agg #[.int .i64 m, .int .i64 c, .bool k, .bool s, .int .i64 v, .int .i64 x], .int .i64 wd] w (EndCN p q r (pl (i + 1)) (pl (pl (j + 1))) (cnO ⟨m, c, k, s, v, x⟩) (scaled (cnWd wd) (cnO ⟨m, c, k, s, v, x⟩).c) w) := by
  have hc := cnO_scale ⟨m, c, k, s, v, x⟩
  cases ho : optOk ⟨m, c, k, s, v, x⟩ with
  | true =>
    have e : cnO ⟨m, c, k, s, v, x⟩ = ⟨m, c, k, s, v, x⟩ := by unfold cnO; rw [ho]; rfl
    rw [e] at hc ⊢
    unfold cnWd
    cases hw : wordOk wd 16 with
    | true => exact connNewS_11 p q r i j m c k s v x wd w ho hw hc
    | false => exact connNewS_10 p q r i j m c k s v x wd w ho hw hc
  | false =>
    have e : cnO ⟨m, c, k, s, v, x⟩ = ⟨0, -1, false, false, 0, 0⟩ := by unfold cnO; rw [ho]; rfl
    rw [e] at hc ⊢
    unfold cnWd
    cases hw : wordOk wd 16 with
    | true => exact connNewS_01 p q r i j m c k s v x wd w ho hw
    | false => exact connNewS_00 p q r i j m c k s v x wd w ho hw
end Go.Proofs.Ytajekjjaaohbnaa
