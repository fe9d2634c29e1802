/- ConnNew of the program. Nothing here is a claim. -/
import Derived.Test.YtajekjjaaohbnaaConnNK
import Derived.Test.YtajekjjaaohbnaaBulk2
import Derived.Test.YtajekjjaaohbnaaSndPos
import Derived.Test.YtajekjjaaohbnaaRcvOkI
import Derived.Test.YtajekjjaaohbnaaRcvOkS
import Derived.Test.YtajekjjaaohbnaaRcvNew
import Derived.Test.YtajekjjaaohbnaaOptOk
import Derived.Test.YtajekjjaaohbnaaCurA
namespace Go.Proofs.Ytajekjjaaohbnaa
open Go.RowKit Go.Lib

set_option maxRecDepth 100000 in
set_option maxHeartbeats 8000000 in
theorem connNewI_11 (p q r i j m c : Int) (k s : Bool) (v x wd : Int) (w : World) (ho : optOk ⟨m, c, k, s, v, x⟩ = true) (hw : wordOk wd 16 = true) :
    Calls Try.prog 12 #[.agg #[.int .i64 p, .int .i64 q, .int .i64 r], .int .i64 i, .int .i64 j, .agg #[.int .i64 m, .int .i64 c, .bool k, .bool s, .int .i64 v, .int .i64 x], .int .i64 wd] w (EndCN p q r (pl (i + 1)) (pl (pl (j + 1))) ⟨m, c, k, s, v, x⟩ (scaled wd c) w) := by
  have OK := fun w => optionsOkI m c k s v x w
  rw [ho] at OK
  have WK := fun w => wordI_s wd 16 w
  rw [hw] at WK
  replace OK := Lib.hid OK
  replace WK := Lib.hid WK
  have A1 := fun w => seqAddI_s i 1 w
  have A2 := fun w => seqAddI_s j 1 w
  have A3 := fun w => rcvNewI (pl (j + 1)) w
  have NO := Lib.hid (fun w => noOptionsI w)
  have SC := fun w => scaledI wd m c k s v x w
  generalize scaled wd c = ms at SC ⊢
  replace SC := Lib.hid SC
  unfold EndN0 at A3
  unfold EndCN
  generalize pl (pl (j + 1)) = j2 at A3 ⊢
  generalize pl (i + 1) = i1 at A1 ⊢
  generalize pl (j + 1) = j1 at A2 A3
  replace A1 := Lib.hid A1
  replace A2 := Lib.hid A2
  replace A3 := Lib.hid A3
  clear ho hw
  go_enter Try.func12, Try.ntmps12
  have B0 := Lib.hid (show Below w.heap.size w (((w.alloc (.cells #[.int .i64 p, .int .i64 q, .int .i64 r] 25)).alloc (.cells #[.int .i64 m, .int .i64 c, .bool k, .bool s, .int .i64 v, .int .i64 x] 27)).alloc (.cells #[.int .i64 0, .int .i64 0, .int .i64 0, .int .i64 0, .int .i64 0, .string ⟨#[]⟩, .int .i64 0, .bool false, .bool false, .bool false, .int .i64 0, .string ⟨#[]⟩, .slice none 0 0, .int .i64 0, .bool false, .int .i64 0, .int .i64 0, .int .i64 0, .int .i64 0, .bool false, .bool false, .int .i64 0, .int .i64 0, .int .i64 0, .int .i64 0] 36)) from ((((Below.refl _ w).alloc (by simp) _).alloc (by simp) _).alloc (by simp; omega) _))
  have KT0 := Lib.hid (show Blk (((w.alloc (.cells #[.int .i64 p, .int .i64 q, .int .i64 r] 25)).alloc (.cells #[.int .i64 m, .int .i64 c, .bool k, .bool s, .int .i64 v, .int .i64 x] 27)).alloc (.cells #[.int .i64 0, .int .i64 0, .int .i64 0, .int .i64 0, .int .i64 0, .string ⟨#[]⟩, .int .i64 0, .bool false, .bool false, .bool false, .int .i64 0, .string ⟨#[]⟩, .slice none 0 0, .int .i64 0, .bool false, .int .i64 0, .int .i64 0, .int .i64 0, .int .i64 0, .bool false, .bool false, .int .i64 0, .int .i64 0, .int .i64 0, .int .i64 0] 36)) (w.heap.size) [.int .i64 p, .int .i64 q, .int .i64 r] from ((Blk.new w [.int .i64 p, .int .i64 q, .int .i64 r] 25).alloc (.cells #[.int .i64 m, .int .i64 c, .bool k, .bool s, .int .i64 v, .int .i64 x] 27)).alloc (.cells #[.int .i64 0, .int .i64 0, .int .i64 0, .int .i64 0, .int .i64 0, .string ⟨#[]⟩, .int .i64 0, .bool false, .bool false, .bool false, .int .i64 0, .string ⟨#[]⟩, .slice none 0 0, .int .i64 0, .bool false, .int .i64 0, .int .i64 0, .int .i64 0, .int .i64 0, .bool false, .bool false, .int .i64 0, .int .i64 0, .int .i64 0, .int .i64 0] 36))
  have s1 : (w.alloc (.cells #[.int .i64 p, .int .i64 q, .int .i64 r] 25)).heap.size = w.heap.size + 1 := by simp
  have KO0 := Lib.hid (show Blk (((w.alloc (.cells #[.int .i64 p, .int .i64 q, .int .i64 r] 25)).alloc (.cells #[.int .i64 m, .int .i64 c, .bool k, .bool s, .int .i64 v, .int .i64 x] 27)).alloc (.cells #[.int .i64 0, .int .i64 0, .int .i64 0, .int .i64 0, .int .i64 0, .string ⟨#[]⟩, .int .i64 0, .bool false, .bool false, .bool false, .int .i64 0, .string ⟨#[]⟩, .slice none 0 0, .int .i64 0, .bool false, .int .i64 0, .int .i64 0, .int .i64 0, .int .i64 0, .bool false, .bool false, .int .i64 0, .int .i64 0, .int .i64 0, .int .i64 0] 36)) (w.heap.size + 1) [.int .i64 m, .int .i64 c, .bool k, .bool s, .int .i64 v, .int .i64 x] by have h0 := (Blk.new (w.alloc (.cells #[.int .i64 p, .int .i64 q, .int .i64 r] 25)) [.int .i64 m, .int .i64 c, .bool k, .bool s, .int .i64 v, .int .i64 x] 27).alloc (.cells #[.int .i64 0, .int .i64 0, .int .i64 0, .int .i64 0, .int .i64 0, .string ⟨#[]⟩, .int .i64 0, .bool false, .bool false, .bool false, .int .i64 0, .string ⟨#[]⟩, .slice none 0 0, .int .i64 0, .bool false, .int .i64 0, .int .i64 0, .int .i64 0, .int .i64 0, .bool false, .bool false, .int .i64 0, .int .i64 0, .int .i64 0, .int .i64 0] 36); rwa [s1] at h0)
  have n_T_O : w.heap.size ≠ w.heap.size + 1 := by omega
  have s2 : ((w.alloc (.cells #[.int .i64 p, .int .i64 q, .int .i64 r] 25)).alloc (.cells #[.int .i64 m, .int .i64 c, .bool k, .bool s, .int .i64 v, .int .i64 x] 27)).heap.size = w.heap.size + 1 + 1 := by simp
  have KR0 := Lib.hid (show Blk (((w.alloc (.cells #[.int .i64 p, .int .i64 q, .int .i64 r] 25)).alloc (.cells #[.int .i64 m, .int .i64 c, .bool k, .bool s, .int .i64 v, .int .i64 x] 27)).alloc (.cells #[.int .i64 0, .int .i64 0, .int .i64 0, .int .i64 0, .int .i64 0, .string ⟨#[]⟩, .int .i64 0, .bool false, .bool false, .bool false, .int .i64 0, .string ⟨#[]⟩, .slice none 0 0, .int .i64 0, .bool false, .int .i64 0, .int .i64 0, .int .i64 0, .int .i64 0, .bool false, .bool false, .int .i64 0, .int .i64 0, .int .i64 0, .int .i64 0] 36)) (w.heap.size + 1 + 1) [.int .i64 0, .int .i64 0, .int .i64 0, .int .i64 0, .int .i64 0, .string ⟨#[]⟩, .int .i64 0, .bool false, .bool false, .bool false, .int .i64 0, .string ⟨#[]⟩, .slice none 0 0, .int .i64 0, .bool false, .int .i64 0, .int .i64 0, .int .i64 0, .int .i64 0, .bool false, .bool false, .int .i64 0, .int .i64 0, .int .i64 0, .int .i64 0] by have h0 := Blk.new ((w.alloc (.cells #[.int .i64 p, .int .i64 q, .int .i64 r] 25)).alloc (.cells #[.int .i64 m, .int .i64 c, .bool k, .bool s, .int .i64 v, .int .i64 x] 27)) [.int .i64 0, .int .i64 0, .int .i64 0, .int .i64 0, .int .i64 0, .string ⟨#[]⟩, .int .i64 0, .bool false, .bool false, .bool false, .int .i64 0, .string ⟨#[]⟩, .slice none 0 0, .int .i64 0, .bool false, .int .i64 0, .int .i64 0, .int .i64 0, .int .i64 0, .bool false, .bool false, .int .i64 0, .int .i64 0, .int .i64 0, .int .i64 0] 36; rwa [s2] at h0)
  have n_T_R : w.heap.size ≠ w.heap.size + 1 + 1 := by omega
  have n_O_R : w.heap.size + 1 ≠ w.heap.size + 1 + 1 := by omega
  clear s1 s2
  go_upto_region 1 with fail
  generalize ((w.alloc (.cells #[.int .i64 p, .int .i64 q, .int .i64 r] 25)).alloc (.cells #[.int .i64 m, .int .i64 c, .bool k, .bool s, .int .i64 v, .int .i64 x] 27)).alloc (.cells #[.int .i64 0, .int .i64 0, .int .i64 0, .int .i64 0, .int .i64 0, .string ⟨#[]⟩, .int .i64 0, .bool false, .bool false, .bool false, .int .i64 0, .string ⟨#[]⟩, .slice none 0 0, .int .i64 0, .bool false, .int .i64 0, .int .i64 0, .int .i64 0, .int .i64 0, .bool false, .bool false, .int .i64 0, .int .i64 0, .int .i64 0, .int .i64 0] 36) = v0 at B0 KT0 KO0 KR0 ⊢
  generalize hh_R : w.heap.size + 1 + 1 = g_R at KR0 n_T_R n_O_R ⊢
  generalize hh_O : w.heap.size + 1 = g_O at KO0 n_T_O n_O_R ⊢
  generalize hh_T : w.heap.size = g_T at KT0 n_T_O n_T_R ⊢
  have l_T : w.heap.size ≤ g_T := by omega
  have l_O : w.heap.size ≤ g_O := by omega
  have l_R : w.heap.size ≤ g_R := by omega
  clear hh_T hh_O hh_R
  have cT0 : v0.cell? ⟨g_T, 0, none⟩ = some (.int .i64 p) := KT0.out.cell 0 _ rfl
  have cT1 : v0.cell? ⟨g_T, 1, none⟩ = some (.int .i64 q) := KT0.out.cell 1 _ rfl
  have cT2 : v0.cell? ⟨g_T, 2, none⟩ = some (.int .i64 r) := KT0.out.cell 2 _ rfl
  have cO0 : v0.cell? ⟨g_O, 0, none⟩ = some (.int .i64 m) := KO0.out.cell 0 _ rfl
  have dO0 := KO0.out.open 0
  have cO1 : v0.cell? ⟨g_O, 1, none⟩ = some (.int .i64 c) := KO0.out.cell 1 _ rfl
  have dO1 := KO0.out.open 1
  have cO2 : v0.cell? ⟨g_O, 2, none⟩ = some (.bool k) := KO0.out.cell 2 _ rfl
  have dO2 := KO0.out.open 2
  have cO3 : v0.cell? ⟨g_O, 3, none⟩ = some (.bool s) := KO0.out.cell 3 _ rfl
  have dO3 := KO0.out.open 3
  have cO4 : v0.cell? ⟨g_O, 4, none⟩ = some (.int .i64 v) := KO0.out.cell 4 _ rfl
  have dO4 := KO0.out.open 4
  have cO5 : v0.cell? ⟨g_O, 5, none⟩ = some (.int .i64 x) := KO0.out.cell 5 _ rfl
  have dO5 := KO0.out.open 5
  go_wp2_with fail
  clear cT0 cT1 cT2 cO0 dO0 cO1 dO1 cO2 dO2 cO3 dO3 cO4 dO4 cO5 dO5
  refine (OK.out _).mono ?_
  rintro e v1 ⟨rfl, hb⟩
  have B1 := Lib.hid (B0.out.trans (hb.mono B0.out.size))
  have KT1 := Lib.hid (KT0.out.below hb)
  have KO1 := Lib.hid (KO0.out.below hb)
  have KR1 := Lib.hid (KR0.out.below hb)
  clear hb B0 KT0 KO0 KR0
  have cT0 : v1.cell? ⟨g_T, 0, none⟩ = some (.int .i64 p) := KT1.out.cell 0 _ rfl
  have cT1 : v1.cell? ⟨g_T, 1, none⟩ = some (.int .i64 q) := KT1.out.cell 1 _ rfl
  have cT2 : v1.cell? ⟨g_T, 2, none⟩ = some (.int .i64 r) := KT1.out.cell 2 _ rfl
  have cO0 : v1.cell? ⟨g_O, 0, none⟩ = some (.int .i64 m) := KO1.out.cell 0 _ rfl
  have dO0 := KO1.out.open 0
  have cO1 : v1.cell? ⟨g_O, 1, none⟩ = some (.int .i64 c) := KO1.out.cell 1 _ rfl
  have dO1 := KO1.out.open 1
  have cO2 : v1.cell? ⟨g_O, 2, none⟩ = some (.bool k) := KO1.out.cell 2 _ rfl
  have dO2 := KO1.out.open 2
  have cO3 : v1.cell? ⟨g_O, 3, none⟩ = some (.bool s) := KO1.out.cell 3 _ rfl
  have dO3 := KO1.out.open 3
  have cO4 : v1.cell? ⟨g_O, 4, none⟩ = some (.int .i64 v) := KO1.out.cell 4 _ rfl
  have dO4 := KO1.out.open 4
  have cO5 : v1.cell? ⟨g_O, 5, none⟩ = some (.int .i64 x) := KO1.out.cell 5 _ rfl
  have dO5 := KO1.out.open 5
  go_wp2_with fail
  clear cT0 cT1 cT2 cO0 dO0 cO1 dO1 cO2 dO2 cO3 dO3 cO4 dO4 cO5 dO5
  refine (WK.out _).mono ?_
  rintro e v2 ⟨rfl, hb⟩
  have B2 := Lib.hid (B1.out.trans (hb.mono B1.out.size))
  have KT2 := Lib.hid (KT1.out.below hb)
  have KO2 := Lib.hid (KO1.out.below hb)
  have KR2 := Lib.hid (KR1.out.below hb)
  clear hb B1 KT1 KO1 KR1
  have cT0 : v2.cell? ⟨g_T, 0, none⟩ = some (.int .i64 p) := KT2.out.cell 0 _ rfl
  have cT1 : v2.cell? ⟨g_T, 1, none⟩ = some (.int .i64 q) := KT2.out.cell 1 _ rfl
  have cT2 : v2.cell? ⟨g_T, 2, none⟩ = some (.int .i64 r) := KT2.out.cell 2 _ rfl
  have cO0 : v2.cell? ⟨g_O, 0, none⟩ = some (.int .i64 m) := KO2.out.cell 0 _ rfl
  have dO0 := KO2.out.open 0
  have cO1 : v2.cell? ⟨g_O, 1, none⟩ = some (.int .i64 c) := KO2.out.cell 1 _ rfl
  have dO1 := KO2.out.open 1
  have cO2 : v2.cell? ⟨g_O, 2, none⟩ = some (.bool k) := KO2.out.cell 2 _ rfl
  have dO2 := KO2.out.open 2
  have cO3 : v2.cell? ⟨g_O, 3, none⟩ = some (.bool s) := KO2.out.cell 3 _ rfl
  have dO3 := KO2.out.open 3
  have cO4 : v2.cell? ⟨g_O, 4, none⟩ = some (.int .i64 v) := KO2.out.cell 4 _ rfl
  have dO4 := KO2.out.open 4
  have cO5 : v2.cell? ⟨g_O, 5, none⟩ = some (.int .i64 x) := KO2.out.cell 5 _ rfl
  have dO5 := KO2.out.open 5
  go_wp2_with fail
  clear cT0 cT1 cT2 cO0 dO0 cO1 dO1 cO2 dO2 cO3 dO3 cO4 dO4 cO5 dO5
  refine (A1.out _).mono ?_
  rintro e v3 ⟨rfl, hb⟩
  have B3 := Lib.hid (B2.out.trans (hb.mono B2.out.size))
  have KT3 := Lib.hid (KT2.out.below hb)
  have KO3 := Lib.hid (KO2.out.below hb)
  have KR3 := Lib.hid (KR2.out.below hb)
  clear hb B2 KT2 KO2 KR2
  have cT0 : v3.cell? ⟨g_T, 0, none⟩ = some (.int .i64 p) := KT3.out.cell 0 _ rfl
  have cT1 : v3.cell? ⟨g_T, 1, none⟩ = some (.int .i64 q) := KT3.out.cell 1 _ rfl
  have cT2 : v3.cell? ⟨g_T, 2, none⟩ = some (.int .i64 r) := KT3.out.cell 2 _ rfl
  have cO0 : v3.cell? ⟨g_O, 0, none⟩ = some (.int .i64 m) := KO3.out.cell 0 _ rfl
  have dO0 := KO3.out.open 0
  have cO1 : v3.cell? ⟨g_O, 1, none⟩ = some (.int .i64 c) := KO3.out.cell 1 _ rfl
  have dO1 := KO3.out.open 1
  have cO2 : v3.cell? ⟨g_O, 2, none⟩ = some (.bool k) := KO3.out.cell 2 _ rfl
  have dO2 := KO3.out.open 2
  have cO3 : v3.cell? ⟨g_O, 3, none⟩ = some (.bool s) := KO3.out.cell 3 _ rfl
  have dO3 := KO3.out.open 3
  have cO4 : v3.cell? ⟨g_O, 4, none⟩ = some (.int .i64 v) := KO3.out.cell 4 _ rfl
  have dO4 := KO3.out.open 4
  have cO5 : v3.cell? ⟨g_O, 5, none⟩ = some (.int .i64 x) := KO3.out.cell 5 _ rfl
  have dO5 := KO3.out.open 5
  go_wp2_with fail
  clear cT0 cT1 cT2 cO0 dO0 cO1 dO1 cO2 dO2 cO3 dO3 cO4 dO4 cO5 dO5
  refine (A2.out _).mono ?_
  rintro e v4 ⟨rfl, hb⟩
  have B4 := Lib.hid (B3.out.trans (hb.mono B3.out.size))
  have KT4 := Lib.hid (KT3.out.below hb)
  have KO4 := Lib.hid (KO3.out.below hb)
  have KR4 := Lib.hid (KR3.out.below hb)
  clear hb B3 KT3 KO3 KR3
  have cT0 : v4.cell? ⟨g_T, 0, none⟩ = some (.int .i64 p) := KT4.out.cell 0 _ rfl
  have cT1 : v4.cell? ⟨g_T, 1, none⟩ = some (.int .i64 q) := KT4.out.cell 1 _ rfl
  have cT2 : v4.cell? ⟨g_T, 2, none⟩ = some (.int .i64 r) := KT4.out.cell 2 _ rfl
  have cO0 : v4.cell? ⟨g_O, 0, none⟩ = some (.int .i64 m) := KO4.out.cell 0 _ rfl
  have dO0 := KO4.out.open 0
  have cO1 : v4.cell? ⟨g_O, 1, none⟩ = some (.int .i64 c) := KO4.out.cell 1 _ rfl
  have dO1 := KO4.out.open 1
  have cO2 : v4.cell? ⟨g_O, 2, none⟩ = some (.bool k) := KO4.out.cell 2 _ rfl
  have dO2 := KO4.out.open 2
  have cO3 : v4.cell? ⟨g_O, 3, none⟩ = some (.bool s) := KO4.out.cell 3 _ rfl
  have dO3 := KO4.out.open 3
  have cO4 : v4.cell? ⟨g_O, 4, none⟩ = some (.int .i64 v) := KO4.out.cell 4 _ rfl
  have dO4 := KO4.out.open 4
  have cO5 : v4.cell? ⟨g_O, 5, none⟩ = some (.int .i64 x) := KO4.out.cell 5 _ rfl
  have dO5 := KO4.out.open 5
  go_wp2_with fail
  clear cT0 cT1 cT2 cO0 dO0 cO1 dO1 cO2 dO2 cO3 dO3 cO4 dO4 cO5 dO5
  refine (A3.out _).mono ?_
  rintro e v5 ⟨rfl, hb⟩
  have B5 := Lib.hid (B4.out.trans (hb.mono B4.out.size))
  have KT5 := Lib.hid (KT4.out.below hb)
  have KO5 := Lib.hid (KO4.out.below hb)
  have KR5 := Lib.hid (KR4.out.below hb)
  clear hb B4 KT4 KO4 KR4
  have B6 := Lib.hid ((B5.out.alloc (by have h0 := B5.out.size; simp <;> omega) (.cells #[.int .i64 i1, .string ⟨#[]⟩, .int .i64 0, .bool false, .bool false, .bool false] 31)).alloc (by have h0 := B5.out.size; simp <;> omega) (.cells #[.int .i64 j2, .string ⟨#[]⟩, .slice none 0 0, .int .i64 (-1), .bool false] 34))
  have lt_T := KT5.out.lt
  have n_T_U : g_T ≠ v5.heap.size := by omega
  have n_T_V : g_T ≠ v5.heap.size + 1 := by omega
  clear lt_T
  have lt_O := KO5.out.lt
  have n_O_U : g_O ≠ v5.heap.size := by omega
  have n_O_V : g_O ≠ v5.heap.size + 1 := by omega
  clear lt_O
  have lt_R := KR5.out.lt
  have n_R_U : g_R ≠ v5.heap.size := by omega
  have n_R_V : g_R ≠ v5.heap.size + 1 := by omega
  clear lt_R
  have KT6 := Lib.hid ((KT5.out.alloc (.cells #[.int .i64 i1, .string ⟨#[]⟩, .int .i64 0, .bool false, .bool false, .bool false] 31)).alloc (.cells #[.int .i64 j2, .string ⟨#[]⟩, .slice none 0 0, .int .i64 (-1), .bool false] 34))
  have KO6 := Lib.hid ((KO5.out.alloc (.cells #[.int .i64 i1, .string ⟨#[]⟩, .int .i64 0, .bool false, .bool false, .bool false] 31)).alloc (.cells #[.int .i64 j2, .string ⟨#[]⟩, .slice none 0 0, .int .i64 (-1), .bool false] 34))
  have KR6 := Lib.hid ((KR5.out.alloc (.cells #[.int .i64 i1, .string ⟨#[]⟩, .int .i64 0, .bool false, .bool false, .bool false] 31)).alloc (.cells #[.int .i64 j2, .string ⟨#[]⟩, .slice none 0 0, .int .i64 (-1), .bool false] 34))
  have KU6 := Lib.hid (show Blk ((v5.alloc (.cells #[.int .i64 i1, .string ⟨#[]⟩, .int .i64 0, .bool false, .bool false, .bool false] 31)).alloc (.cells #[.int .i64 j2, .string ⟨#[]⟩, .slice none 0 0, .int .i64 (-1), .bool false] 34)) (v5.heap.size) [.int .i64 i1, .string ⟨#[]⟩, .int .i64 0, .bool false, .bool false, .bool false] from ((Blk.new v5 [.int .i64 i1, .string ⟨#[]⟩, .int .i64 0, .bool false, .bool false, .bool false] 31).alloc (.cells #[.int .i64 j2, .string ⟨#[]⟩, .slice none 0 0, .int .i64 (-1), .bool false] 34)))
  have n_U_V : v5.heap.size ≠ v5.heap.size + 1 := by omega
  have KV6 := Lib.hid (show Blk ((v5.alloc (.cells #[.int .i64 i1, .string ⟨#[]⟩, .int .i64 0, .bool false, .bool false, .bool false] 31)).alloc (.cells #[.int .i64 j2, .string ⟨#[]⟩, .slice none 0 0, .int .i64 (-1), .bool false] 34)) (v5.heap.size + 1) [.int .i64 j2, .string ⟨#[]⟩, .slice none 0 0, .int .i64 (-1), .bool false] by have h0 := (Blk.new (v5.alloc (.cells #[.int .i64 i1, .string ⟨#[]⟩, .int .i64 0, .bool false, .bool false, .bool false] 31)) [.int .i64 j2, .string ⟨#[]⟩, .slice none 0 0, .int .i64 (-1), .bool false] 34); rwa [show (v5.alloc (.cells #[.int .i64 i1, .string ⟨#[]⟩, .int .i64 0, .bool false, .bool false, .bool false] 31)).heap.size = v5.heap.size + 1 by simp] at h0)
  clear B5 KT5 KO5 KR5
  have cT0 : ((v5.alloc (.cells #[.int .i64 i1, .string ⟨#[]⟩, .int .i64 0, .bool false, .bool false, .bool false] 31)).alloc (.cells #[.int .i64 j2, .string ⟨#[]⟩, .slice none 0 0, .int .i64 (-1), .bool false] 34)).cell? ⟨g_T, 0, none⟩ = some (.int .i64 p) := KT6.out.cell 0 _ rfl
  have cT1 : ((v5.alloc (.cells #[.int .i64 i1, .string ⟨#[]⟩, .int .i64 0, .bool false, .bool false, .bool false] 31)).alloc (.cells #[.int .i64 j2, .string ⟨#[]⟩, .slice none 0 0, .int .i64 (-1), .bool false] 34)).cell? ⟨g_T, 1, none⟩ = some (.int .i64 q) := KT6.out.cell 1 _ rfl
  have cT2 : ((v5.alloc (.cells #[.int .i64 i1, .string ⟨#[]⟩, .int .i64 0, .bool false, .bool false, .bool false] 31)).alloc (.cells #[.int .i64 j2, .string ⟨#[]⟩, .slice none 0 0, .int .i64 (-1), .bool false] 34)).cell? ⟨g_T, 2, none⟩ = some (.int .i64 r) := KT6.out.cell 2 _ rfl
  have cO0 : ((v5.alloc (.cells #[.int .i64 i1, .string ⟨#[]⟩, .int .i64 0, .bool false, .bool false, .bool false] 31)).alloc (.cells #[.int .i64 j2, .string ⟨#[]⟩, .slice none 0 0, .int .i64 (-1), .bool false] 34)).cell? ⟨g_O, 0, none⟩ = some (.int .i64 m) := KO6.out.cell 0 _ rfl
  have dO0 := KO6.out.open 0
  have cO1 : ((v5.alloc (.cells #[.int .i64 i1, .string ⟨#[]⟩, .int .i64 0, .bool false, .bool false, .bool false] 31)).alloc (.cells #[.int .i64 j2, .string ⟨#[]⟩, .slice none 0 0, .int .i64 (-1), .bool false] 34)).cell? ⟨g_O, 1, none⟩ = some (.int .i64 c) := KO6.out.cell 1 _ rfl
  have dO1 := KO6.out.open 1
  have cO2 : ((v5.alloc (.cells #[.int .i64 i1, .string ⟨#[]⟩, .int .i64 0, .bool false, .bool false, .bool false] 31)).alloc (.cells #[.int .i64 j2, .string ⟨#[]⟩, .slice none 0 0, .int .i64 (-1), .bool false] 34)).cell? ⟨g_O, 2, none⟩ = some (.bool k) := KO6.out.cell 2 _ rfl
  have dO2 := KO6.out.open 2
  have cO3 : ((v5.alloc (.cells #[.int .i64 i1, .string ⟨#[]⟩, .int .i64 0, .bool false, .bool false, .bool false] 31)).alloc (.cells #[.int .i64 j2, .string ⟨#[]⟩, .slice none 0 0, .int .i64 (-1), .bool false] 34)).cell? ⟨g_O, 3, none⟩ = some (.bool s) := KO6.out.cell 3 _ rfl
  have dO3 := KO6.out.open 3
  have cO4 : ((v5.alloc (.cells #[.int .i64 i1, .string ⟨#[]⟩, .int .i64 0, .bool false, .bool false, .bool false] 31)).alloc (.cells #[.int .i64 j2, .string ⟨#[]⟩, .slice none 0 0, .int .i64 (-1), .bool false] 34)).cell? ⟨g_O, 4, none⟩ = some (.int .i64 v) := KO6.out.cell 4 _ rfl
  have dO4 := KO6.out.open 4
  have cO5 : ((v5.alloc (.cells #[.int .i64 i1, .string ⟨#[]⟩, .int .i64 0, .bool false, .bool false, .bool false] 31)).alloc (.cells #[.int .i64 j2, .string ⟨#[]⟩, .slice none 0 0, .int .i64 (-1), .bool false] 34)).cell? ⟨g_O, 5, none⟩ = some (.int .i64 x) := KO6.out.cell 5 _ rfl
  have dO5 := KO6.out.open 5
  go_wp2_with fail
  clear cT0 cT1 cT2 cO0 dO0 cO1 dO1 cO2 dO2 cO3 dO3 cO4 dO4 cO5 dO5
  change Calls _ _ _ ((v5.alloc (.cells #[.int .i64 i1, .string ⟨#[]⟩, .int .i64 0, .bool false, .bool false, .bool false] 31)).alloc (.cells #[.int .i64 j2, .string ⟨#[]⟩, .slice none 0 0, .int .i64 (-1), .bool false] 34)) _
  generalize (v5.alloc (.cells #[.int .i64 i1, .string ⟨#[]⟩, .int .i64 0, .bool false, .bool false, .bool false] 31)).alloc (.cells #[.int .i64 j2, .string ⟨#[]⟩, .slice none 0 0, .int .i64 (-1), .bool false] 34) = v6 at B6 KT6 KO6 KR6 KU6 KV6 ⊢
  generalize v5.heap.size + 1 = g_V at KV6 n_T_V n_O_V n_R_V n_U_V ⊢
  generalize v5.heap.size = g_U at KU6 n_T_U n_O_U n_R_U n_U_V ⊢
  refine (SC.out _).mono ?_
  rintro e v7 ⟨rfl, hb⟩
  have B7 := Lib.hid (B6.out.trans (hb.mono B6.out.size))
  have KT7 := Lib.hid (KT6.out.below hb)
  have KO7 := Lib.hid (KO6.out.below hb)
  have KR7 := Lib.hid (KR6.out.below hb)
  have KU7 := Lib.hid (KU6.out.below hb)
  have KV7 := Lib.hid (KV6.out.below hb)
  clear hb B6 KT6 KO6 KR6 KU6 KV6
  have cT0 : v7.cell? ⟨g_T, 0, none⟩ = some (.int .i64 p) := KT7.out.cell 0 _ rfl
  have cT1 : v7.cell? ⟨g_T, 1, none⟩ = some (.int .i64 q) := KT7.out.cell 1 _ rfl
  have cT2 : v7.cell? ⟨g_T, 2, none⟩ = some (.int .i64 r) := KT7.out.cell 2 _ rfl
  have cO0 : v7.cell? ⟨g_O, 0, none⟩ = some (.int .i64 m) := KO7.out.cell 0 _ rfl
  have dO0 := KO7.out.open 0
  have cO1 : v7.cell? ⟨g_O, 1, none⟩ = some (.int .i64 c) := KO7.out.cell 1 _ rfl
  have dO1 := KO7.out.open 1
  have cO2 : v7.cell? ⟨g_O, 2, none⟩ = some (.bool k) := KO7.out.cell 2 _ rfl
  have dO2 := KO7.out.open 2
  have cO3 : v7.cell? ⟨g_O, 3, none⟩ = some (.bool s) := KO7.out.cell 3 _ rfl
  have dO3 := KO7.out.open 3
  have cO4 : v7.cell? ⟨g_O, 4, none⟩ = some (.int .i64 v) := KO7.out.cell 4 _ rfl
  have dO4 := KO7.out.open 4
  have cO5 : v7.cell? ⟨g_O, 5, none⟩ = some (.int .i64 x) := KO7.out.cell 5 _ rfl
  have dO5 := KO7.out.open 5
  have cU0 : v7.cell? ⟨g_U, 0, none⟩ = some (.int .i64 i1) := KU7.out.cell 0 _ rfl
  have cU1 : v7.cell? ⟨g_U, 1, none⟩ = some (.string ⟨#[]⟩) := KU7.out.cell 1 _ rfl
  have cU2 : v7.cell? ⟨g_U, 2, none⟩ = some (.int .i64 0) := KU7.out.cell 2 _ rfl
  have cU3 : v7.cell? ⟨g_U, 3, none⟩ = some (.bool false) := KU7.out.cell 3 _ rfl
  have cU4 : v7.cell? ⟨g_U, 4, none⟩ = some (.bool false) := KU7.out.cell 4 _ rfl
  have cU5 : v7.cell? ⟨g_U, 5, none⟩ = some (.bool false) := KU7.out.cell 5 _ rfl
  have cV0 : v7.cell? ⟨g_V, 0, none⟩ = some (.int .i64 j2) := KV7.out.cell 0 _ rfl
  have cV1 : v7.cell? ⟨g_V, 1, none⟩ = some (.string ⟨#[]⟩) := KV7.out.cell 1 _ rfl
  have cV2 : v7.cell? ⟨g_V, 2, none⟩ = some (.slice none 0 0) := KV7.out.cell 2 _ rfl
  have cV3 : v7.cell? ⟨g_V, 3, none⟩ = some (.int .i64 (-1)) := KV7.out.cell 3 _ rfl
  have cV4 : v7.cell? ⟨g_V, 4, none⟩ = some (.bool false) := KV7.out.cell 4 _ rfl
  go_wp2_with (refine wpList_store_blk (cs' := [.int .i64 p, .int .i64 q, .int .i64 r, .int .i64 1, .int .i64 i1, .string ⟨#[]⟩, .int .i64 0, .bool false, .bool false, .bool false, .int .i64 j2, .string ⟨#[]⟩, .slice none 0 0, .int .i64 (-1), .bool false, .int .i64 ms, .int .i64 ms, .int .i64 m, .int .i64 c, .bool k, .bool s, .int .i64 v, .int .i64 x, .int .i64 0, .int .i64 0]) rfl 36 _ _ rfl rfl rfl KR7.out rfl (by kernel_rfl) rfl (fun w' hB hg => ?_))
  clear cT0 cT1 cT2 cO0 dO0 cO1 dO1 cO2 dO2 cO3 dO3 cO4 dO4 cO5 dO5 cU0 cU1 cU2 cU3 cU4 cU5 cV0 cV1 cV2 cV3 cV4
  have B8 := Lib.hid (B7.out.trans (grown_below hg l_R B7.out.size))
  have KT8 := Lib.hid (KT7.out.grown hg (n_T_R))
  have KO8 := Lib.hid (KO7.out.grown hg (n_O_R))
  have KR8 := Lib.hid hB
  have KU8 := Lib.hid (KU7.out.grown hg (fun e => n_R_U e.symm))
  have KV8 := Lib.hid (KV7.out.grown hg (fun e => n_R_V e.symm))
  clear hB hg B7 KT7 KO7 KR7 KU7 KV7
  exact bodyPost_ret (v := .agg #[.int .i64 p, .int .i64 q, .int .i64 r, .int .i64 1, .int .i64 i1, .string ⟨#[]⟩, .int .i64 0, .bool false, .bool false, .bool false, .int .i64 j2, .string ⟨#[]⟩, .slice none 0 0, .int .i64 (-1), .bool false, .int .i64 ms, .int .i64 ms, .int .i64 m, .int .i64 c, .bool k, .bool s, .int .i64 v, .int .i64 x, .int .i64 0, .int .i64 0]) (blk_results rfl KR8.out rfl Try.underlying36 rfl (by kernel_rfl)) rfl ⟨rfl, B8.out⟩

set_option maxRecDepth 100000 in
set_option maxHeartbeats 8000000 in
theorem connNewI_10 (p q r i j m c : Int) (k s : Bool) (v x wd : Int) (w : World) (ho : optOk ⟨m, c, k, s, v, x⟩ = true) (hw : wordOk wd 16 = false) :
    Calls Try.prog 12 #[.agg #[.int .i64 p, .int .i64 q, .int .i64 r], .int .i64 i, .int .i64 j, .agg #[.int .i64 m, .int .i64 c, .bool k, .bool s, .int .i64 v, .int .i64 x], .int .i64 wd] w (EndCN p q r (pl (i + 1)) (pl (pl (j + 1))) ⟨m, c, k, s, v, x⟩ (scaled 0 c) w) := by
  have OK := fun w => optionsOkI m c k s v x w
  rw [ho] at OK
  have WK := fun w => wordI_s wd 16 w
  rw [hw] at WK
  replace OK := Lib.hid OK
  replace WK := Lib.hid WK
  have A1 := fun w => seqAddI_s i 1 w
  have A2 := fun w => seqAddI_s j 1 w
  have A3 := fun w => rcvNewI (pl (j + 1)) w
  have NO := Lib.hid (fun w => noOptionsI w)
  have SC := fun w => scaledI 0 m c k s v x w
  generalize scaled 0 c = ms at SC ⊢
  replace SC := Lib.hid SC
  unfold EndN0 at A3
  unfold EndCN
  generalize pl (pl (j + 1)) = j2 at A3 ⊢
  generalize pl (i + 1) = i1 at A1 ⊢
  generalize pl (j + 1) = j1 at A2 A3
  replace A1 := Lib.hid A1
  replace A2 := Lib.hid A2
  replace A3 := Lib.hid A3
  clear ho hw
  go_enter Try.func12, Try.ntmps12
  have B0 := Lib.hid (show Below w.heap.size w (((w.alloc (.cells #[.int .i64 p, .int .i64 q, .int .i64 r] 25)).alloc (.cells #[.int .i64 m, .int .i64 c, .bool k, .bool s, .int .i64 v, .int .i64 x] 27)).alloc (.cells #[.int .i64 0, .int .i64 0, .int .i64 0, .int .i64 0, .int .i64 0, .string ⟨#[]⟩, .int .i64 0, .bool false, .bool false, .bool false, .int .i64 0, .string ⟨#[]⟩, .slice none 0 0, .int .i64 0, .bool false, .int .i64 0, .int .i64 0, .int .i64 0, .int .i64 0, .bool false, .bool false, .int .i64 0, .int .i64 0, .int .i64 0, .int .i64 0] 36)) from ((((Below.refl _ w).alloc (by simp) _).alloc (by simp) _).alloc (by simp; omega) _))
  have KT0 := Lib.hid (show Blk (((w.alloc (.cells #[.int .i64 p, .int .i64 q, .int .i64 r] 25)).alloc (.cells #[.int .i64 m, .int .i64 c, .bool k, .bool s, .int .i64 v, .int .i64 x] 27)).alloc (.cells #[.int .i64 0, .int .i64 0, .int .i64 0, .int .i64 0, .int .i64 0, .string ⟨#[]⟩, .int .i64 0, .bool false, .bool false, .bool false, .int .i64 0, .string ⟨#[]⟩, .slice none 0 0, .int .i64 0, .bool false, .int .i64 0, .int .i64 0, .int .i64 0, .int .i64 0, .bool false, .bool false, .int .i64 0, .int .i64 0, .int .i64 0, .int .i64 0] 36)) (w.heap.size) [.int .i64 p, .int .i64 q, .int .i64 r] from ((Blk.new w [.int .i64 p, .int .i64 q, .int .i64 r] 25).alloc (.cells #[.int .i64 m, .int .i64 c, .bool k, .bool s, .int .i64 v, .int .i64 x] 27)).alloc (.cells #[.int .i64 0, .int .i64 0, .int .i64 0, .int .i64 0, .int .i64 0, .string ⟨#[]⟩, .int .i64 0, .bool false, .bool false, .bool false, .int .i64 0, .string ⟨#[]⟩, .slice none 0 0, .int .i64 0, .bool false, .int .i64 0, .int .i64 0, .int .i64 0, .int .i64 0, .bool false, .bool false, .int .i64 0, .int .i64 0, .int .i64 0, .int .i64 0] 36))
  have s1 : (w.alloc (.cells #[.int .i64 p, .int .i64 q, .int .i64 r] 25)).heap.size = w.heap.size + 1 := by simp
  have KO0 := Lib.hid (show Blk (((w.alloc (.cells #[.int .i64 p, .int .i64 q, .int .i64 r] 25)).alloc (.cells #[.int .i64 m, .int .i64 c, .bool k, .bool s, .int .i64 v, .int .i64 x] 27)).alloc (.cells #[.int .i64 0, .int .i64 0, .int .i64 0, .int .i64 0, .int .i64 0, .string ⟨#[]⟩, .int .i64 0, .bool false, .bool false, .bool false, .int .i64 0, .string ⟨#[]⟩, .slice none 0 0, .int .i64 0, .bool false, .int .i64 0, .int .i64 0, .int .i64 0, .int .i64 0, .bool false, .bool false, .int .i64 0, .int .i64 0, .int .i64 0, .int .i64 0] 36)) (w.heap.size + 1) [.int .i64 m, .int .i64 c, .bool k, .bool s, .int .i64 v, .int .i64 x] by have h0 := (Blk.new (w.alloc (.cells #[.int .i64 p, .int .i64 q, .int .i64 r] 25)) [.int .i64 m, .int .i64 c, .bool k, .bool s, .int .i64 v, .int .i64 x] 27).alloc (.cells #[.int .i64 0, .int .i64 0, .int .i64 0, .int .i64 0, .int .i64 0, .string ⟨#[]⟩, .int .i64 0, .bool false, .bool false, .bool false, .int .i64 0, .string ⟨#[]⟩, .slice none 0 0, .int .i64 0, .bool false, .int .i64 0, .int .i64 0, .int .i64 0, .int .i64 0, .bool false, .bool false, .int .i64 0, .int .i64 0, .int .i64 0, .int .i64 0] 36); rwa [s1] at h0)
  have n_T_O : w.heap.size ≠ w.heap.size + 1 := by omega
  have s2 : ((w.alloc (.cells #[.int .i64 p, .int .i64 q, .int .i64 r] 25)).alloc (.cells #[.int .i64 m, .int .i64 c, .bool k, .bool s, .int .i64 v, .int .i64 x] 27)).heap.size = w.heap.size + 1 + 1 := by simp
  have KR0 := Lib.hid (show Blk (((w.alloc (.cells #[.int .i64 p, .int .i64 q, .int .i64 r] 25)).alloc (.cells #[.int .i64 m, .int .i64 c, .bool k, .bool s, .int .i64 v, .int .i64 x] 27)).alloc (.cells #[.int .i64 0, .int .i64 0, .int .i64 0, .int .i64 0, .int .i64 0, .string ⟨#[]⟩, .int .i64 0, .bool false, .bool false, .bool false, .int .i64 0, .string ⟨#[]⟩, .slice none 0 0, .int .i64 0, .bool false, .int .i64 0, .int .i64 0, .int .i64 0, .int .i64 0, .bool false, .bool false, .int .i64 0, .int .i64 0, .int .i64 0, .int .i64 0] 36)) (w.heap.size + 1 + 1) [.int .i64 0, .int .i64 0, .int .i64 0, .int .i64 0, .int .i64 0, .string ⟨#[]⟩, .int .i64 0, .bool false, .bool false, .bool false, .int .i64 0, .string ⟨#[]⟩, .slice none 0 0, .int .i64 0, .bool false, .int .i64 0, .int .i64 0, .int .i64 0, .int .i64 0, .bool false, .bool false, .int .i64 0, .int .i64 0, .int .i64 0, .int .i64 0] by have h0 := Blk.new ((w.alloc (.cells #[.int .i64 p, .int .i64 q, .int .i64 r] 25)).alloc (.cells #[.int .i64 m, .int .i64 c, .bool k, .bool s, .int .i64 v, .int .i64 x] 27)) [.int .i64 0, .int .i64 0, .int .i64 0, .int .i64 0, .int .i64 0, .string ⟨#[]⟩, .int .i64 0, .bool false, .bool false, .bool false, .int .i64 0, .string ⟨#[]⟩, .slice none 0 0, .int .i64 0, .bool false, .int .i64 0, .int .i64 0, .int .i64 0, .int .i64 0, .bool false, .bool false, .int .i64 0, .int .i64 0, .int .i64 0, .int .i64 0] 36; rwa [s2] at h0)
  have n_T_R : w.heap.size ≠ w.heap.size + 1 + 1 := by omega
  have n_O_R : w.heap.size + 1 ≠ w.heap.size + 1 + 1 := by omega
  clear s1 s2
  go_upto_region 1 with fail
  generalize ((w.alloc (.cells #[.int .i64 p, .int .i64 q, .int .i64 r] 25)).alloc (.cells #[.int .i64 m, .int .i64 c, .bool k, .bool s, .int .i64 v, .int .i64 x] 27)).alloc (.cells #[.int .i64 0, .int .i64 0, .int .i64 0, .int .i64 0, .int .i64 0, .string ⟨#[]⟩, .int .i64 0, .bool false, .bool false, .bool false, .int .i64 0, .string ⟨#[]⟩, .slice none 0 0, .int .i64 0, .bool false, .int .i64 0, .int .i64 0, .int .i64 0, .int .i64 0, .bool false, .bool false, .int .i64 0, .int .i64 0, .int .i64 0, .int .i64 0] 36) = v0 at B0 KT0 KO0 KR0 ⊢
  generalize hh_R : w.heap.size + 1 + 1 = g_R at KR0 n_T_R n_O_R ⊢
  generalize hh_O : w.heap.size + 1 = g_O at KO0 n_T_O n_O_R ⊢
  generalize hh_T : w.heap.size = g_T at KT0 n_T_O n_T_R ⊢
  have l_T : w.heap.size ≤ g_T := by omega
  have l_O : w.heap.size ≤ g_O := by omega
  have l_R : w.heap.size ≤ g_R := by omega
  clear hh_T hh_O hh_R
  have cT0 : v0.cell? ⟨g_T, 0, none⟩ = some (.int .i64 p) := KT0.out.cell 0 _ rfl
  have cT1 : v0.cell? ⟨g_T, 1, none⟩ = some (.int .i64 q) := KT0.out.cell 1 _ rfl
  have cT2 : v0.cell? ⟨g_T, 2, none⟩ = some (.int .i64 r) := KT0.out.cell 2 _ rfl
  have cO0 : v0.cell? ⟨g_O, 0, none⟩ = some (.int .i64 m) := KO0.out.cell 0 _ rfl
  have dO0 := KO0.out.open 0
  have cO1 : v0.cell? ⟨g_O, 1, none⟩ = some (.int .i64 c) := KO0.out.cell 1 _ rfl
  have dO1 := KO0.out.open 1
  have cO2 : v0.cell? ⟨g_O, 2, none⟩ = some (.bool k) := KO0.out.cell 2 _ rfl
  have dO2 := KO0.out.open 2
  have cO3 : v0.cell? ⟨g_O, 3, none⟩ = some (.bool s) := KO0.out.cell 3 _ rfl
  have dO3 := KO0.out.open 3
  have cO4 : v0.cell? ⟨g_O, 4, none⟩ = some (.int .i64 v) := KO0.out.cell 4 _ rfl
  have dO4 := KO0.out.open 4
  have cO5 : v0.cell? ⟨g_O, 5, none⟩ = some (.int .i64 x) := KO0.out.cell 5 _ rfl
  have dO5 := KO0.out.open 5
  go_wp2_with fail
  clear cT0 cT1 cT2 cO0 dO0 cO1 dO1 cO2 dO2 cO3 dO3 cO4 dO4 cO5 dO5
  refine (OK.out _).mono ?_
  rintro e v1 ⟨rfl, hb⟩
  have B1 := Lib.hid (B0.out.trans (hb.mono B0.out.size))
  have KT1 := Lib.hid (KT0.out.below hb)
  have KO1 := Lib.hid (KO0.out.below hb)
  have KR1 := Lib.hid (KR0.out.below hb)
  clear hb B0 KT0 KO0 KR0
  have cT0 : v1.cell? ⟨g_T, 0, none⟩ = some (.int .i64 p) := KT1.out.cell 0 _ rfl
  have cT1 : v1.cell? ⟨g_T, 1, none⟩ = some (.int .i64 q) := KT1.out.cell 1 _ rfl
  have cT2 : v1.cell? ⟨g_T, 2, none⟩ = some (.int .i64 r) := KT1.out.cell 2 _ rfl
  have cO0 : v1.cell? ⟨g_O, 0, none⟩ = some (.int .i64 m) := KO1.out.cell 0 _ rfl
  have dO0 := KO1.out.open 0
  have cO1 : v1.cell? ⟨g_O, 1, none⟩ = some (.int .i64 c) := KO1.out.cell 1 _ rfl
  have dO1 := KO1.out.open 1
  have cO2 : v1.cell? ⟨g_O, 2, none⟩ = some (.bool k) := KO1.out.cell 2 _ rfl
  have dO2 := KO1.out.open 2
  have cO3 : v1.cell? ⟨g_O, 3, none⟩ = some (.bool s) := KO1.out.cell 3 _ rfl
  have dO3 := KO1.out.open 3
  have cO4 : v1.cell? ⟨g_O, 4, none⟩ = some (.int .i64 v) := KO1.out.cell 4 _ rfl
  have dO4 := KO1.out.open 4
  have cO5 : v1.cell? ⟨g_O, 5, none⟩ = some (.int .i64 x) := KO1.out.cell 5 _ rfl
  have dO5 := KO1.out.open 5
  go_wp2_with fail
  clear cT0 cT1 cT2 cO0 dO0 cO1 dO1 cO2 dO2 cO3 dO3 cO4 dO4 cO5 dO5
  refine (WK.out _).mono ?_
  rintro e v2 ⟨rfl, hb⟩
  have B2 := Lib.hid (B1.out.trans (hb.mono B1.out.size))
  have KT2 := Lib.hid (KT1.out.below hb)
  have KO2 := Lib.hid (KO1.out.below hb)
  have KR2 := Lib.hid (KR1.out.below hb)
  clear hb B1 KT1 KO1 KR1
  have cT0 : v2.cell? ⟨g_T, 0, none⟩ = some (.int .i64 p) := KT2.out.cell 0 _ rfl
  have cT1 : v2.cell? ⟨g_T, 1, none⟩ = some (.int .i64 q) := KT2.out.cell 1 _ rfl
  have cT2 : v2.cell? ⟨g_T, 2, none⟩ = some (.int .i64 r) := KT2.out.cell 2 _ rfl
  have cO0 : v2.cell? ⟨g_O, 0, none⟩ = some (.int .i64 m) := KO2.out.cell 0 _ rfl
  have dO0 := KO2.out.open 0
  have cO1 : v2.cell? ⟨g_O, 1, none⟩ = some (.int .i64 c) := KO2.out.cell 1 _ rfl
  have dO1 := KO2.out.open 1
  have cO2 : v2.cell? ⟨g_O, 2, none⟩ = some (.bool k) := KO2.out.cell 2 _ rfl
  have dO2 := KO2.out.open 2
  have cO3 : v2.cell? ⟨g_O, 3, none⟩ = some (.bool s) := KO2.out.cell 3 _ rfl
  have dO3 := KO2.out.open 3
  have cO4 : v2.cell? ⟨g_O, 4, none⟩ = some (.int .i64 v) := KO2.out.cell 4 _ rfl
  have dO4 := KO2.out.open 4
  have cO5 : v2.cell? ⟨g_O, 5, none⟩ = some (.int .i64 x) := KO2.out.cell 5 _ rfl
  have dO5 := KO2.out.open 5
  go_wp2_with fail
  clear cT0 cT1 cT2 cO0 dO0 cO1 dO1 cO2 dO2 cO3 dO3 cO4 dO4 cO5 dO5
  refine (A1.out _).mono ?_
  rintro e v3 ⟨rfl, hb⟩
  have B3 := Lib.hid (B2.out.trans (hb.mono B2.out.size))
  have KT3 := Lib.hid (KT2.out.below hb)
  have KO3 := Lib.hid (KO2.out.below hb)
  have KR3 := Lib.hid (KR2.out.below hb)
  clear hb B2 KT2 KO2 KR2
  have cT0 : v3.cell? ⟨g_T, 0, none⟩ = some (.int .i64 p) := KT3.out.cell 0 _ rfl
  have cT1 : v3.cell? ⟨g_T, 1, none⟩ = some (.int .i64 q) := KT3.out.cell 1 _ rfl
  have cT2 : v3.cell? ⟨g_T, 2, none⟩ = some (.int .i64 r) := KT3.out.cell 2 _ rfl
  have cO0 : v3.cell? ⟨g_O, 0, none⟩ = some (.int .i64 m) := KO3.out.cell 0 _ rfl
  have dO0 := KO3.out.open 0
  have cO1 : v3.cell? ⟨g_O, 1, none⟩ = some (.int .i64 c) := KO3.out.cell 1 _ rfl
  have dO1 := KO3.out.open 1
  have cO2 : v3.cell? ⟨g_O, 2, none⟩ = some (.bool k) := KO3.out.cell 2 _ rfl
  have dO2 := KO3.out.open 2
  have cO3 : v3.cell? ⟨g_O, 3, none⟩ = some (.bool s) := KO3.out.cell 3 _ rfl
  have dO3 := KO3.out.open 3
  have cO4 : v3.cell? ⟨g_O, 4, none⟩ = some (.int .i64 v) := KO3.out.cell 4 _ rfl
  have dO4 := KO3.out.open 4
  have cO5 : v3.cell? ⟨g_O, 5, none⟩ = some (.int .i64 x) := KO3.out.cell 5 _ rfl
  have dO5 := KO3.out.open 5
  go_wp2_with fail
  clear cT0 cT1 cT2 cO0 dO0 cO1 dO1 cO2 dO2 cO3 dO3 cO4 dO4 cO5 dO5
  refine (A2.out _).mono ?_
  rintro e v4 ⟨rfl, hb⟩
  have B4 := Lib.hid (B3.out.trans (hb.mono B3.out.size))
  have KT4 := Lib.hid (KT3.out.below hb)
  have KO4 := Lib.hid (KO3.out.below hb)
  have KR4 := Lib.hid (KR3.out.below hb)
  clear hb B3 KT3 KO3 KR3
  have cT0 : v4.cell? ⟨g_T, 0, none⟩ = some (.int .i64 p) := KT4.out.cell 0 _ rfl
  have cT1 : v4.cell? ⟨g_T, 1, none⟩ = some (.int .i64 q) := KT4.out.cell 1 _ rfl
  have cT2 : v4.cell? ⟨g_T, 2, none⟩ = some (.int .i64 r) := KT4.out.cell 2 _ rfl
  have cO0 : v4.cell? ⟨g_O, 0, none⟩ = some (.int .i64 m) := KO4.out.cell 0 _ rfl
  have dO0 := KO4.out.open 0
  have cO1 : v4.cell? ⟨g_O, 1, none⟩ = some (.int .i64 c) := KO4.out.cell 1 _ rfl
  have dO1 := KO4.out.open 1
  have cO2 : v4.cell? ⟨g_O, 2, none⟩ = some (.bool k) := KO4.out.cell 2 _ rfl
  have dO2 := KO4.out.open 2
  have cO3 : v4.cell? ⟨g_O, 3, none⟩ = some (.bool s) := KO4.out.cell 3 _ rfl
  have dO3 := KO4.out.open 3
  have cO4 : v4.cell? ⟨g_O, 4, none⟩ = some (.int .i64 v) := KO4.out.cell 4 _ rfl
  have dO4 := KO4.out.open 4
  have cO5 : v4.cell? ⟨g_O, 5, none⟩ = some (.int .i64 x) := KO4.out.cell 5 _ rfl
  have dO5 := KO4.out.open 5
  go_wp2_with fail
  clear cT0 cT1 cT2 cO0 dO0 cO1 dO1 cO2 dO2 cO3 dO3 cO4 dO4 cO5 dO5
  refine (A3.out _).mono ?_
  rintro e v5 ⟨rfl, hb⟩
  have B5 := Lib.hid (B4.out.trans (hb.mono B4.out.size))
  have KT5 := Lib.hid (KT4.out.below hb)
  have KO5 := Lib.hid (KO4.out.below hb)
  have KR5 := Lib.hid (KR4.out.below hb)
  clear hb B4 KT4 KO4 KR4
  have B6 := Lib.hid ((B5.out.alloc (by have h0 := B5.out.size; simp <;> omega) (.cells #[.int .i64 i1, .string ⟨#[]⟩, .int .i64 0, .bool false, .bool false, .bool false] 31)).alloc (by have h0 := B5.out.size; simp <;> omega) (.cells #[.int .i64 j2, .string ⟨#[]⟩, .slice none 0 0, .int .i64 (-1), .bool false] 34))
  have lt_T := KT5.out.lt
  have n_T_U : g_T ≠ v5.heap.size := by omega
  have n_T_V : g_T ≠ v5.heap.size + 1 := by omega
  clear lt_T
  have lt_O := KO5.out.lt
  have n_O_U : g_O ≠ v5.heap.size := by omega
  have n_O_V : g_O ≠ v5.heap.size + 1 := by omega
  clear lt_O
  have lt_R := KR5.out.lt
  have n_R_U : g_R ≠ v5.heap.size := by omega
  have n_R_V : g_R ≠ v5.heap.size + 1 := by omega
  clear lt_R
  have KT6 := Lib.hid ((KT5.out.alloc (.cells #[.int .i64 i1, .string ⟨#[]⟩, .int .i64 0, .bool false, .bool false, .bool false] 31)).alloc (.cells #[.int .i64 j2, .string ⟨#[]⟩, .slice none 0 0, .int .i64 (-1), .bool false] 34))
  have KO6 := Lib.hid ((KO5.out.alloc (.cells #[.int .i64 i1, .string ⟨#[]⟩, .int .i64 0, .bool false, .bool false, .bool false] 31)).alloc (.cells #[.int .i64 j2, .string ⟨#[]⟩, .slice none 0 0, .int .i64 (-1), .bool false] 34))
  have KR6 := Lib.hid ((KR5.out.alloc (.cells #[.int .i64 i1, .string ⟨#[]⟩, .int .i64 0, .bool false, .bool false, .bool false] 31)).alloc (.cells #[.int .i64 j2, .string ⟨#[]⟩, .slice none 0 0, .int .i64 (-1), .bool false] 34))
  have KU6 := Lib.hid (show Blk ((v5.alloc (.cells #[.int .i64 i1, .string ⟨#[]⟩, .int .i64 0, .bool false, .bool false, .bool false] 31)).alloc (.cells #[.int .i64 j2, .string ⟨#[]⟩, .slice none 0 0, .int .i64 (-1), .bool false] 34)) (v5.heap.size) [.int .i64 i1, .string ⟨#[]⟩, .int .i64 0, .bool false, .bool false, .bool false] from ((Blk.new v5 [.int .i64 i1, .string ⟨#[]⟩, .int .i64 0, .bool false, .bool false, .bool false] 31).alloc (.cells #[.int .i64 j2, .string ⟨#[]⟩, .slice none 0 0, .int .i64 (-1), .bool false] 34)))
  have n_U_V : v5.heap.size ≠ v5.heap.size + 1 := by omega
  have KV6 := Lib.hid (show Blk ((v5.alloc (.cells #[.int .i64 i1, .string ⟨#[]⟩, .int .i64 0, .bool false, .bool false, .bool false] 31)).alloc (.cells #[.int .i64 j2, .string ⟨#[]⟩, .slice none 0 0, .int .i64 (-1), .bool false] 34)) (v5.heap.size + 1) [.int .i64 j2, .string ⟨#[]⟩, .slice none 0 0, .int .i64 (-1), .bool false] by have h0 := (Blk.new (v5.alloc (.cells #[.int .i64 i1, .string ⟨#[]⟩, .int .i64 0, .bool false, .bool false, .bool false] 31)) [.int .i64 j2, .string ⟨#[]⟩, .slice none 0 0, .int .i64 (-1), .bool false] 34); rwa [show (v5.alloc (.cells #[.int .i64 i1, .string ⟨#[]⟩, .int .i64 0, .bool false, .bool false, .bool false] 31)).heap.size = v5.heap.size + 1 by simp] at h0)
  clear B5 KT5 KO5 KR5
  have cT0 : ((v5.alloc (.cells #[.int .i64 i1, .string ⟨#[]⟩, .int .i64 0, .bool false, .bool false, .bool false] 31)).alloc (.cells #[.int .i64 j2, .string ⟨#[]⟩, .slice none 0 0, .int .i64 (-1), .bool false] 34)).cell? ⟨g_T, 0, none⟩ = some (.int .i64 p) := KT6.out.cell 0 _ rfl
  have cT1 : ((v5.alloc (.cells #[.int .i64 i1, .string ⟨#[]⟩, .int .i64 0, .bool false, .bool false, .bool false] 31)).alloc (.cells #[.int .i64 j2, .string ⟨#[]⟩, .slice none 0 0, .int .i64 (-1), .bool false] 34)).cell? ⟨g_T, 1, none⟩ = some (.int .i64 q) := KT6.out.cell 1 _ rfl
  have cT2 : ((v5.alloc (.cells #[.int .i64 i1, .string ⟨#[]⟩, .int .i64 0, .bool false, .bool false, .bool false] 31)).alloc (.cells #[.int .i64 j2, .string ⟨#[]⟩, .slice none 0 0, .int .i64 (-1), .bool false] 34)).cell? ⟨g_T, 2, none⟩ = some (.int .i64 r) := KT6.out.cell 2 _ rfl
  have cO0 : ((v5.alloc (.cells #[.int .i64 i1, .string ⟨#[]⟩, .int .i64 0, .bool false, .bool false, .bool false] 31)).alloc (.cells #[.int .i64 j2, .string ⟨#[]⟩, .slice none 0 0, .int .i64 (-1), .bool false] 34)).cell? ⟨g_O, 0, none⟩ = some (.int .i64 m) := KO6.out.cell 0 _ rfl
  have dO0 := KO6.out.open 0
  have cO1 : ((v5.alloc (.cells #[.int .i64 i1, .string ⟨#[]⟩, .int .i64 0, .bool false, .bool false, .bool false] 31)).alloc (.cells #[.int .i64 j2, .string ⟨#[]⟩, .slice none 0 0, .int .i64 (-1), .bool false] 34)).cell? ⟨g_O, 1, none⟩ = some (.int .i64 c) := KO6.out.cell 1 _ rfl
  have dO1 := KO6.out.open 1
  have cO2 : ((v5.alloc (.cells #[.int .i64 i1, .string ⟨#[]⟩, .int .i64 0, .bool false, .bool false, .bool false] 31)).alloc (.cells #[.int .i64 j2, .string ⟨#[]⟩, .slice none 0 0, .int .i64 (-1), .bool false] 34)).cell? ⟨g_O, 2, none⟩ = some (.bool k) := KO6.out.cell 2 _ rfl
  have dO2 := KO6.out.open 2
  have cO3 : ((v5.alloc (.cells #[.int .i64 i1, .string ⟨#[]⟩, .int .i64 0, .bool false, .bool false, .bool false] 31)).alloc (.cells #[.int .i64 j2, .string ⟨#[]⟩, .slice none 0 0, .int .i64 (-1), .bool false] 34)).cell? ⟨g_O, 3, none⟩ = some (.bool s) := KO6.out.cell 3 _ rfl
  have dO3 := KO6.out.open 3
  have cO4 : ((v5.alloc (.cells #[.int .i64 i1, .string ⟨#[]⟩, .int .i64 0, .bool false, .bool false, .bool false] 31)).alloc (.cells #[.int .i64 j2, .string ⟨#[]⟩, .slice none 0 0, .int .i64 (-1), .bool false] 34)).cell? ⟨g_O, 4, none⟩ = some (.int .i64 v) := KO6.out.cell 4 _ rfl
  have dO4 := KO6.out.open 4
  have cO5 : ((v5.alloc (.cells #[.int .i64 i1, .string ⟨#[]⟩, .int .i64 0, .bool false, .bool false, .bool false] 31)).alloc (.cells #[.int .i64 j2, .string ⟨#[]⟩, .slice none 0 0, .int .i64 (-1), .bool false] 34)).cell? ⟨g_O, 5, none⟩ = some (.int .i64 x) := KO6.out.cell 5 _ rfl
  have dO5 := KO6.out.open 5
  go_wp2_with fail
  clear cT0 cT1 cT2 cO0 dO0 cO1 dO1 cO2 dO2 cO3 dO3 cO4 dO4 cO5 dO5
  change Calls _ _ _ ((v5.alloc (.cells #[.int .i64 i1, .string ⟨#[]⟩, .int .i64 0, .bool false, .bool false, .bool false] 31)).alloc (.cells #[.int .i64 j2, .string ⟨#[]⟩, .slice none 0 0, .int .i64 (-1), .bool false] 34)) _
  generalize (v5.alloc (.cells #[.int .i64 i1, .string ⟨#[]⟩, .int .i64 0, .bool false, .bool false, .bool false] 31)).alloc (.cells #[.int .i64 j2, .string ⟨#[]⟩, .slice none 0 0, .int .i64 (-1), .bool false] 34) = v6 at B6 KT6 KO6 KR6 KU6 KV6 ⊢
  generalize v5.heap.size + 1 = g_V at KV6 n_T_V n_O_V n_R_V n_U_V ⊢
  generalize v5.heap.size = g_U at KU6 n_T_U n_O_U n_R_U n_U_V ⊢
  refine (SC.out _).mono ?_
  rintro e v7 ⟨rfl, hb⟩
  have B7 := Lib.hid (B6.out.trans (hb.mono B6.out.size))
  have KT7 := Lib.hid (KT6.out.below hb)
  have KO7 := Lib.hid (KO6.out.below hb)
  have KR7 := Lib.hid (KR6.out.below hb)
  have KU7 := Lib.hid (KU6.out.below hb)
  have KV7 := Lib.hid (KV6.out.below hb)
  clear hb B6 KT6 KO6 KR6 KU6 KV6
  have cT0 : v7.cell? ⟨g_T, 0, none⟩ = some (.int .i64 p) := KT7.out.cell 0 _ rfl
  have cT1 : v7.cell? ⟨g_T, 1, none⟩ = some (.int .i64 q) := KT7.out.cell 1 _ rfl
  have cT2 : v7.cell? ⟨g_T, 2, none⟩ = some (.int .i64 r) := KT7.out.cell 2 _ rfl
  have cO0 : v7.cell? ⟨g_O, 0, none⟩ = some (.int .i64 m) := KO7.out.cell 0 _ rfl
  have dO0 := KO7.out.open 0
  have cO1 : v7.cell? ⟨g_O, 1, none⟩ = some (.int .i64 c) := KO7.out.cell 1 _ rfl
  have dO1 := KO7.out.open 1
  have cO2 : v7.cell? ⟨g_O, 2, none⟩ = some (.bool k) := KO7.out.cell 2 _ rfl
  have dO2 := KO7.out.open 2
  have cO3 : v7.cell? ⟨g_O, 3, none⟩ = some (.bool s) := KO7.out.cell 3 _ rfl
  have dO3 := KO7.out.open 3
  have cO4 : v7.cell? ⟨g_O, 4, none⟩ = some (.int .i64 v) := KO7.out.cell 4 _ rfl
  have dO4 := KO7.out.open 4
  have cO5 : v7.cell? ⟨g_O, 5, none⟩ = some (.int .i64 x) := KO7.out.cell 5 _ rfl
  have dO5 := KO7.out.open 5
  have cU0 : v7.cell? ⟨g_U, 0, none⟩ = some (.int .i64 i1) := KU7.out.cell 0 _ rfl
  have cU1 : v7.cell? ⟨g_U, 1, none⟩ = some (.string ⟨#[]⟩) := KU7.out.cell 1 _ rfl
  have cU2 : v7.cell? ⟨g_U, 2, none⟩ = some (.int .i64 0) := KU7.out.cell 2 _ rfl
  have cU3 : v7.cell? ⟨g_U, 3, none⟩ = some (.bool false) := KU7.out.cell 3 _ rfl
  have cU4 : v7.cell? ⟨g_U, 4, none⟩ = some (.bool false) := KU7.out.cell 4 _ rfl
  have cU5 : v7.cell? ⟨g_U, 5, none⟩ = some (.bool false) := KU7.out.cell 5 _ rfl
  have cV0 : v7.cell? ⟨g_V, 0, none⟩ = some (.int .i64 j2) := KV7.out.cell 0 _ rfl
  have cV1 : v7.cell? ⟨g_V, 1, none⟩ = some (.string ⟨#[]⟩) := KV7.out.cell 1 _ rfl
  have cV2 : v7.cell? ⟨g_V, 2, none⟩ = some (.slice none 0 0) := KV7.out.cell 2 _ rfl
  have cV3 : v7.cell? ⟨g_V, 3, none⟩ = some (.int .i64 (-1)) := KV7.out.cell 3 _ rfl
  have cV4 : v7.cell? ⟨g_V, 4, none⟩ = some (.bool false) := KV7.out.cell 4 _ rfl
  go_wp2_with (refine wpList_store_blk (cs' := [.int .i64 p, .int .i64 q, .int .i64 r, .int .i64 1, .int .i64 i1, .string ⟨#[]⟩, .int .i64 0, .bool false, .bool false, .bool false, .int .i64 j2, .string ⟨#[]⟩, .slice none 0 0, .int .i64 (-1), .bool false, .int .i64 ms, .int .i64 ms, .int .i64 m, .int .i64 c, .bool k, .bool s, .int .i64 v, .int .i64 x, .int .i64 0, .int .i64 0]) rfl 36 _ _ rfl rfl rfl KR7.out rfl (by kernel_rfl) rfl (fun w' hB hg => ?_))
  clear cT0 cT1 cT2 cO0 dO0 cO1 dO1 cO2 dO2 cO3 dO3 cO4 dO4 cO5 dO5 cU0 cU1 cU2 cU3 cU4 cU5 cV0 cV1 cV2 cV3 cV4
  have B8 := Lib.hid (B7.out.trans (grown_below hg l_R B7.out.size))
  have KT8 := Lib.hid (KT7.out.grown hg (n_T_R))
  have KO8 := Lib.hid (KO7.out.grown hg (n_O_R))
  have KR8 := Lib.hid hB
  have KU8 := Lib.hid (KU7.out.grown hg (fun e => n_R_U e.symm))
  have KV8 := Lib.hid (KV7.out.grown hg (fun e => n_R_V e.symm))
  clear hB hg B7 KT7 KO7 KR7 KU7 KV7
  exact bodyPost_ret (v := .agg #[.int .i64 p, .int .i64 q, .int .i64 r, .int .i64 1, .int .i64 i1, .string ⟨#[]⟩, .int .i64 0, .bool false, .bool false, .bool false, .int .i64 j2, .string ⟨#[]⟩, .slice none 0 0, .int .i64 (-1), .bool false, .int .i64 ms, .int .i64 ms, .int .i64 m, .int .i64 c, .bool k, .bool s, .int .i64 v, .int .i64 x, .int .i64 0, .int .i64 0]) (blk_results rfl KR8.out rfl Try.underlying36 rfl (by kernel_rfl)) rfl ⟨rfl, B8.out⟩

set_option maxRecDepth 100000 in
set_option maxHeartbeats 8000000 in
theorem connNewI_01 (p q r i j m c : Int) (k s : Bool) (v x wd : Int) (w : World) (ho : optOk ⟨m, c, k, s, v, x⟩ = false) (hw : wordOk wd 16 = true) :
    Calls Try.prog 12 #[.agg #[.int .i64 p, .int .i64 q, .int .i64 r], .int .i64 i, .int .i64 j, .agg #[.int .i64 m, .int .i64 c, .bool k, .bool s, .int .i64 v, .int .i64 x], .int .i64 wd] w (EndCN p q r (pl (i + 1)) (pl (pl (j + 1))) ⟨0, -1, false, false, 0, 0⟩ (scaled wd (-1)) w) := by
  have OK := fun w => optionsOkI m c k s v x w
  rw [ho] at OK
  have WK := fun w => wordI_s wd 16 w
  rw [hw] at WK
  replace OK := Lib.hid OK
  replace WK := Lib.hid WK
  have A1 := fun w => seqAddI_s i 1 w
  have A2 := fun w => seqAddI_s j 1 w
  have A3 := fun w => rcvNewI (pl (j + 1)) w
  have NO := Lib.hid (fun w => noOptionsI w)
  have SC := fun w => scaledI wd 0 (-1) false false 0 0 w
  generalize scaled wd (-1) = ms at SC ⊢
  replace SC := Lib.hid SC
  unfold EndN0 at A3
  unfold EndCN
  generalize pl (pl (j + 1)) = j2 at A3 ⊢
  generalize pl (i + 1) = i1 at A1 ⊢
  generalize pl (j + 1) = j1 at A2 A3
  replace A1 := Lib.hid A1
  replace A2 := Lib.hid A2
  replace A3 := Lib.hid A3
  clear ho hw
  go_enter Try.func12, Try.ntmps12
  have B0 := Lib.hid (show Below w.heap.size w (((w.alloc (.cells #[.int .i64 p, .int .i64 q, .int .i64 r] 25)).alloc (.cells #[.int .i64 m, .int .i64 c, .bool k, .bool s, .int .i64 v, .int .i64 x] 27)).alloc (.cells #[.int .i64 0, .int .i64 0, .int .i64 0, .int .i64 0, .int .i64 0, .string ⟨#[]⟩, .int .i64 0, .bool false, .bool false, .bool false, .int .i64 0, .string ⟨#[]⟩, .slice none 0 0, .int .i64 0, .bool false, .int .i64 0, .int .i64 0, .int .i64 0, .int .i64 0, .bool false, .bool false, .int .i64 0, .int .i64 0, .int .i64 0, .int .i64 0] 36)) from ((((Below.refl _ w).alloc (by simp) _).alloc (by simp) _).alloc (by simp; omega) _))
  have KT0 := Lib.hid (show Blk (((w.alloc (.cells #[.int .i64 p, .int .i64 q, .int .i64 r] 25)).alloc (.cells #[.int .i64 m, .int .i64 c, .bool k, .bool s, .int .i64 v, .int .i64 x] 27)).alloc (.cells #[.int .i64 0, .int .i64 0, .int .i64 0, .int .i64 0, .int .i64 0, .string ⟨#[]⟩, .int .i64 0, .bool false, .bool false, .bool false, .int .i64 0, .string ⟨#[]⟩, .slice none 0 0, .int .i64 0, .bool false, .int .i64 0, .int .i64 0, .int .i64 0, .int .i64 0, .bool false, .bool false, .int .i64 0, .int .i64 0, .int .i64 0, .int .i64 0] 36)) (w.heap.size) [.int .i64 p, .int .i64 q, .int .i64 r] from ((Blk.new w [.int .i64 p, .int .i64 q, .int .i64 r] 25).alloc (.cells #[.int .i64 m, .int .i64 c, .bool k, .bool s, .int .i64 v, .int .i64 x] 27)).alloc (.cells #[.int .i64 0, .int .i64 0, .int .i64 0, .int .i64 0, .int .i64 0, .string ⟨#[]⟩, .int .i64 0, .bool false, .bool false, .bool false, .int .i64 0, .string ⟨#[]⟩, .slice none 0 0, .int .i64 0, .bool false, .int .i64 0, .int .i64 0, .int .i64 0, .int .i64 0, .bool false, .bool false, .int .i64 0, .int .i64 0, .int .i64 0, .int .i64 0] 36))
  have s1 : (w.alloc (.cells #[.int .i64 p, .int .i64 q, .int .i64 r] 25)).heap.size = w.heap.size + 1 := by simp
  have KO0 := Lib.hid (show Blk (((w.alloc (.cells #[.int .i64 p, .int .i64 q, .int .i64 r] 25)).alloc (.cells #[.int .i64 m, .int .i64 c, .bool k, .bool s, .int .i64 v, .int .i64 x] 27)).alloc (.cells #[.int .i64 0, .int .i64 0, .int .i64 0, .int .i64 0, .int .i64 0, .string ⟨#[]⟩, .int .i64 0, .bool false, .bool false, .bool false, .int .i64 0, .string ⟨#[]⟩, .slice none 0 0, .int .i64 0, .bool false, .int .i64 0, .int .i64 0, .int .i64 0, .int .i64 0, .bool false, .bool false, .int .i64 0, .int .i64 0, .int .i64 0, .int .i64 0] 36)) (w.heap.size + 1) [.int .i64 m, .int .i64 c, .bool k, .bool s, .int .i64 v, .int .i64 x] by have h0 := (Blk.new (w.alloc (.cells #[.int .i64 p, .int .i64 q, .int .i64 r] 25)) [.int .i64 m, .int .i64 c, .bool k, .bool s, .int .i64 v, .int .i64 x] 27).alloc (.cells #[.int .i64 0, .int .i64 0, .int .i64 0, .int .i64 0, .int .i64 0, .string ⟨#[]⟩, .int .i64 0, .bool false, .bool false, .bool false, .int .i64 0, .string ⟨#[]⟩, .slice none 0 0, .int .i64 0, .bool false, .int .i64 0, .int .i64 0, .int .i64 0, .int .i64 0, .bool false, .bool false, .int .i64 0, .int .i64 0, .int .i64 0, .int .i64 0] 36); rwa [s1] at h0)
  have n_T_O : w.heap.size ≠ w.heap.size + 1 := by omega
  have s2 : ((w.alloc (.cells #[.int .i64 p, .int .i64 q, .int .i64 r] 25)).alloc (.cells #[.int .i64 m, .int .i64 c, .bool k, .bool s, .int .i64 v, .int .i64 x] 27)).heap.size = w.heap.size + 1 + 1 := by simp
  have KR0 := Lib.hid (show Blk (((w.alloc (.cells #[.int .i64 p, .int .i64 q, .int .i64 r] 25)).alloc (.cells #[.int .i64 m, .int .i64 c, .bool k, .bool s, .int .i64 v, .int .i64 x] 27)).alloc (.cells #[.int .i64 0, .int .i64 0, .int .i64 0, .int .i64 0, .int .i64 0, .string ⟨#[]⟩, .int .i64 0, .bool false, .bool false, .bool false, .int .i64 0, .string ⟨#[]⟩, .slice none 0 0, .int .i64 0, .bool false, .int .i64 0, .int .i64 0, .int .i64 0, .int .i64 0, .bool false, .bool false, .int .i64 0, .int .i64 0, .int .i64 0, .int .i64 0] 36)) (w.heap.size + 1 + 1) [.int .i64 0, .int .i64 0, .int .i64 0, .int .i64 0, .int .i64 0, .string ⟨#[]⟩, .int .i64 0, .bool false, .bool false, .bool false, .int .i64 0, .string ⟨#[]⟩, .slice none 0 0, .int .i64 0, .bool false, .int .i64 0, .int .i64 0, .int .i64 0, .int .i64 0, .bool false, .bool false, .int .i64 0, .int .i64 0, .int .i64 0, .int .i64 0] by have h0 := Blk.new ((w.alloc (.cells #[.int .i64 p, .int .i64 q, .int .i64 r] 25)).alloc (.cells #[.int .i64 m, .int .i64 c, .bool k, .bool s, .int .i64 v, .int .i64 x] 27)) [.int .i64 0, .int .i64 0, .int .i64 0, .int .i64 0, .int .i64 0, .string ⟨#[]⟩, .int .i64 0, .bool false, .bool false, .bool false, .int .i64 0, .string ⟨#[]⟩, .slice none 0 0, .int .i64 0, .bool false, .int .i64 0, .int .i64 0, .int .i64 0, .int .i64 0, .bool false, .bool false, .int .i64 0, .int .i64 0, .int .i64 0, .int .i64 0] 36; rwa [s2] at h0)
  have n_T_R : w.heap.size ≠ w.heap.size + 1 + 1 := by omega
  have n_O_R : w.heap.size + 1 ≠ w.heap.size + 1 + 1 := by omega
  clear s1 s2
  go_upto_region 1 with fail
  generalize ((w.alloc (.cells #[.int .i64 p, .int .i64 q, .int .i64 r] 25)).alloc (.cells #[.int .i64 m, .int .i64 c, .bool k, .bool s, .int .i64 v, .int .i64 x] 27)).alloc (.cells #[.int .i64 0, .int .i64 0, .int .i64 0, .int .i64 0, .int .i64 0, .string ⟨#[]⟩, .int .i64 0, .bool false, .bool false, .bool false, .int .i64 0, .string ⟨#[]⟩, .slice none 0 0, .int .i64 0, .bool false, .int .i64 0, .int .i64 0, .int .i64 0, .int .i64 0, .bool false, .bool false, .int .i64 0, .int .i64 0, .int .i64 0, .int .i64 0] 36) = v0 at B0 KT0 KO0 KR0 ⊢
  generalize hh_R : w.heap.size + 1 + 1 = g_R at KR0 n_T_R n_O_R ⊢
  generalize hh_O : w.heap.size + 1 = g_O at KO0 n_T_O n_O_R ⊢
  generalize hh_T : w.heap.size = g_T at KT0 n_T_O n_T_R ⊢
  have l_T : w.heap.size ≤ g_T := by omega
  have l_O : w.heap.size ≤ g_O := by omega
  have l_R : w.heap.size ≤ g_R := by omega
  clear hh_T hh_O hh_R
  have cT0 : v0.cell? ⟨g_T, 0, none⟩ = some (.int .i64 p) := KT0.out.cell 0 _ rfl
  have cT1 : v0.cell? ⟨g_T, 1, none⟩ = some (.int .i64 q) := KT0.out.cell 1 _ rfl
  have cT2 : v0.cell? ⟨g_T, 2, none⟩ = some (.int .i64 r) := KT0.out.cell 2 _ rfl
  have cO0 : v0.cell? ⟨g_O, 0, none⟩ = some (.int .i64 m) := KO0.out.cell 0 _ rfl
  have dO0 := KO0.out.open 0
  have cO1 : v0.cell? ⟨g_O, 1, none⟩ = some (.int .i64 c) := KO0.out.cell 1 _ rfl
  have dO1 := KO0.out.open 1
  have cO2 : v0.cell? ⟨g_O, 2, none⟩ = some (.bool k) := KO0.out.cell 2 _ rfl
  have dO2 := KO0.out.open 2
  have cO3 : v0.cell? ⟨g_O, 3, none⟩ = some (.bool s) := KO0.out.cell 3 _ rfl
  have dO3 := KO0.out.open 3
  have cO4 : v0.cell? ⟨g_O, 4, none⟩ = some (.int .i64 v) := KO0.out.cell 4 _ rfl
  have dO4 := KO0.out.open 4
  have cO5 : v0.cell? ⟨g_O, 5, none⟩ = some (.int .i64 x) := KO0.out.cell 5 _ rfl
  have dO5 := KO0.out.open 5
  go_wp2_with fail
  clear cT0 cT1 cT2 cO0 dO0 cO1 dO1 cO2 dO2 cO3 dO3 cO4 dO4 cO5 dO5
  refine (OK.out _).mono ?_
  rintro e v1 ⟨rfl, hb⟩
  have B1 := Lib.hid (B0.out.trans (hb.mono B0.out.size))
  have KT1 := Lib.hid (KT0.out.below hb)
  have KO1 := Lib.hid (KO0.out.below hb)
  have KR1 := Lib.hid (KR0.out.below hb)
  clear hb B0 KT0 KO0 KR0
  have cT0 : v1.cell? ⟨g_T, 0, none⟩ = some (.int .i64 p) := KT1.out.cell 0 _ rfl
  have cT1 : v1.cell? ⟨g_T, 1, none⟩ = some (.int .i64 q) := KT1.out.cell 1 _ rfl
  have cT2 : v1.cell? ⟨g_T, 2, none⟩ = some (.int .i64 r) := KT1.out.cell 2 _ rfl
  have cO0 : v1.cell? ⟨g_O, 0, none⟩ = some (.int .i64 m) := KO1.out.cell 0 _ rfl
  have dO0 := KO1.out.open 0
  have cO1 : v1.cell? ⟨g_O, 1, none⟩ = some (.int .i64 c) := KO1.out.cell 1 _ rfl
  have dO1 := KO1.out.open 1
  have cO2 : v1.cell? ⟨g_O, 2, none⟩ = some (.bool k) := KO1.out.cell 2 _ rfl
  have dO2 := KO1.out.open 2
  have cO3 : v1.cell? ⟨g_O, 3, none⟩ = some (.bool s) := KO1.out.cell 3 _ rfl
  have dO3 := KO1.out.open 3
  have cO4 : v1.cell? ⟨g_O, 4, none⟩ = some (.int .i64 v) := KO1.out.cell 4 _ rfl
  have dO4 := KO1.out.open 4
  have cO5 : v1.cell? ⟨g_O, 5, none⟩ = some (.int .i64 x) := KO1.out.cell 5 _ rfl
  have dO5 := KO1.out.open 5
  go_wp2_with fail
  clear cT0 cT1 cT2 cO0 dO0 cO1 dO1 cO2 dO2 cO3 dO3 cO4 dO4 cO5 dO5
  refine (NO.out _).mono ?_
  rintro e v2 ⟨rfl, hb⟩
  have B2 := Lib.hid (B1.out.trans (hb.mono B1.out.size))
  have KT2 := Lib.hid (KT1.out.below hb)
  have KO2 := Lib.hid (KO1.out.below hb)
  have KR2 := Lib.hid (KR1.out.below hb)
  clear hb B1 KT1 KO1 KR1
  have cT0 : v2.cell? ⟨g_T, 0, none⟩ = some (.int .i64 p) := KT2.out.cell 0 _ rfl
  have cT1 : v2.cell? ⟨g_T, 1, none⟩ = some (.int .i64 q) := KT2.out.cell 1 _ rfl
  have cT2 : v2.cell? ⟨g_T, 2, none⟩ = some (.int .i64 r) := KT2.out.cell 2 _ rfl
  have cO0 : v2.cell? ⟨g_O, 0, none⟩ = some (.int .i64 m) := KO2.out.cell 0 _ rfl
  have dO0 := KO2.out.open 0
  have cO1 : v2.cell? ⟨g_O, 1, none⟩ = some (.int .i64 c) := KO2.out.cell 1 _ rfl
  have dO1 := KO2.out.open 1
  have cO2 : v2.cell? ⟨g_O, 2, none⟩ = some (.bool k) := KO2.out.cell 2 _ rfl
  have dO2 := KO2.out.open 2
  have cO3 : v2.cell? ⟨g_O, 3, none⟩ = some (.bool s) := KO2.out.cell 3 _ rfl
  have dO3 := KO2.out.open 3
  have cO4 : v2.cell? ⟨g_O, 4, none⟩ = some (.int .i64 v) := KO2.out.cell 4 _ rfl
  have dO4 := KO2.out.open 4
  have cO5 : v2.cell? ⟨g_O, 5, none⟩ = some (.int .i64 x) := KO2.out.cell 5 _ rfl
  have dO5 := KO2.out.open 5
  have KT3 := Lib.hid (show Blk ((((((v2.setCell ⟨g_O, 0, none⟩ (.int .i64 0)).setCell ⟨g_O, 1, none⟩ (.int .i64 (-1))).setCell ⟨g_O, 2, none⟩ (.bool false)).setCell ⟨g_O, 3, none⟩ (.bool false)).setCell ⟨g_O, 4, none⟩ (.int .i64 0)).setCell ⟨g_O, 5, none⟩ (.int .i64 0)) g_T [.int .i64 p, .int .i64 q, .int .i64 r] from ((((((KT2.out.setOther ⟨g_O, 0, none⟩ (.int .i64 0) (n_T_O)).setOther ⟨g_O, 1, none⟩ (.int .i64 (-1)) (n_T_O)).setOther ⟨g_O, 2, none⟩ (.bool false) (n_T_O)).setOther ⟨g_O, 3, none⟩ (.bool false) (n_T_O)).setOther ⟨g_O, 4, none⟩ (.int .i64 0) (n_T_O)).setOther ⟨g_O, 5, none⟩ (.int .i64 0) (n_T_O)))
  have KO3 := Lib.hid (show Blk ((((((v2.setCell ⟨g_O, 0, none⟩ (.int .i64 0)).setCell ⟨g_O, 1, none⟩ (.int .i64 (-1))).setCell ⟨g_O, 2, none⟩ (.bool false)).setCell ⟨g_O, 3, none⟩ (.bool false)).setCell ⟨g_O, 4, none⟩ (.int .i64 0)).setCell ⟨g_O, 5, none⟩ (.int .i64 0)) g_O [.int .i64 0, .int .i64 (-1), .bool false, .bool false, .int .i64 0, .int .i64 0] from ((((((KO2.out.set 0 (.int .i64 0)).set 1 (.int .i64 (-1))).set 2 (.bool false)).set 3 (.bool false)).set 4 (.int .i64 0)).set 5 (.int .i64 0)))
  have KR3 := Lib.hid (show Blk ((((((v2.setCell ⟨g_O, 0, none⟩ (.int .i64 0)).setCell ⟨g_O, 1, none⟩ (.int .i64 (-1))).setCell ⟨g_O, 2, none⟩ (.bool false)).setCell ⟨g_O, 3, none⟩ (.bool false)).setCell ⟨g_O, 4, none⟩ (.int .i64 0)).setCell ⟨g_O, 5, none⟩ (.int .i64 0)) g_R [.int .i64 0, .int .i64 0, .int .i64 0, .int .i64 0, .int .i64 0, .string ⟨#[]⟩, .int .i64 0, .bool false, .bool false, .bool false, .int .i64 0, .string ⟨#[]⟩, .slice none 0 0, .int .i64 0, .bool false, .int .i64 0, .int .i64 0, .int .i64 0, .int .i64 0, .bool false, .bool false, .int .i64 0, .int .i64 0, .int .i64 0, .int .i64 0] from ((((((KR2.out.setOther ⟨g_O, 0, none⟩ (.int .i64 0) (fun e => n_O_R e.symm)).setOther ⟨g_O, 1, none⟩ (.int .i64 (-1)) (fun e => n_O_R e.symm)).setOther ⟨g_O, 2, none⟩ (.bool false) (fun e => n_O_R e.symm)).setOther ⟨g_O, 3, none⟩ (.bool false) (fun e => n_O_R e.symm)).setOther ⟨g_O, 4, none⟩ (.int .i64 0) (fun e => n_O_R e.symm)).setOther ⟨g_O, 5, none⟩ (.int .i64 0) (fun e => n_O_R e.symm)))
  have B3 := Lib.hid (show Below w.heap.size w ((((((v2.setCell ⟨g_O, 0, none⟩ (.int .i64 0)).setCell ⟨g_O, 1, none⟩ (.int .i64 (-1))).setCell ⟨g_O, 2, none⟩ (.bool false)).setCell ⟨g_O, 3, none⟩ (.bool false)).setCell ⟨g_O, 4, none⟩ (.int .i64 0)).setCell ⟨g_O, 5, none⟩ (.int .i64 0)) from ((((((B2.out.setCell l_O (.int .i64 0)).setCell l_O (.int .i64 (-1))).setCell l_O (.bool false)).setCell l_O (.bool false)).setCell l_O (.int .i64 0)).setCell l_O (.int .i64 0)))
  clear B2
  go_wp2_with fail
  clear KT2 KO2 KR2
  clear cT0 cT1 cT2 cO0 dO0 cO1 dO1 cO2 dO2 cO3 dO3 cO4 dO4 cO5 dO5
  change Calls _ _ _ ((((((v2.setCell ⟨g_O, 0, none⟩ (.int .i64 0)).setCell ⟨g_O, 1, none⟩ (.int .i64 (-1))).setCell ⟨g_O, 2, none⟩ (.bool false)).setCell ⟨g_O, 3, none⟩ (.bool false)).setCell ⟨g_O, 4, none⟩ (.int .i64 0)).setCell ⟨g_O, 5, none⟩ (.int .i64 0)) _
  generalize (((((v2.setCell ⟨g_O, 0, none⟩ (.int .i64 0)).setCell ⟨g_O, 1, none⟩ (.int .i64 (-1))).setCell ⟨g_O, 2, none⟩ (.bool false)).setCell ⟨g_O, 3, none⟩ (.bool false)).setCell ⟨g_O, 4, none⟩ (.int .i64 0)).setCell ⟨g_O, 5, none⟩ (.int .i64 0) = v3 at B3 KT3 KO3 KR3 ⊢
  refine (WK.out _).mono ?_
  rintro e v4 ⟨rfl, hb⟩
  have B4 := Lib.hid (B3.out.trans (hb.mono B3.out.size))
  have KT4 := Lib.hid (KT3.out.below hb)
  have KO4 := Lib.hid (KO3.out.below hb)
  have KR4 := Lib.hid (KR3.out.below hb)
  clear hb B3 KT3 KO3 KR3
  have cT0 : v4.cell? ⟨g_T, 0, none⟩ = some (.int .i64 p) := KT4.out.cell 0 _ rfl
  have cT1 : v4.cell? ⟨g_T, 1, none⟩ = some (.int .i64 q) := KT4.out.cell 1 _ rfl
  have cT2 : v4.cell? ⟨g_T, 2, none⟩ = some (.int .i64 r) := KT4.out.cell 2 _ rfl
  have cO0 : v4.cell? ⟨g_O, 0, none⟩ = some (.int .i64 0) := KO4.out.cell 0 _ rfl
  have dO0 := KO4.out.open 0
  have cO1 : v4.cell? ⟨g_O, 1, none⟩ = some (.int .i64 (-1)) := KO4.out.cell 1 _ rfl
  have dO1 := KO4.out.open 1
  have cO2 : v4.cell? ⟨g_O, 2, none⟩ = some (.bool false) := KO4.out.cell 2 _ rfl
  have dO2 := KO4.out.open 2
  have cO3 : v4.cell? ⟨g_O, 3, none⟩ = some (.bool false) := KO4.out.cell 3 _ rfl
  have dO3 := KO4.out.open 3
  have cO4 : v4.cell? ⟨g_O, 4, none⟩ = some (.int .i64 0) := KO4.out.cell 4 _ rfl
  have dO4 := KO4.out.open 4
  have cO5 : v4.cell? ⟨g_O, 5, none⟩ = some (.int .i64 0) := KO4.out.cell 5 _ rfl
  have dO5 := KO4.out.open 5
  go_wp2_with fail
  clear cT0 cT1 cT2 cO0 dO0 cO1 dO1 cO2 dO2 cO3 dO3 cO4 dO4 cO5 dO5
  refine (A1.out _).mono ?_
  rintro e v5 ⟨rfl, hb⟩
  have B5 := Lib.hid (B4.out.trans (hb.mono B4.out.size))
  have KT5 := Lib.hid (KT4.out.below hb)
  have KO5 := Lib.hid (KO4.out.below hb)
  have KR5 := Lib.hid (KR4.out.below hb)
  clear hb B4 KT4 KO4 KR4
  have cT0 : v5.cell? ⟨g_T, 0, none⟩ = some (.int .i64 p) := KT5.out.cell 0 _ rfl
  have cT1 : v5.cell? ⟨g_T, 1, none⟩ = some (.int .i64 q) := KT5.out.cell 1 _ rfl
  have cT2 : v5.cell? ⟨g_T, 2, none⟩ = some (.int .i64 r) := KT5.out.cell 2 _ rfl
  have cO0 : v5.cell? ⟨g_O, 0, none⟩ = some (.int .i64 0) := KO5.out.cell 0 _ rfl
  have dO0 := KO5.out.open 0
  have cO1 : v5.cell? ⟨g_O, 1, none⟩ = some (.int .i64 (-1)) := KO5.out.cell 1 _ rfl
  have dO1 := KO5.out.open 1
  have cO2 : v5.cell? ⟨g_O, 2, none⟩ = some (.bool false) := KO5.out.cell 2 _ rfl
  have dO2 := KO5.out.open 2
  have cO3 : v5.cell? ⟨g_O, 3, none⟩ = some (.bool false) := KO5.out.cell 3 _ rfl
  have dO3 := KO5.out.open 3
  have cO4 : v5.cell? ⟨g_O, 4, none⟩ = some (.int .i64 0) := KO5.out.cell 4 _ rfl
  have dO4 := KO5.out.open 4
  have cO5 : v5.cell? ⟨g_O, 5, none⟩ = some (.int .i64 0) := KO5.out.cell 5 _ rfl
  have dO5 := KO5.out.open 5
  go_wp2_with fail
  clear cT0 cT1 cT2 cO0 dO0 cO1 dO1 cO2 dO2 cO3 dO3 cO4 dO4 cO5 dO5
  refine (A2.out _).mono ?_
  rintro e v6 ⟨rfl, hb⟩
  have B6 := Lib.hid (B5.out.trans (hb.mono B5.out.size))
  have KT6 := Lib.hid (KT5.out.below hb)
  have KO6 := Lib.hid (KO5.out.below hb)
  have KR6 := Lib.hid (KR5.out.below hb)
  clear hb B5 KT5 KO5 KR5
  have cT0 : v6.cell? ⟨g_T, 0, none⟩ = some (.int .i64 p) := KT6.out.cell 0 _ rfl
  have cT1 : v6.cell? ⟨g_T, 1, none⟩ = some (.int .i64 q) := KT6.out.cell 1 _ rfl
  have cT2 : v6.cell? ⟨g_T, 2, none⟩ = some (.int .i64 r) := KT6.out.cell 2 _ rfl
  have cO0 : v6.cell? ⟨g_O, 0, none⟩ = some (.int .i64 0) := KO6.out.cell 0 _ rfl
  have dO0 := KO6.out.open 0
  have cO1 : v6.cell? ⟨g_O, 1, none⟩ = some (.int .i64 (-1)) := KO6.out.cell 1 _ rfl
  have dO1 := KO6.out.open 1
  have cO2 : v6.cell? ⟨g_O, 2, none⟩ = some (.bool false) := KO6.out.cell 2 _ rfl
  have dO2 := KO6.out.open 2
  have cO3 : v6.cell? ⟨g_O, 3, none⟩ = some (.bool false) := KO6.out.cell 3 _ rfl
  have dO3 := KO6.out.open 3
  have cO4 : v6.cell? ⟨g_O, 4, none⟩ = some (.int .i64 0) := KO6.out.cell 4 _ rfl
  have dO4 := KO6.out.open 4
  have cO5 : v6.cell? ⟨g_O, 5, none⟩ = some (.int .i64 0) := KO6.out.cell 5 _ rfl
  have dO5 := KO6.out.open 5
  go_wp2_with fail
  clear cT0 cT1 cT2 cO0 dO0 cO1 dO1 cO2 dO2 cO3 dO3 cO4 dO4 cO5 dO5
  refine (A3.out _).mono ?_
  rintro e v7 ⟨rfl, hb⟩
  have B7 := Lib.hid (B6.out.trans (hb.mono B6.out.size))
  have KT7 := Lib.hid (KT6.out.below hb)
  have KO7 := Lib.hid (KO6.out.below hb)
  have KR7 := Lib.hid (KR6.out.below hb)
  clear hb B6 KT6 KO6 KR6
  have B8 := Lib.hid ((B7.out.alloc (by have h0 := B7.out.size; simp <;> omega) (.cells #[.int .i64 i1, .string ⟨#[]⟩, .int .i64 0, .bool false, .bool false, .bool false] 31)).alloc (by have h0 := B7.out.size; simp <;> omega) (.cells #[.int .i64 j2, .string ⟨#[]⟩, .slice none 0 0, .int .i64 (-1), .bool false] 34))
  have lt_T := KT7.out.lt
  have n_T_U : g_T ≠ v7.heap.size := by omega
  have n_T_V : g_T ≠ v7.heap.size + 1 := by omega
  clear lt_T
  have lt_O := KO7.out.lt
  have n_O_U : g_O ≠ v7.heap.size := by omega
  have n_O_V : g_O ≠ v7.heap.size + 1 := by omega
  clear lt_O
  have lt_R := KR7.out.lt
  have n_R_U : g_R ≠ v7.heap.size := by omega
  have n_R_V : g_R ≠ v7.heap.size + 1 := by omega
  clear lt_R
  have KT8 := Lib.hid ((KT7.out.alloc (.cells #[.int .i64 i1, .string ⟨#[]⟩, .int .i64 0, .bool false, .bool false, .bool false] 31)).alloc (.cells #[.int .i64 j2, .string ⟨#[]⟩, .slice none 0 0, .int .i64 (-1), .bool false] 34))
  have KO8 := Lib.hid ((KO7.out.alloc (.cells #[.int .i64 i1, .string ⟨#[]⟩, .int .i64 0, .bool false, .bool false, .bool false] 31)).alloc (.cells #[.int .i64 j2, .string ⟨#[]⟩, .slice none 0 0, .int .i64 (-1), .bool false] 34))
  have KR8 := Lib.hid ((KR7.out.alloc (.cells #[.int .i64 i1, .string ⟨#[]⟩, .int .i64 0, .bool false, .bool false, .bool false] 31)).alloc (.cells #[.int .i64 j2, .string ⟨#[]⟩, .slice none 0 0, .int .i64 (-1), .bool false] 34))
  have KU8 := Lib.hid (show Blk ((v7.alloc (.cells #[.int .i64 i1, .string ⟨#[]⟩, .int .i64 0, .bool false, .bool false, .bool false] 31)).alloc (.cells #[.int .i64 j2, .string ⟨#[]⟩, .slice none 0 0, .int .i64 (-1), .bool false] 34)) (v7.heap.size) [.int .i64 i1, .string ⟨#[]⟩, .int .i64 0, .bool false, .bool false, .bool false] from ((Blk.new v7 [.int .i64 i1, .string ⟨#[]⟩, .int .i64 0, .bool false, .bool false, .bool false] 31).alloc (.cells #[.int .i64 j2, .string ⟨#[]⟩, .slice none 0 0, .int .i64 (-1), .bool false] 34)))
  have n_U_V : v7.heap.size ≠ v7.heap.size + 1 := by omega
  have KV8 := Lib.hid (show Blk ((v7.alloc (.cells #[.int .i64 i1, .string ⟨#[]⟩, .int .i64 0, .bool false, .bool false, .bool false] 31)).alloc (.cells #[.int .i64 j2, .string ⟨#[]⟩, .slice none 0 0, .int .i64 (-1), .bool false] 34)) (v7.heap.size + 1) [.int .i64 j2, .string ⟨#[]⟩, .slice none 0 0, .int .i64 (-1), .bool false] by have h0 := (Blk.new (v7.alloc (.cells #[.int .i64 i1, .string ⟨#[]⟩, .int .i64 0, .bool false, .bool false, .bool false] 31)) [.int .i64 j2, .string ⟨#[]⟩, .slice none 0 0, .int .i64 (-1), .bool false] 34); rwa [show (v7.alloc (.cells #[.int .i64 i1, .string ⟨#[]⟩, .int .i64 0, .bool false, .bool false, .bool false] 31)).heap.size = v7.heap.size + 1 by simp] at h0)
  clear B7 KT7 KO7 KR7
  have cT0 : ((v7.alloc (.cells #[.int .i64 i1, .string ⟨#[]⟩, .int .i64 0, .bool false, .bool false, .bool false] 31)).alloc (.cells #[.int .i64 j2, .string ⟨#[]⟩, .slice none 0 0, .int .i64 (-1), .bool false] 34)).cell? ⟨g_T, 0, none⟩ = some (.int .i64 p) := KT8.out.cell 0 _ rfl
  have cT1 : ((v7.alloc (.cells #[.int .i64 i1, .string ⟨#[]⟩, .int .i64 0, .bool false, .bool false, .bool false] 31)).alloc (.cells #[.int .i64 j2, .string ⟨#[]⟩, .slice none 0 0, .int .i64 (-1), .bool false] 34)).cell? ⟨g_T, 1, none⟩ = some (.int .i64 q) := KT8.out.cell 1 _ rfl
  have cT2 : ((v7.alloc (.cells #[.int .i64 i1, .string ⟨#[]⟩, .int .i64 0, .bool false, .bool false, .bool false] 31)).alloc (.cells #[.int .i64 j2, .string ⟨#[]⟩, .slice none 0 0, .int .i64 (-1), .bool false] 34)).cell? ⟨g_T, 2, none⟩ = some (.int .i64 r) := KT8.out.cell 2 _ rfl
  have cO0 : ((v7.alloc (.cells #[.int .i64 i1, .string ⟨#[]⟩, .int .i64 0, .bool false, .bool false, .bool false] 31)).alloc (.cells #[.int .i64 j2, .string ⟨#[]⟩, .slice none 0 0, .int .i64 (-1), .bool false] 34)).cell? ⟨g_O, 0, none⟩ = some (.int .i64 0) := KO8.out.cell 0 _ rfl
  have dO0 := KO8.out.open 0
  have cO1 : ((v7.alloc (.cells #[.int .i64 i1, .string ⟨#[]⟩, .int .i64 0, .bool false, .bool false, .bool false] 31)).alloc (.cells #[.int .i64 j2, .string ⟨#[]⟩, .slice none 0 0, .int .i64 (-1), .bool false] 34)).cell? ⟨g_O, 1, none⟩ = some (.int .i64 (-1)) := KO8.out.cell 1 _ rfl
  have dO1 := KO8.out.open 1
  have cO2 : ((v7.alloc (.cells #[.int .i64 i1, .string ⟨#[]⟩, .int .i64 0, .bool false, .bool false, .bool false] 31)).alloc (.cells #[.int .i64 j2, .string ⟨#[]⟩, .slice none 0 0, .int .i64 (-1), .bool false] 34)).cell? ⟨g_O, 2, none⟩ = some (.bool false) := KO8.out.cell 2 _ rfl
  have dO2 := KO8.out.open 2
  have cO3 : ((v7.alloc (.cells #[.int .i64 i1, .string ⟨#[]⟩, .int .i64 0, .bool false, .bool false, .bool false] 31)).alloc (.cells #[.int .i64 j2, .string ⟨#[]⟩, .slice none 0 0, .int .i64 (-1), .bool false] 34)).cell? ⟨g_O, 3, none⟩ = some (.bool false) := KO8.out.cell 3 _ rfl
  have dO3 := KO8.out.open 3
  have cO4 : ((v7.alloc (.cells #[.int .i64 i1, .string ⟨#[]⟩, .int .i64 0, .bool false, .bool false, .bool false] 31)).alloc (.cells #[.int .i64 j2, .string ⟨#[]⟩, .slice none 0 0, .int .i64 (-1), .bool false] 34)).cell? ⟨g_O, 4, none⟩ = some (.int .i64 0) := KO8.out.cell 4 _ rfl
  have dO4 := KO8.out.open 4
  have cO5 : ((v7.alloc (.cells #[.int .i64 i1, .string ⟨#[]⟩, .int .i64 0, .bool false, .bool false, .bool false] 31)).alloc (.cells #[.int .i64 j2, .string ⟨#[]⟩, .slice none 0 0, .int .i64 (-1), .bool false] 34)).cell? ⟨g_O, 5, none⟩ = some (.int .i64 0) := KO8.out.cell 5 _ rfl
  have dO5 := KO8.out.open 5
  go_wp2_with fail
  clear cT0 cT1 cT2 cO0 dO0 cO1 dO1 cO2 dO2 cO3 dO3 cO4 dO4 cO5 dO5
  change Calls _ _ _ ((v7.alloc (.cells #[.int .i64 i1, .string ⟨#[]⟩, .int .i64 0, .bool false, .bool false, .bool false] 31)).alloc (.cells #[.int .i64 j2, .string ⟨#[]⟩, .slice none 0 0, .int .i64 (-1), .bool false] 34)) _
  generalize (v7.alloc (.cells #[.int .i64 i1, .string ⟨#[]⟩, .int .i64 0, .bool false, .bool false, .bool false] 31)).alloc (.cells #[.int .i64 j2, .string ⟨#[]⟩, .slice none 0 0, .int .i64 (-1), .bool false] 34) = v8 at B8 KT8 KO8 KR8 KU8 KV8 ⊢
  generalize v7.heap.size + 1 = g_V at KV8 n_T_V n_O_V n_R_V n_U_V ⊢
  generalize v7.heap.size = g_U at KU8 n_T_U n_O_U n_R_U n_U_V ⊢
  refine (SC.out _).mono ?_
  rintro e v9 ⟨rfl, hb⟩
  have B9 := Lib.hid (B8.out.trans (hb.mono B8.out.size))
  have KT9 := Lib.hid (KT8.out.below hb)
  have KO9 := Lib.hid (KO8.out.below hb)
  have KR9 := Lib.hid (KR8.out.below hb)
  have KU9 := Lib.hid (KU8.out.below hb)
  have KV9 := Lib.hid (KV8.out.below hb)
  clear hb B8 KT8 KO8 KR8 KU8 KV8
  have cT0 : v9.cell? ⟨g_T, 0, none⟩ = some (.int .i64 p) := KT9.out.cell 0 _ rfl
  have cT1 : v9.cell? ⟨g_T, 1, none⟩ = some (.int .i64 q) := KT9.out.cell 1 _ rfl
  have cT2 : v9.cell? ⟨g_T, 2, none⟩ = some (.int .i64 r) := KT9.out.cell 2 _ rfl
  have cO0 : v9.cell? ⟨g_O, 0, none⟩ = some (.int .i64 0) := KO9.out.cell 0 _ rfl
  have dO0 := KO9.out.open 0
  have cO1 : v9.cell? ⟨g_O, 1, none⟩ = some (.int .i64 (-1)) := KO9.out.cell 1 _ rfl
  have dO1 := KO9.out.open 1
  have cO2 : v9.cell? ⟨g_O, 2, none⟩ = some (.bool false) := KO9.out.cell 2 _ rfl
  have dO2 := KO9.out.open 2
  have cO3 : v9.cell? ⟨g_O, 3, none⟩ = some (.bool false) := KO9.out.cell 3 _ rfl
  have dO3 := KO9.out.open 3
  have cO4 : v9.cell? ⟨g_O, 4, none⟩ = some (.int .i64 0) := KO9.out.cell 4 _ rfl
  have dO4 := KO9.out.open 4
  have cO5 : v9.cell? ⟨g_O, 5, none⟩ = some (.int .i64 0) := KO9.out.cell 5 _ rfl
  have dO5 := KO9.out.open 5
  have cU0 : v9.cell? ⟨g_U, 0, none⟩ = some (.int .i64 i1) := KU9.out.cell 0 _ rfl
  have cU1 : v9.cell? ⟨g_U, 1, none⟩ = some (.string ⟨#[]⟩) := KU9.out.cell 1 _ rfl
  have cU2 : v9.cell? ⟨g_U, 2, none⟩ = some (.int .i64 0) := KU9.out.cell 2 _ rfl
  have cU3 : v9.cell? ⟨g_U, 3, none⟩ = some (.bool false) := KU9.out.cell 3 _ rfl
  have cU4 : v9.cell? ⟨g_U, 4, none⟩ = some (.bool false) := KU9.out.cell 4 _ rfl
  have cU5 : v9.cell? ⟨g_U, 5, none⟩ = some (.bool false) := KU9.out.cell 5 _ rfl
  have cV0 : v9.cell? ⟨g_V, 0, none⟩ = some (.int .i64 j2) := KV9.out.cell 0 _ rfl
  have cV1 : v9.cell? ⟨g_V, 1, none⟩ = some (.string ⟨#[]⟩) := KV9.out.cell 1 _ rfl
  have cV2 : v9.cell? ⟨g_V, 2, none⟩ = some (.slice none 0 0) := KV9.out.cell 2 _ rfl
  have cV3 : v9.cell? ⟨g_V, 3, none⟩ = some (.int .i64 (-1)) := KV9.out.cell 3 _ rfl
  have cV4 : v9.cell? ⟨g_V, 4, none⟩ = some (.bool false) := KV9.out.cell 4 _ rfl
  go_wp2_with (refine wpList_store_blk (cs' := [.int .i64 p, .int .i64 q, .int .i64 r, .int .i64 1, .int .i64 i1, .string ⟨#[]⟩, .int .i64 0, .bool false, .bool false, .bool false, .int .i64 j2, .string ⟨#[]⟩, .slice none 0 0, .int .i64 (-1), .bool false, .int .i64 ms, .int .i64 ms, .int .i64 0, .int .i64 (-1), .bool false, .bool false, .int .i64 0, .int .i64 0, .int .i64 0, .int .i64 0]) rfl 36 _ _ rfl rfl rfl KR9.out rfl (by kernel_rfl) rfl (fun w' hB hg => ?_))
  clear cT0 cT1 cT2 cO0 dO0 cO1 dO1 cO2 dO2 cO3 dO3 cO4 dO4 cO5 dO5 cU0 cU1 cU2 cU3 cU4 cU5 cV0 cV1 cV2 cV3 cV4
  have B10 := Lib.hid (B9.out.trans (grown_below hg l_R B9.out.size))
  have KT10 := Lib.hid (KT9.out.grown hg (n_T_R))
  have KO10 := Lib.hid (KO9.out.grown hg (n_O_R))
  have KR10 := Lib.hid hB
  have KU10 := Lib.hid (KU9.out.grown hg (fun e => n_R_U e.symm))
  have KV10 := Lib.hid (KV9.out.grown hg (fun e => n_R_V e.symm))
  clear hB hg B9 KT9 KO9 KR9 KU9 KV9
  exact bodyPost_ret (v := .agg #[.int .i64 p, .int .i64 q, .int .i64 r, .int .i64 1, .int .i64 i1, .string ⟨#[]⟩, .int .i64 0, .bool false, .bool false, .bool false, .int .i64 j2, .string ⟨#[]⟩, .slice none 0 0, .int .i64 (-1), .bool false, .int .i64 ms, .int .i64 ms, .int .i64 0, .int .i64 (-1), .bool false, .bool false, .int .i64 0, .int .i64 0, .int .i64 0, .int .i64 0]) (blk_results rfl KR10.out rfl Try.underlying36 rfl (by kernel_rfl)) rfl ⟨rfl, B10.out⟩

set_option maxRecDepth 100000 in
set_option maxHeartbeats 8000000 in
theorem connNewI_00 (p q r i j m c : Int) (k s : Bool) (v x wd : Int) (w : World) (ho : optOk ⟨m, c, k, s, v, x⟩ = false) (hw : wordOk wd 16 = false) :
    Calls Try.prog 12 #[.agg #[.int .i64 p, .int .i64 q, .int .i64 r], .int .i64 i, .int .i64 j, .agg #[.int .i64 m, .int .i64 c, .bool k, .bool s, .int .i64 v, .int .i64 x], .int .i64 wd] w (EndCN p q r (pl (i + 1)) (pl (pl (j + 1))) ⟨0, -1, false, false, 0, 0⟩ (scaled 0 (-1)) w) := by
  have OK := fun w => optionsOkI m c k s v x w
  rw [ho] at OK
  have WK := fun w => wordI_s wd 16 w
  rw [hw] at WK
  replace OK := Lib.hid OK
  replace WK := Lib.hid WK
  have A1 := fun w => seqAddI_s i 1 w
  have A2 := fun w => seqAddI_s j 1 w
  have A3 := fun w => rcvNewI (pl (j + 1)) w
  have NO := Lib.hid (fun w => noOptionsI w)
  have SC := fun w => scaledI 0 0 (-1) false false 0 0 w
  generalize scaled 0 (-1) = ms at SC ⊢
  replace SC := Lib.hid SC
  unfold EndN0 at A3
  unfold EndCN
  generalize pl (pl (j + 1)) = j2 at A3 ⊢
  generalize pl (i + 1) = i1 at A1 ⊢
  generalize pl (j + 1) = j1 at A2 A3
  replace A1 := Lib.hid A1
  replace A2 := Lib.hid A2
  replace A3 := Lib.hid A3
  clear ho hw
  go_enter Try.func12, Try.ntmps12
  have B0 := Lib.hid (show Below w.heap.size w (((w.alloc (.cells #[.int .i64 p, .int .i64 q, .int .i64 r] 25)).alloc (.cells #[.int .i64 m, .int .i64 c, .bool k, .bool s, .int .i64 v, .int .i64 x] 27)).alloc (.cells #[.int .i64 0, .int .i64 0, .int .i64 0, .int .i64 0, .int .i64 0, .string ⟨#[]⟩, .int .i64 0, .bool false, .bool false, .bool false, .int .i64 0, .string ⟨#[]⟩, .slice none 0 0, .int .i64 0, .bool false, .int .i64 0, .int .i64 0, .int .i64 0, .int .i64 0, .bool false, .bool false, .int .i64 0, .int .i64 0, .int .i64 0, .int .i64 0] 36)) from ((((Below.refl _ w).alloc (by simp) _).alloc (by simp) _).alloc (by simp; omega) _))
  have KT0 := Lib.hid (show Blk (((w.alloc (.cells #[.int .i64 p, .int .i64 q, .int .i64 r] 25)).alloc (.cells #[.int .i64 m, .int .i64 c, .bool k, .bool s, .int .i64 v, .int .i64 x] 27)).alloc (.cells #[.int .i64 0, .int .i64 0, .int .i64 0, .int .i64 0, .int .i64 0, .string ⟨#[]⟩, .int .i64 0, .bool false, .bool false, .bool false, .int .i64 0, .string ⟨#[]⟩, .slice none 0 0, .int .i64 0, .bool false, .int .i64 0, .int .i64 0, .int .i64 0, .int .i64 0, .bool false, .bool false, .int .i64 0, .int .i64 0, .int .i64 0, .int .i64 0] 36)) (w.heap.size) [.int .i64 p, .int .i64 q, .int .i64 r] from ((Blk.new w [.int .i64 p, .int .i64 q, .int .i64 r] 25).alloc (.cells #[.int .i64 m, .int .i64 c, .bool k, .bool s, .int .i64 v, .int .i64 x] 27)).alloc (.cells #[.int .i64 0, .int .i64 0, .int .i64 0, .int .i64 0, .int .i64 0, .string ⟨#[]⟩, .int .i64 0, .bool false, .bool false, .bool false, .int .i64 0, .string ⟨#[]⟩, .slice none 0 0, .int .i64 0, .bool false, .int .i64 0, .int .i64 0, .int .i64 0, .int .i64 0, .bool false, .bool false, .int .i64 0, .int .i64 0, .int .i64 0, .int .i64 0] 36))
  have s1 : (w.alloc (.cells #[.int .i64 p, .int .i64 q, .int .i64 r] 25)).heap.size = w.heap.size + 1 := by simp
  have KO0 := Lib.hid (show Blk (((w.alloc (.cells #[.int .i64 p, .int .i64 q, .int .i64 r] 25)).alloc (.cells #[.int .i64 m, .int .i64 c, .bool k, .bool s, .int .i64 v, .int .i64 x] 27)).alloc (.cells #[.int .i64 0, .int .i64 0, .int .i64 0, .int .i64 0, .int .i64 0, .string ⟨#[]⟩, .int .i64 0, .bool false, .bool false, .bool false, .int .i64 0, .string ⟨#[]⟩, .slice none 0 0, .int .i64 0, .bool false, .int .i64 0, .int .i64 0, .int .i64 0, .int .i64 0, .bool false, .bool false, .int .i64 0, .int .i64 0, .int .i64 0, .int .i64 0] 36)) (w.heap.size + 1) [.int .i64 m, .int .i64 c, .bool k, .bool s, .int .i64 v, .int .i64 x] by have h0 := (Blk.new (w.alloc (.cells #[.int .i64 p, .int .i64 q, .int .i64 r] 25)) [.int .i64 m, .int .i64 c, .bool k, .bool s, .int .i64 v, .int .i64 x] 27).alloc (.cells #[.int .i64 0, .int .i64 0, .int .i64 0, .int .i64 0, .int .i64 0, .string ⟨#[]⟩, .int .i64 0, .bool false, .bool false, .bool false, .int .i64 0, .string ⟨#[]⟩, .slice none 0 0, .int .i64 0, .bool false, .int .i64 0, .int .i64 0, .int .i64 0, .int .i64 0, .bool false, .bool false, .int .i64 0, .int .i64 0, .int .i64 0, .int .i64 0] 36); rwa [s1] at h0)
  have n_T_O : w.heap.size ≠ w.heap.size + 1 := by omega
  have s2 : ((w.alloc (.cells #[.int .i64 p, .int .i64 q, .int .i64 r] 25)).alloc (.cells #[.int .i64 m, .int .i64 c, .bool k, .bool s, .int .i64 v, .int .i64 x] 27)).heap.size = w.heap.size + 1 + 1 := by simp
  have KR0 := Lib.hid (show Blk (((w.alloc (.cells #[.int .i64 p, .int .i64 q, .int .i64 r] 25)).alloc (.cells #[.int .i64 m, .int .i64 c, .bool k, .bool s, .int .i64 v, .int .i64 x] 27)).alloc (.cells #[.int .i64 0, .int .i64 0, .int .i64 0, .int .i64 0, .int .i64 0, .string ⟨#[]⟩, .int .i64 0, .bool false, .bool false, .bool false, .int .i64 0, .string ⟨#[]⟩, .slice none 0 0, .int .i64 0, .bool false, .int .i64 0, .int .i64 0, .int .i64 0, .int .i64 0, .bool false, .bool false, .int .i64 0, .int .i64 0, .int .i64 0, .int .i64 0] 36)) (w.heap.size + 1 + 1) [.int .i64 0, .int .i64 0, .int .i64 0, .int .i64 0, .int .i64 0, .string ⟨#[]⟩, .int .i64 0, .bool false, .bool false, .bool false, .int .i64 0, .string ⟨#[]⟩, .slice none 0 0, .int .i64 0, .bool false, .int .i64 0, .int .i64 0, .int .i64 0, .int .i64 0, .bool false, .bool false, .int .i64 0, .int .i64 0, .int .i64 0, .int .i64 0] by have h0 := Blk.new ((w.alloc (.cells #[.int .i64 p, .int .i64 q, .int .i64 r] 25)).alloc (.cells #[.int .i64 m, .int .i64 c, .bool k, .bool s, .int .i64 v, .int .i64 x] 27)) [.int .i64 0, .int .i64 0, .int .i64 0, .int .i64 0, .int .i64 0, .string ⟨#[]⟩, .int .i64 0, .bool false, .bool false, .bool false, .int .i64 0, .string ⟨#[]⟩, .slice none 0 0, .int .i64 0, .bool false, .int .i64 0, .int .i64 0, .int .i64 0, .int .i64 0, .bool false, .bool false, .int .i64 0, .int .i64 0, .int .i64 0, .int .i64 0] 36; rwa [s2] at h0)
  have n_T_R : w.heap.size ≠ w.heap.size + 1 + 1 := by omega
  have n_O_R : w.heap.size + 1 ≠ w.heap.size + 1 + 1 := by omega
  clear s1 s2
  go_upto_region 1 with fail
  generalize ((w.alloc (.cells #[.int .i64 p, .int .i64 q, .int .i64 r] 25)).alloc (.cells #[.int .i64 m, .int .i64 c, .bool k, .bool s, .int .i64 v, .int .i64 x] 27)).alloc (.cells #[.int .i64 0, .int .i64 0, .int .i64 0, .int .i64 0, .int .i64 0, .string ⟨#[]⟩, .int .i64 0, .bool false, .bool false, .bool false, .int .i64 0, .string ⟨#[]⟩, .slice none 0 0, .int .i64 0, .bool false, .int .i64 0, .int .i64 0, .int .i64 0, .int .i64 0, .bool false, .bool false, .int .i64 0, .int .i64 0, .int .i64 0, .int .i64 0] 36) = v0 at B0 KT0 KO0 KR0 ⊢
  generalize hh_R : w.heap.size + 1 + 1 = g_R at KR0 n_T_R n_O_R ⊢
  generalize hh_O : w.heap.size + 1 = g_O at KO0 n_T_O n_O_R ⊢
  generalize hh_T : w.heap.size = g_T at KT0 n_T_O n_T_R ⊢
  have l_T : w.heap.size ≤ g_T := by omega
  have l_O : w.heap.size ≤ g_O := by omega
  have l_R : w.heap.size ≤ g_R := by omega
  clear hh_T hh_O hh_R
  have cT0 : v0.cell? ⟨g_T, 0, none⟩ = some (.int .i64 p) := KT0.out.cell 0 _ rfl
  have cT1 : v0.cell? ⟨g_T, 1, none⟩ = some (.int .i64 q) := KT0.out.cell 1 _ rfl
  have cT2 : v0.cell? ⟨g_T, 2, none⟩ = some (.int .i64 r) := KT0.out.cell 2 _ rfl
  have cO0 : v0.cell? ⟨g_O, 0, none⟩ = some (.int .i64 m) := KO0.out.cell 0 _ rfl
  have dO0 := KO0.out.open 0
  have cO1 : v0.cell? ⟨g_O, 1, none⟩ = some (.int .i64 c) := KO0.out.cell 1 _ rfl
  have dO1 := KO0.out.open 1
  have cO2 : v0.cell? ⟨g_O, 2, none⟩ = some (.bool k) := KO0.out.cell 2 _ rfl
  have dO2 := KO0.out.open 2
  have cO3 : v0.cell? ⟨g_O, 3, none⟩ = some (.bool s) := KO0.out.cell 3 _ rfl
  have dO3 := KO0.out.open 3
  have cO4 : v0.cell? ⟨g_O, 4, none⟩ = some (.int .i64 v) := KO0.out.cell 4 _ rfl
  have dO4 := KO0.out.open 4
  have cO5 : v0.cell? ⟨g_O, 5, none⟩ = some (.int .i64 x) := KO0.out.cell 5 _ rfl
  have dO5 := KO0.out.open 5
  go_wp2_with fail
  clear cT0 cT1 cT2 cO0 dO0 cO1 dO1 cO2 dO2 cO3 dO3 cO4 dO4 cO5 dO5
  refine (OK.out _).mono ?_
  rintro e v1 ⟨rfl, hb⟩
  have B1 := Lib.hid (B0.out.trans (hb.mono B0.out.size))
  have KT1 := Lib.hid (KT0.out.below hb)
  have KO1 := Lib.hid (KO0.out.below hb)
  have KR1 := Lib.hid (KR0.out.below hb)
  clear hb B0 KT0 KO0 KR0
  have cT0 : v1.cell? ⟨g_T, 0, none⟩ = some (.int .i64 p) := KT1.out.cell 0 _ rfl
  have cT1 : v1.cell? ⟨g_T, 1, none⟩ = some (.int .i64 q) := KT1.out.cell 1 _ rfl
  have cT2 : v1.cell? ⟨g_T, 2, none⟩ = some (.int .i64 r) := KT1.out.cell 2 _ rfl
  have cO0 : v1.cell? ⟨g_O, 0, none⟩ = some (.int .i64 m) := KO1.out.cell 0 _ rfl
  have dO0 := KO1.out.open 0
  have cO1 : v1.cell? ⟨g_O, 1, none⟩ = some (.int .i64 c) := KO1.out.cell 1 _ rfl
  have dO1 := KO1.out.open 1
  have cO2 : v1.cell? ⟨g_O, 2, none⟩ = some (.bool k) := KO1.out.cell 2 _ rfl
  have dO2 := KO1.out.open 2
  have cO3 : v1.cell? ⟨g_O, 3, none⟩ = some (.bool s) := KO1.out.cell 3 _ rfl
  have dO3 := KO1.out.open 3
  have cO4 : v1.cell? ⟨g_O, 4, none⟩ = some (.int .i64 v) := KO1.out.cell 4 _ rfl
  have dO4 := KO1.out.open 4
  have cO5 : v1.cell? ⟨g_O, 5, none⟩ = some (.int .i64 x) := KO1.out.cell 5 _ rfl
  have dO5 := KO1.out.open 5
  go_wp2_with fail
  clear cT0 cT1 cT2 cO0 dO0 cO1 dO1 cO2 dO2 cO3 dO3 cO4 dO4 cO5 dO5
  refine (NO.out _).mono ?_
  rintro e v2 ⟨rfl, hb⟩
  have B2 := Lib.hid (B1.out.trans (hb.mono B1.out.size))
  have KT2 := Lib.hid (KT1.out.below hb)
  have KO2 := Lib.hid (KO1.out.below hb)
  have KR2 := Lib.hid (KR1.out.below hb)
  clear hb B1 KT1 KO1 KR1
  have cT0 : v2.cell? ⟨g_T, 0, none⟩ = some (.int .i64 p) := KT2.out.cell 0 _ rfl
  have cT1 : v2.cell? ⟨g_T, 1, none⟩ = some (.int .i64 q) := KT2.out.cell 1 _ rfl
  have cT2 : v2.cell? ⟨g_T, 2, none⟩ = some (.int .i64 r) := KT2.out.cell 2 _ rfl
  have cO0 : v2.cell? ⟨g_O, 0, none⟩ = some (.int .i64 m) := KO2.out.cell 0 _ rfl
  have dO0 := KO2.out.open 0
  have cO1 : v2.cell? ⟨g_O, 1, none⟩ = some (.int .i64 c) := KO2.out.cell 1 _ rfl
  have dO1 := KO2.out.open 1
  have cO2 : v2.cell? ⟨g_O, 2, none⟩ = some (.bool k) := KO2.out.cell 2 _ rfl
  have dO2 := KO2.out.open 2
  have cO3 : v2.cell? ⟨g_O, 3, none⟩ = some (.bool s) := KO2.out.cell 3 _ rfl
  have dO3 := KO2.out.open 3
  have cO4 : v2.cell? ⟨g_O, 4, none⟩ = some (.int .i64 v) := KO2.out.cell 4 _ rfl
  have dO4 := KO2.out.open 4
  have cO5 : v2.cell? ⟨g_O, 5, none⟩ = some (.int .i64 x) := KO2.out.cell 5 _ rfl
  have dO5 := KO2.out.open 5
  have KT3 := Lib.hid (show Blk ((((((v2.setCell ⟨g_O, 0, none⟩ (.int .i64 0)).setCell ⟨g_O, 1, none⟩ (.int .i64 (-1))).setCell ⟨g_O, 2, none⟩ (.bool false)).setCell ⟨g_O, 3, none⟩ (.bool false)).setCell ⟨g_O, 4, none⟩ (.int .i64 0)).setCell ⟨g_O, 5, none⟩ (.int .i64 0)) g_T [.int .i64 p, .int .i64 q, .int .i64 r] from ((((((KT2.out.setOther ⟨g_O, 0, none⟩ (.int .i64 0) (n_T_O)).setOther ⟨g_O, 1, none⟩ (.int .i64 (-1)) (n_T_O)).setOther ⟨g_O, 2, none⟩ (.bool false) (n_T_O)).setOther ⟨g_O, 3, none⟩ (.bool false) (n_T_O)).setOther ⟨g_O, 4, none⟩ (.int .i64 0) (n_T_O)).setOther ⟨g_O, 5, none⟩ (.int .i64 0) (n_T_O)))
  have KO3 := Lib.hid (show Blk ((((((v2.setCell ⟨g_O, 0, none⟩ (.int .i64 0)).setCell ⟨g_O, 1, none⟩ (.int .i64 (-1))).setCell ⟨g_O, 2, none⟩ (.bool false)).setCell ⟨g_O, 3, none⟩ (.bool false)).setCell ⟨g_O, 4, none⟩ (.int .i64 0)).setCell ⟨g_O, 5, none⟩ (.int .i64 0)) g_O [.int .i64 0, .int .i64 (-1), .bool false, .bool false, .int .i64 0, .int .i64 0] from ((((((KO2.out.set 0 (.int .i64 0)).set 1 (.int .i64 (-1))).set 2 (.bool false)).set 3 (.bool false)).set 4 (.int .i64 0)).set 5 (.int .i64 0)))
  have KR3 := Lib.hid (show Blk ((((((v2.setCell ⟨g_O, 0, none⟩ (.int .i64 0)).setCell ⟨g_O, 1, none⟩ (.int .i64 (-1))).setCell ⟨g_O, 2, none⟩ (.bool false)).setCell ⟨g_O, 3, none⟩ (.bool false)).setCell ⟨g_O, 4, none⟩ (.int .i64 0)).setCell ⟨g_O, 5, none⟩ (.int .i64 0)) g_R [.int .i64 0, .int .i64 0, .int .i64 0, .int .i64 0, .int .i64 0, .string ⟨#[]⟩, .int .i64 0, .bool false, .bool false, .bool false, .int .i64 0, .string ⟨#[]⟩, .slice none 0 0, .int .i64 0, .bool false, .int .i64 0, .int .i64 0, .int .i64 0, .int .i64 0, .bool false, .bool false, .int .i64 0, .int .i64 0, .int .i64 0, .int .i64 0] from ((((((KR2.out.setOther ⟨g_O, 0, none⟩ (.int .i64 0) (fun e => n_O_R e.symm)).setOther ⟨g_O, 1, none⟩ (.int .i64 (-1)) (fun e => n_O_R e.symm)).setOther ⟨g_O, 2, none⟩ (.bool false) (fun e => n_O_R e.symm)).setOther ⟨g_O, 3, none⟩ (.bool false) (fun e => n_O_R e.symm)).setOther ⟨g_O, 4, none⟩ (.int .i64 0) (fun e => n_O_R e.symm)).setOther ⟨g_O, 5, none⟩ (.int .i64 0) (fun e => n_O_R e.symm)))
  have B3 := Lib.hid (show Below w.heap.size w ((((((v2.setCell ⟨g_O, 0, none⟩ (.int .i64 0)).setCell ⟨g_O, 1, none⟩ (.int .i64 (-1))).setCell ⟨g_O, 2, none⟩ (.bool false)).setCell ⟨g_O, 3, none⟩ (.bool false)).setCell ⟨g_O, 4, none⟩ (.int .i64 0)).setCell ⟨g_O, 5, none⟩ (.int .i64 0)) from ((((((B2.out.setCell l_O (.int .i64 0)).setCell l_O (.int .i64 (-1))).setCell l_O (.bool false)).setCell l_O (.bool false)).setCell l_O (.int .i64 0)).setCell l_O (.int .i64 0)))
  clear B2
  go_wp2_with fail
  clear KT2 KO2 KR2
  clear cT0 cT1 cT2 cO0 dO0 cO1 dO1 cO2 dO2 cO3 dO3 cO4 dO4 cO5 dO5
  change Calls _ _ _ ((((((v2.setCell ⟨g_O, 0, none⟩ (.int .i64 0)).setCell ⟨g_O, 1, none⟩ (.int .i64 (-1))).setCell ⟨g_O, 2, none⟩ (.bool false)).setCell ⟨g_O, 3, none⟩ (.bool false)).setCell ⟨g_O, 4, none⟩ (.int .i64 0)).setCell ⟨g_O, 5, none⟩ (.int .i64 0)) _
  generalize (((((v2.setCell ⟨g_O, 0, none⟩ (.int .i64 0)).setCell ⟨g_O, 1, none⟩ (.int .i64 (-1))).setCell ⟨g_O, 2, none⟩ (.bool false)).setCell ⟨g_O, 3, none⟩ (.bool false)).setCell ⟨g_O, 4, none⟩ (.int .i64 0)).setCell ⟨g_O, 5, none⟩ (.int .i64 0) = v3 at B3 KT3 KO3 KR3 ⊢
  refine (WK.out _).mono ?_
  rintro e v4 ⟨rfl, hb⟩
  have B4 := Lib.hid (B3.out.trans (hb.mono B3.out.size))
  have KT4 := Lib.hid (KT3.out.below hb)
  have KO4 := Lib.hid (KO3.out.below hb)
  have KR4 := Lib.hid (KR3.out.below hb)
  clear hb B3 KT3 KO3 KR3
  have cT0 : v4.cell? ⟨g_T, 0, none⟩ = some (.int .i64 p) := KT4.out.cell 0 _ rfl
  have cT1 : v4.cell? ⟨g_T, 1, none⟩ = some (.int .i64 q) := KT4.out.cell 1 _ rfl
  have cT2 : v4.cell? ⟨g_T, 2, none⟩ = some (.int .i64 r) := KT4.out.cell 2 _ rfl
  have cO0 : v4.cell? ⟨g_O, 0, none⟩ = some (.int .i64 0) := KO4.out.cell 0 _ rfl
  have dO0 := KO4.out.open 0
  have cO1 : v4.cell? ⟨g_O, 1, none⟩ = some (.int .i64 (-1)) := KO4.out.cell 1 _ rfl
  have dO1 := KO4.out.open 1
  have cO2 : v4.cell? ⟨g_O, 2, none⟩ = some (.bool false) := KO4.out.cell 2 _ rfl
  have dO2 := KO4.out.open 2
  have cO3 : v4.cell? ⟨g_O, 3, none⟩ = some (.bool false) := KO4.out.cell 3 _ rfl
  have dO3 := KO4.out.open 3
  have cO4 : v4.cell? ⟨g_O, 4, none⟩ = some (.int .i64 0) := KO4.out.cell 4 _ rfl
  have dO4 := KO4.out.open 4
  have cO5 : v4.cell? ⟨g_O, 5, none⟩ = some (.int .i64 0) := KO4.out.cell 5 _ rfl
  have dO5 := KO4.out.open 5
  go_wp2_with fail
  clear cT0 cT1 cT2 cO0 dO0 cO1 dO1 cO2 dO2 cO3 dO3 cO4 dO4 cO5 dO5
  refine (A1.out _).mono ?_
  rintro e v5 ⟨rfl, hb⟩
  have B5 := Lib.hid (B4.out.trans (hb.mono B4.out.size))
  have KT5 := Lib.hid (KT4.out.below hb)
  have KO5 := Lib.hid (KO4.out.below hb)
  have KR5 := Lib.hid (KR4.out.below hb)
  clear hb B4 KT4 KO4 KR4
  have cT0 : v5.cell? ⟨g_T, 0, none⟩ = some (.int .i64 p) := KT5.out.cell 0 _ rfl
  have cT1 : v5.cell? ⟨g_T, 1, none⟩ = some (.int .i64 q) := KT5.out.cell 1 _ rfl
  have cT2 : v5.cell? ⟨g_T, 2, none⟩ = some (.int .i64 r) := KT5.out.cell 2 _ rfl
  have cO0 : v5.cell? ⟨g_O, 0, none⟩ = some (.int .i64 0) := KO5.out.cell 0 _ rfl
  have dO0 := KO5.out.open 0
  have cO1 : v5.cell? ⟨g_O, 1, none⟩ = some (.int .i64 (-1)) := KO5.out.cell 1 _ rfl
  have dO1 := KO5.out.open 1
  have cO2 : v5.cell? ⟨g_O, 2, none⟩ = some (.bool false) := KO5.out.cell 2 _ rfl
  have dO2 := KO5.out.open 2
  have cO3 : v5.cell? ⟨g_O, 3, none⟩ = some (.bool false) := KO5.out.cell 3 _ rfl
  have dO3 := KO5.out.open 3
  have cO4 : v5.cell? ⟨g_O, 4, none⟩ = some (.int .i64 0) := KO5.out.cell 4 _ rfl
  have dO4 := KO5.out.open 4
  have cO5 : v5.cell? ⟨g_O, 5, none⟩ = some (.int .i64 0) := KO5.out.cell 5 _ rfl
  have dO5 := KO5.out.open 5
  go_wp2_with fail
  clear cT0 cT1 cT2 cO0 dO0 cO1 dO1 cO2 dO2 cO3 dO3 cO4 dO4 cO5 dO5
  refine (A2.out _).mono ?_
  rintro e v6 ⟨rfl, hb⟩
  have B6 := Lib.hid (B5.out.trans (hb.mono B5.out.size))
  have KT6 := Lib.hid (KT5.out.below hb)
  have KO6 := Lib.hid (KO5.out.below hb)
  have KR6 := Lib.hid (KR5.out.below hb)
  clear hb B5 KT5 KO5 KR5
  have cT0 : v6.cell? ⟨g_T, 0, none⟩ = some (.int .i64 p) := KT6.out.cell 0 _ rfl
  have cT1 : v6.cell? ⟨g_T, 1, none⟩ = some (.int .i64 q) := KT6.out.cell 1 _ rfl
  have cT2 : v6.cell? ⟨g_T, 2, none⟩ = some (.int .i64 r) := KT6.out.cell 2 _ rfl
  have cO0 : v6.cell? ⟨g_O, 0, none⟩ = some (.int .i64 0) := KO6.out.cell 0 _ rfl
  have dO0 := KO6.out.open 0
  have cO1 : v6.cell? ⟨g_O, 1, none⟩ = some (.int .i64 (-1)) := KO6.out.cell 1 _ rfl
  have dO1 := KO6.out.open 1
  have cO2 : v6.cell? ⟨g_O, 2, none⟩ = some (.bool false) := KO6.out.cell 2 _ rfl
  have dO2 := KO6.out.open 2
  have cO3 : v6.cell? ⟨g_O, 3, none⟩ = some (.bool false) := KO6.out.cell 3 _ rfl
  have dO3 := KO6.out.open 3
  have cO4 : v6.cell? ⟨g_O, 4, none⟩ = some (.int .i64 0) := KO6.out.cell 4 _ rfl
  have dO4 := KO6.out.open 4
  have cO5 : v6.cell? ⟨g_O, 5, none⟩ = some (.int .i64 0) := KO6.out.cell 5 _ rfl
  have dO5 := KO6.out.open 5
  go_wp2_with fail
  clear cT0 cT1 cT2 cO0 dO0 cO1 dO1 cO2 dO2 cO3 dO3 cO4 dO4 cO5 dO5
  refine (A3.out _).mono ?_
  rintro e v7 ⟨rfl, hb⟩
  have B7 := Lib.hid (B6.out.trans (hb.mono B6.out.size))
  have KT7 := Lib.hid (KT6.out.below hb)
  have KO7 := Lib.hid (KO6.out.below hb)
  have KR7 := Lib.hid (KR6.out.below hb)
  clear hb B6 KT6 KO6 KR6
  have B8 := Lib.hid ((B7.out.alloc (by have h0 := B7.out.size; simp <;> omega) (.cells #[.int .i64 i1, .string ⟨#[]⟩, .int .i64 0, .bool false, .bool false, .bool false] 31)).alloc (by have h0 := B7.out.size; simp <;> omega) (.cells #[.int .i64 j2, .string ⟨#[]⟩, .slice none 0 0, .int .i64 (-1), .bool false] 34))
  have lt_T := KT7.out.lt
  have n_T_U : g_T ≠ v7.heap.size := by omega
  have n_T_V : g_T ≠ v7.heap.size + 1 := by omega
  clear lt_T
  have lt_O := KO7.out.lt
  have n_O_U : g_O ≠ v7.heap.size := by omega
  have n_O_V : g_O ≠ v7.heap.size + 1 := by omega
  clear lt_O
  have lt_R := KR7.out.lt
  have n_R_U : g_R ≠ v7.heap.size := by omega
  have n_R_V : g_R ≠ v7.heap.size + 1 := by omega
  clear lt_R
  have KT8 := Lib.hid ((KT7.out.alloc (.cells #[.int .i64 i1, .string ⟨#[]⟩, .int .i64 0, .bool false, .bool false, .bool false] 31)).alloc (.cells #[.int .i64 j2, .string ⟨#[]⟩, .slice none 0 0, .int .i64 (-1), .bool false] 34))
  have KO8 := Lib.hid ((KO7.out.alloc (.cells #[.int .i64 i1, .string ⟨#[]⟩, .int .i64 0, .bool false, .bool false, .bool false] 31)).alloc (.cells #[.int .i64 j2, .string ⟨#[]⟩, .slice none 0 0, .int .i64 (-1), .bool false] 34))
  have KR8 := Lib.hid ((KR7.out.alloc (.cells #[.int .i64 i1, .string ⟨#[]⟩, .int .i64 0, .bool false, .bool false, .bool false] 31)).alloc (.cells #[.int .i64 j2, .string ⟨#[]⟩, .slice none 0 0, .int .i64 (-1), .bool false] 34))
  have KU8 := Lib.hid (show Blk ((v7.alloc (.cells #[.int .i64 i1, .string ⟨#[]⟩, .int .i64 0, .bool false, .bool false, .bool false] 31)).alloc (.cells #[.int .i64 j2, .string ⟨#[]⟩, .slice none 0 0, .int .i64 (-1), .bool false] 34)) (v7.heap.size) [.int .i64 i1, .string ⟨#[]⟩, .int .i64 0, .bool false, .bool false, .bool false] from ((Blk.new v7 [.int .i64 i1, .string ⟨#[]⟩, .int .i64 0, .bool false, .bool false, .bool false] 31).alloc (.cells #[.int .i64 j2, .string ⟨#[]⟩, .slice none 0 0, .int .i64 (-1), .bool false] 34)))
  have n_U_V : v7.heap.size ≠ v7.heap.size + 1 := by omega
  have KV8 := Lib.hid (show Blk ((v7.alloc (.cells #[.int .i64 i1, .string ⟨#[]⟩, .int .i64 0, .bool false, .bool false, .bool false] 31)).alloc (.cells #[.int .i64 j2, .string ⟨#[]⟩, .slice none 0 0, .int .i64 (-1), .bool false] 34)) (v7.heap.size + 1) [.int .i64 j2, .string ⟨#[]⟩, .slice none 0 0, .int .i64 (-1), .bool false] by have h0 := (Blk.new (v7.alloc (.cells #[.int .i64 i1, .string ⟨#[]⟩, .int .i64 0, .bool false, .bool false, .bool false] 31)) [.int .i64 j2, .string ⟨#[]⟩, .slice none 0 0, .int .i64 (-1), .bool false] 34); rwa [show (v7.alloc (.cells #[.int .i64 i1, .string ⟨#[]⟩, .int .i64 0, .bool false, .bool false, .bool false] 31)).heap.size = v7.heap.size + 1 by simp] at h0)
  clear B7 KT7 KO7 KR7
  have cT0 : ((v7.alloc (.cells #[.int .i64 i1, .string ⟨#[]⟩, .int .i64 0, .bool false, .bool false, .bool false] 31)).alloc (.cells #[.int .i64 j2, .string ⟨#[]⟩, .slice none 0 0, .int .i64 (-1), .bool false] 34)).cell? ⟨g_T, 0, none⟩ = some (.int .i64 p) := KT8.out.cell 0 _ rfl
  have cT1 : ((v7.alloc (.cells #[.int .i64 i1, .string ⟨#[]⟩, .int .i64 0, .bool false, .bool false, .bool false] 31)).alloc (.cells #[.int .i64 j2, .string ⟨#[]⟩, .slice none 0 0, .int .i64 (-1), .bool false] 34)).cell? ⟨g_T, 1, none⟩ = some (.int .i64 q) := KT8.out.cell 1 _ rfl
  have cT2 : ((v7.alloc (.cells #[.int .i64 i1, .string ⟨#[]⟩, .int .i64 0, .bool false, .bool false, .bool false] 31)).alloc (.cells #[.int .i64 j2, .string ⟨#[]⟩, .slice none 0 0, .int .i64 (-1), .bool false] 34)).cell? ⟨g_T, 2, none⟩ = some (.int .i64 r) := KT8.out.cell 2 _ rfl
  have cO0 : ((v7.alloc (.cells #[.int .i64 i1, .string ⟨#[]⟩, .int .i64 0, .bool false, .bool false, .bool false] 31)).alloc (.cells #[.int .i64 j2, .string ⟨#[]⟩, .slice none 0 0, .int .i64 (-1), .bool false] 34)).cell? ⟨g_O, 0, none⟩ = some (.int .i64 0) := KO8.out.cell 0 _ rfl
  have dO0 := KO8.out.open 0
  have cO1 : ((v7.alloc (.cells #[.int .i64 i1, .string ⟨#[]⟩, .int .i64 0, .bool false, .bool false, .bool false] 31)).alloc (.cells #[.int .i64 j2, .string ⟨#[]⟩, .slice none 0 0, .int .i64 (-1), .bool false] 34)).cell? ⟨g_O, 1, none⟩ = some (.int .i64 (-1)) := KO8.out.cell 1 _ rfl
  have dO1 := KO8.out.open 1
  have cO2 : ((v7.alloc (.cells #[.int .i64 i1, .string ⟨#[]⟩, .int .i64 0, .bool false, .bool false, .bool false] 31)).alloc (.cells #[.int .i64 j2, .string ⟨#[]⟩, .slice none 0 0, .int .i64 (-1), .bool false] 34)).cell? ⟨g_O, 2, none⟩ = some (.bool false) := KO8.out.cell 2 _ rfl
  have dO2 := KO8.out.open 2
  have cO3 : ((v7.alloc (.cells #[.int .i64 i1, .string ⟨#[]⟩, .int .i64 0, .bool false, .bool false, .bool false] 31)).alloc (.cells #[.int .i64 j2, .string ⟨#[]⟩, .slice none 0 0, .int .i64 (-1), .bool false] 34)).cell? ⟨g_O, 3, none⟩ = some (.bool false) := KO8.out.cell 3 _ rfl
  have dO3 := KO8.out.open 3
  have cO4 : ((v7.alloc (.cells #[.int .i64 i1, .string ⟨#[]⟩, .int .i64 0, .bool false, .bool false, .bool false] 31)).alloc (.cells #[.int .i64 j2, .string ⟨#[]⟩, .slice none 0 0, .int .i64 (-1), .bool false] 34)).cell? ⟨g_O, 4, none⟩ = some (.int .i64 0) := KO8.out.cell 4 _ rfl
  have dO4 := KO8.out.open 4
  have cO5 : ((v7.alloc (.cells #[.int .i64 i1, .string ⟨#[]⟩, .int .i64 0, .bool false, .bool false, .bool false] 31)).alloc (.cells #[.int .i64 j2, .string ⟨#[]⟩, .slice none 0 0, .int .i64 (-1), .bool false] 34)).cell? ⟨g_O, 5, none⟩ = some (.int .i64 0) := KO8.out.cell 5 _ rfl
  have dO5 := KO8.out.open 5
  go_wp2_with fail
  clear cT0 cT1 cT2 cO0 dO0 cO1 dO1 cO2 dO2 cO3 dO3 cO4 dO4 cO5 dO5
  change Calls _ _ _ ((v7.alloc (.cells #[.int .i64 i1, .string ⟨#[]⟩, .int .i64 0, .bool false, .bool false, .bool false] 31)).alloc (.cells #[.int .i64 j2, .string ⟨#[]⟩, .slice none 0 0, .int .i64 (-1), .bool false] 34)) _
  generalize (v7.alloc (.cells #[.int .i64 i1, .string ⟨#[]⟩, .int .i64 0, .bool false, .bool false, .bool false] 31)).alloc (.cells #[.int .i64 j2, .string ⟨#[]⟩, .slice none 0 0, .int .i64 (-1), .bool false] 34) = v8 at B8 KT8 KO8 KR8 KU8 KV8 ⊢
  generalize v7.heap.size + 1 = g_V at KV8 n_T_V n_O_V n_R_V n_U_V ⊢
  generalize v7.heap.size = g_U at KU8 n_T_U n_O_U n_R_U n_U_V ⊢
  refine (SC.out _).mono ?_
  rintro e v9 ⟨rfl, hb⟩
  have B9 := Lib.hid (B8.out.trans (hb.mono B8.out.size))
  have KT9 := Lib.hid (KT8.out.below hb)
  have KO9 := Lib.hid (KO8.out.below hb)
  have KR9 := Lib.hid (KR8.out.below hb)
  have KU9 := Lib.hid (KU8.out.below hb)
  have KV9 := Lib.hid (KV8.out.below hb)
  clear hb B8 KT8 KO8 KR8 KU8 KV8
  have cT0 : v9.cell? ⟨g_T, 0, none⟩ = some (.int .i64 p) := KT9.out.cell 0 _ rfl
  have cT1 : v9.cell? ⟨g_T, 1, none⟩ = some (.int .i64 q) := KT9.out.cell 1 _ rfl
  have cT2 : v9.cell? ⟨g_T, 2, none⟩ = some (.int .i64 r) := KT9.out.cell 2 _ rfl
  have cO0 : v9.cell? ⟨g_O, 0, none⟩ = some (.int .i64 0) := KO9.out.cell 0 _ rfl
  have dO0 := KO9.out.open 0
  have cO1 : v9.cell? ⟨g_O, 1, none⟩ = some (.int .i64 (-1)) := KO9.out.cell 1 _ rfl
  have dO1 := KO9.out.open 1
  have cO2 : v9.cell? ⟨g_O, 2, none⟩ = some (.bool false) := KO9.out.cell 2 _ rfl
  have dO2 := KO9.out.open 2
  have cO3 : v9.cell? ⟨g_O, 3, none⟩ = some (.bool false) := KO9.out.cell 3 _ rfl
  have dO3 := KO9.out.open 3
  have cO4 : v9.cell? ⟨g_O, 4, none⟩ = some (.int .i64 0) := KO9.out.cell 4 _ rfl
  have dO4 := KO9.out.open 4
  have cO5 : v9.cell? ⟨g_O, 5, none⟩ = some (.int .i64 0) := KO9.out.cell 5 _ rfl
  have dO5 := KO9.out.open 5
  have cU0 : v9.cell? ⟨g_U, 0, none⟩ = some (.int .i64 i1) := KU9.out.cell 0 _ rfl
  have cU1 : v9.cell? ⟨g_U, 1, none⟩ = some (.string ⟨#[]⟩) := KU9.out.cell 1 _ rfl
  have cU2 : v9.cell? ⟨g_U, 2, none⟩ = some (.int .i64 0) := KU9.out.cell 2 _ rfl
  have cU3 : v9.cell? ⟨g_U, 3, none⟩ = some (.bool false) := KU9.out.cell 3 _ rfl
  have cU4 : v9.cell? ⟨g_U, 4, none⟩ = some (.bool false) := KU9.out.cell 4 _ rfl
  have cU5 : v9.cell? ⟨g_U, 5, none⟩ = some (.bool false) := KU9.out.cell 5 _ rfl
  have cV0 : v9.cell? ⟨g_V, 0, none⟩ = some (.int .i64 j2) := KV9.out.cell 0 _ rfl
  have cV1 : v9.cell? ⟨g_V, 1, none⟩ = some (.string ⟨#[]⟩) := KV9.out.cell 1 _ rfl
  have cV2 : v9.cell? ⟨g_V, 2, none⟩ = some (.slice none 0 0) := KV9.out.cell 2 _ rfl
  have cV3 : v9.cell? ⟨g_V, 3, none⟩ = some (.int .i64 (-1)) := KV9.out.cell 3 _ rfl
  have cV4 : v9.cell? ⟨g_V, 4, none⟩ = some (.bool false) := KV9.out.cell 4 _ rfl
  go_wp2_with (refine wpList_store_blk (cs' := [.int .i64 p, .int .i64 q, .int .i64 r, .int .i64 1, .int .i64 i1, .string ⟨#[]⟩, .int .i64 0, .bool false, .bool false, .bool false, .int .i64 j2, .string ⟨#[]⟩, .slice none 0 0, .int .i64 (-1), .bool false, .int .i64 ms, .int .i64 ms, .int .i64 0, .int .i64 (-1), .bool false, .bool false, .int .i64 0, .int .i64 0, .int .i64 0, .int .i64 0]) rfl 36 _ _ rfl rfl rfl KR9.out rfl (by kernel_rfl) rfl (fun w' hB hg => ?_))
  clear cT0 cT1 cT2 cO0 dO0 cO1 dO1 cO2 dO2 cO3 dO3 cO4 dO4 cO5 dO5 cU0 cU1 cU2 cU3 cU4 cU5 cV0 cV1 cV2 cV3 cV4
  have B10 := Lib.hid (B9.out.trans (grown_below hg l_R B9.out.size))
  have KT10 := Lib.hid (KT9.out.grown hg (n_T_R))
  have KO10 := Lib.hid (KO9.out.grown hg (n_O_R))
  have KR10 := Lib.hid hB
  have KU10 := Lib.hid (KU9.out.grown hg (fun e => n_R_U e.symm))
  have KV10 := Lib.hid (KV9.out.grown hg (fun e => n_R_V e.symm))
  clear hB hg B9 KT9 KO9 KR9 KU9 KV9
  exact bodyPost_ret (v := .agg #[.int .i64 p, .int .i64 q, .int .i64 r, .int .i64 1, .int .i64 i1, .string ⟨#[]⟩, .int .i64 0, .bool false, .bool false, .bool false, .int .i64 j2, .string ⟨#[]⟩, .slice none 0 0, .int .i64 (-1), .bool false, .int .i64 ms, .int .i64 ms, .int .i64 0, .int .i64 (-1), .bool false, .bool false, .int .i64 0, .int .i64 0, .int .i64 0, .int .i64 0]) (blk_results rfl KR10.out rfl Try.underlying36 rfl (by kernel_rfl)) rfl ⟨rfl, B10.out⟩

theorem connNewI (p q r i j m c : Int) (k s : Bool) (v x wd : Int) (w : World) : Calls Try.prog 12 #[.agg #[.int .i64 p, .int .i64 q, .int .i64 r], .int .i64 i, .int .i64 j, .agg #[.int .i64 m, .int .i64 c, .bool k, .bool s, .int .i64 v, .int .i64 x], .int .i64 wd] w (EndCN p q r (pl (i + 1)) (pl (pl (j + 1))) (cnO ⟨m, c, k, s, v, x⟩) (scaled (cnWd wd) (cnO ⟨m, c, k, s, v, x⟩).c) w) := by
  have hc := cnO_scale ⟨m, c, k, s, v, x⟩
  cases ho : optOk ⟨m, c, k, s, v, x⟩ with
  | true =>
    have e : cnO ⟨m, c, k, s, v, x⟩ = ⟨m, c, k, s, v, x⟩ := by unfold cnO; rw [ho]; rfl
    rw [e] at hc ⊢
    unfold cnWd
    cases hw : wordOk wd 16 with
    | true => exact connNewI_11 p q r i j m c k s v x wd w ho hw
    | false => exact connNewI_10 p q r i j m c k s v x wd w ho hw
  | false =>
    have e : cnO ⟨m, c, k, s, v, x⟩ = ⟨0, -1, false, false, 0, 0⟩ := by unfold cnO; rw [ho]; rfl
    rw [e] at hc ⊢
    unfold cnWd
    cases hw : wordOk wd 16 with
    | true => exact connNewI_01 p q r i j m c k s v x wd w ho hw
    | false => exact connNewI_00 p q r i j m c k s v x wd w ho hw
end Go.Proofs.Ytajekjjaaohbnaa
