/- AckOf of both sides. Nothing here is a claim. -/
import Derived.Test.YtajekjjaaohbnaaConnKit
import Derived.Test.YtajekjjaaohbnaaBulk
import Derived.Test.YtajekjjaaohbnaaSndPos
import Derived.Test.YtajekjjaaohbnaaRcvOk
import Derived.Test.YtajekjjaaohbnaaRcvOkS
import Derived.Test.YtajekjjaaohbnaaOptOk
import Derived.Test.YtajekjjaaohbnaaCurA
import Derived.Deep.RegionHeld3
namespace Go.Proofs.Ytajekjjaaohbnaa
open Go.RowKit Go.Lib

/-- What AckOf answers, of the two ports, of the sender's next place, the receiver's and its window. -/
def EndAck (r q a1 n a2 : Int) (w : World) (e : Ending) (w' : World) : Prop := e = .returned (.agg #[.int .i64 r, .int .i64 q, .int .i64 a1, .int .i64 n, .int .i64 16, .int .i64 a2, .int .i64 0, .int .i64 (-1), .bool false, .bool false, .int .i64 0, .int .i64 0, .string ⟨#[]⟩]) ∧ Below w.heap.size w w'

set_option maxRecDepth 100000 in
set_option maxHeartbeats 16000000 in
theorem ackOfI (p q r st u : Int) (d : ByteArray) (t : Int) (f g h : Bool) (n : Int) (y : ByteArray) (a : Option Addr) (cap : Nat) (rs : List HP) (fi : Int) (z : Bool) (wi mo m c : Int) (k s : Bool) (v x ti tr : Int) (hd : y.size ≤ 1048576) (w : World) :
    Calls Try.prog 15 #[.agg #[.int .i64 p, .int .i64 q, .int .i64 r, .int .i64 st, .int .i64 u, .string d, .int .i64 t, .bool f, .bool g, .bool h, .int .i64 n, .string y, .slice a rs.length cap, .int .i64 fi, .bool z, .int .i64 wi, .int .i64 mo, .int .i64 m, .int .i64 c, .bool k, .bool s, .int .i64 v, .int .i64 x, .int .i64 ti, .int .i64 tr]] w (EndAck r q (nxt u t g) n (win y z) w) := by
  have C1 := fun w => nextOfI u d t f g h w
  have C2 := fun w => windowI n fi z y a cap rs hd w
  have C3 := Lib.hid (fun w => noOptionsI w)
  clear hd
  generalize nxt u t g = a1 at C1 ⊢
  generalize win y z = a2 at C2 ⊢
  replace C1 := Lib.hid C1
  replace C2 := Lib.hid C2
  go_enter Try.func15, Try.ntmps15
  have B0 := Lib.hid (show Below w.heap.size w ((w.alloc (.cells #[.int .i64 p, .int .i64 q, .int .i64 r, .int .i64 st, .int .i64 u, .string d, .int .i64 t, .bool f, .bool g, .bool h, .int .i64 n, .string y, .slice a rs.length cap, .int .i64 fi, .bool z, .int .i64 wi, .int .i64 mo, .int .i64 m, .int .i64 c, .bool k, .bool s, .int .i64 v, .int .i64 x, .int .i64 ti, .int .i64 tr] 36)).alloc (.cells #[.int .i64 0, .int .i64 0, .int .i64 0, .int .i64 0, .int .i64 0, .int .i64 0, .int .i64 0, .int .i64 0, .bool false, .bool false, .int .i64 0, .int .i64 0, .string ⟨#[]⟩] 40)) from (((Below.refl _ w).alloc (by simp) _).alloc (by simp) _))
  have KA0 := Lib.hid (show Blk ((w.alloc (.cells #[.int .i64 p, .int .i64 q, .int .i64 r, .int .i64 st, .int .i64 u, .string d, .int .i64 t, .bool f, .bool g, .bool h, .int .i64 n, .string y, .slice a rs.length cap, .int .i64 fi, .bool z, .int .i64 wi, .int .i64 mo, .int .i64 m, .int .i64 c, .bool k, .bool s, .int .i64 v, .int .i64 x, .int .i64 ti, .int .i64 tr] 36)).alloc (.cells #[.int .i64 0, .int .i64 0, .int .i64 0, .int .i64 0, .int .i64 0, .int .i64 0, .int .i64 0, .int .i64 0, .bool false, .bool false, .int .i64 0, .int .i64 0, .string ⟨#[]⟩] 40)) (w.heap.size) [.int .i64 p, .int .i64 q, .int .i64 r, .int .i64 st, .int .i64 u, .string d, .int .i64 t, .bool f, .bool g, .bool h, .int .i64 n, .string y, .slice a rs.length cap, .int .i64 fi, .bool z, .int .i64 wi, .int .i64 mo, .int .i64 m, .int .i64 c, .bool k, .bool s, .int .i64 v, .int .i64 x, .int .i64 ti, .int .i64 tr] from (Blk.new w [.int .i64 p, .int .i64 q, .int .i64 r, .int .i64 st, .int .i64 u, .string d, .int .i64 t, .bool f, .bool g, .bool h, .int .i64 n, .string y, .slice a rs.length cap, .int .i64 fi, .bool z, .int .i64 wi, .int .i64 mo, .int .i64 m, .int .i64 c, .bool k, .bool s, .int .i64 v, .int .i64 x, .int .i64 ti, .int .i64 tr] 36).alloc (.cells #[.int .i64 0, .int .i64 0, .int .i64 0, .int .i64 0, .int .i64 0, .int .i64 0, .int .i64 0, .int .i64 0, .bool false, .bool false, .int .i64 0, .int .i64 0, .string ⟨#[]⟩] 40))
  have s1 : (w.alloc (.cells #[.int .i64 p, .int .i64 q, .int .i64 r, .int .i64 st, .int .i64 u, .string d, .int .i64 t, .bool f, .bool g, .bool h, .int .i64 n, .string y, .slice a rs.length cap, .int .i64 fi, .bool z, .int .i64 wi, .int .i64 mo, .int .i64 m, .int .i64 c, .bool k, .bool s, .int .i64 v, .int .i64 x, .int .i64 ti, .int .i64 tr] 36)).heap.size = w.heap.size + 1 := by simp
  have KR0 := Lib.hid (show Blk ((w.alloc (.cells #[.int .i64 p, .int .i64 q, .int .i64 r, .int .i64 st, .int .i64 u, .string d, .int .i64 t, .bool f, .bool g, .bool h, .int .i64 n, .string y, .slice a rs.length cap, .int .i64 fi, .bool z, .int .i64 wi, .int .i64 mo, .int .i64 m, .int .i64 c, .bool k, .bool s, .int .i64 v, .int .i64 x, .int .i64 ti, .int .i64 tr] 36)).alloc (.cells #[.int .i64 0, .int .i64 0, .int .i64 0, .int .i64 0, .int .i64 0, .int .i64 0, .int .i64 0, .int .i64 0, .bool false, .bool false, .int .i64 0, .int .i64 0, .string ⟨#[]⟩] 40)) (w.heap.size + 1) [.int .i64 0, .int .i64 0, .int .i64 0, .int .i64 0, .int .i64 0, .int .i64 0, .int .i64 0, .int .i64 0, .bool false, .bool false, .int .i64 0, .int .i64 0, .string ⟨#[]⟩] by have h0 := Blk.new (w.alloc (.cells #[.int .i64 p, .int .i64 q, .int .i64 r, .int .i64 st, .int .i64 u, .string d, .int .i64 t, .bool f, .bool g, .bool h, .int .i64 n, .string y, .slice a rs.length cap, .int .i64 fi, .bool z, .int .i64 wi, .int .i64 mo, .int .i64 m, .int .i64 c, .bool k, .bool s, .int .i64 v, .int .i64 x, .int .i64 ti, .int .i64 tr] 36)) [.int .i64 0, .int .i64 0, .int .i64 0, .int .i64 0, .int .i64 0, .int .i64 0, .int .i64 0, .int .i64 0, .bool false, .bool false, .int .i64 0, .int .i64 0, .string ⟨#[]⟩] 40; rwa [s1] at h0)
  have n_A_R : w.heap.size ≠ w.heap.size + 1 := by omega
  clear s1
  go_upto_region 1 with fail
  generalize (w.alloc (.cells #[.int .i64 p, .int .i64 q, .int .i64 r, .int .i64 st, .int .i64 u, .string d, .int .i64 t, .bool f, .bool g, .bool h, .int .i64 n, .string y, .slice a rs.length cap, .int .i64 fi, .bool z, .int .i64 wi, .int .i64 mo, .int .i64 m, .int .i64 c, .bool k, .bool s, .int .i64 v, .int .i64 x, .int .i64 ti, .int .i64 tr] 36)).alloc (.cells #[.int .i64 0, .int .i64 0, .int .i64 0, .int .i64 0, .int .i64 0, .int .i64 0, .int .i64 0, .int .i64 0, .bool false, .bool false, .int .i64 0, .int .i64 0, .string ⟨#[]⟩] 40) = v0 at B0 KA0 KR0 ⊢
  generalize hh_R : w.heap.size + 1 = g_R at KR0 n_A_R ⊢
  generalize hh_A : w.heap.size = g_A at KA0 n_A_R ⊢
  have l_A : w.heap.size ≤ g_A := by omega
  have l_R : w.heap.size ≤ g_R := by omega
  clear hh_A hh_R
  refine wp_region_noPanic ?_
  refine wp_region_held_drew (S := fun w' => Blk w' g_A [.int .i64 p, .int .i64 q, .int .i64 r, .int .i64 st, .int .i64 u, .string d, .int .i64 t, .bool f, .bool g, .bool h, .int .i64 n, .string y, .slice a rs.length cap, .int .i64 fi, .bool z, .int .i64 wi, .int .i64 mo, .int .i64 m, .int .i64 c, .bool k, .bool s, .int .i64 v, .int .i64 x, .int .i64 ti, .int .i64 tr]) (by kernel_rfl) KA0.out (fun hS => ?_)
  refine wpAnyH_take (i := 0) (v := .pointer (some ⟨g_A, 0, none⟩)) rfl (by kernel_rfl) (by kernel_rfl) (by kernel_rfl) (fun _ _ _ h => h) (Or.inl ⟨rfl, by intro w hS; go_simp⟩) hS ?_
  refine wpAnyH_take (i := 1) (v := .pointer (some ⟨g_A, 2, none⟩)) rfl (by kernel_rfl) (by kernel_rfl) (by kernel_rfl) (fun _ _ _ h => h) (Or.inl ⟨rfl, by intro w hS; go_simp⟩) hS ?_
  refine wpAnyH_take (i := 2) (v := .int .i64 r) rfl (by kernel_rfl) (by kernel_rfl) (by kernel_rfl) (fun _ _ _ h => h) (Or.inl ⟨rfl, by intro w hS; have h0 := (hS).cell 2 _ rfl; go_simp⟩) hS ?_
  refine wpAnyH_take (i := 3) (v := .pointer (some ⟨g_A, 0, none⟩)) rfl (by kernel_rfl) (by kernel_rfl) (by kernel_rfl) (fun _ _ _ h => h) (Or.inl ⟨rfl, by intro w hS; go_simp⟩) hS ?_
  refine wpAnyH_take (i := 4) (v := .pointer (some ⟨g_A, 1, none⟩)) rfl (by kernel_rfl) (by kernel_rfl) (by kernel_rfl) (fun _ _ _ h => h) (Or.inl ⟨rfl, by intro w hS; go_simp⟩) hS ?_
  refine wpAnyH_take (i := 5) (v := .int .i64 q) rfl (by kernel_rfl) (by kernel_rfl) (by kernel_rfl) (fun _ _ _ h => h) (Or.inl ⟨rfl, by intro w hS; have h0 := (hS).cell 1 _ rfl; go_simp⟩) hS ?_
  refine wpAnyH_take (i := 6) (v := .pointer (some ⟨g_A, 4, none⟩)) rfl (by kernel_rfl) (by kernel_rfl) (by kernel_rfl) (fun _ _ _ h => h) (Or.inl ⟨rfl, by intro w hS; go_simp⟩) hS ?_
  refine wpAnyH_take (i := 7) (v := .agg #[.int .i64 u, .string d, .int .i64 t, .bool f, .bool g, .bool h]) rfl (by kernel_rfl) (by kernel_rfl) (by kernel_rfl) (fun _ _ _ h => h) (Or.inl ⟨rfl, by intro w hS; have h4 := (hS).cell 4 _ rfl; have h5 := (hS).cell 5 _ rfl; have h6 := (hS).cell 6 _ rfl; have h7 := (hS).cell 7 _ rfl; have h8 := (hS).cell 8 _ rfl; have h9 := (hS).cell 9 _ rfl; go_simp⟩) hS ?_
  refine wpAnyH_take (i := 9) (v := .pointer (some ⟨g_A, 10, none⟩)) rfl (by kernel_rfl) (by kernel_rfl) (by kernel_rfl) (fun _ _ _ h => h) (Or.inl ⟨rfl, by intro w hS; go_simp⟩) hS ?_
  refine wpAnyH_take (i := 10) (v := .pointer (some ⟨g_A, 10, none⟩)) rfl (by kernel_rfl) (by kernel_rfl) (by kernel_rfl) (fun _ _ _ h => h) (Or.inl ⟨rfl, by intro w hS; go_simp⟩) hS ?_
  refine wpAnyH_take (i := 11) (v := .int .i64 n) rfl (by kernel_rfl) (by kernel_rfl) (by kernel_rfl) (fun _ _ _ h => h) (Or.inl ⟨rfl, by intro w hS; have h0 := (hS).cell 10 _ rfl; go_simp⟩) hS ?_
  refine wpAnyH_take (i := 12) (v := .pointer (some ⟨g_A, 10, none⟩)) rfl (by kernel_rfl) (by kernel_rfl) (by kernel_rfl) (fun _ _ _ h => h) (Or.inl ⟨rfl, by intro w hS; go_simp⟩) hS ?_
  refine wpAnyH_take (i := 13) (v := .agg #[.int .i64 n, .string y, .slice a rs.length cap, .int .i64 fi, .bool z]) rfl (by kernel_rfl) (by kernel_rfl) (by kernel_rfl) (fun _ _ _ h => h) (Or.inl ⟨rfl, by intro w hS; have h10 := (hS).cell 10 _ rfl; have h11 := (hS).cell 11 _ rfl; have h12 := (hS).cell 12 _ rfl; have h13 := (hS).cell 13 _ rfl; have h14 := (hS).cell 14 _ rfl; go_simp⟩) hS ?_
  refine wpAnyH_ready (rs := [8]) (by kernel_rfl) (by simp) ?_
  refine AllReadyH.cons (i := 8) rfl (fun K hK => ?zr1) AllReadyH.nil
  rw [if_pos (by rfl)]
  go_simp
  clear hS
  refine (C1.out _).mono ?_
  rintro e v1 ⟨rfl, hb⟩
  replace hb := (Below.refl _ v0).drew.trans hb
  have B1 := Lib.hid (B0.out.trans (hb.mono B0.out.size))
  have KA1 := Lib.hid (KA0.out.below hb)
  have KR1 := Lib.hid (KR0.out.below hb)
  clear hb B0 KA0 KR0
  refine hK.out _ _ KA1.out (fun hS => ?_)
  clear hK K
  refine wpAnyH_ready (rs := [14]) (by kernel_rfl) (by simp) ?_
  refine AllReadyH.cons (i := 14) rfl (fun K hK => ?zr2) AllReadyH.nil
  rw [if_pos (by rfl)]
  go_simp
  clear hS
  refine (C2.out _).mono ?_
  rintro e v2 ⟨rfl, hb⟩
  have B2 := Lib.hid (B1.out.trans (hb.mono B1.out.size))
  have KA2 := Lib.hid (KA1.out.below hb)
  have KR2 := Lib.hid (KR1.out.below hb)
  clear hb B1 KA1 KR1
  refine hK.out _ _ KA2.out (fun hS => ?_)
  clear hK K
  refine wpAnyH_ready (rs := [15]) (by kernel_rfl) (by simp) ?_
  refine AllReadyH.cons (i := 15) rfl (fun K hK => ?zr3) AllReadyH.nil
  rw [if_pos (by rfl)]
  go_simp
  clear hS
  refine (C3.out _).mono ?_
  rintro e v3 ⟨rfl, hb⟩
  have B3 := Lib.hid (B2.out.trans (hb.mono B2.out.size))
  have KA3 := Lib.hid (KA2.out.below hb)
  have KR3 := Lib.hid (KR2.out.below hb)
  clear hb B2 KA2 KR2
  refine hK.out _ _ KA3.out (fun hS => ?_)
  clear hK K
  refine wpAnyH_take (i := 16) (v := .agg #[.int .i64 r, .int .i64 q, .int .i64 a1, .int .i64 n, .int .i64 16, .int .i64 a2, .int .i64 0, .int .i64 (-1), .bool false, .bool false, .int .i64 0, .int .i64 0, .string ⟨#[]⟩]) rfl (by kernel_rfl) (by kernel_rfl) (by kernel_rfl) (fun _ _ _ h => h) (Or.inl ⟨rfl, by intro w hS; go_simp⟩) hS ?_
  have cR0 : v3.cell? ⟨g_R, 0, none⟩ = some (.int .i64 0) := KR3.out.cell 0 _ rfl
  have dR0 := KR3.out.open 0
  have cR1 : v3.cell? ⟨g_R, 1, none⟩ = some (.int .i64 0) := KR3.out.cell 1 _ rfl
  have dR1 := KR3.out.open 1
  have cR2 : v3.cell? ⟨g_R, 2, none⟩ = some (.int .i64 0) := KR3.out.cell 2 _ rfl
  have dR2 := KR3.out.open 2
  have cR3 : v3.cell? ⟨g_R, 3, none⟩ = some (.int .i64 0) := KR3.out.cell 3 _ rfl
  have dR3 := KR3.out.open 3
  have cR4 : v3.cell? ⟨g_R, 4, none⟩ = some (.int .i64 0) := KR3.out.cell 4 _ rfl
  have dR4 := KR3.out.open 4
  have cR5 : v3.cell? ⟨g_R, 5, none⟩ = some (.int .i64 0) := KR3.out.cell 5 _ rfl
  have dR5 := KR3.out.open 5
  have cR6 : v3.cell? ⟨g_R, 6, none⟩ = some (.int .i64 0) := KR3.out.cell 6 _ rfl
  have dR6 := KR3.out.open 6
  have cR7 : v3.cell? ⟨g_R, 7, none⟩ = some (.int .i64 0) := KR3.out.cell 7 _ rfl
  have dR7 := KR3.out.open 7
  have cR8 : v3.cell? ⟨g_R, 8, none⟩ = some (.bool false) := KR3.out.cell 8 _ rfl
  have dR8 := KR3.out.open 8
  have cR9 : v3.cell? ⟨g_R, 9, none⟩ = some (.bool false) := KR3.out.cell 9 _ rfl
  have dR9 := KR3.out.open 9
  have cR10 : v3.cell? ⟨g_R, 10, none⟩ = some (.int .i64 0) := KR3.out.cell 10 _ rfl
  have dR10 := KR3.out.open 10
  have cR11 : v3.cell? ⟨g_R, 11, none⟩ = some (.int .i64 0) := KR3.out.cell 11 _ rfl
  have dR11 := KR3.out.open 11
  have cR12 : v3.cell? ⟨g_R, 12, none⟩ = some (.string ⟨#[]⟩) := KR3.out.cell 12 _ rfl
  have dR12 := KR3.out.open 12
  refine wpAnyH_ready (rs := [17]) (by kernel_rfl) (by simp) ?_
  refine AllReadyH.cons (i := 17) rfl (fun K hK => ?zr4) AllReadyH.nil
  rw [if_pos (by rfl)]
  go_simp
  clear hS
  have KA4 := Lib.hid (show Blk (((((((((((((v3.setCell ⟨g_R, 0, none⟩ (.int .i64 r)).setCell ⟨g_R, 1, none⟩ (.int .i64 q)).setCell ⟨g_R, 2, none⟩ (.int .i64 a1)).setCell ⟨g_R, 3, none⟩ (.int .i64 n)).setCell ⟨g_R, 4, none⟩ (.int .i64 16)).setCell ⟨g_R, 5, none⟩ (.int .i64 a2)).setCell ⟨g_R, 6, none⟩ (.int .i64 0)).setCell ⟨g_R, 7, none⟩ (.int .i64 (-1))).setCell ⟨g_R, 8, none⟩ (.bool false)).setCell ⟨g_R, 9, none⟩ (.bool false)).setCell ⟨g_R, 10, none⟩ (.int .i64 0)).setCell ⟨g_R, 11, none⟩ (.int .i64 0)).setCell ⟨g_R, 12, none⟩ (.string ⟨#[]⟩)) g_A [.int .i64 p, .int .i64 q, .int .i64 r, .int .i64 st, .int .i64 u, .string d, .int .i64 t, .bool f, .bool g, .bool h, .int .i64 n, .string y, .slice a rs.length cap, .int .i64 fi, .bool z, .int .i64 wi, .int .i64 mo, .int .i64 m, .int .i64 c, .bool k, .bool s, .int .i64 v, .int .i64 x, .int .i64 ti, .int .i64 tr] from (((((((((((((KA3.out.setOther ⟨g_R, 0, none⟩ (.int .i64 r) (n_A_R)).setOther ⟨g_R, 1, none⟩ (.int .i64 q) (n_A_R)).setOther ⟨g_R, 2, none⟩ (.int .i64 a1) (n_A_R)).setOther ⟨g_R, 3, none⟩ (.int .i64 n) (n_A_R)).setOther ⟨g_R, 4, none⟩ (.int .i64 16) (n_A_R)).setOther ⟨g_R, 5, none⟩ (.int .i64 a2) (n_A_R)).setOther ⟨g_R, 6, none⟩ (.int .i64 0) (n_A_R)).setOther ⟨g_R, 7, none⟩ (.int .i64 (-1)) (n_A_R)).setOther ⟨g_R, 8, none⟩ (.bool false) (n_A_R)).setOther ⟨g_R, 9, none⟩ (.bool false) (n_A_R)).setOther ⟨g_R, 10, none⟩ (.int .i64 0) (n_A_R)).setOther ⟨g_R, 11, none⟩ (.int .i64 0) (n_A_R)).setOther ⟨g_R, 12, none⟩ (.string ⟨#[]⟩) (n_A_R)))
  have KR4 := Lib.hid (show Blk (((((((((((((v3.setCell ⟨g_R, 0, none⟩ (.int .i64 r)).setCell ⟨g_R, 1, none⟩ (.int .i64 q)).setCell ⟨g_R, 2, none⟩ (.int .i64 a1)).setCell ⟨g_R, 3, none⟩ (.int .i64 n)).setCell ⟨g_R, 4, none⟩ (.int .i64 16)).setCell ⟨g_R, 5, none⟩ (.int .i64 a2)).setCell ⟨g_R, 6, none⟩ (.int .i64 0)).setCell ⟨g_R, 7, none⟩ (.int .i64 (-1))).setCell ⟨g_R, 8, none⟩ (.bool false)).setCell ⟨g_R, 9, none⟩ (.bool false)).setCell ⟨g_R, 10, none⟩ (.int .i64 0)).setCell ⟨g_R, 11, none⟩ (.int .i64 0)).setCell ⟨g_R, 12, none⟩ (.string ⟨#[]⟩)) g_R [.int .i64 r, .int .i64 q, .int .i64 a1, .int .i64 n, .int .i64 16, .int .i64 a2, .int .i64 0, .int .i64 (-1), .bool false, .bool false, .int .i64 0, .int .i64 0, .string ⟨#[]⟩] from (((((((((((((KR3.out.set 0 (.int .i64 r)).set 1 (.int .i64 q)).set 2 (.int .i64 a1)).set 3 (.int .i64 n)).set 4 (.int .i64 16)).set 5 (.int .i64 a2)).set 6 (.int .i64 0)).set 7 (.int .i64 (-1))).set 8 (.bool false)).set 9 (.bool false)).set 10 (.int .i64 0)).set 11 (.int .i64 0)).set 12 (.string ⟨#[]⟩)))
  have B4 := Lib.hid (show Below w.heap.size w (((((((((((((v3.setCell ⟨g_R, 0, none⟩ (.int .i64 r)).setCell ⟨g_R, 1, none⟩ (.int .i64 q)).setCell ⟨g_R, 2, none⟩ (.int .i64 a1)).setCell ⟨g_R, 3, none⟩ (.int .i64 n)).setCell ⟨g_R, 4, none⟩ (.int .i64 16)).setCell ⟨g_R, 5, none⟩ (.int .i64 a2)).setCell ⟨g_R, 6, none⟩ (.int .i64 0)).setCell ⟨g_R, 7, none⟩ (.int .i64 (-1))).setCell ⟨g_R, 8, none⟩ (.bool false)).setCell ⟨g_R, 9, none⟩ (.bool false)).setCell ⟨g_R, 10, none⟩ (.int .i64 0)).setCell ⟨g_R, 11, none⟩ (.int .i64 0)).setCell ⟨g_R, 12, none⟩ (.string ⟨#[]⟩)) from (((((((((((((B3.out.setCell l_R (.int .i64 r)).setCell l_R (.int .i64 q)).setCell l_R (.int .i64 a1)).setCell l_R (.int .i64 n)).setCell l_R (.int .i64 16)).setCell l_R (.int .i64 a2)).setCell l_R (.int .i64 0)).setCell l_R (.int .i64 (-1))).setCell l_R (.bool false)).setCell l_R (.bool false)).setCell l_R (.int .i64 0)).setCell l_R (.int .i64 0)).setCell l_R (.string ⟨#[]⟩)))
  refine hK.out _ _ KA4.out (fun hS => ?_)
  clear hK K B3 cR0 dR0 cR1 dR1 cR2 dR2 cR3 dR3 cR4 dR4 cR5 dR5 cR6 dR6 cR7 dR7 cR8 dR8 cR9 dR9 cR10 dR10 cR11 dR11 cR12 dR12 KA3 KR3
  generalize ((((((((((((v3.setCell ⟨g_R, 0, none⟩ (.int .i64 r)).setCell ⟨g_R, 1, none⟩ (.int .i64 q)).setCell ⟨g_R, 2, none⟩ (.int .i64 a1)).setCell ⟨g_R, 3, none⟩ (.int .i64 n)).setCell ⟨g_R, 4, none⟩ (.int .i64 16)).setCell ⟨g_R, 5, none⟩ (.int .i64 a2)).setCell ⟨g_R, 6, none⟩ (.int .i64 0)).setCell ⟨g_R, 7, none⟩ (.int .i64 (-1))).setCell ⟨g_R, 8, none⟩ (.bool false)).setCell ⟨g_R, 9, none⟩ (.bool false)).setCell ⟨g_R, 10, none⟩ (.int .i64 0)).setCell ⟨g_R, 11, none⟩ (.int .i64 0)).setCell ⟨g_R, 12, none⟩ (.string ⟨#[]⟩) = v4 at hS KA4 KR4 B4 ⊢
  refine wpAnyH_done (by kernel_rfl) ?_ _
  refine NoPanic.normal ?_
  go_wp2_with fail
  exact bodyPost_ret (v := .agg #[.int .i64 r, .int .i64 q, .int .i64 a1, .int .i64 n, .int .i64 16, .int .i64 a2, .int .i64 0, .int .i64 (-1), .bool false, .bool false, .int .i64 0, .int .i64 0, .string ⟨#[]⟩]) (blk_results rfl KR4.out rfl Try.underlying40 rfl (by kernel_rfl)) rfl ⟨rfl, B4.out⟩

set_option maxRecDepth 100000 in
set_option maxHeartbeats 16000000 in
theorem ackOfS (p q r st u : Int) (d : ByteArray) (t : Int) (f g h : Bool) (n : Int) (y : ByteArray) (a : Option Addr) (cap : Nat) (rs : List HP) (fi : Int) (z : Bool) (wi mo m c : Int) (k s : Bool) (v x ti tr : Int) (hd : y.size ≤ 1048576) (w : World) :
    Calls Try.prog 30 #[.agg #[.int .i64 p, .int .i64 q, .int .i64 r, .int .i64 st, .int .i64 u, .string d, .int .i64 t, .bool f, .bool g, .bool h, .int .i64 n, .string y, .slice a rs.length cap, .int .i64 fi, .bool z, .int .i64 wi, .int .i64 mo, .int .i64 m, .int .i64 c, .bool k, .bool s, .int .i64 v, .int .i64 x, .int .i64 ti, .int .i64 tr]] w (EndAck r q (nxt u t g) n (win y z) w) := by
  have C1 := fun w => nextOfS u d t f g h w
  have C2 := fun w => windowS n fi z y a cap rs hd w
  have C3 := Lib.hid (fun w => noOptionsS w)
  clear hd
  generalize nxt u t g = a1 at C1 ⊢
  generalize win y z = a2 at C2 ⊢
  replace C1 := Lib.hid C1
  replace C2 := Lib.hid C2
  go_enter Try.func30, Try.ntmps30
  have B0 := Lib.hid (show Below w.heap.size w ((w.alloc (.cells #[.int .i64 p, .int .i64 q, .int .i64 r, .int .i64 st, .int .i64 u, .string d, .int .i64 t, .bool f, .bool g, .bool h, .int .i64 n, .string y, .slice a rs.length cap, .int .i64 fi, .bool z, .int .i64 wi, .int .i64 mo, .int .i64 m, .int .i64 c, .bool k, .bool s, .int .i64 v, .int .i64 x, .int .i64 ti, .int .i64 tr] 36)).alloc (.cells #[.int .i64 0, .int .i64 0, .int .i64 0, .int .i64 0, .int .i64 0, .int .i64 0, .int .i64 0, .int .i64 0, .bool false, .bool false, .int .i64 0, .int .i64 0, .string ⟨#[]⟩] 40)) from (((Below.refl _ w).alloc (by simp) _).alloc (by simp) _))
  have KA0 := Lib.hid (show Blk ((w.alloc (.cells #[.int .i64 p, .int .i64 q, .int .i64 r, .int .i64 st, .int .i64 u, .string d, .int .i64 t, .bool f, .bool g, .bool h, .int .i64 n, .string y, .slice a rs.length cap, .int .i64 fi, .bool z, .int .i64 wi, .int .i64 mo, .int .i64 m, .int .i64 c, .bool k, .bool s, .int .i64 v, .int .i64 x, .int .i64 ti, .int .i64 tr] 36)).alloc (.cells #[.int .i64 0, .int .i64 0, .int .i64 0, .int .i64 0, .int .i64 0, .int .i64 0, .int .i64 0, .int .i64 0, .bool false, .bool false, .int .i64 0, .int .i64 0, .string ⟨#[]⟩] 40)) (w.heap.size) [.int .i64 p, .int .i64 q, .int .i64 r, .int .i64 st, .int .i64 u, .string d, .int .i64 t, .bool f, .bool g, .bool h, .int .i64 n, .string y, .slice a rs.length cap, .int .i64 fi, .bool z, .int .i64 wi, .int .i64 mo, .int .i64 m, .int .i64 c, .bool k, .bool s, .int .i64 v, .int .i64 x, .int .i64 ti, .int .i64 tr] from (Blk.new w [.int .i64 p, .int .i64 q, .int .i64 r, .int .i64 st, .int .i64 u, .string d, .int .i64 t, .bool f, .bool g, .bool h, .int .i64 n, .string y, .slice a rs.length cap, .int .i64 fi, .bool z, .int .i64 wi, .int .i64 mo, .int .i64 m, .int .i64 c, .bool k, .bool s, .int .i64 v, .int .i64 x, .int .i64 ti, .int .i64 tr] 36).alloc (.cells #[.int .i64 0, .int .i64 0, .int .i64 0, .int .i64 0, .int .i64 0, .int .i64 0, .int .i64 0, .int .i64 0, .bool false, .bool false, .int .i64 0, .int .i64 0, .string ⟨#[]⟩] 40))
  have s1 : (w.alloc (.cells #[.int .i64 p, .int .i64 q, .int .i64 r, .int .i64 st, .int .i64 u, .string d, .int .i64 t, .bool f, .bool g, .bool h, .int .i64 n, .string y, .slice a rs.length cap, .int .i64 fi, .bool z, .int .i64 wi, .int .i64 mo, .int .i64 m, .int .i64 c, .bool k, .bool s, .int .i64 v, .int .i64 x, .int .i64 ti, .int .i64 tr] 36)).heap.size = w.heap.size + 1 := by simp
  have KR0 := Lib.hid (show Blk ((w.alloc (.cells #[.int .i64 p, .int .i64 q, .int .i64 r, .int .i64 st, .int .i64 u, .string d, .int .i64 t, .bool f, .bool g, .bool h, .int .i64 n, .string y, .slice a rs.length cap, .int .i64 fi, .bool z, .int .i64 wi, .int .i64 mo, .int .i64 m, .int .i64 c, .bool k, .bool s, .int .i64 v, .int .i64 x, .int .i64 ti, .int .i64 tr] 36)).alloc (.cells #[.int .i64 0, .int .i64 0, .int .i64 0, .int .i64 0, .int .i64 0, .int .i64 0, .int .i64 0, .int .i64 0, .bool false, .bool false, .int .i64 0, .int .i64 0, .string ⟨#[]⟩] 40)) (w.heap.size + 1) [.int .i64 0, .int .i64 0, .int .i64 0, .int .i64 0, .int .i64 0, .int .i64 0, .int .i64 0, .int .i64 0, .bool false, .bool false, .int .i64 0, .int .i64 0, .string ⟨#[]⟩] by have h0 := Blk.new (w.alloc (.cells #[.int .i64 p, .int .i64 q, .int .i64 r, .int .i64 st, .int .i64 u, .string d, .int .i64 t, .bool f, .bool g, .bool h, .int .i64 n, .string y, .slice a rs.length cap, .int .i64 fi, .bool z, .int .i64 wi, .int .i64 mo, .int .i64 m, .int .i64 c, .bool k, .bool s, .int .i64 v, .int .i64 x, .int .i64 ti, .int .i64 tr] 36)) [.int .i64 0, .int .i64 0, .int .i64 0, .int .i64 0, .int .i64 0, .int .i64 0, .int .i64 0, .int .i64 0, .bool false, .bool false, .int .i64 0, .int .i64 0, .string ⟨#[]⟩] 40; rwa [s1] at h0)
  have n_A_R : w.heap.size ≠ w.heap.size + 1 := by omega
  clear s1
  go_upto_region 1 with fail
  generalize (w.alloc (.cells #[.int .i64 p, .int .i64 q, .int .i64 r, .int .i64 st, .int .i64 u, .string d, .int .i64 t, .bool f, .bool g, .bool h, .int .i64 n, .string y, .slice a rs.length cap, .int .i64 fi, .bool z, .int .i64 wi, .int .i64 mo, .int .i64 m, .int .i64 c, .bool k, .bool s, .int .i64 v, .int .i64 x, .int .i64 ti, .int .i64 tr] 36)).alloc (.cells #[.int .i64 0, .int .i64 0, .int .i64 0, .int .i64 0, .int .i64 0, .int .i64 0, .int .i64 0, .int .i64 0, .bool false, .bool false, .int .i64 0, .int .i64 0, .string ⟨#[]⟩] 40) = v0 at B0 KA0 KR0 ⊢
  generalize hh_R : w.heap.size + 1 = g_R at KR0 n_A_R ⊢
  generalize hh_A : w.heap.size = g_A at KA0 n_A_R ⊢
  have l_A : w.heap.size ≤ g_A := by omega
  have l_R : w.heap.size ≤ g_R := by omega
  clear hh_A hh_R
  refine wp_region_noPanic ?_
  refine wp_region_held_drew (S := fun w' => Blk w' g_A [.int .i64 p, .int .i64 q, .int .i64 r, .int .i64 st, .int .i64 u, .string d, .int .i64 t, .bool f, .bool g, .bool h, .int .i64 n, .string y, .slice a rs.length cap, .int .i64 fi, .bool z, .int .i64 wi, .int .i64 mo, .int .i64 m, .int .i64 c, .bool k, .bool s, .int .i64 v, .int .i64 x, .int .i64 ti, .int .i64 tr]) (by kernel_rfl) KA0.out (fun hS => ?_)
  refine wpAnyH_take (i := 0) (v := .pointer (some ⟨g_A, 0, none⟩)) rfl (by kernel_rfl) (by kernel_rfl) (by kernel_rfl) (fun _ _ _ h => h) (Or.inl ⟨rfl, by intro w hS; go_simp⟩) hS ?_
  refine wpAnyH_take (i := 1) (v := .pointer (some ⟨g_A, 2, none⟩)) rfl (by kernel_rfl) (by kernel_rfl) (by kernel_rfl) (fun _ _ _ h => h) (Or.inl ⟨rfl, by intro w hS; go_simp⟩) hS ?_
  refine wpAnyH_take (i := 2) (v := .int .i64 r) rfl (by kernel_rfl) (by kernel_rfl) (by kernel_rfl) (fun _ _ _ h => h) (Or.inl ⟨rfl, by intro w hS; have h0 := (hS).cell 2 _ rfl; go_simp⟩) hS ?_
  refine wpAnyH_take (i := 3) (v := .pointer (some ⟨g_A, 0, none⟩)) rfl (by kernel_rfl) (by kernel_rfl) (by kernel_rfl) (fun _ _ _ h => h) (Or.inl ⟨rfl, by intro w hS; go_simp⟩) hS ?_
  refine wpAnyH_take (i := 4) (v := .pointer (some ⟨g_A, 1, none⟩)) rfl (by kernel_rfl) (by kernel_rfl) (by kernel_rfl) (fun _ _ _ h => h) (Or.inl ⟨rfl, by intro w hS; go_simp⟩) hS ?_
  refine wpAnyH_take (i := 5) (v := .int .i64 q) rfl (by kernel_rfl) (by kernel_rfl) (by kernel_rfl) (fun _ _ _ h => h) (Or.inl ⟨rfl, by intro w hS; have h0 := (hS).cell 1 _ rfl; go_simp⟩) hS ?_
  refine wpAnyH_take (i := 6) (v := .pointer (some ⟨g_A, 4, none⟩)) rfl (by kernel_rfl) (by kernel_rfl) (by kernel_rfl) (fun _ _ _ h => h) (Or.inl ⟨rfl, by intro w hS; go_simp⟩) hS ?_
  refine wpAnyH_take (i := 7) (v := .agg #[.int .i64 u, .string d, .int .i64 t, .bool f, .bool g, .bool h]) rfl (by kernel_rfl) (by kernel_rfl) (by kernel_rfl) (fun _ _ _ h => h) (Or.inl ⟨rfl, by intro w hS; have h4 := (hS).cell 4 _ rfl; have h5 := (hS).cell 5 _ rfl; have h6 := (hS).cell 6 _ rfl; have h7 := (hS).cell 7 _ rfl; have h8 := (hS).cell 8 _ rfl; have h9 := (hS).cell 9 _ rfl; go_simp⟩) hS ?_
  refine wpAnyH_take (i := 9) (v := .pointer (some ⟨g_A, 10, none⟩)) rfl (by kernel_rfl) (by kernel_rfl) (by kernel_rfl) (fun _ _ _ h => h) (Or.inl ⟨rfl, by intro w hS; go_simp⟩) hS ?_
  refine wpAnyH_take (i := 10) (v := .pointer (some ⟨g_A, 10, none⟩)) rfl (by kernel_rfl) (by kernel_rfl) (by kernel_rfl) (fun _ _ _ h => h) (Or.inl ⟨rfl, by intro w hS; go_simp⟩) hS ?_
  refine wpAnyH_take (i := 11) (v := .int .i64 n) rfl (by kernel_rfl) (by kernel_rfl) (by kernel_rfl) (fun _ _ _ h => h) (Or.inl ⟨rfl, by intro w hS; have h0 := (hS).cell 10 _ rfl; go_simp⟩) hS ?_
  refine wpAnyH_take (i := 12) (v := .pointer (some ⟨g_A, 10, none⟩)) rfl (by kernel_rfl) (by kernel_rfl) (by kernel_rfl) (fun _ _ _ h => h) (Or.inl ⟨rfl, by intro w hS; go_simp⟩) hS ?_
  refine wpAnyH_take (i := 13) (v := .agg #[.int .i64 n, .string y, .slice a rs.length cap, .int .i64 fi, .bool z]) rfl (by kernel_rfl) (by kernel_rfl) (by kernel_rfl) (fun _ _ _ h => h) (Or.inl ⟨rfl, by intro w hS; have h10 := (hS).cell 10 _ rfl; have h11 := (hS).cell 11 _ rfl; have h12 := (hS).cell 12 _ rfl; have h13 := (hS).cell 13 _ rfl; have h14 := (hS).cell 14 _ rfl; go_simp⟩) hS ?_
  refine wpAnyH_ready (rs := [8]) (by kernel_rfl) (by simp) ?_
  refine AllReadyH.cons (i := 8) rfl (fun K hK => ?zr5) AllReadyH.nil
  rw [if_pos (by rfl)]
  go_simp
  clear hS
  refine (C1.out _).mono ?_
  rintro e v1 ⟨rfl, hb⟩
  replace hb := (Below.refl _ v0).drew.trans hb
  have B1 := Lib.hid (B0.out.trans (hb.mono B0.out.size))
  have KA1 := Lib.hid (KA0.out.below hb)
  have KR1 := Lib.hid (KR0.out.below hb)
  clear hb B0 KA0 KR0
  refine hK.out _ _ KA1.out (fun hS => ?_)
  clear hK K
  refine wpAnyH_ready (rs := [14]) (by kernel_rfl) (by simp) ?_
  refine AllReadyH.cons (i := 14) rfl (fun K hK => ?zr6) AllReadyH.nil
  rw [if_pos (by rfl)]
  go_simp
  clear hS
  refine (C2.out _).mono ?_
  rintro e v2 ⟨rfl, hb⟩
  have B2 := Lib.hid (B1.out.trans (hb.mono B1.out.size))
  have KA2 := Lib.hid (KA1.out.below hb)
  have KR2 := Lib.hid (KR1.out.below hb)
  clear hb B1 KA1 KR1
  refine hK.out _ _ KA2.out (fun hS => ?_)
  clear hK K
  refine wpAnyH_ready (rs := [15]) (by kernel_rfl) (by simp) ?_
  refine AllReadyH.cons (i := 15) rfl (fun K hK => ?zr7) AllReadyH.nil
  rw [if_pos (by rfl)]
  go_simp
  clear hS
  refine (C3.out _).mono ?_
  rintro e v3 ⟨rfl, hb⟩
  have B3 := Lib.hid (B2.out.trans (hb.mono B2.out.size))
  have KA3 := Lib.hid (KA2.out.below hb)
  have KR3 := Lib.hid (KR2.out.below hb)
  clear hb B2 KA2 KR2
  refine hK.out _ _ KA3.out (fun hS => ?_)
  clear hK K
  refine wpAnyH_take (i := 16) (v := .agg #[.int .i64 r, .int .i64 q, .int .i64 a1, .int .i64 n, .int .i64 16, .int .i64 a2, .int .i64 0, .int .i64 (-1), .bool false, .bool false, .int .i64 0, .int .i64 0, .string ⟨#[]⟩]) rfl (by kernel_rfl) (by kernel_rfl) (by kernel_rfl) (fun _ _ _ h => h) (Or.inl ⟨rfl, by intro w hS; go_simp⟩) hS ?_
  have cR0 : v3.cell? ⟨g_R, 0, none⟩ = some (.int .i64 0) := KR3.out.cell 0 _ rfl
  have dR0 := KR3.out.open 0
  have cR1 : v3.cell? ⟨g_R, 1, none⟩ = some (.int .i64 0) := KR3.out.cell 1 _ rfl
  have dR1 := KR3.out.open 1
  have cR2 : v3.cell? ⟨g_R, 2, none⟩ = some (.int .i64 0) := KR3.out.cell 2 _ rfl
  have dR2 := KR3.out.open 2
  have cR3 : v3.cell? ⟨g_R, 3, none⟩ = some (.int .i64 0) := KR3.out.cell 3 _ rfl
  have dR3 := KR3.out.open 3
  have cR4 : v3.cell? ⟨g_R, 4, none⟩ = some (.int .i64 0) := KR3.out.cell 4 _ rfl
  have dR4 := KR3.out.open 4
  have cR5 : v3.cell? ⟨g_R, 5, none⟩ = some (.int .i64 0) := KR3.out.cell 5 _ rfl
  have dR5 := KR3.out.open 5
  have cR6 : v3.cell? ⟨g_R, 6, none⟩ = some (.int .i64 0) := KR3.out.cell 6 _ rfl
  have dR6 := KR3.out.open 6
  have cR7 : v3.cell? ⟨g_R, 7, none⟩ = some (.int .i64 0) := KR3.out.cell 7 _ rfl
  have dR7 := KR3.out.open 7
  have cR8 : v3.cell? ⟨g_R, 8, none⟩ = some (.bool false) := KR3.out.cell 8 _ rfl
  have dR8 := KR3.out.open 8
  have cR9 : v3.cell? ⟨g_R, 9, none⟩ = some (.bool false) := KR3.out.cell 9 _ rfl
  have dR9 := KR3.out.open 9
  have cR10 : v3.cell? ⟨g_R, 10, none⟩ = some (.int .i64 0) := KR3.out.cell 10 _ rfl
  have dR10 := KR3.out.open 10
  have cR11 : v3.cell? ⟨g_R, 11, none⟩ = some (.int .i64 0) := KR3.out.cell 11 _ rfl
  have dR11 := KR3.out.open 11
  have cR12 : v3.cell? ⟨g_R, 12, none⟩ = some (.string ⟨#[]⟩) := KR3.out.cell 12 _ rfl
  have dR12 := KR3.out.open 12
  refine wpAnyH_ready (rs := [17]) (by kernel_rfl) (by simp) ?_
  refine AllReadyH.cons (i := 17) rfl (fun K hK => ?zr8) AllReadyH.nil
  rw [if_pos (by rfl)]
  go_simp
  clear hS
  have KA4 := Lib.hid (show Blk (((((((((((((v3.setCell ⟨g_R, 0, none⟩ (.int .i64 r)).setCell ⟨g_R, 1, none⟩ (.int .i64 q)).setCell ⟨g_R, 2, none⟩ (.int .i64 a1)).setCell ⟨g_R, 3, none⟩ (.int .i64 n)).setCell ⟨g_R, 4, none⟩ (.int .i64 16)).setCell ⟨g_R, 5, none⟩ (.int .i64 a2)).setCell ⟨g_R, 6, none⟩ (.int .i64 0)).setCell ⟨g_R, 7, none⟩ (.int .i64 (-1))).setCell ⟨g_R, 8, none⟩ (.bool false)).setCell ⟨g_R, 9, none⟩ (.bool false)).setCell ⟨g_R, 10, none⟩ (.int .i64 0)).setCell ⟨g_R, 11, none⟩ (.int .i64 0)).setCell ⟨g_R, 12, none⟩ (.string ⟨#[]⟩)) g_A [.int .i64 p, .int .i64 q, .int .i64 r, .int .i64 st, .int .i64 u, .string d, .int .i64 t, .bool f, .bool g, .bool h, .int .i64 n, .string y, .slice a rs.length cap, .int .i64 fi, .bool z, .int .i64 wi, .int .i64 mo, .int .i64 m, .int .i64 c, .bool k, .bool s, .int .i64 v, .int .i64 x, .int .i64 ti, .int .i64 tr] from (((((((((((((KA3.out.setOther ⟨g_R, 0, none⟩ (.int .i64 r) (n_A_R)).setOther ⟨g_R, 1, none⟩ (.int .i64 q) (n_A_R)).setOther ⟨g_R, 2, none⟩ (.int .i64 a1) (n_A_R)).setOther ⟨g_R, 3, none⟩ (.int .i64 n) (n_A_R)).setOther ⟨g_R, 4, none⟩ (.int .i64 16) (n_A_R)).setOther ⟨g_R, 5, none⟩ (.int .i64 a2) (n_A_R)).setOther ⟨g_R, 6, none⟩ (.int .i64 0) (n_A_R)).setOther ⟨g_R, 7, none⟩ (.int .i64 (-1)) (n_A_R)).setOther ⟨g_R, 8, none⟩ (.bool false) (n_A_R)).setOther ⟨g_R, 9, none⟩ (.bool false) (n_A_R)).setOther ⟨g_R, 10, none⟩ (.int .i64 0) (n_A_R)).setOther ⟨g_R, 11, none⟩ (.int .i64 0) (n_A_R)).setOther ⟨g_R, 12, none⟩ (.string ⟨#[]⟩) (n_A_R)))
  have KR4 := Lib.hid (show Blk (((((((((((((v3.setCell ⟨g_R, 0, none⟩ (.int .i64 r)).setCell ⟨g_R, 1, none⟩ (.int .i64 q)).setCell ⟨g_R, 2, none⟩ (.int .i64 a1)).setCell ⟨g_R, 3, none⟩ (.int .i64 n)).setCell ⟨g_R, 4, none⟩ (.int .i64 16)).setCell ⟨g_R, 5, none⟩ (.int .i64 a2)).setCell ⟨g_R, 6, none⟩ (.int .i64 0)).setCell ⟨g_R, 7, none⟩ (.int .i64 (-1))).setCell ⟨g_R, 8, none⟩ (.bool false)).setCell ⟨g_R, 9, none⟩ (.bool false)).setCell ⟨g_R, 10, none⟩ (.int .i64 0)).setCell ⟨g_R, 11, none⟩ (.int .i64 0)).setCell ⟨g_R, 12, none⟩ (.string ⟨#[]⟩)) g_R [.int .i64 r, .int .i64 q, .int .i64 a1, .int .i64 n, .int .i64 16, .int .i64 a2, .int .i64 0, .int .i64 (-1), .bool false, .bool false, .int .i64 0, .int .i64 0, .string ⟨#[]⟩] from (((((((((((((KR3.out.set 0 (.int .i64 r)).set 1 (.int .i64 q)).set 2 (.int .i64 a1)).set 3 (.int .i64 n)).set 4 (.int .i64 16)).set 5 (.int .i64 a2)).set 6 (.int .i64 0)).set 7 (.int .i64 (-1))).set 8 (.bool false)).set 9 (.bool false)).set 10 (.int .i64 0)).set 11 (.int .i64 0)).set 12 (.string ⟨#[]⟩)))
  have B4 := Lib.hid (show Below w.heap.size w (((((((((((((v3.setCell ⟨g_R, 0, none⟩ (.int .i64 r)).setCell ⟨g_R, 1, none⟩ (.int .i64 q)).setCell ⟨g_R, 2, none⟩ (.int .i64 a1)).setCell ⟨g_R, 3, none⟩ (.int .i64 n)).setCell ⟨g_R, 4, none⟩ (.int .i64 16)).setCell ⟨g_R, 5, none⟩ (.int .i64 a2)).setCell ⟨g_R, 6, none⟩ (.int .i64 0)).setCell ⟨g_R, 7, none⟩ (.int .i64 (-1))).setCell ⟨g_R, 8, none⟩ (.bool false)).setCell ⟨g_R, 9, none⟩ (.bool false)).setCell ⟨g_R, 10, none⟩ (.int .i64 0)).setCell ⟨g_R, 11, none⟩ (.int .i64 0)).setCell ⟨g_R, 12, none⟩ (.string ⟨#[]⟩)) from (((((((((((((B3.out.setCell l_R (.int .i64 r)).setCell l_R (.int .i64 q)).setCell l_R (.int .i64 a1)).setCell l_R (.int .i64 n)).setCell l_R (.int .i64 16)).setCell l_R (.int .i64 a2)).setCell l_R (.int .i64 0)).setCell l_R (.int .i64 (-1))).setCell l_R (.bool false)).setCell l_R (.bool false)).setCell l_R (.int .i64 0)).setCell l_R (.int .i64 0)).setCell l_R (.string ⟨#[]⟩)))
  refine hK.out _ _ KA4.out (fun hS => ?_)
  clear hK K B3 cR0 dR0 cR1 dR1 cR2 dR2 cR3 dR3 cR4 dR4 cR5 dR5 cR6 dR6 cR7 dR7 cR8 dR8 cR9 dR9 cR10 dR10 cR11 dR11 cR12 dR12 KA3 KR3
  generalize ((((((((((((v3.setCell ⟨g_R, 0, none⟩ (.int .i64 r)).setCell ⟨g_R, 1, none⟩ (.int .i64 q)).setCell ⟨g_R, 2, none⟩ (.int .i64 a1)).setCell ⟨g_R, 3, none⟩ (.int .i64 n)).setCell ⟨g_R, 4, none⟩ (.int .i64 16)).setCell ⟨g_R, 5, none⟩ (.int .i64 a2)).setCell ⟨g_R, 6, none⟩ (.int .i64 0)).setCell ⟨g_R, 7, none⟩ (.int .i64 (-1))).setCell ⟨g_R, 8, none⟩ (.bool false)).setCell ⟨g_R, 9, none⟩ (.bool false)).setCell ⟨g_R, 10, none⟩ (.int .i64 0)).setCell ⟨g_R, 11, none⟩ (.int .i64 0)).setCell ⟨g_R, 12, none⟩ (.string ⟨#[]⟩) = v4 at hS KA4 KR4 B4 ⊢
  refine wpAnyH_done (by kernel_rfl) ?_ _
  refine NoPanic.normal ?_
  go_wp2_with fail
  exact bodyPost_ret (v := .agg #[.int .i64 r, .int .i64 q, .int .i64 a1, .int .i64 n, .int .i64 16, .int .i64 a2, .int .i64 0, .int .i64 (-1), .bool false, .bool false, .int .i64 0, .int .i64 0, .string ⟨#[]⟩]) (blk_results rfl KR4.out rfl Try.underlying40 rfl (by kernel_rfl)) rfl ⟨rfl, B4.out⟩
end Go.Proofs.Ytajekjjaaohbnaa
