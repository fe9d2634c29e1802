/- Texts of a proof that belong together, joined. Nothing here is a claim. -/
import Derived.Test.YtkkimgjcefojdaaGreatDoorPkLk34
import Derived.Test.YtkkimgjcefojdaaGreatDoorPkLk9
namespace Go.Proofs.YtkkimgjcefojdaaGreatDoor
open Go.RowKit Go.Lib

/-- What LinkOut answers. -/
noncomputable def outT (m ip : Int) (rs : List ER) (dst : Int) (b : ByteArray) : ByteArray :=
 if (linkOk m ip rs && (hasE rs dst && !(packText ip dst 64 6 0 b).toList.isEmpty)) = true then frameText (hwE rs dst) m 2048 (packText ip dst 64 6 0 b) else ⟨#[]⟩
noncomputable def outOk (m ip : Int) (rs : List ER) (dst : Int) (b : ByteArray) : Bool :=
 linkOk m ip rs && (hasE rs dst && (!(packText ip dst 64 6 0 b).toList.isEmpty && !(frameText (hwE rs dst) m 2048 (packText ip dst 64 6 0 b)).toList.isEmpty))
def EndOut (t : ByteArray) (b : Bool) (w : World) (e : Ending) (w' : World) : Prop := e = .returned (.tuple #[.string t, .bool b]) ∧ Below w.heap.size w w'

set_option maxRecDepth 100000 in
set_option maxHeartbeats 4000000 in
theorem linkOutI (m ip : Int) (a : Option Addr) (cap : Nat) (rs : List ER) (dst : Int) (b : ByteArray) (w : World) (hrow : Row w w.heap.size a (ers rs)) (hl : rs.length ≤ 1048577) :
  Calls Tryz.prog 17 #[.agg #[.int .i64 m, .int .i64 ip, .slice a rs.length cap], .int .i64 dst, .string b] w (EndOut (outT m ip rs dst b) (outOk m ip rs dst b) w) := by
 have HR := Lib.hid hrow
 have C1 := Lib.hid (fun w h => hwOfI a cap rs dst w h hl)
 have C2 := Lib.hid (fun w h => linkOkI m ip a cap rs w h hl)
 have C3 := Lib.hid (fun w => packTextI ip dst 64 6 0 b w)
 have C4 := Lib.hid (fun w => frameTextI (hwE rs dst) m 2048 (packText ip dst 64 6 0 b) w)
 clear hrow hl
 unfold HwEnd at C1
 unfold outT outOk
 generalize linkOk m ip rs = x at C2 ⊢
 generalize hasE rs dst = y at C1 ⊢
 generalize frameText (hwE rs dst) m 2048 (packText ip dst 64 6 0 b) = f at C4 ⊢
 generalize hwE rs dst = hw at C1 C4 ⊢
 generalize packText ip dst 64 6 0 b = p at C3 C4 ⊢
 cases x with
 | false =>
  simp only [Bool.false_and, Bool.false_eq_true, if_false]
  go_enter Tryz.func17, Tryz.ntmps17
  have B0 := Lib.hid (show Below w.heap.size w (w.alloc (.cells #[.int .i64 m, .int .i64 ip, .slice a rs.length cap] 26)) from ((Below.refl _ w).alloc (by simp) _))
  have Kl0 := Lib.hid (show Blk (w.alloc (.cells #[.int .i64 m, .int .i64 ip, .slice a rs.length cap] 26)) (w.heap.size) [.int .i64 m, .int .i64 ip, .slice a rs.length cap] from Blk.new w [.int .i64 m, .int .i64 ip, .slice a rs.length cap] 26)
  go_wp2_with fail
  change Calls _ _ _ (w.alloc (.cells #[.int .i64 m, .int .i64 ip, .slice a rs.length cap] 26)) _
  generalize w.alloc (.cells #[.int .i64 m, .int .i64 ip, .slice a rs.length cap] 26) = v0 at B0 Kl0 ⊢
  generalize w.heap.size = g_l at Kl0 ⊢
  refine (C1.out _ ((HR.out.below B0.out).mono B0.out.size)).mono ?_
  rintro e v1 ⟨rfl, hb⟩
  have B1 := Lib.hid (B0.out.trans (hb.mono B0.out.size))
  have Kl1 := Lib.hid (Kl0.out.below hb)
  clear hb B0 Kl0
  obtain ⟨⟨cl0, cl1, cl2⟩, dl0, dl1, dl2⟩ := Kl1.out.o3
  go_wp2_with fail
  clear cl0 cl1 cl2 dl0 dl1 dl2
  refine (C2.out _ ((HR.out.below B1.out).mono B1.out.size)).mono ?_
  rintro e v2 ⟨rfl, hb⟩
  have B2 := Lib.hid (B1.out.trans (hb.mono B1.out.size))
  have Kl2 := Lib.hid (Kl1.out.below hb)
  clear hb B1 Kl1
  obtain ⟨⟨cl0, cl1, cl2⟩, dl0, dl1, dl2⟩ := Kl2.out.o3
  go_wp2_with fail
  exact bodyPost_ret (v := .tuple #[.string ⟨#[]⟩, .bool false]) (by simp [results, Tryz.results17, go_sem]) rfl ⟨rfl, B2.out⟩
 | true =>
  cases y with
  | false =>
   simp only [Bool.true_and, Bool.false_and, Bool.false_eq_true, if_false]
   go_enter Tryz.func17, Tryz.ntmps17
   have B0 := Lib.hid (show Below w.heap.size w (w.alloc (.cells #[.int .i64 m, .int .i64 ip, .slice a rs.length cap] 26)) from ((Below.refl _ w).alloc (by simp) _))
   have Kl0 := Lib.hid (show Blk (w.alloc (.cells #[.int .i64 m, .int .i64 ip, .slice a rs.length cap] 26)) (w.heap.size) [.int .i64 m, .int .i64 ip, .slice a rs.length cap] from Blk.new w [.int .i64 m, .int .i64 ip, .slice a rs.length cap] 26)
   go_wp2_with fail
   change Calls _ _ _ (w.alloc (.cells #[.int .i64 m, .int .i64 ip, .slice a rs.length cap] 26)) _
   generalize w.alloc (.cells #[.int .i64 m, .int .i64 ip, .slice a rs.length cap] 26) = v0 at B0 Kl0 ⊢
   generalize w.heap.size = g_l at Kl0 ⊢
   refine (C1.out _ ((HR.out.below B0.out).mono B0.out.size)).mono ?_
   rintro e v1 ⟨rfl, hb⟩
   have B1 := Lib.hid (B0.out.trans (hb.mono B0.out.size))
   have Kl1 := Lib.hid (Kl0.out.below hb)
   clear hb B0 Kl0
   obtain ⟨⟨cl0, cl1, cl2⟩, dl0, dl1, dl2⟩ := Kl1.out.o3
   go_wp2_with fail
   clear cl0 cl1 cl2 dl0 dl1 dl2
   refine (C2.out _ ((HR.out.below B1.out).mono B1.out.size)).mono ?_
   rintro e v2 ⟨rfl, hb⟩
   have B2 := Lib.hid (B1.out.trans (hb.mono B1.out.size))
   have Kl2 := Lib.hid (Kl1.out.below hb)
   clear hb B1 Kl1
   obtain ⟨⟨cl0, cl1, cl2⟩, dl0, dl1, dl2⟩ := Kl2.out.o3
   go_wp2_with fail
   exact bodyPost_ret (v := .tuple #[.string ⟨#[]⟩, .bool false]) (by simp [results, Tryz.results17, go_sem]) rfl ⟨rfl, B2.out⟩
  | true =>
   cases hp : p.toList.isEmpty with
   | true =>
    simp only [Bool.true_and, Bool.not_true, Bool.false_and, Bool.false_eq_true, if_false]
    go_enter Tryz.func17, Tryz.ntmps17
    have B0 := Lib.hid (show Below w.heap.size w (w.alloc (.cells #[.int .i64 m, .int .i64 ip, .slice a rs.length cap] 26)) from ((Below.refl _ w).alloc (by simp) _))
    have Kl0 := Lib.hid (show Blk (w.alloc (.cells #[.int .i64 m, .int .i64 ip, .slice a rs.length cap] 26)) (w.heap.size) [.int .i64 m, .int .i64 ip, .slice a rs.length cap] from Blk.new w [.int .i64 m, .int .i64 ip, .slice a rs.length cap] 26)
    go_wp2_with fail
    change Calls _ _ _ (w.alloc (.cells #[.int .i64 m, .int .i64 ip, .slice a rs.length cap] 26)) _
    generalize w.alloc (.cells #[.int .i64 m, .int .i64 ip, .slice a rs.length cap] 26) = v0 at B0 Kl0 ⊢
    generalize w.heap.size = g_l at Kl0 ⊢
    refine (C1.out _ ((HR.out.below B0.out).mono B0.out.size)).mono ?_
    rintro e v1 ⟨rfl, hb⟩
    have B1 := Lib.hid (B0.out.trans (hb.mono B0.out.size))
    have Kl1 := Lib.hid (Kl0.out.below hb)
    clear hb B0 Kl0
    obtain ⟨⟨cl0, cl1, cl2⟩, dl0, dl1, dl2⟩ := Kl1.out.o3
    go_wp2_with fail
    clear cl0 cl1 cl2 dl0 dl1 dl2
    refine (C2.out _ ((HR.out.below B1.out).mono B1.out.size)).mono ?_
    rintro e v2 ⟨rfl, hb⟩
    have B2 := Lib.hid (B1.out.trans (hb.mono B1.out.size))
    have Kl2 := Lib.hid (Kl1.out.below hb)
    clear hb B1 Kl1
    obtain ⟨⟨cl0, cl1, cl2⟩, dl0, dl1, dl2⟩ := Kl2.out.o3
    go_wp2_with fail
    clear cl0 cl1 cl2 dl0 dl1 dl2
    refine (C3.out _).mono ?_
    rintro e v3 ⟨rfl, hb⟩
    have B3 := Lib.hid (B2.out.trans (hb.mono B2.out.size))
    have Kl3 := Lib.hid (Kl2.out.below hb)
    clear hb B2 Kl2
    obtain ⟨⟨cl0, cl1, cl2⟩, dl0, dl1, dl2⟩ := Kl3.out.o3
    go_wp2_with fail
    exact bodyPost_ret (v := .tuple #[.string ⟨#[]⟩, .bool false]) (by simp [results, Tryz.results17, go_sem]) rfl ⟨rfl, B3.out⟩
   | false =>
    simp only [Bool.true_and, Bool.not_false, if_true]
    cases hf : f.toList.isEmpty with
    | true =>
     go_enter Tryz.func17, Tryz.ntmps17
     have B0 := Lib.hid (show Below w.heap.size w (w.alloc (.cells #[.int .i64 m, .int .i64 ip, .slice a rs.length cap] 26)) from ((Below.refl _ w).alloc (by simp) _))
     have Kl0 := Lib.hid (show Blk (w.alloc (.cells #[.int .i64 m, .int .i64 ip, .slice a rs.length cap] 26)) (w.heap.size) [.int .i64 m, .int .i64 ip, .slice a rs.length cap] from Blk.new w [.int .i64 m, .int .i64 ip, .slice a rs.length cap] 26)
     go_wp2_with fail
     change Calls _ _ _ (w.alloc (.cells #[.int .i64 m, .int .i64 ip, .slice a rs.length cap] 26)) _
     generalize w.alloc (.cells #[.int .i64 m, .int .i64 ip, .slice a rs.length cap] 26) = v0 at B0 Kl0 ⊢
     generalize w.heap.size = g_l at Kl0 ⊢
     refine (C1.out _ ((HR.out.below B0.out).mono B0.out.size)).mono ?_
     rintro e v1 ⟨rfl, hb⟩
     have B1 := Lib.hid (B0.out.trans (hb.mono B0.out.size))
     have Kl1 := Lib.hid (Kl0.out.below hb)
     clear hb B0 Kl0
     obtain ⟨⟨cl0, cl1, cl2⟩, dl0, dl1, dl2⟩ := Kl1.out.o3
     go_wp2_with fail
     clear cl0 cl1 cl2 dl0 dl1 dl2
     refine (C2.out _ ((HR.out.below B1.out).mono B1.out.size)).mono ?_
     rintro e v2 ⟨rfl, hb⟩
     have B2 := Lib.hid (B1.out.trans (hb.mono B1.out.size))
     have Kl2 := Lib.hid (Kl1.out.below hb)
     clear hb B1 Kl1
     obtain ⟨⟨cl0, cl1, cl2⟩, dl0, dl1, dl2⟩ := Kl2.out.o3
     go_wp2_with fail
     clear cl0 cl1 cl2 dl0 dl1 dl2
     refine (C3.out _).mono ?_
     rintro e v3 ⟨rfl, hb⟩
     have B3 := Lib.hid (B2.out.trans (hb.mono B2.out.size))
     have Kl3 := Lib.hid (Kl2.out.below hb)
     clear hb B2 Kl2
     obtain ⟨⟨cl0, cl1, cl2⟩, dl0, dl1, dl2⟩ := Kl3.out.o3
     go_wp2_with fail
     clear cl0 cl1 cl2 dl0 dl1 dl2
     refine (C4.out _).mono ?_
     rintro e v4 ⟨rfl, hb⟩
     have B4 := Lib.hid (B3.out.trans (hb.mono B3.out.size))
     have Kl4 := Lib.hid (Kl3.out.below hb)
     clear hb B3 Kl3
     obtain ⟨⟨cl0, cl1, cl2⟩, dl0, dl1, dl2⟩ := Kl4.out.o3
     go_wp2_with fail
     exact bodyPost_ret (v := .tuple #[.string f, .bool false]) (by simp [results, Tryz.results17, go_sem]) rfl ⟨rfl, B4.out⟩
    | false =>
     go_enter Tryz.func17, Tryz.ntmps17
     have B0 := Lib.hid (show Below w.heap.size w (w.alloc (.cells #[.int .i64 m, .int .i64 ip, .slice a rs.length cap] 26)) from ((Below.refl _ w).alloc (by simp) _))
     have Kl0 := Lib.hid (show Blk (w.alloc (.cells #[.int .i64 m, .int .i64 ip, .slice a rs.length cap] 26)) (w.heap.size) [.int .i64 m, .int .i64 ip, .slice a rs.length cap] from Blk.new w [.int .i64 m, .int .i64 ip, .slice a rs.length cap] 26)
     go_wp2_with fail
     change Calls _ _ _ (w.alloc (.cells #[.int .i64 m, .int .i64 ip, .slice a rs.length cap] 26)) _
     generalize w.alloc (.cells #[.int .i64 m, .int .i64 ip, .slice a rs.length cap] 26) = v0 at B0 Kl0 ⊢
     generalize w.heap.size = g_l at Kl0 ⊢
     refine (C1.out _ ((HR.out.below B0.out).mono B0.out.size)).mono ?_
     rintro e v1 ⟨rfl, hb⟩
     have B1 := Lib.hid (B0.out.trans (hb.mono B0.out.size))
     have Kl1 := Lib.hid (Kl0.out.below hb)
     clear hb B0 Kl0
     obtain ⟨⟨cl0, cl1, cl2⟩, dl0, dl1, dl2⟩ := Kl1.out.o3
     go_wp2_with fail
     clear cl0 cl1 cl2 dl0 dl1 dl2
     refine (C2.out _ ((HR.out.below B1.out).mono B1.out.size)).mono ?_
     rintro e v2 ⟨rfl, hb⟩
     have B2 := Lib.hid (B1.out.trans (hb.mono B1.out.size))
     have Kl2 := Lib.hid (Kl1.out.below hb)
     clear hb B1 Kl1
     obtain ⟨⟨cl0, cl1, cl2⟩, dl0, dl1, dl2⟩ := Kl2.out.o3
     go_wp2_with fail
     clear cl0 cl1 cl2 dl0 dl1 dl2
     refine (C3.out _).mono ?_
     rintro e v3 ⟨rfl, hb⟩
     have B3 := Lib.hid (B2.out.trans (hb.mono B2.out.size))
     have Kl3 := Lib.hid (Kl2.out.below hb)
     clear hb B2 Kl2
     obtain ⟨⟨cl0, cl1, cl2⟩, dl0, dl1, dl2⟩ := Kl3.out.o3
     go_wp2_with fail
     clear cl0 cl1 cl2 dl0 dl1 dl2
     refine (C4.out _).mono ?_
     rintro e v4 ⟨rfl, hb⟩
     have B4 := Lib.hid (B3.out.trans (hb.mono B3.out.size))
     have Kl4 := Lib.hid (Kl3.out.below hb)
     clear hb B3 Kl3
     obtain ⟨⟨cl0, cl1, cl2⟩, dl0, dl1, dl2⟩ := Kl4.out.o3
     go_wp2_with fail
     exact bodyPost_ret (v := .tuple #[.string f, .bool true]) (by simp [results, Tryz.results17, go_sem]) rfl ⟨rfl, B4.out⟩

set_option maxRecDepth 100000 in
set_option maxHeartbeats 4000000 in
theorem linkOutS (m ip : Int) (a : Option Addr) (cap : Nat) (rs : List ER) (dst : Int) (b : ByteArray) (w : World) (hrow : Row w w.heap.size a (ers rs)) (hl : rs.length ≤ 1048577) (hcap : rs.length ≤ cap) :
  Calls Tryz.prog 18 #[.agg #[.int .i64 m, .int .i64 ip, .slice a rs.length cap], .int .i64 dst, .string b] w (EndOut (outT m ip rs dst b) (outOk m ip rs dst b) w) := by
 have HR := Lib.hid hrow
 have C1 := Lib.hid (fun w h => hwOfS a cap rs dst w h hl)
 have C2 := Lib.hid (fun w h => linkOkS m ip a cap rs w h hl hcap)
 have C3 := Lib.hid (fun w => packTextS ip dst 64 6 0 b w)
 have C4 := Lib.hid (fun w => frameTextS (hwE rs dst) m 2048 (packText ip dst 64 6 0 b) w)
 clear hrow hl hcap
 unfold HwEnd at C1
 unfold outT outOk
 generalize linkOk m ip rs = x at C2 ⊢
 generalize hasE rs dst = y at C1 ⊢
 generalize frameText (hwE rs dst) m 2048 (packText ip dst 64 6 0 b) = f at C4 ⊢
 generalize hwE rs dst = hw at C1 C4 ⊢
 generalize packText ip dst 64 6 0 b = p at C3 C4 ⊢
 cases x with
 | false =>
  simp only [Bool.false_and, Bool.false_eq_true, if_false]
  go_enter Tryz.func18, Tryz.ntmps18
  have B0 := Lib.hid (show Below w.heap.size w (w.alloc (.cells #[.int .i64 m, .int .i64 ip, .slice a rs.length cap] 26)) from ((Below.refl _ w).alloc (by simp) _))
  have Kl0 := Lib.hid (show Blk (w.alloc (.cells #[.int .i64 m, .int .i64 ip, .slice a rs.length cap] 26)) (w.heap.size) [.int .i64 m, .int .i64 ip, .slice a rs.length cap] from Blk.new w [.int .i64 m, .int .i64 ip, .slice a rs.length cap] 26)
  go_wp2_with fail
  change Calls _ _ _ (w.alloc (.cells #[.int .i64 m, .int .i64 ip, .slice a rs.length cap] 26)) _
  generalize w.alloc (.cells #[.int .i64 m, .int .i64 ip, .slice a rs.length cap] 26) = v0 at B0 Kl0 ⊢
  generalize w.heap.size = g_l at Kl0 ⊢
  refine (C1.out _ ((HR.out.below B0.out).mono B0.out.size)).mono ?_
  rintro e v1 ⟨rfl, hb⟩
  have B1 := Lib.hid (B0.out.trans (hb.mono B0.out.size))
  have Kl1 := Lib.hid (Kl0.out.below hb)
  clear hb B0 Kl0
  obtain ⟨⟨cl0, cl1, cl2⟩, dl0, dl1, dl2⟩ := Kl1.out.o3
  go_wp2_with fail
  clear cl0 cl1 cl2 dl0 dl1 dl2
  refine (C2.out _ ((HR.out.below B1.out).mono B1.out.size)).mono ?_
  rintro e v2 ⟨rfl, hb⟩
  have B2 := Lib.hid (B1.out.trans (hb.mono B1.out.size))
  have Kl2 := Lib.hid (Kl1.out.below hb)
  clear hb B1 Kl1
  obtain ⟨⟨cl0, cl1, cl2⟩, dl0, dl1, dl2⟩ := Kl2.out.o3
  go_wp2_with fail
  exact bodyPost_ret (v := .tuple #[.string ⟨#[]⟩, .bool false]) (by simp [results, Tryz.results18, go_sem]) rfl ⟨rfl, B2.out⟩
 | true =>
  cases y with
  | false =>
   simp only [Bool.true_and, Bool.false_and, Bool.false_eq_true, if_false]
   go_enter Tryz.func18, Tryz.ntmps18
   have B0 := Lib.hid (show Below w.heap.size w (w.alloc (.cells #[.int .i64 m, .int .i64 ip, .slice a rs.length cap] 26)) from ((Below.refl _ w).alloc (by simp) _))
   have Kl0 := Lib.hid (show Blk (w.alloc (.cells #[.int .i64 m, .int .i64 ip, .slice a rs.length cap] 26)) (w.heap.size) [.int .i64 m, .int .i64 ip, .slice a rs.length cap] from Blk.new w [.int .i64 m, .int .i64 ip, .slice a rs.length cap] 26)
   go_wp2_with fail
   change Calls _ _ _ (w.alloc (.cells #[.int .i64 m, .int .i64 ip, .slice a rs.length cap] 26)) _
   generalize w.alloc (.cells #[.int .i64 m, .int .i64 ip, .slice a rs.length cap] 26) = v0 at B0 Kl0 ⊢
   generalize w.heap.size = g_l at Kl0 ⊢
   refine (C1.out _ ((HR.out.below B0.out).mono B0.out.size)).mono ?_
   rintro e v1 ⟨rfl, hb⟩
   have B1 := Lib.hid (B0.out.trans (hb.mono B0.out.size))
   have Kl1 := Lib.hid (Kl0.out.below hb)
   clear hb B0 Kl0
   obtain ⟨⟨cl0, cl1, cl2⟩, dl0, dl1, dl2⟩ := Kl1.out.o3
   go_wp2_with fail
   clear cl0 cl1 cl2 dl0 dl1 dl2
   refine (C2.out _ ((HR.out.below B1.out).mono B1.out.size)).mono ?_
   rintro e v2 ⟨rfl, hb⟩
   have B2 := Lib.hid (B1.out.trans (hb.mono B1.out.size))
   have Kl2 := Lib.hid (Kl1.out.below hb)
   clear hb B1 Kl1
   obtain ⟨⟨cl0, cl1, cl2⟩, dl0, dl1, dl2⟩ := Kl2.out.o3
   go_wp2_with fail
   exact bodyPost_ret (v := .tuple #[.string ⟨#[]⟩, .bool false]) (by simp [results, Tryz.results18, go_sem]) rfl ⟨rfl, B2.out⟩
  | true =>
   cases hp : p.toList.isEmpty with
   | true =>
    simp only [Bool.true_and, Bool.not_true, Bool.false_and, Bool.false_eq_true, if_false]
    go_enter Tryz.func18, Tryz.ntmps18
    have B0 := Lib.hid (show Below w.heap.size w (w.alloc (.cells #[.int .i64 m, .int .i64 ip, .slice a rs.length cap] 26)) from ((Below.refl _ w).alloc (by simp) _))
    have Kl0 := Lib.hid (show Blk (w.alloc (.cells #[.int .i64 m, .int .i64 ip, .slice a rs.length cap] 26)) (w.heap.size) [.int .i64 m, .int .i64 ip, .slice a rs.length cap] from Blk.new w [.int .i64 m, .int .i64 ip, .slice a rs.length cap] 26)
    go_wp2_with fail
    change Calls _ _ _ (w.alloc (.cells #[.int .i64 m, .int .i64 ip, .slice a rs.length cap] 26)) _
    generalize w.alloc (.cells #[.int .i64 m, .int .i64 ip, .slice a rs.length cap] 26) = v0 at B0 Kl0 ⊢
    generalize w.heap.size = g_l at Kl0 ⊢
    refine (C1.out _ ((HR.out.below B0.out).mono B0.out.size)).mono ?_
    rintro e v1 ⟨rfl, hb⟩
    have B1 := Lib.hid (B0.out.trans (hb.mono B0.out.size))
    have Kl1 := Lib.hid (Kl0.out.below hb)
    clear hb B0 Kl0
    obtain ⟨⟨cl0, cl1, cl2⟩, dl0, dl1, dl2⟩ := Kl1.out.o3
    go_wp2_with fail
    clear cl0 cl1 cl2 dl0 dl1 dl2
    refine (C2.out _ ((HR.out.below B1.out).mono B1.out.size)).mono ?_
    rintro e v2 ⟨rfl, hb⟩
    have B2 := Lib.hid (B1.out.trans (hb.mono B1.out.size))
    have Kl2 := Lib.hid (Kl1.out.below hb)
    clear hb B1 Kl1
    obtain ⟨⟨cl0, cl1, cl2⟩, dl0, dl1, dl2⟩ := Kl2.out.o3
    go_wp2_with fail
    clear cl0 cl1 cl2 dl0 dl1 dl2
    refine (C3.out _).mono ?_
    rintro e v3 ⟨rfl, hb⟩
    have B3 := Lib.hid (B2.out.trans (hb.mono B2.out.size))
    have Kl3 := Lib.hid (Kl2.out.below hb)
    clear hb B2 Kl2
    obtain ⟨⟨cl0, cl1, cl2⟩, dl0, dl1, dl2⟩ := Kl3.out.o3
    go_wp2_with fail
    exact bodyPost_ret (v := .tuple #[.string ⟨#[]⟩, .bool false]) (by simp [results, Tryz.results18, go_sem]) rfl ⟨rfl, B3.out⟩
   | false =>
    simp only [Bool.true_and, Bool.not_false, if_true]
    cases hf : f.toList.isEmpty with
    | true =>
     go_enter Tryz.func18, Tryz.ntmps18
     have B0 := Lib.hid (show Below w.heap.size w (w.alloc (.cells #[.int .i64 m, .int .i64 ip, .slice a rs.length cap] 26)) from ((Below.refl _ w).alloc (by simp) _))
     have Kl0 := Lib.hid (show Blk (w.alloc (.cells #[.int .i64 m, .int .i64 ip, .slice a rs.length cap] 26)) (w.heap.size) [.int .i64 m, .int .i64 ip, .slice a rs.length cap] from Blk.new w [.int .i64 m, .int .i64 ip, .slice a rs.length cap] 26)
     go_wp2_with fail
     change Calls _ _ _ (w.alloc (.cells #[.int .i64 m, .int .i64 ip, .slice a rs.length cap] 26)) _
     generalize w.alloc (.cells #[.int .i64 m, .int .i64 ip, .slice a rs.length cap] 26) = v0 at B0 Kl0 ⊢
     generalize w.heap.size = g_l at Kl0 ⊢
     refine (C1.out _ ((HR.out.below B0.out).mono B0.out.size)).mono ?_
     rintro e v1 ⟨rfl, hb⟩
     have B1 := Lib.hid (B0.out.trans (hb.mono B0.out.size))
     have Kl1 := Lib.hid (Kl0.out.below hb)
     clear hb B0 Kl0
     obtain ⟨⟨cl0, cl1, cl2⟩, dl0, dl1, dl2⟩ := Kl1.out.o3
     go_wp2_with fail
     clear cl0 cl1 cl2 dl0 dl1 dl2
     refine (C2.out _ ((HR.out.below B1.out).mono B1.out.size)).mono ?_
     rintro e v2 ⟨rfl, hb⟩
     have B2 := Lib.hid (B1.out.trans (hb.mono B1.out.size))
     have Kl2 := Lib.hid (Kl1.out.below hb)
     clear hb B1 Kl1
     obtain ⟨⟨cl0, cl1, cl2⟩, dl0, dl1, dl2⟩ := Kl2.out.o3
     go_wp2_with fail
     clear cl0 cl1 cl2 dl0 dl1 dl2
     refine (C3.out _).mono ?_
     rintro e v3 ⟨rfl, hb⟩
     have B3 := Lib.hid (B2.out.trans (hb.mono B2.out.size))
     have Kl3 := Lib.hid (Kl2.out.below hb)
     clear hb B2 Kl2
     obtain ⟨⟨cl0, cl1, cl2⟩, dl0, dl1, dl2⟩ := Kl3.out.o3
     go_wp2_with fail
     clear cl0 cl1 cl2 dl0 dl1 dl2
     refine (C4.out _).mono ?_
     rintro e v4 ⟨rfl, hb⟩
     have B4 := Lib.hid (B3.out.trans (hb.mono B3.out.size))
     have Kl4 := Lib.hid (Kl3.out.below hb)
     clear hb B3 Kl3
     obtain ⟨⟨cl0, cl1, cl2⟩, dl0, dl1, dl2⟩ := Kl4.out.o3
     go_wp2_with fail
     exact bodyPost_ret (v := .tuple #[.string f, .bool false]) (by simp [results, Tryz.results18, go_sem]) rfl ⟨rfl, B4.out⟩
    | false =>
     go_enter Tryz.func18, Tryz.ntmps18
     have B0 := Lib.hid (show Below w.heap.size w (w.alloc (.cells #[.int .i64 m, .int .i64 ip, .slice a rs.length cap] 26)) from ((Below.refl _ w).alloc (by simp) _))
     have Kl0 := Lib.hid (show Blk (w.alloc (.cells #[.int .i64 m, .int .i64 ip, .slice a rs.length cap] 26)) (w.heap.size) [.int .i64 m, .int .i64 ip, .slice a rs.length cap] from Blk.new w [.int .i64 m, .int .i64 ip, .slice a rs.length cap] 26)
     go_wp2_with fail
     change Calls _ _ _ (w.alloc (.cells #[.int .i64 m, .int .i64 ip, .slice a rs.length cap] 26)) _
     generalize w.alloc (.cells #[.int .i64 m, .int .i64 ip, .slice a rs.length cap] 26) = v0 at B0 Kl0 ⊢
     generalize w.heap.size = g_l at Kl0 ⊢
     refine (C1.out _ ((HR.out.below B0.out).mono B0.out.size)).mono ?_
     rintro e v1 ⟨rfl, hb⟩
     have B1 := Lib.hid (B0.out.trans (hb.mono B0.out.size))
     have Kl1 := Lib.hid (Kl0.out.below hb)
     clear hb B0 Kl0
     obtain ⟨⟨cl0, cl1, cl2⟩, dl0, dl1, dl2⟩ := Kl1.out.o3
     go_wp2_with fail
     clear cl0 cl1 cl2 dl0 dl1 dl2
     refine (C2.out _ ((HR.out.below B1.out).mono B1.out.size)).mono ?_
     rintro e v2 ⟨rfl, hb⟩
     have B2 := Lib.hid (B1.out.trans (hb.mono B1.out.size))
     have Kl2 := Lib.hid (Kl1.out.below hb)
     clear hb B1 Kl1
     obtain ⟨⟨cl0, cl1, cl2⟩, dl0, dl1, dl2⟩ := Kl2.out.o3
     go_wp2_with fail
     clear cl0 cl1 cl2 dl0 dl1 dl2
     refine (C3.out _).mono ?_
     rintro e v3 ⟨rfl, hb⟩
     have B3 := Lib.hid (B2.out.trans (hb.mono B2.out.size))
     have Kl3 := Lib.hid (Kl2.out.below hb)
     clear hb B2 Kl2
     obtain ⟨⟨cl0, cl1, cl2⟩, dl0, dl1, dl2⟩ := Kl3.out.o3
     go_wp2_with fail
     clear cl0 cl1 cl2 dl0 dl1 dl2
     refine (C4.out _).mono ?_
     rintro e v4 ⟨rfl, hb⟩
     have B4 := Lib.hid (B3.out.trans (hb.mono B3.out.size))
     have Kl4 := Lib.hid (Kl3.out.below hb)
     clear hb B3 Kl3
     obtain ⟨⟨cl0, cl1, cl2⟩, dl0, dl1, dl2⟩ := Kl4.out.o3
     go_wp2_with fail
     exact bodyPost_ret (v := .tuple #[.string f, .bool true]) (by simp [results, Tryz.results18, go_sem]) rfl ⟨rfl, B4.out⟩
end Go.Proofs.YtkkimgjcefojdaaGreatDoor
namespace Go.Proofs.YtkkimgjcefojdaaGreatDoor
open Go.RowKit Go.Lib

theorem read_none (d s t : Int) (b : ByteArray) (h : frameOk d s t b = false) : frameText d s t b = ⟨#[]⟩ ∧ rfOk ⟨#[]⟩ = false := by
 constructor
 ·unfold frameText; rw [if_neg (by rw [h]; decide)]
 ·rfl
end Go.Proofs.YtkkimgjcefojdaaGreatDoor
namespace Go.Proofs.YtkkimgjcefojdaaGreatDoor
open Go.RowKit Go.Lib

/-- The first twenty bytes of a packet's text. -/
def packTop (s d t p i : Int) (b : ByteArray) : ByteArray := packHead (20 + b.size) i t p ++ putW (sumOf (packHead (20 + b.size) i t p ++ packTail s d)) 2 ++ packTail s d
theorem packTop_size {s d t p i : Int} {b : ByteArray} (h : packOk s d t p i b = true) : (packTop s d t p i b).size = 20 := by
 obtain ⟨_, _, _, _, z⟩ := putW_word (sumOf (packHead (20 + b.size) i t p ++ packTail s d)) 2 (by omega) (sum_word _)
 have z : (putW (sumOf (packHead (20 + b.size) i t p ++ packTail s d)) 2).size = 2 := z
 unfold packTop
 rw [ByteArray.size_append, ByteArray.size_append, packHead_size h, packTail_size h, z]
theorem packTop_right {s d t p i : Int} {b : ByteArray} (h : packOk s d t p i b = true) : sumRight (packTop s d t p i b) = true := by
 have h1 := packHead_size h
 have h2 := packTail_size h
 have hs := seal_right (packHead (20 + b.size) i t p ++ packTail s d) (by rw [ByteArray.size_append, h1, h2])
 obtain ⟨_, _, _, _, z⟩ := putW_word (sumOf (packHead (20 + b.size) i t p ++ packTail s d)) 2 (by omega) (sum_word _)
 have z : (putW (sumOf (packHead (20 + b.size) i t p ++ packTail s d)) 2).size = 2 := z
 unfold packTop
 generalize putW (sumOf (packHead (20 + b.size) i t p ++ packTail s d)) 2 = k at hs z ⊢
 generalize packHead (20 + b.size) i t p = H at hs h1 ⊢
 generalize packTail s d = T at hs h2 ⊢
 have e : wsum (H ++ k ++ T) = wsum (H ++ T ++ k) := by
  rw [wsum_append _ _ (by rw [ByteArray.size_append]; omega), wsum_append _ _ (by omega), wsum_append _ _ (by rw [ByteArray.size_append]; omega), wsum_append _ _ (by omega)]
  omega
 rw [sumRight_iff] at hs ⊢
 rw [e]; exact hs
theorem packText_top {s d t p i : Int} {b : ByteArray} (h : packOk s d t p i b = true) : packText s d t p i b = packTop s d t p i b ++ b := packText_yes h
theorem two_zero : putW 0 2 = ⟨#[0, 0]⟩ := by decide +kernel

theorem pk_round {s d t p i : Int} {b : ByteArray} (h : packOk s d t p i b = true) (q : ByteArray) :
  pkWhy (packText s d t p i b ++ q) = 0 ∧ rkS (packText s d t p i b ++ q) = s ∧ rkD (packText s d t p i b ++ q) = d ∧ rkT (packText s d t p i b ++ q) = t ∧ rkP (packText s d t p i b ++ q) = p ∧ rkI (packText s d t p i b ++ q) = i ∧ rkB (packText s d t p i b ++ q) = b := by
 obtain ⟨hs, hd, ht, hp, hi, hb⟩ := packOk_all h
 have hn := len_word b hb
 have hc := sum_word (packHead (20 + b.size) i t p ++ packTail s d)
 have ht8 : wordOk t 8 = true := by rw [ttl_word t ht.1]; exact decide_eq_true ht
 obtain ⟨_, _, _, _, z1⟩ := putW_word (20 + b.size) 2 (by omega) hn
 obtain ⟨_, _, _, _, z2⟩ := putW_word i 2 (by omega) hi
 obtain ⟨_, _, _, _, z3⟩ := putW_word t 1 (by omega) ht8
 obtain ⟨_, _, _, _, z4⟩ := putW_word p 1 (by omega) hp
 obtain ⟨_, _, _, _, z5⟩ := putW_word s 4 (by omega) hs
 obtain ⟨_, _, _, _, z6⟩ := putW_word d 4 (by omega) hd
 obtain ⟨_, _, _, _, z7⟩ := putW_word (sumOf (packHead (20 + b.size) i t p ++ packTail s d)) 2 (by omega) hc
 have z1 : (putW (20 + b.size) 2).size = 2 := z1
 have z2 : (putW i 2).size = 2 := z2
 have z3 : (putW t 1).size = 1 := z3
 have z4 : (putW p 1).size = 1 := z4
 have z5 : (putW s 4).size = 4 := z5
 have z6 : (putW d 4).size = 4 := z6
 have z7 : (putW (sumOf (packHead (20 + b.size) i t p ++ packTail s d)) 2).size = 2 := z7
 have a0 : (putW 69 1).size = 1 := by rw [first_byte]; rfl
 have a1 : (⟨#[0]⟩ : ByteArray).size = 1 := rfl
 have a6 : (putW 0 2).size = 2 := by rw [two_zero]; rfl
 have w0 : wordOk 69 (8 * (1 : Nat)) = true := by decide +kernel
 have w6 : wordOk 0 (8 * (2 : Nat)) = true := by decide +kernel
 have hr := packTop_right h
 have hz := packTop_size h
 have et := packText_top h
 obtain ⟨x, hx⟩ : ∃ x, packText s d t p i b ++ q = x := ⟨_, rfl⟩
 have e : x = putW 69 1 ++ (⟨#[0]⟩ ++ (putW (20 + b.size) 2 ++ (putW i 2 ++ (putW 0 2 ++ (putW t 1 ++ (putW p 1 ++ (putW (sumOf (packHead (20 + b.size) i t p ++ packTail s d)) 2 ++ (putW s 4 ++ (putW d 4 ++ (b ++ q)))))))))) := by
  rw [← hx, packText_yes h]
  generalize putW (sumOf (packHead (20 + b.size) i t p ++ packTail s d)) 2 = k
  unfold packHead packTail
  have e69 : (⟨#[69, 0]⟩ : ByteArray) = putW 69 1 ++ ⟨#[0]⟩ := by rw [first_byte]; rfl
  rw [e69, ← two_zero]
  simp only [ByteArray.append_assoc]
 have e20 : x = packTop s d t p i b ++ (b ++ q) := by rw [← hx, et, ByteArray.append_assoc]
 rw [hx]
 generalize putW (sumOf (packHead (20 + b.size) i t p ++ packTail s d)) 2 = k at e z7
 have hsz : x.size = 20 + b.size + q.size := by rw [e20]; simp only [ByteArray.size_append]; omega
 have f0 := gw_back 69 1 0 (by omega) w0 ⟨#[]⟩ (⟨#[0]⟩ ++ (putW (20 + b.size) 2 ++ (putW i 2 ++ (putW 0 2 ++ (putW t 1 ++ (putW p 1 ++ (k ++ (putW s 4 ++ (putW d 4 ++ (b ++ q)))))))))) x (by rw [e]; exact (ByteArray.empty_append).symm) rfl
 have f2 := gw_back (20 + b.size) 2 2 (by omega) hn (putW 69 1 ++ ⟨#[0]⟩) (putW i 2 ++ (putW 0 2 ++ (putW t 1 ++ (putW p 1 ++ (k ++ (putW s 4 ++ (putW d 4 ++ (b ++ q)))))))) x (by rw [e]; simp only [ByteArray.append_assoc]; rfl) (by simp only [ByteArray.size_append]; omega)
 have f4 := gw_back i 2 4 (by omega) hi (putW 69 1 ++ (⟨#[0]⟩ ++ putW (20 + b.size) 2)) (putW 0 2 ++ (putW t 1 ++ (putW p 1 ++ (k ++ (putW s 4 ++ (putW d 4 ++ (b ++ q))))))) x (by rw [e]; simp only [ByteArray.append_assoc]; rfl) (by simp only [ByteArray.size_append]; omega)
 have f6 := gw_back 0 2 6 (by omega) w6 (putW 69 1 ++ (⟨#[0]⟩ ++ (putW (20 + b.size) 2 ++ putW i 2))) (putW t 1 ++ (putW p 1 ++ (k ++ (putW s 4 ++ (putW d 4 ++ (b ++ q)))))) x (by rw [e]; simp only [ByteArray.append_assoc]; rfl) (by simp only [ByteArray.size_append]; omega)
 have f8 := gw_back t 1 8 (by omega) ht8 (putW 69 1 ++ (⟨#[0]⟩ ++ (putW (20 + b.size) 2 ++ (putW i 2 ++ putW 0 2)))) (putW p 1 ++ (k ++ (putW s 4 ++ (putW d 4 ++ (b ++ q))))) x (by rw [e]; simp only [ByteArray.append_assoc]; rfl) (by simp only [ByteArray.size_append]; omega)
 have f9 := gw_back p 1 9 (by omega) hp (putW 69 1 ++ (⟨#[0]⟩ ++ (putW (20 + b.size) 2 ++ (putW i 2 ++ (putW 0 2 ++ putW t 1))))) (k ++ (putW s 4 ++ (putW d 4 ++ (b ++ q)))) x (by rw [e]; simp only [ByteArray.append_assoc]; rfl) (by simp only [ByteArray.size_append]; omega)
 have f12 := gw_back s 4 12 (by omega) hs (putW 69 1 ++ (⟨#[0]⟩ ++ (putW (20 + b.size) 2 ++ (putW i 2 ++ (putW 0 2 ++ (putW t 1 ++ (putW p 1 ++ k))))))) (putW d 4 ++ (b ++ q)) x (by rw [e]; simp only [ByteArray.append_assoc]; rfl) (by simp only [ByteArray.size_append]; omega)
 have f16 := gw_back d 4 16 (by omega) hd (putW 69 1 ++ (⟨#[0]⟩ ++ (putW (20 + b.size) 2 ++ (putW i 2 ++ (putW 0 2 ++ (putW t 1 ++ (putW p 1 ++ (k ++ putW s 4)))))))) ((b ++ q)) x (by rw [e]; simp only [ByteArray.append_assoc]; rfl) (by simp only [ByteArray.size_append]; omega)
 rw [gw1] at f0 f8 f9
 have ex : x.extract 0 20 = packTop s d t p i b := by rw [e20]; exact ByteArray.extract_append_eq_left hz.symm
 have eb : x.extract 20 (gw x 2 2) = b := by
  have e1 := ByteArray.extract_append_size_add (a := packTop s d t p i b) (b := b ++ q) (i := 0) (j := b.size)
  rw [Nat.add_zero, hz] at e1
  rw [show gw x 2 2 = 20 + b.size by omega, e20, e1]
  exact ByteArray.extract_append_eq_left rfl
 have hk : pkWhy x = 0 := by
  unfold pkWhy
  rw [if_neg (by omega), if_neg (by omega), if_neg (by rw [ex, hr]; decide), if_neg (by omega), if_neg (by omega), if_neg (by omega)]
 refine ⟨hk, ?_, ?_, ?_, ?_, ?_, ?_⟩
 ·unfold rkS rkF; rw [if_pos hk]; exact f12
 ·unfold rkD rkF; rw [if_pos hk]; exact f16
 ·unfold rkT rkF; rw [if_pos hk]; exact f8
 ·unfold rkP rkF; rw [if_pos hk]; exact f9
 ·unfold rkI rkF; rw [if_pos hk]; exact f4
 ·unfold rkB; rw [if_pos hk]; exact eb

end Go.Proofs.YtkkimgjcefojdaaGreatDoor
namespace Go.Proofs.YtkkimgjcefojdaaGreatDoor
open Go.RowKit Go.Lib

end Go.Proofs.YtkkimgjcefojdaaGreatDoor
namespace Go.Proofs.YtkkimgjcefojdaaGreatDoor
open Go.RowKit Go.Lib

theorem empty_of {t : ByteArray} (h : t = ⟨#[]⟩) : t.toList.isEmpty = true := by subst h; rw [ByteArray.toList_eq]; rfl
theorem outT_no {m ip : Int} {rs : List ER} {dst : Int} {b : ByteArray} (h : outOk m ip rs dst b = false) : (outT m ip rs dst b).toList.isEmpty = true := by
 unfold outT
 split
 ·rename_i h1
  unfold outOk at h
  simp only [Bool.and_eq_true] at h1
  rw [h1.1, h1.2.1, h1.2.2] at h
  simpa using h
 ·exact empty_of rfl
/-- What is sent to a host comes to it. -/
theorem arr_back {m ip : Int} {rs : List ER} {dst : Int} {b : ByteArray} (h : outOk m ip rs dst b = true) :
  arrOf (hwE rs dst) dst [] (outT m ip rs dst b) = if hwE rs dst = 281474976710655 then none else if ip = dst then none else some ⟨ip, m, 2, ip, dst, 64, 6, 0, b, ⟨#[]⟩⟩ := by
 unfold outOk at h
 simp only [Bool.and_eq_true, Bool.not_eq_true'] at h
 obtain ⟨hl, hh, hp, hf⟩ := h
 have hT : outT m ip rs dst b = frameText (hwE rs dst) m 2048 (packText ip dst 64 6 0 b) := by
  unfold outT
  rw [if_pos (by simp [hl, hh, hp])]
 rw [hT]
 clear hT hl hh
 generalize hwE rs dst = g at hf ⊢
 have hpo : packOk ip dst 64 6 0 b = true := by
  cases hx : packOk ip dst 64 6 0 b with
  | true => rfl
  | false => rw [empty_of (packText_no hx)] at hp; cases hp
 have hfo : frameOk g m 2048 (packText ip dst 64 6 0 b) = true := by
  cases hx : frameOk g m 2048 (packText ip dst 64 6 0 b) with
  | true => rfl
  | false => rw [empty_of (read_none _ _ _ _ hx).1] at hf; cases hf
 obtain ⟨h1, h2, h3, h4, h5⟩ := read_text _ _ _ _ hfo
 have hg : wordOk g 48 = true := by
  simp only [frameOk, Bool.and_eq_true] at hfo
  exact hfo.1.1.1
 have hd := (packOk_all hpo).2.1
 have hr := pk_round hpo ByteArray.empty
 rw [ByteArray.append_empty] at hr
 unfold arrOf
 rw [h1, h2, h3, h4, h5]
 by_cases he : g = 281474976710655
 ·rw [if_pos he, if_neg (by simp [linkOk, he])]
 ·rw [if_neg he, if_pos (by simp [linkOk, hg, he, hd, cacheOk, allOkE]), if_pos rfl, if_pos (by simp [forMe])]
  unfold frmIn
  rw [if_neg (by decide), if_pos rfl]
  obtain ⟨k0, k1, k2, k3, k4, k5, k6⟩ := hr
  unfold pkIn pkMsg
  rw [k0, k1, k2, k3, k4, k5, k6, if_pos rfl, if_pos rfl, if_pos rfl]
end Go.Proofs.YtkkimgjcefojdaaGreatDoor
