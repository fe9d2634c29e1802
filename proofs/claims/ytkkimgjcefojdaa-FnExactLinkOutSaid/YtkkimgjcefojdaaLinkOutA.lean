/- LinkOut, of both sides. Nothing here is a claim. -/
import Derived.Test.YtkkimgjcefojdaaLinkOkA
import Derived.Test.YtkkimgjcefojdaaEntA
import Derived.Test.YtkkimgjcefojdaaPacketTxt
import Derived.Test.YtkkimgjcefojdaaFrameTxt
namespace Go.Proofs.Ytkkimgjcefojdaa
open Go.RowKit Go.Lib

/-- What LinkOut answers. -/
noncomputable def outT (m ip : Int) (rs : List ER) (dst : Int) (b : ByteArray) : ByteArray :=
  if (linkOk m ip rs && (hasE rs dst && !(packText ip dst 64 6 0 b).toList.isEmpty)) = true then frameText (hwE rs dst) m 2048 (packText ip dst 64 6 0 b) else ⟨#[]⟩
noncomputable def outOk (m ip : Int) (rs : List ER) (dst : Int) (b : ByteArray) : Bool :=
  linkOk m ip rs && (hasE rs dst && (!(packText ip dst 64 6 0 b).toList.isEmpty && !(frameText (hwE rs dst) m 2048 (packText ip dst 64 6 0 b)).toList.isEmpty))
def EndOut (t : ByteArray) (b : Bool) (w : World) (e : Ending) (w' : World) : Prop := e = .returned (.tuple #[.string t, .bool b]) ∧ Below w.heap.size w w'

set_option maxRecDepth 100000 in
set_option maxHeartbeats 4000000 in
theorem linkOutI (m ip : Int) (a : Option Addr) (cap : Nat) (rs : List ER) (dst : Int) (b : ByteArray) (w : World) (hrow : Row w w.heap.size a (ers rs)) (hl : rs.length ≤ 1048577) :
    Calls Try.prog 12 #[.agg #[.int .i64 m, .int .i64 ip, .slice a rs.length cap], .int .i64 dst, .string b] w (EndOut (outT m ip rs dst b) (outOk m ip rs dst b) w) := by
  have HR := Lib.hid hrow
  have C1 := Lib.hid (fun w h => hwOfI a cap rs dst w h hl)
  have C2 := Lib.hid (fun w h => linkOkI m ip a cap rs w h hl)
  have C3 := Lib.hid (fun w => packTextI ip dst 64 6 0 b w)
  have C4 := Lib.hid (fun w => frameTextI (hwE rs dst) m 2048 (packText ip dst 64 6 0 b) w)
  clear hrow hl
  unfold HwEnd at C1
  unfold outT outOk
  generalize linkOk m ip rs = x at C2 ⊢
  generalize hasE rs dst = y at C1 ⊢
  generalize frameText (hwE rs dst) m 2048 (packText ip dst 64 6 0 b) = f at C4 ⊢
  generalize hwE rs dst = hw at C1 C4 ⊢
  generalize packText ip dst 64 6 0 b = p at C3 C4 ⊢
  cases x with
  | false =>
    simp only [Bool.false_and, Bool.false_eq_true, if_false]
    go_enter Try.func12, Try.ntmps12
    have B0 := Lib.hid (show Below w.heap.size w (w.alloc (.cells #[.int .i64 m, .int .i64 ip, .slice a rs.length cap] 29)) from ((Below.refl _ w).alloc (by simp) _))
    have Kl0 := Lib.hid (show Blk (w.alloc (.cells #[.int .i64 m, .int .i64 ip, .slice a rs.length cap] 29)) (w.heap.size) [.int .i64 m, .int .i64 ip, .slice a rs.length cap] from Blk.new w [.int .i64 m, .int .i64 ip, .slice a rs.length cap] 29)
    go_wp2_with fail
    change Calls _ _ _ (w.alloc (.cells #[.int .i64 m, .int .i64 ip, .slice a rs.length cap] 29)) _
    generalize w.alloc (.cells #[.int .i64 m, .int .i64 ip, .slice a rs.length cap] 29) = v0 at B0 Kl0 ⊢
    generalize w.heap.size = g_l at Kl0 ⊢
    refine (C1.out _ ((HR.out.below B0.out).mono B0.out.size)).mono ?_
    rintro e v1 ⟨rfl, hb⟩
    have B1 := Lib.hid (B0.out.trans (hb.mono B0.out.size))
    have Kl1 := Lib.hid (Kl0.out.below hb)
    clear hb B0 Kl0
    obtain ⟨⟨cl0, cl1, cl2⟩, dl0, dl1, dl2⟩ := Kl1.out.o3
    go_wp2_with fail
    clear cl0 cl1 cl2 dl0 dl1 dl2
    refine (C2.out _ ((HR.out.below B1.out).mono B1.out.size)).mono ?_
    rintro e v2 ⟨rfl, hb⟩
    have B2 := Lib.hid (B1.out.trans (hb.mono B1.out.size))
    have Kl2 := Lib.hid (Kl1.out.below hb)
    clear hb B1 Kl1
    obtain ⟨⟨cl0, cl1, cl2⟩, dl0, dl1, dl2⟩ := Kl2.out.o3
    go_wp2_with fail
    exact bodyPost_ret (v := .tuple #[.string ⟨#[]⟩, .bool false]) (by simp [results, Try.results12, go_sem]) rfl ⟨rfl, B2.out⟩
  | true =>
    cases y with
    | false =>
      simp only [Bool.true_and, Bool.false_and, Bool.false_eq_true, if_false]
      go_enter Try.func12, Try.ntmps12
      have B0 := Lib.hid (show Below w.heap.size w (w.alloc (.cells #[.int .i64 m, .int .i64 ip, .slice a rs.length cap] 29)) from ((Below.refl _ w).alloc (by simp) _))
      have Kl0 := Lib.hid (show Blk (w.alloc (.cells #[.int .i64 m, .int .i64 ip, .slice a rs.length cap] 29)) (w.heap.size) [.int .i64 m, .int .i64 ip, .slice a rs.length cap] from Blk.new w [.int .i64 m, .int .i64 ip, .slice a rs.length cap] 29)
      go_wp2_with fail
      change Calls _ _ _ (w.alloc (.cells #[.int .i64 m, .int .i64 ip, .slice a rs.length cap] 29)) _
      generalize w.alloc (.cells #[.int .i64 m, .int .i64 ip, .slice a rs.length cap] 29) = v0 at B0 Kl0 ⊢
      generalize w.heap.size = g_l at Kl0 ⊢
      refine (C1.out _ ((HR.out.below B0.out).mono B0.out.size)).mono ?_
      rintro e v1 ⟨rfl, hb⟩
      have B1 := Lib.hid (B0.out.trans (hb.mono B0.out.size))
      have Kl1 := Lib.hid (Kl0.out.below hb)
      clear hb B0 Kl0
      obtain ⟨⟨cl0, cl1, cl2⟩, dl0, dl1, dl2⟩ := Kl1.out.o3
      go_wp2_with fail
      clear cl0 cl1 cl2 dl0 dl1 dl2
      refine (C2.out _ ((HR.out.below B1.out).mono B1.out.size)).mono ?_
      rintro e v2 ⟨rfl, hb⟩
      have B2 := Lib.hid (B1.out.trans (hb.mono B1.out.size))
      have Kl2 := Lib.hid (Kl1.out.below hb)
      clear hb B1 Kl1
      obtain ⟨⟨cl0, cl1, cl2⟩, dl0, dl1, dl2⟩ := Kl2.out.o3
      go_wp2_with fail
      exact bodyPost_ret (v := .tuple #[.string ⟨#[]⟩, .bool false]) (by simp [results, Try.results12, go_sem]) rfl ⟨rfl, B2.out⟩
    | true =>
      cases hp : p.toList.isEmpty with
      | true =>
        simp only [Bool.true_and, Bool.not_true, Bool.false_and, Bool.false_eq_true, if_false]
        go_enter Try.func12, Try.ntmps12
        have B0 := Lib.hid (show Below w.heap.size w (w.alloc (.cells #[.int .i64 m, .int .i64 ip, .slice a rs.length cap] 29)) from ((Below.refl _ w).alloc (by simp) _))
        have Kl0 := Lib.hid (show Blk (w.alloc (.cells #[.int .i64 m, .int .i64 ip, .slice a rs.length cap] 29)) (w.heap.size) [.int .i64 m, .int .i64 ip, .slice a rs.length cap] from Blk.new w [.int .i64 m, .int .i64 ip, .slice a rs.length cap] 29)
        go_wp2_with fail
        change Calls _ _ _ (w.alloc (.cells #[.int .i64 m, .int .i64 ip, .slice a rs.length cap] 29)) _
        generalize w.alloc (.cells #[.int .i64 m, .int .i64 ip, .slice a rs.length cap] 29) = v0 at B0 Kl0 ⊢
        generalize w.heap.size = g_l at Kl0 ⊢
        refine (C1.out _ ((HR.out.below B0.out).mono B0.out.size)).mono ?_
        rintro e v1 ⟨rfl, hb⟩
        have B1 := Lib.hid (B0.out.trans (hb.mono B0.out.size))
        have Kl1 := Lib.hid (Kl0.out.below hb)
        clear hb B0 Kl0
        obtain ⟨⟨cl0, cl1, cl2⟩, dl0, dl1, dl2⟩ := Kl1.out.o3
        go_wp2_with fail
        clear cl0 cl1 cl2 dl0 dl1 dl2
        refine (C2.out _ ((HR.out.below B1.out).mono B1.out.size)).mono ?_
        rintro e v2 ⟨rfl, hb⟩
        have B2 := Lib.hid (B1.out.trans (hb.mono B1.out.size))
        have Kl2 := Lib.hid (Kl1.out.below hb)
        clear hb B1 Kl1
        obtain ⟨⟨cl0, cl1, cl2⟩, dl0, dl1, dl2⟩ := Kl2.out.o3
        go_wp2_with fail
        clear cl0 cl1 cl2 dl0 dl1 dl2
        refine (C3.out _).mono ?_
        rintro e v3 ⟨rfl, hb⟩
        have B3 := Lib.hid (B2.out.trans (hb.mono B2.out.size))
        have Kl3 := Lib.hid (Kl2.out.below hb)
        clear hb B2 Kl2
        obtain ⟨⟨cl0, cl1, cl2⟩, dl0, dl1, dl2⟩ := Kl3.out.o3
        go_wp2_with fail
        exact bodyPost_ret (v := .tuple #[.string ⟨#[]⟩, .bool false]) (by simp [results, Try.results12, go_sem]) rfl ⟨rfl, B3.out⟩
      | false =>
        simp only [Bool.true_and, Bool.not_false, if_true]
        cases hf : f.toList.isEmpty with
        | true =>
          go_enter Try.func12, Try.ntmps12
          have B0 := Lib.hid (show Below w.heap.size w (w.alloc (.cells #[.int .i64 m, .int .i64 ip, .slice a rs.length cap] 29)) from ((Below.refl _ w).alloc (by simp) _))
          have Kl0 := Lib.hid (show Blk (w.alloc (.cells #[.int .i64 m, .int .i64 ip, .slice a rs.length cap] 29)) (w.heap.size) [.int .i64 m, .int .i64 ip, .slice a rs.length cap] from Blk.new w [.int .i64 m, .int .i64 ip, .slice a rs.length cap] 29)
          go_wp2_with fail
          change Calls _ _ _ (w.alloc (.cells #[.int .i64 m, .int .i64 ip, .slice a rs.length cap] 29)) _
          generalize w.alloc (.cells #[.int .i64 m, .int .i64 ip, .slice a rs.length cap] 29) = v0 at B0 Kl0 ⊢
          generalize w.heap.size = g_l at Kl0 ⊢
          refine (C1.out _ ((HR.out.below B0.out).mono B0.out.size)).mono ?_
          rintro e v1 ⟨rfl, hb⟩
          have B1 := Lib.hid (B0.out.trans (hb.mono B0.out.size))
          have Kl1 := Lib.hid (Kl0.out.below hb)
          clear hb B0 Kl0
          obtain ⟨⟨cl0, cl1, cl2⟩, dl0, dl1, dl2⟩ := Kl1.out.o3
          go_wp2_with fail
          clear cl0 cl1 cl2 dl0 dl1 dl2
          refine (C2.out _ ((HR.out.below B1.out).mono B1.out.size)).mono ?_
          rintro e v2 ⟨rfl, hb⟩
          have B2 := Lib.hid (B1.out.trans (hb.mono B1.out.size))
          have Kl2 := Lib.hid (Kl1.out.below hb)
          clear hb B1 Kl1
          obtain ⟨⟨cl0, cl1, cl2⟩, dl0, dl1, dl2⟩ := Kl2.out.o3
          go_wp2_with fail
          clear cl0 cl1 cl2 dl0 dl1 dl2
          refine (C3.out _).mono ?_
          rintro e v3 ⟨rfl, hb⟩
          have B3 := Lib.hid (B2.out.trans (hb.mono B2.out.size))
          have Kl3 := Lib.hid (Kl2.out.below hb)
          clear hb B2 Kl2
          obtain ⟨⟨cl0, cl1, cl2⟩, dl0, dl1, dl2⟩ := Kl3.out.o3
          go_wp2_with fail
          clear cl0 cl1 cl2 dl0 dl1 dl2
          refine (C4.out _).mono ?_
          rintro e v4 ⟨rfl, hb⟩
          have B4 := Lib.hid (B3.out.trans (hb.mono B3.out.size))
          have Kl4 := Lib.hid (Kl3.out.below hb)
          clear hb B3 Kl3
          obtain ⟨⟨cl0, cl1, cl2⟩, dl0, dl1, dl2⟩ := Kl4.out.o3
          go_wp2_with fail
          exact bodyPost_ret (v := .tuple #[.string f, .bool false]) (by simp [results, Try.results12, go_sem]) rfl ⟨rfl, B4.out⟩
        | false =>
          go_enter Try.func12, Try.ntmps12
          have B0 := Lib.hid (show Below w.heap.size w (w.alloc (.cells #[.int .i64 m, .int .i64 ip, .slice a rs.length cap] 29)) from ((Below.refl _ w).alloc (by simp) _))
          have Kl0 := Lib.hid (show Blk (w.alloc (.cells #[.int .i64 m, .int .i64 ip, .slice a rs.length cap] 29)) (w.heap.size) [.int .i64 m, .int .i64 ip, .slice a rs.length cap] from Blk.new w [.int .i64 m, .int .i64 ip, .slice a rs.length cap] 29)
          go_wp2_with fail
          change Calls _ _ _ (w.alloc (.cells #[.int .i64 m, .int .i64 ip, .slice a rs.length cap] 29)) _
          generalize w.alloc (.cells #[.int .i64 m, .int .i64 ip, .slice a rs.length cap] 29) = v0 at B0 Kl0 ⊢
          generalize w.heap.size = g_l at Kl0 ⊢
          refine (C1.out _ ((HR.out.below B0.out).mono B0.out.size)).mono ?_
          rintro e v1 ⟨rfl, hb⟩
          have B1 := Lib.hid (B0.out.trans (hb.mono B0.out.size))
          have Kl1 := Lib.hid (Kl0.out.below hb)
          clear hb B0 Kl0
          obtain ⟨⟨cl0, cl1, cl2⟩, dl0, dl1, dl2⟩ := Kl1.out.o3
          go_wp2_with fail
          clear cl0 cl1 cl2 dl0 dl1 dl2
          refine (C2.out _ ((HR.out.below B1.out).mono B1.out.size)).mono ?_
          rintro e v2 ⟨rfl, hb⟩
          have B2 := Lib.hid (B1.out.trans (hb.mono B1.out.size))
          have Kl2 := Lib.hid (Kl1.out.below hb)
          clear hb B1 Kl1
          obtain ⟨⟨cl0, cl1, cl2⟩, dl0, dl1, dl2⟩ := Kl2.out.o3
          go_wp2_with fail
          clear cl0 cl1 cl2 dl0 dl1 dl2
          refine (C3.out _).mono ?_
          rintro e v3 ⟨rfl, hb⟩
          have B3 := Lib.hid (B2.out.trans (hb.mono B2.out.size))
          have Kl3 := Lib.hid (Kl2.out.below hb)
          clear hb B2 Kl2
          obtain ⟨⟨cl0, cl1, cl2⟩, dl0, dl1, dl2⟩ := Kl3.out.o3
          go_wp2_with fail
          clear cl0 cl1 cl2 dl0 dl1 dl2
          refine (C4.out _).mono ?_
          rintro e v4 ⟨rfl, hb⟩
          have B4 := Lib.hid (B3.out.trans (hb.mono B3.out.size))
          have Kl4 := Lib.hid (Kl3.out.below hb)
          clear hb B3 Kl3
          obtain ⟨⟨cl0, cl1, cl2⟩, dl0, dl1, dl2⟩ := Kl4.out.o3
          go_wp2_with fail
          exact bodyPost_ret (v := .tuple #[.string f, .bool true]) (by simp [results, Try.results12, go_sem]) rfl ⟨rfl, B4.out⟩

set_option maxRecDepth 100000 in
set_option maxHeartbeats 4000000 in
theorem linkOutS (m ip : Int) (a : Option Addr) (cap : Nat) (rs : List ER) (dst : Int) (b : ByteArray) (w : World) (hrow : Row w w.heap.size a (ers rs)) (hl : rs.length ≤ 1048577) (hcap : rs.length ≤ cap) :
    Calls Try.prog 11 #[.agg #[.int .i64 m, .int .i64 ip, .slice a rs.length cap], .int .i64 dst, .string b] w (EndOut (outT m ip rs dst b) (outOk m ip rs dst b) w) := by
  have HR := Lib.hid hrow
  have C1 := Lib.hid (fun w h => hwOfS a cap rs dst w h hl)
  have C2 := Lib.hid (fun w h => linkOkS m ip a cap rs w h hl hcap)
  have C3 := Lib.hid (fun w => packTextS ip dst 64 6 0 b w)
  have C4 := Lib.hid (fun w => frameTextS (hwE rs dst) m 2048 (packText ip dst 64 6 0 b) w)
  clear hrow hl hcap
  unfold HwEnd at C1
  unfold outT outOk
  generalize linkOk m ip rs = x at C2 ⊢
  generalize hasE rs dst = y at C1 ⊢
  generalize frameText (hwE rs dst) m 2048 (packText ip dst 64 6 0 b) = f at C4 ⊢
  generalize hwE rs dst = hw at C1 C4 ⊢
  generalize packText ip dst 64 6 0 b = p at C3 C4 ⊢
  cases x with
  | false =>
    simp only [Bool.false_and, Bool.false_eq_true, if_false]
    go_enter Try.func11, Try.ntmps11
    have B0 := Lib.hid (show Below w.heap.size w (w.alloc (.cells #[.int .i64 m, .int .i64 ip, .slice a rs.length cap] 29)) from ((Below.refl _ w).alloc (by simp) _))
    have Kl0 := Lib.hid (show Blk (w.alloc (.cells #[.int .i64 m, .int .i64 ip, .slice a rs.length cap] 29)) (w.heap.size) [.int .i64 m, .int .i64 ip, .slice a rs.length cap] from Blk.new w [.int .i64 m, .int .i64 ip, .slice a rs.length cap] 29)
    go_wp2_with fail
    change Calls _ _ _ (w.alloc (.cells #[.int .i64 m, .int .i64 ip, .slice a rs.length cap] 29)) _
    generalize w.alloc (.cells #[.int .i64 m, .int .i64 ip, .slice a rs.length cap] 29) = v0 at B0 Kl0 ⊢
    generalize w.heap.size = g_l at Kl0 ⊢
    refine (C1.out _ ((HR.out.below B0.out).mono B0.out.size)).mono ?_
    rintro e v1 ⟨rfl, hb⟩
    have B1 := Lib.hid (B0.out.trans (hb.mono B0.out.size))
    have Kl1 := Lib.hid (Kl0.out.below hb)
    clear hb B0 Kl0
    obtain ⟨⟨cl0, cl1, cl2⟩, dl0, dl1, dl2⟩ := Kl1.out.o3
    go_wp2_with fail
    clear cl0 cl1 cl2 dl0 dl1 dl2
    refine (C2.out _ ((HR.out.below B1.out).mono B1.out.size)).mono ?_
    rintro e v2 ⟨rfl, hb⟩
    have B2 := Lib.hid (B1.out.trans (hb.mono B1.out.size))
    have Kl2 := Lib.hid (Kl1.out.below hb)
    clear hb B1 Kl1
    obtain ⟨⟨cl0, cl1, cl2⟩, dl0, dl1, dl2⟩ := Kl2.out.o3
    go_wp2_with fail
    exact bodyPost_ret (v := .tuple #[.string ⟨#[]⟩, .bool false]) (by simp [results, Try.results11, go_sem]) rfl ⟨rfl, B2.out⟩
  | true =>
    cases y with
    | false =>
      simp only [Bool.true_and, Bool.false_and, Bool.false_eq_true, if_false]
      go_enter Try.func11, Try.ntmps11
      have B0 := Lib.hid (show Below w.heap.size w (w.alloc (.cells #[.int .i64 m, .int .i64 ip, .slice a rs.length cap] 29)) from ((Below.refl _ w).alloc (by simp) _))
      have Kl0 := Lib.hid (show Blk (w.alloc (.cells #[.int .i64 m, .int .i64 ip, .slice a rs.length cap] 29)) (w.heap.size) [.int .i64 m, .int .i64 ip, .slice a rs.length cap] from Blk.new w [.int .i64 m, .int .i64 ip, .slice a rs.length cap] 29)
      go_wp2_with fail
      change Calls _ _ _ (w.alloc (.cells #[.int .i64 m, .int .i64 ip, .slice a rs.length cap] 29)) _
      generalize w.alloc (.cells #[.int .i64 m, .int .i64 ip, .slice a rs.length cap] 29) = v0 at B0 Kl0 ⊢
      generalize w.heap.size = g_l at Kl0 ⊢
      refine (C1.out _ ((HR.out.below B0.out).mono B0.out.size)).mono ?_
      rintro e v1 ⟨rfl, hb⟩
      have B1 := Lib.hid (B0.out.trans (hb.mono B0.out.size))
      have Kl1 := Lib.hid (Kl0.out.below hb)
      clear hb B0 Kl0
      obtain ⟨⟨cl0, cl1, cl2⟩, dl0, dl1, dl2⟩ := Kl1.out.o3
      go_wp2_with fail
      clear cl0 cl1 cl2 dl0 dl1 dl2
      refine (C2.out _ ((HR.out.below B1.out).mono B1.out.size)).mono ?_
      rintro e v2 ⟨rfl, hb⟩
      have B2 := Lib.hid (B1.out.trans (hb.mono B1.out.size))
      have Kl2 := Lib.hid (Kl1.out.below hb)
      clear hb B1 Kl1
      obtain ⟨⟨cl0, cl1, cl2⟩, dl0, dl1, dl2⟩ := Kl2.out.o3
      go_wp2_with fail
      exact bodyPost_ret (v := .tuple #[.string ⟨#[]⟩, .bool false]) (by simp [results, Try.results11, go_sem]) rfl ⟨rfl, B2.out⟩
    | true =>
      cases hp : p.toList.isEmpty with
      | true =>
        simp only [Bool.true_and, Bool.not_true, Bool.false_and, Bool.false_eq_true, if_false]
        go_enter Try.func11, Try.ntmps11
        have B0 := Lib.hid (show Below w.heap.size w (w.alloc (.cells #[.int .i64 m, .int .i64 ip, .slice a rs.length cap] 29)) from ((Below.refl _ w).alloc (by simp) _))
        have Kl0 := Lib.hid (show Blk (w.alloc (.cells #[.int .i64 m, .int .i64 ip, .slice a rs.length cap] 29)) (w.heap.size) [.int .i64 m, .int .i64 ip, .slice a rs.length cap] from Blk.new w [.int .i64 m, .int .i64 ip, .slice a rs.length cap] 29)
        go_wp2_with fail
        change Calls _ _ _ (w.alloc (.cells #[.int .i64 m, .int .i64 ip, .slice a rs.length cap] 29)) _
        generalize w.alloc (.cells #[.int .i64 m, .int .i64 ip, .slice a rs.length cap] 29) = v0 at B0 Kl0 ⊢
        generalize w.heap.size = g_l at Kl0 ⊢
        refine (C1.out _ ((HR.out.below B0.out).mono B0.out.size)).mono ?_
        rintro e v1 ⟨rfl, hb⟩
        have B1 := Lib.hid (B0.out.trans (hb.mono B0.out.size))
        have Kl1 := Lib.hid (Kl0.out.below hb)
        clear hb B0 Kl0
        obtain ⟨⟨cl0, cl1, cl2⟩, dl0, dl1, dl2⟩ := Kl1.out.o3
        go_wp2_with fail
        clear cl0 cl1 cl2 dl0 dl1 dl2
        refine (C2.out _ ((HR.out.below B1.out).mono B1.out.size)).mono ?_
        rintro e v2 ⟨rfl, hb⟩
        have B2 := Lib.hid (B1.out.trans (hb.mono B1.out.size))
        have Kl2 := Lib.hid (Kl1.out.below hb)
        clear hb B1 Kl1
        obtain ⟨⟨cl0, cl1, cl2⟩, dl0, dl1, dl2⟩ := Kl2.out.o3
        go_wp2_with fail
        clear cl0 cl1 cl2 dl0 dl1 dl2
        refine (C3.out _).mono ?_
        rintro e v3 ⟨rfl, hb⟩
        have B3 := Lib.hid (B2.out.trans (hb.mono B2.out.size))
        have Kl3 := Lib.hid (Kl2.out.below hb)
        clear hb B2 Kl2
        obtain ⟨⟨cl0, cl1, cl2⟩, dl0, dl1, dl2⟩ := Kl3.out.o3
        go_wp2_with fail
        exact bodyPost_ret (v := .tuple #[.string ⟨#[]⟩, .bool false]) (by simp [results, Try.results11, go_sem]) rfl ⟨rfl, B3.out⟩
      | false =>
        simp only [Bool.true_and, Bool.not_false, if_true]
        cases hf : f.toList.isEmpty with
        | true =>
          go_enter Try.func11, Try.ntmps11
          have B0 := Lib.hid (show Below w.heap.size w (w.alloc (.cells #[.int .i64 m, .int .i64 ip, .slice a rs.length cap] 29)) from ((Below.refl _ w).alloc (by simp) _))
          have Kl0 := Lib.hid (show Blk (w.alloc (.cells #[.int .i64 m, .int .i64 ip, .slice a rs.length cap] 29)) (w.heap.size) [.int .i64 m, .int .i64 ip, .slice a rs.length cap] from Blk.new w [.int .i64 m, .int .i64 ip, .slice a rs.length cap] 29)
          go_wp2_with fail
          change Calls _ _ _ (w.alloc (.cells #[.int .i64 m, .int .i64 ip, .slice a rs.length cap] 29)) _
          generalize w.alloc (.cells #[.int .i64 m, .int .i64 ip, .slice a rs.length cap] 29) = v0 at B0 Kl0 ⊢
          generalize w.heap.size = g_l at Kl0 ⊢
          refine (C1.out _ ((HR.out.below B0.out).mono B0.out.size)).mono ?_
          rintro e v1 ⟨rfl, hb⟩
          have B1 := Lib.hid (B0.out.trans (hb.mono B0.out.size))
          have Kl1 := Lib.hid (Kl0.out.below hb)
          clear hb B0 Kl0
          obtain ⟨⟨cl0, cl1, cl2⟩, dl0, dl1, dl2⟩ := Kl1.out.o3
          go_wp2_with fail
          clear cl0 cl1 cl2 dl0 dl1 dl2
          refine (C2.out _ ((HR.out.below B1.out).mono B1.out.size)).mono ?_
          rintro e v2 ⟨rfl, hb⟩
          have B2 := Lib.hid (B1.out.trans (hb.mono B1.out.size))
          have Kl2 := Lib.hid (Kl1.out.below hb)
          clear hb B1 Kl1
          obtain ⟨⟨cl0, cl1, cl2⟩, dl0, dl1, dl2⟩ := Kl2.out.o3
          go_wp2_with fail
          clear cl0 cl1 cl2 dl0 dl1 dl2
          refine (C3.out _).mono ?_
          rintro e v3 ⟨rfl, hb⟩
          have B3 := Lib.hid (B2.out.trans (hb.mono B2.out.size))
          have Kl3 := Lib.hid (Kl2.out.below hb)
          clear hb B2 Kl2
          obtain ⟨⟨cl0, cl1, cl2⟩, dl0, dl1, dl2⟩ := Kl3.out.o3
          go_wp2_with fail
          clear cl0 cl1 cl2 dl0 dl1 dl2
          refine (C4.out _).mono ?_
          rintro e v4 ⟨rfl, hb⟩
          have B4 := Lib.hid (B3.out.trans (hb.mono B3.out.size))
          have Kl4 := Lib.hid (Kl3.out.below hb)
          clear hb B3 Kl3
          obtain ⟨⟨cl0, cl1, cl2⟩, dl0, dl1, dl2⟩ := Kl4.out.o3
          go_wp2_with fail
          exact bodyPost_ret (v := .tuple #[.string f, .bool false]) (by simp [results, Try.results11, go_sem]) rfl ⟨rfl, B4.out⟩
        | false =>
          go_enter Try.func11, Try.ntmps11
          have B0 := Lib.hid (show Below w.heap.size w (w.alloc (.cells #[.int .i64 m, .int .i64 ip, .slice a rs.length cap] 29)) from ((Below.refl _ w).alloc (by simp) _))
          have Kl0 := Lib.hid (show Blk (w.alloc (.cells #[.int .i64 m, .int .i64 ip, .slice a rs.length cap] 29)) (w.heap.size) [.int .i64 m, .int .i64 ip, .slice a rs.length cap] from Blk.new w [.int .i64 m, .int .i64 ip, .slice a rs.length cap] 29)
          go_wp2_with fail
          change Calls _ _ _ (w.alloc (.cells #[.int .i64 m, .int .i64 ip, .slice a rs.length cap] 29)) _
          generalize w.alloc (.cells #[.int .i64 m, .int .i64 ip, .slice a rs.length cap] 29) = v0 at B0 Kl0 ⊢
          generalize w.heap.size = g_l at Kl0 ⊢
          refine (C1.out _ ((HR.out.below B0.out).mono B0.out.size)).mono ?_
          rintro e v1 ⟨rfl, hb⟩
          have B1 := Lib.hid (B0.out.trans (hb.mono B0.out.size))
          have Kl1 := Lib.hid (Kl0.out.below hb)
          clear hb B0 Kl0
          obtain ⟨⟨cl0, cl1, cl2⟩, dl0, dl1, dl2⟩ := Kl1.out.o3
          go_wp2_with fail
          clear cl0 cl1 cl2 dl0 dl1 dl2
          refine (C2.out _ ((HR.out.below B1.out).mono B1.out.size)).mono ?_
          rintro e v2 ⟨rfl, hb⟩
          have B2 := Lib.hid (B1.out.trans (hb.mono B1.out.size))
          have Kl2 := Lib.hid (Kl1.out.below hb)
          clear hb B1 Kl1
          obtain ⟨⟨cl0, cl1, cl2⟩, dl0, dl1, dl2⟩ := Kl2.out.o3
          go_wp2_with fail
          clear cl0 cl1 cl2 dl0 dl1 dl2
          refine (C3.out _).mono ?_
          rintro e v3 ⟨rfl, hb⟩
          have B3 := Lib.hid (B2.out.trans (hb.mono B2.out.size))
          have Kl3 := Lib.hid (Kl2.out.below hb)
          clear hb B2 Kl2
          obtain ⟨⟨cl0, cl1, cl2⟩, dl0, dl1, dl2⟩ := Kl3.out.o3
          go_wp2_with fail
          clear cl0 cl1 cl2 dl0 dl1 dl2
          refine (C4.out _).mono ?_
          rintro e v4 ⟨rfl, hb⟩
          have B4 := Lib.hid (B3.out.trans (hb.mono B3.out.size))
          have Kl4 := Lib.hid (Kl3.out.below hb)
          clear hb B3 Kl3
          obtain ⟨⟨cl0, cl1, cl2⟩, dl0, dl1, dl2⟩ := Kl4.out.o3
          go_wp2_with fail
          exact bodyPost_ret (v := .tuple #[.string f, .bool true]) (by simp [results, Try.results11, go_sem]) rfl ⟨rfl, B4.out⟩
end Go.Proofs.Ytkkimgjcefojdaa
