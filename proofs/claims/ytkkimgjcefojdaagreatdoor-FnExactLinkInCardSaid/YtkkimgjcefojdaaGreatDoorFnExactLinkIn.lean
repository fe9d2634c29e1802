/- Proved here: for every Link and every string of at most 1048576 bytes and entries together as the law counts them (past its own measure the law itself answers true) impl.LinkIn answers as the model's LinkIn, all four results, leaves its argument, and hands back memory of its own; the only conditions are that the library's variable errors.errorType and the program's variable impl.errDropped hold what the program's own text lays (the card ties them). -/
import Derived.Test.YtkkimgjcefojdaaGreatDoorRows
import Derived.Test.YtkkimgjcefojdaaGreatDoorCards
import Derived.Test.YtkkimgjcefojdaaGreatDoorTie
import Derived.Deep.RegionHeld3
import Derived.ProofKit
import Derived.OpenShut
import Derived.ShutString
import Derived.ChangeSame
import Derived.ChangeOld
import Derived.Below
import Derived.LaidHandle
import Derived.LaidLaws
import Derived.Stop.Joined
import Derived.Stop.LaidErr
import Derived.WalkSmall
import Derived.ChangeVars
import Derived.SevenTiedAt
import Derived.Test.YtkkimgjcefojdaaGreatDoorPkLk30
import Derived.Test.YtkkimgjcefojdaaGreatDoorPkLk26
namespace Go.Proofs.YtkkimgjcefojdaaGreatDoor.fnExactLinkIn
open Go.ChangeShapes Go.WideShapes Go.ChangeAt Go.RowKit Go.Lib
open Go.ChangeMaps (open_string shut_string)

/-- The law's word: true, and what lay before the call lies as it lay. -/
def OkB (w : World) (e : Ending) (w' : World) : Prop := e = .returned (.bool true) ∧ Below w.heap.size w w'
theorem linkRs_length (q : Option Arr) (rs : List ER) : (linkRs q rs).length ≤ rs.length + 1 := by
 cases q with
 | none => exact Nat.le_succ _
 | some a => exact learnE_length rs a.ip a.hw
theorem i64_bd {m : Int} (h : (Lit.int .i64 m).wf = true) : -9223372036854775808 ≤ m ∧ m ≤ 9223372036854775807 := by
 have h2 : IntKind.i64.min ≤ m ∧ m ≤ IntKind.i64.max := by simpa [Lit.wf] using h
 have e1 : IntKind.i64.min = -9223372036854775808 := by decide
 have e2 : IntKind.i64.max = 9223372036854775807 := by decide
 omega

set_option maxRecDepth 100000 in
set_option maxHeartbeats 16000000 in
theorem go (m ip : Int) (a : Option Addr) (cap : Nat) (rs : List ER) (t : ByteArray) (x : Addr) (w : World) (hrow : Row w w.heap.size a (ers rs)) (hl : rs.length ≤ maxLen) (hm : -9223372036854775808 ≤ m ∧ m ≤ 9223372036854775807) (hg : ErrTy w) (hx : Sent x w) :
  Calls Tryz.prog 5 #[.agg #[.int .i64 m, .int .i64 ip, .slice a rs.length cap], .string t] w (OkB w) := by
 have HA := Lib.hid hrow
 have HL := Lib.hid hl
 have HG := Lib.hid hg
 have HX := Lib.hid hx
 clear hrow hl hg hx
 by_cases hb0 : (t.size : Int) ≤ 1048576
 case neg =>
  have h1 : (1048576 : Int) < t.size := by omega
  clear hb0
  go_enter Tryz.func5, Tryz.ntmps5
  go_wp2_with fail
  go_ret
  exact ⟨rfl, (Below.refl _ _).alloc (Nat.le_refl _) _⟩
 have h1 : ¬ (1048576 : Int) < t.size := by omega
 have hb1 : t.size ≤ 1048576 := by omega
 clear hb0
 by_cases hs : rs.length ≤ 1048576
 case neg =>
  have hn := Lib.hid hs
  clear hs hb1
  go_enter Tryz.func5, Tryz.ntmps5
  have B0 := Lib.hid (show Below w.heap.size w (w.alloc (.cells #[.int .i64 m, .int .i64 ip, .slice a rs.length cap] 47)) from ((Below.refl _ w).alloc (by simp) _))
  have KA0 := Lib.hid (show Blk (w.alloc (.cells #[.int .i64 m, .int .i64 ip, .slice a rs.length cap] 47)) (w.heap.size) [.int .i64 m, .int .i64 ip, .slice a rs.length cap] from Blk.new w [.int .i64 m, .int .i64 ip, .slice a rs.length cap] 47)
  go_wp2_with fail
  change Calls _ _ _ (w.alloc (.cells #[.int .i64 m, .int .i64 ip, .slice a rs.length cap] 47)) _
  generalize w.alloc (.cells #[.int .i64 m, .int .i64 ip, .slice a rs.length cap] 47) = v0 at B0 KA0 ⊢
  generalize hh_A : w.heap.size = g_A at KA0 ⊢
  have l_A : w.heap.size ≤ g_A := by omega
  clear hh_A
  refine (szLink_any m ip a rs.length cap 1048576 _ HL.out (by omega)).mono ?_
  rintro e v1 ⟨hr, hb⟩
  have B1 := Lib.hid (B0.out.trans (hb.mono B0.out.size))
  have KA1 := Lib.hid (KA0.out.below hb)
  clear hb B0 KA0
  rw [if_neg hn.out] at hr
  subst hr
  obtain ⟨⟨cA0, cA1, cA2⟩, dA0, dA1, dA2⟩ := KA1.out.o3
  go_wp2_with fail
  go_ret
  exact ⟨rfl, B1.out⟩
 have hn := Lib.hid hs
 have CS := Lib.hid (fun g w h => linkInS m ip g 0 rs.length rs t w h (Nat.le_refl _) (Nat.le_succ_of_le hs) hb1)
 have CI := Lib.hid (fun g w h hg hx => linkInI m ip (some ⟨g, 0, none⟩) rs.length rs t x w h (fun e => by cases e) (Nat.le_succ_of_le hs) hb1 hm hg hx)
 have hl3 := linkRs_length (arrOf m ip rs t) rs
 clear hb1 hm
 unfold LinkEndS at CS
 unfold LinkEnd at CI
 generalize arrOf m ip rs t = q at CS CI hl3
 generalize linkRs q rs = L at CS CI hl3
 generalize (q.getD Arr.zero).kind = kd at CS CI
 generalize (q.getD Arr.zero).s = p0 at CS CI
 generalize (q.getD Arr.zero).d = p1 at CS CI
 generalize (q.getD Arr.zero).t = p2 at CS CI
 generalize (q.getD Arr.zero).p = p3 at CS CI
 generalize (q.getD Arr.zero).i = p4 at CS CI
 generalize (q.getD Arr.zero).b = p5 at CS CI
 generalize (q.getD Arr.zero).ans = p6 at CS CI
 have E := Lib.hid (eqPacket_self p0 p1 p2 p3 p4 p5)
 have hl2 := Lib.hid (show L.length ≤ 1048577 by omega)
 clear hs hl3
 by_cases hp : 0 < L.length
 case pos =>
  go_enter Tryz.func5, Tryz.ntmps5
  have B0 := Lib.hid (show Below w.heap.size w (w.alloc (.cells #[.int .i64 m, .int .i64 ip, .slice a rs.length cap] 47)) from ((Below.refl _ w).alloc (by simp) _))
  have KA0 := Lib.hid (show Blk (w.alloc (.cells #[.int .i64 m, .int .i64 ip, .slice a rs.length cap] 47)) (w.heap.size) [.int .i64 m, .int .i64 ip, .slice a rs.length cap] from Blk.new w [.int .i64 m, .int .i64 ip, .slice a rs.length cap] 47)
  go_wp2_with fail
  change Calls _ _ _ (w.alloc (.cells #[.int .i64 m, .int .i64 ip, .slice a rs.length cap] 47)) _
  generalize w.alloc (.cells #[.int .i64 m, .int .i64 ip, .slice a rs.length cap] 47) = v0 at B0 KA0 ⊢
  generalize hh_A : w.heap.size = g_A at KA0 ⊢
  have l_A : w.heap.size ≤ g_A := by omega
  clear hh_A
  refine (szLink_any m ip a rs.length cap 1048576 _ HL.out (by omega)).mono ?_
  rintro e v1 ⟨hr, hb⟩
  have B1 := Lib.hid (B0.out.trans (hb.mono B0.out.size))
  have KA1 := Lib.hid (KA0.out.below hb)
  clear hb B0 KA0
  rw [if_pos hn.out] at hr
  subst hr
  have hs := hn.out
  have hz : ¬ (1048576 : Int) - (rs.length : Int) < 0 := by omega
  obtain ⟨⟨cA0, cA1, cA2⟩, dA0, dA1, dA2⟩ := KA1.out.o3
  go_wp2_with fail
  clear hs hz
  clear cA0 cA1 cA2 dA0 dA1 dA2
  refine (toLink_any m ip a cap rs _ ((HA.out.below B1.out).mono B1.out.size) hn.out).mono ?_
  rintro e v2 ⟨g_t, rfl, ho_t, hb⟩
  have n_A_t : g_A ≠ g_t := by have h1 := KA1.out.lt; have h2 := (ho_t.lt g_t rfl).1; omega
  have l_t : w.heap.size ≤ g_t := Nat.le_trans B1.out.size (ho_t.lt g_t rfl).1
  have B2 := Lib.hid (B1.out.trans (hb.mono B1.out.size))
  have KA2 := Lib.hid (KA1.out.below hb)
  have Ot2 := Lib.hid (own_down ho_t (Nat.zero_le _))
  clear hb B1 KA1 ho_t
  obtain ⟨⟨cA0, cA1, cA2⟩, dA0, dA1, dA2⟩ := KA2.out.o3
  go_wp2_with fail
  clear cA0 cA1 cA2 dA0 dA1 dA2
  refine (CS.out g_t _ (Row.ownK Ot2.out)).mono ?_
  rintro e v3 ⟨g_w, c_w, rfl, ho, hb⟩
  have ho_w := ho
  clear ho
  have n_A_w : g_A ≠ g_w := by have h1 := KA2.out.lt; have h2 := (ho_w.lt g_w rfl).1; omega
  have n_t_w : g_t ≠ g_w := by have h1 := (Ot2.out.lt g_t rfl).2; have h2 := (ho_w.lt g_w rfl).1; omega
  have l_w : w.heap.size ≤ g_w := Nat.le_trans B2.out.size (ho_w.lt g_w rfl).1
  have B3 := Lib.hid (B2.out.trans (hb.mono B2.out.size))
  have KA3 := Lib.hid (KA2.out.below hb)
  have Ot3 := Lib.hid (Ot2.out.kept (below_any (row := none) hb) (.inr (by simp [Value.ownBlock])))
  have Ow3 := Lib.hid (own_down ho_w (Nat.zero_le _))
  clear hb B2 KA2 Ot2 ho_w
  have B4 := Lib.hid ((B3.out.alloc (by have h0 := B3.out.size; simp <;> omega) (.cells #[.int .i64 m, .int .i64 ip, .slice (some ⟨g_w, 0, none⟩) L.length c_w] 26)).alloc (by have h0 := B3.out.size; simp <;> omega) (.cells #[.int .i64 p0, .int .i64 p1, .int .i64 p2, .int .i64 p3, .int .i64 p4, .string p5] 30))
  have lt_A := KA3.out.lt
  have n_A_W : g_A ≠ v3.heap.size := by omega
  have n_A_V : g_A ≠ v3.heap.size + 1 := by omega
  clear lt_A
  have lt_t := (Ot3.out.lt g_t rfl).2
  have n_t_W : g_t ≠ v3.heap.size := by omega
  have n_t_V : g_t ≠ v3.heap.size + 1 := by omega
  clear lt_t
  have lt_w := (Ow3.out.lt g_w rfl).2
  have n_w_W : g_w ≠ v3.heap.size := by omega
  have n_w_V : g_w ≠ v3.heap.size + 1 := by omega
  clear lt_w
  have KA4 := Lib.hid ((KA3.out.alloc (.cells #[.int .i64 m, .int .i64 ip, .slice (some ⟨g_w, 0, none⟩) L.length c_w] 26)).alloc (.cells #[.int .i64 p0, .int .i64 p1, .int .i64 p2, .int .i64 p3, .int .i64 p4, .string p5] 30))
  have Ot4 := Lib.hid ((Ot3.out.alloc (.cells #[.int .i64 m, .int .i64 ip, .slice (some ⟨g_w, 0, none⟩) L.length c_w] 26)).alloc (.cells #[.int .i64 p0, .int .i64 p1, .int .i64 p2, .int .i64 p3, .int .i64 p4, .string p5] 30))
  have Ow4 := Lib.hid ((Ow3.out.alloc (.cells #[.int .i64 m, .int .i64 ip, .slice (some ⟨g_w, 0, none⟩) L.length c_w] 26)).alloc (.cells #[.int .i64 p0, .int .i64 p1, .int .i64 p2, .int .i64 p3, .int .i64 p4, .string p5] 30))
  have KW4 := Lib.hid (show Blk ((v3.alloc (.cells #[.int .i64 m, .int .i64 ip, .slice (some ⟨g_w, 0, none⟩) L.length c_w] 26)).alloc (.cells #[.int .i64 p0, .int .i64 p1, .int .i64 p2, .int .i64 p3, .int .i64 p4, .string p5] 30)) (v3.heap.size) [.int .i64 m, .int .i64 ip, .slice (some ⟨g_w, 0, none⟩) L.length c_w] from ((Blk.new v3 [.int .i64 m, .int .i64 ip, .slice (some ⟨g_w, 0, none⟩) L.length c_w] 26).alloc (.cells #[.int .i64 p0, .int .i64 p1, .int .i64 p2, .int .i64 p3, .int .i64 p4, .string p5] 30)))
  have n_W_V : v3.heap.size ≠ v3.heap.size + 1 := by omega
  have KV4 := Lib.hid (show Blk ((v3.alloc (.cells #[.int .i64 m, .int .i64 ip, .slice (some ⟨g_w, 0, none⟩) L.length c_w] 26)).alloc (.cells #[.int .i64 p0, .int .i64 p1, .int .i64 p2, .int .i64 p3, .int .i64 p4, .string p5] 30)) (v3.heap.size + 1) [.int .i64 p0, .int .i64 p1, .int .i64 p2, .int .i64 p3, .int .i64 p4, .string p5] by have h0 := (Blk.new (v3.alloc (.cells #[.int .i64 m, .int .i64 ip, .slice (some ⟨g_w, 0, none⟩) L.length c_w] 26)) [.int .i64 p0, .int .i64 p1, .int .i64 p2, .int .i64 p3, .int .i64 p4, .string p5] 30); rwa [show (v3.alloc (.cells #[.int .i64 m, .int .i64 ip, .slice (some ⟨g_w, 0, none⟩) L.length c_w] 26)).heap.size = v3.heap.size + 1 by simp] at h0)
  clear B3 KA3 Ot3 Ow3
  obtain ⟨⟨cA0, cA1, cA2⟩, dA0, dA1, dA2⟩ := KA4.out.o3
  obtain ⟨⟨cW0, cW1, cW2⟩, dW0, dW1, dW2⟩ := KW4.out.o3
  obtain ⟨⟨cV0, cV1, cV2, cV3, cV4, cV5⟩, dV0, dV1, dV2, dV3, dV4, dV5⟩ := KV4.out.of6
  go_wp2_with fail
  clear cA0 cA1 cA2 dA0 dA1 dA2 cW0 cW1 cW2 dW0 dW1 dW2 cV0 cV1 cV2 cV3 cV4 cV5 dV0 dV1 dV2 dV3 dV4 dV5
  change Calls _ _ _ ((v3.alloc (.cells #[.int .i64 m, .int .i64 ip, .slice (some ⟨g_w, 0, none⟩) L.length c_w] 26)).alloc (.cells #[.int .i64 p0, .int .i64 p1, .int .i64 p2, .int .i64 p3, .int .i64 p4, .string p5] 30)) _
  generalize (v3.alloc (.cells #[.int .i64 m, .int .i64 ip, .slice (some ⟨g_w, 0, none⟩) L.length c_w] 26)).alloc (.cells #[.int .i64 p0, .int .i64 p1, .int .i64 p2, .int .i64 p3, .int .i64 p4, .string p5] 30) = v4 at B4 KA4 Ot4 Ow4 KW4 KV4 ⊢
  generalize v3.heap.size + 1 = g_V at KV4 n_A_V n_t_V n_w_V n_W_V ⊢
  generalize v3.heap.size = g_W at KW4 n_A_W n_t_W n_w_W n_W_V ⊢
  refine (toLink_any m ip a cap rs _ ((HA.out.below B4.out).mono B4.out.size) hn.out).mono ?_
  rintro e v5 ⟨g_x, rfl, ho_x, hb⟩
  have n_A_x : g_A ≠ g_x := by have h1 := KA4.out.lt; have h2 := (ho_x.lt g_x rfl).1; omega
  have n_W_x : g_W ≠ g_x := by have h1 := KW4.out.lt; have h2 := (ho_x.lt g_x rfl).1; omega
  have n_V_x : g_V ≠ g_x := by have h1 := KV4.out.lt; have h2 := (ho_x.lt g_x rfl).1; omega
  have n_t_x : g_t ≠ g_x := by have h1 := (Ot4.out.lt g_t rfl).2; have h2 := (ho_x.lt g_x rfl).1; omega
  have n_w_x : g_w ≠ g_x := by have h1 := (Ow4.out.lt g_w rfl).2; have h2 := (ho_x.lt g_x rfl).1; omega
  have l_x : w.heap.size ≤ g_x := Nat.le_trans B4.out.size (ho_x.lt g_x rfl).1
  have B5 := Lib.hid (B4.out.trans (hb.mono B4.out.size))
  have KA5 := Lib.hid (KA4.out.below hb)
  have KW5 := Lib.hid (KW4.out.below hb)
  have KV5 := Lib.hid (KV4.out.below hb)
  have Ot5 := Lib.hid (Ot4.out.kept (below_any (row := none) hb) (.inr (by simp [Value.ownBlock])))
  have Ow5 := Lib.hid (Ow4.out.kept (below_any (row := none) hb) (.inr (by simp [Value.ownBlock])))
  have Ox5 := Lib.hid (own_down ho_x (Nat.zero_le _))
  clear hb B4 KA4 KW4 KV4 Ot4 Ow4 ho_x
  have KXn := Lib.hid (Blk.new v5 [.int .i64 m, .int .i64 ip, .slice (some ⟨g_x, 0, none⟩) rs.length rs.length] 26)
  have l_X : w.heap.size ≤ v5.heap.size := B5.out.size
  have n_A_X : g_A ≠ v5.heap.size := by have h1 := KA5.out.lt; omega
  have n_W_X : g_W ≠ v5.heap.size := by have h1 := KW5.out.lt; omega
  have n_V_X : g_V ≠ v5.heap.size := by have h1 := KV5.out.lt; omega
  have n_t_X : g_t ≠ v5.heap.size := by have h1 := (Ot5.out.lt g_t rfl).2; omega
  have n_w_X : g_w ≠ v5.heap.size := by have h1 := (Ow5.out.lt g_w rfl).2; omega
  have n_x_X : g_x ≠ v5.heap.size := by have h1 := (Ox5.out.lt g_x rfl).2; omega
  have Bn := Lib.hid (B5.out.alloc B5.out.size (.cells #[.int .i64 m, .int .i64 ip, .slice (some ⟨g_x, 0, none⟩) rs.length rs.length] 26))
  have KAn := Lib.hid (KA5.out.alloc (.cells #[.int .i64 m, .int .i64 ip, .slice (some ⟨g_x, 0, none⟩) rs.length rs.length] 26))
  have KWn := Lib.hid (KW5.out.alloc (.cells #[.int .i64 m, .int .i64 ip, .slice (some ⟨g_x, 0, none⟩) rs.length rs.length] 26))
  have KVn := Lib.hid (KV5.out.alloc (.cells #[.int .i64 m, .int .i64 ip, .slice (some ⟨g_x, 0, none⟩) rs.length rs.length] 26))
  have Otn := Lib.hid (Ot5.out.alloc (.cells #[.int .i64 m, .int .i64 ip, .slice (some ⟨g_x, 0, none⟩) rs.length rs.length] 26))
  have Own := Lib.hid (Ow5.out.alloc (.cells #[.int .i64 m, .int .i64 ip, .slice (some ⟨g_x, 0, none⟩) rs.length rs.length] 26))
  have Oxn := Lib.hid (Ox5.out.alloc (.cells #[.int .i64 m, .int .i64 ip, .slice (some ⟨g_x, 0, none⟩) rs.length rs.length] 26))
  clear B5 KA5 KW5 KV5 Ot5 Ow5 Ox5
  obtain ⟨⟨cA0, cA1, cA2⟩, dA0, dA1, dA2⟩ := KAn.out.o3
  obtain ⟨⟨cW0, cW1, cW2⟩, dW0, dW1, dW2⟩ := KWn.out.o3
  obtain ⟨⟨cV0, cV1, cV2, cV3, cV4, cV5⟩, dV0, dV1, dV2, dV3, dV4, dV5⟩ := KVn.out.of6
  go_wp2_with fail
  clear cA0 cA1 cA2 dA0 dA1 dA2 cW0 cW1 cW2 dW0 dW1 dW2 cV0 cV1 cV2 cV3 cV4 cV5 dV0 dV1 dV2 dV3 dV4 dV5
  change Calls _ _ _ (v5.alloc (.cells #[.int .i64 m, .int .i64 ip, .slice (some ⟨g_x, 0, none⟩) rs.length rs.length] 26)) _
  generalize v5.alloc (.cells #[.int .i64 m, .int .i64 ip, .slice (some ⟨g_x, 0, none⟩) rs.length rs.length] 26) = v6 at KXn Bn KAn KWn KVn Otn Own Oxn ⊢
  generalize v5.heap.size = g_X at KXn l_X n_A_X n_W_X n_V_X n_t_X n_w_X n_x_X ⊢
  clear v5
  have KA6 := KAn
  clear KAn
  have KW6 := KWn
  clear KWn
  have KV6 := KVn
  clear KVn
  have KX6 := KXn
  clear KXn
  have Ot6 := Otn
  clear Otn
  have Ow6 := Own
  clear Own
  have Ox6 := Oxn
  clear Oxn
  have B6 := Bn
  clear Bn
  refine (CI.out g_x _ (Row.ownK Ox6.out) (HG.out.below B6.out HG.out.lt) (HX.out.below B6.out HX.out.lt)).mono ?_
  rintro e v7 ⟨a_g, c_g, rfl, ho, hb⟩
  obtain ⟨g_g, rfl⟩ := own_some ho hp
  have ho_g := ho
  clear ho
  have n_A_g : g_A ≠ g_g := by have h1 := KA6.out.lt; have h2 := (ho_g.lt g_g rfl).1; omega
  have n_W_g : g_W ≠ g_g := by have h1 := KW6.out.lt; have h2 := (ho_g.lt g_g rfl).1; omega
  have n_V_g : g_V ≠ g_g := by have h1 := KV6.out.lt; have h2 := (ho_g.lt g_g rfl).1; omega
  have n_X_g : g_X ≠ g_g := by have h1 := KX6.out.lt; have h2 := (ho_g.lt g_g rfl).1; omega
  have n_t_g : g_t ≠ g_g := by have h1 := (Ot6.out.lt g_t rfl).2; have h2 := (ho_g.lt g_g rfl).1; omega
  have n_w_g : g_w ≠ g_g := by have h1 := (Ow6.out.lt g_w rfl).2; have h2 := (ho_g.lt g_g rfl).1; omega
  have n_x_g : g_x ≠ g_g := by have h1 := (Ox6.out.lt g_x rfl).2; have h2 := (ho_g.lt g_g rfl).1; omega
  have l_g : w.heap.size ≤ g_g := Nat.le_trans B6.out.size (ho_g.lt g_g rfl).1
  have B7 := Lib.hid (B6.out.trans (hb.mono B6.out.size))
  have KA7 := Lib.hid (KA6.out.below hb)
  have KW7 := Lib.hid (KW6.out.below hb)
  have KV7 := Lib.hid (KV6.out.below hb)
  have KX7 := Lib.hid (KX6.out.below hb)
  have Ot7 := Lib.hid (Ot6.out.kept (below_any (row := none) hb) (.inr (by simp [Value.ownBlock])))
  have Ow7 := Lib.hid (Ow6.out.kept (below_any (row := none) hb) (.inr (by simp [Value.ownBlock])))
  have Ox7 := Lib.hid (Ox6.out.kept (below_any (row := none) hb) (.inr (by simp [Value.ownBlock])))
  have Og7 := Lib.hid (own_down ho_g (Nat.zero_le _))
  clear hb B6 KA6 KW6 KV6 KX6 Ot6 Ow6 Ox6 ho_g
  have B8 := Lib.hid ((B7.out.alloc (by have h0 := B7.out.size; simp <;> omega) (.cells #[.int .i64 m, .int .i64 ip, .slice (some ⟨g_g, 0, none⟩) L.length c_g] 26)).alloc (by have h0 := B7.out.size; simp <;> omega) (.cells #[.int .i64 p0, .int .i64 p1, .int .i64 p2, .int .i64 p3, .int .i64 p4, .string p5] 30))
  have lt_A := KA7.out.lt
  have n_A_G : g_A ≠ v7.heap.size := by omega
  have n_A_H : g_A ≠ v7.heap.size + 1 := by omega
  clear lt_A
  have lt_W := KW7.out.lt
  have n_W_G : g_W ≠ v7.heap.size := by omega
  have n_W_H : g_W ≠ v7.heap.size + 1 := by omega
  clear lt_W
  have lt_V := KV7.out.lt
  have n_V_G : g_V ≠ v7.heap.size := by omega
  have n_V_H : g_V ≠ v7.heap.size + 1 := by omega
  clear lt_V
  have lt_X := KX7.out.lt
  have n_X_G : g_X ≠ v7.heap.size := by omega
  have n_X_H : g_X ≠ v7.heap.size + 1 := by omega
  clear lt_X
  have lt_t := (Ot7.out.lt g_t rfl).2
  have n_t_G : g_t ≠ v7.heap.size := by omega
  have n_t_H : g_t ≠ v7.heap.size + 1 := by omega
  clear lt_t
  have lt_w := (Ow7.out.lt g_w rfl).2
  have n_w_G : g_w ≠ v7.heap.size := by omega
  have n_w_H : g_w ≠ v7.heap.size + 1 := by omega
  clear lt_w
  have lt_x := (Ox7.out.lt g_x rfl).2
  have n_x_G : g_x ≠ v7.heap.size := by omega
  have n_x_H : g_x ≠ v7.heap.size + 1 := by omega
  clear lt_x
  have lt_g := (Og7.out.lt g_g rfl).2
  have n_g_G : g_g ≠ v7.heap.size := by omega
  have n_g_H : g_g ≠ v7.heap.size + 1 := by omega
  clear lt_g
  have KA8 := Lib.hid ((KA7.out.alloc (.cells #[.int .i64 m, .int .i64 ip, .slice (some ⟨g_g, 0, none⟩) L.length c_g] 26)).alloc (.cells #[.int .i64 p0, .int .i64 p1, .int .i64 p2, .int .i64 p3, .int .i64 p4, .string p5] 30))
  have KW8 := Lib.hid ((KW7.out.alloc (.cells #[.int .i64 m, .int .i64 ip, .slice (some ⟨g_g, 0, none⟩) L.length c_g] 26)).alloc (.cells #[.int .i64 p0, .int .i64 p1, .int .i64 p2, .int .i64 p3, .int .i64 p4, .string p5] 30))
  have KV8 := Lib.hid ((KV7.out.alloc (.cells #[.int .i64 m, .int .i64 ip, .slice (some ⟨g_g, 0, none⟩) L.length c_g] 26)).alloc (.cells #[.int .i64 p0, .int .i64 p1, .int .i64 p2, .int .i64 p3, .int .i64 p4, .string p5] 30))
  have KX8 := Lib.hid ((KX7.out.alloc (.cells #[.int .i64 m, .int .i64 ip, .slice (some ⟨g_g, 0, none⟩) L.length c_g] 26)).alloc (.cells #[.int .i64 p0, .int .i64 p1, .int .i64 p2, .int .i64 p3, .int .i64 p4, .string p5] 30))
  have Ot8 := Lib.hid ((Ot7.out.alloc (.cells #[.int .i64 m, .int .i64 ip, .slice (some ⟨g_g, 0, none⟩) L.length c_g] 26)).alloc (.cells #[.int .i64 p0, .int .i64 p1, .int .i64 p2, .int .i64 p3, .int .i64 p4, .string p5] 30))
  have Ow8 := Lib.hid ((Ow7.out.alloc (.cells #[.int .i64 m, .int .i64 ip, .slice (some ⟨g_g, 0, none⟩) L.length c_g] 26)).alloc (.cells #[.int .i64 p0, .int .i64 p1, .int .i64 p2, .int .i64 p3, .int .i64 p4, .string p5] 30))
  have Ox8 := Lib.hid ((Ox7.out.alloc (.cells #[.int .i64 m, .int .i64 ip, .slice (some ⟨g_g, 0, none⟩) L.length c_g] 26)).alloc (.cells #[.int .i64 p0, .int .i64 p1, .int .i64 p2, .int .i64 p3, .int .i64 p4, .string p5] 30))
  have Og8 := Lib.hid ((Og7.out.alloc (.cells #[.int .i64 m, .int .i64 ip, .slice (some ⟨g_g, 0, none⟩) L.length c_g] 26)).alloc (.cells #[.int .i64 p0, .int .i64 p1, .int .i64 p2, .int .i64 p3, .int .i64 p4, .string p5] 30))
  have KG8 := Lib.hid (show Blk ((v7.alloc (.cells #[.int .i64 m, .int .i64 ip, .slice (some ⟨g_g, 0, none⟩) L.length c_g] 26)).alloc (.cells #[.int .i64 p0, .int .i64 p1, .int .i64 p2, .int .i64 p3, .int .i64 p4, .string p5] 30)) (v7.heap.size) [.int .i64 m, .int .i64 ip, .slice (some ⟨g_g, 0, none⟩) L.length c_g] from ((Blk.new v7 [.int .i64 m, .int .i64 ip, .slice (some ⟨g_g, 0, none⟩) L.length c_g] 26).alloc (.cells #[.int .i64 p0, .int .i64 p1, .int .i64 p2, .int .i64 p3, .int .i64 p4, .string p5] 30)))
  have n_G_H : v7.heap.size ≠ v7.heap.size + 1 := by omega
  have KH8 := Lib.hid (show Blk ((v7.alloc (.cells #[.int .i64 m, .int .i64 ip, .slice (some ⟨g_g, 0, none⟩) L.length c_g] 26)).alloc (.cells #[.int .i64 p0, .int .i64 p1, .int .i64 p2, .int .i64 p3, .int .i64 p4, .string p5] 30)) (v7.heap.size + 1) [.int .i64 p0, .int .i64 p1, .int .i64 p2, .int .i64 p3, .int .i64 p4, .string p5] by have h0 := (Blk.new (v7.alloc (.cells #[.int .i64 m, .int .i64 ip, .slice (some ⟨g_g, 0, none⟩) L.length c_g] 26)) [.int .i64 p0, .int .i64 p1, .int .i64 p2, .int .i64 p3, .int .i64 p4, .string p5] 30); rwa [show (v7.alloc (.cells #[.int .i64 m, .int .i64 ip, .slice (some ⟨g_g, 0, none⟩) L.length c_g] 26)).heap.size = v7.heap.size + 1 by simp] at h0)
  clear B7 KA7 KW7 KV7 KX7 Ot7 Ow7 Ox7 Og7
  obtain ⟨⟨cA0, cA1, cA2⟩, dA0, dA1, dA2⟩ := KA8.out.o3
  obtain ⟨⟨cW0, cW1, cW2⟩, dW0, dW1, dW2⟩ := KW8.out.o3
  obtain ⟨⟨cV0, cV1, cV2, cV3, cV4, cV5⟩, dV0, dV1, dV2, dV3, dV4, dV5⟩ := KV8.out.of6
  obtain ⟨⟨cX0, cX1, cX2⟩, dX0, dX1, dX2⟩ := KX8.out.o3
  obtain ⟨⟨cG0, cG1, cG2⟩, dG0, dG1, dG2⟩ := KG8.out.o3
  obtain ⟨⟨cH0, cH1, cH2, cH3, cH4, cH5⟩, dH0, dH1, dH2, dH3, dH4, dH5⟩ := KH8.out.of6
  go_wp2_with fail
  clear cA0 cA1 cA2 dA0 dA1 dA2 cW0 cW1 cW2 dW0 dW1 dW2 cV0 cV1 cV2 cV3 cV4 cV5 dV0 dV1 dV2 dV3 dV4 dV5 cX0 cX1 cX2 dX0 dX1 dX2 cG0 cG1 cG2 dG0 dG1 dG2 cH0 cH1 cH2 cH3 cH4 cH5 dH0 dH1 dH2 dH3 dH4 dH5
  change Calls _ _ _ ((v7.alloc (.cells #[.int .i64 m, .int .i64 ip, .slice (some ⟨g_g, 0, none⟩) L.length c_g] 26)).alloc (.cells #[.int .i64 p0, .int .i64 p1, .int .i64 p2, .int .i64 p3, .int .i64 p4, .string p5] 30)) _
  generalize (v7.alloc (.cells #[.int .i64 m, .int .i64 ip, .slice (some ⟨g_g, 0, none⟩) L.length c_g] 26)).alloc (.cells #[.int .i64 p0, .int .i64 p1, .int .i64 p2, .int .i64 p3, .int .i64 p4, .string p5] 30) = v8 at B8 KA8 KW8 KV8 KX8 Ot8 Ow8 Ox8 Og8 KG8 KH8 ⊢
  generalize v7.heap.size + 1 = g_H at KH8 n_A_H n_W_H n_V_H n_X_H n_t_H n_w_H n_x_H n_g_H n_G_H ⊢
  generalize v7.heap.size = g_G at KG8 n_A_G n_W_G n_V_G n_X_G n_t_G n_w_G n_x_G n_g_G n_G_H ⊢
  refine (eqLink_self m ip (some ⟨g_g, 0, none⟩) (some ⟨g_w, 0, none⟩) L.length c_g c_w L _ rfl (Row.ownK Og8.out) (Row.ownK Ow8.out) hl2.out).mono ?_
  rintro e v9 ⟨rfl, hb⟩
  have B9 := Lib.hid (B8.out.trans (hb.mono B8.out.size))
  have KA9 := Lib.hid (KA8.out.below hb)
  have KW9 := Lib.hid (KW8.out.below hb)
  have KV9 := Lib.hid (KV8.out.below hb)
  have KX9 := Lib.hid (KX8.out.below hb)
  have KG9 := Lib.hid (KG8.out.below hb)
  have KH9 := Lib.hid (KH8.out.below hb)
  have Ot9 := Lib.hid (Ot8.out.kept (below_any (row := none) hb) (.inr (by simp [Value.ownBlock])))
  have Ow9 := Lib.hid (Ow8.out.kept (below_any (row := none) hb) (.inr (by simp [Value.ownBlock])))
  have Ox9 := Lib.hid (Ox8.out.kept (below_any (row := none) hb) (.inr (by simp [Value.ownBlock])))
  have Og9 := Lib.hid (Og8.out.kept (below_any (row := none) hb) (.inr (by simp [Value.ownBlock])))
  clear hb B8 KA8 KW8 KV8 KX8 KG8 KH8 Ot8 Ow8 Ox8 Og8
  obtain ⟨⟨cA0, cA1, cA2⟩, dA0, dA1, dA2⟩ := KA9.out.o3
  obtain ⟨⟨cW0, cW1, cW2⟩, dW0, dW1, dW2⟩ := KW9.out.o3
  obtain ⟨⟨cV0, cV1, cV2, cV3, cV4, cV5⟩, dV0, dV1, dV2, dV3, dV4, dV5⟩ := KV9.out.of6
  obtain ⟨⟨cX0, cX1, cX2⟩, dX0, dX1, dX2⟩ := KX9.out.o3
  obtain ⟨⟨cG0, cG1, cG2⟩, dG0, dG1, dG2⟩ := KG9.out.o3
  obtain ⟨⟨cH0, cH1, cH2, cH3, cH4, cH5⟩, dH0, dH1, dH2, dH3, dH4, dH5⟩ := KH9.out.of6
  go_wp2_with fail
  clear cA0 cA1 cA2 dA0 dA1 dA2 cW0 cW1 cW2 dW0 dW1 dW2 cV0 cV1 cV2 cV3 cV4 cV5 dV0 dV1 dV2 dV3 dV4 dV5 cX0 cX1 cX2 dX0 dX1 dX2 cG0 cG1 cG2 dG0 dG1 dG2 cH0 cH1 cH2 cH3 cH4 cH5 dH0 dH1 dH2 dH3 dH4 dH5
  refine (E.out _).mono ?_
  rintro e v10 ⟨rfl, hb⟩
  have B10 := Lib.hid (B9.out.trans (hb.mono B9.out.size))
  have KA10 := Lib.hid (KA9.out.below hb)
  have KW10 := Lib.hid (KW9.out.below hb)
  have KV10 := Lib.hid (KV9.out.below hb)
  have KX10 := Lib.hid (KX9.out.below hb)
  have KG10 := Lib.hid (KG9.out.below hb)
  have KH10 := Lib.hid (KH9.out.below hb)
  have Ot10 := Lib.hid (Ot9.out.kept (below_any (row := none) hb) (.inr (by simp [Value.ownBlock])))
  have Ow10 := Lib.hid (Ow9.out.kept (below_any (row := none) hb) (.inr (by simp [Value.ownBlock])))
  have Ox10 := Lib.hid (Ox9.out.kept (below_any (row := none) hb) (.inr (by simp [Value.ownBlock])))
  have Og10 := Lib.hid (Og9.out.kept (below_any (row := none) hb) (.inr (by simp [Value.ownBlock])))
  clear hb B9 KA9 KW9 KV9 KX9 KG9 KH9 Ot9 Ow9 Ox9 Og9
  obtain ⟨⟨cA0, cA1, cA2⟩, dA0, dA1, dA2⟩ := KA10.out.o3
  obtain ⟨⟨cW0, cW1, cW2⟩, dW0, dW1, dW2⟩ := KW10.out.o3
  obtain ⟨⟨cV0, cV1, cV2, cV3, cV4, cV5⟩, dV0, dV1, dV2, dV3, dV4, dV5⟩ := KV10.out.of6
  obtain ⟨⟨cX0, cX1, cX2⟩, dX0, dX1, dX2⟩ := KX10.out.o3
  obtain ⟨⟨cG0, cG1, cG2⟩, dG0, dG1, dG2⟩ := KG10.out.o3
  obtain ⟨⟨cH0, cH1, cH2, cH3, cH4, cH5⟩, dH0, dH1, dH2, dH3, dH4, dH5⟩ := KH10.out.of6
  go_wp2_with fail
  clear cA0 cA1 cA2 dA0 dA1 dA2 cW0 cW1 cW2 dW0 dW1 dW2 cV0 cV1 cV2 cV3 cV4 cV5 dV0 dV1 dV2 dV3 dV4 dV5 cX0 cX1 cX2 dX0 dX1 dX2 cG0 cG1 cG2 dG0 dG1 dG2 cH0 cH1 cH2 cH3 cH4 cH5 dH0 dH1 dH2 dH3 dH4 dH5
  obtain ⟨⟨cA0, cA1, cA2⟩, dA0, dA1, dA2⟩ := KA10.out.o3
  obtain ⟨⟨cX0, cX1, cX2⟩, dX0, dX1, dX2⟩ := KX10.out.o3
  have P10_0 : True := trivial
  have P10_1 : True := trivial
  go_region_held3 (fun w' => (w'.cell? ⟨g_X, 0, none⟩ = some (.int .i64 m) ∧ w'.cell? ⟨g_X, 1, none⟩ = some (.int .i64 ip) ∧ w'.cell? ⟨g_X, 2, none⟩ = some (.slice (some ⟨g_x, 0, none⟩) rs.length rs.length)) ∧ (w'.cell? ⟨g_A, 0, none⟩ = some (.int .i64 m) ∧ w'.cell? ⟨g_A, 1, none⟩ = some (.int .i64 ip) ∧ w'.cell? ⟨g_A, 2, none⟩ = some (.slice a rs.length cap)))
   (first | go_keep | (exact ⟨KX11.out.o3.1, KA11.out.o3.1⟩) | (exact ⟨KX12.out.o3.1, KA12.out.o3.1⟩))
   (first | (have q := P10_0; go_at_call 21; clear q P10_0; refine (toLink_any m ip a cap rs _ ((HA.out.below B10.out.drew).mono B10.out.drew.size) hn.out).mono ?_; rintro e v11 ⟨g_z, rfl, ho_z, hb⟩; replace hb := (Below.refl _ v10).drew.trans hb; replace ho_z := own_down ho_z (show v10.heap.size ≤ v10.drew.heap.size from Nat.le_refl _); have n_A_z : g_A ≠ g_z := (by have h1 := KA10.out.lt; have h2 := (ho_z.lt g_z rfl).1; omega); have n_W_z : g_W ≠ g_z := (by have h1 := KW10.out.lt; have h2 := (ho_z.lt g_z rfl).1; omega); have n_V_z : g_V ≠ g_z := (by have h1 := KV10.out.lt; have h2 := (ho_z.lt g_z rfl).1; omega); have n_X_z : g_X ≠ g_z := (by have h1 := KX10.out.lt; have h2 := (ho_z.lt g_z rfl).1; omega); have n_G_z : g_G ≠ g_z := (by have h1 := KG10.out.lt; have h2 := (ho_z.lt g_z rfl).1; omega); have n_H_z : g_H ≠ g_z := (by have h1 := KH10.out.lt; have h2 := (ho_z.lt g_z rfl).1; omega); have n_t_z : g_t ≠ g_z := (by have h1 := (Ot10.out.lt g_t rfl).2; have h2 := (ho_z.lt g_z rfl).1; omega); have n_w_z : g_w ≠ g_z := (by have h1 := (Ow10.out.lt g_w rfl).2; have h2 := (ho_z.lt g_z rfl).1; omega); have n_x_z : g_x ≠ g_z := (by have h1 := (Ox10.out.lt g_x rfl).2; have h2 := (ho_z.lt g_z rfl).1; omega); have n_g_z : g_g ≠ g_z := (by have h1 := (Og10.out.lt g_g rfl).2; have h2 := (ho_z.lt g_z rfl).1; omega); have l_z : w.heap.size ≤ g_z := Nat.le_trans B10.out.size (ho_z.lt g_z rfl).1; have B11 := Lib.hid (B10.out.trans (hb.mono B10.out.size)); have KA11 := Lib.hid (KA10.out.below hb); have KW11 := Lib.hid (KW10.out.below hb); have KV11 := Lib.hid (KV10.out.below hb); have KX11 := Lib.hid (KX10.out.below hb); have KG11 := Lib.hid (KG10.out.below hb); have KH11 := Lib.hid (KH10.out.below hb); have Ot11 := Lib.hid (Ot10.out.kept (below_any (row := none) hb) (.inr (by simp [Value.ownBlock]))); have Ow11 := Lib.hid (Ow10.out.kept (below_any (row := none) hb) (.inr (by simp [Value.ownBlock]))); have Ox11 := Lib.hid (Ox10.out.kept (below_any (row := none) hb) (.inr (by simp [Value.ownBlock]))); have Og11 := Lib.hid (Og10.out.kept (below_any (row := none) hb) (.inr (by simp [Value.ownBlock]))); have Oz11 := Lib.hid (own_down ho_z (Nat.zero_le _)); clear hb B10 KA10 KW10 KV10 KX10 KG10 KH10 Ot10 Ow10 Ox10 Og10 ho_z) | (have q := P10_1; go_at_call 22; clear q P10_1; refine (eqLink_self m ip (some ⟨g_x, 0, none⟩) (some ⟨g_z, 0, none⟩) rs.length rs.length rs.length rs _ rfl (Row.ownK Ox11.out) (Row.ownK Oz11.out) (Nat.le_succ_of_le hn.out)).mono ?_; rintro e v12 ⟨rfl, hb⟩; have B12 := Lib.hid (B11.out.trans (hb.mono B11.out.size)); have KA12 := Lib.hid (KA11.out.below hb); have KW12 := Lib.hid (KW11.out.below hb); have KV12 := Lib.hid (KV11.out.below hb); have KX12 := Lib.hid (KX11.out.below hb); have KG12 := Lib.hid (KG11.out.below hb); have KH12 := Lib.hid (KH11.out.below hb); have Ot12 := Lib.hid (Ot11.out.kept (below_any (row := none) hb) (.inr (by simp [Value.ownBlock]))); have Ow12 := Lib.hid (Ow11.out.kept (below_any (row := none) hb) (.inr (by simp [Value.ownBlock]))); have Ox12 := Lib.hid (Ox11.out.kept (below_any (row := none) hb) (.inr (by simp [Value.ownBlock]))); have Og12 := Lib.hid (Og11.out.kept (below_any (row := none) hb) (.inr (by simp [Value.ownBlock]))); have Oz12 := Lib.hid (Oz11.out.kept (below_any (row := none) hb) (.inr (by simp [Value.ownBlock]))); clear hb B11 KA11 KW11 KV11 KX11 KG11 KH11 Ot11 Ow11 Ox11 Og11 Oz11))
  try clear cA0 cA1 cA2 dA0 dA1 dA2 cX0 cX1 cX2 dX0 dX1 dX2
  obtain ⟨⟨cA0, cA1, cA2⟩, dA0, dA1, dA2⟩ := KA12.out.o3
  obtain ⟨⟨cW0, cW1, cW2⟩, dW0, dW1, dW2⟩ := KW12.out.o3
  obtain ⟨⟨cV0, cV1, cV2, cV3, cV4, cV5⟩, dV0, dV1, dV2, dV3, dV4, dV5⟩ := KV12.out.of6
  obtain ⟨⟨cX0, cX1, cX2⟩, dX0, dX1, dX2⟩ := KX12.out.o3
  obtain ⟨⟨cG0, cG1, cG2⟩, dG0, dG1, dG2⟩ := KG12.out.o3
  obtain ⟨⟨cH0, cH1, cH2, cH3, cH4, cH5⟩, dH0, dH1, dH2, dH3, dH4, dH5⟩ := KH12.out.of6
  go_wp2_with fail
  clear cA0 cA1 cA2 dA0 dA1 dA2 cW0 cW1 cW2 dW0 dW1 dW2 cV0 cV1 cV2 cV3 cV4 cV5 dV0 dV1 dV2 dV3 dV4 dV5 cX0 cX1 cX2 dX0 dX1 dX2 cG0 cG1 cG2 dG0 dG1 dG2 cH0 cH1 cH2 cH3 cH4 cH5 dH0 dH1 dH2 dH3 dH4 dH5
  refine (markLink_any m ip 0 g_x rs.length rs.length 1 rs _ rfl Ox12.out (by decide) (Nat.le_succ_of_le hn.out)).mono ?_
  rintro e v13 ⟨rfl, ho, hg⟩
  have B13 := Lib.hid (B12.out.trans (grown_below hg l_x B12.out.size))
  have KA13 := Lib.hid (KA12.out.grown hg (n_A_x))
  have KW13 := Lib.hid (KW12.out.grown hg (n_W_x))
  have KV13 := Lib.hid (KV12.out.grown hg (n_V_x))
  have KX13 := Lib.hid (KX12.out.grown hg (fun e => n_x_X e.symm))
  have KG13 := Lib.hid (KG12.out.grown hg (fun e => n_x_G e.symm))
  have KH13 := Lib.hid (KH12.out.grown hg (fun e => n_x_H e.symm))
  have Ot13 := Lib.hid (Ot12.out.kept hg (.inr (own_ne (n_t_x))))
  have Ow13 := Lib.hid (Ow12.out.kept hg (.inr (own_ne (n_w_x))))
  have Ox13 := Lib.hid ho
  have Og13 := Lib.hid (Og12.out.kept hg (.inr (own_ne (fun e => n_x_g e.symm))))
  have Oz13 := Lib.hid (Oz12.out.kept hg (.inr (own_ne (fun e => n_x_z e.symm))))
  clear hg B12 KA12 KW12 KV12 KX12 KG12 KH12 Ot12 Ow12 Ox12 Og12 Oz12 ho
  have hk1 : (0 : Int) ≤ ((1 + 3 * rs.length : Nat) : Int) := Int.natCast_nonneg _
  obtain ⟨⟨cA0, cA1, cA2⟩, dA0, dA1, dA2⟩ := KA13.out.o3
  obtain ⟨⟨cW0, cW1, cW2⟩, dW0, dW1, dW2⟩ := KW13.out.o3
  obtain ⟨⟨cV0, cV1, cV2, cV3, cV4, cV5⟩, dV0, dV1, dV2, dV3, dV4, dV5⟩ := KV13.out.of6
  obtain ⟨⟨cX0, cX1, cX2⟩, dX0, dX1, dX2⟩ := KX13.out.o3
  obtain ⟨⟨cG0, cG1, cG2⟩, dG0, dG1, dG2⟩ := KG13.out.o3
  obtain ⟨⟨cH0, cH1, cH2, cH3, cH4, cH5⟩, dH0, dH1, dH2, dH3, dH4, dH5⟩ := KH13.out.of6
  go_wp2_with fail
  clear cA0 cA1 cA2 dA0 dA1 dA2 cW0 cW1 cW2 dW0 dW1 dW2 cV0 cV1 cV2 cV3 cV4 cV5 dV0 dV1 dV2 dV3 dV4 dV5 cX0 cX1 cX2 dX0 dX1 dX2 cG0 cG1 cG2 dG0 dG1 dG2 cH0 cH1 cH2 cH3 cH4 cH5 dH0 dH1 dH2 dH3 dH4 dH5
  refine (eqLink_self m ip (some ⟨g_g, 0, none⟩) (some ⟨g_w, 0, none⟩) L.length c_g c_w L _ rfl (Row.ownK Og13.out) (Row.ownK Ow13.out) hl2.out).mono ?_
  rintro e v14 ⟨rfl, hb⟩
  have B14 := Lib.hid (B13.out.trans (hb.mono B13.out.size))
  have KA14 := Lib.hid (KA13.out.below hb)
  have KW14 := Lib.hid (KW13.out.below hb)
  have KV14 := Lib.hid (KV13.out.below hb)
  have KX14 := Lib.hid (KX13.out.below hb)
  have KG14 := Lib.hid (KG13.out.below hb)
  have KH14 := Lib.hid (KH13.out.below hb)
  have Ot14 := Lib.hid (Ot13.out.kept (below_any (row := none) hb) (.inr (by simp [Value.ownBlock])))
  have Ow14 := Lib.hid (Ow13.out.kept (below_any (row := none) hb) (.inr (by simp [Value.ownBlock])))
  have Ox14 := Lib.hid (Ox13.out.kept (below_any (row := none) hb) (.inr (by simp [Value.ownBlock])))
  have Og14 := Lib.hid (Og13.out.kept (below_any (row := none) hb) (.inr (by simp [Value.ownBlock])))
  have Oz14 := Lib.hid (Oz13.out.kept (below_any (row := none) hb) (.inr (by simp [Value.ownBlock])))
  clear hb B13 KA13 KW13 KV13 KX13 KG13 KH13 Ot13 Ow13 Ox13 Og13 Oz13
  obtain ⟨⟨cA0, cA1, cA2⟩, dA0, dA1, dA2⟩ := KA14.out.o3
  obtain ⟨⟨cW0, cW1, cW2⟩, dW0, dW1, dW2⟩ := KW14.out.o3
  obtain ⟨⟨cV0, cV1, cV2, cV3, cV4, cV5⟩, dV0, dV1, dV2, dV3, dV4, dV5⟩ := KV14.out.of6
  obtain ⟨⟨cX0, cX1, cX2⟩, dX0, dX1, dX2⟩ := KX14.out.o3
  obtain ⟨⟨cG0, cG1, cG2⟩, dG0, dG1, dG2⟩ := KG14.out.o3
  obtain ⟨⟨cH0, cH1, cH2, cH3, cH4, cH5⟩, dH0, dH1, dH2, dH3, dH4, dH5⟩ := KH14.out.of6
  go_wp2_with fail
  clear cA0 cA1 cA2 dA0 dA1 dA2 cW0 cW1 cW2 dW0 dW1 dW2 cV0 cV1 cV2 cV3 cV4 cV5 dV0 dV1 dV2 dV3 dV4 dV5 cX0 cX1 cX2 dX0 dX1 dX2 cG0 cG1 cG2 dG0 dG1 dG2 cH0 cH1 cH2 cH3 cH4 cH5 dH0 dH1 dH2 dH3 dH4 dH5
  refine (E.out _).mono ?_
  rintro e v15 ⟨rfl, hb⟩
  have B15 := Lib.hid (B14.out.trans (hb.mono B14.out.size))
  have KA15 := Lib.hid (KA14.out.below hb)
  have KW15 := Lib.hid (KW14.out.below hb)
  have KV15 := Lib.hid (KV14.out.below hb)
  have KX15 := Lib.hid (KX14.out.below hb)
  have KG15 := Lib.hid (KG14.out.below hb)
  have KH15 := Lib.hid (KH14.out.below hb)
  have Ot15 := Lib.hid (Ot14.out.kept (below_any (row := none) hb) (.inr (by simp [Value.ownBlock])))
  have Ow15 := Lib.hid (Ow14.out.kept (below_any (row := none) hb) (.inr (by simp [Value.ownBlock])))
  have Ox15 := Lib.hid (Ox14.out.kept (below_any (row := none) hb) (.inr (by simp [Value.ownBlock])))
  have Og15 := Lib.hid (Og14.out.kept (below_any (row := none) hb) (.inr (by simp [Value.ownBlock])))
  have Oz15 := Lib.hid (Oz14.out.kept (below_any (row := none) hb) (.inr (by simp [Value.ownBlock])))
  clear hb B14 KA14 KW14 KV14 KX14 KG14 KH14 Ot14 Ow14 Ox14 Og14 Oz14
  obtain ⟨⟨cA0, cA1, cA2⟩, dA0, dA1, dA2⟩ := KA15.out.o3
  obtain ⟨⟨cW0, cW1, cW2⟩, dW0, dW1, dW2⟩ := KW15.out.o3
  obtain ⟨⟨cV0, cV1, cV2, cV3, cV4, cV5⟩, dV0, dV1, dV2, dV3, dV4, dV5⟩ := KV15.out.of6
  obtain ⟨⟨cX0, cX1, cX2⟩, dX0, dX1, dX2⟩ := KX15.out.o3
  obtain ⟨⟨cG0, cG1, cG2⟩, dG0, dG1, dG2⟩ := KG15.out.o3
  obtain ⟨⟨cH0, cH1, cH2, cH3, cH4, cH5⟩, dH0, dH1, dH2, dH3, dH4, dH5⟩ := KH15.out.of6
  go_wp2_with fail
  clear cA0 cA1 cA2 dA0 dA1 dA2 cW0 cW1 cW2 dW0 dW1 dW2 cV0 cV1 cV2 cV3 cV4 cV5 dV0 dV1 dV2 dV3 dV4 dV5 cX0 cX1 cX2 dX0 dX1 dX2 cG0 cG1 cG2 dG0 dG1 dG2 cH0 cH1 cH2 cH3 cH4 cH5 dH0 dH1 dH2 dH3 dH4 dH5
  refine (markLink_any m ip 0 g_g L.length c_g 1 L _ rfl Og15.out (by decide) hl2.out).mono ?_
  rintro e v16 ⟨rfl, ho, hg⟩
  have B16 := Lib.hid (B15.out.trans (grown_below hg l_g B15.out.size))
  have KA16 := Lib.hid (KA15.out.grown hg (n_A_g))
  have KW16 := Lib.hid (KW15.out.grown hg (n_W_g))
  have KV16 := Lib.hid (KV15.out.grown hg (n_V_g))
  have KX16 := Lib.hid (KX15.out.grown hg (n_X_g))
  have KG16 := Lib.hid (KG15.out.grown hg (fun e => n_g_G e.symm))
  have KH16 := Lib.hid (KH15.out.grown hg (fun e => n_g_H e.symm))
  have Ot16 := Lib.hid (Ot15.out.kept hg (.inr (own_ne (n_t_g))))
  have Ow16 := Lib.hid (Ow15.out.kept hg (.inr (own_ne (n_w_g))))
  have Ox16 := Lib.hid (Ox15.out.kept hg (.inr (own_ne (n_x_g))))
  have Og16 := Lib.hid ho
  have Oz16 := Lib.hid (Oz15.out.kept hg (.inr (own_ne (fun e => n_g_z e.symm))))
  clear hg B15 KA15 KW15 KV15 KX15 KG15 KH15 Ot15 Ow15 Ox15 Og15 Oz15 ho
  have hk2 : (0 : Int) ≤ ((1 + 3 * L.length : Nat) : Int) := Int.natCast_nonneg _
  obtain ⟨⟨cA0, cA1, cA2⟩, dA0, dA1, dA2⟩ := KA16.out.o3
  obtain ⟨⟨cW0, cW1, cW2⟩, dW0, dW1, dW2⟩ := KW16.out.o3
  obtain ⟨⟨cV0, cV1, cV2, cV3, cV4, cV5⟩, dV0, dV1, dV2, dV3, dV4, dV5⟩ := KV16.out.of6
  obtain ⟨⟨cX0, cX1, cX2⟩, dX0, dX1, dX2⟩ := KX16.out.o3
  obtain ⟨⟨cG0, cG1, cG2⟩, dG0, dG1, dG2⟩ := KG16.out.o3
  obtain ⟨⟨cH0, cH1, cH2, cH3, cH4, cH5⟩, dH0, dH1, dH2, dH3, dH4, dH5⟩ := KH16.out.of6
  go_wp2_with fail
  clear cA0 cA1 cA2 dA0 dA1 dA2 cW0 cW1 cW2 dW0 dW1 dW2 cV0 cV1 cV2 cV3 cV4 cV5 dV0 dV1 dV2 dV3 dV4 dV5 cX0 cX1 cX2 dX0 dX1 dX2 cG0 cG1 cG2 dG0 dG1 dG2 cH0 cH1 cH2 cH3 cH4 cH5 dH0 dH1 dH2 dH3 dH4 dH5
  refine (heldLink_any m ip (some ⟨g_g, 0, none⟩) L.length c_g 1 _ (Row.ownK Og16.out) (by decide) hl2.out).mono ?_
  rintro e v17 ⟨rfl, hb⟩
  have B17 := Lib.hid (B16.out.trans (hb.mono B16.out.size))
  have KA17 := Lib.hid (KA16.out.below hb)
  have KW17 := Lib.hid (KW16.out.below hb)
  have KV17 := Lib.hid (KV16.out.below hb)
  have KX17 := Lib.hid (KX16.out.below hb)
  have KG17 := Lib.hid (KG16.out.below hb)
  have KH17 := Lib.hid (KH16.out.below hb)
  have Ot17 := Lib.hid (Ot16.out.kept (below_any (row := none) hb) (.inr (by simp [Value.ownBlock])))
  have Ow17 := Lib.hid (Ow16.out.kept (below_any (row := none) hb) (.inr (by simp [Value.ownBlock])))
  have Ox17 := Lib.hid (Ox16.out.kept (below_any (row := none) hb) (.inr (by simp [Value.ownBlock])))
  have Og17 := Lib.hid (Og16.out.kept (below_any (row := none) hb) (.inr (by simp [Value.ownBlock])))
  have Oz17 := Lib.hid (Oz16.out.kept (below_any (row := none) hb) (.inr (by simp [Value.ownBlock])))
  clear hb B16 KA16 KW16 KV16 KX16 KG16 KH16 Ot16 Ow16 Ox16 Og16 Oz16
  obtain ⟨⟨cA0, cA1, cA2⟩, dA0, dA1, dA2⟩ := KA17.out.o3
  obtain ⟨⟨cW0, cW1, cW2⟩, dW0, dW1, dW2⟩ := KW17.out.o3
  obtain ⟨⟨cV0, cV1, cV2, cV3, cV4, cV5⟩, dV0, dV1, dV2, dV3, dV4, dV5⟩ := KV17.out.of6
  obtain ⟨⟨cX0, cX1, cX2⟩, dX0, dX1, dX2⟩ := KX17.out.o3
  obtain ⟨⟨cG0, cG1, cG2⟩, dG0, dG1, dG2⟩ := KG17.out.o3
  obtain ⟨⟨cH0, cH1, cH2, cH3, cH4, cH5⟩, dH0, dH1, dH2, dH3, dH4, dH5⟩ := KH17.out.of6
  go_wp2_with fail
  clear cA0 cA1 cA2 dA0 dA1 dA2 cW0 cW1 cW2 dW0 dW1 dW2 cV0 cV1 cV2 cV3 cV4 cV5 dV0 dV1 dV2 dV3 dV4 dV5 cX0 cX1 cX2 dX0 dX1 dX2 cG0 cG1 cG2 dG0 dG1 dG2 cH0 cH1 cH2 cH3 cH4 cH5 dH0 dH1 dH2 dH3 dH4 dH5
  refine (toLink_any m ip a cap rs _ ((HA.out.below B17.out).mono B17.out.size) hn.out).mono ?_
  rintro e v18 ⟨g_y, rfl, ho_y, hb⟩
  have n_A_y : g_A ≠ g_y := by have h1 := KA17.out.lt; have h2 := (ho_y.lt g_y rfl).1; omega
  have n_W_y : g_W ≠ g_y := by have h1 := KW17.out.lt; have h2 := (ho_y.lt g_y rfl).1; omega
  have n_V_y : g_V ≠ g_y := by have h1 := KV17.out.lt; have h2 := (ho_y.lt g_y rfl).1; omega
  have n_X_y : g_X ≠ g_y := by have h1 := KX17.out.lt; have h2 := (ho_y.lt g_y rfl).1; omega
  have n_G_y : g_G ≠ g_y := by have h1 := KG17.out.lt; have h2 := (ho_y.lt g_y rfl).1; omega
  have n_H_y : g_H ≠ g_y := by have h1 := KH17.out.lt; have h2 := (ho_y.lt g_y rfl).1; omega
  have n_t_y : g_t ≠ g_y := by have h1 := (Ot17.out.lt g_t rfl).2; have h2 := (ho_y.lt g_y rfl).1; omega
  have n_w_y : g_w ≠ g_y := by have h1 := (Ow17.out.lt g_w rfl).2; have h2 := (ho_y.lt g_y rfl).1; omega
  have n_x_y : g_x ≠ g_y := by have h1 := (Ox17.out.lt g_x rfl).2; have h2 := (ho_y.lt g_y rfl).1; omega
  have n_g_y : g_g ≠ g_y := by have h1 := (Og17.out.lt g_g rfl).2; have h2 := (ho_y.lt g_y rfl).1; omega
  have n_z_y : g_z ≠ g_y := by have h1 := (Oz17.out.lt g_z rfl).2; have h2 := (ho_y.lt g_y rfl).1; omega
  have l_y : w.heap.size ≤ g_y := Nat.le_trans B17.out.size (ho_y.lt g_y rfl).1
  have B18 := Lib.hid (B17.out.trans (hb.mono B17.out.size))
  have KA18 := Lib.hid (KA17.out.below hb)
  have KW18 := Lib.hid (KW17.out.below hb)
  have KV18 := Lib.hid (KV17.out.below hb)
  have KX18 := Lib.hid (KX17.out.below hb)
  have KG18 := Lib.hid (KG17.out.below hb)
  have KH18 := Lib.hid (KH17.out.below hb)
  have Ot18 := Lib.hid (Ot17.out.kept (below_any (row := none) hb) (.inr (by simp [Value.ownBlock])))
  have Ow18 := Lib.hid (Ow17.out.kept (below_any (row := none) hb) (.inr (by simp [Value.ownBlock])))
  have Ox18 := Lib.hid (Ox17.out.kept (below_any (row := none) hb) (.inr (by simp [Value.ownBlock])))
  have Og18 := Lib.hid (Og17.out.kept (below_any (row := none) hb) (.inr (by simp [Value.ownBlock])))
  have Oz18 := Lib.hid (Oz17.out.kept (below_any (row := none) hb) (.inr (by simp [Value.ownBlock])))
  have Oy18 := Lib.hid (own_down ho_y (Nat.zero_le _))
  clear hb B17 KA17 KW17 KV17 KX17 KG17 KH17 Ot17 Ow17 Ox17 Og17 Oz17 ho_y
  obtain ⟨⟨cA0, cA1, cA2⟩, dA0, dA1, dA2⟩ := KA18.out.o3
  obtain ⟨⟨cW0, cW1, cW2⟩, dW0, dW1, dW2⟩ := KW18.out.o3
  obtain ⟨⟨cV0, cV1, cV2, cV3, cV4, cV5⟩, dV0, dV1, dV2, dV3, dV4, dV5⟩ := KV18.out.of6
  obtain ⟨⟨cX0, cX1, cX2⟩, dX0, dX1, dX2⟩ := KX18.out.o3
  obtain ⟨⟨cG0, cG1, cG2⟩, dG0, dG1, dG2⟩ := KG18.out.o3
  obtain ⟨⟨cH0, cH1, cH2, cH3, cH4, cH5⟩, dH0, dH1, dH2, dH3, dH4, dH5⟩ := KH18.out.of6
  go_wp2_with fail
  clear cA0 cA1 cA2 dA0 dA1 dA2 cW0 cW1 cW2 dW0 dW1 dW2 cV0 cV1 cV2 cV3 cV4 cV5 dV0 dV1 dV2 dV3 dV4 dV5 cX0 cX1 cX2 dX0 dX1 dX2 cG0 cG1 cG2 dG0 dG1 dG2 cH0 cH1 cH2 cH3 cH4 cH5 dH0 dH1 dH2 dH3 dH4 dH5
  refine (CI.out g_y _ (Row.ownK Oy18.out) (HG.out.below B18.out HG.out.lt) (HX.out.below B18.out HX.out.lt)).mono ?_
  rintro e v19 ⟨a_h, c_h, rfl, ho, hb⟩
  obtain ⟨g_h, rfl⟩ := own_some ho hp
  have ho_h := ho
  clear ho
  have n_A_h : g_A ≠ g_h := by have h1 := KA18.out.lt; have h2 := (ho_h.lt g_h rfl).1; omega
  have n_W_h : g_W ≠ g_h := by have h1 := KW18.out.lt; have h2 := (ho_h.lt g_h rfl).1; omega
  have n_V_h : g_V ≠ g_h := by have h1 := KV18.out.lt; have h2 := (ho_h.lt g_h rfl).1; omega
  have n_X_h : g_X ≠ g_h := by have h1 := KX18.out.lt; have h2 := (ho_h.lt g_h rfl).1; omega
  have n_G_h : g_G ≠ g_h := by have h1 := KG18.out.lt; have h2 := (ho_h.lt g_h rfl).1; omega
  have n_H_h : g_H ≠ g_h := by have h1 := KH18.out.lt; have h2 := (ho_h.lt g_h rfl).1; omega
  have n_t_h : g_t ≠ g_h := by have h1 := (Ot18.out.lt g_t rfl).2; have h2 := (ho_h.lt g_h rfl).1; omega
  have n_w_h : g_w ≠ g_h := by have h1 := (Ow18.out.lt g_w rfl).2; have h2 := (ho_h.lt g_h rfl).1; omega
  have n_x_h : g_x ≠ g_h := by have h1 := (Ox18.out.lt g_x rfl).2; have h2 := (ho_h.lt g_h rfl).1; omega
  have n_g_h : g_g ≠ g_h := by have h1 := (Og18.out.lt g_g rfl).2; have h2 := (ho_h.lt g_h rfl).1; omega
  have n_z_h : g_z ≠ g_h := by have h1 := (Oz18.out.lt g_z rfl).2; have h2 := (ho_h.lt g_h rfl).1; omega
  have n_y_h : g_y ≠ g_h := by have h1 := (Oy18.out.lt g_y rfl).2; have h2 := (ho_h.lt g_h rfl).1; omega
  have l_h : w.heap.size ≤ g_h := Nat.le_trans B18.out.size (ho_h.lt g_h rfl).1
  have B19 := Lib.hid (B18.out.trans (hb.mono B18.out.size))
  have KA19 := Lib.hid (KA18.out.below hb)
  have KW19 := Lib.hid (KW18.out.below hb)
  have KV19 := Lib.hid (KV18.out.below hb)
  have KX19 := Lib.hid (KX18.out.below hb)
  have KG19 := Lib.hid (KG18.out.below hb)
  have KH19 := Lib.hid (KH18.out.below hb)
  have Ot19 := Lib.hid (Ot18.out.kept (below_any (row := none) hb) (.inr (by simp [Value.ownBlock])))
  have Ow19 := Lib.hid (Ow18.out.kept (below_any (row := none) hb) (.inr (by simp [Value.ownBlock])))
  have Ox19 := Lib.hid (Ox18.out.kept (below_any (row := none) hb) (.inr (by simp [Value.ownBlock])))
  have Og19 := Lib.hid (Og18.out.kept (below_any (row := none) hb) (.inr (by simp [Value.ownBlock])))
  have Oz19 := Lib.hid (Oz18.out.kept (below_any (row := none) hb) (.inr (by simp [Value.ownBlock])))
  have Oy19 := Lib.hid (Oy18.out.kept (below_any (row := none) hb) (.inr (by simp [Value.ownBlock])))
  have Oh19 := Lib.hid (own_down ho_h (Nat.zero_le _))
  clear hb B18 KA18 KW18 KV18 KX18 KG18 KH18 Ot18 Ow18 Ox18 Og18 Oz18 Oy18 ho_h
  have B20 := Lib.hid ((B19.out.alloc (by have h0 := B19.out.size; simp <;> omega) (.cells #[.int .i64 m, .int .i64 ip, .slice (some ⟨g_h, 0, none⟩) L.length c_h] 26)).alloc (by have h0 := B19.out.size; simp <;> omega) (.cells #[.int .i64 p0, .int .i64 p1, .int .i64 p2, .int .i64 p3, .int .i64 p4, .string p5] 30))
  have lt_A := KA19.out.lt
  have n_A_Y : g_A ≠ v19.heap.size := by omega
  have n_A_Z : g_A ≠ v19.heap.size + 1 := by omega
  clear lt_A
  have lt_W := KW19.out.lt
  have n_W_Y : g_W ≠ v19.heap.size := by omega
  have n_W_Z : g_W ≠ v19.heap.size + 1 := by omega
  clear lt_W
  have lt_V := KV19.out.lt
  have n_V_Y : g_V ≠ v19.heap.size := by omega
  have n_V_Z : g_V ≠ v19.heap.size + 1 := by omega
  clear lt_V
  have lt_X := KX19.out.lt
  have n_X_Y : g_X ≠ v19.heap.size := by omega
  have n_X_Z : g_X ≠ v19.heap.size + 1 := by omega
  clear lt_X
  have lt_G := KG19.out.lt
  have n_G_Y : g_G ≠ v19.heap.size := by omega
  have n_G_Z : g_G ≠ v19.heap.size + 1 := by omega
  clear lt_G
  have lt_H := KH19.out.lt
  have n_H_Y : g_H ≠ v19.heap.size := by omega
  have n_H_Z : g_H ≠ v19.heap.size + 1 := by omega
  clear lt_H
  have lt_t := (Ot19.out.lt g_t rfl).2
  have n_t_Y : g_t ≠ v19.heap.size := by omega
  have n_t_Z : g_t ≠ v19.heap.size + 1 := by omega
  clear lt_t
  have lt_w := (Ow19.out.lt g_w rfl).2
  have n_w_Y : g_w ≠ v19.heap.size := by omega
  have n_w_Z : g_w ≠ v19.heap.size + 1 := by omega
  clear lt_w
  have lt_x := (Ox19.out.lt g_x rfl).2
  have n_x_Y : g_x ≠ v19.heap.size := by omega
  have n_x_Z : g_x ≠ v19.heap.size + 1 := by omega
  clear lt_x
  have lt_g := (Og19.out.lt g_g rfl).2
  have n_g_Y : g_g ≠ v19.heap.size := by omega
  have n_g_Z : g_g ≠ v19.heap.size + 1 := by omega
  clear lt_g
  have lt_z := (Oz19.out.lt g_z rfl).2
  have n_z_Y : g_z ≠ v19.heap.size := by omega
  have n_z_Z : g_z ≠ v19.heap.size + 1 := by omega
  clear lt_z
  have lt_y := (Oy19.out.lt g_y rfl).2
  have n_y_Y : g_y ≠ v19.heap.size := by omega
  have n_y_Z : g_y ≠ v19.heap.size + 1 := by omega
  clear lt_y
  have lt_h := (Oh19.out.lt g_h rfl).2
  have n_h_Y : g_h ≠ v19.heap.size := by omega
  have n_h_Z : g_h ≠ v19.heap.size + 1 := by omega
  clear lt_h
  have KA20 := Lib.hid ((KA19.out.alloc (.cells #[.int .i64 m, .int .i64 ip, .slice (some ⟨g_h, 0, none⟩) L.length c_h] 26)).alloc (.cells #[.int .i64 p0, .int .i64 p1, .int .i64 p2, .int .i64 p3, .int .i64 p4, .string p5] 30))
  have KW20 := Lib.hid ((KW19.out.alloc (.cells #[.int .i64 m, .int .i64 ip, .slice (some ⟨g_h, 0, none⟩) L.length c_h] 26)).alloc (.cells #[.int .i64 p0, .int .i64 p1, .int .i64 p2, .int .i64 p3, .int .i64 p4, .string p5] 30))
  have KV20 := Lib.hid ((KV19.out.alloc (.cells #[.int .i64 m, .int .i64 ip, .slice (some ⟨g_h, 0, none⟩) L.length c_h] 26)).alloc (.cells #[.int .i64 p0, .int .i64 p1, .int .i64 p2, .int .i64 p3, .int .i64 p4, .string p5] 30))
  have KX20 := Lib.hid ((KX19.out.alloc (.cells #[.int .i64 m, .int .i64 ip, .slice (some ⟨g_h, 0, none⟩) L.length c_h] 26)).alloc (.cells #[.int .i64 p0, .int .i64 p1, .int .i64 p2, .int .i64 p3, .int .i64 p4, .string p5] 30))
  have KG20 := Lib.hid ((KG19.out.alloc (.cells #[.int .i64 m, .int .i64 ip, .slice (some ⟨g_h, 0, none⟩) L.length c_h] 26)).alloc (.cells #[.int .i64 p0, .int .i64 p1, .int .i64 p2, .int .i64 p3, .int .i64 p4, .string p5] 30))
  have KH20 := Lib.hid ((KH19.out.alloc (.cells #[.int .i64 m, .int .i64 ip, .slice (some ⟨g_h, 0, none⟩) L.length c_h] 26)).alloc (.cells #[.int .i64 p0, .int .i64 p1, .int .i64 p2, .int .i64 p3, .int .i64 p4, .string p5] 30))
  have Ot20 := Lib.hid ((Ot19.out.alloc (.cells #[.int .i64 m, .int .i64 ip, .slice (some ⟨g_h, 0, none⟩) L.length c_h] 26)).alloc (.cells #[.int .i64 p0, .int .i64 p1, .int .i64 p2, .int .i64 p3, .int .i64 p4, .string p5] 30))
  have Ow20 := Lib.hid ((Ow19.out.alloc (.cells #[.int .i64 m, .int .i64 ip, .slice (some ⟨g_h, 0, none⟩) L.length c_h] 26)).alloc (.cells #[.int .i64 p0, .int .i64 p1, .int .i64 p2, .int .i64 p3, .int .i64 p4, .string p5] 30))
  have Ox20 := Lib.hid ((Ox19.out.alloc (.cells #[.int .i64 m, .int .i64 ip, .slice (some ⟨g_h, 0, none⟩) L.length c_h] 26)).alloc (.cells #[.int .i64 p0, .int .i64 p1, .int .i64 p2, .int .i64 p3, .int .i64 p4, .string p5] 30))
  have Og20 := Lib.hid ((Og19.out.alloc (.cells #[.int .i64 m, .int .i64 ip, .slice (some ⟨g_h, 0, none⟩) L.length c_h] 26)).alloc (.cells #[.int .i64 p0, .int .i64 p1, .int .i64 p2, .int .i64 p3, .int .i64 p4, .string p5] 30))
  have Oz20 := Lib.hid ((Oz19.out.alloc (.cells #[.int .i64 m, .int .i64 ip, .slice (some ⟨g_h, 0, none⟩) L.length c_h] 26)).alloc (.cells #[.int .i64 p0, .int .i64 p1, .int .i64 p2, .int .i64 p3, .int .i64 p4, .string p5] 30))
  have Oy20 := Lib.hid ((Oy19.out.alloc (.cells #[.int .i64 m, .int .i64 ip, .slice (some ⟨g_h, 0, none⟩) L.length c_h] 26)).alloc (.cells #[.int .i64 p0, .int .i64 p1, .int .i64 p2, .int .i64 p3, .int .i64 p4, .string p5] 30))
  have Oh20 := Lib.hid ((Oh19.out.alloc (.cells #[.int .i64 m, .int .i64 ip, .slice (some ⟨g_h, 0, none⟩) L.length c_h] 26)).alloc (.cells #[.int .i64 p0, .int .i64 p1, .int .i64 p2, .int .i64 p3, .int .i64 p4, .string p5] 30))
  have KY20 := Lib.hid (show Blk ((v19.alloc (.cells #[.int .i64 m, .int .i64 ip, .slice (some ⟨g_h, 0, none⟩) L.length c_h] 26)).alloc (.cells #[.int .i64 p0, .int .i64 p1, .int .i64 p2, .int .i64 p3, .int .i64 p4, .string p5] 30)) (v19.heap.size) [.int .i64 m, .int .i64 ip, .slice (some ⟨g_h, 0, none⟩) L.length c_h] from ((Blk.new v19 [.int .i64 m, .int .i64 ip, .slice (some ⟨g_h, 0, none⟩) L.length c_h] 26).alloc (.cells #[.int .i64 p0, .int .i64 p1, .int .i64 p2, .int .i64 p3, .int .i64 p4, .string p5] 30)))
  have n_Y_Z : v19.heap.size ≠ v19.heap.size + 1 := by omega
  have KZ20 := Lib.hid (show Blk ((v19.alloc (.cells #[.int .i64 m, .int .i64 ip, .slice (some ⟨g_h, 0, none⟩) L.length c_h] 26)).alloc (.cells #[.int .i64 p0, .int .i64 p1, .int .i64 p2, .int .i64 p3, .int .i64 p4, .string p5] 30)) (v19.heap.size + 1) [.int .i64 p0, .int .i64 p1, .int .i64 p2, .int .i64 p3, .int .i64 p4, .string p5] by have h0 := (Blk.new (v19.alloc (.cells #[.int .i64 m, .int .i64 ip, .slice (some ⟨g_h, 0, none⟩) L.length c_h] 26)) [.int .i64 p0, .int .i64 p1, .int .i64 p2, .int .i64 p3, .int .i64 p4, .string p5] 30); rwa [show (v19.alloc (.cells #[.int .i64 m, .int .i64 ip, .slice (some ⟨g_h, 0, none⟩) L.length c_h] 26)).heap.size = v19.heap.size + 1 by simp] at h0)
  clear B19 KA19 KW19 KV19 KX19 KG19 KH19 Ot19 Ow19 Ox19 Og19 Oz19 Oy19 Oh19
  obtain ⟨⟨cA0, cA1, cA2⟩, dA0, dA1, dA2⟩ := KA20.out.o3
  obtain ⟨⟨cW0, cW1, cW2⟩, dW0, dW1, dW2⟩ := KW20.out.o3
  obtain ⟨⟨cV0, cV1, cV2, cV3, cV4, cV5⟩, dV0, dV1, dV2, dV3, dV4, dV5⟩ := KV20.out.of6
  obtain ⟨⟨cX0, cX1, cX2⟩, dX0, dX1, dX2⟩ := KX20.out.o3
  obtain ⟨⟨cG0, cG1, cG2⟩, dG0, dG1, dG2⟩ := KG20.out.o3
  obtain ⟨⟨cH0, cH1, cH2, cH3, cH4, cH5⟩, dH0, dH1, dH2, dH3, dH4, dH5⟩ := KH20.out.of6
  obtain ⟨⟨cY0, cY1, cY2⟩, dY0, dY1, dY2⟩ := KY20.out.o3
  obtain ⟨⟨cZ0, cZ1, cZ2, cZ3, cZ4, cZ5⟩, dZ0, dZ1, dZ2, dZ3, dZ4, dZ5⟩ := KZ20.out.of6
  go_wp2_with fail
  clear cA0 cA1 cA2 dA0 dA1 dA2 cW0 cW1 cW2 dW0 dW1 dW2 cV0 cV1 cV2 cV3 cV4 cV5 dV0 dV1 dV2 dV3 dV4 dV5 cX0 cX1 cX2 dX0 dX1 dX2 cG0 cG1 cG2 dG0 dG1 dG2 cH0 cH1 cH2 cH3 cH4 cH5 dH0 dH1 dH2 dH3 dH4 dH5 cY0 cY1 cY2 dY0 dY1 dY2 cZ0 cZ1 cZ2 cZ3 cZ4 cZ5 dZ0 dZ1 dZ2 dZ3 dZ4 dZ5
  change Calls _ _ _ ((v19.alloc (.cells #[.int .i64 m, .int .i64 ip, .slice (some ⟨g_h, 0, none⟩) L.length c_h] 26)).alloc (.cells #[.int .i64 p0, .int .i64 p1, .int .i64 p2, .int .i64 p3, .int .i64 p4, .string p5] 30)) _
  generalize (v19.alloc (.cells #[.int .i64 m, .int .i64 ip, .slice (some ⟨g_h, 0, none⟩) L.length c_h] 26)).alloc (.cells #[.int .i64 p0, .int .i64 p1, .int .i64 p2, .int .i64 p3, .int .i64 p4, .string p5] 30) = v20 at B20 KA20 KW20 KV20 KX20 KG20 KH20 Ot20 Ow20 Ox20 Og20 Oz20 Oy20 Oh20 KY20 KZ20 ⊢
  generalize v19.heap.size + 1 = g_Z at KZ20 n_A_Z n_W_Z n_V_Z n_X_Z n_G_Z n_H_Z n_t_Z n_w_Z n_x_Z n_g_Z n_z_Z n_y_Z n_h_Z n_Y_Z ⊢
  generalize v19.heap.size = g_Y at KY20 n_A_Y n_W_Y n_V_Y n_X_Y n_G_Y n_H_Y n_t_Y n_w_Y n_x_Y n_g_Y n_z_Y n_y_Y n_h_Y n_Y_Z ⊢
  refine (eqLink_self m ip (some ⟨g_h, 0, none⟩) (some ⟨g_w, 0, none⟩) L.length c_h c_w L _ rfl (Row.ownK Oh20.out) (Row.ownK Ow20.out) hl2.out).mono ?_
  rintro e v21 ⟨rfl, hb⟩
  have B21 := Lib.hid (B20.out.trans (hb.mono B20.out.size))
  have KA21 := Lib.hid (KA20.out.below hb)
  have KW21 := Lib.hid (KW20.out.below hb)
  have KV21 := Lib.hid (KV20.out.below hb)
  have KX21 := Lib.hid (KX20.out.below hb)
  have KG21 := Lib.hid (KG20.out.below hb)
  have KH21 := Lib.hid (KH20.out.below hb)
  have KY21 := Lib.hid (KY20.out.below hb)
  have KZ21 := Lib.hid (KZ20.out.below hb)
  have Ot21 := Lib.hid (Ot20.out.kept (below_any (row := none) hb) (.inr (by simp [Value.ownBlock])))
  have Ow21 := Lib.hid (Ow20.out.kept (below_any (row := none) hb) (.inr (by simp [Value.ownBlock])))
  have Ox21 := Lib.hid (Ox20.out.kept (below_any (row := none) hb) (.inr (by simp [Value.ownBlock])))
  have Og21 := Lib.hid (Og20.out.kept (below_any (row := none) hb) (.inr (by simp [Value.ownBlock])))
  have Oz21 := Lib.hid (Oz20.out.kept (below_any (row := none) hb) (.inr (by simp [Value.ownBlock])))
  have Oy21 := Lib.hid (Oy20.out.kept (below_any (row := none) hb) (.inr (by simp [Value.ownBlock])))
  have Oh21 := Lib.hid (Oh20.out.kept (below_any (row := none) hb) (.inr (by simp [Value.ownBlock])))
  clear hb B20 KA20 KW20 KV20 KX20 KG20 KH20 KY20 KZ20 Ot20 Ow20 Ox20 Og20 Oz20 Oy20 Oh20
  obtain ⟨⟨cA0, cA1, cA2⟩, dA0, dA1, dA2⟩ := KA21.out.o3
  obtain ⟨⟨cW0, cW1, cW2⟩, dW0, dW1, dW2⟩ := KW21.out.o3
  obtain ⟨⟨cV0, cV1, cV2, cV3, cV4, cV5⟩, dV0, dV1, dV2, dV3, dV4, dV5⟩ := KV21.out.of6
  obtain ⟨⟨cX0, cX1, cX2⟩, dX0, dX1, dX2⟩ := KX21.out.o3
  obtain ⟨⟨cG0, cG1, cG2⟩, dG0, dG1, dG2⟩ := KG21.out.o3
  obtain ⟨⟨cH0, cH1, cH2, cH3, cH4, cH5⟩, dH0, dH1, dH2, dH3, dH4, dH5⟩ := KH21.out.of6
  obtain ⟨⟨cY0, cY1, cY2⟩, dY0, dY1, dY2⟩ := KY21.out.o3
  obtain ⟨⟨cZ0, cZ1, cZ2, cZ3, cZ4, cZ5⟩, dZ0, dZ1, dZ2, dZ3, dZ4, dZ5⟩ := KZ21.out.of6
  go_wp2_with fail
  clear cA0 cA1 cA2 dA0 dA1 dA2 cW0 cW1 cW2 dW0 dW1 dW2 cV0 cV1 cV2 cV3 cV4 cV5 dV0 dV1 dV2 dV3 dV4 dV5 cX0 cX1 cX2 dX0 dX1 dX2 cG0 cG1 cG2 dG0 dG1 dG2 cH0 cH1 cH2 cH3 cH4 cH5 dH0 dH1 dH2 dH3 dH4 dH5 cY0 cY1 cY2 dY0 dY1 dY2 cZ0 cZ1 cZ2 cZ3 cZ4 cZ5 dZ0 dZ1 dZ2 dZ3 dZ4 dZ5
  refine (E.out _).mono ?_
  rintro e v22 ⟨rfl, hb⟩
  have B22 := Lib.hid (B21.out.trans (hb.mono B21.out.size))
  have KA22 := Lib.hid (KA21.out.below hb)
  have KW22 := Lib.hid (KW21.out.below hb)
  have KV22 := Lib.hid (KV21.out.below hb)
  have KX22 := Lib.hid (KX21.out.below hb)
  have KG22 := Lib.hid (KG21.out.below hb)
  have KH22 := Lib.hid (KH21.out.below hb)
  have KY22 := Lib.hid (KY21.out.below hb)
  have KZ22 := Lib.hid (KZ21.out.below hb)
  have Ot22 := Lib.hid (Ot21.out.kept (below_any (row := none) hb) (.inr (by simp [Value.ownBlock])))
  have Ow22 := Lib.hid (Ow21.out.kept (below_any (row := none) hb) (.inr (by simp [Value.ownBlock])))
  have Ox22 := Lib.hid (Ox21.out.kept (below_any (row := none) hb) (.inr (by simp [Value.ownBlock])))
  have Og22 := Lib.hid (Og21.out.kept (below_any (row := none) hb) (.inr (by simp [Value.ownBlock])))
  have Oz22 := Lib.hid (Oz21.out.kept (below_any (row := none) hb) (.inr (by simp [Value.ownBlock])))
  have Oy22 := Lib.hid (Oy21.out.kept (below_any (row := none) hb) (.inr (by simp [Value.ownBlock])))
  have Oh22 := Lib.hid (Oh21.out.kept (below_any (row := none) hb) (.inr (by simp [Value.ownBlock])))
  clear hb B21 KA21 KW21 KV21 KX21 KG21 KH21 KY21 KZ21 Ot21 Ow21 Ox21 Og21 Oz21 Oy21 Oh21
  obtain ⟨⟨cA0, cA1, cA2⟩, dA0, dA1, dA2⟩ := KA22.out.o3
  obtain ⟨⟨cW0, cW1, cW2⟩, dW0, dW1, dW2⟩ := KW22.out.o3
  obtain ⟨⟨cV0, cV1, cV2, cV3, cV4, cV5⟩, dV0, dV1, dV2, dV3, dV4, dV5⟩ := KV22.out.of6
  obtain ⟨⟨cX0, cX1, cX2⟩, dX0, dX1, dX2⟩ := KX22.out.o3
  obtain ⟨⟨cG0, cG1, cG2⟩, dG0, dG1, dG2⟩ := KG22.out.o3
  obtain ⟨⟨cH0, cH1, cH2, cH3, cH4, cH5⟩, dH0, dH1, dH2, dH3, dH4, dH5⟩ := KH22.out.of6
  obtain ⟨⟨cY0, cY1, cY2⟩, dY0, dY1, dY2⟩ := KY22.out.o3
  obtain ⟨⟨cZ0, cZ1, cZ2, cZ3, cZ4, cZ5⟩, dZ0, dZ1, dZ2, dZ3, dZ4, dZ5⟩ := KZ22.out.of6
  go_wp2_with fail
  clear cA0 cA1 cA2 dA0 dA1 dA2 cW0 cW1 cW2 dW0 dW1 dW2 cV0 cV1 cV2 cV3 cV4 cV5 dV0 dV1 dV2 dV3 dV4 dV5 cX0 cX1 cX2 dX0 dX1 dX2 cG0 cG1 cG2 dG0 dG1 dG2 cH0 cH1 cH2 cH3 cH4 cH5 dH0 dH1 dH2 dH3 dH4 dH5 cY0 cY1 cY2 dY0 dY1 dY2 cZ0 cZ1 cZ2 cZ3 cZ4 cZ5 dZ0 dZ1 dZ2 dZ3 dZ4 dZ5
  refine (heldLink_any m ip (some ⟨g_g, 0, none⟩) L.length c_g 1 _ (Row.ownK Og22.out) (by decide) hl2.out).mono ?_
  rintro e v23 ⟨rfl, hb⟩
  have B23 := Lib.hid (B22.out.trans (hb.mono B22.out.size))
  have KA23 := Lib.hid (KA22.out.below hb)
  have KW23 := Lib.hid (KW22.out.below hb)
  have KV23 := Lib.hid (KV22.out.below hb)
  have KX23 := Lib.hid (KX22.out.below hb)
  have KG23 := Lib.hid (KG22.out.below hb)
  have KH23 := Lib.hid (KH22.out.below hb)
  have KY23 := Lib.hid (KY22.out.below hb)
  have KZ23 := Lib.hid (KZ22.out.below hb)
  have Ot23 := Lib.hid (Ot22.out.kept (below_any (row := none) hb) (.inr (by simp [Value.ownBlock])))
  have Ow23 := Lib.hid (Ow22.out.kept (below_any (row := none) hb) (.inr (by simp [Value.ownBlock])))
  have Ox23 := Lib.hid (Ox22.out.kept (below_any (row := none) hb) (.inr (by simp [Value.ownBlock])))
  have Og23 := Lib.hid (Og22.out.kept (below_any (row := none) hb) (.inr (by simp [Value.ownBlock])))
  have Oz23 := Lib.hid (Oz22.out.kept (below_any (row := none) hb) (.inr (by simp [Value.ownBlock])))
  have Oy23 := Lib.hid (Oy22.out.kept (below_any (row := none) hb) (.inr (by simp [Value.ownBlock])))
  have Oh23 := Lib.hid (Oh22.out.kept (below_any (row := none) hb) (.inr (by simp [Value.ownBlock])))
  clear hb B22 KA22 KW22 KV22 KX22 KG22 KH22 KY22 KZ22 Ot22 Ow22 Ox22 Og22 Oz22 Oy22 Oh22
  obtain ⟨⟨cA0, cA1, cA2⟩, dA0, dA1, dA2⟩ := KA23.out.o3
  obtain ⟨⟨cW0, cW1, cW2⟩, dW0, dW1, dW2⟩ := KW23.out.o3
  obtain ⟨⟨cV0, cV1, cV2, cV3, cV4, cV5⟩, dV0, dV1, dV2, dV3, dV4, dV5⟩ := KV23.out.of6
  obtain ⟨⟨cX0, cX1, cX2⟩, dX0, dX1, dX2⟩ := KX23.out.o3
  obtain ⟨⟨cG0, cG1, cG2⟩, dG0, dG1, dG2⟩ := KG23.out.o3
  obtain ⟨⟨cH0, cH1, cH2, cH3, cH4, cH5⟩, dH0, dH1, dH2, dH3, dH4, dH5⟩ := KH23.out.of6
  obtain ⟨⟨cY0, cY1, cY2⟩, dY0, dY1, dY2⟩ := KY23.out.o3
  obtain ⟨⟨cZ0, cZ1, cZ2, cZ3, cZ4, cZ5⟩, dZ0, dZ1, dZ2, dZ3, dZ4, dZ5⟩ := KZ23.out.of6
  go_wp2_with fail
  go_ret
  exact ⟨rfl, B23.out⟩
 case neg =>
  obtain rfl : L = [] := List.eq_nil_of_length_eq_zero (by omega)
  clear hp hl2
  simp only [List.length_nil] at CS CI
  go_enter Tryz.func5, Tryz.ntmps5
  have B0 := Lib.hid (show Below w.heap.size w (w.alloc (.cells #[.int .i64 m, .int .i64 ip, .slice a rs.length cap] 47)) from ((Below.refl _ w).alloc (by simp) _))
  have KA0 := Lib.hid (show Blk (w.alloc (.cells #[.int .i64 m, .int .i64 ip, .slice a rs.length cap] 47)) (w.heap.size) [.int .i64 m, .int .i64 ip, .slice a rs.length cap] from Blk.new w [.int .i64 m, .int .i64 ip, .slice a rs.length cap] 47)
  go_wp2_with fail
  change Calls _ _ _ (w.alloc (.cells #[.int .i64 m, .int .i64 ip, .slice a rs.length cap] 47)) _
  generalize w.alloc (.cells #[.int .i64 m, .int .i64 ip, .slice a rs.length cap] 47) = v0 at B0 KA0 ⊢
  generalize hh_A : w.heap.size = g_A at KA0 ⊢
  have l_A : w.heap.size ≤ g_A := by omega
  clear hh_A
  refine (szLink_any m ip a rs.length cap 1048576 _ HL.out (by omega)).mono ?_
  rintro e v1 ⟨hr, hb⟩
  have B1 := Lib.hid (B0.out.trans (hb.mono B0.out.size))
  have KA1 := Lib.hid (KA0.out.below hb)
  clear hb B0 KA0
  rw [if_pos hn.out] at hr
  subst hr
  have hs := hn.out
  have hz : ¬ (1048576 : Int) - (rs.length : Int) < 0 := by omega
  obtain ⟨⟨cA0, cA1, cA2⟩, dA0, dA1, dA2⟩ := KA1.out.o3
  go_wp2_with fail
  clear hs hz
  clear cA0 cA1 cA2 dA0 dA1 dA2
  refine (toLink_any m ip a cap rs _ ((HA.out.below B1.out).mono B1.out.size) hn.out).mono ?_
  rintro e v2 ⟨g_t, rfl, ho_t, hb⟩
  have n_A_t : g_A ≠ g_t := by have h1 := KA1.out.lt; have h2 := (ho_t.lt g_t rfl).1; omega
  have l_t : w.heap.size ≤ g_t := Nat.le_trans B1.out.size (ho_t.lt g_t rfl).1
  have B2 := Lib.hid (B1.out.trans (hb.mono B1.out.size))
  have KA2 := Lib.hid (KA1.out.below hb)
  have Ot2 := Lib.hid (own_down ho_t (Nat.zero_le _))
  clear hb B1 KA1 ho_t
  obtain ⟨⟨cA0, cA1, cA2⟩, dA0, dA1, dA2⟩ := KA2.out.o3
  go_wp2_with fail
  clear cA0 cA1 cA2 dA0 dA1 dA2
  refine (CS.out g_t _ (Row.ownK Ot2.out)).mono ?_
  rintro e v3 ⟨g_w, c_w, rfl, ho, hb⟩
  clear ho
  have B3 := Lib.hid (B2.out.trans (hb.mono B2.out.size))
  have KA3 := Lib.hid (KA2.out.below hb)
  have Ot3 := Lib.hid (Ot2.out.kept (below_any (row := none) hb) (.inr (by simp [Value.ownBlock])))
  clear hb B2 KA2 Ot2
  have B4 := Lib.hid ((B3.out.alloc (by have h0 := B3.out.size; simp <;> omega) (.cells #[.int .i64 m, .int .i64 ip, .slice (some ⟨g_w, 0, none⟩) 0 c_w] 26)).alloc (by have h0 := B3.out.size; simp <;> omega) (.cells #[.int .i64 p0, .int .i64 p1, .int .i64 p2, .int .i64 p3, .int .i64 p4, .string p5] 30))
  have lt_A := KA3.out.lt
  have n_A_W : g_A ≠ v3.heap.size := by omega
  have n_A_V : g_A ≠ v3.heap.size + 1 := by omega
  clear lt_A
  have lt_t := (Ot3.out.lt g_t rfl).2
  have n_t_W : g_t ≠ v3.heap.size := by omega
  have n_t_V : g_t ≠ v3.heap.size + 1 := by omega
  clear lt_t
  have KA4 := Lib.hid ((KA3.out.alloc (.cells #[.int .i64 m, .int .i64 ip, .slice (some ⟨g_w, 0, none⟩) 0 c_w] 26)).alloc (.cells #[.int .i64 p0, .int .i64 p1, .int .i64 p2, .int .i64 p3, .int .i64 p4, .string p5] 30))
  have Ot4 := Lib.hid ((Ot3.out.alloc (.cells #[.int .i64 m, .int .i64 ip, .slice (some ⟨g_w, 0, none⟩) 0 c_w] 26)).alloc (.cells #[.int .i64 p0, .int .i64 p1, .int .i64 p2, .int .i64 p3, .int .i64 p4, .string p5] 30))
  have KW4 := Lib.hid (show Blk ((v3.alloc (.cells #[.int .i64 m, .int .i64 ip, .slice (some ⟨g_w, 0, none⟩) 0 c_w] 26)).alloc (.cells #[.int .i64 p0, .int .i64 p1, .int .i64 p2, .int .i64 p3, .int .i64 p4, .string p5] 30)) (v3.heap.size) [.int .i64 m, .int .i64 ip, .slice (some ⟨g_w, 0, none⟩) 0 c_w] from ((Blk.new v3 [.int .i64 m, .int .i64 ip, .slice (some ⟨g_w, 0, none⟩) 0 c_w] 26).alloc (.cells #[.int .i64 p0, .int .i64 p1, .int .i64 p2, .int .i64 p3, .int .i64 p4, .string p5] 30)))
  have n_W_V : v3.heap.size ≠ v3.heap.size + 1 := by omega
  have KV4 := Lib.hid (show Blk ((v3.alloc (.cells #[.int .i64 m, .int .i64 ip, .slice (some ⟨g_w, 0, none⟩) 0 c_w] 26)).alloc (.cells #[.int .i64 p0, .int .i64 p1, .int .i64 p2, .int .i64 p3, .int .i64 p4, .string p5] 30)) (v3.heap.size + 1) [.int .i64 p0, .int .i64 p1, .int .i64 p2, .int .i64 p3, .int .i64 p4, .string p5] by have h0 := (Blk.new (v3.alloc (.cells #[.int .i64 m, .int .i64 ip, .slice (some ⟨g_w, 0, none⟩) 0 c_w] 26)) [.int .i64 p0, .int .i64 p1, .int .i64 p2, .int .i64 p3, .int .i64 p4, .string p5] 30); rwa [show (v3.alloc (.cells #[.int .i64 m, .int .i64 ip, .slice (some ⟨g_w, 0, none⟩) 0 c_w] 26)).heap.size = v3.heap.size + 1 by simp] at h0)
  clear B3 KA3 Ot3
  obtain ⟨⟨cA0, cA1, cA2⟩, dA0, dA1, dA2⟩ := KA4.out.o3
  obtain ⟨⟨cW0, cW1, cW2⟩, dW0, dW1, dW2⟩ := KW4.out.o3
  obtain ⟨⟨cV0, cV1, cV2, cV3, cV4, cV5⟩, dV0, dV1, dV2, dV3, dV4, dV5⟩ := KV4.out.of6
  go_wp2_with fail
  clear cA0 cA1 cA2 dA0 dA1 dA2 cW0 cW1 cW2 dW0 dW1 dW2 cV0 cV1 cV2 cV3 cV4 cV5 dV0 dV1 dV2 dV3 dV4 dV5
  change Calls _ _ _ ((v3.alloc (.cells #[.int .i64 m, .int .i64 ip, .slice (some ⟨g_w, 0, none⟩) 0 c_w] 26)).alloc (.cells #[.int .i64 p0, .int .i64 p1, .int .i64 p2, .int .i64 p3, .int .i64 p4, .string p5] 30)) _
  generalize (v3.alloc (.cells #[.int .i64 m, .int .i64 ip, .slice (some ⟨g_w, 0, none⟩) 0 c_w] 26)).alloc (.cells #[.int .i64 p0, .int .i64 p1, .int .i64 p2, .int .i64 p3, .int .i64 p4, .string p5] 30) = v4 at B4 KA4 Ot4 KW4 KV4 ⊢
  generalize v3.heap.size + 1 = g_V at KV4 n_A_V n_t_V n_W_V ⊢
  generalize v3.heap.size = g_W at KW4 n_A_W n_t_W n_W_V ⊢
  refine (toLink_any m ip a cap rs _ ((HA.out.below B4.out).mono B4.out.size) hn.out).mono ?_
  rintro e v5 ⟨g_x, rfl, ho_x, hb⟩
  have n_A_x : g_A ≠ g_x := by have h1 := KA4.out.lt; have h2 := (ho_x.lt g_x rfl).1; omega
  have n_W_x : g_W ≠ g_x := by have h1 := KW4.out.lt; have h2 := (ho_x.lt g_x rfl).1; omega
  have n_V_x : g_V ≠ g_x := by have h1 := KV4.out.lt; have h2 := (ho_x.lt g_x rfl).1; omega
  have n_t_x : g_t ≠ g_x := by have h1 := (Ot4.out.lt g_t rfl).2; have h2 := (ho_x.lt g_x rfl).1; omega
  have l_x : w.heap.size ≤ g_x := Nat.le_trans B4.out.size (ho_x.lt g_x rfl).1
  have B5 := Lib.hid (B4.out.trans (hb.mono B4.out.size))
  have KA5 := Lib.hid (KA4.out.below hb)
  have KW5 := Lib.hid (KW4.out.below hb)
  have KV5 := Lib.hid (KV4.out.below hb)
  have Ot5 := Lib.hid (Ot4.out.kept (below_any (row := none) hb) (.inr (by simp [Value.ownBlock])))
  have Ox5 := Lib.hid (own_down ho_x (Nat.zero_le _))
  clear hb B4 KA4 KW4 KV4 Ot4 ho_x
  have KXn := Lib.hid (Blk.new v5 [.int .i64 m, .int .i64 ip, .slice (some ⟨g_x, 0, none⟩) rs.length rs.length] 26)
  have l_X : w.heap.size ≤ v5.heap.size := B5.out.size
  have n_A_X : g_A ≠ v5.heap.size := by have h1 := KA5.out.lt; omega
  have n_W_X : g_W ≠ v5.heap.size := by have h1 := KW5.out.lt; omega
  have n_V_X : g_V ≠ v5.heap.size := by have h1 := KV5.out.lt; omega
  have n_t_X : g_t ≠ v5.heap.size := by have h1 := (Ot5.out.lt g_t rfl).2; omega
  have n_x_X : g_x ≠ v5.heap.size := by have h1 := (Ox5.out.lt g_x rfl).2; omega
  have Bn := Lib.hid (B5.out.alloc B5.out.size (.cells #[.int .i64 m, .int .i64 ip, .slice (some ⟨g_x, 0, none⟩) rs.length rs.length] 26))
  have KAn := Lib.hid (KA5.out.alloc (.cells #[.int .i64 m, .int .i64 ip, .slice (some ⟨g_x, 0, none⟩) rs.length rs.length] 26))
  have KWn := Lib.hid (KW5.out.alloc (.cells #[.int .i64 m, .int .i64 ip, .slice (some ⟨g_x, 0, none⟩) rs.length rs.length] 26))
  have KVn := Lib.hid (KV5.out.alloc (.cells #[.int .i64 m, .int .i64 ip, .slice (some ⟨g_x, 0, none⟩) rs.length rs.length] 26))
  have Otn := Lib.hid (Ot5.out.alloc (.cells #[.int .i64 m, .int .i64 ip, .slice (some ⟨g_x, 0, none⟩) rs.length rs.length] 26))
  have Oxn := Lib.hid (Ox5.out.alloc (.cells #[.int .i64 m, .int .i64 ip, .slice (some ⟨g_x, 0, none⟩) rs.length rs.length] 26))
  clear B5 KA5 KW5 KV5 Ot5 Ox5
  obtain ⟨⟨cA0, cA1, cA2⟩, dA0, dA1, dA2⟩ := KAn.out.o3
  obtain ⟨⟨cW0, cW1, cW2⟩, dW0, dW1, dW2⟩ := KWn.out.o3
  obtain ⟨⟨cV0, cV1, cV2, cV3, cV4, cV5⟩, dV0, dV1, dV2, dV3, dV4, dV5⟩ := KVn.out.of6
  go_wp2_with fail
  clear cA0 cA1 cA2 dA0 dA1 dA2 cW0 cW1 cW2 dW0 dW1 dW2 cV0 cV1 cV2 cV3 cV4 cV5 dV0 dV1 dV2 dV3 dV4 dV5
  change Calls _ _ _ (v5.alloc (.cells #[.int .i64 m, .int .i64 ip, .slice (some ⟨g_x, 0, none⟩) rs.length rs.length] 26)) _
  generalize v5.alloc (.cells #[.int .i64 m, .int .i64 ip, .slice (some ⟨g_x, 0, none⟩) rs.length rs.length] 26) = v6 at KXn Bn KAn KWn KVn Otn Oxn ⊢
  generalize v5.heap.size = g_X at KXn l_X n_A_X n_W_X n_V_X n_t_X n_x_X ⊢
  clear v5
  have KA6 := KAn
  clear KAn
  have KW6 := KWn
  clear KWn
  have KV6 := KVn
  clear KVn
  have KX6 := KXn
  clear KXn
  have Ot6 := Otn
  clear Otn
  have Ox6 := Oxn
  clear Oxn
  have B6 := Bn
  clear Bn
  refine (CI.out g_x _ (Row.ownK Ox6.out) (HG.out.below B6.out HG.out.lt) (HX.out.below B6.out HX.out.lt)).mono ?_
  rintro e v7 ⟨a_g, c_g, rfl, ho, hb⟩
  clear ho
  have B7 := Lib.hid (B6.out.trans (hb.mono B6.out.size))
  have KA7 := Lib.hid (KA6.out.below hb)
  have KW7 := Lib.hid (KW6.out.below hb)
  have KV7 := Lib.hid (KV6.out.below hb)
  have KX7 := Lib.hid (KX6.out.below hb)
  have Ot7 := Lib.hid (Ot6.out.kept (below_any (row := none) hb) (.inr (by simp [Value.ownBlock])))
  have Ox7 := Lib.hid (Ox6.out.kept (below_any (row := none) hb) (.inr (by simp [Value.ownBlock])))
  clear hb B6 KA6 KW6 KV6 KX6 Ot6 Ox6
  have B8 := Lib.hid ((B7.out.alloc (by have h0 := B7.out.size; simp <;> omega) (.cells #[.int .i64 m, .int .i64 ip, .slice a_g 0 c_g] 26)).alloc (by have h0 := B7.out.size; simp <;> omega) (.cells #[.int .i64 p0, .int .i64 p1, .int .i64 p2, .int .i64 p3, .int .i64 p4, .string p5] 30))
  have lt_A := KA7.out.lt
  have n_A_G : g_A ≠ v7.heap.size := by omega
  have n_A_H : g_A ≠ v7.heap.size + 1 := by omega
  clear lt_A
  have lt_W := KW7.out.lt
  have n_W_G : g_W ≠ v7.heap.size := by omega
  have n_W_H : g_W ≠ v7.heap.size + 1 := by omega
  clear lt_W
  have lt_V := KV7.out.lt
  have n_V_G : g_V ≠ v7.heap.size := by omega
  have n_V_H : g_V ≠ v7.heap.size + 1 := by omega
  clear lt_V
  have lt_X := KX7.out.lt
  have n_X_G : g_X ≠ v7.heap.size := by omega
  have n_X_H : g_X ≠ v7.heap.size + 1 := by omega
  clear lt_X
  have lt_t := (Ot7.out.lt g_t rfl).2
  have n_t_G : g_t ≠ v7.heap.size := by omega
  have n_t_H : g_t ≠ v7.heap.size + 1 := by omega
  clear lt_t
  have lt_x := (Ox7.out.lt g_x rfl).2
  have n_x_G : g_x ≠ v7.heap.size := by omega
  have n_x_H : g_x ≠ v7.heap.size + 1 := by omega
  clear lt_x
  have KA8 := Lib.hid ((KA7.out.alloc (.cells #[.int .i64 m, .int .i64 ip, .slice a_g 0 c_g] 26)).alloc (.cells #[.int .i64 p0, .int .i64 p1, .int .i64 p2, .int .i64 p3, .int .i64 p4, .string p5] 30))
  have KW8 := Lib.hid ((KW7.out.alloc (.cells #[.int .i64 m, .int .i64 ip, .slice a_g 0 c_g] 26)).alloc (.cells #[.int .i64 p0, .int .i64 p1, .int .i64 p2, .int .i64 p3, .int .i64 p4, .string p5] 30))
  have KV8 := Lib.hid ((KV7.out.alloc (.cells #[.int .i64 m, .int .i64 ip, .slice a_g 0 c_g] 26)).alloc (.cells #[.int .i64 p0, .int .i64 p1, .int .i64 p2, .int .i64 p3, .int .i64 p4, .string p5] 30))
  have KX8 := Lib.hid ((KX7.out.alloc (.cells #[.int .i64 m, .int .i64 ip, .slice a_g 0 c_g] 26)).alloc (.cells #[.int .i64 p0, .int .i64 p1, .int .i64 p2, .int .i64 p3, .int .i64 p4, .string p5] 30))
  have Ot8 := Lib.hid ((Ot7.out.alloc (.cells #[.int .i64 m, .int .i64 ip, .slice a_g 0 c_g] 26)).alloc (.cells #[.int .i64 p0, .int .i64 p1, .int .i64 p2, .int .i64 p3, .int .i64 p4, .string p5] 30))
  have Ox8 := Lib.hid ((Ox7.out.alloc (.cells #[.int .i64 m, .int .i64 ip, .slice a_g 0 c_g] 26)).alloc (.cells #[.int .i64 p0, .int .i64 p1, .int .i64 p2, .int .i64 p3, .int .i64 p4, .string p5] 30))
  have KG8 := Lib.hid (show Blk ((v7.alloc (.cells #[.int .i64 m, .int .i64 ip, .slice a_g 0 c_g] 26)).alloc (.cells #[.int .i64 p0, .int .i64 p1, .int .i64 p2, .int .i64 p3, .int .i64 p4, .string p5] 30)) (v7.heap.size) [.int .i64 m, .int .i64 ip, .slice a_g 0 c_g] from ((Blk.new v7 [.int .i64 m, .int .i64 ip, .slice a_g 0 c_g] 26).alloc (.cells #[.int .i64 p0, .int .i64 p1, .int .i64 p2, .int .i64 p3, .int .i64 p4, .string p5] 30)))
  have n_G_H : v7.heap.size ≠ v7.heap.size + 1 := by omega
  have KH8 := Lib.hid (show Blk ((v7.alloc (.cells #[.int .i64 m, .int .i64 ip, .slice a_g 0 c_g] 26)).alloc (.cells #[.int .i64 p0, .int .i64 p1, .int .i64 p2, .int .i64 p3, .int .i64 p4, .string p5] 30)) (v7.heap.size + 1) [.int .i64 p0, .int .i64 p1, .int .i64 p2, .int .i64 p3, .int .i64 p4, .string p5] by have h0 := (Blk.new (v7.alloc (.cells #[.int .i64 m, .int .i64 ip, .slice a_g 0 c_g] 26)) [.int .i64 p0, .int .i64 p1, .int .i64 p2, .int .i64 p3, .int .i64 p4, .string p5] 30); rwa [show (v7.alloc (.cells #[.int .i64 m, .int .i64 ip, .slice a_g 0 c_g] 26)).heap.size = v7.heap.size + 1 by simp] at h0)
  clear B7 KA7 KW7 KV7 KX7 Ot7 Ox7
  obtain ⟨⟨cA0, cA1, cA2⟩, dA0, dA1, dA2⟩ := KA8.out.o3
  obtain ⟨⟨cW0, cW1, cW2⟩, dW0, dW1, dW2⟩ := KW8.out.o3
  obtain ⟨⟨cV0, cV1, cV2, cV3, cV4, cV5⟩, dV0, dV1, dV2, dV3, dV4, dV5⟩ := KV8.out.of6
  obtain ⟨⟨cX0, cX1, cX2⟩, dX0, dX1, dX2⟩ := KX8.out.o3
  obtain ⟨⟨cG0, cG1, cG2⟩, dG0, dG1, dG2⟩ := KG8.out.o3
  obtain ⟨⟨cH0, cH1, cH2, cH3, cH4, cH5⟩, dH0, dH1, dH2, dH3, dH4, dH5⟩ := KH8.out.of6
  go_wp2_with fail
  clear cA0 cA1 cA2 dA0 dA1 dA2 cW0 cW1 cW2 dW0 dW1 dW2 cV0 cV1 cV2 cV3 cV4 cV5 dV0 dV1 dV2 dV3 dV4 dV5 cX0 cX1 cX2 dX0 dX1 dX2 cG0 cG1 cG2 dG0 dG1 dG2 cH0 cH1 cH2 cH3 cH4 cH5 dH0 dH1 dH2 dH3 dH4 dH5
  change Calls _ _ _ ((v7.alloc (.cells #[.int .i64 m, .int .i64 ip, .slice a_g 0 c_g] 26)).alloc (.cells #[.int .i64 p0, .int .i64 p1, .int .i64 p2, .int .i64 p3, .int .i64 p4, .string p5] 30)) _
  generalize (v7.alloc (.cells #[.int .i64 m, .int .i64 ip, .slice a_g 0 c_g] 26)).alloc (.cells #[.int .i64 p0, .int .i64 p1, .int .i64 p2, .int .i64 p3, .int .i64 p4, .string p5] 30) = v8 at B8 KA8 KW8 KV8 KX8 Ot8 Ox8 KG8 KH8 ⊢
  generalize v7.heap.size + 1 = g_H at KH8 n_A_H n_W_H n_V_H n_X_H n_t_H n_x_H n_G_H ⊢
  generalize v7.heap.size = g_G at KG8 n_A_G n_W_G n_V_G n_X_G n_t_G n_x_G n_G_H ⊢
  refine (eqLink_self m ip a_g (some ⟨g_w, 0, none⟩) 0 c_g c_w [] _ rfl Row.nil Row.nil (by omega)).mono ?_
  rintro e v9 ⟨rfl, hb⟩
  have B9 := Lib.hid (B8.out.trans (hb.mono B8.out.size))
  have KA9 := Lib.hid (KA8.out.below hb)
  have KW9 := Lib.hid (KW8.out.below hb)
  have KV9 := Lib.hid (KV8.out.below hb)
  have KX9 := Lib.hid (KX8.out.below hb)
  have KG9 := Lib.hid (KG8.out.below hb)
  have KH9 := Lib.hid (KH8.out.below hb)
  have Ot9 := Lib.hid (Ot8.out.kept (below_any (row := none) hb) (.inr (by simp [Value.ownBlock])))
  have Ox9 := Lib.hid (Ox8.out.kept (below_any (row := none) hb) (.inr (by simp [Value.ownBlock])))
  clear hb B8 KA8 KW8 KV8 KX8 KG8 KH8 Ot8 Ox8
  obtain ⟨⟨cA0, cA1, cA2⟩, dA0, dA1, dA2⟩ := KA9.out.o3
  obtain ⟨⟨cW0, cW1, cW2⟩, dW0, dW1, dW2⟩ := KW9.out.o3
  obtain ⟨⟨cV0, cV1, cV2, cV3, cV4, cV5⟩, dV0, dV1, dV2, dV3, dV4, dV5⟩ := KV9.out.of6
  obtain ⟨⟨cX0, cX1, cX2⟩, dX0, dX1, dX2⟩ := KX9.out.o3
  obtain ⟨⟨cG0, cG1, cG2⟩, dG0, dG1, dG2⟩ := KG9.out.o3
  obtain ⟨⟨cH0, cH1, cH2, cH3, cH4, cH5⟩, dH0, dH1, dH2, dH3, dH4, dH5⟩ := KH9.out.of6
  go_wp2_with fail
  clear cA0 cA1 cA2 dA0 dA1 dA2 cW0 cW1 cW2 dW0 dW1 dW2 cV0 cV1 cV2 cV3 cV4 cV5 dV0 dV1 dV2 dV3 dV4 dV5 cX0 cX1 cX2 dX0 dX1 dX2 cG0 cG1 cG2 dG0 dG1 dG2 cH0 cH1 cH2 cH3 cH4 cH5 dH0 dH1 dH2 dH3 dH4 dH5
  refine (E.out _).mono ?_
  rintro e v10 ⟨rfl, hb⟩
  have B10 := Lib.hid (B9.out.trans (hb.mono B9.out.size))
  have KA10 := Lib.hid (KA9.out.below hb)
  have KW10 := Lib.hid (KW9.out.below hb)
  have KV10 := Lib.hid (KV9.out.below hb)
  have KX10 := Lib.hid (KX9.out.below hb)
  have KG10 := Lib.hid (KG9.out.below hb)
  have KH10 := Lib.hid (KH9.out.below hb)
  have Ot10 := Lib.hid (Ot9.out.kept (below_any (row := none) hb) (.inr (by simp [Value.ownBlock])))
  have Ox10 := Lib.hid (Ox9.out.kept (below_any (row := none) hb) (.inr (by simp [Value.ownBlock])))
  clear hb B9 KA9 KW9 KV9 KX9 KG9 KH9 Ot9 Ox9
  obtain ⟨⟨cA0, cA1, cA2⟩, dA0, dA1, dA2⟩ := KA10.out.o3
  obtain ⟨⟨cW0, cW1, cW2⟩, dW0, dW1, dW2⟩ := KW10.out.o3
  obtain ⟨⟨cV0, cV1, cV2, cV3, cV4, cV5⟩, dV0, dV1, dV2, dV3, dV4, dV5⟩ := KV10.out.of6
  obtain ⟨⟨cX0, cX1, cX2⟩, dX0, dX1, dX2⟩ := KX10.out.o3
  obtain ⟨⟨cG0, cG1, cG2⟩, dG0, dG1, dG2⟩ := KG10.out.o3
  obtain ⟨⟨cH0, cH1, cH2, cH3, cH4, cH5⟩, dH0, dH1, dH2, dH3, dH4, dH5⟩ := KH10.out.of6
  go_wp2_with fail
  clear cA0 cA1 cA2 dA0 dA1 dA2 cW0 cW1 cW2 dW0 dW1 dW2 cV0 cV1 cV2 cV3 cV4 cV5 dV0 dV1 dV2 dV3 dV4 dV5 cX0 cX1 cX2 dX0 dX1 dX2 cG0 cG1 cG2 dG0 dG1 dG2 cH0 cH1 cH2 cH3 cH4 cH5 dH0 dH1 dH2 dH3 dH4 dH5
  obtain ⟨⟨cA0, cA1, cA2⟩, dA0, dA1, dA2⟩ := KA10.out.o3
  obtain ⟨⟨cX0, cX1, cX2⟩, dX0, dX1, dX2⟩ := KX10.out.o3
  have P10_0 : True := trivial
  have P10_1 : True := trivial
  go_region_held3 (fun w' => (w'.cell? ⟨g_X, 0, none⟩ = some (.int .i64 m) ∧ w'.cell? ⟨g_X, 1, none⟩ = some (.int .i64 ip) ∧ w'.cell? ⟨g_X, 2, none⟩ = some (.slice (some ⟨g_x, 0, none⟩) rs.length rs.length)) ∧ (w'.cell? ⟨g_A, 0, none⟩ = some (.int .i64 m) ∧ w'.cell? ⟨g_A, 1, none⟩ = some (.int .i64 ip) ∧ w'.cell? ⟨g_A, 2, none⟩ = some (.slice a rs.length cap)))
   (first | go_keep | (exact ⟨KX11.out.o3.1, KA11.out.o3.1⟩) | (exact ⟨KX12.out.o3.1, KA12.out.o3.1⟩))
   (first | (have q := P10_0; go_at_call 21; clear q P10_0; refine (toLink_any m ip a cap rs _ ((HA.out.below B10.out.drew).mono B10.out.drew.size) hn.out).mono ?_; rintro e v11 ⟨g_z, rfl, ho_z, hb⟩; replace hb := (Below.refl _ v10).drew.trans hb; replace ho_z := own_down ho_z (show v10.heap.size ≤ v10.drew.heap.size from Nat.le_refl _); have n_A_z : g_A ≠ g_z := (by have h1 := KA10.out.lt; have h2 := (ho_z.lt g_z rfl).1; omega); have n_W_z : g_W ≠ g_z := (by have h1 := KW10.out.lt; have h2 := (ho_z.lt g_z rfl).1; omega); have n_V_z : g_V ≠ g_z := (by have h1 := KV10.out.lt; have h2 := (ho_z.lt g_z rfl).1; omega); have n_X_z : g_X ≠ g_z := (by have h1 := KX10.out.lt; have h2 := (ho_z.lt g_z rfl).1; omega); have n_G_z : g_G ≠ g_z := (by have h1 := KG10.out.lt; have h2 := (ho_z.lt g_z rfl).1; omega); have n_H_z : g_H ≠ g_z := (by have h1 := KH10.out.lt; have h2 := (ho_z.lt g_z rfl).1; omega); have n_t_z : g_t ≠ g_z := (by have h1 := (Ot10.out.lt g_t rfl).2; have h2 := (ho_z.lt g_z rfl).1; omega); have n_x_z : g_x ≠ g_z := (by have h1 := (Ox10.out.lt g_x rfl).2; have h2 := (ho_z.lt g_z rfl).1; omega); have l_z : w.heap.size ≤ g_z := Nat.le_trans B10.out.size (ho_z.lt g_z rfl).1; have B11 := Lib.hid (B10.out.trans (hb.mono B10.out.size)); have KA11 := Lib.hid (KA10.out.below hb); have KW11 := Lib.hid (KW10.out.below hb); have KV11 := Lib.hid (KV10.out.below hb); have KX11 := Lib.hid (KX10.out.below hb); have KG11 := Lib.hid (KG10.out.below hb); have KH11 := Lib.hid (KH10.out.below hb); have Ot11 := Lib.hid (Ot10.out.kept (below_any (row := none) hb) (.inr (by simp [Value.ownBlock]))); have Ox11 := Lib.hid (Ox10.out.kept (below_any (row := none) hb) (.inr (by simp [Value.ownBlock]))); have Oz11 := Lib.hid (own_down ho_z (Nat.zero_le _)); clear hb B10 KA10 KW10 KV10 KX10 KG10 KH10 Ot10 Ox10 ho_z) | (have q := P10_1; go_at_call 22; clear q P10_1; refine (eqLink_self m ip (some ⟨g_x, 0, none⟩) (some ⟨g_z, 0, none⟩) rs.length rs.length rs.length rs _ rfl (Row.ownK Ox11.out) (Row.ownK Oz11.out) (Nat.le_succ_of_le hn.out)).mono ?_; rintro e v12 ⟨rfl, hb⟩; have B12 := Lib.hid (B11.out.trans (hb.mono B11.out.size)); have KA12 := Lib.hid (KA11.out.below hb); have KW12 := Lib.hid (KW11.out.below hb); have KV12 := Lib.hid (KV11.out.below hb); have KX12 := Lib.hid (KX11.out.below hb); have KG12 := Lib.hid (KG11.out.below hb); have KH12 := Lib.hid (KH11.out.below hb); have Ot12 := Lib.hid (Ot11.out.kept (below_any (row := none) hb) (.inr (by simp [Value.ownBlock]))); have Ox12 := Lib.hid (Ox11.out.kept (below_any (row := none) hb) (.inr (by simp [Value.ownBlock]))); have Oz12 := Lib.hid (Oz11.out.kept (below_any (row := none) hb) (.inr (by simp [Value.ownBlock]))); clear hb B11 KA11 KW11 KV11 KX11 KG11 KH11 Ot11 Ox11 Oz11))
  try clear cA0 cA1 cA2 dA0 dA1 dA2 cX0 cX1 cX2 dX0 dX1 dX2
  obtain ⟨⟨cA0, cA1, cA2⟩, dA0, dA1, dA2⟩ := KA12.out.o3
  obtain ⟨⟨cW0, cW1, cW2⟩, dW0, dW1, dW2⟩ := KW12.out.o3
  obtain ⟨⟨cV0, cV1, cV2, cV3, cV4, cV5⟩, dV0, dV1, dV2, dV3, dV4, dV5⟩ := KV12.out.of6
  obtain ⟨⟨cX0, cX1, cX2⟩, dX0, dX1, dX2⟩ := KX12.out.o3
  obtain ⟨⟨cG0, cG1, cG2⟩, dG0, dG1, dG2⟩ := KG12.out.o3
  obtain ⟨⟨cH0, cH1, cH2, cH3, cH4, cH5⟩, dH0, dH1, dH2, dH3, dH4, dH5⟩ := KH12.out.of6
  go_wp2_with fail
  clear cA0 cA1 cA2 dA0 dA1 dA2 cW0 cW1 cW2 dW0 dW1 dW2 cV0 cV1 cV2 cV3 cV4 cV5 dV0 dV1 dV2 dV3 dV4 dV5 cX0 cX1 cX2 dX0 dX1 dX2 cG0 cG1 cG2 dG0 dG1 dG2 cH0 cH1 cH2 cH3 cH4 cH5 dH0 dH1 dH2 dH3 dH4 dH5
  refine (markLink_any m ip 0 g_x rs.length rs.length 1 rs _ rfl Ox12.out (by decide) (Nat.le_succ_of_le hn.out)).mono ?_
  rintro e v13 ⟨rfl, ho, hg⟩
  have B13 := Lib.hid (B12.out.trans (grown_below hg l_x B12.out.size))
  have KA13 := Lib.hid (KA12.out.grown hg (n_A_x))
  have KW13 := Lib.hid (KW12.out.grown hg (n_W_x))
  have KV13 := Lib.hid (KV12.out.grown hg (n_V_x))
  have KX13 := Lib.hid (KX12.out.grown hg (fun e => n_x_X e.symm))
  have KG13 := Lib.hid (KG12.out.grown hg (fun e => n_x_G e.symm))
  have KH13 := Lib.hid (KH12.out.grown hg (fun e => n_x_H e.symm))
  have Ot13 := Lib.hid (Ot12.out.kept hg (.inr (own_ne (n_t_x))))
  have Ox13 := Lib.hid ho
  have Oz13 := Lib.hid (Oz12.out.kept hg (.inr (own_ne (fun e => n_x_z e.symm))))
  clear hg B12 KA12 KW12 KV12 KX12 KG12 KH12 Ot12 Ox12 Oz12 ho
  have hk1 : (0 : Int) ≤ ((1 + 3 * rs.length : Nat) : Int) := Int.natCast_nonneg _
  obtain ⟨⟨cA0, cA1, cA2⟩, dA0, dA1, dA2⟩ := KA13.out.o3
  obtain ⟨⟨cW0, cW1, cW2⟩, dW0, dW1, dW2⟩ := KW13.out.o3
  obtain ⟨⟨cV0, cV1, cV2, cV3, cV4, cV5⟩, dV0, dV1, dV2, dV3, dV4, dV5⟩ := KV13.out.of6
  obtain ⟨⟨cX0, cX1, cX2⟩, dX0, dX1, dX2⟩ := KX13.out.o3
  obtain ⟨⟨cG0, cG1, cG2⟩, dG0, dG1, dG2⟩ := KG13.out.o3
  obtain ⟨⟨cH0, cH1, cH2, cH3, cH4, cH5⟩, dH0, dH1, dH2, dH3, dH4, dH5⟩ := KH13.out.of6
  go_wp2_with fail
  clear cA0 cA1 cA2 dA0 dA1 dA2 cW0 cW1 cW2 dW0 dW1 dW2 cV0 cV1 cV2 cV3 cV4 cV5 dV0 dV1 dV2 dV3 dV4 dV5 cX0 cX1 cX2 dX0 dX1 dX2 cG0 cG1 cG2 dG0 dG1 dG2 cH0 cH1 cH2 cH3 cH4 cH5 dH0 dH1 dH2 dH3 dH4 dH5
  refine (eqLink_self m ip a_g (some ⟨g_w, 0, none⟩) 0 c_g c_w [] _ rfl Row.nil Row.nil (by omega)).mono ?_
  rintro e v14 ⟨rfl, hb⟩
  have B14 := Lib.hid (B13.out.trans (hb.mono B13.out.size))
  have KA14 := Lib.hid (KA13.out.below hb)
  have KW14 := Lib.hid (KW13.out.below hb)
  have KV14 := Lib.hid (KV13.out.below hb)
  have KX14 := Lib.hid (KX13.out.below hb)
  have KG14 := Lib.hid (KG13.out.below hb)
  have KH14 := Lib.hid (KH13.out.below hb)
  have Ot14 := Lib.hid (Ot13.out.kept (below_any (row := none) hb) (.inr (by simp [Value.ownBlock])))
  have Ox14 := Lib.hid (Ox13.out.kept (below_any (row := none) hb) (.inr (by simp [Value.ownBlock])))
  have Oz14 := Lib.hid (Oz13.out.kept (below_any (row := none) hb) (.inr (by simp [Value.ownBlock])))
  clear hb B13 KA13 KW13 KV13 KX13 KG13 KH13 Ot13 Ox13 Oz13
  obtain ⟨⟨cA0, cA1, cA2⟩, dA0, dA1, dA2⟩ := KA14.out.o3
  obtain ⟨⟨cW0, cW1, cW2⟩, dW0, dW1, dW2⟩ := KW14.out.o3
  obtain ⟨⟨cV0, cV1, cV2, cV3, cV4, cV5⟩, dV0, dV1, dV2, dV3, dV4, dV5⟩ := KV14.out.of6
  obtain ⟨⟨cX0, cX1, cX2⟩, dX0, dX1, dX2⟩ := KX14.out.o3
  obtain ⟨⟨cG0, cG1, cG2⟩, dG0, dG1, dG2⟩ := KG14.out.o3
  obtain ⟨⟨cH0, cH1, cH2, cH3, cH4, cH5⟩, dH0, dH1, dH2, dH3, dH4, dH5⟩ := KH14.out.of6
  go_wp2_with fail
  clear cA0 cA1 cA2 dA0 dA1 dA2 cW0 cW1 cW2 dW0 dW1 dW2 cV0 cV1 cV2 cV3 cV4 cV5 dV0 dV1 dV2 dV3 dV4 dV5 cX0 cX1 cX2 dX0 dX1 dX2 cG0 cG1 cG2 dG0 dG1 dG2 cH0 cH1 cH2 cH3 cH4 cH5 dH0 dH1 dH2 dH3 dH4 dH5
  refine (E.out _).mono ?_
  rintro e v15 ⟨rfl, hb⟩
  have B15 := Lib.hid (B14.out.trans (hb.mono B14.out.size))
  have KA15 := Lib.hid (KA14.out.below hb)
  have KW15 := Lib.hid (KW14.out.below hb)
  have KV15 := Lib.hid (KV14.out.below hb)
  have KX15 := Lib.hid (KX14.out.below hb)
  have KG15 := Lib.hid (KG14.out.below hb)
  have KH15 := Lib.hid (KH14.out.below hb)
  have Ot15 := Lib.hid (Ot14.out.kept (below_any (row := none) hb) (.inr (by simp [Value.ownBlock])))
  have Ox15 := Lib.hid (Ox14.out.kept (below_any (row := none) hb) (.inr (by simp [Value.ownBlock])))
  have Oz15 := Lib.hid (Oz14.out.kept (below_any (row := none) hb) (.inr (by simp [Value.ownBlock])))
  clear hb B14 KA14 KW14 KV14 KX14 KG14 KH14 Ot14 Ox14 Oz14
  obtain ⟨⟨cA0, cA1, cA2⟩, dA0, dA1, dA2⟩ := KA15.out.o3
  obtain ⟨⟨cW0, cW1, cW2⟩, dW0, dW1, dW2⟩ := KW15.out.o3
  obtain ⟨⟨cV0, cV1, cV2, cV3, cV4, cV5⟩, dV0, dV1, dV2, dV3, dV4, dV5⟩ := KV15.out.of6
  obtain ⟨⟨cX0, cX1, cX2⟩, dX0, dX1, dX2⟩ := KX15.out.o3
  obtain ⟨⟨cG0, cG1, cG2⟩, dG0, dG1, dG2⟩ := KG15.out.o3
  obtain ⟨⟨cH0, cH1, cH2, cH3, cH4, cH5⟩, dH0, dH1, dH2, dH3, dH4, dH5⟩ := KH15.out.of6
  go_wp2_with fail
  clear cA0 cA1 cA2 dA0 dA1 dA2 cW0 cW1 cW2 dW0 dW1 dW2 cV0 cV1 cV2 cV3 cV4 cV5 dV0 dV1 dV2 dV3 dV4 dV5 cX0 cX1 cX2 dX0 dX1 dX2 cG0 cG1 cG2 dG0 dG1 dG2 cH0 cH1 cH2 cH3 cH4 cH5 dH0 dH1 dH2 dH3 dH4 dH5
  refine (markLink_none m ip a_g c_g 1 _).mono ?_
  rintro e v16 ⟨rfl, hb⟩
  have B16 := Lib.hid (B15.out.trans (hb.mono B15.out.size))
  have KA16 := Lib.hid (KA15.out.below hb)
  have KW16 := Lib.hid (KW15.out.below hb)
  have KV16 := Lib.hid (KV15.out.below hb)
  have KX16 := Lib.hid (KX15.out.below hb)
  have KG16 := Lib.hid (KG15.out.below hb)
  have KH16 := Lib.hid (KH15.out.below hb)
  have Ot16 := Lib.hid (Ot15.out.kept (below_any (row := none) hb) (.inr (by simp [Value.ownBlock])))
  have Ox16 := Lib.hid (Ox15.out.kept (below_any (row := none) hb) (.inr (by simp [Value.ownBlock])))
  have Oz16 := Lib.hid (Oz15.out.kept (below_any (row := none) hb) (.inr (by simp [Value.ownBlock])))
  clear hb B15 KA15 KW15 KV15 KX15 KG15 KH15 Ot15 Ox15 Oz15
  obtain ⟨⟨cA0, cA1, cA2⟩, dA0, dA1, dA2⟩ := KA16.out.o3
  obtain ⟨⟨cW0, cW1, cW2⟩, dW0, dW1, dW2⟩ := KW16.out.o3
  obtain ⟨⟨cV0, cV1, cV2, cV3, cV4, cV5⟩, dV0, dV1, dV2, dV3, dV4, dV5⟩ := KV16.out.of6
  obtain ⟨⟨cX0, cX1, cX2⟩, dX0, dX1, dX2⟩ := KX16.out.o3
  obtain ⟨⟨cG0, cG1, cG2⟩, dG0, dG1, dG2⟩ := KG16.out.o3
  obtain ⟨⟨cH0, cH1, cH2, cH3, cH4, cH5⟩, dH0, dH1, dH2, dH3, dH4, dH5⟩ := KH16.out.of6
  go_wp2_with fail
  clear cA0 cA1 cA2 dA0 dA1 dA2 cW0 cW1 cW2 dW0 dW1 dW2 cV0 cV1 cV2 cV3 cV4 cV5 dV0 dV1 dV2 dV3 dV4 dV5 cX0 cX1 cX2 dX0 dX1 dX2 cG0 cG1 cG2 dG0 dG1 dG2 cH0 cH1 cH2 cH3 cH4 cH5 dH0 dH1 dH2 dH3 dH4 dH5
  refine (heldLink_any m ip a_g 0 c_g 1 _ Row.nil (by decide) (by omega)).mono ?_
  rintro e v17 ⟨rfl, hb⟩
  have B17 := Lib.hid (B16.out.trans (hb.mono B16.out.size))
  have KA17 := Lib.hid (KA16.out.below hb)
  have KW17 := Lib.hid (KW16.out.below hb)
  have KV17 := Lib.hid (KV16.out.below hb)
  have KX17 := Lib.hid (KX16.out.below hb)
  have KG17 := Lib.hid (KG16.out.below hb)
  have KH17 := Lib.hid (KH16.out.below hb)
  have Ot17 := Lib.hid (Ot16.out.kept (below_any (row := none) hb) (.inr (by simp [Value.ownBlock])))
  have Ox17 := Lib.hid (Ox16.out.kept (below_any (row := none) hb) (.inr (by simp [Value.ownBlock])))
  have Oz17 := Lib.hid (Oz16.out.kept (below_any (row := none) hb) (.inr (by simp [Value.ownBlock])))
  clear hb B16 KA16 KW16 KV16 KX16 KG16 KH16 Ot16 Ox16 Oz16
  obtain ⟨⟨cA0, cA1, cA2⟩, dA0, dA1, dA2⟩ := KA17.out.o3
  obtain ⟨⟨cW0, cW1, cW2⟩, dW0, dW1, dW2⟩ := KW17.out.o3
  obtain ⟨⟨cV0, cV1, cV2, cV3, cV4, cV5⟩, dV0, dV1, dV2, dV3, dV4, dV5⟩ := KV17.out.of6
  obtain ⟨⟨cX0, cX1, cX2⟩, dX0, dX1, dX2⟩ := KX17.out.o3
  obtain ⟨⟨cG0, cG1, cG2⟩, dG0, dG1, dG2⟩ := KG17.out.o3
  obtain ⟨⟨cH0, cH1, cH2, cH3, cH4, cH5⟩, dH0, dH1, dH2, dH3, dH4, dH5⟩ := KH17.out.of6
  go_wp2_with fail
  clear cA0 cA1 cA2 dA0 dA1 dA2 cW0 cW1 cW2 dW0 dW1 dW2 cV0 cV1 cV2 cV3 cV4 cV5 dV0 dV1 dV2 dV3 dV4 dV5 cX0 cX1 cX2 dX0 dX1 dX2 cG0 cG1 cG2 dG0 dG1 dG2 cH0 cH1 cH2 cH3 cH4 cH5 dH0 dH1 dH2 dH3 dH4 dH5
  refine (toLink_any m ip a cap rs _ ((HA.out.below B17.out).mono B17.out.size) hn.out).mono ?_
  rintro e v18 ⟨g_y, rfl, ho_y, hb⟩
  have n_A_y : g_A ≠ g_y := by have h1 := KA17.out.lt; have h2 := (ho_y.lt g_y rfl).1; omega
  have n_W_y : g_W ≠ g_y := by have h1 := KW17.out.lt; have h2 := (ho_y.lt g_y rfl).1; omega
  have n_V_y : g_V ≠ g_y := by have h1 := KV17.out.lt; have h2 := (ho_y.lt g_y rfl).1; omega
  have n_X_y : g_X ≠ g_y := by have h1 := KX17.out.lt; have h2 := (ho_y.lt g_y rfl).1; omega
  have n_G_y : g_G ≠ g_y := by have h1 := KG17.out.lt; have h2 := (ho_y.lt g_y rfl).1; omega
  have n_H_y : g_H ≠ g_y := by have h1 := KH17.out.lt; have h2 := (ho_y.lt g_y rfl).1; omega
  have n_t_y : g_t ≠ g_y := by have h1 := (Ot17.out.lt g_t rfl).2; have h2 := (ho_y.lt g_y rfl).1; omega
  have n_x_y : g_x ≠ g_y := by have h1 := (Ox17.out.lt g_x rfl).2; have h2 := (ho_y.lt g_y rfl).1; omega
  have n_z_y : g_z ≠ g_y := by have h1 := (Oz17.out.lt g_z rfl).2; have h2 := (ho_y.lt g_y rfl).1; omega
  have l_y : w.heap.size ≤ g_y := Nat.le_trans B17.out.size (ho_y.lt g_y rfl).1
  have B18 := Lib.hid (B17.out.trans (hb.mono B17.out.size))
  have KA18 := Lib.hid (KA17.out.below hb)
  have KW18 := Lib.hid (KW17.out.below hb)
  have KV18 := Lib.hid (KV17.out.below hb)
  have KX18 := Lib.hid (KX17.out.below hb)
  have KG18 := Lib.hid (KG17.out.below hb)
  have KH18 := Lib.hid (KH17.out.below hb)
  have Ot18 := Lib.hid (Ot17.out.kept (below_any (row := none) hb) (.inr (by simp [Value.ownBlock])))
  have Ox18 := Lib.hid (Ox17.out.kept (below_any (row := none) hb) (.inr (by simp [Value.ownBlock])))
  have Oz18 := Lib.hid (Oz17.out.kept (below_any (row := none) hb) (.inr (by simp [Value.ownBlock])))
  have Oy18 := Lib.hid (own_down ho_y (Nat.zero_le _))
  clear hb B17 KA17 KW17 KV17 KX17 KG17 KH17 Ot17 Ox17 Oz17 ho_y
  obtain ⟨⟨cA0, cA1, cA2⟩, dA0, dA1, dA2⟩ := KA18.out.o3
  obtain ⟨⟨cW0, cW1, cW2⟩, dW0, dW1, dW2⟩ := KW18.out.o3
  obtain ⟨⟨cV0, cV1, cV2, cV3, cV4, cV5⟩, dV0, dV1, dV2, dV3, dV4, dV5⟩ := KV18.out.of6
  obtain ⟨⟨cX0, cX1, cX2⟩, dX0, dX1, dX2⟩ := KX18.out.o3
  obtain ⟨⟨cG0, cG1, cG2⟩, dG0, dG1, dG2⟩ := KG18.out.o3
  obtain ⟨⟨cH0, cH1, cH2, cH3, cH4, cH5⟩, dH0, dH1, dH2, dH3, dH4, dH5⟩ := KH18.out.of6
  go_wp2_with fail
  clear cA0 cA1 cA2 dA0 dA1 dA2 cW0 cW1 cW2 dW0 dW1 dW2 cV0 cV1 cV2 cV3 cV4 cV5 dV0 dV1 dV2 dV3 dV4 dV5 cX0 cX1 cX2 dX0 dX1 dX2 cG0 cG1 cG2 dG0 dG1 dG2 cH0 cH1 cH2 cH3 cH4 cH5 dH0 dH1 dH2 dH3 dH4 dH5
  refine (CI.out g_y _ (Row.ownK Oy18.out) (HG.out.below B18.out HG.out.lt) (HX.out.below B18.out HX.out.lt)).mono ?_
  rintro e v19 ⟨a_h, c_h, rfl, ho, hb⟩
  clear ho
  have B19 := Lib.hid (B18.out.trans (hb.mono B18.out.size))
  have KA19 := Lib.hid (KA18.out.below hb)
  have KW19 := Lib.hid (KW18.out.below hb)
  have KV19 := Lib.hid (KV18.out.below hb)
  have KX19 := Lib.hid (KX18.out.below hb)
  have KG19 := Lib.hid (KG18.out.below hb)
  have KH19 := Lib.hid (KH18.out.below hb)
  have Ot19 := Lib.hid (Ot18.out.kept (below_any (row := none) hb) (.inr (by simp [Value.ownBlock])))
  have Ox19 := Lib.hid (Ox18.out.kept (below_any (row := none) hb) (.inr (by simp [Value.ownBlock])))
  have Oz19 := Lib.hid (Oz18.out.kept (below_any (row := none) hb) (.inr (by simp [Value.ownBlock])))
  have Oy19 := Lib.hid (Oy18.out.kept (below_any (row := none) hb) (.inr (by simp [Value.ownBlock])))
  clear hb B18 KA18 KW18 KV18 KX18 KG18 KH18 Ot18 Ox18 Oz18 Oy18
  have B20 := Lib.hid ((B19.out.alloc (by have h0 := B19.out.size; simp <;> omega) (.cells #[.int .i64 m, .int .i64 ip, .slice a_h 0 c_h] 26)).alloc (by have h0 := B19.out.size; simp <;> omega) (.cells #[.int .i64 p0, .int .i64 p1, .int .i64 p2, .int .i64 p3, .int .i64 p4, .string p5] 30))
  have lt_A := KA19.out.lt
  have n_A_Y : g_A ≠ v19.heap.size := by omega
  have n_A_Z : g_A ≠ v19.heap.size + 1 := by omega
  clear lt_A
  have lt_W := KW19.out.lt
  have n_W_Y : g_W ≠ v19.heap.size := by omega
  have n_W_Z : g_W ≠ v19.heap.size + 1 := by omega
  clear lt_W
  have lt_V := KV19.out.lt
  have n_V_Y : g_V ≠ v19.heap.size := by omega
  have n_V_Z : g_V ≠ v19.heap.size + 1 := by omega
  clear lt_V
  have lt_X := KX19.out.lt
  have n_X_Y : g_X ≠ v19.heap.size := by omega
  have n_X_Z : g_X ≠ v19.heap.size + 1 := by omega
  clear lt_X
  have lt_G := KG19.out.lt
  have n_G_Y : g_G ≠ v19.heap.size := by omega
  have n_G_Z : g_G ≠ v19.heap.size + 1 := by omega
  clear lt_G
  have lt_H := KH19.out.lt
  have n_H_Y : g_H ≠ v19.heap.size := by omega
  have n_H_Z : g_H ≠ v19.heap.size + 1 := by omega
  clear lt_H
  have lt_t := (Ot19.out.lt g_t rfl).2
  have n_t_Y : g_t ≠ v19.heap.size := by omega
  have n_t_Z : g_t ≠ v19.heap.size + 1 := by omega
  clear lt_t
  have lt_x := (Ox19.out.lt g_x rfl).2
  have n_x_Y : g_x ≠ v19.heap.size := by omega
  have n_x_Z : g_x ≠ v19.heap.size + 1 := by omega
  clear lt_x
  have lt_z := (Oz19.out.lt g_z rfl).2
  have n_z_Y : g_z ≠ v19.heap.size := by omega
  have n_z_Z : g_z ≠ v19.heap.size + 1 := by omega
  clear lt_z
  have lt_y := (Oy19.out.lt g_y rfl).2
  have n_y_Y : g_y ≠ v19.heap.size := by omega
  have n_y_Z : g_y ≠ v19.heap.size + 1 := by omega
  clear lt_y
  have KA20 := Lib.hid ((KA19.out.alloc (.cells #[.int .i64 m, .int .i64 ip, .slice a_h 0 c_h] 26)).alloc (.cells #[.int .i64 p0, .int .i64 p1, .int .i64 p2, .int .i64 p3, .int .i64 p4, .string p5] 30))
  have KW20 := Lib.hid ((KW19.out.alloc (.cells #[.int .i64 m, .int .i64 ip, .slice a_h 0 c_h] 26)).alloc (.cells #[.int .i64 p0, .int .i64 p1, .int .i64 p2, .int .i64 p3, .int .i64 p4, .string p5] 30))
  have KV20 := Lib.hid ((KV19.out.alloc (.cells #[.int .i64 m, .int .i64 ip, .slice a_h 0 c_h] 26)).alloc (.cells #[.int .i64 p0, .int .i64 p1, .int .i64 p2, .int .i64 p3, .int .i64 p4, .string p5] 30))
  have KX20 := Lib.hid ((KX19.out.alloc (.cells #[.int .i64 m, .int .i64 ip, .slice a_h 0 c_h] 26)).alloc (.cells #[.int .i64 p0, .int .i64 p1, .int .i64 p2, .int .i64 p3, .int .i64 p4, .string p5] 30))
  have KG20 := Lib.hid ((KG19.out.alloc (.cells #[.int .i64 m, .int .i64 ip, .slice a_h 0 c_h] 26)).alloc (.cells #[.int .i64 p0, .int .i64 p1, .int .i64 p2, .int .i64 p3, .int .i64 p4, .string p5] 30))
  have KH20 := Lib.hid ((KH19.out.alloc (.cells #[.int .i64 m, .int .i64 ip, .slice a_h 0 c_h] 26)).alloc (.cells #[.int .i64 p0, .int .i64 p1, .int .i64 p2, .int .i64 p3, .int .i64 p4, .string p5] 30))
  have Ot20 := Lib.hid ((Ot19.out.alloc (.cells #[.int .i64 m, .int .i64 ip, .slice a_h 0 c_h] 26)).alloc (.cells #[.int .i64 p0, .int .i64 p1, .int .i64 p2, .int .i64 p3, .int .i64 p4, .string p5] 30))
  have Ox20 := Lib.hid ((Ox19.out.alloc (.cells #[.int .i64 m, .int .i64 ip, .slice a_h 0 c_h] 26)).alloc (.cells #[.int .i64 p0, .int .i64 p1, .int .i64 p2, .int .i64 p3, .int .i64 p4, .string p5] 30))
  have Oz20 := Lib.hid ((Oz19.out.alloc (.cells #[.int .i64 m, .int .i64 ip, .slice a_h 0 c_h] 26)).alloc (.cells #[.int .i64 p0, .int .i64 p1, .int .i64 p2, .int .i64 p3, .int .i64 p4, .string p5] 30))
  have Oy20 := Lib.hid ((Oy19.out.alloc (.cells #[.int .i64 m, .int .i64 ip, .slice a_h 0 c_h] 26)).alloc (.cells #[.int .i64 p0, .int .i64 p1, .int .i64 p2, .int .i64 p3, .int .i64 p4, .string p5] 30))
  have KY20 := Lib.hid (show Blk ((v19.alloc (.cells #[.int .i64 m, .int .i64 ip, .slice a_h 0 c_h] 26)).alloc (.cells #[.int .i64 p0, .int .i64 p1, .int .i64 p2, .int .i64 p3, .int .i64 p4, .string p5] 30)) (v19.heap.size) [.int .i64 m, .int .i64 ip, .slice a_h 0 c_h] from ((Blk.new v19 [.int .i64 m, .int .i64 ip, .slice a_h 0 c_h] 26).alloc (.cells #[.int .i64 p0, .int .i64 p1, .int .i64 p2, .int .i64 p3, .int .i64 p4, .string p5] 30)))
  have n_Y_Z : v19.heap.size ≠ v19.heap.size + 1 := by omega
  have KZ20 := Lib.hid (show Blk ((v19.alloc (.cells #[.int .i64 m, .int .i64 ip, .slice a_h 0 c_h] 26)).alloc (.cells #[.int .i64 p0, .int .i64 p1, .int .i64 p2, .int .i64 p3, .int .i64 p4, .string p5] 30)) (v19.heap.size + 1) [.int .i64 p0, .int .i64 p1, .int .i64 p2, .int .i64 p3, .int .i64 p4, .string p5] by have h0 := (Blk.new (v19.alloc (.cells #[.int .i64 m, .int .i64 ip, .slice a_h 0 c_h] 26)) [.int .i64 p0, .int .i64 p1, .int .i64 p2, .int .i64 p3, .int .i64 p4, .string p5] 30); rwa [show (v19.alloc (.cells #[.int .i64 m, .int .i64 ip, .slice a_h 0 c_h] 26)).heap.size = v19.heap.size + 1 by simp] at h0)
  clear B19 KA19 KW19 KV19 KX19 KG19 KH19 Ot19 Ox19 Oz19 Oy19
  obtain ⟨⟨cA0, cA1, cA2⟩, dA0, dA1, dA2⟩ := KA20.out.o3
  obtain ⟨⟨cW0, cW1, cW2⟩, dW0, dW1, dW2⟩ := KW20.out.o3
  obtain ⟨⟨cV0, cV1, cV2, cV3, cV4, cV5⟩, dV0, dV1, dV2, dV3, dV4, dV5⟩ := KV20.out.of6
  obtain ⟨⟨cX0, cX1, cX2⟩, dX0, dX1, dX2⟩ := KX20.out.o3
  obtain ⟨⟨cG0, cG1, cG2⟩, dG0, dG1, dG2⟩ := KG20.out.o3
  obtain ⟨⟨cH0, cH1, cH2, cH3, cH4, cH5⟩, dH0, dH1, dH2, dH3, dH4, dH5⟩ := KH20.out.of6
  obtain ⟨⟨cY0, cY1, cY2⟩, dY0, dY1, dY2⟩ := KY20.out.o3
  obtain ⟨⟨cZ0, cZ1, cZ2, cZ3, cZ4, cZ5⟩, dZ0, dZ1, dZ2, dZ3, dZ4, dZ5⟩ := KZ20.out.of6
  go_wp2_with fail
  clear cA0 cA1 cA2 dA0 dA1 dA2 cW0 cW1 cW2 dW0 dW1 dW2 cV0 cV1 cV2 cV3 cV4 cV5 dV0 dV1 dV2 dV3 dV4 dV5 cX0 cX1 cX2 dX0 dX1 dX2 cG0 cG1 cG2 dG0 dG1 dG2 cH0 cH1 cH2 cH3 cH4 cH5 dH0 dH1 dH2 dH3 dH4 dH5 cY0 cY1 cY2 dY0 dY1 dY2 cZ0 cZ1 cZ2 cZ3 cZ4 cZ5 dZ0 dZ1 dZ2 dZ3 dZ4 dZ5
  change Calls _ _ _ ((v19.alloc (.cells #[.int .i64 m, .int .i64 ip, .slice a_h 0 c_h] 26)).alloc (.cells #[.int .i64 p0, .int .i64 p1, .int .i64 p2, .int .i64 p3, .int .i64 p4, .string p5] 30)) _
  generalize (v19.alloc (.cells #[.int .i64 m, .int .i64 ip, .slice a_h 0 c_h] 26)).alloc (.cells #[.int .i64 p0, .int .i64 p1, .int .i64 p2, .int .i64 p3, .int .i64 p4, .string p5] 30) = v20 at B20 KA20 KW20 KV20 KX20 KG20 KH20 Ot20 Ox20 Oz20 Oy20 KY20 KZ20 ⊢
  generalize v19.heap.size + 1 = g_Z at KZ20 n_A_Z n_W_Z n_V_Z n_X_Z n_G_Z n_H_Z n_t_Z n_x_Z n_z_Z n_y_Z n_Y_Z ⊢
  generalize v19.heap.size = g_Y at KY20 n_A_Y n_W_Y n_V_Y n_X_Y n_G_Y n_H_Y n_t_Y n_x_Y n_z_Y n_y_Y n_Y_Z ⊢
  refine (eqLink_self m ip a_h (some ⟨g_w, 0, none⟩) 0 c_h c_w [] _ rfl Row.nil Row.nil (by omega)).mono ?_
  rintro e v21 ⟨rfl, hb⟩
  have B21 := Lib.hid (B20.out.trans (hb.mono B20.out.size))
  have KA21 := Lib.hid (KA20.out.below hb)
  have KW21 := Lib.hid (KW20.out.below hb)
  have KV21 := Lib.hid (KV20.out.below hb)
  have KX21 := Lib.hid (KX20.out.below hb)
  have KG21 := Lib.hid (KG20.out.below hb)
  have KH21 := Lib.hid (KH20.out.below hb)
  have KY21 := Lib.hid (KY20.out.below hb)
  have KZ21 := Lib.hid (KZ20.out.below hb)
  have Ot21 := Lib.hid (Ot20.out.kept (below_any (row := none) hb) (.inr (by simp [Value.ownBlock])))
  have Ox21 := Lib.hid (Ox20.out.kept (below_any (row := none) hb) (.inr (by simp [Value.ownBlock])))
  have Oz21 := Lib.hid (Oz20.out.kept (below_any (row := none) hb) (.inr (by simp [Value.ownBlock])))
  have Oy21 := Lib.hid (Oy20.out.kept (below_any (row := none) hb) (.inr (by simp [Value.ownBlock])))
  clear hb B20 KA20 KW20 KV20 KX20 KG20 KH20 KY20 KZ20 Ot20 Ox20 Oz20 Oy20
  obtain ⟨⟨cA0, cA1, cA2⟩, dA0, dA1, dA2⟩ := KA21.out.o3
  obtain ⟨⟨cW0, cW1, cW2⟩, dW0, dW1, dW2⟩ := KW21.out.o3
  obtain ⟨⟨cV0, cV1, cV2, cV3, cV4, cV5⟩, dV0, dV1, dV2, dV3, dV4, dV5⟩ := KV21.out.of6
  obtain ⟨⟨cX0, cX1, cX2⟩, dX0, dX1, dX2⟩ := KX21.out.o3
  obtain ⟨⟨cG0, cG1, cG2⟩, dG0, dG1, dG2⟩ := KG21.out.o3
  obtain ⟨⟨cH0, cH1, cH2, cH3, cH4, cH5⟩, dH0, dH1, dH2, dH3, dH4, dH5⟩ := KH21.out.of6
  obtain ⟨⟨cY0, cY1, cY2⟩, dY0, dY1, dY2⟩ := KY21.out.o3
  obtain ⟨⟨cZ0, cZ1, cZ2, cZ3, cZ4, cZ5⟩, dZ0, dZ1, dZ2, dZ3, dZ4, dZ5⟩ := KZ21.out.of6
  go_wp2_with fail
  clear cA0 cA1 cA2 dA0 dA1 dA2 cW0 cW1 cW2 dW0 dW1 dW2 cV0 cV1 cV2 cV3 cV4 cV5 dV0 dV1 dV2 dV3 dV4 dV5 cX0 cX1 cX2 dX0 dX1 dX2 cG0 cG1 cG2 dG0 dG1 dG2 cH0 cH1 cH2 cH3 cH4 cH5 dH0 dH1 dH2 dH3 dH4 dH5 cY0 cY1 cY2 dY0 dY1 dY2 cZ0 cZ1 cZ2 cZ3 cZ4 cZ5 dZ0 dZ1 dZ2 dZ3 dZ4 dZ5
  refine (E.out _).mono ?_
  rintro e v22 ⟨rfl, hb⟩
  have B22 := Lib.hid (B21.out.trans (hb.mono B21.out.size))
  have KA22 := Lib.hid (KA21.out.below hb)
  have KW22 := Lib.hid (KW21.out.below hb)
  have KV22 := Lib.hid (KV21.out.below hb)
  have KX22 := Lib.hid (KX21.out.below hb)
  have KG22 := Lib.hid (KG21.out.below hb)
  have KH22 := Lib.hid (KH21.out.below hb)
  have KY22 := Lib.hid (KY21.out.below hb)
  have KZ22 := Lib.hid (KZ21.out.below hb)
  have Ot22 := Lib.hid (Ot21.out.kept (below_any (row := none) hb) (.inr (by simp [Value.ownBlock])))
  have Ox22 := Lib.hid (Ox21.out.kept (below_any (row := none) hb) (.inr (by simp [Value.ownBlock])))
  have Oz22 := Lib.hid (Oz21.out.kept (below_any (row := none) hb) (.inr (by simp [Value.ownBlock])))
  have Oy22 := Lib.hid (Oy21.out.kept (below_any (row := none) hb) (.inr (by simp [Value.ownBlock])))
  clear hb B21 KA21 KW21 KV21 KX21 KG21 KH21 KY21 KZ21 Ot21 Ox21 Oz21 Oy21
  obtain ⟨⟨cA0, cA1, cA2⟩, dA0, dA1, dA2⟩ := KA22.out.o3
  obtain ⟨⟨cW0, cW1, cW2⟩, dW0, dW1, dW2⟩ := KW22.out.o3
  obtain ⟨⟨cV0, cV1, cV2, cV3, cV4, cV5⟩, dV0, dV1, dV2, dV3, dV4, dV5⟩ := KV22.out.of6
  obtain ⟨⟨cX0, cX1, cX2⟩, dX0, dX1, dX2⟩ := KX22.out.o3
  obtain ⟨⟨cG0, cG1, cG2⟩, dG0, dG1, dG2⟩ := KG22.out.o3
  obtain ⟨⟨cH0, cH1, cH2, cH3, cH4, cH5⟩, dH0, dH1, dH2, dH3, dH4, dH5⟩ := KH22.out.of6
  obtain ⟨⟨cY0, cY1, cY2⟩, dY0, dY1, dY2⟩ := KY22.out.o3
  obtain ⟨⟨cZ0, cZ1, cZ2, cZ3, cZ4, cZ5⟩, dZ0, dZ1, dZ2, dZ3, dZ4, dZ5⟩ := KZ22.out.of6
  go_wp2_with fail
  clear cA0 cA1 cA2 dA0 dA1 dA2 cW0 cW1 cW2 dW0 dW1 dW2 cV0 cV1 cV2 cV3 cV4 cV5 dV0 dV1 dV2 dV3 dV4 dV5 cX0 cX1 cX2 dX0 dX1 dX2 cG0 cG1 cG2 dG0 dG1 dG2 cH0 cH1 cH2 cH3 cH4 cH5 dH0 dH1 dH2 dH3 dH4 dH5 cY0 cY1 cY2 dY0 dY1 dY2 cZ0 cZ1 cZ2 cZ3 cZ4 cZ5 dZ0 dZ1 dZ2 dZ3 dZ4 dZ5
  refine (heldLink_any m ip a_g 0 c_g 1 _ Row.nil (by decide) (by omega)).mono ?_
  rintro e v23 ⟨rfl, hb⟩
  have B23 := Lib.hid (B22.out.trans (hb.mono B22.out.size))
  have KA23 := Lib.hid (KA22.out.below hb)
  have KW23 := Lib.hid (KW22.out.below hb)
  have KV23 := Lib.hid (KV22.out.below hb)
  have KX23 := Lib.hid (KX22.out.below hb)
  have KG23 := Lib.hid (KG22.out.below hb)
  have KH23 := Lib.hid (KH22.out.below hb)
  have KY23 := Lib.hid (KY22.out.below hb)
  have KZ23 := Lib.hid (KZ22.out.below hb)
  have Ot23 := Lib.hid (Ot22.out.kept (below_any (row := none) hb) (.inr (by simp [Value.ownBlock])))
  have Ox23 := Lib.hid (Ox22.out.kept (below_any (row := none) hb) (.inr (by simp [Value.ownBlock])))
  have Oz23 := Lib.hid (Oz22.out.kept (below_any (row := none) hb) (.inr (by simp [Value.ownBlock])))
  have Oy23 := Lib.hid (Oy22.out.kept (below_any (row := none) hb) (.inr (by simp [Value.ownBlock])))
  clear hb B22 KA22 KW22 KV22 KX22 KG22 KH22 KY22 KZ22 Ot22 Ox22 Oz22 Oy22
  obtain ⟨⟨cA0, cA1, cA2⟩, dA0, dA1, dA2⟩ := KA23.out.o3
  obtain ⟨⟨cW0, cW1, cW2⟩, dW0, dW1, dW2⟩ := KW23.out.o3
  obtain ⟨⟨cV0, cV1, cV2, cV3, cV4, cV5⟩, dV0, dV1, dV2, dV3, dV4, dV5⟩ := KV23.out.of6
  obtain ⟨⟨cX0, cX1, cX2⟩, dX0, dX1, dX2⟩ := KX23.out.o3
  obtain ⟨⟨cG0, cG1, cG2⟩, dG0, dG1, dG2⟩ := KG23.out.o3
  obtain ⟨⟨cH0, cH1, cH2, cH3, cH4, cH5⟩, dH0, dH1, dH2, dH3, dH4, dH5⟩ := KH23.out.of6
  obtain ⟨⟨cY0, cY1, cY2⟩, dY0, dY1, dY2⟩ := KY23.out.o3
  obtain ⟨⟨cZ0, cZ1, cZ2, cZ3, cZ4, cZ5⟩, dZ0, dZ1, dZ2, dZ3, dZ4, dZ5⟩ := KZ23.out.of6
  go_wp2_with fail
  go_ret
  exact ⟨rfl, B23.out⟩

theorem walk {w : World} (m ip : Int) (a : Option Addr) (len cap : Nat) (rs : List ER) (t : ByteArray) (h : LawL w m ip a len cap rs) (_ : t.size ≤ maxLen) (hT : ErrTy w ∧ ∃ x, Sent x w) : Calls Tryz.prog 5 #[.agg #[.int .i64 m, .int .i64 ip, .slice a len cap], .string t] w (OkB w) := by
 obtain ⟨hm, _, ⟨rfl, _, hc, _⟩, hrow⟩ := h
 obtain ⟨hg, x, hx⟩ := hT
 exact go m ip a cap rs t x w hrow (by omega) (i64_bd hm) hg hx

theorem own : ownKnob Tryz.prog.godebug = none := by kernel_rfl
theorem laidOut : laidOutB Tryz.prog = true := by kernel_rfl
/-- The list of the row. -/
abbrev laidL : List (String × DataW Unit) := [("errors.errorType", Rows.laid_errors_errorType), ("loop.example/g00504/impl.errDropped", Rows.laid_loop_example_g00504_impl_errDropped)]
theorem gD : Tryz.prog.globalNamed "loop.example/g00504/impl.errDropped" = some 0 := by kernel_rfl
theorem gDType : (Tryz.prog.globals[0]?).map (·.type) = some 60 := by kernel_rfl
theorem cellsD : Tryz.prog.cellsOf 189 = 1 := by kernel_rfl
theorem cellsT : Tryz.prog.cellsOf 9 = 1 := by kernel_rfl
theorem star : "*" ++ "errors.errorString" = "*errors.errorString" := by decide
theorem rowD (u : TypeId) (h : Tryz.prog.typeName? 3 u = some "*errors.errorString") : u = 168 :=
 typeName_ptr_named (nm := "errors.errorString") (by rw [star]; kernel_rfl) (by kernel_rfl) (by decide) u (by rw [star]; exact h)
theorem hEt : Tryz.prog.globalNamed "errors.errorType" = some 1 := by kernel_rfl
theorem hRt : (Tryz.prog.cutTypes.find? (·.1 == "internal/reflectlite.rtype")).map (·.2) = some 132 := by kernel_rfl
theorem hOne : ((List.range 200).filter fun t => Tryz.prog.rowNamed t [101, 114, 114, 111, 114]) = [60] := by kernel_rfl
theorem hSize : Tryz.prog.types.size = 200 := by kernel_rfl
/-- What the list gives the walk: the two variables' cells. -/
theorem of_laid {W : World} (h : laidMetH Tryz.prog laidL W) : ErrTy W ∧ ∃ x, Sent x W := by
 have h' : laidMet Tryz.prog [("loop.example/g00504/impl.errDropped", Rows.laid_loop_example_g00504_impl_errDropped)] W ∧ handlesMet Tryz.prog [("errors.errorType", Rows.laid_errors_errorType)] W := h
 obtain ⟨a1, s1, hv1, _, _, _⟩ := laid_sentinel h'.1 gD gDType Tryz.underlying60 rowD Tryz.underlying168 Tryz.underlying189 rfl rfl Tryz.underlying9 cellsD cellsT
 refine ⟨?_, a1, by simpa [Sent] using World.var?_cell gD hv1 0⟩
 obtain ⟨name, u, ty, e1, e2, e3, e4, e5⟩ := h'.2 _ (List.mem_singleton.2 rfl)
 have en : name = [101, 114, 114, 111, 114] := (Option.some.inj e1).symm
 subst en
 obtain rfl := Option.some.inj (hRt.symm.trans e2)
 have hm : ty ∈ (List.range 200).filter fun t => Tryz.prog.rowNamed t [101, 114, 114, 111, 114] := List.mem_filter.2 ⟨List.mem_range.2 (by rw [← hSize]; exact e3), e4⟩
 rw [hOne] at hm
 obtain rfl := List.mem_singleton.1 hm
 have hh : typeHandle Tryz.prog 60 = .pointer (some ⟨2, 60, none⟩) := by kernel_rfl
 rw [hh] at e5
 simpa [ErrTy] using World.var?_cell hEt e5 0
/-- The sentinel's variable, whole. -/
theorem var_laid {W : World} (h : laidMetH Tryz.prog laidL W) : ∃ a, W.var? Tryz.prog "loop.example/g00504/impl.errDropped" = some #[.iface 168 (.pointer (some a))] := by
 have h' : laidMet Tryz.prog [("loop.example/g00504/impl.errDropped", Rows.laid_loop_example_g00504_impl_errDropped)] W ∧ handlesMet Tryz.prog [("errors.errorType", Rows.laid_errors_errorType)] W := h
 obtain ⟨a1, s1, hv1, _, _, _⟩ := laid_sentinel h'.1 gD gDType Tryz.underlying60 rowD Tryz.underlying168 Tryz.underlying189 rfl rfl Tryz.underlying9 cellsD cellsT
 exact ⟨a1, hv1⟩
/-- The variable reads behind the call as it read before. -/
theorem var_kept {H : Type} {enc : TypeId × Value → H} {W W' : World} {gs : List (DataW H)} {q : List MemPlace} (h : laidMetH Tryz.prog laidL W) (hV : DataW.TrodVars enc Tryz.prog W (fun _ => true) ["loop.example/g00504/impl.errDropped"] gs q) (bel : Below W.heap.size W W') :
  ∃ d q', gs = [d] ∧ DataW.TrodVars enc Tryz.prog W' (fun b => decide (b < W.heap.size)) ["loop.example/g00504/impl.errDropped"] [d] q' := by
 obtain ⟨x, hx⟩ := var_laid h
 obtain ⟨g, t, cs, f, d, p, rfl, hg, ht, hv, hd, rfl⟩ := trodVars_one hV
 obtain rfl := Option.some.inj (gD.symm.trans hg)
 obtain rfl := Option.some.inj (gDType.symm.trans ht)
 obtain rfl := Option.some.inj (hx.symm.trans hv)
 have lt : ∀ y ∈ p, y.block < W.heap.size := DataW.trod_lt f _ _ _ hd
 have hT : DataW.Trod enc Tryz.prog W 0 (fun _ => true) true 60 (.iface 168 (.pointer (some x))) d p := ⟨f, hd⟩
 obtain ⟨f', hd'⟩ := Below.trod laidOut (by kernel_rfl) (of_decide_eq_true (by kernel_rfl)) hT bel lt
 have hlt : 0 < W.heap.size := World.block_lt_of_cell? W ⟨0, 0, none⟩ (by simpa using World.var?_cell gD hx 0)
 exact ⟨d, _, rfl, trodVars_mk1 gD gDType (var?_below bel gD hlt hx) hd'⟩
noncomputable def low : Nat := (World.holding Tryz.prog default ⟨#[], #[], []⟩).heap.size
/-- A world in which the variables are laid. -/
noncomputable def laidWorld (os : Os) : World :=
 let w0 := World.holding Tryz.prog os ⟨#[.cells #[.string ⟨#[102, 114, 97, 109, 101, 32, 100, 114, 111, 112, 112, 101, 100]⟩] 189], #[], []⟩
 { w0 with heap := (w0.heap.modify 0 fun
   | .cells _ t frozen => .cells #[.iface 168 (.pointer (some ⟨low, 0, none⟩))] t frozen
   | o => o).modify 1 fun
   | .cells _ t frozen => .cells #[.iface 132 (.agg #[.pointer (some ⟨2, 60, none⟩)])] t frozen
   | o => o }
theorem door_met (os : Os) (args : Array Value) : laidMetH Tryz.prog laidL ((laidWorld os).forCall (fun _ _ => 0) ⟨#[], args, []⟩).memory :=
 laidMetH_of_parts (laidMet_of_run' 8 (by kernel_rfl) (by kernel_rfl)) (by kernel_rfl)

set_option maxRecDepth 100000 in
theorem lifted (os : Os) (started : os.Started) (H : Type) (enc : TypeId × Value → H) :
  ReturnsInHanded {} Tryz.checked os 5 .any (fun w args => (Rows.fnExactLinkInSpec.pre enc Tryz.prog Tryz.f5 [] false w args ∧ laidMetH Tryz.prog laidL w) ∧ sizedMet enc Tryz.prog Tryz.f5 (OpenSpec.ofChange Rows.fnExactLinkInSpec) false w args)
   (Rows.fnExactLinkInSpec.post enc Tryz.prog Tryz.f5 false true false false) := by
 refine returnsInHanded_of_change_and (C := Tryz.checked) (X := fun w _ => laidMetH Tryz.prog laidL w) (fun _ _ _ hh h => h.of_heap hh) own started (by kernel_rfl) Tryz.func5
  (ChangeSpec.witness_at (enc := enc) (C := Tryz.checked) (os := os) (X := fun w _ => laidMetH Tryz.prog laidL w) false (laidWorld os) #[.agg #[.int .i64 0, .int .i64 0, .slice none 0 0], .string ByteArray.empty] 8 rfl (by kernel_rfl) (by kernel_rfl) (by kernel_rfl) (by kernel_rfl) (by kernel_rfl) (door_met os _)) ?_
 intro W base args ds gs before hval0 hW _ _ hL _
 have hval : ∀ (j : Nat) t v, Tryz.f5.params[j]? = some t → args[j]? = some v → Value.okWide Tryz.prog W .any base t v := hval0
 have hW' := hW
 obtain ⟨p, q, hA0, hV, rfl, _, _⟩ := hW
 have hA : DataW.TrodAll enc Tryz.prog W 0 (fun _ => true) true Tryz.f5.params.toList args.toList ds p := hA0
 rw [Tryz.params5] at hA hval
 obtain ⟨v0, vs0, d0, ds0, p0, q0, hargs, rfl, rfl, h0, r0⟩ := trodAll_cons hA
 obtain ⟨v1, vs1, d1, ds1, p1, q1, rfl, rfl, rfl, h1, r1⟩ := trodAll_cons r0
 obtain ⟨rfl, rfl, rfl⟩ := trodAll_nil r1
 obtain rfl : args = #[v0, v1] := by cases args; simp_all
 have k0 := h0
 have lt0 : ∀ x ∈ p0, x.block < W.heap.size := by obtain ⟨m, hm⟩ := k0; exact DataW.trod_lt m _ _ _ hm
 obtain ⟨m0, ip0, a0, len0, cap0, s0, rfl, w0⟩ := argLink (hval 0 47 v0 rfl rfl) h0
 obtain ⟨a1, rfl, rfl, rfl, w1⟩ := open_string Tryz.underlying9 (hval 1 9 v1 rfl rfl) h1
 have hT := of_laid hL
 clear hA0 hval0
 refine (walk (w := W) m0 ip0 a0 len0 cap0 s0 a1 w0 w1 hT).mono fun e W' ⟨he, bel⟩ => ?_
 subst he
 obtain ⟨dg, q', rfl, hq'⟩ := var_kept hL hV bel
 exact ⟨_, rfl, _, _, _, [], _, q', hW', trodAll_mk1 (shut_bool Tryz.underlying4 _), (trodAll_cons_mk (Below.trod laidOut (by kernel_rfl) (of_decide_eq_true (by kernel_rfl)) k0 bel lt0) (trodAll_cons_mk (shut_string Tryz.underlying9 w1) trodAll_mk0)), hq', bel.frame _, fun h => by cases h⟩

theorem row_holds : Rows.FnExactLinkInSaid :=
 OpenClaim.holds_of_wide 5 Tryz.f5 rfl rfl rfl rfl rfl rfl rfl ⟨rfl, rfl, rfl, rfl, rfl⟩ rfl rfl rfl rfl rfl (by kernel_rfl) Tryz.func5 (by kernel_rfl)
  (of_decide_eq_true (by kernel_rfl)) (by unfold Func.isWrapper; first | (rw [if_pos (by decide +kernel)]; kernel_rfl) | (rw [if_neg (by decide +kernel)]; exact ⟨rfl, rfl⟩))
  (fun os started H enc _ => lifted os started H enc)

theorem proved : Rows.FnExactLinkInCardSaid :=
 Claim7.holds_tied_plain_at .later [] [.handle, .sentinel] true (true, "7b67a2880804485c42fc5aacd172d2d239e7e5dc6faff98f7bbd09bd910a5cfd") true
  row_holds (fun _ h => by cases h) (by kernel_rfl) (fun _ h => by cases h) fnExactLinkIn_row_tie rfl ⟨rfl, rfl⟩ (by kernel_rfl) rfl
  (fun f fn hf hfn => by
   obtain rfl : f = 5 := Option.some.inj ((show Tryz.prog.funcNamed Rows.fnExactLinkInRow.func = some 5 by kernel_rfl).symm.trans hf) |>.symm
   obtain rfl : fn = Tryz.f5 := (Option.some.inj (Tryz.func5.symm.trans hfn)).symm
   exact ⟨by kernel_rfl, fun j t ht => by
    rw [Tryz.params5] at ht
    have hm : t ∈ [47, 9] := by simpa using Array.mem_of_getElem? ht
    have hall : ([47, 9].all fun u => !Tryz.prog.wantsStandIn u) = true := by kernel_rfl
    exact (show Tryz.prog.wantsStandIn t = false by simpa using List.all_eq_true.1 hall t hm)⟩)
  (by kernel_rfl)
#print axioms proved

end Go.Proofs.YtkkimgjcefojdaaGreatDoor.fnExactLinkIn
