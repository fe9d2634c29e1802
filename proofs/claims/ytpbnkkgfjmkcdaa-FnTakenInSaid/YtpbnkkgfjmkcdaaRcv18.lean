/- The draw of a receiver: l18Receiver. Nothing here is a claim. -/
import Derived.Test.YtpbnkkgfjmkcdaaStr18
import Derived.Test.YtpbnkkgfjmkcdaaRcvP
import Derived.Test.YtpbnkkgfjmkcdaaRcvNew
import Derived.Test.YtpbnkkgfjmkcdaaRcvTakeS
import Derived.Test.YtpbnkkgfjmkcdaaArrS
import Derived.Test.YtpbnkkgfjmkcdaaHeldTill
import Derived.Test.YtpbnkkgfjmkcdaaDeep
namespace Go.Proofs.Ytpbnkkgfjmkcdaa
open Go.RowKit Go.Lib

theorem rcvNew_ok (x : Int) : RcvOk ⟨pl x, ⟨#[]⟩, [], -1, false⟩ := ⟨word_plR _, Nat.zero_le _, Nat.zero_le _, .inl rfl, fun k h => by simp at h⟩
/-- A drawn receiver; only the cursor has turned. -/
def RcvEnd (w : World) (B g : Nat) (e : Ending) (w' : World) : Prop :=
  ∃ (n : Int) (d : ByteArray) (rs : List HP) (f : Int) (z : Bool) (a : Option Addr) (cap : Nat), e = .returned (.agg #[.int .i64 n, .string d, .slice a rs.length cap, .int .i64 f, .bool z]) ∧ RcvOk ⟨n, d, rs, f, z⟩ ∧ w'.ownsRow w.heap.size 64 2 (.slice a rs.length cap) rs.length (hps rs) ∧ CurB w' B g ∧ w.grownBy w' (some g)

set_option maxRecDepth 100000 in
set_option maxHeartbeats 8000000 in
theorem l18Receiver_any (B g : Nat) (w : World) (hc : CurB w B g) : Calls Try.prog 58 #[.pointer (some ⟨g, 0, none⟩)] w (RcvEnd w B g) := by
  go_enter Try.func58, Try.ntmps58
  have hlt := hc.lt
  have hBg := hc.1
  have C0 := Lib.hid (show CurB (w.alloc (.cells #[.int .i64 0, .string ⟨#[]⟩, .slice none 0 0, .int .i64 0, .bool false] 26)) B g from (hc.new (.cells #[.int .i64 0, .string ⟨#[]⟩, .slice none 0 0, .int .i64 0, .bool false] 26)))
  have G0 := Lib.hid (show w.grownBy (w.alloc (.cells #[.int .i64 0, .string ⟨#[]⟩, .slice none 0 0, .int .i64 0, .bool false] 26)) (some g) from (grown_new (World.grownBy.refl w (some g)) (.cells #[.int .i64 0, .string ⟨#[]⟩, .slice none 0 0, .int .i64 0, .bool false] 26)))
  clear hc
  have KR0 := Lib.hid (show Blk (w.alloc (.cells #[.int .i64 0, .string ⟨#[]⟩, .slice none 0 0, .int .i64 0, .bool false] 26)) (w.heap.size) [.int .i64 0, .string ⟨#[]⟩, .slice none 0 0, .int .i64 0, .bool false] from ((Blk.new w [.int .i64 0, .string ⟨#[]⟩, .slice none 0 0, .int .i64 0, .bool false] 26)))
  go_upto_region 1 with fail
  generalize w.alloc (.cells #[.int .i64 0, .string ⟨#[]⟩, .slice none 0 0, .int .i64 0, .bool false] 26) = v0 at C0 G0 KR0 ⊢
  generalize hh_R : w.heap.size = g_R at KR0 ⊢
  have l_R : w.heap.size ≤ g_R := by omega
  have b_R : B ≤ g_R := by omega
  have c_R : g_R ≠ g := by omega
  clear hh_R
  go_wp2_with fail
  refine (l2Deep_any B g v0 C0.out).mono ?_
  rintro e v1 ⟨y, rfl, hy, hcu, hgr⟩
  clear hy
  have KR1 := Lib.hid (KR0.out.grown hgr c_R)
  have G1 := Lib.hid (grown_tr G0.out hgr)
  have C1 := Lib.hid hcu
  clear hcu hgr KR0 G0 C0
  obtain ⟨⟨cR0, cR1, cR2, cR3, cR4⟩, dR0, dR1, dR2, dR3, dR4⟩ := KR1.out.of5
  go_wp2_with fail
  clear cR0 cR1 cR2 cR3 cR4 dR0 dR1 dR2 dR3 dR4
  refine (rcvNewS y _).mono ?_
  rintro e v2 ⟨rfl, hb⟩
  have KR2 := Lib.hid (KR1.out.below hb)
  have G2 := Lib.hid (grown_tr G1.out (below_any hb))
  have C2 := Lib.hid (C1.out.below hb)
  clear hb KR1 G1 C1
  have hRK := KR2.out.lt
  have KR3 := Lib.hid (KR2.out.alloc (.cells #[.int .i64 (pl y), .string ⟨#[]⟩, .slice none 0 0, .int .i64 (-1), .bool false] 26))
  have n_R_K : g_R ≠ v2.heap.size := by have h1 := KR2.out.lt; omega
  have KK3 := Lib.hid (Blk.new v2 [.int .i64 (pl y), .string ⟨#[]⟩, .slice none 0 0, .int .i64 (-1), .bool false] 26)
  have G3 := Lib.hid (grown_new G2.out (.cells #[.int .i64 (pl y), .string ⟨#[]⟩, .slice none 0 0, .int .i64 (-1), .bool false] 26))
  have C3 := Lib.hid (C2.out.new (.cells #[.int .i64 (pl y), .string ⟨#[]⟩, .slice none 0 0, .int .i64 (-1), .bool false] 26))
  have l_K : w.heap.size ≤ v2.heap.size := G2.out.size
  have c_K : v2.heap.size ≠ g := Nat.ne_of_gt C2.out.lt
  have b_K : B ≤ v2.heap.size := by have h1 := C2.out.lt; omega
  clear KR2 G2 C2
  obtain ⟨⟨cR0, cR1, cR2, cR3, cR4⟩, dR0, dR1, dR2, dR3, dR4⟩ := KR3.out.of5
  obtain ⟨⟨cK0, cK1, cK2, cK3, cK4⟩, dK0, dK1, dK2, dK3, dK4⟩ := KK3.out.of5
  go_wp2_with fail
  clear cR0 cR1 cR2 cR3 cR4 dR0 dR1 dR2 dR3 dR4 cK0 cK1 cK2 cK3 cK4 dK0 dK1 dK2 dK3 dK4
  generalize v2.alloc (.cells #[.int .i64 (pl y), .string ⟨#[]⟩, .slice none 0 0, .int .i64 (-1), .bool false] 26) = v3 at KR3 KK3 C3 G3 ⊢
  generalize hh : v2.heap.size = g_K at KK3 l_K c_K b_K n_R_K  hRK ⊢
  clear hh
  have hgb : g < g_K + 1 := by omega
  have hRb : g_R < g_K + 1 := by omega
  have hKb : g_K < g_K + 1 := by omega
  have hwb : w.heap.size ≤ g_K + 1 := by omega
  refine (l1Below_pos B g v3 C3.out 7 (by omega) (by omega)).mono ?_
  rintro e v4 ⟨r, rfl, hr, hcu, hgr⟩
  obtain ⟨m, rfl⟩ : ∃ n : Nat, r = (n : Int) := ⟨r.toNat, by omega⟩
  have hm : m ≤ 6 := by omega
  clear hr
  have KR4 := Lib.hid (KR3.out.grown hgr c_R)
  have KK4 := Lib.hid (KK3.out.grown hgr c_K)
  have G4 := Lib.hid (grown_tr G3.out hgr)
  have C4 := Lib.hid hcu
  clear hcu hgr KR3 KK3 G3 C3
  obtain ⟨⟨cR0, cR1, cR2, cR3, cR4⟩, dR0, dR1, dR2, dR3, dR4⟩ := KR4.out.of5
  obtain ⟨⟨cK0, cK1, cK2, cK3, cK4⟩, dK0, dK1, dK2, dK3, dK4⟩ := KK4.out.of5
  go_wp2_with fail
  clear cR0 cR1 cR2 cR3 cR4 dR0 dR1 dR2 dR3 dR4 cK0 cK1 cK2 cK3 cK4 dK0 dK1 dK2 dK3 dK4
  go_loopw [5] (fun i wr => ∃ k : Nat, k ≤ m ∧ i = .int .i64 k ∧ ∃ (n : Int) (d : ByteArray) (rs : List HP) (f : Int) (z : Bool) (a : Option Addr) (cap : Nat), RcvOk ⟨n, d, rs, f, z⟩ ∧ Hid (Blk wr g_R [.int .i64 0, .string ⟨#[]⟩, .slice none 0 0, .int .i64 0, .bool false]) ∧ Hid (Blk wr g_K [.int .i64 n, .string d, .slice a rs.length cap, .int .i64 f, .bool z]) ∧ Hid (DrnP (g_K + 1) g a cap rs wr) ∧ Hid (CurB wr B g) ∧ Hid (w.grownBy wr (some g)))
    (fun i _ => m - (RowKit.intOf i).toNat)
  case atStart => exact ⟨0, Nat.zero_le _, rfl, pl y, ⟨#[]⟩, [], -1, false, none, 0, rcvNew_ok y, KR4, KK4, DrnP.none _ g _ hgb, C4, G4⟩
  case round =>
    obtain ⟨k, hk, rfl, n, d, rs, f, z, a, cap, hb0, KR50, KK50, Dp50, C50, G50⟩ := hrel
    have HB := Lib.hid hb0
    clear hb0 KR4 KK4 C4 G4
    by_cases hlt : k < m
    case neg =>
      obtain rfl : k = m := by omega
      obtain ⟨⟨cR0, cR1, cR2, cR3, cR4⟩, dR0, dR1, dR2, dR3, dR4⟩ := KR50.out.of5
      obtain ⟨⟨cK0, cK1, cK2, cK3, cK4⟩, dK0, dK1, dK2, dK3, dK4⟩ := KK50.out.of5
      go_wp2_with fail
      exact bodyPost_ret (v := .agg #[.int .i64 n, .string d, .slice a rs.length cap, .int .i64 f, .bool z]) (by simp [results, Try.results58, go_sem, cR0, cR1, cR2, cR3, cR4]) rfl ⟨n, d, rs, f, z, a, cap, rfl, HB.out, own_down (((((Dp50.out.set 0 _ (.inl hRb)).set 1 _ (.inl hRb)).set 2 _ (.inl hRb)).set 3 _ (.inl hRb)).set 4 _ (.inl hRb)).1 hwb, (((((C50.out.setOther _ _ b_R c_R).setOther _ _ b_R c_R).setOther _ _ b_R c_R).setOther _ _ b_R c_R).setOther _ _ b_R c_R), (grown_setNew (grown_setNew (grown_setNew (grown_setNew (grown_setNew G50.out _ _ l_R) _ _ l_R) _ _ l_R) _ _ l_R) _ _ l_R)⟩
    obtain ⟨⟨cR0, cR1, cR2, cR3, cR4⟩, dR0, dR1, dR2, dR3, dR4⟩ := KR50.out.of5
    obtain ⟨⟨cK0, cK1, cK2, cK3, cK4⟩, dK0, dK1, dK2, dK3, dK4⟩ := KK50.out.of5
    go_wp2_with fail
    clear cR0 cR1 cR2 cR3 cR4 dR0 dR1 dR2 dR3 dR4 cK0 cK1 cK2 cK3 cK4 dK0 dK1 dK2 dK3 dK4
    refine (l18Stream_any B g wr C50.out n f z d a rs.length cap).mono ?_
    rintro e v51 ⟨sq, x, b9, rfl, hx, hcu, hgr⟩
    have KR51 := Lib.hid (KR50.out.grown hgr c_R)
    have KK51 := Lib.hid (KK50.out.grown hgr c_K)
    have Dp51 := Lib.hid (Dp50.out.grown hgr)
    have G51 := Lib.hid (grown_tr G50.out hgr)
    have C51 := Lib.hid hcu
    clear hcu hgr KR50 KK50 Dp50 G50 C50
    obtain ⟨⟨cR0, cR1, cR2, cR3, cR4⟩, dR0, dR1, dR2, dR3, dR4⟩ := KR51.out.of5
    obtain ⟨⟨cK0, cK1, cK2, cK3, cK4⟩, dK0, dK1, dK2, dK3, dK4⟩ := KK51.out.of5
    go_wp2_with fail
    clear cR0 cR1 cR2 cR3 cR4 dR0 dR1 dR2 dR3 dR4 cK0 cK1 cK2 cK3 cK4 dK0 dK1 dK2 dK3 dK4
    have Q := arrS n f sq z b9 d x a cap rs (rb_ok HB.out).1 (by omega) _ Dp51.out.has
    unfold NewRE at Q
    have NB' := (arr_facts HB.out sq x b9).ok
    obtain ⟨⟨n', d', rs', f', z'⟩, ho⟩ : ∃ o : Rcv, arrived ⟨n, d, rs, f, z⟩ sq x b9 = o := ⟨_, rfl⟩
    rw [ho] at Q NB'
    simp only at Q
    replace Q := Lib.hid Q
    replace NB' := Lib.hid NB'
    clear ho
    clear hx
    refine (Q.out).mono ?_
    rintro e v52 ⟨a', cap', rfl, ho, hb⟩
    have Dq52 := Lib.hid (show DrnP (g_K + 1) g a' cap' rs' v52 from ⟨own_down ho KK51.out.lt, hgb⟩)
    clear ho
    have KR52 := Lib.hid (KR51.out.below hb)
    have KK52 := Lib.hid (KK51.out.below hb)
    have G52 := Lib.hid (grown_tr G51.out (below_any hb))
    have C52 := Lib.hid (C51.out.below hb)
    clear hb KR51 KK51 G51 C51 Dp51 Q
    obtain ⟨⟨cR0, cR1, cR2, cR3, cR4⟩, dR0, dR1, dR2, dR3, dR4⟩ := KR52.out.of5
    obtain ⟨⟨cK0, cK1, cK2, cK3, cK4⟩, dK0, dK1, dK2, dK3, dK4⟩ := KK52.out.of5
    have KR53 := Lib.hid (show Blk (((((v52.setCell ⟨g_K, 0, none⟩ (.int .i64 n')).setCell ⟨g_K, 1, none⟩ (.string d')).setCell ⟨g_K, 2, none⟩ (.slice a' rs'.length cap')).setCell ⟨g_K, 3, none⟩ (.int .i64 f')).setCell ⟨g_K, 4, none⟩ (.bool z')) g_R [.int .i64 0, .string ⟨#[]⟩, .slice none 0 0, .int .i64 0, .bool false] from (((((KR52.out.setOther ⟨g_K, 0, none⟩ (.int .i64 n') (n_R_K)).setOther ⟨g_K, 1, none⟩ (.string d') (n_R_K)).setOther ⟨g_K, 2, none⟩ (.slice a' rs'.length cap') (n_R_K)).setOther ⟨g_K, 3, none⟩ (.int .i64 f') (n_R_K)).setOther ⟨g_K, 4, none⟩ (.bool z') (n_R_K)))
    have KK53 := Lib.hid (show Blk (((((v52.setCell ⟨g_K, 0, none⟩ (.int .i64 n')).setCell ⟨g_K, 1, none⟩ (.string d')).setCell ⟨g_K, 2, none⟩ (.slice a' rs'.length cap')).setCell ⟨g_K, 3, none⟩ (.int .i64 f')).setCell ⟨g_K, 4, none⟩ (.bool z')) g_K [.int .i64 n', .string d', .slice a' rs'.length cap', .int .i64 f', .bool z'] from (((((KK52.out.set 0 (.int .i64 n')).set 1 (.string d')).set 2 (.slice a' rs'.length cap')).set 3 (.int .i64 f')).set 4 (.bool z')))
    have Dp53 := Lib.hid (((((Dq52.out.set 0 (.int .i64 n') (.inl hKb)).set 1 (.string d') (.inl hKb)).set 2 (.slice a' rs'.length cap') (.inl hKb)).set 3 (.int .i64 f') (.inl hKb)).set 4 (.bool z') (.inl hKb))
    have C53 := Lib.hid (((((C52.out.setOther ⟨g_K, 0, none⟩ (.int .i64 n') b_K c_K).setOther ⟨g_K, 1, none⟩ (.string d') b_K c_K).setOther ⟨g_K, 2, none⟩ (.slice a' rs'.length cap') b_K c_K).setOther ⟨g_K, 3, none⟩ (.int .i64 f') b_K c_K).setOther ⟨g_K, 4, none⟩ (.bool z') b_K c_K)
    have G53 := Lib.hid (grown_setNew (grown_setNew (grown_setNew (grown_setNew (grown_setNew G52.out ⟨g_K, 0, none⟩ (.int .i64 n') l_K) ⟨g_K, 1, none⟩ (.string d') l_K) ⟨g_K, 2, none⟩ (.slice a' rs'.length cap') l_K) ⟨g_K, 3, none⟩ (.int .i64 f') l_K) ⟨g_K, 4, none⟩ (.bool z') l_K)
    clear KR52 KK52 Dq52 C52 G52
    go_wp2_with fail
    clear cR0 cR1 cR2 cR3 cR4 dR0 dR1 dR2 dR3 dR4 cK0 cK1 cK2 cK3 cK4 dK0 dK1 dK2 dK3 dK4
    generalize ((((v52.setCell ⟨g_K, 0, none⟩ (.int .i64 n')).setCell ⟨g_K, 1, none⟩ (.string d')).setCell ⟨g_K, 2, none⟩ (.slice a' rs'.length cap')).setCell ⟨g_K, 3, none⟩ (.int .i64 f')).setCell ⟨g_K, 4, none⟩ (.bool z') = v53 at KR53 KK53 Dp53 C53 G53 ⊢
    refine (l1Once_any B g _ C53.out 3 (by omega) (by omega)).mono ?_
    rintro e v54 ⟨b8, rfl, hcu, hgr⟩
    have KR54 := Lib.hid (KR53.out.grown hgr c_R)
    have KK54 := Lib.hid (KK53.out.grown hgr c_K)
    have Dp54 := Lib.hid (Dp53.out.grown hgr)
    have G54 := Lib.hid (grown_tr G53.out hgr)
    have C54 := Lib.hid hcu
    clear hcu hgr KR53 KK53 Dp53 G53 C53
    cases b8 with
    | false =>
      obtain ⟨⟨cR0, cR1, cR2, cR3, cR4⟩, dR0, dR1, dR2, dR3, dR4⟩ := KR54.out.of5
      obtain ⟨⟨cK0, cK1, cK2, cK3, cK4⟩, dK0, dK1, dK2, dK3, dK4⟩ := KK54.out.of5
      go_wp2_with fail
      clear cR0 cR1 cR2 cR3 cR4 dR0 dR1 dR2 dR3 dR4 cK0 cK1 cK2 cK3 cK4 dK0 dK1 dK2 dK3 dK4
      go_roundw
      case rel => exact ⟨k + 1, by omega, by go_num, n', d', rs', f', z', a', cap', NB'.out, KR54, KK54, Dp54, C54, G54⟩
      case measure => simp [RowKit.intOf]; omega
    | true =>
      obtain ⟨⟨cR0, cR1, cR2, cR3, cR4⟩, dR0, dR1, dR2, dR3, dR4⟩ := KR54.out.of5
      obtain ⟨⟨cK0, cK1, cK2, cK3, cK4⟩, dK0, dK1, dK2, dK3, dK4⟩ := KK54.out.of5
      go_upto_region 9 with fail
      clear cR0 cR1 cR2 cR3 cR4 dR0 dR1 dR2 dR3 dR4 cK0 cK1 cK2 cK3 cK4 dK0 dK1 dK2 dK3 dK4
      refine wp_region_noPanic ?_
      refine wp_region_till (S := fun w' => Blk w' g_K [.int .i64 n', .string d', .slice a' rs'.length cap', .int .i64 f', .bool z']) 7 (by kernel_rfl) KK54.out (fun hS => ?_)
      have KR55 := Lib.hid (show Blk v54.drew g_R [.int .i64 0, .string ⟨#[]⟩, .slice none 0 0, .int .i64 0, .bool false] from KR54.out.drew)
      have KK55 := Lib.hid (show Blk v54.drew g_K [.int .i64 n', .string d', .slice a' rs'.length cap', .int .i64 f', .bool z'] from KK54.out.drew)
      have Dp55 := Lib.hid (Dp54.out.below (Below.refl _ v54).drew)
      have C55 := Lib.hid (show CurB v54.drew _ g from C54.out.below (Below.refl _ _).drew)
      have G55 := Lib.hid (show w.grownBy v54.drew (some g) from grown_tr G54.out (below_any (Below.refl _ v54).drew))
      clear KR54 KK54 Dp54 C54 G54
      clear hS
      generalize v54.drew = v55 at KR55 KK55 Dp55 C55 G55 ⊢
      refine wpTill_takeU (i := 1) (v := .pointer (some ⟨g, 0, none⟩)) rfl (by kernel_rfl) (by kernel_rfl) (by kernel_rfl) (by kernel_rfl) (fun _ _ _ h => h) (Or.inl ⟨by kernel_rfl, by intro w _; go_simp⟩) (fun _ => KK55.out) ?_
      refine wpTill_take (i := 0) (v := .agg #[.int .i64 n', .string d', .slice a' rs'.length cap', .int .i64 f', .bool z']) rfl (by kernel_rfl) (by kernel_rfl) (by kernel_rfl) (by kernel_rfl) (by kernel_rfl) (by kernel_rfl) (fun _ _ _ h => h) (Or.inl ⟨by kernel_rfl, by intro w hS; obtain ⟨⟨h0, h1, h2, h3, h4⟩, _⟩ := hS.of5; go_simp⟩) (fun _ => KK55.out) ?_
      refine wpTill_one (i := 2) (by kernel_rfl) rfl (fun K hK => ?zt1)
      rw [if_pos (by rfl)]
      go_simp
      refine (l1Below_pos B g _ C55.out 20 (by omega) (by omega)).mono ?_
      rintro e v56 ⟨q, rfl, hq, hcu, hgr⟩
      clear hq
      have KR56 := Lib.hid (KR55.out.grown hgr c_R)
      have KK56 := Lib.hid (KK55.out.grown hgr c_K)
      have Dp56 := Lib.hid (Dp55.out.grown hgr)
      have G56 := Lib.hid (grown_tr G55.out hgr)
      have C56 := Lib.hid hcu
      clear hcu hgr KR55 KK55 Dp55 G55 C55
      refine hK.out _ _ (fun _ => KK56.out) (fun _ => ?_)
      clear hK K
      have Q := takenInS n' f' z' d' a' cap' rs' q (rb_ok NB'.out).1 _ Dp56.out.has
      unfold EndTk at Q
      generalize takenS ⟨n', d', rs', f', z'⟩ q = s9 at Q
      have NB9 := taken_ok NB'.out q
      obtain ⟨⟨n9, d9, rs9, f9, z9⟩, ho⟩ : ∃ o : Rcv, taken ⟨n', d', rs', f', z'⟩ q = o := ⟨_, rfl⟩
      rw [ho] at Q NB9
      simp only at Q
      replace Q := Lib.hid Q
      replace NB9 := Lib.hid NB9
      clear ho
      refine wpTill_one (i := 3) (by kernel_rfl) rfl (fun K hK => ?zt2)
      rw [if_pos (by rfl)]
      go_simp
      refine (Q.out).mono ?_
      rintro e v57 ⟨a9, cap9, rfl, ho, hb⟩
      have Dq57 := Lib.hid (show DrnP (g_K + 1) g a9 cap9 rs9 v57 from ⟨own_down ho KK56.out.lt, hgb⟩)
      clear ho
      have KR57 := Lib.hid (KR56.out.below hb)
      have KK57 := Lib.hid (KK56.out.below hb)
      have G57 := Lib.hid (grown_tr G56.out (below_any hb))
      have C57 := Lib.hid (C56.out.below hb)
      clear hb KR56 KK56 G56 C56 Dp56 Q
      refine hK.out _ _ (fun _ => KK57.out) (fun _ => ?_)
      clear hK K
      refine wpTill_takeU (i := 4) (v := .tuple #[.agg #[.int .i64 n9, .string d9, .slice a9 rs9.length cap9, .int .i64 f9, .bool z9], .string s9]) rfl (by kernel_rfl) (by kernel_rfl) (by kernel_rfl) (by kernel_rfl) (fun _ _ _ h => h) (Or.inl ⟨by kernel_rfl, by intro w _; go_simp⟩) (fun _ => KK57.out) ?_
      refine wpTill_takeU (i := 5) (v := .agg #[.int .i64 n9, .string d9, .slice a9 rs9.length cap9, .int .i64 f9, .bool z9]) rfl (by kernel_rfl) (by kernel_rfl) (by kernel_rfl) (by kernel_rfl) (fun _ _ _ h => h) (Or.inl ⟨by kernel_rfl, by intro w _; go_simp⟩) (fun _ => KK57.out) ?_
      refine wpTill_takeU (i := 6) (v := .string s9) rfl (by kernel_rfl) (by kernel_rfl) (by kernel_rfl) (by kernel_rfl) (fun _ _ _ h => h) (Or.inl ⟨by kernel_rfl, by intro w _; go_simp⟩) (fun _ => KK57.out) ?_
      obtain ⟨⟨cK0, cK1, cK2, cK3, cK4⟩, dK0, dK1, dK2, dK3, dK4⟩ := KK57.out.of5
      refine wpTill_store (by kernel_rfl) rfl (by kernel_rfl) (fun K hK => ?zt3)
      rw [if_pos (by rfl)]
      go_simp
      have KR58 := Lib.hid (show Blk (((((v57.setCell ⟨g_K, 0, none⟩ (.int .i64 n9)).setCell ⟨g_K, 1, none⟩ (.string d9)).setCell ⟨g_K, 2, none⟩ (.slice a9 rs9.length cap9)).setCell ⟨g_K, 3, none⟩ (.int .i64 f9)).setCell ⟨g_K, 4, none⟩ (.bool z9)) g_R [.int .i64 0, .string ⟨#[]⟩, .slice none 0 0, .int .i64 0, .bool false] from (((((KR57.out.setOther ⟨g_K, 0, none⟩ (.int .i64 n9) (n_R_K)).setOther ⟨g_K, 1, none⟩ (.string d9) (n_R_K)).setOther ⟨g_K, 2, none⟩ (.slice a9 rs9.length cap9) (n_R_K)).setOther ⟨g_K, 3, none⟩ (.int .i64 f9) (n_R_K)).setOther ⟨g_K, 4, none⟩ (.bool z9) (n_R_K)))
      have KK58 := Lib.hid (show Blk (((((v57.setCell ⟨g_K, 0, none⟩ (.int .i64 n9)).setCell ⟨g_K, 1, none⟩ (.string d9)).setCell ⟨g_K, 2, none⟩ (.slice a9 rs9.length cap9)).setCell ⟨g_K, 3, none⟩ (.int .i64 f9)).setCell ⟨g_K, 4, none⟩ (.bool z9)) g_K [.int .i64 n9, .string d9, .slice a9 rs9.length cap9, .int .i64 f9, .bool z9] from (((((KK57.out.set 0 (.int .i64 n9)).set 1 (.string d9)).set 2 (.slice a9 rs9.length cap9)).set 3 (.int .i64 f9)).set 4 (.bool z9)))
      have Dp58 := Lib.hid (((((Dq57.out.set 0 (.int .i64 n9) (.inl hKb)).set 1 (.string d9) (.inl hKb)).set 2 (.slice a9 rs9.length cap9) (.inl hKb)).set 3 (.int .i64 f9) (.inl hKb)).set 4 (.bool z9) (.inl hKb))
      have G58 := Lib.hid (grown_setNew (grown_setNew (grown_setNew (grown_setNew (grown_setNew G57.out ⟨g_K, 0, none⟩ (.int .i64 n9) l_K) ⟨g_K, 1, none⟩ (.string d9) l_K) ⟨g_K, 2, none⟩ (.slice a9 rs9.length cap9) l_K) ⟨g_K, 3, none⟩ (.int .i64 f9) l_K) ⟨g_K, 4, none⟩ (.bool z9) l_K)
      have C58 := Lib.hid (((((C57.out.setOther ⟨g_K, 0, none⟩ (.int .i64 n9) b_K c_K).setOther ⟨g_K, 1, none⟩ (.string d9) b_K c_K).setOther ⟨g_K, 2, none⟩ (.slice a9 rs9.length cap9) b_K c_K).setOther ⟨g_K, 3, none⟩ (.int .i64 f9) b_K c_K).setOther ⟨g_K, 4, none⟩ (.bool z9) b_K c_K)
      refine hK.out _ _ ?_
      clear hK K KR57 KK57 Dq57 C57 G57
      clear cK0 cK1 cK2 cK3 cK4 dK0 dK1 dK2 dK3 dK4
      generalize ((((v57.setCell ⟨g_K, 0, none⟩ (.int .i64 n9)).setCell ⟨g_K, 1, none⟩ (.string d9)).setCell ⟨g_K, 2, none⟩ (.slice a9 rs9.length cap9)).setCell ⟨g_K, 3, none⟩ (.int .i64 f9)).setCell ⟨g_K, 4, none⟩ (.bool z9) = v58 at KR58 KK58 Dp58 C58 G58 ⊢
      refine wpTill_done (by kernel_rfl) ?_ _
      refine NoPanic.normal ?_
      go_wp2_with fail
      go_roundw
      case rel => exact ⟨k + 1, by omega, by go_num, n9, d9, rs9, f9, z9, a9, cap9, NB9.out, KR58, KK58, Dp58, C58, G58⟩
      case measure => simp [RowKit.intOf]; omega
end Go.Proofs.Ytpbnkkgfjmkcdaa
