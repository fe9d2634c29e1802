/- The draw of a sender: l17Sender. Nothing here is a claim. -/
import Derived.Test.YtkigkfedkjnkeaaSndB
import Derived.Test.YtkigkfedkjnkeaaSndQ
import Derived.Test.YtkigkfedkjnkeaaSndNS
import Derived.Test.YtkigkfedkjnkeaaSndOff
import Derived.Test.YtkigkfedkjnkeaaSndAck
import Derived.Test.YtkigkfedkjnkeaaHeldTill
import Derived.Test.YtkigkfedkjnkeaaDeep
import Derived.Test.YtkigkfedkjnkeaaBytesA
import Derived.Test.YtkigkfedkjnkeaaCurO
import Derived.Test.YtkigkfedkjnkeaaBlk10
import Derived.Deep.DeepCutAuto
import Derived.Deep.RegionHeld3
namespace Go.Proofs.Ytkigkfedkjnkeaa
open Go.RowKit Go.Lib

/-- A drawn sender; only the cursor has turned. -/
def SndEnd (w : World) (B g : Nat) (e : Ending) (w' : World) : Prop :=
  ∃ (u : Int) (d : ByteArray) (t : Int) (b1 b2 b3 : Bool), e = .returned (.agg #[.int .i64 u, .string d, .int .i64 t, .bool b1, .bool b2, .bool b3]) ∧ SB ⟨u, d, t, b1, b2, b3⟩ ∧ CurB w' B g ∧ w.grownBy w' (some g)

set_option maxRecDepth 100000 in
set_option maxHeartbeats 8000000 in
theorem l17Sender_any (B g : Nat) (w : World) (hc : CurB w B g) : Calls Try.prog 61 #[.pointer (some ⟨g, 0, none⟩)] w (SndEnd w B g) := by
  go_enter Try.func61, Try.ntmps61
  have hlt := hc.lt
  have hBg := hc.1
  have C0 := Lib.hid (show CurB (w.alloc (.cells #[.int .i64 0, .string ⟨#[]⟩, .int .i64 0, .bool false, .bool false, .bool false] 25)) B g from (hc.new (.cells #[.int .i64 0, .string ⟨#[]⟩, .int .i64 0, .bool false, .bool false, .bool false] 25)))
  have G0 := Lib.hid (show w.grownBy (w.alloc (.cells #[.int .i64 0, .string ⟨#[]⟩, .int .i64 0, .bool false, .bool false, .bool false] 25)) (some g) from (grown_new (World.grownBy.refl w (some g)) (.cells #[.int .i64 0, .string ⟨#[]⟩, .int .i64 0, .bool false, .bool false, .bool false] 25)))
  clear hc
  have KR0 := Lib.hid (show Blk (w.alloc (.cells #[.int .i64 0, .string ⟨#[]⟩, .int .i64 0, .bool false, .bool false, .bool false] 25)) (w.heap.size) [.int .i64 0, .string ⟨#[]⟩, .int .i64 0, .bool false, .bool false, .bool false] from ((Blk.new w [.int .i64 0, .string ⟨#[]⟩, .int .i64 0, .bool false, .bool false, .bool false] 25)))
  go_upto_region 1 with fail
  generalize w.alloc (.cells #[.int .i64 0, .string ⟨#[]⟩, .int .i64 0, .bool false, .bool false, .bool false] 25) = v0 at C0 G0 KR0 ⊢
  generalize hh_R : w.heap.size = g_R at KR0 ⊢
  have l_R : w.heap.size ≤ g_R := by omega
  have b_R : B ≤ g_R := by omega
  have c_R : g_R ≠ g := by omega
  clear hh_R
  go_wp2_with fail
  refine (l2Deep_any B g v0 C0.out).mono ?_
  rintro e v1 ⟨x, rfl, hx, hcu, hgr⟩
  clear hx
  have KR1 := Lib.hid (KR0.out.grown hgr c_R)
  have G1 := Lib.hid (grown_tr G0.out hgr)
  have C1 := Lib.hid hcu
  clear hcu hgr KR0 G0 C0
  have KR2 := Lib.hid (KR1.out.alloc (.cells #[.int .i64 x, .string ⟨#[]⟩, .int .i64 0, .bool false, .bool false, .bool false] 25))
  have n_R_K : g_R ≠ v1.heap.size := by have h1 := KR1.out.lt; omega
  have KK2 := Lib.hid (Blk.new v1 [.int .i64 x, .string ⟨#[]⟩, .int .i64 0, .bool false, .bool false, .bool false] 25)
  have G2 := Lib.hid (grown_new G1.out (.cells #[.int .i64 x, .string ⟨#[]⟩, .int .i64 0, .bool false, .bool false, .bool false] 25))
  have C2 := Lib.hid (C1.out.new (.cells #[.int .i64 x, .string ⟨#[]⟩, .int .i64 0, .bool false, .bool false, .bool false] 25))
  have l_K : w.heap.size ≤ v1.heap.size := G1.out.size
  have c_K : v1.heap.size ≠ g := Nat.ne_of_gt C1.out.lt
  have b_K : B ≤ v1.heap.size := by have h1 := C1.out.lt; omega
  clear KR1 G1 C1
  obtain ⟨⟨cR0, cR1, cR2, cR3, cR4, cR5⟩, dR0, dR1, dR2, dR3, dR4, dR5⟩ := KR2.out.of6
  obtain ⟨⟨cK0, cK1, cK2, cK3, cK4, cK5⟩, dK0, dK1, dK2, dK3, dK4, dK5⟩ := KK2.out.of6
  go_wp2_with fail
  clear cR0 cR1 cR2 cR3 cR4 cR5 dR0 dR1 dR2 dR3 dR4 dR5 cK0 cK1 cK2 cK3 cK4 cK5 dK0 dK1 dK2 dK3 dK4 dK5
  generalize v1.alloc (.cells #[.int .i64 x, .string ⟨#[]⟩, .int .i64 0, .bool false, .bool false, .bool false] 25) = v2 at KR2 KK2 C2 G2 ⊢
  generalize hh : v1.heap.size = g_K at KK2 l_K c_K b_K n_R_K  ⊢
  clear hh
  refine (l1Below_pos B g v2 C2.out 6 (by omega) (by omega)).mono ?_
  rintro e v3 ⟨r, rfl, hr, hcu, hgr⟩
  obtain ⟨n, rfl⟩ : ∃ n : Nat, r = (n : Int) := ⟨r.toNat, by omega⟩
  have hn : n ≤ 5 := by omega
  clear hr
  have KR3 := Lib.hid (KR2.out.grown hgr c_R)
  have KK3 := Lib.hid (KK2.out.grown hgr c_K)
  have G3 := Lib.hid (grown_tr G2.out hgr)
  have C3 := Lib.hid hcu
  clear hcu hgr KR2 KK2 G2 C2
  obtain ⟨⟨cR0, cR1, cR2, cR3, cR4, cR5⟩, dR0, dR1, dR2, dR3, dR4, dR5⟩ := KR3.out.of6
  obtain ⟨⟨cK0, cK1, cK2, cK3, cK4, cK5⟩, dK0, dK1, dK2, dK3, dK4, dK5⟩ := KK3.out.of6
  go_wp2_with fail
  clear cR0 cR1 cR2 cR3 cR4 cR5 dR0 dR1 dR2 dR3 dR4 dR5 cK0 cK1 cK2 cK3 cK4 cK5 dK0 dK1 dK2 dK3 dK4 dK5
  go_loopw [5] (fun i wr => ∃ k : Nat, k ≤ n ∧ i = .int .i64 k ∧ ∃ (u : Int) (d : ByteArray) (t : Int) (b1 b2 b3 : Bool), SB ⟨u, d, t, b1, b2, b3⟩ ∧ Hid (Blk wr g_R [.int .i64 0, .string ⟨#[]⟩, .int .i64 0, .bool false, .bool false, .bool false]) ∧ Hid (Blk wr g_K [.int .i64 u, .string d, .int .i64 t, .bool b1, .bool b2, .bool b3]) ∧ Hid (CurB wr B g) ∧ Hid (w.grownBy wr (some g)))
    (fun i _ => n - (RowKit.intOf i).toNat)
  case atStart => exact ⟨0, Nat.zero_le _, rfl, x, ⟨#[]⟩, 0, false, false, false, ⟨Nat.zero_le 48, Int.le_refl 0, (by decide : (0 : Int) ≤ 48)⟩, KR3, KK3, C3, G3⟩
  case round =>
    obtain ⟨k, hk, rfl, u, d, t, b1, b2, b3, hb0, KR50, KK50, C50, G50⟩ := hrel
    have HB := Lib.hid hb0
    clear hb0 KR3 KK3 C3 G3
    by_cases hlt : k < n
    case neg =>
      obtain rfl : k = n := by omega
      obtain ⟨⟨cR0, cR1, cR2, cR3, cR4, cR5⟩, dR0, dR1, dR2, dR3, dR4, dR5⟩ := KR50.out.of6
      obtain ⟨⟨cK0, cK1, cK2, cK3, cK4, cK5⟩, dK0, dK1, dK2, dK3, dK4, dK5⟩ := KK50.out.of6
      go_wp2_with fail
      exact bodyPost_ret (v := .agg #[.int .i64 u, .string d, .int .i64 t, .bool b1, .bool b2, .bool b3]) (by simp [results, Try.results61, go_sem, cR0, cR1, cR2, cR3, cR4, cR5]) rfl ⟨u, d, t, b1, b2, b3, rfl, HB.out, ((((((C50.out.setOther _ _ b_R c_R).setOther _ _ b_R c_R).setOther _ _ b_R c_R).setOther _ _ b_R c_R).setOther _ _ b_R c_R).setOther _ _ b_R c_R), (grown_setNew (grown_setNew (grown_setNew (grown_setNew (grown_setNew (grown_setNew G50.out _ _ l_R) _ _ l_R) _ _ l_R) _ _ l_R) _ _ l_R) _ _ l_R)⟩
    obtain ⟨⟨cR0, cR1, cR2, cR3, cR4, cR5⟩, dR0, dR1, dR2, dR3, dR4, dR5⟩ := KR50.out.of6
    obtain ⟨⟨cK0, cK1, cK2, cK3, cK4, cK5⟩, dK0, dK1, dK2, dK3, dK4, dK5⟩ := KK50.out.of6
    go_wp2_with fail
    clear cR0 cR1 cR2 cR3 cR4 cR5 dR0 dR1 dR2 dR3 dR4 dR5 cK0 cK1 cK2 cK3 cK4 cK5 dK0 dK1 dK2 dK3 dK4 dK5
    refine (l1Below_pos B g wr C50.out 4 (by omega) (by omega)).mono ?_
    rintro e v51 ⟨s, rfl, hs, hcu, hgr⟩
    have KR51 := Lib.hid (KR50.out.grown hgr c_R)
    have KK51 := Lib.hid (KK50.out.grown hgr c_K)
    have G51 := Lib.hid (grown_tr G50.out hgr)
    have C51 := Lib.hid hcu
    clear hcu hgr KR50 KK50 G50 C50
    by_cases h0 : s = 0
    case pos =>
      subst h0
      obtain ⟨⟨cR0, cR1, cR2, cR3, cR4, cR5⟩, dR0, dR1, dR2, dR3, dR4, dR5⟩ := KR51.out.of6
      obtain ⟨⟨cK0, cK1, cK2, cK3, cK4, cK5⟩, dK0, dK1, dK2, dK3, dK4, dK5⟩ := KK51.out.of6
      go_upto_region 9 with fail
      clear cR0 cR1 cR2 cR3 cR4 cR5 dR0 dR1 dR2 dR3 dR4 dR5 cK0 cK1 cK2 cK3 cK4 cK5 dK0 dK1 dK2 dK3 dK4 dK5
      refine wp_region_noPanic ?_
      refine wp_region_till (S := fun w' => Blk w' g_K [.int .i64 u, .string d, .int .i64 t, .bool b1, .bool b2, .bool b3]) 10 (by kernel_rfl) KK51.out (fun hS => ?_)
      have KR52 := Lib.hid (show Blk v51.drew g_R [.int .i64 0, .string ⟨#[]⟩, .int .i64 0, .bool false, .bool false, .bool false] from KR51.out.drew)
      have KK52 := Lib.hid (show Blk v51.drew g_K [.int .i64 u, .string d, .int .i64 t, .bool b1, .bool b2, .bool b3] from KK51.out.drew)
      have C52 := Lib.hid (show CurB v51.drew _ g from C51.out.below (Below.refl _ _).drew)
      have G52 := Lib.hid (show w.grownBy v51.drew (some g) from grown_tr G51.out (below_any (Below.refl _ v51).drew))
      clear hS KR51 KK51 C51 G51
      generalize v51.drew = v52 at KR52 KK52 C52 G52 ⊢
      refine wpTill_takeU (i := 1) (v := .pointer (some ⟨g, 0, none⟩)) rfl (by kernel_rfl) (by kernel_rfl) (by kernel_rfl) (by kernel_rfl) (fun _ _ _ h => h) (Or.inl ⟨by kernel_rfl, by intro w _; go_simp⟩) (fun _ => KK52.out) ?_
      refine wpTill_takeU (i := 2) (v := .pointer (some ⟨g, 0, none⟩)) rfl (by kernel_rfl) (by kernel_rfl) (by kernel_rfl) (by kernel_rfl) (fun _ _ _ h => h) (Or.inl ⟨by kernel_rfl, by intro w _; go_simp⟩) (fun _ => KK52.out) ?_
      refine wpTill_take (i := 0) (v := .agg #[.int .i64 u, .string d, .int .i64 t, .bool b1, .bool b2, .bool b3]) rfl (by kernel_rfl) (by kernel_rfl) (by kernel_rfl) (by kernel_rfl) (by kernel_rfl) (by kernel_rfl) (fun _ _ _ h => h) (Or.inl ⟨by kernel_rfl, by intro w hS; obtain ⟨⟨h0, h1, h2, h3, h4, h5⟩, _⟩ := hS.of6; go_simp⟩) (fun _ => KK52.out) ?_
      refine wpTill_one (i := 3) (by kernel_rfl) rfl (fun K hK => ?zt1)
      rw [if_pos (by rfl)]
      go_simp
      refine (l1Below_pos B g v52 C52.out 20 (by omega) (by omega)).mono ?_
      rintro e v53 ⟨q, rfl, hq, hcu, hgr⟩
      obtain ⟨m, rfl⟩ : ∃ m : Nat, q = (m : Int) := ⟨q.toNat, by omega⟩
      have KR53 := Lib.hid (KR52.out.grown hgr c_R)
      have KK53 := Lib.hid (KK52.out.grown hgr c_K)
      have G53 := Lib.hid (grown_tr G52.out hgr)
      have C53 := Lib.hid hcu
      clear hcu hgr KR52 KK52 G52 C52
      refine hK.out _ _ (fun _ => KK53.out) (fun _ => ?_)
      clear hK K
      refine wpTill_one (i := 4) (by kernel_rfl) rfl (fun K hK => ?zt2)
      rw [if_pos (by rfl)]
      go_simp
      refine (l1Bytes_any B g m v53 C53.out (by omega)).mono ?_
      rintro e v54 ⟨ub, lb, rfl, hlb, hob, hcu, hgr⟩
      have hcv := run_string_own (P := Try.prog) Try.underlying22 Try.underlying5 Try.underlying9 hob
      have hsz : (⟨lb.toArray⟩ : ByteArray).size ≤ 19 := by simp [ByteArray.size]; omega
      generalize (⟨lb.toArray⟩ : ByteArray) = pb at hcv hsz
      clear hob hlb hq
      have KR54 := Lib.hid (KR53.out.grown hgr c_R)
      have KK54 := Lib.hid (KK53.out.grown hgr c_K)
      have G54 := Lib.hid (grown_tr G53.out hgr)
      have C54 := Lib.hid hcu
      clear hcu hgr KR53 KK53 G53 C53
      refine hK.out _ _ (fun _ => KK54.out) (fun _ => ?_)
      clear hK K
      refine wpTill_one (i := 5) (by kernel_rfl) rfl (fun K hK => ?zt3)
      rw [if_pos (by rfl)]
      go_simp
      refine hK.out _ _ (fun _ => KK54.out) (fun _ => ?_)
      clear hK K
      clear hcv
      have Q := (fun w => queuedS u d t b1 b2 b3 pb (by omega) w)
      unfold EndQ at Q
      generalize qn ⟨u, d, t, b1, b2, b3⟩ pb = nq at Q
      have NB := sb_queued pb HB.out
      obtain ⟨⟨u', d', t', b1', b2', b3'⟩, ho⟩ : ∃ o : Snd, queued ⟨u, d, t, b1, b2, b3⟩ pb = o := ⟨_, rfl⟩
      rw [ho] at Q NB
      simp only [Snd.cs] at Q
      replace Q := Lib.hid Q
      replace NB := Lib.hid NB
      clear ho
      clear hsz
      refine wpTill_one (i := 6) (by kernel_rfl) rfl (fun K hK => ?zt4)
      rw [if_pos (by rfl)]
      go_simp
      refine (Q.out _).mono ?_
      rintro e v55 ⟨rfl, hb⟩
      have KR55 := Lib.hid (KR54.out.below hb)
      have KK55 := Lib.hid (KK54.out.below hb)
      have G55 := Lib.hid (grown_tr G54.out (below_any hb))
      have C55 := Lib.hid (C54.out.below hb)
      clear hb KR54 KK54 G54 C54
      refine hK.out _ _ (fun _ => KK55.out) (fun _ => ?_)
      clear hK K
      refine wpTill_takeU (i := 7) (v := .tuple #[.agg #[.int .i64 u', .string d', .int .i64 t', .bool b1', .bool b2', .bool b3'], .int .i64 nq]) rfl (by kernel_rfl) (by kernel_rfl) (by kernel_rfl) (by kernel_rfl) (fun _ _ _ h => h) (Or.inl ⟨by kernel_rfl, by intro w _; go_simp⟩) (fun _ => KK55.out) ?_
      refine wpTill_takeU (i := 8) (v := .agg #[.int .i64 u', .string d', .int .i64 t', .bool b1', .bool b2', .bool b3']) rfl (by kernel_rfl) (by kernel_rfl) (by kernel_rfl) (by kernel_rfl) (fun _ _ _ h => h) (Or.inl ⟨by kernel_rfl, by intro w _; go_simp⟩) (fun _ => KK55.out) ?_
      refine wpTill_takeU (i := 9) (v := .int .i64 nq) rfl (by kernel_rfl) (by kernel_rfl) (by kernel_rfl) (by kernel_rfl) (fun _ _ _ h => h) (Or.inl ⟨by kernel_rfl, by intro w _; go_simp⟩) (fun _ => KK55.out) ?_
      obtain ⟨⟨cK0, cK1, cK2, cK3, cK4, cK5⟩, dK0, dK1, dK2, dK3, dK4, dK5⟩ := KK55.out.of6
      refine wpTill_store (by kernel_rfl) rfl (by kernel_rfl) (fun K hK => ?zt5)
      rw [if_pos (by rfl)]
      go_simp
      have KR56 := Lib.hid (show Blk ((((((v55.setCell ⟨g_K, 0, none⟩ (.int .i64 u')).setCell ⟨g_K, 1, none⟩ (.string d')).setCell ⟨g_K, 2, none⟩ (.int .i64 t')).setCell ⟨g_K, 3, none⟩ (.bool b1')).setCell ⟨g_K, 4, none⟩ (.bool b2')).setCell ⟨g_K, 5, none⟩ (.bool b3')) g_R [.int .i64 0, .string ⟨#[]⟩, .int .i64 0, .bool false, .bool false, .bool false] from ((((((KR55.out.setOther ⟨g_K, 0, none⟩ (.int .i64 u') (n_R_K)).setOther ⟨g_K, 1, none⟩ (.string d') (n_R_K)).setOther ⟨g_K, 2, none⟩ (.int .i64 t') (n_R_K)).setOther ⟨g_K, 3, none⟩ (.bool b1') (n_R_K)).setOther ⟨g_K, 4, none⟩ (.bool b2') (n_R_K)).setOther ⟨g_K, 5, none⟩ (.bool b3') (n_R_K)))
      have KK56 := Lib.hid (show Blk ((((((v55.setCell ⟨g_K, 0, none⟩ (.int .i64 u')).setCell ⟨g_K, 1, none⟩ (.string d')).setCell ⟨g_K, 2, none⟩ (.int .i64 t')).setCell ⟨g_K, 3, none⟩ (.bool b1')).setCell ⟨g_K, 4, none⟩ (.bool b2')).setCell ⟨g_K, 5, none⟩ (.bool b3')) g_K [.int .i64 u', .string d', .int .i64 t', .bool b1', .bool b2', .bool b3'] from ((((((KK55.out.set 0 (.int .i64 u')).set 1 (.string d')).set 2 (.int .i64 t')).set 3 (.bool b1')).set 4 (.bool b2')).set 5 (.bool b3')))
      have G56 := Lib.hid (grown_setNew (grown_setNew (grown_setNew (grown_setNew (grown_setNew (grown_setNew G55.out ⟨g_K, 0, none⟩ (.int .i64 u') l_K) ⟨g_K, 1, none⟩ (.string d') l_K) ⟨g_K, 2, none⟩ (.int .i64 t') l_K) ⟨g_K, 3, none⟩ (.bool b1') l_K) ⟨g_K, 4, none⟩ (.bool b2') l_K) ⟨g_K, 5, none⟩ (.bool b3') l_K)
      have C56 := Lib.hid ((((((C55.out.setOther ⟨g_K, 0, none⟩ (.int .i64 u') b_K c_K).setOther ⟨g_K, 1, none⟩ (.string d') b_K c_K).setOther ⟨g_K, 2, none⟩ (.int .i64 t') b_K c_K).setOther ⟨g_K, 3, none⟩ (.bool b1') b_K c_K).setOther ⟨g_K, 4, none⟩ (.bool b2') b_K c_K).setOther ⟨g_K, 5, none⟩ (.bool b3') b_K c_K)
      refine hK.out _ _ ?_
      clear hK K KR55 KK55 C55 G55
      clear cK0 cK1 cK2 cK3 cK4 cK5 dK0 dK1 dK2 dK3 dK4 dK5
      generalize (((((v55.setCell ⟨g_K, 0, none⟩ (.int .i64 u')).setCell ⟨g_K, 1, none⟩ (.string d')).setCell ⟨g_K, 2, none⟩ (.int .i64 t')).setCell ⟨g_K, 3, none⟩ (.bool b1')).setCell ⟨g_K, 4, none⟩ (.bool b2')).setCell ⟨g_K, 5, none⟩ (.bool b3') = v56 at KR56 KK56 C56 G56 ⊢
      refine wpTill_done (by kernel_rfl) ?_ _
      refine NoPanic.normal ?_
      go_wp2_with fail
      go_roundw
      case rel => exact ⟨k + 1, by omega, by go_num, u', d', t', b1', b2', b3', NB.out, KR56, KK56, C56, G56⟩
      case measure => simp [RowKit.intOf]; omega
    have h0' : (s == 0) = false := by simp [h0]
    by_cases h1 : s = 1
    case pos =>
      subst h1
      obtain ⟨⟨cR0, cR1, cR2, cR3, cR4, cR5⟩, dR0, dR1, dR2, dR3, dR4, dR5⟩ := KR51.out.of6
      obtain ⟨⟨cK0, cK1, cK2, cK3, cK4, cK5⟩, dK0, dK1, dK2, dK3, dK4, dK5⟩ := KK51.out.of6
      go_upto_region 11 with fail
      clear cR0 cR1 cR2 cR3 cR4 cR5 dR0 dR1 dR2 dR3 dR4 dR5 cK0 cK1 cK2 cK3 cK4 cK5 dK0 dK1 dK2 dK3 dK4 dK5
      go_cut [6, 7] (fun s6 s7 wx => ∃ (g_x : Nat) (q : Int) (y : ByteArray) (bf ok : Bool), s6 = .pointer (some ⟨g_x, 0, none⟩) ∧ s7 = .bool ok ∧ Hid (Blk wx g_R [.int .i64 0, .string ⟨#[]⟩, .int .i64 0, .bool false, .bool false, .bool false]) ∧ Hid (Blk wx g_K [.int .i64 u, .string d, .int .i64 t, .bool b1, .bool b2, .bool b3]) ∧ Hid (Blk wx g_x [.int .i64 q, .string y, .bool bf]) ∧ Hid (CurB wx B g) ∧ Hid (w.grownBy wx (some g)) ∧ (g_R ≠ g_x ∧ g_K ≠ g_x))
      case first =>
        refine wp_region_noPanic ?_
        refine wp_region_held_drew (S := fun w' => Blk w' g_K [.int .i64 u, .string d, .int .i64 t, .bool b1, .bool b2, .bool b3]) (by kernel_rfl) KK51.out (fun hS => ?_)
        have KR52 := Lib.hid (show Blk v51.drew g_R [.int .i64 0, .string ⟨#[]⟩, .int .i64 0, .bool false, .bool false, .bool false] from KR51.out.drew)
        have KK52 := Lib.hid (show Blk v51.drew g_K [.int .i64 u, .string d, .int .i64 t, .bool b1, .bool b2, .bool b3] from KK51.out.drew)
        have C52 := Lib.hid (show CurB v51.drew _ g from C51.out.below (Below.refl _ _).drew)
        have G52 := Lib.hid (show w.grownBy v51.drew (some g) from grown_tr G51.out (below_any (Below.refl _ v51).drew))
        clear KR51 KK51 C51 G51
        clear hS
        generalize v51.drew = v52 at KR52 KK52 C52 G52 ⊢
        have hS : Blk v52 g_K [.int .i64 u, .string d, .int .i64 t, .bool b1, .bool b2, .bool b3] := KK52.out
        refine wpAnyH_take (i := 1) (v := .pointer (some ⟨g, 0, none⟩)) rfl (by kernel_rfl) (by kernel_rfl) (by kernel_rfl) (fun _ _ _ h => h) (Or.inl ⟨rfl, by intro w hS; go_simp⟩) hS ?_
        refine wpAnyH_take (i := 4) (v := .pointer (some ⟨g, 0, none⟩)) rfl (by kernel_rfl) (by kernel_rfl) (by kernel_rfl) (fun _ _ _ h => h) (Or.inl ⟨rfl, by intro w hS; go_simp⟩) hS ?_
        refine wpAnyH_take (i := 0) (v := .agg #[.int .i64 u, .string d, .int .i64 t, .bool b1, .bool b2, .bool b3]) rfl (by kernel_rfl) (by kernel_rfl) (by kernel_rfl) (fun _ _ _ h => h) (Or.inl ⟨rfl, by intro w hS; obtain ⟨⟨h0, h1, h2, h3, h4, h5⟩, _⟩ := hS.of6; go_simp⟩) hS ?_
        refine wpAnyH_ready (rs := [2, 11]) (by kernel_rfl) (by simp) ?_
        refine AllReadyH.cons (i := 2) rfl (fun K hK => ?zq1) (AllReadyH.cons (i := 11) rfl (fun K hK => ?zq2) AllReadyH.nil)
        · rw [if_pos (by rfl)]
          go_simp
          clear hS
          refine (l1Below_pos B g v52 C52.out 40 (by omega) (by omega)).mono ?_
          rintro e v53 ⟨p, rfl, hp, hcu, hgr⟩
          have KR53 := Lib.hid (KR52.out.grown hgr c_R)
          have KK53 := Lib.hid (KK52.out.grown hgr c_K)
          have G53 := Lib.hid (grown_tr G52.out hgr)
          have C53 := Lib.hid hcu
          clear hcu hgr KR52 KK52 G52 C52
          refine hK.out _ _ KK53.out (fun hS => ?_)
          clear hK K
          have hwp : IntKind.i64.wrap (1 + p) = 1 + p := IntWalk.i64_in _ (by omega)
          refine wpAnyH_take (i := 3) (v := .int .i64 (1 + p)) rfl (by kernel_rfl) (by kernel_rfl) (by kernel_rfl) (fun _ _ _ h => h) (Or.inl ⟨rfl, by intro w hS; first | (go_simp; done) | (go_simp; exact hwp)⟩) hS ?_
          clear hwp
          refine wpAnyH_ready (rs := [5, 11]) (by kernel_rfl) (by simp) ?_
          refine AllReadyH.cons (i := 5) rfl (fun K hK => ?zq3) (AllReadyH.cons (i := 11) rfl (fun K hK => ?zq4) AllReadyH.nil)
          · rw [if_pos (by rfl)]
            go_simp
            clear hS
            refine (l1Below_pos B g v53 C53.out 16 (by omega) (by omega)).mono ?_
            rintro e v54 ⟨r, rfl, hr, hcu, hgr⟩
            have KR54 := Lib.hid (KR53.out.grown hgr c_R)
            have KK54 := Lib.hid (KK53.out.grown hgr c_K)
            have G54 := Lib.hid (grown_tr G53.out hgr)
            have C54 := Lib.hid hcu
            clear hcu hgr KR53 KK53 G53 C53
            refine hK.out _ _ KK54.out (fun hS => ?_)
            clear hK K
            have hwr : IntKind.i64.wrap (1 + r) = 1 + r := IntWalk.i64_in _ (by omega)
            refine wpAnyH_take (i := 6) (v := .int .i64 (1 + r)) rfl (by kernel_rfl) (by kernel_rfl) (by kernel_rfl) (fun _ _ _ h => h) (Or.inl ⟨rfl, by intro w hS; first | (go_simp; done) | (go_simp; exact hwr)⟩) hS ?_
            clear hwr
            refine wpAnyH_ready (rs := [7, 11]) (by kernel_rfl) (by simp) ?_
            refine AllReadyH.cons (i := 7) rfl (fun K hK => ?zq5) (AllReadyH.cons (i := 11) rfl (fun K hK => ?zq6) AllReadyH.nil)
            · clear hp hr
              have Q := nextChunkS u d t b1 b2 b3 (1 + p) (1 + r)
              unfold EndNx at Q
              generalize ckOk ⟨u, d, t, b1, b2, b3⟩ (1 + p) (1 + r) = ok at Q
              obtain ⟨⟨q, y, bf⟩, ho⟩ : ∃ o : Chk, chk ⟨u, d, t, b1, b2, b3⟩ (1 + p) (1 + r) = o := ⟨_, rfl⟩
              rw [ho] at Q
              simp only [Chk.cs] at Q
              replace Q := Lib.hid Q
              clear ho
              rw [if_pos (by rfl)]
              go_simp
              clear hS
              refine (Q.out _).mono ?_
              rintro e v55 ⟨rfl, hb⟩
              have KR55 := Lib.hid (KR54.out.below hb)
              have KK55 := Lib.hid (KK54.out.below hb)
              have G55 := Lib.hid (grown_tr G54.out (below_any hb))
              have C55 := Lib.hid (C54.out.below hb)
              clear hb KR54 KK54 G54 C54
              refine hK.out _ _ KK55.out (fun hS => ?_)
              clear hK K
              refine wpAnyH_take (i := 8) (v := .tuple #[.agg #[.int .i64 q, .string y, .bool bf], .bool ok]) rfl (by kernel_rfl) (by kernel_rfl) (by kernel_rfl) (fun _ _ _ h => h) (Or.inl ⟨rfl, by intro w hS; go_simp⟩) hS ?_
              refine wpAnyH_take (i := 9) (v := .agg #[.int .i64 q, .string y, .bool bf]) rfl (by kernel_rfl) (by kernel_rfl) (by kernel_rfl) (fun _ _ _ h => h) (Or.inl ⟨rfl, by intro w hS; go_simp⟩) hS ?_
              refine wpAnyH_take (i := 10) (v := .bool ok) rfl (by kernel_rfl) (by kernel_rfl) (by kernel_rfl) (fun _ _ _ h => h) (Or.inl ⟨rfl, by intro w hS; go_simp⟩) hS ?_
              refine wpAnyH_ready (rs := [11]) (by kernel_rfl) (by simp) ?_
              refine AllReadyH.cons (i := 11) rfl (fun K hK => ?zq7) AllReadyH.nil
              rw [if_pos (by rfl)]
              go_simp
              clear hS
              have KR56 := Lib.hid (KR55.out.alloc (.cells #[.int .i64 0, .string ⟨#[]⟩, .bool false] 35))
              have n_R_x : g_R ≠ v55.heap.size := by have h1 := KR55.out.lt; omega
              have KK56 := Lib.hid (KK55.out.alloc (.cells #[.int .i64 0, .string ⟨#[]⟩, .bool false] 35))
              have n_K_x : g_K ≠ v55.heap.size := by have h1 := KK55.out.lt; omega
              have Kx56 := Lib.hid (Blk.new v55 [.int .i64 0, .string ⟨#[]⟩, .bool false] 35)
              have G56 := Lib.hid (grown_new G55.out (.cells #[.int .i64 0, .string ⟨#[]⟩, .bool false] 35))
              have C56 := Lib.hid (C55.out.new (.cells #[.int .i64 0, .string ⟨#[]⟩, .bool false] 35))
              have l_x : w.heap.size ≤ v55.heap.size := G55.out.size
              have c_x : v55.heap.size ≠ g := Nat.ne_of_gt C55.out.lt
              have b_x := Nat.le_trans (show _ ≤ g from C55.out.1) (Nat.le_of_lt C55.out.lt)
              clear KR55 KK55 G55 C55
              refine hK.out _ _ KK56.out (fun hS => ?_)
              clear hK K
              generalize v55.alloc (.cells #[.int .i64 0, .string ⟨#[]⟩, .bool false] 35) = v56 at hS KR56 KK56 Kx56 C56 G56 ⊢
              generalize hh : v55.heap.size = g_x at Kx56 l_x c_x b_x n_R_x n_K_x  ⊢
              clear hh
              obtain ⟨⟨cx0, cx1, cx2⟩, dx0, dx1, dx2⟩ := Kx56.out.o3
              refine wpAnyH_ready (rs := [12]) (by kernel_rfl) (by simp) ?_
              refine AllReadyH.cons (i := 12) rfl (fun K hK => ?zq8) AllReadyH.nil
              rw [if_pos (by rfl)]
              go_simp
              clear hS
              have KR57 := Lib.hid (show Blk (((v56.setCell ⟨g_x, 0, none⟩ (.int .i64 q)).setCell ⟨g_x, 1, none⟩ (.string y)).setCell ⟨g_x, 2, none⟩ (.bool bf)) g_R [.int .i64 0, .string ⟨#[]⟩, .int .i64 0, .bool false, .bool false, .bool false] from (((KR56.out.setOther ⟨g_x, 0, none⟩ (.int .i64 q) (n_R_x)).setOther ⟨g_x, 1, none⟩ (.string y) (n_R_x)).setOther ⟨g_x, 2, none⟩ (.bool bf) (n_R_x)))
              have KK57 := Lib.hid (show Blk (((v56.setCell ⟨g_x, 0, none⟩ (.int .i64 q)).setCell ⟨g_x, 1, none⟩ (.string y)).setCell ⟨g_x, 2, none⟩ (.bool bf)) g_K [.int .i64 u, .string d, .int .i64 t, .bool b1, .bool b2, .bool b3] from (((KK56.out.setOther ⟨g_x, 0, none⟩ (.int .i64 q) (n_K_x)).setOther ⟨g_x, 1, none⟩ (.string y) (n_K_x)).setOther ⟨g_x, 2, none⟩ (.bool bf) (n_K_x)))
              have Kx57 := Lib.hid (show Blk (((v56.setCell ⟨g_x, 0, none⟩ (.int .i64 q)).setCell ⟨g_x, 1, none⟩ (.string y)).setCell ⟨g_x, 2, none⟩ (.bool bf)) g_x [.int .i64 q, .string y, .bool bf] from (((Kx56.out.set 0 (.int .i64 q)).set 1 (.string y)).set 2 (.bool bf)))
              have G57 := Lib.hid (grown_setNew (grown_setNew (grown_setNew G56.out ⟨g_x, 0, none⟩ (.int .i64 q) l_x) ⟨g_x, 1, none⟩ (.string y) l_x) ⟨g_x, 2, none⟩ (.bool bf) l_x)
              have C57 := Lib.hid (((C56.out.setOther ⟨g_x, 0, none⟩ (.int .i64 q) b_x c_x).setOther ⟨g_x, 1, none⟩ (.string y) b_x c_x).setOther ⟨g_x, 2, none⟩ (.bool bf) b_x c_x)
              refine hK.out _ _ KK57.out (fun hS => ?_)
              clear hK K
              clear KR56 KK56 Kx56 C56 G56
              clear cx0 cx1 cx2 dx0 dx1 dx2
              generalize ((v56.setCell ⟨g_x, 0, none⟩ (.int .i64 q)).setCell ⟨g_x, 1, none⟩ (.string y)).setCell ⟨g_x, 2, none⟩ (.bool bf) = v57 at hS KR57 KK57 Kx57 C57 G57 ⊢
              refine wpAnyH_take (i := 13) (v := .bool ok) rfl (by kernel_rfl) (by kernel_rfl) (by kernel_rfl) (fun _ _ _ h => h) (Or.inl ⟨rfl, by intro w hS; go_simp⟩) hS ?_
              refine wpAnyH_done (by kernel_rfl) ?_ _
              refine NoPanic.normal ?_
              go_wp2_with fail
              go_meet
              case rel => exact ⟨_, q, y, bf, ok, rfl, rfl, KR57, KK57, Kx57, C57, G57, ⟨n_R_x, n_K_x⟩⟩
            · rw [if_pos (by rfl)]
              go_simp
              clear hS
              have KR55 := Lib.hid (KR54.out.alloc (.cells #[.int .i64 0, .string ⟨#[]⟩, .bool false] 35))
              have n_R_x : g_R ≠ v54.heap.size := by have h1 := KR54.out.lt; omega
              have KK55 := Lib.hid (KK54.out.alloc (.cells #[.int .i64 0, .string ⟨#[]⟩, .bool false] 35))
              have n_K_x : g_K ≠ v54.heap.size := by have h1 := KK54.out.lt; omega
              have Kx55 := Lib.hid (Blk.new v54 [.int .i64 0, .string ⟨#[]⟩, .bool false] 35)
              have G55 := Lib.hid (grown_new G54.out (.cells #[.int .i64 0, .string ⟨#[]⟩, .bool false] 35))
              have C55 := Lib.hid (C54.out.new (.cells #[.int .i64 0, .string ⟨#[]⟩, .bool false] 35))
              have l_x : w.heap.size ≤ v54.heap.size := G54.out.size
              have c_x : v54.heap.size ≠ g := Nat.ne_of_gt C54.out.lt
              have b_x := Nat.le_trans (show _ ≤ g from C54.out.1) (Nat.le_of_lt C54.out.lt)
              clear KR54 KK54 G54 C54
              refine hK.out _ _ KK55.out (fun hS => ?_)
              clear hK K
              generalize v54.alloc (.cells #[.int .i64 0, .string ⟨#[]⟩, .bool false] 35) = v55 at hS KR55 KK55 Kx55 C55 G55 ⊢
              generalize hh : v54.heap.size = g_x at Kx55 l_x c_x b_x n_R_x n_K_x  ⊢
              clear hh
              refine wpAnyH_ready (rs := [7]) (by kernel_rfl) (by simp) ?_
              refine AllReadyH.cons (i := 7) rfl (fun K hK => ?zq9) AllReadyH.nil
              clear hp hr
              have Q := nextChunkS u d t b1 b2 b3 (1 + p) (1 + r)
              unfold EndNx at Q
              generalize ckOk ⟨u, d, t, b1, b2, b3⟩ (1 + p) (1 + r) = ok at Q
              obtain ⟨⟨q, y, bf⟩, ho⟩ : ∃ o : Chk, chk ⟨u, d, t, b1, b2, b3⟩ (1 + p) (1 + r) = o := ⟨_, rfl⟩
              rw [ho] at Q
              simp only [Chk.cs] at Q
              replace Q := Lib.hid Q
              clear ho
              rw [if_pos (by rfl)]
              go_simp
              clear hS
              refine (Q.out _).mono ?_
              rintro e v56 ⟨rfl, hb⟩
              have KR56 := Lib.hid (KR55.out.below hb)
              have KK56 := Lib.hid (KK55.out.below hb)
              have Kx56 := Lib.hid (Kx55.out.below hb)
              have G56 := Lib.hid (grown_tr G55.out (below_any hb))
              have C56 := Lib.hid (C55.out.below hb)
              clear hb KR55 KK55 Kx55 G55 C55
              refine hK.out _ _ KK56.out (fun hS => ?_)
              clear hK K
              refine wpAnyH_take (i := 8) (v := .tuple #[.agg #[.int .i64 q, .string y, .bool bf], .bool ok]) rfl (by kernel_rfl) (by kernel_rfl) (by kernel_rfl) (fun _ _ _ h => h) (Or.inl ⟨rfl, by intro w hS; go_simp⟩) hS ?_
              refine wpAnyH_take (i := 9) (v := .agg #[.int .i64 q, .string y, .bool bf]) rfl (by kernel_rfl) (by kernel_rfl) (by kernel_rfl) (fun _ _ _ h => h) (Or.inl ⟨rfl, by intro w hS; go_simp⟩) hS ?_
              refine wpAnyH_take (i := 10) (v := .bool ok) rfl (by kernel_rfl) (by kernel_rfl) (by kernel_rfl) (fun _ _ _ h => h) (Or.inl ⟨rfl, by intro w hS; go_simp⟩) hS ?_
              obtain ⟨⟨cx0, cx1, cx2⟩, dx0, dx1, dx2⟩ := Kx56.out.o3
              refine wpAnyH_ready (rs := [12]) (by kernel_rfl) (by simp) ?_
              refine AllReadyH.cons (i := 12) rfl (fun K hK => ?zq10) AllReadyH.nil
              rw [if_pos (by rfl)]
              go_simp
              clear hS
              have KR57 := Lib.hid (show Blk (((v56.setCell ⟨g_x, 0, none⟩ (.int .i64 q)).setCell ⟨g_x, 1, none⟩ (.string y)).setCell ⟨g_x, 2, none⟩ (.bool bf)) g_R [.int .i64 0, .string ⟨#[]⟩, .int .i64 0, .bool false, .bool false, .bool false] from (((KR56.out.setOther ⟨g_x, 0, none⟩ (.int .i64 q) (n_R_x)).setOther ⟨g_x, 1, none⟩ (.string y) (n_R_x)).setOther ⟨g_x, 2, none⟩ (.bool bf) (n_R_x)))
              have KK57 := Lib.hid (show Blk (((v56.setCell ⟨g_x, 0, none⟩ (.int .i64 q)).setCell ⟨g_x, 1, none⟩ (.string y)).setCell ⟨g_x, 2, none⟩ (.bool bf)) g_K [.int .i64 u, .string d, .int .i64 t, .bool b1, .bool b2, .bool b3] from (((KK56.out.setOther ⟨g_x, 0, none⟩ (.int .i64 q) (n_K_x)).setOther ⟨g_x, 1, none⟩ (.string y) (n_K_x)).setOther ⟨g_x, 2, none⟩ (.bool bf) (n_K_x)))
              have Kx57 := Lib.hid (show Blk (((v56.setCell ⟨g_x, 0, none⟩ (.int .i64 q)).setCell ⟨g_x, 1, none⟩ (.string y)).setCell ⟨g_x, 2, none⟩ (.bool bf)) g_x [.int .i64 q, .string y, .bool bf] from (((Kx56.out.set 0 (.int .i64 q)).set 1 (.string y)).set 2 (.bool bf)))
              have G57 := Lib.hid (grown_setNew (grown_setNew (grown_setNew G56.out ⟨g_x, 0, none⟩ (.int .i64 q) l_x) ⟨g_x, 1, none⟩ (.string y) l_x) ⟨g_x, 2, none⟩ (.bool bf) l_x)
              have C57 := Lib.hid (((C56.out.setOther ⟨g_x, 0, none⟩ (.int .i64 q) b_x c_x).setOther ⟨g_x, 1, none⟩ (.string y) b_x c_x).setOther ⟨g_x, 2, none⟩ (.bool bf) b_x c_x)
              refine hK.out _ _ KK57.out (fun hS => ?_)
              clear hK K
              clear KR56 KK56 Kx56 C56 G56
              clear cx0 cx1 cx2 dx0 dx1 dx2
              generalize ((v56.setCell ⟨g_x, 0, none⟩ (.int .i64 q)).setCell ⟨g_x, 1, none⟩ (.string y)).setCell ⟨g_x, 2, none⟩ (.bool bf) = v57 at hS KR57 KK57 Kx57 C57 G57 ⊢
              refine wpAnyH_take (i := 13) (v := .bool ok) rfl (by kernel_rfl) (by kernel_rfl) (by kernel_rfl) (fun _ _ _ h => h) (Or.inl ⟨rfl, by intro w hS; go_simp⟩) hS ?_
              refine wpAnyH_done (by kernel_rfl) ?_ _
              refine NoPanic.normal ?_
              go_wp2_with fail
              go_meet
              case rel => exact ⟨_, q, y, bf, ok, rfl, rfl, KR57, KK57, Kx57, C57, G57, ⟨n_R_x, n_K_x⟩⟩
          · rw [if_pos (by rfl)]
            go_simp
            clear hS
            have KR54 := Lib.hid (KR53.out.alloc (.cells #[.int .i64 0, .string ⟨#[]⟩, .bool false] 35))
            have n_R_x : g_R ≠ v53.heap.size := by have h1 := KR53.out.lt; omega
            have KK54 := Lib.hid (KK53.out.alloc (.cells #[.int .i64 0, .string ⟨#[]⟩, .bool false] 35))
            have n_K_x : g_K ≠ v53.heap.size := by have h1 := KK53.out.lt; omega
            have Kx54 := Lib.hid (Blk.new v53 [.int .i64 0, .string ⟨#[]⟩, .bool false] 35)
            have G54 := Lib.hid (grown_new G53.out (.cells #[.int .i64 0, .string ⟨#[]⟩, .bool false] 35))
            have C54 := Lib.hid (C53.out.new (.cells #[.int .i64 0, .string ⟨#[]⟩, .bool false] 35))
            have l_x : w.heap.size ≤ v53.heap.size := G53.out.size
            have c_x : v53.heap.size ≠ g := Nat.ne_of_gt C53.out.lt
            have b_x := Nat.le_trans (show _ ≤ g from C53.out.1) (Nat.le_of_lt C53.out.lt)
            clear KR53 KK53 G53 C53
            refine hK.out _ _ KK54.out (fun hS => ?_)
            clear hK K
            generalize v53.alloc (.cells #[.int .i64 0, .string ⟨#[]⟩, .bool false] 35) = v54 at hS KR54 KK54 Kx54 C54 G54 ⊢
            generalize hh : v53.heap.size = g_x at Kx54 l_x c_x b_x n_R_x n_K_x  ⊢
            clear hh
            refine wpAnyH_ready (rs := [5]) (by kernel_rfl) (by simp) ?_
            refine AllReadyH.cons (i := 5) rfl (fun K hK => ?zq11) AllReadyH.nil
            rw [if_pos (by rfl)]
            go_simp
            clear hS
            refine (l1Below_pos B g v54 C54.out 16 (by omega) (by omega)).mono ?_
            rintro e v55 ⟨r, rfl, hr, hcu, hgr⟩
            have KR55 := Lib.hid (KR54.out.grown hgr c_R)
            have KK55 := Lib.hid (KK54.out.grown hgr c_K)
            have Kx55 := Lib.hid (Kx54.out.grown hgr c_x)
            have G55 := Lib.hid (grown_tr G54.out hgr)
            have C55 := Lib.hid hcu
            clear hcu hgr KR54 KK54 Kx54 G54 C54
            refine hK.out _ _ KK55.out (fun hS => ?_)
            clear hK K
            have hwr : IntKind.i64.wrap (1 + r) = 1 + r := IntWalk.i64_in _ (by omega)
            refine wpAnyH_take (i := 6) (v := .int .i64 (1 + r)) rfl (by kernel_rfl) (by kernel_rfl) (by kernel_rfl) (fun _ _ _ h => h) (Or.inl ⟨rfl, by intro w hS; first | (go_simp; done) | (go_simp; exact hwr)⟩) hS ?_
            clear hwr
            refine wpAnyH_ready (rs := [7]) (by kernel_rfl) (by simp) ?_
            refine AllReadyH.cons (i := 7) rfl (fun K hK => ?zq12) AllReadyH.nil
            clear hp hr
            have Q := nextChunkS u d t b1 b2 b3 (1 + p) (1 + r)
            unfold EndNx at Q
            generalize ckOk ⟨u, d, t, b1, b2, b3⟩ (1 + p) (1 + r) = ok at Q
            obtain ⟨⟨q, y, bf⟩, ho⟩ : ∃ o : Chk, chk ⟨u, d, t, b1, b2, b3⟩ (1 + p) (1 + r) = o := ⟨_, rfl⟩
            rw [ho] at Q
            simp only [Chk.cs] at Q
            replace Q := Lib.hid Q
            clear ho
            rw [if_pos (by rfl)]
            go_simp
            clear hS
            refine (Q.out _).mono ?_
            rintro e v56 ⟨rfl, hb⟩
            have KR56 := Lib.hid (KR55.out.below hb)
            have KK56 := Lib.hid (KK55.out.below hb)
            have Kx56 := Lib.hid (Kx55.out.below hb)
            have G56 := Lib.hid (grown_tr G55.out (below_any hb))
            have C56 := Lib.hid (C55.out.below hb)
            clear hb KR55 KK55 Kx55 G55 C55
            refine hK.out _ _ KK56.out (fun hS => ?_)
            clear hK K
            refine wpAnyH_take (i := 8) (v := .tuple #[.agg #[.int .i64 q, .string y, .bool bf], .bool ok]) rfl (by kernel_rfl) (by kernel_rfl) (by kernel_rfl) (fun _ _ _ h => h) (Or.inl ⟨rfl, by intro w hS; go_simp⟩) hS ?_
            refine wpAnyH_take (i := 9) (v := .agg #[.int .i64 q, .string y, .bool bf]) rfl (by kernel_rfl) (by kernel_rfl) (by kernel_rfl) (fun _ _ _ h => h) (Or.inl ⟨rfl, by intro w hS; go_simp⟩) hS ?_
            refine wpAnyH_take (i := 10) (v := .bool ok) rfl (by kernel_rfl) (by kernel_rfl) (by kernel_rfl) (fun _ _ _ h => h) (Or.inl ⟨rfl, by intro w hS; go_simp⟩) hS ?_
            obtain ⟨⟨cx0, cx1, cx2⟩, dx0, dx1, dx2⟩ := Kx56.out.o3
            refine wpAnyH_ready (rs := [12]) (by kernel_rfl) (by simp) ?_
            refine AllReadyH.cons (i := 12) rfl (fun K hK => ?zq13) AllReadyH.nil
            rw [if_pos (by rfl)]
            go_simp
            clear hS
            have KR57 := Lib.hid (show Blk (((v56.setCell ⟨g_x, 0, none⟩ (.int .i64 q)).setCell ⟨g_x, 1, none⟩ (.string y)).setCell ⟨g_x, 2, none⟩ (.bool bf)) g_R [.int .i64 0, .string ⟨#[]⟩, .int .i64 0, .bool false, .bool false, .bool false] from (((KR56.out.setOther ⟨g_x, 0, none⟩ (.int .i64 q) (n_R_x)).setOther ⟨g_x, 1, none⟩ (.string y) (n_R_x)).setOther ⟨g_x, 2, none⟩ (.bool bf) (n_R_x)))
            have KK57 := Lib.hid (show Blk (((v56.setCell ⟨g_x, 0, none⟩ (.int .i64 q)).setCell ⟨g_x, 1, none⟩ (.string y)).setCell ⟨g_x, 2, none⟩ (.bool bf)) g_K [.int .i64 u, .string d, .int .i64 t, .bool b1, .bool b2, .bool b3] from (((KK56.out.setOther ⟨g_x, 0, none⟩ (.int .i64 q) (n_K_x)).setOther ⟨g_x, 1, none⟩ (.string y) (n_K_x)).setOther ⟨g_x, 2, none⟩ (.bool bf) (n_K_x)))
            have Kx57 := Lib.hid (show Blk (((v56.setCell ⟨g_x, 0, none⟩ (.int .i64 q)).setCell ⟨g_x, 1, none⟩ (.string y)).setCell ⟨g_x, 2, none⟩ (.bool bf)) g_x [.int .i64 q, .string y, .bool bf] from (((Kx56.out.set 0 (.int .i64 q)).set 1 (.string y)).set 2 (.bool bf)))
            have G57 := Lib.hid (grown_setNew (grown_setNew (grown_setNew G56.out ⟨g_x, 0, none⟩ (.int .i64 q) l_x) ⟨g_x, 1, none⟩ (.string y) l_x) ⟨g_x, 2, none⟩ (.bool bf) l_x)
            have C57 := Lib.hid (((C56.out.setOther ⟨g_x, 0, none⟩ (.int .i64 q) b_x c_x).setOther ⟨g_x, 1, none⟩ (.string y) b_x c_x).setOther ⟨g_x, 2, none⟩ (.bool bf) b_x c_x)
            refine hK.out _ _ KK57.out (fun hS => ?_)
            clear hK K
            clear KR56 KK56 Kx56 C56 G56
            clear cx0 cx1 cx2 dx0 dx1 dx2
            generalize ((v56.setCell ⟨g_x, 0, none⟩ (.int .i64 q)).setCell ⟨g_x, 1, none⟩ (.string y)).setCell ⟨g_x, 2, none⟩ (.bool bf) = v57 at hS KR57 KK57 Kx57 C57 G57 ⊢
            refine wpAnyH_take (i := 13) (v := .bool ok) rfl (by kernel_rfl) (by kernel_rfl) (by kernel_rfl) (fun _ _ _ h => h) (Or.inl ⟨rfl, by intro w hS; go_simp⟩) hS ?_
            refine wpAnyH_done (by kernel_rfl) ?_ _
            refine NoPanic.normal ?_
            go_wp2_with fail
            go_meet
            case rel => exact ⟨_, q, y, bf, ok, rfl, rfl, KR57, KK57, Kx57, C57, G57, ⟨n_R_x, n_K_x⟩⟩
        · rw [if_pos (by rfl)]
          go_simp
          clear hS
          have KR53 := Lib.hid (KR52.out.alloc (.cells #[.int .i64 0, .string ⟨#[]⟩, .bool false] 35))
          have n_R_x : g_R ≠ v52.heap.size := by have h1 := KR52.out.lt; omega
          have KK53 := Lib.hid (KK52.out.alloc (.cells #[.int .i64 0, .string ⟨#[]⟩, .bool false] 35))
          have n_K_x : g_K ≠ v52.heap.size := by have h1 := KK52.out.lt; omega
          have Kx53 := Lib.hid (Blk.new v52 [.int .i64 0, .string ⟨#[]⟩, .bool false] 35)
          have G53 := Lib.hid (grown_new G52.out (.cells #[.int .i64 0, .string ⟨#[]⟩, .bool false] 35))
          have C53 := Lib.hid (C52.out.new (.cells #[.int .i64 0, .string ⟨#[]⟩, .bool false] 35))
          have l_x : w.heap.size ≤ v52.heap.size := G52.out.size
          have c_x : v52.heap.size ≠ g := Nat.ne_of_gt C52.out.lt
          have b_x := Nat.le_trans (show _ ≤ g from C52.out.1) (Nat.le_of_lt C52.out.lt)
          clear KR52 KK52 G52 C52
          refine hK.out _ _ KK53.out (fun hS => ?_)
          clear hK K
          generalize v52.alloc (.cells #[.int .i64 0, .string ⟨#[]⟩, .bool false] 35) = v53 at hS KR53 KK53 Kx53 C53 G53 ⊢
          generalize hh : v52.heap.size = g_x at Kx53 l_x c_x b_x n_R_x n_K_x  ⊢
          clear hh
          refine wpAnyH_ready (rs := [2]) (by kernel_rfl) (by simp) ?_
          refine AllReadyH.cons (i := 2) rfl (fun K hK => ?zq14) AllReadyH.nil
          rw [if_pos (by rfl)]
          go_simp
          clear hS
          refine (l1Below_pos B g v53 C53.out 40 (by omega) (by omega)).mono ?_
          rintro e v54 ⟨p, rfl, hp, hcu, hgr⟩
          have KR54 := Lib.hid (KR53.out.grown hgr c_R)
          have KK54 := Lib.hid (KK53.out.grown hgr c_K)
          have Kx54 := Lib.hid (Kx53.out.grown hgr c_x)
          have G54 := Lib.hid (grown_tr G53.out hgr)
          have C54 := Lib.hid hcu
          clear hcu hgr KR53 KK53 Kx53 G53 C53
          refine hK.out _ _ KK54.out (fun hS => ?_)
          clear hK K
          have hwp : IntKind.i64.wrap (1 + p) = 1 + p := IntWalk.i64_in _ (by omega)
          refine wpAnyH_take (i := 3) (v := .int .i64 (1 + p)) rfl (by kernel_rfl) (by kernel_rfl) (by kernel_rfl) (fun _ _ _ h => h) (Or.inl ⟨rfl, by intro w hS; first | (go_simp; done) | (go_simp; exact hwp)⟩) hS ?_
          clear hwp
          refine wpAnyH_ready (rs := [5]) (by kernel_rfl) (by simp) ?_
          refine AllReadyH.cons (i := 5) rfl (fun K hK => ?zq15) AllReadyH.nil
          rw [if_pos (by rfl)]
          go_simp
          clear hS
          refine (l1Below_pos B g v54 C54.out 16 (by omega) (by omega)).mono ?_
          rintro e v55 ⟨r, rfl, hr, hcu, hgr⟩
          have KR55 := Lib.hid (KR54.out.grown hgr c_R)
          have KK55 := Lib.hid (KK54.out.grown hgr c_K)
          have Kx55 := Lib.hid (Kx54.out.grown hgr c_x)
          have G55 := Lib.hid (grown_tr G54.out hgr)
          have C55 := Lib.hid hcu
          clear hcu hgr KR54 KK54 Kx54 G54 C54
          refine hK.out _ _ KK55.out (fun hS => ?_)
          clear hK K
          have hwr : IntKind.i64.wrap (1 + r) = 1 + r := IntWalk.i64_in _ (by omega)
          refine wpAnyH_take (i := 6) (v := .int .i64 (1 + r)) rfl (by kernel_rfl) (by kernel_rfl) (by kernel_rfl) (fun _ _ _ h => h) (Or.inl ⟨rfl, by intro w hS; first | (go_simp; done) | (go_simp; exact hwr)⟩) hS ?_
          clear hwr
          refine wpAnyH_ready (rs := [7]) (by kernel_rfl) (by simp) ?_
          refine AllReadyH.cons (i := 7) rfl (fun K hK => ?zq16) AllReadyH.nil
          clear hp hr
          have Q := nextChunkS u d t b1 b2 b3 (1 + p) (1 + r)
          unfold EndNx at Q
          generalize ckOk ⟨u, d, t, b1, b2, b3⟩ (1 + p) (1 + r) = ok at Q
          obtain ⟨⟨q, y, bf⟩, ho⟩ : ∃ o : Chk, chk ⟨u, d, t, b1, b2, b3⟩ (1 + p) (1 + r) = o := ⟨_, rfl⟩
          rw [ho] at Q
          simp only [Chk.cs] at Q
          replace Q := Lib.hid Q
          clear ho
          rw [if_pos (by rfl)]
          go_simp
          clear hS
          refine (Q.out _).mono ?_
          rintro e v56 ⟨rfl, hb⟩
          have KR56 := Lib.hid (KR55.out.below hb)
          have KK56 := Lib.hid (KK55.out.below hb)
          have Kx56 := Lib.hid (Kx55.out.below hb)
          have G56 := Lib.hid (grown_tr G55.out (below_any hb))
          have C56 := Lib.hid (C55.out.below hb)
          clear hb KR55 KK55 Kx55 G55 C55
          refine hK.out _ _ KK56.out (fun hS => ?_)
          clear hK K
          refine wpAnyH_take (i := 8) (v := .tuple #[.agg #[.int .i64 q, .string y, .bool bf], .bool ok]) rfl (by kernel_rfl) (by kernel_rfl) (by kernel_rfl) (fun _ _ _ h => h) (Or.inl ⟨rfl, by intro w hS; go_simp⟩) hS ?_
          refine wpAnyH_take (i := 9) (v := .agg #[.int .i64 q, .string y, .bool bf]) rfl (by kernel_rfl) (by kernel_rfl) (by kernel_rfl) (fun _ _ _ h => h) (Or.inl ⟨rfl, by intro w hS; go_simp⟩) hS ?_
          refine wpAnyH_take (i := 10) (v := .bool ok) rfl (by kernel_rfl) (by kernel_rfl) (by kernel_rfl) (fun _ _ _ h => h) (Or.inl ⟨rfl, by intro w hS; go_simp⟩) hS ?_
          obtain ⟨⟨cx0, cx1, cx2⟩, dx0, dx1, dx2⟩ := Kx56.out.o3
          refine wpAnyH_ready (rs := [12]) (by kernel_rfl) (by simp) ?_
          refine AllReadyH.cons (i := 12) rfl (fun K hK => ?zq17) AllReadyH.nil
          rw [if_pos (by rfl)]
          go_simp
          clear hS
          have KR57 := Lib.hid (show Blk (((v56.setCell ⟨g_x, 0, none⟩ (.int .i64 q)).setCell ⟨g_x, 1, none⟩ (.string y)).setCell ⟨g_x, 2, none⟩ (.bool bf)) g_R [.int .i64 0, .string ⟨#[]⟩, .int .i64 0, .bool false, .bool false, .bool false] from (((KR56.out.setOther ⟨g_x, 0, none⟩ (.int .i64 q) (n_R_x)).setOther ⟨g_x, 1, none⟩ (.string y) (n_R_x)).setOther ⟨g_x, 2, none⟩ (.bool bf) (n_R_x)))
          have KK57 := Lib.hid (show Blk (((v56.setCell ⟨g_x, 0, none⟩ (.int .i64 q)).setCell ⟨g_x, 1, none⟩ (.string y)).setCell ⟨g_x, 2, none⟩ (.bool bf)) g_K [.int .i64 u, .string d, .int .i64 t, .bool b1, .bool b2, .bool b3] from (((KK56.out.setOther ⟨g_x, 0, none⟩ (.int .i64 q) (n_K_x)).setOther ⟨g_x, 1, none⟩ (.string y) (n_K_x)).setOther ⟨g_x, 2, none⟩ (.bool bf) (n_K_x)))
          have Kx57 := Lib.hid (show Blk (((v56.setCell ⟨g_x, 0, none⟩ (.int .i64 q)).setCell ⟨g_x, 1, none⟩ (.string y)).setCell ⟨g_x, 2, none⟩ (.bool bf)) g_x [.int .i64 q, .string y, .bool bf] from (((Kx56.out.set 0 (.int .i64 q)).set 1 (.string y)).set 2 (.bool bf)))
          have G57 := Lib.hid (grown_setNew (grown_setNew (grown_setNew G56.out ⟨g_x, 0, none⟩ (.int .i64 q) l_x) ⟨g_x, 1, none⟩ (.string y) l_x) ⟨g_x, 2, none⟩ (.bool bf) l_x)
          have C57 := Lib.hid (((C56.out.setOther ⟨g_x, 0, none⟩ (.int .i64 q) b_x c_x).setOther ⟨g_x, 1, none⟩ (.string y) b_x c_x).setOther ⟨g_x, 2, none⟩ (.bool bf) b_x c_x)
          refine hK.out _ _ KK57.out (fun hS => ?_)
          clear hK K
          clear KR56 KK56 Kx56 C56 G56
          clear cx0 cx1 cx2 dx0 dx1 dx2
          generalize ((v56.setCell ⟨g_x, 0, none⟩ (.int .i64 q)).setCell ⟨g_x, 1, none⟩ (.string y)).setCell ⟨g_x, 2, none⟩ (.bool bf) = v57 at hS KR57 KK57 Kx57 C57 G57 ⊢
          refine wpAnyH_take (i := 13) (v := .bool ok) rfl (by kernel_rfl) (by kernel_rfl) (by kernel_rfl) (fun _ _ _ h => h) (Or.inl ⟨rfl, by intro w hS; go_simp⟩) hS ?_
          refine wpAnyH_done (by kernel_rfl) ?_ _
          refine NoPanic.normal ?_
          go_wp2_with fail
          go_meet
          case rel => exact ⟨_, q, y, bf, ok, rfl, rfl, KR57, KK57, Kx57, C57, G57, ⟨n_R_x, n_K_x⟩⟩
      case rest =>
        clear KR51 KK51 C51 G51
        obtain ⟨g_x, q, y, bf, ok, rfl, rfl, KR111, KK111, Kx111, C111, G111, ⟨n_R_x, n_K_x⟩⟩ := hcut
        generalize wc = wc1 at KR111 KK111 Kx111 C111 G111 ⊢
        cases ok with
        | false =>
          obtain ⟨⟨cR0, cR1, cR2, cR3, cR4, cR5⟩, dR0, dR1, dR2, dR3, dR4, dR5⟩ := KR111.out.of6
          obtain ⟨⟨cK0, cK1, cK2, cK3, cK4, cK5⟩, dK0, dK1, dK2, dK3, dK4, dK5⟩ := KK111.out.of6
          obtain ⟨⟨cx0, cx1, cx2⟩, dx0, dx1, dx2⟩ := Kx111.out.o3
          go_wp2_with fail
          clear cR0 cR1 cR2 cR3 cR4 cR5 dR0 dR1 dR2 dR3 dR4 dR5 cK0 cK1 cK2 cK3 cK4 cK5 dK0 dK1 dK2 dK3 dK4 dK5 cx0 cx1 cx2 dx0 dx1 dx2
          go_roundw
          case rel => exact ⟨k + 1, by omega, by go_num, u, d, t, b1, b2, b3, HB.out, KR111, KK111, C111, G111⟩
          case measure => simp [RowKit.intOf]; omega
        | true =>
          obtain ⟨⟨cR0, cR1, cR2, cR3, cR4, cR5⟩, dR0, dR1, dR2, dR3, dR4, dR5⟩ := KR111.out.of6
          obtain ⟨⟨cK0, cK1, cK2, cK3, cK4, cK5⟩, dK0, dK1, dK2, dK3, dK4, dK5⟩ := KK111.out.of6
          obtain ⟨⟨cx0, cx1, cx2⟩, dx0, dx1, dx2⟩ := Kx111.out.o3
          go_wp2_with fail
          clear cR0 cR1 cR2 cR3 cR4 cR5 dR0 dR1 dR2 dR3 dR4 dR5 cK0 cK1 cK2 cK3 cK4 cK5 dK0 dK1 dK2 dK3 dK4 dK5 cx0 cx1 cx2 dx0 dx1 dx2
          have Q := (sentOffS u d t b1 b2 b3 q y bf)
          unfold EndS at Q
          have NB := sb_off ⟨q, y, bf⟩ HB.out
          obtain ⟨⟨u', d', t', b1', b2', b3'⟩, ho⟩ : ∃ o : Snd, sentOff ⟨u, d, t, b1, b2, b3⟩ ⟨q, y, bf⟩ = o := ⟨_, rfl⟩
          rw [ho] at Q NB
          simp only [Snd.cs] at Q
          replace Q := Lib.hid Q
          replace NB := Lib.hid NB
          clear ho
          refine (Q.out _).mono ?_
          rintro e v112 ⟨rfl, hb⟩
          have KR112 := Lib.hid (KR111.out.below hb)
          have KK112 := Lib.hid (KK111.out.below hb)
          have G112 := Lib.hid (grown_tr G111.out (below_any hb))
          have C112 := Lib.hid (C111.out.below hb)
          clear hb KR111 KK111 Kx111 C111 G111
          obtain ⟨⟨cR0, cR1, cR2, cR3, cR4, cR5⟩, dR0, dR1, dR2, dR3, dR4, dR5⟩ := KR112.out.of6
          obtain ⟨⟨cK0, cK1, cK2, cK3, cK4, cK5⟩, dK0, dK1, dK2, dK3, dK4, dK5⟩ := KK112.out.of6
          have KR113 := Lib.hid (show Blk ((((((v112.setCell ⟨g_K, 0, none⟩ (.int .i64 u')).setCell ⟨g_K, 1, none⟩ (.string d')).setCell ⟨g_K, 2, none⟩ (.int .i64 t')).setCell ⟨g_K, 3, none⟩ (.bool b1')).setCell ⟨g_K, 4, none⟩ (.bool b2')).setCell ⟨g_K, 5, none⟩ (.bool b3')) g_R [.int .i64 0, .string ⟨#[]⟩, .int .i64 0, .bool false, .bool false, .bool false] from ((((((KR112.out.setOther ⟨g_K, 0, none⟩ (.int .i64 u') (n_R_K)).setOther ⟨g_K, 1, none⟩ (.string d') (n_R_K)).setOther ⟨g_K, 2, none⟩ (.int .i64 t') (n_R_K)).setOther ⟨g_K, 3, none⟩ (.bool b1') (n_R_K)).setOther ⟨g_K, 4, none⟩ (.bool b2') (n_R_K)).setOther ⟨g_K, 5, none⟩ (.bool b3') (n_R_K)))
          have KK113 := Lib.hid (show Blk ((((((v112.setCell ⟨g_K, 0, none⟩ (.int .i64 u')).setCell ⟨g_K, 1, none⟩ (.string d')).setCell ⟨g_K, 2, none⟩ (.int .i64 t')).setCell ⟨g_K, 3, none⟩ (.bool b1')).setCell ⟨g_K, 4, none⟩ (.bool b2')).setCell ⟨g_K, 5, none⟩ (.bool b3')) g_K [.int .i64 u', .string d', .int .i64 t', .bool b1', .bool b2', .bool b3'] from ((((((KK112.out.set 0 (.int .i64 u')).set 1 (.string d')).set 2 (.int .i64 t')).set 3 (.bool b1')).set 4 (.bool b2')).set 5 (.bool b3')))
          have C113 := Lib.hid ((((((C112.out.setOther ⟨g_K, 0, none⟩ (.int .i64 u') b_K c_K).setOther ⟨g_K, 1, none⟩ (.string d') b_K c_K).setOther ⟨g_K, 2, none⟩ (.int .i64 t') b_K c_K).setOther ⟨g_K, 3, none⟩ (.bool b1') b_K c_K).setOther ⟨g_K, 4, none⟩ (.bool b2') b_K c_K).setOther ⟨g_K, 5, none⟩ (.bool b3') b_K c_K)
          have G113 := Lib.hid (grown_setNew (grown_setNew (grown_setNew (grown_setNew (grown_setNew (grown_setNew G112.out ⟨g_K, 0, none⟩ (.int .i64 u') l_K) ⟨g_K, 1, none⟩ (.string d') l_K) ⟨g_K, 2, none⟩ (.int .i64 t') l_K) ⟨g_K, 3, none⟩ (.bool b1') l_K) ⟨g_K, 4, none⟩ (.bool b2') l_K) ⟨g_K, 5, none⟩ (.bool b3') l_K)
          go_wp2_with fail
          go_roundw
          case rel => exact ⟨k + 1, by omega, by go_num, u', d', t', b1', b2', b3', NB.out, KR113, KK113, C113, G113⟩
          case measure => simp [RowKit.intOf]; omega
    have h1' : (s == 1) = false := by simp [h1]
    by_cases h2 : s = 2
    case pos =>
      subst h2
      obtain ⟨⟨cR0, cR1, cR2, cR3, cR4, cR5⟩, dR0, dR1, dR2, dR3, dR4, dR5⟩ := KR51.out.of6
      obtain ⟨⟨cK0, cK1, cK2, cK3, cK4, cK5⟩, dK0, dK1, dK2, dK3, dK4, dK5⟩ := KK51.out.of6
      go_upto_region 15 with fail
      clear cR0 cR1 cR2 cR3 cR4 cR5 dR0 dR1 dR2 dR3 dR4 dR5 cK0 cK1 cK2 cK3 cK4 cK5 dK0 dK1 dK2 dK3 dK4 dK5
      have hfl := sb_fl HB.out
      simp only at hfl
      have FL := flownS u d t b1 b2 b3
      generalize fl t b2 = nf at hfl FL
      replace FL := Lib.hid FL
      have hw1 : IntKind.i64.wrap (nf + 1) = nf + 1 := IntWalk.i64_in _ (by omega)
      have HF := Lib.hid hfl
      have HW := Lib.hid hw1
      clear hfl hw1
      refine wp_region_noPanic ?_
      refine wp_region_till (S := fun w' => Blk w' g_K [.int .i64 u, .string d, .int .i64 t, .bool b1, .bool b2, .bool b3]) 13 (by kernel_rfl) KK51.out (fun hS => ?_)
      have KR52 := Lib.hid (show Blk v51.drew g_R [.int .i64 0, .string ⟨#[]⟩, .int .i64 0, .bool false, .bool false, .bool false] from KR51.out.drew)
      have KK52 := Lib.hid (show Blk v51.drew g_K [.int .i64 u, .string d, .int .i64 t, .bool b1, .bool b2, .bool b3] from KK51.out.drew)
      have C52 := Lib.hid (show CurB v51.drew _ g from C51.out.below (Below.refl _ _).drew)
      have G52 := Lib.hid (show w.grownBy v51.drew (some g) from grown_tr G51.out (below_any (Below.refl _ v51).drew))
      clear hS KR51 KK51 C51 G51
      generalize v51.drew = v52 at KR52 KK52 C52 G52 ⊢
      refine wpTill_take (i := 0) (v := .agg #[.int .i64 u, .string d, .int .i64 t, .bool b1, .bool b2, .bool b3]) rfl (by kernel_rfl) (by kernel_rfl) (by kernel_rfl) (by kernel_rfl) (by kernel_rfl) (by kernel_rfl) (fun _ _ _ h => h) (Or.inl ⟨by kernel_rfl, by intro w hS; obtain ⟨⟨h0, h1, h2, h3, h4, h5⟩, _⟩ := hS.of6; go_simp⟩) (fun _ => KK52.out) ?_
      refine wpTill_takeU (i := 1) (v := .pointer (some ⟨g_K, 0, none⟩)) rfl (by kernel_rfl) (by kernel_rfl) (by kernel_rfl) (by kernel_rfl) (fun _ _ _ h => h) (Or.inl ⟨by kernel_rfl, by intro w _; go_simp⟩) (fun _ => KK52.out) ?_
      refine wpTill_take (i := 2) (v := .int .i64 u) rfl (by kernel_rfl) (by kernel_rfl) (by kernel_rfl) (by kernel_rfl) (by kernel_rfl) (by kernel_rfl) (fun _ _ _ h => h) (Or.inl ⟨by kernel_rfl, by intro w hS; obtain ⟨⟨h0, h1, h2, h3, h4, h5⟩, _⟩ := hS.of6; go_simp⟩) (fun _ => KK52.out) ?_
      refine wpTill_takeU (i := 3) (v := .pointer (some ⟨g, 0, none⟩)) rfl (by kernel_rfl) (by kernel_rfl) (by kernel_rfl) (by kernel_rfl) (fun _ _ _ h => h) (Or.inl ⟨by kernel_rfl, by intro w _; go_simp⟩) (fun _ => KK52.out) ?_
      refine wpTill_take (i := 4) (v := .agg #[.int .i64 u, .string d, .int .i64 t, .bool b1, .bool b2, .bool b3]) rfl (by kernel_rfl) (by kernel_rfl) (by kernel_rfl) (by kernel_rfl) (by kernel_rfl) (by kernel_rfl) (fun _ _ _ h => h) (Or.inl ⟨by kernel_rfl, by intro w hS; obtain ⟨⟨h0, h1, h2, h3, h4, h5⟩, _⟩ := hS.of6; go_simp⟩) (fun _ => KK52.out) ?_
      refine wpTill_one (i := 5) (by kernel_rfl) rfl (fun K hK => ?zt6)
      rw [if_pos (by rfl)]
      go_simp
      refine (FL.out _).mono ?_
      rintro e v53 ⟨rfl, hb⟩
      have KR53 := Lib.hid (KR52.out.below hb)
      have KK53 := Lib.hid (KK52.out.below hb)
      have G53 := Lib.hid (grown_tr G52.out (below_any hb))
      have C53 := Lib.hid (C52.out.below hb)
      clear hb KR52 KK52 G52 C52
      refine hK.out _ _ (fun _ => KK53.out) (fun _ => ?_)
      clear hK K
      refine wpTill_takeU (i := 6) (v := .int .i64 (nf + 1)) rfl (by kernel_rfl) (by kernel_rfl) (by kernel_rfl) (by kernel_rfl) (fun _ _ _ h => h) (Or.inl ⟨by kernel_rfl, by intro w _; go_simp; exact HW.out⟩) (fun _ => KK53.out) ?_
      refine wpTill_one (i := 7) (by kernel_rfl) rfl (fun K hK => ?zt7)
      rw [if_pos (by rfl)]
      go_simp
      refine (l1Below_pos B g v53 C53.out (nf + 1) (by have := HF.out; omega) (by have := HF.out; omega)).mono ?_
      rintro e v54 ⟨q, rfl, hq, hcu, hgr⟩
      clear hq
      have KR54 := Lib.hid (KR53.out.grown hgr c_R)
      have KK54 := Lib.hid (KK53.out.grown hgr c_K)
      have G54 := Lib.hid (grown_tr G53.out hgr)
      have C54 := Lib.hid hcu
      clear hcu hgr KR53 KK53 G53 C53
      refine hK.out _ _ (fun _ => KK54.out) (fun _ => ?_)
      clear hK K
      have SA := Lib.hid (seqAddS_s u q)
      generalize pl (u + q) = z at SA
      refine wpTill_one (i := 8) (by kernel_rfl) rfl (fun K hK => ?zt8)
      rw [if_pos (by rfl)]
      go_simp
      refine (SA.out _).mono ?_
      rintro e v55 ⟨rfl, hb⟩
      have KR55 := Lib.hid (KR54.out.below hb)
      have KK55 := Lib.hid (KK54.out.below hb)
      have G55 := Lib.hid (grown_tr G54.out (below_any hb))
      have C55 := Lib.hid (C54.out.below hb)
      clear hb KR54 KK54 G54 C54
      refine hK.out _ _ (fun _ => KK55.out) (fun _ => ?_)
      clear hK K
      have Q := (ackedS u d t b1 b2 b3 z)
      unfold EndA at Q
      generalize akOk ⟨u, d, t, b1, b2, b3⟩ z = ok at Q
      have NB := sb_acked z HB.out
      obtain ⟨⟨u', d', t', b1', b2', b3'⟩, ho⟩ : ∃ o : Snd, acked ⟨u, d, t, b1, b2, b3⟩ z = o := ⟨_, rfl⟩
      rw [ho] at Q NB
      simp only [Snd.cs] at Q
      replace Q := Lib.hid Q
      replace NB := Lib.hid NB
      clear ho
      refine wpTill_one (i := 9) (by kernel_rfl) rfl (fun K hK => ?zt9)
      rw [if_pos (by rfl)]
      go_simp
      refine (Q.out _).mono ?_
      rintro e v56 ⟨rfl, hb⟩
      have KR56 := Lib.hid (KR55.out.below hb)
      have KK56 := Lib.hid (KK55.out.below hb)
      have G56 := Lib.hid (grown_tr G55.out (below_any hb))
      have C56 := Lib.hid (C55.out.below hb)
      clear hb KR55 KK55 G55 C55
      refine hK.out _ _ (fun _ => KK56.out) (fun _ => ?_)
      clear hK K
      refine wpTill_takeU (i := 10) (v := .tuple #[.agg #[.int .i64 u', .string d', .int .i64 t', .bool b1', .bool b2', .bool b3'], .bool ok]) rfl (by kernel_rfl) (by kernel_rfl) (by kernel_rfl) (by kernel_rfl) (fun _ _ _ h => h) (Or.inl ⟨by kernel_rfl, by intro w _; go_simp⟩) (fun _ => KK56.out) ?_
      refine wpTill_takeU (i := 11) (v := .agg #[.int .i64 u', .string d', .int .i64 t', .bool b1', .bool b2', .bool b3']) rfl (by kernel_rfl) (by kernel_rfl) (by kernel_rfl) (by kernel_rfl) (fun _ _ _ h => h) (Or.inl ⟨by kernel_rfl, by intro w _; go_simp⟩) (fun _ => KK56.out) ?_
      refine wpTill_takeU (i := 12) (v := .bool ok) rfl (by kernel_rfl) (by kernel_rfl) (by kernel_rfl) (by kernel_rfl) (fun _ _ _ h => h) (Or.inl ⟨by kernel_rfl, by intro w _; go_simp⟩) (fun _ => KK56.out) ?_
      obtain ⟨⟨cK0, cK1, cK2, cK3, cK4, cK5⟩, dK0, dK1, dK2, dK3, dK4, dK5⟩ := KK56.out.of6
      refine wpTill_store (by kernel_rfl) rfl (by kernel_rfl) (fun K hK => ?zt10)
      rw [if_pos (by rfl)]
      go_simp
      have KR57 := Lib.hid (show Blk ((((((v56.setCell ⟨g_K, 0, none⟩ (.int .i64 u')).setCell ⟨g_K, 1, none⟩ (.string d')).setCell ⟨g_K, 2, none⟩ (.int .i64 t')).setCell ⟨g_K, 3, none⟩ (.bool b1')).setCell ⟨g_K, 4, none⟩ (.bool b2')).setCell ⟨g_K, 5, none⟩ (.bool b3')) g_R [.int .i64 0, .string ⟨#[]⟩, .int .i64 0, .bool false, .bool false, .bool false] from ((((((KR56.out.setOther ⟨g_K, 0, none⟩ (.int .i64 u') (n_R_K)).setOther ⟨g_K, 1, none⟩ (.string d') (n_R_K)).setOther ⟨g_K, 2, none⟩ (.int .i64 t') (n_R_K)).setOther ⟨g_K, 3, none⟩ (.bool b1') (n_R_K)).setOther ⟨g_K, 4, none⟩ (.bool b2') (n_R_K)).setOther ⟨g_K, 5, none⟩ (.bool b3') (n_R_K)))
      have KK57 := Lib.hid (show Blk ((((((v56.setCell ⟨g_K, 0, none⟩ (.int .i64 u')).setCell ⟨g_K, 1, none⟩ (.string d')).setCell ⟨g_K, 2, none⟩ (.int .i64 t')).setCell ⟨g_K, 3, none⟩ (.bool b1')).setCell ⟨g_K, 4, none⟩ (.bool b2')).setCell ⟨g_K, 5, none⟩ (.bool b3')) g_K [.int .i64 u', .string d', .int .i64 t', .bool b1', .bool b2', .bool b3'] from ((((((KK56.out.set 0 (.int .i64 u')).set 1 (.string d')).set 2 (.int .i64 t')).set 3 (.bool b1')).set 4 (.bool b2')).set 5 (.bool b3')))
      have G57 := Lib.hid (grown_setNew (grown_setNew (grown_setNew (grown_setNew (grown_setNew (grown_setNew G56.out ⟨g_K, 0, none⟩ (.int .i64 u') l_K) ⟨g_K, 1, none⟩ (.string d') l_K) ⟨g_K, 2, none⟩ (.int .i64 t') l_K) ⟨g_K, 3, none⟩ (.bool b1') l_K) ⟨g_K, 4, none⟩ (.bool b2') l_K) ⟨g_K, 5, none⟩ (.bool b3') l_K)
      have C57 := Lib.hid ((((((C56.out.setOther ⟨g_K, 0, none⟩ (.int .i64 u') b_K c_K).setOther ⟨g_K, 1, none⟩ (.string d') b_K c_K).setOther ⟨g_K, 2, none⟩ (.int .i64 t') b_K c_K).setOther ⟨g_K, 3, none⟩ (.bool b1') b_K c_K).setOther ⟨g_K, 4, none⟩ (.bool b2') b_K c_K).setOther ⟨g_K, 5, none⟩ (.bool b3') b_K c_K)
      refine hK.out _ _ ?_
      clear hK K KR56 KK56 C56 G56
      clear cK0 cK1 cK2 cK3 cK4 cK5 dK0 dK1 dK2 dK3 dK4 dK5
      generalize (((((v56.setCell ⟨g_K, 0, none⟩ (.int .i64 u')).setCell ⟨g_K, 1, none⟩ (.string d')).setCell ⟨g_K, 2, none⟩ (.int .i64 t')).setCell ⟨g_K, 3, none⟩ (.bool b1')).setCell ⟨g_K, 4, none⟩ (.bool b2')).setCell ⟨g_K, 5, none⟩ (.bool b3') = v57 at KR57 KK57 C57 G57 ⊢
      refine wpTill_done (by kernel_rfl) ?_ _
      refine NoPanic.normal ?_
      go_wp2_with fail
      go_roundw
      case rel => exact ⟨k + 1, by omega, by go_num, u', d', t', b1', b2', b3', NB.out, KR57, KK57, C57, G57⟩
      case measure => simp [RowKit.intOf]; omega
    have h2' : (s == 2) = false := by simp [h2]
    clear h0 h1 h2
    cases b1 with
    | true =>
      obtain ⟨⟨cR0, cR1, cR2, cR3, cR4, cR5⟩, dR0, dR1, dR2, dR3, dR4, dR5⟩ := KR51.out.of6
      obtain ⟨⟨cK0, cK1, cK2, cK3, cK4, cK5⟩, dK0, dK1, dK2, dK3, dK4, dK5⟩ := KK51.out.of6
      have KR52 := Lib.hid (show Blk (v51.setCell ⟨g_K, 3, none⟩ (.bool true)) g_R [.int .i64 0, .string ⟨#[]⟩, .int .i64 0, .bool false, .bool false, .bool false] from (KR51.out.setOther ⟨g_K, 3, none⟩ (.bool true) (n_R_K)))
      have KK52 := Lib.hid (show Blk (v51.setCell ⟨g_K, 3, none⟩ (.bool true)) g_K [.int .i64 u, .string d, .int .i64 t, .bool true, .bool b2, .bool b3] from (KK51.out.set 3 (.bool true)))
      have C52 := Lib.hid (C51.out.setOther ⟨g_K, 3, none⟩ (.bool true) b_K c_K)
      have G52 := Lib.hid (grown_setNew G51.out ⟨g_K, 3, none⟩ (.bool true) l_K)
      go_wp2_with fail
      have NB := Lib.hid (show SB ⟨u, d, t, true, b2, b3⟩ from HB.out)
      go_roundw
      case rel => exact ⟨k + 1, by omega, by go_num, u, d, t, true, b2, b3, NB.out, KR52, KK52, C52, G52⟩
      case measure => simp [RowKit.intOf]; omega
    | false =>
      obtain ⟨⟨cR0, cR1, cR2, cR3, cR4, cR5⟩, dR0, dR1, dR2, dR3, dR4, dR5⟩ := KR51.out.of6
      obtain ⟨⟨cK0, cK1, cK2, cK3, cK4, cK5⟩, dK0, dK1, dK2, dK3, dK4, dK5⟩ := KK51.out.of6
      go_wp2_with fail
      clear cR0 cR1 cR2 cR3 cR4 cR5 dR0 dR1 dR2 dR3 dR4 dR5 cK0 cK1 cK2 cK3 cK4 cK5 dK0 dK1 dK2 dK3 dK4 dK5
      refine (l1Once_any B g v51 C51.out 2 (by omega) (by omega)).mono ?_
      rintro e v52 ⟨b9, rfl, hcu, hgr⟩
      have KR52 := Lib.hid (KR51.out.grown hgr c_R)
      have KK52 := Lib.hid (KK51.out.grown hgr c_K)
      have G52 := Lib.hid (grown_tr G51.out hgr)
      have C52 := Lib.hid hcu
      clear hcu hgr KR51 KK51 G51 C51
      obtain ⟨⟨cR0, cR1, cR2, cR3, cR4, cR5⟩, dR0, dR1, dR2, dR3, dR4, dR5⟩ := KR52.out.of6
      obtain ⟨⟨cK0, cK1, cK2, cK3, cK4, cK5⟩, dK0, dK1, dK2, dK3, dK4, dK5⟩ := KK52.out.of6
      have KR53 := Lib.hid (show Blk (v52.setCell ⟨g_K, 3, none⟩ (.bool b9)) g_R [.int .i64 0, .string ⟨#[]⟩, .int .i64 0, .bool false, .bool false, .bool false] from (KR52.out.setOther ⟨g_K, 3, none⟩ (.bool b9) (n_R_K)))
      have KK53 := Lib.hid (show Blk (v52.setCell ⟨g_K, 3, none⟩ (.bool b9)) g_K [.int .i64 u, .string d, .int .i64 t, .bool b9, .bool b2, .bool b3] from (KK52.out.set 3 (.bool b9)))
      have C53 := Lib.hid (C52.out.setOther ⟨g_K, 3, none⟩ (.bool b9) b_K c_K)
      have G53 := Lib.hid (grown_setNew G52.out ⟨g_K, 3, none⟩ (.bool b9) l_K)
      go_wp2_with fail
      have NB := Lib.hid (show SB ⟨u, d, t, b9, b2, b3⟩ from HB.out)
      go_roundw
      case rel => exact ⟨k + 1, by omega, by go_num, u, d, t, b9, b2, b3, NB.out, KR53, KK53, C53, G53⟩
      case measure => simp [RowKit.intOf]; omega
end Go.Proofs.Ytkigkfedkjnkeaa
