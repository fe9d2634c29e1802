/- The draw of a text beside a receiver: l18Stream. Nothing here is a claim. -/
import Derived.Test.YtpbnkkgfjmkcdaaDrnK
import Derived.Test.YtpbnkkgfjmkcdaaBytesA
import Derived.Test.YtpbnkkgfjmkcdaaSndPos
import Derived.Test.YtpbnkkgfjmkcdaaBlk10
import Derived.Test.YtpbnkkgfjmkcdaaL4Place
import Derived.Deep.DeepCutAuto
import Derived.Deep.RegionHeld3
namespace Go.Proofs.Ytpbnkkgfjmkcdaa
open Go.RowKit Go.Lib


set_option maxRecDepth 100000 in
set_option maxHeartbeats 8000000 in
theorem l18Stream_any (B g : Nat) (w : World) (hc : CurB w B g) (n f : Int) (z : Bool) (d : ByteArray) (a : Option Addr) (len cap : Nat) : Calls Try.prog 30 #[.pointer (some ⟨g, 0, none⟩), .agg #[.int .i64 n, .string d, .slice a len cap, .int .i64 f, .bool z]] w (StrEnd w B g) := by
  obtain ⟨i0, hi, hz0, hz1, hz2⟩ := info_parts Try.info5
  go_enter Try.func30, Try.ntmps30
  have hlt := hc.lt
  have hBg := hc.1
  have C0 := Lib.hid (show CurB (w.alloc (.cells #[.int .i64 n, .string d, .slice a len cap, .int .i64 f, .bool z] 26)) B g from (hc.new (.cells #[.int .i64 n, .string d, .slice a len cap, .int .i64 f, .bool z] 26)))
  have G0 := Lib.hid (show w.grownBy (w.alloc (.cells #[.int .i64 n, .string d, .slice a len cap, .int .i64 f, .bool z] 26)) (some g) from (grown_new (World.grownBy.refl w (some g)) (.cells #[.int .i64 n, .string d, .slice a len cap, .int .i64 f, .bool z] 26)))
  clear hc
  have KR0 := Lib.hid (show Blk (w.alloc (.cells #[.int .i64 n, .string d, .slice a len cap, .int .i64 f, .bool z] 26)) (w.heap.size) [.int .i64 n, .string d, .slice a len cap, .int .i64 f, .bool z] from ((Blk.new w [.int .i64 n, .string d, .slice a len cap, .int .i64 f, .bool z] 26)))
  go_upto_region 1 with fail
  generalize w.alloc (.cells #[.int .i64 n, .string d, .slice a len cap, .int .i64 f, .bool z] 26) = v0 at C0 G0 KR0 ⊢
  generalize hh_R : w.heap.size = g_R at KR0 ⊢
  have l_R : w.heap.size ≤ g_R := by omega
  have b_R : B ≤ g_R := by omega
  have c_R : g_R ≠ g := by omega
  clear hh_R
  go_wp2_with fail
  refine (l1Below_pos B g v0 C0.out 40 (by omega) (by omega)).mono ?_
  rintro e v1 ⟨q, rfl, hq, hcu, hgr⟩
  have KR1 := Lib.hid (KR0.out.grown hgr c_R)
  have G1 := Lib.hid (grown_tr G0.out hgr)
  have C1 := Lib.hid hcu
  clear hcu hgr KR0 G0 C0
  have hqw : IntKind.i64.wrap (q - 6) = q - 6 := IntWalk.i64_in _ (by omega)
  obtain ⟨⟨cR0, cR1, cR2, cR3, cR4⟩, dR0, dR1, dR2, dR3, dR4⟩ := KR1.out.of5
  go_wp2_with fail
  clear cR0 cR1 cR2 cR3 cR4 dR0 dR1 dR2 dR3 dR4
  refine (l1Below_pos B g v1 C1.out 9 (by omega) (by omega)).mono ?_
  rintro e v2 ⟨r, rfl, hr, hcu, hgr⟩
  obtain ⟨m, rfl⟩ : ∃ m : Nat, r = (m : Int) := ⟨r.toNat, by omega⟩
  have hm : m ≤ 8 := by omega
  clear hr
  have KR2 := Lib.hid (KR1.out.grown hgr c_R)
  have G2 := Lib.hid (grown_tr G1.out hgr)
  have C2 := Lib.hid hcu
  clear hcu hgr KR1 G1 C1
  have GW := G2
  have hgl2 := C2.out.lt
  have hBg2 := C2.out.1
  have hRl := KR2.out.lt
  clear hq
  go_wp2_with fail
  go_loopw [9, 10] (fun v i wr => ∃ (s9 : Value) (k : Nat), s9 = v ∧ k ≤ m ∧ i = .int .i64 k ∧ ∃ l : List UInt8, Hid (l.length = k) ∧ Hid (wr.ownsRow v2.heap.size 5 1 s9 k (byteCells l)) ∧ Hid (CurB wr B g) ∧ Hid (v2.grownBy wr (some g)))
    (fun _ i _ => m - (RowKit.intOf i).toNat)
  case atStart => exact ⟨_, 0, rfl, Nat.zero_le _, rfl, [], rfl, World.ownsRow_lit v2 #[] 0 (Nat.le_refl _) (by simp [maxLen]) rfl, C2.out.new _, World.grownBy_alloc v2 _ _⟩
  case round =>
    obtain ⟨s9, k, rfl, hk, rfl, l, hl, hown, hC50, hG50⟩ := hrel
    have KR50 := Lib.hid (KR2.out.grown hG50.out c_R)
    by_cases hlt : k < m
    · obtain ⟨⟨cR0, cR1, cR2, cR3, cR4⟩, dR0, dR1, dR2, dR3, dR4⟩ := KR50.out.of5
      clear KR2 C2
      go_wp2_with fail
      clear cR0 cR1 cR2 cR3 cR4 dR0 dR1 dR2 dR3 dR4
      refine (restS _ _).mono ?_
      rintro e w1 ⟨rfl, rfl⟩
      generalize pl _ = y
      obtain ⟨c, hcw⟩ := mod8 (wrap64 (97 + y.tmod 26))
      have hsz : v2.heap.size ≤ wr.heap.size := hG50.out.size
      have hl0 := Lib.hid hl
      go_wp2_with (at_builtin; refine wpList_append_lies _ rfl _ _ _ rfl v2.heap.size 5 i0 _ 1 1 Try.underlying22 hi hz0 hz1 hz2 rfl (by omega) _ k _ rfl (hown.out.alloc _) ⟨wr.heap.size, 0, none⟩ 1 1 [.int .u8 c.toNat] rfl rfl (World.news_of_block (cs := #[.int .u8 c.toNat]) (t := 5) (fr := (0, 0)) (heap_alloc_new wr _)) (by simp [Value.oneCell']) (by omega) (by unfold maxLen; omega) (by omega) (by simp; omega) (wr.heap.size + 1) (by simp) ?_; intro gg cp w2 hown2 hgrow hat hlt')
      have hk2 := app_keeps hC50.out hgl2 (Nat.le_of_lt (Nat.lt_of_le_of_lt hBg2 hgl2)) rfl hG50.out hown.out hgrow
      have O2 := Lib.hid (show w2.ownsRow v2.heap.size 5 1 (.slice (some ⟨gg, 0, none⟩) (k + 1) cp) (k + 1) (byteCells (l ++ [c])) by rw [byteCells_append]; exact hown2)
      clear hown2 hgrow hat hlt' hcw
      go_roundw
      case rel => exact ⟨_, k + 1, rfl, by omega, by go_num, l ++ [c], by show _ = _; rw [List.length_append, hl0.out.out]; rfl, O2, hk2.1, hk2.2⟩
      case measure => simp [RowKit.intOf]; omega
    · obtain rfl : k = m := by omega
      have hlk := hl.out
      have Db50 := Lib.hid (show DrnB v2.heap.size g s9 l wr from ⟨by rw [hlk]; exact hown.out, hgl2⟩)
      clear KR2 C2 hown hl
      obtain ⟨⟨cR0, cR1, cR2, cR3, cR4⟩, dR0, dR1, dR2, dR3, dR4⟩ := KR50.out.of5
      go_wp2_with fail
      clear cR0 cR1 cR2 cR3 cR4 dR0 dR1 dR2 dR3 dR4
      refine (l1Once_any B g wr hC50.out 6 (by omega) (by omega)).mono ?_
      rintro e v51 ⟨b8, rfl, hcu, hgr⟩
      have KR51 := Lib.hid (KR50.out.grown hgr c_R)
      have Db51 := Lib.hid (Db50.out.grown hgr)
      have G51 := Lib.hid (grown_tr hG50.out hgr)
      have C51 := Lib.hid hcu
      clear hcu hgr KR50 Db50 hG50 hC50
      cases b8 with
      | false =>
        go_upto_region 10 with fail
        refine wp_region_noPanic ?_
        refine wp_region_held_drew (S := fun w' => Blk w' g_R [.int .i64 n, .string d, .slice a len cap, .int .i64 f, .bool z] ∧ DrnB v2.heap.size g (s9) l w') (by kernel_rfl) ⟨KR51.out.drew, Db51.out.below (Below.refl _ _).drew⟩ (fun hS => ?_)
        have KR52 := Lib.hid (show Blk v51.drew g_R [.int .i64 n, .string d, .slice a len cap, .int .i64 f, .bool z] from KR51.out.drew)
        have Db52 := Lib.hid (Db51.out.below (Below.refl _ v51).drew)
        have C52 := Lib.hid (show CurB v51.drew _ g from C51.out.below (Below.refl _ _).drew)
        have G52 := Lib.hid (show v2.grownBy v51.drew (some g) from grown_tr G51.out (below_any (Below.refl _ v51).drew))
        clear KR51 Db51 C51 G51
        clear hS
        generalize v51.drew = v52 at KR52 Db52 C52 G52 ⊢
        have hS : Blk v52 g_R [.int .i64 n, .string d, .slice a len cap, .int .i64 f, .bool z] ∧ DrnB v2.heap.size g (s9) l v52 := ⟨KR52.out, Db52.out⟩
        refine wpAnyH_take (i := 0) (v := .pointer (some ⟨g_R, 0, none⟩)) rfl (by kernel_rfl) (by kernel_rfl) (by kernel_rfl) (fun _ _ _ h => h) (Or.inl ⟨rfl, by intro w hS; go_simp⟩) hS ?_
        refine wpAnyH_take (i := 1) (v := .int .i64 n) rfl (by kernel_rfl) (by kernel_rfl) (by kernel_rfl) (fun _ _ _ h => h) (Or.inl ⟨rfl, by intro w hS; obtain ⟨⟨h0, h1, h2, h3, h4⟩, _⟩ := hS.1.of5; go_simp⟩) hS ?_
        refine wpAnyH_take (i := 2) (v := .int .i64 (q - 6)) rfl (by kernel_rfl) (by kernel_rfl) (by kernel_rfl) (fun _ _ _ h => h) (Or.inl ⟨rfl, by intro w hS; go_simp⟩) hS ?_
        refine wpAnyH_take (i := 4) (v := s9) rfl (by kernel_rfl) (by kernel_rfl) (by kernel_rfl) (fun _ _ _ h => h) (Or.inl ⟨rfl, by intro w hS; go_simp⟩) hS ?_
        refine wpAnyH_take (i := 5) (v := .string ⟨l.toArray⟩) rfl (by kernel_rfl) (by kernel_rfl) (by kernel_rfl) (fun _ _ _ h => h) (Or.inl ⟨rfl, by intro w hS; have hcv := run_string_own (P := Try.prog) Try.underlying22 Try.underlying5 Try.underlying9 hS.2.1; go_simp⟩) hS ?_
        refine wpAnyH_take (i := 6) (v := .pointer (some ⟨g, 0, none⟩)) rfl (by kernel_rfl) (by kernel_rfl) (by kernel_rfl) (fun _ _ _ h => h) (Or.inl ⟨rfl, by intro w hS; go_simp⟩) hS ?_
        have SA := Lib.hid (seqAddS_s n (q - 6))
        generalize pl (n + (q - 6)) = sq at SA
        refine wpAnyH_ready (rs := [3]) (by kernel_rfl) (by simp) ?_
        refine AllReadyH.cons (i := 3) rfl (fun K hK => ?zq1) AllReadyH.nil
        rw [if_pos (by rfl)]
        go_simp
        clear hS
        refine (SA.out _).mono ?_
        rintro e v53 ⟨rfl, hb⟩
        have KR53 := Lib.hid (KR52.out.below hb)
        have Db53 := Lib.hid (Db52.out.below hb)
        have G53 := Lib.hid (grown_tr G52.out (below_any hb))
        have C53 := Lib.hid (C52.out.below hb)
        clear hb KR52 Db52 G52 C52
        refine hK.out _ _ ⟨KR53.out, Db53.out⟩ (fun hS => ?_)
        clear hK K
        refine wpAnyH_ready (rs := [7]) (by kernel_rfl) (by simp) ?_
        refine AllReadyH.cons (i := 7) rfl (fun K hK => ?zq2) AllReadyH.nil
        rw [if_pos (by rfl)]
        go_simp
        clear hS
        refine (l1Once_any B g _ C53.out 6 (by omega) (by omega)).mono ?_
        rintro e v54 ⟨b9, rfl, hcu, hgr⟩
        have KR54 := Lib.hid (KR53.out.grown hgr c_R)
        have Db54 := Lib.hid (Db53.out.grown hgr)
        have G54 := Lib.hid (grown_tr G53.out hgr)
        have C54 := Lib.hid hcu
        clear hcu hgr KR53 Db53 G53 C53
        refine hK.out _ _ ⟨KR54.out, Db54.out⟩ (fun hS => ?_)
        clear hK K
        refine wpAnyH_take (i := 8) (v := .int .i64 sq) rfl (by kernel_rfl) (by kernel_rfl) (by kernel_rfl) (fun _ _ _ h => h) (Or.inl ⟨rfl, by intro w hS; go_simp⟩) hS ?_
        refine wpAnyH_take (i := 9) (v := .string ⟨l.toArray⟩) rfl (by kernel_rfl) (by kernel_rfl) (by kernel_rfl) (fun _ _ _ h => h) (Or.inl ⟨rfl, by intro w hS; go_simp⟩) hS ?_
        refine wpAnyH_take (i := 10) (v := .bool b9) rfl (by kernel_rfl) (by kernel_rfl) (by kernel_rfl) (fun _ _ _ h => h) (Or.inl ⟨rfl, by intro w hS; go_simp⟩) hS ?_
        refine wpAnyH_done (by kernel_rfl) ?_ _
        refine NoPanic.normal ?_
        go_wp2_with fail
        exact bodyPost_ret (v := .tuple #[.int .i64 sq, .string ⟨l.toArray⟩, .bool b9]) (by simp [results, Try.results30, go_sem]) rfl ⟨sq, ⟨l.toArray⟩, b9, rfl, by show l.length ≤ 8; omega, C54.out, grown_tr GW.out G54.out⟩
      | true =>
        obtain ⟨⟨cR0, cR1, cR2, cR3, cR4⟩, dR0, dR1, dR2, dR3, dR4⟩ := KR51.out.of5
        go_wp2_with fail
        clear cR0 cR1 cR2 cR3 cR4 dR0 dR1 dR2 dR3 dR4
        have hgl3 := C51.out.lt
        refine (l1Bytes_any B g k _ C51.out (by omega)).mono ?_
        rintro e v52 ⟨ub, lb, rfl, hlb, hob, hcu, hgr⟩
        obtain rfl := hlb
        have Dc9 := Lib.hid (show DrnB v51.heap.size g ub lb v52 from ⟨hob, hgl3⟩)
        clear hob
        have KR52 := Lib.hid (KR51.out.grown hgr c_R)
        have Db52 := Lib.hid (Db51.out.grown hgr)
        have G52 := Lib.hid (grown_tr G51.out hgr)
        have C52 := Lib.hid hcu
        clear hcu hgr KR51 Db51 G51 C51
        clear Db52
        go_upto_region 10 with fail
        refine wp_region_noPanic ?_
        refine wp_region_held_drew (S := fun w' => Blk w' g_R [.int .i64 n, .string d, .slice a len cap, .int .i64 f, .bool z] ∧ DrnB v51.heap.size g (ub) lb w') (by kernel_rfl) ⟨KR52.out.drew, Dc9.out.below (Below.refl _ _).drew⟩ (fun hS => ?_)
        have KR53 := Lib.hid (show Blk v52.drew g_R [.int .i64 n, .string d, .slice a len cap, .int .i64 f, .bool z] from KR52.out.drew)
        have Db53 := Lib.hid (Dc9.out.below (Below.refl _ v52).drew)
        have C53 := Lib.hid (show CurB v52.drew _ g from C52.out.below (Below.refl _ _).drew)
        have G53 := Lib.hid (show v2.grownBy v52.drew (some g) from grown_tr G52.out (below_any (Below.refl _ v52).drew))
        clear KR52 Dc9 C52 G52
        clear hS
        generalize v52.drew = v53 at KR53 Db53 C53 G53 ⊢
        have hS : Blk v53 g_R [.int .i64 n, .string d, .slice a len cap, .int .i64 f, .bool z] ∧ DrnB v51.heap.size g (ub) lb v53 := ⟨KR53.out, Db53.out⟩
        refine wpAnyH_take (i := 0) (v := .pointer (some ⟨g_R, 0, none⟩)) rfl (by kernel_rfl) (by kernel_rfl) (by kernel_rfl) (fun _ _ _ h => h) (Or.inl ⟨rfl, by intro w hS; go_simp⟩) hS ?_
        refine wpAnyH_take (i := 1) (v := .int .i64 n) rfl (by kernel_rfl) (by kernel_rfl) (by kernel_rfl) (fun _ _ _ h => h) (Or.inl ⟨rfl, by intro w hS; obtain ⟨⟨h0, h1, h2, h3, h4⟩, _⟩ := hS.1.of5; go_simp⟩) hS ?_
        refine wpAnyH_take (i := 2) (v := .int .i64 (q - 6)) rfl (by kernel_rfl) (by kernel_rfl) (by kernel_rfl) (fun _ _ _ h => h) (Or.inl ⟨rfl, by intro w hS; go_simp⟩) hS ?_
        refine wpAnyH_take (i := 4) (v := ub) rfl (by kernel_rfl) (by kernel_rfl) (by kernel_rfl) (fun _ _ _ h => h) (Or.inl ⟨rfl, by intro w hS; go_simp⟩) hS ?_
        refine wpAnyH_take (i := 5) (v := .string ⟨lb.toArray⟩) rfl (by kernel_rfl) (by kernel_rfl) (by kernel_rfl) (fun _ _ _ h => h) (Or.inl ⟨rfl, by intro w hS; have hcv := run_string_own (P := Try.prog) Try.underlying22 Try.underlying5 Try.underlying9 hS.2.1; go_simp⟩) hS ?_
        refine wpAnyH_take (i := 6) (v := .pointer (some ⟨g, 0, none⟩)) rfl (by kernel_rfl) (by kernel_rfl) (by kernel_rfl) (fun _ _ _ h => h) (Or.inl ⟨rfl, by intro w hS; go_simp⟩) hS ?_
        have SA := Lib.hid (seqAddS_s n (q - 6))
        generalize pl (n + (q - 6)) = sq at SA
        refine wpAnyH_ready (rs := [3]) (by kernel_rfl) (by simp) ?_
        refine AllReadyH.cons (i := 3) rfl (fun K hK => ?zq3) AllReadyH.nil
        rw [if_pos (by rfl)]
        go_simp
        clear hS
        refine (SA.out _).mono ?_
        rintro e v54 ⟨rfl, hb⟩
        have KR54 := Lib.hid (KR53.out.below hb)
        have Db54 := Lib.hid (Db53.out.below hb)
        have G54 := Lib.hid (grown_tr G53.out (below_any hb))
        have C54 := Lib.hid (C53.out.below hb)
        clear hb KR53 Db53 G53 C53
        refine hK.out _ _ ⟨KR54.out, Db54.out⟩ (fun hS => ?_)
        clear hK K
        refine wpAnyH_ready (rs := [7]) (by kernel_rfl) (by simp) ?_
        refine AllReadyH.cons (i := 7) rfl (fun K hK => ?zq4) AllReadyH.nil
        rw [if_pos (by rfl)]
        go_simp
        clear hS
        refine (l1Once_any B g _ C54.out 6 (by omega) (by omega)).mono ?_
        rintro e v55 ⟨b9, rfl, hcu, hgr⟩
        have KR55 := Lib.hid (KR54.out.grown hgr c_R)
        have Db55 := Lib.hid (Db54.out.grown hgr)
        have G55 := Lib.hid (grown_tr G54.out hgr)
        have C55 := Lib.hid hcu
        clear hcu hgr KR54 Db54 G54 C54
        refine hK.out _ _ ⟨KR55.out, Db55.out⟩ (fun hS => ?_)
        clear hK K
        refine wpAnyH_take (i := 8) (v := .int .i64 sq) rfl (by kernel_rfl) (by kernel_rfl) (by kernel_rfl) (fun _ _ _ h => h) (Or.inl ⟨rfl, by intro w hS; go_simp⟩) hS ?_
        refine wpAnyH_take (i := 9) (v := .string ⟨lb.toArray⟩) rfl (by kernel_rfl) (by kernel_rfl) (by kernel_rfl) (fun _ _ _ h => h) (Or.inl ⟨rfl, by intro w hS; go_simp⟩) hS ?_
        refine wpAnyH_take (i := 10) (v := .bool b9) rfl (by kernel_rfl) (by kernel_rfl) (by kernel_rfl) (fun _ _ _ h => h) (Or.inl ⟨rfl, by intro w hS; go_simp⟩) hS ?_
        refine wpAnyH_done (by kernel_rfl) ?_ _
        refine NoPanic.normal ?_
        go_wp2_with fail
        exact bodyPost_ret (v := .tuple #[.int .i64 sq, .string ⟨lb.toArray⟩, .bool b9]) (by simp [results, Try.results30, go_sem]) rfl ⟨sq, ⟨lb.toArray⟩, b9, rfl, by show lb.length ≤ 8; omega, C55.out, grown_tr GW.out G55.out⟩
end Go.Proofs.Ytpbnkkgfjmkcdaa
