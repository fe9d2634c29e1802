/- Proved here: for every Sender and every Chunk (a Data and a Text longer than 1048576 bytes together are not asked) impl.SentOff and the model's SentOff return the same Sender; the call returns true for every argument, without condition. -/
import Derived.Test.YtkigkfedkjnkeaaRows
import Derived.Test.YtkigkfedkjnkeaaSndOff
import Derived.Test.YtkigkfedkjnkeaaChunkLaw
import Derived.Test.YtkigkfedkjnkeaaBlk10
import Derived.Test.YtkigkfedkjnkeaaSenderLaw
import Derived.Test.YtkigkfedkjnkeaaSenderEq
import Derived.Test.YtkigkfedkjnkeaaFlat
import Derived.Test.YtkigkfedkjnkeaaCurA
import Derived.Deep.DeepCutAuto
import Derived.Deep.RegionHeld3
import Derived.ProofKit
import Derived.OpenShut
import Derived.ShutString
import Derived.ChangeOld
import Derived.Below
namespace Go.Proofs.Ytkigkfedkjnkeaa.fnExactSentOff
open Go.ChangeShapes Go.WideShapes Go.ChangeAt Go.RowKit Go.Lib

/-- The law's word: true, and what lay before the call lies as it lay. -/
def OkB (w : World) (e : Ending) (w' : World) : Prop := e = .returned (.bool true) ∧ Below w.heap.size w w'

set_option maxRecDepth 100000 in
set_option maxHeartbeats 4000000 in
theorem walk (u : Int) (d : ByteArray) (t : Int) (f : Bool) (g : Bool) (h : Bool) (q : Int) (x : ByteArray) (b : Bool) (_ : (Lit.int .i64 u).wf = true) (hd : d.size ≤ maxLen) (_ : (Lit.int .i64 t).wf = true) (_ : True) (_ : True) (_ : True) (_ : (Lit.int .i64 q).wf = true) (hx : x.size ≤ maxLen) (_ : True) (w : World) :
    Calls Try.prog 10 #[.agg #[.int .i64 u, .string d, .int .i64 t, .bool f, .bool g, .bool h], .agg #[.int .i64 q, .string x, .bool b]] w (OkB w) := by
  by_cases hsz : (d.size : Int) ≤ 1048576
  case pos =>
    by_cases hs2 : (x.size : Int) ≤ 1048576 - d.size
    case pos =>
      replace hsz := Lib.hid hsz
      replace hs2 := Lib.hid hs2
      have C1 := (sentOffS u d t f g h q x b)
      have C2 := (sentOffI u d t f g h q x b)
      unfold EndS at C1 C2
      obtain ⟨⟨x0, x1, x2, x3, x4, x5⟩, ho⟩ : ∃ o : Snd, sentOff ⟨u, d, t, f, g, h⟩ ⟨q, x, b⟩ = o := ⟨_, rfl⟩
      rw [ho] at C1 C2
      simp only [Snd.cs] at C1 C2
      replace C1 := Lib.hid C1
      replace C2 := Lib.hid C2
      clear ho
      go_enter Try.func10, Try.ntmps10
      have B0 := Lib.hid (show Below w.heap.size w ((w.alloc (.cells #[.int .i64 u, .string d, .int .i64 t, .bool f, .bool g, .bool h] 46)).alloc (.cells #[.int .i64 q, .string x, .bool b] 54)) from (((Below.refl _ w).alloc (by simp) _).alloc (by simp) _))
      have Ka0 := Lib.hid (show Blk ((w.alloc (.cells #[.int .i64 u, .string d, .int .i64 t, .bool f, .bool g, .bool h] 46)).alloc (.cells #[.int .i64 q, .string x, .bool b] 54)) (w.heap.size) [.int .i64 u, .string d, .int .i64 t, .bool f, .bool g, .bool h] from (Blk.new w [.int .i64 u, .string d, .int .i64 t, .bool f, .bool g, .bool h] 46).alloc (.cells #[.int .i64 q, .string x, .bool b] 54))
      have s1 : (w.alloc (.cells #[.int .i64 u, .string d, .int .i64 t, .bool f, .bool g, .bool h] 46)).heap.size = w.heap.size + 1 := by simp
      have Kk0 := Lib.hid (show Blk ((w.alloc (.cells #[.int .i64 u, .string d, .int .i64 t, .bool f, .bool g, .bool h] 46)).alloc (.cells #[.int .i64 q, .string x, .bool b] 54)) (w.heap.size + 1) [.int .i64 q, .string x, .bool b] by have h0 := Blk.new (w.alloc (.cells #[.int .i64 u, .string d, .int .i64 t, .bool f, .bool g, .bool h] 46)) [.int .i64 q, .string x, .bool b] 54; rwa [s1] at h0)
      have n_a_k : w.heap.size ≠ w.heap.size + 1 := by omega
      clear s1
      go_wp2_with fail
      change Calls _ _ _ ((w.alloc (.cells #[.int .i64 u, .string d, .int .i64 t, .bool f, .bool g, .bool h] 46)).alloc (.cells #[.int .i64 q, .string x, .bool b] 54)) _
      generalize (w.alloc (.cells #[.int .i64 u, .string d, .int .i64 t, .bool f, .bool g, .bool h] 46)).alloc (.cells #[.int .i64 q, .string x, .bool b] 54) = v0 at B0 Ka0 Kk0 ⊢
      generalize hh_k : w.heap.size + 1 = g_k at Kk0 n_a_k ⊢
      generalize hh_a : w.heap.size = g_a at Ka0 n_a_k ⊢
      have l_a : w.heap.size ≤ g_a := by omega
      have l_k : w.heap.size ≤ g_k := by omega
      clear hh_a hh_k
      refine (szSender_yes u d t f g h 1048576 _ (by decide) hsz.out).mono ?_
      rintro e v1 ⟨rfl, hb⟩
      have B1 := Lib.hid (B0.out.trans (hb.mono B0.out.size))
      have Ka1 := Lib.hid (Ka0.out.below hb)
      have Kk1 := Lib.hid (Kk0.out.below hb)
      clear hb B0 Ka0 Kk0
      have hn : ¬ (1048576 : Int) - d.size < 0 := by have := hsz.out; omega
      obtain ⟨⟨ca0, ca1, ca2, ca3, ca4, ca5⟩, da0, da1, da2, da3, da4, da5⟩ := Ka1.out.of6
      obtain ⟨⟨ck0, ck1, ck2⟩, dk0, dk1, dk2⟩ := Kk1.out.o3
      go_wp2_with fail
      clear ca0 ca1 ca2 ca3 ca4 ca5 da0 da1 da2 da3 da4 da5 ck0 ck1 ck2 dk0 dk1 dk2
      refine (szChunk_yes q x b (1048576 - d.size) _ (by omega) hs2.out).mono ?_
      rintro e v2 ⟨rfl, hb⟩
      have B2 := Lib.hid (B1.out.trans (hb.mono B1.out.size))
      have Ka2 := Lib.hid (Ka1.out.below hb)
      have Kk2 := Lib.hid (Kk1.out.below hb)
      clear hb B1 Ka1 Kk1
      have hn2 : ¬ (1048576 : Int) - d.size - x.size < 0 := by have := hs2.out; omega
      obtain ⟨⟨ca0, ca1, ca2, ca3, ca4, ca5⟩, da0, da1, da2, da3, da4, da5⟩ := Ka2.out.of6
      obtain ⟨⟨ck0, ck1, ck2⟩, dk0, dk1, dk2⟩ := Kk2.out.o3
      go_upto_region 8 with fail
      clear ca0 ca1 ca2 ca3 ca4 ca5 da0 da1 da2 da3 da4 da5 ck0 ck1 ck2 dk0 dk1 dk2
      obtain ⟨⟨ca0, ca1, ca2, ca3, ca4, ca5⟩, da0, da1, da2, da3, da4, da5⟩ := Ka2.out.of6
      obtain ⟨⟨ck0, ck1, ck2⟩, dk0, dk1, dk2⟩ := Kk2.out.o3
      go_upto_region 8 with fail
      clear ca0 ca1 ca2 ca3 ca4 ca5 da0 da1 da2 da3 da4 da5 ck0 ck1 ck2 dk0 dk1 dk2
      go_cut [6] (fun s6 wx => ∃ (g_x : Nat), s6 = .pointer (some ⟨g_x, 0, none⟩) ∧ Hid (Below w.heap.size w wx) ∧ Hid (Blk wx g_a [.int .i64 u, .string d, .int .i64 t, .bool f, .bool g, .bool h]) ∧ Hid (Blk wx g_k [.int .i64 q, .string x, .bool b]) ∧ Hid (Blk wx g_x [.int .i64 x0, .string x1, .int .i64 x2, .bool x3, .bool x4, .bool x5]) ∧ (g_a ≠ g_x ∧ g_k ≠ g_x ∧ w.heap.size ≤ g_x))
      case first =>
        refine wp_region_noPanic ?_
        refine wp_region_held_drew (S := fun w' => Blk w' g_a [.int .i64 u, .string d, .int .i64 t, .bool f, .bool g, .bool h] ∧ Blk w' g_k [.int .i64 q, .string x, .bool b]) (by kernel_rfl) ⟨Ka2.out, Kk2.out⟩ (fun hS => ?_)
        have B3 := Lib.hid (show Below w.heap.size w v2.drew from B2.out.drew)
        have Ka3 := Lib.hid (show Blk v2.drew g_a [.int .i64 u, .string d, .int .i64 t, .bool f, .bool g, .bool h] from Ka2.out.drew)
        have Kk3 := Lib.hid (show Blk v2.drew g_k [.int .i64 q, .string x, .bool b] from Kk2.out.drew)
        clear hS B2 Ka2 Kk2
        generalize v2.drew = v3 at B3 Ka3 Kk3 ⊢
        have hS : Blk v3 g_a [.int .i64 u, .string d, .int .i64 t, .bool f, .bool g, .bool h] ∧ Blk v3 g_k [.int .i64 q, .string x, .bool b] := ⟨Ka3.out, Kk3.out⟩
        refine wpAnyH_take (i := 0) (v := .agg #[.int .i64 u, .string d, .int .i64 t, .bool f, .bool g, .bool h]) rfl (by kernel_rfl) (by kernel_rfl) (by kernel_rfl) (fun _ _ _ h => h) (Or.inl ⟨by kernel_rfl, by intro w hS; obtain ⟨⟨h0, h1, h2, h3, h4, h5⟩, _⟩ := hS.1.of6; go_simp⟩) hS ?_
        refine wpAnyH_take (i := 2) (v := .agg #[.int .i64 q, .string x, .bool b]) rfl (by kernel_rfl) (by kernel_rfl) (by kernel_rfl) (fun _ _ _ h => h) (Or.inl ⟨by kernel_rfl, by intro w hS; obtain ⟨⟨h0, h1, h2⟩, _⟩ := hS.2.o3; go_simp⟩) hS ?_
        refine wpAnyH_ready (rs := [1, 5]) (by kernel_rfl) (by simp) ?_
        refine AllReadyH.cons (i := 1) rfl (fun K hK => ?zy2) (AllReadyH.cons (i := 5) rfl (fun K hK => ?zy1) AllReadyH.nil)
        · rw [if_pos (by rfl)]
          go_simp
          clear hS
          refine (toSender_any u d t f g h _).mono ?_
          rintro e v4 ⟨rfl, hb⟩
          have B4 := Lib.hid (B3.out.trans (hb.mono B3.out.size))
          have Ka4 := Lib.hid (Ka3.out.below hb)
          have Kk4 := Lib.hid (Kk3.out.below hb)
          clear hb B3 Ka3 Kk3
          refine hK.out _ _ ⟨Ka4.out, Kk4.out⟩ (fun hS => ?_)
          clear hK K
          refine wpAnyH_ready (rs := [3, 5]) (by kernel_rfl) (by simp) ?_
          refine AllReadyH.cons (i := 3) rfl (fun K hK => ?zy4) (AllReadyH.cons (i := 5) rfl (fun K hK => ?zy3) AllReadyH.nil)
          · rw [if_pos (by rfl)]
            go_simp
            clear hS
            refine (toChunk_any q x b _).mono ?_
            rintro e v5 ⟨rfl, hb⟩
            have B5 := Lib.hid (B4.out.trans (hb.mono B4.out.size))
            have Ka5 := Lib.hid (Ka4.out.below hb)
            have Kk5 := Lib.hid (Kk4.out.below hb)
            clear hb B4 Ka4 Kk4
            refine hK.out _ _ ⟨Ka5.out, Kk5.out⟩ (fun hS => ?_)
            clear hK K
            refine wpAnyH_ready (rs := [4, 5]) (by kernel_rfl) (by simp) ?_
            refine AllReadyH.cons (i := 4) rfl (fun K hK => ?zy6) (AllReadyH.cons (i := 5) rfl (fun K hK => ?zy5) AllReadyH.nil)
            · rw [if_pos (by rfl)]
              go_simp
              clear hS
              refine (C1.out _).mono ?_
              rintro e v6 ⟨rfl, hb⟩
              have B6 := Lib.hid (B5.out.trans (hb.mono B5.out.size))
              have Ka6 := Lib.hid (Ka5.out.below hb)
              have Kk6 := Lib.hid (Kk5.out.below hb)
              clear hb B5 Ka5 Kk5
              refine hK.out _ _ ⟨Ka6.out, Kk6.out⟩ (fun hS => ?_)
              clear hK K
              refine wpAnyH_ready (rs := [5]) (by kernel_rfl) (by simp) ?_
              refine AllReadyH.cons (i := 5) rfl (fun K hK => ?zy7) AllReadyH.nil
              rw [if_pos (by rfl)]
              go_simp
              clear hS
              have B7 := Lib.hid (B6.out.alloc B6.out.size (.cells #[.int .i64 0, .string ⟨#[]⟩, .int .i64 0, .bool false, .bool false, .bool false] 25))
              have l_x : w.heap.size ≤ v6.heap.size := B6.out.size
              have n_a_x : g_a ≠ v6.heap.size := by have h1 := Ka6.out.lt; omega
              have n_k_x : g_k ≠ v6.heap.size := by have h1 := Kk6.out.lt; omega
              have Ka7 := Lib.hid (Ka6.out.alloc (.cells #[.int .i64 0, .string ⟨#[]⟩, .int .i64 0, .bool false, .bool false, .bool false] 25))
              have Kk7 := Lib.hid (Kk6.out.alloc (.cells #[.int .i64 0, .string ⟨#[]⟩, .int .i64 0, .bool false, .bool false, .bool false] 25))
              have Kx7 := Lib.hid (Blk.new v6 [.int .i64 0, .string ⟨#[]⟩, .int .i64 0, .bool false, .bool false, .bool false] 25)
              clear B6 Ka6 Kk6
              refine hK.out _ _ ⟨Ka7.out, Kk7.out⟩ (fun hS => ?_)
              clear hK K
              generalize v6.alloc (.cells #[.int .i64 0, .string ⟨#[]⟩, .int .i64 0, .bool false, .bool false, .bool false] 25) = v7 at hS B7 Ka7 Kk7 Kx7 ⊢
              generalize v6.heap.size = g_x at Kx7 l_x n_a_x n_k_x ⊢
              obtain ⟨⟨cx0, cx1, cx2, cx3, cx4, cx5⟩, dx0, dx1, dx2, dx3, dx4, dx5⟩ := Kx7.out.of6
              refine wpAnyH_ready (rs := [6]) (by kernel_rfl) (by simp) ?_
              refine AllReadyH.cons (i := 6) rfl (fun K hK => ?zy8) AllReadyH.nil
              rw [if_pos (by rfl)]
              go_simp
              clear hS
              have B8 := Lib.hid (show Below w.heap.size w ((((((v7.setCell ⟨g_x, 0, none⟩ (.int .i64 x0)).setCell ⟨g_x, 1, none⟩ (.string x1)).setCell ⟨g_x, 2, none⟩ (.int .i64 x2)).setCell ⟨g_x, 3, none⟩ (.bool x3)).setCell ⟨g_x, 4, none⟩ (.bool x4)).setCell ⟨g_x, 5, none⟩ (.bool x5)) from ((((((B7.out.setCell l_x (.int .i64 x0)).setCell l_x (.string x1)).setCell l_x (.int .i64 x2)).setCell l_x (.bool x3)).setCell l_x (.bool x4)).setCell l_x (.bool x5)))
              have Ka8 := Lib.hid (show Blk ((((((v7.setCell ⟨g_x, 0, none⟩ (.int .i64 x0)).setCell ⟨g_x, 1, none⟩ (.string x1)).setCell ⟨g_x, 2, none⟩ (.int .i64 x2)).setCell ⟨g_x, 3, none⟩ (.bool x3)).setCell ⟨g_x, 4, none⟩ (.bool x4)).setCell ⟨g_x, 5, none⟩ (.bool x5)) g_a [.int .i64 u, .string d, .int .i64 t, .bool f, .bool g, .bool h] from ((((((Ka7.out.setOther ⟨g_x, 0, none⟩ (.int .i64 x0) (n_a_x)).setOther ⟨g_x, 1, none⟩ (.string x1) (n_a_x)).setOther ⟨g_x, 2, none⟩ (.int .i64 x2) (n_a_x)).setOther ⟨g_x, 3, none⟩ (.bool x3) (n_a_x)).setOther ⟨g_x, 4, none⟩ (.bool x4) (n_a_x)).setOther ⟨g_x, 5, none⟩ (.bool x5) (n_a_x)))
              have Kk8 := Lib.hid (show Blk ((((((v7.setCell ⟨g_x, 0, none⟩ (.int .i64 x0)).setCell ⟨g_x, 1, none⟩ (.string x1)).setCell ⟨g_x, 2, none⟩ (.int .i64 x2)).setCell ⟨g_x, 3, none⟩ (.bool x3)).setCell ⟨g_x, 4, none⟩ (.bool x4)).setCell ⟨g_x, 5, none⟩ (.bool x5)) g_k [.int .i64 q, .string x, .bool b] from ((((((Kk7.out.setOther ⟨g_x, 0, none⟩ (.int .i64 x0) (n_k_x)).setOther ⟨g_x, 1, none⟩ (.string x1) (n_k_x)).setOther ⟨g_x, 2, none⟩ (.int .i64 x2) (n_k_x)).setOther ⟨g_x, 3, none⟩ (.bool x3) (n_k_x)).setOther ⟨g_x, 4, none⟩ (.bool x4) (n_k_x)).setOther ⟨g_x, 5, none⟩ (.bool x5) (n_k_x)))
              have Kx8 := Lib.hid (show Blk ((((((v7.setCell ⟨g_x, 0, none⟩ (.int .i64 x0)).setCell ⟨g_x, 1, none⟩ (.string x1)).setCell ⟨g_x, 2, none⟩ (.int .i64 x2)).setCell ⟨g_x, 3, none⟩ (.bool x3)).setCell ⟨g_x, 4, none⟩ (.bool x4)).setCell ⟨g_x, 5, none⟩ (.bool x5)) g_x [.int .i64 x0, .string x1, .int .i64 x2, .bool x3, .bool x4, .bool x5] from ((((((Kx7.out.set 0 (.int .i64 x0)).set 1 (.string x1)).set 2 (.int .i64 x2)).set 3 (.bool x3)).set 4 (.bool x4)).set 5 (.bool x5)))
              refine hK.out _ _ ⟨Ka8.out, Kk8.out⟩ (fun hS => ?_)
              clear hK K
              clear B7 Ka7 Kk7 Kx7
              clear cx0 cx1 cx2 cx3 cx4 cx5 dx0 dx1 dx2 dx3 dx4 dx5
              generalize (((((v7.setCell ⟨g_x, 0, none⟩ (.int .i64 x0)).setCell ⟨g_x, 1, none⟩ (.string x1)).setCell ⟨g_x, 2, none⟩ (.int .i64 x2)).setCell ⟨g_x, 3, none⟩ (.bool x3)).setCell ⟨g_x, 4, none⟩ (.bool x4)).setCell ⟨g_x, 5, none⟩ (.bool x5) = v8 at hS B8 Ka8 Kk8 Kx8 ⊢
              refine wpAnyH_done (by kernel_rfl) ?_ _
              refine NoPanic.normal ?_
              go_wp2_with fail
              go_meet
              case rel => exact ⟨g_x, rfl, B8, Ka8, Kk8, Kx8, ⟨n_a_x, n_k_x, l_x⟩⟩
            · rw [if_pos (by rfl)]
              go_simp
              clear hS
              have B6 := Lib.hid (B5.out.alloc B5.out.size (.cells #[.int .i64 0, .string ⟨#[]⟩, .int .i64 0, .bool false, .bool false, .bool false] 25))
              have l_x : w.heap.size ≤ v5.heap.size := B5.out.size
              have n_a_x : g_a ≠ v5.heap.size := by have h1 := Ka5.out.lt; omega
              have n_k_x : g_k ≠ v5.heap.size := by have h1 := Kk5.out.lt; omega
              have Ka6 := Lib.hid (Ka5.out.alloc (.cells #[.int .i64 0, .string ⟨#[]⟩, .int .i64 0, .bool false, .bool false, .bool false] 25))
              have Kk6 := Lib.hid (Kk5.out.alloc (.cells #[.int .i64 0, .string ⟨#[]⟩, .int .i64 0, .bool false, .bool false, .bool false] 25))
              have Kx6 := Lib.hid (Blk.new v5 [.int .i64 0, .string ⟨#[]⟩, .int .i64 0, .bool false, .bool false, .bool false] 25)
              clear B5 Ka5 Kk5
              refine hK.out _ _ ⟨Ka6.out, Kk6.out⟩ (fun hS => ?_)
              clear hK K
              generalize v5.alloc (.cells #[.int .i64 0, .string ⟨#[]⟩, .int .i64 0, .bool false, .bool false, .bool false] 25) = v6 at hS B6 Ka6 Kk6 Kx6 ⊢
              generalize v5.heap.size = g_x at Kx6 l_x n_a_x n_k_x ⊢
              refine wpAnyH_ready (rs := [4]) (by kernel_rfl) (by simp) ?_
              refine AllReadyH.cons (i := 4) rfl (fun K hK => ?zy9) AllReadyH.nil
              rw [if_pos (by rfl)]
              go_simp
              clear hS
              refine (C1.out _).mono ?_
              rintro e v7 ⟨rfl, hb⟩
              have B7 := Lib.hid (B6.out.trans (hb.mono B6.out.size))
              have Ka7 := Lib.hid (Ka6.out.below hb)
              have Kk7 := Lib.hid (Kk6.out.below hb)
              have Kx7 := Lib.hid (Kx6.out.below hb)
              clear hb B6 Ka6 Kk6 Kx6
              refine hK.out _ _ ⟨Ka7.out, Kk7.out⟩ (fun hS => ?_)
              clear hK K
              obtain ⟨⟨cx0, cx1, cx2, cx3, cx4, cx5⟩, dx0, dx1, dx2, dx3, dx4, dx5⟩ := Kx7.out.of6
              refine wpAnyH_ready (rs := [6]) (by kernel_rfl) (by simp) ?_
              refine AllReadyH.cons (i := 6) rfl (fun K hK => ?zy10) AllReadyH.nil
              rw [if_pos (by rfl)]
              go_simp
              clear hS
              have B8 := Lib.hid (show Below w.heap.size w ((((((v7.setCell ⟨g_x, 0, none⟩ (.int .i64 x0)).setCell ⟨g_x, 1, none⟩ (.string x1)).setCell ⟨g_x, 2, none⟩ (.int .i64 x2)).setCell ⟨g_x, 3, none⟩ (.bool x3)).setCell ⟨g_x, 4, none⟩ (.bool x4)).setCell ⟨g_x, 5, none⟩ (.bool x5)) from ((((((B7.out.setCell l_x (.int .i64 x0)).setCell l_x (.string x1)).setCell l_x (.int .i64 x2)).setCell l_x (.bool x3)).setCell l_x (.bool x4)).setCell l_x (.bool x5)))
              have Ka8 := Lib.hid (show Blk ((((((v7.setCell ⟨g_x, 0, none⟩ (.int .i64 x0)).setCell ⟨g_x, 1, none⟩ (.string x1)).setCell ⟨g_x, 2, none⟩ (.int .i64 x2)).setCell ⟨g_x, 3, none⟩ (.bool x3)).setCell ⟨g_x, 4, none⟩ (.bool x4)).setCell ⟨g_x, 5, none⟩ (.bool x5)) g_a [.int .i64 u, .string d, .int .i64 t, .bool f, .bool g, .bool h] from ((((((Ka7.out.setOther ⟨g_x, 0, none⟩ (.int .i64 x0) (n_a_x)).setOther ⟨g_x, 1, none⟩ (.string x1) (n_a_x)).setOther ⟨g_x, 2, none⟩ (.int .i64 x2) (n_a_x)).setOther ⟨g_x, 3, none⟩ (.bool x3) (n_a_x)).setOther ⟨g_x, 4, none⟩ (.bool x4) (n_a_x)).setOther ⟨g_x, 5, none⟩ (.bool x5) (n_a_x)))
              have Kk8 := Lib.hid (show Blk ((((((v7.setCell ⟨g_x, 0, none⟩ (.int .i64 x0)).setCell ⟨g_x, 1, none⟩ (.string x1)).setCell ⟨g_x, 2, none⟩ (.int .i64 x2)).setCell ⟨g_x, 3, none⟩ (.bool x3)).setCell ⟨g_x, 4, none⟩ (.bool x4)).setCell ⟨g_x, 5, none⟩ (.bool x5)) g_k [.int .i64 q, .string x, .bool b] from ((((((Kk7.out.setOther ⟨g_x, 0, none⟩ (.int .i64 x0) (n_k_x)).setOther ⟨g_x, 1, none⟩ (.string x1) (n_k_x)).setOther ⟨g_x, 2, none⟩ (.int .i64 x2) (n_k_x)).setOther ⟨g_x, 3, none⟩ (.bool x3) (n_k_x)).setOther ⟨g_x, 4, none⟩ (.bool x4) (n_k_x)).setOther ⟨g_x, 5, none⟩ (.bool x5) (n_k_x)))
              have Kx8 := Lib.hid (show Blk ((((((v7.setCell ⟨g_x, 0, none⟩ (.int .i64 x0)).setCell ⟨g_x, 1, none⟩ (.string x1)).setCell ⟨g_x, 2, none⟩ (.int .i64 x2)).setCell ⟨g_x, 3, none⟩ (.bool x3)).setCell ⟨g_x, 4, none⟩ (.bool x4)).setCell ⟨g_x, 5, none⟩ (.bool x5)) g_x [.int .i64 x0, .string x1, .int .i64 x2, .bool x3, .bool x4, .bool x5] from ((((((Kx7.out.set 0 (.int .i64 x0)).set 1 (.string x1)).set 2 (.int .i64 x2)).set 3 (.bool x3)).set 4 (.bool x4)).set 5 (.bool x5)))
              refine hK.out _ _ ⟨Ka8.out, Kk8.out⟩ (fun hS => ?_)
              clear hK K
              clear B7 Ka7 Kk7 Kx7
              clear cx0 cx1 cx2 cx3 cx4 cx5 dx0 dx1 dx2 dx3 dx4 dx5
              generalize (((((v7.setCell ⟨g_x, 0, none⟩ (.int .i64 x0)).setCell ⟨g_x, 1, none⟩ (.string x1)).setCell ⟨g_x, 2, none⟩ (.int .i64 x2)).setCell ⟨g_x, 3, none⟩ (.bool x3)).setCell ⟨g_x, 4, none⟩ (.bool x4)).setCell ⟨g_x, 5, none⟩ (.bool x5) = v8 at hS B8 Ka8 Kk8 Kx8 ⊢
              refine wpAnyH_done (by kernel_rfl) ?_ _
              refine NoPanic.normal ?_
              go_wp2_with fail
              go_meet
              case rel => exact ⟨g_x, rfl, B8, Ka8, Kk8, Kx8, ⟨n_a_x, n_k_x, l_x⟩⟩
          · rw [if_pos (by rfl)]
            go_simp
            clear hS
            have B5 := Lib.hid (B4.out.alloc B4.out.size (.cells #[.int .i64 0, .string ⟨#[]⟩, .int .i64 0, .bool false, .bool false, .bool false] 25))
            have l_x : w.heap.size ≤ v4.heap.size := B4.out.size
            have n_a_x : g_a ≠ v4.heap.size := by have h1 := Ka4.out.lt; omega
            have n_k_x : g_k ≠ v4.heap.size := by have h1 := Kk4.out.lt; omega
            have Ka5 := Lib.hid (Ka4.out.alloc (.cells #[.int .i64 0, .string ⟨#[]⟩, .int .i64 0, .bool false, .bool false, .bool false] 25))
            have Kk5 := Lib.hid (Kk4.out.alloc (.cells #[.int .i64 0, .string ⟨#[]⟩, .int .i64 0, .bool false, .bool false, .bool false] 25))
            have Kx5 := Lib.hid (Blk.new v4 [.int .i64 0, .string ⟨#[]⟩, .int .i64 0, .bool false, .bool false, .bool false] 25)
            clear B4 Ka4 Kk4
            refine hK.out _ _ ⟨Ka5.out, Kk5.out⟩ (fun hS => ?_)
            clear hK K
            generalize v4.alloc (.cells #[.int .i64 0, .string ⟨#[]⟩, .int .i64 0, .bool false, .bool false, .bool false] 25) = v5 at hS B5 Ka5 Kk5 Kx5 ⊢
            generalize v4.heap.size = g_x at Kx5 l_x n_a_x n_k_x ⊢
            refine wpAnyH_ready (rs := [3]) (by kernel_rfl) (by simp) ?_
            refine AllReadyH.cons (i := 3) rfl (fun K hK => ?zy11) AllReadyH.nil
            rw [if_pos (by rfl)]
            go_simp
            clear hS
            refine (toChunk_any q x b _).mono ?_
            rintro e v6 ⟨rfl, hb⟩
            have B6 := Lib.hid (B5.out.trans (hb.mono B5.out.size))
            have Ka6 := Lib.hid (Ka5.out.below hb)
            have Kk6 := Lib.hid (Kk5.out.below hb)
            have Kx6 := Lib.hid (Kx5.out.below hb)
            clear hb B5 Ka5 Kk5 Kx5
            refine hK.out _ _ ⟨Ka6.out, Kk6.out⟩ (fun hS => ?_)
            clear hK K
            refine wpAnyH_ready (rs := [4]) (by kernel_rfl) (by simp) ?_
            refine AllReadyH.cons (i := 4) rfl (fun K hK => ?zy12) AllReadyH.nil
            rw [if_pos (by rfl)]
            go_simp
            clear hS
            refine (C1.out _).mono ?_
            rintro e v7 ⟨rfl, hb⟩
            have B7 := Lib.hid (B6.out.trans (hb.mono B6.out.size))
            have Ka7 := Lib.hid (Ka6.out.below hb)
            have Kk7 := Lib.hid (Kk6.out.below hb)
            have Kx7 := Lib.hid (Kx6.out.below hb)
            clear hb B6 Ka6 Kk6 Kx6
            refine hK.out _ _ ⟨Ka7.out, Kk7.out⟩ (fun hS => ?_)
            clear hK K
            obtain ⟨⟨cx0, cx1, cx2, cx3, cx4, cx5⟩, dx0, dx1, dx2, dx3, dx4, dx5⟩ := Kx7.out.of6
            refine wpAnyH_ready (rs := [6]) (by kernel_rfl) (by simp) ?_
            refine AllReadyH.cons (i := 6) rfl (fun K hK => ?zy13) AllReadyH.nil
            rw [if_pos (by rfl)]
            go_simp
            clear hS
            have B8 := Lib.hid (show Below w.heap.size w ((((((v7.setCell ⟨g_x, 0, none⟩ (.int .i64 x0)).setCell ⟨g_x, 1, none⟩ (.string x1)).setCell ⟨g_x, 2, none⟩ (.int .i64 x2)).setCell ⟨g_x, 3, none⟩ (.bool x3)).setCell ⟨g_x, 4, none⟩ (.bool x4)).setCell ⟨g_x, 5, none⟩ (.bool x5)) from ((((((B7.out.setCell l_x (.int .i64 x0)).setCell l_x (.string x1)).setCell l_x (.int .i64 x2)).setCell l_x (.bool x3)).setCell l_x (.bool x4)).setCell l_x (.bool x5)))
            have Ka8 := Lib.hid (show Blk ((((((v7.setCell ⟨g_x, 0, none⟩ (.int .i64 x0)).setCell ⟨g_x, 1, none⟩ (.string x1)).setCell ⟨g_x, 2, none⟩ (.int .i64 x2)).setCell ⟨g_x, 3, none⟩ (.bool x3)).setCell ⟨g_x, 4, none⟩ (.bool x4)).setCell ⟨g_x, 5, none⟩ (.bool x5)) g_a [.int .i64 u, .string d, .int .i64 t, .bool f, .bool g, .bool h] from ((((((Ka7.out.setOther ⟨g_x, 0, none⟩ (.int .i64 x0) (n_a_x)).setOther ⟨g_x, 1, none⟩ (.string x1) (n_a_x)).setOther ⟨g_x, 2, none⟩ (.int .i64 x2) (n_a_x)).setOther ⟨g_x, 3, none⟩ (.bool x3) (n_a_x)).setOther ⟨g_x, 4, none⟩ (.bool x4) (n_a_x)).setOther ⟨g_x, 5, none⟩ (.bool x5) (n_a_x)))
            have Kk8 := Lib.hid (show Blk ((((((v7.setCell ⟨g_x, 0, none⟩ (.int .i64 x0)).setCell ⟨g_x, 1, none⟩ (.string x1)).setCell ⟨g_x, 2, none⟩ (.int .i64 x2)).setCell ⟨g_x, 3, none⟩ (.bool x3)).setCell ⟨g_x, 4, none⟩ (.bool x4)).setCell ⟨g_x, 5, none⟩ (.bool x5)) g_k [.int .i64 q, .string x, .bool b] from ((((((Kk7.out.setOther ⟨g_x, 0, none⟩ (.int .i64 x0) (n_k_x)).setOther ⟨g_x, 1, none⟩ (.string x1) (n_k_x)).setOther ⟨g_x, 2, none⟩ (.int .i64 x2) (n_k_x)).setOther ⟨g_x, 3, none⟩ (.bool x3) (n_k_x)).setOther ⟨g_x, 4, none⟩ (.bool x4) (n_k_x)).setOther ⟨g_x, 5, none⟩ (.bool x5) (n_k_x)))
            have Kx8 := Lib.hid (show Blk ((((((v7.setCell ⟨g_x, 0, none⟩ (.int .i64 x0)).setCell ⟨g_x, 1, none⟩ (.string x1)).setCell ⟨g_x, 2, none⟩ (.int .i64 x2)).setCell ⟨g_x, 3, none⟩ (.bool x3)).setCell ⟨g_x, 4, none⟩ (.bool x4)).setCell ⟨g_x, 5, none⟩ (.bool x5)) g_x [.int .i64 x0, .string x1, .int .i64 x2, .bool x3, .bool x4, .bool x5] from ((((((Kx7.out.set 0 (.int .i64 x0)).set 1 (.string x1)).set 2 (.int .i64 x2)).set 3 (.bool x3)).set 4 (.bool x4)).set 5 (.bool x5)))
            refine hK.out _ _ ⟨Ka8.out, Kk8.out⟩ (fun hS => ?_)
            clear hK K
            clear B7 Ka7 Kk7 Kx7
            clear cx0 cx1 cx2 cx3 cx4 cx5 dx0 dx1 dx2 dx3 dx4 dx5
            generalize (((((v7.setCell ⟨g_x, 0, none⟩ (.int .i64 x0)).setCell ⟨g_x, 1, none⟩ (.string x1)).setCell ⟨g_x, 2, none⟩ (.int .i64 x2)).setCell ⟨g_x, 3, none⟩ (.bool x3)).setCell ⟨g_x, 4, none⟩ (.bool x4)).setCell ⟨g_x, 5, none⟩ (.bool x5) = v8 at hS B8 Ka8 Kk8 Kx8 ⊢
            refine wpAnyH_done (by kernel_rfl) ?_ _
            refine NoPanic.normal ?_
            go_wp2_with fail
            go_meet
            case rel => exact ⟨g_x, rfl, B8, Ka8, Kk8, Kx8, ⟨n_a_x, n_k_x, l_x⟩⟩
        · rw [if_pos (by rfl)]
          go_simp
          clear hS
          have B4 := Lib.hid (B3.out.alloc B3.out.size (.cells #[.int .i64 0, .string ⟨#[]⟩, .int .i64 0, .bool false, .bool false, .bool false] 25))
          have l_x : w.heap.size ≤ v3.heap.size := B3.out.size
          have n_a_x : g_a ≠ v3.heap.size := by have h1 := Ka3.out.lt; omega
          have n_k_x : g_k ≠ v3.heap.size := by have h1 := Kk3.out.lt; omega
          have Ka4 := Lib.hid (Ka3.out.alloc (.cells #[.int .i64 0, .string ⟨#[]⟩, .int .i64 0, .bool false, .bool false, .bool false] 25))
          have Kk4 := Lib.hid (Kk3.out.alloc (.cells #[.int .i64 0, .string ⟨#[]⟩, .int .i64 0, .bool false, .bool false, .bool false] 25))
          have Kx4 := Lib.hid (Blk.new v3 [.int .i64 0, .string ⟨#[]⟩, .int .i64 0, .bool false, .bool false, .bool false] 25)
          clear B3 Ka3 Kk3
          refine hK.out _ _ ⟨Ka4.out, Kk4.out⟩ (fun hS => ?_)
          clear hK K
          generalize v3.alloc (.cells #[.int .i64 0, .string ⟨#[]⟩, .int .i64 0, .bool false, .bool false, .bool false] 25) = v4 at hS B4 Ka4 Kk4 Kx4 ⊢
          generalize v3.heap.size = g_x at Kx4 l_x n_a_x n_k_x ⊢
          refine wpAnyH_ready (rs := [1]) (by kernel_rfl) (by simp) ?_
          refine AllReadyH.cons (i := 1) rfl (fun K hK => ?zy14) AllReadyH.nil
          rw [if_pos (by rfl)]
          go_simp
          clear hS
          refine (toSender_any u d t f g h _).mono ?_
          rintro e v5 ⟨rfl, hb⟩
          have B5 := Lib.hid (B4.out.trans (hb.mono B4.out.size))
          have Ka5 := Lib.hid (Ka4.out.below hb)
          have Kk5 := Lib.hid (Kk4.out.below hb)
          have Kx5 := Lib.hid (Kx4.out.below hb)
          clear hb B4 Ka4 Kk4 Kx4
          refine hK.out _ _ ⟨Ka5.out, Kk5.out⟩ (fun hS => ?_)
          clear hK K
          refine wpAnyH_ready (rs := [3]) (by kernel_rfl) (by simp) ?_
          refine AllReadyH.cons (i := 3) rfl (fun K hK => ?zy15) AllReadyH.nil
          rw [if_pos (by rfl)]
          go_simp
          clear hS
          refine (toChunk_any q x b _).mono ?_
          rintro e v6 ⟨rfl, hb⟩
          have B6 := Lib.hid (B5.out.trans (hb.mono B5.out.size))
          have Ka6 := Lib.hid (Ka5.out.below hb)
          have Kk6 := Lib.hid (Kk5.out.below hb)
          have Kx6 := Lib.hid (Kx5.out.below hb)
          clear hb B5 Ka5 Kk5 Kx5
          refine hK.out _ _ ⟨Ka6.out, Kk6.out⟩ (fun hS => ?_)
          clear hK K
          refine wpAnyH_ready (rs := [4]) (by kernel_rfl) (by simp) ?_
          refine AllReadyH.cons (i := 4) rfl (fun K hK => ?zy16) AllReadyH.nil
          rw [if_pos (by rfl)]
          go_simp
          clear hS
          refine (C1.out _).mono ?_
          rintro e v7 ⟨rfl, hb⟩
          have B7 := Lib.hid (B6.out.trans (hb.mono B6.out.size))
          have Ka7 := Lib.hid (Ka6.out.below hb)
          have Kk7 := Lib.hid (Kk6.out.below hb)
          have Kx7 := Lib.hid (Kx6.out.below hb)
          clear hb B6 Ka6 Kk6 Kx6
          refine hK.out _ _ ⟨Ka7.out, Kk7.out⟩ (fun hS => ?_)
          clear hK K
          obtain ⟨⟨cx0, cx1, cx2, cx3, cx4, cx5⟩, dx0, dx1, dx2, dx3, dx4, dx5⟩ := Kx7.out.of6
          refine wpAnyH_ready (rs := [6]) (by kernel_rfl) (by simp) ?_
          refine AllReadyH.cons (i := 6) rfl (fun K hK => ?zy17) AllReadyH.nil
          rw [if_pos (by rfl)]
          go_simp
          clear hS
          have B8 := Lib.hid (show Below w.heap.size w ((((((v7.setCell ⟨g_x, 0, none⟩ (.int .i64 x0)).setCell ⟨g_x, 1, none⟩ (.string x1)).setCell ⟨g_x, 2, none⟩ (.int .i64 x2)).setCell ⟨g_x, 3, none⟩ (.bool x3)).setCell ⟨g_x, 4, none⟩ (.bool x4)).setCell ⟨g_x, 5, none⟩ (.bool x5)) from ((((((B7.out.setCell l_x (.int .i64 x0)).setCell l_x (.string x1)).setCell l_x (.int .i64 x2)).setCell l_x (.bool x3)).setCell l_x (.bool x4)).setCell l_x (.bool x5)))
          have Ka8 := Lib.hid (show Blk ((((((v7.setCell ⟨g_x, 0, none⟩ (.int .i64 x0)).setCell ⟨g_x, 1, none⟩ (.string x1)).setCell ⟨g_x, 2, none⟩ (.int .i64 x2)).setCell ⟨g_x, 3, none⟩ (.bool x3)).setCell ⟨g_x, 4, none⟩ (.bool x4)).setCell ⟨g_x, 5, none⟩ (.bool x5)) g_a [.int .i64 u, .string d, .int .i64 t, .bool f, .bool g, .bool h] from ((((((Ka7.out.setOther ⟨g_x, 0, none⟩ (.int .i64 x0) (n_a_x)).setOther ⟨g_x, 1, none⟩ (.string x1) (n_a_x)).setOther ⟨g_x, 2, none⟩ (.int .i64 x2) (n_a_x)).setOther ⟨g_x, 3, none⟩ (.bool x3) (n_a_x)).setOther ⟨g_x, 4, none⟩ (.bool x4) (n_a_x)).setOther ⟨g_x, 5, none⟩ (.bool x5) (n_a_x)))
          have Kk8 := Lib.hid (show Blk ((((((v7.setCell ⟨g_x, 0, none⟩ (.int .i64 x0)).setCell ⟨g_x, 1, none⟩ (.string x1)).setCell ⟨g_x, 2, none⟩ (.int .i64 x2)).setCell ⟨g_x, 3, none⟩ (.bool x3)).setCell ⟨g_x, 4, none⟩ (.bool x4)).setCell ⟨g_x, 5, none⟩ (.bool x5)) g_k [.int .i64 q, .string x, .bool b] from ((((((Kk7.out.setOther ⟨g_x, 0, none⟩ (.int .i64 x0) (n_k_x)).setOther ⟨g_x, 1, none⟩ (.string x1) (n_k_x)).setOther ⟨g_x, 2, none⟩ (.int .i64 x2) (n_k_x)).setOther ⟨g_x, 3, none⟩ (.bool x3) (n_k_x)).setOther ⟨g_x, 4, none⟩ (.bool x4) (n_k_x)).setOther ⟨g_x, 5, none⟩ (.bool x5) (n_k_x)))
          have Kx8 := Lib.hid (show Blk ((((((v7.setCell ⟨g_x, 0, none⟩ (.int .i64 x0)).setCell ⟨g_x, 1, none⟩ (.string x1)).setCell ⟨g_x, 2, none⟩ (.int .i64 x2)).setCell ⟨g_x, 3, none⟩ (.bool x3)).setCell ⟨g_x, 4, none⟩ (.bool x4)).setCell ⟨g_x, 5, none⟩ (.bool x5)) g_x [.int .i64 x0, .string x1, .int .i64 x2, .bool x3, .bool x4, .bool x5] from ((((((Kx7.out.set 0 (.int .i64 x0)).set 1 (.string x1)).set 2 (.int .i64 x2)).set 3 (.bool x3)).set 4 (.bool x4)).set 5 (.bool x5)))
          refine hK.out _ _ ⟨Ka8.out, Kk8.out⟩ (fun hS => ?_)
          clear hK K
          clear B7 Ka7 Kk7 Kx7
          clear cx0 cx1 cx2 cx3 cx4 cx5 dx0 dx1 dx2 dx3 dx4 dx5
          generalize (((((v7.setCell ⟨g_x, 0, none⟩ (.int .i64 x0)).setCell ⟨g_x, 1, none⟩ (.string x1)).setCell ⟨g_x, 2, none⟩ (.int .i64 x2)).setCell ⟨g_x, 3, none⟩ (.bool x3)).setCell ⟨g_x, 4, none⟩ (.bool x4)).setCell ⟨g_x, 5, none⟩ (.bool x5) = v8 at hS B8 Ka8 Kk8 Kx8 ⊢
          refine wpAnyH_done (by kernel_rfl) ?_ _
          refine NoPanic.normal ?_
          go_wp2_with fail
          go_meet
          case rel => exact ⟨g_x, rfl, B8, Ka8, Kk8, Kx8, ⟨n_a_x, n_k_x, l_x⟩⟩
      case rest =>
        clear B2 Ka2 Kk2
        obtain ⟨g_x, rfl, B108, Ka108, Kk108, Kx108, ⟨n_a_x, n_k_x, l_x⟩⟩ := hcut
        generalize wc = wc_8 at B108 Ka108 Kk108 Kx108 ⊢
        obtain ⟨⟨ca0, ca1, ca2, ca3, ca4, ca5⟩, da0, da1, da2, da3, da4, da5⟩ := Ka108.out.of6
        obtain ⟨⟨ck0, ck1, ck2⟩, dk0, dk1, dk2⟩ := Kk108.out.o3
        obtain ⟨⟨cx0, cx1, cx2, cx3, cx4, cx5⟩, dx0, dx1, dx2, dx3, dx4, dx5⟩ := Kx108.out.of6
        clear ca0 ca1 ca2 ca3 ca4 ca5 da0 da1 da2 da3 da4 da5 ck0 ck1 ck2 dk0 dk1 dk2 cx0 cx1 cx2 cx3 cx4 cx5 dx0 dx1 dx2 dx3 dx4 dx5
        obtain ⟨⟨ca0, ca1, ca2, ca3, ca4, ca5⟩, da0, da1, da2, da3, da4, da5⟩ := Ka108.out.of6
        obtain ⟨⟨ck0, ck1, ck2⟩, dk0, dk1, dk2⟩ := Kk108.out.o3
        obtain ⟨⟨cx0, cx1, cx2, cx3, cx4, cx5⟩, dx0, dx1, dx2, dx3, dx4, dx5⟩ := Kx108.out.of6
        go_upto_region 9 with fail
        clear ca0 ca1 ca2 ca3 ca4 ca5 da0 da1 da2 da3 da4 da5 ck0 ck1 ck2 dk0 dk1 dk2 cx0 cx1 cx2 cx3 cx4 cx5 dx0 dx1 dx2 dx3 dx4 dx5
        go_cut [7] (fun s7 wx => ∃ (g_y : Nat), s7 = .pointer (some ⟨g_y, 0, none⟩) ∧ Hid (Below w.heap.size w wx) ∧ Hid (Blk wx g_a [.int .i64 u, .string d, .int .i64 t, .bool f, .bool g, .bool h]) ∧ Hid (Blk wx g_k [.int .i64 q, .string x, .bool b]) ∧ Hid (Blk wx g_x [.int .i64 x0, .string x1, .int .i64 x2, .bool x3, .bool x4, .bool x5]) ∧ Hid (Blk wx g_y [.int .i64 x0, .string x1, .int .i64 x2, .bool x3, .bool x4, .bool x5]) ∧ (g_a ≠ g_y ∧ g_k ≠ g_y ∧ g_x ≠ g_y ∧ w.heap.size ≤ g_y))
        case first =>
          refine wp_region_noPanic ?_
          refine wp_region_held_drew (S := fun w' => Blk w' g_a [.int .i64 u, .string d, .int .i64 t, .bool f, .bool g, .bool h] ∧ Blk w' g_k [.int .i64 q, .string x, .bool b]) (by kernel_rfl) ⟨Ka108.out, Kk108.out⟩ (fun hS => ?_)
          have B109 := Lib.hid (show Below w.heap.size w wc_8.drew from B108.out.drew)
          have Ka109 := Lib.hid (show Blk wc_8.drew g_a [.int .i64 u, .string d, .int .i64 t, .bool f, .bool g, .bool h] from Ka108.out.drew)
          have Kk109 := Lib.hid (show Blk wc_8.drew g_k [.int .i64 q, .string x, .bool b] from Kk108.out.drew)
          have Kx109 := Lib.hid (show Blk wc_8.drew g_x [.int .i64 x0, .string x1, .int .i64 x2, .bool x3, .bool x4, .bool x5] from Kx108.out.drew)
          clear hS B108 Ka108 Kk108 Kx108
          generalize wc_8.drew = v109 at B109 Ka109 Kk109 Kx109 ⊢
          have hS : Blk v109 g_a [.int .i64 u, .string d, .int .i64 t, .bool f, .bool g, .bool h] ∧ Blk v109 g_k [.int .i64 q, .string x, .bool b] := ⟨Ka109.out, Kk109.out⟩
          refine wpAnyH_take (i := 0) (v := .agg #[.int .i64 u, .string d, .int .i64 t, .bool f, .bool g, .bool h]) rfl (by kernel_rfl) (by kernel_rfl) (by kernel_rfl) (fun _ _ _ h => h) (Or.inl ⟨by kernel_rfl, by intro w hS; obtain ⟨⟨h0, h1, h2, h3, h4, h5⟩, _⟩ := hS.1.of6; go_simp⟩) hS ?_
          refine wpAnyH_take (i := 2) (v := .agg #[.int .i64 q, .string x, .bool b]) rfl (by kernel_rfl) (by kernel_rfl) (by kernel_rfl) (fun _ _ _ h => h) (Or.inl ⟨by kernel_rfl, by intro w hS; obtain ⟨⟨h0, h1, h2⟩, _⟩ := hS.2.o3; go_simp⟩) hS ?_
          refine wpAnyH_ready (rs := [1, 5]) (by kernel_rfl) (by simp) ?_
          refine AllReadyH.cons (i := 1) rfl (fun K hK => ?zy19) (AllReadyH.cons (i := 5) rfl (fun K hK => ?zy18) AllReadyH.nil)
          · rw [if_pos (by rfl)]
            go_simp
            clear hS
            refine (toSender_any u d t f g h _).mono ?_
            rintro e v110 ⟨rfl, hb⟩
            have B110 := Lib.hid (B109.out.trans (hb.mono B109.out.size))
            have Ka110 := Lib.hid (Ka109.out.below hb)
            have Kk110 := Lib.hid (Kk109.out.below hb)
            have Kx110 := Lib.hid (Kx109.out.below hb)
            clear hb B109 Ka109 Kk109 Kx109
            refine hK.out _ _ ⟨Ka110.out, Kk110.out⟩ (fun hS => ?_)
            clear hK K
            refine wpAnyH_ready (rs := [3, 5]) (by kernel_rfl) (by simp) ?_
            refine AllReadyH.cons (i := 3) rfl (fun K hK => ?zy21) (AllReadyH.cons (i := 5) rfl (fun K hK => ?zy20) AllReadyH.nil)
            · rw [if_pos (by rfl)]
              go_simp
              clear hS
              refine (toChunk_any q x b _).mono ?_
              rintro e v111 ⟨rfl, hb⟩
              have B111 := Lib.hid (B110.out.trans (hb.mono B110.out.size))
              have Ka111 := Lib.hid (Ka110.out.below hb)
              have Kk111 := Lib.hid (Kk110.out.below hb)
              have Kx111 := Lib.hid (Kx110.out.below hb)
              clear hb B110 Ka110 Kk110 Kx110
              refine hK.out _ _ ⟨Ka111.out, Kk111.out⟩ (fun hS => ?_)
              clear hK K
              refine wpAnyH_ready (rs := [4, 5]) (by kernel_rfl) (by simp) ?_
              refine AllReadyH.cons (i := 4) rfl (fun K hK => ?zy23) (AllReadyH.cons (i := 5) rfl (fun K hK => ?zy22) AllReadyH.nil)
              · rw [if_pos (by rfl)]
                go_simp
                clear hS
                refine (C2.out _).mono ?_
                rintro e v112 ⟨rfl, hb⟩
                have B112 := Lib.hid (B111.out.trans (hb.mono B111.out.size))
                have Ka112 := Lib.hid (Ka111.out.below hb)
                have Kk112 := Lib.hid (Kk111.out.below hb)
                have Kx112 := Lib.hid (Kx111.out.below hb)
                clear hb B111 Ka111 Kk111 Kx111
                refine hK.out _ _ ⟨Ka112.out, Kk112.out⟩ (fun hS => ?_)
                clear hK K
                refine wpAnyH_ready (rs := [5]) (by kernel_rfl) (by simp) ?_
                refine AllReadyH.cons (i := 5) rfl (fun K hK => ?zy24) AllReadyH.nil
                rw [if_pos (by rfl)]
                go_simp
                clear hS
                have B113 := Lib.hid (B112.out.alloc B112.out.size (.cells #[.int .i64 0, .string ⟨#[]⟩, .int .i64 0, .bool false, .bool false, .bool false] 25))
                have l_y : w.heap.size ≤ v112.heap.size := B112.out.size
                have n_a_y : g_a ≠ v112.heap.size := by have h1 := Ka112.out.lt; omega
                have n_k_y : g_k ≠ v112.heap.size := by have h1 := Kk112.out.lt; omega
                have n_x_y : g_x ≠ v112.heap.size := by have h1 := Kx112.out.lt; omega
                have Ka113 := Lib.hid (Ka112.out.alloc (.cells #[.int .i64 0, .string ⟨#[]⟩, .int .i64 0, .bool false, .bool false, .bool false] 25))
                have Kk113 := Lib.hid (Kk112.out.alloc (.cells #[.int .i64 0, .string ⟨#[]⟩, .int .i64 0, .bool false, .bool false, .bool false] 25))
                have Kx113 := Lib.hid (Kx112.out.alloc (.cells #[.int .i64 0, .string ⟨#[]⟩, .int .i64 0, .bool false, .bool false, .bool false] 25))
                have Ky113 := Lib.hid (Blk.new v112 [.int .i64 0, .string ⟨#[]⟩, .int .i64 0, .bool false, .bool false, .bool false] 25)
                clear B112 Ka112 Kk112 Kx112
                refine hK.out _ _ ⟨Ka113.out, Kk113.out⟩ (fun hS => ?_)
                clear hK K
                generalize v112.alloc (.cells #[.int .i64 0, .string ⟨#[]⟩, .int .i64 0, .bool false, .bool false, .bool false] 25) = v113 at hS B113 Ka113 Kk113 Kx113 Ky113 ⊢
                generalize v112.heap.size = g_y at Ky113 l_y n_a_y n_k_y n_x_y ⊢
                obtain ⟨⟨cy0, cy1, cy2, cy3, cy4, cy5⟩, dy0, dy1, dy2, dy3, dy4, dy5⟩ := Ky113.out.of6
                refine wpAnyH_ready (rs := [6]) (by kernel_rfl) (by simp) ?_
                refine AllReadyH.cons (i := 6) rfl (fun K hK => ?zy25) AllReadyH.nil
                rw [if_pos (by rfl)]
                go_simp
                clear hS
                have B114 := Lib.hid (show Below w.heap.size w ((((((v113.setCell ⟨g_y, 0, none⟩ (.int .i64 x0)).setCell ⟨g_y, 1, none⟩ (.string x1)).setCell ⟨g_y, 2, none⟩ (.int .i64 x2)).setCell ⟨g_y, 3, none⟩ (.bool x3)).setCell ⟨g_y, 4, none⟩ (.bool x4)).setCell ⟨g_y, 5, none⟩ (.bool x5)) from ((((((B113.out.setCell l_y (.int .i64 x0)).setCell l_y (.string x1)).setCell l_y (.int .i64 x2)).setCell l_y (.bool x3)).setCell l_y (.bool x4)).setCell l_y (.bool x5)))
                have Ka114 := Lib.hid (show Blk ((((((v113.setCell ⟨g_y, 0, none⟩ (.int .i64 x0)).setCell ⟨g_y, 1, none⟩ (.string x1)).setCell ⟨g_y, 2, none⟩ (.int .i64 x2)).setCell ⟨g_y, 3, none⟩ (.bool x3)).setCell ⟨g_y, 4, none⟩ (.bool x4)).setCell ⟨g_y, 5, none⟩ (.bool x5)) g_a [.int .i64 u, .string d, .int .i64 t, .bool f, .bool g, .bool h] from ((((((Ka113.out.setOther ⟨g_y, 0, none⟩ (.int .i64 x0) (n_a_y)).setOther ⟨g_y, 1, none⟩ (.string x1) (n_a_y)).setOther ⟨g_y, 2, none⟩ (.int .i64 x2) (n_a_y)).setOther ⟨g_y, 3, none⟩ (.bool x3) (n_a_y)).setOther ⟨g_y, 4, none⟩ (.bool x4) (n_a_y)).setOther ⟨g_y, 5, none⟩ (.bool x5) (n_a_y)))
                have Kk114 := Lib.hid (show Blk ((((((v113.setCell ⟨g_y, 0, none⟩ (.int .i64 x0)).setCell ⟨g_y, 1, none⟩ (.string x1)).setCell ⟨g_y, 2, none⟩ (.int .i64 x2)).setCell ⟨g_y, 3, none⟩ (.bool x3)).setCell ⟨g_y, 4, none⟩ (.bool x4)).setCell ⟨g_y, 5, none⟩ (.bool x5)) g_k [.int .i64 q, .string x, .bool b] from ((((((Kk113.out.setOther ⟨g_y, 0, none⟩ (.int .i64 x0) (n_k_y)).setOther ⟨g_y, 1, none⟩ (.string x1) (n_k_y)).setOther ⟨g_y, 2, none⟩ (.int .i64 x2) (n_k_y)).setOther ⟨g_y, 3, none⟩ (.bool x3) (n_k_y)).setOther ⟨g_y, 4, none⟩ (.bool x4) (n_k_y)).setOther ⟨g_y, 5, none⟩ (.bool x5) (n_k_y)))
                have Kx114 := Lib.hid (show Blk ((((((v113.setCell ⟨g_y, 0, none⟩ (.int .i64 x0)).setCell ⟨g_y, 1, none⟩ (.string x1)).setCell ⟨g_y, 2, none⟩ (.int .i64 x2)).setCell ⟨g_y, 3, none⟩ (.bool x3)).setCell ⟨g_y, 4, none⟩ (.bool x4)).setCell ⟨g_y, 5, none⟩ (.bool x5)) g_x [.int .i64 x0, .string x1, .int .i64 x2, .bool x3, .bool x4, .bool x5] from ((((((Kx113.out.setOther ⟨g_y, 0, none⟩ (.int .i64 x0) (n_x_y)).setOther ⟨g_y, 1, none⟩ (.string x1) (n_x_y)).setOther ⟨g_y, 2, none⟩ (.int .i64 x2) (n_x_y)).setOther ⟨g_y, 3, none⟩ (.bool x3) (n_x_y)).setOther ⟨g_y, 4, none⟩ (.bool x4) (n_x_y)).setOther ⟨g_y, 5, none⟩ (.bool x5) (n_x_y)))
                have Ky114 := Lib.hid (show Blk ((((((v113.setCell ⟨g_y, 0, none⟩ (.int .i64 x0)).setCell ⟨g_y, 1, none⟩ (.string x1)).setCell ⟨g_y, 2, none⟩ (.int .i64 x2)).setCell ⟨g_y, 3, none⟩ (.bool x3)).setCell ⟨g_y, 4, none⟩ (.bool x4)).setCell ⟨g_y, 5, none⟩ (.bool x5)) g_y [.int .i64 x0, .string x1, .int .i64 x2, .bool x3, .bool x4, .bool x5] from ((((((Ky113.out.set 0 (.int .i64 x0)).set 1 (.string x1)).set 2 (.int .i64 x2)).set 3 (.bool x3)).set 4 (.bool x4)).set 5 (.bool x5)))
                refine hK.out _ _ ⟨Ka114.out, Kk114.out⟩ (fun hS => ?_)
                clear hK K
                clear B113 Ka113 Kk113 Kx113 Ky113
                clear cy0 cy1 cy2 cy3 cy4 cy5 dy0 dy1 dy2 dy3 dy4 dy5
                generalize (((((v113.setCell ⟨g_y, 0, none⟩ (.int .i64 x0)).setCell ⟨g_y, 1, none⟩ (.string x1)).setCell ⟨g_y, 2, none⟩ (.int .i64 x2)).setCell ⟨g_y, 3, none⟩ (.bool x3)).setCell ⟨g_y, 4, none⟩ (.bool x4)).setCell ⟨g_y, 5, none⟩ (.bool x5) = v114 at hS B114 Ka114 Kk114 Kx114 Ky114 ⊢
                refine wpAnyH_done (by kernel_rfl) ?_ _
                refine NoPanic.normal ?_
                go_wp2_with fail
                go_meet
                case rel => exact ⟨g_y, rfl, B114, Ka114, Kk114, Kx114, Ky114, ⟨n_a_y, n_k_y, n_x_y, l_y⟩⟩
              · rw [if_pos (by rfl)]
                go_simp
                clear hS
                have B112 := Lib.hid (B111.out.alloc B111.out.size (.cells #[.int .i64 0, .string ⟨#[]⟩, .int .i64 0, .bool false, .bool false, .bool false] 25))
                have l_y : w.heap.size ≤ v111.heap.size := B111.out.size
                have n_a_y : g_a ≠ v111.heap.size := by have h1 := Ka111.out.lt; omega
                have n_k_y : g_k ≠ v111.heap.size := by have h1 := Kk111.out.lt; omega
                have n_x_y : g_x ≠ v111.heap.size := by have h1 := Kx111.out.lt; omega
                have Ka112 := Lib.hid (Ka111.out.alloc (.cells #[.int .i64 0, .string ⟨#[]⟩, .int .i64 0, .bool false, .bool false, .bool false] 25))
                have Kk112 := Lib.hid (Kk111.out.alloc (.cells #[.int .i64 0, .string ⟨#[]⟩, .int .i64 0, .bool false, .bool false, .bool false] 25))
                have Kx112 := Lib.hid (Kx111.out.alloc (.cells #[.int .i64 0, .string ⟨#[]⟩, .int .i64 0, .bool false, .bool false, .bool false] 25))
                have Ky112 := Lib.hid (Blk.new v111 [.int .i64 0, .string ⟨#[]⟩, .int .i64 0, .bool false, .bool false, .bool false] 25)
                clear B111 Ka111 Kk111 Kx111
                refine hK.out _ _ ⟨Ka112.out, Kk112.out⟩ (fun hS => ?_)
                clear hK K
                generalize v111.alloc (.cells #[.int .i64 0, .string ⟨#[]⟩, .int .i64 0, .bool false, .bool false, .bool false] 25) = v112 at hS B112 Ka112 Kk112 Kx112 Ky112 ⊢
                generalize v111.heap.size = g_y at Ky112 l_y n_a_y n_k_y n_x_y ⊢
                refine wpAnyH_ready (rs := [4]) (by kernel_rfl) (by simp) ?_
                refine AllReadyH.cons (i := 4) rfl (fun K hK => ?zy26) AllReadyH.nil
                rw [if_pos (by rfl)]
                go_simp
                clear hS
                refine (C2.out _).mono ?_
                rintro e v113 ⟨rfl, hb⟩
                have B113 := Lib.hid (B112.out.trans (hb.mono B112.out.size))
                have Ka113 := Lib.hid (Ka112.out.below hb)
                have Kk113 := Lib.hid (Kk112.out.below hb)
                have Kx113 := Lib.hid (Kx112.out.below hb)
                have Ky113 := Lib.hid (Ky112.out.below hb)
                clear hb B112 Ka112 Kk112 Kx112 Ky112
                refine hK.out _ _ ⟨Ka113.out, Kk113.out⟩ (fun hS => ?_)
                clear hK K
                obtain ⟨⟨cy0, cy1, cy2, cy3, cy4, cy5⟩, dy0, dy1, dy2, dy3, dy4, dy5⟩ := Ky113.out.of6
                refine wpAnyH_ready (rs := [6]) (by kernel_rfl) (by simp) ?_
                refine AllReadyH.cons (i := 6) rfl (fun K hK => ?zy27) AllReadyH.nil
                rw [if_pos (by rfl)]
                go_simp
                clear hS
                have B114 := Lib.hid (show Below w.heap.size w ((((((v113.setCell ⟨g_y, 0, none⟩ (.int .i64 x0)).setCell ⟨g_y, 1, none⟩ (.string x1)).setCell ⟨g_y, 2, none⟩ (.int .i64 x2)).setCell ⟨g_y, 3, none⟩ (.bool x3)).setCell ⟨g_y, 4, none⟩ (.bool x4)).setCell ⟨g_y, 5, none⟩ (.bool x5)) from ((((((B113.out.setCell l_y (.int .i64 x0)).setCell l_y (.string x1)).setCell l_y (.int .i64 x2)).setCell l_y (.bool x3)).setCell l_y (.bool x4)).setCell l_y (.bool x5)))
                have Ka114 := Lib.hid (show Blk ((((((v113.setCell ⟨g_y, 0, none⟩ (.int .i64 x0)).setCell ⟨g_y, 1, none⟩ (.string x1)).setCell ⟨g_y, 2, none⟩ (.int .i64 x2)).setCell ⟨g_y, 3, none⟩ (.bool x3)).setCell ⟨g_y, 4, none⟩ (.bool x4)).setCell ⟨g_y, 5, none⟩ (.bool x5)) g_a [.int .i64 u, .string d, .int .i64 t, .bool f, .bool g, .bool h] from ((((((Ka113.out.setOther ⟨g_y, 0, none⟩ (.int .i64 x0) (n_a_y)).setOther ⟨g_y, 1, none⟩ (.string x1) (n_a_y)).setOther ⟨g_y, 2, none⟩ (.int .i64 x2) (n_a_y)).setOther ⟨g_y, 3, none⟩ (.bool x3) (n_a_y)).setOther ⟨g_y, 4, none⟩ (.bool x4) (n_a_y)).setOther ⟨g_y, 5, none⟩ (.bool x5) (n_a_y)))
                have Kk114 := Lib.hid (show Blk ((((((v113.setCell ⟨g_y, 0, none⟩ (.int .i64 x0)).setCell ⟨g_y, 1, none⟩ (.string x1)).setCell ⟨g_y, 2, none⟩ (.int .i64 x2)).setCell ⟨g_y, 3, none⟩ (.bool x3)).setCell ⟨g_y, 4, none⟩ (.bool x4)).setCell ⟨g_y, 5, none⟩ (.bool x5)) g_k [.int .i64 q, .string x, .bool b] from ((((((Kk113.out.setOther ⟨g_y, 0, none⟩ (.int .i64 x0) (n_k_y)).setOther ⟨g_y, 1, none⟩ (.string x1) (n_k_y)).setOther ⟨g_y, 2, none⟩ (.int .i64 x2) (n_k_y)).setOther ⟨g_y, 3, none⟩ (.bool x3) (n_k_y)).setOther ⟨g_y, 4, none⟩ (.bool x4) (n_k_y)).setOther ⟨g_y, 5, none⟩ (.bool x5) (n_k_y)))
                have Kx114 := Lib.hid (show Blk ((((((v113.setCell ⟨g_y, 0, none⟩ (.int .i64 x0)).setCell ⟨g_y, 1, none⟩ (.string x1)).setCell ⟨g_y, 2, none⟩ (.int .i64 x2)).setCell ⟨g_y, 3, none⟩ (.bool x3)).setCell ⟨g_y, 4, none⟩ (.bool x4)).setCell ⟨g_y, 5, none⟩ (.bool x5)) g_x [.int .i64 x0, .string x1, .int .i64 x2, .bool x3, .bool x4, .bool x5] from ((((((Kx113.out.setOther ⟨g_y, 0, none⟩ (.int .i64 x0) (n_x_y)).setOther ⟨g_y, 1, none⟩ (.string x1) (n_x_y)).setOther ⟨g_y, 2, none⟩ (.int .i64 x2) (n_x_y)).setOther ⟨g_y, 3, none⟩ (.bool x3) (n_x_y)).setOther ⟨g_y, 4, none⟩ (.bool x4) (n_x_y)).setOther ⟨g_y, 5, none⟩ (.bool x5) (n_x_y)))
                have Ky114 := Lib.hid (show Blk ((((((v113.setCell ⟨g_y, 0, none⟩ (.int .i64 x0)).setCell ⟨g_y, 1, none⟩ (.string x1)).setCell ⟨g_y, 2, none⟩ (.int .i64 x2)).setCell ⟨g_y, 3, none⟩ (.bool x3)).setCell ⟨g_y, 4, none⟩ (.bool x4)).setCell ⟨g_y, 5, none⟩ (.bool x5)) g_y [.int .i64 x0, .string x1, .int .i64 x2, .bool x3, .bool x4, .bool x5] from ((((((Ky113.out.set 0 (.int .i64 x0)).set 1 (.string x1)).set 2 (.int .i64 x2)).set 3 (.bool x3)).set 4 (.bool x4)).set 5 (.bool x5)))
                refine hK.out _ _ ⟨Ka114.out, Kk114.out⟩ (fun hS => ?_)
                clear hK K
                clear B113 Ka113 Kk113 Kx113 Ky113
                clear cy0 cy1 cy2 cy3 cy4 cy5 dy0 dy1 dy2 dy3 dy4 dy5
                generalize (((((v113.setCell ⟨g_y, 0, none⟩ (.int .i64 x0)).setCell ⟨g_y, 1, none⟩ (.string x1)).setCell ⟨g_y, 2, none⟩ (.int .i64 x2)).setCell ⟨g_y, 3, none⟩ (.bool x3)).setCell ⟨g_y, 4, none⟩ (.bool x4)).setCell ⟨g_y, 5, none⟩ (.bool x5) = v114 at hS B114 Ka114 Kk114 Kx114 Ky114 ⊢
                refine wpAnyH_done (by kernel_rfl) ?_ _
                refine NoPanic.normal ?_
                go_wp2_with fail
                go_meet
                case rel => exact ⟨g_y, rfl, B114, Ka114, Kk114, Kx114, Ky114, ⟨n_a_y, n_k_y, n_x_y, l_y⟩⟩
            · rw [if_pos (by rfl)]
              go_simp
              clear hS
              have B111 := Lib.hid (B110.out.alloc B110.out.size (.cells #[.int .i64 0, .string ⟨#[]⟩, .int .i64 0, .bool false, .bool false, .bool false] 25))
              have l_y : w.heap.size ≤ v110.heap.size := B110.out.size
              have n_a_y : g_a ≠ v110.heap.size := by have h1 := Ka110.out.lt; omega
              have n_k_y : g_k ≠ v110.heap.size := by have h1 := Kk110.out.lt; omega
              have n_x_y : g_x ≠ v110.heap.size := by have h1 := Kx110.out.lt; omega
              have Ka111 := Lib.hid (Ka110.out.alloc (.cells #[.int .i64 0, .string ⟨#[]⟩, .int .i64 0, .bool false, .bool false, .bool false] 25))
              have Kk111 := Lib.hid (Kk110.out.alloc (.cells #[.int .i64 0, .string ⟨#[]⟩, .int .i64 0, .bool false, .bool false, .bool false] 25))
              have Kx111 := Lib.hid (Kx110.out.alloc (.cells #[.int .i64 0, .string ⟨#[]⟩, .int .i64 0, .bool false, .bool false, .bool false] 25))
              have Ky111 := Lib.hid (Blk.new v110 [.int .i64 0, .string ⟨#[]⟩, .int .i64 0, .bool false, .bool false, .bool false] 25)
              clear B110 Ka110 Kk110 Kx110
              refine hK.out _ _ ⟨Ka111.out, Kk111.out⟩ (fun hS => ?_)
              clear hK K
              generalize v110.alloc (.cells #[.int .i64 0, .string ⟨#[]⟩, .int .i64 0, .bool false, .bool false, .bool false] 25) = v111 at hS B111 Ka111 Kk111 Kx111 Ky111 ⊢
              generalize v110.heap.size = g_y at Ky111 l_y n_a_y n_k_y n_x_y ⊢
              refine wpAnyH_ready (rs := [3]) (by kernel_rfl) (by simp) ?_
              refine AllReadyH.cons (i := 3) rfl (fun K hK => ?zy28) AllReadyH.nil
              rw [if_pos (by rfl)]
              go_simp
              clear hS
              refine (toChunk_any q x b _).mono ?_
              rintro e v112 ⟨rfl, hb⟩
              have B112 := Lib.hid (B111.out.trans (hb.mono B111.out.size))
              have Ka112 := Lib.hid (Ka111.out.below hb)
              have Kk112 := Lib.hid (Kk111.out.below hb)
              have Kx112 := Lib.hid (Kx111.out.below hb)
              have Ky112 := Lib.hid (Ky111.out.below hb)
              clear hb B111 Ka111 Kk111 Kx111 Ky111
              refine hK.out _ _ ⟨Ka112.out, Kk112.out⟩ (fun hS => ?_)
              clear hK K
              refine wpAnyH_ready (rs := [4]) (by kernel_rfl) (by simp) ?_
              refine AllReadyH.cons (i := 4) rfl (fun K hK => ?zy29) AllReadyH.nil
              rw [if_pos (by rfl)]
              go_simp
              clear hS
              refine (C2.out _).mono ?_
              rintro e v113 ⟨rfl, hb⟩
              have B113 := Lib.hid (B112.out.trans (hb.mono B112.out.size))
              have Ka113 := Lib.hid (Ka112.out.below hb)
              have Kk113 := Lib.hid (Kk112.out.below hb)
              have Kx113 := Lib.hid (Kx112.out.below hb)
              have Ky113 := Lib.hid (Ky112.out.below hb)
              clear hb B112 Ka112 Kk112 Kx112 Ky112
              refine hK.out _ _ ⟨Ka113.out, Kk113.out⟩ (fun hS => ?_)
              clear hK K
              obtain ⟨⟨cy0, cy1, cy2, cy3, cy4, cy5⟩, dy0, dy1, dy2, dy3, dy4, dy5⟩ := Ky113.out.of6
              refine wpAnyH_ready (rs := [6]) (by kernel_rfl) (by simp) ?_
              refine AllReadyH.cons (i := 6) rfl (fun K hK => ?zy30) AllReadyH.nil
              rw [if_pos (by rfl)]
              go_simp
              clear hS
              have B114 := Lib.hid (show Below w.heap.size w ((((((v113.setCell ⟨g_y, 0, none⟩ (.int .i64 x0)).setCell ⟨g_y, 1, none⟩ (.string x1)).setCell ⟨g_y, 2, none⟩ (.int .i64 x2)).setCell ⟨g_y, 3, none⟩ (.bool x3)).setCell ⟨g_y, 4, none⟩ (.bool x4)).setCell ⟨g_y, 5, none⟩ (.bool x5)) from ((((((B113.out.setCell l_y (.int .i64 x0)).setCell l_y (.string x1)).setCell l_y (.int .i64 x2)).setCell l_y (.bool x3)).setCell l_y (.bool x4)).setCell l_y (.bool x5)))
              have Ka114 := Lib.hid (show Blk ((((((v113.setCell ⟨g_y, 0, none⟩ (.int .i64 x0)).setCell ⟨g_y, 1, none⟩ (.string x1)).setCell ⟨g_y, 2, none⟩ (.int .i64 x2)).setCell ⟨g_y, 3, none⟩ (.bool x3)).setCell ⟨g_y, 4, none⟩ (.bool x4)).setCell ⟨g_y, 5, none⟩ (.bool x5)) g_a [.int .i64 u, .string d, .int .i64 t, .bool f, .bool g, .bool h] from ((((((Ka113.out.setOther ⟨g_y, 0, none⟩ (.int .i64 x0) (n_a_y)).setOther ⟨g_y, 1, none⟩ (.string x1) (n_a_y)).setOther ⟨g_y, 2, none⟩ (.int .i64 x2) (n_a_y)).setOther ⟨g_y, 3, none⟩ (.bool x3) (n_a_y)).setOther ⟨g_y, 4, none⟩ (.bool x4) (n_a_y)).setOther ⟨g_y, 5, none⟩ (.bool x5) (n_a_y)))
              have Kk114 := Lib.hid (show Blk ((((((v113.setCell ⟨g_y, 0, none⟩ (.int .i64 x0)).setCell ⟨g_y, 1, none⟩ (.string x1)).setCell ⟨g_y, 2, none⟩ (.int .i64 x2)).setCell ⟨g_y, 3, none⟩ (.bool x3)).setCell ⟨g_y, 4, none⟩ (.bool x4)).setCell ⟨g_y, 5, none⟩ (.bool x5)) g_k [.int .i64 q, .string x, .bool b] from ((((((Kk113.out.setOther ⟨g_y, 0, none⟩ (.int .i64 x0) (n_k_y)).setOther ⟨g_y, 1, none⟩ (.string x1) (n_k_y)).setOther ⟨g_y, 2, none⟩ (.int .i64 x2) (n_k_y)).setOther ⟨g_y, 3, none⟩ (.bool x3) (n_k_y)).setOther ⟨g_y, 4, none⟩ (.bool x4) (n_k_y)).setOther ⟨g_y, 5, none⟩ (.bool x5) (n_k_y)))
              have Kx114 := Lib.hid (show Blk ((((((v113.setCell ⟨g_y, 0, none⟩ (.int .i64 x0)).setCell ⟨g_y, 1, none⟩ (.string x1)).setCell ⟨g_y, 2, none⟩ (.int .i64 x2)).setCell ⟨g_y, 3, none⟩ (.bool x3)).setCell ⟨g_y, 4, none⟩ (.bool x4)).setCell ⟨g_y, 5, none⟩ (.bool x5)) g_x [.int .i64 x0, .string x1, .int .i64 x2, .bool x3, .bool x4, .bool x5] from ((((((Kx113.out.setOther ⟨g_y, 0, none⟩ (.int .i64 x0) (n_x_y)).setOther ⟨g_y, 1, none⟩ (.string x1) (n_x_y)).setOther ⟨g_y, 2, none⟩ (.int .i64 x2) (n_x_y)).setOther ⟨g_y, 3, none⟩ (.bool x3) (n_x_y)).setOther ⟨g_y, 4, none⟩ (.bool x4) (n_x_y)).setOther ⟨g_y, 5, none⟩ (.bool x5) (n_x_y)))
              have Ky114 := Lib.hid (show Blk ((((((v113.setCell ⟨g_y, 0, none⟩ (.int .i64 x0)).setCell ⟨g_y, 1, none⟩ (.string x1)).setCell ⟨g_y, 2, none⟩ (.int .i64 x2)).setCell ⟨g_y, 3, none⟩ (.bool x3)).setCell ⟨g_y, 4, none⟩ (.bool x4)).setCell ⟨g_y, 5, none⟩ (.bool x5)) g_y [.int .i64 x0, .string x1, .int .i64 x2, .bool x3, .bool x4, .bool x5] from ((((((Ky113.out.set 0 (.int .i64 x0)).set 1 (.string x1)).set 2 (.int .i64 x2)).set 3 (.bool x3)).set 4 (.bool x4)).set 5 (.bool x5)))
              refine hK.out _ _ ⟨Ka114.out, Kk114.out⟩ (fun hS => ?_)
              clear hK K
              clear B113 Ka113 Kk113 Kx113 Ky113
              clear cy0 cy1 cy2 cy3 cy4 cy5 dy0 dy1 dy2 dy3 dy4 dy5
              generalize (((((v113.setCell ⟨g_y, 0, none⟩ (.int .i64 x0)).setCell ⟨g_y, 1, none⟩ (.string x1)).setCell ⟨g_y, 2, none⟩ (.int .i64 x2)).setCell ⟨g_y, 3, none⟩ (.bool x3)).setCell ⟨g_y, 4, none⟩ (.bool x4)).setCell ⟨g_y, 5, none⟩ (.bool x5) = v114 at hS B114 Ka114 Kk114 Kx114 Ky114 ⊢
              refine wpAnyH_done (by kernel_rfl) ?_ _
              refine NoPanic.normal ?_
              go_wp2_with fail
              go_meet
              case rel => exact ⟨g_y, rfl, B114, Ka114, Kk114, Kx114, Ky114, ⟨n_a_y, n_k_y, n_x_y, l_y⟩⟩
          · rw [if_pos (by rfl)]
            go_simp
            clear hS
            have B110 := Lib.hid (B109.out.alloc B109.out.size (.cells #[.int .i64 0, .string ⟨#[]⟩, .int .i64 0, .bool false, .bool false, .bool false] 25))
            have l_y : w.heap.size ≤ v109.heap.size := B109.out.size
            have n_a_y : g_a ≠ v109.heap.size := by have h1 := Ka109.out.lt; omega
            have n_k_y : g_k ≠ v109.heap.size := by have h1 := Kk109.out.lt; omega
            have n_x_y : g_x ≠ v109.heap.size := by have h1 := Kx109.out.lt; omega
            have Ka110 := Lib.hid (Ka109.out.alloc (.cells #[.int .i64 0, .string ⟨#[]⟩, .int .i64 0, .bool false, .bool false, .bool false] 25))
            have Kk110 := Lib.hid (Kk109.out.alloc (.cells #[.int .i64 0, .string ⟨#[]⟩, .int .i64 0, .bool false, .bool false, .bool false] 25))
            have Kx110 := Lib.hid (Kx109.out.alloc (.cells #[.int .i64 0, .string ⟨#[]⟩, .int .i64 0, .bool false, .bool false, .bool false] 25))
            have Ky110 := Lib.hid (Blk.new v109 [.int .i64 0, .string ⟨#[]⟩, .int .i64 0, .bool false, .bool false, .bool false] 25)
            clear B109 Ka109 Kk109 Kx109
            refine hK.out _ _ ⟨Ka110.out, Kk110.out⟩ (fun hS => ?_)
            clear hK K
            generalize v109.alloc (.cells #[.int .i64 0, .string ⟨#[]⟩, .int .i64 0, .bool false, .bool false, .bool false] 25) = v110 at hS B110 Ka110 Kk110 Kx110 Ky110 ⊢
            generalize v109.heap.size = g_y at Ky110 l_y n_a_y n_k_y n_x_y ⊢
            refine wpAnyH_ready (rs := [1]) (by kernel_rfl) (by simp) ?_
            refine AllReadyH.cons (i := 1) rfl (fun K hK => ?zy31) AllReadyH.nil
            rw [if_pos (by rfl)]
            go_simp
            clear hS
            refine (toSender_any u d t f g h _).mono ?_
            rintro e v111 ⟨rfl, hb⟩
            have B111 := Lib.hid (B110.out.trans (hb.mono B110.out.size))
            have Ka111 := Lib.hid (Ka110.out.below hb)
            have Kk111 := Lib.hid (Kk110.out.below hb)
            have Kx111 := Lib.hid (Kx110.out.below hb)
            have Ky111 := Lib.hid (Ky110.out.below hb)
            clear hb B110 Ka110 Kk110 Kx110 Ky110
            refine hK.out _ _ ⟨Ka111.out, Kk111.out⟩ (fun hS => ?_)
            clear hK K
            refine wpAnyH_ready (rs := [3]) (by kernel_rfl) (by simp) ?_
            refine AllReadyH.cons (i := 3) rfl (fun K hK => ?zy32) AllReadyH.nil
            rw [if_pos (by rfl)]
            go_simp
            clear hS
            refine (toChunk_any q x b _).mono ?_
            rintro e v112 ⟨rfl, hb⟩
            have B112 := Lib.hid (B111.out.trans (hb.mono B111.out.size))
            have Ka112 := Lib.hid (Ka111.out.below hb)
            have Kk112 := Lib.hid (Kk111.out.below hb)
            have Kx112 := Lib.hid (Kx111.out.below hb)
            have Ky112 := Lib.hid (Ky111.out.below hb)
            clear hb B111 Ka111 Kk111 Kx111 Ky111
            refine hK.out _ _ ⟨Ka112.out, Kk112.out⟩ (fun hS => ?_)
            clear hK K
            refine wpAnyH_ready (rs := [4]) (by kernel_rfl) (by simp) ?_
            refine AllReadyH.cons (i := 4) rfl (fun K hK => ?zy33) AllReadyH.nil
            rw [if_pos (by rfl)]
            go_simp
            clear hS
            refine (C2.out _).mono ?_
            rintro e v113 ⟨rfl, hb⟩
            have B113 := Lib.hid (B112.out.trans (hb.mono B112.out.size))
            have Ka113 := Lib.hid (Ka112.out.below hb)
            have Kk113 := Lib.hid (Kk112.out.below hb)
            have Kx113 := Lib.hid (Kx112.out.below hb)
            have Ky113 := Lib.hid (Ky112.out.below hb)
            clear hb B112 Ka112 Kk112 Kx112 Ky112
            refine hK.out _ _ ⟨Ka113.out, Kk113.out⟩ (fun hS => ?_)
            clear hK K
            obtain ⟨⟨cy0, cy1, cy2, cy3, cy4, cy5⟩, dy0, dy1, dy2, dy3, dy4, dy5⟩ := Ky113.out.of6
            refine wpAnyH_ready (rs := [6]) (by kernel_rfl) (by simp) ?_
            refine AllReadyH.cons (i := 6) rfl (fun K hK => ?zy34) AllReadyH.nil
            rw [if_pos (by rfl)]
            go_simp
            clear hS
            have B114 := Lib.hid (show Below w.heap.size w ((((((v113.setCell ⟨g_y, 0, none⟩ (.int .i64 x0)).setCell ⟨g_y, 1, none⟩ (.string x1)).setCell ⟨g_y, 2, none⟩ (.int .i64 x2)).setCell ⟨g_y, 3, none⟩ (.bool x3)).setCell ⟨g_y, 4, none⟩ (.bool x4)).setCell ⟨g_y, 5, none⟩ (.bool x5)) from ((((((B113.out.setCell l_y (.int .i64 x0)).setCell l_y (.string x1)).setCell l_y (.int .i64 x2)).setCell l_y (.bool x3)).setCell l_y (.bool x4)).setCell l_y (.bool x5)))
            have Ka114 := Lib.hid (show Blk ((((((v113.setCell ⟨g_y, 0, none⟩ (.int .i64 x0)).setCell ⟨g_y, 1, none⟩ (.string x1)).setCell ⟨g_y, 2, none⟩ (.int .i64 x2)).setCell ⟨g_y, 3, none⟩ (.bool x3)).setCell ⟨g_y, 4, none⟩ (.bool x4)).setCell ⟨g_y, 5, none⟩ (.bool x5)) g_a [.int .i64 u, .string d, .int .i64 t, .bool f, .bool g, .bool h] from ((((((Ka113.out.setOther ⟨g_y, 0, none⟩ (.int .i64 x0) (n_a_y)).setOther ⟨g_y, 1, none⟩ (.string x1) (n_a_y)).setOther ⟨g_y, 2, none⟩ (.int .i64 x2) (n_a_y)).setOther ⟨g_y, 3, none⟩ (.bool x3) (n_a_y)).setOther ⟨g_y, 4, none⟩ (.bool x4) (n_a_y)).setOther ⟨g_y, 5, none⟩ (.bool x5) (n_a_y)))
            have Kk114 := Lib.hid (show Blk ((((((v113.setCell ⟨g_y, 0, none⟩ (.int .i64 x0)).setCell ⟨g_y, 1, none⟩ (.string x1)).setCell ⟨g_y, 2, none⟩ (.int .i64 x2)).setCell ⟨g_y, 3, none⟩ (.bool x3)).setCell ⟨g_y, 4, none⟩ (.bool x4)).setCell ⟨g_y, 5, none⟩ (.bool x5)) g_k [.int .i64 q, .string x, .bool b] from ((((((Kk113.out.setOther ⟨g_y, 0, none⟩ (.int .i64 x0) (n_k_y)).setOther ⟨g_y, 1, none⟩ (.string x1) (n_k_y)).setOther ⟨g_y, 2, none⟩ (.int .i64 x2) (n_k_y)).setOther ⟨g_y, 3, none⟩ (.bool x3) (n_k_y)).setOther ⟨g_y, 4, none⟩ (.bool x4) (n_k_y)).setOther ⟨g_y, 5, none⟩ (.bool x5) (n_k_y)))
            have Kx114 := Lib.hid (show Blk ((((((v113.setCell ⟨g_y, 0, none⟩ (.int .i64 x0)).setCell ⟨g_y, 1, none⟩ (.string x1)).setCell ⟨g_y, 2, none⟩ (.int .i64 x2)).setCell ⟨g_y, 3, none⟩ (.bool x3)).setCell ⟨g_y, 4, none⟩ (.bool x4)).setCell ⟨g_y, 5, none⟩ (.bool x5)) g_x [.int .i64 x0, .string x1, .int .i64 x2, .bool x3, .bool x4, .bool x5] from ((((((Kx113.out.setOther ⟨g_y, 0, none⟩ (.int .i64 x0) (n_x_y)).setOther ⟨g_y, 1, none⟩ (.string x1) (n_x_y)).setOther ⟨g_y, 2, none⟩ (.int .i64 x2) (n_x_y)).setOther ⟨g_y, 3, none⟩ (.bool x3) (n_x_y)).setOther ⟨g_y, 4, none⟩ (.bool x4) (n_x_y)).setOther ⟨g_y, 5, none⟩ (.bool x5) (n_x_y)))
            have Ky114 := Lib.hid (show Blk ((((((v113.setCell ⟨g_y, 0, none⟩ (.int .i64 x0)).setCell ⟨g_y, 1, none⟩ (.string x1)).setCell ⟨g_y, 2, none⟩ (.int .i64 x2)).setCell ⟨g_y, 3, none⟩ (.bool x3)).setCell ⟨g_y, 4, none⟩ (.bool x4)).setCell ⟨g_y, 5, none⟩ (.bool x5)) g_y [.int .i64 x0, .string x1, .int .i64 x2, .bool x3, .bool x4, .bool x5] from ((((((Ky113.out.set 0 (.int .i64 x0)).set 1 (.string x1)).set 2 (.int .i64 x2)).set 3 (.bool x3)).set 4 (.bool x4)).set 5 (.bool x5)))
            refine hK.out _ _ ⟨Ka114.out, Kk114.out⟩ (fun hS => ?_)
            clear hK K
            clear B113 Ka113 Kk113 Kx113 Ky113
            clear cy0 cy1 cy2 cy3 cy4 cy5 dy0 dy1 dy2 dy3 dy4 dy5
            generalize (((((v113.setCell ⟨g_y, 0, none⟩ (.int .i64 x0)).setCell ⟨g_y, 1, none⟩ (.string x1)).setCell ⟨g_y, 2, none⟩ (.int .i64 x2)).setCell ⟨g_y, 3, none⟩ (.bool x3)).setCell ⟨g_y, 4, none⟩ (.bool x4)).setCell ⟨g_y, 5, none⟩ (.bool x5) = v114 at hS B114 Ka114 Kk114 Kx114 Ky114 ⊢
            refine wpAnyH_done (by kernel_rfl) ?_ _
            refine NoPanic.normal ?_
            go_wp2_with fail
            go_meet
            case rel => exact ⟨g_y, rfl, B114, Ka114, Kk114, Kx114, Ky114, ⟨n_a_y, n_k_y, n_x_y, l_y⟩⟩
        case rest =>
          clear B108 Ka108 Kk108 Kx108
          obtain ⟨g_y, rfl, B109, Ka109, Kk109, Kx109, Ky109, ⟨n_a_y, n_k_y, n_x_y, l_y⟩⟩ := hcut
          generalize wc = wc_9 at B109 Ka109 Kk109 Kx109 Ky109 ⊢
          obtain ⟨⟨ca0, ca1, ca2, ca3, ca4, ca5⟩, da0, da1, da2, da3, da4, da5⟩ := Ka109.out.of6
          obtain ⟨⟨ck0, ck1, ck2⟩, dk0, dk1, dk2⟩ := Kk109.out.o3
          obtain ⟨⟨cx0, cx1, cx2, cx3, cx4, cx5⟩, dx0, dx1, dx2, dx3, dx4, dx5⟩ := Kx109.out.of6
          obtain ⟨⟨cy0, cy1, cy2, cy3, cy4, cy5⟩, dy0, dy1, dy2, dy3, dy4, dy5⟩ := Ky109.out.of6
          go_wp2_with fail
          clear ca0 ca1 ca2 ca3 ca4 ca5 da0 da1 da2 da3 da4 da5 ck0 ck1 ck2 dk0 dk1 dk2 cx0 cx1 cx2 cx3 cx4 cx5 dx0 dx1 dx2 dx3 dx4 dx5 cy0 cy1 cy2 cy3 cy4 cy5 dy0 dy1 dy2 dy3 dy4 dy5
          refine (eqSender_self x0 x1 x2 x3 x4 x5 _).mono ?_
          rintro e v110 ⟨rfl, hb⟩
          have B110 := Lib.hid (B109.out.trans (hb.mono B109.out.size))
          have Ka110 := Lib.hid (Ka109.out.below hb)
          have Kk110 := Lib.hid (Kk109.out.below hb)
          have Kx110 := Lib.hid (Kx109.out.below hb)
          have Ky110 := Lib.hid (Ky109.out.below hb)
          clear hb B109 Ka109 Kk109 Kx109 Ky109
          obtain ⟨⟨ca0, ca1, ca2, ca3, ca4, ca5⟩, da0, da1, da2, da3, da4, da5⟩ := Ka110.out.of6
          obtain ⟨⟨ck0, ck1, ck2⟩, dk0, dk1, dk2⟩ := Kk110.out.o3
          obtain ⟨⟨cx0, cx1, cx2, cx3, cx4, cx5⟩, dx0, dx1, dx2, dx3, dx4, dx5⟩ := Kx110.out.of6
          obtain ⟨⟨cy0, cy1, cy2, cy3, cy4, cy5⟩, dy0, dy1, dy2, dy3, dy4, dy5⟩ := Ky110.out.of6
          go_wp2_with fail
          go_ret
          exact ⟨rfl, B110.out⟩
    case neg =>
      have HS2 := Lib.hid (Int.not_le.1 hs2)
      replace hsz := Lib.hid hsz
      go_enter Try.func10, Try.ntmps10
      have B0 := Lib.hid (show Below w.heap.size w ((w.alloc (.cells #[.int .i64 u, .string d, .int .i64 t, .bool f, .bool g, .bool h] 46)).alloc (.cells #[.int .i64 q, .string x, .bool b] 54)) from (((Below.refl _ w).alloc (by simp) _).alloc (by simp) _))
      have Ka0 := Lib.hid (show Blk ((w.alloc (.cells #[.int .i64 u, .string d, .int .i64 t, .bool f, .bool g, .bool h] 46)).alloc (.cells #[.int .i64 q, .string x, .bool b] 54)) (w.heap.size) [.int .i64 u, .string d, .int .i64 t, .bool f, .bool g, .bool h] from (Blk.new w [.int .i64 u, .string d, .int .i64 t, .bool f, .bool g, .bool h] 46).alloc (.cells #[.int .i64 q, .string x, .bool b] 54))
      have s1 : (w.alloc (.cells #[.int .i64 u, .string d, .int .i64 t, .bool f, .bool g, .bool h] 46)).heap.size = w.heap.size + 1 := by simp
      have Kk0 := Lib.hid (show Blk ((w.alloc (.cells #[.int .i64 u, .string d, .int .i64 t, .bool f, .bool g, .bool h] 46)).alloc (.cells #[.int .i64 q, .string x, .bool b] 54)) (w.heap.size + 1) [.int .i64 q, .string x, .bool b] by have h0 := Blk.new (w.alloc (.cells #[.int .i64 u, .string d, .int .i64 t, .bool f, .bool g, .bool h] 46)) [.int .i64 q, .string x, .bool b] 54; rwa [s1] at h0)
      have n_a_k : w.heap.size ≠ w.heap.size + 1 := by omega
      clear s1
      go_wp2_with fail
      change Calls _ _ _ ((w.alloc (.cells #[.int .i64 u, .string d, .int .i64 t, .bool f, .bool g, .bool h] 46)).alloc (.cells #[.int .i64 q, .string x, .bool b] 54)) _
      generalize (w.alloc (.cells #[.int .i64 u, .string d, .int .i64 t, .bool f, .bool g, .bool h] 46)).alloc (.cells #[.int .i64 q, .string x, .bool b] 54) = v0 at B0 Ka0 Kk0 ⊢
      generalize hh_k : w.heap.size + 1 = g_k at Kk0 n_a_k ⊢
      generalize hh_a : w.heap.size = g_a at Ka0 n_a_k ⊢
      have l_a : w.heap.size ≤ g_a := by omega
      have l_k : w.heap.size ≤ g_k := by omega
      clear hh_a hh_k
      refine (szSender_yes u d t f g h 1048576 _ (by decide) hsz.out).mono ?_
      rintro e v1 ⟨rfl, hb⟩
      have B1 := Lib.hid (B0.out.trans (hb.mono B0.out.size))
      have Ka1 := Lib.hid (Ka0.out.below hb)
      have Kk1 := Lib.hid (Kk0.out.below hb)
      clear hb B0 Ka0 Kk0
      have hn : ¬ (1048576 : Int) - d.size < 0 := by have := hsz.out; omega
      obtain ⟨⟨ca0, ca1, ca2, ca3, ca4, ca5⟩, da0, da1, da2, da3, da4, da5⟩ := Ka1.out.of6
      obtain ⟨⟨ck0, ck1, ck2⟩, dk0, dk1, dk2⟩ := Kk1.out.o3
      go_wp2_with fail
      clear ca0 ca1 ca2 ca3 ca4 ca5 da0 da1 da2 da3 da4 da5 ck0 ck1 ck2 dk0 dk1 dk2
      refine (szChunk_no q x b (1048576 - d.size) _ (by have := hsz.out; omega) hx (by have := HS2.out; omega)).mono ?_
      rintro e v2 ⟨rfl, hb⟩
      have B2 := Lib.hid (B1.out.trans (hb.mono B1.out.size))
      have Ka2 := Lib.hid (Ka1.out.below hb)
      have Kk2 := Lib.hid (Kk1.out.below hb)
      clear hb B1 Ka1 Kk1
      clear HS2 hn hs2
      obtain ⟨⟨ca0, ca1, ca2, ca3, ca4, ca5⟩, da0, da1, da2, da3, da4, da5⟩ := Ka2.out.of6
      obtain ⟨⟨ck0, ck1, ck2⟩, dk0, dk1, dk2⟩ := Kk2.out.o3
      go_wp2_with fail
      go_ret
      exact ⟨rfl, B2.out⟩
  case neg =>
    go_enter Try.func10, Try.ntmps10
    have B0 := Lib.hid (show Below w.heap.size w ((w.alloc (.cells #[.int .i64 u, .string d, .int .i64 t, .bool f, .bool g, .bool h] 46)).alloc (.cells #[.int .i64 q, .string x, .bool b] 54)) from (((Below.refl _ w).alloc (by simp) _).alloc (by simp) _))
    have Ka0 := Lib.hid (show Blk ((w.alloc (.cells #[.int .i64 u, .string d, .int .i64 t, .bool f, .bool g, .bool h] 46)).alloc (.cells #[.int .i64 q, .string x, .bool b] 54)) (w.heap.size) [.int .i64 u, .string d, .int .i64 t, .bool f, .bool g, .bool h] from (Blk.new w [.int .i64 u, .string d, .int .i64 t, .bool f, .bool g, .bool h] 46).alloc (.cells #[.int .i64 q, .string x, .bool b] 54))
    have s1 : (w.alloc (.cells #[.int .i64 u, .string d, .int .i64 t, .bool f, .bool g, .bool h] 46)).heap.size = w.heap.size + 1 := by simp
    have Kk0 := Lib.hid (show Blk ((w.alloc (.cells #[.int .i64 u, .string d, .int .i64 t, .bool f, .bool g, .bool h] 46)).alloc (.cells #[.int .i64 q, .string x, .bool b] 54)) (w.heap.size + 1) [.int .i64 q, .string x, .bool b] by have h0 := Blk.new (w.alloc (.cells #[.int .i64 u, .string d, .int .i64 t, .bool f, .bool g, .bool h] 46)) [.int .i64 q, .string x, .bool b] 54; rwa [s1] at h0)
    have n_a_k : w.heap.size ≠ w.heap.size + 1 := by omega
    clear s1
    go_wp2_with fail
    change Calls _ _ _ ((w.alloc (.cells #[.int .i64 u, .string d, .int .i64 t, .bool f, .bool g, .bool h] 46)).alloc (.cells #[.int .i64 q, .string x, .bool b] 54)) _
    generalize (w.alloc (.cells #[.int .i64 u, .string d, .int .i64 t, .bool f, .bool g, .bool h] 46)).alloc (.cells #[.int .i64 q, .string x, .bool b] 54) = v0 at B0 Ka0 Kk0 ⊢
    generalize hh_k : w.heap.size + 1 = g_k at Kk0 n_a_k ⊢
    generalize hh_a : w.heap.size = g_a at Ka0 n_a_k ⊢
    have l_a : w.heap.size ≤ g_a := by omega
    have l_k : w.heap.size ≤ g_k := by omega
    clear hh_a hh_k
    refine (szSender_no u d t f g h 1048576 _ (by decide) hd (by omega)).mono ?_
    rintro e v1 ⟨rfl, hb⟩
    have B1 := Lib.hid (B0.out.trans (hb.mono B0.out.size))
    have Ka1 := Lib.hid (Ka0.out.below hb)
    have Kk1 := Lib.hid (Kk0.out.below hb)
    clear hb B0 Ka0 Kk0
    clear hsz
    obtain ⟨⟨ca0, ca1, ca2, ca3, ca4, ca5⟩, da0, da1, da2, da3, da4, da5⟩ := Ka1.out.of6
    obtain ⟨⟨ck0, ck1, ck2⟩, dk0, dk1, dk2⟩ := Kk1.out.o3
    go_wp2_with fail
    go_ret
    exact ⟨rfl, B1.out⟩
theorem own : ownKnob Try.prog.godebug = none := by kernel_rfl
theorem laidOut : laidOutB Try.prog = true := by kernel_rfl

set_option maxRecDepth 100000 in
theorem opened0 {H : Type} {enc : TypeId × Value → H} {W : World} {base : Nat} {spare : Nat → Bool} {held : Bool} {r : Reach} {b0 : Nat} {v : Value} {d : DataW H} {p : List MemPlace}
    (hv : Value.okWide Try.prog W r b0 46 v) (h : DataW.Trod enc Try.prog W base spare held 46 v d p) : ∃ (x0 : Int) (x1 : ByteArray) (x2 : Int) (x3 : Bool) (x4 : Bool) (x5 : Bool), v = .agg #[.int .i64 x0, .string x1, .int .i64 x2, .bool x3, .bool x4, .bool x5] ∧ (Lit.int .i64 x0).wf = true ∧ x1.size ≤ maxLen ∧ (Lit.int .i64 x2).wf = true ∧ True ∧ True ∧ True := by
  obtain ⟨cs, n, rfl, hl, hf⟩ := open_flat Try.underlying46 (by kernel_rfl) (by kernel_rfl) hv h
  match cs, hl with
  | [c0, c1, c2, c3, c4, c5], _ =>
    obtain ⟨_, t0⟩ := hf 0 _ rfl
    obtain ⟨x0, e0, _, w0⟩ := DataW.trod_int Try.underlying3 t0
    obtain rfl : c0 = .int .i64 x0 := (List.cons.inj e0).1
    obtain ⟨_, t1⟩ := hf 1 _ rfl
    obtain ⟨x1, e1, _, w1⟩ := DataW.trod_string Try.underlying9 t1
    obtain rfl : c1 = .string x1 := (List.cons.inj e1).1
    obtain ⟨_, t2⟩ := hf 2 _ rfl
    obtain ⟨x2, e2, _, w2⟩ := DataW.trod_int Try.underlying3 t2
    obtain rfl : c2 = .int .i64 x2 := (List.cons.inj e2).1
    obtain ⟨_, t3⟩ := hf 3 _ rfl
    obtain ⟨x3, e3, _⟩ := DataW.trod_bool Try.underlying4 t3
    have w3 := trivial
    obtain rfl : c3 = .bool x3 := (List.cons.inj e3).1
    obtain ⟨_, t4⟩ := hf 4 _ rfl
    obtain ⟨x4, e4, _⟩ := DataW.trod_bool Try.underlying4 t4
    have w4 := trivial
    obtain rfl : c4 = .bool x4 := (List.cons.inj e4).1
    obtain ⟨_, t5⟩ := hf 5 _ rfl
    obtain ⟨x5, e5, _⟩ := DataW.trod_bool Try.underlying4 t5
    have w5 := trivial
    obtain rfl : c5 = .bool x5 := (List.cons.inj e5).1
    exact ⟨_, _, _, _, _, _, rfl, w0, w1, w2, w3, w4, w5⟩

set_option maxRecDepth 100000 in
theorem opened1 {H : Type} {enc : TypeId × Value → H} {W : World} {base : Nat} {spare : Nat → Bool} {held : Bool} {r : Reach} {b0 : Nat} {v : Value} {d : DataW H} {p : List MemPlace}
    (hv : Value.okWide Try.prog W r b0 54 v) (h : DataW.Trod enc Try.prog W base spare held 54 v d p) : ∃ (x0 : Int) (x1 : ByteArray) (x2 : Bool), v = .agg #[.int .i64 x0, .string x1, .bool x2] ∧ (Lit.int .i64 x0).wf = true ∧ x1.size ≤ maxLen ∧ True := by
  obtain ⟨cs, n, rfl, hl, hf⟩ := open_flat Try.underlying54 (by kernel_rfl) (by kernel_rfl) hv h
  match cs, hl with
  | [c0, c1, c2], _ =>
    obtain ⟨_, t0⟩ := hf 0 _ rfl
    obtain ⟨x0, e0, _, w0⟩ := DataW.trod_int Try.underlying3 t0
    obtain rfl : c0 = .int .i64 x0 := (List.cons.inj e0).1
    obtain ⟨_, t1⟩ := hf 1 _ rfl
    obtain ⟨x1, e1, _, w1⟩ := DataW.trod_string Try.underlying9 t1
    obtain rfl : c1 = .string x1 := (List.cons.inj e1).1
    obtain ⟨_, t2⟩ := hf 2 _ rfl
    obtain ⟨x2, e2, _⟩ := DataW.trod_bool Try.underlying4 t2
    have w2 := trivial
    obtain rfl : c2 = .bool x2 := (List.cons.inj e2).1
    exact ⟨_, _, _, rfl, w0, w1, w2⟩

set_option maxRecDepth 100000 in
theorem lifted (os : Os) (started : os.Started) (H : Type) (enc : TypeId × Value → H) :
    ReturnsInHanded {} Try.checked os 10 .any (Rows.fnExactSentOffSpec.pre6 enc Try.prog Try.f10 Rows.fnExactSentOffRow.domain false) (Rows.fnExactSentOffSpec.post enc Try.prog Try.f10 false true false false) := by
  refine returnsInHanded_of_change (C := Try.checked) own started (by kernel_rfl) Try.func10
    (ChangeSpec.witness6 (enc := enc) (C := Try.checked) false ⟨#[], #[.agg #[.int .i64 0, .string ByteArray.empty, .int .i64 0, .bool false, .bool false, .bool false], .agg #[.int .i64 0, .string ByteArray.empty, .bool false]], []⟩ 8 (by kernel_rfl) (by kernel_rfl) (by kernel_rfl) (by kernel_rfl)) ?_
  intro W base args ds gs before hval0 hW _ _
  have hval : ∀ (j : Nat) t v, Try.f10.params[j]? = some t → args[j]? = some v → Value.okWide Try.prog W .any base t v := hval0
  have hW' := hW
  obtain ⟨p, q, hA0, hV, rfl, _, _⟩ := hW
  have hA : DataW.TrodAll enc Try.prog W 0 (fun _ => true) true Try.f10.params.toList args.toList ds p := hA0
  rw [Try.params10] at hA hval
  obtain ⟨v0, vs0, d0, ds0, p0, q0, hargs, rfl, rfl, h0, r0⟩ := trodAll_cons hA
  obtain ⟨v1, vs1, d1, ds1, p1, q1, rfl, rfl, rfl, h1, r1⟩ := trodAll_cons r0
  obtain ⟨rfl, rfl, rfl⟩ := trodAll_nil r1
  obtain rfl : args = #[v0, v1] := by cases args; simp_all
  obtain ⟨rfl, rfl⟩ := trodVars_none hV
  obtain ⟨a0_0, a0_1, a0_2, a0_3, a0_4, a0_5, rfl, w0_0, w0_1, w0_2, w0_3, w0_4, w0_5⟩ := opened0 (hval 0 46 v0 rfl rfl) h0
  have k0 := h0
  have lt0 : ∀ x ∈ p0, x.block < W.heap.size := by obtain ⟨m, hm⟩ := k0; exact DataW.trod_lt m _ _ _ hm
  obtain ⟨a1_0, a1_1, a1_2, rfl, w1_0, w1_1, w1_2⟩ := opened1 (hval 1 54 v1 rfl rfl) h1
  have k1 := h1
  have lt1 : ∀ x ∈ p1, x.block < W.heap.size := by obtain ⟨m, hm⟩ := k1; exact DataW.trod_lt m _ _ _ hm
  clear hA0 hval0
  refine (walk a0_0 a0_1 a0_2 a0_3 a0_4 a0_5 a1_0 a1_1 a1_2 w0_0 w0_1 w0_2 w0_3 w0_4 w0_5 w1_0 w1_1 w1_2 W).mono fun e W' ⟨he, bel⟩ => ?_
  subst he
  exact ⟨_, rfl, _, _, _, [], _, [], hW', trodAll_mk1 (shut_bool Try.underlying4 _), (trodAll_cons_mk (Below.trod laidOut (by kernel_rfl) (of_decide_eq_true (by kernel_rfl)) k0 bel lt0) (trodAll_cons_mk (Below.trod laidOut (by kernel_rfl) (of_decide_eq_true (by kernel_rfl)) k1 bel lt1) trodAll_mk0)), rfl, bel.frame _, fun h => by cases h⟩

theorem over : Rows.fnExactSentOffRow.holds Try.pinned (OpenSpec.ofChange Rows.fnExactSentOffSpec) :=
  OpenClaim.holds_of_wide 10 Try.f10 rfl rfl rfl rfl rfl rfl rfl ⟨rfl, rfl, rfl, rfl, rfl⟩ rfl rfl rfl rfl rfl (by kernel_rfl) Try.func10 (by kernel_rfl)
    (of_decide_eq_true (by kernel_rfl)) (by unfold Func.isWrapper; first | (rw [if_pos (by decide +kernel)]; kernel_rfl) | (rw [if_neg (by decide +kernel)]; exact ⟨rfl, rfl⟩))
    (fun os started H enc _ => lifted os started H enc)

theorem proved : Rows.FnExactSentOffSaid := over
#print axioms proved
end Go.Proofs.Ytkigkfedkjnkeaa.fnExactSentOff
