/- advanced: a receiver once what is stored is looked through. Nothing here is a claim. -/
import Derived.Test.YtpbnkkgfjmkcdaaTabF
import Derived.Test.YtpbnkkgfjmkcdaaTabP
import Derived.Test.YtpbnkkgfjmkcdaaRcvLaw2
import Derived.Test.YtpbnkkgfjmkcdaaSndPos
import Derived.Test.YtpbnkkgfjmkcdaaRowN
namespace Go.Proofs.Ytpbnkkgfjmkcdaa
open Go.RowKit Go.Lib

def advR (n F : Int) (d : ByteArray) (T : Tab) (c : Nat) : Rcv :=
  if F = -1 then ⟨pl (n + c), d ++ got T c, pcs T c (32 - c), -1, false⟩
  else if F = c then ⟨pl (pl (n + c) + 1), d ++ got T c, pcs T c (32 - c), -1, true⟩
  else ⟨pl (n + c), d ++ got T c, pcs T c (32 - c), F - c, false⟩
theorem newRE_end {R : Rcv} {n' f' : Int} {d' : ByteArray} {z' : Bool} {L : List HP} {nL cap : Nat} {a : Option Addr} {w w' : World} (eR : R = ⟨n', d', L, f', z'⟩) (hn : L.length = nL)
    (ho : w'.ownsRow w.heap.size 64 2 (.slice a nL cap) nL (hps L)) (hb : Below w.heap.size w w') : NewRE R w (.returned (.agg #[.int .i64 n', .string d', .slice a nL cap, .int .i64 f', .bool z'])) w' := by
  subst eR hn
  exact ⟨a, cap, rfl, ho, hb⟩

set_option maxRecDepth 100000 in
set_option maxHeartbeats 16000000 in
theorem advI (n F : Int) (d : ByteArray) (a : Option Addr) (cap : Nat) (rs : List HP) (g : Nat) (T : Tab) (h32 : T 32 = none) (hd : d.size ≤ 32) (hF : -1 ≤ F ∧ F ≤ 32) (hc : cnt T ≤ 32) (w : World) (h : Blk w g (tabC T)) :
    Calls Try.prog 39 #[.agg #[.int .i64 n, .string d, .slice a rs.length cap, .int .i64 F, .bool false], .pointer (some ⟨g, 0, none⟩)] w (NewRE (advR n F d T (cnt T)) w) := by
  have H := Lib.hid h
  have hgl := h.lt
  clear h
  obtain ⟨R, hRe⟩ : ∃ R, advR n F d T (cnt T) = R := ⟨_, rfl⟩
  rw [hRe]
  have hsz := got_size T (cnt T)
  have C1 := fun w h => firstI g T h32 w h
  obtain ⟨y, hy⟩ : ∃ y, got T (cnt T) = y := ⟨_, rfl⟩
  simp only [hy] at C1
  rw [hy] at hsz
  rw [← hsz] at hRe hy hc
  replace C1 := Lib.hid C1
  have C3 := Lib.hid (fun w h => piecesI g y.size hc T w h)
  replace hy := Lib.hid hy
  replace hRe := Lib.hid hRe
  clear hsz
  have hdn : ¬ 9223372036854775807 < d.size + y.size := by omega
  go_enter Try.func39, Try.ntmps39
  have B0 := Lib.hid (show Below w.heap.size w ((w.alloc (.cells #[.int .i64 n, .string d, .slice a rs.length cap, .int .i64 F, .bool false] 26)).alloc (.cells #[.int .i64 0, .string ⟨#[]⟩, .slice none 0 0, .int .i64 0, .bool false] 26)) from (((Below.refl _ w).alloc (by simp) _).alloc (by simp) _))
  have Kl0 := Lib.hid (show Blk ((w.alloc (.cells #[.int .i64 n, .string d, .slice a rs.length cap, .int .i64 F, .bool false] 26)).alloc (.cells #[.int .i64 0, .string ⟨#[]⟩, .slice none 0 0, .int .i64 0, .bool false] 26)) (w.heap.size) [.int .i64 n, .string d, .slice a rs.length cap, .int .i64 F, .bool false] from (Blk.new w [.int .i64 n, .string d, .slice a rs.length cap, .int .i64 F, .bool false] 26).alloc (.cells #[.int .i64 0, .string ⟨#[]⟩, .slice none 0 0, .int .i64 0, .bool false] 26))
  have s1 : (w.alloc (.cells #[.int .i64 n, .string d, .slice a rs.length cap, .int .i64 F, .bool false] 26)).heap.size = w.heap.size + 1 := by simp
  have Ko0 := Lib.hid (show Blk ((w.alloc (.cells #[.int .i64 n, .string d, .slice a rs.length cap, .int .i64 F, .bool false] 26)).alloc (.cells #[.int .i64 0, .string ⟨#[]⟩, .slice none 0 0, .int .i64 0, .bool false] 26)) (w.heap.size + 1) [.int .i64 0, .string ⟨#[]⟩, .slice none 0 0, .int .i64 0, .bool false] by have h0 := Blk.new (w.alloc (.cells #[.int .i64 n, .string d, .slice a rs.length cap, .int .i64 F, .bool false] 26)) [.int .i64 0, .string ⟨#[]⟩, .slice none 0 0, .int .i64 0, .bool false] 26; rwa [s1] at h0)
  have n_l_o : w.heap.size ≠ w.heap.size + 1 := by omega
  clear s1
  go_wp2_with fail
  change Calls _ _ _ ((w.alloc (.cells #[.int .i64 n, .string d, .slice a rs.length cap, .int .i64 F, .bool false] 26)).alloc (.cells #[.int .i64 0, .string ⟨#[]⟩, .slice none 0 0, .int .i64 0, .bool false] 26)) _
  generalize (w.alloc (.cells #[.int .i64 n, .string d, .slice a rs.length cap, .int .i64 F, .bool false] 26)).alloc (.cells #[.int .i64 0, .string ⟨#[]⟩, .slice none 0 0, .int .i64 0, .bool false] 26) = v0 at B0 Kl0 Ko0 ⊢
  generalize hh_o : w.heap.size + 1 = g_o at Ko0 n_l_o ⊢
  generalize hh_l : w.heap.size = g_l at Kl0 n_l_o ⊢
  have l_l : w.heap.size ≤ g_l := by omega
  have l_o : w.heap.size ≤ g_o := by omega
  clear hh_l hh_o
  refine (C1.out _ (blk_under H.out B0.out hgl)).mono ?_
  rintro e v1 ⟨rfl, hb⟩
  have B1 := Lib.hid (B0.out.trans (hb.mono B0.out.size))
  have Kl1 := Lib.hid (Kl0.out.below hb)
  have Ko1 := Lib.hid (Ko0.out.below hb)
  clear hb B0 Kl0 Ko0
  obtain ⟨⟨cl0, cl1, cl2, cl3, cl4⟩, dl0, dl1, dl2, dl3, dl4⟩ := Kl1.out.of5
  obtain ⟨⟨co0, co1, co2, co3, co4⟩, do0, do1, do2, do3, do4⟩ := Ko1.out.of5
  have Kl2 := Lib.hid (show Blk (v1.setCell ⟨g_l, 1, none⟩ (.string (d ++ y))) g_l [.int .i64 n, .string (d ++ y), .slice a rs.length cap, .int .i64 F, .bool false] from (Kl1.out.set 1 (.string (d ++ y))))
  have Ko2 := Lib.hid (show Blk (v1.setCell ⟨g_l, 1, none⟩ (.string (d ++ y))) g_o [.int .i64 0, .string ⟨#[]⟩, .slice none 0 0, .int .i64 0, .bool false] from (Ko1.out.setOther ⟨g_l, 1, none⟩ (.string (d ++ y)) (fun e => n_l_o e.symm)))
  have B2 := Lib.hid (show Below w.heap.size w (v1.setCell ⟨g_l, 1, none⟩ (.string (d ++ y))) from (B1.out.setCell l_l (.string (d ++ y))))
  clear B1
  go_wp2_with fail
  clear Kl1 Ko1
  clear cl0 cl1 cl2 cl3 cl4 dl0 dl1 dl2 dl3 dl4 co0 co1 co2 co3 co4 do0 do1 do2 do3 do4
  change Calls _ _ _ (v1.setCell ⟨g_l, 1, none⟩ (.string (d ++ y))) _
  generalize v1.setCell ⟨g_l, 1, none⟩ (.string (d ++ y)) = v2 at B2 Kl2 Ko2 ⊢
  clear hdn
  refine (seqAddI_s n (y.size : Int) _).mono ?_
  rintro e v3 ⟨rfl, hb⟩
  have B3 := Lib.hid (B2.out.trans (hb.mono B2.out.size))
  have Kl3 := Lib.hid (Kl2.out.below hb)
  have Ko3 := Lib.hid (Ko2.out.below hb)
  clear hb B2 Kl2 Ko2
  obtain ⟨⟨cl0, cl1, cl2, cl3, cl4⟩, dl0, dl1, dl2, dl3, dl4⟩ := Kl3.out.of5
  obtain ⟨⟨co0, co1, co2, co3, co4⟩, do0, do1, do2, do3, do4⟩ := Ko3.out.of5
  have Kl4 := Lib.hid (show Blk (v3.setCell ⟨g_l, 0, none⟩ (.int .i64 (pl (n + (y.size : Int))))) g_l [.int .i64 (pl (n + (y.size : Int))), .string (d ++ y), .slice a rs.length cap, .int .i64 F, .bool false] from (Kl3.out.set 0 (.int .i64 (pl (n + (y.size : Int))))))
  have Ko4 := Lib.hid (show Blk (v3.setCell ⟨g_l, 0, none⟩ (.int .i64 (pl (n + (y.size : Int))))) g_o [.int .i64 0, .string ⟨#[]⟩, .slice none 0 0, .int .i64 0, .bool false] from (Ko3.out.setOther ⟨g_l, 0, none⟩ (.int .i64 (pl (n + (y.size : Int)))) (fun e => n_l_o e.symm)))
  have B4 := Lib.hid (show Below w.heap.size w (v3.setCell ⟨g_l, 0, none⟩ (.int .i64 (pl (n + (y.size : Int))))) from (B3.out.setCell l_l (.int .i64 (pl (n + (y.size : Int))))))
  clear B3
  go_wp2_with fail
  clear Kl3 Ko3
  clear cl0 cl1 cl2 cl3 cl4 dl0 dl1 dl2 dl3 dl4 co0 co1 co2 co3 co4 do0 do1 do2 do3 do4
  change Calls _ _ _ (v3.setCell ⟨g_l, 0, none⟩ (.int .i64 (pl (n + (y.size : Int))))) _
  generalize v3.setCell ⟨g_l, 0, none⟩ (.int .i64 (pl (n + (y.size : Int)))) = v4 at B4 Kl4 Ko4 ⊢
  have lt0_l := Kl4.out.lt
  have lt0_o := Ko4.out.lt
  have hz9 := B4.out.size
  refine (C3.out _ (blk_under H.out B4.out hgl)).mono ?_
  rintro e v5 ⟨a4, cap4, rfl, ho_t, hb⟩
  have B5 := Lib.hid (B4.out.trans (hb.mono B4.out.size))
  have Kl5 := Lib.hid (Kl4.out.below hb)
  have Ko5 := Lib.hid (Ko4.out.below hb)
  clear hb B4 Kl4 Ko4
  generalize hL : pcs T y.size (32 - y.size) = L at ho_t ⊢
  replace hL := Lib.hid hL
  have m_t_l : (.slice a4 L.length cap4 : Value).ownBlock ≠ some g_l := fun e => by have h1 := (ho_t.lt _ e).1; have h2 := lt0_l; omega
  have m_t_o : (.slice a4 L.length cap4 : Value).ownBlock ≠ some g_o := fun e => by have h1 := (ho_t.lt _ e).1; have h2 := lt0_o; omega
  have Nt5 := Lib.hid ho_t
  clear ho_t
  obtain ⟨nL, hnL⟩ : ∃ m, L.length = m := ⟨_, rfl⟩
  have HLn := Lib.hid hnL
  rw [hnL] at Nt5 m_t_l m_t_o ⊢
  clear hnL lt0_l lt0_o
  by_cases hF1 : F = -1
  · subst hF1
    have eR := hRe.out.symm.trans (show advR n (-1) d T y.size = ⟨pl (n + (y.size : Int)), d ++ got T y.size, pcs T y.size (32 - y.size), -1, false⟩ from if_pos rfl)
    rw [hL.out, hy.out] at eR
    obtain ⟨⟨cl0, cl1, cl2, cl3, cl4⟩, dl0, dl1, dl2, dl3, dl4⟩ := Kl5.out.of5
    obtain ⟨⟨co0, co1, co2, co3, co4⟩, do0, do1, do2, do3, do4⟩ := Ko5.out.of5
    go_wp2_with fail
    refine bodyPost_ret (v := .agg #[.int .i64 (pl (n + (y.size : Int))), .string (d ++ y), .slice a4 nL cap4, .int .i64 (-1), .bool false]) (by simp [results, Try.results39, go_sem, co0, co1, co2, co3, co4]) rfl (newRE_end eR HLn.out ?_ ?_)
    · exact own_down (own_setn (own_setn (own_setn (own_setn (own_setn (own_setn Nt5.out (g := g_l) (k := 2) m_t_l (.slice a4 nL cap4)) (g := g_o) (k := 0) m_t_o (.int .i64 (pl (n + (y.size : Int))))) (g := g_o) (k := 1) m_t_o (.string (d ++ y))) (g := g_o) (k := 2) m_t_o (.slice a4 nL cap4)) (g := g_o) (k := 3) m_t_o (.int .i64 (-1))) (g := g_o) (k := 4) m_t_o (.bool false)) hz9
    · exact ((((((B5.out.setCell l_l (.slice a4 nL cap4)).setCell l_o (.int .i64 (pl (n + (y.size : Int))))).setCell l_o (.string (d ++ y))).setCell l_o (.slice a4 nL cap4)).setCell l_o (.int .i64 (-1))).setCell l_o (.bool false))
  have hwF : IntKind.i64.wrap (F - (y.size : Int)) = F - (y.size : Int) := IntWalk.i64_in _ (by omega)
  by_cases hF2 : F = (y.size : Int)
  · subst hF2
    rw [Int.sub_self] at hwF
    have eR := hRe.out.symm.trans (show advR n (y.size : Int) d T y.size = ⟨pl (pl (n + (y.size : Int)) + 1), d ++ got T y.size, pcs T y.size (32 - y.size), -1, true⟩ from (if_neg hF1).trans (if_pos rfl))
    rw [hL.out, hy.out] at eR
    obtain ⟨⟨cl0, cl1, cl2, cl3, cl4⟩, dl0, dl1, dl2, dl3, dl4⟩ := Kl5.out.of5
    obtain ⟨⟨co0, co1, co2, co3, co4⟩, do0, do1, do2, do3, do4⟩ := Ko5.out.of5
    have Nt6 := Lib.hid (own_setn (own_setn (own_setn (own_setn Nt5.out (g := g_l) (k := 2) m_t_l (.slice a4 nL cap4)) (g := g_l) (k := 3) m_t_l (.int .i64 0)) (g := g_l) (k := 3) m_t_l (.int .i64 (-1))) (g := g_l) (k := 4) m_t_l (.bool true))
    have Kl6 := Lib.hid (show Blk ((((v5.setCell ⟨g_l, 2, none⟩ (.slice a4 nL cap4)).setCell ⟨g_l, 3, none⟩ (.int .i64 0)).setCell ⟨g_l, 3, none⟩ (.int .i64 (-1))).setCell ⟨g_l, 4, none⟩ (.bool true)) g_l [.int .i64 (pl (n + (y.size : Int))), .string (d ++ y), .slice a4 nL cap4, .int .i64 (-1), .bool true] from ((((Kl5.out.set 2 (.slice a4 nL cap4)).set 3 (.int .i64 0)).set 3 (.int .i64 (-1))).set 4 (.bool true)))
    have Ko6 := Lib.hid (show Blk ((((v5.setCell ⟨g_l, 2, none⟩ (.slice a4 nL cap4)).setCell ⟨g_l, 3, none⟩ (.int .i64 0)).setCell ⟨g_l, 3, none⟩ (.int .i64 (-1))).setCell ⟨g_l, 4, none⟩ (.bool true)) g_o [.int .i64 0, .string ⟨#[]⟩, .slice none 0 0, .int .i64 0, .bool false] from ((((Ko5.out.setOther ⟨g_l, 2, none⟩ (.slice a4 nL cap4) (fun e => n_l_o e.symm)).setOther ⟨g_l, 3, none⟩ (.int .i64 0) (fun e => n_l_o e.symm)).setOther ⟨g_l, 3, none⟩ (.int .i64 (-1)) (fun e => n_l_o e.symm)).setOther ⟨g_l, 4, none⟩ (.bool true) (fun e => n_l_o e.symm)))
    have B6 := Lib.hid (show Below w.heap.size w ((((v5.setCell ⟨g_l, 2, none⟩ (.slice a4 nL cap4)).setCell ⟨g_l, 3, none⟩ (.int .i64 0)).setCell ⟨g_l, 3, none⟩ (.int .i64 (-1))).setCell ⟨g_l, 4, none⟩ (.bool true)) from ((((B5.out.setCell l_l (.slice a4 nL cap4)).setCell l_l (.int .i64 0)).setCell l_l (.int .i64 (-1))).setCell l_l (.bool true)))
    clear B5
    go_wp2_with fail
    clear Kl5 Ko5
    clear cl0 cl1 cl2 cl3 cl4 dl0 dl1 dl2 dl3 dl4 co0 co1 co2 co3 co4 do0 do1 do2 do3 do4
    change Calls _ _ _ ((((v5.setCell ⟨g_l, 2, none⟩ (.slice a4 nL cap4)).setCell ⟨g_l, 3, none⟩ (.int .i64 0)).setCell ⟨g_l, 3, none⟩ (.int .i64 (-1))).setCell ⟨g_l, 4, none⟩ (.bool true)) _
    generalize (((v5.setCell ⟨g_l, 2, none⟩ (.slice a4 nL cap4)).setCell ⟨g_l, 3, none⟩ (.int .i64 0)).setCell ⟨g_l, 3, none⟩ (.int .i64 (-1))).setCell ⟨g_l, 4, none⟩ (.bool true) = v6 at B6 Kl6 Ko6 Nt6 ⊢
    clear Nt5
    refine (seqAddI_s (pl (n + (y.size : Int))) 1 _).mono ?_
    rintro e v7 ⟨rfl, hb⟩
    have B7 := Lib.hid (B6.out.trans (hb.mono B6.out.size))
    have Kl7 := Lib.hid (Kl6.out.below hb)
    have Ko7 := Lib.hid (Ko6.out.below hb)
    have Nt7 := Lib.hid (own_below Nt6.out hb)
    clear hb B6 Kl6 Ko6 Nt6
    obtain ⟨⟨cl0, cl1, cl2, cl3, cl4⟩, dl0, dl1, dl2, dl3, dl4⟩ := Kl7.out.of5
    obtain ⟨⟨co0, co1, co2, co3, co4⟩, do0, do1, do2, do3, do4⟩ := Ko7.out.of5
    go_wp2_with fail
    refine bodyPost_ret (v := .agg #[.int .i64 (pl (pl (n + (y.size : Int)) + 1)), .string (d ++ y), .slice a4 nL cap4, .int .i64 (-1), .bool true]) (by simp [results, Try.results39, go_sem, co0, co1, co2, co3, co4]) rfl (newRE_end eR HLn.out ?_ ?_)
    · exact own_down (own_setn (own_setn (own_setn (own_setn (own_setn (own_setn Nt7.out (g := g_l) (k := 0) m_t_l (.int .i64 (pl (pl (n + (y.size : Int)) + 1)))) (g := g_o) (k := 0) m_t_o (.int .i64 (pl (pl (n + (y.size : Int)) + 1)))) (g := g_o) (k := 1) m_t_o (.string (d ++ y))) (g := g_o) (k := 2) m_t_o (.slice a4 nL cap4)) (g := g_o) (k := 3) m_t_o (.int .i64 (-1))) (g := g_o) (k := 4) m_t_o (.bool true)) hz9
    · exact ((((((B7.out.setCell l_l (.int .i64 (pl (pl (n + (y.size : Int)) + 1)))).setCell l_o (.int .i64 (pl (pl (n + (y.size : Int)) + 1)))).setCell l_o (.string (d ++ y))).setCell l_o (.slice a4 nL cap4)).setCell l_o (.int .i64 (-1))).setCell l_o (.bool true))
  have hF3 : (F - (y.size : Int) == 0) = false := by simp; omega
  have hF4 : (F == -1) = false := by simpa using hF1
  have eR := hRe.out.symm.trans (show advR n F d T y.size = ⟨pl (n + (y.size : Int)), d ++ got T y.size, pcs T y.size (32 - y.size), F - (y.size : Int), false⟩ from (if_neg hF1).trans (if_neg hF2))
  rw [hL.out, hy.out] at eR
  obtain ⟨⟨cl0, cl1, cl2, cl3, cl4⟩, dl0, dl1, dl2, dl3, dl4⟩ := Kl5.out.of5
  obtain ⟨⟨co0, co1, co2, co3, co4⟩, do0, do1, do2, do3, do4⟩ := Ko5.out.of5
  go_wp2_with fail
  refine bodyPost_ret (v := .agg #[.int .i64 (pl (n + (y.size : Int))), .string (d ++ y), .slice a4 nL cap4, .int .i64 (F - (y.size : Int)), .bool false]) (by simp [results, Try.results39, go_sem, co0, co1, co2, co3, co4]) rfl (newRE_end eR HLn.out ?_ ?_)
  · exact own_down (own_setn (own_setn (own_setn (own_setn (own_setn (own_setn (own_setn Nt5.out (g := g_l) (k := 2) m_t_l (.slice a4 nL cap4)) (g := g_l) (k := 3) m_t_l (.int .i64 (F - (y.size : Int)))) (g := g_o) (k := 0) m_t_o (.int .i64 (pl (n + (y.size : Int))))) (g := g_o) (k := 1) m_t_o (.string (d ++ y))) (g := g_o) (k := 2) m_t_o (.slice a4 nL cap4)) (g := g_o) (k := 3) m_t_o (.int .i64 (F - (y.size : Int)))) (g := g_o) (k := 4) m_t_o (.bool false)) hz9
  · exact (((((((B5.out.setCell l_l (.slice a4 nL cap4)).setCell l_l (.int .i64 (F - (y.size : Int)))).setCell l_o (.int .i64 (pl (n + (y.size : Int))))).setCell l_o (.string (d ++ y))).setCell l_o (.slice a4 nL cap4)).setCell l_o (.int .i64 (F - (y.size : Int)))).setCell l_o (.bool false))
end Go.Proofs.Ytpbnkkgfjmkcdaa
