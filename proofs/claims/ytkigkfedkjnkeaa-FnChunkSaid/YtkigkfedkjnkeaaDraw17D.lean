/- The draws of stage 17: DrawQueued, DrawNextChunk, DrawAcked, DrawRewound. Nothing here is a claim. -/
import Derived.Test.YtkigkfedkjnkeaaDraw17B
import Derived.Test.YtkigkfedkjnkeaaL4Place
namespace Go.Proofs.Ytkigkfedkjnkeaa
open Go.RowKit Go.Lib

def winCs : Array Value := #[.int .i64 0, .int .i64 1, .int .i64 5, .int .i64 20, .int .i64 64, .int .i64 65535, .int .i64 (-1), .int .i64 9223372036854775807, .int .i64 (-9223372036854775808)]
theorem winCs_bd : ∀ v ∈ winCs.toList, ∃ x, v = .int .i64 x ∧ I64 x := by
  intro v hv
  simp only [winCs, List.mem_cons, List.mem_nil_iff, or_false] at hv
  unfold I64
  rcases hv with rfl | rfl | rfl | rfl | rfl | rfl | rfl | rfl | rfl <;> exact ⟨_, rfl, by decide⟩
theorem pickWin (B g : Nat) (w : World) (hc : CurB w B g) : Calls Try.prog 52 #[.pointer (some ⟨g, 0, none⟩), .slice (some ⟨w.heap.size, 0, none⟩) 9 9] (w.alloc (.cells winCs 3)) (WholeEnd w B g) :=
  pickNew B g w hc winCs (by decide) (by decide) winCs_bd
def mssCs : Array Value := #[.int .i64 1, .int .i64 4, .int .i64 16, .int .i64 1460, .int .i64 0, .int .i64 (-1)]
theorem mssCs_bd : ∀ v ∈ mssCs.toList, ∃ x, v = .int .i64 x ∧ I64 x := by
  intro v hv
  simp only [mssCs, List.mem_cons, List.mem_nil_iff, or_false] at hv
  unfold I64
  rcases hv with rfl | rfl | rfl | rfl | rfl | rfl <;> exact ⟨_, rfl, by decide⟩
theorem pickMss (B g : Nat) (w : World) (hc : CurB w B g) : Calls Try.prog 52 #[.pointer (some ⟨g, 0, none⟩), .slice (some ⟨w.heap.size, 0, none⟩) 6 6] (w.alloc (.cells mssCs 3)) (WholeEnd w B g) :=
  pickNew B g w hc mssCs (by decide) (by decide) mssCs_bd

set_option maxRecDepth 100000 in
set_option maxHeartbeats 4000000 in
theorem drawRewound (a : Option Addr) (s : List UInt8) (cap : Nat) (z : World) (hrow : Row z z.heap.size a (byteCells s)) (hs : s.length ≤ 1048576) :
    Calls Try.prog 33 #[.slice a s.length cap] z fun e w' => ∃ (u : Int) (d : ByteArray) (t : Int) (b1 b2 b3 : Bool), e = .returned (.agg #[.int .i64 u, .string d, .int .i64 t, .bool b1, .bool b2, .bool b3]) ∧ d.size ≤ 49 ∧ Below z.heap.size z w' := by
  have HR := Lib.hid hrow
  clear hrow
  go_enter Try.func33, Try.ntmps33
  have B0 := Lib.hid (show Below z.heap.size z (z.alloc (.cells #[.int .i64 0, .string ⟨#[]⟩, .int .i64 0, .bool false, .bool false, .bool false] 25)) from (Below.refl _ z).alloc (Nat.le_refl _) _)
  have K0 := Lib.hid (Blk.new z [.int .i64 0, .string ⟨#[]⟩, .int .i64 0, .bool false, .bool false, .bool false] 25)
  go_wp2_with fail
  generalize z.alloc (.cells #[.int .i64 0, .string ⟨#[]⟩, .int .i64 0, .bool false, .bool false, .bool false] 25) = v0 at B0 K0 ⊢
  generalize hh : z.heap.size = g_R at K0 ⊢
  have l_R : z.heap.size ≤ g_R := Nat.le_of_eq hh
  clear hh
  have hr0 := K0.out.lt
  refine (l1New_any a s cap v0 ((HR.out.below B0.out).mono B0.out.size) hs).mono ?_
  rintro e w ⟨g, rfl, hc1, hb1⟩
  have C1 := Lib.hid hc1
  have L1 := Lib.hid hc1
  have G1 := Lib.hid (World.grownBy.refl w (some g))
  have B1 := Lib.hid hb1
  have KR1 := Lib.hid (K0.out.below hb1)
  have c_R : g_R ≠ g := by have := hc1.1; omega
  have hz : z.heap.size ≤ v0.heap.size := B0.out.size
  have hRw : g_R < w.heap.size := KR1.out.lt
  clear hc1 hb1 K0 HR hr0
  obtain ⟨⟨cR0, cR1, cR2, cR3, cR4, cR5⟩, dR0, dR1, dR2, dR3, dR4, dR5⟩ := KR1.out.of6
  go_wp2_with fail
  clear cR0 cR1 cR2 cR3 cR4 cR5 dR0 dR1 dR2 dR3 dR4 dR5
  refine (l17Bent_any _ g _ C1.out).mono ?_
  rintro e v2 ⟨u, d, t, b1, b2, b3, rfl, hd, hcu, hgr⟩
  have KR2 := Lib.hid (KR1.out.grown hgr c_R)
  have G2 := Lib.hid (grown_tr G1.out hgr)
  have C2 := Lib.hid hcu
  clear hcu hgr KR1 G1 C1
  obtain ⟨⟨cR0, cR1, cR2, cR3, cR4, cR5⟩, dR0, dR1, dR2, dR3, dR4, dR5⟩ := KR2.out.of6
  go_wp2_with fail
  exact bodyPost_ret (v := .agg #[.int .i64 u, .string d, .int .i64 t, .bool b1, .bool b2, .bool b3]) (by simp [results, Try.results33, go_sem, cR0, cR1, cR2, cR3, cR4, cR5]) rfl ⟨u, d, t, b1, b2, b3, rfl, hd, (((((((B0.out.trans ((below_new B1.out L1.out G2.out).mono hz)).setCell l_R _).setCell l_R _).setCell l_R _).setCell l_R _).setCell l_R _).setCell l_R _)⟩

set_option maxRecDepth 100000 in
set_option maxHeartbeats 4000000 in
theorem drawNextChunk (a : Option Addr) (s : List UInt8) (cap : Nat) (z : World) (hrow : Row z z.heap.size a (byteCells s)) (hs : s.length ≤ 1048576) :
    Calls Try.prog 21 #[.slice a s.length cap] z fun e w' => ∃ (u : Int) (d : ByteArray) (t : Int) (b1 b2 b3 : Bool) (v m : Int), e = .returned (.tuple #[.agg #[.int .i64 u, .string d, .int .i64 t, .bool b1, .bool b2, .bool b3], .int .i64 v, .int .i64 m]) ∧ (d.size ≤ 49 ∧ I64 v) ∧ Below z.heap.size z w' := by
  have HR := Lib.hid hrow
  clear hrow
  go_enter Try.func21, Try.ntmps21
  have B0 := Lib.hid (show Below z.heap.size z (z.alloc (.cells #[.int .i64 0, .string ⟨#[]⟩, .int .i64 0, .bool false, .bool false, .bool false] 25)) from (Below.refl _ z).alloc (Nat.le_refl _) _)
  have K0 := Lib.hid (Blk.new z [.int .i64 0, .string ⟨#[]⟩, .int .i64 0, .bool false, .bool false, .bool false] 25)
  go_wp2_with fail
  generalize z.alloc (.cells #[.int .i64 0, .string ⟨#[]⟩, .int .i64 0, .bool false, .bool false, .bool false] 25) = v0 at B0 K0 ⊢
  generalize hh : z.heap.size = g_R at K0 ⊢
  have l_R : z.heap.size ≤ g_R := Nat.le_of_eq hh
  clear hh
  have hr0 := K0.out.lt
  refine (l1New_any a s cap v0 ((HR.out.below B0.out).mono B0.out.size) hs).mono ?_
  rintro e w ⟨g, rfl, hc1, hb1⟩
  have C1 := Lib.hid hc1
  have L1 := Lib.hid hc1
  have G1 := Lib.hid (World.grownBy.refl w (some g))
  have B1 := Lib.hid hb1
  have KR1 := Lib.hid (K0.out.below hb1)
  have c_R : g_R ≠ g := by have := hc1.1; omega
  have hz : z.heap.size ≤ v0.heap.size := B0.out.size
  have hRw : g_R < w.heap.size := KR1.out.lt
  clear hc1 hb1 K0 HR hr0
  obtain ⟨⟨cR0, cR1, cR2, cR3, cR4, cR5⟩, dR0, dR1, dR2, dR3, dR4, dR5⟩ := KR1.out.of6
  go_wp2_with fail
  clear cR0 cR1 cR2 cR3 cR4 cR5 dR0 dR1 dR2 dR3 dR4 dR5
  refine (l17Bent_any _ g _ C1.out).mono ?_
  rintro e v2 ⟨u, d, t, b1, b2, b3, rfl, hd, hcu, hgr⟩
  have KR2 := Lib.hid (KR1.out.grown hgr c_R)
  have G2 := Lib.hid (grown_tr G1.out hgr)
  have C2 := Lib.hid hcu
  clear hcu hgr KR1 G1 C1
  obtain ⟨⟨cR0, cR1, cR2, cR3, cR4, cR5⟩, dR0, dR1, dR2, dR3, dR4, dR5⟩ := KR2.out.of6
  go_wp2_with fail
  clear cR0 cR1 cR2 cR3 cR4 cR5 dR0 dR1 dR2 dR3 dR4 dR5
  refine (pickWin _ g _ C2.out).mono ?_
  rintro e v3 ⟨v, rfl, hv, hcu, hgr⟩
  have KR3 := Lib.hid (KR2.out.grown hgr c_R)
  have G3 := Lib.hid (grown_tr G2.out hgr)
  have C3 := Lib.hid hcu
  clear hcu hgr KR2 G2 C2
  obtain ⟨⟨cR0, cR1, cR2, cR3, cR4, cR5⟩, dR0, dR1, dR2, dR3, dR4, dR5⟩ := KR3.out.of6
  go_wp2_with fail
  clear cR0 cR1 cR2 cR3 cR4 cR5 dR0 dR1 dR2 dR3 dR4 dR5
  refine (pickMss _ g _ C3.out).mono ?_
  rintro e v4 ⟨m, rfl, hm, hcu, hgr⟩
  clear hm
  have KR4 := Lib.hid (KR3.out.grown hgr c_R)
  have G4 := Lib.hid (grown_tr G3.out hgr)
  have C4 := Lib.hid hcu
  clear hcu hgr KR3 G3 C3
  obtain ⟨⟨cR0, cR1, cR2, cR3, cR4, cR5⟩, dR0, dR1, dR2, dR3, dR4, dR5⟩ := KR4.out.of6
  go_wp2_with fail
  exact bodyPost_ret (v := .tuple #[.agg #[.int .i64 u, .string d, .int .i64 t, .bool b1, .bool b2, .bool b3], .int .i64 v, .int .i64 m]) (by simp [results, Try.results21, go_sem, cR0, cR1, cR2, cR3, cR4, cR5]) rfl ⟨u, d, t, b1, b2, b3, v, m, rfl, ⟨hd, hv⟩, (((((((B0.out.trans ((below_new B1.out L1.out G4.out).mono hz)).setCell l_R _).setCell l_R _).setCell l_R _).setCell l_R _).setCell l_R _).setCell l_R _)⟩

set_option maxRecDepth 100000 in
set_option maxHeartbeats 4000000 in
theorem drawQueued (a : Option Addr) (s : List UInt8) (cap : Nat) (z : World) (hrow : Row z z.heap.size a (byteCells s)) (hs : s.length ≤ 1048576) :
    Calls Try.prog 15 #[.slice a s.length cap] z fun e w' => ∃ (u : Int) (d : ByteArray) (t : Int) (b1 b2 b3 : Bool) (x : ByteArray), e = .returned (.tuple #[.agg #[.int .i64 u, .string d, .int .i64 t, .bool b1, .bool b2, .bool b3], .string x]) ∧ (d.size ≤ 49 ∧ x.size ≤ 59) ∧ Below z.heap.size z w' := by
  have HR := Lib.hid hrow
  clear hrow
  go_enter Try.func15, Try.ntmps15
  have B0 := Lib.hid (show Below z.heap.size z (z.alloc (.cells #[.int .i64 0, .string ⟨#[]⟩, .int .i64 0, .bool false, .bool false, .bool false] 25)) from (Below.refl _ z).alloc (Nat.le_refl _) _)
  have K0 := Lib.hid (Blk.new z [.int .i64 0, .string ⟨#[]⟩, .int .i64 0, .bool false, .bool false, .bool false] 25)
  go_wp2_with fail
  generalize z.alloc (.cells #[.int .i64 0, .string ⟨#[]⟩, .int .i64 0, .bool false, .bool false, .bool false] 25) = v0 at B0 K0 ⊢
  generalize hh : z.heap.size = g_R at K0 ⊢
  have l_R : z.heap.size ≤ g_R := Nat.le_of_eq hh
  clear hh
  have hr0 := K0.out.lt
  refine (l1New_any a s cap v0 ((HR.out.below B0.out).mono B0.out.size) hs).mono ?_
  rintro e w ⟨g, rfl, hc1, hb1⟩
  have C1 := Lib.hid hc1
  have L1 := Lib.hid hc1
  have G1 := Lib.hid (World.grownBy.refl w (some g))
  have B1 := Lib.hid hb1
  have KR1 := Lib.hid (K0.out.below hb1)
  have c_R : g_R ≠ g := by have := hc1.1; omega
  have hz : z.heap.size ≤ v0.heap.size := B0.out.size
  have hRw : g_R < w.heap.size := KR1.out.lt
  clear hc1 hb1 K0 HR hr0
  go_upto_region 2 with fail
  refine wp_region_noPanic ?_
  refine wp_region_held_drew (S := fun w' => True) (by kernel_rfl) trivial (fun hS => ?_)
  have KR2 := Lib.hid (show Blk w.drew g_R [.int .i64 0, .string ⟨#[]⟩, .int .i64 0, .bool false, .bool false, .bool false] from KR1.out.drew)
  have C2 := Lib.hid (show CurB w.drew _ g from C1.out.below (Below.refl _ _).drew)
  have G2 := Lib.hid (show w.grownBy w.drew (some g) from grown_tr G1.out (below_any (Below.refl _ w).drew))
  clear KR1 C1 G1
  clear hS
  generalize w.drew = v2 at KR2 C2 G2 ⊢
  have hS : True := trivial
  refine wpAnyH_take (i := 0) (v := .pointer (some ⟨g, 0, none⟩)) rfl (by kernel_rfl) (by kernel_rfl) (by kernel_rfl) (fun _ _ _ h => h) (Or.inl ⟨rfl, by intro w hS; go_simp⟩) hS ?_
  refine wpAnyH_take (i := 2) (v := .pointer (some ⟨g, 0, none⟩)) rfl (by kernel_rfl) (by kernel_rfl) (by kernel_rfl) (fun _ _ _ h => h) (Or.inl ⟨rfl, by intro w hS; go_simp⟩) hS ?_
  refine wpAnyH_take (i := 3) (v := .pointer (some ⟨g, 0, none⟩)) rfl (by kernel_rfl) (by kernel_rfl) (by kernel_rfl) (fun _ _ _ h => h) (Or.inl ⟨rfl, by intro w hS; go_simp⟩) hS ?_
  refine wpAnyH_ready (rs := [1]) (by kernel_rfl) (by simp) ?_
  refine AllReadyH.cons (i := 1) rfl (fun K hK => ?zq1) AllReadyH.nil
  rw [if_pos (by rfl)]
  go_simp
  clear hS
  refine (l17Bent_any _ g _ C2.out).mono ?_
  rintro e v3 ⟨u, d, t, b1, b2, b3, rfl, hd, hcu, hgr⟩
  have KR3 := Lib.hid (KR2.out.grown hgr c_R)
  have G3 := Lib.hid (grown_tr G2.out hgr)
  have C3 := Lib.hid hcu
  clear hcu hgr KR2 G2 C2
  refine hK.out _ _ trivial (fun hS => ?_)
  clear hK K
  refine wpAnyH_ready (rs := [4]) (by kernel_rfl) (by simp) ?_
  refine AllReadyH.cons (i := 4) rfl (fun K hK => ?zq2) AllReadyH.nil
  rw [if_pos (by rfl)]
  go_simp
  clear hS
  refine (l1Below_pos _ g _ C3.out 60 (by omega) (by omega)).mono ?_
  rintro e v4 ⟨q, rfl, hq, hcu, hgr⟩
  obtain ⟨m, rfl⟩ : ∃ n : Nat, q = (n : Int) := ⟨q.toNat, by omega⟩
  have KR4 := Lib.hid (KR3.out.grown hgr c_R)
  have G4 := Lib.hid (grown_tr G3.out hgr)
  have C4 := Lib.hid hcu
  clear hcu hgr KR3 G3 C3
  refine hK.out _ _ trivial (fun hS => ?_)
  clear hK K
  refine wpAnyH_ready (rs := [5]) (by kernel_rfl) (by simp) ?_
  refine AllReadyH.cons (i := 5) rfl (fun K hK => ?zq3) AllReadyH.nil
  rw [if_pos (by rfl)]
  go_simp
  clear hS
  refine (l1Bytes_any _ g m _ C4.out (by omega)).mono ?_
  rintro e v5 ⟨ub, lb, rfl, hlb, hob, hcu, hgr⟩
  have hne : ub.ownBlock ≠ some g_R := fun e => by have h1 := (hob.lt g_R e).1; have h2 := KR4.out.lt; omega
  have hsz : (⟨lb.toArray⟩ : ByteArray).size ≤ 59 := by simp [ByteArray.size]; omega
  clear hq hlb
  have KR5 := Lib.hid (KR4.out.grown hgr c_R)
  have G5 := Lib.hid (grown_tr G4.out hgr)
  have C5 := Lib.hid hcu
  clear hcu hgr KR4 G4 C4
  refine hK.out _ _ trivial (fun hS => ?_)
  clear hK K
  refine wpAnyH_ready (rs := [6, 7]) (by kernel_rfl) (by simp) ?_
  refine AllReadyH.cons (i := 6) rfl (fun K hK => ?zq4) (AllReadyH.cons (i := 7) rfl (fun K hK => ?zq5) AllReadyH.nil)
  · have hcv := run_string_own (P := Try.prog) Try.underlying22 Try.underlying5 Try.underlying9 hob
    rw [if_pos (by rfl)]
    go_simp
    clear hS
    refine hK.out _ _ trivial (fun hS => ?_)
    clear hK K
    clear hcv hob hne
    obtain ⟨⟨cR0, cR1, cR2, cR3, cR4, cR5⟩, dR0, dR1, dR2, dR3, dR4, dR5⟩ := KR5.out.of6
    refine wpAnyH_ready (rs := [7]) (by kernel_rfl) (by simp) ?_
    refine AllReadyH.cons (i := 7) rfl (fun K hK => ?zq6) AllReadyH.nil
    rw [if_pos (by rfl)]
    go_simp
    clear hS
    have KR6 := Lib.hid (show Blk ((((((v5.setCell ⟨g_R, 0, none⟩ (.int .i64 u)).setCell ⟨g_R, 1, none⟩ (.string d)).setCell ⟨g_R, 2, none⟩ (.int .i64 t)).setCell ⟨g_R, 3, none⟩ (.bool b1)).setCell ⟨g_R, 4, none⟩ (.bool b2)).setCell ⟨g_R, 5, none⟩ (.bool b3)) g_R [.int .i64 u, .string d, .int .i64 t, .bool b1, .bool b2, .bool b3] from ((((((KR5.out.set 0 (.int .i64 u)).set 1 (.string d)).set 2 (.int .i64 t)).set 3 (.bool b1)).set 4 (.bool b2)).set 5 (.bool b3)))
    have E6 := Lib.hid (show Below z.heap.size z ((((((v5.setCell ⟨g_R, 0, none⟩ (.int .i64 u)).setCell ⟨g_R, 1, none⟩ (.string d)).setCell ⟨g_R, 2, none⟩ (.int .i64 t)).setCell ⟨g_R, 3, none⟩ (.bool b1)).setCell ⟨g_R, 4, none⟩ (.bool b2)).setCell ⟨g_R, 5, none⟩ (.bool b3)) from (((((((B0.out.trans ((below_new B1.out L1.out G5.out).mono hz)).setCell l_R _).setCell l_R _).setCell l_R _).setCell l_R _).setCell l_R _).setCell l_R _))
    refine hK.out _ _ trivial (fun hS => ?_)
    clear hK K
    clear KR5
    clear cR0 cR1 cR2 cR3 cR4 cR5 dR0 dR1 dR2 dR3 dR4 dR5
    generalize (((((v5.setCell ⟨g_R, 0, none⟩ (.int .i64 u)).setCell ⟨g_R, 1, none⟩ (.string d)).setCell ⟨g_R, 2, none⟩ (.int .i64 t)).setCell ⟨g_R, 3, none⟩ (.bool b1)).setCell ⟨g_R, 4, none⟩ (.bool b2)).setCell ⟨g_R, 5, none⟩ (.bool b3) = v6 at hS KR6 E6 ⊢
    refine wpAnyH_take (i := 8) (v := .string ⟨lb.toArray⟩) rfl (by kernel_rfl) (by kernel_rfl) (by kernel_rfl) (fun _ _ _ h => h) (Or.inl ⟨rfl, by intro w hS; go_simp⟩) hS ?_
    refine wpAnyH_done (by kernel_rfl) ?_ _
    refine NoPanic.normal ?_
    obtain ⟨⟨cR0, cR1, cR2, cR3, cR4, cR5⟩, dR0, dR1, dR2, dR3, dR4, dR5⟩ := KR6.out.of6
    go_wp2_with fail
    exact bodyPost_ret (v := .tuple #[.agg #[.int .i64 u, .string d, .int .i64 t, .bool b1, .bool b2, .bool b3], .string ⟨lb.toArray⟩]) (by simp [results, Try.results15, go_sem, cR0, cR1, cR2, cR3, cR4, cR5]) rfl ⟨u, d, t, b1, b2, b3, ⟨lb.toArray⟩, rfl, ⟨hd, hsz⟩, E6.out⟩
  · obtain ⟨⟨cR0, cR1, cR2, cR3, cR4, cR5⟩, dR0, dR1, dR2, dR3, dR4, dR5⟩ := KR5.out.of6
    rw [if_pos (by rfl)]
    go_simp
    clear hS
    have KR6 := Lib.hid (show Blk ((((((v5.setCell ⟨g_R, 0, none⟩ (.int .i64 u)).setCell ⟨g_R, 1, none⟩ (.string d)).setCell ⟨g_R, 2, none⟩ (.int .i64 t)).setCell ⟨g_R, 3, none⟩ (.bool b1)).setCell ⟨g_R, 4, none⟩ (.bool b2)).setCell ⟨g_R, 5, none⟩ (.bool b3)) g_R [.int .i64 u, .string d, .int .i64 t, .bool b1, .bool b2, .bool b3] from ((((((KR5.out.set 0 (.int .i64 u)).set 1 (.string d)).set 2 (.int .i64 t)).set 3 (.bool b1)).set 4 (.bool b2)).set 5 (.bool b3)))
    have E6 := Lib.hid (show Below z.heap.size z ((((((v5.setCell ⟨g_R, 0, none⟩ (.int .i64 u)).setCell ⟨g_R, 1, none⟩ (.string d)).setCell ⟨g_R, 2, none⟩ (.int .i64 t)).setCell ⟨g_R, 3, none⟩ (.bool b1)).setCell ⟨g_R, 4, none⟩ (.bool b2)).setCell ⟨g_R, 5, none⟩ (.bool b3)) from (((((((B0.out.trans ((below_new B1.out L1.out G5.out).mono hz)).setCell l_R _).setCell l_R _).setCell l_R _).setCell l_R _).setCell l_R _).setCell l_R _))
    replace hob := hob.kept (show v5.grownBy ((((((v5.setCell ⟨g_R, 0, none⟩ (.int .i64 u)).setCell ⟨g_R, 1, none⟩ (.string d)).setCell ⟨g_R, 2, none⟩ (.int .i64 t)).setCell ⟨g_R, 3, none⟩ (.bool b1)).setCell ⟨g_R, 4, none⟩ (.bool b2)).setCell ⟨g_R, 5, none⟩ (.bool b3)) (some g_R) from (grown_set (grown_set (grown_set (grown_set (grown_set (grown_set (World.grownBy.refl v5 (some g_R)) 0 (.int .i64 u)) 1 (.string d)) 2 (.int .i64 t)) 3 (.bool b1)) 4 (.bool b2)) 5 (.bool b3))) (.inr hne)
    have hcv := run_string_own (P := Try.prog) Try.underlying22 Try.underlying5 Try.underlying9 hob
    refine hK.out _ _ trivial (fun hS => ?_)
    clear hK K
    clear cR0 cR1 cR2 cR3 cR4 cR5 dR0 dR1 dR2 dR3 dR4 dR5
    clear hob hne KR5
    generalize (((((v5.setCell ⟨g_R, 0, none⟩ (.int .i64 u)).setCell ⟨g_R, 1, none⟩ (.string d)).setCell ⟨g_R, 2, none⟩ (.int .i64 t)).setCell ⟨g_R, 3, none⟩ (.bool b1)).setCell ⟨g_R, 4, none⟩ (.bool b2)).setCell ⟨g_R, 5, none⟩ (.bool b3) = v6 at hS hcv KR6 E6 ⊢
    refine wpAnyH_ready (rs := [6]) (by kernel_rfl) (by simp) ?_
    refine AllReadyH.cons (i := 6) rfl (fun K hK => ?zq7) AllReadyH.nil
    rw [if_pos (by rfl)]
    go_simp
    clear hS
    refine hK.out _ _ trivial (fun hS => ?_)
    clear hK K
    clear hcv
    refine wpAnyH_take (i := 8) (v := .string ⟨lb.toArray⟩) rfl (by kernel_rfl) (by kernel_rfl) (by kernel_rfl) (fun _ _ _ h => h) (Or.inl ⟨rfl, by intro w hS; go_simp⟩) hS ?_
    refine wpAnyH_done (by kernel_rfl) ?_ _
    refine NoPanic.normal ?_
    obtain ⟨⟨cR0, cR1, cR2, cR3, cR4, cR5⟩, dR0, dR1, dR2, dR3, dR4, dR5⟩ := KR6.out.of6
    go_wp2_with fail
    exact bodyPost_ret (v := .tuple #[.agg #[.int .i64 u, .string d, .int .i64 t, .bool b1, .bool b2, .bool b3], .string ⟨lb.toArray⟩]) (by simp [results, Try.results15, go_sem, cR0, cR1, cR2, cR3, cR4, cR5]) rfl ⟨u, d, t, b1, b2, b3, ⟨lb.toArray⟩, rfl, ⟨hd, hsz⟩, E6.out⟩

set_option maxRecDepth 100000 in
set_option maxHeartbeats 4000000 in
theorem drawAcked (a : Option Addr) (s : List UInt8) (cap : Nat) (z : World) (hrow : Row z z.heap.size a (byteCells s)) (hs : s.length ≤ 1048576) :
    Calls Try.prog 29 #[.slice a s.length cap] z fun e w' => ∃ (u : Int) (d : ByteArray) (t : Int) (b1 b2 b3 : Bool) (x : Int), e = .returned (.tuple #[.agg #[.int .i64 u, .string d, .int .i64 t, .bool b1, .bool b2, .bool b3], .int .i64 x]) ∧ d.size ≤ 49 ∧ Below z.heap.size z w' := by
  have HR := Lib.hid hrow
  clear hrow
  go_enter Try.func29, Try.ntmps29
  have B0 := Lib.hid (show Below z.heap.size z (z.alloc (.cells #[.int .i64 0, .string ⟨#[]⟩, .int .i64 0, .bool false, .bool false, .bool false] 25)) from (Below.refl _ z).alloc (Nat.le_refl _) _)
  have K0 := Lib.hid (Blk.new z [.int .i64 0, .string ⟨#[]⟩, .int .i64 0, .bool false, .bool false, .bool false] 25)
  go_wp2_with fail
  generalize z.alloc (.cells #[.int .i64 0, .string ⟨#[]⟩, .int .i64 0, .bool false, .bool false, .bool false] 25) = v0 at B0 K0 ⊢
  generalize hh : z.heap.size = g_R at K0 ⊢
  have l_R : z.heap.size ≤ g_R := Nat.le_of_eq hh
  clear hh
  have hr0 := K0.out.lt
  refine (l1New_any a s cap v0 ((HR.out.below B0.out).mono B0.out.size) hs).mono ?_
  rintro e w ⟨g, rfl, hc1, hb1⟩
  have C1 := Lib.hid hc1
  have L1 := Lib.hid hc1
  have G1 := Lib.hid (World.grownBy.refl w (some g))
  have B1 := Lib.hid hb1
  have KR1 := Lib.hid (K0.out.below hb1)
  have c_R : g_R ≠ g := by have := hc1.1; omega
  have hz : z.heap.size ≤ v0.heap.size := B0.out.size
  have hRw : g_R < w.heap.size := KR1.out.lt
  clear hc1 hb1 K0 HR hr0
  obtain ⟨⟨cR0, cR1, cR2, cR3, cR4, cR5⟩, dR0, dR1, dR2, dR3, dR4, dR5⟩ := KR1.out.of6
  go_wp2_with fail
  clear cR0 cR1 cR2 cR3 cR4 cR5 dR0 dR1 dR2 dR3 dR4 dR5
  refine (l17Bent_any _ g _ C1.out).mono ?_
  rintro e v2 ⟨u, d, t, b1, b2, b3, rfl, hd, hcu, hgr⟩
  have KR2 := Lib.hid (KR1.out.grown hgr c_R)
  have G2 := Lib.hid (grown_tr G1.out hgr)
  have C2 := Lib.hid hcu
  clear hcu hgr KR1 G1 C1
  have hRO : g_R < v2.heap.size := KR2.out.lt
  have hB : v0.heap.size ≤ g := L1.out.1
  have KR3 := Lib.hid (KR2.out.alloc (.cells #[.int .i64 u, .string d, .int .i64 t, .bool b1, .bool b2, .bool b3] 25))
  have n_R_O : g_R ≠ v2.heap.size := by have h1 := KR2.out.lt; omega
  have KO3 := Lib.hid (Blk.new v2 [.int .i64 u, .string d, .int .i64 t, .bool b1, .bool b2, .bool b3] 25)
  have G3 := Lib.hid (grown_new G2.out (.cells #[.int .i64 u, .string d, .int .i64 t, .bool b1, .bool b2, .bool b3] 25))
  have C3 := Lib.hid (C2.out.new (.cells #[.int .i64 u, .string d, .int .i64 t, .bool b1, .bool b2, .bool b3] 25))
  have l_O : w.heap.size ≤ v2.heap.size := G2.out.size
  have c_O : v2.heap.size ≠ g := Nat.ne_of_gt C2.out.lt
  have b_O : v0.heap.size ≤ v2.heap.size := by have h1 := C2.out.lt; omega
  clear KR2 G2 C2
  obtain ⟨⟨cR0, cR1, cR2, cR3, cR4, cR5⟩, dR0, dR1, dR2, dR3, dR4, dR5⟩ := KR3.out.of6
  obtain ⟨⟨cO0, cO1, cO2, cO3, cO4, cO5⟩, dO0, dO1, dO2, dO3, dO4, dO5⟩ := KO3.out.of6
  go_wp2_with fail
  clear cR0 cR1 cR2 cR3 cR4 cR5 dR0 dR1 dR2 dR3 dR4 dR5 cO0 cO1 cO2 cO3 cO4 cO5 dO0 dO1 dO2 dO3 dO4 dO5
  generalize v2.alloc (.cells #[.int .i64 u, .string d, .int .i64 t, .bool b1, .bool b2, .bool b3] 25) = v3 at KR3 KO3 C3 G3 ⊢
  generalize hh : v2.heap.size = g_O at KO3 l_O c_O b_O n_R_O  ⊢
  clear hh
  refine (l1Once_any _ g _ C3.out 4 (by omega) (by omega)).mono ?_
  rintro e v4 ⟨b, rfl, hcu, hgr⟩
  have KR4 := Lib.hid (KR3.out.grown hgr c_R)
  have KO4 := Lib.hid (KO3.out.grown hgr c_O)
  have G4 := Lib.hid (grown_tr G3.out hgr)
  have C4 := Lib.hid hcu
  clear hcu hgr KR3 KO3 G3 C3
  have n_O_R : g_O ≠ g_R := fun e => n_R_O e.symm
  cases b with
  | true =>
    obtain ⟨⟨cR0, cR1, cR2, cR3, cR4, cR5⟩, dR0, dR1, dR2, dR3, dR4, dR5⟩ := KR4.out.of6
    obtain ⟨⟨cO0, cO1, cO2, cO3, cO4, cO5⟩, dO0, dO1, dO2, dO3, dO4, dO5⟩ := KO4.out.of6
    go_upto_region 4 with fail
    clear cR0 cR1 cR2 cR3 cR4 cR5 dR0 dR1 dR2 dR3 dR4 dR5 cO0 cO1 cO2 cO3 cO4 cO5 dO0 dO1 dO2 dO3 dO4 dO5
    refine wp_region_noPanic ?_
    refine wp_region_held_drew (S := fun w' => Blk w' g_O [.int .i64 u, .string d, .int .i64 t, .bool b1, .bool b2, .bool b3]) (by kernel_rfl) KO4.out (fun hS => ?_)
    have KR5 := Lib.hid (show Blk v4.drew g_R [.int .i64 0, .string ⟨#[]⟩, .int .i64 0, .bool false, .bool false, .bool false] from KR4.out.drew)
    have KO5 := Lib.hid (show Blk v4.drew g_O [.int .i64 u, .string d, .int .i64 t, .bool b1, .bool b2, .bool b3] from KO4.out.drew)
    have C5 := Lib.hid (show CurB v4.drew _ g from C4.out.below (Below.refl _ _).drew)
    have G5 := Lib.hid (show w.grownBy v4.drew (some g) from grown_tr G4.out (below_any (Below.refl _ v4).drew))
    clear KR4 KO4 C4 G4
    clear hS
    generalize v4.drew = v5 at KR5 KO5 C5 G5 ⊢
    have hS : Blk v5 g_O [.int .i64 u, .string d, .int .i64 t, .bool b1, .bool b2, .bool b3] := KO5.out
    refine wpAnyH_take (i := 1) (v := .pointer (some ⟨g, 0, none⟩)) rfl (by kernel_rfl) (by kernel_rfl) (by kernel_rfl) (fun _ _ _ h => h) (Or.inl ⟨rfl, by intro w hS; go_simp⟩) hS ?_
    refine wpAnyH_take (i := 0) (v := .agg #[.int .i64 u, .string d, .int .i64 t, .bool b1, .bool b2, .bool b3]) rfl (by kernel_rfl) (by kernel_rfl) (by kernel_rfl) (fun _ _ _ h => h) (Or.inl ⟨rfl, by intro w hS; obtain ⟨⟨h0, h1, h2, h3, h4, h5⟩, _⟩ := hS.of6; go_simp⟩) hS ?_
    refine wpAnyH_ready (rs := [2]) (by kernel_rfl) (by simp) ?_
    refine AllReadyH.cons (i := 2) rfl (fun K hK => ?zq8) AllReadyH.nil
    rw [if_pos (by rfl)]
    go_simp
    clear hS
    refine (l4Place_any _ g _ C5.out).mono ?_
    rintro e v6 ⟨x, rfl, hx, hcu, hgr⟩
    clear hx
    have KR6 := Lib.hid (KR5.out.grown hgr c_R)
    have KO6 := Lib.hid (KO5.out.grown hgr c_O)
    have G6 := Lib.hid (grown_tr G5.out hgr)
    have C6 := Lib.hid hcu
    clear hcu hgr KR5 KO5 G5 C5
    refine hK.out _ _ KO6.out (fun hS => ?_)
    clear hK K
    obtain ⟨⟨cR0, cR1, cR2, cR3, cR4, cR5⟩, dR0, dR1, dR2, dR3, dR4, dR5⟩ := KR6.out.of6
    refine wpAnyH_ready (rs := [3]) (by kernel_rfl) (by simp) ?_
    refine AllReadyH.cons (i := 3) rfl (fun K hK => ?zq9) AllReadyH.nil
    rw [if_pos (by rfl)]
    go_simp
    clear hS
    have KR7 := Lib.hid (show Blk ((((((v6.setCell ⟨g_R, 0, none⟩ (.int .i64 u)).setCell ⟨g_R, 1, none⟩ (.string d)).setCell ⟨g_R, 2, none⟩ (.int .i64 t)).setCell ⟨g_R, 3, none⟩ (.bool b1)).setCell ⟨g_R, 4, none⟩ (.bool b2)).setCell ⟨g_R, 5, none⟩ (.bool b3)) g_R [.int .i64 u, .string d, .int .i64 t, .bool b1, .bool b2, .bool b3] from ((((((KR6.out.set 0 (.int .i64 u)).set 1 (.string d)).set 2 (.int .i64 t)).set 3 (.bool b1)).set 4 (.bool b2)).set 5 (.bool b3)))
    have KO7 := Lib.hid (show Blk ((((((v6.setCell ⟨g_R, 0, none⟩ (.int .i64 u)).setCell ⟨g_R, 1, none⟩ (.string d)).setCell ⟨g_R, 2, none⟩ (.int .i64 t)).setCell ⟨g_R, 3, none⟩ (.bool b1)).setCell ⟨g_R, 4, none⟩ (.bool b2)).setCell ⟨g_R, 5, none⟩ (.bool b3)) g_O [.int .i64 u, .string d, .int .i64 t, .bool b1, .bool b2, .bool b3] from ((((((KO6.out.setOther ⟨g_R, 0, none⟩ (.int .i64 u) (n_O_R)).setOther ⟨g_R, 1, none⟩ (.string d) (n_O_R)).setOther ⟨g_R, 2, none⟩ (.int .i64 t) (n_O_R)).setOther ⟨g_R, 3, none⟩ (.bool b1) (n_O_R)).setOther ⟨g_R, 4, none⟩ (.bool b2) (n_O_R)).setOther ⟨g_R, 5, none⟩ (.bool b3) (n_O_R)))
    have E7 := Lib.hid (show Below z.heap.size z ((((((v6.setCell ⟨g_R, 0, none⟩ (.int .i64 u)).setCell ⟨g_R, 1, none⟩ (.string d)).setCell ⟨g_R, 2, none⟩ (.int .i64 t)).setCell ⟨g_R, 3, none⟩ (.bool b1)).setCell ⟨g_R, 4, none⟩ (.bool b2)).setCell ⟨g_R, 5, none⟩ (.bool b3)) from (((((((B0.out.trans ((below_new B1.out L1.out G6.out).mono hz)).setCell l_R _).setCell l_R _).setCell l_R _).setCell l_R _).setCell l_R _).setCell l_R _))
    refine hK.out _ _ KO7.out (fun hS => ?_)
    clear hK K
    clear KR6 KO6
    clear cR0 cR1 cR2 cR3 cR4 cR5 dR0 dR1 dR2 dR3 dR4 dR5
    generalize (((((v6.setCell ⟨g_R, 0, none⟩ (.int .i64 u)).setCell ⟨g_R, 1, none⟩ (.string d)).setCell ⟨g_R, 2, none⟩ (.int .i64 t)).setCell ⟨g_R, 3, none⟩ (.bool b1)).setCell ⟨g_R, 4, none⟩ (.bool b2)).setCell ⟨g_R, 5, none⟩ (.bool b3) = v7 at hS KR7 KO7 E7 ⊢
    refine wpAnyH_take (i := 4) (v := .int .i64 x) rfl (by kernel_rfl) (by kernel_rfl) (by kernel_rfl) (fun _ _ _ h => h) (Or.inl ⟨rfl, by intro w hS; go_simp⟩) hS ?_
    refine wpAnyH_done (by kernel_rfl) ?_ _
    refine NoPanic.normal ?_
    obtain ⟨⟨cR0, cR1, cR2, cR3, cR4, cR5⟩, dR0, dR1, dR2, dR3, dR4, dR5⟩ := KR7.out.of6
    go_wp2_with fail
    exact bodyPost_ret (v := .tuple #[.agg #[.int .i64 u, .string d, .int .i64 t, .bool b1, .bool b2, .bool b3], .int .i64 x]) (by simp [results, Try.results29, go_sem, cR0, cR1, cR2, cR3, cR4, cR5]) rfl ⟨u, d, t, b1, b2, b3, x, rfl, hd, E7.out⟩
  | false =>
    obtain ⟨⟨cR0, cR1, cR2, cR3, cR4, cR5⟩, dR0, dR1, dR2, dR3, dR4, dR5⟩ := KR4.out.of6
    obtain ⟨⟨cO0, cO1, cO2, cO3, cO4, cO5⟩, dO0, dO1, dO2, dO3, dO4, dO5⟩ := KO4.out.of6
    go_upto_region 5 with fail
    clear cR0 cR1 cR2 cR3 cR4 cR5 dR0 dR1 dR2 dR3 dR4 dR5 cO0 cO1 cO2 cO3 cO4 cO5 dO0 dO1 dO2 dO3 dO4 dO5
    refine wp_region_noPanic ?_
    refine wp_region_held_drew (S := fun w' => Blk w' g_O [.int .i64 u, .string d, .int .i64 t, .bool b1, .bool b2, .bool b3]) (by kernel_rfl) KO4.out (fun hS => ?_)
    have KR5 := Lib.hid (show Blk v4.drew g_R [.int .i64 0, .string ⟨#[]⟩, .int .i64 0, .bool false, .bool false, .bool false] from KR4.out.drew)
    have KO5 := Lib.hid (show Blk v4.drew g_O [.int .i64 u, .string d, .int .i64 t, .bool b1, .bool b2, .bool b3] from KO4.out.drew)
    have C5 := Lib.hid (show CurB v4.drew _ g from C4.out.below (Below.refl _ _).drew)
    have G5 := Lib.hid (show w.grownBy v4.drew (some g) from grown_tr G4.out (below_any (Below.refl _ v4).drew))
    clear KR4 KO4 C4 G4
    clear hS
    generalize v4.drew = v5 at KR5 KO5 C5 G5 ⊢
    have hS : Blk v5 g_O [.int .i64 u, .string d, .int .i64 t, .bool b1, .bool b2, .bool b3] := KO5.out
    refine wpAnyH_take (i := 1) (v := .pointer (some ⟨g_O, 0, none⟩)) rfl (by kernel_rfl) (by kernel_rfl) (by kernel_rfl) (fun _ _ _ h => h) (Or.inl ⟨rfl, by intro w hS; go_simp⟩) hS ?_
    refine wpAnyH_take (i := 3) (v := .pointer (some ⟨g, 0, none⟩)) rfl (by kernel_rfl) (by kernel_rfl) (by kernel_rfl) (fun _ _ _ h => h) (Or.inl ⟨rfl, by intro w hS; go_simp⟩) hS ?_
    refine wpAnyH_take (i := 0) (v := .agg #[.int .i64 u, .string d, .int .i64 t, .bool b1, .bool b2, .bool b3]) rfl (by kernel_rfl) (by kernel_rfl) (by kernel_rfl) (fun _ _ _ h => h) (Or.inl ⟨rfl, by intro w hS; obtain ⟨⟨h0, h1, h2, h3, h4, h5⟩, _⟩ := hS.of6; go_simp⟩) hS ?_
    refine wpAnyH_take (i := 2) (v := .int .i64 u) rfl (by kernel_rfl) (by kernel_rfl) (by kernel_rfl) (fun _ _ _ h => h) (Or.inl ⟨rfl, by intro w hS; obtain ⟨⟨h0, h1, h2, h3, h4, h5⟩, _⟩ := hS.of6; go_simp⟩) hS ?_
    refine wpAnyH_ready (rs := [4]) (by kernel_rfl) (by simp) ?_
    refine AllReadyH.cons (i := 4) rfl (fun K hK => ?zq10) AllReadyH.nil
    rw [if_pos (by rfl)]
    go_simp
    clear hS
    refine (l1Below_pos _ g _ C5.out 52 (by omega) (by omega)).mono ?_
    rintro e v6 ⟨q, rfl, hq, hcu, hgr⟩
    have KR6 := Lib.hid (KR5.out.grown hgr c_R)
    have KO6 := Lib.hid (KO5.out.grown hgr c_O)
    have G6 := Lib.hid (grown_tr G5.out hgr)
    have C6 := Lib.hid hcu
    clear hcu hgr KR5 KO5 G5 C5
    refine hK.out _ _ KO6.out (fun hS => ?_)
    clear hK K
    have hqw : IntKind.i64.wrap (q - 2) = q - 2 := IntWalk.i64_in _ (by omega)
    refine wpAnyH_take (i := 5) (v := .int .i64 (q - 2)) rfl (by kernel_rfl) (by kernel_rfl) (by kernel_rfl) (fun _ _ _ h => h) (Or.inl ⟨rfl, by intro w hS; first | (go_simp; done) | (go_simp; exact hqw)⟩) hS ?_
    clear hqw hq
    have SA := Lib.hid (seqAddS_s u (q - 2))
    generalize pl (u + (q - 2)) = x at SA
    refine wpAnyH_ready (rs := [6]) (by kernel_rfl) (by simp) ?_
    refine AllReadyH.cons (i := 6) rfl (fun K hK => ?zq11) AllReadyH.nil
    rw [if_pos (by rfl)]
    go_simp
    clear hS
    refine (SA.out _).mono ?_
    rintro e v7 ⟨rfl, hb⟩
    have KR7 := Lib.hid (KR6.out.below hb)
    have KO7 := Lib.hid (KO6.out.below hb)
    have G7 := Lib.hid (grown_tr G6.out (below_any hb))
    have C7 := Lib.hid (C6.out.below hb)
    clear hb KR6 KO6 G6 C6
    refine hK.out _ _ KO7.out (fun hS => ?_)
    clear hK K
    obtain ⟨⟨cR0, cR1, cR2, cR3, cR4, cR5⟩, dR0, dR1, dR2, dR3, dR4, dR5⟩ := KR7.out.of6
    refine wpAnyH_ready (rs := [7]) (by kernel_rfl) (by simp) ?_
    refine AllReadyH.cons (i := 7) rfl (fun K hK => ?zq12) AllReadyH.nil
    rw [if_pos (by rfl)]
    go_simp
    clear hS
    have KR8 := Lib.hid (show Blk ((((((v7.setCell ⟨g_R, 0, none⟩ (.int .i64 u)).setCell ⟨g_R, 1, none⟩ (.string d)).setCell ⟨g_R, 2, none⟩ (.int .i64 t)).setCell ⟨g_R, 3, none⟩ (.bool b1)).setCell ⟨g_R, 4, none⟩ (.bool b2)).setCell ⟨g_R, 5, none⟩ (.bool b3)) g_R [.int .i64 u, .string d, .int .i64 t, .bool b1, .bool b2, .bool b3] from ((((((KR7.out.set 0 (.int .i64 u)).set 1 (.string d)).set 2 (.int .i64 t)).set 3 (.bool b1)).set 4 (.bool b2)).set 5 (.bool b3)))
    have KO8 := Lib.hid (show Blk ((((((v7.setCell ⟨g_R, 0, none⟩ (.int .i64 u)).setCell ⟨g_R, 1, none⟩ (.string d)).setCell ⟨g_R, 2, none⟩ (.int .i64 t)).setCell ⟨g_R, 3, none⟩ (.bool b1)).setCell ⟨g_R, 4, none⟩ (.bool b2)).setCell ⟨g_R, 5, none⟩ (.bool b3)) g_O [.int .i64 u, .string d, .int .i64 t, .bool b1, .bool b2, .bool b3] from ((((((KO7.out.setOther ⟨g_R, 0, none⟩ (.int .i64 u) (n_O_R)).setOther ⟨g_R, 1, none⟩ (.string d) (n_O_R)).setOther ⟨g_R, 2, none⟩ (.int .i64 t) (n_O_R)).setOther ⟨g_R, 3, none⟩ (.bool b1) (n_O_R)).setOther ⟨g_R, 4, none⟩ (.bool b2) (n_O_R)).setOther ⟨g_R, 5, none⟩ (.bool b3) (n_O_R)))
    have E8 := Lib.hid (show Below z.heap.size z ((((((v7.setCell ⟨g_R, 0, none⟩ (.int .i64 u)).setCell ⟨g_R, 1, none⟩ (.string d)).setCell ⟨g_R, 2, none⟩ (.int .i64 t)).setCell ⟨g_R, 3, none⟩ (.bool b1)).setCell ⟨g_R, 4, none⟩ (.bool b2)).setCell ⟨g_R, 5, none⟩ (.bool b3)) from (((((((B0.out.trans ((below_new B1.out L1.out G7.out).mono hz)).setCell l_R _).setCell l_R _).setCell l_R _).setCell l_R _).setCell l_R _).setCell l_R _))
    refine hK.out _ _ KO8.out (fun hS => ?_)
    clear hK K
    clear KR7 KO7
    clear cR0 cR1 cR2 cR3 cR4 cR5 dR0 dR1 dR2 dR3 dR4 dR5
    generalize (((((v7.setCell ⟨g_R, 0, none⟩ (.int .i64 u)).setCell ⟨g_R, 1, none⟩ (.string d)).setCell ⟨g_R, 2, none⟩ (.int .i64 t)).setCell ⟨g_R, 3, none⟩ (.bool b1)).setCell ⟨g_R, 4, none⟩ (.bool b2)).setCell ⟨g_R, 5, none⟩ (.bool b3) = v8 at hS KR8 KO8 E8 ⊢
    refine wpAnyH_take (i := 8) (v := .int .i64 x) rfl (by kernel_rfl) (by kernel_rfl) (by kernel_rfl) (fun _ _ _ h => h) (Or.inl ⟨rfl, by intro w hS; go_simp⟩) hS ?_
    refine wpAnyH_done (by kernel_rfl) ?_ _
    refine NoPanic.normal ?_
    obtain ⟨⟨cR0, cR1, cR2, cR3, cR4, cR5⟩, dR0, dR1, dR2, dR3, dR4, dR5⟩ := KR8.out.of6
    go_wp2_with fail
    exact bodyPost_ret (v := .tuple #[.agg #[.int .i64 u, .string d, .int .i64 t, .bool b1, .bool b2, .bool b3], .int .i64 x]) (by simp [results, Try.results29, go_sem, cR0, cR1, cR2, cR3, cR4, cR5]) rfl ⟨u, d, t, b1, b2, b3, x, rfl, hd, E8.out⟩
end Go.Proofs.Ytkigkfedkjnkeaa
