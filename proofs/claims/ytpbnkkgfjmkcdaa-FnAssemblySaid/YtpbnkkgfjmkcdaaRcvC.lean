/- A receiver copied: copyOfReceiver, l18Copy. Nothing here is a claim. -/
import Derived.Test.YtpbnkkgfjmkcdaaRcvLaw2
import Derived.Laws.AppendOwnNone
import Derived.Deep.RegionLaw
import Derived.Laws.IdiomCopy
import Derived.Lib.SliceRun
namespace Go.Proofs.Ytpbnkkgfjmkcdaa
open Go.RowKit Go.Lib

/-- New memory that holds these pieces; nothing old has turned. The slice may be nil where there are none. -/
def NewP (rs : List HP) (w : World) (e : Ending) (w' : World) : Prop :=
  ∃ a cap, e = .returned (.slice a rs.length cap) ∧ w'.ownsRow w.heap.size 64 2 (.slice a rs.length cap) rs.length (hps rs) ∧ Below w.heap.size w w'

set_option maxRecDepth 100000 in
set_option maxHeartbeats 800000 in
theorem cloneP (a : Option Addr) (cap : Nat) (rs : List HP) (w : World) (hrow : Row w w.heap.size a (hps rs)) (ha : a = none → rs = [] ∧ cap = 0) (hl : rs.length ≤ 1048577) :
    Calls Try.prog 66 #[.slice a rs.length cap] w (NewP rs w) := by
  cases a with
  | none =>
    obtain ⟨rfl, rfl⟩ := ha rfl
    have hq := Lib.run_eql_slice_nil (P := Try.prog) w 24 64 none 0 0 0 0 Try.underlying24
    go_enter Try.func66, Try.ntmps66
    go_wp2_with fail
    go_ret
    exact ⟨none, 0, rfl, ⟨rfl, .inl ⟨rfl, rfl⟩⟩, Below.refl _ _⟩
  | some ad =>
    obtain ⟨i0, hi, hz0, hz1, hz2⟩ := info_parts Try.info64
    have HR := Lib.hid (show ∀ j u, (hps rs)[j]? = some u → (w.alloc (.cells #[] 64)).cell? (ad.add j) = some u from fun j u hu => by
      obtain ⟨b, off, e, hb, hc⟩ := hrow (fun e => by rw [e] at hu; cases hu)
      cases e
      rw [adr_add]
      exact ((((Below.refl w.heap.size w).alloc (Nat.le_refl _) (.cells #[] 64)).cell (p := ⟨b, off + j, none⟩) hb)).trans (hc j u hu))
    have O0 := Lib.hid (World.ownsRow_lit (base := w.heap.size) (e := 64) (size := 2) w #[] 0 (Nat.le_refl _) (Nat.zero_le _) rfl)
    clear hrow ha
    have hq := Lib.run_eql_slice_nil (P := Try.prog) w 24 64 (some ad) rs.length cap 0 0 Try.underlying24
    go_enter Try.func66, Try.ntmps66
    go_wp2_with (at_builtin; refine wpList_append_own _ rfl _ _ 24 rfl w.heap.size 64 i0 (.agg #[.int .i64 0, .string ⟨#[]⟩]) 2 24 Try.underlying24 hi hz0 hz1 hz2 rfl (by decide) (.slice (some ⟨w.heap.size, 0, none⟩) 0 0) 0 [] rfl O0.out ad rs.length cap (hps rs) rfl (hps_length rs) HR.out (hps_one rs) (by unfold maxLen; omega) (by omega) (by simp) ?_; intro v' w1 hown1 hgrow1 hnil1)
    simp only [Nat.zero_add, List.nil_append] at hown1
    obtain ⟨g, c', rfl⟩ := own_shape hown1 (fun e => by have := (hnil1.1 e).1; cases this)
    go_ret
    exact ⟨some ⟨g, 0, none⟩, c', rfl, hown1, ((Below.refl _ w).alloc (Nat.le_refl _) _).grown hgrow1 (by simp) (fun j e => by cases e; exact Nat.le_refl _)⟩

set_option maxRecDepth 100000 in
set_option maxHeartbeats 2000000 in
theorem rcopyI (n f : Int) (z : Bool) (d : ByteArray) (a : Option Addr) (cap : Nat) (rs : List HP) (w : World) (hrow : Row w w.heap.size a (hps rs)) (ha : a = none → rs = [] ∧ cap = 0) (hl : rs.length ≤ 1048577) :
    Calls Try.prog 33 #[.agg #[.int .i64 n, .string d, .slice a rs.length cap, .int .i64 f, .bool z]] w (NewRE ⟨n, d, rs, f, z⟩ w) := by
  have HR := Lib.hid hrow
  have C := Lib.hid (fun w h => cloneP a cap rs w h ha hl)
  clear hrow ha hl
  go_enter Try.func33, Try.ntmps33
  have B0 := Lib.hid (show Below w.heap.size w ((w.alloc (.cells #[.int .i64 n, .string d, .slice a rs.length cap, .int .i64 f, .bool z] 26)).alloc (.cells #[.int .i64 0, .string ⟨#[]⟩, .slice none 0 0, .int .i64 0, .bool false] 26)) from (((Below.refl _ w).alloc (by simp) _).alloc (by simp) _))
  have Kl0 := Lib.hid (show Blk ((w.alloc (.cells #[.int .i64 n, .string d, .slice a rs.length cap, .int .i64 f, .bool z] 26)).alloc (.cells #[.int .i64 0, .string ⟨#[]⟩, .slice none 0 0, .int .i64 0, .bool false] 26)) (w.heap.size) [.int .i64 n, .string d, .slice a rs.length cap, .int .i64 f, .bool z] from (Blk.new w [.int .i64 n, .string d, .slice a rs.length cap, .int .i64 f, .bool z] 26).alloc (.cells #[.int .i64 0, .string ⟨#[]⟩, .slice none 0 0, .int .i64 0, .bool false] 26))
  have s1 : (w.alloc (.cells #[.int .i64 n, .string d, .slice a rs.length cap, .int .i64 f, .bool z] 26)).heap.size = w.heap.size + 1 := by simp
  have Kr0 := Lib.hid (show Blk ((w.alloc (.cells #[.int .i64 n, .string d, .slice a rs.length cap, .int .i64 f, .bool z] 26)).alloc (.cells #[.int .i64 0, .string ⟨#[]⟩, .slice none 0 0, .int .i64 0, .bool false] 26)) (w.heap.size + 1) [.int .i64 0, .string ⟨#[]⟩, .slice none 0 0, .int .i64 0, .bool false] by have h0 := Blk.new (w.alloc (.cells #[.int .i64 n, .string d, .slice a rs.length cap, .int .i64 f, .bool z] 26)) [.int .i64 0, .string ⟨#[]⟩, .slice none 0 0, .int .i64 0, .bool false] 26; rwa [s1] at h0)
  have n_l_r : w.heap.size ≠ w.heap.size + 1 := by omega
  clear s1
  go_wp2_with fail
  change Calls _ _ _ ((w.alloc (.cells #[.int .i64 n, .string d, .slice a rs.length cap, .int .i64 f, .bool z] 26)).alloc (.cells #[.int .i64 0, .string ⟨#[]⟩, .slice none 0 0, .int .i64 0, .bool false] 26)) _
  generalize (w.alloc (.cells #[.int .i64 n, .string d, .slice a rs.length cap, .int .i64 f, .bool z] 26)).alloc (.cells #[.int .i64 0, .string ⟨#[]⟩, .slice none 0 0, .int .i64 0, .bool false] 26) = v0 at B0 Kl0 Kr0 ⊢
  generalize hh_r : w.heap.size + 1 = g_r at Kr0 n_l_r ⊢
  generalize hh_l : w.heap.size = g_l at Kl0 n_l_r ⊢
  have l_l : w.heap.size ≤ g_l := by omega
  have l_r : w.heap.size ≤ g_r := by omega
  clear hh_l hh_r
  have hl0 := Kl0.out.lt
  have hr0 := Kr0.out.lt
  have hz0 := B0.out.size
  refine (C.out _ ((HR.out.below B0.out).mono B0.out.size)).mono ?_
  rintro e v1 ⟨a', cap', rfl, ho, hb⟩
  have B1 := Lib.hid (B0.out.trans (hb.mono hz0))
  have O1 := Lib.hid ho
  have Kl1 := Lib.hid (Kl0.out.below hb)
  have Kr1 := Lib.hid (Kr0.out.below hb)
  clear hb ho B0 Kl0 Kr0 HR
  obtain ⟨⟨c0, c1, c2, c3, c4⟩, d0, d1, d2, d3, d4⟩ := Kl1.out.of5
  obtain ⟨⟨e0, e1, e2, e3, e4⟩, f0, f1, f2, f3, f4⟩ := Kr1.out.of5
  go_wp2_with fail
  refine bodyPost_ret (v := .agg #[.int .i64 n, .string d, .slice a' rs.length cap', .int .i64 f, .bool z]) (by simp [results, Try.results33, go_sem, e0, e1, e2, e3, e4]) rfl ⟨a', cap', rfl, ?_, ?_⟩
  · exact own_down (own_set (own_set (own_set (own_set (own_set (own_set O1.out _ _ hl0 _) _ _ hr0 _) _ _ hr0 _) _ _ hr0 _) _ _ hr0 _) _ _ hr0 _) hz0
  · exact ((((((B1.out.setCell l_l _).setCell l_r _).setCell l_r _).setCell l_r _).setCell l_r _).setCell l_r _)

set_option maxRecDepth 100000 in
set_option maxHeartbeats 4000000 in
theorem rcopyS (n f : Int) (z : Bool) (d : ByteArray) (ad : Addr) (cap : Nat) (rs : List HP) (w : World) (hrow : Row w w.heap.size (some ad) (hps rs)) (hl : rs.length ≤ 1048577) :
    Calls Try.prog 40 #[.agg #[.int .i64 n, .string d, .slice (some ad) rs.length cap, .int .i64 f, .bool z]] w (NewRc ⟨n, d, rs, f, z⟩ w) := by
  obtain ⟨i0, hi, hz0, hz1, hz2⟩ := info_parts Try.info64
  have s1 : (w.alloc (.cells #[.int .i64 n, .string d, .slice (some ad) rs.length cap, .int .i64 f, .bool z] 26)).heap.size = w.heap.size + 1 := by simp
  have s2 : ((w.alloc (.cells #[.int .i64 n, .string d, .slice (some ad) rs.length cap, .int .i64 f, .bool z] 26)).alloc (.cells #[.int .i64 0, .string ⟨#[]⟩, .slice none 0 0, .int .i64 0, .bool false] 26)).heap.size = w.heap.size + 1 + 1 := by simp
  have B3 := Lib.hid (show Below w.heap.size w (((w.alloc (.cells #[.int .i64 n, .string d, .slice (some ad) rs.length cap, .int .i64 f, .bool z] 26)).alloc (.cells #[.int .i64 0, .string ⟨#[]⟩, .slice none 0 0, .int .i64 0, .bool false] 26)).alloc (.cells #[] 64)) from (((Below.refl _ w).alloc (Nat.le_refl _) _).alloc (by simp) _).alloc (by simp; omega) _)
  have HS := Lib.hid (show ∀ j u, (hps rs)[j]? = some u → (((w.alloc (.cells #[.int .i64 n, .string d, .slice (some ad) rs.length cap, .int .i64 f, .bool z] 26)).alloc (.cells #[.int .i64 0, .string ⟨#[]⟩, .slice none 0 0, .int .i64 0, .bool false] 26)).alloc (.cells #[] 64)).cell? (ad.add j) = some u from fun j u hu => by
    obtain ⟨b, off, e, hb, hc⟩ := ((hrow.below B3.out).mono B3.out.size) (fun e => by rw [e] at hu; cases hu)
    cases e
    rw [adr_add]
    exact hc j u hu)
  have E1 := Lib.hid (show Blk (((w.alloc (.cells #[.int .i64 n, .string d, .slice (some ad) rs.length cap, .int .i64 f, .bool z] 26)).alloc (.cells #[.int .i64 0, .string ⟨#[]⟩, .slice none 0 0, .int .i64 0, .bool false] 26)).alloc (.cells #[] 64)) w.heap.size [.int .i64 n, .string d, .slice (some ad) rs.length cap, .int .i64 f, .bool z] from ((Blk.new w [.int .i64 n, .string d, .slice (some ad) rs.length cap, .int .i64 f, .bool z] 26).alloc _).alloc _)
  have E2 := Lib.hid (show Blk (((w.alloc (.cells #[.int .i64 n, .string d, .slice (some ad) rs.length cap, .int .i64 f, .bool z] 26)).alloc (.cells #[.int .i64 0, .string ⟨#[]⟩, .slice none 0 0, .int .i64 0, .bool false] 26)).alloc (.cells #[] 64)) (w.heap.size + 1) [.int .i64 0, .string ⟨#[]⟩, .slice none 0 0, .int .i64 0, .bool false] by
    have := (Blk.new (w.alloc (.cells #[.int .i64 n, .string d, .slice (some ad) rs.length cap, .int .i64 f, .bool z] 26)) [.int .i64 0, .string ⟨#[]⟩, .slice none 0 0, .int .i64 0, .bool false] 26).alloc (.cells #[] 64)
    rwa [s1] at this)
  have O0 := Lib.hid (show ((((w.alloc (.cells #[.int .i64 n, .string d, .slice (some ad) rs.length cap, .int .i64 f, .bool z] 26)).alloc (.cells #[.int .i64 0, .string ⟨#[]⟩, .slice none 0 0, .int .i64 0, .bool false] 26)).alloc (.cells #[] 64))).ownsRow (w.heap.size + 1 + 1) 64 2 (.slice (some ⟨w.heap.size + 1 + 1, 0, none⟩) 0 0) 0 [] by
    have := World.ownsRow_lit (base := w.heap.size + 1 + 1) (e := 64) (size := 2) ((w.alloc (.cells #[.int .i64 n, .string d, .slice (some ad) rs.length cap, .int .i64 f, .bool z] 26)).alloc (.cells #[.int .i64 0, .string ⟨#[]⟩, .slice none 0 0, .int .i64 0, .bool false] 26)) #[] 0 (by rw [s2]; exact Nat.le_refl _) (Nat.zero_le _) rfl
    rwa [s2] at this)
  have hz3 : (((w.alloc (.cells #[.int .i64 n, .string d, .slice (some ad) rs.length cap, .int .i64 f, .bool z] 26)).alloc (.cells #[.int .i64 0, .string ⟨#[]⟩, .slice none 0 0, .int .i64 0, .bool false] 26)).alloc (.cells #[] 64)).heap.size = w.heap.size + 1 + 1 + 1 := by simp
  clear hrow s1 s2
  go_enter Try.func40, Try.ntmps40
  go_wp2_with (at_builtin; refine wpList_append_own _ rfl _ _ 24 rfl (w.heap.size + 1 + 1) 64 i0 (.agg #[.int .i64 0, .string ⟨#[]⟩]) 2 24 Try.underlying24 hi hz0 hz1 hz2 rfl (by decide) (.slice (some ⟨w.heap.size + 1 + 1, 0, none⟩) 0 0) 0 [] rfl O0.out ad rs.length cap (hps rs) rfl (hps_length rs) HS.out (hps_one rs) (by unfold maxLen; omega) (by omega) (by simp <;> omega) ?_; intro v' v0 hown1 hgrow1 hnil1; simp only [Nat.zero_add, List.nil_append] at hown1; obtain ⟨g_o, cp, rfl⟩ := own_shape hown1 (fun e => by have := (hnil1.1 e).1; cases this); have B0 := Lib.hid (B3.out.grown hgrow1 (by simp <;> omega) (fun j e => by cases e; exact Nat.le_trans (Nat.le_succ _) (Nat.le_succ _))); have O1 := Lib.hid hown1; have K1 := Lib.hid (E1.out.grown (g := w.heap.size + 1 + 1) hgrow1 (by omega)); have K2 := Lib.hid (E2.out.grown (g := w.heap.size + 1 + 1) hgrow1 (by omega)); clear hown1 hgrow1 hnil1 hz3 E1 E2 O0 B3; obtain ⟨⟨c0, c1, c2, c3, c4⟩, d0, d1, d2, d3, d4⟩ := K1.out.of5; obtain ⟨⟨e0, e1, e2, e3, e4⟩, f0, f1, f2, f3, f4⟩ := K2.out.of5)
  refine bodyPost_ret (v := .agg #[.int .i64 n, .string d, .slice (some ⟨g_o, 0, none⟩) rs.length cp, .int .i64 f, .bool z]) (by simp [results, Try.results40, go_sem, e0, e1, e2, e3, e4]) rfl ⟨g_o, cp, rfl, ?_, ?_⟩
  · exact own_down (own_set (own_set (own_set (own_set (own_set (own_set O1.out _ _ (by omega) _) _ _ (by omega) _) _ _ (by omega) _) _ _ (by omega) _) _ _ (by omega) _) _ _ (by omega) _) (by omega)
  · exact ((((((B0.out.setCell (by simp) _).setCell (by simp) _).setCell (by simp) _).setCell (by simp) _).setCell (by simp) _).setCell (by simp) _)

set_option maxRecDepth 100000 in
set_option maxHeartbeats 4000000 in
theorem rcopyS_nil (n f : Int) (z : Bool) (d : ByteArray) (w : World) :
    Calls Try.prog 40 #[.agg #[.int .i64 n, .string d, .slice none 0 0, .int .i64 f, .bool z]] w (NewRc ⟨n, d, [], f, z⟩ w) := by
  obtain ⟨i0, hi, hz0, hz1, hz2⟩ := info_parts Try.info64
  have s1 : (w.alloc (.cells #[.int .i64 n, .string d, .slice none 0 0, .int .i64 f, .bool z] 26)).heap.size = w.heap.size + 1 := by simp
  have s2 : ((w.alloc (.cells #[.int .i64 n, .string d, .slice none 0 0, .int .i64 f, .bool z] 26)).alloc (.cells #[.int .i64 0, .string ⟨#[]⟩, .slice none 0 0, .int .i64 0, .bool false] 26)).heap.size = w.heap.size + 1 + 1 := by simp
  have B3 := Lib.hid (show Below w.heap.size w (((w.alloc (.cells #[.int .i64 n, .string d, .slice none 0 0, .int .i64 f, .bool z] 26)).alloc (.cells #[.int .i64 0, .string ⟨#[]⟩, .slice none 0 0, .int .i64 0, .bool false] 26)).alloc (.cells #[] 64)) from (((Below.refl _ w).alloc (Nat.le_refl _) _).alloc (by simp) _).alloc (by simp; omega) _)
  have E1 := Lib.hid (show Blk (((w.alloc (.cells #[.int .i64 n, .string d, .slice none 0 0, .int .i64 f, .bool z] 26)).alloc (.cells #[.int .i64 0, .string ⟨#[]⟩, .slice none 0 0, .int .i64 0, .bool false] 26)).alloc (.cells #[] 64)) w.heap.size [.int .i64 n, .string d, .slice none 0 0, .int .i64 f, .bool z] from ((Blk.new w [.int .i64 n, .string d, .slice none 0 0, .int .i64 f, .bool z] 26).alloc _).alloc _)
  have E2 := Lib.hid (show Blk (((w.alloc (.cells #[.int .i64 n, .string d, .slice none 0 0, .int .i64 f, .bool z] 26)).alloc (.cells #[.int .i64 0, .string ⟨#[]⟩, .slice none 0 0, .int .i64 0, .bool false] 26)).alloc (.cells #[] 64)) (w.heap.size + 1) [.int .i64 0, .string ⟨#[]⟩, .slice none 0 0, .int .i64 0, .bool false] by
    have := (Blk.new (w.alloc (.cells #[.int .i64 n, .string d, .slice none 0 0, .int .i64 f, .bool z] 26)) [.int .i64 0, .string ⟨#[]⟩, .slice none 0 0, .int .i64 0, .bool false] 26).alloc (.cells #[] 64)
    rwa [s1] at this)
  have O0 := Lib.hid (show ((((w.alloc (.cells #[.int .i64 n, .string d, .slice none 0 0, .int .i64 f, .bool z] 26)).alloc (.cells #[.int .i64 0, .string ⟨#[]⟩, .slice none 0 0, .int .i64 0, .bool false] 26)).alloc (.cells #[] 64))).ownsRow (w.heap.size + 1 + 1) 64 2 (.slice (some ⟨w.heap.size + 1 + 1, 0, none⟩) 0 0) 0 [] by
    have := World.ownsRow_lit (base := w.heap.size + 1 + 1) (e := 64) (size := 2) ((w.alloc (.cells #[.int .i64 n, .string d, .slice none 0 0, .int .i64 f, .bool z] 26)).alloc (.cells #[.int .i64 0, .string ⟨#[]⟩, .slice none 0 0, .int .i64 0, .bool false] 26)) #[] 0 (by rw [s2]; exact Nat.le_refl _) (Nat.zero_le _) rfl
    rwa [s2] at this)
  have hz3 : (((w.alloc (.cells #[.int .i64 n, .string d, .slice none 0 0, .int .i64 f, .bool z] 26)).alloc (.cells #[.int .i64 0, .string ⟨#[]⟩, .slice none 0 0, .int .i64 0, .bool false] 26)).alloc (.cells #[] 64)).heap.size = w.heap.size + 1 + 1 + 1 := by simp
  clear s1 s2
  go_enter Try.func40, Try.ntmps40
  go_wp2_with (at_builtin; refine wpList_append_own_none rfl _ _ 24 rfl (w.heap.size + 1 + 1) 64 i0 2 Try.underlying24 hi (.slice (some ⟨w.heap.size + 1 + 1, 0, none⟩) 0 0) 0 [] rfl O0.out rfl ?_; clear hz3; generalize ((w.alloc (.cells #[.int .i64 n, .string d, .slice none 0 0, .int .i64 f, .bool z] 26)).alloc (.cells #[.int .i64 0, .string ⟨#[]⟩, .slice none 0 0, .int .i64 0, .bool false] 26)).alloc (.cells #[] 64) = v0 at E1 E2 O0 B3 ⊢; obtain ⟨⟨c0, c1, c2, c3, c4⟩, d0, d1, d2, d3, d4⟩ := E1.out.of5; obtain ⟨⟨e0, e1, e2, e3, e4⟩, f0, f1, f2, f3, f4⟩ := E2.out.of5)
  refine bodyPost_ret (v := .agg #[.int .i64 n, .string d, .slice (some ⟨w.heap.size + 1 + 1, 0, none⟩) 0 0, .int .i64 f, .bool z]) (by simp [results, Try.results40, go_sem, e0, e1, e2, e3, e4]) rfl ⟨w.heap.size + 1 + 1, 0, rfl, ?_, ?_⟩
  · exact own_down (own_set (own_set (own_set (own_set (own_set (own_set O0.out _ _ (by omega) _) _ _ (by omega) _) _ _ (by omega) _) _ _ (by omega) _) _ _ (by omega) _) _ _ (by omega) _) (by omega)
  · exact ((((((B3.out.setCell (by simp) _).setCell (by simp) _).setCell (by simp) _).setCell (by simp) _).setCell (by simp) _).setCell (by simp) _)
end Go.Proofs.Ytpbnkkgfjmkcdaa
