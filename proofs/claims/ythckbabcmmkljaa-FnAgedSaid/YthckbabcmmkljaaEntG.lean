/- Aged, of both sides. Nothing here is a claim. -/
import Derived.Test.YthckbabcmmkljaaEntA
import Derived.Deep.AppendLies
namespace Go.Proofs.Ythckbabcmmkljaa
open Go.RowKit Go.Lib

theorem Try.info49 : (Try.prog.info? 49).map (fun i => (i.zero, i.size, i.bytes)) = some (some (.agg #[.int .i64 0, .int .i64 0, .int .i64 0]), 3, 24) := by kernel_rfl
/-- New memory that holds these entries; nothing old has turned. The slice may be nil where there are none. -/
def NewE (rs : List ER) (w : World) (e : Ending) (w' : World) : Prop :=
  ∃ a cap, e = .returned (.slice a rs.length cap) ∧ w'.ownsRow w.heap.size 49 3 (.slice a rs.length cap) rs.length (ers rs) ∧ Below w.heap.size w w'
/-- As NewE, and never nil. -/
def NewS (rs : List ER) (w : World) (e : Ending) (w' : World) : Prop :=
  ∃ g cap, e = .returned (.slice (some ⟨g, 0, none⟩) rs.length cap) ∧ w'.ownsRow w.heap.size 49 3 (.slice (some ⟨g, 0, none⟩) rs.length cap) rs.length (ers rs) ∧ Below w.heap.size w w'
theorem NewS.weak {rs : List ER} {w : World} {e : Ending} {w' : World} (h : NewS rs w e w') : NewE rs w e w' := by
  obtain ⟨g, cap, h1, h2, h3⟩ := h
  exact ⟨_, cap, h1, h2, h3⟩
theorem aged_le (rs : List ER) (k : Nat) (h : k ≤ rs.length) : (agedE (rs.take k)).length ≤ k := by
  have := agedE_length (rs.take k)
  rw [List.length_take] at this
  omega
set_option maxRecDepth 100000 in
set_option maxHeartbeats 2000000 in
theorem agedN (a : Option Addr) (cap : Nat) (rs : List ER) (w : World) (hrow : Row w w.heap.size a (ers rs)) (hl : rs.length ≤ 1048577) (hg : ∀ r ∈ rs, goodE r) :
    Calls Try.prog 20 #[.slice a rs.length cap] w (NewS (agedE rs) w) := by
  obtain ⟨i0, hi, hz0, hz1, hz2⟩ := info_parts Try.info49
  have HR := Lib.hid hrow
  have HG := Lib.hid hg
  clear hrow hg
  have O0 := Lib.hid (World.ownsRow_lit (base := w.heap.size) (e := 49) (size := 3) w #[] 0 (Nat.le_refl _) (Nat.zero_le _) rfl)
  have B0 := Lib.hid (show Below w.heap.size w (w.alloc (.cells #[] 49)) from (Below.refl _ _).alloc (Nat.le_refl _) _)
  go_enter Try.func20, Try.ntmps20
  go_wp2_with fail
  go_loopw [3, 4] (fun v i wr => ∃ k : Nat, k ≤ rs.length ∧ i = .int .i64 k ∧ ∃ (gg cp : Nat), v = .slice (some ⟨gg, 0, none⟩) (agedE (rs.take k)).length cp ∧ Hid (wr.ownsRow w.heap.size 49 3 (.slice (some ⟨gg, 0, none⟩) (agedE (rs.take k)).length cp) (agedE (rs.take k)).length (ers (agedE (rs.take k)))) ∧ Hid (Below w.heap.size w wr))
    (fun _ i _ => rs.length - (RowKit.intOf i).toNat)
  case atStart => exact ⟨0, Nat.zero_le _, rfl, w.heap.size, 0, rfl, O0, B0⟩
  case round =>
    obtain ⟨k, hk, rfl, gg, cp, rfl, hO, hB⟩ := hrel
    clear O0 B0
    by_cases hlt : k < rs.length
    · obtain ⟨b, off, rfl, hbb, hcs⟩ := (HR.out.below hB.out).er hlt
      obtain ⟨hc0, hc1, hc2⟩ := hcs k hlt
      have hk0 : (0 : Int) ≤ (k : Int) := Int.natCast_nonneg _
      have hk1 : (k : Int) < (rs.length : Int) := by omega
      clear hcs
      have hn := agedE_next hlt
      have hal := aged_le rs k hk
      have hbs : b < wr.heap.size := Nat.lt_of_lt_of_le hbb hB.out.size
      by_cases h9 : rs[k].age < 9
      · rw [if_pos h9] at hn
        have HN := Lib.hid hn
        clear hn
        have hga := goodE_age (HG.out rs[k] (List.getElem_mem hlt))
        have hw : IntKind.i64.wrap (rs[k].age + 1) = rs[k].age + 1 := IntWalk.i64_in _ (by omega)
        have hnw := Lib.hid (show ((wr.alloc (.cells #[.int .i64 rs[k].ip, .int .i64 rs[k].hw, .int .i64 (rs[k].age + 1)] 49)).alloc (.cells #[.int .i64 rs[k].ip, .int .i64 rs[k].hw, .int .i64 (rs[k].age + 1)] 49)).heap[wr.heap.size + 1]? = some (.cells #[.int .i64 rs[k].ip, .int .i64 rs[k].hw, .int .i64 (rs[k].age + 1)] 49 (0, 0)) by
          have h0 := heap_alloc_new (wr.alloc (.cells #[.int .i64 rs[k].ip, .int .i64 rs[k].hw, .int .i64 (rs[k].age + 1)] 49)) (.cells #[.int .i64 rs[k].ip, .int .i64 rs[k].hw, .int .i64 (rs[k].age + 1)] 49)
          rwa [show (wr.alloc (.cells #[.int .i64 rs[k].ip, .int .i64 rs[k].hw, .int .i64 (rs[k].age + 1)] 49)).heap.size = wr.heap.size + 1 by simp] at h0)
        have hB2 := Lib.hid (show Below wr.heap.size wr ((wr.alloc (.cells #[.int .i64 rs[k].ip, .int .i64 rs[k].hw, .int .i64 (rs[k].age + 1)] 49)).alloc (.cells #[.int .i64 rs[k].ip, .int .i64 rs[k].hw, .int .i64 (rs[k].age + 1)] 49)) from ((Below.refl _ _).alloc (Nat.le_refl _) _).alloc (by simp) _)
        have hO2 := Lib.hid (own_below hO.out hB2.out)
        have hbz := hB.out.size
        go_wp2_with (at_builtin; refine wpList_append_lies _ rfl _ _ _ rfl w.heap.size 49 i0 _ 3 24 Try.underlying24 hi hz0 hz1 hz2 rfl (by omega) _ (agedE (rs.take k)).length _ rfl hO2.out ⟨wr.heap.size + 1, 0, none⟩ 1 1 [.int .i64 rs[k].ip, .int .i64 rs[k].hw, .int .i64 (rs[k].age + 1)] rfl rfl (World.news_of_block (cs := #[.int .i64 rs[k].ip, .int .i64 rs[k].hw, .int .i64 (rs[k].age + 1)]) (t := 49) (fr := (0, 0)) hnw.out) (by simp [Value.oneCell']) (by omega) (by unfold maxLen; omega) (by omega) (by simp; omega) (wr.heap.size + 2) (by simp) ?_; intro gg' cap' w4 hown4 hgrow hat hlt')
        have hB4 : Below w.heap.size w w4 := (hB.out.trans (hB2.out.mono hbz)).grown hgrow (Nat.le_trans hbz hB2.out.size) (fun j e => (hO2.out.lt j e).1)
        have e5 : agedE (rs.take k) ++ [⟨rs[k].ip, rs[k].hw, rs[k].age + 1⟩] = agedE (rs.take (k + 1)) := HN.out.symm
        have e6 : (agedE (rs.take (k + 1))).length = (agedE (rs.take k)).length + 1 := by rw [HN.out, List.length_append]; rfl
        rw [show ers (agedE (rs.take k)) ++ [.int .i64 rs[k].ip, .int .i64 rs[k].hw, .int .i64 (rs[k].age + 1)] = ers (agedE (rs.take (k + 1))) by rw [← e5, ers_append]; rfl, ← e6] at hown4
        rw [← e6]
        clear hgrow hat hlt' hO hB hO2 hB2 hnw
        go_roundw
        case rel => exact ⟨k + 1, by omega, by go_num, gg', cap', rfl, hown4, hB4⟩
        case measure => simp [RowKit.intOf]; omega
      · rw [if_neg h9, List.append_nil] at hn
        have HN := Lib.hid hn
        clear hn
        go_wp2_with fail
        go_roundw
        case rel => exact ⟨k + 1, by omega, by go_num, gg, cp, by rw [HN.out], by rw [HN.out]; exact own_below hO.out ((Below.refl _ _).alloc (Nat.le_refl _) _), hB.out.alloc hB.out.size _⟩
        case measure => simp [RowKit.intOf]; omega
    · obtain rfl : k = rs.length := by omega
      rw [List.take_length] at hO ⊢
      go_wp2_with fail
      go_ret
      exact ⟨gg, cp, rfl, hO.out, hB.out⟩
theorem agedS (a : Option Addr) (cap : Nat) (rs : List ER) (w : World) (hrow : Row w w.heap.size a (ers rs)) (hl : rs.length ≤ 1048577) (hg : ∀ r ∈ rs, goodE r) :
    Calls Try.prog 20 #[.slice a rs.length cap] w (NewE (agedE rs) w) := (agedN a cap rs w hrow hl hg).mono fun _ _ h => h.weak
end Go.Proofs.Ythckbabcmmkljaa
