/- impl's and the model's MacOk. Nothing here is a claim. -/
import Derived.Test.YtobfgkiccmhgdaaGreatTagTab
import Derived.Test.YtobfgkiccmhgdaaGreatDelTags
import Derived.Test.YtobfgkiccmhgdaaGreatCurA
import Derived.Test.YtobfgkiccmhgdaaGreatSameMac
import Derived.Maps.Ext
namespace Go.Proofs.YtobfgkiccmhgdaaGreat
open Go.RowKit Go.Lib Go.Maps

theorem keys_all {rs : List MR} {ks : List (List UInt8)} (h : ks.Perm (strKeys (tabD rs))) : ∀ r ∈ rs, r.s.data.toList ∈ ks := fun r hr =>
  h.mem_iff.2 (mem_strKeys ((tabD_has r.s rs).2 ⟨r, hr, rfl⟩))

set_option maxRecDepth 100000 in
set_option maxHeartbeats 4000000 in
theorem macOkI (u : Bool) (k l : Int) (a : Option Addr) (cap : Nat) (rs : List MR) (hl : rs.length ≤ 1048577) (hg : ∀ r ∈ rs, goodM r) (w : World) (hrow : Row w w.heap.size a (mrs rs)) :
    Calls Tryz.prog 97 #[.agg #[.bool u, .int .u64 k, .int .u64 l, .slice a rs.length cap]] w fun e w' => e = .returned (.bool (macOk u k l rs)) ∧ Below w.heap.size w w' := by
  have B1 := Lib.hid (show Below w.heap.size w (w.alloc (.cells #[.bool u, .int .u64 k, .int .u64 l, .slice a rs.length cap] 27)) from (Below.refl _ w).alloc (Nat.le_refl _) _)
  cases u
  · rw [macOk_key]
    clear hl hg hrow
    go_enter Tryz.func97, Tryz.ntmps97
    go_wp2_with fail
    go_ret
    exact ⟨ret_bool (by rw [Bool.eq_iff_iff]; simp), B1.out⟩
  by_cases hk : k = 0
  case neg =>
    rw [macOk_no (fun h => hk h.1)]
    have hk' : (k != 0) = true := by simpa [bne] using hk
    clear hl hg hrow
    go_enter Tryz.func97, Tryz.ntmps97
    go_wp2_with fail
    go_ret
    exact ⟨rfl, B1.out⟩
  subst hk
  by_cases hk : l = 0
  case neg =>
    rw [macOk_no (fun h => hk h.2.1)]
    have hk' : (l != 0) = true := by simpa [bne] using hk
    clear hl hg hrow
    go_enter Tryz.func97, Tryz.ntmps97
    go_wp2_with fail
    go_ret
    exact ⟨rfl, B1.out⟩
  subst hk
  by_cases hn : rs.length ≤ 64
  case neg =>
    rw [macOk_no (fun h => hn h.2.2.1)]
    have hn' : (64 : Int) < rs.length := by omega
    clear hl hg hrow hn
    go_enter Tryz.func97, Tryz.ntmps97
    go_wp2_with fail
    go_ret
    exact ⟨rfl, B1.out⟩
  have HN := Lib.hid hn
  have hn' : ¬ (64 : Int) < rs.length := by omega
  obtain ⟨r, hr⟩ : ∃ r, Hid (macOk true 0 0 rs = r) := ⟨_, rfl⟩
  rw [hr.out]
  have E1 := Lib.hid (Blk.new w [.bool true, .int .u64 0, .int .u64 0, .slice a rs.length cap] 27)
  have C := Lib.hid (tagTab a cap rs hl hg _ ((hrow.below B1.out).mono B1.out.size))
  clear hrow hn hl hg
  go_enter Tryz.func97, Tryz.ntmps97
  go_wp2_with fail
  generalize (w.alloc (.cells #[.bool true, .int .u64 0, .int .u64 0, .slice a rs.length cap] 27)) = w1 at B1 E1 C ⊢
  refine C.out.mono ?_
  rintro e w2 ⟨b, rfl, hown, hb, hb2⟩
  have B2 := Lib.hid (B1.out.trans (hb2.mono B1.out.size))
  have E2 := Lib.hid (E1.out.below hb2)
  have Z := hb2.size
  clear hb2 C E1 hn'
  obtain ⟨⟨c0, c1, c2, c3⟩, d0, d1, d2, d3⟩ := E2.out.four
  by_cases hap : Apart rs
  case neg =>
    have hx := Lib.hid (macOk_no (k := 0) (l := 0) (rs := rs) (fun h => hap h.2.2.2.1))
    have hs : Maps.size (tabD rs) < rs.length := Nat.lt_of_le_of_ne (tabD_le rs) (fun e => hap ((tabD_size rs).1 e))
    have hs' : (Maps.size (tabD rs) : Int) < rs.length := by omega
    go_wp2_with (at_len; refine wpList_len_own _ rfl _ 76 rfl 9 3 Tryz.underlying76 _ b rs.length _ rfl hown ?_)
    go_ret
    exact ⟨ret_bool (by rw [← hr.out, hx.out]), B2.out⟩
  have hs' : ¬ (Maps.size (tabD rs) : Int) < rs.length := by have := (tabD_size rs).2 hap; omega
  have hmx : Maps.size (tabD rs) ≤ 1048576 := by have := tabD_le rs; have := HN.out; omega
  go_wp2_with (at_len; refine wpList_len_own _ rfl _ 76 rfl 9 3 Tryz.underlying76 _ b rs.length _ rfl hown ?_)
  clear c0 c1 c2 c3 d0 d1 d2 d3 hs'
  refine (delTags b rs.length w1.heap.size (tabD rs) _ hown hmx hb).mono ?_
  rintro e w3 ⟨rfl, ⟨ks, hperm, hown3⟩, hb3⟩
  have B3 := Lib.hid (B2.out.trans (hb3.mono B1.out.size))
  clear hown hb3
  obtain ⟨es, hes, _, hkl⟩ := hown3.canon (Maps.string_keyed Tryz.underlying9)
  have hz := purge_zero hap (keys_all hperm) (fun es' h p hp => by rw [hes] at h; injection h with h; subst h; exact hkl p hp)
  by_cases hall : ∀ r ∈ rs, inTag r.v
  · have hx := Lib.hid (macOk_yes ⟨rfl, rfl, HN.out, hap, hall⟩)
    have h0 : ((Maps.size (purge (tabD rs) ks) : Int) == 0) = true := by rw [hz.2 hall]; rfl
    clear hz hes hkl
    go_wp2_with (at_len; refine wpList_len_own _ rfl _ 76 rfl 9 3 Tryz.underlying76 _ b rs.length _ rfl hown3 ?_)
    go_ret
    exact ⟨ret_bool (by rw [← hr.out, hx.out]), B3.out⟩
  · have hx := Lib.hid (macOk_no (k := 0) (l := 0) (rs := rs) (fun h => hall h.2.2.2.2))
    have h0 : ((Maps.size (purge (tabD rs) ks) : Int) == 0) = false := by
      have : Maps.size (purge (tabD rs) ks) ≠ 0 := fun e => hall (hz.1 e)
      rw [beq_eq_false_iff_ne]
      omega
    clear hz hes hkl
    go_wp2_with (at_len; refine wpList_len_own _ rfl _ 76 rfl 9 3 Tryz.underlying76 _ b rs.length _ rfl hown3 ?_)
    go_ret
    exact ⟨ret_bool (by rw [← hr.out, hx.out]), B3.out⟩
end Go.Proofs.YtobfgkiccmhgdaaGreat
