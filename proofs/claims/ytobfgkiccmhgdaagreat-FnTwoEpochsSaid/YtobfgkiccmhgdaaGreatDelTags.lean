/- slices.Sorted(maps.Keys(table)) and impl's deleteTags. Nothing here is a claim. -/
import Derived.Test.YtobfgkiccmhgdaaGreatBase
import Derived.Test.YtobfgkiccmhgdaaGreatKeysLay
import Derived.Test.YtobfgkiccmhgdaaGreatMacKit
import Derived.Test.YtobfgkiccmhgdaaGreatOpenM
import Derived.Sort.OwnSorted
import Derived.Maps.OwnOps
import Derived.StringKeys
namespace Go.Proofs.YtobfgkiccmhgdaaGreat
open Go.RowKit Go.Lib Go.Maps Go.Sort Go.Shelf

theorem sortsM (m : Nat) : AnyZ.SortsIn Tryz.prog Tryz.lay_sorted_ren Fence.wide m :=
  ⟨fun blk off cap ss W hH hblk hsz => callsIn_wide.2 (AnyM.slices_Sort_string Tryz.lay_sort blk off cap ss W hH hblk hsz),
   fun p cap W => callsIn_wide.2 (AnyM.slices_Sort_string_none Tryz.lay_sort p cap W)⟩
/-- maps.Keys: a function value over one new block that holds the map. -/
theorem keysM (b : Nat) (W : World) : Calls Tryz.prog 102 #[.map (some b)] W fun e w' => e = .returned (.func (.func 105) #[] #[.pointer (some ⟨W.heap.size, 0, none⟩)]) ∧ w' = W.alloc (.cells #[.map (some b)] 76) :=
  (callsIn_wide (n := 5)).1 (AnyZ.keys_in Tryz.lay_keys Fence.wide 5 trivial rfl (some b) W)
set_option maxHeartbeats 1000000 in
/-- slices.Sorted of what maps.Keys handed back: a new slice of all keys. -/
theorem sortedM (b nn : Nat) (D : DataW Unit) (w : World) (hown : w.ownsMap Tryz.prog 9 (plainElem Tryz.prog 3) b nn D) (hmax : Maps.size D ≤ 1048576) :
    Calls Tryz.prog 101 #[.func (.func 105) #[] #[.pointer (some ⟨w.heap.size, 0, none⟩)]] (w.alloc (.cells #[.map (some b)] 76)) fun e w' => ∃ (v : Value) (ks : List (List UInt8)), e = .returned v ∧ ks.Perm (strKeys D) ∧
      w'.ownsRow w.heap.size 9 1 v ks.length (ks.map encStr) ∧ Below w.heap.size w w' := by
  have hbl := hown.lt
  have hseq : SeqGives Fence.wide 2 Tryz.prog 105 #[.pointer (some ⟨w.heap.size, 0, none⟩)] encStr (fun ss => ss.Perm (strKeys D)) (Maps.size D) (w.alloc (.cells #[.map (some b)] 76)) :=
    AnyZ.keys_gives (ρ := Tryz.lay_keys_ren) { Tryz.lay_keys with } Fence.wide _ trivial rfl (by omega) w.heap.size b nn D _ (by simp) (by simp) (by
      obtain ⟨es, clock, hb, Ft, hs, hD⟩ := hown
      exact ⟨es, clock, (Below.heap_alloc _ _ b hbl).trans hb, Ft, hs, hD⟩)
  refine (callsIn_wide (n := 5)).1 ((AnyZ.sorted_in Tryz.lay_sorted Fence.wide 5 trivial trivial trivial trivial rfl (by omega) (sortsM _) (enters_of Tryz.func104 (by kernel_rfl) rfl) 105 #[.pointer (some ⟨w.heap.size, 0, none⟩)] trivial (enters_of Tryz.func105 (by kernel_rfl) rfl) _ (Maps.size D) (by unfold maxLen; omega) (by omega) _ hseq).mono ?_)
  rintro e w' ⟨v, ss, rfl, hS, hrow, _, hb⟩
  refine ⟨v, ss.mergeSort (fun x y => decide (x ≤ y)), rfl, (List.mergeSort_perm ss _).trans hS, ?_, ((Below.refl _ w).alloc (Nat.le_refl _) _).trans (hb.mono (by simp))⟩
  rw [List.length_mergeSort]
  exact own_down hrow (by simp)

theorem purge_take (D : DataW Unit) (ks : List (List UInt8)) (j : Nat) (h : j < ks.length) : purge D (ks.take (j + 1)) = purge1 (purge D (ks.take j)) ks[j] := by
  rw [List.take_succ_eq_append_getElem h, purge_snoc]
theorem purge1_yes {D : DataW Unit} {x : List UInt8} {c : Int} (h : D.atKey (.string x) (.lit (.int .i64 0)) = .lit (.int .i64 c)) (h2 : 0 ≤ c ∧ c < 16777216) : purge1 D x = D.del (.string x) := by
  unfold purge1
  rw [numAt_of h, if_pos (show inTag c from h2)]
theorem purge1_not {D : DataW Unit} {x : List UInt8} {c : Int} (h : D.atKey (.string x) (.lit (.int .i64 0)) = .lit (.int .i64 c)) (h2 : ¬ (0 ≤ c ∧ c < 16777216)) : purge1 D x = D := by
  unfold purge1
  rw [numAt_of h, if_neg (show ¬ inTag c from h2)]
theorem keyOf_enc {x : List UInt8} (h : x.length ≤ maxLen) : keyOf Tryz.prog 9 (encStr x) = some (.string x) := by
  have := WideMaps.keyOf_string_mk (P := Tryz.prog) Tryz.underlying9 (s := ⟨x.toArray⟩) (show x.toArray.size ≤ maxLen by simpa using h)
  simpa [encStr] using this
theorem below_turn {n0 b : Nat} {W w' : World} (h : W.mapTurned w' b) (hn : n0 ≤ b) : Below n0 W w' := by
  have hg := h.grown
  obtain ⟨es, ck, _, _, hb, _⟩ := h
  have hlt := (Array.getElem?_eq_some_iff.1 hb).1
  exact (Below.refl n0 W).grown hg (by omega) (fun k e => by injection e with e; omega)

/-- What deleteTags leaves. -/
def DelEnd (D : DataW Unit) (b nn n0 : Nat) (w : World) (e : Ending) (w' : World) : Prop :=
  e = .returned (.tuple #[]) ∧ (∃ ks : List (List UInt8), ks.Perm (strKeys D) ∧ w'.ownsMap Tryz.prog 9 (plainElem Tryz.prog 3) b nn (purge D ks)) ∧ Below n0 w w'

set_option maxRecDepth 100000 in
set_option maxHeartbeats 4000000 in
theorem delTags (b nn n0 : Nat) (D : DataW Unit) (w : World) (hown : w.ownsMap Tryz.prog 9 (plainElem Tryz.prog 3) b nn D) (hmax : Maps.size D ≤ 1048576) (hn0 : n0 ≤ b) :
    Calls Tryz.prog 99 #[.map (some b)] w (DelEnd D b nn n0 w) := by
  have hbl := hown.lt
  have hkl := strKeys_le hown Tryz.underlying9
  have C := Lib.hid (sortedM b nn D w hown hmax)
  go_enter Tryz.func99, Tryz.ntmps99
  go_wp2_with fail
  refine (keysM b w).mono ?_
  rintro e w1 ⟨rfl, rfl⟩
  go_wp2_with fail
  refine C.out.mono ?_
  rintro e w2 ⟨v, ks, rfl, hperm, hrow, hb2⟩
  have hks : ∀ x ∈ ks, x.length ≤ maxLen := fun x hx => hkl x (hperm.mem_iff.1 hx)
  have hlen : ks.length ≤ 1048576 := by
    rw [hperm.length_eq]
    cases D with
    | map es => simpa [strKeys, Maps.size] using hmax
    | _ => simp [strKeys]
  have hown2 : w2.ownsMap Tryz.prog 9 (plainElem Tryz.prog 3) b nn D := by
    obtain ⟨es, clock, hb, Ft, hs, hD⟩ := hown
    exact ⟨es, clock, (hb2.block b hbl).trans hb, Ft, hs, hD⟩
  have B2 := Lib.hid (hb2.mono (show n0 ≤ w.heap.size by omega))
  have HP := Lib.hid hperm
  rcases hrow.2 with ⟨rfl, hz⟩ | ⟨g, cap, cur, rfl, hbase, _⟩
  · obtain rfl := List.eq_nil_of_length_eq_zero hz
    clear hrow hz hb2 hperm
    go_wp2_with fail
    go_loopw [9] (fun i wr => i = .int .i64 0 ∧ wr = w2) (fun _ _ => 0)
    case atStart => exact ⟨rfl, rfl⟩
    case round =>
      obtain ⟨rfl, rfl⟩ := hrel
      go_wp2_with fail
      go_end0
      exact ⟨rfl, ⟨[], HP.out, hown2⟩, B2.out⟩
  · clear hb2 hperm
    go_wp2_with fail
    go_loopw [9] (fun i wr => ∃ j : Nat, j ≤ ks.length ∧ i = .int .i64 j ∧ Hid (wr.ownsMap Tryz.prog 9 (plainElem Tryz.prog 3) b nn (purge D (ks.take j))) ∧ Hid (wr.ownsRow w.heap.size 9 1 (.slice (some ⟨g, 0, none⟩) ks.length cap) ks.length (ks.map encStr)) ∧ Hid (Below n0 w wr)) (fun i _ => ks.length - (RowKit.intOf i).toNat)
    case atStart => exact ⟨0, Nat.zero_le _, rfl, hown2, hrow, B2⟩
    case round =>
      obtain ⟨j, hj, rfl, hm, hr, hbw⟩ := hrel
      clear hown2 hrow
      by_cases hlt : j < ks.length
      · have hc0 : wr.cell? ⟨g, j, none⟩ = some (encStr ks[j]) := (hr.out.cellAt j (by omega)).trans (by simp [hlt])
        have hkey := Lib.hid (keyOf_enc (hks ks[j] (List.getElem_mem hlt)))
        have hk0 : (0 : Int) ≤ (j : Int) := Int.natCast_nonneg _
        have hk1 : (j : Int) < (ks.length : Int) := by omega
        have hpt := Lib.hid (purge_take D ks j hlt)
        obtain ⟨x, hx⟩ : ∃ x, encStr ks[j] = x := ⟨_, rfl⟩
        rw [hx] at hc0 hkey
        go_wp2_with (first | (at_lookup; refine wpList_lookup_own_int _ rfl _ _ 76 rfl 9 3 .i64 (Maps.string_keyed Tryz.underlying9) Tryz.underlying76 Tryz.underlying3 (Tryz.zeroValue3 _) b nn _ rfl hm.out _ _ rfl hkey.out ?_; intro c hat hwc) | (at_delete; refine wpList_delete_own _ rfl _ _ 76 9 rfl 3 (Maps.string_keyed Tryz.underlying9) Tryz.underlying76 _ b nn _ rfl hm.out _ _ rfl hkey.out ?_; intro w3 hown3 hturn3; have hb3 := below_turn hturn3 hn0; have hr3 := hr.out.kept hturn3.grown (.inr (own_ne (show g ≠ b by omega)))))
        all_goals go_roundw
        all_goals first
          | (simp [RowKit.intOf]; omega)
          | exact ⟨j + 1, by omega, by go_num, by rw [hpt.out, purge1_yes hat (by omega)]; exact hown3, hr3, hbw.out.trans hb3⟩
          | exact ⟨j + 1, by omega, by go_num, by rw [hpt.out, purge1_not hat (by omega)]; exact hm, hr, hbw⟩
      · obtain rfl : j = ks.length := by omega
        rw [List.take_of_length_le (Nat.le_refl _)] at hm
        go_wp2_with fail
        go_end0
        exact ⟨rfl, ⟨ks, HP.out, hm.out⟩, hbw.out⟩
end Go.Proofs.YtobfgkiccmhgdaaGreat
