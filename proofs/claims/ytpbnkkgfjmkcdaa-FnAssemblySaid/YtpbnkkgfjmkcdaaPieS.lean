/- The model's l18Pieces. Nothing here is a claim. -/
import Derived.Test.YtpbnkkgfjmkcdaaSlotS
import Derived.Test.YtpbnkkgfjmkcdaaRcvLaw
import Derived.Deep.AppendLies
import Derived.Deep.RegionHeld3
import Derived.Test.YtpbnkkgfjmkcdaaHeldTill
namespace Go.Proofs.Ytpbnkkgfjmkcdaa
open Go.RowKit Go.Lib

/-- New memory that holds these pieces; never nil. -/
def NewPs (rs : List HP) (w : World) (e : Ending) (w' : World) : Prop :=
  ∃ g cap, e = .returned (.slice (some ⟨g, 0, none⟩) rs.length cap) ∧ w'.ownsRow w.heap.size 64 2 (.slice (some ⟨g, 0, none⟩) rs.length cap) rs.length (hps rs) ∧ Below w.heap.size w w'
/-- What is known of pieces while they are made. -/
def Mid (L : List HP) (k : Nat) : Prop := L.length ≤ k ∧ (∀ r ∈ L, r.t.size ≤ k ∧ 0 ≤ r.o ∧ r.o ≤ 100)
theorem Mid.zero : Mid [] 0 := ⟨Nat.le_refl _, fun _ h => by cases h⟩
theorem Mid.step {L : List HP} {k : Nat} (h : Mid L k) (hk : k ≤ 100) (b : UInt8) : Mid (stepP L k b) (k + 1) := by
  by_cases e : lastEnd L = some (k : Int)
  · obtain ⟨h0, e1, e2⟩ := stepP_old (b := b) e
    rw [e1]
    refine ⟨by rw [List.length_set]; have := h.1; omega, fun r hr => ?_⟩
    rcases List.mem_or_eq_of_mem_set hr with h1 | rfl
    · have := h.2 r h1; omega
    · have := h.2 _ (List.getElem_mem (show L.length - 1 < L.length by omega))
      refine ⟨?_, this.2.1, this.2.2⟩
      simp only [ByteArray.size_push]
      omega
  · rw [stepP_new e]
    refine ⟨by rw [List.length_append]; have := h.1; simp; omega, fun r hr => ?_⟩
    rcases List.mem_append.1 hr with h1 | h1
    · have := h.2 r h1; omega
    · obtain rfl := List.mem_singleton.1 h1
      exact ⟨by show 1 ≤ k + 1; omega, by show (0 : Int) ≤ (k : Int); omega, by show (k : Int) ≤ 100; omega⟩
theorem Mid.more {L : List HP} {k : Nat} (h : Mid L k) : Mid L (k + 1) := ⟨by have := h.1; omega, fun r hr => by have := h.2 r hr; omega⟩
theorem pcs_none {T : Tab} {n k : Nat} (h : T (n + k) = none) : pcs T n (k + 1) = pcs T n k := by simp [pcs, h]
theorem pcs_some {T : Tab} {n k : Nat} {b : UInt8} (h : T (n + k) = some b) : pcs T n (k + 1) = stepP (pcs T n k) k b := by simp [pcs, h]
theorem stepP_old2 {L : List HP} {o : Int} {b : UInt8} (h : lastEnd L = some o) : ∃ (m : Nat) (hm : m < L.length), L.length = m + 1 ∧ stepP L o b = L.set m ⟨L[m].o, L[m].t.push b⟩ ∧ L[m].o + L[m].t.size = o := by
  obtain ⟨h0, h1, h2⟩ := stepP_old (b := b) h
  exact ⟨L.length - 1, by omega, by omega, h1, h2⟩
theorem push_is (x : ByteArray) (b : UInt8) : x ++ ⟨#[b]⟩ = x.push b := by
  apply ByteArray.ext
  rw [ByteArray.data_append, ByteArray.data_push]
  simp

set_option maxRecDepth 100000 in
set_option maxHeartbeats 8000000 in
theorem piecesS (T : Tab) (c : Nat) (hc : c ≤ 32) (a : Option Addr) (w : World) (hrow : Row w w.heap.size a (slotsV T)) :
    Calls Try.prog 45 #[.slice a 33 33, .int .i64 c] w (NewPs (pcs T c (33 - c)) w) := by
  obtain ⟨i0, hi, hz0, hz1, hz2⟩ := info_parts Try.info64
  have HR := Lib.hid hrow
  clear hrow
  have O0 := Lib.hid (World.ownsRow_lit (base := w.heap.size) (e := 64) (size := 2) w #[] 0 (Nat.le_refl _) (Nat.zero_le _) rfl)
  have B0 := Lib.hid (show Below w.heap.size w (w.alloc (.cells #[] 64)) from (Below.refl _ _).alloc (Nat.le_refl _) _)
  go_enter Try.func45, Try.ntmps45
  go_wp2_with fail
  go_loopw [5, 6] (fun v i wr => ∃ k : Nat, k ≤ 33 - c ∧ i = .int .i64 (c + k : Nat) ∧ ∃ (L : List HP) (gg cp : Nat), v = .slice (some ⟨gg, 0, none⟩) L.length cp ∧ Hid (L = pcs T c k) ∧ Hid (Mid L k) ∧ Hid (wr.ownsRow w.heap.size 64 2 (.slice (some ⟨gg, 0, none⟩) L.length cp) L.length (hps L)) ∧ Hid (Below w.heap.size w wr))
    (fun _ i _ => 33 - (RowKit.intOf i).toNat)
  case atStart => exact ⟨0, Nat.zero_le _, by simp, [], w.heap.size, 0, rfl, rfl, Mid.zero, O0, B0⟩
  case round =>
    obtain ⟨k, hk, rfl, L, gg, cp, rfl, hL, hM, hO, hB⟩ := hrel
    clear O0 B0
    by_cases hlt : c + k < 33
    · obtain ⟨b, off, rfl, hb, hcs⟩ := (HR.out.below hB.out) (fun e => by have := slotsV_length T; rw [e] at this; cases this)
      have hc0 := hcs (c + k) _ (slotsV_at T (c + k) hlt)
      have hk0 : (0 : Int) ≤ (c : Int) + (k : Int) := by omega
      have hk1 : (c : Int) + (k : Int) < 33 := by omega
      have hsb := sv_bd (T (c + k))
      clear hcs
      cases hT : T (c + k) with
      | none =>
        rw [sv_neg hT] at hc0
        rw [← pcs_none hT] at hL
        have M2 := Lib.hid hM.out.more
        clear hsb
        go_wp2_with fail
        go_roundw
        case rel => exact ⟨k + 1, by omega, by go_num, L, gg, cp, rfl, hL, M2, hO, hB⟩
        case measure => simp [RowKit.intOf]; omega
      | some x =>
        have e2 : sv (T (c + k)) = (x.toNat : Int) := by rw [hT]; rfl
        rw [e2] at hc0
        have hx8 := x.toNat_lt
        have HL := Lib.hid (show stepP L k x = pcs T c (k + 1) by rw [hL.out]; exact (pcs_some hT).symm)
        have M2 := Lib.hid (hM.out.step (by omega) x)
        have hMl := hM.out.1
        clear hsb e2 hT hL
        by_cases hE : lastEnd L = some (k : Int)
        · obtain ⟨m, hml, hmn, e1, e3⟩ := stepP_old2 (b := x) hE
          have hpb := hM.out.2 _ (List.getElem_mem hml)
          rw [e1] at HL M2
          have hd0 := (hO.out.cellAt (m * 2) (by omega)).trans (hps_o L m hml)
          have hd1 := (hO.out.cellAt (m * 2 + 1) (by omega)).trans (hps_t L m hml)
          have HSet := Lib.hid (fun y => hps_set_t L m hml y)
          obtain ⟨po, hpo⟩ : ∃ po, L[m].o = po := ⟨_, rfl⟩
          obtain ⟨pt, hpt⟩ : ∃ pt, L[m].t = pt := ⟨_, rfl⟩
          rw [hpo] at hd0 e3 hpb HL M2
          simp only [hpo] at HSet
          rw [hpt] at hd1 e3 hpb HL M2
          obtain ⟨nL, hnL⟩ : ∃ n, L.length = n := ⟨_, rfl⟩
          have HLn := Lib.hid hnL
          rw [hnL] at hO hmn ⊢
          have hn0 : decide (0 < nL) = true := by simp; omega
          have hm0 : (0 : Int) ≤ (m : Int) := by omega
          have hm1 : (m : Int) < (nL : Int) := by omega
          have hw1 : IntKind.i64.wrap ((nL : Int) - 1) = (m : Int) := by rw [show (nL : Int) - 1 = (m : Int) by omega]; exact IntWalk.i64_in _ (by omega)
          have hw2 : IntKind.i64.wrap (po + (pt.size : Int)) = (k : Int) := by rw [e3]; exact IntWalk.i64_in _ (by omega)
          have hck : (c : Int) + (k : Int) - (c : Int) = (k : Int) := by omega
          have hw8 : IntKind.u8.wrap (x.toNat : Int) = (x.toNat : Int) := IntWalk.u8_in _ (by omega)
          have hw3 : IntKind.i64.wrap (k : Int) = (k : Int) := IntWalk.i64_in _ (by omega)
          replace e3 := Lib.hid e3
          replace hpb := Lib.hid hpb
          clear hpo hpt hml hnL hE e1
          replace hmn := Lib.hid hmn
          replace hMl := Lib.hid hMl
          go_wp2_with fail
          go_quiet (fail)
          go_wp2_with fail
          refine wp_region_noPanic ?_
          refine wp_region_till (S := fun w' => w'.cell? ⟨gg, m * 2 + 1, none⟩ = some (.string pt) ∧ w'.cell? ⟨b, off + (c + k), none⟩ = some (.int .i64 (x.toNat : Int))) 19 (by kernel_rfl) ⟨hd1, hc0⟩ (fun hS => ?_)
          have O1 := Lib.hid (own_drewn (own_below hO.out (below_drewN (Below.refl _ _) nq)))
          have B1 := Lib.hid (below_drewN hB.out nq).drew
          have C1 := Lib.hid (show (wr.drewN nq).drew.cell? ⟨b, off + (c + k), none⟩ = some (.int .i64 (x.toNat : Int)) from hc0)
          have D1 := Lib.hid (show (wr.drewN nq).drew.cell? ⟨gg, m * 2 + 1, none⟩ = some (.string pt) from hd1)
          clear hO hB hc0 hd1 hd0 hS
          generalize (wr.drewN nq).drew = v1 at O1 B1 C1 D1 ⊢
          refine wpTill_takeU (i := 0) (v := .slice (some ⟨gg, 0, none⟩) nL cp) rfl (by kernel_rfl) (by kernel_rfl) (by kernel_rfl) (by kernel_rfl) (fun _ _ _ h => h) (Or.inl ⟨by kernel_rfl, by intro w _; go_simp⟩) (fun _ => ⟨D1.out, C1.out⟩) ?_
          refine wpTill_takeU (i := 1) (v := .int .i64 (nL : Int)) rfl (by kernel_rfl) (by kernel_rfl) (by kernel_rfl) (by kernel_rfl) (fun _ _ _ h => h) (Or.inl ⟨by kernel_rfl, by intro w _; go_simp⟩) (fun _ => ⟨D1.out, C1.out⟩) ?_
          refine wpTill_takeU (i := 2) (v := .int .i64 (m : Int)) rfl (by kernel_rfl) (by kernel_rfl) (by kernel_rfl) (by kernel_rfl) (fun _ _ _ h => h) (Or.inl ⟨by kernel_rfl, by intro w _; go_simp⟩) (fun _ => ⟨D1.out, C1.out⟩) ?_
          refine wpTill_takeU (i := 3) (v := .slice (some ⟨gg, 0, none⟩) nL cp) rfl (by kernel_rfl) (by kernel_rfl) (by kernel_rfl) (by kernel_rfl) (fun _ _ _ h => h) (Or.inl ⟨by kernel_rfl, by intro w _; go_simp⟩) (fun _ => ⟨D1.out, C1.out⟩) ?_
          refine wpTill_takeU (i := 4) (v := .int .i64 (nL : Int)) rfl (by kernel_rfl) (by kernel_rfl) (by kernel_rfl) (by kernel_rfl) (fun _ _ _ h => h) (Or.inl ⟨by kernel_rfl, by intro w _; go_simp⟩) (fun _ => ⟨D1.out, C1.out⟩) ?_
          refine wpTill_takeU (i := 5) (v := .int .i64 (m : Int)) rfl (by kernel_rfl) (by kernel_rfl) (by kernel_rfl) (by kernel_rfl) (fun _ _ _ h => h) (Or.inl ⟨by kernel_rfl, by intro w _; go_simp⟩) (fun _ => ⟨D1.out, C1.out⟩) ?_
          refine wpTill_takeU (i := 6) (v := .pointer (some ⟨gg, m * 2, none⟩)) rfl (by kernel_rfl) (by kernel_rfl) (by kernel_rfl) (by kernel_rfl) (fun _ _ _ h => h) (Or.inl ⟨by kernel_rfl, by intro w _; go_simp⟩) (fun _ => ⟨D1.out, C1.out⟩) ?_
          refine wpTill_takeU (i := 7) (v := .pointer (some ⟨gg, m * 2 + 1, none⟩)) rfl (by kernel_rfl) (by kernel_rfl) (by kernel_rfl) (by kernel_rfl) (fun _ _ _ h => h) (Or.inl ⟨by kernel_rfl, by intro w _; go_simp⟩) (fun _ => ⟨D1.out, C1.out⟩) ?_
          refine wpTill_take (i := 8) (v := .string pt) rfl (by kernel_rfl) (by kernel_rfl) (by kernel_rfl) (by kernel_rfl) (by kernel_rfl) (by kernel_rfl) (fun _ _ _ h => h) (Or.inl ⟨by kernel_rfl, by intro w hS; obtain ⟨s1, s2⟩ := hS; go_simp⟩) (fun _ => ⟨D1.out, C1.out⟩) ?_
          refine wpTill_takeU (i := 9) (v := .slice (some ⟨b, off, none⟩) 33 33) rfl (by kernel_rfl) (by kernel_rfl) (by kernel_rfl) (by kernel_rfl) (fun _ _ _ h => h) (Or.inl ⟨by kernel_rfl, by intro w _; go_simp⟩) (fun _ => ⟨D1.out, C1.out⟩) ?_
          refine wpTill_takeU (i := 10) (v := .int .i64 ((c + k : Nat) : Int)) rfl (by kernel_rfl) (by kernel_rfl) (by kernel_rfl) (by kernel_rfl) (fun _ _ _ h => h) (Or.inl ⟨by kernel_rfl, by intro w _; go_simp⟩) (fun _ => ⟨D1.out, C1.out⟩) ?_
          refine wpTill_takeU (i := 11) (v := .pointer (some ⟨b, off + (c + k), none⟩)) rfl (by kernel_rfl) (by kernel_rfl) (by kernel_rfl) (by kernel_rfl) (fun _ _ _ h => h) (Or.inl ⟨by kernel_rfl, by intro w _; go_simp⟩) (fun _ => ⟨D1.out, C1.out⟩) ?_
          refine wpTill_take (i := 12) (v := .int .i64 (x.toNat : Int)) rfl (by kernel_rfl) (by kernel_rfl) (by kernel_rfl) (by kernel_rfl) (by kernel_rfl) (by kernel_rfl) (fun _ _ _ h => h) (Or.inl ⟨by kernel_rfl, by intro w hS; obtain ⟨s1, s2⟩ := hS; go_simp⟩) (fun _ => ⟨D1.out, C1.out⟩) ?_
          refine wpTill_takeU (i := 13) (v := .int .u8 (x.toNat : Int)) rfl (by kernel_rfl) (by kernel_rfl) (by kernel_rfl) (by kernel_rfl) (fun _ _ _ h => h) (Or.inl ⟨by kernel_rfl, by intro w _; go_simp⟩) (fun _ => ⟨D1.out, C1.out⟩) ?_
          refine wpTill_one (i := 14) (by kernel_rfl) rfl (fun K hK => ?zr1)
          rw [if_pos (by rfl)]
          go_simp
          have hgl := (O1.out.lt gg rfl).2
          have hbl : b < v1.heap.size := Nat.lt_of_lt_of_le hb B1.out.size
          have BA := Lib.hid (show Below v1.heap.size v1 (v1.alloc (.cells #[.int .u8 (x.toNat : Int)] 5)) from ((Below.refl _ v1).alloc (Nat.le_refl _) _))
          have O2 := Lib.hid (own_below O1.out BA.out)
          have B2 := Lib.hid (B1.out.trans (BA.out.mono B1.out.size))
          have D2 := Lib.hid ((BA.out.cell (p := ⟨gg, m * 2 + 1, none⟩) hgl).trans D1.out)
          have C2 := Lib.hid ((BA.out.cell (p := ⟨b, off + (c + k), none⟩) hbl).trans C1.out)
          have hcv := Lib.hid (run_string_lit1 (P := Try.prog) v1 22 9 5 x (x.toNat : Int) rfl Try.underlying22 Try.underlying5 Try.underlying9)
          refine hK.out _ _ (fun _ => ⟨D2.out, C2.out⟩) (fun _ => ?_)
          clear hK K O1 B1 D1 C1 BA
          generalize v1.alloc (.cells #[.int .u8 (x.toNat : Int)] 5) = v2 at O2 B2 D2 C2 hcv ⊢
          refine wpTill_one (i := 15) (by kernel_rfl) rfl (fun K hK => ?zr2)
          rw [if_pos (by rfl)]
          have hcv' := hcv.out
          go_simp
          refine hK.out _ _ (fun _ => ⟨D2.out, C2.out⟩) (fun _ => ?_)
          clear hK K hcv hcv'
          have hdn : ¬ 9223372036854775807 < pt.size + 1 := by have := hpb.out; omega
          refine wpTill_takeU (i := 16) (v := .string (pt ++ ⟨#[x]⟩)) rfl (by kernel_rfl) (by kernel_rfl) (by kernel_rfl) (by kernel_rfl) (fun _ _ _ h => h) (Or.inl ⟨by kernel_rfl, by intro w _; go_simp⟩) (fun _ => ⟨D2.out, C2.out⟩) ?_
          refine wpTill_takeU (i := 17) (v := .pointer (some ⟨gg, m * 2, none⟩)) rfl (by kernel_rfl) (by kernel_rfl) (by kernel_rfl) (by kernel_rfl) (fun _ _ _ h => h) (Or.inl ⟨by kernel_rfl, by intro w _; go_simp⟩) (fun _ => ⟨D2.out, C2.out⟩) ?_
          refine wpTill_takeU (i := 18) (v := .pointer (some ⟨gg, m * 2 + 1, none⟩)) rfl (by kernel_rfl) (by kernel_rfl) (by kernel_rfl) (by kernel_rfl) (fun _ _ _ h => h) (Or.inl ⟨by kernel_rfl, by intro w _; go_simp⟩) (fun _ => ⟨D2.out, C2.out⟩) ?_
          refine wpTill_store (by kernel_rfl) rfl (by kernel_rfl) (fun K hK => ?zr3)
          rw [if_pos (by rfl)]
          have hdd := D2.out
          have hff := O2.out.frozenAt (m * 2 + 1)
          go_simp
          have S3 := O2.out.stored (m * 2 + 1) (.string (pt ++ ⟨#[x]⟩))
          rw [← push_is] at HL M2
          rw [HSet.out, HL.out] at S3
          have e9 : nL = (pcs T c (k + 1)).length := by rw [← HL.out, List.length_set]; exact HLn.out.symm
          have O3 := Lib.hid S3.1
          rw [HL.out] at M2
          have B3 := Lib.hid (B2.out.setCell (p := ⟨gg, m * 2 + 1, none⟩) (O2.out.lt gg rfl).1 (.string (pt ++ ⟨#[x]⟩)))
          refine hK.out _ _ ?_
          clear hK K S3 hdd hff D2 C2 O2 B2 HSet
          refine wpTill_done (by kernel_rfl) ?_ _
          refine NoPanic.normal ?_
          generalize v2.setCell ⟨gg, m * 2 + 1, none⟩ (.string (pt ++ ⟨#[x]⟩)) = v3 at O3 B3 ⊢
          go_wp2_with fail
          go_roundw
          case rel => exact ⟨k + 1, by omega, by go_num, _, gg, cp, by rw [e9], rfl, M2, by rw [e9] at O3; exact O3, B3⟩
          case measure => simp [RowKit.intOf]; omega
        · have e1 := stepP_new (b := x) hE
          rw [e1] at HL M2
          have hck : (c : Int) + (k : Int) - (c : Int) = (k : Int) := by omega
          have hw8 : IntKind.u8.wrap (x.toNat : Int) = (x.toNat : Int) := IntWalk.u8_in _ (by omega)
          have hw3 : IntKind.i64.wrap (k : Int) = (k : Int) := IntWalk.i64_in _ (by omega)
          clear e1
          obtain ⟨nL, hnL⟩ : ∃ n, L.length = n := ⟨_, rfl⟩
          have HLn := Lib.hid hnL
          rcases Nat.eq_zero_or_pos L.length with h0 | h0
          · have hn0 : decide (0 < nL) = false := decide_eq_false (by omega)
            rw [hnL] at hO ⊢
            clear hE h0 hnL hMl
            go_wp2_with fail
            go_quiet (fail)
            have O1 := Lib.hid (own_below hO.out (below_drewN (Below.refl _ _) nq))
            have B1 := Lib.hid (below_drewN hB.out nq)
            have C1 := (show (wr.drewN nq).cell? ⟨b, off + (c + k), none⟩ = some (.int .i64 (x.toNat : Int)) from hc0)
            have hb1 : b < (wr.drewN nq).heap.size := Nat.lt_of_lt_of_le hb B1.out.size
            clear hO hB hc0
            generalize wr.drewN nq = v1 at O1 B1 C1 hb1 ⊢
            have hcv := run_string_lit1 (P := Try.prog) v1 22 9 5 x (x.toNat : Int) rfl Try.underlying22 Try.underlying5 Try.underlying9
            have BA := Lib.hid (show Below v1.heap.size v1 ((v1.alloc (.cells #[.int .u8 (x.toNat : Int)] 5)).alloc (.cells #[.int .i64 (k : Int), .string ⟨#[x]⟩] 64)) from ((Below.refl _ _).alloc (Nat.le_refl _) _).alloc (by simp) _)
            have O2 := Lib.hid (own_below O1.out BA.out)
            have hnw := Lib.hid (show ((v1.alloc (.cells #[.int .u8 (x.toNat : Int)] 5)).alloc (.cells #[.int .i64 (k : Int), .string ⟨#[x]⟩] 64)).heap[v1.heap.size + 1]? = some (.cells #[.int .i64 (k : Int), .string ⟨#[x]⟩] 64 (0, 0)) by
              have h0 := heap_alloc_new (v1.alloc (.cells #[.int .u8 (x.toNat : Int)] 5)) (.cells #[.int .i64 (k : Int), .string ⟨#[x]⟩] 64)
              rwa [show (v1.alloc (.cells #[.int .u8 (x.toNat : Int)] 5)).heap.size = v1.heap.size + 1 by simp] at h0)
            have hbz := B1.out.size
            have hMl : nL ≤ k := by have h1 := hM.out.1; have h2 := HLn.out; omega
            go_wp2_with (at_builtin; refine wpList_append_lies _ rfl _ _ _ rfl w.heap.size 64 i0 _ 2 24 Try.underlying24 hi hz0 hz1 hz2 rfl (by omega) _ nL _ rfl O2.out ⟨v1.heap.size + 1, 0, none⟩ 1 1 [.int .i64 (k : Int), .string ⟨#[x]⟩] rfl rfl (World.news_of_block (cs := #[.int .i64 (k : Int), .string ⟨#[x]⟩]) (t := 64) (fr := (0, 0)) hnw.out) (by simp [Value.oneCell']) (by omega) (by unfold maxLen; omega) (by omega) (by simp; omega) (v1.heap.size + 2) (by simp) ?_; intro gg' cap' w4 hown4 hgrow hat hlt')
            have hB4 : Below w.heap.size w w4 := (B1.out.trans (BA.out.mono hbz)).grown hgrow (Nat.le_trans hbz BA.out.size) (fun j e => (O2.out.lt j e).1)
            have e6 : (pcs T c (k + 1)).length = nL + 1 := by rw [← HL.out, List.length_append, HLn.out]; rfl
            rw [show hps L ++ [.int .i64 (k : Int), .string ⟨#[x]⟩] = hps (pcs T c (k + 1)) by rw [← HL.out, hps_append]; rfl, ← e6] at hown4
            rw [← e6]
            rw [HL.out] at M2
            clear hgrow hat hlt' BA O1 O2 hnw C1 hcv
            go_roundw
            case rel => exact ⟨k + 1, by omega, by go_num, _, gg', cap', rfl, rfl, M2, hown4, hB4⟩
            case measure => simp [RowKit.intOf]; omega
          · obtain ⟨m, hmn⟩ : ∃ m, L.length = m + 1 := ⟨L.length - 1, by omega⟩
            have hml : m < L.length := by omega
            have hpb := hM.out.2 _ (List.getElem_mem hml)
            have hq : L[m].o + (L[m].t.size : Int) ≠ (k : Int) := fun e => hE (by
              unfold lastEnd
              rw [List.getLast?_eq_getElem?, show L.length - 1 = m by omega, List.getElem?_eq_getElem hml]
              simp [e])
            have hd0 := (hO.out.cellAt (m * 2) (by omega)).trans (hps_o L m hml)
            have hd1 := (hO.out.cellAt (m * 2 + 1) (by omega)).trans (hps_t L m hml)
            obtain ⟨po, hpo⟩ : ∃ po, L[m].o = po := ⟨_, rfl⟩
            obtain ⟨pt, hpt⟩ : ∃ pt, L[m].t = pt := ⟨_, rfl⟩
            rw [hpo] at hd0 hpb hq
            rw [hpt] at hd1 hpb hq
            have hn0 : decide (0 < nL) = true := decide_eq_true (by omega)
            have hm0 : (0 : Int) ≤ (m : Int) := by omega
            have hm1 : (m : Int) < (nL : Int) := by omega
            have hw1 : IntKind.i64.wrap ((nL : Int) - 1) = (m : Int) := by rw [show (nL : Int) - 1 = (m : Int) by omega]; exact IntWalk.i64_in _ (by omega)
            obtain ⟨q, hqe⟩ : ∃ q : Int, po + (pt.size : Int) = q := ⟨_, rfl⟩
            have hw2 : IntKind.i64.wrap (po + (pt.size : Int)) = q := by rw [hqe]; exact IntWalk.i64_in _ (by omega)
            have hqk : (q == (k : Int)) = false := by rw [← hqe]; simpa using hq
            rw [hnL] at hO hmn ⊢
            clear hpo hpt hml hE h0 hq hqe hnL hMl
            replace hpb := Lib.hid hpb
            replace hmn := Lib.hid hmn
            go_wp2_with fail
            go_quiet (fail)
            have O1 := Lib.hid (own_below hO.out (below_drewN (Below.refl _ _) nq))
            have B1 := Lib.hid (below_drewN hB.out nq)
            have C1 := (show (wr.drewN nq).cell? ⟨b, off + (c + k), none⟩ = some (.int .i64 (x.toNat : Int)) from hc0)
            have hb1 : b < (wr.drewN nq).heap.size := Nat.lt_of_lt_of_le hb B1.out.size
            clear hO hB hc0 hd0 hd1
            generalize wr.drewN nq = v1 at O1 B1 C1 hb1 ⊢
            have hcv := run_string_lit1 (P := Try.prog) v1 22 9 5 x (x.toNat : Int) rfl Try.underlying22 Try.underlying5 Try.underlying9
            have BA := Lib.hid (show Below v1.heap.size v1 ((v1.alloc (.cells #[.int .u8 (x.toNat : Int)] 5)).alloc (.cells #[.int .i64 (k : Int), .string ⟨#[x]⟩] 64)) from ((Below.refl _ _).alloc (Nat.le_refl _) _).alloc (by simp) _)
            have O2 := Lib.hid (own_below O1.out BA.out)
            have hnw := Lib.hid (show ((v1.alloc (.cells #[.int .u8 (x.toNat : Int)] 5)).alloc (.cells #[.int .i64 (k : Int), .string ⟨#[x]⟩] 64)).heap[v1.heap.size + 1]? = some (.cells #[.int .i64 (k : Int), .string ⟨#[x]⟩] 64 (0, 0)) by
              have h0 := heap_alloc_new (v1.alloc (.cells #[.int .u8 (x.toNat : Int)] 5)) (.cells #[.int .i64 (k : Int), .string ⟨#[x]⟩] 64)
              rwa [show (v1.alloc (.cells #[.int .u8 (x.toNat : Int)] 5)).heap.size = v1.heap.size + 1 by simp] at h0)
            have hbz := B1.out.size
            have hMl : nL ≤ k := by have h1 := hM.out.1; have h2 := HLn.out; omega
            go_wp2_with (at_builtin; refine wpList_append_lies _ rfl _ _ _ rfl w.heap.size 64 i0 _ 2 24 Try.underlying24 hi hz0 hz1 hz2 rfl (by omega) _ nL _ rfl O2.out ⟨v1.heap.size + 1, 0, none⟩ 1 1 [.int .i64 (k : Int), .string ⟨#[x]⟩] rfl rfl (World.news_of_block (cs := #[.int .i64 (k : Int), .string ⟨#[x]⟩]) (t := 64) (fr := (0, 0)) hnw.out) (by simp [Value.oneCell']) (by omega) (by unfold maxLen; omega) (by omega) (by simp; omega) (v1.heap.size + 2) (by simp) ?_; intro gg' cap' w4 hown4 hgrow hat hlt')
            have hB4 : Below w.heap.size w w4 := (B1.out.trans (BA.out.mono hbz)).grown hgrow (Nat.le_trans hbz BA.out.size) (fun j e => (O2.out.lt j e).1)
            have e6 : (pcs T c (k + 1)).length = nL + 1 := by rw [← HL.out, List.length_append, HLn.out]; rfl
            rw [show hps L ++ [.int .i64 (k : Int), .string ⟨#[x]⟩] = hps (pcs T c (k + 1)) by rw [← HL.out, hps_append]; rfl, ← e6] at hown4
            rw [← e6]
            rw [HL.out] at M2
            clear hgrow hat hlt' BA O1 O2 hnw C1 hcv
            go_roundw
            case rel => exact ⟨k + 1, by omega, by go_num, _, gg', cap', rfl, rfl, M2, hown4, hB4⟩
            case measure => simp [RowKit.intOf]; omega
    · obtain rfl : k = 33 - c := by omega
      have e := hL.out
      subst e
      go_wp2_with fail
      go_ret
      exact ⟨gg, cp, rfl, hO.out, hB.out⟩
end Go.Proofs.Ytpbnkkgfjmkcdaa
