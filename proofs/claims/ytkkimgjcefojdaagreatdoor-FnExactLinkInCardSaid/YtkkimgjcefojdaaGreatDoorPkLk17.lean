/- Texts of a proof that belong together, joined. Nothing here is a claim. -/
import Derived.Maps.AppendAt
import Derived.Test.YtkkimgjcefojdaaGreatDoorPkLk8
import Derived.Test.YtkkimgjcefojdaaGreatDoorPkLk15
namespace Go.Proofs.YtkkimgjcefojdaaGreatDoor
open Go.RowKit Go.Lib

/-- An append of any number of elements to a row of the call's own, at a step of a region that draws its order. -/
theorem step_append_at {P : Program} {w : World} {ops : Array Oper} {o : Oper} {a : Act} {K : Act → World → Prop} {Q : Exit → Act → World → Prop} {E : Prop} (hgd : o.guard = none) (s x : Operand) (t : TypeId)
  (ho : o.op = .call { callee := .builtin .append, args := #[s, x], argTypes := #[t, t] })
  (base : Nat) (e : TypeId) (i : TypeInfo) (z : Value) (size bytes : Nat) (ht : P.underlying t = some (.slice e)) (hi : P.info? e = some i) (hz : i.zero = some z)
  (hsize : i.size = size) (hby : i.bytes = bytes) (hzs : z.cells.size = size) (hsz : 0 < size)
  (v : Value) (n : Nat) (xs : List Value) (hs : a.eval s = v) (hown : w.ownsRow base e size v n xs)
  (ad : Addr) (m c : Nat) (news : List Value) (hx : a.eval x = .slice (some ad) m c) (hl : news.length = m * size) (hnews : ∀ j u, news[j]? = some u → w.cell? (ad.add j) = some u) (h1 : ∀ u ∈ news, u.oneCell' = true)
  (h63 : n + m ≤ maxLen) (hbytes : (n + m) * bytes ≤ 140737488355328) (hbase : base ≤ w.heap.size)
  (h : ∀ v' w', w'.ownsRow base e size v' (n + m) (xs ++ news) → w.grownBy w' v.ownBlock → (v' = .slice none 0 0 ↔ v = .slice none 0 0 ∧ m = 0) → (v'.ownBlock = v.ownBlock ∨ v'.ownBlock = some w.heap.size) → K (a.put o.dst v') w') :
  if Region.wanted o (yielded ops a.tmps) = true then Oper.wp P o a w K Q else E := by
 have hw : Region.wanted o (yielded ops a.tmps) = true := by simp [Region.wanted, hgd]
 rw [if_pos hw]
 obtain ⟨v', w', hr, h2, h3, h4, h5⟩ := run_append_own_at (P := P) w base t o.type e i z size bytes ht hi hz hsize hby hzs hsz v n xs hown ad m c news hl hnews h1 h63 hbytes hbase
 unfold Oper.wp execOp
 simp only [ho, resolve, invoke, builtin, Sem.run_bind, Sem.run_pure, Result.andThen_ok, List.map_toArray, List.map_cons, List.map_nil, hs, hx, hr]
 exact h v' w' h2 h3 h4 h5
theorem tail_adr (g cap j : Nat) : ∃ A : Addr, (if cap = j + 1 then some (⟨g, 0, none⟩ : Addr) else some ⟨g, (j + 1) * 3, none⟩) = some A := by
 by_cases h : cap = j + 1
 ·exact ⟨_, if_pos h⟩
 ·exact ⟨_, if_neg h⟩
theorem tail_src {w : World} {B g cap j : Nat} {e : TypeId} {rs : List ER} {A : Addr} (hown : w.ownsRow B e 3 (.slice (some ⟨g, 0, none⟩) rs.length cap) rs.length (ers rs)) (hA : (if cap = j + 1 then some (⟨g, 0, none⟩ : Addr) else some ⟨g, (j + 1) * 3, none⟩) = some A) (hj : j < rs.length) :
  ∀ t u, (ers (rs.drop (j + 1)))[t]? = some u → w.cell? (A.add t) = some u := by
 intro t u hu
 have hc := (own_cap hown).1
 have ht := (List.getElem?_eq_some_iff.1 hu).1
 rw [ers_length, List.length_drop] at ht
 have h : ¬ cap = j + 1 := by omega
 rw [if_neg h] at hA
 cases hA
 rw [adr_add]
 rw [ers_drop, List.getElem?_drop] at hu
 exact (hown.cellAt _ (by omega)).trans hu
set_option maxRecDepth 100000 in
set_option maxHeartbeats 16000000 in
theorem learnedN (b off cap : Nat) (rs : List ER) (ip hw : Int) (w : World) (hrow : Row w w.heap.size (some ⟨b, off, none⟩) (ers rs)) (hl : rs.length ≤ 1048577) (hcap : rs.length ≤ cap) :
  Calls Tryz.prog 37 #[.slice (some ⟨b, off, none⟩) rs.length cap, .int .i64 ip, .int .i64 hw] w (NewS (learnE rs ip hw) w) := by
 obtain ⟨i0, hi, hz0, hz1, hz2⟩ := info_parts Tryz.info71
 have HR := Lib.hid hrow
 have HS := Lib.hid (row_adr ((hrow.below ((Below.refl _ _).alloc (Nat.le_refl _) (.cells #[] 71))).mono (B' := w.heap.size) (by simp)))
 have O0 := Lib.hid (World.ownsRow_lit (base := w.heap.size) (e := 71) (size := 3) w #[] 0 (Nat.le_refl _) (Nat.zero_le _) rfl)
 clear hrow
 have C1 := Lib.hid (fun w h => cacheOkS (some ⟨b, off, none⟩) cap rs w h hl hcap)
 have C2 := Lib.hid (fun w => wordOkS_E ip 32 w)
 have C3 := Lib.hid (fun w => wordOkS_E hw 48 w)
 have C4 := Lib.hid (fun w h => atS (some ⟨b, off, none⟩) rs.length cap rs ip w h rfl hl)
 cases hx1 : cacheOk rs with
 | false =>
  rw [learnE_no (by rw [hx1]; rfl)]
  rw [hx1] at C1
  clear hx1
  go_enter Tryz.func37, Tryz.ntmps37
  go_wp2_with (at_builtin; refine wpList_append_own _ rfl _ _ 24 rfl w.heap.size 71 i0 (.agg #[.int .i64 0, .int .i64 0, .int .i64 0]) 3 24 Tryz.underlying24 hi hz0 hz1 hz2 rfl (by decide) (.slice (some ⟨w.heap.size, 0, none⟩) 0 0) 0 [] rfl O0.out ⟨b, off, none⟩ rs.length cap (ers rs) rfl (ers_length rs) HS.out (ers_one rs) (by unfold maxLen; omega) (by omega) (by simp) ?_; intro v' v0 hown1 hgrow1 hnil1; simp only [Nat.zero_add, List.nil_append] at hown1; obtain ⟨g_o, cp, rfl⟩ := own_shape hown1 (fun e => by have := (hnil1.1 e).1; cases this); have B0 := Lib.hid (((Below.refl w.heap.size w).alloc (Nat.le_refl _) (.cells #[] 71)).grown hgrow1 (by simp) (fun j e => by cases e; exact Nat.le_refl _)); have l_o := (hown1.lt g_o rfl).1; have Oo0 := Lib.hid hown1; clear hown1 hgrow1 hnil1)
  refine (C1.out _ ((HR.out.below B0.out).mono B0.out.size)).mono ?_
  rintro e v1 ⟨rfl, hb⟩
  have B1 := Lib.hid (B0.out.trans (hb.mono B0.out.size))
  have Oo1 := Lib.hid (Oo0.out.kept (below_any (row := none) hb) (.inr (by simp [Value.ownBlock])))
  clear hb B0 Oo0
  go_wp2_with fail
  go_ret
  exact ⟨g_o, cp, rfl, own_up Oo1.out l_o, B1.out⟩
 | true =>
  cases hx2 : wordOk ip 32 with
  | false =>
   rw [learnE_no (by rw [hx1, hx2]; rfl)]
   rw [hx1] at C1
   rw [hx2] at C2
   clear hx1 hx2
   go_enter Tryz.func37, Tryz.ntmps37
   go_wp2_with (at_builtin; refine wpList_append_own _ rfl _ _ 24 rfl w.heap.size 71 i0 (.agg #[.int .i64 0, .int .i64 0, .int .i64 0]) 3 24 Tryz.underlying24 hi hz0 hz1 hz2 rfl (by decide) (.slice (some ⟨w.heap.size, 0, none⟩) 0 0) 0 [] rfl O0.out ⟨b, off, none⟩ rs.length cap (ers rs) rfl (ers_length rs) HS.out (ers_one rs) (by unfold maxLen; omega) (by omega) (by simp) ?_; intro v' v0 hown1 hgrow1 hnil1; simp only [Nat.zero_add, List.nil_append] at hown1; obtain ⟨g_o, cp, rfl⟩ := own_shape hown1 (fun e => by have := (hnil1.1 e).1; cases this); have B0 := Lib.hid (((Below.refl w.heap.size w).alloc (Nat.le_refl _) (.cells #[] 71)).grown hgrow1 (by simp) (fun j e => by cases e; exact Nat.le_refl _)); have l_o := (hown1.lt g_o rfl).1; have Oo0 := Lib.hid hown1; clear hown1 hgrow1 hnil1)
   refine (C1.out _ ((HR.out.below B0.out).mono B0.out.size)).mono ?_
   rintro e v1 ⟨rfl, hb⟩
   have B1 := Lib.hid (B0.out.trans (hb.mono B0.out.size))
   have Oo1 := Lib.hid (Oo0.out.kept (below_any (row := none) hb) (.inr (by simp [Value.ownBlock])))
   clear hb B0 Oo0
   go_wp2_with fail
   refine (C2.out _).mono ?_
   rintro e v2 ⟨rfl, hb⟩
   have B2 := Lib.hid (B1.out.trans (hb.mono B1.out.size))
   have Oo2 := Lib.hid (Oo1.out.kept (below_any (row := none) hb) (.inr (by simp [Value.ownBlock])))
   clear hb B1 Oo1
   go_wp2_with fail
   go_ret
   exact ⟨g_o, cp, rfl, own_up Oo2.out l_o, B2.out⟩
  | true =>
   cases hx3 : wordOk hw 48 with
   | false =>
    rw [learnE_no (by rw [hx1, hx2, hx3]; rfl)]
    rw [hx1] at C1
    rw [hx2] at C2
    rw [hx3] at C3
    clear hx1 hx2 hx3
    go_enter Tryz.func37, Tryz.ntmps37
    go_wp2_with (at_builtin; refine wpList_append_own _ rfl _ _ 24 rfl w.heap.size 71 i0 (.agg #[.int .i64 0, .int .i64 0, .int .i64 0]) 3 24 Tryz.underlying24 hi hz0 hz1 hz2 rfl (by decide) (.slice (some ⟨w.heap.size, 0, none⟩) 0 0) 0 [] rfl O0.out ⟨b, off, none⟩ rs.length cap (ers rs) rfl (ers_length rs) HS.out (ers_one rs) (by unfold maxLen; omega) (by omega) (by simp) ?_; intro v' v0 hown1 hgrow1 hnil1; simp only [Nat.zero_add, List.nil_append] at hown1; obtain ⟨g_o, cp, rfl⟩ := own_shape hown1 (fun e => by have := (hnil1.1 e).1; cases this); have B0 := Lib.hid (((Below.refl w.heap.size w).alloc (Nat.le_refl _) (.cells #[] 71)).grown hgrow1 (by simp) (fun j e => by cases e; exact Nat.le_refl _)); have l_o := (hown1.lt g_o rfl).1; have Oo0 := Lib.hid hown1; clear hown1 hgrow1 hnil1)
    refine (C1.out _ ((HR.out.below B0.out).mono B0.out.size)).mono ?_
    rintro e v1 ⟨rfl, hb⟩
    have B1 := Lib.hid (B0.out.trans (hb.mono B0.out.size))
    have Oo1 := Lib.hid (Oo0.out.kept (below_any (row := none) hb) (.inr (by simp [Value.ownBlock])))
    clear hb B0 Oo0
    go_wp2_with fail
    refine (C2.out _).mono ?_
    rintro e v2 ⟨rfl, hb⟩
    have B2 := Lib.hid (B1.out.trans (hb.mono B1.out.size))
    have Oo2 := Lib.hid (Oo1.out.kept (below_any (row := none) hb) (.inr (by simp [Value.ownBlock])))
    clear hb B1 Oo1
    go_wp2_with fail
    refine (C3.out _).mono ?_
    rintro e v3 ⟨rfl, hb⟩
    have B3 := Lib.hid (B2.out.trans (hb.mono B2.out.size))
    have Oo3 := Lib.hid (Oo2.out.kept (below_any (row := none) hb) (.inr (by simp [Value.ownBlock])))
    clear hb B2 Oo2
    go_wp2_with fail
    go_ret
    exact ⟨g_o, cp, rfl, own_up Oo3.out l_o, B3.out⟩
   | true =>
    rw [learnE_yes (by rw [hx1, hx2, hx3]; rfl)]
    rw [hx1] at C1
    rw [hx2] at C2
    rw [hx3] at C3
    clear hx1 hx2 hx3
    by_cases h : atE rs ip < rs.length
    ·rw [placeE_yes h] at C4
     rw [putE_set (q := ⟨ip, hw, 0⟩) h]
     show Calls _ _ _ _ (NewS (rs.set (atE rs ip) ⟨ip, hw, 0⟩) w)
     generalize atE rs ip = k at h C4 ⊢
     go_enter Tryz.func37, Tryz.ntmps37
     go_wp2_with (at_builtin; refine wpList_append_own _ rfl _ _ 24 rfl w.heap.size 71 i0 (.agg #[.int .i64 0, .int .i64 0, .int .i64 0]) 3 24 Tryz.underlying24 hi hz0 hz1 hz2 rfl (by decide) (.slice (some ⟨w.heap.size, 0, none⟩) 0 0) 0 [] rfl O0.out ⟨b, off, none⟩ rs.length cap (ers rs) rfl (ers_length rs) HS.out (ers_one rs) (by unfold maxLen; omega) (by omega) (by simp) ?_; intro v' v0 hown1 hgrow1 hnil1; simp only [Nat.zero_add, List.nil_append] at hown1; obtain ⟨g_o, cp, rfl⟩ := own_shape hown1 (fun e => by have := (hnil1.1 e).1; cases this); have B0 := Lib.hid (((Below.refl w.heap.size w).alloc (Nat.le_refl _) (.cells #[] 71)).grown hgrow1 (by simp) (fun j e => by cases e; exact Nat.le_refl _)); have l_o := (hown1.lt g_o rfl).1; have Oo0 := Lib.hid hown1; clear hown1 hgrow1 hnil1)
     refine (C1.out _ ((HR.out.below B0.out).mono B0.out.size)).mono ?_
     rintro e v1 ⟨rfl, hb⟩
     have B1 := Lib.hid (B0.out.trans (hb.mono B0.out.size))
     have Oo1 := Lib.hid (Oo0.out.kept (below_any (row := none) hb) (.inr (by simp [Value.ownBlock])))
     clear hb B0 Oo0
     go_wp2_with fail
     refine (C2.out _).mono ?_
     rintro e v2 ⟨rfl, hb⟩
     have B2 := Lib.hid (B1.out.trans (hb.mono B1.out.size))
     have Oo2 := Lib.hid (Oo1.out.kept (below_any (row := none) hb) (.inr (by simp [Value.ownBlock])))
     clear hb B1 Oo1
     go_wp2_with fail
     refine (C3.out _).mono ?_
     rintro e v3 ⟨rfl, hb⟩
     have B3 := Lib.hid (B2.out.trans (hb.mono B2.out.size))
     have Oo3 := Lib.hid (Oo2.out.kept (below_any (row := none) hb) (.inr (by simp [Value.ownBlock])))
     clear hb B2 Oo2
     go_wp2_with fail
     refine (C4.out _ ((HR.out.below B3.out).mono B3.out.size)).mono ?_
     rintro e v4 ⟨rfl, hb⟩
     have B4 := Lib.hid (B3.out.trans (hb.mono B3.out.size))
     have Oo4 := Lib.hid (Oo3.out.kept (below_any (row := none) hb) (.inr (by simp [Value.ownBlock])))
     clear hb B3 Oo3
     have hk0 : (0 : Int) ≤ (k : Int) := Int.natCast_nonneg _
     have hk1 : (k : Int) < (rs.length : Int) := by omega
     have hd0 := (Oo4.out.cellAt (k * 3) (by omega)).trans (ers_ip rs k h)
     have hd1 := (Oo4.out.cellAt (k * 3 + 1) (by omega)).trans (ers_hw rs k h)
     have hd2 := (Oo4.out.cellAt (k * 3 + 2) (by omega)).trans (ers_age rs k h)
     have hf0 := Oo4.out.frozenAt (k * 3)
     have hf1 := Oo4.out.frozenAt (k * 3 + 1)
     have hf2 := Oo4.out.frozenAt (k * 3 + 2)
     have S1 := Oo4.out.stored (k * 3) (.int .i64 ip)
     have S2 := S1.1.stored (k * 3 + 1) (.int .i64 hw)
     have S3 := S2.1.stored (k * 3 + 2) (.int .i64 0)
     rw [ers_set rs k h ⟨ip, hw, 0⟩] at S3
     have O9 := Lib.hid (own_up S3.1 l_o)
     clear S1 S2 S3
     go_wp2_with fail
     go_ret
     exact ⟨g_o, cp, by rw [List.length_set]; rfl, by rw [List.length_set]; exact O9.out, ((B4.out.setCell l_o _).setCell l_o _).setCell l_o _⟩
    ·rw [placeE_no h] at C4
     by_cases h4 : rs.length = 4
     ·rw [putE_full (q := ⟨ip, hw, 0⟩) h h4]
      have HJ0 := oldE_lt (Nat.le_refl rs.length) (show 0 < rs.length by omega)
      have hpos : 0 < rs.length := by omega
      obtain ⟨j, hj⟩ : ∃ j, oldE rs rs.length = j := ⟨_, rfl⟩
      rw [hj] at HJ0 ⊢
      have HE := Lib.hid hj
      have HJ := Lib.hid HJ0
      have H4 := Lib.hid h4
      have HW := Lib.hid (show IntKind.i64.wrap ((j : Int) + 1) = (j : Int) + 1 from IntWalk.i64_in _ (by omega))
      clear hj HJ0 h4
      go_enter Tryz.func37, Tryz.ntmps37
      go_wp2_with (at_builtin; refine wpList_append_own _ rfl _ _ 24 rfl w.heap.size 71 i0 (.agg #[.int .i64 0, .int .i64 0, .int .i64 0]) 3 24 Tryz.underlying24 hi hz0 hz1 hz2 rfl (by decide) (.slice (some ⟨w.heap.size, 0, none⟩) 0 0) 0 [] rfl O0.out ⟨b, off, none⟩ rs.length cap (ers rs) rfl (ers_length rs) HS.out (ers_one rs) (by unfold maxLen; omega) (by omega) (by simp) ?_; intro v' v0 hown1 hgrow1 hnil1; simp only [Nat.zero_add, List.nil_append] at hown1; obtain ⟨g_o, cp, rfl⟩ := own_shape hown1 (fun e => by have := (hnil1.1 e).1; cases this); have B0 := Lib.hid (((Below.refl w.heap.size w).alloc (Nat.le_refl _) (.cells #[] 71)).grown hgrow1 (by simp) (fun j e => by cases e; exact Nat.le_refl _)); have l_o := (hown1.lt g_o rfl).1; have Oo0 := Lib.hid hown1; clear hown1 hgrow1 hnil1)
      refine (C1.out _ ((HR.out.below B0.out).mono B0.out.size)).mono ?_
      rintro e v1 ⟨rfl, hb⟩
      have B1 := Lib.hid (B0.out.trans (hb.mono B0.out.size))
      have Oo1 := Lib.hid (Oo0.out.kept (below_any (row := none) hb) (.inr (by simp [Value.ownBlock])))
      clear hb B0 Oo0
      go_wp2_with fail
      refine (C2.out _).mono ?_
      rintro e v2 ⟨rfl, hb⟩
      have B2 := Lib.hid (B1.out.trans (hb.mono B1.out.size))
      have Oo2 := Lib.hid (Oo1.out.kept (below_any (row := none) hb) (.inr (by simp [Value.ownBlock])))
      clear hb B1 Oo1
      go_wp2_with fail
      refine (C3.out _).mono ?_
      rintro e v3 ⟨rfl, hb⟩
      have B3 := Lib.hid (B2.out.trans (hb.mono B2.out.size))
      have Oo3 := Lib.hid (Oo2.out.kept (below_any (row := none) hb) (.inr (by simp [Value.ownBlock])))
      clear hb B2 Oo2
      go_wp2_with fail
      refine (C4.out _ ((HR.out.below B3.out).mono B3.out.size)).mono ?_
      rintro e v4 ⟨rfl, hb⟩
      have B4 := Lib.hid (B3.out.trans (hb.mono B3.out.size))
      have Oo4 := Lib.hid (Oo3.out.kept (below_any (row := none) hb) (.inr (by simp [Value.ownBlock])))
      clear hb B3 Oo3
      have h4' : ((rs.length : Int) == 4) = true := by have := H4.out; simp; omega
      go_wp2_with fail
      go_loopw [9, 10] (fun o i wr => ∃ k : Nat, 1 ≤ k ∧ k ≤ rs.length ∧ i = .int .i64 k ∧ o = .int .i64 (oldE rs k : Nat) ∧ Hid (Below v4.heap.size v4 wr)) (fun _ i _ => rs.length - (RowKit.intOf i).toNat)
      case atStart => exact ⟨1, Nat.le_refl _, hpos, rfl, by rw [oldE_one]; rfl, Below.refl _ _⟩
      case round =>
       obtain ⟨k, hk1, hk, rfl, rfl, HL⟩ := hrel
       by_cases hlt : k < rs.length
       ·have hp := oldE_lt hk hpos
        have hat := oldE_at hlt hp
        generalize oldE rs k = p at hp hat ⊢
        have OO := own_below Oo4.out HL.out
        have hc2 := (OO.cellAt (k * 3 + 2) (by omega)).trans (ers_age rs k hlt)
        have hq2 := (OO.cellAt (p * 3 + 2) (by omega)).trans (ers_age rs p hp)
        have hk0 : (0 : Int) ≤ (k : Int) := Int.natCast_nonneg _
        have hk2 : (k : Int) < (rs.length : Int) := by omega
        have hp0 : (0 : Int) ≤ (p : Int) := Int.natCast_nonneg _
        have hp1 : (p : Int) < (rs.length : Int) := by omega
        clear OO
        by_cases h9 : rs[p].age < rs[k].age
        ·rw [if_pos h9] at hat
         have HN := Lib.hid hat
         clear hat
         go_wp2_with fail
         go_quiet (fail)
         go_wp2_with fail
         go_roundw
         case rel => exact ⟨k + 1, by omega, by omega, by go_num, by rw [HN.out], below_drawn HL.out _⟩
         case measure => simp [RowKit.intOf]; omega
        ·rw [if_neg h9] at hat
         have HN := Lib.hid hat
         clear hat
         go_wp2_with fail
         go_quiet (fail)
         go_wp2_with fail
         go_roundw
         case rel => exact ⟨k + 1, by omega, by omega, by go_num, by rw [HN.out], below_drawn HL.out _⟩
         case measure => simp [RowKit.intOf]; omega
       ·obtain rfl : k = rs.length := by omega
        rw [HE.out]
        have B9 := Lib.hid (B4.out.trans (HL.out.mono B4.out.size))
        have O9 := Lib.hid (own_up (own_below Oo4.out HL.out) l_o)
        have hwr := HW.out
        have hj := HJ.out
        have hj0 : (0 : Int) ≤ (j : Int) := Int.natCast_nonneg _
        have hj1 : (j : Int) < (rs.length : Int) := by omega
        obtain ⟨hcp, hcm⟩ := own_cap O9.out
        unfold maxLen at hcm
        obtain ⟨A, hA⟩ := tail_adr g_o cp j
        go_upto_region 15 with fail
        refine wp_region_noPanic ?_
        refine wp_region_held_drew (S := fun w' => True) (by kernel_rfl) trivial (fun hS => ?_)
        refine wpAnyH_take (i := 1) (v := .slice (some ⟨g_o, 0, none⟩) rs.length cp) rfl (by kernel_rfl) (by kernel_rfl) (by kernel_rfl) (fun _ _ _ h => h) (Or.inl ⟨rfl, by intro w hS; go_simp⟩) hS ?_
        change wpAnyH _ _ _ _ _ _ _ { tmps := #[.slice (some ⟨b, off, none⟩) rs.length cap, .int .i64 ip, .int .i64 hw, undef, undef, undef, .slice none 0 0, .slice (some ⟨g_o, 0, none⟩) rs.length cp, .int .i64 (-1), .int .i64 j, .int .i64 rs.length, .slice (some ⟨w.heap.size, 0, none⟩) 0 0, .slice (some ⟨b, off, none⟩) rs.length cap, .slice (some ⟨g_o, 0, none⟩) rs.length cp, .slice (some ⟨b, off, none⟩) rs.length cap, .bool true, .bool false, .bool false, .int .i64 ip, .bool true, .bool false, .bool false, .bool false, .int .i64 hw, .bool true, .bool false, .bool false, undef, .slice (some ⟨b, off, none⟩) rs.length cap, .int .i64 ip, .int .i64 (-1), .int .i64 (-1), .bool false, undef, undef, undef, undef, undef, undef, undef, .slice (some ⟨g_o, 0, none⟩) rs.length cp, .int .i64 rs.length, .bool true, .int .i64 rs.length, .slice (some ⟨g_o, 0, none⟩) rs.length cp, .int .i64 rs.length, .bool false, u47, u48, u49, u50, u51, u52, u53, u54, u55, u56, u57, u58, u59, u60, undef, .slice (some ⟨g_o, 0, none⟩) rs.length cp, undef, undef, undef, undef, undef, undef, undef, undef, undef, undef, undef, undef, undef, undef], defers := [] } _
        refine wpAnyH_take (i := 2) (v := .int .i64 j) rfl (by kernel_rfl) (by kernel_rfl) (by kernel_rfl) (fun _ _ _ h => h) (Or.inl ⟨rfl, by intro w hS; go_simp⟩) hS ?_
        change wpAnyH _ _ _ _ _ _ _ { tmps := #[.slice (some ⟨b, off, none⟩) rs.length cap, .int .i64 ip, .int .i64 hw, undef, undef, undef, .slice none 0 0, .slice (some ⟨g_o, 0, none⟩) rs.length cp, .int .i64 (-1), .int .i64 j, .int .i64 rs.length, .slice (some ⟨w.heap.size, 0, none⟩) 0 0, .slice (some ⟨b, off, none⟩) rs.length cap, .slice (some ⟨g_o, 0, none⟩) rs.length cp, .slice (some ⟨b, off, none⟩) rs.length cap, .bool true, .bool false, .bool false, .int .i64 ip, .bool true, .bool false, .bool false, .bool false, .int .i64 hw, .bool true, .bool false, .bool false, undef, .slice (some ⟨b, off, none⟩) rs.length cap, .int .i64 ip, .int .i64 (-1), .int .i64 (-1), .bool false, undef, undef, undef, undef, undef, undef, undef, .slice (some ⟨g_o, 0, none⟩) rs.length cp, .int .i64 rs.length, .bool true, .int .i64 rs.length, .slice (some ⟨g_o, 0, none⟩) rs.length cp, .int .i64 rs.length, .bool false, u47, u48, u49, u50, u51, u52, u53, u54, u55, u56, u57, u58, u59, u60, undef, .slice (some ⟨g_o, 0, none⟩) rs.length cp, .int .i64 j, undef, undef, undef, undef, undef, undef, undef, undef, undef, undef, undef, undef, undef], defers := [] } _
        refine wpAnyH_take (i := 3) (v := .slice (some ⟨g_o, 0, none⟩) j cp) rfl (by kernel_rfl) (by kernel_rfl) (by kernel_rfl) (fun _ _ _ h => h) (Or.inl ⟨rfl, by intro w hS; go_simp; try (intro h; omega)⟩) hS ?_
        change wpAnyH _ _ _ _ _ _ _ { tmps := #[.slice (some ⟨b, off, none⟩) rs.length cap, .int .i64 ip, .int .i64 hw, undef, undef, undef, .slice none 0 0, .slice (some ⟨g_o, 0, none⟩) rs.length cp, .int .i64 (-1), .int .i64 j, .int .i64 rs.length, .slice (some ⟨w.heap.size, 0, none⟩) 0 0, .slice (some ⟨b, off, none⟩) rs.length cap, .slice (some ⟨g_o, 0, none⟩) rs.length cp, .slice (some ⟨b, off, none⟩) rs.length cap, .bool true, .bool false, .bool false, .int .i64 ip, .bool true, .bool false, .bool false, .bool false, .int .i64 hw, .bool true, .bool false, .bool false, undef, .slice (some ⟨b, off, none⟩) rs.length cap, .int .i64 ip, .int .i64 (-1), .int .i64 (-1), .bool false, undef, undef, undef, undef, undef, undef, undef, .slice (some ⟨g_o, 0, none⟩) rs.length cp, .int .i64 rs.length, .bool true, .int .i64 rs.length, .slice (some ⟨g_o, 0, none⟩) rs.length cp, .int .i64 rs.length, .bool false, u47, u48, u49, u50, u51, u52, u53, u54, u55, u56, u57, u58, u59, u60, undef, .slice (some ⟨g_o, 0, none⟩) rs.length cp, .int .i64 j, .slice (some ⟨g_o, 0, none⟩) j cp, undef, undef, undef, undef, undef, undef, undef, undef, undef, undef, undef, undef], defers := [] } _
        refine wpAnyH_take (i := 5) (v := .slice (some ⟨g_o, 0, none⟩) rs.length cp) rfl (by kernel_rfl) (by kernel_rfl) (by kernel_rfl) (fun _ _ _ h => h) (Or.inl ⟨rfl, by intro w hS; go_simp⟩) hS ?_
        change wpAnyH _ _ _ _ _ _ _ { tmps := #[.slice (some ⟨b, off, none⟩) rs.length cap, .int .i64 ip, .int .i64 hw, undef, undef, undef, .slice none 0 0, .slice (some ⟨g_o, 0, none⟩) rs.length cp, .int .i64 (-1), .int .i64 j, .int .i64 rs.length, .slice (some ⟨w.heap.size, 0, none⟩) 0 0, .slice (some ⟨b, off, none⟩) rs.length cap, .slice (some ⟨g_o, 0, none⟩) rs.length cp, .slice (some ⟨b, off, none⟩) rs.length cap, .bool true, .bool false, .bool false, .int .i64 ip, .bool true, .bool false, .bool false, .bool false, .int .i64 hw, .bool true, .bool false, .bool false, undef, .slice (some ⟨b, off, none⟩) rs.length cap, .int .i64 ip, .int .i64 (-1), .int .i64 (-1), .bool false, undef, undef, undef, undef, undef, undef, undef, .slice (some ⟨g_o, 0, none⟩) rs.length cp, .int .i64 rs.length, .bool true, .int .i64 rs.length, .slice (some ⟨g_o, 0, none⟩) rs.length cp, .int .i64 rs.length, .bool false, u47, u48, u49, u50, u51, u52, u53, u54, u55, u56, u57, u58, u59, u60, undef, .slice (some ⟨g_o, 0, none⟩) rs.length cp, .int .i64 j, .slice (some ⟨g_o, 0, none⟩) j cp, undef, .slice (some ⟨g_o, 0, none⟩) rs.length cp, undef, undef, undef, undef, undef, undef, undef, undef, undef, undef], defers := [] } _
        refine wpAnyH_take (i := 6) (v := .int .i64 j) rfl (by kernel_rfl) (by kernel_rfl) (by kernel_rfl) (fun _ _ _ h => h) (Or.inl ⟨rfl, by intro w hS; go_simp⟩) hS ?_
        change wpAnyH _ _ _ _ _ _ _ { tmps := #[.slice (some ⟨b, off, none⟩) rs.length cap, .int .i64 ip, .int .i64 hw, undef, undef, undef, .slice none 0 0, .slice (some ⟨g_o, 0, none⟩) rs.length cp, .int .i64 (-1), .int .i64 j, .int .i64 rs.length, .slice (some ⟨w.heap.size, 0, none⟩) 0 0, .slice (some ⟨b, off, none⟩) rs.length cap, .slice (some ⟨g_o, 0, none⟩) rs.length cp, .slice (some ⟨b, off, none⟩) rs.length cap, .bool true, .bool false, .bool false, .int .i64 ip, .bool true, .bool false, .bool false, .bool false, .int .i64 hw, .bool true, .bool false, .bool false, undef, .slice (some ⟨b, off, none⟩) rs.length cap, .int .i64 ip, .int .i64 (-1), .int .i64 (-1), .bool false, undef, undef, undef, undef, undef, undef, undef, .slice (some ⟨g_o, 0, none⟩) rs.length cp, .int .i64 rs.length, .bool true, .int .i64 rs.length, .slice (some ⟨g_o, 0, none⟩) rs.length cp, .int .i64 rs.length, .bool false, u47, u48, u49, u50, u51, u52, u53, u54, u55, u56, u57, u58, u59, u60, undef, .slice (some ⟨g_o, 0, none⟩) rs.length cp, .int .i64 j, .slice (some ⟨g_o, 0, none⟩) j cp, undef, .slice (some ⟨g_o, 0, none⟩) rs.length cp, .int .i64 j, undef, undef, undef, undef, undef, undef, undef, undef, undef], defers := [] } _
        refine wpAnyH_take (i := 7) (v := .int .i64 ((j : Int) + 1)) rfl (by kernel_rfl) (by kernel_rfl) (by kernel_rfl) (fun _ _ _ h => h) (Or.inl ⟨rfl, by intro w hS; go_simp⟩) hS ?_
        change wpAnyH _ _ _ _ _ _ _ { tmps := #[.slice (some ⟨b, off, none⟩) rs.length cap, .int .i64 ip, .int .i64 hw, undef, undef, undef, .slice none 0 0, .slice (some ⟨g_o, 0, none⟩) rs.length cp, .int .i64 (-1), .int .i64 j, .int .i64 rs.length, .slice (some ⟨w.heap.size, 0, none⟩) 0 0, .slice (some ⟨b, off, none⟩) rs.length cap, .slice (some ⟨g_o, 0, none⟩) rs.length cp, .slice (some ⟨b, off, none⟩) rs.length cap, .bool true, .bool false, .bool false, .int .i64 ip, .bool true, .bool false, .bool false, .bool false, .int .i64 hw, .bool true, .bool false, .bool false, undef, .slice (some ⟨b, off, none⟩) rs.length cap, .int .i64 ip, .int .i64 (-1), .int .i64 (-1), .bool false, undef, undef, undef, undef, undef, undef, undef, .slice (some ⟨g_o, 0, none⟩) rs.length cp, .int .i64 rs.length, .bool true, .int .i64 rs.length, .slice (some ⟨g_o, 0, none⟩) rs.length cp, .int .i64 rs.length, .bool false, u47, u48, u49, u50, u51, u52, u53, u54, u55, u56, u57, u58, u59, u60, undef, .slice (some ⟨g_o, 0, none⟩) rs.length cp, .int .i64 j, .slice (some ⟨g_o, 0, none⟩) j cp, undef, .slice (some ⟨g_o, 0, none⟩) rs.length cp, .int .i64 j, .int .i64 ((j : Int) + 1), undef, undef, undef, undef, undef, undef, undef, undef], defers := [] } _
        refine wpAnyH_take (i := 8) (v := .slice (some A) (rs.length - (j + 1)) (cp - (j + 1))) rfl (by kernel_rfl) (by kernel_rfl) (by kernel_rfl) (fun _ _ _ h => h) (Or.inl ⟨rfl, by intro w hS; rw [← hA]; go_simp; try (intro h; omega)⟩) hS ?_
        change wpAnyH _ _ _ _ _ _ _ { tmps := #[.slice (some ⟨b, off, none⟩) rs.length cap, .int .i64 ip, .int .i64 hw, undef, undef, undef, .slice none 0 0, .slice (some ⟨g_o, 0, none⟩) rs.length cp, .int .i64 (-1), .int .i64 j, .int .i64 rs.length, .slice (some ⟨w.heap.size, 0, none⟩) 0 0, .slice (some ⟨b, off, none⟩) rs.length cap, .slice (some ⟨g_o, 0, none⟩) rs.length cp, .slice (some ⟨b, off, none⟩) rs.length cap, .bool true, .bool false, .bool false, .int .i64 ip, .bool true, .bool false, .bool false, .bool false, .int .i64 hw, .bool true, .bool false, .bool false, undef, .slice (some ⟨b, off, none⟩) rs.length cap, .int .i64 ip, .int .i64 (-1), .int .i64 (-1), .bool false, undef, undef, undef, undef, undef, undef, undef, .slice (some ⟨g_o, 0, none⟩) rs.length cp, .int .i64 rs.length, .bool true, .int .i64 rs.length, .slice (some ⟨g_o, 0, none⟩) rs.length cp, .int .i64 rs.length, .bool false, u47, u48, u49, u50, u51, u52, u53, u54, u55, u56, u57, u58, u59, u60, undef, .slice (some ⟨g_o, 0, none⟩) rs.length cp, .int .i64 j, .slice (some ⟨g_o, 0, none⟩) j cp, undef, .slice (some ⟨g_o, 0, none⟩) rs.length cp, .int .i64 j, .int .i64 ((j : Int) + 1), .slice (some A) (rs.length - (j + 1)) (cp - (j + 1)), undef, undef, undef, undef, undef, undef, undef], defers := [] } _
        refine wpAnyH_ready (rs := [0]) (by kernel_rfl) (by simp) ?_
        refine AllReadyH.cons (i := 0) rfl (fun K hK => ?zr32) AllReadyH.nil
        rw [if_pos (by rfl)]
        go_simp
        have BD := Lib.hid (B9.out.trans (Below.refl w.heap.size wr).drew)
        have OL := Lib.hid (show ((wr.alloc (.cells #[] 71)).drew).ownsRow w.heap.size 71 3 (.slice (some ⟨wr.heap.size, 0, none⟩) 0 0) 0 [] from World.ownsRow_lit (base := w.heap.size) (e := 71) (size := 3) wr.drew #[] 0 BD.out.size (Nat.zero_le _) rfl)
        have OD := Lib.hid (own_below O9.out (show Below wr.heap.size wr ((wr.alloc (.cells #[] 71)).drew) from ((Below.refl _ wr).drew.alloc (Nat.le_refl _) _)))
        have BA := Lib.hid (show Below w.heap.size w ((wr.alloc (.cells #[] 71)).drew) from BD.out.alloc BD.out.size (.cells #[] 71))
        have nL : g_o ≠ wr.heap.size := Nat.ne_of_lt (O9.out.lt g_o rfl).2
        clear hS BD
        refine hK.out _ _ trivial (fun hS => ?_)
        clear hK K
        generalize (wr.alloc (.cells #[] 71)).drew = v20 at OL OD BA ⊢
        generalize wr.heap.size = g_L at OL nL ⊢
        change wpAnyH _ _ _ _ _ _ _ { tmps := #[.slice (some ⟨b, off, none⟩) rs.length cap, .int .i64 ip, .int .i64 hw, undef, undef, undef, .slice none 0 0, .slice (some ⟨g_o, 0, none⟩) rs.length cp, .int .i64 (-1), .int .i64 j, .int .i64 rs.length, .slice (some ⟨w.heap.size, 0, none⟩) 0 0, .slice (some ⟨b, off, none⟩) rs.length cap, .slice (some ⟨g_o, 0, none⟩) rs.length cp, .slice (some ⟨b, off, none⟩) rs.length cap, .bool true, .bool false, .bool false, .int .i64 ip, .bool true, .bool false, .bool false, .bool false, .int .i64 hw, .bool true, .bool false, .bool false, undef, .slice (some ⟨b, off, none⟩) rs.length cap, .int .i64 ip, .int .i64 (-1), .int .i64 (-1), .bool false, undef, undef, undef, undef, undef, undef, undef, .slice (some ⟨g_o, 0, none⟩) rs.length cp, .int .i64 rs.length, .bool true, .int .i64 rs.length, .slice (some ⟨g_o, 0, none⟩) rs.length cp, .int .i64 rs.length, .bool false, u47, u48, u49, u50, u51, u52, u53, u54, u55, u56, u57, u58, u59, u60, .slice (some ⟨g_L, 0, none⟩) 0 0, .slice (some ⟨g_o, 0, none⟩) rs.length cp, .int .i64 j, .slice (some ⟨g_o, 0, none⟩) j cp, undef, .slice (some ⟨g_o, 0, none⟩) rs.length cp, .int .i64 j, .int .i64 ((j : Int) + 1), .slice (some A) (rs.length - (j + 1)) (cp - (j + 1)), undef, undef, undef, undef, undef, undef, undef], defers := [] } _
        refine wpAnyH_ready (rs := [4]) (by kernel_rfl) (by simp) ?_
        refine AllReadyH.cons (i := 4) rfl (fun K hK => ?zt1) AllReadyH.nil
        refine step_append_at rfl _ _ _ rfl w.heap.size 71 i0 _ 3 24 Tryz.underlying24 hi hz0 hz1 hz2 rfl (by omega) _ 0 [] rfl OL.out ⟨g_o, 0, none⟩ j cp (ers (rs.take j)) rfl (by rw [ers_length, List.length_take, Nat.min_eq_left (Nat.le_of_lt hj)]) (row_adr ((Row.ownK OD.out).take_er j)) (ers_one _) (by unfold maxLen; omega) (by omega) BA.out.size ?_
        intro v1 v21 hown hgrow hnil _
        obtain ⟨g_m, c_m, rfl⟩ := own_shape hown (fun e => by have := (hnil.1 e).1; cases this)
        have OM := Lib.hid hown
        have OE := Lib.hid (OD.out.kept (show v20.grownBy v21 (some g_L) from hgrow) (.inr (own_ne nL)))
        have BM := Lib.hid (BA.out.grown hgrow BA.out.size (fun q e => (OL.out.lt q e).1))
        clear hS hown hgrow hnil OD OL BA
        refine hK.out _ _ trivial (fun hS => ?_)
        clear hK K
        change wpAnyH _ _ _ _ _ _ _ { tmps := #[.slice (some ⟨b, off, none⟩) rs.length cap, .int .i64 ip, .int .i64 hw, undef, undef, undef, .slice none 0 0, .slice (some ⟨g_o, 0, none⟩) rs.length cp, .int .i64 (-1), .int .i64 j, .int .i64 rs.length, .slice (some ⟨w.heap.size, 0, none⟩) 0 0, .slice (some ⟨b, off, none⟩) rs.length cap, .slice (some ⟨g_o, 0, none⟩) rs.length cp, .slice (some ⟨b, off, none⟩) rs.length cap, .bool true, .bool false, .bool false, .int .i64 ip, .bool true, .bool false, .bool false, .bool false, .int .i64 hw, .bool true, .bool false, .bool false, undef, .slice (some ⟨b, off, none⟩) rs.length cap, .int .i64 ip, .int .i64 (-1), .int .i64 (-1), .bool false, undef, undef, undef, undef, undef, undef, undef, .slice (some ⟨g_o, 0, none⟩) rs.length cp, .int .i64 rs.length, .bool true, .int .i64 rs.length, .slice (some ⟨g_o, 0, none⟩) rs.length cp, .int .i64 rs.length, .bool false, u47, u48, u49, u50, u51, u52, u53, u54, u55, u56, u57, u58, u59, u60, .slice (some ⟨g_L, 0, none⟩) 0 0, .slice (some ⟨g_o, 0, none⟩) rs.length cp, .int .i64 j, .slice (some ⟨g_o, 0, none⟩) j cp, .slice (some ⟨g_m, 0, none⟩) (0 + j) c_m, .slice (some ⟨g_o, 0, none⟩) rs.length cp, .int .i64 j, .int .i64 ((j : Int) + 1), .slice (some A) (rs.length - (j + 1)) (cp - (j + 1)), undef, undef, undef, undef, undef, undef, undef], defers := [] } _
        refine wpAnyH_ready (rs := [9]) (by kernel_rfl) (by simp) ?_
        refine AllReadyH.cons (i := 9) rfl (fun K hK => ?zt2) AllReadyH.nil
        refine step_append_at rfl _ _ _ rfl w.heap.size 71 i0 _ 3 24 Tryz.underlying24 hi hz0 hz1 hz2 rfl (by omega) _ (0 + j) _ rfl OM.out A (rs.length - (j + 1)) (cp - (j + 1)) (ers (rs.drop (j + 1))) rfl (by rw [ers_length, List.length_drop]) (tail_src OE.out hA hj) (ers_one _) (by unfold maxLen; omega) (by omega) BM.out.size ?_
        intro v2 v22 hown hgrow hnil _
        obtain ⟨g_n, c_n, rfl⟩ := own_shape hown (fun e => by have := (hnil.1 e).1; cases this)
        have BN := Lib.hid (BM.out.grown hgrow BM.out.size (fun q e => (OM.out.lt q e).1))
        rw [List.nil_append, ← ers_append, ← List.eraseIdx_eq_take_drop_succ, show 0 + j + (rs.length - (j + 1)) = rs.length - 1 by omega] at hown
        have ON := Lib.hid hown
        rw [show 0 + j + (rs.length - (j + 1)) = rs.length - 1 by omega]
        clear hS hown hgrow hnil OE OM BM
        refine hK.out _ _ trivial (fun hS => ?_)
        clear hK K
        change wpAnyH _ _ _ _ _ _ _ { tmps := #[.slice (some ⟨b, off, none⟩) rs.length cap, .int .i64 ip, .int .i64 hw, undef, undef, undef, .slice none 0 0, .slice (some ⟨g_o, 0, none⟩) rs.length cp, .int .i64 (-1), .int .i64 j, .int .i64 rs.length, .slice (some ⟨w.heap.size, 0, none⟩) 0 0, .slice (some ⟨b, off, none⟩) rs.length cap, .slice (some ⟨g_o, 0, none⟩) rs.length cp, .slice (some ⟨b, off, none⟩) rs.length cap, .bool true, .bool false, .bool false, .int .i64 ip, .bool true, .bool false, .bool false, .bool false, .int .i64 hw, .bool true, .bool false, .bool false, undef, .slice (some ⟨b, off, none⟩) rs.length cap, .int .i64 ip, .int .i64 (-1), .int .i64 (-1), .bool false, undef, undef, undef, undef, undef, undef, undef, .slice (some ⟨g_o, 0, none⟩) rs.length cp, .int .i64 rs.length, .bool true, .int .i64 rs.length, .slice (some ⟨g_o, 0, none⟩) rs.length cp, .int .i64 rs.length, .bool false, u47, u48, u49, u50, u51, u52, u53, u54, u55, u56, u57, u58, u59, u60, .slice (some ⟨g_L, 0, none⟩) 0 0, .slice (some ⟨g_o, 0, none⟩) rs.length cp, .int .i64 j, .slice (some ⟨g_o, 0, none⟩) j cp, .slice (some ⟨g_m, 0, none⟩) (0 + j) c_m, .slice (some ⟨g_o, 0, none⟩) rs.length cp, .int .i64 j, .int .i64 ((j : Int) + 1), .slice (some A) (rs.length - (j + 1)) (cp - (j + 1)), .slice (some ⟨g_n, 0, none⟩) (rs.length - 1) c_n, undef, undef, undef, undef, undef, undef], defers := [] } _
        refine wpAnyH_take (i := 10) (v := .slice (some ⟨g_n, 0, none⟩) (rs.length - 1) c_n) rfl (by kernel_rfl) (by kernel_rfl) (by kernel_rfl) (fun _ _ _ h => h) (Or.inl ⟨rfl, by intro w hS; go_simp⟩) hS ?_
        change wpAnyH _ _ _ _ _ _ _ { tmps := #[.slice (some ⟨b, off, none⟩) rs.length cap, .int .i64 ip, .int .i64 hw, undef, undef, undef, .slice none 0 0, .slice (some ⟨g_n, 0, none⟩) (rs.length - 1) c_n, .int .i64 (-1), .int .i64 j, .int .i64 rs.length, .slice (some ⟨w.heap.size, 0, none⟩) 0 0, .slice (some ⟨b, off, none⟩) rs.length cap, .slice (some ⟨g_o, 0, none⟩) rs.length cp, .slice (some ⟨b, off, none⟩) rs.length cap, .bool true, .bool false, .bool false, .int .i64 ip, .bool true, .bool false, .bool false, .bool false, .int .i64 hw, .bool true, .bool false, .bool false, undef, .slice (some ⟨b, off, none⟩) rs.length cap, .int .i64 ip, .int .i64 (-1), .int .i64 (-1), .bool false, undef, undef, undef, undef, undef, undef, undef, .slice (some ⟨g_o, 0, none⟩) rs.length cp, .int .i64 rs.length, .bool true, .int .i64 rs.length, .slice (some ⟨g_o, 0, none⟩) rs.length cp, .int .i64 rs.length, .bool false, u47, u48, u49, u50, u51, u52, u53, u54, u55, u56, u57, u58, u59, u60, .slice (some ⟨g_L, 0, none⟩) 0 0, .slice (some ⟨g_o, 0, none⟩) rs.length cp, .int .i64 j, .slice (some ⟨g_o, 0, none⟩) j cp, .slice (some ⟨g_m, 0, none⟩) (0 + j) c_m, .slice (some ⟨g_o, 0, none⟩) rs.length cp, .int .i64 j, .int .i64 ((j : Int) + 1), .slice (some A) (rs.length - (j + 1)) (cp - (j + 1)), .slice (some ⟨g_n, 0, none⟩) (rs.length - 1) c_n, undef, undef, undef, undef, undef, undef], defers := [] } _
        refine wpAnyH_done (by kernel_rfl) ?_ _
        refine NoPanic.normal ?_
        have e1 := goneE hj
        clear hS
        have hz := BN.out.size
        have hO_ := Lib.hid (own_below ON.out (show Below v22.heap.size v22 (v22.alloc (.cells #[.int .i64 ip, .int .i64 hw, .int .i64 0] 71)) from (Below.refl _ _).alloc (Nat.le_refl _) _))
        have hn_ := Lib.hid (heap_alloc_new v22 (.cells #[.int .i64 ip, .int .i64 hw, .int .i64 0] 71))
        go_wp2_with (at_builtin; refine wpList_append_lies _ rfl _ _ _ rfl w.heap.size 71 i0 _ 3 24 Tryz.underlying24 hi hz0 hz1 hz2 rfl (by omega) _ (rs.length - 1) _ rfl hO_.out ⟨v22.heap.size, 0, none⟩ 1 1 [.int .i64 ip, .int .i64 hw, .int .i64 0] rfl rfl (World.news_of_block (cs := #[.int .i64 ip, .int .i64 hw, .int .i64 0]) (t := 71) (fr := (0, 0)) hn_.out) (by simp [Value.oneCell']) (by omega) (by unfold maxLen; omega) (by omega) (by simp; omega) (v22.heap.size + 1) (by simp) ?_; intro gg' cap' w4 hown hgrow hat hlt')
        have hB4 : Below w.heap.size w w4 := (BN.out.alloc hz (.cells #[.int .i64 ip, .int .i64 hw, .int .i64 0] 71)).grown hgrow (by simp; omega) (fun j e => (hO_.out.lt j e).1)
        go_ret
        exact ⟨gg', cap', by rw [List.length_append, e1]; show _ = Ending.returned (.slice _ (rs.length - 1 + 1) _); rw [Nat.sub_add_cancel hpos]; rfl, by rw [List.length_append, e1, ers_append]; exact hown, hB4⟩
     ·rw [putE_more (q := ⟨ip, hw, 0⟩) h h4]
      go_enter Tryz.func37, Tryz.ntmps37
      go_wp2_with (at_builtin; refine wpList_append_own _ rfl _ _ 24 rfl w.heap.size 71 i0 (.agg #[.int .i64 0, .int .i64 0, .int .i64 0]) 3 24 Tryz.underlying24 hi hz0 hz1 hz2 rfl (by decide) (.slice (some ⟨w.heap.size, 0, none⟩) 0 0) 0 [] rfl O0.out ⟨b, off, none⟩ rs.length cap (ers rs) rfl (ers_length rs) HS.out (ers_one rs) (by unfold maxLen; omega) (by omega) (by simp) ?_; intro v' v0 hown1 hgrow1 hnil1; simp only [Nat.zero_add, List.nil_append] at hown1; obtain ⟨g_o, cp, rfl⟩ := own_shape hown1 (fun e => by have := (hnil1.1 e).1; cases this); have B0 := Lib.hid (((Below.refl w.heap.size w).alloc (Nat.le_refl _) (.cells #[] 71)).grown hgrow1 (by simp) (fun j e => by cases e; exact Nat.le_refl _)); have l_o := (hown1.lt g_o rfl).1; have Oo0 := Lib.hid hown1; clear hown1 hgrow1 hnil1)
      refine (C1.out _ ((HR.out.below B0.out).mono B0.out.size)).mono ?_
      rintro e v1 ⟨rfl, hb⟩
      have B1 := Lib.hid (B0.out.trans (hb.mono B0.out.size))
      have Oo1 := Lib.hid (Oo0.out.kept (below_any (row := none) hb) (.inr (by simp [Value.ownBlock])))
      clear hb B0 Oo0
      go_wp2_with fail
      refine (C2.out _).mono ?_
      rintro e v2 ⟨rfl, hb⟩
      have B2 := Lib.hid (B1.out.trans (hb.mono B1.out.size))
      have Oo2 := Lib.hid (Oo1.out.kept (below_any (row := none) hb) (.inr (by simp [Value.ownBlock])))
      clear hb B1 Oo1
      go_wp2_with fail
      refine (C3.out _).mono ?_
      rintro e v3 ⟨rfl, hb⟩
      have B3 := Lib.hid (B2.out.trans (hb.mono B2.out.size))
      have Oo3 := Lib.hid (Oo2.out.kept (below_any (row := none) hb) (.inr (by simp [Value.ownBlock])))
      clear hb B2 Oo2
      go_wp2_with fail
      refine (C4.out _ ((HR.out.below B3.out).mono B3.out.size)).mono ?_
      rintro e v4 ⟨rfl, hb⟩
      have B4 := Lib.hid (B3.out.trans (hb.mono B3.out.size))
      have Oo4 := Lib.hid (Oo3.out.kept (below_any (row := none) hb) (.inr (by simp [Value.ownBlock])))
      clear hb B3 Oo3
      have h4' : ((rs.length : Int) == 4) = false := by simp; omega
      have hz := B4.out.size
      have hO_ := Lib.hid (own_below (own_up Oo4.out l_o) (show Below v4.heap.size v4 (v4.alloc (.cells #[.int .i64 ip, .int .i64 hw, .int .i64 0] 71)) from (Below.refl _ _).alloc (Nat.le_refl _) _))
      have hn_ := Lib.hid (heap_alloc_new v4 (.cells #[.int .i64 ip, .int .i64 hw, .int .i64 0] 71))
      go_wp2_with (at_builtin; refine wpList_append_lies _ rfl _ _ _ rfl w.heap.size 71 i0 _ 3 24 Tryz.underlying24 hi hz0 hz1 hz2 rfl (by omega) _ rs.length _ rfl hO_.out ⟨v4.heap.size, 0, none⟩ 1 1 [.int .i64 ip, .int .i64 hw, .int .i64 0] rfl rfl (World.news_of_block (cs := #[.int .i64 ip, .int .i64 hw, .int .i64 0]) (t := 71) (fr := (0, 0)) hn_.out) (by simp [Value.oneCell']) (by omega) (by unfold maxLen; omega) (by omega) (by simp; omega) (v4.heap.size + 1) (by simp) ?_; intro gg' cap' w4 hown hgrow hat hlt')
      have hB4 : Below w.heap.size w w4 := (B4.out.alloc hz (.cells #[.int .i64 ip, .int .i64 hw, .int .i64 0] 71)).grown hgrow (by simp; omega) (fun j e => (hO_.out.lt j e).1)
      go_ret
      exact ⟨gg', cap', by rw [List.length_append]; rfl, by rw [List.length_append, ers_append]; exact hown, hB4⟩
end Go.Proofs.YtkkimgjcefojdaaGreatDoor
