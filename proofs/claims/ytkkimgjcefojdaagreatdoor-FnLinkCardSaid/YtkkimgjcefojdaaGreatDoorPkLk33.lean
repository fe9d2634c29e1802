/- Texts of a proof that belong together, joined. Nothing here is a claim. -/
import Derived.Test.YtkkimgjcefojdaaGreatDoorPkLk32
import Derived.Test.YtkkimgjcefojdaaGreatDoorPkLk19
import Derived.Test.YtkkimgjcefojdaaGreatDoorPkLk9
namespace Go.Proofs.YtkkimgjcefojdaaGreatDoor
open Go.RowKit Go.Lib

set_option maxRecDepth 100000 in
set_option maxHeartbeats 4000000 in
theorem drawLinkIn (a : Option Addr) (s : List UInt8) (cap : Nat) (w : World) (hrow : Row w w.heap.size a (byteCells s)) (hs : s.length ≤ 1048576) :
  Calls Tryz.prog 7 #[.slice a s.length cap] w fun e w' => ∃ (m ip : Int) (rs : List ER) (gg c : Nat) (t : ByteArray), e = .returned (.tuple #[.agg #[.int .i64 m, .int .i64 ip, .slice (some ⟨gg, 0, none⟩) rs.length c], .string t]) ∧ t.size ≤ 1604 ∧ DrawnL m ip rs gg c w w' := by
 have HR := Lib.hid hrow
 clear hrow
 go_enter Tryz.func7, Tryz.ntmps7
 have B0 := Lib.hid (show Below w.heap.size w (w.alloc (.cells #[.int .i64 0, .int .i64 0, .slice none 0 0] 26)) from (Below.refl _ w).alloc (Nat.le_refl _) _)
 have K0 := Lib.hid (Blk.new w [.int .i64 0, .int .i64 0, .slice none 0 0] 26)
 go_wp2_with fail
 generalize w.alloc (.cells #[.int .i64 0, .int .i64 0, .slice none 0 0] 26) = v0 at B0 K0 ⊢
 generalize hh : w.heap.size = gr at K0 ⊢
 have l_r : w.heap.size ≤ gr := Nat.le_of_eq hh
 clear hh
 have hr0 := K0.out.lt
 refine (l1New_any a s cap v0 ((HR.out.below B0.out).mono B0.out.size) hs).mono ?_
 rintro e v1 ⟨g, rfl, hc1, hb1⟩
 have C1 := Lib.hid hc1
 have L1 := Lib.hid hc1
 have G1 := Lib.hid (World.grownBy.refl v1 (some g))
 have B1 := Lib.hid hb1
 have Kr1 := Lib.hid (K0.out.below hb1)
 have c_r : gr ≠ g := by have := hc1.1; omega
 have hv1 : v0.heap.size ≤ v1.heap.size := hb1.size
 clear hc1 hb1 K0 HR hs
 obtain ⟨⟨cr0, cr1, cr2⟩, dr0, dr1, dr2⟩ := Kr1.out.o3
 go_wp2_with fail
 clear cr0 cr1 cr2 dr0 dr1 dr2
 refine (l16Bent_any _ g _ C1.out).mono ?_
 rintro e v2 ⟨m, ip, rs, gg, c, rfl, hn, ho, hcu, hgr⟩
 have Kr2 := Lib.hid (Kr1.out.grown hgr c_r)
 have G2 := Lib.hid (grown_tr G1.out hgr)
 have C2 := Lib.hid hcu
 clear hcu hgr Kr1 G1 C1
 have De2 := Lib.hid (show DrnE v1.heap.size g gg c rs v2 from ⟨ho, by have h1 := (ho.lt gg rfl).1; have h2 := L1.out.lt; omega⟩)
 have ne_r : gr ≠ gg := by have h1 := (ho.lt gg rfl).1; omega
 have HN := Lib.hid hn
 have hgl := De2.out.lt.2
 clear ho hn
 clear hgl
 obtain ⟨⟨cr0, cr1, cr2⟩, dr0, dr1, dr2⟩ := Kr2.out.o3
 go_wp2_with fail
 clear cr0 cr1 cr2 dr0 dr1 dr2
 refine (l16Raw_any _ g _ C2.out).mono ?_
 rintro e v3 ⟨t, rfl, ht, hcu, hgr⟩
 have Kr3 := Lib.hid (Kr2.out.grown hgr c_r)
 have De3 := Lib.hid (De2.out.grown hgr)
 have G3 := Lib.hid (grown_tr G2.out hgr)
 have C3 := Lib.hid hcu
 clear hcu hgr Kr2 De2 G2 C2
 have hz : w.heap.size ≤ v0.heap.size := B0.out.size
 obtain ⟨⟨cr0, cr1, cr2⟩, dr0, dr1, dr2⟩ := Kr3.out.o3
 go_wp2_with fail
 exact bodyPost_ret (v := .tuple #[.agg #[.int .i64 m, .int .i64 ip, .slice (some ⟨gg, 0, none⟩) rs.length c], .string t]) (by simp [results, Tryz.results7, go_sem, cr0, cr1, cr2]) rfl ⟨m, ip, rs, gg, c, t, rfl, ht, HN.out.1, HN.out.2.1, HN.out.2.2.1, HN.out.2.2.2, (own_cap De3.out.1).1, Row.ownK (((De3.out.set (b := gr) 0 _ ne_r).set (b := gr) 1 _ ne_r).set (b := gr) 2 _ ne_r).1, ((((B0.out.trans ((below_new B1.out L1.out G3.out).mono hz)).setCell l_r _).setCell l_r _).setCell l_r _)⟩

end Go.Proofs.YtkkimgjcefojdaaGreatDoor
namespace Go.Proofs.YtkkimgjcefojdaaGreatDoor
open Go.RowKit Go.Lib

end Go.Proofs.YtkkimgjcefojdaaGreatDoor
namespace Go.Proofs.YtkkimgjcefojdaaGreatDoor
open Go.RowKit Go.Lib

theorem byte_word (x : UInt8) : wordOk (x.toNat : Nat) 8 = true := by
 have h := x.toNat_lt
 unfold wordOk
 apply decide_eq_true
 refine ⟨by omega, by omega, ?_⟩
 show (x.toNat : Int) < 256
 omega
theorem read_ok (s : ByteArray) (h : pkWhy s = 0) : packOk (gw s 12 4 : Nat) (gw s 16 4 : Nat) (at8 s 8).toNat (at8 s 9).toNat (gw s 4 2 : Nat) (s.extract 20 (gw s 2 2)) = true := by
 obtain ⟨_, _, _, ⟨h2, h3, h4⟩, _, ht⟩ := pkWhy_zero h
 have h8 := (at8 s 8).toNat_lt
 unfold packOk
 simp only [Bool.and_eq_true, decide_eq_true_eq]
 refine ⟨gw_word s 12 4 (by omega), gw_word s 16 4 (by omega), by omega, byte_word _, gw_word s 4 2 (by omega), ?_⟩
 rw [ByteArray.size_extract]; omega
end Go.Proofs.YtkkimgjcefojdaaGreatDoor
namespace Go.Proofs.YtkkimgjcefojdaaGreatDoor
open Go.RowKit Go.Lib

/-- No two entries have one address. -/
def Apart (rs : List ER) : Prop := rs.Pairwise (fun a b => a.ip ≠ b.ip)
theorem apart_iff (rs : List ER) : (∀ i (h : i < rs.length), atE rs rs[i].ip = i) ↔ Apart rs := by
 unfold Apart
 rw [List.pairwise_iff_getElem]
 constructor
 ·intro h i j hi hj hij he
  have h1 := h i hi
  have h2 := h j hj
  rw [he] at h1
  omega
 ·intro h i hi
  exact atE_eq hi rfl fun j hj hji he => h j i hj hi hji he
/-- What an entry of a valid cache is. -/
def Fine (r : ER) : Prop := wordOk r.ip 32 = true ∧ wordOk r.hw 48 = true ∧ 0 ≤ r.age ∧ r.age ≤ 9
theorem cacheOk_pw (rs : List ER) : cacheOk rs = true ↔ rs.length ≤ 4 ∧ (∀ r ∈ rs, Fine r) ∧ Apart rs := by
 rw [cacheOk_iff, ← apart_iff]
 constructor
 ·rintro ⟨h1, h2⟩
  refine ⟨h1, fun r hr => ?_, fun i hi => (h2 i hi).2.2.2.2⟩
  obtain ⟨i, hi, rfl⟩ := List.getElem_of_mem hr
  obtain ⟨a, b, c, d, _⟩ := h2 i hi
  exact ⟨a, b, c, d⟩
 ·rintro ⟨h1, h2, h3⟩
  exact ⟨h1, fun i hi => ⟨(h2 _ (List.getElem_mem hi)).1, (h2 _ (List.getElem_mem hi)).2.1, (h2 _ (List.getElem_mem hi)).2.2.1, (h2 _ (List.getElem_mem hi)).2.2.2, h3 i hi⟩⟩
theorem not_at {rs : List ER} {ip : Int} (h : ¬ atE rs ip < rs.length) : ∀ r ∈ rs, r.ip ≠ ip := by
 intro r hr he
 obtain ⟨i, hi, rfl⟩ := List.getElem_of_mem hr
 have h2 : i < atE rs ip := by omega
 exact atE_before h2 he
theorem goneE' {rs : List ER} {i : Nat} (hi : i < rs.length) : (rs.eraseIdx i).length = rs.length - 1 := List.length_eraseIdx_of_lt hi
theorem put_ok {rs : List ER} {q : ER} (h : cacheOk rs = true) (hq : Fine q) : cacheOk (putE rs q) = true := by
 obtain ⟨h1, h2, h3⟩ := (cacheOk_pw rs).1 h
 by_cases hf : atE rs q.ip < rs.length
 ·rw [putE_set hf]
  refine (cacheOk_pw _).2 ⟨by simpa using h1, fun r hr => ?_, ?_⟩
  ·rcases List.mem_or_eq_of_mem_set hr with h4 | h4
   ·exact h2 r h4
   ·rw [h4]; exact hq
  ·have hip := atE_hit hf
   have hg : ∀ i (hi : i < rs.length), ((rs.set (atE rs q.ip) q)[i]'(by simpa using hi)).ip = rs[i].ip := by
    intro i hi
    rw [List.getElem_set]
    split
    ·rename_i e; subst e; exact hip.symm
    ·rfl
   unfold Apart at h3 ⊢
   rw [List.pairwise_iff_getElem] at h3 ⊢
   intro i j hi hj hij
   rw [List.length_set] at hi hj
   rw [hg i hi, hg j hj]
   exact h3 i j hi hj hij
 ·have hna := not_at hf
  have happ : ∀ ss : List ER, ss.length ≤ 3 → (∀ r ∈ ss, r ∈ rs) → Apart ss → cacheOk (ss ++ [q]) = true := by
   intro ss hl hs ha
   refine (cacheOk_pw _).2 ⟨by rw [List.length_append]; show ss.length + 1 ≤ 4; omega, fun r hr => ?_, ?_⟩
   ·rcases List.mem_append.1 hr with h4 | h4
    ·exact h2 r (hs r h4)
    ·rw [List.mem_singleton.1 h4]; exact hq
   ·unfold Apart
    rw [List.pairwise_append]
    refine ⟨ha, List.pairwise_singleton _ _, fun a ha' b hb => ?_⟩
    rw [List.mem_singleton.1 hb]
    exact hna a (hs a ha')
  by_cases h4 : rs.length = 4
  ·rw [putE_full hf h4]
   refine happ _ ?_ (fun r hr => List.mem_of_mem_eraseIdx hr) (List.Pairwise.sublist (List.eraseIdx_sublist ..) h3)
   rw [goneE' (oldE_lt (Nat.le_refl _) (by omega))]
   omega
  ·rw [putE_more hf h4]
   exact happ rs (by omega) (fun _ h => h) h3
theorem hw_at {rs : List ER} {q : ER} {k : Nat} (h : k < rs.length) (hk : rs[k] = q) (hj : ∀ j (h' : j < rs.length), j < k → rs[j].ip ≠ q.ip) : hasE rs q.ip = true ∧ hwE rs q.ip = q.hw := by
 have e := atE_eq h (by rw [hk]) hj
 unfold hasE hwE
 rw [e, List.getElem?_eq_getElem h, hk]
 exact ⟨decide_eq_true h, rfl⟩
theorem hw_app {ss : List ER} {q : ER} (h : ∀ r ∈ ss, r.ip ≠ q.ip) : hasE (ss ++ [q]) q.ip = true ∧ hwE (ss ++ [q]) q.ip = q.hw := by
 refine hw_at (k := ss.length) (by simp) (by simp) fun j h1 hj => ?_
 rw [List.getElem_append_left hj]
 exact h _ (List.getElem_mem hj)
theorem put_hw (rs : List ER) (q : ER) : hasE (putE rs q) q.ip = true ∧ hwE (putE rs q) q.ip = q.hw := by
 by_cases hf : atE rs q.ip < rs.length
 ·rw [putE_set hf]
  refine hw_at (k := atE rs q.ip) (by simpa using hf) (by simp) fun j h1 hj => ?_
  rw [List.getElem_set_ne (by omega)]
  exact atE_before hj
 ·have hna := not_at hf
  by_cases h4 : rs.length = 4
  ·rw [putE_full hf h4]
   exact hw_app fun r hr => hna r (List.mem_of_mem_eraseIdx hr)
  ·rw [putE_more hf h4]
   exact hw_app hna
end Go.Proofs.YtkkimgjcefojdaaGreatDoor
namespace Go.Proofs.YtkkimgjcefojdaaGreatDoor
open Go.RowKit Go.Lib

theorem cacheOk_learn {rs : List ER} (h : cacheOk rs = true) (ip hw : Int) : cacheOk (learnE rs ip hw) = true := by
 by_cases hx : (cacheOk rs && (wordOk ip 32 && wordOk hw 48)) = true
 ·rw [learnE_yes hx]
  simp only [Bool.and_eq_true] at hx
  exact put_ok (q := ⟨ip, hw, 0⟩) h ⟨hx.2.1, hx.2.2, Int.le_refl 0, (show (0 : Int) ≤ 9 by decide)⟩
 ·rw [learnE_no (by simpa using hx)]
  exact h
theorem linkOk_cache {m ip : Int} {rs : List ER} (h : linkOk m ip rs = true) : cacheOk rs = true := by
 simp only [linkOk, Bool.and_eq_true] at h
 exact h.2.2.2
theorem linkOk_learn {m ip : Int} {rs : List ER} (h : linkOk m ip rs = true) (q : Option Arr) : linkOk m ip (linkRs q rs) = true := by
 cases q with
 | none => exact h
 | some a =>
  have h1 := cacheOk_learn (linkOk_cache h) a.ip a.hw
  simp only [linkOk, Bool.and_eq_true] at h ⊢
  exact ⟨h.1, h.2.1, h.2.2.1, h1⟩
theorem has_learn {rs : List ER} {ip hw : Int} (h : cacheOk rs = true) (h1 : wordOk ip 32 = true) (h2 : wordOk hw 48 = true) : hasE (learnE rs ip hw) ip = true := by
 rw [learnE_yes (by rw [h, h1, h2]; rfl)]
 exact (put_hw rs ⟨ip, hw, 0⟩).1
theorem rfS_word {s : ByteArray} (h : rfOk s = true) : wordOk (rfS s) 48 = true := by
 have e : rfS s = (gw s 6 6 : Nat) := by unfold rfS; rw [if_pos h]
 rw [e]
 unfold rfOk readOk frameOk at h
 simp only [Bool.and_eq_true] at h
 exact h.2.1.1.2
theorem rkS_word {s : ByteArray} (h : pkWhy s = 0) : wordOk (rkS s) 32 = true := by
 have e : rkS s = (gw s 12 4 : Nat) := by unfold rkS rkF; rw [if_pos h]
 rw [e]
 exact (packOk_all (read_ok s h)).1
theorem arrOf_link {m ip : Int} {rs : List ER} {s : ByteArray} {o : Arr} (h : arrOf m ip rs s = some o) : linkOk m ip rs = true := by
 unfold arrOf at h
 split at h
 ·assumption
 ·cases h
/-- What is known of what comes through. -/
theorem arrOf_kind {m ip : Int} {rs : List ER} {s : ByteArray} {o : Arr} (h : arrOf m ip rs s = some o) :
  (o.kind = 2 ∧ o.d = ip ∧ o.p = 6 ∧ o.ans = ⟨#[]⟩ ∧ hasE (learnE rs o.ip o.hw) o.s = true) ∨
  (o.kind = 1 ∧ rfOk o.ans = true ∧ rfS o.ans = m ∧ rfT o.ans = 2054 ∧ o.ans.size ≤ 1604) ∨
  (o.kind = 0 ∧ o.s = 0 ∧ o.d = 0 ∧ o.t = 0 ∧ o.p = 0 ∧ o.i = 0 ∧ o.b = ⟨#[]⟩ ∧ o.ans = ⟨#[]⟩) := by
 have hl := arrOf_link h
 unfold arrOf at h
 rw [if_pos hl] at h
 split at h
 case isFalse => cases h
 case isTrue hok =>
  split at h
  case isFalse => cases h
  case isTrue hfor =>
   unfold frmIn at h
   split at h
   ·unfold arpIn arpMsg at h
    split at h
    case isFalse => cases h
    case isTrue =>
     split at h
     case isFalse => cases h
     case isTrue =>
      obtain rfl := (Option.some.inj h).symm
      split
      ·rename_i hr
       refine .inr (.inl ?_)
       have hf : frameOk (raF (rfB s) 8 6) m 2054 (arpText 2 m ip (raF (rfB s) 8 6) (raF (rfB s) 14 4)) = true := by
        simp only [rpOk, arpOk, Bool.and_eq_true] at hr
        obtain ⟨_, _, ⟨⟨⟨_, h1⟩, h2⟩, _⟩, _⟩ := hr
        have hz := arpText_le 2 m ip (raF (rfB s) 8 6) (raF (rfB s) 14 4)
        simp only [frameOk, h1, h2, Bool.true_and, Bool.and_eq_true, decide_eq_true_eq]
        omega
       obtain ⟨h1, _, h3, h4, _⟩ := read_text _ _ _ _ hf
       exact ⟨rfl, h1, h3, h4, frameText_le _ _ _ _⟩
      ·exact .inr (.inr ⟨rfl, rfl, rfl, rfl, rfl, rfl, rfl, rfl⟩)
   ·split at h
    ·unfold pkIn pkMsg at h
     split at h
     case isFalse => cases h
     case isTrue hk =>
      split at h
      case isFalse => cases h
      case isTrue hd =>
       split at h
       case isFalse => cases h
       case isTrue hp =>
        split at h
        ·cases h
        ·obtain rfl := (Option.some.inj h).symm
         exact .inl ⟨rfl, hd, hp, rfl, has_learn (linkOk_cache hl) (rkS_word hk) (rfS_word hok)⟩
    ·cases h
/-- What is known of what LinkIn answers, whatever came. -/
theorem arrOf_all (m ip : Int) (rs : List ER) (s : ByteArray) :
  (((arrOf m ip rs s).getD Arr.zero).kind = 2 ∧ ((arrOf m ip rs s).getD Arr.zero).d = ip ∧ ((arrOf m ip rs s).getD Arr.zero).p = 6 ∧ ((arrOf m ip rs s).getD Arr.zero).ans = ⟨#[]⟩ ∧ hasE (linkRs (arrOf m ip rs s) rs) ((arrOf m ip rs s).getD Arr.zero).s = true ∧ linkOk m ip (linkRs (arrOf m ip rs s) rs) = true) ∨
  (((arrOf m ip rs s).getD Arr.zero).kind = 1 ∧ rfOk ((arrOf m ip rs s).getD Arr.zero).ans = true ∧ rfS ((arrOf m ip rs s).getD Arr.zero).ans = m ∧ rfT ((arrOf m ip rs s).getD Arr.zero).ans = 2054 ∧ ((arrOf m ip rs s).getD Arr.zero).ans.size ≤ 1604 ∧ linkOk m ip (linkRs (arrOf m ip rs s) rs) = true) ∨
  (((arrOf m ip rs s).getD Arr.zero).kind = 0 ∧ ((arrOf m ip rs s).getD Arr.zero).s = 0 ∧ ((arrOf m ip rs s).getD Arr.zero).d = 0 ∧ ((arrOf m ip rs s).getD Arr.zero).t = 0 ∧ ((arrOf m ip rs s).getD Arr.zero).p = 0 ∧ ((arrOf m ip rs s).getD Arr.zero).i = 0 ∧ ((arrOf m ip rs s).getD Arr.zero).b = ⟨#[]⟩ ∧ ((arrOf m ip rs s).getD Arr.zero).ans = ⟨#[]⟩ ∧ (linkOk m ip rs = true → linkOk m ip (linkRs (arrOf m ip rs s) rs) = true)) := by
 cases h : arrOf m ip rs s with
 | none => exact .inr (.inr ⟨rfl, rfl, rfl, rfl, rfl, rfl, rfl, rfl, fun h => h⟩)
 | some o =>
  have hm := linkOk_learn (arrOf_link h) (some o)
  rcases arrOf_kind h with ⟨h1, h2, h3, h4, h5⟩ | ⟨h1, h2, h3, h4, h5⟩ | ⟨h1, h2, h3, h4, h5, h6, h7, h8⟩
  ·exact .inl ⟨h1, h2, h3, h4, h5, hm⟩
  ·exact .inr (.inl ⟨h1, h2, h3, h4, h5, hm⟩)
  ·exact .inr (.inr ⟨h1, h2, h3, h4, h5, h6, h7, h8, fun _ => hm⟩)
end Go.Proofs.YtkkimgjcefojdaaGreatDoor
namespace Go.Proofs.YtkkimgjcefojdaaGreatDoor
open Go.RowKit Go.Lib

noncomputable def sameE (a b : List ER) : Bool := decide (a = b)

set_option maxRecDepth 100000 in
theorem eqEE (r q : ER) (w : World) : (Op.equalIn 10000 71 (.agg #[.int .i64 r.ip, .int .i64 r.hw, .int .i64 r.age]) (.agg #[.int .i64 q.ip, .int .i64 q.hw, .int .i64 q.age])).run Tryz.prog w = .ok (decide (r = q)) w := by
 have u3 := Tryz.underlying3
 have a3 := Tryz.isAgg3
 have z3 := Tryz.sizeOf3
 have hS : Tryz.prog.underlying 71 = some (.struct (Tryz.prog.fieldsOf 71)) := by kernel_rfl
 have hp : Tryz.prog.stoodInHeld 71 = false := by kernel_rfl
 rw [show (10000 : Nat) = 9999 + 1 from rfl, run_equalIn_agg w 9999 71 _ _ hS hp]
 simp only [Program.fieldsOf, Tryz.underlying71]
 go_simp
 by_cases h1 : r.ip = q.ip
 ·rw [if_pos h1]
  by_cases h2 : r.hw = q.hw
  ·rw [if_pos h2]
   by_cases h3 : r.age = q.age
   ·rw [if_pos h3, decide_eq_true (ER.ext h1 h2 h3)]
   ·rw [if_neg h3, decide_eq_false (fun e => h3 (by rw [e]))]
  ·rw [if_neg h2, decide_eq_false (fun e => h2 (by rw [e]))]
 ·rw [if_neg h1, decide_eq_false (fun e => h1 (by rw [e]))]

theorem eqEE_yes {r q : ER} (h : r = q) (w : World) : (Op.equalIn 10000 71 (.agg #[.int .i64 r.ip, .int .i64 r.hw, .int .i64 r.age]) (.agg #[.int .i64 q.ip, .int .i64 q.hw, .int .i64 q.age])).run Tryz.prog w = .ok true w := by
 rw [eqEE, decide_eq_true h]
theorem eqEE_no {r q : ER} (h : r ≠ q) (w : World) : (Op.equalIn 10000 71 (.agg #[.int .i64 r.ip, .int .i64 r.hw, .int .i64 r.age]) (.agg #[.int .i64 q.ip, .int .i64 q.hw, .int .i64 q.age])).run Tryz.prog w = .ok false w := by
 rw [eqEE, decide_eq_false h]

/-- Up to k, the two lists agree. -/
def AlikeE (rs ss : List ER) (k : Nat) : Prop := ∀ j (h : j < rs.length) (h' : j < ss.length), j < k → rs[j] = ss[j]
theorem AlikeE.zero (rs ss : List ER) : AlikeE rs ss 0 := fun _ _ _ h => by omega
theorem AlikeE.next {rs ss : List ER} {k : Nat} (h : AlikeE rs ss k) (h1 : k < rs.length) (h2 : k < ss.length) (he : rs[k] = ss[k]) : AlikeE rs ss (k + 1) := fun j a b hj => by
 rcases Nat.lt_or_ge j k with h3 | h3
 ·exact h j a b h3
 ·obtain rfl : j = k := by omega
  exact he
theorem AlikeE.all {rs ss : List ER} (h : AlikeE rs ss rs.length) (hl : rs.length = ss.length) : sameE rs ss = true := by
 unfold sameE
 exact decide_eq_true (List.ext_getElem hl fun i h1 h2 => h i h1 h2 h1)
theorem sameE_no {rs ss : List ER} {k : Nat} (h1 : k < rs.length) (h2 : k < ss.length) (he : rs[k] ≠ ss[k]) : sameE rs ss = false := by
 unfold sameE
 exact decide_eq_false fun e => he (by subst e; rfl)
theorem sameE_len {rs ss : List ER} (h : rs.length ≠ ss.length) : sameE rs ss = false := by
 unfold sameE
 exact decide_eq_false fun e => h (by rw [e])

set_option maxRecDepth 100000 in
set_option maxHeartbeats 1000000 in
theorem equalE (a b : Option Addr) (c d : Nat) (rs ss : List ER) (w : World) (ha : Row w w.heap.size a (ers rs)) (hb : Row w w.heap.size b (ers ss)) (hl : rs.length ≤ 1048577) :
  Calls Tryz.prog 38 #[.slice a rs.length c, .slice b ss.length d] w (BoolE (sameE rs ss) w) := by
 have A0 := Lib.hid ha
 have B0 := Lib.hid hb
 clear ha hb
 by_cases hn : rs.length = ss.length
 ·go_enter Tryz.func38, Tryz.ntmps38
  go_wp2_with fail
  go_loopw [13] (fun i wr => ∃ k : Nat, k ≤ ss.length ∧ i = .int .i64 k ∧ Hid (AlikeE rs ss k) ∧ Hid (Below w.heap.size w wr)) (fun i _ => ss.length - (RowKit.intOf i).toNat)
  case atStart => exact ⟨0, Nat.zero_le _, rfl, AlikeE.zero _ _, Below.refl _ _⟩
  case round =>
   obtain ⟨k, hk, rfl, hal, hbl⟩ := hrel
   by_cases hlt : k < ss.length
   ·have hlt' : k < rs.length := by omega
    obtain ⟨p, o, rfl, _, hcs⟩ := (A0.out.below hbl.out).er hlt'
    obtain ⟨q, u, rfl, _, hds⟩ := (B0.out.below hbl.out).er hlt
    obtain ⟨hc0, hc1, hc2⟩ := hcs k hlt'
    obtain ⟨hd0, hd1, hd2⟩ := hds k hlt
    have hk0 : (0 : Int) ≤ (k : Int) := Int.natCast_nonneg _
    have hk1 : (k : Int) < (ss.length : Int) := by omega
    clear hcs hds
    by_cases he : rs[k] = ss[k]
    ·have E := fun w => eqEE_yes he w
     have HE := Lib.hid he
     clear he
     go_wp2_with fail
     go_quiet (fail)
     go_wp2_with fail
     go_roundw
     case rel => exact ⟨k + 1, by omega, by go_num, hal.out.next hlt' hlt HE.out, below_drawn hbl.out _⟩
     case measure => simp [RowKit.intOf]; omega
    ·have E := fun w => eqEE_no he w
     have HE := Lib.hid he
     clear he
     go_wp2_with fail
     go_quiet (fail)
     go_wp2_with fail
     go_ret
     exact ⟨ret_bool (sameE_no hlt' hlt HE.out).symm, below_drawn hbl.out _⟩
   ·obtain rfl : k = ss.length := by omega
    go_wp2_with fail
    go_ret
    exact ⟨ret_bool (AlikeE.all (by rw [hn]; exact hal.out) hn).symm, hbl.out⟩
 ·rw [sameE_len hn]
  have hn' : ((rs.length : Int) == (ss.length : Int)) = false := by simp; omega
  go_enter Tryz.func38, Tryz.ntmps38
  go_wp2_with fail
  go_ret
  exact ⟨rfl, Below.refl _ _⟩

/-- Two links are the same. -/
noncomputable def sameL (m n ip jp : Int) (rs ss : List ER) : Bool := (m == n) && ((ip == jp) && sameE rs ss)
theorem sameL_m {m n ip jp : Int} {rs ss : List ER} (h : (m == n) = false) : sameL m n ip jp rs ss = false := by simp [sameL, h]
theorem sameL_i {m n ip jp : Int} {rs ss : List ER} (h : (ip == jp) = false) : sameL m n ip jp rs ss = false := by simp [sameL, h]
theorem sameL_r (m ip : Int) (rs ss : List ER) : sameL m m ip ip rs ss = sameE rs ss := by simp [sameL]
theorem sameL_len {m n ip jp : Int} {rs ss : List ER} (h : rs.length ≠ ss.length) : sameL m n ip jp rs ss = false := by simp [sameL, sameE_len h]
theorem sameL_self (m ip : Int) (rs : List ER) : sameL m m ip ip rs rs = true := by simp [sameL, sameE]

set_option maxRecDepth 100000 in
set_option maxHeartbeats 2000000 in
theorem sameLinkI (m n ip jp : Int) (a1 a2 : Option Addr) (c1 c2 : Nat) (rs ss : List ER) (w : World) (ha : Row w w.heap.size a1 (ers rs)) (hb : Row w w.heap.size a2 (ers ss)) (hl : rs.length ≤ 1048577) :
  Calls Tryz.prog 11 #[.agg #[.int .i64 m, .int .i64 ip, .slice a1 rs.length c1], .agg #[.int .i64 n, .int .i64 jp, .slice a2 ss.length c2]] w (BoolE (sameL m n ip jp rs ss) w) := by
 have B2 := Lib.hid (show Below w.heap.size w ((w.alloc (.cells #[.int .i64 m, .int .i64 ip, .slice a1 rs.length c1] 26)).alloc (.cells #[.int .i64 n, .int .i64 jp, .slice a2 ss.length c2] 26)) from ((Below.refl _ w).alloc (Nat.le_refl _) _).alloc (by simp) _)
 have A0 := Lib.hid ((ha.below B2.out).mono B2.out.size)
 have B0 := Lib.hid ((hb.below B2.out).mono B2.out.size)
 clear ha hb
 by_cases hu : (m == n) = false
 ·rw [sameL_m hu]
  go_enter Tryz.func11, Tryz.ntmps11
  go_wp2_with fail
  go_ret
  exact ⟨rfl, B2.out⟩
 obtain rfl : m = n := by simpa using hu
 clear hu
 by_cases hu : (ip == jp) = false
 ·rw [sameL_i hu]
  go_enter Tryz.func11, Tryz.ntmps11
  go_wp2_with fail
  go_ret
  exact ⟨rfl, B2.out⟩
 obtain rfl : ip = jp := by simpa using hu
 clear hu
 rw [sameL_r]
 go_enter Tryz.func11, Tryz.ntmps11
 go_wp2_with fail
 refine (equalE a1 a2 c1 c2 rs ss _ A0.out B0.out hl).mono ?_
 rintro e w1 ⟨rfl, hb1⟩
 have B3 := Lib.hid (B2.out.trans (hb1.mono B2.out.size))
 clear hb1
 go_wp2_with fail
 go_ret
 exact ⟨rfl, B3.out⟩

set_option maxRecDepth 100000 in
set_option maxHeartbeats 2000000 in
theorem sameLinkS (m n ip jp : Int) (a1 a2 : Option Addr) (c1 c2 : Nat) (rs ss : List ER) (w : World) (ha : Row w w.heap.size a1 (ers rs)) (hb : Row w w.heap.size a2 (ers ss)) (hl : rs.length ≤ 1048577) :
  Calls Tryz.prog 10 #[.agg #[.int .i64 m, .int .i64 ip, .slice a1 rs.length c1], .agg #[.int .i64 n, .int .i64 jp, .slice a2 ss.length c2]] w (BoolE (sameL m n ip jp rs ss) w) := by
 have B2 := Lib.hid (show Below w.heap.size w ((w.alloc (.cells #[.int .i64 m, .int .i64 ip, .slice a1 rs.length c1] 26)).alloc (.cells #[.int .i64 n, .int .i64 jp, .slice a2 ss.length c2] 26)) from ((Below.refl _ w).alloc (Nat.le_refl _) _).alloc (by simp) _)
 have A0 := Lib.hid ((ha.below B2.out).mono B2.out.size)
 have B0 := Lib.hid ((hb.below B2.out).mono B2.out.size)
 clear ha hb
 by_cases hu : (m == n) = false
 ·rw [sameL_m hu]
  have hu' : (m != n) = true := by simp [bne, hu]
  go_enter Tryz.func10, Tryz.ntmps10
  go_wp2_with fail
  go_ret
  exact ⟨rfl, B2.out⟩
 obtain rfl : m = n := by simpa using hu
 clear hu
 by_cases hu : (ip == jp) = false
 ·rw [sameL_i hu]
  have hu' : (ip != jp) = true := by simp [bne, hu]
  go_enter Tryz.func10, Tryz.ntmps10
  go_wp2_with fail
  go_ret
  exact ⟨rfl, B2.out⟩
 obtain rfl : ip = jp := by simpa using hu
 clear hu
 by_cases hn : rs.length = ss.length
 case neg =>
  have hn' : ((rs.length : Int) == (ss.length : Int)) = false := by simp; omega
  have hn2 : ((rs.length : Int) != (ss.length : Int)) = true := by simp [bne, hn']
  rw [sameL_len hn]
  go_enter Tryz.func10, Tryz.ntmps10
  go_wp2_with fail
  go_ret
  exact ⟨rfl, B2.out⟩
 have HN := Lib.hid hn
 have hn' : ((rs.length : Int) == (ss.length : Int)) = true := by simp; omega
 have hn2 : ((rs.length : Int) != (ss.length : Int)) = false := by simp [bne, hn']
 clear hn
 rw [sameL_r]
 have s1 : (w.alloc (.cells #[.int .i64 m, .int .i64 ip, .slice a1 rs.length c1] 26)).heap.size = w.heap.size + 1 := by simp
 have E1 := Lib.hid (show Blk ((w.alloc (.cells #[.int .i64 m, .int .i64 ip, .slice a1 rs.length c1] 26)).alloc (.cells #[.int .i64 m, .int .i64 ip, .slice a2 ss.length c2] 26)) w.heap.size [.int .i64 m, .int .i64 ip, .slice a1 rs.length c1] from (Blk.new w [.int .i64 m, .int .i64 ip, .slice a1 rs.length c1] 26).alloc _)
 have E2 := Lib.hid (show Blk ((w.alloc (.cells #[.int .i64 m, .int .i64 ip, .slice a1 rs.length c1] 26)).alloc (.cells #[.int .i64 m, .int .i64 ip, .slice a2 ss.length c2] 26)) (w.heap.size + 1) [.int .i64 m, .int .i64 ip, .slice a2 ss.length c2] by
  have := Blk.new (w.alloc (.cells #[.int .i64 m, .int .i64 ip, .slice a1 rs.length c1] 26)) [.int .i64 m, .int .i64 ip, .slice a2 ss.length c2] 26
  rwa [s1] at this)
 clear s1
 go_enter Tryz.func10, Tryz.ntmps10
 go_wp2_with fail
 generalize ((w.alloc (.cells #[.int .i64 m, .int .i64 ip, .slice a1 rs.length c1] 26)).alloc (.cells #[.int .i64 m, .int .i64 ip, .slice a2 ss.length c2] 26)) = w2 at B2 A0 B0 E1 E2 ⊢
 clear hn' hn2
 go_loopw [5] (fun i wr => ∃ k : Nat, k ≤ rs.length ∧ i = .int .i64 k ∧ Hid (AlikeE rs ss k) ∧ Hid (Below w2.heap.size w2 wr)) (fun i _ => rs.length - (RowKit.intOf i).toNat)
 case atStart => exact ⟨0, Nat.zero_le _, rfl, AlikeE.zero _ _, Below.refl _ _⟩
 case round =>
  obtain ⟨k, hk, rfl, hal, hbl⟩ := hrel
  obtain ⟨⟨x0, x1, x2⟩, _, _, _⟩ := (E1.out.below hbl.out).o3
  obtain ⟨⟨y0, y1, y2⟩, _, _, _⟩ := (E2.out.below hbl.out).o3
  by_cases hlt : k < rs.length
  ·have hlt2 : k < ss.length := by have := HN.out; omega
   obtain ⟨p, o, rfl, _, hcs⟩ := (A0.out.below hbl.out).er hlt
   obtain ⟨q, u, rfl, _, hds⟩ := (B0.out.below hbl.out).er hlt2
   obtain ⟨hc0, hc1, hc2⟩ := hcs k hlt
   obtain ⟨hd0, hd1, hd2⟩ := hds k hlt2
   have hk0 : (0 : Int) ≤ (k : Int) := Int.natCast_nonneg _
   have hk1 : (k : Int) < (rs.length : Int) := by omega
   have hk2 : (k : Int) < (ss.length : Int) := by omega
   clear hcs hds
   by_cases he : rs[k] = ss[k]
   ·have E := fun w => eqEE_yes he w
    have HE := Lib.hid he
    clear he
    go_wp2_with fail
    go_quiet (fail)
    go_wp2_with fail
    go_roundw
    case rel => exact ⟨k + 1, by omega, by go_num, hal.out.next hlt hlt2 HE.out, below_drawn hbl.out _⟩
    case measure => simp [RowKit.intOf]; omega
   ·have E := fun w => eqEE_no he w
    have HE := Lib.hid he
    clear he
    go_wp2_with fail
    go_quiet (fail)
    go_wp2_with fail
    go_ret
    exact ⟨ret_bool (sameE_no hlt hlt2 HE.out).symm, B2.out.trans ((below_drawn hbl.out _).mono B2.out.size)⟩
  ·obtain rfl : k = rs.length := by omega
   go_wp2_with fail
   go_ret
   exact ⟨ret_bool (AlikeE.all hal.out HN.out).symm, B2.out.trans (hbl.out.mono B2.out.size)⟩
end Go.Proofs.YtkkimgjcefojdaaGreatDoor
