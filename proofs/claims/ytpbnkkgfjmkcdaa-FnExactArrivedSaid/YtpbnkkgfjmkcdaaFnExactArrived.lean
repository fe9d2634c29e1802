/- The law FnExactArrived holds for every argument (up to the law's own measure of 1048576 pieces and bytes; past it the law itself answers true): impl's Arrived answers as the model's, leaves its argument, and hands back memory of its own. No condition. -/
import Derived.Test.YtpbnkkgfjmkcdaaRows
import Derived.Test.YtpbnkkgfjmkcdaaArrI
import Derived.Test.YtpbnkkgfjmkcdaaArrS
import Derived.Test.YtpbnkkgfjmkcdaaRcvLaw2
import Derived.Test.YtpbnkkgfjmkcdaaArgRcv
import Derived.Deep.RegionHeld3
import Derived.ProofKit
import Derived.OpenShut
import Derived.ShutString
import Derived.ChangeSame
namespace Go.Proofs.Ytpbnkkgfjmkcdaa.fnExactArrived
open Go.ChangeShapes Go.WideShapes Go.ChangeAt Go.RowKit Go.Lib
open Go.ChangeMaps (open_string shut_string)

/-- The law's word: true, and what lay before the call lies as it lay. -/
def OkB (w : World) (e : Ending) (w' : World) : Prop := e = .returned (.bool true) ∧ Below w.heap.size w w'
theorem own_someN {w : World} {base size n cap : Nat} {e : TypeId} {a : Option Addr} {xs : List Value} (h : w.ownsRow base e size (.slice a n cap) n xs) (hn : 0 < n) : ∃ g, a = some ⟨g, 0, none⟩ := by
  obtain ⟨g, cap', hv, _, _⟩ := h.form hn
  injection hv with h1
  exact ⟨g, h1⟩
theorem arrived_len (r : Rcv) (s : Int) (x : ByteArray) (fin : Bool) (h : r.rs.length ≤ 1048576) : (arrived r s x fin).rs.length ≤ 1048576 := by
  have hp := fun T c => pcs_le T c (33 - c)
  unfold arrived
  cases rcvOk r && !r.z with
  | false => exact h
  | true =>
    simp only [cond_true]
    generalize arrTab r s x = T
    generalize finAt r.f fin _ _ T = F
    unfold arrEnd
    have := hp T (cnt T)
    split
    · exact h
    · split
      · show (pcs T (cnt T) (33 - cnt T)).length ≤ _; omega
      · split
        · show (pcs T (cnt T) (33 - cnt T)).length ≤ _; omega
        · show (pcs T (cnt T) (33 - cnt T)).length ≤ _; omega

set_option maxRecDepth 100000 in
set_option maxHeartbeats 16000000 in
theorem go (n f : Int) (z : Bool) (d : ByteArray) (a : Option Addr) (cap : Nat) (rs : List HP) (sq : Int) (x : ByteArray) (fin : Bool) (w : World) (hrowA : Row w w.heap.size a (hps rs)) (hdA : d.size ≤ maxLen) (hmA : rs.length ≤ maxLen) (hgA : ∀ r ∈ rs, r.t.size ≤ maxLen) :
    Calls Try.prog 7 #[.agg #[.int .i64 n, .string d, .slice a rs.length cap, .int .i64 f, .bool z], .int .i64 sq, .string x, .bool fin] w (OkB w) := by
  have HA := Lib.hid hrowA
  replace hdA := Lib.hid hdA
  replace hmA := Lib.hid hmA
  replace hgA := Lib.hid hgA
  clear hrowA
  by_cases hx : (x.size : Int) ≤ 1048576
  case neg =>
    have h1 : (1048576 : Int) < x.size := by omega
    clear hx
    go_enter Try.func7, Try.ntmps7
    go_wp2_with fail
    go_ret
    exact ⟨rfl, (Below.refl _ _).alloc (Nat.le_refl _) _⟩
  have hx1 : ¬ (1048576 : Int) < x.size := by omega
  have hx2 := Lib.hid (show x.size ≤ 1048576 by omega)
  clear hx
  go_enter Try.func7, Try.ntmps7
  have B0 := Lib.hid (show Below w.heap.size w (w.alloc (.cells #[.int .i64 n, .string d, .slice a rs.length cap, .int .i64 f, .bool z] 42)) from ((Below.refl _ w).alloc (by simp) _))
  have KA0 := Lib.hid (show Blk (w.alloc (.cells #[.int .i64 n, .string d, .slice a rs.length cap, .int .i64 f, .bool z] 42)) (w.heap.size) [.int .i64 n, .string d, .slice a rs.length cap, .int .i64 f, .bool z] from Blk.new w [.int .i64 n, .string d, .slice a rs.length cap, .int .i64 f, .bool z] 42)
  go_wp2_with fail
  change Calls _ _ _ (w.alloc (.cells #[.int .i64 n, .string d, .slice a rs.length cap, .int .i64 f, .bool z] 42)) _
  generalize w.alloc (.cells #[.int .i64 n, .string d, .slice a rs.length cap, .int .i64 f, .bool z] 42) = v0 at B0 KA0 ⊢
  generalize hh_A : w.heap.size = g_A at KA0 ⊢
  have l_A : w.heap.size ≤ g_A := by omega
  clear hh_A
  clear hx1
  refine (szReceiver_any n f z d a cap rs 1048576 _ ((HA.out.below B0.out).mono B0.out.size) hdA.out hmA.out hgA.out (by omega) (by omega)).mono ?_
  rintro e v1 ⟨hb, qA, rfl, hqA, hrA⟩
  have B1 := Lib.hid (B0.out.trans (hb.mono B0.out.size))
  have KA1 := Lib.hid (KA0.out.below hb)
  clear hb B0 KA0
  replace hrA := Lib.hid hrA
  by_cases hzA : qA < 0
  case pos =>
    clear hrA
    obtain ⟨⟨cA0, cA1, cA2, cA3, cA4⟩, dA0, dA1, dA2, dA3, dA4⟩ := KA1.out.of5
    go_wp2_with fail
    go_ret
    exact ⟨rfl, B1.out⟩
  have hsA := hrA.out (by omega)
  have HLA := Lib.hid (show rs.length ≤ 1048576 by omega)
  have HBA := Lib.hid (show RB d rs from ⟨by omega, by omega, fun r hr => by have := plens_mem rs r hr; omega⟩)
  replace hsA := Lib.hid hsA
  clear hrA
  have CS := fun g w (h : HasP w (some ⟨g, 0, none⟩) rs.length rs) => arrS n f sq z fin d x (some ⟨g, 0, none⟩) rs.length rs HBA.out hx2.out w h
  have CI := fun g w (h : HasP w (some ⟨g, 0, none⟩) rs.length rs) => arrI n f sq z fin d x (some ⟨g, 0, none⟩) rs.length rs HBA.out w h
  have hl2 : (arrived ⟨n, d, rs, f, z⟩ sq x fin).rs.length ≤ 1048576 := arrived_len _ _ _ _ HLA.out
  unfold NewRE at CS CI
  generalize arrived ⟨n, d, rs, f, z⟩ sq x fin = R at CS CI hl2
  obtain ⟨n', d', L, f', z'⟩ := R
  simp only at CS CI hl2
  replace CS := Lib.hid CS
  replace CI := Lib.hid CI
  replace hl2 := Lib.hid hl2
  by_cases hp : 0 < L.length
  case pos =>
    obtain ⟨⟨cA0, cA1, cA2, cA3, cA4⟩, dA0, dA1, dA2, dA3, dA4⟩ := KA1.out.of5
    go_wp2_with fail
    clear cA0 cA1 cA2 cA3 cA4 dA0 dA1 dA2 dA3 dA4
    refine (toReceiver_any n f z d a cap rs _ ((HA.out.below B1.out).mono B1.out.size) HLA.out).mono ?_
    rintro e v2 ⟨g_t, rfl, ho_t, hb⟩
    have n_A_t : g_A ≠ g_t := by have h1 := KA1.out.lt; have h2 := (ho_t.lt g_t rfl).1; omega
    have l_t : w.heap.size ≤ g_t := Nat.le_trans B1.out.size (ho_t.lt g_t rfl).1
    have B2 := Lib.hid (B1.out.trans (hb.mono B1.out.size))
    have KA2 := Lib.hid (KA1.out.below hb)
    have Ot2 := Lib.hid (own_down ho_t (Nat.zero_le _))
    clear hb B1 KA1 ho_t
    obtain ⟨⟨cA0, cA1, cA2, cA3, cA4⟩, dA0, dA1, dA2, dA3, dA4⟩ := KA2.out.of5
    go_wp2_with fail
    clear cA0 cA1 cA2 cA3 cA4 dA0 dA1 dA2 dA3 dA4
    refine (CS.out g_t _ (HasP.own Ot2.out)).mono ?_
    rintro e v3 ⟨a_w, c_w, rfl, ho, hb⟩
    obtain ⟨g_w, rfl⟩ := own_someN ho hp
    have ho_w := ho
    clear ho
    have n_A_w : g_A ≠ g_w := by have h1 := KA2.out.lt; have h2 := (ho_w.lt g_w rfl).1; omega
    have n_t_w : g_t ≠ g_w := by have h1 := (Ot2.out.lt g_t rfl).2; have h2 := (ho_w.lt g_w rfl).1; omega
    have l_w : w.heap.size ≤ g_w := Nat.le_trans B2.out.size (ho_w.lt g_w rfl).1
    have B3 := Lib.hid (B2.out.trans (hb.mono B2.out.size))
    have KA3 := Lib.hid (KA2.out.below hb)
    have Ot3 := Lib.hid (Ot2.out.kept (below_any (row := none) hb) (.inr (by simp [Value.ownBlock])))
    have Ow3 := Lib.hid (own_down ho_w (Nat.zero_le _))
    clear hb B2 KA2 Ot2 ho_w
    have KWn := Lib.hid (Blk.new v3 [.int .i64 n', .string d', .slice (some ⟨g_w, 0, none⟩) L.length c_w, .int .i64 f', .bool z'] 26)
    have l_W : w.heap.size ≤ v3.heap.size := B3.out.size
    have n_A_W : g_A ≠ v3.heap.size := by have h1 := KA3.out.lt; omega
    have n_t_W : g_t ≠ v3.heap.size := by have h1 := (Ot3.out.lt g_t rfl).2; omega
    have n_w_W : g_w ≠ v3.heap.size := by have h1 := (Ow3.out.lt g_w rfl).2; omega
    have Bn := Lib.hid (B3.out.alloc B3.out.size (.cells #[.int .i64 n', .string d', .slice (some ⟨g_w, 0, none⟩) L.length c_w, .int .i64 f', .bool z'] 26))
    have KAn := Lib.hid (KA3.out.alloc (.cells #[.int .i64 n', .string d', .slice (some ⟨g_w, 0, none⟩) L.length c_w, .int .i64 f', .bool z'] 26))
    have Otn := Lib.hid (Ot3.out.alloc (.cells #[.int .i64 n', .string d', .slice (some ⟨g_w, 0, none⟩) L.length c_w, .int .i64 f', .bool z'] 26))
    have Own := Lib.hid (Ow3.out.alloc (.cells #[.int .i64 n', .string d', .slice (some ⟨g_w, 0, none⟩) L.length c_w, .int .i64 f', .bool z'] 26))
    clear B3 KA3 Ot3 Ow3
    obtain ⟨⟨cA0, cA1, cA2, cA3, cA4⟩, dA0, dA1, dA2, dA3, dA4⟩ := KAn.out.of5
    go_wp2_with fail
    clear cA0 cA1 cA2 cA3 cA4 dA0 dA1 dA2 dA3 dA4
    change Calls _ _ _ (v3.alloc (.cells #[.int .i64 n', .string d', .slice (some ⟨g_w, 0, none⟩) L.length c_w, .int .i64 f', .bool z'] 26)) _
    generalize v3.alloc (.cells #[.int .i64 n', .string d', .slice (some ⟨g_w, 0, none⟩) L.length c_w, .int .i64 f', .bool z'] 26) = v4 at KWn Bn KAn Otn Own ⊢
    generalize v3.heap.size = g_W at KWn l_W n_A_W n_t_W n_w_W ⊢
    clear v3
    have KA4 := KAn
    clear KAn
    have KW4 := KWn
    clear KWn
    have Ot4 := Otn
    clear Otn
    have Ow4 := Own
    clear Own
    have B4 := Bn
    clear Bn
    refine (toReceiver_any n f z d a cap rs _ ((HA.out.below B4.out).mono B4.out.size) HLA.out).mono ?_
    rintro e v5 ⟨g_x, rfl, ho_x, hb⟩
    have n_A_x : g_A ≠ g_x := by have h1 := KA4.out.lt; have h2 := (ho_x.lt g_x rfl).1; omega
    have n_W_x : g_W ≠ g_x := by have h1 := KW4.out.lt; have h2 := (ho_x.lt g_x rfl).1; omega
    have n_t_x : g_t ≠ g_x := by have h1 := (Ot4.out.lt g_t rfl).2; have h2 := (ho_x.lt g_x rfl).1; omega
    have n_w_x : g_w ≠ g_x := by have h1 := (Ow4.out.lt g_w rfl).2; have h2 := (ho_x.lt g_x rfl).1; omega
    have l_x : w.heap.size ≤ g_x := Nat.le_trans B4.out.size (ho_x.lt g_x rfl).1
    have B5 := Lib.hid (B4.out.trans (hb.mono B4.out.size))
    have KA5 := Lib.hid (KA4.out.below hb)
    have KW5 := Lib.hid (KW4.out.below hb)
    have Ot5 := Lib.hid (Ot4.out.kept (below_any (row := none) hb) (.inr (by simp [Value.ownBlock])))
    have Ow5 := Lib.hid (Ow4.out.kept (below_any (row := none) hb) (.inr (by simp [Value.ownBlock])))
    have Ox5 := Lib.hid (own_down ho_x (Nat.zero_le _))
    clear hb B4 KA4 KW4 Ot4 Ow4 ho_x
    have KXn := Lib.hid (Blk.new v5 [.int .i64 n, .string d, .slice (some ⟨g_x, 0, none⟩) rs.length rs.length, .int .i64 f, .bool z] 26)
    have l_X : w.heap.size ≤ v5.heap.size := B5.out.size
    have n_A_X : g_A ≠ v5.heap.size := by have h1 := KA5.out.lt; omega
    have n_W_X : g_W ≠ v5.heap.size := by have h1 := KW5.out.lt; omega
    have n_t_X : g_t ≠ v5.heap.size := by have h1 := (Ot5.out.lt g_t rfl).2; omega
    have n_w_X : g_w ≠ v5.heap.size := by have h1 := (Ow5.out.lt g_w rfl).2; omega
    have n_x_X : g_x ≠ v5.heap.size := by have h1 := (Ox5.out.lt g_x rfl).2; omega
    have Bn := Lib.hid (B5.out.alloc B5.out.size (.cells #[.int .i64 n, .string d, .slice (some ⟨g_x, 0, none⟩) rs.length rs.length, .int .i64 f, .bool z] 26))
    have KAn := Lib.hid (KA5.out.alloc (.cells #[.int .i64 n, .string d, .slice (some ⟨g_x, 0, none⟩) rs.length rs.length, .int .i64 f, .bool z] 26))
    have KWn := Lib.hid (KW5.out.alloc (.cells #[.int .i64 n, .string d, .slice (some ⟨g_x, 0, none⟩) rs.length rs.length, .int .i64 f, .bool z] 26))
    have Otn := Lib.hid (Ot5.out.alloc (.cells #[.int .i64 n, .string d, .slice (some ⟨g_x, 0, none⟩) rs.length rs.length, .int .i64 f, .bool z] 26))
    have Own := Lib.hid (Ow5.out.alloc (.cells #[.int .i64 n, .string d, .slice (some ⟨g_x, 0, none⟩) rs.length rs.length, .int .i64 f, .bool z] 26))
    have Oxn := Lib.hid (Ox5.out.alloc (.cells #[.int .i64 n, .string d, .slice (some ⟨g_x, 0, none⟩) rs.length rs.length, .int .i64 f, .bool z] 26))
    clear B5 KA5 KW5 Ot5 Ow5 Ox5
    obtain ⟨⟨cA0, cA1, cA2, cA3, cA4⟩, dA0, dA1, dA2, dA3, dA4⟩ := KAn.out.of5
    obtain ⟨⟨cW0, cW1, cW2, cW3, cW4⟩, dW0, dW1, dW2, dW3, dW4⟩ := KWn.out.of5
    go_wp2_with fail
    clear cA0 cA1 cA2 cA3 cA4 dA0 dA1 dA2 dA3 dA4 cW0 cW1 cW2 cW3 cW4 dW0 dW1 dW2 dW3 dW4
    change Calls _ _ _ (v5.alloc (.cells #[.int .i64 n, .string d, .slice (some ⟨g_x, 0, none⟩) rs.length rs.length, .int .i64 f, .bool z] 26)) _
    generalize v5.alloc (.cells #[.int .i64 n, .string d, .slice (some ⟨g_x, 0, none⟩) rs.length rs.length, .int .i64 f, .bool z] 26) = v6 at KXn Bn KAn KWn Otn Own Oxn ⊢
    generalize v5.heap.size = g_X at KXn l_X n_A_X n_W_X n_t_X n_w_X n_x_X ⊢
    clear v5
    have KA6 := KAn
    clear KAn
    have KW6 := KWn
    clear KWn
    have KX6 := KXn
    clear KXn
    have Ot6 := Otn
    clear Otn
    have Ow6 := Own
    clear Own
    have Ox6 := Oxn
    clear Oxn
    have B6 := Bn
    clear Bn
    refine (CI.out g_x _ (HasP.own Ox6.out)).mono ?_
    rintro e v7 ⟨a_g, c_g, rfl, ho, hb⟩
    obtain ⟨g_g, rfl⟩ := own_someN ho hp
    have ho_g := ho
    clear ho
    have n_A_g : g_A ≠ g_g := by have h1 := KA6.out.lt; have h2 := (ho_g.lt g_g rfl).1; omega
    have n_W_g : g_W ≠ g_g := by have h1 := KW6.out.lt; have h2 := (ho_g.lt g_g rfl).1; omega
    have n_X_g : g_X ≠ g_g := by have h1 := KX6.out.lt; have h2 := (ho_g.lt g_g rfl).1; omega
    have n_t_g : g_t ≠ g_g := by have h1 := (Ot6.out.lt g_t rfl).2; have h2 := (ho_g.lt g_g rfl).1; omega
    have n_w_g : g_w ≠ g_g := by have h1 := (Ow6.out.lt g_w rfl).2; have h2 := (ho_g.lt g_g rfl).1; omega
    have n_x_g : g_x ≠ g_g := by have h1 := (Ox6.out.lt g_x rfl).2; have h2 := (ho_g.lt g_g rfl).1; omega
    have l_g : w.heap.size ≤ g_g := Nat.le_trans B6.out.size (ho_g.lt g_g rfl).1
    have B7 := Lib.hid (B6.out.trans (hb.mono B6.out.size))
    have KA7 := Lib.hid (KA6.out.below hb)
    have KW7 := Lib.hid (KW6.out.below hb)
    have KX7 := Lib.hid (KX6.out.below hb)
    have Ot7 := Lib.hid (Ot6.out.kept (below_any (row := none) hb) (.inr (by simp [Value.ownBlock])))
    have Ow7 := Lib.hid (Ow6.out.kept (below_any (row := none) hb) (.inr (by simp [Value.ownBlock])))
    have Ox7 := Lib.hid (Ox6.out.kept (below_any (row := none) hb) (.inr (by simp [Value.ownBlock])))
    have Og7 := Lib.hid (own_down ho_g (Nat.zero_le _))
    clear hb B6 KA6 KW6 KX6 Ot6 Ow6 Ox6 ho_g
    have KGn := Lib.hid (Blk.new v7 [.int .i64 n', .string d', .slice (some ⟨g_g, 0, none⟩) L.length c_g, .int .i64 f', .bool z'] 26)
    have l_G : w.heap.size ≤ v7.heap.size := B7.out.size
    have n_A_G : g_A ≠ v7.heap.size := by have h1 := KA7.out.lt; omega
    have n_W_G : g_W ≠ v7.heap.size := by have h1 := KW7.out.lt; omega
    have n_X_G : g_X ≠ v7.heap.size := by have h1 := KX7.out.lt; omega
    have n_t_G : g_t ≠ v7.heap.size := by have h1 := (Ot7.out.lt g_t rfl).2; omega
    have n_w_G : g_w ≠ v7.heap.size := by have h1 := (Ow7.out.lt g_w rfl).2; omega
    have n_x_G : g_x ≠ v7.heap.size := by have h1 := (Ox7.out.lt g_x rfl).2; omega
    have n_g_G : g_g ≠ v7.heap.size := by have h1 := (Og7.out.lt g_g rfl).2; omega
    have Bn := Lib.hid (B7.out.alloc B7.out.size (.cells #[.int .i64 n', .string d', .slice (some ⟨g_g, 0, none⟩) L.length c_g, .int .i64 f', .bool z'] 26))
    have KAn := Lib.hid (KA7.out.alloc (.cells #[.int .i64 n', .string d', .slice (some ⟨g_g, 0, none⟩) L.length c_g, .int .i64 f', .bool z'] 26))
    have KWn := Lib.hid (KW7.out.alloc (.cells #[.int .i64 n', .string d', .slice (some ⟨g_g, 0, none⟩) L.length c_g, .int .i64 f', .bool z'] 26))
    have KXn := Lib.hid (KX7.out.alloc (.cells #[.int .i64 n', .string d', .slice (some ⟨g_g, 0, none⟩) L.length c_g, .int .i64 f', .bool z'] 26))
    have Otn := Lib.hid (Ot7.out.alloc (.cells #[.int .i64 n', .string d', .slice (some ⟨g_g, 0, none⟩) L.length c_g, .int .i64 f', .bool z'] 26))
    have Own := Lib.hid (Ow7.out.alloc (.cells #[.int .i64 n', .string d', .slice (some ⟨g_g, 0, none⟩) L.length c_g, .int .i64 f', .bool z'] 26))
    have Oxn := Lib.hid (Ox7.out.alloc (.cells #[.int .i64 n', .string d', .slice (some ⟨g_g, 0, none⟩) L.length c_g, .int .i64 f', .bool z'] 26))
    have Ogn := Lib.hid (Og7.out.alloc (.cells #[.int .i64 n', .string d', .slice (some ⟨g_g, 0, none⟩) L.length c_g, .int .i64 f', .bool z'] 26))
    clear B7 KA7 KW7 KX7 Ot7 Ow7 Ox7 Og7
    obtain ⟨⟨cA0, cA1, cA2, cA3, cA4⟩, dA0, dA1, dA2, dA3, dA4⟩ := KAn.out.of5
    obtain ⟨⟨cW0, cW1, cW2, cW3, cW4⟩, dW0, dW1, dW2, dW3, dW4⟩ := KWn.out.of5
    obtain ⟨⟨cX0, cX1, cX2, cX3, cX4⟩, dX0, dX1, dX2, dX3, dX4⟩ := KXn.out.of5
    go_wp2_with fail
    clear cA0 cA1 cA2 cA3 cA4 dA0 dA1 dA2 dA3 dA4 cW0 cW1 cW2 cW3 cW4 dW0 dW1 dW2 dW3 dW4 cX0 cX1 cX2 cX3 cX4 dX0 dX1 dX2 dX3 dX4
    change Calls _ _ _ (v7.alloc (.cells #[.int .i64 n', .string d', .slice (some ⟨g_g, 0, none⟩) L.length c_g, .int .i64 f', .bool z'] 26)) _
    generalize v7.alloc (.cells #[.int .i64 n', .string d', .slice (some ⟨g_g, 0, none⟩) L.length c_g, .int .i64 f', .bool z'] 26) = v8 at KGn Bn KAn KWn KXn Otn Own Oxn Ogn ⊢
    generalize v7.heap.size = g_G at KGn l_G n_A_G n_W_G n_X_G n_t_G n_w_G n_x_G n_g_G ⊢
    clear v7
    have KA8 := KAn
    clear KAn
    have KW8 := KWn
    clear KWn
    have KX8 := KXn
    clear KXn
    have KG8 := KGn
    clear KGn
    have Ot8 := Otn
    clear Otn
    have Ow8 := Own
    clear Own
    have Ox8 := Oxn
    clear Oxn
    have Og8 := Ogn
    clear Ogn
    have B8 := Bn
    clear Bn
    refine (eqReceiver_self n' f' z' d' (some ⟨g_g, 0, none⟩) (some ⟨g_w, 0, none⟩) c_g c_w L _ (Row.ownK Og8.out) (Row.ownK Ow8.out) hl2.out).mono ?_
    rintro e v9 ⟨rfl, hb⟩
    have B9 := Lib.hid (B8.out.trans (hb.mono B8.out.size))
    have KA9 := Lib.hid (KA8.out.below hb)
    have KW9 := Lib.hid (KW8.out.below hb)
    have KX9 := Lib.hid (KX8.out.below hb)
    have KG9 := Lib.hid (KG8.out.below hb)
    have Ot9 := Lib.hid (Ot8.out.kept (below_any (row := none) hb) (.inr (by simp [Value.ownBlock])))
    have Ow9 := Lib.hid (Ow8.out.kept (below_any (row := none) hb) (.inr (by simp [Value.ownBlock])))
    have Ox9 := Lib.hid (Ox8.out.kept (below_any (row := none) hb) (.inr (by simp [Value.ownBlock])))
    have Og9 := Lib.hid (Og8.out.kept (below_any (row := none) hb) (.inr (by simp [Value.ownBlock])))
    clear hb B8 KA8 KW8 KX8 KG8 Ot8 Ow8 Ox8 Og8
    obtain ⟨⟨cA0, cA1, cA2, cA3, cA4⟩, dA0, dA1, dA2, dA3, dA4⟩ := KA9.out.of5
    obtain ⟨⟨cW0, cW1, cW2, cW3, cW4⟩, dW0, dW1, dW2, dW3, dW4⟩ := KW9.out.of5
    obtain ⟨⟨cX0, cX1, cX2, cX3, cX4⟩, dX0, dX1, dX2, dX3, dX4⟩ := KX9.out.of5
    obtain ⟨⟨cG0, cG1, cG2, cG3, cG4⟩, dG0, dG1, dG2, dG3, dG4⟩ := KG9.out.of5
    go_wp2_with fail
    clear cA0 cA1 cA2 cA3 cA4 dA0 dA1 dA2 dA3 dA4 cW0 cW1 cW2 cW3 cW4 dW0 dW1 dW2 dW3 dW4 cX0 cX1 cX2 cX3 cX4 dX0 dX1 dX2 dX3 dX4 cG0 cG1 cG2 cG3 cG4 dG0 dG1 dG2 dG3 dG4
    obtain ⟨⟨cA0, cA1, cA2, cA3, cA4⟩, dA0, dA1, dA2, dA3, dA4⟩ := KA9.out.of5
    obtain ⟨⟨cX0, cX1, cX2, cX3, cX4⟩, dX0, dX1, dX2, dX3, dX4⟩ := KX9.out.of5
    have P9_0 : True := trivial
    have P9_1 : True := trivial
    go_region_held3 (fun w' => (w'.cell? ⟨g_X, 0, none⟩ = some (.int .i64 n) ∧ w'.cell? ⟨g_X, 1, none⟩ = some (.string d) ∧ w'.cell? ⟨g_X, 2, none⟩ = some (.slice (some ⟨g_x, 0, none⟩) rs.length rs.length) ∧ w'.cell? ⟨g_X, 3, none⟩ = some (.int .i64 f) ∧ w'.cell? ⟨g_X, 4, none⟩ = some (.bool z)) ∧ (w'.cell? ⟨g_A, 0, none⟩ = some (.int .i64 n) ∧ w'.cell? ⟨g_A, 1, none⟩ = some (.string d) ∧ w'.cell? ⟨g_A, 2, none⟩ = some (.slice a rs.length cap) ∧ w'.cell? ⟨g_A, 3, none⟩ = some (.int .i64 f) ∧ w'.cell? ⟨g_A, 4, none⟩ = some (.bool z)))
      (first | go_keep | (exact ⟨KX10.out.of5.1, KA10.out.of5.1⟩) | (exact ⟨KX11.out.of5.1, KA11.out.of5.1⟩))
      (first | (have q := P9_0; go_at_call 24; clear q P9_0; refine (toReceiver_any n f z d a cap rs _ ((HA.out.below B9.out.drew).mono B9.out.drew.size) HLA.out).mono ?_; rintro e v10 ⟨g_z, rfl, ho_z, hb⟩; replace hb := (Below.refl _ v9).drew.trans hb; replace ho_z := own_down ho_z (show v9.heap.size ≤ v9.drew.heap.size from Nat.le_refl _); have n_A_z : g_A ≠ g_z := (by have h1 := KA9.out.lt; have h2 := (ho_z.lt g_z rfl).1; omega); have n_W_z : g_W ≠ g_z := (by have h1 := KW9.out.lt; have h2 := (ho_z.lt g_z rfl).1; omega); have n_X_z : g_X ≠ g_z := (by have h1 := KX9.out.lt; have h2 := (ho_z.lt g_z rfl).1; omega); have n_G_z : g_G ≠ g_z := (by have h1 := KG9.out.lt; have h2 := (ho_z.lt g_z rfl).1; omega); have n_t_z : g_t ≠ g_z := (by have h1 := (Ot9.out.lt g_t rfl).2; have h2 := (ho_z.lt g_z rfl).1; omega); have n_w_z : g_w ≠ g_z := (by have h1 := (Ow9.out.lt g_w rfl).2; have h2 := (ho_z.lt g_z rfl).1; omega); have n_x_z : g_x ≠ g_z := (by have h1 := (Ox9.out.lt g_x rfl).2; have h2 := (ho_z.lt g_z rfl).1; omega); have n_g_z : g_g ≠ g_z := (by have h1 := (Og9.out.lt g_g rfl).2; have h2 := (ho_z.lt g_z rfl).1; omega); have l_z : w.heap.size ≤ g_z := Nat.le_trans B9.out.size (ho_z.lt g_z rfl).1; have B10 := Lib.hid (B9.out.trans (hb.mono B9.out.size)); have KA10 := Lib.hid (KA9.out.below hb); have KW10 := Lib.hid (KW9.out.below hb); have KX10 := Lib.hid (KX9.out.below hb); have KG10 := Lib.hid (KG9.out.below hb); have Ot10 := Lib.hid (Ot9.out.kept (below_any (row := none) hb) (.inr (by simp [Value.ownBlock]))); have Ow10 := Lib.hid (Ow9.out.kept (below_any (row := none) hb) (.inr (by simp [Value.ownBlock]))); have Ox10 := Lib.hid (Ox9.out.kept (below_any (row := none) hb) (.inr (by simp [Value.ownBlock]))); have Og10 := Lib.hid (Og9.out.kept (below_any (row := none) hb) (.inr (by simp [Value.ownBlock]))); have Oz10 := Lib.hid (own_down ho_z (Nat.zero_le _)); clear hb B9 KA9 KW9 KX9 KG9 Ot9 Ow9 Ox9 Og9 ho_z) | (have q := P9_1; go_at_call 25; clear q P9_1; refine (eqReceiver_self n f z d (some ⟨g_x, 0, none⟩) (some ⟨g_z, 0, none⟩) rs.length rs.length rs _ (Row.ownK Ox10.out) (Row.ownK Oz10.out) HLA.out).mono ?_; rintro e v11 ⟨rfl, hb⟩; have B11 := Lib.hid (B10.out.trans (hb.mono B10.out.size)); have KA11 := Lib.hid (KA10.out.below hb); have KW11 := Lib.hid (KW10.out.below hb); have KX11 := Lib.hid (KX10.out.below hb); have KG11 := Lib.hid (KG10.out.below hb); have Ot11 := Lib.hid (Ot10.out.kept (below_any (row := none) hb) (.inr (by simp [Value.ownBlock]))); have Ow11 := Lib.hid (Ow10.out.kept (below_any (row := none) hb) (.inr (by simp [Value.ownBlock]))); have Ox11 := Lib.hid (Ox10.out.kept (below_any (row := none) hb) (.inr (by simp [Value.ownBlock]))); have Og11 := Lib.hid (Og10.out.kept (below_any (row := none) hb) (.inr (by simp [Value.ownBlock]))); have Oz11 := Lib.hid (Oz10.out.kept (below_any (row := none) hb) (.inr (by simp [Value.ownBlock]))); clear hb B10 KA10 KW10 KX10 KG10 Ot10 Ow10 Ox10 Og10 Oz10))
    try clear cA0 cA1 cA2 cA3 cA4 dA0 dA1 dA2 dA3 dA4 cX0 cX1 cX2 cX3 cX4 dX0 dX1 dX2 dX3 dX4
    obtain ⟨⟨cA0, cA1, cA2, cA3, cA4⟩, dA0, dA1, dA2, dA3, dA4⟩ := KA11.out.of5
    obtain ⟨⟨cW0, cW1, cW2, cW3, cW4⟩, dW0, dW1, dW2, dW3, dW4⟩ := KW11.out.of5
    obtain ⟨⟨cX0, cX1, cX2, cX3, cX4⟩, dX0, dX1, dX2, dX3, dX4⟩ := KX11.out.of5
    obtain ⟨⟨cG0, cG1, cG2, cG3, cG4⟩, dG0, dG1, dG2, dG3, dG4⟩ := KG11.out.of5
    go_wp2_with fail
    clear cA0 cA1 cA2 cA3 cA4 dA0 dA1 dA2 dA3 dA4 cW0 cW1 cW2 cW3 cW4 dW0 dW1 dW2 dW3 dW4 cX0 cX1 cX2 cX3 cX4 dX0 dX1 dX2 dX3 dX4 cG0 cG1 cG2 cG3 cG4 dG0 dG1 dG2 dG3 dG4
    refine (markReceiver_any n f z d 0 g_x rs.length rs.length 1 rs _ rfl Ox11.out (by decide) (by decide) (Nat.le_succ_of_le HLA.out)).mono ?_
    rintro e v12 ⟨rfl, ho, hg⟩
    have B12 := Lib.hid (B11.out.trans (grown_below hg l_x B11.out.size))
    have KA12 := Lib.hid (KA11.out.grown hg (n_A_x))
    have KW12 := Lib.hid (KW11.out.grown hg (n_W_x))
    have KX12 := Lib.hid (KX11.out.grown hg (fun e => n_x_X e.symm))
    have KG12 := Lib.hid (KG11.out.grown hg (fun e => n_x_G e.symm))
    have Ot12 := Lib.hid (Ot11.out.kept hg (.inr (own_ne (n_t_x))))
    have Ow12 := Lib.hid (Ow11.out.kept hg (.inr (own_ne (n_w_x))))
    have Ox12 := Lib.hid ho
    have Og12 := Lib.hid (Og11.out.kept hg (.inr (own_ne (fun e => n_x_g e.symm))))
    have Oz12 := Lib.hid (Oz11.out.kept hg (.inr (own_ne (fun e => n_x_z e.symm))))
    clear hg B11 KA11 KW11 KX11 KG11 Ot11 Ow11 Ox11 Og11 Oz11 ho
    have hk1 : (0 : Int) ≤ ((1 + 2 * rs.length : Nat) : Int) := Int.natCast_nonneg _
    obtain ⟨⟨cA0, cA1, cA2, cA3, cA4⟩, dA0, dA1, dA2, dA3, dA4⟩ := KA12.out.of5
    obtain ⟨⟨cW0, cW1, cW2, cW3, cW4⟩, dW0, dW1, dW2, dW3, dW4⟩ := KW12.out.of5
    obtain ⟨⟨cX0, cX1, cX2, cX3, cX4⟩, dX0, dX1, dX2, dX3, dX4⟩ := KX12.out.of5
    obtain ⟨⟨cG0, cG1, cG2, cG3, cG4⟩, dG0, dG1, dG2, dG3, dG4⟩ := KG12.out.of5
    go_wp2_with fail
    clear cA0 cA1 cA2 cA3 cA4 dA0 dA1 dA2 dA3 dA4 cW0 cW1 cW2 cW3 cW4 dW0 dW1 dW2 dW3 dW4 cX0 cX1 cX2 cX3 cX4 dX0 dX1 dX2 dX3 dX4 cG0 cG1 cG2 cG3 cG4 dG0 dG1 dG2 dG3 dG4
    refine (eqReceiver_self n' f' z' d' (some ⟨g_g, 0, none⟩) (some ⟨g_w, 0, none⟩) c_g c_w L _ (Row.ownK Og12.out) (Row.ownK Ow12.out) hl2.out).mono ?_
    rintro e v13 ⟨rfl, hb⟩
    have B13 := Lib.hid (B12.out.trans (hb.mono B12.out.size))
    have KA13 := Lib.hid (KA12.out.below hb)
    have KW13 := Lib.hid (KW12.out.below hb)
    have KX13 := Lib.hid (KX12.out.below hb)
    have KG13 := Lib.hid (KG12.out.below hb)
    have Ot13 := Lib.hid (Ot12.out.kept (below_any (row := none) hb) (.inr (by simp [Value.ownBlock])))
    have Ow13 := Lib.hid (Ow12.out.kept (below_any (row := none) hb) (.inr (by simp [Value.ownBlock])))
    have Ox13 := Lib.hid (Ox12.out.kept (below_any (row := none) hb) (.inr (by simp [Value.ownBlock])))
    have Og13 := Lib.hid (Og12.out.kept (below_any (row := none) hb) (.inr (by simp [Value.ownBlock])))
    have Oz13 := Lib.hid (Oz12.out.kept (below_any (row := none) hb) (.inr (by simp [Value.ownBlock])))
    clear hb B12 KA12 KW12 KX12 KG12 Ot12 Ow12 Ox12 Og12 Oz12
    obtain ⟨⟨cA0, cA1, cA2, cA3, cA4⟩, dA0, dA1, dA2, dA3, dA4⟩ := KA13.out.of5
    obtain ⟨⟨cW0, cW1, cW2, cW3, cW4⟩, dW0, dW1, dW2, dW3, dW4⟩ := KW13.out.of5
    obtain ⟨⟨cX0, cX1, cX2, cX3, cX4⟩, dX0, dX1, dX2, dX3, dX4⟩ := KX13.out.of5
    obtain ⟨⟨cG0, cG1, cG2, cG3, cG4⟩, dG0, dG1, dG2, dG3, dG4⟩ := KG13.out.of5
    go_wp2_with fail
    clear cA0 cA1 cA2 cA3 cA4 dA0 dA1 dA2 dA3 dA4 cW0 cW1 cW2 cW3 cW4 dW0 dW1 dW2 dW3 dW4 cX0 cX1 cX2 cX3 cX4 dX0 dX1 dX2 dX3 dX4 cG0 cG1 cG2 cG3 cG4 dG0 dG1 dG2 dG3 dG4
    refine (markReceiver_any n' f' z' d' 0 g_g L.length c_g 1 L _ rfl Og13.out (by decide) (by decide) (Nat.le_succ_of_le hl2.out)).mono ?_
    rintro e v14 ⟨rfl, ho, hg⟩
    have B14 := Lib.hid (B13.out.trans (grown_below hg l_g B13.out.size))
    have KA14 := Lib.hid (KA13.out.grown hg (n_A_g))
    have KW14 := Lib.hid (KW13.out.grown hg (n_W_g))
    have KX14 := Lib.hid (KX13.out.grown hg (n_X_g))
    have KG14 := Lib.hid (KG13.out.grown hg (fun e => n_g_G e.symm))
    have Ot14 := Lib.hid (Ot13.out.kept hg (.inr (own_ne (n_t_g))))
    have Ow14 := Lib.hid (Ow13.out.kept hg (.inr (own_ne (n_w_g))))
    have Ox14 := Lib.hid (Ox13.out.kept hg (.inr (own_ne (n_x_g))))
    have Og14 := Lib.hid ho
    have Oz14 := Lib.hid (Oz13.out.kept hg (.inr (own_ne (fun e => n_g_z e.symm))))
    clear hg B13 KA13 KW13 KX13 KG13 Ot13 Ow13 Ox13 Og13 Oz13 ho
    have hk2 : (0 : Int) ≤ ((1 + 2 * L.length : Nat) : Int) := Int.natCast_nonneg _
    obtain ⟨⟨cA0, cA1, cA2, cA3, cA4⟩, dA0, dA1, dA2, dA3, dA4⟩ := KA14.out.of5
    obtain ⟨⟨cW0, cW1, cW2, cW3, cW4⟩, dW0, dW1, dW2, dW3, dW4⟩ := KW14.out.of5
    obtain ⟨⟨cX0, cX1, cX2, cX3, cX4⟩, dX0, dX1, dX2, dX3, dX4⟩ := KX14.out.of5
    obtain ⟨⟨cG0, cG1, cG2, cG3, cG4⟩, dG0, dG1, dG2, dG3, dG4⟩ := KG14.out.of5
    go_wp2_with fail
    clear cA0 cA1 cA2 cA3 cA4 dA0 dA1 dA2 dA3 dA4 cW0 cW1 cW2 cW3 cW4 dW0 dW1 dW2 dW3 dW4 cX0 cX1 cX2 cX3 cX4 dX0 dX1 dX2 dX3 dX4 cG0 cG1 cG2 cG3 cG4 dG0 dG1 dG2 dG3 dG4
    refine (heldReceiver_any n' f' z' d' (some ⟨g_g, 0, none⟩) L.length c_g 1 _ (Row.ownK Og14.out) (by decide) (by decide) (Nat.le_succ_of_le hl2.out)).mono ?_
    rintro e v15 ⟨rfl, hb⟩
    have B15 := Lib.hid (B14.out.trans (hb.mono B14.out.size))
    have KA15 := Lib.hid (KA14.out.below hb)
    have KW15 := Lib.hid (KW14.out.below hb)
    have KX15 := Lib.hid (KX14.out.below hb)
    have KG15 := Lib.hid (KG14.out.below hb)
    have Ot15 := Lib.hid (Ot14.out.kept (below_any (row := none) hb) (.inr (by simp [Value.ownBlock])))
    have Ow15 := Lib.hid (Ow14.out.kept (below_any (row := none) hb) (.inr (by simp [Value.ownBlock])))
    have Ox15 := Lib.hid (Ox14.out.kept (below_any (row := none) hb) (.inr (by simp [Value.ownBlock])))
    have Og15 := Lib.hid (Og14.out.kept (below_any (row := none) hb) (.inr (by simp [Value.ownBlock])))
    have Oz15 := Lib.hid (Oz14.out.kept (below_any (row := none) hb) (.inr (by simp [Value.ownBlock])))
    clear hb B14 KA14 KW14 KX14 KG14 Ot14 Ow14 Ox14 Og14 Oz14
    obtain ⟨⟨cA0, cA1, cA2, cA3, cA4⟩, dA0, dA1, dA2, dA3, dA4⟩ := KA15.out.of5
    obtain ⟨⟨cW0, cW1, cW2, cW3, cW4⟩, dW0, dW1, dW2, dW3, dW4⟩ := KW15.out.of5
    obtain ⟨⟨cX0, cX1, cX2, cX3, cX4⟩, dX0, dX1, dX2, dX3, dX4⟩ := KX15.out.of5
    obtain ⟨⟨cG0, cG1, cG2, cG3, cG4⟩, dG0, dG1, dG2, dG3, dG4⟩ := KG15.out.of5
    go_wp2_with fail
    clear cA0 cA1 cA2 cA3 cA4 dA0 dA1 dA2 dA3 dA4 cW0 cW1 cW2 cW3 cW4 dW0 dW1 dW2 dW3 dW4 cX0 cX1 cX2 cX3 cX4 dX0 dX1 dX2 dX3 dX4 cG0 cG1 cG2 cG3 cG4 dG0 dG1 dG2 dG3 dG4
    refine (toReceiver_any n f z d a cap rs _ ((HA.out.below B15.out).mono B15.out.size) HLA.out).mono ?_
    rintro e v16 ⟨g_y, rfl, ho_y, hb⟩
    have n_A_y : g_A ≠ g_y := by have h1 := KA15.out.lt; have h2 := (ho_y.lt g_y rfl).1; omega
    have n_W_y : g_W ≠ g_y := by have h1 := KW15.out.lt; have h2 := (ho_y.lt g_y rfl).1; omega
    have n_X_y : g_X ≠ g_y := by have h1 := KX15.out.lt; have h2 := (ho_y.lt g_y rfl).1; omega
    have n_G_y : g_G ≠ g_y := by have h1 := KG15.out.lt; have h2 := (ho_y.lt g_y rfl).1; omega
    have n_t_y : g_t ≠ g_y := by have h1 := (Ot15.out.lt g_t rfl).2; have h2 := (ho_y.lt g_y rfl).1; omega
    have n_w_y : g_w ≠ g_y := by have h1 := (Ow15.out.lt g_w rfl).2; have h2 := (ho_y.lt g_y rfl).1; omega
    have n_x_y : g_x ≠ g_y := by have h1 := (Ox15.out.lt g_x rfl).2; have h2 := (ho_y.lt g_y rfl).1; omega
    have n_g_y : g_g ≠ g_y := by have h1 := (Og15.out.lt g_g rfl).2; have h2 := (ho_y.lt g_y rfl).1; omega
    have n_z_y : g_z ≠ g_y := by have h1 := (Oz15.out.lt g_z rfl).2; have h2 := (ho_y.lt g_y rfl).1; omega
    have l_y : w.heap.size ≤ g_y := Nat.le_trans B15.out.size (ho_y.lt g_y rfl).1
    have B16 := Lib.hid (B15.out.trans (hb.mono B15.out.size))
    have KA16 := Lib.hid (KA15.out.below hb)
    have KW16 := Lib.hid (KW15.out.below hb)
    have KX16 := Lib.hid (KX15.out.below hb)
    have KG16 := Lib.hid (KG15.out.below hb)
    have Ot16 := Lib.hid (Ot15.out.kept (below_any (row := none) hb) (.inr (by simp [Value.ownBlock])))
    have Ow16 := Lib.hid (Ow15.out.kept (below_any (row := none) hb) (.inr (by simp [Value.ownBlock])))
    have Ox16 := Lib.hid (Ox15.out.kept (below_any (row := none) hb) (.inr (by simp [Value.ownBlock])))
    have Og16 := Lib.hid (Og15.out.kept (below_any (row := none) hb) (.inr (by simp [Value.ownBlock])))
    have Oz16 := Lib.hid (Oz15.out.kept (below_any (row := none) hb) (.inr (by simp [Value.ownBlock])))
    have Oy16 := Lib.hid (own_down ho_y (Nat.zero_le _))
    clear hb B15 KA15 KW15 KX15 KG15 Ot15 Ow15 Ox15 Og15 Oz15 ho_y
    obtain ⟨⟨cA0, cA1, cA2, cA3, cA4⟩, dA0, dA1, dA2, dA3, dA4⟩ := KA16.out.of5
    obtain ⟨⟨cW0, cW1, cW2, cW3, cW4⟩, dW0, dW1, dW2, dW3, dW4⟩ := KW16.out.of5
    obtain ⟨⟨cX0, cX1, cX2, cX3, cX4⟩, dX0, dX1, dX2, dX3, dX4⟩ := KX16.out.of5
    obtain ⟨⟨cG0, cG1, cG2, cG3, cG4⟩, dG0, dG1, dG2, dG3, dG4⟩ := KG16.out.of5
    go_wp2_with fail
    clear cA0 cA1 cA2 cA3 cA4 dA0 dA1 dA2 dA3 dA4 cW0 cW1 cW2 cW3 cW4 dW0 dW1 dW2 dW3 dW4 cX0 cX1 cX2 cX3 cX4 dX0 dX1 dX2 dX3 dX4 cG0 cG1 cG2 cG3 cG4 dG0 dG1 dG2 dG3 dG4
    refine (CI.out g_y _ (HasP.own Oy16.out)).mono ?_
    rintro e v17 ⟨a_h, c_h, rfl, ho, hb⟩
    obtain ⟨g_h, rfl⟩ := own_someN ho hp
    have ho_h := ho
    clear ho
    have n_A_h : g_A ≠ g_h := by have h1 := KA16.out.lt; have h2 := (ho_h.lt g_h rfl).1; omega
    have n_W_h : g_W ≠ g_h := by have h1 := KW16.out.lt; have h2 := (ho_h.lt g_h rfl).1; omega
    have n_X_h : g_X ≠ g_h := by have h1 := KX16.out.lt; have h2 := (ho_h.lt g_h rfl).1; omega
    have n_G_h : g_G ≠ g_h := by have h1 := KG16.out.lt; have h2 := (ho_h.lt g_h rfl).1; omega
    have n_t_h : g_t ≠ g_h := by have h1 := (Ot16.out.lt g_t rfl).2; have h2 := (ho_h.lt g_h rfl).1; omega
    have n_w_h : g_w ≠ g_h := by have h1 := (Ow16.out.lt g_w rfl).2; have h2 := (ho_h.lt g_h rfl).1; omega
    have n_x_h : g_x ≠ g_h := by have h1 := (Ox16.out.lt g_x rfl).2; have h2 := (ho_h.lt g_h rfl).1; omega
    have n_g_h : g_g ≠ g_h := by have h1 := (Og16.out.lt g_g rfl).2; have h2 := (ho_h.lt g_h rfl).1; omega
    have n_z_h : g_z ≠ g_h := by have h1 := (Oz16.out.lt g_z rfl).2; have h2 := (ho_h.lt g_h rfl).1; omega
    have n_y_h : g_y ≠ g_h := by have h1 := (Oy16.out.lt g_y rfl).2; have h2 := (ho_h.lt g_h rfl).1; omega
    have l_h : w.heap.size ≤ g_h := Nat.le_trans B16.out.size (ho_h.lt g_h rfl).1
    have B17 := Lib.hid (B16.out.trans (hb.mono B16.out.size))
    have KA17 := Lib.hid (KA16.out.below hb)
    have KW17 := Lib.hid (KW16.out.below hb)
    have KX17 := Lib.hid (KX16.out.below hb)
    have KG17 := Lib.hid (KG16.out.below hb)
    have Ot17 := Lib.hid (Ot16.out.kept (below_any (row := none) hb) (.inr (by simp [Value.ownBlock])))
    have Ow17 := Lib.hid (Ow16.out.kept (below_any (row := none) hb) (.inr (by simp [Value.ownBlock])))
    have Ox17 := Lib.hid (Ox16.out.kept (below_any (row := none) hb) (.inr (by simp [Value.ownBlock])))
    have Og17 := Lib.hid (Og16.out.kept (below_any (row := none) hb) (.inr (by simp [Value.ownBlock])))
    have Oz17 := Lib.hid (Oz16.out.kept (below_any (row := none) hb) (.inr (by simp [Value.ownBlock])))
    have Oy17 := Lib.hid (Oy16.out.kept (below_any (row := none) hb) (.inr (by simp [Value.ownBlock])))
    have Oh17 := Lib.hid (own_down ho_h (Nat.zero_le _))
    clear hb B16 KA16 KW16 KX16 KG16 Ot16 Ow16 Ox16 Og16 Oz16 Oy16 ho_h
    have KYn := Lib.hid (Blk.new v17 [.int .i64 n', .string d', .slice (some ⟨g_h, 0, none⟩) L.length c_h, .int .i64 f', .bool z'] 26)
    have l_Y : w.heap.size ≤ v17.heap.size := B17.out.size
    have n_A_Y : g_A ≠ v17.heap.size := by have h1 := KA17.out.lt; omega
    have n_W_Y : g_W ≠ v17.heap.size := by have h1 := KW17.out.lt; omega
    have n_X_Y : g_X ≠ v17.heap.size := by have h1 := KX17.out.lt; omega
    have n_G_Y : g_G ≠ v17.heap.size := by have h1 := KG17.out.lt; omega
    have n_t_Y : g_t ≠ v17.heap.size := by have h1 := (Ot17.out.lt g_t rfl).2; omega
    have n_w_Y : g_w ≠ v17.heap.size := by have h1 := (Ow17.out.lt g_w rfl).2; omega
    have n_x_Y : g_x ≠ v17.heap.size := by have h1 := (Ox17.out.lt g_x rfl).2; omega
    have n_g_Y : g_g ≠ v17.heap.size := by have h1 := (Og17.out.lt g_g rfl).2; omega
    have n_z_Y : g_z ≠ v17.heap.size := by have h1 := (Oz17.out.lt g_z rfl).2; omega
    have n_y_Y : g_y ≠ v17.heap.size := by have h1 := (Oy17.out.lt g_y rfl).2; omega
    have n_h_Y : g_h ≠ v17.heap.size := by have h1 := (Oh17.out.lt g_h rfl).2; omega
    have Bn := Lib.hid (B17.out.alloc B17.out.size (.cells #[.int .i64 n', .string d', .slice (some ⟨g_h, 0, none⟩) L.length c_h, .int .i64 f', .bool z'] 26))
    have KAn := Lib.hid (KA17.out.alloc (.cells #[.int .i64 n', .string d', .slice (some ⟨g_h, 0, none⟩) L.length c_h, .int .i64 f', .bool z'] 26))
    have KWn := Lib.hid (KW17.out.alloc (.cells #[.int .i64 n', .string d', .slice (some ⟨g_h, 0, none⟩) L.length c_h, .int .i64 f', .bool z'] 26))
    have KXn := Lib.hid (KX17.out.alloc (.cells #[.int .i64 n', .string d', .slice (some ⟨g_h, 0, none⟩) L.length c_h, .int .i64 f', .bool z'] 26))
    have KGn := Lib.hid (KG17.out.alloc (.cells #[.int .i64 n', .string d', .slice (some ⟨g_h, 0, none⟩) L.length c_h, .int .i64 f', .bool z'] 26))
    have Otn := Lib.hid (Ot17.out.alloc (.cells #[.int .i64 n', .string d', .slice (some ⟨g_h, 0, none⟩) L.length c_h, .int .i64 f', .bool z'] 26))
    have Own := Lib.hid (Ow17.out.alloc (.cells #[.int .i64 n', .string d', .slice (some ⟨g_h, 0, none⟩) L.length c_h, .int .i64 f', .bool z'] 26))
    have Oxn := Lib.hid (Ox17.out.alloc (.cells #[.int .i64 n', .string d', .slice (some ⟨g_h, 0, none⟩) L.length c_h, .int .i64 f', .bool z'] 26))
    have Ogn := Lib.hid (Og17.out.alloc (.cells #[.int .i64 n', .string d', .slice (some ⟨g_h, 0, none⟩) L.length c_h, .int .i64 f', .bool z'] 26))
    have Ozn := Lib.hid (Oz17.out.alloc (.cells #[.int .i64 n', .string d', .slice (some ⟨g_h, 0, none⟩) L.length c_h, .int .i64 f', .bool z'] 26))
    have Oyn := Lib.hid (Oy17.out.alloc (.cells #[.int .i64 n', .string d', .slice (some ⟨g_h, 0, none⟩) L.length c_h, .int .i64 f', .bool z'] 26))
    have Ohn := Lib.hid (Oh17.out.alloc (.cells #[.int .i64 n', .string d', .slice (some ⟨g_h, 0, none⟩) L.length c_h, .int .i64 f', .bool z'] 26))
    clear B17 KA17 KW17 KX17 KG17 Ot17 Ow17 Ox17 Og17 Oz17 Oy17 Oh17
    obtain ⟨⟨cA0, cA1, cA2, cA3, cA4⟩, dA0, dA1, dA2, dA3, dA4⟩ := KAn.out.of5
    obtain ⟨⟨cW0, cW1, cW2, cW3, cW4⟩, dW0, dW1, dW2, dW3, dW4⟩ := KWn.out.of5
    obtain ⟨⟨cX0, cX1, cX2, cX3, cX4⟩, dX0, dX1, dX2, dX3, dX4⟩ := KXn.out.of5
    obtain ⟨⟨cG0, cG1, cG2, cG3, cG4⟩, dG0, dG1, dG2, dG3, dG4⟩ := KGn.out.of5
    go_wp2_with fail
    clear cA0 cA1 cA2 cA3 cA4 dA0 dA1 dA2 dA3 dA4 cW0 cW1 cW2 cW3 cW4 dW0 dW1 dW2 dW3 dW4 cX0 cX1 cX2 cX3 cX4 dX0 dX1 dX2 dX3 dX4 cG0 cG1 cG2 cG3 cG4 dG0 dG1 dG2 dG3 dG4
    change Calls _ _ _ (v17.alloc (.cells #[.int .i64 n', .string d', .slice (some ⟨g_h, 0, none⟩) L.length c_h, .int .i64 f', .bool z'] 26)) _
    generalize v17.alloc (.cells #[.int .i64 n', .string d', .slice (some ⟨g_h, 0, none⟩) L.length c_h, .int .i64 f', .bool z'] 26) = v18 at KYn Bn KAn KWn KXn KGn Otn Own Oxn Ogn Ozn Oyn Ohn ⊢
    generalize v17.heap.size = g_Y at KYn l_Y n_A_Y n_W_Y n_X_Y n_G_Y n_t_Y n_w_Y n_x_Y n_g_Y n_z_Y n_y_Y n_h_Y ⊢
    clear v17
    have KA18 := KAn
    clear KAn
    have KW18 := KWn
    clear KWn
    have KX18 := KXn
    clear KXn
    have KG18 := KGn
    clear KGn
    have KY18 := KYn
    clear KYn
    have Ot18 := Otn
    clear Otn
    have Ow18 := Own
    clear Own
    have Ox18 := Oxn
    clear Oxn
    have Og18 := Ogn
    clear Ogn
    have Oz18 := Ozn
    clear Ozn
    have Oy18 := Oyn
    clear Oyn
    have Oh18 := Ohn
    clear Ohn
    have B18 := Bn
    clear Bn
    refine (eqReceiver_self n' f' z' d' (some ⟨g_h, 0, none⟩) (some ⟨g_w, 0, none⟩) c_h c_w L _ (Row.ownK Oh18.out) (Row.ownK Ow18.out) hl2.out).mono ?_
    rintro e v19 ⟨rfl, hb⟩
    have B19 := Lib.hid (B18.out.trans (hb.mono B18.out.size))
    have KA19 := Lib.hid (KA18.out.below hb)
    have KW19 := Lib.hid (KW18.out.below hb)
    have KX19 := Lib.hid (KX18.out.below hb)
    have KG19 := Lib.hid (KG18.out.below hb)
    have KY19 := Lib.hid (KY18.out.below hb)
    have Ot19 := Lib.hid (Ot18.out.kept (below_any (row := none) hb) (.inr (by simp [Value.ownBlock])))
    have Ow19 := Lib.hid (Ow18.out.kept (below_any (row := none) hb) (.inr (by simp [Value.ownBlock])))
    have Ox19 := Lib.hid (Ox18.out.kept (below_any (row := none) hb) (.inr (by simp [Value.ownBlock])))
    have Og19 := Lib.hid (Og18.out.kept (below_any (row := none) hb) (.inr (by simp [Value.ownBlock])))
    have Oz19 := Lib.hid (Oz18.out.kept (below_any (row := none) hb) (.inr (by simp [Value.ownBlock])))
    have Oy19 := Lib.hid (Oy18.out.kept (below_any (row := none) hb) (.inr (by simp [Value.ownBlock])))
    have Oh19 := Lib.hid (Oh18.out.kept (below_any (row := none) hb) (.inr (by simp [Value.ownBlock])))
    clear hb B18 KA18 KW18 KX18 KG18 KY18 Ot18 Ow18 Ox18 Og18 Oz18 Oy18 Oh18
    obtain ⟨⟨cA0, cA1, cA2, cA3, cA4⟩, dA0, dA1, dA2, dA3, dA4⟩ := KA19.out.of5
    obtain ⟨⟨cW0, cW1, cW2, cW3, cW4⟩, dW0, dW1, dW2, dW3, dW4⟩ := KW19.out.of5
    obtain ⟨⟨cX0, cX1, cX2, cX3, cX4⟩, dX0, dX1, dX2, dX3, dX4⟩ := KX19.out.of5
    obtain ⟨⟨cG0, cG1, cG2, cG3, cG4⟩, dG0, dG1, dG2, dG3, dG4⟩ := KG19.out.of5
    obtain ⟨⟨cY0, cY1, cY2, cY3, cY4⟩, dY0, dY1, dY2, dY3, dY4⟩ := KY19.out.of5
    go_wp2_with fail
    clear cA0 cA1 cA2 cA3 cA4 dA0 dA1 dA2 dA3 dA4 cW0 cW1 cW2 cW3 cW4 dW0 dW1 dW2 dW3 dW4 cX0 cX1 cX2 cX3 cX4 dX0 dX1 dX2 dX3 dX4 cG0 cG1 cG2 cG3 cG4 dG0 dG1 dG2 dG3 dG4 cY0 cY1 cY2 cY3 cY4 dY0 dY1 dY2 dY3 dY4
    refine (heldReceiver_any n' f' z' d' (some ⟨g_g, 0, none⟩) L.length c_g 1 _ (Row.ownK Og19.out) (by decide) (by decide) (Nat.le_succ_of_le hl2.out)).mono ?_
    rintro e v20 ⟨rfl, hb⟩
    have B20 := Lib.hid (B19.out.trans (hb.mono B19.out.size))
    have KA20 := Lib.hid (KA19.out.below hb)
    have KW20 := Lib.hid (KW19.out.below hb)
    have KX20 := Lib.hid (KX19.out.below hb)
    have KG20 := Lib.hid (KG19.out.below hb)
    have KY20 := Lib.hid (KY19.out.below hb)
    have Ot20 := Lib.hid (Ot19.out.kept (below_any (row := none) hb) (.inr (by simp [Value.ownBlock])))
    have Ow20 := Lib.hid (Ow19.out.kept (below_any (row := none) hb) (.inr (by simp [Value.ownBlock])))
    have Ox20 := Lib.hid (Ox19.out.kept (below_any (row := none) hb) (.inr (by simp [Value.ownBlock])))
    have Og20 := Lib.hid (Og19.out.kept (below_any (row := none) hb) (.inr (by simp [Value.ownBlock])))
    have Oz20 := Lib.hid (Oz19.out.kept (below_any (row := none) hb) (.inr (by simp [Value.ownBlock])))
    have Oy20 := Lib.hid (Oy19.out.kept (below_any (row := none) hb) (.inr (by simp [Value.ownBlock])))
    have Oh20 := Lib.hid (Oh19.out.kept (below_any (row := none) hb) (.inr (by simp [Value.ownBlock])))
    clear hb B19 KA19 KW19 KX19 KG19 KY19 Ot19 Ow19 Ox19 Og19 Oz19 Oy19 Oh19
    obtain ⟨⟨cA0, cA1, cA2, cA3, cA4⟩, dA0, dA1, dA2, dA3, dA4⟩ := KA20.out.of5
    obtain ⟨⟨cW0, cW1, cW2, cW3, cW4⟩, dW0, dW1, dW2, dW3, dW4⟩ := KW20.out.of5
    obtain ⟨⟨cX0, cX1, cX2, cX3, cX4⟩, dX0, dX1, dX2, dX3, dX4⟩ := KX20.out.of5
    obtain ⟨⟨cG0, cG1, cG2, cG3, cG4⟩, dG0, dG1, dG2, dG3, dG4⟩ := KG20.out.of5
    obtain ⟨⟨cY0, cY1, cY2, cY3, cY4⟩, dY0, dY1, dY2, dY3, dY4⟩ := KY20.out.of5
    go_wp2_with fail
    go_ret
    exact ⟨rfl, B20.out⟩
  case neg =>
    obtain rfl : L = [] := List.eq_nil_of_length_eq_zero (by omega)
    clear hp hl2
    simp only [List.length_nil] at CS CI
    obtain ⟨⟨cA0, cA1, cA2, cA3, cA4⟩, dA0, dA1, dA2, dA3, dA4⟩ := KA1.out.of5
    go_wp2_with fail
    clear cA0 cA1 cA2 cA3 cA4 dA0 dA1 dA2 dA3 dA4
    refine (toReceiver_any n f z d a cap rs _ ((HA.out.below B1.out).mono B1.out.size) HLA.out).mono ?_
    rintro e v2 ⟨g_t, rfl, ho_t, hb⟩
    have n_A_t : g_A ≠ g_t := by have h1 := KA1.out.lt; have h2 := (ho_t.lt g_t rfl).1; omega
    have l_t : w.heap.size ≤ g_t := Nat.le_trans B1.out.size (ho_t.lt g_t rfl).1
    have B2 := Lib.hid (B1.out.trans (hb.mono B1.out.size))
    have KA2 := Lib.hid (KA1.out.below hb)
    have Ot2 := Lib.hid (own_down ho_t (Nat.zero_le _))
    clear hb B1 KA1 ho_t
    obtain ⟨⟨cA0, cA1, cA2, cA3, cA4⟩, dA0, dA1, dA2, dA3, dA4⟩ := KA2.out.of5
    go_wp2_with fail
    clear cA0 cA1 cA2 cA3 cA4 dA0 dA1 dA2 dA3 dA4
    refine (CS.out g_t _ (HasP.own Ot2.out)).mono ?_
    rintro e v3 ⟨a_w, c_w, rfl, ho, hb⟩
    clear ho
    have B3 := Lib.hid (B2.out.trans (hb.mono B2.out.size))
    have KA3 := Lib.hid (KA2.out.below hb)
    have Ot3 := Lib.hid (Ot2.out.kept (below_any (row := none) hb) (.inr (by simp [Value.ownBlock])))
    clear hb B2 KA2 Ot2
    have KWn := Lib.hid (Blk.new v3 [.int .i64 n', .string d', .slice a_w 0 c_w, .int .i64 f', .bool z'] 26)
    have l_W : w.heap.size ≤ v3.heap.size := B3.out.size
    have n_A_W : g_A ≠ v3.heap.size := by have h1 := KA3.out.lt; omega
    have n_t_W : g_t ≠ v3.heap.size := by have h1 := (Ot3.out.lt g_t rfl).2; omega
    have Bn := Lib.hid (B3.out.alloc B3.out.size (.cells #[.int .i64 n', .string d', .slice a_w 0 c_w, .int .i64 f', .bool z'] 26))
    have KAn := Lib.hid (KA3.out.alloc (.cells #[.int .i64 n', .string d', .slice a_w 0 c_w, .int .i64 f', .bool z'] 26))
    have Otn := Lib.hid (Ot3.out.alloc (.cells #[.int .i64 n', .string d', .slice a_w 0 c_w, .int .i64 f', .bool z'] 26))
    clear B3 KA3 Ot3
    obtain ⟨⟨cA0, cA1, cA2, cA3, cA4⟩, dA0, dA1, dA2, dA3, dA4⟩ := KAn.out.of5
    go_wp2_with fail
    clear cA0 cA1 cA2 cA3 cA4 dA0 dA1 dA2 dA3 dA4
    change Calls _ _ _ (v3.alloc (.cells #[.int .i64 n', .string d', .slice a_w 0 c_w, .int .i64 f', .bool z'] 26)) _
    generalize v3.alloc (.cells #[.int .i64 n', .string d', .slice a_w 0 c_w, .int .i64 f', .bool z'] 26) = v4 at KWn Bn KAn Otn ⊢
    generalize v3.heap.size = g_W at KWn l_W n_A_W n_t_W ⊢
    clear v3
    have KA4 := KAn
    clear KAn
    have KW4 := KWn
    clear KWn
    have Ot4 := Otn
    clear Otn
    have B4 := Bn
    clear Bn
    refine (toReceiver_any n f z d a cap rs _ ((HA.out.below B4.out).mono B4.out.size) HLA.out).mono ?_
    rintro e v5 ⟨g_x, rfl, ho_x, hb⟩
    have n_A_x : g_A ≠ g_x := by have h1 := KA4.out.lt; have h2 := (ho_x.lt g_x rfl).1; omega
    have n_W_x : g_W ≠ g_x := by have h1 := KW4.out.lt; have h2 := (ho_x.lt g_x rfl).1; omega
    have n_t_x : g_t ≠ g_x := by have h1 := (Ot4.out.lt g_t rfl).2; have h2 := (ho_x.lt g_x rfl).1; omega
    have l_x : w.heap.size ≤ g_x := Nat.le_trans B4.out.size (ho_x.lt g_x rfl).1
    have B5 := Lib.hid (B4.out.trans (hb.mono B4.out.size))
    have KA5 := Lib.hid (KA4.out.below hb)
    have KW5 := Lib.hid (KW4.out.below hb)
    have Ot5 := Lib.hid (Ot4.out.kept (below_any (row := none) hb) (.inr (by simp [Value.ownBlock])))
    have Ox5 := Lib.hid (own_down ho_x (Nat.zero_le _))
    clear hb B4 KA4 KW4 Ot4 ho_x
    have KXn := Lib.hid (Blk.new v5 [.int .i64 n, .string d, .slice (some ⟨g_x, 0, none⟩) rs.length rs.length, .int .i64 f, .bool z] 26)
    have l_X : w.heap.size ≤ v5.heap.size := B5.out.size
    have n_A_X : g_A ≠ v5.heap.size := by have h1 := KA5.out.lt; omega
    have n_W_X : g_W ≠ v5.heap.size := by have h1 := KW5.out.lt; omega
    have n_t_X : g_t ≠ v5.heap.size := by have h1 := (Ot5.out.lt g_t rfl).2; omega
    have n_x_X : g_x ≠ v5.heap.size := by have h1 := (Ox5.out.lt g_x rfl).2; omega
    have Bn := Lib.hid (B5.out.alloc B5.out.size (.cells #[.int .i64 n, .string d, .slice (some ⟨g_x, 0, none⟩) rs.length rs.length, .int .i64 f, .bool z] 26))
    have KAn := Lib.hid (KA5.out.alloc (.cells #[.int .i64 n, .string d, .slice (some ⟨g_x, 0, none⟩) rs.length rs.length, .int .i64 f, .bool z] 26))
    have KWn := Lib.hid (KW5.out.alloc (.cells #[.int .i64 n, .string d, .slice (some ⟨g_x, 0, none⟩) rs.length rs.length, .int .i64 f, .bool z] 26))
    have Otn := Lib.hid (Ot5.out.alloc (.cells #[.int .i64 n, .string d, .slice (some ⟨g_x, 0, none⟩) rs.length rs.length, .int .i64 f, .bool z] 26))
    have Oxn := Lib.hid (Ox5.out.alloc (.cells #[.int .i64 n, .string d, .slice (some ⟨g_x, 0, none⟩) rs.length rs.length, .int .i64 f, .bool z] 26))
    clear B5 KA5 KW5 Ot5 Ox5
    obtain ⟨⟨cA0, cA1, cA2, cA3, cA4⟩, dA0, dA1, dA2, dA3, dA4⟩ := KAn.out.of5
    obtain ⟨⟨cW0, cW1, cW2, cW3, cW4⟩, dW0, dW1, dW2, dW3, dW4⟩ := KWn.out.of5
    go_wp2_with fail
    clear cA0 cA1 cA2 cA3 cA4 dA0 dA1 dA2 dA3 dA4 cW0 cW1 cW2 cW3 cW4 dW0 dW1 dW2 dW3 dW4
    change Calls _ _ _ (v5.alloc (.cells #[.int .i64 n, .string d, .slice (some ⟨g_x, 0, none⟩) rs.length rs.length, .int .i64 f, .bool z] 26)) _
    generalize v5.alloc (.cells #[.int .i64 n, .string d, .slice (some ⟨g_x, 0, none⟩) rs.length rs.length, .int .i64 f, .bool z] 26) = v6 at KXn Bn KAn KWn Otn Oxn ⊢
    generalize v5.heap.size = g_X at KXn l_X n_A_X n_W_X n_t_X n_x_X ⊢
    clear v5
    have KA6 := KAn
    clear KAn
    have KW6 := KWn
    clear KWn
    have KX6 := KXn
    clear KXn
    have Ot6 := Otn
    clear Otn
    have Ox6 := Oxn
    clear Oxn
    have B6 := Bn
    clear Bn
    refine (CI.out g_x _ (HasP.own Ox6.out)).mono ?_
    rintro e v7 ⟨a_g, c_g, rfl, ho, hb⟩
    clear ho
    have B7 := Lib.hid (B6.out.trans (hb.mono B6.out.size))
    have KA7 := Lib.hid (KA6.out.below hb)
    have KW7 := Lib.hid (KW6.out.below hb)
    have KX7 := Lib.hid (KX6.out.below hb)
    have Ot7 := Lib.hid (Ot6.out.kept (below_any (row := none) hb) (.inr (by simp [Value.ownBlock])))
    have Ox7 := Lib.hid (Ox6.out.kept (below_any (row := none) hb) (.inr (by simp [Value.ownBlock])))
    clear hb B6 KA6 KW6 KX6 Ot6 Ox6
    have KGn := Lib.hid (Blk.new v7 [.int .i64 n', .string d', .slice a_g 0 c_g, .int .i64 f', .bool z'] 26)
    have l_G : w.heap.size ≤ v7.heap.size := B7.out.size
    have n_A_G : g_A ≠ v7.heap.size := by have h1 := KA7.out.lt; omega
    have n_W_G : g_W ≠ v7.heap.size := by have h1 := KW7.out.lt; omega
    have n_X_G : g_X ≠ v7.heap.size := by have h1 := KX7.out.lt; omega
    have n_t_G : g_t ≠ v7.heap.size := by have h1 := (Ot7.out.lt g_t rfl).2; omega
    have n_x_G : g_x ≠ v7.heap.size := by have h1 := (Ox7.out.lt g_x rfl).2; omega
    have Bn := Lib.hid (B7.out.alloc B7.out.size (.cells #[.int .i64 n', .string d', .slice a_g 0 c_g, .int .i64 f', .bool z'] 26))
    have KAn := Lib.hid (KA7.out.alloc (.cells #[.int .i64 n', .string d', .slice a_g 0 c_g, .int .i64 f', .bool z'] 26))
    have KWn := Lib.hid (KW7.out.alloc (.cells #[.int .i64 n', .string d', .slice a_g 0 c_g, .int .i64 f', .bool z'] 26))
    have KXn := Lib.hid (KX7.out.alloc (.cells #[.int .i64 n', .string d', .slice a_g 0 c_g, .int .i64 f', .bool z'] 26))
    have Otn := Lib.hid (Ot7.out.alloc (.cells #[.int .i64 n', .string d', .slice a_g 0 c_g, .int .i64 f', .bool z'] 26))
    have Oxn := Lib.hid (Ox7.out.alloc (.cells #[.int .i64 n', .string d', .slice a_g 0 c_g, .int .i64 f', .bool z'] 26))
    clear B7 KA7 KW7 KX7 Ot7 Ox7
    obtain ⟨⟨cA0, cA1, cA2, cA3, cA4⟩, dA0, dA1, dA2, dA3, dA4⟩ := KAn.out.of5
    obtain ⟨⟨cW0, cW1, cW2, cW3, cW4⟩, dW0, dW1, dW2, dW3, dW4⟩ := KWn.out.of5
    obtain ⟨⟨cX0, cX1, cX2, cX3, cX4⟩, dX0, dX1, dX2, dX3, dX4⟩ := KXn.out.of5
    go_wp2_with fail
    clear cA0 cA1 cA2 cA3 cA4 dA0 dA1 dA2 dA3 dA4 cW0 cW1 cW2 cW3 cW4 dW0 dW1 dW2 dW3 dW4 cX0 cX1 cX2 cX3 cX4 dX0 dX1 dX2 dX3 dX4
    change Calls _ _ _ (v7.alloc (.cells #[.int .i64 n', .string d', .slice a_g 0 c_g, .int .i64 f', .bool z'] 26)) _
    generalize v7.alloc (.cells #[.int .i64 n', .string d', .slice a_g 0 c_g, .int .i64 f', .bool z'] 26) = v8 at KGn Bn KAn KWn KXn Otn Oxn ⊢
    generalize v7.heap.size = g_G at KGn l_G n_A_G n_W_G n_X_G n_t_G n_x_G ⊢
    clear v7
    have KA8 := KAn
    clear KAn
    have KW8 := KWn
    clear KWn
    have KX8 := KXn
    clear KXn
    have KG8 := KGn
    clear KGn
    have Ot8 := Otn
    clear Otn
    have Ox8 := Oxn
    clear Oxn
    have B8 := Bn
    clear Bn
    refine (eqReceiver_self n' f' z' d' a_g a_w c_g c_w [] _ Row.nil Row.nil (by simp)).mono ?_
    rintro e v9 ⟨rfl, hb⟩
    have B9 := Lib.hid (B8.out.trans (hb.mono B8.out.size))
    have KA9 := Lib.hid (KA8.out.below hb)
    have KW9 := Lib.hid (KW8.out.below hb)
    have KX9 := Lib.hid (KX8.out.below hb)
    have KG9 := Lib.hid (KG8.out.below hb)
    have Ot9 := Lib.hid (Ot8.out.kept (below_any (row := none) hb) (.inr (by simp [Value.ownBlock])))
    have Ox9 := Lib.hid (Ox8.out.kept (below_any (row := none) hb) (.inr (by simp [Value.ownBlock])))
    clear hb B8 KA8 KW8 KX8 KG8 Ot8 Ox8
    obtain ⟨⟨cA0, cA1, cA2, cA3, cA4⟩, dA0, dA1, dA2, dA3, dA4⟩ := KA9.out.of5
    obtain ⟨⟨cW0, cW1, cW2, cW3, cW4⟩, dW0, dW1, dW2, dW3, dW4⟩ := KW9.out.of5
    obtain ⟨⟨cX0, cX1, cX2, cX3, cX4⟩, dX0, dX1, dX2, dX3, dX4⟩ := KX9.out.of5
    obtain ⟨⟨cG0, cG1, cG2, cG3, cG4⟩, dG0, dG1, dG2, dG3, dG4⟩ := KG9.out.of5
    go_wp2_with fail
    clear cA0 cA1 cA2 cA3 cA4 dA0 dA1 dA2 dA3 dA4 cW0 cW1 cW2 cW3 cW4 dW0 dW1 dW2 dW3 dW4 cX0 cX1 cX2 cX3 cX4 dX0 dX1 dX2 dX3 dX4 cG0 cG1 cG2 cG3 cG4 dG0 dG1 dG2 dG3 dG4
    obtain ⟨⟨cA0, cA1, cA2, cA3, cA4⟩, dA0, dA1, dA2, dA3, dA4⟩ := KA9.out.of5
    obtain ⟨⟨cX0, cX1, cX2, cX3, cX4⟩, dX0, dX1, dX2, dX3, dX4⟩ := KX9.out.of5
    have P9_0 : True := trivial
    have P9_1 : True := trivial
    go_region_held3 (fun w' => (w'.cell? ⟨g_X, 0, none⟩ = some (.int .i64 n) ∧ w'.cell? ⟨g_X, 1, none⟩ = some (.string d) ∧ w'.cell? ⟨g_X, 2, none⟩ = some (.slice (some ⟨g_x, 0, none⟩) rs.length rs.length) ∧ w'.cell? ⟨g_X, 3, none⟩ = some (.int .i64 f) ∧ w'.cell? ⟨g_X, 4, none⟩ = some (.bool z)) ∧ (w'.cell? ⟨g_A, 0, none⟩ = some (.int .i64 n) ∧ w'.cell? ⟨g_A, 1, none⟩ = some (.string d) ∧ w'.cell? ⟨g_A, 2, none⟩ = some (.slice a rs.length cap) ∧ w'.cell? ⟨g_A, 3, none⟩ = some (.int .i64 f) ∧ w'.cell? ⟨g_A, 4, none⟩ = some (.bool z)))
      (first | go_keep | (exact ⟨KX10.out.of5.1, KA10.out.of5.1⟩) | (exact ⟨KX11.out.of5.1, KA11.out.of5.1⟩))
      (first | (have q := P9_0; go_at_call 24; clear q P9_0; refine (toReceiver_any n f z d a cap rs _ ((HA.out.below B9.out.drew).mono B9.out.drew.size) HLA.out).mono ?_; rintro e v10 ⟨g_z, rfl, ho_z, hb⟩; replace hb := (Below.refl _ v9).drew.trans hb; replace ho_z := own_down ho_z (show v9.heap.size ≤ v9.drew.heap.size from Nat.le_refl _); have n_A_z : g_A ≠ g_z := (by have h1 := KA9.out.lt; have h2 := (ho_z.lt g_z rfl).1; omega); have n_W_z : g_W ≠ g_z := (by have h1 := KW9.out.lt; have h2 := (ho_z.lt g_z rfl).1; omega); have n_X_z : g_X ≠ g_z := (by have h1 := KX9.out.lt; have h2 := (ho_z.lt g_z rfl).1; omega); have n_G_z : g_G ≠ g_z := (by have h1 := KG9.out.lt; have h2 := (ho_z.lt g_z rfl).1; omega); have n_t_z : g_t ≠ g_z := (by have h1 := (Ot9.out.lt g_t rfl).2; have h2 := (ho_z.lt g_z rfl).1; omega); have n_x_z : g_x ≠ g_z := (by have h1 := (Ox9.out.lt g_x rfl).2; have h2 := (ho_z.lt g_z rfl).1; omega); have l_z : w.heap.size ≤ g_z := Nat.le_trans B9.out.size (ho_z.lt g_z rfl).1; have B10 := Lib.hid (B9.out.trans (hb.mono B9.out.size)); have KA10 := Lib.hid (KA9.out.below hb); have KW10 := Lib.hid (KW9.out.below hb); have KX10 := Lib.hid (KX9.out.below hb); have KG10 := Lib.hid (KG9.out.below hb); have Ot10 := Lib.hid (Ot9.out.kept (below_any (row := none) hb) (.inr (by simp [Value.ownBlock]))); have Ox10 := Lib.hid (Ox9.out.kept (below_any (row := none) hb) (.inr (by simp [Value.ownBlock]))); have Oz10 := Lib.hid (own_down ho_z (Nat.zero_le _)); clear hb B9 KA9 KW9 KX9 KG9 Ot9 Ox9 ho_z) | (have q := P9_1; go_at_call 25; clear q P9_1; refine (eqReceiver_self n f z d (some ⟨g_x, 0, none⟩) (some ⟨g_z, 0, none⟩) rs.length rs.length rs _ (Row.ownK Ox10.out) (Row.ownK Oz10.out) HLA.out).mono ?_; rintro e v11 ⟨rfl, hb⟩; have B11 := Lib.hid (B10.out.trans (hb.mono B10.out.size)); have KA11 := Lib.hid (KA10.out.below hb); have KW11 := Lib.hid (KW10.out.below hb); have KX11 := Lib.hid (KX10.out.below hb); have KG11 := Lib.hid (KG10.out.below hb); have Ot11 := Lib.hid (Ot10.out.kept (below_any (row := none) hb) (.inr (by simp [Value.ownBlock]))); have Ox11 := Lib.hid (Ox10.out.kept (below_any (row := none) hb) (.inr (by simp [Value.ownBlock]))); have Oz11 := Lib.hid (Oz10.out.kept (below_any (row := none) hb) (.inr (by simp [Value.ownBlock]))); clear hb B10 KA10 KW10 KX10 KG10 Ot10 Ox10 Oz10))
    try clear cA0 cA1 cA2 cA3 cA4 dA0 dA1 dA2 dA3 dA4 cX0 cX1 cX2 cX3 cX4 dX0 dX1 dX2 dX3 dX4
    obtain ⟨⟨cA0, cA1, cA2, cA3, cA4⟩, dA0, dA1, dA2, dA3, dA4⟩ := KA11.out.of5
    obtain ⟨⟨cW0, cW1, cW2, cW3, cW4⟩, dW0, dW1, dW2, dW3, dW4⟩ := KW11.out.of5
    obtain ⟨⟨cX0, cX1, cX2, cX3, cX4⟩, dX0, dX1, dX2, dX3, dX4⟩ := KX11.out.of5
    obtain ⟨⟨cG0, cG1, cG2, cG3, cG4⟩, dG0, dG1, dG2, dG3, dG4⟩ := KG11.out.of5
    go_wp2_with fail
    clear cA0 cA1 cA2 cA3 cA4 dA0 dA1 dA2 dA3 dA4 cW0 cW1 cW2 cW3 cW4 dW0 dW1 dW2 dW3 dW4 cX0 cX1 cX2 cX3 cX4 dX0 dX1 dX2 dX3 dX4 cG0 cG1 cG2 cG3 cG4 dG0 dG1 dG2 dG3 dG4
    refine (markReceiver_any n f z d 0 g_x rs.length rs.length 1 rs _ rfl Ox11.out (by decide) (by decide) (Nat.le_succ_of_le HLA.out)).mono ?_
    rintro e v12 ⟨rfl, ho, hg⟩
    have B12 := Lib.hid (B11.out.trans (grown_below hg l_x B11.out.size))
    have KA12 := Lib.hid (KA11.out.grown hg (n_A_x))
    have KW12 := Lib.hid (KW11.out.grown hg (n_W_x))
    have KX12 := Lib.hid (KX11.out.grown hg (fun e => n_x_X e.symm))
    have KG12 := Lib.hid (KG11.out.grown hg (fun e => n_x_G e.symm))
    have Ot12 := Lib.hid (Ot11.out.kept hg (.inr (own_ne (n_t_x))))
    have Ox12 := Lib.hid ho
    have Oz12 := Lib.hid (Oz11.out.kept hg (.inr (own_ne (fun e => n_x_z e.symm))))
    clear hg B11 KA11 KW11 KX11 KG11 Ot11 Ox11 Oz11 ho
    have hk1 : (0 : Int) ≤ ((1 + 2 * rs.length : Nat) : Int) := Int.natCast_nonneg _
    obtain ⟨⟨cA0, cA1, cA2, cA3, cA4⟩, dA0, dA1, dA2, dA3, dA4⟩ := KA12.out.of5
    obtain ⟨⟨cW0, cW1, cW2, cW3, cW4⟩, dW0, dW1, dW2, dW3, dW4⟩ := KW12.out.of5
    obtain ⟨⟨cX0, cX1, cX2, cX3, cX4⟩, dX0, dX1, dX2, dX3, dX4⟩ := KX12.out.of5
    obtain ⟨⟨cG0, cG1, cG2, cG3, cG4⟩, dG0, dG1, dG2, dG3, dG4⟩ := KG12.out.of5
    go_wp2_with fail
    clear cA0 cA1 cA2 cA3 cA4 dA0 dA1 dA2 dA3 dA4 cW0 cW1 cW2 cW3 cW4 dW0 dW1 dW2 dW3 dW4 cX0 cX1 cX2 cX3 cX4 dX0 dX1 dX2 dX3 dX4 cG0 cG1 cG2 cG3 cG4 dG0 dG1 dG2 dG3 dG4
    refine (eqReceiver_self n' f' z' d' a_g a_w c_g c_w [] _ Row.nil Row.nil (by simp)).mono ?_
    rintro e v13 ⟨rfl, hb⟩
    have B13 := Lib.hid (B12.out.trans (hb.mono B12.out.size))
    have KA13 := Lib.hid (KA12.out.below hb)
    have KW13 := Lib.hid (KW12.out.below hb)
    have KX13 := Lib.hid (KX12.out.below hb)
    have KG13 := Lib.hid (KG12.out.below hb)
    have Ot13 := Lib.hid (Ot12.out.kept (below_any (row := none) hb) (.inr (by simp [Value.ownBlock])))
    have Ox13 := Lib.hid (Ox12.out.kept (below_any (row := none) hb) (.inr (by simp [Value.ownBlock])))
    have Oz13 := Lib.hid (Oz12.out.kept (below_any (row := none) hb) (.inr (by simp [Value.ownBlock])))
    clear hb B12 KA12 KW12 KX12 KG12 Ot12 Ox12 Oz12
    obtain ⟨⟨cA0, cA1, cA2, cA3, cA4⟩, dA0, dA1, dA2, dA3, dA4⟩ := KA13.out.of5
    obtain ⟨⟨cW0, cW1, cW2, cW3, cW4⟩, dW0, dW1, dW2, dW3, dW4⟩ := KW13.out.of5
    obtain ⟨⟨cX0, cX1, cX2, cX3, cX4⟩, dX0, dX1, dX2, dX3, dX4⟩ := KX13.out.of5
    obtain ⟨⟨cG0, cG1, cG2, cG3, cG4⟩, dG0, dG1, dG2, dG3, dG4⟩ := KG13.out.of5
    go_wp2_with fail
    clear cA0 cA1 cA2 cA3 cA4 dA0 dA1 dA2 dA3 dA4 cW0 cW1 cW2 cW3 cW4 dW0 dW1 dW2 dW3 dW4 cX0 cX1 cX2 cX3 cX4 dX0 dX1 dX2 dX3 dX4 cG0 cG1 cG2 cG3 cG4 dG0 dG1 dG2 dG3 dG4
    refine (markReceiver_none n' f' z' d' a_g c_g 1 _).mono ?_
    rintro e v14 ⟨rfl, hb⟩
    have B14 := Lib.hid (B13.out.trans (hb.mono B13.out.size))
    have KA14 := Lib.hid (KA13.out.below hb)
    have KW14 := Lib.hid (KW13.out.below hb)
    have KX14 := Lib.hid (KX13.out.below hb)
    have KG14 := Lib.hid (KG13.out.below hb)
    have Ot14 := Lib.hid (Ot13.out.kept (below_any (row := none) hb) (.inr (by simp [Value.ownBlock])))
    have Ox14 := Lib.hid (Ox13.out.kept (below_any (row := none) hb) (.inr (by simp [Value.ownBlock])))
    have Oz14 := Lib.hid (Oz13.out.kept (below_any (row := none) hb) (.inr (by simp [Value.ownBlock])))
    clear hb B13 KA13 KW13 KX13 KG13 Ot13 Ox13 Oz13
    obtain ⟨⟨cA0, cA1, cA2, cA3, cA4⟩, dA0, dA1, dA2, dA3, dA4⟩ := KA14.out.of5
    obtain ⟨⟨cW0, cW1, cW2, cW3, cW4⟩, dW0, dW1, dW2, dW3, dW4⟩ := KW14.out.of5
    obtain ⟨⟨cX0, cX1, cX2, cX3, cX4⟩, dX0, dX1, dX2, dX3, dX4⟩ := KX14.out.of5
    obtain ⟨⟨cG0, cG1, cG2, cG3, cG4⟩, dG0, dG1, dG2, dG3, dG4⟩ := KG14.out.of5
    go_wp2_with fail
    clear cA0 cA1 cA2 cA3 cA4 dA0 dA1 dA2 dA3 dA4 cW0 cW1 cW2 cW3 cW4 dW0 dW1 dW2 dW3 dW4 cX0 cX1 cX2 cX3 cX4 dX0 dX1 dX2 dX3 dX4 cG0 cG1 cG2 cG3 cG4 dG0 dG1 dG2 dG3 dG4
    refine (heldReceiver_any n' f' z' d' a_g 0 c_g 1 _ Row.nil (by decide) (by decide) (by omega)).mono ?_
    rintro e v15 ⟨rfl, hb⟩
    have B15 := Lib.hid (B14.out.trans (hb.mono B14.out.size))
    have KA15 := Lib.hid (KA14.out.below hb)
    have KW15 := Lib.hid (KW14.out.below hb)
    have KX15 := Lib.hid (KX14.out.below hb)
    have KG15 := Lib.hid (KG14.out.below hb)
    have Ot15 := Lib.hid (Ot14.out.kept (below_any (row := none) hb) (.inr (by simp [Value.ownBlock])))
    have Ox15 := Lib.hid (Ox14.out.kept (below_any (row := none) hb) (.inr (by simp [Value.ownBlock])))
    have Oz15 := Lib.hid (Oz14.out.kept (below_any (row := none) hb) (.inr (by simp [Value.ownBlock])))
    clear hb B14 KA14 KW14 KX14 KG14 Ot14 Ox14 Oz14
    obtain ⟨⟨cA0, cA1, cA2, cA3, cA4⟩, dA0, dA1, dA2, dA3, dA4⟩ := KA15.out.of5
    obtain ⟨⟨cW0, cW1, cW2, cW3, cW4⟩, dW0, dW1, dW2, dW3, dW4⟩ := KW15.out.of5
    obtain ⟨⟨cX0, cX1, cX2, cX3, cX4⟩, dX0, dX1, dX2, dX3, dX4⟩ := KX15.out.of5
    obtain ⟨⟨cG0, cG1, cG2, cG3, cG4⟩, dG0, dG1, dG2, dG3, dG4⟩ := KG15.out.of5
    go_wp2_with fail
    clear cA0 cA1 cA2 cA3 cA4 dA0 dA1 dA2 dA3 dA4 cW0 cW1 cW2 cW3 cW4 dW0 dW1 dW2 dW3 dW4 cX0 cX1 cX2 cX3 cX4 dX0 dX1 dX2 dX3 dX4 cG0 cG1 cG2 cG3 cG4 dG0 dG1 dG2 dG3 dG4
    refine (toReceiver_any n f z d a cap rs _ ((HA.out.below B15.out).mono B15.out.size) HLA.out).mono ?_
    rintro e v16 ⟨g_y, rfl, ho_y, hb⟩
    have n_A_y : g_A ≠ g_y := by have h1 := KA15.out.lt; have h2 := (ho_y.lt g_y rfl).1; omega
    have n_W_y : g_W ≠ g_y := by have h1 := KW15.out.lt; have h2 := (ho_y.lt g_y rfl).1; omega
    have n_X_y : g_X ≠ g_y := by have h1 := KX15.out.lt; have h2 := (ho_y.lt g_y rfl).1; omega
    have n_G_y : g_G ≠ g_y := by have h1 := KG15.out.lt; have h2 := (ho_y.lt g_y rfl).1; omega
    have n_t_y : g_t ≠ g_y := by have h1 := (Ot15.out.lt g_t rfl).2; have h2 := (ho_y.lt g_y rfl).1; omega
    have n_x_y : g_x ≠ g_y := by have h1 := (Ox15.out.lt g_x rfl).2; have h2 := (ho_y.lt g_y rfl).1; omega
    have n_z_y : g_z ≠ g_y := by have h1 := (Oz15.out.lt g_z rfl).2; have h2 := (ho_y.lt g_y rfl).1; omega
    have l_y : w.heap.size ≤ g_y := Nat.le_trans B15.out.size (ho_y.lt g_y rfl).1
    have B16 := Lib.hid (B15.out.trans (hb.mono B15.out.size))
    have KA16 := Lib.hid (KA15.out.below hb)
    have KW16 := Lib.hid (KW15.out.below hb)
    have KX16 := Lib.hid (KX15.out.below hb)
    have KG16 := Lib.hid (KG15.out.below hb)
    have Ot16 := Lib.hid (Ot15.out.kept (below_any (row := none) hb) (.inr (by simp [Value.ownBlock])))
    have Ox16 := Lib.hid (Ox15.out.kept (below_any (row := none) hb) (.inr (by simp [Value.ownBlock])))
    have Oz16 := Lib.hid (Oz15.out.kept (below_any (row := none) hb) (.inr (by simp [Value.ownBlock])))
    have Oy16 := Lib.hid (own_down ho_y (Nat.zero_le _))
    clear hb B15 KA15 KW15 KX15 KG15 Ot15 Ox15 Oz15 ho_y
    obtain ⟨⟨cA0, cA1, cA2, cA3, cA4⟩, dA0, dA1, dA2, dA3, dA4⟩ := KA16.out.of5
    obtain ⟨⟨cW0, cW1, cW2, cW3, cW4⟩, dW0, dW1, dW2, dW3, dW4⟩ := KW16.out.of5
    obtain ⟨⟨cX0, cX1, cX2, cX3, cX4⟩, dX0, dX1, dX2, dX3, dX4⟩ := KX16.out.of5
    obtain ⟨⟨cG0, cG1, cG2, cG3, cG4⟩, dG0, dG1, dG2, dG3, dG4⟩ := KG16.out.of5
    go_wp2_with fail
    clear cA0 cA1 cA2 cA3 cA4 dA0 dA1 dA2 dA3 dA4 cW0 cW1 cW2 cW3 cW4 dW0 dW1 dW2 dW3 dW4 cX0 cX1 cX2 cX3 cX4 dX0 dX1 dX2 dX3 dX4 cG0 cG1 cG2 cG3 cG4 dG0 dG1 dG2 dG3 dG4
    refine (CI.out g_y _ (HasP.own Oy16.out)).mono ?_
    rintro e v17 ⟨a_h, c_h, rfl, ho, hb⟩
    clear ho
    have B17 := Lib.hid (B16.out.trans (hb.mono B16.out.size))
    have KA17 := Lib.hid (KA16.out.below hb)
    have KW17 := Lib.hid (KW16.out.below hb)
    have KX17 := Lib.hid (KX16.out.below hb)
    have KG17 := Lib.hid (KG16.out.below hb)
    have Ot17 := Lib.hid (Ot16.out.kept (below_any (row := none) hb) (.inr (by simp [Value.ownBlock])))
    have Ox17 := Lib.hid (Ox16.out.kept (below_any (row := none) hb) (.inr (by simp [Value.ownBlock])))
    have Oz17 := Lib.hid (Oz16.out.kept (below_any (row := none) hb) (.inr (by simp [Value.ownBlock])))
    have Oy17 := Lib.hid (Oy16.out.kept (below_any (row := none) hb) (.inr (by simp [Value.ownBlock])))
    clear hb B16 KA16 KW16 KX16 KG16 Ot16 Ox16 Oz16 Oy16
    have KYn := Lib.hid (Blk.new v17 [.int .i64 n', .string d', .slice a_h 0 c_h, .int .i64 f', .bool z'] 26)
    have l_Y : w.heap.size ≤ v17.heap.size := B17.out.size
    have n_A_Y : g_A ≠ v17.heap.size := by have h1 := KA17.out.lt; omega
    have n_W_Y : g_W ≠ v17.heap.size := by have h1 := KW17.out.lt; omega
    have n_X_Y : g_X ≠ v17.heap.size := by have h1 := KX17.out.lt; omega
    have n_G_Y : g_G ≠ v17.heap.size := by have h1 := KG17.out.lt; omega
    have n_t_Y : g_t ≠ v17.heap.size := by have h1 := (Ot17.out.lt g_t rfl).2; omega
    have n_x_Y : g_x ≠ v17.heap.size := by have h1 := (Ox17.out.lt g_x rfl).2; omega
    have n_z_Y : g_z ≠ v17.heap.size := by have h1 := (Oz17.out.lt g_z rfl).2; omega
    have n_y_Y : g_y ≠ v17.heap.size := by have h1 := (Oy17.out.lt g_y rfl).2; omega
    have Bn := Lib.hid (B17.out.alloc B17.out.size (.cells #[.int .i64 n', .string d', .slice a_h 0 c_h, .int .i64 f', .bool z'] 26))
    have KAn := Lib.hid (KA17.out.alloc (.cells #[.int .i64 n', .string d', .slice a_h 0 c_h, .int .i64 f', .bool z'] 26))
    have KWn := Lib.hid (KW17.out.alloc (.cells #[.int .i64 n', .string d', .slice a_h 0 c_h, .int .i64 f', .bool z'] 26))
    have KXn := Lib.hid (KX17.out.alloc (.cells #[.int .i64 n', .string d', .slice a_h 0 c_h, .int .i64 f', .bool z'] 26))
    have KGn := Lib.hid (KG17.out.alloc (.cells #[.int .i64 n', .string d', .slice a_h 0 c_h, .int .i64 f', .bool z'] 26))
    have Otn := Lib.hid (Ot17.out.alloc (.cells #[.int .i64 n', .string d', .slice a_h 0 c_h, .int .i64 f', .bool z'] 26))
    have Oxn := Lib.hid (Ox17.out.alloc (.cells #[.int .i64 n', .string d', .slice a_h 0 c_h, .int .i64 f', .bool z'] 26))
    have Ozn := Lib.hid (Oz17.out.alloc (.cells #[.int .i64 n', .string d', .slice a_h 0 c_h, .int .i64 f', .bool z'] 26))
    have Oyn := Lib.hid (Oy17.out.alloc (.cells #[.int .i64 n', .string d', .slice a_h 0 c_h, .int .i64 f', .bool z'] 26))
    clear B17 KA17 KW17 KX17 KG17 Ot17 Ox17 Oz17 Oy17
    obtain ⟨⟨cA0, cA1, cA2, cA3, cA4⟩, dA0, dA1, dA2, dA3, dA4⟩ := KAn.out.of5
    obtain ⟨⟨cW0, cW1, cW2, cW3, cW4⟩, dW0, dW1, dW2, dW3, dW4⟩ := KWn.out.of5
    obtain ⟨⟨cX0, cX1, cX2, cX3, cX4⟩, dX0, dX1, dX2, dX3, dX4⟩ := KXn.out.of5
    obtain ⟨⟨cG0, cG1, cG2, cG3, cG4⟩, dG0, dG1, dG2, dG3, dG4⟩ := KGn.out.of5
    go_wp2_with fail
    clear cA0 cA1 cA2 cA3 cA4 dA0 dA1 dA2 dA3 dA4 cW0 cW1 cW2 cW3 cW4 dW0 dW1 dW2 dW3 dW4 cX0 cX1 cX2 cX3 cX4 dX0 dX1 dX2 dX3 dX4 cG0 cG1 cG2 cG3 cG4 dG0 dG1 dG2 dG3 dG4
    change Calls _ _ _ (v17.alloc (.cells #[.int .i64 n', .string d', .slice a_h 0 c_h, .int .i64 f', .bool z'] 26)) _
    generalize v17.alloc (.cells #[.int .i64 n', .string d', .slice a_h 0 c_h, .int .i64 f', .bool z'] 26) = v18 at KYn Bn KAn KWn KXn KGn Otn Oxn Ozn Oyn ⊢
    generalize v17.heap.size = g_Y at KYn l_Y n_A_Y n_W_Y n_X_Y n_G_Y n_t_Y n_x_Y n_z_Y n_y_Y ⊢
    clear v17
    have KA18 := KAn
    clear KAn
    have KW18 := KWn
    clear KWn
    have KX18 := KXn
    clear KXn
    have KG18 := KGn
    clear KGn
    have KY18 := KYn
    clear KYn
    have Ot18 := Otn
    clear Otn
    have Ox18 := Oxn
    clear Oxn
    have Oz18 := Ozn
    clear Ozn
    have Oy18 := Oyn
    clear Oyn
    have B18 := Bn
    clear Bn
    refine (eqReceiver_self n' f' z' d' a_h a_w c_h c_w [] _ Row.nil Row.nil (by simp)).mono ?_
    rintro e v19 ⟨rfl, hb⟩
    have B19 := Lib.hid (B18.out.trans (hb.mono B18.out.size))
    have KA19 := Lib.hid (KA18.out.below hb)
    have KW19 := Lib.hid (KW18.out.below hb)
    have KX19 := Lib.hid (KX18.out.below hb)
    have KG19 := Lib.hid (KG18.out.below hb)
    have KY19 := Lib.hid (KY18.out.below hb)
    have Ot19 := Lib.hid (Ot18.out.kept (below_any (row := none) hb) (.inr (by simp [Value.ownBlock])))
    have Ox19 := Lib.hid (Ox18.out.kept (below_any (row := none) hb) (.inr (by simp [Value.ownBlock])))
    have Oz19 := Lib.hid (Oz18.out.kept (below_any (row := none) hb) (.inr (by simp [Value.ownBlock])))
    have Oy19 := Lib.hid (Oy18.out.kept (below_any (row := none) hb) (.inr (by simp [Value.ownBlock])))
    clear hb B18 KA18 KW18 KX18 KG18 KY18 Ot18 Ox18 Oz18 Oy18
    obtain ⟨⟨cA0, cA1, cA2, cA3, cA4⟩, dA0, dA1, dA2, dA3, dA4⟩ := KA19.out.of5
    obtain ⟨⟨cW0, cW1, cW2, cW3, cW4⟩, dW0, dW1, dW2, dW3, dW4⟩ := KW19.out.of5
    obtain ⟨⟨cX0, cX1, cX2, cX3, cX4⟩, dX0, dX1, dX2, dX3, dX4⟩ := KX19.out.of5
    obtain ⟨⟨cG0, cG1, cG2, cG3, cG4⟩, dG0, dG1, dG2, dG3, dG4⟩ := KG19.out.of5
    obtain ⟨⟨cY0, cY1, cY2, cY3, cY4⟩, dY0, dY1, dY2, dY3, dY4⟩ := KY19.out.of5
    go_wp2_with fail
    clear cA0 cA1 cA2 cA3 cA4 dA0 dA1 dA2 dA3 dA4 cW0 cW1 cW2 cW3 cW4 dW0 dW1 dW2 dW3 dW4 cX0 cX1 cX2 cX3 cX4 dX0 dX1 dX2 dX3 dX4 cG0 cG1 cG2 cG3 cG4 dG0 dG1 dG2 dG3 dG4 cY0 cY1 cY2 cY3 cY4 dY0 dY1 dY2 dY3 dY4
    refine (heldReceiver_any n' f' z' d' a_g 0 c_g 1 _ Row.nil (by decide) (by decide) (by omega)).mono ?_
    rintro e v20 ⟨rfl, hb⟩
    have B20 := Lib.hid (B19.out.trans (hb.mono B19.out.size))
    have KA20 := Lib.hid (KA19.out.below hb)
    have KW20 := Lib.hid (KW19.out.below hb)
    have KX20 := Lib.hid (KX19.out.below hb)
    have KG20 := Lib.hid (KG19.out.below hb)
    have KY20 := Lib.hid (KY19.out.below hb)
    have Ot20 := Lib.hid (Ot19.out.kept (below_any (row := none) hb) (.inr (by simp [Value.ownBlock])))
    have Ox20 := Lib.hid (Ox19.out.kept (below_any (row := none) hb) (.inr (by simp [Value.ownBlock])))
    have Oz20 := Lib.hid (Oz19.out.kept (below_any (row := none) hb) (.inr (by simp [Value.ownBlock])))
    have Oy20 := Lib.hid (Oy19.out.kept (below_any (row := none) hb) (.inr (by simp [Value.ownBlock])))
    clear hb B19 KA19 KW19 KX19 KG19 KY19 Ot19 Ox19 Oz19 Oy19
    obtain ⟨⟨cA0, cA1, cA2, cA3, cA4⟩, dA0, dA1, dA2, dA3, dA4⟩ := KA20.out.of5
    obtain ⟨⟨cW0, cW1, cW2, cW3, cW4⟩, dW0, dW1, dW2, dW3, dW4⟩ := KW20.out.of5
    obtain ⟨⟨cX0, cX1, cX2, cX3, cX4⟩, dX0, dX1, dX2, dX3, dX4⟩ := KX20.out.of5
    obtain ⟨⟨cG0, cG1, cG2, cG3, cG4⟩, dG0, dG1, dG2, dG3, dG4⟩ := KG20.out.of5
    obtain ⟨⟨cY0, cY1, cY2, cY3, cY4⟩, dY0, dY1, dY2, dY3, dY4⟩ := KY20.out.of5
    go_wp2_with fail
    go_ret
    exact ⟨rfl, B20.out⟩

theorem walk {w : World} (n : Int) (d : ByteArray) (a : Option Addr) (len cap : Nat) (rs : List HP) (f : Int) (z : Bool) (sq : Int) (x : ByteArray) (fin : Bool) (h : LawR w n d a len cap rs f z) (_ : (Lit.int .i64 sq).wf = true) (_ : x.size ≤ maxLen) : Calls Try.prog 7 #[.agg #[.int .i64 n, .string d, .slice a len cap, .int .i64 f, .bool z], .int .i64 sq, .string x, .bool fin] w (OkB w) := by
  obtain ⟨⟨_, hd, _, _⟩, ⟨rfl, h1, h2, h3⟩, hrow⟩ := h
  exact go n f z d a cap rs sq x fin w hrow hd (Nat.le_trans h1 h2) (fun r hr => (h3 r hr).2)
theorem own : ownKnob Try.prog.godebug = none := by kernel_rfl
theorem laidOut : laidOutB Try.prog = true := by kernel_rfl

set_option maxRecDepth 100000 in
theorem lifted (os : Os) (started : os.Started) (H : Type) (enc : TypeId × Value → H) :
    ReturnsInHanded {} Try.checked os 7 .any (Rows.fnExactArrivedSpec.pre6 enc Try.prog Try.f7 Rows.fnExactArrivedRow.domain false) (Rows.fnExactArrivedSpec.post enc Try.prog Try.f7 false true false false) := by
  refine returnsInHanded_of_change (C := Try.checked) own started (by kernel_rfl) Try.func7
    (ChangeSpec.witness6 (enc := enc) (C := Try.checked) false ⟨#[], #[.agg #[.int .i64 0, .string ByteArray.empty, .slice none 0 0, .int .i64 0, .bool false], .int .i64 0, .string ByteArray.empty, .bool false], []⟩ 8 (by kernel_rfl) (by kernel_rfl) (by kernel_rfl) (by kernel_rfl)) ?_
  intro W base args ds gs before hval0 hW _ _
  have hval : ∀ (j : Nat) t v, Try.f7.params[j]? = some t → args[j]? = some v → Value.okWide Try.prog W .any base t v := hval0
  have hW' := hW
  obtain ⟨p, q, hA0, hV, rfl, _, _⟩ := hW
  have hA : DataW.TrodAll enc Try.prog W 0 (fun _ => true) true Try.f7.params.toList args.toList ds p := hA0
  rw [Try.params7] at hA hval
  obtain ⟨v0, vs0, d0, ds0, p0, q0, hargs, rfl, rfl, h0, r0⟩ := trodAll_cons hA
  obtain ⟨v1, vs1, d1, ds1, p1, q1, rfl, rfl, rfl, h1, r1⟩ := trodAll_cons r0
  obtain ⟨v2, vs2, d2, ds2, p2, q2, rfl, rfl, rfl, h2, r2⟩ := trodAll_cons r1
  obtain ⟨v3, vs3, d3, ds3, p3, q3, rfl, rfl, rfl, h3, r3⟩ := trodAll_cons r2
  obtain ⟨rfl, rfl, rfl⟩ := trodAll_nil r3
  obtain rfl : args = #[v0, v1, v2, v3] := by cases args; simp_all
  obtain ⟨rfl, rfl⟩ := trodVars_none hV
  have k0 := h0
  have lt0 : ∀ x ∈ p0, x.block < W.heap.size := by obtain ⟨m, hm⟩ := k0; exact DataW.trod_lt m _ _ _ hm
  obtain ⟨n0, d0, a0, len0, cap0, s0, f0, z0, rfl, w0⟩ := argRcv (hval 0 42 v0 rfl rfl) h0
  obtain ⟨a1, rfl, rfl, rfl, w1⟩ := open_int Try.underlying3 (hval 1 3 v1 rfl rfl) h1
  obtain ⟨a2, rfl, rfl, rfl, w2⟩ := open_string Try.underlying9 (hval 2 9 v2 rfl rfl) h2
  obtain ⟨a3, rfl, rfl, rfl⟩ := open_bool Try.underlying4 (hval 3 4 v3 rfl rfl) h3
  clear hA0 hval0
  refine (walk n0 d0 a0 len0 cap0 s0 f0 z0 a1 a2 a3 w0 w1 w2).mono fun e W' ⟨he, bel⟩ => ?_
  subst he
  exact ⟨_, rfl, _, _, _, [], _, [], hW', trodAll_mk1 (shut_bool Try.underlying4 _), (trodAll_cons_mk (Below.trod laidOut (by kernel_rfl) (of_decide_eq_true (by kernel_rfl)) k0 bel lt0) (trodAll_cons_mk (shut_int Try.underlying3 w1) (trodAll_cons_mk (shut_string Try.underlying9 w2) (trodAll_cons_mk (shut_bool Try.underlying4 _) trodAll_mk0)))), rfl, bel.frame _, fun h => by cases h⟩

theorem over : Rows.fnExactArrivedRow.holds Try.pinned (OpenSpec.ofChange Rows.fnExactArrivedSpec) :=
  OpenClaim.holds_of_wide 7 Try.f7 rfl rfl rfl rfl rfl rfl rfl ⟨rfl, rfl, rfl, rfl, rfl⟩ rfl rfl rfl rfl rfl (by kernel_rfl) Try.func7 (by kernel_rfl)
    (of_decide_eq_true (by kernel_rfl)) (by unfold Func.isWrapper; first | (rw [if_pos (by decide +kernel)]; kernel_rfl) | (rw [if_neg (by decide +kernel)]; exact ⟨rfl, rfl⟩))
    (fun os started H enc _ => lifted os started H enc)

theorem proved : Rows.FnExactArrivedSaid := over
#print axioms proved
end Go.Proofs.Ytpbnkkgfjmkcdaa.fnExactArrived
