/- The law FnExactConnOk holds for every argument (up to the law's own measure of 1048576 pieces and bytes; past it the law itself answers true): impl's ConnOk answers as the model's and leaves its argument. No condition. -/
import Derived.Test.YtajekjjaaohbnaaRows
import Derived.Test.YtajekjjaaohbnaaConnOkI
import Derived.Test.YtajekjjaaohbnaaConnOkS
import Derived.Test.YtajekjjaaohbnaaConnLaw
import Derived.Test.YtajekjjaaohbnaaArgConn
import Derived.Test.YtajekjjaaohbnaaBulk
import Derived.Deep.RegionHeld3
import Derived.ProofKit
import Derived.OpenShut
import Derived.ShutString
import Derived.ChangeSame
namespace Go.Proofs.Ytajekjjaaohbnaa.fnExactConnOk
open Go.ChangeShapes Go.WideShapes Go.ChangeAt Go.RowKit Go.Lib
open Go.ChangeMaps (open_string shut_string)

/-- The law's word: true, and what lay before the call lies as it lay. -/
def OkB (w : World) (e : Ending) (w' : World) : Prop := e = .returned (.bool true) ∧ Below w.heap.size w w'

set_option maxRecDepth 100000 in
set_option maxHeartbeats 16000000 in
theorem go (p q r st u : Int) (d : ByteArray) (t : Int) (f g h : Bool) (n : Int) (y : ByteArray) (a : Option Addr) (cap : Nat) (rs : List HP) (fi : Int) (z : Bool) (wi mo m c : Int) (k s : Bool) (v x ti tr : Int) (w : World) (hrowA : Row w w.heap.size a (hps rs)) (hdA : d.size ≤ maxLen) (hyA : y.size ≤ maxLen) (hmA : rs.length ≤ maxLen) (hgA : ∀ r ∈ rs, r.t.size ≤ maxLen) :
    Calls Try.prog 5 #[.agg #[.int .i64 p, .int .i64 q, .int .i64 r, .int .i64 st, .int .i64 u, .string d, .int .i64 t, .bool f, .bool g, .bool h, .int .i64 n, .string y, .slice a rs.length cap, .int .i64 fi, .bool z, .int .i64 wi, .int .i64 mo, .int .i64 m, .int .i64 c, .bool k, .bool s, .int .i64 v, .int .i64 x, .int .i64 ti, .int .i64 tr]] w (OkB w) := by
  have HA := Lib.hid hrowA
  replace hdA := Lib.hid hdA
  replace hyA := Lib.hid hyA
  replace hmA := Lib.hid hmA
  replace hgA := Lib.hid hgA
  clear hrowA
  go_enter Try.func5, Try.ntmps5
  have B0 := Lib.hid (show Below w.heap.size w (w.alloc (.cells #[.int .i64 p, .int .i64 q, .int .i64 r, .int .i64 st, .int .i64 u, .string d, .int .i64 t, .bool f, .bool g, .bool h, .int .i64 n, .string y, .slice a rs.length cap, .int .i64 fi, .bool z, .int .i64 wi, .int .i64 mo, .int .i64 m, .int .i64 c, .bool k, .bool s, .int .i64 v, .int .i64 x, .int .i64 ti, .int .i64 tr] 58)) from ((Below.refl _ w).alloc (by simp) _))
  have KA0 := Lib.hid (show Blk (w.alloc (.cells #[.int .i64 p, .int .i64 q, .int .i64 r, .int .i64 st, .int .i64 u, .string d, .int .i64 t, .bool f, .bool g, .bool h, .int .i64 n, .string y, .slice a rs.length cap, .int .i64 fi, .bool z, .int .i64 wi, .int .i64 mo, .int .i64 m, .int .i64 c, .bool k, .bool s, .int .i64 v, .int .i64 x, .int .i64 ti, .int .i64 tr] 58)) (w.heap.size) [.int .i64 p, .int .i64 q, .int .i64 r, .int .i64 st, .int .i64 u, .string d, .int .i64 t, .bool f, .bool g, .bool h, .int .i64 n, .string y, .slice a rs.length cap, .int .i64 fi, .bool z, .int .i64 wi, .int .i64 mo, .int .i64 m, .int .i64 c, .bool k, .bool s, .int .i64 v, .int .i64 x, .int .i64 ti, .int .i64 tr] from Blk.new w [.int .i64 p, .int .i64 q, .int .i64 r, .int .i64 st, .int .i64 u, .string d, .int .i64 t, .bool f, .bool g, .bool h, .int .i64 n, .string y, .slice a rs.length cap, .int .i64 fi, .bool z, .int .i64 wi, .int .i64 mo, .int .i64 m, .int .i64 c, .bool k, .bool s, .int .i64 v, .int .i64 x, .int .i64 ti, .int .i64 tr] 58)
  go_upto_region 2 with fail
  generalize w.alloc (.cells #[.int .i64 p, .int .i64 q, .int .i64 r, .int .i64 st, .int .i64 u, .string d, .int .i64 t, .bool f, .bool g, .bool h, .int .i64 n, .string y, .slice a rs.length cap, .int .i64 fi, .bool z, .int .i64 wi, .int .i64 mo, .int .i64 m, .int .i64 c, .bool k, .bool s, .int .i64 v, .int .i64 x, .int .i64 ti, .int .i64 tr] 58) = v0 at B0 KA0 ⊢
  generalize hh_A : w.heap.size = g_A at KA0 ⊢
  have l_A : w.heap.size ≤ g_A := by omega
  clear hh_A
  have HLA := blk_load (P := Try.prog) 58 KA0.out Try.underlying58 rfl (by kernel_rfl)
  go_wp2_with (refine wpList_load_val rfl _ _ rfl _ _ rfl HLA ?_)
  clear HLA
  refine (szConn_any p q r st u d t f g h n y a cap rs fi z wi mo m c k s v x ti tr 1048576 _ ((HA.out.below B0.out).mono B0.out.size) hdA.out hyA.out hmA.out hgA.out (by omega) (by omega)).mono ?_
  rintro e v1 ⟨hb, qA, rfl, hqA, hrA⟩
  have B1 := Lib.hid (B0.out.trans (hb.mono B0.out.size))
  have KA1 := Lib.hid (KA0.out.below hb)
  clear hb B0 KA0
  replace hrA := Lib.hid hrA
  by_cases hzA : qA < 0
  case pos =>
    clear hrA
    go_wp2_with fail
    go_ret
    exact ⟨rfl, B1.out⟩
  have hsA := hrA.out (by omega)
  have HLA := Lib.hid (show rs.length ≤ 1048576 by omega)
  have HBA := Lib.hid (show RB y rs from ⟨by omega, by omega, fun r hr => by have := plens_mem rs r hr; omega⟩)
  have HYA := Lib.hid (show y.size ≤ 1048576 by omega)
  replace hsA := Lib.hid hsA
  clear hrA
  have CS := fun gg w (hk : Row w w.heap.size (some ⟨gg, 0, none⟩) (hps rs)) => connOkS p q r st u d t f g h n y (some ⟨gg, 0, none⟩) rs.length rs fi z wi mo m c k s v x ti tr HBA.out w hk
  have CI := fun gg w (hk : Row w w.heap.size (some ⟨gg, 0, none⟩) (hps rs)) => connOkI p q r st u d t f g h n y (some ⟨gg, 0, none⟩) rs.length rs fi z wi mo m c k s v x ti tr HBA.out w hk
  generalize cnOk ⟨p, q, r, st, ⟨u, d, t, f, g, h⟩, ⟨n, y, rs, fi, z⟩, wi, mo, ⟨m, c, k, s, v, x⟩, ti, tr⟩ = ko at CS CI
  replace CS := Lib.hid CS
  replace CI := Lib.hid CI
  have HLA := blk_load (P := Try.prog) 58 KA1.out Try.underlying58 rfl (by kernel_rfl)
  go_wp2_with (refine wpList_load_val rfl _ _ rfl _ _ rfl HLA ?_)
  clear HLA
  refine (toConn_any p q r st u d t f g h n y a cap rs fi z wi mo m c k s v x ti tr _ ((HA.out.below B1.out).mono B1.out.size) HLA.out).mono ?_
  rintro e v2 ⟨g_t, rfl, ho_t, hb⟩
  have n_A_t : g_A ≠ g_t := by have h1 := KA1.out.lt; have h2 := (ho_t.lt g_t rfl).1; omega
  have l_t : w.heap.size ≤ g_t := Nat.le_trans B1.out.size (ho_t.lt g_t rfl).1
  have B2 := Lib.hid (B1.out.trans (hb.mono B1.out.size))
  have KA2 := Lib.hid (KA1.out.below hb)
  have Ot2 := Lib.hid (own_down ho_t (Nat.zero_le _))
  clear hb B1 KA1 ho_t
  go_wp2_with fail
  refine (CS.out g_t _ (Row.ownK Ot2.out)).mono ?_
  rintro e v3 ⟨rfl, hb⟩
  have B3 := Lib.hid (B2.out.trans (hb.mono B2.out.size))
  have KA3 := Lib.hid (KA2.out.below hb)
  have Ot3 := Lib.hid (Ot2.out.kept (below_any (row := none) hb) (.inr (by simp [Value.ownBlock])))
  clear hb B2 KA2 Ot2
  have HLA := blk_load (P := Try.prog) 58 KA3.out Try.underlying58 rfl (by kernel_rfl)
  go_wp2_with (refine wpList_load_val rfl _ _ rfl _ _ rfl HLA ?_)
  clear HLA
  refine (toConn_any p q r st u d t f g h n y a cap rs fi z wi mo m c k s v x ti tr _ ((HA.out.below B3.out).mono B3.out.size) HLA.out).mono ?_
  rintro e v4 ⟨g_x, rfl, ho_x, hb⟩
  have n_A_x : g_A ≠ g_x := by have h1 := KA3.out.lt; have h2 := (ho_x.lt g_x rfl).1; omega
  have n_t_x : g_t ≠ g_x := by have h1 := (Ot3.out.lt g_t rfl).2; have h2 := (ho_x.lt g_x rfl).1; omega
  have l_x : w.heap.size ≤ g_x := Nat.le_trans B3.out.size (ho_x.lt g_x rfl).1
  have B4 := Lib.hid (B3.out.trans (hb.mono B3.out.size))
  have KA4 := Lib.hid (KA3.out.below hb)
  have Ot4 := Lib.hid (Ot3.out.kept (below_any (row := none) hb) (.inr (by simp [Value.ownBlock])))
  have Ox4 := Lib.hid (own_down ho_x (Nat.zero_le _))
  clear hb B3 KA3 Ot3 ho_x
  have KXn := Lib.hid (Blk.new v4 [.int .i64 p, .int .i64 q, .int .i64 r, .int .i64 st, .int .i64 u, .string d, .int .i64 t, .bool f, .bool g, .bool h, .int .i64 n, .string y, .slice (some ⟨g_x, 0, none⟩) rs.length rs.length, .int .i64 fi, .bool z, .int .i64 wi, .int .i64 mo, .int .i64 m, .int .i64 c, .bool k, .bool s, .int .i64 v, .int .i64 x, .int .i64 ti, .int .i64 tr] 36)
  have l_X : w.heap.size ≤ v4.heap.size := B4.out.size
  have n_A_X : g_A ≠ v4.heap.size := by have h1 := KA4.out.lt; omega
  have n_t_X : g_t ≠ v4.heap.size := by have h1 := (Ot4.out.lt g_t rfl).2; omega
  have n_x_X : g_x ≠ v4.heap.size := by have h1 := (Ox4.out.lt g_x rfl).2; omega
  have Bn := Lib.hid (B4.out.alloc B4.out.size (.cells #[.int .i64 p, .int .i64 q, .int .i64 r, .int .i64 st, .int .i64 u, .string d, .int .i64 t, .bool f, .bool g, .bool h, .int .i64 n, .string y, .slice (some ⟨g_x, 0, none⟩) rs.length rs.length, .int .i64 fi, .bool z, .int .i64 wi, .int .i64 mo, .int .i64 m, .int .i64 c, .bool k, .bool s, .int .i64 v, .int .i64 x, .int .i64 ti, .int .i64 tr] 36))
  have KAn := Lib.hid (KA4.out.alloc (.cells #[.int .i64 p, .int .i64 q, .int .i64 r, .int .i64 st, .int .i64 u, .string d, .int .i64 t, .bool f, .bool g, .bool h, .int .i64 n, .string y, .slice (some ⟨g_x, 0, none⟩) rs.length rs.length, .int .i64 fi, .bool z, .int .i64 wi, .int .i64 mo, .int .i64 m, .int .i64 c, .bool k, .bool s, .int .i64 v, .int .i64 x, .int .i64 ti, .int .i64 tr] 36))
  have Otn := Lib.hid (Ot4.out.alloc (.cells #[.int .i64 p, .int .i64 q, .int .i64 r, .int .i64 st, .int .i64 u, .string d, .int .i64 t, .bool f, .bool g, .bool h, .int .i64 n, .string y, .slice (some ⟨g_x, 0, none⟩) rs.length rs.length, .int .i64 fi, .bool z, .int .i64 wi, .int .i64 mo, .int .i64 m, .int .i64 c, .bool k, .bool s, .int .i64 v, .int .i64 x, .int .i64 ti, .int .i64 tr] 36))
  have Oxn := Lib.hid (Ox4.out.alloc (.cells #[.int .i64 p, .int .i64 q, .int .i64 r, .int .i64 st, .int .i64 u, .string d, .int .i64 t, .bool f, .bool g, .bool h, .int .i64 n, .string y, .slice (some ⟨g_x, 0, none⟩) rs.length rs.length, .int .i64 fi, .bool z, .int .i64 wi, .int .i64 mo, .int .i64 m, .int .i64 c, .bool k, .bool s, .int .i64 v, .int .i64 x, .int .i64 ti, .int .i64 tr] 36))
  clear B4 KA4 Ot4 Ox4
  have HLX := blk_load (P := Try.prog) 36 KXn.out Try.underlying36 rfl (by kernel_rfl)
  go_wp2_with (first | (refine wpList_store_new rfl _ _ _ rfl rfl rfl rfl rfl (by kernel_rfl) rfl ?_) | (refine wpList_load_val rfl _ _ rfl _ _ rfl HLX ?_))
  clear HLX
  change Calls _ _ _ (v4.alloc (.cells #[.int .i64 p, .int .i64 q, .int .i64 r, .int .i64 st, .int .i64 u, .string d, .int .i64 t, .bool f, .bool g, .bool h, .int .i64 n, .string y, .slice (some ⟨g_x, 0, none⟩) rs.length rs.length, .int .i64 fi, .bool z, .int .i64 wi, .int .i64 mo, .int .i64 m, .int .i64 c, .bool k, .bool s, .int .i64 v, .int .i64 x, .int .i64 ti, .int .i64 tr] 36)) _
  generalize v4.alloc (.cells #[.int .i64 p, .int .i64 q, .int .i64 r, .int .i64 st, .int .i64 u, .string d, .int .i64 t, .bool f, .bool g, .bool h, .int .i64 n, .string y, .slice (some ⟨g_x, 0, none⟩) rs.length rs.length, .int .i64 fi, .bool z, .int .i64 wi, .int .i64 mo, .int .i64 m, .int .i64 c, .bool k, .bool s, .int .i64 v, .int .i64 x, .int .i64 ti, .int .i64 tr] 36) = v5 at KXn Bn KAn Otn Oxn ⊢
  generalize v4.heap.size = g_X at KXn l_X n_A_X n_t_X n_x_X ⊢
  clear v4
  have KA5 := KAn
  clear KAn
  have KX5 := KXn
  clear KXn
  have Ot5 := Otn
  clear Otn
  have Ox5 := Oxn
  clear Oxn
  have B5 := Bn
  clear Bn
  refine (CI.out g_x _ (Row.ownK Ox5.out)).mono ?_
  rintro e v6 ⟨rfl, hb⟩
  have B6 := Lib.hid (B5.out.trans (hb.mono B5.out.size))
  have KA6 := Lib.hid (KA5.out.below hb)
  have KX6 := Lib.hid (KX5.out.below hb)
  have Ot6 := Lib.hid (Ot5.out.kept (below_any (row := none) hb) (.inr (by simp [Value.ownBlock])))
  have Ox6 := Lib.hid (Ox5.out.kept (below_any (row := none) hb) (.inr (by simp [Value.ownBlock])))
  clear hb B5 KA5 KX5 Ot5 Ox5
  cases ko
  case false =>
    go_wp2_with fail
    refine wp_region_noPanic ?_
    refine wp_region_held_drew (S := fun w' => Blk w' g_X [.int .i64 p, .int .i64 q, .int .i64 r, .int .i64 st, .int .i64 u, .string d, .int .i64 t, .bool f, .bool g, .bool h, .int .i64 n, .string y, .slice (some ⟨g_x, 0, none⟩) rs.length rs.length, .int .i64 fi, .bool z, .int .i64 wi, .int .i64 mo, .int .i64 m, .int .i64 c, .bool k, .bool s, .int .i64 v, .int .i64 x, .int .i64 ti, .int .i64 tr] ∧ Blk w' g_A [.int .i64 p, .int .i64 q, .int .i64 r, .int .i64 st, .int .i64 u, .string d, .int .i64 t, .bool f, .bool g, .bool h, .int .i64 n, .string y, .slice a rs.length cap, .int .i64 fi, .bool z, .int .i64 wi, .int .i64 mo, .int .i64 m, .int .i64 c, .bool k, .bool s, .int .i64 v, .int .i64 x, .int .i64 ti, .int .i64 tr]) (by kernel_rfl) ⟨KX6.out, KA6.out⟩ (fun hS => ?_)
    refine wpAnyH_take (i := 0) (v := .agg #[.int .i64 p, .int .i64 q, .int .i64 r, .int .i64 st, .int .i64 u, .string d, .int .i64 t, .bool f, .bool g, .bool h, .int .i64 n, .string y, .slice (some ⟨g_x, 0, none⟩) rs.length rs.length, .int .i64 fi, .bool z, .int .i64 wi, .int .i64 mo, .int .i64 m, .int .i64 c, .bool k, .bool s, .int .i64 v, .int .i64 x, .int .i64 ti, .int .i64 tr]) rfl (by kernel_rfl) (by kernel_rfl) (by kernel_rfl) (fun _ _ _ h => h) (yieldsIf_load_mid rfl 36 _ rfl g_X 0 rfl [.int .i64 p, .int .i64 q, .int .i64 r, .int .i64 st, .int .i64 u, .string d, .int .i64 t, .bool f, .bool g, .bool h, .int .i64 n, .string y, .slice (some ⟨g_x, 0, none⟩) rs.length rs.length, .int .i64 fi, .bool z, .int .i64 wi, .int .i64 mo, .int .i64 m, .int .i64 c, .bool k, .bool s, .int .i64 v, .int .i64 x, .int .i64 ti, .int .i64 tr] _ (fun w hS => (hS.1).range) Try.underlying36 rfl (by kernel_rfl)) hS ?_
    refine wpAnyH_take (i := 1) (v := .agg #[.int .i64 p, .int .i64 q, .int .i64 r, .int .i64 st, .int .i64 u, .string d, .int .i64 t, .bool f, .bool g, .bool h, .int .i64 n, .string y, .slice a rs.length cap, .int .i64 fi, .bool z, .int .i64 wi, .int .i64 mo, .int .i64 m, .int .i64 c, .bool k, .bool s, .int .i64 v, .int .i64 x, .int .i64 ti, .int .i64 tr]) rfl (by kernel_rfl) (by kernel_rfl) (by kernel_rfl) (fun _ _ _ h => h) (yieldsIf_load_mid rfl 58 _ rfl g_A 0 rfl [.int .i64 p, .int .i64 q, .int .i64 r, .int .i64 st, .int .i64 u, .string d, .int .i64 t, .bool f, .bool g, .bool h, .int .i64 n, .string y, .slice a rs.length cap, .int .i64 fi, .bool z, .int .i64 wi, .int .i64 mo, .int .i64 m, .int .i64 c, .bool k, .bool s, .int .i64 v, .int .i64 x, .int .i64 ti, .int .i64 tr] _ (fun w hS => (hS.2).range) Try.underlying58 rfl (by kernel_rfl)) hS ?_
    refine wpAnyH_ready (rs := [2]) (by kernel_rfl) (by simp) ?_
    refine AllReadyH.cons (i := 2) rfl (fun K hK => ?zr1) AllReadyH.nil
    rw [if_pos (by rfl)]
    go_simp
    clear hS
    refine (toConn_any p q r st u d t f g h n y a cap rs fi z wi mo m c k s v x ti tr _ ((HA.out.below B6.out.drew).mono B6.out.drew.size) HLA.out).mono ?_
    rintro e v7 ⟨g_zz, rfl, ho_zz, hb⟩
    replace hb := (Below.refl _ v6).drew.trans hb
    replace ho_zz := own_down ho_zz (show v6.heap.size ≤ v6.drew.heap.size from Nat.le_refl _)
    have n_A_zz : g_A ≠ g_zz := by have h1 := KA6.out.lt; have h2 := (ho_zz.lt g_zz rfl).1; omega
    have n_X_zz : g_X ≠ g_zz := by have h1 := KX6.out.lt; have h2 := (ho_zz.lt g_zz rfl).1; omega
    have n_t_zz : g_t ≠ g_zz := by have h1 := (Ot6.out.lt g_t rfl).2; have h2 := (ho_zz.lt g_zz rfl).1; omega
    have n_x_zz : g_x ≠ g_zz := by have h1 := (Ox6.out.lt g_x rfl).2; have h2 := (ho_zz.lt g_zz rfl).1; omega
    have l_zz : w.heap.size ≤ g_zz := Nat.le_trans B6.out.size (ho_zz.lt g_zz rfl).1
    have B7 := Lib.hid (B6.out.trans (hb.mono B6.out.size))
    have KA7 := Lib.hid (KA6.out.below hb)
    have KX7 := Lib.hid (KX6.out.below hb)
    have Ot7 := Lib.hid (Ot6.out.kept (below_any (row := none) hb) (.inr (by simp [Value.ownBlock])))
    have Ox7 := Lib.hid (Ox6.out.kept (below_any (row := none) hb) (.inr (by simp [Value.ownBlock])))
    have Ozz7 := Lib.hid (own_down ho_zz (Nat.zero_le _))
    clear hb B6 KA6 KX6 Ot6 Ox6 ho_zz
    refine hK.out _ _ ⟨KX7.out, KA7.out⟩ (fun hS => ?_)
    clear hK K
    refine wpAnyH_ready (rs := [3]) (by kernel_rfl) (by simp) ?_
    refine AllReadyH.cons (i := 3) rfl (fun K hK => ?zr2) AllReadyH.nil
    rw [if_pos (by rfl)]
    go_simp
    clear hS
    refine (eqConn_self p q r st u d t f g h n y (some ⟨g_x, 0, none⟩) rs.length rs fi z wi mo m c k s v x ti tr (some ⟨g_zz, 0, none⟩) rs.length _ (Row.ownK Ox7.out) (Row.ownK Ozz7.out) HLA.out).mono ?_
    rintro e v8 ⟨rfl, hb⟩
    have B8 := Lib.hid (B7.out.trans (hb.mono B7.out.size))
    have KA8 := Lib.hid (KA7.out.below hb)
    have KX8 := Lib.hid (KX7.out.below hb)
    have Ot8 := Lib.hid (Ot7.out.kept (below_any (row := none) hb) (.inr (by simp [Value.ownBlock])))
    have Ox8 := Lib.hid (Ox7.out.kept (below_any (row := none) hb) (.inr (by simp [Value.ownBlock])))
    have Ozz8 := Lib.hid (Ozz7.out.kept (below_any (row := none) hb) (.inr (by simp [Value.ownBlock])))
    clear hb B7 KA7 KX7 Ot7 Ox7 Ozz7
    refine hK.out _ _ ⟨KX8.out, KA8.out⟩ (fun hS => ?_)
    clear hK K
    refine wpAnyH_take (i := 4) (v := .bool false) rfl (by kernel_rfl) (by kernel_rfl) (by kernel_rfl) (fun _ _ _ h => h) (Or.inl ⟨rfl, by intro w hS; go_simp⟩) hS ?_
    refine wpAnyH_done (by kernel_rfl) ?_ _
    refine NoPanic.normal ?_
    go_wp2_with fail
    go_ret
    exact ⟨rfl, B8.out⟩
  case true =>
    go_wp2_with fail
    refine wp_region_noPanic ?_
    refine wp_region_held_drew (S := fun w' => Blk w' g_X [.int .i64 p, .int .i64 q, .int .i64 r, .int .i64 st, .int .i64 u, .string d, .int .i64 t, .bool f, .bool g, .bool h, .int .i64 n, .string y, .slice (some ⟨g_x, 0, none⟩) rs.length rs.length, .int .i64 fi, .bool z, .int .i64 wi, .int .i64 mo, .int .i64 m, .int .i64 c, .bool k, .bool s, .int .i64 v, .int .i64 x, .int .i64 ti, .int .i64 tr] ∧ Blk w' g_A [.int .i64 p, .int .i64 q, .int .i64 r, .int .i64 st, .int .i64 u, .string d, .int .i64 t, .bool f, .bool g, .bool h, .int .i64 n, .string y, .slice a rs.length cap, .int .i64 fi, .bool z, .int .i64 wi, .int .i64 mo, .int .i64 m, .int .i64 c, .bool k, .bool s, .int .i64 v, .int .i64 x, .int .i64 ti, .int .i64 tr]) (by kernel_rfl) ⟨KX6.out, KA6.out⟩ (fun hS => ?_)
    refine wpAnyH_take (i := 0) (v := .agg #[.int .i64 p, .int .i64 q, .int .i64 r, .int .i64 st, .int .i64 u, .string d, .int .i64 t, .bool f, .bool g, .bool h, .int .i64 n, .string y, .slice (some ⟨g_x, 0, none⟩) rs.length rs.length, .int .i64 fi, .bool z, .int .i64 wi, .int .i64 mo, .int .i64 m, .int .i64 c, .bool k, .bool s, .int .i64 v, .int .i64 x, .int .i64 ti, .int .i64 tr]) rfl (by kernel_rfl) (by kernel_rfl) (by kernel_rfl) (fun _ _ _ h => h) (yieldsIf_load_mid rfl 36 _ rfl g_X 0 rfl [.int .i64 p, .int .i64 q, .int .i64 r, .int .i64 st, .int .i64 u, .string d, .int .i64 t, .bool f, .bool g, .bool h, .int .i64 n, .string y, .slice (some ⟨g_x, 0, none⟩) rs.length rs.length, .int .i64 fi, .bool z, .int .i64 wi, .int .i64 mo, .int .i64 m, .int .i64 c, .bool k, .bool s, .int .i64 v, .int .i64 x, .int .i64 ti, .int .i64 tr] _ (fun w hS => (hS.1).range) Try.underlying36 rfl (by kernel_rfl)) hS ?_
    refine wpAnyH_take (i := 1) (v := .agg #[.int .i64 p, .int .i64 q, .int .i64 r, .int .i64 st, .int .i64 u, .string d, .int .i64 t, .bool f, .bool g, .bool h, .int .i64 n, .string y, .slice a rs.length cap, .int .i64 fi, .bool z, .int .i64 wi, .int .i64 mo, .int .i64 m, .int .i64 c, .bool k, .bool s, .int .i64 v, .int .i64 x, .int .i64 ti, .int .i64 tr]) rfl (by kernel_rfl) (by kernel_rfl) (by kernel_rfl) (fun _ _ _ h => h) (yieldsIf_load_mid rfl 58 _ rfl g_A 0 rfl [.int .i64 p, .int .i64 q, .int .i64 r, .int .i64 st, .int .i64 u, .string d, .int .i64 t, .bool f, .bool g, .bool h, .int .i64 n, .string y, .slice a rs.length cap, .int .i64 fi, .bool z, .int .i64 wi, .int .i64 mo, .int .i64 m, .int .i64 c, .bool k, .bool s, .int .i64 v, .int .i64 x, .int .i64 ti, .int .i64 tr] _ (fun w hS => (hS.2).range) Try.underlying58 rfl (by kernel_rfl)) hS ?_
    refine wpAnyH_ready (rs := [2]) (by kernel_rfl) (by simp) ?_
    refine AllReadyH.cons (i := 2) rfl (fun K hK => ?zr3) AllReadyH.nil
    rw [if_pos (by rfl)]
    go_simp
    clear hS
    refine (toConn_any p q r st u d t f g h n y a cap rs fi z wi mo m c k s v x ti tr _ ((HA.out.below B6.out.drew).mono B6.out.drew.size) HLA.out).mono ?_
    rintro e v7 ⟨g_zz, rfl, ho_zz, hb⟩
    replace hb := (Below.refl _ v6).drew.trans hb
    replace ho_zz := own_down ho_zz (show v6.heap.size ≤ v6.drew.heap.size from Nat.le_refl _)
    have n_A_zz : g_A ≠ g_zz := by have h1 := KA6.out.lt; have h2 := (ho_zz.lt g_zz rfl).1; omega
    have n_X_zz : g_X ≠ g_zz := by have h1 := KX6.out.lt; have h2 := (ho_zz.lt g_zz rfl).1; omega
    have n_t_zz : g_t ≠ g_zz := by have h1 := (Ot6.out.lt g_t rfl).2; have h2 := (ho_zz.lt g_zz rfl).1; omega
    have n_x_zz : g_x ≠ g_zz := by have h1 := (Ox6.out.lt g_x rfl).2; have h2 := (ho_zz.lt g_zz rfl).1; omega
    have l_zz : w.heap.size ≤ g_zz := Nat.le_trans B6.out.size (ho_zz.lt g_zz rfl).1
    have B7 := Lib.hid (B6.out.trans (hb.mono B6.out.size))
    have KA7 := Lib.hid (KA6.out.below hb)
    have KX7 := Lib.hid (KX6.out.below hb)
    have Ot7 := Lib.hid (Ot6.out.kept (below_any (row := none) hb) (.inr (by simp [Value.ownBlock])))
    have Ox7 := Lib.hid (Ox6.out.kept (below_any (row := none) hb) (.inr (by simp [Value.ownBlock])))
    have Ozz7 := Lib.hid (own_down ho_zz (Nat.zero_le _))
    clear hb B6 KA6 KX6 Ot6 Ox6 ho_zz
    refine hK.out _ _ ⟨KX7.out, KA7.out⟩ (fun hS => ?_)
    clear hK K
    refine wpAnyH_ready (rs := [3]) (by kernel_rfl) (by simp) ?_
    refine AllReadyH.cons (i := 3) rfl (fun K hK => ?zr4) AllReadyH.nil
    rw [if_pos (by rfl)]
    go_simp
    clear hS
    refine (eqConn_self p q r st u d t f g h n y (some ⟨g_x, 0, none⟩) rs.length rs fi z wi mo m c k s v x ti tr (some ⟨g_zz, 0, none⟩) rs.length _ (Row.ownK Ox7.out) (Row.ownK Ozz7.out) HLA.out).mono ?_
    rintro e v8 ⟨rfl, hb⟩
    have B8 := Lib.hid (B7.out.trans (hb.mono B7.out.size))
    have KA8 := Lib.hid (KA7.out.below hb)
    have KX8 := Lib.hid (KX7.out.below hb)
    have Ot8 := Lib.hid (Ot7.out.kept (below_any (row := none) hb) (.inr (by simp [Value.ownBlock])))
    have Ox8 := Lib.hid (Ox7.out.kept (below_any (row := none) hb) (.inr (by simp [Value.ownBlock])))
    have Ozz8 := Lib.hid (Ozz7.out.kept (below_any (row := none) hb) (.inr (by simp [Value.ownBlock])))
    clear hb B7 KA7 KX7 Ot7 Ox7 Ozz7
    refine hK.out _ _ ⟨KX8.out, KA8.out⟩ (fun hS => ?_)
    clear hK K
    refine wpAnyH_take (i := 4) (v := .bool false) rfl (by kernel_rfl) (by kernel_rfl) (by kernel_rfl) (fun _ _ _ h => h) (Or.inl ⟨rfl, by intro w hS; go_simp⟩) hS ?_
    refine wpAnyH_done (by kernel_rfl) ?_ _
    refine NoPanic.normal ?_
    go_wp2_with fail
    go_ret
    exact ⟨rfl, B8.out⟩

theorem walk {w : World} (p q r st u : Int) (d : ByteArray) (t : Int) (f g h : Bool) (n : Int) (y : ByteArray) (a : Option Addr) (len cap : Nat) (rs : List HP) (fi : Int) (z : Bool) (wi mo m c : Int) (k s : Bool) (v x ti tr : Int) (hA : LawC w d y a len cap rs) : Calls Try.prog 5 #[.agg #[.int .i64 p, .int .i64 q, .int .i64 r, .int .i64 st, .int .i64 u, .string d, .int .i64 t, .bool f, .bool g, .bool h, .int .i64 n, .string y, .slice a len cap, .int .i64 fi, .bool z, .int .i64 wi, .int .i64 mo, .int .i64 m, .int .i64 c, .bool k, .bool s, .int .i64 v, .int .i64 x, .int .i64 ti, .int .i64 tr]] w (OkB w) := by
  obtain ⟨hdA, hyA, ⟨rfl, a1A, a2A, a3A⟩, hrowA⟩ := hA
  exact go p q r st u d t f g h n y a cap rs fi z wi mo m c k s v x ti tr w hrowA hdA hyA (Nat.le_trans a1A a2A) (fun r hr => (a3A r hr).2)
theorem own : ownKnob Try.prog.godebug = none := by kernel_rfl
theorem laidOut : laidOutB Try.prog = true := by kernel_rfl

set_option maxHeartbeats 8000000 in
set_option maxRecDepth 100000 in
theorem lifted (os : Os) (started : os.Started) (H : Type) (enc : TypeId × Value → H) :
    ReturnsInHanded {} Try.checked os 5 .any (Rows.fnExactConnOkSpec.pre6 enc Try.prog Try.f5 Rows.fnExactConnOkRow.domain false) (Rows.fnExactConnOkSpec.post enc Try.prog Try.f5 false true false false) := by
  refine returnsInHanded_of_change (C := Try.checked) own started (by kernel_rfl) Try.func5
    (ChangeSpec.witness6 (enc := enc) (C := Try.checked) false ⟨#[], #[.agg #[.int .i64 0, .int .i64 0, .int .i64 0, .int .i64 0, .int .i64 0, .string ByteArray.empty, .int .i64 0, .bool false, .bool false, .bool false, .int .i64 0, .string ByteArray.empty, .slice none 0 0, .int .i64 0, .bool false, .int .i64 0, .int .i64 0, .int .i64 0, .int .i64 0, .bool false, .bool false, .int .i64 0, .int .i64 0, .int .i64 0, .int .i64 0]], []⟩ 8 (by kernel_rfl) (by kernel_rfl) (by kernel_rfl) (by kernel_rfl)) ?_
  intro W base args ds gs before hval0 hW _ _
  have hval : ∀ (j : Nat) t v, Try.f5.params[j]? = some t → args[j]? = some v → Value.okWide Try.prog W .any base t v := hval0
  have hW' := hW
  obtain ⟨p, q, hA0, hV, rfl, _, _⟩ := hW
  have hA : DataW.TrodAll enc Try.prog W 0 (fun _ => true) true Try.f5.params.toList args.toList ds p := hA0
  rw [Try.params5] at hA hval
  obtain ⟨v0, vs0, d0, ds0, p0, q0, hargs, rfl, rfl, h0, r0⟩ := trodAll_cons hA
  obtain ⟨rfl, rfl, rfl⟩ := trodAll_nil r0
  obtain rfl : args = #[v0] := by cases args; simp_all
  obtain ⟨rfl, rfl⟩ := trodVars_none hV
  have k0 := h0
  have lt0 : ∀ x ∈ p0, x.block < W.heap.size := by obtain ⟨m, hm⟩ := k0; exact DataW.trod_lt m _ _ _ hm
  obtain ⟨xp0, xq0, xr0, xst0, xu0, xd0, xt0, xf0, xg0, xh0, xn0, xy0, xa0, xlen0, xcap0, xrs0, xfi0, xz0, xwi0, xmo0, xm0, xc0, xk0, xs0, xv0, xx0, xti0, xtr0, rfl, w0⟩ := argConn (hval 0 58 v0 rfl rfl) h0
  clear hA0 hval0
  refine (walk xp0 xq0 xr0 xst0 xu0 xd0 xt0 xf0 xg0 xh0 xn0 xy0 xa0 xlen0 xcap0 xrs0 xfi0 xz0 xwi0 xmo0 xm0 xc0 xk0 xs0 xv0 xx0 xti0 xtr0 w0).mono fun e W' ⟨he, bel⟩ => ?_
  subst he
  exact ⟨_, rfl, _, _, _, [], _, [], hW', trodAll_mk1 (shut_bool Try.underlying4 _), (trodAll_cons_mk (Below.trod laidOut (by kernel_rfl) (of_decide_eq_true (by kernel_rfl)) k0 bel lt0) trodAll_mk0), rfl, bel.frame _, fun h => by cases h⟩

theorem over : Rows.fnExactConnOkRow.holds Try.pinned (OpenSpec.ofChange Rows.fnExactConnOkSpec) :=
  OpenClaim.holds_of_wide 5 Try.f5 rfl rfl rfl rfl rfl rfl rfl ⟨rfl, rfl, rfl, rfl, rfl⟩ rfl rfl rfl rfl rfl (by kernel_rfl) Try.func5 (by kernel_rfl)
    (of_decide_eq_true (by kernel_rfl)) (by unfold Func.isWrapper; first | (rw [if_pos (by decide +kernel)]; kernel_rfl) | (rw [if_neg (by decide +kernel)]; exact ⟨rfl, rfl⟩))
    (fun os started H enc _ => lifted os started H enc)

theorem proved : Rows.FnExactConnOkSaid := over
#print axioms proved
end Go.Proofs.Ytajekjjaaohbnaa.fnExactConnOk
