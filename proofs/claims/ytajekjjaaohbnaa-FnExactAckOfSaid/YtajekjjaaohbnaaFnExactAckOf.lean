/- The law FnExactAckOf holds for every argument (up to the law's own measure of 1048576 pieces and bytes; past it the law itself answers true): impl's AckOf answers as the model's and leaves its argument. No condition. -/
import Derived.Test.YtajekjjaaohbnaaRows
import Derived.Test.YtajekjjaaohbnaaConnAck
import Derived.Test.YtajekjjaaohbnaaSegmentEq
import Derived.Test.YtajekjjaaohbnaaConnLaw
import Derived.Test.YtajekjjaaohbnaaArgConn
import Derived.Test.YtajekjjaaohbnaaBulk
import Derived.Deep.RegionHeld3
import Derived.ProofKit
import Derived.OpenShut
import Derived.ShutString
import Derived.ChangeSame
namespace Go.Proofs.Ytajekjjaaohbnaa.fnExactAckOf
open Go.ChangeShapes Go.WideShapes Go.ChangeAt Go.RowKit Go.Lib
open Go.ChangeMaps (open_string shut_string)

/-- The law's word: true, and what lay before the call lies as it lay. -/
def OkB (w : World) (e : Ending) (w' : World) : Prop := e = .returned (.bool true) ∧ Below w.heap.size w w'

set_option maxRecDepth 100000 in
set_option maxHeartbeats 16000000 in
theorem go (p q r st u : Int) (d : ByteArray) (t : Int) (f g h : Bool) (n : Int) (y : ByteArray) (a : Option Addr) (cap : Nat) (rs : List HP) (fi : Int) (z : Bool) (wi mo m c : Int) (k s : Bool) (v x ti tr : Int) (w : World) (hrowA : Row w w.heap.size a (hps rs)) (hdA : d.size ≤ maxLen) (hyA : y.size ≤ maxLen) (hmA : rs.length ≤ maxLen) (hgA : ∀ r ∈ rs, r.t.size ≤ maxLen) :
    Calls Try.prog 7 #[.agg #[.int .i64 p, .int .i64 q, .int .i64 r, .int .i64 st, .int .i64 u, .string d, .int .i64 t, .bool f, .bool g, .bool h, .int .i64 n, .string y, .slice a rs.length cap, .int .i64 fi, .bool z, .int .i64 wi, .int .i64 mo, .int .i64 m, .int .i64 c, .bool k, .bool s, .int .i64 v, .int .i64 x, .int .i64 ti, .int .i64 tr]] w (OkB w) := by
  have HA := Lib.hid hrowA
  replace hdA := Lib.hid hdA
  replace hyA := Lib.hid hyA
  replace hmA := Lib.hid hmA
  replace hgA := Lib.hid hgA
  clear hrowA
  go_enter Try.func7, Try.ntmps7
  have B0 := Lib.hid (show Below w.heap.size w (w.alloc (.cells #[.int .i64 p, .int .i64 q, .int .i64 r, .int .i64 st, .int .i64 u, .string d, .int .i64 t, .bool f, .bool g, .bool h, .int .i64 n, .string y, .slice a rs.length cap, .int .i64 fi, .bool z, .int .i64 wi, .int .i64 mo, .int .i64 m, .int .i64 c, .bool k, .bool s, .int .i64 v, .int .i64 x, .int .i64 ti, .int .i64 tr] 58)) from ((Below.refl _ w).alloc (by simp) _))
  have KA0 := Lib.hid (show Blk (w.alloc (.cells #[.int .i64 p, .int .i64 q, .int .i64 r, .int .i64 st, .int .i64 u, .string d, .int .i64 t, .bool f, .bool g, .bool h, .int .i64 n, .string y, .slice a rs.length cap, .int .i64 fi, .bool z, .int .i64 wi, .int .i64 mo, .int .i64 m, .int .i64 c, .bool k, .bool s, .int .i64 v, .int .i64 x, .int .i64 ti, .int .i64 tr] 58)) (w.heap.size) [.int .i64 p, .int .i64 q, .int .i64 r, .int .i64 st, .int .i64 u, .string d, .int .i64 t, .bool f, .bool g, .bool h, .int .i64 n, .string y, .slice a rs.length cap, .int .i64 fi, .bool z, .int .i64 wi, .int .i64 mo, .int .i64 m, .int .i64 c, .bool k, .bool s, .int .i64 v, .int .i64 x, .int .i64 ti, .int .i64 tr] from Blk.new w [.int .i64 p, .int .i64 q, .int .i64 r, .int .i64 st, .int .i64 u, .string d, .int .i64 t, .bool f, .bool g, .bool h, .int .i64 n, .string y, .slice a rs.length cap, .int .i64 fi, .bool z, .int .i64 wi, .int .i64 mo, .int .i64 m, .int .i64 c, .bool k, .bool s, .int .i64 v, .int .i64 x, .int .i64 ti, .int .i64 tr] 58)
  go_upto_region 2 with fail
  generalize w.alloc (.cells #[.int .i64 p, .int .i64 q, .int .i64 r, .int .i64 st, .int .i64 u, .string d, .int .i64 t, .bool f, .bool g, .bool h, .int .i64 n, .string y, .slice a rs.length cap, .int .i64 fi, .bool z, .int .i64 wi, .int .i64 mo, .int .i64 m, .int .i64 c, .bool k, .bool s, .int .i64 v, .int .i64 x, .int .i64 ti, .int .i64 tr] 58) = v0 at B0 KA0 ⊢
  generalize hh_A : w.heap.size = g_A at KA0 ⊢
  have l_A : w.heap.size ≤ g_A := by omega
  clear hh_A
  have HLA := blk_load (P := Try.prog) 58 KA0.out Try.underlying58 rfl (by kernel_rfl)
  go_wp2_with (refine wpList_load_val rfl _ _ rfl _ _ rfl HLA ?_)
  clear HLA
  refine (szConn_any p q r st u d t f g h n y a cap rs fi z wi mo m c k s v x ti tr 1048576 _ ((HA.out.below B0.out).mono B0.out.size) hdA.out hyA.out hmA.out hgA.out (by omega) (by omega)).mono ?_
  rintro e v1 ⟨hb, qA, rfl, hqA, hrA⟩
  have B1 := Lib.hid (B0.out.trans (hb.mono B0.out.size))
  have KA1 := Lib.hid (KA0.out.below hb)
  clear hb B0 KA0
  replace hrA := Lib.hid hrA
  by_cases hzA : qA < 0
  case pos =>
    clear hrA
    go_wp2_with fail
    go_ret
    exact ⟨rfl, B1.out⟩
  have hsA := hrA.out (by omega)
  have HLA := Lib.hid (show rs.length ≤ 1048576 by omega)
  have HBA := Lib.hid (show RB y rs from ⟨by omega, by omega, fun r hr => by have := plens_mem rs r hr; omega⟩)
  have HYA := Lib.hid (show y.size ≤ 1048576 by omega)
  replace hsA := Lib.hid hsA
  clear hrA
  have CS := fun gg w => ackOfS p q r st u d t f g h n y (some ⟨gg, 0, none⟩) rs.length rs fi z wi mo m c k s v x ti tr HYA.out w
  have CI := fun gg w => ackOfI p q r st u d t f g h n y (some ⟨gg, 0, none⟩) rs.length rs fi z wi mo m c k s v x ti tr HYA.out w
  generalize nxt u t g = a1 at CS CI
  generalize win y z = a2 at CS CI
  replace CS := Lib.hid CS
  replace CI := Lib.hid CI
  have HLA := blk_load (P := Try.prog) 58 KA1.out Try.underlying58 rfl (by kernel_rfl)
  go_wp2_with (refine wpList_load_val rfl _ _ rfl _ _ rfl HLA ?_)
  clear HLA
  refine (toConn_any p q r st u d t f g h n y a cap rs fi z wi mo m c k s v x ti tr _ ((HA.out.below B1.out).mono B1.out.size) HLA.out).mono ?_
  rintro e v2 ⟨g_t, rfl, ho_t, hb⟩
  have n_A_t : g_A ≠ g_t := by have h1 := KA1.out.lt; have h2 := (ho_t.lt g_t rfl).1; omega
  have l_t : w.heap.size ≤ g_t := Nat.le_trans B1.out.size (ho_t.lt g_t rfl).1
  have B2 := Lib.hid (B1.out.trans (hb.mono B1.out.size))
  have KA2 := Lib.hid (KA1.out.below hb)
  have Ot2 := Lib.hid (own_down ho_t (Nat.zero_le _))
  clear hb B1 KA1 ho_t
  go_wp2_with fail
  refine (CS.out g_t _).mono ?_
  rintro e v3 ⟨rfl, hb⟩
  have B3 := Lib.hid (B2.out.trans (hb.mono B2.out.size))
  have KA3 := Lib.hid (KA2.out.below hb)
  have Ot3 := Lib.hid (Ot2.out.kept (below_any (row := none) hb) (.inr (by simp [Value.ownBlock])))
  clear hb B2 KA2 Ot2
  have KWn := Lib.hid (Blk.new v3 [.int .i64 r, .int .i64 q, .int .i64 a1, .int .i64 n, .int .i64 16, .int .i64 a2, .int .i64 0, .int .i64 (-1), .bool false, .bool false, .int .i64 0, .int .i64 0, .string ⟨#[]⟩] 40)
  have l_W : w.heap.size ≤ v3.heap.size := B3.out.size
  have n_A_W : g_A ≠ v3.heap.size := by have h1 := KA3.out.lt; omega
  have n_t_W : g_t ≠ v3.heap.size := by have h1 := (Ot3.out.lt g_t rfl).2; omega
  have Bn := Lib.hid (B3.out.alloc B3.out.size (.cells #[.int .i64 r, .int .i64 q, .int .i64 a1, .int .i64 n, .int .i64 16, .int .i64 a2, .int .i64 0, .int .i64 (-1), .bool false, .bool false, .int .i64 0, .int .i64 0, .string ⟨#[]⟩] 40))
  have KAn := Lib.hid (KA3.out.alloc (.cells #[.int .i64 r, .int .i64 q, .int .i64 a1, .int .i64 n, .int .i64 16, .int .i64 a2, .int .i64 0, .int .i64 (-1), .bool false, .bool false, .int .i64 0, .int .i64 0, .string ⟨#[]⟩] 40))
  have Otn := Lib.hid (Ot3.out.alloc (.cells #[.int .i64 r, .int .i64 q, .int .i64 a1, .int .i64 n, .int .i64 16, .int .i64 a2, .int .i64 0, .int .i64 (-1), .bool false, .bool false, .int .i64 0, .int .i64 0, .string ⟨#[]⟩] 40))
  clear B3 KA3 Ot3
  have HLA := blk_load (P := Try.prog) 58 KAn.out Try.underlying58 rfl (by kernel_rfl)
  go_wp2_with (first | (refine wpList_store_new rfl _ _ _ rfl rfl rfl rfl rfl (by kernel_rfl) rfl ?_) | (refine wpList_load_val rfl _ _ rfl _ _ rfl HLA ?_))
  clear HLA
  change Calls _ _ _ (v3.alloc (.cells #[.int .i64 r, .int .i64 q, .int .i64 a1, .int .i64 n, .int .i64 16, .int .i64 a2, .int .i64 0, .int .i64 (-1), .bool false, .bool false, .int .i64 0, .int .i64 0, .string ⟨#[]⟩] 40)) _
  generalize v3.alloc (.cells #[.int .i64 r, .int .i64 q, .int .i64 a1, .int .i64 n, .int .i64 16, .int .i64 a2, .int .i64 0, .int .i64 (-1), .bool false, .bool false, .int .i64 0, .int .i64 0, .string ⟨#[]⟩] 40) = v4 at KWn Bn KAn Otn ⊢
  generalize v3.heap.size = g_W at KWn l_W n_A_W n_t_W ⊢
  clear v3
  have KA4 := KAn
  clear KAn
  have KW4 := KWn
  clear KWn
  have Ot4 := Otn
  clear Otn
  have B4 := Bn
  clear Bn
  refine (toConn_any p q r st u d t f g h n y a cap rs fi z wi mo m c k s v x ti tr _ ((HA.out.below B4.out).mono B4.out.size) HLA.out).mono ?_
  rintro e v5 ⟨g_x, rfl, ho_x, hb⟩
  have n_A_x : g_A ≠ g_x := by have h1 := KA4.out.lt; have h2 := (ho_x.lt g_x rfl).1; omega
  have n_W_x : g_W ≠ g_x := by have h1 := KW4.out.lt; have h2 := (ho_x.lt g_x rfl).1; omega
  have n_t_x : g_t ≠ g_x := by have h1 := (Ot4.out.lt g_t rfl).2; have h2 := (ho_x.lt g_x rfl).1; omega
  have l_x : w.heap.size ≤ g_x := Nat.le_trans B4.out.size (ho_x.lt g_x rfl).1
  have B5 := Lib.hid (B4.out.trans (hb.mono B4.out.size))
  have KA5 := Lib.hid (KA4.out.below hb)
  have KW5 := Lib.hid (KW4.out.below hb)
  have Ot5 := Lib.hid (Ot4.out.kept (below_any (row := none) hb) (.inr (by simp [Value.ownBlock])))
  have Ox5 := Lib.hid (own_down ho_x (Nat.zero_le _))
  clear hb B4 KA4 KW4 Ot4 ho_x
  have KXn := Lib.hid (Blk.new v5 [.int .i64 p, .int .i64 q, .int .i64 r, .int .i64 st, .int .i64 u, .string d, .int .i64 t, .bool f, .bool g, .bool h, .int .i64 n, .string y, .slice (some ⟨g_x, 0, none⟩) rs.length rs.length, .int .i64 fi, .bool z, .int .i64 wi, .int .i64 mo, .int .i64 m, .int .i64 c, .bool k, .bool s, .int .i64 v, .int .i64 x, .int .i64 ti, .int .i64 tr] 36)
  have l_X : w.heap.size ≤ v5.heap.size := B5.out.size
  have n_A_X : g_A ≠ v5.heap.size := by have h1 := KA5.out.lt; omega
  have n_W_X : g_W ≠ v5.heap.size := by have h1 := KW5.out.lt; omega
  have n_t_X : g_t ≠ v5.heap.size := by have h1 := (Ot5.out.lt g_t rfl).2; omega
  have n_x_X : g_x ≠ v5.heap.size := by have h1 := (Ox5.out.lt g_x rfl).2; omega
  have Bn := Lib.hid (B5.out.alloc B5.out.size (.cells #[.int .i64 p, .int .i64 q, .int .i64 r, .int .i64 st, .int .i64 u, .string d, .int .i64 t, .bool f, .bool g, .bool h, .int .i64 n, .string y, .slice (some ⟨g_x, 0, none⟩) rs.length rs.length, .int .i64 fi, .bool z, .int .i64 wi, .int .i64 mo, .int .i64 m, .int .i64 c, .bool k, .bool s, .int .i64 v, .int .i64 x, .int .i64 ti, .int .i64 tr] 36))
  have KAn := Lib.hid (KA5.out.alloc (.cells #[.int .i64 p, .int .i64 q, .int .i64 r, .int .i64 st, .int .i64 u, .string d, .int .i64 t, .bool f, .bool g, .bool h, .int .i64 n, .string y, .slice (some ⟨g_x, 0, none⟩) rs.length rs.length, .int .i64 fi, .bool z, .int .i64 wi, .int .i64 mo, .int .i64 m, .int .i64 c, .bool k, .bool s, .int .i64 v, .int .i64 x, .int .i64 ti, .int .i64 tr] 36))
  have KWn := Lib.hid (KW5.out.alloc (.cells #[.int .i64 p, .int .i64 q, .int .i64 r, .int .i64 st, .int .i64 u, .string d, .int .i64 t, .bool f, .bool g, .bool h, .int .i64 n, .string y, .slice (some ⟨g_x, 0, none⟩) rs.length rs.length, .int .i64 fi, .bool z, .int .i64 wi, .int .i64 mo, .int .i64 m, .int .i64 c, .bool k, .bool s, .int .i64 v, .int .i64 x, .int .i64 ti, .int .i64 tr] 36))
  have Otn := Lib.hid (Ot5.out.alloc (.cells #[.int .i64 p, .int .i64 q, .int .i64 r, .int .i64 st, .int .i64 u, .string d, .int .i64 t, .bool f, .bool g, .bool h, .int .i64 n, .string y, .slice (some ⟨g_x, 0, none⟩) rs.length rs.length, .int .i64 fi, .bool z, .int .i64 wi, .int .i64 mo, .int .i64 m, .int .i64 c, .bool k, .bool s, .int .i64 v, .int .i64 x, .int .i64 ti, .int .i64 tr] 36))
  have Oxn := Lib.hid (Ox5.out.alloc (.cells #[.int .i64 p, .int .i64 q, .int .i64 r, .int .i64 st, .int .i64 u, .string d, .int .i64 t, .bool f, .bool g, .bool h, .int .i64 n, .string y, .slice (some ⟨g_x, 0, none⟩) rs.length rs.length, .int .i64 fi, .bool z, .int .i64 wi, .int .i64 mo, .int .i64 m, .int .i64 c, .bool k, .bool s, .int .i64 v, .int .i64 x, .int .i64 ti, .int .i64 tr] 36))
  clear B5 KA5 KW5 Ot5 Ox5
  have HLX := blk_load (P := Try.prog) 36 KXn.out Try.underlying36 rfl (by kernel_rfl)
  go_wp2_with (first | (refine wpList_store_new rfl _ _ _ rfl rfl rfl rfl rfl (by kernel_rfl) rfl ?_) | (refine wpList_load_val rfl _ _ rfl _ _ rfl HLX ?_))
  clear HLX
  change Calls _ _ _ (v5.alloc (.cells #[.int .i64 p, .int .i64 q, .int .i64 r, .int .i64 st, .int .i64 u, .string d, .int .i64 t, .bool f, .bool g, .bool h, .int .i64 n, .string y, .slice (some ⟨g_x, 0, none⟩) rs.length rs.length, .int .i64 fi, .bool z, .int .i64 wi, .int .i64 mo, .int .i64 m, .int .i64 c, .bool k, .bool s, .int .i64 v, .int .i64 x, .int .i64 ti, .int .i64 tr] 36)) _
  generalize v5.alloc (.cells #[.int .i64 p, .int .i64 q, .int .i64 r, .int .i64 st, .int .i64 u, .string d, .int .i64 t, .bool f, .bool g, .bool h, .int .i64 n, .string y, .slice (some ⟨g_x, 0, none⟩) rs.length rs.length, .int .i64 fi, .bool z, .int .i64 wi, .int .i64 mo, .int .i64 m, .int .i64 c, .bool k, .bool s, .int .i64 v, .int .i64 x, .int .i64 ti, .int .i64 tr] 36) = v6 at KXn Bn KAn KWn Otn Oxn ⊢
  generalize v5.heap.size = g_X at KXn l_X n_A_X n_W_X n_t_X n_x_X ⊢
  clear v5
  have KA6 := KAn
  clear KAn
  have KW6 := KWn
  clear KWn
  have KX6 := KXn
  clear KXn
  have Ot6 := Otn
  clear Otn
  have Ox6 := Oxn
  clear Oxn
  have B6 := Bn
  clear Bn
  refine (CI.out g_x _).mono ?_
  rintro e v7 ⟨rfl, hb⟩
  have B7 := Lib.hid (B6.out.trans (hb.mono B6.out.size))
  have KA7 := Lib.hid (KA6.out.below hb)
  have KW7 := Lib.hid (KW6.out.below hb)
  have KX7 := Lib.hid (KX6.out.below hb)
  have Ot7 := Lib.hid (Ot6.out.kept (below_any (row := none) hb) (.inr (by simp [Value.ownBlock])))
  have Ox7 := Lib.hid (Ox6.out.kept (below_any (row := none) hb) (.inr (by simp [Value.ownBlock])))
  clear hb B6 KA6 KW6 KX6 Ot6 Ox6
  have KGn := Lib.hid (Blk.new v7 [.int .i64 r, .int .i64 q, .int .i64 a1, .int .i64 n, .int .i64 16, .int .i64 a2, .int .i64 0, .int .i64 (-1), .bool false, .bool false, .int .i64 0, .int .i64 0, .string ⟨#[]⟩] 40)
  have l_G : w.heap.size ≤ v7.heap.size := B7.out.size
  have n_A_G : g_A ≠ v7.heap.size := by have h1 := KA7.out.lt; omega
  have n_W_G : g_W ≠ v7.heap.size := by have h1 := KW7.out.lt; omega
  have n_X_G : g_X ≠ v7.heap.size := by have h1 := KX7.out.lt; omega
  have n_t_G : g_t ≠ v7.heap.size := by have h1 := (Ot7.out.lt g_t rfl).2; omega
  have n_x_G : g_x ≠ v7.heap.size := by have h1 := (Ox7.out.lt g_x rfl).2; omega
  have Bn := Lib.hid (B7.out.alloc B7.out.size (.cells #[.int .i64 r, .int .i64 q, .int .i64 a1, .int .i64 n, .int .i64 16, .int .i64 a2, .int .i64 0, .int .i64 (-1), .bool false, .bool false, .int .i64 0, .int .i64 0, .string ⟨#[]⟩] 40))
  have KAn := Lib.hid (KA7.out.alloc (.cells #[.int .i64 r, .int .i64 q, .int .i64 a1, .int .i64 n, .int .i64 16, .int .i64 a2, .int .i64 0, .int .i64 (-1), .bool false, .bool false, .int .i64 0, .int .i64 0, .string ⟨#[]⟩] 40))
  have KWn := Lib.hid (KW7.out.alloc (.cells #[.int .i64 r, .int .i64 q, .int .i64 a1, .int .i64 n, .int .i64 16, .int .i64 a2, .int .i64 0, .int .i64 (-1), .bool false, .bool false, .int .i64 0, .int .i64 0, .string ⟨#[]⟩] 40))
  have KXn := Lib.hid (KX7.out.alloc (.cells #[.int .i64 r, .int .i64 q, .int .i64 a1, .int .i64 n, .int .i64 16, .int .i64 a2, .int .i64 0, .int .i64 (-1), .bool false, .bool false, .int .i64 0, .int .i64 0, .string ⟨#[]⟩] 40))
  have Otn := Lib.hid (Ot7.out.alloc (.cells #[.int .i64 r, .int .i64 q, .int .i64 a1, .int .i64 n, .int .i64 16, .int .i64 a2, .int .i64 0, .int .i64 (-1), .bool false, .bool false, .int .i64 0, .int .i64 0, .string ⟨#[]⟩] 40))
  have Oxn := Lib.hid (Ox7.out.alloc (.cells #[.int .i64 r, .int .i64 q, .int .i64 a1, .int .i64 n, .int .i64 16, .int .i64 a2, .int .i64 0, .int .i64 (-1), .bool false, .bool false, .int .i64 0, .int .i64 0, .string ⟨#[]⟩] 40))
  clear B7 KA7 KW7 KX7 Ot7 Ox7
  have HLG := blk_load (P := Try.prog) 40 KGn.out Try.underlying40 rfl (by kernel_rfl)
  have HLW := blk_load (P := Try.prog) 40 KWn.out Try.underlying40 rfl (by kernel_rfl)
  go_wp2_with (first | (refine wpList_store_new rfl _ _ _ rfl rfl rfl rfl rfl (by kernel_rfl) rfl ?_) | (refine wpList_load_val rfl _ _ rfl _ _ rfl HLG ?_) | (refine wpList_load_val rfl _ _ rfl _ _ rfl HLW ?_))
  clear HLG HLW
  change Calls _ _ _ (v7.alloc (.cells #[.int .i64 r, .int .i64 q, .int .i64 a1, .int .i64 n, .int .i64 16, .int .i64 a2, .int .i64 0, .int .i64 (-1), .bool false, .bool false, .int .i64 0, .int .i64 0, .string ⟨#[]⟩] 40)) _
  generalize v7.alloc (.cells #[.int .i64 r, .int .i64 q, .int .i64 a1, .int .i64 n, .int .i64 16, .int .i64 a2, .int .i64 0, .int .i64 (-1), .bool false, .bool false, .int .i64 0, .int .i64 0, .string ⟨#[]⟩] 40) = v8 at KGn Bn KAn KWn KXn Otn Oxn ⊢
  generalize v7.heap.size = g_G at KGn l_G n_A_G n_W_G n_X_G n_t_G n_x_G ⊢
  clear v7
  have KA8 := KAn
  clear KAn
  have KW8 := KWn
  clear KWn
  have KX8 := KXn
  clear KXn
  have KG8 := KGn
  clear KGn
  have Ot8 := Otn
  clear Otn
  have Ox8 := Oxn
  clear Oxn
  have B8 := Bn
  clear Bn
  refine (eqSegment_self r q a1 n 16 a2 0 (-1) false false 0 0 ⟨#[]⟩ _).mono ?_
  rintro e v9 ⟨rfl, hb⟩
  have B9 := Lib.hid (B8.out.trans (hb.mono B8.out.size))
  have KA9 := Lib.hid (KA8.out.below hb)
  have KW9 := Lib.hid (KW8.out.below hb)
  have KX9 := Lib.hid (KX8.out.below hb)
  have KG9 := Lib.hid (KG8.out.below hb)
  have Ot9 := Lib.hid (Ot8.out.kept (below_any (row := none) hb) (.inr (by simp [Value.ownBlock])))
  have Ox9 := Lib.hid (Ox8.out.kept (below_any (row := none) hb) (.inr (by simp [Value.ownBlock])))
  clear hb B8 KA8 KW8 KX8 KG8 Ot8 Ox8
  go_wp2_with fail
  refine wp_region_noPanic ?_
  refine wp_region_held_drew (S := fun w' => Blk w' g_X [.int .i64 p, .int .i64 q, .int .i64 r, .int .i64 st, .int .i64 u, .string d, .int .i64 t, .bool f, .bool g, .bool h, .int .i64 n, .string y, .slice (some ⟨g_x, 0, none⟩) rs.length rs.length, .int .i64 fi, .bool z, .int .i64 wi, .int .i64 mo, .int .i64 m, .int .i64 c, .bool k, .bool s, .int .i64 v, .int .i64 x, .int .i64 ti, .int .i64 tr] ∧ Blk w' g_A [.int .i64 p, .int .i64 q, .int .i64 r, .int .i64 st, .int .i64 u, .string d, .int .i64 t, .bool f, .bool g, .bool h, .int .i64 n, .string y, .slice a rs.length cap, .int .i64 fi, .bool z, .int .i64 wi, .int .i64 mo, .int .i64 m, .int .i64 c, .bool k, .bool s, .int .i64 v, .int .i64 x, .int .i64 ti, .int .i64 tr]) (by kernel_rfl) ⟨KX9.out, KA9.out⟩ (fun hS => ?_)
  refine wpAnyH_take (i := 0) (v := .agg #[.int .i64 p, .int .i64 q, .int .i64 r, .int .i64 st, .int .i64 u, .string d, .int .i64 t, .bool f, .bool g, .bool h, .int .i64 n, .string y, .slice (some ⟨g_x, 0, none⟩) rs.length rs.length, .int .i64 fi, .bool z, .int .i64 wi, .int .i64 mo, .int .i64 m, .int .i64 c, .bool k, .bool s, .int .i64 v, .int .i64 x, .int .i64 ti, .int .i64 tr]) rfl (by kernel_rfl) (by kernel_rfl) (by kernel_rfl) (fun _ _ _ h => h) (yieldsIf_load_mid rfl 36 _ rfl g_X 0 rfl [.int .i64 p, .int .i64 q, .int .i64 r, .int .i64 st, .int .i64 u, .string d, .int .i64 t, .bool f, .bool g, .bool h, .int .i64 n, .string y, .slice (some ⟨g_x, 0, none⟩) rs.length rs.length, .int .i64 fi, .bool z, .int .i64 wi, .int .i64 mo, .int .i64 m, .int .i64 c, .bool k, .bool s, .int .i64 v, .int .i64 x, .int .i64 ti, .int .i64 tr] _ (fun w hS => (hS.1).range) Try.underlying36 rfl (by kernel_rfl)) hS ?_
  refine wpAnyH_take (i := 1) (v := .agg #[.int .i64 p, .int .i64 q, .int .i64 r, .int .i64 st, .int .i64 u, .string d, .int .i64 t, .bool f, .bool g, .bool h, .int .i64 n, .string y, .slice a rs.length cap, .int .i64 fi, .bool z, .int .i64 wi, .int .i64 mo, .int .i64 m, .int .i64 c, .bool k, .bool s, .int .i64 v, .int .i64 x, .int .i64 ti, .int .i64 tr]) rfl (by kernel_rfl) (by kernel_rfl) (by kernel_rfl) (fun _ _ _ h => h) (yieldsIf_load_mid rfl 58 _ rfl g_A 0 rfl [.int .i64 p, .int .i64 q, .int .i64 r, .int .i64 st, .int .i64 u, .string d, .int .i64 t, .bool f, .bool g, .bool h, .int .i64 n, .string y, .slice a rs.length cap, .int .i64 fi, .bool z, .int .i64 wi, .int .i64 mo, .int .i64 m, .int .i64 c, .bool k, .bool s, .int .i64 v, .int .i64 x, .int .i64 ti, .int .i64 tr] _ (fun w hS => (hS.2).range) Try.underlying58 rfl (by kernel_rfl)) hS ?_
  refine wpAnyH_ready (rs := [2]) (by kernel_rfl) (by simp) ?_
  refine AllReadyH.cons (i := 2) rfl (fun K hK => ?zr7) AllReadyH.nil
  rw [if_pos (by rfl)]
  go_simp
  clear hS
  refine (toConn_any p q r st u d t f g h n y a cap rs fi z wi mo m c k s v x ti tr _ ((HA.out.below B9.out.drew).mono B9.out.drew.size) HLA.out).mono ?_
  rintro e v10 ⟨g_zz, rfl, ho_zz, hb⟩
  replace hb := (Below.refl _ v9).drew.trans hb
  replace ho_zz := own_down ho_zz (show v9.heap.size ≤ v9.drew.heap.size from Nat.le_refl _)
  have n_A_zz : g_A ≠ g_zz := by have h1 := KA9.out.lt; have h2 := (ho_zz.lt g_zz rfl).1; omega
  have n_W_zz : g_W ≠ g_zz := by have h1 := KW9.out.lt; have h2 := (ho_zz.lt g_zz rfl).1; omega
  have n_X_zz : g_X ≠ g_zz := by have h1 := KX9.out.lt; have h2 := (ho_zz.lt g_zz rfl).1; omega
  have n_G_zz : g_G ≠ g_zz := by have h1 := KG9.out.lt; have h2 := (ho_zz.lt g_zz rfl).1; omega
  have n_t_zz : g_t ≠ g_zz := by have h1 := (Ot9.out.lt g_t rfl).2; have h2 := (ho_zz.lt g_zz rfl).1; omega
  have n_x_zz : g_x ≠ g_zz := by have h1 := (Ox9.out.lt g_x rfl).2; have h2 := (ho_zz.lt g_zz rfl).1; omega
  have l_zz : w.heap.size ≤ g_zz := Nat.le_trans B9.out.size (ho_zz.lt g_zz rfl).1
  have B10 := Lib.hid (B9.out.trans (hb.mono B9.out.size))
  have KA10 := Lib.hid (KA9.out.below hb)
  have KW10 := Lib.hid (KW9.out.below hb)
  have KX10 := Lib.hid (KX9.out.below hb)
  have KG10 := Lib.hid (KG9.out.below hb)
  have Ot10 := Lib.hid (Ot9.out.kept (below_any (row := none) hb) (.inr (by simp [Value.ownBlock])))
  have Ox10 := Lib.hid (Ox9.out.kept (below_any (row := none) hb) (.inr (by simp [Value.ownBlock])))
  have Ozz10 := Lib.hid (own_down ho_zz (Nat.zero_le _))
  clear hb B9 KA9 KW9 KX9 KG9 Ot9 Ox9 ho_zz
  refine hK.out _ _ ⟨KX10.out, KA10.out⟩ (fun hS => ?_)
  clear hK K
  refine wpAnyH_ready (rs := [3]) (by kernel_rfl) (by simp) ?_
  refine AllReadyH.cons (i := 3) rfl (fun K hK => ?zr8) AllReadyH.nil
  rw [if_pos (by rfl)]
  go_simp
  clear hS
  refine (eqConn_self p q r st u d t f g h n y (some ⟨g_x, 0, none⟩) rs.length rs fi z wi mo m c k s v x ti tr (some ⟨g_zz, 0, none⟩) rs.length _ (Row.ownK Ox10.out) (Row.ownK Ozz10.out) HLA.out).mono ?_
  rintro e v11 ⟨rfl, hb⟩
  have B11 := Lib.hid (B10.out.trans (hb.mono B10.out.size))
  have KA11 := Lib.hid (KA10.out.below hb)
  have KW11 := Lib.hid (KW10.out.below hb)
  have KX11 := Lib.hid (KX10.out.below hb)
  have KG11 := Lib.hid (KG10.out.below hb)
  have Ot11 := Lib.hid (Ot10.out.kept (below_any (row := none) hb) (.inr (by simp [Value.ownBlock])))
  have Ox11 := Lib.hid (Ox10.out.kept (below_any (row := none) hb) (.inr (by simp [Value.ownBlock])))
  have Ozz11 := Lib.hid (Ozz10.out.kept (below_any (row := none) hb) (.inr (by simp [Value.ownBlock])))
  clear hb B10 KA10 KW10 KX10 KG10 Ot10 Ox10 Ozz10
  refine hK.out _ _ ⟨KX11.out, KA11.out⟩ (fun hS => ?_)
  clear hK K
  refine wpAnyH_take (i := 4) (v := .bool false) rfl (by kernel_rfl) (by kernel_rfl) (by kernel_rfl) (fun _ _ _ h => h) (Or.inl ⟨rfl, by intro w hS; go_simp⟩) hS ?_
  refine wpAnyH_done (by kernel_rfl) ?_ _
  refine NoPanic.normal ?_
  go_wp2_with fail
  go_ret
  exact ⟨rfl, B11.out⟩

theorem walk {w : World} (p q r st u : Int) (d : ByteArray) (t : Int) (f g h : Bool) (n : Int) (y : ByteArray) (a : Option Addr) (len cap : Nat) (rs : List HP) (fi : Int) (z : Bool) (wi mo m c : Int) (k s : Bool) (v x ti tr : Int) (hA : LawC w d y a len cap rs) : Calls Try.prog 7 #[.agg #[.int .i64 p, .int .i64 q, .int .i64 r, .int .i64 st, .int .i64 u, .string d, .int .i64 t, .bool f, .bool g, .bool h, .int .i64 n, .string y, .slice a len cap, .int .i64 fi, .bool z, .int .i64 wi, .int .i64 mo, .int .i64 m, .int .i64 c, .bool k, .bool s, .int .i64 v, .int .i64 x, .int .i64 ti, .int .i64 tr]] w (OkB w) := by
  obtain ⟨hdA, hyA, ⟨rfl, a1A, a2A, a3A⟩, hrowA⟩ := hA
  exact go p q r st u d t f g h n y a cap rs fi z wi mo m c k s v x ti tr w hrowA hdA hyA (Nat.le_trans a1A a2A) (fun r hr => (a3A r hr).2)
theorem own : ownKnob Try.prog.godebug = none := by kernel_rfl
theorem laidOut : laidOutB Try.prog = true := by kernel_rfl

set_option maxHeartbeats 8000000 in
set_option maxRecDepth 100000 in
theorem lifted (os : Os) (started : os.Started) (H : Type) (enc : TypeId × Value → H) :
    ReturnsInHanded {} Try.checked os 7 .any (Rows.fnExactAckOfSpec.pre6 enc Try.prog Try.f7 Rows.fnExactAckOfRow.domain false) (Rows.fnExactAckOfSpec.post enc Try.prog Try.f7 false true false false) := by
  refine returnsInHanded_of_change (C := Try.checked) own started (by kernel_rfl) Try.func7
    (ChangeSpec.witness6 (enc := enc) (C := Try.checked) false ⟨#[], #[.agg #[.int .i64 0, .int .i64 0, .int .i64 0, .int .i64 0, .int .i64 0, .string ByteArray.empty, .int .i64 0, .bool false, .bool false, .bool false, .int .i64 0, .string ByteArray.empty, .slice none 0 0, .int .i64 0, .bool false, .int .i64 0, .int .i64 0, .int .i64 0, .int .i64 0, .bool false, .bool false, .int .i64 0, .int .i64 0, .int .i64 0, .int .i64 0]], []⟩ 8 (by kernel_rfl) (by kernel_rfl) (by kernel_rfl) (by kernel_rfl)) ?_
  intro W base args ds gs before hval0 hW _ _
  have hval : ∀ (j : Nat) t v, Try.f7.params[j]? = some t → args[j]? = some v → Value.okWide Try.prog W .any base t v := hval0
  have hW' := hW
  obtain ⟨p, q, hA0, hV, rfl, _, _⟩ := hW
  have hA : DataW.TrodAll enc Try.prog W 0 (fun _ => true) true Try.f7.params.toList args.toList ds p := hA0
  rw [Try.params7] at hA hval
  obtain ⟨v0, vs0, d0, ds0, p0, q0, hargs, rfl, rfl, h0, r0⟩ := trodAll_cons hA
  obtain ⟨rfl, rfl, rfl⟩ := trodAll_nil r0
  obtain rfl : args = #[v0] := by cases args; simp_all
  obtain ⟨rfl, rfl⟩ := trodVars_none hV
  have k0 := h0
  have lt0 : ∀ x ∈ p0, x.block < W.heap.size := by obtain ⟨m, hm⟩ := k0; exact DataW.trod_lt m _ _ _ hm
  obtain ⟨xp0, xq0, xr0, xst0, xu0, xd0, xt0, xf0, xg0, xh0, xn0, xy0, xa0, xlen0, xcap0, xrs0, xfi0, xz0, xwi0, xmo0, xm0, xc0, xk0, xs0, xv0, xx0, xti0, xtr0, rfl, w0⟩ := argConn (hval 0 58 v0 rfl rfl) h0
  clear hA0 hval0
  refine (walk xp0 xq0 xr0 xst0 xu0 xd0 xt0 xf0 xg0 xh0 xn0 xy0 xa0 xlen0 xcap0 xrs0 xfi0 xz0 xwi0 xmo0 xm0 xc0 xk0 xs0 xv0 xx0 xti0 xtr0 w0).mono fun e W' ⟨he, bel⟩ => ?_
  subst he
  exact ⟨_, rfl, _, _, _, [], _, [], hW', trodAll_mk1 (shut_bool Try.underlying4 _), (trodAll_cons_mk (Below.trod laidOut (by kernel_rfl) (of_decide_eq_true (by kernel_rfl)) k0 bel lt0) trodAll_mk0), rfl, bel.frame _, fun h => by cases h⟩

theorem over : Rows.fnExactAckOfRow.holds Try.pinned (OpenSpec.ofChange Rows.fnExactAckOfSpec) :=
  OpenClaim.holds_of_wide 7 Try.f7 rfl rfl rfl rfl rfl rfl rfl ⟨rfl, rfl, rfl, rfl, rfl⟩ rfl rfl rfl rfl rfl (by kernel_rfl) Try.func7 (by kernel_rfl)
    (of_decide_eq_true (by kernel_rfl)) (by unfold Func.isWrapper; first | (rw [if_pos (by decide +kernel)]; kernel_rfl) | (rw [if_neg (by decide +kernel)]; exact ⟨rfl, rfl⟩))
    (fun os started H enc _ => lifted os started H enc)

theorem proved : Rows.FnExactAckOfSaid := over
#print axioms proved
end Go.Proofs.Ytajekjjaaohbnaa.fnExactAckOf
