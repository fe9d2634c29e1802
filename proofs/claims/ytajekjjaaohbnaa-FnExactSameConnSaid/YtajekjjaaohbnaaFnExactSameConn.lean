/- The law FnExactSameConn holds for every argument (up to the law's own measure of 1048576 pieces and bytes; past it the law itself answers true): impl's SameConn answers as the model's and leaves its arguments. No condition. -/
import Derived.Test.YtajekjjaaohbnaaRows
import Derived.Test.YtajekjjaaohbnaaConnSameI
import Derived.Test.YtajekjjaaohbnaaConnSameS
import Derived.Test.YtajekjjaaohbnaaRcvOk
import Derived.Test.YtajekjjaaohbnaaConnLaw
import Derived.Test.YtajekjjaaohbnaaArgConn
import Derived.Test.YtajekjjaaohbnaaBulk
import Derived.Deep.RegionHeld3
import Derived.ProofKit
import Derived.OpenShut
import Derived.ShutString
import Derived.ChangeSame
namespace Go.Proofs.Ytajekjjaaohbnaa.fnExactSameConn
open Go.ChangeShapes Go.WideShapes Go.ChangeAt Go.RowKit Go.Lib
open Go.ChangeMaps (open_string shut_string)

/-- The law's word: true, and what lay before the call lies as it lay. -/
def OkB (w : World) (e : Ending) (w' : World) : Prop := e = .returned (.bool true) ∧ Below w.heap.size w w'

set_option maxRecDepth 100000 in
set_option maxHeartbeats 16000000 in
theorem go (p q r st u : Int) (d : ByteArray) (t : Int) (f g h : Bool) (n : Int) (y : ByteArray) (a : Option Addr) (cap : Nat) (rs : List HP) (fi : Int) (z : Bool) (wi mo m c : Int) (k s : Bool) (v x ti tr : Int) (p' q' r' st' u' : Int) (d' : ByteArray) (t' : Int) (f' g' h' : Bool) (n' : Int) (y' : ByteArray) (a' : Option Addr) (cap' : Nat) (rs' : List HP) (fi' : Int) (z' : Bool) (wi' mo' m' c' : Int) (k' s' : Bool) (v' x' ti' tr' : Int) (w : World) (hrowA : Row w w.heap.size a (hps rs)) (hdA : d.size ≤ maxLen) (hyA : y.size ≤ maxLen) (hmA : rs.length ≤ maxLen) (hgA : ∀ r ∈ rs, r.t.size ≤ maxLen) (hrowB : Row w w.heap.size a' (hps rs')) (hdB : d'.size ≤ maxLen) (hyB : y'.size ≤ maxLen) (hmB : rs'.length ≤ maxLen) (hgB : ∀ r ∈ rs', r.t.size ≤ maxLen) :
    Calls Try.prog 6 #[.agg #[.int .i64 p, .int .i64 q, .int .i64 r, .int .i64 st, .int .i64 u, .string d, .int .i64 t, .bool f, .bool g, .bool h, .int .i64 n, .string y, .slice a rs.length cap, .int .i64 fi, .bool z, .int .i64 wi, .int .i64 mo, .int .i64 m, .int .i64 c, .bool k, .bool s, .int .i64 v, .int .i64 x, .int .i64 ti, .int .i64 tr], .agg #[.int .i64 p', .int .i64 q', .int .i64 r', .int .i64 st', .int .i64 u', .string d', .int .i64 t', .bool f', .bool g', .bool h', .int .i64 n', .string y', .slice a' rs'.length cap', .int .i64 fi', .bool z', .int .i64 wi', .int .i64 mo', .int .i64 m', .int .i64 c', .bool k', .bool s', .int .i64 v', .int .i64 x', .int .i64 ti', .int .i64 tr']] w (OkB w) := by
  have HA := Lib.hid hrowA
  replace hdA := Lib.hid hdA
  replace hyA := Lib.hid hyA
  replace hmA := Lib.hid hmA
  replace hgA := Lib.hid hgA
  clear hrowA
  have HB := Lib.hid hrowB
  replace hdB := Lib.hid hdB
  replace hyB := Lib.hid hyB
  replace hmB := Lib.hid hmB
  replace hgB := Lib.hid hgB
  clear hrowB
  go_enter Try.func6, Try.ntmps6
  have B0 := Lib.hid (show Below w.heap.size w ((w.alloc (.cells #[.int .i64 p, .int .i64 q, .int .i64 r, .int .i64 st, .int .i64 u, .string d, .int .i64 t, .bool f, .bool g, .bool h, .int .i64 n, .string y, .slice a rs.length cap, .int .i64 fi, .bool z, .int .i64 wi, .int .i64 mo, .int .i64 m, .int .i64 c, .bool k, .bool s, .int .i64 v, .int .i64 x, .int .i64 ti, .int .i64 tr] 58)).alloc (.cells #[.int .i64 p', .int .i64 q', .int .i64 r', .int .i64 st', .int .i64 u', .string d', .int .i64 t', .bool f', .bool g', .bool h', .int .i64 n', .string y', .slice a' rs'.length cap', .int .i64 fi', .bool z', .int .i64 wi', .int .i64 mo', .int .i64 m', .int .i64 c', .bool k', .bool s', .int .i64 v', .int .i64 x', .int .i64 ti', .int .i64 tr'] 58)) from (((Below.refl _ w).alloc (by simp) _).alloc (by simp) _))
  have KA0 := Lib.hid (show Blk ((w.alloc (.cells #[.int .i64 p, .int .i64 q, .int .i64 r, .int .i64 st, .int .i64 u, .string d, .int .i64 t, .bool f, .bool g, .bool h, .int .i64 n, .string y, .slice a rs.length cap, .int .i64 fi, .bool z, .int .i64 wi, .int .i64 mo, .int .i64 m, .int .i64 c, .bool k, .bool s, .int .i64 v, .int .i64 x, .int .i64 ti, .int .i64 tr] 58)).alloc (.cells #[.int .i64 p', .int .i64 q', .int .i64 r', .int .i64 st', .int .i64 u', .string d', .int .i64 t', .bool f', .bool g', .bool h', .int .i64 n', .string y', .slice a' rs'.length cap', .int .i64 fi', .bool z', .int .i64 wi', .int .i64 mo', .int .i64 m', .int .i64 c', .bool k', .bool s', .int .i64 v', .int .i64 x', .int .i64 ti', .int .i64 tr'] 58)) (w.heap.size) [.int .i64 p, .int .i64 q, .int .i64 r, .int .i64 st, .int .i64 u, .string d, .int .i64 t, .bool f, .bool g, .bool h, .int .i64 n, .string y, .slice a rs.length cap, .int .i64 fi, .bool z, .int .i64 wi, .int .i64 mo, .int .i64 m, .int .i64 c, .bool k, .bool s, .int .i64 v, .int .i64 x, .int .i64 ti, .int .i64 tr] from (Blk.new w [.int .i64 p, .int .i64 q, .int .i64 r, .int .i64 st, .int .i64 u, .string d, .int .i64 t, .bool f, .bool g, .bool h, .int .i64 n, .string y, .slice a rs.length cap, .int .i64 fi, .bool z, .int .i64 wi, .int .i64 mo, .int .i64 m, .int .i64 c, .bool k, .bool s, .int .i64 v, .int .i64 x, .int .i64 ti, .int .i64 tr] 58).alloc (.cells #[.int .i64 p', .int .i64 q', .int .i64 r', .int .i64 st', .int .i64 u', .string d', .int .i64 t', .bool f', .bool g', .bool h', .int .i64 n', .string y', .slice a' rs'.length cap', .int .i64 fi', .bool z', .int .i64 wi', .int .i64 mo', .int .i64 m', .int .i64 c', .bool k', .bool s', .int .i64 v', .int .i64 x', .int .i64 ti', .int .i64 tr'] 58))
  have s1 : (w.alloc (.cells #[.int .i64 p, .int .i64 q, .int .i64 r, .int .i64 st, .int .i64 u, .string d, .int .i64 t, .bool f, .bool g, .bool h, .int .i64 n, .string y, .slice a rs.length cap, .int .i64 fi, .bool z, .int .i64 wi, .int .i64 mo, .int .i64 m, .int .i64 c, .bool k, .bool s, .int .i64 v, .int .i64 x, .int .i64 ti, .int .i64 tr] 58)).heap.size = w.heap.size + 1 := by simp
  have KB0 := Lib.hid (show Blk ((w.alloc (.cells #[.int .i64 p, .int .i64 q, .int .i64 r, .int .i64 st, .int .i64 u, .string d, .int .i64 t, .bool f, .bool g, .bool h, .int .i64 n, .string y, .slice a rs.length cap, .int .i64 fi, .bool z, .int .i64 wi, .int .i64 mo, .int .i64 m, .int .i64 c, .bool k, .bool s, .int .i64 v, .int .i64 x, .int .i64 ti, .int .i64 tr] 58)).alloc (.cells #[.int .i64 p', .int .i64 q', .int .i64 r', .int .i64 st', .int .i64 u', .string d', .int .i64 t', .bool f', .bool g', .bool h', .int .i64 n', .string y', .slice a' rs'.length cap', .int .i64 fi', .bool z', .int .i64 wi', .int .i64 mo', .int .i64 m', .int .i64 c', .bool k', .bool s', .int .i64 v', .int .i64 x', .int .i64 ti', .int .i64 tr'] 58)) (w.heap.size + 1) [.int .i64 p', .int .i64 q', .int .i64 r', .int .i64 st', .int .i64 u', .string d', .int .i64 t', .bool f', .bool g', .bool h', .int .i64 n', .string y', .slice a' rs'.length cap', .int .i64 fi', .bool z', .int .i64 wi', .int .i64 mo', .int .i64 m', .int .i64 c', .bool k', .bool s', .int .i64 v', .int .i64 x', .int .i64 ti', .int .i64 tr'] by have h0 := Blk.new (w.alloc (.cells #[.int .i64 p, .int .i64 q, .int .i64 r, .int .i64 st, .int .i64 u, .string d, .int .i64 t, .bool f, .bool g, .bool h, .int .i64 n, .string y, .slice a rs.length cap, .int .i64 fi, .bool z, .int .i64 wi, .int .i64 mo, .int .i64 m, .int .i64 c, .bool k, .bool s, .int .i64 v, .int .i64 x, .int .i64 ti, .int .i64 tr] 58)) [.int .i64 p', .int .i64 q', .int .i64 r', .int .i64 st', .int .i64 u', .string d', .int .i64 t', .bool f', .bool g', .bool h', .int .i64 n', .string y', .slice a' rs'.length cap', .int .i64 fi', .bool z', .int .i64 wi', .int .i64 mo', .int .i64 m', .int .i64 c', .bool k', .bool s', .int .i64 v', .int .i64 x', .int .i64 ti', .int .i64 tr'] 58; rwa [s1] at h0)
  have n_A_B : w.heap.size ≠ w.heap.size + 1 := by omega
  clear s1
  go_upto_region 2 with fail
  generalize (w.alloc (.cells #[.int .i64 p, .int .i64 q, .int .i64 r, .int .i64 st, .int .i64 u, .string d, .int .i64 t, .bool f, .bool g, .bool h, .int .i64 n, .string y, .slice a rs.length cap, .int .i64 fi, .bool z, .int .i64 wi, .int .i64 mo, .int .i64 m, .int .i64 c, .bool k, .bool s, .int .i64 v, .int .i64 x, .int .i64 ti, .int .i64 tr] 58)).alloc (.cells #[.int .i64 p', .int .i64 q', .int .i64 r', .int .i64 st', .int .i64 u', .string d', .int .i64 t', .bool f', .bool g', .bool h', .int .i64 n', .string y', .slice a' rs'.length cap', .int .i64 fi', .bool z', .int .i64 wi', .int .i64 mo', .int .i64 m', .int .i64 c', .bool k', .bool s', .int .i64 v', .int .i64 x', .int .i64 ti', .int .i64 tr'] 58) = v0 at B0 KA0 KB0 ⊢
  generalize hh_B : w.heap.size + 1 = g_B at KB0 n_A_B ⊢
  generalize hh_A : w.heap.size = g_A at KA0 n_A_B ⊢
  have l_A : w.heap.size ≤ g_A := by omega
  have l_B : w.heap.size ≤ g_B := by omega
  clear hh_A hh_B
  have HLA := blk_load (P := Try.prog) 58 KA0.out Try.underlying58 rfl (by kernel_rfl)
  go_wp2_with (refine wpList_load_val rfl _ _ rfl _ _ rfl HLA ?_)
  clear HLA
  refine (szConn_any p q r st u d t f g h n y a cap rs fi z wi mo m c k s v x ti tr 1048576 _ ((HA.out.below B0.out).mono B0.out.size) hdA.out hyA.out hmA.out hgA.out (by omega) (by omega)).mono ?_
  rintro e v1 ⟨hb, qA, rfl, hqA, hrA⟩
  have B1 := Lib.hid (B0.out.trans (hb.mono B0.out.size))
  have KA1 := Lib.hid (KA0.out.below hb)
  have KB1 := Lib.hid (KB0.out.below hb)
  clear hb B0 KA0 KB0
  replace hrA := Lib.hid hrA
  by_cases hzA : qA < 0
  case pos =>
    clear hrA
    go_wp2_with fail
    go_ret
    exact ⟨rfl, B1.out⟩
  have hsA := hrA.out (by omega)
  have HLA := Lib.hid (show rs.length ≤ 1048576 by omega)
  have HBA := Lib.hid (show RB y rs from ⟨by omega, by omega, fun r hr => by have := plens_mem rs r hr; omega⟩)
  have HYA := Lib.hid (show y.size ≤ 1048576 by omega)
  replace hsA := Lib.hid hsA
  clear hrA
  have HLB := blk_load (P := Try.prog) 58 KB1.out Try.underlying58 rfl (by kernel_rfl)
  go_wp2_with (refine wpList_load_val rfl _ _ rfl _ _ rfl HLB ?_)
  clear HLB
  refine (szConn_any p' q' r' st' u' d' t' f' g' h' n' y' a' cap' rs' fi' z' wi' mo' m' c' k' s' v' x' ti' tr' qA _ ((HB.out.below B1.out).mono B1.out.size) hdB.out hyB.out hmB.out hgB.out (by omega) (by omega)).mono ?_
  rintro e v2 ⟨hb, qB, rfl, hqB, hrB⟩
  have B2 := Lib.hid (B1.out.trans (hb.mono B1.out.size))
  have KA2 := Lib.hid (KA1.out.below hb)
  have KB2 := Lib.hid (KB1.out.below hb)
  clear hb B1 KA1 KB1
  replace hrB := Lib.hid hrB
  by_cases hzB : qB < 0
  case pos =>
    clear hrB
    go_wp2_with fail
    go_ret
    exact ⟨rfl, B2.out⟩
  have hsB := hrB.out (by omega)
  have HLB := Lib.hid (show rs'.length ≤ 1048576 by omega)
  have HBB := Lib.hid (show RB y' rs' from ⟨by omega, by omega, fun r hr => by have := plens_mem rs' r hr; omega⟩)
  have HYB := Lib.hid (show y'.size ≤ 1048576 by omega)
  replace hsB := Lib.hid hsB
  clear hrB
  have CS := fun gg hh w k1 k2 => sameConnS p q r st u d t f g h n y (some ⟨gg, 0, none⟩) rs.length rs fi z wi mo m c k s v x ti tr p' q' r' st' u' d' t' f' g' h' n' y' (some ⟨hh, 0, none⟩) rs'.length rs' fi' z' wi' mo' m' c' k' s' v' x' ti' tr' w k1 k2 (Nat.le_succ_of_le HLA.out)
  have CI := fun gg hh w k1 k2 => sameConnI p q r st u d t f g h n y (some ⟨gg, 0, none⟩) rs.length rs fi z wi mo m c k s v x ti tr p' q' r' st' u' d' t' f' g' h' n' y' (some ⟨hh, 0, none⟩) rs'.length rs' fi' z' wi' mo' m' c' k' s' v' x' ti' tr' w k1 k2 (Nat.le_succ_of_le HLA.out)
  generalize cnSame ⟨p, q, r, st, ⟨u, d, t, f, g, h⟩, ⟨n, y, rs, fi, z⟩, wi, mo, ⟨m, c, k, s, v, x⟩, ti, tr⟩ ⟨p', q', r', st', ⟨u', d', t', f', g', h'⟩, ⟨n', y', rs', fi', z'⟩, wi', mo', ⟨m', c', k', s', v', x'⟩, ti', tr'⟩ = ko at CS CI
  replace CS := Lib.hid CS
  replace CI := Lib.hid CI
  cases ko
  case false =>
    go_upto_region 8 with fail
    refine wp_region_noPanic ?_
    refine wp_region_held_drew (S := fun w' => Blk w' g_A [.int .i64 p, .int .i64 q, .int .i64 r, .int .i64 st, .int .i64 u, .string d, .int .i64 t, .bool f, .bool g, .bool h, .int .i64 n, .string y, .slice a rs.length cap, .int .i64 fi, .bool z, .int .i64 wi, .int .i64 mo, .int .i64 m, .int .i64 c, .bool k, .bool s, .int .i64 v, .int .i64 x, .int .i64 ti, .int .i64 tr] ∧ Blk w' g_B [.int .i64 p', .int .i64 q', .int .i64 r', .int .i64 st', .int .i64 u', .string d', .int .i64 t', .bool f', .bool g', .bool h', .int .i64 n', .string y', .slice a' rs'.length cap', .int .i64 fi', .bool z', .int .i64 wi', .int .i64 mo', .int .i64 m', .int .i64 c', .bool k', .bool s', .int .i64 v', .int .i64 x', .int .i64 ti', .int .i64 tr']) (by kernel_rfl) ⟨KA2.out, KB2.out⟩ (fun hS => ?_)
    refine wpAnyH_take (i := 0) (v := .agg #[.int .i64 p, .int .i64 q, .int .i64 r, .int .i64 st, .int .i64 u, .string d, .int .i64 t, .bool f, .bool g, .bool h, .int .i64 n, .string y, .slice a rs.length cap, .int .i64 fi, .bool z, .int .i64 wi, .int .i64 mo, .int .i64 m, .int .i64 c, .bool k, .bool s, .int .i64 v, .int .i64 x, .int .i64 ti, .int .i64 tr]) rfl (by kernel_rfl) (by kernel_rfl) (by kernel_rfl) (fun _ _ _ h => h) (yieldsIf_load_mid rfl 58 _ rfl g_A 0 rfl [.int .i64 p, .int .i64 q, .int .i64 r, .int .i64 st, .int .i64 u, .string d, .int .i64 t, .bool f, .bool g, .bool h, .int .i64 n, .string y, .slice a rs.length cap, .int .i64 fi, .bool z, .int .i64 wi, .int .i64 mo, .int .i64 m, .int .i64 c, .bool k, .bool s, .int .i64 v, .int .i64 x, .int .i64 ti, .int .i64 tr] _ (fun w hS => (hS.1).range) Try.underlying58 rfl (by kernel_rfl)) hS ?_
    refine wpAnyH_take (i := 2) (v := .agg #[.int .i64 p', .int .i64 q', .int .i64 r', .int .i64 st', .int .i64 u', .string d', .int .i64 t', .bool f', .bool g', .bool h', .int .i64 n', .string y', .slice a' rs'.length cap', .int .i64 fi', .bool z', .int .i64 wi', .int .i64 mo', .int .i64 m', .int .i64 c', .bool k', .bool s', .int .i64 v', .int .i64 x', .int .i64 ti', .int .i64 tr']) rfl (by kernel_rfl) (by kernel_rfl) (by kernel_rfl) (fun _ _ _ h => h) (yieldsIf_load_mid rfl 58 _ rfl g_B 0 rfl [.int .i64 p', .int .i64 q', .int .i64 r', .int .i64 st', .int .i64 u', .string d', .int .i64 t', .bool f', .bool g', .bool h', .int .i64 n', .string y', .slice a' rs'.length cap', .int .i64 fi', .bool z', .int .i64 wi', .int .i64 mo', .int .i64 m', .int .i64 c', .bool k', .bool s', .int .i64 v', .int .i64 x', .int .i64 ti', .int .i64 tr'] _ (fun w hS => (hS.2).range) Try.underlying58 rfl (by kernel_rfl)) hS ?_
    refine wpAnyH_ready (rs := [1]) (by kernel_rfl) (by simp) ?_
    refine AllReadyH.cons (i := 1) rfl (fun K hK => ?zr9) AllReadyH.nil
    rw [if_pos (by rfl)]
    go_simp
    clear hS
    refine (toConn_any p q r st u d t f g h n y a cap rs fi z wi mo m c k s v x ti tr _ ((HA.out.below B2.out.drew).mono B2.out.drew.size) HLA.out).mono ?_
    rintro e v3 ⟨g_p, rfl, ho_p, hb⟩
    replace hb := (Below.refl _ v2).drew.trans hb
    replace ho_p := own_down ho_p (show v2.heap.size ≤ v2.drew.heap.size from Nat.le_refl _)
    have n_A_p : g_A ≠ g_p := by have h1 := KA2.out.lt; have h2 := (ho_p.lt g_p rfl).1; omega
    have n_B_p : g_B ≠ g_p := by have h1 := KB2.out.lt; have h2 := (ho_p.lt g_p rfl).1; omega
    have l_p : w.heap.size ≤ g_p := Nat.le_trans B2.out.size (ho_p.lt g_p rfl).1
    have B3 := Lib.hid (B2.out.trans (hb.mono B2.out.size))
    have KA3 := Lib.hid (KA2.out.below hb)
    have KB3 := Lib.hid (KB2.out.below hb)
    have Op3 := Lib.hid (own_down ho_p (Nat.zero_le _))
    clear hb B2 KA2 KB2 ho_p
    refine hK.out _ _ ⟨KA3.out, KB3.out⟩ (fun hS => ?_)
    clear hK K
    refine wpAnyH_ready (rs := [3]) (by kernel_rfl) (by simp) ?_
    refine AllReadyH.cons (i := 3) rfl (fun K hK => ?zr10) AllReadyH.nil
    rw [if_pos (by rfl)]
    go_simp
    clear hS
    refine (toConn_any p' q' r' st' u' d' t' f' g' h' n' y' a' cap' rs' fi' z' wi' mo' m' c' k' s' v' x' ti' tr' _ ((HB.out.below B3.out).mono B3.out.size) HLB.out).mono ?_
    rintro e v4 ⟨g_q, rfl, ho_q, hb⟩
    have n_A_q : g_A ≠ g_q := by have h1 := KA3.out.lt; have h2 := (ho_q.lt g_q rfl).1; omega
    have n_B_q : g_B ≠ g_q := by have h1 := KB3.out.lt; have h2 := (ho_q.lt g_q rfl).1; omega
    have n_p_q : g_p ≠ g_q := by have h1 := (Op3.out.lt g_p rfl).2; have h2 := (ho_q.lt g_q rfl).1; omega
    have l_q : w.heap.size ≤ g_q := Nat.le_trans B3.out.size (ho_q.lt g_q rfl).1
    have B4 := Lib.hid (B3.out.trans (hb.mono B3.out.size))
    have KA4 := Lib.hid (KA3.out.below hb)
    have KB4 := Lib.hid (KB3.out.below hb)
    have Op4 := Lib.hid (Op3.out.kept (below_any (row := none) hb) (.inr (by simp [Value.ownBlock])))
    have Oq4 := Lib.hid (own_down ho_q (Nat.zero_le _))
    clear hb B3 KA3 KB3 Op3 ho_q
    refine hK.out _ _ ⟨KA4.out, KB4.out⟩ (fun hS => ?_)
    clear hK K
    refine wpAnyH_ready (rs := [4]) (by kernel_rfl) (by simp) ?_
    refine AllReadyH.cons (i := 4) rfl (fun K hK => ?zr11) AllReadyH.nil
    rw [if_pos (by rfl)]
    go_simp
    clear hS
    refine (CS.out g_p g_q _ (Row.ownK Op4.out) (Row.ownK Oq4.out)).mono ?_
    rintro e v5 ⟨rfl, hb⟩
    have B5 := Lib.hid (B4.out.trans (hb.mono B4.out.size))
    have KA5 := Lib.hid (KA4.out.below hb)
    have KB5 := Lib.hid (KB4.out.below hb)
    have Op5 := Lib.hid (Op4.out.kept (below_any (row := none) hb) (.inr (by simp [Value.ownBlock])))
    have Oq5 := Lib.hid (Oq4.out.kept (below_any (row := none) hb) (.inr (by simp [Value.ownBlock])))
    clear hb B4 KA4 KB4 Op4 Oq4
    refine hK.out _ _ ⟨KA5.out, KB5.out⟩ (fun hS => ?_)
    clear hK K
    refine wpAnyH_take (i := 5) (v := .bool false) rfl (by kernel_rfl) (by kernel_rfl) (by kernel_rfl) (fun _ _ _ h => h) (Or.inl ⟨rfl, by intro w hS; go_simp⟩) hS ?_
    refine wpAnyH_done (by kernel_rfl) ?_ _
    refine NoPanic.normal ?_
    have HLA := blk_load (P := Try.prog) 58 KA5.out Try.underlying58 rfl (by kernel_rfl)
    go_wp2_with (refine wpList_load_val rfl _ _ rfl _ _ rfl HLA ?_)
    clear HLA
    refine (toConn_any p q r st u d t f g h n y a cap rs fi z wi mo m c k s v x ti tr _ ((HA.out.below B5.out).mono B5.out.size) HLA.out).mono ?_
    rintro e v6 ⟨g_x, rfl, ho_x, hb⟩
    have n_A_x : g_A ≠ g_x := by have h1 := KA5.out.lt; have h2 := (ho_x.lt g_x rfl).1; omega
    have n_B_x : g_B ≠ g_x := by have h1 := KB5.out.lt; have h2 := (ho_x.lt g_x rfl).1; omega
    have n_p_x : g_p ≠ g_x := by have h1 := (Op5.out.lt g_p rfl).2; have h2 := (ho_x.lt g_x rfl).1; omega
    have n_q_x : g_q ≠ g_x := by have h1 := (Oq5.out.lt g_q rfl).2; have h2 := (ho_x.lt g_x rfl).1; omega
    have l_x : w.heap.size ≤ g_x := Nat.le_trans B5.out.size (ho_x.lt g_x rfl).1
    have B6 := Lib.hid (B5.out.trans (hb.mono B5.out.size))
    have KA6 := Lib.hid (KA5.out.below hb)
    have KB6 := Lib.hid (KB5.out.below hb)
    have Op6 := Lib.hid (Op5.out.kept (below_any (row := none) hb) (.inr (by simp [Value.ownBlock])))
    have Oq6 := Lib.hid (Oq5.out.kept (below_any (row := none) hb) (.inr (by simp [Value.ownBlock])))
    have Ox6 := Lib.hid (own_down ho_x (Nat.zero_le _))
    clear hb B5 KA5 KB5 Op5 Oq5 ho_x
    have KXn := Lib.hid (Blk.new v6 [.int .i64 p, .int .i64 q, .int .i64 r, .int .i64 st, .int .i64 u, .string d, .int .i64 t, .bool f, .bool g, .bool h, .int .i64 n, .string y, .slice (some ⟨g_x, 0, none⟩) rs.length rs.length, .int .i64 fi, .bool z, .int .i64 wi, .int .i64 mo, .int .i64 m, .int .i64 c, .bool k, .bool s, .int .i64 v, .int .i64 x, .int .i64 ti, .int .i64 tr] 36)
    have l_X : w.heap.size ≤ v6.heap.size := B6.out.size
    have n_A_X : g_A ≠ v6.heap.size := by have h1 := KA6.out.lt; omega
    have n_B_X : g_B ≠ v6.heap.size := by have h1 := KB6.out.lt; omega
    have n_p_X : g_p ≠ v6.heap.size := by have h1 := (Op6.out.lt g_p rfl).2; omega
    have n_q_X : g_q ≠ v6.heap.size := by have h1 := (Oq6.out.lt g_q rfl).2; omega
    have n_x_X : g_x ≠ v6.heap.size := by have h1 := (Ox6.out.lt g_x rfl).2; omega
    have Bn := Lib.hid (B6.out.alloc B6.out.size (.cells #[.int .i64 p, .int .i64 q, .int .i64 r, .int .i64 st, .int .i64 u, .string d, .int .i64 t, .bool f, .bool g, .bool h, .int .i64 n, .string y, .slice (some ⟨g_x, 0, none⟩) rs.length rs.length, .int .i64 fi, .bool z, .int .i64 wi, .int .i64 mo, .int .i64 m, .int .i64 c, .bool k, .bool s, .int .i64 v, .int .i64 x, .int .i64 ti, .int .i64 tr] 36))
    have KAn := Lib.hid (KA6.out.alloc (.cells #[.int .i64 p, .int .i64 q, .int .i64 r, .int .i64 st, .int .i64 u, .string d, .int .i64 t, .bool f, .bool g, .bool h, .int .i64 n, .string y, .slice (some ⟨g_x, 0, none⟩) rs.length rs.length, .int .i64 fi, .bool z, .int .i64 wi, .int .i64 mo, .int .i64 m, .int .i64 c, .bool k, .bool s, .int .i64 v, .int .i64 x, .int .i64 ti, .int .i64 tr] 36))
    have KBn := Lib.hid (KB6.out.alloc (.cells #[.int .i64 p, .int .i64 q, .int .i64 r, .int .i64 st, .int .i64 u, .string d, .int .i64 t, .bool f, .bool g, .bool h, .int .i64 n, .string y, .slice (some ⟨g_x, 0, none⟩) rs.length rs.length, .int .i64 fi, .bool z, .int .i64 wi, .int .i64 mo, .int .i64 m, .int .i64 c, .bool k, .bool s, .int .i64 v, .int .i64 x, .int .i64 ti, .int .i64 tr] 36))
    have Opn := Lib.hid (Op6.out.alloc (.cells #[.int .i64 p, .int .i64 q, .int .i64 r, .int .i64 st, .int .i64 u, .string d, .int .i64 t, .bool f, .bool g, .bool h, .int .i64 n, .string y, .slice (some ⟨g_x, 0, none⟩) rs.length rs.length, .int .i64 fi, .bool z, .int .i64 wi, .int .i64 mo, .int .i64 m, .int .i64 c, .bool k, .bool s, .int .i64 v, .int .i64 x, .int .i64 ti, .int .i64 tr] 36))
    have Oqn := Lib.hid (Oq6.out.alloc (.cells #[.int .i64 p, .int .i64 q, .int .i64 r, .int .i64 st, .int .i64 u, .string d, .int .i64 t, .bool f, .bool g, .bool h, .int .i64 n, .string y, .slice (some ⟨g_x, 0, none⟩) rs.length rs.length, .int .i64 fi, .bool z, .int .i64 wi, .int .i64 mo, .int .i64 m, .int .i64 c, .bool k, .bool s, .int .i64 v, .int .i64 x, .int .i64 ti, .int .i64 tr] 36))
    have Oxn := Lib.hid (Ox6.out.alloc (.cells #[.int .i64 p, .int .i64 q, .int .i64 r, .int .i64 st, .int .i64 u, .string d, .int .i64 t, .bool f, .bool g, .bool h, .int .i64 n, .string y, .slice (some ⟨g_x, 0, none⟩) rs.length rs.length, .int .i64 fi, .bool z, .int .i64 wi, .int .i64 mo, .int .i64 m, .int .i64 c, .bool k, .bool s, .int .i64 v, .int .i64 x, .int .i64 ti, .int .i64 tr] 36))
    clear B6 KA6 KB6 Op6 Oq6 Ox6
    have HLB := blk_load (P := Try.prog) 58 KBn.out Try.underlying58 rfl (by kernel_rfl)
    go_wp2_with (first | (refine wpList_store_new rfl _ _ _ rfl rfl rfl rfl rfl (by kernel_rfl) rfl ?_) | (refine wpList_load_val rfl _ _ rfl _ _ rfl HLB ?_))
    clear HLB
    change Calls _ _ _ (v6.alloc (.cells #[.int .i64 p, .int .i64 q, .int .i64 r, .int .i64 st, .int .i64 u, .string d, .int .i64 t, .bool f, .bool g, .bool h, .int .i64 n, .string y, .slice (some ⟨g_x, 0, none⟩) rs.length rs.length, .int .i64 fi, .bool z, .int .i64 wi, .int .i64 mo, .int .i64 m, .int .i64 c, .bool k, .bool s, .int .i64 v, .int .i64 x, .int .i64 ti, .int .i64 tr] 36)) _
    generalize v6.alloc (.cells #[.int .i64 p, .int .i64 q, .int .i64 r, .int .i64 st, .int .i64 u, .string d, .int .i64 t, .bool f, .bool g, .bool h, .int .i64 n, .string y, .slice (some ⟨g_x, 0, none⟩) rs.length rs.length, .int .i64 fi, .bool z, .int .i64 wi, .int .i64 mo, .int .i64 m, .int .i64 c, .bool k, .bool s, .int .i64 v, .int .i64 x, .int .i64 ti, .int .i64 tr] 36) = v7 at KXn Bn KAn KBn Opn Oqn Oxn ⊢
    generalize v6.heap.size = g_X at KXn l_X n_A_X n_B_X n_p_X n_q_X n_x_X ⊢
    clear v6
    have KA7 := KAn
    clear KAn
    have KB7 := KBn
    clear KBn
    have KX7 := KXn
    clear KXn
    have Op7 := Opn
    clear Opn
    have Oq7 := Oqn
    clear Oqn
    have Ox7 := Oxn
    clear Oxn
    have B7 := Bn
    clear Bn
    refine (toConn_any p' q' r' st' u' d' t' f' g' h' n' y' a' cap' rs' fi' z' wi' mo' m' c' k' s' v' x' ti' tr' _ ((HB.out.below B7.out).mono B7.out.size) HLB.out).mono ?_
    rintro e v8 ⟨g_y, rfl, ho_y, hb⟩
    have n_A_y : g_A ≠ g_y := by have h1 := KA7.out.lt; have h2 := (ho_y.lt g_y rfl).1; omega
    have n_B_y : g_B ≠ g_y := by have h1 := KB7.out.lt; have h2 := (ho_y.lt g_y rfl).1; omega
    have n_X_y : g_X ≠ g_y := by have h1 := KX7.out.lt; have h2 := (ho_y.lt g_y rfl).1; omega
    have n_p_y : g_p ≠ g_y := by have h1 := (Op7.out.lt g_p rfl).2; have h2 := (ho_y.lt g_y rfl).1; omega
    have n_q_y : g_q ≠ g_y := by have h1 := (Oq7.out.lt g_q rfl).2; have h2 := (ho_y.lt g_y rfl).1; omega
    have n_x_y : g_x ≠ g_y := by have h1 := (Ox7.out.lt g_x rfl).2; have h2 := (ho_y.lt g_y rfl).1; omega
    have l_y : w.heap.size ≤ g_y := Nat.le_trans B7.out.size (ho_y.lt g_y rfl).1
    have B8 := Lib.hid (B7.out.trans (hb.mono B7.out.size))
    have KA8 := Lib.hid (KA7.out.below hb)
    have KB8 := Lib.hid (KB7.out.below hb)
    have KX8 := Lib.hid (KX7.out.below hb)
    have Op8 := Lib.hid (Op7.out.kept (below_any (row := none) hb) (.inr (by simp [Value.ownBlock])))
    have Oq8 := Lib.hid (Oq7.out.kept (below_any (row := none) hb) (.inr (by simp [Value.ownBlock])))
    have Ox8 := Lib.hid (Ox7.out.kept (below_any (row := none) hb) (.inr (by simp [Value.ownBlock])))
    have Oy8 := Lib.hid (own_down ho_y (Nat.zero_le _))
    clear hb B7 KA7 KB7 KX7 Op7 Oq7 Ox7 ho_y
    have KYn := Lib.hid (Blk.new v8 [.int .i64 p', .int .i64 q', .int .i64 r', .int .i64 st', .int .i64 u', .string d', .int .i64 t', .bool f', .bool g', .bool h', .int .i64 n', .string y', .slice (some ⟨g_y, 0, none⟩) rs'.length rs'.length, .int .i64 fi', .bool z', .int .i64 wi', .int .i64 mo', .int .i64 m', .int .i64 c', .bool k', .bool s', .int .i64 v', .int .i64 x', .int .i64 ti', .int .i64 tr'] 36)
    have l_Y : w.heap.size ≤ v8.heap.size := B8.out.size
    have n_A_Y : g_A ≠ v8.heap.size := by have h1 := KA8.out.lt; omega
    have n_B_Y : g_B ≠ v8.heap.size := by have h1 := KB8.out.lt; omega
    have n_X_Y : g_X ≠ v8.heap.size := by have h1 := KX8.out.lt; omega
    have n_p_Y : g_p ≠ v8.heap.size := by have h1 := (Op8.out.lt g_p rfl).2; omega
    have n_q_Y : g_q ≠ v8.heap.size := by have h1 := (Oq8.out.lt g_q rfl).2; omega
    have n_x_Y : g_x ≠ v8.heap.size := by have h1 := (Ox8.out.lt g_x rfl).2; omega
    have n_y_Y : g_y ≠ v8.heap.size := by have h1 := (Oy8.out.lt g_y rfl).2; omega
    have Bn := Lib.hid (B8.out.alloc B8.out.size (.cells #[.int .i64 p', .int .i64 q', .int .i64 r', .int .i64 st', .int .i64 u', .string d', .int .i64 t', .bool f', .bool g', .bool h', .int .i64 n', .string y', .slice (some ⟨g_y, 0, none⟩) rs'.length rs'.length, .int .i64 fi', .bool z', .int .i64 wi', .int .i64 mo', .int .i64 m', .int .i64 c', .bool k', .bool s', .int .i64 v', .int .i64 x', .int .i64 ti', .int .i64 tr'] 36))
    have KAn := Lib.hid (KA8.out.alloc (.cells #[.int .i64 p', .int .i64 q', .int .i64 r', .int .i64 st', .int .i64 u', .string d', .int .i64 t', .bool f', .bool g', .bool h', .int .i64 n', .string y', .slice (some ⟨g_y, 0, none⟩) rs'.length rs'.length, .int .i64 fi', .bool z', .int .i64 wi', .int .i64 mo', .int .i64 m', .int .i64 c', .bool k', .bool s', .int .i64 v', .int .i64 x', .int .i64 ti', .int .i64 tr'] 36))
    have KBn := Lib.hid (KB8.out.alloc (.cells #[.int .i64 p', .int .i64 q', .int .i64 r', .int .i64 st', .int .i64 u', .string d', .int .i64 t', .bool f', .bool g', .bool h', .int .i64 n', .string y', .slice (some ⟨g_y, 0, none⟩) rs'.length rs'.length, .int .i64 fi', .bool z', .int .i64 wi', .int .i64 mo', .int .i64 m', .int .i64 c', .bool k', .bool s', .int .i64 v', .int .i64 x', .int .i64 ti', .int .i64 tr'] 36))
    have KXn := Lib.hid (KX8.out.alloc (.cells #[.int .i64 p', .int .i64 q', .int .i64 r', .int .i64 st', .int .i64 u', .string d', .int .i64 t', .bool f', .bool g', .bool h', .int .i64 n', .string y', .slice (some ⟨g_y, 0, none⟩) rs'.length rs'.length, .int .i64 fi', .bool z', .int .i64 wi', .int .i64 mo', .int .i64 m', .int .i64 c', .bool k', .bool s', .int .i64 v', .int .i64 x', .int .i64 ti', .int .i64 tr'] 36))
    have Opn := Lib.hid (Op8.out.alloc (.cells #[.int .i64 p', .int .i64 q', .int .i64 r', .int .i64 st', .int .i64 u', .string d', .int .i64 t', .bool f', .bool g', .bool h', .int .i64 n', .string y', .slice (some ⟨g_y, 0, none⟩) rs'.length rs'.length, .int .i64 fi', .bool z', .int .i64 wi', .int .i64 mo', .int .i64 m', .int .i64 c', .bool k', .bool s', .int .i64 v', .int .i64 x', .int .i64 ti', .int .i64 tr'] 36))
    have Oqn := Lib.hid (Oq8.out.alloc (.cells #[.int .i64 p', .int .i64 q', .int .i64 r', .int .i64 st', .int .i64 u', .string d', .int .i64 t', .bool f', .bool g', .bool h', .int .i64 n', .string y', .slice (some ⟨g_y, 0, none⟩) rs'.length rs'.length, .int .i64 fi', .bool z', .int .i64 wi', .int .i64 mo', .int .i64 m', .int .i64 c', .bool k', .bool s', .int .i64 v', .int .i64 x', .int .i64 ti', .int .i64 tr'] 36))
    have Oxn := Lib.hid (Ox8.out.alloc (.cells #[.int .i64 p', .int .i64 q', .int .i64 r', .int .i64 st', .int .i64 u', .string d', .int .i64 t', .bool f', .bool g', .bool h', .int .i64 n', .string y', .slice (some ⟨g_y, 0, none⟩) rs'.length rs'.length, .int .i64 fi', .bool z', .int .i64 wi', .int .i64 mo', .int .i64 m', .int .i64 c', .bool k', .bool s', .int .i64 v', .int .i64 x', .int .i64 ti', .int .i64 tr'] 36))
    have Oyn := Lib.hid (Oy8.out.alloc (.cells #[.int .i64 p', .int .i64 q', .int .i64 r', .int .i64 st', .int .i64 u', .string d', .int .i64 t', .bool f', .bool g', .bool h', .int .i64 n', .string y', .slice (some ⟨g_y, 0, none⟩) rs'.length rs'.length, .int .i64 fi', .bool z', .int .i64 wi', .int .i64 mo', .int .i64 m', .int .i64 c', .bool k', .bool s', .int .i64 v', .int .i64 x', .int .i64 ti', .int .i64 tr'] 36))
    clear B8 KA8 KB8 KX8 Op8 Oq8 Ox8 Oy8
    have HLX := blk_load (P := Try.prog) 36 KXn.out Try.underlying36 rfl (by kernel_rfl)
    have HLY := blk_load (P := Try.prog) 36 KYn.out Try.underlying36 rfl (by kernel_rfl)
    go_wp2_with (first | (refine wpList_store_new rfl _ _ _ rfl rfl rfl rfl rfl (by kernel_rfl) rfl ?_) | (refine wpList_load_val rfl _ _ rfl _ _ rfl HLX ?_) | (refine wpList_load_val rfl _ _ rfl _ _ rfl HLY ?_))
    clear HLX HLY
    change Calls _ _ _ (v8.alloc (.cells #[.int .i64 p', .int .i64 q', .int .i64 r', .int .i64 st', .int .i64 u', .string d', .int .i64 t', .bool f', .bool g', .bool h', .int .i64 n', .string y', .slice (some ⟨g_y, 0, none⟩) rs'.length rs'.length, .int .i64 fi', .bool z', .int .i64 wi', .int .i64 mo', .int .i64 m', .int .i64 c', .bool k', .bool s', .int .i64 v', .int .i64 x', .int .i64 ti', .int .i64 tr'] 36)) _
    generalize v8.alloc (.cells #[.int .i64 p', .int .i64 q', .int .i64 r', .int .i64 st', .int .i64 u', .string d', .int .i64 t', .bool f', .bool g', .bool h', .int .i64 n', .string y', .slice (some ⟨g_y, 0, none⟩) rs'.length rs'.length, .int .i64 fi', .bool z', .int .i64 wi', .int .i64 mo', .int .i64 m', .int .i64 c', .bool k', .bool s', .int .i64 v', .int .i64 x', .int .i64 ti', .int .i64 tr'] 36) = v9 at KYn Bn KAn KBn KXn Opn Oqn Oxn Oyn ⊢
    generalize v8.heap.size = g_Y at KYn l_Y n_A_Y n_B_Y n_X_Y n_p_Y n_q_Y n_x_Y n_y_Y ⊢
    clear v8
    have KA9 := KAn
    clear KAn
    have KB9 := KBn
    clear KBn
    have KX9 := KXn
    clear KXn
    have KY9 := KYn
    clear KYn
    have Op9 := Opn
    clear Opn
    have Oq9 := Oqn
    clear Oqn
    have Ox9 := Oxn
    clear Oxn
    have Oy9 := Oyn
    clear Oyn
    have B9 := Bn
    clear Bn
    refine (CI.out g_x g_y _ (Row.ownK Ox9.out) (Row.ownK Oy9.out)).mono ?_
    rintro e v10 ⟨rfl, hb⟩
    have B10 := Lib.hid (B9.out.trans (hb.mono B9.out.size))
    have KA10 := Lib.hid (KA9.out.below hb)
    have KB10 := Lib.hid (KB9.out.below hb)
    have KX10 := Lib.hid (KX9.out.below hb)
    have KY10 := Lib.hid (KY9.out.below hb)
    have Op10 := Lib.hid (Op9.out.kept (below_any (row := none) hb) (.inr (by simp [Value.ownBlock])))
    have Oq10 := Lib.hid (Oq9.out.kept (below_any (row := none) hb) (.inr (by simp [Value.ownBlock])))
    have Ox10 := Lib.hid (Ox9.out.kept (below_any (row := none) hb) (.inr (by simp [Value.ownBlock])))
    have Oy10 := Lib.hid (Oy9.out.kept (below_any (row := none) hb) (.inr (by simp [Value.ownBlock])))
    clear hb B9 KA9 KB9 KX9 KY9 Op9 Oq9 Ox9 Oy9
    go_wp2_with fail
    refine wp_region_noPanic ?_
    refine wp_region_held_drew (S := fun w' => Blk w' g_X [.int .i64 p, .int .i64 q, .int .i64 r, .int .i64 st, .int .i64 u, .string d, .int .i64 t, .bool f, .bool g, .bool h, .int .i64 n, .string y, .slice (some ⟨g_x, 0, none⟩) rs.length rs.length, .int .i64 fi, .bool z, .int .i64 wi, .int .i64 mo, .int .i64 m, .int .i64 c, .bool k, .bool s, .int .i64 v, .int .i64 x, .int .i64 ti, .int .i64 tr] ∧ Blk w' g_A [.int .i64 p, .int .i64 q, .int .i64 r, .int .i64 st, .int .i64 u, .string d, .int .i64 t, .bool f, .bool g, .bool h, .int .i64 n, .string y, .slice a rs.length cap, .int .i64 fi, .bool z, .int .i64 wi, .int .i64 mo, .int .i64 m, .int .i64 c, .bool k, .bool s, .int .i64 v, .int .i64 x, .int .i64 ti, .int .i64 tr]) (by kernel_rfl) ⟨KX10.out, KA10.out⟩ (fun hS => ?_)
    refine wpAnyH_take (i := 0) (v := .agg #[.int .i64 p, .int .i64 q, .int .i64 r, .int .i64 st, .int .i64 u, .string d, .int .i64 t, .bool f, .bool g, .bool h, .int .i64 n, .string y, .slice (some ⟨g_x, 0, none⟩) rs.length rs.length, .int .i64 fi, .bool z, .int .i64 wi, .int .i64 mo, .int .i64 m, .int .i64 c, .bool k, .bool s, .int .i64 v, .int .i64 x, .int .i64 ti, .int .i64 tr]) rfl (by kernel_rfl) (by kernel_rfl) (by kernel_rfl) (fun _ _ _ h => h) (yieldsIf_load_mid rfl 36 _ rfl g_X 0 rfl [.int .i64 p, .int .i64 q, .int .i64 r, .int .i64 st, .int .i64 u, .string d, .int .i64 t, .bool f, .bool g, .bool h, .int .i64 n, .string y, .slice (some ⟨g_x, 0, none⟩) rs.length rs.length, .int .i64 fi, .bool z, .int .i64 wi, .int .i64 mo, .int .i64 m, .int .i64 c, .bool k, .bool s, .int .i64 v, .int .i64 x, .int .i64 ti, .int .i64 tr] _ (fun w hS => (hS.1).range) Try.underlying36 rfl (by kernel_rfl)) hS ?_
    refine wpAnyH_take (i := 1) (v := .agg #[.int .i64 p, .int .i64 q, .int .i64 r, .int .i64 st, .int .i64 u, .string d, .int .i64 t, .bool f, .bool g, .bool h, .int .i64 n, .string y, .slice a rs.length cap, .int .i64 fi, .bool z, .int .i64 wi, .int .i64 mo, .int .i64 m, .int .i64 c, .bool k, .bool s, .int .i64 v, .int .i64 x, .int .i64 ti, .int .i64 tr]) rfl (by kernel_rfl) (by kernel_rfl) (by kernel_rfl) (fun _ _ _ h => h) (yieldsIf_load_mid rfl 58 _ rfl g_A 0 rfl [.int .i64 p, .int .i64 q, .int .i64 r, .int .i64 st, .int .i64 u, .string d, .int .i64 t, .bool f, .bool g, .bool h, .int .i64 n, .string y, .slice a rs.length cap, .int .i64 fi, .bool z, .int .i64 wi, .int .i64 mo, .int .i64 m, .int .i64 c, .bool k, .bool s, .int .i64 v, .int .i64 x, .int .i64 ti, .int .i64 tr] _ (fun w hS => (hS.2).range) Try.underlying58 rfl (by kernel_rfl)) hS ?_
    refine wpAnyH_ready (rs := [2]) (by kernel_rfl) (by simp) ?_
    refine AllReadyH.cons (i := 2) rfl (fun K hK => ?zr12) AllReadyH.nil
    rw [if_pos (by rfl)]
    go_simp
    clear hS
    refine (toConn_any p q r st u d t f g h n y a cap rs fi z wi mo m c k s v x ti tr _ ((HA.out.below B10.out.drew).mono B10.out.drew.size) HLA.out).mono ?_
    rintro e v11 ⟨g_zz, rfl, ho_zz, hb⟩
    replace hb := (Below.refl _ v10).drew.trans hb
    replace ho_zz := own_down ho_zz (show v10.heap.size ≤ v10.drew.heap.size from Nat.le_refl _)
    have n_A_zz : g_A ≠ g_zz := by have h1 := KA10.out.lt; have h2 := (ho_zz.lt g_zz rfl).1; omega
    have n_B_zz : g_B ≠ g_zz := by have h1 := KB10.out.lt; have h2 := (ho_zz.lt g_zz rfl).1; omega
    have n_X_zz : g_X ≠ g_zz := by have h1 := KX10.out.lt; have h2 := (ho_zz.lt g_zz rfl).1; omega
    have n_Y_zz : g_Y ≠ g_zz := by have h1 := KY10.out.lt; have h2 := (ho_zz.lt g_zz rfl).1; omega
    have n_p_zz : g_p ≠ g_zz := by have h1 := (Op10.out.lt g_p rfl).2; have h2 := (ho_zz.lt g_zz rfl).1; omega
    have n_q_zz : g_q ≠ g_zz := by have h1 := (Oq10.out.lt g_q rfl).2; have h2 := (ho_zz.lt g_zz rfl).1; omega
    have n_x_zz : g_x ≠ g_zz := by have h1 := (Ox10.out.lt g_x rfl).2; have h2 := (ho_zz.lt g_zz rfl).1; omega
    have n_y_zz : g_y ≠ g_zz := by have h1 := (Oy10.out.lt g_y rfl).2; have h2 := (ho_zz.lt g_zz rfl).1; omega
    have l_zz : w.heap.size ≤ g_zz := Nat.le_trans B10.out.size (ho_zz.lt g_zz rfl).1
    have B11 := Lib.hid (B10.out.trans (hb.mono B10.out.size))
    have KA11 := Lib.hid (KA10.out.below hb)
    have KB11 := Lib.hid (KB10.out.below hb)
    have KX11 := Lib.hid (KX10.out.below hb)
    have KY11 := Lib.hid (KY10.out.below hb)
    have Op11 := Lib.hid (Op10.out.kept (below_any (row := none) hb) (.inr (by simp [Value.ownBlock])))
    have Oq11 := Lib.hid (Oq10.out.kept (below_any (row := none) hb) (.inr (by simp [Value.ownBlock])))
    have Ox11 := Lib.hid (Ox10.out.kept (below_any (row := none) hb) (.inr (by simp [Value.ownBlock])))
    have Oy11 := Lib.hid (Oy10.out.kept (below_any (row := none) hb) (.inr (by simp [Value.ownBlock])))
    have Ozz11 := Lib.hid (own_down ho_zz (Nat.zero_le _))
    clear hb B10 KA10 KB10 KX10 KY10 Op10 Oq10 Ox10 Oy10 ho_zz
    refine hK.out _ _ ⟨KX11.out, KA11.out⟩ (fun hS => ?_)
    clear hK K
    refine wpAnyH_ready (rs := [3]) (by kernel_rfl) (by simp) ?_
    refine AllReadyH.cons (i := 3) rfl (fun K hK => ?zr13) AllReadyH.nil
    rw [if_pos (by rfl)]
    go_simp
    clear hS
    refine (eqConn_self p q r st u d t f g h n y (some ⟨g_x, 0, none⟩) rs.length rs fi z wi mo m c k s v x ti tr (some ⟨g_zz, 0, none⟩) rs.length _ (Row.ownK Ox11.out) (Row.ownK Ozz11.out) HLA.out).mono ?_
    rintro e v12 ⟨rfl, hb⟩
    have B12 := Lib.hid (B11.out.trans (hb.mono B11.out.size))
    have KA12 := Lib.hid (KA11.out.below hb)
    have KB12 := Lib.hid (KB11.out.below hb)
    have KX12 := Lib.hid (KX11.out.below hb)
    have KY12 := Lib.hid (KY11.out.below hb)
    have Op12 := Lib.hid (Op11.out.kept (below_any (row := none) hb) (.inr (by simp [Value.ownBlock])))
    have Oq12 := Lib.hid (Oq11.out.kept (below_any (row := none) hb) (.inr (by simp [Value.ownBlock])))
    have Ox12 := Lib.hid (Ox11.out.kept (below_any (row := none) hb) (.inr (by simp [Value.ownBlock])))
    have Oy12 := Lib.hid (Oy11.out.kept (below_any (row := none) hb) (.inr (by simp [Value.ownBlock])))
    have Ozz12 := Lib.hid (Ozz11.out.kept (below_any (row := none) hb) (.inr (by simp [Value.ownBlock])))
    clear hb B11 KA11 KB11 KX11 KY11 Op11 Oq11 Ox11 Oy11 Ozz11
    refine hK.out _ _ ⟨KX12.out, KA12.out⟩ (fun hS => ?_)
    clear hK K
    refine wpAnyH_take (i := 4) (v := .bool false) rfl (by kernel_rfl) (by kernel_rfl) (by kernel_rfl) (fun _ _ _ h => h) (Or.inl ⟨rfl, by intro w hS; go_simp⟩) hS ?_
    refine wpAnyH_done (by kernel_rfl) ?_ _
    refine NoPanic.normal ?_
    go_wp2_with fail
    refine wp_region_noPanic ?_
    refine wp_region_held_drew (S := fun w' => Blk w' g_Y [.int .i64 p', .int .i64 q', .int .i64 r', .int .i64 st', .int .i64 u', .string d', .int .i64 t', .bool f', .bool g', .bool h', .int .i64 n', .string y', .slice (some ⟨g_y, 0, none⟩) rs'.length rs'.length, .int .i64 fi', .bool z', .int .i64 wi', .int .i64 mo', .int .i64 m', .int .i64 c', .bool k', .bool s', .int .i64 v', .int .i64 x', .int .i64 ti', .int .i64 tr'] ∧ Blk w' g_B [.int .i64 p', .int .i64 q', .int .i64 r', .int .i64 st', .int .i64 u', .string d', .int .i64 t', .bool f', .bool g', .bool h', .int .i64 n', .string y', .slice a' rs'.length cap', .int .i64 fi', .bool z', .int .i64 wi', .int .i64 mo', .int .i64 m', .int .i64 c', .bool k', .bool s', .int .i64 v', .int .i64 x', .int .i64 ti', .int .i64 tr']) (by kernel_rfl) ⟨KY12.out, KB12.out⟩ (fun hS => ?_)
    refine wpAnyH_take (i := 0) (v := .agg #[.int .i64 p', .int .i64 q', .int .i64 r', .int .i64 st', .int .i64 u', .string d', .int .i64 t', .bool f', .bool g', .bool h', .int .i64 n', .string y', .slice (some ⟨g_y, 0, none⟩) rs'.length rs'.length, .int .i64 fi', .bool z', .int .i64 wi', .int .i64 mo', .int .i64 m', .int .i64 c', .bool k', .bool s', .int .i64 v', .int .i64 x', .int .i64 ti', .int .i64 tr']) rfl (by kernel_rfl) (by kernel_rfl) (by kernel_rfl) (fun _ _ _ h => h) (yieldsIf_load_mid rfl 36 _ rfl g_Y 0 rfl [.int .i64 p', .int .i64 q', .int .i64 r', .int .i64 st', .int .i64 u', .string d', .int .i64 t', .bool f', .bool g', .bool h', .int .i64 n', .string y', .slice (some ⟨g_y, 0, none⟩) rs'.length rs'.length, .int .i64 fi', .bool z', .int .i64 wi', .int .i64 mo', .int .i64 m', .int .i64 c', .bool k', .bool s', .int .i64 v', .int .i64 x', .int .i64 ti', .int .i64 tr'] _ (fun w hS => (hS.1).range) Try.underlying36 rfl (by kernel_rfl)) hS ?_
    refine wpAnyH_take (i := 1) (v := .agg #[.int .i64 p', .int .i64 q', .int .i64 r', .int .i64 st', .int .i64 u', .string d', .int .i64 t', .bool f', .bool g', .bool h', .int .i64 n', .string y', .slice a' rs'.length cap', .int .i64 fi', .bool z', .int .i64 wi', .int .i64 mo', .int .i64 m', .int .i64 c', .bool k', .bool s', .int .i64 v', .int .i64 x', .int .i64 ti', .int .i64 tr']) rfl (by kernel_rfl) (by kernel_rfl) (by kernel_rfl) (fun _ _ _ h => h) (yieldsIf_load_mid rfl 58 _ rfl g_B 0 rfl [.int .i64 p', .int .i64 q', .int .i64 r', .int .i64 st', .int .i64 u', .string d', .int .i64 t', .bool f', .bool g', .bool h', .int .i64 n', .string y', .slice a' rs'.length cap', .int .i64 fi', .bool z', .int .i64 wi', .int .i64 mo', .int .i64 m', .int .i64 c', .bool k', .bool s', .int .i64 v', .int .i64 x', .int .i64 ti', .int .i64 tr'] _ (fun w hS => (hS.2).range) Try.underlying58 rfl (by kernel_rfl)) hS ?_
    refine wpAnyH_ready (rs := [2]) (by kernel_rfl) (by simp) ?_
    refine AllReadyH.cons (i := 2) rfl (fun K hK => ?zr14) AllReadyH.nil
    rw [if_pos (by rfl)]
    go_simp
    clear hS
    refine (toConn_any p' q' r' st' u' d' t' f' g' h' n' y' a' cap' rs' fi' z' wi' mo' m' c' k' s' v' x' ti' tr' _ ((HB.out.below B12.out.drew).mono B12.out.drew.size) HLB.out).mono ?_
    rintro e v13 ⟨g_yy, rfl, ho_yy, hb⟩
    replace hb := (Below.refl _ v12).drew.trans hb
    replace ho_yy := own_down ho_yy (show v12.heap.size ≤ v12.drew.heap.size from Nat.le_refl _)
    have n_A_yy : g_A ≠ g_yy := by have h1 := KA12.out.lt; have h2 := (ho_yy.lt g_yy rfl).1; omega
    have n_B_yy : g_B ≠ g_yy := by have h1 := KB12.out.lt; have h2 := (ho_yy.lt g_yy rfl).1; omega
    have n_X_yy : g_X ≠ g_yy := by have h1 := KX12.out.lt; have h2 := (ho_yy.lt g_yy rfl).1; omega
    have n_Y_yy : g_Y ≠ g_yy := by have h1 := KY12.out.lt; have h2 := (ho_yy.lt g_yy rfl).1; omega
    have n_p_yy : g_p ≠ g_yy := by have h1 := (Op12.out.lt g_p rfl).2; have h2 := (ho_yy.lt g_yy rfl).1; omega
    have n_q_yy : g_q ≠ g_yy := by have h1 := (Oq12.out.lt g_q rfl).2; have h2 := (ho_yy.lt g_yy rfl).1; omega
    have n_x_yy : g_x ≠ g_yy := by have h1 := (Ox12.out.lt g_x rfl).2; have h2 := (ho_yy.lt g_yy rfl).1; omega
    have n_y_yy : g_y ≠ g_yy := by have h1 := (Oy12.out.lt g_y rfl).2; have h2 := (ho_yy.lt g_yy rfl).1; omega
    have n_zz_yy : g_zz ≠ g_yy := by have h1 := (Ozz12.out.lt g_zz rfl).2; have h2 := (ho_yy.lt g_yy rfl).1; omega
    have l_yy : w.heap.size ≤ g_yy := Nat.le_trans B12.out.size (ho_yy.lt g_yy rfl).1
    have B13 := Lib.hid (B12.out.trans (hb.mono B12.out.size))
    have KA13 := Lib.hid (KA12.out.below hb)
    have KB13 := Lib.hid (KB12.out.below hb)
    have KX13 := Lib.hid (KX12.out.below hb)
    have KY13 := Lib.hid (KY12.out.below hb)
    have Op13 := Lib.hid (Op12.out.kept (below_any (row := none) hb) (.inr (by simp [Value.ownBlock])))
    have Oq13 := Lib.hid (Oq12.out.kept (below_any (row := none) hb) (.inr (by simp [Value.ownBlock])))
    have Ox13 := Lib.hid (Ox12.out.kept (below_any (row := none) hb) (.inr (by simp [Value.ownBlock])))
    have Oy13 := Lib.hid (Oy12.out.kept (below_any (row := none) hb) (.inr (by simp [Value.ownBlock])))
    have Ozz13 := Lib.hid (Ozz12.out.kept (below_any (row := none) hb) (.inr (by simp [Value.ownBlock])))
    have Oyy13 := Lib.hid (own_down ho_yy (Nat.zero_le _))
    clear hb B12 KA12 KB12 KX12 KY12 Op12 Oq12 Ox12 Oy12 Ozz12 ho_yy
    refine hK.out _ _ ⟨KY13.out, KB13.out⟩ (fun hS => ?_)
    clear hK K
    refine wpAnyH_ready (rs := [3]) (by kernel_rfl) (by simp) ?_
    refine AllReadyH.cons (i := 3) rfl (fun K hK => ?zr15) AllReadyH.nil
    rw [if_pos (by rfl)]
    go_simp
    clear hS
    refine (eqConn_self p' q' r' st' u' d' t' f' g' h' n' y' (some ⟨g_y, 0, none⟩) rs'.length rs' fi' z' wi' mo' m' c' k' s' v' x' ti' tr' (some ⟨g_yy, 0, none⟩) rs'.length _ (Row.ownK Oy13.out) (Row.ownK Oyy13.out) HLB.out).mono ?_
    rintro e v14 ⟨rfl, hb⟩
    have B14 := Lib.hid (B13.out.trans (hb.mono B13.out.size))
    have KA14 := Lib.hid (KA13.out.below hb)
    have KB14 := Lib.hid (KB13.out.below hb)
    have KX14 := Lib.hid (KX13.out.below hb)
    have KY14 := Lib.hid (KY13.out.below hb)
    have Op14 := Lib.hid (Op13.out.kept (below_any (row := none) hb) (.inr (by simp [Value.ownBlock])))
    have Oq14 := Lib.hid (Oq13.out.kept (below_any (row := none) hb) (.inr (by simp [Value.ownBlock])))
    have Ox14 := Lib.hid (Ox13.out.kept (below_any (row := none) hb) (.inr (by simp [Value.ownBlock])))
    have Oy14 := Lib.hid (Oy13.out.kept (below_any (row := none) hb) (.inr (by simp [Value.ownBlock])))
    have Ozz14 := Lib.hid (Ozz13.out.kept (below_any (row := none) hb) (.inr (by simp [Value.ownBlock])))
    have Oyy14 := Lib.hid (Oyy13.out.kept (below_any (row := none) hb) (.inr (by simp [Value.ownBlock])))
    clear hb B13 KA13 KB13 KX13 KY13 Op13 Oq13 Ox13 Oy13 Ozz13 Oyy13
    refine hK.out _ _ ⟨KY14.out, KB14.out⟩ (fun hS => ?_)
    clear hK K
    refine wpAnyH_take (i := 4) (v := .bool false) rfl (by kernel_rfl) (by kernel_rfl) (by kernel_rfl) (fun _ _ _ h => h) (Or.inl ⟨rfl, by intro w hS; go_simp⟩) hS ?_
    refine wpAnyH_done (by kernel_rfl) ?_ _
    refine NoPanic.normal ?_
    go_wp2_with fail
    go_ret
    exact ⟨rfl, B14.out⟩
  case true =>
    go_upto_region 8 with fail
    refine wp_region_noPanic ?_
    refine wp_region_held_drew (S := fun w' => Blk w' g_A [.int .i64 p, .int .i64 q, .int .i64 r, .int .i64 st, .int .i64 u, .string d, .int .i64 t, .bool f, .bool g, .bool h, .int .i64 n, .string y, .slice a rs.length cap, .int .i64 fi, .bool z, .int .i64 wi, .int .i64 mo, .int .i64 m, .int .i64 c, .bool k, .bool s, .int .i64 v, .int .i64 x, .int .i64 ti, .int .i64 tr] ∧ Blk w' g_B [.int .i64 p', .int .i64 q', .int .i64 r', .int .i64 st', .int .i64 u', .string d', .int .i64 t', .bool f', .bool g', .bool h', .int .i64 n', .string y', .slice a' rs'.length cap', .int .i64 fi', .bool z', .int .i64 wi', .int .i64 mo', .int .i64 m', .int .i64 c', .bool k', .bool s', .int .i64 v', .int .i64 x', .int .i64 ti', .int .i64 tr']) (by kernel_rfl) ⟨KA2.out, KB2.out⟩ (fun hS => ?_)
    refine wpAnyH_take (i := 0) (v := .agg #[.int .i64 p, .int .i64 q, .int .i64 r, .int .i64 st, .int .i64 u, .string d, .int .i64 t, .bool f, .bool g, .bool h, .int .i64 n, .string y, .slice a rs.length cap, .int .i64 fi, .bool z, .int .i64 wi, .int .i64 mo, .int .i64 m, .int .i64 c, .bool k, .bool s, .int .i64 v, .int .i64 x, .int .i64 ti, .int .i64 tr]) rfl (by kernel_rfl) (by kernel_rfl) (by kernel_rfl) (fun _ _ _ h => h) (yieldsIf_load_mid rfl 58 _ rfl g_A 0 rfl [.int .i64 p, .int .i64 q, .int .i64 r, .int .i64 st, .int .i64 u, .string d, .int .i64 t, .bool f, .bool g, .bool h, .int .i64 n, .string y, .slice a rs.length cap, .int .i64 fi, .bool z, .int .i64 wi, .int .i64 mo, .int .i64 m, .int .i64 c, .bool k, .bool s, .int .i64 v, .int .i64 x, .int .i64 ti, .int .i64 tr] _ (fun w hS => (hS.1).range) Try.underlying58 rfl (by kernel_rfl)) hS ?_
    refine wpAnyH_take (i := 2) (v := .agg #[.int .i64 p', .int .i64 q', .int .i64 r', .int .i64 st', .int .i64 u', .string d', .int .i64 t', .bool f', .bool g', .bool h', .int .i64 n', .string y', .slice a' rs'.length cap', .int .i64 fi', .bool z', .int .i64 wi', .int .i64 mo', .int .i64 m', .int .i64 c', .bool k', .bool s', .int .i64 v', .int .i64 x', .int .i64 ti', .int .i64 tr']) rfl (by kernel_rfl) (by kernel_rfl) (by kernel_rfl) (fun _ _ _ h => h) (yieldsIf_load_mid rfl 58 _ rfl g_B 0 rfl [.int .i64 p', .int .i64 q', .int .i64 r', .int .i64 st', .int .i64 u', .string d', .int .i64 t', .bool f', .bool g', .bool h', .int .i64 n', .string y', .slice a' rs'.length cap', .int .i64 fi', .bool z', .int .i64 wi', .int .i64 mo', .int .i64 m', .int .i64 c', .bool k', .bool s', .int .i64 v', .int .i64 x', .int .i64 ti', .int .i64 tr'] _ (fun w hS => (hS.2).range) Try.underlying58 rfl (by kernel_rfl)) hS ?_
    refine wpAnyH_ready (rs := [1]) (by kernel_rfl) (by simp) ?_
    refine AllReadyH.cons (i := 1) rfl (fun K hK => ?zr16) AllReadyH.nil
    rw [if_pos (by rfl)]
    go_simp
    clear hS
    refine (toConn_any p q r st u d t f g h n y a cap rs fi z wi mo m c k s v x ti tr _ ((HA.out.below B2.out.drew).mono B2.out.drew.size) HLA.out).mono ?_
    rintro e v3 ⟨g_p, rfl, ho_p, hb⟩
    replace hb := (Below.refl _ v2).drew.trans hb
    replace ho_p := own_down ho_p (show v2.heap.size ≤ v2.drew.heap.size from Nat.le_refl _)
    have n_A_p : g_A ≠ g_p := by have h1 := KA2.out.lt; have h2 := (ho_p.lt g_p rfl).1; omega
    have n_B_p : g_B ≠ g_p := by have h1 := KB2.out.lt; have h2 := (ho_p.lt g_p rfl).1; omega
    have l_p : w.heap.size ≤ g_p := Nat.le_trans B2.out.size (ho_p.lt g_p rfl).1
    have B3 := Lib.hid (B2.out.trans (hb.mono B2.out.size))
    have KA3 := Lib.hid (KA2.out.below hb)
    have KB3 := Lib.hid (KB2.out.below hb)
    have Op3 := Lib.hid (own_down ho_p (Nat.zero_le _))
    clear hb B2 KA2 KB2 ho_p
    refine hK.out _ _ ⟨KA3.out, KB3.out⟩ (fun hS => ?_)
    clear hK K
    refine wpAnyH_ready (rs := [3]) (by kernel_rfl) (by simp) ?_
    refine AllReadyH.cons (i := 3) rfl (fun K hK => ?zr17) AllReadyH.nil
    rw [if_pos (by rfl)]
    go_simp
    clear hS
    refine (toConn_any p' q' r' st' u' d' t' f' g' h' n' y' a' cap' rs' fi' z' wi' mo' m' c' k' s' v' x' ti' tr' _ ((HB.out.below B3.out).mono B3.out.size) HLB.out).mono ?_
    rintro e v4 ⟨g_q, rfl, ho_q, hb⟩
    have n_A_q : g_A ≠ g_q := by have h1 := KA3.out.lt; have h2 := (ho_q.lt g_q rfl).1; omega
    have n_B_q : g_B ≠ g_q := by have h1 := KB3.out.lt; have h2 := (ho_q.lt g_q rfl).1; omega
    have n_p_q : g_p ≠ g_q := by have h1 := (Op3.out.lt g_p rfl).2; have h2 := (ho_q.lt g_q rfl).1; omega
    have l_q : w.heap.size ≤ g_q := Nat.le_trans B3.out.size (ho_q.lt g_q rfl).1
    have B4 := Lib.hid (B3.out.trans (hb.mono B3.out.size))
    have KA4 := Lib.hid (KA3.out.below hb)
    have KB4 := Lib.hid (KB3.out.below hb)
    have Op4 := Lib.hid (Op3.out.kept (below_any (row := none) hb) (.inr (by simp [Value.ownBlock])))
    have Oq4 := Lib.hid (own_down ho_q (Nat.zero_le _))
    clear hb B3 KA3 KB3 Op3 ho_q
    refine hK.out _ _ ⟨KA4.out, KB4.out⟩ (fun hS => ?_)
    clear hK K
    refine wpAnyH_ready (rs := [4]) (by kernel_rfl) (by simp) ?_
    refine AllReadyH.cons (i := 4) rfl (fun K hK => ?zr18) AllReadyH.nil
    rw [if_pos (by rfl)]
    go_simp
    clear hS
    refine (CS.out g_p g_q _ (Row.ownK Op4.out) (Row.ownK Oq4.out)).mono ?_
    rintro e v5 ⟨rfl, hb⟩
    have B5 := Lib.hid (B4.out.trans (hb.mono B4.out.size))
    have KA5 := Lib.hid (KA4.out.below hb)
    have KB5 := Lib.hid (KB4.out.below hb)
    have Op5 := Lib.hid (Op4.out.kept (below_any (row := none) hb) (.inr (by simp [Value.ownBlock])))
    have Oq5 := Lib.hid (Oq4.out.kept (below_any (row := none) hb) (.inr (by simp [Value.ownBlock])))
    clear hb B4 KA4 KB4 Op4 Oq4
    refine hK.out _ _ ⟨KA5.out, KB5.out⟩ (fun hS => ?_)
    clear hK K
    refine wpAnyH_take (i := 5) (v := .bool true) rfl (by kernel_rfl) (by kernel_rfl) (by kernel_rfl) (fun _ _ _ h => h) (Or.inl ⟨rfl, by intro w hS; go_simp⟩) hS ?_
    refine wpAnyH_done (by kernel_rfl) ?_ _
    refine NoPanic.normal ?_
    have HLA := blk_load (P := Try.prog) 58 KA5.out Try.underlying58 rfl (by kernel_rfl)
    go_wp2_with (refine wpList_load_val rfl _ _ rfl _ _ rfl HLA ?_)
    clear HLA
    refine (toConn_any p q r st u d t f g h n y a cap rs fi z wi mo m c k s v x ti tr _ ((HA.out.below B5.out).mono B5.out.size) HLA.out).mono ?_
    rintro e v6 ⟨g_x, rfl, ho_x, hb⟩
    have n_A_x : g_A ≠ g_x := by have h1 := KA5.out.lt; have h2 := (ho_x.lt g_x rfl).1; omega
    have n_B_x : g_B ≠ g_x := by have h1 := KB5.out.lt; have h2 := (ho_x.lt g_x rfl).1; omega
    have n_p_x : g_p ≠ g_x := by have h1 := (Op5.out.lt g_p rfl).2; have h2 := (ho_x.lt g_x rfl).1; omega
    have n_q_x : g_q ≠ g_x := by have h1 := (Oq5.out.lt g_q rfl).2; have h2 := (ho_x.lt g_x rfl).1; omega
    have l_x : w.heap.size ≤ g_x := Nat.le_trans B5.out.size (ho_x.lt g_x rfl).1
    have B6 := Lib.hid (B5.out.trans (hb.mono B5.out.size))
    have KA6 := Lib.hid (KA5.out.below hb)
    have KB6 := Lib.hid (KB5.out.below hb)
    have Op6 := Lib.hid (Op5.out.kept (below_any (row := none) hb) (.inr (by simp [Value.ownBlock])))
    have Oq6 := Lib.hid (Oq5.out.kept (below_any (row := none) hb) (.inr (by simp [Value.ownBlock])))
    have Ox6 := Lib.hid (own_down ho_x (Nat.zero_le _))
    clear hb B5 KA5 KB5 Op5 Oq5 ho_x
    have KXn := Lib.hid (Blk.new v6 [.int .i64 p, .int .i64 q, .int .i64 r, .int .i64 st, .int .i64 u, .string d, .int .i64 t, .bool f, .bool g, .bool h, .int .i64 n, .string y, .slice (some ⟨g_x, 0, none⟩) rs.length rs.length, .int .i64 fi, .bool z, .int .i64 wi, .int .i64 mo, .int .i64 m, .int .i64 c, .bool k, .bool s, .int .i64 v, .int .i64 x, .int .i64 ti, .int .i64 tr] 36)
    have l_X : w.heap.size ≤ v6.heap.size := B6.out.size
    have n_A_X : g_A ≠ v6.heap.size := by have h1 := KA6.out.lt; omega
    have n_B_X : g_B ≠ v6.heap.size := by have h1 := KB6.out.lt; omega
    have n_p_X : g_p ≠ v6.heap.size := by have h1 := (Op6.out.lt g_p rfl).2; omega
    have n_q_X : g_q ≠ v6.heap.size := by have h1 := (Oq6.out.lt g_q rfl).2; omega
    have n_x_X : g_x ≠ v6.heap.size := by have h1 := (Ox6.out.lt g_x rfl).2; omega
    have Bn := Lib.hid (B6.out.alloc B6.out.size (.cells #[.int .i64 p, .int .i64 q, .int .i64 r, .int .i64 st, .int .i64 u, .string d, .int .i64 t, .bool f, .bool g, .bool h, .int .i64 n, .string y, .slice (some ⟨g_x, 0, none⟩) rs.length rs.length, .int .i64 fi, .bool z, .int .i64 wi, .int .i64 mo, .int .i64 m, .int .i64 c, .bool k, .bool s, .int .i64 v, .int .i64 x, .int .i64 ti, .int .i64 tr] 36))
    have KAn := Lib.hid (KA6.out.alloc (.cells #[.int .i64 p, .int .i64 q, .int .i64 r, .int .i64 st, .int .i64 u, .string d, .int .i64 t, .bool f, .bool g, .bool h, .int .i64 n, .string y, .slice (some ⟨g_x, 0, none⟩) rs.length rs.length, .int .i64 fi, .bool z, .int .i64 wi, .int .i64 mo, .int .i64 m, .int .i64 c, .bool k, .bool s, .int .i64 v, .int .i64 x, .int .i64 ti, .int .i64 tr] 36))
    have KBn := Lib.hid (KB6.out.alloc (.cells #[.int .i64 p, .int .i64 q, .int .i64 r, .int .i64 st, .int .i64 u, .string d, .int .i64 t, .bool f, .bool g, .bool h, .int .i64 n, .string y, .slice (some ⟨g_x, 0, none⟩) rs.length rs.length, .int .i64 fi, .bool z, .int .i64 wi, .int .i64 mo, .int .i64 m, .int .i64 c, .bool k, .bool s, .int .i64 v, .int .i64 x, .int .i64 ti, .int .i64 tr] 36))
    have Opn := Lib.hid (Op6.out.alloc (.cells #[.int .i64 p, .int .i64 q, .int .i64 r, .int .i64 st, .int .i64 u, .string d, .int .i64 t, .bool f, .bool g, .bool h, .int .i64 n, .string y, .slice (some ⟨g_x, 0, none⟩) rs.length rs.length, .int .i64 fi, .bool z, .int .i64 wi, .int .i64 mo, .int .i64 m, .int .i64 c, .bool k, .bool s, .int .i64 v, .int .i64 x, .int .i64 ti, .int .i64 tr] 36))
    have Oqn := Lib.hid (Oq6.out.alloc (.cells #[.int .i64 p, .int .i64 q, .int .i64 r, .int .i64 st, .int .i64 u, .string d, .int .i64 t, .bool f, .bool g, .bool h, .int .i64 n, .string y, .slice (some ⟨g_x, 0, none⟩) rs.length rs.length, .int .i64 fi, .bool z, .int .i64 wi, .int .i64 mo, .int .i64 m, .int .i64 c, .bool k, .bool s, .int .i64 v, .int .i64 x, .int .i64 ti, .int .i64 tr] 36))
    have Oxn := Lib.hid (Ox6.out.alloc (.cells #[.int .i64 p, .int .i64 q, .int .i64 r, .int .i64 st, .int .i64 u, .string d, .int .i64 t, .bool f, .bool g, .bool h, .int .i64 n, .string y, .slice (some ⟨g_x, 0, none⟩) rs.length rs.length, .int .i64 fi, .bool z, .int .i64 wi, .int .i64 mo, .int .i64 m, .int .i64 c, .bool k, .bool s, .int .i64 v, .int .i64 x, .int .i64 ti, .int .i64 tr] 36))
    clear B6 KA6 KB6 Op6 Oq6 Ox6
    have HLB := blk_load (P := Try.prog) 58 KBn.out Try.underlying58 rfl (by kernel_rfl)
    go_wp2_with (first | (refine wpList_store_new rfl _ _ _ rfl rfl rfl rfl rfl (by kernel_rfl) rfl ?_) | (refine wpList_load_val rfl _ _ rfl _ _ rfl HLB ?_))
    clear HLB
    change Calls _ _ _ (v6.alloc (.cells #[.int .i64 p, .int .i64 q, .int .i64 r, .int .i64 st, .int .i64 u, .string d, .int .i64 t, .bool f, .bool g, .bool h, .int .i64 n, .string y, .slice (some ⟨g_x, 0, none⟩) rs.length rs.length, .int .i64 fi, .bool z, .int .i64 wi, .int .i64 mo, .int .i64 m, .int .i64 c, .bool k, .bool s, .int .i64 v, .int .i64 x, .int .i64 ti, .int .i64 tr] 36)) _
    generalize v6.alloc (.cells #[.int .i64 p, .int .i64 q, .int .i64 r, .int .i64 st, .int .i64 u, .string d, .int .i64 t, .bool f, .bool g, .bool h, .int .i64 n, .string y, .slice (some ⟨g_x, 0, none⟩) rs.length rs.length, .int .i64 fi, .bool z, .int .i64 wi, .int .i64 mo, .int .i64 m, .int .i64 c, .bool k, .bool s, .int .i64 v, .int .i64 x, .int .i64 ti, .int .i64 tr] 36) = v7 at KXn Bn KAn KBn Opn Oqn Oxn ⊢
    generalize v6.heap.size = g_X at KXn l_X n_A_X n_B_X n_p_X n_q_X n_x_X ⊢
    clear v6
    have KA7 := KAn
    clear KAn
    have KB7 := KBn
    clear KBn
    have KX7 := KXn
    clear KXn
    have Op7 := Opn
    clear Opn
    have Oq7 := Oqn
    clear Oqn
    have Ox7 := Oxn
    clear Oxn
    have B7 := Bn
    clear Bn
    refine (toConn_any p' q' r' st' u' d' t' f' g' h' n' y' a' cap' rs' fi' z' wi' mo' m' c' k' s' v' x' ti' tr' _ ((HB.out.below B7.out).mono B7.out.size) HLB.out).mono ?_
    rintro e v8 ⟨g_y, rfl, ho_y, hb⟩
    have n_A_y : g_A ≠ g_y := by have h1 := KA7.out.lt; have h2 := (ho_y.lt g_y rfl).1; omega
    have n_B_y : g_B ≠ g_y := by have h1 := KB7.out.lt; have h2 := (ho_y.lt g_y rfl).1; omega
    have n_X_y : g_X ≠ g_y := by have h1 := KX7.out.lt; have h2 := (ho_y.lt g_y rfl).1; omega
    have n_p_y : g_p ≠ g_y := by have h1 := (Op7.out.lt g_p rfl).2; have h2 := (ho_y.lt g_y rfl).1; omega
    have n_q_y : g_q ≠ g_y := by have h1 := (Oq7.out.lt g_q rfl).2; have h2 := (ho_y.lt g_y rfl).1; omega
    have n_x_y : g_x ≠ g_y := by have h1 := (Ox7.out.lt g_x rfl).2; have h2 := (ho_y.lt g_y rfl).1; omega
    have l_y : w.heap.size ≤ g_y := Nat.le_trans B7.out.size (ho_y.lt g_y rfl).1
    have B8 := Lib.hid (B7.out.trans (hb.mono B7.out.size))
    have KA8 := Lib.hid (KA7.out.below hb)
    have KB8 := Lib.hid (KB7.out.below hb)
    have KX8 := Lib.hid (KX7.out.below hb)
    have Op8 := Lib.hid (Op7.out.kept (below_any (row := none) hb) (.inr (by simp [Value.ownBlock])))
    have Oq8 := Lib.hid (Oq7.out.kept (below_any (row := none) hb) (.inr (by simp [Value.ownBlock])))
    have Ox8 := Lib.hid (Ox7.out.kept (below_any (row := none) hb) (.inr (by simp [Value.ownBlock])))
    have Oy8 := Lib.hid (own_down ho_y (Nat.zero_le _))
    clear hb B7 KA7 KB7 KX7 Op7 Oq7 Ox7 ho_y
    have KYn := Lib.hid (Blk.new v8 [.int .i64 p', .int .i64 q', .int .i64 r', .int .i64 st', .int .i64 u', .string d', .int .i64 t', .bool f', .bool g', .bool h', .int .i64 n', .string y', .slice (some ⟨g_y, 0, none⟩) rs'.length rs'.length, .int .i64 fi', .bool z', .int .i64 wi', .int .i64 mo', .int .i64 m', .int .i64 c', .bool k', .bool s', .int .i64 v', .int .i64 x', .int .i64 ti', .int .i64 tr'] 36)
    have l_Y : w.heap.size ≤ v8.heap.size := B8.out.size
    have n_A_Y : g_A ≠ v8.heap.size := by have h1 := KA8.out.lt; omega
    have n_B_Y : g_B ≠ v8.heap.size := by have h1 := KB8.out.lt; omega
    have n_X_Y : g_X ≠ v8.heap.size := by have h1 := KX8.out.lt; omega
    have n_p_Y : g_p ≠ v8.heap.size := by have h1 := (Op8.out.lt g_p rfl).2; omega
    have n_q_Y : g_q ≠ v8.heap.size := by have h1 := (Oq8.out.lt g_q rfl).2; omega
    have n_x_Y : g_x ≠ v8.heap.size := by have h1 := (Ox8.out.lt g_x rfl).2; omega
    have n_y_Y : g_y ≠ v8.heap.size := by have h1 := (Oy8.out.lt g_y rfl).2; omega
    have Bn := Lib.hid (B8.out.alloc B8.out.size (.cells #[.int .i64 p', .int .i64 q', .int .i64 r', .int .i64 st', .int .i64 u', .string d', .int .i64 t', .bool f', .bool g', .bool h', .int .i64 n', .string y', .slice (some ⟨g_y, 0, none⟩) rs'.length rs'.length, .int .i64 fi', .bool z', .int .i64 wi', .int .i64 mo', .int .i64 m', .int .i64 c', .bool k', .bool s', .int .i64 v', .int .i64 x', .int .i64 ti', .int .i64 tr'] 36))
    have KAn := Lib.hid (KA8.out.alloc (.cells #[.int .i64 p', .int .i64 q', .int .i64 r', .int .i64 st', .int .i64 u', .string d', .int .i64 t', .bool f', .bool g', .bool h', .int .i64 n', .string y', .slice (some ⟨g_y, 0, none⟩) rs'.length rs'.length, .int .i64 fi', .bool z', .int .i64 wi', .int .i64 mo', .int .i64 m', .int .i64 c', .bool k', .bool s', .int .i64 v', .int .i64 x', .int .i64 ti', .int .i64 tr'] 36))
    have KBn := Lib.hid (KB8.out.alloc (.cells #[.int .i64 p', .int .i64 q', .int .i64 r', .int .i64 st', .int .i64 u', .string d', .int .i64 t', .bool f', .bool g', .bool h', .int .i64 n', .string y', .slice (some ⟨g_y, 0, none⟩) rs'.length rs'.length, .int .i64 fi', .bool z', .int .i64 wi', .int .i64 mo', .int .i64 m', .int .i64 c', .bool k', .bool s', .int .i64 v', .int .i64 x', .int .i64 ti', .int .i64 tr'] 36))
    have KXn := Lib.hid (KX8.out.alloc (.cells #[.int .i64 p', .int .i64 q', .int .i64 r', .int .i64 st', .int .i64 u', .string d', .int .i64 t', .bool f', .bool g', .bool h', .int .i64 n', .string y', .slice (some ⟨g_y, 0, none⟩) rs'.length rs'.length, .int .i64 fi', .bool z', .int .i64 wi', .int .i64 mo', .int .i64 m', .int .i64 c', .bool k', .bool s', .int .i64 v', .int .i64 x', .int .i64 ti', .int .i64 tr'] 36))
    have Opn := Lib.hid (Op8.out.alloc (.cells #[.int .i64 p', .int .i64 q', .int .i64 r', .int .i64 st', .int .i64 u', .string d', .int .i64 t', .bool f', .bool g', .bool h', .int .i64 n', .string y', .slice (some ⟨g_y, 0, none⟩) rs'.length rs'.length, .int .i64 fi', .bool z', .int .i64 wi', .int .i64 mo', .int .i64 m', .int .i64 c', .bool k', .bool s', .int .i64 v', .int .i64 x', .int .i64 ti', .int .i64 tr'] 36))
    have Oqn := Lib.hid (Oq8.out.alloc (.cells #[.int .i64 p', .int .i64 q', .int .i64 r', .int .i64 st', .int .i64 u', .string d', .int .i64 t', .bool f', .bool g', .bool h', .int .i64 n', .string y', .slice (some ⟨g_y, 0, none⟩) rs'.length rs'.length, .int .i64 fi', .bool z', .int .i64 wi', .int .i64 mo', .int .i64 m', .int .i64 c', .bool k', .bool s', .int .i64 v', .int .i64 x', .int .i64 ti', .int .i64 tr'] 36))
    have Oxn := Lib.hid (Ox8.out.alloc (.cells #[.int .i64 p', .int .i64 q', .int .i64 r', .int .i64 st', .int .i64 u', .string d', .int .i64 t', .bool f', .bool g', .bool h', .int .i64 n', .string y', .slice (some ⟨g_y, 0, none⟩) rs'.length rs'.length, .int .i64 fi', .bool z', .int .i64 wi', .int .i64 mo', .int .i64 m', .int .i64 c', .bool k', .bool s', .int .i64 v', .int .i64 x', .int .i64 ti', .int .i64 tr'] 36))
    have Oyn := Lib.hid (Oy8.out.alloc (.cells #[.int .i64 p', .int .i64 q', .int .i64 r', .int .i64 st', .int .i64 u', .string d', .int .i64 t', .bool f', .bool g', .bool h', .int .i64 n', .string y', .slice (some ⟨g_y, 0, none⟩) rs'.length rs'.length, .int .i64 fi', .bool z', .int .i64 wi', .int .i64 mo', .int .i64 m', .int .i64 c', .bool k', .bool s', .int .i64 v', .int .i64 x', .int .i64 ti', .int .i64 tr'] 36))
    clear B8 KA8 KB8 KX8 Op8 Oq8 Ox8 Oy8
    have HLX := blk_load (P := Try.prog) 36 KXn.out Try.underlying36 rfl (by kernel_rfl)
    have HLY := blk_load (P := Try.prog) 36 KYn.out Try.underlying36 rfl (by kernel_rfl)
    go_wp2_with (first | (refine wpList_store_new rfl _ _ _ rfl rfl rfl rfl rfl (by kernel_rfl) rfl ?_) | (refine wpList_load_val rfl _ _ rfl _ _ rfl HLX ?_) | (refine wpList_load_val rfl _ _ rfl _ _ rfl HLY ?_))
    clear HLX HLY
    change Calls _ _ _ (v8.alloc (.cells #[.int .i64 p', .int .i64 q', .int .i64 r', .int .i64 st', .int .i64 u', .string d', .int .i64 t', .bool f', .bool g', .bool h', .int .i64 n', .string y', .slice (some ⟨g_y, 0, none⟩) rs'.length rs'.length, .int .i64 fi', .bool z', .int .i64 wi', .int .i64 mo', .int .i64 m', .int .i64 c', .bool k', .bool s', .int .i64 v', .int .i64 x', .int .i64 ti', .int .i64 tr'] 36)) _
    generalize v8.alloc (.cells #[.int .i64 p', .int .i64 q', .int .i64 r', .int .i64 st', .int .i64 u', .string d', .int .i64 t', .bool f', .bool g', .bool h', .int .i64 n', .string y', .slice (some ⟨g_y, 0, none⟩) rs'.length rs'.length, .int .i64 fi', .bool z', .int .i64 wi', .int .i64 mo', .int .i64 m', .int .i64 c', .bool k', .bool s', .int .i64 v', .int .i64 x', .int .i64 ti', .int .i64 tr'] 36) = v9 at KYn Bn KAn KBn KXn Opn Oqn Oxn Oyn ⊢
    generalize v8.heap.size = g_Y at KYn l_Y n_A_Y n_B_Y n_X_Y n_p_Y n_q_Y n_x_Y n_y_Y ⊢
    clear v8
    have KA9 := KAn
    clear KAn
    have KB9 := KBn
    clear KBn
    have KX9 := KXn
    clear KXn
    have KY9 := KYn
    clear KYn
    have Op9 := Opn
    clear Opn
    have Oq9 := Oqn
    clear Oqn
    have Ox9 := Oxn
    clear Oxn
    have Oy9 := Oyn
    clear Oyn
    have B9 := Bn
    clear Bn
    refine (CI.out g_x g_y _ (Row.ownK Ox9.out) (Row.ownK Oy9.out)).mono ?_
    rintro e v10 ⟨rfl, hb⟩
    have B10 := Lib.hid (B9.out.trans (hb.mono B9.out.size))
    have KA10 := Lib.hid (KA9.out.below hb)
    have KB10 := Lib.hid (KB9.out.below hb)
    have KX10 := Lib.hid (KX9.out.below hb)
    have KY10 := Lib.hid (KY9.out.below hb)
    have Op10 := Lib.hid (Op9.out.kept (below_any (row := none) hb) (.inr (by simp [Value.ownBlock])))
    have Oq10 := Lib.hid (Oq9.out.kept (below_any (row := none) hb) (.inr (by simp [Value.ownBlock])))
    have Ox10 := Lib.hid (Ox9.out.kept (below_any (row := none) hb) (.inr (by simp [Value.ownBlock])))
    have Oy10 := Lib.hid (Oy9.out.kept (below_any (row := none) hb) (.inr (by simp [Value.ownBlock])))
    clear hb B9 KA9 KB9 KX9 KY9 Op9 Oq9 Ox9 Oy9
    go_wp2_with fail
    refine wp_region_noPanic ?_
    refine wp_region_held_drew (S := fun w' => Blk w' g_X [.int .i64 p, .int .i64 q, .int .i64 r, .int .i64 st, .int .i64 u, .string d, .int .i64 t, .bool f, .bool g, .bool h, .int .i64 n, .string y, .slice (some ⟨g_x, 0, none⟩) rs.length rs.length, .int .i64 fi, .bool z, .int .i64 wi, .int .i64 mo, .int .i64 m, .int .i64 c, .bool k, .bool s, .int .i64 v, .int .i64 x, .int .i64 ti, .int .i64 tr] ∧ Blk w' g_A [.int .i64 p, .int .i64 q, .int .i64 r, .int .i64 st, .int .i64 u, .string d, .int .i64 t, .bool f, .bool g, .bool h, .int .i64 n, .string y, .slice a rs.length cap, .int .i64 fi, .bool z, .int .i64 wi, .int .i64 mo, .int .i64 m, .int .i64 c, .bool k, .bool s, .int .i64 v, .int .i64 x, .int .i64 ti, .int .i64 tr]) (by kernel_rfl) ⟨KX10.out, KA10.out⟩ (fun hS => ?_)
    refine wpAnyH_take (i := 0) (v := .agg #[.int .i64 p, .int .i64 q, .int .i64 r, .int .i64 st, .int .i64 u, .string d, .int .i64 t, .bool f, .bool g, .bool h, .int .i64 n, .string y, .slice (some ⟨g_x, 0, none⟩) rs.length rs.length, .int .i64 fi, .bool z, .int .i64 wi, .int .i64 mo, .int .i64 m, .int .i64 c, .bool k, .bool s, .int .i64 v, .int .i64 x, .int .i64 ti, .int .i64 tr]) rfl (by kernel_rfl) (by kernel_rfl) (by kernel_rfl) (fun _ _ _ h => h) (yieldsIf_load_mid rfl 36 _ rfl g_X 0 rfl [.int .i64 p, .int .i64 q, .int .i64 r, .int .i64 st, .int .i64 u, .string d, .int .i64 t, .bool f, .bool g, .bool h, .int .i64 n, .string y, .slice (some ⟨g_x, 0, none⟩) rs.length rs.length, .int .i64 fi, .bool z, .int .i64 wi, .int .i64 mo, .int .i64 m, .int .i64 c, .bool k, .bool s, .int .i64 v, .int .i64 x, .int .i64 ti, .int .i64 tr] _ (fun w hS => (hS.1).range) Try.underlying36 rfl (by kernel_rfl)) hS ?_
    refine wpAnyH_take (i := 1) (v := .agg #[.int .i64 p, .int .i64 q, .int .i64 r, .int .i64 st, .int .i64 u, .string d, .int .i64 t, .bool f, .bool g, .bool h, .int .i64 n, .string y, .slice a rs.length cap, .int .i64 fi, .bool z, .int .i64 wi, .int .i64 mo, .int .i64 m, .int .i64 c, .bool k, .bool s, .int .i64 v, .int .i64 x, .int .i64 ti, .int .i64 tr]) rfl (by kernel_rfl) (by kernel_rfl) (by kernel_rfl) (fun _ _ _ h => h) (yieldsIf_load_mid rfl 58 _ rfl g_A 0 rfl [.int .i64 p, .int .i64 q, .int .i64 r, .int .i64 st, .int .i64 u, .string d, .int .i64 t, .bool f, .bool g, .bool h, .int .i64 n, .string y, .slice a rs.length cap, .int .i64 fi, .bool z, .int .i64 wi, .int .i64 mo, .int .i64 m, .int .i64 c, .bool k, .bool s, .int .i64 v, .int .i64 x, .int .i64 ti, .int .i64 tr] _ (fun w hS => (hS.2).range) Try.underlying58 rfl (by kernel_rfl)) hS ?_
    refine wpAnyH_ready (rs := [2]) (by kernel_rfl) (by simp) ?_
    refine AllReadyH.cons (i := 2) rfl (fun K hK => ?zr19) AllReadyH.nil
    rw [if_pos (by rfl)]
    go_simp
    clear hS
    refine (toConn_any p q r st u d t f g h n y a cap rs fi z wi mo m c k s v x ti tr _ ((HA.out.below B10.out.drew).mono B10.out.drew.size) HLA.out).mono ?_
    rintro e v11 ⟨g_zz, rfl, ho_zz, hb⟩
    replace hb := (Below.refl _ v10).drew.trans hb
    replace ho_zz := own_down ho_zz (show v10.heap.size ≤ v10.drew.heap.size from Nat.le_refl _)
    have n_A_zz : g_A ≠ g_zz := by have h1 := KA10.out.lt; have h2 := (ho_zz.lt g_zz rfl).1; omega
    have n_B_zz : g_B ≠ g_zz := by have h1 := KB10.out.lt; have h2 := (ho_zz.lt g_zz rfl).1; omega
    have n_X_zz : g_X ≠ g_zz := by have h1 := KX10.out.lt; have h2 := (ho_zz.lt g_zz rfl).1; omega
    have n_Y_zz : g_Y ≠ g_zz := by have h1 := KY10.out.lt; have h2 := (ho_zz.lt g_zz rfl).1; omega
    have n_p_zz : g_p ≠ g_zz := by have h1 := (Op10.out.lt g_p rfl).2; have h2 := (ho_zz.lt g_zz rfl).1; omega
    have n_q_zz : g_q ≠ g_zz := by have h1 := (Oq10.out.lt g_q rfl).2; have h2 := (ho_zz.lt g_zz rfl).1; omega
    have n_x_zz : g_x ≠ g_zz := by have h1 := (Ox10.out.lt g_x rfl).2; have h2 := (ho_zz.lt g_zz rfl).1; omega
    have n_y_zz : g_y ≠ g_zz := by have h1 := (Oy10.out.lt g_y rfl).2; have h2 := (ho_zz.lt g_zz rfl).1; omega
    have l_zz : w.heap.size ≤ g_zz := Nat.le_trans B10.out.size (ho_zz.lt g_zz rfl).1
    have B11 := Lib.hid (B10.out.trans (hb.mono B10.out.size))
    have KA11 := Lib.hid (KA10.out.below hb)
    have KB11 := Lib.hid (KB10.out.below hb)
    have KX11 := Lib.hid (KX10.out.below hb)
    have KY11 := Lib.hid (KY10.out.below hb)
    have Op11 := Lib.hid (Op10.out.kept (below_any (row := none) hb) (.inr (by simp [Value.ownBlock])))
    have Oq11 := Lib.hid (Oq10.out.kept (below_any (row := none) hb) (.inr (by simp [Value.ownBlock])))
    have Ox11 := Lib.hid (Ox10.out.kept (below_any (row := none) hb) (.inr (by simp [Value.ownBlock])))
    have Oy11 := Lib.hid (Oy10.out.kept (below_any (row := none) hb) (.inr (by simp [Value.ownBlock])))
    have Ozz11 := Lib.hid (own_down ho_zz (Nat.zero_le _))
    clear hb B10 KA10 KB10 KX10 KY10 Op10 Oq10 Ox10 Oy10 ho_zz
    refine hK.out _ _ ⟨KX11.out, KA11.out⟩ (fun hS => ?_)
    clear hK K
    refine wpAnyH_ready (rs := [3]) (by kernel_rfl) (by simp) ?_
    refine AllReadyH.cons (i := 3) rfl (fun K hK => ?zr20) AllReadyH.nil
    rw [if_pos (by rfl)]
    go_simp
    clear hS
    refine (eqConn_self p q r st u d t f g h n y (some ⟨g_x, 0, none⟩) rs.length rs fi z wi mo m c k s v x ti tr (some ⟨g_zz, 0, none⟩) rs.length _ (Row.ownK Ox11.out) (Row.ownK Ozz11.out) HLA.out).mono ?_
    rintro e v12 ⟨rfl, hb⟩
    have B12 := Lib.hid (B11.out.trans (hb.mono B11.out.size))
    have KA12 := Lib.hid (KA11.out.below hb)
    have KB12 := Lib.hid (KB11.out.below hb)
    have KX12 := Lib.hid (KX11.out.below hb)
    have KY12 := Lib.hid (KY11.out.below hb)
    have Op12 := Lib.hid (Op11.out.kept (below_any (row := none) hb) (.inr (by simp [Value.ownBlock])))
    have Oq12 := Lib.hid (Oq11.out.kept (below_any (row := none) hb) (.inr (by simp [Value.ownBlock])))
    have Ox12 := Lib.hid (Ox11.out.kept (below_any (row := none) hb) (.inr (by simp [Value.ownBlock])))
    have Oy12 := Lib.hid (Oy11.out.kept (below_any (row := none) hb) (.inr (by simp [Value.ownBlock])))
    have Ozz12 := Lib.hid (Ozz11.out.kept (below_any (row := none) hb) (.inr (by simp [Value.ownBlock])))
    clear hb B11 KA11 KB11 KX11 KY11 Op11 Oq11 Ox11 Oy11 Ozz11
    refine hK.out _ _ ⟨KX12.out, KA12.out⟩ (fun hS => ?_)
    clear hK K
    refine wpAnyH_take (i := 4) (v := .bool false) rfl (by kernel_rfl) (by kernel_rfl) (by kernel_rfl) (fun _ _ _ h => h) (Or.inl ⟨rfl, by intro w hS; go_simp⟩) hS ?_
    refine wpAnyH_done (by kernel_rfl) ?_ _
    refine NoPanic.normal ?_
    go_wp2_with fail
    refine wp_region_noPanic ?_
    refine wp_region_held_drew (S := fun w' => Blk w' g_Y [.int .i64 p', .int .i64 q', .int .i64 r', .int .i64 st', .int .i64 u', .string d', .int .i64 t', .bool f', .bool g', .bool h', .int .i64 n', .string y', .slice (some ⟨g_y, 0, none⟩) rs'.length rs'.length, .int .i64 fi', .bool z', .int .i64 wi', .int .i64 mo', .int .i64 m', .int .i64 c', .bool k', .bool s', .int .i64 v', .int .i64 x', .int .i64 ti', .int .i64 tr'] ∧ Blk w' g_B [.int .i64 p', .int .i64 q', .int .i64 r', .int .i64 st', .int .i64 u', .string d', .int .i64 t', .bool f', .bool g', .bool h', .int .i64 n', .string y', .slice a' rs'.length cap', .int .i64 fi', .bool z', .int .i64 wi', .int .i64 mo', .int .i64 m', .int .i64 c', .bool k', .bool s', .int .i64 v', .int .i64 x', .int .i64 ti', .int .i64 tr']) (by kernel_rfl) ⟨KY12.out, KB12.out⟩ (fun hS => ?_)
    refine wpAnyH_take (i := 0) (v := .agg #[.int .i64 p', .int .i64 q', .int .i64 r', .int .i64 st', .int .i64 u', .string d', .int .i64 t', .bool f', .bool g', .bool h', .int .i64 n', .string y', .slice (some ⟨g_y, 0, none⟩) rs'.length rs'.length, .int .i64 fi', .bool z', .int .i64 wi', .int .i64 mo', .int .i64 m', .int .i64 c', .bool k', .bool s', .int .i64 v', .int .i64 x', .int .i64 ti', .int .i64 tr']) rfl (by kernel_rfl) (by kernel_rfl) (by kernel_rfl) (fun _ _ _ h => h) (yieldsIf_load_mid rfl 36 _ rfl g_Y 0 rfl [.int .i64 p', .int .i64 q', .int .i64 r', .int .i64 st', .int .i64 u', .string d', .int .i64 t', .bool f', .bool g', .bool h', .int .i64 n', .string y', .slice (some ⟨g_y, 0, none⟩) rs'.length rs'.length, .int .i64 fi', .bool z', .int .i64 wi', .int .i64 mo', .int .i64 m', .int .i64 c', .bool k', .bool s', .int .i64 v', .int .i64 x', .int .i64 ti', .int .i64 tr'] _ (fun w hS => (hS.1).range) Try.underlying36 rfl (by kernel_rfl)) hS ?_
    refine wpAnyH_take (i := 1) (v := .agg #[.int .i64 p', .int .i64 q', .int .i64 r', .int .i64 st', .int .i64 u', .string d', .int .i64 t', .bool f', .bool g', .bool h', .int .i64 n', .string y', .slice a' rs'.length cap', .int .i64 fi', .bool z', .int .i64 wi', .int .i64 mo', .int .i64 m', .int .i64 c', .bool k', .bool s', .int .i64 v', .int .i64 x', .int .i64 ti', .int .i64 tr']) rfl (by kernel_rfl) (by kernel_rfl) (by kernel_rfl) (fun _ _ _ h => h) (yieldsIf_load_mid rfl 58 _ rfl g_B 0 rfl [.int .i64 p', .int .i64 q', .int .i64 r', .int .i64 st', .int .i64 u', .string d', .int .i64 t', .bool f', .bool g', .bool h', .int .i64 n', .string y', .slice a' rs'.length cap', .int .i64 fi', .bool z', .int .i64 wi', .int .i64 mo', .int .i64 m', .int .i64 c', .bool k', .bool s', .int .i64 v', .int .i64 x', .int .i64 ti', .int .i64 tr'] _ (fun w hS => (hS.2).range) Try.underlying58 rfl (by kernel_rfl)) hS ?_
    refine wpAnyH_ready (rs := [2]) (by kernel_rfl) (by simp) ?_
    refine AllReadyH.cons (i := 2) rfl (fun K hK => ?zr21) AllReadyH.nil
    rw [if_pos (by rfl)]
    go_simp
    clear hS
    refine (toConn_any p' q' r' st' u' d' t' f' g' h' n' y' a' cap' rs' fi' z' wi' mo' m' c' k' s' v' x' ti' tr' _ ((HB.out.below B12.out.drew).mono B12.out.drew.size) HLB.out).mono ?_
    rintro e v13 ⟨g_yy, rfl, ho_yy, hb⟩
    replace hb := (Below.refl _ v12).drew.trans hb
    replace ho_yy := own_down ho_yy (show v12.heap.size ≤ v12.drew.heap.size from Nat.le_refl _)
    have n_A_yy : g_A ≠ g_yy := by have h1 := KA12.out.lt; have h2 := (ho_yy.lt g_yy rfl).1; omega
    have n_B_yy : g_B ≠ g_yy := by have h1 := KB12.out.lt; have h2 := (ho_yy.lt g_yy rfl).1; omega
    have n_X_yy : g_X ≠ g_yy := by have h1 := KX12.out.lt; have h2 := (ho_yy.lt g_yy rfl).1; omega
    have n_Y_yy : g_Y ≠ g_yy := by have h1 := KY12.out.lt; have h2 := (ho_yy.lt g_yy rfl).1; omega
    have n_p_yy : g_p ≠ g_yy := by have h1 := (Op12.out.lt g_p rfl).2; have h2 := (ho_yy.lt g_yy rfl).1; omega
    have n_q_yy : g_q ≠ g_yy := by have h1 := (Oq12.out.lt g_q rfl).2; have h2 := (ho_yy.lt g_yy rfl).1; omega
    have n_x_yy : g_x ≠ g_yy := by have h1 := (Ox12.out.lt g_x rfl).2; have h2 := (ho_yy.lt g_yy rfl).1; omega
    have n_y_yy : g_y ≠ g_yy := by have h1 := (Oy12.out.lt g_y rfl).2; have h2 := (ho_yy.lt g_yy rfl).1; omega
    have n_zz_yy : g_zz ≠ g_yy := by have h1 := (Ozz12.out.lt g_zz rfl).2; have h2 := (ho_yy.lt g_yy rfl).1; omega
    have l_yy : w.heap.size ≤ g_yy := Nat.le_trans B12.out.size (ho_yy.lt g_yy rfl).1
    have B13 := Lib.hid (B12.out.trans (hb.mono B12.out.size))
    have KA13 := Lib.hid (KA12.out.below hb)
    have KB13 := Lib.hid (KB12.out.below hb)
    have KX13 := Lib.hid (KX12.out.below hb)
    have KY13 := Lib.hid (KY12.out.below hb)
    have Op13 := Lib.hid (Op12.out.kept (below_any (row := none) hb) (.inr (by simp [Value.ownBlock])))
    have Oq13 := Lib.hid (Oq12.out.kept (below_any (row := none) hb) (.inr (by simp [Value.ownBlock])))
    have Ox13 := Lib.hid (Ox12.out.kept (below_any (row := none) hb) (.inr (by simp [Value.ownBlock])))
    have Oy13 := Lib.hid (Oy12.out.kept (below_any (row := none) hb) (.inr (by simp [Value.ownBlock])))
    have Ozz13 := Lib.hid (Ozz12.out.kept (below_any (row := none) hb) (.inr (by simp [Value.ownBlock])))
    have Oyy13 := Lib.hid (own_down ho_yy (Nat.zero_le _))
    clear hb B12 KA12 KB12 KX12 KY12 Op12 Oq12 Ox12 Oy12 Ozz12 ho_yy
    refine hK.out _ _ ⟨KY13.out, KB13.out⟩ (fun hS => ?_)
    clear hK K
    refine wpAnyH_ready (rs := [3]) (by kernel_rfl) (by simp) ?_
    refine AllReadyH.cons (i := 3) rfl (fun K hK => ?zr22) AllReadyH.nil
    rw [if_pos (by rfl)]
    go_simp
    clear hS
    refine (eqConn_self p' q' r' st' u' d' t' f' g' h' n' y' (some ⟨g_y, 0, none⟩) rs'.length rs' fi' z' wi' mo' m' c' k' s' v' x' ti' tr' (some ⟨g_yy, 0, none⟩) rs'.length _ (Row.ownK Oy13.out) (Row.ownK Oyy13.out) HLB.out).mono ?_
    rintro e v14 ⟨rfl, hb⟩
    have B14 := Lib.hid (B13.out.trans (hb.mono B13.out.size))
    have KA14 := Lib.hid (KA13.out.below hb)
    have KB14 := Lib.hid (KB13.out.below hb)
    have KX14 := Lib.hid (KX13.out.below hb)
    have KY14 := Lib.hid (KY13.out.below hb)
    have Op14 := Lib.hid (Op13.out.kept (below_any (row := none) hb) (.inr (by simp [Value.ownBlock])))
    have Oq14 := Lib.hid (Oq13.out.kept (below_any (row := none) hb) (.inr (by simp [Value.ownBlock])))
    have Ox14 := Lib.hid (Ox13.out.kept (below_any (row := none) hb) (.inr (by simp [Value.ownBlock])))
    have Oy14 := Lib.hid (Oy13.out.kept (below_any (row := none) hb) (.inr (by simp [Value.ownBlock])))
    have Ozz14 := Lib.hid (Ozz13.out.kept (below_any (row := none) hb) (.inr (by simp [Value.ownBlock])))
    have Oyy14 := Lib.hid (Oyy13.out.kept (below_any (row := none) hb) (.inr (by simp [Value.ownBlock])))
    clear hb B13 KA13 KB13 KX13 KY13 Op13 Oq13 Ox13 Oy13 Ozz13 Oyy13
    refine hK.out _ _ ⟨KY14.out, KB14.out⟩ (fun hS => ?_)
    clear hK K
    refine wpAnyH_take (i := 4) (v := .bool false) rfl (by kernel_rfl) (by kernel_rfl) (by kernel_rfl) (fun _ _ _ h => h) (Or.inl ⟨rfl, by intro w hS; go_simp⟩) hS ?_
    refine wpAnyH_done (by kernel_rfl) ?_ _
    refine NoPanic.normal ?_
    go_wp2_with fail
    go_ret
    exact ⟨rfl, B14.out⟩

theorem walk {w : World} (p q r st u : Int) (d : ByteArray) (t : Int) (f g h : Bool) (n : Int) (y : ByteArray) (a : Option Addr) (len cap : Nat) (rs : List HP) (fi : Int) (z : Bool) (wi mo m c : Int) (k s : Bool) (v x ti tr : Int) (p' q' r' st' u' : Int) (d' : ByteArray) (t' : Int) (f' g' h' : Bool) (n' : Int) (y' : ByteArray) (a' : Option Addr) (len' cap' : Nat) (rs' : List HP) (fi' : Int) (z' : Bool) (wi' mo' m' c' : Int) (k' s' : Bool) (v' x' ti' tr' : Int) (hA : LawC w d y a len cap rs) (hB : LawC w d' y' a' len' cap' rs') : Calls Try.prog 6 #[.agg #[.int .i64 p, .int .i64 q, .int .i64 r, .int .i64 st, .int .i64 u, .string d, .int .i64 t, .bool f, .bool g, .bool h, .int .i64 n, .string y, .slice a len cap, .int .i64 fi, .bool z, .int .i64 wi, .int .i64 mo, .int .i64 m, .int .i64 c, .bool k, .bool s, .int .i64 v, .int .i64 x, .int .i64 ti, .int .i64 tr], .agg #[.int .i64 p', .int .i64 q', .int .i64 r', .int .i64 st', .int .i64 u', .string d', .int .i64 t', .bool f', .bool g', .bool h', .int .i64 n', .string y', .slice a' len' cap', .int .i64 fi', .bool z', .int .i64 wi', .int .i64 mo', .int .i64 m', .int .i64 c', .bool k', .bool s', .int .i64 v', .int .i64 x', .int .i64 ti', .int .i64 tr']] w (OkB w) := by
  obtain ⟨hdA, hyA, ⟨rfl, a1A, a2A, a3A⟩, hrowA⟩ := hA
  obtain ⟨hdB, hyB, ⟨rfl, a1B, a2B, a3B⟩, hrowB⟩ := hB
  exact go p q r st u d t f g h n y a cap rs fi z wi mo m c k s v x ti tr p' q' r' st' u' d' t' f' g' h' n' y' a' cap' rs' fi' z' wi' mo' m' c' k' s' v' x' ti' tr' w hrowA hdA hyA (Nat.le_trans a1A a2A) (fun r hr => (a3A r hr).2) hrowB hdB hyB (Nat.le_trans a1B a2B) (fun r hr => (a3B r hr).2)
theorem own : ownKnob Try.prog.godebug = none := by kernel_rfl
theorem laidOut : laidOutB Try.prog = true := by kernel_rfl

set_option maxHeartbeats 8000000 in
set_option maxRecDepth 100000 in
theorem lifted (os : Os) (started : os.Started) (H : Type) (enc : TypeId × Value → H) :
    ReturnsInHanded {} Try.checked os 6 .any (Rows.fnExactSameConnSpec.pre6 enc Try.prog Try.f6 Rows.fnExactSameConnRow.domain false) (Rows.fnExactSameConnSpec.post enc Try.prog Try.f6 false true false false) := by
  refine returnsInHanded_of_change (C := Try.checked) own started (by kernel_rfl) Try.func6
    (ChangeSpec.witness6 (enc := enc) (C := Try.checked) false ⟨#[], #[.agg #[.int .i64 0, .int .i64 0, .int .i64 0, .int .i64 0, .int .i64 0, .string ByteArray.empty, .int .i64 0, .bool false, .bool false, .bool false, .int .i64 0, .string ByteArray.empty, .slice none 0 0, .int .i64 0, .bool false, .int .i64 0, .int .i64 0, .int .i64 0, .int .i64 0, .bool false, .bool false, .int .i64 0, .int .i64 0, .int .i64 0, .int .i64 0], .agg #[.int .i64 0, .int .i64 0, .int .i64 0, .int .i64 0, .int .i64 0, .string ByteArray.empty, .int .i64 0, .bool false, .bool false, .bool false, .int .i64 0, .string ByteArray.empty, .slice none 0 0, .int .i64 0, .bool false, .int .i64 0, .int .i64 0, .int .i64 0, .int .i64 0, .bool false, .bool false, .int .i64 0, .int .i64 0, .int .i64 0, .int .i64 0]], []⟩ 8 (by kernel_rfl) (by kernel_rfl) (by kernel_rfl) (by kernel_rfl)) ?_
  intro W base args ds gs before hval0 hW _ _
  have hval : ∀ (j : Nat) t v, Try.f6.params[j]? = some t → args[j]? = some v → Value.okWide Try.prog W .any base t v := hval0
  have hW' := hW
  obtain ⟨p, q, hA0, hV, rfl, _, _⟩ := hW
  have hA : DataW.TrodAll enc Try.prog W 0 (fun _ => true) true Try.f6.params.toList args.toList ds p := hA0
  rw [Try.params6] at hA hval
  obtain ⟨v0, vs0, d0, ds0, p0, q0, hargs, rfl, rfl, h0, r0⟩ := trodAll_cons hA
  obtain ⟨v1, vs1, d1, ds1, p1, q1, rfl, rfl, rfl, h1, r1⟩ := trodAll_cons r0
  obtain ⟨rfl, rfl, rfl⟩ := trodAll_nil r1
  obtain rfl : args = #[v0, v1] := by cases args; simp_all
  obtain ⟨rfl, rfl⟩ := trodVars_none hV
  have k0 := h0
  have lt0 : ∀ x ∈ p0, x.block < W.heap.size := by obtain ⟨m, hm⟩ := k0; exact DataW.trod_lt m _ _ _ hm
  obtain ⟨xp0, xq0, xr0, xst0, xu0, xd0, xt0, xf0, xg0, xh0, xn0, xy0, xa0, xlen0, xcap0, xrs0, xfi0, xz0, xwi0, xmo0, xm0, xc0, xk0, xs0, xv0, xx0, xti0, xtr0, rfl, w0⟩ := argConn (hval 0 58 v0 rfl rfl) h0
  have k1 := h1
  have lt1 : ∀ x ∈ p1, x.block < W.heap.size := by obtain ⟨m, hm⟩ := k1; exact DataW.trod_lt m _ _ _ hm
  obtain ⟨xp1, xq1, xr1, xst1, xu1, xd1, xt1, xf1, xg1, xh1, xn1, xy1, xa1, xlen1, xcap1, xrs1, xfi1, xz1, xwi1, xmo1, xm1, xc1, xk1, xs1, xv1, xx1, xti1, xtr1, rfl, w1⟩ := argConn (hval 1 58 v1 rfl rfl) h1
  clear hA0 hval0
  refine (walk xp0 xq0 xr0 xst0 xu0 xd0 xt0 xf0 xg0 xh0 xn0 xy0 xa0 xlen0 xcap0 xrs0 xfi0 xz0 xwi0 xmo0 xm0 xc0 xk0 xs0 xv0 xx0 xti0 xtr0 xp1 xq1 xr1 xst1 xu1 xd1 xt1 xf1 xg1 xh1 xn1 xy1 xa1 xlen1 xcap1 xrs1 xfi1 xz1 xwi1 xmo1 xm1 xc1 xk1 xs1 xv1 xx1 xti1 xtr1 w0 w1).mono fun e W' ⟨he, bel⟩ => ?_
  subst he
  exact ⟨_, rfl, _, _, _, [], _, [], hW', trodAll_mk1 (shut_bool Try.underlying4 _), (trodAll_cons_mk (Below.trod laidOut (by kernel_rfl) (of_decide_eq_true (by kernel_rfl)) k0 bel lt0) (trodAll_cons_mk (Below.trod laidOut (by kernel_rfl) (of_decide_eq_true (by kernel_rfl)) k1 bel lt1) trodAll_mk0)), rfl, bel.frame _, fun h => by cases h⟩

theorem over : Rows.fnExactSameConnRow.holds Try.pinned (OpenSpec.ofChange Rows.fnExactSameConnSpec) :=
  OpenClaim.holds_of_wide 6 Try.f6 rfl rfl rfl rfl rfl rfl rfl ⟨rfl, rfl, rfl, rfl, rfl⟩ rfl rfl rfl rfl rfl (by kernel_rfl) Try.func6 (by kernel_rfl)
    (of_decide_eq_true (by kernel_rfl)) (by unfold Func.isWrapper; first | (rw [if_pos (by decide +kernel)]; kernel_rfl) | (rw [if_neg (by decide +kernel)]; exact ⟨rfl, rfl⟩))
    (fun os started H enc _ => lifted os started H enc)

theorem proved : Rows.FnExactSameConnSaid := over
#print axioms proved
end Go.Proofs.Ytajekjjaaohbnaa.fnExactSameConn
