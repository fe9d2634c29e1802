/- Texts of one proof that belong together, joined. Nothing here is a claim. -/
import Derived.Test.YtkkimgjcefojdaaEntLaw
import Derived.Test.YtkkimgjcefojdaaBlk10
import Derived.Test.YtkkimgjcefojdaaTabMac
import Derived.Lib.SmallJoins
import Derived.ProofKit
import Derived.OpenShut
import Derived.ChangeSame
import Derived.Test.YtkkimgjcefojdaaFlatRow
import Derived.Deep.Slices
import Derived.Test.YtkkimgjcefojdaaBase
import Derived.Test.YtkkimgjcefojdaaEntKit
namespace Go.Proofs.Ytkkimgjcefojdaa
open Go.RowKit Go.Lib

/-- A link in new memory: never nil. -/
def NewLk (m ip : Int) (rs : List ER) (w : World) (e : Ending) (w' : World) : Prop :=
  ∃ g cap, e = .returned (.agg #[.int .i64 m, .int .i64 ip, .slice (some ⟨g, 0, none⟩) rs.length cap]) ∧ w'.ownsRow w.heap.size 51 3 (.slice (some ⟨g, 0, none⟩) rs.length cap) rs.length (ers rs) ∧ Below w.heap.size w w'
/-- As NewLk, of full capacity. -/
def ToLk (m ip : Int) (rs : List ER) (w : World) (e : Ending) (w' : World) : Prop :=
  ∃ g, e = .returned (.agg #[.int .i64 m, .int .i64 ip, .slice (some ⟨g, 0, none⟩) rs.length rs.length]) ∧ w'.ownsRow w.heap.size 51 3 (.slice (some ⟨g, 0, none⟩) rs.length rs.length) rs.length (ers rs) ∧ Below w.heap.size w w'
theorem szEntryS_left (a : Option Addr) (n cap left : Nat) (w : World) (hl : n ≤ maxLen) (h2 : left ≤ 1048576) :
    Calls Try.prog 15 #[.slice a n cap, .int .i64 left] w fun e w' => e = .returned (.int .i64 (if n ≤ left then (left : Int) - (n : Int) else -1)) ∧ w' = w := by
  unfold maxLen at hl
  have hw : IntKind.i64.wrap ((left : Int) - (n : Int)) = (left : Int) - (n : Int) := IntWalk.i64_in _ (by omega)
  by_cases h : n ≤ left
  · rw [if_pos h]
    have h3 : ¬ (left : Int) - (n : Int) < 0 := by omega
    go_enter Try.func15, Try.ntmps15
    go_wp2_with fail
    go_ret
    exact ⟨rfl, rfl⟩
  · rw [if_neg h]
    have h3 : (left : Int) - (n : Int) < 0 := by omega
    go_enter Try.func15, Try.ntmps15
    go_wp2_with fail
    go_ret
    exact ⟨rfl, rfl⟩

set_option maxRecDepth 100000 in
set_option maxHeartbeats 2000000 in
theorem szLink_any (m ip : Int) (a : Option Addr) (n cap left : Nat) (w : World) (hl : n ≤ maxLen) (h2 : left ≤ 1048576) :
    Calls Try.prog 6 #[.agg #[.int .i64 m, .int .i64 ip, .slice a n cap], .int .i64 left] w (IntE (if n ≤ left then (left : Int) - (n : Int) else -1) w) := by
  have C := Lib.hid (fun w => szEntryS_left a n cap left w hl h2)
  clear hl h2
  by_cases hs : n ≤ left
  · rw [if_pos hs] at C ⊢
    go_enter Try.func6, Try.ntmps6
    have B0 := Lib.hid (show Below w.heap.size w (w.alloc (.cells #[.int .i64 m, .int .i64 ip, .slice a n cap] 24)) from ((Below.refl _ w).alloc (by simp) _))
    have Kl0 := Lib.hid (show Blk (w.alloc (.cells #[.int .i64 m, .int .i64 ip, .slice a n cap] 24)) (w.heap.size) [.int .i64 m, .int .i64 ip, .slice a n cap] from Blk.new w [.int .i64 m, .int .i64 ip, .slice a n cap] 24)
    go_wp2_with fail
    change Calls _ _ _ (w.alloc (.cells #[.int .i64 m, .int .i64 ip, .slice a n cap] 24)) _
    generalize w.alloc (.cells #[.int .i64 m, .int .i64 ip, .slice a n cap] 24) = v0 at B0 Kl0 ⊢
    generalize w.heap.size = g_l at Kl0 ⊢
    refine (C.out _).mono ?_
    rintro e w' ⟨rfl, hw'⟩
    rw [hw']
    clear hw' w'
    have h3 : ¬ (left : Int) - (n : Int) < 0 := by omega
    clear hs
    obtain ⟨⟨cl0, cl1, cl2⟩, dl0, dl1, dl2⟩ := Kl0.out.o3
    go_wp2_with fail
    go_ret
    exact ⟨rfl, B0.out⟩
  · rw [if_neg hs] at C ⊢
    clear hs
    go_enter Try.func6, Try.ntmps6
    have B0 := Lib.hid (show Below w.heap.size w (w.alloc (.cells #[.int .i64 m, .int .i64 ip, .slice a n cap] 24)) from ((Below.refl _ w).alloc (by simp) _))
    have Kl0 := Lib.hid (show Blk (w.alloc (.cells #[.int .i64 m, .int .i64 ip, .slice a n cap] 24)) (w.heap.size) [.int .i64 m, .int .i64 ip, .slice a n cap] from Blk.new w [.int .i64 m, .int .i64 ip, .slice a n cap] 24)
    go_wp2_with fail
    change Calls _ _ _ (w.alloc (.cells #[.int .i64 m, .int .i64 ip, .slice a n cap] 24)) _
    generalize w.alloc (.cells #[.int .i64 m, .int .i64 ip, .slice a n cap] 24) = v0 at B0 Kl0 ⊢
    generalize w.heap.size = g_l at Kl0 ⊢
    refine (C.out _).mono ?_
    rintro e w' ⟨rfl, hw'⟩
    rw [hw']
    clear hw' w'
    obtain ⟨⟨cl0, cl1, cl2⟩, dl0, dl1, dl2⟩ := Kl0.out.o3
    go_wp2_with fail
    go_ret
    exact ⟨rfl, B0.out⟩

set_option maxRecDepth 100000 in
set_option maxHeartbeats 2000000 in
theorem toLink_any (m ip : Int) (a : Option Addr) (cap : Nat) (rs : List ER) (w : World) (hrow : Row w w.heap.size a (ers rs)) (hl : rs.length ≤ 1048576) :
    Calls Try.prog 8 #[.agg #[.int .i64 m, .int .i64 ip, .slice a rs.length cap]] w (ToLk m ip rs w) := by
  have HR := Lib.hid hrow
  clear hrow
  go_enter Try.func8, Try.ntmps8
  have B0 := Lib.hid (show Below w.heap.size w (((w.alloc (.cells #[.int .i64 m, .int .i64 ip, .slice a rs.length cap] 24)).alloc (.cells #[.int .i64 0, .int .i64 0, .slice none 0 0] 29)).alloc (.cells #[.int .i64 m, .int .i64 ip, .slice none 0 0] 29)) from ((((Below.refl _ w).alloc (by simp) _).alloc (by simp) _).alloc (by simp; omega) _))
  have Kl0 := Lib.hid (show Blk (((w.alloc (.cells #[.int .i64 m, .int .i64 ip, .slice a rs.length cap] 24)).alloc (.cells #[.int .i64 0, .int .i64 0, .slice none 0 0] 29)).alloc (.cells #[.int .i64 m, .int .i64 ip, .slice none 0 0] 29)) (w.heap.size) [.int .i64 m, .int .i64 ip, .slice a rs.length cap] from ((Blk.new w [.int .i64 m, .int .i64 ip, .slice a rs.length cap] 24).alloc (.cells #[.int .i64 0, .int .i64 0, .slice none 0 0] 29)).alloc (.cells #[.int .i64 m, .int .i64 ip, .slice none 0 0] 29))
  have s1 : (w.alloc (.cells #[.int .i64 m, .int .i64 ip, .slice a rs.length cap] 24)).heap.size = w.heap.size + 1 := by simp
  have Kr0 := Lib.hid (show Blk (((w.alloc (.cells #[.int .i64 m, .int .i64 ip, .slice a rs.length cap] 24)).alloc (.cells #[.int .i64 0, .int .i64 0, .slice none 0 0] 29)).alloc (.cells #[.int .i64 m, .int .i64 ip, .slice none 0 0] 29)) (w.heap.size + 1) [.int .i64 0, .int .i64 0, .slice none 0 0] by have h0 := (Blk.new (w.alloc (.cells #[.int .i64 m, .int .i64 ip, .slice a rs.length cap] 24)) [.int .i64 0, .int .i64 0, .slice none 0 0] 29).alloc (.cells #[.int .i64 m, .int .i64 ip, .slice none 0 0] 29); rwa [s1] at h0)
  have n_l_r : w.heap.size ≠ w.heap.size + 1 := by omega
  have s2 : ((w.alloc (.cells #[.int .i64 m, .int .i64 ip, .slice a rs.length cap] 24)).alloc (.cells #[.int .i64 0, .int .i64 0, .slice none 0 0] 29)).heap.size = w.heap.size + 1 + 1 := by simp
  have Ko0 := Lib.hid (show Blk (((w.alloc (.cells #[.int .i64 m, .int .i64 ip, .slice a rs.length cap] 24)).alloc (.cells #[.int .i64 0, .int .i64 0, .slice none 0 0] 29)).alloc (.cells #[.int .i64 m, .int .i64 ip, .slice none 0 0] 29)) (w.heap.size + 1 + 1) [.int .i64 m, .int .i64 ip, .slice none 0 0] by have h0 := Blk.new ((w.alloc (.cells #[.int .i64 m, .int .i64 ip, .slice a rs.length cap] 24)).alloc (.cells #[.int .i64 0, .int .i64 0, .slice none 0 0] 29)) [.int .i64 m, .int .i64 ip, .slice none 0 0] 29; rwa [s2] at h0)
  have n_l_o : w.heap.size ≠ w.heap.size + 1 + 1 := by omega
  have n_r_o : w.heap.size + 1 ≠ w.heap.size + 1 + 1 := by omega
  clear s1 s2
  go_wp2_with fail
  change Calls _ _ _ (((w.alloc (.cells #[.int .i64 m, .int .i64 ip, .slice a rs.length cap] 24)).alloc (.cells #[.int .i64 0, .int .i64 0, .slice none 0 0] 29)).alloc (.cells #[.int .i64 m, .int .i64 ip, .slice none 0 0] 29)) _
  generalize ((w.alloc (.cells #[.int .i64 m, .int .i64 ip, .slice a rs.length cap] 24)).alloc (.cells #[.int .i64 0, .int .i64 0, .slice none 0 0] 29)).alloc (.cells #[.int .i64 m, .int .i64 ip, .slice none 0 0] 29) = v0 at B0 Kl0 Kr0 Ko0 ⊢
  generalize hh_o : w.heap.size + 1 + 1 = g_o at Ko0 n_l_o n_r_o ⊢
  generalize hh_r : w.heap.size + 1 = g_r at Kr0 n_l_r n_r_o ⊢
  generalize hh_l : w.heap.size = g_l at Kl0 n_l_r n_l_o ⊢
  have l_l : w.heap.size ≤ g_l := by omega
  have l_r : w.heap.size ≤ g_r := by omega
  have l_o : w.heap.size ≤ g_o := by omega
  clear hh_l hh_r hh_o
  refine (toEntryS_any a cap rs _ ((HR.out.below B0.out).mono B0.out.size) hl).mono ?_
  rintro e v1 ⟨g_p, rfl, ho_p, hb⟩
  have hown := own_down ho_p B0.out.size
  have n_l_p : g_l ≠ g_p := by have h1 := Kl0.out.lt; have h2 := (ho_p.lt g_p rfl).1; omega
  have n_r_p : g_r ≠ g_p := by have h1 := Kr0.out.lt; have h2 := (ho_p.lt g_p rfl).1; omega
  have n_o_p : g_o ≠ g_p := by have h1 := Ko0.out.lt; have h2 := (ho_p.lt g_p rfl).1; omega
  have l_p : w.heap.size ≤ g_p := Nat.le_trans B0.out.size (ho_p.lt g_p rfl).1
  have B1 := Lib.hid (B0.out.trans (hb.mono B0.out.size))
  have Kl1 := Lib.hid (Kl0.out.below hb)
  have Kr1 := Lib.hid (Kr0.out.below hb)
  have Ko1 := Lib.hid (Ko0.out.below hb)
  have Op1 := Lib.hid (own_down ho_p (Nat.zero_le _))
  clear hb B0 Kl0 Kr0 Ko0 ho_p
  have HO := Lib.hid hown
  clear hown
  obtain ⟨⟨cl0, cl1, cl2⟩, dl0, dl1, dl2⟩ := Kl1.out.o3
  obtain ⟨⟨cr0, cr1, cr2⟩, dr0, dr1, dr2⟩ := Kr1.out.o3
  obtain ⟨⟨co0, co1, co2⟩, do0, do1, do2⟩ := Ko1.out.o3
  go_wp2_with fail
  refine bodyPost_ret (v := .agg #[.int .i64 m, .int .i64 ip, .slice (some ⟨g_p, 0, none⟩) rs.length rs.length]) (by simp [results, Try.results8, go_sem, cr0, cr1, cr2]) rfl ⟨g_p, rfl, ?_, ?_⟩
  · exact own_set' (own_set' (own_set' (own_set' HO.out 2 _ n_o_p) 0 _ n_r_p) 1 _ n_r_p) 2 _ n_r_p
  · exact ((((B1.out.setCell l_o _).setCell l_r _).setCell l_r _).setCell l_r _)

set_option maxRecDepth 100000 in
set_option maxHeartbeats 2000000 in
theorem eqLink_self (m ip : Int) (a b : Option Addr) (n c d : Nat) (rs : List ER) (w : World) (hn : rs.length = n) (ha : Row w w.heap.size a (ers rs)) (hb : Row w w.heap.size b (ers rs)) (hl : n ≤ 1048577) :
    Calls Try.prog 10 #[.agg #[.int .i64 m, .int .i64 ip, .slice a n c], .agg #[.int .i64 m, .int .i64 ip, .slice b n d]] w (BoolE true w) := by
  have HA := Lib.hid ha
  have HB := Lib.hid hb
  clear ha hb
  go_enter Try.func10, Try.ntmps10
  have B0 := Lib.hid (show Below w.heap.size w ((w.alloc (.cells #[.int .i64 m, .int .i64 ip, .slice a n c] 29)).alloc (.cells #[.int .i64 m, .int .i64 ip, .slice b n d] 29)) from (((Below.refl _ w).alloc (by simp) _).alloc (by simp) _))
  have Kl0 := Lib.hid (show Blk ((w.alloc (.cells #[.int .i64 m, .int .i64 ip, .slice a n c] 29)).alloc (.cells #[.int .i64 m, .int .i64 ip, .slice b n d] 29)) (w.heap.size) [.int .i64 m, .int .i64 ip, .slice a n c] from (Blk.new w [.int .i64 m, .int .i64 ip, .slice a n c] 29).alloc (.cells #[.int .i64 m, .int .i64 ip, .slice b n d] 29))
  have s1 : (w.alloc (.cells #[.int .i64 m, .int .i64 ip, .slice a n c] 29)).heap.size = w.heap.size + 1 := by simp
  have Kr0 := Lib.hid (show Blk ((w.alloc (.cells #[.int .i64 m, .int .i64 ip, .slice a n c] 29)).alloc (.cells #[.int .i64 m, .int .i64 ip, .slice b n d] 29)) (w.heap.size + 1) [.int .i64 m, .int .i64 ip, .slice b n d] by have h0 := Blk.new (w.alloc (.cells #[.int .i64 m, .int .i64 ip, .slice a n c] 29)) [.int .i64 m, .int .i64 ip, .slice b n d] 29; rwa [s1] at h0)
  have n_l_r : w.heap.size ≠ w.heap.size + 1 := by omega
  clear s1
  go_wp2_with fail
  change Calls _ _ _ ((w.alloc (.cells #[.int .i64 m, .int .i64 ip, .slice a n c] 29)).alloc (.cells #[.int .i64 m, .int .i64 ip, .slice b n d] 29)) _
  generalize (w.alloc (.cells #[.int .i64 m, .int .i64 ip, .slice a n c] 29)).alloc (.cells #[.int .i64 m, .int .i64 ip, .slice b n d] 29) = v0 at B0 Kl0 Kr0 ⊢
  generalize w.heap.size + 1 = g_r at Kr0 n_l_r ⊢
  generalize w.heap.size = g_l at Kl0 n_l_r ⊢
  refine (eqEntryS_self a b n c d rs _ hn ((HA.out.below B0.out).mono B0.out.size) ((HB.out.below B0.out).mono B0.out.size) hl).mono ?_
  rintro e v1 ⟨rfl, hb⟩
  have B1 := Lib.hid (B0.out.trans (hb.mono B0.out.size))
  have Kl1 := Lib.hid (Kl0.out.below hb)
  have Kr1 := Lib.hid (Kr0.out.below hb)
  clear hb B0 Kl0 Kr0
  obtain ⟨⟨cl0, cl1, cl2⟩, dl0, dl1, dl2⟩ := Kl1.out.o3
  obtain ⟨⟨cr0, cr1, cr2⟩, dr0, dr1, dr2⟩ := Kr1.out.o3
  go_wp2_with fail
  go_ret
  exact ⟨rfl, B1.out⟩

end Go.Proofs.Ytkkimgjcefojdaa
namespace Go.Proofs.Ytkkimgjcefojdaa
open Go.Joins Go.ChangeShapes Go.WideShapes Go.RowKit Go.Deep Go.Lib

theorem trod_nest {H : Type} {enc : TypeId × Value → H} {P : Program} {w : World} {base : Nat} {spare : Nat → Bool} {held : Bool} {t : TypeId} {fs : Array Field} {k : Nat} {cs : List Value} {x : DataW H × List MemPlace}
    (hs : P.underlying t = some (.struct fs)) (h : DataW.trod enc P w base spare held k t cs = some x) :
    ∃ n : Nat, cs.length = P.cellsOf t ∧ ∀ (j : Nat) (f : Field), fs[j]? = some f → ∃ y, DataW.trod enc P w base spare held n f.type ((cs.drop f.offset).take (P.cellsOf f.type)) = some y := by
  obtain ⟨xs, n, _, rfl, hl, hlen, hf⟩ := DataW.trod_struct hs h
  refine ⟨n, hl, fun j f hj => ?_⟩
  have hjl : j < fs.size := (Array.getElem?_eq_some_iff.1 hj).1
  have hjx : j < xs.length := by omega
  exact ⟨_, (hf j f hj).trans (List.getElem?_eq_getElem hjx)⟩
theorem open_nest {H : Type} {enc : TypeId × Value → H} {P : Program} {w : World} {base : Nat} {spare : Nat → Bool} {held : Bool} {r : Reach} {b0 : Nat} {t : TypeId} {fs : Array Field} {v : Value} {d : DataW H} {p : List MemPlace}
    (hs : P.underlying t = some (.struct fs)) (hv : Value.okWide P w r b0 t v) (h : DataW.Trod enc P w base spare held t v d p) :
    ∃ (cs : List Value) (n : Nat), v = .agg cs.toArray ∧ cs.length = P.cellsOf t ∧ ∀ (j : Nat) (f : Field), fs[j]? = some f → ∃ y, DataW.trod enc P w base spare held n f.type ((cs.drop f.offset).take (P.cellsOf f.type)) = some y := by
  obtain ⟨cs, rfl, hsz⟩ := okWide_struct hs hv
  obtain ⟨fuel, hf⟩ := h
  obtain ⟨n, hl, hg⟩ := trod_nest hs hf
  exact ⟨cs.toList, n, by simp, hl, hg⟩
end Go.Proofs.Ytkkimgjcefojdaa
namespace Go.Proofs.Ytkkimgjcefojdaa
open Go.Joins Go.ChangeShapes Go.WideShapes Go.RowKit Go.Deep Go.Lib

theorem own_ne {g g' n c : Nat} (h : g ≠ g') : (Value.slice (some ⟨g, 0, none⟩) n c).ownBlock ≠ some g' := fun e => h (by simpa [Value.ownBlock] using e)
theorem adr_add (b off j : Nat) : (⟨b, off, none⟩ : Addr).add j = ⟨b, off + j, none⟩ := by unfold Addr.add; split <;> simp_all
theorem choose_list {α : Type} {p : Nat → α → Prop} (n : Nat) (h : ∀ i, i < n → ∃ r, p i r) : ∃ rs : List α, ∃ hl : rs.length = n, ∀ i (hi : i < n), p i (rs[i]'(by rw [hl]; exact hi)) := by
  refine ⟨List.ofFn fun i : Fin n => Classical.choose (h i.1 i.2), by simp, fun i hi => ?_⟩
  rw [List.getElem_ofFn]
  exact Classical.choose_spec (h i hi)
/-- What the walk is told of a slice of structs. -/
def IsRow {α : Type} (f : α → List Value) (good : α → Prop) (w : World) (a : Option Addr) (len cap : Nat) (rs : List α) : Prop := (rs.length = len ∧ len ≤ cap ∧ cap ≤ maxLen ∧ ∀ r ∈ rs, good r) ∧ Row w w.heap.size a (flat f rs)
theorem openRow {α H : Type} {f : α → List Value} {k : Nat} (hk : ∀ x, (f x).length = k) (h0 : 0 < k) {good : α → Prop} {enc : TypeId × Value → H} {P : Program} {w : World} {t e : TypeId} {fuel : Nat} {a : Option Addr} {len cap : Nat} {x : DataW H × List MemPlace}
    (ht : P.underlying t = some (.slice e)) (hc : P.cellsOf e = k) (each : ∀ n cs y, DataW.trod enc P w 0 (fun _ => true) true n e cs = some y → ∃ r, cs = f r ∧ good r)
    (h : DataW.trod enc P w 0 (fun _ => true) true fuel t (Value.slice a len cap).cells.toList = some x) : ∃ rs : List α, IsRow f good w a len cap rs := by
  rcases open_slice ht h with ⟨hcs, _⟩ | ⟨ad, l, c, m, n, D, Pl, hcs, _, hl, hm, hmm, _, hx⟩
  · simp [Value.cells] at hcs
    obtain ⟨rfl, rfl, rfl⟩ := hcs
    exact ⟨[], ⟨rfl, Nat.le_refl _, Nat.zero_le _, fun _ h => by cases h⟩, Row.nil⟩
  · simp [Value.cells] at hcs
    obtain ⟨rfl, rfl, rfl⟩ := hcs
    simp only [if_true] at hmm
    subst hmm
    obtain ⟨rs, hlr, hrs⟩ := choose_list (p := fun i r => good r ∧ ∀ j, j < k → w.cell? (ad.add (i * k + j)) = (f r)[j]?) len (fun i hi => by
      obtain ⟨cs', h1, h2⟩ := hx i (by omega)
      obtain ⟨r, rfl, hg⟩ := each _ _ _ h2
      rw [hc] at h1
      obtain ⟨_, _, hat⟩ := World.cells?_some h1
      exact ⟨r, hg, fun j hj => by rw [← Go.Deep.add_add]; exact hat j hj⟩)
    refine ⟨rs, ⟨hlr, hl, hm, fun r hr => ?_⟩, fun hne => ?_⟩
    · obtain ⟨i, hi, rfl⟩ := List.getElem_of_mem hr
      exact (hrs i (by omega)).1
    · have hpos : 0 < len := by
        rcases Nat.eq_zero_or_pos len with h' | h'
        · rw [h'] at hlr; rw [List.eq_nil_of_length_eq_zero hlr] at hne; exact absurd rfl hne
        · exact h'
      obtain ⟨b, off, spot⟩ := ad
      have hc0 := (hrs 0 hpos).2 0 h0
      rw [List.getElem?_eq_getElem (by rw [hk]; exact h0)] at hc0
      have hspot : spot = none := by simpa [Addr.add] using World.cell?_spot hc0
      subst hspot
      refine ⟨b, off, rfl, World.block_lt_of_cell? w ⟨b, off, none⟩ (by simpa [Addr.add] using hc0), fun p u hu => ?_⟩
      have hp : p < rs.length * k := by rw [← flat_length hk]; exact (List.getElem?_eq_some_iff.1 hu).1
      have e1 : p = p / k * k + p % k := by rw [Nat.mul_comm]; exact (Nat.div_add_mod p k).symm
      have hi : p / k < rs.length := (Nat.div_lt_iff_lt_mul h0).2 hp
      have hj : p % k < k := Nat.mod_lt _ h0
      have h3 := (hrs (p / k) (by omega)).2 (p % k) hj
      rw [← flat_at hk rs (p / k) (p % k) hi hj, ← e1, hu] at h3
      rw [← h3, adr_add]
/-- A table's row, opened. -/
def goodM (r : MR) : Prop := r.s.size ≤ maxLen ∧ (Lit.int .i64 r.v).wf = true
abbrev IsM := IsRow MR.cs goodM
theorem openM {H : Type} {enc : TypeId × Value → H} {P : Program} {w : World} {t e ts ti : TypeId} {f0 f1 : Field} {fuel : Nat} {a : Option Addr} {len cap : Nat} {x : DataW H × List MemPlace}
    (ht : P.underlying t = some (.slice e)) (he : P.underlying e = some (.struct #[f0, f1])) (hc : P.cellsOf e = 2) (h0 : f0.type = ts ∧ f0.offset = 0 ∧ P.cellsOf ts = 1) (h1 : f1.type = ti ∧ f1.offset = 1 ∧ P.cellsOf ti = 1)
    (us : P.underlying ts = some .string) (ui : P.underlying ti = some (.int .i64))
    (h : DataW.trod enc P w 0 (fun _ => true) true fuel t (Value.slice a len cap).cells.toList = some x) : ∃ rs, IsM w a len cap rs := by
  refine openRow MR.two (by decide) ht hc (fun n cs y hy => ?_) h
  obtain ⟨n', hl, hf⟩ := trod_nest he hy
  rw [hc] at hl
  match cs, hl with
  | [c0, c1], _ =>
    obtain ⟨_, t0⟩ := hf 0 f0 rfl
    obtain ⟨_, t1⟩ := hf 1 f1 rfl
    rw [h0.1, h0.2.1, h0.2.2] at t0
    rw [h1.1, h1.2.1, h1.2.2] at t1
    obtain ⟨s, e0, _, w0⟩ := DataW.trod_string us t0
    obtain ⟨v, e1, _, w1⟩ := DataW.trod_int ui t1
    obtain rfl : c0 = .string s := (List.cons.inj e0).1
    obtain rfl : c1 = .int .i64 v := (List.cons.inj e1).1
    exact ⟨⟨s, v⟩, rfl, w0, w1⟩
end Go.Proofs.Ytkkimgjcefojdaa
namespace Go.Proofs.Ytkkimgjcefojdaa
open Go.Joins Go.ChangeShapes Go.WideShapes Go.RowKit Go.Deep Go.Lib

theorem open_flat {H : Type} {enc : TypeId × Value → H} {P : Program} {w : World} {base : Nat} {spare : Nat → Bool} {held : Bool} {r : Reach} {b0 : Nat} {t : TypeId} {fs : Array Field} {v : Value} {d : DataW H} {p : List MemPlace}
    (hs : P.underlying t = some (.struct fs)) (hone : oneCellFields P fs = true) (hC : P.cellsOf t = fs.size) (hv : Value.okWide P w r b0 t v) (h : DataW.Trod enc P w base spare held t v d p) :
    ∃ (cs : List Value) (n : Nat), v = .agg cs.toArray ∧ cs.length = fs.size ∧ ∀ (j : Nat) (f : Field), fs[j]? = some f → ∃ y, DataW.trod enc P w base spare held n f.type [cs.getD j undef] = some y := by
  obtain ⟨cs, rfl, hsz⟩ := okWide_struct hs hv
  obtain ⟨fuel, hf⟩ := h
  obtain ⟨xs, n, _, _, _, hlen, hg⟩ := DataW.trod_struct hs hf
  refine ⟨cs.toList, n, by simp, by rw [Array.length_toList, hsz, hC], fun j f hj => ?_⟩
  obtain ⟨o, k⟩ := hone_of hone j f hj
  have hjl : j < fs.size := (Array.getElem?_eq_some_iff.1 hj).1
  have h1 := hg j f hj
  rw [o, k] at h1
  have hjc : j < cs.toList.length := by rw [Array.length_toList, hsz, hC]; exact hjl
  have e : ((Value.agg cs).cells.toList.drop j).take 1 = [cs.toList.getD j undef] := by
    show (cs.toList.drop j).take 1 = _
    rw [List.drop_eq_getElem_cons hjc, List.getD_eq_getElem?_getD, List.getElem?_eq_getElem hjc]
    rfl
  rw [e] at h1
  have hjx : j < xs.length := by omega
  exact ⟨_, h1.trans (List.getElem?_eq_getElem hjx)⟩
end Go.Proofs.Ytkkimgjcefojdaa
namespace Go.Proofs.Ytkkimgjcefojdaa
open Go.Joins Go.ChangeShapes Go.WideShapes Go.RowKit Go.Deep Go.Lib

abbrev IsE := IsRow ER.cs goodE
set_option maxRecDepth 100000 in
theorem openEs {H : Type} {enc : TypeId × Value → H} {w : World} {fuel : Nat} {a : Option Addr} {len cap : Nat} {x : DataW H × List MemPlace}
    (h : DataW.trod enc Try.prog w 0 (fun _ => true) true fuel 22 (Value.slice a len cap).cells.toList = some x) : ∃ rs, IsE w a len cap rs := by
  refine openRow ER.three (by decide) Try.underlying22 (by kernel_rfl) (fun n cs y hy => ?_) h
  obtain ⟨n', hl, hf⟩ := trod_nest Try.underlying56 hy
  replace hl : cs.length = 3 := hl
  match cs, hl with
  | [c0, c1, c2], _ =>
    obtain ⟨_, t0⟩ := hf 0 _ rfl
    obtain ⟨_, t1⟩ := hf 1 _ rfl
    obtain ⟨_, t2⟩ := hf 2 _ rfl
    obtain ⟨x0, e0, _, w0⟩ := DataW.trod_int Try.underlying3 t0
    obtain ⟨x1, e1, _, w1⟩ := DataW.trod_int Try.underlying3 t1
    obtain ⟨x2, e2, _, w2⟩ := DataW.trod_int Try.underlying3 t2
    obtain rfl : c0 = .int .i64 x0 := (List.cons.inj e0).1
    obtain rfl : c1 = .int .i64 x1 := (List.cons.inj e1).1
    obtain rfl : c2 = .int .i64 x2 := (List.cons.inj e2).1
    exact ⟨⟨x0, x1, x2⟩, rfl, w0, w1, w2⟩
set_option maxRecDepth 100000 in
theorem argEntryS {H : Type} {enc : TypeId × Value → H} {W : World} {r : Reach} {b0 : Nat} {v : Value} {d : DataW H} {p : List MemPlace}
    (hv : Value.okWide Try.prog W r b0 22 v) (h : DataW.Trod enc Try.prog W 0 (fun _ => true) true 22 v d p) : ∃ a len cap rs, v = .slice a len cap ∧ IsE W a len cap rs := by
  obtain ⟨a, len, cap, rfl⟩ := okWide_slice Try.underlying22 hv
  obtain ⟨fuel, hf⟩ := h
  obtain ⟨rs, hrs⟩ := openEs hf
  exact ⟨a, len, cap, rs, rfl, hrs⟩
end Go.Proofs.Ytkkimgjcefojdaa
namespace Go.Proofs.Ytkkimgjcefojdaa
open Go.Joins Go.ChangeShapes Go.WideShapes Go.RowKit Go.Deep Go.Lib

/-- What is known of a link that came in. -/
def LawL (W : World) (m ip : Int) (a : Option Addr) (len cap : Nat) (rs : List ER) : Prop := (Lit.int .i64 m).wf = true ∧ (Lit.int .i64 ip).wf = true ∧ IsE W a len cap rs
set_option maxRecDepth 100000 in
theorem argLink {H : Type} {enc : TypeId × Value → H} {W : World} {r : Reach} {b0 : Nat} {v : Value} {d : DataW H} {p : List MemPlace}
    (hv : Value.okWide Try.prog W r b0 24 v) (h : DataW.Trod enc Try.prog W 0 (fun _ => true) true 24 v d p) :
    ∃ m ip a len cap rs, v = .agg #[.int .i64 m, .int .i64 ip, .slice a len cap] ∧ LawL W m ip a len cap rs := by
  obtain ⟨cs, n, rfl, hl, hf⟩ := open_flat Try.underlying24 (by kernel_rfl) (by kernel_rfl) hv h
  match cs, hl with
  | [c0, c1, c2], _ =>
    obtain ⟨_, t0⟩ := hf 0 _ rfl
    obtain ⟨_, t1⟩ := hf 1 _ rfl
    obtain ⟨_, t2⟩ := hf 2 _ rfl
    obtain ⟨m, e0, _, w0⟩ := DataW.trod_int Try.underlying3 t0
    obtain rfl : c0 = .int .i64 m := (List.cons.inj e0).1
    obtain ⟨ip, e1, _, w1⟩ := DataW.trod_int Try.underlying3 t1
    obtain rfl : c1 = .int .i64 ip := (List.cons.inj e1).1
    obtain ⟨a, len, cap, rfl⟩ : ∃ a len cap, c2 = .slice a len cap := by
      rcases open_slice Try.underlying22 t2 with ⟨hcs, _⟩ | ⟨ad, l', c, _, _, _, _, hcs, _⟩
      · exact ⟨_, _, _, (List.cons.inj hcs).1⟩
      · exact ⟨_, _, _, (List.cons.inj hcs).1⟩
    obtain ⟨rs, hrs⟩ := openEs t2
    exact ⟨m, ip, a, len, cap, rs, rfl, w0, w1, hrs⟩
end Go.Proofs.Ytkkimgjcefojdaa
