import Derived.Test.YtahkaemdgelmdaaDoorNumC
import Derived.Defers
import Derived.Recover
import Derived.Laws.Pointers
namespace Go.Proofs.YtahkaemdgelmdaaDoor
open Go.RowKit Go.Lib

theorem catch_panicking (p q : Addr) (u : TypeId) (pv : Value) (x : Int) (y : Bool) (older : List PanicEntry) (w : World) (hp : w.cell? p = some (.int .i64 x)) (fp : w.frozen? p = false) (hq : w.cell? q = some (.bool y)) (fq : w.frozen? q = false) (hne : ¬ q = p) :
    CallsD Tryd.prog 34 #[.pointer (some p), .pointer (some q)] (.panicking ({ v := .iface u pv, recovered := false } :: older)) w fun e u' w' =>
      e = .returned (.tuple #[]) ∧ u' = .panicking ({ v := .iface u pv, recovered := true } :: older) ∧ w' = (w.setCell p (.int .i64 0)).setCell q (.bool false) := by
  have hq' : (w.setCell p (.int .i64 0)).cell? q = some (.bool y) := by rw [World.cell?_setCell_other _ _ _ _ (fun h => hne h.symm)]; exact hq
  refine callsD_of_wpS Tryd.func34 rfl fun c₀ cs hu => ?_
  apply wpS_seq
  apply wpS_region
  simp [wpOpsS, go_sem, recoverD, hu, Tryd.ntmps34, Exit.thenS]
  refine wpS_cond (t := true) (by simp [Act.eval, Array.replicate]) ?_
  simp only [if_true]
  apply wpS_region
  simp [wpOpsS, go_sem, hp, fp, hq', fq, bodyPostS, results, Tryd.results34]

theorem catch_idle (p q : Addr) (w : World) :
    CallsD Tryd.prog 34 #[.pointer (some p), .pointer (some q)] .returning w fun e u' w' => e = .returned (.tuple #[]) ∧ u' = .returning ∧ w' = w := by
  refine callsD_of_wpS Tryd.func34 rfl fun c₀ cs hu => ?_
  apply wpS_seq
  apply wpS_region
  simp [wpOpsS, go_sem, recoverD, hu, Tryd.ntmps34, Exit.thenS]
  refine wpS_cond (t := false) (by simp [Act.eval, Array.replicate]) ?_
  simp only [Bool.false_eq_true, if_false]
  refine wpS_of_wp (wp_skip ?_)
  cases c₀
  simp_all [bodyPostS, results, Tryd.results34]

theorem numOut_cases (s : ByteArray) : (∃ m : Int, numOut s = (m, true)) ∨ numOut s = (0, false) := by
  unfold numOut; split
  · exact .inl ⟨_, rfl⟩
  · exact .inr rfl
theorem numberIn_ok (s : ByteArray) (m : Int) (hm : numOut s = (m, true)) (w : World) (hs : s.size ≤ 1048576) : Calls Tryd.prog 35 #[.string s] w fun e w' => e = .returned (.int .i64 m) ∧ w = w' :=
  (numberIn_any s w hs).mono fun e w' ⟨hw, h⟩ => by
    rcases h with ⟨m', hm', rfl⟩ | ⟨hm', _⟩
    · rw [hm] at hm'; simp only [Prod.mk.injEq] at hm'; rw [hm'.1]; exact ⟨rfl, hw⟩
    · rw [hm] at hm'; simp at hm'
theorem numberIn_bad (s : ByteArray) (hm : numOut s = (0, false)) (w : World) (hs : s.size ≤ 1048576) : Calls Tryd.prog 35 #[.string s] w (Panics w) :=
  (numberIn_any s w hs).mono fun e w' ⟨hw, h⟩ => by
    rcases h with ⟨m', hm', rfl⟩ | ⟨hm', t, ht⟩
    · rw [hm] at hm'; simp at hm'
    · exact ⟨t, ht, hw⟩

set_option maxHeartbeats 400000 in
theorem numberI (s : ByteArray) (w : World) (hs : s.size ≤ 1048576) :
    Calls Tryd.prog 19 #[.string s] w fun e w' => e = .returned (.tuple #[.int .i64 (numOut s).1, .bool (numOut s).2]) ∧ Below w.heap.size w w' := by
  have hmf : ∀ (fn : Fn) (first cap : Array Value) (w : World), (Instr.makeFunc fn first cap).run Tryd.prog w = .ok (.func fn first cap) w := fun _ _ _ _ => rfl
  rcases numOut_cases s with ⟨m, hm⟩ | hm
  · have c := fun w => numberIn_ok s m hm w hs
    rw [hm]
    have C := Lib.hid c
    clear hm c
    go_enter_defers Tryd.func19, Tryd.ntmps19
    go_wp2_with fail
    refine (C.out _).mono ?_
    rintro e w1 ⟨rfl, rfl⟩
    go_wp2_with fail
    refine leaves_cons (f := 34) (args := #[.pointer (some ⟨w.heap.size, 0, none⟩), .pointer (some ⟨w.heap.size + 1, 0, none⟩)]) (by simp) (by simp [go_sem]) ?_
    refine (catch_idle ⟨w.heap.size, 0, none⟩ ⟨w.heap.size + 1, 0, none⟩ _).mono ?_
    rintro e u' w'' ⟨rfl, rfl, rfl⟩
    simp [Leaves, settle, results, Tryd.results19, go_sem]
    exact ((Below.refl _ _).alloc (Nat.le_refl _) _).alloc (by simp) _
  · have c := fun w => numberIn_bad s hm w hs
    rw [hm]
    have C := Lib.hid c
    clear hm c
    go_enter_defers Tryd.func19, Tryd.ntmps19
    go_wp2_with fail
    refine (C.out _).mono ?_
    rintro e w1 ⟨t, rfl, rfl⟩
    go_wp2_with fail
    refine leaves_cons (f := 34) (args := #[.pointer (some ⟨w.heap.size, 0, none⟩), .pointer (some ⟨w.heap.size + 1, 0, none⟩)]) (by simp) (by simp [go_sem]) ?_
    refine (catch_panicking ⟨w.heap.size, 0, none⟩ ⟨w.heap.size + 1, 0, none⟩ 9 _ 0 false [] _ ?_ ?_ ?_ ?_ ?_).mono ?_
    · simp [go_sem]
    · simp [go_sem]
    · simp [go_sem]
    · simp [go_sem]
    · simp
    rintro e u' w'' ⟨rfl, rfl, rfl⟩
    simp [Leaves, settle, results, Tryd.results19, go_sem]
    exact ((Below.refl _ _).alloc (Nat.le_refl _) _).alloc (by simp) _
end Go.Proofs.YtahkaemdgelmdaaDoor
