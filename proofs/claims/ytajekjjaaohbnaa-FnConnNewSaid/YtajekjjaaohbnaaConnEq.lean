/- Tuples, senders and options compared. Nothing here is a claim. -/
import Derived.Test.YtajekjjaaohbnaaConnKit
import Derived.Test.YtajekjjaaohbnaaSameRcv
import Derived.Test.YtajekjjaaohbnaaCurA
import Derived.Laws.StructEq
namespace Go.Proofs.Ytajekjjaaohbnaa
open Go.RowKit Go.Lib

set_option maxRecDepth 100000 in
theorem eqTT (p p' : Int) (q q' : Int) (r r' : Int) (w : World) : (Op.equalIn 10000 25 (.agg #[.int .i64 p, .int .i64 q, .int .i64 r]) (.agg #[.int .i64 p', .int .i64 q', .int .i64 r'])).run Try.prog w = .ok (decide (p = p' ∧ q = q' ∧ r = r')) w := by
  have u_int := Try.underlying3
  have a_int := Try.isAgg3
  have z_int := Try.sizeOf3
  have hS : Try.prog.underlying 25 = some (.struct (Try.prog.fieldsOf 25)) := by kernel_rfl
  have hp : Try.prog.stoodInHeld 25 = false := by kernel_rfl
  rw [show (10000 : Nat) = 9999 + 1 from rfl, run_equalIn_agg w 9999 25 _ _ hS hp]
  simp only [Program.fieldsOf, Try.underlying25]
  by_cases e_p : p = p'
  case neg =>
    rw [decide_eq_false (fun e => e_p e.1)]
    have e2 : (p == p') = false := by simpa using e_p
    go_simp
    try simp [e_p]
  subst e_p
  by_cases e_q : q = q'
  case neg =>
    rw [decide_eq_false (fun e => e_q e.2.1)]
    have e2 : (q == q') = false := by simpa using e_q
    go_simp
    try simp [e_q]
  subst e_q
  by_cases e_r : r = r'
  case neg =>
    rw [decide_eq_false (fun e => e_r e.2.2)]
    have e2 : (r == r') = false := by simpa using e_r
    go_simp
    try simp [e_r]
  subst e_r
  rw [decide_eq_true (by simp)]
  go_simp
  try simp

set_option maxRecDepth 100000 in
theorem eqSS (u u' : Int) (d d' : ByteArray) (t t' : Int) (f f' : Bool) (g g' : Bool) (h h' : Bool) (w : World) : (Op.equalIn 10000 31 (.agg #[.int .i64 u, .string d, .int .i64 t, .bool f, .bool g, .bool h]) (.agg #[.int .i64 u', .string d', .int .i64 t', .bool f', .bool g', .bool h'])).run Try.prog w = .ok (decide (u = u' ∧ d = d' ∧ t = t' ∧ f = f' ∧ g = g' ∧ h = h')) w := by
  have u_int := Try.underlying3
  have a_int := Try.isAgg3
  have z_int := Try.sizeOf3
  have u_string := Try.underlying9
  have a_string := Try.isAgg9
  have z_string := Try.sizeOf9
  have u_bool := Try.underlying4
  have a_bool := Try.isAgg4
  have z_bool := Try.sizeOf4
  have hS : Try.prog.underlying 31 = some (.struct (Try.prog.fieldsOf 31)) := by kernel_rfl
  have hp : Try.prog.stoodInHeld 31 = false := by kernel_rfl
  rw [show (10000 : Nat) = 9999 + 1 from rfl, run_equalIn_agg w 9999 31 _ _ hS hp]
  simp only [Program.fieldsOf, Try.underlying31]
  by_cases e_u : u = u'
  case neg =>
    rw [decide_eq_false (fun e => e_u e.1)]
    have e2 : (u == u') = false := by simpa using e_u
    go_simp
    try simp [e_u]
  subst e_u
  by_cases e_d : d = d'
  case neg =>
    rw [decide_eq_false (fun e => e_d e.2.1)]
    have e2 := strNe e_d
    go_simp
    try simp [e_d]
  subst e_d
  by_cases e_t : t = t'
  case neg =>
    rw [decide_eq_false (fun e => e_t e.2.2.1)]
    have e2 : (t == t') = false := by simpa using e_t
    go_simp
    try simp [e_t]
  subst e_t
  by_cases e_f : f = f'
  case neg =>
    rw [decide_eq_false (fun e => e_f e.2.2.2.1)]
    have e2 : (f == f') = false := by simpa using e_f
    go_simp
    try simp [e_f]
  subst e_f
  by_cases e_g : g = g'
  case neg =>
    rw [decide_eq_false (fun e => e_g e.2.2.2.2.1)]
    have e2 : (g == g') = false := by simpa using e_g
    go_simp
    try simp [e_g]
  subst e_g
  by_cases e_h : h = h'
  case neg =>
    rw [decide_eq_false (fun e => e_h e.2.2.2.2.2)]
    have e2 : (h == h') = false := by simpa using e_h
    go_simp
    try simp [e_h]
  subst e_h
  rw [decide_eq_true (by simp)]
  go_simp
  try simp

set_option maxRecDepth 100000 in
theorem eqOO (m m' : Int) (c c' : Int) (k k' : Bool) (s s' : Bool) (v v' : Int) (x x' : Int) (w : World) : (Op.equalIn 10000 27 (.agg #[.int .i64 m, .int .i64 c, .bool k, .bool s, .int .i64 v, .int .i64 x]) (.agg #[.int .i64 m', .int .i64 c', .bool k', .bool s', .int .i64 v', .int .i64 x'])).run Try.prog w = .ok (decide (m = m' ∧ c = c' ∧ k = k' ∧ s = s' ∧ v = v' ∧ x = x')) w := by
  have u_int := Try.underlying3
  have a_int := Try.isAgg3
  have z_int := Try.sizeOf3
  have u_bool := Try.underlying4
  have a_bool := Try.isAgg4
  have z_bool := Try.sizeOf4
  have hS : Try.prog.underlying 27 = some (.struct (Try.prog.fieldsOf 27)) := by kernel_rfl
  have hp : Try.prog.stoodInHeld 27 = false := by kernel_rfl
  rw [show (10000 : Nat) = 9999 + 1 from rfl, run_equalIn_agg w 9999 27 _ _ hS hp]
  simp only [Program.fieldsOf, Try.underlying27]
  by_cases e_m : m = m'
  case neg =>
    rw [decide_eq_false (fun e => e_m e.1)]
    have e2 : (m == m') = false := by simpa using e_m
    go_simp
    try simp [e_m]
  subst e_m
  by_cases e_c : c = c'
  case neg =>
    rw [decide_eq_false (fun e => e_c e.2.1)]
    have e2 : (c == c') = false := by simpa using e_c
    go_simp
    try simp [e_c]
  subst e_c
  by_cases e_k : k = k'
  case neg =>
    rw [decide_eq_false (fun e => e_k e.2.2.1)]
    have e2 : (k == k') = false := by simpa using e_k
    go_simp
    try simp [e_k]
  subst e_k
  by_cases e_s : s = s'
  case neg =>
    rw [decide_eq_false (fun e => e_s e.2.2.2.1)]
    have e2 : (s == s') = false := by simpa using e_s
    go_simp
    try simp [e_s]
  subst e_s
  by_cases e_v : v = v'
  case neg =>
    rw [decide_eq_false (fun e => e_v e.2.2.2.2.1)]
    have e2 : (v == v') = false := by simpa using e_v
    go_simp
    try simp [e_v]
  subst e_v
  by_cases e_x : x = x'
  case neg =>
    rw [decide_eq_false (fun e => e_x e.2.2.2.2.2)]
    have e2 : (x == x') = false := by simpa using e_x
    go_simp
    try simp [e_x]
  subst e_x
  rw [decide_eq_true (by simp)]
  go_simp
  try simp
end Go.Proofs.Ytajekjjaaohbnaa
