/- ReceiverNew, TakenIn, of both sides. Nothing here is a claim. -/
import Derived.Test.YtpbnkkgfjmkcdaaRcvC
import Derived.Test.YtpbnkkgfjmkcdaaRowN
import Derived.Test.YtpbnkkgfjmkcdaaRcvOkI
import Derived.Test.YtpbnkkgfjmkcdaaRcvOkS
namespace Go.Proofs.Ytpbnkkgfjmkcdaa
open Go.RowKit Go.Lib

/-- The pieces of a receiver at hand: their row; a nil slice has none. -/
def HasP (w : World) (a : Option Addr) (cap : Nat) (rs : List HP) : Prop := Row w w.heap.size a (hps rs) ∧ (a = none → rs = [] ∧ cap = 0)
theorem HasP.below {w w' : World} {a : Option Addr} {cap : Nat} {rs : List HP} (h : HasP w a cap rs) (hb : Below w.heap.size w w') : HasP w' a cap rs := ⟨(h.1.below hb).mono hb.size, h.2⟩
theorem HasP.own {w : World} {base cap : Nat} {a : Option Addr} {rs : List HP} {e : TypeId} (h : w.ownsRow base e 2 (.slice a rs.length cap) rs.length (hps rs)) : HasP w a cap rs :=
  ⟨Row.ownV h, fun ha => ⟨List.length_eq_zero_iff.1 (own_nil h ha).1, (own_nil h ha).2⟩⟩
theorem rcopyS_any (n f : Int) (z : Bool) (d : ByteArray) (a : Option Addr) (cap : Nat) (rs : List HP) (w : World) (h : HasP w a cap rs) (hl : rs.length ≤ 1048576) :
    Calls Try.prog 40 #[.agg #[.int .i64 n, .string d, .slice a rs.length cap, .int .i64 f, .bool z]] w (NewRc ⟨n, d, rs, f, z⟩ w) := by
  cases a with
  | none =>
    obtain ⟨rfl, rfl⟩ := h.2 rfl
    exact rcopyS_nil n f z d w
  | some ad =>
    exact rcopyS n f z d ad cap rs w h.1 (by omega)

/-- How many bytes TakenIn hands over. -/
def tkn (d : ByteArray) (k : Int) : Nat := (min (max k 0) (d.size : Int)).toNat
theorem tkn_is (d : ByteArray) (k : Int) : min (max k 0) (d.size : Int) = (tkn d k : Int) := by unfold tkn; omega
theorem tkn_is2 (d : ByteArray) (k : Int) : max 0 (min k (d.size : Int)) = (tkn d k : Int) := by unfold tkn; omega
theorem tkn_le (d : ByteArray) (k : Int) : tkn d k ≤ d.size := by unfold tkn; omega
noncomputable def taken (r : Rcv) (k : Int) : Rcv := bif rcvOk r then ⟨r.n, r.d.extract (tkn r.d k) r.d.size, r.rs, r.f, r.z⟩ else r
noncomputable def takenS (r : Rcv) (k : Int) : ByteArray := bif rcvOk r then r.d.extract 0 (tkn r.d k) else ⟨#[]⟩
/-- What TakenIn hands back. -/
def EndTk (r : Rcv) (x : ByteArray) (w : World) (e : Ending) (w' : World) : Prop :=
  ∃ a cap, e = .returned (.tuple #[.agg #[.int .i64 r.n, .string r.d, .slice a r.rs.length cap, .int .i64 r.f, .bool r.z], .string x]) ∧ w'.ownsRow w.heap.size 64 2 (.slice a r.rs.length cap) r.rs.length (hps r.rs) ∧ Below w.heap.size w w'
end Go.Proofs.Ytpbnkkgfjmkcdaa
