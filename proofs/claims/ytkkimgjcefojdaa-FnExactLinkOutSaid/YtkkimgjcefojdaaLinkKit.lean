/- Links as pure words: which are valid, what a frame brings to one. Nothing here is a claim. -/
import Derived.Test.YtkkimgjcefojdaaEntKit
import Derived.Test.YtkkimgjcefojdaaFrameKit
import Derived.Test.YtkkimgjcefojdaaReadFrm2
import Derived.Test.YtkkimgjcefojdaaReadPk
import Derived.Test.YtkkimgjcefojdaaArpBack
import Derived.Test.YtkkimgjcefojdaaArpRep2
import Derived.Test.YtkkimgjcefojdaaForMe
namespace Go.Proofs.Ytkkimgjcefojdaa
open Go.RowKit Go.Lib

/-- Whether a link is valid. -/
noncomputable def linkOk (m ip : Int) (rs : List ER) : Bool := wordOk m 48 && (decide (m ≠ 281474976710655) && (wordOk ip 32 && cacheOk rs))
/-- What a frame brings: where its sender is found, what there is to do, the packet, the text to send. -/
structure Arr where
  ip : Int
  hw : Int
  kind : Int
  s : Int
  d : Int
  t : Int
  p : Int
  i : Int
  b : ByteArray
  ans : ByteArray
def Arr.zero : Arr := ⟨0, 0, 0, 0, 0, 0, 0, 0, ⟨#[]⟩, ⟨#[]⟩⟩
/-- What an ARP text brings. -/
def arpIn (m ip : Int) (b : ByteArray) : Option Arr :=
  if raOk b && decide ((gw b 24 4 : Int) = ip) then
    some (if rpOk (gw b 6 2 : Nat) (gw b 8 6 : Nat) (gw b 14 4 : Nat) (gw b 24 4 : Nat) m ip then
      ⟨(gw b 14 4 : Nat), (gw b 8 6 : Nat), 1, 0, 0, 0, 0, 0, ⟨#[]⟩, frameText (gw b 8 6 : Nat) m 2054 (arpText 2 m ip (gw b 8 6 : Nat) (gw b 14 4 : Nat))⟩
      else ⟨(gw b 14 4 : Nat), (gw b 8 6 : Nat), 0, 0, 0, 0, 0, 0, ⟨#[]⟩, ⟨#[]⟩⟩)
  else none
/-- What a packet's text brings, in a frame from this address. -/
def pkIn (ip src : Int) (b : ByteArray) : Option Arr :=
  if decide (pkWhy b = 0) && (decide ((gw b 16 4 : Int) = ip) && (decide ((at8 b 9).toNat = 6) && decide (¬ (gw b 12 4 : Int) = ip))) then
    some ⟨(gw b 12 4 : Nat), src, 2, (gw b 12 4 : Nat), (gw b 16 4 : Nat), (at8 b 8).toNat, (at8 b 9).toNat, (gw b 4 2 : Nat), b.extract 20 (gw b 2 2), ⟨#[]⟩⟩
  else none
/-- What a text brings to a link. -/
noncomputable def arrOf (m ip : Int) (rs : List ER) (s : ByteArray) : Option Arr :=
  if linkOk m ip rs && (rfOk s && forMe (rfD s) m) then
    (if rfT s = 2054 then arpIn m ip (rfB s) else if rfT s = 2048 then pkIn ip (rfS s) (rfB s) else none)
  else none
/-- The cache behind a text. -/
noncomputable def linkRs (o : Option Arr) (rs : List ER) : List ER := match o with
  | some a => learnE rs a.ip a.hw
  | none => rs
end Go.Proofs.Ytkkimgjcefojdaa
