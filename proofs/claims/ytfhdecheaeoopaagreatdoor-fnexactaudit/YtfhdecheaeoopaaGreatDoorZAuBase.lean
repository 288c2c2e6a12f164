/-
  What Audit asks of a deed and a space.
-/
import Derived.Test.YtfhdecheaeoopaaGreatDoorZCsCheck
import Derived.Test.YtfhdecheaeoopaaGreatDoorZCsSpec
import Derived.Test.YtfhdecheaeoopaaGreatDoorZAuAsc
import Derived.Test.YtfhdecheaeoopaaGreatDoorZInsB
namespace Go.Proofs.YtfhdecheaeoopaaGreatDoor.Vp
open Go.RowKit

/-- the space has something under the name. -/
def hasN (n0 : Nat) (f0 : Nat → Source) (n1 : Nat) (f1 : Nat → Target) (t : ByteArray) : Bool := isIn (nm0 f0) n0 t || isIn (nm1 f1) n1 t
def srcB (n0 : Nat) (f0 : Nat → Source) (t x : ByteArray) : Bool := anyTo (fun i => ((nm0 f0 i).toList == t.toList) && ((f0 i).text.toList == x.toList)) n0
def tgtB (n1 : Nat) (f1 : Nat → Target) (t : ByteArray) (n : Nat) (f : Nat → Ins) : Bool := anyTo (fun i => ((nm1 f1 i).toList == t.toList) && codeB (f1 i).act f (f1 i).actN n) n1
/-- the space has something else under the deed's name. -/
def lieB (n0 : Nat) (f0 : Nat → Source) (n1 : Nat) (f1 : Nat → Target) (d : Deed) : Bool :=
  if d.kind = 1 then !srcB n0 f0 d.name d.text else if d.kind = 3 then !tgtB n1 f1 d.name d.actN d.act else hasN n0 f0 n1 f1 d.name
def offB (n0 : Nat) (f0 : Nat → Source) (n1 : Nat) (f1 : Nat → Target) (l : Link) : Bool := !l.ask && !(l.has == hasN n0 f0 n1 f1 l.name)
def hasB (n0 : Nat) (f0 : Nat → Source) (n1 : Nat) (f1 : Nat → Target) (d : Deed) : Bool := anyTo (fun k => offB n0 f0 n1 f1 (d.links k)) d.linksN
end Go.Proofs.YtfhdecheaeoopaaGreatDoor.Vp
