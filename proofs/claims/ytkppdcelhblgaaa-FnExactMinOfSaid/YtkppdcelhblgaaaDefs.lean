/-
  What it means that a pattern is finite, a number, a zero.
-/
import Derived.Test.YtkppdcelhblgaaaPlain
namespace Go.Proofs.Ytkppdcelhblgaaa
open Go

/-- There are a format and a finite pattern. -/
def finB (e f p : Int) : Bool := patB e f p && decide (p % pw (e + f) / pw f < pw e - 1)

/-- There are a format and a pattern that is a number. -/
def numB (e f p : Int) : Bool := patB e f p && (decide (p % pw (e + f) / pw f < pw e - 1) || (p % pw (e + f) / pw f == pw e - 1 && p % pw f == 0))

/-- There are a format and a zero. -/
def zerB (e f p : Int) : Bool := patB e f p && (p % pw (e + f) / pw f == 0 && p % pw f == 0)


end Go.Proofs.Ytkppdcelhblgaaa
