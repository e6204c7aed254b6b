/- A step's line, as shell writes it. -/
import Derived.Test.YtnbfhihibgdgpaaGreatDoorSz9
import Derived.Test.YtnbfhihibgdgpaaGreatDoorRows
import Derived.Test.YtnbfhihibgdgpaaGreatDoorLslC
set_option maxRecDepth 20000
set_option linter.unusedSimpArgs false
set_option linter.unusedVariables false
namespace Go.Proofs.YtnbfhihibgdgpaaGreatDoor.sl
open Go Go.Ev Go.Sy Go.RowKit Go.Proofs.YtnbfhihibgdgpaaGreatDoor.gl Go.Proofs.YtnbfhihibgdgpaaGreatDoor.tk Go.Proofs.YtnbfhihibgdgpaaGreatDoor.it Go.Proofs.YtnbfhihibgdgpaaGreatDoor.sn
def nW (n : Int) : List UInt8 := 32 :: Lib.itoa n
def eW (e : Bool) : List UInt8 := if e = true then [32, 101, 110, 100, 32, 61] else [32, 111, 110, 32, 61]
def tW (g : GS) : List UInt8 := eW g.e ++ wordL g.t
def okG (g : GS) : Prop := I64 g.a ∧ I64 g.b ∧ I64 g.c ∧ g.t.length ≤ 4000 ∧ g.l.length ≤ maxLen ∧ (∀ r ∈ g.l, okRw r) ∧ (rwsL g.l).length ≤ 900000
theorem eMap (A : List UInt8) : List.map (fun b => Value.int IntKind.u8 (b.toNat : Int)) ([] ++ A) = bCells A := rfl
theorem one32 (A : List UInt8) : allOne (Value.int IntKind.u8 (32 : Int) :: bCells A) = true := bCells_one (32 :: A)
end Go.Proofs.YtnbfhihibgdgpaaGreatDoor.sl
