/- Dates by the document: their helpers. -/
import Derived.Test.YtajfdcijpchjdaaSz9
import Derived.Test.YtajfdcijpchjdaaRows
import Derived.Test.YtajfdcijpchjdaaLdayrs3
set_option maxRecDepth 20000
set_option linter.unusedSimpArgs false
set_option linter.unusedVariables false
namespace Go.Proofs.Ytajfdcijpchjdaa.tk
open Go Go.Ev Go.Sy Go.RowKit Go.Proofs.Ytajfdcijpchjdaa.gl
structure StRg where
  n : Nat
  i : Nat
structure GRd where
  l : List UInt8
  d : Int
  y : Int
  h : Int
  m : Int
  c : Int
structure StR1 where
  mon : Int
  i : Nat
structure GR2 where
  l : List UInt8
  d : Nat
  y : Nat
  m : Nat
  h : Int
  mi : Int
  c : Int
structure GRs where
  d : Nat
  c : Nat
  w : List UInt8
  y : Nat
end Go.Proofs.Ytajfdcijpchjdaa.tk
