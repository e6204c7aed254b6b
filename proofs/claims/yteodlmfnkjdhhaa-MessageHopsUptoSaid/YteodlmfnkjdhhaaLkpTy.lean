/- Requests, responses and entries as cells. -/
import Derived.Test.YteodlmfnkjdhhaaSz9
import Derived.Test.YteodlmfnkjdhhaaRows
import Derived.Test.YteodlmfnkjdhhaaLtok
set_option linter.unusedSimpArgs false
set_option linter.unusedVariables false
namespace Go.Proofs.Yteodlmfnkjdhhaa.tk
open Go Go.Ev Go.Sy Go.RowKit Go.Proofs.Yteodlmfnkjdhhaa.gl
structure EnY where
  m : ByteArray
  s : ByteArray
  a : ByteArray
  p : ByteArray
  k : Int
  st : Int
  k2 : Int
  body : ByteArray
  asked : Int
  came : Int
structure RqY where
  m : ByteArray
  s : ByteArray
  a : ByteArray
  p : ByteArray
  k : Int
def enCy (x : EnY) (r0 n0 r1 n1 : Nat) : List Value := [.string x.m, .string x.s, .string x.a, .string x.p, .slice (some ⟨r0, 0, none⟩) n0 2, .int .i64 x.k, .int .i64 x.st, .slice (some ⟨r1, 0, none⟩) n1 2, .int .i64 x.k2, .string x.body, .int .i64 x.asked, .int .i64 x.came]
def rqCy (x : RqY) (r n : Nat) : List Value := [.string x.m, .string x.s, .string x.a, .string x.p, .slice (some ⟨r, 0, none⟩) n 2, .int .i64 x.k]
def rsCy (st : Int) (r n : Nat) (k : Int) : List Value := [.int .i64 st, .slice (some ⟨r, 0, none⟩) n 2, .int .i64 k]
end Go.Proofs.Yteodlmfnkjdhhaa.tk
