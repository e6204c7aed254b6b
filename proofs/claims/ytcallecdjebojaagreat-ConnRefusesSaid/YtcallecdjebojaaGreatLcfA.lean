/- What a server does by HEADERS on a new stream, so many of them behind one another: closed calls by numbers. -/
import Derived.Test.YtcallecdjebojaaGreatSz9
import Derived.Test.YtcallecdjebojaaGreatRows
import Derived.Test.YtcallecdjebojaaGreatLcpB
set_option maxRecDepth 20000
set_option linter.unusedSimpArgs false
set_option linter.unusedVariables false
namespace Go.Proofs.YtcallecdjebojaaGreat.cf
open Go Go.Ev Go.Sy Go.RowKit Go.Proofs.YtcallecdjebojaaGreat.ck Go.Proofs.YtcallecdjebojaaGreat.cp
def u8 (n : Nat) : Value := .int .u8 (.ofNat n)
def nn (n : Nat) : Value := .int .i64 (.ofNat n)
def ptr (n : Nat) : Value := .pointer (some ⟨n, 0, none⟩)
def slv (r off n : Nat) : Value := .slice (some ⟨r, off, none⟩) n 1
def cnF (k last : Nat) (q s m : Value) : Row := ⟨[.bool true, nn k, nn 65535, nn 65536, nn 4096, nn 2147483647, nn 65535, nn 16384, nn 2147483647, q, ptr 3, ptr 4, ptr 5, nn 65535, nn 65535, s, m, nn last, nn 1, .bool true, .bool false, .bool false, .bool false, .bool false, nn 0, .slice none 0 0, .bool false, .slice none 0 0], false, .cells false⟩
def cnG (k : Nat) : Row := ⟨[.bool true, nn k, nn 65535, nn 65536, nn 4096, nn 2147483647, nn 65535, nn 16384, nn 2147483647, slv 1 36 0, ptr 2, ptr 4, ptr 5, nn 65535, nn 65535, .slice none 0 0, .slice none 0 0, nn 0, nn 1, .bool true, .bool false, .bool false, .bool false, .bool false, nn 0, .slice none 0 0, .bool false, .slice none 0 0], false, .cells false⟩
def hdF (i : Nat) : List Value := [u8 0, u8 0, u8 1, u8 1, u8 4, u8 0, u8 0, u8 0, u8 (2 * i + 1), u8 130]
def q0F (k : Nat) : List Value := u8 0 :: u8 0 :: u8 18 :: u8 4 :: u8 0 :: u8 0 :: u8 0 :: u8 0 :: u8 0 :: u8 0 :: u8 3 :: u8 0 :: u8 0 :: u8 0 :: u8 k :: u8 0 :: u8 4 :: u8 0 :: u8 0 :: u8 255 :: u8 255 :: u8 0 :: u8 6 :: u8 0 :: u8 1 :: u8 0 :: u8 0 :: u8 0 :: u8 0 :: u8 0 :: u8 4 :: u8 1 :: u8 0 :: u8 0 :: u8 0 :: u8 0 :: []
def rsF (k : Nat) : Nat → List Value
  | 0 => []
  | r + 1 => rsF k r ++ [u8 0, u8 0, u8 4, u8 3, u8 0, u8 0, u8 0, u8 0, u8 (2 * (k + r) + 1), u8 0, u8 0, u8 0, u8 7]
def muF (k : Nat) : Nat → List Value
  | 0 => []
  | r + 1 => muF k r ++ [nn (2 * (k + r) + 1)]
def psF (b : Nat) : Nat → List Value
  | 0 => []
  | j + 1 => psF b j ++ [ptr (b + j)]
def flF (j : Nat) : Row := ⟨[nn (2 * j + 1), nn 1, nn 65535, nn 65535, .bool true, .bool false], false, .cells false⟩
def flsF : Nat → List Row
  | 0 => []
  | j + 1 => flsF j ++ [flF j]
def jF (k i : Nat) : Nat := bif Nat.ble i k then i else k
def quF (k r : Nat) (n : Nat) : Value × Row := match r with
  | 0 => (slv n 36 0, ⟨q0F k, false, .cells true⟩)
  | r + 1 => (slv n 0 (13 * (r + 1)), ⟨rsF k (r + 1), false, .cells true⟩)
def stF (j n : Nat) : Value := match j with | 0 => .slice none 0 0 | j + 1 => slv n 0 (j + 1)
def one (b : Nat) : Nat := match b with | 0 => 0 | _ + 1 => 1
def rdF (l off : Nat) : Row := rdB l off 0
def ltF (i : Nat) : Row := match i with | 0 => lfB | i + 1 => ⟨hdF i, false, .cells true⟩
def loF (i : Nat) : Nat := match i with | 0 => 9 | _ + 1 => 10
def lastF (i : Nat) : Nat := match i with | 0 => 0 | i + 1 => 2 * i + 1
def rowsF (k i : Nat) : List Row :=
  let j := jF k i; let r := i - j; let L := 6 + one j + one r
  [cnF k (lastF i) (quF k r 2).1 (stF j 6) (stF r 7), ⟨hdF i, true, .cells true⟩, (quF k r 2).2, rdF L (loF i), unB (L + 1), pkB (L + 2)] ++ (match j with | 0 => [] | _ => [⟨psF (L + 3) j, false, .cells false⟩]) ++ (match r with | 0 => [] | _ => [⟨muF k r, false, .cells true⟩]) ++ [ltF i, tbB, tbB] ++ flsF j
def aF : List Value := [ptr 0, slv 1 0 10]
def flN (b : Nat) : Nat → List (Nat × Row)
  | 0 => []
  | j + 1 => flN b j ++ [(b + j, flF j)]
def nF (k i : Nat) : Nat := (rowsF k i).length
def outF (k i : Nat) : Value × Nat × List (Nat × Row) :=
  let j := jF k i; let r := i - j; let L := 6 + one j + one r; let N := nF k i
  bif Nat.blt i k then
    (.slice (some ⟨N + 2, 0, none⟩) 1 6, N + 5, [(0, cnF k (lastF (i + 1)) (quF k r 2).1 (stF (j + 1) N) (stF r 7)), (2, (quF k r 2).2), (3, rdF (N + 1) 10), (4, unB (L + 1)), (5, pkB (L + 2)), (N, ⟨psF (L + 3) j ++ [ptr (N + 4)], false, .cells false⟩), (N + 1, ⟨hdF i, false, .cells true⟩), (L + 1, tbB), (L + 2, tbB)] ++ flN (L + 3) j ++ [(N + 4, flF j), (N + 2, ⟨[nn 1, nn (2 * i + 1), .slice (some ⟨N + 3, 0, none⟩) 1 2, .string ⟨#[]⟩, .bool false, nn 0], false, .cells false⟩), (N + 3, ⟨[.string ⟨#[58, 109, 101, 116, 104, 111, 100]⟩, .string ⟨#[71, 69, 84]⟩], false, .cells false⟩)])
  else
    (.slice none 0 0, N + 4, [(0, cnF k (lastF (i + 1)) (quF k (r + 1) (N + 2)).1 (stF j N) (stF (r + 1) (N + 3))), (3, rdF (N + 1) 10), (4, unB (L + 1)), (5, pkB (L + 2)), (N, ⟨psF (L + 3) j, false, .cells false⟩), (N + 1, ⟨hdF i, false, .cells true⟩), (L + 1, tbB), (L + 2, tbB), (N + 2, (quF k (r + 1) (N + 2)).2), (N + 3, ⟨muF k (r + 1), false, .cells true⟩)] ++ flN (L + 3) j)
def l_bgF (k : Nat) : List (Nat × Row) := [(0, cnG k), (1, ⟨q0F k, false, .cells true⟩), (2, rdB 3 9 0), (3, lfB), (4, unB 6), (5, pkB 7), (6, tbB), (7, tbB)]
def a_bgF (k : Nat) : List Value := [.agg ⟨[nn k, nn 65535, nn 65536]⟩]
noncomputable def tB (k : Nat) : Prop := mcall EBg noM 5000 35 (a_bgF k) ⟨mkR (nums 0 []), ([] : List Row).length⟩ (retB ([] : List Row).length (ptr 0) 8 (l_bgF k))
def e_bgF (k : Nat) : CEnt := ⟨35, a_bgF k, [], ptr 0, 8, l_bgF k⟩
def e_fF (k i : Nat) : CEnt := ⟨20, aF, rowsF k i, (outF k i).1, (outF k i).2.1, (outF k i).2.2⟩
def LF (k : Nat) : Nat → List CEnt
  | 0 => [e_bgF k]
  | n + 1 => LF k n ++ [e_fF k n]
noncomputable def tF (k i : Nat) : Prop := mcall EBg noM 5000 20 aF ⟨mkR (nums 0 (rowsF k i)), (rowsF k i).length⟩ (retB (rowsF k i).length (outF k i).1 (outF k i).2.1 (outF k i).2.2)
end Go.Proofs.YtcallecdjebojaaGreat.cf
