/- The laws: any frame behind any bytes, both stay; a frame's size. -/
import Derived.Test.YtkeiogmapogpnaaSz9
import Derived.Test.YtkeiogmapogpnaaRows
import Derived.Test.YtkeiogmapogpnaaLs9put
import Derived.Test.YtkeiogmapogpnaaLbook
set_option linter.unusedSimpArgs false
set_option linter.unusedVariables false
namespace Go.Proofs.Ytkeiogmapogpnaa.s9
open Go Go.Ev Go.Sy Go.RowKit
def u8i (m : Int) : UInt8 := UInt8.ofNat m.toNat
def IsU8 (m : Int) : Prop := ∃ b : UInt8, m = b.toNat
def pad80 (l : List UInt8) (m : UInt8) : List UInt8 := l ++ List.replicate 80 m
def frR (r0 r1 : Row) (t f s : Int) : List UInt8 := frO (dB r0) (dB r1) t f s
def cP : FuncId → List Value → List Row → Option (Prop × Value × List Row)
  | 19, [.agg ⟨[.int .i64 t, .int .i64 f, .int .i64 s, .slice (some ⟨0, 0, none⟩) n 1]⟩], [r0] => some (IsB r0 n, .bool (rightB t f s n), [])
  | 3, [], [] => some (True, .bool true, [])
  | 11, [.slice (some ⟨0, 0, none⟩) n 1, .agg ⟨[.int .i64 t, .int .i64 f, .int .i64 s, .slice (some ⟨1, 0, none⟩) m 1]⟩], [r0, r1] => some (IsB r0 n ∧ IsB r1 m ∧ n ≤ 2000000 ∧ m ≤ 1000000, slc 2 (frR r0 r1 t f s).length, [bOwn (frR r0 r1 t f s)])
  | 21, [.slice (some ⟨0, 0, none⟩) n 1, .agg ⟨[.int .i64 t, .int .i64 f, .int .i64 s, .slice (some ⟨1, 0, none⟩) m 1]⟩], [r0, r1] => some (IsB r0 n ∧ IsB r1 m ∧ n ≤ 2000000 ∧ m ≤ 1000000, slc 2 (frR r0 r1 t f s).length, [bOwn (frR r0 r1 t f s)])
  | 20, [.agg ⟨[.int .i64 t, .int .i64 f, .int .i64 s, .slice (some ⟨0, 0, none⟩) n 1]⟩], [r0] => some (IsB r0 n, .bool (rightB t f s n), [])
  | 12, [.slice (some ⟨0, 0, none⟩) n 1, .slice (some ⟨1, 0, none⟩) m 1], [r0, r1] => some (IsB r0 n ∧ IsB r1 m ∧ n ≤ maxLen, .bool (decide (dB r0 = dB r1)), [])
  | 18, [.slice (some ⟨0, 0, none⟩) n 1, .int .u8 m], [r0] => some (IsB r0 n ∧ IsU8 m ∧ n ≤ 16777136, slc 1 (n + 80), [bOwn (pad80 (dB r0) (u8i m))])
  | 22, [.slice (some ⟨0, 0, none⟩) n 1, .slice (some ⟨1, 0, none⟩) m 1, .int .u8 k], [r0, r1] => some (IsB r0 n ∧ IsB r1 m ∧ IsU8 k ∧ n ≤ maxLen ∧ m ≤ 9223372036854775000, .bool (decide (dB r0 = pad80 (dB r1) (u8i k))), [])
  | _, _, _ => none
def kP (f : FuncId) : Bool := Nat.beq f 19 || Nat.beq f 3 || Nat.beq f 11 || Nat.beq f 21 || Nat.beq f 20 || Nat.beq f 12 || Nat.beq f 18 || Nat.beq f 22
noncomputable abbrev EP : Env := envC Try.prog cP kP
theorem rright_vc (t f s : Int) (l : List UInt8) (x : Bool) : mcall E0 noM 60 20 [frV t f s 0 l.length] ⟨mkR (nums 0 [bRo l]), 1⟩ (retIs 1 (.bool x) [bRo l]) =
  (br (decide (t ≥ (0 : Int)))
   (br (decide (t < (256 : Int)))
    (br (decide (f ≥ (0 : Int)))
     (br (decide (f < (256 : Int)))
      (br (decide (s ≥ (0 : Int)))
       (br (decide (s ≤ (2147483647 : Int)))
        ((x = decide (Int.ofNat (List.length l) ≤ (16777215 : Int))) ∧
        ((Eq (α := List Value) (bCells l) (bCells l)) ∧
        ((Plain (bCells l)) ∧
        True)))
        ((x = false) ∧
        ((Eq (α := List Value) (bCells l) (bCells l)) ∧
        ((Plain (bCells l)) ∧
        True))))
       ((x = false) ∧
       ((Eq (α := List Value) (bCells l) (bCells l)) ∧
       ((Plain (bCells l)) ∧
       True))))
      ((x = false) ∧
      ((Eq (α := List Value) (bCells l) (bCells l)) ∧
      ((Plain (bCells l)) ∧
      True))))
     ((x = false) ∧
     ((Eq (α := List Value) (bCells l) (bCells l)) ∧
     ((Plain (bCells l)) ∧
     True))))
    ((x = false) ∧
    ((Eq (α := List Value) (bCells l) (bCells l)) ∧
    ((Plain (bCells l)) ∧
    True))))
   ((x = false) ∧
   ((Eq (α := List Value) (bCells l) (bCells l)) ∧
   ((Plain (bCells l)) ∧
   True)))) := by kernel_rfl
theorem fs_vc (b p : List UInt8) (t f s : Int) : mcall EP noM 60 8 [slc 0 b.length, frV t f s 1 p.length] ⟨mkR (nums 0 [bRo b, bRo p]), 2⟩ (retIs 2 (.bool true) [bRo b, bRo p]) =
  (br (decide (Int.ofNat (List.length p) > (300 : Int)))
   (br (decide ((0 : Int) ≤ (↑(0 : Nat) : Int) ∧ (↑(0 : Nat) : Int) ≤ (300 : Int) ∧ (300 : Int) ≤ (↑(List.length p) : Int)))
    ((((((0 : Nat) + List.length b * (1 : Nat) ≤ List.length (bCells b) ∧ Plain (List.take (List.length b * (1 : Nat)) (List.drop (0 : Nat) (bCells b)))) ∧ ((True ∧ (True ∧ (True ∧ (((300 : Nat) ≤ List.length (bCells p) ∧ Plain (List.take (300 : Nat) (List.drop (0 : Nat) (bCells p)))) ∧ True)))) ∧ True)) ∧ ((Plain (bCells (frR (Row.mk (List.take (List.length b * (1 : Nat)) (List.drop (0 : Nat) (bCells b))) true (Ob.cells true)) (Row.mk (List.take (300 : Nat) (List.drop (0 : Nat) (bCells p))) true (Ob.cells true)) t f s)) ∧ True) ∧ (IsB (Row.mk (List.take (List.length b * (1 : Nat)) (List.drop (0 : Nat) (bCells b))) true (Ob.cells true)) (List.length b) ∧ (IsB (Row.mk (List.take (300 : Nat) (List.drop (0 : Nat) (bCells p))) true (Ob.cells true)) (300 : Nat) ∧ (List.length b ≤ (2000000 : Nat) ∧ Int.toNat (300 : Int) - Int.toNat (↑(0 : Nat) : Int) ≤ (1000000 : Nat))))))) ∧
    (((((True ∧ (True ∧ (True ∧ (((300 : Nat) ≤ List.length (bCells p) ∧ Plain (List.take (300 : Nat) (List.drop (0 : Nat) (bCells p)))) ∧ True)))) ∧ True) ∧ (True ∧ IsB (Row.mk (List.take (300 : Nat) (List.drop (0 : Nat) (bCells p))) true (Ob.cells true)) (300 : Nat)))) ∧
    (br (rightB t f s (300 : Nat))
     (br (IntKind.wrap IntKind.i64 (Int.ofNat (List.length (frR (Row.mk (List.take (List.length b * (1 : Nat)) (List.drop (0 : Nat) (bCells b))) true (Ob.cells true)) (Row.mk (List.take (300 : Nat) (List.drop (0 : Nat) (bCells p))) true (Ob.cells true)) t f s)) - Int.ofNat (List.length b)) == (309 : Int))
      (((True ∧ (True ∧ True))) ∧
      ((true = true) ∧
      ((Eq (α := List Value) (bCells b) (bCells b)) ∧
      ((Plain (bCells b)) ∧
      ((Eq (α := List Value) (bCells p) (bCells p)) ∧
      ((Plain (bCells p)) ∧
      True))))))
      (((((True ∧ (True ∧ (True ∧ (((300 : Nat) ≤ List.length (bCells p) ∧ Plain (List.take (300 : Nat) (List.drop (0 : Nat) (bCells p)))) ∧ True)))) ∧ True) ∧ (True ∧ IsB (Row.mk (List.take (300 : Nat) (List.drop (0 : Nat) (bCells p))) true (Ob.cells true)) (300 : Nat)))) ∧
      (br (!rightB t f s (300 : Nat))
       (br (IntKind.wrap IntKind.i64 (Int.ofNat (List.length (frR (Row.mk (List.take (List.length b * (1 : Nat)) (List.drop (0 : Nat) (bCells b))) true (Ob.cells true)) (Row.mk (List.take (300 : Nat) (List.drop (0 : Nat) (bCells p))) true (Ob.cells true)) t f s)) - Int.ofNat (List.length b)) == (0 : Int))
        (((True ∧ (True ∧ True))) ∧
        ((true = true) ∧
        ((Eq (α := List Value) (bCells b) (bCells b)) ∧
        ((Plain (bCells b)) ∧
        ((Eq (α := List Value) (bCells p) (bCells p)) ∧
        ((Plain (bCells p)) ∧
        True))))))
        ((true = false) ∧
        ((Eq (α := List Value) (bCells b) (bCells b)) ∧
        ((Plain (bCells b)) ∧
        ((Eq (α := List Value) (bCells p) (bCells p)) ∧
        ((Plain (bCells p)) ∧
        True))))))
       ((true = false) ∧
       ((Eq (α := List Value) (bCells b) (bCells b)) ∧
       ((Plain (bCells b)) ∧
       ((Eq (α := List Value) (bCells p) (bCells p)) ∧
       ((Plain (bCells p)) ∧
       True))))))))
     (((((True ∧ (True ∧ (True ∧ (((300 : Nat) ≤ List.length (bCells p) ∧ Plain (List.take (300 : Nat) (List.drop (0 : Nat) (bCells p)))) ∧ True)))) ∧ True) ∧ (True ∧ IsB (Row.mk (List.take (300 : Nat) (List.drop (0 : Nat) (bCells p))) true (Ob.cells true)) (300 : Nat)))) ∧
     (br (!rightB t f s (300 : Nat))
      (br (IntKind.wrap IntKind.i64 (Int.ofNat (List.length (frR (Row.mk (List.take (List.length b * (1 : Nat)) (List.drop (0 : Nat) (bCells b))) true (Ob.cells true)) (Row.mk (List.take (300 : Nat) (List.drop (0 : Nat) (bCells p))) true (Ob.cells true)) t f s)) - Int.ofNat (List.length b)) == (0 : Int))
       (((True ∧ (True ∧ True))) ∧
       ((true = true) ∧
       ((Eq (α := List Value) (bCells b) (bCells b)) ∧
       ((Plain (bCells b)) ∧
       ((Eq (α := List Value) (bCells p) (bCells p)) ∧
       ((Plain (bCells p)) ∧
       True))))))
       ((true = false) ∧
       ((Eq (α := List Value) (bCells b) (bCells b)) ∧
       ((Plain (bCells b)) ∧
       ((Eq (α := List Value) (bCells p) (bCells p)) ∧
       ((Plain (bCells p)) ∧
       True))))))
      ((true = false) ∧
      ((Eq (α := List Value) (bCells b) (bCells b)) ∧
      ((Plain (bCells b)) ∧
      ((Eq (α := List Value) (bCells p) (bCells p)) ∧
      ((Plain (bCells p)) ∧
      True))))))))))
    False)
   ((((((0 : Nat) + List.length b * (1 : Nat) ≤ List.length (bCells b) ∧ Plain (List.take (List.length b * (1 : Nat)) (List.drop (0 : Nat) (bCells b)))) ∧ ((True ∧ (True ∧ (True ∧ (((0 : Nat) + List.length p * (1 : Nat) ≤ List.length (bCells p) ∧ Plain (List.take (List.length p * (1 : Nat)) (List.drop (0 : Nat) (bCells p)))) ∧ True)))) ∧ True)) ∧ ((Plain (bCells (frR (Row.mk (List.take (List.length b * (1 : Nat)) (List.drop (0 : Nat) (bCells b))) true (Ob.cells true)) (Row.mk (List.take (List.length p * (1 : Nat)) (List.drop (0 : Nat) (bCells p))) true (Ob.cells true)) t f s)) ∧ True) ∧ (IsB (Row.mk (List.take (List.length b * (1 : Nat)) (List.drop (0 : Nat) (bCells b))) true (Ob.cells true)) (List.length b) ∧ (IsB (Row.mk (List.take (List.length p * (1 : Nat)) (List.drop (0 : Nat) (bCells p))) true (Ob.cells true)) (List.length p) ∧ (List.length b ≤ (2000000 : Nat) ∧ List.length p ≤ (1000000 : Nat))))))) ∧
   (((((True ∧ (True ∧ (True ∧ (((0 : Nat) + List.length p * (1 : Nat) ≤ List.length (bCells p) ∧ Plain (List.take (List.length p * (1 : Nat)) (List.drop (0 : Nat) (bCells p)))) ∧ True)))) ∧ True) ∧ (True ∧ IsB (Row.mk (List.take (List.length p * (1 : Nat)) (List.drop (0 : Nat) (bCells p))) true (Ob.cells true)) (List.length p)))) ∧
   (br (rightB t f s (List.length p))
    (br (IntKind.wrap IntKind.i64 (Int.ofNat (List.length (frR (Row.mk (List.take (List.length b * (1 : Nat)) (List.drop (0 : Nat) (bCells b))) true (Ob.cells true)) (Row.mk (List.take (List.length p * (1 : Nat)) (List.drop (0 : Nat) (bCells p))) true (Ob.cells true)) t f s)) - Int.ofNat (List.length b)) == IntKind.wrap IntKind.i64 ((9 : Int) + Int.ofNat (List.length p)))
     (((True ∧ (True ∧ True))) ∧
     ((true = true) ∧
     ((Eq (α := List Value) (bCells b) (bCells b)) ∧
     ((Plain (bCells b)) ∧
     ((Eq (α := List Value) (bCells p) (bCells p)) ∧
     ((Plain (bCells p)) ∧
     True))))))
     (((((True ∧ (True ∧ (True ∧ (((0 : Nat) + List.length p * (1 : Nat) ≤ List.length (bCells p) ∧ Plain (List.take (List.length p * (1 : Nat)) (List.drop (0 : Nat) (bCells p)))) ∧ True)))) ∧ True) ∧ (True ∧ IsB (Row.mk (List.take (List.length p * (1 : Nat)) (List.drop (0 : Nat) (bCells p))) true (Ob.cells true)) (List.length p)))) ∧
     (br (!rightB t f s (List.length p))
      (br (IntKind.wrap IntKind.i64 (Int.ofNat (List.length (frR (Row.mk (List.take (List.length b * (1 : Nat)) (List.drop (0 : Nat) (bCells b))) true (Ob.cells true)) (Row.mk (List.take (List.length p * (1 : Nat)) (List.drop (0 : Nat) (bCells p))) true (Ob.cells true)) t f s)) - Int.ofNat (List.length b)) == (0 : Int))
       (((True ∧ (True ∧ True))) ∧
       ((true = true) ∧
       ((Eq (α := List Value) (bCells b) (bCells b)) ∧
       ((Plain (bCells b)) ∧
       ((Eq (α := List Value) (bCells p) (bCells p)) ∧
       ((Plain (bCells p)) ∧
       True))))))
       ((true = false) ∧
       ((Eq (α := List Value) (bCells b) (bCells b)) ∧
       ((Plain (bCells b)) ∧
       ((Eq (α := List Value) (bCells p) (bCells p)) ∧
       ((Plain (bCells p)) ∧
       True))))))
      ((true = false) ∧
      ((Eq (α := List Value) (bCells b) (bCells b)) ∧
      ((Plain (bCells b)) ∧
      ((Eq (α := List Value) (bCells p) (bCells p)) ∧
      ((Plain (bCells p)) ∧
      True))))))))
    (((((True ∧ (True ∧ (True ∧ (((0 : Nat) + List.length p * (1 : Nat) ≤ List.length (bCells p) ∧ Plain (List.take (List.length p * (1 : Nat)) (List.drop (0 : Nat) (bCells p)))) ∧ True)))) ∧ True) ∧ (True ∧ IsB (Row.mk (List.take (List.length p * (1 : Nat)) (List.drop (0 : Nat) (bCells p))) true (Ob.cells true)) (List.length p)))) ∧
    (br (!rightB t f s (List.length p))
     (br (IntKind.wrap IntKind.i64 (Int.ofNat (List.length (frR (Row.mk (List.take (List.length b * (1 : Nat)) (List.drop (0 : Nat) (bCells b))) true (Ob.cells true)) (Row.mk (List.take (List.length p * (1 : Nat)) (List.drop (0 : Nat) (bCells p))) true (Ob.cells true)) t f s)) - Int.ofNat (List.length b)) == (0 : Int))
      (((True ∧ (True ∧ True))) ∧
      ((true = true) ∧
      ((Eq (α := List Value) (bCells b) (bCells b)) ∧
      ((Plain (bCells b)) ∧
      ((Eq (α := List Value) (bCells p) (bCells p)) ∧
      ((Plain (bCells p)) ∧
      True))))))
      ((true = false) ∧
      ((Eq (α := List Value) (bCells b) (bCells b)) ∧
      ((Plain (bCells b)) ∧
      ((Eq (α := List Value) (bCells p) (bCells p)) ∧
      ((Plain (bCells p)) ∧
      True))))))
     ((true = false) ∧
     ((Eq (α := List Value) (bCells b) (bCells b)) ∧
     ((Plain (bCells b)) ∧
     ((Eq (α := List Value) (bCells p) (bCells p)) ∧
     ((Plain (bCells p)) ∧
     True))))))))))) := by kernel_rfl
theorem fp_vc (b p : List UInt8) (t f s : Int) : mcall EP noM 60 4 [slc 0 b.length, frV t f s 1 p.length] ⟨mkR (nums 0 [bRo b, bRo p]), 2⟩ (retIs 2 (.bool true) [bRo b, bRo p]) =
  (br (decide (Int.ofNat (List.length p) > (300 : Int)))
   (br (decide ((0 : Int) ≤ (↑(0 : Nat) : Int) ∧ (↑(0 : Nat) : Int) ≤ (300 : Int) ∧ (300 : Int) ≤ (↑(List.length p) : Int)))
    ((((((0 : Nat) + List.length b * (1 : Nat) ≤ List.length (bCells b) ∧ Plain (List.take (List.length b * (1 : Nat)) (List.drop (0 : Nat) (bCells b)))) ∧ (True ∧ True)) ∧ ((Plain (bCells (pad80 (dB (Row.mk (List.take (List.length b * (1 : Nat)) (List.drop (0 : Nat) (bCells b))) true (Ob.cells true))) (u8i (7 : Int)))) ∧ True) ∧ (IsB (Row.mk (List.take (List.length b * (1 : Nat)) (List.drop (0 : Nat) (bCells b))) true (Ob.cells true)) (List.length b) ∧ (IsU8 (7 : Int) ∧ List.length b ≤ (16777136 : Nat)))))) ∧
    ((((((300 : Nat) ≤ List.length (bCells p) ∧ Plain (List.take (300 : Nat) (List.drop (0 : Nat) (bCells p)))) ∧ (True ∧ True)) ∧ ((Plain (bCells (pad80 (dB (Row.mk (List.take (300 : Nat) (List.drop (0 : Nat) (bCells p))) true (Ob.cells true))) (u8i (8 : Int)))) ∧ True) ∧ (IsB (Row.mk (List.take (300 : Nat) (List.drop (0 : Nat) (bCells p))) true (Ob.cells true)) (300 : Nat) ∧ (IsU8 (8 : Int) ∧ Int.toNat (300 : Int) - Int.toNat (↑(0 : Nat) : Int) ≤ (16777136 : Nat)))))) ∧
    ((Value.slice (some (Addr.mk (1 : Nat) (0 : Nat) none)) (300 : Nat) (1 : Nat) = Value.slice (some (Addr.mk (1 : Nat) (0 : Nat) none)) (300 : Nat) (1 : Nat)) ∧
    ((Value.slice (some (Addr.mk (1 : Nat) (0 : Nat) none)) (300 : Nat) (1 : Nat) = Value.slice (some (Addr.mk (1 : Nat) (0 : Nat) none)) (300 : Nat) (1 : Nat)) ∧
    (((((True ∧ (True ∧ (True ∧ (((300 : Nat) ≤ List.length (bCells (pad80 (dB (Row.mk (List.take (300 : Nat) (List.drop (0 : Nat) (bCells p))) true (Ob.cells true))) (u8i (8 : Int)))) ∧ Plain (List.take (300 : Nat) (List.drop (0 : Nat) (bCells (pad80 (dB (Row.mk (List.take (300 : Nat) (List.drop (0 : Nat) (bCells p))) true (Ob.cells true))) (u8i (8 : Int))))))) ∧ True)))) ∧ True) ∧ (True ∧ IsB (Row.mk (List.take (300 : Nat) (List.drop (0 : Nat) (bCells (pad80 (dB (Row.mk (List.take (300 : Nat) (List.drop (0 : Nat) (bCells p))) true (Ob.cells true))) (u8i (8 : Int)))))) true (Ob.cells true)) (300 : Nat)))) ∧
    (((((True ∧ (True ∧ (True ∧ (((300 : Nat) ≤ List.length (bCells p) ∧ Plain (List.take (300 : Nat) (List.drop (0 : Nat) (bCells p)))) ∧ True)))) ∧ True) ∧ (True ∧ IsB (Row.mk (List.take (300 : Nat) (List.drop (0 : Nat) (bCells p))) true (Ob.cells true)) (300 : Nat)))) ∧
    (br (rightB t f s (300 : Nat) == rightB t f s (300 : Nat))
     (br (decide ((0 : Int) ≤ (↑(0 : Nat) : Int) ∧ (0 : Int) ≤ Int.ofNat (List.length b) ∧ Int.ofNat (List.length b) ≤ (↑(List.length b + (80 : Nat)) : Int)))
      ((((((0 : Nat) + (Int.toNat (Int.ofNat (List.length b)) - (0 : Nat)) * (1 : Nat) ≤ List.length (bCells (pad80 (dB (Row.mk (List.take (List.length b * (1 : Nat)) (List.drop (0 : Nat) (bCells b))) true (Ob.cells true))) (u8i (7 : Int)))) ∧ Plain (List.take ((Int.toNat (Int.ofNat (List.length b)) - (0 : Nat)) * (1 : Nat)) (List.drop (0 : Nat) (bCells (pad80 (dB (Row.mk (List.take (List.length b * (1 : Nat)) (List.drop (0 : Nat) (bCells b))) true (Ob.cells true))) (u8i (7 : Int))))))) ∧ ((True ∧ (True ∧ (True ∧ (((300 : Nat) ≤ List.length (bCells (pad80 (dB (Row.mk (List.take (300 : Nat) (List.drop (0 : Nat) (bCells p))) true (Ob.cells true))) (u8i (8 : Int)))) ∧ Plain (List.take (300 : Nat) (List.drop (0 : Nat) (bCells (pad80 (dB (Row.mk (List.take (300 : Nat) (List.drop (0 : Nat) (bCells p))) true (Ob.cells true))) (u8i (8 : Int))))))) ∧ True)))) ∧ True)) ∧ ((Plain (bCells (frR (Row.mk (List.take ((Int.toNat (Int.ofNat (List.length b)) - (0 : Nat)) * (1 : Nat)) (List.drop (0 : Nat) (bCells (pad80 (dB (Row.mk (List.take (List.length b * (1 : Nat)) (List.drop (0 : Nat) (bCells b))) true (Ob.cells true))) (u8i (7 : Int)))))) true (Ob.cells true)) (Row.mk (List.take (300 : Nat) (List.drop (0 : Nat) (bCells (pad80 (dB (Row.mk (List.take (300 : Nat) (List.drop (0 : Nat) (bCells p))) true (Ob.cells true))) (u8i (8 : Int)))))) true (Ob.cells true)) t f s)) ∧ True) ∧ (IsB (Row.mk (List.take ((Int.toNat (Int.ofNat (List.length b)) - (0 : Nat)) * (1 : Nat)) (List.drop (0 : Nat) (bCells (pad80 (dB (Row.mk (List.take (List.length b * (1 : Nat)) (List.drop (0 : Nat) (bCells b))) true (Ob.cells true))) (u8i (7 : Int)))))) true (Ob.cells true)) (Int.toNat (Int.ofNat (List.length b)) - (0 : Nat)) ∧ (IsB (Row.mk (List.take (300 : Nat) (List.drop (0 : Nat) (bCells (pad80 (dB (Row.mk (List.take (300 : Nat) (List.drop (0 : Nat) (bCells p))) true (Ob.cells true))) (u8i (8 : Int)))))) true (Ob.cells true)) (300 : Nat) ∧ (Int.toNat (Int.ofNat (List.length b)) - (0 : Nat) ≤ (2000000 : Nat) ∧ Int.toNat (Int.ofNat (Int.toNat (300 : Int) - Int.toNat (↑(0 : Nat) : Int))) - Int.toNat (↑(0 : Nat) : Int) ≤ (1000000 : Nat))))))) ∧
      ((((((0 : Nat) + List.length b * (1 : Nat) ≤ List.length (bCells b) ∧ Plain (List.take (List.length b * (1 : Nat)) (List.drop (0 : Nat) (bCells b)))) ∧ ((True ∧ (True ∧ (True ∧ (((300 : Nat) ≤ List.length (bCells p) ∧ Plain (List.take (300 : Nat) (List.drop (0 : Nat) (bCells p)))) ∧ True)))) ∧ True)) ∧ ((Plain (bCells (frR (Row.mk (List.take (List.length b * (1 : Nat)) (List.drop (0 : Nat) (bCells b))) true (Ob.cells true)) (Row.mk (List.take (300 : Nat) (List.drop (0 : Nat) (bCells p))) true (Ob.cells true)) t f s)) ∧ True) ∧ (IsB (Row.mk (List.take (List.length b * (1 : Nat)) (List.drop (0 : Nat) (bCells b))) true (Ob.cells true)) (List.length b) ∧ (IsB (Row.mk (List.take (300 : Nat) (List.drop (0 : Nat) (bCells p))) true (Ob.cells true)) (300 : Nat) ∧ (List.length b ≤ (2000000 : Nat) ∧ Int.toNat (300 : Int) - Int.toNat (↑(0 : Nat) : Int) ≤ (1000000 : Nat))))))) ∧
      ((((((0 : Nat) + List.length (frR (Row.mk (List.take ((Int.toNat (Int.ofNat (List.length b)) - (0 : Nat)) * (1 : Nat)) (List.drop (0 : Nat) (bCells (pad80 (dB (Row.mk (List.take (List.length b * (1 : Nat)) (List.drop (0 : Nat) (bCells b))) true (Ob.cells true))) (u8i (7 : Int)))))) true (Ob.cells true)) (Row.mk (List.take (300 : Nat) (List.drop (0 : Nat) (bCells (pad80 (dB (Row.mk (List.take (300 : Nat) (List.drop (0 : Nat) (bCells p))) true (Ob.cells true))) (u8i (8 : Int)))))) true (Ob.cells true)) t f s) * (1 : Nat) ≤ List.length (bCells (frR (Row.mk (List.take ((Int.toNat (Int.ofNat (List.length b)) - (0 : Nat)) * (1 : Nat)) (List.drop (0 : Nat) (bCells (pad80 (dB (Row.mk (List.take (List.length b * (1 : Nat)) (List.drop (0 : Nat) (bCells b))) true (Ob.cells true))) (u8i (7 : Int)))))) true (Ob.cells true)) (Row.mk (List.take (300 : Nat) (List.drop (0 : Nat) (bCells (pad80 (dB (Row.mk (List.take (300 : Nat) (List.drop (0 : Nat) (bCells p))) true (Ob.cells true))) (u8i (8 : Int)))))) true (Ob.cells true)) t f s)) ∧ Plain (List.take (List.length (frR (Row.mk (List.take ((Int.toNat (Int.ofNat (List.length b)) - (0 : Nat)) * (1 : Nat)) (List.drop (0 : Nat) (bCells (pad80 (dB (Row.mk (List.take (List.length b * (1 : Nat)) (List.drop (0 : Nat) (bCells b))) true (Ob.cells true))) (u8i (7 : Int)))))) true (Ob.cells true)) (Row.mk (List.take (300 : Nat) (List.drop (0 : Nat) (bCells (pad80 (dB (Row.mk (List.take (300 : Nat) (List.drop (0 : Nat) (bCells p))) true (Ob.cells true))) (u8i (8 : Int)))))) true (Ob.cells true)) t f s) * (1 : Nat)) (List.drop (0 : Nat) (bCells (frR (Row.mk (List.take ((Int.toNat (Int.ofNat (List.length b)) - (0 : Nat)) * (1 : Nat)) (List.drop (0 : Nat) (bCells (pad80 (dB (Row.mk (List.take (List.length b * (1 : Nat)) (List.drop (0 : Nat) (bCells b))) true (Ob.cells true))) (u8i (7 : Int)))))) true (Ob.cells true)) (Row.mk (List.take (300 : Nat) (List.drop (0 : Nat) (bCells (pad80 (dB (Row.mk (List.take (300 : Nat) (List.drop (0 : Nat) (bCells p))) true (Ob.cells true))) (u8i (8 : Int)))))) true (Ob.cells true)) t f s))))) ∧ (((0 : Nat) + List.length (frR (Row.mk (List.take (List.length b * (1 : Nat)) (List.drop (0 : Nat) (bCells b))) true (Ob.cells true)) (Row.mk (List.take (300 : Nat) (List.drop (0 : Nat) (bCells p))) true (Ob.cells true)) t f s) * (1 : Nat) ≤ List.length (bCells (frR (Row.mk (List.take (List.length b * (1 : Nat)) (List.drop (0 : Nat) (bCells b))) true (Ob.cells true)) (Row.mk (List.take (300 : Nat) (List.drop (0 : Nat) (bCells p))) true (Ob.cells true)) t f s)) ∧ Plain (List.take (List.length (frR (Row.mk (List.take (List.length b * (1 : Nat)) (List.drop (0 : Nat) (bCells b))) true (Ob.cells true)) (Row.mk (List.take (300 : Nat) (List.drop (0 : Nat) (bCells p))) true (Ob.cells true)) t f s) * (1 : Nat)) (List.drop (0 : Nat) (bCells (frR (Row.mk (List.take (List.length b * (1 : Nat)) (List.drop (0 : Nat) (bCells b))) true (Ob.cells true)) (Row.mk (List.take (300 : Nat) (List.drop (0 : Nat) (bCells p))) true (Ob.cells true)) t f s))))) ∧ True)) ∧ (True ∧ (IsB (Row.mk (List.take (List.length (frR (Row.mk (List.take ((Int.toNat (Int.ofNat (List.length b)) - (0 : Nat)) * (1 : Nat)) (List.drop (0 : Nat) (bCells (pad80 (dB (Row.mk (List.take (List.length b * (1 : Nat)) (List.drop (0 : Nat) (bCells b))) true (Ob.cells true))) (u8i (7 : Int)))))) true (Ob.cells true)) (Row.mk (List.take (300 : Nat) (List.drop (0 : Nat) (bCells (pad80 (dB (Row.mk (List.take (300 : Nat) (List.drop (0 : Nat) (bCells p))) true (Ob.cells true))) (u8i (8 : Int)))))) true (Ob.cells true)) t f s) * (1 : Nat)) (List.drop (0 : Nat) (bCells (frR (Row.mk (List.take ((Int.toNat (Int.ofNat (List.length b)) - (0 : Nat)) * (1 : Nat)) (List.drop (0 : Nat) (bCells (pad80 (dB (Row.mk (List.take (List.length b * (1 : Nat)) (List.drop (0 : Nat) (bCells b))) true (Ob.cells true))) (u8i (7 : Int)))))) true (Ob.cells true)) (Row.mk (List.take (300 : Nat) (List.drop (0 : Nat) (bCells (pad80 (dB (Row.mk (List.take (300 : Nat) (List.drop (0 : Nat) (bCells p))) true (Ob.cells true))) (u8i (8 : Int)))))) true (Ob.cells true)) t f s)))) true (Ob.cells true)) (List.length (frR (Row.mk (List.take ((Int.toNat (Int.ofNat (List.length b)) - (0 : Nat)) * (1 : Nat)) (List.drop (0 : Nat) (bCells (pad80 (dB (Row.mk (List.take (List.length b * (1 : Nat)) (List.drop (0 : Nat) (bCells b))) true (Ob.cells true))) (u8i (7 : Int)))))) true (Ob.cells true)) (Row.mk (List.take (300 : Nat) (List.drop (0 : Nat) (bCells (pad80 (dB (Row.mk (List.take (300 : Nat) (List.drop (0 : Nat) (bCells p))) true (Ob.cells true))) (u8i (8 : Int)))))) true (Ob.cells true)) t f s)) ∧ (IsB (Row.mk (List.take (List.length (frR (Row.mk (List.take (List.length b * (1 : Nat)) (List.drop (0 : Nat) (bCells b))) true (Ob.cells true)) (Row.mk (List.take (300 : Nat) (List.drop (0 : Nat) (bCells p))) true (Ob.cells true)) t f s) * (1 : Nat)) (List.drop (0 : Nat) (bCells (frR (Row.mk (List.take (List.length b * (1 : Nat)) (List.drop (0 : Nat) (bCells b))) true (Ob.cells true)) (Row.mk (List.take (300 : Nat) (List.drop (0 : Nat) (bCells p))) true (Ob.cells true)) t f s)))) true (Ob.cells true)) (List.length (frR (Row.mk (List.take (List.length b * (1 : Nat)) (List.drop (0 : Nat) (bCells b))) true (Ob.cells true)) (Row.mk (List.take (300 : Nat) (List.drop (0 : Nat) (bCells p))) true (Ob.cells true)) t f s)) ∧ List.length (frR (Row.mk (List.take ((Int.toNat (Int.ofNat (List.length b)) - (0 : Nat)) * (1 : Nat)) (List.drop (0 : Nat) (bCells (pad80 (dB (Row.mk (List.take (List.length b * (1 : Nat)) (List.drop (0 : Nat) (bCells b))) true (Ob.cells true))) (u8i (7 : Int)))))) true (Ob.cells true)) (Row.mk (List.take (300 : Nat) (List.drop (0 : Nat) (bCells (pad80 (dB (Row.mk (List.take (300 : Nat) (List.drop (0 : Nat) (bCells p))) true (Ob.cells true))) (u8i (8 : Int)))))) true (Ob.cells true)) t f s) ≤ (9223372036854775807 : Nat)))))) ∧
      (br (decide (dB (Row.mk (List.take (List.length (frR (Row.mk (List.take ((Int.toNat (Int.ofNat (List.length b)) - (0 : Nat)) * (1 : Nat)) (List.drop (0 : Nat) (bCells (pad80 (dB (Row.mk (List.take (List.length b * (1 : Nat)) (List.drop (0 : Nat) (bCells b))) true (Ob.cells true))) (u8i (7 : Int)))))) true (Ob.cells true)) (Row.mk (List.take (300 : Nat) (List.drop (0 : Nat) (bCells (pad80 (dB (Row.mk (List.take (300 : Nat) (List.drop (0 : Nat) (bCells p))) true (Ob.cells true))) (u8i (8 : Int)))))) true (Ob.cells true)) t f s) * (1 : Nat)) (List.drop (0 : Nat) (bCells (frR (Row.mk (List.take ((Int.toNat (Int.ofNat (List.length b)) - (0 : Nat)) * (1 : Nat)) (List.drop (0 : Nat) (bCells (pad80 (dB (Row.mk (List.take (List.length b * (1 : Nat)) (List.drop (0 : Nat) (bCells b))) true (Ob.cells true))) (u8i (7 : Int)))))) true (Ob.cells true)) (Row.mk (List.take (300 : Nat) (List.drop (0 : Nat) (bCells (pad80 (dB (Row.mk (List.take (300 : Nat) (List.drop (0 : Nat) (bCells p))) true (Ob.cells true))) (u8i (8 : Int)))))) true (Ob.cells true)) t f s)))) true (Ob.cells true)) = dB (Row.mk (List.take (List.length (frR (Row.mk (List.take (List.length b * (1 : Nat)) (List.drop (0 : Nat) (bCells b))) true (Ob.cells true)) (Row.mk (List.take (300 : Nat) (List.drop (0 : Nat) (bCells p))) true (Ob.cells true)) t f s) * (1 : Nat)) (List.drop (0 : Nat) (bCells (frR (Row.mk (List.take (List.length b * (1 : Nat)) (List.drop (0 : Nat) (bCells b))) true (Ob.cells true)) (Row.mk (List.take (300 : Nat) (List.drop (0 : Nat) (bCells p))) true (Ob.cells true)) t f s)))) true (Ob.cells true))))
       ((((((0 : Nat) + (List.length b + (80 : Nat)) * (1 : Nat) ≤ List.length (bCells (pad80 (dB (Row.mk (List.take (List.length b * (1 : Nat)) (List.drop (0 : Nat) (bCells b))) true (Ob.cells true))) (u8i (7 : Int)))) ∧ Plain (List.take ((List.length b + (80 : Nat)) * (1 : Nat)) (List.drop (0 : Nat) (bCells (pad80 (dB (Row.mk (List.take (List.length b * (1 : Nat)) (List.drop (0 : Nat) (bCells b))) true (Ob.cells true))) (u8i (7 : Int))))))) ∧ (((0 : Nat) + List.length b * (1 : Nat) ≤ List.length (bCells b) ∧ Plain (List.take (List.length b * (1 : Nat)) (List.drop (0 : Nat) (bCells b)))) ∧ (True ∧ True))) ∧ (True ∧ (IsB (Row.mk (List.take ((List.length b + (80 : Nat)) * (1 : Nat)) (List.drop (0 : Nat) (bCells (pad80 (dB (Row.mk (List.take (List.length b * (1 : Nat)) (List.drop (0 : Nat) (bCells b))) true (Ob.cells true))) (u8i (7 : Int)))))) true (Ob.cells true)) (List.length b + (80 : Nat)) ∧ (IsB (Row.mk (List.take (List.length b * (1 : Nat)) (List.drop (0 : Nat) (bCells b))) true (Ob.cells true)) (List.length b) ∧ (IsU8 (7 : Int) ∧ (List.length b + (80 : Nat) ≤ (9223372036854775807 : Nat) ∧ List.length b ≤ (9223372036854775000 : Nat)))))))) ∧
       (br (decide (dB (Row.mk (List.take ((List.length b + (80 : Nat)) * (1 : Nat)) (List.drop (0 : Nat) (bCells (pad80 (dB (Row.mk (List.take (List.length b * (1 : Nat)) (List.drop (0 : Nat) (bCells b))) true (Ob.cells true))) (u8i (7 : Int)))))) true (Ob.cells true)) = pad80 (dB (Row.mk (List.take (List.length b * (1 : Nat)) (List.drop (0 : Nat) (bCells b))) true (Ob.cells true))) (u8i (7 : Int))))
        ((((((380 : Nat) ≤ List.length (bCells (pad80 (dB (Row.mk (List.take (300 : Nat) (List.drop (0 : Nat) (bCells p))) true (Ob.cells true))) (u8i (8 : Int)))) ∧ Plain (List.take (380 : Nat) (List.drop (0 : Nat) (bCells (pad80 (dB (Row.mk (List.take (300 : Nat) (List.drop (0 : Nat) (bCells p))) true (Ob.cells true))) (u8i (8 : Int))))))) ∧ (((300 : Nat) ≤ List.length (bCells p) ∧ Plain (List.take (300 : Nat) (List.drop (0 : Nat) (bCells p)))) ∧ (True ∧ True))) ∧ (True ∧ (IsB (Row.mk (List.take (380 : Nat) (List.drop (0 : Nat) (bCells (pad80 (dB (Row.mk (List.take (300 : Nat) (List.drop (0 : Nat) (bCells p))) true (Ob.cells true))) (u8i (8 : Int)))))) true (Ob.cells true)) (380 : Nat) ∧ (IsB (Row.mk (List.take (300 : Nat) (List.drop (0 : Nat) (bCells p))) true (Ob.cells true)) (300 : Nat) ∧ (IsU8 (8 : Int) ∧ (Int.toNat (300 : Int) - Int.toNat (↑(0 : Nat) : Int) + (80 : Nat) ≤ maxLen ∧ Int.toNat (300 : Int) - Int.toNat (↑(0 : Nat) : Int) ≤ (9223372036854775000 : Nat)))))))) ∧
        (br (decide (dB (Row.mk (List.take (380 : Nat) (List.drop (0 : Nat) (bCells (pad80 (dB (Row.mk (List.take (300 : Nat) (List.drop (0 : Nat) (bCells p))) true (Ob.cells true))) (u8i (8 : Int)))))) true (Ob.cells true)) = pad80 (dB (Row.mk (List.take (300 : Nat) (List.drop (0 : Nat) (bCells p))) true (Ob.cells true))) (u8i (8 : Int))))
         (((True ∧ (True ∧ True))) ∧
         ((Value.agg (Array.mk [Value.int IntKind.i64 t, Value.int IntKind.i64 f, Value.int IntKind.i64 s, Value.slice (some (Addr.mk (13 : Nat) (0 : Nat) none)) (300 : Nat) (1 : Nat)]) = Value.agg (Array.mk [Value.int IntKind.i64 t, Value.int IntKind.i64 f, Value.int IntKind.i64 s, Value.slice (some (Addr.mk (13 : Nat) (0 : Nat) none)) (300 : Nat) (1 : Nat)])) ∧
         ((Value.agg (Array.mk [Value.int IntKind.i64 t, Value.int IntKind.i64 f, Value.int IntKind.i64 s, Value.slice (some (Addr.mk (1 : Nat) (0 : Nat) none)) (300 : Nat) (1 : Nat)]) = Value.agg (Array.mk [Value.int IntKind.i64 t, Value.int IntKind.i64 f, Value.int IntKind.i64 s, Value.slice (some (Addr.mk (1 : Nat) (0 : Nat) none)) (300 : Nat) (1 : Nat)])) ∧
         ((Value.agg (Array.mk [Value.int IntKind.i64 t, Value.int IntKind.i64 f, Value.int IntKind.i64 s, Value.slice (some (Addr.mk (1 : Nat) (0 : Nat) none)) (300 : Nat) (1 : Nat)]) = Value.agg (Array.mk [Value.int IntKind.i64 t, Value.int IntKind.i64 f, Value.int IntKind.i64 s, Value.slice (some (Addr.mk (1 : Nat) (0 : Nat) none)) (300 : Nat) (1 : Nat)])) ∧
         (br (decide ((0 : Int) ≤ (↑(0 : Nat) : Int) ∧ (0 : Int) ≤ Int.ofNat (List.length b) ∧ Int.ofNat (List.length b) ≤ (↑(List.length b + (80 : Nat)) : Int)))
          ((Value.slice (some (Addr.mk (12 : Nat) (0 : Nat) none)) (Int.toNat (Int.ofNat (List.length b)) - (0 : Nat)) (1 : Nat) = Value.slice (some (Addr.mk (12 : Nat) (0 : Nat) none)) (Int.toNat (Int.ofNat (List.length b)) - (0 : Nat)) (1 : Nat)) ∧
          ((Value.agg (Array.mk [Value.int IntKind.i64 t, Value.int IntKind.i64 f, Value.int IntKind.i64 s, Value.slice (some (Addr.mk (13 : Nat) (0 : Nat) none)) (300 : Nat) (1 : Nat)]) = Value.agg (Array.mk [Value.int IntKind.i64 t, Value.int IntKind.i64 f, Value.int IntKind.i64 s, Value.slice (some (Addr.mk (13 : Nat) (0 : Nat) none)) (300 : Nat) (1 : Nat)])) ∧
          ((Value.agg (Array.mk [Value.int IntKind.i64 t, Value.int IntKind.i64 f, Value.int IntKind.i64 s, Value.slice (some (Addr.mk (1 : Nat) (0 : Nat) none)) (300 : Nat) (1 : Nat)]) = Value.agg (Array.mk [Value.int IntKind.i64 t, Value.int IntKind.i64 f, Value.int IntKind.i64 s, Value.slice (some (Addr.mk (1 : Nat) (0 : Nat) none)) (300 : Nat) (1 : Nat)])) ∧
          ((Value.agg (Array.mk [Value.int IntKind.i64 t, Value.int IntKind.i64 f, Value.int IntKind.i64 s, Value.slice (some (Addr.mk (1 : Nat) (0 : Nat) none)) (300 : Nat) (1 : Nat)]) = Value.agg (Array.mk [Value.int IntKind.i64 t, Value.int IntKind.i64 f, Value.int IntKind.i64 s, Value.slice (some (Addr.mk (1 : Nat) (0 : Nat) none)) (300 : Nat) (1 : Nat)])) ∧
          ((Value.slice (some (Addr.mk (1 : Nat) (0 : Nat) none)) (300 : Nat) (1 : Nat) = Value.slice (some (Addr.mk (1 : Nat) (0 : Nat) none)) (300 : Nat) (1 : Nat)) ∧
          ((true = true) ∧
          ((Eq (α := List Value) (bCells b) (bCells b)) ∧
          ((Plain (bCells b)) ∧
          ((Eq (α := List Value) (bCells p) (bCells p)) ∧
          ((Plain (bCells p)) ∧
          True))))))))))
          False)))))
         ((Value.agg (Array.mk [Value.int IntKind.i64 t, Value.int IntKind.i64 f, Value.int IntKind.i64 s, Value.slice (some (Addr.mk (13 : Nat) (0 : Nat) none)) (300 : Nat) (1 : Nat)]) = Value.agg (Array.mk [Value.int IntKind.i64 t, Value.int IntKind.i64 f, Value.int IntKind.i64 s, Value.slice (some (Addr.mk (13 : Nat) (0 : Nat) none)) (300 : Nat) (1 : Nat)])) ∧
         ((Value.agg (Array.mk [Value.int IntKind.i64 t, Value.int IntKind.i64 f, Value.int IntKind.i64 s, Value.slice (some (Addr.mk (1 : Nat) (0 : Nat) none)) (300 : Nat) (1 : Nat)]) = Value.agg (Array.mk [Value.int IntKind.i64 t, Value.int IntKind.i64 f, Value.int IntKind.i64 s, Value.slice (some (Addr.mk (1 : Nat) (0 : Nat) none)) (300 : Nat) (1 : Nat)])) ∧
         ((Value.agg (Array.mk [Value.int IntKind.i64 t, Value.int IntKind.i64 f, Value.int IntKind.i64 s, Value.slice (some (Addr.mk (1 : Nat) (0 : Nat) none)) (300 : Nat) (1 : Nat)]) = Value.agg (Array.mk [Value.int IntKind.i64 t, Value.int IntKind.i64 f, Value.int IntKind.i64 s, Value.slice (some (Addr.mk (1 : Nat) (0 : Nat) none)) (300 : Nat) (1 : Nat)])) ∧
         (br (decide ((0 : Int) ≤ (↑(0 : Nat) : Int) ∧ (0 : Int) ≤ Int.ofNat (List.length b) ∧ Int.ofNat (List.length b) ≤ (↑(List.length b + (80 : Nat)) : Int)))
          ((Value.slice (some (Addr.mk (12 : Nat) (0 : Nat) none)) (Int.toNat (Int.ofNat (List.length b)) - (0 : Nat)) (1 : Nat) = Value.slice (some (Addr.mk (12 : Nat) (0 : Nat) none)) (Int.toNat (Int.ofNat (List.length b)) - (0 : Nat)) (1 : Nat)) ∧
          ((Value.agg (Array.mk [Value.int IntKind.i64 t, Value.int IntKind.i64 f, Value.int IntKind.i64 s, Value.slice (some (Addr.mk (13 : Nat) (0 : Nat) none)) (300 : Nat) (1 : Nat)]) = Value.agg (Array.mk [Value.int IntKind.i64 t, Value.int IntKind.i64 f, Value.int IntKind.i64 s, Value.slice (some (Addr.mk (13 : Nat) (0 : Nat) none)) (300 : Nat) (1 : Nat)])) ∧
          ((Value.agg (Array.mk [Value.int IntKind.i64 t, Value.int IntKind.i64 f, Value.int IntKind.i64 s, Value.slice (some (Addr.mk (1 : Nat) (0 : Nat) none)) (300 : Nat) (1 : Nat)]) = Value.agg (Array.mk [Value.int IntKind.i64 t, Value.int IntKind.i64 f, Value.int IntKind.i64 s, Value.slice (some (Addr.mk (1 : Nat) (0 : Nat) none)) (300 : Nat) (1 : Nat)])) ∧
          ((Value.agg (Array.mk [Value.int IntKind.i64 t, Value.int IntKind.i64 f, Value.int IntKind.i64 s, Value.slice (some (Addr.mk (1 : Nat) (0 : Nat) none)) (300 : Nat) (1 : Nat)]) = Value.agg (Array.mk [Value.int IntKind.i64 t, Value.int IntKind.i64 f, Value.int IntKind.i64 s, Value.slice (some (Addr.mk (1 : Nat) (0 : Nat) none)) (300 : Nat) (1 : Nat)])) ∧
          ((Value.slice (some (Addr.mk (1 : Nat) (0 : Nat) none)) (300 : Nat) (1 : Nat) = Value.slice (some (Addr.mk (1 : Nat) (0 : Nat) none)) (300 : Nat) (1 : Nat)) ∧
          ((true = false) ∧
          ((Eq (α := List Value) (bCells b) (bCells b)) ∧
          ((Plain (bCells b)) ∧
          ((Eq (α := List Value) (bCells p) (bCells p)) ∧
          ((Plain (bCells p)) ∧
          True))))))))))
          False))))))
        ((Value.agg (Array.mk [Value.int IntKind.i64 t, Value.int IntKind.i64 f, Value.int IntKind.i64 s, Value.slice (some (Addr.mk (13 : Nat) (0 : Nat) none)) (300 : Nat) (1 : Nat)]) = Value.agg (Array.mk [Value.int IntKind.i64 t, Value.int IntKind.i64 f, Value.int IntKind.i64 s, Value.slice (some (Addr.mk (13 : Nat) (0 : Nat) none)) (300 : Nat) (1 : Nat)])) ∧
        ((Value.agg (Array.mk [Value.int IntKind.i64 t, Value.int IntKind.i64 f, Value.int IntKind.i64 s, Value.slice (some (Addr.mk (1 : Nat) (0 : Nat) none)) (300 : Nat) (1 : Nat)]) = Value.agg (Array.mk [Value.int IntKind.i64 t, Value.int IntKind.i64 f, Value.int IntKind.i64 s, Value.slice (some (Addr.mk (1 : Nat) (0 : Nat) none)) (300 : Nat) (1 : Nat)])) ∧
        ((Value.agg (Array.mk [Value.int IntKind.i64 t, Value.int IntKind.i64 f, Value.int IntKind.i64 s, Value.slice (some (Addr.mk (1 : Nat) (0 : Nat) none)) (300 : Nat) (1 : Nat)]) = Value.agg (Array.mk [Value.int IntKind.i64 t, Value.int IntKind.i64 f, Value.int IntKind.i64 s, Value.slice (some (Addr.mk (1 : Nat) (0 : Nat) none)) (300 : Nat) (1 : Nat)])) ∧
        (br (decide ((0 : Int) ≤ (↑(0 : Nat) : Int) ∧ (0 : Int) ≤ Int.ofNat (List.length b) ∧ Int.ofNat (List.length b) ≤ (↑(List.length b + (80 : Nat)) : Int)))
         ((Value.slice (some (Addr.mk (12 : Nat) (0 : Nat) none)) (Int.toNat (Int.ofNat (List.length b)) - (0 : Nat)) (1 : Nat) = Value.slice (some (Addr.mk (12 : Nat) (0 : Nat) none)) (Int.toNat (Int.ofNat (List.length b)) - (0 : Nat)) (1 : Nat)) ∧
         ((Value.agg (Array.mk [Value.int IntKind.i64 t, Value.int IntKind.i64 f, Value.int IntKind.i64 s, Value.slice (some (Addr.mk (13 : Nat) (0 : Nat) none)) (300 : Nat) (1 : Nat)]) = Value.agg (Array.mk [Value.int IntKind.i64 t, Value.int IntKind.i64 f, Value.int IntKind.i64 s, Value.slice (some (Addr.mk (13 : Nat) (0 : Nat) none)) (300 : Nat) (1 : Nat)])) ∧
         ((Value.agg (Array.mk [Value.int IntKind.i64 t, Value.int IntKind.i64 f, Value.int IntKind.i64 s, Value.slice (some (Addr.mk (1 : Nat) (0 : Nat) none)) (300 : Nat) (1 : Nat)]) = Value.agg (Array.mk [Value.int IntKind.i64 t, Value.int IntKind.i64 f, Value.int IntKind.i64 s, Value.slice (some (Addr.mk (1 : Nat) (0 : Nat) none)) (300 : Nat) (1 : Nat)])) ∧
         ((Value.agg (Array.mk [Value.int IntKind.i64 t, Value.int IntKind.i64 f, Value.int IntKind.i64 s, Value.slice (some (Addr.mk (1 : Nat) (0 : Nat) none)) (300 : Nat) (1 : Nat)]) = Value.agg (Array.mk [Value.int IntKind.i64 t, Value.int IntKind.i64 f, Value.int IntKind.i64 s, Value.slice (some (Addr.mk (1 : Nat) (0 : Nat) none)) (300 : Nat) (1 : Nat)])) ∧
         ((true = false) ∧
         ((Eq (α := List Value) (bCells b) (bCells b)) ∧
         ((Plain (bCells b)) ∧
         ((Eq (α := List Value) (bCells p) (bCells p)) ∧
         ((Plain (bCells p)) ∧
         True)))))))))
         False))))))
       ((Value.agg (Array.mk [Value.int IntKind.i64 t, Value.int IntKind.i64 f, Value.int IntKind.i64 s, Value.slice (some (Addr.mk (13 : Nat) (0 : Nat) none)) (300 : Nat) (1 : Nat)]) = Value.agg (Array.mk [Value.int IntKind.i64 t, Value.int IntKind.i64 f, Value.int IntKind.i64 s, Value.slice (some (Addr.mk (13 : Nat) (0 : Nat) none)) (300 : Nat) (1 : Nat)])) ∧
       ((Value.agg (Array.mk [Value.int IntKind.i64 t, Value.int IntKind.i64 f, Value.int IntKind.i64 s, Value.slice (some (Addr.mk (1 : Nat) (0 : Nat) none)) (300 : Nat) (1 : Nat)]) = Value.agg (Array.mk [Value.int IntKind.i64 t, Value.int IntKind.i64 f, Value.int IntKind.i64 s, Value.slice (some (Addr.mk (1 : Nat) (0 : Nat) none)) (300 : Nat) (1 : Nat)])) ∧
       ((Value.agg (Array.mk [Value.int IntKind.i64 t, Value.int IntKind.i64 f, Value.int IntKind.i64 s, Value.slice (some (Addr.mk (1 : Nat) (0 : Nat) none)) (300 : Nat) (1 : Nat)]) = Value.agg (Array.mk [Value.int IntKind.i64 t, Value.int IntKind.i64 f, Value.int IntKind.i64 s, Value.slice (some (Addr.mk (1 : Nat) (0 : Nat) none)) (300 : Nat) (1 : Nat)])) ∧
       (br (decide ((0 : Int) ≤ (↑(0 : Nat) : Int) ∧ (0 : Int) ≤ Int.ofNat (List.length b) ∧ Int.ofNat (List.length b) ≤ (↑(List.length b + (80 : Nat)) : Int)))
        ((Value.slice (some (Addr.mk (12 : Nat) (0 : Nat) none)) (Int.toNat (Int.ofNat (List.length b)) - (0 : Nat)) (1 : Nat) = Value.slice (some (Addr.mk (12 : Nat) (0 : Nat) none)) (Int.toNat (Int.ofNat (List.length b)) - (0 : Nat)) (1 : Nat)) ∧
        ((Value.agg (Array.mk [Value.int IntKind.i64 t, Value.int IntKind.i64 f, Value.int IntKind.i64 s, Value.slice (some (Addr.mk (13 : Nat) (0 : Nat) none)) (300 : Nat) (1 : Nat)]) = Value.agg (Array.mk [Value.int IntKind.i64 t, Value.int IntKind.i64 f, Value.int IntKind.i64 s, Value.slice (some (Addr.mk (13 : Nat) (0 : Nat) none)) (300 : Nat) (1 : Nat)])) ∧
        ((Value.agg (Array.mk [Value.int IntKind.i64 t, Value.int IntKind.i64 f, Value.int IntKind.i64 s, Value.slice (some (Addr.mk (1 : Nat) (0 : Nat) none)) (300 : Nat) (1 : Nat)]) = Value.agg (Array.mk [Value.int IntKind.i64 t, Value.int IntKind.i64 f, Value.int IntKind.i64 s, Value.slice (some (Addr.mk (1 : Nat) (0 : Nat) none)) (300 : Nat) (1 : Nat)])) ∧
        ((Value.agg (Array.mk [Value.int IntKind.i64 t, Value.int IntKind.i64 f, Value.int IntKind.i64 s, Value.slice (some (Addr.mk (1 : Nat) (0 : Nat) none)) (300 : Nat) (1 : Nat)]) = Value.agg (Array.mk [Value.int IntKind.i64 t, Value.int IntKind.i64 f, Value.int IntKind.i64 s, Value.slice (some (Addr.mk (1 : Nat) (0 : Nat) none)) (300 : Nat) (1 : Nat)])) ∧
        ((true = false) ∧
        ((Eq (α := List Value) (bCells b) (bCells b)) ∧
        ((Plain (bCells b)) ∧
        ((Eq (α := List Value) (bCells p) (bCells p)) ∧
        ((Plain (bCells p)) ∧
        True)))))))))
        False))))))))
      False)
     ((Value.agg (Array.mk [Value.int IntKind.i64 t, Value.int IntKind.i64 f, Value.int IntKind.i64 s, Value.slice (some (Addr.mk (13 : Nat) (0 : Nat) none)) (300 : Nat) (1 : Nat)]) = Value.agg (Array.mk [Value.int IntKind.i64 t, Value.int IntKind.i64 f, Value.int IntKind.i64 s, Value.slice (some (Addr.mk (13 : Nat) (0 : Nat) none)) (300 : Nat) (1 : Nat)])) ∧
     ((Value.agg (Array.mk [Value.int IntKind.i64 t, Value.int IntKind.i64 f, Value.int IntKind.i64 s, Value.slice (some (Addr.mk (1 : Nat) (0 : Nat) none)) (300 : Nat) (1 : Nat)]) = Value.agg (Array.mk [Value.int IntKind.i64 t, Value.int IntKind.i64 f, Value.int IntKind.i64 s, Value.slice (some (Addr.mk (1 : Nat) (0 : Nat) none)) (300 : Nat) (1 : Nat)])) ∧
     ((Value.agg (Array.mk [Value.int IntKind.i64 t, Value.int IntKind.i64 f, Value.int IntKind.i64 s, Value.slice (some (Addr.mk (1 : Nat) (0 : Nat) none)) (300 : Nat) (1 : Nat)]) = Value.agg (Array.mk [Value.int IntKind.i64 t, Value.int IntKind.i64 f, Value.int IntKind.i64 s, Value.slice (some (Addr.mk (1 : Nat) (0 : Nat) none)) (300 : Nat) (1 : Nat)])) ∧
     ((true = false) ∧
     ((Eq (α := List Value) (bCells b) (bCells b)) ∧
     ((Plain (bCells b)) ∧
     ((Eq (α := List Value) (bCells p) (bCells p)) ∧
     ((Plain (bCells p)) ∧
     True)))))))))))))))
    False)
   ((((((0 : Nat) + List.length b * (1 : Nat) ≤ List.length (bCells b) ∧ Plain (List.take (List.length b * (1 : Nat)) (List.drop (0 : Nat) (bCells b)))) ∧ (True ∧ True)) ∧ ((Plain (bCells (pad80 (dB (Row.mk (List.take (List.length b * (1 : Nat)) (List.drop (0 : Nat) (bCells b))) true (Ob.cells true))) (u8i (7 : Int)))) ∧ True) ∧ (IsB (Row.mk (List.take (List.length b * (1 : Nat)) (List.drop (0 : Nat) (bCells b))) true (Ob.cells true)) (List.length b) ∧ (IsU8 (7 : Int) ∧ List.length b ≤ (16777136 : Nat)))))) ∧
   ((((((0 : Nat) + List.length p * (1 : Nat) ≤ List.length (bCells p) ∧ Plain (List.take (List.length p * (1 : Nat)) (List.drop (0 : Nat) (bCells p)))) ∧ (True ∧ True)) ∧ ((Plain (bCells (pad80 (dB (Row.mk (List.take (List.length p * (1 : Nat)) (List.drop (0 : Nat) (bCells p))) true (Ob.cells true))) (u8i (8 : Int)))) ∧ True) ∧ (IsB (Row.mk (List.take (List.length p * (1 : Nat)) (List.drop (0 : Nat) (bCells p))) true (Ob.cells true)) (List.length p) ∧ (IsU8 (8 : Int) ∧ List.length p ≤ (16777136 : Nat)))))) ∧
   ((Value.slice (some (Addr.mk (1 : Nat) (0 : Nat) none)) (List.length p) (1 : Nat) = Value.slice (some (Addr.mk (1 : Nat) (0 : Nat) none)) (List.length p) (1 : Nat)) ∧
   ((Value.slice (some (Addr.mk (1 : Nat) (0 : Nat) none)) (List.length p) (1 : Nat) = Value.slice (some (Addr.mk (1 : Nat) (0 : Nat) none)) (List.length p) (1 : Nat)) ∧
   (br (decide ((0 : Int) ≤ (↑(0 : Nat) : Int) ∧ (0 : Int) ≤ Int.ofNat (List.length p) ∧ Int.ofNat (List.length p) ≤ (↑(List.length p + (80 : Nat)) : Int)))
    (((((True ∧ (True ∧ (True ∧ (((0 : Nat) + (Int.toNat (Int.ofNat (List.length p)) - (0 : Nat)) * (1 : Nat) ≤ List.length (bCells (pad80 (dB (Row.mk (List.take (List.length p * (1 : Nat)) (List.drop (0 : Nat) (bCells p))) true (Ob.cells true))) (u8i (8 : Int)))) ∧ Plain (List.take ((Int.toNat (Int.ofNat (List.length p)) - (0 : Nat)) * (1 : Nat)) (List.drop (0 : Nat) (bCells (pad80 (dB (Row.mk (List.take (List.length p * (1 : Nat)) (List.drop (0 : Nat) (bCells p))) true (Ob.cells true))) (u8i (8 : Int))))))) ∧ True)))) ∧ True) ∧ (True ∧ IsB (Row.mk (List.take ((Int.toNat (Int.ofNat (List.length p)) - (0 : Nat)) * (1 : Nat)) (List.drop (0 : Nat) (bCells (pad80 (dB (Row.mk (List.take (List.length p * (1 : Nat)) (List.drop (0 : Nat) (bCells p))) true (Ob.cells true))) (u8i (8 : Int)))))) true (Ob.cells true)) (Int.toNat (Int.ofNat (List.length p)) - (0 : Nat))))) ∧
    (((((True ∧ (True ∧ (True ∧ (((0 : Nat) + List.length p * (1 : Nat) ≤ List.length (bCells p) ∧ Plain (List.take (List.length p * (1 : Nat)) (List.drop (0 : Nat) (bCells p)))) ∧ True)))) ∧ True) ∧ (True ∧ IsB (Row.mk (List.take (List.length p * (1 : Nat)) (List.drop (0 : Nat) (bCells p))) true (Ob.cells true)) (List.length p)))) ∧
    (br (rightB t f s (Int.toNat (Int.ofNat (List.length p)) - (0 : Nat)) == rightB t f s (List.length p))
     (br (decide ((0 : Int) ≤ (↑(0 : Nat) : Int) ∧ (0 : Int) ≤ Int.ofNat (List.length b) ∧ Int.ofNat (List.length b) ≤ (↑(List.length b + (80 : Nat)) : Int)))
      ((((((0 : Nat) + (Int.toNat (Int.ofNat (List.length b)) - (0 : Nat)) * (1 : Nat) ≤ List.length (bCells (pad80 (dB (Row.mk (List.take (List.length b * (1 : Nat)) (List.drop (0 : Nat) (bCells b))) true (Ob.cells true))) (u8i (7 : Int)))) ∧ Plain (List.take ((Int.toNat (Int.ofNat (List.length b)) - (0 : Nat)) * (1 : Nat)) (List.drop (0 : Nat) (bCells (pad80 (dB (Row.mk (List.take (List.length b * (1 : Nat)) (List.drop (0 : Nat) (bCells b))) true (Ob.cells true))) (u8i (7 : Int))))))) ∧ ((True ∧ (True ∧ (True ∧ (((0 : Nat) + (Int.toNat (Int.ofNat (List.length p)) - (0 : Nat)) * (1 : Nat) ≤ List.length (bCells (pad80 (dB (Row.mk (List.take (List.length p * (1 : Nat)) (List.drop (0 : Nat) (bCells p))) true (Ob.cells true))) (u8i (8 : Int)))) ∧ Plain (List.take ((Int.toNat (Int.ofNat (List.length p)) - (0 : Nat)) * (1 : Nat)) (List.drop (0 : Nat) (bCells (pad80 (dB (Row.mk (List.take (List.length p * (1 : Nat)) (List.drop (0 : Nat) (bCells p))) true (Ob.cells true))) (u8i (8 : Int))))))) ∧ True)))) ∧ True)) ∧ ((Plain (bCells (frR (Row.mk (List.take ((Int.toNat (Int.ofNat (List.length b)) - (0 : Nat)) * (1 : Nat)) (List.drop (0 : Nat) (bCells (pad80 (dB (Row.mk (List.take (List.length b * (1 : Nat)) (List.drop (0 : Nat) (bCells b))) true (Ob.cells true))) (u8i (7 : Int)))))) true (Ob.cells true)) (Row.mk (List.take ((Int.toNat (Int.ofNat (List.length p)) - (0 : Nat)) * (1 : Nat)) (List.drop (0 : Nat) (bCells (pad80 (dB (Row.mk (List.take (List.length p * (1 : Nat)) (List.drop (0 : Nat) (bCells p))) true (Ob.cells true))) (u8i (8 : Int)))))) true (Ob.cells true)) t f s)) ∧ True) ∧ (IsB (Row.mk (List.take ((Int.toNat (Int.ofNat (List.length b)) - (0 : Nat)) * (1 : Nat)) (List.drop (0 : Nat) (bCells (pad80 (dB (Row.mk (List.take (List.length b * (1 : Nat)) (List.drop (0 : Nat) (bCells b))) true (Ob.cells true))) (u8i (7 : Int)))))) true (Ob.cells true)) (Int.toNat (Int.ofNat (List.length b)) - (0 : Nat)) ∧ (IsB (Row.mk (List.take ((Int.toNat (Int.ofNat (List.length p)) - (0 : Nat)) * (1 : Nat)) (List.drop (0 : Nat) (bCells (pad80 (dB (Row.mk (List.take (List.length p * (1 : Nat)) (List.drop (0 : Nat) (bCells p))) true (Ob.cells true))) (u8i (8 : Int)))))) true (Ob.cells true)) (Int.toNat (Int.ofNat (List.length p)) - (0 : Nat)) ∧ (Int.toNat (Int.ofNat (List.length b)) - (0 : Nat) ≤ (2000000 : Nat) ∧ Int.toNat (Int.ofNat (List.length p)) - (0 : Nat) ≤ (1000000 : Nat))))))) ∧
      ((((((0 : Nat) + List.length b * (1 : Nat) ≤ List.length (bCells b) ∧ Plain (List.take (List.length b * (1 : Nat)) (List.drop (0 : Nat) (bCells b)))) ∧ ((True ∧ (True ∧ (True ∧ (((0 : Nat) + List.length p * (1 : Nat) ≤ List.length (bCells p) ∧ Plain (List.take (List.length p * (1 : Nat)) (List.drop (0 : Nat) (bCells p)))) ∧ True)))) ∧ True)) ∧ ((Plain (bCells (frR (Row.mk (List.take (List.length b * (1 : Nat)) (List.drop (0 : Nat) (bCells b))) true (Ob.cells true)) (Row.mk (List.take (List.length p * (1 : Nat)) (List.drop (0 : Nat) (bCells p))) true (Ob.cells true)) t f s)) ∧ True) ∧ (IsB (Row.mk (List.take (List.length b * (1 : Nat)) (List.drop (0 : Nat) (bCells b))) true (Ob.cells true)) (List.length b) ∧ (IsB (Row.mk (List.take (List.length p * (1 : Nat)) (List.drop (0 : Nat) (bCells p))) true (Ob.cells true)) (List.length p) ∧ (List.length b ≤ (2000000 : Nat) ∧ List.length p ≤ (1000000 : Nat))))))) ∧
      ((((((0 : Nat) + List.length (frR (Row.mk (List.take ((Int.toNat (Int.ofNat (List.length b)) - (0 : Nat)) * (1 : Nat)) (List.drop (0 : Nat) (bCells (pad80 (dB (Row.mk (List.take (List.length b * (1 : Nat)) (List.drop (0 : Nat) (bCells b))) true (Ob.cells true))) (u8i (7 : Int)))))) true (Ob.cells true)) (Row.mk (List.take ((Int.toNat (Int.ofNat (List.length p)) - (0 : Nat)) * (1 : Nat)) (List.drop (0 : Nat) (bCells (pad80 (dB (Row.mk (List.take (List.length p * (1 : Nat)) (List.drop (0 : Nat) (bCells p))) true (Ob.cells true))) (u8i (8 : Int)))))) true (Ob.cells true)) t f s) * (1 : Nat) ≤ List.length (bCells (frR (Row.mk (List.take ((Int.toNat (Int.ofNat (List.length b)) - (0 : Nat)) * (1 : Nat)) (List.drop (0 : Nat) (bCells (pad80 (dB (Row.mk (List.take (List.length b * (1 : Nat)) (List.drop (0 : Nat) (bCells b))) true (Ob.cells true))) (u8i (7 : Int)))))) true (Ob.cells true)) (Row.mk (List.take ((Int.toNat (Int.ofNat (List.length p)) - (0 : Nat)) * (1 : Nat)) (List.drop (0 : Nat) (bCells (pad80 (dB (Row.mk (List.take (List.length p * (1 : Nat)) (List.drop (0 : Nat) (bCells p))) true (Ob.cells true))) (u8i (8 : Int)))))) true (Ob.cells true)) t f s)) ∧ Plain (List.take (List.length (frR (Row.mk (List.take ((Int.toNat (Int.ofNat (List.length b)) - (0 : Nat)) * (1 : Nat)) (List.drop (0 : Nat) (bCells (pad80 (dB (Row.mk (List.take (List.length b * (1 : Nat)) (List.drop (0 : Nat) (bCells b))) true (Ob.cells true))) (u8i (7 : Int)))))) true (Ob.cells true)) (Row.mk (List.take ((Int.toNat (Int.ofNat (List.length p)) - (0 : Nat)) * (1 : Nat)) (List.drop (0 : Nat) (bCells (pad80 (dB (Row.mk (List.take (List.length p * (1 : Nat)) (List.drop (0 : Nat) (bCells p))) true (Ob.cells true))) (u8i (8 : Int)))))) true (Ob.cells true)) t f s) * (1 : Nat)) (List.drop (0 : Nat) (bCells (frR (Row.mk (List.take ((Int.toNat (Int.ofNat (List.length b)) - (0 : Nat)) * (1 : Nat)) (List.drop (0 : Nat) (bCells (pad80 (dB (Row.mk (List.take (List.length b * (1 : Nat)) (List.drop (0 : Nat) (bCells b))) true (Ob.cells true))) (u8i (7 : Int)))))) true (Ob.cells true)) (Row.mk (List.take ((Int.toNat (Int.ofNat (List.length p)) - (0 : Nat)) * (1 : Nat)) (List.drop (0 : Nat) (bCells (pad80 (dB (Row.mk (List.take (List.length p * (1 : Nat)) (List.drop (0 : Nat) (bCells p))) true (Ob.cells true))) (u8i (8 : Int)))))) true (Ob.cells true)) t f s))))) ∧ (((0 : Nat) + List.length (frR (Row.mk (List.take (List.length b * (1 : Nat)) (List.drop (0 : Nat) (bCells b))) true (Ob.cells true)) (Row.mk (List.take (List.length p * (1 : Nat)) (List.drop (0 : Nat) (bCells p))) true (Ob.cells true)) t f s) * (1 : Nat) ≤ List.length (bCells (frR (Row.mk (List.take (List.length b * (1 : Nat)) (List.drop (0 : Nat) (bCells b))) true (Ob.cells true)) (Row.mk (List.take (List.length p * (1 : Nat)) (List.drop (0 : Nat) (bCells p))) true (Ob.cells true)) t f s)) ∧ Plain (List.take (List.length (frR (Row.mk (List.take (List.length b * (1 : Nat)) (List.drop (0 : Nat) (bCells b))) true (Ob.cells true)) (Row.mk (List.take (List.length p * (1 : Nat)) (List.drop (0 : Nat) (bCells p))) true (Ob.cells true)) t f s) * (1 : Nat)) (List.drop (0 : Nat) (bCells (frR (Row.mk (List.take (List.length b * (1 : Nat)) (List.drop (0 : Nat) (bCells b))) true (Ob.cells true)) (Row.mk (List.take (List.length p * (1 : Nat)) (List.drop (0 : Nat) (bCells p))) true (Ob.cells true)) t f s))))) ∧ True)) ∧ (True ∧ (IsB (Row.mk (List.take (List.length (frR (Row.mk (List.take ((Int.toNat (Int.ofNat (List.length b)) - (0 : Nat)) * (1 : Nat)) (List.drop (0 : Nat) (bCells (pad80 (dB (Row.mk (List.take (List.length b * (1 : Nat)) (List.drop (0 : Nat) (bCells b))) true (Ob.cells true))) (u8i (7 : Int)))))) true (Ob.cells true)) (Row.mk (List.take ((Int.toNat (Int.ofNat (List.length p)) - (0 : Nat)) * (1 : Nat)) (List.drop (0 : Nat) (bCells (pad80 (dB (Row.mk (List.take (List.length p * (1 : Nat)) (List.drop (0 : Nat) (bCells p))) true (Ob.cells true))) (u8i (8 : Int)))))) true (Ob.cells true)) t f s) * (1 : Nat)) (List.drop (0 : Nat) (bCells (frR (Row.mk (List.take ((Int.toNat (Int.ofNat (List.length b)) - (0 : Nat)) * (1 : Nat)) (List.drop (0 : Nat) (bCells (pad80 (dB (Row.mk (List.take (List.length b * (1 : Nat)) (List.drop (0 : Nat) (bCells b))) true (Ob.cells true))) (u8i (7 : Int)))))) true (Ob.cells true)) (Row.mk (List.take ((Int.toNat (Int.ofNat (List.length p)) - (0 : Nat)) * (1 : Nat)) (List.drop (0 : Nat) (bCells (pad80 (dB (Row.mk (List.take (List.length p * (1 : Nat)) (List.drop (0 : Nat) (bCells p))) true (Ob.cells true))) (u8i (8 : Int)))))) true (Ob.cells true)) t f s)))) true (Ob.cells true)) (List.length (frR (Row.mk (List.take ((Int.toNat (Int.ofNat (List.length b)) - (0 : Nat)) * (1 : Nat)) (List.drop (0 : Nat) (bCells (pad80 (dB (Row.mk (List.take (List.length b * (1 : Nat)) (List.drop (0 : Nat) (bCells b))) true (Ob.cells true))) (u8i (7 : Int)))))) true (Ob.cells true)) (Row.mk (List.take ((Int.toNat (Int.ofNat (List.length p)) - (0 : Nat)) * (1 : Nat)) (List.drop (0 : Nat) (bCells (pad80 (dB (Row.mk (List.take (List.length p * (1 : Nat)) (List.drop (0 : Nat) (bCells p))) true (Ob.cells true))) (u8i (8 : Int)))))) true (Ob.cells true)) t f s)) ∧ (IsB (Row.mk (List.take (List.length (frR (Row.mk (List.take (List.length b * (1 : Nat)) (List.drop (0 : Nat) (bCells b))) true (Ob.cells true)) (Row.mk (List.take (List.length p * (1 : Nat)) (List.drop (0 : Nat) (bCells p))) true (Ob.cells true)) t f s) * (1 : Nat)) (List.drop (0 : Nat) (bCells (frR (Row.mk (List.take (List.length b * (1 : Nat)) (List.drop (0 : Nat) (bCells b))) true (Ob.cells true)) (Row.mk (List.take (List.length p * (1 : Nat)) (List.drop (0 : Nat) (bCells p))) true (Ob.cells true)) t f s)))) true (Ob.cells true)) (List.length (frR (Row.mk (List.take (List.length b * (1 : Nat)) (List.drop (0 : Nat) (bCells b))) true (Ob.cells true)) (Row.mk (List.take (List.length p * (1 : Nat)) (List.drop (0 : Nat) (bCells p))) true (Ob.cells true)) t f s)) ∧ List.length (frR (Row.mk (List.take ((Int.toNat (Int.ofNat (List.length b)) - (0 : Nat)) * (1 : Nat)) (List.drop (0 : Nat) (bCells (pad80 (dB (Row.mk (List.take (List.length b * (1 : Nat)) (List.drop (0 : Nat) (bCells b))) true (Ob.cells true))) (u8i (7 : Int)))))) true (Ob.cells true)) (Row.mk (List.take ((Int.toNat (Int.ofNat (List.length p)) - (0 : Nat)) * (1 : Nat)) (List.drop (0 : Nat) (bCells (pad80 (dB (Row.mk (List.take (List.length p * (1 : Nat)) (List.drop (0 : Nat) (bCells p))) true (Ob.cells true))) (u8i (8 : Int)))))) true (Ob.cells true)) t f s) ≤ (9223372036854775807 : Nat)))))) ∧
      (br (decide (dB (Row.mk (List.take (List.length (frR (Row.mk (List.take ((Int.toNat (Int.ofNat (List.length b)) - (0 : Nat)) * (1 : Nat)) (List.drop (0 : Nat) (bCells (pad80 (dB (Row.mk (List.take (List.length b * (1 : Nat)) (List.drop (0 : Nat) (bCells b))) true (Ob.cells true))) (u8i (7 : Int)))))) true (Ob.cells true)) (Row.mk (List.take ((Int.toNat (Int.ofNat (List.length p)) - (0 : Nat)) * (1 : Nat)) (List.drop (0 : Nat) (bCells (pad80 (dB (Row.mk (List.take (List.length p * (1 : Nat)) (List.drop (0 : Nat) (bCells p))) true (Ob.cells true))) (u8i (8 : Int)))))) true (Ob.cells true)) t f s) * (1 : Nat)) (List.drop (0 : Nat) (bCells (frR (Row.mk (List.take ((Int.toNat (Int.ofNat (List.length b)) - (0 : Nat)) * (1 : Nat)) (List.drop (0 : Nat) (bCells (pad80 (dB (Row.mk (List.take (List.length b * (1 : Nat)) (List.drop (0 : Nat) (bCells b))) true (Ob.cells true))) (u8i (7 : Int)))))) true (Ob.cells true)) (Row.mk (List.take ((Int.toNat (Int.ofNat (List.length p)) - (0 : Nat)) * (1 : Nat)) (List.drop (0 : Nat) (bCells (pad80 (dB (Row.mk (List.take (List.length p * (1 : Nat)) (List.drop (0 : Nat) (bCells p))) true (Ob.cells true))) (u8i (8 : Int)))))) true (Ob.cells true)) t f s)))) true (Ob.cells true)) = dB (Row.mk (List.take (List.length (frR (Row.mk (List.take (List.length b * (1 : Nat)) (List.drop (0 : Nat) (bCells b))) true (Ob.cells true)) (Row.mk (List.take (List.length p * (1 : Nat)) (List.drop (0 : Nat) (bCells p))) true (Ob.cells true)) t f s) * (1 : Nat)) (List.drop (0 : Nat) (bCells (frR (Row.mk (List.take (List.length b * (1 : Nat)) (List.drop (0 : Nat) (bCells b))) true (Ob.cells true)) (Row.mk (List.take (List.length p * (1 : Nat)) (List.drop (0 : Nat) (bCells p))) true (Ob.cells true)) t f s)))) true (Ob.cells true))))
       ((((((0 : Nat) + (List.length b + (80 : Nat)) * (1 : Nat) ≤ List.length (bCells (pad80 (dB (Row.mk (List.take (List.length b * (1 : Nat)) (List.drop (0 : Nat) (bCells b))) true (Ob.cells true))) (u8i (7 : Int)))) ∧ Plain (List.take ((List.length b + (80 : Nat)) * (1 : Nat)) (List.drop (0 : Nat) (bCells (pad80 (dB (Row.mk (List.take (List.length b * (1 : Nat)) (List.drop (0 : Nat) (bCells b))) true (Ob.cells true))) (u8i (7 : Int))))))) ∧ (((0 : Nat) + List.length b * (1 : Nat) ≤ List.length (bCells b) ∧ Plain (List.take (List.length b * (1 : Nat)) (List.drop (0 : Nat) (bCells b)))) ∧ (True ∧ True))) ∧ (True ∧ (IsB (Row.mk (List.take ((List.length b + (80 : Nat)) * (1 : Nat)) (List.drop (0 : Nat) (bCells (pad80 (dB (Row.mk (List.take (List.length b * (1 : Nat)) (List.drop (0 : Nat) (bCells b))) true (Ob.cells true))) (u8i (7 : Int)))))) true (Ob.cells true)) (List.length b + (80 : Nat)) ∧ (IsB (Row.mk (List.take (List.length b * (1 : Nat)) (List.drop (0 : Nat) (bCells b))) true (Ob.cells true)) (List.length b) ∧ (IsU8 (7 : Int) ∧ (List.length b + (80 : Nat) ≤ (9223372036854775807 : Nat) ∧ List.length b ≤ (9223372036854775000 : Nat)))))))) ∧
       (br (decide (dB (Row.mk (List.take ((List.length b + (80 : Nat)) * (1 : Nat)) (List.drop (0 : Nat) (bCells (pad80 (dB (Row.mk (List.take (List.length b * (1 : Nat)) (List.drop (0 : Nat) (bCells b))) true (Ob.cells true))) (u8i (7 : Int)))))) true (Ob.cells true)) = pad80 (dB (Row.mk (List.take (List.length b * (1 : Nat)) (List.drop (0 : Nat) (bCells b))) true (Ob.cells true))) (u8i (7 : Int))))
        ((((((0 : Nat) + (List.length p + (80 : Nat)) * (1 : Nat) ≤ List.length (bCells (pad80 (dB (Row.mk (List.take (List.length p * (1 : Nat)) (List.drop (0 : Nat) (bCells p))) true (Ob.cells true))) (u8i (8 : Int)))) ∧ Plain (List.take ((List.length p + (80 : Nat)) * (1 : Nat)) (List.drop (0 : Nat) (bCells (pad80 (dB (Row.mk (List.take (List.length p * (1 : Nat)) (List.drop (0 : Nat) (bCells p))) true (Ob.cells true))) (u8i (8 : Int))))))) ∧ (((0 : Nat) + List.length p * (1 : Nat) ≤ List.length (bCells p) ∧ Plain (List.take (List.length p * (1 : Nat)) (List.drop (0 : Nat) (bCells p)))) ∧ (True ∧ True))) ∧ (True ∧ (IsB (Row.mk (List.take ((List.length p + (80 : Nat)) * (1 : Nat)) (List.drop (0 : Nat) (bCells (pad80 (dB (Row.mk (List.take (List.length p * (1 : Nat)) (List.drop (0 : Nat) (bCells p))) true (Ob.cells true))) (u8i (8 : Int)))))) true (Ob.cells true)) (List.length p + (80 : Nat)) ∧ (IsB (Row.mk (List.take (List.length p * (1 : Nat)) (List.drop (0 : Nat) (bCells p))) true (Ob.cells true)) (List.length p) ∧ (IsU8 (8 : Int) ∧ (List.length p + (80 : Nat) ≤ (9223372036854775807 : Nat) ∧ List.length p ≤ (9223372036854775000 : Nat)))))))) ∧
        (br (decide (dB (Row.mk (List.take ((List.length p + (80 : Nat)) * (1 : Nat)) (List.drop (0 : Nat) (bCells (pad80 (dB (Row.mk (List.take (List.length p * (1 : Nat)) (List.drop (0 : Nat) (bCells p))) true (Ob.cells true))) (u8i (8 : Int)))))) true (Ob.cells true)) = pad80 (dB (Row.mk (List.take (List.length p * (1 : Nat)) (List.drop (0 : Nat) (bCells p))) true (Ob.cells true))) (u8i (8 : Int))))
         (((True ∧ (True ∧ True))) ∧
         ((Value.agg (Array.mk [Value.int IntKind.i64 t, Value.int IntKind.i64 f, Value.int IntKind.i64 s, Value.slice (some (Addr.mk (13 : Nat) (0 : Nat) none)) (Int.toNat (Int.ofNat (List.length p)) - (0 : Nat)) (1 : Nat)]) = Value.agg (Array.mk [Value.int IntKind.i64 t, Value.int IntKind.i64 f, Value.int IntKind.i64 s, Value.slice (some (Addr.mk (13 : Nat) (0 : Nat) none)) (Int.toNat (Int.ofNat (List.length p)) - (0 : Nat)) (1 : Nat)])) ∧
         ((Value.agg (Array.mk [Value.int IntKind.i64 t, Value.int IntKind.i64 f, Value.int IntKind.i64 s, Value.slice (some (Addr.mk (1 : Nat) (0 : Nat) none)) (List.length p) (1 : Nat)]) = Value.agg (Array.mk [Value.int IntKind.i64 t, Value.int IntKind.i64 f, Value.int IntKind.i64 s, Value.slice (some (Addr.mk (1 : Nat) (0 : Nat) none)) (List.length p) (1 : Nat)])) ∧
         ((Value.agg (Array.mk [Value.int IntKind.i64 t, Value.int IntKind.i64 f, Value.int IntKind.i64 s, Value.slice (some (Addr.mk (1 : Nat) (0 : Nat) none)) (List.length p) (1 : Nat)]) = Value.agg (Array.mk [Value.int IntKind.i64 t, Value.int IntKind.i64 f, Value.int IntKind.i64 s, Value.slice (some (Addr.mk (1 : Nat) (0 : Nat) none)) (List.length p) (1 : Nat)])) ∧
         (br (decide ((0 : Int) ≤ (↑(0 : Nat) : Int) ∧ (0 : Int) ≤ Int.ofNat (List.length b) ∧ Int.ofNat (List.length b) ≤ (↑(List.length b + (80 : Nat)) : Int)))
          ((Value.slice (some (Addr.mk (12 : Nat) (0 : Nat) none)) (Int.toNat (Int.ofNat (List.length b)) - (0 : Nat)) (1 : Nat) = Value.slice (some (Addr.mk (12 : Nat) (0 : Nat) none)) (Int.toNat (Int.ofNat (List.length b)) - (0 : Nat)) (1 : Nat)) ∧
          ((Value.agg (Array.mk [Value.int IntKind.i64 t, Value.int IntKind.i64 f, Value.int IntKind.i64 s, Value.slice (some (Addr.mk (13 : Nat) (0 : Nat) none)) (Int.toNat (Int.ofNat (List.length p)) - (0 : Nat)) (1 : Nat)]) = Value.agg (Array.mk [Value.int IntKind.i64 t, Value.int IntKind.i64 f, Value.int IntKind.i64 s, Value.slice (some (Addr.mk (13 : Nat) (0 : Nat) none)) (Int.toNat (Int.ofNat (List.length p)) - (0 : Nat)) (1 : Nat)])) ∧
          ((Value.agg (Array.mk [Value.int IntKind.i64 t, Value.int IntKind.i64 f, Value.int IntKind.i64 s, Value.slice (some (Addr.mk (1 : Nat) (0 : Nat) none)) (List.length p) (1 : Nat)]) = Value.agg (Array.mk [Value.int IntKind.i64 t, Value.int IntKind.i64 f, Value.int IntKind.i64 s, Value.slice (some (Addr.mk (1 : Nat) (0 : Nat) none)) (List.length p) (1 : Nat)])) ∧
          ((Value.agg (Array.mk [Value.int IntKind.i64 t, Value.int IntKind.i64 f, Value.int IntKind.i64 s, Value.slice (some (Addr.mk (1 : Nat) (0 : Nat) none)) (List.length p) (1 : Nat)]) = Value.agg (Array.mk [Value.int IntKind.i64 t, Value.int IntKind.i64 f, Value.int IntKind.i64 s, Value.slice (some (Addr.mk (1 : Nat) (0 : Nat) none)) (List.length p) (1 : Nat)])) ∧
          ((Value.slice (some (Addr.mk (1 : Nat) (0 : Nat) none)) (List.length p) (1 : Nat) = Value.slice (some (Addr.mk (1 : Nat) (0 : Nat) none)) (List.length p) (1 : Nat)) ∧
          ((true = true) ∧
          ((Eq (α := List Value) (bCells b) (bCells b)) ∧
          ((Plain (bCells b)) ∧
          ((Eq (α := List Value) (bCells p) (bCells p)) ∧
          ((Plain (bCells p)) ∧
          True))))))))))
          False)))))
         ((Value.agg (Array.mk [Value.int IntKind.i64 t, Value.int IntKind.i64 f, Value.int IntKind.i64 s, Value.slice (some (Addr.mk (13 : Nat) (0 : Nat) none)) (Int.toNat (Int.ofNat (List.length p)) - (0 : Nat)) (1 : Nat)]) = Value.agg (Array.mk [Value.int IntKind.i64 t, Value.int IntKind.i64 f, Value.int IntKind.i64 s, Value.slice (some (Addr.mk (13 : Nat) (0 : Nat) none)) (Int.toNat (Int.ofNat (List.length p)) - (0 : Nat)) (1 : Nat)])) ∧
         ((Value.agg (Array.mk [Value.int IntKind.i64 t, Value.int IntKind.i64 f, Value.int IntKind.i64 s, Value.slice (some (Addr.mk (1 : Nat) (0 : Nat) none)) (List.length p) (1 : Nat)]) = Value.agg (Array.mk [Value.int IntKind.i64 t, Value.int IntKind.i64 f, Value.int IntKind.i64 s, Value.slice (some (Addr.mk (1 : Nat) (0 : Nat) none)) (List.length p) (1 : Nat)])) ∧
         ((Value.agg (Array.mk [Value.int IntKind.i64 t, Value.int IntKind.i64 f, Value.int IntKind.i64 s, Value.slice (some (Addr.mk (1 : Nat) (0 : Nat) none)) (List.length p) (1 : Nat)]) = Value.agg (Array.mk [Value.int IntKind.i64 t, Value.int IntKind.i64 f, Value.int IntKind.i64 s, Value.slice (some (Addr.mk (1 : Nat) (0 : Nat) none)) (List.length p) (1 : Nat)])) ∧
         (br (decide ((0 : Int) ≤ (↑(0 : Nat) : Int) ∧ (0 : Int) ≤ Int.ofNat (List.length b) ∧ Int.ofNat (List.length b) ≤ (↑(List.length b + (80 : Nat)) : Int)))
          ((Value.slice (some (Addr.mk (12 : Nat) (0 : Nat) none)) (Int.toNat (Int.ofNat (List.length b)) - (0 : Nat)) (1 : Nat) = Value.slice (some (Addr.mk (12 : Nat) (0 : Nat) none)) (Int.toNat (Int.ofNat (List.length b)) - (0 : Nat)) (1 : Nat)) ∧
          ((Value.agg (Array.mk [Value.int IntKind.i64 t, Value.int IntKind.i64 f, Value.int IntKind.i64 s, Value.slice (some (Addr.mk (13 : Nat) (0 : Nat) none)) (Int.toNat (Int.ofNat (List.length p)) - (0 : Nat)) (1 : Nat)]) = Value.agg (Array.mk [Value.int IntKind.i64 t, Value.int IntKind.i64 f, Value.int IntKind.i64 s, Value.slice (some (Addr.mk (13 : Nat) (0 : Nat) none)) (Int.toNat (Int.ofNat (List.length p)) - (0 : Nat)) (1 : Nat)])) ∧
          ((Value.agg (Array.mk [Value.int IntKind.i64 t, Value.int IntKind.i64 f, Value.int IntKind.i64 s, Value.slice (some (Addr.mk (1 : Nat) (0 : Nat) none)) (List.length p) (1 : Nat)]) = Value.agg (Array.mk [Value.int IntKind.i64 t, Value.int IntKind.i64 f, Value.int IntKind.i64 s, Value.slice (some (Addr.mk (1 : Nat) (0 : Nat) none)) (List.length p) (1 : Nat)])) ∧
          ((Value.agg (Array.mk [Value.int IntKind.i64 t, Value.int IntKind.i64 f, Value.int IntKind.i64 s, Value.slice (some (Addr.mk (1 : Nat) (0 : Nat) none)) (List.length p) (1 : Nat)]) = Value.agg (Array.mk [Value.int IntKind.i64 t, Value.int IntKind.i64 f, Value.int IntKind.i64 s, Value.slice (some (Addr.mk (1 : Nat) (0 : Nat) none)) (List.length p) (1 : Nat)])) ∧
          ((Value.slice (some (Addr.mk (1 : Nat) (0 : Nat) none)) (List.length p) (1 : Nat) = Value.slice (some (Addr.mk (1 : Nat) (0 : Nat) none)) (List.length p) (1 : Nat)) ∧
          ((true = false) ∧
          ((Eq (α := List Value) (bCells b) (bCells b)) ∧
          ((Plain (bCells b)) ∧
          ((Eq (α := List Value) (bCells p) (bCells p)) ∧
          ((Plain (bCells p)) ∧
          True))))))))))
          False))))))
        ((Value.agg (Array.mk [Value.int IntKind.i64 t, Value.int IntKind.i64 f, Value.int IntKind.i64 s, Value.slice (some (Addr.mk (13 : Nat) (0 : Nat) none)) (Int.toNat (Int.ofNat (List.length p)) - (0 : Nat)) (1 : Nat)]) = Value.agg (Array.mk [Value.int IntKind.i64 t, Value.int IntKind.i64 f, Value.int IntKind.i64 s, Value.slice (some (Addr.mk (13 : Nat) (0 : Nat) none)) (Int.toNat (Int.ofNat (List.length p)) - (0 : Nat)) (1 : Nat)])) ∧
        ((Value.agg (Array.mk [Value.int IntKind.i64 t, Value.int IntKind.i64 f, Value.int IntKind.i64 s, Value.slice (some (Addr.mk (1 : Nat) (0 : Nat) none)) (List.length p) (1 : Nat)]) = Value.agg (Array.mk [Value.int IntKind.i64 t, Value.int IntKind.i64 f, Value.int IntKind.i64 s, Value.slice (some (Addr.mk (1 : Nat) (0 : Nat) none)) (List.length p) (1 : Nat)])) ∧
        ((Value.agg (Array.mk [Value.int IntKind.i64 t, Value.int IntKind.i64 f, Value.int IntKind.i64 s, Value.slice (some (Addr.mk (1 : Nat) (0 : Nat) none)) (List.length p) (1 : Nat)]) = Value.agg (Array.mk [Value.int IntKind.i64 t, Value.int IntKind.i64 f, Value.int IntKind.i64 s, Value.slice (some (Addr.mk (1 : Nat) (0 : Nat) none)) (List.length p) (1 : Nat)])) ∧
        (br (decide ((0 : Int) ≤ (↑(0 : Nat) : Int) ∧ (0 : Int) ≤ Int.ofNat (List.length b) ∧ Int.ofNat (List.length b) ≤ (↑(List.length b + (80 : Nat)) : Int)))
         ((Value.slice (some (Addr.mk (12 : Nat) (0 : Nat) none)) (Int.toNat (Int.ofNat (List.length b)) - (0 : Nat)) (1 : Nat) = Value.slice (some (Addr.mk (12 : Nat) (0 : Nat) none)) (Int.toNat (Int.ofNat (List.length b)) - (0 : Nat)) (1 : Nat)) ∧
         ((Value.agg (Array.mk [Value.int IntKind.i64 t, Value.int IntKind.i64 f, Value.int IntKind.i64 s, Value.slice (some (Addr.mk (13 : Nat) (0 : Nat) none)) (Int.toNat (Int.ofNat (List.length p)) - (0 : Nat)) (1 : Nat)]) = Value.agg (Array.mk [Value.int IntKind.i64 t, Value.int IntKind.i64 f, Value.int IntKind.i64 s, Value.slice (some (Addr.mk (13 : Nat) (0 : Nat) none)) (Int.toNat (Int.ofNat (List.length p)) - (0 : Nat)) (1 : Nat)])) ∧
         ((Value.agg (Array.mk [Value.int IntKind.i64 t, Value.int IntKind.i64 f, Value.int IntKind.i64 s, Value.slice (some (Addr.mk (1 : Nat) (0 : Nat) none)) (List.length p) (1 : Nat)]) = Value.agg (Array.mk [Value.int IntKind.i64 t, Value.int IntKind.i64 f, Value.int IntKind.i64 s, Value.slice (some (Addr.mk (1 : Nat) (0 : Nat) none)) (List.length p) (1 : Nat)])) ∧
         ((Value.agg (Array.mk [Value.int IntKind.i64 t, Value.int IntKind.i64 f, Value.int IntKind.i64 s, Value.slice (some (Addr.mk (1 : Nat) (0 : Nat) none)) (List.length p) (1 : Nat)]) = Value.agg (Array.mk [Value.int IntKind.i64 t, Value.int IntKind.i64 f, Value.int IntKind.i64 s, Value.slice (some (Addr.mk (1 : Nat) (0 : Nat) none)) (List.length p) (1 : Nat)])) ∧
         ((true = false) ∧
         ((Eq (α := List Value) (bCells b) (bCells b)) ∧
         ((Plain (bCells b)) ∧
         ((Eq (α := List Value) (bCells p) (bCells p)) ∧
         ((Plain (bCells p)) ∧
         True)))))))))
         False))))))
       ((Value.agg (Array.mk [Value.int IntKind.i64 t, Value.int IntKind.i64 f, Value.int IntKind.i64 s, Value.slice (some (Addr.mk (13 : Nat) (0 : Nat) none)) (Int.toNat (Int.ofNat (List.length p)) - (0 : Nat)) (1 : Nat)]) = Value.agg (Array.mk [Value.int IntKind.i64 t, Value.int IntKind.i64 f, Value.int IntKind.i64 s, Value.slice (some (Addr.mk (13 : Nat) (0 : Nat) none)) (Int.toNat (Int.ofNat (List.length p)) - (0 : Nat)) (1 : Nat)])) ∧
       ((Value.agg (Array.mk [Value.int IntKind.i64 t, Value.int IntKind.i64 f, Value.int IntKind.i64 s, Value.slice (some (Addr.mk (1 : Nat) (0 : Nat) none)) (List.length p) (1 : Nat)]) = Value.agg (Array.mk [Value.int IntKind.i64 t, Value.int IntKind.i64 f, Value.int IntKind.i64 s, Value.slice (some (Addr.mk (1 : Nat) (0 : Nat) none)) (List.length p) (1 : Nat)])) ∧
       ((Value.agg (Array.mk [Value.int IntKind.i64 t, Value.int IntKind.i64 f, Value.int IntKind.i64 s, Value.slice (some (Addr.mk (1 : Nat) (0 : Nat) none)) (List.length p) (1 : Nat)]) = Value.agg (Array.mk [Value.int IntKind.i64 t, Value.int IntKind.i64 f, Value.int IntKind.i64 s, Value.slice (some (Addr.mk (1 : Nat) (0 : Nat) none)) (List.length p) (1 : Nat)])) ∧
       (br (decide ((0 : Int) ≤ (↑(0 : Nat) : Int) ∧ (0 : Int) ≤ Int.ofNat (List.length b) ∧ Int.ofNat (List.length b) ≤ (↑(List.length b + (80 : Nat)) : Int)))
        ((Value.slice (some (Addr.mk (12 : Nat) (0 : Nat) none)) (Int.toNat (Int.ofNat (List.length b)) - (0 : Nat)) (1 : Nat) = Value.slice (some (Addr.mk (12 : Nat) (0 : Nat) none)) (Int.toNat (Int.ofNat (List.length b)) - (0 : Nat)) (1 : Nat)) ∧
        ((Value.agg (Array.mk [Value.int IntKind.i64 t, Value.int IntKind.i64 f, Value.int IntKind.i64 s, Value.slice (some (Addr.mk (13 : Nat) (0 : Nat) none)) (Int.toNat (Int.ofNat (List.length p)) - (0 : Nat)) (1 : Nat)]) = Value.agg (Array.mk [Value.int IntKind.i64 t, Value.int IntKind.i64 f, Value.int IntKind.i64 s, Value.slice (some (Addr.mk (13 : Nat) (0 : Nat) none)) (Int.toNat (Int.ofNat (List.length p)) - (0 : Nat)) (1 : Nat)])) ∧
        ((Value.agg (Array.mk [Value.int IntKind.i64 t, Value.int IntKind.i64 f, Value.int IntKind.i64 s, Value.slice (some (Addr.mk (1 : Nat) (0 : Nat) none)) (List.length p) (1 : Nat)]) = Value.agg (Array.mk [Value.int IntKind.i64 t, Value.int IntKind.i64 f, Value.int IntKind.i64 s, Value.slice (some (Addr.mk (1 : Nat) (0 : Nat) none)) (List.length p) (1 : Nat)])) ∧
        ((Value.agg (Array.mk [Value.int IntKind.i64 t, Value.int IntKind.i64 f, Value.int IntKind.i64 s, Value.slice (some (Addr.mk (1 : Nat) (0 : Nat) none)) (List.length p) (1 : Nat)]) = Value.agg (Array.mk [Value.int IntKind.i64 t, Value.int IntKind.i64 f, Value.int IntKind.i64 s, Value.slice (some (Addr.mk (1 : Nat) (0 : Nat) none)) (List.length p) (1 : Nat)])) ∧
        ((true = false) ∧
        ((Eq (α := List Value) (bCells b) (bCells b)) ∧
        ((Plain (bCells b)) ∧
        ((Eq (α := List Value) (bCells p) (bCells p)) ∧
        ((Plain (bCells p)) ∧
        True)))))))))
        False))))))))
      False)
     ((Value.agg (Array.mk [Value.int IntKind.i64 t, Value.int IntKind.i64 f, Value.int IntKind.i64 s, Value.slice (some (Addr.mk (13 : Nat) (0 : Nat) none)) (Int.toNat (Int.ofNat (List.length p)) - (0 : Nat)) (1 : Nat)]) = Value.agg (Array.mk [Value.int IntKind.i64 t, Value.int IntKind.i64 f, Value.int IntKind.i64 s, Value.slice (some (Addr.mk (13 : Nat) (0 : Nat) none)) (Int.toNat (Int.ofNat (List.length p)) - (0 : Nat)) (1 : Nat)])) ∧
     ((Value.agg (Array.mk [Value.int IntKind.i64 t, Value.int IntKind.i64 f, Value.int IntKind.i64 s, Value.slice (some (Addr.mk (1 : Nat) (0 : Nat) none)) (List.length p) (1 : Nat)]) = Value.agg (Array.mk [Value.int IntKind.i64 t, Value.int IntKind.i64 f, Value.int IntKind.i64 s, Value.slice (some (Addr.mk (1 : Nat) (0 : Nat) none)) (List.length p) (1 : Nat)])) ∧
     ((Value.agg (Array.mk [Value.int IntKind.i64 t, Value.int IntKind.i64 f, Value.int IntKind.i64 s, Value.slice (some (Addr.mk (1 : Nat) (0 : Nat) none)) (List.length p) (1 : Nat)]) = Value.agg (Array.mk [Value.int IntKind.i64 t, Value.int IntKind.i64 f, Value.int IntKind.i64 s, Value.slice (some (Addr.mk (1 : Nat) (0 : Nat) none)) (List.length p) (1 : Nat)])) ∧
     ((true = false) ∧
     ((Eq (α := List Value) (bCells b) (bCells b)) ∧
     ((Plain (bCells b)) ∧
     ((Eq (α := List Value) (bCells p) (bCells p)) ∧
     ((Plain (bCells p)) ∧
     True)))))))))))
    False)))))) := by kernel_rfl
theorem u8i_nat (b : UInt8) : u8i (b.toNat : Int) = b := by unfold u8i; simp
theorem isU8_nat (b : UInt8) : IsU8 (b.toNat : Int) := ⟨b, rfl⟩
theorem isU8_7 : IsU8 7 := ⟨7, rfl⟩
theorem isU8_8 : IsU8 8 := ⟨8, rfl⟩
theorem pad_len (l : List UInt8) (m : UInt8) : (pad80 l m).length = l.length + 80 := by simp [pad80]
theorem rright_con (t f s : Int) (l : List UInt8) : Con Try.prog 20 [frV t f s 0 l.length] [bRo l] (.bool (rightB t f s l.length)) [bRo l] := by
  refine con_vc (E := E0) mixed (calls_envN _) (lok_envN _) (M := noM) lm_none (rright_vc t f s l _) ?_
  simp only [ofNat_eq, toNat_cast, Nat.zero_add, Nat.add_zero, Nat.mul_one, List.drop_zero, bCells_len, bCells_drop, bCells_take, bCells_app, bCells_one, bCells_plain, List.length_replicate, List.length_append, List.length_take, List.length_drop, List.take_length, and_true, true_and, and_self, decide_true, List.length_nil, List.length_cons, Nat.sub_zero, dB_mk, dB_ro, List.take_zero]
  unfold rightB
  refine br_if (fun h1 => br_if (fun h2 => br_if (fun h3 => br_if (fun h4 => br_if (fun h5 => br_if (fun h6 => ?_) (fun h6 => ?_)) (fun h5 => ?_)) (fun h4 => ?_)) (fun h3 => ?_)) (fun h2 => ?_)) (fun h1 => ?_)
  · exact decide_eq_decide.2 (by omega)
  all_goals exact decide_eq_false (by omega)
theorem cP_ok : ∀ f a rows p v news, cP f a rows = some (p, v, news) → p → Con Try.prog f a rows v (rows ++ news) := by
  intro f a rows p v news h hp
  unfold cP at h
  split at h <;> simp only [Option.some.injEq, Prod.mk.injEq, reduceCtorEq] at h <;> obtain ⟨rfl, rfl, rfl⟩ := h
  · obtain ⟨x, rfl, rfl⟩ := hp
    exact right_con _ _ _ x
  · exact con_run mixed (n := 1000000) (by kernel_rfl) (by kernel_rfl)
  · obtain ⟨⟨x, rfl, rfl⟩, ⟨y, rfl, rfl⟩, h1, h2⟩ := hp
    simp only [frR, dB_ro]
    exact put_con x y _ _ _ h1 h2
  · obtain ⟨⟨x, rfl, rfl⟩, ⟨y, rfl, rfl⟩, h1, h2⟩ := hp
    simp only [frR, dB_ro]
    exact rput_con x y _ _ _ h1 h2
  · obtain ⟨x, rfl, rfl⟩ := hp
    exact rright_con _ _ _ x
  · obtain ⟨⟨x, rfl, rfl⟩, ⟨y, rfl, rfl⟩, hl⟩ := hp
    simp only [dB_ro, List.append_nil]
    exact bk.same_con x y hl
  · obtain ⟨⟨x, rfl, rfl⟩, ⟨m, rfl⟩, hl⟩ := hp
    simp only [dB_ro, u8i_nat]
    exact bk.roomy_con x m hl
  · obtain ⟨⟨x, rfl, rfl⟩, ⟨y, rfl, rfl⟩, ⟨m, rfl⟩, hl, hl2⟩ := hp
    simp only [dB_ro, u8i_nat, List.append_nil]
    exact bk.int_con x y m hl hl2
theorem frO_len (b p : List UInt8) (t f s : Int) : (frO b p t f s).length = b.length + if rightB t f s p.length then 9 + p.length else 0 := by
  unfold frO; split
  · simp only [List.length_append, head_len]; omega
  · rfl
theorem isB_eq {l : List UInt8} {n : Nat} (h : n = l.length) : IsB ⟨bCells l, true, .cells true⟩ n = True := eq_true (isB_mk l n h)
theorem br_tt (X Y : Prop) : br true X Y = X := rfl
theorem frR_mk (a b : List UInt8) (x y : Bool) (o q : Ob) (t f s : Int) : frR ⟨bCells a, x, o⟩ ⟨bCells b, y, q⟩ t f s = frO a b t f s := by unfold frR; rw [dB_mk, dB_mk]
theorem take_pad (l : List UInt8) (m : UInt8) (n : Nat) (h : n = l.length) : (pad80 l m).take n = l := by subst h; unfold pad80; simp
theorem take_pad2 (l : List UInt8) (m : UInt8) (n : Nat) (h : n = l.length + 80) : (pad80 l m).take n = pad80 l m := List.take_of_length_le (by rw [pad_len]; omega)
theorem isB_pad {l : List UInt8} {m : UInt8} {n : Nat} (h : n = l.length + 80) : IsB ⟨bCells (pad80 l m), true, .cells true⟩ n = True := eq_true (isB_mk _ n (by rw [pad_len]; exact h))
theorem fs_law (b : List UInt8) (t f s : Int) (p : List UInt8) (hb : b.length ≤ 1048576) (ht : I64 t) (hf : I64 f) (hs : I64 s) (hp : p.length ≤ 1048576) :
    Con Try.prog 8 [slc 0 b.length, frV t f s 1 p.length] [bRo b, bRo p] (.bool true) [bRo b, bRo p] := by
  refine con_vc (E := EP) mixed (calls_envC cP_ok) (lok_envC _ _ _) (M := noM) lm_none (fs_vc b p t f s) ?_
  simp only [ofNat_eq, toNat_cast, Nat.zero_add, Nat.add_zero, Nat.mul_one, List.drop_zero, bCells_len, bCells_drop, bCells_take, bCells_app, bCells_one, bCells_plain, List.length_replicate, List.length_append, List.length_take, List.length_drop, List.take_length, and_true, true_and, and_self, decide_true, List.length_nil, List.length_cons, Nat.sub_zero, dB_mk, dB_ro, List.take_zero]
  have key : ∀ q : List UInt8, q.length ≤ 1048576 → ∀ n : Nat, n = q.length → ∀ m : Int, m = 9 + (n : Int) → rightB t f s n = true → IntKind.i64.wrap (((frO b q t f s).length : Int) - (b.length : Int)) = m := fun q hq n hn m hm hr => by
    subst hn; subst hm
    rw [frO_len, if_pos hr, wr64_id (by unfold I64; omega)]; omega
  have key0 : ∀ q : List UInt8, q.length ≤ 1048576 → ∀ n : Nat, n = q.length → rightB t f s n = false → IntKind.i64.wrap (((frO b q t f s).length : Int) - (b.length : Int)) = 0 := fun q hq n hn hr => by
    subst hn
    rw [frO_len, if_neg (by simp [hr]), wr64_id (by unfold I64; omega)]; omega
  have w9 : IntKind.i64.wrap (9 + (p.length : Int)) = 9 + (p.length : Int) := wr64_id (by unfold I64; omega)
  refine br_if (fun h => ?_) (fun h => ?_)
  · have hq : (p.take 300).length = 300 := by rw [List.length_take]; omega
    generalize p.take 300 = q at hq ⊢
    simp (disch := omega) only [brT, isB_eq, frR_mk, w9]
    refine ⟨⟨⟨Nat.le_refl _, by omega⟩, trivial, trivial, by omega, by omega⟩, ⟨by omega, trivial⟩, ?_⟩
    cases hr : rightB t f s 300
    · exact br_nb rfl ⟨⟨by omega, trivial⟩, br_b rfl (br_b (by rw [key0 q (by omega) 300 hq.symm hr]; rfl) trivial)⟩
    · exact br_b rfl (br_b (by rw [key q (by omega) 300 hq.symm 309 (by omega) hr]; rfl) trivial)
  · simp (disch := omega) only [brT, isB_eq, frR_mk, w9]
    refine ⟨⟨⟨Nat.le_refl _, by omega⟩, trivial, trivial, by omega, by omega⟩, ⟨by omega, trivial⟩, ?_⟩
    cases hr : rightB t f s p.length
    · exact br_nb rfl ⟨⟨by omega, trivial⟩, br_b rfl (br_b (by rw [key0 p (by omega) _ rfl hr]; rfl) trivial)⟩
    · exact br_b rfl (br_b (by rw [key p (by omega) _ rfl _ rfl hr]; simp) trivial)
theorem fp_law (b : List UInt8) (t f s : Int) (p : List UInt8) (hb : b.length ≤ 1048576) (ht : I64 t) (hf : I64 f) (hs : I64 s) (hp : p.length ≤ 1048576) :
    Con Try.prog 4 [slc 0 b.length, frV t f s 1 p.length] [bRo b, bRo p] (.bool true) [bRo b, bRo p] := by
  refine con_vc (E := EP) mixed (calls_envC cP_ok) (lok_envC _ _ _) (M := noM) lm_none (fp_vc b p t f s) ?_
  simp only [ofNat_eq, toNat_cast, Nat.zero_add, Nat.add_zero, Nat.mul_one, List.drop_zero, bCells_len, bCells_drop, bCells_take, bCells_app, bCells_one, bCells_plain, List.length_replicate, List.length_append, List.length_take, List.length_drop, List.take_length, and_true, true_and, and_self, decide_true, List.length_nil, List.length_cons, Nat.sub_zero, dB_mk, dB_ro, List.take_zero]
  have hm : maxLen = 9223372036854775807 := by unfold maxLen; rfl
  refine br_if (fun h => br_dec (by omega) ?_) (fun h => ?_)
  · have hq : (p.take 300).length = 300 := by rw [List.length_take]; omega
    generalize p.take 300 = q at hq ⊢
    have fl := frO_len b q t f s
    have fl2 : (frO b q t f s).length ≤ b.length + 1000 := by split at fl <;> omega
    simp (disch := omega) only [brT, isB_eq, frR_mk, take_pad, take_pad2, pad_len, isU8_7, isU8_8, beq_self_eq_true, br_tt, decide_true, isB_pad, and_true, true_and]
    omega
  · have fl := frO_len b p t f s
    have fl2 : (frO b p t f s).length ≤ b.length + p.length + 1000 := by split at fl <;> omega
    simp (disch := omega) only [brT, isB_eq, frR_mk, take_pad, take_pad2, pad_len, isU8_7, isU8_8, beq_self_eq_true, br_tt, decide_true, isB_pad, and_true, true_and]
    omega
end Go.Proofs.Ytkeiogmapogpnaa.s9
