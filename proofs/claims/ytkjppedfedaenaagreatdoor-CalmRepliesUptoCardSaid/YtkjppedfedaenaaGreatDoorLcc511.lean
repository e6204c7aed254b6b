/- A closed call: conn.Conn.Start. -/
import Derived.Test.YtkjppedfedaenaaGreatDoorSz9
import Derived.Test.YtkjppedfedaenaaGreatDoorRows
import Derived.Test.YtkjppedfedaenaaGreatDoorLcrP
import Derived.Test.YtkjppedfedaenaaGreatDoorLcrX
set_option maxRecDepth 20000
set_option linter.unusedSimpArgs false
set_option linter.unusedVariables false
namespace Go.Proofs.YtkjppedfedaenaaGreatDoor.cr
open Go Go.Ev Go.Sy Go.RowKit Go.Proofs.YtkjppedfedaenaaGreatDoor.ck
def a_cc511 : List Value := [.pointer (some ⟨0, 0, none⟩), .slice (some ⟨1, 0, none⟩) 5 3, .bool true]
def r_cc511 : List Row := [⟨[.bool false, .int .i64 3, .int .i64 65535, .int .i64 65536, .int .i64 4096, .int .i64 2147483647, .int .i64 65535, .int .i64 16384, .int .i64 2147483647, .slice (some ⟨2, 0, none⟩) 57 1, .pointer (some ⟨3, 0, none⟩), .pointer (some ⟨4, 0, none⟩), .pointer (some ⟨5, 0, none⟩), .int .i64 65535, .int .i64 65535, .slice none 0 0, .slice none 0 0, .int .i64 0, .int .i64 1, .bool false, .bool false, .bool false, .bool false, .bool false, .int .i64 0, .slice none 0 0, .bool false, .slice none 0 0], false, .cells false⟩,
  ⟨[.string ⟨#[58, 109, 101, 116, 104, 111, 100]⟩, .string ⟨#[71, 69, 84]⟩, .int .i64 1, .string ⟨#[58, 115, 99, 104, 101, 109, 101]⟩, .string ⟨#[104, 116, 116, 112, 115]⟩, .int .i64 1, .string ⟨#[58, 97, 117, 116, 104, 111, 114, 105, 116, 121]⟩, .string ⟨#[97]⟩, .int .i64 1, .string ⟨#[58, 112, 97, 116, 104]⟩, .string ⟨#[47]⟩, .int .i64 1, .string ⟨#[118, 105, 97]⟩, .string ⟨#[50, 32, 114, 101, 115, 101, 114, 118, 111, 105, 114]⟩, .int .i64 1], true, .cells true⟩,
  ⟨[.int .u8 80, .int .u8 82, .int .u8 73, .int .u8 32, .int .u8 42, .int .u8 32, .int .u8 72, .int .u8 84, .int .u8 84, .int .u8 80, .int .u8 47, .int .u8 50, .int .u8 46, .int .u8 48, .int .u8 13, .int .u8 10, .int .u8 13, .int .u8 10, .int .u8 83, .int .u8 77, .int .u8 13, .int .u8 10, .int .u8 13, .int .u8 10, .int .u8 0, .int .u8 0, .int .u8 24, .int .u8 4, .int .u8 0, .int .u8 0, .int .u8 0, .int .u8 0, .int .u8 0, .int .u8 0, .int .u8 2, .int .u8 0, .int .u8 0, .int .u8 0, .int .u8 0, .int .u8 0, .int .u8 3, .int .u8 0, .int .u8 0, .int .u8 0, .int .u8 3, .int .u8 0, .int .u8 4, .int .u8 0, .int .u8 0, .int .u8 255, .int .u8 255, .int .u8 0, .int .u8 6, .int .u8 0, .int .u8 1, .int .u8 0, .int .u8 0], false, .cells true⟩,
  ⟨[.slice none 0 0, .int .i64 16384, .string ⟨#[]⟩, .int .i64 0, .int .i64 0, .int .i64 0], false, .cells false⟩,
  ⟨[.pointer (some ⟨6, 0, none⟩), .int .i64 4096, .int .i64 65536, .bool false], false, .cells false⟩,
  ⟨[.pointer (some ⟨7, 0, none⟩), .bool false, .int .i64 0], false, .cells false⟩,
  ⟨[.slice none 0 0, .int .i64 0, .int .i64 4096], false, .cells false⟩,
  ⟨[.slice none 0 0, .int .i64 0, .int .i64 4096], false, .cells false⟩]
def v_cc511 : Value := .tuple ⟨[.int .i64 1, .bool true]⟩
def l_cc511 : List (Nat × Row) := [(0, ⟨[.bool false, .int .i64 3, .int .i64 65535, .int .i64 65536, .int .i64 4096, .int .i64 2147483647, .int .i64 65535, .int .i64 16384, .int .i64 2147483647, .slice (some ⟨8, 0, none⟩) 82 1, .pointer (some ⟨3, 0, none⟩), .pointer (some ⟨4, 0, none⟩), .pointer (some ⟨5, 0, none⟩), .int .i64 65535, .int .i64 65535, .slice (some ⟨9, 0, none⟩) 1 1, .slice none 0 0, .int .i64 0, .int .i64 3, .bool false, .bool false, .bool false, .bool false, .bool false, .int .i64 0, .slice none 0 0, .bool false, .slice none 0 0], false, .cells false⟩),
  (3, ⟨[.slice none 0 0, .int .i64 16384, .string ⟨#[]⟩, .int .i64 0, .int .i64 0, .int .i64 0], false, .cells false⟩),
  (4, ⟨[.pointer (some ⟨6, 0, none⟩), .int .i64 4096, .int .i64 65536, .bool false], false, .cells false⟩),
  (5, ⟨[.pointer (some ⟨7, 0, none⟩), .bool false, .int .i64 0], false, .cells false⟩),
  (6, ⟨[.slice none 0 0, .int .i64 0, .int .i64 4096], false, .cells false⟩),
  (7, ⟨[.slice (some ⟨10, 0, none⟩) 2 2, .int .i64 89, .int .i64 4096], false, .cells false⟩),
  (8, ⟨[.int .u8 80, .int .u8 82, .int .u8 73, .int .u8 32, .int .u8 42, .int .u8 32, .int .u8 72, .int .u8 84, .int .u8 84, .int .u8 80, .int .u8 47, .int .u8 50, .int .u8 46, .int .u8 48, .int .u8 13, .int .u8 10, .int .u8 13, .int .u8 10, .int .u8 83, .int .u8 77, .int .u8 13, .int .u8 10, .int .u8 13, .int .u8 10, .int .u8 0, .int .u8 0, .int .u8 24, .int .u8 4, .int .u8 0, .int .u8 0, .int .u8 0, .int .u8 0, .int .u8 0, .int .u8 0, .int .u8 2, .int .u8 0, .int .u8 0, .int .u8 0, .int .u8 0, .int .u8 0, .int .u8 3, .int .u8 0, .int .u8 0, .int .u8 0, .int .u8 3, .int .u8 0, .int .u8 4, .int .u8 0, .int .u8 0, .int .u8 255, .int .u8 255, .int .u8 0, .int .u8 6, .int .u8 0, .int .u8 1, .int .u8 0, .int .u8 0, .int .u8 0, .int .u8 0, .int .u8 16, .int .u8 1, .int .u8 5, .int .u8 0, .int .u8 0, .int .u8 0, .int .u8 1, .int .u8 130, .int .u8 135, .int .u8 65, .int .u8 1, .int .u8 97, .int .u8 132, .int .u8 124, .int .u8 136, .int .u8 18, .int .u8 150, .int .u8 21, .int .u8 5, .int .u8 179, .int .u8 185, .int .u8 205, .int .u8 103], false, .cells true⟩),
  (9, ⟨[.pointer (some ⟨11, 0, none⟩)], false, .cells false⟩),
  (10, ⟨[.string ⟨#[118, 105, 97]⟩, .string ⟨#[50, 32, 114, 101, 115, 101, 114, 118, 111, 105, 114]⟩, .string ⟨#[58, 97, 117, 116, 104, 111, 114, 105, 116, 121]⟩, .string ⟨#[97]⟩], false, .cells false⟩),
  (11, ⟨[.int .i64 1, .int .i64 2, .int .i64 65535, .int .i64 65535, .bool false, .bool true], false, .cells false⟩)]
def e_cc511 : CEnt := ⟨71, a_cc511, r_cc511, v_cc511, 12, l_cc511⟩
theorem cc511_vc (u : Unit) : mcall EPr noM 5000 71 a_cc511 ⟨mkR (nums 0 r_cc511), r_cc511.length⟩ (retB r_cc511.length v_cc511 12 l_cc511) = True := by kernel_rfl
theorem cc511_ok : CEnt.Ok Tryz.prog e_cc511 := Go.Proofs.YtkjppedfedaenaaGreatDoor.ck.conB (E := EPr) (n := 5000) (by kernel_rfl) EPr_calls EPr_l (cc511_vc ()) trivial rfl
end Go.Proofs.YtkjppedfedaenaaGreatDoor.cr
