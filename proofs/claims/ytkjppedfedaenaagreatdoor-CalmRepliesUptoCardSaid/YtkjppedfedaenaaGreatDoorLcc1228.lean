/- A closed call: conn.Conn.Feed. -/
import Derived.Test.YtkjppedfedaenaaGreatDoorSz9
import Derived.Test.YtkjppedfedaenaaGreatDoorRows
import Derived.Test.YtkjppedfedaenaaGreatDoorLcrP
import Derived.Test.YtkjppedfedaenaaGreatDoorLcrX
set_option maxRecDepth 20000
set_option linter.unusedSimpArgs false
set_option linter.unusedVariables false
namespace Go.Proofs.YtkjppedfedaenaaGreatDoor.cr
open Go Go.Ev Go.Sy Go.RowKit Go.Proofs.YtkjppedfedaenaaGreatDoor.ck
def a_cc1228 : List Value := [.pointer (some ⟨0, 0, none⟩), .slice (some ⟨1, 0, none⟩) 57 1]
def r_cc1228 : List Row := [⟨[.bool false, .int .i64 3, .int .i64 65535, .int .i64 65536, .int .i64 4096, .int .i64 2147483647, .int .i64 65535, .int .i64 16384, .int .i64 2147483647, .slice (some ⟨2, 82, none⟩) 0 1, .pointer (some ⟨3, 0, none⟩), .pointer (some ⟨4, 0, none⟩), .pointer (some ⟨5, 0, none⟩), .int .i64 65535, .int .i64 65535, .slice (some ⟨6, 0, none⟩) 1 1, .slice none 0 0, .int .i64 0, .int .i64 3, .bool false, .bool false, .bool false, .bool false, .bool false, .int .i64 0, .slice none 0 0, .bool false, .slice none 0 0], false, .cells false⟩,
  ⟨[.int .u8 0, .int .u8 0, .int .u8 18, .int .u8 4, .int .u8 0, .int .u8 0, .int .u8 0, .int .u8 0, .int .u8 0, .int .u8 0, .int .u8 3, .int .u8 0, .int .u8 0, .int .u8 0, .int .u8 3, .int .u8 0, .int .u8 4, .int .u8 0, .int .u8 0, .int .u8 255, .int .u8 255, .int .u8 0, .int .u8 6, .int .u8 0, .int .u8 1, .int .u8 0, .int .u8 0, .int .u8 0, .int .u8 0, .int .u8 0, .int .u8 4, .int .u8 1, .int .u8 0, .int .u8 0, .int .u8 0, .int .u8 0, .int .u8 0, .int .u8 0, .int .u8 1, .int .u8 1, .int .u8 4, .int .u8 0, .int .u8 0, .int .u8 0, .int .u8 1, .int .u8 136, .int .u8 0, .int .u8 0, .int .u8 2, .int .u8 0, .int .u8 1, .int .u8 0, .int .u8 0, .int .u8 0, .int .u8 1, .int .u8 104, .int .u8 105], true, .cells true⟩,
  ⟨[.int .u8 80, .int .u8 82, .int .u8 73, .int .u8 32, .int .u8 42, .int .u8 32, .int .u8 72, .int .u8 84, .int .u8 84, .int .u8 80, .int .u8 47, .int .u8 50, .int .u8 46, .int .u8 48, .int .u8 13, .int .u8 10, .int .u8 13, .int .u8 10, .int .u8 83, .int .u8 77, .int .u8 13, .int .u8 10, .int .u8 13, .int .u8 10, .int .u8 0, .int .u8 0, .int .u8 24, .int .u8 4, .int .u8 0, .int .u8 0, .int .u8 0, .int .u8 0, .int .u8 0, .int .u8 0, .int .u8 2, .int .u8 0, .int .u8 0, .int .u8 0, .int .u8 0, .int .u8 0, .int .u8 3, .int .u8 0, .int .u8 0, .int .u8 0, .int .u8 3, .int .u8 0, .int .u8 4, .int .u8 0, .int .u8 0, .int .u8 255, .int .u8 255, .int .u8 0, .int .u8 6, .int .u8 0, .int .u8 1, .int .u8 0, .int .u8 0, .int .u8 0, .int .u8 0, .int .u8 16, .int .u8 1, .int .u8 5, .int .u8 0, .int .u8 0, .int .u8 0, .int .u8 1, .int .u8 130, .int .u8 135, .int .u8 65, .int .u8 1, .int .u8 97, .int .u8 132, .int .u8 124, .int .u8 136, .int .u8 18, .int .u8 150, .int .u8 21, .int .u8 5, .int .u8 179, .int .u8 185, .int .u8 205, .int .u8 103], false, .cells true⟩,
  ⟨[.slice none 0 0, .int .i64 16384, .string ⟨#[]⟩, .int .i64 0, .int .i64 0, .int .i64 0], false, .cells false⟩,
  ⟨[.pointer (some ⟨7, 0, none⟩), .int .i64 4096, .int .i64 65536, .bool false], false, .cells false⟩,
  ⟨[.pointer (some ⟨8, 0, none⟩), .bool false, .int .i64 0], false, .cells false⟩,
  ⟨[.pointer (some ⟨9, 0, none⟩)], false, .cells false⟩,
  ⟨[.slice none 0 0, .int .i64 0, .int .i64 4096], false, .cells false⟩,
  ⟨[.slice (some ⟨10, 0, none⟩) 2 2, .int .i64 89, .int .i64 4096], false, .cells false⟩,
  ⟨[.int .i64 1, .int .i64 2, .int .i64 65535, .int .i64 65535, .bool false, .bool true], false, .cells false⟩,
  ⟨[.string ⟨#[118, 105, 97]⟩, .string ⟨#[50, 32, 114, 101, 115, 101, 114, 118, 111, 105, 114]⟩, .string ⟨#[58, 97, 117, 116, 104, 111, 114, 105, 116, 121]⟩, .string ⟨#[97]⟩], false, .cells false⟩]
def v_cc1228 : Value := .slice (some ⟨11, 0, none⟩) 2 6
def l_cc1228 : List (Nat × Row) := [(0, ⟨[.bool false, .int .i64 3, .int .i64 65535, .int .i64 65536, .int .i64 4096, .int .i64 3, .int .i64 65535, .int .i64 16384, .int .i64 65536, .slice (some ⟨12, 0, none⟩) 9 1, .pointer (some ⟨3, 0, none⟩), .pointer (some ⟨4, 0, none⟩), .pointer (some ⟨5, 0, none⟩), .int .i64 65535, .int .i64 65533, .slice none 0 0, .slice none 0 0, .int .i64 0, .int .i64 3, .bool true, .bool false, .bool false, .bool false, .bool false, .int .i64 0, .slice none 0 0, .bool false, .slice none 0 0], false, .cells false⟩),
  (3, ⟨[.slice (some ⟨13, 57, none⟩) 0 1, .int .i64 16384, .string ⟨#[]⟩, .int .i64 0, .int .i64 0, .int .i64 0], false, .cells false⟩),
  (4, ⟨[.pointer (some ⟨7, 0, none⟩), .int .i64 4096, .int .i64 65536, .bool false], false, .cells false⟩),
  (5, ⟨[.pointer (some ⟨8, 0, none⟩), .bool false, .int .i64 0], false, .cells false⟩),
  (6, ⟨[.pointer (some ⟨9, 0, none⟩)], false, .cells false⟩),
  (7, ⟨[.slice none 0 0, .int .i64 0, .int .i64 4096], false, .cells false⟩),
  (8, ⟨[.slice (some ⟨10, 0, none⟩) 2 2, .int .i64 89, .int .i64 4096], false, .cells false⟩),
  (9, ⟨[.int .i64 1, .int .i64 4, .int .i64 65535, .int .i64 65533, .bool true, .bool true], false, .cells false⟩),
  (10, ⟨[.string ⟨#[118, 105, 97]⟩, .string ⟨#[50, 32, 114, 101, 115, 101, 114, 118, 111, 105, 114]⟩, .string ⟨#[58, 97, 117, 116, 104, 111, 114, 105, 116, 121]⟩, .string ⟨#[97]⟩], false, .cells false⟩),
  (11, ⟨[.int .i64 1, .int .i64 1, .slice (some ⟨14, 0, none⟩) 1 2, .string ⟨#[]⟩, .bool false, .int .i64 0, .int .i64 3, .int .i64 1, .slice none 0 0, .string ⟨#[104, 105]⟩, .bool true, .int .i64 0], false, .cells false⟩),
  (12, ⟨[.int .u8 0, .int .u8 0, .int .u8 0, .int .u8 4, .int .u8 1, .int .u8 0, .int .u8 0, .int .u8 0, .int .u8 0], false, .cells true⟩),
  (13, ⟨[.int .u8 0, .int .u8 0, .int .u8 18, .int .u8 4, .int .u8 0, .int .u8 0, .int .u8 0, .int .u8 0, .int .u8 0, .int .u8 0, .int .u8 3, .int .u8 0, .int .u8 0, .int .u8 0, .int .u8 3, .int .u8 0, .int .u8 4, .int .u8 0, .int .u8 0, .int .u8 255, .int .u8 255, .int .u8 0, .int .u8 6, .int .u8 0, .int .u8 1, .int .u8 0, .int .u8 0, .int .u8 0, .int .u8 0, .int .u8 0, .int .u8 4, .int .u8 1, .int .u8 0, .int .u8 0, .int .u8 0, .int .u8 0, .int .u8 0, .int .u8 0, .int .u8 1, .int .u8 1, .int .u8 4, .int .u8 0, .int .u8 0, .int .u8 0, .int .u8 1, .int .u8 136, .int .u8 0, .int .u8 0, .int .u8 2, .int .u8 0, .int .u8 1, .int .u8 0, .int .u8 0, .int .u8 0, .int .u8 1, .int .u8 104, .int .u8 105], false, .cells true⟩),
  (14, ⟨[.string ⟨#[58, 115, 116, 97, 116, 117, 115]⟩, .string ⟨#[50, 48, 48]⟩], false, .cells false⟩)]
def e_cc1228 : CEnt := ⟨76, a_cc1228, r_cc1228, v_cc1228, 15, l_cc1228⟩
theorem cc1228_vc (u : Unit) : mcall EPr noM 5000 76 a_cc1228 ⟨mkR (nums 0 r_cc1228), r_cc1228.length⟩ (retB r_cc1228.length v_cc1228 15 l_cc1228) = True := by kernel_rfl
theorem cc1228_ok : CEnt.Ok Tryz.prog e_cc1228 := Go.Proofs.YtkjppedfedaenaaGreatDoor.ck.conB (E := EPr) (n := 5000) (by kernel_rfl) EPr_calls EPr_l (cc1228_vc ()) trivial rfl
end Go.Proofs.YtkjppedfedaenaaGreatDoor.cr
