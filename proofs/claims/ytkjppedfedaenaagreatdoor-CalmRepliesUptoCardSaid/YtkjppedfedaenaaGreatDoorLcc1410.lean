/- A closed call: conn.Conn.Head. -/
import Derived.Test.YtkjppedfedaenaaGreatDoorSz9
import Derived.Test.YtkjppedfedaenaaGreatDoorRows
import Derived.Test.YtkjppedfedaenaaGreatDoorLcrP
import Derived.Test.YtkjppedfedaenaaGreatDoorLcrX
set_option maxRecDepth 20000
set_option linter.unusedSimpArgs false
set_option linter.unusedVariables false
namespace Go.Proofs.YtkjppedfedaenaaGreatDoor.cr
open Go Go.Ev Go.Sy Go.RowKit Go.Proofs.YtkjppedfedaenaaGreatDoor.ck
def a_cc1410 : List Value := [.pointer (some ⟨0, 0, none⟩), .int .i64 1, .slice (some ⟨1, 0, none⟩) 2 3, .bool false]
def r_cc1410 : List Row := [⟨[.bool true, .int .i64 3, .int .i64 65535, .int .i64 65536, .int .i64 4096, .int .i64 3, .int .i64 65535, .int .i64 16384, .int .i64 65536, .slice (some ⟨2, 0, none⟩) 36 1, .pointer (some ⟨3, 0, none⟩), .pointer (some ⟨4, 0, none⟩), .pointer (some ⟨5, 0, none⟩), .int .i64 65535, .int .i64 65535, .slice (some ⟨6, 0, none⟩) 1 1, .slice none 0 0, .int .i64 1, .int .i64 1, .bool true, .bool false, .bool false, .bool false, .bool false, .int .i64 0, .slice none 0 0, .bool false, .slice none 0 0], false, .cells false⟩,
  ⟨[.string ⟨#[58, 115, 116, 97, 116, 117, 115]⟩, .string ⟨#[50, 48, 48]⟩, .int .i64 1, .string ⟨#[118, 105, 97]⟩, .string ⟨#[50, 32, 114, 101, 115, 101, 114, 118, 111, 105, 114]⟩, .int .i64 1], true, .cells true⟩,
  ⟨[.int .u8 0, .int .u8 0, .int .u8 18, .int .u8 4, .int .u8 0, .int .u8 0, .int .u8 0, .int .u8 0, .int .u8 0, .int .u8 0, .int .u8 3, .int .u8 0, .int .u8 0, .int .u8 0, .int .u8 3, .int .u8 0, .int .u8 4, .int .u8 0, .int .u8 0, .int .u8 255, .int .u8 255, .int .u8 0, .int .u8 6, .int .u8 0, .int .u8 1, .int .u8 0, .int .u8 0, .int .u8 0, .int .u8 0, .int .u8 0, .int .u8 4, .int .u8 1, .int .u8 0, .int .u8 0, .int .u8 0, .int .u8 0], false, .cells true⟩,
  ⟨[.slice (some ⟨7, 48, none⟩) 0 1, .int .i64 16384, .string ⟨#[]⟩, .int .i64 0, .int .i64 0, .int .i64 0], false, .cells false⟩,
  ⟨[.pointer (some ⟨8, 0, none⟩), .int .i64 4096, .int .i64 65536, .bool false], false, .cells false⟩,
  ⟨[.pointer (some ⟨9, 0, none⟩), .bool false, .int .i64 0], false, .cells false⟩,
  ⟨[.pointer (some ⟨10, 0, none⟩)], false, .cells false⟩,
  ⟨[.int .u8 0, .int .u8 0, .int .u8 24, .int .u8 4, .int .u8 0, .int .u8 0, .int .u8 0, .int .u8 0, .int .u8 0, .int .u8 0, .int .u8 2, .int .u8 0, .int .u8 0, .int .u8 0, .int .u8 0, .int .u8 0, .int .u8 3, .int .u8 0, .int .u8 0, .int .u8 0, .int .u8 3, .int .u8 0, .int .u8 4, .int .u8 0, .int .u8 0, .int .u8 255, .int .u8 255, .int .u8 0, .int .u8 6, .int .u8 0, .int .u8 1, .int .u8 0, .int .u8 0, .int .u8 0, .int .u8 0, .int .u8 6, .int .u8 1, .int .u8 5, .int .u8 0, .int .u8 0, .int .u8 0, .int .u8 1, .int .u8 130, .int .u8 135, .int .u8 65, .int .u8 1, .int .u8 97, .int .u8 132], false, .cells true⟩,
  ⟨[.slice (some ⟨11, 0, none⟩) 1 2, .int .i64 43, .int .i64 4096], false, .cells false⟩,
  ⟨[.slice none 0 0, .int .i64 0, .int .i64 4096], false, .cells false⟩,
  ⟨[.int .i64 1, .int .i64 3, .int .i64 65535, .int .i64 65535, .bool true, .bool false], false, .cells false⟩,
  ⟨[.string ⟨#[58, 97, 117, 116, 104, 111, 114, 105, 116, 121]⟩, .string ⟨#[97]⟩], false, .cells false⟩]
def v_cc1410 : Value := .bool true
def l_cc1410 : List (Nat × Row) := [(0, ⟨[.bool true, .int .i64 3, .int .i64 65535, .int .i64 65536, .int .i64 4096, .int .i64 3, .int .i64 65535, .int .i64 16384, .int .i64 65536, .slice (some ⟨12, 0, none⟩) 56 1, .pointer (some ⟨3, 0, none⟩), .pointer (some ⟨4, 0, none⟩), .pointer (some ⟨5, 0, none⟩), .int .i64 65535, .int .i64 65535, .slice (some ⟨6, 0, none⟩) 1 1, .slice none 0 0, .int .i64 1, .int .i64 1, .bool true, .bool false, .bool false, .bool false, .bool false, .int .i64 0, .slice none 0 0, .bool false, .slice none 0 0], false, .cells false⟩),
  (3, ⟨[.slice (some ⟨7, 48, none⟩) 0 1, .int .i64 16384, .string ⟨#[]⟩, .int .i64 0, .int .i64 0, .int .i64 0], false, .cells false⟩),
  (4, ⟨[.pointer (some ⟨8, 0, none⟩), .int .i64 4096, .int .i64 65536, .bool false], false, .cells false⟩),
  (5, ⟨[.pointer (some ⟨9, 0, none⟩), .bool false, .int .i64 0], false, .cells false⟩),
  (6, ⟨[.pointer (some ⟨10, 0, none⟩)], false, .cells false⟩),
  (7, ⟨[.int .u8 0, .int .u8 0, .int .u8 24, .int .u8 4, .int .u8 0, .int .u8 0, .int .u8 0, .int .u8 0, .int .u8 0, .int .u8 0, .int .u8 2, .int .u8 0, .int .u8 0, .int .u8 0, .int .u8 0, .int .u8 0, .int .u8 3, .int .u8 0, .int .u8 0, .int .u8 0, .int .u8 3, .int .u8 0, .int .u8 4, .int .u8 0, .int .u8 0, .int .u8 255, .int .u8 255, .int .u8 0, .int .u8 6, .int .u8 0, .int .u8 1, .int .u8 0, .int .u8 0, .int .u8 0, .int .u8 0, .int .u8 6, .int .u8 1, .int .u8 5, .int .u8 0, .int .u8 0, .int .u8 0, .int .u8 1, .int .u8 130, .int .u8 135, .int .u8 65, .int .u8 1, .int .u8 97, .int .u8 132], false, .cells true⟩),
  (8, ⟨[.slice (some ⟨11, 0, none⟩) 1 2, .int .i64 43, .int .i64 4096], false, .cells false⟩),
  (9, ⟨[.slice (some ⟨13, 0, none⟩) 1 2, .int .i64 46, .int .i64 4096], false, .cells false⟩),
  (10, ⟨[.int .i64 1, .int .i64 3, .int .i64 65535, .int .i64 65535, .bool true, .bool true], false, .cells false⟩),
  (11, ⟨[.string ⟨#[58, 97, 117, 116, 104, 111, 114, 105, 116, 121]⟩, .string ⟨#[97]⟩], false, .cells false⟩),
  (12, ⟨[.int .u8 0, .int .u8 0, .int .u8 18, .int .u8 4, .int .u8 0, .int .u8 0, .int .u8 0, .int .u8 0, .int .u8 0, .int .u8 0, .int .u8 3, .int .u8 0, .int .u8 0, .int .u8 0, .int .u8 3, .int .u8 0, .int .u8 4, .int .u8 0, .int .u8 0, .int .u8 255, .int .u8 255, .int .u8 0, .int .u8 6, .int .u8 0, .int .u8 1, .int .u8 0, .int .u8 0, .int .u8 0, .int .u8 0, .int .u8 0, .int .u8 4, .int .u8 1, .int .u8 0, .int .u8 0, .int .u8 0, .int .u8 0, .int .u8 0, .int .u8 0, .int .u8 11, .int .u8 1, .int .u8 4, .int .u8 0, .int .u8 0, .int .u8 0, .int .u8 1, .int .u8 136, .int .u8 124, .int .u8 136, .int .u8 18, .int .u8 150, .int .u8 21, .int .u8 5, .int .u8 179, .int .u8 185, .int .u8 205, .int .u8 103], false, .cells true⟩),
  (13, ⟨[.string ⟨#[118, 105, 97]⟩, .string ⟨#[50, 32, 114, 101, 115, 101, 114, 118, 111, 105, 114]⟩], false, .cells false⟩)]
def e_cc1410 : CEnt := ⟨81, a_cc1410, r_cc1410, v_cc1410, 14, l_cc1410⟩
theorem cc1410_vc (u : Unit) : mcall EPr noM 5000 81 a_cc1410 ⟨mkR (nums 0 r_cc1410), r_cc1410.length⟩ (retB r_cc1410.length v_cc1410 14 l_cc1410) = True := by kernel_rfl
theorem cc1410_ok : CEnt.Ok Tryz.prog e_cc1410 := Go.Proofs.YtkjppedfedaenaaGreatDoor.ck.conB (E := EPr) (n := 5000) (by kernel_rfl) EPr_calls EPr_l (cc1410_vc ()) trivial rfl
end Go.Proofs.YtkjppedfedaenaaGreatDoor.cr
