/- A closed call: conn.Conn.Feed. -/
import Derived.Test.YtkjppedfedaenaaGreatDoorSz9
import Derived.Test.YtkjppedfedaenaaGreatDoorRows
import Derived.Test.YtkjppedfedaenaaGreatDoorLcrP
import Derived.Test.YtkjppedfedaenaaGreatDoorLcrX
set_option maxRecDepth 20000
set_option linter.unusedSimpArgs false
set_option linter.unusedVariables false
namespace Go.Proofs.YtkjppedfedaenaaGreatDoor.cr
open Go Go.Ev Go.Sy Go.RowKit Go.Proofs.YtkjppedfedaenaaGreatDoor.ck
def a_cc279 : List Value := [.pointer (some ⟨0, 0, none⟩), .slice (some ⟨1, 0, none⟩) 72 1]
def r_cc279 : List Row := [⟨[.bool true, .int .i64 3, .int .i64 65535, .int .i64 65536, .int .i64 4096, .int .i64 2147483647, .int .i64 65535, .int .i64 16384, .int .i64 2147483647, .slice (some ⟨2, 0, none⟩) 27 1, .pointer (some ⟨3, 0, none⟩), .pointer (some ⟨4, 0, none⟩), .pointer (some ⟨5, 0, none⟩), .int .i64 65535, .int .i64 65535, .slice none 0 0, .slice none 0 0, .int .i64 0, .int .i64 1, .bool false, .bool false, .bool false, .bool false, .bool false, .int .i64 0, .slice none 0 0, .bool false, .slice none 0 0], false, .cells false⟩,
  ⟨[.int .u8 80, .int .u8 82, .int .u8 73, .int .u8 32, .int .u8 42, .int .u8 32, .int .u8 72, .int .u8 84, .int .u8 84, .int .u8 80, .int .u8 47, .int .u8 50, .int .u8 46, .int .u8 48, .int .u8 13, .int .u8 10, .int .u8 13, .int .u8 10, .int .u8 83, .int .u8 77, .int .u8 13, .int .u8 10, .int .u8 13, .int .u8 10, .int .u8 0, .int .u8 0, .int .u8 24, .int .u8 4, .int .u8 0, .int .u8 0, .int .u8 0, .int .u8 0, .int .u8 0, .int .u8 0, .int .u8 2, .int .u8 0, .int .u8 0, .int .u8 0, .int .u8 0, .int .u8 0, .int .u8 3, .int .u8 0, .int .u8 0, .int .u8 0, .int .u8 3, .int .u8 0, .int .u8 4, .int .u8 0, .int .u8 0, .int .u8 255, .int .u8 255, .int .u8 0, .int .u8 6, .int .u8 0, .int .u8 1, .int .u8 0, .int .u8 0, .int .u8 0, .int .u8 0, .int .u8 6, .int .u8 1, .int .u8 5, .int .u8 0, .int .u8 0, .int .u8 0, .int .u8 1, .int .u8 130, .int .u8 135, .int .u8 65, .int .u8 1, .int .u8 97, .int .u8 132], true, .cells true⟩,
  ⟨[.int .u8 0, .int .u8 0, .int .u8 18, .int .u8 4, .int .u8 0, .int .u8 0, .int .u8 0, .int .u8 0, .int .u8 0, .int .u8 0, .int .u8 3, .int .u8 0, .int .u8 0, .int .u8 0, .int .u8 3, .int .u8 0, .int .u8 4, .int .u8 0, .int .u8 0, .int .u8 255, .int .u8 255, .int .u8 0, .int .u8 6, .int .u8 0, .int .u8 1, .int .u8 0, .int .u8 0], false, .cells true⟩,
  ⟨[.slice none 0 0, .int .i64 16384, .string ⟨#[80, 82, 73, 32, 42, 32, 72, 84, 84, 80, 47, 50, 46, 48, 13, 10, 13, 10, 83, 77, 13, 10, 13, 10]⟩, .int .i64 0, .int .i64 0, .int .i64 0], false, .cells false⟩,
  ⟨[.pointer (some ⟨6, 0, none⟩), .int .i64 4096, .int .i64 65536, .bool false], false, .cells false⟩,
  ⟨[.pointer (some ⟨7, 0, none⟩), .bool false, .int .i64 0], false, .cells false⟩,
  ⟨[.slice none 0 0, .int .i64 0, .int .i64 4096], false, .cells false⟩,
  ⟨[.slice none 0 0, .int .i64 0, .int .i64 4096], false, .cells false⟩]
def v_cc279 : Value := .slice (some ⟨8, 0, none⟩) 1 6
def l_cc279 : List (Nat × Row) := [(0, ⟨[.bool true, .int .i64 3, .int .i64 65535, .int .i64 65536, .int .i64 4096, .int .i64 3, .int .i64 65535, .int .i64 16384, .int .i64 65536, .slice (some ⟨9, 0, none⟩) 36 1, .pointer (some ⟨3, 0, none⟩), .pointer (some ⟨4, 0, none⟩), .pointer (some ⟨5, 0, none⟩), .int .i64 65535, .int .i64 65535, .slice (some ⟨10, 0, none⟩) 1 1, .slice none 0 0, .int .i64 1, .int .i64 1, .bool true, .bool false, .bool false, .bool false, .bool false, .int .i64 0, .slice none 0 0, .bool false, .slice none 0 0], false, .cells false⟩),
  (3, ⟨[.slice (some ⟨11, 48, none⟩) 0 1, .int .i64 16384, .string ⟨#[]⟩, .int .i64 0, .int .i64 0, .int .i64 0], false, .cells false⟩),
  (4, ⟨[.pointer (some ⟨6, 0, none⟩), .int .i64 4096, .int .i64 65536, .bool false], false, .cells false⟩),
  (5, ⟨[.pointer (some ⟨7, 0, none⟩), .bool false, .int .i64 0], false, .cells false⟩),
  (6, ⟨[.slice (some ⟨12, 0, none⟩) 1 2, .int .i64 43, .int .i64 4096], false, .cells false⟩),
  (7, ⟨[.slice none 0 0, .int .i64 0, .int .i64 4096], false, .cells false⟩),
  (8, ⟨[.int .i64 1, .int .i64 1, .slice (some ⟨13, 0, none⟩) 4 2, .string ⟨#[]⟩, .bool true, .int .i64 0], false, .cells false⟩),
  (9, ⟨[.int .u8 0, .int .u8 0, .int .u8 18, .int .u8 4, .int .u8 0, .int .u8 0, .int .u8 0, .int .u8 0, .int .u8 0, .int .u8 0, .int .u8 3, .int .u8 0, .int .u8 0, .int .u8 0, .int .u8 3, .int .u8 0, .int .u8 4, .int .u8 0, .int .u8 0, .int .u8 255, .int .u8 255, .int .u8 0, .int .u8 6, .int .u8 0, .int .u8 1, .int .u8 0, .int .u8 0, .int .u8 0, .int .u8 0, .int .u8 0, .int .u8 4, .int .u8 1, .int .u8 0, .int .u8 0, .int .u8 0, .int .u8 0], false, .cells true⟩),
  (10, ⟨[.pointer (some ⟨14, 0, none⟩)], false, .cells false⟩),
  (11, ⟨[.int .u8 0, .int .u8 0, .int .u8 24, .int .u8 4, .int .u8 0, .int .u8 0, .int .u8 0, .int .u8 0, .int .u8 0, .int .u8 0, .int .u8 2, .int .u8 0, .int .u8 0, .int .u8 0, .int .u8 0, .int .u8 0, .int .u8 3, .int .u8 0, .int .u8 0, .int .u8 0, .int .u8 3, .int .u8 0, .int .u8 4, .int .u8 0, .int .u8 0, .int .u8 255, .int .u8 255, .int .u8 0, .int .u8 6, .int .u8 0, .int .u8 1, .int .u8 0, .int .u8 0, .int .u8 0, .int .u8 0, .int .u8 6, .int .u8 1, .int .u8 5, .int .u8 0, .int .u8 0, .int .u8 0, .int .u8 1, .int .u8 130, .int .u8 135, .int .u8 65, .int .u8 1, .int .u8 97, .int .u8 132], false, .cells true⟩),
  (12, ⟨[.string ⟨#[58, 97, 117, 116, 104, 111, 114, 105, 116, 121]⟩, .string ⟨#[97]⟩], false, .cells false⟩),
  (13, ⟨[.string ⟨#[58, 109, 101, 116, 104, 111, 100]⟩, .string ⟨#[71, 69, 84]⟩, .string ⟨#[58, 115, 99, 104, 101, 109, 101]⟩, .string ⟨#[104, 116, 116, 112, 115]⟩, .string ⟨#[58, 97, 117, 116, 104, 111, 114, 105, 116, 121]⟩, .string ⟨#[97]⟩, .string ⟨#[58, 112, 97, 116, 104]⟩, .string ⟨#[47]⟩], false, .cells false⟩),
  (14, ⟨[.int .i64 1, .int .i64 3, .int .i64 65535, .int .i64 65535, .bool true, .bool false], false, .cells false⟩)]
def e_cc279 : CEnt := ⟨76, a_cc279, r_cc279, v_cc279, 15, l_cc279⟩
theorem cc279_vc (u : Unit) : mcall EPr noM 5000 76 a_cc279 ⟨mkR (nums 0 r_cc279), r_cc279.length⟩ (retB r_cc279.length v_cc279 15 l_cc279) = True := by kernel_rfl
theorem cc279_ok : CEnt.Ok Tryz.prog e_cc279 := Go.Proofs.YtkjppedfedaenaaGreatDoor.ck.conB (E := EPr) (n := 5000) (by kernel_rfl) EPr_calls EPr_l (cc279_vc ()) trivial rfl
end Go.Proofs.YtkjppedfedaenaaGreatDoor.cr
