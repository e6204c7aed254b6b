/- ConnBack: its rounds, and the law. -/
import Derived.Test.YtcallecdjebojaaGreatSz9
import Derived.Test.YtcallecdjebojaaGreatRows
import Derived.Test.YtcallecdjebojaaGreatLcgB
set_option maxRecDepth 20000
set_option linter.unusedSimpArgs false
set_option linter.unusedVariables false
namespace Go.Proofs.YtcallecdjebojaaGreat.cg
open Go Go.Ev Go.Sy Go.RowKit Go.Proofs.YtcallecdjebojaaGreat.gl Go.Proofs.YtcallecdjebojaaGreat.tk Go.Proofs.YtcallecdjebojaaGreat.cp Go.Proofs.YtcallecdjebojaaGreat.s9 Go.Proofs.YtcallecdjebojaaGreat.fd Go.Proofs.YtcallecdjebojaaGreat.fe Go.Proofs.YtcallecdjebojaaGreat.cu
def InvB (s : BS) : Prop := s.i ≤ 20 ∧ okBS s
def meB (s : BS) : Nat := s.i
set_option maxHeartbeats 4000000 in
theorem B_round (g : UInt8 × Int) (s : BS) (Inv : BS → Prop) (m : BS → Nat) : mev EBk mY 400 9 (0 :: pB) false (codeOf Tryz.prog 9 (0 :: pB)) ⟨mkOv (slB g.1 s.i), 48, []⟩ none ⟨mkR (rlB s.q s.qk s.qn s.x s.k), 9⟩ (roundK 0 9 48 Inv m (fun s : BS => slB g.1 s.i) (fun s => rlB s.q s.qk s.qn s.x s.k) (wsB g) s) =
  (br (decide ((↑s.1 : Int) > (0 : Int))) (∃ g2 : GY, ((PreY g2) /\ (((↑(UInt8.toNat g2.1) : Int) = (↑(UInt8.toNat g.1) : Int)) /\ ((0 = 0) /\ (((↑g2.2 : Int) = (↑s.1 :
  Int)) /\ ((0 = 0) /\ ((true = true) /\ (((2 : Int) = (2 : Int)) /\ (((65535 : Int) = (65535 : Int)) /\ (((65536 : Int) = (65536 : Int)) /\ (((4096 : Int) = (4096 : Int))
  /\ (((2147483647 : Int) = (2147483647 : Int)) /\ (((65535 : Int) = (65535 : Int)) /\ (((16384 : Int) = (16384 : Int)) /\ (((2147483647 : Int) = (2147483647 : Int)) /\
  ((g2.4 = s.3) /\ ((g2.5 = s.4) /\ ((0 = 0) /\ ((0 = 0) /\ ((0 = 0) /\ (((65535 : Int) = (65535 : Int)) /\ (((65535 : Int) = (65535 : Int)) /\ ((0 = 0) /\ ((1 = 1) /\ (((1
  : Int) = (1 : Int)) /\ (((1 : Int) = (1 : Int)) /\ ((true = true) /\ ((false = false) /\ ((false = false) /\ ((false = false) /\ ((false = false) /\ (((0 : Int) = (0 :
  Int)) /\ ((false = false) /\ ((Eq (α := List Value) (bCells g2.3) (bCells s.2)) /\ ((Plain (bCells g2.3)) /\ ((g2.7 = s.6) /\ ((0 = 0) /\ (((16384 : Int) = (16384 : Int))
  /\ ((ByteArray.mk #[] = ByteArray.mk #[]) /\ (((0 : Int) = (0 : Int)) /\ (((0 : Int) = (0 : Int)) /\ (((0 : Int) = (0 : Int)) /\ ((Eq (α := List Value) (bCells g2.6)
  (bCells s.5)) /\ ((Plain (bCells g2.6)) /\ ((0 = 0) /\ (((4096 : Int) = (4096 : Int)) /\ (((65536 : Int) = (65536 : Int)) /\ ((false = false) /\ ((0 = 0) /\ ((false =
  false) /\ (((0 : Int) = (0 : Int)) /\ ((Eq (α := List Value) ([Value.int IntKind.i64 (1 : Int)]) ([Value.int IntKind.i64 (1 : Int)])) /\ ((Plain [Value.int IntKind.i64 (1
  : Int)]) /\ (((0 : Int) = (0 : Int)) /\ (((4096 : Int) = (4096 : Int)) /\ (((0 : Int) = (0 : Int)) /\ (((4096 : Int) = (4096 : Int)) /\ (((0 : Int) = (0 : Int)) /\ (((8 :
  Int) = (8 : Int)) /\ (((1 : Int) = (1 : Int)) /\ ((0 = 0) /\ ((g2.9 = 16001) /\ ((Eq (α := List Value) (bCells g2.8) (([Value.int IntKind.u8 (↑(UInt8.toNat g.1) : Int)] ++
  List.flatten (List.replicate 16000 [Value.int IntKind.u8 0])))) /\ ((Plain (bCells g2.8)) /\ (∀ (y : Unit), ((True) → (∃ j : BS, ((Inv j) /\ ((m j < m s) /\
  (((↑(UInt8.toNat g.1) : Int) = (↑(UInt8.toNat g2.1) : Int)) /\ ((0 = 0) /\ (((↑j.1 : Int) = IntKind.wrap IntKind.i64 ((↑g2.2 : Int) - (1 : Int))) /\ ((true = true) /\ (((2
  : Int) = (2 : Int)) /\ (((65535 : Int) = (65535 : Int)) /\ (((65536 : Int) = (65536 : Int)) /\ (((4096 : Int) = (4096 : Int)) /\ (((2147483647 : Int) = (2147483647 : Int))
  /\ (((65535 : Int) = (65535 : Int)) /\ (((16384 : Int) = (16384 : Int)) /\ (((2147483647 : Int) = (2147483647 : Int)) /\ ((j.3 = g2.5 + 13) /\ ((j.4 = 0) /\ ((0 = 0) /\
  ((0 = 0) /\ ((0 = 0) /\ (((65535 : Int) = (65535 : Int)) /\ (((65535 : Int) = (65535 : Int)) /\ ((0 = 0) /\ ((1 = 1) /\ (((1 : Int) = (1 : Int)) /\ (((1 : Int) = (1 :
  Int)) /\ ((true = true) /\ ((false = false) /\ ((false = false) /\ ((false = false) /\ ((false = false) /\ (((0 : Int) = (0 : Int)) /\ ((false = false) /\ ((Eq (α := List
  Value) (bCells j.2) (bCells (List.take g2.5 (List.drop g2.4 g2.3) ++ [0, 0, 4, 8, 0, 0, 0, 0, 0, by8 (ishr IntKind.i64 (↑g2.9 : Int) (24 : Int)), by8 (ishr IntKind.i64
  (↑g2.9 : Int) (16 : Int)), by8 (ishr IntKind.i64 (↑g2.9 : Int) (8 : Int)), by8 (↑g2.9 : Int)]))) /\ ((Plain (bCells j.2)) /\ ((j.6 = 9 + g2.9) /\ ((0 = 0) /\ (((16384 :
  Int) = (16384 : Int)) /\ ((ByteArray.mk #[] = ByteArray.mk #[]) /\ (((0 : Int) = (0 : Int)) /\ (((0 : Int) = (0 : Int)) /\ (((0 : Int) = (0 : Int)) /\ ((Eq (α := List
  Value) (bCells j.5) (Value.int IntKind.u8 (↑(UInt8.toNat (by8 (ishr IntKind.i64 (↑(List.length g2.8) : Int) (16 : Int)))) : Int) :: Value.int IntKind.u8 (↑(UInt8.toNat
  (by8 (ishr IntKind.i64 (↑(List.length g2.8) : Int) (8 : Int)))) : Int) :: Value.int IntKind.u8 (↑(UInt8.toNat (by8 (↑(List.length g2.8) : Int))) : Int) :: Value.int
  IntKind.u8 (0 : Int) :: Value.int IntKind.u8 (8 : Int) :: Value.int IntKind.u8 (0 : Int) :: Value.int IntKind.u8 (0 : Int) :: Value.int IntKind.u8 (0 : Int) :: Value.int
  IntKind.u8 (1 : Int) :: List.map bVal ([] ++ g2.8))) /\ ((Plain (bCells j.5)) /\ ((0 = 0) /\ (((4096 : Int) = (4096 : Int)) /\ (((65536 : Int) = (65536 : Int)) /\ ((false
  = false) /\ ((0 = 0) /\ ((false = false) /\ (((0 : Int) = (0 : Int)) /\ ((Eq (α := List Value) ([Value.int IntKind.i64 (1 : Int)]) ([Value.int IntKind.i64 (1 : Int)])) /\
  ((Plain [Value.int IntKind.i64 (1 : Int)]) /\ (((0 : Int) = (0 : Int)) /\ (((4096 : Int) = (4096 : Int)) /\ (((0 : Int) = (0 : Int)) /\ (((4096 : Int) = (4096 : Int)) /\
  True))))))))))))))))))))))))))))))))))))))))))))))))))))))))))))))))))))))))))))))))))))))))))))))))))))))))))))))))))))))))))) (∃ y : BS, ((okBS y) /\ ((0 = 0) /\ ((true
  = true) /\ (((2 : Int) = (2 : Int)) /\ (((65535 : Int) = (65535 : Int)) /\ (((65536 : Int) = (65536 : Int)) /\ (((4096 : Int) = (4096 : Int)) /\ (((2147483647 : Int) =
  (2147483647 : Int)) /\ (((65535 : Int) = (65535 : Int)) /\ (((16384 : Int) = (16384 : Int)) /\ (((2147483647 : Int) = (2147483647 : Int)) /\ ((y.3 = s.3) /\ ((y.4 = s.4)
  /\ ((0 = 0) /\ ((0 = 0) /\ ((0 = 0) /\ (((65535 : Int) = (65535 : Int)) /\ (((65535 : Int) = (65535 : Int)) /\ ((0 = 0) /\ ((1 = 1) /\ (((1 : Int) = (1 : Int)) /\ (((1 :
  Int) = (1 : Int)) /\ ((true = true) /\ ((false = false) /\ ((false = false) /\ ((false = false) /\ ((false = false) /\ (((0 : Int) = (0 : Int)) /\ ((false = false) /\ ((Eq
  (α := List Value) (bCells y.2) (bCells s.2)) /\ ((Plain (bCells y.2)) /\ ((y.6 = s.6) /\ ((0 = 0) /\ (((16384 : Int) = (16384 : Int)) /\ ((ByteArray.mk #[] = ByteArray.mk
  #[]) /\ (((0 : Int) = (0 : Int)) /\ (((0 : Int) = (0 : Int)) /\ (((0 : Int) = (0 : Int)) /\ ((Eq (α := List Value) (bCells y.5) (bCells s.5)) /\ ((Plain (bCells y.5)) /\
  ((0 = 0) /\ (((4096 : Int) = (4096 : Int)) /\ (((65536 : Int) = (65536 : Int)) /\ ((false = false) /\ ((0 = 0) /\ ((false = false) /\ (((0 : Int) = (0 : Int)) /\ ((Eq (α
  := List Value) ([Value.int IntKind.i64 (1 : Int)]) ([Value.int IntKind.i64 (1 : Int)])) /\ ((Plain [Value.int IntKind.i64 (1 : Int)]) /\ (((0 : Int) = (0 : Int)) /\
  (((4096 : Int) = (4096 : Int)) /\ (((0 : Int) = (0 : Int)) /\ (((4096 : Int) = (4096 : Int)) /\ True))))))))))))))))))))))))))))))))))))))))))))))))))))))) := by kernel_rfl
theorem rep_fl : ∀ k : Nat, bCells (List.replicate k 0) = (List.replicate k [Value.int .u8 0]).flatten
  | 0 => rfl
  | k + 1 => by
    rw [List.replicate_succ, List.replicate_succ, List.flatten_cons, ← rep_fl k]; rfl
theorem B_vc (o : Int) (b : UInt8) : mcall EBb mB 3000 9 [.int .i64 o, .int .u8 b.toNat] ⟨mkR (nums 0 []), 0⟩ (retIs 0 (.bool true) []) =
  (((((True /\ (True /\ (True /\ True))) /\ True) /\ (True /\ ((Plain [Value.int IntKind.u8 (0 : Int), Value.int IntKind.u8 (0 : Int), Value.int IntKind.u8 (18 : Int),
  Value.int IntKind.u8 (4 : Int), Value.int IntKind.u8 (0 : Int), Value.int IntKind.u8 (0 : Int), Value.int IntKind.u8 (0 : Int), Value.int IntKind.u8 (0 : Int), Value.int
  IntKind.u8 (0 : Int), Value.int IntKind.u8 (0 : Int), Value.int IntKind.u8 (3 : Int), Value.int IntKind.u8 (0 : Int), Value.int IntKind.u8 (0 : Int), Value.int IntKind.u8
  (0 : Int), Value.int IntKind.u8 (2 : Int), Value.int IntKind.u8 (0 : Int), Value.int IntKind.u8 (4 : Int), Value.int IntKind.u8 (0 : Int), Value.int IntKind.u8 (0 : Int),
  Value.int IntKind.u8 (255 : Int), Value.int IntKind.u8 (255 : Int), Value.int IntKind.u8 (0 : Int), Value.int IntKind.u8 (6 : Int), Value.int IntKind.u8 (0 : Int),
  Value.int IntKind.u8 (1 : Int), Value.int IntKind.u8 (0 : Int), Value.int IntKind.u8 (0 : Int), Value.int IntKind.u8 (0 : Int), Value.int IntKind.u8 (0 : Int), Value.int
  IntKind.u8 (0 : Int), Value.int IntKind.u8 (4 : Int), Value.int IntKind.u8 (1 : Int), Value.int IntKind.u8 (0 : Int), Value.int IntKind.u8 (0 : Int), Value.int IntKind.u8
  (0 : Int), Value.int IntKind.u8 (0 : Int)] /\ (Plain [Value.int IntKind.u8 (0 : Int), Value.int IntKind.u8 (0 : Int), Value.int IntKind.u8 (0 : Int), Value.int IntKind.u8
  (4 : Int), Value.int IntKind.u8 (0 : Int), Value.int IntKind.u8 (0 : Int), Value.int IntKind.u8 (0 : Int), Value.int IntKind.u8 (0 : Int), Value.int IntKind.u8 (0 : Int)]
  /\ True)) /\ ((2 : Int) = (2 : Int) /\ ((65535 : Int) = (65535 : Int) /\ (65536 : Int) = (65536 : Int))))))) /\ ((Eq (α := Option Value) (some (Value.int IntKind.u8 (0 :
  Int))) (some (Value.int IntKind.u8 (0 : Int)))) /\ ((Eq (α := Option Value) (some (Value.int IntKind.u8 (0 : Int))) (some (Value.int IntKind.u8 (0 : Int)))) /\ ((Eq (α :=
  Option Value) (some (Value.int IntKind.u8 (1 : Int))) (some (Value.int IntKind.u8 (1 : Int)))) /\ ((Eq (α := Option Value) (some (Value.int IntKind.u8 (0 : Int))) (some
  (Value.int IntKind.u8 (0 : Int)))) /\ ((Eq (α := Option Value) (some (Value.int IntKind.u8 (0 : Int))) (some (Value.int IntKind.u8 (0 : Int)))) /\ ((Eq (α := Option Value)
  (some (Value.int IntKind.u8 (1 : Int))) (some (Value.int IntKind.u8 (1 : Int)))) /\ ((Eq (α := Option Value) (some (Value.int IntKind.u8 (0 : Int))) (some (Value.int
  IntKind.u8 (0 : Int)))) /\ ((Eq (α := Option Value) (some (Value.int IntKind.u8 (0 : Int))) (some (Value.int IntKind.u8 (0 : Int)))) /\ ((Eq (α := Option Value) (some
  (Value.int IntKind.u8 (0 : Int))) (some (Value.int IntKind.u8 (0 : Int)))) /\ ((Eq (α := Option Value) (some (Value.int IntKind.u8 (1 : Int))) (some (Value.int IntKind.u8
  (1 : Int)))) /\ ((Eq (α := Option Value) (some (Value.int IntKind.u8 (0 : Int))) (some (Value.int IntKind.u8 (0 : Int)))) /\ ((Eq (α := Option Value) (some (Value.int
  IntKind.u8 (0 : Int))) (some (Value.int IntKind.u8 (0 : Int)))) /\ ((Eq (α := Option Value) (some (Value.int IntKind.u8 (0 : Int))) (some (Value.int IntKind.u8 (0 :
  Int)))) /\ ((Eq (α := Option Value) (some (Value.int IntKind.u8 (1 : Int))) (some (Value.int IntKind.u8 (1 : Int)))) /\ ((Eq (α := Option Value) (some (Value.int
  IntKind.u8 (1 : Int))) (some (Value.int IntKind.u8 (1 : Int)))) /\ ((Eq (α := Option Value) (some (Value.int IntKind.u8 (4 : Int))) (some (Value.int IntKind.u8 (4 :
  Int)))) /\ ((Eq (α := Option Value) (some (Value.int IntKind.u8 (1 : Int))) (some (Value.int IntKind.u8 (1 : Int)))) /\ ((Eq (α := Option Value) (some (Value.int
  IntKind.u8 (1 : Int))) (some (Value.int IntKind.u8 (1 : Int)))) /\ ((Eq (α := Option Value) (some (Value.int IntKind.u8 (4 : Int))) (some (Value.int IntKind.u8 (4 :
  Int)))) /\ ((Eq (α := Option Value) (some (Value.int IntKind.u8 (4 : Int))) (some (Value.int IntKind.u8 (4 : Int)))) /\ ((Eq (α := Option Value) (some (Value.int
  IntKind.u8 (130 : Int))) (some (Value.int IntKind.u8 (130 : Int)))) /\ ((Eq (α := Option Value) (some (Value.int IntKind.u8 (130 : Int))) (some (Value.int IntKind.u8 (130
  : Int)))) /\ ((Eq (α := Option Value) (some (Value.int IntKind.u8 (130 : Int))) (some (Value.int IntKind.u8 (130 : Int)))) /\ ((((True /\ (True /\ (True /\ True))) /\
  (True /\ (True /\ (I64 o /\ ((-1000000000000 : Int) <= (1 : Int) /\ ((20 : Int) <= (1000000000000 : Int) /\ (1 : Int) <= (20 : Int)))))))) /\ (∃ g : UInt8 × Int, (((1 :
  Int) <= g.2 /\ g.2 <= (20 : Int)) /\ (((↑(UInt8.toNat g.1) : Int) = (↑(UInt8.toNat b) : Int)) /\ ((0 = 0) /\ (((↑(Int.toNat g.2) : Int) = inside o (1 : Int) (20 : Int)) /\
  ((true = true) /\ (((2 : Int) = (2 : Int)) /\ (((65535 : Int) = (65535 : Int)) /\ (((65536 : Int) = (65536 : Int)) /\ (((4096 : Int) = (4096 : Int)) /\ (((2147483647 :
  Int) = (2147483647 : Int)) /\ (((65535 : Int) = (65535 : Int)) /\ (((16384 : Int) = (16384 : Int)) /\ (((2147483647 : Int) = (2147483647 : Int)) /\ ((0 = 0) /\ ((13 = 13)
  /\ ((0 = 0) /\ ((0 = 0) /\ ((0 = 0) /\ (((65535 : Int) = (65535 : Int)) /\ (((65535 : Int) = (65535 : Int)) /\ ((0 = 0) /\ ((1 = 1) /\ (((1 : Int) = (1 : Int)) /\ (((1 :
  Int) = (1 : Int)) /\ ((true = true) /\ ((false = false) /\ ((false = false) /\ ((false = false) /\ ((false = false) /\ (((0 : Int) = (0 : Int)) /\ ((false = false) /\ ((Eq
  (α := List Value) ([Value.int IntKind.u8 (0 : Int), Value.int IntKind.u8 (0 : Int), Value.int IntKind.u8 (4 : Int), Value.int IntKind.u8 (3 : Int), Value.int IntKind.u8 (0
  : Int), Value.int IntKind.u8 (0 : Int), Value.int IntKind.u8 (0 : Int), Value.int IntKind.u8 (0 : Int), Value.int IntKind.u8 (1 : Int), Value.int IntKind.u8 (0 : Int),
  Value.int IntKind.u8 (0 : Int), Value.int IntKind.u8 (0 : Int), Value.int IntKind.u8 (8 : Int)]) ([Value.int IntKind.u8 (0 : Int), Value.int IntKind.u8 (0 : Int),
  Value.int IntKind.u8 (4 : Int), Value.int IntKind.u8 (3 : Int), Value.int IntKind.u8 (0 : Int), Value.int IntKind.u8 (0 : Int), Value.int IntKind.u8 (0 : Int), Value.int
  IntKind.u8 (0 : Int), Value.int IntKind.u8 (1 : Int), Value.int IntKind.u8 (0 : Int), Value.int IntKind.u8 (0 : Int), Value.int IntKind.u8 (0 : Int), Value.int IntKind.u8
  (8 : Int)])) /\ ((Plain (bCells rsL)) /\ ((10 = 10) /\ ((0 = 0) /\ (((16384 : Int) = (16384 : Int)) /\ ((ByteArray.mk #[] = ByteArray.mk #[]) /\ (((0 : Int) = (0 : Int))
  /\ (((0 : Int) = (0 : Int)) /\ (((0 : Int) = (0 : Int)) /\ ((Eq (α := List Value) ([Value.int IntKind.u8 (0 : Int), Value.int IntKind.u8 (0 : Int), Value.int IntKind.u8 (1
  : Int), Value.int IntKind.u8 (1 : Int), Value.int IntKind.u8 (4 : Int), Value.int IntKind.u8 (0 : Int), Value.int IntKind.u8 (0 : Int), Value.int IntKind.u8 (0 : Int),
  Value.int IntKind.u8 (1 : Int), Value.int IntKind.u8 (130 : Int)]) ([Value.int IntKind.u8 (0 : Int), Value.int IntKind.u8 (0 : Int), Value.int IntKind.u8 (1 : Int),
  Value.int IntKind.u8 (1 : Int), Value.int IntKind.u8 (4 : Int), Value.int IntKind.u8 (0 : Int), Value.int IntKind.u8 (0 : Int), Value.int IntKind.u8 (0 : Int), Value.int
  IntKind.u8 (1 : Int), Value.int IntKind.u8 (130 : Int)])) /\ ((Plain (bCells hdL)) /\ ((0 = 0) /\ (((4096 : Int) = (4096 : Int)) /\ (((65536 : Int) = (65536 : Int)) /\
  ((false = false) /\ ((0 = 0) /\ ((false = false) /\ (((0 : Int) = (0 : Int)) /\ ((Eq (α := List Value) ([Value.int IntKind.i64 (1 : Int)]) ([Value.int IntKind.i64 (1 :
  Int)])) /\ ((Plain [Value.int IntKind.i64 (1 : Int)]) /\ (((0 : Int) = (0 : Int)) /\ (((4096 : Int) = (4096 : Int)) /\ (((0 : Int) = (0 : Int)) /\ (((4096 : Int) = (4096 :
  Int)) /\ (∀ (y : BS), ((okBS y) → (((True /\ (True /\ (True /\ True)))) /\ ((true = true) /\
  True))))))))))))))))))))))))))))))))))))))))))))))))))))))))))))))))))))))))))))))))))))) := by kernel_rfl
set_option maxRecDepth 400000 in
theorem B_piece : PieceOk EBk 0 (9, pB, specB) := by
  refine piece_loop tk.mixed (cut_calls (calls_envTc tBk_ok)) cut_lok (lm_one Y_piece) (n := 400) (n' := 9) (by kernel_rfl) (fun g : UInt8 × Int => (⟨g.2.toNat, rsL, 0, 13, hdL, 10⟩ : BS)) (fun _ s => InvB s) (fun _ s => meB s) (sl := fun g s => slB g.1 s.i) (rl := fun _ s => rlB s.q s.qk s.qn s.x s.k) (fun g hg => ?_) (fun g s hg hi => ?_)
  · obtain ⟨g1, g2⟩ := hg
    exact ⟨by simp only; omega, rfl, Nat.le_refl _, rfl, by show 10 ≤ 20000; decide⟩
  have hB := B_round g s InvB meB
  refine Eq.mpr hB ?_
  clear hB
  obtain ⟨i0, i1, i2, i3, i4⟩ := hi
  simp only [ofNat_eq, toNat_cast, Nat.zero_add, Nat.add_zero, Nat.mul_one, List.drop_zero, bCells_len, bCells_drop, bCells_take, bCells_app, bCells_one, bCells_plain, List.length_replicate, List.length_append, List.length_take, List.length_drop, List.take_length, and_true, true_and, and_self, decide_true, List.length_nil, List.length_cons, Nat.sub_zero, dB_mk, dB_ro, List.take_zero, Int.toNat_natCast, plO]
  refine br_if (fun h => ?_) (fun h => ⟨s, ⟨i1, i2, i3, i4⟩, rfl, rfl, rfl, rfl, rfl⟩)
  obtain ⟨p, hp⟩ : ∃ p : List UInt8, p = g.1 :: List.replicate 16000 0 := ⟨_, rfl⟩
  obtain ⟨n, hn⟩ : ∃ n : Nat, n = 16001 := ⟨_, rfl⟩
  have hpl : p.length = n := by rw [hp, hn, List.length_cons, List.length_replicate]
  have hc : bCells p = [Value.int .u8 (g.1.toNat : Int)] ++ (List.replicate 16000 [Value.int .u8 0]).flatten := by
    rw [hp, ← rep_fl]; rfl
  refine ⟨⟨g.1, s.i, s.q, s.qk, s.qn, s.x, s.k, p, n⟩, ⟨hp, hn, i1, i2, i3, i4⟩, rfl, rfl, rfl, rfl, rfl, rfl, rfl, hn, hc, fun _ _ => ?_⟩
  have hQl : (List.take s.qn (List.drop s.qk s.q) ++ wuB n).length = s.qn + 13 := by
    rw [List.length_append, List.length_take, List.length_drop, show (wuB n).length = 13 from rfl]; omega
  have hxl : (hB 8 p).length = 9 + n := by rw [hB_len, hpl]
  have w1 : IntKind.i64.wrap ((s.i : Int) - 1) = ((s.i - 1 : Nat) : Int) := by rw [wr64_id (by unfold I64; omega)]; omega
  refine ⟨⟨s.i - 1, List.take s.qn (List.drop s.qk s.q) ++ wuB n, s.qn + 13, 0, hB 8 p, 9 + n⟩, ⟨by simp only; omega, by simp only; rw [hQl], Nat.zero_le _, hxl, by simp only; omega⟩, ?_, rfl, ?_, rfl, rfl, rfl, rfl, rfl⟩
  · unfold meB; simp only; omega
  · exact w1.symm
theorem B_law (o : Int) (b : UInt8) (ho : I64 o) : Con Tryz.prog 9 [.int .i64 o, .int .u8 b.toNat] [] (.bool true) [] := by
  refine con_vc (E := EBb) tk.mixed (calls_envTc tBb_ok) (lok_envTc _ _) (M := mB) (lm_one B_piece) (B_vc o b) ?_
  have p36 : Plain quB.cells := fun v hv => by
    have : v ∈ bCells quL := hv
    exact bCells_plain _ v this
  have p9 : Plain lfB.cells := by
    intro v hv
    simp only [lfB, List.mem_cons, List.not_mem_nil, or_false] at hv
    rcases hv with rfl | rfl | rfl | rfl | rfl | rfl | rfl | rfl | rfl <;> rfl
  unfold quB at p36
  unfold lfB at p9
  simp only [ofNat_eq, toNat_cast, Nat.zero_add, Nat.add_zero, Nat.mul_one, List.drop_zero, bCells_len, bCells_drop, bCells_take, bCells_app, bCells_one, bCells_plain, List.length_replicate, List.length_append, List.length_take, List.length_drop, List.take_length, and_true, true_and, and_self, decide_true, List.length_nil, List.length_cons, Nat.sub_zero, dB_mk, dB_ro, List.take_zero, p36, p9, plO]
  obtain ⟨j1, j2⟩ := inside_in o 1 20 (by decide)
  exact ⟨⟨ho, by decide⟩, (b, inside o 1 20), ⟨j1, j2⟩, rfl, by simp only; omega, fun _ _ => trivial⟩
end Go.Proofs.YtcallecdjebojaaGreat.cg
