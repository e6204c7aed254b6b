/- The law on the static table's fields: no two numbers have one field. No condition. -/
import Derived.Test.YtacbignkbpfdhaaSy3
import Derived.Test.YtacbignkbpfdhaaRows
namespace Go.Proofs.Ytacbignkbpfdhaa.w
open Go Go.Ev Go.Sy Go.RowKit

def tab : List (List Nat × List Nat) := [([], []),
  ([58, 97, 117, 116, 104, 111, 114, 105, 116, 121], []),
  ([58, 109, 101, 116, 104, 111, 100], [71, 69, 84]),
  ([58, 109, 101, 116, 104, 111, 100], [80, 79, 83, 84]),
  ([58, 112, 97, 116, 104], [47]),
  ([58, 112, 97, 116, 104], [47, 105, 110, 100, 101, 120, 46, 104, 116, 109, 108]),
  ([58, 115, 99, 104, 101, 109, 101], [104, 116, 116, 112]),
  ([58, 115, 99, 104, 101, 109, 101], [104, 116, 116, 112, 115]),
  ([58, 115, 116, 97, 116, 117, 115], [50, 48, 48]),
  ([58, 115, 116, 97, 116, 117, 115], [50, 48, 52]),
  ([58, 115, 116, 97, 116, 117, 115], [50, 48, 54]),
  ([58, 115, 116, 97, 116, 117, 115], [51, 48, 52]),
  ([58, 115, 116, 97, 116, 117, 115], [52, 48, 48]),
  ([58, 115, 116, 97, 116, 117, 115], [52, 48, 52]),
  ([58, 115, 116, 97, 116, 117, 115], [53, 48, 48]),
  ([97, 99, 99, 101, 112, 116, 45, 99, 104, 97, 114, 115, 101, 116], []),
  ([97, 99, 99, 101, 112, 116, 45, 101, 110, 99, 111, 100, 105, 110, 103], [103, 122, 105, 112, 44, 32, 100, 101, 102, 108, 97, 116, 101]),
  ([97, 99, 99, 101, 112, 116, 45, 108, 97, 110, 103, 117, 97, 103, 101], []),
  ([97, 99, 99, 101, 112, 116, 45, 114, 97, 110, 103, 101, 115], []),
  ([97, 99, 99, 101, 112, 116], []),
  ([97, 99, 99, 101, 115, 115, 45, 99, 111, 110, 116, 114, 111, 108, 45, 97, 108, 108, 111, 119, 45, 111, 114, 105, 103, 105, 110], []),
  ([97, 103, 101], []),
  ([97, 108, 108, 111, 119], []),
  ([97, 117, 116, 104, 111, 114, 105, 122, 97, 116, 105, 111, 110], []),
  ([99, 97, 99, 104, 101, 45, 99, 111, 110, 116, 114, 111, 108], []),
  ([99, 111, 110, 116, 101, 110, 116, 45, 100, 105, 115, 112, 111, 115, 105, 116, 105, 111, 110], []),
  ([99, 111, 110, 116, 101, 110, 116, 45, 101, 110, 99, 111, 100, 105, 110, 103], []),
  ([99, 111, 110, 116, 101, 110, 116, 45, 108, 97, 110, 103, 117, 97, 103, 101], []),
  ([99, 111, 110, 116, 101, 110, 116, 45, 108, 101, 110, 103, 116, 104], []),
  ([99, 111, 110, 116, 101, 110, 116, 45, 108, 111, 99, 97, 116, 105, 111, 110], []),
  ([99, 111, 110, 116, 101, 110, 116, 45, 114, 97, 110, 103, 101], []),
  ([99, 111, 110, 116, 101, 110, 116, 45, 116, 121, 112, 101], []),
  ([99, 111, 111, 107, 105, 101], []),
  ([100, 97, 116, 101], []),
  ([101, 116, 97, 103], []),
  ([101, 120, 112, 101, 99, 116], []),
  ([101, 120, 112, 105, 114, 101, 115], []),
  ([102, 114, 111, 109], []),
  ([104, 111, 115, 116], []),
  ([105, 102, 45, 109, 97, 116, 99, 104], []),
  ([105, 102, 45, 109, 111, 100, 105, 102, 105, 101, 100, 45, 115, 105, 110, 99, 101], []),
  ([105, 102, 45, 110, 111, 110, 101, 45, 109, 97, 116, 99, 104], []),
  ([105, 102, 45, 114, 97, 110, 103, 101], []),
  ([105, 102, 45, 117, 110, 109, 111, 100, 105, 102, 105, 101, 100, 45, 115, 105, 110, 99, 101], []),
  ([108, 97, 115, 116, 45, 109, 111, 100, 105, 102, 105, 101, 100], []),
  ([108, 105, 110, 107], []),
  ([108, 111, 99, 97, 116, 105, 111, 110], []),
  ([109, 97, 120, 45, 102, 111, 114, 119, 97, 114, 100, 115], []),
  ([112, 114, 111, 120, 121, 45, 97, 117, 116, 104, 101, 110, 116, 105, 99, 97, 116, 101], []),
  ([112, 114, 111, 120, 121, 45, 97, 117, 116, 104, 111, 114, 105, 122, 97, 116, 105, 111, 110], []),
  ([114, 97, 110, 103, 101], []),
  ([114, 101, 102, 101, 114, 101, 114], []),
  ([114, 101, 102, 114, 101, 115, 104], []),
  ([114, 101, 116, 114, 121, 45, 97, 102, 116, 101, 114], []),
  ([115, 101, 114, 118, 101, 114], []),
  ([115, 101, 116, 45, 99, 111, 111, 107, 105, 101], []),
  ([115, 116, 114, 105, 99, 116, 45, 116, 114, 97, 110, 115, 112, 111, 114, 116, 45, 115, 101, 99, 117, 114, 105, 116, 121], []),
  ([116, 114, 97, 110, 115, 102, 101, 114, 45, 101, 110, 99, 111, 100, 105, 110, 103], []),
  ([117, 115, 101, 114, 45, 97, 103, 101, 110, 116], []),
  ([118, 97, 114, 121], []),
  ([118, 105, 97], []),
  ([119, 119, 119, 45, 97, 117, 116, 104, 101, 110, 116, 105, 99, 97, 116, 101], [])]
def bs (l : List Nat) : ByteArray := ⟨(l.map UInt8.ofNat).toArray⟩
def nm (n : Int) : ByteArray := match tab[n.toNat]? with | some (a, _) => bs a | none => ⟨#[]⟩
def vl (n : Int) : ByteArray := match tab[n.toNat]? with | some (_, b) => bs b | none => ⟨#[]⟩
def T1 (f : FuncId) (args : List Value) (h : Hp) : Option (Prop × Value × Hp) :=
  match f, args with
  | 3, [] => some (True, .bool true, h)
  | 7, [.int .i64 n] => some (1 ≤ n ∧ n ≤ 61, .tuple #[.agg #[.string (nm n), .string (vl n)], .bool true], h)
  | 15, [.int .i64 n, .int .i64 lo, .int .i64 hi] => some (I64 n ∧ Small lo ∧ Small hi ∧ lo ≤ hi, .int .i64 (within n lo hi), h)
  | _, _ => none
noncomputable abbrev E0 : Env := bare Try.prog
noncomputable abbrev E1 : Env := withT Try.prog T1
theorem mixed : Try.prog.follows .mixedOrders = true := by kernel_rfl
theorem within_vc (n lo hi : Int) (v : Value) : scall E0 40 15 [.int .i64 n, .int .i64 lo, .int .i64 hi] ⟨.leaf, 0⟩ (fun r => r.1 = .ret v) =
  (br (IntKind.wrap IntKind.i64 (IntKind.wrap IntKind.i64 (hi - lo) + (1 : Int)) != (0 : Int))
   (br (decide (Int.tmod n (IntKind.wrap IntKind.i64 (IntKind.wrap IntKind.i64 (hi - lo) + (1 : Int))) < (0 : Int)))
    (End.ret (Value.int IntKind.i64 (IntKind.wrap IntKind.i64 (lo + IntKind.wrap IntKind.i64 (IntKind.wrap IntKind.i64 (IntKind.wrap IntKind.i64 (Int.tmod n (IntKind.wrap IntKind.i64 (IntKind.wrap IntKind.i64 (hi - lo) + (1 : Int))) + hi) - lo) + (1 : Int))))) = End.ret v)
    (End.ret (Value.int IntKind.i64 (IntKind.wrap IntKind.i64 (lo + Int.tmod n (IntKind.wrap IntKind.i64 (IntKind.wrap IntKind.i64 (hi - lo) + (1 : Int)))))) = End.ret v))
   False) := by kernel_rfl
theorem apart_vc (a b : Int) : scall E1 40 5 [.int .i64 a, .int .i64 b] ⟨.leaf, 0⟩ (fun r => r.1 = .ret (.bool true)) =
  ((I64 a ∧ Small (1 : Int) ∧ Small (61 : Int) ∧ (1 : Int) ≤ (61 : Int)) ∧
  ((I64 b ∧ Small (1 : Int) ∧ Small (61 : Int) ∧ (1 : Int) ≤ (61 : Int)) ∧
  (((1 : Int) ≤ within a (1 : Int) (61 : Int) ∧ within a (1 : Int) (61 : Int) ≤ (61 : Int)) ∧
  (((1 : Int) ≤ within b (1 : Int) (61 : Int) ∧ within b (1 : Int) (61 : Int) ≤ (61 : Int)) ∧
  (br (!(nm (within a (1 : Int) (61 : Int)) == nm (within b (1 : Int) (61 : Int)) && (vl (within a (1 : Int) (61 : Int)) == vl (within b (1 : Int) (61 : Int)) && true)) == (within a (1 : Int) (61 : Int) == within b (1 : Int) (61 : Int)))
   (End.ret (Value.bool false) = End.ret (Value.bool true))
   (br (ByteArray.toList (nm (within a (1 : Int) (61 : Int))) == ByteArray.toList (ByteArray.mk #[]))
    (End.ret (Value.bool false) = End.ret (Value.bool true))
    (br (decide ((0 : Int) ≤ (0 : Int) ∧ (0 : Int) < ↑(List.length (Array.toList (ByteArray.data (nm (within a (1 : Int) (61 : Int))))))))
     (br ((byteAt (nm (within a (1 : Int) (61 : Int))) (0 : Nat) == (58 : Int)) == decide (within a (1 : Int) (61 : Int) < (15 : Int)))
      (br (decide (within a (1 : Int) (61 : Int) ≥ within b (1 : Int) (61 : Int)))
       ((True) ∧
       (End.ret (Value.bool true) = End.ret (Value.bool true)))
       (br (decide (within b (1 : Int) (61 : Int) < (20 : Int)))
        ((True) ∧
        (End.ret (Value.bool true) = End.ret (Value.bool true)))
        (br (decide (within a (1 : Int) (61 : Int) < (19 : Int)))
         ((True) ∧
         (End.ret (Value.bool true) = End.ret (Value.bool true)))
         (br (Op.bytesLess (ByteArray.toList (nm (within a (1 : Int) (61 : Int)))) (ByteArray.toList (nm (within b (1 : Int) (61 : Int)))))
          ((True) ∧
          (End.ret (Value.bool true) = End.ret (Value.bool true)))
          (End.ret (Value.bool false) = End.ret (Value.bool true))))))
      (End.ret (Value.bool false) = End.ret (Value.bool true)))
     False))))))) := by kernel_rfl

theorem within_ok (n lo hi : Int) (hlo : Small lo) (hhi : Small hi) (h : lo ≤ hi) : Flat Try.prog 15 [.int .i64 n, .int .i64 lo, .int .i64 hi] (.int .i64 (within n lo hi)) :=
  within_flat (E := E0) mixed (calls_bare _) (lok_bare _) (by kernel_rfl) within_vc n lo hi hlo hhi h

theorem runs : Flat Try.prog 3 [] (.bool true) := fun w => run_closed mixed (by kernel_rfl) (args := []) rfl rfl (show ret? (Ev.run Try.prog 1000000 3 [] ⟨.leaf, 0⟩) = some (.bool true) by kernel_rfl) w

noncomputable def statChk (i : Int) : Bool :=
  match ret? (Ev.run Try.prog 1000 7 [.int .i64 i] ⟨.leaf, 0⟩) with
  | some (.tuple ⟨[.agg ⟨[.string a, .string b]⟩, .bool c]⟩) => decide (a.data.toList = (nm i).data.toList) && decide (b.data.toList = (vl i).data.toList) && c
  | _ => false
theorem stat_all : ((List.range 62).all fun i => Nat.beq i 0 || statChk (Int.ofNat i)) = true := by kernel_rfl
theorem nat_of {i : Int} (h1 : 1 ≤ i) (h2 : i ≤ 61) : ∃ n : Nat, i = Int.ofNat n ∧ n ∈ List.range 62 ∧ Nat.beq n 0 = false := by
  refine ⟨i.toNat, by simp; omega, by simp; omega, ?_⟩
  cases h : Nat.beq i.toNat 0 with
  | false => rfl
  | true => have := Nat.eq_of_beq_eq_true h; omega
theorem bytes_eq {a b : ByteArray} (h : a.data.toList = b.data.toList) : a = b := by
  apply ByteArray.ext; apply Array.ext'; exact h
theorem stat_ok (i : Int) (h1 : 1 ≤ i) (h2 : i ≤ 61) : Flat Try.prog 7 [.int .i64 i] (.tuple #[.agg #[.string (nm i), .string (vl i)], .bool true]) := by
  have hc : statChk i = true := by
    obtain ⟨n, rfl, hm, hz⟩ := nat_of h1 h2
    have := (List.all_eq_true.1 stat_all) n hm
    rw [hz] at this
    simpa using this
  intro w
  refine run_closed mixed (n := 1000) (by kernel_rfl) (args := [.int .i64 i]) rfl rfl ?_ w
  unfold statChk at hc
  split at hc
  · rename_i a b c hr
    simp only [Bool.and_eq_true, decide_eq_true_eq] at hc
    rw [hr, bytes_eq hc.1.1, bytes_eq hc.1.2, hc.2]
  · simp at hc

theorem calls1 : CallsOk E1.P (oOf E1) := by
  refine calls_flat fun f a h p v h' e hp => ?_
  change T1 f a h = _ at e
  unfold T1 at e
  split at e <;> simp only [Option.some.injEq, Prod.mk.injEq, reduceCtorEq] at e <;> obtain ⟨rfl, rfl, rfl⟩ := e
  · exact ⟨rfl, rfl, rfl, runs⟩
  · exact ⟨rfl, rfl, rfl, stat_ok _ hp.1 hp.2⟩
  · exact ⟨rfl, rfl, rfl, within_ok _ _ _ hp.2.1 hp.2.2.1 hp.2.2.2⟩

def chk (i k : Int) : Bool :=
  ((nm i == nm k && (vl i == vl k && true)) == (i == k)) && (!(ByteArray.toList (nm i) == ByteArray.toList (ByteArray.mk #[])) && (decide ((0 : Int) ≤ (0 : Int) ∧ (0 : Int) < ↑(List.length (Array.toList (ByteArray.data (nm i))))) &&
  (((byteAt (nm i) 0 == (58 : Int)) == decide (i < (15 : Int))) && (decide (i ≥ k) || decide (k < (20 : Int)) || decide (i < (19 : Int)) || Op.bytesLess (ByteArray.toList (nm i)) (ByteArray.toList (nm k))))))
theorem chk_all : ((List.range 62).all fun i => Nat.beq i 0 || (List.range 62).all fun k => Nat.beq k 0 || chk (Int.ofNat i) (Int.ofNat k)) = true := by kernel_rfl
theorem chk_ok (i k : Int) (h1 : 1 ≤ i) (h2 : i ≤ 61) (h3 : 1 ≤ k) (h4 : k ≤ 61) : chk i k = true := by
  obtain ⟨n, rfl, hm, hz⟩ := nat_of h1 h2
  obtain ⟨m, rfl, hm', hz'⟩ := nat_of h3 h4
  have := (List.all_eq_true.1 chk_all) n hm
  rw [hz, Bool.false_or] at this
  have := (List.all_eq_true.1 this) m hm'
  rw [hz'] at this
  simpa using this

theorem apart (a b : Int) (ha : I64 a) (hb : I64 b) : Flat Try.prog 5 [.int .i64 a, .int .i64 b] (.bool true) := by
  refine flat_vc (E := E1) mixed calls1 (lok_with _ _) (by kernel_rfl) rfl rfl (apart_vc a b) ?_
  have h1 := within_bd a 1 61 (by omega)
  have h2 := within_bd b 1 61 (by omega)
  have s1 : Small 1 := by unfold Small; omega
  have s2 : Small 61 := by unfold Small; omega
  refine ⟨⟨ha, s1, s2, by omega⟩, ⟨hb, s1, s2, by omega⟩, ?_⟩
  generalize within a 1 61 = i at *
  generalize within b 1 61 = k at *
  refine ⟨h1, h2, ?_⟩
  have hc := chk_ok i k h1.1 h1.2 h2.1 h2.2
  unfold chk at hc
  simp only [Bool.and_eq_true] at hc
  obtain ⟨c1, c2, c3, c4, c5⟩ := hc
  rw [c1, c3, c4]
  rw [Bool.not_eq_true'] at c2
  rw [c2]
  simp only [Bool.or_eq_true] at c5
  refine br_intro (fun h => by simp at h) (fun _ => br_intro (fun h => by simp at h) (fun _ => br_intro (fun _ => br_intro (fun _ => ?_) (fun h => by simp at h)) (fun h => by simp at h)))
  refine br_intro (fun _ => ⟨trivial, rfl⟩) (fun g1 => br_intro (fun _ => ⟨trivial, rfl⟩) (fun g2 => br_intro (fun _ => ⟨trivial, rfl⟩) (fun g3 => br_intro (fun _ => ⟨trivial, rfl⟩) (fun g4 => ?_))))
  rw [g1, g2, g3, g4] at c5
  simp at c5
end Go.Proofs.Ytacbignkbpfdhaa.w
