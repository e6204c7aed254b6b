/- Parts held against each other. -/
import Derived.Test.YtagahikocoggcaaSz9
import Derived.Test.YtagahikocoggcaaRows
import Derived.Test.YtagahikocoggcaaLshSm
import Derived.Test.YtagahikocoggcaaLbook
set_option maxRecDepth 20000
set_option linter.unusedSimpArgs false
set_option linter.unusedVariables false
namespace Go.Proofs.Ytagahikocoggcaa.sh
open Go Go.Ev Go.Sy Go.RowKit Go.Proofs.Ytagahikocoggcaa.gl
noncomputable def eSaB : EntM := entC 23 fun a r => match a, r with
  | [.slice (some ⟨0, 0, none⟩) n 1, .slice (some ⟨1, 0, none⟩) m 1], [r0, r1] => some (IsB r0 n ∧ IsB r1 m ∧ n ≤ maxLen ∧ r0.cells = r1.cells, .bool true, [])
  | _, _ => none
noncomputable def tPa : List EntM := [eSaB, eSaS]
noncomputable abbrev EtPa : Env := envT Try.prog tPa
noncomputable def ePa : EntM := entC 12 fun a r => match a, r with
  | [.agg ⟨[.int .i64 ty, .int .i64 st, .bool e, .bool f, .bool ak, .slice (some ⟨0, 0, none⟩) nb 1, .int .i64 co, .int .i64 la, .int .i64 mo, .int .i64 cs, .slice (some ⟨1, 0, none⟩) ns 2]⟩, .agg ⟨[.int .i64 ty2, .int .i64 st2, .bool e2, .bool f2, .bool ak2, .slice (some ⟨2, 0, none⟩) nb2 1, .int .i64 co2, .int .i64 la2, .int .i64 mo2, .int .i64 cs2, .slice (some ⟨3, 0, none⟩) ns2 2]⟩], [r0, r1, r2, r3] => some (IsB r0 nb ∧ IsB r2 nb2 ∧ IsSe r1 ns ∧ IsSe r3 ns2 ∧ nb ≤ maxLen ∧ ns ≤ maxLen ∧ r0.cells = r2.cells ∧ r1.cells = r3.cells ∧ ty = ty2 ∧ st = st2 ∧ e = e2 ∧ f = f2 ∧ ak = ak2 ∧ co = co2 ∧ la = la2 ∧ mo = mo2 ∧ cs = cs2, .bool true, [])
  | _, _ => none
theorem Pa_vc (y : PtY) (b : List UInt8) (s : List Se) : mcall EtPa noM 60 12 [.agg ⟨ptCy y 0 b.length 1 s.length⟩, .agg ⟨ptCy y 2 b.length 3 s.length⟩] ⟨mkR (nums 0 [bRo b, gRo seC s, bRo b, gRo seC s]), 4⟩ (retIs 4 (.bool true) [bRo b, gRo seC s, bRo b, gRo seC s]) =
  (br (y.1 == y.1)
   (br (y.2 == y.2)
    (br (y.3 == y.3)
     (br (y.4 == y.4)
      (br (y.5 == y.5)
       ((((((0 : Nat) + List.length b * (1 : Nat) ≤ List.length (bCells b) ∧ Plain (List.take (List.length b * (1 : Nat)) (List.drop (0 : Nat) (bCells b)))) ∧ (((0 : Nat) + List.length b * (1 : Nat) ≤ List.length (bCells b) ∧ Plain (List.take (List.length b * (1 : Nat)) (List.drop (0 : Nat) (bCells b)))) ∧ True)) ∧ ((True ∧ (True ∧ True)) ∧ (True ∧ (IsB (Row.mk (List.take (List.length b * (1 : Nat)) (List.drop (0 : Nat) (bCells b))) true (Ob.cells true)) (List.length b) ∧ (IsB (Row.mk (List.take (List.length b * (1 : Nat)) (List.drop (0 : Nat) (bCells b))) true (Ob.cells true)) (List.length b) ∧ (List.length b ≤ (9223372036854775807 : Nat) ∧ Eq (α := List Value) (List.take (List.length b * (1 : Nat)) (List.drop (0 : Nat) (bCells b))) (List.take (List.length b * (1 : Nat)) (List.drop (0 : Nat) (bCells b)))))))))) ∧
       (br (y.6 == y.6)
        (br (y.7 == y.7)
         (br (y.8 == y.8)
          (br (y.9 == y.9)
           ((((((0 : Nat) + List.length s * (2 : Nat) ≤ List.length (gC seC s) ∧ Plain (List.take (List.length s * (2 : Nat)) (List.drop (0 : Nat) (gC seC s)))) ∧ (((0 : Nat) + List.length s * (2 : Nat) ≤ List.length (gC seC s) ∧ Plain (List.take (List.length s * (2 : Nat)) (List.drop (0 : Nat) (gC seC s)))) ∧ True)) ∧ ((True ∧ (True ∧ True)) ∧ (True ∧ (IsSe (Row.mk (List.take (List.length s * (2 : Nat)) (List.drop (0 : Nat) (gC seC s))) true (Ob.cells true)) (List.length s) ∧ (IsSe (Row.mk (List.take (List.length s * (2 : Nat)) (List.drop (0 : Nat) (gC seC s))) true (Ob.cells true)) (List.length s) ∧ (List.length s ≤ (9223372036854775807 : Nat) ∧ Eq (α := List Value) (List.take (List.length s * (2 : Nat)) (List.drop (0 : Nat) (gC seC s))) (List.take (List.length s * (2 : Nat)) (List.drop (0 : Nat) (gC seC s)))))))))) ∧
           ((true = true) ∧
           ((Eq (α := List Value) (bCells b) (bCells b)) ∧
           ((Plain (bCells b)) ∧
           ((Eq (α := List Value) (gC seC s) (gC seC s)) ∧
           ((Plain (gC seC s)) ∧
           ((Eq (α := List Value) (bCells b) (bCells b)) ∧
           ((Plain (bCells b)) ∧
           ((Eq (α := List Value) (gC seC s) (gC seC s)) ∧
           ((Plain (gC seC s)) ∧
           True))))))))))
           ((true = false) ∧
           ((Eq (α := List Value) (bCells b) (bCells b)) ∧
           ((Plain (bCells b)) ∧
           ((Eq (α := List Value) (gC seC s) (gC seC s)) ∧
           ((Plain (gC seC s)) ∧
           ((Eq (α := List Value) (bCells b) (bCells b)) ∧
           ((Plain (bCells b)) ∧
           ((Eq (α := List Value) (gC seC s) (gC seC s)) ∧
           ((Plain (gC seC s)) ∧
           True))))))))))
          ((true = false) ∧
          ((Eq (α := List Value) (bCells b) (bCells b)) ∧
          ((Plain (bCells b)) ∧
          ((Eq (α := List Value) (gC seC s) (gC seC s)) ∧
          ((Plain (gC seC s)) ∧
          ((Eq (α := List Value) (bCells b) (bCells b)) ∧
          ((Plain (bCells b)) ∧
          ((Eq (α := List Value) (gC seC s) (gC seC s)) ∧
          ((Plain (gC seC s)) ∧
          True))))))))))
         ((true = false) ∧
         ((Eq (α := List Value) (bCells b) (bCells b)) ∧
         ((Plain (bCells b)) ∧
         ((Eq (α := List Value) (gC seC s) (gC seC s)) ∧
         ((Plain (gC seC s)) ∧
         ((Eq (α := List Value) (bCells b) (bCells b)) ∧
         ((Plain (bCells b)) ∧
         ((Eq (α := List Value) (gC seC s) (gC seC s)) ∧
         ((Plain (gC seC s)) ∧
         True))))))))))
        ((true = false) ∧
        ((Eq (α := List Value) (bCells b) (bCells b)) ∧
        ((Plain (bCells b)) ∧
        ((Eq (α := List Value) (gC seC s) (gC seC s)) ∧
        ((Plain (gC seC s)) ∧
        ((Eq (α := List Value) (bCells b) (bCells b)) ∧
        ((Plain (bCells b)) ∧
        ((Eq (α := List Value) (gC seC s) (gC seC s)) ∧
        ((Plain (gC seC s)) ∧
        True)))))))))))
       ((true = false) ∧
       ((Eq (α := List Value) (bCells b) (bCells b)) ∧
       ((Plain (bCells b)) ∧
       ((Eq (α := List Value) (gC seC s) (gC seC s)) ∧
       ((Plain (gC seC s)) ∧
       ((Eq (α := List Value) (bCells b) (bCells b)) ∧
       ((Plain (bCells b)) ∧
       ((Eq (α := List Value) (gC seC s) (gC seC s)) ∧
       ((Plain (gC seC s)) ∧
       True))))))))))
      ((true = false) ∧
      ((Eq (α := List Value) (bCells b) (bCells b)) ∧
      ((Plain (bCells b)) ∧
      ((Eq (α := List Value) (gC seC s) (gC seC s)) ∧
      ((Plain (gC seC s)) ∧
      ((Eq (α := List Value) (bCells b) (bCells b)) ∧
      ((Plain (bCells b)) ∧
      ((Eq (α := List Value) (gC seC s) (gC seC s)) ∧
      ((Plain (gC seC s)) ∧
      True))))))))))
     ((true = false) ∧
     ((Eq (α := List Value) (bCells b) (bCells b)) ∧
     ((Plain (bCells b)) ∧
     ((Eq (α := List Value) (gC seC s) (gC seC s)) ∧
     ((Plain (gC seC s)) ∧
     ((Eq (α := List Value) (bCells b) (bCells b)) ∧
     ((Plain (bCells b)) ∧
     ((Eq (α := List Value) (gC seC s) (gC seC s)) ∧
     ((Plain (gC seC s)) ∧
     True))))))))))
    ((true = false) ∧
    ((Eq (α := List Value) (bCells b) (bCells b)) ∧
    ((Plain (bCells b)) ∧
    ((Eq (α := List Value) (gC seC s) (gC seC s)) ∧
    ((Plain (gC seC s)) ∧
    ((Eq (α := List Value) (bCells b) (bCells b)) ∧
    ((Plain (bCells b)) ∧
    ((Eq (α := List Value) (gC seC s) (gC seC s)) ∧
    ((Plain (gC seC s)) ∧
    True))))))))))
   ((true = false) ∧
   ((Eq (α := List Value) (bCells b) (bCells b)) ∧
   ((Plain (bCells b)) ∧
   ((Eq (α := List Value) (gC seC s) (gC seC s)) ∧
   ((Plain (gC seC s)) ∧
   ((Eq (α := List Value) (bCells b) (bCells b)) ∧
   ((Plain (bCells b)) ∧
   ((Eq (α := List Value) (gC seC s) (gC seC s)) ∧
   ((Plain (gC seC s)) ∧
   True)))))))))) := by kernel_rfl
theorem eSaB_ok : EntOk Try.prog eSaB := entC_ok (by
  intro a rows p v news h hp
  split at h <;> simp only [Option.some.injEq, Prod.mk.injEq, reduceCtorEq] at h
  obtain ⟨rfl, rfl, rfl⟩ := h
  obtain ⟨⟨l, rfl, rfl⟩, ⟨m, rfl, rfl⟩, h1, h2⟩ := hp
  have h2 := by_inj h2
  subst h2
  rw [List.append_nil]
  have := Go.Proofs.Ytagahikocoggcaa.bk.same_con l l h1
  rwa [decide_eq_true rfl] at this)
theorem tPa_ok : ∀ x ∈ tPa, EntOk Try.prog x := all_cons eSaB_ok (all_cons eSaS_ok (all_nil))
theorem Pa_con (y : PtY) (b : List UInt8) (s : List Se) (hb : b.length ≤ maxLen) (hs : s.length ≤ maxLen) : Con Try.prog 12 [.agg ⟨ptCy y 0 b.length 1 s.length⟩, .agg ⟨ptCy y 2 b.length 3 s.length⟩] [bRo b, gRo seC s, bRo b, gRo seC s] (.bool true) [bRo b, gRo seC s, bRo b, gRo seC s] := by
  refine con_vc (E := EtPa) mixed (calls_envT tPa_ok) (lok_envT _ _) (M := noM) lm_none (Pa_vc y b s) ?_
  have hm : maxLen = 9223372036854775807 := by unfold maxLen; rfl
  simp only [ofNat_eq, toNat_cast, Nat.zero_add, Nat.add_zero, Nat.mul_one, List.drop_zero, bCells_len, bCells_drop, bCells_take, bCells_app, bCells_one, bCells_plain, List.length_replicate, List.length_append, List.length_take, List.length_drop, List.take_length, and_true, true_and, and_self, decide_true, List.length_nil, List.length_cons, Nat.sub_zero, dB_mk, dB_ro, List.take_zero, isB_eq, isSe_eq, seTake, seL, sePl, beq_self_eq_true, br_tt0, Nat.le_refl]
  exact ⟨by omega, by omega⟩
theorem ePa_ok : EntOk Try.prog ePa := entC_ok (by
  intro a rows p v news h hp
  split at h <;> simp only [Option.some.injEq, Prod.mk.injEq, reduceCtorEq] at h
  obtain ⟨rfl, rfl, rfl⟩ := h
  obtain ⟨⟨b, rfl, rfl⟩, ⟨b2, rfl, rfl⟩, ⟨s, rfl, rfl⟩, ⟨s2, rfl, rfl⟩, h1, h2, h3, h4, rfl, rfl, rfl, rfl, rfl, rfl, rfl, rfl, rfl⟩ := hp
  have h3 := by_inj h3
  have h4 := se_inj h4
  subst h3
  subst h4
  rw [List.append_nil]
  exact Pa_con ⟨_, _, _, _, _, _, _, _, _⟩ b s h1 h2)
end Go.Proofs.Ytagahikocoggcaa.sh
