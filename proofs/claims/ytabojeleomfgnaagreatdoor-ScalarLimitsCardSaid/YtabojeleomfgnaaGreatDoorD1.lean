/- Parts of expressions that have a text. -/
import Derived.Test.YtabojeleomfgnaaGreatDoorC1
import Derived.WalkSmall
namespace Go.Proofs
open Go.RowKit
namespace YtabojeleomfgnaaGreatDoor
abbrev E5 : Value := exprV 1 0 0 2 5 ⟨#[]⟩ ⟨#[]⟩ ⟨#[]⟩ nilS
abbrev SA : ByteArray := ⟨#[97]⟩
abbrev EA : Value := exprV 3 0 0 0 0 ⟨#[]⟩ ⟨#[]⟩ SA nilS
abbrev EADD (b cap : Nat) : Value := exprV 4 12 0 0 0 ⟨#[]⟩ ⟨#[]⟩ ⟨#[]⟩ (.slice (some ⟨b, 0, none⟩) 2 cap)
theorem max1 (n : Nat) (h : n ≤ 1000) : n ≤ maxLen := by unfold maxLen; omega
theorem maxA : SA.size ≤ maxLen := max1 _ (by decide)
set_option maxRecDepth 100000 in
set_option maxHeartbeats 2000000 in
theorem cp5 (w : World) : Calls Tryz.prog 249 #[E5] w fun e w' => e = .returned (.int .i64 0) ∧ Below w.heap.size w w' := by
  go_enter Tryz.func249, Tryz.ntmps249
  go_wp2
  go_ret
  exact ⟨rfl, by go_grown⟩
set_option maxRecDepth 100000 in
set_option maxHeartbeats 2000000 in
theorem cpA (w : World) : Calls Tryz.prog 249 #[EA] w fun e w' => e = .returned (.int .i64 0) ∧ Below w.heap.size w w' := by
  go_enter Tryz.func249, Tryz.ntmps249
  go_wp2
  go_ret
  exact ⟨rfl, by go_grown⟩
set_option maxRecDepth 100000 in
set_option maxHeartbeats 2000000 in
theorem cpADD (b cap : Nat) (w : World) (h61 : w.cell? ⟨1, 61, none⟩ = some (.int .i64 2)) (hs : 1 < w.heap.size) : Calls Tryz.prog 249 #[EADD b cap] w fun e w' => e = .returned (.int .i64 0) ∧ Below w.heap.size w w' := by
  have hs0 : 0 < w.heap.size := by omega
  have hs1 : 1 < w.heap.size + 1 := by omega
  have hs2 : 1 < w.heap.size + 1 + 1 := by omega
  have hs3 : 1 < w.heap.size + 1 + 1 + 1 := by omega
  go_enter Tryz.func249, Tryz.ntmps249
  go_wp2
  go_ret
  exact ⟨rfl, by go_grown⟩
set_option maxHeartbeats 1000000 in
theorem cwp5 (w : World) : Calls Tryz.prog 213 #[E5] w fun e w' => e = .returned (.int .i64 0) ∧ Below w.heap.size w w' := by
  go_enter Tryz.func213, Tryz.ntmps213
  go_wp2_with fail
  refine (cp5 _).mono ?_
  rintro e w1 ⟨rfl, hb1⟩
  obtain ⟨hc1, hf1⟩ := bcell hb1
  have hz1_0 : w.heap.size < w1.heap.size := lt_after hb1 (by (try simp only [World.size_alloc]); repeat (first | (with_reducible assumption) | exact Nat.lt_add_one _ | apply Nat.lt_add_one_of_lt))
  go_wp2
  go_quiet (fail)
  go_wp2
  go_ret
  exact ⟨rfl, below_drewN (below_call (by go_grown) hb1) _⟩
set_option maxHeartbeats 1000000 in
set_option maxRecDepth 100000 in
theorem cwpA (w : World) : Calls Tryz.prog 213 #[EA] w fun e w' => e = .returned (.int .i64 0) ∧ Below w.heap.size w w' := by
  have n1 : (SA.toList.isEmpty) = false := by simp [ByteArray.toList_eq]
  have hA : Hid (we SA = 1) := Lib.hid (by decide)
  have hE : Hid (we ⟨#[]⟩ = 0) := Lib.hid (by decide)
  have cA := fun w => (wordEnd_any SA maxA w).mono fun e w' h => (⟨h.1.trans (by rw [hA.out]; rfl), h.2.symm⟩ : e = .returned (.int .i64 1) ∧ w' = w)
  have cE := fun w => (wordEnd_any ⟨#[]⟩ (Nat.zero_le _) w).mono fun e w' h => (⟨h.1.trans (by rw [hE.out]; rfl), h.2.symm⟩ : e = .returned (.int .i64 0) ∧ w' = w)
  have z1 : SA.size = 1 := rfl
  have z0 : (⟨#[]⟩ : ByteArray).size = 0 := rfl
  have CA := Lib.hid cA
  have CE := Lib.hid cE
  clear cA cE
  go_enter Tryz.func213, Tryz.ntmps213
  go_wp2_with fail
  refine (cpA _).mono ?_
  rintro e w1 ⟨rfl, hb1⟩
  obtain ⟨hc1, hf1⟩ := bcell hb1
  have hz1_0 : w.heap.size < w1.heap.size := lt_after hb1 (by (try simp only [World.size_alloc]); repeat (first | (with_reducible assumption) | exact Nat.lt_add_one _ | apply Nat.lt_add_one_of_lt))
  go_wp2
  go_quiet ((go_at_call 262; first | (with_reducible exact Calls.quiet_of_same (CA.out _)) | (with_reducible exact Calls.quiet_of_same (CE.out _))))
  go_wp2
  go_ret
  exact ⟨rfl, below_drewN (below_call (by go_grown) hb1) _⟩
end YtabojeleomfgnaaGreatDoor
end Go.Proofs
