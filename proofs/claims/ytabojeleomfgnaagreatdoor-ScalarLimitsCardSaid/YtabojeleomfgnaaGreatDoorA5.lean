/- The reference's right, Check's reference: the walks. -/
import Derived.Test.YtabojeleomfgnaaGreatDoorA4
namespace Go.Proofs
open Go.RowKit
namespace YtabojeleomfgnaaGreatDoor
theorem anyFault_any (k n : Int) (s : ByteArray) (hs : s.size ≤ maxLen) (w : World) : Calls Tryz.prog 103 #[val k n s] w fun e w' => e = .returned (.int .i64 (faultN 0 k n s)) ∧ Below w.heap.size w w' := by
  have hs' := hs
  unfold maxLen at hs
  go_enter Tryz.func103, Tryz.ntmps103
  go_wp2_with fail
  refine (fault_any _ _ _ _ hs' _).mono ?_
  rintro e w1 ⟨rfl, hb1⟩
  obtain ⟨hc1, hf1⟩ := bcell hb1
  go_wp2
  go_ret
  exact ⟨rfl, below_call (by go_grown) hb1⟩
theorem kind_in (kind : Int) : inB kind 1 4 = kindB kind := by unfold inB kindB; rfl
theorem valueFault_any (kind k n : Int) (s : ByteArray) (hs : s.size ≤ maxLen) (w : World) : Calls Tryz.prog 93 #[.int .i64 kind, val k n s] w fun e w' => e = .returned (.int .i64 (checkN kind k n s)) ∧ Below w.heap.size w w' := by
  have hs' := hs
  cases hk : kindB kind with
  | false =>
    have HR : Hid (checkN kind k n s = 4) := Lib.hid (by simp [checkN, hk])
    have hk2 : inB kind 1 4 = false := by rw [kind_in]; exact hk
    unfold maxLen at hs
    go_enter Tryz.func93, Tryz.ntmps93
    go_wp2_with (go_at_call 132; refine (rwithin_any _ _ _ _).mono ?_; rintro e w9 ⟨rfl, rfl⟩)
    go_ret
    exact ⟨ret_int HR.out.symm, (by go_grown)⟩
  | true =>
    have HR : Hid (checkN kind k n s = faultN kind k n s) := Lib.hid (check_fault kind k n s hk)
    have hk2 : inB kind 1 4 = true := by rw [kind_in]; exact hk
    unfold maxLen at hs
    go_enter Tryz.func93, Tryz.ntmps93
    go_wp2_with (go_at_call 132; refine (rwithin_any _ _ _ _).mono ?_; rintro e w9 ⟨rfl, rfl⟩)
    refine (fault_any _ _ _ _ hs' _).mono ?_
    rintro e w1 ⟨rfl, hb1⟩
    go_wp2
    go_ret
    exact ⟨ret_int HR.out.symm, below_call (by go_grown) hb1⟩
theorem checked_any (kind k n : Int) (s : ByteArray) (hs : s.size ≤ maxLen) (w : World) : Calls Tryz.prog 19 #[.int .i64 kind, val k n s] w fun e w' => e = .returned (.int .i64 (checkN kind k n s)) ∧ Below w.heap.size w w' := by
  have hs' := hs
  unfold maxLen at hs
  by_cases h1 : kind < 1
  · have HR : Hid (checkN kind k n s = 4) := Lib.hid (by have : kindB kind = false := by simp [kindB]; omega
                                                         simp [checkN, this])
    go_enter Tryz.func19, Tryz.ntmps19
    go_wp2
    go_ret
    exact ⟨ret_int HR.out.symm, (by go_grown)⟩
  · by_cases h2 : 4 < kind
    · have HR : Hid (checkN kind k n s = 4) := Lib.hid (by have : kindB kind = false := by simp [kindB]; omega
                                                           simp [checkN, this])
      go_enter Tryz.func19, Tryz.ntmps19
      go_wp2
      go_ret
      exact ⟨ret_int HR.out.symm, (by go_grown)⟩
    · have h3 : 1 ≤ kind := by omega
      have h4 : kind ≤ 4 := by omega
      go_enter Tryz.func19, Tryz.ntmps19
      go_wp2_with fail
      refine (valueFault_any _ _ _ _ hs' _).mono ?_
      rintro e w1 ⟨rfl, hb1⟩
      go_wp2
      go_ret
      exact ⟨rfl, below_call (by go_grown) hb1⟩
theorem right_any (k n : Int) (s : ByteArray) (hs : s.size ≤ maxLen) (w : World) : Calls Tryz.prog 97 #[val k n s] w fun e w' => e = .returned (cl k n s) ∧ Below w.heap.size w w' := by
  have hs' := hs
  cases h1 : rightB k n s with
  | false =>
    have hc0 := Lib.hid (cl_no k n s h1)
    have hr : (faultN 0 k n s != 0) = true := by
      have := fault_right k n s
      rw [h1] at this
      simpa using this
    unfold maxLen at hs
    go_enter Tryz.func97, Tryz.ntmps97
    go_wp2_with fail
    refine (anyFault_any _ _ _ hs' _).mono ?_
    rintro e w1 ⟨rfl, hb1⟩
    obtain ⟨hc1, hf1⟩ := bcell hb1
    have hz1_0 : w.heap.size < w1.heap.size := by have := hb1.size; (try simp at this); omega
    have hz1_1 : w.heap.size + 1 < w1.heap.size := by have := hb1.size; (try simp at this); omega
    go_wp2
    exact bodyPost_ret (v := val 0 0 ByteArray.empty) (by simp [results, Tryz.results97, go_sem, hc1]; try rfl) rfl ⟨by rw [hc0.out], by go_grown; exact (below_call (by go_grown) hb1)⟩
  | true =>
    have hc0 := Lib.hid (cl_val k n s h1)
    have hr : (faultN 0 k n s != 0) = false := by
      have := fault_right k n s
      rw [h1] at this
      simpa using this
    unfold maxLen at hs
    go_enter Tryz.func97, Tryz.ntmps97
    go_wp2_with fail
    refine (anyFault_any _ _ _ hs' _).mono ?_
    rintro e w1 ⟨rfl, hb1⟩
    obtain ⟨hc1, hf1⟩ := bcell hb1
    have hz1_0 : w.heap.size < w1.heap.size := by have := hb1.size; (try simp at this); omega
    have hz1_1 : w.heap.size + 1 < w1.heap.size := by have := hb1.size; (try simp at this); omega
    go_wp2
    exact bodyPost_ret (v := val k n s) (by simp [results, Tryz.results97, go_sem, hc1]; try rfl) rfl ⟨by rw [hc0.out], by go_grown; exact (below_call (by go_grown) hb1)⟩
end YtabojeleomfgnaaGreatDoor
end Go.Proofs
