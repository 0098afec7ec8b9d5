/- The reference's right, Check's reference: they say what Check and clean say. -/
import Derived.Test.YtabojeleomfgnaaGreatDoorA3
import Derived.Laws.Closers25
import Derived.Lib.Bytes
namespace Go.Proofs
open Go.RowKit
namespace YtabojeleomfgnaaGreatDoor
theorem empty_size (s : ByteArray) (h : s.toList = []) : s.size = 0 ∧ allOk s = true := by
  rw [Lib.toList_data] at h
  exact ⟨by simpa using congrArg List.length h, by unfold allOk; rw [h]; rfl⟩
theorem k_cases (k : Int) (h : inB k 0 4 = true) : k = 0 ∨ k = 1 ∨ k = 2 ∨ k = 3 ∨ k = 4 := by
  simp [inB] at h; omega
theorem k_out (k : Int) (h : inB k 0 4 = false) : k ≠ 0 ∧ k ≠ 1 ∧ k ≠ 2 ∧ k ≠ 3 ∧ k ≠ 4 := by
  simp [inB] at h; omega
theorem fault_right (k n : Int) (s : ByteArray) : faultN 0 k n s = 0 ↔ rightB k n s = true := by
  cases h : inB k 0 4 with
  | false =>
    have := k_out k h
    simp [faultN, h, rightB, formedB, this]
  | true =>
    rcases k_cases k h with rfl | rfl | rfl | rfl | rfl
    all_goals
      simp [faultN, h, rightB, formedB, outB, inRangeB]
      by_cases hE : s.toList = []
      · obtain ⟨e1, e2⟩ := empty_size s hE
        try simp [hE, e1, e2]
        repeat' split
        all_goals (try simp_all [inB])
        all_goals (try omega)
      · try simp [hE]
        repeat' split
        all_goals (try simp_all)
        all_goals (try omega)
theorem check_fault (kind k n : Int) (s : ByteArray) (hk : kindB kind = true) : checkN kind k n s = faultN kind k n s := by
  have hk2 : kind ≠ 0 := by simp [kindB] at hk; omega
  cases h : inB k 0 4 with
  | false =>
    have := k_out k h
    simp [faultN, h, checkN, hk, formedB, this]
  | true =>
    rcases k_cases k h with rfl | rfl | rfl | rfl | rfl
    all_goals try simp [faultN, h, checkN, hk, hk2, formedB, outB, inRangeB]
    all_goals
      by_cases hE : s.toList = []
      · obtain ⟨e1, e2⟩ := empty_size s hE
        try simp [hE, e1, e2]
        repeat' split
        all_goals (try simp_all [inB])
        all_goals (try omega)
      · try simp [hE]
        repeat' split
        all_goals (try simp_all)
        all_goals (try omega)
end YtabojeleomfgnaaGreatDoor
end Go.Proofs
