/- Comparisons of values: the program's and the reference's. -/
import Derived.Test.YtabojeleomfgnaaGreatDoorN1
import Derived.Test.YtabojeleomfgnaaGreatDoorSh1
import Derived.Test.YtabojeleomfgnaaGreatDoorS1
namespace Go.Proofs
open Go.RowKit
namespace YtabojeleomfgnaaGreatDoor
set_option maxRecDepth 100000
/-- the parts of what clean gives -/
def clK (k n : Int) (s : ByteArray) : Int := if rightB k n s = true then k else 0
def clN (k n : Int) (s : ByteArray) : Int := if rightB k n s = true then n else 0
def clS (k n : Int) (s : ByteArray) : ByteArray := if rightB k n s = true then s else ByteArray.empty
theorem cl_parts (k n : Int) (s : ByteArray) : cl k n s = val (clK k n s) (clN k n s) (clS k n s) := by
  unfold cl clK clN clS
  by_cases h : rightB k n s = true
  · simp only [h, if_true]
  · simp only [h]; rfl
theorem right0 : rightB 0 0 ByteArray.empty = true := by
  have h : ByteArray.empty.toList = [] := by simp [ByteArray.toList_eq]
  simp [rightB, formedB, inRangeB, h]
  decide
theorem cl_right (k n : Int) (s : ByteArray) : rightB (clK k n s) (clN k n s) (clS k n s) = true := by
  unfold clK clN clS
  by_cases h : rightB k n s = true
  · simp only [h, if_true]
  · simp only [h]; exact right0
theorem right_bounds {k n : Int} {s : ByteArray} (h : rightB k n s = true) : 0 ≤ k ∧ k ≤ 4 ∧ -999999999999999 ≤ n ∧ n ≤ 999999999999999 ∧ s.size ≤ 100 := by
  unfold rightB at h
  simp only [Bool.and_eq_true, decide_eq_true_eq] at h
  obtain ⟨h1, h2, h3⟩ := h
  unfold formedB at h1
  unfold inRangeB at h3
  by_cases e0 : k = 0
  · subst e0; simp at h1; omega
  by_cases e1 : k = 1
  · subst e1; simp at h3; omega
  by_cases e2 : k = 2
  · subst e2; simp [inB] at h3; omega
  by_cases e3 : k = 3
  · subst e3; simp at h1; omega
  by_cases e4 : k = 4
  · subst e4; simp [inB] at h3; omega
  · simp [e0, e1, e2, e3, e4] at h1
def sg (x : Int) : Int := if x < 0 then -1 else if x = 0 then 0 else 1
theorem cmpInt_any (x y : Int) (w : World) : Calls Tryz.prog 95 #[.int .i64 x, .int .i64 y] w fun e w' => e = .returned (.int .i64 (sg (x - y))) ∧ Below w.heap.size w w' := by
  rcases Int.lt_trichotomy x y with h | h | h
  · have HS : Hid (sg (x - y) = -1) := Lib.hid (by unfold sg; rw [if_pos (by omega)])
    go_enter Tryz.func95, Tryz.ntmps95
    go_wp2
    go_ret
    exact ⟨ret_int HS.out.symm, by go_grown⟩
  · have HS : Hid (sg (x - y) = 0) := Lib.hid (by unfold sg; rw [if_neg (by omega), if_pos (by omega)])
    subst h
    go_enter Tryz.func95, Tryz.ntmps95
    go_wp2
    go_ret
    exact ⟨ret_int HS.out.symm, by go_grown⟩
  · have HS : Hid (sg (x - y) = 1) := Lib.hid (by unfold sg; rw [if_neg (by omega), if_neg (by omega)])
    have h2 : ¬ x < y := by omega
    go_enter Tryz.func95, Tryz.ntmps95
    go_wp2
    go_ret
    exact ⟨ret_int HS.out.symm, by go_grown⟩
theorem sign_any (x : Int) (w : World) : Calls Tryz.prog 98 #[.int .i64 x] w fun e w' => e = .returned (.int .i64 (sg x)) ∧ Below w.heap.size w w' := by
  rcases Int.lt_trichotomy x 0 with h | h | h
  · have HS : Hid (sg x = -1) := Lib.hid (by unfold sg; rw [if_pos (by omega)])
    go_enter Tryz.func98, Tryz.ntmps98
    go_wp2
    go_ret
    exact ⟨ret_int (by rw [HS.out]; omega), by go_grown⟩
  · have HS : Hid (sg x = 0) := Lib.hid (by unfold sg; rw [if_neg (by omega), if_pos (by omega)])
    subst h
    go_enter Tryz.func98, Tryz.ntmps98
    go_wp2
    go_ret
    exact ⟨ret_int (by rw [HS.out]; omega), by go_grown⟩
  · have HS : Hid (sg x = 1) := Lib.hid (by unfold sg; rw [if_neg (by omega), if_neg (by omega)])
    go_enter Tryz.func98, Tryz.ntmps98
    go_wp2
    go_ret
    exact ⟨ret_int (by rw [HS.out]; omega), by go_grown⟩
end YtabojeleomfgnaaGreatDoor
end Go.Proofs
