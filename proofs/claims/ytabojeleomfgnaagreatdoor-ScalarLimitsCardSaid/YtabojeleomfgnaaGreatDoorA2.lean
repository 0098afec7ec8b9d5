/- Check and its reference. -/
import Derived.Test.YtabojeleomfgnaaGreatDoorA1
namespace Go.Proofs
open Go.RowKit
namespace YtabojeleomfgnaaGreatDoor
def checkN (kind k n : Int) (s : ByteArray) : Int :=
  if kindB kind = false then 4 else if formedB k n s = false then 3 else if k = 0 then 0 else if k ≠ kind then 8 else if 100 < s.size then 2 else if inRangeB k n s = false then 1 else 0
theorem check_any (kind k n : Int) (s : ByteArray) (hs : s.size ≤ maxLen) (w : World) : Calls Tryz.prog 18 #[.int .i64 kind, val k n s] w fun e w' => e = .returned (.int .i64 (checkN kind k n s)) ∧ Below w.heap.size w w' := by
  have hs' := hs
  cases h0 : kindB kind with
  | false =>
    have HR : Hid (checkN kind k n s = 4) := Lib.hid (by unfold checkN; simp only [h0]; simp_all)
    unfold maxLen at hs
    go_enter Tryz.func18, Tryz.ntmps18
    go_wp2_with fail
    refine (isKind_any _ _).mono ?_
    rintro e w1 ⟨rfl, rfl⟩
    go_wp2
    go_ret
    exact ⟨ret_int HR.out.symm, (by go_grown)⟩
  | true =>
    cases h1 : formedB k n s with
    | false =>
      have HR : Hid (checkN kind k n s = 3) := Lib.hid (by unfold checkN; simp only [h0, h1]; simp_all)
      unfold maxLen at hs
      go_enter Tryz.func18, Tryz.ntmps18
      go_wp2_with fail
      refine (isKind_any _ _).mono ?_
      rintro e w1 ⟨rfl, rfl⟩
      go_wp2_with fail
      refine (formed_any _ _ _ _).mono ?_
      rintro e w2 ⟨rfl, hb2⟩
      obtain ⟨hc2, hf2⟩ := bcell hb2
      have hz2_0 : w.heap.size < w2.heap.size := by have := hb2.size; (try simp at this); omega
      go_wp2
      go_ret
      exact ⟨ret_int HR.out.symm, (below_call (by go_grown) hb2)⟩
    | true =>
      by_cases h2 : k = 0
      · have h2b : (k == 0) = true := by simp [h2]
        have HR : Hid (checkN kind k n s = 0) := Lib.hid (by unfold checkN; simp only [h0, h2]; simp_all)
        clear h2
        unfold maxLen at hs
        go_enter Tryz.func18, Tryz.ntmps18
        go_wp2_with fail
        refine (isKind_any _ _).mono ?_
        rintro e w1 ⟨rfl, rfl⟩
        go_wp2_with fail
        refine (formed_any _ _ _ _).mono ?_
        rintro e w2 ⟨rfl, hb2⟩
        obtain ⟨hc2, hf2⟩ := bcell hb2
        have hz2_0 : w.heap.size < w2.heap.size := by have := hb2.size; (try simp at this); omega
        go_wp2
        go_ret
        exact ⟨ret_int HR.out.symm, (below_call (by go_grown) hb2)⟩
      · have h2b : (k == 0) = false := by simp [h2]
        by_cases h3 : k = kind
        · have h3b : (k != kind) = false := by simp [h3]
          by_cases h4 : 100 < s.size
          · have HR : Hid (checkN kind k n s = 2) := Lib.hid (by unfold checkN; simp only [h0, h3, h4]; simp_all)
            clear h2 h3
            unfold maxLen at hs
            go_enter Tryz.func18, Tryz.ntmps18
            go_wp2_with fail
            refine (isKind_any _ _).mono ?_
            rintro e w1 ⟨rfl, rfl⟩
            go_wp2_with fail
            refine (formed_any _ _ _ _).mono ?_
            rintro e w2 ⟨rfl, hb2⟩
            obtain ⟨hc2, hf2⟩ := bcell hb2
            have hz2_0 : w.heap.size < w2.heap.size := by have := hb2.size; (try simp at this); omega
            go_wp2
            go_ret
            exact ⟨ret_int HR.out.symm, (below_call (by go_grown) hb2)⟩
          · cases h5 : inRangeB k n s with
            | false =>
              have HR : Hid (checkN kind k n s = 1) := Lib.hid (by unfold checkN; simp only [h0, h3, h4]; simp_all)
              clear h2 h3
              unfold maxLen at hs
              go_enter Tryz.func18, Tryz.ntmps18
              go_wp2_with fail
              refine (isKind_any _ _).mono ?_
              rintro e w1 ⟨rfl, rfl⟩
              go_wp2_with fail
              refine (formed_any _ _ _ _).mono ?_
              rintro e w2 ⟨rfl, hb2⟩
              obtain ⟨hc2, hf2⟩ := bcell hb2
              have hz2_0 : w.heap.size < w2.heap.size := by have := hb2.size; (try simp at this); omega
              go_wp2_with fail
              refine (inRange_any _ _ _ hs' _).mono ?_
              rintro e w3 ⟨rfl, hb3⟩
              obtain ⟨hc3, hf3⟩ := bcell hb3
              have hz3_0 : w.heap.size < w3.heap.size := by have := hb3.size; (try simp at this); omega
              go_wp2
              go_ret
              exact ⟨ret_int HR.out.symm, (below_call (below_call (by go_grown) hb2) hb3)⟩
            | true =>
              have HR : Hid (checkN kind k n s = 0) := Lib.hid (by unfold checkN; simp only [h0, h3, h4]; simp_all)
              clear h2 h3
              unfold maxLen at hs
              go_enter Tryz.func18, Tryz.ntmps18
              go_wp2_with fail
              refine (isKind_any _ _).mono ?_
              rintro e w1 ⟨rfl, rfl⟩
              go_wp2_with fail
              refine (formed_any _ _ _ _).mono ?_
              rintro e w2 ⟨rfl, hb2⟩
              obtain ⟨hc2, hf2⟩ := bcell hb2
              have hz2_0 : w.heap.size < w2.heap.size := by have := hb2.size; (try simp at this); omega
              go_wp2_with fail
              refine (inRange_any _ _ _ hs' _).mono ?_
              rintro e w3 ⟨rfl, hb3⟩
              obtain ⟨hc3, hf3⟩ := bcell hb3
              have hz3_0 : w.heap.size < w3.heap.size := by have := hb3.size; (try simp at this); omega
              go_wp2
              go_ret
              exact ⟨ret_int HR.out.symm, (below_call (below_call (by go_grown) hb2) hb3)⟩
        · have h3b : (k != kind) = true := by simp [h3]
          have HR : Hid (checkN kind k n s = 8) := Lib.hid (by unfold checkN; simp only [h0, h1, h2]; simp_all)
          clear h2 h3
          unfold maxLen at hs
          go_enter Tryz.func18, Tryz.ntmps18
          go_wp2_with fail
          refine (isKind_any _ _).mono ?_
          rintro e w1 ⟨rfl, rfl⟩
          go_wp2_with fail
          refine (formed_any _ _ _ _).mono ?_
          rintro e w2 ⟨rfl, hb2⟩
          obtain ⟨hc2, hf2⟩ := bcell hb2
          have hz2_0 : w.heap.size < w2.heap.size := by have := hb2.size; (try simp at this); omega
          go_wp2
          go_ret
          exact ⟨ret_int HR.out.symm, (below_call (by go_grown) hb2)⟩
end YtabojeleomfgnaaGreatDoor
end Go.Proofs
