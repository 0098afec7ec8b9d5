/- The reference's fault, right. -/
import Derived.Test.YtabojeleomfgnaaGreatDoorA2
namespace Go.Proofs
open Go.RowKit
namespace YtabojeleomfgnaaGreatDoor
def outB (k n : Int) : Bool := (k == 1 && !inB n 0 1) || (k == 2 && !inB n (-999999999999999) 999999999999999) || (k == 4 && !inB n 0 253402300799)
def faultN (kind k n : Int) (s : ByteArray) : Int :=
  if inB k 0 4 = false then 3 else if (k != 3 && !s.toList.isEmpty) = true then 3 else if ((k == 3 || k == 0) && n != 0) = true then 3
  else if (kind != 0 && k != 0 && k != kind) = true then 8 else if 100 < s.size then 2 else if allOk s = false then 1 else if outB k n = true then 1 else 0
set_option maxHeartbeats 4000000 in
theorem fault_any (kind k n : Int) (s : ByteArray) (hs : s.size ≤ maxLen) (w : World) : Calls Tryz.prog 171 #[.int .i64 kind, val k n s] w fun e w' => e = .returned (.int .i64 (faultN kind k n s)) ∧ Below w.heap.size w w' := by
  have hs' := hs
  unfold maxLen at hs
  go_enter Tryz.func171, Tryz.ntmps171
  go_wp2_with (go_at_call 132; refine (rwithin_any _ _ _ _).mono ?_; rintro e w9 ⟨rfl, rfl⟩)
  all_goals (try (go_ret; refine ⟨ret_int ?_, (by go_grown)⟩; first | (simp_all [faultN, outB]; done) | (simp_all [faultN, outB]; omega) | (exfalso; simp_all; done)))
  all_goals (refine (plain_any _ hs' _).mono ?_; rintro e w1 ⟨rfl, hb1⟩; obtain ⟨hc1, hf1⟩ := bcell hb1; have hz1_0 : w.heap.size < w1.heap.size := by have := hb1.size; (try simp at this); omega)
  all_goals go_wp2_with (go_at_call 132; refine (rwithin_any _ _ _ _).mono ?_; rintro e w9 ⟨rfl, rfl⟩)
  all_goals (try (go_ret; refine ⟨ret_int ?_, (below_call (by go_grown) hb1)⟩; first | (simp_all [faultN, outB]; done) | (simp_all [faultN, outB]; omega) | (exfalso; simp_all; done)))
end YtabojeleomfgnaaGreatDoor
end Go.Proofs
