/- ExprRead of the text add(:a,5). -/
import Derived.Test.YtabojeleomfgnaaGreatDoorI1
namespace Go.Proofs
open Go.RowKit
namespace YtabojeleomfgnaaGreatDoor
set_option maxRecDepth 100000
/-- ExprRead has read add(:a,5): its Args lie at block b -/
def ReadAdd (w : World) (e : Ending) (w' : World) : Prop :=
  ∃ b cap, e = .returned (.tuple #[EADD b cap, .int .i64 0]) ∧ Two b w' ∧ w.heap.size ≤ b ∧ Below w.heap.size w w'
set_option maxHeartbeats 2000000 in
theorem exprRead_add (w : World) (ho : Ops w) : Calls Tryz.prog 83 #[.string T0] w (ReadAdd w) := by
  have O0 : Hid (Ops ((w.alloc (.cells Z13 70)).alloc (.cells #[.string T0] 150))) := ho.below (by go_grown)
  have h1 : 1 < w.heap.size := ho.lt
  clear ho
  go_enter Tryz.func83, Tryz.ntmps83
  go_wp2_with fail
  refine (expr_add (w.heap.size + 1) _ (new_at _ _ _ (by simp)) O0.out (by omega)).mono ?_
  rintro e w1 ⟨b, cap, rfl, ho1, hr1, hk1⟩
  have HB1 : Hid (w1.heap[w.heap.size]? = some (.cells Z13 70 (0, 0))) := (hk1.block _ (by simp only [World.size_alloc]; omega) (by omega)).trans ((heap_alloc_old _ _ (by simp)).trans (heap_alloc_new w _))
  have TT1 := Lib.hid (two_of ho1)
  have BB : Hid (w.heap.size + 1 + 1 ≤ b) := Nat.le_trans (by simp) (ho1.lt b rfl).1
  have LW : Hid (Below w.heap.size w w1) := keeps_above (by go_grown) hk1 (by omega)
  have RR1 := Lib.hid hr1
  have HZ1 : Hid (w.heap.size < w1.heap.size) := lt_of_block HB1.out
  have HR1 : w.heap.size + 1 < w1.heap.size := lt_of_block hr1
  have c1 := cell_of_one RR1.out
  clear ho1 hr1 hk1 O0
  go_wp2_with fail
  refine (tooLarge_add b cap _ (TT1.out.below ((Below.refl _ _).alloc (Nat.le_refl _) _))).mono ?_
  rintro e w2 ⟨rfl, hb2⟩
  have HE2 : Hid (w2.heap[w1.heap.size]? = some (.cells (exprC 4 12 0 0 0 ⟨#[]⟩ ⟨#[]⟩ ⟨#[]⟩ (.slice (some ⟨b, 0, none⟩) 2 cap)) 70 (0, 0))) := (hb2.block _ (by simp)).trans (heap_alloc_new w1 _)
  have HB2 : Hid (w2.heap[w.heap.size]? = some (.cells Z13 70 (0, 0))) := (hb2.block _ (Nat.lt_of_lt_of_le HZ1.out (by simp))).trans ((heap_alloc_old _ _ HZ1.out).trans HB1.out)
  have TT2 := Lib.hid ((TT1.out.below ((Below.refl _ _).alloc (Nat.le_refl _) _)).below hb2)
  have L2 : Hid (Below w.heap.size w w2) := below_call (LW.out.alloc (Nat.le_of_lt HZ1.out) _) hb2
  clear hb2
  go_wp2_with (first | (refine load_expr ?_ (.tmp 5) ?_ w1.heap.size (exprC 4 12 0 0 0 ⟨#[]⟩ ⟨#[]⟩ ⟨#[]⟩ (.slice (some ⟨b, 0, none⟩) 2 cap)) ?_ ?_ ?_ ?_; exact rfl; exact rfl; exact rfl; exact HE2.out; exact rfl) | (refine store_expr ?_ (.tmp 2) (.tmp 28) ?_ w.heap.size (exprC 4 12 0 0 0 ⟨#[]⟩ ⟨#[]⟩ ⟨#[]⟩ (.slice (some ⟨b, 0, none⟩) 2 cap)) ?_ ?_ Z13 ?_ ?_ ?_ ?_ ?_; exact rfl; exact rfl; exact rfl; exact rfl; exact HB2.out; exact rfl; exact rfl; simp [Value.oneCell']; intro w3 hp3; have HP3 := Lib.hid hp3; clear hp3))
  refine bodyPost_ret (results_expr_bool rfl _ _ w.heap.size (exprC 4 12 0 0 0 ⟨#[]⟩ ⟨#[]⟩ ⟨#[]⟩ (.slice (some ⟨b, 0, none⟩) 2 cap)) ?_ HP3.out.at' rfl) rfl ?_
  · rfl
  · have hbb := BB.out
    exact ⟨b, cap, rfl, TT2.out.keeps HP3.out.keeps (by omega), by omega, HP3.out.below L2.out (Nat.le_refl _)⟩
end YtabojeleomfgnaaGreatDoor
end Go.Proofs
