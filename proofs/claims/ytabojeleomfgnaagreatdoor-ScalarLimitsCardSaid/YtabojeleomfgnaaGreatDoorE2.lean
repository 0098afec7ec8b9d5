/- The reader: an expression is a part that has a text. -/
import Derived.Test.YtabojeleomfgnaaGreatDoorE1
namespace Go.Proofs
open Go.RowKit
namespace YtabojeleomfgnaaGreatDoor
set_option maxRecDepth 100000
abbrev Z13 : Array Value := #[.int .i64 0, .int .i64 0, .int .i64 0, .int .i64 0, .int .i64 0, .string ⟨#[]⟩, .string ⟨#[]⟩, .string ⟨#[]⟩, .bool false, nilS, nilS, nilS, nilS]
theorem yld_load70 {ops : Array Oper} {S : World → Prop} {o : Oper} {a : Act} (hw : Region.wanted o (yielded ops a.tmps) = true) (x : Operand) (ho : o.op = .load 70 x)
    (g : Nat) (C : Array Value) (hx : a.eval x = .pointer (some ⟨g, 0, none⟩)) (hC : C.size = 13) (hS : ∀ w, S w → w.heap[g]? = some (.cells C 70 (0, 0))) : YieldsIf Tryz.prog ops S o (.agg C) a :=
  .inl ⟨hw, fun w h => by
    unfold execOp
    simp only [ho, hx, Instr.loadAt, Instr.sureAddr, Sem.run_bind, Sem.run_pure, Result.andThen_ok, run_loadVar_row (P := Tryz.prog) w g 70 70 C (0, 0) _ (hS w h) Tryz.underlying70 rfl (by rw [hC]; exact size70)]⟩
theorem Keeps.drew {p : Nat} {a w : World} (h : Keeps p a w) : Keeps p a w.drew := ⟨h.os, h.tape, h.output, h.size, h.block⟩
/-- what holds while the expression is checked: the part's cells at g4, the result's at g, the reader -/
def Sx (p g4 g : Nat) (C : Array Value) (T : ByteArray) (w0 w : World) : Prop :=
  w.heap[g4]? = some (.cells C 70 (0, 0)) ∧ (∃ X : Array Value, X.size = 13 ∧ w.heap[g]? = some (.cells X 70 (0, 0))) ∧ Rd w p T ∧ Keeps p w0 w
theorem Sx.below {p g4 g : Nat} {C : Array Value} {T : ByteArray} {w0 w w' : World} (h : Sx p g4 g C T w0 w) (hb : Below w.heap.size w w') : Sx p g4 g C T w0 w' := by
  obtain ⟨h1, ⟨X, hX, h2⟩, h3, h4⟩ := h
  exact ⟨(hb.block _ (lt_of_block h1)).trans h1, ⟨X, hX, (hb.block _ (lt_of_block h2)).trans h2⟩, (hb.block _ (lt_of_block h3)).trans h3, h4.trans (Keeps.of_below hb)⟩
set_option maxRecDepth 100000 in
set_option maxHeartbeats 2000000 in
theorem expr_gen (F : World → Prop) (p : Nat) (T T' : ByteArray) (k op n vk vn : Int) (vs src name : ByteArray) (pa : Option Addr) (la ca : Nat) (w : World) (hr : Rd w p T)
    (hpart : ∀ w, Rd w p T → Calls Tryz.prog 218 #[.pointer (some ⟨p, 0, none⟩)] w fun e w' => e = .returned (.tuple #[exprV k op n vk vn vs src name (.slice pa la ca), .bool true]) ∧ Rd w' p T' ∧ Keeps p w w')
    (hF : ∀ w w', F w → Keeps p w w' → F w') (hw : F w)
    (hcwp : ∀ w, F w → Calls Tryz.prog 213 #[exprV k op n vk vn vs src name (.slice pa la ca)] w fun e w' => e = .returned (.int .i64 0) ∧ Below w.heap.size w w') :
    Calls Tryz.prog 165 #[.pointer (some ⟨p, 0, none⟩)] w fun e w' => e = .returned (.tuple #[exprV k op n vk vn vs src name (.slice pa la ca), .bool true]) ∧ Rd w' p T' ∧ Keeps p w w' := by
  have hp : p < w.heap.size := lt_of_block hr
  have R0 : Hid (Rd (w.alloc (.cells #[.int .i64 0, .int .i64 0, .int .i64 0, .int .i64 0, .int .i64 0, .string ⟨#[]⟩, .string ⟨#[]⟩, .string ⟨#[]⟩, .bool false, nilS, nilS, nilS, nilS] 70)) p T) := rd_alloc hr _
  have HF := Lib.hid hF
  have HW := Lib.hid hw
  have HC := Lib.hid hcwp
  have HPT := Lib.hid hpart
  clear hr hF hw hcwp hpart
  go_enter Tryz.func165, Tryz.ntmps165
  go_wp2_with fail
  refine (HPT.out _ R0.out).mono ?_
  rintro e w1 ⟨rfl, hr1, hk1⟩
  have RR1 := Lib.hid hr1
  have KK1 := Lib.hid hk1
  clear hr1 hk1
  have HB1 : Hid (w1.heap[w.heap.size]? = some (.cells #[.int .i64 0, .int .i64 0, .int .i64 0, .int .i64 0, .int .i64 0, .string ⟨#[]⟩, .string ⟨#[]⟩, .string ⟨#[]⟩, .bool false, nilS, nilS, nilS, nilS] 70 (0, 0))) := (KK1.out.block _ (by simp) (Nat.ne_of_gt hp)).trans (heap_alloc_new w _)
  have HZ1 : Hid (w.heap.size < w1.heap.size) := lt_of_block HB1.out
  go_wp2_with fail
  have hS : Sx p w1.heap.size w.heap.size (exprC k op n vk vn vs src name (.slice pa la ca)) T' w (w1.alloc (.cells (exprC k op n vk vn vs src name (.slice pa la ca)) 70)).drew :=
    ⟨heap_alloc_new w1 _, ⟨_, rfl, (heap_alloc_old _ _ HZ1.out).trans HB1.out⟩, rd_alloc RR1.out _, ((((Keeps.refl p w).alloc _).trans KK1.out).alloc _).drew⟩
  refine wp_region_held_drew (S := Sx p w1.heap.size w.heap.size (exprC k op n vk vn vs src name (.slice pa la ca)) T' w) (by kernel_rfl) hS ?_
  intro hS0
  clear hS
  generalize (w1.alloc (.cells (exprC k op n vk vn vs src name (.slice pa la ca)) 70)).drew = wd at hS0 ⊢
  refine wpAnyH_take (i := 0) (oi := ⟨some 11, _, _, _, _, _⟩) (v := exprV k op n vk vn vs src name (.slice pa la ca)) rfl (by kernel_rfl) (by kernel_rfl) (by kernel_rfl) (fun _ _ _ h => h) (yld_load70 rfl (.tmp 4) rfl w1.heap.size _ rfl rfl (fun _ h => h.1)) hS0 ?_
  simp only [Act.put, List.setIfInBounds_toArray, List.set_cons_zero, List.set_cons_succ]
  refine wpAnyH_take (i := 1) (oi := ⟨some 12, _, _, _, _, _⟩) (v := .bool true) rfl (by kernel_rfl) (by kernel_rfl) (by kernel_rfl) (fun _ _ _ h => h) (Or.inl ⟨rfl, fun _ _ => rfl⟩) hS0 ?_
  simp only [Act.put, List.setIfInBounds_toArray, List.set_cons_zero, List.set_cons_succ]
  refine wpAnyH_take (i := 2) (oi := ⟨some 13, _, _, _, _, _⟩) (v := .bool true) rfl (by kernel_rfl) (by kernel_rfl) (by kernel_rfl) (fun _ _ _ h => h) (Or.inl ⟨rfl, fun _ _ => rfl⟩) hS0 ?_
  simp only [Act.put, List.setIfInBounds_toArray, List.set_cons_zero, List.set_cons_succ]
  refine wpAnyH_take (i := 3) (oi := ⟨some 14, _, _, _, _, _⟩) (v := exprV k op n vk vn vs src name (.slice pa la ca)) rfl (by kernel_rfl) (by kernel_rfl) (by kernel_rfl) (fun _ _ _ h => h) (yld_load70 rfl (.tmp 4) rfl w1.heap.size _ rfl rfl (fun _ h => h.1)) hS0 ?_
  simp only [Act.put, List.setIfInBounds_toArray, List.set_cons_zero, List.set_cons_succ]
  refine wpAnyH_ready (rs := [4]) (by kernel_rfl) (by simp) ?_
  refine AllReadyH.cons rfl (fun K hK => ?_) AllReadyH.nil
  go_simp
  refine (HC.out _ (HF.out w wd HW.out hS0.2.2.2)).mono ?_
  rintro e w3 ⟨rfl, hb3⟩
  refine hK.out _ _ (hS0.below hb3) ?_
  clear hK K hb3 hS0
  intro hS3
  refine wpAnyH_take (i := 5) (oi := ⟨some 16, _, _, _, _, _⟩) (v := .bool true) rfl (by kernel_rfl) (by kernel_rfl) (by kernel_rfl) (fun _ _ _ h => h) (Or.inl ⟨rfl, fun _ _ => by go_simp⟩) hS3 ?_
  simp only [Act.put, List.setIfInBounds_toArray, List.set_cons_zero, List.set_cons_succ]
  refine wpAnyH_take (i := 6) (oi := ⟨some 17, _, _, _, _, _⟩) (v := .bool true) rfl (by kernel_rfl) (by kernel_rfl) (by kernel_rfl) (fun _ _ _ h => h) (Or.inl ⟨rfl, fun _ _ => by go_simp⟩) hS3 ?_
  simp only [Act.put, List.setIfInBounds_toArray, List.set_cons_zero, List.set_cons_succ]
  refine wpAnyH_ready (rs := [7]) (by kernel_rfl) (by simp) ?_
  refine AllReadyH.cons rfl (fun K hK => ?_) AllReadyH.nil
  rw [if_pos (by rfl)]
  obtain ⟨h1, ⟨X, hX, h2⟩, h3, h4⟩ := hS3
  refine wp_store_row 70 (.tmp 2) (.tmp 11) rfl w.heap.size (exprC k op n vk vn vs src name (.slice pa la ca)) rfl rfl 70 X h2 size70 hX (by simp [Value.oneCell']) ?_
  have hP := puts_setRow (cells := exprC k op n vk vn vs src name (.slice pa la ca)) h2
  generalize w3.setRow w.heap.size (exprC k op n vk vn vs src name (.slice pa la ca)) = w4 at hP ⊢
  have hS4 : Sx p w1.heap.size w.heap.size (exprC k op n vk vn vs src name (.slice pa la ca)) T' w w4 :=
    ⟨(hP.keeps.block _ (lt_of_block h1) (Nat.ne_of_gt HZ1.out)).trans h1, ⟨_, rfl, hP.at'⟩, hP.rd h3 (Nat.ne_of_lt hp), hP.keeps_old h4 (Nat.le_refl _)⟩
  refine hK.out _ _ hS4 ?_
  clear hK K h1 h2 h3 h4
  intro hS5
  simp only [Act.put, List.setIfInBounds_toArray]
  refine wpAnyH_take (i := 8) (oi := ⟨some 3, _, _, _, _, _⟩) (v := .bool true) rfl (by kernel_rfl) (by kernel_rfl) (by kernel_rfl) (fun _ _ _ h => h) (Or.inl ⟨rfl, fun _ _ => by go_simp⟩) hS5 ?_
  simp only [Act.put]
  refine wpAnyH_done (by kernel_rfl) ?_ _
  have HP4 := Lib.hid hP
  have HS4 := Lib.hid hS4
  clear hP hS4 hS5
  go_wp2
  refine bodyPost_ret (results_expr_bool rfl _ _ w.heap.size (exprC k op n vk vn vs src name (.slice pa la ca)) ?_ HP4.out.at' rfl) rfl ?_
  · rfl
  · exact ⟨rfl, HS4.out.2.2.1, HS4.out.2.2.2⟩
end YtabojeleomfgnaaGreatDoor
end Go.Proofs
