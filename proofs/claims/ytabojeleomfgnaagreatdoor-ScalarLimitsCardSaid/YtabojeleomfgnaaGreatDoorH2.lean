/- The reader at the whole text: the expression add(:a,5). -/
import Derived.Test.YtabojeleomfgnaaGreatDoorH1
namespace Go.Proofs
open Go.RowKit
namespace YtabojeleomfgnaaGreatDoor
set_option maxRecDepth 100000
set_option maxHeartbeats 1000000 in
theorem cwpADD (b cap : Nat) (w : World) (ho : Ops w) : Calls Tryz.prog 213 #[EADD b cap] w fun e w' => e = .returned (.int .i64 0) ∧ Below w.heap.size w w' := by
  have O0 := fun o => Lib.hid (ho.below ((Below.refl _ _).alloc (Nat.le_refl _) o))
  clear ho
  go_enter Tryz.func213, Tryz.ntmps213
  go_wp2_with fail
  refine (cpADD b cap _ (O0 _).out.count12 (O0 _).out.lt).mono ?_
  rintro e w1 ⟨rfl, hb1⟩
  obtain ⟨hc1, hf1⟩ := bcell hb1
  have hz1_0 : w.heap.size < w1.heap.size := lt_after hb1 (by (try simp only [World.size_alloc]); repeat (first | (with_reducible assumption) | exact Nat.lt_add_one _ | apply Nat.lt_add_one_of_lt))
  clear O0
  go_wp2
  go_quiet (fail)
  go_wp2
  go_ret
  exact ⟨rfl, below_drewN (below_call (by go_grown) hb1) _⟩
theorem own_puts {w w' : World} {n g : Nat} {v : Value} {xs : List Value} {cells : Array Value} {t : TypeId} (h : w.ownsRow (g + 1) 70 13 v n xs) (hP : Puts g cells t w w') : w'.ownsRow (g + 1) 70 13 v n xs :=
  h.kept (row := some g) ⟨hP.keeps.os, hP.keeps.tape, hP.keeps.output, hP.keeps.size, fun k hk1 hk2 => hP.keeps.block k hk1 (fun e => hk2 (by rw [e]))⟩ (by
    cases hv : v.ownBlock with
    | none => exact .inl rfl
    | some k => exact .inr (fun e => by have := (h.lt k hv).1; simp only [Option.some.injEq] at e; omega))
theorem own_below {w w' : World} {B n : Nat} {v : Value} {xs : List Value} (h : w.ownsRow B 70 13 v n xs) (hb : Below w.heap.size w w') : w'.ownsRow B 70 13 v n xs :=
  h.kept (row := none) ⟨hb.os, hb.tape, hb.output, hb.size, fun k hk1 _ => hb.block k hk1⟩ (by
    cases hv : v.ownBlock with
    | none => exact .inl rfl
    | some k => exact .inr (fun e => by cases e))
def Sy (p g4 g : Nat) (T : ByteArray) (b cap : Nat) (w0 w : World) : Prop :=
  w.heap[g4]? = some (.cells (exprC 4 12 0 0 0 ⟨#[]⟩ ⟨#[]⟩ ⟨#[]⟩ (.slice (some ⟨b, 0, none⟩) 2 cap)) 70 (0, 0)) ∧ (∃ X : Array Value, X.size = 13 ∧ w.heap[g]? = some (.cells X 70 (0, 0))) ∧ Rd w p T ∧ Keeps p w0 w ∧ w.ownsRow (g + 1) 70 13 (.slice (some ⟨b, 0, none⟩) 2 cap) 2 (CA ++ C5) ∧ Ops w
theorem Sy.below {p g4 g b cap : Nat} {T : ByteArray} {w0 w w' : World} (h : Sy p g4 g T b cap w0 w) (hb : Below w.heap.size w w') : Sy p g4 g T b cap w0 w' := by
  obtain ⟨h1, ⟨X, hX, h2⟩, h3, h4, h5, h6⟩ := h
  exact ⟨(hb.block _ (lt_of_block h1)).trans h1, ⟨X, hX, (hb.block _ (lt_of_block h2)).trans h2⟩, (hb.block _ (lt_of_block h3)).trans h3, h4.trans (Keeps.of_below hb), own_below h5 hb, h6.below hb⟩
set_option maxHeartbeats 2000000 in
theorem expr_add (p : Nat) (w : World) (hr : Rd w p T0) (ho : Ops w) (hp1 : 1 < p) : Calls Tryz.prog 165 #[.pointer (some ⟨p, 0, none⟩)] w (AddedAt p (w.heap.size + 1) w) := by
  have hp : p < w.heap.size := lt_of_block hr
  have R0 : Hid (Rd (w.alloc (.cells Z13 70)) p T0) := rd_alloc hr _
  have O0 : Hid (Ops (w.alloc (.cells Z13 70))) := ho.below ((Below.refl _ _).alloc (Nat.le_refl _) _)
  clear hr ho
  go_enter Tryz.func165, Tryz.ntmps165
  go_wp2_with fail
  refine (part_add p _ R0.out O0.out hp1).mono ?_
  rintro e w1 ⟨b, cap, rfl, ho1, hr1, hk1⟩
  have OO1 := Lib.hid ho1
  have O1 : Hid (Ops w1) := O0.out.keeps hk1 hp1
  clear ho1
  have RR1 := Lib.hid hr1
  have KK1 := Lib.hid hk1
  clear hr1 hk1
  have HB1 : Hid (w1.heap[w.heap.size]? = some (.cells #[.int .i64 0, .int .i64 0, .int .i64 0, .int .i64 0, .int .i64 0, .string ⟨#[]⟩, .string ⟨#[]⟩, .string ⟨#[]⟩, .bool false, nilS, nilS, nilS, nilS] 70 (0, 0))) := (KK1.out.block _ (by simp) (Nat.ne_of_gt hp)).trans (heap_alloc_new w _)
  have HZ1 : Hid (w.heap.size < w1.heap.size) := lt_of_block HB1.out
  go_wp2_with fail
  have hS : Sy p w1.heap.size w.heap.size T7 b cap w (w1.alloc (.cells (exprC 4 12 0 0 0 ⟨#[]⟩ ⟨#[]⟩ ⟨#[]⟩ (.slice (some ⟨b, 0, none⟩) 2 cap)) 70)).drew :=
    ⟨heap_alloc_new w1 _, ⟨_, rfl, (heap_alloc_old _ _ HZ1.out).trans HB1.out⟩, rd_alloc RR1.out _, ((((Keeps.refl p w).alloc _).trans KK1.out).alloc _).drew, ((own_base OO1.out (by simp)).alloc _).drew, O1.out.below (((Below.refl _ _).alloc (Nat.le_refl _) _).drew)⟩
  refine wp_region_held_drew (S := Sy p w1.heap.size w.heap.size T7 b cap w) (by kernel_rfl) hS ?_
  intro hS0
  clear hS
  generalize (w1.alloc (.cells (exprC 4 12 0 0 0 ⟨#[]⟩ ⟨#[]⟩ ⟨#[]⟩ (.slice (some ⟨b, 0, none⟩) 2 cap)) 70)).drew = wd at hS0 ⊢
  refine wpAnyH_take (i := 0) (oi := ⟨some 11, _, _, _, _, _⟩) (v := exprV 4 12 0 0 0 ⟨#[]⟩ ⟨#[]⟩ ⟨#[]⟩ (.slice (some ⟨b, 0, none⟩) 2 cap)) rfl (by kernel_rfl) (by kernel_rfl) (by kernel_rfl) (fun _ _ _ h => h) (yld_load70 rfl (.tmp 4) rfl w1.heap.size _ rfl rfl (fun _ h => h.1)) hS0 ?_
  simp only [Act.put, List.setIfInBounds_toArray, List.set_cons_zero, List.set_cons_succ]
  refine wpAnyH_take (i := 1) (oi := ⟨some 12, _, _, _, _, _⟩) (v := .bool true) rfl (by kernel_rfl) (by kernel_rfl) (by kernel_rfl) (fun _ _ _ h => h) (Or.inl ⟨rfl, fun _ _ => rfl⟩) hS0 ?_
  simp only [Act.put, List.setIfInBounds_toArray, List.set_cons_zero, List.set_cons_succ]
  refine wpAnyH_take (i := 2) (oi := ⟨some 13, _, _, _, _, _⟩) (v := .bool true) rfl (by kernel_rfl) (by kernel_rfl) (by kernel_rfl) (fun _ _ _ h => h) (Or.inl ⟨rfl, fun _ _ => rfl⟩) hS0 ?_
  simp only [Act.put, List.setIfInBounds_toArray, List.set_cons_zero, List.set_cons_succ]
  refine wpAnyH_take (i := 3) (oi := ⟨some 14, _, _, _, _, _⟩) (v := exprV 4 12 0 0 0 ⟨#[]⟩ ⟨#[]⟩ ⟨#[]⟩ (.slice (some ⟨b, 0, none⟩) 2 cap)) rfl (by kernel_rfl) (by kernel_rfl) (by kernel_rfl) (fun _ _ _ h => h) (yld_load70 rfl (.tmp 4) rfl w1.heap.size _ rfl rfl (fun _ h => h.1)) hS0 ?_
  simp only [Act.put, List.setIfInBounds_toArray, List.set_cons_zero, List.set_cons_succ]
  refine wpAnyH_ready (rs := [4]) (by kernel_rfl) (by simp) ?_
  refine AllReadyH.cons rfl (fun K hK => ?_) AllReadyH.nil
  go_simp
  refine (cwpADD b cap _ hS0.2.2.2.2.2).mono ?_
  rintro e w3 ⟨rfl, hb3⟩
  refine hK.out _ _ (hS0.below hb3) ?_
  clear hK K hb3 hS0
  intro hS3
  refine wpAnyH_take (i := 5) (oi := ⟨some 16, _, _, _, _, _⟩) (v := .bool true) rfl (by kernel_rfl) (by kernel_rfl) (by kernel_rfl) (fun _ _ _ h => h) (Or.inl ⟨rfl, fun _ _ => by go_simp⟩) hS3 ?_
  simp only [Act.put, List.setIfInBounds_toArray, List.set_cons_zero, List.set_cons_succ]
  refine wpAnyH_take (i := 6) (oi := ⟨some 17, _, _, _, _, _⟩) (v := .bool true) rfl (by kernel_rfl) (by kernel_rfl) (by kernel_rfl) (fun _ _ _ h => h) (Or.inl ⟨rfl, fun _ _ => by go_simp⟩) hS3 ?_
  simp only [Act.put, List.setIfInBounds_toArray, List.set_cons_zero, List.set_cons_succ]
  refine wpAnyH_ready (rs := [7]) (by kernel_rfl) (by simp) ?_
  refine AllReadyH.cons rfl (fun K hK => ?_) AllReadyH.nil
  rw [if_pos (by rfl)]
  obtain ⟨h1, ⟨X, hX, h2⟩, h3, h4, h5, h6⟩ := hS3
  refine wp_store_row 70 (.tmp 2) (.tmp 11) rfl w.heap.size (exprC 4 12 0 0 0 ⟨#[]⟩ ⟨#[]⟩ ⟨#[]⟩ (.slice (some ⟨b, 0, none⟩) 2 cap)) rfl rfl 70 X h2 size70 hX (by simp [Value.oneCell']) ?_
  have hP := puts_setRow (cells := exprC 4 12 0 0 0 ⟨#[]⟩ ⟨#[]⟩ ⟨#[]⟩ (.slice (some ⟨b, 0, none⟩) 2 cap)) h2
  generalize w3.setRow w.heap.size (exprC 4 12 0 0 0 ⟨#[]⟩ ⟨#[]⟩ ⟨#[]⟩ (.slice (some ⟨b, 0, none⟩) 2 cap)) = w4 at hP ⊢
  have hS4 : Sy p w1.heap.size w.heap.size T7 b cap w w4 :=
    ⟨(hP.keeps.block _ (lt_of_block h1) (Nat.ne_of_gt HZ1.out)).trans h1, ⟨_, rfl, hP.at'⟩, hP.rd h3 (Nat.ne_of_lt hp), hP.keeps_old h4 (Nat.le_refl _), own_puts h5 hP, h6.keeps hP.keeps (Nat.lt_trans hp1 hp)⟩
  refine hK.out _ _ hS4 ?_
  clear hK K h1 h2 h3 h4 h5 h6
  intro hS5
  simp only [Act.put, List.setIfInBounds_toArray]
  refine wpAnyH_take (i := 8) (oi := ⟨some 3, _, _, _, _, _⟩) (v := .bool true) rfl (by kernel_rfl) (by kernel_rfl) (by kernel_rfl) (fun _ _ _ h => h) (Or.inl ⟨rfl, fun _ _ => by go_simp⟩) hS5 ?_
  simp only [Act.put]
  refine wpAnyH_done (by kernel_rfl) ?_ _
  have HP4 := Lib.hid hP
  have HS4 := Lib.hid hS4
  clear hP hS4 hS5
  go_wp2
  refine bodyPost_ret (results_expr_bool rfl _ _ w.heap.size (exprC 4 12 0 0 0 ⟨#[]⟩ ⟨#[]⟩ ⟨#[]⟩ (.slice (some ⟨b, 0, none⟩) 2 cap)) ?_ HP4.out.at' rfl) rfl ?_
  · rfl
  · exact ⟨b, cap, rfl, HS4.out.2.2.2.2.1, HS4.out.2.2.1, HS4.out.2.2.2.1⟩
end YtabojeleomfgnaaGreatDoor
end Go.Proofs
