/- The reader at the head add: the walk. -/
import Derived.Test.YtabojeleomfgnaaGreatDoorG1
import Derived.Deep.DeepMust
namespace Go.Proofs
open Go.RowKit
namespace YtabojeleomfgnaaGreatDoor
set_option maxRecDepth 100000
abbrev CA : List Value := (exprC 3 0 0 0 0 ⟨#[]⟩ ⟨#[]⟩ SA nilS).toList
abbrev C5 : List Value := (exprC 1 0 0 2 5 ⟨#[]⟩ ⟨#[]⟩ ⟨#[]⟩ nilS).toList
theorem news_cells (w : World) (C : Array Value) (o : Obj) (j : Nat) (u : Value) (h : C.toList[j]? = some u) : ((w.alloc o).alloc (.cells C 70)).cell? ((⟨w.heap.size + 1, 0, none⟩ : Addr).add j) = some u := by
  have hadd : (⟨w.heap.size + 1, 0, none⟩ : Addr).add j = ⟨w.heap.size + 1, j, none⟩ := by unfold Addr.add; split <;> simp_all
  rw [hadd]
  have hh := heap_alloc_new (w.alloc o) (.cells C 70)
  rw [World.size_alloc] at hh
  rw [cell_of_row _ _ j _ _ _ hh]
  simpa using h
theorem CS.grown9 {p g ge n : Nat} {T : ByteArray} {V : Value} {xs : List Value} {w0 w w' : World} (h : CS p g ge n T V xs w0 w) (hg : w.grownBy w' V.ownBlock) : w'.cell? ⟨ge, 9, none⟩ = some V ∧ w'.frozen? ⟨ge, 9, none⟩ = false := by
  have h2 := (hg.block ge (lt_of_block h.head) (fun e => by have := (h.own.lt ge e.symm).1; omega)).trans h.head
  exact ⟨(cell_of_row w' ge 9 _ _ _ h2).trans rfl, frozen_of_row w' ge 9 _ _ h2⟩
theorem load_expr {ops : Array Oper} {rest : List Oper} {o : Oper} {a : Act} {w : World} {Q : Exit → Act → World → Prop} (hgd : o.guard = none) (x : Operand) (ho : o.op = .load 70 x)
    (g : Nat) (cells : Array Value) (hx : a.eval x = .pointer (some ⟨g, 0, none⟩)) (hg : w.heap[g]? = some (.cells cells 70 (0, 0))) (hc : cells.size = 13)
    (h : wpList Tryz.prog ops Q rest (a.put o.dst (.agg cells)) w) : wpList Tryz.prog ops Q (o :: rest) a w :=
  wpList_load_row hgd 70 x ho g hx 70 cells (0, 0) _ hg Tryz.underlying70 rfl (by rw [hc]; exact size70) h
theorem own_base {w : World} {B B' n : Nat} {e : TypeId} {size : Nat} {v : Value} {xs : List Value} (h : w.ownsRow B e size v n xs) (hB : B' ≤ B) : w.ownsRow B' e size v n xs :=
  ⟨h.1, h.2.imp id fun ⟨g, cap, cur, h1, h2, h3⟩ => ⟨g, cap, cur, h1, Nat.le_trans hB h2, h3⟩⟩
/-- what comes of the head add -/
def Added (p : Nat) (w : World) (e : Ending) (w' : World) : Prop :=
  ∃ b cap, e = .returned (.tuple #[EADD b cap, .bool true]) ∧ w'.ownsRow w.heap.size 70 13 (.slice (some ⟨b, 0, none⟩) 2 cap) 2 (CA ++ C5) ∧ Rd w' p T7 ∧ Keeps p w w'
set_option maxHeartbeats 2000000 in
theorem call_add (p : Nat) (w : World) (hr : Rd w p T2) (ho : Ops w) (_hp1 : 1 < p) : Calls Tryz.prog 269 #[.pointer (some ⟨p, 0, none⟩), .string SADD] w (Added p w) := by
  obtain ⟨i70, hi, hz0, hz1, hz2⟩ := info_parts info70
  have hp : p < w.heap.size := lt_of_block hr
  have R0 : Hid (Rd (w.alloc (.cells Z13 70)) p T2) := rd_alloc hr _
  have O0 : Hid (Ops (w.alloc (.cells Z13 70))) := ho.below ((Below.refl _ _).alloc (Nat.le_refl _) _)
  clear hr ho
  go_enter Tryz.func269, Tryz.ntmps269
  go_wp2_with fail
  refine (head_add _ O0.out).mono ?_
  rintro e w1 ⟨rfl, hb1⟩
  have C0 : Hid (CS p w.heap.size w1.heap.size 0 T2 nilS [] w (w1.alloc (.cells (exprC 4 12 0 0 0 ⟨#[]⟩ ⟨#[]⟩ ⟨#[]⟩ nilS) 70))) := by
    have hres := (hb1.block w.heap.size (by simp)).trans (heap_alloc_new w _)
    have hrd := (hb1.block p (lt_of_block R0.out)).trans R0.out
    exact ⟨rd_alloc hrd _, heap_alloc_new w1 _, (heap_alloc_old _ _ (lt_of_block hres)).trans hres, (((Keeps.refl p w).alloc _).trans (Keeps.of_below hb1)).alloc _, World.ownsRow_nil _ _ _ _, hp, lt_of_block hres, Nat.le_refl _⟩
  clear hb1
  go_wp2_with fail
  generalize w1.alloc (.cells (exprC 4 12 0 0 0 ⟨#[]⟩ ⟨#[]⟩ ⟨#[]⟩ nilS) 70) = wa at C0 ⊢
  refine wp_loop_rounds 2 ?_
  rw [rounds_succ]
  go_wp2_with fail
  refine (exprA p _ C0.out.rd).mono ?_
  rintro e w2 ⟨rfl, hr2, hk2⟩
  have C1 := Lib.hid (C0.out.goes hk2 hr2)
  clear hr2 hk2 C0
  have x9 := C1.out.cell9
  have l2 : w1.heap.size < w2.heap.size := lt_of_block C1.out.head
  go_wp2_with (at_builtin; go_must (refine wpList_append_own _ rfl (.tmp 27) (.tmp 29) 66 rfl (w1.heap.size + 1) 70 i70 (.agg Z13) 13 192 Tryz.underlying66 hi hz0 hz1 hz2 rfl (by decide) nilS 0 [] rfl (((C1.out.alloc _).alloc _).own) ⟨w2.heap.size + 1, 0, none⟩ 1 1 CA rfl rfl (news_cells _ _ _) (by decide) (by decide) (by decide) (by simp; omega) ?_); intro v2 q2 hq2 hg2 _; obtain ⟨b2, cap2, rfl, hbb2⟩ := own_some hq2; obtain ⟨y2, z2⟩ := ((C1.out.alloc _).alloc _).grown9 hg2; have D2 := Lib.hid (((C1.out.alloc _).alloc _).grows hg2 hq2); clear hq2 hg2)
  refine (takeByte_other p T4 41 _ D2.out.rd e4 (by decide) (by decide)).mono ?_
  rintro e w9 ⟨rfl, rfl⟩
  go_wp2_with fail
  refine (takeByte_yes p T4 44 _ D2.out.rd e4 (by decide) (by decide)).mono ?_
  rintro e w3 ⟨rfl, hr3, hk3⟩
  have C3 : Hid (CS p w.heap.size w1.heap.size 1 T5 _ _ w w3) := D2.out.goes hk3 hr3
  clear hr3 hk3 D2
  go_wp2_with fail
  rw [rounds_succ]
  go_wp2_with fail
  refine (expr5 p _ C3.out.rd).mono ?_
  rintro e w4 ⟨rfl, hr4, hk4⟩
  have C4 := Lib.hid (C3.out.goes hk4 hr4)
  clear hr4 hk4 C3
  clear x9 y2 z2
  have x9 := C4.out.cell9
  have l4 : w1.heap.size < w4.heap.size := lt_of_block C4.out.head
  go_wp2_with (at_builtin; go_must (refine wpList_append_own _ rfl (.tmp 27) (.tmp 29) 66 rfl (w1.heap.size + 1) 70 i70 (.agg Z13) 13 192 Tryz.underlying66 hi hz0 hz1 hz2 rfl (by decide) _ 1 _ rfl (((C4.out.alloc _).alloc _).own) ⟨w4.heap.size + 1, 0, none⟩ 1 1 C5 rfl rfl (news_cells _ _ _) (by decide) (by decide) (by decide) (by simp; omega) ?_); intro v4 q4 hq4 hg4 _; obtain ⟨b4, cap4, rfl, hbb4⟩ := own_some hq4; obtain ⟨y4, z4⟩ := ((C4.out.alloc _).alloc _).grown9 hg4; have D4 := Lib.hid (((C4.out.alloc _).alloc _).grows hg4 hq4); clear hq4 hg4)
  refine (takeByte_yes p T6 41 _ D4.out.rd e6 (by decide) (by decide)).mono ?_
  rintro e w5 ⟨rfl, hr5, hk5⟩
  have C6 : Hid (CS p w.heap.size w1.heap.size 2 T7 _ _ w w5) := D4.out.goes hk5 hr5
  clear hr5 hk5 D4 x9 y4 z4
  go_wp2_with (first | (refine load_expr ?_ (.tmp 6) ?_ w1.heap.size (exprC 4 12 0 0 0 ⟨#[]⟩ ⟨#[]⟩ ⟨#[]⟩ (.slice (some ⟨b4, 0, none⟩) 2 cap4)) ?_ ?_ ?_ ?_; exact rfl; exact rfl; exact rfl; exact C6.out.head; exact rfl) | (refine store_expr ?_ (.tmp 4) (.tmp 34) ?_ w.heap.size (exprC 4 12 0 0 0 ⟨#[]⟩ ⟨#[]⟩ ⟨#[]⟩ (.slice (some ⟨b4, 0, none⟩) 2 cap4)) ?_ ?_ Z13 ?_ ?_ ?_ ?_ ?_; exact rfl; exact rfl; exact rfl; exact rfl; exact C6.out.res; exact rfl; exact rfl; simp [Value.oneCell']; intro w6 hp6; have HP6 := Lib.hid hp6; clear hp6))
  refine bodyPost_ret (results_expr_bool rfl _ _ w.heap.size (exprC 4 12 0 0 0 ⟨#[]⟩ ⟨#[]⟩ ⟨#[]⟩ (.slice (some ⟨b4, 0, none⟩) 2 cap4)) ?_ HP6.out.at' rfl) rfl ?_
  · rfl
  · have h6 := C6.out
    have k6 := HP6.out.keeps
    refine ⟨b4, cap4, rfl, own_base ?_ (Nat.le_trans (Nat.le_of_lt h6.gge) (Nat.le_succ _)), HP6.out.rd h6.rd (Nat.ne_of_lt hp), HP6.out.keeps_old h6.keeps (Nat.le_refl _)⟩
    exact h6.own.kept (row := some w.heap.size) ⟨k6.os, k6.tape, k6.output, k6.size, fun k hk1 hk2 => k6.block k hk1 (fun e => hk2 (by rw [e]))⟩ (.inr (fun e => by
      have h7 := (h6.own.lt b4 rfl).1
      have h8 := h6.gge
      simp only [Value.ownBlock, Option.some.injEq] at e
      omega))
end YtabojeleomfgnaaGreatDoor
end Go.Proofs
