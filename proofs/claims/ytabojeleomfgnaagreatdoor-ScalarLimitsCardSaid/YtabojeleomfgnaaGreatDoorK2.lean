/- The kind of add(:a,5). -/
import Derived.Test.YtabojeleomfgnaaGreatDoorK1
import Derived.Deep.WholeRow
import Derived.Deep.DeepMust
namespace Go.Proofs
open Go.RowKit
namespace YtabojeleomfgnaaGreatDoor
set_option maxRecDepth 100000
abbrev C20 : Array Value := #[.int .i64 12, .int .i64 2, .int .i64 2, .int .i64 2, .int .i64 12, .int .i64 4, .int .i64 2, .int .i64 4, .int .i64 13, .int .i64 2, .int .i64 2, .int .i64 2, .int .i64 13, .int .i64 4, .int .i64 2, .int .i64 4, .int .i64 13, .int .i64 4, .int .i64 4, .int .i64 2]
abbrev Z20 : Array Value := #[.int .i64 0, .int .i64 0, .int .i64 0, .int .i64 0, .int .i64 0, .int .i64 0, .int .i64 0, .int .i64 0, .int .i64 0, .int .i64 0, .int .i64 0, .int .i64 0, .int .i64 0, .int .i64 0, .int .i64 0, .int .i64 0, .int .i64 0, .int .i64 0, .int .i64 0, .int .i64 0]
theorem size286 : (Tryz.prog.info? 286).map (·.size) = some 20 := by kernel_rfl
theorem index286 (w : World) : (Instr.index 286 (.agg C20) (.int .i64 0)).run Tryz.prog w = .ok (.agg #[.int .i64 12, .int .i64 2, .int .i64 2, .int .i64 2]) w := by kernel_rfl
set_option maxHeartbeats 2000000 in
theorem sumKind_22 (w : World) : Calls Tryz.prog 321 #[.int .i64 12, .int .i64 2, .int .i64 2] w fun e w' => e = .returned (.tuple #[.int .i64 2, .bool true]) ∧ Below w.heap.size w w' := by
  have i0 := index286
  go_enter Tryz.func321, Tryz.ntmps321
  go_wp2_with (first | (refine wpList_store_row ?_ 286 (.tmp 8) (.tmp 16) ?_ w.heap.size C20 ?_ ?_ 286 Z20 ?_ ?_ ?_ ?_ ?_; exact rfl; exact rfl; exact rfl; exact rfl; exact heap_alloc_new w _; exact size286; exact rfl; simp [Value.oneCell']; rw [World.setRow_alloc_new]) | (refine wpList_load_row ?_ 286 (.tmp 8) ?_ w.heap.size ?_ 286 C20 (0, 0) _ ?_ Tryz.underlying286 ?_ ?_ ?_; exact rfl; exact rfl; exact rfl; exact heap_alloc_new w _; exact rfl; exact size286))
  refine wp_loop_rounds 1 ?_
  rw [rounds_succ]
  go_wp2
  go_ret2
  exact ⟨rfl, by go_grown⟩
/-- two kinds, both Int, at block kb -/
structure Kin (kb : Nat) (w : World) : Prop where
  k0 : w.cell? ⟨kb, 0, none⟩ = some (.int .i64 2)
  k1 : w.cell? ⟨kb, 1, none⟩ = some (.int .i64 2)
  lt : kb < w.heap.size
set_option maxHeartbeats 2000000 in
theorem kindOfArgs_add (b cap kb kc : Nat) (w : World) (h : Kin kb w) (_h2 : 2 ≤ kc) : Calls Tryz.prog 250 #[EADD b cap, .slice (some ⟨kb, 0, none⟩) 2 kc] w fun e w' => e = .returned (.tuple #[.int .i64 2, .bool true]) ∧ Below w.heap.size w w' := by
  obtain ⟨k0, k1, hl⟩ := h
  have hl1 : kb < w.heap.size + 1 := by omega
  have hl2 : kb < w.heap.size + 1 + 1 := by omega
  go_enter Tryz.func250, Tryz.ntmps250
  go_wp2_with go_in
  go_region_held3 (fun w' => w'.cell? ⟨kb, 0, none⟩ = some (.int .i64 2) ∧ w'.cell? ⟨kb, 1, none⟩ = some (.int .i64 2)) (first | go_keep | (exact ⟨(hb1.cell (p := ⟨kb, 0, none⟩) (by simp; omega)).trans (by simp [*]), (hb1.cell (p := ⟨kb, 1, none⟩) (by simp; omega)).trans (by simp [*])⟩))
    (first | (go_at_call 321; refine (sumKind_22 _).mono ?_; rintro e w1 ⟨rfl, hb1⟩))
  go_wp2
  go_ret2
  exact ⟨rfl, below_call (by go_grown) hb1⟩
theorem info3 : (Tryz.prog.info? 3).map (fun i => (i.zero, i.size, i.bytes)) = some (some (.int .i64 0), 1, 8) := by kernel_rfl
theorem own_some1 {w : World} {base n : Nat} {e : TypeId} {size : Nat} {v : Value} {xs : List Value} (h : w.ownsRow base e size v (n + 1) xs) : ∃ b cap, v = .slice (some ⟨b, 0, none⟩) (n + 1) cap ∧ base ≤ b ∧ n + 1 ≤ cap := by
  obtain ⟨_, h | ⟨g, cap, cur, hv, hb, _, hn, _⟩⟩ := h
  · omega
  · exact ⟨g, cap, hv, hb, hn⟩
theorem news1 (w : World) (u0 : Value) (j : Nat) (u : Value) (h : [u0][j]? = some u) : (w.alloc (.cells #[u0] 3)).cell? ((⟨w.heap.size, 0, none⟩ : Addr).add j) = some u := by
  have hadd : (⟨w.heap.size, 0, none⟩ : Addr).add j = ⟨w.heap.size, j, none⟩ := by unfold Addr.add; split <;> simp_all
  rw [hadd, cell_of_row _ _ j _ _ _ (heap_alloc_new w _)]
  simpa using h
theorem kin_of {w : World} {B b cap : Nat} (h : w.ownsRow B 3 1 (.slice (some ⟨b, 0, none⟩) 2 cap) 2 [.int .i64 2, .int .i64 2]) : Kin b w := by
  have hc := h.cells (g := b) rfl
  have hadd : ∀ j, (⟨b, 0, none⟩ : Addr).add j = ⟨b, j, none⟩ := fun j => by unfold Addr.add; split <;> simp_all
  have h0 := hc 0 _ rfl
  have h1 := hc 1 _ rfl
  rw [hadd] at h0 h1
  exact ⟨h0, h1, (h.lt b rfl).2⟩
/-- while the kinds of the Args are gathered -/
structure KS (sc ec : Array Value) (n : Nat) (V : Value) (xs : List Value) (w0 w : World) : Prop where
  low : Below w0.heap.size w0 w
  scb : w.heap[w0.heap.size]? = some (.cells sc 131 (0, 0))
  exb : w.heap[w0.heap.size + 1]? = some (.cells ec 70 (0, 0))
  own : w.ownsRow (w0.heap.size + 2) 3 1 V n xs
theorem KS.room {sc ec : Array Value} {n : Nat} {V : Value} {xs : List Value} {w0 w : World} (h : KS sc ec n V xs w0 w) : w0.heap.size + 2 ≤ w.heap.size := lt_of_block h.exb
theorem KS.below {sc ec : Array Value} {n : Nat} {V : Value} {xs : List Value} {w0 w w' : World} (h : KS sc ec n V xs w0 w) (hb : Below w.heap.size w w') : KS sc ec n V xs w0 w' :=
  ⟨below_call h.low hb, (hb.block _ (lt_of_block h.scb)).trans h.scb, (hb.block _ (lt_of_block h.exb)).trans h.exb, h.own.kept (row := none) ⟨hb.os, hb.tape, hb.output, hb.size, fun k hk1 _ => hb.block k hk1⟩ (by
    cases hv : V.ownBlock with
    | none => exact .inl rfl
    | some k => exact .inr (fun e => by cases e))⟩
theorem KS.alloc {sc ec : Array Value} {n : Nat} {V : Value} {xs : List Value} {w0 w : World} (h : KS sc ec n V xs w0 w) (o : Obj) : KS sc ec n V xs w0 (w.alloc o) := h.below ((Below.refl _ _).alloc (Nat.le_refl _) o)
theorem KS.grows {sc ec : Array Value} {n m : Nat} {V V' : Value} {xs ys : List Value} {w0 w w' : World} (h : KS sc ec n V xs w0 w) (hg : w.grownBy w' V.ownBlock) (ho : w'.ownsRow (w0.heap.size + 2) 3 1 V' m ys) : KS sc ec m V' ys w0 w' := by
  have hne : ∀ k, k < w0.heap.size + 2 → some k ≠ V.ownBlock := fun k hk e => by have := (h.own.lt k e.symm).1; omega
  refine ⟨⟨hg.os.trans h.low.os, hg.tape.trans h.low.tape, hg.output.trans h.low.output, Nat.le_trans h.low.size hg.size, fun k hk => (hg.block k (Nat.lt_of_lt_of_le hk h.low.size) (hne k (by omega))).trans (h.low.block k hk)⟩, ?_, ?_, ho⟩
  · exact (hg.block _ (lt_of_block h.scb) (hne _ (by omega))).trans h.scb
  · exact (hg.block _ (lt_of_block h.exb) (hne _ (by omega))).trans h.exb
set_option maxHeartbeats 2000000 in
theorem kindOf_add (b cap bc : Nat) (pa : Option Addr) (w : World) (h : Col bc w) (ht : Two b w) (ho : Ops w) : Calls Tryz.prog 200 #[scopeV bc (.slice pa 0 0), EADD b cap] w fun e w' => e = .returned (.tuple #[.int .i64 2, .int .i64 0]) ∧ Below w.heap.size w w' := by
  obtain ⟨i3, hi, hz0, hz1, hz2⟩ := info_parts info3
  have H := fun w' => fun hb : Below w.heap.size w w' => Lib.hid (And.intro (h.below hb) (And.intro (ht.below hb) (ho.below hb)))
  clear h ht ho
  go_enter Tryz.func200, Tryz.ntmps200
  go_wp2_with fail
  have K0 : Hid (KS #[.slice (some ⟨bc, 0, none⟩) 1 1, .slice pa 0 0] (exprC 4 12 0 0 0 ⟨#[]⟩ ⟨#[]⟩ ⟨#[]⟩ (.slice (some ⟨b, 0, none⟩) 2 cap)) 0 nilS [] w ((w.alloc (.cells #[.slice (some ⟨bc, 0, none⟩) 1 1, .slice pa 0 0] 131)).alloc (.cells (exprC 4 12 0 0 0 ⟨#[]⟩ ⟨#[]⟩ ⟨#[]⟩ (.slice (some ⟨b, 0, none⟩) 2 cap)) 70))) :=
    ⟨by go_grown, (heap_alloc_old _ _ (by simp)).trans (heap_alloc_new w _), new_at _ _ _ (by simp), World.ownsRow_nil _ _ _ _⟩
  generalize (w.alloc (.cells #[.slice (some ⟨bc, 0, none⟩) 1 1, .slice pa 0 0] 131)).alloc (.cells (exprC 4 12 0 0 0 ⟨#[]⟩ ⟨#[]⟩ ⟨#[]⟩ (.slice (some ⟨b, 0, none⟩) 2 cap)) 70) = wa at K0 ⊢
  have s0 : wa.cell? ⟨w.heap.size, 0, none⟩ = some (.slice (some ⟨bc, 0, none⟩) 1 1) := (cell_of_row wa _ 0 _ _ _ K0.out.scb).trans rfl
  have s1 : wa.cell? ⟨w.heap.size, 1, none⟩ = some (.slice pa 0 0) := (cell_of_row wa _ 1 _ _ _ K0.out.scb).trans rfl
  have r0 : w.heap.size < wa.heap.size := lt_of_block K0.out.scb
  refine wp_loop_rounds 3 ?_
  rw [rounds_succ]
  have F0 := H _ K0.out.low
  go_wp2_with (refine load_mid ?_ (.tmp 20) ?_ b 0 CA ?_ ?_ ?_ ?_; exact rfl; exact rfl; exact rfl; exact F0.out.2.1.1; exact rfl)
  refine (kindOf_A bc pa _ (F0.out.1.below (by go_grown))).mono ?_
  rintro e w1 ⟨rfl, hb1⟩
  have K1 := Lib.hid ((K0.out.alloc _).below hb1)
  clear hb1 s0 s1 F0 K0
  go_wp2_with (at_builtin; go_must (refine wpList_append_own _ rfl (.tmp 31) (.tmp 33) 51 rfl (w.heap.size + 2) 3 i3 (.int .i64 0) 1 8 Tryz.underlying51 hi hz0 hz1 hz2 rfl (by decide) nilS 0 [] rfl ((K1.out.alloc _).own) ⟨w1.heap.size, 0, none⟩ 1 1 [.int .i64 2] rfl rfl (news1 _ _) (by decide) (by decide) (by decide) ((K1.out.alloc _).room) ?_); intro v1 q1 hq1 hg1 _; obtain ⟨b1, cap1, rfl, hbb1⟩ := own_some1 hq1; have D1 := Lib.hid ((K1.out.alloc _).grows hg1 hq1); clear hq1 hg1)
  have s0 : q1.cell? ⟨w.heap.size, 0, none⟩ = some (.slice (some ⟨bc, 0, none⟩) 1 1) := (cell_of_row q1 _ 0 _ _ _ D1.out.scb).trans rfl
  have s1 : q1.cell? ⟨w.heap.size, 1, none⟩ = some (.slice pa 0 0) := (cell_of_row q1 _ 1 _ _ _ D1.out.scb).trans rfl
  have r1 : w.heap.size < q1.heap.size := lt_of_block D1.out.scb
  rw [rounds_succ]
  have F1 := H _ D1.out.low
  go_wp2_with (refine load_mid ?_ (.tmp 20) ?_ b 13 C5 ?_ ?_ ?_ ?_; exact rfl; exact rfl; exact rfl; exact F1.out.2.1.2.1; exact rfl)
  refine (kindOf_5 bc pa _).mono ?_
  rintro e w2 ⟨rfl, hb2⟩
  have K2 := Lib.hid ((D1.out.alloc _).below hb2)
  clear hb2 s0 s1 F1
  go_wp2_with (at_builtin; go_must (refine wpList_append_own _ rfl (.tmp 31) (.tmp 33) 51 rfl (w.heap.size + 2) 3 i3 (.int .i64 0) 1 8 Tryz.underlying51 hi hz0 hz1 hz2 rfl (by decide) _ 1 _ rfl ((K2.out.alloc _).own) ⟨w2.heap.size, 0, none⟩ 1 1 [.int .i64 2] rfl rfl (news1 _ _) (by decide) (by decide) (by decide) ((K2.out.alloc _).room) ?_); intro v2 q2 hq2 hg2 _; obtain ⟨b2, cap2, rfl, hbb2⟩ := own_some1 hq2; have D2 := Lib.hid ((K2.out.alloc _).grows hg2 hq2); clear hq2 hg2)
  rw [rounds_succ]
  go_wp2_with (refine load_expr ?_ (.tmp 3) ?_ (w.heap.size + 1) (exprC 4 12 0 0 0 ⟨#[]⟩ ⟨#[]⟩ ⟨#[]⟩ (.slice (some ⟨b, 0, none⟩) 2 cap)) ?_ ?_ ?_ ?_; exact rfl; exact rfl; exact rfl; exact D2.out.exb; exact rfl)
  have F2 := H _ D2.out.low
  refine (cpADD b cap _ F2.out.2.2.count12 F2.out.2.2.lt).mono ?_
  rintro e w3 ⟨rfl, hb3⟩
  have K3 := Lib.hid (D2.out.below hb3)
  clear hb3
  have x0 : w3.cell? ⟨w.heap.size + 1, 0, none⟩ = some (.int .i64 4) := (cell_of_row w3 _ 0 _ _ _ K3.out.exb).trans rfl
  go_wp2_with (refine load_expr ?_ (.tmp 3) ?_ (w.heap.size + 1) (exprC 4 12 0 0 0 ⟨#[]⟩ ⟨#[]⟩ ⟨#[]⟩ (.slice (some ⟨b, 0, none⟩) 2 cap)) ?_ ?_ ?_ ?_; exact rfl; exact rfl; exact rfl; exact K3.out.exb; exact rfl)
  refine (kindOfArgs_add b cap b2 cap2 _ (kin_of K3.out.own) hbb2.2).mono ?_
  rintro e w4 ⟨rfl, hb4⟩
  have K4 := Lib.hid (below_call K3.out.low hb4)
  clear hb4 x0
  go_wp2_with fail
  go_ret2
  exact ⟨rfl, K4.out⟩
end YtabojeleomfgnaaGreatDoor
end Go.Proofs
