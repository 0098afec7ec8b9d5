/- No expression of the text is too large. -/
import Derived.Test.YtabojeleomfgnaaGreatDoorH2
import Derived.Deep.MidRow
namespace Go.Proofs
open Go.RowKit
namespace YtabojeleomfgnaaGreatDoor
set_option maxRecDepth 100000
/-- the two Args lie at block b -/
def Two (b : Nat) (w : World) : Prop := w.rangeAt b 0 CA ∧ w.rangeAt b 13 C5 ∧ b < w.heap.size
theorem range_keeps {b o : Nat} {cs : List Value} {w w' : World} (h : w.rangeAt b o cs) (hb : w'.heap[b]? = w.heap[b]?) : w'.rangeAt b o cs := fun j v hv => (World.cell?_of_block (w := w) (a := ⟨b, o + j, none⟩) hb).trans (h j v hv)
theorem Two.below {b : Nat} {w w' : World} (h : Two b w) (hb : Below w.heap.size w w') : Two b w' := ⟨range_keeps h.1 (hb.block b h.2.2), range_keeps h.2.1 (hb.block b h.2.2), Nat.lt_of_lt_of_le h.2.2 hb.size⟩
theorem Two.keeps {b q : Nat} {w w' : World} (h : Two b w) (hb : Keeps q w w') (hq : b ≠ q) : Two b w' := ⟨range_keeps h.1 (hb.block b h.2.2 hq), range_keeps h.2.1 (hb.block b h.2.2 hq), Nat.lt_of_lt_of_le h.2.2 hb.size⟩
theorem two_of {B b cap : Nat} {w : World} (h : w.ownsRow B 70 13 (.slice (some ⟨b, 0, none⟩) 2 cap) 2 (CA ++ C5)) : Two b w := by
  have hc := h.cells (g := b) rfl
  have hadd : ∀ j, (⟨b, 0, none⟩ : Addr).add j = ⟨b, j, none⟩ := fun j => by unfold Addr.add; split <;> simp_all
  refine ⟨fun j v hv => ?_, fun j v hv => ?_, (h.lt b rfl).2⟩
  · have h1 := hc j v (by
      have hj : j < CA.length := (List.getElem?_eq_some_iff.1 hv).1
      rw [List.getElem?_append_left hj]; exact hv)
    rw [hadd] at h1
    simpa using h1
  · have h1 := hc (13 + j) v (by
      rw [List.getElem?_append_right (by show (13 : Nat) ≤ 13 + j; omega)]
      have e : 13 + j - CA.length = j := by show 13 + j - 13 = j; omega
      rw [e]; exact hv)
    rw [hadd] at h1
    exact h1
theorem load_mid {ops : Array Oper} {rest : List Oper} {o : Oper} {a : Act} {w : World} {Q : Exit → Act → World → Prop} (hgd : o.guard = none) (x : Operand) (ho : o.op = .load 70 x)
    (b off : Nat) (cs : List Value) (hx : a.eval x = .pointer (some ⟨b, off, none⟩)) (hg : w.rangeAt b off cs) (hc : cs.length = 13)
    (h : wpList Tryz.prog ops Q rest (a.put o.dst (.agg cs.toArray)) w) : wpList Tryz.prog ops Q (o :: rest) a w :=
  wpList_load_mid hgd 70 x ho b off hx cs _ hg Tryz.underlying70 rfl (by rw [hc]; exact size70) h
def One (q : Nat) (n : Int) (w : World) : Prop := w.heap[q]? = some (.cells #[.int .i64 n] 3 (0, 0))
set_option maxHeartbeats 1000000 in
theorem exceeds_leaf (k op n vk vn : Int) (vs src name : ByteArray) (q : Nat) (m : Int) (w : World) (hq : One q m w) (h1 : 1 ≤ m) (h2 : m ≤ 400) :
    Calls Tryz.prog 212 #[exprV k op n vk vn vs src name nilS, .int .i64 23, .pointer (some ⟨q, 0, none⟩)] w fun e w' => e = .returned (.bool false) ∧ One q (m - 1) w' ∧ Keeps q w w' := by
  have hql : q < w.heap.size := lt_of_block hq
  have hc := cell_of_one hq
  have hf := free_of_one hq
  have mb : (m == 0) = false := by rw [beq_eq_false_iff_ne]; omega
  have HQ := Lib.hid hq
  clear hq
  go_enter Tryz.func212, Tryz.ntmps212
  go_wp2_with fail
  go_rounds 1
  go_ret
  exact ⟨rfl, (heap_alloc_old _ _ (lt_of_block (one_setCell HQ.out))).trans (one_setCell HQ.out), (keeps_set q _ w).alloc _⟩
set_option maxHeartbeats 2000000 in
theorem exceeds_add (b cap q : Nat) (w : World) (hq : One q 400 w) (ht : Two b w) (hbq : b ≠ q) :
    Calls Tryz.prog 212 #[EADD b cap, .int .i64 24, .pointer (some ⟨q, 0, none⟩)] w fun e w' => e = .returned (.bool false) ∧ Keeps q w w' := by
  have hql : q < w.heap.size := lt_of_block hq
  have hc := cell_of_one hq
  have hf := free_of_one hq
  have HQ := Lib.hid hq
  have HT := Lib.hid ht
  clear hq ht
  go_enter Tryz.func212, Tryz.ntmps212
  go_wp2_with fail
  have A1 : Hid (One q 399 ((w.setCell ⟨q, 0, none⟩ (.int .i64 399)).alloc (.cells (exprC 4 12 0 0 0 ⟨#[]⟩ ⟨#[]⟩ ⟨#[]⟩ (.slice (some ⟨b, 0, none⟩) 2 cap)) 70))) := (heap_alloc_old _ _ (lt_of_block (one_setCell HQ.out))).trans (one_setCell HQ.out)
  have K1 : Hid (Keeps q w ((w.setCell ⟨q, 0, none⟩ (.int .i64 399)).alloc (.cells (exprC 4 12 0 0 0 ⟨#[]⟩ ⟨#[]⟩ ⟨#[]⟩ (.slice (some ⟨b, 0, none⟩) 2 cap)) 70))) := (keeps_set q _ w).alloc _
  have T1 := Lib.hid (HT.out.keeps K1.out hbq)
  clear hc hf
  generalize (w.setCell ⟨q, 0, none⟩ (.int .i64 399)).alloc (.cells (exprC 4 12 0 0 0 ⟨#[]⟩ ⟨#[]⟩ ⟨#[]⟩ (.slice (some ⟨b, 0, none⟩) 2 cap)) 70) = w1 at A1 K1 T1 ⊢
  refine wp_loop_rounds 3 ?_
  rw [rounds_succ]
  go_wp2_with (refine load_mid ?_ (.tmp 27) ?_ b 0 CA ?_ ?_ ?_ ?_; exact rfl; exact rfl; exact rfl; exact T1.out.1; exact rfl)
  refine (exceeds_leaf 3 0 0 0 0 ⟨#[]⟩ ⟨#[]⟩ SA q 399 _ ((heap_alloc_old _ _ (lt_of_block A1.out)).trans A1.out) (by decide) (by decide)).mono ?_
  rintro e w2 ⟨rfl, ha2, hk2⟩
  have A2 : Hid (One q 398 w2) := ha2
  have K2 := Lib.hid ((K1.out.alloc _).trans hk2)
  have T2 := Lib.hid (HT.out.keeps K2.out hbq)
  clear ha2 hk2
  go_wp2_with fail
  rw [rounds_succ]
  go_wp2_with (refine load_mid ?_ (.tmp 27) ?_ b 13 C5 ?_ ?_ ?_ ?_; exact rfl; exact rfl; exact rfl; exact T2.out.2.1; exact rfl)
  refine (exceeds_leaf 1 0 0 2 5 ⟨#[]⟩ ⟨#[]⟩ ⟨#[]⟩ q 398 _ ((heap_alloc_old _ _ (lt_of_block A2.out)).trans A2.out) (by decide) (by decide)).mono ?_
  rintro e w3 ⟨rfl, ha3, hk3⟩
  have K3 := Lib.hid ((K2.out.alloc _).trans hk3)
  clear ha3 hk3
  go_wp2_with fail
  rw [rounds_succ]
  go_wp2_with fail
  go_ret
  exact ⟨rfl, K3.out⟩
theorem new_at (w : World) (o : Obj) (g : Nat) (hg : g = w.heap.size) : (w.alloc o).heap[g]? = some o := by rw [hg]; exact heap_alloc_new w o
theorem keeps_above {q : Nat} {w W w' : World} (bb : Below w.heap.size w W) (k : Keeps q W w') (hq : w.heap.size ≤ q) : Below w.heap.size w w' :=
  ⟨k.os.trans bb.os, k.tape.trans bb.tape, k.output.trans bb.output, Nat.le_trans bb.size k.size, fun j hj => (k.block j (Nat.lt_of_lt_of_le hj bb.size) (by omega)).trans (bb.block j hj)⟩
set_option maxHeartbeats 1000000 in
theorem tooLarge_add (b cap : Nat) (w : World) (ht : Two b w) : Calls Tryz.prog 158 #[EADD b cap] w fun e w' => e = .returned (.bool false) ∧ Below w.heap.size w w' := by
  have HT := fun w' => fun h : Below w.heap.size w w' => Lib.hid (ht.below h)
  have hb := ht.2.2
  clear ht
  go_enter Tryz.func158, Tryz.ntmps158
  go_wp2_with fail
  refine (exceeds_add b cap (w.heap.size + 1) _ (new_at _ _ _ (by simp)) (HT _ (by go_grown)).out (by omega)).mono ?_
  rintro e w1 ⟨rfl, hk1⟩
  have K1 := Lib.hid hk1
  clear hk1 HT
  go_wp2_with fail
  go_ret
  refine ⟨rfl, ?_⟩
  exact keeps_above (by go_grown) K1.out (by omega)
end YtabojeleomfgnaaGreatDoor
end Go.Proofs
