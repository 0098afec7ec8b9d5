/- Reading pieces of texts. The reader at the head neg. Reading chains of neg: the Args. Reading chains of neg. The literal 1 is read. Chains of neg are read: parts. A chain of neg that is too large is refused by ExprRead. copy and make on slices of expressions; slices.Repeat on one expression. -/
import Derived.Test.YtabojeleomfgnaaGreatDoorTw1
import Derived.Test.YtabojeleomfgnaaGreatDoorE2
import Derived.Test.YtabojeleomfgnaaGreatDoorG2
import Derived.Test.YtabojeleomfgnaaGreatDoorTw3
import Derived.Test.YtabojeleomfgnaaGreatDoorH2
import Derived.Test.YtabojeleomfgnaaGreatDoorC1
import Derived.Test.YtabojeleomfgnaaGreatDoorSh2
import Derived.Laws.CopyOwn
import Derived.Laws.MakeOwn
namespace Go.Proofs
open Go.RowKit
namespace YtabojeleomfgnaaGreatDoor
set_option maxRecDepth 100000
abbrev B (l : List UInt8) : ByteArray := ⟨l.toArray⟩
theorem B_data (l : List UInt8) : (B l).data.toList = l := rfl
theorem B_size (l : List UInt8) : (B l).size = l.length := rfl
theorem B_drop (l : List UInt8) (k : Nat) : (B l).extract k (B l).size = B (l.drop k) := by
  apply ByteArray.ext
  rw [ByteArray.data_extract]
  show l.toArray.extract k l.length = (l.drop k).toArray
  rw [List.extract_toArray, List.extract_eq_take_drop, List.take_of_length_le (by rw [List.length_drop]; exact Nat.le_refl _)]
theorem B_take (l : List UInt8) (k : Nat) : (B l).extract 0 k = B (l.take k) := by
  apply ByteArray.ext
  rw [ByteArray.data_extract]
  show l.toArray.extract 0 k = (l.take k).toArray
  simp
theorem take_l (p : Nat) (l : List UInt8) (k : Nat) (w : World) (hr : Rd w p (B l)) (hk : k ≤ l.length) :
    Calls Tryz.prog 266 #[.pointer (some ⟨p, 0, none⟩), .int .i64 k] w fun e w' => e = .returned (.string (B (l.take k))) ∧ Rd w' p (B (l.drop k)) ∧ Keeps p w w' := by
  have h := take_any p (B l) k w hr hk
  rw [B_drop, B_take] at h
  exact h
theorem B_empty (l : List UInt8) : (B l).toList.isEmpty = l.isEmpty := by rw [Lib.toList_data]
theorem byte_yes (p : Nat) (c : UInt8) (l : List UInt8) (w : World) (hr : Rd w p (B (c :: l))) :
    Calls Tryz.prog 264 #[.pointer (some ⟨p, 0, none⟩), .int .u8 c.toNat] w fun e w' => e = .returned (.bool true) ∧ Rd w' p (B l) ∧ Keeps p w w' := by
  have h := takeByte_yes p (B (c :: l)) c.toNat w hr (by rw [B_empty]; rfl) (by rw [B_size]; exact Nat.succ_pos _) (by simp; rfl)
  rw [B_drop] at h
  exact h
theorem byte_no (p : Nat) (l : List UInt8) (c : Int) (w : World) (hr : Rd w p (B l)) (hc : ∀ a r, l = a :: r → ((a.toNat : Int) != c) = true) :
    Calls Tryz.prog 264 #[.pointer (some ⟨p, 0, none⟩), .int .u8 c] w fun e w' => e = .returned (.bool false) ∧ w = w' := by
  cases l with
  | nil => exact takeByte_no p (B []) c w hr (by rw [B_empty]; rfl)
  | cons a r => exact takeByte_other p (B (a :: r)) c w hr (by rw [B_empty]; rfl) (by rw [B_size]; exact Nat.succ_pos _) (hc a r rfl)
end YtabojeleomfgnaaGreatDoor
end Go.Proofs
namespace Go.Proofs
open Go.RowKit
namespace YtabojeleomfgnaaGreatDoor
set_option maxRecDepth 100000
set_option maxHeartbeats 2000000 in
theorem named_neg (w : World) (h : Tb w) : Calls Tryz.prog 330 #[.string ⟨#[110, 101, 103]⟩] w fun e w' => e = .returned (.int .i64 17) ∧ w = w' := by
  have n1 : w.cell? ⟨1, 5, none⟩ = some (.string ⟨#[110, 111, 116]⟩) := (h.row 1 _ _ _ _ _ rfl).1
  have n2 : w.cell? ⟨1, 10, none⟩ = some (.string ⟨#[97, 110, 100]⟩) := (h.row 2 _ _ _ _ _ rfl).1
  have n3 : w.cell? ⟨1, 15, none⟩ = some (.string ⟨#[111, 114]⟩) := (h.row 3 _ _ _ _ _ rfl).1
  have n4 : w.cell? ⟨1, 20, none⟩ = some (.string ⟨#[101, 113, 117, 97, 108]⟩) := (h.row 4 _ _ _ _ _ rfl).1
  have n5 : w.cell? ⟨1, 25, none⟩ = some (.string ⟨#[117, 110, 101, 113, 117, 97, 108]⟩) := (h.row 5 _ _ _ _ _ rfl).1
  have n6 : w.cell? ⟨1, 30, none⟩ = some (.string ⟨#[108, 101, 115, 115]⟩) := (h.row 6 _ _ _ _ _ rfl).1
  have n7 : w.cell? ⟨1, 35, none⟩ = some (.string ⟨#[97, 116, 109, 111, 115, 116]⟩) := (h.row 7 _ _ _ _ _ rfl).1
  have n8 : w.cell? ⟨1, 40, none⟩ = some (.string ⟨#[103, 114, 101, 97, 116, 101, 114]⟩) := (h.row 8 _ _ _ _ _ rfl).1
  have n9 : w.cell? ⟨1, 45, none⟩ = some (.string ⟨#[97, 116, 108, 101, 97, 115, 116]⟩) := (h.row 9 _ _ _ _ _ rfl).1
  have n10 : w.cell? ⟨1, 50, none⟩ = some (.string ⟨#[115, 97, 109, 101]⟩) := (h.row 10 _ _ _ _ _ rfl).1
  have n11 : w.cell? ⟨1, 55, none⟩ = some (.string ⟨#[110, 117, 108, 108]⟩) := (h.row 11 _ _ _ _ _ rfl).1
  have n12 : w.cell? ⟨1, 60, none⟩ = some (.string ⟨#[97, 100, 100]⟩) := (h.row 12 _ _ _ _ _ rfl).1
  have n13 : w.cell? ⟨1, 65, none⟩ = some (.string ⟨#[115, 117, 98]⟩) := (h.row 13 _ _ _ _ _ rfl).1
  have n14 : w.cell? ⟨1, 70, none⟩ = some (.string ⟨#[109, 117, 108]⟩) := (h.row 14 _ _ _ _ _ rfl).1
  have n15 : w.cell? ⟨1, 75, none⟩ = some (.string ⟨#[100, 105, 118]⟩) := (h.row 15 _ _ _ _ _ rfl).1
  have n16 : w.cell? ⟨1, 80, none⟩ = some (.string ⟨#[109, 111, 100]⟩) := (h.row 16 _ _ _ _ _ rfl).1
  have n17 : w.cell? ⟨1, 85, none⟩ = some (.string ⟨#[110, 101, 103]⟩) := (h.row 17 _ _ _ _ _ rfl).1
  clear h
  have q1 : ((⟨#[110, 111, 116]⟩ : ByteArray).toList == (⟨#[110, 101, 103]⟩ : ByteArray).toList) = false := by simp [ByteArray.toList_eq]
  have q2 : ((⟨#[97, 110, 100]⟩ : ByteArray).toList == (⟨#[110, 101, 103]⟩ : ByteArray).toList) = false := by simp [ByteArray.toList_eq]
  have q3 : ((⟨#[111, 114]⟩ : ByteArray).toList == (⟨#[110, 101, 103]⟩ : ByteArray).toList) = false := by simp [ByteArray.toList_eq]
  have q4 : ((⟨#[101, 113, 117, 97, 108]⟩ : ByteArray).toList == (⟨#[110, 101, 103]⟩ : ByteArray).toList) = false := by simp [ByteArray.toList_eq]
  have q5 : ((⟨#[117, 110, 101, 113, 117, 97, 108]⟩ : ByteArray).toList == (⟨#[110, 101, 103]⟩ : ByteArray).toList) = false := by simp [ByteArray.toList_eq]
  have q6 : ((⟨#[108, 101, 115, 115]⟩ : ByteArray).toList == (⟨#[110, 101, 103]⟩ : ByteArray).toList) = false := by simp [ByteArray.toList_eq]
  have q7 : ((⟨#[97, 116, 109, 111, 115, 116]⟩ : ByteArray).toList == (⟨#[110, 101, 103]⟩ : ByteArray).toList) = false := by simp [ByteArray.toList_eq]
  have q8 : ((⟨#[103, 114, 101, 97, 116, 101, 114]⟩ : ByteArray).toList == (⟨#[110, 101, 103]⟩ : ByteArray).toList) = false := by simp [ByteArray.toList_eq]
  have q9 : ((⟨#[97, 116, 108, 101, 97, 115, 116]⟩ : ByteArray).toList == (⟨#[110, 101, 103]⟩ : ByteArray).toList) = false := by simp [ByteArray.toList_eq]
  have q10 : ((⟨#[115, 97, 109, 101]⟩ : ByteArray).toList == (⟨#[110, 101, 103]⟩ : ByteArray).toList) = false := by simp [ByteArray.toList_eq]
  have q11 : ((⟨#[110, 117, 108, 108]⟩ : ByteArray).toList == (⟨#[110, 101, 103]⟩ : ByteArray).toList) = false := by simp [ByteArray.toList_eq]
  have q12 : ((⟨#[97, 100, 100]⟩ : ByteArray).toList == (⟨#[110, 101, 103]⟩ : ByteArray).toList) = false := by simp [ByteArray.toList_eq]
  have q13 : ((⟨#[115, 117, 98]⟩ : ByteArray).toList == (⟨#[110, 101, 103]⟩ : ByteArray).toList) = false := by simp [ByteArray.toList_eq]
  have q14 : ((⟨#[109, 117, 108]⟩ : ByteArray).toList == (⟨#[110, 101, 103]⟩ : ByteArray).toList) = false := by simp [ByteArray.toList_eq]
  have q15 : ((⟨#[100, 105, 118]⟩ : ByteArray).toList == (⟨#[110, 101, 103]⟩ : ByteArray).toList) = false := by simp [ByteArray.toList_eq]
  have q16 : ((⟨#[109, 111, 100]⟩ : ByteArray).toList == (⟨#[110, 101, 103]⟩ : ByteArray).toList) = false := by simp [ByteArray.toList_eq]
  have q17 : ((⟨#[110, 101, 103]⟩ : ByteArray).toList == (⟨#[110, 101, 103]⟩ : ByteArray).toList) = true := by simp [ByteArray.toList_eq]
  go_enter Tryz.func330, Tryz.ntmps330
  go_wp2
  go_rounds 18
  go_ret
  exact ⟨rfl, rfl⟩
theorem cut_neg (w : World) (hm : ∃ m, w.cell? ⟨0, 0, none⟩ = some (.int .i64 m)) : Calls Tryz.prog 220 #[.string ⟨#[110, 101, 103]⟩, .string ⟨#[46]⟩] w fun e w' => e = .returned (.tuple #[.string ⟨#[110, 101, 103]⟩, .string ⟨#[]⟩, .bool false]) ∧ Below w.heap.size w w' := by
  obtain ⟨m, hm⟩ := hm
  refine (Tryz.strings_Cut ⟨#[110, 101, 103]⟩ ⟨#[46]⟩ m w (by decide) hm).mono ?_
  rintro e w' ⟨rfl, n, rfl⟩
  exact ⟨by rfl, below_drewN (Below.refl _ _) _⟩
/-- the table, and the number that the search in texts asks -/
structure Tm (w : World) : Prop where
  tb : Tb w
  mx : ∃ m, w.cell? ⟨0, 0, none⟩ = some (.int .i64 m)
theorem Tm.below {w w' : World} (h : Tm w) (hb : Below w.heap.size w w') : Tm w' :=
  ⟨h.tb.below hb, h.mx.imp fun _ hm => (hb.cell (p := ⟨0, 0, none⟩) (block_lt_of_cell hm)).trans hm⟩
theorem Tm.keeps {p : Nat} {w w' : World} (h : Tm w) (hb : Keeps p w w') (hp : 1 < p) : Tm w' := by
  have hs := h.tb.lt
  refine ⟨⟨fun i nm c1 f o r hr => ?_, Nat.lt_of_lt_of_le h.tb.lt hb.size⟩, h.mx.imp fun m hm => ((kcell hb).1 0 0 (by omega) (by omega)).trans hm⟩
  have c := fun o => (kcell hb).1 1 o h.tb.lt (by omega)
  obtain ⟨h1, h2, h3, h4, h5⟩ := h.tb.row i nm c1 f o r hr
  exact ⟨(c _).trans h1, (c _).trans h2, (c _).trans h3, (c _).trans h4, (c _).trans h5⟩
set_option maxHeartbeats 2000000 in
theorem head_neg (w : World) (h : Tm w) : Calls Tryz.prog 304 #[.string ⟨#[110, 101, 103]⟩] w fun e w' => e = .returned (.tuple #[exprV 4 17 0 0 0 ⟨#[]⟩ ⟨#[]⟩ ⟨#[]⟩ nilS, .bool true]) ∧ Below w.heap.size w w' := by
  have q1 : ((⟨#[110, 101, 103]⟩ : ByteArray).toList == [99, 97, 115, 101]) = false := by simp [ByteArray.toList_eq]
  have q2 : ((⟨#[110, 101, 103]⟩ : ByteArray).toList == [105, 110]) = false := by simp [ByteArray.toList_eq]
  have HO := Lib.hid h
  clear h
  go_enter Tryz.func304, Tryz.ntmps304
  go_wp2_with fail
  refine (cut_neg _ (HO.out.below (by go_grown)).mx).mono ?_
  rintro e w1 ⟨rfl, hb1⟩
  have HO1 := Lib.hid ((HO.out.below (by go_grown)).below hb1)
  obtain ⟨hc1, hf1⟩ := bcell hb1
  have hz1_0 : w.heap.size < w1.heap.size := lt_after hb1 (by (try simp only [World.size_alloc]); repeat (first | (with_reducible assumption) | exact Nat.lt_add_one _ | apply Nat.lt_add_one_of_lt))
  have HB1 : Hid (w1.heap[w.heap.size]? = some (.cells Z13 70 (0, 0))) := (hb1.block _ (by simp)).trans (heap_alloc_new w _)
  have HZ1 : Hid (w.heap.size < w1.heap.size) := lt_of_block HB1.out
  have HBB := Lib.hid hb1
  clear hb1 hc1 hf1
  go_wp2_with fail
  refine (named_neg _ HO1.out.tb).mono ?_
  rintro e w9 ⟨rfl, rfl⟩
  go_wp2_with (first | (refine store_expr ?_ (.tmp 2) (.tmp 39) ?_ w.heap.size (exprC 4 17 0 0 0 ⟨#[]⟩ ⟨#[]⟩ ⟨#[]⟩ nilS) ?_ ?_ Z13 ?_ ?_ ?_ ?_ ?_; exact rfl; exact rfl; exact rfl; exact rfl; exact (heap_alloc_old _ _ HZ1.out).trans HB1.out; exact rfl; exact rfl; simp [Value.oneCell']; intro w2 hp2; have HP2 := Lib.hid hp2; clear hp2) | go_in)
  refine bodyPost_ret (results_expr_bool rfl _ _ w.heap.size (exprC 4 17 0 0 0 ⟨#[]⟩ ⟨#[]⟩ ⟨#[]⟩ nilS) ?_ HP2.out.at' rfl) rfl ?_
  · rfl
  · exact ⟨rfl, HP2.out.below (by refine Below.alloc (below_call (by go_grown) HBB.out) ?_ _; exact Nat.le_of_lt HZ1.out) (Nat.le_refl _)⟩
/-- while the Args are read: the reader, the head's block, the result's block, the row of Args -/
structure CN (p g ge n : Nat) (T : ByteArray) (V : Value) (xs : List Value) (w0 w : World) : Prop where
  rd : Rd w p T
  head : w.heap[ge]? = some (.cells (exprC 4 17 0 0 0 ⟨#[]⟩ ⟨#[]⟩ ⟨#[]⟩ V) 70 (0, 0))
  res : w.heap[g]? = some (.cells Z13 70 (0, 0))
  keeps : Keeps p w0 w
  own : w.ownsRow (ge + 1) 70 13 V n xs
  pg : p < g
  gge : g < ge
  old : w0.heap.size ≤ g
theorem CN.alloc {p g ge n : Nat} {T : ByteArray} {V : Value} {xs : List Value} {w0 w : World} (h : CN p g ge n T V xs w0 w) (o : Obj) : CN p g ge n T V xs w0 (w.alloc o) :=
  ⟨rd_alloc h.rd o, (heap_alloc_old _ _ (lt_of_block h.head)).trans h.head, (heap_alloc_old _ _ (lt_of_block h.res)).trans h.res, h.keeps.alloc o, h.own.alloc o, h.pg, h.gge, h.old⟩
theorem CN.goes {p g ge n : Nat} {T T' : ByteArray} {V : Value} {xs : List Value} {w0 w w' : World} (h : CN p g ge n T V xs w0 w) (hk : Keeps p w w') (hr : Rd w' p T') : CN p g ge n T' V xs w0 w' :=
  ⟨hr, (hk.block _ (lt_of_block h.head) (by have := h.pg; have := h.gge; omega)).trans h.head, (hk.block _ (lt_of_block h.res) (Nat.ne_of_gt h.pg)).trans h.res, h.keeps.trans hk,
   h.own.kept (row := some p) ⟨hk.os, hk.tape, hk.output, hk.size, fun k hk1 hk2 => hk.block k hk1 (fun e => hk2 (by rw [e]))⟩ (by
     cases hv : V.ownBlock with
     | none => exact .inl rfl
     | some k => exact .inr (fun e => by have := (h.own.lt k hv).1; have := h.pg; have := h.gge; simp only [Option.some.injEq] at e; omega)), h.pg, h.gge, h.old⟩
/-- behind an append to the row, and the store of the new slice into the head -/
theorem CN.grows {p g ge n : Nat} {T : ByteArray} {V V' : Value} {xs ys : List Value} {m : Nat} {w0 w w' : World} (h : CN p g ge n T V xs w0 w) (hg : w.grownBy w' V.ownBlock) (ho : w'.ownsRow (ge + 1) 70 13 V' m ys) :
    CN p g ge m T V' ys w0 (w'.setCell ⟨ge, 9, none⟩ V') := by
  have hne : ∀ k, k ≤ ge → some k ≠ V.ownBlock := fun k hk e => by have := (h.own.lt k e.symm).1; omega
  have h1 := (hg.block p (lt_of_block h.rd) (hne p (by have := h.pg; have := h.gge; omega))).trans h.rd
  have h2 := (hg.block ge (lt_of_block h.head) (hne ge (Nat.le_refl _))).trans h.head
  have h3 := (hg.block g (lt_of_block h.res) (hne g (Nat.le_of_lt h.gge))).trans h.res
  have hp : p ≠ ge := by have := h.pg; have := h.gge; omega
  refine ⟨(heap_setCell_other w' _ p _ hp).trans h1, (heap_setCell_same w' ge 9 _ 70 V' h2).trans rfl, (heap_setCell_other w' _ g _ (Nat.ne_of_lt h.gge)).trans h3, ?_, ?_, h.pg, h.gge, h.old⟩
  · have hk : Keeps p w0 w' := ⟨hg.os.trans h.keeps.os, hg.tape.trans h.keeps.tape, hg.output.trans h.keeps.output, Nat.le_trans h.keeps.size hg.size, fun k hk hkp =>
      (hg.block k (Nat.lt_of_lt_of_le hk h.keeps.size) (hne k (by have := h.old; have := h.gge; omega))).trans (h.keeps.block k hk hkp)⟩
    exact ⟨by simpa [World.setCell] using hk.os, by simpa [World.setCell] using hk.tape, by simpa [World.setCell] using hk.output, by simpa using hk.size, fun k hk1 hkp =>
      (heap_setCell_other w' _ k _ (by have := h.old; have := h.gge; simp only; omega)).trans (hk.block k hk1 hkp)⟩
  · exact ownsRow_setCell_other ho (by
      cases hv : V'.ownBlock with
      | none => simp
      | some k => have := (ho.lt k hv).1; simp only [ne_eq, Option.some.injEq]; omega) _
theorem CN.cell9 {p g ge n : Nat} {T : ByteArray} {V : Value} {xs : List Value} {w0 w : World} (h : CN p g ge n T V xs w0 w) : w.cell? ⟨ge, 9, none⟩ = some V := (cell_of_row w ge 9 _ _ _ h.head).trans rfl
theorem CN.free9 {p g ge n : Nat} {T : ByteArray} {V : Value} {xs : List Value} {w0 w : World} (h : CN p g ge n T V xs w0 w) : w.frozen? ⟨ge, 9, none⟩ = false := frozen_of_row w ge 9 _ _ h.head
theorem CN.grown9 {p g ge n : Nat} {T : ByteArray} {V : Value} {xs : List Value} {w0 w w' : World} (h : CN p g ge n T V xs w0 w) (hg : w.grownBy w' V.ownBlock) : w'.cell? ⟨ge, 9, none⟩ = some V ∧ w'.frozen? ⟨ge, 9, none⟩ = false := by
  have h2 := (hg.block ge (lt_of_block h.head) (fun e => by have := (h.own.lt ge e.symm).1; omega)).trans h.head
  exact ⟨(cell_of_row w' ge 9 _ _ _ h2).trans rfl, frozen_of_row w' ge 9 _ _ h2⟩
end YtabojeleomfgnaaGreatDoor
end Go.Proofs
namespace Go.Proofs
open Go.RowKit
namespace YtabojeleomfgnaaGreatDoor
set_option maxRecDepth 100000
/-- an expression of n heads neg is read, up to a rest -/
def Chain (n : Nat) (p : Nat) (rest : List UInt8) (w0 : World) (e : Ending) (w' : World) : Prop :=
  ∃ v, e = .returned (.tuple #[v, .bool true]) ∧ AtB w0.heap.size w' (chainT n) v ∧ Rd w' p (B rest) ∧ Keeps p w0 w'
theorem byte_yes41 (p : Nat) (l : List UInt8) (w : World) (hr : Rd w p (B (41 :: l))) :
    Calls Tryz.prog 264 #[.pointer (some ⟨p, 0, none⟩), .int .u8 41] w fun e w' => e = .returned (.bool true) ∧ Rd w' p (B l) ∧ Keeps p w w' := byte_yes p 41 l w hr
theorem byte_yes40 (p : Nat) (l : List UInt8) (w : World) (hr : Rd w p (B (40 :: l))) :
    Calls Tryz.prog 264 #[.pointer (some ⟨p, 0, none⟩), .int .u8 40] w fun e w' => e = .returned (.bool true) ∧ Rd w' p (B l) ∧ Keeps p w w' := byte_yes p 40 l w hr
theorem own_range {w : World} {base b cap : Nat} {cs : List Value} (h : w.ownsRow base 70 13 (.slice (some ⟨b, 0, none⟩) 1 cap) 1 cs) : w.rangeAt b 0 cs ∧ base ≤ b ∧ b < w.heap.size ∧ 1 ≤ cap := by
  have hc := h.cells (g := b) rfl
  have hadd : ∀ j, (⟨b, 0, none⟩ : Addr).add j = ⟨b, j, none⟩ := fun j => by unfold Addr.add; split <;> simp_all
  refine ⟨fun j v hv => ?_, (h.lt b rfl).1, (h.lt b rfl).2, ?_⟩
  · have h1 := hc j v hv
    rw [hadd] at h1
    simpa using h1
  · obtain ⟨_, h | ⟨g, cp, cur, hv, _, _, hn, _⟩⟩ := h
    · exact absurd h.2 (by decide)
    · simp only [Value.slice.injEq] at hv
      omega
theorem chain_node {base : Nat} {w : World} {n b cap : Nat} {d : Nd} {kids : List Tr} {pa : Option Addr} {c : Nat} (hR : w.rangeAt b 0 (d.c (.slice pa kids.length c)).toList) (hb : base ≤ b) (hb2 : b < w.heap.size) (hc : 1 ≤ cap)
    (hA : AtB base w (chainT n) (.agg (d.c (.slice pa kids.length c)))) : AtB base w (chainT (n + 1)) (.agg (negN.c (.slice (some ⟨b, 0, none⟩) 1 cap))) := by
  rw [chainT]
  refine .node negN [chainT n] (.slice (some ⟨b, 0, none⟩) 1 cap) b 0 (fun _ => (d.c (.slice pa kids.length c)).toList) ⟨_, cap, rfl, hc, by simp, fun _ => rfl⟩ (fun _ => ⟨hb, hb2⟩) (fun i hi => ?_) (fun i t ht => ?_)
  · have hi0 : i = 0 := by simpa using hi
    subst hi0
    exact ⟨by simpa using hR, rfl⟩
  · match i, ht with
    | 0, ht => obtain rfl : chainT n = t := by simpa using ht
               simpa using hA
    | i + 1, ht => simp at ht
set_option maxHeartbeats 4000000 in
theorem call_neg (n : Nat) (p : Nat) (r : List UInt8) (w : World) (hr : Rd w p (B (nt n ++ 41 :: r))) (ho : Tm w) (_hp1 : 1 < p)
    (hCE : ∀ w, Rd w p (B (nt n ++ 41 :: r)) → Tm w → Calls Tryz.prog 165 #[.pointer (some ⟨p, 0, none⟩)] w (Chain n p (41 :: r) w)) :
    Calls Tryz.prog 269 #[.pointer (some ⟨p, 0, none⟩), .string ⟨#[110, 101, 103]⟩] w (Chain (n + 1) p r w) := by
  obtain ⟨i70, hi, hz0, hz1, hz2⟩ := info_parts info70
  have hp : p < w.heap.size := lt_of_block hr
  have CE := Lib.hid hCE
  have R0 : Hid (Rd (w.alloc (.cells Z13 70)) p (B (nt n ++ 41 :: r))) := Lib.hid (rd_alloc hr _)
  have O0 : Hid (Tm (w.alloc (.cells Z13 70))) := Lib.hid (ho.below ((Below.refl _ _).alloc (Nat.le_refl _) _))
  clear hr ho hCE
  generalize hT : B (nt n ++ 41 :: r) = T at R0 CE
  go_enter Tryz.func269, Tryz.ntmps269
  go_wp2_with fail
  refine (head_neg _ O0.out).mono ?_
  rintro e w1 ⟨rfl, hb1⟩
  have C0 : Hid (CN p w.heap.size w1.heap.size 0 T nilS [] w (w1.alloc (.cells (exprC 4 17 0 0 0 ⟨#[]⟩ ⟨#[]⟩ ⟨#[]⟩ nilS) 70))) := by
    have hres := (hb1.block w.heap.size (by simp)).trans (heap_alloc_new w _)
    have hrd := (hb1.block p (lt_of_block R0.out)).trans R0.out
    exact Lib.hid ⟨rd_alloc hrd _, heap_alloc_new w1 _, (heap_alloc_old _ _ (lt_of_block hres)).trans hres, (((Keeps.refl p w).alloc _).trans (Keeps.of_below hb1)).alloc _, World.ownsRow_nil _ _ _ _, hp, lt_of_block hres, Nat.le_refl _⟩
  have O1 : Hid (Tm (w1.alloc (.cells (exprC 4 17 0 0 0 ⟨#[]⟩ ⟨#[]⟩ ⟨#[]⟩ nilS) 70))) := Lib.hid ((O0.out.below hb1).below ((Below.refl _ _).alloc (Nat.le_refl _) _))
  have LA : Hid (w1.heap.size < (w1.alloc (.cells (exprC 4 17 0 0 0 ⟨#[]⟩ ⟨#[]⟩ ⟨#[]⟩ nilS) 70)).heap.size) := Lib.hid (by simp)
  clear hb1
  go_wp2_with fail
  generalize w1.alloc (.cells (exprC 4 17 0 0 0 ⟨#[]⟩ ⟨#[]⟩ ⟨#[]⟩ nilS) 70) = wa at C0 O1 LA ⊢
  refine wp_loop_rounds 1 ?_
  rw [rounds_succ]
  go_wp2_with fail
  refine (CE.out _ C0.out.rd O1.out).mono ?_
  rintro e w2 ⟨v, rfl, ha2, hr2, hk2⟩
  have C1 := Lib.hid (C0.out.goes hk2 hr2)
  obtain ⟨d', kids', pa', cap', ht', rfl⟩ := ha2.inv
  have A2 := Lib.hid ha2
  clear ha2 hr2 hk2 C0 ht' CE
  have HZ : Hid (w.heap.size ≤ wa.heap.size ∧ w1.heap.size < wa.heap.size) := Lib.hid ⟨by have := C1.out.old; have := C1.out.gge; have := LA.out; omega, LA.out⟩
  clear LA
  have x9 := C1.out.cell9
  have l2 : w1.heap.size < w2.heap.size := lt_of_block C1.out.head
  have HC : Hid ((d'.c (.slice pa' kids'.length cap')).toList.length = 13) := Lib.hid rfl
  generalize hn' : kids'.length = n' at *
  obtain ⟨k', op', n1', vk', vn', vs', src', name', dis'⟩ := d'
  have A2 : Hid (AtB wa.heap.size w2 (chainT n) (.agg (ndC k' op' n1' vk' vn' vs' src' name' dis' (.slice pa' n' cap')))) := A2
  simp only [Nd.c] at HC ⊢
  go_wp2_with (at_builtin; go_must (refine wpList_append_own _ rfl (.tmp 27) (.tmp 29) 66 rfl (w1.heap.size + 1) 70 i70 (.agg Z13) 13 192 Tryz.underlying66 hi hz0 hz1 hz2 rfl (by decide) nilS 0 [] rfl (((C1.out.alloc _).alloc _).own) ⟨w2.heap.size + 1, 0, none⟩ 1 1 (ndC k' op' n1' vk' vn' vs' src' name' dis' (.slice pa' n' cap')).toList rfl rfl (news_cells _ _ _) (by simp [Value.oneCell']) (by decide) (by decide) (by simp; omega) ?_); intro v2 q2 hq2 hg2 _; obtain ⟨b2, cap2, rfl, hbb2⟩ := own_some hq2; obtain ⟨y2, z2⟩ := ((C1.out.alloc _).alloc _).grown9 hg2; have D2 := Lib.hid (((C1.out.alloc _).alloc _).grows hg2 hq2); have A3 : Hid (AtB wa.heap.size (q2.setCell ⟨w1.heap.size, 9, none⟩ (.slice (some ⟨b2, 0, none⟩) (0 + 1) cap2)) (chainT n) (.agg (ndC k' op' n1' vk' vn' vs' src' name' dis' (.slice pa' n' cap')))) := Lib.hid (A2.out.kept (by have := hg2.size; simp at this ⊢; omega) (fun k h1 h2 => by
    have hz := HZ.out
    rw [heap_setCell_other _ _ k _ (by simp only; omega)]
    have hb := hg2.block k (by simp; omega) (by simp [Value.ownBlock])
    rw [hb, heap_alloc_old _ _ (by simp; omega), heap_alloc_old _ _ (by omega)])); clear hq2 hg2)
  have GG : Hid (w.heap.size < w1.heap.size) := Lib.hid C1.out.gge
  refine (byte_yes41 p r _ D2.out.rd).mono ?_
  rintro e w5 ⟨rfl, hr5, hk5⟩
  have C6 := Lib.hid (D2.out.goes hk5 hr5)
  have A6 : Hid (AtB wa.heap.size w5 (chainT n) (.agg (ndC k' op' n1' vk' vn' vs' src' name' dis' (.slice pa' n' cap')))) := Lib.hid (A3.out.kept hk5.size (fun k h1 h2 => hk5.block k h2 (by have := HZ.out; omega)))
  clear hr5 hk5 D2 x9 y2 z2 A3 A2 C1 O1
  go_wp2_with (first | (refine load_expr ?_ (.tmp 6) ?_ w1.heap.size (exprC 4 17 0 0 0 ⟨#[]⟩ ⟨#[]⟩ ⟨#[]⟩ (.slice (some ⟨b2, 0, none⟩) (0 + 1) cap2)) ?_ ?_ ?_ ?_; exact rfl; exact rfl; exact rfl; exact C6.out.head; exact rfl) | (refine store_expr ?_ (.tmp 4) (.tmp 34) ?_ w.heap.size (exprC 4 17 0 0 0 ⟨#[]⟩ ⟨#[]⟩ ⟨#[]⟩ (.slice (some ⟨b2, 0, none⟩) (0 + 1) cap2)) ?_ ?_ Z13 ?_ ?_ ?_ ?_ ?_; exact rfl; exact rfl; exact rfl; exact rfl; exact C6.out.res; exact rfl; exact rfl; simp [Value.oneCell']; intro w6 hp6; have HP6 := Lib.hid hp6; clear hp6))
  refine bodyPost_ret (results_expr_bool rfl _ _ w.heap.size (exprC 4 17 0 0 0 ⟨#[]⟩ ⟨#[]⟩ ⟨#[]⟩ (.slice (some ⟨b2, 0, none⟩) (0 + 1) cap2)) ?_ HP6.out.at' rfl) rfl ?_
  · rfl
  · have hgg := GG.out
    have hz := HZ.out
    obtain ⟨r1, r2, r3, r4⟩ := own_range (b := b2) (cap := cap2) (own_puts (own_base C6.out.own (by omega : w.heap.size + 1 ≤ w1.heap.size + 1)) HP6.out)
    have A7 := (A6.out.kept HP6.out.keeps.size (fun k h1 h2 => HP6.out.keeps.block k h2 (by omega))).base hz.1
    exact ⟨_, rfl, chain_node (d := ⟨k', op', n1', vk', vn', vs', src', name', dis'⟩) (kids := kids') (pa := pa') (c := cap') (by rw [hn']; exact r1) (by omega) r3 r4 (by rw [hn']; exact A7), HP6.out.rd C6.out.rd (Nat.ne_of_lt hp), HP6.out.keeps_old C6.out.keeps (Nat.le_refl _)⟩
end YtabojeleomfgnaaGreatDoor
end Go.Proofs
namespace Go.Proofs
open Go.RowKit
namespace YtabojeleomfgnaaGreatDoor
set_option maxRecDepth 100000
theorem cwp_chain (n : Nat) (v : Value) (w : World) (h : At w (chainT n) v) (ht : Tb w) : Calls Tryz.prog 213 #[v] w fun e w' => e = .returned (.int .i64 0) ∧ Below w.heap.size w w' := by
  obtain ⟨d, kids, pa, cap, e, rfl⟩ := h.inv
  cases n with
  | zero =>
    rw [chainT, Tr.node.injEq] at e
    obtain ⟨rfl, rfl⟩ := e
    exact cwp_one pa cap w
  | succ n =>
    rw [chainT, Tr.node.injEq] at e
    obtain ⟨rfl, rfl⟩ := e
    exact cwp_neg pa cap w ht
/-- while an expression is checked: the part's cells at g4, the result's at g, the reader, the tree -/
def Sz2 (p g4 g : Nat) (C : Array Value) (T : ByteArray) (t : Tr) (w0 w : World) : Prop := Sx p g4 g C T w0 w ∧ AtB (g + 1) w t (.agg C) ∧ Tm w
theorem Sz2.below {p g4 g : Nat} {C : Array Value} {T : ByteArray} {t : Tr} {w0 w w' : World} (h : Sz2 p g4 g C T t w0 w) (hb : Below w.heap.size w w') : Sz2 p g4 g C T t w0 w' :=
  ⟨h.1.below hb, h.2.1.kept hb.size (fun k _ hk => hb.block k hk), h.2.2.below hb⟩
set_option maxHeartbeats 4000000 in
theorem expr_ch (n p : Nat) (T : ByteArray) (r : List UInt8) (w : World) (hr : Rd w p T) (ho : Tm w) (hp1 : 1 < p)
    (hpart : ∀ w, Rd w p T → Tm w → Calls Tryz.prog 218 #[.pointer (some ⟨p, 0, none⟩)] w (Chain n p r w)) :
    Calls Tryz.prog 165 #[.pointer (some ⟨p, 0, none⟩)] w (Chain n p r w) := by
  have hp : p < w.heap.size := lt_of_block hr
  have R0 : Hid (Rd (w.alloc (.cells Z13 70)) p T) := Lib.hid (rd_alloc hr _)
  have O0 : Hid (Tm (w.alloc (.cells Z13 70))) := Lib.hid (ho.below ((Below.refl _ _).alloc (Nat.le_refl _) _))
  have HPT := Lib.hid hpart
  clear hr ho hpart
  go_enter Tryz.func165, Tryz.ntmps165
  go_wp2_with fail
  refine (HPT.out _ R0.out O0.out).mono ?_
  rintro e w1 ⟨v, rfl, ha1, hr1, hk1⟩
  obtain ⟨d, kids, pa, c, ht', rfl⟩ := ha1.inv
  generalize kids.length = kn at *
  obtain ⟨k, op, n', vk, vn, vs, src, name, dis⟩ := d
  have A1 : Hid (AtB (w.heap.size + 1) w1 (chainT n) (.agg (ndC k op n' vk vn vs src name dis (.slice pa kn c)))) := Lib.hid (by simpa [Nd.c] using ha1)
  have RR1 := Lib.hid hr1
  have KK1 := Lib.hid hk1
  have O1 : Hid (Tm w1) := Lib.hid (O0.out.keeps hk1 hp1)
  simp only [Nd.c]
  clear ha1 hr1 hk1 ht'
  have HB1 : Hid (w1.heap[w.heap.size]? = some (.cells Z13 70 (0, 0))) := Lib.hid ((KK1.out.block _ (by simp) (Nat.ne_of_gt hp)).trans (heap_alloc_new w _))
  have HZ1 : Hid (w.heap.size < w1.heap.size) := Lib.hid (lt_of_block HB1.out)
  go_wp2_with fail
  have hS : Sz2 p w1.heap.size w.heap.size (ndC k op n' vk vn vs src name dis (.slice pa kn c)) (B r) (chainT n) w (w1.alloc (.cells (ndC k op n' vk vn vs src name dis (.slice pa kn c)) 70)).drew :=
    ⟨⟨heap_alloc_new w1 _, ⟨_, rfl, (heap_alloc_old _ _ HZ1.out).trans HB1.out⟩, rd_alloc RR1.out _, ((((Keeps.refl p w).alloc _).trans KK1.out).alloc _).drew⟩,
      (A1.out.kept (by show w1.heap.size ≤ (w1.alloc _).heap.size; simp) (fun k _ hk => heap_alloc_old _ _ hk)), O1.out.below (((Below.refl _ _).alloc (Nat.le_refl _) _).drew)⟩
  refine wp_region_held_drew (S := Sz2 p w1.heap.size w.heap.size (ndC k op n' vk vn vs src name dis (.slice pa kn c)) (B r) (chainT n) w) (by kernel_rfl) hS ?_
  intro hS0
  clear hS
  generalize (w1.alloc (.cells (ndC k op n' vk vn vs src name dis (.slice pa kn c)) 70)).drew = wd at hS0 ⊢
  refine wpAnyH_take (i := 0) (oi := ⟨some 11, _, _, _, _, _⟩) (v := .agg (ndC k op n' vk vn vs src name dis (.slice pa kn c))) rfl (by kernel_rfl) (by kernel_rfl) (by kernel_rfl) (fun _ _ _ h => h) (yld_load70 rfl (.tmp 4) rfl w1.heap.size _ rfl rfl (fun _ h => h.1.1)) hS0 ?_
  try simp only [Act.put, List.setIfInBounds_toArray, List.set_cons_zero, List.set_cons_succ]
  refine wpAnyH_take (i := 1) (oi := ⟨some 12, _, _, _, _, _⟩) (v := .bool true) rfl (by kernel_rfl) (by kernel_rfl) (by kernel_rfl) (fun _ _ _ h => h) (Or.inl ⟨rfl, fun _ _ => rfl⟩) hS0 ?_
  try simp only [Act.put, List.setIfInBounds_toArray, List.set_cons_zero, List.set_cons_succ]
  refine wpAnyH_take (i := 2) (oi := ⟨some 13, _, _, _, _, _⟩) (v := .bool true) rfl (by kernel_rfl) (by kernel_rfl) (by kernel_rfl) (fun _ _ _ h => h) (Or.inl ⟨rfl, fun _ _ => rfl⟩) hS0 ?_
  try simp only [Act.put, List.setIfInBounds_toArray, List.set_cons_zero, List.set_cons_succ]
  refine wpAnyH_take (i := 3) (oi := ⟨some 14, _, _, _, _, _⟩) (v := .agg (ndC k op n' vk vn vs src name dis (.slice pa kn c))) rfl (by kernel_rfl) (by kernel_rfl) (by kernel_rfl) (fun _ _ _ h => h) (yld_load70 rfl (.tmp 4) rfl w1.heap.size _ rfl rfl (fun _ h => h.1.1)) hS0 ?_
  try simp only [Act.put, List.setIfInBounds_toArray, List.set_cons_zero, List.set_cons_succ]
  refine wpAnyH_ready (rs := [4]) (by kernel_rfl) (by simp) ?_
  refine AllReadyH.cons rfl (fun K hK => ?_) AllReadyH.nil
  go_simp
  refine (cwp_chain n _ wd (hS0.2.1.base (Nat.zero_le _)) hS0.2.2.tb).mono ?_
  rintro e w3 ⟨rfl, hb3⟩
  refine hK.out _ _ (hS0.below hb3) ?_
  clear hK K
  have hS3 := hS0.below hb3
  clear hb3 hS0
  intro _
  refine wpAnyH_take (i := 5) (oi := ⟨some 16, _, _, _, _, _⟩) (v := .bool true) rfl (by kernel_rfl) (by kernel_rfl) (by kernel_rfl) (fun _ _ _ h => h) (Or.inl ⟨rfl, fun _ _ => by go_simp⟩) hS3 ?_
  try simp only [Act.put, List.setIfInBounds_toArray, List.set_cons_zero, List.set_cons_succ]
  refine wpAnyH_take (i := 6) (oi := ⟨some 17, _, _, _, _, _⟩) (v := .bool true) rfl (by kernel_rfl) (by kernel_rfl) (by kernel_rfl) (fun _ _ _ h => h) (Or.inl ⟨rfl, fun _ _ => by go_simp⟩) hS3 ?_
  try simp only [Act.put, List.setIfInBounds_toArray, List.set_cons_zero, List.set_cons_succ]
  refine wpAnyH_ready (rs := [7]) (by kernel_rfl) (by simp) ?_
  refine AllReadyH.cons rfl (fun K hK => ?_) AllReadyH.nil
  rw [if_pos (by rfl)]
  obtain ⟨⟨h1, ⟨X, hX, h2⟩, h3, h4⟩, h5, h6⟩ := hS3
  refine wp_store_row 70 (.tmp 2) (.tmp 11) rfl w.heap.size (ndC k op n' vk vn vs src name dis (.slice pa kn c)) rfl rfl 70 X h2 size70 hX (by simp [Value.oneCell']) ?_
  have hP := puts_setRow (cells := (ndC k op n' vk vn vs src name dis (.slice pa kn c))) h2
  generalize w3.setRow w.heap.size (ndC k op n' vk vn vs src name dis (.slice pa kn c)) = w4 at hP ⊢
  have hS4 : Sz2 p w1.heap.size w.heap.size (ndC k op n' vk vn vs src name dis (.slice pa kn c)) (B r) (chainT n) w w4 :=
    ⟨⟨(hP.keeps.block _ (lt_of_block h1) (Nat.ne_of_gt HZ1.out)).trans h1, ⟨_, rfl, hP.at'⟩, hP.rd h3 (Nat.ne_of_lt hp), hP.keeps_old h4 (Nat.le_refl _)⟩, h5.kept hP.keeps.size (fun k hk1 hk2 => hP.keeps.block k hk2 (by omega)), h6.keeps hP.keeps (Nat.lt_trans hp1 hp)⟩
  refine hK.out _ _ hS4 ?_
  clear hK K h1 h2 h3 h4 h5 h6
  intro hS5
  try simp only [Act.put, List.setIfInBounds_toArray]
  refine wpAnyH_take (i := 8) (oi := ⟨some 3, _, _, _, _, _⟩) (v := .bool true) rfl (by kernel_rfl) (by kernel_rfl) (by kernel_rfl) (fun _ _ _ h => h) (Or.inl ⟨rfl, fun _ _ => by go_simp⟩) hS5 ?_
  try simp only [Act.put]
  refine wpAnyH_done (by kernel_rfl) ?_ _
  have HP4 := Lib.hid hP
  have HS4 := Lib.hid hS4
  clear hP hS4 hS5
  go_wp2
  refine bodyPost_ret (results_expr_bool rfl _ _ w.heap.size (ndC k op n' vk vn vs src name dis (.slice pa kn c)) ?_ HP4.out.at' rfl) rfl ?_
  · rfl
  · exact ⟨_, rfl, HS4.out.2.1.base (Nat.le_succ _), HS4.out.1.2.2.1, HS4.out.1.2.2.2⟩
end YtabojeleomfgnaaGreatDoor
end Go.Proofs
namespace Go.Proofs
open Go.RowKit
namespace YtabojeleomfgnaaGreatDoor
set_option maxRecDepth 100000
abbrev S49 : ByteArray := ⟨#[49]⟩
set_option maxRecDepth 100000 in
theorem atoi1 (w : World) : Calls Tryz.prog 178 #[.string S49] w fun e w' => e = .returned (.tuple #[.int .i64 1, .nilIface]) ∧ Below w.heap.size w w' := by
  have e0 : ((S49[0]).toNat : Int) = 49 := rfl
  have hcv := Lib.run_convert_string_bytes (P := Tryz.prog) w 9 32 5 S49 Tryz.underlying9 Tryz.underlying32 Tryz.underlying5
  have hB : (Lib.bytesWorld w 5 S49).cell? ⟨w.heap.size, 0, none⟩ = some (.int .u8 49) := Lib.bytesWorld_cell w 5 S49 0 (by decide)
  have hb : Below w.heap.size w (Lib.bytesWorld w 5 S49) := below_bytes w 5 S49
  obtain ⟨W1, hW1⟩ : ∃ W1, W1 = Lib.bytesWorld w 5 S49 := ⟨_, rfl⟩
  rw [← hW1] at hcv hB hb
  clear hW1
  go_enter Tryz.func178, Tryz.ntmps178
  go_wp2
  go_rounds 3
  go_ret2
  exact ⟨rfl, hb⟩
theorem r21 : cl 2 1 ⟨#[]⟩ = val 2 1 ⟨#[]⟩ := cl_val _ _ _ (by simp [rightB, formedB, inRangeB, inB, ByteArray.toList_eq]; exact Nat.zero_le _)
theorem guess1 (w : World) : Calls Tryz.prog 104 #[.string S49] w fun e w' => e = .returned (val 2 1 ⟨#[]⟩) ∧ Below w.heap.size w w' := by
  have n1 : (S49.toList == [110, 117, 108, 108]) = false := by simp [ByteArray.toList_eq]
  have n2 : (S49.toList == [116, 114, 117, 101]) = false := by simp [ByteArray.toList_eq]
  have n3 : (S49.toList == [102, 97, 108, 115, 101]) = false := by simp [ByteArray.toList_eq]
  have p1 : Hid (hpB S49 ⟨#[39]⟩ = false) := Lib.hid (by decide)
  have p2 : Hid (hpB S49 ⟨#[64]⟩ = false) := Lib.hid (by decide)
  go_enter Tryz.func104, Tryz.ntmps104
  go_wp2_with (first | (go_at_call 168; refine (hasPrefix_any _ _ _).mono ?_; rintro e w8 ⟨rfl, rfl⟩; simp only [p1.out, p2.out]) | (go_at_call 178; refine (atoi1 _).mono ?_; rintro e w1 ⟨rfl, hb1⟩; obtain ⟨hc1, hf1⟩ := bcell hb1; have hz1 : w.heap.size < w1.heap.size := by { have := hb1.size; (try simp at this); omega }) | (go_at_call 123; refine (number_any _ _ _).mono ?_; rw [r21]; rintro e w2 ⟨rfl, hb2⟩; obtain ⟨hc2, hf2⟩ := bcell hb2; have hz2 : w.heap.size < w2.heap.size := by { have := hb2.size; (try simp at this); omega }))
  exact bodyPost_ret (v := val 2 1 ⟨#[]⟩) (by simp [results, Tryz.results104, go_sem, hc1, hz1, hc2]; try rfl) rfl ⟨rfl, by go_grown; exact (below_call (below_call (by go_grown) hb1) hb2)⟩
theorem read1 (w : World) : Calls Tryz.prog 32 #[.string S49] w fun e w' => e = .returned (.tuple #[val 2 1 ⟨#[]⟩, .int .i64 0]) ∧ Below w.heap.size w w' := by
  go_enter Tryz.func32, Tryz.ntmps32
  go_wp2_with fail
  refine (guess1 _).mono ?_
  rintro e w1 ⟨rfl, hb1⟩
  obtain ⟨hc1, hf1⟩ := bcell hb1
  have hz1_0 : w.heap.size < w1.heap.size := lt_after hb1 (by (try simp only [World.size_alloc]); repeat (first | (with_reducible assumption) | exact Nat.lt_add_one _ | apply Nat.lt_add_one_of_lt))
  go_wp2_with fail
  refine (show1 _).mono ?_
  rintro e w2 ⟨rfl, hb2⟩
  obtain ⟨hc2, hf2⟩ := bcell hb2
  have hz2_0 : w.heap.size < w2.heap.size := lt_after hb2 (by (try simp only [World.size_alloc]); repeat (first | (with_reducible assumption) | exact Nat.lt_add_one _ | apply Nat.lt_add_one_of_lt))
  have hz2_1 : w1.heap.size < w2.heap.size := lt_after hb2 (by (try simp only [World.size_alloc]); repeat (first | (with_reducible assumption) | exact Nat.lt_add_one _ | apply Nat.lt_add_one_of_lt))
  have hy2_0 : w.heap.size < w1.heap.size + 1 := by (try simp only [World.size_alloc, World.size_setCell, World.size_drew]); repeat (first | (with_reducible assumption) | exact Nat.lt_add_one _ | apply Nat.lt_add_one_of_lt)
  go_wp2
  exact bodyPost_ret (v := .tuple #[val 2 1 ⟨#[]⟩, .int .i64 0]) (by simp [results, Tryz.results32, go_sem, hc1, hz1_0, hc2, hy2_0]; try rfl) rfl ⟨rfl, (by go_grown; refine below_call ?_ hb2; go_grown; refine below_call ?_ hb1; go_grown)⟩
set_option maxHeartbeats 400000 in
theorem literal1 (w : World) : Calls Tryz.prog 267 #[.string S49] w fun e w' => e = .returned (.tuple #[exprV 1 0 0 2 1 ⟨#[]⟩ ⟨#[]⟩ ⟨#[]⟩ nilS, .bool true]) ∧ Below w.heap.size w w' := by
  go_enter Tryz.func267, Tryz.ntmps267
  go_wp2_with fail
  refine (read1 _).mono ?_
  rintro e w1 ⟨rfl, hb1⟩
  have hB : w1.heap[w.heap.size]? = some (.cells #[.int .i64 0, .int .i64 0, .int .i64 0, .int .i64 0, .int .i64 0, .string ⟨#[]⟩, .string ⟨#[]⟩, .string ⟨#[]⟩, .bool false, nilS, nilS, nilS, nilS] 70 (0, 0)) := by rw [hb1.block _ (by simp)]; exact heap_alloc_new w _
  have HB := Lib.hid hB
  have HZ := Lib.hid (lt_of_block hB)
  have hB2 := Lib.hid hb1
  clear hB hb1
  go_wp2_with (refine store_expr ?_ (.tmp 2) (.tmp 12) ?_ w.heap.size (exprC 1 0 0 2 1 ⟨#[]⟩ ⟨#[]⟩ ⟨#[]⟩ nilS) ?_ ?_ #[.int .i64 0, .int .i64 0, .int .i64 0, .int .i64 0, .int .i64 0, .string ⟨#[]⟩, .string ⟨#[]⟩, .string ⟨#[]⟩, .bool false, nilS, nilS, nilS, nilS] ?_ ?_ ?_ ?_ ?_; exact rfl; exact rfl; exact rfl; exact rfl; exact (heap_alloc_old _ _ HZ.out).trans HB.out; exact rfl; exact rfl; simp [Value.oneCell']; intro w2 hp2; have HP2 := Lib.hid hp2; clear hp2)
  refine bodyPost_ret (results_expr_bool rfl _ _ w.heap.size (exprC 1 0 0 2 1 ⟨#[]⟩ ⟨#[]⟩ ⟨#[]⟩ nilS) ?_ HP2.out.at' rfl) rfl ?_
  · rfl
  · exact ⟨rfl, HP2.out.below (by refine Below.alloc (below_call (by go_grown) hB2.out) ?_ _; exact Nat.le_of_lt HZ.out) (Nat.le_refl _)⟩
end YtabojeleomfgnaaGreatDoor
end Go.Proofs
namespace Go.Proofs
open Go.RowKit
namespace YtabojeleomfgnaaGreatDoor
set_option maxRecDepth 100000
theorem hp_cons (c d : UInt8) (l : List UInt8) (h : (d == c) = false) : hpB (B (c :: l)) ⟨#[d]⟩ = false := by
  show List.isPrefixOf [d] (c :: l) = false
  simp [List.isPrefixOf, h]
theorem hp_t (c d : UInt8) (l : List UInt8) (h : (d == c) = false) (w : World) : Calls Tryz.prog 168 #[.string (B (c :: l)), .string ⟨#[d]⟩] w fun e w' => e = .returned (.bool false) ∧ w = w' :=
  (hasPrefix_any (B (c :: l)) ⟨#[d]⟩ w).mono fun _ _ hh => ⟨hh.1.trans (by rw [hp_cons c d l h]), hh.2⟩
theorem we_neg (m : List UInt8) : we (B (110 :: 101 :: 103 :: 40 :: m)) = 3 := by
  have h1 : wordB 110 = true := by decide
  have h2 : wordB 101 = true := by decide
  have h3 : wordB 103 = true := by decide
  have h4 : wordB 40 = false := by decide
  show (List.takeWhile wordB (110 :: 101 :: 103 :: 40 :: m)).length = 3
  simp [h1, h2, h3, h4]
theorem we_one (s : List UInt8) (h : s = [] ∨ ∃ t, s = 41 :: t) : we (B (49 :: s)) = 1 := by
  have h1 : wordB 49 = true := by decide
  have h2 : wordB 41 = false := by decide
  show (List.takeWhile wordB (49 :: s)).length = 1
  rcases h with rfl | ⟨t, rfl⟩ <;> simp [h1, h2]
theorem small_max (l : List UInt8) (h : l.length ≤ 1000000) : (B l).size ≤ maxLen := by rw [B_size]; unfold maxLen; omega
def RestOk (s : List UInt8) : Prop := s = [] ∨ ∃ t, s = 41 :: t
theorem RestOk.ne {s : List UInt8} (h : RestOk s) (c : Int) (hc : ((41 : Int) != c) = true) : ∀ a r, s = a :: r → ((a.toNat : Int) != c) = true := by
  rintro a r rfl
  rcases h with h | ⟨t, h⟩
  · cases h
  · obtain ⟨rfl, _⟩ := List.cons.inj h
    exact hc
set_option maxHeartbeats 4000000 in
theorem part_neg (n p : Nat) (r : List UInt8) (w : World) (hr : Rd w p (B (nt (n + 1) ++ r))) (ho : Tm w) (hp1 : 1 < p) (hl : (nt (n + 1) ++ r).length ≤ 1000000)
    (hCE : ∀ w, Rd w p (B (nt n ++ 41 :: r)) → Tm w → Calls Tryz.prog 165 #[.pointer (some ⟨p, 0, none⟩)] w (Chain n p (41 :: r) w)) :
    Calls Tryz.prog 218 #[.pointer (some ⟨p, 0, none⟩)] w (Chain (n + 1) p r w) := by
  have el : nt (n + 1) ++ r = 110 :: 101 :: 103 :: 40 :: (nt n ++ 41 :: r) := by rw [nt]; simp
  rw [el] at hr hl
  have hCN := Lib.hid (fun w h1 h2 => call_neg n p r w h1 h2 hp1 hCE)
  clear hCE el
  generalize nt n ++ 41 :: r = m at hr hl hCN
  have hp : p < w.heap.size := lt_of_block hr
  have c0 := cell_of_one hr
  have R0 : Hid (Rd (w.alloc (.cells Z13 70)) p (B (110 :: 101 :: 103 :: 40 :: m))) := Lib.hid (rd_alloc hr _)
  have O0 : Hid (Tm (w.alloc (.cells Z13 70))) := Lib.hid (ho.below ((Below.refl _ _).alloc (Nat.le_refl _) _))
  have CWE := Lib.hid (fun w => (wordEnd_any (B (110 :: 101 :: 103 :: 40 :: m)) (small_max _ hl) w))
  rw [we_neg] at CWE
  clear hr ho hl
  go_enter Tryz.func218, Tryz.ntmps218
  go_wp2_with fail
  refine (byte_no p _ 63 _ R0.out (by rintro a r2 e; obtain ⟨rfl, _⟩ := List.cons.inj e; rfl)).mono ?_
  rintro e w9 ⟨rfl, rfl⟩
  go_wp2_with fail
  refine (hp_t 110 39 _ (by decide) _).mono ?_
  rintro e w9 ⟨rfl, rfl⟩
  go_wp2_with fail
  refine (hp_t 110 64 _ (by decide) _).mono ?_
  rintro e w9 ⟨rfl, rfl⟩
  go_wp2_with fail
  refine (hp_t 110 45 _ (by decide) _).mono ?_
  rintro e w9 ⟨rfl, rfl⟩
  go_wp2_with fail
  refine (CWE.out _).mono ?_
  rintro e w9 ⟨rfl, rfl⟩
  go_wp2_with fail
  refine (take_l p (110 :: 101 :: 103 :: 40 :: m) 3 _ R0.out (by simp)).mono ?_
  rintro e w1 ⟨rfl, hr1, hk1⟩
  have RR1 : Hid (Rd w1 p (B (40 :: m))) := Lib.hid hr1
  have c1 := cell_of_one RR1.out
  have KK1 := Lib.hid hk1
  clear hr1 hk1
  have HB1 : Hid (w1.heap[w.heap.size]? = some (.cells Z13 70 (0, 0))) := Lib.hid ((KK1.out.block _ (by simp) (Nat.ne_of_gt hp)).trans (heap_alloc_new w _))
  have HZ1 : Hid (w.heap.size < w1.heap.size) := Lib.hid (lt_of_block HB1.out)
  go_wp2_with fail
  refine (byte_no p (40 :: m) 58 _ RR1.out (by rintro a r2 e; obtain ⟨rfl, _⟩ := List.cons.inj e; rfl)).mono ?_
  rintro e w9 ⟨rfl, rfl⟩
  go_wp2_with fail
  refine (byte_yes40 p m _ RR1.out).mono ?_
  rintro e w2 ⟨rfl, hr2, hk2⟩
  have RR2 := Lib.hid hr2
  have c2 := cell_of_one hr2
  have KK2 := Lib.hid hk2
  clear hr2 hk2
  have HB2 : Hid (w2.heap[w.heap.size]? = some (.cells Z13 70 (0, 0))) := Lib.hid ((KK2.out.block _ HZ1.out (Nat.ne_of_gt hp)).trans HB1.out)
  have HZ2 : Hid (w.heap.size < w2.heap.size) := Lib.hid (lt_of_block HB2.out)
  have O2 : Hid (Tm w2) := Lib.hid ((O0.out.keeps KK1.out hp1).keeps KK2.out hp1)
  go_wp2_with fail
  refine (hCN.out _ RR2.out O2.out).mono ?_
  rintro e w3 ⟨v, rfl, ha3, hr3, hk3⟩
  obtain ⟨d, kids, pa, c, ht', rfl⟩ := ha3.inv
  generalize kids.length = kn at *
  obtain ⟨k, op, n', vk, vn, vs, src, name, dis⟩ := d
  have A3 : Hid (AtB w2.heap.size w3 (chainT (n + 1)) (.agg (ndC k op n' vk vn vs src name dis (.slice pa kn c)))) := Lib.hid (by simpa [Nd.c] using ha3)
  have RR3 := Lib.hid hr3
  have KK3 := Lib.hid hk3
  simp only [Nd.c]
  clear ha3 hr3 hk3 ht'
  have HB3 : Hid (w3.heap[w.heap.size]? = some (.cells Z13 70 (0, 0))) := Lib.hid ((KK3.out.block _ HZ2.out (Nat.ne_of_gt hp)).trans HB2.out)
  have HZ3 : Hid (w.heap.size < w3.heap.size) := Lib.hid (lt_of_block HB3.out)
  go_wp2_with (refine store_expr ?_ (.tmp 2) (.tmp 100) ?_ w.heap.size (ndC k op n' vk vn vs src name dis (.slice pa kn c)) ?_ ?_ Z13 ?_ ?_ ?_ ?_ ?_; exact rfl; exact rfl; exact rfl; exact rfl; exact HB3.out; exact rfl; exact rfl; simp [Value.oneCell']; intro w4 hp4; have HP4 := Lib.hid hp4; clear hp4)
  refine bodyPost_ret (results_expr_bool rfl _ _ w.heap.size (ndC k op n' vk vn vs src name dis (.slice pa kn c)) ?_ HP4.out.at' rfl) rfl ?_
  · rfl
  · have z2 := HZ2.out
    exact ⟨_, rfl, (A3.out.kept HP4.out.keeps.size (fun k2 h1 h2 => HP4.out.keeps.block k2 h2 (by omega))).base (by omega), HP4.out.rd RR3.out (Nat.ne_of_lt hp), HP4.out.keeps_old (((((Keeps.refl p w).alloc _).trans KK1.out).trans KK2.out).trans KK3.out) (Nat.le_refl _)⟩
set_option maxHeartbeats 4000000 in
theorem part_one (p : Nat) (s : List UInt8) (hs : RestOk s) (w : World) (hr : Rd w p (B (49 :: s))) (hl : s.length ≤ 100000) :
    Calls Tryz.prog 218 #[.pointer (some ⟨p, 0, none⟩)] w (Chain 0 p s w) := by
  have hp : p < w.heap.size := lt_of_block hr
  have c0 := cell_of_one hr
  have R0 : Hid (Rd (w.alloc (.cells Z13 70)) p (B (49 :: s))) := Lib.hid (rd_alloc hr _)
  have CWE := Lib.hid (fun w => (wordEnd_any (B (49 :: s)) (small_max _ (by simp; omega)) w))
  rw [we_one s hs] at CWE
  have HS := Lib.hid hs
  clear hr hl hs
  go_enter Tryz.func218, Tryz.ntmps218
  go_wp2_with fail
  refine (byte_no p _ 63 _ R0.out (by rintro a r2 e; obtain ⟨rfl, _⟩ := List.cons.inj e; rfl)).mono ?_
  rintro e w9 ⟨rfl, rfl⟩
  go_wp2_with fail
  refine (hp_t 49 39 _ (by decide) _).mono ?_
  rintro e w9 ⟨rfl, rfl⟩
  go_wp2_with fail
  refine (hp_t 49 64 _ (by decide) _).mono ?_
  rintro e w9 ⟨rfl, rfl⟩
  go_wp2_with fail
  refine (hp_t 49 45 _ (by decide) _).mono ?_
  rintro e w9 ⟨rfl, rfl⟩
  go_wp2_with fail
  refine (CWE.out _).mono ?_
  rintro e w9 ⟨rfl, rfl⟩
  go_wp2_with fail
  refine (take_l p (49 :: s) 1 _ R0.out (by simp)).mono ?_
  rintro e w1 ⟨rfl, hr1, hk1⟩
  have RR1 : Hid (Rd w1 p (B s)) := Lib.hid hr1
  have c1 := cell_of_one RR1.out
  have KK1 := Lib.hid hk1
  clear hr1 hk1
  have HB1 : Hid (w1.heap[w.heap.size]? = some (.cells Z13 70 (0, 0))) := Lib.hid ((KK1.out.block _ (by simp) (Nat.ne_of_gt hp)).trans (heap_alloc_new w _))
  have HZ1 : Hid (w.heap.size < w1.heap.size) := Lib.hid (lt_of_block HB1.out)
  go_wp2_with fail
  refine (byte_no p s 58 _ RR1.out (HS.out.ne 58 (by decide))).mono ?_
  rintro e w9 ⟨rfl, rfl⟩
  go_wp2_with fail
  refine (byte_no p s 40 _ RR1.out (HS.out.ne 40 (by decide))).mono ?_
  rintro e w9 ⟨rfl, rfl⟩
  go_wp2_with fail
  refine (literal1 _).mono ?_
  rintro e w3 ⟨rfl, hb3⟩
  have RR3 : Hid (Rd w3 p (B s)) := Lib.hid ((hb3.block _ (lt_of_block RR1.out)).trans RR1.out)
  have KK3 : Hid (Keeps p w1 w3) := Lib.hid (Keeps.of_below hb3)
  clear hb3
  have HB3 : Hid (w3.heap[w.heap.size]? = some (.cells Z13 70 (0, 0))) := Lib.hid ((KK3.out.block _ HZ1.out (Nat.ne_of_gt hp)).trans HB1.out)
  have HZ3 : Hid (w.heap.size < w3.heap.size) := Lib.hid (lt_of_block HB3.out)
  go_wp2_with (refine store_expr ?_ (.tmp 2) (.tmp 104) ?_ w.heap.size (exprC 1 0 0 2 1 ⟨#[]⟩ ⟨#[]⟩ ⟨#[]⟩ nilS) ?_ ?_ Z13 ?_ ?_ ?_ ?_ ?_; exact rfl; exact rfl; exact rfl; exact rfl; exact HB3.out; exact rfl; exact rfl; simp [Value.oneCell']; intro w4 hp4; have HP4 := Lib.hid hp4; clear hp4)
  refine bodyPost_ret (results_expr_bool rfl _ _ w.heap.size (exprC 1 0 0 2 1 ⟨#[]⟩ ⟨#[]⟩ ⟨#[]⟩ nilS) ?_ HP4.out.at' rfl) rfl ?_
  · rfl
  · exact ⟨_, rfl, AtB.node oneN [] nilS 0 0 (fun _ => []) ⟨none, 0, rfl, Nat.le_refl _, by decide, fun h => absurd h (by decide)⟩ (fun h => absurd h (by decide)) (fun i hi => absurd hi (by simp)) (fun i t ht => by simp at ht), HP4.out.rd RR3.out (Nat.ne_of_lt hp), HP4.out.keeps_old ((((Keeps.refl p w).alloc _).trans KK1.out).trans KK3.out) (Nat.le_refl _)⟩
theorem expr_chain (p : Nat) (hp1 : 1 < p) : ∀ (n : Nat) (s : List UInt8), RestOk s → (nt n ++ s).length ≤ 100000 → ∀ (w : World), Rd w p (B (nt n ++ s)) → Tm w → Calls Tryz.prog 165 #[.pointer (some ⟨p, 0, none⟩)] w (Chain n p s w)
  | 0, s, hs, hl, w, hr, ho => expr_ch 0 p _ s w hr ho hp1 (fun w' hr' _ => part_one p s hs w' hr' (by rw [List.length_append] at hl; omega))
  | n + 1, s, hs, hl, w, hr, ho => expr_ch (n + 1) p _ s w hr ho hp1 (fun w' hr' ho' => part_neg n p s w' hr' ho' hp1 (by omega) (fun w2 hr2 ho2 => expr_chain p hp1 n (41 :: s) (Or.inr ⟨s, rfl⟩) (by
      have h1 := nt_len n
      have h2 := nt_len (n + 1)
      rw [List.length_append] at hl ⊢
      rw [List.length_cons]
      omega) w2 hr2 ho2))
end YtabojeleomfgnaaGreatDoor
end Go.Proofs
namespace Go.Proofs
open Go.RowKit
namespace YtabojeleomfgnaaGreatDoor
set_option maxRecDepth 100000
theorem big_eq (n : Nat) : bigB (chainT n) = decide (24 ≤ n ) := by
  have hd : ∀ n, depT (chainT n) = n + 1 := by
    intro n
    induction n with
    | zero => rw [chainT, depT, depL]
    | succ n ih => rw [chainT, depT, depL, depL, ih]; omega
  have hc : ∀ n, cntT (chainT n) = n + 1 := by
    intro n
    induction n with
    | zero => rw [chainT, cntT, cntL]
    | succ n ih => rw [chainT, cntT, cntL, cntL, ih]; omega
  unfold bigB
  rw [hd, hc]
  apply decide_eq_decide.2
  omega
set_option maxHeartbeats 4000000 in
theorem exprRead_big (n : Nat) (hn : n ≤ 1000) (hb : 24 ≤ n) (w : World) (ho : Tm w) : Calls Tryz.prog 83 #[.string (B (nt n))] w fun e w' => e = .returned (.tuple #[.agg Z13, .int .i64 2]) ∧ Below w.heap.size w w' := by
  have h1 : 1 < w.heap.size := ho.tb.lt
  have hl := nt_len n
  have hz : ((B (nt n)).size : Int) ≤ 65536 := by rw [B_size, hl]; omega
  have CE := Lib.hid (fun w' (hr : Rd w' (w.heap.size + 1) (B (nt n))) (ho : Tm w') => expr_chain (w.heap.size + 1) (by omega) n [] (Or.inl rfl) (by rw [List.append_nil, hl]; omega) w' (by rw [List.append_nil]; exact hr) ho)
  have O0 : Hid (Tm ((w.alloc (.cells Z13 70)).alloc (.cells #[.string (B (nt n))] 150))) := Lib.hid (ho.below (by go_grown))
  have HBG : Hid (bigB (chainT n) = true) := Lib.hid (by rw [big_eq]; simp [hb])
  generalize B (nt n) = T at *
  clear ho hl
  go_enter Tryz.func83, Tryz.ntmps83
  go_wp2_with fail
  refine (CE.out _ (new_at _ _ _ (by simp)) O0.out).mono ?_
  rintro e w1 ⟨v, rfl, ha1, hr1, hk1⟩
  obtain ⟨d, kids, pa, c, ht', rfl⟩ := ha1.inv
  have CT := Lib.hid (fun w' h => tooLarge_t (chainT n) (.agg (d.c (.slice pa kids.length c))) w' h)
  rw [HBG.out] at CT
  generalize kids.length = kn at *
  obtain ⟨k, op, n', vk, vn, vs, src, name, dis⟩ := d
  have HB1 : Hid (w1.heap[w.heap.size]? = some (.cells Z13 70 (0, 0))) := Lib.hid ((hk1.block _ (by simp only [World.size_alloc]; omega) (by omega)).trans ((heap_alloc_old _ _ (by simp)).trans (heap_alloc_new w _)))
  have LW : Hid (Below w.heap.size w w1) := Lib.hid (keeps_above (by go_grown) hk1 (by omega))
  have RR1 : Hid (Rd w1 (w.heap.size + 1) (B [])) := Lib.hid hr1
  have A1 : Hid (At w1 (chainT n) (.agg (ndC k op n' vk vn vs src name dis (.slice pa kn c)))) := Lib.hid (AtB.base (by simpa [Nd.c] using ha1) (Nat.zero_le _))
  have HZ1 : Hid (w.heap.size < w1.heap.size) := Lib.hid (lt_of_block HB1.out)
  have HR1 : w.heap.size + 1 < w1.heap.size := lt_of_block hr1
  have c1 := cell_of_one RR1.out
  simp only [Nd.c] at CT ⊢
  clear ha1 hr1 hk1 O0 ht' CE
  go_wp2_with fail
  refine (CT.out _ (A1.out.low (low_alloc (Low.refl w1) _))).mono ?_
  rintro e w2 ⟨rfl, hb2⟩
  have HB2 : Hid (w2.heap[w.heap.size]? = some (.cells Z13 70 (0, 0))) := Lib.hid ((hb2.block _ (Nat.lt_of_lt_of_le HZ1.out (by simp))).trans ((heap_alloc_old _ _ HZ1.out).trans HB1.out))
  have L2 : Hid (Below w.heap.size w w2) := Lib.hid (below_call (LW.out.alloc (Nat.le_of_lt HZ1.out) _) hb2)
  clear hb2
  go_wp2_with (refine store_expr ?_ (.tmp 2) (.tmp 27) ?_ w.heap.size Z13 ?_ ?_ Z13 ?_ ?_ ?_ ?_ ?_; exact rfl; exact rfl; exact rfl; exact rfl; exact HB2.out; exact rfl; exact rfl; simp [Value.oneCell']; intro w3 hp3; have HP3 := Lib.hid hp3; clear hp3)
  refine bodyPost_ret (results_expr_bool rfl _ _ w.heap.size Z13 ?_ HP3.out.at' rfl) rfl ?_
  · rfl
  · exact ⟨rfl, HP3.out.below L2.out (Nat.le_refl _)⟩
end YtabojeleomfgnaaGreatDoor
end Go.Proofs
namespace Go.Proofs
open Go.RowKit
namespace YtabojeleomfgnaaGreatDoor
set_option maxRecDepth 100000
theorem run_copy_expr (w : World) (ty : TypeId) (g o dLen dCap : Nat) (a : Addr) (sLen sCap : Nat) (cur : Array Value) (t : TypeId) (cs : List Value)
    (hg : w.heap[g]? = some (.cells cur t (0, 0))) (hn : cs.length = Nat.min sLen dLen * 13)
    (hsrc : ∀ j v, cs[j]? = some v → w.cell? (a.add j) = some v) (hfit : o + cs.length ≤ cur.size) (h1 : ∀ v ∈ cs, v.oneCell' = true) :
    (Builtin.copy_ #[66, 66] ty #[.slice (some ⟨g, o, none⟩) dLen dCap, .slice (some a) sLen sCap]).run Tryz.prog w =
      .ok (goInt (Nat.min sLen dLen)) (w.setRow g (cur.toList.take o ++ cs ++ cur.toList.drop (o + cs.length)).toArray) := by
  have hl := run_loadCells_list (P := Tryz.prog) w a cs hsrc
  have hst := run_storeCells_at Tryz.prog g o t cs 0 cur w hg (by simpa using hfit) h1
  have hs := size70
  cases hq : Tryz.prog.info? 70 with
  | none => simp [hq] at hs
  | some i =>
    have hi : i.size = 13 := by simpa [hq] using hs
    simp [Builtin.copy_, run_underlying Tryz.underlying66, Builtin.lenOf, Builtin.firstCells, sizeOf, typeInfo, hq, hi, ← hn, hl, hst]
/-- n times the same cells -/
def rep (n : Nat) (cs : List Value) : List Value := (List.replicate n cs).flatten
theorem rep_len (n : Nat) (cs : List Value) (h : cs.length = 13) : (rep n cs).length = n * 13 := by simp [rep, h]
theorem rep_add (m k : Nat) (cs : List Value) : rep (m + k) cs = rep m cs ++ rep k cs := by
  rw [rep, rep, rep, ← List.flatten_append, List.replicate_append_replicate]
theorem rep_take (m k : Nat) (cs : List Value) (h : cs.length = 13) (hk : k ≤ m) : (rep m cs).take (k * 13) = rep k cs := by
  obtain ⟨d, rfl⟩ := Nat.exists_eq_add_of_le hk
  rw [rep_add, List.take_append_of_le_length (by rw [rep_len k cs h]; exact Nat.le_refl _), List.take_of_length_le (by rw [rep_len k cs h]; exact Nat.le_refl _)]
theorem rep_one (n : Nat) (cs : List Value) (h1 : ∀ v ∈ cs, v.oneCell' = true) : ∀ v ∈ rep n cs, v.oneCell' = true := by
  intro v hv
  rw [rep, List.mem_flatten] at hv
  obtain ⟨l, hl, hv⟩ := hv
  rw [List.eq_of_mem_replicate hl] at hv
  exact h1 v hv
/-- the first m of the n elements at block g have the cells cs -/
def Rp (g n m : Nat) (cs : List Value) (w0 w : World) : Prop := ∃ cur : List Value, w.heap[g]? = some (.cells cur.toArray 70 (0, 0)) ∧ cur.length = n * 13 ∧ cur.take (m * 13) = rep m cs ∧ Below w0.heap.size w0 w ∧ w0.heap.size ≤ g
theorem Rp.copied {g n m k : Nat} {cs : List Value} {w0 w : World} (h : Rp g n m cs w0 w) (hcs : cs.length = 13) (hmk : m + k ≤ n) (cur : List Value) (hg : w.heap[g]? = some (.cells cur.toArray 70 (0, 0))) :
    Rp g n (m + k) cs w0 (w.setRow g (cur.toArray.toList.take (m * 13) ++ rep k cs ++ cur.toArray.toList.drop (m * 13 + (rep k cs).length)).toArray) := by
  obtain ⟨cur2, h1, h2, h3, h4, h5⟩ := h
  obtain rfl : cur = cur2 := by
    have e := hg.symm.trans h1
    simp only [Option.some.injEq, Obj.cells.injEq] at e
    have e2 := congrArg Array.toList e.1
    simpa using e2
  refine ⟨_, setRow_heap w g _ _ 70 (0, 0) hg, ?_, ?_, below_setRow h4 h5 _, h5⟩
  · simp only [List.length_append, List.length_take, List.length_drop, rep_len k cs hcs, h2]
    omega
  · rw [h3, ← rep_add, List.take_append_of_le_length (by rw [rep_len _ cs hcs]; exact Nat.le_refl _), List.take_of_length_le (by rw [rep_len _ cs hcs]; exact Nat.le_refl _)]
theorem Rp.drew {g n m : Nat} {cs : List Value} {w0 w : World} (h : Rp g n m cs w0 w) : Rp g n m cs w0 w.drew := by
  obtain ⟨cur, h1, h2, h3, h4, h5⟩ := h
  exact ⟨cur, h1, h2, h3, h4.drew, h5⟩
theorem step_copy_expr {ops : Array Oper} {o : Oper} {a : Act} {w : World} {K : Act → World → Prop} {Q : Exit → Act → World → Prop} {E : Prop} (hgd : o.guard = none) (d s : Operand)
    (ho : o.op = .call { callee := .builtin .copy, args := #[d, s], argTypes := #[66, 66] }) (g n m dCap sCap : Nat) (cs : List Value) (w0 : World) (hR : Rp g n m cs w0 w) (hcs : cs.length = 13) (h1 : ∀ v ∈ cs, v.oneCell' = true) (hmn' : m < n)
    (hd : a.eval d = .slice (if n = m then some ⟨g, 0, none⟩ else some ⟨g, m * 13, none⟩) (n - m) dCap) (hs : a.eval s = .slice (some ⟨g, 0, none⟩) m sCap)
    (h : ∀ w', Hid (Rp g n (m + Nat.min m (n - m)) cs w0 w') → K (a.put o.dst (goInt (Nat.min m (n - m)))) w') :
    if Region.wanted o (yielded ops a.tmps) = true then Oper.wp Tryz.prog o a w K Q else E := by
  have hmn : m ≤ n := Nat.le_of_lt hmn'
  rw [if_neg (by omega)] at hd
  have hw : Region.wanted o (yielded ops a.tmps) = true := by simp [Region.wanted, hgd]
  rw [if_pos hw]
  have hR2 := hR
  obtain ⟨cur, hg, hl, ht, hb, hB⟩ := hR
  have hkm : Nat.min m (n - m) ≤ m := Nat.min_le_left _ _
  have hkn : m + Nat.min m (n - m) ≤ n := by
    have h2 : Nat.min m (n - m) ≤ n - m := Nat.min_le_right m (n - m)
    omega
  have hadd : ∀ j, (⟨g, 0, none⟩ : Addr).add j = ⟨g, j, none⟩ := fun j => by unfold Addr.add; split <;> simp_all
  have hrl := rep_len (Nat.min m (n - m)) cs hcs
  have hrun := run_copy_expr w o.type g (m * 13) (n - m) dCap ⟨g, 0, none⟩ m sCap cur.toArray 70 (rep (Nat.min m (n - m)) cs) hg hrl (fun j v hv => by
    rw [hadd, cell_of_row _ _ j _ _ _ hg]
    have hj : j < (Nat.min m (n - m)) * 13 := by rw [← hrl]; exact (List.getElem?_eq_some_iff.1 hv).1
    have e := rep_take m (Nat.min m (n - m)) cs hcs hkm
    rw [← ht, List.take_take, Nat.min_eq_left (Nat.mul_le_mul_right 13 hkm)] at e
    rw [← e, List.getElem?_take_of_lt hj] at hv
    simpa using hv) (by rw [hrl, ← Nat.add_mul, List.size_toArray, hl]; exact Nat.mul_le_mul_right 13 hkn) (rep_one _ cs h1)
  have hfin := hR2.copied (k := Nat.min m (n - m)) hcs hkn cur hg
  unfold Oper.wp
  simp [execOp, ho, resolve, invoke, builtin, hd, hs, hrun, Result.andThen]
  exact h _ (Lib.hid (by simpa using hfin))
theorem info70' : (Tryz.prog.info? 70).map (fun i => (i.zero, i.size, i.bytes)) = some (some (.agg Z13), 13, 192) := by kernel_rfl
theorem wpList_makeE {ops : Array Oper} {rest : List Oper} {o : Oper} {a : Act} {w : World} {Q : Exit → Act → World → Prop} (hgd : o.guard = none) (u v : Operand) (ho : o.op = .makeSlice 66 u v) (n : Nat) (hx : a.eval u = .int .i64 n) (hy : a.eval v = .int .i64 n) (hn : n ≤ 2000)
    (h : ∀ w', Hid (Rp w.heap.size n 0 [] w w') → wpList Tryz.prog ops Q rest (a.put o.dst (.slice (some ⟨w.heap.size, 0, none⟩) n n)) w') : wpList Tryz.prog ops Q (o :: rest) a w := by
  obtain ⟨i, hi, hz0, hz1, hz2⟩ := info_parts info70'
  have hrun := run_make (P := Tryz.prog) w 66 70 i (.agg Z13) Tryz.underlying66 hi hz0 .i64 .i64 (n : Int) (n : Int) (by omega) (Int.le_refl _) (by rw [hz2]; omega) (by omega)
  rw [hz1, show ((n : Int)).toNat = n by omega] at hrun
  refine wpList_plain hgd fun _ hK => ?_
  unfold Oper.wp execOp
  simp only [ho, hx, hy, Sem.run_bind, hrun, Result.andThen_ok, Sem.run_pure]
  exact hK _ _ (h _ ⟨(madeCells (Value.agg Z13).cells (n * 13)).toList, (heap_alloc_new w _).trans (by rw [Array.toArray_toList]), by rw [Array.length_toList, size_madeCells], by simp [rep], (Below.refl _ _).alloc (Nat.le_refl _) _, Nat.le_refl _⟩)
theorem mul1 (n : Nat) (hn : n ≤ 2000) (w : World) : Calls Tryz.prog 167 #[.int .u64 1, .int .u64 n] w fun e w' => e = .returned (.tuple #[.int .u64 0, .int .u64 n]) ∧ w' = w := by
  have MU := Lib.hid (fun w => (Tryz.bits_Mul64 1 n (by omega) (by omega) w))
  have e1 : 1 * n / 18446744073709551616 = 0 := by omega
  have e2 : 1 * n % 18446744073709551616 = n := by omega
  rw [e1, e2] at MU
  clear e1 e2
  go_enter Tryz.func167, Tryz.ntmps167
  go_wp2_with (go_at_call 225; refine (MU.out _).mono ?_; rintro e w9 ⟨rfl, rfl⟩)
  go_ret2
  exact ⟨rfl, rfl⟩
theorem wpList_copy_first {ops : Array Oper} {rest : List Oper} {o : Oper} {a : Act} {w : World} {Q : Exit → Act → World → Prop} (hgd : o.guard = none) (d s : Operand)
    (ho : o.op = .call { callee := .builtin .copy, args := #[d, s], argTypes := #[66, 66] }) (g n g0 dCap sCap : Nat) (cs : List Value) (w0 : World) (hR : Rp g n 0 [] w0 w) (hcs : cs.length = 13) (h1 : ∀ v ∈ cs, v.oneCell' = true) (hn : 1 ≤ n)
    (hsrc : w.rangeAt g0 0 cs) (hd : a.eval d = .slice (some ⟨g, 0, none⟩) n dCap) (hs : a.eval s = .slice (some ⟨g0, 0, none⟩) 1 sCap)
    (h : ∀ w', Hid (Rp g n 1 cs w0 w') → wpList Tryz.prog ops Q rest (a.put o.dst (goInt 1)) w') : wpList Tryz.prog ops Q (o :: rest) a w := by
  refine wpList_plain hgd fun K hK => ?_
  obtain ⟨cur, hg, hl, ht, hb, hB⟩ := hR
  have hadd : ∀ j, (⟨g0, 0, none⟩ : Addr).add j = ⟨g0, 0 + j, none⟩ := fun j => by unfold Addr.add; split <;> simp_all
  have hm : Nat.min 1 n = 1 := Nat.min_eq_left hn
  have hrun := run_copy_expr w o.type g 0 n dCap ⟨g0, 0, none⟩ 1 sCap cur.toArray 70 cs hg (by rw [hm, hcs]) (fun j v hv => by rw [hadd]; exact hsrc j v hv) (by rw [hcs, List.size_toArray, hl]; omega) h1
  rw [hm] at hrun
  unfold Oper.wp
  simp [execOp, ho, resolve, invoke, builtin, hd, hs, hrun, Result.andThen]
  refine hK _ _ (h _ (Lib.hid ⟨_, setRow_heap w g _ _ 70 (0, 0) hg, ?_, ?_, below_setRow hb hB _, hB⟩))
  · simp only [List.length_append, List.length_drop, hcs, hl]
    omega
  · rw [List.take_append_of_le_length (by rw [hcs]; exact Nat.le_refl _), List.take_of_length_le (by rw [hcs]; exact Nat.le_refl _)]
    simp [rep]
set_option maxHeartbeats 4000000 in
theorem repeat_t (g0 : Nat) (cs : List Value) (hcs : cs.length = 13) (h1 : ∀ v ∈ cs, v.oneCell' = true) (n : Nat) (hn : 1 ≤ n) (hn2 : n ≤ 2000) (w : World) (hg0 : g0 < w.heap.size) (hsrc : w.rangeAt g0 0 cs) :
    Calls Tryz.prog 88 #[.slice (some ⟨g0, 0, none⟩) 1 1, .int .i64 n] w fun e w' => ∃ g, e = .returned (.slice (some ⟨g, 0, none⟩) n n) ∧ Rp g n n cs w w' := by
  have MU := Lib.hid (mul1 n hn2)
  have hn0 : (1 : Int) ≤ n := by omega
  go_enter Tryz.func88, Tryz.ntmps88
  go_wp2_with fail
  refine (MU.out _).mono ?_
  rintro e wx ⟨rfl, hwx⟩
  rw [hwx]
  clear hwx wx
  go_wp2_with (first | (refine wpList_makeE rfl (.tmp 29) (.tmp 29) rfl n rfl rfl hn2 ?_; intro w1 hR1; have HS1 := Lib.hid (range_keeps hsrc (hR1.out.choose_spec.2.2.2.1.block g0 hg0))) | (refine wpList_copy_first rfl (.tmp 31) (.tmp 32) rfl w.heap.size n g0 n 1 cs w hR1.out hcs h1 hn HS1.out rfl rfl ?_; intro w2 hR2))
  go_loopw [8] (fun y wr => ∃ m : Nat, 1 ≤ m ∧ m ≤ n ∧ y = .int .i64 m ∧ Hid (Rp w.heap.size n m cs w wr)) (fun y _ => n - (intOf y).toNat)
  case atStart => exact ⟨1, Nat.le_refl _, hn, rfl, hR2⟩
  case round =>
    obtain ⟨m, hm1, hmn, rfl, hRm⟩ := hrel
    by_cases hlt : m < n
    · have hlt' : (m : Int) < n := by omega
      go_wp2_with fail
      have hRd := Lib.hid hRm.out.drew
      have k1 : Nat.min m (n - m) ≤ n - m := Nat.min_le_right m (n - m)
      have k2 : 1 ≤ Nat.min m (n - m) := by
        rcases Nat.le_total m (n - m) with h | h
        · have e : Nat.min m (n - m) = m := Nat.min_eq_left h
          omega
        · have e : Nat.min m (n - m) = n - m := Nat.min_eq_right h
          omega
      have hwr : IntKind.i64.wrap ((m : Int) + ((Nat.min m (n - m) : Nat) : Int)) = ((m + Nat.min m (n - m) : Nat) : Int) := by rw [IntKind.wrap_i64]; omega
      have HW := Lib.hid hwr
      clear hwr
      go_region_law (refine step_copy_expr rfl (.tmp 41) (.tmp 44) rfl w.heap.size n m (n - m) n cs w hRd.out hcs h1 hlt (by go_simp) (by go_simp) ?_; intro w4 hR4)
      go_wp2_with fail
      go_roundw
      case rel => exact ⟨m + Nat.min m (n - m), by omega, by omega, by rw [HW.out], hR4⟩
      case measure => (rw [HW.out]; simp [intOf]; omega)
    · have hmn2 : m = n := by omega
      subst hmn2
      go_wp2_with fail
      go_ret
      exact ⟨_, rfl, hRm.out⟩
end YtabojeleomfgnaaGreatDoor
end Go.Proofs
