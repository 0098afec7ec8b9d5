/- The head add. -/
import Derived.Test.YtabojeleomfgnaaGreatDoorE2
import Derived.Test.YtabojeleomfgnaaGreatDoorSh1
namespace Go.Proofs
open Go.RowKit
namespace YtabojeleomfgnaaGreatDoor
/-- what is read of the table of operations -/
structure Ops (w : World) : Prop where
  name1 : w.cell? ⟨1, 5, none⟩ = some (.string ⟨#[110, 111, 116]⟩)
  name2 : w.cell? ⟨1, 10, none⟩ = some (.string ⟨#[97, 110, 100]⟩)
  name3 : w.cell? ⟨1, 15, none⟩ = some (.string ⟨#[111, 114]⟩)
  name4 : w.cell? ⟨1, 20, none⟩ = some (.string ⟨#[101, 113, 117, 97, 108]⟩)
  name5 : w.cell? ⟨1, 25, none⟩ = some (.string ⟨#[117, 110, 101, 113, 117, 97, 108]⟩)
  name6 : w.cell? ⟨1, 30, none⟩ = some (.string ⟨#[108, 101, 115, 115]⟩)
  name7 : w.cell? ⟨1, 35, none⟩ = some (.string ⟨#[97, 116, 109, 111, 115, 116]⟩)
  name8 : w.cell? ⟨1, 40, none⟩ = some (.string ⟨#[103, 114, 101, 97, 116, 101, 114]⟩)
  name9 : w.cell? ⟨1, 45, none⟩ = some (.string ⟨#[97, 116, 108, 101, 97, 115, 116]⟩)
  name10 : w.cell? ⟨1, 50, none⟩ = some (.string ⟨#[115, 97, 109, 101]⟩)
  name11 : w.cell? ⟨1, 55, none⟩ = some (.string ⟨#[110, 117, 108, 108]⟩)
  name12 : w.cell? ⟨1, 60, none⟩ = some (.string ⟨#[97, 100, 100]⟩)
  count12 : w.cell? ⟨1, 61, none⟩ = some (.int .i64 2)
  lt : 1 < w.heap.size
  maxlen : ∃ m, w.cell? ⟨0, 0, none⟩ = some (.int .i64 m)
theorem Ops.below {w w' : World} (h : Ops w) (hb : Below w.heap.size w w') : Ops w' := by
  have c := fun o => hb.cell (p := ⟨1, o, none⟩) h.lt
  have c0 := hb.cell (p := ⟨0, 0, none⟩) (Nat.lt_trans Nat.zero_lt_one h.lt)
  exact ⟨(c _).trans h.name1, (c _).trans h.name2, (c _).trans h.name3, (c _).trans h.name4, (c _).trans h.name5, (c _).trans h.name6, (c _).trans h.name7, (c _).trans h.name8, (c _).trans h.name9, (c _).trans h.name10, (c _).trans h.name11, (c _).trans h.name12, (c _).trans h.count12, Nat.lt_of_lt_of_le h.lt hb.size, h.maxlen.imp fun m hm => c0.trans hm⟩
theorem Ops.keeps {p : Nat} {w w' : World} (h : Ops w) (hb : Keeps p w w') (hp : 1 < p) : Ops w' := by
  have c := fun o => (kcell hb).1 1 o h.lt (Nat.ne_of_lt hp)
  have c0 := (kcell hb).1 0 0 (Nat.lt_trans Nat.zero_lt_one h.lt) (Nat.ne_of_lt (Nat.lt_trans Nat.zero_lt_one hp))
  exact ⟨(c _).trans h.name1, (c _).trans h.name2, (c _).trans h.name3, (c _).trans h.name4, (c _).trans h.name5, (c _).trans h.name6, (c _).trans h.name7, (c _).trans h.name8, (c _).trans h.name9, (c _).trans h.name10, (c _).trans h.name11, (c _).trans h.name12, (c _).trans h.count12, Nat.lt_of_lt_of_le h.lt hb.size, h.maxlen.imp fun m hm => c0.trans hm⟩
abbrev SADD : ByteArray := ⟨#[97, 100, 100]⟩
set_option maxRecDepth 100000 in
set_option maxHeartbeats 2000000 in
theorem named_add (w : World) (hops : Ops w) : Calls Tryz.prog 330 #[.string SADD] w fun e w' => e = .returned (.int .i64 12) ∧ w = w' := by
  have n1 : w.cell? ⟨1, 5, none⟩ = some (.string ⟨#[110, 111, 116]⟩) := hops.name1
  have n2 : w.cell? ⟨1, 10, none⟩ = some (.string ⟨#[97, 110, 100]⟩) := hops.name2
  have n3 : w.cell? ⟨1, 15, none⟩ = some (.string ⟨#[111, 114]⟩) := hops.name3
  have n4 : w.cell? ⟨1, 20, none⟩ = some (.string ⟨#[101, 113, 117, 97, 108]⟩) := hops.name4
  have n5 : w.cell? ⟨1, 25, none⟩ = some (.string ⟨#[117, 110, 101, 113, 117, 97, 108]⟩) := hops.name5
  have n6 : w.cell? ⟨1, 30, none⟩ = some (.string ⟨#[108, 101, 115, 115]⟩) := hops.name6
  have n7 : w.cell? ⟨1, 35, none⟩ = some (.string ⟨#[97, 116, 109, 111, 115, 116]⟩) := hops.name7
  have n8 : w.cell? ⟨1, 40, none⟩ = some (.string ⟨#[103, 114, 101, 97, 116, 101, 114]⟩) := hops.name8
  have n9 : w.cell? ⟨1, 45, none⟩ = some (.string ⟨#[97, 116, 108, 101, 97, 115, 116]⟩) := hops.name9
  have n10 : w.cell? ⟨1, 50, none⟩ = some (.string ⟨#[115, 97, 109, 101]⟩) := hops.name10
  have n11 : w.cell? ⟨1, 55, none⟩ = some (.string ⟨#[110, 117, 108, 108]⟩) := hops.name11
  have n12 : w.cell? ⟨1, 60, none⟩ = some (.string ⟨#[97, 100, 100]⟩) := hops.name12
  have n61 := hops.count12
  clear hops
  have q1 : ((⟨#[110, 111, 116]⟩ : ByteArray).toList == SADD.toList) = false := by simp [ByteArray.toList_eq]
  have q2 : ((⟨#[97, 110, 100]⟩ : ByteArray).toList == SADD.toList) = false := by simp [ByteArray.toList_eq]
  have q3 : ((⟨#[111, 114]⟩ : ByteArray).toList == SADD.toList) = false := by simp [ByteArray.toList_eq]
  have q4 : ((⟨#[101, 113, 117, 97, 108]⟩ : ByteArray).toList == SADD.toList) = false := by simp [ByteArray.toList_eq]
  have q5 : ((⟨#[117, 110, 101, 113, 117, 97, 108]⟩ : ByteArray).toList == SADD.toList) = false := by simp [ByteArray.toList_eq]
  have q6 : ((⟨#[108, 101, 115, 115]⟩ : ByteArray).toList == SADD.toList) = false := by simp [ByteArray.toList_eq]
  have q7 : ((⟨#[97, 116, 109, 111, 115, 116]⟩ : ByteArray).toList == SADD.toList) = false := by simp [ByteArray.toList_eq]
  have q8 : ((⟨#[103, 114, 101, 97, 116, 101, 114]⟩ : ByteArray).toList == SADD.toList) = false := by simp [ByteArray.toList_eq]
  have q9 : ((⟨#[97, 116, 108, 101, 97, 115, 116]⟩ : ByteArray).toList == SADD.toList) = false := by simp [ByteArray.toList_eq]
  have q10 : ((⟨#[115, 97, 109, 101]⟩ : ByteArray).toList == SADD.toList) = false := by simp [ByteArray.toList_eq]
  have q11 : ((⟨#[110, 117, 108, 108]⟩ : ByteArray).toList == SADD.toList) = false := by simp [ByteArray.toList_eq]
  have q12 : ((⟨#[97, 100, 100]⟩ : ByteArray).toList == SADD.toList) = true := by simp [ByteArray.toList_eq]
  go_enter Tryz.func330, Tryz.ntmps330
  go_wp2
  go_rounds 14
  go_ret
  exact ⟨rfl, rfl⟩
theorem cut_add (w : World) (hops : Ops w) : Calls Tryz.prog 220 #[.string SADD, .string ⟨#[46]⟩] w fun e w' => e = .returned (.tuple #[.string SADD, .string ⟨#[]⟩, .bool false]) ∧ Below w.heap.size w w' := by
  obtain ⟨m, hm⟩ := hops.maxlen
  refine (Tryz.strings_Cut SADD ⟨#[46]⟩ m w (by decide) hm).mono ?_
  rintro e w' ⟨rfl, n, rfl⟩
  exact ⟨by rfl, below_drewN (Below.refl _ _) _⟩
abbrev EADD0 : Value := exprV 4 12 0 0 0 ⟨#[]⟩ ⟨#[]⟩ ⟨#[]⟩ nilS
set_option maxRecDepth 100000 in
set_option maxHeartbeats 2000000 in
theorem head_add (w : World) (hops : Ops w) : Calls Tryz.prog 304 #[.string SADD] w fun e w' => e = .returned (.tuple #[EADD0, .bool true]) ∧ Below w.heap.size w w' := by
  have q1 : (SADD.toList == [99, 97, 115, 101]) = false := by simp [ByteArray.toList_eq]
  have q2 : (SADD.toList == [105, 110]) = false := by simp [ByteArray.toList_eq]
  have HO := Lib.hid hops
  clear hops
  go_enter Tryz.func304, Tryz.ntmps304
  go_wp2_with fail
  refine (cut_add _ (HO.out.below (by go_grown))).mono ?_
  rintro e w1 ⟨rfl, hb1⟩
  have HO1 := Lib.hid ((HO.out.below (by go_grown)).below hb1)
  obtain ⟨hc1, hf1⟩ := bcell hb1
  have hz1_0 : w.heap.size < w1.heap.size := lt_after hb1 (by (try simp only [World.size_alloc]); repeat (first | (with_reducible assumption) | exact Nat.lt_add_one _ | apply Nat.lt_add_one_of_lt))
  have HB1 : Hid (w1.heap[w.heap.size]? = some (.cells #[.int .i64 0, .int .i64 0, .int .i64 0, .int .i64 0, .int .i64 0, .string ⟨#[]⟩, .string ⟨#[]⟩, .string ⟨#[]⟩, .bool false, nilS, nilS, nilS, nilS] 70 (0, 0))) := (hb1.block _ (by simp)).trans (heap_alloc_new w _)
  have HZ1 : Hid (w.heap.size < w1.heap.size) := lt_of_block HB1.out
  have HBB := Lib.hid hb1
  clear hb1 hc1 hf1
  go_wp2_with fail
  refine (named_add _ HO1.out).mono ?_
  rintro e w9 ⟨rfl, rfl⟩
  go_wp2_with (first | (refine store_expr ?_ (.tmp 2) (.tmp 39) ?_ w.heap.size (exprC 4 12 0 0 0 ⟨#[]⟩ ⟨#[]⟩ ⟨#[]⟩ nilS) ?_ ?_ #[.int .i64 0, .int .i64 0, .int .i64 0, .int .i64 0, .int .i64 0, .string ⟨#[]⟩, .string ⟨#[]⟩, .string ⟨#[]⟩, .bool false, nilS, nilS, nilS, nilS] ?_ ?_ ?_ ?_ ?_; exact rfl; exact rfl; exact rfl; exact rfl; exact (heap_alloc_old _ _ HZ1.out).trans HB1.out; exact rfl; exact rfl; simp [Value.oneCell']; intro w2 hp2; have HP2 := Lib.hid hp2; clear hp2) | go_in)
  refine bodyPost_ret (results_expr_bool rfl _ _ w.heap.size (exprC 4 12 0 0 0 ⟨#[]⟩ ⟨#[]⟩ ⟨#[]⟩ nilS) ?_ HP2.out.at' rfl) rfl ?_
  · rfl
  · exact ⟨rfl, HP2.out.below (by refine Below.alloc (below_call (by go_grown) HBB.out) ?_ _; exact Nat.le_of_lt HZ1.out) (Nat.le_refl _)⟩
end YtabojeleomfgnaaGreatDoor
end Go.Proofs
