/- The reader at the text add(:a,5): each step. -/
import Derived.Test.YtabojeleomfgnaaGreatDoorD1
import Derived.Deep.RegionHeld3
namespace Go.Proofs
open Go.RowKit
namespace YtabojeleomfgnaaGreatDoor
abbrev T0 : ByteArray := ⟨#[97, 100, 100, 40, 58, 97, 44, 53, 41]⟩
abbrev T1 : ByteArray := ⟨#[40, 58, 97, 44, 53, 41]⟩
abbrev T2 : ByteArray := ⟨#[58, 97, 44, 53, 41]⟩
abbrev T3 : ByteArray := ⟨#[97, 44, 53, 41]⟩
abbrev T4 : ByteArray := ⟨#[44, 53, 41]⟩
abbrev T5 : ByteArray := ⟨#[53, 41]⟩
abbrev T6 : ByteArray := ⟨#[41]⟩
abbrev T7 : ByteArray := ⟨#[]⟩
theorem e0 : T0.toList.isEmpty = false := by simp [ByteArray.toList_eq]
theorem e1 : T1.toList.isEmpty = false := by simp [ByteArray.toList_eq]
theorem e2 : T2.toList.isEmpty = false := by simp [ByteArray.toList_eq]
theorem e3 : T3.toList.isEmpty = false := by simp [ByteArray.toList_eq]
theorem e4 : T4.toList.isEmpty = false := by simp [ByteArray.toList_eq]
theorem e5 : T5.toList.isEmpty = false := by simp [ByteArray.toList_eq]
theorem e6 : T6.toList.isEmpty = false := by simp [ByteArray.toList_eq]
theorem we0 (w : World) : Calls Tryz.prog 262 #[.string T0] w fun e w' => e = .returned (.int .i64 3) ∧ w = w' := (wordEnd_any T0 (max1 _ (by decide)) w).mono fun _ _ h => ⟨h.1.trans (by rw [show we T0 = 3 from by decide]; rfl), h.2⟩
theorem we1 (w : World) : Calls Tryz.prog 262 #[.string T1] w fun e w' => e = .returned (.int .i64 0) ∧ w = w' := (wordEnd_any T1 (max1 _ (by decide)) w).mono fun _ _ h => ⟨h.1.trans (by rw [show we T1 = 0 from by decide]; rfl), h.2⟩
theorem we2 (w : World) : Calls Tryz.prog 262 #[.string T2] w fun e w' => e = .returned (.int .i64 0) ∧ w = w' := (wordEnd_any T2 (max1 _ (by decide)) w).mono fun _ _ h => ⟨h.1.trans (by rw [show we T2 = 0 from by decide]; rfl), h.2⟩
theorem we3 (w : World) : Calls Tryz.prog 262 #[.string T3] w fun e w' => e = .returned (.int .i64 1) ∧ w = w' := (wordEnd_any T3 (max1 _ (by decide)) w).mono fun _ _ h => ⟨h.1.trans (by rw [show we T3 = 1 from by decide]; rfl), h.2⟩
theorem we4 (w : World) : Calls Tryz.prog 262 #[.string T4] w fun e w' => e = .returned (.int .i64 0) ∧ w = w' := (wordEnd_any T4 (max1 _ (by decide)) w).mono fun _ _ h => ⟨h.1.trans (by rw [show we T4 = 0 from by decide]; rfl), h.2⟩
theorem we5 (w : World) : Calls Tryz.prog 262 #[.string T5] w fun e w' => e = .returned (.int .i64 1) ∧ w = w' := (wordEnd_any T5 (max1 _ (by decide)) w).mono fun _ _ h => ⟨h.1.trans (by rw [show we T5 = 1 from by decide]; rfl), h.2⟩
theorem we6 (w : World) : Calls Tryz.prog 262 #[.string T6] w fun e w' => e = .returned (.int .i64 0) ∧ w = w' := (wordEnd_any T6 (max1 _ (by decide)) w).mono fun _ _ h => ⟨h.1.trans (by rw [show we T6 = 0 from by decide]; rfl), h.2⟩
theorem we7 (w : World) : Calls Tryz.prog 262 #[.string T7] w fun e w' => e = .returned (.int .i64 0) ∧ w = w' := (wordEnd_any T7 (max1 _ (by decide)) w).mono fun _ _ h => ⟨h.1.trans (by rw [show we T7 = 0 from by decide]; rfl), h.2⟩
theorem hp0_39 (w : World) : Calls Tryz.prog 168 #[.string T0, .string ⟨#[39]⟩] w fun e w' => e = .returned (.bool false) ∧ w = w' := (hasPrefix_any T0 ⟨#[39]⟩ w).mono fun _ _ h => ⟨h.1.trans (by rw [show hpB T0 ⟨#[39]⟩ = false from by decide]), h.2⟩
theorem hp0_64 (w : World) : Calls Tryz.prog 168 #[.string T0, .string ⟨#[64]⟩] w fun e w' => e = .returned (.bool false) ∧ w = w' := (hasPrefix_any T0 ⟨#[64]⟩ w).mono fun _ _ h => ⟨h.1.trans (by rw [show hpB T0 ⟨#[64]⟩ = false from by decide]), h.2⟩
theorem hp0_45 (w : World) : Calls Tryz.prog 168 #[.string T0, .string ⟨#[45]⟩] w fun e w' => e = .returned (.bool false) ∧ w = w' := (hasPrefix_any T0 ⟨#[45]⟩ w).mono fun _ _ h => ⟨h.1.trans (by rw [show hpB T0 ⟨#[45]⟩ = false from by decide]), h.2⟩
theorem hp1_39 (w : World) : Calls Tryz.prog 168 #[.string T1, .string ⟨#[39]⟩] w fun e w' => e = .returned (.bool false) ∧ w = w' := (hasPrefix_any T1 ⟨#[39]⟩ w).mono fun _ _ h => ⟨h.1.trans (by rw [show hpB T1 ⟨#[39]⟩ = false from by decide]), h.2⟩
theorem hp1_64 (w : World) : Calls Tryz.prog 168 #[.string T1, .string ⟨#[64]⟩] w fun e w' => e = .returned (.bool false) ∧ w = w' := (hasPrefix_any T1 ⟨#[64]⟩ w).mono fun _ _ h => ⟨h.1.trans (by rw [show hpB T1 ⟨#[64]⟩ = false from by decide]), h.2⟩
theorem hp1_45 (w : World) : Calls Tryz.prog 168 #[.string T1, .string ⟨#[45]⟩] w fun e w' => e = .returned (.bool false) ∧ w = w' := (hasPrefix_any T1 ⟨#[45]⟩ w).mono fun _ _ h => ⟨h.1.trans (by rw [show hpB T1 ⟨#[45]⟩ = false from by decide]), h.2⟩
theorem hp2_39 (w : World) : Calls Tryz.prog 168 #[.string T2, .string ⟨#[39]⟩] w fun e w' => e = .returned (.bool false) ∧ w = w' := (hasPrefix_any T2 ⟨#[39]⟩ w).mono fun _ _ h => ⟨h.1.trans (by rw [show hpB T2 ⟨#[39]⟩ = false from by decide]), h.2⟩
theorem hp2_64 (w : World) : Calls Tryz.prog 168 #[.string T2, .string ⟨#[64]⟩] w fun e w' => e = .returned (.bool false) ∧ w = w' := (hasPrefix_any T2 ⟨#[64]⟩ w).mono fun _ _ h => ⟨h.1.trans (by rw [show hpB T2 ⟨#[64]⟩ = false from by decide]), h.2⟩
theorem hp2_45 (w : World) : Calls Tryz.prog 168 #[.string T2, .string ⟨#[45]⟩] w fun e w' => e = .returned (.bool false) ∧ w = w' := (hasPrefix_any T2 ⟨#[45]⟩ w).mono fun _ _ h => ⟨h.1.trans (by rw [show hpB T2 ⟨#[45]⟩ = false from by decide]), h.2⟩
theorem hp3_39 (w : World) : Calls Tryz.prog 168 #[.string T3, .string ⟨#[39]⟩] w fun e w' => e = .returned (.bool false) ∧ w = w' := (hasPrefix_any T3 ⟨#[39]⟩ w).mono fun _ _ h => ⟨h.1.trans (by rw [show hpB T3 ⟨#[39]⟩ = false from by decide]), h.2⟩
theorem hp3_64 (w : World) : Calls Tryz.prog 168 #[.string T3, .string ⟨#[64]⟩] w fun e w' => e = .returned (.bool false) ∧ w = w' := (hasPrefix_any T3 ⟨#[64]⟩ w).mono fun _ _ h => ⟨h.1.trans (by rw [show hpB T3 ⟨#[64]⟩ = false from by decide]), h.2⟩
theorem hp3_45 (w : World) : Calls Tryz.prog 168 #[.string T3, .string ⟨#[45]⟩] w fun e w' => e = .returned (.bool false) ∧ w = w' := (hasPrefix_any T3 ⟨#[45]⟩ w).mono fun _ _ h => ⟨h.1.trans (by rw [show hpB T3 ⟨#[45]⟩ = false from by decide]), h.2⟩
theorem hp4_39 (w : World) : Calls Tryz.prog 168 #[.string T4, .string ⟨#[39]⟩] w fun e w' => e = .returned (.bool false) ∧ w = w' := (hasPrefix_any T4 ⟨#[39]⟩ w).mono fun _ _ h => ⟨h.1.trans (by rw [show hpB T4 ⟨#[39]⟩ = false from by decide]), h.2⟩
theorem hp4_64 (w : World) : Calls Tryz.prog 168 #[.string T4, .string ⟨#[64]⟩] w fun e w' => e = .returned (.bool false) ∧ w = w' := (hasPrefix_any T4 ⟨#[64]⟩ w).mono fun _ _ h => ⟨h.1.trans (by rw [show hpB T4 ⟨#[64]⟩ = false from by decide]), h.2⟩
theorem hp4_45 (w : World) : Calls Tryz.prog 168 #[.string T4, .string ⟨#[45]⟩] w fun e w' => e = .returned (.bool false) ∧ w = w' := (hasPrefix_any T4 ⟨#[45]⟩ w).mono fun _ _ h => ⟨h.1.trans (by rw [show hpB T4 ⟨#[45]⟩ = false from by decide]), h.2⟩
theorem hp5_39 (w : World) : Calls Tryz.prog 168 #[.string T5, .string ⟨#[39]⟩] w fun e w' => e = .returned (.bool false) ∧ w = w' := (hasPrefix_any T5 ⟨#[39]⟩ w).mono fun _ _ h => ⟨h.1.trans (by rw [show hpB T5 ⟨#[39]⟩ = false from by decide]), h.2⟩
theorem hp5_64 (w : World) : Calls Tryz.prog 168 #[.string T5, .string ⟨#[64]⟩] w fun e w' => e = .returned (.bool false) ∧ w = w' := (hasPrefix_any T5 ⟨#[64]⟩ w).mono fun _ _ h => ⟨h.1.trans (by rw [show hpB T5 ⟨#[64]⟩ = false from by decide]), h.2⟩
theorem hp5_45 (w : World) : Calls Tryz.prog 168 #[.string T5, .string ⟨#[45]⟩] w fun e w' => e = .returned (.bool false) ∧ w = w' := (hasPrefix_any T5 ⟨#[45]⟩ w).mono fun _ _ h => ⟨h.1.trans (by rw [show hpB T5 ⟨#[45]⟩ = false from by decide]), h.2⟩
theorem hp6_39 (w : World) : Calls Tryz.prog 168 #[.string T6, .string ⟨#[39]⟩] w fun e w' => e = .returned (.bool false) ∧ w = w' := (hasPrefix_any T6 ⟨#[39]⟩ w).mono fun _ _ h => ⟨h.1.trans (by rw [show hpB T6 ⟨#[39]⟩ = false from by decide]), h.2⟩
theorem hp6_64 (w : World) : Calls Tryz.prog 168 #[.string T6, .string ⟨#[64]⟩] w fun e w' => e = .returned (.bool false) ∧ w = w' := (hasPrefix_any T6 ⟨#[64]⟩ w).mono fun _ _ h => ⟨h.1.trans (by rw [show hpB T6 ⟨#[64]⟩ = false from by decide]), h.2⟩
theorem hp6_45 (w : World) : Calls Tryz.prog 168 #[.string T6, .string ⟨#[45]⟩] w fun e w' => e = .returned (.bool false) ∧ w = w' := (hasPrefix_any T6 ⟨#[45]⟩ w).mono fun _ _ h => ⟨h.1.trans (by rw [show hpB T6 ⟨#[45]⟩ = false from by decide]), h.2⟩
theorem rd_alloc {w : World} {p : Nat} {s : ByteArray} (h : Rd w p s) (o : Obj) : Rd (w.alloc o) p s := (heap_alloc_old _ _ (lt_of_block h)).trans h
theorem Keeps.alloc {p : Nat} {a w : World} (h : Keeps p a w) (o : Obj) : Keeps p a (w.alloc o) := h.trans (Keeps.of_below ((Below.refl _ _).alloc (Nat.le_refl _) o))
theorem Puts.keeps_old {g p : Nat} {cells : Array Value} {t : TypeId} {a w w' : World} (h : Puts g cells t w w') (hb : Keeps p a w) (hg : a.heap.size ≤ g) : Keeps p a w' :=
  ⟨h.keeps.os.trans hb.os, h.keeps.tape.trans hb.tape, h.keeps.output.trans hb.output, by rw [h.size]; exact hb.size, fun k hk hp => (h.keeps.block k (Nat.lt_of_lt_of_le hk hb.size) (by omega)).trans (hb.block k hk hp)⟩
theorem Puts.rd {g p : Nat} {cells : Array Value} {t : TypeId} {s : ByteArray} {w w' : World} (h : Puts g cells t w w') (hr : Rd w p s) (hg : p ≠ g) : Rd w' p s :=
  (h.keeps.block p (lt_of_block hr) hg).trans hr
set_option maxHeartbeats 2000000 in
theorem partA (p : Nat) (w : World) (hr : Rd w p T2) : Calls Tryz.prog 218 #[.pointer (some ⟨p, 0, none⟩)] w fun e w' => e = .returned (.tuple #[EA, .bool true]) ∧ Rd w' p T4 ∧ Keeps p w w' := by
  have hp : p < w.heap.size := lt_of_block hr
  have c0 := cell_of_one hr
  have R0 : Hid (Rd (w.alloc (.cells #[.int .i64 0, .int .i64 0, .int .i64 0, .int .i64 0, .int .i64 0, .string ⟨#[]⟩, .string ⟨#[]⟩, .string ⟨#[]⟩, .bool false, nilS, nilS, nilS, nilS] 70)) p T2) := rd_alloc hr _
  clear hr
  go_enter Tryz.func218, Tryz.ntmps218
  go_wp2_with fail
  refine (takeByte_other p T2 63 _ R0.out e2 (by decide) (by decide)).mono ?_
  rintro e w9 ⟨rfl, rfl⟩
  go_wp2_with fail
  refine (hp2_39 _).mono ?_
  rintro e w9 ⟨rfl, rfl⟩
  go_wp2_with fail
  refine (hp2_64 _).mono ?_
  rintro e w9 ⟨rfl, rfl⟩
  go_wp2_with fail
  refine (hp2_45 _).mono ?_
  rintro e w9 ⟨rfl, rfl⟩
  go_wp2_with fail
  refine (we2 _).mono ?_
  rintro e w9 ⟨rfl, rfl⟩
  go_wp2_with fail
  refine (take_any p T2 0 _ R0.out (by decide)).mono ?_
  rintro e w1 ⟨rfl, hr1, hk1⟩
  have RR1 : Hid (Rd w1 p T2) := hr1
  have c1 := cell_of_one RR1.out
  have KK1 := Lib.hid hk1
  clear hr1 hk1
  try rw [show T2.extract 0 0 = ⟨#[]⟩ from rfl]
  have HB1 : Hid (w1.heap[w.heap.size]? = some (.cells #[.int .i64 0, .int .i64 0, .int .i64 0, .int .i64 0, .int .i64 0, .string ⟨#[]⟩, .string ⟨#[]⟩, .string ⟨#[]⟩, .bool false, nilS, nilS, nilS, nilS] 70 (0, 0))) := (KK1.out.block _ (by simp) (Nat.ne_of_gt hp)).trans (heap_alloc_new w _)
  have HZ1 : Hid (w.heap.size < w1.heap.size) := lt_of_block HB1.out
  go_wp2_with fail
  refine (takeByte_yes p T2 58 _ RR1.out e2 (by decide) (by decide)).mono ?_
  rintro e w2 ⟨rfl, hr2, hk2⟩
  have RR2 : Hid (Rd w2 p T3) := hr2
  have c2 := cell_of_one hr2
  have KK2 := Lib.hid hk2
  clear hr2 hk2
  have HB2 : Hid (w2.heap[w.heap.size]? = some (.cells #[.int .i64 0, .int .i64 0, .int .i64 0, .int .i64 0, .int .i64 0, .string ⟨#[]⟩, .string ⟨#[]⟩, .string ⟨#[]⟩, .bool false, nilS, nilS, nilS, nilS] 70 (0, 0))) := (KK2.out.block _ HZ1.out (Nat.ne_of_gt hp)).trans HB1.out
  have HZ2 : Hid (w.heap.size < w2.heap.size) := lt_of_block HB2.out
  go_wp2_with fail
  refine (we3 _).mono ?_
  rintro e w9 ⟨rfl, rfl⟩
  go_wp2_with fail
  refine (take_any p T3 1 _ RR2.out (by decide)).mono ?_
  rintro e w3 ⟨rfl, hr3, hk3⟩
  have RR3 : Hid (Rd w3 p T4) := hr3
  have c3 := cell_of_one RR3.out
  have KK3 := Lib.hid hk3
  clear hr3 hk3
  try rw [show T3.extract 0 1 = ⟨#[97]⟩ from rfl]
  have HB3 : Hid (w3.heap[w.heap.size]? = some (.cells #[.int .i64 0, .int .i64 0, .int .i64 0, .int .i64 0, .int .i64 0, .string ⟨#[]⟩, .string ⟨#[]⟩, .string ⟨#[]⟩, .bool false, nilS, nilS, nilS, nilS] 70 (0, 0))) := (KK3.out.block _ HZ2.out (Nat.ne_of_gt hp)).trans HB2.out
  have HZ3 : Hid (w.heap.size < w3.heap.size) := lt_of_block HB3.out
  go_wp2_with (refine store_expr ?_ (.tmp 2) (.tmp 93) ?_ w.heap.size (exprC 3 0 0 0 0 ⟨#[]⟩ ⟨#[]⟩ SA nilS) ?_ ?_ #[.int .i64 0, .int .i64 0, .int .i64 0, .int .i64 0, .int .i64 0, .string ⟨#[]⟩, .string ⟨#[]⟩, .string ⟨#[]⟩, .bool false, nilS, nilS, nilS, nilS] ?_ ?_ ?_ ?_ ?_; exact rfl; exact rfl; exact rfl; exact rfl; exact HB3.out; exact rfl; exact rfl; simp [Value.oneCell']; intro w4 hp4; have HP4 := Lib.hid hp4; clear hp4)
  refine bodyPost_ret (results_expr_bool rfl _ _ w.heap.size (exprC 3 0 0 0 0 ⟨#[]⟩ ⟨#[]⟩ SA nilS) ?_ HP4.out.at' rfl) rfl ?_
  · rfl
  · exact ⟨rfl, HP4.out.rd RR3.out (Nat.ne_of_lt hp), HP4.out.keeps_old (((((Keeps.refl p w).alloc _).trans KK1.out).trans KK2.out).trans KK3.out) (Nat.le_refl _)⟩
set_option maxHeartbeats 2000000 in
theorem part5 (p : Nat) (w : World) (hr : Rd w p T5) : Calls Tryz.prog 218 #[.pointer (some ⟨p, 0, none⟩)] w fun e w' => e = .returned (.tuple #[E5, .bool true]) ∧ Rd w' p T6 ∧ Keeps p w w' := by
  have hp : p < w.heap.size := lt_of_block hr
  have c0 := cell_of_one hr
  have R0 : Hid (Rd (w.alloc (.cells #[.int .i64 0, .int .i64 0, .int .i64 0, .int .i64 0, .int .i64 0, .string ⟨#[]⟩, .string ⟨#[]⟩, .string ⟨#[]⟩, .bool false, nilS, nilS, nilS, nilS] 70)) p T5) := rd_alloc hr _
  clear hr
  go_enter Tryz.func218, Tryz.ntmps218
  go_wp2_with fail
  refine (takeByte_other p T5 63 _ R0.out e5 (by decide) (by decide)).mono ?_
  rintro e w9 ⟨rfl, rfl⟩
  go_wp2_with fail
  refine (hp5_39 _).mono ?_
  rintro e w9 ⟨rfl, rfl⟩
  go_wp2_with fail
  refine (hp5_64 _).mono ?_
  rintro e w9 ⟨rfl, rfl⟩
  go_wp2_with fail
  refine (hp5_45 _).mono ?_
  rintro e w9 ⟨rfl, rfl⟩
  go_wp2_with fail
  refine (we5 _).mono ?_
  rintro e w9 ⟨rfl, rfl⟩
  go_wp2_with fail
  refine (take_any p T5 1 _ R0.out (by decide)).mono ?_
  rintro e w1 ⟨rfl, hr1, hk1⟩
  have RR1 : Hid (Rd w1 p T6) := hr1
  have c1 := cell_of_one RR1.out
  have KK1 := Lib.hid hk1
  clear hr1 hk1
  try rw [show T5.extract 0 1 = ⟨#[53]⟩ from rfl]
  have HB1 : Hid (w1.heap[w.heap.size]? = some (.cells #[.int .i64 0, .int .i64 0, .int .i64 0, .int .i64 0, .int .i64 0, .string ⟨#[]⟩, .string ⟨#[]⟩, .string ⟨#[]⟩, .bool false, nilS, nilS, nilS, nilS] 70 (0, 0))) := (KK1.out.block _ (by simp) (Nat.ne_of_gt hp)).trans (heap_alloc_new w _)
  have HZ1 : Hid (w.heap.size < w1.heap.size) := lt_of_block HB1.out
  go_wp2_with fail
  refine (takeByte_other p T6 58 _ RR1.out e6 (by decide) (by decide)).mono ?_
  rintro e w9 ⟨rfl, rfl⟩
  go_wp2_with fail
  refine (takeByte_other p T6 40 _ RR1.out e6 (by decide) (by decide)).mono ?_
  rintro e w9 ⟨rfl, rfl⟩
  go_wp2_with fail
  refine (literal5 _).mono ?_
  rintro e w2 ⟨rfl, hb2⟩
  have RR2 : Hid (Rd w2 p T6) := (hb2.block p (lt_of_block RR1.out)).trans RR1.out
  have c2 := cell_of_one RR2.out
  have HB2 : Hid (w2.heap[w.heap.size]? = some (.cells #[.int .i64 0, .int .i64 0, .int .i64 0, .int .i64 0, .int .i64 0, .string ⟨#[]⟩, .string ⟨#[]⟩, .string ⟨#[]⟩, .bool false, nilS, nilS, nilS, nilS] 70 (0, 0))) := (hb2.block _ HZ1.out).trans HB1.out
  have HZ2 : Hid (w.heap.size < w2.heap.size) := lt_of_block HB2.out
  have KK2 : Hid (Keeps p w1 w2) := Keeps.of_below hb2
  clear hb2
  go_wp2_with (refine store_expr ?_ (.tmp 2) (.tmp 104) ?_ w.heap.size (exprC 1 0 0 2 5 ⟨#[]⟩ ⟨#[]⟩ ⟨#[]⟩ nilS) ?_ ?_ #[.int .i64 0, .int .i64 0, .int .i64 0, .int .i64 0, .int .i64 0, .string ⟨#[]⟩, .string ⟨#[]⟩, .string ⟨#[]⟩, .bool false, nilS, nilS, nilS, nilS] ?_ ?_ ?_ ?_ ?_; exact rfl; exact rfl; exact rfl; exact rfl; exact HB2.out; exact rfl; exact rfl; simp [Value.oneCell']; intro w3 hp3; have HP3 := Lib.hid hp3; clear hp3)
  refine bodyPost_ret (results_expr_bool rfl _ _ w.heap.size (exprC 1 0 0 2 5 ⟨#[]⟩ ⟨#[]⟩ ⟨#[]⟩ nilS) ?_ HP3.out.at' rfl) rfl ?_
  · rfl
  · exact ⟨rfl, HP3.out.rd RR2.out (Nat.ne_of_lt hp), HP3.out.keeps_old ((((Keeps.refl p w).alloc _).trans KK1.out).trans KK2.out) (Nat.le_refl _)⟩
end YtabojeleomfgnaaGreatDoor
end Go.Proofs
