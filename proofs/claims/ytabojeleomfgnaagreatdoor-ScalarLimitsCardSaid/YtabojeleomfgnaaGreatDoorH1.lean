/- The reader at the whole text add(:a,5). -/
import Derived.Test.YtabojeleomfgnaaGreatDoorG2
namespace Go.Proofs
open Go.RowKit
namespace YtabojeleomfgnaaGreatDoor
set_option maxRecDepth 100000
/-- the expression add(:a,5), its Args at block b, read up to the text's end -/
def AddedAt (p base : Nat) (w0 : World) (e : Ending) (w' : World) : Prop :=
  ∃ b cap, e = .returned (.tuple #[EADD b cap, .bool true]) ∧ w'.ownsRow base 70 13 (.slice (some ⟨b, 0, none⟩) 2 cap) 2 (CA ++ C5) ∧ Rd w' p T7 ∧ Keeps p w0 w'
set_option maxHeartbeats 2000000 in
theorem part_add (p : Nat) (w : World) (hr : Rd w p T0) (ho : Ops w) (hp1 : 1 < p) : Calls Tryz.prog 218 #[.pointer (some ⟨p, 0, none⟩)] w (AddedAt p (w.heap.size + 1) w) := by
  have hp : p < w.heap.size := lt_of_block hr
  have c0 := cell_of_one hr
  have R0 : Hid (Rd (w.alloc (.cells Z13 70)) p T0) := rd_alloc hr _
  have O0 : Hid (Ops (w.alloc (.cells Z13 70))) := ho.below ((Below.refl _ _).alloc (Nat.le_refl _) _)
  clear hr ho
  go_enter Tryz.func218, Tryz.ntmps218
  go_wp2_with fail
  refine (takeByte_other p T0 63 _ R0.out e0 (by decide) (by decide)).mono ?_
  rintro e w9 ⟨rfl, rfl⟩
  go_wp2_with fail
  refine (hp0_39 _).mono ?_
  rintro e w9 ⟨rfl, rfl⟩
  go_wp2_with fail
  refine (hp0_64 _).mono ?_
  rintro e w9 ⟨rfl, rfl⟩
  go_wp2_with fail
  refine (hp0_45 _).mono ?_
  rintro e w9 ⟨rfl, rfl⟩
  go_wp2_with fail
  refine (we0 _).mono ?_
  rintro e w9 ⟨rfl, rfl⟩
  go_wp2_with fail
  refine (take_any p T0 3 _ R0.out (by decide)).mono ?_
  rintro e w1 ⟨rfl, hr1, hk1⟩
  have RR1 : Hid (Rd w1 p T1) := hr1
  have c1 := cell_of_one RR1.out
  have KK1 := Lib.hid hk1
  clear hr1 hk1
  try rw [show T0.extract 0 3 = ⟨#[97,100,100]⟩ from rfl]
  have HB1 : Hid (w1.heap[w.heap.size]? = some (.cells #[.int .i64 0, .int .i64 0, .int .i64 0, .int .i64 0, .int .i64 0, .string ⟨#[]⟩, .string ⟨#[]⟩, .string ⟨#[]⟩, .bool false, nilS, nilS, nilS, nilS] 70 (0, 0))) := (KK1.out.block _ (by simp) (Nat.ne_of_gt hp)).trans (heap_alloc_new w _)
  have HZ1 : Hid (w.heap.size < w1.heap.size) := lt_of_block HB1.out
  go_wp2_with fail
  refine (takeByte_other p T1 58 _ RR1.out e1 (by decide) (by decide)).mono ?_
  rintro e w9 ⟨rfl, rfl⟩
  go_wp2_with fail
  refine (takeByte_yes p T1 40 _ RR1.out e1 (by decide) (by decide)).mono ?_
  rintro e w2 ⟨rfl, hr2, hk2⟩
  have RR2 : Hid (Rd w2 p T2) := hr2
  have c2 := cell_of_one hr2
  have KK2 := Lib.hid hk2
  clear hr2 hk2
  have HB2 : Hid (w2.heap[w.heap.size]? = some (.cells #[.int .i64 0, .int .i64 0, .int .i64 0, .int .i64 0, .int .i64 0, .string ⟨#[]⟩, .string ⟨#[]⟩, .string ⟨#[]⟩, .bool false, nilS, nilS, nilS, nilS] 70 (0, 0))) := (KK2.out.block _ HZ1.out (Nat.ne_of_gt hp)).trans HB1.out
  have HZ2 : Hid (w.heap.size < w2.heap.size) := lt_of_block HB2.out
  have O2 : Hid (Ops w2) := (O0.out.keeps KK1.out hp1).keeps KK2.out hp1
  go_wp2_with fail
  refine (call_add p _ RR2.out O2.out hp1).mono ?_
  rintro e w3 ⟨b, cap, rfl, ho3, hr3, hk3⟩
  have OO3 := Lib.hid ho3
  have RR3 := Lib.hid hr3
  have KK3 := Lib.hid hk3
  clear ho3 hr3 hk3
  have HB3 : Hid (w3.heap[w.heap.size]? = some (.cells #[.int .i64 0, .int .i64 0, .int .i64 0, .int .i64 0, .int .i64 0, .string ⟨#[]⟩, .string ⟨#[]⟩, .string ⟨#[]⟩, .bool false, nilS, nilS, nilS, nilS] 70 (0, 0))) := (KK3.out.block _ HZ2.out (Nat.ne_of_gt hp)).trans HB2.out
  have HZ3 : Hid (w.heap.size < w3.heap.size) := lt_of_block HB3.out
  go_wp2_with (refine store_expr ?_ (.tmp 2) (.tmp 100) ?_ w.heap.size (exprC 4 12 0 0 0 ⟨#[]⟩ ⟨#[]⟩ ⟨#[]⟩ (.slice (some ⟨b, 0, none⟩) 2 cap)) ?_ ?_ #[.int .i64 0, .int .i64 0, .int .i64 0, .int .i64 0, .int .i64 0, .string ⟨#[]⟩, .string ⟨#[]⟩, .string ⟨#[]⟩, .bool false, nilS, nilS, nilS, nilS] ?_ ?_ ?_ ?_ ?_; exact rfl; exact rfl; exact rfl; exact rfl; exact HB3.out; exact rfl; exact rfl; simp [Value.oneCell']; intro w4 hp4; have HP4 := Lib.hid hp4; clear hp4)
  refine bodyPost_ret (results_expr_bool rfl _ _ w.heap.size (exprC 4 12 0 0 0 ⟨#[]⟩ ⟨#[]⟩ ⟨#[]⟩ (.slice (some ⟨b, 0, none⟩) 2 cap)) ?_ HP4.out.at' rfl) rfl ?_
  · rfl
  · have k4 := HP4.out.keeps
    have z2 := HZ2.out
    have h7 := (OO3.out.lt b rfl).1
    refine ⟨b, cap, rfl, own_base ?_ (Nat.succ_le_of_lt z2), HP4.out.rd RR3.out (Nat.ne_of_lt hp), HP4.out.keeps_old (((((Keeps.refl p w).alloc _).trans KK1.out).trans KK2.out).trans KK3.out) (Nat.le_refl _)⟩
    exact OO3.out.kept (row := some w.heap.size) ⟨k4.os, k4.tape, k4.output, k4.size, fun k hk1 hk2 => k4.block k hk1 (fun e => hk2 (by rw [e]))⟩ (.inr (fun e => by
      simp only [Value.ownBlock, Option.some.injEq] at e
      omega))
end YtabojeleomfgnaaGreatDoor
end Go.Proofs
