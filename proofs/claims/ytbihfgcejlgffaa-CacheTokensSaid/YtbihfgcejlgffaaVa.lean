/- Values: what Check says, keys and their hash. -/
import Derived.WalkKit
import Derived.Handy
import Derived.Outline
import Derived.Lib.ConvBytes
import Derived.Lib.Hide
import Derived.BigQuiet
import Derived.Deep.QuietTactic
import Derived.Laws.Closers25
import Derived.Lib.Bytes
import Derived.OneCell
import Derived.WalkSpells
import Derived.Laws.Tables
import Derived.Laws.Rows
import Derived.WalkSmall
import Derived.Deep.RegionHeld3
import Derived.Shelf.Small.Strs
import Derived.Shelf.Strings.Cut
import Derived.Ground.Names2Prog
import Derived.OwnWalk
import Derived.Deep.DeepMust
import Derived.Deep.MidRow
import Derived.Deep.WholeRow
import Derived.StillTail
import Derived.Deep.Quiet
import Derived.ProofKit
import Derived.Lay
import Derived.LaidMore
import Derived.OpenShut
import Derived.MakeChecks
import Derived.HandedShaped
import Derived.Lib.LaidU8
import Derived.Lib.SmallJoins
import Derived.Shelf.Vars
import Derived.JoinedOf
import Derived.KernelRfl
import Derived.SevenTiedAt
import Derived.Deep.Slices
import Derived.Carry
import Derived.ChangeOld
import Derived.Deep.DeepCutAuto
import Derived.Maps.Own
import Derived.Shelf.Bits.Mul64
import Derived.Shelf.Strings.Prefix
import Derived.Shelf.Small.Wraps
import Derived.Lib.Small
import Derived.Lib.Strings
import Derived.ChangeArms
import Derived.JoinedCond
import Derived.Laws.BytesArg
import Derived.Deep.AppendLies
import Derived.Deep.RegionHeld
import Derived.ChangeMaps5
import Derived.Shelf.Strings.Search3
import Derived.Laws.CopyOwn
import Derived.Laws.MakeOwn
import Derived.Test.YtbihfgcejlgffaaSt
namespace Go.Proofs
open Go.RowKit
namespace Ytbihfgcejlgffaa
set_option maxRecDepth 100000

theorem ret_bool {a b : Bool} (h : a = b) : Ending.returned (.bool a) = .returned (.bool b) := by rw [h]
theorem ret_int {k : IntKind} {a b : Int} (h : a = b) : Ending.returned (.int k a) = .returned (.int k b) := by rw [h]
def kindB (k : Int) : Bool := decide (1 ≤ k ∧ k ≤ 4)
theorem isKind_any (k : Int) (w : World) : Calls Try.prog 52 #[.int .i64 k] w fun e w' => e = .returned (.bool (kindB k)) ∧ w = w' := by
  go_enter Try.func52, Try.ntmps52
  go_wp2
  all_goals (go_ret; exact ⟨by simp [kindB]; omega, rfl⟩)
def inB (x a b : Int) : Bool := decide (a ≤ x ∧ x ≤ b)
theorem rwithin_any (x a b : Int) (w : World) : Calls Try.prog 67 #[.int .i64 x, .int .i64 a, .int .i64 b] w fun e w' => e = .returned (.bool (inB x a b)) ∧ w = w' := by
  go_enter Try.func67, Try.ntmps67
  go_wp2
  all_goals (go_ret; exact ⟨by simp [inB]; omega, rfl⟩)
abbrev val (k n : Int) (s : ByteArray) : Value := .agg #[.int .i64 k, .int .i64 n, .string s]
def formedB (k n : Int) (s : ByteArray) : Bool :=
  if k = 0 then (n == 0) && s.toList.isEmpty else if k = 1 ∨ k = 2 ∨ k = 4 then s.toList.isEmpty else if k = 3 then n == 0 else false
theorem formed_any (k n : Int) (s : ByteArray) (w : World) : Calls Try.prog 53 #[val k n s] w fun e w' => e = .returned (.bool (formedB k n s)) ∧ Below w.heap.size w w' := by
  go_enter Try.func53, Try.ntmps53
  go_wp2
  all_goals (go_ret; exact ⟨by simp_all [formedB], by go_grown⟩)
def okByte (c : UInt8) : Bool := decide (32 ≤ (c.toNat : Int) ∧ (c.toNat : Int) ≤ 126)
def allOk (s : ByteArray) : Bool := s.data.toList.all okByte
theorem take_snoc (s : ByteArray) (k : Nat) (h : k < s.size) : s.data.toList.take (k + 1) = s.data.toList.take k ++ [s[k]] := by
  rw [List.take_succ_eq_append_getElem (by simpa using h)]; rfl
theorem allOk_no (s : ByteArray) (k : Nat) (h : k < s.size) (hc : okByte s[k] = false) : allOk s = false := by
  unfold allOk
  rw [List.all_eq_false]
  exact ⟨s[k], by simp [ByteArray.getElem_eq_getElem_data], by simp [hc]⟩
theorem allOk_step (s : ByteArray) (k : Nat) (h : k < s.size) (hc : okByte s[k] = true) (ha : (s.data.toList.take k).all okByte = true) : (s.data.toList.take (k + 1)).all okByte = true := by
  rw [take_snoc s k h, List.all_append, ha]; simp [hc]
theorem allOk_end (s : ByteArray) (ha : (s.data.toList.take s.size).all okByte = true) : allOk s = true := by
  unfold allOk
  rwa [List.take_of_length_le (by simp)] at ha
theorem getD_at (s : ByteArray) (k : Nat) (h : k < s.size) : s.data.toList.getD k 0 = s[k] := by
  simp [List.getD, ByteArray.getElem_eq_getElem_data, h]
theorem okByte_of (c : UInt8) (h1 : ¬ ((c.toNat : Int) < 32)) (h2 : ¬ (126 < (c.toNat : Int))) : okByte c = true := by simp [okByte]; omega
theorem below_bytes (w : World) (e : TypeId) (s : ByteArray) : Below w.heap.size w (Lib.bytesWorld w e s) :=
  ⟨rfl, rfl, rfl, by rw [Lib.bytesWorld_size]; omega, fun k hk => Lib.bytesWorld_at_old w e s k hk⟩
theorem plain_any (s : ByteArray) (hs : s.size ≤ maxLen) (w : World) : Calls Try.prog 85 #[.string s] w fun e w' => e = .returned (.bool (allOk s)) ∧ Below w.heap.size w w' := by
  unfold maxLen at hs
  have hcv := Lib.run_convert_string_bytes (P := Try.prog) w 9 79 5 s Try.underlying9 Try.underlying79 Try.underlying5
  have hB : ∀ j, j < s.size → (Lib.bytesWorld w 5 s).cell? ⟨w.heap.size, j, none⟩ = some (.int .u8 (s.data.toList.getD j 0).toNat) := fun j hj => Lib.bytesWorld_cell w 5 s j hj
  have hb : Below w.heap.size w (Lib.bytesWorld w 5 s) := below_bytes w 5 s
  obtain ⟨W1, hW1⟩ : ∃ W1, W1 = Lib.bytesWorld w 5 s := ⟨_, rfl⟩
  rw [← hW1] at hcv hB hb
  clear hW1
  have HB := Lib.hid hB
  clear hB
  go_enter Try.func85, Try.ntmps85
  go_wp2
  go_loop [8] (fun i => ∃ k : Nat, k ≤ s.size ∧ i = .int .i64 k ∧ Hid ((s.data.toList.take k).all okByte = true)) (fun i => s.size - (intOf i).toNat)
  case atStart => exact ⟨0, by omega, rfl, by simp [Hid]⟩
  case round =>
    obtain ⟨k, hk, rfl, ha⟩ := hrel
    by_cases hlt : k < s.size
    · have hc := HB.out k hlt
      rw [getD_at s k hlt] at hc
      have hno := Lib.hid (allOk_no s k hlt)
      have hyes := Lib.hid (allOk_step s k hlt)
      generalize s[k] = c at hc hno hyes
      have hc256 : c.toNat < 256 := c.toNat_lt
      by_cases h1 : (c.toNat : Int) < 32
      · go_wp2
        go_ret
        exact ⟨ret_bool (hno.out (by simp [okByte]; omega)).symm, hb⟩
      · by_cases h2 : (126 : Int) < c.toNat
        · go_wp2
          go_ret
          exact ⟨ret_bool (hno.out (by simp [okByte]; omega)).symm, hb⟩
        · go_wp2
          exact ⟨⟨k + 1, by omega, by go_num, hyes.out (okByte_of c h1 h2) ha.out⟩, by simp [intOf]; omega⟩
    · have hks : k = s.size := by omega
      have hfin := Lib.hid (allOk_end s (by rw [← hks]; exact ha.out))
      clear hks
      go_wp2
      go_ret
      exact ⟨ret_bool hfin.out.symm, hb⟩
def inRangeB (k n : Int) (s : ByteArray) : Bool :=
  if k = 1 then decide (n = 0 ∨ n = 1) else if k = 2 then inB n (-999999999999999) 999999999999999 else if k = 4 then inB n 0 253402300799 else allOk s
theorem inRange_any (k n : Int) (s : ByteArray) (hs : s.size ≤ maxLen) (w : World) : Calls Try.prog 54 #[val k n s] w fun e w' => e = .returned (.bool (inRangeB k n s)) ∧ Below w.heap.size w w' := by
  unfold maxLen at hs
  go_enter Try.func54, Try.ntmps54
  go_wp2
  all_goals (try (go_ret; exact ⟨ret_bool (by simp_all [inRangeB, inB] <;> first | omega | (rw [Bool.eq_iff_iff]; simp; omega)), by go_grown⟩))
  go_loop [39] (fun i => ∃ k : Nat, k ≤ s.size ∧ i = .int .i64 k ∧ Hid ((s.data.toList.take k).all okByte = true)) (fun i => s.size - (intOf i).toNat)
  case atStart => exact ⟨0, by omega, rfl, by simp [Hid]⟩
  case round =>
    obtain ⟨j, hk, rfl, ha⟩ := hrel
    by_cases hlt : j < s.size
    · have hno := Lib.hid (allOk_no s j hlt)
      have hyes := Lib.hid (allOk_step s j hlt)
      have hc256 : s[j].toNat < 256 := s[j].toNat_lt
      by_cases h1 : (s[j].toNat : Int) < 32
      · go_wp2
        go_ret
        exact ⟨ret_bool (by simp_all [inRangeB]; exact hno.out (by simp [okByte]; omega)), by go_grown⟩
      · by_cases h2 : (126 : Int) < s[j].toNat
        · go_wp2
          go_ret
          exact ⟨ret_bool (by simp_all [inRangeB]; exact hno.out (by simp [okByte]; omega)), by go_grown⟩
        · go_wp2
          exact ⟨⟨j + 1, by omega, by go_num, hyes.out (okByte_of s[j] h1 h2) ha.out⟩, by simp [intOf]; omega⟩
    · have hks : j = s.size := by omega
      have hfin := Lib.hid (allOk_end s (by rw [← hks]; exact ha.out))
      clear hks
      go_wp2
      go_ret
      exact ⟨ret_bool (by simp_all [inRangeB]; exact hfin.out), by go_grown⟩
/-- a value is right -/
def rightB (k n : Int) (s : ByteArray) : Bool := formedB k n s && (decide (s.size ≤ 100) && inRangeB k n s)
/-- what clean gives -/
def cl (k n : Int) (s : ByteArray) : Value := if rightB k n s = true then val k n s else val 0 0 ByteArray.empty
theorem bcell {W w1 : World} (hb : Below W.heap.size W w1) : (∀ b o, b < W.heap.size → w1.cell? ⟨b, o, none⟩ = W.cell? ⟨b, o, none⟩) ∧ (∀ b o, b < W.heap.size → w1.frozen? ⟨b, o, none⟩ = W.frozen? ⟨b, o, none⟩) :=
  ⟨fun b o h => hb.cell (p := ⟨b, o, none⟩) h, fun b o h => hb.frozen (p := ⟨b, o, none⟩) h⟩
theorem cl_val (k n : Int) (s : ByteArray) (h : rightB k n s = true) : cl k n s = val k n s := by unfold cl; rw [if_pos h]
theorem cl_no (k n : Int) (s : ByteArray) (h : rightB k n s = false) : cl k n s = val 0 0 ByteArray.empty := by unfold cl; rw [if_neg (by simp [h])]
theorem below_call {w W w1 : World} (h : Below w.heap.size w W) (hb : Below W.heap.size W w1) : Below w.heap.size w w1 := h.trans (hb.mono h.size)
theorem clean_any (k n : Int) (s : ByteArray) (hs : s.size ≤ maxLen) (w : World) : Calls Try.prog 84 #[val k n s] w fun e w' => e = .returned (cl k n s) ∧ Below w.heap.size w w' := by
  have hs' := hs
  cases h1 : formedB k n s with
  | false =>
    have hc0 := Lib.hid (cl_no k n s (by simp [rightB, h1]))
    unfold maxLen at hs
    go_enter Try.func84, Try.ntmps84
    go_wp2_with fail
    refine (formed_any _ _ _ _).mono ?_
    rintro e w1 ⟨rfl, hb1⟩
    obtain ⟨hc1, hf1⟩ := bcell hb1
    have hz1_0 : w.heap.size < w1.heap.size := by have := hb1.size; (try simp at this); omega
    have hz1_1 : w.heap.size + 1 < w1.heap.size := by have := hb1.size; (try simp at this); omega
    go_wp2
    exact bodyPost_ret (v := val 0 0 ByteArray.empty) (by simp [results, Try.results84, go_sem, hc1]; try rfl) rfl ⟨by rw [hc0.out], by go_grown; exact (below_call (by go_grown) hb1)⟩
  | true =>
    by_cases h2 : s.size ≤ 100
    · cases h3 : inRangeB k n s with
      | false =>
        have hc0 := Lib.hid (cl_no k n s (by simp [rightB, h3]))
        unfold maxLen at hs
        go_enter Try.func84, Try.ntmps84
        go_wp2_with fail
        refine (formed_any _ _ _ _).mono ?_
        rintro e w1 ⟨rfl, hb1⟩
        obtain ⟨hc1, hf1⟩ := bcell hb1
        have hz1_0 : w.heap.size < w1.heap.size := by have := hb1.size; (try simp at this); omega
        have hz1_1 : w.heap.size + 1 < w1.heap.size := by have := hb1.size; (try simp at this); omega
        go_wp2_with fail
        refine (inRange_any _ _ _ hs' _).mono ?_
        rintro e w2 ⟨rfl, hb2⟩
        obtain ⟨hc2, hf2⟩ := bcell hb2
        have hz2_0 : w.heap.size < w2.heap.size := by have := hb2.size; (try simp at this); omega
        have hz2_1 : w.heap.size + 1 < w2.heap.size := by have := hb2.size; (try simp at this); omega
        go_wp2
        exact bodyPost_ret (v := val 0 0 ByteArray.empty) (by simp [results, Try.results84, go_sem, hc1, hz1_1, hc2]; try rfl) rfl ⟨by rw [hc0.out], by go_grown; exact (below_call (below_call (by go_grown) hb1) hb2)⟩
      | true =>
        have hc0 := Lib.hid (cl_val k n s (by simp [rightB, h1, h2, h3]))
        unfold maxLen at hs
        go_enter Try.func84, Try.ntmps84
        go_wp2_with fail
        refine (formed_any _ _ _ _).mono ?_
        rintro e w1 ⟨rfl, hb1⟩
        obtain ⟨hc1, hf1⟩ := bcell hb1
        have hz1_0 : w.heap.size < w1.heap.size := by have := hb1.size; (try simp at this); omega
        have hz1_1 : w.heap.size + 1 < w1.heap.size := by have := hb1.size; (try simp at this); omega
        go_wp2_with fail
        refine (inRange_any _ _ _ hs' _).mono ?_
        rintro e w2 ⟨rfl, hb2⟩
        obtain ⟨hc2, hf2⟩ := bcell hb2
        have hz2_0 : w.heap.size < w2.heap.size := by have := hb2.size; (try simp at this); omega
        have hz2_1 : w.heap.size + 1 < w2.heap.size := by have := hb2.size; (try simp at this); omega
        go_wp2
        exact bodyPost_ret (v := val k n s) (by simp [results, Try.results84, go_sem, hc1, hz1_1, hc2]; try rfl) rfl ⟨by rw [hc0.out], by go_grown; exact (below_call (below_call (by go_grown) hb1) hb2)⟩
    · have hc0 := Lib.hid (cl_no k n s (by simp [rightB, h2]))
      unfold maxLen at hs
      go_enter Try.func84, Try.ntmps84
      go_wp2_with fail
      refine (formed_any _ _ _ _).mono ?_
      rintro e w1 ⟨rfl, hb1⟩
      obtain ⟨hc1, hf1⟩ := bcell hb1
      have hz1_0 : w.heap.size < w1.heap.size := by have := hb1.size; (try simp at this); omega
      have hz1_1 : w.heap.size + 1 < w1.heap.size := by have := hb1.size; (try simp at this); omega
      go_wp2
      exact bodyPost_ret (v := val 0 0 ByteArray.empty) (by simp [results, Try.results84, go_sem, hc1]; try rfl) rfl ⟨by rw [hc0.out], by go_grown; exact (below_call (by go_grown) hb1)⟩
def checkN (kind k n : Int) (s : ByteArray) : Int :=
  if kindB kind = false then 4 else if formedB k n s = false then 3 else if k = 0 then 0 else if k ≠ kind then 8 else if 100 < s.size then 2 else if inRangeB k n s = false then 1 else 0
theorem check_any (kind k n : Int) (s : ByteArray) (hs : s.size ≤ maxLen) (w : World) : Calls Try.prog 31 #[.int .i64 kind, val k n s] w fun e w' => e = .returned (.int .i64 (checkN kind k n s)) ∧ Below w.heap.size w w' := by
  have hs' := hs
  cases h0 : kindB kind with
  | false =>
    have HR : Hid (checkN kind k n s = 4) := Lib.hid (by unfold checkN; simp only [h0]; simp_all)
    unfold maxLen at hs
    go_enter Try.func31, Try.ntmps31
    go_wp2_with fail
    refine (isKind_any _ _).mono ?_
    rintro e w1 ⟨rfl, rfl⟩
    go_wp2
    go_ret
    exact ⟨ret_int HR.out.symm, (by go_grown)⟩
  | true =>
    cases h1 : formedB k n s with
    | false =>
      have HR : Hid (checkN kind k n s = 3) := Lib.hid (by unfold checkN; simp only [h0, h1]; simp_all)
      unfold maxLen at hs
      go_enter Try.func31, Try.ntmps31
      go_wp2_with fail
      refine (isKind_any _ _).mono ?_
      rintro e w1 ⟨rfl, rfl⟩
      go_wp2_with fail
      refine (formed_any _ _ _ _).mono ?_
      rintro e w2 ⟨rfl, hb2⟩
      obtain ⟨hc2, hf2⟩ := bcell hb2
      have hz2_0 : w.heap.size < w2.heap.size := by have := hb2.size; (try simp at this); omega
      go_wp2
      go_ret
      exact ⟨ret_int HR.out.symm, (below_call (by go_grown) hb2)⟩
    | true =>
      by_cases h2 : k = 0
      · have h2b : (k == 0) = true := by simp [h2]
        have HR : Hid (checkN kind k n s = 0) := Lib.hid (by unfold checkN; simp only [h0, h2]; simp_all)
        clear h2
        unfold maxLen at hs
        go_enter Try.func31, Try.ntmps31
        go_wp2_with fail
        refine (isKind_any _ _).mono ?_
        rintro e w1 ⟨rfl, rfl⟩
        go_wp2_with fail
        refine (formed_any _ _ _ _).mono ?_
        rintro e w2 ⟨rfl, hb2⟩
        obtain ⟨hc2, hf2⟩ := bcell hb2
        have hz2_0 : w.heap.size < w2.heap.size := by have := hb2.size; (try simp at this); omega
        go_wp2
        go_ret
        exact ⟨ret_int HR.out.symm, (below_call (by go_grown) hb2)⟩
      · have h2b : (k == 0) = false := by simp [h2]
        by_cases h3 : k = kind
        · have h3b : (k != kind) = false := by simp [h3]
          by_cases h4 : 100 < s.size
          · have HR : Hid (checkN kind k n s = 2) := Lib.hid (by unfold checkN; simp only [h0, h3, h4]; simp_all)
            clear h2 h3
            unfold maxLen at hs
            go_enter Try.func31, Try.ntmps31
            go_wp2_with fail
            refine (isKind_any _ _).mono ?_
            rintro e w1 ⟨rfl, rfl⟩
            go_wp2_with fail
            refine (formed_any _ _ _ _).mono ?_
            rintro e w2 ⟨rfl, hb2⟩
            obtain ⟨hc2, hf2⟩ := bcell hb2
            have hz2_0 : w.heap.size < w2.heap.size := by have := hb2.size; (try simp at this); omega
            go_wp2
            go_ret
            exact ⟨ret_int HR.out.symm, (below_call (by go_grown) hb2)⟩
          · cases h5 : inRangeB k n s with
            | false =>
              have HR : Hid (checkN kind k n s = 1) := Lib.hid (by unfold checkN; simp only [h0, h3, h4]; simp_all)
              clear h2 h3
              unfold maxLen at hs
              go_enter Try.func31, Try.ntmps31
              go_wp2_with fail
              refine (isKind_any _ _).mono ?_
              rintro e w1 ⟨rfl, rfl⟩
              go_wp2_with fail
              refine (formed_any _ _ _ _).mono ?_
              rintro e w2 ⟨rfl, hb2⟩
              obtain ⟨hc2, hf2⟩ := bcell hb2
              have hz2_0 : w.heap.size < w2.heap.size := by have := hb2.size; (try simp at this); omega
              go_wp2_with fail
              refine (inRange_any _ _ _ hs' _).mono ?_
              rintro e w3 ⟨rfl, hb3⟩
              obtain ⟨hc3, hf3⟩ := bcell hb3
              have hz3_0 : w.heap.size < w3.heap.size := by have := hb3.size; (try simp at this); omega
              go_wp2
              go_ret
              exact ⟨ret_int HR.out.symm, (below_call (below_call (by go_grown) hb2) hb3)⟩
            | true =>
              have HR : Hid (checkN kind k n s = 0) := Lib.hid (by unfold checkN; simp only [h0, h3, h4]; simp_all)
              clear h2 h3
              unfold maxLen at hs
              go_enter Try.func31, Try.ntmps31
              go_wp2_with fail
              refine (isKind_any _ _).mono ?_
              rintro e w1 ⟨rfl, rfl⟩
              go_wp2_with fail
              refine (formed_any _ _ _ _).mono ?_
              rintro e w2 ⟨rfl, hb2⟩
              obtain ⟨hc2, hf2⟩ := bcell hb2
              have hz2_0 : w.heap.size < w2.heap.size := by have := hb2.size; (try simp at this); omega
              go_wp2_with fail
              refine (inRange_any _ _ _ hs' _).mono ?_
              rintro e w3 ⟨rfl, hb3⟩
              obtain ⟨hc3, hf3⟩ := bcell hb3
              have hz3_0 : w.heap.size < w3.heap.size := by have := hb3.size; (try simp at this); omega
              go_wp2
              go_ret
              exact ⟨ret_int HR.out.symm, (below_call (below_call (by go_grown) hb2) hb3)⟩
        · have h3b : (k != kind) = true := by simp [h3]
          have HR : Hid (checkN kind k n s = 8) := Lib.hid (by unfold checkN; simp only [h0, h1, h2]; simp_all)
          clear h2 h3
          unfold maxLen at hs
          go_enter Try.func31, Try.ntmps31
          go_wp2_with fail
          refine (isKind_any _ _).mono ?_
          rintro e w1 ⟨rfl, rfl⟩
          go_wp2_with fail
          refine (formed_any _ _ _ _).mono ?_
          rintro e w2 ⟨rfl, hb2⟩
          obtain ⟨hc2, hf2⟩ := bcell hb2
          have hz2_0 : w.heap.size < w2.heap.size := by have := hb2.size; (try simp at this); omega
          go_wp2
          go_ret
          exact ⟨ret_int HR.out.symm, (below_call (by go_grown) hb2)⟩
def outB (k n : Int) : Bool := (k == 1 && !inB n 0 1) || (k == 2 && !inB n (-999999999999999) 999999999999999) || (k == 4 && !inB n 0 253402300799)
def faultN (kind k n : Int) (s : ByteArray) : Int :=
  if inB k 0 4 = false then 3 else if (k != 3 && !s.toList.isEmpty) = true then 3 else if ((k == 3 || k == 0) && n != 0) = true then 3
  else if (kind != 0 && k != 0 && k != kind) = true then 8 else if 100 < s.size then 2 else if allOk s = false then 1 else if outB k n = true then 1 else 0
set_option maxHeartbeats 4000000 in
theorem fault_any (kind k n : Int) (s : ByteArray) (hs : s.size ≤ maxLen) (w : World) : Calls Try.prog 68 #[.int .i64 kind, val k n s] w fun e w' => e = .returned (.int .i64 (faultN kind k n s)) ∧ Below w.heap.size w w' := by
  have hs' := hs
  unfold maxLen at hs
  go_enter Try.func68, Try.ntmps68
  go_wp2_with (go_at_call 67; refine (rwithin_any _ _ _ _).mono ?_; rintro e w9 ⟨rfl, rfl⟩)
  all_goals (try (go_ret; refine ⟨ret_int ?_, (by go_grown)⟩; first | (simp_all [faultN, outB]; done) | (simp_all [faultN, outB]; omega) | (exfalso; simp_all; done)))
  all_goals (refine (plain_any _ hs' _).mono ?_; rintro e w1 ⟨rfl, hb1⟩; obtain ⟨hc1, hf1⟩ := bcell hb1; have hz1_0 : w.heap.size < w1.heap.size := by have := hb1.size; (try simp at this); omega)
  all_goals go_wp2_with (go_at_call 67; refine (rwithin_any _ _ _ _).mono ?_; rintro e w9 ⟨rfl, rfl⟩)
  all_goals (try (go_ret; refine ⟨ret_int ?_, (below_call (by go_grown) hb1)⟩; first | (simp_all [faultN, outB]; done) | (simp_all [faultN, outB]; omega) | (exfalso; simp_all; done)))
theorem empty_size (s : ByteArray) (h : s.toList = []) : s.size = 0 ∧ allOk s = true := by
  rw [Lib.toList_data] at h
  exact ⟨by simpa using congrArg List.length h, by unfold allOk; rw [h]; rfl⟩
theorem k_cases (k : Int) (h : inB k 0 4 = true) : k = 0 ∨ k = 1 ∨ k = 2 ∨ k = 3 ∨ k = 4 := by
  simp [inB] at h; omega
theorem k_out (k : Int) (h : inB k 0 4 = false) : k ≠ 0 ∧ k ≠ 1 ∧ k ≠ 2 ∧ k ≠ 3 ∧ k ≠ 4 := by
  simp [inB] at h; omega
theorem fault_right (k n : Int) (s : ByteArray) : faultN 0 k n s = 0 ↔ rightB k n s = true := by
  cases h : inB k 0 4 with
  | false =>
    have := k_out k h
    simp [faultN, h, rightB, formedB, this]
  | true =>
    rcases k_cases k h with rfl | rfl | rfl | rfl | rfl
    all_goals
      simp [faultN, h, rightB, formedB, outB, inRangeB]
      by_cases hE : s.toList = []
      · obtain ⟨e1, e2⟩ := empty_size s hE
        try simp [hE, e1, e2]
        repeat' split
        all_goals (try simp_all [inB])
        all_goals (try omega)
      · try simp [hE]
        repeat' split
        all_goals (try simp_all)
        all_goals (try omega)
theorem check_fault (kind k n : Int) (s : ByteArray) (hk : kindB kind = true) : checkN kind k n s = faultN kind k n s := by
  have hk2 : kind ≠ 0 := by simp [kindB] at hk; omega
  cases h : inB k 0 4 with
  | false =>
    have := k_out k h
    simp [faultN, h, checkN, hk, formedB, this]
  | true =>
    rcases k_cases k h with rfl | rfl | rfl | rfl | rfl
    all_goals try simp [faultN, h, checkN, hk, hk2, formedB, outB, inRangeB]
    all_goals
      by_cases hE : s.toList = []
      · obtain ⟨e1, e2⟩ := empty_size s hE
        try simp [hE, e1, e2]
        repeat' split
        all_goals (try simp_all [inB])
        all_goals (try omega)
      · try simp [hE]
        repeat' split
        all_goals (try simp_all)
        all_goals (try omega)
theorem anyFault_any (k n : Int) (s : ByteArray) (hs : s.size ≤ maxLen) (w : World) : Calls Try.prog 86 #[val k n s] w fun e w' => e = .returned (.int .i64 (faultN 0 k n s)) ∧ Below w.heap.size w w' := by
  have hs' := hs
  unfold maxLen at hs
  go_enter Try.func86, Try.ntmps86
  go_wp2_with fail
  refine (fault_any _ _ _ _ hs' _).mono ?_
  rintro e w1 ⟨rfl, hb1⟩
  obtain ⟨hc1, hf1⟩ := bcell hb1
  go_wp2
  go_ret
  exact ⟨rfl, below_call (by go_grown) hb1⟩
theorem kind_in (kind : Int) : inB kind 1 4 = kindB kind := by unfold inB kindB; rfl
theorem valueFault_any (kind k n : Int) (s : ByteArray) (hs : s.size ≤ maxLen) (w : World) : Calls Try.prog 39 #[.int .i64 kind, val k n s] w fun e w' => e = .returned (.int .i64 (checkN kind k n s)) ∧ Below w.heap.size w w' := by
  have hs' := hs
  cases hk : kindB kind with
  | false =>
    have HR : Hid (checkN kind k n s = 4) := Lib.hid (by simp [checkN, hk])
    have hk2 : inB kind 1 4 = false := by rw [kind_in]; exact hk
    unfold maxLen at hs
    go_enter Try.func39, Try.ntmps39
    go_wp2_with (go_at_call 67; refine (rwithin_any _ _ _ _).mono ?_; rintro e w9 ⟨rfl, rfl⟩)
    go_ret
    exact ⟨ret_int HR.out.symm, (by go_grown)⟩
  | true =>
    have HR : Hid (checkN kind k n s = faultN kind k n s) := Lib.hid (check_fault kind k n s hk)
    have hk2 : inB kind 1 4 = true := by rw [kind_in]; exact hk
    unfold maxLen at hs
    go_enter Try.func39, Try.ntmps39
    go_wp2_with (go_at_call 67; refine (rwithin_any _ _ _ _).mono ?_; rintro e w9 ⟨rfl, rfl⟩)
    refine (fault_any _ _ _ _ hs' _).mono ?_
    rintro e w1 ⟨rfl, hb1⟩
    go_wp2
    go_ret
    exact ⟨ret_int HR.out.symm, below_call (by go_grown) hb1⟩
theorem right_any (k n : Int) (s : ByteArray) (hs : s.size ≤ maxLen) (w : World) : Calls Try.prog 70 #[val k n s] w fun e w' => e = .returned (cl k n s) ∧ Below w.heap.size w w' := by
  have hs' := hs
  cases h1 : rightB k n s with
  | false =>
    have hc0 := Lib.hid (cl_no k n s h1)
    have hr : (faultN 0 k n s != 0) = true := by
      have := fault_right k n s
      rw [h1] at this
      simpa using this
    unfold maxLen at hs
    go_enter Try.func70, Try.ntmps70
    go_wp2_with fail
    refine (anyFault_any _ _ _ hs' _).mono ?_
    rintro e w1 ⟨rfl, hb1⟩
    obtain ⟨hc1, hf1⟩ := bcell hb1
    have hz1_0 : w.heap.size < w1.heap.size := by have := hb1.size; (try simp at this); omega
    have hz1_1 : w.heap.size + 1 < w1.heap.size := by have := hb1.size; (try simp at this); omega
    go_wp2
    exact bodyPost_ret (v := val 0 0 ByteArray.empty) (by simp [results, Try.results70, go_sem, hc1]; try rfl) rfl ⟨by rw [hc0.out], by go_grown; exact (below_call (by go_grown) hb1)⟩
  | true =>
    have hc0 := Lib.hid (cl_val k n s h1)
    have hr : (faultN 0 k n s != 0) = false := by
      have := fault_right k n s
      rw [h1] at this
      simpa using this
    unfold maxLen at hs
    go_enter Try.func70, Try.ntmps70
    go_wp2_with fail
    refine (anyFault_any _ _ _ hs' _).mono ?_
    rintro e w1 ⟨rfl, hb1⟩
    obtain ⟨hc1, hf1⟩ := bcell hb1
    have hz1_0 : w.heap.size < w1.heap.size := by have := hb1.size; (try simp at this); omega
    have hz1_1 : w.heap.size + 1 < w1.heap.size := by have := hb1.size; (try simp at this); omega
    go_wp2
    exact bodyPost_ret (v := val k n s) (by simp [results, Try.results70, go_sem, hc1]; try rfl) rfl ⟨by rw [hc0.out], by go_grown; exact (below_call (by go_grown) hb1)⟩
theorem puts_setRow {w : World} {g : Nat} {old cells : Array Value} {t : TypeId} (hg : w.heap[g]? = some (.cells old t (0, 0))) : Puts g cells t w (w.setRow g cells) :=
  ⟨setRow_heap w g old cells t (0, 0) hg, ⟨rfl, rfl, rfl, by simp, fun k _ hk => setRow_other w g k cells hk⟩, by simp⟩
theorem new_at (w : World) (o : Obj) (g : Nat) (hg : g = w.heap.size) : (w.alloc o).heap[g]? = some o := by rw [hg]; exact heap_alloc_new w o
theorem size23 : (Try.prog.info? 56).map (·.size) = some 3 := by kernel_rfl
structure KV (fc ec A : Array Value) (w0 w : World) : Prop where
  low : Below w0.heap.size w0 w
  fc : w.heap[w0.heap.size]? = some (.cells fc 138 (0, 0))
  ex : w.heap[w0.heap.size + 1]? = some (.cells ec 70 (0, 0))
  res : w.heap[w0.heap.size + 1 + 1]? = some (.cells #[.int .i64 0, .int .i64 0, .string ⟨#[]⟩] 56 (0, 0))
  arr : w.heap[w0.heap.size + 1 + 1 + 1]? = some (.cells A 56 (0, 0))
theorem KV.below {fc ec A : Array Value} {w0 w w' : World} (h : KV fc ec A w0 w) (hb : Below w.heap.size w w') : KV fc ec A w0 w' :=
  ⟨below_call h.low hb, (hb.block _ (lt_of_block h.fc)).trans h.fc, (hb.block _ (lt_of_block h.ex)).trans h.ex, (hb.block _ (lt_of_block h.res)).trans h.res, (hb.block _ (lt_of_block h.arr)).trans h.arr⟩
theorem KV.alloc {fc ec A : Array Value} {w0 w : World} (h : KV fc ec A w0 w) (o : Obj) : KV fc ec A w0 (w.alloc o) := h.below ((Below.refl _ _).alloc (Nat.le_refl _) o)
theorem right0 : rightB 0 0 ByteArray.empty = true := by
  have h : ByteArray.empty.toList = [] := by simp [ByteArray.toList_eq]
  simp [rightB, formedB, inRangeB, h]
  decide
theorem right_bounds {k n : Int} {s : ByteArray} (h : rightB k n s = true) : 0 ≤ k ∧ k ≤ 4 ∧ -999999999999999 ≤ n ∧ n ≤ 999999999999999 ∧ s.size ≤ 100 := by
  unfold rightB at h
  simp only [Bool.and_eq_true, decide_eq_true_eq] at h
  obtain ⟨h1, h2, h3⟩ := h
  unfold formedB at h1
  unfold inRangeB at h3
  by_cases e0 : k = 0
  · subst e0; simp at h1; omega
  by_cases e1 : k = 1
  · subst e1; simp at h3; omega
  by_cases e2 : k = 2
  · subst e2; simp [inB] at h3; omega
  by_cases e3 : k = 3
  · subst e3; simp at h1; omega
  by_cases e4 : k = 4
  · subst e4; simp [inB] at h3; omega
  · simp [e0, e1, e2, e3, e4] at h1
abbrev V3 := Int × Int × ByteArray
/-- element k of the slice at a, in w -/
def ElemAt (w : World) (a : Option Addr) (k : Nat) (v : V3) : Prop :=
  ∃ b o, a = some ⟨b, o, none⟩ ∧ w.cell? ⟨b, o + k * 3, none⟩ = some (.int .i64 v.1) ∧ w.cell? ⟨b, o + k * 3 + 1, none⟩ = some (.int .i64 v.2.1) ∧ w.cell? ⟨b, o + k * 3 + 2, none⟩ = some (.string v.2.2) ∧ v.2.2.size ≤ maxLen
def Lst (w : World) (a : Option Addr) (l : List V3) : Prop := ∀ k (h : k < l.length), ElemAt w a k l[k]
theorem ElemAt.below {w w' : World} {a : Option Addr} {k : Nat} {v : V3} (h : ElemAt w a k v) (hb : Below w.heap.size w w') : ElemAt w' a k v := by
  obtain ⟨b, o, ha, h0, h1, h2, hs⟩ := h
  have hlt : b < w.heap.size := block_lt_of_cell h0
  exact ⟨b, o, ha, (hb.cell (p := ⟨b, o + k * 3, none⟩) hlt).trans h0, (hb.cell (p := ⟨b, o + k * 3 + 1, none⟩) hlt).trans h1, (hb.cell (p := ⟨b, o + k * 3 + 2, none⟩) hlt).trans h2, hs⟩
theorem Lst.below {w w' : World} {a : Option Addr} {l : List V3} (h : Lst w a l) (hb : Below w.heap.size w w') : Lst w' a l := fun k hk => (h k hk).below hb
def toV (x : V3) : Value := val x.1 x.2.1 x.2.2
abbrev cells (x : V3) : Array Value := #[.int .i64 x.1, .int .i64 x.2.1, .string x.2.2]
def nullT : V3 := (0, 0, ByteArray.empty)
def clT (x : V3) : V3 := if rightB x.1 x.2.1 x.2.2 = true then x else nullT
def Right (x : V3) : Prop := rightB x.1 x.2.1 x.2.2 = true
def Sz (x : V3) : Prop := x.2.2.size ≤ maxLen
theorem cl_t (k n : Int) (s : ByteArray) : cl k n s = toV (clT (k, n, s)) := by
  unfold cl clT
  by_cases h : rightB k n s = true
  · simp only [h, if_true]; rfl
  · simp only [h]; rfl
theorem clT_right (x : V3) : Right (clT x) := by
  unfold clT Right
  by_cases h : rightB x.1 x.2.1 x.2.2 = true
  · simp only [h, if_true]
  · simp only [h]; exact right0
theorem Right.bounds {x : V3} (h : Right x) : 0 ≤ x.1 ∧ x.1 ≤ 4 ∧ -999999999999999 ≤ x.2.1 ∧ x.2.1 ≤ 999999999999999 ∧ x.2.2.size ≤ 100 := right_bounds h
theorem clean_t (x : V3) (hs : Sz x) (w : World) : Calls Try.prog 84 #[toV x] w fun e w' => e = .returned (toV (clT x)) ∧ Below w.heap.size w w' := by
  obtain ⟨k, n, s⟩ := x
  have := clean_any k n s hs w
  rw [cl_t] at this
  exact this
theorem right_t (x : V3) (hs : Sz x) (w : World) : Calls Try.prog 70 #[toV x] w fun e w' => e = .returned (toV (clT x)) ∧ Below w.heap.size w w' := by
  obtain ⟨k, n, s⟩ := x
  have := right_any k n s hs w
  rw [cl_t] at this
  exact this
theorem store23 {ops : Array Oper} {rest : List Oper} {o : Oper} {a : Act} {w : World} {Q : Exit → Act → World → Prop} (hgd : o.guard = none) (u v : Operand) (ho : o.op = .store 56 u v)
    (g : Nat) (x : V3) (hx : a.eval u = .pointer (some ⟨g, 0, none⟩)) (hy : a.eval v = toV x) (y : V3) (hg : w.heap[g]? = some (.cells (cells y) 56 (0, 0)))
    (h : ∀ w', Puts g (cells x) 56 w w' → wpList Try.prog ops Q rest (a.put o.dst undef) w') : wpList Try.prog ops Q (o :: rest) a w :=
  wpList_store_row hgd 56 u v ho g (cells x) hx hy 56 (cells y) hg size23 rfl (by simp [Value.oneCell']) (h _ (puts_setRow hg))
theorem some_lt {S : List Int} {j : Nat} {p : Int} (h : S[j]? = some p) : j < S.length := (List.getElem?_eq_some_iff.1 h).1
theorem lt_some {S : List Int} {j : Nat} (h : j < S.length) : ∃ p, S[j]? = some p := ⟨S[j], List.getElem?_eq_getElem h⟩
def bytesOf (s : ByteArray) : List Int := s.data.toList.map (fun b => (b.toNat : Int))
theorem bytesOf_length (s : ByteArray) : (bytesOf s).length = s.size := by simp [bytesOf]
/-- the cells of a list of values -/
def flatV (L : List V3) : List Value := L.flatMap fun x => [.int .i64 x.1, .int .i64 x.2.1, .string x.2.2]
theorem flatV_append (L M : List V3) : flatV (L ++ M) = flatV L ++ flatV M := List.flatMap_append
theorem flatV_length : ∀ L : List V3, (flatV L).length = L.length * 3
  | [] => rfl
  | x :: L => by
    have := flatV_length L
    show ([Value.int .i64 x.1, .int .i64 x.2.1, .string x.2.2] ++ flatV L).length = _
    rw [List.length_append, this]; simp; omega
theorem flatV_one (x : V3) : ∀ u ∈ flatV [x], u.oneCell' = true := by
  intro u hu
  simp only [flatV, List.flatMap_cons, List.flatMap_nil, List.append_nil, List.mem_cons, List.not_mem_nil, or_false] at hu
  rcases hu with rfl | rfl | rfl <;> rfl
theorem info23i : (Try.prog.info? 56).map (fun i => (i.zero, i.size, i.bytes)) = some (some (.agg #[.int .i64 0, .int .i64 0, .string ⟨#[]⟩]), 3, 32) := by kernel_rfl
def Av (L : List V3) (v : Value) (w0 w : World) : Prop := w.ownsRow w0.heap.size 56 3 v L.length (flatV L) ∧ Below w0.heap.size w0 w
theorem Av.below {L : List V3} {v : Value} {w0 w w' : World} (h : Av L v w0 w) (hb : Below w.heap.size w w') : Av L v w0 w' := by
  refine ⟨?_, below_call h.2 hb⟩
  obtain ⟨⟨h1, h2⟩, _⟩ := h
  refine ⟨h1, ?_⟩
  rcases h2 with h2 | ⟨g, cap, cur, hv, h3, h4, h5⟩
  · exact Or.inl h2
  · exact Or.inr ⟨g, cap, cur, hv, h3, (hb.block _ (lt_of_block h4)).trans h4, h5⟩
theorem Av.alloc {L : List V3} {v : Value} {w0 w : World} (h : Av L v w0 w) (o : Obj) : Av L v w0 (w.alloc o) := h.below ((Below.refl _ w).alloc (Nat.le_refl _) o)
theorem news23 (w : World) (x : V3) (j : Nat) (u : Value) (h : (flatV [x])[j]? = some u) : (w.alloc (.cells (cells x) 56)).cell? ((⟨w.heap.size, 0, none⟩ : Addr).add j) = some u := by
  have hr : (w.alloc (.cells (cells x) 56)).heap[w.heap.size]? = some (.cells (cells x) 56 (0, 0)) := heap_alloc_new w _
  have hj : j < 3 := by
    have := (List.getElem?_eq_some_iff.1 h).1
    rw [flatV_length] at this
    simpa using this
  rcases (by omega : j = 0 ∨ j = 1 ∨ j = 2) with rfl | rfl | rfl
  · exact (cell_of_row _ _ 0 _ _ _ hr).trans h
  · exact (cell_of_row _ _ 1 _ _ _ hr).trans h
  · exact (cell_of_row _ _ 2 _ _ _ hr).trans h
theorem flatV_get : ∀ (L : List V3) (i : Nat) (x : V3), L[i]? = some x → (flatV L)[i * 3]? = some (.int .i64 x.1) ∧ (flatV L)[i * 3 + 1]? = some (.int .i64 x.2.1) ∧ (flatV L)[i * 3 + 2]? = some (.string x.2.2)
  | [], i, x, h => by cases h
  | y :: L, 0, x, h => by
    have e : y = x := Option.some.inj h
    subst e
    exact ⟨rfl, rfl, rfl⟩
  | y :: L, i + 1, x, h => by
    have ih := flatV_get L i x h
    have e : flatV (y :: L) = [Value.int .i64 y.1, Value.int .i64 y.2.1, Value.string y.2.2] ++ flatV L := rfl
    rw [e, show (i + 1) * 3 = 3 + i * 3 by omega, show 3 + i * 3 + 1 = 3 + (i * 3 + 1) by omega, show 3 + i * 3 + 2 = 3 + (i * 3 + 2) by omega]
    rw [List.getElem?_append_right (by simp), List.getElem?_append_right (by simp), List.getElem?_append_right (by simp)]
    simpa using ih
theorem Av.row {L : List V3} {v : Value} {w0 w : World} (h : Av L v w0 w) (hne : L ≠ []) : ∃ b cap, v = .slice (some ⟨b, 0, none⟩) L.length cap ∧ w0.heap.size ≤ b ∧ b < w.heap.size ∧ ∀ j u, (flatV L)[j]? = some u → w.cell? ⟨b, j, none⟩ = some u := by
  obtain ⟨⟨h1, h2⟩, _⟩ := h
  rcases h2 with ⟨_, h0⟩ | ⟨g, cap, cur, rfl, h3, h4, h5, h6, h7, h8⟩
  · exact absurd (List.eq_nil_of_length_eq_zero h0) hne
  · refine ⟨g, cap, rfl, h3, lt_of_block h4, fun j u hj => ?_⟩
    have hlt := (List.getElem?_eq_some_iff.1 hj).1
    rw [cell_of_row w g j _ _ _ h4]
    rw [← h8, List.getElem?_take] at hj
    rw [flatV_length] at hlt
    rw [if_pos hlt] at hj
    simpa using hj
theorem Av.cells {L : List V3} {v : Value} {w0 w : World} (h : Av L v w0 w) (hne : L ≠ []) : ∃ b cap, v = .slice (some ⟨b, 0, none⟩) L.length cap ∧ b < w.heap.size ∧
    ∀ i x, L[i]? = some x → w.cell? ⟨b, i * 3, none⟩ = some (.int .i64 x.1) ∧ w.cell? ⟨b, i * 3 + 1, none⟩ = some (.int .i64 x.2.1) ∧ w.cell? ⟨b, i * 3 + 2, none⟩ = some (.string x.2.2) := by
  obtain ⟨b, cap, hv, _, hb, hc⟩ := h.row hne
  exact ⟨b, cap, hv, hb, fun i x hx => ⟨hc _ _ (flatV_get L i x hx).1, hc _ _ (flatV_get L i x hx).2.1, hc _ _ (flatV_get L i x hx).2.2⟩⟩
/-- a byte of a number's eight -/
def kbyte (n : Int) (s : Nat) : Int := (n + 4611686018427387904) / 2 ^ s % 256
def eightTo (n : Int) : Nat → List Int
  | 0 => []
  | k + 1 => eightTo n k ++ [kbyte n (56 - 8 * k)]
def keyV (x : V3) : List Int := x.1 :: (if x.1 = 0 then [] else if x.1 = 3 then bytesOf x.2.2 ++ [0] else eightTo x.2.1 8)
def keyL (L : List V3) : List Int := L.flatMap fun x => keyV (clT x)
abbrev u8s (l : List Int) : List Value := l.map (Value.int .u8)
/-- the list of bytes that is being made, and nothing else turned -/
def Ab (acc : List Int) (v : Value) (w0 w : World) : Prop := w.ownsRow w0.heap.size 5 1 v acc.length (u8s acc) ∧ Below w0.heap.size w0 w
theorem Ab.below {acc : List Int} {v : Value} {w0 w w' : World} (h : Ab acc v w0 w) (hb : Below w.heap.size w w') : Ab acc v w0 w' := by
  refine ⟨?_, below_call h.2 hb⟩
  obtain ⟨⟨h1, h2⟩, _⟩ := h
  refine ⟨h1, ?_⟩
  rcases h2 with h2 | ⟨g, cap, cur, hv, h3, h4, h5⟩
  · exact Or.inl h2
  · exact Or.inr ⟨g, cap, cur, hv, h3, (hb.block _ (lt_of_block h4)).trans h4, h5⟩
theorem Ab.alloc {acc : List Int} {v : Value} {w0 w : World} (h : Ab acc v w0 w) (o : Obj) : Ab acc v w0 (w.alloc o) := h.below ((Below.refl _ w).alloc (Nat.le_refl _) o)
theorem info5i : (Try.prog.info? 5).map (fun i => (i.zero, i.size, i.bytes)) = some (some (.int .u8 0), 1, 1) := by kernel_rfl
/-- a block of another type is as it was -/
theorem Ab.other {acc : List Int} {v : Value} {w0 w w' : World} (hA : Ab acc v w0 w) (hg : w.grownBy w' v.ownBlock) {g : Nat} {cells : Array Value} {t : TypeId} (h : w.heap[g]? = some (.cells cells t (0, 0))) (ht : t ≠ 5) : w'.heap[g]? = some (.cells cells t (0, 0)) := by
  refine (hg.block g (lt_of_block h) (fun e => ?_)).trans h
  obtain ⟨⟨_, h2⟩, _⟩ := hA
  rcases h2 with ⟨rfl, _⟩ | ⟨b, cap, cur, rfl, _, h4, _⟩
  · cases e
  · have e2 : some g = some b := e
    obtain rfl := Option.some.inj e2
    rw [h4] at h
    have := Option.some.inj h
    simp only [Obj.cells.injEq] at this
    exact ht this.2.1.symm
theorem wpList_pushB {ops : Array Oper} {rest : List Oper} {o : Oper} {a : Act} {w : World} {Q : Exit → Act → World → Prop} (hgd : o.guard = none) (s x : Operand) (ho : o.op = .call { callee := .builtin .append, args := #[s, x], argTypes := #[79, 79] })
    (w0 wr : World) (acc : List Int) (v : Value) (p : Int) (hs : a.eval s = v) (hA : Ab acc v w0 wr) (hw : w = wr.alloc (.cells #[.int .u8 p] 5)) (hx : a.eval x = .slice (some ⟨wr.heap.size, 0, none⟩) 1 1) (hlen : acc.length ≤ 100000000000000)
    (h : ∀ v' w', Ab (acc ++ [p]) v' w0 w' → (∀ (g : Nat) (cs : Array Value) (t : TypeId), t ≠ 5 → wr.heap[g]? = some (Obj.cells cs t (0, 0)) → w'.heap[g]? = some (Obj.cells cs t (0, 0))) → wpList Try.prog ops Q rest (a.put o.dst v') w') : wpList Try.prog ops Q (o :: rest) a w := by
  subst hw
  obtain ⟨i3, hi, hz0, hz1, hz2⟩ := info_parts info5i
  have hA1 := hA.alloc (.cells #[.int .u8 p] 5)
  refine wpList_append_own _ hgd s x 79 ho w0.heap.size 5 i3 (.int .u8 0) 1 1 Try.underlying79 hi hz0 hz1 hz2 rfl (by decide) v acc.length _ hs hA1.1 ⟨wr.heap.size, 0, none⟩ 1 1 [.int .u8 p] hx rfl ?_ (by simp [Value.oneCell']) (by unfold maxLen; omega) (by omega) hA1.2.size ?_
  · intro j u hj
    have hr : (wr.alloc (.cells #[.int .u8 p] 5)).heap[wr.heap.size]? = some (.cells #[.int .u8 p] 5 (0, 0)) := heap_alloc_new wr _
    have hj0 : j = 0 := by
      have := (List.getElem?_eq_some_iff.1 hj).1
      simpa using this
    subst hj0
    exact (cell_of_row _ _ 0 _ _ _ hr).trans hj
  · intro v' w' h1 h2 _
    refine h v' w' ⟨by simpa [u8s] using h1, hA1.2.grown h2 hA1.2.size (fun k hk => (hA1.1.lt k hk).1)⟩ (fun g cs t ht hg => ?_)
    exact Ab.other hA1 h2 ((heap_alloc_old _ _ (lt_of_block hg)).trans hg) ht
theorem strCells_u8s (s : ByteArray) : Lib.strCells s = u8s (bytesOf s) := by
  unfold u8s bytesOf
  rw [List.map_map]
  rfl
theorem wpList_pushS {ops : Array Oper} {rest : List Oper} {o : Oper} {a : Act} {w : World} {Q : Exit → Act → World → Prop} (hgd : o.guard = none) (s x : Operand) (ho : o.op = .call { callee := .builtin .append, args := #[s, x], argTypes := #[79, 9] })
    (w0 : World) (acc : List Int) (v : Value) (t : ByteArray) (hs : a.eval s = v) (hA : Ab acc v w0 w) (hx : a.eval x = .string t) (hlen : acc.length ≤ 100000000000000) (ht : t.size ≤ 1000)
    (h : ∀ v' w', Ab (acc ++ bytesOf t) v' w0 w' → (∀ (g : Nat) (cs : Array Value) (t : TypeId), t ≠ 5 → w.heap[g]? = some (Obj.cells cs t (0, 0)) → w'.heap[g]? = some (Obj.cells cs t (0, 0))) → wpList Try.prog ops Q rest (a.put o.dst v') w') : wpList Try.prog ops Q (o :: rest) a w := by
  obtain ⟨i3, hi, hz0, hz1, hz2⟩ := info_parts info5i
  refine Lib.wpList_append_own_string w hgd s x 79 9 ho w0.heap.size 5 i3 Try.underlying79 Try.underlying9 hi hz0 hz1 hz2 v acc.length _ hs hA.1 t hx (by unfold maxLen; omega) (by omega) hA.2.size ?_
  intro v' w' h1 h2 _
  refine h v' w' ⟨?_, hA.2.grown h2 hA.2.size (fun k hk => (hA.1.lt k hk).1)⟩ (fun g cs u hu hg => Ab.other hA h2 hg hu)
  rw [strCells_u8s] at h1
  unfold u8s at h1 ⊢
  rw [List.map_append, List.length_append, bytesOf_length]
  exact h1
/-- what stays behind an append to the list of bytes -/
def Same5 (w w' : World) : Prop := ∀ (g : Nat) (cs : Array Value) (t : TypeId), t ≠ 5 → w.heap[g]? = some (Obj.cells cs t (0, 0)) → w'.heap[g]? = some (Obj.cells cs t (0, 0))
theorem Same5.trans {a b c : World} (h : Same5 a b) (k : Same5 b c) : Same5 a c := fun g cs t ht hg => k g cs t ht (h g cs t ht hg)
theorem Same5.below {w w' : World} (h : Below w.heap.size w w') : Same5 w w' := fun g _ _ _ hg => (h.block g (lt_of_block hg)).trans hg
def AbP (acc : List Int) (w0 wa : World) (e : Ending) (w : World) : Prop := ∃ v, e = .returned v ∧ Ab acc v w0 w ∧ Same5 wa w
theorem AbP.mk {acc acc' : List Int} {v : Value} {w0 wa w : World} (h : Ab acc' v w0 w) (hs : Same5 wa w) (e : acc = acc') : AbP acc w0 wa (.returned v) w := ⟨v, rfl, e ▸ h, hs⟩
theorem eight_len (n : Int) : ∀ k, (eightTo n k).length = k
  | 0 => rfl
  | k + 1 => by rw [eightTo, List.length_append, eight_len n k]; rfl
set_option maxHeartbeats 4000000 in
theorem appendKey_t (x : V3) (hx : Right x) (acc : List Int) (v : Value) (w0 w : World) (hA : Ab acc v w0 w) (hl : acc.length ≤ 10000000000000) :
    Calls Try.prog 83 #[v, toV x] w fun e w' => AbP (acc ++ keyV x) w0 w e w' := by
  have HA := Lib.hid hA
  obtain ⟨b1, b2, b3, b4, b5⟩ := hx.bounds
  have HK : keyV x = x.1 :: (if x.1 = 0 then [] else if x.1 = 3 then bytesOf x.2.2 ++ [0] else eightTo x.2.1 8) := rfl
  generalize keyV x = KV at *
  obtain ⟨K, n, s⟩ := x
  dsimp only at b1 b2 b3 b4 b5 HK
  clear hA hx
  change Calls Try.prog 83 #[v, val K n s] w _
  have A0 : Hid (Ab acc v w0 (w.alloc (.cells #[.int .i64 K, .int .i64 n, .string s] 56))) := Lib.hid (HA.out.alloc _)
  have X0 : Hid ((w.alloc (.cells #[.int .i64 K, .int .i64 n, .string s] 56)).heap[w.heap.size]? = some (.cells (cells (K, n, s)) 56 (0, 0))) := Lib.hid (heap_alloc_new w _)
  have S0 : Hid (Same5 w (w.alloc (.cells #[.int .i64 K, .int .i64 n, .string s] 56))) := Lib.hid (Same5.below (by go_grown))
  rcases (by omega : K = 0 ∨ K = 3 ∨ K = 1 ∨ K = 2 ∨ K = 4) with rfl | rfl | rfl | rfl | rfl
  · have HE := Lib.hid (show KV = [0] from HK)
    clear HK
    go_enter Try.func83, Try.ntmps83
    go_wp2_with (at_builtin; go_must (refine wpList_pushB rfl (.tmp 7) (.tmp 11) rfl w0 (w.alloc (.cells #[.int .i64 0, .int .i64 n, .string s] 56)) acc v 0 rfl A0.out rfl (by simp only [World.size_alloc]; rfl) (by omega) ?_); intro v1 w1 hA' hS'; have A1 := Lib.hid hA'; have S1 := Lib.hid (S0.out.trans hS'); have X1 := Lib.hid (hS' _ _ _ (by decide) X0.out); clear hA' hS'; have a0 : w1.cell? ⟨w.heap.size, 0, none⟩ = some (.int .i64 0) := (cell_of_row w1 _ 0 _ _ _ X1.out).trans rfl; have a1 : w1.cell? ⟨w.heap.size, 1, none⟩ = some (.int .i64 n) := (cell_of_row w1 _ 1 _ _ _ X1.out).trans rfl; have a2 : w1.cell? ⟨w.heap.size, 2, none⟩ = some (.string s) := (cell_of_row w1 _ 2 _ _ _ X1.out).trans rfl)
    go_ret
    exact AbP.mk A1.out S1.out (by rw [HE.out])
  · have HE := Lib.hid (show KV = 3 :: (bytesOf s ++ [0]) from HK)
    clear HK
    have hb := bytesOf_length s
    go_enter Try.func83, Try.ntmps83
    go_wp2_with (first | (at_builtin; (refine wpList_pushB rfl (.tmp 7) (.tmp 11) rfl w0 (w.alloc (.cells #[.int .i64 3, .int .i64 n, .string s] 56)) acc v 3 rfl A0.out rfl (by simp only [World.size_alloc]; rfl) (by omega) ?_); intro v1 w1 hA' hS'; have A1 := Lib.hid hA'; have S1 := Lib.hid (S0.out.trans hS'); have X1 := Lib.hid (hS' _ _ _ (by decide) X0.out); clear hA' hS'; have a0 : w1.cell? ⟨w.heap.size, 0, none⟩ = some (.int .i64 3) := (cell_of_row w1 _ 0 _ _ _ X1.out).trans rfl; have a1 : w1.cell? ⟨w.heap.size, 1, none⟩ = some (.int .i64 n) := (cell_of_row w1 _ 1 _ _ _ X1.out).trans rfl; have a2 : w1.cell? ⟨w.heap.size, 2, none⟩ = some (.string s) := (cell_of_row w1 _ 2 _ _ _ X1.out).trans rfl) | (at_builtin; refine wpList_pushS rfl (.tmp 20) (.tmp 22) rfl w0 _ v1 s rfl A1.out rfl (by simp only [List.length_append, List.length_cons, List.length_nil]; omega) (by omega) ?_; intro v2 w2 hA' hS'; have A2 := Lib.hid hA'; have S2 := Lib.hid (S1.out.trans hS'); clear hA' hS') | (at_builtin; refine wpList_pushB rfl (.tmp 23) (.tmp 24) rfl w0 w2 _ v2 0 rfl A2.out rfl rfl (by simp only [List.length_append, List.length_cons, List.length_nil]; omega) ?_; intro v3 w3 hA' hS'; have A3 := Lib.hid hA'; have S3 := Lib.hid (S2.out.trans hS'); clear hA' hS'))
    go_ret
    exact AbP.mk A3.out S3.out (by rw [HE.out]; simp)
  · have HE := Lib.hid (show KV = 1 :: eightTo n 8 from HK)
    clear HK
    go_enter Try.func83, Try.ntmps83
    go_wp2_with (at_builtin; go_must (refine wpList_pushB rfl (.tmp 7) (.tmp 11) rfl w0 (w.alloc (.cells #[.int .i64 1, .int .i64 n, .string s] 56)) acc v 1 rfl A0.out rfl (by simp only [World.size_alloc]; rfl) (by omega) ?_); intro v1 w1 hA' hS'; have A1 := Lib.hid hA'; have S1 := Lib.hid (S0.out.trans hS'); have X1 := Lib.hid (hS' _ _ _ (by decide) X0.out); clear hA' hS'; have a0 : w1.cell? ⟨w.heap.size, 0, none⟩ = some (.int .i64 1) := (cell_of_row w1 _ 0 _ _ _ X1.out).trans rfl; have a1 : w1.cell? ⟨w.heap.size, 1, none⟩ = some (.int .i64 n) := (cell_of_row w1 _ 1 _ _ _ X1.out).trans rfl; have a2 : w1.cell? ⟨w.heap.size, 2, none⟩ = some (.string s) := (cell_of_row w1 _ 2 _ _ _ X1.out).trans rfl)
    go_loopw [0, 6] (fun y z wr => ∃ (k : Nat) (u : Value), k ≤ 8 ∧ u = y ∧ z = .int .i64 (56 - 8 * (k : Int)) ∧ Hid (Ab (acc ++ [1] ++ eightTo n k) u w0 wr) ∧ Hid (Same5 w wr)) (fun _ z _ => (intOf z + 8).toNat)
    case atStart => exact ⟨0, v1, by omega, rfl, by go_num, Lib.hid (by simpa [eightTo] using A1.out), S1⟩
    case round =>
      obtain ⟨k, u, hk, rfl, rfl, hA, hS⟩ := hrel
      by_cases hlt : k < 8
      · have hlen : (acc ++ [1] ++ eightTo n k).length ≤ 100000000000000 := by simp only [List.length_append, List.length_cons, List.length_nil, eight_len]; omega
        go_wp2_with (at_builtin; go_must (refine wpList_pushB rfl (.tmp 34) (.tmp 39) rfl w0 wr _ u ((n + 4611686018427387904) / 2 ^ (56 - 8 * k) % 256) rfl hA.out rfl rfl hlen ?_); intro v2 w2 hA' hS'; have A2 := Lib.hid hA'; have S2 := Lib.hid (hS.out.trans hS'); clear hA' hS')
        go_roundw
        case rel => exact ⟨k + 1, v2, by omega, rfl, by go_num, Lib.hid (by rw [eightTo, ← List.append_assoc]; exact A2.out), S2⟩
        case measure => simp [intOf]; omega
      · have hk8 : k = 8 := by omega
        subst hk8
        go_wp2_with fail
        go_ret
        exact AbP.mk hA.out hS.out (by rw [HE.out]; simp)
  · have HE := Lib.hid (show KV = 2 :: eightTo n 8 from HK)
    clear HK
    go_enter Try.func83, Try.ntmps83
    go_wp2_with (at_builtin; go_must (refine wpList_pushB rfl (.tmp 7) (.tmp 11) rfl w0 (w.alloc (.cells #[.int .i64 2, .int .i64 n, .string s] 56)) acc v 2 rfl A0.out rfl (by simp only [World.size_alloc]; rfl) (by omega) ?_); intro v1 w1 hA' hS'; have A1 := Lib.hid hA'; have S1 := Lib.hid (S0.out.trans hS'); have X1 := Lib.hid (hS' _ _ _ (by decide) X0.out); clear hA' hS'; have a0 : w1.cell? ⟨w.heap.size, 0, none⟩ = some (.int .i64 2) := (cell_of_row w1 _ 0 _ _ _ X1.out).trans rfl; have a1 : w1.cell? ⟨w.heap.size, 1, none⟩ = some (.int .i64 n) := (cell_of_row w1 _ 1 _ _ _ X1.out).trans rfl; have a2 : w1.cell? ⟨w.heap.size, 2, none⟩ = some (.string s) := (cell_of_row w1 _ 2 _ _ _ X1.out).trans rfl)
    go_loopw [0, 6] (fun y z wr => ∃ (k : Nat) (u : Value), k ≤ 8 ∧ u = y ∧ z = .int .i64 (56 - 8 * (k : Int)) ∧ Hid (Ab (acc ++ [2] ++ eightTo n k) u w0 wr) ∧ Hid (Same5 w wr)) (fun _ z _ => (intOf z + 8).toNat)
    case atStart => exact ⟨0, v1, by omega, rfl, by go_num, Lib.hid (by simpa [eightTo] using A1.out), S1⟩
    case round =>
      obtain ⟨k, u, hk, rfl, rfl, hA, hS⟩ := hrel
      by_cases hlt : k < 8
      · have hlen : (acc ++ [2] ++ eightTo n k).length ≤ 100000000000000 := by simp only [List.length_append, List.length_cons, List.length_nil, eight_len]; omega
        go_wp2_with (at_builtin; go_must (refine wpList_pushB rfl (.tmp 34) (.tmp 39) rfl w0 wr _ u ((n + 4611686018427387904) / 2 ^ (56 - 8 * k) % 256) rfl hA.out rfl rfl hlen ?_); intro v2 w2 hA' hS'; have A2 := Lib.hid hA'; have S2 := Lib.hid (hS.out.trans hS'); clear hA' hS')
        go_roundw
        case rel => exact ⟨k + 1, v2, by omega, rfl, by go_num, Lib.hid (by rw [eightTo, ← List.append_assoc]; exact A2.out), S2⟩
        case measure => simp [intOf]; omega
      · have hk8 : k = 8 := by omega
        subst hk8
        go_wp2_with fail
        go_ret
        exact AbP.mk hA.out hS.out (by rw [HE.out]; simp)
  · have HE := Lib.hid (show KV = 4 :: eightTo n 8 from HK)
    clear HK
    go_enter Try.func83, Try.ntmps83
    go_wp2_with (at_builtin; go_must (refine wpList_pushB rfl (.tmp 7) (.tmp 11) rfl w0 (w.alloc (.cells #[.int .i64 4, .int .i64 n, .string s] 56)) acc v 4 rfl A0.out rfl (by simp only [World.size_alloc]; rfl) (by omega) ?_); intro v1 w1 hA' hS'; have A1 := Lib.hid hA'; have S1 := Lib.hid (S0.out.trans hS'); have X1 := Lib.hid (hS' _ _ _ (by decide) X0.out); clear hA' hS'; have a0 : w1.cell? ⟨w.heap.size, 0, none⟩ = some (.int .i64 4) := (cell_of_row w1 _ 0 _ _ _ X1.out).trans rfl; have a1 : w1.cell? ⟨w.heap.size, 1, none⟩ = some (.int .i64 n) := (cell_of_row w1 _ 1 _ _ _ X1.out).trans rfl; have a2 : w1.cell? ⟨w.heap.size, 2, none⟩ = some (.string s) := (cell_of_row w1 _ 2 _ _ _ X1.out).trans rfl)
    go_loopw [0, 6] (fun y z wr => ∃ (k : Nat) (u : Value), k ≤ 8 ∧ u = y ∧ z = .int .i64 (56 - 8 * (k : Int)) ∧ Hid (Ab (acc ++ [4] ++ eightTo n k) u w0 wr) ∧ Hid (Same5 w wr)) (fun _ z _ => (intOf z + 8).toNat)
    case atStart => exact ⟨0, v1, by omega, rfl, by go_num, Lib.hid (by simpa [eightTo] using A1.out), S1⟩
    case round =>
      obtain ⟨k, u, hk, rfl, rfl, hA, hS⟩ := hrel
      by_cases hlt : k < 8
      · have hlen : (acc ++ [4] ++ eightTo n k).length ≤ 100000000000000 := by simp only [List.length_append, List.length_cons, List.length_nil, eight_len]; omega
        go_wp2_with (at_builtin; go_must (refine wpList_pushB rfl (.tmp 34) (.tmp 39) rfl w0 wr _ u ((n + 4611686018427387904) / 2 ^ (56 - 8 * k) % 256) rfl hA.out rfl rfl hlen ?_); intro v2 w2 hA' hS'; have A2 := Lib.hid hA'; have S2 := Lib.hid (hS.out.trans hS'); clear hA' hS')
        go_roundw
        case rel => exact ⟨k + 1, v2, by omega, rfl, by go_num, Lib.hid (by rw [eightTo, ← List.append_assoc]; exact A2.out), S2⟩
        case measure => simp [intOf]; omega
      · have hk8 : k = 8 := by omega
        subst hk8
        go_wp2_with fail
        go_ret
        exact AbP.mk hA.out hS.out (by rw [HE.out]; simp)
theorem keyV_len {x : V3} (h : Right x) : (keyV x).length ≤ 102 := by
  obtain ⟨_, _, _, _, b5⟩ := h.bounds
  unfold keyV
  rw [List.length_cons]
  split
  · simp
  · split
    · rw [List.length_append, bytesOf_length]; simp; omega
    · rw [eight_len]; omega
theorem keyL_len : ∀ L : List V3, (keyL L).length ≤ 102 * L.length
  | [] => Nat.le_refl _
  | x :: L => by
    have h1 := keyL_len L
    have h2 := keyV_len (clT_right x)
    have e : keyL (x :: L) = keyV (clT x) ++ keyL L := rfl
    rw [e, List.length_append, List.length_cons]
    omega
theorem keyL_take (L : List V3) (k : Nat) (h : k < L.length) : keyL (L.take (k + 1)) = keyL (L.take k) ++ keyV (clT L[k]) := by
  rw [List.take_succ_eq_append_getElem h]
  unfold keyL
  rw [List.flatMap_append]
  simp
def KeyP (l : List Int) (w0 : World) (e : Ending) (w : World) : Prop := ∃ v, e = .returned v ∧ Ab l v w0 w
theorem KeyP.mk {l m : List Int} {v : Value} {w0 w : World} (h : Ab m v w0 w) (e : l = m) : KeyP l w0 (.returned v) w := ⟨v, rfl, e ▸ h⟩
set_option maxHeartbeats 2000000 in
theorem key_t (a : Option Addr) (c : Nat) (L : List V3) (w : World) (hl : L.length ≤ 10000000) (h : Lst w a L) : Calls Try.prog 66 #[.slice a L.length c] w fun e w' => KeyP (keyL L) w e w' := by
  have H := Lib.hid h
  clear h
  have A0 : Hid (Ab (keyL (L.take 0)) (.slice none 0 0) w w) := Lib.hid ⟨World.ownsRow_nil _ _ _ _, Below.refl _ _⟩
  go_enter Try.func66, Try.ntmps66
  go_wp2_with fail
  go_loopw [3, 8] (fun y z wr => ∃ (k : Nat) (u : Value), k ≤ L.length ∧ u = y ∧ z = .int .i64 k ∧ Hid (Ab (keyL (L.take k)) u w wr)) (fun _ z _ => L.length - (intOf z).toNat)
  case atStart => exact ⟨0, _, Nat.zero_le _, rfl, rfl, A0⟩
  case round =>
    obtain ⟨k, u, hk, rfl, rfl, hA⟩ := hrel
    by_cases hlt : k < L.length
    · have HT := Lib.hid (keyL_take L k hlt)
      have hlen := keyL_len (L.take k)
      have hlen2 : (keyL (L.take k)).length ≤ 10000000000000 := by rw [List.length_take] at hlen; omega
      clear hlen
      obtain ⟨b, o, rfl, x0, x1, x2, xs⟩ := (H.out.below hA.out.2) k hlt
      generalize L[k] = x at HT x0 x1 x2 xs
      obtain ⟨xk, xn, xt⟩ := x
      dsimp only at x0 x1 x2 xs
      have CX := Lib.hid (fun w => clean_t (xk, xn, xt) xs w)
      have hr := clT_right (xk, xn, xt)
      have CK := Lib.hid (fun w2 (h2 : Ab (keyL (L.take k)) u w w2) => appendKey_t (clT (xk, xn, xt)) hr (keyL (L.take k)) u w w2 h2 hlen2)
      generalize clT (xk, xn, xt) = X at *
      clear hr hlen2 xs
      go_wp2_with (refine store23 rfl (.tmp 5) (.tmp 11) rfl wr.heap.size (xk, xn, xt) rfl rfl nullT (new_at _ _ _ rfl) ?_; intro w1 hp; have X1 := Lib.hid hp.at'; have B1 := Lib.hid (hp.below (w0 := wr) ((Below.refl _ wr).alloc (Nat.le_refl _) _) (Nat.le_refl _)); clear hp x0 x1 x2; have a0 : w1.cell? ⟨wr.heap.size, 0, none⟩ = some (.int .i64 xk) := (cell_of_row w1 _ 0 _ _ _ X1.out).trans rfl; have a1 : w1.cell? ⟨wr.heap.size, 1, none⟩ = some (.int .i64 xn) := (cell_of_row w1 _ 1 _ _ _ X1.out).trans rfl; have a2 : w1.cell? ⟨wr.heap.size, 2, none⟩ = some (.string xt) := (cell_of_row w1 _ 2 _ _ _ X1.out).trans rfl)
      refine (CX.out _).mono ?_
      rintro e w2 ⟨rfl, hb2⟩
      have A2 := Lib.hid (hA.out.below (B1.out.trans (hb2.mono B1.out.size)))
      clear hb2 a0 a1 a2
      go_wp2_with fail
      refine (CK.out _ A2.out).mono ?_
      rintro e w3 ⟨u3, rfl, hA3, _⟩
      have A3 := Lib.hid hA3
      clear hA3
      go_wp2_with fail
      go_roundw
      case rel => exact ⟨k + 1, u3, by omega, rfl, by go_num, by rw [HT.out]; exact A3⟩
      case measure => simp [intOf]; omega
    · have hk2 : k = L.length := by omega
      subst hk2
      go_wp2_with fail
      go_ret
      exact KeyP.mk hA.out (by rw [List.take_length])
set_option maxHeartbeats 8000000 in
theorem keyed_t (a : Option Addr) (c : Nat) (L : List V3) (w : World) (hl : L.length ≤ 10000000) (h : Lst w a L) : Calls Try.prog 44 #[.slice a L.length c] w fun e w' => KeyP (keyL L) w e w' := by
  have H := Lib.hid h
  clear h
  have A0 : Hid (Ab (keyL (L.take 0)) (.slice none 0 0) w w) := Lib.hid ⟨World.ownsRow_nil _ _ _ _, Below.refl _ _⟩
  go_enter Try.func44, Try.ntmps44
  go_wp2_with fail
  go_loopw [3, 9] (fun y z wr => ∃ (k : Nat) (u : Value), k ≤ L.length ∧ u = y ∧ z = .int .i64 k ∧ Hid (Ab (keyL (L.take k)) u w wr)) (fun _ z _ => L.length - (intOf z).toNat)
  case atStart => exact ⟨0, _, Nat.zero_le _, rfl, rfl, A0⟩
  case round =>
    obtain ⟨k, u, hk, rfl, rfl, hA⟩ := hrel
    by_cases hlt : k < L.length
    · have HT := Lib.hid (keyL_take L k hlt)
      have hlen := keyL_len (L.take k)
      have hlen2 : (keyL (L.take k)).length ≤ 10000000000000 := by rw [List.length_take] at hlen; omega
      clear hlen
      obtain ⟨b, o, rfl, x0, x1, x2, xs⟩ := (H.out.below hA.out.2) k hlt
      generalize L[k] = x at HT x0 x1 x2 xs
      generalize keyL (L.take k) = acc at *
      obtain ⟨xk, xn, xt⟩ := x
      dsimp only at x0 x1 x2 xs
      have CX := Lib.hid (fun w => right_t (xk, xn, xt) xs w)
      obtain ⟨b1, b2, b3, b4, b5⟩ := (clT_right (xk, xn, xt)).bounds
      have HK : keyV (clT (xk, xn, xt)) = (clT (xk, xn, xt)).1 :: (if (clT (xk, xn, xt)).1 = 0 then [] else if (clT (xk, xn, xt)).1 = 3 then bytesOf (clT (xk, xn, xt)).2.2 ++ [0] else eightTo (clT (xk, xn, xt)).2.1 8) := rfl
      generalize keyV (clT (xk, xn, xt)) = KV at *
      generalize clT (xk, xn, xt) = X at *
      obtain ⟨K, n, s⟩ := X
      dsimp only at b1 b2 b3 b4 b5 HK
      clear xs
      have hb := bytesOf_length s
      rcases (by omega : K = 0 ∨ K = 3 ∨ K = 1 ∨ K = 2 ∨ K = 4) with rfl | rfl | rfl | rfl | rfl
      · have HE := Lib.hid (show KV = [0] from HK)
        clear HK
        go_wp2_with (refine store23 rfl (.tmp 5) (.tmp 12) rfl wr.heap.size (xk, xn, xt) rfl rfl nullT (new_at _ _ _ rfl) ?_; intro w1 hp; have X1 := Lib.hid hp.at'; have B1 := Lib.hid (hp.below (w0 := wr) ((Below.refl _ wr).alloc (Nat.le_refl _) _) (Nat.le_refl _)); clear hp x0 x1 x2; have a0 : w1.cell? ⟨wr.heap.size, 0, none⟩ = some (.int .i64 xk) := (cell_of_row w1 _ 0 _ _ _ X1.out).trans rfl; have a1 : w1.cell? ⟨wr.heap.size, 1, none⟩ = some (.int .i64 xn) := (cell_of_row w1 _ 1 _ _ _ X1.out).trans rfl; have a2 : w1.cell? ⟨wr.heap.size, 2, none⟩ = some (.string xt) := (cell_of_row w1 _ 2 _ _ _ X1.out).trans rfl)
        refine (CX.out _).mono ?_
        rintro e w2 ⟨rfl, hb2⟩
        have X2 := Lib.hid ((hb2.block _ (lt_of_block X1.out)).trans X1.out)
        have B2 := Lib.hid (B1.out.trans (hb2.mono B1.out.size))
        clear hb2 a0 a1 a2
        go_wp2_with (first | (refine store23 rfl (.tmp 5) (.tmp 14) rfl wr.heap.size (0, n, s) rfl rfl _ X2.out ?_; intro w3 hp; have X3 := Lib.hid hp.at'; have A3 := Lib.hid (hA.out.below (hp.below (w0 := wr) B2.out (Nat.le_refl _))); clear hp; have a0 : w3.cell? ⟨wr.heap.size, 0, none⟩ = some (.int .i64 0) := (cell_of_row w3 _ 0 _ _ _ X3.out).trans rfl; have a1 : w3.cell? ⟨wr.heap.size, 1, none⟩ = some (.int .i64 n) := (cell_of_row w3 _ 1 _ _ _ X3.out).trans rfl; have a2 : w3.cell? ⟨wr.heap.size, 2, none⟩ = some (.string s) := (cell_of_row w3 _ 2 _ _ _ X3.out).trans rfl) | (at_builtin; refine wpList_pushB rfl (.tmp 15) (.tmp 19) rfl w w3 acc u 0 rfl A3.out rfl rfl (by omega) ?_; intro v4 w4 hA' hS'; have A4 := Lib.hid hA'; have X4 := Lib.hid (hS' _ _ _ (by decide) X3.out); clear hA' hS' a0 a1 a2; have a0 : w4.cell? ⟨wr.heap.size, 0, none⟩ = some (.int .i64 0) := (cell_of_row w4 _ 0 _ _ _ X4.out).trans rfl; have a1 : w4.cell? ⟨wr.heap.size, 1, none⟩ = some (.int .i64 n) := (cell_of_row w4 _ 1 _ _ _ X4.out).trans rfl; have a2 : w4.cell? ⟨wr.heap.size, 2, none⟩ = some (.string s) := (cell_of_row w4 _ 2 _ _ _ X4.out).trans rfl))
        clear a0 a1 a2
        go_roundw
        case rel => exact ⟨k + 1, v4, by omega, rfl, by go_num, by rw [HT.out, HE.out]; exact A4⟩
        case measure => simp [intOf]; omega
      · have HE := Lib.hid (show KV = 3 :: (bytesOf s ++ [0]) from HK)
        clear HK
        go_wp2_with (refine store23 rfl (.tmp 5) (.tmp 12) rfl wr.heap.size (xk, xn, xt) rfl rfl nullT (new_at _ _ _ rfl) ?_; intro w1 hp; have X1 := Lib.hid hp.at'; have B1 := Lib.hid (hp.below (w0 := wr) ((Below.refl _ wr).alloc (Nat.le_refl _) _) (Nat.le_refl _)); clear hp x0 x1 x2; have a0 : w1.cell? ⟨wr.heap.size, 0, none⟩ = some (.int .i64 xk) := (cell_of_row w1 _ 0 _ _ _ X1.out).trans rfl; have a1 : w1.cell? ⟨wr.heap.size, 1, none⟩ = some (.int .i64 xn) := (cell_of_row w1 _ 1 _ _ _ X1.out).trans rfl; have a2 : w1.cell? ⟨wr.heap.size, 2, none⟩ = some (.string xt) := (cell_of_row w1 _ 2 _ _ _ X1.out).trans rfl)
        refine (CX.out _).mono ?_
        rintro e w2 ⟨rfl, hb2⟩
        have X2 := Lib.hid ((hb2.block _ (lt_of_block X1.out)).trans X1.out)
        have B2 := Lib.hid (B1.out.trans (hb2.mono B1.out.size))
        clear hb2 a0 a1 a2
        go_wp2_with (first | (refine store23 rfl (.tmp 5) (.tmp 14) rfl wr.heap.size (3, n, s) rfl rfl _ X2.out ?_; intro w3 hp; have X3 := Lib.hid hp.at'; have A3 := Lib.hid (hA.out.below (hp.below (w0 := wr) B2.out (Nat.le_refl _))); clear hp; have a0 : w3.cell? ⟨wr.heap.size, 0, none⟩ = some (.int .i64 3) := (cell_of_row w3 _ 0 _ _ _ X3.out).trans rfl; have a1 : w3.cell? ⟨wr.heap.size, 1, none⟩ = some (.int .i64 n) := (cell_of_row w3 _ 1 _ _ _ X3.out).trans rfl; have a2 : w3.cell? ⟨wr.heap.size, 2, none⟩ = some (.string s) := (cell_of_row w3 _ 2 _ _ _ X3.out).trans rfl) | (at_builtin; refine wpList_pushB rfl (.tmp 15) (.tmp 19) rfl w w3 acc u 3 rfl A3.out rfl rfl (by omega) ?_; intro v4 w4 hA' hS'; have A4 := Lib.hid hA'; have X4 := Lib.hid (hS' _ _ _ (by decide) X3.out); clear hA' hS' a0 a1 a2; have a0 : w4.cell? ⟨wr.heap.size, 0, none⟩ = some (.int .i64 3) := (cell_of_row w4 _ 0 _ _ _ X4.out).trans rfl; have a1 : w4.cell? ⟨wr.heap.size, 1, none⟩ = some (.int .i64 n) := (cell_of_row w4 _ 1 _ _ _ X4.out).trans rfl; have a2 : w4.cell? ⟨wr.heap.size, 2, none⟩ = some (.string s) := (cell_of_row w4 _ 2 _ _ _ X4.out).trans rfl) | (at_builtin; refine wpList_pushS rfl (.tmp 40) (.tmp 42) rfl w _ v4 s rfl A4.out rfl (by simp only [List.length_append, List.length_cons, List.length_nil]; omega) (by omega) ?_; intro v5 w5 hA' hS'; have A5 := Lib.hid hA'; clear hA' hS' a0 a1 a2) | (at_builtin; refine wpList_pushB rfl (.tmp 43) (.tmp 44) rfl w w5 _ v5 0 rfl A5.out rfl rfl (by simp only [List.length_append, List.length_cons, List.length_nil]; omega) ?_; intro v6 w6 hA' hS'; have A6 := Lib.hid hA'; clear hA' hS'))
        go_roundw
        case rel => exact ⟨k + 1, v6, by omega, rfl, by go_num, by rw [HT.out, HE.out]; exact Lib.hid (by simpa using A6.out)⟩
        case measure => simp [intOf]; omega
      · have HE := Lib.hid (show KV = 1 :: eightTo n 8 from HK)
        clear HK
        go_wp2_with (refine store23 rfl (.tmp 5) (.tmp 12) rfl wr.heap.size (xk, xn, xt) rfl rfl nullT (new_at _ _ _ rfl) ?_; intro w1 hp; have X1 := Lib.hid hp.at'; have B1 := Lib.hid (hp.below (w0 := wr) ((Below.refl _ wr).alloc (Nat.le_refl _) _) (Nat.le_refl _)); clear hp x0 x1 x2; have a0 : w1.cell? ⟨wr.heap.size, 0, none⟩ = some (.int .i64 xk) := (cell_of_row w1 _ 0 _ _ _ X1.out).trans rfl; have a1 : w1.cell? ⟨wr.heap.size, 1, none⟩ = some (.int .i64 xn) := (cell_of_row w1 _ 1 _ _ _ X1.out).trans rfl; have a2 : w1.cell? ⟨wr.heap.size, 2, none⟩ = some (.string xt) := (cell_of_row w1 _ 2 _ _ _ X1.out).trans rfl)
        refine (CX.out _).mono ?_
        rintro e w2 ⟨rfl, hb2⟩
        have X2 := Lib.hid ((hb2.block _ (lt_of_block X1.out)).trans X1.out)
        have B2 := Lib.hid (B1.out.trans (hb2.mono B1.out.size))
        clear hb2 a0 a1 a2
        go_wp2_with (first | (refine store23 rfl (.tmp 5) (.tmp 14) rfl wr.heap.size (1, n, s) rfl rfl _ X2.out ?_; intro w3 hp; have X3 := Lib.hid hp.at'; have A3 := Lib.hid (hA.out.below (hp.below (w0 := wr) B2.out (Nat.le_refl _))); clear hp; have a0 : w3.cell? ⟨wr.heap.size, 0, none⟩ = some (.int .i64 1) := (cell_of_row w3 _ 0 _ _ _ X3.out).trans rfl; have a1 : w3.cell? ⟨wr.heap.size, 1, none⟩ = some (.int .i64 n) := (cell_of_row w3 _ 1 _ _ _ X3.out).trans rfl; have a2 : w3.cell? ⟨wr.heap.size, 2, none⟩ = some (.string s) := (cell_of_row w3 _ 2 _ _ _ X3.out).trans rfl) | (at_builtin; refine wpList_pushB rfl (.tmp 15) (.tmp 19) rfl w w3 acc u 1 rfl A3.out rfl rfl (by omega) ?_; intro v4 w4 hA' hS'; have A4 := Lib.hid hA'; have X4 := Lib.hid (hS' _ _ _ (by decide) X3.out); clear hA' hS' a0 a1 a2; have a0 : w4.cell? ⟨wr.heap.size, 0, none⟩ = some (.int .i64 1) := (cell_of_row w4 _ 0 _ _ _ X4.out).trans rfl; have a1 : w4.cell? ⟨wr.heap.size, 1, none⟩ = some (.int .i64 n) := (cell_of_row w4 _ 1 _ _ _ X4.out).trans rfl; have a2 : w4.cell? ⟨wr.heap.size, 2, none⟩ = some (.string s) := (cell_of_row w4 _ 2 _ _ _ X4.out).trans rfl))
        clear a0 a1 a2 X1 X2 X3 B1 B2 A3 CX
        generalize wr.heap.size = g5 at *
        go_loopw [3, 6] (fun y z wq => ∃ (j : Nat) (v : Value), j ≤ 8 ∧ v = y ∧ z = .int .i64 (56 - 8 * (j : Int)) ∧ Hid (Ab (acc ++ [1] ++ eightTo n j) v w wq) ∧ Hid (wq.heap[g5]? = some (.cells (cells (1, n, s)) 56 (0, 0)))) (fun _ z _ => (intOf z + 8).toNat)
        case atStart => exact ⟨0, v4, by omega, rfl, by go_num, Lib.hid (by simpa [eightTo] using A4.out), X4⟩
        case round =>
          obtain ⟨j, v, hj, rfl, rfl, hB, hX⟩ := hrel
          by_cases hj8 : j < 8
          · have hlen : (acc ++ [1] ++ eightTo n j).length ≤ 100000000000000 := by simp only [List.length_append, List.length_cons, List.length_nil, eight_len]; omega
            have a1 : wr.cell? ⟨g5, 1, none⟩ = some (.int .i64 n) := (cell_of_row wr _ 1 _ _ _ hX.out).trans rfl
            go_wp2_with (at_builtin; go_must (refine wpList_pushB rfl (.tmp 27) (.tmp 34) rfl w wr _ v ((n + 4611686018427387904) / 2 ^ (56 - 8 * j) % 256) rfl hB.out rfl rfl hlen ?_); intro v5 w5 hA' hS'; have A5 := Lib.hid hA'; have X5 := Lib.hid (hS' _ _ _ (by decide) hX.out); clear hA' hS' a1)
            go_roundw
            case rel => exact ⟨j + 1, v5, by omega, rfl, by go_num, Lib.hid (by rw [eightTo, ← List.append_assoc]; exact A5.out), X5⟩
            case measure => simp [intOf]; omega
          · have hj9 : j = 8 := by omega
            subst hj9
            go_wp2_with fail
            go_roundw
            case rel => exact ⟨k + 1, v, by omega, rfl, by go_num, by rw [HT.out, HE.out]; exact Lib.hid (by simpa using hB.out)⟩
            case measure => simp [intOf]; omega
      · have HE := Lib.hid (show KV = 2 :: eightTo n 8 from HK)
        clear HK
        go_wp2_with (refine store23 rfl (.tmp 5) (.tmp 12) rfl wr.heap.size (xk, xn, xt) rfl rfl nullT (new_at _ _ _ rfl) ?_; intro w1 hp; have X1 := Lib.hid hp.at'; have B1 := Lib.hid (hp.below (w0 := wr) ((Below.refl _ wr).alloc (Nat.le_refl _) _) (Nat.le_refl _)); clear hp x0 x1 x2; have a0 : w1.cell? ⟨wr.heap.size, 0, none⟩ = some (.int .i64 xk) := (cell_of_row w1 _ 0 _ _ _ X1.out).trans rfl; have a1 : w1.cell? ⟨wr.heap.size, 1, none⟩ = some (.int .i64 xn) := (cell_of_row w1 _ 1 _ _ _ X1.out).trans rfl; have a2 : w1.cell? ⟨wr.heap.size, 2, none⟩ = some (.string xt) := (cell_of_row w1 _ 2 _ _ _ X1.out).trans rfl)
        refine (CX.out _).mono ?_
        rintro e w2 ⟨rfl, hb2⟩
        have X2 := Lib.hid ((hb2.block _ (lt_of_block X1.out)).trans X1.out)
        have B2 := Lib.hid (B1.out.trans (hb2.mono B1.out.size))
        clear hb2 a0 a1 a2
        go_wp2_with (first | (refine store23 rfl (.tmp 5) (.tmp 14) rfl wr.heap.size (2, n, s) rfl rfl _ X2.out ?_; intro w3 hp; have X3 := Lib.hid hp.at'; have A3 := Lib.hid (hA.out.below (hp.below (w0 := wr) B2.out (Nat.le_refl _))); clear hp; have a0 : w3.cell? ⟨wr.heap.size, 0, none⟩ = some (.int .i64 2) := (cell_of_row w3 _ 0 _ _ _ X3.out).trans rfl; have a1 : w3.cell? ⟨wr.heap.size, 1, none⟩ = some (.int .i64 n) := (cell_of_row w3 _ 1 _ _ _ X3.out).trans rfl; have a2 : w3.cell? ⟨wr.heap.size, 2, none⟩ = some (.string s) := (cell_of_row w3 _ 2 _ _ _ X3.out).trans rfl) | (at_builtin; refine wpList_pushB rfl (.tmp 15) (.tmp 19) rfl w w3 acc u 2 rfl A3.out rfl rfl (by omega) ?_; intro v4 w4 hA' hS'; have A4 := Lib.hid hA'; have X4 := Lib.hid (hS' _ _ _ (by decide) X3.out); clear hA' hS' a0 a1 a2; have a0 : w4.cell? ⟨wr.heap.size, 0, none⟩ = some (.int .i64 2) := (cell_of_row w4 _ 0 _ _ _ X4.out).trans rfl; have a1 : w4.cell? ⟨wr.heap.size, 1, none⟩ = some (.int .i64 n) := (cell_of_row w4 _ 1 _ _ _ X4.out).trans rfl; have a2 : w4.cell? ⟨wr.heap.size, 2, none⟩ = some (.string s) := (cell_of_row w4 _ 2 _ _ _ X4.out).trans rfl))
        clear a0 a1 a2 X1 X2 X3 B1 B2 A3 CX
        generalize wr.heap.size = g5 at *
        go_loopw [3, 6] (fun y z wq => ∃ (j : Nat) (v : Value), j ≤ 8 ∧ v = y ∧ z = .int .i64 (56 - 8 * (j : Int)) ∧ Hid (Ab (acc ++ [2] ++ eightTo n j) v w wq) ∧ Hid (wq.heap[g5]? = some (.cells (cells (2, n, s)) 56 (0, 0)))) (fun _ z _ => (intOf z + 8).toNat)
        case atStart => exact ⟨0, v4, by omega, rfl, by go_num, Lib.hid (by simpa [eightTo] using A4.out), X4⟩
        case round =>
          obtain ⟨j, v, hj, rfl, rfl, hB, hX⟩ := hrel
          by_cases hj8 : j < 8
          · have hlen : (acc ++ [2] ++ eightTo n j).length ≤ 100000000000000 := by simp only [List.length_append, List.length_cons, List.length_nil, eight_len]; omega
            have a1 : wr.cell? ⟨g5, 1, none⟩ = some (.int .i64 n) := (cell_of_row wr _ 1 _ _ _ hX.out).trans rfl
            go_wp2_with (at_builtin; go_must (refine wpList_pushB rfl (.tmp 27) (.tmp 34) rfl w wr _ v ((n + 4611686018427387904) / 2 ^ (56 - 8 * j) % 256) rfl hB.out rfl rfl hlen ?_); intro v5 w5 hA' hS'; have A5 := Lib.hid hA'; have X5 := Lib.hid (hS' _ _ _ (by decide) hX.out); clear hA' hS' a1)
            go_roundw
            case rel => exact ⟨j + 1, v5, by omega, rfl, by go_num, Lib.hid (by rw [eightTo, ← List.append_assoc]; exact A5.out), X5⟩
            case measure => simp [intOf]; omega
          · have hj9 : j = 8 := by omega
            subst hj9
            go_wp2_with fail
            go_roundw
            case rel => exact ⟨k + 1, v, by omega, rfl, by go_num, by rw [HT.out, HE.out]; exact Lib.hid (by simpa using hB.out)⟩
            case measure => simp [intOf]; omega
      · have HE := Lib.hid (show KV = 4 :: eightTo n 8 from HK)
        clear HK
        go_wp2_with (refine store23 rfl (.tmp 5) (.tmp 12) rfl wr.heap.size (xk, xn, xt) rfl rfl nullT (new_at _ _ _ rfl) ?_; intro w1 hp; have X1 := Lib.hid hp.at'; have B1 := Lib.hid (hp.below (w0 := wr) ((Below.refl _ wr).alloc (Nat.le_refl _) _) (Nat.le_refl _)); clear hp x0 x1 x2; have a0 : w1.cell? ⟨wr.heap.size, 0, none⟩ = some (.int .i64 xk) := (cell_of_row w1 _ 0 _ _ _ X1.out).trans rfl; have a1 : w1.cell? ⟨wr.heap.size, 1, none⟩ = some (.int .i64 xn) := (cell_of_row w1 _ 1 _ _ _ X1.out).trans rfl; have a2 : w1.cell? ⟨wr.heap.size, 2, none⟩ = some (.string xt) := (cell_of_row w1 _ 2 _ _ _ X1.out).trans rfl)
        refine (CX.out _).mono ?_
        rintro e w2 ⟨rfl, hb2⟩
        have X2 := Lib.hid ((hb2.block _ (lt_of_block X1.out)).trans X1.out)
        have B2 := Lib.hid (B1.out.trans (hb2.mono B1.out.size))
        clear hb2 a0 a1 a2
        go_wp2_with (first | (refine store23 rfl (.tmp 5) (.tmp 14) rfl wr.heap.size (4, n, s) rfl rfl _ X2.out ?_; intro w3 hp; have X3 := Lib.hid hp.at'; have A3 := Lib.hid (hA.out.below (hp.below (w0 := wr) B2.out (Nat.le_refl _))); clear hp; have a0 : w3.cell? ⟨wr.heap.size, 0, none⟩ = some (.int .i64 4) := (cell_of_row w3 _ 0 _ _ _ X3.out).trans rfl; have a1 : w3.cell? ⟨wr.heap.size, 1, none⟩ = some (.int .i64 n) := (cell_of_row w3 _ 1 _ _ _ X3.out).trans rfl; have a2 : w3.cell? ⟨wr.heap.size, 2, none⟩ = some (.string s) := (cell_of_row w3 _ 2 _ _ _ X3.out).trans rfl) | (at_builtin; refine wpList_pushB rfl (.tmp 15) (.tmp 19) rfl w w3 acc u 4 rfl A3.out rfl rfl (by omega) ?_; intro v4 w4 hA' hS'; have A4 := Lib.hid hA'; have X4 := Lib.hid (hS' _ _ _ (by decide) X3.out); clear hA' hS' a0 a1 a2; have a0 : w4.cell? ⟨wr.heap.size, 0, none⟩ = some (.int .i64 4) := (cell_of_row w4 _ 0 _ _ _ X4.out).trans rfl; have a1 : w4.cell? ⟨wr.heap.size, 1, none⟩ = some (.int .i64 n) := (cell_of_row w4 _ 1 _ _ _ X4.out).trans rfl; have a2 : w4.cell? ⟨wr.heap.size, 2, none⟩ = some (.string s) := (cell_of_row w4 _ 2 _ _ _ X4.out).trans rfl))
        clear a0 a1 a2 X1 X2 X3 B1 B2 A3 CX
        generalize wr.heap.size = g5 at *
        go_loopw [3, 6] (fun y z wq => ∃ (j : Nat) (v : Value), j ≤ 8 ∧ v = y ∧ z = .int .i64 (56 - 8 * (j : Int)) ∧ Hid (Ab (acc ++ [4] ++ eightTo n j) v w wq) ∧ Hid (wq.heap[g5]? = some (.cells (cells (4, n, s)) 56 (0, 0)))) (fun _ z _ => (intOf z + 8).toNat)
        case atStart => exact ⟨0, v4, by omega, rfl, by go_num, Lib.hid (by simpa [eightTo] using A4.out), X4⟩
        case round =>
          obtain ⟨j, v, hj, rfl, rfl, hB, hX⟩ := hrel
          by_cases hj8 : j < 8
          · have hlen : (acc ++ [4] ++ eightTo n j).length ≤ 100000000000000 := by simp only [List.length_append, List.length_cons, List.length_nil, eight_len]; omega
            have a1 : wr.cell? ⟨g5, 1, none⟩ = some (.int .i64 n) := (cell_of_row wr _ 1 _ _ _ hX.out).trans rfl
            go_wp2_with (at_builtin; go_must (refine wpList_pushB rfl (.tmp 27) (.tmp 34) rfl w wr _ v ((n + 4611686018427387904) / 2 ^ (56 - 8 * j) % 256) rfl hB.out rfl rfl hlen ?_); intro v5 w5 hA' hS'; have A5 := Lib.hid hA'; have X5 := Lib.hid (hS' _ _ _ (by decide) hX.out); clear hA' hS' a1)
            go_roundw
            case rel => exact ⟨j + 1, v5, by omega, rfl, by go_num, Lib.hid (by rw [eightTo, ← List.append_assoc]; exact A5.out), X5⟩
            case measure => simp [intOf]; omega
          · have hj9 : j = 8 := by omega
            subst hj9
            go_wp2_with fail
            go_roundw
            case rel => exact ⟨k + 1, v, by omega, rfl, by go_num, by rw [HT.out, HE.out]; exact Lib.hid (by simpa using hB.out)⟩
            case measure => simp [intOf]; omega
    · have hk2 : k = L.length := by omega
      subst hk2
      go_wp2_with fail
      go_ret
      exact KeyP.mk hA.out (by rw [List.take_length])
/-- a list of bytes lies there -/
def Lsb (w : World) (a : Option Addr) (S : List Int) : Prop := ∀ k p, S[k]? = some p → ∃ b o, a = some ⟨b, o, none⟩ ∧ w.cell? ⟨b, o + k, none⟩ = some (.int .u8 p)
theorem Lsb.below {w w' : World} {a : Option Addr} {S : List Int} (h : Lsb w a S) (hb : Below w.heap.size w w') : Lsb w' a S := fun k p hk => by
  obtain ⟨b, o, ha, hc⟩ := h k p hk
  exact ⟨b, o, ha, (hb.cell (p := ⟨b, o + k, none⟩) (block_lt_of_cell hc)).trans hc⟩
def bytesOk (S : List Int) : Prop := ∀ p ∈ S, 0 ≤ p ∧ p ≤ 255
def hstep (h c : Int) : Int := IntKind.u64.wrap (bits BinOp.xor IntKind.u64 h c * 1099511628211)
def hashI (S : List Int) : Int := S.foldl hstep 14695981039346656037
theorem hash_take {S : List Int} {k : Nat} {p : Int} (h : S[k]? = some p) : hashI (S.take (k + 1)) = hstep (hashI (S.take k)) p := by
  obtain ⟨hk, e⟩ := List.getElem?_eq_some_iff.1 h
  rw [List.take_succ_eq_append_getElem hk, e]
  unfold hashI
  rw [List.foldl_append]
  rfl
set_option maxHeartbeats 2000000 in
theorem hashOf_t (a : Option Addr) (c : Nat) (S : List Int) (w : World) (hl : S.length ≤ 100000000000000) (h : Lsb w a S) (hS : bytesOk S) : Calls Try.prog 43 #[.slice a S.length c] w fun e w' => e = .returned (.int .u64 (hashI S)) ∧ w' = w := by
  have H := Lib.hid h
  clear h
  go_enter Try.func43, Try.ntmps43
  go_wp2_with fail
  go_loopw [3, 8] (fun y z wr => ∃ (k : Nat) (u : Int), k ≤ S.length ∧ y = .int .u64 u ∧ Hid (u = hashI (S.take k)) ∧ z = .int .i64 k ∧ Hid (wr = w)) (fun _ z _ => S.length - (intOf z).toNat)
  case atStart => exact ⟨0, 14695981039346656037, Nat.zero_le _, rfl, Lib.hid rfl, rfl, Lib.hid rfl⟩
  case round =>
    obtain ⟨k, u, hk, rfl, hu, rfl, hw⟩ := hrel
    obtain rfl := hw.out
    by_cases hlt : k < S.length
    · obtain ⟨p, hp⟩ := lt_some hlt
      obtain ⟨b, o, rfl, c0⟩ := H.out k p hp
      obtain ⟨p0, p1⟩ := hS p (List.mem_of_getElem? hp)
      have HN := Lib.hid (hash_take hp)
      clear hp
      go_wp2_with fail
      go_roundw
      case rel => exact ⟨k + 1, _, by omega, rfl, Lib.hid (by rw [HN.out, ← hu.out]; rfl), by go_num, Lib.hid trivial⟩
      case measure => simp [intOf]; omega
    · have hk2 : k = S.length := by omega
      subst hk2
      go_wp2_with fail
      go_ret
      exact ⟨by rw [hu.out, List.take_length]; rfl, rfl⟩
theorem Ab.bytes {acc : List Int} {v : Value} {w0 w : World} (h : Ab acc v w0 w) : ∃ a cap, v = .slice a acc.length cap ∧ Lsb w a acc := by
  obtain ⟨⟨h1, h2⟩, _⟩ := h
  rcases h2 with ⟨rfl, h0⟩ | ⟨g, cap, cur, rfl, h3, h4, h5, h6, h7, h8⟩
  · refine ⟨none, 0, by rw [h0], fun k p hk => ?_⟩
    have := some_lt hk
    omega
  · refine ⟨_, cap, rfl, fun k p hk => ⟨g, 0, rfl, ?_⟩⟩
    have hlt := some_lt hk
    rw [Nat.zero_add, cell_of_row w g k _ _ _ h4]
    have h9 : (u8s acc)[k]? = some (.int .u8 p) := by unfold u8s; rw [List.getElem?_map, hk]; rfl
    rw [← h8, List.getElem?_take] at h9
    simpa [hlt] using h9
theorem keyV_ok {x : V3} (h : Right x) : bytesOk (keyV x) := by
  obtain ⟨b1, b2, b3, b4, b5⟩ := h.bounds
  have he : ∀ n k, bytesOk (eightTo n k) := by
    intro n k
    induction k with
    | zero => intro p hp; cases hp
    | succ k ih =>
      intro p hp
      rw [eightTo] at hp
      rcases List.mem_append.1 hp with hp | hp
      · exact ih p hp
      · rw [List.mem_singleton] at hp
        rw [hp]
        unfold kbyte
        omega
  intro p hp
  unfold keyV at hp
  rcases List.mem_cons.1 hp with rfl | hp
  · omega
  · split at hp
    · cases hp
    · split at hp
      · rcases List.mem_append.1 hp with hp | hp
        · unfold bytesOf at hp
          obtain ⟨b, _, rfl⟩ := List.mem_map.1 hp
          have := b.toNat_lt
          omega
        · rw [List.mem_singleton] at hp; omega
      · exact he _ _ p hp
theorem keyL_ok (L : List V3) : bytesOk (keyL L) := by
  intro p hp
  unfold keyL at hp
  obtain ⟨x, _, hx⟩ := List.mem_flatMap.1 hp
  exact keyV_ok (clT_right x) p hx
set_option maxHeartbeats 2000000 in
theorem hash_t (a : Option Addr) (c : Nat) (L : List V3) (w : World) (hl : L.length ≤ 10000000) (h : Lst w a L) : Calls Try.prog 37 #[.slice a L.length c] w fun e w' => e = .returned (.int .u64 (hashI (keyL L))) ∧ Below w.heap.size w w' := by
  have CK := Lib.hid (key_t a c L w hl h)
  have hlen := keyL_len L
  have hS := keyL_ok L
  generalize keyL L = S at *
  clear h
  go_enter Try.func37, Try.ntmps37
  go_wp2_with fail
  refine CK.out.mono ?_
  rintro e w1 ⟨v, rfl, hA⟩
  obtain ⟨b, cap, rfl, hb⟩ := hA.bytes
  have H := Lib.hid hb
  have HB := Lib.hid hA.2
  clear hb hA CK
  go_wp2_with fail
  go_loopw [3, 9] (fun y z wr => ∃ (k : Nat) (u : Int), k ≤ S.length ∧ y = .int .u64 u ∧ Hid (u = hashI (S.take k)) ∧ z = .int .i64 k ∧ Hid (wr = w1)) (fun _ z _ => S.length - (intOf z).toNat)
  case atStart => exact ⟨0, 14695981039346656037, Nat.zero_le _, rfl, Lib.hid rfl, rfl, Lib.hid rfl⟩
  case round =>
    obtain ⟨k, u, hk, rfl, hu, rfl, hw⟩ := hrel
    obtain rfl := hw.out
    by_cases hlt : k < S.length
    · obtain ⟨p, hp⟩ := lt_some hlt
      obtain ⟨g, o, rfl, c0⟩ := H.out k p hp
      obtain ⟨p0, p1⟩ := hS p (List.mem_of_getElem? hp)
      have HN := Lib.hid (hash_take hp)
      clear hp
      go_wp2_with fail
      go_roundw
      case rel => exact ⟨k + 1, _, by omega, rfl, Lib.hid (by rw [HN.out, ← hu.out]; rfl), by go_num, Lib.hid trivial⟩
      case measure => simp [intOf]; omega
    · have hk2 : k = S.length := by omega
      subst hk2
      go_wp2_with fail
      go_ret
      exact ⟨by rw [hu.out, List.take_length]; rfl, HB.out⟩
theorem wpList_pushV' {ops : Array Oper} {rest : List Oper} {o : Oper} {a : Act} {w : World} {Q : Exit → Act → World → Prop} (hgd : o.guard = none) (s x : Operand) (ho : o.op = .call { callee := .builtin .append, args := #[s, x], argTypes := #[57, 57] })
    (w0 wr : World) (L : List V3) (v : Value) (p : V3) (hs : a.eval s = v) (hA : Av L v w0 wr) (hw : w = wr.alloc (.cells (cells p) 56)) (hx : a.eval x = .slice (some ⟨wr.heap.size, 0, none⟩) 1 1) (hlen : L.length ≤ 1000000000)
    (h : ∀ v' w', Av (L ++ [p]) v' w0 w' → wpList Try.prog ops Q rest (a.put o.dst v') w') : wpList Try.prog ops Q (o :: rest) a w := by
  subst hw
  obtain ⟨i3, hi, hz0, hz1, hz2⟩ := info_parts info23i
  have hA1 := hA.alloc (.cells (cells p) 56)
  refine wpList_append_own _ hgd s x 57 ho w0.heap.size 56 i3 (.agg #[.int .i64 0, .int .i64 0, .string ⟨#[]⟩]) 3 32 Try.underlying57 hi hz0 hz1 hz2 rfl (by decide) v L.length _ hs hA1.1 ⟨wr.heap.size, 0, none⟩ 1 1 (flatV [p]) hx (by rw [flatV_length]; rfl) (news23 wr p) (flatV_one p) (by unfold maxLen; omega) (by omega) hA1.2.size ?_
  intro v' w' h1 h2 _
  refine h v' w' ⟨?_, hA1.2.grown h2 hA1.2.size (fun k hk => (hA1.1.lt k hk).1)⟩
  rw [flatV_append]
  simpa using h1
end Ytbihfgcejlgffaa
end Go.Proofs
