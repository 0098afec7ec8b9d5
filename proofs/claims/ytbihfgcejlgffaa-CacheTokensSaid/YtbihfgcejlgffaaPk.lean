/- A pick of a stream is one of what is offered. -/
import Derived.WalkKit
import Derived.Handy
import Derived.Outline
import Derived.Lib.ConvBytes
import Derived.Lib.Hide
import Derived.BigQuiet
import Derived.Deep.QuietTactic
import Derived.Laws.Closers25
import Derived.Lib.Bytes
import Derived.OneCell
import Derived.WalkSpells
import Derived.Laws.Tables
import Derived.Laws.Rows
import Derived.WalkSmall
import Derived.Deep.RegionHeld3
import Derived.Shelf.Small.Strs
import Derived.Shelf.Strings.Cut
import Derived.Ground.Names2Prog
import Derived.OwnWalk
import Derived.Deep.DeepMust
import Derived.Deep.MidRow
import Derived.Deep.WholeRow
import Derived.StillTail
import Derived.Deep.Quiet
import Derived.ProofKit
import Derived.Lay
import Derived.LaidMore
import Derived.OpenShut
import Derived.MakeChecks
import Derived.HandedShaped
import Derived.Lib.LaidU8
import Derived.Lib.SmallJoins
import Derived.Shelf.Vars
import Derived.JoinedOf
import Derived.KernelRfl
import Derived.SevenTiedAt
import Derived.Deep.Slices
import Derived.Carry
import Derived.ChangeOld
import Derived.Deep.DeepCutAuto
import Derived.Maps.Own
import Derived.Shelf.Bits.Mul64
import Derived.Shelf.Strings.Builder1
import Derived.Shelf.Strings.Builder2
import Derived.Shelf.Strconv.Itoa3
import Derived.Shelf.Strings.Prefix
import Derived.Shelf.Strings.Replace
import Derived.Shelf.Small.Wraps
import Derived.Lib.AtoiAll
import Derived.Lib.ItoaNum
import Derived.Lib.Small
import Derived.Lib.Replace
import Derived.Lib.Repeat
import Derived.Lib.Strings
import Derived.Lib.AppendIntMem
import Derived.Lib.ItoaLen
import Derived.ChangeArms
import Derived.JoinedCond
import Derived.Laws.BytesArg
import Derived.Deep.AppendLies
import Derived.Deep.RegionHeld
import Derived.ChangeMaps5
import Derived.Shelf.Strings.Search3
import Derived.Lib.Join
import Derived.Laws.CopyOwn
import Derived.Laws.MakeOwn
import Derived.Test.YtbihfgcejlgffaaSt
namespace Go.Proofs
open Go.RowKit
namespace Ytbihfgcejlgffaa
set_option maxRecDepth 100000
theorem IntsAt.ip {w : World} {a : Option Addr} {len : Nat} (h : IntsAt w a len) : Ip w.heap.size w a len := by
  rcases h with h | ⟨b, o, f, ha, hf⟩
  · exact Or.inl h
  · rcases Nat.eq_zero_or_pos len with h0 | h0
    · exact Or.inl h0
    · exact Or.inr ⟨b, o, f, ha, Nat.ne_of_lt (block_lt_of_cell (hf 0 h0)), hf⟩
theorem IntsAt.ip' {p : Nat} {w : World} {a : Option Addr} {len : Nat} (h : IntsAt w a len) (hp : w.heap.size ≤ p) : Ip p w a len := by
  rcases h with h | ⟨b, o, f, ha, hf⟩
  · exact Or.inl h
  · rcases Nat.eq_zero_or_pos len with h0 | h0
    · exact Or.inl h0
    · exact Or.inr ⟨b, o, f, ha, by have : b < w.heap.size := block_lt_of_cell (hf 0 h0); omega, hf⟩
set_option maxHeartbeats 1000000 in
theorem pick_of (p g : Nat) (a : Option Addr) (len cap t k c : Nat) (hk : 1 ≤ k) (hk2 : k ≤ 1000) (ht : t ≤ 1000) (hl : len ≤ maxLen) (hg : g ≠ p) (f : Nat → Int) (w : World) (hf : ∀ i, i < k → w.cell? ⟨g, i, none⟩ = some (.int .i64 (f i))) (hS : Sm p a len cap t w) :
    Calls Try.prog 4 #[.pointer (some ⟨p, 0, none⟩), .slice (some ⟨g, 0, none⟩) k c] w fun e w' => (∃ j, j < k ∧ e = .returned (.int .i64 (f j))) ∧ Sm p a len cap (t + 1) w' ∧ Keeps p w w' := by
  have HF := Lib.hid hf
  have CN := Lib.hid (next_t p a len cap t k (by omega) (by omega) ht hl w hS)
  clear hf hS ht hl
  go_enter Try.func4, Try.ntmps4
  go_wp2_with fail
  refine CN.out.mono ?_
  rintro e w1 ⟨r, rfl, r0, r1, hS1, hK1⟩
  obtain ⟨j, rfl⟩ : ∃ j : Nat, r = j := ⟨r.toNat, by omega⟩
  have hj : j < k := by omega
  have S1 := Lib.hid hS1
  have K1 := Lib.hid hK1
  have c0 : w1.cell? ⟨g, j, none⟩ = some (.int .i64 (f j)) := by
    have h := HF.out j hj
    exact (cell_kept hK1 hg (block_lt_of_cell h)).trans h
  have HJ : Hid (∃ i, i < k ∧ f j = f i) := Lib.hid ⟨j, hj, rfl⟩
  clear hS1 hK1 r0 r1 HF CN
  generalize f j = r at c0 HJ
  go_wp2_with fail
  go_ret
  obtain ⟨i, hi, he⟩ := HJ.out
  exact ⟨⟨i, hi, by rw [he]; rfl⟩, S1.out, K1.out⟩
end Ytbihfgcejlgffaa
end Go.Proofs
