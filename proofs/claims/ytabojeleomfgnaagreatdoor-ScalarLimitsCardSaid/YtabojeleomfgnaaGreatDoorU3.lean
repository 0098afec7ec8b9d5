/- A list of numbers that comes in. -/
import Derived.Test.YtabojeleomfgnaaGreatDoorU2
import Derived.Test.YtabojeleomfgnaaGreatDoorMp4
namespace Go.Proofs
open Go.RowKit
namespace YtabojeleomfgnaaGreatDoor
set_option maxRecDepth 100000
theorem cells3' : Tryz.prog.cellsOf 3 = 1 := by kernel_rfl
set_option maxRecDepth 100000
theorem open_intlist {H : Type} {enc : TypeId × Value → H} {w : World} {base : Nat} {v : Value} {d : DataW H} {p : List MemPlace} (hv : Value.okWide Tryz.prog w .any base 51 v) (h : DataW.Trod enc Tryz.prog w 0 (fun _ => true) true 51 v d p) :
    ∃ (a : Option Addr) (len cap : Nat), v = .slice a len cap ∧ len ≤ maxLen ∧ IntsAt w a len := by
  obtain ⟨a, len, cap, rfl⟩ := WideShapes.okWide_slice Tryz.underlying51 hv
  obtain ⟨n, hn⟩ := Joins.field_of_Trod h rfl
  rcases Go.ChangeShapes.open_ints Tryz.underlying51 Tryz.underlying3 cells3' hn with ⟨e, _⟩ | ⟨a', len', cap', zs, e, _, hl, hc, hz, _, hi, _⟩
  · simp at e
    obtain ⟨rfl, rfl, rfl⟩ := e
    exact ⟨none, 0, 0, rfl, Nat.zero_le _, Or.inl rfl⟩
  · simp at e
    obtain ⟨rfl, rfl, rfl⟩ := e
    have hlm : len ≤ zs.length := by rw [hz]; split <;> omega
    refine ⟨some a', len, cap, rfl, by omega, ?_⟩
    rcases Nat.eq_zero_or_pos len with h0 | h0
    · exact Or.inl h0
    · obtain ⟨b, o, sp⟩ := a'
      have hsp : sp = none := by
        have := hi 0 (by omega)
        exact cell_spot (by simpa [Addr.add] using this)
      subst hsp
      have ad : ∀ j, ((⟨b, o, none⟩ : Addr).add j) = ⟨b, o + j, none⟩ := fun j => by unfold Addr.add; by_cases hj : j = 0 <;> simp [hj]
      exact Or.inr ⟨b, o, fun i => zs.getD i 0, rfl, fun i hi' => by have := hi i (by omega); rw [ad] at this; exact this⟩
theorem readable51 : Tryz.prog.readableRec 51 = true := by kernel_rfl
theorem row51 : 51 < Tryz.prog.types.size := of_decide_eq_true (by kernel_rfl)
end YtabojeleomfgnaaGreatDoor
end Go.Proofs
