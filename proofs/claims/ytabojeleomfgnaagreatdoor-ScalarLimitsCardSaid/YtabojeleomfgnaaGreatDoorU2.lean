/- A list of values that comes in: its elements' cells. -/
import Derived.Test.YtabojeleomfgnaaGreatDoorU1
import Derived.Test.YtabojeleomfgnaaGreatDoorM3
import Derived.Deep.Slices
import Derived.Carry
import Derived.ChangeOld
namespace Go.Proofs
open Go.RowKit
namespace YtabojeleomfgnaaGreatDoor
theorem list_of {α : Type} (P : Nat → α → Prop) : ∀ (n : Nat), (∀ i, i < n → ∃ v, P i v) → ∃ l : List α, l.length = n ∧ ∀ k (h : k < l.length), P k l[k]
  | 0, _ => ⟨[], rfl, fun k h => absurd h (Nat.not_lt_zero k)⟩
  | n + 1, h => by
    obtain ⟨l, hl, hp⟩ := list_of P n (fun i hi => h i (by omega))
    obtain ⟨v, hv⟩ := h n (by omega)
    refine ⟨l ++ [v], by simp [hl], fun k hk => ?_⟩
    by_cases e : k < l.length
    · rw [List.getElem_append_left e]; exact hp k e
    · have hk' : k = n := by simp at hk; omega
      subst hk'
      rw [List.getElem_append_right (by omega)]
      simpa [hl] using hv
theorem elem_of {H : Type} {enc : TypeId × Value → H} {w : World} {spare : Nat → Bool} {held : Bool} {n k : Nat} {b o : Nat} {cs : List Value} {x : DataW H × List MemPlace}
    (hc : w.cells? 0 ((⟨b, o, none⟩ : Addr).add (k * 3)) 3 = some cs) (h : DataW.trod enc Tryz.prog w 0 spare held n 23 cs = some x) : ∃ v, ElemAt w (some ⟨b, o, none⟩) k v := by
  obtain ⟨_, hl, hcell⟩ := World.cells?_some hc
  obtain ⟨xs, m, _, _, _, _, hf⟩ := DataW.trod_struct Tryz.underlying23 h
  have f0 := hf 0 _ rfl
  have f1 := hf 1 _ rfl
  have f2 := hf 2 _ rfl
  cases e0 : xs[0]? with
  | none =>
    rw [e0] at f0
    have hlen : xs.length = 3 := by simpa using ‹xs.length = _›
    rw [List.getElem?_eq_none_iff] at e0
    omega
  | some y0 =>
    cases e1 : xs[1]? with
    | none =>
      have hlen : xs.length = 3 := by simpa using ‹xs.length = _›
      rw [List.getElem?_eq_none_iff] at e1
      omega
    | some y1 =>
      cases e2 : xs[2]? with
      | none =>
        have hlen : xs.length = 3 := by simpa using ‹xs.length = _›
        rw [List.getElem?_eq_none_iff] at e2
        omega
      | some y2 =>
        rw [e0] at f0
        rw [e1] at f1
        rw [e2] at f2
        obtain ⟨kk, g0, _, _⟩ := DataW.trod_int Tryz.underlying3 f0
        obtain ⟨kn, g1, _, _⟩ := DataW.trod_int Tryz.underlying3 f1
        obtain ⟨ks, g2, _, hs⟩ := DataW.trod_string Tryz.underlying9 f2
        have h0 := congrArg (·[0]?) g0
        have h1 := congrArg (·[0]?) g1
        have h2 := congrArg (·[0]?) g2
        simp [cStr, cInt] at h0 h1 h2
        have c0 := hcell 0 (by omega)
        have c1 := hcell 1 (by omega)
        have c2 := hcell 2 (by omega)
        rw [h0] at c0
        rw [h1] at c1
        rw [h2] at c2
        have ad : ∀ j, ((⟨b, o, none⟩ : Addr).add (k * 3)).add j = ⟨b, o + k * 3 + j, none⟩ := fun j => by simp only [Addr.add]; split <;> split <;> simp_all
        rw [ad] at c0 c1 c2
        exact ⟨(kk, kn, ks), b, o, rfl, c0, c1, c2, hs⟩
theorem spot_of {w : World} {b o : Nat} {sp : Option Nat} {cs : List Value} (hc : w.cells? 0 ((⟨b, o, sp⟩ : Addr).add (0 * 3)) 3 = some cs) : sp = none := by
  obtain ⟨_, hl, hcell⟩ := World.cells?_some hc
  have c0 := hcell 0 (by omega)
  match cs, hl with
  | c :: _, _ => exact cell_spot (v := c) (by simpa [Addr.add] using c0)
set_option maxRecDepth 100000
theorem cells23' : Tryz.prog.cellsOf 23 = 3 := by kernel_rfl
theorem open_list {H : Type} {enc : TypeId × Value → H} {w : World} {base : Nat} {v : Value} {d : DataW H} {p : List MemPlace} (hv : Value.okWide Tryz.prog w .any base 28 v) (h : DataW.Trod enc Tryz.prog w 0 (fun _ => true) true 28 v d p) :
    ∃ (a : Option Addr) (l : List V3) (cap : Nat), v = .slice a l.length cap ∧ l.length ≤ maxLen ∧ Lst w a l := by
  obtain ⟨a, len, cap, rfl⟩ := WideShapes.okWide_slice Tryz.underlying28 hv
  obtain ⟨n, hn⟩ := Joins.field_of_Trod h rfl
  rcases Go.Deep.open_slice Tryz.underlying28 hn with ⟨e, _⟩ | ⟨a', len', cap', m, n', D, Pl, e, _, hl, hc, hm, _, hi⟩
  · simp at e
    obtain ⟨rfl, rfl, rfl⟩ := e
    exact ⟨none, [], 0, rfl, Nat.zero_le _, fun k hk => absurd hk (Nat.not_lt_zero k)⟩
  · simp at e
    obtain ⟨rfl, rfl, rfl⟩ := e
    have hlm : len ≤ m := by rw [hm]; split <;> omega
    rcases Nat.eq_zero_or_pos len with h0 | h0
    · subst h0
      exact ⟨some a', [], cap, rfl, Nat.zero_le _, fun k hk => absurd hk (Nat.not_lt_zero k)⟩
    obtain ⟨cs0, q1, q2⟩ := hi 0 (by omega)
    rw [cells23'] at q1
    obtain ⟨b, o, sp⟩ := a'
    have hsp : sp = none := spot_of q1
    subst hsp
    obtain ⟨l, hlen, hp⟩ := list_of (fun k v => ElemAt w (some ⟨b, o, none⟩) k v) len (fun i hi' => by
      obtain ⟨cs, h1, h2⟩ := hi i (by omega)
      rw [cells23'] at h1
      exact elem_of h1 h2)
    exact ⟨_, l, cap, by rw [hlen], by omega, hp⟩
theorem readable28 : Tryz.prog.readableRec 28 = true := by kernel_rfl
theorem row28 : 28 < Tryz.prog.types.size := of_decide_eq_true (by kernel_rfl)
end YtabojeleomfgnaaGreatDoor
end Go.Proofs
