/- The tokens of both sides are the same. -/
import Derived.Test.YtbihfgcejlgffaaTh2
namespace Go.Proofs
open Go.RowKit
namespace Ytbihfgcejlgffaa
set_option maxRecDepth 100000
theorem equal_t (T : List Int) (hl : T.length ≤ 100000) (p p' : Option Addr) (c c' : Nat) (w : World) (h : Zs w p T) (h' : Zs w p' T) :
    Calls Try.prog 9 #[.slice p T.length c, .slice p' T.length c'] w fun e w' => e = .returned (.bool true) ∧ ∃ n, w' = w.drewN n := by
  by_cases hne : T = []
  · subst hne
    refine (Try.slices_Equal_int_empty p p' c 0 c' w (by omega)).mono ?_
    rintro e w' ⟨rfl, rfl⟩
    exact ⟨rfl, 0, rfl⟩
  · obtain ⟨b, o, rfl, _, hc⟩ := h.lt hne
    obtain ⟨b', o', rfl, _, hc'⟩ := h'.lt hne
    refine (Try.slices_Equal_int b o T.length c b' o' T.length c' T T w (Nat.le_refl _) (Nat.le_refl _) (by omega) (by omega) hc hc').mono ?_
    rintro e w' ⟨rfl, hw⟩
    exact ⟨by simp, hw⟩
theorem issT_len (s : ByteArray) (zs : List Int) (u : Int) : (issT s zs u).length ≤ zs.length := by
  unfold issT
  split
  · exact Nat.le_trans (comp_len _) (by rw [sortZ_len]; exact Nat.le_refl _)
  · exact Nat.zero_le _
theorem issT_len2 (s : ByteArray) (zs : List Int) (u : Int) : (issT s zs u).length ≤ 1000 ∨ 1000 < zs.length := by
  have := issT_len s zs u
  omega
end Ytbihfgcejlgffaa
end Go.Proofs
