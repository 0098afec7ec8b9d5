/- ValueChecks: the closed facts of its row and of its card. -/
import Derived.Test.YtabojeleomfgnaaGreatDoorKP
import Derived.Test.YtabojeleomfgnaaGreatDoorCards
namespace Go.Proofs.YtabojeleomfgnaaGreatDoor
open Go
namespace KvalueChecks
theorem x0 : (Rows.valueChecksRow.wf (OpenSpec.ofChange Rows.valueChecksSpec)) = true := by kernel_rfl
theorem x1 : (Tryz.f3.params.all (Tryz.prog.readableRec ·)) = true := by kernel_rfl
theorem x2 : (namedTie Tryz.prog Rows.valueChecksRow.named Rows.valueChecksSpec.vars) = true := by kernel_rfl
theorem x3 : ((Rows.valueChecksRow.stops == [])) = true := by kernel_rfl
theorem x4 : ((Rows.valueChecksRow.knobs == [])) = true := by kernel_rfl
theorem x5 : ((Rows.valueChecksRow.inPlace == Tryz.prog.inPlace 3)) = true := by kernel_rfl
theorem x6 : ((Rows.valueChecksRow.unfollowed == Tryz.prog.unfollowed 3)) = true := by kernel_rfl
theorem x7 : ((Rows.valueChecksRow.recurses == Tryz.prog.recurses 3)) = true := by kernel_rfl
theorem x8 : ((Rows.valueChecksRow.named == Tryz.prog.varsNamed 3)) = true := by kernel_rfl
theorem x9 : ((Rows.valueChecksRow.maps == (Tryz.f3.params.toList ++ Rows.valueChecksSpec.plain.varTypes Tryz.prog).any (Tryz.prog.mapsRec ·))) = true := by kernel_rfl
theorem x10 : ((Rows.valueChecksRow.ifaces == (Tryz.f3.params.toList ++ Rows.valueChecksSpec.plain.varTypes Tryz.prog).any (Tryz.prog.ifacesRec ·))) = true := by kernel_rfl
theorem x11 : ((Rows.valueChecksRow.mapsOut == Tryz.prog.mapsAmong Tryz.f3.resultTypes.toList)) = true := by kernel_rfl
theorem x12 : ((Rows.valueChecksRow.loops == (Tryz.f3.params.toList ++ Rows.valueChecksSpec.plain.varTypes Tryz.prog).any (Tryz.prog.loopsFrom ·))) = true := by kernel_rfl
theorem x13 : ((Rows.valueChecksRow.wideKeys == (Tryz.f3.params.toList ++ Rows.valueChecksSpec.plain.varTypes Tryz.prog ++ Tryz.f3.resultTypes.toList).any (Tryz.prog.wideKeysFrom ·))) = true := by kernel_rfl
theorem x14 : (Rows.valueChecksSpec.vars.all (Tryz.prog.varReadable ·)) = true := by kernel_rfl
theorem x15 : (Tryz.f3.resultTypes.all (fun t => Tryz.prog.readableRec t && decide (t < Tryz.prog.types.size))) = true := by kernel_rfl
theorem x16 : ((Rows.valueChecksRow.ifacesOut == Tryz.f3.resultTypes.toList.any (Tryz.prog.ifacesRec ·))) = true := by kernel_rfl
theorem x17 : ((Rows.valueChecksRow.loopsOut == Tryz.f3.resultTypes.toList.any (Tryz.prog.loopsFrom ·))) = true := by kernel_rfl
theorem x18 : ((Rows.valueChecksRow.plainKeys == Tryz.prog.plainKeys)) = true := KP.plainKs
theorem x19 : (Rows.valueChecksRow.shortTexts.isNone) = true := by kernel_rfl
theorem x20 : ((Rows.valueChecksRow.lifted == Tryz.prog.liftsFinal)) = true := KP.lifts
theorem x21 : ((Tryz.prog.make == some Rows.valueChecksRow.make)) = true := KP.makes
theorem x22 : ((Rows.valueChecksRow.kinds == (if Rows.valueChecksRow.domain.isEmpty then [] else Tryz.f3.params.toList.map fun t => match Tryz.prog.underlying t with | some (.int k) => some k | _ => none))) = true := by kernel_rfl
theorem x23 : ((Rows.valueChecksRow.pinned == Rows.valueChecksRow.pinnedBy)) = true := by kernel_rfl
theorem x24 : ((Rows.valueChecksRow.veiled == (Tryz.f3.params.toList ++ Rows.valueChecksSpec.plain.varTypes Tryz.prog ++ Tryz.f3.resultTypes.toList).any (Tryz.prog.veiledRec ·))) = true := by kernel_rfl
theorem x25 : (Rows.valueChecksRow.veiledFits Tryz.prog Tryz.f3.params.toList (Tryz.f3.params.toList ++ Rows.valueChecksSpec.plain.varTypes Tryz.prog ++ Tryz.f3.resultTypes.toList)) = true := by kernel_rfl
theorem named : Tryz.pinned.checked.prog.funcNamed "dumbwaiter/dumblaw1.ValueChecks" = some 3 := by kernel_rfl
theorem inst : Tryz.f3.isInstance Tryz.pinned.checked.prog Rows.valueChecksRow.origin Rows.valueChecksRow.targs := of_decide_eq_true (by kernel_rfl)
theorem wrap : Tryz.f3.isWrapper Tryz.pinned.checked.prog Rows.valueChecksRow.wrapper Rows.valueChecksRow.mainSum := by unfold Func.isWrapper; first | (rw [if_pos (by decide +kernel)]; kernel_rfl) | (rw [if_neg (by decide +kernel)]; exact ⟨rfl, rfl⟩)
theorem byText : Rows.valueChecksRow.wfByText (OpenSpec.ofChange Rows.valueChecksSpec) = true := by kernel_rfl
theorem goes : false = Rows.valueChecksRow.goesBy Tryz.pinned.checked.prog := by kernel_rfl
theorem alone (j t : Nat) (ht : Tryz.f3.params[j]? = some t) : Tryz.pinned.checked.prog.wantsStandIn t = false := by
  rw [Tryz.params3] at ht
  have hm : t ∈ [3, 23] := by simpa using Array.mem_of_getElem? ht
  have hall : ([3, 23].all fun u => !Tryz.pinned.checked.prog.wantsStandIn u) = true := by kernel_rfl
  simpa using List.all_eq_true.1 hall t hm
end KvalueChecks
end Go.Proofs.YtabojeleomfgnaaGreatDoor
