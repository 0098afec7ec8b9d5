/- ScalarLimits: the closed facts of its row and of its card. -/
import Derived.Test.YtabojeleomfgnaaGreatDoorKP
import Derived.Test.YtabojeleomfgnaaGreatDoorCards
namespace Go.Proofs.YtabojeleomfgnaaGreatDoor
open Go
namespace KscalarLimits
theorem x0 : (Rows.scalarLimitsRow.wf (OpenSpec.ofChange Rows.scalarLimitsSpec)) = true := by kernel_rfl
theorem x1 : (Tryz.f16.params.all (Tryz.prog.readableRec ·)) = true := by kernel_rfl
theorem x2 : (namedTie Tryz.prog Rows.scalarLimitsRow.named Rows.scalarLimitsSpec.vars) = true := by kernel_rfl
theorem x3 : ((Rows.scalarLimitsRow.stops == [])) = true := by kernel_rfl
theorem x4 : ((Rows.scalarLimitsRow.knobs == [])) = true := by kernel_rfl
theorem x5 : ((Rows.scalarLimitsRow.inPlace == Tryz.prog.inPlace 16)) = true := by kernel_rfl
theorem x6 : ((Rows.scalarLimitsRow.unfollowed == Tryz.prog.unfollowed 16)) = true := by kernel_rfl
theorem x7 : ((Rows.scalarLimitsRow.recurses == Tryz.prog.recurses 16)) = true := by kernel_rfl
theorem x8 : ((Rows.scalarLimitsRow.named == Tryz.prog.varsNamed 16)) = true := by kernel_rfl
theorem x9 : ((Rows.scalarLimitsRow.maps == (Tryz.f16.params.toList ++ Rows.scalarLimitsSpec.plain.varTypes Tryz.prog).any (Tryz.prog.mapsRec ·))) = true := by kernel_rfl
theorem x10 : ((Rows.scalarLimitsRow.ifaces == (Tryz.f16.params.toList ++ Rows.scalarLimitsSpec.plain.varTypes Tryz.prog).any (Tryz.prog.ifacesRec ·))) = true := by kernel_rfl
theorem x11 : ((Rows.scalarLimitsRow.mapsOut == Tryz.prog.mapsAmong Tryz.f16.resultTypes.toList)) = true := by kernel_rfl
theorem x12 : ((Rows.scalarLimitsRow.loops == (Tryz.f16.params.toList ++ Rows.scalarLimitsSpec.plain.varTypes Tryz.prog).any (Tryz.prog.loopsFrom ·))) = true := by kernel_rfl
theorem x13 : ((Rows.scalarLimitsRow.wideKeys == (Tryz.f16.params.toList ++ Rows.scalarLimitsSpec.plain.varTypes Tryz.prog ++ Tryz.f16.resultTypes.toList).any (Tryz.prog.wideKeysFrom ·))) = true := by kernel_rfl
theorem x14 : (Rows.scalarLimitsSpec.vars.all (Tryz.prog.varReadable ·)) = true := by kernel_rfl
theorem x15 : (Tryz.f16.resultTypes.all (fun t => Tryz.prog.readableRec t && decide (t < Tryz.prog.types.size))) = true := by kernel_rfl
theorem x16 : ((Rows.scalarLimitsRow.ifacesOut == Tryz.f16.resultTypes.toList.any (Tryz.prog.ifacesRec ·))) = true := by kernel_rfl
theorem x17 : ((Rows.scalarLimitsRow.loopsOut == Tryz.f16.resultTypes.toList.any (Tryz.prog.loopsFrom ·))) = true := by kernel_rfl
theorem x18 : ((Rows.scalarLimitsRow.plainKeys == Tryz.prog.plainKeys)) = true := KP.plainKs
theorem x19 : (Rows.scalarLimitsRow.shortTexts.isNone) = true := by kernel_rfl
theorem x20 : ((Rows.scalarLimitsRow.lifted == Tryz.prog.liftsFinal)) = true := KP.lifts
theorem x21 : ((Tryz.prog.make == some Rows.scalarLimitsRow.make)) = true := KP.makes
theorem x22 : ((Rows.scalarLimitsRow.kinds == (if Rows.scalarLimitsRow.domain.isEmpty then [] else Tryz.f16.params.toList.map fun t => match Tryz.prog.underlying t with | some (.int k) => some k | _ => none))) = true := by kernel_rfl
theorem x23 : ((Rows.scalarLimitsRow.pinned == Rows.scalarLimitsRow.pinnedBy)) = true := by kernel_rfl
theorem x24 : ((Rows.scalarLimitsRow.veiled == (Tryz.f16.params.toList ++ Rows.scalarLimitsSpec.plain.varTypes Tryz.prog ++ Tryz.f16.resultTypes.toList).any (Tryz.prog.veiledRec ·))) = true := by kernel_rfl
theorem x25 : (Rows.scalarLimitsRow.veiledFits Tryz.prog Tryz.f16.params.toList (Tryz.f16.params.toList ++ Rows.scalarLimitsSpec.plain.varTypes Tryz.prog ++ Tryz.f16.resultTypes.toList)) = true := by kernel_rfl
theorem named : Tryz.pinned.checked.prog.funcNamed "dumbwaiter/dumblaw1.ScalarLimits" = some 16 := by kernel_rfl
theorem inst : Tryz.f16.isInstance Tryz.pinned.checked.prog Rows.scalarLimitsRow.origin Rows.scalarLimitsRow.targs := of_decide_eq_true (by kernel_rfl)
theorem wrap : Tryz.f16.isWrapper Tryz.pinned.checked.prog Rows.scalarLimitsRow.wrapper Rows.scalarLimitsRow.mainSum := by unfold Func.isWrapper; first | (rw [if_pos (by decide +kernel)]; kernel_rfl) | (rw [if_neg (by decide +kernel)]; exact ⟨rfl, rfl⟩)
theorem byText : Rows.scalarLimitsRow.wfByText (OpenSpec.ofChange Rows.scalarLimitsSpec) = true := by kernel_rfl
theorem goes : false = Rows.scalarLimitsRow.goesBy Tryz.pinned.checked.prog := by kernel_rfl
theorem alone (j t : Nat) (ht : Tryz.f16.params[j]? = some t) : Tryz.pinned.checked.prog.wantsStandIn t = false := by
  rw [Tryz.params16] at ht
  have hm : t ∈ [51] := by simpa using Array.mem_of_getElem? ht
  have hall : ([51].all fun u => !Tryz.pinned.checked.prog.wantsStandIn u) = true := by kernel_rfl
  simpa using List.all_eq_true.1 hall t hm
end KscalarLimits
end Go.Proofs.YtabojeleomfgnaaGreatDoor
