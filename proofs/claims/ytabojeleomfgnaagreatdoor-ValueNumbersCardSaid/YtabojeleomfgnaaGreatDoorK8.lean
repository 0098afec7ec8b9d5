/- ValueNumbers: the closed facts of its row and of its card. -/
import Derived.Test.YtabojeleomfgnaaGreatDoorKP
import Derived.Test.YtabojeleomfgnaaGreatDoorCards
namespace Go.Proofs.YtabojeleomfgnaaGreatDoor
open Go
namespace KvalueNumbers
theorem x0 : (Rows.valueNumbersRow.wf (OpenSpec.ofChange Rows.valueNumbersSpec)) = true := by kernel_rfl
theorem x1 : (Tryz.f8.params.all (Tryz.prog.readableRec ·)) = true := by kernel_rfl
theorem x2 : (namedTie Tryz.prog Rows.valueNumbersRow.named Rows.valueNumbersSpec.vars) = true := by kernel_rfl
theorem x3 : ((Rows.valueNumbersRow.stops == [])) = true := by kernel_rfl
theorem x4 : ((Rows.valueNumbersRow.knobs == [])) = true := by kernel_rfl
theorem x5 : ((Rows.valueNumbersRow.inPlace == Tryz.prog.inPlace 8)) = true := by kernel_rfl
theorem x6 : ((Rows.valueNumbersRow.unfollowed == Tryz.prog.unfollowed 8)) = true := by kernel_rfl
theorem x7 : ((Rows.valueNumbersRow.recurses == Tryz.prog.recurses 8)) = true := by kernel_rfl
theorem x8 : ((Rows.valueNumbersRow.named == Tryz.prog.varsNamed 8)) = true := by kernel_rfl
theorem x9 : ((Rows.valueNumbersRow.maps == (Tryz.f8.params.toList ++ Rows.valueNumbersSpec.plain.varTypes Tryz.prog).any (Tryz.prog.mapsRec ·))) = true := by kernel_rfl
theorem x10 : ((Rows.valueNumbersRow.ifaces == (Tryz.f8.params.toList ++ Rows.valueNumbersSpec.plain.varTypes Tryz.prog).any (Tryz.prog.ifacesRec ·))) = true := by kernel_rfl
theorem x11 : ((Rows.valueNumbersRow.mapsOut == Tryz.prog.mapsAmong Tryz.f8.resultTypes.toList)) = true := by kernel_rfl
theorem x12 : ((Rows.valueNumbersRow.loops == (Tryz.f8.params.toList ++ Rows.valueNumbersSpec.plain.varTypes Tryz.prog).any (Tryz.prog.loopsFrom ·))) = true := by kernel_rfl
theorem x13 : ((Rows.valueNumbersRow.wideKeys == (Tryz.f8.params.toList ++ Rows.valueNumbersSpec.plain.varTypes Tryz.prog ++ Tryz.f8.resultTypes.toList).any (Tryz.prog.wideKeysFrom ·))) = true := by kernel_rfl
theorem x14 : (Rows.valueNumbersSpec.vars.all (Tryz.prog.varReadable ·)) = true := by kernel_rfl
theorem x15 : (Tryz.f8.resultTypes.all (fun t => Tryz.prog.readableRec t && decide (t < Tryz.prog.types.size))) = true := by kernel_rfl
theorem x16 : ((Rows.valueNumbersRow.ifacesOut == Tryz.f8.resultTypes.toList.any (Tryz.prog.ifacesRec ·))) = true := by kernel_rfl
theorem x17 : ((Rows.valueNumbersRow.loopsOut == Tryz.f8.resultTypes.toList.any (Tryz.prog.loopsFrom ·))) = true := by kernel_rfl
theorem x18 : ((Rows.valueNumbersRow.plainKeys == Tryz.prog.plainKeys)) = true := KP.plainKs
theorem x19 : (Rows.valueNumbersRow.shortTexts.isNone) = true := by kernel_rfl
theorem x20 : ((Rows.valueNumbersRow.lifted == Tryz.prog.liftsFinal)) = true := KP.lifts
theorem x21 : ((Tryz.prog.make == some Rows.valueNumbersRow.make)) = true := KP.makes
theorem x22 : ((Rows.valueNumbersRow.kinds == (if Rows.valueNumbersRow.domain.isEmpty then [] else Tryz.f8.params.toList.map fun t => match Tryz.prog.underlying t with | some (.int k) => some k | _ => none))) = true := by kernel_rfl
theorem x23 : ((Rows.valueNumbersRow.pinned == Rows.valueNumbersRow.pinnedBy)) = true := by kernel_rfl
theorem x24 : ((Rows.valueNumbersRow.veiled == (Tryz.f8.params.toList ++ Rows.valueNumbersSpec.plain.varTypes Tryz.prog ++ Tryz.f8.resultTypes.toList).any (Tryz.prog.veiledRec ·))) = true := by kernel_rfl
theorem x25 : (Rows.valueNumbersRow.veiledFits Tryz.prog Tryz.f8.params.toList (Tryz.f8.params.toList ++ Rows.valueNumbersSpec.plain.varTypes Tryz.prog ++ Tryz.f8.resultTypes.toList)) = true := by kernel_rfl
theorem named : Tryz.pinned.checked.prog.funcNamed "dumbwaiter/dumblaw1.ValueNumbers" = some 8 := by kernel_rfl
theorem inst : Tryz.f8.isInstance Tryz.pinned.checked.prog Rows.valueNumbersRow.origin Rows.valueNumbersRow.targs := of_decide_eq_true (by kernel_rfl)
theorem wrap : Tryz.f8.isWrapper Tryz.pinned.checked.prog Rows.valueNumbersRow.wrapper Rows.valueNumbersRow.mainSum := by unfold Func.isWrapper; first | (rw [if_pos (by decide +kernel)]; kernel_rfl) | (rw [if_neg (by decide +kernel)]; exact ⟨rfl, rfl⟩)
theorem byText : Rows.valueNumbersRow.wfByText (OpenSpec.ofChange Rows.valueNumbersSpec) = true := by kernel_rfl
theorem goes : false = Rows.valueNumbersRow.goesBy Tryz.pinned.checked.prog := by kernel_rfl
theorem alone (j t : Nat) (ht : Tryz.f8.params[j]? = some t) : Tryz.pinned.checked.prog.wantsStandIn t = false := by
  rw [Tryz.params8] at ht
  have hm : t ∈ [23, 23] := by simpa using Array.mem_of_getElem? ht
  have hall : ([23, 23].all fun u => !Tryz.pinned.checked.prog.wantsStandIn u) = true := by kernel_rfl
  simpa using List.all_eq_true.1 hall t hm
end KvalueNumbers
end Go.Proofs.YtabojeleomfgnaaGreatDoor
