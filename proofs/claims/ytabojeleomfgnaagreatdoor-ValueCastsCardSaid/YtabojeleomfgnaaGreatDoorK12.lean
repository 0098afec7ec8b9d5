/- ValueCasts: the closed facts of its row and of its card. -/
import Derived.Test.YtabojeleomfgnaaGreatDoorKP
import Derived.Test.YtabojeleomfgnaaGreatDoorCards
namespace Go.Proofs.YtabojeleomfgnaaGreatDoor
open Go
namespace KvalueCasts
theorem x0 : (Rows.valueCastsRow.wf (OpenSpec.ofChange Rows.valueCastsSpec)) = true := by kernel_rfl
theorem x1 : (Tryz.f12.params.all (Tryz.prog.readableRec ·)) = true := by kernel_rfl
theorem x2 : (namedTie Tryz.prog Rows.valueCastsRow.named Rows.valueCastsSpec.vars) = true := by kernel_rfl
theorem x3 : ((Rows.valueCastsRow.stops == [])) = true := by kernel_rfl
theorem x4 : ((Rows.valueCastsRow.knobs == [])) = true := by kernel_rfl
theorem x5 : ((Rows.valueCastsRow.inPlace == Tryz.prog.inPlace 12)) = true := by kernel_rfl
theorem x6 : ((Rows.valueCastsRow.unfollowed == Tryz.prog.unfollowed 12)) = true := by kernel_rfl
theorem x7 : ((Rows.valueCastsRow.recurses == Tryz.prog.recurses 12)) = true := by kernel_rfl
theorem x8 : ((Rows.valueCastsRow.named == Tryz.prog.varsNamed 12)) = true := by kernel_rfl
theorem x9 : ((Rows.valueCastsRow.maps == (Tryz.f12.params.toList ++ Rows.valueCastsSpec.plain.varTypes Tryz.prog).any (Tryz.prog.mapsRec ·))) = true := by kernel_rfl
theorem x10 : ((Rows.valueCastsRow.ifaces == (Tryz.f12.params.toList ++ Rows.valueCastsSpec.plain.varTypes Tryz.prog).any (Tryz.prog.ifacesRec ·))) = true := by kernel_rfl
theorem x11 : ((Rows.valueCastsRow.mapsOut == Tryz.prog.mapsAmong Tryz.f12.resultTypes.toList)) = true := by kernel_rfl
theorem x12 : ((Rows.valueCastsRow.loops == (Tryz.f12.params.toList ++ Rows.valueCastsSpec.plain.varTypes Tryz.prog).any (Tryz.prog.loopsFrom ·))) = true := by kernel_rfl
theorem x13 : ((Rows.valueCastsRow.wideKeys == (Tryz.f12.params.toList ++ Rows.valueCastsSpec.plain.varTypes Tryz.prog ++ Tryz.f12.resultTypes.toList).any (Tryz.prog.wideKeysFrom ·))) = true := by kernel_rfl
theorem x14 : (Rows.valueCastsSpec.vars.all (Tryz.prog.varReadable ·)) = true := by kernel_rfl
theorem x15 : (Tryz.f12.resultTypes.all (fun t => Tryz.prog.readableRec t && decide (t < Tryz.prog.types.size))) = true := by kernel_rfl
theorem x16 : ((Rows.valueCastsRow.ifacesOut == Tryz.f12.resultTypes.toList.any (Tryz.prog.ifacesRec ·))) = true := by kernel_rfl
theorem x17 : ((Rows.valueCastsRow.loopsOut == Tryz.f12.resultTypes.toList.any (Tryz.prog.loopsFrom ·))) = true := by kernel_rfl
theorem x18 : ((Rows.valueCastsRow.plainKeys == Tryz.prog.plainKeys)) = true := KP.plainKs
theorem x19 : (Rows.valueCastsRow.shortTexts.isNone) = true := by kernel_rfl
theorem x20 : ((Rows.valueCastsRow.lifted == Tryz.prog.liftsFinal)) = true := KP.lifts
theorem x21 : ((Tryz.prog.make == some Rows.valueCastsRow.make)) = true := KP.makes
theorem x22 : ((Rows.valueCastsRow.kinds == (if Rows.valueCastsRow.domain.isEmpty then [] else Tryz.f12.params.toList.map fun t => match Tryz.prog.underlying t with | some (.int k) => some k | _ => none))) = true := by kernel_rfl
theorem x23 : ((Rows.valueCastsRow.pinned == Rows.valueCastsRow.pinnedBy)) = true := by kernel_rfl
theorem x24 : ((Rows.valueCastsRow.veiled == (Tryz.f12.params.toList ++ Rows.valueCastsSpec.plain.varTypes Tryz.prog ++ Tryz.f12.resultTypes.toList).any (Tryz.prog.veiledRec ·))) = true := by kernel_rfl
theorem x25 : (Rows.valueCastsRow.veiledFits Tryz.prog Tryz.f12.params.toList (Tryz.f12.params.toList ++ Rows.valueCastsSpec.plain.varTypes Tryz.prog ++ Tryz.f12.resultTypes.toList)) = true := by kernel_rfl
theorem named : Tryz.pinned.checked.prog.funcNamed "dumbwaiter/dumblaw1.ValueCasts" = some 12 := by kernel_rfl
theorem inst : Tryz.f12.isInstance Tryz.pinned.checked.prog Rows.valueCastsRow.origin Rows.valueCastsRow.targs := of_decide_eq_true (by kernel_rfl)
theorem wrap : Tryz.f12.isWrapper Tryz.pinned.checked.prog Rows.valueCastsRow.wrapper Rows.valueCastsRow.mainSum := by unfold Func.isWrapper; first | (rw [if_pos (by decide +kernel)]; kernel_rfl) | (rw [if_neg (by decide +kernel)]; exact ⟨rfl, rfl⟩)
theorem byText : Rows.valueCastsRow.wfByText (OpenSpec.ofChange Rows.valueCastsSpec) = true := by kernel_rfl
theorem goes : false = Rows.valueCastsRow.goesBy Tryz.pinned.checked.prog := by kernel_rfl
theorem alone (j t : Nat) (ht : Tryz.f12.params[j]? = some t) : Tryz.pinned.checked.prog.wantsStandIn t = false := by
  rw [Tryz.params12] at ht
  have hm : t ∈ [23, 3] := by simpa using Array.mem_of_getElem? ht
  have hall : ([23, 3].all fun u => !Tryz.pinned.checked.prog.wantsStandIn u) = true := by kernel_rfl
  simpa using List.all_eq_true.1 hall t hm
end KvalueCasts
end Go.Proofs.YtabojeleomfgnaaGreatDoor
