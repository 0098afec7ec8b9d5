/- ValueLogic: the closed facts of its row and of its card. -/
import Derived.Test.YtabojeleomfgnaaGreatDoorKP
import Derived.Test.YtabojeleomfgnaaGreatDoorCards
namespace Go.Proofs.YtabojeleomfgnaaGreatDoor
open Go
namespace KvalueLogic
theorem x0 : (Rows.valueLogicRow.wf (OpenSpec.ofChange Rows.valueLogicSpec)) = true := by kernel_rfl
theorem x1 : (Tryz.f7.params.all (Tryz.prog.readableRec ·)) = true := by kernel_rfl
theorem x2 : (namedTie Tryz.prog Rows.valueLogicRow.named Rows.valueLogicSpec.vars) = true := by kernel_rfl
theorem x3 : ((Rows.valueLogicRow.stops == [])) = true := by kernel_rfl
theorem x4 : ((Rows.valueLogicRow.knobs == [])) = true := by kernel_rfl
theorem x5 : ((Rows.valueLogicRow.inPlace == Tryz.prog.inPlace 7)) = true := by kernel_rfl
theorem x6 : ((Rows.valueLogicRow.unfollowed == Tryz.prog.unfollowed 7)) = true := by kernel_rfl
theorem x7 : ((Rows.valueLogicRow.recurses == Tryz.prog.recurses 7)) = true := by kernel_rfl
theorem x8 : ((Rows.valueLogicRow.named == Tryz.prog.varsNamed 7)) = true := by kernel_rfl
theorem x9 : ((Rows.valueLogicRow.maps == (Tryz.f7.params.toList ++ Rows.valueLogicSpec.plain.varTypes Tryz.prog).any (Tryz.prog.mapsRec ·))) = true := by kernel_rfl
theorem x10 : ((Rows.valueLogicRow.ifaces == (Tryz.f7.params.toList ++ Rows.valueLogicSpec.plain.varTypes Tryz.prog).any (Tryz.prog.ifacesRec ·))) = true := by kernel_rfl
theorem x11 : ((Rows.valueLogicRow.mapsOut == Tryz.prog.mapsAmong Tryz.f7.resultTypes.toList)) = true := by kernel_rfl
theorem x12 : ((Rows.valueLogicRow.loops == (Tryz.f7.params.toList ++ Rows.valueLogicSpec.plain.varTypes Tryz.prog).any (Tryz.prog.loopsFrom ·))) = true := by kernel_rfl
theorem x13 : ((Rows.valueLogicRow.wideKeys == (Tryz.f7.params.toList ++ Rows.valueLogicSpec.plain.varTypes Tryz.prog ++ Tryz.f7.resultTypes.toList).any (Tryz.prog.wideKeysFrom ·))) = true := by kernel_rfl
theorem x14 : (Rows.valueLogicSpec.vars.all (Tryz.prog.varReadable ·)) = true := by kernel_rfl
theorem x15 : (Tryz.f7.resultTypes.all (fun t => Tryz.prog.readableRec t && decide (t < Tryz.prog.types.size))) = true := by kernel_rfl
theorem x16 : ((Rows.valueLogicRow.ifacesOut == Tryz.f7.resultTypes.toList.any (Tryz.prog.ifacesRec ·))) = true := by kernel_rfl
theorem x17 : ((Rows.valueLogicRow.loopsOut == Tryz.f7.resultTypes.toList.any (Tryz.prog.loopsFrom ·))) = true := by kernel_rfl
theorem x18 : ((Rows.valueLogicRow.plainKeys == Tryz.prog.plainKeys)) = true := KP.plainKs
theorem x19 : (Rows.valueLogicRow.shortTexts.isNone) = true := by kernel_rfl
theorem x20 : ((Rows.valueLogicRow.lifted == Tryz.prog.liftsFinal)) = true := KP.lifts
theorem x21 : ((Tryz.prog.make == some Rows.valueLogicRow.make)) = true := KP.makes
theorem x22 : ((Rows.valueLogicRow.kinds == (if Rows.valueLogicRow.domain.isEmpty then [] else Tryz.f7.params.toList.map fun t => match Tryz.prog.underlying t with | some (.int k) => some k | _ => none))) = true := by kernel_rfl
theorem x23 : ((Rows.valueLogicRow.pinned == Rows.valueLogicRow.pinnedBy)) = true := by kernel_rfl
theorem x24 : ((Rows.valueLogicRow.veiled == (Tryz.f7.params.toList ++ Rows.valueLogicSpec.plain.varTypes Tryz.prog ++ Tryz.f7.resultTypes.toList).any (Tryz.prog.veiledRec ·))) = true := by kernel_rfl
theorem x25 : (Rows.valueLogicRow.veiledFits Tryz.prog Tryz.f7.params.toList (Tryz.f7.params.toList ++ Rows.valueLogicSpec.plain.varTypes Tryz.prog ++ Tryz.f7.resultTypes.toList)) = true := by kernel_rfl
theorem named : Tryz.pinned.checked.prog.funcNamed "dumbwaiter/dumblaw1.ValueLogic" = some 7 := by kernel_rfl
theorem inst : Tryz.f7.isInstance Tryz.pinned.checked.prog Rows.valueLogicRow.origin Rows.valueLogicRow.targs := of_decide_eq_true (by kernel_rfl)
theorem wrap : Tryz.f7.isWrapper Tryz.pinned.checked.prog Rows.valueLogicRow.wrapper Rows.valueLogicRow.mainSum := by unfold Func.isWrapper; first | (rw [if_pos (by decide +kernel)]; kernel_rfl) | (rw [if_neg (by decide +kernel)]; exact ⟨rfl, rfl⟩)
theorem byText : Rows.valueLogicRow.wfByText (OpenSpec.ofChange Rows.valueLogicSpec) = true := by kernel_rfl
theorem goes : false = Rows.valueLogicRow.goesBy Tryz.pinned.checked.prog := by kernel_rfl
theorem alone (j t : Nat) (ht : Tryz.f7.params[j]? = some t) : Tryz.pinned.checked.prog.wantsStandIn t = false := by
  rw [Tryz.params7] at ht
  have hm : t ∈ [23, 23] := by simpa using Array.mem_of_getElem? ht
  have hall : ([23, 23].all fun u => !Tryz.pinned.checked.prog.wantsStandIn u) = true := by kernel_rfl
  simpa using List.all_eq_true.1 hall t hm
end KvalueLogic
end Go.Proofs.YtabojeleomfgnaaGreatDoor
