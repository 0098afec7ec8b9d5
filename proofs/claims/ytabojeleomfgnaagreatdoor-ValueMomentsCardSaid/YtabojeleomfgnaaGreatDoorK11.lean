/- ValueMoments: the closed facts of its row and of its card. -/
import Derived.Test.YtabojeleomfgnaaGreatDoorKP
import Derived.Test.YtabojeleomfgnaaGreatDoorCards
namespace Go.Proofs.YtabojeleomfgnaaGreatDoor
open Go
namespace KvalueMoments
theorem x0 : (Rows.valueMomentsRow.wf (OpenSpec.ofChange Rows.valueMomentsSpec)) = true := by kernel_rfl
theorem x1 : (Tryz.f11.params.all (Tryz.prog.readableRec ·)) = true := by kernel_rfl
theorem x2 : (namedTie Tryz.prog Rows.valueMomentsRow.named Rows.valueMomentsSpec.vars) = true := by kernel_rfl
theorem x3 : ((Rows.valueMomentsRow.stops == [])) = true := by kernel_rfl
theorem x4 : ((Rows.valueMomentsRow.knobs == [])) = true := by kernel_rfl
theorem x5 : ((Rows.valueMomentsRow.inPlace == Tryz.prog.inPlace 11)) = true := by kernel_rfl
theorem x6 : ((Rows.valueMomentsRow.unfollowed == Tryz.prog.unfollowed 11)) = true := by kernel_rfl
theorem x7 : ((Rows.valueMomentsRow.recurses == Tryz.prog.recurses 11)) = true := by kernel_rfl
theorem x8 : ((Rows.valueMomentsRow.named == Tryz.prog.varsNamed 11)) = true := by kernel_rfl
theorem x9 : ((Rows.valueMomentsRow.maps == (Tryz.f11.params.toList ++ Rows.valueMomentsSpec.plain.varTypes Tryz.prog).any (Tryz.prog.mapsRec ·))) = true := by kernel_rfl
theorem x10 : ((Rows.valueMomentsRow.ifaces == (Tryz.f11.params.toList ++ Rows.valueMomentsSpec.plain.varTypes Tryz.prog).any (Tryz.prog.ifacesRec ·))) = true := by kernel_rfl
theorem x11 : ((Rows.valueMomentsRow.mapsOut == Tryz.prog.mapsAmong Tryz.f11.resultTypes.toList)) = true := by kernel_rfl
theorem x12 : ((Rows.valueMomentsRow.loops == (Tryz.f11.params.toList ++ Rows.valueMomentsSpec.plain.varTypes Tryz.prog).any (Tryz.prog.loopsFrom ·))) = true := by kernel_rfl
theorem x13 : ((Rows.valueMomentsRow.wideKeys == (Tryz.f11.params.toList ++ Rows.valueMomentsSpec.plain.varTypes Tryz.prog ++ Tryz.f11.resultTypes.toList).any (Tryz.prog.wideKeysFrom ·))) = true := by kernel_rfl
theorem x14 : (Rows.valueMomentsSpec.vars.all (Tryz.prog.varReadable ·)) = true := by kernel_rfl
theorem x15 : (Tryz.f11.resultTypes.all (fun t => Tryz.prog.readableRec t && decide (t < Tryz.prog.types.size))) = true := by kernel_rfl
theorem x16 : ((Rows.valueMomentsRow.ifacesOut == Tryz.f11.resultTypes.toList.any (Tryz.prog.ifacesRec ·))) = true := by kernel_rfl
theorem x17 : ((Rows.valueMomentsRow.loopsOut == Tryz.f11.resultTypes.toList.any (Tryz.prog.loopsFrom ·))) = true := by kernel_rfl
theorem x18 : ((Rows.valueMomentsRow.plainKeys == Tryz.prog.plainKeys)) = true := KP.plainKs
theorem x19 : (Rows.valueMomentsRow.shortTexts.isNone) = true := by kernel_rfl
theorem x20 : ((Rows.valueMomentsRow.lifted == Tryz.prog.liftsFinal)) = true := KP.lifts
theorem x21 : ((Tryz.prog.make == some Rows.valueMomentsRow.make)) = true := KP.makes
theorem x22 : ((Rows.valueMomentsRow.kinds == (if Rows.valueMomentsRow.domain.isEmpty then [] else Tryz.f11.params.toList.map fun t => match Tryz.prog.underlying t with | some (.int k) => some k | _ => none))) = true := by kernel_rfl
theorem x23 : ((Rows.valueMomentsRow.pinned == Rows.valueMomentsRow.pinnedBy)) = true := by kernel_rfl
theorem x24 : ((Rows.valueMomentsRow.veiled == (Tryz.f11.params.toList ++ Rows.valueMomentsSpec.plain.varTypes Tryz.prog ++ Tryz.f11.resultTypes.toList).any (Tryz.prog.veiledRec ·))) = true := by kernel_rfl
theorem x25 : (Rows.valueMomentsRow.veiledFits Tryz.prog Tryz.f11.params.toList (Tryz.f11.params.toList ++ Rows.valueMomentsSpec.plain.varTypes Tryz.prog ++ Tryz.f11.resultTypes.toList)) = true := by kernel_rfl
theorem named : Tryz.pinned.checked.prog.funcNamed "dumbwaiter/dumblaw1.ValueMoments" = some 11 := by kernel_rfl
theorem inst : Tryz.f11.isInstance Tryz.pinned.checked.prog Rows.valueMomentsRow.origin Rows.valueMomentsRow.targs := of_decide_eq_true (by kernel_rfl)
theorem wrap : Tryz.f11.isWrapper Tryz.pinned.checked.prog Rows.valueMomentsRow.wrapper Rows.valueMomentsRow.mainSum := by unfold Func.isWrapper; first | (rw [if_pos (by decide +kernel)]; kernel_rfl) | (rw [if_neg (by decide +kernel)]; exact ⟨rfl, rfl⟩)
theorem byText : Rows.valueMomentsRow.wfByText (OpenSpec.ofChange Rows.valueMomentsSpec) = true := by kernel_rfl
theorem goes : false = Rows.valueMomentsRow.goesBy Tryz.pinned.checked.prog := by kernel_rfl
theorem alone (j t : Nat) (ht : Tryz.f11.params[j]? = some t) : Tryz.pinned.checked.prog.wantsStandIn t = false := by
  rw [Tryz.params11] at ht
  have hm : t ∈ [51, 23, 23] := by simpa using Array.mem_of_getElem? ht
  have hall : ([51, 23, 23].all fun u => !Tryz.pinned.checked.prog.wantsStandIn u) = true := by kernel_rfl
  simpa using List.all_eq_true.1 hall t hm
end KvalueMoments
end Go.Proofs.YtabojeleomfgnaaGreatDoor
