/- ValueWords: the closed facts of its row and of its card. -/
import Derived.Test.YtabojeleomfgnaaGreatDoorKP
import Derived.Test.YtabojeleomfgnaaGreatDoorCards
namespace Go.Proofs.YtabojeleomfgnaaGreatDoor
open Go
namespace KvalueWords
theorem x0 : (Rows.valueWordsRow.wf (OpenSpec.ofChange Rows.valueWordsSpec)) = true := by kernel_rfl
theorem x1 : (Tryz.f9.params.all (Tryz.prog.readableRec ·)) = true := by kernel_rfl
theorem x2 : (namedTie Tryz.prog Rows.valueWordsRow.named Rows.valueWordsSpec.vars) = true := by kernel_rfl
theorem x3 : ((Rows.valueWordsRow.stops == [])) = true := by kernel_rfl
theorem x4 : ((Rows.valueWordsRow.knobs == [])) = true := by kernel_rfl
theorem x5 : ((Rows.valueWordsRow.inPlace == Tryz.prog.inPlace 9)) = true := by kernel_rfl
theorem x6 : ((Rows.valueWordsRow.unfollowed == Tryz.prog.unfollowed 9)) = true := by kernel_rfl
theorem x7 : ((Rows.valueWordsRow.recurses == Tryz.prog.recurses 9)) = true := by kernel_rfl
theorem x8 : ((Rows.valueWordsRow.named == Tryz.prog.varsNamed 9)) = true := by kernel_rfl
theorem x9 : ((Rows.valueWordsRow.maps == (Tryz.f9.params.toList ++ Rows.valueWordsSpec.plain.varTypes Tryz.prog).any (Tryz.prog.mapsRec ·))) = true := by kernel_rfl
theorem x10 : ((Rows.valueWordsRow.ifaces == (Tryz.f9.params.toList ++ Rows.valueWordsSpec.plain.varTypes Tryz.prog).any (Tryz.prog.ifacesRec ·))) = true := by kernel_rfl
theorem x11 : ((Rows.valueWordsRow.mapsOut == Tryz.prog.mapsAmong Tryz.f9.resultTypes.toList)) = true := by kernel_rfl
theorem x12 : ((Rows.valueWordsRow.loops == (Tryz.f9.params.toList ++ Rows.valueWordsSpec.plain.varTypes Tryz.prog).any (Tryz.prog.loopsFrom ·))) = true := by kernel_rfl
theorem x13 : ((Rows.valueWordsRow.wideKeys == (Tryz.f9.params.toList ++ Rows.valueWordsSpec.plain.varTypes Tryz.prog ++ Tryz.f9.resultTypes.toList).any (Tryz.prog.wideKeysFrom ·))) = true := by kernel_rfl
theorem x14 : (Rows.valueWordsSpec.vars.all (Tryz.prog.varReadable ·)) = true := by kernel_rfl
theorem x15 : (Tryz.f9.resultTypes.all (fun t => Tryz.prog.readableRec t && decide (t < Tryz.prog.types.size))) = true := by kernel_rfl
theorem x16 : ((Rows.valueWordsRow.ifacesOut == Tryz.f9.resultTypes.toList.any (Tryz.prog.ifacesRec ·))) = true := by kernel_rfl
theorem x17 : ((Rows.valueWordsRow.loopsOut == Tryz.f9.resultTypes.toList.any (Tryz.prog.loopsFrom ·))) = true := by kernel_rfl
theorem x18 : ((Rows.valueWordsRow.plainKeys == Tryz.prog.plainKeys)) = true := KP.plainKs
theorem x19 : (Rows.valueWordsRow.shortTexts.isNone) = true := by kernel_rfl
theorem x20 : ((Rows.valueWordsRow.lifted == Tryz.prog.liftsFinal)) = true := KP.lifts
theorem x21 : ((Tryz.prog.make == some Rows.valueWordsRow.make)) = true := KP.makes
theorem x22 : ((Rows.valueWordsRow.kinds == (if Rows.valueWordsRow.domain.isEmpty then [] else Tryz.f9.params.toList.map fun t => match Tryz.prog.underlying t with | some (.int k) => some k | _ => none))) = true := by kernel_rfl
theorem x23 : ((Rows.valueWordsRow.pinned == Rows.valueWordsRow.pinnedBy)) = true := by kernel_rfl
theorem x24 : ((Rows.valueWordsRow.veiled == (Tryz.f9.params.toList ++ Rows.valueWordsSpec.plain.varTypes Tryz.prog ++ Tryz.f9.resultTypes.toList).any (Tryz.prog.veiledRec ·))) = true := by kernel_rfl
theorem x25 : (Rows.valueWordsRow.veiledFits Tryz.prog Tryz.f9.params.toList (Tryz.f9.params.toList ++ Rows.valueWordsSpec.plain.varTypes Tryz.prog ++ Tryz.f9.resultTypes.toList)) = true := by kernel_rfl
theorem named : Tryz.pinned.checked.prog.funcNamed "dumbwaiter/dumblaw1.ValueWords" = some 9 := by kernel_rfl
theorem inst : Tryz.f9.isInstance Tryz.pinned.checked.prog Rows.valueWordsRow.origin Rows.valueWordsRow.targs := of_decide_eq_true (by kernel_rfl)
theorem wrap : Tryz.f9.isWrapper Tryz.pinned.checked.prog Rows.valueWordsRow.wrapper Rows.valueWordsRow.mainSum := by unfold Func.isWrapper; first | (rw [if_pos (by decide +kernel)]; kernel_rfl) | (rw [if_neg (by decide +kernel)]; exact ⟨rfl, rfl⟩)
theorem byText : Rows.valueWordsRow.wfByText (OpenSpec.ofChange Rows.valueWordsSpec) = true := by kernel_rfl
theorem goes : false = Rows.valueWordsRow.goesBy Tryz.pinned.checked.prog := by kernel_rfl
theorem alone (j t : Nat) (ht : Tryz.f9.params[j]? = some t) : Tryz.pinned.checked.prog.wantsStandIn t = false := by
  rw [Tryz.params9] at ht
  have hm : t ∈ [23, 23, 23] := by simpa using Array.mem_of_getElem? ht
  have hall : ([23, 23, 23].all fun u => !Tryz.pinned.checked.prog.wantsStandIn u) = true := by kernel_rfl
  simpa using List.all_eq_true.1 hall t hm
end KvalueWords
end Go.Proofs.YtabojeleomfgnaaGreatDoor
