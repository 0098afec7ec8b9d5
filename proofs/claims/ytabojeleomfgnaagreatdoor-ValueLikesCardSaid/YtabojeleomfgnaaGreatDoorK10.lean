/- ValueLikes: the closed facts of its row and of its card. -/
import Derived.Test.YtabojeleomfgnaaGreatDoorKP
import Derived.Test.YtabojeleomfgnaaGreatDoorCards
namespace Go.Proofs.YtabojeleomfgnaaGreatDoor
open Go
namespace KvalueLikes
theorem x0 : (Rows.valueLikesRow.wf (OpenSpec.ofChange Rows.valueLikesSpec)) = true := by kernel_rfl
theorem x1 : (Tryz.f10.params.all (Tryz.prog.readableRec ·)) = true := by kernel_rfl
theorem x2 : (namedTie Tryz.prog Rows.valueLikesRow.named Rows.valueLikesSpec.vars) = true := by kernel_rfl
theorem x3 : ((Rows.valueLikesRow.stops == [])) = true := by kernel_rfl
theorem x4 : ((Rows.valueLikesRow.knobs == [])) = true := by kernel_rfl
theorem x5 : ((Rows.valueLikesRow.inPlace == Tryz.prog.inPlace 10)) = true := by kernel_rfl
theorem x6 : ((Rows.valueLikesRow.unfollowed == Tryz.prog.unfollowed 10)) = true := by kernel_rfl
theorem x7 : ((Rows.valueLikesRow.recurses == Tryz.prog.recurses 10)) = true := by kernel_rfl
theorem x8 : ((Rows.valueLikesRow.named == Tryz.prog.varsNamed 10)) = true := by kernel_rfl
theorem x9 : ((Rows.valueLikesRow.maps == (Tryz.f10.params.toList ++ Rows.valueLikesSpec.plain.varTypes Tryz.prog).any (Tryz.prog.mapsRec ·))) = true := by kernel_rfl
theorem x10 : ((Rows.valueLikesRow.ifaces == (Tryz.f10.params.toList ++ Rows.valueLikesSpec.plain.varTypes Tryz.prog).any (Tryz.prog.ifacesRec ·))) = true := by kernel_rfl
theorem x11 : ((Rows.valueLikesRow.mapsOut == Tryz.prog.mapsAmong Tryz.f10.resultTypes.toList)) = true := by kernel_rfl
theorem x12 : ((Rows.valueLikesRow.loops == (Tryz.f10.params.toList ++ Rows.valueLikesSpec.plain.varTypes Tryz.prog).any (Tryz.prog.loopsFrom ·))) = true := by kernel_rfl
theorem x13 : ((Rows.valueLikesRow.wideKeys == (Tryz.f10.params.toList ++ Rows.valueLikesSpec.plain.varTypes Tryz.prog ++ Tryz.f10.resultTypes.toList).any (Tryz.prog.wideKeysFrom ·))) = true := by kernel_rfl
theorem x14 : (Rows.valueLikesSpec.vars.all (Tryz.prog.varReadable ·)) = true := by kernel_rfl
theorem x15 : (Tryz.f10.resultTypes.all (fun t => Tryz.prog.readableRec t && decide (t < Tryz.prog.types.size))) = true := by kernel_rfl
theorem x16 : ((Rows.valueLikesRow.ifacesOut == Tryz.f10.resultTypes.toList.any (Tryz.prog.ifacesRec ·))) = true := by kernel_rfl
theorem x17 : ((Rows.valueLikesRow.loopsOut == Tryz.f10.resultTypes.toList.any (Tryz.prog.loopsFrom ·))) = true := by kernel_rfl
theorem x18 : ((Rows.valueLikesRow.plainKeys == Tryz.prog.plainKeys)) = true := KP.plainKs
theorem x19 : (Rows.valueLikesRow.shortTexts.isNone) = true := by kernel_rfl
theorem x20 : ((Rows.valueLikesRow.lifted == Tryz.prog.liftsFinal)) = true := KP.lifts
theorem x21 : ((Tryz.prog.make == some Rows.valueLikesRow.make)) = true := KP.makes
theorem x22 : ((Rows.valueLikesRow.kinds == (if Rows.valueLikesRow.domain.isEmpty then [] else Tryz.f10.params.toList.map fun t => match Tryz.prog.underlying t with | some (.int k) => some k | _ => none))) = true := by kernel_rfl
theorem x23 : ((Rows.valueLikesRow.pinned == Rows.valueLikesRow.pinnedBy)) = true := by kernel_rfl
theorem x24 : ((Rows.valueLikesRow.veiled == (Tryz.f10.params.toList ++ Rows.valueLikesSpec.plain.varTypes Tryz.prog ++ Tryz.f10.resultTypes.toList).any (Tryz.prog.veiledRec ·))) = true := by kernel_rfl
theorem x25 : (Rows.valueLikesRow.veiledFits Tryz.prog Tryz.f10.params.toList (Tryz.f10.params.toList ++ Rows.valueLikesSpec.plain.varTypes Tryz.prog ++ Tryz.f10.resultTypes.toList)) = true := by kernel_rfl
theorem named : Tryz.pinned.checked.prog.funcNamed "dumbwaiter/dumblaw1.ValueLikes" = some 10 := by kernel_rfl
theorem inst : Tryz.f10.isInstance Tryz.pinned.checked.prog Rows.valueLikesRow.origin Rows.valueLikesRow.targs := of_decide_eq_true (by kernel_rfl)
theorem wrap : Tryz.f10.isWrapper Tryz.pinned.checked.prog Rows.valueLikesRow.wrapper Rows.valueLikesRow.mainSum := by unfold Func.isWrapper; first | (rw [if_pos (by decide +kernel)]; kernel_rfl) | (rw [if_neg (by decide +kernel)]; exact ⟨rfl, rfl⟩)
theorem byText : Rows.valueLikesRow.wfByText (OpenSpec.ofChange Rows.valueLikesSpec) = true := by kernel_rfl
theorem goes : false = Rows.valueLikesRow.goesBy Tryz.pinned.checked.prog := by kernel_rfl
theorem alone (j t : Nat) (ht : Tryz.f10.params[j]? = some t) : Tryz.pinned.checked.prog.wantsStandIn t = false := by
  rw [Tryz.params10] at ht
  have hm : t ∈ [51, 23, 23] := by simpa using Array.mem_of_getElem? ht
  have hall : ([51, 23, 23].all fun u => !Tryz.pinned.checked.prog.wantsStandIn u) = true := by kernel_rfl
  simpa using List.all_eq_true.1 hall t hm
end KvalueLikes
end Go.Proofs.YtabojeleomfgnaaGreatDoor
