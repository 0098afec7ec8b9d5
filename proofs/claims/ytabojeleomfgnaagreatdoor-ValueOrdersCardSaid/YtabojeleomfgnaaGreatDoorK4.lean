/- ValueOrders: the closed facts of its row and of its card. -/
import Derived.Test.YtabojeleomfgnaaGreatDoorKP
import Derived.Test.YtabojeleomfgnaaGreatDoorCards
namespace Go.Proofs.YtabojeleomfgnaaGreatDoor
open Go
namespace KvalueOrders
theorem x0 : (Rows.valueOrdersRow.wf (OpenSpec.ofChange Rows.valueOrdersSpec)) = true := by kernel_rfl
theorem x1 : (Tryz.f4.params.all (Tryz.prog.readableRec ·)) = true := by kernel_rfl
theorem x2 : (namedTie Tryz.prog Rows.valueOrdersRow.named Rows.valueOrdersSpec.vars) = true := by kernel_rfl
theorem x3 : ((Rows.valueOrdersRow.stops == [])) = true := by kernel_rfl
theorem x4 : ((Rows.valueOrdersRow.knobs == [])) = true := by kernel_rfl
theorem x5 : ((Rows.valueOrdersRow.inPlace == Tryz.prog.inPlace 4)) = true := by kernel_rfl
theorem x6 : ((Rows.valueOrdersRow.unfollowed == Tryz.prog.unfollowed 4)) = true := by kernel_rfl
theorem x7 : ((Rows.valueOrdersRow.recurses == Tryz.prog.recurses 4)) = true := by kernel_rfl
theorem x8 : ((Rows.valueOrdersRow.named == Tryz.prog.varsNamed 4)) = true := by kernel_rfl
theorem x9 : ((Rows.valueOrdersRow.maps == (Tryz.f4.params.toList ++ Rows.valueOrdersSpec.plain.varTypes Tryz.prog).any (Tryz.prog.mapsRec ·))) = true := by kernel_rfl
theorem x10 : ((Rows.valueOrdersRow.ifaces == (Tryz.f4.params.toList ++ Rows.valueOrdersSpec.plain.varTypes Tryz.prog).any (Tryz.prog.ifacesRec ·))) = true := by kernel_rfl
theorem x11 : ((Rows.valueOrdersRow.mapsOut == Tryz.prog.mapsAmong Tryz.f4.resultTypes.toList)) = true := by kernel_rfl
theorem x12 : ((Rows.valueOrdersRow.loops == (Tryz.f4.params.toList ++ Rows.valueOrdersSpec.plain.varTypes Tryz.prog).any (Tryz.prog.loopsFrom ·))) = true := by kernel_rfl
theorem x13 : ((Rows.valueOrdersRow.wideKeys == (Tryz.f4.params.toList ++ Rows.valueOrdersSpec.plain.varTypes Tryz.prog ++ Tryz.f4.resultTypes.toList).any (Tryz.prog.wideKeysFrom ·))) = true := by kernel_rfl
theorem x14 : (Rows.valueOrdersSpec.vars.all (Tryz.prog.varReadable ·)) = true := by kernel_rfl
theorem x15 : (Tryz.f4.resultTypes.all (fun t => Tryz.prog.readableRec t && decide (t < Tryz.prog.types.size))) = true := by kernel_rfl
theorem x16 : ((Rows.valueOrdersRow.ifacesOut == Tryz.f4.resultTypes.toList.any (Tryz.prog.ifacesRec ·))) = true := by kernel_rfl
theorem x17 : ((Rows.valueOrdersRow.loopsOut == Tryz.f4.resultTypes.toList.any (Tryz.prog.loopsFrom ·))) = true := by kernel_rfl
theorem x18 : ((Rows.valueOrdersRow.plainKeys == Tryz.prog.plainKeys)) = true := KP.plainKs
theorem x19 : (Rows.valueOrdersRow.shortTexts.isNone) = true := by kernel_rfl
theorem x20 : ((Rows.valueOrdersRow.lifted == Tryz.prog.liftsFinal)) = true := KP.lifts
theorem x21 : ((Tryz.prog.make == some Rows.valueOrdersRow.make)) = true := KP.makes
theorem x22 : ((Rows.valueOrdersRow.kinds == (if Rows.valueOrdersRow.domain.isEmpty then [] else Tryz.f4.params.toList.map fun t => match Tryz.prog.underlying t with | some (.int k) => some k | _ => none))) = true := by kernel_rfl
theorem x23 : ((Rows.valueOrdersRow.pinned == Rows.valueOrdersRow.pinnedBy)) = true := by kernel_rfl
theorem x24 : ((Rows.valueOrdersRow.veiled == (Tryz.f4.params.toList ++ Rows.valueOrdersSpec.plain.varTypes Tryz.prog ++ Tryz.f4.resultTypes.toList).any (Tryz.prog.veiledRec ·))) = true := by kernel_rfl
theorem x25 : (Rows.valueOrdersRow.veiledFits Tryz.prog Tryz.f4.params.toList (Tryz.f4.params.toList ++ Rows.valueOrdersSpec.plain.varTypes Tryz.prog ++ Tryz.f4.resultTypes.toList)) = true := by kernel_rfl
theorem named : Tryz.pinned.checked.prog.funcNamed "dumbwaiter/dumblaw1.ValueOrders" = some 4 := by kernel_rfl
theorem inst : Tryz.f4.isInstance Tryz.pinned.checked.prog Rows.valueOrdersRow.origin Rows.valueOrdersRow.targs := of_decide_eq_true (by kernel_rfl)
theorem wrap : Tryz.f4.isWrapper Tryz.pinned.checked.prog Rows.valueOrdersRow.wrapper Rows.valueOrdersRow.mainSum := by unfold Func.isWrapper; first | (rw [if_pos (by decide +kernel)]; kernel_rfl) | (rw [if_neg (by decide +kernel)]; exact ⟨rfl, rfl⟩)
theorem byText : Rows.valueOrdersRow.wfByText (OpenSpec.ofChange Rows.valueOrdersSpec) = true := by kernel_rfl
theorem goes : false = Rows.valueOrdersRow.goesBy Tryz.pinned.checked.prog := by kernel_rfl
theorem alone (j t : Nat) (ht : Tryz.f4.params[j]? = some t) : Tryz.pinned.checked.prog.wantsStandIn t = false := by
  rw [Tryz.params4] at ht
  have hm : t ∈ [28, 28] := by simpa using Array.mem_of_getElem? ht
  have hall : ([28, 28].all fun u => !Tryz.pinned.checked.prog.wantsStandIn u) = true := by kernel_rfl
  simpa using List.all_eq_true.1 hall t hm
end KvalueOrders
end Go.Proofs.YtabojeleomfgnaaGreatDoor
