/- ValueTexts, narrowed: the closed facts of its row and of its card. -/
import Derived.Test.YtabojeleomfgnaaGreatDoorKP
import Derived.Test.YtabojeleomfgnaaGreatDoorCards
namespace Go.Proofs.YtabojeleomfgnaaGreatDoor
open Go
namespace KvalueTextsUpto
theorem x0 : (Rows.valueTextsUptoRow.wf (OpenSpec.ofChange (Rows.OpenSpec.upto Rows.valueTextsSpec).bare)) = true := by kernel_rfl
theorem x1 : (Tryz.f6.params.all (Tryz.prog.readableRec ·)) = true := by kernel_rfl
theorem x2 : (namedTie Tryz.prog Rows.valueTextsUptoRow.named (Rows.OpenSpec.upto Rows.valueTextsSpec).bare.vars) = true := by kernel_rfl
theorem x3 : ((Rows.valueTextsUptoRow.stops == [])) = true := by kernel_rfl
theorem x4 : ((Rows.valueTextsUptoRow.knobs == [])) = true := by kernel_rfl
theorem x5 : ((Rows.valueTextsUptoRow.inPlace == Tryz.prog.inPlace 6)) = true := by kernel_rfl
theorem x6 : ((Rows.valueTextsUptoRow.unfollowed == Tryz.prog.unfollowed 6)) = true := by kernel_rfl
theorem x7 : ((Rows.valueTextsUptoRow.recurses == Tryz.prog.recurses 6)) = true := by kernel_rfl
theorem x8 : ((Rows.valueTextsUptoRow.named == Tryz.prog.varsNamed 6)) = true := by kernel_rfl
theorem x9 : ((Rows.valueTextsUptoRow.maps == (Tryz.f6.params.toList ++ (Rows.OpenSpec.upto Rows.valueTextsSpec).bare.plain.varTypes Tryz.prog).any (Tryz.prog.mapsRec ·))) = true := by kernel_rfl
theorem x10 : ((Rows.valueTextsUptoRow.ifaces == (Tryz.f6.params.toList ++ (Rows.OpenSpec.upto Rows.valueTextsSpec).bare.plain.varTypes Tryz.prog).any (Tryz.prog.ifacesRec ·))) = true := by kernel_rfl
theorem x11 : ((Rows.valueTextsUptoRow.mapsOut == Tryz.prog.mapsAmong Tryz.f6.resultTypes.toList)) = true := by kernel_rfl
theorem x12 : ((Rows.valueTextsUptoRow.loops == (Tryz.f6.params.toList ++ (Rows.OpenSpec.upto Rows.valueTextsSpec).bare.plain.varTypes Tryz.prog).any (Tryz.prog.loopsFrom ·))) = true := by kernel_rfl
theorem x13 : ((Rows.valueTextsUptoRow.wideKeys == (Tryz.f6.params.toList ++ (Rows.OpenSpec.upto Rows.valueTextsSpec).bare.plain.varTypes Tryz.prog ++ Tryz.f6.resultTypes.toList).any (Tryz.prog.wideKeysFrom ·))) = true := by kernel_rfl
theorem x14 : ((Rows.OpenSpec.upto Rows.valueTextsSpec).bare.vars.all (Tryz.prog.varReadable ·)) = true := by kernel_rfl
theorem x15 : (Tryz.f6.resultTypes.all (fun t => Tryz.prog.readableRec t && decide (t < Tryz.prog.types.size))) = true := by kernel_rfl
theorem x16 : ((Rows.valueTextsUptoRow.ifacesOut == Tryz.f6.resultTypes.toList.any (Tryz.prog.ifacesRec ·))) = true := by kernel_rfl
theorem x17 : ((Rows.valueTextsUptoRow.loopsOut == Tryz.f6.resultTypes.toList.any (Tryz.prog.loopsFrom ·))) = true := by kernel_rfl
theorem x18 : ((Rows.valueTextsUptoRow.plainKeys == Tryz.prog.plainKeys)) = true := KP.plainKs
theorem x19 : (Rows.valueTextsUptoRow.shortTexts.isNone) = true := by kernel_rfl
theorem x20 : ((Rows.valueTextsUptoRow.lifted == Tryz.prog.liftsFinal)) = true := KP.lifts
theorem x21 : ((Tryz.prog.make == some Rows.valueTextsUptoRow.make)) = true := KP.makes
theorem x22 : ((Rows.valueTextsUptoRow.kinds == (if Rows.valueTextsUptoRow.domain.isEmpty then [] else Tryz.f6.params.toList.map fun t => match Tryz.prog.underlying t with | some (.int k) => some k | _ => none))) = true := by kernel_rfl
theorem x23 : ((Rows.valueTextsUptoRow.pinned == Rows.valueTextsUptoRow.pinnedBy)) = true := by kernel_rfl
theorem x24 : ((Rows.valueTextsUptoRow.veiled == (Tryz.f6.params.toList ++ (Rows.OpenSpec.upto Rows.valueTextsSpec).bare.plain.varTypes Tryz.prog ++ Tryz.f6.resultTypes.toList).any (Tryz.prog.veiledRec ·))) = true := by kernel_rfl
theorem x25 : (Rows.valueTextsUptoRow.veiledFits Tryz.prog Tryz.f6.params.toList (Tryz.f6.params.toList ++ (Rows.OpenSpec.upto Rows.valueTextsSpec).bare.plain.varTypes Tryz.prog ++ Tryz.f6.resultTypes.toList)) = true := by kernel_rfl
theorem named : Tryz.pinned.checked.prog.funcNamed "dumbwaiter/dumblaw1.ValueTexts" = some 6 := by kernel_rfl
theorem inst : Tryz.f6.isInstance Tryz.pinned.checked.prog Rows.valueTextsUptoRow.origin Rows.valueTextsUptoRow.targs := of_decide_eq_true (by kernel_rfl)
theorem wrap : Tryz.f6.isWrapper Tryz.pinned.checked.prog Rows.valueTextsUptoRow.wrapper Rows.valueTextsUptoRow.mainSum := by unfold Func.isWrapper; first | (rw [if_pos (by decide +kernel)]; kernel_rfl) | (rw [if_neg (by decide +kernel)]; exact ⟨rfl, rfl⟩)
theorem byText : Rows.valueTextsUptoRow.wfByText (Rows.OpenSpec.upto Rows.valueTextsSpec) = true := by kernel_rfl
theorem goes : false = Rows.valueTextsUptoRow.goesBy Tryz.pinned.checked.prog := by kernel_rfl
theorem alone (j t : Nat) (ht : Tryz.f6.params[j]? = some t) : Tryz.pinned.checked.prog.wantsStandIn t = false := by
  rw [Tryz.params6] at ht
  have hm : t ∈ [23, 9] := by simpa using Array.mem_of_getElem? ht
  have hall : ([23, 9].all fun u => !Tryz.pinned.checked.prog.wantsStandIn u) = true := by kernel_rfl
  simpa using List.all_eq_true.1 hall t hm
set_option maxRecDepth 100000 in
theorem closed0 : joinedFacts Tryz.prog 6 Tryz.f6 (Rows.OpenSpec.upto Rows.valueTextsSpec).bare Rows.valueTextsUptoRow = true := by
  unfold joinedFacts
  exact (KP.and_t (KP.and_t (KP.and_t (KP.and_t (KP.and_t (KP.and_t (KP.and_t (KP.and_t (KP.and_t (KP.and_t (KP.and_t (KP.and_t (KP.and_t (KP.and_t (KP.and_t (KP.and_t (KP.and_t (KP.and_t (KP.and_t (KP.and_t (KP.and_t (KP.and_t (KP.and_t (KP.and_t (KP.and_t (KP.and_t (KP.and_t (KP.and_t (KP.and_t (KP.and_t (KP.and_t x0 KP.laidOut) KP.mapsRowed) x1) x2) x3) KP.noStops) x4) KP.noKnobs) x5) x6) x7) x8) x9) x10) x11) x12) x13) x14) x15) x16) x17) x18) x19) KP.heard) KP.enters) x20) x21) x22) x23) x24) x25)
theorem closed : joinedFacts Tryz.pinned.checked.prog 6 Tryz.f6 (Rows.OpenSpec.upto Rows.valueTextsSpec).bare Rows.valueTextsUptoRow = true := closed0
end KvalueTextsUpto
end Go.Proofs.YtabojeleomfgnaaGreatDoor
