/- CacheTokens: the closed facts of the program and of its row. -/
import Derived.Test.YtbihfgcejlgffaaRows
import Derived.JoinedOf
import Derived.KernelRfl
namespace Go.Proofs.Ytbihfgcejlgffaa
open Go
namespace KP
theorem and_t {a b : Bool} (ha : a = true) (hb : b = true) : (a && b) = true := by rw [ha, hb]; rfl
theorem laidOut : laidOutB Try.prog = true := by kernel_rfl
theorem mapsRowed : mapsRowed Try.prog = true := by kernel_rfl
theorem noStops : (Try.prog.stops == []) = true := by kernel_rfl
theorem noKnobs : (Try.prog.stopKnobs == []) = true := by kernel_rfl
theorem heard : Try.prog.stopsHeard = true := by kernel_rfl
theorem enters : Try.prog.mayEnter = true := by kernel_rfl
end KP
namespace Kt
theorem x0 : (Rows.cacheTokensRow.wf (OpenSpec.ofChange Rows.cacheTokensSpec)) = true := by kernel_rfl
theorem x1 : (Try.f3.params.all (Try.prog.readableRec ·)) = true := by kernel_rfl
theorem x2 : (namedTie Try.prog Rows.cacheTokensRow.named Rows.cacheTokensSpec.vars) = true := by kernel_rfl
theorem x3 : ((Rows.cacheTokensRow.stops == [])) = true := by kernel_rfl
theorem x4 : ((Rows.cacheTokensRow.knobs == [])) = true := by kernel_rfl
theorem x5 : ((Rows.cacheTokensRow.inPlace == Try.prog.inPlace 3)) = true := by kernel_rfl
theorem x6 : ((Rows.cacheTokensRow.unfollowed == Try.prog.unfollowed 3)) = true := by kernel_rfl
theorem x7 : ((Rows.cacheTokensRow.recurses == Try.prog.recurses 3)) = true := by kernel_rfl
theorem x8 : ((Rows.cacheTokensRow.named == Try.prog.varsNamed 3)) = true := by kernel_rfl
theorem x9 : ((Rows.cacheTokensRow.maps == (Try.f3.params.toList ++ Rows.cacheTokensSpec.plain.varTypes Try.prog).any (Try.prog.mapsRec ·))) = true := by kernel_rfl
theorem x10 : ((Rows.cacheTokensRow.ifaces == (Try.f3.params.toList ++ Rows.cacheTokensSpec.plain.varTypes Try.prog).any (Try.prog.ifacesRec ·))) = true := by kernel_rfl
theorem x11 : ((Rows.cacheTokensRow.mapsOut == Try.prog.mapsAmong Try.f3.resultTypes.toList)) = true := by kernel_rfl
theorem x12 : ((Rows.cacheTokensRow.loops == (Try.f3.params.toList ++ Rows.cacheTokensSpec.plain.varTypes Try.prog).any (Try.prog.loopsFrom ·))) = true := by kernel_rfl
theorem x13 : ((Rows.cacheTokensRow.wideKeys == (Try.f3.params.toList ++ Rows.cacheTokensSpec.plain.varTypes Try.prog ++ Try.f3.resultTypes.toList).any (Try.prog.wideKeysFrom ·))) = true := by kernel_rfl
theorem x14 : (Rows.cacheTokensSpec.vars.all (Try.prog.varReadable ·)) = true := by kernel_rfl
theorem x15 : (Try.f3.resultTypes.all (fun t => Try.prog.readableRec t && decide (t < Try.prog.types.size))) = true := by kernel_rfl
theorem x16 : ((Rows.cacheTokensRow.ifacesOut == Try.f3.resultTypes.toList.any (Try.prog.ifacesRec ·))) = true := by kernel_rfl
theorem x17 : ((Rows.cacheTokensRow.loopsOut == Try.f3.resultTypes.toList.any (Try.prog.loopsFrom ·))) = true := by kernel_rfl
theorem x18 : ((Rows.cacheTokensRow.plainKeys == Try.prog.plainKeys)) = true := by kernel_rfl
theorem x19 : (Rows.cacheTokensRow.shortTexts.isNone) = true := by kernel_rfl
theorem x20 : ((Rows.cacheTokensRow.lifted == Try.prog.liftsFinal)) = true := by kernel_rfl
theorem x21 : ((Try.prog.make == some Rows.cacheTokensRow.make)) = true := by kernel_rfl
theorem x22 : ((Rows.cacheTokensRow.kinds == (if Rows.cacheTokensRow.domain.isEmpty then [] else Try.f3.params.toList.map fun t => match Try.prog.underlying t with | some (.int k) => some k | _ => none))) = true := by kernel_rfl
theorem x23 : ((Rows.cacheTokensRow.pinned == Rows.cacheTokensRow.pinnedBy)) = true := by kernel_rfl
theorem x24 : ((Rows.cacheTokensRow.veiled == (Try.f3.params.toList ++ Rows.cacheTokensSpec.plain.varTypes Try.prog ++ Try.f3.resultTypes.toList).any (Try.prog.veiledRec ·))) = true := by kernel_rfl
theorem x25 : (Rows.cacheTokensRow.veiledFits Try.prog Try.f3.params.toList (Try.f3.params.toList ++ Rows.cacheTokensSpec.plain.varTypes Try.prog ++ Try.f3.resultTypes.toList)) = true := by kernel_rfl
theorem named : Try.pinned.checked.prog.funcNamed "dumbwaiter/dumblaw2.CacheTokens" = some 3 := by kernel_rfl
theorem inst : Try.f3.isInstance Try.pinned.checked.prog Rows.cacheTokensRow.origin Rows.cacheTokensRow.targs := of_decide_eq_true (by kernel_rfl)
theorem wrap : Try.f3.isWrapper Try.pinned.checked.prog Rows.cacheTokensRow.wrapper Rows.cacheTokensRow.mainSum := by unfold Func.isWrapper; first | (rw [if_pos (by decide +kernel)]; kernel_rfl) | (rw [if_neg (by decide +kernel)]; exact ⟨rfl, rfl⟩)
end Kt
end Go.Proofs.Ytbihfgcejlgffaa
