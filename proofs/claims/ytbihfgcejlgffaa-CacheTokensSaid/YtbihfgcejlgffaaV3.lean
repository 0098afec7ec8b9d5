/- CacheTokens: for every input the law returns true, and its argument reads afterwards as it read before. Conditions: the row's own; none is added. -/
import Derived.Test.YtbihfgcejlgffaaUv
import Derived.Test.YtbihfgcejlgffaaKt
import Derived.ChangeMaps
namespace Go.Proofs
open Go.RowKit
namespace Ytbihfgcejlgffaa
open Go.ChangeShapes Go.WideShapes Go.ChangeAt
set_option maxRecDepth 100000 in
theorem cacheTokens_lifted (os : Os) (started : os.Started) (H : Type) (enc : TypeId × Value → H) :
    ReturnsInHanded {} Try.checked os 3 .any (fun w args => Rows.cacheTokensSpec.pre enc Try.prog Try.f3 [] false w args ∧ sizedMet enc Try.prog Try.f3 (OpenSpec.ofChange Rows.cacheTokensSpec) false w args)
      (Rows.cacheTokensSpec.post enc Try.prog Try.f3 false true false false) := by
  have he : (fun (w : World) (args : Array Value) => Rows.cacheTokensSpec.pre enc Try.prog Try.f3 [] false w args ∧ sizedMet enc Try.prog Try.f3 (OpenSpec.ofChange Rows.cacheTokensSpec) false w args) =
      (fun w args => (Rows.cacheTokensSpec.pre enc Try.prog Try.f3 [] false w args ∧ (fun (_ : World) (_ : Array Value) => True) w args) ∧ sizedMet enc Try.prog Try.f3 (OpenSpec.ofChange Rows.cacheTokensSpec) false w args) := by
    funext w args
    exact propext ⟨fun h => ⟨⟨h.1, trivial⟩, h.2⟩, fun h => ⟨h.1.1, h.2⟩⟩
  rw [he]
  refine change_and_shaped (C := Try.checked) (X := fun _ _ => True) (fun _ _ _ _ h => h) own started (by kernel_rfl) Try.func3
    (ChangeSpec.witness_shaped (enc := enc) (C := Try.checked) (os := os) (X := fun _ _ => True) false (World.laidAll Try.prog os laidL) #[.slice none 0 0] 8 (World.laidAll_os _ _ _)
      (start_shaped os _) (by kernel_rfl) (by kernel_rfl) (by kernel_rfl) trivial) ?_
  intro W base args ds gs before hval0 hW hsz hL hsh
  have hval : ∀ (j : Nat) t v, Try.f3.params[j]? = some t → args[j]? = some v → Value.okWide Try.prog W .any base t v := hval0
  have hW' := hW
  obtain ⟨p, q, hA0, hV, rfl, _, _⟩ := hW
  have hA : DataW.TrodAll enc Try.prog W 0 (fun _ => true) true Try.f3.params.toList args.toList ds p := hA0
  rw [Try.params3] at hA hval
  obtain ⟨v0, d0, rfl, rfl, h0⟩ := trodAll_one hA
  obtain ⟨rfl, rfl⟩ := trodVars_none hV
  obtain ⟨a0, l0, c0, rfl, hl0, hI0⟩ := open_intlist (hval 0 22 v0 rfl rfl) h0
  simp only [List.append_nil] at hW'
  refine (law_tokens a0 l0 c0 hl0 W hI0).mono fun e W' ⟨he, hb⟩ => ?_
  subst he
  exact ⟨_, rfl, _, _, _, [], _, [], hW', trodAll_mk1 (shut_bool Try.underlying4 _), trodAll_mk1 (hb.trod KP.laidOut readable22 row22 h0 (fun x hx => hA.lt x (by simp [hx]))), rfl, hb.frame _, fun h => by cases h⟩
set_option maxRecDepth 100000 in
theorem closed3 : joinedFacts Try.prog 3 Try.f3 Rows.cacheTokensSpec Rows.cacheTokensRow = true := by
  unfold joinedFacts
  exact (KP.and_t (KP.and_t (KP.and_t (KP.and_t (KP.and_t (KP.and_t (KP.and_t (KP.and_t (KP.and_t (KP.and_t (KP.and_t (KP.and_t (KP.and_t (KP.and_t (KP.and_t (KP.and_t (KP.and_t (KP.and_t (KP.and_t (KP.and_t (KP.and_t (KP.and_t (KP.and_t (KP.and_t (KP.and_t (KP.and_t (KP.and_t (KP.and_t (KP.and_t (KP.and_t (KP.and_t Kt.x0 KP.laidOut) KP.mapsRowed) Kt.x1) Kt.x2) Kt.x3) KP.noStops) Kt.x4) KP.noKnobs) Kt.x5) Kt.x6) Kt.x7) Kt.x8) Kt.x9) Kt.x10) Kt.x11) Kt.x12) Kt.x13) Kt.x14) Kt.x15) Kt.x16) Kt.x17) Kt.x18) Kt.x19) KP.heard) KP.enters) Kt.x20) Kt.x21) Kt.x22) Kt.x23) Kt.x24) Kt.x25)
theorem cacheTokens_closed : joinedFacts Try.pinned.checked.prog 3 Try.f3 Rows.cacheTokensSpec Rows.cacheTokensRow = true := closed3
theorem cacheTokens_said : Rows.CacheTokensSaid :=
  OpenClaim.holds_of_wide 3 Try.f3 rfl rfl rfl rfl rfl rfl rfl ⟨rfl, rfl, rfl, rfl, rfl⟩ rfl rfl rfl rfl rfl Kt.named Try.func3 cacheTokens_closed Kt.inst Kt.wrap
    (fun os started H enc _ => cacheTokens_lifted os started H enc)
#print axioms cacheTokens_said
end Ytbihfgcejlgffaa
end Go.Proofs
