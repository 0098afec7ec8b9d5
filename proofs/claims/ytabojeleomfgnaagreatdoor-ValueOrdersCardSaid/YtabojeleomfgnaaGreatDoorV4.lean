/- ValueOrders: for every input the law returns true, and every argument reads afterwards as it read before. Conditions: the row's own: the listed package-level variables start as the program's text lays them (the card ties them). -/
import Derived.Test.YtabojeleomfgnaaGreatDoorR1
import Derived.Test.YtabojeleomfgnaaGreatDoorS4
import Derived.Test.YtabojeleomfgnaaGreatDoorU2
import Derived.Test.YtabojeleomfgnaaGreatDoorK4
import Derived.SevenTiedAt
import Derived.ChangeMaps5
namespace Go.Proofs
open Go.RowKit
namespace YtabojeleomfgnaaGreatDoor
open Go.ChangeShapes Go.WideShapes Go.ChangeAt
set_option maxRecDepth 100000 in
theorem valueOrders_lifted (os : Os) (started : os.Started) (H : Type) (enc : TypeId × Value → H) :
    ReturnsInHanded {} Tryz.checked os 4 .any (fun w args => (Rows.valueOrdersSpec.pre enc Tryz.prog Tryz.f4 [] false w args ∧ laidMetH Tryz.prog laidL w) ∧ sizedMet enc Tryz.prog Tryz.f4 (OpenSpec.ofChange Rows.valueOrdersSpec) false w args)
      (Rows.valueOrdersSpec.post enc Tryz.prog Tryz.f4 false true false false) := by
  refine change_and_shaped (C := Tryz.checked) (X := fun w _ => laidMetH Tryz.prog laidL w) (fun _ _ _ hh h => h.of_heap hh) own started (by kernel_rfl) Tryz.func4
    (ChangeSpec.witness_shaped (enc := enc) (C := Tryz.checked) (os := os) (X := fun w _ => laidMetH Tryz.prog laidL w) false (World.laidAll Tryz.prog os laidL) #[.slice none 0 0, .slice none 0 0] 8 (World.laidAll_os _ _ _)
      (start_shaped os _) (by kernel_rfl) (by kernel_rfl) (by kernel_rfl) (start_met os _)) ?_
  intro W base args ds gs before hval0 hW hsz hL hsh
  have hval : ∀ (j : Nat) t v, Tryz.f4.params[j]? = some t → args[j]? = some v → Value.okWide Tryz.prog W .any base t v := hval0
  have hW' := hW
  obtain ⟨p, q, hA0, hV, rfl, _, _⟩ := hW
  have hA : DataW.TrodAll enc Tryz.prog W 0 (fun _ => true) true Tryz.f4.params.toList args.toList ds p := hA0
  rw [Tryz.params4] at hA hval
  obtain ⟨v0, v1, d0, d1, p0, p1, rfl, rfl, rfl, h0, h1⟩ := trodAll_two hA
  obtain ⟨rfl, rfl⟩ := trodVars_none hV
  obtain ⟨a0, l0, c0, rfl, hl0, hL0⟩ := open_list (hval 0 28 v0 rfl rfl) h0
  obtain ⟨a1, l1, c1, rfl, hl1, hL1⟩ := open_list (hval 1 28 v1 rfl rfl) h1
  simp only [List.append_nil] at hW'
  have hops : Ops W := ops_of_laid ((laid_plain W).mp hL) hsh
  refine (law_orders a0 a1 c0 c1 l0 l1 W hops hl0 hl1 hL0 hL1).mono fun e W' ⟨he, hb⟩ => ?_
  subst he
  exact ⟨_, rfl, _, _, _, [], _, [], hW', trodAll_mk1 (shut_bool Tryz.underlying4 _), trodAll_mk2 (hb.trod KP.laidOut readable28 row28 h0 (fun x hx => hA.lt x (by simp [hx]))) (hb.trod KP.laidOut readable28 row28 h1 (fun x hx => hA.lt x (by simp [hx]))), rfl, hb.frame _, fun h => by cases h⟩
set_option maxRecDepth 100000 in
theorem closed04 : joinedFacts Tryz.prog 4 Tryz.f4 Rows.valueOrdersSpec Rows.valueOrdersRow = true := by
  unfold joinedFacts
  exact (KP.and_t (KP.and_t (KP.and_t (KP.and_t (KP.and_t (KP.and_t (KP.and_t (KP.and_t (KP.and_t (KP.and_t (KP.and_t (KP.and_t (KP.and_t (KP.and_t (KP.and_t (KP.and_t (KP.and_t (KP.and_t (KP.and_t (KP.and_t (KP.and_t (KP.and_t (KP.and_t (KP.and_t (KP.and_t (KP.and_t (KP.and_t (KP.and_t (KP.and_t (KP.and_t (KP.and_t KvalueOrders.x0 KP.laidOut) KP.mapsRowed) KvalueOrders.x1) KvalueOrders.x2) KvalueOrders.x3) KP.noStops) KvalueOrders.x4) KP.noKnobs) KvalueOrders.x5) KvalueOrders.x6) KvalueOrders.x7) KvalueOrders.x8) KvalueOrders.x9) KvalueOrders.x10) KvalueOrders.x11) KvalueOrders.x12) KvalueOrders.x13) KvalueOrders.x14) KvalueOrders.x15) KvalueOrders.x16) KvalueOrders.x17) KvalueOrders.x18) KvalueOrders.x19) KP.heard) KP.enters) KvalueOrders.x20) KvalueOrders.x21) KvalueOrders.x22) KvalueOrders.x23) KvalueOrders.x24) KvalueOrders.x25)
theorem valueOrders_closed : joinedFacts Tryz.pinned.checked.prog 4 Tryz.f4 Rows.valueOrdersSpec Rows.valueOrdersRow = true := closed04
theorem valueOrders_said : Rows.ValueOrdersSaid :=
  OpenClaim.holds_of_wide 4 Tryz.f4 rfl rfl rfl rfl rfl rfl rfl ⟨rfl, rfl, rfl, rfl, rfl⟩ rfl rfl rfl rfl rfl KvalueOrders.named Tryz.func4 valueOrders_closed KvalueOrders.inst KvalueOrders.wrap
    (fun os started H enc _ => valueOrders_lifted os started H enc)
theorem valueOrders_card : Rows.ValueOrdersCardSaid :=
  Claim7.holds_tied_plain_at .later [] [.data, .data, .data, .data, .sentinel, .sentinel, .data, .pinned, .pinned] true (true, "638d87437fe1456012d0652be4c865f3dad8114ca81620598ab648150333acef") true
    valueOrders_said (fun _ h => by cases h) KvalueOrders.byText (fun _ h => by cases h) valueOrders_row_tie rfl ⟨rfl, rfl⟩ KP.mains rfl
    (fun f fn hf hfn => by
      obtain rfl : f = 4 := (Option.some.inj (KvalueOrders.named.symm.trans hf)).symm
      obtain rfl : fn = Tryz.f4 := (Option.some.inj (Tryz.func4.symm.trans hfn)).symm
      exact ⟨KP.looksAt, KvalueOrders.alone⟩)
    KvalueOrders.goes
#print axioms valueOrders_card
end YtabojeleomfgnaaGreatDoor
end Go.Proofs
