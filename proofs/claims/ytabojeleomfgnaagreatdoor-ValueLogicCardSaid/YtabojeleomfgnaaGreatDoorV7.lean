/- ValueLogic: for every input the law returns true, and every argument reads afterwards as it read before. Conditions: the row's own: the listed package-level variables start as the program's text lays them (the card ties them). -/
import Derived.Test.YtabojeleomfgnaaGreatDoorR1
import Derived.Test.YtabojeleomfgnaaGreatDoorS7
import Derived.Test.YtabojeleomfgnaaGreatDoorU1
import Derived.Test.YtabojeleomfgnaaGreatDoorK7
import Derived.SevenTiedAt
import Derived.ChangeMaps5
namespace Go.Proofs
open Go.RowKit
namespace YtabojeleomfgnaaGreatDoor
open Go.ChangeShapes Go.WideShapes Go.ChangeAt
set_option maxRecDepth 100000 in
theorem valueLogic_lifted (os : Os) (started : os.Started) (H : Type) (enc : TypeId × Value → H) :
    ReturnsInHanded {} Tryz.checked os 7 .any (fun w args => (Rows.valueLogicSpec.pre enc Tryz.prog Tryz.f7 [] false w args ∧ laidMetH Tryz.prog laidL w) ∧ sizedMet enc Tryz.prog Tryz.f7 (OpenSpec.ofChange Rows.valueLogicSpec) false w args)
      (Rows.valueLogicSpec.post enc Tryz.prog Tryz.f7 false true false false) := by
  refine change_and_shaped (C := Tryz.checked) (X := fun w _ => laidMetH Tryz.prog laidL w) (fun _ _ _ hh h => h.of_heap hh) own started (by kernel_rfl) Tryz.func7
    (ChangeSpec.witness_shaped (enc := enc) (C := Tryz.checked) (os := os) (X := fun w _ => laidMetH Tryz.prog laidL w) false (World.laidAll Tryz.prog os laidL) #[.agg #[.int .i64 0, .int .i64 0, .string ⟨#[]⟩], .agg #[.int .i64 0, .int .i64 0, .string ⟨#[]⟩]] 8 (World.laidAll_os _ _ _)
      (start_shaped os _) (by kernel_rfl) (by kernel_rfl) (by kernel_rfl) (start_met os _)) ?_
  intro W base args ds gs before hval0 hW hsz hL hsh
  have hval : ∀ (j : Nat) t v, Tryz.f7.params[j]? = some t → args[j]? = some v → Value.okWide Tryz.prog W .any base t v := hval0
  have hW' := hW
  obtain ⟨p, q, hA0, hV, rfl, _, _⟩ := hW
  have hA : DataW.TrodAll enc Tryz.prog W 0 (fun _ => true) true Tryz.f7.params.toList args.toList ds p := hA0
  rw [Tryz.params7] at hA hval
  obtain ⟨v0, v1, d0, d1, p0, p1, rfl, rfl, rfl, h0, h1⟩ := trodAll_two hA
  obtain ⟨rfl, rfl⟩ := trodVars_none hV
  obtain ⟨c00, c01, c02, y00, y01, y02, n0, rfl, rfl, rfl, t00, t01, t02⟩ := Joins.open_agg3 Tryz.underlying23 one23 cells23 (hval 0 23 v0 rfl rfl) h0
  obtain ⟨k0, e00, rfl, wk0⟩ := DataW.trod_int Tryz.underlying3 t00
  obtain ⟨m0, e01, rfl, wm0⟩ := DataW.trod_int Tryz.underlying3 t01
  obtain ⟨s0, e02, rfl, ws0⟩ := DataW.trod_string Tryz.underlying9 t02
  obtain rfl := (List.cons.inj e00).1
  obtain rfl := (List.cons.inj e01).1
  obtain rfl := (List.cons.inj e02).1
  obtain ⟨c10, c11, c12, y10, y11, y12, n1, rfl, rfl, rfl, t10, t11, t12⟩ := Joins.open_agg3 Tryz.underlying23 one23 cells23 (hval 1 23 v1 rfl rfl) h1
  obtain ⟨k1, e10, rfl, wk1⟩ := DataW.trod_int Tryz.underlying3 t10
  obtain ⟨m1, e11, rfl, wm1⟩ := DataW.trod_int Tryz.underlying3 t11
  obtain ⟨s1, e12, rfl, ws1⟩ := DataW.trod_string Tryz.underlying9 t12
  obtain rfl := (List.cons.inj e10).1
  obtain rfl := (List.cons.inj e11).1
  obtain rfl := (List.cons.inj e12).1
  simp only [List.append_nil] at hW'
  have hops : Ops W := ops_of_laid ((laid_plain W).mp hL) hsh
  refine (law_logic (k0, m0, s0) (k1, m1, s1) ws0 ws1 W hops).mono fun e W' ⟨he, hb⟩ => ?_
  subst he
  exact ⟨_, rfl, _, _, _, [], _, [], hW', trodAll_mk1 (shut_bool Tryz.underlying4 _), trodAll_mk2 (Joins.shut_agg3 Tryz.underlying23 one23 cells23 (y0 := (.lit (.int .i64 k0), [])) (y1 := (.lit (.int .i64 m0), [])) (y2 := (.lit (.string s0.data.toList), [])) (Joins.field_of_Trod (shut_int Tryz.underlying3 wk0) rfl) (Joins.field_of_Trod (shut_int Tryz.underlying3 wm0) rfl) (Joins.field_of_Trod (Go.ChangeMaps.shut_string Tryz.underlying9 ws0) rfl)) (Joins.shut_agg3 Tryz.underlying23 one23 cells23 (y0 := (.lit (.int .i64 k1), [])) (y1 := (.lit (.int .i64 m1), [])) (y2 := (.lit (.string s1.data.toList), [])) (Joins.field_of_Trod (shut_int Tryz.underlying3 wk1) rfl) (Joins.field_of_Trod (shut_int Tryz.underlying3 wm1) rfl) (Joins.field_of_Trod (Go.ChangeMaps.shut_string Tryz.underlying9 ws1) rfl)), rfl, hb.frame _, fun h => by cases h⟩
set_option maxRecDepth 100000 in
theorem closed07 : joinedFacts Tryz.prog 7 Tryz.f7 Rows.valueLogicSpec Rows.valueLogicRow = true := by
  unfold joinedFacts
  exact (KP.and_t (KP.and_t (KP.and_t (KP.and_t (KP.and_t (KP.and_t (KP.and_t (KP.and_t (KP.and_t (KP.and_t (KP.and_t (KP.and_t (KP.and_t (KP.and_t (KP.and_t (KP.and_t (KP.and_t (KP.and_t (KP.and_t (KP.and_t (KP.and_t (KP.and_t (KP.and_t (KP.and_t (KP.and_t (KP.and_t (KP.and_t (KP.and_t (KP.and_t (KP.and_t (KP.and_t KvalueLogic.x0 KP.laidOut) KP.mapsRowed) KvalueLogic.x1) KvalueLogic.x2) KvalueLogic.x3) KP.noStops) KvalueLogic.x4) KP.noKnobs) KvalueLogic.x5) KvalueLogic.x6) KvalueLogic.x7) KvalueLogic.x8) KvalueLogic.x9) KvalueLogic.x10) KvalueLogic.x11) KvalueLogic.x12) KvalueLogic.x13) KvalueLogic.x14) KvalueLogic.x15) KvalueLogic.x16) KvalueLogic.x17) KvalueLogic.x18) KvalueLogic.x19) KP.heard) KP.enters) KvalueLogic.x20) KvalueLogic.x21) KvalueLogic.x22) KvalueLogic.x23) KvalueLogic.x24) KvalueLogic.x25)
theorem valueLogic_closed : joinedFacts Tryz.pinned.checked.prog 7 Tryz.f7 Rows.valueLogicSpec Rows.valueLogicRow = true := closed07
theorem valueLogic_said : Rows.ValueLogicSaid :=
  OpenClaim.holds_of_wide 7 Tryz.f7 rfl rfl rfl rfl rfl rfl rfl ⟨rfl, rfl, rfl, rfl, rfl⟩ rfl rfl rfl rfl rfl KvalueLogic.named Tryz.func7 valueLogic_closed KvalueLogic.inst KvalueLogic.wrap
    (fun os started H enc _ => valueLogic_lifted os started H enc)
theorem valueLogic_card : Rows.ValueLogicCardSaid :=
  Claim7.holds_tied_plain_at .later [] [.data, .data, .data, .data, .sentinel, .sentinel, .data, .pinned, .pinned] true (true, "638d87437fe1456012d0652be4c865f3dad8114ca81620598ab648150333acef") true
    valueLogic_said (fun _ h => by cases h) KvalueLogic.byText (fun _ h => by cases h) valueLogic_row_tie rfl ⟨rfl, rfl⟩ KP.mains rfl
    (fun f fn hf hfn => by
      obtain rfl : f = 7 := (Option.some.inj (KvalueLogic.named.symm.trans hf)).symm
      obtain rfl : fn = Tryz.f7 := (Option.some.inj (Tryz.func7.symm.trans hfn)).symm
      exact ⟨KP.looksAt, KvalueLogic.alone⟩)
    KvalueLogic.goes
#print axioms valueLogic_card
end YtabojeleomfgnaaGreatDoor
end Go.Proofs
