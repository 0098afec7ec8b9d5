/- ValueNumbers: for every input the law returns true, and every argument reads afterwards as it read before. Conditions: the row's own: the listed package-level variables start as the program's text lays them (the card ties them). -/
import Derived.Test.YtabojeleomfgnaaGreatDoorR1
import Derived.Test.YtabojeleomfgnaaGreatDoorS8
import Derived.Test.YtabojeleomfgnaaGreatDoorU1
import Derived.Test.YtabojeleomfgnaaGreatDoorK8
import Derived.SevenTiedAt
import Derived.ChangeMaps5
namespace Go.Proofs
open Go.RowKit
namespace YtabojeleomfgnaaGreatDoor
open Go.ChangeShapes Go.WideShapes Go.ChangeAt
set_option maxRecDepth 100000 in
theorem valueNumbers_lifted (os : Os) (started : os.Started) (H : Type) (enc : TypeId × Value → H) :
    ReturnsInHanded {} Tryz.checked os 8 .any (fun w args => (Rows.valueNumbersSpec.pre enc Tryz.prog Tryz.f8 [] false w args ∧ laidMetH Tryz.prog laidL w) ∧ sizedMet enc Tryz.prog Tryz.f8 (OpenSpec.ofChange Rows.valueNumbersSpec) false w args)
      (Rows.valueNumbersSpec.post enc Tryz.prog Tryz.f8 false true false false) := by
  refine change_and_shaped (C := Tryz.checked) (X := fun w _ => laidMetH Tryz.prog laidL w) (fun _ _ _ hh h => h.of_heap hh) own started (by kernel_rfl) Tryz.func8
    (ChangeSpec.witness_shaped (enc := enc) (C := Tryz.checked) (os := os) (X := fun w _ => laidMetH Tryz.prog laidL w) false (World.laidAll Tryz.prog os laidL) #[.agg #[.int .i64 0, .int .i64 0, .string ⟨#[]⟩], .agg #[.int .i64 0, .int .i64 0, .string ⟨#[]⟩]] 8 (World.laidAll_os _ _ _)
      (start_shaped os _) (by kernel_rfl) (by kernel_rfl) (by kernel_rfl) (start_met os _)) ?_
  intro W base args ds gs before hval0 hW hsz hL hsh
  have hval : ∀ (j : Nat) t v, Tryz.f8.params[j]? = some t → args[j]? = some v → Value.okWide Tryz.prog W .any base t v := hval0
  have hW' := hW
  obtain ⟨p, q, hA0, hV, rfl, _, _⟩ := hW
  have hA : DataW.TrodAll enc Tryz.prog W 0 (fun _ => true) true Tryz.f8.params.toList args.toList ds p := hA0
  rw [Tryz.params8] at hA hval
  obtain ⟨v0, v1, d0, d1, p0, p1, rfl, rfl, rfl, h0, h1⟩ := trodAll_two hA
  obtain ⟨rfl, rfl⟩ := trodVars_none hV
  obtain ⟨c00, c01, c02, y00, y01, y02, n0, rfl, rfl, rfl, t00, t01, t02⟩ := Joins.open_agg3 Tryz.underlying23 one23 cells23 (hval 0 23 v0 rfl rfl) h0
  obtain ⟨k0, e00, rfl, wk0⟩ := DataW.trod_int Tryz.underlying3 t00
  obtain ⟨m0, e01, rfl, wm0⟩ := DataW.trod_int Tryz.underlying3 t01
  obtain ⟨s0, e02, rfl, ws0⟩ := DataW.trod_string Tryz.underlying9 t02
  obtain rfl := (List.cons.inj e00).1
  obtain rfl := (List.cons.inj e01).1
  obtain rfl := (List.cons.inj e02).1
  obtain ⟨c10, c11, c12, y10, y11, y12, n1, rfl, rfl, rfl, t10, t11, t12⟩ := Joins.open_agg3 Tryz.underlying23 one23 cells23 (hval 1 23 v1 rfl rfl) h1
  obtain ⟨k1, e10, rfl, wk1⟩ := DataW.trod_int Tryz.underlying3 t10
  obtain ⟨m1, e11, rfl, wm1⟩ := DataW.trod_int Tryz.underlying3 t11
  obtain ⟨s1, e12, rfl, ws1⟩ := DataW.trod_string Tryz.underlying9 t12
  obtain rfl := (List.cons.inj e10).1
  obtain rfl := (List.cons.inj e11).1
  obtain rfl := (List.cons.inj e12).1
  simp only [List.append_nil] at hW'
  have hops : Ops W := ops_of_laid ((laid_plain W).mp hL) hsh
  refine (law_numbers (k0, m0, s0) (k1, m1, s1) ws0 ws1 W hops).mono fun e W' ⟨he, hb⟩ => ?_
  subst he
  exact ⟨_, rfl, _, _, _, [], _, [], hW', trodAll_mk1 (shut_bool Tryz.underlying4 _), trodAll_mk2 (Joins.shut_agg3 Tryz.underlying23 one23 cells23 (y0 := (.lit (.int .i64 k0), [])) (y1 := (.lit (.int .i64 m0), [])) (y2 := (.lit (.string s0.data.toList), [])) (Joins.field_of_Trod (shut_int Tryz.underlying3 wk0) rfl) (Joins.field_of_Trod (shut_int Tryz.underlying3 wm0) rfl) (Joins.field_of_Trod (Go.ChangeMaps.shut_string Tryz.underlying9 ws0) rfl)) (Joins.shut_agg3 Tryz.underlying23 one23 cells23 (y0 := (.lit (.int .i64 k1), [])) (y1 := (.lit (.int .i64 m1), [])) (y2 := (.lit (.string s1.data.toList), [])) (Joins.field_of_Trod (shut_int Tryz.underlying3 wk1) rfl) (Joins.field_of_Trod (shut_int Tryz.underlying3 wm1) rfl) (Joins.field_of_Trod (Go.ChangeMaps.shut_string Tryz.underlying9 ws1) rfl)), rfl, hb.frame _, fun h => by cases h⟩
set_option maxRecDepth 100000 in
theorem closed08 : joinedFacts Tryz.prog 8 Tryz.f8 Rows.valueNumbersSpec Rows.valueNumbersRow = true := by
  unfold joinedFacts
  exact (KP.and_t (KP.and_t (KP.and_t (KP.and_t (KP.and_t (KP.and_t (KP.and_t (KP.and_t (KP.and_t (KP.and_t (KP.and_t (KP.and_t (KP.and_t (KP.and_t (KP.and_t (KP.and_t (KP.and_t (KP.and_t (KP.and_t (KP.and_t (KP.and_t (KP.and_t (KP.and_t (KP.and_t (KP.and_t (KP.and_t (KP.and_t (KP.and_t (KP.and_t (KP.and_t (KP.and_t KvalueNumbers.x0 KP.laidOut) KP.mapsRowed) KvalueNumbers.x1) KvalueNumbers.x2) KvalueNumbers.x3) KP.noStops) KvalueNumbers.x4) KP.noKnobs) KvalueNumbers.x5) KvalueNumbers.x6) KvalueNumbers.x7) KvalueNumbers.x8) KvalueNumbers.x9) KvalueNumbers.x10) KvalueNumbers.x11) KvalueNumbers.x12) KvalueNumbers.x13) KvalueNumbers.x14) KvalueNumbers.x15) KvalueNumbers.x16) KvalueNumbers.x17) KvalueNumbers.x18) KvalueNumbers.x19) KP.heard) KP.enters) KvalueNumbers.x20) KvalueNumbers.x21) KvalueNumbers.x22) KvalueNumbers.x23) KvalueNumbers.x24) KvalueNumbers.x25)
theorem valueNumbers_closed : joinedFacts Tryz.pinned.checked.prog 8 Tryz.f8 Rows.valueNumbersSpec Rows.valueNumbersRow = true := closed08
theorem valueNumbers_said : Rows.ValueNumbersSaid :=
  OpenClaim.holds_of_wide 8 Tryz.f8 rfl rfl rfl rfl rfl rfl rfl ⟨rfl, rfl, rfl, rfl, rfl⟩ rfl rfl rfl rfl rfl KvalueNumbers.named Tryz.func8 valueNumbers_closed KvalueNumbers.inst KvalueNumbers.wrap
    (fun os started H enc _ => valueNumbers_lifted os started H enc)
theorem valueNumbers_card : Rows.ValueNumbersCardSaid :=
  Claim7.holds_tied_plain_at .later [] [.data, .data, .data, .data, .sentinel, .sentinel, .data, .pinned, .pinned] true (true, "638d87437fe1456012d0652be4c865f3dad8114ca81620598ab648150333acef") true
    valueNumbers_said (fun _ h => by cases h) KvalueNumbers.byText (fun _ h => by cases h) valueNumbers_row_tie rfl ⟨rfl, rfl⟩ KP.mains rfl
    (fun f fn hf hfn => by
      obtain rfl : f = 8 := (Option.some.inj (KvalueNumbers.named.symm.trans hf)).symm
      obtain rfl : fn = Tryz.f8 := (Option.some.inj (Tryz.func8.symm.trans hfn)).symm
      exact ⟨KP.looksAt, KvalueNumbers.alone⟩)
    KvalueNumbers.goes
#print axioms valueNumbers_card
end YtabojeleomfgnaaGreatDoor
end Go.Proofs
