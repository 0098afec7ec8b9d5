/- ValueChecks: for every input the law returns true, and every argument reads afterwards as it read before. Conditions: the row's own: the listed package-level variables start as the program's text lays them (the card ties them). -/
import Derived.Test.YtabojeleomfgnaaGreatDoorR1
import Derived.Test.YtabojeleomfgnaaGreatDoorS1
import Derived.Test.YtabojeleomfgnaaGreatDoorU1
import Derived.Test.YtabojeleomfgnaaGreatDoorK3
import Derived.SevenTiedAt
import Derived.ChangeMaps5
namespace Go.Proofs
open Go.RowKit
namespace YtabojeleomfgnaaGreatDoor
open Go.ChangeShapes Go.WideShapes Go.ChangeAt
set_option maxRecDepth 100000 in
theorem valueChecks_lifted (os : Os) (started : os.Started) (H : Type) (enc : TypeId × Value → H) :
    ReturnsInHanded {} Tryz.checked os 3 .any (fun w args => (Rows.valueChecksSpec.pre enc Tryz.prog Tryz.f3 [] false w args ∧ laidMetH Tryz.prog laidL w) ∧ sizedMet enc Tryz.prog Tryz.f3 (OpenSpec.ofChange Rows.valueChecksSpec) false w args)
      (Rows.valueChecksSpec.post enc Tryz.prog Tryz.f3 false true false false) := by
  refine change_and_shaped (C := Tryz.checked) (X := fun w _ => laidMetH Tryz.prog laidL w) (fun _ _ _ hh h => h.of_heap hh) own started (by kernel_rfl) Tryz.func3
    (ChangeSpec.witness_shaped (enc := enc) (C := Tryz.checked) (os := os) (X := fun w _ => laidMetH Tryz.prog laidL w) false (World.laidAll Tryz.prog os laidL) #[.int .i64 0, .agg #[.int .i64 0, .int .i64 0, .string ⟨#[]⟩]] 8 (World.laidAll_os _ _ _)
      (start_shaped os _) (by kernel_rfl) (by kernel_rfl) (by kernel_rfl) (start_met os _)) ?_
  intro W base args ds gs before hval0 hW hsz hL hsh
  have hval : ∀ (j : Nat) t v, Tryz.f3.params[j]? = some t → args[j]? = some v → Value.okWide Tryz.prog W .any base t v := hval0
  have hW' := hW
  obtain ⟨p, q, hA0, hV, rfl, _, _⟩ := hW
  have hA : DataW.TrodAll enc Tryz.prog W 0 (fun _ => true) true Tryz.f3.params.toList args.toList ds p := hA0
  rw [Tryz.params3] at hA hval
  obtain ⟨v0, v1, d0, d1, p0, p1, rfl, rfl, rfl, h0, h1⟩ := trodAll_two hA
  obtain ⟨rfl, rfl⟩ := trodVars_none hV
  obtain ⟨k0, rfl, rfl, rfl, wk0⟩ := open_int Tryz.underlying3 (hval 0 3 v0 rfl rfl) h0
  obtain ⟨c10, c11, c12, y10, y11, y12, n1, rfl, rfl, rfl, t10, t11, t12⟩ := Joins.open_agg3 Tryz.underlying23 one23 cells23 (hval 1 23 v1 rfl rfl) h1
  obtain ⟨k1, e10, rfl, wk1⟩ := DataW.trod_int Tryz.underlying3 t10
  obtain ⟨m1, e11, rfl, wm1⟩ := DataW.trod_int Tryz.underlying3 t11
  obtain ⟨s1, e12, rfl, ws1⟩ := DataW.trod_string Tryz.underlying9 t12
  obtain rfl := (List.cons.inj e10).1
  obtain rfl := (List.cons.inj e11).1
  obtain rfl := (List.cons.inj e12).1
  simp only [List.append_nil] at hW'
  have hops : Ops W := ops_of_laid ((laid_plain W).mp hL) hsh
  refine (law_checks Ops (fun _ _ h hb => h.below hb) values_true k0 k1 m1 s1 ws1 W hops).mono fun e W' ⟨he, hb⟩ => ?_
  subst he
  exact ⟨_, rfl, _, _, _, [], [], [], hW', trodAll_mk1 (shut_bool Tryz.underlying4 _), trodAll_mk2 (shut_int Tryz.underlying3 wk0) (Joins.shut_agg3 Tryz.underlying23 one23 cells23 (y0 := (.lit (.int .i64 k1), [])) (y1 := (.lit (.int .i64 m1), [])) (y2 := (.lit (.string s1.data.toList), [])) (Joins.field_of_Trod (shut_int Tryz.underlying3 wk1) rfl) (Joins.field_of_Trod (shut_int Tryz.underlying3 wm1) rfl) (Joins.field_of_Trod (Go.ChangeMaps.shut_string Tryz.underlying9 ws1) rfl)), rfl, hb.frame _, fun h => by cases h⟩
set_option maxRecDepth 100000 in
theorem closed03 : joinedFacts Tryz.prog 3 Tryz.f3 Rows.valueChecksSpec Rows.valueChecksRow = true := by
  unfold joinedFacts
  exact (KP.and_t (KP.and_t (KP.and_t (KP.and_t (KP.and_t (KP.and_t (KP.and_t (KP.and_t (KP.and_t (KP.and_t (KP.and_t (KP.and_t (KP.and_t (KP.and_t (KP.and_t (KP.and_t (KP.and_t (KP.and_t (KP.and_t (KP.and_t (KP.and_t (KP.and_t (KP.and_t (KP.and_t (KP.and_t (KP.and_t (KP.and_t (KP.and_t (KP.and_t (KP.and_t (KP.and_t KvalueChecks.x0 KP.laidOut) KP.mapsRowed) KvalueChecks.x1) KvalueChecks.x2) KvalueChecks.x3) KP.noStops) KvalueChecks.x4) KP.noKnobs) KvalueChecks.x5) KvalueChecks.x6) KvalueChecks.x7) KvalueChecks.x8) KvalueChecks.x9) KvalueChecks.x10) KvalueChecks.x11) KvalueChecks.x12) KvalueChecks.x13) KvalueChecks.x14) KvalueChecks.x15) KvalueChecks.x16) KvalueChecks.x17) KvalueChecks.x18) KvalueChecks.x19) KP.heard) KP.enters) KvalueChecks.x20) KvalueChecks.x21) KvalueChecks.x22) KvalueChecks.x23) KvalueChecks.x24) KvalueChecks.x25)
theorem valueChecks_closed : joinedFacts Tryz.pinned.checked.prog 3 Tryz.f3 Rows.valueChecksSpec Rows.valueChecksRow = true := closed03
theorem valueChecks_said : Rows.ValueChecksSaid :=
  OpenClaim.holds_of_wide 3 Tryz.f3 rfl rfl rfl rfl rfl rfl rfl ⟨rfl, rfl, rfl, rfl, rfl⟩ rfl rfl rfl rfl rfl KvalueChecks.named Tryz.func3 valueChecks_closed KvalueChecks.inst KvalueChecks.wrap
    (fun os started H enc _ => valueChecks_lifted os started H enc)
theorem valueChecks_card : Rows.ValueChecksCardSaid :=
  Claim7.holds_tied_plain_at .later [] [.data, .data, .data, .data, .sentinel, .sentinel, .data, .pinned, .pinned] true (true, "638d87437fe1456012d0652be4c865f3dad8114ca81620598ab648150333acef") true
    valueChecks_said (fun _ h => by cases h) KvalueChecks.byText (fun _ h => by cases h) valueChecks_row_tie rfl ⟨rfl, rfl⟩ KP.mains rfl
    (fun f fn hf hfn => by
      obtain rfl : f = 3 := (Option.some.inj (KvalueChecks.named.symm.trans hf)).symm
      obtain rfl : fn = Tryz.f3 := (Option.some.inj (Tryz.func3.symm.trans hfn)).symm
      exact ⟨KP.looksAt, KvalueChecks.alone⟩)
    KvalueChecks.goes
#print axioms valueChecks_card
end YtabojeleomfgnaaGreatDoor
end Go.Proofs
