/- ValueCasts: for every input the law returns true, and every argument reads afterwards as it read before. Conditions: the row's own: the listed package-level variables start as the program's text lays them (the card ties them). -/
import Derived.Test.YtabojeleomfgnaaGreatDoorR1
import Derived.Test.YtabojeleomfgnaaGreatDoorCs3
import Derived.Test.YtabojeleomfgnaaGreatDoorU1
import Derived.Test.YtabojeleomfgnaaGreatDoorK12
import Derived.SevenTiedAt
import Derived.ChangeMaps5
namespace Go.Proofs
open Go.RowKit
namespace YtabojeleomfgnaaGreatDoor
open Go.ChangeShapes Go.WideShapes Go.ChangeAt
set_option maxRecDepth 100000 in
theorem valueCasts_lifted (os : Os) (started : os.Started) (H : Type) (enc : TypeId × Value → H) :
    ReturnsInHanded {} Tryz.checked os 12 .any (fun w args => (Rows.valueCastsSpec.pre enc Tryz.prog Tryz.f12 [] false w args ∧ laidMetH Tryz.prog laidL w) ∧ sizedMet enc Tryz.prog Tryz.f12 (OpenSpec.ofChange Rows.valueCastsSpec) false w args)
      (Rows.valueCastsSpec.post enc Tryz.prog Tryz.f12 false true false false) := by
  refine change_and_shaped (C := Tryz.checked) (X := fun w _ => laidMetH Tryz.prog laidL w) (fun _ _ _ hh h => h.of_heap hh) own started (by kernel_rfl) Tryz.func12
    (ChangeSpec.witness_shaped (enc := enc) (C := Tryz.checked) (os := os) (X := fun w _ => laidMetH Tryz.prog laidL w) false (World.laidAll Tryz.prog os laidL) #[.agg #[.int .i64 0, .int .i64 0, .string ⟨#[]⟩], .int .i64 0] 8 (World.laidAll_os _ _ _)
      (start_shaped os _) (by kernel_rfl) (by kernel_rfl) (by kernel_rfl) (start_met os _)) ?_
  intro W base args ds gs before hval0 hW hsz hL hsh
  have hval : ∀ (j : Nat) t v, Tryz.f12.params[j]? = some t → args[j]? = some v → Value.okWide Tryz.prog W .any base t v := hval0
  have hW' := hW
  obtain ⟨p, q, hA0, hV, rfl, _, _⟩ := hW
  have hA : DataW.TrodAll enc Tryz.prog W 0 (fun _ => true) true Tryz.f12.params.toList args.toList ds p := hA0
  rw [Tryz.params12] at hA hval
  obtain ⟨v0, v1, d0, d1, p0, p1, rfl, rfl, rfl, h0, h1⟩ := trodAll_two hA
  obtain ⟨rfl, rfl⟩ := trodVars_none hV
  obtain ⟨c00, c01, c02, y00, y01, y02, n0, rfl, rfl, rfl, t00, t01, t02⟩ := Joins.open_agg3 Tryz.underlying23 one23 cells23 (hval 0 23 v0 rfl rfl) h0
  obtain ⟨k0, e00, rfl, wk0⟩ := DataW.trod_int Tryz.underlying3 t00
  obtain ⟨m0, e01, rfl, wm0⟩ := DataW.trod_int Tryz.underlying3 t01
  obtain ⟨s0, e02, rfl, ws0⟩ := DataW.trod_string Tryz.underlying9 t02
  obtain rfl := (List.cons.inj e00).1
  obtain rfl := (List.cons.inj e01).1
  obtain rfl := (List.cons.inj e02).1
  obtain ⟨k1, rfl, rfl, rfl, wk1⟩ := open_int Tryz.underlying3 (hval 1 3 v1 rfl rfl) h1
  simp only [List.append_nil] at hW'
  have hops : Ops W := ops_of_laid ((laid_plain W).mp hL) hsh
  refine (law_casts (k0, m0, s0) k1 ws0 W (lb_of_laid ((laid_plain W).mp hL) hsh) hops).mono fun e W' ⟨he, hb⟩ => ?_
  subst he
  exact ⟨_, rfl, _, _, _, [], _, [], hW', trodAll_mk1 (shut_bool Tryz.underlying4 _), trodAll_mk2 (Joins.shut_agg3 Tryz.underlying23 one23 cells23 (y0 := (.lit (.int .i64 k0), [])) (y1 := (.lit (.int .i64 m0), [])) (y2 := (.lit (.string s0.data.toList), [])) (Joins.field_of_Trod (shut_int Tryz.underlying3 wk0) rfl) (Joins.field_of_Trod (shut_int Tryz.underlying3 wm0) rfl) (Joins.field_of_Trod (Go.ChangeMaps.shut_string Tryz.underlying9 ws0) rfl)) (shut_int Tryz.underlying3 wk1), rfl, hb.frame _, fun h => by cases h⟩
set_option maxRecDepth 100000 in
theorem closed012 : joinedFacts Tryz.prog 12 Tryz.f12 Rows.valueCastsSpec Rows.valueCastsRow = true := by
  unfold joinedFacts
  exact (KP.and_t (KP.and_t (KP.and_t (KP.and_t (KP.and_t (KP.and_t (KP.and_t (KP.and_t (KP.and_t (KP.and_t (KP.and_t (KP.and_t (KP.and_t (KP.and_t (KP.and_t (KP.and_t (KP.and_t (KP.and_t (KP.and_t (KP.and_t (KP.and_t (KP.and_t (KP.and_t (KP.and_t (KP.and_t (KP.and_t (KP.and_t (KP.and_t (KP.and_t (KP.and_t (KP.and_t KvalueCasts.x0 KP.laidOut) KP.mapsRowed) KvalueCasts.x1) KvalueCasts.x2) KvalueCasts.x3) KP.noStops) KvalueCasts.x4) KP.noKnobs) KvalueCasts.x5) KvalueCasts.x6) KvalueCasts.x7) KvalueCasts.x8) KvalueCasts.x9) KvalueCasts.x10) KvalueCasts.x11) KvalueCasts.x12) KvalueCasts.x13) KvalueCasts.x14) KvalueCasts.x15) KvalueCasts.x16) KvalueCasts.x17) KvalueCasts.x18) KvalueCasts.x19) KP.heard) KP.enters) KvalueCasts.x20) KvalueCasts.x21) KvalueCasts.x22) KvalueCasts.x23) KvalueCasts.x24) KvalueCasts.x25)
theorem valueCasts_closed : joinedFacts Tryz.pinned.checked.prog 12 Tryz.f12 Rows.valueCastsSpec Rows.valueCastsRow = true := closed012
theorem valueCasts_said : Rows.ValueCastsSaid :=
  OpenClaim.holds_of_wide 12 Tryz.f12 rfl rfl rfl rfl rfl rfl rfl ⟨rfl, rfl, rfl, rfl, rfl⟩ rfl rfl rfl rfl rfl KvalueCasts.named Tryz.func12 valueCasts_closed KvalueCasts.inst KvalueCasts.wrap
    (fun os started H enc _ => valueCasts_lifted os started H enc)
theorem valueCasts_card : Rows.ValueCastsCardSaid :=
  Claim7.holds_tied_plain_at .later [] [.data, .data, .data, .data, .sentinel, .sentinel, .data, .pinned, .pinned] true (true, "638d87437fe1456012d0652be4c865f3dad8114ca81620598ab648150333acef") true
    valueCasts_said (fun _ h => by cases h) KvalueCasts.byText (fun _ h => by cases h) valueCasts_row_tie rfl ⟨rfl, rfl⟩ KP.mains rfl
    (fun f fn hf hfn => by
      obtain rfl : f = 12 := (Option.some.inj (KvalueCasts.named.symm.trans hf)).symm
      obtain rfl : fn = Tryz.f12 := (Option.some.inj (Tryz.func12.symm.trans hfn)).symm
      exact ⟨KP.looksAt, KvalueCasts.alone⟩)
    KvalueCasts.goes
#print axioms valueCasts_card
end YtabojeleomfgnaaGreatDoor
end Go.Proofs
