/- ValueMoments: for every input the law returns true, and every argument reads afterwards as it read before. Conditions: the row's own: the listed package-level variables start as the program's text lays them (the card ties them). -/
import Derived.Test.YtabojeleomfgnaaGreatDoorR1
import Derived.Test.YtabojeleomfgnaaGreatDoorS11
import Derived.Test.YtabojeleomfgnaaGreatDoorU1
import Derived.Test.YtabojeleomfgnaaGreatDoorU3
import Derived.Test.YtabojeleomfgnaaGreatDoorK11
import Derived.SevenTiedAt
import Derived.ChangeMaps5
namespace Go.Proofs
open Go.RowKit
namespace YtabojeleomfgnaaGreatDoor
open Go.ChangeShapes Go.WideShapes Go.ChangeAt
set_option maxRecDepth 100000 in
theorem valueMoments_lifted (os : Os) (started : os.Started) (H : Type) (enc : TypeId × Value → H) :
    ReturnsInHanded {} Tryz.checked os 11 .any (fun w args => (Rows.valueMomentsSpec.pre enc Tryz.prog Tryz.f11 [] false w args ∧ laidMetH Tryz.prog laidL w) ∧ sizedMet enc Tryz.prog Tryz.f11 (OpenSpec.ofChange Rows.valueMomentsSpec) false w args)
      (Rows.valueMomentsSpec.post enc Tryz.prog Tryz.f11 false true false false) := by
  refine change_and_shaped (C := Tryz.checked) (X := fun w _ => laidMetH Tryz.prog laidL w) (fun _ _ _ hh h => h.of_heap hh) own started (by kernel_rfl) Tryz.func11
    (ChangeSpec.witness_shaped (enc := enc) (C := Tryz.checked) (os := os) (X := fun w _ => laidMetH Tryz.prog laidL w) false (World.laidAll Tryz.prog os laidL) #[.slice none 0 0, .agg #[.int .i64 0, .int .i64 0, .string ⟨#[]⟩], .agg #[.int .i64 0, .int .i64 0, .string ⟨#[]⟩]] 8 (World.laidAll_os _ _ _)
      (start_shaped os _) (by kernel_rfl) (by kernel_rfl) (by kernel_rfl) (start_met os _)) ?_
  intro W base args ds gs before hval0 hW hsz hL hsh
  have hval : ∀ (j : Nat) t v, Tryz.f11.params[j]? = some t → args[j]? = some v → Value.okWide Tryz.prog W .any base t v := hval0
  have hW' := hW
  obtain ⟨p, q, hA0, hV, rfl, _, _⟩ := hW
  have hA : DataW.TrodAll enc Tryz.prog W 0 (fun _ => true) true Tryz.f11.params.toList args.toList ds p := hA0
  rw [Tryz.params11] at hA hval
  obtain ⟨v0, v1, v2, d0, d1, d2, p0, p1, p2, rfl, rfl, rfl, h0, h1, h2⟩ := trodAll_three hA
  obtain ⟨rfl, rfl⟩ := trodVars_none hV
  obtain ⟨a0, l0, c0, rfl, hl0, hI0⟩ := open_intlist (hval 0 51 v0 rfl rfl) h0
  obtain ⟨c10, c11, c12, y10, y11, y12, n1, rfl, rfl, rfl, t10, t11, t12⟩ := Joins.open_agg3 Tryz.underlying23 one23 cells23 (hval 1 23 v1 rfl rfl) h1
  obtain ⟨k1, e10, rfl, wk1⟩ := DataW.trod_int Tryz.underlying3 t10
  obtain ⟨m1, e11, rfl, wm1⟩ := DataW.trod_int Tryz.underlying3 t11
  obtain ⟨s1, e12, rfl, ws1⟩ := DataW.trod_string Tryz.underlying9 t12
  obtain rfl := (List.cons.inj e10).1
  obtain rfl := (List.cons.inj e11).1
  obtain rfl := (List.cons.inj e12).1
  obtain ⟨c20, c21, c22, y20, y21, y22, n2, rfl, rfl, rfl, t20, t21, t22⟩ := Joins.open_agg3 Tryz.underlying23 one23 cells23 (hval 2 23 v2 rfl rfl) h2
  obtain ⟨k2, e20, rfl, wk2⟩ := DataW.trod_int Tryz.underlying3 t20
  obtain ⟨m2, e21, rfl, wm2⟩ := DataW.trod_int Tryz.underlying3 t21
  obtain ⟨s2, e22, rfl, ws2⟩ := DataW.trod_string Tryz.underlying9 t22
  obtain rfl := (List.cons.inj e20).1
  obtain rfl := (List.cons.inj e21).1
  obtain rfl := (List.cons.inj e22).1
  simp only [List.append_nil] at hW'
  have hops : Ops W := ops_of_laid ((laid_plain W).mp hL) hsh
  refine (law_moments a0 l0 c0 hl0 (k1, m1, s1) (k2, m2, s2) ws1 ws2 W hI0 hops).mono fun e W' ⟨he, hb⟩ => ?_
  subst he
  exact ⟨_, rfl, _, _, _, [], _, [], hW', trodAll_mk1 (shut_bool Tryz.underlying4 _), trodAll_mk3 (hb.trod KP.laidOut readable51 row51 h0 (fun x hx => hA.lt x (by simp [hx]))) (Joins.shut_agg3 Tryz.underlying23 one23 cells23 (y0 := (.lit (.int .i64 k1), [])) (y1 := (.lit (.int .i64 m1), [])) (y2 := (.lit (.string s1.data.toList), [])) (Joins.field_of_Trod (shut_int Tryz.underlying3 wk1) rfl) (Joins.field_of_Trod (shut_int Tryz.underlying3 wm1) rfl) (Joins.field_of_Trod (Go.ChangeMaps.shut_string Tryz.underlying9 ws1) rfl)) (Joins.shut_agg3 Tryz.underlying23 one23 cells23 (y0 := (.lit (.int .i64 k2), [])) (y1 := (.lit (.int .i64 m2), [])) (y2 := (.lit (.string s2.data.toList), [])) (Joins.field_of_Trod (shut_int Tryz.underlying3 wk2) rfl) (Joins.field_of_Trod (shut_int Tryz.underlying3 wm2) rfl) (Joins.field_of_Trod (Go.ChangeMaps.shut_string Tryz.underlying9 ws2) rfl)), rfl, hb.frame _, fun h => by cases h⟩
set_option maxRecDepth 100000 in
theorem closed011 : joinedFacts Tryz.prog 11 Tryz.f11 Rows.valueMomentsSpec Rows.valueMomentsRow = true := by
  unfold joinedFacts
  exact (KP.and_t (KP.and_t (KP.and_t (KP.and_t (KP.and_t (KP.and_t (KP.and_t (KP.and_t (KP.and_t (KP.and_t (KP.and_t (KP.and_t (KP.and_t (KP.and_t (KP.and_t (KP.and_t (KP.and_t (KP.and_t (KP.and_t (KP.and_t (KP.and_t (KP.and_t (KP.and_t (KP.and_t (KP.and_t (KP.and_t (KP.and_t (KP.and_t (KP.and_t (KP.and_t (KP.and_t KvalueMoments.x0 KP.laidOut) KP.mapsRowed) KvalueMoments.x1) KvalueMoments.x2) KvalueMoments.x3) KP.noStops) KvalueMoments.x4) KP.noKnobs) KvalueMoments.x5) KvalueMoments.x6) KvalueMoments.x7) KvalueMoments.x8) KvalueMoments.x9) KvalueMoments.x10) KvalueMoments.x11) KvalueMoments.x12) KvalueMoments.x13) KvalueMoments.x14) KvalueMoments.x15) KvalueMoments.x16) KvalueMoments.x17) KvalueMoments.x18) KvalueMoments.x19) KP.heard) KP.enters) KvalueMoments.x20) KvalueMoments.x21) KvalueMoments.x22) KvalueMoments.x23) KvalueMoments.x24) KvalueMoments.x25)
theorem valueMoments_closed : joinedFacts Tryz.pinned.checked.prog 11 Tryz.f11 Rows.valueMomentsSpec Rows.valueMomentsRow = true := closed011
theorem valueMoments_said : Rows.ValueMomentsSaid :=
  OpenClaim.holds_of_wide 11 Tryz.f11 rfl rfl rfl rfl rfl rfl rfl ⟨rfl, rfl, rfl, rfl, rfl⟩ rfl rfl rfl rfl rfl KvalueMoments.named Tryz.func11 valueMoments_closed KvalueMoments.inst KvalueMoments.wrap
    (fun os started H enc _ => valueMoments_lifted os started H enc)
theorem valueMoments_card : Rows.ValueMomentsCardSaid :=
  Claim7.holds_tied_plain_at .later [] [.data, .data, .data, .data, .sentinel, .sentinel, .data, .pinned, .pinned] true (true, "638d87437fe1456012d0652be4c865f3dad8114ca81620598ab648150333acef") true
    valueMoments_said (fun _ h => by cases h) KvalueMoments.byText (fun _ h => by cases h) valueMoments_row_tie rfl ⟨rfl, rfl⟩ KP.mains rfl
    (fun f fn hf hfn => by
      obtain rfl : f = 11 := (Option.some.inj (KvalueMoments.named.symm.trans hf)).symm
      obtain rfl : fn = Tryz.f11 := (Option.some.inj (Tryz.func11.symm.trans hfn)).symm
      exact ⟨KP.looksAt, KvalueMoments.alone⟩)
    KvalueMoments.goes
#print axioms valueMoments_card
end YtabojeleomfgnaaGreatDoor
end Go.Proofs
