/- ValueLikes: for every input the law returns true, and every argument reads afterwards as it read before. Conditions: the row's own: the listed package-level variables start as the program's text lays them (the card ties them). -/
import Derived.Test.YtabojeleomfgnaaGreatDoorR1
import Derived.Test.YtabojeleomfgnaaGreatDoorS10
import Derived.Test.YtabojeleomfgnaaGreatDoorU1
import Derived.Test.YtabojeleomfgnaaGreatDoorU3
import Derived.Test.YtabojeleomfgnaaGreatDoorK10
import Derived.SevenTiedAt
import Derived.ChangeMaps5
namespace Go.Proofs
open Go.RowKit
namespace YtabojeleomfgnaaGreatDoor
open Go.ChangeShapes Go.WideShapes Go.ChangeAt
set_option maxRecDepth 100000 in
theorem valueLikes_lifted (os : Os) (started : os.Started) (H : Type) (enc : TypeId × Value → H) :
    ReturnsInHanded {} Tryz.checked os 10 .any (fun w args => (Rows.valueLikesSpec.pre enc Tryz.prog Tryz.f10 [] false w args ∧ laidMetH Tryz.prog laidL w) ∧ sizedMet enc Tryz.prog Tryz.f10 (OpenSpec.ofChange Rows.valueLikesSpec) false w args)
      (Rows.valueLikesSpec.post enc Tryz.prog Tryz.f10 false true false false) := by
  refine change_and_shaped (C := Tryz.checked) (X := fun w _ => laidMetH Tryz.prog laidL w) (fun _ _ _ hh h => h.of_heap hh) own started (by kernel_rfl) Tryz.func10
    (ChangeSpec.witness_shaped (enc := enc) (C := Tryz.checked) (os := os) (X := fun w _ => laidMetH Tryz.prog laidL w) false (World.laidAll Tryz.prog os laidL) #[.slice none 0 0, .agg #[.int .i64 0, .int .i64 0, .string ⟨#[]⟩], .agg #[.int .i64 0, .int .i64 0, .string ⟨#[]⟩]] 8 (World.laidAll_os _ _ _)
      (start_shaped os _) (by kernel_rfl) (by kernel_rfl) (by kernel_rfl) (start_met os _)) ?_
  intro W base args ds gs before hval0 hW hsz hL hsh
  have hval : ∀ (j : Nat) t v, Tryz.f10.params[j]? = some t → args[j]? = some v → Value.okWide Tryz.prog W .any base t v := hval0
  have hW' := hW
  obtain ⟨p, q, hA0, hV, rfl, _, _⟩ := hW
  have hA : DataW.TrodAll enc Tryz.prog W 0 (fun _ => true) true Tryz.f10.params.toList args.toList ds p := hA0
  rw [Tryz.params10] at hA hval
  obtain ⟨v0, v1, v2, d0, d1, d2, p0, p1, p2, rfl, rfl, rfl, h0, h1, h2⟩ := trodAll_three hA
  obtain ⟨rfl, rfl⟩ := trodVars_none hV
  obtain ⟨a0, l0, c0, rfl, hl0, hI0⟩ := open_intlist (hval 0 51 v0 rfl rfl) h0
  obtain ⟨c10, c11, c12, y10, y11, y12, n1, rfl, rfl, rfl, t10, t11, t12⟩ := Joins.open_agg3 Tryz.underlying23 one23 cells23 (hval 1 23 v1 rfl rfl) h1
  obtain ⟨k1, e10, rfl, wk1⟩ := DataW.trod_int Tryz.underlying3 t10
  obtain ⟨m1, e11, rfl, wm1⟩ := DataW.trod_int Tryz.underlying3 t11
  obtain ⟨s1, e12, rfl, ws1⟩ := DataW.trod_string Tryz.underlying9 t12
  obtain rfl := (List.cons.inj e10).1
  obtain rfl := (List.cons.inj e11).1
  obtain rfl := (List.cons.inj e12).1
  obtain ⟨c20, c21, c22, y20, y21, y22, n2, rfl, rfl, rfl, t20, t21, t22⟩ := Joins.open_agg3 Tryz.underlying23 one23 cells23 (hval 2 23 v2 rfl rfl) h2
  obtain ⟨k2, e20, rfl, wk2⟩ := DataW.trod_int Tryz.underlying3 t20
  obtain ⟨m2, e21, rfl, wm2⟩ := DataW.trod_int Tryz.underlying3 t21
  obtain ⟨s2, e22, rfl, ws2⟩ := DataW.trod_string Tryz.underlying9 t22
  obtain rfl := (List.cons.inj e20).1
  obtain rfl := (List.cons.inj e21).1
  obtain rfl := (List.cons.inj e22).1
  simp only [List.append_nil] at hW'
  have hops : Ops W := ops_of_laid ((laid_plain W).mp hL) hsh
  refine (law_likes a0 l0 c0 hl0 (k1, m1, s1) (k2, m2, s2) ws1 ws2 W hI0 hops).mono fun e W' ⟨he, hb⟩ => ?_
  subst he
  exact ⟨_, rfl, _, _, _, [], _, [], hW', trodAll_mk1 (shut_bool Tryz.underlying4 _), trodAll_mk3 (hb.trod KP.laidOut readable51 row51 h0 (fun x hx => hA.lt x (by simp [hx]))) (Joins.shut_agg3 Tryz.underlying23 one23 cells23 (y0 := (.lit (.int .i64 k1), [])) (y1 := (.lit (.int .i64 m1), [])) (y2 := (.lit (.string s1.data.toList), [])) (Joins.field_of_Trod (shut_int Tryz.underlying3 wk1) rfl) (Joins.field_of_Trod (shut_int Tryz.underlying3 wm1) rfl) (Joins.field_of_Trod (Go.ChangeMaps.shut_string Tryz.underlying9 ws1) rfl)) (Joins.shut_agg3 Tryz.underlying23 one23 cells23 (y0 := (.lit (.int .i64 k2), [])) (y1 := (.lit (.int .i64 m2), [])) (y2 := (.lit (.string s2.data.toList), [])) (Joins.field_of_Trod (shut_int Tryz.underlying3 wk2) rfl) (Joins.field_of_Trod (shut_int Tryz.underlying3 wm2) rfl) (Joins.field_of_Trod (Go.ChangeMaps.shut_string Tryz.underlying9 ws2) rfl)), rfl, hb.frame _, fun h => by cases h⟩
set_option maxRecDepth 100000 in
theorem closed010 : joinedFacts Tryz.prog 10 Tryz.f10 Rows.valueLikesSpec Rows.valueLikesRow = true := by
  unfold joinedFacts
  exact (KP.and_t (KP.and_t (KP.and_t (KP.and_t (KP.and_t (KP.and_t (KP.and_t (KP.and_t (KP.and_t (KP.and_t (KP.and_t (KP.and_t (KP.and_t (KP.and_t (KP.and_t (KP.and_t (KP.and_t (KP.and_t (KP.and_t (KP.and_t (KP.and_t (KP.and_t (KP.and_t (KP.and_t (KP.and_t (KP.and_t (KP.and_t (KP.and_t (KP.and_t (KP.and_t (KP.and_t KvalueLikes.x0 KP.laidOut) KP.mapsRowed) KvalueLikes.x1) KvalueLikes.x2) KvalueLikes.x3) KP.noStops) KvalueLikes.x4) KP.noKnobs) KvalueLikes.x5) KvalueLikes.x6) KvalueLikes.x7) KvalueLikes.x8) KvalueLikes.x9) KvalueLikes.x10) KvalueLikes.x11) KvalueLikes.x12) KvalueLikes.x13) KvalueLikes.x14) KvalueLikes.x15) KvalueLikes.x16) KvalueLikes.x17) KvalueLikes.x18) KvalueLikes.x19) KP.heard) KP.enters) KvalueLikes.x20) KvalueLikes.x21) KvalueLikes.x22) KvalueLikes.x23) KvalueLikes.x24) KvalueLikes.x25)
theorem valueLikes_closed : joinedFacts Tryz.pinned.checked.prog 10 Tryz.f10 Rows.valueLikesSpec Rows.valueLikesRow = true := closed010
theorem valueLikes_said : Rows.ValueLikesSaid :=
  OpenClaim.holds_of_wide 10 Tryz.f10 rfl rfl rfl rfl rfl rfl rfl ⟨rfl, rfl, rfl, rfl, rfl⟩ rfl rfl rfl rfl rfl KvalueLikes.named Tryz.func10 valueLikes_closed KvalueLikes.inst KvalueLikes.wrap
    (fun os started H enc _ => valueLikes_lifted os started H enc)
theorem valueLikes_card : Rows.ValueLikesCardSaid :=
  Claim7.holds_tied_plain_at .later [] [.data, .data, .data, .data, .sentinel, .sentinel, .data, .pinned, .pinned] true (true, "638d87437fe1456012d0652be4c865f3dad8114ca81620598ab648150333acef") true
    valueLikes_said (fun _ h => by cases h) KvalueLikes.byText (fun _ h => by cases h) valueLikes_row_tie rfl ⟨rfl, rfl⟩ KP.mains rfl
    (fun f fn hf hfn => by
      obtain rfl : f = 10 := (Option.some.inj (KvalueLikes.named.symm.trans hf)).symm
      obtain rfl : fn = Tryz.f10 := (Option.some.inj (Tryz.func10.symm.trans hfn)).symm
      exact ⟨KP.looksAt, KvalueLikes.alone⟩)
    KvalueLikes.goes
#print axioms valueLikes_card
end YtabojeleomfgnaaGreatDoor
end Go.Proofs
