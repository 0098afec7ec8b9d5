/- ValueTexts, where what it reads is of bulk at most 1048576: the law returns true, and every argument reads afterwards as it read before. Conditions: that bulk, and the row's own: the listed package-level variables start as the program's text lays them (the card ties them). -/
import Derived.Test.YtabojeleomfgnaaGreatDoorR1
import Derived.Test.YtabojeleomfgnaaGreatDoorTx
import Derived.Test.YtabojeleomfgnaaGreatDoorU1
import Derived.Test.YtabojeleomfgnaaGreatDoorK6
import Derived.SevenTiedAt
import Derived.ChangeMaps5
import Derived.JoinedCond
namespace Go.Proofs
open Go.RowKit
namespace YtabojeleomfgnaaGreatDoor
open Go.ChangeShapes Go.WideShapes Go.ChangeAt
set_option maxRecDepth 100000 in
theorem valueTextsUpto_lifted (os : Os) (started : os.Started) (H : Type) (enc : TypeId × Value → H) (F : Stop.Interp) :
    ReturnsInHanded {} Tryz.checked os 6 .any (fun w args => ((Rows.OpenSpec.upto Rows.valueTextsSpec).pre enc Tryz.prog Tryz.f6 [] false w args ∧ laidMetH Tryz.prog laidL w) ∧ sizedMet enc Tryz.prog Tryz.f6 (Rows.OpenSpec.upto Rows.valueTextsSpec) false w args)
      (((Rows.OpenSpec.upto Rows.valueTextsSpec).at F).post enc Tryz.prog Tryz.f6 false true false false) := by
  refine cond_and_shaped (s := (Rows.OpenSpec.upto Rows.valueTextsSpec)) (k := Rows.uptoSmall) rfl (F := F) (C := Tryz.checked) (X := fun w _ => laidMetH Tryz.prog laidL w) (fun _ _ _ hh h => h.of_heap hh) own started (by kernel_rfl) Tryz.func6
    (cond_witness (enc := enc) (C := Tryz.checked) (os := os) (s := (Rows.OpenSpec.upto Rows.valueTextsSpec)) (k := Rows.uptoSmall) rfl (X := fun w _ => laidMetH Tryz.prog laidL w) (World.laidAll Tryz.prog os laidL) #[.agg #[.int .i64 0, .int .i64 0, .string ⟨#[]⟩], .string ⟨#[]⟩] 8 (World.laidAll_os _ _ _)
      (start_shaped os _) (by kernel_rfl) (x := ([.agg [.lit (.int .i64 0), .lit (.int .i64 0), .lit (.string [])], .lit (.string [])], [], [])) (by kernel_rfl) rfl (by kernel_rfl) (by kernel_rfl) (start_met os _)) ?_
  intro W base args ds gs before hval0 hW hkk hL hsh
  have hval : ∀ (j : Nat) t v, Tryz.f6.params[j]? = some t → args[j]? = some v → Value.okWide Tryz.prog W .any base t v := hval0
  have hW' := hW
  obtain ⟨p, q, hA0, hV, rfl, _, _⟩ := hW
  have hA : DataW.TrodAll enc Tryz.prog W 0 (fun _ => true) true Tryz.f6.params.toList args.toList ds p := hA0
  rw [Tryz.params6] at hA hval
  obtain ⟨v0, v1, d0, d1, p0, p1, rfl, rfl, rfl, h0, h1⟩ := trodAll_two hA
  obtain ⟨rfl, rfl⟩ := trodVars_none hV
  obtain ⟨c00, c01, c02, y00, y01, y02, n0, rfl, rfl, rfl, t00, t01, t02⟩ := Joins.open_agg3 Tryz.underlying23 one23 cells23 (hval 0 23 v0 rfl rfl) h0
  obtain ⟨k0, e00, rfl, wk0⟩ := DataW.trod_int Tryz.underlying3 t00
  obtain ⟨m0, e01, rfl, wm0⟩ := DataW.trod_int Tryz.underlying3 t01
  obtain ⟨s0, e02, rfl, ws0⟩ := DataW.trod_string Tryz.underlying9 t02
  obtain rfl := (List.cons.inj e00).1
  obtain rfl := (List.cons.inj e01).1
  obtain rfl := (List.cons.inj e02).1
  obtain ⟨s1, rfl, rfl, rfl, ws1⟩ := Go.ChangeMaps.open_string Tryz.underlying9 (hval 1 9 v1 rfl rfl) h1
  simp only [List.append_nil] at hW'
  have hops : Ops W := ops_of_laid ((laid_plain W).mp hL) hsh
  have hbulk : s1.size ≤ 2000000 := by
    have h := of_decide_eq_true hkk
    simp only [List.append_nil, Rows.uptoBulkAll, Rows.uptoBulk] at h
    have e := Lib.size_eq s1
    omega
  refine (law_texts (k0, m0, s0) s1 ws0 hbulk W (lb_of_laid ((laid_plain W).mp hL) hsh) hops).mono fun e W' ⟨he, hb⟩ => ?_
  subst he
  exact ⟨_, rfl, _, _, _, [], _, [], hW', trodAll_mk1 (shut_bool Tryz.underlying4 _), trodAll_mk2 (Joins.shut_agg3 Tryz.underlying23 one23 cells23 (y0 := (.lit (.int .i64 k0), [])) (y1 := (.lit (.int .i64 m0), [])) (y2 := (.lit (.string s0.data.toList), [])) (Joins.field_of_Trod (shut_int Tryz.underlying3 wk0) rfl) (Joins.field_of_Trod (shut_int Tryz.underlying3 wm0) rfl) (Joins.field_of_Trod (Go.ChangeMaps.shut_string Tryz.underlying9 ws0) rfl)) (Go.ChangeMaps.shut_string Tryz.underlying9 ws1), rfl, hb.frame _, fun h => by cases h⟩
theorem valueTextsUpto_said : Rows.ValueTextsUptoSaid :=
  OpenClaim.holds_of_cond 6 Tryz.f6 rfl rfl rfl rfl rfl rfl rfl ⟨rfl, rfl, rfl, rfl, rfl⟩ rfl rfl rfl rfl rfl KvalueTextsUpto.named Tryz.func6 KvalueTextsUpto.closed KvalueTextsUpto.inst KvalueTextsUpto.wrap
    (fun os started H enc _ F => valueTextsUpto_lifted os started H enc F)
theorem valueTextsUpto_card : Rows.ValueTextsUptoCardSaid :=
  Claim7.holds_tied_plain_at .later [] [.data, .data, .data, .data, .sentinel, .sentinel, .data, .pinned, .pinned] true (true, "638d87437fe1456012d0652be4c865f3dad8114ca81620598ab648150333acef") true
    valueTextsUpto_said (fun _ h => by cases h) KvalueTextsUpto.byText (fun _ h => by cases h) valueTextsUpto_row_tie rfl ⟨rfl, rfl⟩ KP.mains rfl
    (fun f fn hf hfn => by
      obtain rfl : f = 6 := (Option.some.inj (KvalueTextsUpto.named.symm.trans hf)).symm
      obtain rfl : fn = Tryz.f6 := (Option.some.inj (Tryz.func6.symm.trans hfn)).symm
      exact ⟨KP.looksAt, KvalueTextsUpto.alone⟩)
    KvalueTextsUpto.goes
#print axioms valueTextsUpto_card
end YtabojeleomfgnaaGreatDoor
end Go.Proofs
