/- ValueKeys, where what it reads is of bulk at most 1048576: the law returns true, and every argument reads afterwards as it read before. Conditions: that bulk, and the row's own: the listed package-level variables start as the program's text lays them (the card ties them). -/
import Derived.Test.YtabojeleomfgnaaGreatDoorU1
import Derived.JoinedCond
import Derived.Test.YtabojeleomfgnaaGreatDoorKy
import Derived.Test.YtabojeleomfgnaaGreatDoorR1
import Derived.Test.YtabojeleomfgnaaGreatDoorU2
import Derived.Test.YtabojeleomfgnaaGreatDoorRows
import Derived.Test.YtabojeleomfgnaaGreatDoorKP
import Derived.Test.YtabojeleomfgnaaGreatDoorCards
import Derived.SevenTiedAt
import Derived.ChangeMaps5
namespace Go.Proofs
open Go.RowKit
namespace YtabojeleomfgnaaGreatDoor
section
variable {H : Type} {enc : TypeId × Value → H}
theorem cond_and_shaped {a : Assume} {C : Checked} {os : Os} {f : FuncId} {fn : Func} {s : OpenSpec} {k : (H : Type) → List (DataW H) → Bool} (hk : s.cond = some k) {F : Stop.Interp} {conds : List PathCond} {apart fresh handsOn again : Bool} {X : World → Array Value → Prop}
    (hX : ∀ (w w' : World) (args : Array Value), w.heap = w'.heap → X w args → X w' args)
    (own : ownKnob C.prog.godebug = none) (started : os.Started) (noInit : C.prog.inits.idxOf? f = none) (hfn : C.prog.funcs[f]? = some fn)
    (witness : ∃ (w : World) (tape : Tape) (i : Input), w.os = os ∧ (w.forCall tape i).Shaped C.prog ∧ i.vars = [] ∧ Input.okWide C.prog (w.forCall tape i) .any w.heap.size f i ∧
      ((s.pre enc C.prog fn conds apart (w.forCall tape i).memory i.args ∧ X (w.forCall tape i).memory i.args) ∧ sizedMet enc C.prog fn s apart (w.forCall tape i).memory i.args) ∧ a.holds C.prog (lone (Frame.enter C.prog f i.args .normal) [] (w.forCall tape i)))
    (contract : ∀ (W : World) (base : Nat) (args : Array Value) (ds gs : List (DataW H)) (before : List MemPlace),
      (∀ (j : Nat) t v, fn.params[j]? = some t → args[j]? = some v → Value.okWide C.prog W .any base t v) →
      DataW.Whole enc C.prog fn.params.toList s.vars apart W args.toList ds gs before → k H (ds ++ gs) = true → X W args → W.ShapedOpen C.prog →
      Calls C.prog f args W fun e W' => ∃ v, e = .returned v ∧ (s.at F).post enc C.prog fn apart fresh handsOn again W args v W') :
    ReturnsInHanded a C os f .any (fun w args => (s.pre enc C.prog fn conds apart w args ∧ X w args) ∧ sizedMet enc C.prog fn s apart w args) ((s.at F).post enc C.prog fn apart fresh handsOn again) := by
  refine returnsInHanded_of_calls own started noInit witness ?_
  intro w tape i _ hsh _ hok hpre _
  obtain ⟨_, _, _, fn', hfn', _, _, _, _, hval⟩ := hok
  obtain rfl : fn' = fn := Option.some.inj (hfn'.symm.trans hfn)
  obtain ⟨⟨hp, hx⟩, _⟩ := hpre
  obtain ⟨ds, gs, before, hw, _, hkk⟩ := (OpenSpec.pre_some hk conds apart _ _).1 hp
  refine (contract (w.forCall tape i) w.heap.size i.args ds gs before hval (DataW.Whole.of_heap (w' := w.forCall tape i) (by rfl) hw) hkk (hX _ _ _ (by rfl) hx) hsh).mono fun e W' ⟨v, he, hp⟩ => ?_
  subst he
  exact ChangeSpec.post_blind hp
theorem cond_witness {C : Checked} {os : Os} {f : FuncId} {fn : Func} {s : OpenSpec} {k : (H : Type) → List (DataW H) → Bool} (hk : s.cond = some k) {conds : List PathCond} {apart : Bool} {X : World → Array Value → Prop} (w0 : World) (args : Array Value) (fuel : Nat) (hos : w0.os = os)
    (hsh : (w0.forCall (fun _ _ => 0) ⟨#[], args, []⟩).Shaped C.prog)
    (hok : Input.okWideB C.prog (w0.forCall (fun _ _ => 0) ⟨#[], args, []⟩) f ⟨#[], args, []⟩ = true)
    {x : List (DataW H) × List (DataW H) × List MemPlace} (hx : DataW.whole enc C.prog (w0.forCall (fun _ _ => 0) ⟨#[], args, []⟩).memory fn.params.toList s.vars apart args.toList fuel = some x)
    (hconds : conds.all (PathCond.test C.prog ⟨fn.params.toList, x.1, s.bare.plain.varTypes C.prog, x.2.1⟩) = true) (hkk : k H (x.1 ++ x.2.1) = true)
    (hsz : s.bare.sizedB enc C.prog fn apart (w0.forCall (fun _ _ => 0) ⟨#[], args, []⟩).memory args fuel = true)
    (hX : X (w0.forCall (fun _ _ => 0) ⟨#[], args, []⟩).memory args) :
    ∃ (w : World) (tape : Tape) (i : Input), w.os = os ∧ (w.forCall tape i).Shaped C.prog ∧ i.vars = [] ∧ Input.okWide C.prog (w.forCall tape i) .any w.heap.size f i ∧
      ((s.pre enc C.prog fn conds apart (w.forCall tape i).memory i.args ∧ X (w.forCall tape i).memory i.args) ∧ sizedMet enc C.prog fn s apart (w.forCall tape i).memory i.args) ∧ ({} : Assume).holds C.prog (lone (Frame.enter C.prog f i.args .normal) [] (w.forCall tape i)) :=
  ⟨w0, fun _ _ => 0, ⟨#[], args, []⟩, hos, hsh, (Input.okWide_of_okWideB (base := 0) hok).1, (Input.okWide_of_okWideB hok).2, ⟨⟨(OpenSpec.pre_some hk conds apart _ _).2 ⟨x.1, x.2.1, x.2.2, DataW.Whole_of_whole hx, hconds, hkk⟩, hX⟩, sizedMet_of_sizedB hsz⟩, by
    simp only [Assume.holds]
    exact ⟨by simp, by simp, fun h => (by cases h), by simp, by simp⟩⟩
end
end YtabojeleomfgnaaGreatDoor
end Go.Proofs
namespace Go.Proofs
open Go.RowKit
namespace YtabojeleomfgnaaGreatDoor
set_option maxRecDepth 100000
theorem fromKey_n (a : Option Addr) (c n : Nat) (S : List Int) (R : List V3 × Int) (w : World) (hn : S.length = n) (hl : n ≤ 200000000) (h : Lsb w a S) (hS : bytesOk S) (hR : parseL S.length S [] = R) : Calls Tryz.prog 25 #[.slice a n c] w fun e w' => ParP R w e w' := by
  subst hn hR
  exact fromKey_t a c S w hl h hS
theorem unkeyed_n (a : Option Addr) (c n : Nat) (S : List Int) (R : List V3 × Int) (w : World) (hn : S.length = n) (hl : n ≤ 200000000) (hc : n ≤ c) (h : Lsb w a S) (hS : bytesOk S) (hR : parseL S.length S [] = R) : Calls Tryz.prog 26 #[.slice a n c] w fun e w' => ParP R w e w' := by
  subst hn hR
  exact unkeyed_t a c S w hl hc h hS
theorem bytesEq_n (a a' : Option Addr) (c c' n : Nat) (S : List Int) (w : World) (hn : S.length = n) (h : Lsb w a S) (h' : Lsb w a' S) : Calls Tryz.prog 27 #[.slice a n c, .slice a' n c'] w fun e w' => e = .returned (.bool true) ∧ w' = w := by
  subst hn
  exact bytesEq_t a a' c c' S w h h'
theorem slicesEq_n (a a' : Option Addr) (c c' n : Nat) (L : List V3) (w : World) (hn : L.length = n) (hl : n ≤ 1000000000) (h : Lst w a L) (h' : Lst w a' L) : Calls Tryz.prog 29 #[.slice a n c, .slice a' n c'] w fun e w' => e = .returned (.bool true) ∧ Below w.heap.size w w' := by
  subst hn
  exact slicesEq_t a a' c c' L w hl h h'
theorem hashOf_n (a : Option Addr) (c n : Nat) (S : List Int) (H : Int) (w : World) (hn : S.length = n) (hl : n ≤ 100000000000000) (h : Lsb w a S) (hS : bytesOk S) (hH : hashI S = H) : Calls Tryz.prog 31 #[.slice a n c] w fun e w' => e = .returned (.int .u64 H) ∧ w' = w := by
  subst hn hH
  exact hashOf_t a c S w hl h hS
set_option maxHeartbeats 8000000 in
theorem law_keys (a a' : Option Addr) (c c' n n' : Nat) (L : List V3) (S : List Int) (w : World) (ho : Ops w) (hn : L.length = n) (hn' : S.length = n') (hl : n ≤ 1048576) (hl' : n' ≤ 1048576) (hc' : n' ≤ c') (h : Lst w a L) (h' : Lsb w a' S) (hS : bytesOk S) :
    Calls Tryz.prog 5 #[.slice a n c, .slice a' n' c'] w fun e w' => e = .returned (.bool true) ∧ Below w.heap.size w w' := by
  have HO := Lib.hid ho
  have H := Lib.hid h
  have H' := Lib.hid h'
  have HS := Lib.hid hS
  have HN' := Lib.hid hn'
  have CK := Lib.hid (fun w (h : Lst w a L) => (show Calls Tryz.prog 24 #[.slice a n c] w fun e w' => KeyP (keyL L) w e w' by subst hn; exact key_t a c L w (by omega) h))
  have CD := Lib.hid (fun w (h : Lst w a L) => (show Calls Tryz.prog 28 #[.slice a n c] w fun e w' => KeyP (keyL L) w e w' by subst hn; exact keyed_t a c L w (by omega) h))
  have CH := Lib.hid (fun w (h : Lst w a L) => (show Calls Tryz.prog 30 #[.slice a n c] w fun e w' => e = .returned (.int .u64 (hashI (keyL L))) ∧ Below w.heap.size w w' by subst hn; exact hash_t a c L w (by omega) h))
  have hkl : (keyL L).length ≤ 200000000 := by have := keyL_len L; omega
  have HKO := Lib.hid (keyL_ok L)
  generalize keyL L = K at *
  obtain ⟨kn, hkn⟩ : ∃ kn, K.length = kn := ⟨_, rfl⟩
  have HKN := Lib.hid hkn
  rw [hkn] at hkl
  obtain ⟨R, hR⟩ : ∃ R, parseL K.length K [] = R := ⟨_, rfl⟩
  obtain ⟨R2, hR2⟩ : ∃ R, parseL S.length S [] = R := ⟨_, rfl⟩
  have HR := Lib.hid hR
  have HR2 := Lib.hid hR2
  have RR : Hid (∀ x ∈ R.1, Right x) := Lib.hid (by rw [← hR]; exact parse_right _ _ _ (fun x hx => by cases hx))
  have RR2 : Hid (∀ x ∈ R2.1, Right x) := Lib.hid (by rw [← hR2]; exact parse_right _ _ _ (fun x hx => by cases hx))
  have hc1 : R.1.length ≤ 1000000000 := by rw [← hR]; have := parse_count K.length K []; simp only [List.length_nil] at this; omega
  have hc2 : R2.1.length ≤ 1000000000 := by rw [← hR2]; have := parse_count S.length S []; simp only [List.length_nil] at this; omega
  obtain ⟨L1, e1⟩ := R
  obtain ⟨L2, e2⟩ := R2
  dsimp only at RR RR2 hc1 hc2
  obtain ⟨m1, hm1⟩ : ∃ m1, L1.length = m1 := ⟨_, rfl⟩
  obtain ⟨m2, hm2⟩ : ∃ m2, L2.length = m2 := ⟨_, rfl⟩
  have HM1 := Lib.hid hm1
  have HM2 := Lib.hid hm2
  rw [hm1] at hc1
  rw [hm2] at hc2
  obtain ⟨HH, hHH⟩ : ∃ HH, hashI K = HH := ⟨_, rfl⟩
  have HHH := Lib.hid hHH
  rw [hHH] at CH
  clear ho h h' hS hn hn' hkn hR hR2 hm1 hm2 hHH
  go_enter Tryz.func5, Tryz.ntmps5
  go_wp2_with fail
  refine (CK.out _ H.out).mono ?_
  rintro e w1 ⟨v1, rfl, hA1⟩
  obtain ⟨ak, ck, e0, hck, hk1⟩ := hA1.bytes'
  rw [HKN.out] at e0 hck
  subst e0
  have B1 := Lib.hid hA1.2
  have D1 := Lib.hid hk1
  clear hA1 hk1
  go_wp2_with fail
  refine (fromKey_n ak ck kn K _ _ HKN.out hkl D1.out HKO.out HR.out).mono ?_
  rintro e w2 ⟨v2, rfl, hA2⟩
  obtain ⟨a2, c2, e0, hl2⟩ := hA2.lst RR.out
  dsimp only at e0
  rw [HM1.out] at e0
  subst e0
  have B2 := Lib.hid (below_call B1.out hA2.2)
  have D2 := Lib.hid (D1.out.below hA2.2)
  have G2 := Lib.hid hl2
  clear hA2 hl2
  go_wp2_with fail
  refine (unkeyed_n ak ck kn K _ _ HKN.out hkl hck D2.out HKO.out HR.out).mono ?_
  rintro e w3 ⟨v3, rfl, hA3⟩
  obtain ⟨a3, c3, e0, hl3⟩ := hA3.lst RR.out
  dsimp only at e0
  rw [HM1.out] at e0
  subst e0
  have B3 := Lib.hid (below_call B2.out hA3.2)
  have D3 := Lib.hid (D2.out.below hA3.2)
  have G3 := Lib.hid (G2.out.below hA3.2)
  have J3 := Lib.hid hl3
  clear hA3 hl3 D1 D2 G2
  go_wp2_with fail
  refine (fromKey_n a' c' n' S _ _ HN'.out (by omega) (H'.out.below B3.out) HS.out HR2.out).mono ?_
  rintro e w4 ⟨v4, rfl, hA4⟩
  obtain ⟨a4, c4, e0, hl4⟩ := hA4.lst RR2.out
  dsimp only at e0
  rw [HM2.out] at e0
  subst e0
  have B4 := Lib.hid (below_call B3.out hA4.2)
  have D4 := Lib.hid (D3.out.below hA4.2)
  have G4 := Lib.hid (G3.out.below hA4.2)
  have J4 := Lib.hid (J3.out.below hA4.2)
  have P4 := Lib.hid hl4
  clear hA4 hl4 D3 G3 J3
  go_wp2_with fail
  refine (unkeyed_n a' c' n' S _ _ HN'.out (by omega) hc' (H'.out.below B4.out) HS.out HR2.out).mono ?_
  rintro e w5 ⟨v5, rfl, hA5⟩
  obtain ⟨a5, c5, e0, hl5⟩ := hA5.lst RR2.out
  dsimp only at e0
  rw [HM2.out] at e0
  subst e0
  have B5 := Lib.hid (below_call B4.out hA5.2)
  have D5 := Lib.hid (D4.out.below hA5.2)
  have G5 := Lib.hid (G4.out.below hA5.2)
  have J5 := Lib.hid (J4.out.below hA5.2)
  have P5 := Lib.hid (P4.out.below hA5.2)
  have Q5 := Lib.hid hl5
  clear hA5 hl5 D4 G4 J4 P4
  go_wp2_with fail
  refine (values_true _ (HO.out.below B5.out)).mono ?_
  rintro e w6 ⟨rfl, hb⟩
  have B6 := Lib.hid (below_call B5.out hb)
  have D6 := Lib.hid (D5.out.below hb)
  have G6 := Lib.hid (G5.out.below hb)
  have J6 := Lib.hid (J5.out.below hb)
  have P6 := Lib.hid (P5.out.below hb)
  have Q6 := Lib.hid (Q5.out.below hb)
  clear hb D5 G5 J5 P5 Q5
  go_wp2_with fail
  refine (CD.out _ (H.out.below B6.out)).mono ?_
  rintro e w7 ⟨v7, rfl, hA7⟩
  obtain ⟨a7, c7, e0, _, hk7⟩ := hA7.bytes'
  rw [HKN.out] at e0
  subst e0
  have B7 := Lib.hid (below_call B6.out hA7.2)
  have D7 := Lib.hid (D6.out.below hA7.2)
  have G7 := Lib.hid (G6.out.below hA7.2)
  have J7 := Lib.hid (J6.out.below hA7.2)
  have P7 := Lib.hid (P6.out.below hA7.2)
  have Q7 := Lib.hid (Q6.out.below hA7.2)
  have Z7 := Lib.hid hk7
  clear hA7 hk7 D6 G6 J6 P6 Q6
  go_wp2_with fail
  refine (bytesEq_n ak a7 ck c7 kn K _ HKN.out D7.out Z7.out).mono ?_
  rintro e wx ⟨rfl, hwx⟩
  rw [hwx]
  clear hwx wx
  go_wp2_with fail
  refine (slicesEq_n a2 a3 c2 c3 m1 L1 _ HM1.out hc1 G7.out J7.out).mono ?_
  rintro e w8 ⟨rfl, hb⟩
  have B8 := Lib.hid (below_call B7.out hb)
  have P8 := Lib.hid (P7.out.below hb)
  have Q8 := Lib.hid (Q7.out.below hb)
  clear hb D7 G7 J7 P7 Q7 Z7
  go_wp2_with fail
  refine (slicesEq_n a4 a5 c4 c5 m2 L2 _ HM2.out hc2 P8.out Q8.out).mono ?_
  rintro e w9 ⟨rfl, hb⟩
  have B9 := Lib.hid (below_call B8.out hb)
  clear hb P8 Q8
  go_wp2_with fail
  refine (CH.out _ (H.out.below B9.out)).mono ?_
  rintro e w10 ⟨rfl, hb⟩
  have B10 := Lib.hid (below_call B9.out hb)
  clear hb
  go_wp2_with fail
  refine (CD.out _ (H.out.below B10.out)).mono ?_
  rintro e w11 ⟨v11, rfl, hA11⟩
  obtain ⟨a11, c11, e0, _, hk11⟩ := hA11.bytes'
  rw [HKN.out] at e0
  subst e0
  have B11 := Lib.hid (below_call B10.out hA11.2)
  have Z11 := Lib.hid hk11
  clear hA11 hk11
  go_wp2_with fail
  refine (hashOf_n a11 c11 kn K HH _ HKN.out (by omega) Z11.out HKO.out HHH.out).mono ?_
  rintro e wx ⟨rfl, hwx⟩
  rw [hwx]
  clear hwx wx
  go_wp2_with fail
  go_ret
  exact ⟨rfl, B11.out⟩
end YtabojeleomfgnaaGreatDoor
end Go.Proofs
namespace Go.Proofs
open Go.RowKit
namespace YtabojeleomfgnaaGreatDoor
set_option maxRecDepth 100000
theorem bulk_pos {H : Type} (d : DataW H) : 1 ≤ Rows.uptoBulk d := by
  cases d with
  | lit l => cases l <;> (unfold Rows.uptoBulk; omega)
  | _ => unfold Rows.uptoBulk; omega
theorem bulk_all {H : Type} : ∀ l : List (DataW H), l.length ≤ Rows.uptoBulkAll l
  | [] => Nat.zero_le _
  | d :: r => by
    have := bulk_all r
    have := bulk_pos d
    unfold Rows.uptoBulkAll
    rw [List.length_cons]
    omega
theorem bulk_slice {H : Type} {enc : TypeId × Value → H} {w : World} {t e : TypeId} (ht : Tryz.prog.underlying t = some (.slice e)) {a : Option Addr} {len cap : Nat} {d : DataW H} {p : List MemPlace} (h : DataW.Trod enc Tryz.prog w 0 (fun _ => true) true t (.slice a len cap) d p) :
    len ≤ Rows.uptoBulk d ∧ len ≤ cap := by
  obtain ⟨n, hn⟩ := Joins.field_of_Trod h rfl
  rcases Go.Deep.open_slice ht hn with ⟨e1, e2⟩ | ⟨a', len', cap', m, n', D, Pl, e1, _, hl, hc, hm, e2, hi⟩
  · simp at e1
    omega
  · simp at e1
    obtain ⟨rfl, rfl, rfl⟩ := e1
    simp only [Prod.mk.injEq] at e2
    obtain ⟨rfl, _⟩ := e2
    have := bulk_all ((List.range len).map D)
    rw [List.length_map, List.length_range] at this
    unfold Rows.uptoBulk
    omega
theorem cells5' : Tryz.prog.cellsOf 5 = 1 := by kernel_rfl
theorem open_bytelist {H : Type} {enc : TypeId × Value → H} {w : World} {base : Nat} {v : Value} {d : DataW H} {p : List MemPlace} (hv : Value.okWide Tryz.prog w .any base 32 v) (h : DataW.Trod enc Tryz.prog w 0 (fun _ => true) true 32 v d p) :
    ∃ (a : Option Addr) (S : List Int) (cap : Nat), v = .slice a S.length cap ∧ Lsb w a S ∧ bytesOk S := by
  obtain ⟨a, len, cap, rfl⟩ := WideShapes.okWide_slice Tryz.underlying32 hv
  obtain ⟨n, hn⟩ := Joins.field_of_Trod h rfl
  rcases Go.ChangeShapes.open_ints Tryz.underlying32 Tryz.underlying5 cells5' hn with ⟨e, _⟩ | ⟨a', len', cap', zs, e, _, hl, hc, hz, _, hi, hw⟩
  · simp at e
    obtain ⟨rfl, rfl, rfl⟩ := e
    exact ⟨none, [], 0, rfl, (fun k p hk => by cases hk), (fun p hp => by cases hp)⟩
  · simp at e
    obtain ⟨rfl, rfl, rfl⟩ := e
    have hlm : len ≤ zs.length := by rw [hz]; split <;> omega
    refine ⟨some a', zs.take len, cap, by rw [List.length_take, Nat.min_eq_left hlm], ?_, ?_⟩
    · intro k p hk
      have hlt := some_lt hk
      rw [List.length_take] at hlt
      obtain ⟨b, o, sp⟩ := a'
      have hsp : sp = none := by
        have := hi 0 (by omega)
        exact cell_spot (by simpa [Addr.add] using this)
      subst hsp
      have ad : ∀ j, ((⟨b, o, none⟩ : Addr).add j) = ⟨b, o + j, none⟩ := fun j => by unfold Addr.add; by_cases hj : j = 0 <;> simp [hj]
      refine ⟨b, o, rfl, ?_⟩
      have h1 := hi k (by omega)
      rw [ad] at h1
      rw [h1]
      rw [List.getElem?_take, if_pos (by omega)] at hk
      rw [List.getD_eq_getElem?_getD, hk]
      rfl
    · intro p hp
      have h1 := hw p (List.mem_of_mem_take hp)
      simp [Lit.wf, IntKind.min, IntKind.max, IntKind.signed, IntKind.bits] at h1
      omega
theorem readable32 : Tryz.prog.readableRec 32 = true := by kernel_rfl
theorem row32 : 32 < Tryz.prog.types.size := of_decide_eq_true (by kernel_rfl)
end YtabojeleomfgnaaGreatDoor
end Go.Proofs
namespace Go.Proofs.YtabojeleomfgnaaGreatDoor
open Go
namespace KvalueKeysUpto
theorem x0 : (Rows.valueKeysUptoRow.wf (OpenSpec.ofChange (Rows.OpenSpec.upto Rows.valueKeysSpec).bare)) = true := by kernel_rfl
theorem x1 : (Tryz.f5.params.all (Tryz.prog.readableRec ·)) = true := by kernel_rfl
theorem x2 : (namedTie Tryz.prog Rows.valueKeysUptoRow.named (Rows.OpenSpec.upto Rows.valueKeysSpec).bare.vars) = true := by kernel_rfl
theorem x3 : ((Rows.valueKeysUptoRow.stops == [])) = true := by kernel_rfl
theorem x4 : ((Rows.valueKeysUptoRow.knobs == [])) = true := by kernel_rfl
theorem x5 : ((Rows.valueKeysUptoRow.inPlace == Tryz.prog.inPlace 5)) = true := by kernel_rfl
theorem x6 : ((Rows.valueKeysUptoRow.unfollowed == Tryz.prog.unfollowed 5)) = true := by kernel_rfl
theorem x7 : ((Rows.valueKeysUptoRow.recurses == Tryz.prog.recurses 5)) = true := by kernel_rfl
theorem x8 : ((Rows.valueKeysUptoRow.named == Tryz.prog.varsNamed 5)) = true := by kernel_rfl
theorem x9 : ((Rows.valueKeysUptoRow.maps == (Tryz.f5.params.toList ++ (Rows.OpenSpec.upto Rows.valueKeysSpec).bare.plain.varTypes Tryz.prog).any (Tryz.prog.mapsRec ·))) = true := by kernel_rfl
theorem x10 : ((Rows.valueKeysUptoRow.ifaces == (Tryz.f5.params.toList ++ (Rows.OpenSpec.upto Rows.valueKeysSpec).bare.plain.varTypes Tryz.prog).any (Tryz.prog.ifacesRec ·))) = true := by kernel_rfl
theorem x11 : ((Rows.valueKeysUptoRow.mapsOut == Tryz.prog.mapsAmong Tryz.f5.resultTypes.toList)) = true := by kernel_rfl
theorem x12 : ((Rows.valueKeysUptoRow.loops == (Tryz.f5.params.toList ++ (Rows.OpenSpec.upto Rows.valueKeysSpec).bare.plain.varTypes Tryz.prog).any (Tryz.prog.loopsFrom ·))) = true := by kernel_rfl
theorem x13 : ((Rows.valueKeysUptoRow.wideKeys == (Tryz.f5.params.toList ++ (Rows.OpenSpec.upto Rows.valueKeysSpec).bare.plain.varTypes Tryz.prog ++ Tryz.f5.resultTypes.toList).any (Tryz.prog.wideKeysFrom ·))) = true := by kernel_rfl
theorem x14 : ((Rows.OpenSpec.upto Rows.valueKeysSpec).bare.vars.all (Tryz.prog.varReadable ·)) = true := by kernel_rfl
theorem x15 : (Tryz.f5.resultTypes.all (fun t => Tryz.prog.readableRec t && decide (t < Tryz.prog.types.size))) = true := by kernel_rfl
theorem x16 : ((Rows.valueKeysUptoRow.ifacesOut == Tryz.f5.resultTypes.toList.any (Tryz.prog.ifacesRec ·))) = true := by kernel_rfl
theorem x17 : ((Rows.valueKeysUptoRow.loopsOut == Tryz.f5.resultTypes.toList.any (Tryz.prog.loopsFrom ·))) = true := by kernel_rfl
theorem x18 : ((Rows.valueKeysUptoRow.plainKeys == Tryz.prog.plainKeys)) = true := KP.plainKs
theorem x19 : (Rows.valueKeysUptoRow.shortTexts.isNone) = true := by kernel_rfl
theorem x20 : ((Rows.valueKeysUptoRow.lifted == Tryz.prog.liftsFinal)) = true := KP.lifts
theorem x21 : ((Tryz.prog.make == some Rows.valueKeysUptoRow.make)) = true := KP.makes
theorem x22 : ((Rows.valueKeysUptoRow.kinds == (if Rows.valueKeysUptoRow.domain.isEmpty then [] else Tryz.f5.params.toList.map fun t => match Tryz.prog.underlying t with | some (.int k) => some k | _ => none))) = true := by kernel_rfl
theorem x23 : ((Rows.valueKeysUptoRow.pinned == Rows.valueKeysUptoRow.pinnedBy)) = true := by kernel_rfl
theorem x24 : ((Rows.valueKeysUptoRow.veiled == (Tryz.f5.params.toList ++ (Rows.OpenSpec.upto Rows.valueKeysSpec).bare.plain.varTypes Tryz.prog ++ Tryz.f5.resultTypes.toList).any (Tryz.prog.veiledRec ·))) = true := by kernel_rfl
theorem x25 : (Rows.valueKeysUptoRow.veiledFits Tryz.prog Tryz.f5.params.toList (Tryz.f5.params.toList ++ (Rows.OpenSpec.upto Rows.valueKeysSpec).bare.plain.varTypes Tryz.prog ++ Tryz.f5.resultTypes.toList)) = true := by kernel_rfl
theorem named : Tryz.pinned.checked.prog.funcNamed "dumbwaiter/dumblaw1.ValueKeys" = some 5 := by kernel_rfl
theorem inst : Tryz.f5.isInstance Tryz.pinned.checked.prog Rows.valueKeysUptoRow.origin Rows.valueKeysUptoRow.targs := of_decide_eq_true (by kernel_rfl)
theorem wrap : Tryz.f5.isWrapper Tryz.pinned.checked.prog Rows.valueKeysUptoRow.wrapper Rows.valueKeysUptoRow.mainSum := by unfold Func.isWrapper; first | (rw [if_pos (by decide +kernel)]; kernel_rfl) | (rw [if_neg (by decide +kernel)]; exact ⟨rfl, rfl⟩)
theorem byText : Rows.valueKeysUptoRow.wfByText (Rows.OpenSpec.upto Rows.valueKeysSpec) = true := by kernel_rfl
theorem goes : false = Rows.valueKeysUptoRow.goesBy Tryz.pinned.checked.prog := by kernel_rfl
theorem alone (j t : Nat) (ht : Tryz.f5.params[j]? = some t) : Tryz.pinned.checked.prog.wantsStandIn t = false := by
  rw [Tryz.params5] at ht
  have hm : t ∈ [28, 32] := by simpa using Array.mem_of_getElem? ht
  have hall : ([28, 32].all fun u => !Tryz.pinned.checked.prog.wantsStandIn u) = true := by kernel_rfl
  simpa using List.all_eq_true.1 hall t hm
set_option maxRecDepth 100000 in
theorem closed0 : joinedFacts Tryz.prog 5 Tryz.f5 (Rows.OpenSpec.upto Rows.valueKeysSpec).bare Rows.valueKeysUptoRow = true := by
  unfold joinedFacts
  exact (KP.and_t (KP.and_t (KP.and_t (KP.and_t (KP.and_t (KP.and_t (KP.and_t (KP.and_t (KP.and_t (KP.and_t (KP.and_t (KP.and_t (KP.and_t (KP.and_t (KP.and_t (KP.and_t (KP.and_t (KP.and_t (KP.and_t (KP.and_t (KP.and_t (KP.and_t (KP.and_t (KP.and_t (KP.and_t (KP.and_t (KP.and_t (KP.and_t (KP.and_t (KP.and_t (KP.and_t x0 KP.laidOut) KP.mapsRowed) x1) x2) x3) KP.noStops) x4) KP.noKnobs) x5) x6) x7) x8) x9) x10) x11) x12) x13) x14) x15) x16) x17) x18) x19) KP.heard) KP.enters) x20) x21) x22) x23) x24) x25)
theorem closed : joinedFacts Tryz.pinned.checked.prog 5 Tryz.f5 (Rows.OpenSpec.upto Rows.valueKeysSpec).bare Rows.valueKeysUptoRow = true := closed0
end KvalueKeysUpto
end Go.Proofs.YtabojeleomfgnaaGreatDoor
namespace Go.Proofs
open Go.RowKit
namespace YtabojeleomfgnaaGreatDoor
open Go.ChangeShapes Go.WideShapes Go.ChangeAt
set_option maxRecDepth 100000 in
theorem valueKeysUpto_lifted (os : Os) (started : os.Started) (H : Type) (enc : TypeId × Value → H) (F : Stop.Interp) :
    ReturnsInHanded {} Tryz.checked os 5 .any (fun w args => ((Rows.OpenSpec.upto Rows.valueKeysSpec).pre enc Tryz.prog Tryz.f5 [] false w args ∧ laidMetH Tryz.prog laidL w) ∧ sizedMet enc Tryz.prog Tryz.f5 (Rows.OpenSpec.upto Rows.valueKeysSpec) false w args)
      (((Rows.OpenSpec.upto Rows.valueKeysSpec).at F).post enc Tryz.prog Tryz.f5 false true false false) := by
  refine cond_and_shaped (s := (Rows.OpenSpec.upto Rows.valueKeysSpec)) (k := Rows.uptoSmall) rfl (F := F) (C := Tryz.checked) (X := fun w _ => laidMetH Tryz.prog laidL w) (fun _ _ _ hh h => h.of_heap hh) own started (by kernel_rfl) Tryz.func5
    (cond_witness (enc := enc) (C := Tryz.checked) (os := os) (s := (Rows.OpenSpec.upto Rows.valueKeysSpec)) (k := Rows.uptoSmall) rfl (X := fun w _ => laidMetH Tryz.prog laidL w) (World.laidAll Tryz.prog os laidL) #[.slice none 0 0, .slice none 0 0] 8 (World.laidAll_os _ _ _)
      (start_shaped os _) (by kernel_rfl) (x := ([.nil, .nil], [], [])) (by kernel_rfl) rfl (by kernel_rfl) (by kernel_rfl) (start_met os _)) ?_
  intro W base args ds gs before hval0 hW hkk hL hsh
  have hval : ∀ (j : Nat) t v, Tryz.f5.params[j]? = some t → args[j]? = some v → Value.okWide Tryz.prog W .any base t v := hval0
  have hW' := hW
  obtain ⟨p, q, hA0, hV, rfl, _, _⟩ := hW
  have hA : DataW.TrodAll enc Tryz.prog W 0 (fun _ => true) true Tryz.f5.params.toList args.toList ds p := hA0
  rw [Tryz.params5] at hA hval
  obtain ⟨v0, v1, d0, d1, p0, p1, rfl, rfl, rfl, h0, h1⟩ := trodAll_two hA
  obtain ⟨rfl, rfl⟩ := trodVars_none hV
  obtain ⟨a0, l0, c0, rfl, hl0, hL0⟩ := open_list (hval 0 28 v0 rfl rfl) h0
  obtain ⟨a1, l1, c1, rfl, hL1, hB1⟩ := open_bytelist (hval 1 32 v1 rfl rfl) h1
  simp only [List.append_nil] at hW'
  have hops : Ops W := ops_of_laid ((laid_plain W).mp hL) hsh
  have hq := of_decide_eq_true hkk
  simp only [List.append_nil, Rows.uptoBulkAll] at hq
  have q0 := bulk_slice Tryz.underlying28 h0
  have q1 := bulk_slice Tryz.underlying32 h1
  have hk0 : l0.length ≤ 1048576 := by omega
  have hk1 : l1.length ≤ 1048576 := by omega
  have hk2 : l1.length ≤ c1 := q1.2
  refine (law_keys a0 a1 c0 c1 _ _ l0 l1 W hops rfl rfl hk0 hk1 hk2 hL0 hL1 hB1).mono fun e W' ⟨he, hb⟩ => ?_
  subst he
  exact ⟨_, rfl, _, _, _, [], _, [], hW', trodAll_mk1 (shut_bool Tryz.underlying4 _), trodAll_mk2 (hb.trod KP.laidOut readable28 row28 h0 (fun x hx => hA.lt x (by simp [hx]))) (hb.trod KP.laidOut readable32 row32 h1 (fun x hx => hA.lt x (by simp [hx]))), rfl, hb.frame _, fun h => by cases h⟩
theorem valueKeysUpto_said : Rows.ValueKeysUptoSaid :=
  OpenClaim.holds_of_cond 5 Tryz.f5 rfl rfl rfl rfl rfl rfl rfl ⟨rfl, rfl, rfl, rfl, rfl⟩ rfl rfl rfl rfl rfl KvalueKeysUpto.named Tryz.func5 KvalueKeysUpto.closed KvalueKeysUpto.inst KvalueKeysUpto.wrap
    (fun os started H enc _ F => valueKeysUpto_lifted os started H enc F)
theorem valueKeysUpto_card : Rows.ValueKeysUptoCardSaid :=
  Claim7.holds_tied_plain_at .later [] [.data, .data, .data, .data, .sentinel, .sentinel, .data, .pinned, .pinned] true (true, "638d87437fe1456012d0652be4c865f3dad8114ca81620598ab648150333acef") true
    valueKeysUpto_said (fun _ h => by cases h) KvalueKeysUpto.byText (fun _ h => by cases h) valueKeysUpto_row_tie rfl ⟨rfl, rfl⟩ KP.mains rfl
    (fun f fn hf hfn => by
      obtain rfl : f = 5 := (Option.some.inj (KvalueKeysUpto.named.symm.trans hf)).symm
      obtain rfl : fn = Tryz.f5 := (Option.some.inj (Tryz.func5.symm.trans hfn)).symm
      exact ⟨KP.looksAt, KvalueKeysUpto.alone⟩)
    KvalueKeysUpto.goes
#print axioms valueKeysUpto_card
end YtabojeleomfgnaaGreatDoor
end Go.Proofs
