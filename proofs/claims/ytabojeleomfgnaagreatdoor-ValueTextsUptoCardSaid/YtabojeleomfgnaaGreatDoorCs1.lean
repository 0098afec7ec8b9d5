/- The texts of values, and what reading them gives: plain mathematics, no program. Of all candidates the first of a kind with a text is what reading the text gives. What the numerals want of the world; Itoa, Atoi, ReplaceAll, Repeat, TrimPrefix, FormatBool as the texts here name them; padded. The text of a moment, by the program and by the reference. Show, by the program and by the reference; the Cast to a Text, by the reference. What a text is guessed to be; Read; the Cast of a Text, by the program. -/
import Derived.Test.YtabojeleomfgnaaGreatDoorMp2
import Derived.Test.YtabojeleomfgnaaGreatDoorWd2
import Derived.Lib.AtoiAll
import Derived.Lib.ItoaNum
import Derived.Lib.Small
import Derived.Lib.Replace
import Derived.Lib.Repeat
import Derived.Lib.Strings
import Derived.Test.YtabojeleomfgnaaGreatDoorCt1
import Derived.Test.YtabojeleomfgnaaGreatDoorT1
import Derived.Lib.AppendIntMem
import Derived.Lib.SmallJoins
import Derived.Lib.ItoaLen
import Derived.Test.YtabojeleomfgnaaGreatDoorLg1
namespace Go.Proofs
open Go.RowKit
namespace YtabojeleomfgnaaGreatDoor
set_option maxRecDepth 100000
def itoaB (n : Int) : ByteArray := ⟨(Lib.itoa n).toArray⟩
def padB (n : Int) (d : Nat) : ByteArray := ⟨(Lib.repeatL [48] (d - (Lib.itoa n).length)).toArray⟩ ++ itoaB n
noncomputable def momB (n : Int) : ByteArray := padB (yOf n) 4 ++ ⟨#[45]⟩ ++ padB (mOf n) 2 ++ ⟨#[45]⟩ ++ padB (dOf n) 2 ++ ⟨#[84]⟩ ++ padB (hourOf n) 2 ++ ⟨#[58]⟩ ++ padB (minOf n) 2 ++ ⟨#[58]⟩ ++ padB (secOf n) 2
def trueB : ByteArray := ⟨#[116, 114, 117, 101]⟩
def falseB : ByteArray := ⟨#[102, 97, 108, 115, 101]⟩
def nullB : ByteArray := ⟨#[110, 117, 108, 108]⟩
def quoB (s : ByteArray) : ByteArray := ⟨(Lib.replaceAll s.data.toList [39] [39, 39]).toArray⟩
def unqB (s : ByteArray) : ByteArray := ⟨(Lib.replaceAll s.data.toList [39, 39] [39]).toArray⟩
noncomputable def showT (x : V3) : ByteArray := if x.1 = 1 then (if x.2.1 = 1 then trueB else falseB) else if x.1 = 2 then itoaB x.2.1 else if x.1 = 3 then ⟨#[39]⟩ ++ quoB x.2.2 ++ ⟨#[39]⟩ else if x.1 = 4 then ⟨#[64]⟩ ++ momB x.2.1 else nullB
def atoiT (s : ByteArray) : Option Int := match Lib.atoiAll s.data.toList with | .ok n => some n | _ => none
def digT (s : ByteArray) (a b : Nat) : Int := (atoiT (s.extract a b)).getD (-1)
def gmomT (s : ByteArray) : V3 := if s.size = 20 then datedT (digT s 1 5) (digT s 6 8) (digT s 9 11) (digT s 12 14) (digT s 15 17) (digT s 18 20) else nullT
def numbT (s : ByteArray) : V3 := match atoiT s with | some n => numT 2 n | none => nullT
def gtextT (s : ByteArray) : V3 := if s.size < 2 then nullT else textT (unqB (s.extract 1 (s.size - 1)))
def guessT (s : ByteArray) : V3 := if s = nullB then nullT else if s = trueB then boolT true else if s = falseB then boolT false else if hpB s ⟨#[39]⟩ = true then gtextT s else if hpB s ⟨#[64]⟩ = true then gmomT s else numbT s
/-- reading a text as a value of a kind -/
noncomputable def rcT (s : ByteArray) (k : Int) : V3 := if showT (guessT s) = s ∧ (guessT s).1 = k then guessT s else nullT
def trimB (s : ByteArray) : ByteArray := ⟨(Lib.trimPrefix s.data.toList [64]).toArray⟩
noncomputable def ctextT (x : V3) : V3 := if x.1 = 3 then x else textT (trimB (showT x))
noncomputable def mfT (s : ByteArray) : Option V3 :=
  if s.size = 19 then
    match atoiT (s.extract 0 4), atoiT (s.extract 5 7), atoiT (s.extract 8 10), atoiT (s.extract 11 13), atoiT (s.extract 14 16), atoiT (s.extract 17 19) with
    | some a, some b, some c, some d, some e, some f => if (datedT a b c d e f).1 = 4 ∧ momB (datedT a b c d e f).2.1 = s then some (datedT a b c d e f) else none
    | _, _, _, _, _, _ => none
  else none
def cnumT (s : ByteArray) : List V3 := match atoiT s with | some n => [numT 2 n] | none => []
def ctxtT (s : ByteArray) : List V3 := if 1 < s.size ∧ hpB s ⟨#[39]⟩ = true then [textT (unqB (s.extract 1 (s.size - 1)))] else []
noncomputable def cmomT (s : ByteArray) : List V3 := match mfT (trimB s) with | some v => [v] | none => []
noncomputable def candT (s : ByteArray) : List V3 := [nullT, boolT true, boolT false] ++ cnumT s ++ ctxtT s ++ cmomT s
noncomputable def okT (s : ByteArray) (k : Int) (x : V3) : Bool := decide (x.1 = k) && decide (ctextT x = (3, 0, s))
noncomputable def findT (s : ByteArray) (k : Int) : V3 := ((candT s ++ candT (⟨#[64]⟩ ++ s)).find? (okT s k)).getD nullT
/-! bytes -/
theorem ba_ext {a b : ByteArray} (h : a.data.toList = b.data.toList) : a = b := by
  cases a; cases b
  simp only at h
  congr 1
  exact Array.toList_inj.1 h
theorem app_list (a b : ByteArray) : (a ++ b).data.toList = a.data.toList ++ b.data.toList := by
  rw [ByteArray.data_append, Array.toList_append]
theorem ext_lst (s : ByteArray) (a b : Nat) : (s.extract a b).data.toList = (s.data.toList.take b).drop a := by
  rw [ByteArray.data_extract, Array.toList_extract, List.extract_eq_take_drop, List.drop_take]
theorem app_left (a : ByteArray) {b c : ByteArray} (h : a ++ b = a ++ c) : b = c := by
  apply ba_ext
  have := congrArg (fun s => s.data.toList) h
  simp only [app_list] at this
  exact List.append_cancel_left this
/-! kinds -/
theorem clT_kind (x : V3) : clT x = x ∨ clT x = nullT := by
  unfold clT
  split
  · exact Or.inl rfl
  · exact Or.inr rfl
theorem numT_kind (k n : Int) : (numT k n).1 = k ∨ (numT k n).1 = 0 := by
  unfold numT
  rcases clT_kind (k, n, ByteArray.empty) with h | h <;> rw [h]
  · exact Or.inl rfl
  · exact Or.inr rfl
theorem textT_kind (s : ByteArray) : (textT s).1 = 3 ∨ (textT s).1 = 0 := by
  unfold textT
  rcases clT_kind (3, 0, s) with h | h <;> rw [h]
  · exact Or.inl rfl
  · exact Or.inr rfl
theorem datedT_kind (a b c d e f : Int) : (datedT a b c d e f).1 = 4 ∨ (datedT a b c d e f).1 = 0 := by
  unfold datedT
  split
  · exact numT_kind 4 _
  · exact Or.inr rfl
theorem gmomT_kind (s : ByteArray) : (gmomT s).1 = 4 ∨ (gmomT s).1 = 0 := by
  unfold gmomT
  split
  · exact datedT_kind _ _ _ _ _ _
  · exact Or.inr rfl
theorem gtextT_kind (s : ByteArray) : (gtextT s).1 = 3 ∨ (gtextT s).1 = 0 := by
  unfold gtextT
  split
  · exact Or.inr rfl
  · exact textT_kind _
theorem numbT_kind (s : ByteArray) : (numbT s).1 = 2 ∨ (numbT s).1 = 0 := by
  unfold numbT
  split
  · exact numT_kind 2 _
  · exact Or.inr rfl
theorem text_is {s t : ByteArray} (hs : Right (3, 0, s)) : textT t = (3, 0, s) ↔ t = s := by
  constructor
  · intro h
    unfold textT at h
    rcases clT_kind (3, 0, t) with e | e <;> rw [e] at h
    · exact congrArg (fun x : V3 => x.2.2) h
    · exact absurd (congrArg (fun x : V3 => x.1) h) (show ¬ (0 : Int) = 3 by decide)
  · intro h
    subst h
    exact clT_of_right hs
/-! first bytes -/
theorem hp_head (s : ByteArray) (c : UInt8) : hpB s ⟨#[c]⟩ = true ↔ ∃ r, s.data.toList = c :: r := by
  unfold hpB
  show List.isPrefixOf [c] s.data.toList = true ↔ _
  generalize s.data.toList = l
  cases l with
  | nil => exact ⟨fun h => (by cases h), fun ⟨r, h⟩ => (by cases h)⟩
  | cons a r =>
    simp only [List.isPrefixOf, Bool.and_true, beq_iff_eq, List.cons.injEq]
    exact ⟨fun h => ⟨r, h.symm, rfl⟩, fun ⟨r', h, _⟩ => h.symm⟩
theorem dec_head (u : Nat) : ∃ c r, Lib.decDigits u = c :: r ∧ 48 ≤ c.toNat ∧ c.toNat ≤ 57 := by
  induction u using Nat.strongRecOn with
  | ind u ih =>
    by_cases h : u < 10
    · refine ⟨UInt8.ofNat (48 + u), [], Lib.decDigits_one h, ?_⟩
      rw [UInt8.toNat_ofNat']
      omega
    · obtain ⟨c, r, e, b⟩ := ih (u / 10) (by omega)
      refine ⟨c, r ++ [UInt8.ofNat (48 + u % 10)], ?_, b⟩
      rw [Lib.decDigits, dif_neg h, e]
      rfl
theorem itoa_head (n : Int) : ∃ c r, Lib.itoa n = c :: r ∧ (c.toNat = 45 ∨ (48 ≤ c.toNat ∧ c.toNat ≤ 57)) := by
  unfold Lib.itoa
  split
  · exact ⟨45, _, rfl, Or.inl rfl⟩
  · obtain ⟨c, r, e, b⟩ := dec_head n.toNat
    exact ⟨c, r, e, Or.inr b⟩
theorem atoi_letter (s : ByteArray) {c : UInt8} {r : List UInt8} (h : s.data.toList = c :: r) (h1 : c.toNat ≠ 43) (h2 : c.toNat ≠ 45) (h3 : c.toNat < 48 ∨ 57 < c.toNat) : atoiT s = none := by
  unfold atoiT Lib.atoiAll
  rw [h]
  have e : Lib.parseMag (c :: r) = Lib.NumEnd.syntax := by
    unfold Lib.parseMag
    rw [if_neg (by simp)]
    unfold Lib.parseUint10
    rw [if_neg (by omega)]
  simp only [h1, h2, or_self, if_false, e]
theorem trim_no {s : ByteArray} (h : hpB s ⟨#[64]⟩ = false) : trimB s = s := by
  apply ba_ext
  unfold trimB Lib.trimPrefix
  have e : Lib.hasPrefix s.data.toList [64] = false := by
    rw [← h]; rfl
  simp [e]
theorem trim_at (s : ByteArray) : trimB (⟨#[64]⟩ ++ s) = s := by
  apply ba_ext
  unfold trimB Lib.trimPrefix
  rw [app_list]
  have e : Lib.hasPrefix ((⟨#[64]⟩ : ByteArray).data.toList ++ s.data.toList) [64] = true := by
    unfold Lib.hasPrefix
    simp
  rw [if_pos e]
  simp
theorem trim_yes {s : ByteArray} (h : hpB s ⟨#[64]⟩ = true) : trimB s ≠ s := by
  obtain ⟨r, e⟩ := (hp_head s 64).1 h
  intro hh
  have h2 := congrArg (fun t => t.data.toList) hh
  unfold trimB Lib.trimPrefix at h2
  have e2 : Lib.hasPrefix s.data.toList [64] = true := by rw [← h]; rfl
  rw [if_pos e2] at h2
  have h3 := congrArg List.length h2
  simp [e] at h3
end YtabojeleomfgnaaGreatDoor
end Go.Proofs
namespace Go.Proofs
open Go.RowKit
namespace YtabojeleomfgnaaGreatDoor
set_option maxRecDepth 100000
theorem okT_no {s : ByteArray} {k : Int} {x : V3} (h : x.1 ≠ k) : okT s k x = false := by unfold okT; simp [h]
theorem find_skip {s : ByteArray} {k : Int} {L : List V3} (h : ∀ x ∈ L, x.1 ≠ k) : L.find? (okT s k) = none := by
  rw [List.find?_eq_none]
  intro x hx
  rw [okT_no (h x hx)]
  decide
theorem ctext_bool (b : Bool) : ctextT (boolT b) = textT (if b then trueB else falseB) := by
  cases b
  · have e : trimB falseB = falseB := trim_no (by decide)
    show textT (trimB falseB) = _
    rw [e]; rfl
  · have e : trimB trueB = trueB := trim_no (by decide)
    show textT (trimB trueB) = _
    rw [e]; rfl
theorem ok_bool {s : ByteArray} (hs : Right (3, 0, s)) (b : Bool) : okT s 1 (boolT b) = decide (s = if b then trueB else falseB) := by
  unfold okT
  rw [ctext_bool]
  have e : (boolT b).1 = 1 := rfl
  rw [e]
  by_cases h : s = if b then trueB else falseB
  · rw [decide_eq_true h, decide_eq_true ((text_is hs).2 h.symm)]; rfl
  · rw [decide_eq_false h, decide_eq_false (fun h2 => h ((text_is hs).1 h2).symm)]; rfl
theorem base1 {s : ByteArray} (hs : Right (3, 0, s)) : ([nullT, boolT true, boolT false] : List V3).find? (okT s 1) = if s = trueB then some (boolT true) else if s = falseB then some (boolT false) else none := by
  have e0 : okT s 1 nullT = false := okT_no (by decide)
  simp only [List.find?_cons, e0, ok_bool hs, List.find?_nil, if_true]
  by_cases h1 : s = trueB
  · simp [h1]
  · by_cases h2 : s = falseB
    · have h3 : falseB ≠ trueB := by decide
      simp [h2, h3]
    · simp [h1, h2]
theorem base_no {s : ByteArray} {k : Int} (h0 : k ≠ 0) (h1 : k ≠ 1) : ([nullT, boolT true, boolT false] : List V3).find? (okT s k) = none := by
  apply find_skip
  intro x hx
  simp only [List.mem_cons, List.not_mem_nil, or_false] at hx
  rcases hx with rfl | rfl | rfl
  · exact fun h => h0 h.symm
  · exact fun h => h1 h.symm
  · exact fun h => h1 h.symm
theorem cnum_kind {s : ByteArray} {x : V3} (h : x ∈ cnumT s) : x.1 = 2 ∨ x.1 = 0 := by
  unfold cnumT at h
  split at h
  · rw [List.mem_singleton] at h; subst h; exact numT_kind 2 _
  · exact absurd h (List.not_mem_nil)
theorem ctxt_kind {s : ByteArray} {x : V3} (h : x ∈ ctxtT s) : x.1 = 3 ∨ x.1 = 0 := by
  unfold ctxtT at h
  split at h
  · rw [List.mem_singleton] at h; subst h; exact textT_kind _
  · exact absurd h (List.not_mem_nil)
theorem mf_spec {t : ByteArray} {v : V3} (h : mfT t = some v) : v.1 = 4 ∧ momB v.2.1 = t := by
  unfold mfT at h
  split at h
  · split at h
    · split at h
      · rename_i hc
        obtain rfl := Option.some.inj h
        exact hc
      · cases h
    · cases h
  · cases h
theorem cmom_kind {s : ByteArray} {x : V3} (h : x ∈ cmomT s) : x.1 = 4 := by
  unfold cmomT at h
  split at h
  · rename_i v hv
    rw [List.mem_singleton] at h; subst h; exact (mf_spec hv).1
  · exact absurd h (List.not_mem_nil)
theorem cand1 {t s : ByteArray} (hs : Right (3, 0, s)) : (candT t).find? (okT s 1) = if s = trueB then some (boolT true) else if s = falseB then some (boolT false) else none := by
  unfold candT
  rw [List.find?_append, List.find?_append, List.find?_append, base1 hs, find_skip (L := cnumT t), find_skip (L := ctxtT t), find_skip (L := cmomT t)]
  · simp
  · intro x hx; have := cmom_kind hx; omega
  · intro x hx; have := ctxt_kind hx; omega
  · intro x hx; have := cnum_kind hx; omega
theorem cand2 {t s : ByteArray} : (candT t).find? (okT s 2) = (cnumT t).find? (okT s 2) := by
  unfold candT
  rw [List.find?_append, List.find?_append, List.find?_append, base_no (by decide) (by decide), find_skip (L := ctxtT t), find_skip (L := cmomT t)]
  · simp
  · intro x hx; have := cmom_kind hx; omega
  · intro x hx; have := ctxt_kind hx; omega
theorem cand4 {t s : ByteArray} : (candT t).find? (okT s 4) = (cmomT t).find? (okT s 4) := by
  unfold candT
  rw [List.find?_append, List.find?_append, List.find?_append, base_no (by decide) (by decide), find_skip (L := cnumT t), find_skip (L := ctxtT t)]
  · simp
  · intro x hx; have := ctxt_kind hx; omega
  · intro x hx; have := cnum_kind hx; omega
/-! the four ways to guess -/
theorem guess_kind1 {s : ByteArray} (h1 : s ≠ trueB) (h2 : s ≠ falseB) : (guessT s).1 ≠ 1 := by
  unfold guessT
  rw [if_neg h1, if_neg h2]
  split
  · decide
  · split
    · have := gtextT_kind s; omega
    · split
      · have := gmomT_kind s; omega
      · have := numbT_kind s; omega
theorem find1 {s : ByteArray} (hs : Right (3, 0, s)) : findT s 1 = rcT s 1 := by
  unfold findT
  rw [List.find?_append, cand1 hs, cand1 hs]
  unfold rcT
  by_cases h1 : s = trueB
  · subst h1
    have g : guessT trueB = boolT true := by unfold guessT; rw [if_neg (by decide), if_pos rfl]
    have e : showT (boolT true) = trueB := rfl
    rw [g, if_pos rfl, if_pos ⟨e, rfl⟩]; rfl
  · by_cases h2 : s = falseB
    · subst h2
      have g : guessT falseB = boolT false := by unfold guessT; rw [if_neg (by decide), if_neg (by decide), if_pos rfl]
      have e : showT (boolT false) = falseB := rfl
      rw [g, if_neg h1, if_pos rfl, if_pos ⟨e, rfl⟩]; rfl
    · rw [if_neg h1, if_neg h2, if_neg (fun h => guess_kind1 h1 h2 h.2)]; rfl
theorem numT_is {k n : Int} (h : (numT k n).1 = k) (hk : k ≠ 0) : numT k n = (k, n, ByteArray.empty) := by
  unfold numT at h ⊢
  rcases clT_kind (k, n, ByteArray.empty) with e | e
  · exact e
  · rw [e] at h; exact absurd h.symm hk
theorem itoa_noat (n : Int) : hpB (itoaB n) ⟨#[64]⟩ = false := by
  obtain ⟨c, r, e, b⟩ := itoa_head n
  cases h : hpB (itoaB n) ⟨#[64]⟩ with
  | false => rfl
  | true =>
    obtain ⟨r', e'⟩ := (hp_head _ _).1 h
    have e2 : (itoaB n).data.toList = Lib.itoa n := rfl
    rw [e2, e] at e'
    have := (List.cons.inj e').1
    subst this
    exact absurd b (by decide)
theorem ok_num {s : ByteArray} (hs : Right (3, 0, s)) {n : Int} (h : (numT 2 n).1 = 2) : okT s 2 (numT 2 n) = decide (itoaB n = s) := by
  unfold okT
  have e := numT_is h (by decide)
  have c : ctextT (numT 2 n) = textT (itoaB n) := by
    rw [e]
    show textT (trimB (itoaB n)) = _
    rw [trim_no (itoa_noat n)]
  rw [c, decide_eq_true h]
  by_cases hh : itoaB n = s
  · rw [decide_eq_true hh, decide_eq_true ((text_is hs).2 hh)]; rfl
  · rw [decide_eq_false hh, decide_eq_false (fun h2 => hh ((text_is hs).1 h2))]; rfl
theorem at_list (s : ByteArray) : (⟨#[64]⟩ ++ s : ByteArray).data.toList = 64 :: s.data.toList := by rw [app_list]; rfl
theorem find2 {s : ByteArray} (hs : Right (3, 0, s)) : findT s 2 = rcT s 2 := by
  unfold findT
  rw [List.find?_append, cand2, cand2]
  have e2 : cnumT (⟨#[64]⟩ ++ s) = [] := by
    unfold cnumT
    rw [atoi_letter _ (at_list s) (by decide) (by decide) (by decide)]
  rw [e2]
  have none_of : atoiT s = none → (guessT s).1 ≠ 2 → (((cnumT s).find? (okT s 2)).or (List.find? (okT s 2) [])).getD nullT = rcT s 2 := by
    intro h hg
    unfold cnumT rcT
    rw [h, if_neg (fun hh => hg hh.2)]; rfl
  by_cases h0 : s = nullB
  · exact none_of (by subst h0; exact atoi_letter _ rfl (by decide) (by decide) (by decide)) (by subst h0; unfold guessT; rw [if_pos rfl]; decide)
  by_cases h1 : s = trueB
  · exact none_of (by subst h1; exact atoi_letter _ rfl (by decide) (by decide) (by decide)) (by subst h1; unfold guessT; rw [if_neg (by decide), if_pos rfl]; decide)
  by_cases h2 : s = falseB
  · exact none_of (by subst h2; exact atoi_letter _ rfl (by decide) (by decide) (by decide)) (by subst h2; unfold guessT; rw [if_neg (by decide), if_neg (by decide), if_pos rfl]; decide)
  by_cases h3 : hpB s ⟨#[39]⟩ = true
  · obtain ⟨r, e⟩ := (hp_head _ _).1 h3
    exact none_of (atoi_letter _ e (by decide) (by decide) (by decide)) (by unfold guessT; rw [if_neg h0, if_neg h1, if_neg h2, if_pos h3]; have := gtextT_kind s; omega)
  by_cases h4 : hpB s ⟨#[64]⟩ = true
  · obtain ⟨r, e⟩ := (hp_head _ _).1 h4
    exact none_of (atoi_letter _ e (by decide) (by decide) (by decide)) (by unfold guessT; rw [if_neg h0, if_neg h1, if_neg h2, if_neg h3, if_pos h4]; have := gmomT_kind s; omega)
  have g : guessT s = numbT s := by unfold guessT; rw [if_neg h0, if_neg h1, if_neg h2, if_neg h3, if_neg h4]
  cases ha : atoiT s with
  | none => exact none_of ha (by rw [g]; unfold numbT; rw [ha]; decide)
  | some n =>
    have g2 : guessT s = numT 2 n := by rw [g]; unfold numbT; rw [ha]
    have c : cnumT s = [numT 2 n] := by unfold cnumT; rw [ha]
    unfold rcT
    rw [c, g2]
    rcases numT_kind 2 n with hk | hk
    · rw [List.find?_cons, ok_num hs hk, numT_is hk (by decide)]
      have e : showT (2, n, ByteArray.empty) = itoaB n := rfl
      rw [e]
      by_cases hh : itoaB n = s
      · rw [decide_eq_true hh, if_pos ⟨hh, rfl⟩]; rfl
      · rw [decide_eq_false hh, if_neg (fun h => hh h.1)]; rfl
    · rw [List.find?_cons, okT_no (by rw [hk]; decide), if_neg (by rw [hk]; exact fun h => absurd h.2 (by decide))]; rfl
/-! moments -/
theorem ok_mom {s t : ByteArray} (hs : Right (3, 0, s)) {v : V3} (h : mfT t = some v) : okT s 4 v = decide (t = s) := by
  obtain ⟨h4, hm⟩ := mf_spec h
  unfold okT
  have e : showT v = ⟨#[64]⟩ ++ momB v.2.1 := by unfold showT; rw [h4]; rfl
  have c : ctextT v = textT t := by
    unfold ctextT
    rw [if_neg (by rw [h4]; decide), e, trim_at, hm]
  rw [c, decide_eq_true h4]
  by_cases hh : t = s
  · rw [decide_eq_true hh, decide_eq_true ((text_is hs).2 hh)]; rfl
  · rw [decide_eq_false hh, decide_eq_false (fun h2 => hh ((text_is hs).1 h2))]; rfl
theorem cmom_find {s t : ByteArray} (hs : Right (3, 0, s)) : (cmomT t).find? (okT s 4) = if trimB t = s then mfT (trimB t) else none := by
  unfold cmomT
  cases h : mfT (trimB t) with
  | none => simp
  | some v =>
    show List.find? _ [v] = _
    rw [List.find?_cons, ok_mom hs h]
    by_cases hh : trimB t = s
    · rw [decide_eq_true hh, if_pos hh]
    · rw [decide_eq_false hh, if_neg hh]; rfl
theorem find4 {s : ByteArray} (hs : Right (3, 0, s)) : findT s 4 = (mfT s).getD nullT := by
  unfold findT
  rw [List.find?_append, cand4, cand4, cmom_find hs, cmom_find hs, trim_at, if_pos rfl]
  by_cases hh : trimB s = s
  · rw [if_pos hh, hh]; cases mfT s <;> rfl
  · rw [if_neg hh]; rfl
theorem dig_at (s : ByteArray) (a b : Nat) : digT (⟨#[64]⟩ ++ s) (a + 1) (b + 1) = (atoiT (s.extract a b)).getD (-1) := by
  unfold digT
  have e : (⟨#[64]⟩ ++ s : ByteArray).extract (a + 1) (b + 1) = s.extract a b := by
    apply ba_ext
    rw [ext_lst, ext_lst, at_list]
    rfl
  rw [e]
theorem at_size (s : ByteArray) : (⟨#[64]⟩ ++ s : ByteArray).size = s.size + 1 := by
  rw [ByteArray.size_append, Nat.add_comm]; rfl
theorem at_ne {s t : ByteArray} {c : UInt8} {r : List UInt8} (h : t.data.toList = c :: r) (hc : (64 : UInt8) ≠ c) : (⟨#[64]⟩ ++ s : ByteArray) ≠ t := by
  intro e
  have := congrArg (fun x => x.data.toList) e
  simp only [at_list, h] at this
  exact hc (List.cons.inj this).1
theorem guess_at (s : ByteArray) : guessT (⟨#[64]⟩ ++ s) = gmomT (⟨#[64]⟩ ++ s) := by
  unfold guessT
  rw [if_neg (at_ne (t := nullB) rfl (by decide)), if_neg (at_ne (t := trueB) rfl (by decide)), if_neg (at_ne (t := falseB) rfl (by decide))]
  rw [if_neg, if_pos ((hp_head _ _).2 ⟨_, at_list s⟩)]
  intro h
  obtain ⟨r, e⟩ := (hp_head _ _).1 h
  rw [at_list] at e
  exact absurd (List.cons.inj e).1 (by decide)
theorem dated_bad {a b c d e f : Int} (h : a = -1 ∨ b = -1 ∨ c = -1 ∨ d = -1 ∨ e = -1 ∨ f = -1) : datedT a b c d e f = nullT := by
  unfold datedT
  rw [if_neg]
  intro hh
  simp only [Bool.and_eq_true, yearB, monthB, dayB, hourB, sixtyB, decide_eq_true_eq] at hh
  omega
theorem gmom_at (s : ByteArray) : gmomT (⟨#[64]⟩ ++ s) = if s.size = 19 then datedT ((atoiT (s.extract 0 4)).getD (-1)) ((atoiT (s.extract 5 7)).getD (-1)) ((atoiT (s.extract 8 10)).getD (-1)) ((atoiT (s.extract 11 13)).getD (-1)) ((atoiT (s.extract 14 16)).getD (-1)) ((atoiT (s.extract 17 19)).getD (-1)) else nullT := by
  unfold gmomT
  rw [at_size, dig_at s 0 4, dig_at s 5 7, dig_at s 8 10, dig_at s 11 13, dig_at s 14 16, dig_at s 17 19]
  by_cases hz : s.size = 19
  · rw [if_pos hz, if_pos (by omega)]
  · rw [if_neg hz, if_neg (by omega)]
theorem rc4 (s : ByteArray) : rcT (⟨#[64]⟩ ++ s) 4 = (mfT s).getD nullT := by
  unfold rcT
  rw [guess_at, gmom_at]
  unfold mfT
  by_cases hz : s.size = 19
  · simp only [if_pos hz]
    have bad : ∀ a b c d e f : Int, (a = -1 ∨ b = -1 ∨ c = -1 ∨ d = -1 ∨ e = -1 ∨ f = -1) → (if showT (datedT a b c d e f) = ⟨#[64]⟩ ++ s ∧ (datedT a b c d e f).1 = 4 then datedT a b c d e f else nullT) = nullT := by
      intro a b c d e f h
      rw [dated_bad h, if_neg (fun hh => absurd hh.2 (by decide))]
    cases hA : atoiT (s.extract 0 4) with
    | none => exact bad _ _ _ _ _ _ (Or.inl rfl)
    | some a =>
    cases hB : atoiT (s.extract 5 7) with
    | none => exact bad _ _ _ _ _ _ (Or.inr (Or.inl rfl))
    | some b =>
    cases hC : atoiT (s.extract 8 10) with
    | none => exact bad _ _ _ _ _ _ (Or.inr (Or.inr (Or.inl rfl)))
    | some c =>
    cases hD : atoiT (s.extract 11 13) with
    | none => exact bad _ _ _ _ _ _ (Or.inr (Or.inr (Or.inr (Or.inl rfl))))
    | some d =>
    cases hE : atoiT (s.extract 14 16) with
    | none => exact bad _ _ _ _ _ _ (Or.inr (Or.inr (Or.inr (Or.inr (Or.inl rfl)))))
    | some e =>
    cases hF : atoiT (s.extract 17 19) with
    | none => exact bad _ _ _ _ _ _ (Or.inr (Or.inr (Or.inr (Or.inr (Or.inr rfl)))))
    | some f =>
    simp only [Option.getD_some]
    generalize datedT a b c d e f = D
    by_cases h4 : D.1 = 4
    · have e : showT D = ⟨#[64]⟩ ++ momB D.2.1 := by unfold showT; rw [h4]; rfl
      rw [e]
      by_cases hm : momB D.2.1 = s
      · rw [if_pos ⟨by rw [hm], h4⟩, if_pos ⟨h4, hm⟩]; rfl
      · rw [if_neg (fun h => hm (app_left _ h.1)), if_neg (fun h => hm h.2)]; rfl
    · rw [if_neg (fun h => h4 h.2), if_neg (fun h => h4 h.1)]; rfl
  · simp only [if_neg hz]
    rw [if_neg (fun hh => absurd hh.2 (by decide))]; rfl
/-- reading a text as a value of a kind, by the program, and as the first candidate, by the reference -/
theorem find_read {s : ByteArray} (hs : Right (3, 0, s)) {k : Int} (hk : k = 1 ∨ k = 2 ∨ k = 4) : findT s k = rcT (if k = 4 then ⟨#[64]⟩ ++ s else s) k := by
  rcases hk with rfl | rfl | rfl
  · exact find1 hs
  · exact find2 hs
  · rw [if_pos rfl, rc4, find4 hs]
end YtabojeleomfgnaaGreatDoor
end Go.Proofs
namespace Go.Proofs
open Go.RowKit
namespace YtabojeleomfgnaaGreatDoor
set_option maxRecDepth 100000
def ErrV (ev : Value) : Prop := ev = .nilIface ∨ ∃ te pe, ev = .iface te pe
structure Lb (w : World) : Prop where
  m : ∃ m, w.cell? ⟨0, 0, none⟩ = some (.int .i64 m)
  tab : Lib.TabIs Tryz.prog w "internal/strconv.uint64pow10" .u64 Lib.pow10Tab
  es : ∃ ev, w.cell? ⟨3, 0, none⟩ = some ev ∧ ErrV ev
  er : ∃ ev, w.cell? ⟨4, 0, none⟩ = some ev ∧ ErrV ev
theorem Lb.below {w w' : World} (h : Lb w) (hb : Below w.heap.size w w') : Lb w' := by
  obtain ⟨m, hm⟩ := h.m
  obtain ⟨e1, h1, k1⟩ := h.es
  obtain ⟨e2, h2, k2⟩ := h.er
  exact ⟨⟨m, (hb.cell (p := ⟨0, 0, none⟩) (block_lt_of_cell hm)).trans hm⟩, Go.Joins.tab_stays (g := 5) (by kernel_rfl) h.tab hb (Nat.le_refl _),
    ⟨e1, (hb.cell (p := ⟨3, 0, none⟩) (block_lt_of_cell h1)).trans h1, k1⟩, ⟨e2, (hb.cell (p := ⟨4, 0, none⟩) (block_lt_of_cell h2)).trans h2, k2⟩⟩
theorem Lb.alloc {w : World} (h : Lb w) (o : Obj) : Lb (w.alloc o) := h.below ((Below.refl _ w).alloc (Nat.le_refl _) o)
theorem itoa_t (n : Int) (h0 : -9223372036854775808 ≤ n) (h1 : n ≤ 9223372036854775807) (w : World) (hL : Lb w) : Calls Tryz.prog 107 #[.int .i64 n] w fun e w' => e = .returned (.string (itoaB n)) ∧ Below w.heap.size w w' :=
  (Tryz.strconv_Itoa n h0 h1 w hL.tab).mono fun _ _ ⟨he, k, os, hw⟩ => ⟨he, hw ▸ Lib.below_grow _ w (Nat.le_refl _) k os⟩
theorem itoa_size (n : Int) (h0 : -9223372036854775808 ≤ n) (h1 : n ≤ 9223372036854775807) : (itoaB n).size ≤ 21 := Lib.itoa_length_le n h0 h1
theorem atoi_ok (s : ByteArray) (hs : s.size ≤ 4000000) (n : Int) (h : atoiT s = some n) (w : World) : Calls Tryz.prog 178 #[.string s] w fun e w' => e = .returned (.tuple #[.int .i64 n, .nilIface]) ∧ Below w.heap.size w w' := by
  have h' : Lib.atoiAll s.data.toList = .ok n := by
    unfold atoiT at h
    split at h
    · rename_i v hv; rw [hv]; rw [Option.some.inj h]
    · cases h
  refine (Tryz.strconv_Atoi_ok s (by omega) n h' w).mono fun e w' ⟨he, hw⟩ => ⟨he, ?_⟩
  rcases hw with rfl | ⟨t, rfl⟩
  · exact Below.refl _ _
  · exact Lib.bytesWorld_below _ _ _
theorem atoi_no (s : ByteArray) (hs : s.size ≤ 4000000) (h : atoiT s = none) (w : World) (hL : Lb w) :
    Calls Tryz.prog 178 #[.string s] w fun e w' => (∃ k p, e = .returned (.tuple #[.int .i64 k, .iface 236 (.pointer (some ⟨p, 0, none⟩))])) ∧ Below w.heap.size w w' := by
  obtain ⟨e1, h1, k1⟩ := hL.es
  obtain ⟨e2, h2, k2⟩ := hL.er
  match ha : Lib.atoiAll s.data.toList with
  | Lib.NumEnd.ok n => unfold atoiT at h; rw [ha] at h; cases h
  | Lib.NumEnd.syntax => exact (Tryz.strconv_Atoi_syntax s (by omega) ha e1 w h1 k1).mono fun e w' ⟨p, he, _, _, hb⟩ => ⟨⟨_, p, he⟩, hb⟩
  | Lib.NumEnd.range => exact (Tryz.strconv_Atoi_range s (by omega) ha e2 w h2 k2).mono fun e w' ⟨p, he, _, _, hb⟩ => ⟨⟨_, p, he⟩, hb⟩
theorem repl_t (s old new : ByteArray) (hs : s.size ≤ 4000000) (h1 : 1 ≤ old.size) (h2 : new.size ≤ 2) (w : World) (hL : Lb w) :
    Calls Tryz.prog 108 #[.string s, .string old, .string new] w fun e w' => e = .returned (.string ⟨(Lib.replaceAll s.data.toList old.data.toList new.data.toList).toArray⟩) ∧ Below w.heap.size w w' := by
  obtain ⟨m, hm⟩ := hL.m
  refine Tryz.strings_ReplaceAll s old new m w (by omega) hm h1 ?_
  have a := Lib.countB_mul_le old h1 s.size s (Nat.le_refl _)
  have b : Lib.countB s old ≤ s.size := Nat.le_trans (Nat.le_mul_of_pos_right _ h1) a
  have c : Lib.countB s old * new.size ≤ s.size * 2 := Nat.mul_le_mul b h2
  omega
theorem quo_t (s : ByteArray) (hs : s.size ≤ 4000000) (w : World) (hL : Lb w) : Calls Tryz.prog 108 #[.string s, .string ⟨#[39]⟩, .string ⟨#[39, 39]⟩] w fun e w' => e = .returned (.string (quoB s)) ∧ Below w.heap.size w w' :=
  repl_t s ⟨#[39]⟩ ⟨#[39, 39]⟩ hs (by decide) (by decide) w hL
theorem unq_t (s : ByteArray) (hs : s.size ≤ 4000000) (w : World) (hL : Lb w) : Calls Tryz.prog 108 #[.string s, .string ⟨#[39, 39]⟩, .string ⟨#[39]⟩] w fun e w' => e = .returned (.string (unqB s)) ∧ Below w.heap.size w w' :=
  repl_t s ⟨#[39, 39]⟩ ⟨#[39]⟩ hs (by decide) (by decide) w hL
theorem repeat_t (c : Nat) (hc : c ≤ 1000) (w : World) : Calls Tryz.prog 89 #[.string ⟨#[48]⟩, .int .i64 c] w fun e w' => e = .returned (.string ⟨(Lib.repeatL [48] c).toArray⟩) ∧ Below w.heap.size w w' :=
  Tryz.strings_Repeat ⟨#[48]⟩ c w (by omega) (by show 1 * c ≤ 140737488355328; omega)
theorem trim_t (s : ByteArray) (w : World) : Calls Tryz.prog 181 #[.string s, .string ⟨#[64]⟩] w fun e w' => e = .returned (.string (trimB s)) ∧ w' = w := Tryz.strings_TrimPrefix s ⟨#[64]⟩ w
theorem fbool_t (b : Bool) (w : World) : Calls Tryz.prog 106 #[.bool b] w fun e w' => e = .returned (.string (if b then trueB else falseB)) ∧ w' = w := by
  cases b <;> exact (Tryz.strconv_FormatBool _ w).mono fun e w' ⟨he, hw⟩ => ⟨he, hw⟩
theorem replK_len (old new : List UInt8) : ∀ (k : Nat) (s : List UInt8), (Lib.replaceK old new k s).length ≤ s.length + k * new.length
  | 0, s => by unfold Lib.replaceK; omega
  | k + 1, s => by
    unfold Lib.replaceK
    split
    · omega
    · have ih := replK_len old new k (s.drop ((Lib.index s old).toNat + old.length))
      rw [List.length_append, List.length_append, List.length_take, Nat.add_mul, Nat.one_mul]
      rw [List.length_drop] at ih
      generalize k * new.length = z at *
      omega
theorem repl_len (s old new : ByteArray) (h1 : 1 ≤ old.size) : (Lib.replaceAll s.data.toList old.data.toList new.data.toList).length ≤ s.size + s.size * new.size := by
  have hs : s.data.toList.length = s.size := (Lib.size_eq s).symm
  have hn : new.data.toList.length = new.size := (Lib.size_eq new).symm
  unfold Lib.replaceAll Lib.replace
  split
  · omega
  · have a := Lib.countB_mul_le old h1 s.size s (Nat.le_refl _)
    have b : Lib.countB s old ≤ s.size := Nat.le_trans (Nat.le_mul_of_pos_right _ h1) a
    have e : Lib.replaceNum s.data.toList old.data.toList (-1) = Lib.countB s old := by unfold Lib.replaceNum; rw [if_pos (Or.inl (by decide))]
    have c := replK_len old.data.toList new.data.toList (Lib.countB s old) s.data.toList
    rw [e]
    rw [hs, hn] at c
    have d : Lib.countB s old * new.size ≤ s.size * new.size := Nat.mul_le_mul_right _ b
    omega
theorem quo_size (s : ByteArray) : (quoB s).size ≤ s.size + s.size * 2 := by
  have := repl_len s ⟨#[39]⟩ ⟨#[39, 39]⟩ (by decide)
  rw [Lib.size_eq]
  exact this
theorem unq_size (s : ByteArray) : (unqB s).size ≤ s.size + s.size * 1 := by
  have := repl_len s ⟨#[39, 39]⟩ ⟨#[39]⟩ (by decide)
  rw [Lib.size_eq]
  exact this
theorem rep_size (c : Nat) : (⟨(Lib.repeatL [48] c).toArray⟩ : ByteArray).size = c := by
  show (Lib.repeatL [48] c).toArray.size = c
  rw [List.size_toArray, Lib.repeatL_length]; simp
theorem pad_size (n : Int) (d : Nat) (h0 : -9223372036854775808 ≤ n) (h1 : n ≤ 9223372036854775807) (hd : d ≤ 4) : (padB n d).size ≤ 25 := by
  unfold padB
  rw [ByteArray.size_append, rep_size]
  have := itoa_size n h0 h1
  omega
theorem padded_t (n : Int) (d : Nat) (h0 : -9223372036854775808 ≤ n) (h1 : n ≤ 9223372036854775807) (hd : d ≤ 4) (w : World) (hL : Lb w) :
    Calls Tryz.prog 185 #[.int .i64 n, .int .i64 d] w fun e w' => e = .returned (.string (padB n d)) ∧ Below w.heap.size w w' := by
  have HC := Lib.hid (itoa_t n h0 h1 w hL)
  have hz := itoa_size n h0 h1
  have HE : Hid (padB n d = ⟨(Lib.repeatL [48] (d - (itoaB n).size)).toArray⟩ ++ itoaB n) := Lib.hid rfl
  generalize padB n d = R at HE ⊢
  generalize itoaB n = I at HC hz HE
  have hr := rep_size (d - I.size)
  have CR := Lib.hid (fun w => repeat_t (d - I.size) (by omega) w)
  generalize (⟨(Lib.repeatL [48] (d - I.size)).toArray⟩ : ByteArray) = Z at hr CR HE
  have hmax : max ((d : Int) - (I.size : Int)) 0 = ((d - I.size : Nat) : Int) := by omega
  clear h0 h1
  go_enter Tryz.func185, Tryz.ntmps185
  go_wp2_with fail
  refine HC.out.mono ?_
  rintro e w1 ⟨rfl, hb1⟩
  have B1 := Lib.hid hb1
  clear hb1
  go_wp2_with fail
  refine (CR.out w1).mono ?_
  rintro e w2 ⟨rfl, hb2⟩
  have B2 := Lib.hid (B1.out.trans (hb2.mono B1.out.size))
  clear hb2
  go_wp2
  go_ret
  exact ⟨by rw [HE.out]; rfl, B2.out⟩
theorem rpadded_t (n : Int) (d : Nat) (h0 : -9223372036854775808 ≤ n) (h1 : n ≤ 9223372036854775807) (hd : d ≤ 4) (w : World) (hL : Lb w) :
    Calls Tryz.prog 186 #[.int .i64 n, .int .i64 d] w fun e w' => e = .returned (.string (padB n d)) ∧ Below w.heap.size w w' := by
  have HC := Lib.hid (itoa_t n h0 h1 w hL)
  have hz := itoa_size n h0 h1
  have HE : Hid (padB n d = ⟨(Lib.repeatL [48] (d - (itoaB n).size)).toArray⟩ ++ itoaB n) := Lib.hid rfl
  generalize padB n d = R at HE ⊢
  generalize itoaB n = I at HC hz HE
  have hr := rep_size (d - I.size)
  have CR := Lib.hid (fun w => repeat_t (d - I.size) (by omega) w)
  generalize (⟨(Lib.repeatL [48] (d - I.size)).toArray⟩ : ByteArray) = Z at hr CR HE
  have hmax : max ((d : Int) - (I.size : Int)) 0 = ((d - I.size : Nat) : Int) := by omega
  clear h0 h1
  go_enter Tryz.func186, Tryz.ntmps186
  go_wp2_with fail
  refine HC.out.mono ?_
  rintro e w1 ⟨rfl, hb1⟩
  have B1 := Lib.hid hb1
  clear hb1
  go_wp2_with fail
  refine (CR.out w1).mono ?_
  rintro e w2 ⟨rfl, hb2⟩
  have B2 := Lib.hid (B1.out.trans (hb2.mono B1.out.size))
  clear hb2
  go_wp2
  go_ret
  exact ⟨by rw [HE.out]; rfl, B2.out⟩
end YtabojeleomfgnaaGreatDoor
end Go.Proofs
namespace Go.Proofs
open Go.RowKit
namespace YtabojeleomfgnaaGreatDoor
set_option maxRecDepth 100000
theorem run_ld3 {C : World → Prop} {o : Oper} {a : Act} (x : Operand) (ho : o.op = .load 3 x) (g i : Nat) (n : Int) (hx : a.eval x = .pointer (some ⟨g, i, none⟩)) (hS : ∀ w, C w → w.cell? ⟨g, i, none⟩ = some (.int .i64 n)) (w : World) (hw : C w) :
    (execOp a.eval o).run Tryz.prog w = .ok (.value (.int .i64 n)) w := by
  have c := hS w hw
  unfold execOp
  simp only [ho, hx]
  go_simp
theorem op_add {a : Act} {o : Oper} {u v : Operand} {t : TypeId} (x y z : ByteArray) (ho : o.op = .binOp .add 9 u v t) (hu : a.eval u = .string x) (hv : a.eval v = .string y) (hz : z = x ++ y) (hs : x.size + y.size ≤ 2000000) (w : World) :
    (execOp a.eval o).run Tryz.prog w = .ok (.value (.string z)) w := by
  subst hz
  unfold execOp
  simp only [ho, hu, hv]
  go_simp
  omega
theorem sixty_small (n : Int) : 0 ≤ hourOf n ∧ hourOf n ≤ 100 ∧ 0 ≤ minOf n ∧ minOf n ≤ 100 ∧ 0 ≤ secOf n ∧ secOf n ≤ 100 := by unfold hourOf minOf secOf; omega
theorem day_small (n : Int) (h0 : 0 ≤ n) (h1 : n ≤ 253402300799) : 0 ≤ yOf n ∧ yOf n ≤ 9999 ∧ 0 ≤ mOf n ∧ mOf n ≤ 100 ∧ 0 ≤ dOf n ∧ dOf n ≤ 100 := by
  have h := day_is n h0 h1
  have hy := day_year h (by omega)
  obtain ⟨a, b, c, d, e, _⟩ := h
  have := mdays_bounds (yOf n) (mOf n)
  omega
def Cw (g : Nat) (row : Array Value) (t : TypeId) (w0 w : World) : Prop := w.heap[g]? = some (.cells row t (0, 0)) ∧ Below w0.heap.size w0 w
theorem Cw.below {g : Nat} {row : Array Value} {t : TypeId} {w0 w w' : World} (h : Cw g row t w0 w) (hb : Below w.heap.size w w') : Cw g row t w0 w' :=
  ⟨(hb.block _ (lt_of_block h.1)).trans h.1, below_call h.2 hb⟩
set_option maxHeartbeats 4000000 in
theorem showMoment_t (n : Int) (h0 : 0 ≤ n) (h1 : n ≤ 253402300799) (w : World) (hL : Lb w) :
    Calls Tryz.prog 109 #[.int .i64 n] w fun e w' => e = .returned (.string (momB n)) ∧ Below w.heap.size w w' := by
  have HL := Lib.hid hL
  have CD := Lib.hid (dateOf_t n h0 h1 w)
  obtain ⟨s1, s2, s3, s4, s5, s6⟩ := sixty_small n
  obtain ⟨d1, d2, d3, d4, d5, d6⟩ := day_small n h0 h1
  have HE : momB n = padB (yOf n) 4 ++ ⟨#[45]⟩ ++ padB (mOf n) 2 ++ ⟨#[45]⟩ ++ padB (dOf n) 2 ++ ⟨#[84]⟩ ++ padB (hourOf n) 2 ++ ⟨#[58]⟩ ++ padB (minOf n) 2 ++ ⟨#[58]⟩ ++ padB (secOf n) 2 := rfl
  have K0 := Lib.hid (fun w hw => padded_t (yOf n) 4 (by omega) (by omega) (by omega) w hw)
  have q0 := pad_size (yOf n) 4 (by omega) (by omega) (by omega)
  have K1 := Lib.hid (fun w hw => padded_t (mOf n) 2 (by omega) (by omega) (by omega) w hw)
  have q1 := pad_size (mOf n) 2 (by omega) (by omega) (by omega)
  have K2 := Lib.hid (fun w hw => padded_t (dOf n) 2 (by omega) (by omega) (by omega) w hw)
  have q2 := pad_size (dOf n) 2 (by omega) (by omega) (by omega)
  have K3 := Lib.hid (fun w hw => padded_t (hourOf n) 2 (by omega) (by omega) (by omega) w hw)
  have q3 := pad_size (hourOf n) 2 (by omega) (by omega) (by omega)
  have K4 := Lib.hid (fun w hw => padded_t (minOf n) 2 (by omega) (by omega) (by omega) w hw)
  have q4 := pad_size (minOf n) 2 (by omega) (by omega) (by omega)
  have K5 := Lib.hid (fun w hw => padded_t (secOf n) 2 (by omega) (by omega) (by omega) w hw)
  have q5 := pad_size (secOf n) 2 (by omega) (by omega) (by omega)
  clear s1 s2 s3 s4 s5 s6 d1 d2 d3 d4 d5 d6 hL
  generalize padB (yOf n) 4 = P0 at *
  generalize padB (mOf n) 2 = P1 at *
  generalize padB (dOf n) 2 = P2 at *
  generalize padB (hourOf n) 2 = P3 at *
  generalize padB (minOf n) 2 = P4 at *
  generalize padB (secOf n) 2 = P5 at *
  generalize yOf n = a at *
  generalize mOf n = b at *
  generalize dOf n = c at *
  generalize hourOf n = d at *
  generalize minOf n = e at *
  generalize secOf n = f at *
  obtain ⟨X1, e1⟩ : ∃ X, X = P0 ++ ⟨#[45]⟩ := ⟨_, rfl⟩
  have z1 : X1.size ≤ 26 := by rw [e1, ByteArray.size_append]; show _ + 1 ≤ _; omega
  have E1 := Lib.hid e1
  obtain ⟨X2, e2⟩ : ∃ X, X = X1 ++ P1 := ⟨_, rfl⟩
  have z2 : X2.size ≤ 51 := by rw [e2, ByteArray.size_append]; omega
  have E2 := Lib.hid e2
  obtain ⟨X3, e3⟩ : ∃ X, X = X2 ++ ⟨#[45]⟩ := ⟨_, rfl⟩
  have z3 : X3.size ≤ 52 := by rw [e3, ByteArray.size_append]; show _ + 1 ≤ _; omega
  have E3 := Lib.hid e3
  obtain ⟨X4, e4⟩ : ∃ X, X = X3 ++ P2 := ⟨_, rfl⟩
  have z4 : X4.size ≤ 77 := by rw [e4, ByteArray.size_append]; omega
  have E4 := Lib.hid e4
  obtain ⟨X5, e5⟩ : ∃ X, X = X4 ++ ⟨#[84]⟩ := ⟨_, rfl⟩
  have z5 : X5.size ≤ 78 := by rw [e5, ByteArray.size_append]; show _ + 1 ≤ _; omega
  have E5 := Lib.hid e5
  obtain ⟨X6, e6⟩ : ∃ X, X = X5 ++ P3 := ⟨_, rfl⟩
  have z6 : X6.size ≤ 103 := by rw [e6, ByteArray.size_append]; omega
  have E6 := Lib.hid e6
  obtain ⟨X7, e7⟩ : ∃ X, X = X6 ++ ⟨#[58]⟩ := ⟨_, rfl⟩
  have z7 : X7.size ≤ 104 := by rw [e7, ByteArray.size_append]; show _ + 1 ≤ _; omega
  have E7 := Lib.hid e7
  obtain ⟨X8, e8⟩ : ∃ X, X = X7 ++ P4 := ⟨_, rfl⟩
  have z8 : X8.size ≤ 129 := by rw [e8, ByteArray.size_append]; omega
  have E8 := Lib.hid e8
  obtain ⟨X9, e9⟩ : ∃ X, X = X8 ++ ⟨#[58]⟩ := ⟨_, rfl⟩
  have z9 : X9.size ≤ 130 := by rw [e9, ByteArray.size_append]; show _ + 1 ≤ _; omega
  have E9 := Lib.hid e9
  obtain ⟨X10, e10⟩ : ∃ X, X = X9 ++ P5 := ⟨_, rfl⟩
  have z10 : X10.size ≤ 155 := by rw [e10, ByteArray.size_append]; omega
  have E10 := Lib.hid e10
  rw [← e1, ← e2, ← e3, ← e4, ← e5, ← e6, ← e7, ← e8, ← e9, ← e10] at HE
  clear e1 e2 e3 e4 e5 e6 e7 e8 e9 e10
  generalize momB n = R at HE ⊢
  have HR := Lib.hid HE
  clear HE
  go_enter Tryz.func109, Tryz.ntmps109
  go_wp2_with fail
  refine CD.out.mono ?_
  rintro e w1 ⟨rfl, hb1⟩
  have B1 := Lib.hid hb1
  clear hb1
  go_wp2_with (refine store120 rfl (.tmp 3) (.tmp 5) rfl w1.heap.size a b c d e f rfl rfl 0 0 0 0 0 0 (new_at _ _ _ rfl) ?_; intro w2 hp; have HP := Lib.hid hp; clear hp)
  have H2 : Hid (Cw w1.heap.size (six a b c d e f) 120 w w2) := Lib.hid ⟨HP.out.at', HP.out.below (B1.out.alloc B1.out.size _) B1.out.size⟩
  clear HP
  go_wp2_with fail
  · refine region_all (Cw w1.heap.size (six a b c d e f) 120 w) (by kernel_rfl) (by kernel_rfl) ⟨H2.out.1, H2.out.2.drew⟩ ?_
    refine s_val (.pointer (some ⟨w1.heap.size, 0, none⟩)) (by rfl) (fun w' h => by rfl) ?_
    simp only [Act.put, List.setIfInBounds_toArray, List.set_cons_zero, List.set_cons_succ]
    refine s_val (.int .i64 a) (by rfl) (run_ld3 (.tmp 6) rfl w1.heap.size 0 a rfl (fun w h => (cell_of_row w _ 0 _ _ _ h.1).trans rfl)) ?_
    simp only [Act.put, List.setIfInBounds_toArray, List.set_cons_zero, List.set_cons_succ]
    refine s_call (.string P0) 185 #[.int .i64 a, .int .i64 4] (by rfl) (fun w => by go_simp) (fun w' h => (K0.out w' (HL.out.below h.2)).mono fun e x hx => ⟨hx.1, h.below hx.2⟩) ?_
    simp only [Act.put, List.setIfInBounds_toArray, List.set_cons_zero, List.set_cons_succ]
    refine s_val (.string X1) (by rfl) (fun w' _ => op_add P0 ⟨#[45]⟩ X1 rfl rfl rfl E1.out (by show _ + 1 ≤ _; omega) w') ?_
    simp only [Act.put, List.setIfInBounds_toArray, List.set_cons_zero, List.set_cons_succ]
    refine s_val (.pointer (some ⟨w1.heap.size, 1, none⟩)) (by rfl) (fun w' h => by rfl) ?_
    simp only [Act.put, List.setIfInBounds_toArray, List.set_cons_zero, List.set_cons_succ]
    refine s_val (.int .i64 b) (by rfl) (run_ld3 (.tmp 10) rfl w1.heap.size 1 b rfl (fun w h => (cell_of_row w _ 1 _ _ _ h.1).trans rfl)) ?_
    simp only [Act.put, List.setIfInBounds_toArray, List.set_cons_zero, List.set_cons_succ]
    refine s_call (.string P1) 185 #[.int .i64 b, .int .i64 2] (by rfl) (fun w => by go_simp) (fun w' h => (K1.out w' (HL.out.below h.2)).mono fun e x hx => ⟨hx.1, h.below hx.2⟩) ?_
    simp only [Act.put, List.setIfInBounds_toArray, List.set_cons_zero, List.set_cons_succ]
    refine s_val (.string X2) (by rfl) (fun w' _ => op_add X1 P1 X2 rfl rfl rfl E2.out (by omega) w') ?_
    simp only [Act.put, List.setIfInBounds_toArray, List.set_cons_zero, List.set_cons_succ]
    refine s_val (.string X3) (by rfl) (fun w' _ => op_add X2 ⟨#[45]⟩ X3 rfl rfl rfl E3.out (by show _ + 1 ≤ _; omega) w') ?_
    simp only [Act.put, List.setIfInBounds_toArray, List.set_cons_zero, List.set_cons_succ]
    refine s_val (.pointer (some ⟨w1.heap.size, 2, none⟩)) (by rfl) (fun w' h => by rfl) ?_
    simp only [Act.put, List.setIfInBounds_toArray, List.set_cons_zero, List.set_cons_succ]
    refine s_val (.int .i64 c) (by rfl) (run_ld3 (.tmp 15) rfl w1.heap.size 2 c rfl (fun w h => (cell_of_row w _ 2 _ _ _ h.1).trans rfl)) ?_
    simp only [Act.put, List.setIfInBounds_toArray, List.set_cons_zero, List.set_cons_succ]
    refine s_call (.string P2) 185 #[.int .i64 c, .int .i64 2] (by rfl) (fun w => by go_simp) (fun w' h => (K2.out w' (HL.out.below h.2)).mono fun e x hx => ⟨hx.1, h.below hx.2⟩) ?_
    simp only [Act.put, List.setIfInBounds_toArray, List.set_cons_zero, List.set_cons_succ]
    refine s_val (.string X4) (by rfl) (fun w' _ => op_add X3 P2 X4 rfl rfl rfl E4.out (by omega) w') ?_
    simp only [Act.put, List.setIfInBounds_toArray, List.set_cons_zero, List.set_cons_succ]
    refine s_val (.string X5) (by rfl) (fun w' _ => op_add X4 ⟨#[84]⟩ X5 rfl rfl rfl E5.out (by show _ + 1 ≤ _; omega) w') ?_
    simp only [Act.put, List.setIfInBounds_toArray, List.set_cons_zero, List.set_cons_succ]
    refine s_val (.pointer (some ⟨w1.heap.size, 3, none⟩)) (by rfl) (fun w' h => by rfl) ?_
    simp only [Act.put, List.setIfInBounds_toArray, List.set_cons_zero, List.set_cons_succ]
    refine s_val (.int .i64 d) (by rfl) (run_ld3 (.tmp 20) rfl w1.heap.size 3 d rfl (fun w h => (cell_of_row w _ 3 _ _ _ h.1).trans rfl)) ?_
    simp only [Act.put, List.setIfInBounds_toArray, List.set_cons_zero, List.set_cons_succ]
    refine s_call (.string P3) 185 #[.int .i64 d, .int .i64 2] (by rfl) (fun w => by go_simp) (fun w' h => (K3.out w' (HL.out.below h.2)).mono fun e x hx => ⟨hx.1, h.below hx.2⟩) ?_
    simp only [Act.put, List.setIfInBounds_toArray, List.set_cons_zero, List.set_cons_succ]
    refine s_val (.string X6) (by rfl) (fun w' _ => op_add X5 P3 X6 rfl rfl rfl E6.out (by omega) w') ?_
    simp only [Act.put, List.setIfInBounds_toArray, List.set_cons_zero, List.set_cons_succ]
    refine s_val (.string X7) (by rfl) (fun w' _ => op_add X6 ⟨#[58]⟩ X7 rfl rfl rfl E7.out (by show _ + 1 ≤ _; omega) w') ?_
    simp only [Act.put, List.setIfInBounds_toArray, List.set_cons_zero, List.set_cons_succ]
    refine s_val (.pointer (some ⟨w1.heap.size, 4, none⟩)) (by rfl) (fun w' h => by rfl) ?_
    simp only [Act.put, List.setIfInBounds_toArray, List.set_cons_zero, List.set_cons_succ]
    refine s_val (.int .i64 e) (by rfl) (run_ld3 (.tmp 25) rfl w1.heap.size 4 e rfl (fun w h => (cell_of_row w _ 4 _ _ _ h.1).trans rfl)) ?_
    simp only [Act.put, List.setIfInBounds_toArray, List.set_cons_zero, List.set_cons_succ]
    refine s_call (.string P4) 185 #[.int .i64 e, .int .i64 2] (by rfl) (fun w => by go_simp) (fun w' h => (K4.out w' (HL.out.below h.2)).mono fun e x hx => ⟨hx.1, h.below hx.2⟩) ?_
    simp only [Act.put, List.setIfInBounds_toArray, List.set_cons_zero, List.set_cons_succ]
    refine s_val (.string X8) (by rfl) (fun w' _ => op_add X7 P4 X8 rfl rfl rfl E8.out (by omega) w') ?_
    simp only [Act.put, List.setIfInBounds_toArray, List.set_cons_zero, List.set_cons_succ]
    refine s_val (.string X9) (by rfl) (fun w' _ => op_add X8 ⟨#[58]⟩ X9 rfl rfl rfl E9.out (by show _ + 1 ≤ _; omega) w') ?_
    simp only [Act.put, List.setIfInBounds_toArray, List.set_cons_zero, List.set_cons_succ]
    refine s_val (.pointer (some ⟨w1.heap.size, 5, none⟩)) (by rfl) (fun w' h => by rfl) ?_
    simp only [Act.put, List.setIfInBounds_toArray, List.set_cons_zero, List.set_cons_succ]
    refine s_val (.int .i64 f) (by rfl) (run_ld3 (.tmp 30) rfl w1.heap.size 5 f rfl (fun w h => (cell_of_row w _ 5 _ _ _ h.1).trans rfl)) ?_
    simp only [Act.put, List.setIfInBounds_toArray, List.set_cons_zero, List.set_cons_succ]
    refine s_call (.string P5) 185 #[.int .i64 f, .int .i64 2] (by rfl) (fun w => by go_simp) (fun w' h => (K5.out w' (HL.out.below h.2)).mono fun e x hx => ⟨hx.1, h.below hx.2⟩) ?_
    simp only [Act.put, List.setIfInBounds_toArray, List.set_cons_zero, List.set_cons_succ]
    refine s_val (.string X10) (by rfl) (fun w' _ => op_add X9 P5 X10 rfl rfl rfl E10.out (by omega) w') ?_
    simp only [Act.put, List.setIfInBounds_toArray, List.set_cons_zero, List.set_cons_succ]
    refine s_val (.string X10) (by rfl) (fun w' _ => by rfl) ?_
    simp only [Act.put, List.setIfInBounds_toArray, List.set_cons_zero, List.set_cons_succ]
    refine s_done ?_
    intro w3 h3
    have B3 := Lib.hid h3.2
    go_wp2
    go_ret
    exact ⟨by rw [HR.out]; rfl, B3.out⟩
set_option maxHeartbeats 4000000 in
theorem momentText_t (n : Int) (h0 : 0 ≤ n) (h1 : n ≤ 253402300799) (w : World) (hL : Lb w) :
    Calls Tryz.prog 110 #[.int .i64 n] w fun e w' => e = .returned (.string (momB n)) ∧ Below w.heap.size w w' := by
  have HL := Lib.hid hL
  have CD := Lib.hid (parts_t n h0 h1 w)
  obtain ⟨s1, s2, s3, s4, s5, s6⟩ := sixty_small n
  obtain ⟨d1, d2, d3, d4, d5, d6⟩ := day_small n h0 h1
  have HE : momB n = padB (yOf n) 4 ++ ⟨#[45]⟩ ++ padB (mOf n) 2 ++ ⟨#[45]⟩ ++ padB (dOf n) 2 ++ ⟨#[84]⟩ ++ padB (hourOf n) 2 ++ ⟨#[58]⟩ ++ padB (minOf n) 2 ++ ⟨#[58]⟩ ++ padB (secOf n) 2 := rfl
  have K0 := Lib.hid (fun w hw => rpadded_t (yOf n) 4 (by omega) (by omega) (by omega) w hw)
  have q0 := pad_size (yOf n) 4 (by omega) (by omega) (by omega)
  have K1 := Lib.hid (fun w hw => rpadded_t (mOf n) 2 (by omega) (by omega) (by omega) w hw)
  have q1 := pad_size (mOf n) 2 (by omega) (by omega) (by omega)
  have K2 := Lib.hid (fun w hw => rpadded_t (dOf n) 2 (by omega) (by omega) (by omega) w hw)
  have q2 := pad_size (dOf n) 2 (by omega) (by omega) (by omega)
  have K3 := Lib.hid (fun w hw => rpadded_t (hourOf n) 2 (by omega) (by omega) (by omega) w hw)
  have q3 := pad_size (hourOf n) 2 (by omega) (by omega) (by omega)
  have K4 := Lib.hid (fun w hw => rpadded_t (minOf n) 2 (by omega) (by omega) (by omega) w hw)
  have q4 := pad_size (minOf n) 2 (by omega) (by omega) (by omega)
  have K5 := Lib.hid (fun w hw => rpadded_t (secOf n) 2 (by omega) (by omega) (by omega) w hw)
  have q5 := pad_size (secOf n) 2 (by omega) (by omega) (by omega)
  clear s1 s2 s3 s4 s5 s6 d1 d2 d3 d4 d5 d6 hL
  generalize padB (yOf n) 4 = P0 at *
  generalize padB (mOf n) 2 = P1 at *
  generalize padB (dOf n) 2 = P2 at *
  generalize padB (hourOf n) 2 = P3 at *
  generalize padB (minOf n) 2 = P4 at *
  generalize padB (secOf n) 2 = P5 at *
  generalize yOf n = a at *
  generalize mOf n = b at *
  generalize dOf n = c at *
  generalize hourOf n = d at *
  generalize minOf n = e at *
  generalize secOf n = f at *
  obtain ⟨X1, e1⟩ : ∃ X, X = P0 ++ ⟨#[45]⟩ := ⟨_, rfl⟩
  have z1 : X1.size ≤ 26 := by rw [e1, ByteArray.size_append]; show _ + 1 ≤ _; omega
  have E1 := Lib.hid e1
  obtain ⟨X2, e2⟩ : ∃ X, X = X1 ++ P1 := ⟨_, rfl⟩
  have z2 : X2.size ≤ 51 := by rw [e2, ByteArray.size_append]; omega
  have E2 := Lib.hid e2
  obtain ⟨X3, e3⟩ : ∃ X, X = X2 ++ ⟨#[45]⟩ := ⟨_, rfl⟩
  have z3 : X3.size ≤ 52 := by rw [e3, ByteArray.size_append]; show _ + 1 ≤ _; omega
  have E3 := Lib.hid e3
  obtain ⟨X4, e4⟩ : ∃ X, X = X3 ++ P2 := ⟨_, rfl⟩
  have z4 : X4.size ≤ 77 := by rw [e4, ByteArray.size_append]; omega
  have E4 := Lib.hid e4
  obtain ⟨X5, e5⟩ : ∃ X, X = X4 ++ ⟨#[84]⟩ := ⟨_, rfl⟩
  have z5 : X5.size ≤ 78 := by rw [e5, ByteArray.size_append]; show _ + 1 ≤ _; omega
  have E5 := Lib.hid e5
  obtain ⟨X6, e6⟩ : ∃ X, X = X5 ++ P3 := ⟨_, rfl⟩
  have z6 : X6.size ≤ 103 := by rw [e6, ByteArray.size_append]; omega
  have E6 := Lib.hid e6
  obtain ⟨X7, e7⟩ : ∃ X, X = X6 ++ ⟨#[58]⟩ := ⟨_, rfl⟩
  have z7 : X7.size ≤ 104 := by rw [e7, ByteArray.size_append]; show _ + 1 ≤ _; omega
  have E7 := Lib.hid e7
  obtain ⟨X8, e8⟩ : ∃ X, X = X7 ++ P4 := ⟨_, rfl⟩
  have z8 : X8.size ≤ 129 := by rw [e8, ByteArray.size_append]; omega
  have E8 := Lib.hid e8
  obtain ⟨X9, e9⟩ : ∃ X, X = X8 ++ ⟨#[58]⟩ := ⟨_, rfl⟩
  have z9 : X9.size ≤ 130 := by rw [e9, ByteArray.size_append]; show _ + 1 ≤ _; omega
  have E9 := Lib.hid e9
  obtain ⟨X10, e10⟩ : ∃ X, X = X9 ++ P5 := ⟨_, rfl⟩
  have z10 : X10.size ≤ 155 := by rw [e10, ByteArray.size_append]; omega
  have E10 := Lib.hid e10
  rw [← e1, ← e2, ← e3, ← e4, ← e5, ← e6, ← e7, ← e8, ← e9, ← e10] at HE
  clear e1 e2 e3 e4 e5 e6 e7 e8 e9 e10
  generalize momB n = R at HE ⊢
  have HR := Lib.hid HE
  clear HE
  go_enter Tryz.func110, Tryz.ntmps110
  go_wp2_with fail
  refine CD.out.mono ?_
  rintro e w1 ⟨rfl, hb1⟩
  have B1 := Lib.hid hb1
  clear hb1
  go_wp2_with (refine store123 rfl (.tmp 3) (.tmp 5) rfl w1.heap.size f e d c b a rfl rfl 0 0 0 0 0 0 (new_at _ _ _ rfl) ?_; intro w2 hp; have HP := Lib.hid hp; clear hp)
  have H2 : Hid (Cw w1.heap.size (six f e d c b a) 123 w w2) := Lib.hid ⟨HP.out.at', HP.out.below (B1.out.alloc B1.out.size _) B1.out.size⟩
  clear HP
  go_wp2_with fail
  · refine region_all (Cw w1.heap.size (six f e d c b a) 123 w) (by kernel_rfl) (by kernel_rfl) ⟨H2.out.1, H2.out.2.drew⟩ ?_
    refine s_val (.pointer (some ⟨w1.heap.size, 5, none⟩)) (by rfl) (fun w' h => by go_simp) ?_
    simp only [Act.put, List.setIfInBounds_toArray, List.set_cons_zero, List.set_cons_succ]
    refine s_val (.int .i64 a) (by rfl) (run_ld3 (.tmp 6) rfl w1.heap.size 5 a rfl (fun w h => (cell_of_row w _ 5 _ _ _ h.1).trans rfl)) ?_
    simp only [Act.put, List.setIfInBounds_toArray, List.set_cons_zero, List.set_cons_succ]
    refine s_call (.string P0) 186 #[.int .i64 a, .int .i64 4] (by rfl) (fun w => by go_simp) (fun w' h => (K0.out w' (HL.out.below h.2)).mono fun e x hx => ⟨hx.1, h.below hx.2⟩) ?_
    simp only [Act.put, List.setIfInBounds_toArray, List.set_cons_zero, List.set_cons_succ]
    refine s_val (.string X1) (by rfl) (fun w' _ => op_add P0 ⟨#[45]⟩ X1 rfl rfl rfl E1.out (by show _ + 1 ≤ _; omega) w') ?_
    simp only [Act.put, List.setIfInBounds_toArray, List.set_cons_zero, List.set_cons_succ]
    refine s_val (.pointer (some ⟨w1.heap.size, 4, none⟩)) (by rfl) (fun w' h => by go_simp) ?_
    simp only [Act.put, List.setIfInBounds_toArray, List.set_cons_zero, List.set_cons_succ]
    refine s_val (.int .i64 b) (by rfl) (run_ld3 (.tmp 10) rfl w1.heap.size 4 b rfl (fun w h => (cell_of_row w _ 4 _ _ _ h.1).trans rfl)) ?_
    simp only [Act.put, List.setIfInBounds_toArray, List.set_cons_zero, List.set_cons_succ]
    refine s_call (.string P1) 186 #[.int .i64 b, .int .i64 2] (by rfl) (fun w => by go_simp) (fun w' h => (K1.out w' (HL.out.below h.2)).mono fun e x hx => ⟨hx.1, h.below hx.2⟩) ?_
    simp only [Act.put, List.setIfInBounds_toArray, List.set_cons_zero, List.set_cons_succ]
    refine s_val (.string X2) (by rfl) (fun w' _ => op_add X1 P1 X2 rfl rfl rfl E2.out (by omega) w') ?_
    simp only [Act.put, List.setIfInBounds_toArray, List.set_cons_zero, List.set_cons_succ]
    refine s_val (.string X3) (by rfl) (fun w' _ => op_add X2 ⟨#[45]⟩ X3 rfl rfl rfl E3.out (by show _ + 1 ≤ _; omega) w') ?_
    simp only [Act.put, List.setIfInBounds_toArray, List.set_cons_zero, List.set_cons_succ]
    refine s_val (.pointer (some ⟨w1.heap.size, 3, none⟩)) (by rfl) (fun w' h => by go_simp) ?_
    simp only [Act.put, List.setIfInBounds_toArray, List.set_cons_zero, List.set_cons_succ]
    refine s_val (.int .i64 c) (by rfl) (run_ld3 (.tmp 15) rfl w1.heap.size 3 c rfl (fun w h => (cell_of_row w _ 3 _ _ _ h.1).trans rfl)) ?_
    simp only [Act.put, List.setIfInBounds_toArray, List.set_cons_zero, List.set_cons_succ]
    refine s_call (.string P2) 186 #[.int .i64 c, .int .i64 2] (by rfl) (fun w => by go_simp) (fun w' h => (K2.out w' (HL.out.below h.2)).mono fun e x hx => ⟨hx.1, h.below hx.2⟩) ?_
    simp only [Act.put, List.setIfInBounds_toArray, List.set_cons_zero, List.set_cons_succ]
    refine s_val (.string X4) (by rfl) (fun w' _ => op_add X3 P2 X4 rfl rfl rfl E4.out (by omega) w') ?_
    simp only [Act.put, List.setIfInBounds_toArray, List.set_cons_zero, List.set_cons_succ]
    refine s_val (.string X5) (by rfl) (fun w' _ => op_add X4 ⟨#[84]⟩ X5 rfl rfl rfl E5.out (by show _ + 1 ≤ _; omega) w') ?_
    simp only [Act.put, List.setIfInBounds_toArray, List.set_cons_zero, List.set_cons_succ]
    refine s_val (.pointer (some ⟨w1.heap.size, 2, none⟩)) (by rfl) (fun w' h => by go_simp) ?_
    simp only [Act.put, List.setIfInBounds_toArray, List.set_cons_zero, List.set_cons_succ]
    refine s_val (.int .i64 d) (by rfl) (run_ld3 (.tmp 20) rfl w1.heap.size 2 d rfl (fun w h => (cell_of_row w _ 2 _ _ _ h.1).trans rfl)) ?_
    simp only [Act.put, List.setIfInBounds_toArray, List.set_cons_zero, List.set_cons_succ]
    refine s_call (.string P3) 186 #[.int .i64 d, .int .i64 2] (by rfl) (fun w => by go_simp) (fun w' h => (K3.out w' (HL.out.below h.2)).mono fun e x hx => ⟨hx.1, h.below hx.2⟩) ?_
    simp only [Act.put, List.setIfInBounds_toArray, List.set_cons_zero, List.set_cons_succ]
    refine s_val (.string X6) (by rfl) (fun w' _ => op_add X5 P3 X6 rfl rfl rfl E6.out (by omega) w') ?_
    simp only [Act.put, List.setIfInBounds_toArray, List.set_cons_zero, List.set_cons_succ]
    refine s_val (.string X7) (by rfl) (fun w' _ => op_add X6 ⟨#[58]⟩ X7 rfl rfl rfl E7.out (by show _ + 1 ≤ _; omega) w') ?_
    simp only [Act.put, List.setIfInBounds_toArray, List.set_cons_zero, List.set_cons_succ]
    refine s_val (.pointer (some ⟨w1.heap.size, 1, none⟩)) (by rfl) (fun w' h => by go_simp) ?_
    simp only [Act.put, List.setIfInBounds_toArray, List.set_cons_zero, List.set_cons_succ]
    refine s_val (.int .i64 e) (by rfl) (run_ld3 (.tmp 25) rfl w1.heap.size 1 e rfl (fun w h => (cell_of_row w _ 1 _ _ _ h.1).trans rfl)) ?_
    simp only [Act.put, List.setIfInBounds_toArray, List.set_cons_zero, List.set_cons_succ]
    refine s_call (.string P4) 186 #[.int .i64 e, .int .i64 2] (by rfl) (fun w => by go_simp) (fun w' h => (K4.out w' (HL.out.below h.2)).mono fun e x hx => ⟨hx.1, h.below hx.2⟩) ?_
    simp only [Act.put, List.setIfInBounds_toArray, List.set_cons_zero, List.set_cons_succ]
    refine s_val (.string X8) (by rfl) (fun w' _ => op_add X7 P4 X8 rfl rfl rfl E8.out (by omega) w') ?_
    simp only [Act.put, List.setIfInBounds_toArray, List.set_cons_zero, List.set_cons_succ]
    refine s_val (.string X9) (by rfl) (fun w' _ => op_add X8 ⟨#[58]⟩ X9 rfl rfl rfl E9.out (by show _ + 1 ≤ _; omega) w') ?_
    simp only [Act.put, List.setIfInBounds_toArray, List.set_cons_zero, List.set_cons_succ]
    refine s_val (.pointer (some ⟨w1.heap.size, 0, none⟩)) (by rfl) (fun w' h => by go_simp) ?_
    simp only [Act.put, List.setIfInBounds_toArray, List.set_cons_zero, List.set_cons_succ]
    refine s_val (.int .i64 f) (by rfl) (run_ld3 (.tmp 30) rfl w1.heap.size 0 f rfl (fun w h => (cell_of_row w _ 0 _ _ _ h.1).trans rfl)) ?_
    simp only [Act.put, List.setIfInBounds_toArray, List.set_cons_zero, List.set_cons_succ]
    refine s_call (.string P5) 186 #[.int .i64 f, .int .i64 2] (by rfl) (fun w => by go_simp) (fun w' h => (K5.out w' (HL.out.below h.2)).mono fun e x hx => ⟨hx.1, h.below hx.2⟩) ?_
    simp only [Act.put, List.setIfInBounds_toArray, List.set_cons_zero, List.set_cons_succ]
    refine s_val (.string X10) (by rfl) (fun w' _ => op_add X9 P5 X10 rfl rfl rfl E10.out (by omega) w') ?_
    simp only [Act.put, List.setIfInBounds_toArray, List.set_cons_zero, List.set_cons_succ]
    refine s_val (.string X10) (by rfl) (fun w' _ => by rfl) ?_
    simp only [Act.put, List.setIfInBounds_toArray, List.set_cons_zero, List.set_cons_succ]
    refine s_done ?_
    intro w3 h3
    have B3 := Lib.hid h3.2
    go_wp2
    go_ret
    exact ⟨by rw [HR.out]; rfl, B3.out⟩
end YtabojeleomfgnaaGreatDoor
end Go.Proofs
namespace Go.Proofs
open Go.RowKit
namespace YtabojeleomfgnaaGreatDoor
set_option maxRecDepth 100000
theorem mom_size (n : Int) (h0 : 0 ≤ n) (h1 : n ≤ 253402300799) : (momB n).size ≤ 155 := by
  obtain ⟨s1, s2, s3, s4, s5, s6⟩ := sixty_small n
  obtain ⟨d1, d2, d3, d4, d5, d6⟩ := day_small n h0 h1
  have q0 := pad_size (yOf n) 4 (by omega) (by omega) (by omega)
  have q1 := pad_size (mOf n) 2 (by omega) (by omega) (by omega)
  have q2 := pad_size (dOf n) 2 (by omega) (by omega) (by omega)
  have q3 := pad_size (hourOf n) 2 (by omega) (by omega) (by omega)
  have q4 := pad_size (minOf n) 2 (by omega) (by omega) (by omega)
  have q5 := pad_size (secOf n) 2 (by omega) (by omega) (by omega)
  unfold momB
  have e1 : (⟨#[45]⟩ : ByteArray).size = 1 := rfl
  have e2 : (⟨#[84]⟩ : ByteArray).size = 1 := rfl
  have e3 : (⟨#[58]⟩ : ByteArray).size = 1 := rfl
  simp only [ByteArray.size_append, e1, e2, e3]
  omega
theorem show_size {x : V3} (h : Right x) : (showT x).size ≤ 400 := by
  obtain ⟨b1, b2, b3, b4, b5⟩ := h.bounds
  unfold showT
  have e0 : trueB.size = 4 := rfl
  have e1 : falseB.size = 5 := rfl
  have e2 : nullB.size = 4 := rfl
  have e3 : (⟨#[39]⟩ : ByteArray).size = 1 := rfl
  have e4 : (⟨#[64]⟩ : ByteArray).size = 1 := rfl
  split
  · split <;> omega
  · split
    · have := itoa_size x.2.1 (by omega) (by omega); omega
    · split
      · have := quo_size x.2.2
        simp only [ByteArray.size_append, e3]; omega
      · split
        · rename_i h4
          obtain ⟨m0, m1, _⟩ := h.moment h4
          have := mom_size x.2.1 m0 m1
          simp only [ByteArray.size_append, e4]; omega
        · omega
theorem trim_size (s : ByteArray) : (trimB s).size ≤ s.size := by
  rw [Lib.size_eq, Lib.size_eq]
  show (Lib.trimPrefix s.data.toList [64]).length ≤ _
  unfold Lib.trimPrefix
  split
  · rw [List.length_drop]; omega
  · exact Nat.le_refl _
set_option maxHeartbeats 1000000 in
theorem show_t (x : V3) (hx : Sz x) (w : World) (hL : Lb w) : Calls Tryz.prog 34 #[toV x] w fun e w' => e = .returned (.string (showT (clT x))) ∧ Below w.heap.size w w' := by
  have CX := Lib.hid (fun w => clean_t x hx w)
  have RX := Lib.hid (clT_right x)
  have HL := Lib.hid hL
  clear hx hL
  generalize hR : showT (clT x) = R
  generalize clT x = X at *
  obtain ⟨ka, na, sa⟩ := x
  obtain ⟨K, n, s⟩ := X
  change Calls Tryz.prog 34 #[val ka na sa] w _
  change Hid (∀ w, Calls Tryz.prog 94 #[val ka na sa] w fun e w' => e = .returned (toV (K, n, s)) ∧ Below w.heap.size w w') at CX
  obtain ⟨r1, r2, r3, r4, r5⟩ := RX.out.bounds
  dsimp only at r1 r2 r3 r4 r5
  rcases (by omega : K = 0 ∨ K = 1 ∨ K = 2 ∨ K = 3 ∨ K = 4) with rfl | rfl | rfl | rfl | rfl
  · have HE : Hid (R = nullB) := Lib.hid hR.symm
    clear hR RX r1 r2 r3 r4 r5
    go_enter Tryz.func34, Tryz.ntmps34
    go_wp2_with fail
    refine (CX.out _).mono ?_
    rintro e w1 ⟨rfl, hb1⟩
    have B1 : Hid (w1.heap[w.heap.size]? = some (.cells (cells (ka, na, sa)) 23 (0, 0))) := Lib.hid ((hb1.block _ (by simp)).trans (new_at _ _ _ rfl))
    have HL1 := Lib.hid (below_call (w := w) (by go_grown) hb1)
    clear hb1
    go_wp2_with (refine store23 rfl (.tmp 1) (.tmp 4) rfl w.heap.size (0, n, s) rfl rfl _ B1.out ?_; intro w2 hp; have HP := Lib.hid hp; clear hp; have a0 : w2.cell? ⟨w.heap.size, 0, none⟩ = some (.int .i64 0) := (cell_of_row w2 _ 0 _ _ _ HP.out.at').trans rfl; have a1 : w2.cell? ⟨w.heap.size, 1, none⟩ = some (.int .i64 n) := (cell_of_row w2 _ 1 _ _ _ HP.out.at').trans rfl; have a2 : w2.cell? ⟨w.heap.size, 2, none⟩ = some (.string s) := (cell_of_row w2 _ 2 _ _ _ HP.out.at').trans rfl; have HL2 := Lib.hid (HP.out.low HL1.out (Nat.le_refl _)); clear HP)
    go_ret
    exact ⟨by rw [HE.out]; rfl, HL2.out⟩
  · have HE : R = if (n == 1) = true then trueB else falseB := by rw [← hR]; show (if n = 1 then trueB else falseB) = _; by_cases h : n = 1 <;> simp [h]
    have CB : Hid (∀ w, Calls Tryz.prog 106 #[.bool (n == 1)] w fun e w' => e = .returned (.string R) ∧ w' = w) := Lib.hid (fun w => by rw [HE]; exact fbool_t _ _)
    clear hR RX r1 r2 r3 r4 r5 HE
    go_enter Tryz.func34, Tryz.ntmps34
    go_wp2_with fail
    refine (CX.out _).mono ?_
    rintro e w1 ⟨rfl, hb1⟩
    have B1 : Hid (w1.heap[w.heap.size]? = some (.cells (cells (ka, na, sa)) 23 (0, 0))) := Lib.hid ((hb1.block _ (by simp)).trans (new_at _ _ _ rfl))
    have HL1 := Lib.hid (below_call (w := w) (by go_grown) hb1)
    clear hb1
    go_wp2_with (refine store23 rfl (.tmp 1) (.tmp 4) rfl w.heap.size (1, n, s) rfl rfl _ B1.out ?_; intro w2 hp; have HP := Lib.hid hp; clear hp; have a0 : w2.cell? ⟨w.heap.size, 0, none⟩ = some (.int .i64 1) := (cell_of_row w2 _ 0 _ _ _ HP.out.at').trans rfl; have a1 : w2.cell? ⟨w.heap.size, 1, none⟩ = some (.int .i64 n) := (cell_of_row w2 _ 1 _ _ _ HP.out.at').trans rfl; have a2 : w2.cell? ⟨w.heap.size, 2, none⟩ = some (.string s) := (cell_of_row w2 _ 2 _ _ _ HP.out.at').trans rfl; have HL2 := Lib.hid (HP.out.low HL1.out (Nat.le_refl _)); clear HP)
    refine (CB.out _).mono ?_
    rintro e wx ⟨rfl, hwx⟩
    rw [hwx]
    clear hwx wx
    go_wp2
    go_ret
    exact ⟨rfl, HL2.out⟩
  · have HE : Hid (R = itoaB n) := Lib.hid hR.symm
    have CI := Lib.hid (fun w hw => itoa_t n (by omega) (by omega) w hw)
    clear hR RX r1 r2 r3 r4 r5
    go_enter Tryz.func34, Tryz.ntmps34
    go_wp2_with fail
    refine (CX.out _).mono ?_
    rintro e w1 ⟨rfl, hb1⟩
    have B1 : Hid (w1.heap[w.heap.size]? = some (.cells (cells (ka, na, sa)) 23 (0, 0))) := Lib.hid ((hb1.block _ (by simp)).trans (new_at _ _ _ rfl))
    have HL1 := Lib.hid (below_call (w := w) (by go_grown) hb1)
    clear hb1
    go_wp2_with (refine store23 rfl (.tmp 1) (.tmp 4) rfl w.heap.size (2, n, s) rfl rfl _ B1.out ?_; intro w2 hp; have HP := Lib.hid hp; clear hp; have a0 : w2.cell? ⟨w.heap.size, 0, none⟩ = some (.int .i64 2) := (cell_of_row w2 _ 0 _ _ _ HP.out.at').trans rfl; have a1 : w2.cell? ⟨w.heap.size, 1, none⟩ = some (.int .i64 n) := (cell_of_row w2 _ 1 _ _ _ HP.out.at').trans rfl; have a2 : w2.cell? ⟨w.heap.size, 2, none⟩ = some (.string s) := (cell_of_row w2 _ 2 _ _ _ HP.out.at').trans rfl; have HL2 := Lib.hid (HP.out.low HL1.out (Nat.le_refl _)); clear HP)
    refine (CI.out _ (HL.out.below HL2.out)).mono ?_
    rintro e w3 ⟨rfl, hb3⟩
    have HL3 := Lib.hid (below_call HL2.out hb3)
    clear hb3
    go_wp2
    go_ret
    exact ⟨by rw [HE.out]; rfl, HL3.out⟩
  · have HE : Hid (R = ⟨#[39]⟩ ++ quoB s ++ ⟨#[39]⟩) := Lib.hid hR.symm
    have CI := Lib.hid (fun w hw => quo_t s (by omega) w hw)
    have hq := quo_size s
    have hq2 : (quoB s).size ≤ 300 := by omega
    generalize quoB s = Q at *
    clear hR RX r1 r2 r3 r4 hq
    go_enter Tryz.func34, Tryz.ntmps34
    go_wp2_with fail
    refine (CX.out _).mono ?_
    rintro e w1 ⟨rfl, hb1⟩
    have B1 : Hid (w1.heap[w.heap.size]? = some (.cells (cells (ka, na, sa)) 23 (0, 0))) := Lib.hid ((hb1.block _ (by simp)).trans (new_at _ _ _ rfl))
    have HL1 := Lib.hid (below_call (w := w) (by go_grown) hb1)
    clear hb1
    go_wp2_with (refine store23 rfl (.tmp 1) (.tmp 4) rfl w.heap.size (3, n, s) rfl rfl _ B1.out ?_; intro w2 hp; have HP := Lib.hid hp; clear hp; have a0 : w2.cell? ⟨w.heap.size, 0, none⟩ = some (.int .i64 3) := (cell_of_row w2 _ 0 _ _ _ HP.out.at').trans rfl; have a1 : w2.cell? ⟨w.heap.size, 1, none⟩ = some (.int .i64 n) := (cell_of_row w2 _ 1 _ _ _ HP.out.at').trans rfl; have a2 : w2.cell? ⟨w.heap.size, 2, none⟩ = some (.string s) := (cell_of_row w2 _ 2 _ _ _ HP.out.at').trans rfl; have HL2 := Lib.hid (HP.out.low HL1.out (Nat.le_refl _)); clear HP)
    refine (CI.out _ (HL.out.below HL2.out)).mono ?_
    rintro e w3 ⟨rfl, hb3⟩
    have HL3 := Lib.hid (below_call HL2.out hb3)
    have e3 : (⟨#[39]⟩ : ByteArray).size = 1 := rfl
    clear hb3 a0 a1 a2
    go_wp2
    go_ret
    exact ⟨by rw [HE.out]; rfl, HL3.out⟩
  · have HE : Hid (R = ⟨#[64]⟩ ++ momB n) := Lib.hid hR.symm
    obtain ⟨m0, m1, ms⟩ := RX.out.moment rfl
    clear ms
    have CI := Lib.hid (fun w hw => showMoment_t n m0 m1 w hw)
    have hq := mom_size n m0 m1
    generalize momB n = Q at *
    clear hR RX r1 r2 r3 r4 m0 m1
    go_enter Tryz.func34, Tryz.ntmps34
    go_wp2_with fail
    refine (CX.out _).mono ?_
    rintro e w1 ⟨rfl, hb1⟩
    have B1 : Hid (w1.heap[w.heap.size]? = some (.cells (cells (ka, na, sa)) 23 (0, 0))) := Lib.hid ((hb1.block _ (by simp)).trans (new_at _ _ _ rfl))
    have HL1 := Lib.hid (below_call (w := w) (by go_grown) hb1)
    clear hb1
    go_wp2_with (refine store23 rfl (.tmp 1) (.tmp 4) rfl w.heap.size (4, n, s) rfl rfl _ B1.out ?_; intro w2 hp; have HP := Lib.hid hp; clear hp; have a0 : w2.cell? ⟨w.heap.size, 0, none⟩ = some (.int .i64 4) := (cell_of_row w2 _ 0 _ _ _ HP.out.at').trans rfl; have a1 : w2.cell? ⟨w.heap.size, 1, none⟩ = some (.int .i64 n) := (cell_of_row w2 _ 1 _ _ _ HP.out.at').trans rfl; have a2 : w2.cell? ⟨w.heap.size, 2, none⟩ = some (.string s) := (cell_of_row w2 _ 2 _ _ _ HP.out.at').trans rfl; have HL2 := Lib.hid (HP.out.low HL1.out (Nat.le_refl _)); clear HP)
    refine (CI.out _ (HL.out.below HL2.out)).mono ?_
    rintro e w3 ⟨rfl, hb3⟩
    have HL3 := Lib.hid (below_call HL2.out hb3)
    have e3 : (⟨#[64]⟩ : ByteArray).size = 1 := rfl
    clear hb3 a0 a1 a2
    go_wp2
    go_ret
    exact ⟨by rw [HE.out]; rfl, HL3.out⟩
set_option maxHeartbeats 1000000 in
theorem shown_t (x : V3) (hx : Sz x) (w : World) (hL : Lb w) : Calls Tryz.prog 35 #[toV x] w fun e w' => e = .returned (.string (showT (clT x))) ∧ Below w.heap.size w w' := by
  have CX := Lib.hid (fun w => right_t x hx w)
  have RX := Lib.hid (clT_right x)
  have HL := Lib.hid hL
  clear hx hL
  generalize hR : showT (clT x) = R
  generalize clT x = X at *
  obtain ⟨ka, na, sa⟩ := x
  obtain ⟨K, n, s⟩ := X
  change Calls Tryz.prog 35 #[val ka na sa] w _
  change Hid (∀ w, Calls Tryz.prog 97 #[val ka na sa] w fun e w' => e = .returned (toV (K, n, s)) ∧ Below w.heap.size w w') at CX
  obtain ⟨r1, r2, r3, r4, r5⟩ := RX.out.bounds
  dsimp only at r1 r2 r3 r4 r5
  rcases (by omega : K = 0 ∨ K = 1 ∨ K = 2 ∨ K = 3 ∨ K = 4) with rfl | rfl | rfl | rfl | rfl
  · have HE : Hid (R = nullB) := Lib.hid hR.symm
    clear hR RX r1 r2 r3 r4 r5
    go_enter Tryz.func35, Tryz.ntmps35
    go_wp2_with fail
    refine (CX.out _).mono ?_
    rintro e w1 ⟨rfl, hb1⟩
    have B1 : Hid (w1.heap[w.heap.size]? = some (.cells (cells (ka, na, sa)) 23 (0, 0))) := Lib.hid ((hb1.block _ (by simp)).trans (new_at _ _ _ rfl))
    have HL1 := Lib.hid (below_call (w := w) (by go_grown) hb1)
    clear hb1
    go_wp2_with (refine store23 rfl (.tmp 1) (.tmp 4) rfl w.heap.size (0, n, s) rfl rfl _ B1.out ?_; intro w2 hp; have HP := Lib.hid hp; clear hp; have a0 : w2.cell? ⟨w.heap.size, 0, none⟩ = some (.int .i64 0) := (cell_of_row w2 _ 0 _ _ _ HP.out.at').trans rfl; have a1 : w2.cell? ⟨w.heap.size, 1, none⟩ = some (.int .i64 n) := (cell_of_row w2 _ 1 _ _ _ HP.out.at').trans rfl; have a2 : w2.cell? ⟨w.heap.size, 2, none⟩ = some (.string s) := (cell_of_row w2 _ 2 _ _ _ HP.out.at').trans rfl; have HL2 := Lib.hid (HP.out.low HL1.out (Nat.le_refl _)); clear HP)
    go_ret
    exact ⟨by rw [HE.out]; rfl, HL2.out⟩
  · have HE : R = if (n == 1) = true then trueB else falseB := by rw [← hR]; show (if n = 1 then trueB else falseB) = _; by_cases h : n = 1 <;> simp [h]
    have CB : Hid (∀ w, Calls Tryz.prog 106 #[.bool (n == 1)] w fun e w' => e = .returned (.string R) ∧ w' = w) := Lib.hid (fun w => by rw [HE]; exact fbool_t _ _)
    clear hR RX r1 r2 r3 r4 r5 HE
    go_enter Tryz.func35, Tryz.ntmps35
    go_wp2_with fail
    refine (CX.out _).mono ?_
    rintro e w1 ⟨rfl, hb1⟩
    have B1 : Hid (w1.heap[w.heap.size]? = some (.cells (cells (ka, na, sa)) 23 (0, 0))) := Lib.hid ((hb1.block _ (by simp)).trans (new_at _ _ _ rfl))
    have HL1 := Lib.hid (below_call (w := w) (by go_grown) hb1)
    clear hb1
    go_wp2_with (refine store23 rfl (.tmp 1) (.tmp 4) rfl w.heap.size (1, n, s) rfl rfl _ B1.out ?_; intro w2 hp; have HP := Lib.hid hp; clear hp; have a0 : w2.cell? ⟨w.heap.size, 0, none⟩ = some (.int .i64 1) := (cell_of_row w2 _ 0 _ _ _ HP.out.at').trans rfl; have a1 : w2.cell? ⟨w.heap.size, 1, none⟩ = some (.int .i64 n) := (cell_of_row w2 _ 1 _ _ _ HP.out.at').trans rfl; have a2 : w2.cell? ⟨w.heap.size, 2, none⟩ = some (.string s) := (cell_of_row w2 _ 2 _ _ _ HP.out.at').trans rfl; have HL2 := Lib.hid (HP.out.low HL1.out (Nat.le_refl _)); clear HP)
    refine (CB.out _).mono ?_
    rintro e wx ⟨rfl, hwx⟩
    rw [hwx]
    clear hwx wx
    go_wp2
    go_ret
    exact ⟨rfl, HL2.out⟩
  · have HE : Hid (R = itoaB n) := Lib.hid hR.symm
    have CI := Lib.hid (fun w hw => itoa_t n (by omega) (by omega) w hw)
    clear hR RX r1 r2 r3 r4 r5
    go_enter Tryz.func35, Tryz.ntmps35
    go_wp2_with fail
    refine (CX.out _).mono ?_
    rintro e w1 ⟨rfl, hb1⟩
    have B1 : Hid (w1.heap[w.heap.size]? = some (.cells (cells (ka, na, sa)) 23 (0, 0))) := Lib.hid ((hb1.block _ (by simp)).trans (new_at _ _ _ rfl))
    have HL1 := Lib.hid (below_call (w := w) (by go_grown) hb1)
    clear hb1
    go_wp2_with (refine store23 rfl (.tmp 1) (.tmp 4) rfl w.heap.size (2, n, s) rfl rfl _ B1.out ?_; intro w2 hp; have HP := Lib.hid hp; clear hp; have a0 : w2.cell? ⟨w.heap.size, 0, none⟩ = some (.int .i64 2) := (cell_of_row w2 _ 0 _ _ _ HP.out.at').trans rfl; have a1 : w2.cell? ⟨w.heap.size, 1, none⟩ = some (.int .i64 n) := (cell_of_row w2 _ 1 _ _ _ HP.out.at').trans rfl; have a2 : w2.cell? ⟨w.heap.size, 2, none⟩ = some (.string s) := (cell_of_row w2 _ 2 _ _ _ HP.out.at').trans rfl; have HL2 := Lib.hid (HP.out.low HL1.out (Nat.le_refl _)); clear HP)
    refine (CI.out _ (HL.out.below HL2.out)).mono ?_
    rintro e w3 ⟨rfl, hb3⟩
    have HL3 := Lib.hid (below_call HL2.out hb3)
    clear hb3
    go_wp2
    go_ret
    exact ⟨by rw [HE.out]; rfl, HL3.out⟩
  · have HE : Hid (R = ⟨#[39]⟩ ++ quoB s ++ ⟨#[39]⟩) := Lib.hid hR.symm
    have CI := Lib.hid (fun w hw => quo_t s (by omega) w hw)
    have hq := quo_size s
    have hq2 : (quoB s).size ≤ 300 := by omega
    generalize quoB s = Q at *
    clear hR RX r1 r2 r3 r4 hq
    go_enter Tryz.func35, Tryz.ntmps35
    go_wp2_with fail
    refine (CX.out _).mono ?_
    rintro e w1 ⟨rfl, hb1⟩
    have B1 : Hid (w1.heap[w.heap.size]? = some (.cells (cells (ka, na, sa)) 23 (0, 0))) := Lib.hid ((hb1.block _ (by simp)).trans (new_at _ _ _ rfl))
    have HL1 := Lib.hid (below_call (w := w) (by go_grown) hb1)
    clear hb1
    go_wp2_with (refine store23 rfl (.tmp 1) (.tmp 4) rfl w.heap.size (3, n, s) rfl rfl _ B1.out ?_; intro w2 hp; have HP := Lib.hid hp; clear hp; have a0 : w2.cell? ⟨w.heap.size, 0, none⟩ = some (.int .i64 3) := (cell_of_row w2 _ 0 _ _ _ HP.out.at').trans rfl; have a1 : w2.cell? ⟨w.heap.size, 1, none⟩ = some (.int .i64 n) := (cell_of_row w2 _ 1 _ _ _ HP.out.at').trans rfl; have a2 : w2.cell? ⟨w.heap.size, 2, none⟩ = some (.string s) := (cell_of_row w2 _ 2 _ _ _ HP.out.at').trans rfl; have HL2 := Lib.hid (HP.out.low HL1.out (Nat.le_refl _)); clear HP)
    refine (CI.out _ (HL.out.below HL2.out)).mono ?_
    rintro e w3 ⟨rfl, hb3⟩
    have HL3 := Lib.hid (below_call HL2.out hb3)
    have e3 : (⟨#[39]⟩ : ByteArray).size = 1 := rfl
    clear hb3 a0 a1 a2
    go_wp2
    go_ret
    exact ⟨by rw [HE.out]; rfl, HL3.out⟩
  · have HE : Hid (R = ⟨#[64]⟩ ++ momB n) := Lib.hid hR.symm
    obtain ⟨m0, m1, ms⟩ := RX.out.moment rfl
    clear ms
    have CI := Lib.hid (fun w hw => momentText_t n m0 m1 w hw)
    have hq := mom_size n m0 m1
    generalize momB n = Q at *
    clear hR RX r1 r2 r3 r4 m0 m1
    go_enter Tryz.func35, Tryz.ntmps35
    go_wp2_with fail
    refine (CX.out _).mono ?_
    rintro e w1 ⟨rfl, hb1⟩
    have B1 : Hid (w1.heap[w.heap.size]? = some (.cells (cells (ka, na, sa)) 23 (0, 0))) := Lib.hid ((hb1.block _ (by simp)).trans (new_at _ _ _ rfl))
    have HL1 := Lib.hid (below_call (w := w) (by go_grown) hb1)
    clear hb1
    go_wp2_with (refine store23 rfl (.tmp 1) (.tmp 4) rfl w.heap.size (4, n, s) rfl rfl _ B1.out ?_; intro w2 hp; have HP := Lib.hid hp; clear hp; have a0 : w2.cell? ⟨w.heap.size, 0, none⟩ = some (.int .i64 4) := (cell_of_row w2 _ 0 _ _ _ HP.out.at').trans rfl; have a1 : w2.cell? ⟨w.heap.size, 1, none⟩ = some (.int .i64 n) := (cell_of_row w2 _ 1 _ _ _ HP.out.at').trans rfl; have a2 : w2.cell? ⟨w.heap.size, 2, none⟩ = some (.string s) := (cell_of_row w2 _ 2 _ _ _ HP.out.at').trans rfl; have HL2 := Lib.hid (HP.out.low HL1.out (Nat.le_refl _)); clear HP)
    refine (CI.out _ (HL.out.below HL2.out)).mono ?_
    rintro e w3 ⟨rfl, hb3⟩
    have HL3 := Lib.hid (below_call HL2.out hb3)
    have e3 : (⟨#[64]⟩ : ByteArray).size = 1 := rfl
    clear hb3 a0 a1 a2
    go_wp2
    go_ret
    exact ⟨by rw [HE.out]; rfl, HL3.out⟩
theorem castText_t (x : V3) (hx : Right x) (w : World) (hL : Lb w) : Calls Tryz.prog 142 #[toV x] w fun e w' => e = .returned (toV (ctextT x)) ∧ Below w.heap.size w w' := by
  have HL := Lib.hid hL
  have CX := Lib.hid (fun w hw => (clT_of_right hx) ▸ shown_t x hx.sz w hw)
  have hsz := show_size hx
  have ht := trim_size (showT x)
  have CT := Lib.hid (trim_t (showT x))
  have CW := Lib.hid (word_t (trimB (showT x)) (by unfold maxLen; omega))
  have hR : ctextT x = if x.1 = 3 then x else textT (trimB (showT x)) := rfl
  generalize ctextT x = R at *
  generalize textT (trimB (showT x)) = Y at *
  generalize trimB (showT x) = Z at *
  generalize showT x = S at *
  clear hL hx ht hsz
  obtain ⟨K, n, s⟩ := x
  change Calls Tryz.prog 142 #[val K n s] w _
  have X0 : Hid (((w.alloc (.cells #[.int .i64 K, .int .i64 n, .string s] 23)).alloc (.cells #[.int .i64 0, .int .i64 0, .string ⟨#[]⟩] 23)).heap[w.heap.size]? = some (.cells (cells (K, n, s)) 23 (0, 0))) := Lib.hid ((heap_alloc_old _ _ (by simp)).trans (heap_alloc_new w _))
  cases hk : (K == 3) with
  | true =>
    have HE : Hid (R = (K, n, s)) := Lib.hid (by rw [hR, if_pos (by simpa using hk)])
    clear hR
    go_enter Tryz.func142, Tryz.ntmps142
    go_wp2_with (refine store23 rfl (.tmp 2) (.tmp 6) rfl (w.heap.size + 1) (K, n, s) rfl rfl nullT (new_at _ _ _ (by simp)) ?_; intro wz hp; have HP := Lib.hid hp; clear hp)
    exact bodyPost_ret (ret23 rfl rfl HP.out.at') rfl ⟨by rw [HE.out], HP.out.low (by go_grown) (by omega)⟩
  | false =>
    have HE : Hid (R = Y) := Lib.hid (by rw [hR, if_neg (by simpa using hk)])
    clear hR
    go_enter Tryz.func142, Tryz.ntmps142
    go_wp2_with fail
    refine (CX.out _ (HL.out.below (by go_grown))).mono ?_
    rintro e w1 ⟨rfl, hb1⟩
    have R1 : Hid (w1.heap[w.heap.size + 1]? = some (.cells (cells nullT) 23 (0, 0))) := Lib.hid ((hb1.block _ (by simp)).trans (new_at _ _ _ (by simp)))
    have HL1 := Lib.hid (below_call (w := w) (by go_grown) hb1)
    clear hb1
    go_wp2_with fail
    refine (CT.out _).mono ?_
    rintro e wx ⟨rfl, hwx⟩
    rw [hwx]
    clear hwx wx
    go_wp2_with fail
    refine (CW.out _).mono ?_
    rintro e w2 ⟨rfl, hb2⟩
    have R2 : Hid (w2.heap[w.heap.size + 1]? = some (.cells (cells nullT) 23 (0, 0))) := Lib.hid ((hb2.block _ (lt_of_block R1.out)).trans R1.out)
    have HL2 := Lib.hid (below_call HL1.out hb2)
    clear hb2
    go_wp2_with (refine store23 rfl (.tmp 2) (.tmp 10) rfl (w.heap.size + 1) Y rfl rfl _ R2.out ?_; intro wz hp; have HP := Lib.hid hp; clear hp)
    exact bodyPost_ret (ret23 rfl rfl HP.out.at') rfl ⟨by rw [HE.out], HP.out.low HL2.out (by omega)⟩
end YtabojeleomfgnaaGreatDoor
end Go.Proofs
namespace Go.Proofs
open Go.RowKit
namespace YtabojeleomfgnaaGreatDoor
set_option maxRecDepth 100000
theorem digits_t (s : ByteArray) (a b : Nat) (hab : a ≤ b) (hb : b ≤ s.size) (hs : s.size ≤ 2000000) (w : World) (hL : Lb w) :
    Calls Tryz.prog 232 #[.string s, .int .i64 a, .int .i64 b] w fun e w' => e = .returned (.int .i64 (digT s a b)) ∧ Below w.heap.size w w' := by
  have HL := Lib.hid hL
  have hz : (s.extract a b).size ≤ 2000000 := by rw [ByteArray.size_extract]; omega
  cases ha : atoiT (s.extract a b) with
  | some n =>
    have HE : Hid (digT s a b = n) := Lib.hid (by unfold digT; rw [ha]; rfl)
    have CA := Lib.hid (atoi_ok (s.extract a b) (by omega) n ha)
    generalize digT s a b = R at *
    clear ha hz hL
    go_enter Tryz.func232, Tryz.ntmps232
    go_wp2_with fail
    refine (CA.out _).mono ?_
    rintro e w1 ⟨rfl, hb1⟩
    have B1 := Lib.hid hb1
    clear hb1
    go_wp2
    go_ret
    exact ⟨ret_int (by rw [HE.out]), B1.out⟩
  | none =>
    have HE : Hid (digT s a b = -1) := Lib.hid (by unfold digT; rw [ha]; rfl)
    have CA := Lib.hid (fun w hw => atoi_no (s.extract a b) (by omega) ha w hw)
    generalize digT s a b = R at *
    clear ha hz hL
    go_enter Tryz.func232, Tryz.ntmps232
    go_wp2_with fail
    refine (CA.out _ HL.out).mono ?_
    rintro e w1 ⟨⟨k, p, rfl⟩, hb1⟩
    have B1 := Lib.hid hb1
    clear hb1
    go_wp2
    go_ret
    exact ⟨ret_int (by rw [HE.out]), B1.out⟩
set_option maxHeartbeats 2000000 in
theorem gmom_t (s : ByteArray) (hs : s.size ≤ 2000000) (w : World) (hL : Lb w) : Calls Tryz.prog 177 #[.string s] w fun e w' => e = .returned (toV (gmomT s)) ∧ Below w.heap.size w w' := by
  have HL := Lib.hid hL
  clear hL
  by_cases hz : s.size = 20
  · have HE : Hid (gmomT s = datedT (digT s 1 5) (digT s 6 8) (digT s 9 11) (digT s 12 14) (digT s 15 17) (digT s 18 20)) := Lib.hid (by unfold gmomT; rw [if_pos hz])
    have D0 : Hid (∀ w, Lb w → Calls Tryz.prog 232 #[.string s, .int .i64 1, .int .i64 5] w fun e w' => e = .returned (.int .i64 (digT s 1 5)) ∧ Below w.heap.size w w') := Lib.hid (fun w hw => digits_t s 1 5 (by omega) (by omega) hs w hw)
    have D1 : Hid (∀ w, Lb w → Calls Tryz.prog 232 #[.string s, .int .i64 6, .int .i64 8] w fun e w' => e = .returned (.int .i64 (digT s 6 8)) ∧ Below w.heap.size w w') := Lib.hid (fun w hw => digits_t s 6 8 (by omega) (by omega) hs w hw)
    have D2 : Hid (∀ w, Lb w → Calls Tryz.prog 232 #[.string s, .int .i64 9, .int .i64 11] w fun e w' => e = .returned (.int .i64 (digT s 9 11)) ∧ Below w.heap.size w w') := Lib.hid (fun w hw => digits_t s 9 11 (by omega) (by omega) hs w hw)
    have D3 : Hid (∀ w, Lb w → Calls Tryz.prog 232 #[.string s, .int .i64 12, .int .i64 14] w fun e w' => e = .returned (.int .i64 (digT s 12 14)) ∧ Below w.heap.size w w') := Lib.hid (fun w hw => digits_t s 12 14 (by omega) (by omega) hs w hw)
    have D4 : Hid (∀ w, Lb w → Calls Tryz.prog 232 #[.string s, .int .i64 15, .int .i64 17] w fun e w' => e = .returned (.int .i64 (digT s 15 17)) ∧ Below w.heap.size w w') := Lib.hid (fun w hw => digits_t s 15 17 (by omega) (by omega) hs w hw)
    have D5 : Hid (∀ w, Lb w → Calls Tryz.prog 232 #[.string s, .int .i64 18, .int .i64 20] w fun e w' => e = .returned (.int .i64 (digT s 18 20)) ∧ Below w.heap.size w w') := Lib.hid (fun w hw => digits_t s 18 20 (by omega) (by omega) hs w hw)
    generalize digT s 1 5 = a at *
    generalize digT s 6 8 = b at *
    generalize digT s 9 11 = c at *
    generalize digT s 12 14 = d at *
    generalize digT s 15 17 = e at *
    generalize digT s 18 20 = f at *
    have CD := Lib.hid (date_t a b c d e f)
    generalize datedT a b c d e f = Y at *
    generalize gmomT s = R at *
    go_enter Tryz.func177, Tryz.ntmps177
    go_wp2_with fail
    refine (D0.out _ (HL.out.alloc _)).mono ?_
    rintro e w1 ⟨rfl, hb1⟩
    have R1 : Hid (w1.heap[w.heap.size]? = some (.cells (cells nullT) 23 (0, 0))) := Lib.hid ((hb1.block _ (by simp)).trans (new_at _ _ _ rfl))
    have B1 := Lib.hid (below_call (w := w) (by go_grown) hb1)
    clear hb1
    go_wp2_with fail
    refine (D1.out _ (HL.out.below B1.out)).mono ?_
    rintro e w2 ⟨rfl, hb2⟩
    have R2 : Hid (w2.heap[w.heap.size]? = some (.cells (cells nullT) 23 (0, 0))) := Lib.hid ((hb2.block _ (lt_of_block R1.out)).trans R1.out)
    have B2 := Lib.hid (below_call B1.out hb2)
    clear hb2
    go_wp2_with fail
    refine (D2.out _ (HL.out.below B2.out)).mono ?_
    rintro e w3 ⟨rfl, hb3⟩
    have R3 : Hid (w3.heap[w.heap.size]? = some (.cells (cells nullT) 23 (0, 0))) := Lib.hid ((hb3.block _ (lt_of_block R2.out)).trans R2.out)
    have B3 := Lib.hid (below_call B2.out hb3)
    clear hb3
    go_wp2_with fail
    refine (D3.out _ (HL.out.below B3.out)).mono ?_
    rintro e w4 ⟨rfl, hb4⟩
    have R4 : Hid (w4.heap[w.heap.size]? = some (.cells (cells nullT) 23 (0, 0))) := Lib.hid ((hb4.block _ (lt_of_block R3.out)).trans R3.out)
    have B4 := Lib.hid (below_call B3.out hb4)
    clear hb4
    go_wp2_with fail
    refine (D4.out _ (HL.out.below B4.out)).mono ?_
    rintro e w5 ⟨rfl, hb5⟩
    have R5 : Hid (w5.heap[w.heap.size]? = some (.cells (cells nullT) 23 (0, 0))) := Lib.hid ((hb5.block _ (lt_of_block R4.out)).trans R4.out)
    have B5 := Lib.hid (below_call B4.out hb5)
    clear hb5
    go_wp2_with fail
    refine (D5.out _ (HL.out.below B5.out)).mono ?_
    rintro e w6 ⟨rfl, hb6⟩
    have R6 : Hid (w6.heap[w.heap.size]? = some (.cells (cells nullT) 23 (0, 0))) := Lib.hid ((hb6.block _ (lt_of_block R5.out)).trans R5.out)
    have B6 := Lib.hid (below_call B5.out hb6)
    clear hb6
    go_wp2_with fail
    refine (CD.out _).mono ?_
    rintro e w7 ⟨rfl, hb7⟩
    have R7 : Hid (w7.heap[w.heap.size]? = some (.cells (cells nullT) 23 (0, 0))) := Lib.hid ((hb7.block _ (lt_of_block R6.out)).trans R6.out)
    have B7 := Lib.hid (below_call B6.out hb7)
    clear hb7
    go_wp2_with (refine store23 rfl (.tmp 2) (.tmp 19) rfl w.heap.size Y rfl rfl _ R7.out ?_; intro wz hp; have HP := Lib.hid hp; clear hp)
    exact bodyPost_ret (ret23 rfl rfl HP.out.at') rfl ⟨by rw [HE.out], HP.out.low B7.out (Nat.le_refl _)⟩
  · have HE : Hid (gmomT s = nullT) := Lib.hid (by unfold gmomT; rw [if_neg hz])
    generalize gmomT s = R at *
    have hz' : (((s.size : Nat) : Int) != 20) = true := by simp; omega
    go_enter Tryz.func177, Tryz.ntmps177
    go_wp2_with (refine store23 rfl (.tmp 2) (.tmp 6) rfl w.heap.size nullT rfl rfl nullT (new_at _ _ _ rfl) ?_; intro wz hp; have HP := Lib.hid hp; clear hp)
    exact bodyPost_ret (ret23 rfl rfl HP.out.at') rfl ⟨by rw [HE.out], HP.out.low (by go_grown) (Nat.le_refl _)⟩
theorem gtext_t (s : ByteArray) (hs : s.size ≤ 2000000) (w : World) (hL : Lb w) : Calls Tryz.prog 176 #[.string s] w fun e w' => e = .returned (toV (gtextT s)) ∧ Below w.heap.size w w' := by
  have HL := Lib.hid hL
  clear hL
  by_cases hz : s.size < 2
  · have HE : Hid (gtextT s = nullT) := Lib.hid (by unfold gtextT; rw [if_pos hz])
    generalize gtextT s = R at *
    go_enter Tryz.func176, Tryz.ntmps176
    go_wp2_with (refine store23 rfl (.tmp 2) (.tmp 6) rfl w.heap.size nullT rfl rfl nullT (new_at _ _ _ rfl) ?_; intro wz hp; have HP := Lib.hid hp; clear hp)
    exact bodyPost_ret (ret23 rfl rfl HP.out.at') rfl ⟨by rw [HE.out], HP.out.low (by go_grown) (Nat.le_refl _)⟩
  · have HE : Hid (gtextT s = textT (unqB (s.extract 1 (s.size - 1)))) := Lib.hid (by unfold gtextT; rw [if_neg hz])
    have hx : (s.extract 1 (s.size - 1)).size ≤ 2000000 := by rw [ByteArray.size_extract]; omega
    have CU := Lib.hid (fun w hw => unq_t (s.extract 1 (s.size - 1)) (by omega) w hw)
    have hy := unq_size (s.extract 1 (s.size - 1))
    have CT := Lib.hid (text_t (unqB (s.extract 1 (s.size - 1))) (by unfold maxLen; omega))
    generalize gtextT s = R at *
    clear hx hy
    go_enter Tryz.func176, Tryz.ntmps176
    go_wp2_with fail
    refine (CU.out _ (HL.out.alloc _)).mono ?_
    rintro e w1 ⟨rfl, hb1⟩
    have R1 : Hid (w1.heap[w.heap.size]? = some (.cells (cells nullT) 23 (0, 0))) := Lib.hid ((hb1.block _ (by simp)).trans (new_at _ _ _ rfl))
    have B1 := Lib.hid (below_call (w := w) (by go_grown) hb1)
    clear hb1
    go_wp2_with fail
    refine (CT.out _).mono ?_
    rintro e w2 ⟨rfl, hb2⟩
    have R2 : Hid (w2.heap[w.heap.size]? = some (.cells (cells nullT) 23 (0, 0))) := Lib.hid ((hb2.block _ (lt_of_block R1.out)).trans R1.out)
    have B2 := Lib.hid (below_call B1.out hb2)
    clear hb2
    go_wp2_with (refine store23 rfl (.tmp 2) (.tmp 13) rfl w.heap.size (textT (unqB (s.extract 1 (s.size - 1)))) rfl rfl _ R2.out ?_; intro wz hp; have HP := Lib.hid hp; clear hp)
    exact bodyPost_ret (ret23 rfl rfl HP.out.at') rfl ⟨by rw [HE.out], HP.out.low B2.out (Nat.le_refl _)⟩
end YtabojeleomfgnaaGreatDoor
end Go.Proofs
