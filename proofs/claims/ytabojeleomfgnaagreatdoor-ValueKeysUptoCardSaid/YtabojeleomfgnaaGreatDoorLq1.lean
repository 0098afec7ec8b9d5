/- Patterns: what steps stand for, and the walk over them. matches. patternSteps. Like. -/
import Derived.Test.YtabojeleomfgnaaGreatDoorS1
import Derived.Test.YtabojeleomfgnaaGreatDoorK2
import Derived.Test.YtabojeleomfgnaaGreatDoorNu1
import Derived.Test.YtabojeleomfgnaaGreatDoorLg4
import Derived.Test.YtabojeleomfgnaaGreatDoorL1
namespace Go.Proofs
open Go.RowKit
namespace YtabojeleomfgnaaGreatDoor
set_option maxRecDepth 100000
/-- what a pattern's steps stand for: -1: any bytes, -2: one byte, else that byte -/
def Mt : List Int → List Int → Prop
  | [], t => t = []
  | p :: ps, t => if p = -1 then ∃ k, k ≤ t.length ∧ Mt ps (t.drop k) else ∃ c u, t = c :: u ∧ (p = -2 ∨ p = c) ∧ Mt ps u
theorem mt_cons (p : Int) (ps t : List Int) : Mt (p :: ps) t = if p = -1 then ∃ k, k ≤ t.length ∧ Mt ps (t.drop k) else ∃ c u, t = c :: u ∧ (p = -2 ∨ p = c) ∧ Mt ps u := by rw [Mt]
theorem drop_some {S : List Int} {j : Nat} {p : Int} (h : S[j]? = some p) : S.drop j = p :: S.drop (j + 1) := by
  obtain ⟨hj, rfl⟩ := List.getElem?_eq_some_iff.1 h
  exact List.drop_eq_getElem_cons hj
theorem some_lt {S : List Int} {j : Nat} {p : Int} (h : S[j]? = some p) : j < S.length := (List.getElem?_eq_some_iff.1 h).1
theorem lt_some {S : List Int} {j : Nat} (h : j < S.length) : ∃ p, S[j]? = some p := ⟨S[j], List.getElem?_eq_getElem h⟩
section
variable {S T : List Int} {i j : Nat} {p c : Int}
theorem mt_any (h : S[j]? = some (-1)) (hi : i ≤ T.length) : Mt (S.drop j) (T.drop i) ↔ ∃ u, i ≤ u ∧ u ≤ T.length ∧ Mt (S.drop (j + 1)) (T.drop u) := by
  rw [drop_some h, mt_cons, if_pos rfl]
  constructor
  · rintro ⟨k, hk, hm⟩
    rw [List.drop_drop] at hm
    rw [List.length_drop] at hk
    exact ⟨i + k, by omega, by omega, hm⟩
  · rintro ⟨u, h1, h2, hm⟩
    refine ⟨u - i, by rw [List.length_drop]; omega, ?_⟩
    rw [List.drop_drop, show i + (u - i) = u by omega]
    exact hm
theorem mt_one (h : S[j]? = some p) (hp : p ≠ -1) (hc : T[i]? = some c) : Mt (S.drop j) (T.drop i) ↔ (p = -2 ∨ p = c) ∧ Mt (S.drop (j + 1)) (T.drop (i + 1)) := by
  rw [drop_some h, mt_cons, if_neg hp, drop_some hc]
  constructor
  · rintro ⟨c', u, e, hf, hm⟩
    obtain ⟨rfl, rfl⟩ := List.cons.inj e
    exact ⟨hf, hm⟩
  · rintro ⟨hf, hm⟩
    exact ⟨c, _, rfl, hf, hm⟩
theorem mt_short (h : S[j]? = some p) (hp : p ≠ -1) (hi : T.length ≤ i) : ¬ Mt (S.drop j) (T.drop i) := by
  rw [drop_some h, mt_cons, if_neg hp, List.drop_eq_nil_of_le hi]
  rintro ⟨c, u, e, _⟩
  cases e
theorem mt_end (hj : S.length ≤ j) : Mt (S.drop j) (T.drop i) ↔ T.length ≤ i := by
  rw [List.drop_eq_nil_of_le hj, Mt, List.drop_eq_nil_iff]
theorem mt_run_fwd (hi : i ≤ T.length) : ∀ d : Nat, (∀ x, x < d → ∃ p, S[j + x]? = some p ∧ p ≠ -1) → Mt (S.drop j) (T.drop i) → i + d ≤ T.length ∧ Mt (S.drop (j + d)) (T.drop (i + d))
  | 0, _, h => ⟨hi, h⟩
  | d + 1, hx, h => by
    obtain ⟨h1, h2⟩ := mt_run_fwd hi d (fun x hxd => hx x (by omega)) h
    obtain ⟨p, hp, hn⟩ := hx d (by omega)
    by_cases hlt : i + d < T.length
    · obtain ⟨c, hc⟩ := lt_some hlt
      exact ⟨by omega, ((mt_one hp hn hc).1 h2).2⟩
    · exact absurd h2 (mt_short hp hn (by omega))
theorem mt_run_bwd : ∀ (d i j : Nat), (∀ x, x < d → ∃ p c, S[j + x]? = some p ∧ T[i + x]? = some c ∧ p ≠ -1 ∧ (p = -2 ∨ p = c)) → Mt (S.drop (j + d)) (T.drop (i + d)) → Mt (S.drop j) (T.drop i)
  | 0, _, _, _, h => h
  | d + 1, i, j, hx, h => by
    obtain ⟨p, c, h1, h2, h3, h4⟩ := hx 0 (by omega)
    refine (mt_one h1 h3 h2).2 ⟨h4, mt_run_bwd d (i + 1) (j + 1) (fun x hxd => ?_) ?_⟩
    · obtain ⟨p, c, g1, g2, g3⟩ := hx (x + 1) (by omega)
      exact ⟨p, c, by rw [show j + 1 + x = j + (x + 1) by omega]; exact g1, by rw [show i + 1 + x = i + (x + 1) by omega]; exact g2, g3⟩
    · rw [show j + 1 + d = j + (d + 1) by omega, show i + 1 + d = i + (d + 1) by omega]
      exact h
end
def Gv (S T : List Int) (l t : Nat) : Prop := ∃ u, t ≤ u ∧ u ≤ T.length ∧ Mt (S.drop (l + 1)) (T.drop u)
def Fits (S T : List Int) (l t d : Nat) : Prop := ∀ x, x < d → ∃ p c, S[l + 1 + x]? = some p ∧ T[t + x]? = some c ∧ p ≠ -1 ∧ (p = -2 ∨ p = c)
/-- the loop's relation: at, step, the last any, what it has taken -/
def Inv (S T : List Int) (i j : Nat) (la tk : Int) : Prop :=
  i ≤ T.length ∧ j ≤ S.length ∧ 0 ≤ tk ∧ tk ≤ i ∧ ((la = -1 ∧ tk = 0 ∧ (Mt S T ↔ Mt (S.drop j) (T.drop i))) ∨ ∃ l t : Nat, la = l ∧ tk = t ∧ S[l]? = some (-1) ∧ j = l + 1 + (i - t) ∧ Fits S T l t (i - t) ∧ (Mt S T ↔ Gv S T l t))
/-- here the text does not go on as the pattern does -/
def Stuck (S T : List Int) (i j : Nat) : Prop := S.length ≤ j ∨ ∃ p c, S[j]? = some p ∧ T[i]? = some c ∧ p ≠ -1 ∧ ¬ (p = -2 ∨ p = c)
section
variable {S T : List Int} {i j : Nat} {la tk p c : Int}
theorem inv_start (S T : List Int) : Inv S T 0 0 (-1) 0 := ⟨Nat.zero_le _, Nat.zero_le _, by omega, by omega, Or.inl ⟨rfl, rfl, Iff.rfl⟩⟩
theorem inv_any (h : Inv S T i j la tk) (hp : S[j]? = some (-1)) : Inv S T i (j + 1) j i := by
  obtain ⟨h1, h2, h3, h4, h5⟩ := h
  refine ⟨h1, some_lt hp, by omega, by omega, Or.inr ⟨j, i, rfl, rfl, hp, by omega, fun x hx => by omega, ?_⟩⟩
  rcases h5 with ⟨_, _, hm⟩ | ⟨l, t, rfl, rfl, hl, hj, hf, hm⟩
  · exact hm.trans (mt_any hp h1)
  · refine hm.trans ⟨?_, ?_⟩
    · rintro ⟨u, u1, u2, hu⟩
      obtain ⟨v1, v2⟩ := mt_run_fwd u2 (i - t) (fun x hx => by obtain ⟨p, c, g1, _, g3, _⟩ := hf x hx; exact ⟨p, g1, g3⟩) hu
      rw [← hj] at v2
      obtain ⟨k, k1, k2, hk⟩ := (mt_any hp v1).1 v2
      exact ⟨k, by omega, k2, hk⟩
    · intro hg
      have hmt := (mt_any hp h1).2 hg
      refine ⟨t, Nat.le_refl _, by omega, mt_run_bwd (i - t) t (l + 1) hf ?_⟩
      rw [← hj, show t + (i - t) = i by omega]
      exact hmt
theorem inv_fit (h : Inv S T i j la tk) (hp : S[j]? = some p) (hc : T[i]? = some c) (hn : p ≠ -1) (hf : p = -2 ∨ p = c) : Inv S T (i + 1) (j + 1) la tk := by
  obtain ⟨h1, h2, h3, h4, h5⟩ := h
  refine ⟨some_lt hc, some_lt hp, h3, by omega, ?_⟩
  rcases h5 with ⟨e1, e2, hm⟩ | ⟨l, t, rfl, rfl, hl, hj, hfs, hm⟩
  · exact Or.inl ⟨e1, e2, hm.trans ((mt_one hp hn hc).trans ⟨fun g => g.2, fun g => ⟨hf, g⟩⟩)⟩
  · refine Or.inr ⟨l, t, rfl, rfl, hl, by omega, fun x hx => ?_, hm⟩
    by_cases hlt : x < i - t
    · exact hfs x hlt
    · obtain rfl : x = i - t := by omega
      exact ⟨p, c, by rw [← hj]; exact hp, by rw [show t + (i - t) = i by omega]; exact hc, hn, hf⟩
theorem stuck_no (hi : i < T.length) (h : Stuck S T i j) : ¬ Mt (S.drop j) (T.drop i) := by
  rcases h with h | ⟨p, c, h1, h2, h3, h4⟩
  · rw [mt_end h]; omega
  · rw [mt_one h1 h3 h2]; exact fun g => h4 g.1
theorem inv_fail (h : Inv S T i j la tk) (hl : ¬ 0 ≤ la) (hi : i < T.length) (hs : Stuck S T i j) : ¬ Mt S T := by
  obtain ⟨_, _, _, _, ⟨_, _, hm⟩ | ⟨l, t, rfl, _⟩⟩ := h
  · rw [hm]; exact stuck_no hi hs
  · omega
theorem inv_again (h : Inv S T i j la tk) (hl : 0 ≤ la) (hi : i < T.length) (hs : Stuck S T i j) : ∃ l t : Nat, la = l ∧ tk = t ∧ l < S.length ∧ t ≤ i ∧ Inv S T (t + 1) (l + 1) l (t + 1 : Nat) := by
  obtain ⟨h1, h2, h3, h4, ⟨e, _⟩ | ⟨l, t, rfl, rfl, hl', hj, hf, hm⟩⟩ := h
  · omega
  · refine ⟨l, t, rfl, rfl, some_lt hl', by omega, by omega, some_lt hl', by omega, by omega, Or.inr ⟨l, t + 1, rfl, rfl, hl', by omega, fun x hx => by omega, hm.trans ⟨?_, ?_⟩⟩⟩
    · rintro ⟨u, u1, u2, hu⟩
      refine ⟨u, ?_, u2, hu⟩
      rcases (by omega : t + 1 ≤ u ∨ u = t) with g | rfl
      · exact g
      · obtain ⟨_, v2⟩ := mt_run_fwd u2 (i - u) (fun x hx => by obtain ⟨p, c, g1, _, g3, _⟩ := hf x hx; exact ⟨p, g1, g3⟩) hu
        rw [← hj, show u + (i - u) = i by omega] at v2
        exact absurd v2 (stuck_no hi hs)
    · rintro ⟨u, u1, u2, hu⟩
      exact ⟨u, by omega, u2, hu⟩
theorem inv_done (h : Inv S T i j la tk) (hi : ¬ i < T.length) : Mt S T ↔ Mt (S.drop j) (T.drop T.length) := by
  obtain ⟨h1, h2, h3, h4, h5⟩ := h
  obtain rfl : i = T.length := by omega
  rcases h5 with ⟨_, _, hm⟩ | ⟨l, t, rfl, rfl, hl', hj, hf, hm⟩
  · exact hm
  · refine hm.trans ⟨?_, ?_⟩
    · rintro ⟨u, u1, u2, hu⟩
      obtain ⟨v1, v2⟩ := mt_run_fwd u2 (T.length - t) (fun x hx => by obtain ⟨p, c, g1, _, g3, _⟩ := hf x hx; exact ⟨p, g1, g3⟩) hu
      obtain rfl : u = t := by omega
      rw [← hj, show u + (T.length - u) = T.length by omega] at v2
      exact v2
    · intro hmt
      refine ⟨t, Nat.le_refl _, by omega, mt_run_bwd (T.length - t) t (l + 1) hf ?_⟩
      rw [← hj, show t + (T.length - t) = T.length by omega]
      exact hmt
theorem done_any (hp : S[j]? = some (-1)) : Mt (S.drop j) (T.drop T.length) ↔ Mt (S.drop (j + 1)) (T.drop T.length) := by
  rw [mt_any hp (Nat.le_refl _)]
  constructor
  · rintro ⟨u, u1, u2, hu⟩
    obtain rfl : u = T.length := by omega
    exact hu
  · intro hu; exact ⟨_, Nat.le_refl _, Nat.le_refl _, hu⟩
theorem done_not (hp : S[j]? = some p) (hn : p ≠ -1) : ¬ Mt (S.drop j) (T.drop T.length) := mt_short hp hn (Nat.le_refl _)
theorem done_end (hj : S.length ≤ j) : Mt (S.drop j) (T.drop T.length) := (mt_end hj).2 (Nat.le_refl _)
/-- the loop's measure -/
def mu (n m : Nat) (i j : Nat) (tk : Int) : Nat := (m - tk.toNat) * (n + m + 2) + (n - j) + (m - i)
theorem mu_any {n m : Nat} (h4 : tk ≤ i) (hj : j < n) : mu n m i (j + 1) i < mu n m i j tk := by
  unfold mu
  have : (m - (i : Int).toNat) * (n + m + 2) ≤ (m - tk.toNat) * (n + m + 2) := Nat.mul_le_mul_right _ (by omega)
  omega
theorem mu_fit {n m : Nat} (hj : j < n) (hi : i < m) : mu n m (i + 1) (j + 1) tk < mu n m i j tk := by
  unfold mu
  omega
theorem mu_again {n m l t : Nat} (hi : i < m) (ht : t ≤ i) : mu n m (t + 1) (l + 1) (t + 1 : Nat) < mu n m i j t := by
  unfold mu
  obtain ⟨d, hd⟩ : ∃ d, m - t = d + 1 := ⟨m - t - 1, by omega⟩
  have e1 : m - ((t : Int)).toNat = d + 1 := by omega
  have e2 : m - (((t + 1 : Nat) : Int)).toNat = d := by omega
  rw [e1, e2, Nat.add_mul]
  omega
end
end YtabojeleomfgnaaGreatDoor
end Go.Proofs
namespace Go.Proofs
open Go.RowKit
namespace YtabojeleomfgnaaGreatDoor
set_option maxRecDepth 100000
def bytesOf (s : ByteArray) : List Int := s.data.toList.map (fun b => (b.toNat : Int))
theorem bytesOf_length (s : ByteArray) : (bytesOf s).length = s.size := by simp [bytesOf]
theorem bytesOf_some {s : ByteArray} {i : Nat} (h : i < s.size) : (bytesOf s)[i]? = some ((s[i].toNat : Int)) := by
  unfold bytesOf
  rw [List.getElem?_map, List.getElem?_eq_getElem (by simpa using h)]
  rfl
/-- a list of numbers lies there -/
def Lsi (w : World) (a : Option Addr) (S : List Int) : Prop := ∀ k p, S[k]? = some p → ∃ b o, a = some ⟨b, o, none⟩ ∧ w.cell? ⟨b, o + k, none⟩ = some (.int .i64 p)
theorem Lsi.below {w w' : World} {a : Option Addr} {S : List Int} (h : Lsi w a S) (hb : Below w.heap.size w w') : Lsi w' a S := fun k p hk => by
  obtain ⟨b, o, ha, hc⟩ := h k p hk
  exact ⟨b, o, ha, (hb.cell (p := ⟨b, o + k, none⟩) (block_lt_of_cell hc)).trans hc⟩
theorem i64_in' (n : Int) (h : -9223372036854775808 ≤ n ∧ n ≤ 9223372036854775807) : IntKind.i64.wrap n = n := by rw [IntKind.wrap_i64]; omega
theorem drew_below {B : Nat} {w w' : World} (h : Below B w w') (k : Nat) : Below B w (w'.drewN k) := ⟨h.os, h.tape, h.output, h.size, h.block⟩
set_option maxHeartbeats 4000000 in
theorem matches_t (s : ByteArray) (a : Option Addr) (S : List Int) (cap : Nat) (w : World) (hl : Lsi w a S) (hn : S.length ≤ 1000) (hs : s.size ≤ 1000) :
    Calls Tryz.prog 129 #[.string s, .slice a S.length cap] w fun e w' => (∃ b : Bool, e = .returned (.bool b) ∧ (b = true ↔ Mt S (bytesOf s))) ∧ Below w.heap.size w w' := by
  have HL := Lib.hid hl
  have HI := Lib.hid (inv_start S (bytesOf s))
  clear hl
  go_enter Tryz.func129, Tryz.ntmps129
  go_wp2_with fail
  go_loopw [5, 6, 7, 8] (fun x y z u wr => ∃ (i j : Nat) (la tk : Int), x = .int .i64 i ∧ y = .int .i64 j ∧ z = .int .i64 la ∧ u = .int .i64 tk ∧ Hid (Inv S (bytesOf s) i j la tk) ∧ Hid (Below w.heap.size w wr)) (fun x y _ u _ => mu S.length s.size (intOf x).toNat (intOf y).toNat (intOf u))
  case atStart => exact ⟨0, 0, -1, 0, rfl, rfl, rfl, rfl, HI, Lib.hid (Below.refl _ _)⟩
  case round =>
    obtain ⟨i, j, la, tk, rfl, rfl, rfl, rfl, hI, hB⟩ := hrel
    by_cases hi : i < s.size
    · by_cases hj : j < S.length
      · obtain ⟨p, hp⟩ := lt_some hj
        obtain ⟨b, o, rfl, cj⟩ := (HL.out.below hB.out) j p hp
        have HP := Lib.hid hp
        have HC := Lib.hid (bytesOf_some hi)
        clear hp
        by_cases h1 : p = -1
        · subst h1
          go_wp2_with fail
          go_roundw
          case rel => exact ⟨i, j + 1, j, i, rfl, by go_num, rfl, rfl, Lib.hid (inv_any hI.out HP.out), hB⟩
          case measure =>
            show mu S.length s.size (i : Int).toNat ((j : Int) + 1).toNat i < mu S.length s.size (i : Int).toNat (j : Int).toNat tk
            rw [show (i : Int).toNat = i by omega, show ((j : Int) + 1).toNat = j + 1 by omega, show (j : Int).toNat = j by omega]
            exact mu_any hI.out.2.2.2.1 hj
        · have H1 := Lib.hid h1
          have hc8 : s[i].toNat < 256 := s[i].toNat_lt
          obtain ⟨c, hcs⟩ : ∃ c : Int, ((s[i].toNat : Nat) : Int) = c := ⟨_, rfl⟩
          have hc0 : 0 ≤ c := by omega
          have hc1 : c ≤ 255 := by omega
          have hw : IntKind.i64.wrap ((s[i].toNat : Nat) : Int) = c := by rw [hcs]; exact i64_in' c (by omega)
          rw [hcs] at HC
          clear hcs hc8
          have q1 : (p == -1) = false := by simpa using h1
          by_cases hf : p = -2
          · have HF : Hid (p = -2 ∨ p = c) := Lib.hid (Or.inl hf)
            have q2 : (p == -2) = true := by simpa using hf
            clear h1 hf
            go_wp2_with fail
            go_quiet (fail)
            go_wp2_with fail
            go_roundw
            case rel => exact ⟨i + 1, j + 1, la, tk, by go_num, by go_num, rfl, rfl, Lib.hid (inv_fit hI.out HP.out HC.out H1.out HF.out), Lib.hid (drew_below hB.out _)⟩
            case measure =>
              show mu S.length s.size ((i : Int) + 1).toNat ((j : Int) + 1).toNat tk < mu S.length s.size (i : Int).toNat (j : Int).toNat tk
              rw [show ((i : Int) + 1).toNat = i + 1 by omega, show (i : Int).toNat = i by omega, show ((j : Int) + 1).toNat = j + 1 by omega, show (j : Int).toNat = j by omega]
              exact mu_fit hj hi
          · have q2 : (p == -2) = false := by simpa using hf
            by_cases hf2 : p = c
            · have HF : Hid (p = -2 ∨ p = c) := Lib.hid (Or.inr hf2)
              have q3 : (p == c) = true := by simpa using hf2
              clear h1 hf hf2
              go_wp2_with fail
              go_quiet (fail)
              go_wp2_with fail
              go_roundw
              case rel => exact ⟨i + 1, j + 1, la, tk, by go_num, by go_num, rfl, rfl, Lib.hid (inv_fit hI.out HP.out HC.out H1.out HF.out), Lib.hid (drew_below hB.out _)⟩
              case measure =>
                show mu S.length s.size ((i : Int) + 1).toNat ((j : Int) + 1).toNat tk < mu S.length s.size (i : Int).toNat (j : Int).toNat tk
                rw [show ((i : Int) + 1).toNat = i + 1 by omega, show (i : Int).toNat = i by omega, show ((j : Int) + 1).toNat = j + 1 by omega, show (j : Int).toNat = j by omega]
                exact mu_fit hj hi
            · have q3 : (p == c) = false := by simpa using hf2
              have HST : Hid (Stuck S (bytesOf s) i j) := Lib.hid (Or.inr ⟨p, c, HP.out, HC.out, h1, fun h => h.elim hf hf2⟩)
              clear h1 hf hf2
              by_cases hla : 0 ≤ la
              · obtain ⟨l, t, rfl, rfl, hl1, ht1, hI2⟩ := inv_again hI.out hla (by rw [bytesOf_length]; exact hi) HST.out
                have HI2 := Lib.hid hI2
                clear hI2 hla
                go_wp2_with fail
                go_quiet (fail)
                go_wp2_with fail
                go_roundw
                case rel => exact ⟨t + 1, l + 1, l, (t + 1 : Nat), by go_num, by go_num, rfl, by go_num, HI2, Lib.hid (drew_below hB.out _)⟩
                case measure =>
                  show mu S.length s.size ((t : Int) + 1).toNat ((l : Int) + 1).toNat ((t : Int) + 1) < mu S.length s.size (i : Int).toNat (j : Int).toNat t
                  rw [show ((t : Int) + 1).toNat = t + 1 by omega, show (i : Int).toNat = i by omega, show ((l : Int) + 1).toNat = l + 1 by omega, show (j : Int).toNat = j by omega]
                  exact mu_again hi ht1
              · have HNO := Lib.hid (inv_fail hI.out hla (by rw [bytesOf_length]; exact hi) HST.out)
                go_wp2_with fail
                go_quiet (fail)
                go_wp2_with fail
                go_ret
                exact ⟨⟨false, rfl, by simp [HNO.out]⟩, drew_below hB.out _⟩
      · have HST : Hid (Stuck S (bytesOf s) i j) := Lib.hid (Or.inl (by omega))
        by_cases hla : 0 ≤ la
        · obtain ⟨l, t, rfl, rfl, hl1, ht1, hI2⟩ := inv_again hI.out hla (by rw [bytesOf_length]; exact hi) HST.out
          have HI2 := Lib.hid hI2
          clear hI2 hla
          go_wp2_with fail
          go_quiet (fail)
          go_wp2_with fail
          go_roundw
          case rel => exact ⟨t + 1, l + 1, l, (t + 1 : Nat), by go_num, by go_num, rfl, by go_num, HI2, Lib.hid (drew_below hB.out _)⟩
          case measure =>
            show mu S.length s.size ((t : Int) + 1).toNat ((l : Int) + 1).toNat ((t : Int) + 1) < mu S.length s.size (i : Int).toNat (j : Int).toNat t
            rw [show ((t : Int) + 1).toNat = t + 1 by omega, show (i : Int).toNat = i by omega, show ((l : Int) + 1).toNat = l + 1 by omega, show (j : Int).toNat = j by omega]
            exact mu_again hi ht1
        · have HNO := Lib.hid (inv_fail hI.out hla (by rw [bytesOf_length]; exact hi) HST.out)
          go_wp2_with fail
          go_quiet (fail)
          go_wp2_with fail
          go_ret
          exact ⟨⟨false, rfl, by simp [HNO.out]⟩, drew_below hB.out _⟩
    · have HD := Lib.hid (inv_done hI.out (by rw [bytesOf_length]; exact hi))
      have hjn : j ≤ S.length := hI.out.2.1
      clear hI
      go_wp2_with fail
      go_loopw [6] (fun y wr => ∃ j : Nat, y = .int .i64 j ∧ j ≤ S.length ∧ Hid (Mt S (bytesOf s) ↔ Mt (S.drop j) ((bytesOf s).drop (bytesOf s).length)) ∧ Hid (Below w.heap.size w wr)) (fun y _ => S.length - (intOf y).toNat)
      case atStart => exact ⟨j, rfl, hjn, HD, hB⟩
      case round =>
        clear HD hjn hB
        obtain ⟨j, rfl, hjn, HD, hB⟩ := hrel
        by_cases hj : j < S.length
        · obtain ⟨p, hp⟩ := lt_some hj
          obtain ⟨b, o, rfl, cj⟩ := (HL.out.below hB.out) j p hp
          have HP := Lib.hid hp
          clear hp
          by_cases h1 : p = -1
          · subst h1
            go_wp2_with fail
            go_roundw
            case rel => exact ⟨j + 1, by go_num, by omega, Lib.hid (HD.out.trans (done_any HP.out)), hB⟩
            case measure => simp [intOf]; omega
          · have HNO : Hid (¬ Mt S (bytesOf s)) := Lib.hid (fun h => done_not HP.out h1 (HD.out.1 h))
            have q1 : (p == -1) = false := by simpa using h1
            have q5 : ((j : Int) == (S.length : Int)) = false := by simp; omega
            clear h1
            go_wp2_with fail
            go_ret
            exact ⟨⟨false, rfl, by simp [HNO.out]⟩, hB.out⟩
        · obtain rfl : j = S.length := by omega
          have HY : Hid (Mt S (bytesOf s)) := Lib.hid (HD.out.2 (done_end (Nat.le_refl _)))
          go_wp2_with fail
          go_ret
          exact ⟨⟨true, rfl, by simp [HY.out]⟩, hB.out⟩
end YtabojeleomfgnaaGreatDoor
end Go.Proofs
namespace Go.Proofs
open Go.RowKit
namespace YtabojeleomfgnaaGreatDoor
set_option maxRecDepth 100000
/-- what a byte of a pattern stands for by itself -/
def one (c : Int) : Int := if c = 37 then -1 else if c = 95 then -2 else c
/-- the steps of a pattern -/
def stepsOf : List Int → List Int
  | [] => []
  | [c] => [one c]
  | c :: d :: u => if c = 92 then d :: stepsOf u else one c :: stepsOf (d :: u)
theorem steps_cons (c d : Int) (u : List Int) : stepsOf (c :: d :: u) = if c = 92 then d :: stepsOf u else one c :: stepsOf (d :: u) := by rw [stepsOf]
theorem steps_next {T : List Int} {i : Nat} {c : Int} (h : T[i]? = some c) (hc : c ≠ 92 ∨ T.length ≤ i + 1) : stepsOf (T.drop i) = one c :: stepsOf (T.drop (i + 1)) := by
  rw [drop_some h]
  by_cases hlt : i + 1 < T.length
  · obtain ⟨d, hd⟩ := lt_some hlt
    rw [drop_some hd, steps_cons, if_neg (hc.resolve_right (by omega))]
  · rw [List.drop_eq_nil_of_le (by omega), stepsOf, stepsOf]
theorem steps_esc {T : List Int} {i : Nat} {d : Int} (h : T[i]? = some 92) (hd : T[i + 1]? = some d) : stepsOf (T.drop i) = d :: stepsOf (T.drop (i + 2)) := by
  rw [drop_some h, drop_some hd, steps_cons, if_pos rfl]
theorem steps_length : ∀ T : List Int, (stepsOf T).length ≤ T.length
  | [] => Nat.zero_le _
  | [c] => by rw [stepsOf]; simp
  | c :: d :: u => by
    rw [steps_cons]
    have h1 := steps_length u
    have h2 := steps_length (d :: u)
    split <;> simp at * <;> omega
/-- the list that is being made, and nothing else turned -/
def Ac (acc : List Int) (v : Value) (w0 w : World) : Prop := w.ownsRow w0.heap.size 3 1 v acc.length (acc.map (Value.int .i64)) ∧ Below w0.heap.size w0 w
theorem wpList_push {ops : Array Oper} {rest : List Oper} {o : Oper} {a : Act} {w : World} {Q : Exit → Act → World → Prop} (hgd : o.guard = none) (s x : Operand) (ho : o.op = .call { callee := .builtin .append, args := #[s, x], argTypes := #[51, 51] })
    (w0 wr : World) (acc : List Int) (v : Value) (p : Int) (hs : a.eval s = v) (hA : Ac acc v w0 wr) (hw : w = wr.alloc (.cells #[.int .i64 p] 3)) (hx : a.eval x = .slice (some ⟨wr.heap.size, 0, none⟩) 1 1) (hlen : acc.length ≤ 1000)
    (h : ∀ v' w', Ac (acc ++ [p]) v' w0 w' → wpList Tryz.prog ops Q rest (a.put o.dst v') w') : wpList Tryz.prog ops Q (o :: rest) a w := by
  subst hw
  obtain ⟨i3, hi, hz0, hz1, hz2⟩ := info_parts info3
  have hB : Below w0.heap.size w0 (wr.alloc (.cells #[.int .i64 p] 3)) := hA.2.alloc hA.2.size _
  refine wpList_append_own _ hgd s x 51 ho w0.heap.size 3 i3 (.int .i64 0) 1 8 Tryz.underlying51 hi hz0 hz1 hz2 rfl (by decide) v acc.length _ hs (hA.1.alloc _) ⟨wr.heap.size, 0, none⟩ 1 1 [.int .i64 p] hx rfl (news1 _ _) (by simp [Value.oneCell']) (by unfold maxLen; omega) (by omega) hB.size ?_
  intro v' w' h1 h2 _
  refine h v' w' ⟨by simpa using h1, hB.grown h2 hB.size (fun k hk => (hA.1.lt k hk).1)⟩
theorem Ac.list {acc : List Int} {v : Value} {w0 w : World} (h : Ac acc v w0 w) : ∃ a cap, v = .slice a acc.length cap ∧ Lsi w a acc := by
  obtain ⟨⟨h1, h2⟩, _⟩ := h
  rcases h2 with ⟨rfl, h0⟩ | ⟨g, cap, cur, rfl, h3, h4, h5, h6, h7, h8⟩
  · refine ⟨none, 0, by rw [h0], fun k p hk => ?_⟩
    have := some_lt hk
    omega
  · refine ⟨_, cap, rfl, fun k p hk => ⟨g, 0, rfl, ?_⟩⟩
    have hlt := some_lt hk
    rw [Nat.zero_add, cell_of_row w g k _ _ _ h4]
    have h9 : (acc.map (Value.int .i64))[k]? = some (.int .i64 p) := by rw [List.getElem?_map, hk]; rfl
    rw [← h8, List.getElem?_take] at h9
    simpa [hlt] using h9
set_option maxHeartbeats 4000000 in
theorem steps_t (s : ByteArray) (hs : s.size ≤ 1000) (w : World) :
    Calls Tryz.prog 130 #[.string s] w fun e w' => (∃ a cap, e = .returned (.slice a (stepsOf (bytesOf s)).length cap) ∧ Lsi w' a (stepsOf (bytesOf s))) ∧ Below w.heap.size w w' := by
  have HA : Hid (Ac [] (.slice none 0 0) w w) := Lib.hid ⟨World.ownsRow_nil _ _ _ _, Below.refl _ _⟩
  have HS : Hid (stepsOf (bytesOf s) = [] ++ stepsOf ((bytesOf s).drop 0)) := Lib.hid rfl
  go_enter Tryz.func130, Tryz.ntmps130
  go_wp2_with fail
  go_loopw [3, 4] (fun v x wr => ∃ (i : Nat) (acc : List Int) (u : Value), u = v ∧ x = .int .i64 i ∧ i ≤ s.size ∧ acc.length ≤ i ∧ Hid (stepsOf (bytesOf s) = acc ++ stepsOf ((bytesOf s).drop i)) ∧ Hid (Ac acc u w wr)) (fun _ x _ => s.size - (intOf x).toNat)
  case atStart => exact ⟨0, [], _, rfl, rfl, Nat.zero_le _, Nat.zero_le _, HS, HA⟩
  case round =>
    clear HA HS
    obtain ⟨i, acc, v, rfl, rfl, hi0, hacc, HS, hA⟩ := hrel
    by_cases hi : i < s.size
    · have HC := Lib.hid (bytesOf_some hi)
      have hc8 : s[i].toNat < 256 := s[i].toNat_lt
      obtain ⟨c, hcs⟩ : ∃ c : Int, ((s[i].toNat : Nat) : Int) = c := ⟨_, rfl⟩
      have hc0 : 0 ≤ c := by omega
      have hc1 : c ≤ 255 := by omega
      have hw : IntKind.i64.wrap c = c := i64_in' c (by omega)
      rw [hcs] at HC
      clear hc8
      by_cases h1 : c = 37
      · have E : one c = -1 := by unfold one; rw [if_pos h1]
        have HE : Hid (stepsOf ((bytesOf s).drop i) = -1 :: stepsOf ((bytesOf s).drop (i + 1))) := Lib.hid (by rw [steps_next HC.out (Or.inl (by omega)), E])
        have q1 : (c == 37) = true := by simpa using h1
        clear E h1
        go_wp2_with (at_builtin; go_must (refine wpList_push rfl (.tmp 23) (.tmp 24) rfl w wr acc v (-1) rfl hA.out rfl rfl (by omega) ?_); intro v' w' hA'; have HA := Lib.hid hA'; clear hA')
        have HS2 : Hid (stepsOf (bytesOf s) = (acc ++ [-1]) ++ stepsOf ((bytesOf s).drop (i + 1))) := Lib.hid (by rw [HS.out, HE.out]; simp)
        go_wp2_with fail
        go_roundw
        case rel => exact ⟨i + 1, acc ++ [-1], _, rfl, by go_num, by omega, by simp; omega, HS2, HA⟩
        case measure => simp [intOf]; omega
      · have q1 : (c == 37) = false := by simpa using h1
        by_cases h2 : c = 95
        · have E : one c = -2 := by unfold one; rw [if_neg h1, if_pos h2]
          have HE : Hid (stepsOf ((bytesOf s).drop i) = -2 :: stepsOf ((bytesOf s).drop (i + 1))) := Lib.hid (by rw [steps_next HC.out (Or.inl (by omega)), E])
          have q2 : (c == 95) = true := by simpa using h2
          clear E h1 h2
          go_wp2_with (at_builtin; go_must (refine wpList_push rfl (.tmp 31) (.tmp 32) rfl w wr acc v (-2) rfl hA.out rfl rfl (by omega) ?_); intro v' w' hA'; have HA := Lib.hid hA'; clear hA')
          have HS2 : Hid (stepsOf (bytesOf s) = (acc ++ [-2]) ++ stepsOf ((bytesOf s).drop (i + 1))) := Lib.hid (by rw [HS.out, HE.out]; simp)
          go_wp2_with fail
          go_roundw
          case rel => exact ⟨i + 1, acc ++ [-2], _, rfl, by go_num, by omega, by simp; omega, HS2, HA⟩
          case measure => simp [intOf]; omega
        · have q2 : (c == 95) = false := by simpa using h2
          have E : one c = c := by unfold one; rw [if_neg h1, if_neg h2]
          by_cases h3 : c = 92
          · have q3 : (c == 92) = true := by simpa using h3
            by_cases h4 : i + 1 < s.size
            · have HD := Lib.hid (bytesOf_some h4)
              have hd8 : s[i + 1].toNat < 256 := s[i + 1].toNat_lt
              obtain ⟨d, hds⟩ : ∃ d : Int, ((s[i + 1].toNat : Nat) : Int) = d := ⟨_, rfl⟩
              have hd0 : 0 ≤ d := by omega
              have hd1 : d ≤ 255 := by omega
              have hwd : IntKind.i64.wrap d = d := i64_in' d (by omega)
              rw [hds] at HD
              rw [h3] at HC
              have HE : Hid (stepsOf ((bytesOf s).drop i) = d :: stepsOf ((bytesOf s).drop (i + 2))) := Lib.hid (steps_esc HC.out HD.out)
              clear hd8 E h1 h2 h3
              go_wp2_with (at_builtin; go_must (refine wpList_push rfl (.tmp 48) (.tmp 53) rfl w wr acc v (d) rfl hA.out rfl rfl (by omega) ?_); intro v' w' hA'; have HA := Lib.hid hA'; clear hA')
              have HS2 : Hid (stepsOf (bytesOf s) = (acc ++ [d]) ++ stepsOf ((bytesOf s).drop (i + 2))) := Lib.hid (by rw [HS.out, HE.out]; simp)
              go_wp2_with fail
              go_roundw
              case rel => exact ⟨i + 2, acc ++ [d], _, rfl, by go_num, by omega, by simp; omega, HS2, HA⟩
              case measure => simp [intOf]; omega
            · have HE : Hid (stepsOf ((bytesOf s).drop i) = c :: stepsOf ((bytesOf s).drop (i + 1))) := Lib.hid (by rw [steps_next HC.out (Or.inr (by rw [bytesOf_length]; omega)), E])
              clear E h1 h2 h3
              go_wp2_with (at_builtin; go_must (refine wpList_push rfl (.tmp 11) (.tmp 16) rfl w wr acc v (c) rfl hA.out rfl rfl (by omega) ?_); intro v' w' hA'; have HA := Lib.hid hA'; clear hA')
              have HS2 : Hid (stepsOf (bytesOf s) = (acc ++ [c]) ++ stepsOf ((bytesOf s).drop (i + 1))) := Lib.hid (by rw [HS.out, HE.out]; simp)
              go_wp2_with fail
              go_roundw
              case rel => exact ⟨i + 1, acc ++ [c], _, rfl, by go_num, by omega, by simp; omega, HS2, HA⟩
              case measure => simp [intOf]; omega
          · have q3 : (c == 92) = false := by simpa using h3
            have HE : Hid (stepsOf ((bytesOf s).drop i) = c :: stepsOf ((bytesOf s).drop (i + 1))) := Lib.hid (by rw [steps_next HC.out (Or.inl h3), E])
            clear E h1 h2 h3
            go_wp2_with (at_builtin; go_must (refine wpList_push rfl (.tmp 11) (.tmp 16) rfl w wr acc v (c) rfl hA.out rfl rfl (by omega) ?_); intro v' w' hA'; have HA := Lib.hid hA'; clear hA')
            have HS2 : Hid (stepsOf (bytesOf s) = (acc ++ [c]) ++ stepsOf ((bytesOf s).drop (i + 1))) := Lib.hid (by rw [HS.out, HE.out]; simp)
            go_wp2_with fail
            go_roundw
            case rel => exact ⟨i + 1, acc ++ [c], _, rfl, by go_num, by omega, by simp; omega, HS2, HA⟩
            case measure => simp [intOf]; omega
    · have HD : Hid (stepsOf (bytesOf s) = acc) := Lib.hid (by rw [HS.out, List.drop_eq_nil_of_le (by rw [bytesOf_length]; omega), stepsOf, List.append_nil])
      have HB := Lib.hid hA.out.2
      obtain ⟨a, cap, hv, hl⟩ := hA.out.list
      subst hv
      have HL := Lib.hid hl
      clear hl hA HS
      go_wp2_with fail
      go_ret
      exact ⟨⟨a, cap, by rw [HD.out]; rfl, by rw [HD.out]; exact HL.out⟩, HB.out⟩
end YtabojeleomfgnaaGreatDoor
end Go.Proofs
namespace Go.Proofs
open Go.RowKit
namespace YtabojeleomfgnaaGreatDoor
set_option maxRecDepth 100000
/-- the two stores behind 'a, b = clean(a), clean(b)', a result's box beside them -/
theorem tail3k {ops : Array Oper} {o p : Oper} {u v u' v' : Operand} {a : Act} {Q : Exit → Act → World → Prop} {w0 w1 : World} {x y x' y' : V3}
    (ho : o.op = .store 23 u v) (hg : o.guard = none) (hd : o.dst = none) (hp : p.op = .store 23 u' v') (hgp : p.guard = none) (hdp : p.dst = none)
    (hx : a.eval u = .pointer (some ⟨w0.heap.size, 0, none⟩)) (hy : a.eval v = toV x') (hx' : a.eval u' = .pointer (some ⟨w0.heap.size + 1, 0, none⟩)) (hy' : a.eval v' = toV y')
    (hI : In3 x y w0 w1) (h : ∀ w2, In3 x' y' w0 w2 → Q .normal a w2) : wpList Tryz.prog ops Q [o, p] a w1 := by
  have put : ∀ v, a.put none v = a := fun _ => rfl
  refine store23 hg u v ho w0.heap.size x' hx hy x hI.1 ?_
  intro x1 hP
  have hB1 := (hP.keeps.block _ (lt_of_block hI.2.1) (by omega)).trans hI.2.1
  have hC1 := (hP.keeps.block _ (lt_of_block hI.2.2.1) (by omega)).trans hI.2.2.1
  have hL1 := hP.below hI.2.2.2 (Nat.le_refl _)
  rw [hd, put]
  refine store23 hgp u' v' hp (w0.heap.size + 1) y' hx' hy' y hB1 ?_
  intro x2 hP2
  rw [hdp, put]
  exact h x2 ⟨(hP2.keeps.block _ (lt_of_block hP.at') (by omega)).trans hP.at', hP2.at', (hP2.keeps.block _ (lt_of_block hC1) (by omega)).trans hC1, hP2.below hL1 (by omega)⟩
noncomputable def mtB (S T : List Int) : Bool := @decide (Mt S T) (Classical.propDecidable _)
theorem mtB_iff (S T : List Int) : mtB S T = true ↔ Mt S T := by unfold mtB; simp
theorem matches_b (s : ByteArray) (a : Option Addr) (S : List Int) (cap : Nat) (w : World) (hl : Lsi w a S) (hn : S.length ≤ 1000) (hs : s.size ≤ 1000) :
    Calls Tryz.prog 129 #[.string s, .slice a S.length cap] w fun e w' => e = .returned (.bool (mtB S (bytesOf s))) ∧ Below w.heap.size w w' :=
  (matches_t s a S cap w hl hn hs).mono fun e w' ⟨⟨b, he, hb⟩, hB⟩ => ⟨by rw [he, show b = mtB S (bytesOf s) from Bool.eq_iff_iff.2 (hb.trans (mtB_iff _ _).symm)], hB⟩
/-- whether a text has a pattern -/
noncomputable def likesB (s p : ByteArray) : Bool := mtB (stepsOf (bytesOf p)) (bytesOf s)
noncomputable def likeT (X Y : V3) : V3 := if okB X Y 3 3 = true then boolT (likesB X.2.2 Y.2.2) else nullT
/-- the two arguments' boxes, the result's box with whatever is in it -/
def In3e (x y : V3) (w0 w : World) : Prop := w.heap[w0.heap.size]? = some (.cells (cells x) 23 (0, 0)) ∧ w.heap[w0.heap.size + 1]? = some (.cells (cells y) 23 (0, 0)) ∧ (∃ z : V3, w.heap[w0.heap.size + 2]? = some (.cells (cells z) 23 (0, 0))) ∧ Below w0.heap.size w0 w
theorem In3e.below {x y : V3} {w0 w w' : World} (h : In3e x y w0 w) (hb : Below w.heap.size w w') : In3e x y w0 w' := by
  obtain ⟨h1, h2, ⟨z, h3⟩, h4⟩ := h
  exact ⟨(hb.block _ (lt_of_block h1)).trans h1, (hb.block _ (lt_of_block h2)).trans h2, ⟨z, (hb.block _ (lt_of_block h3)).trans h3⟩, below_call h4 hb⟩
theorem In3e.puts {x y z : V3} {w0 w w' : World} (h : In3e x y w0 w) (hp : Puts (w0.heap.size + 2) (cells z) 23 w w') : In3e x y w0 w' :=
  ⟨(hp.keeps.block _ (lt_of_block h.1) (by omega)).trans h.1, (hp.keeps.block _ (lt_of_block h.2.1) (by omega)).trans h.2.1, ⟨z, hp.at'⟩, hp.below h.2.2.2 (by omega)⟩
theorem In3.e {x y : V3} {w0 w : World} (h : In3 x y w0 w) : In3e x y w0 w := ⟨h.1, h.2.1, ⟨_, h.2.2.1⟩, h.2.2.2⟩
theorem run_load9 {C : World → Prop} {o : Oper} {a : Act} (x : Operand) (ho : o.op = .load 9 x) (g i : Nat) (s : ByteArray) (hx : a.eval x = .pointer (some ⟨g, i, none⟩)) (hS : ∀ w, C w → w.cell? ⟨g, i, none⟩ = some (.string s)) (w : World) (hw : C w) :
    (execOp a.eval o).run Tryz.prog w = .ok (.value (.string s)) w := by
  have c := hS w hw
  unfold execOp
  simp only [ho, hx]
  go_simp
set_option maxHeartbeats 4000000 in
theorem like_t (x y : V3) (hx : Sz x) (hy : Sz y) (w : World) : Calls Tryz.prog 55 #[toV x, toV y] w fun e w' => e = .returned (toV (likeT (clT x) (clT y))) ∧ Below w.heap.size w w' := by
  have CX := Lib.hid (fun w => clean_t x hx w)
  have CY := Lib.hid (fun w => clean_t y hy w)
  have RX := Lib.hid (clT_right x).bounds
  have RY := Lib.hid (clT_right y).bounds
  clear hx hy
  have HE := Lib.hid (show likeT (clT x) (clT y) = if okB (clT x) (clT y) 3 3 = true then boolT (likesB (clT x).2.2 (clT y).2.2) else nullT from rfl)
  unfold okB at HE
  generalize likeT (clT x) (clT y) = R at HE ⊢
  generalize clT x = X at *
  generalize clT y = Y at *
  obtain ⟨K, n, s⟩ := X
  obtain ⟨K', m, t⟩ := Y
  obtain ⟨ka, na, sa⟩ := x
  obtain ⟨kb, nb, sb⟩ := y
  change Calls Tryz.prog 55 #[val ka na sa, val kb nb sb] w _
  have I0 : Hid (In3 (ka, na, sa) (kb, nb, sb) w (((w.alloc (.cells #[.int .i64 ka, .int .i64 na, .string sa] 23)).alloc (.cells #[.int .i64 kb, .int .i64 nb, .string sb] 23)).alloc (.cells #[.int .i64 0, .int .i64 0, .string ⟨#[]⟩] 23))) := Lib.hid ⟨(heap_alloc_old _ _ (by simp only [World.size_alloc]; omega)).trans ((heap_alloc_old _ _ (by simp)).trans (heap_alloc_new w _)), (heap_alloc_old _ _ (by simp)).trans (new_at _ _ _ (by simp)), new_at _ _ _ (by simp), by go_grown⟩
  go_enter Tryz.func55, Tryz.ntmps55
  go_wp2_with fail
  refine region_tail (In3 (ka, na, sa) (kb, nb, sb) w) 4 (by kernel_rfl) (by kernel_rfl) I0.out.drew ?_
  simp only [List.take_succ_cons, List.take_zero, List.drop_succ_cons, List.drop_zero]
  refine s_val (toV (ka, na, sa)) (by rfl) (run_load23 (.tmp 2) rfl w.heap.size _ rfl rfl (fun w h => h.1)) ?_
  simp only [Act.put, List.setIfInBounds_toArray, List.set_cons_zero, List.set_cons_succ]
  refine s_call (toV (K, n, s)) 94 #[toV (ka, na, sa)] (by rfl) (fun w => by go_simp) (fun w' h => (CX.out w').mono fun e x hx => ⟨hx.1, h.below hx.2⟩) ?_
  simp only [Act.put, List.setIfInBounds_toArray, List.set_cons_zero, List.set_cons_succ]
  refine s_val (toV (kb, nb, sb)) (by rfl) (run_load23 (.tmp 3) rfl (w.heap.size + 1) _ rfl rfl (fun w h => h.2.1)) ?_
  simp only [Act.put, List.setIfInBounds_toArray, List.set_cons_zero, List.set_cons_succ]
  refine s_call (toV (K', m, t)) 94 #[toV (kb, nb, sb)] (by rfl) (fun w => by go_simp) (fun w' h => (CY.out w').mono fun e x hx => ⟨hx.1, h.below hx.2⟩) ?_
  simp only [Act.put, List.setIfInBounds_toArray, List.set_cons_zero, List.set_cons_succ]
  refine s_done ?_
  intro w1 hI1
  refine tail3k rfl rfl rfl rfl rfl rfl rfl rfl rfl rfl hI1 ?_
  intro w2 hI2
  clear hI1
  have I2 := Lib.hid hI2
  clear hI2
  have a0 : w2.cell? ⟨w.heap.size, 0, none⟩ = some (.int .i64 K) := (cell_of_row w2 _ 0 _ _ _ I2.out.1).trans rfl
  have a1 : w2.cell? ⟨w.heap.size, 1, none⟩ = some (.int .i64 n) := (cell_of_row w2 _ 1 _ _ _ I2.out.1).trans rfl
  have a2 : w2.cell? ⟨w.heap.size, 2, none⟩ = some (.string s) := (cell_of_row w2 _ 2 _ _ _ I2.out.1).trans rfl
  have d0 : w2.cell? ⟨w.heap.size + 1, 0, none⟩ = some (.int .i64 K') := (cell_of_row w2 _ 0 _ _ _ I2.out.2.1).trans rfl
  have d1 : w2.cell? ⟨w.heap.size + 1, 1, none⟩ = some (.int .i64 m) := (cell_of_row w2 _ 1 _ _ _ I2.out.2.1).trans rfl
  have d2 : w2.cell? ⟨w.heap.size + 1, 2, none⟩ = some (.string t) := (cell_of_row w2 _ 2 _ _ _ I2.out.2.1).trans rfl
  cases hk : (K != 3) with
  | true =>
    have HN : Hid (R = nullT) := Lib.hid (by rw [HE.out, hk]; rfl)
    clear HE
    go_wp2_with (refine store23 rfl (.tmp 4) (.tmp 17) rfl (w.heap.size + 2) (nullT) rfl rfl _ I2.out.2.2.1 ?_; intro wz hp; have HP := Lib.hid hp; clear hp)
    exact bodyPost_ret (ret23 rfl rfl HP.out.at') rfl ⟨by rw [HN.out], HP.out.low I2.out.2.2.2 (by omega)⟩
  | false =>
    cases hl : (K' != 3) with
    | true =>
      have HN : Hid (R = nullT) := Lib.hid (by rw [HE.out, hk, hl]; rfl)
      clear HE
      go_wp2_with (refine store23 rfl (.tmp 4) (.tmp 17) rfl (w.heap.size + 2) (nullT) rfl rfl _ I2.out.2.2.1 ?_; intro wz hp; have HP := Lib.hid hp; clear hp)
      exact bodyPost_ret (ret23 rfl rfl HP.out.at') rfl ⟨by rw [HN.out], HP.out.low I2.out.2.2.2 (by omega)⟩
    | false =>
      have HN : Hid (R = boolT (likesB s t)) := Lib.hid (by rw [HE.out, hk, hl]; rfl)
      clear HE
      have z1 : s.size ≤ 100 := RX.out.2.2.2.2
      have z2 : t.size ≤ 100 := RY.out.2.2.2.2
      have z3 : (stepsOf (bytesOf t)).length ≤ 1000 := by have := steps_length (bytesOf t); rw [bytesOf_length] at this; omega
      have CS := Lib.hid (fun w => steps_t t (by omega) w)
      have CM := Lib.hid (fun a cap w hl => matches_b s a (stepsOf (bytesOf t)) cap w hl z3 (by omega))
      change Hid (∀ a cap w, Lsi w a (stepsOf (bytesOf t)) → Calls Tryz.prog 129 #[.string s, .slice a (stepsOf (bytesOf t)).length cap] w fun e w' => e = .returned (.bool (likesB s t)) ∧ Below w.heap.size w w') at CM
      generalize stepsOf (bytesOf t) = P at CS CM
      generalize likesB s t = B at CM HN
      clear z1 z2 z3
      go_wp2_with fail
      refine wp_region_held_drew (S := In3e (K, n, s) (K', m, t) w) (by kernel_rfl) I2.out.drew.e ?_
      intro hS
      clear a0 a1 a2 d0 d1 d2
      generalize w2.drew = wd at hS ⊢
      refine wpAnyH_take (i := 0) (oi := ⟨some 18, _, _, _, _, _⟩) (v := .pointer (some ⟨w.heap.size, 2, none⟩)) rfl (by kernel_rfl) (by kernel_rfl) (by kernel_rfl) (fun _ _ _ h => h) (Or.inl ⟨rfl, fun w' h => by go_simp⟩) hS ?_
      simp only [Act.put, List.setIfInBounds_toArray, List.set_cons_zero, List.set_cons_succ]
      refine wpAnyH_take (i := 1) (oi := ⟨some 19, _, _, _, _, _⟩) (v := .string s) rfl (by kernel_rfl) (by kernel_rfl) (by kernel_rfl) (fun _ _ _ h => h) (Or.inl ⟨rfl, fun w' h => by have c := (cell_of_row w' w.heap.size 2 _ _ _ h.1).trans rfl; go_simp⟩) hS ?_
      simp only [Act.put, List.setIfInBounds_toArray, List.set_cons_zero, List.set_cons_succ]
      refine wpAnyH_take (i := 2) (oi := ⟨some 20, _, _, _, _, _⟩) (v := .pointer (some ⟨w.heap.size + 1, 2, none⟩)) rfl (by kernel_rfl) (by kernel_rfl) (by kernel_rfl) (fun _ _ _ h => h) (Or.inl ⟨rfl, fun w' h => by go_simp⟩) hS ?_
      simp only [Act.put, List.setIfInBounds_toArray, List.set_cons_zero, List.set_cons_succ]
      refine wpAnyH_take (i := 3) (oi := ⟨some 21, _, _, _, _, _⟩) (v := .string t) rfl (by kernel_rfl) (by kernel_rfl) (by kernel_rfl) (fun _ _ _ h => h) (Or.inl ⟨rfl, fun w' h => by have c := (cell_of_row w' (w.heap.size + 1) 2 _ _ _ h.2.1).trans rfl; go_simp⟩) hS ?_
      simp only [Act.put, List.setIfInBounds_toArray, List.set_cons_zero, List.set_cons_succ]
      refine wpAnyH_ready (rs := [4]) (by kernel_rfl) (by simp) ?_
      refine AllReadyH.cons rfl (fun K0 hK => ?_) AllReadyH.nil
      go_simp
      refine (CS.out _).mono ?_
      rintro e w3 ⟨⟨a, cap, rfl, hl3⟩, hb3⟩
      refine hK.out _ _ (hS.below hb3) ?_
      clear hK K0 hb3 hS
      intro hS
      try simp only [Act.put, List.setIfInBounds_toArray, List.set_cons_zero, List.set_cons_succ]
      refine wpAnyH_ready (rs := [5]) (by kernel_rfl) (by simp) ?_
      refine AllReadyH.cons rfl (fun K0 hK => ?_) AllReadyH.nil
      go_simp
      refine (CM.out _ _ _ hl3).mono ?_
      rintro e w4 ⟨rfl, hb4⟩
      refine hK.out _ _ (hS.below hb4) ?_
      clear hK K0 hb4 hS hl3
      intro hS
      try simp only [Act.put, List.setIfInBounds_toArray, List.set_cons_zero, List.set_cons_succ]
      refine wpAnyH_ready (rs := [6]) (by kernel_rfl) (by simp) ?_
      refine AllReadyH.cons rfl (fun K0 hK => ?_) AllReadyH.nil
      go_simp
      refine (bool_t _ _).mono ?_
      rintro e w5 ⟨rfl, hb5⟩
      refine hK.out _ _ (hS.below hb5) ?_
      clear hK K0 hb5 hS
      intro hS
      try simp only [Act.put, List.setIfInBounds_toArray, List.set_cons_zero, List.set_cons_succ]
      refine wpAnyH_ready (rs := [7]) (by kernel_rfl) (by simp) ?_
      refine AllReadyH.cons rfl (fun K0 hK => ?_) AllReadyH.nil
      rw [if_pos (by rfl)]
      have hS0 := hS
      obtain ⟨_, _, ⟨z, hz⟩, _⟩ := hS0
      refine wp_store_row 23 (.tmp 4) (.tmp 24) rfl (w.heap.size + 2) (cells (boolT B)) rfl rfl 23 _ hz size23 rfl (by simp [Value.oneCell']) ?_
      have hP := puts_setRow (cells := cells (boolT B)) hz
      generalize w5.setRow (w.heap.size + 2) (cells (boolT B)) = w6 at hP ⊢
      refine hK.out _ _ (hS.puts hP) ?_
      clear hK K0
      intro hS6
      refine wpAnyH_done (by kernel_rfl) ?_ _
      have HP := Lib.hid hP
      have HL := Lib.hid hS6.2.2.2
      clear hP hS6 hS hz
      go_wp2
      exact bodyPost_ret (ret23 rfl rfl HP.out.at') rfl ⟨by rw [HN.out], HL.out⟩
end YtabojeleomfgnaaGreatDoor
end Go.Proofs
