/- The law: whatever the stream gives, both sides say the same of a token. -/
import Derived.Deep.Cut
import Derived.Deep.CutRange
import Derived.Deep.DeepCutAuto
import Derived.Deep.CutBlock
import Derived.Test.YtbihfgcejlgffaaTh5
namespace Go.Proofs
open Go.RowKit
namespace Ytbihfgcejlgffaa
set_option maxRecDepth 100000
abbrev LS : List Int := [0, 0, 0, 1, 2, 3, 4]
abbrev SL : Array Value := #[.string ⟨#[115]⟩, .string ⟨#[105, 116, 39, 115]⟩, .string ⟨#[]⟩, .string ⟨#[97, 10]⟩, .string ⟨#[97, 98, 99]⟩]
set_option maxHeartbeats 8000000 in
theorem law_tokens (a : Option Addr) (len cap : Nat) (hl : len ≤ maxLen) (w : World) (hI : IntsAt w a len) :
    Calls Try.prog 3 #[.slice a len cap] w fun e w' => e = .returned (.bool true) ∧ Below w.heap.size w w' := by
  have HI := Lib.hid hI
  have HL := Lib.hid hl
  have S0 : Hid (Ts a len cap 0 [] (.slice none 0 0) w (w.alloc (.cells #[.slice a len cap, .int .i64 0] 25))) := Lib.hid ⟨heap_alloc_new w _, World.ownsRow_nil _ _ _ _, (Keeps.refl _ _).alloc _⟩
  clear hI hl
  go_enter Try.func3, Try.ntmps3
  go_wp2_with fail
  have S1 := Lib.hid (S0.out.alloc (.cells SL 9))
  have R1 : Hid (((w.alloc (.cells #[.slice a len cap, .int .i64 0] 25)).alloc (.cells SL 9)).heap[w.heap.size + 1]? = some (.cells SL 9 (0, 0))) := Lib.hid (new_at _ _ _ (by simp))
  have Z1 : Hid (((w.alloc (.cells #[.slice a len cap, .int .i64 0] 25)).alloc (.cells SL 9)).heap.size = w.heap.size + 1 + 1) := Lib.hid (by simp)
  clear S0
  generalize (w.alloc (.cells #[.slice a len cap, .int .i64 0] 25)).alloc (.cells SL 9) = w1 at S1 R1 Z1 ⊢
  rw [← Z1.out]
  refine (pick_ts LS 7 rfl (by omega) (by omega) (by omega) HL.out HI.out _ rfl S1.out).mono ?_
  rintro e w2 ⟨r, rfl, hr, hS2, hK2⟩
  have S2 := Lib.hid hS2
  obtain ⟨j, hj, rfl⟩ : ∃ j : Nat, j < 5 ∧ r = (j : Int) := ⟨r.toNat, by simp [LS] at hr; omega, by simp [LS] at hr; omega⟩
  obtain ⟨q, hq, hqs⟩ : ∃ q : ByteArray, SL[j]? = some (.string q) ∧ q.size ≤ 5 := by
    match j, hj with
    | 0, _ => exact ⟨_, rfl, by decide⟩
    | 1, _ => exact ⟨_, rfl, by decide⟩
    | 2, _ => exact ⟨_, rfl, by decide⟩
    | 3, _ => exact ⟨_, rfl, by decide⟩
    | 4, _ => exact ⟨_, rfl, by decide⟩
  have c0 : w2.cell? ⟨w.heap.size + 1, j, none⟩ = some (.string q) := by
    rw [cell_of_row w2 _ j _ _ _ ((hK2.block _ (lt_of_block R1.out) (by omega)).trans R1.out)]
    exact hq
  have HQ := Lib.hid hqs
  clear hS2 hK2 hr hq hqs S1 R1
  go_wp2_with fail
  refine (pick_ts [0, 1, 2, 4] 4 rfl (by omega) (by omega) (by omega) HL.out HI.out _ rfl S2.out).mono ?_
  rintro e w3 ⟨r, rfl, hr, hS3, _⟩
  obtain ⟨n, hn, rfl⟩ : ∃ n : Nat, n ≤ 4 ∧ r = (n : Int) := ⟨r.toNat, by simp at hr; omega, by simp at hr; omega⟩
  have S3 := Lib.hid hS3
  clear hS3 hr S2 c0
  go_wp2_with fail
  go_loopw [5, 25] (fun y z wr => ∃ (k : Nat) (T : List Int) (v : Value), k ≤ n ∧ v = y ∧ z = .int .i64 k ∧ T.length = k ∧ Hid (Ts a len cap (2 + k) T v w wr)) (fun _ z _ => n - (intOf z).toNat)
  case atStart => exact ⟨0, [], _, Nat.zero_le _, rfl, rfl, rfl, S3⟩
  case round =>
    obtain ⟨k, T, v, hk, rfl, rfl, hT, hS⟩ := hrel
    have HT := Lib.hid hT
    clear hT
    by_cases hlt : k < n
    · have hlt' : (k : Int) < n := by omega
      go_wp2_with fail
      refine (pick_ts [1, 2, 3, 3, 9, 999999999999999] 6 rfl (by omega) (by omega) (by omega) HL.out HI.out _ rfl hS.out).mono ?_
      rintro e w4 ⟨r, rfl, hr, hS4, _⟩
      have S4 := Lib.hid hS4
      clear hS4 hr
      go_wp2_with (refine wpList_pushI rfl (.tmp 27) (.tmp 31) rfl a len cap (2 + k + 1) w w4 T v r rfl S4.out rfl rfl (by rw [HT.out]; omega) ?_; intro v' w5 hS5; have S5 := Lib.hid hS5; clear hS5)
      go_roundw
      case rel => exact ⟨k + 1, T ++ [r], v', by omega, rfl, by go_num, by rw [List.length_append, HT.out]; rfl, S5⟩
      case measure => simp [intOf]; omega
    · obtain rfl : k = n := by omega
      clear hlt S3
      go_wp2_with fail
      refine (flip_ts 12 (by omega) (by omega) (by omega) HL.out HI.out hS.out).mono ?_
      rintro e w4 ⟨f, rfl, hS4, _⟩
      have S4 := Lib.hid hS4
      clear hS4 hS
      go_upto_if 35 with fail
      go_cut [5] from 13 (fun y wx => ∃ (T : List Int) (v : Value) (t : Nat), v = y ∧ T.length ≤ 5 ∧ t ≤ 10 ∧ Hid (Ts a len cap t T v w wx))
      case first =>
        cases f with
        | false =>
          go_wp2_with fail
          go_meet
          case rel => exact ⟨T, v, _, rfl, by rw [HT.out]; omega, by omega, S4⟩
        | true =>
          go_wp2_with fail
          refine (pick_ts [0, -1, 1000000000000000] 3 rfl (by omega) (by omega) (by omega) HL.out HI.out _ rfl S4.out).mono ?_
          rintro e w5 ⟨r, rfl, hr, hS5, _⟩
          have S5 := Lib.hid hS5
          clear hS5 hr
          go_wp2_with (refine wpList_pushI rfl (.tmp 36) (.tmp 40) rfl a len cap _ w w5 T v r rfl S5.out rfl rfl (by rw [HT.out]; omega) ?_; intro v' w6 hS6; have S6 := Lib.hid hS6; clear hS6)
          go_meet
          case rel => exact ⟨T ++ [r], v', _, rfl, by rw [List.length_append, HT.out]; simp; omega, by omega, S6⟩
      case rest =>
        obtain ⟨T2, v2, t2, rfl, hT2, ht2, hS5⟩ := hcut
        have HT2 := Lib.hid hT2
        clear hT2 S4 HT
        go_wp2_with fail
        refine (flip_ts 25 (by omega) (by omega) (by omega) HL.out HI.out hS5.out).mono ?_
        rintro e w5 ⟨f2, rfl, hS6, _⟩
        have S6 := Lib.hid hS6
        clear hS6 hS5
        go_upto_if 43 with fail
        go_cut [5] from 13 (fun y wx => ∃ (T : List Int) (v : Value) (t : Nat), v = y ∧ T.length ≤ 210 ∧ t ≤ 220 ∧ Hid (Ts a len cap t T v w wx))
        case first =>
          cases f2 with
          | false =>
            go_wp2_with fail
            go_meet
            case rel => exact ⟨T2, v2, _, rfl, by have := HT2.out; omega, by omega, S6⟩
          | true =>
            go_wp2_with fail
            refine (pick_ts [199, 200, 201] 3 rfl (by omega) (by omega) (by omega) HL.out HI.out _ rfl S6.out).mono ?_
            rintro e w6 ⟨r, rfl, hr, hS7, _⟩
            obtain ⟨n2, hn2, rfl⟩ : ∃ n : Nat, n ≤ 201 ∧ r = (n : Int) := ⟨r.toNat, by simp at hr; omega, by simp at hr; omega⟩
            have S7 := Lib.hid hS7
            clear hS7 hr S6
            go_wp2_with fail
            go_loopw [5, 47] (fun y z wr => ∃ (k : Nat) (T : List Int) (v : Value), k ≤ n2 ∧ v = y ∧ z = .int .i64 k ∧ T.length = T2.length + k ∧ Hid (Ts a len cap (t2 + 1 + 1 + k) T v w wr)) (fun _ z _ => n2 - (intOf z).toNat)
            case atStart => exact ⟨0, T2, _, Nat.zero_le _, rfl, rfl, rfl, S7⟩
            case round =>
              obtain ⟨k2, T3, v3, hk2, rfl, rfl, hT3, hS8⟩ := hrel
              have HT3 := Lib.hid hT3
              clear hT3
              by_cases hlt2 : k2 < n2
              · have hlt3 : (k2 : Int) < n2 := by omega
                go_wp2_with fail
                refine (next_ts 3 (by omega) (by omega) (by omega) HL.out HI.out hS8.out).mono ?_
                rintro e w7 ⟨r, rfl, _, _, hS9, _⟩
                have S9 := Lib.hid hS9
                clear hS9
                go_wp2_with (refine wpList_pushI rfl (.tmp 49) (.tmp 53) rfl a len cap _ w w7 T3 v3 _ rfl S9.out rfl rfl (by have h1 := HT3.out; have h2 := HT2.out; omega) ?_; intro v' w8 hS10; have S10 := Lib.hid hS10; clear hS10)
                go_roundw
                case rel => exact ⟨k2 + 1, _, v', by omega, rfl, by go_num, by rw [List.length_append, HT3.out]; rfl, S10⟩
                case measure => simp [intOf]; omega
              · obtain rfl : k2 = n2 := by omega
                clear hlt2 S7
                go_wp2_with fail
                go_meet
                case rel => exact ⟨T3, v3, _, rfl, by have h1 := HT3.out; have h2 := HT2.out; omega, by omega, hS8⟩
        case rest =>
          obtain ⟨T3, v3, t3, rfl, hT3, ht3, hS7⟩ := hcut
          have HT3 := Lib.hid hT3
          clear hT3 S6 HT2
          go_wp2_with fail
          refine (pick_ts [0, 60, 60, 60, 253402300799, 253402300800, -1] 7 rfl (by omega) (by omega) (by omega) HL.out HI.out _ rfl hS7.out).mono ?_
          rintro e w6 ⟨un, rfl, _, hS8, _⟩
          obtain ⟨p3, c3, rfl, hz6⟩ := hS8.zs
          have S8 := Lib.hid hS8
          have Z6 := Lib.hid hz6
          clear hS8 hz6 hS7
          go_wp2_with fail
          refine (issue_t q (by have := HQ.out; omega) p3 c3 T3 (by have := HT3.out; omega) un _ Z6.out).mono ?_
          rintro e w7 ⟨p7, c7, rfl, _, hz7, hb7⟩
          have HTT : Hid ((issT q T3 un).length ≤ 210) := Lib.hid (Nat.le_trans (issT_len q T3 un) HT3.out)
          have CR := Lib.hid (fun w (hz : Zs w p3 T3) => rissue_t q (by have := HQ.out; omega) p3 c3 T3 (by have := HT3.out; omega) un w hz)
          have S9 := Lib.hid (S8.out.below hb7)
          have Z7 := Lib.hid (Z6.out.below hb7)
          have Y7 := Lib.hid hz7
          generalize issT q T3 un = TT at *
          generalize issU q T3 un = UU at *
          generalize issS q T3 un = SS at *
          generalize issE q T3 un = EE at *
          clear hb7 hz7 S8 Z6
          have S10 := Lib.hid (S9.out.alloc (.cells (ck p7 TT.length c7 UU SS) 32))
          have Z10 : Hid (Zs (w7.alloc (.cells (ck p7 TT.length c7 UU SS) 32)) p3 T3) := Lib.hid (Z7.out.below ((Below.refl _ _).alloc (Nat.le_refl _) _))
          have Y10 : Hid (Zs (w7.alloc (.cells (ck p7 TT.length c7 UU SS) 32)) p7 TT) := Lib.hid (Y7.out.below ((Below.refl _ _).alloc (Nat.le_refl _) _))
          have K10 : Hid ((w7.alloc (.cells (ck p7 TT.length c7 UU SS) 32)).heap[w7.heap.size]? = some (.cells (ck p7 TT.length c7 UU SS) 32 (0, 0))) := Lib.hid (heap_alloc_new w7 _)
          clear S9 Z7 Y7
          go_wp2_with fail
          generalize w7.alloc (.cells (ck p7 TT.length c7 UU SS) 32) = w8 at S10 Z10 Y10 K10 ⊢
          refine (CR.out _ Z10.out).mono ?_
          rintro e w9 ⟨p9, c9, rfl, ho9, hz9, hb9⟩
          have S11 := Lib.hid ((S10.out.below hb9).alloc (.cells (ck p9 TT.length c9 UU SS) 32)).drop
          have O11 : Hid (TT = [] ∨ ∃ g, p9 = some ⟨g, 0, none⟩ ∧ w.heap.size < g ∧ g ≠ w9.heap.size) := Lib.hid (by
            rcases ho9 with e | ⟨g, e, h1⟩
            · exact Or.inl e
            · by_cases hT0 : TT = []
              · exact Or.inl hT0
              · obtain ⟨b9, o9, e2, h2, _⟩ := hz9.lt hT0
                rw [e] at e2
                cases e2
                exact Or.inr ⟨g, e, Nat.lt_of_lt_of_le (lt_of_block S10.out.st) h1, by omega⟩)
          have Y11 : Hid (Zs (w9.alloc (.cells (ck p9 TT.length c9 UU SS) 32)) p7 TT) := Lib.hid ((Y10.out.below hb9).below ((Below.refl _ _).alloc (Nat.le_refl _) _))
          have X11 : Hid (Zs (w9.alloc (.cells (ck p9 TT.length c9 UU SS) 32)) p9 TT) := Lib.hid (hz9.below ((Below.refl _ _).alloc (Nat.le_refl _) _))
          have K11 : Hid ((w9.alloc (.cells (ck p9 TT.length c9 UU SS) 32)).heap[w7.heap.size]? = some (.cells (ck p7 TT.length c7 UU SS) 32 (0, 0))) := Lib.hid (al _ ((hb9.block _ (lt_of_block K10.out)).trans K10.out))
          have J11 : Hid ((w9.alloc (.cells (ck p9 TT.length c9 UU SS) 32)).heap[w9.heap.size]? = some (.cells (ck p9 TT.length c9 UU SS) 32 (0, 0))) := Lib.hid (heap_alloc_new w9 _)
          have N11 := Lib.hid (show w.heap.size < w9.heap.size from Nat.lt_of_lt_of_le (lt_of_block S10.out.st) hb9.size)
          clear hb9 hz9 ho9 S10 Z10 Y10 K10 CR
          have k0 : (w9.alloc (.cells (ck p9 TT.length c9 UU SS) 32)).cell? ⟨w7.heap.size, 0, none⟩ = some (.slice p7 TT.length c7) := (cell_of_row _ _ 0 _ _ _ K11.out).trans rfl
          have k1 : (w9.alloc (.cells (ck p9 TT.length c9 UU SS) 32)).cell? ⟨w7.heap.size, 1, none⟩ = some (.int .i64 UU) := (cell_of_row _ _ 1 _ _ _ K11.out).trans rfl
          have k2 : (w9.alloc (.cells (ck p9 TT.length c9 UU SS) 32)).cell? ⟨w7.heap.size, 2, none⟩ = some (.int .u64 SS) := (cell_of_row _ _ 2 _ _ _ K11.out).trans rfl
          go_upto_region 18 with fail
          generalize w9.alloc (.cells (ck p9 TT.length c9 UU SS) 32) = w10 at S11 Y11 X11 K11 J11 k0 k1 k2 ⊢
          generalize w7.heap.size = q7 at *
          generalize w9.heap.size = q9 at *
          have j0 : w10.cell? ⟨q9, 0, none⟩ = some (.slice p9 TT.length c9) := (cell_of_row _ _ 0 _ _ _ J11.out).trans rfl
          have j1 : w10.cell? ⟨q9, 1, none⟩ = some (.int .i64 UU) := (cell_of_row _ _ 1 _ _ _ J11.out).trans rfl
          have j2 : w10.cell? ⟨q9, 2, none⟩ = some (.int .u64 SS) := (cell_of_row _ _ 2 _ _ _ J11.out).trans rfl
          go_wp2_with fail
          refine (equal_t TT (by have := HTT.out; omega) p7 p9 c7 c9 _ Y11.out X11.out).mono ?_
          rintro e w11 ⟨rfl, nd, hw11⟩
          have S12 : Hid (Ts a len cap (t3 + 1) [] (.slice none 0 0) w w11) := Lib.hid (by rw [hw11]; exact S11.out.drewN nd)
          have X12 : Hid (Zs w11 p9 TT) := Lib.hid (by rw [hw11]; exact X11.out)
          have K12 : Hid (w11.heap[q7]? = some (.cells (ck p7 TT.length c7 UU SS) 32 (0, 0))) := Lib.hid (by rw [hw11]; exact K11.out)
          have J12 : Hid (w11.heap[q9]? = some (.cells (ck p9 TT.length c9 UU SS) 32 (0, 0))) := Lib.hid (by rw [hw11]; exact J11.out)
          clear hw11 k0 k1 k2 j0 j1 j2 S11 Y11 X11 K11 J11
          have k1 : w11.cell? ⟨q7, 1, none⟩ = some (.int .i64 UU) := (cell_of_row _ _ 1 _ _ _ K12.out).trans rfl
          have k2 : w11.cell? ⟨q7, 2, none⟩ = some (.int .u64 SS) := (cell_of_row _ _ 2 _ _ _ K12.out).trans rfl
          have j1 : w11.cell? ⟨q9, 1, none⟩ = some (.int .i64 UU) := (cell_of_row _ _ 1 _ _ _ J12.out).trans rfl
          have j2 : w11.cell? ⟨q9, 2, none⟩ = some (.int .u64 SS) := (cell_of_row _ _ 2 _ _ _ J12.out).trans rfl
          go_wp2_with fail
          refine (next_ts 8 (by omega) (by omega) (by omega) HL.out HI.out S12.out).mono ?_
          rintro e w12 ⟨rr, rfl, _, _, hS13, hK13⟩
          have S13 := Lib.hid hS13
          have Q13 : Hid (Tq w q9 p9 c9 TT UU SS w12) := Lib.hid (Tq.keeps (wx := w11) ⟨J12.out, X12.out, O11.out, N11.out⟩ hK13)
          clear hS13 hK13 k1 k2 j1 j2 S12 X12 K12 J12 O11 N11
          go_upto_block 4 with fail
          go_cut [9] from 13 (fun y wx => ∃ (p : Option Addr) (c : Nat) (T : List Int) (U S : Int) (t : Nat), y = .pointer (some ⟨q9, 0, none⟩) ∧ T.length ≤ 220 ∧ t ≤ 240 ∧ Hid (Tq w q9 p c T U S wx) ∧ Hid (Ts a len cap t [] (.slice none 0 0) w wx))
          case first =>
            have r0 : w12.cell? ⟨q9, 0, none⟩ = some (.slice p9 TT.length c9) := (cell_of_row _ _ 0 _ _ _ Q13.out.row).trans rfl
            have r1 : w12.cell? ⟨q9, 1, none⟩ = some (.int .i64 UU) := (cell_of_row _ _ 1 _ _ _ Q13.out.row).trans rfl
            have r2 : w12.cell? ⟨q9, 2, none⟩ = some (.int .u64 SS) := (cell_of_row _ _ 2 _ _ _ Q13.out.row).trans rfl
            by_cases h0 : rr = 0
            · subst h0
              go_wp2_with (refine store_u rfl (.tmp 105) (.tmp 104) rfl q9 2 (IntKind.u64.wrap (SS + 1)) rfl rfl _ 32 Q13.out.row (by simp) ?_; intro w13 hp; have P14 : Hid (Puts q9 (ck p9 TT.length c9 UU (IntKind.u64.wrap (SS + 1))) 32 w12 w13) := Lib.hid hp; clear hp)
              simp only [Act.put]
              go_meet
              case rel => exact ⟨p9, c9, TT, _, _, _, rfl, by have := HTT.out; omega, by omega, Lib.hid (Q13.out.puts P14.out), Lib.hid (S13.out.puts P14.out Q13.out.lt)⟩
            · by_cases h1 : rr = 1
              · subst h1
                go_wp2_with (refine store_int rfl (.tmp 111) (.tmp 110) rfl q9 1 _ rfl rfl _ 32 Q13.out.row (by simp) ?_; intro w13 hp; have P14 : Hid (Puts q9 (ck p9 TT.length c9 _ SS) 32 w12 w13) := Lib.hid hp; clear hp)
                simp only [Act.put]
                go_meet
                case rel => exact ⟨p9, c9, TT, _, _, _, rfl, by have := HTT.out; omega, by omega, Lib.hid (Q13.out.puts P14.out), Lib.hid (S13.out.puts P14.out Q13.out.lt)⟩
              · by_cases h2 : rr = 2
                · subst h2
                  go_wp2_with fail
                  refine (clone_o p9 c9 TT (by have := HTT.out; omega) _ Q13.out.zs).mono ?_
                  rintro e w13 ⟨v13, rfl, ho13, hb13⟩
                  have O13 := Lib.hid ho13
                  have S14 := Lib.hid (S13.out.below hb13)
                  have Q14 := Lib.hid (Q13.out.below hb13)
                  have L14 := Lib.hid (lt_of_block Q13.out.row)
                  have B14 := Lib.hid hb13.size
                  have N14 := Lib.hid (lt_of_block S13.out.st)
                  clear ho13 hb13 r0 r1 r2 S13 Q13
                  go_wp2_with fail
                  refine (pick_ts [1, 2, 0] 3 rfl (by omega) (by omega) (by omega) HL.out HI.out _ rfl S14.out).mono ?_
                  rintro e w14 ⟨r, rfl, _, hS15, hK15⟩
                  have S15 := Lib.hid hS15
                  have Q15 := Lib.hid (Q14.out.keeps hK15)
                  have O15 : Hid (w14.ownsRow w12.heap.size 3 1 v13 TT.length (TT.map (Value.int .i64))) := Lib.hid (by
                    refine ⟨O13.out.1, ?_⟩
                    rcases O13.out.2 with h | ⟨g, cc, cur, hv, h3, h4, h5⟩
                    · exact Or.inl h
                    · exact Or.inr ⟨g, cc, cur, hv, h3, (hK15.block g (lt_of_block h4) (by have := N14.out; omega)).trans h4, h5⟩)
                  have B15 := Lib.hid (Nat.le_trans B14.out hK15.size)
                  clear hS15 hK15 S14 Q14 O13 B14
                  have N15 := Lib.hid (show w.heap.size < w12.heap.size from N14.out)
                  go_wp2_with (first
                    | (refine wpList_pushO rfl (.tmp 116) (.tmp 120) rfl w12.heap.size w14 TT v13 r rfl O15.out B15.out rfl rfl (by have := HTT.out; omega) ?_; intro g cc w15 ho hg hk os tp ou sz; have O16 := Lib.hid ho; have G16 := Lib.hid hg; have H16 := Lib.hid hk; have S16 := Lib.hid (S15.out.grow hk N15.out os tp ou sz); have R16 : Hid (w15.heap[q9]? = some (.cells (ck p9 TT.length c9 UU SS) 32 (0, 0))) := Lib.hid ((hk _ L14.out).trans Q15.out.row); clear ho hg hk os tp ou sz)
                    | (refine store_sl rfl (.tmp 122) (.tmp 121) rfl q9 0 (some ⟨g, 0, none⟩) (TT.length + 1) cc rfl rfl _ 32 R16.out (by simp) ?_; intro w16 hp; have P17 : Hid (Puts q9 (ck (some ⟨g, 0, none⟩) (TT.length + 1) cc UU SS) 32 w15 w16) := Lib.hid hp; clear hp))
                  simp only [Act.put]
                  go_meet
                  case rel => exact ⟨some ⟨g, 0, none⟩, cc, TT ++ [r], _, _, _, rfl, by have := HTT.out; simp; omega, by omega, Lib.hid (Q15.out.more L14.out N15.out G16.out O16.out P17.out), Lib.hid (S16.out.puts P17.out Q15.out.lt)⟩
                · by_cases h3 : rr = 3
                  · subst h3
                    go_wp2_with (refine store_sl rfl (.tmp 125) _ rfl q9 0 none 0 0 rfl rfl _ 32 Q13.out.row (by simp) ?_; intro w13 hp; have P14 : Hid (Puts q9 (ck none 0 0 UU SS) 32 w12 w13) := Lib.hid hp; clear hp)
                    simp only [Act.put]
                    go_meet
                    case rel => exact ⟨none, 0, [], _, _, _, rfl, by simp, by omega, Lib.hid ⟨P14.out.at', Or.inl rfl, Or.inl rfl, Q13.out.lt⟩, Lib.hid (S13.out.puts P14.out Q13.out.lt)⟩
                  · go_wp2_with fail
                    go_meet
                    case rel => exact ⟨p9, c9, TT, _, _, _, rfl, by have := HTT.out; omega, by omega, Q13, S13⟩
          case rest =>
            obtain ⟨p2, c2, T4, U4, V4, t4, rfl, hT4, ht4, hQ4, hS4⟩ := hcut
            have HT4 := Lib.hid hT4
            clear hT4 S13 Q13 HTT HT3
            go_wp2_with fail
            refine (flip_ts 8 (by omega) (by omega) (by omega) HL.out HI.out hS4.out).mono ?_
            rintro e w13 ⟨f3, rfl, hS14, hK14⟩
            have S14 := Lib.hid hS14
            have Q14 := Lib.hid (hQ4.out.keeps hK14)
            clear hS14 hK14 hQ4 hS4
            go_upto_if 127 with fail
            go_cut [4] from 13 (fun y wx => ∃ s : ByteArray, y = .string s ∧ s.size ≤ 6 ∧ Hid (Tq w q9 p2 c2 T4 U4 V4 wx) ∧ Hid (Ts a len cap (t4 + 1) [] (.slice none 0 0) w wx))
            case first =>
              have hqs := HQ.out
              cases f3 with
              | false =>
                go_wp2_with fail
                go_meet
                case rel => exact ⟨q, rfl, by omega, Q14, S14⟩
              | true =>
                go_wp2_with fail
                go_meet
                case rel => exact ⟨q ++ ⟨#[120]⟩, rfl, by rw [ByteArray.size_append]; show q.size + 1 ≤ 6; omega, Q14, S14⟩
            case rest =>
              obtain ⟨sc, rfl, hsc, hQ15, hS15⟩ := hcut
              have HSC := Lib.hid hsc
              clear hsc Q14 S14
              go_wp2_with fail
              refine (pick_ts [0, 1, 2, 3, -1, 1000000000000000] 6 rfl (by omega) (by omega) (by omega) HL.out HI.out _ rfl hS15.out).mono ?_
              rintro e w14 ⟨tn, rfl, _, hS16, hK16⟩
              have S16 := Lib.hid hS16
              have Q16 := Lib.hid (hQ15.out.keeps hK16)
              clear hS16 hK16 hQ15 hS15
              go_wp2_with fail
              refine (pick_ts [0, 59, 60, 61, -1, 253402300800] 6 rfl (by omega) (by omega) (by omega) HL.out HI.out _ rfl S16.out).mono ?_
              rintro e w15 ⟨nw, rfl, _, hS17, hK17⟩
              have B17 := Lib.hid hS17.fin
              have Q17 := Lib.hid (Q16.out.keeps hK17)
              have CA := Lib.hid (fun w (hz : Zs w p2 T4) => check_t sc (by have := HSC.out; omega) p2 c2 T4 (by have := HT4.out; omega) U4 V4 tn nw w hz)
              have CB := Lib.hid (fun w (hz : Zs w p2 T4) => rcheck_t sc (by have := HSC.out; omega) p2 c2 T4 (by have := HT4.out; omega) U4 V4 tn nw w hz)
              have CC := Lib.hid caches_true
              generalize chkE sc T4 U4 V4 tn nw = RE at CA CB
              clear hS17 hK17 S16 Q16
              obtain ⟨x0, x1, x2⟩ := tq3 Q17.out
              go_upto_region 32 with fail
              go_region_held3 (fun w' => w'.cell? ⟨q9, 0, none⟩ = some (.slice p2 T4.length c2) ∧ w'.cell? ⟨q9, 1, none⟩ = some (.int .i64 U4) ∧ w'.cell? ⟨q9, 2, none⟩ = some (.int .u64 V4)) (first | exact tq3 Q17.out | exact tq3 QC.out | exact tq3 QA.out | exact tq3 QB.out | go_keep)
                (first
                  | (go_at_call 11; refine (CA.out _ (by first | exact Q17.out.zs | exact QB.out.zs)).mono ?_; rintro e wA ⟨rfl, hbA⟩; have QA : Hid (Tq w q9 p2 c2 T4 U4 V4 wA) := Lib.hid (by first | exact QB.out.below hbA | exact Tq.below (wx := w15.drew) ⟨Q17.out.row, Q17.out.zs, Q17.out.own, Q17.out.lt⟩ hbA); have BA : Hid (Below w.heap.size w wA) := Lib.hid (by first | exact below_call BB.out hbA | exact below_call B17.out.drew hbA); clear hbA)
                  | (go_at_call 12; refine (CB.out _ (by first | exact Q17.out.zs | exact QA.out.zs)).mono ?_; rintro e wB ⟨rfl, hbB⟩; have QB : Hid (Tq w q9 p2 c2 T4 U4 V4 wB) := Lib.hid (by first | exact QA.out.below hbB | exact Tq.below (wx := w15.drew) ⟨Q17.out.row, Q17.out.zs, Q17.out.own, Q17.out.lt⟩ hbB); have BB : Hid (Below w.heap.size w wB) := Lib.hid (by first | exact below_call BA.out hbB | exact below_call B17.out.drew hbB); clear hbB)
                  | (go_at_call 13; refine (CC.out _).mono ?_; rintro e wC ⟨rfl, hbC⟩; have QC : Hid (Tq w q9 p2 c2 T4 U4 V4 wC) := Lib.hid (by first | exact QB.out.below hbC | exact QA.out.below hbC); have BC : Hid (Below w.heap.size w wC) := Lib.hid (by first | exact below_call BB.out hbC | exact below_call BA.out hbC); clear hbC))
              all_goals
                go_wp2_with fail
                go_ret
                exact ⟨rfl, BC.out⟩
end Ytbihfgcejlgffaa
end Go.Proofs
