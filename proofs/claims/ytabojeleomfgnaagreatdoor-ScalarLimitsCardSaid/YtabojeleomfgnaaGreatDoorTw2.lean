/- Parts that have no other fields, by the reference. Parts that are right, by the reference. Parts that have no other fields, by the reference. Parts that are right, by the reference. The kinds of chains of neg and of in. KindOf and its reference at chains of neg and at in. -/
import Derived.Test.YtabojeleomfgnaaGreatDoorTw1
namespace Go.Proofs
open Go.RowKit
namespace YtabojeleomfgnaaGreatDoor
set_option maxRecDepth 100000
set_option maxHeartbeats 8000000 in
theorem only_neg (pa : Option Addr) (c : Nat) (w : World) : Calls Tryz.prog 251 #[.agg ((negN).c (.slice pa 1 c)), .string ⟨#[111, 97]⟩] w fun e w' => e = .returned (.bool true) ∧ Below w.heap.size w w' := by
  have ho : Hid (hasB ⟨#[111, 97]⟩ 111 = true) := Lib.hid (by decide)
  have hn : Hid (hasB ⟨#[111, 97]⟩ 110 = false) := Lib.hid (by decide)
  have hv : Hid (hasB ⟨#[111, 97]⟩ 118 = false) := Lib.hid (by decide)
  have hc : Hid (hasB ⟨#[111, 97]⟩ 99 = false) := Lib.hid (by decide)
  have hd : Hid (hasB ⟨#[111, 97]⟩ 100 = false) := Lib.hid (by decide)
  have ha : Hid (hasB ⟨#[111, 97]⟩ 97 = true) := Lib.hid (by decide)
  have hs : Hid (hasB ⟨#[111, 97]⟩ 115 = false) := Lib.hid (by decide)
  have hg : Hid (hasB ⟨#[111, 97]⟩ 103 = false) := Lib.hid (by decide)
  have hr : Hid (hasB ⟨#[111, 97]⟩ 114 = false) := Lib.hid (by decide)
  have HB : Hid (((w.alloc (.cells ((negN).c (.slice pa 1 c)) 70)).alloc (.cells #[.string ⟨#[111, 97]⟩] 9)).heap[w.heap.size + 1]? = some (.cells #[.string ⟨#[111, 97]⟩] 9 (0, 0))) := Lib.hid (new_at _ _ _ (by simp))
  simp only [Nd.c, negN] at HB ⊢
  go_enter Tryz.func251, Tryz.ntmps251
  go_wp2_with (go_at_call 300; refine (has_t (w.heap.size + 1) ⟨#[111, 97]⟩ _ _ HB.out).mono ?_; rintro e w' ⟨rfl, rfl⟩; simp only [ho.out, hn.out, hv.out, hc.out, hd.out, ha.out, hs.out, hg.out, hr.out])
  go_ret
  exact ⟨rfl, by go_grown⟩
end YtabojeleomfgnaaGreatDoor
end Go.Proofs
namespace Go.Proofs
open Go.RowKit
namespace YtabojeleomfgnaaGreatDoor
set_option maxRecDepth 100000
set_option maxHeartbeats 8000000 in
theorem form_neg (pa : Option Addr) (c : Nat) (w : World) : Calls Tryz.prog 202 #[.agg ((negN).c (.slice pa 1 c))] w fun e w' => e = .returned (.int .i64 0) ∧ Below w.heap.size w w' := by
  have CO := Lib.hid (fun w => only_neg pa c w)
  simp only [Nd.c, negN] at CO ⊢
  go_enter Tryz.func202, Tryz.ntmps202
  go_wp2_with (first | (go_at_call 132; refine (rwithin_any _ _ _ _).mono ?_; rintro e w9 ⟨rfl, rfl⟩) | (go_at_call 252; go_in))
  refine (CO.out _).mono ?_
  rintro e w1 ⟨rfl, hb1⟩
  have B1 := Lib.hid (show Below w.heap.size w w1 from below_call (by go_grown) hb1)
  clear hb1
  go_wp2_with (first | (go_at_call 132; refine (rwithin_any _ _ _ _).mono ?_; rintro e w9 ⟨rfl, rfl⟩))
  go_ret
  exact ⟨rfl, B1.out⟩
end YtabojeleomfgnaaGreatDoor
end Go.Proofs
namespace Go.Proofs
open Go.RowKit
namespace YtabojeleomfgnaaGreatDoor
set_option maxRecDepth 100000
set_option maxHeartbeats 8000000 in
theorem only_in (n : Nat) (pa : Option Addr) (c : Nat) (w : World) : Calls Tryz.prog 251 #[.agg ((inN).c (.slice pa n c)), .string ⟨#[97]⟩] w fun e w' => e = .returned (.bool true) ∧ Below w.heap.size w w' := by
  have ho : Hid (hasB ⟨#[97]⟩ 111 = false) := Lib.hid (by decide)
  have hn : Hid (hasB ⟨#[97]⟩ 110 = false) := Lib.hid (by decide)
  have hv : Hid (hasB ⟨#[97]⟩ 118 = false) := Lib.hid (by decide)
  have hc : Hid (hasB ⟨#[97]⟩ 99 = false) := Lib.hid (by decide)
  have hd : Hid (hasB ⟨#[97]⟩ 100 = false) := Lib.hid (by decide)
  have ha : Hid (hasB ⟨#[97]⟩ 97 = true) := Lib.hid (by decide)
  have hs : Hid (hasB ⟨#[97]⟩ 115 = false) := Lib.hid (by decide)
  have hg : Hid (hasB ⟨#[97]⟩ 103 = false) := Lib.hid (by decide)
  have hr : Hid (hasB ⟨#[97]⟩ 114 = false) := Lib.hid (by decide)
  have HB : Hid (((w.alloc (.cells ((inN).c (.slice pa n c)) 70)).alloc (.cells #[.string ⟨#[97]⟩] 9)).heap[w.heap.size + 1]? = some (.cells #[.string ⟨#[97]⟩] 9 (0, 0))) := Lib.hid (new_at _ _ _ (by simp))
  simp only [Nd.c, inN] at HB ⊢
  go_enter Tryz.func251, Tryz.ntmps251
  go_wp2_with (go_at_call 300; refine (has_t (w.heap.size + 1) ⟨#[97]⟩ _ _ HB.out).mono ?_; rintro e w' ⟨rfl, rfl⟩; simp only [ho.out, hn.out, hv.out, hc.out, hd.out, ha.out, hs.out, hg.out, hr.out])
  go_ret
  exact ⟨rfl, by go_grown⟩
end YtabojeleomfgnaaGreatDoor
end Go.Proofs
namespace Go.Proofs
open Go.RowKit
namespace YtabojeleomfgnaaGreatDoor
set_option maxRecDepth 100000
set_option maxHeartbeats 8000000 in
theorem form_in (n : Nat) (pa : Option Addr) (c : Nat) (hn : 2 ≤ n) (w : World) : Calls Tryz.prog 202 #[.agg ((inN).c (.slice pa n c))] w fun e w' => e = .returned (.int .i64 0) ∧ Below w.heap.size w w' := by
  have h2 : (2 : Int) ≤ (n : Int) := by omega
  have CO := Lib.hid (fun w => only_in n pa c w)
  simp only [Nd.c, inN] at CO ⊢
  go_enter Tryz.func202, Tryz.ntmps202
  go_wp2_with (first | (go_at_call 132; refine (rwithin_any _ _ _ _).mono ?_; rintro e w9 ⟨rfl, rfl⟩) | (go_at_call 252; go_in))
  refine (CO.out _).mono ?_
  rintro e w1 ⟨rfl, hb1⟩
  have B1 := Lib.hid (show Below w.heap.size w w1 from below_call (by go_grown) hb1)
  clear hb1
  go_wp2_with (first | (go_at_call 132; refine (rwithin_any _ _ _ _).mono ?_; rintro e w9 ⟨rfl, rfl⟩))
  go_ret
  exact ⟨rfl, B1.out⟩
end YtabojeleomfgnaaGreatDoor
end Go.Proofs
namespace Go.Proofs
open Go.RowKit
namespace YtabojeleomfgnaaGreatDoor
set_option maxRecDepth 100000
def chainT : Nat → Tr
  | 0 => .node oneN []
  | n + 1 => .node negN [chainT n]
theorem oneN_val : oneN = valN 2 1 ⟨#[]⟩ := rfl
theorem nullN_val : nullN = valN 0 0 ⟨#[]⟩ := rfl
def inT (n : Nat) : Tr := .node inN (List.replicate n (.node nullN []))
theorem fitsP (a b : Int) (w : World) : Calls Tryz.prog 322 #[.int .i64 a, .int .i64 b] w fun e w' => e = .returned (.bool (b == -1 || a == b || a == 0)) ∧ w' = w := by
  by_cases h1 : b = -1
  · subst h1
    go_enter Tryz.func322, Tryz.ntmps322
    go_wp2_with fail
    go_ret
    exact ⟨rfl, rfl⟩
  · have b1 : (b == -1) = false := by simp [h1]
    rw [b1]
    by_cases h2 : a = b
    · subst h2
      go_enter Tryz.func322, Tryz.ntmps322
      go_wp2_with fail
      go_ret
      exact ⟨by simp, rfl⟩
    · have b2 : (a == b) = false := by simp [h2]
      rw [b2]
      clear h1 h2
      go_enter Tryz.func322, Tryz.ntmps322
      go_wp2_with fail
      go_ret
      exact ⟨by simp, rfl⟩
theorem kds1 {w : World} {v : Value} {k : Int} (h : Kds w v [k]) : ∃ b o cap, v = .slice (some ⟨b, o, none⟩) 1 cap ∧ 1 ≤ cap ∧ cap ≤ maxLen ∧ w.cell? ⟨b, o, none⟩ = some (.int .i64 k) := by
  obtain ⟨pa, cap, b, o, rfl, h2, hm, h3, h4⟩ := h
  obtain rfl := h3 (Nat.succ_pos _)
  exact ⟨b, o, cap, rfl, h2, hm, h4 0 (Nat.succ_pos _)⟩
set_option maxHeartbeats 4000000 in
theorem ka_neg (pa : Option Addr) (c : Nat) (V : Value) (w : World) (ht : Tb w) (hk : Kds w V [2]) : Calls Tryz.prog 250 #[.agg (negN.c (.slice pa 1 c)), V] w fun e w' => e = .returned (.tuple #[.int .i64 2, .bool true]) ∧ Below w.heap.size w w' := by
  obtain ⟨b, o, cap, rfl, hcap, hmax, k0⟩ := kds1 hk
  unfold maxLen at hmax
  obtain ⟨-, r1, r2, r3, r4⟩ := ht.row 17 _ _ _ _ _ rfl
  have r0 := (ht.row 17 _ _ _ _ _ rfl).1
  have hs := ht.lt
  have hb : b < w.heap.size := block_lt_of_cell k0
  have FP := Lib.hid fitsP
  have hc1 : (1 : Int) ≤ cap := by omega
  clear hk ht
  simp only [Nd.c, negN]
  go_enter Tryz.func250, Tryz.ntmps250
  go_wp2_with (first | (go_at_call 297; go_in))
  go_quiet ((go_at_call 322; exact Calls.quiet_of_same (FP.out _ _ _)))
  go_wp2_with fail
  all_goals (go_rounds 1; go_ret2; exact ⟨rfl, below_drewN (by go_grown) _⟩)
theorem comN_zero : ∀ n : Nat, comN (List.replicate n 0) 0 = some 0
  | 0 => rfl
  | n + 1 => by rw [List.replicate_succ, comN, if_pos rfl]; exact comN_zero n
set_option maxHeartbeats 4000000 in
theorem ka_in (pa : Option Addr) (n c : Nat) (V : Value) (w : World) (hk : Kds w V (List.replicate n 0)) : Calls Tryz.prog 250 #[.agg (inN.c (.slice pa n c)), V] w fun e w' => e = .returned (.tuple #[.int .i64 1, .bool true]) ∧ Below w.heap.size w w' := by
  have CC := Lib.hid (fun w (h : Kds w V (List.replicate n 0)) => common_t V _ w h)
  rw [comN_zero] at CC
  have HK := fun w' => fun hb : Below w.heap.size w w' => Lib.hid (hk.below hb)
  clear hk
  simp only [Nd.c, inN]
  go_enter Tryz.func250, Tryz.ntmps250
  go_wp2_with fail
  refine (CC.out _ (HK _ (by go_grown)).out).mono ?_
  rintro e wx ⟨rfl, hwx⟩
  rw [hwx]
  clear hwx wx
  unfold okV
  go_wp2_with fail
  go_ret2
  exact ⟨rfl, by go_grown⟩
set_option maxHeartbeats 4000000 in
theorem casek_in (pa : Option Addr) (n c : Nat) (V : Value) (w : World) (hk : Kds w V (List.replicate n 0)) : Calls Tryz.prog 205 #[.agg (inN.c (.slice pa n c)), V] w fun e w' => e = .returned (.tuple #[.int .i64 1, .bool true]) ∧ Below w.heap.size w w' := by
  have CC := Lib.hid (fun w (h : Kds w V (List.replicate n 0)) => fits_t V _ w h)
  rw [comN_zero] at CC
  have HK := fun w' => fun hb : Below w.heap.size w w' => Lib.hid (hk.below hb)
  clear hk
  simp only [Nd.c, inN]
  go_enter Tryz.func205, Tryz.ntmps205
  go_wp2_with fail
  refine (CC.out _ (HK _ (by go_grown)).out).mono ?_
  rintro e wx ⟨rfl, hwx⟩
  rw [hwx]
  clear hwx wx
  unfold okV
  go_wp2_with fail
  go_ret2
  exact ⟨rfl, by go_grown⟩
theorem kds_two {W : World} {g : Nat} {a b : Int} (hh : W.heap[g]? = some (.cells #[.int .i64 a, .int .i64 b] 3 (0, 0))) : Kds W (.slice (some ⟨g, 0, none⟩) 2 2) [a, b] := by
  refine ⟨_, 2, g, 0, rfl, Nat.le_refl _, by unfold maxLen; omega, fun _ => rfl, ?_⟩
  intro j hj
  rw [Nat.zero_add]
  match j, hj with
  | 0, _ => exact (cell_of_row _ _ 0 _ _ _ hh).trans rfl
  | 1, _ => exact (cell_of_row _ _ 1 _ _ _ hh).trans rfl
  | j + 2, hj => exact absurd hj (by simp)
set_option maxHeartbeats 4000000 in
theorem opk_neg (pa : Option Addr) (c : Nat) (V : Value) (w : World) (hk : Kds w V [2]) : Calls Tryz.prog 204 #[.agg (negN.c (.slice pa 1 c)), V] w fun e w' => e = .returned (.tuple #[.int .i64 2, .bool true]) ∧ Below w.heap.size w w' := by
  obtain ⟨b, o, cap, rfl, hcap, hmax, k0⟩ := kds1 hk
  unfold maxLen at hmax
  have hb : b < w.heap.size := block_lt_of_cell k0
  have FT := Lib.hid (fun w g h => fits_t (.slice (some ⟨g, 0, none⟩) 2 2) [2, 2] w h)
  rw [show comN [2, 2] 0 = some 2 from by decide] at FT
  unfold okV at FT
  have hb1 : b < w.heap.size + 1 := by omega
  have hb2 : b < w.heap.size + 1 + 1 := by omega
  clear hk
  simp only [Nd.c, negN]
  go_enter Tryz.func204, Tryz.ntmps204
  go_wp2_with (first | (go_at_call 254; go_in))
  refine wp_loop_rounds 2 ?_
  rw [rounds_succ]
  go_wp2_with fail
  refine (FT.out _ _ (kds_two (new_at _ _ _ (by simp)))).mono ?_
  rintro e wx ⟨rfl, hwx⟩
  rw [hwx]
  clear hwx wx
  go_wp2_with fail
  rw [rounds_succ]
  go_wp2_with fail
  go_ret2
  exact ⟨rfl, by go_grown⟩
set_option maxHeartbeats 1000000 in
theorem kindOf_one (c0 p0 : Value) (pa : Option Addr) (c : Nat) (w : World) : Calls Tryz.prog 200 #[.agg #[c0, p0], .agg (oneN.c (.slice pa 0 c))] w fun e w' => e = .returned (.tuple #[.int .i64 2, .int .i64 0]) ∧ Below w.heap.size w w' := by
  have CP := Lib.hid (fun w => cp_one pa c w)
  simp only [Nd.c, oneN] at CP ⊢
  go_enter Tryz.func200, Tryz.ntmps200
  go_wp2_with fail
  refine wp_loop_rounds 1 ?_
  rw [rounds_succ]
  go_wp2_with fail
  refine (CP.out _).mono ?_
  rintro e w1 ⟨rfl, hb1⟩
  obtain ⟨hc1, hf1⟩ := bcell hb1
  have hz1_0 : w.heap.size < w1.heap.size := lt_after hb1 (by (try simp only [World.size_alloc]); repeat (first | (with_reducible assumption) | exact Nat.lt_add_one _ | apply Nat.lt_add_one_of_lt))
  have hz1_1 : w.heap.size + 1 < w1.heap.size := lt_after hb1 (by (try simp only [World.size_alloc]); repeat (first | (with_reducible assumption) | exact Nat.lt_add_one _ | apply Nat.lt_add_one_of_lt))
  go_wp2
  go_ret2
  exact ⟨rfl, below_call (by go_grown) hb1⟩
set_option maxHeartbeats 1000000 in
theorem kindOf_null (c0 p0 : Value) (pa : Option Addr) (c : Nat) (w : World) : Calls Tryz.prog 200 #[.agg #[c0, p0], .agg (nullN.c (.slice pa 0 c))] w fun e w' => e = .returned (.tuple #[.int .i64 0, .int .i64 0]) ∧ Below w.heap.size w w' := by
  have CP := Lib.hid (fun w => cp_null pa c w)
  simp only [Nd.c, nullN] at CP ⊢
  go_enter Tryz.func200, Tryz.ntmps200
  go_wp2_with fail
  refine wp_loop_rounds 1 ?_
  rw [rounds_succ]
  go_wp2_with fail
  refine (CP.out _).mono ?_
  rintro e w1 ⟨rfl, hb1⟩
  obtain ⟨hc1, hf1⟩ := bcell hb1
  have hz1_0 : w.heap.size < w1.heap.size := lt_after hb1 (by (try simp only [World.size_alloc]); repeat (first | (with_reducible assumption) | exact Nat.lt_add_one _ | apply Nat.lt_add_one_of_lt))
  have hz1_1 : w.heap.size + 1 < w1.heap.size := lt_after hb1 (by (try simp only [World.size_alloc]); repeat (first | (with_reducible assumption) | exact Nat.lt_add_one _ | apply Nat.lt_add_one_of_lt))
  go_wp2
  go_ret2
  exact ⟨rfl, below_call (by go_grown) hb1⟩
end YtabojeleomfgnaaGreatDoor
end Go.Proofs
namespace Go.Proofs
open Go.RowKit
namespace YtabojeleomfgnaaGreatDoor
set_option maxRecDepth 100000
theorem at_nil {w : World} {d : Nd} {v : Value} (h : At w (.node d []) v) : ∃ pa cap, v = .agg (d.c (.slice pa 0 cap)) := by
  cases h with
  | node d kids av b o f hs hb hf hc =>
    obtain ⟨pa, cap, rfl, _⟩ := hs
    exact ⟨pa, cap, rfl⟩
theorem kindOf_chain (c0 p0 : Value) (w0 : World) (ht : Tb w0) : ∀ (n : Nat) (v : Value), At w0 (chainT n) v → ∀ (W : World), Low w0 W → Calls Tryz.prog 200 #[.agg #[c0, p0], v] W fun e w' => e = .returned (.tuple #[.int .i64 2, .int .i64 0]) ∧ Below W.heap.size W w'
  | 0, v, h, W, _ => by
    obtain ⟨pa, cap, rfl⟩ := at_nil h
    exact kindOf_one c0 p0 pa cap W
  | n + 1, v, h, W, hL => by
    rw [chainT] at h
    cases h with
    | node d kids av b o f hs hb hf hc =>
      refine kindOf_node c0 p0 negN [chainT n] av w0 b o f hs (fun h => (hb h).2) hf hc [2] rfl (by decide) ?_ ?_ (Or.inl rfl) 2 ?_ W hL
      · intro j h W' hL'
        have hj : j = 0 := by simpa using h
        subst hj
        exact kindOf_chain c0 p0 w0 ht n _ (hc 0 _ rfl) W' hL'
      · intro W' hL'
        obtain ⟨pa, cap, rfl, _⟩ := hs
        exact cp_neg pa cap W' (ht.low hL')
      · intro W' V hL' hV
        obtain ⟨pa, cap, rfl, _⟩ := hs
        exact ka_neg pa cap V W' (ht.low hL') hV
theorem kindOf_inT (c0 p0 : Value) (w0 : World) (n : Nat) (hn : 2 ≤ n) (hn2 : n ≤ 1000) (v : Value) (h : At w0 (inT n) v) (W : World) (hL : Low w0 W) : Calls Tryz.prog 200 #[.agg #[c0, p0], v] W fun e w' => e = .returned (.tuple #[.int .i64 1, .int .i64 0]) ∧ Below W.heap.size W w' := by
  rw [inT] at h
  cases h with
  | node d kids av b o f hs hb hf hc =>
    refine kindOf_node c0 p0 inN _ av w0 b o f hs (fun h => (hb h).2) hf hc (List.replicate n 0) (by simp) (by simp; omega) ?_ ?_ (Or.inr (Or.inr rfl)) 1 ?_ W hL
    · intro j h W' hL'
      have hj : j < n := by simpa using h
      obtain ⟨pa, cap, e⟩ := at_nil (hc j (.node nullN []) (by simp [hj]))
      rw [e, List.getElem_replicate]
      exact kindOf_null c0 p0 pa cap W'
    · intro W' hL'
      rw [List.length_replicate] at hs
      obtain ⟨pa, cap, rfl, _⟩ := hs
      exact cp_in pa n cap hn W'
    · intro W' V hL' hV
      rw [List.length_replicate] at hs
      obtain ⟨pa, cap, rfl, _⟩ := hs
      exact ka_in pa n cap V W' hV
theorem scalar_leaf (nd : Nd) (kl : Int) (c0 p0 : Value) (u : Bool) (hk : nd.k = 1) (hcf : ∀ pa c w, Calls Tryz.prog 202 #[.agg (nd.c (.slice pa 0 c))] w fun e w' => e = .returned (.int .i64 0) ∧ Below w.heap.size w w')
    (hcl : ∀ pa c w, Calls Tryz.prog 203 #[.agg (nd.c (.slice pa 0 c)), c0, p0, .bool u] w fun e w' => e = .returned (.tuple #[.int .i64 kl, .int .i64 0]) ∧ Below w.heap.size w w')
    (w0 : World) (v : Value) (h : At w0 (.node nd []) v) (W : World) (hL : Low w0 W) : Calls Tryz.prog 151 #[v, c0, p0, .bool u] W fun e w' => e = .returned (.tuple #[.int .i64 kl, .int .i64 0]) ∧ Below W.heap.size W w' := by
  cases h with
  | node d kids av b o f hs hb hf hc =>
    have h1 := scalar_node c0 p0 u nd [] av w0 b o f hs (fun h => (hb h).2) hf hc [] rfl (by decide) (fun j h => absurd h (by simp)) (fun W' _ => by obtain ⟨pa, cap, rfl, _⟩ := hs; exact hcf pa cap W') kl (fun W' _ => by obtain ⟨pa, cap, rfl, _⟩ := hs; exact hcl pa cap W') 0 (fun _ h => absurd h (by omega)) (fun _ h => absurd h (by omega)) W hL
    rw [if_neg (by omega)] at h1
    exact h1
/-- what the reference says of a chain's kind, where names are asked, and where not -/
def chK (u : Bool) (n : Nat) : Int := if u = true then 2 else if n = 0 then 2 else 0
theorem scalar_chain (c0 p0 : Value) (u : Bool) (w0 : World) (ht : Tb w0) : ∀ (n : Nat) (v : Value), At w0 (chainT n) v → ∀ (W : World), Low w0 W → Calls Tryz.prog 151 #[v, c0, p0, .bool u] W fun e w' => e = .returned (.tuple #[.int .i64 (chK u n), .int .i64 0]) ∧ Below W.heap.size W w'
  | 0, v, h, W, hL => by
    have e : chK u 0 = 2 := by unfold chK; simp
    rw [e]
    exact scalar_leaf oneN 2 c0 p0 u rfl (form_val 2 1 ⟨#[]⟩) (leaf_val 2 1 ⟨#[]⟩ (Nat.zero_le _) ((fault_right _ _ _).2 (by simp [rightB, formedB, inRangeB, inB, ByteArray.toList_eq]; exact Nat.zero_le _)) c0 p0 u) w0 v h W hL
  | n + 1, v, h, W, hL => by
    rw [chainT] at h
    cases h with
    | node d kids av b o f hs hb hf hc =>
      have h1 := scalar_node c0 p0 u negN [chainT n] av w0 b o f hs (fun h => (hb h).2) hf hc [chK u n] rfl (by simp) (fun j h W' hL' => by
        have hj : j = 0 := by simpa using h
        subst hj
        exact scalar_chain c0 p0 u w0 ht n _ (hc 0 _ rfl) W' hL')
        (fun W' _ => by obtain ⟨pa, cap, rfl, _⟩ := hs; exact form_neg pa cap W') 0 (fun W' _ => by obtain ⟨pa, cap, rfl, _⟩ := hs; exact leaf_neg c0 p0 u pa cap W') 2
        (fun hu _ W' V _ hV => by
          obtain ⟨pa, cap, rfl, _⟩ := hs
          have e : chK u n = 2 := by unfold chK; rw [if_pos hu]
          rw [e] at hV
          exact opk_neg pa cap V W' hV) (fun _ h => absurd h (by decide)) W hL
      have e : (if u = true ∧ 3 < negN.k then (2 : Int) else 0) = chK u (n + 1) := by
        cases u <;> rfl
      rw [e] at h1
      exact h1
theorem scalar_inT (c0 p0 : Value) (u : Bool) (w0 : World) (n : Nat) (hn : 2 ≤ n) (hn2 : n ≤ 1000) (v : Value) (h : At w0 (inT n) v) (W : World) (hL : Low w0 W) : Calls Tryz.prog 151 #[v, c0, p0, .bool u] W fun e w' => e = .returned (.tuple #[.int .i64 (if u = true then 1 else 0), .int .i64 0]) ∧ Below W.heap.size W w' := by
  rw [inT] at h
  cases h with
  | node d kids av b o f hs hb hf hc =>
    have hs' := hs
    rw [List.length_replicate] at hs'
    have h1 := scalar_node c0 p0 u inN _ av w0 b o f hs (fun h => (hb h).2) hf hc (List.replicate n 0) (by simp) (by simp; omega) (fun j h W' hL' => by
      have hj : j < n := by simpa using h
      rw [List.getElem_replicate]
      exact scalar_leaf nullN 0 c0 p0 u rfl (form_val 0 0 ⟨#[]⟩) (leaf_val 0 0 ⟨#[]⟩ (Nat.zero_le _) ((fault_right _ _ _).2 (by simp [rightB, formedB, inRangeB, ByteArray.toList_eq]; exact ⟨Nat.zero_le _, rfl⟩)) c0 p0 u) w0 _ (hc j (.node nullN []) (by simp [hj])) W' hL')
      (fun W' _ => by obtain ⟨pa, cap, rfl, _⟩ := hs'; exact form_in n pa cap hn W') 0 (fun W' _ => by obtain ⟨pa, cap, rfl, _⟩ := hs'; exact leaf_in c0 p0 u n pa cap W') 1
      (fun _ h => absurd h (by decide)) (fun _ _ W' V _ hV => by obtain ⟨pa, cap, rfl, _⟩ := hs'; exact casek_in pa n cap V W' hV) W hL
    have e : (if u = true ∧ 3 < inN.k then (1 : Int) else 0) = if u = true then 1 else 0 := by cases u <;> rfl
    rw [e] at h1
    exact h1
set_option maxHeartbeats 4000000 in
theorem kow_t (c0 p0 : Value) (t : Tr) (v : Value) (kk : Int) (w0 w : World) (h : At w0 t v) (hL : Low w0 w) (hk : ∀ (W : World), Low w0 W → Calls Tryz.prog 200 #[.agg #[c0, p0], v] W fun e w' => e = .returned (.tuple #[.int .i64 kk, .int .i64 0]) ∧ Below W.heap.size W w') :
    Calls Tryz.prog 147 #[.agg #[c0, p0], v] w fun e w' => (∃ k : Int, e = .returned (.tuple #[.int .i64 k, .int .i64 (sizedN t)])) ∧ Below w.heap.size w w' := by
  have HK := Lib.hid hk
  have HX := Lib.hid (fun W (hL : Low w0 W) => tooLarge_t t v W (h.low hL))
  have HL := Lib.hid hL
  have HS : Hid (∀ b, bigB t = b → sizedN t = if b = true then 2 else 0) := Lib.hid (fun b hb => by unfold sizedN; rw [hb])
  have HS2 := HS.out _ rfl
  clear HS
  generalize bigB t = B at *
  obtain ⟨d, kids, pa, cap, rfl, rfl⟩ := h.inv
  generalize kids.length = n' at *
  generalize sizedN (Tr.node d kids) = S at *
  obtain ⟨k, op, n, vk, vn, vs, src, name, dis⟩ := d
  simp only [Nd.c] at HX HK ⊢
  clear h hk hL
  cases B with
  | true =>
    have HR : Hid (S = 2) := Lib.hid (HS2.trans (if_pos rfl))
    clear HS2
    go_enter Tryz.func147, Tryz.ntmps147
    go_wp2_with fail
    refine (HX.out _ (low_alloc (low_alloc HL.out _) _)).mono ?_
    rintro e w1 ⟨rfl, hb1⟩
    have B1 := Lib.hid (show Below w.heap.size w w1 from below_call (by go_grown) hb1)
    clear hb1
    go_wp2_with fail
    go_ret2
    exact ⟨⟨0, by rw [HR.out]; rfl⟩, B1.out⟩
  | false =>
    have HR : Hid (S = 0) := Lib.hid (HS2.trans (if_neg (by decide)))
    clear HS2
    go_enter Tryz.func147, Tryz.ntmps147
    go_wp2_with fail
    refine (HX.out _ (low_alloc (low_alloc HL.out _) _)).mono ?_
    rintro e w1 ⟨rfl, hb1⟩
    obtain ⟨hc1, hf1⟩ := bcell hb1
    have hz1_0 : w.heap.size < w1.heap.size := lt_after hb1 (by (try simp only [World.size_alloc]); repeat (first | (with_reducible assumption) | exact Nat.lt_add_one _ | apply Nat.lt_add_one_of_lt))
    have hz1_1 : w.heap.size + 1 < w1.heap.size := lt_after hb1 (by (try simp only [World.size_alloc]); repeat (first | (with_reducible assumption) | exact Nat.lt_add_one _ | apply Nat.lt_add_one_of_lt))
    have B1 := Lib.hid (show Below w.heap.size w w1 from below_call (by go_grown) hb1)
    go_wp2_with fail
    refine (HK.out _ (HL.out.below B1.out)).mono ?_
    rintro e w2 ⟨rfl, hb2⟩
    have B2 := Lib.hid (show Below w.heap.size w w2 from below_call B1.out hb2)
    clear hb2
    go_wp2_with fail
    go_ret2
    exact ⟨⟨kk, by rw [HR.out]; rfl⟩, B2.out⟩
set_option maxHeartbeats 4000000 in
theorem KindOf_t (t : Tr) (v : Value) (kk : Int) (w : World) (h : At w t v) (hk : ∀ (W : World), Low w W → Calls Tryz.prog 200 #[.agg #[nilS, nilS], v] W fun e w' => e = .returned (.tuple #[.int .i64 kk, .int .i64 0]) ∧ Below W.heap.size W w') :
    Calls Tryz.prog 72 #[v, nilS, nilS] w fun e w' => (∃ k : Int, e = .returned (.tuple #[.int .i64 k, .int .i64 (sizedN t)])) ∧ Below w.heap.size w w' := by
  have HX := Lib.hid (fun W (hL : Low w W) => kow_t nilS nilS t v kk w W h hL hk)
  obtain ⟨d, kids, pa, cap, rfl, rfl⟩ := h.inv
  generalize kids.length = n' at *
  generalize sizedN (Tr.node d kids) = S at *
  obtain ⟨k, op, n, vk, vn, vs, src, name, dis⟩ := d
  simp only [Nd.c] at HX ⊢
  clear h hk
  go_enter Tryz.func72, Tryz.ntmps72
  go_wp2_with fail
  refine wp_loop_rounds 1 ?_
  rw [rounds_succ]
  go_wp2_with fail
  refine (HX.out _ (low_alloc (Low.refl w) _)).mono ?_
  rintro e w1 ⟨⟨k1, rfl⟩, hb1⟩
  have B1 := Lib.hid (show Below w.heap.size w w1 from below_call (by go_grown) hb1)
  clear hb1
  go_wp2_with fail
  go_ret2
  exact ⟨⟨k1, rfl⟩, B1.out⟩
theorem index_nil (fv : Value) (w : World) : Calls Tryz.prog 201 #[nilS, fv] w fun e w' => e = .returned (.int .i64 (-1)) ∧ w' = w := by
  go_enter Tryz.func201, Tryz.ntmps201
  go_wp2_with fail
  go_rounds 1
  go_ret
  exact ⟨rfl, rfl⟩
theorem contains_nil (fv : Value) (w : World) : Calls Tryz.prog 148 #[nilS, fv] w fun e w' => e = .returned (.bool false) ∧ w' = w := by
  go_enter Tryz.func148, Tryz.ntmps148
  go_wp2_with (go_at_call 201; refine (index_nil _ _).mono ?_; rintro e w9 ⟨rfl, rfl⟩)
  go_ret
  exact ⟨rfl, rfl⟩
set_option maxHeartbeats 4000000 in
theorem ScalarKind_t (t : Tr) (v : Value) (kk : Int) (w : World) (h : At w t v) (hcn : cntT t ≤ 1000000000) (hk : ∀ (W : World), Low w W → Calls Tryz.prog 151 #[v, nilS, nilS, .bool true] W fun e w' => e = .returned (.tuple #[.int .i64 kk, .int .i64 0]) ∧ Below W.heap.size W w') :
    Calls Tryz.prog 73 #[v, nilS, nilS] w fun e w' => (∃ k : Int, e = .returned (.tuple #[.int .i64 k, .int .i64 (sizedN t)])) ∧ Below w.heap.size w w' := by
  have HK := Lib.hid hk
  have HX := Lib.hid (fun W (hL : Low w W) => sized_t t v W (h.low hL) hcn)
  have HB : Hid (sizedN t = 2 ∨ sizedN t = 0) := Lib.hid (by unfold sizedN; split; exact Or.inl rfl; exact Or.inr rfl)
  obtain ⟨d, kids, pa, cap, rfl, rfl⟩ := h.inv
  generalize kids.length = n' at *
  generalize sizedN (Tr.node d kids) = S at *
  obtain ⟨k, op, n, vk, vn, vs, src, name, dis⟩ := d
  simp only [Nd.c] at HX HK ⊢
  clear h hk hcn
  rcases HB.out with rfl | rfl
  · go_enter Tryz.func73, Tryz.ntmps73
    go_wp2_with fail
    refine (contains_nil _ _).mono ?_
    rintro e wx ⟨rfl, hwx⟩
    rw [hwx]
    clear hwx wx
    go_wp2_with fail
    refine (HX.out _ (low_alloc (Low.refl w) _)).mono ?_
    rintro e w1 ⟨rfl, hb1⟩
    have B1 := Lib.hid (show Below w.heap.size w w1 from below_call (by go_grown) hb1)
    clear hb1
    go_wp2_with fail
    go_ret2
    exact ⟨⟨0, rfl⟩, B1.out⟩
  · go_enter Tryz.func73, Tryz.ntmps73
    go_wp2_with fail
    refine (contains_nil _ _).mono ?_
    rintro e wx ⟨rfl, hwx⟩
    rw [hwx]
    clear hwx wx
    go_wp2_with fail
    refine (HX.out _ (low_alloc (Low.refl w) _)).mono ?_
    rintro e w1 ⟨rfl, hb1⟩
    have E1 : Hid (w1.heap[w.heap.size]? = some (.cells (ndC k op n vk vn vs src name dis (.slice pa n' cap)) 70 (0, 0))) := Lib.hid ((hb1.block _ (by simp)).trans (heap_alloc_new w _))
    have B1 := Lib.hid (show Below w.heap.size w w1 from below_call (by go_grown) hb1)
    clear hb1
    go_wp2_with (refine load_expr rfl (.tmp 3) rfl w.heap.size _ rfl E1.out rfl ?_)
    refine (HK.out _ (Low.of_below B1.out)).mono ?_
    rintro e w2 ⟨rfl, hb2⟩
    have B2 := Lib.hid (show Below w.heap.size w w2 from below_call B1.out hb2)
    clear hb2
    go_wp2_with fail
    go_ret2
    exact ⟨⟨kk, rfl⟩, B2.out⟩
end YtabojeleomfgnaaGreatDoor
end Go.Proofs
