/- Patterns: the beginnings that fit, byte by byte. The reference: skip. The reference: the list of pieces. -/
import Derived.Test.YtabojeleomfgnaaGreatDoorLq1
import Derived.Test.YtabojeleomfgnaaGreatDoorMp4
import Derived.Test.YtabojeleomfgnaaGreatDoorG1
namespace Go.Proofs
open Go.RowKit
namespace YtabojeleomfgnaaGreatDoor
set_option maxRecDepth 100000
/-! the beginnings of a pattern that fit, byte by byte -/
def At (N : List Bool) (k : Nat) : Prop := N[k]? = some true
/-- one of the beginnings goes on with this text -/
def Ex (S : List Int) (N : List Bool) (t : List Int) : Prop := ∃ k, At N k ∧ Mt (S.drop k) t
def Closed (S : List Int) (N : List Bool) (m : Nat) : Prop := ∀ k, k < m → At N k → S[k]? = some (-1) → At N (k + 1)
theorem mt_any0 {S t : List Int} {k : Nat} (h : S[k]? = some (-1)) (hm : Mt (S.drop (k + 1)) t) : Mt (S.drop k) t := by
  rw [drop_some h, mt_cons, if_pos rfl]
  exact ⟨0, Nat.zero_le _, hm⟩
theorem at_set_ne {N : List Bool} {k j : Nat} {b : Bool} (h : j ≠ k) : At (N.set k b) j ↔ At N j := by
  unfold At
  rw [List.getElem?_set_ne (Ne.symm h)]
theorem at_set_eq {N : List Bool} {k : Nat} {b : Bool} (h : k < N.length) : At (N.set k b) k ↔ b = true := by
  unfold At
  rw [List.getElem?_set_self h]
  simp
/-- one round of skip: its k-th piece is any or not; b: what is laid at k + 1 -/
theorem skip_round {S : List Int} {N M : List Bool} {k : Nat} {p : Int} {x y : Bool} (hp : S[k]? = some p) (hx : N[k]? = some x) (hy : N[k + 1]? = some y)
    (hE : ∀ t, Ex S N t ↔ Ex S M t) (hC : Closed S N k) : (∀ t, Ex S (N.set (k + 1) (y || (x && p == -1))) t ↔ Ex S M t) ∧ Closed S (N.set (k + 1) (y || (x && p == -1))) (k + 1) := by
  have hk1 : k + 1 < N.length := (List.getElem?_eq_some_iff.1 hy).1
  refine ⟨fun t => Iff.trans ⟨?_, ?_⟩ (hE t), ?_⟩
  · rintro ⟨j, hj, hm⟩
    by_cases e : j = k + 1
    · subst e
      rw [at_set_eq hk1] at hj
      by_cases hyt : y = true
      · exact ⟨k + 1, by unfold At; rw [hy, hyt], hm⟩
      · simp [hyt] at hj
        exact ⟨k, by unfold At; rw [hx, hj.1], mt_any0 (by rw [hp, hj.2]) hm⟩
    · exact ⟨j, (at_set_ne e).1 hj, hm⟩
  · rintro ⟨j, hj, hm⟩
    refine ⟨j, ?_, hm⟩
    by_cases e : j = k + 1
    · subst e
      unfold At at hj
      rw [hy] at hj
      rw [at_set_eq hk1]
      simp at hj
      simp [hj]
    · exact (at_set_ne e).2 hj
  · intro j hj ha hs
    by_cases e : j = k
    · subst e
      rw [at_set_ne (by omega)] at ha
      rw [at_set_eq hk1]
      unfold At at ha
      rw [hx] at ha
      rw [hp] at hs
      simp at ha hs
      simp [ha, hs]
    · rw [at_set_ne (by omega)] at ha
      rw [at_set_ne (by omega)]
      exact hC j (by omega) ha hs
/-- behind k pieces, the beginnings that fit with one more byte c -/
def Nx (S : List Int) (N : List Bool) (c : Int) (k j : Nat) : Prop :=
  (j < k ∧ At N j ∧ S[j]? = some (-1)) ∨ ∃ q p, j = q + 1 ∧ q < k ∧ At N q ∧ S[q]? = some p ∧ p ≠ -1 ∧ (p = -2 ∨ p = c)
theorem nx_same {S : List Int} {N : List Bool} {c : Int} {k : Nat} (h : ¬ At N k ∨ ∃ p, S[k]? = some p ∧ p ≠ -1 ∧ ¬ (p = -2 ∨ p = c)) (j : Nat) : Nx S N c (k + 1) j ↔ Nx S N c k j := by
  constructor
  · rintro (⟨h1, h2, h3⟩ | ⟨q, p, h0, h1, h2, h3, h4, h5⟩)
    · by_cases e : j = k
      · subst e
        rcases h with h | ⟨p, g1, g2, _⟩
        · exact absurd h2 h
        · rw [g1] at h3; exact absurd (Option.some.inj h3) g2
      · exact Or.inl ⟨by omega, h2, h3⟩
    · by_cases e : q = k
      · subst e
        rcases h with h | ⟨p', g1, g2, g3⟩
        · exact absurd h2 h
        · rw [g1] at h3; obtain rfl := Option.some.inj h3; exact absurd h5 g3
      · exact Or.inr ⟨q, p, h0, by omega, h2, h3, h4, h5⟩
  · rintro (⟨h1, h2, h3⟩ | ⟨q, p, h0, h1, h2⟩)
    · exact Or.inl ⟨by omega, h2, h3⟩
    · exact Or.inr ⟨q, p, h0, by omega, h2⟩
theorem nx_any {S : List Int} {N X : List Bool} {c : Int} {k : Nat} (hk : k < X.length) (ha : At N k) (hs : S[k]? = some (-1)) (h : ∀ j, At X j ↔ Nx S N c k j) (j : Nat) : At (X.set k true) j ↔ Nx S N c (k + 1) j := by
  by_cases e : j = k
  · subst e
    rw [at_set_eq hk]
    exact ⟨fun _ => Or.inl ⟨by omega, ha, hs⟩, fun _ => rfl⟩
  · rw [at_set_ne e, h j]
    constructor
    · rintro (⟨h1, h2⟩ | ⟨q, p, h0, h1, h2⟩)
      · exact Or.inl ⟨by omega, h2⟩
      · exact Or.inr ⟨q, p, h0, by omega, h2⟩
    · rintro (⟨h1, h2⟩ | ⟨q, p, h0, h1, h2, h3, h4, h5⟩)
      · exact Or.inl ⟨by omega, h2⟩
      · refine Or.inr ⟨q, p, h0, ?_, h2, h3, h4, h5⟩
        by_cases e' : q = k
        · subst e'; rw [hs] at h3; exact absurd (Option.some.inj h3).symm h4
        · omega
theorem nx_fit {S : List Int} {N X : List Bool} {c p : Int} {k : Nat} (hk : k + 1 < X.length) (ha : At N k) (hs : S[k]? = some p) (hn : p ≠ -1) (hf : p = -2 ∨ p = c) (h : ∀ j, At X j ↔ Nx S N c k j) (j : Nat) : At (X.set (k + 1) true) j ↔ Nx S N c (k + 1) j := by
  by_cases e : j = k + 1
  · subst e
    rw [at_set_eq hk]
    exact ⟨fun _ => Or.inr ⟨k, p, rfl, by omega, ha, hs, hn, hf⟩, fun _ => rfl⟩
  · rw [at_set_ne e, h j]
    constructor
    · rintro (⟨h1, h2⟩ | ⟨q, p, h0, h1, h2⟩)
      · exact Or.inl ⟨by omega, h2⟩
      · exact Or.inr ⟨q, p, h0, by omega, h2⟩
    · rintro (⟨h1, h2, h3⟩ | ⟨q, p', h0, h1, h2⟩)
      · refine Or.inl ⟨?_, h2, h3⟩
        by_cases e' : j = k
        · subst e'; rw [hs] at h3; exact absurd (Option.some.inj h3) hn
        · omega
      · exact Or.inr ⟨q, p', h0, by omega, h2⟩
theorem nx_start (S : List Int) (N : List Bool) (c : Int) (n j : Nat) : At (List.replicate n false) j ↔ Nx S N c 0 j := by
  constructor
  · intro h
    unfold At at h
    rw [List.getElem?_replicate] at h
    split at h <;> simp at h
  · rintro (⟨h1, _⟩ | ⟨q, p, _, h1, _⟩) <;> omega
/-- a byte: the beginnings behind it go on with the rest as those ahead of it with the whole -/
theorem ex_step {S T : List Int} {N X : List Bool} {i : Nat} {c : Int} (hc : T[i]? = some c) (hC : Closed S N S.length) (h : ∀ j, At X j ↔ Nx S N c S.length j) : Ex S X (T.drop (i + 1)) ↔ Ex S N (T.drop i) := by
  have hi : i < T.length := some_lt hc
  constructor
  · rintro ⟨j, hj, hm⟩
    rcases (h j).1 hj with ⟨h1, h2, h3⟩ | ⟨q, p, rfl, h1, h2, h3, h4, h5⟩
    · refine ⟨j, h2, ?_⟩
      obtain ⟨u, u1, u2, hu⟩ := (mt_any h3 (by omega)).1 hm
      exact (mt_any h3 (by omega)).2 ⟨u, by omega, u2, hu⟩
    · exact ⟨q, h2, (mt_one h3 h4 hc).2 ⟨h5, hm⟩⟩
  · rintro ⟨k, hk, hm⟩
    have key : ∀ (d k : Nat), S.length - k = d → At N k → Mt (S.drop k) (T.drop i) → Ex S X (T.drop (i + 1)) := by
      intro d
      induction d with
      | zero =>
        intro k hd _ hm
        rw [mt_end (by omega)] at hm
        omega
      | succ d ih =>
        intro k hd ha hm
        obtain ⟨p, hp⟩ := lt_some (show k < S.length by omega)
        by_cases h1 : p = -1
        · subst h1
          obtain ⟨u, u1, u2, hu⟩ := (mt_any hp (by omega)).1 hm
          by_cases e : u = i
          · subst e
            exact ih (k + 1) (by omega) (hC k (by omega) ha hp) hu
          · exact ⟨k, (h k).2 (Or.inl ⟨by omega, ha, hp⟩), (mt_any hp (by omega)).2 ⟨u, by omega, u2, hu⟩⟩
        · obtain ⟨hf, hm'⟩ := (mt_one hp h1 hc).1 hm
          exact ⟨k + 1, (h _).2 (Or.inr ⟨k, p, rfl, by omega, ha, hp, h1, hf⟩), hm'⟩
    exact key _ k rfl hk hm
theorem ex_end {S T : List Int} {N : List Bool} (hC : Closed S N S.length) (hn : N.length = S.length + 1) : Ex S N (T.drop T.length) ↔ At N S.length := by
  constructor
  · rintro ⟨k, hk, hm⟩
    have key : ∀ (d k : Nat), S.length - k = d → At N k → Mt (S.drop k) (T.drop T.length) → At N S.length := by
      intro d
      induction d with
      | zero =>
        intro k hd ha _
        have : k < N.length := (List.getElem?_eq_some_iff.1 ha).1
        obtain rfl : k = S.length := by omega
        exact ha
      | succ d ih =>
        intro k hd ha hm
        obtain ⟨p, hp⟩ := lt_some (show k < S.length by omega)
        by_cases h1 : p = -1
        · subst h1
          exact ih (k + 1) (by omega) (hC k (by omega) ha hp) ((done_any hp).1 hm)
        · exact absurd hm (done_not hp h1)
    exact key _ k rfl hk hm
  · intro ha
    exact ⟨_, ha, done_end (Nat.le_refl _)⟩
theorem ex_start (S t : List Int) (n : Nat) : Ex S ((List.replicate (n + 1) false).set 0 true) t ↔ Mt S t := by
  constructor
  · rintro ⟨k, hk, hm⟩
    by_cases e : k = 0
    · subst e; exact hm
    · rw [at_set_ne e] at hk
      unfold At at hk
      rw [List.getElem?_replicate] at hk
      split at hk <;> simp at hk
  · intro hm
    exact ⟨0, (at_set_eq (by simp)).2 rfl, hm⟩
end YtabojeleomfgnaaGreatDoor
end Go.Proofs
namespace Go.Proofs
open Go.RowKit
namespace YtabojeleomfgnaaGreatDoor
set_option maxRecDepth 100000
theorem run_store_bool (w : World) (g i : Nat) (b : Bool) (old : Array Value) (t : TypeId) (hg : w.heap[g]? = some (.cells old t (0, 0))) (hi : i < old.size) :
    (storeVar 4 ⟨g, i, none⟩ (.bool b)).run Tryz.prog w = .ok () (w.setCells g i [.bool b]) := by
  have ht := there_of_block (n := 1) (o := i) hg (by omega)
  have := run_storeCells_cells (P := Tryz.prog) g i [.bool b] 0 w (fun j hj => by simpa using (ht j (by simpa using hj)).1) (fun j hj => by simpa using (ht j (by simpa using hj)).2) (fun v hv => by simp at hv; subst hv; rfl)
  simp only [Nat.add_zero] at this
  have hi : (Tryz.prog.info? 4).map (·.size) = some 1 := by kernel_rfl
  cases hq : Tryz.prog.info? 4 with
  | none => simp [hq] at hi
  | some i =>
    have hs : i.size = 1 := by simpa [hq] using hi
    simp [storeVar, sizeOf, typeInfo, hq, Value.cells, hs, this]
theorem store_bool {ops : Array Oper} {rest : List Oper} {o : Oper} {a : Act} {w : World} {Q : Exit → Act → World → Prop} (hgd : o.guard = none) (u v : Operand) (ho : o.op = .store 4 u v)
    (g i : Nat) (b : Bool) (hx : a.eval u = .pointer (some ⟨g, i, none⟩)) (hy : a.eval v = .bool b) (old : Array Value) (t : TypeId) (hg : w.heap[g]? = some (.cells old t (0, 0))) (hi : i < old.size)
    (h : ∀ w', Puts g (old.setIfInBounds i (.bool b)) t w w' → wpList Tryz.prog ops Q rest (a.put o.dst undef) w') : wpList Tryz.prog ops Q (o :: rest) a w :=
  wpList_plain hgd fun _ hK => by
    unfold Oper.wp execOp
    simp only [ho, hx, hy, Instr.storeAt, Instr.sureAddr, Sem.run_bind, Sem.run_pure, Result.andThen_ok, run_store_bool w g i b old t hg hi]
    exact hK _ _ (h _ (puts_setCell _ hg))
/-- a row of bools -/
def brow (N : List Bool) : Array Value := (N.map Value.bool).toArray
def Brow (g : Nat) (N : List Bool) (w : World) : Prop := w.heap[g]? = some (.cells (brow N) 4 (0, 0))
theorem brow_set (N : List Bool) (i : Nat) (b : Bool) : (brow N).setIfInBounds i (.bool b) = brow (N.set i b) := by
  unfold brow
  rw [List.setIfInBounds_toArray, List.map_set]
theorem brow_size (N : List Bool) : (brow N).size = N.length := by simp [brow]
theorem Brow.cell {g k : Nat} {N : List Bool} {w : World} {x : Bool} (h : Brow g N w) (hx : N[k]? = some x) : w.cell? ⟨g, k, none⟩ = some (.bool x) := by
  rw [cell_of_row w g k _ _ _ h]
  unfold brow
  rw [List.getElem?_toArray, List.getElem?_map, hx]
  rfl
/-- the byte that a piece holds -/
def pcOf (p : Int) : Int := if p = -1 then 0 else if p = -2 then 95 else p
/-- the list of the pieces, its head at block L, all of it below block B -/
def Pat (S : List Int) (L : Nat) (a : Option Addr) (cap B : Nat) (w : World) : Prop :=
  w.heap[L]? = some (.cells #[.slice a S.length cap] 208 (0, 0)) ∧ L < B ∧ ∀ k p, S[k]? = some p → ∃ b o, a = some ⟨b, o, none⟩ ∧ b < B ∧ w.cell? ⟨b, o + k * 3, none⟩ = some (.int .u8 (pcOf p)) ∧ w.cell? ⟨b, o + k * 3 + 1, none⟩ = some (.bool (p == -1)) ∧ w.cell? ⟨b, o + k * 3 + 2, none⟩ = some (.bool (p == -2))
theorem Pat.keeps {S : List Int} {L cap B g : Nat} {a : Option Addr} {w w' : World} (h : Pat S L a cap B w) (hg : B ≤ g) (hK : Keeps g w w') : Pat S L a cap B w' := by
  obtain ⟨h1, h2, h3⟩ := h
  refine ⟨(hK.block _ (lt_of_block h1) (by omega)).trans h1, h2, fun k p hk => ?_⟩
  obtain ⟨b, o, ha, hb, x0, x1, x2⟩ := h3 k p hk
  have hlt : b < w.heap.size := block_lt_of_cell x0
  exact ⟨b, o, ha, hb, (cell_kept hK (by omega) hlt).trans x0, (cell_kept hK (by omega) hlt).trans x1, (cell_kept hK (by omega) hlt).trans x2⟩
theorem Pat.below {S : List Int} {L cap B : Nat} {a : Option Addr} {w w' : World} (h : Pat S L a cap B w) (hb : Below w.heap.size w w') : Pat S L a cap B w' := by
  obtain ⟨h1, h2, h3⟩ := h
  refine ⟨(hb.block _ (lt_of_block h1)).trans h1, h2, fun k p hk => ?_⟩
  obtain ⟨b, o, ha, hb', x0, x1, x2⟩ := h3 k p hk
  have hlt : b < w.heap.size := block_lt_of_cell x0
  exact ⟨b, o, ha, hb', (hb.cell (p := ⟨b, o + k * 3, none⟩) hlt).trans x0, (hb.cell (p := ⟨b, o + k * 3 + 1, none⟩) hlt).trans x1, (hb.cell (p := ⟨b, o + k * 3 + 2, none⟩) hlt).trans x2⟩
theorem get_some {N : List Bool} {k : Nat} (h : k < N.length) : ∃ x, N[k]? = some x := ⟨N[k], List.getElem?_eq_getElem h⟩
/-- while skip goes over the pieces: behind k of them -/
structure Sk (S : List Int) (N : List Bool) (L g : Nat) (a : Option Addr) (cap B k : Nat) (M : List Bool) (w0 w : World) : Prop where
  len : M.length = S.length + 1
  row : Brow g M w
  ex : ∀ t, Ex S M t ↔ Ex S N t
  closed : Closed S M k
  pat : Pat S L a cap B w
  keeps : Keeps g w0 w
set_option maxHeartbeats 4000000 in
theorem skip_t (S : List Int) (N : List Bool) (L g : Nat) (a : Option Addr) (cap B c : Nat) (hn : S.length ≤ 1000) (hN : N.length = S.length + 1) (hg : B ≤ g) (w : World) (hP : Pat S L a cap B w) (hR : Brow g N w) :
    Calls Tryz.prog 241 #[.slice (some ⟨g, 0, none⟩) (S.length + 1) c, .pointer (some ⟨L, 0, none⟩)] w fun e w' => e = .returned (.tuple #[]) ∧ ∃ M, Sk S N L g a cap B S.length M w w' := by
  have K0 : Hid (Sk S N L g a cap B 0 N w w) := Lib.hid ⟨hN, hR, fun _ => Iff.rfl, fun k hk => absurd hk (Nat.not_lt_zero k), hP, Keeps.refl _ _⟩
  have c0 : w.cell? ⟨L, 0, none⟩ = some (.slice a S.length cap) := (cell_of_row w _ 0 _ _ _ hP.1).trans rfl
  clear hP hR hN
  go_enter Tryz.func241, Tryz.ntmps241
  go_wp2_with fail
  clear c0
  go_loopw [7] (fun i wr => ∃ (k : Nat) (M : List Bool), i = .int .i64 k ∧ k ≤ S.length ∧ Hid (Sk S N L g a cap B k M w wr)) (fun i _ => S.length - (intOf i).toNat)
  case atStart => exact ⟨0, N, rfl, Nat.zero_le _, K0⟩
  case round =>
    clear K0
    obtain ⟨k, M, rfl, hk, hK⟩ := hrel
    by_cases hlt : k < S.length
    · obtain ⟨p, hp⟩ := lt_some hlt
      obtain ⟨x, hx⟩ := get_some (show k < M.length by rw [hK.out.len]; omega)
      obtain ⟨y, hy⟩ := get_some (show k + 1 < M.length by rw [hK.out.len]; omega)
      obtain ⟨b, o, rfl, hbB, x0, x1, x2⟩ := hK.out.pat.2.2 k p hp
      have cx := hK.out.row.cell hx
      have cy := hK.out.row.cell hy
      have HR := Lib.hid (skip_round hp hx hy hK.out.ex hK.out.closed)
      have bl : b < wr.heap.size := block_lt_of_cell x0
      have gl : g < wr.heap.size := lt_of_block hK.out.row
      have hs : k + 1 < (brow M).size := by rw [brow_size, hK.out.len]; omega
      generalize (p == -1) = q at x1 HR
      generalize (p == -2) = q2 at x2
      generalize pcOf p = d at x0
      clear hp hx hy
      cases y with
      | true => 
        go_wp2_with (refine store_bool rfl (.tmp 30) (.tmp 29) rfl g (k + 1) (true) rfl rfl (brow M) 4 ((heap_alloc_old _ _ gl).trans hK.out.row) hs ?_; intro w2 hp; have HP := Lib.hid hp; clear hp)
        try simp only [Act.put]
        go_roundw
        case rel =>
          have hb := (Keeps.of_below ((Below.refl wr.heap.size wr).alloc (Nat.le_refl _) (.cells #[.int .u8 d, .bool q, .bool q2] 210))).trans (p := g) HP.out.keeps
          exact ⟨k + 1, M.set (k + 1) (true || (x && q)), by go_num, by omega, Lib.hid ⟨by simp [hK.out.len], by unfold Brow; rw [← brow_set]; exact HP.out.at', HR.out.1, HR.out.2, hK.out.pat.keeps hg hb, hK.out.keeps.trans hb⟩⟩
        case measure => simp [intOf]; omega
      | false =>
        cases x with
        | true => 
          go_wp2_with (refine store_bool rfl (.tmp 30) (.tmp 29) rfl g (k + 1) (q) rfl rfl (brow M) 4 ((heap_alloc_old _ _ gl).trans hK.out.row) hs ?_; intro w2 hp; have HP := Lib.hid hp; clear hp)
          try simp only [Act.put]
          go_roundw
          case rel =>
            have hb := (Keeps.of_below ((Below.refl wr.heap.size wr).alloc (Nat.le_refl _) (.cells #[.int .u8 d, .bool q, .bool q2] 210))).trans (p := g) HP.out.keeps
            exact ⟨k + 1, M.set (k + 1) (false || (true && q)), by go_num, by omega, Lib.hid ⟨by simp [hK.out.len], by unfold Brow; rw [← brow_set]; exact HP.out.at', HR.out.1, HR.out.2, hK.out.pat.keeps hg hb, hK.out.keeps.trans hb⟩⟩
          case measure => simp [intOf]; omega
        | false => 
          go_wp2_with (refine store_bool rfl (.tmp 30) (.tmp 29) rfl g (k + 1) (false) rfl rfl (brow M) 4 ((heap_alloc_old _ _ gl).trans hK.out.row) hs ?_; intro w2 hp; have HP := Lib.hid hp; clear hp)
          try simp only [Act.put]
          go_roundw
          case rel =>
            have hb := (Keeps.of_below ((Below.refl wr.heap.size wr).alloc (Nat.le_refl _) (.cells #[.int .u8 d, .bool q, .bool q2] 210))).trans (p := g) HP.out.keeps
            exact ⟨k + 1, M.set (k + 1) (false || (false && q)), by go_num, by omega, Lib.hid ⟨by simp [hK.out.len], by unfold Brow; rw [← brow_set]; exact HP.out.at', HR.out.1, HR.out.2, hK.out.pat.keeps hg hb, hK.out.keeps.trans hb⟩⟩
          case measure => simp [intOf]; omega
    · obtain rfl : k = S.length := by omega
      go_wp2_with fail
      exact bodyPost_end (results_none rfl _ _ _) rfl ⟨rfl, M, hK.out⟩
end YtabojeleomfgnaaGreatDoor
end Go.Proofs
namespace Go.Proofs
open Go.RowKit
namespace YtabojeleomfgnaaGreatDoor
set_option maxRecDepth 100000
theorem info210 : (Tryz.prog.info? 210).map (fun i => (i.zero, i.size, i.bytes)) = some (some (.agg #[.int .u8 0, .bool false, .bool false]), 3, 3) := by kernel_rfl
/-- a piece's cells -/
def pcells (p : Int) : List Value := [.int .u8 (pcOf p), .bool (p == -1), .bool (p == -2)]
theorem pcells_length : ∀ S : List Int, (S.flatMap pcells).length = S.length * 3
  | [] => rfl
  | p :: S => by
    rw [List.flatMap_cons, List.length_append, pcells_length S]
    simp [pcells]
    omega
theorem pcells_get : ∀ (S : List Int) (k : Nat) (p : Int) (j : Nat), S[k]? = some p → j < 3 → (S.flatMap pcells)[k * 3 + j]? = (pcells p)[j]?
  | [], k, p, j, h, _ => by simp at h
  | q :: S, 0, p, j, h, hj => by
    simp at h
    subst h
    rw [List.flatMap_cons, List.getElem?_append_left (by simp [pcells]; omega)]
    simp
  | q :: S, k + 1, p, j, h, hj => by
    rw [List.flatMap_cons, List.getElem?_append_right (by simp [pcells]; omega)]
    have := pcells_get S k p j (by simpa using h) hj
    rw [← this]
    congr 1
    simp [pcells]
    omega
/-- the list of pieces that is being made: its row; its head's block, with whatever is in it -/
structure Bp (acc : List Int) (v : Value) (w0 w : World) : Prop where
  own : w.ownsRow (w0.heap.size + 1) 210 3 v acc.length (acc.flatMap pcells)
  head : ∃ u, w.heap[w0.heap.size]? = some (.cells #[u] 208 (0, 0))
  low : Below w0.heap.size w0 w
theorem Bp.alloc {acc : List Int} {v : Value} {w0 w : World} (h : Bp acc v w0 w) (o : Obj) : Bp acc v w0 (w.alloc o) := by
  obtain ⟨h1, ⟨u, h2⟩, h3⟩ := h
  exact ⟨h1.alloc o, ⟨u, (heap_alloc_old _ _ (lt_of_block h2)).trans h2⟩, h3.alloc h3.size o⟩
theorem Bp.drew {acc : List Int} {v : Value} {w0 w : World} (h : Bp acc v w0 w) : Bp acc v w0 w.drew := ⟨h.own, h.head, ⟨h.low.os, h.low.tape, h.low.output, h.low.size, h.low.block⟩⟩
theorem Bp.base {acc : List Int} {v : Value} {w0 w : World} (h : Bp acc v w0 w) : w0.heap.size + 1 ≤ w.heap.size := by
  obtain ⟨u, h2⟩ := h.head
  exact lt_of_block h2
theorem wp_pushP {o : Oper} {a : Act} {w : World} {K : Act → World → Prop} {Q : Exit → Act → World → Prop} (s x : Operand) (ho : o.op = .call { callee := .builtin .append, args := #[s, x], argTypes := #[208, 208] })
    (w0 : World) (g c : Nat) (acc : List Int) (v : Value) (p : Int) (hs : a.eval s = v) (hA : Bp acc v w0 w) (hx : a.eval x = .slice (some ⟨g, 0, none⟩) 1 c) (cs : Array Value) (hc : cs = (pcells p).toArray) (hw : w.heap[g]? = some (.cells cs 210 (0, 0))) (hlen : acc.length ≤ 1000)
    (h : ∀ b cap w', Bp (acc ++ [p]) (.slice (some ⟨b, 0, none⟩) (acc.length + 1) cap) w0 w' → (∀ u, w.heap[w0.heap.size]? = some (.cells #[u] 208 (0, 0)) → w'.heap[w0.heap.size]? = some (.cells #[u] 208 (0, 0))) → K (a.put o.dst (.slice (some ⟨b, 0, none⟩) (acc.length + 1) cap)) w') : o.wp Tryz.prog a w K Q := by
  subst hc
  obtain ⟨i3, hi, hz0, hz1, hz2⟩ := info_parts info210
  refine wp_append_own _ s x 208 ho (w0.heap.size + 1) 210 i3 _ 3 3 Tryz.underlying208 hi hz0 hz1 hz2 rfl (by decide) v acc.length _ hs hA.own ⟨g, 0, none⟩ 1 c (pcells p) hx rfl ?_ (by simp [pcells, Value.oneCell']) (by unfold maxLen; omega) (by omega) hA.base ?_
  · intro j u hj
    have hadd : (⟨g, 0, none⟩ : Addr).add j = ⟨g, j, none⟩ := by unfold Addr.add; split <;> simp_all
    rw [hadd, cell_of_row _ _ j _ _ _ hw]
    simpa using hj
  · intro v' w' h1 h2 _
    obtain ⟨b, cap, rfl, hb⟩ := own_some h1
    have hh : ∀ u, w.heap[w0.heap.size]? = some (.cells #[u] 208 (0, 0)) → w'.heap[w0.heap.size]? = some (.cells #[u] 208 (0, 0)) := fun u hu => (h2.block _ (lt_of_block hu) (fun e => by have := (hA.own.lt _ e.symm).1; omega)).trans hu
    refine h b cap w' ⟨by simpa using h1, ?_, hA.low.grown h2 hA.low.size (fun k hk => by have := (hA.own.lt k hk).1; omega)⟩ hh
    obtain ⟨u, hu⟩ := hA.head
    exact ⟨u, hh u hu⟩
theorem wpList_pushP {ops : Array Oper} {rest : List Oper} {o : Oper} {a : Act} {w : World} {Q : Exit → Act → World → Prop} (hgd : o.guard = none) (s x : Operand) (ho : o.op = .call { callee := .builtin .append, args := #[s, x], argTypes := #[208, 208] })
    (w0 : World) (g c : Nat) (acc : List Int) (v : Value) (p : Int) (hs : a.eval s = v) (hA : Bp acc v w0 w) (hx : a.eval x = .slice (some ⟨g, 0, none⟩) 1 c) (cs : Array Value) (hc : cs = (pcells p).toArray) (hw : w.heap[g]? = some (.cells cs 210 (0, 0))) (hlen : acc.length ≤ 1000)
    (h : ∀ b cap w', Bp (acc ++ [p]) (.slice (some ⟨b, 0, none⟩) (acc.length + 1) cap) w0 w' → (∀ u, w.heap[w0.heap.size]? = some (.cells #[u] 208 (0, 0)) → w'.heap[w0.heap.size]? = some (.cells #[u] 208 (0, 0))) → wpList Tryz.prog ops Q rest (a.put o.dst (.slice (some ⟨b, 0, none⟩) (acc.length + 1) cap)) w') : wpList Tryz.prog ops Q (o :: rest) a w :=
  wpList_plain hgd fun _ hK => wp_pushP s x ho w0 g c acc v p hs hA hx cs hc hw hlen fun b cap w' h1 h2 => hK _ _ (h b cap w' h1 h2)
theorem run_store_slice (w : World) (g : Nat) (a : Option Addr) (n c : Nat) (old : Array Value) (t : TypeId) (hg : w.heap[g]? = some (.cells old t (0, 0))) (hi : 0 < old.size) :
    (storeVar 208 ⟨g, 0, none⟩ (.slice a n c)).run Tryz.prog w = .ok () (w.setCells g 0 [.slice a n c]) := by
  have ht := there_of_block (n := 1) (o := 0) hg (by omega)
  have := run_storeCells_cells (P := Tryz.prog) g 0 [.slice a n c] 0 w (fun j hj => by simpa using (ht j (by simpa using hj)).1) (fun j hj => by simpa using (ht j (by simpa using hj)).2) (fun v hv => by simp at hv; subst hv; rfl)
  simp only [Nat.add_zero] at this
  have hi : (Tryz.prog.info? 208).map (·.size) = some 1 := by kernel_rfl
  cases hq : Tryz.prog.info? 208 with
  | none => simp [hq] at hi
  | some i =>
    have hs : i.size = 1 := by simpa [hq] using hi
    simp [storeVar, sizeOf, typeInfo, hq, Value.cells, hs, this]
theorem wp_store_slice {o : Oper} {a : Act} {w : World} {K : Act → World → Prop} {Q : Exit → Act → World → Prop} (u v : Operand) (ho : o.op = .store 208 u v)
    (g : Nat) (ad : Option Addr) (n c : Nat) (hx : a.eval u = .pointer (some ⟨g, 0, none⟩)) (hy : a.eval v = .slice ad n c) (z : Value) (hg : w.heap[g]? = some (.cells #[z] 208 (0, 0)))
    (h : ∀ w', Puts g #[.slice ad n c] 208 w w' → K (a.put o.dst undef) w') : o.wp Tryz.prog a w K Q := by
  unfold Oper.wp execOp
  simp only [ho, hx, hy, Instr.storeAt, Instr.sureAddr, Sem.run_bind, Sem.run_pure, Result.andThen_ok, run_store_slice w g ad n c _ 208 hg (by simp)]
  have hq := puts_setCell (i := 0) (Value.slice ad n c) hg
  exact h _ hq
theorem wpList_store_slice {ops : Array Oper} {rest : List Oper} {o : Oper} {a : Act} {w : World} {Q : Exit → Act → World → Prop} (hgd : o.guard = none) (u v : Operand) (ho : o.op = .store 208 u v)
    (g : Nat) (ad : Option Addr) (n c : Nat) (hx : a.eval u = .pointer (some ⟨g, 0, none⟩)) (hy : a.eval v = .slice ad n c) (z : Value) (hg : w.heap[g]? = some (.cells #[z] 208 (0, 0)))
    (h : ∀ w', Puts g #[.slice ad n c] 208 w w' → wpList Tryz.prog ops Q rest (a.put o.dst undef) w') : wpList Tryz.prog ops Q (o :: rest) a w :=
  wpList_plain hgd fun _ hK => wp_store_slice u v ho g ad n c hx hy z hg fun w' h1 => hK _ _ (h w' h1)
/-- the list of pieces, in its head -/
def Bd (acc : List Int) (a : Option Addr) (cap : Nat) (w0 w : World) : Prop := Bp acc (.slice a acc.length cap) w0 w ∧ w.heap[w0.heap.size]? = some (.cells #[.slice a acc.length cap] 208 (0, 0))
theorem Bd.of {acc : List Int} {p : Int} {b cap : Nat} {w0 w w' : World} (h : Bp (acc ++ [p]) (.slice (some ⟨b, 0, none⟩) (acc.length + 1) cap) w0 w) (hp : Puts w0.heap.size #[.slice (some ⟨b, 0, none⟩) (acc.length + 1) cap] 208 w w') : Bd (acc ++ [p]) (some ⟨b, 0, none⟩) cap w0 w' := by
  have e : (acc ++ [p]).length = acc.length + 1 := by simp
  unfold Bd
  rw [e]
  refine ⟨⟨?_, ⟨_, hp.at'⟩, hp.below h.low (Nat.le_refl _)⟩, hp.at'⟩
  obtain ⟨h1, h2⟩ := h.own
  refine ⟨h1, ?_⟩
  rcases h2 with ⟨h3, _⟩ | ⟨g, cap', cur, h3, h4, h5, h6⟩
  · cases h3
  · refine Or.inr ⟨g, cap', cur, h3, h4, (hp.keeps.block _ (lt_of_block h5) (by omega)).trans h5, h6⟩
theorem Bd.pat {acc : List Int} {a : Option Addr} {cap : Nat} {w0 w : World} (h : Bd acc a cap w0 w) : Pat acc w0.heap.size a cap w.heap.size w := by
  refine ⟨h.2, lt_of_block h.2, fun k p hk => ?_⟩
  have hlt := some_lt hk
  obtain ⟨h1, h2⟩ := h.1.own
  rcases h2 with ⟨h3, h4⟩ | ⟨g, cap', cur, h3, h4, h5, h6, h7, h8, h9⟩
  · omega
  · obtain ⟨ha, _, _⟩ := Value.slice.inj h3
    have hc : ∀ j, j < 3 → w.cell? ⟨g, k * 3 + j, none⟩ = (pcells p)[j]? := fun j hj => by
      rw [cell_of_row w g _ _ _ _ h5, ← pcells_get acc k p j hk hj, ← h9, List.getElem?_take, if_pos (by omega), Array.getElem?_toList]
    refine ⟨g, 0, ha, lt_of_block h5, ?_, ?_, ?_⟩
    · rw [Nat.zero_add]; exact (hc 0 (by omega)).trans rfl
    · rw [Nat.zero_add]; exact (hc 1 (by omega)).trans rfl
    · rw [Nat.zero_add]; exact (hc 2 (by omega)).trans rfl
end YtabojeleomfgnaaGreatDoor
end Go.Proofs
