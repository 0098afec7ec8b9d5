/- The reference: likes. Oper at a list of two: like. -/
import Derived.Test.YtabojeleomfgnaaGreatDoorLq2
import Derived.Test.YtabojeleomfgnaaGreatDoorLq1
import Derived.Test.YtabojeleomfgnaaGreatDoorO1
namespace Go.Proofs
open Go.RowKit
namespace YtabojeleomfgnaaGreatDoor
set_option maxRecDepth 100000
theorem brow_made (n : Nat) : madeCells #[.bool false] n = brow (List.replicate n false) := by
  unfold brow
  rw [List.map_replicate, ← toList_madeCells_one]
theorem info4 : (Tryz.prog.info? 4).map (fun i => (i.zero, i.size, i.bytes)) = some (some (.bool false), 1, 1) := by kernel_rfl
theorem run_makeB (n : Nat) (hn : n ≤ 2000) (w : World) : (Instr.makeSlice 211 (.int .i64 ((n : Int) + 1)) (.int .i64 ((n : Int) + 1))).run Tryz.prog w = .ok (.slice (some ⟨w.heap.size, 0, none⟩) (n + 1) (n + 1)) (w.alloc (.cells (brow (List.replicate (n + 1) false)) 4)) := by
  obtain ⟨i, hi, hz0, hz1, hz2⟩ := info_parts info4
  have h := run_make (P := Tryz.prog) w 211 4 i (.bool false) Tryz.underlying211 hi hz0 .i64 .i64 ((n : Int) + 1) ((n : Int) + 1) (by omega) (Int.le_refl _) (by rw [hz2]; omega) (by omega)
  rw [h, hz1, show ((n : Int) + 1).toNat = n + 1 by omega, Nat.mul_one, ← brow_made]
  rfl
theorem wpList_makeB {ops : Array Oper} {rest : List Oper} {o : Oper} {a : Act} {w : World} {Q : Exit → Act → World → Prop} (hgd : o.guard = none) (u v : Operand) (ho : o.op = .makeSlice 211 u v) (n : Nat) (hx : a.eval u = .int .i64 ((n : Int) + 1)) (hy : a.eval v = .int .i64 ((n : Int) + 1)) (hn : n ≤ 2000)
    (h : wpList Tryz.prog ops Q rest (a.put o.dst (.slice (some ⟨w.heap.size, 0, none⟩) (n + 1) (n + 1))) (w.alloc (.cells (brow (List.replicate (n + 1) false)) 4))) : wpList Tryz.prog ops Q (o :: rest) a w :=
  wpList_plain hgd fun _ hK => by
    unfold Oper.wp execOp
    simp only [ho, hx, hy, Sem.run_bind, run_makeB n hn w, Result.andThen_ok, Sem.run_pure]
    exact hK _ _ h
/-- between two bytes: what has fitted stands in the row of g -/
structure Nw (S T : List Int) (L : Nat) (a : Option Addr) (cap B i g : Nat) (N : List Bool) (w0 w : World) : Prop where
  len : N.length = S.length + 1
  base : B ≤ g
  row : Brow g N w
  ex : Ex S N (T.drop i) ↔ Mt S T
  closed : Closed S N S.length
  pat : Pat S L a cap B w
  low : Below w0.heap.size w0 w
/-- within a byte's round, behind k pieces -/
structure Ny (S : List Int) (N X : List Bool) (c : Int) (k gx : Nat) (w1 w : World) : Prop where
  len : X.length = S.length + 1
  row : Brow gx X w
  nx : ∀ j, At X j ↔ Nx S N c k j
  keeps : Keeps gx w1 w
theorem Nw.below {S T : List Int} {L cap B i g : Nat} {a : Option Addr} {N : List Bool} {w0 w w' : World} (h : Nw S T L a cap B i g N w0 w) (hb : Below w.heap.size w w') : Nw S T L a cap B i g N w0 w' :=
  ⟨h.len, h.base, (hb.block _ (lt_of_block h.row)).trans h.row, h.ex, h.closed, h.pat.below hb, below_call h.low hb⟩
theorem Ny.alloc {S : List Int} {N X : List Bool} {c : Int} {k gx : Nat} {w1 w : World} (h : Ny S N X c k gx w1 w) (o : Obj) : Ny S N X c k gx w1 (w.alloc o) :=
  ⟨h.len, (heap_alloc_old _ _ (lt_of_block h.row)).trans h.row, h.nx, h.keeps.alloc o⟩
theorem Ny.drewN {S : List Int} {N X : List Bool} {c : Int} {k gx : Nat} {w1 w : World} (h : Ny S N X c k gx w1 w) (n : Nat) : Ny S N X c k gx w1 (w.drewN n) :=
  ⟨h.len, h.row, h.nx, ⟨h.keeps.os, h.keeps.tape, h.keeps.output, h.keeps.size, h.keeps.block⟩⟩
theorem Ny.same {S : List Int} {N X : List Bool} {c : Int} {k gx : Nat} {w1 w : World} (h : Ny S N X c k gx w1 w) (hs : ∀ j, Nx S N c (k + 1) j ↔ Nx S N c k j) : Ny S N X c (k + 1) gx w1 w := ⟨h.len, h.row, fun j => (h.nx j).trans (hs j).symm, h.keeps⟩
theorem Ny.put {S : List Int} {N X : List Bool} {c : Int} {k gx i : Nat} {w1 w w' : World} (h : Ny S N X c k gx w1 w) (hp : Puts gx ((brow X).setIfInBounds i (.bool true)) 4 w w') (hs : ∀ j, At (X.set i true) j ↔ Nx S N c (k + 1) j) : Ny S N (X.set i true) c (k + 1) gx w1 w' :=
  ⟨by simp [h.len], by unfold Brow; rw [← brow_set]; exact hp.at', hs, h.keeps.trans hp.keeps⟩
theorem below_keeps {g : Nat} {w0 w w' : World} (h : Below w0.heap.size w0 w) (hk : Keeps g w w') (hg : w0.heap.size ≤ g) : Below w0.heap.size w0 w' :=
  ⟨hk.os.trans h.os, hk.tape.trans h.tape, hk.output.trans h.output, Nat.le_trans h.size hk.size, fun k hlt => (hk.block k (Nat.lt_of_lt_of_le hlt h.size) (by omega)).trans (h.block k hlt)⟩
theorem pcells_byte (c : Int) (h : 0 ≤ c) : (#[.int .u8 c, .bool false, .bool false] : Array Value) = (pcells c).toArray := by
  have h1 : (c == -1) = false := by simp; omega
  have h2 : (c == -2) = false := by simp; omega
  unfold pcells pcOf
  rw [h1, h2, if_neg (by omega), if_neg (by omega)]
set_option maxHeartbeats 8000000 in
theorem likes_t (s p : ByteArray) (hs : s.size ≤ 1000) (hp : p.size ≤ 1000) (w : World) :
    Calls Tryz.prog 188 #[.string s, .string p] w fun e w' => e = .returned (.bool (likesB s p)) ∧ Below w.heap.size w w' := by
  have HB : Hid (Bd [] none 0 w (w.alloc (.cells #[.slice none 0 0] 208))) := Lib.hid ⟨⟨World.ownsRow_nil _ _ _ _, ⟨_, heap_alloc_new w _⟩, by go_grown⟩, heap_alloc_new w _⟩
  have HS : Hid (stepsOf (bytesOf p) = [] ++ stepsOf ((bytesOf p).drop 0)) := Lib.hid rfl
  go_enter Tryz.func188, Tryz.ntmps188
  go_wp2_with fail
  go_loopw [6] (fun x wr => ∃ (i : Nat) (acc : List Int) (a : Option Addr) (cap : Nat), x = .int .i64 i ∧ i ≤ p.size ∧ acc.length ≤ i ∧ Hid (stepsOf (bytesOf p) = acc ++ stepsOf ((bytesOf p).drop i)) ∧ Hid (Bd acc a cap w wr)) (fun x _ => p.size - (intOf x).toNat)
  case atStart => exact ⟨0, [], none, 0, rfl, Nat.zero_le _, Nat.zero_le _, HS, HB⟩
  case round =>
    clear HB HS
    obtain ⟨i, acc, a, cap, rfl, hi0, hacc, HS, HB⟩ := hrel
    have hlt : w.heap.size < wr.heap.size := lt_of_block HB.out.2
    have h0 : wr.cell? ⟨w.heap.size, 0, none⟩ = some (.slice a acc.length cap) := (cell_of_row wr _ 0 _ _ _ HB.out.2).trans rfl
    by_cases hi : i < p.size
    · have HC := Lib.hid (bytesOf_some hi)
      have hc8 : p[i].toNat < 256 := p[i].toNat_lt
      obtain ⟨c, hcs⟩ : ∃ c : Int, ((p[i].toNat : Nat) : Int) = c := ⟨_, rfl⟩
      have hc0 : 0 ≤ c := by omega
      have hc1 : c ≤ 255 := by omega
      rw [hcs] at HC
      clear hc8
      by_cases h3 : c = 92
      · have q3 : (c == 92) = true := by simpa using h3
        by_cases h4 : i + 1 < p.size
        · have HD := Lib.hid (bytesOf_some h4)
          have hd8 : p[i + 1].toNat < 256 := p[i + 1].toNat_lt
          obtain ⟨d, hds⟩ : ∃ d : Int, ((p[i + 1].toNat : Nat) : Int) = d := ⟨_, rfl⟩
          have hd0 : 0 ≤ d := by omega
          have hd1 : d ≤ 255 := by omega
          rw [hds] at HD
          rw [h3] at HC
          have HE : Hid (stepsOf ((bytesOf p).drop i) = d :: stepsOf ((bytesOf p).drop (i + 2))) := Lib.hid (steps_esc HC.out HD.out)
          have HCS : Hid ((#[.int .u8 d, .bool false, .bool false] : Array Value) = (pcells d).toArray) := Lib.hid (pcells_byte d hd0)
          clear hd8 h3
          go_wp2_with fail
          refine wp_region_held_drew (S := fun _ => True) (by kernel_rfl) trivial ?_
          intro hS
          have BD : Hid (Bd acc a cap w wr.drew) := Lib.hid ⟨HB.out.1.drew, HB.out.2⟩
          have hld : w.heap.size < wr.drew.heap.size := hlt
          clear h0 HB hlt
          generalize wr.drew = wd at BD hld ⊢
          refine wpAnyH_take (i := 1) (oi := ⟨some 43, _, _, _, _, _⟩) (v := .string p) rfl (by kernel_rfl) (by kernel_rfl) (by kernel_rfl) (fun _ _ _ h => h) (Or.inl ⟨rfl, fun w' h => by go_simp⟩) hS ?_
          simp only [Act.put, List.setIfInBounds_toArray, List.set_cons_zero, List.set_cons_succ]
          refine wpAnyH_take (i := 2) (oi := ⟨some 44, _, _, _, _, _⟩) (v := .int .i64 ((i : Int) + 1)) rfl (by kernel_rfl) (by kernel_rfl) (by kernel_rfl) (fun _ _ _ h => h) (Or.inl ⟨rfl, fun w' h => by go_simp⟩) hS ?_
          simp only [Act.put, List.setIfInBounds_toArray, List.set_cons_zero, List.set_cons_succ]
          refine wpAnyH_take (i := 3) (oi := ⟨some 45, _, _, _, _, _⟩) (v := .int .u8 d) rfl (by kernel_rfl) (by kernel_rfl) (by kernel_rfl) (fun _ _ _ h => h) (Or.inl ⟨rfl, fun w' h => by (have hn0 : ¬ ((i : Int) + 1 < 0) := by omega); go_simp⟩) hS ?_
          simp only [Act.put, List.setIfInBounds_toArray, List.set_cons_zero, List.set_cons_succ]
          refine wpAnyH_take (i := 4) (oi := ⟨some 46, _, _, _, _, _⟩) (v := .agg #[.int .u8 d, .bool false, .bool false]) rfl (by kernel_rfl) (by kernel_rfl) (by kernel_rfl) (fun _ _ _ h => h) (Or.inl ⟨rfl, fun w' h => by go_simp⟩) hS ?_
          simp only [Act.put, List.setIfInBounds_toArray, List.set_cons_zero, List.set_cons_succ]
          refine wpAnyH_ready (rs := [0, 5]) (by kernel_rfl) (by simp) ?_
          refine AllReadyH.cons rfl (fun K0 hK => ?_) (AllReadyH.cons rfl (fun K0 hK => ?_) AllReadyH.nil)
          · have c0 : wd.cell? ⟨w.heap.size, 0, none⟩ = some (.slice a acc.length cap) := (cell_of_row wd _ 0 _ _ _ (BD.out.2)).trans rfl
            go_simp
            clear c0
            refine hK.out _ _ trivial ?_
            clear hK K0
            intro hS
            try simp only [Act.put, List.setIfInBounds_toArray, List.set_cons_zero, List.set_cons_succ]
            refine wpAnyH_ready (rs := [5]) (by kernel_rfl) (by simp) ?_
            refine AllReadyH.cons rfl (fun K0 hK => ?_) AllReadyH.nil
            go_simp
            refine hK.out _ _ trivial ?_
            clear hK K0
            intro hS
            try simp only [Act.put, List.setIfInBounds_toArray, List.set_cons_zero, List.set_cons_succ]
            refine wpAnyH_ready (rs := [6]) (by kernel_rfl) (by simp) ?_
            refine AllReadyH.cons rfl (fun K0 hK => ?_) AllReadyH.nil
            rw [if_pos (by rfl)]
            refine wp_pushP (.tmp 42) (.tmp 47) rfl w wd.heap.size 1 acc _ d rfl (BD.out.1.alloc _) rfl _ HCS.out (heap_alloc_new wd _) (by omega) ?_
            intro b' cap' w1 h1 h2
            have HA := Lib.hid h1
            have HH := Lib.hid (h2 _ ((heap_alloc_old _ _ hld).trans BD.out.2))
            clear h1 h2
            refine hK.out _ _ trivial ?_
            clear hK K0
            intro hS
            try simp only [Act.put, List.setIfInBounds_toArray]
            refine wpAnyH_ready (rs := [7]) (by kernel_rfl) (by simp) ?_
            refine AllReadyH.cons rfl (fun K0 hK => ?_) AllReadyH.nil
            rw [if_pos (by rfl)]
            refine wp_store_slice (.tmp 5) (.tmp 48) rfl w.heap.size (some ⟨b', 0, none⟩) (acc.length + 1) cap' rfl rfl _ HH.out ?_
            intro w2 hp
            have HD := Lib.hid (Bd.of HA.out hp)
            clear hp
            refine hK.out _ _ trivial ?_
            clear hK K0
            intro hS
            try simp only [Act.put]
            refine wpAnyH_done (by kernel_rfl) ?_ _
            go_wp2_with fail
            have HS2 : Hid (stepsOf (bytesOf p) = (acc ++ [d]) ++ stepsOf ((bytesOf p).drop (i + 2))) := Lib.hid (by rw [HS.out, HE.out]; simp)
            go_roundw
            case rel => exact ⟨i + 2, acc ++ [d], _, _, by go_num, by omega, by simp; omega, HS2, HD⟩
            case measure => simp [intOf]; omega
          · go_simp
            refine hK.out _ _ trivial ?_
            clear hK K0
            intro hS
            try simp only [Act.put, List.setIfInBounds_toArray, List.set_cons_zero, List.set_cons_succ]
            refine wpAnyH_ready (rs := [0]) (by kernel_rfl) (by simp) ?_
            refine AllReadyH.cons rfl (fun K0 hK => ?_) AllReadyH.nil
            have c0 : (wd.alloc (.cells #[.int .u8 d, .bool false, .bool false] 210)).cell? ⟨w.heap.size, 0, none⟩ = some (.slice a acc.length cap) := (cell_of_row (wd.alloc (.cells #[.int .u8 d, .bool false, .bool false] 210)) _ 0 _ _ _ ((heap_alloc_old _ _ hld).trans BD.out.2)).trans rfl
            go_simp
            clear c0
            refine hK.out _ _ trivial ?_
            clear hK K0
            intro hS
            try simp only [Act.put, List.setIfInBounds_toArray, List.set_cons_zero, List.set_cons_succ]
            refine wpAnyH_ready (rs := [6]) (by kernel_rfl) (by simp) ?_
            refine AllReadyH.cons rfl (fun K0 hK => ?_) AllReadyH.nil
            rw [if_pos (by rfl)]
            refine wp_pushP (.tmp 42) (.tmp 47) rfl w wd.heap.size 1 acc _ d rfl (BD.out.1.alloc _) rfl _ HCS.out (heap_alloc_new wd _) (by omega) ?_
            intro b' cap' w1 h1 h2
            have HA := Lib.hid h1
            have HH := Lib.hid (h2 _ ((heap_alloc_old _ _ hld).trans BD.out.2))
            clear h1 h2
            refine hK.out _ _ trivial ?_
            clear hK K0
            intro hS
            try simp only [Act.put, List.setIfInBounds_toArray]
            refine wpAnyH_ready (rs := [7]) (by kernel_rfl) (by simp) ?_
            refine AllReadyH.cons rfl (fun K0 hK => ?_) AllReadyH.nil
            rw [if_pos (by rfl)]
            refine wp_store_slice (.tmp 5) (.tmp 48) rfl w.heap.size (some ⟨b', 0, none⟩) (acc.length + 1) cap' rfl rfl _ HH.out ?_
            intro w2 hp
            have HD := Lib.hid (Bd.of HA.out hp)
            clear hp
            refine hK.out _ _ trivial ?_
            clear hK K0
            intro hS
            try simp only [Act.put]
            refine wpAnyH_done (by kernel_rfl) ?_ _
            go_wp2_with fail
            have HS2 : Hid (stepsOf (bytesOf p) = (acc ++ [d]) ++ stepsOf ((bytesOf p).drop (i + 2))) := Lib.hid (by rw [HS.out, HE.out]; simp)
            go_roundw
            case rel => exact ⟨i + 2, acc ++ [d], _, _, by go_num, by omega, by simp; omega, HS2, HD⟩
            case measure => simp [intOf]; omega
        · have HE : Hid (stepsOf ((bytesOf p).drop i) = c :: stepsOf ((bytesOf p).drop (i + 1))) := Lib.hid (by rw [steps_next HC.out (Or.inr (by rw [bytesOf_length]; omega))]; unfold one; rw [if_neg (by omega), if_neg (by omega)])
          have HCS : Hid ((#[.int .u8 c, .bool false, .bool false] : Array Value) = (pcells c).toArray) := Lib.hid (pcells_byte c hc0)
          have q1 : (c == 37) = false := by simp; omega
          have q2 : (c == 95) = false := by simp; omega
          clear h3
          go_wp2_with (first | (at_builtin; go_must (refine wpList_pushP rfl (.tmp 23) (.tmp 28) rfl w wr.heap.size 1 acc _ (c) rfl (HB.out.1.alloc _) rfl (#[.int .u8 c, .bool false, .bool false]) HCS.out (heap_alloc_new wr _) (by omega) ?_); intro b' cap' w1 h1 h2; have HA := Lib.hid h1; have HH := Lib.hid (h2 _ ((heap_alloc_old _ _ hlt).trans HB.out.2)); clear h1 h2) | (refine wpList_store_slice rfl (.tmp 5) (.tmp 29) rfl w.heap.size (some ⟨b', 0, none⟩) (acc.length + 1) cap' rfl rfl _ HH.out ?_; intro w2 hp; have HD := Lib.hid (Bd.of HA.out hp); clear hp))
          have HS2 : Hid (stepsOf (bytesOf p) = (acc ++ [c]) ++ stepsOf ((bytesOf p).drop (i + 1))) := Lib.hid (by rw [HS.out, HE.out]; simp)
          go_roundw
          case rel => exact ⟨i + 1, acc ++ [c], _, _, by go_num, by omega, by simp; omega, HS2, HD⟩
          case measure => simp [intOf]; omega
      · have q3 : (c == 92) = false := by simpa using h3
        by_cases h1 : c = 37
        · have HE : Hid (stepsOf ((bytesOf p).drop i) = -1 :: stepsOf ((bytesOf p).drop (i + 1))) := Lib.hid (by rw [steps_next HC.out (Or.inl h3)]; unfold one; rw [if_pos h1])
          have HCS : Hid ((#[.int .u8 0, .bool true, .bool false] : Array Value) = (pcells (-1)).toArray) := Lib.hid rfl
          have q1 : (c == 37) = true := by simpa using h1
          clear h1 h3
          go_wp2_with (first | (at_builtin; go_must (refine wpList_pushP rfl (.tmp 52) (.tmp 54) rfl w wr.heap.size 1 acc _ (-1) rfl (HB.out.1.alloc _) rfl (#[.int .u8 0, .bool true, .bool false]) HCS.out (heap_alloc_new wr _) (by omega) ?_); intro b' cap' w1 h1 h2; have HA := Lib.hid h1; have HH := Lib.hid (h2 _ ((heap_alloc_old _ _ hlt).trans HB.out.2)); clear h1 h2) | (refine wpList_store_slice rfl (.tmp 5) (.tmp 55) rfl w.heap.size (some ⟨b', 0, none⟩) (acc.length + 1) cap' rfl rfl _ HH.out ?_; intro w2 hp; have HD := Lib.hid (Bd.of HA.out hp); clear hp))
          have HS2 : Hid (stepsOf (bytesOf p) = (acc ++ [-1]) ++ stepsOf ((bytesOf p).drop (i + 1))) := Lib.hid (by rw [HS.out, HE.out]; simp)
          go_roundw
          case rel => exact ⟨i + 1, acc ++ [-1], _, _, by go_num, by omega, by simp; omega, HS2, HD⟩
          case measure => simp [intOf]; omega
        · have q1 : (c == 37) = false := by simpa using h1
          by_cases h2 : c = 95
          · have HE : Hid (stepsOf ((bytesOf p).drop i) = -2 :: stepsOf ((bytesOf p).drop (i + 1))) := Lib.hid (by rw [steps_next HC.out (Or.inl h3)]; unfold one; rw [if_neg h1, if_pos h2])
            have HCS : Hid ((#[.int .u8 c, .bool false, .bool true] : Array Value) = (pcells (-2)).toArray) := Lib.hid (by rw [h2]; rfl)
            have q2 : (c == 95) = true := by simpa using h2
            clear h1 h2 h3
            go_wp2_with (first | (at_builtin; go_must (refine wpList_pushP rfl (.tmp 23) (.tmp 28) rfl w wr.heap.size 1 acc _ (-2) rfl (HB.out.1.alloc _) rfl (#[.int .u8 c, .bool false, .bool true]) HCS.out (heap_alloc_new wr _) (by omega) ?_); intro b' cap' w1 h1 h2; have HA := Lib.hid h1; have HH := Lib.hid (h2 _ ((heap_alloc_old _ _ hlt).trans HB.out.2)); clear h1 h2) | (refine wpList_store_slice rfl (.tmp 5) (.tmp 29) rfl w.heap.size (some ⟨b', 0, none⟩) (acc.length + 1) cap' rfl rfl _ HH.out ?_; intro w2 hp; have HD := Lib.hid (Bd.of HA.out hp); clear hp))
            have HS2 : Hid (stepsOf (bytesOf p) = (acc ++ [-2]) ++ stepsOf ((bytesOf p).drop (i + 1))) := Lib.hid (by rw [HS.out, HE.out]; simp)
            go_roundw
            case rel => exact ⟨i + 1, acc ++ [-2], _, _, by go_num, by omega, by simp; omega, HS2, HD⟩
            case measure => simp [intOf]; omega
          · have HE : Hid (stepsOf ((bytesOf p).drop i) = c :: stepsOf ((bytesOf p).drop (i + 1))) := Lib.hid (by rw [steps_next HC.out (Or.inl h3)]; unfold one; rw [if_neg h1, if_neg h2])
            have HCS : Hid ((#[.int .u8 c, .bool false, .bool false] : Array Value) = (pcells c).toArray) := Lib.hid (pcells_byte c hc0)
            have q2 : (c == 95) = false := by simpa using h2
            clear h1 h2 h3
            go_wp2_with (first | (at_builtin; go_must (refine wpList_pushP rfl (.tmp 23) (.tmp 28) rfl w wr.heap.size 1 acc _ (c) rfl (HB.out.1.alloc _) rfl (#[.int .u8 c, .bool false, .bool false]) HCS.out (heap_alloc_new wr _) (by omega) ?_); intro b' cap' w1 h1 h2; have HA := Lib.hid h1; have HH := Lib.hid (h2 _ ((heap_alloc_old _ _ hlt).trans HB.out.2)); clear h1 h2) | (refine wpList_store_slice rfl (.tmp 5) (.tmp 29) rfl w.heap.size (some ⟨b', 0, none⟩) (acc.length + 1) cap' rfl rfl _ HH.out ?_; intro w2 hp; have HD := Lib.hid (Bd.of HA.out hp); clear hp))
            have HS2 : Hid (stepsOf (bytesOf p) = (acc ++ [c]) ++ stepsOf ((bytesOf p).drop (i + 1))) := Lib.hid (by rw [HS.out, HE.out]; simp)
            go_roundw
            case rel => exact ⟨i + 1, acc ++ [c], _, _, by go_num, by omega, by simp; omega, HS2, HD⟩
            case measure => simp [intOf]; omega
    · have HD : Hid (stepsOf (bytesOf p) = acc) := Lib.hid (by rw [HS.out, List.drop_eq_nil_of_le (by rw [bytesOf_length]; omega), stepsOf, List.append_nil])
      have hn : acc.length ≤ 1000 := by omega
      have HPT := Lib.hid HB.out.pat
      have HLW := Lib.hid HB.out.1.low
      clear HB HS hacc hi0
      go_wp2_with (first | (refine wpList_makeB rfl (.tmp 58) (.tmp 58) rfl acc.length rfl rfl (by omega) ?_) | (refine store_bool rfl (.tmp 61) (.const (.bool true)) rfl wr.heap.size 0 true rfl rfl (brow (List.replicate (acc.length + 1) false)) 4 (heap_alloc_new wr _) (by simp [brow_size]) ?_; intro w1 hp; have HP1 := Lib.hid hp; clear hp))
      have hk1 := (Keeps.of_below ((Below.refl wr.heap.size wr).alloc (Nat.le_refl _) (.cells (brow (List.replicate (acc.length + 1) false)) 4))).trans (p := wr.heap.size) HP1.out.keeps
      have HK1 := Lib.hid hk1
      clear hk1
      refine (skip_t acc ((List.replicate (acc.length + 1) false).set 0 true) w.heap.size wr.heap.size a cap wr.heap.size (acc.length + 1) hn (by simp) (Nat.le_refl _) w1 (HPT.out.keeps (Nat.le_refl _) HK1.out) (by unfold Brow; rw [← brow_set]; exact HP1.out.at')).mono ?_
      rintro e w2 ⟨rfl, M, hM⟩
      have HN : Hid (Nw acc (bytesOf s) w.heap.size a cap wr.heap.size 0 wr.heap.size M w w2) := Lib.hid ⟨hM.len, Nat.le_refl _, hM.row, (hM.ex _).trans (ex_start _ _ _), hM.closed, hM.pat, below_keeps (HLW.out) (HK1.out.trans hM.keeps) HLW.out.size⟩
      clear hM HK1 HP1 HPT HLW h0
      go_wp2_with fail
      generalize wr.heap.size = B at HN
      go_loopw [8, 10] (fun v x wr => ∃ (i g : Nat) (N : List Bool), v = .slice (some ⟨g, 0, none⟩) (acc.length + 1) (acc.length + 1) ∧ x = .int .i64 i ∧ i ≤ s.size ∧ Hid (Nw acc (bytesOf s) w.heap.size a cap B i g N w wr)) (fun _ x _ => s.size - (intOf x).toNat)
      case atStart => exact ⟨0, _, M, rfl, rfl, Nat.zero_le _, HN⟩
      case round =>
        clear HN
        obtain ⟨i, g, N, rfl, rfl, hi0, hN⟩ := hrel
        have h0 : wr.cell? ⟨w.heap.size, 0, none⟩ = some (.slice a acc.length cap) := (cell_of_row wr _ 0 _ _ _ hN.out.pat.1).trans rfl
        have hl0 : w.heap.size < wr.heap.size := lt_of_block hN.out.pat.1
        by_cases hi : i < s.size
        · have HC := Lib.hid (bytesOf_some hi)
          have hc8 : s[i].toNat < 256 := s[i].toNat_lt
          obtain ⟨c, hcs⟩ : ∃ c : Int, ((s[i].toNat : Nat) : Int) = c := ⟨_, rfl⟩
          rw [hcs] at HC
          clear hc8
          go_wp2_with (refine wpList_makeB rfl (.tmp 74) (.tmp 74) rfl acc.length rfl rfl (by omega) ?_)
          have Y0 : Hid (Ny acc N (List.replicate (acc.length + 1) false) c 0 wr.heap.size (wr.alloc (.cells (brow (List.replicate (acc.length + 1) false)) 4)) (wr.alloc (.cells (brow (List.replicate (acc.length + 1) false)) 4))) := Lib.hid ⟨by simp, heap_alloc_new wr _, nx_start _ _ _ _, Keeps.refl _ _⟩
          have N1 := Lib.hid (hN.out.below ((Below.refl wr.heap.size wr).alloc (Nat.le_refl _) (.cells (brow (List.replicate (acc.length + 1) false)) 4)))
          have hggx : g < wr.heap.size := lt_of_block hN.out.row
          have hBx : B ≤ wr.heap.size := by have := hN.out.base; omega
          clear hN h0
          generalize wr.alloc (.cells (brow (List.replicate (acc.length + 1) false)) 4) = w1 at Y0 N1 ⊢
          generalize wr.heap.size = gx at Y0 hggx hBx hl0 ⊢
          go_loopw [78] (fun y wq => ∃ (k : Nat) (X : List Bool), y = .int .i64 k ∧ k ≤ acc.length ∧ Hid (Ny acc N X c k gx w1 wq)) (fun y _ => acc.length - (intOf y).toNat)
          case atStart => exact ⟨0, _, rfl, Nat.zero_le _, Y0⟩
          case round =>
            clear Y0
            obtain ⟨k, X, rfl, hk, hY⟩ := hrel
            have PQ := Lib.hid (N1.out.pat.keeps hBx hY.out.keeps)
            have RQ : Hid (Brow g N wr) := Lib.hid ((hY.out.keeps.block g (lt_of_block N1.out.row) (by omega)).trans N1.out.row)
            by_cases hkn : k < acc.length
            · obtain ⟨q, hq⟩ := lt_some hkn
              obtain ⟨x, hx⟩ := get_some (show k < N.length by rw [N1.out.len]; omega)
              obtain ⟨b, o, rfl, hbB, x0, x1, x2⟩ := PQ.out.2.2 k q hq
              have cx := RQ.out.cell hx
              have bl : b < wr.heap.size := block_lt_of_cell x0
              have gl : g < wr.heap.size := lt_of_block RQ.out
              have gxl : gx < wr.heap.size := lt_of_block hY.out.row
              have hsz1 : k < (brow X).size := by rw [brow_size, hY.out.len]; omega
              have hsz2 : k + 1 < (brow X).size := by rw [brow_size, hY.out.len]; omega
              have HX : Hid (At N k ↔ x = true) := Lib.hid (by unfold At; rw [hx]; simp)
              have HQ := Lib.hid hq
              clear hx hq
              cases x with
              | false =>
                obtain ⟨e1, he1⟩ : ∃ e1, (q == -1) = e1 := ⟨_, rfl⟩
                rw [he1] at x1
                obtain ⟨e2, he2⟩ : ∃ e2, (q == -2) = e2 := ⟨_, rfl⟩
                rw [he2] at x2
                obtain ⟨d, hd⟩ : ∃ d, pcOf q = d := ⟨_, rfl⟩
                rw [hd] at x0
                clear he1 he2 hd
                have HNX := Lib.hid (nx_same (S := acc) (N := N) (c := c) (k := k) (Or.inl (fun h => Bool.false_ne_true (HX.out.1 h))))
                go_wp2_with fail
                go_quiet (fail)
                go_wp2_with fail
                go_roundw
                case rel => exact ⟨k + 1, X, by go_num, by omega, Lib.hid (((hY.out.same HNX.out).alloc _).drewN _)⟩
                case measure => simp [intOf]; omega
              | true =>
                by_cases h1 : q = -1
                · obtain ⟨e2, he2⟩ : ∃ e2, (q == -2) = e2 := ⟨_, rfl⟩
                  rw [he2] at x2
                  obtain ⟨d, hd⟩ : ∃ d, pcOf q = d := ⟨_, rfl⟩
                  rw [hd] at x0
                  have q1 : (q == -1) = true := by simpa using h1
                  rw [q1] at x1
                  have HNX := Lib.hid (nx_any (by rw [hY.out.len]; omega) (HX.out.2 rfl) (by rw [HQ.out, h1]) hY.out.nx)
                  clear he2 hd q1 h1
                  go_wp2_with (refine store_bool rfl (.tmp 93) (.const (.bool true)) rfl gx k true rfl rfl (brow X) 4 ((heap_alloc_old _ _ gxl).trans hY.out.row) hsz1 ?_; intro w3 hp; have HP := Lib.hid hp; clear hp; have cx3 : w3.cell? ⟨g, k, none⟩ = some (.bool true) := (cell_kept HP.out.keeps (by omega) (by simp only [World.size_alloc]; omega)).trans ((World.cell?_of_block (a := ⟨g, k, none⟩) (heap_alloc_old _ _ gl)).trans cx); have hn3 : w3.heap[wr.heap.size]? = some (.cells #[.int .u8 d, .bool true, .bool e2] 210 (0, 0)) := (HP.out.keeps.block wr.heap.size (by simp) (by omega)).trans (heap_alloc_new wr _); have y0 : w3.cell? ⟨wr.heap.size, 0, none⟩ = some (.int .u8 d) := (cell_of_row w3 _ 0 _ _ _ hn3).trans rfl; have y1 : w3.cell? ⟨wr.heap.size, 1, none⟩ = some (.bool true) := (cell_of_row w3 _ 1 _ _ _ hn3).trans rfl; have y2 : w3.cell? ⟨wr.heap.size, 2, none⟩ = some (.bool e2) := (cell_of_row w3 _ 2 _ _ _ hn3).trans rfl)
                  go_quiet (fail)
                  go_wp2_with fail
                  go_roundw
                  case rel => exact ⟨k + 1, X.set k true, by go_num, by omega, Lib.hid (((hY.out.alloc _).put HP.out HNX.out).drewN _)⟩
                  case measure => simp [intOf]; omega
                · by_cases h2 : q = -2
                  · have q1 : (q == -1) = false := by simpa using h1
                    rw [q1] at x1
                    have q2 : (q == -2) = true := by simpa using h2
                    rw [q2] at x2
                    obtain ⟨d, hd⟩ : ∃ d, pcOf q = d := ⟨_, rfl⟩
                    rw [hd] at x0
                    have HNX := Lib.hid (nx_fit (c := c) (by rw [hY.out.len]; omega) (HX.out.2 rfl) HQ.out h1 (Or.inl h2) hY.out.nx)
                    clear hd q1 q2 h1 h2
                    go_wp2_with fail
                    go_quiet (fail)
                    go_wp2_with (refine store_bool rfl (.tmp 118) (.const (.bool true)) rfl gx (k + 1) true rfl rfl (brow X) 4 ((heap_alloc_old _ _ gxl).trans hY.out.row) hsz2 ?_; intro w3 hp; have HP := Lib.hid hp; clear hp)
                    try simp only [Act.put]
                    go_roundw
                    case rel => exact ⟨k + 1, X.set (k + 1) true, by go_num, by omega, Lib.hid (((hY.out.alloc _).drewN _).put HP.out HNX.out)⟩
                    case measure => simp [intOf]; omega
                  · by_cases h3 : q = c
                    · have q1 : (q == -1) = false := by simpa using h1
                      rw [q1] at x1
                      have q2 : (q == -2) = false := by simpa using h2
                      rw [q2] at x2
                      have hd : pcOf q = q := by unfold pcOf; rw [if_neg h1, if_neg h2]
                      rw [hd] at x0
                      have q3 : (q == c) = true := by simpa using h3
                      have HNX := Lib.hid (nx_fit (c := c) (by rw [hY.out.len]; omega) (HX.out.2 rfl) HQ.out h1 (Or.inr h3) hY.out.nx)
                      clear hd q1 q2 h1 h2 h3
                      go_wp2_with fail
                      go_quiet (fail)
                      go_wp2_with (refine store_bool rfl (.tmp 118) (.const (.bool true)) rfl gx (k + 1) true rfl rfl (brow X) 4 ((heap_alloc_old _ _ gxl).trans hY.out.row) hsz2 ?_; intro w3 hp; have HP := Lib.hid hp; clear hp)
                      try simp only [Act.put]
                      go_roundw
                      case rel => exact ⟨k + 1, X.set (k + 1) true, by go_num, by omega, Lib.hid (((hY.out.alloc _).drewN _).put HP.out HNX.out)⟩
                      case measure => simp [intOf]; omega
                    · have q1 : (q == -1) = false := by simpa using h1
                      rw [q1] at x1
                      have q2 : (q == -2) = false := by simpa using h2
                      rw [q2] at x2
                      have hd : pcOf q = q := by unfold pcOf; rw [if_neg h1, if_neg h2]
                      rw [hd] at x0
                      have q3 : (q == c) = false := by simpa using h3
                      have HNX := Lib.hid (nx_same (S := acc) (N := N) (c := c) (k := k) (Or.inr ⟨q, HQ.out, h1, fun h => h.elim h2 h3⟩))
                      clear hd q1 q2 h1 h2 h3
                      go_wp2_with fail
                      go_quiet (fail)
                      go_wp2_with fail
                      go_roundw
                      case rel => exact ⟨k + 1, X, by go_num, by omega, Lib.hid (((hY.out.same HNX.out).alloc _).drewN _)⟩
                      case measure => simp [intOf]; omega
            · obtain rfl : k = acc.length := by omega
              refine ?_
              go_wp2_with fail
              refine (skip_t acc X w.heap.size gx a cap B (acc.length + 1) hn hY.out.len hBx wr PQ.out hY.out.row).mono ?_
              rintro e w5 ⟨rfl, M', hM⟩
              have HN2 : Hid (Nw acc (bytesOf s) w.heap.size a cap B (i + 1) gx M' w w5) := Lib.hid ⟨hM.len, hBx, hM.row, (hM.ex _).trans ((ex_step HC.out N1.out.closed hY.out.nx).trans N1.out.ex), hM.closed, hM.pat, below_keeps N1.out.low (hY.out.keeps.trans hM.keeps) (by omega)⟩
              clear hM hY N1 PQ RQ
              go_wp2_with fail
              go_roundw
              case rel => exact ⟨i + 1, gx, M', rfl, by go_num, by omega, HN2⟩
              case measure => simp [intOf]; omega
        · obtain ⟨x, hx⟩ := get_some (show acc.length < N.length by rw [hN.out.len]; omega)
          have cx := hN.out.row.cell hx
          have HX : Hid (x = likesB s p) := Lib.hid (by
            have h1 := ex_end (T := bytesOf s) hN.out.closed hN.out.len
            have h2 := hN.out.ex
            rw [show i = (bytesOf s).length by rw [bytesOf_length]; omega] at h2
            unfold likesB
            rw [HD.out, Bool.eq_iff_iff, mtB_iff, ← h2, h1]
            unfold At
            rw [hx]
            simp)
          have LW := Lib.hid hN.out.low
          clear hN hx
          go_wp2_with fail
          go_ret
          exact ⟨by rw [← HX.out]; rfl, LW.out⟩
end YtabojeleomfgnaaGreatDoor
end Go.Proofs
namespace Go.Proofs
open Go.RowKit
namespace YtabojeleomfgnaaGreatDoor
set_option maxRecDepth 100000
def In4k (x y z : V3) (w0 w : World) : Prop :=
  w.heap[w0.heap.size]? = some (.cells (cells x) 23 (0, 0)) ∧ w.heap[w0.heap.size + 1]? = some (.cells (cells y) 23 (0, 0)) ∧ w.heap[w0.heap.size + 2]? = some (.cells (cells z) 23 (0, 0)) ∧ w.heap[w0.heap.size + 3]? = some (.cells (cells nullT) 23 (0, 0)) ∧ Below w0.heap.size w0 w
theorem In4k.below {x y z : V3} {w0 w w' : World} (h : In4k x y z w0 w) (hb : Below w.heap.size w w') : In4k x y z w0 w' :=
  ⟨(hb.block _ (lt_of_block h.1)).trans h.1, (hb.block _ (lt_of_block h.2.1)).trans h.2.1, (hb.block _ (lt_of_block h.2.2.1)).trans h.2.2.1, (hb.block _ (lt_of_block h.2.2.2.1)).trans h.2.2.2.1, below_call h.2.2.2.2 hb⟩
theorem In4k.made (x y z : V3) (w : World) : In4k x y z w ((((w.alloc (.cells (cells x) 23)).alloc (.cells (cells y) 23)).alloc (.cells (cells z) 23)).alloc (.cells (cells nullT) 23)) := by
  refine ⟨?_, ?_, ?_, new_at _ _ _ (by simp), by go_grown⟩
  · exact (heap_alloc_old _ _ (by simp only [World.size_alloc]; omega)).trans ((heap_alloc_old _ _ (by simp only [World.size_alloc]; omega)).trans ((heap_alloc_old _ _ (by simp)).trans (heap_alloc_new w _)))
  · exact (heap_alloc_old _ _ (by simp only [World.size_alloc]; omega)).trans ((heap_alloc_old _ _ (by simp)).trans (new_at _ _ _ (by simp)))
  · exact (heap_alloc_old _ _ (by simp)).trans (new_at _ _ _ (by simp))
set_option maxHeartbeats 2000000 in
theorem texts19 (x y z : V3) (hx : Right x) (hy : Right y) (w : World) : Calls Tryz.prog 119 #[.int .i64 19, toV x, toV y, toV z] w fun e w' => e = .returned (toV (likeT x y)) ∧ Below w.heap.size w w' := by
  have RX := Lib.hid hx.bounds
  have RY := Lib.hid hy.bounds
  have HE := Lib.hid (show likeT x y = likeT x y from rfl)
  generalize hR : likeT x y = R at HE ⊢
  clear HE hx hy
  by_cases hk : x.1 = 3
  · by_cases hl : y.1 = 3
    · have HN : Hid (R = boolT (likesB x.2.2 y.2.2)) := Lib.hid (by rw [← hR]; unfold likeT; simp [okB, hk, hl])
      clear hR
      obtain ⟨ka, na, sa⟩ := x
      obtain ⟨kb, nb, sb⟩ := y
      dsimp only at hk hl RX RY HN
      subst hk hl
      have CL := Lib.hid (fun w => likes_t sa sb (by have := RX.out.2.2.2.2; omega) (by have := RY.out.2.2.2.2; omega) w)
      generalize likesB sa sb = B at HN CL
      clear RX RY
      obtain ⟨kc, nc, sc⟩ := z
      change Calls Tryz.prog 119 #[.int .i64 19, val 3 na sa, val 3 nb sb, val kc nc sc] w _
      have I0 : Hid (In4k (3, na, sa) (3, nb, sb) (kc, nc, sc) w ((((w.alloc (.cells (cells (3, na, sa)) 23)).alloc (.cells (cells (3, nb, sb)) 23)).alloc (.cells (cells (kc, nc, sc)) 23)).alloc (.cells (cells nullT) 23))) := Lib.hid (In4k.made _ _ _ _)
      go_enter Tryz.func119, Tryz.ntmps119
      go_wp2_with fail
      refine (CL.out _).mono ?_
      rintro e w1 ⟨rfl, hb1⟩
      have I1 := Lib.hid (I0.out.below hb1)
      clear hb1
      go_wp2_with fail
      refine (truth_t _ _).mono ?_
      rintro e w2 ⟨rfl, hb2⟩
      have I2 := Lib.hid (I1.out.below hb2)
      clear hb2
      go_wp2_with (refine store23 rfl (.tmp 8) (.tmp 84) rfl (w.heap.size + 3) (boolT B) rfl rfl _ I2.out.2.2.2.1 ?_; intro wz hp; have HP := Lib.hid hp; clear hp)
      exact bodyPost_ret (ret23 rfl rfl HP.out.at') rfl ⟨by rw [HN.out], HP.out.low I2.out.2.2.2.2 (by omega)⟩
    · have HN : Hid (R = nullT) := Lib.hid (by rw [← hR]; unfold likeT; simp [okB, hk, hl])
      clear hR RX RY
      obtain ⟨ka, na, sa⟩ := x
      obtain ⟨kb, nb, sb⟩ := y
      dsimp only at hk hl
      subst hk
      obtain ⟨kc, nc, sc⟩ := z
      change Calls Tryz.prog 119 #[.int .i64 19, val 3 na sa, val kb nb sb, val kc nc sc] w _
      have I0 : Hid (In4k (3, na, sa) (kb, nb, sb) (kc, nc, sc) w ((((w.alloc (.cells (cells (3, na, sa)) 23)).alloc (.cells (cells (kb, nb, sb)) 23)).alloc (.cells (cells (kc, nc, sc)) 23)).alloc (.cells (cells nullT) 23))) := Lib.hid (In4k.made _ _ _ _)
      go_enter Tryz.func119, Tryz.ntmps119
      go_wp2_with (refine store23 rfl (.tmp 8) (.tmp 76) rfl (w.heap.size + 3) (nullT) rfl rfl _ I0.out.2.2.2.1 ?_; intro wz hp; have HP := Lib.hid hp; clear hp)
      exact bodyPost_ret (ret23 rfl rfl HP.out.at') rfl ⟨by rw [HN.out], HP.out.low I0.out.2.2.2.2 (by omega)⟩
  · have HN : Hid (R = nullT) := Lib.hid (by rw [← hR]; unfold likeT; simp [okB, hk])
    clear hR RX RY
    obtain ⟨ka, na, sa⟩ := x
    obtain ⟨kb, nb, sb⟩ := y
    dsimp only at hk
    obtain ⟨kc, nc, sc⟩ := z
    change Calls Tryz.prog 119 #[.int .i64 19, val ka na sa, val kb nb sb, val kc nc sc] w _
    have I0 : Hid (In4k (ka, na, sa) (kb, nb, sb) (kc, nc, sc) w ((((w.alloc (.cells (cells (ka, na, sa)) 23)).alloc (.cells (cells (kb, nb, sb)) 23)).alloc (.cells (cells (kc, nc, sc)) 23)).alloc (.cells (cells nullT) 23))) := Lib.hid (In4k.made _ _ _ _)
    go_enter Tryz.func119, Tryz.ntmps119
    go_wp2_with (refine store23 rfl (.tmp 8) (.tmp 13) rfl (w.heap.size + 3) (nullT) rfl rfl _ I0.out.2.2.2.1 ?_; intro wz hp; have HP := Lib.hid hp; clear hp)
    exact bodyPost_ret (ret23 rfl rfl HP.out.at') rfl ⟨by rw [HN.out], HP.out.low I0.out.2.2.2.2 (by omega)⟩
set_option maxHeartbeats 2000000 in
theorem oper_like (n : Int) (x y : V3) (a : Option Addr) (c : Nat) (w : World) (hc : 2 ≤ c) (h : Lst w a [x, y]) :
    Calls Tryz.prog 37 #[.int .i64 19, .int .i64 n, .slice a 2 c] w fun e w' => e = .returned (toV (likeT (clT x) (clT y))) ∧ Below w.heap.size w w' := by
  obtain ⟨b, o, rfl, x0, x1, x2, xs⟩ := h 0 (by simp)
  obtain ⟨b', o', e, y0, y1, y2, ys⟩ := h 1 (by simp)
  simp only [Option.some.injEq, Addr.mk.injEq, and_true] at e
  obtain ⟨rfl, rfl⟩ := e
  simp only [List.getElem_cons_zero, List.getElem_cons_succ] at x0 x1 x2 xs y0 y1 y2 ys
  have hlt : b < w.heap.size := block_lt_of_cell x0
  have CX := Lib.hid (fun w => right_t x xs w)
  have CY := Lib.hid (fun w => right_t y ys w)
  have RX := Lib.hid (clT_right x)
  have RY := Lib.hid (clT_right y)
  generalize clT x = X at CX RX ⊢
  generalize clT y = Y at CY RY ⊢
  obtain ⟨xk, xn, xt⟩ := x
  obtain ⟨yk, yn, yt⟩ := y
  dsimp only at x0 x1 x2 y0 y1 y2
  have X0 := Lib.hid x0
  have X1 := Lib.hid x1
  have X2 := Lib.hid x2
  have Y0 := Lib.hid y0
  have Y1 := Lib.hid y1
  have Y2 := Lib.hid y2
  clear h xs ys x0 x1 x2 y0 y1 y2
  have hc' : (2 : Int) ≤ (c : Int) := by omega
  have em : min (2 : Int) 3 = 2 := by decide
  go_enter Tryz.func37, Tryz.ntmps37
  go_wp2
  clear em
  go_loopw [21] (fun i wr => ∃ k : Nat, k ≤ 2 ∧ i = .int .i64 k ∧ Hid (Ro X Y k w wr)) (fun i _ => 2 - (intOf i).toNat)
  case atStart => exact ⟨0, by omega, rfl, Lib.hid ⟨(heap_alloc_old _ _ (by simp)).trans (heap_alloc_new w _), new_at _ _ _ (by simp), by go_grown⟩⟩
  case round =>
    obtain ⟨k, hk, rfl, hR⟩ := hrel
    have hcase : k = 0 ∨ k = 1 ∨ k = 2 := by omega
    rcases hcase with rfl | rfl | rfl
    · have x0 := (hR.out.2.2.cell (p := ⟨b, o + 0 * 3, none⟩) hlt).trans X0.out
      have x1 := (hR.out.2.2.cell (p := ⟨b, o + 0 * 3 + 1, none⟩) hlt).trans X1.out
      have x2 := (hR.out.2.2.cell (p := ⟨b, o + 0 * 3 + 2, none⟩) hlt).trans X2.out
      simp only [Nat.zero_mul, Nat.add_zero] at x0 x1 x2
      go_wp2_with fail
      refine (CX.out _).mono ?_
      rintro e w1 ⟨rfl, hb1⟩
      have R1 := Lib.hid (hR.out.below (((Below.refl _ _).alloc (Nat.le_refl _) _).trans (hb1.mono (by simp))))
      clear hb1 x0 x1 x2
      go_wp2_with (refine store_mid rfl (.tmp 29) (.tmp 28) rfl (w.heap.size + 1) 0 X rfl rfl _ _ R1.out.2.1 (by rw [PR_size]; decide) (PR_step0 X Y) ?_; intro w2 hp; have HP := Lib.hid hp; clear hp)
      have HN : Hid (Ro X Y 1 w w2) := Lib.hid ⟨(HP.out.keeps.block _ (lt_of_block R1.out.1) (by omega)).trans R1.out.1, HP.out.at', HP.out.below R1.out.2.2 (by omega)⟩
      go_roundw
      case rel => exact ⟨1, by omega, rfl, HN⟩
      case measure => simp [intOf]
    · have x0 := (hR.out.2.2.cell (p := ⟨b, o + 1 * 3, none⟩) hlt).trans Y0.out
      have x1 := (hR.out.2.2.cell (p := ⟨b, o + 1 * 3 + 1, none⟩) hlt).trans Y1.out
      have x2 := (hR.out.2.2.cell (p := ⟨b, o + 1 * 3 + 2, none⟩) hlt).trans Y2.out
      simp only [Nat.one_mul] at x0 x1 x2
      go_wp2_with fail
      refine (CY.out _).mono ?_
      rintro e w1 ⟨rfl, hb1⟩
      have R1 := Lib.hid (hR.out.below (((Below.refl _ _).alloc (Nat.le_refl _) _).trans (hb1.mono (by simp))))
      clear hb1 x0 x1 x2
      go_wp2_with (refine store_mid rfl (.tmp 29) (.tmp 28) rfl (w.heap.size + 1) 3 Y rfl rfl _ _ R1.out.2.1 (by rw [PR_size]; decide) (PR_step1 X Y) ?_; intro w2 hp; have HP := Lib.hid hp; clear hp)
      have HN : Hid (Ro X Y 2 w w2) := Lib.hid ⟨(HP.out.keeps.block _ (lt_of_block R1.out.1) (by omega)).trans R1.out.1, HP.out.at', HP.out.below R1.out.2.2 (by omega)⟩
      go_roundw
      case rel => exact ⟨2, by omega, rfl, HN⟩
      case measure => simp [intOf]
    · go_upto_region 7 with fail
      go_cut [10, 11] (fun s t wx => Six X Y s t w wx)
      case first =>
        have hS : Ro X Y 2 w wr.drew := hR.out.drew
        refine wp_region_held_drew (S := Ro X Y 2 w) (by kernel_rfl) hS ?_
        intro _
        generalize wr.drew = wd at hS ⊢
        refine wpAnyH_take (i := 0) (oi := ⟨some 31, _, _, _, _, _⟩) (v := .pointer (some ⟨w.heap.size + 1, 0, none⟩)) rfl (by kernel_rfl) (by kernel_rfl) (by kernel_rfl) (fun _ _ _ h => h) (Or.inl ⟨rfl, fun w' h => by go_simp⟩) hS ?_
        try simp only [Act.put, List.setIfInBounds_toArray, List.set_cons_zero, List.set_cons_succ]
        refine wpAnyH_take (i := 1) (oi := ⟨some 32, _, _, _, _, _⟩) (v := toV X) rfl (by kernel_rfl) (by kernel_rfl) (by kernel_rfl) (fun _ _ _ h => h) (Or.inl ⟨rfl, fun w' h => run_load_mid23 (C := Ro X Y 2 w) (.tmp 31) rfl (w.heap.size + 1) 0 X _ rfl ⟨rfl, rfl, rfl⟩ (fun _ h => h.2.1) w' h⟩) hS ?_
        try simp only [Act.put, List.setIfInBounds_toArray, List.set_cons_zero, List.set_cons_succ]
        refine wpAnyH_take (i := 2) (oi := ⟨some 33, _, _, _, _, _⟩) (v := .pointer (some ⟨w.heap.size + 1, 3, none⟩)) rfl (by kernel_rfl) (by kernel_rfl) (by kernel_rfl) (fun _ _ _ h => h) (Or.inl ⟨rfl, fun w' h => by go_simp⟩) hS ?_
        try simp only [Act.put, List.setIfInBounds_toArray, List.set_cons_zero, List.set_cons_succ]
        refine wpAnyH_take (i := 3) (oi := ⟨some 34, _, _, _, _, _⟩) (v := toV Y) rfl (by kernel_rfl) (by kernel_rfl) (by kernel_rfl) (fun _ _ _ h => h) (Or.inl ⟨rfl, fun w' h => run_load_mid23 (C := Ro X Y 2 w) (.tmp 33) rfl (w.heap.size + 1) 3 Y _ rfl ⟨rfl, rfl, rfl⟩ (fun _ h => h.2.1) w' h⟩) hS ?_
        try simp only [Act.put, List.setIfInBounds_toArray, List.set_cons_zero, List.set_cons_succ]
        have hz : w.heap.size + 1 < wd.heap.size := lt_of_block hS.2.1
        refine wpAnyH_ready (rs := [4, 5]) (by kernel_rfl) (by simp) ?_
        refine AllReadyH.cons (o := ⟨some 10, _, _, _, _, _⟩) rfl (fun K hK => ?_) ?_
        · go_simp
          refine hK.out _ _ (hS.below (by go_grown)) ?_
          clear hK K
          intro hS1
          try simp only [Act.put, List.setIfInBounds_toArray, List.set_cons_zero, List.set_cons_succ]
          refine wpAnyH_ready (rs := [5]) (by kernel_rfl) (by simp) ?_
          refine AllReadyH.cons (o := ⟨some 11, _, _, _, _, _⟩) rfl (fun K hK => ?_) AllReadyH.nil
          go_simp
          have hS2 := hS1.below (w' := ((wd.alloc (Obj.cells #[Value.int IntKind.i64 0, Value.int IntKind.i64 0, Value.string ⟨#[]⟩] 23)).alloc (Obj.cells #[Value.int IntKind.i64 0, Value.int IntKind.i64 0, Value.string ⟨#[]⟩] 23))) (by go_grown)
          refine hK.out _ _ hS2 ?_
          clear hK K hS1
          intro _
          try simp only [Act.put, List.setIfInBounds_toArray, List.set_cons_zero, List.set_cons_succ]
          have hP : ((wd.alloc (Obj.cells #[Value.int IntKind.i64 0, Value.int IntKind.i64 0, Value.string ⟨#[]⟩] 23)).alloc (Obj.cells #[Value.int IntKind.i64 0, Value.int IntKind.i64 0, Value.string ⟨#[]⟩] 23)).heap[wd.heap.size]? = some (.cells (cells nullT) 23 (0, 0)) := (heap_alloc_old _ _ (by simp)).trans (heap_alloc_new wd _)
          have hQ : ((wd.alloc (Obj.cells #[Value.int IntKind.i64 0, Value.int IntKind.i64 0, Value.string ⟨#[]⟩] 23)).alloc (Obj.cells #[Value.int IntKind.i64 0, Value.int IntKind.i64 0, Value.string ⟨#[]⟩] 23)).heap[wd.heap.size + 1]? = some (.cells (cells nullT) 23 (0, 0)) := new_at _ _ _ (by simp)
          generalize ((wd.alloc (Obj.cells #[Value.int IntKind.i64 0, Value.int IntKind.i64 0, Value.string ⟨#[]⟩] 23)).alloc (Obj.cells #[Value.int IntKind.i64 0, Value.int IntKind.i64 0, Value.string ⟨#[]⟩] 23)) = v0 at hS2 hP hQ ⊢
          clear hS
          generalize wd.heap.size = g at hz hP hQ ⊢
          refine wpAnyH_ready (rs := [6]) (by kernel_rfl) (by simp) ?_
          refine AllReadyH.cons (o := ⟨none, _, _, _, _, _⟩) rfl (fun K hK => ?_) AllReadyH.nil
          rw [if_pos (by rfl)]
          refine wp_store_row 23 (.tmp 10) (.tmp 32) rfl (g) (cells X) rfl rfl 23 (cells nullT) hP size23 rfl (by simp [Value.oneCell']) ?_
          have hP1 := puts_setRow (cells := cells X) hP
          generalize World.setRow _ (g) (cells X) = v1 at hP1 ⊢
          have hQ1 := (hP1.keeps.block _ (lt_of_block hQ) (by omega)).trans hQ
          have hS3 : Ro X Y 2 w v1 := ⟨(hP1.keeps.block _ (lt_of_block hS2.1) (by omega)).trans hS2.1, (hP1.keeps.block _ (lt_of_block hS2.2.1) (by omega)).trans hS2.2.1, hP1.below hS2.2.2 (by omega)⟩
          refine hK.out _ _ hS3 ?_
          clear hK K
          intro _
          try simp only [Act.put]
          refine wpAnyH_ready (rs := [7]) (by kernel_rfl) (by simp) ?_
          refine AllReadyH.cons (o := ⟨none, _, _, _, _, _⟩) rfl (fun K hK => ?_) AllReadyH.nil
          rw [if_pos (by rfl)]
          refine wp_store_row 23 (.tmp 11) (.tmp 34) rfl (g + 1) (cells Y) rfl rfl 23 (cells nullT) hQ1 size23 rfl (by simp [Value.oneCell']) ?_
          have hQ2 := puts_setRow (cells := cells Y) hQ1
          generalize World.setRow _ (g + 1) (cells Y) = v2 at hQ2 ⊢
          have hP2 := (hQ2.keeps.block _ (lt_of_block hP1.at') (by omega)).trans hP1.at'
          have hS4 : Ro X Y 2 w v2 := ⟨(hQ2.keeps.block _ (lt_of_block hS3.1) (by omega)).trans hS3.1, (hQ2.keeps.block _ (lt_of_block hS3.2.1) (by omega)).trans hS3.2.1, hQ2.below hS3.2.2 (by omega)⟩
          refine hK.out _ _ hS4 ?_
          clear hK K
          intro _
          try simp only [Act.put]
          refine wpAnyH_done (by kernel_rfl) ?_ _
          have HX : Hid (Six X Y (.pointer (some ⟨g, 0, none⟩)) (.pointer (some ⟨g + 1, 0, none⟩)) w v2) := Lib.hid ⟨g, g + 1, rfl, rfl, hP2, hQ2.at', by omega, by omega, hS4⟩
          clear hP hQ hP1 hQ1 hQ2 hP2 hS2 hS3 hS4
          go_wp2_with fail
          go_meet
          exact HX.out
        refine AllReadyH.cons (o := ⟨some 11, _, _, _, _, _⟩) rfl (fun K hK => ?_) ?_
        · go_simp
          refine hK.out _ _ (hS.below (by go_grown)) ?_
          clear hK K
          intro hS1
          try simp only [Act.put, List.setIfInBounds_toArray, List.set_cons_zero, List.set_cons_succ]
          refine wpAnyH_ready (rs := [4]) (by kernel_rfl) (by simp) ?_
          refine AllReadyH.cons (o := ⟨some 10, _, _, _, _, _⟩) rfl (fun K hK => ?_) AllReadyH.nil
          go_simp
          have hS2 := hS1.below (w' := ((wd.alloc (Obj.cells #[Value.int IntKind.i64 0, Value.int IntKind.i64 0, Value.string ⟨#[]⟩] 23)).alloc (Obj.cells #[Value.int IntKind.i64 0, Value.int IntKind.i64 0, Value.string ⟨#[]⟩] 23))) (by go_grown)
          refine hK.out _ _ hS2 ?_
          clear hK K hS1
          intro _
          try simp only [Act.put, List.setIfInBounds_toArray, List.set_cons_zero, List.set_cons_succ]
          have hP : ((wd.alloc (Obj.cells #[Value.int IntKind.i64 0, Value.int IntKind.i64 0, Value.string ⟨#[]⟩] 23)).alloc (Obj.cells #[Value.int IntKind.i64 0, Value.int IntKind.i64 0, Value.string ⟨#[]⟩] 23)).heap[wd.heap.size + 1]? = some (.cells (cells nullT) 23 (0, 0)) := new_at _ _ _ (by simp)
          have hQ : ((wd.alloc (Obj.cells #[Value.int IntKind.i64 0, Value.int IntKind.i64 0, Value.string ⟨#[]⟩] 23)).alloc (Obj.cells #[Value.int IntKind.i64 0, Value.int IntKind.i64 0, Value.string ⟨#[]⟩] 23)).heap[wd.heap.size]? = some (.cells (cells nullT) 23 (0, 0)) := (heap_alloc_old _ _ (by simp)).trans (heap_alloc_new wd _)
          generalize ((wd.alloc (Obj.cells #[Value.int IntKind.i64 0, Value.int IntKind.i64 0, Value.string ⟨#[]⟩] 23)).alloc (Obj.cells #[Value.int IntKind.i64 0, Value.int IntKind.i64 0, Value.string ⟨#[]⟩] 23)) = v0 at hS2 hP hQ ⊢
          clear hS
          generalize wd.heap.size = g at hz hP hQ ⊢
          refine wpAnyH_ready (rs := [6]) (by kernel_rfl) (by simp) ?_
          refine AllReadyH.cons (o := ⟨none, _, _, _, _, _⟩) rfl (fun K hK => ?_) AllReadyH.nil
          rw [if_pos (by rfl)]
          refine wp_store_row 23 (.tmp 10) (.tmp 32) rfl (g + 1) (cells X) rfl rfl 23 (cells nullT) hP size23 rfl (by simp [Value.oneCell']) ?_
          have hP1 := puts_setRow (cells := cells X) hP
          generalize World.setRow _ (g + 1) (cells X) = v1 at hP1 ⊢
          have hQ1 := (hP1.keeps.block _ (lt_of_block hQ) (by omega)).trans hQ
          have hS3 : Ro X Y 2 w v1 := ⟨(hP1.keeps.block _ (lt_of_block hS2.1) (by omega)).trans hS2.1, (hP1.keeps.block _ (lt_of_block hS2.2.1) (by omega)).trans hS2.2.1, hP1.below hS2.2.2 (by omega)⟩
          refine hK.out _ _ hS3 ?_
          clear hK K
          intro _
          try simp only [Act.put]
          refine wpAnyH_ready (rs := [7]) (by kernel_rfl) (by simp) ?_
          refine AllReadyH.cons (o := ⟨none, _, _, _, _, _⟩) rfl (fun K hK => ?_) AllReadyH.nil
          rw [if_pos (by rfl)]
          refine wp_store_row 23 (.tmp 11) (.tmp 34) rfl (g) (cells Y) rfl rfl 23 (cells nullT) hQ1 size23 rfl (by simp [Value.oneCell']) ?_
          have hQ2 := puts_setRow (cells := cells Y) hQ1
          generalize World.setRow _ (g) (cells Y) = v2 at hQ2 ⊢
          have hP2 := (hQ2.keeps.block _ (lt_of_block hP1.at') (by omega)).trans hP1.at'
          have hS4 : Ro X Y 2 w v2 := ⟨(hQ2.keeps.block _ (lt_of_block hS3.1) (by omega)).trans hS3.1, (hQ2.keeps.block _ (lt_of_block hS3.2.1) (by omega)).trans hS3.2.1, hQ2.below hS3.2.2 (by omega)⟩
          refine hK.out _ _ hS4 ?_
          clear hK K
          intro _
          try simp only [Act.put]
          refine wpAnyH_done (by kernel_rfl) ?_ _
          have HX : Hid (Six X Y (.pointer (some ⟨g + 1, 0, none⟩)) (.pointer (some ⟨g, 0, none⟩)) w v2) := Lib.hid ⟨g + 1, g, rfl, rfl, hP2, hQ2.at', by omega, by omega, hS4⟩
          clear hP hQ hP1 hQ1 hQ2 hP2 hS2 hS3 hS4
          go_wp2_with fail
          go_meet
          exact HX.out
        exact AllReadyH.nil
      case rest =>
        obtain ⟨p, q, rfl, rfl, hP, hQ, hp, hq, hF⟩ := hcut
        have I0 : Hid (Fx p q X Y w wc) := Lib.hid ⟨hP, hQ, hF.1, hF.2.2⟩
        have HM := Lib.hid hF.2.1
        clear hP hQ hF
        have k0 : wc.cell? ⟨w.heap.size + 1, 6, none⟩ = some (.int .i64 0) := (cell_of_row wc _ 6 _ _ _ HM.out).trans rfl
        have k1 : wc.cell? ⟨w.heap.size + 1, 7, none⟩ = some (.int .i64 0) := (cell_of_row wc _ 7 _ _ _ HM.out).trans rfl
        have k2 : wc.cell? ⟨w.heap.size + 1, 8, none⟩ = some (.string ⟨#[]⟩) := (cell_of_row wc _ 8 _ _ _ HM.out).trans rfl
        have f0 : wc.cell? ⟨p, 0, none⟩ = some (.int .i64 X.1) := (cell_of_row wc _ 0 _ _ _ I0.out.1).trans rfl
        have f1 : wc.cell? ⟨p, 1, none⟩ = some (.int .i64 X.2.1) := (cell_of_row wc _ 1 _ _ _ I0.out.1).trans rfl
        have f2 : wc.cell? ⟨p, 2, none⟩ = some (.string X.2.2) := (cell_of_row wc _ 2 _ _ _ I0.out.1).trans rfl
        have g0 : wc.cell? ⟨q, 0, none⟩ = some (.int .i64 Y.1) := (cell_of_row wc _ 0 _ _ _ I0.out.2.1).trans rfl
        have g1 : wc.cell? ⟨q, 1, none⟩ = some (.int .i64 Y.2.1) := (cell_of_row wc _ 1 _ _ _ I0.out.2.1).trans rfl
        have g2 : wc.cell? ⟨q, 2, none⟩ = some (.string Y.2.2) := (cell_of_row wc _ 2 _ _ _ I0.out.2.1).trans rfl
        go_wp2_with fail
        refine (texts19 X Y nullT RX.out RY.out _).mono ?_
        rintro e w1 ⟨rfl, hb1⟩
        have I1 := Lib.hid (I0.out.below hb1)
        clear hb1 k0 k1 k2
        clear f0 f1 f2 g0 g1 g2
        go_wp2_with (refine store23 rfl (.tmp 6) (.tmp 98) rfl w.heap.size (likeT X Y) rfl rfl _ I1.out.2.2.1 ?_; intro wz hp; have HP := Lib.hid hp; clear hp)
        exact bodyPost_ret (ret23 rfl rfl HP.out.at') rfl ⟨rfl, HP.out.low I1.out.2.2.2 (Nat.le_refl _)⟩
end YtabojeleomfgnaaGreatDoor
end Go.Proofs
