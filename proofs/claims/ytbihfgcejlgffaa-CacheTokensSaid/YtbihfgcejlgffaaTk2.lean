/- Tokens: the sum of a token, by the program and by the reference. -/
import Derived.Test.YtbihfgcejlgffaaTk1
namespace Go.Proofs
open Go.RowKit
namespace Ytbihfgcejlgffaa
set_option maxRecDepth 100000
def numT (x : Int) : V3 := (2, x, ⟨#[]⟩)
def tokV (s : ByteArray) (u : Int) (zs : List Int) : List V3 := [(3, 0, s), numT u] ++ zs.map numT
theorem tokV_len (s : ByteArray) (u : Int) (zs : List Int) : (tokV s u zs).length = zs.length + 2 := by simp [tokV]
theorem tokV_snoc (s : ByteArray) (u : Int) (zs : List Int) (k : Nat) (h : k < zs.length) : tokV s u (zs.take (k + 1)) = tokV s u (zs.take k) ++ [numT (zs.getD k 0)] := by
  have e : zs.getD k 0 = zs[k] := by simp only [List.getD, List.getElem?_eq_getElem h, Option.getD_some]
  rw [e]
  unfold tokV
  rw [List.take_succ_eq_append_getElem h, List.map_append, List.append_assoc]
  rfl
theorem tokV_sz {s : ByteArray} {u : Int} {zs : List Int} (hs : s.size ≤ 1000) : ∀ x ∈ tokV s u zs, x.2.2.size ≤ maxLen := by
  intro x hx
  simp only [tokV, List.cons_append, List.nil_append, List.mem_cons, List.mem_map] at hx
  rcases hx with rfl | rfl | ⟨z, _, rfl⟩
  · show s.size ≤ _; unfold maxLen; omega
  · exact Nat.zero_le _
  · exact Nat.zero_le _
theorem Av.lstS {L : List V3} {v : Value} {w0 w : World} (h : Av L v w0 w) (h0 : L ≠ []) (hr : ∀ x ∈ L, x.2.2.size ≤ maxLen) : ∃ a cap, v = .slice a L.length cap ∧ Lst w a L := by
  obtain ⟨b, cap, rfl, _, hc⟩ := h.cells h0
  refine ⟨_, cap, rfl, fun k hk => ⟨b, 0, rfl, ?_⟩⟩
  obtain ⟨c0, c1, c2⟩ := hc k L[k] (List.getElem?_eq_getElem hk)
  rw [Nat.zero_add]
  exact ⟨c0, c1, c2, hr L[k] (List.getElem_mem hk)⟩
theorem av_two (w0 w : World) (p q : V3) (hb : Below w0.heap.size w0 w) : Av [p, q] (.slice (some ⟨w.heap.size, 0, none⟩) 2 2) w0 (w.alloc (.cells #[.int .i64 p.1, .int .i64 p.2.1, .string p.2.2, .int .i64 q.1, .int .i64 q.2.1, .string q.2.2] 56)) :=
  ⟨⟨rfl, Or.inr ⟨w.heap.size, 2, _, rfl, hb.size, heap_alloc_new w _, Nat.le_refl 2, by unfold maxLen; decide, rfl, rfl⟩⟩, hb.alloc hb.size _⟩
def hashT (s : ByteArray) (u : Int) (zs : List Int) : Int := hashI (keyL (tokV s u zs))
set_option maxHeartbeats 2000000 in
theorem sumOf_t (s : ByteArray) (hs : s.size ≤ 1000) (a : Option Addr) (c : Nat) (zs : List Int) (hl : zs.length ≤ 100000) (u S : Int) (w : World) (hz : Zs w a zs) :
    Calls Try.prog 18 #[.string s, .agg #[.slice a zs.length c, .int .i64 u, .int .u64 S]] w fun e w' => e = .returned (.int .u64 (hashT s u zs)) ∧ Below w.heap.size w w' := by
  have HZ := Lib.hid hz
  have HSZ := Lib.hid (@tokV_sz s u zs hs)
  have HLN := Lib.hid (fun k => tokV_len s u (zs.take k))
  have HSN := Lib.hid (fun k h => tokV_snoc s u zs k h)
  clear hz
  have HB0 : Hid (Below w.heap.size w (w.alloc (.cells #[.slice a zs.length c, .int .i64 u, .int .u64 S] 32))) := Lib.hid ((Below.refl _ _).alloc (Nat.le_refl _) _)
  have A0 : Hid (Av (tokV s u (zs.take 0)) (.slice (some ⟨(w.alloc (.cells #[.slice a zs.length c, .int .i64 u, .int .u64 S] 32)).heap.size, 0, none⟩) 2 2) w ((w.alloc (.cells #[.slice a zs.length c, .int .i64 u, .int .u64 S] 32)).alloc (.cells #[.int .i64 3, .int .i64 0, .string s, .int .i64 2, .int .i64 u, .string ⟨#[]⟩] 56))) := Lib.hid (av_two w _ (3, 0, s) (numT u) HB0.out)
  go_enter Try.func18, Try.ntmps18
  go_wp2_with fail
  go_loopw [5, 17] (fun y z wr => ∃ (k : Nat) (v : Value), k ≤ zs.length ∧ v = y ∧ z = .int .i64 k ∧ Hid (Av (tokV s u (zs.take k)) v w wr)) (fun _ z _ => zs.length - (intOf z).toNat)
  case atStart => exact ⟨0, _, Nat.zero_le _, rfl, rfl, by simpa using A0⟩
  case round =>
    obtain ⟨k, v, hk, rfl, rfl, hA⟩ := hrel
    by_cases hlt : k < zs.length
    · obtain ⟨b, o, rfl, hf⟩ := (HZ.out.below hA.out.2).resolve_left (fun e => by subst e; exact absurd hlt (Nat.not_lt_zero _))
      have c0 := hf k hlt
      clear hf
      have HS := Lib.hid (HSN.out k hlt)
      have HL : Hid ((tokV s u (zs.take k)).length ≤ 1000000000) := Lib.hid (by rw [HLN.out, List.length_take]; omega)
      generalize zs.getD k 0 = x at c0 HS
      go_wp2_with (refine wpList_pushV' rfl (.tmp 21) (.tmp 24) rfl w wr (tokV s u (zs.take k)) v (numT x) rfl hA.out rfl rfl HL.out ?_; intro v' w1 hA'; have A1 := Lib.hid hA'; clear hA' c0)
      go_roundw
      case rel => exact ⟨k + 1, v', by omega, rfl, by go_num, by rw [HS.out]; exact A1⟩
      case measure => simp [intOf]; omega
    · obtain rfl : k = zs.length := by omega
      have HA : Hid (Av (tokV s u zs) v w wr) := Lib.hid (by have := hA.out; rwa [List.take_length] at this)
      have hne : tokV s u zs ≠ [] := by simp [tokV]
      obtain ⟨a', cap, rfl, hL⟩ := HA.out.lstS hne HSZ.out
      have CH := Lib.hid (hash_t a' cap (tokV s u zs) wr (by rw [tokV_len]; omega) hL)
      have HB := Lib.hid HA.out.2
      clear hL hne hA HA
      change Hid (Calls Try.prog 37 _ wr fun e w' => e = .returned (.int .u64 (hashT s u zs)) ∧ Below wr.heap.size wr w') at CH
      obtain ⟨H, hH⟩ : ∃ H, Hid (hashT s u zs = H) := ⟨_, Lib.hid rfl⟩
      rw [hH.out] at CH
      generalize (tokV s u zs).length = N at CH ⊢
      go_wp2_with fail
      refine CH.out.mono ?_
      rintro e w2 ⟨rfl, hb⟩
      have HB2 := Lib.hid (below_call HB.out hb)
      clear hb
      go_wp2_with fail
      go_ret
      exact ⟨by rw [hH.out]; rfl, HB2.out⟩
theorem number_t (x : Int) (w : World) : Calls Try.prog 42 #[.int .i64 x] w fun e w' => e = .returned (.agg #[.int .i64 2, .int .i64 x, .string ⟨#[]⟩]) ∧ Below w.heap.size w w' := by
  go_enter Try.func42, Try.ntmps42
  go_wp2
  exact bodyPost_ret (v := .agg #[.int .i64 2, .int .i64 x, .string ⟨#[]⟩]) (by simp [results, Try.results42, go_sem]) rfl ⟨rfl, by go_grown⟩
set_option maxHeartbeats 2000000 in
theorem rsum_t (s : ByteArray) (hs : s.size ≤ 1000) (a : Option Addr) (c : Nat) (zs : List Int) (hl : zs.length ≤ 100000) (u : Int) (w : World) (hz : Zs w a zs) :
    Calls Try.prog 22 #[.string s, .slice a zs.length c, .int .i64 u] w fun e w' => e = .returned (.int .u64 (hashT s u zs)) ∧ Below w.heap.size w w' := by
  have HZ := Lib.hid hz
  have HSZ := Lib.hid (@tokV_sz s u zs hs)
  have HLN := Lib.hid (fun k => tokV_len s u (zs.take k))
  have HSN := Lib.hid (fun k h => tokV_snoc s u zs k h)
  clear hz
  have CN := Lib.hid number_t
  go_enter Try.func22, Try.ntmps22
  go_wp2_with fail
  refine (CN.out _ _).mono ?_
  rintro e w1 ⟨rfl, hb1⟩
  have HB0 := Lib.hid hb1
  clear hb1
  have A0 : Hid (Av (tokV s u (zs.take 0)) (.slice (some ⟨w1.heap.size, 0, none⟩) 2 2) w (w1.alloc (.cells #[.int .i64 3, .int .i64 0, .string s, .int .i64 2, .int .i64 u, .string ⟨#[]⟩] 56))) := Lib.hid (av_two w w1 (3, 0, s) (numT u) HB0.out)
  go_wp2_with fail
  go_loopw [7, 17] (fun y z wr => ∃ (k : Nat) (v : Value), k ≤ zs.length ∧ v = y ∧ z = .int .i64 k ∧ Hid (Av (tokV s u (zs.take k)) v w wr)) (fun _ z _ => zs.length - (intOf z).toNat)
  case atStart => exact ⟨0, _, Nat.zero_le _, rfl, rfl, by simpa using A0⟩
  case round =>
    obtain ⟨k, v, hk, rfl, rfl, hA⟩ := hrel
    by_cases hlt : k < zs.length
    · obtain ⟨b, o, rfl, hf⟩ := (HZ.out.below hA.out.2).resolve_left (fun e => by subst e; exact absurd hlt (Nat.not_lt_zero _))
      have c0 := hf k hlt
      clear hf
      have HS := Lib.hid (HSN.out k hlt)
      have HL : Hid ((tokV s u (zs.take k)).length ≤ 1000000000) := Lib.hid (by rw [HLN.out, List.length_take]; omega)
      generalize zs.getD k 0 = x at c0 HS
      go_wp2_with fail
      refine (CN.out _ _).mono ?_
      rintro e w2 ⟨rfl, hb2⟩
      have A2 := Lib.hid (hA.out.below hb2)
      clear hb2 c0
      go_wp2_with (refine wpList_pushV' rfl (.tmp 21) (.tmp 24) rfl w w2 (tokV s u (zs.take k)) v (numT x) rfl A2.out rfl rfl HL.out ?_; intro v' w1 hA'; have A1 := Lib.hid hA'; clear hA')
      go_roundw
      case rel => exact ⟨k + 1, v', by omega, rfl, by go_num, by rw [HS.out]; exact A1⟩
      case measure => simp [intOf]; omega
    · obtain rfl : k = zs.length := by omega
      have HA : Hid (Av (tokV s u zs) v w wr) := Lib.hid (by have := hA.out; rwa [List.take_length] at this)
      have hne : tokV s u zs ≠ [] := by simp [tokV]
      obtain ⟨a', cap, rfl, hL⟩ := HA.out.lstS hne HSZ.out
      have CH := Lib.hid (keyed_t a' cap (tokV s u zs) wr (by rw [tokV_len]; omega) hL)
      have HB := Lib.hid HA.out.2
      have KL := keyL_len (tokV s u zs)
      rw [tokV_len] at KL
      have HK : Hid ((keyL (tokV s u zs)).length ≤ 100000000000000) := Lib.hid (by omega)
      have HO := Lib.hid (keyL_ok (tokV s u zs))
      clear hL hne hA HA KL
      obtain ⟨H, hH⟩ : ∃ H, Hid (hashT s u zs = H) := ⟨_, Lib.hid rfl⟩
      have hI : Hid (hashI (keyL (tokV s u zs)) = H) := hH
      generalize keyL (tokV s u zs) = KL at CH HK HO hI
      generalize (tokV s u zs).length = N at CH ⊢
      go_wp2_with fail
      refine CH.out.mono ?_
      rintro e w2 ⟨v2, rfl, hA2⟩
      obtain ⟨a2, c2, rfl, hb2⟩ := hA2.bytes
      have CO := Lib.hid (hashOf_t a2 c2 KL w2 HK.out hb2 HO.out)
      rw [hI.out] at CO
      have HB2 := Lib.hid (below_call HB.out hA2.2)
      clear hA2 hb2
      generalize KL.length = n2 at CO ⊢
      go_wp2_with fail
      refine CO.out.mono ?_
      rintro e wx ⟨rfl, hwx⟩
      rw [hwx]
      clear hwx wx
      go_wp2_with fail
      go_ret
      exact ⟨by rw [hH.out]; rfl, HB2.out⟩
end Ytbihfgcejlgffaa
end Go.Proofs
