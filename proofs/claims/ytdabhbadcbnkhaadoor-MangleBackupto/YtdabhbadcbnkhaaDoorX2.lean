/- Several texts in one. -/
import Derived.Test.YtdabhbadcbnkhaaDoorX3
import Derived.Test.YtdabhbadcbnkhaaDoorX5
import Derived.Test.YtdabhbadcbnkhaaDoorRt
import Derived.Test.YtdabhbadcbnkhaaDoorCB
import Derived.Test.YtdabhbadcbnkhaaDoorX4
import Derived.Test.YtdabhbadcbnkhaaDoorSE
/- What is parsed of a segment, a datagram that was built; one bit of an address turned. -/
namespace Go.Proofs.YtdabhbadcbnkhaaDoor
open Go.RowKit
set_option maxRecDepth 100000
set_option linter.unusedVariables false
set_option linter.unusedSimpArgs false

theorem flt_fit2 {lo ld : Nat} (hf : flt lo ld = 0) : lo ≤ 40 ∧ lo % 4 = 0 ∧ 20 + lo + ld ≤ 65535 := by
  unfold flt at hf
  split at hf <;> first | omega | (split at hf <;> omega)
theorem bte_fit {os : List Opt} {lo lm : Nat} (h : bte os lo lm = 0) : obOk os ∧ lo ≤ 40 ∧ lo % 4 = 0 ∧ 20 + lo + (20 + (pad (obs os)).length + lm) ≤ 65535 := by
  unfold bte at h
  split at h
  · exact ⟨by assumption, flt_fit2 h⟩
  · omega
/-- The sum of what stands ahead. -/
theorem tw_psd_app (s d p n : Int) (zs : List Int) : Mt.tw true (psd s d p n ++ zs) = Mt.tw true (psd s d p n) + Mt.tw true zs := by
  rw [Mt.tw_append, psd_length]
  rfl
/-- A check sum put at an even place where 0 stood makes the bytes good, also with what stands ahead of them. -/
theorem good_put (s d p n : Int) (zs : List Int) (k : Nat) (hB : Mt.By (psd s d p n ++ zs)) (hk : k % 2 = 0) (hl : k + 1 < zs.length) (h0 : zs[k]?.getD 0 = 0) (h1 : zs[k + 1]?.getD 0 = 0) : Mt.cks (psd s d p n ++ Mt.put2 zs k (Mt.cks (psd s d p n ++ zs))) = 0 := by
  have hn := Mt.tw_nonneg true _ hB
  have hg := Mt.fd_good _ hn
  rw [tw_psd_app] at hn hg
  unfold Mt.cks
  rw [tw_psd_app, Mt.tw_put2 zs k _ hk hl, h0, h1, tw_psd_app]
  rw [show Mt.tw true (psd s d p n) + (Mt.tw true zs + (65535 - Mt.fd (Mt.tw true (psd s d p n) + Mt.tw true zs)) - (0 * 256 + 0)) = Mt.tw true (psd s d p n) + Mt.tw true zs + (65535 - Mt.fd (Mt.tw true (psd s d p n) + Mt.tw true zs)) from by omega, hg]
  rfl
theorem good_put5 (s d p n : Int) (zs : List Int) (k : Nat) (hB : Mt.By (psd s d p n ++ zs)) (hk : k % 2 = 0) (hl : k + 1 < zs.length) (h0 : zs[k]?.getD 0 = 0) (h1 : zs[k + 1]?.getD 0 = 0) (hc : Mt.cks (psd s d p n ++ zs) = 0) : Mt.cks (psd s d p n ++ Mt.put2 zs k 65535) = 0 := by
  have hg := Mt.fd_eq _ (show Mt.fd (Mt.tw true (psd s d p n ++ zs)) = 65535 from by unfold Mt.cks at hc; omega)
  rw [tw_psd_app] at hg
  unfold Mt.cks
  rw [tw_psd_app, Mt.tw_put2 zs k _ hk hl, h0, h1, Mt.fd_of _ (by omega) (by omega)]
  rfl

section
variable (sp dp sq ak fl wn ur : Int) (ob : List Int) (src dst : Int) (zd : List Int)
def hd20 (c : Int) : List Int := Mt.put2 ([sp, dp].flatMap b2 ++ [sq, ak].flatMap b4 ++ [(20 + (ob.length : Int)) / 4 * 16, fl] ++ [wn, 0, ur].flatMap b2) 16 c
theorem hd20_length (c : Int) : (hd20 sp dp sq ak fl wn ur ob c).length = 20 := by simp [hd20, Mt.put2_length, b2, b4]
theorem tcp_split : tcp sp dp sq ak fl wn ur ob src dst zd = hd20 sp dp sq ak fl wn ur ob (Mt.cks (psd src dst 6 (20 + ob.length + zd.length : Nat) ++ tcp0 sp dp sq ak fl wn ur ob zd)) ++ (ob ++ zd) := by
  unfold tcp hd20
  generalize Mt.cks (psd src dst 6 (20 + ob.length + zd.length : Nat) ++ tcp0 sp dp sq ak fl wn ur ob zd) = c
  simp [tcp0, Mt.put2, b2, b4]
theorem tcp_drop (h : Nat) (hh : h = 20 + ob.length) : (tcp sp dp sq ak fl wn ur ob src dst zd).drop h = zd := by
  subst hh
  rw [tcp_split, List.drop_append, hd20_length, List.drop_of_length_le (by rw [hd20_length]; omega), List.nil_append, show 20 + ob.length - 20 = ob.length from by omega, List.drop_left]
theorem tcp_opt (h : Nat) (hh : h = 20 + ob.length) : ((tcp sp dp sq ak fl wn ur ob src dst zd).drop 20).take (h - 20) = ob := by
  subst hh
  rw [tcp_split, List.drop_append, hd20_length, List.drop_of_length_le (by rw [hd20_length]; omega), List.nil_append, Nat.sub_self, List.drop_zero, show 20 + ob.length - 20 = ob.length from by omega, List.take_left]
theorem tcp_at (j : Nat) (hj : j < 20) : (tcp sp dp sq ak fl wn ur ob src dst zd)[j]?.getD 0 = (hd20 sp dp sq ak fl wn ur ob (Mt.cks (psd src dst 6 (20 + ob.length + zd.length : Nat) ++ tcp0 sp dp sq ak fl wn ur ob zd)))[j]?.getD 0 := by
  rw [tcp_split, List.getElem?_append_left (by rw [hd20_length]; exact hj)]
theorem tcp_12 : (tcp sp dp sq ak fl wn ur ob src dst zd)[12]?.getD 0 = (20 + (ob.length : Int)) / 4 * 16 := by rw [tcp_at _ _ _ _ _ _ _ _ _ _ _ 12 (by omega)]; simp [hd20, Mt.put2, b2, b4]
theorem tcp_13 : (tcp sp dp sq ak fl wn ur ob src dst zd)[13]?.getD 0 = fl := by rw [tcp_at _ _ _ _ _ _ _ _ _ _ _ 13 (by omega)]; simp [hd20, Mt.put2, b2, b4]
theorem tcp_thd (h4 : ob.length % 4 = 0) : thd (tcp sp dp sq ak fl wn ur ob src dst zd) = 20 + (ob.length : Int) := by unfold thd; rw [tcp_12]; omega
theorem tcp_wat (j : Nat) (hj : j + 1 < 20) : wat (tcp sp dp sq ak fl wn ur ob src dst zd) j = wat (hd20 sp dp sq ak fl wn ur ob (Mt.cks (psd src dst 6 (20 + ob.length + zd.length : Nat) ++ tcp0 sp dp sq ak fl wn ur ob zd))) j := by
  unfold wat
  rw [tcp_at _ _ _ _ _ _ _ _ _ _ _ j (by omega), tcp_at _ _ _ _ _ _ _ _ _ _ _ (j + 1) hj]
theorem tcp_w0 : wat (tcp sp dp sq ak fl wn ur ob src dst zd) 0 = sp := by rw [tcp_wat _ _ _ _ _ _ _ _ _ _ _ 0 (by omega)]; simp [wat, hd20, Mt.put2, b2, b4]; omega
theorem tcp_w2 : wat (tcp sp dp sq ak fl wn ur ob src dst zd) 2 = dp := by rw [tcp_wat _ _ _ _ _ _ _ _ _ _ _ 2 (by omega)]; simp [wat, hd20, Mt.put2, b2, b4]; omega
theorem tcp_w14 : wat (tcp sp dp sq ak fl wn ur ob src dst zd) 14 = wn := by rw [tcp_wat _ _ _ _ _ _ _ _ _ _ _ 14 (by omega)]; simp [wat, hd20, Mt.put2, b2, b4]; omega
theorem tcp_w18 : wat (tcp sp dp sq ak fl wn ur ob src dst zd) 18 = ur := by rw [tcp_wat _ _ _ _ _ _ _ _ _ _ _ 18 (by omega)]; simp [wat, hd20, Mt.put2, b2, b4]; omega
theorem tcp_w4 : wat4 (tcp sp dp sq ak fl wn ur ob src dst zd) 4 = sq := by unfold wat4; rw [tcp_wat _ _ _ _ _ _ _ _ _ _ _ 4 (by omega), tcp_wat _ _ _ _ _ _ _ _ _ _ _ (4 + 2) (by omega)]; simp [wat, hd20, Mt.put2, b2, b4]; omega
theorem tcp_w8 : wat4 (tcp sp dp sq ak fl wn ur ob src dst zd) 8 = ak := by unfold wat4; rw [tcp_wat _ _ _ _ _ _ _ _ _ _ _ 8 (by omega), tcp_wat _ _ _ _ _ _ _ _ _ _ _ (8 + 2) (by omega)]; simp [wat, hd20, Mt.put2, b2, b4]; omega
theorem tcp_good (hs : 0 ≤ src ∧ src ≤ 4294967295) (hd : 0 ≤ dst ∧ dst ≤ 4294967295) (hB : Mt.By (tcp0 sp dp sq ak fl wn ur ob zd)) : Mt.cks (psd src dst 6 (20 + ob.length + zd.length : Nat) ++ tcp sp dp sq ak fl wn ur ob src dst zd) = 0 :=
  good_put src dst 6 _ _ 16 ((By_psd src dst 6 _ hs hd (by omega)).append hB) (by omega) (by rw [tcp0_length]; omega) (by simp [tcp0, b2, b4]) (by simp [tcp0, b2, b4])
theorem tcp_ptc (proto : Int) (hp : proto = 6) (s d : Int) (h4 : ob.length % 4 = 0) (h40 : ob.length ≤ 40) : ptc proto s d (tcp sp dp sq ak fl wn ur ob src dst zd) = if Mt.cks (psd s d 6 (20 + ob.length + zd.length : Nat) ++ tcp sp dp sq ak fl wn ur ob src dst zd) ≠ 0 then 5 else 0 := by
  unfold ptc
  rw [if_neg (by simp [hp]), tcp_length, if_neg (by omega), tcp_thd _ _ _ _ _ _ _ _ _ _ _ h4, tcp_12, if_neg (by omega), if_neg (by omega)]
end
theorem tcp_hop (sp dp sq ak fl wn ur : Int) (ob : List Int) (src dst : Int) (zd : List Int) (h4 : ob.length % 4 = 0) : hop (tcp sp dp sq ak fl wn ur ob src dst zd) = ob := by
  unfold hop
  rw [tcp_thd _ _ _ _ _ _ _ _ _ _ _ h4]
  exact tcp_opt _ _ _ _ _ _ _ _ _ _ _ _ (by omega)
theorem tcp_pte (sp dp sq ak fl wn ur : Int) (os : List Opt) (src dst : Int) (zd : List Int) (hok : obOk os) (hs : 0 ≤ src ∧ src ≤ 4294967295) (hd : 0 ≤ dst ∧ dst ≤ 4294967295) (hB : Mt.By (tcp0 sp dp sq ak fl wn ur (pad (obs os)) zd)) :
    pte 6 src dst (tcp sp dp sq ak fl wn ur (pad (obs os)) src dst zd) = 0 ∧ opts (hop (tcp sp dp sq ak fl wn ur (pad (obs os)) src dst zd)) = some os := by
  have h1 : ptc 6 src dst (tcp sp dp sq ak fl wn ur (pad (obs os)) src dst zd) = 0 := by
    rw [tcp_ptc _ _ _ _ _ _ _ _ _ _ _ 6 rfl src dst (pad_mod _) (pad_le _ hok.2), if_neg (by rw [tcp_good _ _ _ _ _ _ _ _ _ _ _ hs hd hB]; simp)]
  have h2 : opts (hop (tcp sp dp sq ak fl wn ur (pad (obs os)) src dst zd)) = some os := by rw [tcp_hop _ _ _ _ _ _ _ _ _ _ _ (pad_mod _)]; exact opts_pad os hok
  refine ⟨?_, h2⟩
  unfold pte
  rw [if_neg (by simp [h1]), h2]
  rfl

section
variable (sp dp : Int) (bare : Bool) (src dst : Int) (zm : List Int)
theorem udp_at (j : Nat) (h6 : j ≠ 6) (h7 : j ≠ 7) : (udp sp dp bare src dst zm)[j]?.getD 0 = (udp0 sp dp zm)[j]?.getD 0 := by
  unfold udp
  split
  · rfl
  · rw [Mt.put2_other _ _ _ _ h6 h7]
theorem udp_w0 : wat (udp sp dp bare src dst zm) 0 = sp := by unfold wat; rw [udp_at _ _ _ _ _ _ 0 (by omega) (by omega), udp_at _ _ _ _ _ _ (0 + 1) (by omega) (by omega)]; simp [udp0, b2]; omega
theorem udp_w2 : wat (udp sp dp bare src dst zm) 2 = dp := by unfold wat; rw [udp_at _ _ _ _ _ _ 2 (by omega) (by omega), udp_at _ _ _ _ _ _ (2 + 1) (by omega) (by omega)]; simp [udp0, b2]; omega
theorem udp_w4 (h : 8 + zm.length ≤ 65535) : wat (udp sp dp bare src dst zm) 4 = 8 + zm.length := by unfold wat; rw [udp_at _ _ _ _ _ _ 4 (by omega) (by omega), udp_at _ _ _ _ _ _ (4 + 1) (by omega) (by omega)]; simp [udp0, b2]; omega
theorem udp_drop : (udp sp dp bare src dst zm).drop 8 = zm := by
  unfold udp
  split
  · simp [udp0, b2]
  · simp [udp0, b2, Mt.put2]
theorem udp_w6 : wat (udp sp dp bare src dst zm) 6 = if bare then 0 else usm src dst 17 (udp0 sp dp zm) := by
  unfold udp
  cases bare with
  | true => simp [wat, udp0, b2]
  | false =>
    simp only [Bool.false_eq_true, if_false]
    unfold wat
    have := Mt.put2_at (udp0 sp dp zm) 6 (usm src dst 17 (udp0 sp dp zm)) (by rw [udp0_length]; omega)
    rw [this.1, this.2]
    omega
theorem udp_good (hs : 0 ≤ src ∧ src ≤ 4294967295) (hd : 0 ≤ dst ∧ dst ≤ 4294967295) (hB : Mt.By (udp0 sp dp zm)) : Mt.cks (psd src dst 17 (8 + zm.length : Nat) ++ udp sp dp false src dst zm) = 0 := by
  unfold udp
  simp only [Bool.false_eq_true, if_false]
  have hBB := (By_psd src dst 17 (8 + zm.length : Nat) hs hd (by omega)).append hB
  have hz : (udp0 sp dp zm)[6]?.getD 0 = 0 ∧ (udp0 sp dp zm)[6 + 1]?.getD 0 = 0 := ⟨by simp [udp0, b2], by simp [udp0, b2]⟩
  unfold usm
  rw [udp0_length]
  split
  · exact good_put5 src dst 17 _ _ 6 hBB (by omega) (by rw [udp0_length]; omega) hz.1 hz.2 (by assumption)
  · exact good_put src dst 17 _ _ 6 hBB (by omega) (by rw [udp0_length]; omega) hz.1 hz.2
theorem udp_pue (proto : Int) (hp : proto = 17) (s d : Int) (h : 8 + zm.length ≤ 65535) : pue proto s d (udp sp dp bare src dst zm) = if bare = false ∧ Mt.cks (psd s d 17 (8 + zm.length : Nat) ++ udp sp dp bare src dst zm) ≠ 0 then 5 else 0 := by
  unfold pue
  have hb := usm_bd src dst 17 (udp0 sp dp zm)
  rw [if_neg (by simp [hp]), udp_length, if_neg (by omega), udp_w4 _ _ _ _ _ _ h, if_neg (by simp), udp_w6]
  cases bare with
  | true => simp
  | false =>
    simp only [Bool.false_eq_true, if_false, true_and]
    congr 1
    simp only [eq_iff_iff]
    exact ⟨fun h => h.2, fun h => ⟨by omega, h⟩⟩
end

/-- One bit of an address turned is one bit of what stands ahead. -/
theorem pw_bytes : ∀ r < 32, ∀ k ∈ [0, 8, 16, 24], 2 ^ r / 2 ^ k % 2 ^ 8 = if r / 8 * 8 = k then 2 ^ (r % 8) else 0 := by decide +kernel
theorem xor_byte (x r k : Nat) (hr : r < 32) (hk : k ∈ [0, 8, 16, 24]) : (x ^^^ 2 ^ r) / 2 ^ k % 2 ^ 8 = if r / 8 * 8 = k then (x / 2 ^ k % 2 ^ 8) ^^^ 2 ^ (r % 8) else x / 2 ^ k % 2 ^ 8 := by
  rw [Nat.xor_div_two_pow, Nat.xor_mod_two_pow, pw_bytes r hr k hk]
  split <;> simp
theorem xor_lt32 (x r : Nat) (hx : x < 4294967296) (hr : r < 32) : x ^^^ 2 ^ r < 4294967296 := Nat.xor_lt_two_pow (n := 32) hx (Nat.pow_lt_pow_right (by omega) hr)
theorem flip_byte (n r : Nat) (hn : n < 256) (hr : r < 8) : ((n ^^^ 2 ^ r : Nat) : Int) = (n : Int) + ((2 ^ r : Nat) : Int) ∨ ((n ^^^ 2 ^ r : Nat) : Int) = (n : Int) - ((2 ^ r : Nat) : Int) := by
  obtain ⟨h, _⟩ := nat_flip r hr n hn
  omega
theorem psd_src (x r : Nat) (hx : x < 4294967296) (hr : r < 32) (d p n : Int) : ∃ j y, j < 12 ∧ psd ((x ^^^ 2 ^ r : Nat) : Int) d p n = (psd (x : Int) d p n).set j y ∧ (y = (psd (x : Int) d p n)[j]?.getD 0 + ((2 ^ (r % 8) : Nat) : Int) ∨ y = (psd (x : Int) d p n)[j]?.getD 0 - ((2 ^ (r % 8) : Nat) : Int)) := by
  have hl := xor_lt32 x r hx hr
  have k0 := xor_byte x r 0 hr (by simp)
  have k1 := xor_byte x r 8 hr (by simp)
  have k2 := xor_byte x r 16 hr (by simp)
  have k3 := xor_byte x r 24 hr (by simp)
  generalize x ^^^ 2 ^ r = x' at *
  simp only [Nat.reducePow, Nat.div_one] at k0 k1 k2 k3
  have h4 : r / 8 = 0 ∨ r / 8 = 1 ∨ r / 8 = 2 ∨ r / 8 = 3 := by omega
  rcases h4 with h | h | h | h <;> rw [h] at k0 k1 k2 k3 <;> simp at k0 k1 k2 k3
  · have f := flip_byte (x % 256) (r % 8) (by omega) (by omega)
    refine ⟨3, ((((x % 256) ^^^ 2 ^ (r % 8) : Nat)) : Int), by omega, ?_, ?_⟩
    · generalize (x % 256) ^^^ 2 ^ (r % 8) = q at *
      simp only [psd, List.set_cons_succ, List.set_cons_zero, List.cons.injEq, and_true, true_and]
      omega
    · generalize (x % 256) ^^^ 2 ^ (r % 8) = q at *
      generalize ((2 ^ (r % 8) : Nat) : Int) = t at *
      simp only [psd, List.getElem?_cons_succ, List.getElem?_cons_zero, Option.getD_some]
      omega
  · have f := flip_byte (x / 256 % 256) (r % 8) (by omega) (by omega)
    refine ⟨2, ((((x / 256 % 256) ^^^ 2 ^ (r % 8) : Nat)) : Int), by omega, ?_, ?_⟩
    · generalize (x / 256 % 256) ^^^ 2 ^ (r % 8) = q at *
      simp only [psd, List.set_cons_succ, List.set_cons_zero, List.cons.injEq, and_true, true_and]
      omega
    · generalize (x / 256 % 256) ^^^ 2 ^ (r % 8) = q at *
      generalize ((2 ^ (r % 8) : Nat) : Int) = t at *
      simp only [psd, List.getElem?_cons_succ, List.getElem?_cons_zero, Option.getD_some]
      omega
  · have f := flip_byte (x / 65536 % 256) (r % 8) (by omega) (by omega)
    refine ⟨1, ((((x / 65536 % 256) ^^^ 2 ^ (r % 8) : Nat)) : Int), by omega, ?_, ?_⟩
    · generalize (x / 65536 % 256) ^^^ 2 ^ (r % 8) = q at *
      simp only [psd, List.set_cons_succ, List.set_cons_zero, List.cons.injEq, and_true, true_and]
      omega
    · generalize (x / 65536 % 256) ^^^ 2 ^ (r % 8) = q at *
      generalize ((2 ^ (r % 8) : Nat) : Int) = t at *
      simp only [psd, List.getElem?_cons_succ, List.getElem?_cons_zero, Option.getD_some]
      omega
  · have f := flip_byte (x / 16777216 % 256) (r % 8) (by omega) (by omega)
    refine ⟨0, ((((x / 16777216 % 256) ^^^ 2 ^ (r % 8) : Nat)) : Int), by omega, ?_, ?_⟩
    · generalize (x / 16777216 % 256) ^^^ 2 ^ (r % 8) = q at *
      simp only [psd, List.set_cons_succ, List.set_cons_zero, List.cons.injEq, and_true, true_and]
      omega
    · generalize (x / 16777216 % 256) ^^^ 2 ^ (r % 8) = q at *
      generalize ((2 ^ (r % 8) : Nat) : Int) = t at *
      simp only [psd, List.getElem?_cons_succ, List.getElem?_cons_zero, Option.getD_some]
      omega
theorem psd_dst (x r : Nat) (hx : x < 4294967296) (hr : r < 32) (s p n : Int) : ∃ j y, j < 12 ∧ psd s ((x ^^^ 2 ^ r : Nat) : Int) p n = (psd s (x : Int) p n).set j y ∧ (y = (psd s (x : Int) p n)[j]?.getD 0 + ((2 ^ (r % 8) : Nat) : Int) ∨ y = (psd s (x : Int) p n)[j]?.getD 0 - ((2 ^ (r % 8) : Nat) : Int)) := by
  have hl := xor_lt32 x r hx hr
  have k0 := xor_byte x r 0 hr (by simp)
  have k1 := xor_byte x r 8 hr (by simp)
  have k2 := xor_byte x r 16 hr (by simp)
  have k3 := xor_byte x r 24 hr (by simp)
  generalize x ^^^ 2 ^ r = x' at *
  simp only [Nat.reducePow, Nat.div_one] at k0 k1 k2 k3
  have h4 : r / 8 = 0 ∨ r / 8 = 1 ∨ r / 8 = 2 ∨ r / 8 = 3 := by omega
  rcases h4 with h | h | h | h <;> rw [h] at k0 k1 k2 k3 <;> simp at k0 k1 k2 k3
  · have f := flip_byte (x % 256) (r % 8) (by omega) (by omega)
    refine ⟨7, ((((x % 256) ^^^ 2 ^ (r % 8) : Nat)) : Int), by omega, ?_, ?_⟩
    · generalize (x % 256) ^^^ 2 ^ (r % 8) = q at *
      simp only [psd, List.set_cons_succ, List.set_cons_zero, List.cons.injEq, and_true, true_and]
      omega
    · generalize (x % 256) ^^^ 2 ^ (r % 8) = q at *
      generalize ((2 ^ (r % 8) : Nat) : Int) = t at *
      simp only [psd, List.getElem?_cons_succ, List.getElem?_cons_zero, Option.getD_some]
      omega
  · have f := flip_byte (x / 256 % 256) (r % 8) (by omega) (by omega)
    refine ⟨6, ((((x / 256 % 256) ^^^ 2 ^ (r % 8) : Nat)) : Int), by omega, ?_, ?_⟩
    · generalize (x / 256 % 256) ^^^ 2 ^ (r % 8) = q at *
      simp only [psd, List.set_cons_succ, List.set_cons_zero, List.cons.injEq, and_true, true_and]
      omega
    · generalize (x / 256 % 256) ^^^ 2 ^ (r % 8) = q at *
      generalize ((2 ^ (r % 8) : Nat) : Int) = t at *
      simp only [psd, List.getElem?_cons_succ, List.getElem?_cons_zero, Option.getD_some]
      omega
  · have f := flip_byte (x / 65536 % 256) (r % 8) (by omega) (by omega)
    refine ⟨5, ((((x / 65536 % 256) ^^^ 2 ^ (r % 8) : Nat)) : Int), by omega, ?_, ?_⟩
    · generalize (x / 65536 % 256) ^^^ 2 ^ (r % 8) = q at *
      simp only [psd, List.set_cons_succ, List.set_cons_zero, List.cons.injEq, and_true, true_and]
      omega
    · generalize (x / 65536 % 256) ^^^ 2 ^ (r % 8) = q at *
      generalize ((2 ^ (r % 8) : Nat) : Int) = t at *
      simp only [psd, List.getElem?_cons_succ, List.getElem?_cons_zero, Option.getD_some]
      omega
  · have f := flip_byte (x / 16777216 % 256) (r % 8) (by omega) (by omega)
    refine ⟨4, ((((x / 16777216 % 256) ^^^ 2 ^ (r % 8) : Nat)) : Int), by omega, ?_, ?_⟩
    · generalize (x / 16777216 % 256) ^^^ 2 ^ (r % 8) = q at *
      simp only [psd, List.set_cons_succ, List.set_cons_zero, List.cons.injEq, and_true, true_and]
      omega
    · generalize (x / 16777216 % 256) ^^^ 2 ^ (r % 8) = q at *
      generalize ((2 ^ (r % 8) : Nat) : Int) = t at *
      simp only [psd, List.getElem?_cons_succ, List.getElem?_cons_zero, Option.getD_some]
      omega

/-- So its sum is good no more. -/
theorem psd_bad {s d s' d' p n : Int} {zs : List Int} {r : Nat} (h : ∃ j y, j < 12 ∧ psd s' d' p n = (psd s d p n).set j y ∧ (y = (psd s d p n)[j]?.getD 0 + ((2 ^ (r % 8) : Nat) : Int) ∨ y = (psd s d p n)[j]?.getD 0 - ((2 ^ (r % 8) : Nat) : Int))) (hg : Mt.cks (psd s d p n ++ zs) = 0) : Mt.cks (psd s' d' p n ++ zs) ≠ 0 := by
  obtain ⟨j, y, hj, he, hy⟩ := h
  rw [he, ← List.set_append_left _ _ (by rw [psd_length]; exact hj)]
  refine cks_flip _ hg j (by rw [List.length_append, psd_length]; omega) (r % 8) (by omega) y ?_
  rw [List.getElem?_append_left (by rw [psd_length]; exact hj)]
  exact hy
/-- A bit turned in a number of 32. -/
theorem u32_bit (s : Int) (hs : 0 ≤ s ∧ s ≤ 4294967295) (r : Nat) (hr : r < 32) (p : Int) (hp : p = ((2 ^ r : Nat) : Int)) : ∃ x : Nat, s = x ∧ x < 4294967296 ∧ bits .xor .u32 s p = ((x ^^^ 2 ^ r : Nat) : Int) ∧ (0 ≤ bits .xor .u32 s p ∧ bits .xor .u32 s p ≤ 4294967295) := by
  obtain ⟨x, rfl⟩ := Int.eq_ofNat_of_zero_le hs.1
  subst hp
  have h2 : 2 ^ r < 2 ^ 32 := Nat.pow_lt_pow_right (by omega) hr
  rw [show 2 ^ 32 = 4294967296 from rfl] at h2
  have e := u32_xor_nat x (2 ^ r) (by omega) h2
  have hl := xor_lt32 x r (by omega) hr
  refine ⟨x, rfl, by omega, e, ?_⟩
  rw [e]
  omega
end Go.Proofs.YtdabhbadcbnkhaaDoor

/- Layer 10: bytes that are rewritten, and what they tell. -/
namespace Go.Proofs.YtdabhbadcbnkhaaDoor
open Go.RowKit Go.Shelf
set_option maxRecDepth 100000
set_option linter.unusedVariables false
set_option linter.unusedSimpArgs false

/-- Both ports changed. -/
def prt (a b : Int) (zs : List Int) : List Int := Mt.put2 (Mt.put2 zs 0 a) 2 b
/-- A datagram's check sum is never 0. -/
def nbr (x : Int) : Int := if x = 0 then 65535 else x
/-- A segment, a datagram, a message, a frame with another tuple. -/
def rwT (s d a b : Int) (zs : List Int) : List Int := Mt.put2 (Mt.put2 (prt a b zs) 16 0) 16 (Mt.cks (psd s d 6 zs.length ++ Mt.put2 (prt a b zs) 16 0))
def rwU (s d a b : Int) (zs : List Int) : List Int := if wat zs 6 = 0 then prt a b zs else Mt.put2 (Mt.put2 (prt a b zs) 6 0) 6 (nbr (Mt.cks (psd s d 17 zs.length ++ Mt.put2 (prt a b zs) 6 0)))
def rwI (a : Int) (zs : List Int) : List Int := Mt.put2 (Mt.put2 (Mt.put2 zs 4 a) 2 0) 2 (Mt.cks (Mt.put2 (Mt.put2 zs 4 a) 2 0))
def rwG (b : Int) (zs : List Int) : List Int := Mt.put2 zs 6 b
def rwD (pr s d a b : Int) (zs : List Int) : List Int := if pr = 6 then rwT s d a b zs else if pr = 17 then rwU s d a b zs else if pr = 1 then rwI a zs else rwG b zs

theorem nbr_bd {x : Int} (h : 0 ≤ x ∧ x ≤ 65535) : 0 < nbr x ∧ nbr x ≤ 65535 := by unfold nbr; split <;> omega
theorem prt_length (a b : Int) (zs : List Int) : (prt a b zs).length = zs.length := by simp [prt, Mt.put2_length]
theorem prt_by {a b : Int} {zs : List Int} (h : Mt.By zs) (ha : 0 ≤ a ∧ a ≤ 65535) (hb : 0 ≤ b ∧ b ≤ 65535) : Mt.By (prt a b zs) := (h.put2 0 ha).put2 2 hb
theorem prt_other (a b : Int) (zs : List Int) (j : Nat) (h : 4 ≤ j) : (prt a b zs)[j]? = zs[j]? := by
  unfold prt
  rw [Mt.put2_other _ _ _ _ (by omega) (by omega), Mt.put2_other _ _ _ _ (by omega) (by omega)]
theorem rwT_length (s d a b : Int) (zs : List Int) : (rwT s d a b zs).length = zs.length := by simp [rwT, Mt.put2_length, prt_length]
theorem rwU_length (s d a b : Int) (zs : List Int) : (rwU s d a b zs).length = zs.length := by unfold rwU; split <;> simp [Mt.put2_length, prt_length]
theorem rwI_length (a : Int) (zs : List Int) : (rwI a zs).length = zs.length := by simp [rwI, Mt.put2_length]
theorem rwD_length (pr s d a b : Int) (zs : List Int) : (rwD pr s d a b zs).length = zs.length := by
  unfold rwD
  split
  · exact rwT_length ..
  split
  · exact rwU_length ..
  split
  · exact rwI_length ..
  · exact Mt.put2_length ..
theorem rwT_by {s d a b : Int} {zs : List Int} (h : Mt.By zs) (ha : 0 ≤ a ∧ a ≤ 65535) (hb : 0 ≤ b ∧ b ≤ 65535) : Mt.By (rwT s d a b zs) := ((prt_by h ha hb).put2 16 (by omega)).put2 16 (Mt.cks_bd _)
theorem rwU_by {s d a b : Int} {zs : List Int} (h : Mt.By zs) (ha : 0 ≤ a ∧ a ≤ 65535) (hb : 0 ≤ b ∧ b ≤ 65535) : Mt.By (rwU s d a b zs) := by
  unfold rwU
  split
  · exact prt_by h ha hb
  · have := nbr_bd (Mt.cks_bd (psd s d 17 zs.length ++ Mt.put2 (prt a b zs) 6 0))
    exact ((prt_by h ha hb).put2 6 (by omega)).put2 6 (by omega)
theorem rwI_by {a : Int} {zs : List Int} (h : Mt.By zs) (ha : 0 ≤ a ∧ a ≤ 65535) : Mt.By (rwI a zs) := ((h.put2 4 ha).put2 2 (by omega)).put2 2 (Mt.cks_bd _)
theorem rwD_by {pr s d a b : Int} {zs : List Int} (h : Mt.By zs) (ha : 0 ≤ a ∧ a ≤ 65535) (hb : 0 ≤ b ∧ b ≤ 65535) : Mt.By (rwD pr s d a b zs) := by
  unfold rwD
  split
  · exact rwT_by h ha hb
  split
  · exact rwU_by h ha hb
  split
  · exact rwI_by h ha
  · exact h.put2 6 hb

/-- Bytes that the ports and the check sum are not of stay. -/
theorem rwT_other (s d a b : Int) (zs : List Int) (j : Nat) (h : 4 ≤ j) (h2 : j ≠ 16) (h3 : j ≠ 17) : (rwT s d a b zs)[j]? = zs[j]? := by
  unfold rwT
  rw [Mt.put2_other _ _ _ _ (by omega) (by omega), Mt.put2_other _ _ _ _ (by omega) (by omega), prt_other _ _ _ _ h]
theorem rwU_other (s d a b : Int) (zs : List Int) (j : Nat) (h : 4 ≤ j) (h2 : j ≠ 6) (h3 : j ≠ 7) : (rwU s d a b zs)[j]? = zs[j]? := by
  unfold rwU
  split
  · exact prt_other _ _ _ _ h
  · rw [Mt.put2_other _ _ _ _ (by omega) (by omega), Mt.put2_other _ _ _ _ (by omega) (by omega), prt_other _ _ _ _ h]
theorem rwI_other (a : Int) (zs : List Int) (j : Nat) (h : j < 2 ∨ 6 ≤ j) : (rwI a zs)[j]? = zs[j]? := by
  unfold rwI
  rw [Mt.put2_other _ _ _ _ (by omega) (by omega), Mt.put2_other _ _ _ _ (by omega) (by omega), Mt.put2_other _ _ _ _ (by omega) (by omega)]
theorem wat_same {xs zs : List Int} {k : Nat} (h0 : xs[k]? = zs[k]?) (h1 : xs[k + 1]? = zs[k + 1]?) : wat xs k = wat zs k := by unfold wat; rw [h0, h1]
theorem wat4_same {xs zs : List Int} {k : Nat} (h : ∀ j, k ≤ j → j < k + 4 → xs[j]? = zs[j]?) : wat4 xs k = wat4 zs k := by
  unfold wat4
  rw [wat_same (h k (by omega) (by omega)) (h (k + 1) (by omega) (by omega)), wat_same (h (k + 2) (by omega) (by omega)) (h (k + 2 + 1) (by omega) (by omega))]
theorem drop_same {xs zs : List Int} {k : Nat} (h : ∀ j, k ≤ j → xs[j]? = zs[j]?) : xs.drop k = zs.drop k := by
  apply List.ext_getElem?
  intro i
  rw [List.getElem?_drop, List.getElem?_drop, h _ (by omega)]
theorem prt_w0 (a b : Int) (zs : List Int) (h : 4 ≤ zs.length) (ha : 0 ≤ a) : wat (prt a b zs) 0 = a := by
  unfold prt
  rw [wat_put2_other _ _ _ _ (by omega), wat_put2 _ _ _ (by omega) ha]
theorem prt_w2 (a b : Int) (zs : List Int) (h : 4 ≤ zs.length) (hb : 0 ≤ b) : wat (prt a b zs) 2 = b := by
  unfold prt
  rw [wat_put2 _ _ _ (by simp [Mt.put2_length]; omega) hb]
theorem rwT_w0 (s d a b : Int) (zs : List Int) (h : 20 ≤ zs.length) (ha : 0 ≤ a) : wat (rwT s d a b zs) 0 = a := by
  unfold rwT
  rw [wat_put2_other _ _ _ _ (by omega), wat_put2_other _ _ _ _ (by omega), prt_w0 _ _ _ (by omega) ha]
theorem rwT_w2 (s d a b : Int) (zs : List Int) (h : 20 ≤ zs.length) (hb : 0 ≤ b) : wat (rwT s d a b zs) 2 = b := by
  unfold rwT
  rw [wat_put2_other _ _ _ _ (by omega), wat_put2_other _ _ _ _ (by omega), prt_w2 _ _ _ (by omega) hb]
theorem rwU_w0 (s d a b : Int) (zs : List Int) (h : 8 ≤ zs.length) (ha : 0 ≤ a) : wat (rwU s d a b zs) 0 = a := by
  unfold rwU
  split
  · exact prt_w0 _ _ _ (by omega) ha
  · rw [wat_put2_other _ _ _ _ (by omega), wat_put2_other _ _ _ _ (by omega), prt_w0 _ _ _ (by omega) ha]
theorem rwU_w2 (s d a b : Int) (zs : List Int) (h : 8 ≤ zs.length) (hb : 0 ≤ b) : wat (rwU s d a b zs) 2 = b := by
  unfold rwU
  split
  · exact prt_w2 _ _ _ (by omega) hb
  · rw [wat_put2_other _ _ _ _ (by omega), wat_put2_other _ _ _ _ (by omega), prt_w2 _ _ _ (by omega) hb]
theorem rwU_w6 (s d a b : Int) (zs : List Int) (h : 8 ≤ zs.length) : (wat (rwU s d a b zs) 6 == 0) = (wat zs 6 == 0) := by
  unfold rwU
  split
  · rename_i h0
    rw [wat_same (prt_other _ _ _ _ (by omega)) (prt_other _ _ _ _ (by omega))]
  · rename_i h0
    have := nbr_bd (Mt.cks_bd (psd s d 17 zs.length ++ Mt.put2 (prt a b zs) 6 0))
    rw [wat_put2 _ _ _ (by simp [Mt.put2_length, prt_length]; omega) (by omega)]
    have e1 : (nbr (Mt.cks (psd s d 17 zs.length ++ Mt.put2 (prt a b zs) 6 0)) == 0) = false := by simp; omega
    have e2 : (wat zs 6 == 0) = false := by simp [h0]
    rw [e1, e2]
theorem rwI_w4 (a : Int) (zs : List Int) (h : 8 ≤ zs.length) (ha : 0 ≤ a) : wat (rwI a zs) 4 = a := by
  unfold rwI
  rw [wat_put2_other _ _ _ _ (by omega), wat_put2_other _ _ _ _ (by omega), wat_put2 _ _ _ (by omega) ha]

/-- Check sums are good. -/
theorem rwT_good {s d a b : Int} {zs : List Int} (h : Mt.By zs) (hl : 20 ≤ zs.length) (hs : 0 ≤ s ∧ s ≤ 4294967295) (hd : 0 ≤ d ∧ d ≤ 4294967295) (ha : 0 ≤ a ∧ a ≤ 65535) (hb : 0 ≤ b ∧ b ≤ 65535) : Mt.cks (psd s d 6 zs.length ++ rwT s d a b zs) = 0 := by
  unfold rwT
  have hz := Mt.put2_at (prt a b zs) 16 0 (by rw [prt_length]; omega)
  refine good_put s d 6 zs.length _ 16 ?_ (by omega) (by simp [Mt.put2_length, prt_length]; omega) (by rw [hz.1]; rfl) (by rw [hz.2]; rfl)
  exact (By_psd s d 6 zs.length hs hd (by omega)).append ((prt_by h ha hb).put2 16 (by omega))
theorem rwU_good {s d a b : Int} {zs : List Int} (h : Mt.By zs) (hl : 8 ≤ zs.length) (hs : 0 ≤ s ∧ s ≤ 4294967295) (hd : 0 ≤ d ∧ d ≤ 4294967295) (ha : 0 ≤ a ∧ a ≤ 65535) (hb : 0 ≤ b ∧ b ≤ 65535) : wat (rwU s d a b zs) 6 ≠ 0 → Mt.cks (psd s d 17 zs.length ++ rwU s d a b zs) = 0 := by
  intro h6
  have h60 : wat zs 6 ≠ 0 := by
    intro e
    have := rwU_w6 s d a b zs hl
    rw [e] at this
    simp at this
    exact h6 this
  unfold rwU
  rw [if_neg h60]
  have hz := Mt.put2_at (prt a b zs) 6 0 (by rw [prt_length]; omega)
  have hBB := (By_psd s d 17 zs.length hs hd (by omega)).append ((prt_by h ha hb).put2 6 (v := 0) (by omega))
  unfold nbr
  split
  · rename_i h0
    exact good_put5 s d 17 zs.length _ 6 hBB (by omega) (by simp [Mt.put2_length, prt_length]; omega) (by rw [hz.1]; rfl) (by rw [hz.2]; rfl) h0
  · exact good_put s d 17 zs.length _ 6 hBB (by omega) (by simp [Mt.put2_length, prt_length]; omega) (by rw [hz.1]; rfl) (by rw [hz.2]; rfl)
theorem good_bare (zs : List Int) (k : Nat) (hB : Mt.By zs) (hk : k % 2 = 0) (hl : k + 1 < zs.length) (h0 : zs[k]?.getD 0 = 0) (h1 : zs[k + 1]?.getD 0 = 0) : Mt.cks (Mt.put2 zs k (Mt.cks zs)) = 0 := by
  have hn := Mt.tw_nonneg true _ hB
  have hg := Mt.fd_good _ hn
  unfold Mt.cks
  rw [Mt.tw_put2 zs k _ hk hl, h0, h1]
  rw [show Mt.tw true zs + (65535 - Mt.fd (Mt.tw true zs)) - (0 * 256 + 0) = Mt.tw true zs + (65535 - Mt.fd (Mt.tw true zs)) from by omega, hg]
  rfl
theorem rwI_good {a : Int} {zs : List Int} (h : Mt.By zs) (hl : 8 ≤ zs.length) (ha : 0 ≤ a ∧ a ≤ 65535) : Mt.cks (rwI a zs) = 0 := by
  have hz := Mt.put2_at (Mt.put2 zs 4 a) 2 0 (by rw [Mt.put2_length]; omega)
  exact good_bare _ 2 ((h.put2 4 ha).put2 2 (by omega)) (by omega) (by simp [Mt.put2_length]; omega) (by rw [hz.1]; rfl) (by rw [hz.2]; rfl)

/-- What is rewritten is not refused. -/
theorem rwT_pte {src dst s d a b : Int} {zs : List Int} (h : Mt.By zs) (hp : pte 6 src dst zs = 0) (hs : 0 ≤ s ∧ s ≤ 4294967295) (hd : 0 ≤ d ∧ d ≤ 4294967295) (ha : 0 ≤ a ∧ a ≤ 65535) (hb : 0 ≤ b ∧ b ≤ 65535) :
    pte 6 s d (rwT s d a b zs) = 0 ∧ thd (rwT s d a b zs) = thd zs ∧ hop (rwT s d a b zs) = hop zs ∧ 20 ≤ zs.length ∧ 20 ≤ thd zs := by
  have hpc : ptc 6 src dst zs = 0 := by
    unfold pte at hp
    split at hp
    · rename_i h1; exact absurd hp h1
    · rename_i h1; simpa using h1
  have hop' : (opts (hop zs)).isNone = false := by
    unfold pte at hp
    rw [if_neg (by simp [hpc])] at hp
    split at hp
    · omega
    · rename_i h1; exact Bool.eq_false_iff.2 h1
  obtain ⟨_, h20, ht20, htl, h16, _⟩ := ptc_zero hpc
  have e12 : (rwT s d a b zs)[12]? = zs[12]? := rwT_other _ _ _ _ _ _ (by omega) (by omega) (by omega)
  have et : thd (rwT s d a b zs) = thd zs := by unfold thd; rw [e12]
  have eh : hop (rwT s d a b zs) = hop zs := by unfold hop; rw [et, drop_same (fun j hj => rwT_other s d a b zs j (by omega) (by omega) (by omega))]
  refine ⟨?_, et, eh, h20, ht20⟩
  have eg := rwT_good h h20 hs hd ha hb
  have ep : ptc 6 s d (rwT s d a b zs) = 0 := by
    unfold ptc
    rw [rwT_length, et, e12, if_neg (by omega), if_neg (by omega), if_neg (by omega), if_neg (by omega), if_neg (by simp [eg])]
  unfold pte
  rw [if_neg (by simp [ep]), eh, if_neg (by simp [hop'])]
theorem rwU_pue {src dst s d a b : Int} {zs : List Int} (h : Mt.By zs) (hp : pue 17 src dst zs = 0) (hs : 0 ≤ s ∧ s ≤ 4294967295) (hd : 0 ≤ d ∧ d ≤ 4294967295) (ha : 0 ≤ a ∧ a ≤ 65535) (hb : 0 ≤ b ∧ b ≤ 65535) :
    pue 17 s d (rwU s d a b zs) = 0 ∧ 8 ≤ zs.length := by
  unfold pue at hp
  rw [if_neg (by omega)] at hp
  split at hp
  · omega
  split at hp
  · omega
  rename_i h8 h4
  have hl : 8 ≤ zs.length := by omega
  refine ⟨?_, hl⟩
  have hg := rwU_good h hl hs hd ha hb
  unfold pue
  rw [rwU_length, wat_same (rwU_other s d a b zs 4 (by omega) (by omega) (by omega)) (rwU_other s d a b zs 5 (by omega) (by omega) (by omega)), if_neg (by omega), if_neg (by omega), if_neg h4, if_neg (fun e => e.2 (hg e.1))]
theorem rwI_oie {a : Int} {zs : List Int} (h : Mt.By zs) (hp : oie zs = 0) (ha : 0 ≤ a ∧ a ≤ 65535) : oie (rwI a zs) = 0 ∧ pie 1 (rwI a zs) = 0 ∧ pie 1 zs = 0 ∧ 8 ≤ zs.length := by
  have hi : pie 1 zs = 0 := by
    unfold oie at hp
    split at hp
    · rename_i h1; exact absurd hp h1
    · rename_i h1; simpa using h1
  have hl : 8 ≤ zs.length := by
    unfold pie at hi
    rw [if_neg (by omega)] at hi
    split at hi <;> omega
  have hi2 : pie 1 (rwI a zs) = 0 := by
    unfold pie
    rw [rwI_length, rwI_good h hl ha, if_neg (by omega), if_neg (by omega), if_neg (by omega)]
  refine ⟨?_, hi2, hi, hl⟩
  unfold oie at hp ⊢
  rw [if_neg (by simp [hi])] at hp
  rw [if_neg (by simp [hi2]), rwI_other a zs 0 (by omega), rwI_other a zs 1 (by omega)]
  exact hp
theorem rwG_pge {b : Int} {zs : List Int} (hp : pge 47 zs = 0) : pge 47 (rwG b zs) = 0 ∧ bgz (rwG b zs) = bgz zs ∧ 8 ≤ zs.length := by
  have hl : 8 ≤ zs.length := by
    unfold pge at hp
    rw [if_neg (by omega)] at hp
    split at hp <;> omega
  have e : ∀ j, j ≠ 6 → j ≠ 7 → (rwG b zs)[j]? = zs[j]? := fun j h1 h2 => Mt.put2_other _ _ _ _ h1 h2
  have eb : bgz (rwG b zs) = bgz zs := by unfold bgz; rw [e 0 (by omega) (by omega), e 1 (by omega) (by omega), e 2 (by omega) (by omega), e 3 (by omega) (by omega)]
  refine ⟨?_, eb, hl⟩
  unfold pge at hp ⊢
  rw [show (rwG b zs).length = zs.length from Mt.put2_length _ _ _, eb, wat_same (e 4 (by omega) (by omega)) (e 5 (by omega) (by omega))]
  exact hp

/-- What is rewritten tells the tuple. -/
theorem rwD_tells {pr src dst s d a b : Int} {zs : List Int} (h : Mt.By zs) (hp : ofe pr src dst zs = 0) (hs : 0 ≤ s ∧ s ≤ 4294967295) (hd : 0 ≤ d ∧ d ≤ 4294967295) (ha : 0 ≤ a ∧ a ≤ 65535) (hb : 0 ≤ b ∧ b ≤ 65535) :
    ofe pr s d (rwD pr s d a b zs) = 0 ∧ ofa pr (rwD pr s d a b zs) = (if pr = 47 then 0 else a) ∧ ofb pr (rwD pr s d a b zs) = (if pr = 1 then a else b) := by
  unfold ofe at hp
  by_cases h6 : pr = 6
  · subst h6
    rw [if_pos rfl] at hp
    obtain ⟨g1, _, _, h20, _⟩ := rwT_pte (s := s) (d := d) (a := a) (b := b) h hp hs hd ha hb
    unfold ofe ofa ofb rwD
    rw [if_pos rfl, if_pos rfl, if_pos rfl, if_pos rfl, if_neg (by omega), if_neg (by omega)]
    exact ⟨g1, rwT_w0 _ _ _ _ _ h20 ha.1, rwT_w2 _ _ _ _ _ h20 hb.1⟩
  rw [if_neg h6] at hp
  by_cases h17 : pr = 17
  · subst h17
    rw [if_pos rfl] at hp
    obtain ⟨g1, h8⟩ := rwU_pue (s := s) (d := d) (a := a) (b := b) h hp hs hd ha hb
    unfold ofe ofa ofb rwD
    rw [if_neg h6, if_neg h6, if_neg h6, if_neg h6, if_pos rfl, if_pos rfl, if_pos rfl, if_pos rfl, if_neg (by omega), if_neg (by omega)]
    exact ⟨g1, rwU_w0 _ _ _ _ _ h8 ha.1, rwU_w2 _ _ _ _ _ h8 hb.1⟩
  rw [if_neg h17] at hp
  by_cases h1 : pr = 1
  · subst h1
    rw [if_pos rfl] at hp
    obtain ⟨g1, _, _, h8⟩ := rwI_oie (a := a) h hp ha
    unfold ofe ofa ofb rwD
    rw [if_neg h6, if_neg h6, if_neg h6, if_neg h6, if_neg h17, if_neg h17, if_neg h17, if_neg h17, if_pos rfl, if_pos rfl, if_pos rfl, if_pos rfl, if_neg (by omega), if_pos rfl]
    exact ⟨g1, rwI_w4 _ _ h8 ha.1, rwI_w4 _ _ h8 ha.1⟩
  rw [if_neg h1] at hp
  by_cases h47 : pr = 47
  · subst h47
    rw [if_pos rfl] at hp
    obtain ⟨g1, _, h8⟩ := rwG_pge (b := b) hp
    unfold ofe ofa ofb rwD
    rw [if_neg h6, if_neg h6, if_neg h6, if_neg h6, if_neg h17, if_neg h17, if_neg h17, if_neg h17, if_neg h1, if_neg h1, if_neg h1, if_neg h1, if_pos rfl, if_pos rfl, if_neg h1]
    refine ⟨g1, rfl, ?_⟩
    rw [getAt2_lit _ 6 6 rfl (by unfold rwG; rw [Mt.put2_length]; omega)]
    exact wat_put2 _ _ _ (by omega) hb.1
  · rw [if_neg h47] at hp
    omega
end Go.Proofs.YtdabhbadcbnkhaaDoor

/- Package mangle: a unit in memory, and what its methods do. -/
namespace Go.Proofs.YtdabhbadcbnkhaaDoor
open Go.RowKit Go.Shelf
set_option maxRecDepth 100000
set_option linter.unusedVariables false
set_option linter.unusedSimpArgs false

/-- A unit's tuples: as it was, as it is to be. -/
structure Un where
  p1 : Int
  s1 : Int
  d1 : Int
  a1 : Int
  b1 : Int
  pr : Int
  s : Int
  d : Int
  a : Int
  b : Int
def unc (u : Un) (bv : Value) : Array Value := #[bv, .int .u8 u.p1, .int .u32 u.s1, .int .u32 u.d1, .int .u16 u.a1, .int .u16 u.b1, .int .u8 u.pr, .int .u32 u.s, .int .u32 u.d, .int .u16 u.a, .int .u16 u.b]
def UB (w : World) (g : Nat) (u : Un) (bv : Value) : Prop := w.heap[g]? = some (.cells (unc u bv) 40 (0, 0))
/-- A unit whose bytes read as zs; whose bytes are the call's own. -/
def UR (w : World) (g : Nat) (u : Un) (zs : List Int) : Prop := ∃ bv, UB w g u bv ∧ Rd w.heap.size w bv zs
def US (base : Nat) (w : World) (g : Nat) (u : Un) (zs : List Int) : Prop := ∃ bv, UB w g u bv ∧ Ow base w bv zs
theorem US.ur {base : Nat} {w : World} {g : Nat} {u : Un} {zs : List Int} (h : US base w g u zs) : UR w g u zs := by
  obtain ⟨bv, h1, h2⟩ := h
  exact ⟨bv, h1, h2.rd⟩
theorem UB.later {w w' : World} {g : Nat} {u : Un} {bv : Value} (h : UB w g u bv) (l : Later w w') : UB w' g u bv := (l.block g (Array.getElem?_eq_some_iff.1 h).1).trans h
theorem UR.later {w w' : World} {g : Nat} {u : Un} {zs : List Int} (h : UR w g u zs) (l : Later w w') : UR w' g u zs := by
  obtain ⟨bv, h1, h2⟩ := h
  exact ⟨bv, h1.later l, (h2.below l).mono l.size⟩
theorem US.later {base : Nat} {w w' : World} {g : Nat} {u : Un} {zs : List Int} (h : US base w g u zs) (l : Later w w') : US base w' g u zs := by
  obtain ⟨bv, h1, h2⟩ := h
  exact ⟨bv, h1.later l, h2.later l⟩
def UQ (base : Nat) (w : World) (g : Nat) (u : Un) (zs : List Int) (e : Ending) (w' : World) : Prop := e = .returned (.tuple #[]) ∧ US base w' g u zs ∧ But (fun q => q = g) w w'

set_option maxHeartbeats 2000000 in
theorem uput_any (base : Nat) (g : Nat) (u : Un) (zs : List Int) (p v : Int) (w : World) (h : UR w g u zs) (hb : base ≤ w.heap.size) (hl : zs.length ≤ 140737488355328) (hv : 0 ≤ v ∧ v ≤ 65535) :
    Calls Tryd.prog 52 #[.pointer (some ⟨g, 0, none⟩), .int .i64 p, .int .u16 v] w fun e w' => UQ base w g u (putAt2 zs p v) e w' := by
  obtain ⟨bv, hU, hI⟩ := h
  obtain ⟨a, cap, rfl, hl1, hm1⟩ := hI.slice
  have CU := block_cell hU
  simp only [unc] at CU
  go_enter Tryd.func52, Tryd.ntmps52
  go_wp2_with fail
  refine (put16_any _ zs p v w hl hI hv).mono ?_
  rintro e w1 ⟨a1, rfl, hO, hb1⟩
  have l1 : Later w w1 := hb1
  have hU1 := hU.later l1
  have C1 := block_cell hU1
  have F1 := block_frozen hU1
  simp only [unc] at C1
  have hB : But (fun q => q = g) w1 (w1.setCell ⟨g, 0, none⟩ (.slice a1 zs.length zs.length)) := But.setCell (E := fun q => q = g) (But.refl _ _) (p := ⟨g, 0, none⟩) rfl _
  have hU2 : UB (w1.setCell ⟨g, 0, none⟩ (.slice a1 zs.length zs.length)) g u (.slice a1 zs.length zs.length) := heap_set1 hU1 0 _
  have HB := hide hB
  have HU2 := hide hU2
  have hO2 := hide (Ow.aside (hO.mono hb) hU1 (by decide) hB)
  clear hB hU2 CU hU hI
  go_wp2_with fail
  go_end0
  exact ⟨rfl, ⟨_, HU2.out, hO2.out⟩, (But.of l1).trans HB.out⟩

theorem uget_any {n : Nat} (g : Nat) (u : Un) (zs : List Int) (hB : Mt.By zs) (p : Int) (w : World) (h : UR w g u zs) :
    Calls Tryd.prog 71 #[.pointer (some ⟨g, 0, none⟩), .int .i64 p] w fun e w' => e = .returned (.int .u16 (getAt2 zs p)) ∧ ∃ n, w' = w.drewN n := by
  obtain ⟨bv, hU, hI⟩ := h
  obtain ⟨a, cap, rfl, hl1, hm1⟩ := hI.slice
  have CU := block_cell hU
  simp only [unc] at CU
  go_enter Tryd.func71, Tryd.ntmps71
  go_wp2_with fail
  refine (get16_at _ zs hB p w hI).mono ?_
  rintro e w1 ⟨rfl, n, rfl⟩
  go_wp2_with fail
  go_ret
  exact ⟨rfl, n, rfl⟩

theorem ubare_any (g : Nat) (u : Un) (zs : List Int) (hB : Mt.By zs) (w : World) (h : UR w g u zs) :
    Calls Tryd.prog 55 #[.pointer (some ⟨g, 0, none⟩)] w fun e w' => e = .returned (.bool (getAt2 zs 6 == 0)) ∧ Later w w' := by
  go_enter Tryd.func55, Tryd.ntmps55
  go_wp2_with fail
  refine (uget_any (n := 0) g u zs hB 6 w h).mono ?_
  rintro e w1 ⟨rfl, n, hq⟩
  have l1 : Later w w1 := by rw [hq]; exact below_draw (Below.refl _ _) n
  clear hq
  go_wp2_with fail
  go_ret
  exact ⟨rfl, l1⟩

theorem notBare_any (x : Int) (w : World) : Calls Tryd.prog 56 #[.int .u16 x] w fun e w' => e = .returned (.int .u16 (nbr x)) ∧ w' = w := by
  by_cases h : x = 0
  · subst h
    go_enter Tryd.func56, Tryd.ntmps56
    go_wp2_with fail
    go_ret
    exact ⟨rfl, rfl⟩
  · have h0 : (x == 0) = false := by simp [h]
    rw [show nbr x = x from by unfold nbr; rw [if_neg h]]
    clear h
    go_enter Tryd.func56, Tryd.ntmps56
    go_wp2_with fail
    go_ret
    exact ⟨rfl, rfl⟩

set_option maxHeartbeats 2000000 in
theorem uports_any (base : Nat) (g : Nat) (u : Un) (zs : List Int) (w : World) (h : UR w g u zs) (hb : base ≤ w.heap.size) (hl : zs.length ≤ 140737488355328) (h4 : 4 ≤ zs.length) (ha : 0 ≤ u.a ∧ u.a ≤ 65535) (hbb : 0 ≤ u.b ∧ u.b ≤ 65535) :
    Calls Tryd.prog 51 #[.pointer (some ⟨g, 0, none⟩)] w fun e w' => UQ base w g u (prt u.a u.b zs) e w' := by
  have HP := hide (fun w (h : UR w g u zs) (hb : base ≤ w.heap.size) => uput_any base g u zs 0 u.a w h hb hl ha)
  rw [putAt2_lit zs 0 0 u.a rfl (by omega)] at HP
  obtain ⟨bv, hU, _⟩ := id h
  have CU := block_cell hU
  simp only [unc] at CU
  go_enter Tryd.func51, Tryd.ntmps51
  go_wp2_with fail
  refine (HP.out w h hb).mono ?_
  rintro e w1 ⟨rfl, hS, b1⟩
  obtain ⟨bv1, hU1, _⟩ := id hS
  have C1 := block_cell hU1
  simp only [unc] at C1
  have hbb1 : base ≤ w1.heap.size := Nat.le_trans hb b1.size
  clear CU hU HP
  go_wp2_with fail
  refine (uput_any base g u _ 2 u.b w1 hS.ur hbb1 (by rw [Mt.put2_length]; exact hl) hbb).mono ?_
  rw [putAt2_lit _ 2 2 u.b rfl (by rw [Mt.put2_length]; omega)]
  rintro e w2 ⟨rfl, hS2, b2⟩
  go_wp2_with fail
  go_end0
  exact ⟨rfl, hS2, b1.trans b2⟩

set_option maxHeartbeats 2000000 in
theorem usummed_any (g : Nat) (u : Un) (zs : List Int) (w : World) (h : UR w g u zs) (hl : 12 + zs.length ≤ 140737488355328) (hsr : 0 ≤ u.s ∧ u.s ≤ 4294967295) (hds : 0 ≤ u.d ∧ u.d ≤ 4294967295) :
    Calls Tryd.prog 54 #[.pointer (some ⟨g, 0, none⟩)] w fun e w' => ∃ a c, e = .returned (.slice a (12 + zs.length) c) ∧ Ow w.heap.size w' (.slice a (12 + zs.length) c) (psd u.s u.d u.pr zs.length ++ zs) ∧ Later w w' := by
  obtain ⟨i0, hi, hz0, hz1, hz2⟩ := info_parts info_u8
  obtain ⟨bv, hU, hI⟩ := h
  obtain ⟨a, cap, rfl, hl1, hm1⟩ := hI.slice
  go_enter Tryd.func54, Tryd.ntmps54
  go_upto_region 1 with fail
  refine anyT_begin (R := Later) 27 rfl (by kernel_rfl) ?_
  have hd : Later w w.drew := Later.drew w
  have hI1 := hI.below hd
  have hs1 : w.heap.size ≤ w.drew.heap.size := hd.size
  have qp : ∀ v1, Later w.drew v1 → ∀ i, v1.cell? ⟨g, i, none⟩ = #[Value.slice a zs.length cap, .int .u8 u.p1, .int .u32 u.s1, .int .u32 u.d1, .int .u16 u.a1, .int .u16 u.b1, .int .u8 u.pr, .int .u32 u.s, .int .u32 u.d, .int .u16 u.a, .int .u16 u.b][i]? := fun v1 h => block_cell (hU.later (hd.trans h))
  generalize w.drew = W1 at *
  refine anyT_val Later.pre 0 rfl (by kernel_rfl) (by kernel_rfl) (by kernel_rfl) (fun _ _ _ _ h => h) rfl ?_; apply Exists.intro; refine ⟨fun v1 hv1 => ?_, ?_⟩; (· (go_simp; rfl)); simp only [Act.put, List.setIfInBounds_toArray, List.set_cons_zero, List.set_cons_succ]
  refine anyT_val Later.pre 1 rfl (by kernel_rfl) (by kernel_rfl) (by kernel_rfl) (fun _ _ _ _ h => h) rfl ?_; apply Exists.intro; refine ⟨fun v1 hv1 => ?_, ?_⟩; (· (go_simp; rfl)); simp only [Act.put, List.setIfInBounds_toArray, List.set_cons_zero, List.set_cons_succ]
  refine anyT_val Later.pre 2 rfl (by kernel_rfl) (by kernel_rfl) (by kernel_rfl) (fun _ _ _ _ h => h) rfl ?_; apply Exists.intro; refine ⟨fun v1 hv1 => ?_, ?_⟩; (· (go_simp; rfl)); simp only [Act.put, List.setIfInBounds_toArray, List.set_cons_zero, List.set_cons_succ]
  refine anyT_val Later.pre 3 rfl (by kernel_rfl) (by kernel_rfl) (by kernel_rfl) (fun _ _ _ _ h => h) rfl ?_; apply Exists.intro; refine ⟨fun v1 hv1 => ?_, ?_⟩; (· (go_simp; rfl)); simp only [Act.put, List.setIfInBounds_toArray, List.set_cons_zero, List.set_cons_succ]
  refine anyT_val Later.pre 4 rfl (by kernel_rfl) (by kernel_rfl) (by kernel_rfl) (fun _ _ _ _ h => h) rfl ?_; apply Exists.intro; refine ⟨fun v1 hv1 => ?_, ?_⟩; (· (go_simp; rfl)); simp only [Act.put, List.setIfInBounds_toArray, List.set_cons_zero, List.set_cons_succ]
  refine anyT_val Later.pre 5 rfl (by kernel_rfl) (by kernel_rfl) (by kernel_rfl) (fun _ _ _ _ h => h) rfl ?_; apply Exists.intro; refine ⟨fun v1 hv1 => ?_, ?_⟩; (· (go_simp; rfl)); simp only [Act.put, List.setIfInBounds_toArray, List.set_cons_zero, List.set_cons_succ]
  refine anyT_val Later.pre 6 rfl (by kernel_rfl) (by kernel_rfl) (by kernel_rfl) (fun _ _ _ _ h => h) rfl ?_; apply Exists.intro; refine ⟨fun v1 hv1 => ?_, ?_⟩; (· (go_simp; rfl)); simp only [Act.put, List.setIfInBounds_toArray, List.set_cons_zero, List.set_cons_succ]
  refine anyT_val Later.pre 7 rfl (by kernel_rfl) (by kernel_rfl) (by kernel_rfl) (fun _ _ _ _ h => h) rfl ?_; apply Exists.intro; refine ⟨fun v1 hv1 => ?_, ?_⟩; (· (go_simp; rfl)); simp only [Act.put, List.setIfInBounds_toArray, List.set_cons_zero, List.set_cons_succ]
  refine anyT_val Later.pre 8 rfl (by kernel_rfl) (by kernel_rfl) (by kernel_rfl) (fun _ _ _ _ h => h) rfl ?_; apply Exists.intro; refine ⟨fun v1 hv1 => ?_, ?_⟩; (· (go_simp; rfl)); simp only [Act.put, List.setIfInBounds_toArray, List.set_cons_zero, List.set_cons_succ]
  refine anyT_val Later.pre 9 rfl (by kernel_rfl) (by kernel_rfl) (by kernel_rfl) (fun _ _ _ _ h => h) rfl ?_; apply Exists.intro; refine ⟨fun v1 hv1 => ?_, ?_⟩; (· (go_simp; rfl)); simp only [Act.put, List.setIfInBounds_toArray, List.set_cons_zero, List.set_cons_succ]
  refine anyT_val Later.pre 10 rfl (by kernel_rfl) (by kernel_rfl) (by kernel_rfl) (fun _ _ _ _ h => h) rfl ?_; apply Exists.intro; refine ⟨fun v1 hv1 => ?_, ?_⟩; (· (go_simp; rfl)); simp only [Act.put, List.setIfInBounds_toArray, List.set_cons_zero, List.set_cons_succ]
  refine anyT_val Later.pre 11 rfl (by kernel_rfl) (by kernel_rfl) (by kernel_rfl) (fun _ _ _ _ h => h) rfl ?_; apply Exists.intro; refine ⟨fun v1 hv1 => ?_, ?_⟩; (· (go_simp; rfl)); simp only [Act.put, List.setIfInBounds_toArray, List.set_cons_zero, List.set_cons_succ]
  refine anyT_val Later.pre 12 rfl (by kernel_rfl) (by kernel_rfl) (by kernel_rfl) (fun _ _ _ _ h => h) rfl ?_; apply Exists.intro; refine ⟨fun v1 hv1 => ?_, ?_⟩; (· (go_simp; rfl)); simp only [Act.put, List.setIfInBounds_toArray, List.set_cons_zero, List.set_cons_succ]
  refine anyT_val Later.pre 13 rfl (by kernel_rfl) (by kernel_rfl) (by kernel_rfl) (fun _ _ _ _ h => h) rfl ?_; apply Exists.intro; refine ⟨fun v1 hv1 => ?_, ?_⟩; (· (go_simp; rfl)); simp only [Act.put, List.setIfInBounds_toArray, List.set_cons_zero, List.set_cons_succ]
  refine anyT_val Later.pre 14 rfl (by kernel_rfl) (by kernel_rfl) (by kernel_rfl) (fun _ _ _ _ h => h) rfl ?_; apply Exists.intro; refine ⟨fun v1 hv1 => ?_, ?_⟩; (· (go_simp; rfl)); simp only [Act.put, List.setIfInBounds_toArray, List.set_cons_zero, List.set_cons_succ]
  refine anyT_val Later.pre 15 rfl (by kernel_rfl) (by kernel_rfl) (by kernel_rfl) (fun _ _ _ _ h => h) rfl ?_; apply Exists.intro; refine ⟨fun v1 hv1 => ?_, ?_⟩; (· (go_simp; rfl)); simp only [Act.put, List.setIfInBounds_toArray, List.set_cons_zero, List.set_cons_succ]
  refine anyT_val Later.pre 16 rfl (by kernel_rfl) (by kernel_rfl) (by kernel_rfl) (fun _ _ _ _ h => h) rfl ?_; apply Exists.intro; refine ⟨fun v1 hv1 => ?_, ?_⟩; (· (go_simp; rfl)); simp only [Act.put, List.setIfInBounds_toArray, List.set_cons_zero, List.set_cons_succ]
  refine anyT_val Later.pre 17 rfl (by kernel_rfl) (by kernel_rfl) (by kernel_rfl) (fun _ _ _ _ h => h) rfl ?_; apply Exists.intro; refine ⟨fun v1 hv1 => ?_, ?_⟩; (· (go_simp; rfl)); simp only [Act.put, List.setIfInBounds_toArray, List.set_cons_zero, List.set_cons_succ]
  refine anyT_val Later.pre 18 rfl (by kernel_rfl) (by kernel_rfl) (by kernel_rfl) (fun _ _ _ _ h => h) rfl ?_; apply Exists.intro; refine ⟨fun v1 hv1 => ?_, ?_⟩; (· (go_simp; rfl)); simp only [Act.put, List.setIfInBounds_toArray, List.set_cons_zero, List.set_cons_succ]
  refine anyT_val Later.pre 19 rfl (by kernel_rfl) (by kernel_rfl) (by kernel_rfl) (fun _ _ _ _ h => h) rfl ?_; apply Exists.intro; refine ⟨fun v1 hv1 => ?_, ?_⟩; (· (go_simp; rfl)); simp only [Act.put, List.setIfInBounds_toArray, List.set_cons_zero, List.set_cons_succ]
  refine anyT_val Later.pre 21 rfl (by kernel_rfl) (by kernel_rfl) (by kernel_rfl) (fun _ _ _ _ h => h) rfl ?_; apply Exists.intro; refine ⟨fun v1 hv1 => ?_, ?_⟩; (· (go_simp; rfl)); simp only [Act.put, List.setIfInBounds_toArray, List.set_cons_zero, List.set_cons_succ]
  refine anyT_val Later.pre 22 rfl (by kernel_rfl) (by kernel_rfl) (by kernel_rfl) (fun _ _ _ _ h => h) rfl ?_; apply Exists.intro; refine ⟨fun v1 hv1 => ?_, ?_⟩; (· (go_simp; rfl)); simp only [Act.put, List.setIfInBounds_toArray, List.set_cons_zero, List.set_cons_succ]
  refine anyT_val Later.pre 23 rfl (by kernel_rfl) (by kernel_rfl) (by kernel_rfl) (fun _ _ _ _ h => h) rfl ?_; apply Exists.intro; refine ⟨fun v1 hv1 => ?_, ?_⟩; (· (go_simp; rfl)); simp only [Act.put, List.setIfInBounds_toArray, List.set_cons_zero, List.set_cons_succ]
  refine anyT_val Later.pre 24 rfl (by kernel_rfl) (by kernel_rfl) (by kernel_rfl) (fun _ _ _ _ h => h) rfl ?_; apply Exists.intro; refine ⟨fun v1 hv1 => ?_, ?_⟩; (· (go_simp; rfl)); simp only [Act.put, List.setIfInBounds_toArray, List.set_cons_zero, List.set_cons_succ]
  refine anyT_one 20 rfl (by kernel_rfl) rfl ?_
  refine wp_enter 70 #[.int .u32 u.s, .int .u32 u.d, .int .u8 u.pr, .int .i64 zs.length] (by go_simp) ?_
  refine (pseudo_any u.s u.d u.pr zs.length hsr hds W1).mono ?_
  rintro e w2 ⟨a2, rfl, hO2, hb2⟩
  refine ⟨hb2, ?_⟩
  simp only [Act.put, List.setIfInBounds_toArray, List.set_cons_zero, List.set_cons_succ]
  have l2 : Later w w2 := hd.trans hb2
  obtain ⟨v3, w3, hr3, hO3, hb3⟩ := run_app_ow (P := Tryd.prog) w2 24 24 W1.heap.size i0 Tryd.underlying24 hi hz0 hz1 hz2 a2 12 _ hO2 (by simp [psd]) w.heap.size _ zs (hI.below l2) (by rw [psd_length]; omega) hb2.size
  refine anyT_one 25 rfl (by kernel_rfl) rfl ?_
  obtain ⟨a3, c3, rfl, _, _⟩ := hO3.slice
  rw [List.length_append, psd_length] at hr3 hO3
  refine wp_app (.tmp 23) (.tmp 27) 24 rfl _ _ rfl rfl _ w3 hr3 ⟨hb3, ?_⟩
  simp only [Act.put, List.setIfInBounds_toArray, List.set_cons_zero, List.set_cons_succ]
  clear qp
  refine anyT_val Later.pre 26 rfl (by kernel_rfl) (by kernel_rfl) (by kernel_rfl) (fun _ _ _ _ h => h) rfl ?_; apply Exists.intro; refine ⟨fun v1 hv1 => ?_, ?_⟩; (· (go_simp; rfl)); simp only [Act.put, List.setIfInBounds_toArray, List.set_cons_zero, List.set_cons_succ]
  refine anyT_done (by kernel_rfl) ?_
  go_wp2_with fail
  go_ret
  exact ⟨a3, c3, rfl, hO3.mono hs1, l2.trans hb3⟩
end Go.Proofs.YtdabhbadcbnkhaaDoor

/- Package mangle: what is done of each protocol. -/
namespace Go.Proofs.YtdabhbadcbnkhaaDoor
open Go.RowKit Go.Shelf
set_option maxRecDepth 100000
set_option linter.unusedVariables false
set_option linter.unusedSimpArgs false

/-- Numbers of a unit's tuples are of their kinds. -/
def UOk (u : Un) : Prop := (0 ≤ u.s ∧ u.s ≤ 4294967295) ∧ (0 ≤ u.d ∧ u.d ≤ 4294967295) ∧ (0 ≤ u.a ∧ u.a ≤ 65535) ∧ (0 ≤ u.b ∧ u.b ≤ 65535)

set_option maxHeartbeats 2000000 in
theorem usegment_any (base : Nat) (g : Nat) (u : Un) (zs : List Int) (w : World) (hB : Mt.By zs) (h : UR w g u zs) (hb : base ≤ w.heap.size) (hl : 12 + zs.length ≤ 140737488355328) (h20 : 20 ≤ zs.length) (hu : UOk u) (hpr : u.pr = 6) :
    Calls Tryd.prog 29 #[.pointer (some ⟨g, 0, none⟩)] w fun e w' => UQ base w g u (rwT u.s u.d u.a u.b zs) e w' := by
  obtain ⟨hs, hd, ha, hbb⟩ := hu
  have H1 := hide (uports_any base g u zs w h hb (by omega) (by omega) ha hbb)
  have hB1 := prt_by hB ha hbb
  have hB2 := hB1.put2 16 (v := 0) (by omega)
  have hL1 := prt_length u.a u.b zs
  have hL2 : (Mt.put2 (prt u.a u.b zs) 16 0).length = zs.length := by rw [Mt.put2_length, hL1]
  have HR : Hid (rwT u.s u.d u.a u.b zs = Mt.put2 (Mt.put2 (prt u.a u.b zs) 16 0) 16 (Mt.cks (psd u.s u.d u.pr (Mt.put2 (prt u.a u.b zs) 16 0).length ++ Mt.put2 (prt u.a u.b zs) 16 0))) := by show _ = _; rw [hL2, hpr]; rfl
  have HPR : Hid (0 ≤ u.pr ∧ u.pr ≤ 255) := by show _ ∧ _; omega
  clear hpr
  have HE := hide (putAt2_lit (prt u.a u.b zs) 16 16 0 rfl (by omega))
  have HE2 := hide (fun v => putAt2_lit (Mt.put2 (prt u.a u.b zs) 16 0) 16 16 v rfl (by omega))
  generalize prt u.a u.b zs = z1 at *
  generalize Mt.put2 z1 16 0 = z2 at *
  have hl1 : z1.length ≤ 140737488355328 := by omega
  have hl2 : 12 + z2.length ≤ 140737488355328 := by omega
  have HL2 := hide hL2
  clear hL1 hL2
  go_enter Tryd.func29, Tryd.ntmps29
  go_wp2_with fail
  refine H1.out.mono ?_
  rintro e w1 ⟨rfl, S1, b1⟩
  go_wp2_with fail
  refine (uput_any base g u z1 16 0 w1 S1.ur (Nat.le_trans hb b1.size) hl1 (by omega)).mono ?_
  rw [HE.out]
  rintro e w2 ⟨rfl, S2, b2⟩
  go_wp2_with fail
  refine (usummed_any g u z2 w2 S2.ur hl2 hs hd).mono ?_
  rintro e w3 ⟨a3, c3, rfl, hO3, l3⟩
  have hBs := (By_psd u.s u.d u.pr z2.length hs hd HPR.out).append hB2
  go_wp2_with fail
  refine (sum_any _ _ hBs (by rw [List.length_append, psd_length]; omega) w3 hO3.rd).mono ?_
  rintro e w4 ⟨rfl, l4⟩
  have l4' : Later w3 w4 := l4
  have hc := Mt.cks_bd (psd u.s u.d u.pr z2.length ++ z2)
  have S4 := (S2.later l3).later l4'
  generalize Mt.cks (psd u.s u.d u.pr z2.length ++ z2) = ck at *
  go_wp2_with fail
  refine (uput_any base g u z2 16 _ w4 S4.ur (Nat.le_trans hb (Nat.le_trans b1.size (Nat.le_trans b2.size (l3.trans l4').size))) (by omega) hc).mono ?_
  rw [HE2.out, ← HR.out]
  rintro e w5 ⟨rfl, S5, b5⟩
  go_wp2_with fail
  go_end0
  exact ⟨rfl, S5, b1.trans (b2.trans ((But.of (l3.trans l4')).trans b5))⟩

set_option maxHeartbeats 2000000 in
theorem udatagram_any (base : Nat) (g : Nat) (u : Un) (zs : List Int) (w : World) (hB : Mt.By zs) (h : UR w g u zs) (hb : base ≤ w.heap.size) (hl : 12 + zs.length ≤ 140737488355328) (h8 : 8 ≤ zs.length) (hu : UOk u) (hpr : u.pr = 17) :
    Calls Tryd.prog 30 #[.pointer (some ⟨g, 0, none⟩)] w fun e w' => UQ base w g u (rwU u.s u.d u.a u.b zs) e w' := by
  obtain ⟨hs, hd, ha, hbb⟩ := hu
  have H1 := hide (uports_any base g u zs w h hb (by omega) (by omega) ha hbb)
  have hB1 := prt_by hB ha hbb
  have hB2 := hB1.put2 6 (v := 0) (by omega)
  have hL1 := prt_length u.a u.b zs
  have hL2 : (Mt.put2 (prt u.a u.b zs) 6 0).length = zs.length := by rw [Mt.put2_length, hL1]
  have H6 : Hid (getAt2 (prt u.a u.b zs) 6 = wat zs 6) := by
    show _ = _
    rw [getAt2_lit _ 6 6 rfl (by omega)]
    exact wat_same (prt_other _ _ _ _ (by omega)) (prt_other _ _ _ _ (by omega))
  have HR : Hid (rwU u.s u.d u.a u.b zs = if wat zs 6 = 0 then prt u.a u.b zs else Mt.put2 (Mt.put2 (prt u.a u.b zs) 6 0) 6 (nbr (Mt.cks (psd u.s u.d u.pr (Mt.put2 (prt u.a u.b zs) 6 0).length ++ Mt.put2 (prt u.a u.b zs) 6 0)))) := by show _ = _; rw [hL2, hpr]; rfl
  have HPR : Hid (0 ≤ u.pr ∧ u.pr ≤ 255) := by show _ ∧ _; omega
  clear hpr
  have HE := hide (putAt2_lit (prt u.a u.b zs) 6 6 0 rfl (by omega))
  have HE2 := hide (fun v => putAt2_lit (Mt.put2 (prt u.a u.b zs) 6 0) 6 6 v rfl (by omega))
  generalize rwU u.s u.d u.a u.b zs = zr at *
  generalize prt u.a u.b zs = z1 at *
  generalize Mt.put2 z1 6 0 = z2 at *
  have hl1 : z1.length ≤ 140737488355328 := by omega
  have hl2 : 12 + z2.length ≤ 140737488355328 := by omega
  clear hL1 hL2
  go_enter Tryd.func30, Tryd.ntmps30
  go_wp2_with fail
  refine H1.out.mono ?_
  rintro e w1 ⟨rfl, S1, b1⟩
  go_wp2_with fail
  refine (ubare_any g u z1 hB1 w1 S1.ur).mono ?_
  rw [H6.out]
  rintro e w2 ⟨rfl, l2⟩
  have S2 := S1.later l2
  have b2 : But (fun q => q = g) w w2 := b1.trans (But.of l2)
  by_cases c0 : wat zs 6 = 0
  · have t0 : (wat zs 6 == 0) = true := by simp [c0]
    have HZ : Hid (zr = z1) := by show _ = _; rw [HR.out, if_pos c0]
    clear c0
    go_wp2_with fail
    go_end0
    exact ⟨rfl, by rw [HZ.out]; exact S2, b2⟩
  have t0 : (wat zs 6 == 0) = false := by simp [c0]
  have HZ : Hid (zr = Mt.put2 z2 6 (nbr (Mt.cks (psd u.s u.d u.pr z2.length ++ z2)))) := by show _ = _; rw [HR.out, if_neg c0]
  clear c0
  go_wp2_with fail
  refine (uput_any base g u z1 6 0 w2 S2.ur (Nat.le_trans hb b2.size) hl1 (by omega)).mono ?_
  rw [HE.out]
  rintro e w3 ⟨rfl, S3, b3⟩
  go_wp2_with fail
  refine (usummed_any g u z2 w3 S3.ur hl2 hs hd).mono ?_
  rintro e w4 ⟨a4, c4, rfl, hO4, l4⟩
  have hBs := (By_psd u.s u.d u.pr z2.length hs hd HPR.out).append hB2
  go_wp2_with fail
  refine (sum_any _ _ hBs (by rw [List.length_append, psd_length]; omega) w4 hO4.rd).mono ?_
  rintro e w5 ⟨rfl, l5⟩
  have l5' : Later w4 w5 := l5
  have S5 := (S3.later l4).later l5'
  have hc := nbr_bd (Mt.cks_bd (psd u.s u.d u.pr z2.length ++ z2))
  generalize Mt.cks (psd u.s u.d u.pr z2.length ++ z2) = ck at *
  go_wp2_with fail
  refine (notBare_any _ w5).mono ?_
  rintro e w6 ⟨rfl, rfl⟩
  go_wp2_with fail
  refine (uput_any base g u z2 6 _ w6 S5.ur (Nat.le_trans hb (Nat.le_trans b2.size (Nat.le_trans b3.size (l4.trans l5').size))) (by omega) (by omega)).mono ?_
  rw [HE2.out, ← HZ.out]
  rintro e w7 ⟨rfl, S7, b7⟩
  go_wp2_with fail
  go_end0
  exact ⟨rfl, S7, b2.trans (b3.trans ((But.of (l4.trans l5')).trans b7))⟩

set_option maxHeartbeats 2000000 in
theorem umessage_any (base : Nat) (g : Nat) (u : Un) (zs : List Int) (w : World) (hB : Mt.By zs) (h : UR w g u zs) (hb : base ≤ w.heap.size) (hl : zs.length ≤ 140737488355328) (h8 : 8 ≤ zs.length) (hu : UOk u) :
    Calls Tryd.prog 31 #[.pointer (some ⟨g, 0, none⟩)] w fun e w' => UQ base w g u (rwI u.a zs) e w' := by
  obtain ⟨hs, hd, ha, hbb⟩ := hu
  have H1 := hide (uput_any base g u zs 4 u.a w h hb hl ha)
  rw [putAt2_lit zs 4 4 u.a rfl (by omega)] at H1
  have hB1 := hB.put2 4 ha
  have hB2 := hB1.put2 2 (v := 0) (by omega)
  have hL1 := Mt.put2_length zs 4 u.a
  have hL2 := Mt.put2_length (Mt.put2 zs 4 u.a) 2 0
  have HR : Hid (rwI u.a zs = Mt.put2 (Mt.put2 (Mt.put2 zs 4 u.a) 2 0) 2 (Mt.cks (Mt.put2 (Mt.put2 zs 4 u.a) 2 0))) := rfl
  have HE := hide (putAt2_lit (Mt.put2 zs 4 u.a) 2 2 0 rfl (by omega))
  have HE2 := hide (fun v => putAt2_lit (Mt.put2 (Mt.put2 zs 4 u.a) 2 0) 2 2 v rfl (by omega))
  generalize Mt.put2 zs 4 u.a = z1 at *
  generalize Mt.put2 z1 2 0 = z2 at *
  have hl1 : z1.length ≤ 140737488355328 := by omega
  have hl2 : z2.length ≤ 140737488355328 := by omega
  clear hL1 hL2
  obtain ⟨bv, hU, _⟩ := id h
  have CU := block_cell hU
  simp only [unc] at CU
  go_enter Tryd.func31, Tryd.ntmps31
  go_wp2_with fail
  refine H1.out.mono ?_
  rintro e w1 ⟨rfl, S1, b1⟩
  clear CU hU
  go_wp2_with fail
  refine (uput_any base g u z1 2 0 w1 S1.ur (Nat.le_trans hb b1.size) hl1 (by omega)).mono ?_
  rw [HE.out]
  rintro e w2 ⟨rfl, S2, b2⟩
  obtain ⟨bv2, hU2, hO2⟩ := id S2
  obtain ⟨a2, c2, rfl, _, _⟩ := hO2.slice
  have C2 := block_cell hU2
  simp only [unc] at C2
  go_wp2_with fail
  refine (sum_any _ _ hB2 hl2 w2 hO2.rd).mono ?_
  rintro e w3 ⟨rfl, l3⟩
  have l3' : Later w2 w3 := l3
  have S3 := S2.later l3'
  have hc := Mt.cks_bd z2
  clear C2 hU2 hO2
  go_wp2_with fail
  refine (uput_any base g u z2 2 _ w3 S3.ur (Nat.le_trans hb (Nat.le_trans b1.size (Nat.le_trans b2.size l3'.size))) hl2 hc).mono ?_
  rw [HE2.out, ← HR.out]
  rintro e w4 ⟨rfl, S4, b4⟩
  go_wp2_with fail
  go_end0
  exact ⟨rfl, S4, b1.trans (b2.trans ((But.of l3').trans b4))⟩

set_option maxHeartbeats 2000000 in
theorem uframe_any (base : Nat) (g : Nat) (u : Un) (zs : List Int) (w : World) (h : UR w g u zs) (hb : base ≤ w.heap.size) (hl : zs.length ≤ 140737488355328) (h8 : 8 ≤ zs.length) (hu : UOk u) :
    Calls Tryd.prog 32 #[.pointer (some ⟨g, 0, none⟩)] w fun e w' => UQ base w g u (rwG u.b zs) e w' := by
  obtain ⟨hs, hd, ha, hbb⟩ := hu
  have H1 := hide (uput_any base g u zs 6 u.b w h hb hl hbb)
  rw [putAt2_lit zs 6 6 u.b rfl (by omega)] at H1
  obtain ⟨bv, hU, _⟩ := id h
  have CU := block_cell hU
  simp only [unc] at CU
  go_enter Tryd.func32, Tryd.ntmps32
  go_wp2_with fail
  refine H1.out.mono ?_
  rintro e w1 ⟨rfl, S1, b1⟩
  go_wp2_with fail
  go_end0
  exact ⟨rfl, S1, b1⟩
end Go.Proofs.YtdabhbadcbnkhaaDoor

/- Package mangle: the map of what is done, and Rewrite. -/
namespace Go.Proofs.YtdabhbadcbnkhaaDoor
open Go.RowKit Go.Shelf
set_option maxRecDepth 100000
set_option linter.unusedVariables false
set_option linter.unusedSimpArgs false

/-- A packet's cells of zeros. -/
abbrev zpk : List Value := [.int .u8 0, .int .u16 0, .bool false, .int .u8 0, .int .u8 0, .int .u32 0, .int .u32 0, .slice none 0 0, .slice none 0 0]

abbrev mth (f : FuncId) (g : Nat) : Value := .func (.func f) #[.pointer (some ⟨g, 0, none⟩)] #[]
def whE (g : Nat) : Array MapEntry := #[⟨.int .u8 6, mth 29 g, 0⟩, ⟨.int .u8 17, mth 30 g, 1⟩, ⟨.int .u8 1, mth 31 g, 2⟩, ⟨.int .u8 47, mth 32 g, 3⟩]

set_option maxHeartbeats 1000000 in
theorem whole_any (g : Nat) (w : World) : Calls Tryd.prog 14 #[.pointer (some ⟨g, 0, none⟩)] w fun e w' => ∃ m, e = .returned (.map (some m)) ∧ Later w w' ∧ w'.heap[m]? = some (.map (whE g) 4) := by
  have hmm := @run_makeMap Tryd.prog
  have hb0 : Below w.heap.size w (w.alloc (.map #[] 0)) := (Below.refl _ _).alloc (Nat.le_refl _) _
  have hM0 := heap_alloc_new w (.map #[] 0)
  obtain ⟨w1, r1, m1, l1⟩ := run_insq (P := Tryd.prog) Tryd.underlying41 Tryd.underlying5 hM0 6 (mth 29 g) (by kernel_rfl)
  obtain ⟨w2, r2, m2, l2⟩ := run_insq (P := Tryd.prog) Tryd.underlying41 Tryd.underlying5 m1 17 (mth 30 g) (by kernel_rfl)
  obtain ⟨w3, r3, m3, l3⟩ := run_insq (P := Tryd.prog) Tryd.underlying41 Tryd.underlying5 m2 1 (mth 31 g) (by kernel_rfl)
  obtain ⟨w4, r4, m4, l4⟩ := run_insq (P := Tryd.prog) Tryd.underlying41 Tryd.underlying5 m3 47 (mth 32 g) (by kernel_rfl)
  have hb4 : Below w.heap.size w w4 := (((hb0.trans (l1 _ (Nat.le_refl _))).trans (l2 _ (Nat.le_refl _))).trans (l3 _ (Nat.le_refl _))).trans (l4 _ (Nat.le_refl _))
  clear m1 m2 m3 l1 l2 l3 l4 hM0 hb0
  have M4 := hide m4
  clear m4
  go_enter Tryd.func14, Tryd.ntmps14
  go_wp2_with fail
  go_ret
  exact ⟨_, rfl, hb4, M4.out⟩

theorem run_findv {P : Program} {q : IntKind} {t kt et : TypeId} (ht : P.underlying t = some (.map kt et)) (hk : P.underlying kt = some (.int q)) {w : World} {b : Nat} {es : Array MapEntry} {c : Nat} (hb : w.heap[b]? = some (.map es c)) (z : Int) (v : Value) (j : Nat)
    (hf : Instr.findNow (.int q) (.int q z) es.toList 0 = some (some (j, v))) : (Instr.lookup t (.map (some b)) (.int q z) false).run P w = .ok v w := by
  have hc : (Instr.checkKey es.isEmpty 10000 kt (.int q z)).run P w = .ok () w := MapKept.run_checkKey (k := .int q z) hk (by simp [MapKept.IsKey]) _ 9999
  simp [Instr.lookup, run_underlying ht, MapKept.run_getObj_map hb, hc, MapKept.run_findKey hk hf, Result.andThen]

/-- What is done of a protocol that has a tuple. -/
def uf (pr : Int) : FuncId := if pr = 6 then 29 else if pr = 17 then 30 else if pr = 1 then 31 else 32
def pok (pr : Int) : Prop := pr = 6 ∨ pr = 17 ∨ pr = 1 ∨ pr = 47
theorem ofe_pok {pr src dst : Int} {zd : List Int} (h : ofe pr src dst zd = 0) : pok pr := by
  unfold ofe at h
  unfold pok
  split at h
  · omega
  split at h
  · omega
  split at h
  · omega
  split at h
  · omega
  · omega
theorem look_uf {pr : Int} (h : pok pr) (g : Nat) {w : World} {m : Nat} (hm : w.heap[m]? = some (.map (whE g) 4)) : (Instr.lookup 41 (.map (some m)) (.int .u8 pr) false).run Tryd.prog w = .ok (mth (uf pr) g) w := by
  rcases h with rfl | rfl | rfl | rfl
  · exact run_findv Tryd.underlying41 Tryd.underlying5 hm 6 _ 0 (by kernel_rfl)
  · exact run_findv Tryd.underlying41 Tryd.underlying5 hm 17 _ 1 (by kernel_rfl)
  · exact run_findv Tryd.underlying41 Tryd.underlying5 hm 1 _ 2 (by kernel_rfl)
  · exact run_findv Tryd.underlying41 Tryd.underlying5 hm 47 _ 3 (by kernel_rfl)
theorem cf_uf {pr : Int} (h : pok pr) (args : Array Value) (w : World) : (callFunc (uf pr) args).run Tryd.prog w = .ok (.enter (uf pr) args) w := by
  rcases h with rfl | rfl | rfl | rfl <;> kernel_rfl
theorem uf_any {pr : Int} {src dst : Int} (base : Nat) (g : Nat) (u : Un) (zs : List Int) (w : World) (hB : Mt.By zs) (h : UR w g u zs) (hb : base ≤ w.heap.size) (hl : 12 + zs.length ≤ 140737488355328) (hu : UOk u) (hpr : u.pr = pr) (ho : ofe pr src dst zs = 0) :
    Calls Tryd.prog (uf pr) #[.pointer (some ⟨g, 0, none⟩)] w fun e w' => UQ base w g u (rwD pr u.s u.d u.a u.b zs) e w' := by
  have hs := hu.1
  have hd := hu.2.1
  have ha := hu.2.2.1
  have hbb := hu.2.2.2
  unfold ofe at ho
  by_cases h6 : pr = 6
  · subst h6
    rw [if_pos rfl] at ho
    rw [show uf 6 = 29 from rfl, show rwD 6 u.s u.d u.a u.b zs = rwT u.s u.d u.a u.b zs from by unfold rwD; rw [if_pos rfl]]
    exact usegment_any base g u zs w hB h hb hl (rwT_pte (s := u.s) (d := u.d) (a := u.a) (b := u.b) hB ho hs hd ha hbb).2.2.2.1 hu hpr
  rw [if_neg h6] at ho
  by_cases h17 : pr = 17
  · subst h17
    rw [if_pos rfl] at ho
    rw [show uf 17 = 30 from rfl, show rwD 17 u.s u.d u.a u.b zs = rwU u.s u.d u.a u.b zs from by unfold rwD; rw [if_neg h6, if_pos rfl]]
    exact udatagram_any base g u zs w hB h hb hl (rwU_pue (s := u.s) (d := u.d) (a := u.a) (b := u.b) hB ho hs hd ha hbb).2 hu hpr
  rw [if_neg h17] at ho
  by_cases h1 : pr = 1
  · subst h1
    rw [if_pos rfl] at ho
    rw [show uf 1 = 31 from rfl, show rwD 1 u.s u.d u.a u.b zs = rwI u.a zs from by unfold rwD; rw [if_neg h6, if_neg h17, if_pos rfl]]
    exact umessage_any base g u zs w hB h hb (by omega) (rwI_oie (a := u.a) hB ho ha).2.2.2 hu
  rw [if_neg h1] at ho
  by_cases h47 : pr = 47
  · subst h47
    rw [if_pos rfl] at ho
    rw [show uf 47 = 32 from rfl, show rwD 47 u.s u.d u.a u.b zs = rwG u.b zs from by unfold rwD; rw [if_neg h6, if_neg h17, if_neg h1]]
    exact uframe_any base g u zs w h hb (by omega) (rwG_pge (b := u.b) ho).2.2 hu
  · rw [if_neg h47] at ho
    omega

/-- What Rewrite refuses with (0: nothing). -/
def rwe (pr tp src dst : Int) (lo : Nat) (zd : List Int) : Int := if pr ≠ tp then 12 else if ofe pr src dst zd ≠ 0 then ofe pr src dst zd else flt lo zd.length
end Go.Proofs.YtdabhbadcbnkhaaDoor

/- Package mangle: Rewrite. -/
namespace Go.Proofs.YtdabhbadcbnkhaaDoor
open Go.RowKit Go.Shelf
set_option maxRecDepth 100000
set_option linter.unusedVariables false
set_option linter.unusedSimpArgs false

theorem later_alloc' (w : World) (o : Obj) : Later w (w.alloc o) := (Below.refl _ _).alloc (Nat.le_refl _) _

set_option maxHeartbeats 16000000 in
theorem rewrite_any (tos id ttl pr src dst : Int) (keep : Bool) (so sd : Value) (zo zd : List Int) (tp s d a b : Int) (w : World) (hT : Tb w) (hBo : Mt.By zo) (hBd : Mt.By zd) (hIo : Rd w.heap.size w so zo) (hId : Rd w.heap.size w sd zd) (hlo : zo.length ≤ 140737488355328) (hl : zd.length ≤ 140737488351232)
    (ht : 0 ≤ tos ∧ tos ≤ 255) (hid : 0 ≤ id ∧ id ≤ 65535) (htt : 0 ≤ ttl ∧ ttl ≤ 255) (hpr : 0 ≤ pr ∧ pr ≤ 255) (hsr : 0 ≤ src ∧ src ≤ 4294967295) (hds : 0 ≤ dst ∧ dst ≤ 4294967295) (hs : 0 ≤ s ∧ s ≤ 4294967295) (hd : 0 ≤ d ∧ d ≤ 4294967295) (ha : 0 ≤ a ∧ a ≤ 65535) (hb : 0 ≤ b ∧ b ≤ 65535) :
    Calls Tryd.prog 6 #[.agg #[.int .u8 tos, .int .u16 id, .bool keep, .int .u8 ttl, .int .u8 pr, .int .u32 src, .int .u32 dst, so, sd], .agg #[.int .u8 tp, .int .u32 s, .int .u32 d, .int .u16 a, .int .u16 b]] w fun e w' => Below w.heap.size w w' ∧ ((rwe pr tp src dst zo.length zd ≠ 0 ∧ e = .returned (.tuple #[.agg zpk.toArray, .int .i64 (rwe pr tp src dst zo.length zd)])) ∨
      (rwe pr tp src dst zo.length zd = 0 ∧ ∃ ao co ad cd, e = .returned (.tuple #[.agg #[.int .u8 tos, .int .u16 id, .bool keep, .int .u8 ttl, .int .u8 pr, .int .u32 s, .int .u32 d, .slice ao zo.length co, .slice ad zd.length cd], .int .i64 0]) ∧ Ow w.heap.size w' (.slice ao zo.length co) zo ∧ Ow w.heap.size w' (.slice ad zd.length cd) (rwD pr s d a b zd))) := by
  obtain ⟨ao, co, rfl, hlo1, hmo1⟩ := hIo.slice
  obtain ⟨ad, cd, rfl, hl1, hm1⟩ := hId.slice
  have hb0 : Below w.heap.size w (((w.alloc (.cells #[.int .u8 tos, .int .u16 id, .bool keep, .int .u8 ttl, .int .u8 pr, .int .u32 src, .int .u32 dst, .slice ao zo.length co, .slice ad zd.length cd] 26)).alloc (.cells #[.int .u8 tp, .int .u32 s, .int .u32 d, .int .u16 a, .int .u16 b] 28)).alloc (.cells zpk.toArray 26)) := (((Below.refl _ _).alloc (Nat.le_refl _) _).alloc (by simp) _).alloc (by simp <;> omega) _
  have p0 : (((w.alloc (.cells #[.int .u8 tos, .int .u16 id, .bool keep, .int .u8 ttl, .int .u8 pr, .int .u32 src, .int .u32 dst, .slice ao zo.length co, .slice ad zd.length cd] 26)).alloc (.cells #[.int .u8 tp, .int .u32 s, .int .u32 d, .int .u16 a, .int .u16 b] 28)).alloc (.cells zpk.toArray 26)).heap[w.heap.size]? = some (.cells #[.int .u8 tos, .int .u16 id, .bool keep, .int .u8 ttl, .int .u8 pr, .int .u32 src, .int .u32 dst, .slice ao zo.length co, .slice ad zd.length cd] 26) := (Below.heap_alloc _ _ _ (by simp <;> omega)).trans ((Below.heap_alloc _ _ _ (by simp)).trans (heap_alloc_new w _))
  have t0 : (((w.alloc (.cells #[.int .u8 tos, .int .u16 id, .bool keep, .int .u8 ttl, .int .u8 pr, .int .u32 src, .int .u32 dst, .slice ao zo.length co, .slice ad zd.length cd] 26)).alloc (.cells #[.int .u8 tp, .int .u32 s, .int .u32 d, .int .u16 a, .int .u16 b] 28)).alloc (.cells zpk.toArray 26)).heap[w.heap.size + 1]? = some (.cells #[.int .u8 tp, .int .u32 s, .int .u32 d, .int .u16 a, .int .u16 b] 28) := by
    have := heap_alloc_new (w.alloc (.cells #[.int .u8 tos, .int .u16 id, .bool keep, .int .u8 ttl, .int .u8 pr, .int .u32 src, .int .u32 dst, .slice ao zo.length co, .slice ad zd.length cd] 26)) (.cells #[.int .u8 tp, .int .u32 s, .int .u32 d, .int .u16 a, .int .u16 b] 28)
    rw [World.size_alloc] at this
    exact (Below.heap_alloc _ _ _ (by simp)).trans this
  have r0 : (((w.alloc (.cells #[.int .u8 tos, .int .u16 id, .bool keep, .int .u8 ttl, .int .u8 pr, .int .u32 src, .int .u32 dst, .slice ao zo.length co, .slice ad zd.length cd] 26)).alloc (.cells #[.int .u8 tp, .int .u32 s, .int .u32 d, .int .u16 a, .int .u16 b] 28)).alloc (.cells zpk.toArray 26)).heap[w.heap.size + 1 + 1]? = some (.cells zpk.toArray 26) := by
    have := heap_alloc_new ((w.alloc (.cells #[.int .u8 tos, .int .u16 id, .bool keep, .int .u8 ttl, .int .u8 pr, .int .u32 src, .int .u32 dst, .slice ao zo.length co, .slice ad zd.length cd] 26)).alloc (.cells #[.int .u8 tp, .int .u32 s, .int .u32 d, .int .u16 a, .int .u16 b] 28)) (.cells zpk.toArray 26)
    simpa only [World.size_alloc] using this
  have P0 := hide p0
  have T0 := hide t0
  have R0 := hide r0
  clear p0 t0 r0
  go_enter Tryd.func6, Tryd.ntmps6
  go_upto_region 1 with fail
  generalize ((w.alloc _).alloc _).alloc _ = W0 at *
  have kP := block_cell P0.out
  have kT := block_cell T0.out
  by_cases c1 : pr = tp
  case neg =>
    have t1 : (pr != tp) = true := by simp [c1]
    have HF : Hid (rwe pr tp src dst zo.length zd = 12) := by show _ = _; unfold rwe; rw [if_pos c1]
    have HNZ : Hid ((12 : Int) ≠ 0) := by show (12 : Int) ≠ 0; decide
    have kR := block_cell R0.out
    have fR := block_frozen R0.out
    clear c1
    go_wp2_with fail
    generalize hV : (((((((((W0.setCell ⟨w.heap.size + 1 + 1, 0, none⟩ _).setCell ⟨w.heap.size + 1 + 1, 1, none⟩ _).setCell ⟨w.heap.size + 1 + 1, 2, none⟩ _).setCell ⟨w.heap.size + 1 + 1, 3, none⟩ _).setCell ⟨w.heap.size + 1 + 1, 4, none⟩ _).setCell ⟨w.heap.size + 1 + 1, 5, none⟩ _).setCell ⟨w.heap.size + 1 + 1, 6, none⟩ _).setCell ⟨w.heap.size + 1 + 1, 7, none⟩ _).setCell ⟨w.heap.size + 1 + 1, 8, none⟩ _) = V8; have hV9 : V8 = putRow W0 (w.heap.size + 1 + 1) 0 zpk := hV.symm; have hb8 : But (fun b => b = w.heap.size + 1 + 1) W0 V8 := by { rw [hV9]; exact putRow_but (E := fun b => b = w.heap.size + 1 + 1) (n := w.heap.size + 1 + 1) rfl _ _ _ _ (But.refl _ _) }; have p8 := putRow_all zpk R0.out rfl; rw [← hV9] at p8; clear hV hV9; have P8 := block_cell p8; have hw8 : Below w.heap.size w V8 := (hb0).trans (hb8.below (hb0).size (fun k h e => by omega)); exact bodyPost_ret (v := .tuple #[.agg zpk.toArray, .int .i64 12]) (by simp [results, Tryd.results6, go_sem, P8, zpk]) rfl ⟨hw8, .inl ⟨by rw [HF.out]; exact HNZ.out, by rw [HF.out]⟩⟩
  subst c1
  have t1 : (pr != pr) = false := by simp
  have hs0 : w.heap.size + 1 + 1 < W0.heap.size := (Array.getElem?_eq_some_iff.1 R0.out).1
  go_upto_region 3 with fail
  go_wp2_with fail
  refine (of_any tos id ttl pr src dst keep _ _ zd W0 (hT.below hb0 hT.pos) hBd ((hId.below hb0).mono hb0.size) (by omega) hsr hds).mono ?_
  obtain ⟨oe, HO⟩ : ∃ e, Hid (ofe pr src dst zd = e) := ⟨_, rfl⟩
  rw [HO.out]
  rintro e w1 ⟨hb1, rfl⟩
  have l1 : Later W0 w1 := hb1
  have hw1 : Below w.heap.size w w1 := Later.below hb0 (Nat.le_refl _) l1
  by_cases c2 : oe = 0
  case neg =>
    rw [otv_no c2]
    have t2 : (oe != 0) = true := by simp [c2]
    have HF : Hid (rwe pr pr src dst zo.length zd = oe) := by show _ = _; unfold rwe; rw [if_neg (by simp), HO.out, if_pos c2]
    have HNZ : Hid (oe ≠ 0) := c2
    have r1 := (l1.block (w.heap.size + 1 + 1) hs0).trans R0.out
    have lA := later_alloc' w1 (.cells #[.int .u8 0, .int .u32 0, .int .u32 0, .int .u16 0, .int .u16 0] 28)
    have r2 := (lA.block (w.heap.size + 1 + 1) (Array.getElem?_eq_some_iff.1 r1).1).trans r1
    have hw2 : Below w.heap.size w (w1.alloc (.cells #[.int .u8 0, .int .u32 0, .int .u32 0, .int .u16 0, .int .u16 0] 28)) := Later.below hw1 (Nat.le_refl _) lA
    have R2 := hide r2
    clear c2 kP kT r1 r2 lA
    go_upto_region 4 with fail
    generalize w1.alloc _ = w2 at *
    have kR := block_cell R2.out
    have fR := block_frozen R2.out
    go_wp2_with fail
    generalize hV : (((((((((w2.setCell ⟨w.heap.size + 1 + 1, 0, none⟩ _).setCell ⟨w.heap.size + 1 + 1, 1, none⟩ _).setCell ⟨w.heap.size + 1 + 1, 2, none⟩ _).setCell ⟨w.heap.size + 1 + 1, 3, none⟩ _).setCell ⟨w.heap.size + 1 + 1, 4, none⟩ _).setCell ⟨w.heap.size + 1 + 1, 5, none⟩ _).setCell ⟨w.heap.size + 1 + 1, 6, none⟩ _).setCell ⟨w.heap.size + 1 + 1, 7, none⟩ _).setCell ⟨w.heap.size + 1 + 1, 8, none⟩ _) = V8; have hV9 : V8 = putRow w2 (w.heap.size + 1 + 1) 0 zpk := hV.symm; have hb8 : But (fun b => b = w.heap.size + 1 + 1) w2 V8 := by { rw [hV9]; exact putRow_but (E := fun b => b = w.heap.size + 1 + 1) (n := w.heap.size + 1 + 1) rfl _ _ _ _ (But.refl _ _) }; have p8 := putRow_all zpk R2.out rfl; rw [← hV9] at p8; clear hV hV9; have P8 := block_cell p8; have hw8 : Below w.heap.size w V8 := (hw2).trans (hb8.below (hw2).size (fun k h e => by omega)); exact bodyPost_ret (v := .tuple #[.agg zpk.toArray, .int .i64 oe]) (by simp [results, Tryd.results6, go_sem, P8, zpk]) rfl ⟨hw8, .inl ⟨by rw [HF.out]; exact HNZ.out, by rw [HF.out]⟩⟩
  subst c2
  have hok := ofe_pok HO.out
  rw [otv_ok]
  have HFL : Hid (rwe pr pr src dst zo.length zd = flt zo.length zd.length) := by show _ = _; unfold rwe; rw [if_neg (by simp), HO.out, if_neg (by simp)]
  generalize ofa pr zd = wa at *
  generalize ofb pr zd = wb at *
  have P1 := hide ((l1.block w.heap.size (by omega)).trans P0.out)
  have T1 := hide ((l1.block (w.heap.size + 1) (by omega)).trans T0.out)
  have R1 := hide ((l1.block (w.heap.size + 1 + 1) hs0).trans R0.out)
  have hs1 : w.heap.size + 1 + 1 < w1.heap.size := Nat.lt_of_lt_of_le hs0 l1.size
  have lA := later_alloc' w1 (.cells #[.int .u8 pr, .int .u32 src, .int .u32 dst, .int .u16 wa, .int .u16 wb] 28)
  have W2 := hide (heap_alloc_new w1 (.cells #[.int .u8 pr, .int .u32 src, .int .u32 dst, .int .u16 wa, .int .u16 wb] 28))
  clear kP kT P0 T0 R0
  go_upto_region 6 with fail
  generalize w1.alloc _ = w2 at *
  have P2 := hide ((lA.block w.heap.size (by omega)).trans P1.out)
  have T2 := hide ((lA.block (w.heap.size + 1) (by omega)).trans T1.out)
  have R2 := hide ((lA.block (w.heap.size + 1 + 1) hs1).trans R1.out)
  have hs2 : w1.heap.size < w2.heap.size := (Array.getElem?_eq_some_iff.1 W2.out).1
  have hw2 : Below w.heap.size w w2 := Later.below hw1 (Nat.le_refl _) lA
  have kP := block_cell P2.out
  have kT := block_cell T2.out
  have kW := block_cell W2.out
  have lB := later_alloc' w2 (.cells #[.slice ad zd.length cd, .int .u8 pr, .int .u32 src, .int .u32 dst, .int .u16 wa, .int .u16 wb, .int .u8 pr, .int .u32 s, .int .u32 d, .int .u16 a, .int .u16 b] 40)
  have U3 : Hid (UB (w2.alloc (.cells #[.slice ad zd.length cd, .int .u8 pr, .int .u32 src, .int .u32 dst, .int .u16 wa, .int .u16 wb, .int .u8 pr, .int .u32 s, .int .u32 d, .int .u16 a, .int .u16 b] 40)) w2.heap.size ⟨pr, src, dst, wa, wb, pr, s, d, a, b⟩ (.slice ad zd.length cd)) := heap_alloc_new w2 _
  clear P1 T1 R1
  go_upto_region 7 with fail
  generalize w2.alloc _ = w3 at *
  clear kP kT kW
  generalize hg : w2.heap.size = g at *
  have P3 := hide ((lB.block w.heap.size (by omega)).trans P2.out)
  have T3 := hide ((lB.block (w.heap.size + 1) (by omega)).trans T2.out)
  have R3 := hide ((lB.block (w.heap.size + 1 + 1) (by omega)).trans R2.out)
  have hw3 : Below w.heap.size w w3 := Later.below hw2 (Nat.le_refl _) lB
  have hg3 : g < w3.heap.size := (Array.getElem?_eq_some_iff.1 U3.out).1
  have hsg : w.heap.size + 1 + 1 < g := by omega
  have hId3 : Rd w3.heap.size w3 (.slice ad zd.length cd) zd := (hId.below hw3).mono hw3.size
  have HG := hide hg
  clear hg lA lB P2 T2 R2 W2 hs2
  refine anyT_begin (R := But (fun q => q = g)) 5 rfl (by kernel_rfl) ?_
  have hdr : Later w3 w3.drew := Later.drew w3
  have P4 := hide ((hdr.block w.heap.size (by omega)).trans P3.out)
  have T4 := hide ((hdr.block (w.heap.size + 1) (by omega)).trans T3.out)
  have R4 := hide ((hdr.block (w.heap.size + 1 + 1) (by omega)).trans R3.out)
  have hUR : UR w3.drew g ⟨pr, src, dst, wa, wb, pr, s, d, a, b⟩ zd := (show UR w3 g ⟨pr, src, dst, wa, wb, pr, s, d, a, b⟩ zd from ⟨_, U3.out, hId3⟩).later hdr
  have hw4 : Below w.heap.size w w3.drew := Later.below hw3 (Nat.le_refl _) hdr
  have hg4 : g < w3.drew.heap.size := Nat.lt_of_lt_of_le hg3 hdr.size
  generalize w3.drew = w4 at *
  have qT : ∀ v1, But (fun q => q = g) w4 v1 → ∀ i, v1.cell? ⟨w.heap.size + 1, i, none⟩ = #[Value.int .u8 pr, .int .u32 s, .int .u32 d, .int .u16 a, .int .u16 b][i]? := fun v1 h => block_cell ((h.block (w.heap.size + 1) (by omega) (by omega)).trans T4.out)
  refine anyT_val (But.pre _) 1 rfl (by kernel_rfl) (by kernel_rfl) (by kernel_rfl) (fun _ _ _ _ h => h) rfl ?_; apply Exists.intro; refine ⟨fun v1 hv1 => ?_, ?_⟩; (· (go_simp; rfl)); simp only [Act.put, List.setIfInBounds_toArray, List.set_cons_zero, List.set_cons_succ]
  refine anyT_val (But.pre _) 2 rfl (by kernel_rfl) (by kernel_rfl) (by kernel_rfl) (fun _ _ _ _ h => h) rfl ?_; apply Exists.intro; refine ⟨fun v1 hv1 => ?_, ?_⟩; (· (go_simp; rfl)); simp only [Act.put, List.setIfInBounds_toArray, List.set_cons_zero, List.set_cons_succ]
  clear qT
  refine anyT_one 0 rfl (by kernel_rfl) rfl ?_
  refine wp_enter 14 #[.pointer (some ⟨g, 0, none⟩)] (by go_simp) ((whole_any g w4).mono ?_)
  rintro e w5 ⟨m, rfl, l5, hm5⟩
  refine ⟨But.of l5, ?_⟩
  simp only [Act.put, List.setIfInBounds_toArray, List.set_cons_zero, List.set_cons_succ]
  have hmg : m ≠ g := by
    intro e
    subst e
    obtain ⟨bv, hx, _⟩ := hUR.later l5
    rw [UB, hm5] at hx
    cases hx
  have qL : ∀ v1, But (fun q => q = g) w5 v1 → (Instr.lookup 41 (.map (some m)) (.int .u8 pr) false).run Tryd.prog v1 = .ok (mth (uf pr) g) v1 := fun v1 h => look_uf hok g ((h.block m (Array.getElem?_eq_some_iff.1 hm5).1 hmg).trans hm5)
  refine anyT_val (But.pre _) 3 rfl (by kernel_rfl) (by kernel_rfl) (by kernel_rfl) (fun _ _ _ _ h => h) rfl ?_; apply Exists.intro; refine ⟨fun v1 hv1 => ?_, ?_⟩; (· (go_simp; rfl)); simp only [Act.put, List.setIfInBounds_toArray, List.set_cons_zero, List.set_cons_succ]
  clear qL
  refine anyT_one 4 rfl (by kernel_rfl) rfl ?_
  have hcf := cf_uf hok #[.pointer (some ⟨g, 0, none⟩)] w5
  refine wp_enter (uf pr) #[.pointer (some ⟨g, 0, none⟩)] (by go_simp) ((uf_any (pr := pr) w.heap.size g ⟨pr, src, dst, wa, wb, pr, s, d, a, b⟩ zd w5 hBd (hUR.later l5) (Nat.le_trans hw4.size l5.size) (by omega) ⟨hs, hd, ha, hb⟩ rfl HO.out).mono ?_)
  rintro e w6 ⟨rfl, S6, b6⟩
  refine ⟨b6, ?_⟩
  simp only [Act.put, List.setIfInBounds_toArray, List.set_cons_zero, List.set_cons_succ]
  refine anyT_done (by kernel_rfl) ?_
  obtain ⟨bv6, hU6, hO6⟩ := S6
  obtain ⟨a6, c6, rfl, _, _⟩ := hO6.slice
  rw [rwD_length] at hU6 hO6
  have b46 : But (fun q => q = g) w4 w6 := (But.of l5).trans b6
  have P6 := hide ((b46.block w.heap.size (by omega) (by omega)).trans P4.out)
  have T6 := hide ((b46.block (w.heap.size + 1) (by omega) (by omega)).trans T4.out)
  have R6 := hide ((b46.block (w.heap.size + 1 + 1) (by omega) (by omega)).trans R4.out)
  have hw6 : Below w.heap.size w w6 := hw4.trans (b46.below hw4.size (fun k hk e => by omega))
  have hg6 : g < w6.heap.size := Nat.lt_of_lt_of_le hg4 b46.size
  have U6 := hide hU6
  have O6 := hide hO6
  clear hU6 hO6 b6 l5 hm5 hmg b46 P4 T4 R4 hUR hw4 hg4 hcf P3 T3 R3 U3 hId3 hw3 hg3 hdr
  go_upto_region 8 with fail
  refine anyT_begin (R := But (fun q => q = w.heap.size)) 17 rfl (by kernel_rfl) ?_
  have hdr : Later w6 w6.drew := Later.drew w6
  have P7 := hide ((hdr.block w.heap.size (by omega)).trans P6.out)
  have T7 := hide ((hdr.block (w.heap.size + 1) (by omega)).trans T6.out)
  have R7 := hide ((hdr.block (w.heap.size + 1 + 1) (by omega)).trans R6.out)
  have U7 := hide (U6.out.later hdr)
  have O7 := hide (O6.out.later hdr)
  have hw7 : Below w.heap.size w w6.drew := Later.below hw6 (Nat.le_refl _) hdr
  have hg7 : g < w6.drew.heap.size := Nat.lt_of_lt_of_le hg6 hdr.size
  generalize w6.drew = w7 at *
  have qT : ∀ v1, But (fun q => q = w.heap.size) w7 v1 → ∀ i, v1.cell? ⟨w.heap.size + 1, i, none⟩ = #[Value.int .u8 pr, .int .u32 s, .int .u32 d, .int .u16 a, .int .u16 b][i]? := fun v1 h => block_cell ((h.block (w.heap.size + 1) (by omega) (by omega)).trans T7.out)
  have qU : ∀ v1, But (fun q => q = w.heap.size) w7 v1 → ∀ i, v1.cell? ⟨g, i, none⟩ = #[Value.slice a6 zd.length c6, .int .u8 pr, .int .u32 src, .int .u32 dst, .int .u16 wa, .int .u16 wb, .int .u8 pr, .int .u32 s, .int .u32 d, .int .u16 a, .int .u16 b][i]? := fun v1 h => block_cell ((h.block g hg7 (by omega)).trans U7.out)
  refine anyT_val (But.pre _) 0 rfl (by kernel_rfl) (by kernel_rfl) (by kernel_rfl) (fun _ _ _ _ h => h) rfl ?_; apply Exists.intro; refine ⟨fun v1 hv1 => ?_, ?_⟩; (· (go_simp; rfl)); simp only [Act.put, List.setIfInBounds_toArray, List.set_cons_zero, List.set_cons_succ]
  refine anyT_val (But.pre _) 1 rfl (by kernel_rfl) (by kernel_rfl) (by kernel_rfl) (fun _ _ _ _ h => h) rfl ?_; apply Exists.intro; refine ⟨fun v1 hv1 => ?_, ?_⟩; (· (go_simp; rfl)); simp only [Act.put, List.setIfInBounds_toArray, List.set_cons_zero, List.set_cons_succ]
  refine anyT_val (But.pre _) 2 rfl (by kernel_rfl) (by kernel_rfl) (by kernel_rfl) (fun _ _ _ _ h => h) rfl ?_; apply Exists.intro; refine ⟨fun v1 hv1 => ?_, ?_⟩; (· (go_simp; rfl)); simp only [Act.put, List.setIfInBounds_toArray, List.set_cons_zero, List.set_cons_succ]
  refine anyT_val (But.pre _) 3 rfl (by kernel_rfl) (by kernel_rfl) (by kernel_rfl) (fun _ _ _ _ h => h) rfl ?_; apply Exists.intro; refine ⟨fun v1 hv1 => ?_, ?_⟩; (· (go_simp; rfl)); simp only [Act.put, List.setIfInBounds_toArray, List.set_cons_zero, List.set_cons_succ]
  refine anyT_val (But.pre _) 4 rfl (by kernel_rfl) (by kernel_rfl) (by kernel_rfl) (fun _ _ _ _ h => h) rfl ?_; apply Exists.intro; refine ⟨fun v1 hv1 => ?_, ?_⟩; (· (go_simp; rfl)); simp only [Act.put, List.setIfInBounds_toArray, List.set_cons_zero, List.set_cons_succ]
  refine anyT_val (But.pre _) 7 rfl (by kernel_rfl) (by kernel_rfl) (by kernel_rfl) (fun _ _ _ _ h => h) rfl ?_; apply Exists.intro; refine ⟨fun v1 hv1 => ?_, ?_⟩; (· (go_simp; rfl)); simp only [Act.put, List.setIfInBounds_toArray, List.set_cons_zero, List.set_cons_succ]
  refine anyT_val (But.pre _) 8 rfl (by kernel_rfl) (by kernel_rfl) (by kernel_rfl) (fun _ _ _ _ h => h) rfl ?_; apply Exists.intro; refine ⟨fun v1 hv1 => ?_, ?_⟩; (· (go_simp; rfl)); simp only [Act.put, List.setIfInBounds_toArray, List.set_cons_zero, List.set_cons_succ]
  clear qT qU
  have kP := block_cell P7.out
  refine anyT_one 5 rfl (by kernel_rfl) rfl ?_
  unfold Oper.wp
  go_simp
  refine ⟨But.refl _ _, ?_⟩
  clear kP
  refine anyT_val (But.pre _) 9 rfl (by kernel_rfl) (by kernel_rfl) (by kernel_rfl) (fun _ _ _ _ h => h) rfl ?_; apply Exists.intro; refine ⟨fun v1 hv1 => ?_, ?_⟩; (· (go_simp; rfl)); simp only [Act.put, List.setIfInBounds_toArray, List.set_cons_zero, List.set_cons_succ]
  refine anyT_one 6 rfl (by kernel_rfl) rfl ?_
  refine wp_enter 15 #[.slice ao zo.length co] (by go_simp) ((cloneb_any _ zo w7 (by omega) ((hIo.below hw7).mono hw7.size)).mono ?_)
  rintro e w8 ⟨a8, c8, rfl, hO8, hb8⟩
  have l8 : Later w7 w8 := hb8
  refine ⟨But.of l8, ?_⟩
  simp only [Act.put, List.setIfInBounds_toArray, List.set_cons_zero, List.set_cons_succ]
  have P8 := hide ((l8.block w.heap.size (by omega)).trans P7.out)
  have R8 := hide ((l8.block (w.heap.size + 1 + 1) (by omega)).trans R7.out)
  have O8 := hide (hO8.mono hw7.size)
  have D8 := hide (O7.out.later l8)
  have hw8 : Below w.heap.size w w8 := Later.below hw7 (Nat.le_refl _) l8
  have hs8 : w.heap.size + 1 + 1 < w8.heap.size := Nat.lt_of_lt_of_le (by omega) l8.size
  have Bw8 : But (fun q => q = w.heap.size) w8 w8 := But.refl _ _
  clear hO8 hb8 P7 T7 R7 U7 O7 hw7 hg7 l8 hdr U6 O6 T6 R6 P6
  have kS := block_cell P8.out
  have fS := block_frozen P8.out
  have P9 := hide (heap_set1 P8.out 5 (.int .u32 s))
  have bt : Hid (But (fun q => q = w.heap.size) w8 (w8.setCell ⟨w.heap.size, 5, none⟩ (.int .u32 s))) := But.setCell (E := fun q => q = w.heap.size) (But.refl _ _) (p := ⟨w.heap.size, 5, none⟩) rfl _
  refine anyT_one 10 rfl (by kernel_rfl) rfl ?_
  unfold Oper.wp
  go_simp
  refine ⟨bt.out, ?_⟩
  have Bw9 := Bw8.trans bt.out
  clear bt kS fS
  generalize w8.setCell ⟨w.heap.size, 5, none⟩ _ = w9 at *
  refine anyT_val (But.pre _) 11 rfl (by kernel_rfl) (by kernel_rfl) (by kernel_rfl) (fun _ _ _ _ h => h) rfl ?_; apply Exists.intro; refine ⟨fun v1 hv1 => ?_, ?_⟩; (· (go_simp; rfl)); simp only [Act.put, List.setIfInBounds_toArray, List.set_cons_zero, List.set_cons_succ]
  have kS := block_cell P9.out
  have fS := block_frozen P9.out
  have P10 := hide (heap_set1 P9.out 6 (.int .u32 d))
  have bt : Hid (But (fun q => q = w.heap.size) w9 (w9.setCell ⟨w.heap.size, 6, none⟩ (.int .u32 d))) := But.setCell (E := fun q => q = w.heap.size) (But.refl _ _) (p := ⟨w.heap.size, 6, none⟩) rfl _
  refine anyT_one 12 rfl (by kernel_rfl) rfl ?_
  unfold Oper.wp
  go_simp
  refine ⟨bt.out, ?_⟩
  have Bw10 := Bw9.trans bt.out
  clear bt kS fS
  generalize w9.setCell ⟨w.heap.size, 6, none⟩ _ = w10 at *
  refine anyT_val (But.pre _) 13 rfl (by kernel_rfl) (by kernel_rfl) (by kernel_rfl) (fun _ _ _ _ h => h) rfl ?_; apply Exists.intro; refine ⟨fun v1 hv1 => ?_, ?_⟩; (· (go_simp; rfl)); simp only [Act.put, List.setIfInBounds_toArray, List.set_cons_zero, List.set_cons_succ]
  have kS := block_cell P10.out
  have fS := block_frozen P10.out
  have P11 := hide (heap_set1 P10.out 7 (.slice a8 zo.length c8))
  have bt : Hid (But (fun q => q = w.heap.size) w10 (w10.setCell ⟨w.heap.size, 7, none⟩ (.slice a8 zo.length c8))) := But.setCell (E := fun q => q = w.heap.size) (But.refl _ _) (p := ⟨w.heap.size, 7, none⟩) rfl _
  refine anyT_one 14 rfl (by kernel_rfl) rfl ?_
  unfold Oper.wp
  go_simp
  refine ⟨bt.out, ?_⟩
  have Bw11 := Bw10.trans bt.out
  clear bt kS fS
  generalize w10.setCell ⟨w.heap.size, 7, none⟩ _ = w11 at *
  refine anyT_val (But.pre _) 15 rfl (by kernel_rfl) (by kernel_rfl) (by kernel_rfl) (fun _ _ _ _ h => h) rfl ?_; apply Exists.intro; refine ⟨fun v1 hv1 => ?_, ?_⟩; (· (go_simp; rfl)); simp only [Act.put, List.setIfInBounds_toArray, List.set_cons_zero, List.set_cons_succ]
  have kS := block_cell P11.out
  have fS := block_frozen P11.out
  have P12 := hide (heap_set1 P11.out 8 (.slice a6 zd.length c6))
  have bt : Hid (But (fun q => q = w.heap.size) w11 (w11.setCell ⟨w.heap.size, 8, none⟩ (.slice a6 zd.length c6))) := But.setCell (E := fun q => q = w.heap.size) (But.refl _ _) (p := ⟨w.heap.size, 8, none⟩) rfl _
  refine anyT_one 16 rfl (by kernel_rfl) rfl ?_
  unfold Oper.wp
  go_simp
  refine ⟨bt.out, ?_⟩
  have Bw12 := Bw11.trans bt.out
  clear bt kS fS
  generalize w11.setCell ⟨w.heap.size, 8, none⟩ _ = w12 at *
  refine anyT_done (by kernel_rfl) ?_
  have P13 : Hid (w12.heap[w.heap.size]? = some (.cells #[.int .u8 tos, .int .u16 id, .bool keep, .int .u8 ttl, .int .u8 pr, .int .u32 s, .int .u32 d, .slice a8 zo.length c8, .slice a6 zd.length c6] 26)) := by have := P12.out; simp at this; exact this
  have R13 := hide ((Bw12.block (w.heap.size + 1 + 1) hs8 (by omega)).trans R8.out)
  have O13 := hide (Ow.aside O8.out P8.out (by decide) Bw12)
  have D13 := hide (Ow.aside D8.out P8.out (by decide) Bw12)
  have hw12 : Below w.heap.size w w12 := hw8.trans (Bw12.below hw8.size (fun k hk e => by omega))
  have hs12 : w.heap.size + 1 + 1 < w12.heap.size := Nat.lt_of_lt_of_le hs8 Bw12.size
  clear P8 P9 P10 P11 P12 R8 O8 D8 Bw8 Bw9 Bw10 Bw11 Bw12 hw8 hs8
  have kP := block_cell P13.out
  obtain ⟨fl, HFF⟩ : ∃ f, Hid (flt zo.length zd.length = f) := ⟨_, rfl⟩
  by_cases c3 : fl = 0
  case neg =>
    have hfn : flt zo.length zd.length ≠ 0 := by rw [HFF.out]; exact c3
    have t3 : (fl != 0) = true := by simp [c3]
    have HF : Hid (rwe pr pr src dst zo.length zd = fl) := by show _ = _; rw [HFL.out, HFF.out]
    have HNZ : Hid (fl ≠ 0) := c3
    have HBN := hide (build_no tos id ttl pr s d keep a8 a6 zo.length c8 zd.length c6 w12 (by omega) (by omega) hfn)
    rw [HFF.out] at HBN
    clear c3 hfn
    go_wp2_with fail
    refine HBN.out.mono ?_
    rintro e w13 ⟨rfl, hb13⟩
    have l13 : Later w12 w13 := hb13
    have R14 := hide ((l13.block (w.heap.size + 1 + 1) hs12).trans R13.out)
    have hw13 : Below w.heap.size w w13 := Later.below hw12 (Nat.le_refl _) l13
    have kR := block_cell R14.out
    have fR := block_frozen R14.out
    clear kP
    go_wp2_with fail
    generalize hV : (((((((((w13.setCell ⟨w.heap.size + 1 + 1, 0, none⟩ _).setCell ⟨w.heap.size + 1 + 1, 1, none⟩ _).setCell ⟨w.heap.size + 1 + 1, 2, none⟩ _).setCell ⟨w.heap.size + 1 + 1, 3, none⟩ _).setCell ⟨w.heap.size + 1 + 1, 4, none⟩ _).setCell ⟨w.heap.size + 1 + 1, 5, none⟩ _).setCell ⟨w.heap.size + 1 + 1, 6, none⟩ _).setCell ⟨w.heap.size + 1 + 1, 7, none⟩ _).setCell ⟨w.heap.size + 1 + 1, 8, none⟩ _) = V8; have hV9 : V8 = putRow w13 (w.heap.size + 1 + 1) 0 zpk := hV.symm; have hb8 : But (fun b => b = w.heap.size + 1 + 1) w13 V8 := by { rw [hV9]; exact putRow_but (E := fun b => b = w.heap.size + 1 + 1) (n := w.heap.size + 1 + 1) rfl _ _ _ _ (But.refl _ _) }; have p8 := putRow_all zpk R14.out rfl; rw [← hV9] at p8; clear hV hV9; have P8 := block_cell p8; have hw8 : Below w.heap.size w V8 := (hw13).trans (hb8.below (hw13).size (fun k h e => by omega)); exact bodyPost_ret (v := .tuple #[.agg zpk.toArray, .int .i64 fl]) (by simp [results, Tryd.results6, go_sem, P8, zpk]) rfl ⟨hw8, .inl ⟨by rw [HF.out]; exact HNZ.out, by rw [HF.out]⟩⟩
  subst c3
  have hfit := flt_fit2 HFF.out
  have HF : Hid (rwe pr pr src dst zo.length zd = 0) := by show _ = _; rw [HFL.out, HFF.out]
  have HBY := hide (build_yes tos id ttl pr s d keep (.slice a8 zo.length c8) (.slice a6 zd.length c6) zo (rwD pr s d a b zd) w12 hBo O13.out.rd D13.out.rd hfit.1 hfit.2.1 (by rw [rwD_length]; exact hfit.2.2) ht hid htt hpr hs hd)
  clear hfit
  go_wp2_with fail
  refine HBY.out.mono ?_
  rintro e w13 ⟨bv, rfl, hOb, hb13⟩
  have l13 : Later w12 w13 := hb13
  have P14 := hide ((l13.block w.heap.size (by omega)).trans P13.out)
  have R14 := hide ((l13.block (w.heap.size + 1 + 1) hs12).trans R13.out)
  have O14 := hide (O13.out.later l13)
  have D14 := hide (D13.out.later l13)
  have hw13 : Below w.heap.size w w13 := Later.below hw12 (Nat.le_refl _) l13
  clear kP hOb HBY hb13 l13 P13 R13 O13 D13
  have kP := block_cell P14.out
  have kR := block_cell R14.out
  have fR := block_frozen R14.out
  go_wp2_with fail
  generalize hV : (((((((((w13.setCell ⟨w.heap.size + 1 + 1, 0, none⟩ _).setCell ⟨w.heap.size + 1 + 1, 1, none⟩ _).setCell ⟨w.heap.size + 1 + 1, 2, none⟩ _).setCell ⟨w.heap.size + 1 + 1, 3, none⟩ _).setCell ⟨w.heap.size + 1 + 1, 4, none⟩ _).setCell ⟨w.heap.size + 1 + 1, 5, none⟩ _).setCell ⟨w.heap.size + 1 + 1, 6, none⟩ _).setCell ⟨w.heap.size + 1 + 1, 7, none⟩ _).setCell ⟨w.heap.size + 1 + 1, 8, none⟩ _) = V8
  have hV9 : V8 = putRow w13 (w.heap.size + 1 + 1) 0 [.int .u8 tos, .int .u16 id, .bool keep, .int .u8 ttl, .int .u8 pr, .int .u32 s, .int .u32 d, .slice a8 zo.length c8, .slice a6 zd.length c6] := hV.symm
  have hb8 : But (fun b => b = w.heap.size + 1 + 1) w13 V8 := by rw [hV9]; exact putRow_but (E := fun b => b = w.heap.size + 1 + 1) (n := w.heap.size + 1 + 1) rfl _ _ _ _ (But.refl _ _)
  have p8 := putRow_all [.int .u8 tos, .int .u16 id, .bool keep, .int .u8 ttl, .int .u8 pr, .int .u32 s, .int .u32 d, .slice a8 zo.length c8, .slice a6 zd.length c6] R14.out rfl
  rw [← hV9] at p8
  clear hV hV9
  have P8 := block_cell p8
  have hw8 : Below w.heap.size w V8 := hw13.trans (hb8.below hw13.size (fun k h e => by omega))
  exact bodyPost_ret (v := .tuple #[.agg #[.int .u8 tos, .int .u16 id, .bool keep, .int .u8 ttl, .int .u8 pr, .int .u32 s, .int .u32 d, .slice a8 zo.length c8, .slice a6 zd.length c6], .int .i64 0]) (by simp [results, Tryd.results6, go_sem, P8]) rfl ⟨hw8, .inr ⟨HF.out, a8, c8, a6, c6, rfl, Ow.aside O14.out R14.out (by decide) hb8, Ow.aside D14.out R14.out (by decide) hb8⟩⟩
end Go.Proofs.YtdabhbadcbnkhaaDoor

/- The document's With: a packet with other data, of its own. -/
namespace Go.Proofs.YtdabhbadcbnkhaaDoor
open Go.RowKit Go.Shelf
set_option maxRecDepth 100000
set_option linter.unusedVariables false
set_option linter.unusedSimpArgs false

/-- Bytes of one's own stay where another block turns that holds no bytes. -/
theorem Ow.apart {base mb : Nat} {W W' : World} {v : Value} {zs : List Int} {cur : Array Value} {t : TypeId} (h : Ow base W v zs) (hm : W.heap[mb]? = some (.cells cur t (0, 0))) (ht : t ≠ 5) (hb : But (fun b => b = mb) W W') : Ow base W' v zs := by
  rcases h with h | ⟨g, cap, c, h1, h2, h3, h4, h5, h6, h7⟩
  · exact .inl h
  · refine .inr ⟨g, cap, c, h1, h2, h3, h4, h5, (hb.block g (Array.getElem?_eq_some_iff.1 h6).1 (fun e => ?_)).trans h6, h7⟩
    subst e
    rw [hm] at h6
    simp at h6
    exact ht h6.2

set_option maxHeartbeats 8000000 in
theorem rwith_any (tos id ttl proto src dst pr : Int) (keep : Bool) (so sx : Value) (ad : Option Addr) (ld cd : Nat) (zo zx : List Int) (w : World) (hIo : Rd w.heap.size w so zo) (hIx : Rd w.heap.size w sx zx) (h1 : zo.length ≤ 140737488355328) (h2 : zx.length ≤ 140737488355328) :
    Calls Tryd.prog 35 #[.agg #[.int .u8 tos, .int .u16 id, .bool keep, .int .u8 ttl, .int .u8 proto, .int .u32 src, .int .u32 dst, so, .slice ad ld cd], .int .u8 pr, sx] w fun e w' => Below w.heap.size w w' ∧ ((flt zo.length zx.length ≠ 0 ∧ e = .returned (.tuple #[.agg #[.int .u8 0, .int .u16 0, .bool false, .int .u8 0, .int .u8 0, .int .u32 0, .int .u32 0, .slice none 0 0, .slice none 0 0], .int .i64 (flt zo.length zx.length)])) ∨
      (flt zo.length zx.length = 0 ∧ ∃ a7 c7 a8 c8, e = .returned (.tuple #[.agg #[.int .u8 tos, .int .u16 id, .bool keep, .int .u8 ttl, .int .u8 pr, .int .u32 src, .int .u32 dst, .slice a7 zo.length c7, .slice a8 zx.length c8], .int .i64 0]) ∧ Ow w.heap.size w' (.slice a7 zo.length c7) zo ∧ Ow w.heap.size w' (.slice a8 zx.length c8) zx)) := by
  obtain ⟨ao, co, rfl, _, _⟩ := hIo.slice
  obtain ⟨ax, cx, rfl, _, _⟩ := hIx.slice
  have hb0 : Below w.heap.size w ((w.alloc (.cells #[.int .u8 tos, .int .u16 id, .bool keep, .int .u8 ttl, .int .u8 proto, .int .u32 src, .int .u32 dst, .slice ao zo.length co, .slice ad ld cd] 26)).alloc (.cells #[.int .u8 0, .int .u16 0, .bool false, .int .u8 0, .int .u8 0, .int .u32 0, .int .u32 0, .slice none 0 0, .slice none 0 0] 26)) := ((Below.refl _ _).alloc (Nat.le_refl _) _).alloc (by simp) _
  by_cases c1 : 40 < zo.length
  · have t1 : (40 : Int) < zo.length := by omega
    have HF : Hid (flt zo.length zx.length = 4) := by show _ = _; unfold flt; rw [if_pos (.inl c1)]
    go_enter Tryd.func35, Tryd.ntmps35
    go_wp2_with fail
    exact bodyPost_ret (v := .tuple #[.agg #[.int .u8 0, .int .u16 0, .bool false, .int .u8 0, .int .u8 0, .int .u32 0, .int .u32 0, .slice none 0 0, .slice none 0 0], .int .i64 4]) (by simp [results, Tryd.results35, go_sem]) rfl ⟨hb0, .inl ⟨by rw [HF.out]; decide, by rw [HF.out]⟩⟩
  · have t1 : ¬ (40 : Int) < zo.length := by omega
    by_cases c2 : zo.length % 4 = 0
    · have t2 : ((zo.length : Int) % 4 != 0) = false := by simp; omega
      by_cases c3 : 65535 < 20 + zo.length + zx.length
      · have t3 : (65535 : Int) < 20 + zo.length + zx.length := by omega
        have HF : Hid (flt zo.length zx.length = 8) := by show _ = _; unfold flt; rw [if_neg (by omega), if_pos c3]
        go_enter Tryd.func35, Tryd.ntmps35
        go_wp2_with fail
        exact bodyPost_ret (v := .tuple #[.agg #[.int .u8 0, .int .u16 0, .bool false, .int .u8 0, .int .u8 0, .int .u32 0, .int .u32 0, .slice none 0 0, .slice none 0 0], .int .i64 8]) (by simp [results, Tryd.results35, go_sem]) rfl ⟨hb0, .inl ⟨by rw [HF.out]; decide, by rw [HF.out]⟩⟩
      · have t3 : ¬ (65535 : Int) < 20 + zo.length + zx.length := by omega
        have HF : Hid (flt zo.length zx.length = 0) := by show _ = _; unfold flt; rw [if_neg (by omega), if_neg c3]
        go_enter Tryd.func35, Tryd.ntmps35
        obtain ⟨i0, hi, hz0, hz1, hz2⟩ := info_parts info_u8
        go_upto_region 7 with fail
        have p1 : (((w.alloc (.cells #[.int .u8 tos, .int .u16 id, .bool keep, .int .u8 ttl, .int .u8 proto, .int .u32 src, .int .u32 dst, .slice ao zo.length co, .slice ad ld cd] 26)).alloc (.cells #[.int .u8 0, .int .u16 0, .bool false, .int .u8 0, .int .u8 0, .int .u32 0, .int .u32 0, .slice none 0 0, .slice none 0 0] 26)).alloc (.cells #[.int .u8 tos, .int .u16 id, .bool keep, .int .u8 ttl, .int .u8 pr, .int .u32 src, .int .u32 dst, .slice ao zo.length co, .slice ad ld cd] 26)).heap[w.heap.size]? = some (.cells #[.int .u8 tos, .int .u16 id, .bool keep, .int .u8 ttl, .int .u8 proto, .int .u32 src, .int .u32 dst, .slice ao zo.length co, .slice ad ld cd] 26) := (Below.heap_alloc _ _ _ (by simp; omega)).trans ((Below.heap_alloc _ _ _ (by simp)).trans (heap_alloc_new w _))
        have r1 : (((w.alloc (.cells #[.int .u8 tos, .int .u16 id, .bool keep, .int .u8 ttl, .int .u8 proto, .int .u32 src, .int .u32 dst, .slice ao zo.length co, .slice ad ld cd] 26)).alloc (.cells #[.int .u8 0, .int .u16 0, .bool false, .int .u8 0, .int .u8 0, .int .u32 0, .int .u32 0, .slice none 0 0, .slice none 0 0] 26)).alloc (.cells #[.int .u8 tos, .int .u16 id, .bool keep, .int .u8 ttl, .int .u8 pr, .int .u32 src, .int .u32 dst, .slice ao zo.length co, .slice ad ld cd] 26)).heap[w.heap.size + 1]? = some (.cells #[.int .u8 0, .int .u16 0, .bool false, .int .u8 0, .int .u8 0, .int .u32 0, .int .u32 0, .slice none 0 0, .slice none 0 0] 26 (0, 0)) := by
          have := heap_alloc_new (w.alloc (.cells #[.int .u8 tos, .int .u16 id, .bool keep, .int .u8 ttl, .int .u8 proto, .int .u32 src, .int .u32 dst, .slice ao zo.length co, .slice ad ld cd] 26)) (.cells #[.int .u8 0, .int .u16 0, .bool false, .int .u8 0, .int .u8 0, .int .u32 0, .int .u32 0, .slice none 0 0, .slice none 0 0] 26)
          rw [World.size_alloc] at this
          exact (Below.heap_alloc _ _ _ (by simp)).trans this
        have qq : (((w.alloc (.cells #[.int .u8 tos, .int .u16 id, .bool keep, .int .u8 ttl, .int .u8 proto, .int .u32 src, .int .u32 dst, .slice ao zo.length co, .slice ad ld cd] 26)).alloc (.cells #[.int .u8 0, .int .u16 0, .bool false, .int .u8 0, .int .u8 0, .int .u32 0, .int .u32 0, .slice none 0 0, .slice none 0 0] 26)).alloc (.cells #[.int .u8 tos, .int .u16 id, .bool keep, .int .u8 ttl, .int .u8 pr, .int .u32 src, .int .u32 dst, .slice ao zo.length co, .slice ad ld cd] 26)).heap[w.heap.size + 1 + 1]? = some (.cells #[.int .u8 tos, .int .u16 id, .bool keep, .int .u8 ttl, .int .u8 pr, .int .u32 src, .int .u32 dst, .slice ao zo.length co, .slice ad ld cd] 26) := by
          have := heap_alloc_new ((w.alloc (.cells #[.int .u8 tos, .int .u16 id, .bool keep, .int .u8 ttl, .int .u8 proto, .int .u32 src, .int .u32 dst, .slice ao zo.length co, .slice ad ld cd] 26)).alloc (.cells #[.int .u8 0, .int .u16 0, .bool false, .int .u8 0, .int .u8 0, .int .u32 0, .int .u32 0, .slice none 0 0, .slice none 0 0] 26)) (.cells #[.int .u8 tos, .int .u16 id, .bool keep, .int .u8 ttl, .int .u8 pr, .int .u32 src, .int .u32 dst, .slice ao zo.length co, .slice ad ld cd] 26)
          simpa using this
        have hw1 : Below w.heap.size w (((w.alloc (.cells #[.int .u8 tos, .int .u16 id, .bool keep, .int .u8 ttl, .int .u8 proto, .int .u32 src, .int .u32 dst, .slice ao zo.length co, .slice ad ld cd] 26)).alloc (.cells #[.int .u8 0, .int .u16 0, .bool false, .int .u8 0, .int .u8 0, .int .u32 0, .int .u32 0, .slice none 0 0, .slice none 0 0] 26)).alloc (.cells #[.int .u8 tos, .int .u16 id, .bool keep, .int .u8 ttl, .int .u8 pr, .int .u32 src, .int .u32 dst, .slice ao zo.length co, .slice ad ld cd] 26)) := hb0.alloc (by simp; omega) _
        generalize ((w.alloc (.cells #[.int .u8 tos, .int .u16 id, .bool keep, .int .u8 ttl, .int .u8 proto, .int .u32 src, .int .u32 dst, .slice ao zo.length co, .slice ad ld cd] 26)).alloc (.cells #[.int .u8 0, .int .u16 0, .bool false, .int .u8 0, .int .u8 0, .int .u32 0, .int .u32 0, .slice none 0 0, .slice none 0 0] 26)).alloc (.cells #[.int .u8 tos, .int .u16 id, .bool keep, .int .u8 ttl, .int .u8 pr, .int .u32 src, .int .u32 dst, .slice ao zo.length co, .slice ad ld cd] 26) = W1 at *
        have hs1 : w.heap.size + 1 + 1 < W1.heap.size := (Array.getElem?_eq_some_iff.1 qq).1
        clear t1 t2 t3 c1 c2
        have P1 := block_cell (((Below.refl W1.heap.size W1).alloc (Nat.le_refl _) (.cells #[] 5)).block w.heap.size (by omega) |>.trans p1)
        have la2 : Below W1.heap.size W1 (W1.alloc (.cells #[] 5)) := (Below.refl _ _).alloc (Nat.le_refl _) _
        have ra2 : Rd W1.heap.size (W1.alloc (.cells #[] 5)) _ zo := ((hIo.below hw1).mono hw1.size).below la2
        go_upto_region 8 with (at_builtin; refine wpList_app _ rfl (.tmp 33) (.tmp 35) 24 rfl W1.heap.size 5 i0 Tryd.underlying24 hi hz0 hz1 hz2 _ [] rfl (own_empty W1 _) W1.heap.size _ zo rfl ra2 (by simp; omega) (by simp) ?_; intro v2 w2 ho2 hg2; have hb2 := below_app la2 (own_empty W1 _) hg2 (Nat.le_refl _) la2.size; clear hg2; simp only [List.nil_append] at ho2; have hO2 := Ow.of_row ho2; clear ho2; obtain ⟨a2, c2, rfl, hp2, hm2⟩ := hO2.slice; have q2 := (hb2.block (w.heap.size + 1 + 1) (Array.getElem?_eq_some_iff.1 qq).1).trans qq; have Q2 := block_cell q2; have F2 := block_frozen q2)
        have b2 : But (fun b => b = w.heap.size + 1 + 1) w2 (w2.setCell ⟨w.heap.size + 1 + 1, 7, none⟩ (.slice a2 zo.length c2)) := (But.refl (fun b => b = w.heap.size + 1 + 1) _).setCell (p := ⟨w.heap.size + 1 + 1, 7, none⟩) rfl _
        have qq2 : (w2.setCell ⟨w.heap.size + 1 + 1, 7, none⟩ (.slice a2 zo.length c2)).heap[w.heap.size + 1 + 1]? = some (.cells #[.int .u8 tos, .int .u16 id, .bool keep, .int .u8 ttl, .int .u8 pr, .int .u32 src, .int .u32 dst, .slice a2 zo.length c2, .slice ad ld cd] 26 (0, 0)) := heap_set1 q2 7 _
        have hO3 := hO2.apart q2 (by decide) b2
        have r3 := (b2.block (w.heap.size + 1) (Nat.lt_of_lt_of_le (Array.getElem?_eq_some_iff.1 r1).1 hb2.size) (by omega)).trans ((hb2.block (w.heap.size + 1) (Array.getElem?_eq_some_iff.1 r1).1).trans r1)
        have hw2 := hw1.trans (hb2.mono hw1.size)
        have hw3 : Below w.heap.size w _ := hw2.trans (b2.below hw2.size (fun k hk e => by omega))
        clear Q2 F2 P1 q2 b2 ra2 la2
        generalize w2.setCell ⟨w.heap.size + 1 + 1, 7, none⟩ (.slice a2 zo.length c2) = W3 at *
        clear qq
        have qq := qq2
        clear qq2
        have la4 : Below W3.heap.size W3 (W3.alloc (.cells #[] 5)) := (Below.refl _ _).alloc (Nat.le_refl _) _
        have ra4 : Rd W3.heap.size (W3.alloc (.cells #[] 5)) _ zx := ((hIx.below hw3).mono hw3.size).below la4
        go_upto_region 9 with (at_builtin; refine wpList_app _ rfl (.tmp 38) (.tmp 39) 24 rfl W3.heap.size 5 i0 Tryd.underlying24 hi hz0 hz1 hz2 _ [] rfl (own_empty W3 _) W3.heap.size _ zx rfl ra4 (by simp; omega) (by simp) ?_; intro v4 w4 ho4 hg4; have hb4 := below_app la4 (own_empty W3 _) hg4 (Nat.le_refl _) la4.size; clear hg4; simp only [List.nil_append] at ho4; have hO4 := Ow.of_row ho4; clear ho4; obtain ⟨a4, c4, rfl, hp4, hm4⟩ := hO4.slice; have q4 := (hb4.block (w.heap.size + 1 + 1) (Array.getElem?_eq_some_iff.1 qq).1).trans qq; have Q4 := block_cell q4; have F4 := block_frozen q4)
        have b4 : But (fun b => b = w.heap.size + 1 + 1) w4 (w4.setCell ⟨w.heap.size + 1 + 1, 8, none⟩ (.slice a4 zx.length c4)) := (But.refl (fun b => b = w.heap.size + 1 + 1) _).setCell (p := ⟨w.heap.size + 1 + 1, 8, none⟩) rfl _
        have qq4 : (w4.setCell ⟨w.heap.size + 1 + 1, 8, none⟩ (.slice a4 zx.length c4)).heap[w.heap.size + 1 + 1]? = some (.cells #[.int .u8 tos, .int .u16 id, .bool keep, .int .u8 ttl, .int .u8 pr, .int .u32 src, .int .u32 dst, .slice a2 zo.length c2, .slice a4 zx.length c4] 26 (0, 0)) := heap_set1 q4 8 _
        have hO5 := hO4.apart q4 (by decide) b4
        have hO6 := (hO3.later hb4).apart q4 (by decide) b4
        have r5 := (b4.block (w.heap.size + 1) (Nat.lt_of_lt_of_le (Array.getElem?_eq_some_iff.1 r3).1 hb4.size) (by omega)).trans ((hb4.block (w.heap.size + 1) (Array.getElem?_eq_some_iff.1 r3).1).trans r3)
        have hw4 := hw3.trans (hb4.mono hw3.size)
        have hw5 : Below w.heap.size w _ := hw4.trans (b4.below hw4.size (fun k hk e => by omega))
        clear Q4 F4 q4 b4 ra4 la4
        generalize w4.setCell ⟨w.heap.size + 1 + 1, 8, none⟩ (.slice a4 zx.length c4) = W5 at *
        have hs3 := (Array.getElem?_eq_some_iff.1 r3).1
        have Q5 := block_cell qq4
        have R5 := block_cell r5
        have F5 := block_frozen r5
        go_wp2_with fail
        generalize hV : ((((((((W5.setCell ⟨w.heap.size + 1, 0, none⟩ _).setCell ⟨w.heap.size + 1, 1, none⟩ _).setCell ⟨w.heap.size + 1, 2, none⟩ _).setCell ⟨w.heap.size + 1, 3, none⟩ _).setCell ⟨w.heap.size + 1, 4, none⟩ _).setCell ⟨w.heap.size + 1, 5, none⟩ _).setCell ⟨w.heap.size + 1, 6, none⟩ _).setCell ⟨w.heap.size + 1, 7, none⟩ _).setCell ⟨w.heap.size + 1, 8, none⟩ _ = V8
        have hV9 : V8 = putRow W5 (w.heap.size + 1) 0 [Value.int .u8 tos, .int .u16 id, .bool keep, .int .u8 ttl, .int .u8 pr, .int .u32 src, .int .u32 dst, .slice a2 zo.length c2, .slice a4 zx.length c4] := hV.symm
        have hb8 : But (fun b => b = w.heap.size + 1) W5 V8 := by rw [hV9]; exact putRow_but (E := fun b => b = w.heap.size + 1) (n := w.heap.size + 1) rfl _ _ _ _ (But.refl _ _)
        have p8 := putRow_all [Value.int .u8 tos, .int .u16 id, .bool keep, .int .u8 ttl, .int .u8 pr, .int .u32 src, .int .u32 dst, .slice a2 zo.length c2, .slice a4 zx.length c4] r5 rfl
        rw [← hV9] at p8
        clear hV hV9
        have P8 := block_cell p8
        have hw8 : Below w.heap.size w V8 := (hw5).trans (hb8.below (hw5).size (fun k h e => by omega))
        exact bodyPost_ret (v := .tuple #[.agg #[.int .u8 tos, .int .u16 id, .bool keep, .int .u8 ttl, .int .u8 pr, .int .u32 src, .int .u32 dst, .slice a2 zo.length c2, .slice a4 zx.length c4], .int .i64 0]) (by simp [results, Tryd.results35, go_sem, P8]) rfl (⟨hw8, .inr ⟨HF.out, a2, c2, a4, c4, rfl, (hO6.apart r5 (by decide) hb8).mono (by omega), (hO5.apart r5 (by decide) hb8).mono (by omega)⟩⟩)
    · have t2 : ((zo.length : Int) % 4 != 0) = true := by simp; omega
      have HF : Hid (flt zo.length zx.length = 4) := by show _ = _; unfold flt; rw [if_pos (.inr c2)]
      go_enter Tryd.func35, Tryd.ntmps35
      go_wp2_with fail
      exact bodyPost_ret (v := .tuple #[.agg #[.int .u8 0, .int .u16 0, .bool false, .int .u8 0, .int .u8 0, .int .u32 0, .int .u32 0, .slice none 0 0, .slice none 0 0], .int .i64 4]) (by simp [results, Tryd.results35, go_sem]) rfl ⟨hb0, .inl ⟨by rw [HF.out]; decide, by rw [HF.out]⟩⟩
end Go.Proofs.YtdabhbadcbnkhaaDoor

/- The document's BuildIcmp. -/
namespace Go.Proofs.YtdabhbadcbnkhaaDoor
open Go.RowKit Go.Shelf
set_option maxRecDepth 100000
set_option linter.unusedVariables false
set_option linter.unusedSimpArgs false

theorem flt_none (lo : Nat) (h : flt lo 0 ≠ 0) (n : Nat) : flt lo 0 = 4 ∧ flt lo n = 4 := by
  unfold flt at *
  by_cases c : 40 < lo ∨ lo % 4 ≠ 0
  · rw [if_pos c, if_pos c]; exact ⟨rfl, rfl⟩
  · rw [if_neg c, if_neg (by omega)] at h
    exact absurd rfl h
theorem flt_some (lo : Nat) (h : flt lo 0 = 0) (n : Nat) : flt lo n = (if 65535 < 20 + lo + n then 8 else 0) := by
  unfold flt at *
  by_cases c : 40 < lo ∨ lo % 4 ≠ 0
  · rw [if_pos c] at h; exact absurd h (by decide)
  · rw [if_neg c]
theorem own_four (w : World) (a b c d : Int) : (w.alloc (.cells #[.int .u8 a, .int .u8 b, .int .u8 c, .int .u8 d] 5)).ownsRow w.heap.size 5 1 (.slice (some ⟨w.heap.size, 0, none⟩) 4 4) [a, b, c, d].length ([a, b, c, d].map (Value.int .u8)) :=
  ⟨rfl, .inr ⟨w.heap.size, 4, _, rfl, Nat.le_refl _, heap_alloc_new w _, by simp, by simp [maxLen], rfl, rfl⟩⟩

theorem but_app {base n size : Nat} {e : TypeId} {W W' : World} {v : Value} {xs : List Value} (ho : W.ownsRow base e size v n xs) (hg : W.grownBy W' v.ownBlock) : But (fun b => base ≤ b) W W' :=
  ⟨hg.os, hg.tape, hg.output, hg.size, fun i hi he => hg.block i hi (fun e => he (ho.lt i e.symm).1)⟩

end Go.Proofs.YtdabhbadcbnkhaaDoor

/- The document's BuildUdp. -/
namespace Go.Proofs.YtdabhbadcbnkhaaDoor
open Go.RowKit Go.Shelf
set_option maxRecDepth 100000
set_option linter.unusedVariables false
set_option linter.unusedSimpArgs false


/-- Bytes that grow in a row of the call's own, made behind a world. -/
def Rw (Wb : World) (v : Value) (ys : List Int) (W : World) : Prop := W.ownsRow Wb.heap.size 5 1 v ys.length (ys.map (Value.int .u8)) ∧ Below Wb.heap.size Wb W
theorem Rw.nil {Wb W : World} (h : Later Wb W) : Rw Wb (.slice none 0 0) [] W := ⟨World.ownsRow_nil _ _ _ _, h⟩
theorem Rw.later {Wb W W' : World} {v : Value} {ys : List Int} (h : Rw Wb v ys W) (l : Later W W') : Rw Wb v ys W' := ⟨row_below h.1 l (Nat.le_refl _), h.2.trans (l.mono h.2.size)⟩
theorem Rw.app {Wb W : World} {v : Value} {ys : List Int} (h : Rw Wb v ys W) (ty : TypeId) (n₀ : Nat) (sx : Value) (zs : List Int) (hI : Rd n₀ W sx zs) (hbd : ys.length + zs.length ≤ 140737488355328) :
    ∃ v' W', (Builtin.append_ #[24, 24] ty #[v, sx]).run Tryd.prog W = .ok v' W' ∧ Rw Wb v' (ys ++ zs) W' ∧ But (fun b => Wb.heap.size ≤ b) W W' := by
  obtain ⟨i0, hi, hz0, hz1, hz2⟩ := info_parts info_u8
  obtain ⟨v', W', hr, ho, hg⟩ := run_app (P := Tryd.prog) W 24 ty 5 Wb.heap.size i0 Tryd.underlying24 hi hz0 hz1 hz2 v ys h.1 n₀ sx zs hI hbd h.2.size
  exact ⟨v', W', hr, ⟨ho, below_app h.2 h.1 hg (Nat.le_refl _) h.2.size⟩, but_app h.1 hg⟩
theorem wpList_rw {ops : Array Oper} {rest : List Oper} {o : Oper} {a : Act} {Q : Exit → Act → World → Prop} (w : World) (hgd : o.guard = none) (s x : Operand)
    (ho : o.op = .call { callee := .builtin .append, args := #[s, x], argTypes := #[24, 24] }) {Wb : World} {v : Value} {ys : List Int} (hR : Rw Wb v ys w) (hs : a.eval s = v)
    (n₀ : Nat) (sx : Value) (zs : List Int) (hx : a.eval x = sx) (hI : Rd n₀ w sx zs) (hbd : ys.length + zs.length ≤ 140737488355328)
    (h : ∀ v' w', Rw Wb v' (ys ++ zs) w' → wpList Tryd.prog ops Q rest (a.put o.dst v') w') : wpList Tryd.prog ops Q (o :: rest) a w := by
  obtain ⟨i0, hi, hz0, hz1, hz2⟩ := info_parts info_u8
  exact wpList_app w hgd s x 24 ho Wb.heap.size 5 i0 Tryd.underlying24 hi hz0 hz1 hz2 v ys hs hR.1 n₀ sx zs hx hI hbd hR.2.size (fun v' w' h1 h2 => h v' w' ⟨h1, below_app hR.2 hR.1 h2 (Nat.le_refl _) hR.2.size⟩)
theorem Rw.ow {Wb W : World} {v : Value} {ys : List Int} (h : Rw Wb v ys W) : Ow Wb.heap.size W v ys := Ow.of_row h.1
theorem Rw.block {Wb W : World} {v : Value} {ys : List Int} (h : Rw Wb v ys W) {k : Nat} {o : Obj} (ho : Wb.heap[k]? = some o) : W.heap[k]? = some o := (h.2.block k (Array.getElem?_eq_some_iff.1 ho).1).trans ho
theorem later_two (W : World) (x y : Int) : Later W (W.alloc (.cells #[.int .u8 x, .int .u8 y] 5)) := (Below.refl _ _).alloc (Nat.le_refl _) _

set_option maxHeartbeats 8000000 in
theorem rbuildUdp_any (tos id ttl proto src dst sp dp : Int) (keep bare : Bool) (so sm : Value) (ad : Option Addr) (ld cd : Nat) (zo zm : List Int) (w : World) (hIo : Rd w.heap.size w so zo) (hBd : Mt.By zm) (hIm : Rd w.heap.size w sm zm)
    (h1 : zo.length ≤ 140737488355328) (h2 : 8 + zm.length ≤ 140737488355328) (hsr : 0 ≤ src ∧ src ≤ 4294967295) (hds : 0 ≤ dst ∧ dst ≤ 4294967295) (hsp : 0 ≤ sp ∧ sp ≤ 65535) (hdp : 0 ≤ dp ∧ dp ≤ 65535) :
    Calls Tryd.prog 17 #[.agg #[.int .u8 tos, .int .u16 id, .bool keep, .int .u8 ttl, .int .u8 proto, .int .u32 src, .int .u32 dst, so, .slice ad ld cd], .agg #[.int .u16 sp, .int .u16 dp, .bool bare, sm]] w fun e w' => Below w.heap.size w w' ∧ ((flt zo.length (8 + zm.length) ≠ 0 ∧ e = .returned (.tuple #[.agg #[.int .u8 0, .int .u16 0, .bool false, .int .u8 0, .int .u8 0, .int .u32 0, .int .u32 0, .slice none 0 0, .slice none 0 0], .int .i64 (flt zo.length (8 + zm.length))])) ∨
      (flt zo.length (8 + zm.length) = 0 ∧ ∃ a7 c7 a8 c8, e = .returned (.tuple #[.agg #[.int .u8 tos, .int .u16 id, .bool keep, .int .u8 ttl, .int .u8 17, .int .u32 src, .int .u32 dst, .slice a7 zo.length c7, .slice a8 (8 + zm.length) c8], .int .i64 0]) ∧ Ow w.heap.size w' (.slice a7 zo.length c7) zo ∧ Ow w.heap.size w' (.slice a8 (8 + zm.length) c8) (udp sp dp bare src dst zm))) := by
  obtain ⟨ao, co, rfl, _, _⟩ := hIo.slice
  obtain ⟨am, cm, rfl, _, _⟩ := hIm.slice
  have hb0 : Below w.heap.size w (((w.alloc (.cells #[.int .u8 tos, .int .u16 id, .bool keep, .int .u8 ttl, .int .u8 proto, .int .u32 src, .int .u32 dst, .slice ao zo.length co, .slice ad ld cd] 26)).alloc (.cells #[.int .u16 sp, .int .u16 dp, .bool bare, .slice am zm.length cm] 48)).alloc (.cells #[.int .u8 0, .int .u16 0, .bool false, .int .u8 0, .int .u8 0, .int .u32 0, .int .u32 0, .slice none 0 0, .slice none 0 0] 26)) := (((Below.refl _ _).alloc (Nat.le_refl _) _).alloc (by simp) _).alloc (by simp; omega) _
  have p0 : (((w.alloc (.cells #[.int .u8 tos, .int .u16 id, .bool keep, .int .u8 ttl, .int .u8 proto, .int .u32 src, .int .u32 dst, .slice ao zo.length co, .slice ad ld cd] 26)).alloc (.cells #[.int .u16 sp, .int .u16 dp, .bool bare, .slice am zm.length cm] 48)).alloc (.cells #[.int .u8 0, .int .u16 0, .bool false, .int .u8 0, .int .u8 0, .int .u32 0, .int .u32 0, .slice none 0 0, .slice none 0 0] 26)).heap[w.heap.size]? = some (.cells #[.int .u8 tos, .int .u16 id, .bool keep, .int .u8 ttl, .int .u8 proto, .int .u32 src, .int .u32 dst, .slice ao zo.length co, .slice ad ld cd] 26) := (Below.heap_alloc _ _ _ (by simp; omega)).trans ((Below.heap_alloc _ _ _ (by simp)).trans (heap_alloc_new w _))
  have m0 : (((w.alloc (.cells #[.int .u8 tos, .int .u16 id, .bool keep, .int .u8 ttl, .int .u8 proto, .int .u32 src, .int .u32 dst, .slice ao zo.length co, .slice ad ld cd] 26)).alloc (.cells #[.int .u16 sp, .int .u16 dp, .bool bare, .slice am zm.length cm] 48)).alloc (.cells #[.int .u8 0, .int .u16 0, .bool false, .int .u8 0, .int .u8 0, .int .u32 0, .int .u32 0, .slice none 0 0, .slice none 0 0] 26)).heap[w.heap.size + 1]? = some (.cells #[.int .u16 sp, .int .u16 dp, .bool bare, .slice am zm.length cm] 48) := by
    have := heap_alloc_new (w.alloc (.cells #[.int .u8 tos, .int .u16 id, .bool keep, .int .u8 ttl, .int .u8 proto, .int .u32 src, .int .u32 dst, .slice ao zo.length co, .slice ad ld cd] 26)) (.cells #[.int .u16 sp, .int .u16 dp, .bool bare, .slice am zm.length cm] 48)
    rw [World.size_alloc] at this
    exact (Below.heap_alloc _ _ _ (by simp)).trans this
  have r0 : (((w.alloc (.cells #[.int .u8 tos, .int .u16 id, .bool keep, .int .u8 ttl, .int .u8 proto, .int .u32 src, .int .u32 dst, .slice ao zo.length co, .slice ad ld cd] 26)).alloc (.cells #[.int .u16 sp, .int .u16 dp, .bool bare, .slice am zm.length cm] 48)).alloc (.cells #[.int .u8 0, .int .u16 0, .bool false, .int .u8 0, .int .u8 0, .int .u32 0, .int .u32 0, .slice none 0 0, .slice none 0 0] 26)).heap[w.heap.size + 1 + 1]? = some (.cells #[.int .u8 0, .int .u16 0, .bool false, .int .u8 0, .int .u8 0, .int .u32 0, .int .u32 0, .slice none 0 0, .slice none 0 0] 26 (0, 0)) := by
    have := heap_alloc_new ((w.alloc (.cells #[.int .u8 tos, .int .u16 id, .bool keep, .int .u8 ttl, .int .u8 proto, .int .u32 src, .int .u32 dst, .slice ao zo.length co, .slice ad ld cd] 26)).alloc (.cells #[.int .u16 sp, .int .u16 dp, .bool bare, .slice am zm.length cm] 48)) (.cells #[.int .u8 0, .int .u16 0, .bool false, .int .u8 0, .int .u8 0, .int .u32 0, .int .u32 0, .slice none 0 0, .slice none 0 0] 26)
    simpa using this
  have P0 := hide p0
  have M0 := hide m0
  have R0 := hide r0
  clear p0 m0 r0
  go_enter Tryd.func17, Tryd.ntmps17
  go_wp2_with fail
  generalize ((w.alloc (.cells #[.int .u8 tos, .int .u16 id, .bool keep, .int .u8 ttl, .int .u8 proto, .int .u32 src, .int .u32 dst, .slice ao zo.length co, .slice ad ld cd] 26)).alloc (.cells #[.int .u16 sp, .int .u16 dp, .bool bare, .slice am zm.length cm] 48)).alloc (.cells #[.int .u8 0, .int .u16 0, .bool false, .int .u8 0, .int .u8 0, .int .u32 0, .int .u32 0, .slice none 0 0, .slice none 0 0] 26) = w0 at *
  refine (rwith_any tos id ttl proto src dst 17 keep _ _ ad ld cd zo [] w0 ((hIo.below hb0).mono hb0.size) (rd_zero w0) h1 (by simp)).mono ?_
  rintro e w1 ⟨hb1, ⟨hf, rfl⟩ | ⟨hf, a7, c7, a8, c8, rfl, hO1, hD1⟩⟩
  · obtain ⟨f4, f4'⟩ := flt_none zo.length hf (8 + zm.length)
    rw [show ([] : List Int).length = 0 from rfl, f4]
    have HF := hide f4'
    clear f4 f4' hf
    have l2 : Later w1 (w1.alloc (.cells #[.int .u8 0, .int .u16 0, .bool false, .int .u8 0, .int .u8 0, .int .u32 0, .int .u32 0, .slice none 0 0, .slice none 0 0] 26)) := (Below.refl _ _).alloc (Nat.le_refl _) _
    have l02 := Later.trans hb1 l2
    have r2 := (l02.block (w.heap.size + 1 + 1) (Array.getElem?_eq_some_iff.1 R0.out).1).trans R0.out
    have hw2 := hb0.trans (l02.mono hb0.size)
    have RR := block_cell r2
    have FF := block_frozen r2
    go_wp2_with fail
    generalize w1.alloc (.cells #[.int .u8 0, .int .u16 0, .bool false, .int .u8 0, .int .u8 0, .int .u32 0, .int .u32 0, .slice none 0 0, .slice none 0 0] 26) = w2 at *
    generalize hV : ((((((((w2.setCell ⟨w.heap.size + 1 + 1, 0, none⟩ _).setCell ⟨w.heap.size + 1 + 1, 1, none⟩ _).setCell ⟨w.heap.size + 1 + 1, 2, none⟩ _).setCell ⟨w.heap.size + 1 + 1, 3, none⟩ _).setCell ⟨w.heap.size + 1 + 1, 4, none⟩ _).setCell ⟨w.heap.size + 1 + 1, 5, none⟩ _).setCell ⟨w.heap.size + 1 + 1, 6, none⟩ _).setCell ⟨w.heap.size + 1 + 1, 7, none⟩ _).setCell ⟨w.heap.size + 1 + 1, 8, none⟩ _ = V8
    have hV9 : V8 = putRow w2 (w.heap.size + 1 + 1) 0 [Value.int .u8 0, .int .u16 0, .bool false, .int .u8 0, .int .u8 0, .int .u32 0, .int .u32 0, .slice none 0 0, .slice none 0 0] := hV.symm
    have hb8 : But (fun b => b = w.heap.size + 1 + 1) w2 V8 := by rw [hV9]; exact putRow_but (E := fun b => b = w.heap.size + 1 + 1) (n := w.heap.size + 1 + 1) rfl _ _ _ _ (But.refl _ _)
    have p8 := putRow_all [Value.int .u8 0, .int .u16 0, .bool false, .int .u8 0, .int .u8 0, .int .u32 0, .int .u32 0, .slice none 0 0, .slice none 0 0] r2 rfl
    rw [← hV9] at p8
    clear hV hV9
    have P8 := block_cell p8
    have hw8 : Below w.heap.size w V8 := (hw2).trans (hb8.below (hw2).size (fun k h e => by omega))
    exact bodyPost_ret (v := .tuple #[.agg #[.int .u8 0, .int .u16 0, .bool false, .int .u8 0, .int .u8 0, .int .u32 0, .int .u32 0, .slice none 0 0, .slice none 0 0], .int .i64 4]) (by simp [results, Tryd.results17, go_sem, P8]) rfl (⟨hw8, .inl ⟨by rw [HF.out]; decide, by rw [HF.out]⟩⟩)
  · have f0 := flt_some zo.length hf (8 + zm.length)
    clear hf
    have l2 : Later w1 (w1.alloc (.cells #[.int .u8 tos, .int .u16 id, .bool keep, .int .u8 ttl, .int .u8 17, .int .u32 src, .int .u32 dst, .slice a7 zo.length c7, .slice a8 ([] : List Int).length c8] 26)) := (Below.refl _ _).alloc (Nat.le_refl _) _
    have l02 := Later.trans hb1 l2
    have p2 := (l02.block w.heap.size (Array.getElem?_eq_some_iff.1 P0.out).1).trans P0.out
    have m2 := (l02.block (w.heap.size + 1) (Array.getElem?_eq_some_iff.1 M0.out).1).trans M0.out
    have r2 := (l02.block (w.heap.size + 1 + 1) (Array.getElem?_eq_some_iff.1 R0.out).1).trans R0.out
    have hw2 := hb0.trans (l02.mono hb0.size)
    have PP := block_cell p2
    have MM := block_cell m2
    rw [show ([] : List Int).length = 0 from rfl] at *
    by_cases c3 : 65535 < 20 + zo.length + (8 + zm.length)
    · have t3 : (65535 : Int) < 28 + zo.length + zm.length := by omega
      rw [if_pos c3] at f0
      have HF := hide f0
      clear f0 c3
      have RR := block_cell r2
      have FF := block_frozen r2
      go_wp2_with fail
      generalize w1.alloc (.cells #[.int .u8 tos, .int .u16 id, .bool keep, .int .u8 ttl, .int .u8 17, .int .u32 src, .int .u32 dst, .slice a7 zo.length c7, .slice a8 0 c8] 26) = w2 at *
      generalize hV : ((((((((w2.setCell ⟨w.heap.size + 1 + 1, 0, none⟩ _).setCell ⟨w.heap.size + 1 + 1, 1, none⟩ _).setCell ⟨w.heap.size + 1 + 1, 2, none⟩ _).setCell ⟨w.heap.size + 1 + 1, 3, none⟩ _).setCell ⟨w.heap.size + 1 + 1, 4, none⟩ _).setCell ⟨w.heap.size + 1 + 1, 5, none⟩ _).setCell ⟨w.heap.size + 1 + 1, 6, none⟩ _).setCell ⟨w.heap.size + 1 + 1, 7, none⟩ _).setCell ⟨w.heap.size + 1 + 1, 8, none⟩ _ = V8
      have hV9 : V8 = putRow w2 (w.heap.size + 1 + 1) 0 [Value.int .u8 0, .int .u16 0, .bool false, .int .u8 0, .int .u8 0, .int .u32 0, .int .u32 0, .slice none 0 0, .slice none 0 0] := hV.symm
      have hb8 : But (fun b => b = w.heap.size + 1 + 1) w2 V8 := by rw [hV9]; exact putRow_but (E := fun b => b = w.heap.size + 1 + 1) (n := w.heap.size + 1 + 1) rfl _ _ _ _ (But.refl _ _)
      have p8 := putRow_all [Value.int .u8 0, .int .u16 0, .bool false, .int .u8 0, .int .u8 0, .int .u32 0, .int .u32 0, .slice none 0 0, .slice none 0 0] r2 rfl
      rw [← hV9] at p8
      clear hV hV9
      have P8 := block_cell p8
      have hw8 : Below w.heap.size w V8 := (hw2).trans (hb8.below (hw2).size (fun k h e => by omega))
      exact bodyPost_ret (v := .tuple #[.agg #[.int .u8 0, .int .u16 0, .bool false, .int .u8 0, .int .u8 0, .int .u32 0, .int .u32 0, .slice none 0 0, .slice none 0 0], .int .i64 8]) (by simp [results, Tryd.results17, go_sem, P8]) rfl (⟨hw8, .inl ⟨by rw [HF.out]; decide, by rw [HF.out]⟩⟩)
    · have t3 : ¬ (65535 : Int) < 28 + zo.length + zm.length := by omega
      rw [if_neg c3] at f0
      have HF := hide f0
      clear f0
      go_upto_region 7 with fail
      generalize w1.alloc (.cells #[.int .u8 tos, .int .u16 id, .bool keep, .int .u8 ttl, .int .u8 17, .int .u32 src, .int .u32 dst, .slice a7 zo.length c7, .slice a8 0 c8] 26) = w2 at *
      clear PP MM l02 hb0
      have hsr2 := (Array.getElem?_eq_some_iff.1 r2).1
      go_cut [8] (fun v wx => Rw w2 v ([sp, dp].flatMap b2) wx)
      case first =>
        refine anyT_begin (R := But (fun b => w2.heap.size ≤ b)) 10 rfl (by kernel_rfl) ?_
        have R0 : Rw w2 (.slice none 0 0) [] w2.drew := Rw.nil (Later.drew w2)
        have md := R0.block m2
        generalize w2.drew = Wd at *
        have ha : ∀ v1, But (fun b => w2.heap.size ≤ b) Wd v1 → ∀ i, v1.cell? ⟨w.heap.size + 1, i, none⟩ = #[Value.int .u16 sp, .int .u16 dp, .bool bare, .slice am zm.length cm][i]? := fun v1 h => block_cell ((h.block (w.heap.size + 1) (Array.getElem?_eq_some_iff.1 md).1 (by omega)).trans md)
        refine anyT_val (But.pre _) 0 rfl (by kernel_rfl) (by kernel_rfl) (by kernel_rfl) (fun _ _ _ _ h => h) rfl ?_; apply Exists.intro; refine ⟨fun v1 hv1 => ?_, ?_⟩; (· (go_simp; rfl)); simp only [Act.put, List.setIfInBounds_toArray, List.set_cons_zero, List.set_cons_succ]
        refine anyT_val (But.pre _) 1 rfl (by kernel_rfl) (by kernel_rfl) (by kernel_rfl) (fun _ _ _ _ h => h) rfl ?_; apply Exists.intro; refine ⟨fun v1 hv1 => ?_, ?_⟩; (· (go_simp; rfl)); simp only [Act.put, List.setIfInBounds_toArray, List.set_cons_zero, List.set_cons_succ]
        refine anyT_val (But.pre _) 2 rfl (by kernel_rfl) (by kernel_rfl) (by kernel_rfl) (fun _ _ _ _ h => h) rfl ?_; apply Exists.intro; refine ⟨fun v1 hv1 => ?_, ?_⟩; (· (go_simp; rfl)); simp only [Act.put, List.setIfInBounds_toArray, List.set_cons_zero, List.set_cons_succ]
        refine anyT_val (But.pre _) 5 rfl (by kernel_rfl) (by kernel_rfl) (by kernel_rfl) (fun _ _ _ _ h => h) rfl ?_; apply Exists.intro; refine ⟨fun v1 hv1 => ?_, ?_⟩; (· (go_simp; rfl)); simp only [Act.put, List.setIfInBounds_toArray, List.set_cons_zero, List.set_cons_succ]
        refine anyT_val (But.pre _) 6 rfl (by kernel_rfl) (by kernel_rfl) (by kernel_rfl) (fun _ _ _ _ h => h) rfl ?_; apply Exists.intro; refine ⟨fun v1 hv1 => ?_, ?_⟩; (· (go_simp; rfl)); simp only [Act.put, List.setIfInBounds_toArray, List.set_cons_zero, List.set_cons_succ]
        refine anyT_one 3 rfl (by kernel_rfl) rfl ?_
        refine wp_enter 36 #[.int .u16 sp] (by go_simp) ?_
        refine (two_any sp hsp Wd).mono ?_
        rintro e w4 ⟨rfl, rfl⟩
        have R4 := R0.later (later_two Wd (sp / 256) (sp % 256))
        have X4 := Rd.new2 (sp / 256) (sp % 256) 5 Wd
        refine ⟨But.of (later_two Wd _ _), ?_⟩
        simp only [Act.put, List.setIfInBounds_toArray, List.set_cons_zero, List.set_cons_succ]
        generalize Wd.alloc (.cells #[.int .u8 (sp / 256), .int .u8 (sp % 256)] 5) = W4 at *
        refine anyT_one 4 rfl (by kernel_rfl) rfl ?_
        obtain ⟨v5, W5, hrun5, R5, bt5⟩ := R4.app 24 _ _ _ X4 (by simp)
        refine wp_app (.tmp 29) (.tmp 32) 24 rfl _ _ rfl rfl _ W5 hrun5 ⟨bt5, ?_⟩
        simp only [Act.put, List.setIfInBounds_toArray, List.set_cons_zero, List.set_cons_succ]
        refine anyT_one 7 rfl (by kernel_rfl) rfl ?_
        refine wp_enter 36 #[.int .u16 dp] (by go_simp) ?_
        refine (two_any dp hdp W5).mono ?_
        rintro e w4 ⟨rfl, rfl⟩
        have R6 := R5.later (later_two W5 (dp / 256) (dp % 256))
        have X6 := Rd.new2 (dp / 256) (dp % 256) 5 W5
        refine ⟨But.of (later_two W5 _ _), ?_⟩
        simp only [Act.put, List.setIfInBounds_toArray, List.set_cons_zero, List.set_cons_succ]
        generalize W5.alloc (.cells #[.int .u8 (dp / 256), .int .u8 (dp % 256)] 5) = W6 at *
        refine anyT_one 8 rfl (by kernel_rfl) rfl ?_
        obtain ⟨v7, W7, hrun7, R7, bt7⟩ := R6.app 24 _ _ _ X6 (by simp)
        refine wp_app (.tmp 33) (.tmp 36) 24 rfl _ _ rfl rfl _ W7 hrun7 ⟨bt7, ?_⟩
        simp only [Act.put, List.setIfInBounds_toArray, List.set_cons_zero, List.set_cons_succ]
        refine anyT_one 9 rfl (by kernel_rfl) rfl ?_
        unfold Oper.wp
        go_simp
        refine ⟨But.refl _ _, ?_⟩
        refine anyT_done (by kernel_rfl) ?_
        clear ha hrun5 hrun7
        go_wp2_with fail
        go_meet
        case rel => exact R7
      case rest =>
        have R3 : Rw w2 _ ([sp, dp].flatMap b2) wc := hcut
        clear hcut
        have mc := block_cell (R3.block m2)
        have hl8 : (8 + (zm.length : Int)) % 65536 = 8 + zm.length := by omega
        have hw8 : 8 + (zm.length : Int) ≤ 65535 := by omega
        go_wp2_with fail
        refine (two_any (8 + zm.length) (by omega) wc).mono ?_
        rintro e w4 ⟨rfl, rfl⟩
        have R4 := R3.later (later_two wc ((8 + zm.length) / 256) ((8 + zm.length) % 256))
        have X4 := Rd.new2 ((8 + (zm.length : Int)) / 256) ((8 + zm.length) % 256) 5 wc
        clear mc
        generalize wc.alloc (.cells #[.int .u8 ((8 + (zm.length : Int)) / 256), .int .u8 ((8 + zm.length) % 256)] 5) = W4 at *
        generalize some (⟨wc.heap.size, 0, none⟩ : Addr) = a4 at *
        go_wp2_with (at_builtin; go_loud (refine wpList_rw _ rfl (.tmp 38) (.tmp 44) rfl R4 rfl _ _ _ rfl X4 (by simp [b2]) ?_; intro v5 W5 R5; refine Hid.out ?_))
        have R6 := R5.later (later_two W5 0 0)
        have X6 := Rd.new2 0 0 5 W5
        show wpList _ _ _ _ _ _
        go_wp2_with (at_builtin; go_loud (refine wpList_rw _ rfl (.tmp 45) (.tmp 46) rfl R6 rfl _ _ _ rfl X6 (by simp [b2]) ?_; intro v7 W7 R7; refine Hid.out ?_))
        have m7 := block_cell (R7.block m2)
        have hRm : Rd w.heap.size W7 (.slice am zm.length cm) zm := hIm.below (hw2.trans (R7.2.mono hw2.size))
        show wpList _ _ _ _ _ _
        go_wp2_with (at_builtin; go_loud (refine wpList_rw _ rfl (.tmp 48) (.tmp 50) rfl R7 rfl _ _ _ rfl hRm (by simp [b2]; omega) ?_; intro v8 W8 R8; refine Hid.out ?_))
        have hlist : (([sp, dp].flatMap b2 ++ [(8 + (zm.length : Int)) / 256, (8 + zm.length) % 256]) ++ [0, 0]) ++ zm = udp0 sp dp zm := by unfold udp0; rw [hl8]; simp [b2]
        rw [hlist] at R8
        have m8 := block_cell (R8.block m2)
        have p8 := block_cell (R8.block p2)
        have r8 := R8.block r2
        have hO8 := R8.ow
        have hw8' := hw2.trans (R8.2.mono hw2.size)
        clear m7 R3 R4 R5 R6 R7 X4 X6 hRm hlist
        show wpList _ _ _ _ _ _
        have pb := R8.block p2
        obtain ⟨a8', c8', rfl, _, _⟩ := hO8.slice
        have hBu : Mt.By (udp0 sp dp zm) := By_udp0 sp dp zm hsp hdp hBd
        have hlu := udp0_length sp dp zm
        have HLC := hide (udp_length sp dp bare src dst zm)
        have HLU := hide hlu
        clear hlu
        have hz : 8 + zm.length ≤ 65535 := by omega
        clear hl8 t3 hw8 R8
        cases bare
        · have HUD : Hid (putAt2 (udp0 sp dp zm) 6 (usm src dst 17 (udp0 sp dp zm)) = udp sp dp false src dst zm) := by show _ = _; unfold putAt2 udp; rw [if_pos (by rw [HLU.out]; omega)]; rfl
          have hub := usm_bd src dst 17 (udp0 sp dp zm)
          generalize udp0 sp dp zm = bb at *
          go_wp2_with fail
          refine (rsum3_any tos id ttl proto src dst 17 keep _ _ _ bb W8 hBu hO8.rd (by rw [HLU.out]; omega) (by omega) hsr hds).mono ?_
          rintro e W9 ⟨rfl, hb9⟩
          have HU : Hid (usm src dst 17 bb = if Mt.cks (psd src dst 17 bb.length ++ bb) = 0 then 65535 else Mt.cks (psd src dst 17 bb.length ++ bb)) := rfl
          generalize Mt.cks (psd src dst 17 bb.length ++ bb) = c at *
          by_cases hc : c = 0
          · subst hc
            rw [show usm src dst 17 bb = 65535 from HU.out] at HUD
            clear HU hub
            go_wp2_with fail
            refine (rput16_any _ bb 6 65535 (by omega) (by rw [HLU.out]; omega) W9 (hO8.later hb9).rd (by omega)).mono ?_
            rintro e W10 ⟨rv, rfl, hO10, hb10⟩
            rw [HUD.out] at hO10
            obtain ⟨a10, c10, rfl, _, _⟩ := hO10.slice
            have l10 : Later W8 W10 := Later.trans hb9 hb10
            have p10 := block_cell (later_keep l10 pb)
            go_wp2_with fail
            have pn := block_cell (later_keep l10 pb)
            have rn := later_keep l10 r8
            have hwn := hw8'.trans ((l10).mono hw8'.size)
            refine (rwith_any tos id ttl proto src dst 17 keep _ _ ad ld cd zo (udp sp dp false src dst zm) W10 ((hIo.below hwn).mono hwn.size) hO10.rd h1 (by rw [HLC.out]; omega)).mono ?_
            rw [HLC.out, HF.out]
            rintro e WX ⟨hbX, ⟨hx, _⟩ | ⟨_, a9, c9, ad9, cd9, rfl, hO9, hD9⟩⟩
            case inl => exact absurd rfl hx
            have rX := later_keep hbX rn
            have hwX := hwn.trans (hbX.mono hwn.size)
            have kX := block_cell rX
            have fX := block_frozen rX
            clear pn m8 p8
            go_wp2_with fail
            generalize hV : ((((((((WX.setCell ⟨w.heap.size + 1 + 1, 0, none⟩ _).setCell ⟨w.heap.size + 1 + 1, 1, none⟩ _).setCell ⟨w.heap.size + 1 + 1, 2, none⟩ _).setCell ⟨w.heap.size + 1 + 1, 3, none⟩ _).setCell ⟨w.heap.size + 1 + 1, 4, none⟩ _).setCell ⟨w.heap.size + 1 + 1, 5, none⟩ _).setCell ⟨w.heap.size + 1 + 1, 6, none⟩ _).setCell ⟨w.heap.size + 1 + 1, 7, none⟩ _).setCell ⟨w.heap.size + 1 + 1, 8, none⟩ _ = V
            have hV8 : V = putRow WX (w.heap.size + 1 + 1) 0 [.int .u8 tos, .int .u16 id, .bool keep, .int .u8 ttl, .int .u8 17, .int .u32 src, .int .u32 dst, .slice a9 zo.length c9, .slice ad9 (8 + zm.length) cd9] := hV.symm
            have hbV : But (fun b => b = w.heap.size + 1 + 1) WX V := by rw [hV8]; exact putRow_rb _ _
            have pV := putRow_all [Value.int .u8 tos, .int .u16 id, .bool keep, .int .u8 ttl, .int .u8 17, .int .u32 src, .int .u32 dst, .slice a9 zo.length c9, .slice ad9 (8 + zm.length) cd9] rX rfl
            rw [← hV8] at pV
            clear hV hV8 kX fX
            have PV := block_cell pV
            have hwV : Below w.heap.size w V := hwX.trans (hbV.below hwX.size (fun k hk e => by omega))
            exact bodyPost_ret (v := .tuple #[.agg #[.int .u8 tos, .int .u16 id, .bool keep, .int .u8 ttl, .int .u8 17, .int .u32 src, .int .u32 dst, .slice a9 zo.length c9, .slice ad9 (8 + zm.length) cd9], .int .i64 0]) (by simp [results, Tryd.results17, go_sem, PV]) rfl ⟨hwV, .inr ⟨HF.out, a9, c9, ad9, cd9, rfl, (hO9.apart rX (by decide) hbV).mono hwn.size, (hD9.apart rX (by decide) hbV).mono hwn.size⟩⟩
          · have hu : usm src dst 17 bb = c := HU.out.trans (if_neg hc)
            rw [hu] at HUD hub
            have hc' : (c == 0) = false := by simp [hc]
            clear HU hu hc
            go_wp2_with fail
            refine (rput16_any _ bb 6 c (by omega) (by rw [HLU.out]; omega) W9 (hO8.later hb9).rd (by omega)).mono ?_
            rintro e W10 ⟨rv, rfl, hO10, hb10⟩
            rw [HUD.out] at hO10
            obtain ⟨a10, c10, rfl, _, _⟩ := hO10.slice
            have l10 : Later W8 W10 := Later.trans hb9 hb10
            have p10 := block_cell (later_keep l10 pb)
            go_wp2_with fail
            have pn := block_cell (later_keep l10 pb)
            have rn := later_keep l10 r8
            have hwn := hw8'.trans ((l10).mono hw8'.size)
            refine (rwith_any tos id ttl proto src dst 17 keep _ _ ad ld cd zo (udp sp dp false src dst zm) W10 ((hIo.below hwn).mono hwn.size) hO10.rd h1 (by rw [HLC.out]; omega)).mono ?_
            rw [HLC.out, HF.out]
            rintro e WX ⟨hbX, ⟨hx, _⟩ | ⟨_, a9, c9, ad9, cd9, rfl, hO9, hD9⟩⟩
            case inl => exact absurd rfl hx
            have rX := later_keep hbX rn
            have hwX := hwn.trans (hbX.mono hwn.size)
            have kX := block_cell rX
            have fX := block_frozen rX
            clear pn m8 p8
            go_wp2_with fail
            generalize hV : ((((((((WX.setCell ⟨w.heap.size + 1 + 1, 0, none⟩ _).setCell ⟨w.heap.size + 1 + 1, 1, none⟩ _).setCell ⟨w.heap.size + 1 + 1, 2, none⟩ _).setCell ⟨w.heap.size + 1 + 1, 3, none⟩ _).setCell ⟨w.heap.size + 1 + 1, 4, none⟩ _).setCell ⟨w.heap.size + 1 + 1, 5, none⟩ _).setCell ⟨w.heap.size + 1 + 1, 6, none⟩ _).setCell ⟨w.heap.size + 1 + 1, 7, none⟩ _).setCell ⟨w.heap.size + 1 + 1, 8, none⟩ _ = V
            have hV8 : V = putRow WX (w.heap.size + 1 + 1) 0 [.int .u8 tos, .int .u16 id, .bool keep, .int .u8 ttl, .int .u8 17, .int .u32 src, .int .u32 dst, .slice a9 zo.length c9, .slice ad9 (8 + zm.length) cd9] := hV.symm
            have hbV : But (fun b => b = w.heap.size + 1 + 1) WX V := by rw [hV8]; exact putRow_rb _ _
            have pV := putRow_all [Value.int .u8 tos, .int .u16 id, .bool keep, .int .u8 ttl, .int .u8 17, .int .u32 src, .int .u32 dst, .slice a9 zo.length c9, .slice ad9 (8 + zm.length) cd9] rX rfl
            rw [← hV8] at pV
            clear hV hV8 kX fX
            have PV := block_cell pV
            have hwV : Below w.heap.size w V := hwX.trans (hbV.below hwX.size (fun k hk e => by omega))
            exact bodyPost_ret (v := .tuple #[.agg #[.int .u8 tos, .int .u16 id, .bool keep, .int .u8 ttl, .int .u8 17, .int .u32 src, .int .u32 dst, .slice a9 zo.length c9, .slice ad9 (8 + zm.length) cd9], .int .i64 0]) (by simp [results, Tryd.results17, go_sem, PV]) rfl ⟨hwV, .inr ⟨HF.out, a9, c9, ad9, cd9, rfl, (hO9.apart rX (by decide) hbV).mono hwn.size, (hD9.apart rX (by decide) hbV).mono hwn.size⟩⟩
        · rw [show udp0 sp dp zm = udp sp dp true src dst zm from rfl] at *
          go_wp2_with fail
          have pn := block_cell (later_keep (Later.refl W8) pb)
          have rn := later_keep (Later.refl W8) r8
          have hwn := hw8'.trans (((Later.refl W8)).mono hw8'.size)
          refine (rwith_any tos id ttl proto src dst 17 keep _ _ ad ld cd zo (udp sp dp true src dst zm) W8 ((hIo.below hwn).mono hwn.size) hO8.rd h1 (by rw [HLC.out]; omega)).mono ?_
          rw [HLC.out, HF.out]
          rintro e WX ⟨hbX, ⟨hx, _⟩ | ⟨_, a9, c9, ad9, cd9, rfl, hO9, hD9⟩⟩
          case inl => exact absurd rfl hx
          have rX := later_keep hbX rn
          have hwX := hwn.trans (hbX.mono hwn.size)
          have kX := block_cell rX
          have fX := block_frozen rX
          clear pn m8 p8
          go_wp2_with fail
          generalize hV : ((((((((WX.setCell ⟨w.heap.size + 1 + 1, 0, none⟩ _).setCell ⟨w.heap.size + 1 + 1, 1, none⟩ _).setCell ⟨w.heap.size + 1 + 1, 2, none⟩ _).setCell ⟨w.heap.size + 1 + 1, 3, none⟩ _).setCell ⟨w.heap.size + 1 + 1, 4, none⟩ _).setCell ⟨w.heap.size + 1 + 1, 5, none⟩ _).setCell ⟨w.heap.size + 1 + 1, 6, none⟩ _).setCell ⟨w.heap.size + 1 + 1, 7, none⟩ _).setCell ⟨w.heap.size + 1 + 1, 8, none⟩ _ = V
          have hV8 : V = putRow WX (w.heap.size + 1 + 1) 0 [.int .u8 tos, .int .u16 id, .bool keep, .int .u8 ttl, .int .u8 17, .int .u32 src, .int .u32 dst, .slice a9 zo.length c9, .slice ad9 (8 + zm.length) cd9] := hV.symm
          have hbV : But (fun b => b = w.heap.size + 1 + 1) WX V := by rw [hV8]; exact putRow_rb _ _
          have pV := putRow_all [Value.int .u8 tos, .int .u16 id, .bool keep, .int .u8 ttl, .int .u8 17, .int .u32 src, .int .u32 dst, .slice a9 zo.length c9, .slice ad9 (8 + zm.length) cd9] rX rfl
          rw [← hV8] at pV
          clear hV hV8 kX fX
          have PV := block_cell pV
          have hwV : Below w.heap.size w V := hwX.trans (hbV.below hwX.size (fun k hk e => by omega))
          exact bodyPost_ret (v := .tuple #[.agg #[.int .u8 tos, .int .u16 id, .bool keep, .int .u8 ttl, .int .u8 17, .int .u32 src, .int .u32 dst, .slice a9 zo.length c9, .slice ad9 (8 + zm.length) cd9], .int .i64 0]) (by simp [results, Tryd.results17, go_sem, PV]) rfl ⟨hwV, .inr ⟨HF.out, a9, c9, ad9, cd9, rfl, (hO9.apart rX (by decide) hbV).mono hwn.size, (hD9.apart rX (by decide) hbV).mono hwn.size⟩⟩
end Go.Proofs.YtdabhbadcbnkhaaDoor
