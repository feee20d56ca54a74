/- What is parsed of a segment, a datagram that was built; one bit of an address turned. -/
import Derived.Test.YtcjigldianobgaeMf
import Derived.Test.YtcjigldianobgaeSP
namespace Go.Proofs.Ytcjigldianobgae
open Go.RowKit
set_option maxRecDepth 100000
set_option linter.unusedVariables false
set_option linter.unusedSimpArgs false

theorem flt_fit2 {lo ld : Nat} (hf : flt lo ld = 0) : lo ≤ 40 ∧ lo % 4 = 0 ∧ 20 + lo + ld ≤ 65535 := by
  unfold flt at hf
  split at hf <;> first | omega | (split at hf <;> omega)
theorem bte_fit {os : List Opt} {lo lm : Nat} (h : bte os lo lm = 0) : obOk os ∧ lo ≤ 40 ∧ lo % 4 = 0 ∧ 20 + lo + (20 + (pad (obs os)).length + lm) ≤ 65535 := by
  unfold bte at h
  split at h
  · exact ⟨by assumption, flt_fit2 h⟩
  · omega
/-- The sum of what stands ahead. -/
theorem tw_psd_app (s d p n : Int) (zs : List Int) : Mt.tw true (psd s d p n ++ zs) = Mt.tw true (psd s d p n) + Mt.tw true zs := by
  rw [Mt.tw_append, psd_length]
  rfl
/-- A check sum put at an even place where 0 stood makes the bytes good, also with what stands ahead of them. -/
theorem good_put (s d p n : Int) (zs : List Int) (k : Nat) (hB : Mt.By (psd s d p n ++ zs)) (hk : k % 2 = 0) (hl : k + 1 < zs.length) (h0 : zs[k]?.getD 0 = 0) (h1 : zs[k + 1]?.getD 0 = 0) : Mt.cks (psd s d p n ++ Mt.put2 zs k (Mt.cks (psd s d p n ++ zs))) = 0 := by
  have hn := Mt.tw_nonneg true _ hB
  have hg := Mt.fd_good _ hn
  rw [tw_psd_app] at hn hg
  unfold Mt.cks
  rw [tw_psd_app, Mt.tw_put2 zs k _ hk hl, h0, h1, tw_psd_app]
  rw [show Mt.tw true (psd s d p n) + (Mt.tw true zs + (65535 - Mt.fd (Mt.tw true (psd s d p n) + Mt.tw true zs)) - (0 * 256 + 0)) = Mt.tw true (psd s d p n) + Mt.tw true zs + (65535 - Mt.fd (Mt.tw true (psd s d p n) + Mt.tw true zs)) from by omega, hg]
  rfl
theorem good_put5 (s d p n : Int) (zs : List Int) (k : Nat) (hB : Mt.By (psd s d p n ++ zs)) (hk : k % 2 = 0) (hl : k + 1 < zs.length) (h0 : zs[k]?.getD 0 = 0) (h1 : zs[k + 1]?.getD 0 = 0) (hc : Mt.cks (psd s d p n ++ zs) = 0) : Mt.cks (psd s d p n ++ Mt.put2 zs k 65535) = 0 := by
  have hg := Mt.fd_eq _ (show Mt.fd (Mt.tw true (psd s d p n ++ zs)) = 65535 from by unfold Mt.cks at hc; omega)
  rw [tw_psd_app] at hg
  unfold Mt.cks
  rw [tw_psd_app, Mt.tw_put2 zs k _ hk hl, h0, h1, Mt.fd_of _ (by omega) (by omega)]
  rfl

section
variable (sp dp sq ak fl wn ur : Int) (ob : List Int) (src dst : Int) (zd : List Int)
def hd20 (c : Int) : List Int := Mt.put2 ([sp, dp].flatMap b2 ++ [sq, ak].flatMap b4 ++ [(20 + (ob.length : Int)) / 4 * 16, fl] ++ [wn, 0, ur].flatMap b2) 16 c
theorem hd20_length (c : Int) : (hd20 sp dp sq ak fl wn ur ob c).length = 20 := by simp [hd20, Mt.put2_length, b2, b4]
theorem tcp_split : tcp sp dp sq ak fl wn ur ob src dst zd = hd20 sp dp sq ak fl wn ur ob (Mt.cks (psd src dst 6 (20 + ob.length + zd.length : Nat) ++ tcp0 sp dp sq ak fl wn ur ob zd)) ++ (ob ++ zd) := by
  unfold tcp hd20
  generalize Mt.cks (psd src dst 6 (20 + ob.length + zd.length : Nat) ++ tcp0 sp dp sq ak fl wn ur ob zd) = c
  simp [tcp0, Mt.put2, b2, b4]
theorem tcp_drop (h : Nat) (hh : h = 20 + ob.length) : (tcp sp dp sq ak fl wn ur ob src dst zd).drop h = zd := by
  subst hh
  rw [tcp_split, List.drop_append, hd20_length, List.drop_of_length_le (by rw [hd20_length]; omega), List.nil_append, show 20 + ob.length - 20 = ob.length from by omega, List.drop_left]
theorem tcp_opt (h : Nat) (hh : h = 20 + ob.length) : ((tcp sp dp sq ak fl wn ur ob src dst zd).drop 20).take (h - 20) = ob := by
  subst hh
  rw [tcp_split, List.drop_append, hd20_length, List.drop_of_length_le (by rw [hd20_length]; omega), List.nil_append, Nat.sub_self, List.drop_zero, show 20 + ob.length - 20 = ob.length from by omega, List.take_left]
theorem tcp_at (j : Nat) (hj : j < 20) : (tcp sp dp sq ak fl wn ur ob src dst zd)[j]?.getD 0 = (hd20 sp dp sq ak fl wn ur ob (Mt.cks (psd src dst 6 (20 + ob.length + zd.length : Nat) ++ tcp0 sp dp sq ak fl wn ur ob zd)))[j]?.getD 0 := by
  rw [tcp_split, List.getElem?_append_left (by rw [hd20_length]; exact hj)]
theorem tcp_12 : (tcp sp dp sq ak fl wn ur ob src dst zd)[12]?.getD 0 = (20 + (ob.length : Int)) / 4 * 16 := by rw [tcp_at _ _ _ _ _ _ _ _ _ _ _ 12 (by omega)]; simp [hd20, Mt.put2, b2, b4]
theorem tcp_13 : (tcp sp dp sq ak fl wn ur ob src dst zd)[13]?.getD 0 = fl := by rw [tcp_at _ _ _ _ _ _ _ _ _ _ _ 13 (by omega)]; simp [hd20, Mt.put2, b2, b4]
theorem tcp_thd (h4 : ob.length % 4 = 0) : thd (tcp sp dp sq ak fl wn ur ob src dst zd) = 20 + (ob.length : Int) := by unfold thd; rw [tcp_12]; omega
theorem tcp_wat (j : Nat) (hj : j + 1 < 20) : wat (tcp sp dp sq ak fl wn ur ob src dst zd) j = wat (hd20 sp dp sq ak fl wn ur ob (Mt.cks (psd src dst 6 (20 + ob.length + zd.length : Nat) ++ tcp0 sp dp sq ak fl wn ur ob zd))) j := by
  unfold wat
  rw [tcp_at _ _ _ _ _ _ _ _ _ _ _ j (by omega), tcp_at _ _ _ _ _ _ _ _ _ _ _ (j + 1) hj]
theorem tcp_w0 : wat (tcp sp dp sq ak fl wn ur ob src dst zd) 0 = sp := by rw [tcp_wat _ _ _ _ _ _ _ _ _ _ _ 0 (by omega)]; simp [wat, hd20, Mt.put2, b2, b4]; omega
theorem tcp_w2 : wat (tcp sp dp sq ak fl wn ur ob src dst zd) 2 = dp := by rw [tcp_wat _ _ _ _ _ _ _ _ _ _ _ 2 (by omega)]; simp [wat, hd20, Mt.put2, b2, b4]; omega
theorem tcp_w14 : wat (tcp sp dp sq ak fl wn ur ob src dst zd) 14 = wn := by rw [tcp_wat _ _ _ _ _ _ _ _ _ _ _ 14 (by omega)]; simp [wat, hd20, Mt.put2, b2, b4]; omega
theorem tcp_w18 : wat (tcp sp dp sq ak fl wn ur ob src dst zd) 18 = ur := by rw [tcp_wat _ _ _ _ _ _ _ _ _ _ _ 18 (by omega)]; simp [wat, hd20, Mt.put2, b2, b4]; omega
theorem tcp_w4 : wat4 (tcp sp dp sq ak fl wn ur ob src dst zd) 4 = sq := by unfold wat4; rw [tcp_wat _ _ _ _ _ _ _ _ _ _ _ 4 (by omega), tcp_wat _ _ _ _ _ _ _ _ _ _ _ (4 + 2) (by omega)]; simp [wat, hd20, Mt.put2, b2, b4]; omega
theorem tcp_w8 : wat4 (tcp sp dp sq ak fl wn ur ob src dst zd) 8 = ak := by unfold wat4; rw [tcp_wat _ _ _ _ _ _ _ _ _ _ _ 8 (by omega), tcp_wat _ _ _ _ _ _ _ _ _ _ _ (8 + 2) (by omega)]; simp [wat, hd20, Mt.put2, b2, b4]; omega
theorem tcp_good (hs : 0 ≤ src ∧ src ≤ 4294967295) (hd : 0 ≤ dst ∧ dst ≤ 4294967295) (hB : Mt.By (tcp0 sp dp sq ak fl wn ur ob zd)) : Mt.cks (psd src dst 6 (20 + ob.length + zd.length : Nat) ++ tcp sp dp sq ak fl wn ur ob src dst zd) = 0 :=
  good_put src dst 6 _ _ 16 ((By_psd src dst 6 _ hs hd (by omega)).append hB) (by omega) (by rw [tcp0_length]; omega) (by simp [tcp0, b2, b4]) (by simp [tcp0, b2, b4])
theorem tcp_ptc (proto : Int) (hp : proto = 6) (s d : Int) (h4 : ob.length % 4 = 0) (h40 : ob.length ≤ 40) : ptc proto s d (tcp sp dp sq ak fl wn ur ob src dst zd) = if Mt.cks (psd s d 6 (20 + ob.length + zd.length : Nat) ++ tcp sp dp sq ak fl wn ur ob src dst zd) ≠ 0 then 5 else 0 := by
  unfold ptc
  rw [if_neg (by simp [hp]), tcp_length, if_neg (by omega), tcp_thd _ _ _ _ _ _ _ _ _ _ _ h4, tcp_12, if_neg (by omega), if_neg (by omega)]
end
theorem tcp_hop (sp dp sq ak fl wn ur : Int) (ob : List Int) (src dst : Int) (zd : List Int) (h4 : ob.length % 4 = 0) : hop (tcp sp dp sq ak fl wn ur ob src dst zd) = ob := by
  unfold hop
  rw [tcp_thd _ _ _ _ _ _ _ _ _ _ _ h4]
  exact tcp_opt _ _ _ _ _ _ _ _ _ _ _ _ (by omega)
theorem tcp_pte (sp dp sq ak fl wn ur : Int) (os : List Opt) (src dst : Int) (zd : List Int) (hok : obOk os) (hs : 0 ≤ src ∧ src ≤ 4294967295) (hd : 0 ≤ dst ∧ dst ≤ 4294967295) (hB : Mt.By (tcp0 sp dp sq ak fl wn ur (pad (obs os)) zd)) :
    pte 6 src dst (tcp sp dp sq ak fl wn ur (pad (obs os)) src dst zd) = 0 ∧ opts (hop (tcp sp dp sq ak fl wn ur (pad (obs os)) src dst zd)) = some os := by
  have h1 : ptc 6 src dst (tcp sp dp sq ak fl wn ur (pad (obs os)) src dst zd) = 0 := by
    rw [tcp_ptc _ _ _ _ _ _ _ _ _ _ _ 6 rfl src dst (pad_mod _) (pad_le _ hok.2), if_neg (by rw [tcp_good _ _ _ _ _ _ _ _ _ _ _ hs hd hB]; simp)]
  have h2 : opts (hop (tcp sp dp sq ak fl wn ur (pad (obs os)) src dst zd)) = some os := by rw [tcp_hop _ _ _ _ _ _ _ _ _ _ _ (pad_mod _)]; exact opts_pad os hok
  refine ⟨?_, h2⟩
  unfold pte
  rw [if_neg (by simp [h1]), h2]
  rfl

section
variable (sp dp : Int) (bare : Bool) (src dst : Int) (zm : List Int)
theorem udp_at (j : Nat) (h6 : j ≠ 6) (h7 : j ≠ 7) : (udp sp dp bare src dst zm)[j]?.getD 0 = (udp0 sp dp zm)[j]?.getD 0 := by
  unfold udp
  split
  · rfl
  · rw [Mt.put2_other _ _ _ _ h6 h7]
theorem udp_w0 : wat (udp sp dp bare src dst zm) 0 = sp := by unfold wat; rw [udp_at _ _ _ _ _ _ 0 (by omega) (by omega), udp_at _ _ _ _ _ _ (0 + 1) (by omega) (by omega)]; simp [udp0, b2]; omega
theorem udp_w2 : wat (udp sp dp bare src dst zm) 2 = dp := by unfold wat; rw [udp_at _ _ _ _ _ _ 2 (by omega) (by omega), udp_at _ _ _ _ _ _ (2 + 1) (by omega) (by omega)]; simp [udp0, b2]; omega
theorem udp_w4 (h : 8 + zm.length ≤ 65535) : wat (udp sp dp bare src dst zm) 4 = 8 + zm.length := by unfold wat; rw [udp_at _ _ _ _ _ _ 4 (by omega) (by omega), udp_at _ _ _ _ _ _ (4 + 1) (by omega) (by omega)]; simp [udp0, b2]; omega
theorem udp_drop : (udp sp dp bare src dst zm).drop 8 = zm := by
  unfold udp
  split
  · simp [udp0, b2]
  · simp [udp0, b2, Mt.put2]
theorem udp_w6 : wat (udp sp dp bare src dst zm) 6 = if bare then 0 else usm src dst 17 (udp0 sp dp zm) := by
  unfold udp
  cases bare with
  | true => simp [wat, udp0, b2]
  | false =>
    simp only [Bool.false_eq_true, if_false]
    unfold wat
    have := Mt.put2_at (udp0 sp dp zm) 6 (usm src dst 17 (udp0 sp dp zm)) (by rw [udp0_length]; omega)
    rw [this.1, this.2]
    omega
theorem udp_good (hs : 0 ≤ src ∧ src ≤ 4294967295) (hd : 0 ≤ dst ∧ dst ≤ 4294967295) (hB : Mt.By (udp0 sp dp zm)) : Mt.cks (psd src dst 17 (8 + zm.length : Nat) ++ udp sp dp false src dst zm) = 0 := by
  unfold udp
  simp only [Bool.false_eq_true, if_false]
  have hBB := (By_psd src dst 17 (8 + zm.length : Nat) hs hd (by omega)).append hB
  have hz : (udp0 sp dp zm)[6]?.getD 0 = 0 ∧ (udp0 sp dp zm)[6 + 1]?.getD 0 = 0 := ⟨by simp [udp0, b2], by simp [udp0, b2]⟩
  unfold usm
  rw [udp0_length]
  split
  · exact good_put5 src dst 17 _ _ 6 hBB (by omega) (by rw [udp0_length]; omega) hz.1 hz.2 (by assumption)
  · exact good_put src dst 17 _ _ 6 hBB (by omega) (by rw [udp0_length]; omega) hz.1 hz.2
theorem udp_pue (proto : Int) (hp : proto = 17) (s d : Int) (h : 8 + zm.length ≤ 65535) : pue proto s d (udp sp dp bare src dst zm) = if bare = false ∧ Mt.cks (psd s d 17 (8 + zm.length : Nat) ++ udp sp dp bare src dst zm) ≠ 0 then 5 else 0 := by
  unfold pue
  have hb := usm_bd src dst 17 (udp0 sp dp zm)
  rw [if_neg (by simp [hp]), udp_length, if_neg (by omega), udp_w4 _ _ _ _ _ _ h, if_neg (by simp), udp_w6]
  cases bare with
  | true => simp
  | false =>
    simp only [Bool.false_eq_true, if_false, true_and]
    congr 1
    simp only [eq_iff_iff]
    exact ⟨fun h => h.2, fun h => ⟨by omega, h⟩⟩
end

/-- One bit of an address turned is one bit of what stands ahead. -/
theorem pw_bytes : ∀ r < 32, ∀ k ∈ [0, 8, 16, 24], 2 ^ r / 2 ^ k % 2 ^ 8 = if r / 8 * 8 = k then 2 ^ (r % 8) else 0 := by decide +kernel
theorem xor_byte (x r k : Nat) (hr : r < 32) (hk : k ∈ [0, 8, 16, 24]) : (x ^^^ 2 ^ r) / 2 ^ k % 2 ^ 8 = if r / 8 * 8 = k then (x / 2 ^ k % 2 ^ 8) ^^^ 2 ^ (r % 8) else x / 2 ^ k % 2 ^ 8 := by
  rw [Nat.xor_div_two_pow, Nat.xor_mod_two_pow, pw_bytes r hr k hk]
  split <;> simp
theorem xor_lt32 (x r : Nat) (hx : x < 4294967296) (hr : r < 32) : x ^^^ 2 ^ r < 4294967296 := Nat.xor_lt_two_pow (n := 32) hx (Nat.pow_lt_pow_right (by omega) hr)
theorem flip_byte (n r : Nat) (hn : n < 256) (hr : r < 8) : ((n ^^^ 2 ^ r : Nat) : Int) = (n : Int) + ((2 ^ r : Nat) : Int) ∨ ((n ^^^ 2 ^ r : Nat) : Int) = (n : Int) - ((2 ^ r : Nat) : Int) := by
  obtain ⟨h, _⟩ := nat_flip r hr n hn
  omega
theorem psd_src (x r : Nat) (hx : x < 4294967296) (hr : r < 32) (d p n : Int) : ∃ j y, j < 12 ∧ psd ((x ^^^ 2 ^ r : Nat) : Int) d p n = (psd (x : Int) d p n).set j y ∧ (y = (psd (x : Int) d p n)[j]?.getD 0 + ((2 ^ (r % 8) : Nat) : Int) ∨ y = (psd (x : Int) d p n)[j]?.getD 0 - ((2 ^ (r % 8) : Nat) : Int)) := by
  have hl := xor_lt32 x r hx hr
  have k0 := xor_byte x r 0 hr (by simp)
  have k1 := xor_byte x r 8 hr (by simp)
  have k2 := xor_byte x r 16 hr (by simp)
  have k3 := xor_byte x r 24 hr (by simp)
  generalize x ^^^ 2 ^ r = x' at *
  simp only [Nat.reducePow, Nat.div_one] at k0 k1 k2 k3
  have h4 : r / 8 = 0 ∨ r / 8 = 1 ∨ r / 8 = 2 ∨ r / 8 = 3 := by omega
  rcases h4 with h | h | h | h <;> rw [h] at k0 k1 k2 k3 <;> simp at k0 k1 k2 k3
  · have f := flip_byte (x % 256) (r % 8) (by omega) (by omega)
    refine ⟨3, ((((x % 256) ^^^ 2 ^ (r % 8) : Nat)) : Int), by omega, ?_, ?_⟩
    · generalize (x % 256) ^^^ 2 ^ (r % 8) = q at *
      simp only [psd, List.set_cons_succ, List.set_cons_zero, List.cons.injEq, and_true, true_and]
      omega
    · generalize (x % 256) ^^^ 2 ^ (r % 8) = q at *
      generalize ((2 ^ (r % 8) : Nat) : Int) = t at *
      simp only [psd, List.getElem?_cons_succ, List.getElem?_cons_zero, Option.getD_some]
      omega
  · have f := flip_byte (x / 256 % 256) (r % 8) (by omega) (by omega)
    refine ⟨2, ((((x / 256 % 256) ^^^ 2 ^ (r % 8) : Nat)) : Int), by omega, ?_, ?_⟩
    · generalize (x / 256 % 256) ^^^ 2 ^ (r % 8) = q at *
      simp only [psd, List.set_cons_succ, List.set_cons_zero, List.cons.injEq, and_true, true_and]
      omega
    · generalize (x / 256 % 256) ^^^ 2 ^ (r % 8) = q at *
      generalize ((2 ^ (r % 8) : Nat) : Int) = t at *
      simp only [psd, List.getElem?_cons_succ, List.getElem?_cons_zero, Option.getD_some]
      omega
  · have f := flip_byte (x / 65536 % 256) (r % 8) (by omega) (by omega)
    refine ⟨1, ((((x / 65536 % 256) ^^^ 2 ^ (r % 8) : Nat)) : Int), by omega, ?_, ?_⟩
    · generalize (x / 65536 % 256) ^^^ 2 ^ (r % 8) = q at *
      simp only [psd, List.set_cons_succ, List.set_cons_zero, List.cons.injEq, and_true, true_and]
      omega
    · generalize (x / 65536 % 256) ^^^ 2 ^ (r % 8) = q at *
      generalize ((2 ^ (r % 8) : Nat) : Int) = t at *
      simp only [psd, List.getElem?_cons_succ, List.getElem?_cons_zero, Option.getD_some]
      omega
  · have f := flip_byte (x / 16777216 % 256) (r % 8) (by omega) (by omega)
    refine ⟨0, ((((x / 16777216 % 256) ^^^ 2 ^ (r % 8) : Nat)) : Int), by omega, ?_, ?_⟩
    · generalize (x / 16777216 % 256) ^^^ 2 ^ (r % 8) = q at *
      simp only [psd, List.set_cons_succ, List.set_cons_zero, List.cons.injEq, and_true, true_and]
      omega
    · generalize (x / 16777216 % 256) ^^^ 2 ^ (r % 8) = q at *
      generalize ((2 ^ (r % 8) : Nat) : Int) = t at *
      simp only [psd, List.getElem?_cons_succ, List.getElem?_cons_zero, Option.getD_some]
      omega
theorem psd_dst (x r : Nat) (hx : x < 4294967296) (hr : r < 32) (s p n : Int) : ∃ j y, j < 12 ∧ psd s ((x ^^^ 2 ^ r : Nat) : Int) p n = (psd s (x : Int) p n).set j y ∧ (y = (psd s (x : Int) p n)[j]?.getD 0 + ((2 ^ (r % 8) : Nat) : Int) ∨ y = (psd s (x : Int) p n)[j]?.getD 0 - ((2 ^ (r % 8) : Nat) : Int)) := by
  have hl := xor_lt32 x r hx hr
  have k0 := xor_byte x r 0 hr (by simp)
  have k1 := xor_byte x r 8 hr (by simp)
  have k2 := xor_byte x r 16 hr (by simp)
  have k3 := xor_byte x r 24 hr (by simp)
  generalize x ^^^ 2 ^ r = x' at *
  simp only [Nat.reducePow, Nat.div_one] at k0 k1 k2 k3
  have h4 : r / 8 = 0 ∨ r / 8 = 1 ∨ r / 8 = 2 ∨ r / 8 = 3 := by omega
  rcases h4 with h | h | h | h <;> rw [h] at k0 k1 k2 k3 <;> simp at k0 k1 k2 k3
  · have f := flip_byte (x % 256) (r % 8) (by omega) (by omega)
    refine ⟨7, ((((x % 256) ^^^ 2 ^ (r % 8) : Nat)) : Int), by omega, ?_, ?_⟩
    · generalize (x % 256) ^^^ 2 ^ (r % 8) = q at *
      simp only [psd, List.set_cons_succ, List.set_cons_zero, List.cons.injEq, and_true, true_and]
      omega
    · generalize (x % 256) ^^^ 2 ^ (r % 8) = q at *
      generalize ((2 ^ (r % 8) : Nat) : Int) = t at *
      simp only [psd, List.getElem?_cons_succ, List.getElem?_cons_zero, Option.getD_some]
      omega
  · have f := flip_byte (x / 256 % 256) (r % 8) (by omega) (by omega)
    refine ⟨6, ((((x / 256 % 256) ^^^ 2 ^ (r % 8) : Nat)) : Int), by omega, ?_, ?_⟩
    · generalize (x / 256 % 256) ^^^ 2 ^ (r % 8) = q at *
      simp only [psd, List.set_cons_succ, List.set_cons_zero, List.cons.injEq, and_true, true_and]
      omega
    · generalize (x / 256 % 256) ^^^ 2 ^ (r % 8) = q at *
      generalize ((2 ^ (r % 8) : Nat) : Int) = t at *
      simp only [psd, List.getElem?_cons_succ, List.getElem?_cons_zero, Option.getD_some]
      omega
  · have f := flip_byte (x / 65536 % 256) (r % 8) (by omega) (by omega)
    refine ⟨5, ((((x / 65536 % 256) ^^^ 2 ^ (r % 8) : Nat)) : Int), by omega, ?_, ?_⟩
    · generalize (x / 65536 % 256) ^^^ 2 ^ (r % 8) = q at *
      simp only [psd, List.set_cons_succ, List.set_cons_zero, List.cons.injEq, and_true, true_and]
      omega
    · generalize (x / 65536 % 256) ^^^ 2 ^ (r % 8) = q at *
      generalize ((2 ^ (r % 8) : Nat) : Int) = t at *
      simp only [psd, List.getElem?_cons_succ, List.getElem?_cons_zero, Option.getD_some]
      omega
  · have f := flip_byte (x / 16777216 % 256) (r % 8) (by omega) (by omega)
    refine ⟨4, ((((x / 16777216 % 256) ^^^ 2 ^ (r % 8) : Nat)) : Int), by omega, ?_, ?_⟩
    · generalize (x / 16777216 % 256) ^^^ 2 ^ (r % 8) = q at *
      simp only [psd, List.set_cons_succ, List.set_cons_zero, List.cons.injEq, and_true, true_and]
      omega
    · generalize (x / 16777216 % 256) ^^^ 2 ^ (r % 8) = q at *
      generalize ((2 ^ (r % 8) : Nat) : Int) = t at *
      simp only [psd, List.getElem?_cons_succ, List.getElem?_cons_zero, Option.getD_some]
      omega

/-- So its sum is good no more. -/
theorem psd_bad {s d s' d' p n : Int} {zs : List Int} {r : Nat} (h : ∃ j y, j < 12 ∧ psd s' d' p n = (psd s d p n).set j y ∧ (y = (psd s d p n)[j]?.getD 0 + ((2 ^ (r % 8) : Nat) : Int) ∨ y = (psd s d p n)[j]?.getD 0 - ((2 ^ (r % 8) : Nat) : Int))) (hg : Mt.cks (psd s d p n ++ zs) = 0) : Mt.cks (psd s' d' p n ++ zs) ≠ 0 := by
  obtain ⟨j, y, hj, he, hy⟩ := h
  rw [he, ← List.set_append_left _ _ (by rw [psd_length]; exact hj)]
  refine cks_flip _ hg j (by rw [List.length_append, psd_length]; omega) (r % 8) (by omega) y ?_
  rw [List.getElem?_append_left (by rw [psd_length]; exact hj)]
  exact hy
/-- A bit turned in a number of 32. -/
theorem u32_bit (s : Int) (hs : 0 ≤ s ∧ s ≤ 4294967295) (r : Nat) (hr : r < 32) (p : Int) (hp : p = ((2 ^ r : Nat) : Int)) : ∃ x : Nat, s = x ∧ x < 4294967296 ∧ bits .xor .u32 s p = ((x ^^^ 2 ^ r : Nat) : Int) ∧ (0 ≤ bits .xor .u32 s p ∧ bits .xor .u32 s p ≤ 4294967295) := by
  obtain ⟨x, rfl⟩ := Int.eq_ofNat_of_zero_le hs.1
  subst hp
  have h2 : 2 ^ r < 2 ^ 32 := Nat.pow_lt_pow_right (by omega) hr
  rw [show 2 ^ 32 = 4294967296 from rfl] at h2
  have e := u32_xor_nat x (2 ^ r) (by omega) h2
  have hl := xor_lt32 x r (by omega) hr
  refine ⟨x, rfl, by omega, e, ?_⟩
  rw [e]
  omega
end Go.Proofs.Ytcjigldianobgae
