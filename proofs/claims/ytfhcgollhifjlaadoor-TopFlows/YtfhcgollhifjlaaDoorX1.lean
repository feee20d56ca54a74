/- Several texts in one. -/
import Derived.Test.YtfhcgollhifjlaaDoorW4
import Derived.Test.YtfhcgollhifjlaaDoorX4
import Derived.Test.YtfhcgollhifjlaaDoorKK
import Derived.Test.YtfhcgollhifjlaaDoorRh
import Derived.Test.YtfhcgollhifjlaaDoorRt
import Derived.Test.YtfhcgollhifjlaaDoorRx
import Derived.Deep.DeepCutAuto
import Derived.Deep.CutBlock
import Derived.Deep.AppendLies
import Derived.Test.YtfhcgollhifjlaaDoorX2
/- One bit turned: bytes whose check sum was good are good no more. -/
namespace Go.Proofs.YtfhcgollhifjlaaDoor
open Go.RowKit
set_option maxRecDepth 100000
set_option linter.unusedVariables false

theorem nat_flip : ∀ r < 8, ∀ n < 256, (n ^^^ 2 ^ r = n + 2 ^ r ∨ n = (n ^^^ 2 ^ r) + 2 ^ r) ∧ n ^^^ 2 ^ r < 256 := by decide +kernel
theorem u8_flip (z : Int) (hz : 0 ≤ z ∧ z ≤ 255) (r : Nat) (hr : r < 8) (p : Int) (hp : p = ((2 ^ r : Nat) : Int)) : (bits .xor .u8 z p = z + p ∨ bits .xor .u8 z p = z - p) ∧ 0 ≤ bits .xor .u8 z p ∧ bits .xor .u8 z p ≤ 255 := by
  obtain ⟨n, rfl⟩ := Int.eq_ofNat_of_zero_le hz.1
  subst hp
  have h2 : 2 ^ r < 256 := by
    have : r = 0 ∨ r = 1 ∨ r = 2 ∨ r = 3 ∨ r = 4 ∨ r = 5 ∨ r = 6 ∨ r = 7 := by omega
    rcases this with rfl | rfl | rfl | rfl | rfl | rfl | rfl | rfl <;> decide
  have e : bits .xor .u8 (n : Int) ((2 ^ r : Nat) : Int) = ((n ^^^ 2 ^ r : Nat) : Int) := u8_xor_nat n (2 ^ r) (by omega) h2
  obtain ⟨h3, h4⟩ := nat_flip r hr n (by omega)
  rw [e]
  refine ⟨?_, by omega, by omega⟩
  rcases h3 with h3 | h3
  · left; omega
  · right; omega
theorem cks_flip (zs : List Int) (hg : Mt.cks zs = 0) (j : Nat) (hj : j < zs.length) (r : Nat) (hr : r < 8) (y : Int) (hy : y = zs[j]?.getD 0 + ((2 ^ r : Nat) : Int) ∨ y = zs[j]?.getD 0 - ((2 ^ r : Nat) : Int)) : Mt.cks (zs.set j y) ≠ 0 := by
  intro h0
  have hrr : r = 0 ∨ r = 1 ∨ r = 2 ∨ r = 3 ∨ r = 4 ∨ r = 5 ∨ r = 6 ∨ r = 7 := by omega
  have hp : ((2 ^ r : Nat) : Int) = 1 ∨ ((2 ^ r : Nat) : Int) = 2 ∨ ((2 ^ r : Nat) : Int) = 4 ∨ ((2 ^ r : Nat) : Int) = 8 ∨ ((2 ^ r : Nat) : Int) = 16 ∨ ((2 ^ r : Nat) : Int) = 32 ∨ ((2 ^ r : Nat) : Int) = 64 ∨ ((2 ^ r : Nat) : Int) = 128 := by
    rcases hrr with rfl | rfl | rfl | rfl | rfl | rfl | rfl | rfl <;> simp
  generalize ((2 ^ r : Nat) : Int) = p at *
  have hg1 := Mt.fd_eq _ (show Mt.fd (Mt.tw true zs) = 65535 from by unfold Mt.cks at hg; omega)
  have hg2 := Mt.fd_eq _ (show Mt.fd (Mt.tw true (zs.set j y)) = 65535 from by unfold Mt.cks at h0; omega)
  rw [Mt.tw_set true _ j y hj] at hg2
  generalize zs[j]?.getD 0 = z at *
  generalize Mt.tw true zs = T at *
  have hd : y - z = p ∨ y - z = -p := by omega
  generalize y - z = d at *
  by_cases htu : Mt.turn true j = true
  · rw [if_pos htu] at hg2
    omega
  · rw [if_neg htu] at hg2
    omega
end Go.Proofs.YtfhcgollhifjlaaDoor

/- What is parsed of a segment, a datagram that was built; one bit of an address turned. -/
namespace Go.Proofs.YtfhcgollhifjlaaDoor
open Go.RowKit
set_option maxRecDepth 100000
set_option linter.unusedVariables false
set_option linter.unusedSimpArgs false

theorem flt_fit2 {lo ld : Nat} (hf : flt lo ld = 0) : lo ≤ 40 ∧ lo % 4 = 0 ∧ 20 + lo + ld ≤ 65535 := by
  unfold flt at hf
  split at hf <;> first | omega | (split at hf <;> omega)
theorem bte_fit {os : List Opt} {lo lm : Nat} (h : bte os lo lm = 0) : obOk os ∧ lo ≤ 40 ∧ lo % 4 = 0 ∧ 20 + lo + (20 + (pad (obs os)).length + lm) ≤ 65535 := by
  unfold bte at h
  split at h
  · exact ⟨by assumption, flt_fit2 h⟩
  · omega
/-- The sum of what stands ahead. -/
theorem tw_psd_app (s d p n : Int) (zs : List Int) : Mt.tw true (psd s d p n ++ zs) = Mt.tw true (psd s d p n) + Mt.tw true zs := by
  rw [Mt.tw_append, psd_length]
  rfl
/-- A check sum put at an even place where 0 stood makes the bytes good, also with what stands ahead of them. -/
theorem good_put (s d p n : Int) (zs : List Int) (k : Nat) (hB : Mt.By (psd s d p n ++ zs)) (hk : k % 2 = 0) (hl : k + 1 < zs.length) (h0 : zs[k]?.getD 0 = 0) (h1 : zs[k + 1]?.getD 0 = 0) : Mt.cks (psd s d p n ++ Mt.put2 zs k (Mt.cks (psd s d p n ++ zs))) = 0 := by
  have hn := Mt.tw_nonneg true _ hB
  have hg := Mt.fd_good _ hn
  rw [tw_psd_app] at hn hg
  unfold Mt.cks
  rw [tw_psd_app, Mt.tw_put2 zs k _ hk hl, h0, h1, tw_psd_app]
  rw [show Mt.tw true (psd s d p n) + (Mt.tw true zs + (65535 - Mt.fd (Mt.tw true (psd s d p n) + Mt.tw true zs)) - (0 * 256 + 0)) = Mt.tw true (psd s d p n) + Mt.tw true zs + (65535 - Mt.fd (Mt.tw true (psd s d p n) + Mt.tw true zs)) from by omega, hg]
  rfl
theorem good_put5 (s d p n : Int) (zs : List Int) (k : Nat) (hB : Mt.By (psd s d p n ++ zs)) (hk : k % 2 = 0) (hl : k + 1 < zs.length) (h0 : zs[k]?.getD 0 = 0) (h1 : zs[k + 1]?.getD 0 = 0) (hc : Mt.cks (psd s d p n ++ zs) = 0) : Mt.cks (psd s d p n ++ Mt.put2 zs k 65535) = 0 := by
  have hg := Mt.fd_eq _ (show Mt.fd (Mt.tw true (psd s d p n ++ zs)) = 65535 from by unfold Mt.cks at hc; omega)
  rw [tw_psd_app] at hg
  unfold Mt.cks
  rw [tw_psd_app, Mt.tw_put2 zs k _ hk hl, h0, h1, Mt.fd_of _ (by omega) (by omega)]
  rfl

section
variable (sp dp sq ak fl wn ur : Int) (ob : List Int) (src dst : Int) (zd : List Int)
def hd20 (c : Int) : List Int := Mt.put2 ([sp, dp].flatMap b2 ++ [sq, ak].flatMap b4 ++ [(20 + (ob.length : Int)) / 4 * 16, fl] ++ [wn, 0, ur].flatMap b2) 16 c
theorem hd20_length (c : Int) : (hd20 sp dp sq ak fl wn ur ob c).length = 20 := by simp [hd20, Mt.put2_length, b2, b4]
theorem tcp_split : tcp sp dp sq ak fl wn ur ob src dst zd = hd20 sp dp sq ak fl wn ur ob (Mt.cks (psd src dst 6 (20 + ob.length + zd.length : Nat) ++ tcp0 sp dp sq ak fl wn ur ob zd)) ++ (ob ++ zd) := by
  unfold tcp hd20
  generalize Mt.cks (psd src dst 6 (20 + ob.length + zd.length : Nat) ++ tcp0 sp dp sq ak fl wn ur ob zd) = c
  simp [tcp0, Mt.put2, b2, b4]
theorem tcp_drop (h : Nat) (hh : h = 20 + ob.length) : (tcp sp dp sq ak fl wn ur ob src dst zd).drop h = zd := by
  subst hh
  rw [tcp_split, List.drop_append, hd20_length, List.drop_of_length_le (by rw [hd20_length]; omega), List.nil_append, show 20 + ob.length - 20 = ob.length from by omega, List.drop_left]
theorem tcp_opt (h : Nat) (hh : h = 20 + ob.length) : ((tcp sp dp sq ak fl wn ur ob src dst zd).drop 20).take (h - 20) = ob := by
  subst hh
  rw [tcp_split, List.drop_append, hd20_length, List.drop_of_length_le (by rw [hd20_length]; omega), List.nil_append, Nat.sub_self, List.drop_zero, show 20 + ob.length - 20 = ob.length from by omega, List.take_left]
theorem tcp_at (j : Nat) (hj : j < 20) : (tcp sp dp sq ak fl wn ur ob src dst zd)[j]?.getD 0 = (hd20 sp dp sq ak fl wn ur ob (Mt.cks (psd src dst 6 (20 + ob.length + zd.length : Nat) ++ tcp0 sp dp sq ak fl wn ur ob zd)))[j]?.getD 0 := by
  rw [tcp_split, List.getElem?_append_left (by rw [hd20_length]; exact hj)]
theorem tcp_12 : (tcp sp dp sq ak fl wn ur ob src dst zd)[12]?.getD 0 = (20 + (ob.length : Int)) / 4 * 16 := by rw [tcp_at _ _ _ _ _ _ _ _ _ _ _ 12 (by omega)]; simp [hd20, Mt.put2, b2, b4]
theorem tcp_13 : (tcp sp dp sq ak fl wn ur ob src dst zd)[13]?.getD 0 = fl := by rw [tcp_at _ _ _ _ _ _ _ _ _ _ _ 13 (by omega)]; simp [hd20, Mt.put2, b2, b4]
theorem tcp_thd (h4 : ob.length % 4 = 0) : thd (tcp sp dp sq ak fl wn ur ob src dst zd) = 20 + (ob.length : Int) := by unfold thd; rw [tcp_12]; omega
theorem tcp_wat (j : Nat) (hj : j + 1 < 20) : wat (tcp sp dp sq ak fl wn ur ob src dst zd) j = wat (hd20 sp dp sq ak fl wn ur ob (Mt.cks (psd src dst 6 (20 + ob.length + zd.length : Nat) ++ tcp0 sp dp sq ak fl wn ur ob zd))) j := by
  unfold wat
  rw [tcp_at _ _ _ _ _ _ _ _ _ _ _ j (by omega), tcp_at _ _ _ _ _ _ _ _ _ _ _ (j + 1) hj]
theorem tcp_w0 : wat (tcp sp dp sq ak fl wn ur ob src dst zd) 0 = sp := by rw [tcp_wat _ _ _ _ _ _ _ _ _ _ _ 0 (by omega)]; simp [wat, hd20, Mt.put2, b2, b4]; omega
theorem tcp_w2 : wat (tcp sp dp sq ak fl wn ur ob src dst zd) 2 = dp := by rw [tcp_wat _ _ _ _ _ _ _ _ _ _ _ 2 (by omega)]; simp [wat, hd20, Mt.put2, b2, b4]; omega
theorem tcp_w14 : wat (tcp sp dp sq ak fl wn ur ob src dst zd) 14 = wn := by rw [tcp_wat _ _ _ _ _ _ _ _ _ _ _ 14 (by omega)]; simp [wat, hd20, Mt.put2, b2, b4]; omega
theorem tcp_w18 : wat (tcp sp dp sq ak fl wn ur ob src dst zd) 18 = ur := by rw [tcp_wat _ _ _ _ _ _ _ _ _ _ _ 18 (by omega)]; simp [wat, hd20, Mt.put2, b2, b4]; omega
theorem tcp_w4 : wat4 (tcp sp dp sq ak fl wn ur ob src dst zd) 4 = sq := by unfold wat4; rw [tcp_wat _ _ _ _ _ _ _ _ _ _ _ 4 (by omega), tcp_wat _ _ _ _ _ _ _ _ _ _ _ (4 + 2) (by omega)]; simp [wat, hd20, Mt.put2, b2, b4]; omega
theorem tcp_w8 : wat4 (tcp sp dp sq ak fl wn ur ob src dst zd) 8 = ak := by unfold wat4; rw [tcp_wat _ _ _ _ _ _ _ _ _ _ _ 8 (by omega), tcp_wat _ _ _ _ _ _ _ _ _ _ _ (8 + 2) (by omega)]; simp [wat, hd20, Mt.put2, b2, b4]; omega
theorem tcp_good (hs : 0 ≤ src ∧ src ≤ 4294967295) (hd : 0 ≤ dst ∧ dst ≤ 4294967295) (hB : Mt.By (tcp0 sp dp sq ak fl wn ur ob zd)) : Mt.cks (psd src dst 6 (20 + ob.length + zd.length : Nat) ++ tcp sp dp sq ak fl wn ur ob src dst zd) = 0 :=
  good_put src dst 6 _ _ 16 ((By_psd src dst 6 _ hs hd (by omega)).append hB) (by omega) (by rw [tcp0_length]; omega) (by simp [tcp0, b2, b4]) (by simp [tcp0, b2, b4])
theorem tcp_ptc (proto : Int) (hp : proto = 6) (s d : Int) (h4 : ob.length % 4 = 0) (h40 : ob.length ≤ 40) : ptc proto s d (tcp sp dp sq ak fl wn ur ob src dst zd) = if Mt.cks (psd s d 6 (20 + ob.length + zd.length : Nat) ++ tcp sp dp sq ak fl wn ur ob src dst zd) ≠ 0 then 5 else 0 := by
  unfold ptc
  rw [if_neg (by simp [hp]), tcp_length, if_neg (by omega), tcp_thd _ _ _ _ _ _ _ _ _ _ _ h4, tcp_12, if_neg (by omega), if_neg (by omega)]
end
theorem tcp_hop (sp dp sq ak fl wn ur : Int) (ob : List Int) (src dst : Int) (zd : List Int) (h4 : ob.length % 4 = 0) : hop (tcp sp dp sq ak fl wn ur ob src dst zd) = ob := by
  unfold hop
  rw [tcp_thd _ _ _ _ _ _ _ _ _ _ _ h4]
  exact tcp_opt _ _ _ _ _ _ _ _ _ _ _ _ (by omega)
theorem tcp_pte (sp dp sq ak fl wn ur : Int) (os : List Opt) (src dst : Int) (zd : List Int) (hok : obOk os) (hs : 0 ≤ src ∧ src ≤ 4294967295) (hd : 0 ≤ dst ∧ dst ≤ 4294967295) (hB : Mt.By (tcp0 sp dp sq ak fl wn ur (pad (obs os)) zd)) :
    pte 6 src dst (tcp sp dp sq ak fl wn ur (pad (obs os)) src dst zd) = 0 ∧ opts (hop (tcp sp dp sq ak fl wn ur (pad (obs os)) src dst zd)) = some os := by
  have h1 : ptc 6 src dst (tcp sp dp sq ak fl wn ur (pad (obs os)) src dst zd) = 0 := by
    rw [tcp_ptc _ _ _ _ _ _ _ _ _ _ _ 6 rfl src dst (pad_mod _) (pad_le _ hok.2), if_neg (by rw [tcp_good _ _ _ _ _ _ _ _ _ _ _ hs hd hB]; simp)]
  have h2 : opts (hop (tcp sp dp sq ak fl wn ur (pad (obs os)) src dst zd)) = some os := by rw [tcp_hop _ _ _ _ _ _ _ _ _ _ _ (pad_mod _)]; exact opts_pad os hok
  refine ⟨?_, h2⟩
  unfold pte
  rw [if_neg (by simp [h1]), h2]
  rfl

section
variable (sp dp : Int) (bare : Bool) (src dst : Int) (zm : List Int)
theorem udp_at (j : Nat) (h6 : j ≠ 6) (h7 : j ≠ 7) : (udp sp dp bare src dst zm)[j]?.getD 0 = (udp0 sp dp zm)[j]?.getD 0 := by
  unfold udp
  split
  · rfl
  · rw [Mt.put2_other _ _ _ _ h6 h7]
theorem udp_w0 : wat (udp sp dp bare src dst zm) 0 = sp := by unfold wat; rw [udp_at _ _ _ _ _ _ 0 (by omega) (by omega), udp_at _ _ _ _ _ _ (0 + 1) (by omega) (by omega)]; simp [udp0, b2]; omega
theorem udp_w2 : wat (udp sp dp bare src dst zm) 2 = dp := by unfold wat; rw [udp_at _ _ _ _ _ _ 2 (by omega) (by omega), udp_at _ _ _ _ _ _ (2 + 1) (by omega) (by omega)]; simp [udp0, b2]; omega
theorem udp_w4 (h : 8 + zm.length ≤ 65535) : wat (udp sp dp bare src dst zm) 4 = 8 + zm.length := by unfold wat; rw [udp_at _ _ _ _ _ _ 4 (by omega) (by omega), udp_at _ _ _ _ _ _ (4 + 1) (by omega) (by omega)]; simp [udp0, b2]; omega
theorem udp_drop : (udp sp dp bare src dst zm).drop 8 = zm := by
  unfold udp
  split
  · simp [udp0, b2]
  · simp [udp0, b2, Mt.put2]
theorem udp_w6 : wat (udp sp dp bare src dst zm) 6 = if bare then 0 else usm src dst 17 (udp0 sp dp zm) := by
  unfold udp
  cases bare with
  | true => simp [wat, udp0, b2]
  | false =>
    simp only [Bool.false_eq_true, if_false]
    unfold wat
    have := Mt.put2_at (udp0 sp dp zm) 6 (usm src dst 17 (udp0 sp dp zm)) (by rw [udp0_length]; omega)
    rw [this.1, this.2]
    omega
theorem udp_good (hs : 0 ≤ src ∧ src ≤ 4294967295) (hd : 0 ≤ dst ∧ dst ≤ 4294967295) (hB : Mt.By (udp0 sp dp zm)) : Mt.cks (psd src dst 17 (8 + zm.length : Nat) ++ udp sp dp false src dst zm) = 0 := by
  unfold udp
  simp only [Bool.false_eq_true, if_false]
  have hBB := (By_psd src dst 17 (8 + zm.length : Nat) hs hd (by omega)).append hB
  have hz : (udp0 sp dp zm)[6]?.getD 0 = 0 ∧ (udp0 sp dp zm)[6 + 1]?.getD 0 = 0 := ⟨by simp [udp0, b2], by simp [udp0, b2]⟩
  unfold usm
  rw [udp0_length]
  split
  · exact good_put5 src dst 17 _ _ 6 hBB (by omega) (by rw [udp0_length]; omega) hz.1 hz.2 (by assumption)
  · exact good_put src dst 17 _ _ 6 hBB (by omega) (by rw [udp0_length]; omega) hz.1 hz.2
theorem udp_pue (proto : Int) (hp : proto = 17) (s d : Int) (h : 8 + zm.length ≤ 65535) : pue proto s d (udp sp dp bare src dst zm) = if bare = false ∧ Mt.cks (psd s d 17 (8 + zm.length : Nat) ++ udp sp dp bare src dst zm) ≠ 0 then 5 else 0 := by
  unfold pue
  have hb := usm_bd src dst 17 (udp0 sp dp zm)
  rw [if_neg (by simp [hp]), udp_length, if_neg (by omega), udp_w4 _ _ _ _ _ _ h, if_neg (by simp), udp_w6]
  cases bare with
  | true => simp
  | false =>
    simp only [Bool.false_eq_true, if_false, true_and]
    congr 1
    simp only [eq_iff_iff]
    exact ⟨fun h => h.2, fun h => ⟨by omega, h⟩⟩
end

/-- One bit of an address turned is one bit of what stands ahead. -/
theorem pw_bytes : ∀ r < 32, ∀ k ∈ [0, 8, 16, 24], 2 ^ r / 2 ^ k % 2 ^ 8 = if r / 8 * 8 = k then 2 ^ (r % 8) else 0 := by decide +kernel
theorem xor_byte (x r k : Nat) (hr : r < 32) (hk : k ∈ [0, 8, 16, 24]) : (x ^^^ 2 ^ r) / 2 ^ k % 2 ^ 8 = if r / 8 * 8 = k then (x / 2 ^ k % 2 ^ 8) ^^^ 2 ^ (r % 8) else x / 2 ^ k % 2 ^ 8 := by
  rw [Nat.xor_div_two_pow, Nat.xor_mod_two_pow, pw_bytes r hr k hk]
  split <;> simp
theorem xor_lt32 (x r : Nat) (hx : x < 4294967296) (hr : r < 32) : x ^^^ 2 ^ r < 4294967296 := Nat.xor_lt_two_pow (n := 32) hx (Nat.pow_lt_pow_right (by omega) hr)
theorem flip_byte (n r : Nat) (hn : n < 256) (hr : r < 8) : ((n ^^^ 2 ^ r : Nat) : Int) = (n : Int) + ((2 ^ r : Nat) : Int) ∨ ((n ^^^ 2 ^ r : Nat) : Int) = (n : Int) - ((2 ^ r : Nat) : Int) := by
  obtain ⟨h, _⟩ := nat_flip r hr n hn
  omega
theorem psd_src (x r : Nat) (hx : x < 4294967296) (hr : r < 32) (d p n : Int) : ∃ j y, j < 12 ∧ psd ((x ^^^ 2 ^ r : Nat) : Int) d p n = (psd (x : Int) d p n).set j y ∧ (y = (psd (x : Int) d p n)[j]?.getD 0 + ((2 ^ (r % 8) : Nat) : Int) ∨ y = (psd (x : Int) d p n)[j]?.getD 0 - ((2 ^ (r % 8) : Nat) : Int)) := by
  have hl := xor_lt32 x r hx hr
  have k0 := xor_byte x r 0 hr (by simp)
  have k1 := xor_byte x r 8 hr (by simp)
  have k2 := xor_byte x r 16 hr (by simp)
  have k3 := xor_byte x r 24 hr (by simp)
  generalize x ^^^ 2 ^ r = x' at *
  simp only [Nat.reducePow, Nat.div_one] at k0 k1 k2 k3
  have h4 : r / 8 = 0 ∨ r / 8 = 1 ∨ r / 8 = 2 ∨ r / 8 = 3 := by omega
  rcases h4 with h | h | h | h <;> rw [h] at k0 k1 k2 k3 <;> simp at k0 k1 k2 k3
  · have f := flip_byte (x % 256) (r % 8) (by omega) (by omega)
    refine ⟨3, ((((x % 256) ^^^ 2 ^ (r % 8) : Nat)) : Int), by omega, ?_, ?_⟩
    · generalize (x % 256) ^^^ 2 ^ (r % 8) = q at *
      simp only [psd, List.set_cons_succ, List.set_cons_zero, List.cons.injEq, and_true, true_and]
      omega
    · generalize (x % 256) ^^^ 2 ^ (r % 8) = q at *
      generalize ((2 ^ (r % 8) : Nat) : Int) = t at *
      simp only [psd, List.getElem?_cons_succ, List.getElem?_cons_zero, Option.getD_some]
      omega
  · have f := flip_byte (x / 256 % 256) (r % 8) (by omega) (by omega)
    refine ⟨2, ((((x / 256 % 256) ^^^ 2 ^ (r % 8) : Nat)) : Int), by omega, ?_, ?_⟩
    · generalize (x / 256 % 256) ^^^ 2 ^ (r % 8) = q at *
      simp only [psd, List.set_cons_succ, List.set_cons_zero, List.cons.injEq, and_true, true_and]
      omega
    · generalize (x / 256 % 256) ^^^ 2 ^ (r % 8) = q at *
      generalize ((2 ^ (r % 8) : Nat) : Int) = t at *
      simp only [psd, List.getElem?_cons_succ, List.getElem?_cons_zero, Option.getD_some]
      omega
  · have f := flip_byte (x / 65536 % 256) (r % 8) (by omega) (by omega)
    refine ⟨1, ((((x / 65536 % 256) ^^^ 2 ^ (r % 8) : Nat)) : Int), by omega, ?_, ?_⟩
    · generalize (x / 65536 % 256) ^^^ 2 ^ (r % 8) = q at *
      simp only [psd, List.set_cons_succ, List.set_cons_zero, List.cons.injEq, and_true, true_and]
      omega
    · generalize (x / 65536 % 256) ^^^ 2 ^ (r % 8) = q at *
      generalize ((2 ^ (r % 8) : Nat) : Int) = t at *
      simp only [psd, List.getElem?_cons_succ, List.getElem?_cons_zero, Option.getD_some]
      omega
  · have f := flip_byte (x / 16777216 % 256) (r % 8) (by omega) (by omega)
    refine ⟨0, ((((x / 16777216 % 256) ^^^ 2 ^ (r % 8) : Nat)) : Int), by omega, ?_, ?_⟩
    · generalize (x / 16777216 % 256) ^^^ 2 ^ (r % 8) = q at *
      simp only [psd, List.set_cons_succ, List.set_cons_zero, List.cons.injEq, and_true, true_and]
      omega
    · generalize (x / 16777216 % 256) ^^^ 2 ^ (r % 8) = q at *
      generalize ((2 ^ (r % 8) : Nat) : Int) = t at *
      simp only [psd, List.getElem?_cons_succ, List.getElem?_cons_zero, Option.getD_some]
      omega
theorem psd_dst (x r : Nat) (hx : x < 4294967296) (hr : r < 32) (s p n : Int) : ∃ j y, j < 12 ∧ psd s ((x ^^^ 2 ^ r : Nat) : Int) p n = (psd s (x : Int) p n).set j y ∧ (y = (psd s (x : Int) p n)[j]?.getD 0 + ((2 ^ (r % 8) : Nat) : Int) ∨ y = (psd s (x : Int) p n)[j]?.getD 0 - ((2 ^ (r % 8) : Nat) : Int)) := by
  have hl := xor_lt32 x r hx hr
  have k0 := xor_byte x r 0 hr (by simp)
  have k1 := xor_byte x r 8 hr (by simp)
  have k2 := xor_byte x r 16 hr (by simp)
  have k3 := xor_byte x r 24 hr (by simp)
  generalize x ^^^ 2 ^ r = x' at *
  simp only [Nat.reducePow, Nat.div_one] at k0 k1 k2 k3
  have h4 : r / 8 = 0 ∨ r / 8 = 1 ∨ r / 8 = 2 ∨ r / 8 = 3 := by omega
  rcases h4 with h | h | h | h <;> rw [h] at k0 k1 k2 k3 <;> simp at k0 k1 k2 k3
  · have f := flip_byte (x % 256) (r % 8) (by omega) (by omega)
    refine ⟨7, ((((x % 256) ^^^ 2 ^ (r % 8) : Nat)) : Int), by omega, ?_, ?_⟩
    · generalize (x % 256) ^^^ 2 ^ (r % 8) = q at *
      simp only [psd, List.set_cons_succ, List.set_cons_zero, List.cons.injEq, and_true, true_and]
      omega
    · generalize (x % 256) ^^^ 2 ^ (r % 8) = q at *
      generalize ((2 ^ (r % 8) : Nat) : Int) = t at *
      simp only [psd, List.getElem?_cons_succ, List.getElem?_cons_zero, Option.getD_some]
      omega
  · have f := flip_byte (x / 256 % 256) (r % 8) (by omega) (by omega)
    refine ⟨6, ((((x / 256 % 256) ^^^ 2 ^ (r % 8) : Nat)) : Int), by omega, ?_, ?_⟩
    · generalize (x / 256 % 256) ^^^ 2 ^ (r % 8) = q at *
      simp only [psd, List.set_cons_succ, List.set_cons_zero, List.cons.injEq, and_true, true_and]
      omega
    · generalize (x / 256 % 256) ^^^ 2 ^ (r % 8) = q at *
      generalize ((2 ^ (r % 8) : Nat) : Int) = t at *
      simp only [psd, List.getElem?_cons_succ, List.getElem?_cons_zero, Option.getD_some]
      omega
  · have f := flip_byte (x / 65536 % 256) (r % 8) (by omega) (by omega)
    refine ⟨5, ((((x / 65536 % 256) ^^^ 2 ^ (r % 8) : Nat)) : Int), by omega, ?_, ?_⟩
    · generalize (x / 65536 % 256) ^^^ 2 ^ (r % 8) = q at *
      simp only [psd, List.set_cons_succ, List.set_cons_zero, List.cons.injEq, and_true, true_and]
      omega
    · generalize (x / 65536 % 256) ^^^ 2 ^ (r % 8) = q at *
      generalize ((2 ^ (r % 8) : Nat) : Int) = t at *
      simp only [psd, List.getElem?_cons_succ, List.getElem?_cons_zero, Option.getD_some]
      omega
  · have f := flip_byte (x / 16777216 % 256) (r % 8) (by omega) (by omega)
    refine ⟨4, ((((x / 16777216 % 256) ^^^ 2 ^ (r % 8) : Nat)) : Int), by omega, ?_, ?_⟩
    · generalize (x / 16777216 % 256) ^^^ 2 ^ (r % 8) = q at *
      simp only [psd, List.set_cons_succ, List.set_cons_zero, List.cons.injEq, and_true, true_and]
      omega
    · generalize (x / 16777216 % 256) ^^^ 2 ^ (r % 8) = q at *
      generalize ((2 ^ (r % 8) : Nat) : Int) = t at *
      simp only [psd, List.getElem?_cons_succ, List.getElem?_cons_zero, Option.getD_some]
      omega

/-- So its sum is good no more. -/
theorem psd_bad {s d s' d' p n : Int} {zs : List Int} {r : Nat} (h : ∃ j y, j < 12 ∧ psd s' d' p n = (psd s d p n).set j y ∧ (y = (psd s d p n)[j]?.getD 0 + ((2 ^ (r % 8) : Nat) : Int) ∨ y = (psd s d p n)[j]?.getD 0 - ((2 ^ (r % 8) : Nat) : Int))) (hg : Mt.cks (psd s d p n ++ zs) = 0) : Mt.cks (psd s' d' p n ++ zs) ≠ 0 := by
  obtain ⟨j, y, hj, he, hy⟩ := h
  rw [he, ← List.set_append_left _ _ (by rw [psd_length]; exact hj)]
  refine cks_flip _ hg j (by rw [List.length_append, psd_length]; omega) (r % 8) (by omega) y ?_
  rw [List.getElem?_append_left (by rw [psd_length]; exact hj)]
  exact hy
/-- A bit turned in a number of 32. -/
theorem u32_bit (s : Int) (hs : 0 ≤ s ∧ s ≤ 4294967295) (r : Nat) (hr : r < 32) (p : Int) (hp : p = ((2 ^ r : Nat) : Int)) : ∃ x : Nat, s = x ∧ x < 4294967296 ∧ bits .xor .u32 s p = ((x ^^^ 2 ^ r : Nat) : Int) ∧ (0 ≤ bits .xor .u32 s p ∧ bits .xor .u32 s p ≤ 4294967295) := by
  obtain ⟨x, rfl⟩ := Int.eq_ofNat_of_zero_le hs.1
  subst hp
  have h2 : 2 ^ r < 2 ^ 32 := Nat.pow_lt_pow_right (by omega) hr
  rw [show 2 ^ 32 = 4294967296 from rfl] at h2
  have e := u32_xor_nat x (2 ^ r) (by omega) h2
  have hl := xor_lt32 x r (by omega) hr
  refine ⟨x, rfl, by omega, e, ?_⟩
  rw [e]
  omega
end Go.Proofs.YtfhcgollhifjlaaDoor

/- Package table: rows as they lie in memory; which row is a tuple's. -/
namespace Go.Proofs.YtfhcgollhifjlaaDoor
open Go.RowKit Go.Shelf
set_option maxRecDepth 100000
set_option linter.unusedVariables false
set_option linter.unusedSimpArgs false

/-- A row: its key, its number, its time, its turn. -/
structure Rw where
  p : Int
  s : Int
  d : Int
  a : Int
  b : Int
  id : Int
  till : Int
  turn : Int
deriving DecidableEq
def rwc (r : Rw) : List Value := [.int .u8 r.p, .int .u32 r.s, .int .u32 r.d, .int .u16 r.a, .int .u16 r.b, .int .i64 r.id, .int .i64 r.till, .int .i64 r.turn]
def rwk (r : Rw) : List Value := [.int .u8 r.p, .int .u32 r.s, .int .u32 r.d, .int .u16 r.a, .int .u16 r.b]
def rws (l : List Rw) : List Value := l.flatMap rwc
theorem rwc_length (r : Rw) : (rwc r).length = 8 := rfl
theorem rws_length (l : List Rw) : (rws l).length = l.length * 8 := by
  induction l with
  | nil => rfl
  | cons r l ih => unfold rws at ih ⊢; rw [List.flatMap_cons, List.length_append, ih, rwc_length, List.length_cons]; omega
theorem rws_at : ∀ (l : List Rw) (j i : Nat) (hj : j < l.length), i < 8 → (rws l)[j * 8 + i]? = (rwc l[j])[i]?
  | r :: l, 0, i, _, hi => by
    unfold rws
    rw [List.flatMap_cons, Nat.zero_mul, Nat.zero_add, List.getElem?_append_left (by rw [rwc_length]; exact hi)]
    rfl
  | r :: l, j + 1, i, hj, hi => by
    have ih := rws_at l j i (by simpa using hj) hi
    unfold rws at ih ⊢
    rw [List.flatMap_cons, List.getElem?_append_right (by rw [rwc_length]; omega), rwc_length, show (j + 1) * 8 + i - 8 = j * 8 + i from by omega, ih]
    rfl
/-- The slice value reads as these rows, all of it below block n₀. -/
def RdR (n₀ : Nat) (W : World) (sv : Value) (l : List Rw) : Prop :=
  (∃ a cap, sv = .slice a 0 cap ∧ l = [] ∧ cap ≤ 9223372036854775807 ∧ (a = none → cap = 0)) ∨
  ∃ b off cap, sv = .slice (some ⟨b, off, none⟩) l.length cap ∧ l ≠ [] ∧ l.length ≤ cap ∧ cap ≤ 9223372036854775807 ∧ b < n₀ ∧ ∀ j (hj : j < l.length), ∀ i, i < 8 → W.cell? ⟨b, off + j * 8 + i, none⟩ = (rwc l[j])[i]?
theorem RdR.below {n₀ : Nat} {A B : World} (h : Below n₀ A B) {sv : Value} {l : List Rw} : RdR n₀ A sv l → RdR n₀ B sv l
  | .inl e => .inl e
  | .inr ⟨b, off, cap, e, hne, hl, hm, hb, hc⟩ => .inr ⟨b, off, cap, e, hne, hl, hm, hb, fun j hj i hi => (h.cell (p := ⟨b, off + j * 8 + i, none⟩) hb).trans (hc j hj i hi)⟩
theorem RdR.mono {n₀ n₁ : Nat} {A : World} (h : n₀ ≤ n₁) {sv : Value} {l : List Rw} : RdR n₀ A sv l → RdR n₁ A sv l
  | .inl e => .inl e
  | .inr ⟨b, off, cap, e, hne, hl, hm, hb, hc⟩ => .inr ⟨b, off, cap, e, hne, hl, hm, Nat.lt_of_lt_of_le hb h, hc⟩
theorem RdR.slice {n₀ : Nat} {A : World} {sv : Value} {l : List Rw} : RdR n₀ A sv l → ∃ a cap, sv = .slice a l.length cap ∧ l.length ≤ cap ∧ cap ≤ 9223372036854775807
  | .inl ⟨a, cap, e, hz, hm, _⟩ => ⟨a, cap, by rw [e, hz]; rfl, by rw [hz]; exact Nat.zero_le _, hm⟩
  | .inr ⟨b, off, cap, e, _, hl, hm, _⟩ => ⟨_, cap, e, hl, hm⟩
theorem RdR.cells {n₀ : Nat} {W : World} {sv : Value} {l : List Rw} (h : RdR n₀ W sv l) (hne : 0 < l.length) : ∃ b off cap, sv = .slice (some ⟨b, off, none⟩) l.length cap ∧ l.length ≤ cap ∧ cap ≤ 9223372036854775807 ∧ b < n₀ ∧ ∀ j (hj : j < l.length), ∀ i, i < 8 → W.cell? ⟨b, off + j * 8 + i, none⟩ = (rwc l[j])[i]? := by
  rcases h with ⟨a, cap, _, rfl, _⟩ | ⟨b, off, cap, e, _, hl, hm, hb, hc⟩
  · simp at hne
  · exact ⟨b, off, cap, e, hl, hm, hb, hc⟩
/-- What one's own row of rows reads as. -/
theorem ownR_rd {base : Nat} {W : World} {v : Value} {l : List Rw} (h : W.ownsRow base 75 8 v l.length (rws l)) : RdR W.heap.size W v l := by
  obtain ⟨h1, ⟨rfl, h0⟩ | ⟨g, cap, cur, rfl, hg, hh, hl, hm, hs, hc⟩⟩ := h
  · have : l = [] := List.eq_nil_of_length_eq_zero h0
    subst this
    exact .inl ⟨none, 0, rfl, rfl, by omega, fun _ => rfl⟩
  · by_cases hn : l = []
    · subst hn
      exact .inl ⟨_, cap, rfl, rfl, by simpa [maxLen] using hm, fun h => by cases h⟩
    · refine .inr ⟨g, 0, cap, rfl, hn, hl, by simpa [maxLen] using hm, (Array.getElem?_eq_some_iff.1 hh).1, fun j hj i hi => ?_⟩
      rw [Nat.zero_add, block_cell hh, ← rws_at l j i hj hi, ← hc, List.getElem?_take_of_lt (by omega)]
      simp

/-- Is the row this key's? -/
def isK (kp ks kd ka kb : Int) (r : Rw) : Bool := r.p == kp && (r.s == ks && (r.d == kd && (r.a == ka && r.b == kb)))

theorem tup_eql (p s d a b p2 s2 d2 a2 b2 : Int) (w : World) : (binOp .eql 34 (.agg #[.int .u8 p, .int .u32 s, .int .u32 d, .int .u16 a, .int .u16 b]) (.agg #[.int .u8 p2, .int .u32 s2, .int .u32 d2, .int .u16 a2, .int .u16 b2])).run Tryd.prog w = .ok (.bool (p == p2 && (s == s2 && (d == d2 && (a == a2 && b == b2))))) w := by
  go_simp
  by_cases h1 : p = p2 <;> by_cases h2 : s = s2 <;> by_cases h3 : d = d2 <;> by_cases h4 : a = a2 <;> by_cases h5 : b = b2 <;> simp [h1, h2, h3, h4, h5]

set_option maxHeartbeats 2000000 in
theorem of_key (p s d a b : Int) (w : World) : Calls Tryd.prog 38 #[.agg #[.int .u8 p, .int .u32 s, .int .u32 d, .int .u16 a, .int .u16 b]] w fun e w' => ∃ g, e = .returned (.func (.func 53) #[] #[.pointer (some ⟨g, 0, none⟩)]) ∧ Below w.heap.size w w' ∧ w.heap.size ≤ g ∧ w'.heap[g]? = some (.cells #[.int .u8 p, .int .u32 s, .int .u32 d, .int .u16 (kyp p a), .int .u16 b] 34 (0, 0)) := by
  have hb0 : Below w.heap.size w (w.alloc (.cells #[.int .u8 p, .int .u32 s, .int .u32 d, .int .u16 a, .int .u16 b] 34)) := (Below.refl _ _).alloc (Nat.le_refl _) _
  go_enter Tryd.func38, Tryd.ntmps38
  go_wp2_with fail
  generalize w.alloc (.cells #[.int .u8 p, .int .u32 s, .int .u32 d, .int .u16 a, .int .u16 b] 34) = w0 at *
  refine (key_any p s d a b w0).mono ?_
  rintro e w1 ⟨rfl, hb1⟩
  generalize hk : kyp p a = ka at *
  have HK := hide hk
  clear hk
  have hw1 := hb0.trans (hb1.mono hb0.size)
  have la : Later w1 (w1.alloc (.cells #[.int .u8 p, .int .u32 s, .int .u32 d, .int .u16 ka, .int .u16 b] 34)) := (Below.refl _ _).alloc (Nat.le_refl _) _
  have gk := heap_alloc_new w1 (.cells #[.int .u8 p, .int .u32 s, .int .u32 d, .int .u16 ka, .int .u16 b] 34)
  have hw2 := hw1.trans (la.mono hw1.size)
  have hsz := hw1.size
  go_wp2_with fail
  go_ret
  exact ⟨w1.heap.size, rfl, hw2, hsz, by rw [HK.out]; exact gk⟩

set_option maxHeartbeats 2000000 in
theorem is_any (r : Rw) (g : Nat) (kp ks kd ka kb : Int) (w : World) (hg : w.heap[g]? = some (.cells #[.int .u8 kp, .int .u32 ks, .int .u32 kd, .int .u16 ka, .int .u16 kb] 34 (0, 0))) :
    Calls Tryd.prog 53 #[.agg (rwc r).toArray, .pointer (some ⟨g, 0, none⟩)] w fun e w' => e = .returned (.bool (isK kp ks kd ka kb r)) ∧ Below w.heap.size w w' := by
  obtain ⟨p, s, d, a, b, id, till, turn⟩ := r
  unfold rwc isK
  have hb0 : Below w.heap.size w (w.alloc (.cells #[.int .u8 p, .int .u32 s, .int .u32 d, .int .u16 a, .int .u16 b, .int .i64 id, .int .i64 till, .int .i64 turn] 75)) := (Below.refl _ _).alloc (Nat.le_refl _) _
  have kg := block_cell (later_keep hb0 hg)
  go_enter Tryd.func53, Tryd.ntmps53
  go_wp2_with fail
  all_goals go_ret
  all_goals exact ⟨by simp_all, (Below.refl _ _).alloc (Nat.le_refl _) _⟩
end Go.Proofs.YtfhcgollhifjlaaDoor

/- Package table: where a key's row stands in a list; lists of buckets; find. -/
namespace Go.Proofs.YtfhcgollhifjlaaDoor
open Go.RowKit Go.Shelf
set_option maxRecDepth 100000
set_option linter.unusedVariables false
set_option linter.unusedSimpArgs false

def kix (kp ks kd ka kb : Int) (l : List Rw) : Option Nat := l.findIdx? (isK kp ks kd ka kb)
theorem kix_none {kp ks kd ka kb : Int} {l : List Rw} (h : ∀ j (hj : j < l.length), isK kp ks kd ka kb l[j] = false) : kix kp ks kd ka kb l = none := by
  unfold kix
  rw [List.findIdx?_eq_none_iff]
  intro r hr
  obtain ⟨j, hj, rfl⟩ := List.getElem_of_mem hr
  exact h j hj
theorem kix_some {kp ks kd ka kb : Int} {l : List Rw} {k : Nat} (hk : k < l.length) (h : ∀ j (hj : j < l.length), j < k → isK kp ks kd ka kb l[j] = false) (ht : isK kp ks kd ka kb l[k] = true) : kix kp ks kd ka kb l = some k := by
  unfold kix
  rw [List.findIdx?_eq_some_iff_getElem]
  exact ⟨hk, ht, fun j hj => by simpa using h j (by omega) hj⟩

set_option maxHeartbeats 4000000 in
theorem index_any (n₀ g : Nat) (sv : Value) (l : List Rw) (kp ks kd ka kb : Int) (w : World) (hn : n₀ ≤ w.heap.size) (hI : RdR n₀ w sv l) (hg : w.heap[g]? = some (.cells #[.int .u8 kp, .int .u32 ks, .int .u32 kd, .int .u16 ka, .int .u16 kb] 34 (0, 0))) :
    Calls Tryd.prog 52 #[sv, .func (.func 53) #[] #[.pointer (some ⟨g, 0, none⟩)]] w fun e w' => Below w.heap.size w w' ∧ ((kix kp ks kd ka kb l = none ∧ e = .returned (.int .i64 (-1))) ∨ ∃ k : Nat, kix kp ks kd ka kb l = some k ∧ k < l.length ∧ e = .returned (.int .i64 (k : Int))) := by
  obtain ⟨a, cap, rfl, hc1, hc2⟩ := hI.slice
  have hlb : (l.length : Int) ≤ 9223372036854775807 := by omega
  go_enter Tryd.func52, Tryd.ntmps52
  go_wp2_with fail
  go_loopw [8] (fun i wr => ∃ k : Nat, k ≤ l.length ∧ i = .int .i64 (k : Int) ∧ (∀ j (hj : j < l.length), j < k → isK kp ks kd ka kb l[j] = false) ∧ Below w.heap.size w wr) (fun i _ => l.length - (intOf i).toNat)
  case atStart => exact ⟨0, by omega, rfl, fun j _ h => by omega, Below.refl _ _⟩
  case round =>
    obtain ⟨k, hk, rfl, hz, hbw⟩ := hrel
    have HZ := hide hz
    clear hz
    by_cases hlt : k < l.length
    · obtain ⟨b, off, cp, e, _, _, hbb, hcs⟩ := (hI.below (hbw.mono hn)).cells (by omega)
      simp at e
      obtain ⟨rfl, rfl⟩ := e
      have hgr := later_keep hbw hg
      have c0 := hcs k hlt 0 (by omega)
      have c1 := hcs k hlt 1 (by omega)
      have c2 := hcs k hlt 2 (by omega)
      have c3 := hcs k hlt 3 (by omega)
      have c4 := hcs k hlt 4 (by omega)
      have c5 := hcs k hlt 5 (by omega)
      have c6 := hcs k hlt 6 (by omega)
      have c7 := hcs k hlt 7 (by omega)
      have hlt' : (k : Int) < l.length := by omega
      clear hcs
      generalize hgo : l[k] = r at *
      have HGO := hide hgo
      clear hgo
      have HR : Hid (Value.agg (rwc r).toArray = .agg #[.int .u8 r.p, .int .u32 r.s, .int .u32 r.d, .int .u16 r.a, .int .u16 r.b, .int .i64 r.id, .int .i64 r.till, .int .i64 r.turn]) := rfl
      have hci := is_any r g kp ks kd ka kb wr hgr
      rw [HR.out] at hci
      simp only [rwc, List.getElem?_cons_zero, List.getElem?_cons_succ, Nat.add_zero] at c0 c1 c2 c3 c4 c5 c6 c7
      have HCI := hide hci
      clear hci
      go_wp2_with fail
      refine HCI.out.mono ?_
      rintro e w' ⟨rfl, hb'⟩
      have hw' := hbw.trans (hb'.mono hbw.size)
      cases ht : isK kp ks kd ka kb r with
      | true =>
        have HTT := hide ht
        clear ht c0 c1 c2 c3 c4 c5 c6 c7
        go_wp2_with fail
        go_ret
        exact ⟨hw', .inr ⟨k, kix_some hlt HZ.out (by rw [HGO.out]; exact HTT.out), hlt, rfl⟩⟩
      | false =>
        have HTT := hide ht
        clear ht c0 c1 c2 c3 c4 c5 c6 c7
        go_wp2_with fail
        go_roundw
        case rel => exact ⟨k + 1, by omega, by go_num, fun j hj hjk => by by_cases h : j = k; (subst h; rw [HGO.out]; exact HTT.out); exact HZ.out j hj (by omega), hw'⟩
        case measure => simp [intOf]; omega
    · obtain rfl : k = l.length := by omega
      go_wp2_with fail
      go_ret
      exact ⟨hbw, .inl ⟨kix_none (fun j hj => HZ.out j hj hj), rfl⟩⟩

/-- A table as it lies in memory: at block b; its lists, each in a block of its own. -/
def TBv (base : Nat) (W : World) (b : Nat) (lim cnt trn : Int) (vs : List Value) (ls : Nat → List Rw) : Prop :=
  vs.length = 256 ∧ base ≤ b ∧ W.heap[b]? = some (.cells (.int .i64 lim :: .int .i64 cnt :: .int .i64 trn :: vs).toArray 69 (0, 0)) ∧
  (∀ i, i < 256 → W.ownsRow base 75 8 (vs[i]?.getD undef) (ls i).length (rws (ls i))) ∧
  ∀ i j, i < 256 → j < 256 → i ≠ j → ∀ g, (vs[i]?.getD undef).ownBlock = some g → (vs[j]?.getD undef).ownBlock ≠ some g
def TB (base : Nat) (W : World) (b : Nat) (lim cnt trn : Int) (ls : Nat → List Rw) : Prop := ∃ vs, TBv base W b lim cnt trn vs ls
theorem ownR_later {base : Nat} {A B : World} {v : Value} {n : Nat} {xs : List Value} (h : A.ownsRow base 75 8 v n xs) (l : Later A B) : B.ownsRow base 75 8 v n xs := by
  obtain ⟨h1, h2 | ⟨g, cap, cur, hv, hg, hh, r⟩⟩ := h
  · exact ⟨h1, .inl h2⟩
  · exact ⟨h1, .inr ⟨g, cap, cur, hv, hg, later_keep l hh, r⟩⟩
theorem TBv.later {base : Nat} {A B : World} {b : Nat} {lim cnt trn : Int} {vs : List Value} {ls : Nat → List Rw} (h : TBv base A b lim cnt trn vs ls) (l : Later A B) : TBv base B b lim cnt trn vs ls :=
  ⟨h.1, h.2.1, later_keep l h.2.2.1, fun i hi => ownR_later (h.2.2.2.1 i hi) l, h.2.2.2.2⟩
theorem TB.later {base : Nat} {A B : World} {b : Nat} {lim cnt trn : Int} {ls : Nat → List Rw} (h : TB base A b lim cnt trn ls) (l : Later A B) : TB base B b lim cnt trn ls := by
  obtain ⟨vs, h⟩ := h
  exact ⟨vs, h.later l⟩
theorem TBv.cell {base : Nat} {W : World} {b : Nat} {lim cnt trn : Int} {vs : List Value} {ls : Nat → List Rw} (h : TBv base W b lim cnt trn vs ls) (i : Nat) (hi : i < 256) : W.cell? ⟨b, 3 + i, none⟩ = some (vs[i]?.getD undef) := by
  rw [block_cell h.2.2.1]
  simp only [List.getElem?_toArray]
  rw [show 3 + i = i + 1 + 1 + 1 from by omega]
  simp [show i < vs.length from by rw [h.1]; exact hi]

set_option maxHeartbeats 1000000 in
theorem list_any (b : Nat) (h : Int) (w : World) (hh : 0 ≤ h ∧ h ≤ 4294967295) :
    Calls Tryd.prog 39 #[.pointer (some ⟨b, 3, none⟩), .int .u32 h] w fun e w' => e = .returned (.pointer (some ⟨b, 3 + (h % 256).toNat, none⟩)) ∧ w' = w := by
  obtain ⟨r, hr⟩ : ∃ r : Nat, h % 256 = (r : Int) := ⟨(h % 256).toNat, by omega⟩
  have hrt : h.tmod 256 = (r : Int) := by rw [Int.tmod_eq_emod_of_nonneg hh.1]; exact hr
  have hr3 : (r : Int) < 256 := by omega
  rw [hr, Int.toNat_natCast]
  have HR := hide hr
  clear hr
  go_enter Tryd.func39, Tryd.ntmps39
  go_wp2_with fail
  go_ret
  exact ⟨by simp, rfl⟩

set_option maxHeartbeats 2000000 in
theorem bfind_any (base b g : Nat) (lim cnt trn : Int) (vs : List Value) (ls : Nat → List Rw) (h : Int) (kp ks kd ka kb : Int) (w : World) (hT : TBv base w b lim cnt trn vs ls) (hh : 0 ≤ h ∧ h ≤ 4294967295) (hg : w.heap[g]? = some (.cells #[.int .u8 kp, .int .u32 ks, .int .u32 kd, .int .u16 ka, .int .u16 kb] 34 (0, 0))) :
    Calls Tryd.prog 37 #[.pointer (some ⟨b, 3, none⟩), .int .u32 h, .func (.func 53) #[] #[.pointer (some ⟨g, 0, none⟩)]] w fun e w' => Below w.heap.size w w' ∧
      ((kix kp ks kd ka kb (ls (h % 256).toNat) = none ∧ e = .returned (.pointer none)) ∨ ∃ k g2 cap, kix kp ks kd ka kb (ls (h % 256).toNat) = some k ∧ k < (ls (h % 256).toNat).length ∧ vs[(h % 256).toNat]?.getD undef = .slice (some ⟨g2, 0, none⟩) (ls (h % 256).toNat).length cap ∧ e = .returned (.pointer (some ⟨g2, k * 8, none⟩))) := by
  have hi : (h % 256).toNat < 256 := by omega
  have hc := hT.cell _ hi
  have hO := hT.2.2.2.1 _ hi
  generalize hii : (h % 256).toNat = i at *
  have HI := hide hii
  clear hii
  generalize hvs : vs[i]?.getD undef = v at *
  have HVS := hide hvs
  clear hvs
  have hR := ownR_rd hO
  have HO := hide hO
  clear hO
  obtain ⟨a, cap, rfl, hcp, hcm⟩ := hR.slice
  go_enter Tryd.func37, Tryd.ntmps37
  go_wp2_with fail
  refine (list_any b h w hh).mono ?_
  rw [HI.out]
  rintro e w1 ⟨rfl, rfl⟩
  go_wp2_with fail
  refine (index_any w1.heap.size g _ (ls i) kp ks kd ka kb w1 (Nat.le_refl _) hR hg).mono ?_
  rintro e w2 ⟨hb2, ⟨hk, rfl⟩ | ⟨k, hk, hkl, rfl⟩⟩
  · have HK := hide hk
    clear hk hc
    go_wp2_with fail
    go_ret
    exact ⟨hb2, .inl ⟨HK.out, rfl⟩⟩
  · have HK := hide hk
    clear hk hc
    obtain ⟨_, ⟨_, h0⟩ | ⟨g2, cap2, cur, e2, _⟩⟩ := HO.out
    · omega
    simp at e2
    obtain ⟨rfl, rfl⟩ := e2
    have hkl' : (k : Int) < (ls i).length := by omega
    go_wp2_with fail
    go_ret
    exact ⟨hb2, .inr ⟨k, g2, cap, HK.out, hkl, rfl, rfl⟩⟩
end Go.Proofs.YtfhcgollhifjlaaDoor

/- Package table: find, Get, turn, mayBe, Len. -/
namespace Go.Proofs.YtfhcgollhifjlaaDoor
open Go.RowKit Go.Shelf
set_option maxRecDepth 100000
set_option linter.unusedVariables false
set_option linter.unusedSimpArgs false

/-- A tuple's list. -/
def bki (p s d a b : Int) : Nat := (hsh (tb p s d (kyp p a) b) % 256).toNat
theorem hstep_bd (h x : Int) : 0 ≤ hstep h x ∧ hstep h x ≤ 4294967295 := by unfold hstep; omega
theorem hsh_bd (x : Int) (zs : List Int) : 0 ≤ hsh (zs ++ [x]) ∧ hsh (zs ++ [x]) ≤ 4294967295 := by
  unfold hsh
  rw [List.foldl_append]
  exact hstep_bd _ _
theorem hsh_tb (p s d a b : Int) : 0 ≤ hsh (tb p s d a b) ∧ hsh (tb p s d a b) ≤ 4294967295 := hsh_bd (b % 256) [p, s / 16777216, s / 65536 % 256, s / 256 % 256, s % 256, d / 16777216, d / 65536 % 256, d / 256 % 256, d % 256, a / 256, a % 256, b / 256]
theorem bki_lt (p s d a b : Int) : bki p s d a b < 256 := by have := hsh_tb p s d (kyp p a) b; unfold bki; omega
/-- Where a tuple's row stands in its list. -/
def kx (p s d a b : Int) (ls : Nat → List Rw) : Option Nat := kix p s d (kyp p a) b (ls (bki p s d a b))

set_option maxHeartbeats 4000000 in
theorem tfind_any (base bt : Nat) (lim cnt trn : Int) (vs : List Value) (ls : Nat → List Rw) (p s d a b : Int) (w : World) (hT : TBv base w bt lim cnt trn vs ls) (hs : 0 ≤ s ∧ s ≤ 4294967295) (hd : 0 ≤ d ∧ d ≤ 4294967295) (ha : 0 ≤ a ∧ a ≤ 65535) (hb : 0 ≤ b ∧ b ≤ 65535) :
    Calls Tryd.prog 18 #[.pointer (some ⟨bt, 0, none⟩), .agg #[.int .u8 p, .int .u32 s, .int .u32 d, .int .u16 a, .int .u16 b]] w fun e w' => Below w.heap.size w w' ∧
      ((kx p s d a b ls = none ∧ e = .returned (.pointer none)) ∨ ∃ k g2 cap, kx p s d a b ls = some k ∧ k < (ls (bki p s d a b)).length ∧ vs[bki p s d a b]?.getD undef = .slice (some ⟨g2, 0, none⟩) (ls (bki p s d a b)).length cap ∧ e = .returned (.pointer (some ⟨g2, k * 8, none⟩))) := by
  have hb0 : Below w.heap.size w (w.alloc (.cells #[.int .u8 p, .int .u32 s, .int .u32 d, .int .u16 a, .int .u16 b] 34)) := (Below.refl _ _).alloc (Nat.le_refl _) _
  have t0 := heap_alloc_new w (.cells #[.int .u8 p, .int .u32 s, .int .u32 d, .int .u16 a, .int .u16 b] 34)
  have hhb := hsh_tb p s d (kyp p a) b
  go_enter Tryd.func18, Tryd.ntmps18
  go_upto_region 1 with fail
  generalize w.alloc (.cells #[.int .u8 p, .int .u32 s, .int .u32 d, .int .u16 a, .int .u16 b] 34) = w0 at *
  go_cut [4] (fun v wx => Later w0 wx ∧ ((kx p s d a b ls = none ∧ v = .pointer none) ∨ ∃ k g2 cap, kx p s d a b ls = some k ∧ k < (ls (bki p s d a b)).length ∧ vs[bki p s d a b]?.getD undef = .slice (some ⟨g2, 0, none⟩) (ls (bki p s d a b)).length cap ∧ v = .pointer (some ⟨g2, k * 8, none⟩)))
  case first =>
    refine anyR_begin (R := Later) Later.pre Later.drew 9 rfl (by kernel_rfl) (fun V1 hV1 => ?_)
    have q0 : ∀ v1, Later V1 v1 → ∀ i, v1.cell? ⟨w.heap.size, i, none⟩ = #[Value.int .u8 p, .int .u32 s, .int .u32 d, .int .u16 a, .int .u16 b][i]? := fun v1 h => block_cell (later_keep (hV1.trans h) t0)
    refine anyR_val Later.pre 0 rfl (by kernel_rfl) (by kernel_rfl) (by kernel_rfl) (fun _ _ _ _ h => h) rfl ?_; apply Exists.intro; refine ⟨fun w1 hw1 => ?_, ?_⟩; (· (go_simp; rfl)); simp only [Act.put, List.setIfInBounds_toArray, List.set_cons_zero, List.set_cons_succ]
    refine anyR_val Later.pre 1 rfl (by kernel_rfl) (by kernel_rfl) (by kernel_rfl) (fun _ _ _ _ h => h) rfl ?_; apply Exists.intro; refine ⟨fun w1 hw1 => ?_, ?_⟩; (· (go_simp; rfl)); simp only [Act.put, List.setIfInBounds_toArray, List.set_cons_zero, List.set_cons_succ]
    refine anyR_val Later.pre 2 rfl (by kernel_rfl) (by kernel_rfl) (by kernel_rfl) (fun _ _ _ _ h => h) rfl ?_; apply Exists.intro; refine ⟨fun w1 hw1 => ?_, ?_⟩; (· (go_simp; rfl)); simp only [Act.put, List.setIfInBounds_toArray, List.set_cons_zero, List.set_cons_succ]
    refine anyR_val Later.pre 3 rfl (by kernel_rfl) (by kernel_rfl) (by kernel_rfl) (fun _ _ _ _ h => h) rfl ?_; apply Exists.intro; refine ⟨fun w1 hw1 => ?_, ?_⟩; (· (go_simp; rfl)); simp only [Act.put, List.setIfInBounds_toArray, List.set_cons_zero, List.set_cons_succ]
    refine anyR_val Later.pre 5 rfl (by kernel_rfl) (by kernel_rfl) (by kernel_rfl) (fun _ _ _ _ h => h) rfl ?_; apply Exists.intro; refine ⟨fun w1 hw1 => ?_, ?_⟩; (· (go_simp; rfl)); simp only [Act.put, List.setIfInBounds_toArray, List.set_cons_zero, List.set_cons_succ]
    clear q0
    refine anyR_take Later.pre 4 (.int .u32 (hsh (tb p s d (kyp p a) b))) rfl (by kernel_rfl) (by kernel_rfl) (by kernel_rfl) (fun _ _ _ h => h) rfl (fun w1 hw1 => goes_call 20 #[.agg #[.int .u8 p, .int .u32 s, .int .u32 d, .int .u16 a, .int .u16 b]] (by go_simp) ((hash_any p s d a b w1 hs hd ha hb).mono fun e w2 h => h)) ?_
    simp only [Act.put, List.setIfInBounds_toArray, List.set_cons_zero, List.set_cons_succ]
    refine anyR_one 6 rfl (by kernel_rfl) rfl (fun V2 hV2 => ?_)
    refine wp_enter 38 #[.agg #[.int .u8 p, .int .u32 s, .int .u32 d, .int .u16 a, .int .u16 b]] (by go_simp) ?_
    refine (of_key p s d a b V2).mono ?_
    rintro e V3 ⟨g, rfl, hb3, hgz, hg3⟩
    have l3 : Later V2 V3 := hb3
    refine ⟨l3, ?_⟩
    simp only [Act.put, List.setIfInBounds_toArray, List.set_cons_zero, List.set_cons_succ]
    refine anyR_one 7 rfl (by kernel_rfl) rfl (fun V4 hV4 => ?_)
    refine wp_enter 37 #[.pointer (some ⟨bt, 3, none⟩), .int .u32 (hsh (tb p s d (kyp p a) b)), .func (.func 53) #[] #[.pointer (some ⟨g, 0, none⟩)]] (by go_simp) ?_
    have lw : Later w w0 := hb0
    have l4 := (hV1.trans hV2).trans (l3.trans hV4)
    refine (bfind_any base bt g lim cnt trn vs ls (hsh (tb p s d (kyp p a) b)) p s d (kyp p a) b V4 (hT.later (lw.trans l4)) hhb (later_keep hV4 hg3)).mono ?_
    rw [show (hsh (tb p s d (kyp p a) b) % 256).toNat = bki p s d a b from rfl]
    rintro e V5 ⟨hb5, hres⟩
    have l5 : Later V4 V5 := hb5
    rcases hres with ⟨hk, rfl⟩ | ⟨k, g2, cap, hk, hkl, hv, rfl⟩
    · refine ⟨l5, ?_⟩
      simp only [Act.put, List.setIfInBounds_toArray, List.set_cons_zero, List.set_cons_succ]
      refine anyR_val Later.pre 8 rfl (by kernel_rfl) (by kernel_rfl) (by kernel_rfl) (fun _ _ _ _ h => h) rfl ?_; apply Exists.intro; refine ⟨fun w1 hw1 => ?_, ?_⟩; (· (go_simp; rfl)); simp only [Act.put, List.setIfInBounds_toArray, List.set_cons_zero, List.set_cons_succ]
      refine anyR_done (by kernel_rfl) (fun V6 hV6 => ?_)
      have hl6 := l4.trans (l5.trans hV6)
      have HK : Hid (kx p s d a b ls = none) := hk
      clear hk
      go_wp2_with fail
      go_meet
      exact ⟨hl6, .inl ⟨HK.out, rfl⟩⟩
    · refine ⟨l5, ?_⟩
      simp only [Act.put, List.setIfInBounds_toArray, List.set_cons_zero, List.set_cons_succ]
      refine anyR_val Later.pre 8 rfl (by kernel_rfl) (by kernel_rfl) (by kernel_rfl) (fun _ _ _ _ h => h) rfl ?_; apply Exists.intro; refine ⟨fun w1 hw1 => ?_, ?_⟩; (· (go_simp; rfl)); simp only [Act.put, List.setIfInBounds_toArray, List.set_cons_zero, List.set_cons_succ]
      refine anyR_done (by kernel_rfl) (fun V6 hV6 => ?_)
      have hl6 := l4.trans (l5.trans hV6)
      have HK : Hid (kx p s d a b ls = some k) := hk
      have HV := hide hv
      clear hk hv
      go_wp2_with fail
      go_meet
      exact ⟨hl6, .inr ⟨k, g2, cap, HK.out, hkl, HV.out, rfl⟩⟩
  case rest =>
    obtain ⟨lc, hres⟩ := hcut
    have hwc := hb0.trans (lc.mono hb0.size)
    rcases hres with ⟨hk, rfl⟩ | ⟨k, g2, cap, hk, hkl, hv, rfl⟩
    · have HK := hide hk
      clear hk
      go_wp2_with fail
      go_ret
      exact ⟨hwc, .inl ⟨HK.out, rfl⟩⟩
    · have HK := hide hk
      have HV := hide hv
      clear hk hv
      go_wp2_with fail
      go_ret
      exact ⟨hwc, .inr ⟨k, g2, cap, HK.out, hkl, HV.out, rfl⟩⟩

/-- A row's cells where they lie. -/
theorem TBv.row {base : Nat} {W : World} {b : Nat} {lim cnt trn : Int} {vs : List Value} {ls : Nat → List Rw} (h : TBv base W b lim cnt trn vs ls) (i : Nat) (hi : i < 256) {g cap k : Nat} (hv : vs[i]?.getD undef = .slice (some ⟨g, 0, none⟩) (ls i).length cap) (hk : k < (ls i).length) : ∀ j, j < 8 → W.cell? ⟨g, k * 8 + j, none⟩ = (rwc (ls i)[k])[j]? := by
  have hO := ownR_rd (h.2.2.2.1 i hi)
  rw [hv] at hO
  obtain ⟨b', off, cp, e, _, _, _, hc⟩ := hO.cells (by omega)
  simp at e
  obtain ⟨⟨rfl, rfl⟩, rfl⟩ := e
  intro j hj
  have := hc k hk j hj
  rwa [Nat.zero_add] at this

def gtv (p s d a b : Int) (ls : Nat → List Rw) : Value := match kx p s d a b ls with | none => .tuple #[.int .i64 0, .int .i64 0, .bool false] | some k => match (ls (bki p s d a b))[k]? with | some r => .tuple #[.int .i64 r.id, .int .i64 r.till, .bool true] | none => undef

set_option maxHeartbeats 4000000 in
theorem get_any (base bt : Nat) (lim cnt trn : Int) (ls : Nat → List Rw) (p s d a b : Int) (w : World) (hT : TB base w bt lim cnt trn ls) (hs : 0 ≤ s ∧ s ≤ 4294967295) (hd : 0 ≤ d ∧ d ≤ 4294967295) (ha : 0 ≤ a ∧ a ≤ 65535) (hb : 0 ≤ b ∧ b ≤ 65535) :
    Calls Tryd.prog 9 #[.pointer (some ⟨bt, 0, none⟩), .agg #[.int .u8 p, .int .u32 s, .int .u32 d, .int .u16 a, .int .u16 b]] w fun e w' => Below w.heap.size w w' ∧ e = .returned (gtv p s d a b ls) := by
  obtain ⟨vs, hT⟩ := hT
  have hb0 : Below w.heap.size w (w.alloc (.cells #[.int .u8 p, .int .u32 s, .int .u32 d, .int .u16 a, .int .u16 b] 34)) := (Below.refl _ _).alloc (Nat.le_refl _) _
  go_enter Tryd.func9, Tryd.ntmps9
  go_wp2_with fail
  generalize w.alloc (.cells #[.int .u8 p, .int .u32 s, .int .u32 d, .int .u16 a, .int .u16 b] 34) = w0 at *
  have lw : Later w w0 := hb0
  refine (tfind_any base bt lim cnt trn vs ls p s d a b w0 (hT.later lw) hs hd ha hb).mono ?_
  rintro e w1 ⟨hb1, ⟨hk, rfl⟩ | ⟨k, g2, cap, hk, hkl, hv, rfl⟩⟩
  · have l1 : Later w0 w1 := hb1
    have hw1 := hb0.trans (hb1.mono hb0.size)
    have HG : Hid (gtv p s d a b ls = .tuple #[.int .i64 0, .int .i64 0, .bool false]) := by show _ = _; unfold gtv; rw [hk]
    clear hk
    go_wp2_with fail
    exact bodyPost_ret (v := .tuple #[.int .i64 0, .int .i64 0, .bool false]) (by simp [results, Tryd.results9, go_sem]) rfl ⟨hw1, by rw [HG.out]⟩
  · have l1 : Later w0 w1 := hb1
    have hw1 := hb0.trans (hb1.mono hb0.size)
    have hT1 := hT.later (lw.trans l1)
    have hrow := hT1.row _ (bki_lt p s d a b) hv hkl
    have c5 := hrow 5 (by omega)
    have c6 := hrow 6 (by omega)
    have HG : Hid (gtv p s d a b ls = .tuple #[.int .i64 (ls (bki p s d a b))[k].id, .int .i64 (ls (bki p s d a b))[k].till, .bool true]) := by show _ = _; unfold gtv; rw [hk]; simp [hkl]
    clear hk hrow hv
    generalize (ls (bki p s d a b))[k] = r at *
    simp only [rwc, List.getElem?_cons_zero, List.getElem?_cons_succ] at c5 c6
    go_upto_region 6 with fail
    refine anyR_begin (R := Later) Later.pre Later.drew 11 rfl (by kernel_rfl) (fun V1 hV1 => ?_)
    have q5 : ∀ v1, Later V1 v1 → v1.cell? ⟨g2, k * 8 + 5, none⟩ = some (.int .i64 r.id) := fun v1 h => (hV1.trans h).cell c5
    have q6 : ∀ v1, Later V1 v1 → v1.cell? ⟨g2, k * 8 + 6, none⟩ = some (.int .i64 r.till) := fun v1 h => (hV1.trans h).cell c6
    clear c5 c6
    refine anyR_val Later.pre 0 rfl (by kernel_rfl) (by kernel_rfl) (by kernel_rfl) (fun _ _ _ _ h => h) rfl ?_; apply Exists.intro; refine ⟨fun w1 hw1 => ?_, ?_⟩; (· (go_simp; rfl)); simp only [Act.put, List.setIfInBounds_toArray, List.set_cons_zero, List.set_cons_succ]
    refine anyR_val Later.pre 1 rfl (by kernel_rfl) (by kernel_rfl) (by kernel_rfl) (fun _ _ _ _ h => h) rfl ?_; apply Exists.intro; refine ⟨fun w1 hw1 => ?_, ?_⟩; (· (go_simp; rfl)); simp only [Act.put, List.setIfInBounds_toArray, List.set_cons_zero, List.set_cons_succ]
    refine anyR_val Later.pre 2 rfl (by kernel_rfl) (by kernel_rfl) (by kernel_rfl) (fun _ _ _ _ h => h) rfl ?_; apply Exists.intro; refine ⟨fun w1 hw1 => ?_, ?_⟩; (· (go_simp; rfl)); simp only [Act.put, List.setIfInBounds_toArray, List.set_cons_zero, List.set_cons_succ]
    refine anyR_val Later.pre 3 rfl (by kernel_rfl) (by kernel_rfl) (by kernel_rfl) (fun _ _ _ _ h => h) rfl ?_; apply Exists.intro; refine ⟨fun w1 hw1 => ?_, ?_⟩; (· (go_simp; rfl)); simp only [Act.put, List.setIfInBounds_toArray, List.set_cons_zero, List.set_cons_succ]
    refine anyR_val Later.pre 4 rfl (by kernel_rfl) (by kernel_rfl) (by kernel_rfl) (fun _ _ _ _ h => h) rfl ?_; apply Exists.intro; refine ⟨fun w1 hw1 => ?_, ?_⟩; (· (go_simp; rfl)); simp only [Act.put, List.setIfInBounds_toArray, List.set_cons_zero, List.set_cons_succ]
    refine anyR_val Later.pre 5 rfl (by kernel_rfl) (by kernel_rfl) (by kernel_rfl) (fun _ _ _ _ h => h) rfl ?_; apply Exists.intro; refine ⟨fun w1 hw1 => ?_, ?_⟩; (· (go_simp; rfl)); simp only [Act.put, List.setIfInBounds_toArray, List.set_cons_zero, List.set_cons_succ]
    refine anyR_val Later.pre 6 rfl (by kernel_rfl) (by kernel_rfl) (by kernel_rfl) (fun _ _ _ _ h => h) rfl ?_; apply Exists.intro; refine ⟨fun w1 hw1 => ?_, ?_⟩; (· (go_simp; rfl)); simp only [Act.put, List.setIfInBounds_toArray, List.set_cons_zero, List.set_cons_succ]
    refine anyR_val Later.pre 7 rfl (by kernel_rfl) (by kernel_rfl) (by kernel_rfl) (fun _ _ _ _ h => h) rfl ?_; apply Exists.intro; refine ⟨fun w1 hw1 => ?_, ?_⟩; (· (go_simp; rfl)); simp only [Act.put, List.setIfInBounds_toArray, List.set_cons_zero, List.set_cons_succ]
    refine anyR_val Later.pre 8 rfl (by kernel_rfl) (by kernel_rfl) (by kernel_rfl) (fun _ _ _ _ h => h) rfl ?_; apply Exists.intro; refine ⟨fun w1 hw1 => ?_, ?_⟩; (· (go_simp; rfl)); simp only [Act.put, List.setIfInBounds_toArray, List.set_cons_zero, List.set_cons_succ]
    refine anyR_val Later.pre 9 rfl (by kernel_rfl) (by kernel_rfl) (by kernel_rfl) (fun _ _ _ _ h => h) rfl ?_; apply Exists.intro; refine ⟨fun w1 hw1 => ?_, ?_⟩; (· (go_simp; rfl)); simp only [Act.put, List.setIfInBounds_toArray, List.set_cons_zero, List.set_cons_succ]
    refine anyR_val Later.pre 10 rfl (by kernel_rfl) (by kernel_rfl) (by kernel_rfl) (fun _ _ _ _ h => h) rfl ?_; apply Exists.intro; refine ⟨fun w1 hw1 => ?_, ?_⟩; (· (go_simp; rfl)); simp only [Act.put, List.setIfInBounds_toArray, List.set_cons_zero, List.set_cons_succ]
    refine anyR_done (by kernel_rfl) (fun V2 hV2 => ?_)
    have hw2 := hw1.trans ((hV1.trans hV2).mono hw1.size)
    clear q5 q6
    go_wp2_with fail
    exact bodyPost_ret (v := .tuple #[.int .i64 r.id, .int .i64 r.till, .bool true]) (by simp [results, Tryd.results9, go_sem]) rfl ⟨hw2, by rw [HG.out]⟩

set_option maxHeartbeats 2000000 in
theorem turn_any (base bt : Nat) (lim cnt trn : Int) (vs : List Value) (ls : Nat → List Rw) (w : World) (hT : TBv base w bt lim cnt trn vs ls) (htr : 0 ≤ trn ∧ trn ≤ 1000000) :
    Calls Tryd.prog 22 #[.pointer (some ⟨bt, 0, none⟩)] w fun e w' => e = .returned (.int .i64 (trn + 1)) ∧ But (fun g => g = bt) w w' ∧ TBv base w' bt lim cnt (trn + 1) vs ls := by
  have hh := hT.2.2.1
  have k2 : w.cell? ⟨bt, 2, none⟩ = some (.int .i64 trn) := by rw [block_cell hh]; rfl
  have f2 := block_frozen hh 2
  have hst := heap_set1 hh 2 (.int .i64 (trn + 1))
  have hbs : But (fun g => g = bt) w (w.setCell ⟨bt, 2, none⟩ (.int .i64 (trn + 1))) := (But.refl (fun g => g = bt) _).setCell (p := ⟨bt, 2, none⟩) rfl _
  have hT2 : TBv base (w.setCell ⟨bt, 2, none⟩ (.int .i64 (trn + 1))) bt lim cnt (trn + 1) vs ls := by
    refine ⟨hT.1, hT.2.1, by simpa using hst, fun i hi => ?_, hT.2.2.2.2⟩
    obtain ⟨h1, h2 | ⟨g, cap, cur, hv, hg, hh2, r⟩⟩ := hT.2.2.2.1 i hi
    · exact ⟨h1, .inl h2⟩
    · have hne : g ≠ bt := fun e => by subst e; rw [hh2] at hh; simp at hh
      exact ⟨h1, .inr ⟨g, cap, cur, hv, hg, (hbs.block g (Array.getElem?_eq_some_iff.1 hh2).1 hne).trans hh2, r⟩⟩
  have k3 : (w.setCell ⟨bt, 2, none⟩ (.int .i64 (trn + 1))).cell? ⟨bt, 2, none⟩ = some (.int .i64 (trn + 1)) := by rw [block_cell hT2.2.2.1]; rfl
  have HT2 := hide hT2
  have HB := hide hbs
  clear hT2 hbs hst hT hh
  go_enter Tryd.func22, Tryd.ntmps22
  go_wp2_with fail
  go_ret
  exact ⟨rfl, HB.out, HT2.out⟩

def mayb (till : Int) : Bool := decide (0 ≤ till ∧ till ≤ 1099511627776)
set_option maxHeartbeats 1000000 in
theorem mayBe_any (till : Int) (w : World) : Calls Tryd.prog 17 #[.int .i64 till] w fun e w' => e = .returned (.bool (mayb till)) ∧ w' = w := by
  by_cases h1 : 0 ≤ till
  · by_cases h2 : till ≤ 1099511627776
    · have HM : Hid (mayb till = true) := by show _ = _; unfold mayb; exact decide_eq_true ⟨h1, h2⟩
      go_enter Tryd.func17, Tryd.ntmps17
      go_wp2_with fail
      go_ret
      exact ⟨by rw [HM.out]; simp [h1, h2], rfl⟩
    · have HM : Hid (mayb till = false) := by show _ = _; unfold mayb; exact decide_eq_false (fun h => h2 h.2)
      go_enter Tryd.func17, Tryd.ntmps17
      go_wp2_with fail
      go_ret
      exact ⟨by rw [HM.out]; simp [h1, h2], rfl⟩
  · have HM : Hid (mayb till = false) := by show _ = _; unfold mayb; exact decide_eq_false (fun h => h1 h.1)
    have h1' : ¬ 0 ≤ till := h1
    go_enter Tryd.func17, Tryd.ntmps17
    go_wp2_with fail
    go_ret
    exact ⟨by rw [HM.out]; simp [h1'], rfl⟩

end Go.Proofs.YtfhcgollhifjlaaDoor

/- Package table: New; a row added. -/
namespace Go.Proofs.YtfhcgollhifjlaaDoor
open Go.RowKit Go.Shelf
set_option maxRecDepth 100000
set_option linter.unusedVariables false
set_option linter.unusedSimpArgs false

theorem zero_table : Tryd.zeroCells69 = (Value.int .i64 0 :: .int .i64 0 :: .int .i64 0 :: List.replicate 256 (.slice none 0 0)).toArray := by kernel_rfl

theorem info_row : (Tryd.prog.info? 75).map (fun i => (i.zero, i.size, i.bytes)) = some (some (.agg #[.int .u8 0, .int .u32 0, .int .u32 0, .int .u16 0, .int .u16 0, .int .i64 0, .int .i64 0, .int .i64 0]), 8, 40) := by kernel_rfl

set_option maxHeartbeats 4000000 in
theorem new_yes (n : Int) (w : World) (h1 : 1 ≤ n) (h2 : n ≤ 4096) : Calls Tryd.prog 7 #[.int .i64 n] w fun e w' => e = .returned (.pointer (some ⟨w.heap.size, 0, none⟩)) ∧ Below w.heap.size w w' ∧ TB w.heap.size w' w.heap.size n 0 0 (fun _ => []) := by
  have hb : Below w.heap.size w (w.alloc (.cells (Tryd.zeroCells69.setIfInBounds 0 (.int .i64 n)) 69)) := (Below.refl _ _).alloc (Nat.le_refl _) _
  have hT : TB w.heap.size (w.alloc (.cells (Tryd.zeroCells69.setIfInBounds 0 (.int .i64 n)) 69)) w.heap.size n 0 0 (fun _ => []) := by
    refine ⟨List.replicate 256 (.slice none 0 0), by simp, Nat.le_refl _, ?_, fun i hi => ?_, fun i j hi hj _ g hg => ?_⟩
    · rw [heap_alloc_new, zero_table]
      simp
    · have : (List.replicate 256 (Value.slice none 0 0))[i]?.getD undef = .slice none 0 0 := by rw [List.getElem?_replicate, if_pos hi]; rfl
      rw [this]
      exact World.ownsRow_nil _ _ _ _
    · have : (List.replicate 256 (Value.slice none 0 0))[i]?.getD undef = .slice none 0 0 := by rw [List.getElem?_replicate, if_pos hi]; rfl
      rw [this] at hg
      cases hg
  have HT := hide hT
  clear hT
  go_enter Tryd.func7, Tryd.ntmps7
  go_wp2_with fail
  go_ret
  exact ⟨rfl, hb, HT.out⟩

set_option maxHeartbeats 1000000 in
theorem new_no (n : Int) (w : World) (h : n < 1 ∨ 4096 < n) : Calls Tryd.prog 7 #[.int .i64 n] w fun e w' => e = .returned (.pointer none) ∧ w' = w := by
  rcases h with h | h
  · go_enter Tryd.func7, Tryd.ntmps7
    go_wp2_with fail
    go_ret
    exact ⟨rfl, rfl⟩
  · have h' : ¬ n < 1 := by omega
    go_enter Tryd.func7, Tryd.ntmps7
    go_wp2_with fail
    go_ret
    exact ⟨rfl, rfl⟩

/-- One more row in list i. -/
def addL (ls : Nat → List Rw) (i : Nat) (r : Rw) : Nat → List Rw := fun j => if j = i then ls i ++ [r] else ls j
theorem TBv.added {base bt : Nat} {W W6 V : World} {lim cnt trn : Int} {vs : List Value} {ls : Nat → List Rw} (hT : TBv base W bt lim cnt trn vs ls) (i : Nat) (hi : i < 256) (r : Rw) {g' cap' : Nat}
    (hrow : W6.ownsRow base 75 8 (.slice (some ⟨g', 0, none⟩) ((ls i).length + 1) cap') ((ls i).length + 1) (rws (ls i) ++ rwc r)) (hg : W.grownBy W6 (vs[i]?.getD undef).ownBlock) (hpl : (vs[i]?.getD undef).ownBlock = some g' ∨ W.heap.size ≤ g')
    (hbV : But (fun g => g = bt) W6 V) (hV : V.heap[bt]? = some (.cells (.int .i64 lim :: .int .i64 cnt :: .int .i64 trn :: vs.set i (.slice (some ⟨g', 0, none⟩) ((ls i).length + 1) cap')).toArray 69 (0, 0))) :
    TBv base V bt lim cnt trn (vs.set i (.slice (some ⟨g', 0, none⟩) ((ls i).length + 1) cap')) (addL ls i r) := by
  obtain ⟨h1, h2, h3, h4, h5⟩ := hT
  have hb6 : W6.heap[bt]? = some (.cells (.int .i64 lim :: .int .i64 cnt :: .int .i64 trn :: vs).toArray 69 (0, 0)) := by
    refine (hg.block bt (Array.getElem?_eq_some_iff.1 h3).1 (fun e => ?_)).trans h3
    obtain ⟨_, ⟨hn, _⟩ | ⟨g, cap, cur, hv, _, hh, _⟩⟩ := h4 i hi
    · rw [hn] at e; cases e
    · rw [hv] at e
      cases e
      rw [h3] at hh
      simp at hh
  have keep : ∀ (g : Nat) (cur : Array Value), W6.heap[g]? = some (.cells cur 75 (0, 0)) → V.heap[g]? = some (.cells cur 75 (0, 0)) := fun g cur h =>
    (hbV.block g (Array.getElem?_eq_some_iff.1 h).1 (fun e => by subst e; rw [hb6] at h; simp at h)).trans h
  refine ⟨by simpa using h1, h2, hV, fun j hj => ?_, fun j k hj hk hjk g hg1 => ?_⟩
  · by_cases hji : j = i
    · subst hji
      rw [List.getElem?_set_self (by omega)]
      unfold addL
      rw [if_pos rfl, List.length_append, List.length_singleton, show rws (ls j ++ [r]) = rws (ls j) ++ rwc r from by simp [rws]]
      obtain ⟨q1, ⟨q2, q3⟩ | ⟨g, cap, cur, hv, hgb, hh, q⟩⟩ := hrow
      · simp at q2
      · exact ⟨q1, .inr ⟨g, cap, cur, hv, hgb, keep g cur hh, q⟩⟩
    · rw [List.getElem?_set_ne (fun e => hji e.symm)]
      unfold addL
      rw [if_neg hji]
      obtain ⟨q1, q2 | ⟨g, cap, cur, hv, hgb, hh, q⟩⟩ := h4 j hj
      · exact ⟨q1, .inl q2⟩
      · refine ⟨q1, .inr ⟨g, cap, cur, hv, hgb, keep g cur ((hg.block g (Array.getElem?_eq_some_iff.1 hh).1 (fun e => ?_)).trans hh), q⟩⟩
        have := h5 j i hj hi hji g (by rw [hv]; rfl)
        exact this e.symm
  · have old : ∀ j, j < 256 → ∀ g, (vs[j]?.getD undef).ownBlock = some g → g < W.heap.size := fun j hj g h => by
      obtain ⟨_, ⟨hn, _⟩ | ⟨g2, cap, cur, hv, _, hh, _⟩⟩ := h4 j hj
      · rw [hn] at h; cases h
      · rw [hv] at h
        cases h
        exact (Array.getElem?_eq_some_iff.1 hh).1
    by_cases hji : j = i
    · subst hji
      rw [List.getElem?_set_self (by omega)] at hg1
      cases hg1
      rw [List.getElem?_set_ne hjk]
      intro e
      rcases hpl with h | h
      · exact h5 j k hj hk hjk g' h e
      · have := old k hk g' e; omega
    · rw [List.getElem?_set_ne (fun e => hji e.symm)] at hg1
      by_cases hki : k = i
      · subst hki
        rw [List.getElem?_set_self (by omega)]
        intro e
        cases e
        rcases hpl with h | h
        · exact h5 j k hj hk hjk g' hg1 h
        · have := old j hj g' hg1; omega
      · rw [List.getElem?_set_ne (fun e => hki e.symm)]
        exact h5 j k hj hk hjk g hg1
end Go.Proofs.YtfhcgollhifjlaaDoor

/- Package table: a row added to its list. -/
namespace Go.Proofs.YtfhcgollhifjlaaDoor
open Go.RowKit Go.Shelf
set_option maxRecDepth 100000
set_option linter.unusedVariables false
set_option linter.unusedSimpArgs false

theorem new_row (W : World) (xs : List Value) : ∀ j u, xs[j]? = some u → (W.alloc (.cells xs.toArray 75)).cell? ((⟨W.heap.size, 0, none⟩ : Addr).add j) = some u := fun j u hj => by
  rw [show (⟨W.heap.size, 0, none⟩ : Addr).add j = ⟨W.heap.size, j, none⟩ from by unfold Addr.add; split <;> simp_all, block_cell (heap_alloc_new W _) j]
  simpa using hj

set_option maxHeartbeats 8000000 in
theorem add_any (base bt : Nat) (lim cnt trn : Int) (vs : List Value) (ls : Nat → List Rw) (h : Int) (i : Nat) (p s d a b id till turn : Int) (w : World) (hT : TBv base w bt lim cnt trn vs ls) (hh : 0 ≤ h ∧ h ≤ 4294967295) (hhi : (h % 256).toNat = i) (hln : (ls i).length ≤ 5000) (hbs : base ≤ w.heap.size) :
    Calls Tryd.prog 19 #[.pointer (some ⟨bt, 3, none⟩), .int .u32 h, .agg #[.int .u8 p, .int .u32 s, .int .u32 d, .int .u16 a, .int .u16 b, .int .i64 id, .int .i64 till, .int .i64 turn]] w fun e w' => e = .returned (.tuple #[]) ∧ TB base w' bt lim cnt trn (addL ls i ⟨p, s, d, a, b, id, till, turn⟩) ∧ But (fun g => g = bt ∨ (vs[i]?.getD undef).ownBlock = some g) w w' := by
  obtain ⟨i0, hi0, hz0, hz1, hz2⟩ := info_parts info_row
  have hi : i < 256 := by omega
  have HI := hide hhi
  clear hhi
  have hO := hT.2.2.2.1 i hi
  generalize hvs : vs[i]?.getD undef = v at *
  have HVS := hide hvs
  clear hvs
  obtain ⟨av, cv, rfl, _, _⟩ := (ownR_rd hO).slice
  have HNE : Hid (some bt ≠ Value.ownBlock (.slice av (ls i).length cv)) := by
    show _ ≠ _
    intro e
    obtain ⟨_, ⟨hn, _⟩ | ⟨g, cap, cur, hv, _, hh2, _⟩⟩ := hO
    · rw [hn] at e; cases e
    · rw [hv] at e
      cases e
      rw [hT.2.2.1] at hh2
      simp at hh2
  have lb0 : Later w (w.alloc (.cells #[.int .u8 p, .int .u32 s, .int .u32 d, .int .u16 a, .int .u16 b, .int .i64 id, .int .i64 till, .int .i64 turn] 75)) := (Below.refl _ _).alloc (Nat.le_refl _) _
  have rb := heap_alloc_new w (.cells #[.int .u8 p, .int .u32 s, .int .u32 d, .int .u16 a, .int .u16 b, .int .i64 id, .int .i64 till, .int .i64 turn] 75)
  have HO := hide hO
  clear hO
  go_enter Tryd.func19, Tryd.ntmps19
  go_wp2_with fail
  generalize w.alloc (.cells #[.int .u8 p, .int .u32 s, .int .u32 d, .int .u16 a, .int .u16 b, .int .i64 id, .int .i64 till, .int .i64 turn] 75) = w0 at *
  refine (list_any bt h w0 hh).mono ?_
  rw [HI.out]
  rintro e w1 ⟨rfl, rfl⟩
  go_upto_region 2 with fail
  generalize hwx : w1 = wx at *
  clear hwx
  refine anyT_begin (R := But (fun g => g = bt ∨ Value.ownBlock (.slice av (ls i).length cv) = some g)) 9 rfl (by kernel_rfl) ?_
  have ld : Later wx wx.drew := Later.drew wx
  have LD := lb0.trans ld
  have rd0 := later_keep ld rb
  generalize wx.drew = Wd at *
  have hTd := hT.later LD
  have hnb : w.heap.size ≠ bt := fun e => by have := (Array.getElem?_eq_some_iff.1 hT.2.2.1).1; omega
  have hnv : Value.ownBlock (.slice av (ls i).length cv) ≠ some w.heap.size := fun e => by have := (HO.out.lt _ e).2; omega
  have ha : ∀ v1, But (fun g => g = bt ∨ Value.ownBlock (.slice av (ls i).length cv) = some g) Wd v1 → ∀ j, v1.cell? ⟨w.heap.size, j, none⟩ = #[Value.int .u8 p, .int .u32 s, .int .u32 d, .int .u16 a, .int .u16 b, .int .i64 id, .int .i64 till, .int .i64 turn][j]? := fun v1 hv => block_cell ((hv.block w.heap.size (Array.getElem?_eq_some_iff.1 rd0).1 (fun hE => hE.elim hnb hnv)).trans rd0)
  refine anyT_val (But.pre _) 0 rfl (by kernel_rfl) (by kernel_rfl) (by kernel_rfl) (fun _ _ _ _ h => h) rfl ?_; apply Exists.intro; refine ⟨fun v1 hv1 => ?_, ?_⟩; (· (go_simp; rfl)); simp only [Act.put, List.setIfInBounds_toArray, List.set_cons_zero, List.set_cons_succ]
  refine anyT_val (But.pre _) 1 rfl (by kernel_rfl) (by kernel_rfl) (by kernel_rfl) (fun _ _ _ _ h => h) rfl ?_; apply Exists.intro; refine ⟨fun v1 hv1 => ?_, ?_⟩; (· (go_simp; rfl)); simp only [Act.put, List.setIfInBounds_toArray, List.set_cons_zero, List.set_cons_succ]
  refine anyT_val (But.pre _) 2 rfl (by kernel_rfl) (by kernel_rfl) (by kernel_rfl) (fun _ _ _ _ h => h) rfl ?_; apply Exists.intro; refine ⟨fun v1 hv1 => ?_, ?_⟩; (· (go_simp; rfl)); simp only [Act.put, List.setIfInBounds_toArray, List.set_cons_zero, List.set_cons_succ]
  refine anyT_val (But.pre _) 4 rfl (by kernel_rfl) (by kernel_rfl) (by kernel_rfl) (fun _ _ _ _ h => h) rfl ?_; apply Exists.intro; refine ⟨fun v1 hv1 => ?_, ?_⟩; (· (go_simp; rfl)); simp only [Act.put, List.setIfInBounds_toArray, List.set_cons_zero, List.set_cons_succ]
  clear ha
  have kd : Wd.cell? ⟨bt, 3 + i, none⟩ = some (.slice av (ls i).length cv) := (hTd.cell i hi).trans (by rw [HVS.out])
  refine anyT_two 3 5 rfl rfl (by kernel_rfl) rfl rfl ?_ ?_
  · unfold Oper.wp
    go_simp
    refine ⟨But.refl _ _, ?_⟩
    clear kd
    refine anyT_one 5 rfl (by kernel_rfl) rfl ?_
    unfold Oper.wp
    go_simp
    have l1 : Later Wd (Wd.alloc (.cells #[.int .u8 p, .int .u32 s, .int .u32 d, .int .u16 a, .int .u16 b, .int .i64 id, .int .i64 till, .int .i64 turn] 75)) := (Below.refl _ _).alloc (Nat.le_refl _) _
    have HN1 := new_row Wd (rwc ⟨p, s, d, a, b, id, till, turn⟩)
    have LL := LD.trans l1
    refine ⟨But.of l1, ?_⟩
    generalize hW1 : Wd.alloc (.cells #[.int .u8 p, .int .u32 s, .int .u32 d, .int .u16 a, .int .u16 b, .int .i64 id, .int .i64 till, .int .i64 turn] 75) = W1 at *
    rw [show Wd.alloc (.cells (rwc ⟨p, s, d, a, b, id, till, turn⟩).toArray 75) = W1 from hW1] at HN1
    clear hW1
    generalize Wd.heap.size = gn at *
    have hT1 := hT.later LL
    have hO1 := ownR_later HO.out LL
    have hbs1 := Nat.le_trans hbs LL.size
    refine anyT_one 6 rfl (by kernel_rfl) rfl ?_
    refine wp_append_lies W1 (.tmp 13) (.tmp 15) 64 rfl base 75 i0 (.agg #[.int .u8 0, .int .u32 0, .int .u32 0, .int .u16 0, .int .u16 0, .int .i64 0, .int .i64 0, .int .i64 0]) 8 40 Tryd.underlying64 hi0 hz0 hz1 hz2 rfl (by decide) (.slice av (ls i).length cv) (ls i).length (rws (ls i)) rfl hO1 ⟨gn, 0, none⟩ 1 1 (rwc ⟨p, s, d, a, b, id, till, turn⟩) rfl rfl HN1 (by intro u hu; simp only [rwc, List.mem_cons, List.not_mem_nil, or_false] at hu; rcases hu with rfl | rfl | rfl | rfl | rfl | rfl | rfl | rfl <;> rfl) (by omega) (by unfold maxLen; omega) (by omega) hbs1 _ rfl ?_
    intro g' cap' W6 hrow6 hg6 hpl hlt6
    have hb6 : But (fun g => g = bt ∨ Value.ownBlock (.slice av (ls i).length cv) = some g) W1 W6 := ⟨hg6.os, hg6.tape, hg6.output, hg6.size, fun k hk he => hg6.block k hk (fun e => he (.inr e.symm))⟩
    refine ⟨hb6, ?_⟩
    simp only [Act.put, List.setIfInBounds_toArray, List.set_cons_zero, List.set_cons_succ]
    have h6 : W6.heap[bt]? = some (.cells (.int .i64 lim :: .int .i64 cnt :: .int .i64 trn :: vs).toArray 69 (0, 0)) := (hg6.block bt (Array.getElem?_eq_some_iff.1 hT1.2.2.1).1 HNE.out).trans hT1.2.2.1
    have k6 : W6.cell? ⟨bt, 3 + i, none⟩ = some (.slice av (ls i).length cv) := by
      rw [block_cell h6, ← block_cell hT1.2.2.1]
      exact (hT1.cell i hi).trans (by rw [HVS.out])
    have f6 : W6.frozen? ⟨bt, 3 + i, none⟩ = false := block_frozen h6 _
    refine anyT_val (But.pre _) 7 rfl (by kernel_rfl) (by kernel_rfl) (by kernel_rfl) (fun _ _ _ _ h => h) rfl ?_; apply Exists.intro; refine ⟨fun v1 hv1 => ?_, ?_⟩; (· (go_simp; rfl)); simp only [Act.put, List.setIfInBounds_toArray, List.set_cons_zero, List.set_cons_succ]
    refine anyT_one 8 rfl (by kernel_rfl) rfl ?_
    unfold Oper.wp
    go_simp
    generalize hV : W6.setCell ⟨bt, 3 + i, none⟩ _ = V
    have hV3 := heap_set1 h6 (3 + i) (.slice (some ⟨g', 0, none⟩) ((ls i).length + 1) cap')
    rw [hV] at hV3
    have hbV : But (fun g => g = bt) W6 V := by rw [← hV]; exact (But.refl (fun g => g = bt) _).setCell (p := ⟨bt, 3 + i, none⟩) rfl _
    have hbV2 : But (fun g => g = bt ∨ Value.ownBlock (.slice av (ls i).length cv) = some g) W6 V := by rw [← hV]; exact (But.refl (fun g => g = bt ∨ Value.ownBlock (.slice av (ls i).length cv) = some g) _).setCell (p := ⟨bt, 3 + i, none⟩) (.inl rfl) _
    refine ⟨hbV2, ?_⟩
    clear hV k6 f6
    refine anyT_done (by kernel_rfl) ?_
    have hset : (Value.int .i64 lim :: .int .i64 cnt :: .int .i64 trn :: vs).toArray.setIfInBounds (3 + i) (.slice (some ⟨g', 0, none⟩) ((ls i).length + 1) cap') = (Value.int .i64 lim :: .int .i64 cnt :: .int .i64 trn :: vs.set i (.slice (some ⟨g', 0, none⟩) ((ls i).length + 1) cap')).toArray := by
      rw [show 3 + i = i + 1 + 1 + 1 from by omega]
      simp
    rw [hset] at hV3
    have hfin := hT1.added i hi ⟨p, s, d, a, b, id, till, turn⟩ hrow6 (by rw [HVS.out]; exact hg6) (by rw [HVS.out]; exact hpl.imp (fun x => x) (fun h => by rw [h]; exact Nat.le_refl _)) hbV hV3
    have hbf := (But.of LL).trans (hb6.trans hbV2)
    have HF := hide hfin
    clear hfin
    go_wp2_with fail
    go_end0
    exact ⟨rfl, ⟨_, HF.out⟩, hbf⟩
  · unfold Oper.wp
    go_simp
    have l1 : Later Wd (Wd.alloc (.cells #[.int .u8 p, .int .u32 s, .int .u32 d, .int .u16 a, .int .u16 b, .int .i64 id, .int .i64 till, .int .i64 turn] 75)) := (Below.refl _ _).alloc (Nat.le_refl _) _
    have HN1 := new_row Wd (rwc ⟨p, s, d, a, b, id, till, turn⟩)
    have LL := LD.trans l1
    refine ⟨But.of l1, ?_⟩
    have k1 := l1.cell kd
    clear kd
    generalize hW1 : Wd.alloc (.cells #[.int .u8 p, .int .u32 s, .int .u32 d, .int .u16 a, .int .u16 b, .int .i64 id, .int .i64 till, .int .i64 turn] 75) = W1 at *
    rw [show Wd.alloc (.cells (rwc ⟨p, s, d, a, b, id, till, turn⟩).toArray 75) = W1 from hW1] at HN1
    clear hW1
    generalize Wd.heap.size = gn at *
    refine anyT_one 3 rfl (by kernel_rfl) rfl ?_
    unfold Oper.wp
    go_simp
    refine ⟨But.refl _ _, ?_⟩
    clear k1
    have hT1 := hT.later LL
    have hO1 := ownR_later HO.out LL
    have hbs1 := Nat.le_trans hbs LL.size
    refine anyT_one 6 rfl (by kernel_rfl) rfl ?_
    refine wp_append_lies W1 (.tmp 13) (.tmp 15) 64 rfl base 75 i0 (.agg #[.int .u8 0, .int .u32 0, .int .u32 0, .int .u16 0, .int .u16 0, .int .i64 0, .int .i64 0, .int .i64 0]) 8 40 Tryd.underlying64 hi0 hz0 hz1 hz2 rfl (by decide) (.slice av (ls i).length cv) (ls i).length (rws (ls i)) rfl hO1 ⟨gn, 0, none⟩ 1 1 (rwc ⟨p, s, d, a, b, id, till, turn⟩) rfl rfl HN1 (by intro u hu; simp only [rwc, List.mem_cons, List.not_mem_nil, or_false] at hu; rcases hu with rfl | rfl | rfl | rfl | rfl | rfl | rfl | rfl <;> rfl) (by omega) (by unfold maxLen; omega) (by omega) hbs1 _ rfl ?_
    intro g' cap' W6 hrow6 hg6 hpl hlt6
    have hb6 : But (fun g => g = bt ∨ Value.ownBlock (.slice av (ls i).length cv) = some g) W1 W6 := ⟨hg6.os, hg6.tape, hg6.output, hg6.size, fun k hk he => hg6.block k hk (fun e => he (.inr e.symm))⟩
    refine ⟨hb6, ?_⟩
    simp only [Act.put, List.setIfInBounds_toArray, List.set_cons_zero, List.set_cons_succ]
    have h6 : W6.heap[bt]? = some (.cells (.int .i64 lim :: .int .i64 cnt :: .int .i64 trn :: vs).toArray 69 (0, 0)) := (hg6.block bt (Array.getElem?_eq_some_iff.1 hT1.2.2.1).1 HNE.out).trans hT1.2.2.1
    have k6 : W6.cell? ⟨bt, 3 + i, none⟩ = some (.slice av (ls i).length cv) := by
      rw [block_cell h6, ← block_cell hT1.2.2.1]
      exact (hT1.cell i hi).trans (by rw [HVS.out])
    have f6 : W6.frozen? ⟨bt, 3 + i, none⟩ = false := block_frozen h6 _
    refine anyT_val (But.pre _) 7 rfl (by kernel_rfl) (by kernel_rfl) (by kernel_rfl) (fun _ _ _ _ h => h) rfl ?_; apply Exists.intro; refine ⟨fun v1 hv1 => ?_, ?_⟩; (· (go_simp; rfl)); simp only [Act.put, List.setIfInBounds_toArray, List.set_cons_zero, List.set_cons_succ]
    refine anyT_one 8 rfl (by kernel_rfl) rfl ?_
    unfold Oper.wp
    go_simp
    generalize hV : W6.setCell ⟨bt, 3 + i, none⟩ _ = V
    have hV3 := heap_set1 h6 (3 + i) (.slice (some ⟨g', 0, none⟩) ((ls i).length + 1) cap')
    rw [hV] at hV3
    have hbV : But (fun g => g = bt) W6 V := by rw [← hV]; exact (But.refl (fun g => g = bt) _).setCell (p := ⟨bt, 3 + i, none⟩) rfl _
    have hbV2 : But (fun g => g = bt ∨ Value.ownBlock (.slice av (ls i).length cv) = some g) W6 V := by rw [← hV]; exact (But.refl (fun g => g = bt ∨ Value.ownBlock (.slice av (ls i).length cv) = some g) _).setCell (p := ⟨bt, 3 + i, none⟩) (.inl rfl) _
    refine ⟨hbV2, ?_⟩
    clear hV k6 f6
    refine anyT_done (by kernel_rfl) ?_
    have hset : (Value.int .i64 lim :: .int .i64 cnt :: .int .i64 trn :: vs).toArray.setIfInBounds (3 + i) (.slice (some ⟨g', 0, none⟩) ((ls i).length + 1) cap') = (Value.int .i64 lim :: .int .i64 cnt :: .int .i64 trn :: vs.set i (.slice (some ⟨g', 0, none⟩) ((ls i).length + 1) cap')).toArray := by
      rw [show 3 + i = i + 1 + 1 + 1 from by omega]
      simp
    rw [hset] at hV3
    have hfin := hT1.added i hi ⟨p, s, d, a, b, id, till, turn⟩ hrow6 (by rw [HVS.out]; exact hg6) (by rw [HVS.out]; exact hpl.imp (fun x => x) (fun h => by rw [h]; exact Nat.le_refl _)) hbV hV3
    have hbf := (But.of LL).trans (hb6.trans hbV2)
    have HF := hide hfin
    clear hfin
    go_wp2_with fail
    go_end0
    exact ⟨rfl, ⟨_, HF.out⟩, hbf⟩
end Go.Proofs.YtfhcgollhifjlaaDoor

/- Package table: Put. -/
namespace Go.Proofs.YtfhcgollhifjlaaDoor
open Go.RowKit Go.Shelf
set_option maxRecDepth 100000
set_option linter.unusedVariables false
set_option linter.unusedSimpArgs false

/-- What Put answers. -/
def pute (lim cnt : Int) (ls : Nat → List Rw) (p s d a b till : Int) : Int := if mayb till = false then 2 else if kx p s d a b ls ≠ none then 10 else if lim ≤ cnt then 9 else 0
theorem TBv.but {base bt : Nat} {W V : World} {lim cnt trn c2 : Int} {vs : List Value} {ls : Nat → List Rw} (hT : TBv base W bt lim cnt trn vs ls) (hb : But (fun g => g = bt) W V) (hV : V.heap[bt]? = some (.cells (.int .i64 lim :: .int .i64 c2 :: .int .i64 trn :: vs).toArray 69 (0, 0))) : TBv base V bt lim c2 trn vs ls := by
  refine ⟨hT.1, hT.2.1, hV, fun i hi => ?_, hT.2.2.2.2⟩
  obtain ⟨h1, h2 | ⟨g, cap, cur, hv, hg, hh2, r⟩⟩ := hT.2.2.2.1 i hi
  · exact ⟨h1, .inl h2⟩
  · have hne : g ≠ bt := fun e => by subst e; have := hT.2.2.1; rw [hh2] at this; simp at this
    exact ⟨h1, .inr ⟨g, cap, cur, hv, hg, (hb.block g (Array.getElem?_eq_some_iff.1 hh2).1 hne).trans hh2, r⟩⟩

set_option maxHeartbeats 8000000 in
theorem tput_any (base bt : Nat) (lim cnt trn : Int) (vs : List Value) (ls : Nat → List Rw) (p s d a b id till : Int) (w : World) (hT : TBv base w bt lim cnt trn vs ls) (hs : 0 ≤ s ∧ s ≤ 4294967295) (hd : 0 ≤ d ∧ d ≤ 4294967295) (ha : 0 ≤ a ∧ a ≤ 65535) (hb : 0 ≤ b ∧ b ≤ 65535) (hbs : base ≤ w.heap.size) (htr : 0 ≤ trn ∧ trn ≤ 1000000) (hcn : 0 ≤ cnt ∧ cnt ≤ 4096) (hlm : lim ≤ 4096) (hln : (ls (bki p s d a b)).length ≤ 5000) :
    Calls Tryd.prog 8 #[.pointer (some ⟨bt, 0, none⟩), .agg #[.int .u8 p, .int .u32 s, .int .u32 d, .int .u16 a, .int .u16 b], .int .i64 id, .int .i64 till] w fun e w' => e = .returned (.int .i64 (pute lim cnt ls p s d a b till)) ∧
      ((pute lim cnt ls p s d a b till ≠ 0 ∧ TBv base w' bt lim cnt trn vs ls ∧ Below w.heap.size w w') ∨ (pute lim cnt ls p s d a b till = 0 ∧ TB base w' bt lim (cnt + 1) (trn + 1) (addL ls (bki p s d a b) ⟨p, s, d, kyp p a, b, id, till, trn + 1⟩) ∧ But (fun g => g = bt ∨ (vs[bki p s d a b]?.getD undef).ownBlock = some g) w w')) := by
  have lb0 : Later w (w.alloc (.cells #[.int .u8 p, .int .u32 s, .int .u32 d, .int .u16 a, .int .u16 b] 34)) := (Below.refl _ _).alloc (Nat.le_refl _) _
  have t0 := heap_alloc_new w (.cells #[.int .u8 p, .int .u32 s, .int .u32 d, .int .u16 a, .int .u16 b] 34)
  go_enter Tryd.func8, Tryd.ntmps8
  go_wp2_with fail
  generalize w.alloc (.cells #[.int .u8 p, .int .u32 s, .int .u32 d, .int .u16 a, .int .u16 b] 34) = w0 at *
  refine (mayBe_any till w0).mono ?_
  rintro e w1 ⟨rfl, rfl⟩
  have hT1 := hT.later lb0
  cases hm : mayb till with
  | false =>
    have HQ : Hid (pute lim cnt ls p s d a b till = 2) := if_pos hm
    clear hm
    go_wp2_with fail
    go_ret
    exact ⟨by rw [HQ.out]; rfl, .inl ⟨by rw [HQ.out]; decide, hT1, lb0⟩⟩
  | true =>
    have k0 := block_cell t0
    go_wp2_with fail
    clear k0
    refine (tfind_any base bt lim cnt trn vs ls p s d a b w1 hT1 hs hd ha hb).mono ?_
    rintro e w2 ⟨hb2, ⟨hk, rfl⟩ | ⟨k, g2, cap, hk, hkl, hv, rfl⟩⟩
    · have l2 : Later w1 w2 := hb2
      have L2 := lb0.trans l2
      have hT2 := hT.later L2
      have t2 := later_keep l2 t0
      have c1 : w2.cell? ⟨bt, 1, none⟩ = some (.int .i64 cnt) := by rw [block_cell hT2.2.2.1]; rfl
      have c0 : w2.cell? ⟨bt, 0, none⟩ = some (.int .i64 lim) := by rw [block_cell hT2.2.2.1]; rfl
      have HP : Hid (pute lim cnt ls p s d a b till = if lim ≤ cnt then 9 else 0) := by show _ = _; unfold pute; rw [hm, hk]; simp
      clear hm hk
      go_upto_region 7 with fail
      refine anyR_begin (R := Later) Later.pre Later.drew 10 rfl (by kernel_rfl) (fun V1 hV1 => ?_)
      have q1 : ∀ v1, Later V1 v1 → v1.cell? ⟨bt, 1, none⟩ = some (.int .i64 cnt) := fun v1 h => (hV1.trans h).cell c1
      have q0 : ∀ v1, Later V1 v1 → v1.cell? ⟨bt, 0, none⟩ = some (.int .i64 lim) := fun v1 h => (hV1.trans h).cell c0
      clear c0 c1
      refine anyR_val Later.pre 0 rfl (by kernel_rfl) (by kernel_rfl) (by kernel_rfl) (fun _ _ _ _ h => h) rfl ?_; apply Exists.intro; refine ⟨fun w1 hw1 => ?_, ?_⟩; (· (go_simp; rfl)); simp only [Act.put, List.setIfInBounds_toArray, List.set_cons_zero, List.set_cons_succ]
      refine anyR_val Later.pre 1 rfl (by kernel_rfl) (by kernel_rfl) (by kernel_rfl) (fun _ _ _ _ h => h) rfl ?_; apply Exists.intro; refine ⟨fun w1 hw1 => ?_, ?_⟩; (· (go_simp; rfl)); simp only [Act.put, List.setIfInBounds_toArray, List.set_cons_zero, List.set_cons_succ]
      refine anyR_val Later.pre 2 rfl (by kernel_rfl) (by kernel_rfl) (by kernel_rfl) (fun _ _ _ _ h => h) rfl ?_; apply Exists.intro; refine ⟨fun w1 hw1 => ?_, ?_⟩; (· (go_simp; rfl)); simp only [Act.put, List.setIfInBounds_toArray, List.set_cons_zero, List.set_cons_succ]
      refine anyR_val Later.pre 3 rfl (by kernel_rfl) (by kernel_rfl) (by kernel_rfl) (fun _ _ _ _ h => h) rfl ?_; apply Exists.intro; refine ⟨fun w1 hw1 => ?_, ?_⟩; (· (go_simp; rfl)); simp only [Act.put, List.setIfInBounds_toArray, List.set_cons_zero, List.set_cons_succ]
      refine anyR_val Later.pre 4 rfl (by kernel_rfl) (by kernel_rfl) (by kernel_rfl) (fun _ _ _ _ h => h) rfl ?_; apply Exists.intro; refine ⟨fun w1 hw1 => ?_, ?_⟩; (· (go_simp; rfl)); simp only [Act.put, List.setIfInBounds_toArray, List.set_cons_zero, List.set_cons_succ]
      refine anyR_val Later.pre 5 rfl (by kernel_rfl) (by kernel_rfl) (by kernel_rfl) (fun _ _ _ _ h => h) rfl ?_; apply Exists.intro; refine ⟨fun w1 hw1 => ?_, ?_⟩; (· (go_simp; rfl)); simp only [Act.put, List.setIfInBounds_toArray, List.set_cons_zero, List.set_cons_succ]
      refine anyR_val Later.pre 6 rfl (by kernel_rfl) (by kernel_rfl) (by kernel_rfl) (fun _ _ _ _ h => h) rfl ?_; apply Exists.intro; refine ⟨fun w1 hw1 => ?_, ?_⟩; (· (go_simp; rfl)); simp only [Act.put, List.setIfInBounds_toArray, List.set_cons_zero, List.set_cons_succ]
      refine anyR_val Later.pre 7 rfl (by kernel_rfl) (by kernel_rfl) (by kernel_rfl) (fun _ _ _ _ h => h) rfl ?_; apply Exists.intro; refine ⟨fun w1 hw1 => ?_, ?_⟩; (· (go_simp; rfl)); simp only [Act.put, List.setIfInBounds_toArray, List.set_cons_zero, List.set_cons_succ]
      refine anyR_val Later.pre 8 rfl (by kernel_rfl) (by kernel_rfl) (by kernel_rfl) (fun _ _ _ _ h => h) rfl ?_; apply Exists.intro; refine ⟨fun w1 hw1 => ?_, ?_⟩; (· (go_simp; rfl)); simp only [Act.put, List.setIfInBounds_toArray, List.set_cons_zero, List.set_cons_succ]
      refine anyR_val Later.pre 9 rfl (by kernel_rfl) (by kernel_rfl) (by kernel_rfl) (fun _ _ _ _ h => h) rfl ?_; apply Exists.intro; refine ⟨fun w1 hw1 => ?_, ?_⟩; (· (go_simp; rfl)); simp only [Act.put, List.setIfInBounds_toArray, List.set_cons_zero, List.set_cons_succ]
      refine anyR_done (by kernel_rfl) (fun V2 hV2 => ?_)
      clear q0 q1
      have L3 := L2.trans (hV1.trans hV2)
      have t3 := later_keep (hV1.trans hV2) t2
      have hT3 := hT.later L3
      by_cases hful : lim ≤ cnt
      · have HQ : Hid (pute lim cnt ls p s d a b till = 9) := HP.out.trans (if_pos hful)
        go_wp2_with fail
        go_ret
        exact ⟨by rw [HQ.out]; rfl, .inl ⟨by rw [HQ.out]; decide, hT3, L3⟩⟩
      · have HQ : Hid (pute lim cnt ls p s d a b till = 0) := HP.out.trans (if_neg hful)
        have hnb : w.heap.size ≠ bt := fun e => by have := (Array.getElem?_eq_some_iff.1 hT.2.2.1).1; omega
        have hnv : (vs[bki p s d a b]?.getD undef).ownBlock ≠ some w.heap.size := fun e => by have := ((hT.2.2.2.1 _ (bki_lt p s d a b)).lt _ e).2; omega
        go_upto_region 9 with fail
        refine anyT_begin (R := But (fun g => g = bt ∨ (vs[bki p s d a b]?.getD undef).ownBlock = some g)) 13 rfl (by kernel_rfl) ?_
        have ld : Later V2 V2.drew := Later.drew V2
        have td := later_keep ld t3
        have LD := L3.trans ld
        generalize V2.drew = Wd at *
        have hq : ∀ v1, But (fun g => g = bt ∨ (vs[bki p s d a b]?.getD undef).ownBlock = some g) Wd v1 → ∀ j, v1.cell? ⟨w.heap.size, j, none⟩ = #[Value.int .u8 p, .int .u32 s, .int .u32 d, .int .u16 a, .int .u16 b][j]? := fun v1 hv => block_cell ((hv.block w.heap.size (Array.getElem?_eq_some_iff.1 td).1 (fun hE => hE.elim hnb hnv)).trans td)
        refine anyT_val (But.pre _) 0 rfl (by kernel_rfl) (by kernel_rfl) (by kernel_rfl) (fun _ _ _ _ h => h) rfl ?_; apply Exists.intro; refine ⟨fun v1 hv1 => ?_, ?_⟩; (· (go_simp; rfl)); simp only [Act.put, List.setIfInBounds_toArray, List.set_cons_zero, List.set_cons_succ]
        refine anyT_val (But.pre _) 1 rfl (by kernel_rfl) (by kernel_rfl) (by kernel_rfl) (fun _ _ _ _ h => h) rfl ?_; apply Exists.intro; refine ⟨fun v1 hv1 => ?_, ?_⟩; (· (go_simp; rfl)); simp only [Act.put, List.setIfInBounds_toArray, List.set_cons_zero, List.set_cons_succ]
        refine anyT_val (But.pre _) 2 rfl (by kernel_rfl) (by kernel_rfl) (by kernel_rfl) (fun _ _ _ _ h => h) rfl ?_; apply Exists.intro; refine ⟨fun v1 hv1 => ?_, ?_⟩; (· (go_simp; rfl)); simp only [Act.put, List.setIfInBounds_toArray, List.set_cons_zero, List.set_cons_succ]
        refine anyT_val (But.pre _) 3 rfl (by kernel_rfl) (by kernel_rfl) (by kernel_rfl) (fun _ _ _ _ h => h) rfl ?_; apply Exists.intro; refine ⟨fun v1 hv1 => ?_, ?_⟩; (· (go_simp; rfl)); simp only [Act.put, List.setIfInBounds_toArray, List.set_cons_zero, List.set_cons_succ]
        refine anyT_val (But.pre _) 5 rfl (by kernel_rfl) (by kernel_rfl) (by kernel_rfl) (fun _ _ _ _ h => h) rfl ?_; apply Exists.intro; refine ⟨fun v1 hv1 => ?_, ?_⟩; (· (go_simp; rfl)); simp only [Act.put, List.setIfInBounds_toArray, List.set_cons_zero, List.set_cons_succ]
        refine anyT_val (But.pre _) 7 rfl (by kernel_rfl) (by kernel_rfl) (by kernel_rfl) (fun _ _ _ _ h => h) rfl ?_; apply Exists.intro; refine ⟨fun v1 hv1 => ?_, ?_⟩; (· (go_simp; rfl)); simp only [Act.put, List.setIfInBounds_toArray, List.set_cons_zero, List.set_cons_succ]
        refine anyT_val (But.pre _) 8 rfl (by kernel_rfl) (by kernel_rfl) (by kernel_rfl) (fun _ _ _ _ h => h) rfl ?_; apply Exists.intro; refine ⟨fun v1 hv1 => ?_, ?_⟩; (· (go_simp; rfl)); simp only [Act.put, List.setIfInBounds_toArray, List.set_cons_zero, List.set_cons_succ]
        refine anyT_val (But.pre _) 9 rfl (by kernel_rfl) (by kernel_rfl) (by kernel_rfl) (fun _ _ _ _ h => h) rfl ?_; apply Exists.intro; refine ⟨fun v1 hv1 => ?_, ?_⟩; (· (go_simp; rfl)); simp only [Act.put, List.setIfInBounds_toArray, List.set_cons_zero, List.set_cons_succ]
        clear hq
        refine anyT_one 4 rfl (by kernel_rfl) rfl ?_
        refine wp_enter 20 #[.agg #[.int .u8 p, .int .u32 s, .int .u32 d, .int .u16 a, .int .u16 b]] (by go_simp) ?_
        refine (hash_any p s d a b Wd hs hd ha hb).mono ?_
        rintro e W1 ⟨rfl, hb1⟩
        have k1 : Later Wd W1 := hb1
        refine ⟨But.of k1, ?_⟩
        simp only [Act.put, List.setIfInBounds_toArray, List.set_cons_zero, List.set_cons_succ]
        refine anyT_one 6 rfl (by kernel_rfl) rfl ?_
        refine wp_enter 21 #[.agg #[.int .u8 p, .int .u32 s, .int .u32 d, .int .u16 a, .int .u16 b]] (by go_simp) ?_
        refine (key_any p s d a b W1).mono ?_
        rintro e W2 ⟨rfl, hb2'⟩
        have k2 : Later W1 W2 := hb2'
        refine ⟨But.of k2, ?_⟩
        simp only [Act.put, List.setIfInBounds_toArray, List.set_cons_zero, List.set_cons_succ]
        have LW2 := LD.trans (k1.trans k2)
        refine anyT_one 10 rfl (by kernel_rfl) rfl ?_
        refine wp_enter 22 #[.pointer (some ⟨bt, 0, none⟩)] (by go_simp) ?_
        refine (turn_any base bt lim cnt trn vs ls W2 (hT.later LW2) htr).mono ?_
        rintro e W3 ⟨rfl, hb3, hT4⟩
        have hb3' : But (fun g => g = bt ∨ (vs[bki p s d a b]?.getD undef).ownBlock = some g) W2 W3 := ⟨hb3.os, hb3.tape, hb3.output, hb3.size, fun k hk he => hb3.block k hk (fun e => he (.inl e))⟩
        refine ⟨hb3', ?_⟩
        simp only [Act.put, List.setIfInBounds_toArray, List.set_cons_zero, List.set_cons_succ]
        refine anyT_val (But.pre _) 11 rfl (by kernel_rfl) (by kernel_rfl) (by kernel_rfl) (fun _ _ _ _ h => h) rfl ?_; apply Exists.intro; refine ⟨fun v1 hv1 => ?_, ?_⟩; (· (go_simp; rfl)); simp only [Act.put, List.setIfInBounds_toArray, List.set_cons_zero, List.set_cons_succ]
        refine anyT_one 12 rfl (by kernel_rfl) rfl ?_
        refine wp_enter 19 #[.pointer (some ⟨bt, 3, none⟩), .int .u32 (hsh (tb p s d (kyp p a) b)), .agg #[.int .u8 p, .int .u32 s, .int .u32 d, .int .u16 (kyp p a), .int .u16 b, .int .i64 id, .int .i64 till, .int .i64 (trn + 1)]] (by go_simp) ?_
        refine (add_any base bt lim cnt (trn + 1) vs ls (hsh (tb p s d (kyp p a) b)) (bki p s d a b) p s d (kyp p a) b id till (trn + 1) W3 hT4 (hsh_tb _ _ _ _ _) rfl hln (Nat.le_trans (Nat.le_trans hbs LW2.size) hb3.size)).mono ?_
        rintro e W4 ⟨rfl, ⟨vs4, hT5⟩, hb4⟩
        refine ⟨hb4, ?_⟩
        simp only [Act.put, List.setIfInBounds_toArray, List.set_cons_zero, List.set_cons_succ]
        refine anyT_done (by kernel_rfl) ?_
        have hbt : But (fun g => g = bt ∨ (vs[bki p s d a b]?.getD undef).ownBlock = some g) w W4 := (But.of LW2).trans (hb3'.trans hb4)
        have hh5 := hT5.2.2.1
        have c1 : W4.cell? ⟨bt, 1, none⟩ = some (.int .i64 cnt) := by rw [block_cell hh5]; rfl
        have f1 := block_frozen hh5 1
        have hst := heap_set1 hh5 1 (.int .i64 (cnt + 1))
        have hb5 : But (fun g => g = bt) W4 (W4.setCell ⟨bt, 1, none⟩ (.int .i64 (cnt + 1))) := (But.refl (fun g => g = bt) _).setCell (p := ⟨bt, 1, none⟩) rfl _
        have hb5' : But (fun g => g = bt ∨ (vs[bki p s d a b]?.getD undef).ownBlock = some g) W4 (W4.setCell ⟨bt, 1, none⟩ (.int .i64 (cnt + 1))) := ⟨hb5.os, hb5.tape, hb5.output, hb5.size, fun k hk he => hb5.block k hk (fun e => he (.inl e))⟩
        have hT6 := hT5.but (c2 := cnt + 1) hb5 (by simpa using hst)
        have HT6 := hide hT6
        have HB6 := hide (hbt.trans hb5')
        clear hT6 hb5 hb5' hst hh5 hT5
        go_wp2_with fail
        go_ret
        exact ⟨by rw [HQ.out]; rfl, .inr ⟨HQ.out, ⟨_, HT6.out⟩, HB6.out⟩⟩
    · have l2 : Later w1 w2 := hb2
      have HQ : Hid (pute lim cnt ls p s d a b till = 10) := by show _ = _; unfold pute; rw [hm, hk]; simp
      have L2 := lb0.trans l2
      have hT2 := hT.later L2
      clear hm hk hv
      go_wp2_with fail
      go_ret
      exact ⟨by rw [HQ.out]; rfl, .inl ⟨by rw [HQ.out]; decide, hT2, L2⟩⟩
end Go.Proofs.YtfhcgollhifjlaaDoor

/- The walk of TopFlows. -/
namespace Go.Proofs.YtfhcgollhifjlaaDoor
open Go.RowKit Go.Shelf
set_option maxRecDepth 100000
set_option linter.unusedVariables false
set_option linter.unusedSimpArgs false

theorem bp_udp (src dst a b : Int) (w : World) (hsr : 0 ≤ src ∧ src ≤ 4294967295) (hds : 0 ≤ dst ∧ dst ≤ 4294967295) (ha : 0 ≤ a ∧ a ≤ 65535) (hb : 0 ≤ b ∧ b ≤ 65535) :
    Calls Tryd.prog 4 #[.agg #[.int .u8 0, .int .u16 0, .bool false, .int .u8 0, .int .u8 0, .int .u32 src, .int .u32 dst, .slice none 0 0, .slice none 0 0], .agg #[.int .u16 a, .int .u16 b, .bool false, .slice none 0 0]] w fun e w' => Below w.heap.size w w' ∧ ∃ a7 l7 c7 a8 l8 c8 z, e = .returned (.tuple #[.agg #[.int .u8 0, .int .u16 0, .bool false, .int .u8 0, .int .u8 17, .int .u32 src, .int .u32 dst, .slice a7 l7 c7, .slice a8 l8 c8], .int .i64 0]) ∧ Mt.By z ∧ Ow w.heap.size w' (.slice a8 l8 c8) z ∧ z.length ≤ 100 ∧ ofe 17 src dst z = 0 ∧ ofa 17 z = a ∧ ofb 17 z = b := by
  refine (buildUdp_any 0 0 0 0 src dst a b false false _ _ _ [] [] w Mt.By.nil (rd_zero w) Mt.By.nil (rd_zero w) (by simp) (by simp) (by omega) (by omega) (by omega) hsr hds ha hb).mono ?_
  have HZ : flt ([] : List Int).length (8 + ([] : List Int).length) = 0 := by unfold flt; simp
  rintro e w' ⟨hb1, ⟨hx, _⟩ | ⟨_, a7, c7, a8, c8, rfl, _, hD⟩⟩
  · exact absurd HZ hx
  · have hB0 : Mt.By (udp0 a b []) := By_udp0 a b [] ha hb Mt.By.nil
    refine ⟨hb1, _, _, _, _, _, _, _, rfl, By_udp a b false src dst [] ha hb Mt.By.nil, hD, ?_, ?_, udp_w0 _ _ _ _ _ _, udp_w2 _ _ _ _ _ _⟩
    · have h8 := hD.slice
      obtain ⟨_, _, e, _⟩ := h8
      simp at e
      omega
    · rw [show ofe 17 src dst (udp a b false src dst []) = pue 17 src dst (udp a b false src dst []) from rfl, udp_pue _ _ _ _ _ _ 17 rfl src dst (by simp), if_neg]
      intro h
      exact h.2 (udp_good a b src dst [] hsr hds hB0)

theorem gtv_at {ls : Nat → List Rw} {p s d a b : Int} {k : Nat} {r : Rw} (hk : kx p s d a b ls = some k) (hr : (ls (bki p s d a b))[k]? = some r) : gtv p s d a b ls = .tuple #[.int .i64 r.id, .int .i64 r.till, .bool true] := by
  unfold gtv
  simp only [hk, hr]
theorem addL_nil (i : Nat) (r : Rw) : addL (fun _ => []) i r i = [r] := by unfold addL; rw [if_pos rfl]; rfl
theorem gtv_put {p s d a b : Int} {i : Nat} {r : Rw} (hi : bki p s d a b = i) (hr : isK p s d (kyp p a) b r = true) : gtv p s d a b (addL (fun _ => []) i r) = .tuple #[.int .i64 r.id, .int .i64 r.till, .bool true] := by
  refine gtv_at (k := 0) ?_ ?_
  · unfold kx
    rw [hi, addL_nil]
    exact kix_some (k := 0) (by simp) (fun j _ h => by omega) hr
  · rw [hi, addL_nil]
    rfl
theorem gtv_no {ls : Nat → List Rw} {p s d a b : Int} (hk : kx p s d a b ls = none) : gtv p s d a b ls = .tuple #[.int .i64 0, .int .i64 0, .bool false] := by
  unfold gtv
  simp only [hk]
theorem addL_other {i j : Nat} (r : Rw) (h : j ≠ i) : addL (fun _ => []) i r j = [] := by unfold addL; rw [if_neg h]
theorem gtv_not {p s d a b : Int} {i j : Nat} {r : Rw} (hj : bki p s d a b = j) (hr : isK p s d (kyp p a) b r = false) : gtv p s d a b (addL (fun _ => []) i r) = .tuple #[.int .i64 0, .int .i64 0, .bool false] := by
  refine gtv_no ?_
  unfold kx
  rw [hj]
  by_cases h : j = i
  · subst h
    rw [addL_nil]
    refine kix_none fun k hk => ?_
    have : k = 0 := by simpa using hk
    subst this
    exact hr
  · rw [addL_other r h]
    exact kix_none fun k hk => by simp at hk

set_option maxHeartbeats 4000000 in
theorem flows_walk (w : World) (hTb : Tb w) (src dst x0 x1 : Int) (hsr : 0 ≤ src ∧ src ≤ 4294967295) (hds : 0 ≤ dst ∧ dst ≤ 4294967295) (h0 : 0 ≤ x0 ∧ x0 ≤ 65535) (h1 : 0 ≤ x1 ∧ x1 ≤ 65535) :
    Calls Tryd.prog 3 #[.int .u32 src, .int .u32 dst, .agg #[.int .u16 x0, .int .u16 x1]] w fun e w' => e = .returned (.bool true) ∧ Below w.heap.size w w' := by
  have lb0 : Later w (w.alloc (.cells #[.int .u16 x0, .int .u16 x1] 24)) := (Below.refl _ _).alloc (Nat.le_refl _) _
  have c0 := heap_alloc_new w (.cells #[.int .u16 x0, .int .u16 x1] 24)
  go_enter Tryd.func3, Tryd.ntmps3
  go_upto_region 1 with fail
  generalize w.alloc _ = w0 at *
  have k0 := block_cell c0
  go_wp2_with fail
  refine (bp_udp src dst x0 x1 w0 hsr hds h0 h1).mono ?_
  rintro e u1 ⟨hb1, a71, l71, c71, a81, l81, c81, z1, rfl, hBz1, hDz1, hlz1, he1, hx1, hy1⟩
  have l1 : Later w0 u1 := hb1
  have la1 : Later u1 (u1.alloc (.cells #[.int .u8 0, .int .u16 0, .bool false, .int .u8 0, .int .u8 17, .int .u32 src, .int .u32 dst, .slice a71 l71 c71, .slice a81 l81 c81] 27)) := (Below.refl _ _).alloc (Nat.le_refl _) _
  have q1 := heap_alloc_new u1 (.cells #[.int .u8 0, .int .u16 0, .bool false, .int .u8 0, .int .u8 17, .int .u32 src, .int .u32 dst, .slice a71 l71 c71, .slice a81 l81 c81] 27)
  have L1 := lb0.trans (l1.trans la1)
  have c1 := later_keep (l1.trans la1) c0
  have hD1 := hDz1.later la1
  have HE1 := hide he1
  have HX1 := hide hx1
  have HY1 := hide hy1
  clear k0 c0 he1 hx1 hy1
  have k1 := block_cell c1
  go_wp2_with fail
  generalize u1.alloc _ = U1 at *
  generalize u1.heap.size = g1 at *
  refine (bp_udp dst src x1 x0 U1 hds hsr h1 h0).mono ?_
  rintro e u2 ⟨hb2, a72, l72, c72, a82, l82, c82, z2, rfl, hBz2, hDz2, hlz2, he2, hx2, hy2⟩
  have l2 : Later U1 u2 := hb2
  have la2 : Later u2 (u2.alloc (.cells #[.int .u8 0, .int .u16 0, .bool false, .int .u8 0, .int .u8 17, .int .u32 dst, .int .u32 src, .slice a72 l72 c72, .slice a82 l82 c82] 27)) := (Below.refl _ _).alloc (Nat.le_refl _) _
  have q2 := heap_alloc_new u2 (.cells #[.int .u8 0, .int .u16 0, .bool false, .int .u8 0, .int .u8 17, .int .u32 dst, .int .u32 src, .slice a72 l72 c72, .slice a82 l82 c82] 27)
  have M2 := l2.trans la2
  have L2 := L1.trans M2
  have r1 := later_keep M2 q1
  have hD1b := hD1.below M2 (Nat.le_refl _)
  have hD2 := hDz2.later la2
  have HE2 := hide he2
  have HX2 := hide hx2
  have HY2 := hide hy2
  clear k1 c1 he2 hx2 hy2 q1 hD1 hDz1 hDz2
  have k1 := block_cell r1
  go_wp2_with fail
  generalize u2.alloc _ = U2 at *
  generalize u2.heap.size = g2 at *
  clear l2 la2 M2 L1 lb0 l1 la1
  have Tb2 := hTb.later L2
  refine (of_any 0 0 0 17 src dst false _ _ z1 U2 Tb2 hBz1 hD1b.rd (by omega) hsr hds).mono ?_
  rintro e u3 ⟨hb3, rfl⟩
  rw [HE1.out, HX1.out, HY1.out, show otv 0 17 src dst x0 x1 = .agg #[.int .u8 17, .int .u32 src, .int .u32 dst, .int .u16 x0, .int .u16 x1] from by unfold otv; simp]
  have l3 : Later U2 u3 := hb3
  have la3 : Later u3 (u3.alloc (.cells #[.int .u8 17, .int .u32 src, .int .u32 dst, .int .u16 x0, .int .u16 x1] 34)) := (Below.refl _ _).alloc (Nat.le_refl _) _
  have t1 := heap_alloc_new u3 (.cells #[.int .u8 17, .int .u32 src, .int .u32 dst, .int .u16 x0, .int .u16 x1] 34)
  have M3 := l3.trans la3
  have L3 := L2.trans M3
  have r2 := later_keep M3 q2
  have hD2b := hD2.below M3 (Nat.le_refl _)
  clear k1 r1 q2 hD2
  have k2 := block_cell r2
  go_wp2_with fail
  generalize u3.alloc _ = U3 at *
  generalize u3.heap.size = g3 at *
  clear l3 la3 M3 L2
  have Tb3 := hTb.later L3
  refine (of_any 0 0 0 17 dst src false _ _ z2 U3 Tb3 hBz2 hD2b.rd (by omega) hds hsr).mono ?_
  rintro e u4 ⟨hb4, rfl⟩
  rw [HE2.out, HX2.out, HY2.out, show otv 0 17 dst src x1 x0 = .agg #[.int .u8 17, .int .u32 dst, .int .u32 src, .int .u16 x1, .int .u16 x0] from by unfold otv; simp]
  have l4 : Later U3 u4 := hb4
  have la4 : Later u4 (u4.alloc (.cells #[.int .u8 17, .int .u32 dst, .int .u32 src, .int .u16 x1, .int .u16 x0] 34)) := (Below.refl _ _).alloc (Nat.le_refl _) _
  have t2 := heap_alloc_new u4 (.cells #[.int .u8 17, .int .u32 dst, .int .u32 src, .int .u16 x1, .int .u16 x0] 34)
  have M4 := l4.trans la4
  have L4 := L3.trans M4
  have s1 := later_keep M4 t1
  clear k2 r2 t1
  go_upto_region 5 with fail
  generalize u4.alloc _ = U4 at *
  generalize u4.heap.size = g4 at *
  clear l4 la4 M4 L3
  refine anyR_begin (R := Later) Later.pre Later.drew 20 rfl (by kernel_rfl) (fun V1 hV1 => ?_)
  have b1 : ∀ v1, Later V1 v1 → ∀ j, v1.cell? ⟨g3, j, none⟩ = #[.int .u8 17, .int .u32 src, .int .u32 dst, .int .u16 x0, .int .u16 x1][j]? := fun v1 h => block_cell (later_keep (hV1.trans h) s1)
  have b2 : ∀ v1, Later V1 v1 → ∀ j, v1.cell? ⟨g4, j, none⟩ = #[.int .u8 17, .int .u32 dst, .int .u32 src, .int .u16 x1, .int .u16 x0][j]? := fun v1 h => block_cell (later_keep (hV1.trans h) t2)
  refine anyR_val Later.pre 0 rfl (by kernel_rfl) (by kernel_rfl) (by kernel_rfl) (fun _ _ _ _ h => h) rfl ?_; apply Exists.intro; refine ⟨fun w1 hw1 => ?_, ?_⟩; (· (go_simp; rfl)); simp only [Act.put, List.setIfInBounds_toArray, List.set_cons_zero, List.set_cons_succ]
  refine anyR_val Later.pre 1 rfl (by kernel_rfl) (by kernel_rfl) (by kernel_rfl) (fun _ _ _ _ h => h) rfl ?_; apply Exists.intro; refine ⟨fun w1 hw1 => ?_, ?_⟩; (· (go_simp; rfl)); simp only [Act.put, List.setIfInBounds_toArray, List.set_cons_zero, List.set_cons_succ]
  refine anyR_val Later.pre 2 rfl (by kernel_rfl) (by kernel_rfl) (by kernel_rfl) (fun _ _ _ _ h => h) rfl ?_; apply Exists.intro; refine ⟨fun w1 hw1 => ?_, ?_⟩; (· (go_simp; rfl)); simp only [Act.put, List.setIfInBounds_toArray, List.set_cons_zero, List.set_cons_succ]
  refine anyR_valG Later.pre 3 rfl (by kernel_rfl) (by kernel_rfl) (by kernel_rfl) (fun _ _ _ _ h => h) (by rfl) ?_; apply Exists.intro; refine ⟨fun w1 hw1 => ?_, ?_⟩; (· (go_simp; rfl)); simp only [Act.put, List.setIfInBounds_toArray, List.set_cons_zero, List.set_cons_succ]
  refine anyR_valG Later.pre 4 rfl (by kernel_rfl) (by kernel_rfl) (by kernel_rfl) (fun _ _ _ _ h => h) (by rfl) ?_; apply Exists.intro; refine ⟨fun w1 hw1 => ?_, ?_⟩; (· (go_simp; rfl)); simp only [Act.put, List.setIfInBounds_toArray, List.set_cons_zero, List.set_cons_succ]
  refine anyR_val Later.pre 5 rfl (by kernel_rfl) (by kernel_rfl) (by kernel_rfl) (fun _ _ _ _ h => h) rfl ?_; apply Exists.intro; refine ⟨fun w1 hw1 => ?_, ?_⟩; (· (go_simp; rfl)); simp only [Act.put, List.setIfInBounds_toArray, List.set_cons_zero, List.set_cons_succ]
  refine anyR_val Later.pre 6 rfl (by kernel_rfl) (by kernel_rfl) (by kernel_rfl) (fun _ _ _ _ h => h) rfl ?_; apply Exists.intro; refine ⟨fun w1 hw1 => ?_, ?_⟩; (· (go_simp; rfl)); simp only [Act.put, List.setIfInBounds_toArray, List.set_cons_zero, List.set_cons_succ]
  refine anyR_valG Later.pre 7 rfl (by kernel_rfl) (by kernel_rfl) (by kernel_rfl) (fun _ _ _ _ h => h) (by rfl) ?_; apply Exists.intro; refine ⟨fun w1 hw1 => ?_, ?_⟩; (· (go_simp; rfl)); simp only [Act.put, List.setIfInBounds_toArray, List.set_cons_zero, List.set_cons_succ]
  refine anyR_valG Later.pre 8 rfl (by kernel_rfl) (by kernel_rfl) (by kernel_rfl) (fun _ _ _ _ h => h) (by rfl) ?_; apply Exists.intro; refine ⟨fun w1 hw1 => ?_, ?_⟩; (· (go_simp; rfl)); simp only [Act.put, List.setIfInBounds_toArray, List.set_cons_zero, List.set_cons_succ]
  refine anyR_val Later.pre 9 rfl (by kernel_rfl) (by kernel_rfl) (by kernel_rfl) (fun _ _ _ _ h => h) rfl ?_; apply Exists.intro; refine ⟨fun w1 hw1 => ?_, ?_⟩; (· (go_simp; rfl)); simp only [Act.put, List.setIfInBounds_toArray, List.set_cons_zero, List.set_cons_succ]
  refine anyR_val Later.pre 10 rfl (by kernel_rfl) (by kernel_rfl) (by kernel_rfl) (fun _ _ _ _ h => h) rfl ?_; apply Exists.intro; refine ⟨fun w1 hw1 => ?_, ?_⟩; (· (go_simp; rfl)); simp only [Act.put, List.setIfInBounds_toArray, List.set_cons_zero, List.set_cons_succ]
  refine anyR_valG Later.pre 11 rfl (by kernel_rfl) (by kernel_rfl) (by kernel_rfl) (fun _ _ _ _ h => h) (by rfl) ?_; apply Exists.intro; refine ⟨fun w1 hw1 => ?_, ?_⟩; (· (go_simp; rfl)); simp only [Act.put, List.setIfInBounds_toArray, List.set_cons_zero, List.set_cons_succ]
  refine anyR_valG Later.pre 12 rfl (by kernel_rfl) (by kernel_rfl) (by kernel_rfl) (fun _ _ _ _ h => h) (by rfl) ?_; apply Exists.intro; refine ⟨fun w1 hw1 => ?_, ?_⟩; (· (go_simp; rfl)); simp only [Act.put, List.setIfInBounds_toArray, List.set_cons_zero, List.set_cons_succ]
  refine anyR_val Later.pre 13 rfl (by kernel_rfl) (by kernel_rfl) (by kernel_rfl) (fun _ _ _ _ h => h) rfl ?_; apply Exists.intro; refine ⟨fun w1 hw1 => ?_, ?_⟩; (· (go_simp; rfl)); simp only [Act.put, List.setIfInBounds_toArray, List.set_cons_zero, List.set_cons_succ]
  refine anyR_val Later.pre 14 rfl (by kernel_rfl) (by kernel_rfl) (by kernel_rfl) (fun _ _ _ _ h => h) rfl ?_; apply Exists.intro; refine ⟨fun w1 hw1 => ?_, ?_⟩; (· (go_simp; rfl)); simp only [Act.put, List.setIfInBounds_toArray, List.set_cons_zero, List.set_cons_succ]
  refine anyR_valG Later.pre 15 rfl (by kernel_rfl) (by kernel_rfl) (by kernel_rfl) (fun _ _ _ _ h => h) (by rfl) ?_; apply Exists.intro; refine ⟨fun w1 hw1 => ?_, ?_⟩; (· (go_simp; rfl)); simp only [Act.put, List.setIfInBounds_toArray, List.set_cons_zero, List.set_cons_succ]
  refine anyR_valG Later.pre 17 rfl (by kernel_rfl) (by kernel_rfl) (by kernel_rfl) (fun _ _ _ _ h => h) (by rfl) ?_; apply Exists.intro; refine ⟨fun w1 hw1 => ?_, ?_⟩; (· (go_simp; rfl)); simp only [Act.put, List.setIfInBounds_toArray, List.set_cons_zero, List.set_cons_succ]
  refine anyR_takeG Later.pre 16 (.agg #[.int .u8 17, .int .u32 dst, .int .u32 src, .int .u16 x1, .int .u16 x0]) rfl (by kernel_rfl) (by kernel_rfl) (by kernel_rfl) (fun _ _ _ h => h) (by rfl) (fun w1 hw1 => goes_call 6 #[.agg #[.int .u8 17, .int .u32 src, .int .u32 dst, .int .u16 x0, .int .u16 x1]] (by go_simp) ((reverse_any 17 src dst x0 x1 w1).mono fun e w2 h => h)) ?_
  simp only [Act.put, List.setIfInBounds_toArray, List.set_cons_zero, List.set_cons_succ]
  refine anyR_valG Later.pre 18 rfl (by kernel_rfl) (by kernel_rfl) (by kernel_rfl) (fun _ _ _ _ h => h) (by rfl) ?_; apply Exists.intro; refine ⟨fun w1 hw1 => ?_, ?_⟩; (· (go_simp; rfl)); simp only [Act.put, List.setIfInBounds_toArray, List.set_cons_zero, List.set_cons_succ]
  refine anyR_val Later.pre 19 rfl (by kernel_rfl) (by kernel_rfl) (by kernel_rfl) (fun _ _ _ _ h => h) rfl ?_; apply Exists.intro; refine ⟨fun w1 hw1 => ?_, ?_⟩; (· (go_simp; rfl)); simp only [Act.put, List.setIfInBounds_toArray, List.set_cons_zero, List.set_cons_succ]
  refine anyR_done (by kernel_rfl) (fun V2 hV2 => ?_)
  have M5 := hV1.trans hV2
  have L5 := L4.trans M5
  have s5 := later_keep M5 s1
  have t5 := later_keep M5 t2
  clear b1 b2 s1 t2 L4
  go_wp2_with fail
  refine (new_yes 4 V2 (by omega) (by omega)).mono ?_
  rintro e w6 ⟨rfl, l6, vs, hT6⟩
  generalize hbt : V2.heap.size = bt at *
  have hV2 : w.heap.size ≤ bt := by rw [← hbt]; exact L5.size
  have HWB := hide hV2
  have L6 : Later w w6 := Below.trans L5 (l6.mono hV2)
  have hs6 := l6.size
  have g3l : g3 < bt := by rw [← hbt]; exact (Array.getElem?_eq_some_iff.1 s5).1
  have g4l : g4 < bt := by rw [← hbt]; exact (Array.getElem?_eq_some_iff.1 t5).1
  have s6 := (l6.block g3 g3l).trans s5
  have t6 := (l6.block g4 g4l).trans t5
  clear s5 t5 l6 L5 M5 hV1 HE1 HE2 HX1 HX2 HY1 HY2 hD1b hD2b Tb2 Tb3
  have k6 := block_cell s6
  have hpe : pute 4 0 (fun _ => []) 17 src dst x0 x1 10 = 0 := by
    have hk : kx 17 src dst x0 x1 (fun _ => []) = none := by unfold kx; exact kix_none fun j hj => by simp at hj
    unfold pute
    rw [if_neg (by simp [mayb]), if_neg (by simp [hk]), if_neg (by omega)]
  have HPE := hide hpe
  clear hpe
  go_wp2_with fail
  refine (tput_any bt bt 4 0 0 vs (fun _ => []) 17 src dst x0 x1 7 10 w6 hT6 hsr hds h0 h1 (by omega) (by omega) (by omega) (by omega) (by simp)).mono ?_
  rintro e w7 ⟨rfl, h7⟩
  rw [HPE.out] at h7 ⊢
  rcases h7 with ⟨h7, _⟩ | ⟨_, hT7, hb7⟩
  · exact absurd rfl h7
  have hb7' : Below bt w6 w7 := hb7.below (by omega) (fun x hx e => by
    rcases e with e | e
    · omega
    · have := ((hT6.2.2.2.1 _ (bki_lt 17 src dst x0 x1)).lt x e).1; omega)
  have s7 := (hb7'.block g3 g3l).trans s6
  have t7 := (hb7'.block g4 g4l).trans t6
  have hwb : w.heap.size ≤ bt := HWB.out
  have L7 : Later w w7 := Below.trans L6 (hb7'.mono hwb)
  clear k6 s6 t6 hT6 hb7 L6 HPE hs6
  have k7 := block_cell t7
  have hky : kyp 17 x0 = x0 := rfl
  go_wp2_with fail
  refine (reverse_any 17 dst src x1 x0 w7).mono ?_
  rintro e w8 ⟨rfl, hl8⟩
  have l8 : Later w7 w8 := hl8
  have L8 := L7.trans l8
  have s8 := later_keep l8 s7
  have t8 := later_keep l8 t7
  have hT8 := TB.later hT7 l8
  clear k7 s7 t7 hT7 L7
  go_wp2_with fail
  refine (get_any bt bt 4 _ _ _ 17 src dst x0 x1 w8 hT8 hsr hds h0 h1).mono ?_
  rintro e w9 ⟨hl9, rfl⟩
  have l9 : Later w8 w9 := hl9
  have L9 := L8.trans l9
  have s9 := later_keep l9 s8
  have t9 := later_keep l9 t8
  have hT9 := TB.later hT8 l9
  rw [gtv_put rfl (by unfold isK; simp)]
  clear s8 t8 hT8 L8 l8 l9
  have k9 := block_cell t9
  go_wp2_with fail
  refine (get_any bt bt 4 _ _ _ 17 dst src x1 x0 w9 hT9 hds hsr h1 h0).mono ?_
  rintro e w10 ⟨hl10, rfl⟩
  have l10 : Later w9 w10 := hl10
  have L10 := L9.trans l10
  have s10 := later_keep l10 s9
  have t10 := later_keep l10 t9
  clear s9 t9 hT9 L9 k9
  have ks := block_cell s10
  have kt := block_cell t10
  by_cases heq : src = dst ∧ x0 = x1
  · obtain ⟨rfl, rfl⟩ := heq
    rw [gtv_put rfl (by unfold isK; simp)]
    go_wp2_with fail
    go_ret
    exact ⟨by simp, L10⟩
  · have hk2 : isK 17 dst src (kyp 17 x1) x0 ⟨17, src, dst, kyp 17 x0, x1, 7, 10, 0 + 1⟩ = false := by
      have e1 : kyp 17 x1 = x1 := rfl
      unfold isK
      rw [e1]
      simp
      intro h2 h3 h4
      exact absurd ⟨h2, h4⟩ heq
    rw [gtv_not rfl hk2]
    clear hk2
    by_cases hsd : src = dst
    · subst hsd
      have hx : ¬ x0 = x1 := fun e => heq ⟨rfl, e⟩
      have hx' : ¬ x1 = x0 := fun e => hx e.symm
      clear heq
      go_wp2_with fail
      go_ret
      exact ⟨by simp [hx, hx'], L10⟩
    · have hd' : ¬ dst = src := fun e => hsd e.symm
      clear heq
      go_wp2_with fail
      go_ret
      exact ⟨by simp [hsd, hd'], L10⟩

theorem walk_TopFlows (w : World) (hTb : Tb w) (src : Int) (hsr : 0 ≤ src ∧ src ≤ 4294967295) (dst : Int) (hds : 0 ≤ dst ∧ dst ≤ 4294967295) (x0 : Int) (h0 : 0 ≤ x0 ∧ x0 ≤ 65535) (x1 : Int) (h1 : 0 ≤ x1 ∧ x1 ≤ 65535) :
    Calls Tryd.prog 3 #[.int .u32 src, .int .u32 dst, .agg #[.int .u16 x0, .int .u16 x1]] w fun e w' => e = .returned (.bool true) ∧ Below w.heap.size w w' := flows_walk w hTb src dst x0 x1 hsr hds h0 h1
end Go.Proofs.YtfhcgollhifjlaaDoor
