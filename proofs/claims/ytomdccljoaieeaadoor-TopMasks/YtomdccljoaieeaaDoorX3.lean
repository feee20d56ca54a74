/- Several texts in one. -/
import Derived.Test.YtomdccljoaieeaaDoorX4
import Derived.Test.YtomdccljoaieeaaDoorX5
import Derived.Test.YtomdccljoaieeaaDoorW4
/- The document's ParseGre. -/
namespace Go.Proofs.YtomdccljoaieeaaDoor
open Go.RowKit Go.Shelf
set_option maxRecDepth 100000
set_option linter.unusedVariables false
set_option linter.unusedSimpArgs false

theorem bgo_parts (a b c d : Int) (h : bgo a b c d ≠ 4) : (a == 48) = ghs (bgo a b c d) ∧ (b == 129) = gha (bgo a b c d) := by
  unfold bgo at *
  cases a1 : (a == 32) <;> cases a2 : (a == 48) <;> cases b1 : (b == 1) <;> cases b2 : (b == 129) <;> cases c1 : (c == 136) <;> cases d1 : (d == 11) <;> simp [a1, a2, b1, b2, c1, d1, pick4, ghs, gha] at h ⊢
  all_goals first
    | (have e1 := beq_iff_eq.1 a1; have e2 := beq_iff_eq.1 a2; omega)
    | (have e1 := beq_iff_eq.1 b1; have e2 := beq_iff_eq.1 b2; omega)

end Go.Proofs.YtomdccljoaieeaaDoor

/- The document's kinds of messages; the walk of the law CtrlKinds. -/
namespace Go.Proofs.YtomdccljoaieeaaDoor
open Go.RowKit Go.Shelf
set_option maxRecDepth 100000
set_option linter.unusedVariables false
set_option linter.unusedSimpArgs false

end Go.Proofs.YtomdccljoaieeaaDoor

/- Layer 5: Of in one form; the document's Of. -/
namespace Go.Proofs.YtomdccljoaieeaaDoor
open Go.RowKit Go.Shelf
set_option maxRecDepth 100000
set_option linter.unusedVariables false
set_option linter.unusedSimpArgs false

def ofe (proto src dst : Int) (zd : List Int) : Int := if proto = 6 then pte 6 src dst zd else if proto = 17 then pue 17 src dst zd else if proto = 1 then oie zd else if proto = 47 then pge 47 zd else 12
def ofa (proto : Int) (zd : List Int) : Int := if proto = 6 then wat zd 0 else if proto = 17 then wat zd 0 else if proto = 1 then wat zd 4 else 0
def ofb (proto : Int) (zd : List Int) : Int := if proto = 6 then wat zd 2 else if proto = 17 then wat zd 2 else if proto = 1 then wat zd 4 else getAt2 zd 6

set_option maxHeartbeats 2000000 in
theorem of_any (tos id ttl proto src dst : Int) (keep : Bool) (so sd : Value) (zd : List Int) (w : World) (hT : Tb w) (hB : Mt.By zd) (hI : Rd w.heap.size w sd zd) (hl : 12 + zd.length ≤ 140737488355328) (hsr : 0 ≤ src ∧ src ≤ 4294967295) (hds : 0 ≤ dst ∧ dst ≤ 4294967295) :
    Calls Tryd.prog 10 #[.agg #[.int .u8 tos, .int .u16 id, .bool keep, .int .u8 ttl, .int .u8 proto, .int .u32 src, .int .u32 dst, so, sd]] w fun e w' => Below w.heap.size w w' ∧ e = .returned (.tuple #[otv (ofe proto src dst zd) proto src dst (ofa proto zd) (ofb proto zd), .int .i64 (ofe proto src dst zd)]) := by
  obtain ⟨ad, cd, rfl, _, _⟩ := hI.slice
  by_cases h6 : proto = 6
  · subst h6
    exact of_gen 6 (wat zd 0) (wat zd 2) (pte 6 src dst zd) _ _ tos id ttl src dst keep so ad zd.length cd w (fun _ _ h => look_tcp h) cf_tcp (fun w' hb => ofTcp_any tos id ttl 6 src dst keep so _ zd w' hB ((hI.below hb).mono hb.size) hl hsr hds)
  by_cases h17 : proto = 17
  · subst h17
    exact of_gen 17 (wat zd 0) (wat zd 2) (pue 17 src dst zd) _ _ tos id ttl src dst keep so ad zd.length cd w (fun _ _ h => look_udp h) cf_udp (fun w' hb => ofUdp_any tos id ttl 17 src dst keep so _ zd w' hB ((hI.below hb).mono hb.size) hl hsr hds)
  by_cases h1 : proto = 1
  · subst h1
    exact of_gen 1 (wat zd 4) (wat zd 4) (oie zd) _ _ tos id ttl src dst keep so ad zd.length cd w (fun _ _ h => look_icmp h) cf_icmp (fun w' hb => ofIcmp_any tos id ttl src dst keep so _ zd w' hB ((hI.below hb).mono hb.size) (by omega))
  by_cases h47 : proto = 47
  · subst h47
    exact of_gen 47 0 (getAt2 zd 6) (pge 47 zd) _ _ tos id ttl src dst keep so ad zd.length cd w (fun _ _ h => look_gre h) cf_gre (fun w' hb => ofGre_any tos id ttl 47 src dst keep so _ zd w' (hT.below hb hT.pos) hB ((hI.below hb).mono hb.size) hl hsr hds)
  have he : ofe proto src dst zd = 12 := by unfold ofe; rw [if_neg h6, if_neg h17, if_neg h1, if_neg h47]
  rw [he]
  exact of_other proto tos id ttl src dst keep so ad zd.length cd w ⟨h6, h17, h1, h47⟩

end Go.Proofs.YtomdccljoaieeaaDoor

/- One bit turned: bytes whose check sum was good are good no more. -/
namespace Go.Proofs.YtomdccljoaieeaaDoor
open Go.RowKit
set_option maxRecDepth 100000
set_option linter.unusedVariables false

theorem nat_flip : ∀ r < 8, ∀ n < 256, (n ^^^ 2 ^ r = n + 2 ^ r ∨ n = (n ^^^ 2 ^ r) + 2 ^ r) ∧ n ^^^ 2 ^ r < 256 := by decide +kernel
theorem u8_flip (z : Int) (hz : 0 ≤ z ∧ z ≤ 255) (r : Nat) (hr : r < 8) (p : Int) (hp : p = ((2 ^ r : Nat) : Int)) : (bits .xor .u8 z p = z + p ∨ bits .xor .u8 z p = z - p) ∧ 0 ≤ bits .xor .u8 z p ∧ bits .xor .u8 z p ≤ 255 := by
  obtain ⟨n, rfl⟩ := Int.eq_ofNat_of_zero_le hz.1
  subst hp
  have h2 : 2 ^ r < 256 := by
    have : r = 0 ∨ r = 1 ∨ r = 2 ∨ r = 3 ∨ r = 4 ∨ r = 5 ∨ r = 6 ∨ r = 7 := by omega
    rcases this with rfl | rfl | rfl | rfl | rfl | rfl | rfl | rfl <;> decide
  have e : bits .xor .u8 (n : Int) ((2 ^ r : Nat) : Int) = ((n ^^^ 2 ^ r : Nat) : Int) := u8_xor_nat n (2 ^ r) (by omega) h2
  obtain ⟨h3, h4⟩ := nat_flip r hr n (by omega)
  rw [e]
  refine ⟨?_, by omega, by omega⟩
  rcases h3 with h3 | h3
  · left; omega
  · right; omega
theorem cks_flip (zs : List Int) (hg : Mt.cks zs = 0) (j : Nat) (hj : j < zs.length) (r : Nat) (hr : r < 8) (y : Int) (hy : y = zs[j]?.getD 0 + ((2 ^ r : Nat) : Int) ∨ y = zs[j]?.getD 0 - ((2 ^ r : Nat) : Int)) : Mt.cks (zs.set j y) ≠ 0 := by
  intro h0
  have hrr : r = 0 ∨ r = 1 ∨ r = 2 ∨ r = 3 ∨ r = 4 ∨ r = 5 ∨ r = 6 ∨ r = 7 := by omega
  have hp : ((2 ^ r : Nat) : Int) = 1 ∨ ((2 ^ r : Nat) : Int) = 2 ∨ ((2 ^ r : Nat) : Int) = 4 ∨ ((2 ^ r : Nat) : Int) = 8 ∨ ((2 ^ r : Nat) : Int) = 16 ∨ ((2 ^ r : Nat) : Int) = 32 ∨ ((2 ^ r : Nat) : Int) = 64 ∨ ((2 ^ r : Nat) : Int) = 128 := by
    rcases hrr with rfl | rfl | rfl | rfl | rfl | rfl | rfl | rfl <;> simp
  generalize ((2 ^ r : Nat) : Int) = p at *
  have hg1 := Mt.fd_eq _ (show Mt.fd (Mt.tw true zs) = 65535 from by unfold Mt.cks at hg; omega)
  have hg2 := Mt.fd_eq _ (show Mt.fd (Mt.tw true (zs.set j y)) = 65535 from by unfold Mt.cks at h0; omega)
  rw [Mt.tw_set true _ j y hj] at hg2
  generalize zs[j]?.getD 0 = z at *
  generalize Mt.tw true zs = T at *
  have hd : y - z = p ∨ y - z = -p := by omega
  generalize y - z = d at *
  by_cases htu : Mt.turn true j = true
  · rw [if_pos htu] at hg2
    omega
  · rw [if_neg htu] at hg2
    omega
end Go.Proofs.YtomdccljoaieeaaDoor

/- What is parsed of a segment, a datagram that was built; one bit of an address turned. -/
namespace Go.Proofs.YtomdccljoaieeaaDoor
open Go.RowKit
set_option maxRecDepth 100000
set_option linter.unusedVariables false
set_option linter.unusedSimpArgs false

theorem flt_fit2 {lo ld : Nat} (hf : flt lo ld = 0) : lo ≤ 40 ∧ lo % 4 = 0 ∧ 20 + lo + ld ≤ 65535 := by
  unfold flt at hf
  split at hf <;> first | omega | (split at hf <;> omega)
theorem bte_fit {os : List Opt} {lo lm : Nat} (h : bte os lo lm = 0) : obOk os ∧ lo ≤ 40 ∧ lo % 4 = 0 ∧ 20 + lo + (20 + (pad (obs os)).length + lm) ≤ 65535 := by
  unfold bte at h
  split at h
  · exact ⟨by assumption, flt_fit2 h⟩
  · omega
/-- The sum of what stands ahead. -/
theorem tw_psd_app (s d p n : Int) (zs : List Int) : Mt.tw true (psd s d p n ++ zs) = Mt.tw true (psd s d p n) + Mt.tw true zs := by
  rw [Mt.tw_append, psd_length]
  rfl
/-- A check sum put at an even place where 0 stood makes the bytes good, also with what stands ahead of them. -/
theorem good_put (s d p n : Int) (zs : List Int) (k : Nat) (hB : Mt.By (psd s d p n ++ zs)) (hk : k % 2 = 0) (hl : k + 1 < zs.length) (h0 : zs[k]?.getD 0 = 0) (h1 : zs[k + 1]?.getD 0 = 0) : Mt.cks (psd s d p n ++ Mt.put2 zs k (Mt.cks (psd s d p n ++ zs))) = 0 := by
  have hn := Mt.tw_nonneg true _ hB
  have hg := Mt.fd_good _ hn
  rw [tw_psd_app] at hn hg
  unfold Mt.cks
  rw [tw_psd_app, Mt.tw_put2 zs k _ hk hl, h0, h1, tw_psd_app]
  rw [show Mt.tw true (psd s d p n) + (Mt.tw true zs + (65535 - Mt.fd (Mt.tw true (psd s d p n) + Mt.tw true zs)) - (0 * 256 + 0)) = Mt.tw true (psd s d p n) + Mt.tw true zs + (65535 - Mt.fd (Mt.tw true (psd s d p n) + Mt.tw true zs)) from by omega, hg]
  rfl
theorem good_put5 (s d p n : Int) (zs : List Int) (k : Nat) (hB : Mt.By (psd s d p n ++ zs)) (hk : k % 2 = 0) (hl : k + 1 < zs.length) (h0 : zs[k]?.getD 0 = 0) (h1 : zs[k + 1]?.getD 0 = 0) (hc : Mt.cks (psd s d p n ++ zs) = 0) : Mt.cks (psd s d p n ++ Mt.put2 zs k 65535) = 0 := by
  have hg := Mt.fd_eq _ (show Mt.fd (Mt.tw true (psd s d p n ++ zs)) = 65535 from by unfold Mt.cks at hc; omega)
  rw [tw_psd_app] at hg
  unfold Mt.cks
  rw [tw_psd_app, Mt.tw_put2 zs k _ hk hl, h0, h1, Mt.fd_of _ (by omega) (by omega)]
  rfl

section
variable (sp dp sq ak fl wn ur : Int) (ob : List Int) (src dst : Int) (zd : List Int)
def hd20 (c : Int) : List Int := Mt.put2 ([sp, dp].flatMap b2 ++ [sq, ak].flatMap b4 ++ [(20 + (ob.length : Int)) / 4 * 16, fl] ++ [wn, 0, ur].flatMap b2) 16 c
theorem hd20_length (c : Int) : (hd20 sp dp sq ak fl wn ur ob c).length = 20 := by simp [hd20, Mt.put2_length, b2, b4]
theorem tcp_split : tcp sp dp sq ak fl wn ur ob src dst zd = hd20 sp dp sq ak fl wn ur ob (Mt.cks (psd src dst 6 (20 + ob.length + zd.length : Nat) ++ tcp0 sp dp sq ak fl wn ur ob zd)) ++ (ob ++ zd) := by
  unfold tcp hd20
  generalize Mt.cks (psd src dst 6 (20 + ob.length + zd.length : Nat) ++ tcp0 sp dp sq ak fl wn ur ob zd) = c
  simp [tcp0, Mt.put2, b2, b4]
theorem tcp_drop (h : Nat) (hh : h = 20 + ob.length) : (tcp sp dp sq ak fl wn ur ob src dst zd).drop h = zd := by
  subst hh
  rw [tcp_split, List.drop_append, hd20_length, List.drop_of_length_le (by rw [hd20_length]; omega), List.nil_append, show 20 + ob.length - 20 = ob.length from by omega, List.drop_left]
theorem tcp_opt (h : Nat) (hh : h = 20 + ob.length) : ((tcp sp dp sq ak fl wn ur ob src dst zd).drop 20).take (h - 20) = ob := by
  subst hh
  rw [tcp_split, List.drop_append, hd20_length, List.drop_of_length_le (by rw [hd20_length]; omega), List.nil_append, Nat.sub_self, List.drop_zero, show 20 + ob.length - 20 = ob.length from by omega, List.take_left]
theorem tcp_at (j : Nat) (hj : j < 20) : (tcp sp dp sq ak fl wn ur ob src dst zd)[j]?.getD 0 = (hd20 sp dp sq ak fl wn ur ob (Mt.cks (psd src dst 6 (20 + ob.length + zd.length : Nat) ++ tcp0 sp dp sq ak fl wn ur ob zd)))[j]?.getD 0 := by
  rw [tcp_split, List.getElem?_append_left (by rw [hd20_length]; exact hj)]
theorem tcp_12 : (tcp sp dp sq ak fl wn ur ob src dst zd)[12]?.getD 0 = (20 + (ob.length : Int)) / 4 * 16 := by rw [tcp_at _ _ _ _ _ _ _ _ _ _ _ 12 (by omega)]; simp [hd20, Mt.put2, b2, b4]
theorem tcp_13 : (tcp sp dp sq ak fl wn ur ob src dst zd)[13]?.getD 0 = fl := by rw [tcp_at _ _ _ _ _ _ _ _ _ _ _ 13 (by omega)]; simp [hd20, Mt.put2, b2, b4]
theorem tcp_thd (h4 : ob.length % 4 = 0) : thd (tcp sp dp sq ak fl wn ur ob src dst zd) = 20 + (ob.length : Int) := by unfold thd; rw [tcp_12]; omega
theorem tcp_wat (j : Nat) (hj : j + 1 < 20) : wat (tcp sp dp sq ak fl wn ur ob src dst zd) j = wat (hd20 sp dp sq ak fl wn ur ob (Mt.cks (psd src dst 6 (20 + ob.length + zd.length : Nat) ++ tcp0 sp dp sq ak fl wn ur ob zd))) j := by
  unfold wat
  rw [tcp_at _ _ _ _ _ _ _ _ _ _ _ j (by omega), tcp_at _ _ _ _ _ _ _ _ _ _ _ (j + 1) hj]
theorem tcp_w0 : wat (tcp sp dp sq ak fl wn ur ob src dst zd) 0 = sp := by rw [tcp_wat _ _ _ _ _ _ _ _ _ _ _ 0 (by omega)]; simp [wat, hd20, Mt.put2, b2, b4]; omega
theorem tcp_w2 : wat (tcp sp dp sq ak fl wn ur ob src dst zd) 2 = dp := by rw [tcp_wat _ _ _ _ _ _ _ _ _ _ _ 2 (by omega)]; simp [wat, hd20, Mt.put2, b2, b4]; omega
theorem tcp_w14 : wat (tcp sp dp sq ak fl wn ur ob src dst zd) 14 = wn := by rw [tcp_wat _ _ _ _ _ _ _ _ _ _ _ 14 (by omega)]; simp [wat, hd20, Mt.put2, b2, b4]; omega
theorem tcp_w18 : wat (tcp sp dp sq ak fl wn ur ob src dst zd) 18 = ur := by rw [tcp_wat _ _ _ _ _ _ _ _ _ _ _ 18 (by omega)]; simp [wat, hd20, Mt.put2, b2, b4]; omega
theorem tcp_w4 : wat4 (tcp sp dp sq ak fl wn ur ob src dst zd) 4 = sq := by unfold wat4; rw [tcp_wat _ _ _ _ _ _ _ _ _ _ _ 4 (by omega), tcp_wat _ _ _ _ _ _ _ _ _ _ _ (4 + 2) (by omega)]; simp [wat, hd20, Mt.put2, b2, b4]; omega
theorem tcp_w8 : wat4 (tcp sp dp sq ak fl wn ur ob src dst zd) 8 = ak := by unfold wat4; rw [tcp_wat _ _ _ _ _ _ _ _ _ _ _ 8 (by omega), tcp_wat _ _ _ _ _ _ _ _ _ _ _ (8 + 2) (by omega)]; simp [wat, hd20, Mt.put2, b2, b4]; omega
theorem tcp_good (hs : 0 ≤ src ∧ src ≤ 4294967295) (hd : 0 ≤ dst ∧ dst ≤ 4294967295) (hB : Mt.By (tcp0 sp dp sq ak fl wn ur ob zd)) : Mt.cks (psd src dst 6 (20 + ob.length + zd.length : Nat) ++ tcp sp dp sq ak fl wn ur ob src dst zd) = 0 :=
  good_put src dst 6 _ _ 16 ((By_psd src dst 6 _ hs hd (by omega)).append hB) (by omega) (by rw [tcp0_length]; omega) (by simp [tcp0, b2, b4]) (by simp [tcp0, b2, b4])
theorem tcp_ptc (proto : Int) (hp : proto = 6) (s d : Int) (h4 : ob.length % 4 = 0) (h40 : ob.length ≤ 40) : ptc proto s d (tcp sp dp sq ak fl wn ur ob src dst zd) = if Mt.cks (psd s d 6 (20 + ob.length + zd.length : Nat) ++ tcp sp dp sq ak fl wn ur ob src dst zd) ≠ 0 then 5 else 0 := by
  unfold ptc
  rw [if_neg (by simp [hp]), tcp_length, if_neg (by omega), tcp_thd _ _ _ _ _ _ _ _ _ _ _ h4, tcp_12, if_neg (by omega), if_neg (by omega)]
end
theorem tcp_hop (sp dp sq ak fl wn ur : Int) (ob : List Int) (src dst : Int) (zd : List Int) (h4 : ob.length % 4 = 0) : hop (tcp sp dp sq ak fl wn ur ob src dst zd) = ob := by
  unfold hop
  rw [tcp_thd _ _ _ _ _ _ _ _ _ _ _ h4]
  exact tcp_opt _ _ _ _ _ _ _ _ _ _ _ _ (by omega)
theorem tcp_pte (sp dp sq ak fl wn ur : Int) (os : List Opt) (src dst : Int) (zd : List Int) (hok : obOk os) (hs : 0 ≤ src ∧ src ≤ 4294967295) (hd : 0 ≤ dst ∧ dst ≤ 4294967295) (hB : Mt.By (tcp0 sp dp sq ak fl wn ur (pad (obs os)) zd)) :
    pte 6 src dst (tcp sp dp sq ak fl wn ur (pad (obs os)) src dst zd) = 0 ∧ opts (hop (tcp sp dp sq ak fl wn ur (pad (obs os)) src dst zd)) = some os := by
  have h1 : ptc 6 src dst (tcp sp dp sq ak fl wn ur (pad (obs os)) src dst zd) = 0 := by
    rw [tcp_ptc _ _ _ _ _ _ _ _ _ _ _ 6 rfl src dst (pad_mod _) (pad_le _ hok.2), if_neg (by rw [tcp_good _ _ _ _ _ _ _ _ _ _ _ hs hd hB]; simp)]
  have h2 : opts (hop (tcp sp dp sq ak fl wn ur (pad (obs os)) src dst zd)) = some os := by rw [tcp_hop _ _ _ _ _ _ _ _ _ _ _ (pad_mod _)]; exact opts_pad os hok
  refine ⟨?_, h2⟩
  unfold pte
  rw [if_neg (by simp [h1]), h2]
  rfl

section
variable (sp dp : Int) (bare : Bool) (src dst : Int) (zm : List Int)
theorem udp_at (j : Nat) (h6 : j ≠ 6) (h7 : j ≠ 7) : (udp sp dp bare src dst zm)[j]?.getD 0 = (udp0 sp dp zm)[j]?.getD 0 := by
  unfold udp
  split
  · rfl
  · rw [Mt.put2_other _ _ _ _ h6 h7]
theorem udp_w0 : wat (udp sp dp bare src dst zm) 0 = sp := by unfold wat; rw [udp_at _ _ _ _ _ _ 0 (by omega) (by omega), udp_at _ _ _ _ _ _ (0 + 1) (by omega) (by omega)]; simp [udp0, b2]; omega
theorem udp_w2 : wat (udp sp dp bare src dst zm) 2 = dp := by unfold wat; rw [udp_at _ _ _ _ _ _ 2 (by omega) (by omega), udp_at _ _ _ _ _ _ (2 + 1) (by omega) (by omega)]; simp [udp0, b2]; omega
theorem udp_w4 (h : 8 + zm.length ≤ 65535) : wat (udp sp dp bare src dst zm) 4 = 8 + zm.length := by unfold wat; rw [udp_at _ _ _ _ _ _ 4 (by omega) (by omega), udp_at _ _ _ _ _ _ (4 + 1) (by omega) (by omega)]; simp [udp0, b2]; omega
theorem udp_drop : (udp sp dp bare src dst zm).drop 8 = zm := by
  unfold udp
  split
  · simp [udp0, b2]
  · simp [udp0, b2, Mt.put2]
theorem udp_w6 : wat (udp sp dp bare src dst zm) 6 = if bare then 0 else usm src dst 17 (udp0 sp dp zm) := by
  unfold udp
  cases bare with
  | true => simp [wat, udp0, b2]
  | false =>
    simp only [Bool.false_eq_true, if_false]
    unfold wat
    have := Mt.put2_at (udp0 sp dp zm) 6 (usm src dst 17 (udp0 sp dp zm)) (by rw [udp0_length]; omega)
    rw [this.1, this.2]
    omega
theorem udp_good (hs : 0 ≤ src ∧ src ≤ 4294967295) (hd : 0 ≤ dst ∧ dst ≤ 4294967295) (hB : Mt.By (udp0 sp dp zm)) : Mt.cks (psd src dst 17 (8 + zm.length : Nat) ++ udp sp dp false src dst zm) = 0 := by
  unfold udp
  simp only [Bool.false_eq_true, if_false]
  have hBB := (By_psd src dst 17 (8 + zm.length : Nat) hs hd (by omega)).append hB
  have hz : (udp0 sp dp zm)[6]?.getD 0 = 0 ∧ (udp0 sp dp zm)[6 + 1]?.getD 0 = 0 := ⟨by simp [udp0, b2], by simp [udp0, b2]⟩
  unfold usm
  rw [udp0_length]
  split
  · exact good_put5 src dst 17 _ _ 6 hBB (by omega) (by rw [udp0_length]; omega) hz.1 hz.2 (by assumption)
  · exact good_put src dst 17 _ _ 6 hBB (by omega) (by rw [udp0_length]; omega) hz.1 hz.2
theorem udp_pue (proto : Int) (hp : proto = 17) (s d : Int) (h : 8 + zm.length ≤ 65535) : pue proto s d (udp sp dp bare src dst zm) = if bare = false ∧ Mt.cks (psd s d 17 (8 + zm.length : Nat) ++ udp sp dp bare src dst zm) ≠ 0 then 5 else 0 := by
  unfold pue
  have hb := usm_bd src dst 17 (udp0 sp dp zm)
  rw [if_neg (by simp [hp]), udp_length, if_neg (by omega), udp_w4 _ _ _ _ _ _ h, if_neg (by simp), udp_w6]
  cases bare with
  | true => simp
  | false =>
    simp only [Bool.false_eq_true, if_false, true_and]
    congr 1
    simp only [eq_iff_iff]
    exact ⟨fun h => h.2, fun h => ⟨by omega, h⟩⟩
end

/-- One bit of an address turned is one bit of what stands ahead. -/
theorem pw_bytes : ∀ r < 32, ∀ k ∈ [0, 8, 16, 24], 2 ^ r / 2 ^ k % 2 ^ 8 = if r / 8 * 8 = k then 2 ^ (r % 8) else 0 := by decide +kernel
theorem xor_byte (x r k : Nat) (hr : r < 32) (hk : k ∈ [0, 8, 16, 24]) : (x ^^^ 2 ^ r) / 2 ^ k % 2 ^ 8 = if r / 8 * 8 = k then (x / 2 ^ k % 2 ^ 8) ^^^ 2 ^ (r % 8) else x / 2 ^ k % 2 ^ 8 := by
  rw [Nat.xor_div_two_pow, Nat.xor_mod_two_pow, pw_bytes r hr k hk]
  split <;> simp
theorem xor_lt32 (x r : Nat) (hx : x < 4294967296) (hr : r < 32) : x ^^^ 2 ^ r < 4294967296 := Nat.xor_lt_two_pow (n := 32) hx (Nat.pow_lt_pow_right (by omega) hr)
theorem flip_byte (n r : Nat) (hn : n < 256) (hr : r < 8) : ((n ^^^ 2 ^ r : Nat) : Int) = (n : Int) + ((2 ^ r : Nat) : Int) ∨ ((n ^^^ 2 ^ r : Nat) : Int) = (n : Int) - ((2 ^ r : Nat) : Int) := by
  obtain ⟨h, _⟩ := nat_flip r hr n hn
  omega
theorem psd_src (x r : Nat) (hx : x < 4294967296) (hr : r < 32) (d p n : Int) : ∃ j y, j < 12 ∧ psd ((x ^^^ 2 ^ r : Nat) : Int) d p n = (psd (x : Int) d p n).set j y ∧ (y = (psd (x : Int) d p n)[j]?.getD 0 + ((2 ^ (r % 8) : Nat) : Int) ∨ y = (psd (x : Int) d p n)[j]?.getD 0 - ((2 ^ (r % 8) : Nat) : Int)) := by
  have hl := xor_lt32 x r hx hr
  have k0 := xor_byte x r 0 hr (by simp)
  have k1 := xor_byte x r 8 hr (by simp)
  have k2 := xor_byte x r 16 hr (by simp)
  have k3 := xor_byte x r 24 hr (by simp)
  generalize x ^^^ 2 ^ r = x' at *
  simp only [Nat.reducePow, Nat.div_one] at k0 k1 k2 k3
  have h4 : r / 8 = 0 ∨ r / 8 = 1 ∨ r / 8 = 2 ∨ r / 8 = 3 := by omega
  rcases h4 with h | h | h | h <;> rw [h] at k0 k1 k2 k3 <;> simp at k0 k1 k2 k3
  · have f := flip_byte (x % 256) (r % 8) (by omega) (by omega)
    refine ⟨3, ((((x % 256) ^^^ 2 ^ (r % 8) : Nat)) : Int), by omega, ?_, ?_⟩
    · generalize (x % 256) ^^^ 2 ^ (r % 8) = q at *
      simp only [psd, List.set_cons_succ, List.set_cons_zero, List.cons.injEq, and_true, true_and]
      omega
    · generalize (x % 256) ^^^ 2 ^ (r % 8) = q at *
      generalize ((2 ^ (r % 8) : Nat) : Int) = t at *
      simp only [psd, List.getElem?_cons_succ, List.getElem?_cons_zero, Option.getD_some]
      omega
  · have f := flip_byte (x / 256 % 256) (r % 8) (by omega) (by omega)
    refine ⟨2, ((((x / 256 % 256) ^^^ 2 ^ (r % 8) : Nat)) : Int), by omega, ?_, ?_⟩
    · generalize (x / 256 % 256) ^^^ 2 ^ (r % 8) = q at *
      simp only [psd, List.set_cons_succ, List.set_cons_zero, List.cons.injEq, and_true, true_and]
      omega
    · generalize (x / 256 % 256) ^^^ 2 ^ (r % 8) = q at *
      generalize ((2 ^ (r % 8) : Nat) : Int) = t at *
      simp only [psd, List.getElem?_cons_succ, List.getElem?_cons_zero, Option.getD_some]
      omega
  · have f := flip_byte (x / 65536 % 256) (r % 8) (by omega) (by omega)
    refine ⟨1, ((((x / 65536 % 256) ^^^ 2 ^ (r % 8) : Nat)) : Int), by omega, ?_, ?_⟩
    · generalize (x / 65536 % 256) ^^^ 2 ^ (r % 8) = q at *
      simp only [psd, List.set_cons_succ, List.set_cons_zero, List.cons.injEq, and_true, true_and]
      omega
    · generalize (x / 65536 % 256) ^^^ 2 ^ (r % 8) = q at *
      generalize ((2 ^ (r % 8) : Nat) : Int) = t at *
      simp only [psd, List.getElem?_cons_succ, List.getElem?_cons_zero, Option.getD_some]
      omega
  · have f := flip_byte (x / 16777216 % 256) (r % 8) (by omega) (by omega)
    refine ⟨0, ((((x / 16777216 % 256) ^^^ 2 ^ (r % 8) : Nat)) : Int), by omega, ?_, ?_⟩
    · generalize (x / 16777216 % 256) ^^^ 2 ^ (r % 8) = q at *
      simp only [psd, List.set_cons_succ, List.set_cons_zero, List.cons.injEq, and_true, true_and]
      omega
    · generalize (x / 16777216 % 256) ^^^ 2 ^ (r % 8) = q at *
      generalize ((2 ^ (r % 8) : Nat) : Int) = t at *
      simp only [psd, List.getElem?_cons_succ, List.getElem?_cons_zero, Option.getD_some]
      omega
theorem psd_dst (x r : Nat) (hx : x < 4294967296) (hr : r < 32) (s p n : Int) : ∃ j y, j < 12 ∧ psd s ((x ^^^ 2 ^ r : Nat) : Int) p n = (psd s (x : Int) p n).set j y ∧ (y = (psd s (x : Int) p n)[j]?.getD 0 + ((2 ^ (r % 8) : Nat) : Int) ∨ y = (psd s (x : Int) p n)[j]?.getD 0 - ((2 ^ (r % 8) : Nat) : Int)) := by
  have hl := xor_lt32 x r hx hr
  have k0 := xor_byte x r 0 hr (by simp)
  have k1 := xor_byte x r 8 hr (by simp)
  have k2 := xor_byte x r 16 hr (by simp)
  have k3 := xor_byte x r 24 hr (by simp)
  generalize x ^^^ 2 ^ r = x' at *
  simp only [Nat.reducePow, Nat.div_one] at k0 k1 k2 k3
  have h4 : r / 8 = 0 ∨ r / 8 = 1 ∨ r / 8 = 2 ∨ r / 8 = 3 := by omega
  rcases h4 with h | h | h | h <;> rw [h] at k0 k1 k2 k3 <;> simp at k0 k1 k2 k3
  · have f := flip_byte (x % 256) (r % 8) (by omega) (by omega)
    refine ⟨7, ((((x % 256) ^^^ 2 ^ (r % 8) : Nat)) : Int), by omega, ?_, ?_⟩
    · generalize (x % 256) ^^^ 2 ^ (r % 8) = q at *
      simp only [psd, List.set_cons_succ, List.set_cons_zero, List.cons.injEq, and_true, true_and]
      omega
    · generalize (x % 256) ^^^ 2 ^ (r % 8) = q at *
      generalize ((2 ^ (r % 8) : Nat) : Int) = t at *
      simp only [psd, List.getElem?_cons_succ, List.getElem?_cons_zero, Option.getD_some]
      omega
  · have f := flip_byte (x / 256 % 256) (r % 8) (by omega) (by omega)
    refine ⟨6, ((((x / 256 % 256) ^^^ 2 ^ (r % 8) : Nat)) : Int), by omega, ?_, ?_⟩
    · generalize (x / 256 % 256) ^^^ 2 ^ (r % 8) = q at *
      simp only [psd, List.set_cons_succ, List.set_cons_zero, List.cons.injEq, and_true, true_and]
      omega
    · generalize (x / 256 % 256) ^^^ 2 ^ (r % 8) = q at *
      generalize ((2 ^ (r % 8) : Nat) : Int) = t at *
      simp only [psd, List.getElem?_cons_succ, List.getElem?_cons_zero, Option.getD_some]
      omega
  · have f := flip_byte (x / 65536 % 256) (r % 8) (by omega) (by omega)
    refine ⟨5, ((((x / 65536 % 256) ^^^ 2 ^ (r % 8) : Nat)) : Int), by omega, ?_, ?_⟩
    · generalize (x / 65536 % 256) ^^^ 2 ^ (r % 8) = q at *
      simp only [psd, List.set_cons_succ, List.set_cons_zero, List.cons.injEq, and_true, true_and]
      omega
    · generalize (x / 65536 % 256) ^^^ 2 ^ (r % 8) = q at *
      generalize ((2 ^ (r % 8) : Nat) : Int) = t at *
      simp only [psd, List.getElem?_cons_succ, List.getElem?_cons_zero, Option.getD_some]
      omega
  · have f := flip_byte (x / 16777216 % 256) (r % 8) (by omega) (by omega)
    refine ⟨4, ((((x / 16777216 % 256) ^^^ 2 ^ (r % 8) : Nat)) : Int), by omega, ?_, ?_⟩
    · generalize (x / 16777216 % 256) ^^^ 2 ^ (r % 8) = q at *
      simp only [psd, List.set_cons_succ, List.set_cons_zero, List.cons.injEq, and_true, true_and]
      omega
    · generalize (x / 16777216 % 256) ^^^ 2 ^ (r % 8) = q at *
      generalize ((2 ^ (r % 8) : Nat) : Int) = t at *
      simp only [psd, List.getElem?_cons_succ, List.getElem?_cons_zero, Option.getD_some]
      omega

/-- So its sum is good no more. -/
theorem psd_bad {s d s' d' p n : Int} {zs : List Int} {r : Nat} (h : ∃ j y, j < 12 ∧ psd s' d' p n = (psd s d p n).set j y ∧ (y = (psd s d p n)[j]?.getD 0 + ((2 ^ (r % 8) : Nat) : Int) ∨ y = (psd s d p n)[j]?.getD 0 - ((2 ^ (r % 8) : Nat) : Int))) (hg : Mt.cks (psd s d p n ++ zs) = 0) : Mt.cks (psd s' d' p n ++ zs) ≠ 0 := by
  obtain ⟨j, y, hj, he, hy⟩ := h
  rw [he, ← List.set_append_left _ _ (by rw [psd_length]; exact hj)]
  refine cks_flip _ hg j (by rw [List.length_append, psd_length]; omega) (r % 8) (by omega) y ?_
  rw [List.getElem?_append_left (by rw [psd_length]; exact hj)]
  exact hy
/-- A bit turned in a number of 32. -/
theorem u32_bit (s : Int) (hs : 0 ≤ s ∧ s ≤ 4294967295) (r : Nat) (hr : r < 32) (p : Int) (hp : p = ((2 ^ r : Nat) : Int)) : ∃ x : Nat, s = x ∧ x < 4294967296 ∧ bits .xor .u32 s p = ((x ^^^ 2 ^ r : Nat) : Int) ∧ (0 ≤ bits .xor .u32 s p ∧ bits .xor .u32 s p ≤ 4294967295) := by
  obtain ⟨x, rfl⟩ := Int.eq_ofNat_of_zero_le hs.1
  subst hp
  have h2 : 2 ^ r < 2 ^ 32 := Nat.pow_lt_pow_right (by omega) hr
  rw [show 2 ^ 32 = 4294967296 from rfl] at h2
  have e := u32_xor_nat x (2 ^ r) (by omega) h2
  have hl := xor_lt32 x r (by omega) hr
  refine ⟨x, rfl, by omega, e, ?_⟩
  rw [e]
  omega
end Go.Proofs.YtomdccljoaieeaaDoor

/- Layer 10: bytes that are rewritten, and what they tell. -/
namespace Go.Proofs.YtomdccljoaieeaaDoor
open Go.RowKit Go.Shelf
set_option maxRecDepth 100000
set_option linter.unusedVariables false
set_option linter.unusedSimpArgs false

/-- Both ports changed. -/
def prt (a b : Int) (zs : List Int) : List Int := Mt.put2 (Mt.put2 zs 0 a) 2 b
/-- A datagram's check sum is never 0. -/
def nbr (x : Int) : Int := if x = 0 then 65535 else x
/-- A segment, a datagram, a message, a frame with another tuple. -/
def rwT (s d a b : Int) (zs : List Int) : List Int := Mt.put2 (Mt.put2 (prt a b zs) 16 0) 16 (Mt.cks (psd s d 6 zs.length ++ Mt.put2 (prt a b zs) 16 0))
def rwU (s d a b : Int) (zs : List Int) : List Int := if wat zs 6 = 0 then prt a b zs else Mt.put2 (Mt.put2 (prt a b zs) 6 0) 6 (nbr (Mt.cks (psd s d 17 zs.length ++ Mt.put2 (prt a b zs) 6 0)))
def rwI (a : Int) (zs : List Int) : List Int := Mt.put2 (Mt.put2 (Mt.put2 zs 4 a) 2 0) 2 (Mt.cks (Mt.put2 (Mt.put2 zs 4 a) 2 0))
def rwG (b : Int) (zs : List Int) : List Int := Mt.put2 zs 6 b
def rwD (pr s d a b : Int) (zs : List Int) : List Int := if pr = 6 then rwT s d a b zs else if pr = 17 then rwU s d a b zs else if pr = 1 then rwI a zs else rwG b zs

theorem nbr_bd {x : Int} (h : 0 ≤ x ∧ x ≤ 65535) : 0 < nbr x ∧ nbr x ≤ 65535 := by unfold nbr; split <;> omega
theorem prt_length (a b : Int) (zs : List Int) : (prt a b zs).length = zs.length := by simp [prt, Mt.put2_length]
theorem prt_by {a b : Int} {zs : List Int} (h : Mt.By zs) (ha : 0 ≤ a ∧ a ≤ 65535) (hb : 0 ≤ b ∧ b ≤ 65535) : Mt.By (prt a b zs) := (h.put2 0 ha).put2 2 hb
theorem prt_other (a b : Int) (zs : List Int) (j : Nat) (h : 4 ≤ j) : (prt a b zs)[j]? = zs[j]? := by
  unfold prt
  rw [Mt.put2_other _ _ _ _ (by omega) (by omega), Mt.put2_other _ _ _ _ (by omega) (by omega)]
theorem rwT_length (s d a b : Int) (zs : List Int) : (rwT s d a b zs).length = zs.length := by simp [rwT, Mt.put2_length, prt_length]
theorem rwU_length (s d a b : Int) (zs : List Int) : (rwU s d a b zs).length = zs.length := by unfold rwU; split <;> simp [Mt.put2_length, prt_length]
theorem rwI_length (a : Int) (zs : List Int) : (rwI a zs).length = zs.length := by simp [rwI, Mt.put2_length]
theorem rwD_length (pr s d a b : Int) (zs : List Int) : (rwD pr s d a b zs).length = zs.length := by
  unfold rwD
  split
  · exact rwT_length ..
  split
  · exact rwU_length ..
  split
  · exact rwI_length ..
  · exact Mt.put2_length ..
theorem rwT_by {s d a b : Int} {zs : List Int} (h : Mt.By zs) (ha : 0 ≤ a ∧ a ≤ 65535) (hb : 0 ≤ b ∧ b ≤ 65535) : Mt.By (rwT s d a b zs) := ((prt_by h ha hb).put2 16 (by omega)).put2 16 (Mt.cks_bd _)
theorem rwU_by {s d a b : Int} {zs : List Int} (h : Mt.By zs) (ha : 0 ≤ a ∧ a ≤ 65535) (hb : 0 ≤ b ∧ b ≤ 65535) : Mt.By (rwU s d a b zs) := by
  unfold rwU
  split
  · exact prt_by h ha hb
  · have := nbr_bd (Mt.cks_bd (psd s d 17 zs.length ++ Mt.put2 (prt a b zs) 6 0))
    exact ((prt_by h ha hb).put2 6 (by omega)).put2 6 (by omega)
theorem rwI_by {a : Int} {zs : List Int} (h : Mt.By zs) (ha : 0 ≤ a ∧ a ≤ 65535) : Mt.By (rwI a zs) := ((h.put2 4 ha).put2 2 (by omega)).put2 2 (Mt.cks_bd _)
theorem rwD_by {pr s d a b : Int} {zs : List Int} (h : Mt.By zs) (ha : 0 ≤ a ∧ a ≤ 65535) (hb : 0 ≤ b ∧ b ≤ 65535) : Mt.By (rwD pr s d a b zs) := by
  unfold rwD
  split
  · exact rwT_by h ha hb
  split
  · exact rwU_by h ha hb
  split
  · exact rwI_by h ha
  · exact h.put2 6 hb

/-- Bytes that the ports and the check sum are not of stay. -/
theorem rwT_other (s d a b : Int) (zs : List Int) (j : Nat) (h : 4 ≤ j) (h2 : j ≠ 16) (h3 : j ≠ 17) : (rwT s d a b zs)[j]? = zs[j]? := by
  unfold rwT
  rw [Mt.put2_other _ _ _ _ (by omega) (by omega), Mt.put2_other _ _ _ _ (by omega) (by omega), prt_other _ _ _ _ h]
theorem rwU_other (s d a b : Int) (zs : List Int) (j : Nat) (h : 4 ≤ j) (h2 : j ≠ 6) (h3 : j ≠ 7) : (rwU s d a b zs)[j]? = zs[j]? := by
  unfold rwU
  split
  · exact prt_other _ _ _ _ h
  · rw [Mt.put2_other _ _ _ _ (by omega) (by omega), Mt.put2_other _ _ _ _ (by omega) (by omega), prt_other _ _ _ _ h]
theorem rwI_other (a : Int) (zs : List Int) (j : Nat) (h : j < 2 ∨ 6 ≤ j) : (rwI a zs)[j]? = zs[j]? := by
  unfold rwI
  rw [Mt.put2_other _ _ _ _ (by omega) (by omega), Mt.put2_other _ _ _ _ (by omega) (by omega), Mt.put2_other _ _ _ _ (by omega) (by omega)]
theorem wat_same {xs zs : List Int} {k : Nat} (h0 : xs[k]? = zs[k]?) (h1 : xs[k + 1]? = zs[k + 1]?) : wat xs k = wat zs k := by unfold wat; rw [h0, h1]
theorem wat4_same {xs zs : List Int} {k : Nat} (h : ∀ j, k ≤ j → j < k + 4 → xs[j]? = zs[j]?) : wat4 xs k = wat4 zs k := by
  unfold wat4
  rw [wat_same (h k (by omega) (by omega)) (h (k + 1) (by omega) (by omega)), wat_same (h (k + 2) (by omega) (by omega)) (h (k + 2 + 1) (by omega) (by omega))]
theorem drop_same {xs zs : List Int} {k : Nat} (h : ∀ j, k ≤ j → xs[j]? = zs[j]?) : xs.drop k = zs.drop k := by
  apply List.ext_getElem?
  intro i
  rw [List.getElem?_drop, List.getElem?_drop, h _ (by omega)]
theorem prt_w0 (a b : Int) (zs : List Int) (h : 4 ≤ zs.length) (ha : 0 ≤ a) : wat (prt a b zs) 0 = a := by
  unfold prt
  rw [wat_put2_other _ _ _ _ (by omega), wat_put2 _ _ _ (by omega) ha]
theorem prt_w2 (a b : Int) (zs : List Int) (h : 4 ≤ zs.length) (hb : 0 ≤ b) : wat (prt a b zs) 2 = b := by
  unfold prt
  rw [wat_put2 _ _ _ (by simp [Mt.put2_length]; omega) hb]
theorem rwT_w0 (s d a b : Int) (zs : List Int) (h : 20 ≤ zs.length) (ha : 0 ≤ a) : wat (rwT s d a b zs) 0 = a := by
  unfold rwT
  rw [wat_put2_other _ _ _ _ (by omega), wat_put2_other _ _ _ _ (by omega), prt_w0 _ _ _ (by omega) ha]
theorem rwT_w2 (s d a b : Int) (zs : List Int) (h : 20 ≤ zs.length) (hb : 0 ≤ b) : wat (rwT s d a b zs) 2 = b := by
  unfold rwT
  rw [wat_put2_other _ _ _ _ (by omega), wat_put2_other _ _ _ _ (by omega), prt_w2 _ _ _ (by omega) hb]
theorem rwU_w0 (s d a b : Int) (zs : List Int) (h : 8 ≤ zs.length) (ha : 0 ≤ a) : wat (rwU s d a b zs) 0 = a := by
  unfold rwU
  split
  · exact prt_w0 _ _ _ (by omega) ha
  · rw [wat_put2_other _ _ _ _ (by omega), wat_put2_other _ _ _ _ (by omega), prt_w0 _ _ _ (by omega) ha]
theorem rwU_w2 (s d a b : Int) (zs : List Int) (h : 8 ≤ zs.length) (hb : 0 ≤ b) : wat (rwU s d a b zs) 2 = b := by
  unfold rwU
  split
  · exact prt_w2 _ _ _ (by omega) hb
  · rw [wat_put2_other _ _ _ _ (by omega), wat_put2_other _ _ _ _ (by omega), prt_w2 _ _ _ (by omega) hb]
theorem rwU_w6 (s d a b : Int) (zs : List Int) (h : 8 ≤ zs.length) : (wat (rwU s d a b zs) 6 == 0) = (wat zs 6 == 0) := by
  unfold rwU
  split
  · rename_i h0
    rw [wat_same (prt_other _ _ _ _ (by omega)) (prt_other _ _ _ _ (by omega))]
  · rename_i h0
    have := nbr_bd (Mt.cks_bd (psd s d 17 zs.length ++ Mt.put2 (prt a b zs) 6 0))
    rw [wat_put2 _ _ _ (by simp [Mt.put2_length, prt_length]; omega) (by omega)]
    have e1 : (nbr (Mt.cks (psd s d 17 zs.length ++ Mt.put2 (prt a b zs) 6 0)) == 0) = false := by simp; omega
    have e2 : (wat zs 6 == 0) = false := by simp [h0]
    rw [e1, e2]
theorem rwI_w4 (a : Int) (zs : List Int) (h : 8 ≤ zs.length) (ha : 0 ≤ a) : wat (rwI a zs) 4 = a := by
  unfold rwI
  rw [wat_put2_other _ _ _ _ (by omega), wat_put2_other _ _ _ _ (by omega), wat_put2 _ _ _ (by omega) ha]

/-- Check sums are good. -/
theorem rwT_good {s d a b : Int} {zs : List Int} (h : Mt.By zs) (hl : 20 ≤ zs.length) (hs : 0 ≤ s ∧ s ≤ 4294967295) (hd : 0 ≤ d ∧ d ≤ 4294967295) (ha : 0 ≤ a ∧ a ≤ 65535) (hb : 0 ≤ b ∧ b ≤ 65535) : Mt.cks (psd s d 6 zs.length ++ rwT s d a b zs) = 0 := by
  unfold rwT
  have hz := Mt.put2_at (prt a b zs) 16 0 (by rw [prt_length]; omega)
  refine good_put s d 6 zs.length _ 16 ?_ (by omega) (by simp [Mt.put2_length, prt_length]; omega) (by rw [hz.1]; rfl) (by rw [hz.2]; rfl)
  exact (By_psd s d 6 zs.length hs hd (by omega)).append ((prt_by h ha hb).put2 16 (by omega))
theorem rwU_good {s d a b : Int} {zs : List Int} (h : Mt.By zs) (hl : 8 ≤ zs.length) (hs : 0 ≤ s ∧ s ≤ 4294967295) (hd : 0 ≤ d ∧ d ≤ 4294967295) (ha : 0 ≤ a ∧ a ≤ 65535) (hb : 0 ≤ b ∧ b ≤ 65535) : wat (rwU s d a b zs) 6 ≠ 0 → Mt.cks (psd s d 17 zs.length ++ rwU s d a b zs) = 0 := by
  intro h6
  have h60 : wat zs 6 ≠ 0 := by
    intro e
    have := rwU_w6 s d a b zs hl
    rw [e] at this
    simp at this
    exact h6 this
  unfold rwU
  rw [if_neg h60]
  have hz := Mt.put2_at (prt a b zs) 6 0 (by rw [prt_length]; omega)
  have hBB := (By_psd s d 17 zs.length hs hd (by omega)).append ((prt_by h ha hb).put2 6 (v := 0) (by omega))
  unfold nbr
  split
  · rename_i h0
    exact good_put5 s d 17 zs.length _ 6 hBB (by omega) (by simp [Mt.put2_length, prt_length]; omega) (by rw [hz.1]; rfl) (by rw [hz.2]; rfl) h0
  · exact good_put s d 17 zs.length _ 6 hBB (by omega) (by simp [Mt.put2_length, prt_length]; omega) (by rw [hz.1]; rfl) (by rw [hz.2]; rfl)
theorem good_bare (zs : List Int) (k : Nat) (hB : Mt.By zs) (hk : k % 2 = 0) (hl : k + 1 < zs.length) (h0 : zs[k]?.getD 0 = 0) (h1 : zs[k + 1]?.getD 0 = 0) : Mt.cks (Mt.put2 zs k (Mt.cks zs)) = 0 := by
  have hn := Mt.tw_nonneg true _ hB
  have hg := Mt.fd_good _ hn
  unfold Mt.cks
  rw [Mt.tw_put2 zs k _ hk hl, h0, h1]
  rw [show Mt.tw true zs + (65535 - Mt.fd (Mt.tw true zs)) - (0 * 256 + 0) = Mt.tw true zs + (65535 - Mt.fd (Mt.tw true zs)) from by omega, hg]
  rfl
theorem rwI_good {a : Int} {zs : List Int} (h : Mt.By zs) (hl : 8 ≤ zs.length) (ha : 0 ≤ a ∧ a ≤ 65535) : Mt.cks (rwI a zs) = 0 := by
  have hz := Mt.put2_at (Mt.put2 zs 4 a) 2 0 (by rw [Mt.put2_length]; omega)
  exact good_bare _ 2 ((h.put2 4 ha).put2 2 (by omega)) (by omega) (by simp [Mt.put2_length]; omega) (by rw [hz.1]; rfl) (by rw [hz.2]; rfl)

/-- What is rewritten is not refused. -/
theorem rwT_pte {src dst s d a b : Int} {zs : List Int} (h : Mt.By zs) (hp : pte 6 src dst zs = 0) (hs : 0 ≤ s ∧ s ≤ 4294967295) (hd : 0 ≤ d ∧ d ≤ 4294967295) (ha : 0 ≤ a ∧ a ≤ 65535) (hb : 0 ≤ b ∧ b ≤ 65535) :
    pte 6 s d (rwT s d a b zs) = 0 ∧ thd (rwT s d a b zs) = thd zs ∧ hop (rwT s d a b zs) = hop zs ∧ 20 ≤ zs.length ∧ 20 ≤ thd zs := by
  have hpc : ptc 6 src dst zs = 0 := by
    unfold pte at hp
    split at hp
    · rename_i h1; exact absurd hp h1
    · rename_i h1; simpa using h1
  have hop' : (opts (hop zs)).isNone = false := by
    unfold pte at hp
    rw [if_neg (by simp [hpc])] at hp
    split at hp
    · omega
    · rename_i h1; exact Bool.eq_false_iff.2 h1
  obtain ⟨_, h20, ht20, htl, h16, _⟩ := ptc_zero hpc
  have e12 : (rwT s d a b zs)[12]? = zs[12]? := rwT_other _ _ _ _ _ _ (by omega) (by omega) (by omega)
  have et : thd (rwT s d a b zs) = thd zs := by unfold thd; rw [e12]
  have eh : hop (rwT s d a b zs) = hop zs := by unfold hop; rw [et, drop_same (fun j hj => rwT_other s d a b zs j (by omega) (by omega) (by omega))]
  refine ⟨?_, et, eh, h20, ht20⟩
  have eg := rwT_good h h20 hs hd ha hb
  have ep : ptc 6 s d (rwT s d a b zs) = 0 := by
    unfold ptc
    rw [rwT_length, et, e12, if_neg (by omega), if_neg (by omega), if_neg (by omega), if_neg (by omega), if_neg (by simp [eg])]
  unfold pte
  rw [if_neg (by simp [ep]), eh, if_neg (by simp [hop'])]
theorem rwU_pue {src dst s d a b : Int} {zs : List Int} (h : Mt.By zs) (hp : pue 17 src dst zs = 0) (hs : 0 ≤ s ∧ s ≤ 4294967295) (hd : 0 ≤ d ∧ d ≤ 4294967295) (ha : 0 ≤ a ∧ a ≤ 65535) (hb : 0 ≤ b ∧ b ≤ 65535) :
    pue 17 s d (rwU s d a b zs) = 0 ∧ 8 ≤ zs.length := by
  unfold pue at hp
  rw [if_neg (by omega)] at hp
  split at hp
  · omega
  split at hp
  · omega
  rename_i h8 h4
  have hl : 8 ≤ zs.length := by omega
  refine ⟨?_, hl⟩
  have hg := rwU_good h hl hs hd ha hb
  unfold pue
  rw [rwU_length, wat_same (rwU_other s d a b zs 4 (by omega) (by omega) (by omega)) (rwU_other s d a b zs 5 (by omega) (by omega) (by omega)), if_neg (by omega), if_neg (by omega), if_neg h4, if_neg (fun e => e.2 (hg e.1))]
theorem rwI_oie {a : Int} {zs : List Int} (h : Mt.By zs) (hp : oie zs = 0) (ha : 0 ≤ a ∧ a ≤ 65535) : oie (rwI a zs) = 0 ∧ pie 1 (rwI a zs) = 0 ∧ pie 1 zs = 0 ∧ 8 ≤ zs.length := by
  have hi : pie 1 zs = 0 := by
    unfold oie at hp
    split at hp
    · rename_i h1; exact absurd hp h1
    · rename_i h1; simpa using h1
  have hl : 8 ≤ zs.length := by
    unfold pie at hi
    rw [if_neg (by omega)] at hi
    split at hi <;> omega
  have hi2 : pie 1 (rwI a zs) = 0 := by
    unfold pie
    rw [rwI_length, rwI_good h hl ha, if_neg (by omega), if_neg (by omega), if_neg (by omega)]
  refine ⟨?_, hi2, hi, hl⟩
  unfold oie at hp ⊢
  rw [if_neg (by simp [hi])] at hp
  rw [if_neg (by simp [hi2]), rwI_other a zs 0 (by omega), rwI_other a zs 1 (by omega)]
  exact hp
theorem rwG_pge {b : Int} {zs : List Int} (hp : pge 47 zs = 0) : pge 47 (rwG b zs) = 0 ∧ bgz (rwG b zs) = bgz zs ∧ 8 ≤ zs.length := by
  have hl : 8 ≤ zs.length := by
    unfold pge at hp
    rw [if_neg (by omega)] at hp
    split at hp <;> omega
  have e : ∀ j, j ≠ 6 → j ≠ 7 → (rwG b zs)[j]? = zs[j]? := fun j h1 h2 => Mt.put2_other _ _ _ _ h1 h2
  have eb : bgz (rwG b zs) = bgz zs := by unfold bgz; rw [e 0 (by omega) (by omega), e 1 (by omega) (by omega), e 2 (by omega) (by omega), e 3 (by omega) (by omega)]
  refine ⟨?_, eb, hl⟩
  unfold pge at hp ⊢
  rw [show (rwG b zs).length = zs.length from Mt.put2_length _ _ _, eb, wat_same (e 4 (by omega) (by omega)) (e 5 (by omega) (by omega))]
  exact hp

/-- What is rewritten tells the tuple. -/
theorem rwD_tells {pr src dst s d a b : Int} {zs : List Int} (h : Mt.By zs) (hp : ofe pr src dst zs = 0) (hs : 0 ≤ s ∧ s ≤ 4294967295) (hd : 0 ≤ d ∧ d ≤ 4294967295) (ha : 0 ≤ a ∧ a ≤ 65535) (hb : 0 ≤ b ∧ b ≤ 65535) :
    ofe pr s d (rwD pr s d a b zs) = 0 ∧ ofa pr (rwD pr s d a b zs) = (if pr = 47 then 0 else a) ∧ ofb pr (rwD pr s d a b zs) = (if pr = 1 then a else b) := by
  unfold ofe at hp
  by_cases h6 : pr = 6
  · subst h6
    rw [if_pos rfl] at hp
    obtain ⟨g1, _, _, h20, _⟩ := rwT_pte (s := s) (d := d) (a := a) (b := b) h hp hs hd ha hb
    unfold ofe ofa ofb rwD
    rw [if_pos rfl, if_pos rfl, if_pos rfl, if_pos rfl, if_neg (by omega), if_neg (by omega)]
    exact ⟨g1, rwT_w0 _ _ _ _ _ h20 ha.1, rwT_w2 _ _ _ _ _ h20 hb.1⟩
  rw [if_neg h6] at hp
  by_cases h17 : pr = 17
  · subst h17
    rw [if_pos rfl] at hp
    obtain ⟨g1, h8⟩ := rwU_pue (s := s) (d := d) (a := a) (b := b) h hp hs hd ha hb
    unfold ofe ofa ofb rwD
    rw [if_neg h6, if_neg h6, if_neg h6, if_neg h6, if_pos rfl, if_pos rfl, if_pos rfl, if_pos rfl, if_neg (by omega), if_neg (by omega)]
    exact ⟨g1, rwU_w0 _ _ _ _ _ h8 ha.1, rwU_w2 _ _ _ _ _ h8 hb.1⟩
  rw [if_neg h17] at hp
  by_cases h1 : pr = 1
  · subst h1
    rw [if_pos rfl] at hp
    obtain ⟨g1, _, _, h8⟩ := rwI_oie (a := a) h hp ha
    unfold ofe ofa ofb rwD
    rw [if_neg h6, if_neg h6, if_neg h6, if_neg h6, if_neg h17, if_neg h17, if_neg h17, if_neg h17, if_pos rfl, if_pos rfl, if_pos rfl, if_pos rfl, if_neg (by omega), if_pos rfl]
    exact ⟨g1, rwI_w4 _ _ h8 ha.1, rwI_w4 _ _ h8 ha.1⟩
  rw [if_neg h1] at hp
  by_cases h47 : pr = 47
  · subst h47
    rw [if_pos rfl] at hp
    obtain ⟨g1, _, h8⟩ := rwG_pge (b := b) hp
    unfold ofe ofa ofb rwD
    rw [if_neg h6, if_neg h6, if_neg h6, if_neg h6, if_neg h17, if_neg h17, if_neg h17, if_neg h17, if_neg h1, if_neg h1, if_neg h1, if_neg h1, if_pos rfl, if_pos rfl, if_neg h1]
    refine ⟨g1, rfl, ?_⟩
    rw [getAt2_lit _ 6 6 rfl (by unfold rwG; rw [Mt.put2_length]; omega)]
    exact wat_put2 _ _ _ (by omega) hb.1
  · rw [if_neg h47] at hp
    omega
end Go.Proofs.YtomdccljoaieeaaDoor

/- Package mangle: a unit in memory, and what its methods do. -/
namespace Go.Proofs.YtomdccljoaieeaaDoor
open Go.RowKit Go.Shelf
set_option maxRecDepth 100000
set_option linter.unusedVariables false
set_option linter.unusedSimpArgs false

/-- A unit's tuples: as it was, as it is to be. -/
structure Un where
  p1 : Int
  s1 : Int
  d1 : Int
  a1 : Int
  b1 : Int
  pr : Int
  s : Int
  d : Int
  a : Int
  b : Int
def unc (u : Un) (bv : Value) : Array Value := #[bv, .int .u8 u.p1, .int .u32 u.s1, .int .u32 u.d1, .int .u16 u.a1, .int .u16 u.b1, .int .u8 u.pr, .int .u32 u.s, .int .u32 u.d, .int .u16 u.a, .int .u16 u.b]
def UB (w : World) (g : Nat) (u : Un) (bv : Value) : Prop := w.heap[g]? = some (.cells (unc u bv) 97 (0, 0))
/-- A unit whose bytes read as zs; whose bytes are the call's own. -/
def UR (w : World) (g : Nat) (u : Un) (zs : List Int) : Prop := ∃ bv, UB w g u bv ∧ Rd w.heap.size w bv zs
def US (base : Nat) (w : World) (g : Nat) (u : Un) (zs : List Int) : Prop := ∃ bv, UB w g u bv ∧ Ow base w bv zs
theorem US.ur {base : Nat} {w : World} {g : Nat} {u : Un} {zs : List Int} (h : US base w g u zs) : UR w g u zs := by
  obtain ⟨bv, h1, h2⟩ := h
  exact ⟨bv, h1, h2.rd⟩
theorem UB.later {w w' : World} {g : Nat} {u : Un} {bv : Value} (h : UB w g u bv) (l : Later w w') : UB w' g u bv := (l.block g (Array.getElem?_eq_some_iff.1 h).1).trans h
theorem UR.later {w w' : World} {g : Nat} {u : Un} {zs : List Int} (h : UR w g u zs) (l : Later w w') : UR w' g u zs := by
  obtain ⟨bv, h1, h2⟩ := h
  exact ⟨bv, h1.later l, (h2.below l).mono l.size⟩
theorem US.later {base : Nat} {w w' : World} {g : Nat} {u : Un} {zs : List Int} (h : US base w g u zs) (l : Later w w') : US base w' g u zs := by
  obtain ⟨bv, h1, h2⟩ := h
  exact ⟨bv, h1.later l, h2.later l⟩
def UQ (base : Nat) (w : World) (g : Nat) (u : Un) (zs : List Int) (e : Ending) (w' : World) : Prop := e = .returned (.tuple #[]) ∧ US base w' g u zs ∧ But (fun q => q = g) w w'

set_option maxHeartbeats 2000000 in
theorem uput_any (base : Nat) (g : Nat) (u : Un) (zs : List Int) (p v : Int) (w : World) (h : UR w g u zs) (hb : base ≤ w.heap.size) (hl : zs.length ≤ 140737488355328) (hv : 0 ≤ v ∧ v ≤ 65535) :
    Calls Tryd.prog 72 #[.pointer (some ⟨g, 0, none⟩), .int .i64 p, .int .u16 v] w fun e w' => UQ base w g u (putAt2 zs p v) e w' := by
  obtain ⟨bv, hU, hI⟩ := h
  obtain ⟨a, cap, rfl, hl1, hm1⟩ := hI.slice
  have CU := block_cell hU
  simp only [unc] at CU
  go_enter Tryd.func72, Tryd.ntmps72
  go_wp2_with fail
  refine (put16_any _ zs p v w hl hI hv).mono ?_
  rintro e w1 ⟨a1, rfl, hO, hb1⟩
  have l1 : Later w w1 := hb1
  have hU1 := hU.later l1
  have C1 := block_cell hU1
  have F1 := block_frozen hU1
  simp only [unc] at C1
  have hB : But (fun q => q = g) w1 (w1.setCell ⟨g, 0, none⟩ (.slice a1 zs.length zs.length)) := But.setCell (E := fun q => q = g) (But.refl _ _) (p := ⟨g, 0, none⟩) rfl _
  have hU2 : UB (w1.setCell ⟨g, 0, none⟩ (.slice a1 zs.length zs.length)) g u (.slice a1 zs.length zs.length) := heap_set1 hU1 0 _
  have HB := hide hB
  have HU2 := hide hU2
  have hO2 := hide (Ow.aside (hO.mono hb) hU1 (by decide) hB)
  clear hB hU2 CU hU hI
  go_wp2_with fail
  go_end0
  exact ⟨rfl, ⟨_, HU2.out, hO2.out⟩, (But.of l1).trans HB.out⟩

theorem uget_any {n : Nat} (g : Nat) (u : Un) (zs : List Int) (hB : Mt.By zs) (p : Int) (w : World) (h : UR w g u zs) :
    Calls Tryd.prog 86 #[.pointer (some ⟨g, 0, none⟩), .int .i64 p] w fun e w' => e = .returned (.int .u16 (getAt2 zs p)) ∧ ∃ n, w' = w.drewN n := by
  obtain ⟨bv, hU, hI⟩ := h
  obtain ⟨a, cap, rfl, hl1, hm1⟩ := hI.slice
  have CU := block_cell hU
  simp only [unc] at CU
  go_enter Tryd.func86, Tryd.ntmps86
  go_wp2_with fail
  refine (get16_at _ zs hB p w hI).mono ?_
  rintro e w1 ⟨rfl, n, rfl⟩
  go_wp2_with fail
  go_ret
  exact ⟨rfl, n, rfl⟩

theorem ubare_any (g : Nat) (u : Un) (zs : List Int) (hB : Mt.By zs) (w : World) (h : UR w g u zs) :
    Calls Tryd.prog 74 #[.pointer (some ⟨g, 0, none⟩)] w fun e w' => e = .returned (.bool (getAt2 zs 6 == 0)) ∧ Later w w' := by
  go_enter Tryd.func74, Tryd.ntmps74
  go_wp2_with fail
  refine (uget_any (n := 0) g u zs hB 6 w h).mono ?_
  rintro e w1 ⟨rfl, n, hq⟩
  have l1 : Later w w1 := by rw [hq]; exact below_draw (Below.refl _ _) n
  clear hq
  go_wp2_with fail
  go_ret
  exact ⟨rfl, l1⟩

theorem notBare_any (x : Int) (w : World) : Calls Tryd.prog 75 #[.int .u16 x] w fun e w' => e = .returned (.int .u16 (nbr x)) ∧ w' = w := by
  by_cases h : x = 0
  · subst h
    go_enter Tryd.func75, Tryd.ntmps75
    go_wp2_with fail
    go_ret
    exact ⟨rfl, rfl⟩
  · have h0 : (x == 0) = false := by simp [h]
    rw [show nbr x = x from by unfold nbr; rw [if_neg h]]
    clear h
    go_enter Tryd.func75, Tryd.ntmps75
    go_wp2_with fail
    go_ret
    exact ⟨rfl, rfl⟩

set_option maxHeartbeats 2000000 in
theorem uports_any (base : Nat) (g : Nat) (u : Un) (zs : List Int) (w : World) (h : UR w g u zs) (hb : base ≤ w.heap.size) (hl : zs.length ≤ 140737488355328) (h4 : 4 ≤ zs.length) (ha : 0 ≤ u.a ∧ u.a ≤ 65535) (hbb : 0 ≤ u.b ∧ u.b ≤ 65535) :
    Calls Tryd.prog 71 #[.pointer (some ⟨g, 0, none⟩)] w fun e w' => UQ base w g u (prt u.a u.b zs) e w' := by
  have HP := hide (fun w (h : UR w g u zs) (hb : base ≤ w.heap.size) => uput_any base g u zs 0 u.a w h hb hl ha)
  rw [putAt2_lit zs 0 0 u.a rfl (by omega)] at HP
  obtain ⟨bv, hU, _⟩ := id h
  have CU := block_cell hU
  simp only [unc] at CU
  go_enter Tryd.func71, Tryd.ntmps71
  go_wp2_with fail
  refine (HP.out w h hb).mono ?_
  rintro e w1 ⟨rfl, hS, b1⟩
  obtain ⟨bv1, hU1, _⟩ := id hS
  have C1 := block_cell hU1
  simp only [unc] at C1
  have hbb1 : base ≤ w1.heap.size := Nat.le_trans hb b1.size
  clear CU hU HP
  go_wp2_with fail
  refine (uput_any base g u _ 2 u.b w1 hS.ur hbb1 (by rw [Mt.put2_length]; exact hl) hbb).mono ?_
  rw [putAt2_lit _ 2 2 u.b rfl (by rw [Mt.put2_length]; omega)]
  rintro e w2 ⟨rfl, hS2, b2⟩
  go_wp2_with fail
  go_end0
  exact ⟨rfl, hS2, b1.trans b2⟩

set_option maxHeartbeats 2000000 in
theorem usummed_any (g : Nat) (u : Un) (zs : List Int) (w : World) (h : UR w g u zs) (hl : 12 + zs.length ≤ 140737488355328) (hsr : 0 ≤ u.s ∧ u.s ≤ 4294967295) (hds : 0 ≤ u.d ∧ u.d ≤ 4294967295) :
    Calls Tryd.prog 73 #[.pointer (some ⟨g, 0, none⟩)] w fun e w' => ∃ a c, e = .returned (.slice a (12 + zs.length) c) ∧ Ow w.heap.size w' (.slice a (12 + zs.length) c) (psd u.s u.d u.pr zs.length ++ zs) ∧ Later w w' := by
  obtain ⟨i0, hi, hz0, hz1, hz2⟩ := info_parts info_u8
  obtain ⟨bv, hU, hI⟩ := h
  obtain ⟨a, cap, rfl, hl1, hm1⟩ := hI.slice
  go_enter Tryd.func73, Tryd.ntmps73
  go_upto_region 1 with fail
  refine anyT_begin (R := Later) 27 rfl (by kernel_rfl) ?_
  have hd : Later w w.drew := Later.drew w
  have hI1 := hI.below hd
  have hs1 : w.heap.size ≤ w.drew.heap.size := hd.size
  have qp : ∀ v1, Later w.drew v1 → ∀ i, v1.cell? ⟨g, i, none⟩ = #[Value.slice a zs.length cap, .int .u8 u.p1, .int .u32 u.s1, .int .u32 u.d1, .int .u16 u.a1, .int .u16 u.b1, .int .u8 u.pr, .int .u32 u.s, .int .u32 u.d, .int .u16 u.a, .int .u16 u.b][i]? := fun v1 h => block_cell (hU.later (hd.trans h))
  generalize w.drew = W1 at *
  refine anyT_val Later.pre 0 rfl (by kernel_rfl) (by kernel_rfl) (by kernel_rfl) (fun _ _ _ _ h => h) rfl ?_; apply Exists.intro; refine ⟨fun v1 hv1 => ?_, ?_⟩; (· (go_simp; rfl)); simp only [Act.put, List.setIfInBounds_toArray, List.set_cons_zero, List.set_cons_succ]
  refine anyT_val Later.pre 1 rfl (by kernel_rfl) (by kernel_rfl) (by kernel_rfl) (fun _ _ _ _ h => h) rfl ?_; apply Exists.intro; refine ⟨fun v1 hv1 => ?_, ?_⟩; (· (go_simp; rfl)); simp only [Act.put, List.setIfInBounds_toArray, List.set_cons_zero, List.set_cons_succ]
  refine anyT_val Later.pre 2 rfl (by kernel_rfl) (by kernel_rfl) (by kernel_rfl) (fun _ _ _ _ h => h) rfl ?_; apply Exists.intro; refine ⟨fun v1 hv1 => ?_, ?_⟩; (· (go_simp; rfl)); simp only [Act.put, List.setIfInBounds_toArray, List.set_cons_zero, List.set_cons_succ]
  refine anyT_val Later.pre 3 rfl (by kernel_rfl) (by kernel_rfl) (by kernel_rfl) (fun _ _ _ _ h => h) rfl ?_; apply Exists.intro; refine ⟨fun v1 hv1 => ?_, ?_⟩; (· (go_simp; rfl)); simp only [Act.put, List.setIfInBounds_toArray, List.set_cons_zero, List.set_cons_succ]
  refine anyT_val Later.pre 4 rfl (by kernel_rfl) (by kernel_rfl) (by kernel_rfl) (fun _ _ _ _ h => h) rfl ?_; apply Exists.intro; refine ⟨fun v1 hv1 => ?_, ?_⟩; (· (go_simp; rfl)); simp only [Act.put, List.setIfInBounds_toArray, List.set_cons_zero, List.set_cons_succ]
  refine anyT_val Later.pre 5 rfl (by kernel_rfl) (by kernel_rfl) (by kernel_rfl) (fun _ _ _ _ h => h) rfl ?_; apply Exists.intro; refine ⟨fun v1 hv1 => ?_, ?_⟩; (· (go_simp; rfl)); simp only [Act.put, List.setIfInBounds_toArray, List.set_cons_zero, List.set_cons_succ]
  refine anyT_val Later.pre 6 rfl (by kernel_rfl) (by kernel_rfl) (by kernel_rfl) (fun _ _ _ _ h => h) rfl ?_; apply Exists.intro; refine ⟨fun v1 hv1 => ?_, ?_⟩; (· (go_simp; rfl)); simp only [Act.put, List.setIfInBounds_toArray, List.set_cons_zero, List.set_cons_succ]
  refine anyT_val Later.pre 7 rfl (by kernel_rfl) (by kernel_rfl) (by kernel_rfl) (fun _ _ _ _ h => h) rfl ?_; apply Exists.intro; refine ⟨fun v1 hv1 => ?_, ?_⟩; (· (go_simp; rfl)); simp only [Act.put, List.setIfInBounds_toArray, List.set_cons_zero, List.set_cons_succ]
  refine anyT_val Later.pre 8 rfl (by kernel_rfl) (by kernel_rfl) (by kernel_rfl) (fun _ _ _ _ h => h) rfl ?_; apply Exists.intro; refine ⟨fun v1 hv1 => ?_, ?_⟩; (· (go_simp; rfl)); simp only [Act.put, List.setIfInBounds_toArray, List.set_cons_zero, List.set_cons_succ]
  refine anyT_val Later.pre 9 rfl (by kernel_rfl) (by kernel_rfl) (by kernel_rfl) (fun _ _ _ _ h => h) rfl ?_; apply Exists.intro; refine ⟨fun v1 hv1 => ?_, ?_⟩; (· (go_simp; rfl)); simp only [Act.put, List.setIfInBounds_toArray, List.set_cons_zero, List.set_cons_succ]
  refine anyT_val Later.pre 10 rfl (by kernel_rfl) (by kernel_rfl) (by kernel_rfl) (fun _ _ _ _ h => h) rfl ?_; apply Exists.intro; refine ⟨fun v1 hv1 => ?_, ?_⟩; (· (go_simp; rfl)); simp only [Act.put, List.setIfInBounds_toArray, List.set_cons_zero, List.set_cons_succ]
  refine anyT_val Later.pre 11 rfl (by kernel_rfl) (by kernel_rfl) (by kernel_rfl) (fun _ _ _ _ h => h) rfl ?_; apply Exists.intro; refine ⟨fun v1 hv1 => ?_, ?_⟩; (· (go_simp; rfl)); simp only [Act.put, List.setIfInBounds_toArray, List.set_cons_zero, List.set_cons_succ]
  refine anyT_val Later.pre 12 rfl (by kernel_rfl) (by kernel_rfl) (by kernel_rfl) (fun _ _ _ _ h => h) rfl ?_; apply Exists.intro; refine ⟨fun v1 hv1 => ?_, ?_⟩; (· (go_simp; rfl)); simp only [Act.put, List.setIfInBounds_toArray, List.set_cons_zero, List.set_cons_succ]
  refine anyT_val Later.pre 13 rfl (by kernel_rfl) (by kernel_rfl) (by kernel_rfl) (fun _ _ _ _ h => h) rfl ?_; apply Exists.intro; refine ⟨fun v1 hv1 => ?_, ?_⟩; (· (go_simp; rfl)); simp only [Act.put, List.setIfInBounds_toArray, List.set_cons_zero, List.set_cons_succ]
  refine anyT_val Later.pre 14 rfl (by kernel_rfl) (by kernel_rfl) (by kernel_rfl) (fun _ _ _ _ h => h) rfl ?_; apply Exists.intro; refine ⟨fun v1 hv1 => ?_, ?_⟩; (· (go_simp; rfl)); simp only [Act.put, List.setIfInBounds_toArray, List.set_cons_zero, List.set_cons_succ]
  refine anyT_val Later.pre 15 rfl (by kernel_rfl) (by kernel_rfl) (by kernel_rfl) (fun _ _ _ _ h => h) rfl ?_; apply Exists.intro; refine ⟨fun v1 hv1 => ?_, ?_⟩; (· (go_simp; rfl)); simp only [Act.put, List.setIfInBounds_toArray, List.set_cons_zero, List.set_cons_succ]
  refine anyT_val Later.pre 16 rfl (by kernel_rfl) (by kernel_rfl) (by kernel_rfl) (fun _ _ _ _ h => h) rfl ?_; apply Exists.intro; refine ⟨fun v1 hv1 => ?_, ?_⟩; (· (go_simp; rfl)); simp only [Act.put, List.setIfInBounds_toArray, List.set_cons_zero, List.set_cons_succ]
  refine anyT_val Later.pre 17 rfl (by kernel_rfl) (by kernel_rfl) (by kernel_rfl) (fun _ _ _ _ h => h) rfl ?_; apply Exists.intro; refine ⟨fun v1 hv1 => ?_, ?_⟩; (· (go_simp; rfl)); simp only [Act.put, List.setIfInBounds_toArray, List.set_cons_zero, List.set_cons_succ]
  refine anyT_val Later.pre 18 rfl (by kernel_rfl) (by kernel_rfl) (by kernel_rfl) (fun _ _ _ _ h => h) rfl ?_; apply Exists.intro; refine ⟨fun v1 hv1 => ?_, ?_⟩; (· (go_simp; rfl)); simp only [Act.put, List.setIfInBounds_toArray, List.set_cons_zero, List.set_cons_succ]
  refine anyT_val Later.pre 19 rfl (by kernel_rfl) (by kernel_rfl) (by kernel_rfl) (fun _ _ _ _ h => h) rfl ?_; apply Exists.intro; refine ⟨fun v1 hv1 => ?_, ?_⟩; (· (go_simp; rfl)); simp only [Act.put, List.setIfInBounds_toArray, List.set_cons_zero, List.set_cons_succ]
  refine anyT_val Later.pre 21 rfl (by kernel_rfl) (by kernel_rfl) (by kernel_rfl) (fun _ _ _ _ h => h) rfl ?_; apply Exists.intro; refine ⟨fun v1 hv1 => ?_, ?_⟩; (· (go_simp; rfl)); simp only [Act.put, List.setIfInBounds_toArray, List.set_cons_zero, List.set_cons_succ]
  refine anyT_val Later.pre 22 rfl (by kernel_rfl) (by kernel_rfl) (by kernel_rfl) (fun _ _ _ _ h => h) rfl ?_; apply Exists.intro; refine ⟨fun v1 hv1 => ?_, ?_⟩; (· (go_simp; rfl)); simp only [Act.put, List.setIfInBounds_toArray, List.set_cons_zero, List.set_cons_succ]
  refine anyT_val Later.pre 23 rfl (by kernel_rfl) (by kernel_rfl) (by kernel_rfl) (fun _ _ _ _ h => h) rfl ?_; apply Exists.intro; refine ⟨fun v1 hv1 => ?_, ?_⟩; (· (go_simp; rfl)); simp only [Act.put, List.setIfInBounds_toArray, List.set_cons_zero, List.set_cons_succ]
  refine anyT_val Later.pre 24 rfl (by kernel_rfl) (by kernel_rfl) (by kernel_rfl) (fun _ _ _ _ h => h) rfl ?_; apply Exists.intro; refine ⟨fun v1 hv1 => ?_, ?_⟩; (· (go_simp; rfl)); simp only [Act.put, List.setIfInBounds_toArray, List.set_cons_zero, List.set_cons_succ]
  refine anyT_one 20 rfl (by kernel_rfl) rfl ?_
  refine wp_enter 64 #[.int .u32 u.s, .int .u32 u.d, .int .u8 u.pr, .int .i64 zs.length] (by go_simp) ?_
  refine (pseudo_any u.s u.d u.pr zs.length hsr hds W1).mono ?_
  rintro e w2 ⟨a2, rfl, hO2, hb2⟩
  refine ⟨hb2, ?_⟩
  simp only [Act.put, List.setIfInBounds_toArray, List.set_cons_zero, List.set_cons_succ]
  have l2 : Later w w2 := hd.trans hb2
  obtain ⟨v3, w3, hr3, hO3, hb3⟩ := run_app_ow (P := Tryd.prog) w2 38 38 W1.heap.size i0 Tryd.underlying38 hi hz0 hz1 hz2 a2 12 _ hO2 (by simp [psd]) w.heap.size _ zs (hI.below l2) (by rw [psd_length]; omega) hb2.size
  refine anyT_one 25 rfl (by kernel_rfl) rfl ?_
  obtain ⟨a3, c3, rfl, _, _⟩ := hO3.slice
  rw [List.length_append, psd_length] at hr3 hO3
  refine wp_app (.tmp 23) (.tmp 27) 38 rfl _ _ rfl rfl _ w3 hr3 ⟨hb3, ?_⟩
  simp only [Act.put, List.setIfInBounds_toArray, List.set_cons_zero, List.set_cons_succ]
  clear qp
  refine anyT_val Later.pre 26 rfl (by kernel_rfl) (by kernel_rfl) (by kernel_rfl) (fun _ _ _ _ h => h) rfl ?_; apply Exists.intro; refine ⟨fun v1 hv1 => ?_, ?_⟩; (· (go_simp; rfl)); simp only [Act.put, List.setIfInBounds_toArray, List.set_cons_zero, List.set_cons_succ]
  refine anyT_done (by kernel_rfl) ?_
  go_wp2_with fail
  go_ret
  exact ⟨a3, c3, rfl, hO3.mono hs1, l2.trans hb3⟩
end Go.Proofs.YtomdccljoaieeaaDoor

/- Package mangle: what is done of each protocol. -/
namespace Go.Proofs.YtomdccljoaieeaaDoor
open Go.RowKit Go.Shelf
set_option maxRecDepth 100000
set_option linter.unusedVariables false
set_option linter.unusedSimpArgs false

/-- Numbers of a unit's tuples are of their kinds. -/
def UOk (u : Un) : Prop := (0 ≤ u.s ∧ u.s ≤ 4294967295) ∧ (0 ≤ u.d ∧ u.d ≤ 4294967295) ∧ (0 ≤ u.a ∧ u.a ≤ 65535) ∧ (0 ≤ u.b ∧ u.b ≤ 65535)

set_option maxHeartbeats 2000000 in
theorem usegment_any (base : Nat) (g : Nat) (u : Un) (zs : List Int) (w : World) (hB : Mt.By zs) (h : UR w g u zs) (hb : base ≤ w.heap.size) (hl : 12 + zs.length ≤ 140737488355328) (h20 : 20 ≤ zs.length) (hu : UOk u) (hpr : u.pr = 6) :
    Calls Tryd.prog 58 #[.pointer (some ⟨g, 0, none⟩)] w fun e w' => UQ base w g u (rwT u.s u.d u.a u.b zs) e w' := by
  obtain ⟨hs, hd, ha, hbb⟩ := hu
  have H1 := hide (uports_any base g u zs w h hb (by omega) (by omega) ha hbb)
  have hB1 := prt_by hB ha hbb
  have hB2 := hB1.put2 16 (v := 0) (by omega)
  have hL1 := prt_length u.a u.b zs
  have hL2 : (Mt.put2 (prt u.a u.b zs) 16 0).length = zs.length := by rw [Mt.put2_length, hL1]
  have HR : Hid (rwT u.s u.d u.a u.b zs = Mt.put2 (Mt.put2 (prt u.a u.b zs) 16 0) 16 (Mt.cks (psd u.s u.d u.pr (Mt.put2 (prt u.a u.b zs) 16 0).length ++ Mt.put2 (prt u.a u.b zs) 16 0))) := by show _ = _; rw [hL2, hpr]; rfl
  have HPR : Hid (0 ≤ u.pr ∧ u.pr ≤ 255) := by show _ ∧ _; omega
  clear hpr
  have HE := hide (putAt2_lit (prt u.a u.b zs) 16 16 0 rfl (by omega))
  have HE2 := hide (fun v => putAt2_lit (Mt.put2 (prt u.a u.b zs) 16 0) 16 16 v rfl (by omega))
  generalize prt u.a u.b zs = z1 at *
  generalize Mt.put2 z1 16 0 = z2 at *
  have hl1 : z1.length ≤ 140737488355328 := by omega
  have hl2 : 12 + z2.length ≤ 140737488355328 := by omega
  have HL2 := hide hL2
  clear hL1 hL2
  go_enter Tryd.func58, Tryd.ntmps58
  go_wp2_with fail
  refine H1.out.mono ?_
  rintro e w1 ⟨rfl, S1, b1⟩
  go_wp2_with fail
  refine (uput_any base g u z1 16 0 w1 S1.ur (Nat.le_trans hb b1.size) hl1 (by omega)).mono ?_
  rw [HE.out]
  rintro e w2 ⟨rfl, S2, b2⟩
  go_wp2_with fail
  refine (usummed_any g u z2 w2 S2.ur hl2 hs hd).mono ?_
  rintro e w3 ⟨a3, c3, rfl, hO3, l3⟩
  have hBs := (By_psd u.s u.d u.pr z2.length hs hd HPR.out).append hB2
  go_wp2_with fail
  refine (sum_any _ _ hBs (by rw [List.length_append, psd_length]; omega) w3 hO3.rd).mono ?_
  rintro e w4 ⟨rfl, l4⟩
  have l4' : Later w3 w4 := l4
  have hc := Mt.cks_bd (psd u.s u.d u.pr z2.length ++ z2)
  have S4 := (S2.later l3).later l4'
  generalize Mt.cks (psd u.s u.d u.pr z2.length ++ z2) = ck at *
  go_wp2_with fail
  refine (uput_any base g u z2 16 _ w4 S4.ur (Nat.le_trans hb (Nat.le_trans b1.size (Nat.le_trans b2.size (l3.trans l4').size))) (by omega) hc).mono ?_
  rw [HE2.out, ← HR.out]
  rintro e w5 ⟨rfl, S5, b5⟩
  go_wp2_with fail
  go_end0
  exact ⟨rfl, S5, b1.trans (b2.trans ((But.of (l3.trans l4')).trans b5))⟩

set_option maxHeartbeats 2000000 in
theorem udatagram_any (base : Nat) (g : Nat) (u : Un) (zs : List Int) (w : World) (hB : Mt.By zs) (h : UR w g u zs) (hb : base ≤ w.heap.size) (hl : 12 + zs.length ≤ 140737488355328) (h8 : 8 ≤ zs.length) (hu : UOk u) (hpr : u.pr = 17) :
    Calls Tryd.prog 59 #[.pointer (some ⟨g, 0, none⟩)] w fun e w' => UQ base w g u (rwU u.s u.d u.a u.b zs) e w' := by
  obtain ⟨hs, hd, ha, hbb⟩ := hu
  have H1 := hide (uports_any base g u zs w h hb (by omega) (by omega) ha hbb)
  have hB1 := prt_by hB ha hbb
  have hB2 := hB1.put2 6 (v := 0) (by omega)
  have hL1 := prt_length u.a u.b zs
  have hL2 : (Mt.put2 (prt u.a u.b zs) 6 0).length = zs.length := by rw [Mt.put2_length, hL1]
  have H6 : Hid (getAt2 (prt u.a u.b zs) 6 = wat zs 6) := by
    show _ = _
    rw [getAt2_lit _ 6 6 rfl (by omega)]
    exact wat_same (prt_other _ _ _ _ (by omega)) (prt_other _ _ _ _ (by omega))
  have HR : Hid (rwU u.s u.d u.a u.b zs = if wat zs 6 = 0 then prt u.a u.b zs else Mt.put2 (Mt.put2 (prt u.a u.b zs) 6 0) 6 (nbr (Mt.cks (psd u.s u.d u.pr (Mt.put2 (prt u.a u.b zs) 6 0).length ++ Mt.put2 (prt u.a u.b zs) 6 0)))) := by show _ = _; rw [hL2, hpr]; rfl
  have HPR : Hid (0 ≤ u.pr ∧ u.pr ≤ 255) := by show _ ∧ _; omega
  clear hpr
  have HE := hide (putAt2_lit (prt u.a u.b zs) 6 6 0 rfl (by omega))
  have HE2 := hide (fun v => putAt2_lit (Mt.put2 (prt u.a u.b zs) 6 0) 6 6 v rfl (by omega))
  generalize rwU u.s u.d u.a u.b zs = zr at *
  generalize prt u.a u.b zs = z1 at *
  generalize Mt.put2 z1 6 0 = z2 at *
  have hl1 : z1.length ≤ 140737488355328 := by omega
  have hl2 : 12 + z2.length ≤ 140737488355328 := by omega
  clear hL1 hL2
  go_enter Tryd.func59, Tryd.ntmps59
  go_wp2_with fail
  refine H1.out.mono ?_
  rintro e w1 ⟨rfl, S1, b1⟩
  go_wp2_with fail
  refine (ubare_any g u z1 hB1 w1 S1.ur).mono ?_
  rw [H6.out]
  rintro e w2 ⟨rfl, l2⟩
  have S2 := S1.later l2
  have b2 : But (fun q => q = g) w w2 := b1.trans (But.of l2)
  by_cases c0 : wat zs 6 = 0
  · have t0 : (wat zs 6 == 0) = true := by simp [c0]
    have HZ : Hid (zr = z1) := by show _ = _; rw [HR.out, if_pos c0]
    clear c0
    go_wp2_with fail
    go_end0
    exact ⟨rfl, by rw [HZ.out]; exact S2, b2⟩
  have t0 : (wat zs 6 == 0) = false := by simp [c0]
  have HZ : Hid (zr = Mt.put2 z2 6 (nbr (Mt.cks (psd u.s u.d u.pr z2.length ++ z2)))) := by show _ = _; rw [HR.out, if_neg c0]
  clear c0
  go_wp2_with fail
  refine (uput_any base g u z1 6 0 w2 S2.ur (Nat.le_trans hb b2.size) hl1 (by omega)).mono ?_
  rw [HE.out]
  rintro e w3 ⟨rfl, S3, b3⟩
  go_wp2_with fail
  refine (usummed_any g u z2 w3 S3.ur hl2 hs hd).mono ?_
  rintro e w4 ⟨a4, c4, rfl, hO4, l4⟩
  have hBs := (By_psd u.s u.d u.pr z2.length hs hd HPR.out).append hB2
  go_wp2_with fail
  refine (sum_any _ _ hBs (by rw [List.length_append, psd_length]; omega) w4 hO4.rd).mono ?_
  rintro e w5 ⟨rfl, l5⟩
  have l5' : Later w4 w5 := l5
  have S5 := (S3.later l4).later l5'
  have hc := nbr_bd (Mt.cks_bd (psd u.s u.d u.pr z2.length ++ z2))
  generalize Mt.cks (psd u.s u.d u.pr z2.length ++ z2) = ck at *
  go_wp2_with fail
  refine (notBare_any _ w5).mono ?_
  rintro e w6 ⟨rfl, rfl⟩
  go_wp2_with fail
  refine (uput_any base g u z2 6 _ w6 S5.ur (Nat.le_trans hb (Nat.le_trans b2.size (Nat.le_trans b3.size (l4.trans l5').size))) (by omega) (by omega)).mono ?_
  rw [HE2.out, ← HZ.out]
  rintro e w7 ⟨rfl, S7, b7⟩
  go_wp2_with fail
  go_end0
  exact ⟨rfl, S7, b2.trans (b3.trans ((But.of (l4.trans l5')).trans b7))⟩

set_option maxHeartbeats 2000000 in
theorem umessage_any (base : Nat) (g : Nat) (u : Un) (zs : List Int) (w : World) (hB : Mt.By zs) (h : UR w g u zs) (hb : base ≤ w.heap.size) (hl : zs.length ≤ 140737488355328) (h8 : 8 ≤ zs.length) (hu : UOk u) :
    Calls Tryd.prog 60 #[.pointer (some ⟨g, 0, none⟩)] w fun e w' => UQ base w g u (rwI u.a zs) e w' := by
  obtain ⟨hs, hd, ha, hbb⟩ := hu
  have H1 := hide (uput_any base g u zs 4 u.a w h hb hl ha)
  rw [putAt2_lit zs 4 4 u.a rfl (by omega)] at H1
  have hB1 := hB.put2 4 ha
  have hB2 := hB1.put2 2 (v := 0) (by omega)
  have hL1 := Mt.put2_length zs 4 u.a
  have hL2 := Mt.put2_length (Mt.put2 zs 4 u.a) 2 0
  have HR : Hid (rwI u.a zs = Mt.put2 (Mt.put2 (Mt.put2 zs 4 u.a) 2 0) 2 (Mt.cks (Mt.put2 (Mt.put2 zs 4 u.a) 2 0))) := rfl
  have HE := hide (putAt2_lit (Mt.put2 zs 4 u.a) 2 2 0 rfl (by omega))
  have HE2 := hide (fun v => putAt2_lit (Mt.put2 (Mt.put2 zs 4 u.a) 2 0) 2 2 v rfl (by omega))
  generalize Mt.put2 zs 4 u.a = z1 at *
  generalize Mt.put2 z1 2 0 = z2 at *
  have hl1 : z1.length ≤ 140737488355328 := by omega
  have hl2 : z2.length ≤ 140737488355328 := by omega
  clear hL1 hL2
  obtain ⟨bv, hU, _⟩ := id h
  have CU := block_cell hU
  simp only [unc] at CU
  go_enter Tryd.func60, Tryd.ntmps60
  go_wp2_with fail
  refine H1.out.mono ?_
  rintro e w1 ⟨rfl, S1, b1⟩
  clear CU hU
  go_wp2_with fail
  refine (uput_any base g u z1 2 0 w1 S1.ur (Nat.le_trans hb b1.size) hl1 (by omega)).mono ?_
  rw [HE.out]
  rintro e w2 ⟨rfl, S2, b2⟩
  obtain ⟨bv2, hU2, hO2⟩ := id S2
  obtain ⟨a2, c2, rfl, _, _⟩ := hO2.slice
  have C2 := block_cell hU2
  simp only [unc] at C2
  go_wp2_with fail
  refine (sum_any _ _ hB2 hl2 w2 hO2.rd).mono ?_
  rintro e w3 ⟨rfl, l3⟩
  have l3' : Later w2 w3 := l3
  have S3 := S2.later l3'
  have hc := Mt.cks_bd z2
  clear C2 hU2 hO2
  go_wp2_with fail
  refine (uput_any base g u z2 2 _ w3 S3.ur (Nat.le_trans hb (Nat.le_trans b1.size (Nat.le_trans b2.size l3'.size))) hl2 hc).mono ?_
  rw [HE2.out, ← HR.out]
  rintro e w4 ⟨rfl, S4, b4⟩
  go_wp2_with fail
  go_end0
  exact ⟨rfl, S4, b1.trans (b2.trans ((But.of l3').trans b4))⟩

set_option maxHeartbeats 2000000 in
theorem uframe_any (base : Nat) (g : Nat) (u : Un) (zs : List Int) (w : World) (h : UR w g u zs) (hb : base ≤ w.heap.size) (hl : zs.length ≤ 140737488355328) (h8 : 8 ≤ zs.length) (hu : UOk u) :
    Calls Tryd.prog 61 #[.pointer (some ⟨g, 0, none⟩)] w fun e w' => UQ base w g u (rwG u.b zs) e w' := by
  obtain ⟨hs, hd, ha, hbb⟩ := hu
  have H1 := hide (uput_any base g u zs 6 u.b w h hb hl hbb)
  rw [putAt2_lit zs 6 6 u.b rfl (by omega)] at H1
  obtain ⟨bv, hU, _⟩ := id h
  have CU := block_cell hU
  simp only [unc] at CU
  go_enter Tryd.func61, Tryd.ntmps61
  go_wp2_with fail
  refine H1.out.mono ?_
  rintro e w1 ⟨rfl, S1, b1⟩
  go_wp2_with fail
  go_end0
  exact ⟨rfl, S1, b1⟩
end Go.Proofs.YtomdccljoaieeaaDoor

/- Package mangle: the map of what is done, and Rewrite. -/
namespace Go.Proofs.YtomdccljoaieeaaDoor
open Go.RowKit Go.Shelf
set_option maxRecDepth 100000
set_option linter.unusedVariables false
set_option linter.unusedSimpArgs false

/-- A packet's cells of zeros. -/
abbrev zpk : List Value := [.int .u8 0, .int .u16 0, .bool false, .int .u8 0, .int .u8 0, .int .u32 0, .int .u32 0, .slice none 0 0, .slice none 0 0]

abbrev mth (f : FuncId) (g : Nat) : Value := .func (.func f) #[.pointer (some ⟨g, 0, none⟩)] #[]
def whE (g : Nat) : Array MapEntry := #[⟨.int .u8 6, mth 58 g, 0⟩, ⟨.int .u8 17, mth 59 g, 1⟩, ⟨.int .u8 1, mth 60 g, 2⟩, ⟨.int .u8 47, mth 61 g, 3⟩]

set_option maxHeartbeats 1000000 in
theorem whole_any (g : Nat) (w : World) : Calls Tryd.prog 33 #[.pointer (some ⟨g, 0, none⟩)] w fun e w' => ∃ m, e = .returned (.map (some m)) ∧ Later w w' ∧ w'.heap[m]? = some (.map (whE g) 4) := by
  have hmm := @run_makeMap Tryd.prog
  have hb0 : Below w.heap.size w (w.alloc (.map #[] 0)) := (Below.refl _ _).alloc (Nat.le_refl _) _
  have hM0 := heap_alloc_new w (.map #[] 0)
  obtain ⟨w1, r1, m1, l1⟩ := run_insq (P := Tryd.prog) Tryd.underlying98 Tryd.underlying5 hM0 6 (mth 58 g) (by kernel_rfl)
  obtain ⟨w2, r2, m2, l2⟩ := run_insq (P := Tryd.prog) Tryd.underlying98 Tryd.underlying5 m1 17 (mth 59 g) (by kernel_rfl)
  obtain ⟨w3, r3, m3, l3⟩ := run_insq (P := Tryd.prog) Tryd.underlying98 Tryd.underlying5 m2 1 (mth 60 g) (by kernel_rfl)
  obtain ⟨w4, r4, m4, l4⟩ := run_insq (P := Tryd.prog) Tryd.underlying98 Tryd.underlying5 m3 47 (mth 61 g) (by kernel_rfl)
  have hb4 : Below w.heap.size w w4 := (((hb0.trans (l1 _ (Nat.le_refl _))).trans (l2 _ (Nat.le_refl _))).trans (l3 _ (Nat.le_refl _))).trans (l4 _ (Nat.le_refl _))
  clear m1 m2 m3 l1 l2 l3 l4 hM0 hb0
  have M4 := hide m4
  clear m4
  go_enter Tryd.func33, Tryd.ntmps33
  go_wp2_with fail
  go_ret
  exact ⟨_, rfl, hb4, M4.out⟩

theorem run_findv {P : Program} {q : IntKind} {t kt et : TypeId} (ht : P.underlying t = some (.map kt et)) (hk : P.underlying kt = some (.int q)) {w : World} {b : Nat} {es : Array MapEntry} {c : Nat} (hb : w.heap[b]? = some (.map es c)) (z : Int) (v : Value) (j : Nat)
    (hf : Instr.findNow (.int q) (.int q z) es.toList 0 = some (some (j, v))) : (Instr.lookup t (.map (some b)) (.int q z) false).run P w = .ok v w := by
  have hc : (Instr.checkKey es.isEmpty 10000 kt (.int q z)).run P w = .ok () w := MapKept.run_checkKey (k := .int q z) hk (by simp [MapKept.IsKey]) _ 9999
  simp [Instr.lookup, run_underlying ht, MapKept.run_getObj_map hb, hc, MapKept.run_findKey hk hf, Result.andThen]

/-- What is done of a protocol that has a tuple. -/
def uf (pr : Int) : FuncId := if pr = 6 then 58 else if pr = 17 then 59 else if pr = 1 then 60 else 61
def pok (pr : Int) : Prop := pr = 6 ∨ pr = 17 ∨ pr = 1 ∨ pr = 47
theorem ofe_pok {pr src dst : Int} {zd : List Int} (h : ofe pr src dst zd = 0) : pok pr := by
  unfold ofe at h
  unfold pok
  split at h
  · omega
  split at h
  · omega
  split at h
  · omega
  split at h
  · omega
  · omega
theorem look_uf {pr : Int} (h : pok pr) (g : Nat) {w : World} {m : Nat} (hm : w.heap[m]? = some (.map (whE g) 4)) : (Instr.lookup 98 (.map (some m)) (.int .u8 pr) false).run Tryd.prog w = .ok (mth (uf pr) g) w := by
  rcases h with rfl | rfl | rfl | rfl
  · exact run_findv Tryd.underlying98 Tryd.underlying5 hm 6 _ 0 (by kernel_rfl)
  · exact run_findv Tryd.underlying98 Tryd.underlying5 hm 17 _ 1 (by kernel_rfl)
  · exact run_findv Tryd.underlying98 Tryd.underlying5 hm 1 _ 2 (by kernel_rfl)
  · exact run_findv Tryd.underlying98 Tryd.underlying5 hm 47 _ 3 (by kernel_rfl)
theorem cf_uf {pr : Int} (h : pok pr) (args : Array Value) (w : World) : (callFunc (uf pr) args).run Tryd.prog w = .ok (.enter (uf pr) args) w := by
  rcases h with rfl | rfl | rfl | rfl <;> kernel_rfl
theorem uf_any {pr : Int} {src dst : Int} (base : Nat) (g : Nat) (u : Un) (zs : List Int) (w : World) (hB : Mt.By zs) (h : UR w g u zs) (hb : base ≤ w.heap.size) (hl : 12 + zs.length ≤ 140737488355328) (hu : UOk u) (hpr : u.pr = pr) (ho : ofe pr src dst zs = 0) :
    Calls Tryd.prog (uf pr) #[.pointer (some ⟨g, 0, none⟩)] w fun e w' => UQ base w g u (rwD pr u.s u.d u.a u.b zs) e w' := by
  have hs := hu.1
  have hd := hu.2.1
  have ha := hu.2.2.1
  have hbb := hu.2.2.2
  unfold ofe at ho
  by_cases h6 : pr = 6
  · subst h6
    rw [if_pos rfl] at ho
    rw [show uf 6 = 58 from rfl, show rwD 6 u.s u.d u.a u.b zs = rwT u.s u.d u.a u.b zs from by unfold rwD; rw [if_pos rfl]]
    exact usegment_any base g u zs w hB h hb hl (rwT_pte (s := u.s) (d := u.d) (a := u.a) (b := u.b) hB ho hs hd ha hbb).2.2.2.1 hu hpr
  rw [if_neg h6] at ho
  by_cases h17 : pr = 17
  · subst h17
    rw [if_pos rfl] at ho
    rw [show uf 17 = 59 from rfl, show rwD 17 u.s u.d u.a u.b zs = rwU u.s u.d u.a u.b zs from by unfold rwD; rw [if_neg h6, if_pos rfl]]
    exact udatagram_any base g u zs w hB h hb hl (rwU_pue (s := u.s) (d := u.d) (a := u.a) (b := u.b) hB ho hs hd ha hbb).2 hu hpr
  rw [if_neg h17] at ho
  by_cases h1 : pr = 1
  · subst h1
    rw [if_pos rfl] at ho
    rw [show uf 1 = 60 from rfl, show rwD 1 u.s u.d u.a u.b zs = rwI u.a zs from by unfold rwD; rw [if_neg h6, if_neg h17, if_pos rfl]]
    exact umessage_any base g u zs w hB h hb (by omega) (rwI_oie (a := u.a) hB ho ha).2.2.2 hu
  rw [if_neg h1] at ho
  by_cases h47 : pr = 47
  · subst h47
    rw [if_pos rfl] at ho
    rw [show uf 47 = 61 from rfl, show rwD 47 u.s u.d u.a u.b zs = rwG u.b zs from by unfold rwD; rw [if_neg h6, if_neg h17, if_neg h1]]
    exact uframe_any base g u zs w h hb (by omega) (rwG_pge (b := u.b) ho).2.2 hu
  · rw [if_neg h47] at ho
    omega

/-- What Rewrite refuses with (0: nothing). -/
def rwe (pr tp src dst : Int) (lo : Nat) (zd : List Int) : Int := if pr ≠ tp then 12 else if ofe pr src dst zd ≠ 0 then ofe pr src dst zd else flt lo zd.length
end Go.Proofs.YtomdccljoaieeaaDoor
