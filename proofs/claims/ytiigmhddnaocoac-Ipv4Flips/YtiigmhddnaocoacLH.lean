/- The walk of the law Ipv4Flips. -/
import Derived.Test.YtiigmhddnaocoacVR
import Derived.Test.YtiigmhddnaocoacMb
namespace Go.Proofs.Ytiigmhddnaocoac
open Go.RowKit Go.Shelf
set_option linter.unusedVariables false
set_option linter.unusedSimpArgs false

theorem same_zero (w : World) : Calls Try.prog 15 #[.agg zc.toArray, .agg zc.toArray] w fun e w' => e = .returned (.bool true) ∧ Below w.heap.size w w' :=
  (rsame_any 0 0 0 0 0 0 0 0 0 0 0 0 false false (.slice none 0 0) (.slice none 0 0) (.slice none 0 0) (.slice none 0 0) [] [] [] [] w Mt.By.nil Mt.By.nil Mt.By.nil Mt.By.nil (rd_zero w) (rd_zero w) (rd_zero w) (rd_zero w)).mono fun e w' ⟨he, hb⟩ => ⟨he, hb⟩
theorem flt_fit {lo ld : Nat} (hf : flt lo ld = 0) : lo ≤ 40 ∧ lo % 4 = 0 ∧ 20 + lo + ld ≤ 65535 := by
  unfold flt at hf
  split at hf <;> first | omega | (split at hf <;> omega)
theorem bb_by (tos id ttl proto src dst : Int) (keep : Bool) (zo zd : List Int) (hBo : Mt.By zo) (hBd : Mt.By zd) (hv : zo.length ≤ 40 ∧ zo.length % 4 = 0 ∧ 20 + zo.length + zd.length ≤ 65535)
    (ht : 0 ≤ tos ∧ tos ≤ 255) (hid : 0 ≤ id ∧ id ≤ 65535) (htt : 0 ≤ ttl ∧ ttl ≤ 255) (hpr : 0 ≤ proto ∧ proto ≤ 255) (hsr : 0 ≤ src ∧ src ≤ 4294967295) (hds : 0 ≤ dst ∧ dst ≤ 4294967295) :
    Mt.By (h20 tos id keep ttl proto src dst zo.length (20 + zo.length + zd.length) 0 ++ zo) ∧ Mt.By (hdr tos id keep ttl proto src dst zo (20 + zo.length + zd.length) ++ zd) := by
  refine ⟨(h20_by tos id keep ttl proto src dst zo.length (20 + zo.length + zd.length) 0 hv.1 ht hid htt hpr hsr hds (by omega) (by omega)).append hBo, ?_⟩
  rw [hdr_eq]
  exact ((h20_by tos id keep ttl proto src dst zo.length (20 + zo.length + zd.length) _ hv.1 ht hid htt hpr hsr hds (by omega) (Mt.cks_bd _)).append hBo).append hBd

/-- A bit turned: so much more, or less. -/
theorem nat_flip : ∀ r < 8, ∀ n < 256, (n ^^^ 2 ^ r = n + 2 ^ r ∨ n = (n ^^^ 2 ^ r) + 2 ^ r) ∧ n ^^^ 2 ^ r < 256 := by decide +kernel
theorem u8_flip (z : Int) (hz : 0 ≤ z ∧ z ≤ 255) (r : Nat) (hr : r < 8) (p : Int) (hp : p = ((2 ^ r : Nat) : Int)) : (bits .xor .u8 z p = z + p ∨ bits .xor .u8 z p = z - p) ∧ 0 ≤ bits .xor .u8 z p ∧ bits .xor .u8 z p ≤ 255 := by
  obtain ⟨n, rfl⟩ := Int.eq_ofNat_of_zero_le hz.1
  subst hp
  have h2 : 2 ^ r < 256 := by
    have : r = 0 ∨ r = 1 ∨ r = 2 ∨ r = 3 ∨ r = 4 ∨ r = 5 ∨ r = 6 ∨ r = 7 := by omega
    rcases this with rfl | rfl | rfl | rfl | rfl | rfl | rfl | rfl <;> decide
  have e : bits .xor .u8 (n : Int) ((2 ^ r : Nat) : Int) = ((n ^^^ 2 ^ r : Nat) : Int) := u8_xor_nat n (2 ^ r) (by omega) h2
  obtain ⟨h3, h4⟩ := nat_flip r hr n (by omega)
  rw [e]
  refine ⟨?_, by omega, by omega⟩
  rcases h3 with h3 | h3
  · left; omega
  · right; omega

/-- One bit of a header turned, but of its length: it is refused. -/
theorem flip_wrong (tos id : Int) (keep : Bool) (ttl proto src dst : Int) (zo zd : List Int) (h1 : zo.length ≤ 40) (h2 : zo.length % 4 = 0)
    (hB : Mt.By (h20 tos id keep ttl proto src dst zo.length (20 + zo.length + zd.length) 0 ++ zo)) (j r : Nat) (hr : r < 8) (hj : j < 20 + zo.length) (h4 : 4 ≤ 8 * j + r) (y : Int)
    (hy : y = (hdr tos id keep ttl proto src dst zo (20 + zo.length + zd.length) ++ zd)[j]?.getD 0 + ((2 ^ r : Nat) : Int) ∨ y = (hdr tos id keep ttl proto src dst zo (20 + zo.length + zd.length) ++ zd)[j]?.getD 0 - ((2 ^ r : Nat) : Int)) :
    rde false ((hdr tos id keep ttl proto src dst zo (20 + zo.length + zd.length) ++ zd).set j y) ≠ 0 := by
  intro h0
  obtain ⟨m0, _, k0⟩ := rde_zero h0
  obtain ⟨_, m2, _, _, _⟩ := msr_zero m0
  obtain ⟨c1, _, _⟩ := chk_zero k0
  have e0 := hdr_0 tos id keep ttl proto src dst zo zd (20 + zo.length + zd.length)
  have e3 := hl4_hdr tos id keep ttl proto src dst zo zd (20 + zo.length + zd.length) h1 h2
  have et := hdr_take tos id keep ttl proto src dst zo zd (20 + zo.length + zd.length)
  have eg := hdr_good tos id keep ttl proto src dst zo (20 + zo.length + zd.length) hB
  have hlen : (hdr tos id keep ttl proto src dst zo (20 + zo.length + zd.length)).length = 20 + zo.length := hdr_len _ _ _ _ _ _ _ _ _
  have hrr : r = 0 ∨ r = 1 ∨ r = 2 ∨ r = 3 ∨ r = 4 ∨ r = 5 ∨ r = 6 ∨ r = 7 := by omega
  have hp : ((2 ^ r : Nat) : Int) = 1 ∨ ((2 ^ r : Nat) : Int) = 2 ∨ ((2 ^ r : Nat) : Int) = 4 ∨ ((2 ^ r : Nat) : Int) = 8 ∨ ((2 ^ r : Nat) : Int) = 16 ∨ ((2 ^ r : Nat) : Int) = 32 ∨ ((2 ^ r : Nat) : Int) = 64 ∨ ((2 ^ r : Nat) : Int) = 128 := by
    rcases hrr with rfl | rfl | rfl | rfl | rfl | rfl | rfl | rfl <;> simp
  have hp4 : 4 ≤ r → ((2 ^ r : Nat) : Int) = 16 ∨ ((2 ^ r : Nat) : Int) = 32 ∨ ((2 ^ r : Nat) : Int) = 64 ∨ ((2 ^ r : Nat) : Int) = 128 := by
    intro h
    rcases hrr with rfl | rfl | rfl | rfl | rfl | rfl | rfl | rfl <;> simp at h ⊢
  generalize ((2 ^ r : Nat) : Int) = p at *
  rw [← et] at eg
  by_cases hj0 : j = 0
  · subst hj0
    have hs : ((hdr tos id keep ttl proto src dst zo (20 + zo.length + zd.length) ++ zd).set 0 y)[0]?.getD 0 = y := by
      rw [List.getElem?_set_self (by rw [List.length_append, hlen]; omega)]; rfl
    rw [hs] at m2
    have := hp4 (by omega)
    omega
  · have hs : hl4 ((hdr tos id keep ttl proto src dst zo (20 + zo.length + zd.length) ++ zd).set j y) = ((20 + zo.length : Nat) : Int) := by
      rw [← e3]; unfold hl4; rw [List.getElem?_set_ne (by omega)]
    rw [hs, Int.toNat_natCast, List.take_set, et] at c1
    have hg1 := Mt.fd_eq _ (show Mt.fd (Mt.tw true (hdr tos id keep ttl proto src dst zo (20 + zo.length + zd.length))) = 65535 from by rw [et] at eg; unfold Mt.cks at eg; omega)
    have hg2 := Mt.fd_eq _ (show Mt.fd (Mt.tw true ((hdr tos id keep ttl proto src dst zo (20 + zo.length + zd.length)).set j y)) = 65535 from by unfold Mt.cks at c1; omega)
    rw [Mt.tw_set true _ j y (by omega)] at hg2
    rw [List.getElem?_append_left (by omega)] at hy
    generalize (hdr tos id keep ttl proto src dst zo (20 + zo.length + zd.length))[j]?.getD 0 = z at *
    generalize Mt.tw true (hdr tos id keep ttl proto src dst zo (20 + zo.length + zd.length)) = T at *
    have hd : y - z = p ∨ y - z = -p := by omega
    generalize y - z = d at *
    by_cases htu : Mt.turn true j = true
    · rw [if_pos htu] at hg2
      omega
    · rw [if_neg htu] at hg2
      omega

set_option maxHeartbeats 8000000 in
theorem walk_Ipv4Flips (w : World) (tos id ttl proto src dst : Int) (keep : Bool) (so sd : Value) (zo zd : List Int) (hBo : Mt.By zo) (hBd : Mt.By zd) (hIo : Rd w.heap.size w so zo) (hId : Rd w.heap.size w sd zd) (hlo : zo.length ≤ 140737488355328) (hld : zd.length ≤ 140737488355328)
    (ht : 0 ≤ tos ∧ tos ≤ 255) (hid : 0 ≤ id ∧ id ≤ 65535) (htt : 0 ≤ ttl ∧ ttl ≤ 255) (hpr : 0 ≤ proto ∧ proto ≤ 255) (hsr : 0 ≤ src ∧ src ≤ 4294967295) (hds : 0 ≤ dst ∧ dst ≤ 4294967295)
    (n : Int) (hn : 0 ≤ n ∧ n ≤ 65535) :
    Calls Try.prog 7 #[.agg #[.int .u8 tos, .int .u16 id, .bool keep, .int .u8 ttl, .int .u8 proto, .int .u32 src, .int .u32 dst, so, sd], .int .u16 n] w fun e w' => e = .returned (.bool true) ∧ Below w.heap.size w w' := by
  obtain ⟨i0, hi, hz0, hz1, hz2⟩ := info_parts info_u8
  obtain ⟨ao, co, rfl, hl1, hm1⟩ := hIo.slice
  obtain ⟨ad, cd, rfl, hl2, hm2⟩ := hId.slice
  have hbox : Below w.heap.size w (w.alloc (.cells #[.int .u8 tos, .int .u16 id, .bool keep, .int .u8 ttl, .int .u8 proto, .int .u32 src, .int .u32 dst, .slice ao zo.length co, .slice ad zd.length cd] 26)) := (Below.refl _ _).alloc (Nat.le_refl _) _
  have hcell := cell_new w #[.int .u8 tos, .int .u16 id, .bool keep, .int .u8 ttl, .int .u8 proto, .int .u32 src, .int .u32 dst, .slice ao zo.length co, .slice ad zd.length cd] 26
  by_cases hf : flt zo.length zd.length = 0
  · have hv := flt_fit hf
    have H8 := hide hcell
    clear hcell hf
    go_enter Try.func7, Try.ntmps7
    go_wp2_with fail
    refine (build_yes tos id ttl proto src dst keep _ _ zo zd _ hBo ((hIo.below hbox).mono (by simp)) ((hId.below hbox).mono (by simp)) hv.1 hv.2.1 hv.2.2 ht hid htt hpr hsr hds).mono ?_
    rintro e w1 ⟨v1, rfl, hO1, hb1⟩
    obtain ⟨hBh, hBb⟩ := bb_by tos id ttl proto src dst keep zo zd hBo hBd hv ht hid htt hpr hsr hds
    have hlen : (hdr tos id keep ttl proto src dst zo (20 + zo.length + zd.length) ++ zd).length = 20 + zo.length + zd.length := by rw [List.length_append, hdr_len]
    have hfl := fun j r hr hj h4 y hy => flip_wrong tos id keep ttl proto src dst zo zd hv.1 hv.2.1 hBh j r hr hj h4 y hy
    generalize hdr tos id keep ttl proto src dst zo (20 + zo.length + zd.length) ++ zd = bb at *
    have Hfl := hide hfl
    clear hfl
    have hI1 := hO1.rd
    obtain ⟨a1, cap1, rfl, hl3, hm3⟩ := hO1.slice
    rw [hlen] at hl3 hI1 hO1 ⊢
    have hw1 := hbox.trans (hb1.mono (by simp))
    have b7 : w1.cell? ⟨w.heap.size, 7, none⟩ = some (.slice ao zo.length co) := (hb1.cell (p := ⟨w.heap.size, 7, none⟩) (by simp)).trans (H8.out 7)
    have t1 : ¬ ((20 + zo.length + zd.length : Nat) : Int) < 20 + zo.length := by omega
    have t2 : ¬ ((20 : Int) + zo.length) * 8 = 0 := by omega
    clear H8
    obtain ⟨kn, hkn⟩ := Int.eq_ofNat_of_zero_le hn.1
    subst hkn
    have hk : (kn : Int) % ((20 + (zo.length : Int)) * 8) = ((kn % ((20 + zo.length) * 8) : Nat) : Int) := by simp
    have hkl : kn % ((20 + zo.length) * 8) < (20 + zo.length) * 8 := Nat.mod_lt _ (by omega)
    generalize kn % ((20 + zo.length) * 8) = k at *
    by_cases h4 : k < 4
    · have t4 : (k : Int) < 4 := by omega
      go_wp2_with fail
      refine (live2_any _).mono ?_
      rintro e w2 ⟨rfl, hb2⟩
      go_wp2
      go_ret
      exact ⟨rfl, hw1.trans (hb2.mono hw1.size)⟩
    · have t4 : ¬ (k : Int) < 4 := by omega
      have hb0 : Below w1.heap.size w1 (w1.alloc (.cells #[] 5)) := (Below.refl _ w1).alloc (Nat.le_refl _) _
      have hR1 : Rd w1.heap.size (w1.alloc (.cells #[] 5)) (.slice a1 (20 + zo.length + zd.length) cap1) bb := hI1.below hb0
      have HLn := hide hlen
      clear hlen
      go_wp2_with (at_builtin; refine wpList_app _ rfl (.tmp 37) (.tmp 38) 24 rfl w1.heap.size 5 i0 Try.underlying24 hi hz0 hz1 hz2 _ [] rfl (own_empty w1 _) w1.heap.size _ bb rfl hR1 (by have := HLn.out; simp; omega) (by simp) ?_; intro v0 w0 hown0 hg0; have hbw0 := below_app hb0 (own_empty w1 _) hg0 (Nat.le_refl _) hb0.size; clear hg0; have hO0 := Ow.of_row hown0; clear hown0; simp only [List.nil_append] at hO0; obtain ⟨a0, cap0, rfl, hp0, hm0⟩ := hO0.slice; rw [HLn.out] at hO0 hp0 ⊢)
      obtain ⟨g, hgg, hlq, hgw, hcf, hst⟩ := hO0.at (by have := HLn.out; omega)
      subst hgg
      have hj : k / 8 < 20 + zo.length := by omega
      have hr : k % 8 < 8 := Nat.mod_lt _ (by omega)
      have h48 : 4 ≤ 8 * (k / 8) + k % 8 := by omega
      have t5 : (k : Int) / 8 = ((k / 8 : Nat) : Int) := by omega
      have t6 : (k : Int) % 8 = ((k % 8 : Nat) : Int) := by omega
      generalize k / 8 = j at *
      generalize k % 8 = r at *
      have x0 := hcf j (by have := HLn.out; omega)
      have y0 := x0.1
      have z0 := x0.2
      have bz := hBb.at j
      have hst' := hst j
      have t7 : (j : Int) < ((20 + zo.length + zd.length : Nat) : Int) := by omega
      have t8 : j < 20 + zo.length + zd.length := by omega
      clear x0 hcf hlq hst
      have HW := fun y hy => Hfl.out j r hr hj h48 y hy
      have hBs := fun y (hy : 0 ≤ y ∧ y ≤ 255) => hBb.set j hy
      have HW' := hide HW
      have HB' := hide hBs
      have HS' := hide hst'
      have hjl : j < bb.length := by have := HLn.out; omega
      have HJ := hide hjl
      clear HW hBs hst' hjl Hfl
      generalize bb[j]?.getD 0 = z at *
      have hcase : r = 0 ∨ r = 1 ∨ r = 2 ∨ r = 3 ∨ r = 4 ∨ r = 5 ∨ r = 6 ∨ r = 7 := by omega
      rcases hcase with rfl | rfl | rfl | rfl | rfl | rfl | rfl | rfl
      · have hxx := u8_flip z bz 0 (by omega) 1 (by decide)
        have HX := hide hxx
        clear hxx
        go_region
        generalize bits .xor .u8 z 1 = y at *
        have hne := HW'.out y HX.out.1
        have hOs := (HS'.out y HJ.out).drew 1
        have hBy := HB'.out y HX.out.2
        have hbs : Below w.heap.size w (w0.setCell ⟨g, j, none⟩ (.int .u8 y)).drew := ((hw1.trans (hbw0.mono hw1.size)).setCell (p := ⟨g, j, none⟩) (Nat.le_trans hw1.size hgw) _).drew
        have hls : (bb.set j y).length = 20 + zo.length + zd.length := by simp; exact HLn.out
        have hOs' : Ow w1.heap.size (w0.setCell ⟨g, j, none⟩ (.int .u8 y)).drew _ (bb.set j y) := hOs
        have HLs := hide hls
        clear hls hOs
        generalize (w0.setCell ⟨g, j, none⟩ (.int .u8 y)).drew = W2 at *
        generalize bb.set j y = cc at *
        have Hne := hide hne
        clear hne y0 z0 bz
        go_wp2_with fail
        refine (parse_any _ cc W2 hBy (by have := HLs.out; omega) hOs'.rd).mono ?_
        rintro e w3 ⟨hb3, ⟨h3, rfl⟩ | ⟨h3, _⟩⟩
        · have hw3 := hbs.trans (hb3.mono hbs.size)
          have hA := hw3.alloc hw3.size (.cells zc.toArray 26)
          have t9 : (rde false cc != 0) = true := by simpa using h3
          have H3 := hide h3
          clear h3
          go_wp2_with fail
          refine (live2_any _).mono ?_
          rintro e w4 ⟨rfl, hb4⟩
          have c4 : ∀ i, w4.cell? ⟨w3.heap.size, i, none⟩ = zc.toArray[i]? := fun i => (hb4.cell (p := ⟨w3.heap.size, i, none⟩) (by simp)).trans (cell_new w3 _ _ i)
          have hw4 := hA.trans (hb4.mono hA.size)
          have t10 : (rde false cc != 0) = true := by simpa using H3.out
          go_wp2_with fail
          refine (same_zero _).mono ?_
          rintro e w5 ⟨rfl, hb5⟩
          go_wp2
          go_ret
          exact ⟨rfl, hw4.trans (hb5.mono hw4.size)⟩
        · exact absurd h3 Hne.out
      · have hxx := u8_flip z bz 1 (by omega) 2 (by decide)
        have HX := hide hxx
        clear hxx
        go_region
        generalize bits .xor .u8 z 2 = y at *
        have hne := HW'.out y HX.out.1
        have hOs := (HS'.out y HJ.out).drew 1
        have hBy := HB'.out y HX.out.2
        have hbs : Below w.heap.size w (w0.setCell ⟨g, j, none⟩ (.int .u8 y)).drew := ((hw1.trans (hbw0.mono hw1.size)).setCell (p := ⟨g, j, none⟩) (Nat.le_trans hw1.size hgw) _).drew
        have hls : (bb.set j y).length = 20 + zo.length + zd.length := by simp; exact HLn.out
        have hOs' : Ow w1.heap.size (w0.setCell ⟨g, j, none⟩ (.int .u8 y)).drew _ (bb.set j y) := hOs
        have HLs := hide hls
        clear hls hOs
        generalize (w0.setCell ⟨g, j, none⟩ (.int .u8 y)).drew = W2 at *
        generalize bb.set j y = cc at *
        have Hne := hide hne
        clear hne y0 z0 bz
        go_wp2_with fail
        refine (parse_any _ cc W2 hBy (by have := HLs.out; omega) hOs'.rd).mono ?_
        rintro e w3 ⟨hb3, ⟨h3, rfl⟩ | ⟨h3, _⟩⟩
        · have hw3 := hbs.trans (hb3.mono hbs.size)
          have hA := hw3.alloc hw3.size (.cells zc.toArray 26)
          have t9 : (rde false cc != 0) = true := by simpa using h3
          have H3 := hide h3
          clear h3
          go_wp2_with fail
          refine (live2_any _).mono ?_
          rintro e w4 ⟨rfl, hb4⟩
          have c4 : ∀ i, w4.cell? ⟨w3.heap.size, i, none⟩ = zc.toArray[i]? := fun i => (hb4.cell (p := ⟨w3.heap.size, i, none⟩) (by simp)).trans (cell_new w3 _ _ i)
          have hw4 := hA.trans (hb4.mono hA.size)
          have t10 : (rde false cc != 0) = true := by simpa using H3.out
          go_wp2_with fail
          refine (same_zero _).mono ?_
          rintro e w5 ⟨rfl, hb5⟩
          go_wp2
          go_ret
          exact ⟨rfl, hw4.trans (hb5.mono hw4.size)⟩
        · exact absurd h3 Hne.out
      · have hxx := u8_flip z bz 2 (by omega) 4 (by decide)
        have HX := hide hxx
        clear hxx
        go_region
        generalize bits .xor .u8 z 4 = y at *
        have hne := HW'.out y HX.out.1
        have hOs := (HS'.out y HJ.out).drew 1
        have hBy := HB'.out y HX.out.2
        have hbs : Below w.heap.size w (w0.setCell ⟨g, j, none⟩ (.int .u8 y)).drew := ((hw1.trans (hbw0.mono hw1.size)).setCell (p := ⟨g, j, none⟩) (Nat.le_trans hw1.size hgw) _).drew
        have hls : (bb.set j y).length = 20 + zo.length + zd.length := by simp; exact HLn.out
        have hOs' : Ow w1.heap.size (w0.setCell ⟨g, j, none⟩ (.int .u8 y)).drew _ (bb.set j y) := hOs
        have HLs := hide hls
        clear hls hOs
        generalize (w0.setCell ⟨g, j, none⟩ (.int .u8 y)).drew = W2 at *
        generalize bb.set j y = cc at *
        have Hne := hide hne
        clear hne y0 z0 bz
        go_wp2_with fail
        refine (parse_any _ cc W2 hBy (by have := HLs.out; omega) hOs'.rd).mono ?_
        rintro e w3 ⟨hb3, ⟨h3, rfl⟩ | ⟨h3, _⟩⟩
        · have hw3 := hbs.trans (hb3.mono hbs.size)
          have hA := hw3.alloc hw3.size (.cells zc.toArray 26)
          have t9 : (rde false cc != 0) = true := by simpa using h3
          have H3 := hide h3
          clear h3
          go_wp2_with fail
          refine (live2_any _).mono ?_
          rintro e w4 ⟨rfl, hb4⟩
          have c4 : ∀ i, w4.cell? ⟨w3.heap.size, i, none⟩ = zc.toArray[i]? := fun i => (hb4.cell (p := ⟨w3.heap.size, i, none⟩) (by simp)).trans (cell_new w3 _ _ i)
          have hw4 := hA.trans (hb4.mono hA.size)
          have t10 : (rde false cc != 0) = true := by simpa using H3.out
          go_wp2_with fail
          refine (same_zero _).mono ?_
          rintro e w5 ⟨rfl, hb5⟩
          go_wp2
          go_ret
          exact ⟨rfl, hw4.trans (hb5.mono hw4.size)⟩
        · exact absurd h3 Hne.out
      · have hxx := u8_flip z bz 3 (by omega) 8 (by decide)
        have HX := hide hxx
        clear hxx
        go_region
        generalize bits .xor .u8 z 8 = y at *
        have hne := HW'.out y HX.out.1
        have hOs := (HS'.out y HJ.out).drew 1
        have hBy := HB'.out y HX.out.2
        have hbs : Below w.heap.size w (w0.setCell ⟨g, j, none⟩ (.int .u8 y)).drew := ((hw1.trans (hbw0.mono hw1.size)).setCell (p := ⟨g, j, none⟩) (Nat.le_trans hw1.size hgw) _).drew
        have hls : (bb.set j y).length = 20 + zo.length + zd.length := by simp; exact HLn.out
        have hOs' : Ow w1.heap.size (w0.setCell ⟨g, j, none⟩ (.int .u8 y)).drew _ (bb.set j y) := hOs
        have HLs := hide hls
        clear hls hOs
        generalize (w0.setCell ⟨g, j, none⟩ (.int .u8 y)).drew = W2 at *
        generalize bb.set j y = cc at *
        have Hne := hide hne
        clear hne y0 z0 bz
        go_wp2_with fail
        refine (parse_any _ cc W2 hBy (by have := HLs.out; omega) hOs'.rd).mono ?_
        rintro e w3 ⟨hb3, ⟨h3, rfl⟩ | ⟨h3, _⟩⟩
        · have hw3 := hbs.trans (hb3.mono hbs.size)
          have hA := hw3.alloc hw3.size (.cells zc.toArray 26)
          have t9 : (rde false cc != 0) = true := by simpa using h3
          have H3 := hide h3
          clear h3
          go_wp2_with fail
          refine (live2_any _).mono ?_
          rintro e w4 ⟨rfl, hb4⟩
          have c4 : ∀ i, w4.cell? ⟨w3.heap.size, i, none⟩ = zc.toArray[i]? := fun i => (hb4.cell (p := ⟨w3.heap.size, i, none⟩) (by simp)).trans (cell_new w3 _ _ i)
          have hw4 := hA.trans (hb4.mono hA.size)
          have t10 : (rde false cc != 0) = true := by simpa using H3.out
          go_wp2_with fail
          refine (same_zero _).mono ?_
          rintro e w5 ⟨rfl, hb5⟩
          go_wp2
          go_ret
          exact ⟨rfl, hw4.trans (hb5.mono hw4.size)⟩
        · exact absurd h3 Hne.out
      · have hxx := u8_flip z bz 4 (by omega) 16 (by decide)
        have HX := hide hxx
        clear hxx
        go_region
        generalize bits .xor .u8 z 16 = y at *
        have hne := HW'.out y HX.out.1
        have hOs := (HS'.out y HJ.out).drew 1
        have hBy := HB'.out y HX.out.2
        have hbs : Below w.heap.size w (w0.setCell ⟨g, j, none⟩ (.int .u8 y)).drew := ((hw1.trans (hbw0.mono hw1.size)).setCell (p := ⟨g, j, none⟩) (Nat.le_trans hw1.size hgw) _).drew
        have hls : (bb.set j y).length = 20 + zo.length + zd.length := by simp; exact HLn.out
        have hOs' : Ow w1.heap.size (w0.setCell ⟨g, j, none⟩ (.int .u8 y)).drew _ (bb.set j y) := hOs
        have HLs := hide hls
        clear hls hOs
        generalize (w0.setCell ⟨g, j, none⟩ (.int .u8 y)).drew = W2 at *
        generalize bb.set j y = cc at *
        have Hne := hide hne
        clear hne y0 z0 bz
        go_wp2_with fail
        refine (parse_any _ cc W2 hBy (by have := HLs.out; omega) hOs'.rd).mono ?_
        rintro e w3 ⟨hb3, ⟨h3, rfl⟩ | ⟨h3, _⟩⟩
        · have hw3 := hbs.trans (hb3.mono hbs.size)
          have hA := hw3.alloc hw3.size (.cells zc.toArray 26)
          have t9 : (rde false cc != 0) = true := by simpa using h3
          have H3 := hide h3
          clear h3
          go_wp2_with fail
          refine (live2_any _).mono ?_
          rintro e w4 ⟨rfl, hb4⟩
          have c4 : ∀ i, w4.cell? ⟨w3.heap.size, i, none⟩ = zc.toArray[i]? := fun i => (hb4.cell (p := ⟨w3.heap.size, i, none⟩) (by simp)).trans (cell_new w3 _ _ i)
          have hw4 := hA.trans (hb4.mono hA.size)
          have t10 : (rde false cc != 0) = true := by simpa using H3.out
          go_wp2_with fail
          refine (same_zero _).mono ?_
          rintro e w5 ⟨rfl, hb5⟩
          go_wp2
          go_ret
          exact ⟨rfl, hw4.trans (hb5.mono hw4.size)⟩
        · exact absurd h3 Hne.out
      · have hxx := u8_flip z bz 5 (by omega) 32 (by decide)
        have HX := hide hxx
        clear hxx
        go_region
        generalize bits .xor .u8 z 32 = y at *
        have hne := HW'.out y HX.out.1
        have hOs := (HS'.out y HJ.out).drew 1
        have hBy := HB'.out y HX.out.2
        have hbs : Below w.heap.size w (w0.setCell ⟨g, j, none⟩ (.int .u8 y)).drew := ((hw1.trans (hbw0.mono hw1.size)).setCell (p := ⟨g, j, none⟩) (Nat.le_trans hw1.size hgw) _).drew
        have hls : (bb.set j y).length = 20 + zo.length + zd.length := by simp; exact HLn.out
        have hOs' : Ow w1.heap.size (w0.setCell ⟨g, j, none⟩ (.int .u8 y)).drew _ (bb.set j y) := hOs
        have HLs := hide hls
        clear hls hOs
        generalize (w0.setCell ⟨g, j, none⟩ (.int .u8 y)).drew = W2 at *
        generalize bb.set j y = cc at *
        have Hne := hide hne
        clear hne y0 z0 bz
        go_wp2_with fail
        refine (parse_any _ cc W2 hBy (by have := HLs.out; omega) hOs'.rd).mono ?_
        rintro e w3 ⟨hb3, ⟨h3, rfl⟩ | ⟨h3, _⟩⟩
        · have hw3 := hbs.trans (hb3.mono hbs.size)
          have hA := hw3.alloc hw3.size (.cells zc.toArray 26)
          have t9 : (rde false cc != 0) = true := by simpa using h3
          have H3 := hide h3
          clear h3
          go_wp2_with fail
          refine (live2_any _).mono ?_
          rintro e w4 ⟨rfl, hb4⟩
          have c4 : ∀ i, w4.cell? ⟨w3.heap.size, i, none⟩ = zc.toArray[i]? := fun i => (hb4.cell (p := ⟨w3.heap.size, i, none⟩) (by simp)).trans (cell_new w3 _ _ i)
          have hw4 := hA.trans (hb4.mono hA.size)
          have t10 : (rde false cc != 0) = true := by simpa using H3.out
          go_wp2_with fail
          refine (same_zero _).mono ?_
          rintro e w5 ⟨rfl, hb5⟩
          go_wp2
          go_ret
          exact ⟨rfl, hw4.trans (hb5.mono hw4.size)⟩
        · exact absurd h3 Hne.out
      · have hxx := u8_flip z bz 6 (by omega) 64 (by decide)
        have HX := hide hxx
        clear hxx
        go_region
        generalize bits .xor .u8 z 64 = y at *
        have hne := HW'.out y HX.out.1
        have hOs := (HS'.out y HJ.out).drew 1
        have hBy := HB'.out y HX.out.2
        have hbs : Below w.heap.size w (w0.setCell ⟨g, j, none⟩ (.int .u8 y)).drew := ((hw1.trans (hbw0.mono hw1.size)).setCell (p := ⟨g, j, none⟩) (Nat.le_trans hw1.size hgw) _).drew
        have hls : (bb.set j y).length = 20 + zo.length + zd.length := by simp; exact HLn.out
        have hOs' : Ow w1.heap.size (w0.setCell ⟨g, j, none⟩ (.int .u8 y)).drew _ (bb.set j y) := hOs
        have HLs := hide hls
        clear hls hOs
        generalize (w0.setCell ⟨g, j, none⟩ (.int .u8 y)).drew = W2 at *
        generalize bb.set j y = cc at *
        have Hne := hide hne
        clear hne y0 z0 bz
        go_wp2_with fail
        refine (parse_any _ cc W2 hBy (by have := HLs.out; omega) hOs'.rd).mono ?_
        rintro e w3 ⟨hb3, ⟨h3, rfl⟩ | ⟨h3, _⟩⟩
        · have hw3 := hbs.trans (hb3.mono hbs.size)
          have hA := hw3.alloc hw3.size (.cells zc.toArray 26)
          have t9 : (rde false cc != 0) = true := by simpa using h3
          have H3 := hide h3
          clear h3
          go_wp2_with fail
          refine (live2_any _).mono ?_
          rintro e w4 ⟨rfl, hb4⟩
          have c4 : ∀ i, w4.cell? ⟨w3.heap.size, i, none⟩ = zc.toArray[i]? := fun i => (hb4.cell (p := ⟨w3.heap.size, i, none⟩) (by simp)).trans (cell_new w3 _ _ i)
          have hw4 := hA.trans (hb4.mono hA.size)
          have t10 : (rde false cc != 0) = true := by simpa using H3.out
          go_wp2_with fail
          refine (same_zero _).mono ?_
          rintro e w5 ⟨rfl, hb5⟩
          go_wp2
          go_ret
          exact ⟨rfl, hw4.trans (hb5.mono hw4.size)⟩
        · exact absurd h3 Hne.out
      · have hxx := u8_flip z bz 7 (by omega) 128 (by decide)
        have HX := hide hxx
        clear hxx
        go_region
        generalize bits .xor .u8 z 128 = y at *
        have hne := HW'.out y HX.out.1
        have hOs := (HS'.out y HJ.out).drew 1
        have hBy := HB'.out y HX.out.2
        have hbs : Below w.heap.size w (w0.setCell ⟨g, j, none⟩ (.int .u8 y)).drew := ((hw1.trans (hbw0.mono hw1.size)).setCell (p := ⟨g, j, none⟩) (Nat.le_trans hw1.size hgw) _).drew
        have hls : (bb.set j y).length = 20 + zo.length + zd.length := by simp; exact HLn.out
        have hOs' : Ow w1.heap.size (w0.setCell ⟨g, j, none⟩ (.int .u8 y)).drew _ (bb.set j y) := hOs
        have HLs := hide hls
        clear hls hOs
        generalize (w0.setCell ⟨g, j, none⟩ (.int .u8 y)).drew = W2 at *
        generalize bb.set j y = cc at *
        have Hne := hide hne
        clear hne y0 z0 bz
        go_wp2_with fail
        refine (parse_any _ cc W2 hBy (by have := HLs.out; omega) hOs'.rd).mono ?_
        rintro e w3 ⟨hb3, ⟨h3, rfl⟩ | ⟨h3, _⟩⟩
        · have hw3 := hbs.trans (hb3.mono hbs.size)
          have hA := hw3.alloc hw3.size (.cells zc.toArray 26)
          have t9 : (rde false cc != 0) = true := by simpa using h3
          have H3 := hide h3
          clear h3
          go_wp2_with fail
          refine (live2_any _).mono ?_
          rintro e w4 ⟨rfl, hb4⟩
          have c4 : ∀ i, w4.cell? ⟨w3.heap.size, i, none⟩ = zc.toArray[i]? := fun i => (hb4.cell (p := ⟨w3.heap.size, i, none⟩) (by simp)).trans (cell_new w3 _ _ i)
          have hw4 := hA.trans (hb4.mono hA.size)
          have t10 : (rde false cc != 0) = true := by simpa using H3.out
          go_wp2_with fail
          refine (same_zero _).mono ?_
          rintro e w5 ⟨rfl, hb5⟩
          go_wp2
          go_ret
          exact ⟨rfl, hw4.trans (hb5.mono hw4.size)⟩
        · exact absurd h3 Hne.out
  · have hf' : (flt zo.length zd.length != 0) = true := by simp [hf]
    go_enter Try.func7, Try.ntmps7
    go_wp2_with fail
    refine (build_no tos id ttl proto src dst keep ao ad zo.length co zd.length cd _ hlo hld hf).mono ?_
    rintro e w1 ⟨rfl, hb1⟩
    clear hf hcell
    go_wp2_with fail
    refine (live2_any _).mono ?_
    rintro e w2 ⟨rfl, hb2⟩
    go_wp2
    go_ret
    have hw1 := hbox.trans (hb1.mono (by simp))
    exact ⟨rfl, hw1.trans (hb2.mono hw1.size)⟩
end Go.Proofs.Ytiigmhddnaocoac
