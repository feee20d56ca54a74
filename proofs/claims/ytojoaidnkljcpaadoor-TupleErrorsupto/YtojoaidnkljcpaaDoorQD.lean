/- What an error quotes: the mathematics of TupleErrors. -/
import Derived.Test.YtojoaidnkljcpaaDoorX6
import Derived.Test.YtojoaidnkljcpaaDoorX1
import Derived.Test.YtojoaidnkljcpaaDoorCL
namespace Go.Proofs.YtojoaidnkljcpaaDoor
open Go.RowKit Go.Shelf
set_option maxRecDepth 100000
set_option linter.unusedVariables false
set_option linter.unusedSimpArgs false

theorem rde_quoteT (tos id : Int) (keep : Bool) (ttl proto src dst : Int) (zo zt : List Int) (ld : Nat) (h1 : zo.length ≤ 40) (h2 : zo.length % 4 = 0) (hall : 20 + zo.length + ld ≤ 65535) (h8 : 8 ≤ zt.length) (hld : zt.length ≤ ld)
    (hB : Mt.By (h20 tos id keep ttl proto src dst zo.length (20 + zo.length + ld) 0 ++ zo)) :
    rde true (hdr tos id keep ttl proto src dst zo (20 + zo.length + ld) ++ zt) = 0 ∧ ral true (hdr tos id keep ttl proto src dst zo (20 + zo.length + ld) ++ zt) = ((20 + zo.length + zt.length : Nat) : Int) := by
  have hlen : (hdr tos id keep ttl proto src dst zo (20 + zo.length + ld) ++ zt).length = 20 + zo.length + zt.length := by rw [List.length_append, hdr_len]
  have e0 := hdr_0 tos id keep ttl proto src dst zo zt (20 + zo.length + ld)
  have e2 := hdr_wat2 tos id keep ttl proto src dst zo zt (20 + zo.length + ld)
  have e3 := hl4_hdr tos id keep ttl proto src dst zo zt (20 + zo.length + ld) h1 h2
  have e6 := hdr_wat6 tos id keep ttl proto src dst zo zt (20 + zo.length + ld)
  have et := hdr_take tos id keep ttl proto src dst zo zt (20 + zo.length + ld)
  have eg := hdr_good tos id keep ttl proto src dst zo (20 + zo.length + ld) hB
  rw [← et] at eg
  generalize hdr tos id keep ttl proto src dst zo (20 + zo.length + ld) ++ zt = bb at *
  have hm0 : msr bb = 0 := by unfold msr; rw [hlen, e0, e3, e2, if_neg (by omega), if_neg (by omega), if_neg (by omega), if_neg (by omega), if_neg (by omega)]
  have hr : ral true bb = ((20 + zo.length + zt.length : Nat) : Int) := by unfold ral; rw [if_pos rfl, e2, hlen]; omega
  have hc : chk bb = 0 := by unfold chk; rw [e3, e6, Int.toNat_natCast, if_neg (by simp [eg]), if_neg (by cases keep <;> simp), if_neg (by cases keep <;> simp)]
  refine ⟨?_, hr⟩
  unfold rde
  rw [hm0, hr, hlen, hc, e3, if_neg (by simp), if_neg (by omega), if_neg (by simp), if_neg (by omega)]

/-- A packet with a tuple has eight bytes of data. -/
theorem ofe_8 {proto src dst : Int} {zd : List Int} (h : ofe proto src dst zd = 0) : 8 ≤ zd.length := by
  unfold ofe at h
  by_cases h6 : proto = 6
  · rw [if_pos h6] at h
    unfold pte ptc at h
    by_cases hl : zd.length < 20
    · exfalso
      simp [hl] at h
    · omega
  rw [if_neg h6] at h
  by_cases h17 : proto = 17
  · rw [if_pos h17] at h
    unfold pue at h
    by_cases hl : zd.length < 8
    · exfalso
      simp [hl] at h
    · omega
  rw [if_neg h17] at h
  by_cases h1 : proto = 1
  · rw [if_pos h1] at h
    unfold oie pie at h
    by_cases hl : zd.length < 8
    · exfalso
      simp [hl] at h
    · omega
  rw [if_neg h1] at h
  by_cases h47 : proto = 47
  · rw [if_pos h47] at h
    unfold pge at h
    by_cases hl : zd.length < 8
    · exfalso
      simp [hl] at h
    · omega
  rw [if_neg h47] at h
  exact absurd h (by decide)
theorem watT (zd : List Int) (m k : Nat) (h : k + 2 ≤ m) : wat (zd.take m) k = wat zd k := by
  unfold wat
  rw [List.getElem?_take_of_lt (by omega), List.getElem?_take_of_lt (by omega)]
/-- What the first bytes of its data tell, is what it tells. -/
theorem qie_of {proto src dst : Int} {zd : List Int} (hB : Mt.By zd) (h : ofe proto src dst zd = 0) (m : Nat) (hm : 8 ≤ m) (hmz : m ≤ zd.length) : qie proto (zd.take m) = 0 ∧ qia proto (zd.take m) = ofa proto zd ∧ qib proto (zd.take m) = ofb proto zd := by
  unfold qie qia qib ofa ofb
  rw [watT zd m 0 (by omega), watT zd m 2 (by omega), watT zd m 4 (by omega), watT zd m 6 (by omega)]
  unfold ofe at h
  by_cases h6 : proto = 6
  · simp only [if_pos h6]; refine ⟨?_, ?_, ?_⟩ <;> first | rfl | trivial
  by_cases h17 : proto = 17
  · simp only [if_neg h6, if_pos h17]; refine ⟨?_, ?_, ?_⟩ <;> first | rfl | trivial
  by_cases h1 : proto = 1
  · simp only [if_neg h6, if_neg h17, if_pos h1] at h ⊢
    refine ⟨?_, by first | rfl | trivial, by first | rfl | trivial⟩
    unfold oie at h
    by_cases hp : pie 1 zd ≠ 0
    · rw [if_pos hp] at h; exact absurd h hp
    rw [if_neg hp] at h
    by_cases he : ecb (zd[0]?.getD 0) (zd[1]?.getD 0) = true
    · rw [List.getElem?_take_of_lt (by omega), List.getElem?_take_of_lt (by omega), if_pos he]
    · rw [if_neg he] at h; exact absurd h (by decide)
  by_cases h47 : proto = 47
  · simp only [if_neg h6, if_neg h17, if_neg h1, if_pos h47] at h ⊢
    have hg : getAt2 zd 6 = wat zd 6 := by unfold getAt2; rw [if_pos (by omega)]; rfl
    refine ⟨?_, by first | rfl | trivial, hg.symm⟩
    rw [if_neg]
    intro h4
    have ht : (zd.take m).take 8 = zd.take 8 := by rw [List.take_take]; congr 1; omega
    rw [ht] at h4
    have hl : (zd.take 8).length = 8 := by simp; omega
    have hz : bgz (zd.take 8) = bgz zd := by unfold bgz; simp
    have hw := wat_bd (hB.take 8) 4
    have hgd := ghd_bd (bgz zd)
    have hb4 : bgz zd = 4 := by
      unfold pge at h4
      rw [if_neg (by decide), if_neg (by omega), hz] at h4
      by_cases e : bgz zd = 4
      · exact e
      · rw [if_neg e] at h4
        by_cases e2 : ((zd.take 8).length : Int) < ghd (bgz zd) + wat (zd.take 8) 4
        · rw [if_pos e2] at h4; exact absurd h4 (by decide)
        · rw [if_neg e2, if_neg (by omega)] at h4; exact absurd h4 (by decide)
    unfold pge at h
    rw [if_neg (by decide), if_neg (by omega), if_pos hb4] at h
    exact absurd h (by decide)
  simp only [if_neg h6, if_neg h17, if_neg h1, if_neg h47] at h
  exact absurd h (by decide)

theorem err_math (tos id : Int) (keep : Bool) (ttl proto src dst : Int) (zo zd : List Int) (ty cde s d : Int) (m : Nat) (hBo : Mt.By zo) (hBd : Mt.By zd) (h1 : zo.length ≤ 40) (h2 : zo.length % 4 = 0) (hall : 20 + zo.length + zd.length ≤ 65535)
    (hB : Mt.By (h20 tos id keep ttl proto src dst zo.length (20 + zo.length + zd.length) 0 ++ zo)) (hBh : Mt.By (hdr tos id keep ttl proto src dst zo (20 + zo.length + zd.length) ++ zd.take m)) (ho : ofe proto src dst zd = 0) (hm : 8 ≤ m) (hmz : m ≤ zd.length) (hty : ty = 3 ∨ ty = 11 ∨ ty = 12) (hco : 0 ≤ cde ∧ cde ≤ 255) :
    que 1 (icm ty cde 0 (hdr tos id keep ttl proto src dst zo (20 + zo.length + zd.length) ++ zd.take m)) = 0 ∧ quv 1 (icm ty cde 0 (hdr tos id keep ttl proto src dst zo (20 + zo.length + zd.length) ++ zd.take m)) = otv 0 proto src dst (ofa proto zd) (ofb proto zd) ∧
      ofe 1 s d (icm ty cde 0 (hdr tos id keep ttl proto src dst zo (20 + zo.length + zd.length) ++ zd.take m)) = 12 := by
  have hlm : (zd.take m).length = m := by simp; omega
  have hr := rde_quoteT tos id keep ttl proto src dst zo (zd.take m) zd.length h1 h2 hall (by omega) (by omega) hB
  have e9 := hdr_9 tos id keep ttl proto src dst zo (zd.take m) (20 + zo.length + zd.length)
  have es := hdr_src tos id keep ttl proto src dst zo (zd.take m) (20 + zo.length + zd.length)
  have ed := hdr_dst tos id keep ttl proto src dst zo (zd.take m) (20 + zo.length + zd.length)
  have eh := hl4_hdr tos id keep ttl proto src dst zo (zd.take m) (20 + zo.length + zd.length) h1 h2
  have hlh := hdr_len tos id keep ttl proto src dst zo (20 + zo.length + zd.length)
  have hq : qdt (hdr tos id keep ttl proto src dst zo (20 + zo.length + zd.length) ++ zd.take m) = zd.take m := by
    unfold qdt
    rw [hr.2, eh, Int.toNat_natCast, Int.toNat_natCast, List.take_of_length_le (by rw [List.length_append, hlh]; omega), ← hlh, List.drop_left]
  generalize hdr tos id keep ttl proto src dst zo (20 + zo.length + zd.length) ++ zd.take m = mz at *
  have hp := icm_pie ty cde 0 mz (by omega) hco (by omega) hBh
  have hd := icm_drop ty cde 0 mz
  have h0 := icm_0 ty cde 0 mz
  have hh := icm_1 ty cde 0 mz
  obtain ⟨q1, q2, q3⟩ := qie_of hBd ho m hm hmz
  have her : erb ty = true := by rcases hty with rfl | rfl | rfl <;> rfl
  have hu : que 1 (icm ty cde 0 mz) = 0 := by
    unfold que
    rw [if_neg (fun h => h hp), h0, if_neg (by rw [her]; decide), hd, if_neg (fun h => h hr.1), hq, show qpr mz = proto from e9]
    exact q1
  refine ⟨hu, ?_, ?_⟩
  · unfold quv
    rw [hu, hd, hq, show qpr mz = proto from e9, es, ed, q2, q3]
  · rw [show ofe 1 s d (icm ty cde 0 mz) = oie (icm ty cde 0 mz) from rfl]
    unfold oie
    rw [if_neg (fun h => h hp), h0, hh, if_neg]
    unfold ecb
    rcases hty with rfl | rfl | rfl <;> simp
end Go.Proofs.YtojoaidnkljcpaaDoor
