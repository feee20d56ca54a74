import Derived.Test.YtofknbfbmaefoaaGreatDoorX2
import Derived.Test.YtofknbfbmaefoaaGreatDoorX12
import Derived.Test.YtofknbfbmaefoaaGreatDoorX14
import Derived.Test.YtofknbfbmaefoaaGreatDoorX18
import Derived.Test.YtofknbfbmaefoaaGreatDoorX11
import Derived.Test.YtofknbfbmaefoaaGreatDoorX19
import Derived.Test.YtofknbfbmaefoaaGreatDoorX6
import Derived.Test.YtofknbfbmaefoaaGreatDoorX13
import Derived.Test.YtofknbfbmaefoaaGreatDoorX10
import Derived.Test.YtofknbfbmaefoaaGreatDoorX3
namespace Go.Proofs.YtofknbfbmaefoaaGreatDoor
open Go.RowKit Go.Shelf
set_option maxRecDepth 100000
set_option linter.unusedVariables false
set_option linter.unusedSimpArgs false
def RwU (Wb : World) (v : Value) (ys : List Int) (W : World) : Prop := W.ownsRow Wb.heap.size 5 1 v ys.length (ys.map (Value.int .u8)) ∧ Below Wb.heap.size Wb W
theorem RwU.nil {Wb W : World} (h : Later Wb W) : RwU Wb (.slice none 0 0) [] W := ⟨World.ownsRow_nil _ _ _ _, h⟩
theorem RwU.later {Wb W W' : World} {v : Value} {ys : List Int} (h : RwU Wb v ys W) (l : Later W W') : RwU Wb v ys W' := ⟨row_below h.1 l (Nat.le_refl _), h.2.trans (l.mono h.2.size)⟩
theorem RwU.block {Wb W : World} {v : Value} {ys : List Int} (h : RwU Wb v ys W) {k : Nat} {o : Obj} (ho : Wb.heap[k]? = some o) : W.heap[k]? = some o := (h.2.block k (bl9 ho)).trans ho
section
variable {P : Program} {l : List Oper} {Q : Exit → Act → World → Prop} {fuel : Nat} {listed : Array Bool} {a : Act} {w : World} {R : World → World → Prop}
end
def tla (pr a : Int) : Int := if pr = 47 then 0 else a
def tlb (pr a b : Int) : Int := if pr = 1 then a else b
theorem rnm_eq {zs : List Int} (s d : Int) (h : 20 ≤ zs.length) : rnm s d zs = Mt.put2 (Mt.put2 (put4 (put4 zs 12 s) 16 d) 10 0) 10 (Mt.cks (Mt.put2 (put4 (put4 zs 12 s) 16 d) 10 0)) := by
 unfold rnm
 rw [putAt4_lit zs 12 12 s rfl (by omega), putAt4_lit _ 16 16 d rfl (by rw [put4_length]; omega), putAt2_lit _ 10 10 0 rfl (by rw [put4_length, put4_length]; omega), putAt2_lit _ 10 10 _ rfl (by rw [Mt.put2_length, put4_length, put4_length]; omega)]
theorem rnm_other {zs : List Int} (s d : Int) (h : 20 ≤ zs.length) (j : Nat) (hj : j < 10 ∨ 20 ≤ j) : (rnm s d zs)[j]? = zs[j]? := by
 rw [rnm_eq s d h, Mt.put2_other _ _ _ _ (by omega) (by omega), Mt.put2_other _ _ _ _ (by omega) (by omega), put4_other _ _ _ _ (by omega), put4_other _ _ _ _ (by omega)]
theorem rnm_good {zs : List Int} {s d : Int} (hB : Mt.By zs) (hs : 0 ≤ s ∧ s ≤ 4294967295) (hd : 0 ≤ d ∧ d ≤ 4294967295) (h : 20 ≤ zs.length) : Mt.cks (rnm s d zs) = 0 := by
 rw [rnm_eq s d h]
 have hB2 : Mt.By (Mt.put2 (put4 (put4 zs 12 s) 16 d) 10 0) := (By_put4 (By_put4 hB 12 hs) 16 hd).put2 10 (by omega)
 have hl : (put4 (put4 zs 12 s) 16 d).length = zs.length := by rw [put4_length, put4_length]
 refine good_bare _ 10 hB2 rfl (by rw [Mt.put2_length]; omega) ?_ ?_
 ·unfold Mt.put2
  rw [List.getElem?_set_ne (by omega), List.getElem?_set_self (by omega)]
  rfl
 ·unfold Mt.put2
  rw [List.getElem?_set_self (by rw [List.length_set]; omega)]
  rfl
theorem rnm_12 {zs : List Int} {s d : Int} (hs : 0 ≤ s) (hd : 0 ≤ d) (h : 20 ≤ zs.length) : wat4 (rnm s d zs) 12 = s ∧ wat4 (rnm s d zs) 16 = d := by
 rw [rnm_eq s d h]
 have o : ∀ (z : List Int) (v : Int) (k : Nat), 12 ≤ k → wat4 (Mt.put2 z 10 v) k = wat4 z k := fun z v k hk => by
  unfold wat4
  rw [wat_put2_other _ _ _ _ (by omega), wat_put2_other _ _ _ _ (by omega)]
 rw [o _ _ 12 (by omega), o _ _ 12 (by omega), o _ _ 16 (by omega), o _ _ 16 (by omega)]
 refine ⟨?_, wat4_put4 _ _ _ (by rw [put4_length]; omega) hd⟩
 have e : wat4 (put4 (put4 zs 12 s) 16 d) 12 = wat4 (put4 zs 12 s) 12 := wat4_same (fun j h1 h2 => put4_other _ _ _ _ (by omega))
 rw [e]
 exact wat4_put4 _ _ _ (by omega) hs
theorem qie_qsD {pr : Int} {u : Un} {dq : List Int} (hq : qie pr dq = 0) (h8 : 8 ≤ dq.length) : qie pr (qsD pr u dq) = 0 := by
 by_cases h6 : pr = 6
 ·subst h6; rfl
 by_cases h17 : pr = 17
 ·subst h17; rfl
 by_cases h1 : pr = 1
 ·subst h1
  have e : qsD 1 u dq = qsI u dq := rfl
  rw [e]
  have o : ∀ j, j < 2 → (qsI u dq)[j]? = dq[j]? := fun j hj => by
   unfold qsI
   rw [putAt2_lit _ 2 2 _ rfl (by rw [Mt.put2_length]; omega), Mt.put2_other _ _ _ _ (by omega) (by omega), Mt.put2_other _ _ _ _ (by omega) (by omega)]
  unfold qie at hq ⊢
  rw [if_neg h6, if_neg h17, if_pos rfl] at hq ⊢
  rw [o 0 (by omega), o 1 (by omega)]
  exact hq
 by_cases h47 : pr = 47
 ·subst h47
  have e : qsD 47 u dq = rwG u.b dq := rfl
  rw [e]
  unfold qie at hq ⊢
  rw [if_neg h6, if_neg h17, if_neg h1, if_pos rfl] at hq ⊢
  have o : ∀ j, j ≠ 6 → j ≠ 7 → ((rwG u.b dq).take 8)[j]? = (dq.take 8)[j]? := fun j h1 h2 => by
   rw [List.getElem?_take, List.getElem?_take]
   split
   ·exact Mt.put2_other _ _ _ _ h1 h2
   ·rfl
  have eb : bgz ((rwG u.b dq).take 8) = bgz (dq.take 8) := by unfold bgz; rw [o 0 (by omega) (by omega), o 1 (by omega) (by omega), o 2 (by omega) (by omega), o 3 (by omega) (by omega)]
  have el : ((rwG u.b dq).take 8).length = (dq.take 8).length := by rw [List.length_take, List.length_take, show (rwG u.b dq).length = dq.length from Mt.put2_length _ _ _]
  have ep : pge 47 ((rwG u.b dq).take 8) = pge 47 (dq.take 8) := by
   unfold pge
   rw [el, eb, wat_same (o 4 (by omega) (by omega)) (o 5 (by omega) (by omega))]
  rw [ep]
  exact hq
 ·unfold qie at hq
  rw [if_neg h6, if_neg h17, if_neg h1, if_neg h47] at hq
  exact absurd hq (by decide)
theorem qia_qsD {pr : Int} {u : Un} {dq : List Int} (hok : pok pr) (h8 : 8 ≤ dq.length) (hu : UOk u) : qia pr (qsD pr u dq) = tla pr u.a ∧ qib pr (qsD pr u dq) = tlb pr u.a u.b := by
 obtain ⟨_, _, ha, hb⟩ := hu
 have hpl := prt_length u.a u.b dq
 have p0 := prt_w0 u.a u.b dq (by omega) ha.1
 have p2 := prt_w2 u.a u.b dq (by omega) hb.1
 have wp : ∀ (z : List Int) (p : Int) (v : Int) (j : Nat), (p = 6 ∨ p = 16) → j ≤ 2 → wat (putAt2 z p v) j = wat z j := fun z p v j hp hj => by
  unfold putAt2
  split
  ·exact wat_put2_other _ _ _ _ (by omega)
  ·rfl
 rcases hok with rfl | rfl | rfl | rfl
 ·refine ⟨?_, ?_⟩
  ·show wat (qsT u dq) 0 = u.a
   unfold qsT
   rw [wp _ _ _ _ (.inr rfl) (by omega)]
   exact p0
  ·show wat (qsT u dq) 2 = u.b
   unfold qsT
   rw [wp _ _ _ _ (.inr rfl) (by omega)]
   exact p2
 ·refine ⟨?_, ?_⟩
  ·show wat (qsU u dq) 0 = u.a
   unfold qsU
   split
   ·exact p0
   ·rw [wp _ _ _ _ (.inl rfl) (by omega)]
    exact p0
  ·show wat (qsU u dq) 2 = u.b
   unfold qsU
   split
   ·exact p2
   ·rw [wp _ _ _ _ (.inl rfl) (by omega)]
    exact p2
 ·have e : wat (qsI u dq) 4 = u.a := by
   unfold qsI
   rw [putAt2_lit _ 2 2 _ rfl (by rw [Mt.put2_length]; omega), wat_put2_other _ _ _ _ (by omega)]
   exact wat_put2 _ _ _ (by omega) ha.1
  exact ⟨e, e⟩
 ·refine ⟨rfl, ?_⟩
  show wat (rwG u.b dq) 6 = u.b
  unfold rwG
  exact wat_put2 _ _ _ (by omega) hb.1
theorem rqt_tells {mz : List Int} {s d a b : Int} (hB : Mt.By mz) (hrd : rde true mz = 0) (hq : qie (qpr mz) (qdt mz) = 0) (hs : 0 ≤ s ∧ s ≤ 4294967295) (hd : 0 ≤ d ∧ d ≤ 4294967295) (ha : 0 ≤ a ∧ a ≤ 65535) (hb : 0 ≤ b ∧ b ≤ 65535) :
  rde true (rqt (qun mz s d a b) mz) = 0 ∧ qpr (rqt (qun mz s d a b) mz) = qpr mz ∧ wat4 (rqt (qun mz s d a b) mz) 12 = s ∧ wat4 (rqt (qun mz s d a b) mz) 16 = d ∧ qdt (rqt (qun mz s d a b) mz) = qsD (qpr mz) (qun mz s d a b) (qdt mz) := by
 obtain ⟨h20, hhe, hel⟩ := rde_facts hB hrd
 have hlen := rqt_length (u := qun mz s d a b) hB hrd
 have hE : rqt (qun mz s d a b) mz = rnm s d (mz.take (hl4 mz).toNat) ++ (qsD (qpr mz) (qun mz s d a b) (qdt mz) ++ mz.drop (ral true mz).toNat) := rfl
 have hT : (mz.take (hl4 mz).toNat).length = (hl4 mz).toNat := by rw [List.length_take]; omega
 have hH : (rnm s d (mz.take (hl4 mz).toNat)).length = (hl4 mz).toNat := by rw [rnm_length, hT]
 have hQ : (qsD (qpr mz) (qun mz s d a b) (qdt mz)).length = (ral true mz).toNat - (hl4 mz).toNat := by rw [qsD_length]; unfold qdt; rw [List.length_drop, List.length_take]; omega
 have hg := rnm_good (hB.take (hl4 mz).toNat) hs hd (by rw [hT]; exact h20)
 have h12 := rnm_12 (zs := mz.take (hl4 mz).toNat) hs.1 hd.1 (by rw [hT]; exact h20)
 have hat : ∀ j, j < (hl4 mz).toNat → (rqt (qun mz s d a b) mz)[j]? = (rnm s d (mz.take (hl4 mz).toNat))[j]? := fun j hj => by rw [hE, List.getElem?_append_left (by omega)]
 have hsm : ∀ j, j < 10 → (rqt (qun mz s d a b) mz)[j]? = mz[j]? := fun j hj => by
  rw [hat j (by omega), rnm_other s d (by rw [hT]; exact h20) j (.inl hj), List.getElem?_take_of_lt (by omega)]
 have e0 := hsm 0 (by omega)
 have eh : hl4 (rqt (qun mz s d a b) mz) = hl4 mz := by unfold hl4; rw [e0]
 have e2 : wat (rqt (qun mz s d a b) mz) 2 = wat mz 2 := wat_same (hsm 2 (by omega)) (hsm 3 (by omega))
 have e6 : wat (rqt (qun mz s d a b) mz) 6 = wat mz 6 := wat_same (hsm 6 (by omega)) (hsm 7 (by omega))
 have er : ral true (rqt (qun mz s d a b) mz) = ral true mz := by unfold ral; rw [e2, hlen]
 have et : (rqt (qun mz s d a b) mz).take (hl4 mz).toNat = rnm s d (mz.take (hl4 mz).toNat) := by rw [hE, List.take_append_of_le_length (by omega), List.take_of_length_le (by omega)]
 refine ⟨?_, ?_, ?_, ?_, ?_⟩
 ·have em : msr (rqt (qun mz s d a b) mz) = msr mz := by unfold msr; rw [hlen, e0, eh, e2]
  unfold rde at hrd ⊢
  rw [em, hlen, er, eh]
  by_cases h1 : msr mz ≠ 0
  ·rw [if_pos h1] at hrd; exact absurd hrd h1
  rw [if_neg h1] at hrd ⊢
  by_cases h2 : (mz.length : Int) < ral true mz
  ·rw [if_pos h2] at hrd; exact absurd hrd (by decide)
  rw [if_neg h2] at hrd ⊢
  by_cases h3 : chk mz ≠ 0
  ·rw [if_pos h3] at hrd; exact absurd hrd h3
  rw [if_neg h3] at hrd
  have hc : chk (rqt (qun mz s d a b) mz) = 0 := by
   simp only [ne_eq, Decidable.not_not] at h3
   unfold chk at h3 ⊢
   rw [eh, et, hg, e6, if_neg (by simp)]
   split at h3
   ·exact absurd h3 (by decide)
   ·exact h3
  rw [if_neg (by rw [hc]; simp)]
  exact hrd
 ·unfold qpr; rw [hsm 9 (by omega)]
 ·unfold wat4 wat
  rw [hat 12 (by omega), hat 13 (by omega), hat (12 + 2) (by omega), hat (12 + 2 + 1) (by omega)]
  exact h12.1
 ·unfold wat4 wat
  rw [hat 16 (by omega), hat 17 (by omega), hat (16 + 2) (by omega), hat (16 + 2 + 1) (by omega)]
  exact h12.2
 ·have : qdt (rqt (qun mz s d a b) mz) = ((rqt (qun mz s d a b) mz).take (ral true mz).toNat).drop (hl4 mz).toNat := by unfold qdt; rw [er, eh]
  rw [this, hE, List.take_append, List.take_of_length_le (by omega), List.drop_append, List.drop_of_length_le (by omega), hH, Nat.sub_self, List.drop_zero, List.nil_append, List.take_append_of_le_length (by omega), List.take_of_length_le (by omega)]
theorem icm_good (ty cde rest : Int) (zd : List Int) (h1 : 0 ≤ ty ∧ ty ≤ 255) (h2 : 0 ≤ cde ∧ cde ≤ 255) (h3 : 0 ≤ rest ∧ rest ≤ 4294967295) (hB : Mt.By zd) : Mt.cks (icm ty cde rest zd) = 0 := by
 have hn := Mt.tw_nonneg true _ (By_icm0 ty cde rest zd h1 h2 h3 hB)
 have ht := Mt.tw_put2 (icm0 ty cde rest zd) 2 (Mt.cks (icm0 ty cde rest zd)) (by omega) (by rw [icm0_length]; omega)
 have hz : (icm0 ty cde rest zd)[2]?.getD 0 = 0 ∧ (icm0 ty cde rest zd)[2 + 1]?.getD 0 = 0 := ⟨rfl, rfl⟩
 rw [hz.1, hz.2] at ht
 unfold icm
 have hg := Mt.fd_good _ hn
 unfold Mt.cks at ht ⊢
 rw [ht, show Mt.tw true (icm0 ty cde rest zd) + (65535 - Mt.fd (Mt.tw true (icm0 ty cde rest zd))) - (0 * 256 + 0) = Mt.tw true (icm0 ty cde rest zd) + (65535 - Mt.fd (Mt.tw true (icm0 ty cde rest zd))) from by omega, hg]
 rfl
theorem icm_drop (ty cde rest : Int) (zd : List Int) : (icm ty cde rest zd).drop 8 = zd := by simp [icm, Mt.put2, icm0]
theorem icm_0 (ty cde rest : Int) (zd : List Int) : (icm ty cde rest zd)[0]?.getD 0 = ty := by simp [icm, Mt.put2, icm0]
theorem icm_1 (ty cde rest : Int) (zd : List Int) : (icm ty cde rest zd)[1]?.getD 0 = cde := by simp [icm, Mt.put2, icm0]
theorem icm_4 (ty cde rest : Int) (zd : List Int) : wat4 (icm ty cde rest zd) 4 = rest := by simp [icm, Mt.put2, icm0, wat4, wat]; omega
theorem icm_pie (ty cde rest : Int) (zd : List Int) (h1 : 0 ≤ ty ∧ ty ≤ 255) (h2 : 0 ≤ cde ∧ cde ≤ 255) (h3 : 0 ≤ rest ∧ rest ≤ 4294967295) (hB : Mt.By zd) : pie 1 (icm ty cde rest zd) = 0 := by
 unfold pie
 rw [if_neg (by simp), icm_length, if_neg (by omega), icm_good ty cde rest zd h1 h2 h3 hB]
 simp
theorem rqt_quoted {pr : Int} {zd : List Int} {s d a b : Int} (hB : Mt.By zd) (h : que pr zd = 0) (hs : 0 ≤ s ∧ s ≤ 4294967295) (hd : 0 ≤ d ∧ d ≤ 4294967295) (ha : 0 ≤ a ∧ a ≤ 65535) (hb : 0 ≤ b ∧ b ≤ 65535) :
  Mt.By (icm (zd[0]?.getD 0) (zd[1]?.getD 0) (wat4 zd 4) (rqt (qun (zd.drop 8) s d a b) (zd.drop 8))) ∧
  que 1 (icm (zd[0]?.getD 0) (zd[1]?.getD 0) (wat4 zd 4) (rqt (qun (zd.drop 8) s d a b) (zd.drop 8))) = 0 ∧
  quv 1 (icm (zd[0]?.getD 0) (zd[1]?.getD 0) (wat4 zd 4) (rqt (qun (zd.drop 8) s d a b) (zd.drop 8))) = .agg #[.int .u8 (qpr (zd.drop 8)), .int .u32 s, .int .u32 d, .int .u16 (tla (qpr (zd.drop 8)) a), .int .u16 (tlb (qpr (zd.drop 8)) a b)] ∧
  pie 1 (icm (zd[0]?.getD 0) (zd[1]?.getD 0) (wat4 zd 4) (rqt (qun (zd.drop 8) s d a b) (zd.drop 8))) = 0 ∧ pie pr zd = 0 := by
 obtain ⟨hpi, her, hrd, hqi⟩ := que_zero h
 have hBm := hB.drop 8
 have hBr : Mt.By (rqt (qun (zd.drop 8) s d a b) (zd.drop 8)) := by
  refine ((rnm_by (hBm.take _) hs hd).append ((qsD_by (By_qdt hBm) ?_).append (hBm.drop _)))
  exact ⟨hs, hd, ha, hb⟩
 obtain ⟨t1, t2, t3, t4, t5⟩ := rqt_tells (a := a) (b := b) hBm hrd hqi hs hd ha hb
 have h8 := qdt_len hBm hrd
 have hok := qie_pok hqi
 have q1 := qie_qsD (u := qun (zd.drop 8) s d a b) hqi h8
 have q2 := qia_qsD (u := qun (zd.drop 8) s d a b) hok h8 ⟨hs, hd, ha, hb⟩
 have hty := Mt.By.at hB 0
 have hco := Mt.By.at hB 1
 have hre := wat4_bd9 hB 4
 generalize rqt (qun (zd.drop 8) s d a b) (zd.drop 8) = rz at *
 generalize hqp : qpr (zd.drop 8) = qp at *
 have e0 := icm_0 (zd[0]?.getD 0) (zd[1]?.getD 0) (wat4 zd 4) rz
 have ed := icm_drop (zd[0]?.getD 0) (zd[1]?.getD 0) (wat4 zd 4) rz
 have ep := icm_pie (zd[0]?.getD 0) (zd[1]?.getD 0) (wat4 zd 4) rz hty hco hre hBr
 have eB := By_icm (zd[0]?.getD 0) (zd[1]?.getD 0) (wat4 zd 4) rz hty hco hre hBr
 generalize icm (zd[0]?.getD 0) (zd[1]?.getD 0) (wat4 zd 4) rz = Z at *
 have hz : que 1 Z = 0 := by
  unfold que
  rw [if_neg (by rw [ep]; simp), e0, if_neg (by rw [her]; decide), ed, if_neg (by rw [t1]; simp), t2, t5]
  exact q1
 refine ⟨eB, hz, ?_, ep, hpi⟩
 unfold quv
 rw [hz, otv_ok, ed, t2, t3, t4, t5, q2.1, q2.2]
 rfl
theorem rde_zero {q : Bool} {zs : List Int} (h : rde q zs = 0) : msr zs = 0 ∧ ral q zs ≤ zs.length ∧ chk zs = 0 := by
 unfold rde at h
 split at h
 ·rename_i h1; exact absurd h h1
 ·rename_i h1
  split at h
  ·omega
  ·split at h
   ·rename_i h3; exact absurd h h3
   ·rename_i h2 h3
    exact ⟨by simpa using h1, by omega, by simpa using h3⟩
def imB (ttl src dst : Int) (z : List Int) : List Int := hdr 0 0 false ttl 1 src dst [] (20 + ([] : List Int).length + z.length) ++ z
structure ImF (ttl src dst : Int) (zs z : List Int) : Prop where
 by_ : Mt.By zs
 len : zs.length ≤ 700
 rd : rde false zs = 0
 i9 : zs[9]?.getD 0 = 1
 i8 : zs[8]?.getD 0 = ttl
 i1 : zs[1]?.getD 0 = 0
 w4 : wat zs 4 = 0
 w6 : decide (16384 ≤ wat zs 6 % 32768) = false
 src : wat4 zs 12 = src
 dst : wat4 zs 16 = dst
 zo : ((zs.take (hl4 zs).toNat).drop 20) = []
 zd : ((zs.take (ral false zs).toNat).drop (hl4 zs).toNat) = z
theorem im_facts {ttl src dst : Int} {z : List Int} (hB : Mt.By z) (hz : z.length ≤ 600) (htt : 0 ≤ ttl ∧ ttl ≤ 255) (hsr : 0 ≤ src ∧ src ≤ 4294967295) (hds : 0 ≤ dst ∧ dst ≤ 4294967295) : ImF ttl src dst (imB ttl src dst z) z := by
 have hBh := (h20_by 0 0 false ttl 1 src dst ([] : List Int).length (20 + ([] : List Int).length + z.length) 0 (by simp) (by omega) (by omega) htt (by omega) hsr hds (by simp; omega) (by omega)).append Mt.By.nil
 have hBy : Mt.By (imB ttl src dst z) := by
  unfold imB
  rw [hdr_eq]
  exact ((h20_by 0 0 false ttl 1 src dst ([] : List Int).length (20 + ([] : List Int).length + z.length) _ (by simp) (by omega) (by omega) htt (by omega) hsr hds (by simp; omega) (Mt.cks_bd _)).append Mt.By.nil).append hB
 have hr := rde_built 0 0 false ttl 1 src dst [] z [] (by simp) (by simp) (by simp; omega) hBh
 rw [List.append_nil] at hr
 have e3 := hl4_hdr 0 0 false ttl 1 src dst [] z (20 + ([] : List Int).length + z.length) (by simp) (by simp)
 have e2 := hdr_wat2 0 0 false ttl 1 src dst [] z (20 + ([] : List Int).length + z.length)
 have hral : ral false (imB ttl src dst z) = ((20 + ([] : List Int).length + z.length : Nat) : Int) := by
  have q0 : ∀ zs : List Int, ral false zs = wat zs 2 := fun zs => by simp [ral]
  unfold imB
  rw [q0, e2]
  simp
 refine ⟨hBy, by unfold imB; rw [List.length_append, hdr_len]; simp; omega, hr, hdr_9 _ _ _ _ _ _ _ _ _ _, hdr_8 _ _ _ _ _ _ _ _ _ _, hdr_1 _ _ _ _ _ _ _ _ _ _, hdr_wat4 _ _ _ _ _ _ _ _ _ _, ?_, hdr_src _ _ _ _ _ _ _ _ _ _, hdr_dst _ _ _ _ _ _ _ _ _ _, ?_, ?_⟩
 ·unfold imB
  rw [hdr_wat6]
  decide
 ·unfold imB
  rw [e3, Int.toNat_natCast, hdr_take, hdr_opts]
 ·rw [hral]
  unfold imB
  rw [e3, Int.toNat_natCast, Int.toNat_natCast]
  have q := hdr_split 0 0 false ttl 1 src dst [] z (20 + ([] : List Int).length + z.length) []
  rw [List.append_nil] at q
  exact q
theorem im_bytes (ttl src dst : Int) (so sd : Value) (z : List Int) (w : World) (hz : z.length ≤ 600) (hIo : Rd w.heap.size w so []) (hId : Rd w.heap.size w sd z) (htt : 0 ≤ ttl ∧ ttl ≤ 255) (hsr : 0 ≤ src ∧ src ≤ 4294967295) (hds : 0 ≤ dst ∧ dst ≤ 4294967295) :
  Calls Tryz.prog 17 #[.agg #[.int .u8 0, .int .u16 0, .bool false, .int .u8 ttl, .int .u8 1, .int .u32 src, .int .u32 dst, so, sd]] w fun e w' => Later w w' ∧ ∃ v, e = .returned (.tuple #[v, .int .i64 0]) ∧ Ow w.heap.size w' v (imB ttl src dst z) := by
 refine (build_yes 0 0 ttl 1 src dst false so sd [] z w Mt.By.nil hIo hId (by simp) (by simp) (by simp; omega) (by omega) (by omega) htt (by omega) hsr hds).mono ?_
 rintro e w' ⟨v, rfl, hO, hb⟩
 exact ⟨hb, v, rfl, hO⟩
theorem im_parse (ttl src dst : Int) (sv : Value) (z : List Int) (w : World) (hB : Mt.By z) (hz : z.length ≤ 600) (hI : Rd w.heap.size w sv (imB ttl src dst z)) (htt : 0 ≤ ttl ∧ ttl ≤ 255) (hsr : 0 ≤ src ∧ src ≤ 4294967295) (hds : 0 ≤ dst ∧ dst ≤ 4294967295) :
  Calls Tryz.prog 19 #[sv] w fun e w' => Later w w' ∧ ∃ a7 c7 a8 l8 c8, e = .returned (.tuple #[.agg #[.int .u8 0, .int .u16 0, .bool false, .int .u8 ttl, .int .u8 1, .int .u32 src, .int .u32 dst, .slice a7 0 c7, .slice a8 l8 c8], .int .i64 0]) ∧ Ow w.heap.size w' (.slice a7 0 c7) [] ∧ Ow w.heap.size w' (.slice a8 l8 c8) z := by
 have hF := im_facts hB hz htt hsr hds
 refine (parse_any sv _ w hF.by_ (by have := hF.len; omega) hI).mono ?_
 rintro e w' ⟨hb, ⟨hx, _⟩ | ⟨_, so, sd, rfl, hO, hD⟩⟩
 ·exact absurd hF.rd hx
 rw [hF.zo] at hO
 rw [hF.zd] at hD
 obtain ⟨ao, co, rfl, _, _⟩ := hO.slice
 obtain ⟨ad, cd, rfl, _, _⟩ := hD.slice
 refine ⟨hb, ao, co, ad, _, cd, ?_, hO, hD⟩
 unfold pkt
 rw [hF.i1, hF.w4, hF.w6, hF.i8, hF.i9, hF.src, hF.dst]
 rfl
theorem im_icmp (ttl src dst : Int) (sm : Value) (om : List Int) (w : World) (hl : om.length ≤ 590) (hB : Mt.By om) (hI : Rd w.heap.size w sm om) (htt : 0 ≤ ttl ∧ ttl ≤ 255) (hsr : 0 ≤ src ∧ src ≤ 4294967295) (hds : 0 ≤ dst ∧ dst ≤ 4294967295) :
  Calls Tryz.prog 18 #[.agg #[.int .u8 0, .int .u16 0, .bool false, .int .u8 ttl, .int .u8 0, .int .u32 src, .int .u32 dst, .slice none 0 0, .slice none 0 0], .agg #[.int .u8 3, .int .u8 3, .int .u32 0, sm]] w fun e w' => Later w w' ∧ ∃ a7 c7 a8 l8 c8, e = .returned (.tuple #[.agg #[.int .u8 0, .int .u16 0, .bool false, .int .u8 ttl, .int .u8 1, .int .u32 src, .int .u32 dst, .slice a7 0 c7, .slice a8 l8 c8], .int .i64 0]) ∧ Ow w.heap.size w' (.slice a7 0 c7) [] ∧ Ow w.heap.size w' (.slice a8 l8 c8) (icm 3 3 0 om) := by
 refine (buildIcmp_any 0 0 ttl 0 src dst 3 3 0 false _ _ sm [] om w Mt.By.nil (rd_zero w) hB hI (by simp) (by omega) (by omega) (by omega) htt hsr hds (by omega) (by omega) (by omega)).mono ?_
 have HZ : flt ([] : List Int).length (8 + om.length) = 0 := by unfold flt; rw [if_neg (by simp), if_neg (by simp; omega)]
 rintro e w' ⟨hb1, ⟨hx, _⟩ | ⟨_, a7, c7, a8, c8, rfl, hO, hD⟩⟩
 ·exact absurd HZ hx
 ·exact ⟨hb1, _, _, _, _, _, rfl, hO, hD⟩
theorem om_true {ttl src dst a b : Int} {om z : List Int} (hF : DgF ttl src dst a b om z) (h8 : 8 ≤ z.length) (hd : om = dgB ttl src dst z) : rde true om = 0 ∧ qdt om = z := by
 have e2 := hdr_wat2 0 0 false ttl 17 src dst [] z (20 + ([] : List Int).length + z.length)
 have e3 := hl4_hdr 0 0 false ttl 17 src dst [] z (20 + ([] : List Int).length + z.length) (by simp) (by simp)
 have e4 : om.length = 20 + z.length := by rw [hd]; unfold dgB; rw [List.length_append, hdr_len]; simp
 have w2 : wat om 2 = 20 + z.length := by rw [hd]; unfold dgB; rw [e2]; simp
 have w3 : hl4 om = 20 := by rw [hd]; unfold dgB; rw [e3]; simp
 have hr : ral false om = ral true om := by unfold ral; simp; omega
 have hr2 : ral true om = wat om 2 := by rw [← hr]; rfl
 refine ⟨?_, by unfold qdt; rw [← hr]; exact hF.zd⟩
 obtain ⟨h1, h2, h3⟩ := rde_zero hF.rd
 unfold rde
 rw [if_neg (by simp [h1]), if_neg (by rw [← hr]; omega), if_neg (by simp [h3]), if_neg (by rw [hr2]; omega)]
structure ErF (src dst a b : Int) (om zd : List Int) : Prop where
 by_ : Mt.By zd
 len : zd.length = 8 + om.length
 dr : zd.drop 8 = om
 i0 : zd[0]?.getD 0 = 3
 i1 : zd[1]?.getD 0 = 3
 re : wat4 zd 4 = 0
 rt : rde true om = 0
 qp : qpr om = 17
 qu : que 1 zd = 0
 qv : quv 1 zd = .agg #[.int .u8 17, .int .u32 src, .int .u32 dst, .int .u16 a, .int .u16 b]
 oe : ∀ x y, ofe 1 x y zd = 12
theorem er_facts {ttl src dst a b : Int} {zm om z : List Int} (h : UG src dst a b zm z) (hF : DgF ttl src dst a b om z) (hd : om = dgB ttl src dst z) : ErF src dst a b om (icm 3 3 0 om) := by
 have h8 : 8 ≤ z.length := by have := h.2.1; omega
 obtain ⟨rt, qd⟩ := om_true hF h8 hd
 have hp : pie 1 (icm 3 3 0 om) = 0 := icm_pie 3 3 0 om (by omega) (by omega) (by omega) hF.by_
 have i0 := icm_0 3 3 0 om
 have i1 := icm_1 3 3 0 om
 have dr := icm_drop 3 3 0 om
 have qp : qpr om = 17 := hF.i9
 have qu : que 1 (icm 3 3 0 om) = 0 := by
  unfold que
  rw [if_neg (by rw [hp]; simp), i0, if_neg (by decide), dr, if_neg (by rw [rt]; simp), qp]
  rfl
 refine ⟨By_icm 3 3 0 om (by omega) (by omega) (by omega) hF.by_, icm_length 3 3 0 om, dr, i0, i1, icm_4 3 3 0 om, rt, qp, qu, ?_, ?_⟩
 ·unfold quv
  rw [qu, dr, qp, qd, hF.src, hF.dst]
  have e0 : wat z 0 = a := h.2.2.2.1
  have e2 : wat z 2 = b := h.2.2.2.2.1
  show otv 0 17 src dst (wat z 0) (wat z 2) = _
  rw [e0, e2]
  rfl
 ·intro x y
  show oie _ = 12
  unfold oie
  rw [if_neg (by rw [hp]; simp), i0, i1, if_neg (by decide)]
end Go.Proofs.YtofknbfbmaefoaaGreatDoor
