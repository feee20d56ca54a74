/- Several texts in one. -/
import Derived.Test.YtehdgndbloaljaaDoorX3
import Derived.Test.YtehdgndbloaljaaDoorX4
import Derived.Sort.CutIn
import Derived.MapKept
import Derived.Laws.Closers25b
import Derived.Laws.BitsLemmas
/- The laws' lower and has; what names a host nowhere stays. -/
namespace Go.Proofs.YtehdgndbloaljaaDoor
open Go.RowKit Go.Shelf
set_option maxRecDepth 100000
set_option linter.unusedVariables false
set_option linter.unusedSimpArgs false


def h15 : ByteArray := ⟨#[50, 53, 52, 46, 50, 53, 52, 46, 50, 53, 52, 46, 50, 53, 52]⟩
/-- A text holds the other host's address. -/
def HasH (s : ByteArray) : Prop := h15.data.toList <:+: s.data.toList
open Classical in
noncomputable def hasB (s : ByteArray) : Bool := decide (HasH s)
open Classical in
theorem hasB_yes {s : ByteArray} (h : HasH s) : hasB s = true := decide_eq_true h
open Classical in
theorem hasB_not {s : ByteArray} (h : ¬ HasH s) : hasB s = false := decide_eq_false h
open Classical in
theorem hasB_no {s : ByteArray} (h : hasB s = false) : ¬ HasH s := of_decide_eq_false h
theorem ext_inf (s : ByteArray) (i j : Nat) : (s.extract i j).data.toList <:+: s.data.toList := by
  rw [ba_ext_list]
  exact List.IsInfix.trans (List.drop_suffix _ _).isInfix (List.take_prefix _ _).isInfix
theorem hasH_at {s : ByteArray} {i : Nat} (h : eqS (s.extract i (i + 15)) h15 = true) : HasH s := by
  have := eqS_iff.1 h
  unfold HasH
  rw [← this]
  exact ext_inf s i _
theorem hasH_no {s : ByteArray} (h : ∀ i, i + 15 ≤ s.size → eqS (s.extract i (i + 15)) h15 = false) : ¬ HasH s := by
  rintro ⟨a, b, e⟩
  have hl := congrArg List.length e
  have h15l : h15.data.toList.length = 15 := rfl
  simp only [List.length_append, h15l] at hl
  rw [← ba_len] at hl
  have h1 := h a.length (by omega)
  have : s.extract a.length (a.length + 15) = h15 := by
    apply ba_ext
    rw [ba_ext_list, ← e, ← h15l, List.take_left' (by simp), List.drop_left]
  rw [this, eqS_iff.2 rfl] at h1
  cases h1
theorem cutA_inf (s p : ByteArray) : (cutA s p).data.toList <:+: s.data.toList := by
  rcases cut_spec s p with ⟨_, h, _⟩ | ⟨_, h1, _, _⟩
  · exact ⟨[], p.data.toList ++ (cutZ s p).data.toList, by rw [h]; simp⟩
  · rw [h1]; exact List.infix_rfl
theorem cutZ_inf (s p : ByteArray) : (cutZ s p).data.toList <:+: s.data.toList := by
  rcases cut_spec s p with ⟨_, h, _⟩ | ⟨_, _, h1, _⟩
  · exact ⟨(cutA s p).data.toList ++ p.data.toList, [], by rw [h]; simp⟩
  · rw [h1]; exact List.nil_infix
theorem lns_inf : ∀ (n : Nat) (s : ByteArray), s.size ≤ n → ∀ x ∈ lnsB s, x.1.data.toList <:+: s.data.toList
  | 0, s, h, x, hx => by rw [lnsB_nil (by omega)] at hx; cases hx
  | n + 1, s, h, x, hx => by
    by_cases h0 : s.size = 0
    · rw [lnsB_nil h0] at hx; cases hx
    · have hz := (cut_sizes s crB).2 h0 (by decide)
      rw [lnsB_cons h0] at hx
      rcases List.mem_cons.1 hx with rfl | hx
      · exact cutA_inf s crB
      · exact List.IsInfix.trans (lns_inf n (cutZ s crB) (by omega) x hx) (cutZ_inf s crB)
theorem plB_no {c : Cg} (hc : c.host = h15) {t : ByteArray} (h : ¬ HasH t) : plB c t = t := by
  unfold plB
  rw [if_pos]
  cases he : eqS (cutA t cln) c.host with
  | false => rfl
  | true =>
    exfalso
    apply h
    unfold HasH
    rw [← hc, ← eqS_iff.1 he]
    exact cutA_inf t cln
theorem lnB_no {c : Cg} (hc : c.host = h15) (hm : c.media = []) {l : ByteArray} (h : ¬ HasH l) : lnB c l = l := by
  unfold lnB
  rw [if_neg, if_neg]
  · exact mlB_same (by rw [hm]; intro m hm; cases hm) l
  · rintro ⟨_, e⟩
    apply h
    obtain ⟨t, rfl⟩ := suf_app e
    rw [hc]
    exact ⟨(t ++ omB).data.toList, [], by simp⟩
  · intro e
    apply h
    rw [eqS_iff.1 e, hc]
    exact ⟨cnB.data.toList, [], by simp⟩
theorem rw_other {c : Cg} (hc : c.host = h15) (hm : c.media = []) {st : ByteArray} {hs : List Hr} {zb : List Int} (hB : Mt.By zb) (h1 : ¬ HasH (strOfNums zb)) (h2 : ∀ h ∈ hs, ¬ HasH h.2) : rwHs c st hs zb = hs ∧ rwZb c st hs zb = zb :=
  rw_keep hB (fun x hx => lnB_no hc hm (fun hh => h1 (List.IsInfix.trans hh (lns_inf _ _ (Nat.le_refl _) x hx)))) (fun h hh m e => plB_no hc (fun hq => h2 h hh (List.IsInfix.trans hq (List.IsInfix.trans (ext_inf _ _ _) (cutZ_inf _ _)))))
theorem ad_other : adB 4278124286 = h15 := by decide +kernel
/-- Headers of other names stay. -/
theorem rwHs_other (c : Cg) (st : ByteArray) (hs : List Hr) (zb : List Int) (j : Nat) (h1 : j < hs.length) (h2 : j < (rwHs c st hs zb).length) (hv : swV hs[j].1 viN = false) (hk : swV hs[j].1 ctN = false) (hn : swV hs[j].1 clN = false) : (rwHs c st hs zb)[j] = hs[j] := by
  unfold rwHs
  split
  · unfold mgH vuB
    simp [hv, hk, hn]
  · rfl
theorem low_vi (s : ByteArray) : ((strOfNums (lowZ s)).toList == [118, 105, 97]) = swV s viN := by
  rw [← low_eq, ← str_beq, ByteArray.toList_eq (strOfNums (lowZ viN))]
  congr 1
theorem low_ct (s : ByteArray) : ((strOfNums (lowZ s)).toList == [99, 111, 110, 116, 97, 99, 116]) = swV s ctN := by
  rw [← low_eq, ← str_beq, ByteArray.toList_eq (strOfNums (lowZ ctN))]
  congr 1
theorem low_cn (s : ByteArray) : ((strOfNums (lowZ s)).toList == [99, 111, 110, 116, 101, 110, 116, 45, 108, 101, 110, 103, 116, 104]) = swV s clN := by
  rw [← low_eq, ← str_beq, ByteArray.toList_eq (strOfNums (lowZ clN))]
  congr 1
theorem h15_beq (s : ByteArray) : (s.toList == [50, 53, 52, 46, 50, 53, 52, 46, 50, 53, 52, 46, 50, 53, 52]) = eqS s h15 := by
  rw [← str_beq, ByteArray.toList_eq h15]
  rfl

end Go.Proofs.YtehdgndbloaljaaDoor

/- A text cut at the first of another: where it is. -/
namespace Go.Proofs.YtehdgndbloaljaaDoor
open Go.RowKit Go.Shelf
set_option maxRecDepth 100000
set_option linter.unusedVariables false
set_option linter.unusedSimpArgs false

theorem cut_uniq {s p a z : ByteArray} (h : s = a ++ (p ++ z)) (hn : Lib.NoOcc s.data.toList p.data.toList a.size) : cutF s p = true ∧ cutA s p = a ∧ cutZ s p = z := by
  have hl : s.data.toList = a.data.toList ++ (p.data.toList ++ z.data.toList) := by rw [h, ba_app, ba_app]
  have ho : Lib.occAt s.data.toList p.data.toList a.size = true := by
    unfold Lib.occAt
    rw [hl, ba_len, List.drop_left, List.isPrefixOf_iff_prefix]
    exact List.prefix_append _ _
  rcases cut_spec s p with ⟨hf, he, hn'⟩ | ⟨_, _, _, hno⟩
  · have ho' : Lib.occAt s.data.toList p.data.toList (cutA s p).size = true := by
      unfold Lib.occAt
      conv => lhs; arg 2; rw [he]
      rw [ba_len, List.drop_left, List.isPrefixOf_iff_prefix]
      exact List.prefix_append _ _
    have hsz : (cutA s p).size = a.size := by
      rcases Nat.lt_trichotomy (cutA s p).size a.size with h1 | h1 | h1
      · rw [hn _ h1] at ho'; cases ho'
      · exact h1
      · rw [hn' _ h1] at ho; cases ho
    rw [hl] at he
    obtain ⟨e1, e2⟩ := List.append_inj he (by rw [← ba_len, ← ba_len, hsz])
    have e3 := List.append_cancel_left e2
    exact ⟨hf, (ba_ext e1).symm, (ba_ext e3).symm⟩
  · have : a.size ≤ s.size := by rw [h, ByteArray.size_append]; omega
    rw [hno _ this] at ho
    cases ho
theorem noOcc1 {a r : List UInt8} {c : UInt8} (h : c ∉ a) : Lib.NoOcc (a ++ r) [c] a.length := fun j hj => by
  unfold Lib.occAt
  have : a[j] ≠ c := fun e => h (e ▸ List.getElem_mem hj)
  rw [List.drop_append_of_le_length (by omega), List.drop_eq_getElem_cons hj, List.cons_append]
  show ((c == a[j]) && _) = false
  rw [beq_false_of_ne (Ne.symm this)]
  rfl
theorem allB_nms (q : Int → Bool) (s : ByteArray) : allB q s = (nmsB s).all q := by
  rw [Bool.eq_iff_iff, List.all_eq_true]
  unfold allB
  rw [decide_eq_true_eq]
  constructor
  · intro h z hz
    obtain ⟨i, hi, rfl⟩ := List.getElem_of_mem hz
    have hi' : i < s.size := by rw [← nmsB_len]; exact hi
    have := h i hi'
    rw [nmsB_at s i hi', List.getElem?_eq_getElem hi] at this
    exact this
  · intro h j hj
    have hj' : j < (nmsB s).length := by rw [nmsB_len]; exact hj
    rw [nmsB_at s j hj, List.getElem?_eq_getElem hj']
    exact h _ (List.getElem_mem hj')
theorem noOccH {a r p : List UInt8} {c : UInt8} (h : c ∉ a) : Lib.NoOcc (a ++ r) (c :: p) a.length := fun j hj => by
  unfold Lib.occAt
  have : a[j] ≠ c := fun e => h (e ▸ List.getElem_mem hj)
  rw [List.drop_append_of_le_length (by omega), List.drop_eq_getElem_cons hj, List.cons_append]
  show ((c == a[j]) && _) = false
  rw [beq_false_of_ne (Ne.symm this)]
  rfl
theorem allB_not {q : Int → Bool} {s : ByteArray} (h : allB q s = true) (c : UInt8) (hc : q (c.toNat : Int) = false) : c ∉ s.data.toList := fun hm => by
  rw [allB_nms, List.all_eq_true] at h
  have := h (c.toNat : Int) (by unfold nmsB; exact List.mem_map.2 ⟨c, hm, rfl⟩)
  rw [hc] at this
  cases this
end Go.Proofs.YtehdgndbloaljaaDoor

/- A message whose places are a host's, changed: mathematics. -/
namespace Go.Proofs.YtehdgndbloaljaaDoor
open Go.RowKit Go.Shelf
set_option maxRecDepth 100000
set_option linter.unusedVariables false
set_option linter.unusedSimpArgs false

/-- A text of digits and dots. -/
def DgD (s : ByteArray) : Prop := ∀ u ∈ s.data.toList, (48 ≤ u.toNat ∧ u.toNat ≤ 57) ∨ u.toNat = 46
theorem decB_dgd (n : Nat) : DgD (decB n) := fun u hu => by
  have h1 : (u.toNat : Int) ∈ dg n := by unfold dg nmsB; exact List.mem_map.2 ⟨u, hu, rfl⟩
  have := dgt_rng (dg_dgt n _ h1)
  omega
theorem dgd_app {s t : ByteArray} (hs : DgD s) (ht : DgD t) : DgD (s ++ t) := fun u hu => by
  rw [ba_app] at hu
  rcases List.mem_append.1 hu with h | h
  · exact hs u h
  · exact ht u h
theorem dgd_dot : DgD tDot := fun u hu => by simp [tDot] at hu; subst hu; decide
theorem adB_form (a : Int) : adB a = decB (a / 16777216).toNat ++ (tDot ++ (decB (a / 65536 % 256).toNat ++ (tDot ++ (decB (a / 256 % 256).toNat ++ (tDot ++ decB (a % 256).toNat))))) := by
  apply ba_ext
  unfold adB rowB ad4
  simp only [List.map_cons, List.map_nil, join_two]
  simp [Lib.join]
theorem adB_dgd (a : Int) : DgD (adB a) := by
  rw [adB_form]
  exact dgd_app (decB_dgd _) (dgd_app dgd_dot (dgd_app (decB_dgd _) (dgd_app dgd_dot (dgd_app (decB_dgd _) (dgd_app dgd_dot (decB_dgd _))))))
/-- A place: an address and a port. -/
def plT (h : ByteArray) (p : Nat) : ByteArray := h ++ (cln ++ decB p)
theorem plB_yes {c : Cg} (hd : DgD c.host) {p : Nat} (hp : 1 ≤ p ∧ p ≤ 65535) (he : c.port = (p : Int)) : plB c (plT c.host p) = plT c.is c.np.toNat := by
  obtain ⟨h1, h2, h3⟩ := cut_uniq (s := plT c.host p) (p := cln) (a := c.host) (z := decB p) rfl (by
    show Lib.NoOcc (c.host ++ (cln ++ decB p)).data.toList _ _
    rw [ba_app, ba_len]
    exact noOcc1 (fun hm => by have := hd _ hm; revert this; decide))
  have hpr : prV (decB p) = some (p : Int) := by
    unfold prV
    rw [numV_dg p 65535 (by omega)]
    simp
    omega
  unfold plB
  rw [h1, h2, h3, hpr, if_neg (by rw [eqS_iff.2 rfl]; simp), if_neg (by simp)]
  simp only
  rw [if_pos he.symm, ByteArray.append_assoc]
  rfl
theorem bAt_app1 (s t : ByteArray) (j : Nat) (h : j < s.size) : bAt (s ++ t) j = bAt s j := by
  rw [nmsB_at _ _ (by rw [ByteArray.size_append]; omega), nmsB_at _ _ h, nmsB_app, List.getElem?_append_left (by rw [nmsB_len]; exact h)]
theorem bAt_app2 (s t : ByteArray) (h : 0 < t.size) : bAt (s ++ t) s.size = bAt t 0 := by
  rw [nmsB_at _ _ (by rw [ByteArray.size_append]; omega), nmsB_at _ _ h, nmsB_app, List.getElem?_append_right (by rw [nmsB_len]; exact Nat.le_refl _), nmsB_len, Nat.sub_self]
/-- Digits, dots, a colon: no end of a place. -/
theorem enC_no (ends : ByteArray) (he : ends = enV ∨ ends = enK) (n : Nat) (h : 46 ≤ n ∧ n ≤ 58) : enC ends (n : Int) = false := by
  have h1 : ∀ k : Nat, k < 13 → enC enV ((46 + k : Nat) : Int) = false := by decide +kernel
  have h2 : ∀ k : Nat, k < 13 → enC enK ((46 + k : Nat) : Int) = false := by decide +kernel
  have e : n = 46 + (n - 46) := by omega
  rw [e]
  rcases he with rfl | rfl
  · exact h1 _ (by omega)
  · exact h2 _ (by omega)
theorem plT_bytes {h : ByteArray} (hd : DgD h) (p : Nat) (j : Nat) (hj : j < (plT h p).size) : ∃ n : Nat, bAt (plT h p) j = (n : Int) ∧ 46 ≤ n ∧ n ≤ 58 := by
  refine ⟨((plT h p).get! j).toNat, rfl, ?_⟩
  have hg : (plT h p).get! j ∈ (plT h p).data.toList := by
    simp only [ByteArray.get!]
    rw [getElem!_pos (plT h p).data j hj]
    simp
  unfold plT at hg ⊢
  rw [ba_app, ba_app] at hg
  rcases List.mem_append.1 hg with h1 | h1
  · have := hd _ h1; omega
  · rcases List.mem_append.1 h1 with h1 | h1
    · have h2 : (h ++ (cln ++ decB p)).get! j = 58 := by simpa [cln] using h1
      rw [h2]; decide
    · have := decB_dgd p _ h1; omega
theorem wiB_at {c : Cg} (hd : DgD c.host) {p : Nat} (hp : 1 ≤ p ∧ p ≤ 65535) (he : c.port = (p : Int)) (v a mark ends tail : ByteArray) (hen : ends = enV ∨ ends = enK) (hv : v = a ++ (mark ++ (plT c.host p ++ tail))) (hn : Lib.NoOcc v.data.toList mark.data.toList a.size) (ht : 0 < tail.size) (hte : enC ends (bAt tail 0) = true) : wiB c v mark ends = a ++ (mark ++ (plT c.is c.np.toNat ++ tail)) := by
  obtain ⟨h1, h2, h3⟩ := cut_uniq hv hn
  have hend : endP ends (plT c.host p ++ tail) = (plT c.host p).size := by
    refine endP_at (by rw [ByteArray.size_append]; omega) (by rw [bAt_app2 _ _ ht]; exact hte) (fun j hj => ?_)
    rw [bAt_app1 _ _ _ hj]
    obtain ⟨n, e, hn⟩ := plT_bytes hd p j hj
    rw [e]
    exact enC_no ends hen n hn
  have e1 : (plT c.host p ++ tail).extract 0 (plT c.host p).size = plT c.host p := by
    apply ba_ext
    rw [ba_ext_list, ba_app, ba_len, List.take_left, List.drop_zero]
  have e2 : (plT c.host p ++ tail).extract (plT c.host p).size (plT c.host p ++ tail).size = tail := by
    apply ba_ext
    rw [ba_ext_list, ba_len (plT c.host p ++ tail), List.take_length, ba_app, ba_len, List.drop_left]
  unfold wiB
  rw [h1, h2, h3, if_neg (by simp), hend, e1, e2, plB_yes hd hp he]
  simp only [ByteArray.append_assoc]
theorem dgd_ln {s : ByteArray} (h : DgD s) : (nmsB s).all lnC = true := by
  rw [List.all_eq_true]
  intro z hz
  unfold nmsB at hz
  obtain ⟨u, hu, rfl⟩ := List.mem_map.1 hz
  have := h u hu
  unfold lnC
  simp
  omega

def viS : ByteArray := ⟨#[118, 105, 97]⟩
def coS : ByteArray := ⟨#[67, 79, 78, 84, 65, 67, 84]⟩
def inS : ByteArray := ⟨#[73, 78, 86, 73, 84, 69]⟩
def tlV : ByteArray := ⟨#[59, 120]⟩
def tlC : ByteArray := ⟨#[62]⟩
def pfC : ByteArray := ⟨#[60, 115, 105, 112, 58, 97]⟩
/-- The headers of a message with a place. -/
def hiH (pl : ByteArray) : List Hr := [(viS, mkV ++ (pl ++ tlV)), (coS, pfC ++ (mkC ++ (pl ++ tlC))), (clN, ⟨#[48]⟩)]
theorem plT_ln (a : Int) (p : Nat) : (nmsB (plT (adB a) p)).all lnC = true := by
  unfold plT
  rw [nmsB_app, nmsB_app, List.all_append, List.all_append, dgd_ln (adB_dgd a), dgd_ln (decB_dgd p)]
  decide
theorem plT_size (a : Int) (h : 0 ≤ a ∧ a ≤ 4294967295) (p : Nat) (hp : p ≤ 65535) : (plT (adB a) p).size ≤ 30 := by
  have h1 := adB_size a h
  have h2 := decB_size p hp
  unfold plT
  rw [ByteArray.size_append, ByteArray.size_append]
  have : cln.size = 1 := rfl
  omega
theorem vlB_mid {v a b : ByteArray} {x y : UInt8} {l : List UInt8} {l2 : List UInt8} (h1 : v.data.toList = x :: l) (h2 : v.data.toList = l2 ++ [y]) (hx : x ≠ 32) (hy : y ≠ 32) (hl : (nmsB v).all lnC = true) : vlB v = true := by
  unfold vlB
  rw [allB_nms, hl]
  have e1 : Lib.hasPrefix v.data.toList [32] = false := by
    unfold Lib.hasPrefix
    rw [h1]
    show ((32 == x) && _) = false
    rw [beq_false_of_ne (Ne.symm hx)]
    rfl
  have e2 : Lib.hasSuffix v.data.toList [32] = false := by
    cases hc : Lib.hasSuffix v.data.toList [32] with
    | false => rfl
    | true =>
      unfold Lib.hasSuffix at hc
      rw [List.isSuffixOf_iff_suffix, h2] at hc
      obtain ⟨t, ht⟩ := hc
      have := (List.append_inj' ht rfl).2
      simp only [List.cons.injEq, and_true] at this
      exact absurd this.symm hy
  rw [e1, e2]
  rfl
theorem hi_right (a : Int) (h : 0 ≤ a ∧ a ≤ 4294967295) (p : Nat) (hp : p ≤ 65535) : rgB inS (hiH (plT (adB a) p)) 0 = true := by
  have hps := plT_size a h p hp
  have hln := plT_ln a p
  generalize plT (adB a) p = pl at *
  have e1 : vlB (mkV ++ (pl ++ tlV)) = true := by
    refine vlB_mid (a := pl) (b := pl) (x := 83) (y := 120) (l := [73, 80, 47, 50, 46, 48, 47, 85, 68, 80, 32] ++ (pl.data.toList ++ [59, 120])) (l2 := mkV.data.toList ++ (pl.data.toList ++ [59])) ?_ ?_ (by decide) (by decide) ?_
    · rw [ba_app, ba_app]; rfl
    · rw [ba_app, ba_app]; simp [tlV]
    · rw [nmsB_app, nmsB_app, List.all_append, List.all_append, hln]; decide
  have e2 : vlB (pfC ++ (mkC ++ (pl ++ tlC))) = true := by
    refine vlB_mid (a := pl) (b := pl) (x := 60) (y := 62) (l := [115, 105, 112, 58, 97] ++ (mkC.data.toList ++ (pl.data.toList ++ [62]))) (l2 := pfC.data.toList ++ (mkC.data.toList ++ pl.data.toList)) ?_ ?_ (by decide) (by decide) ?_
    · rw [ba_app, ba_app, ba_app]; rfl
    · rw [ba_app, ba_app, ba_app]; simp [tlC]
    · rw [nmsB_app, nmsB_app, nmsB_app, List.all_append, List.all_append, List.all_append, hln]; decide
  have n1 : allN nmC viS = true := by decide +kernel
  have n2 : allN nmC coS = true := by decide +kernel
  have n3 : okh 0 (clN, ⟨#[48]⟩) = true := by decide +kernel
  have s1 : swV viS clN = false := by decide +kernel
  have s2 : swV coS clN = false := by decide +kernel
  have s3 : swV clN clN = true := by decide +kernel
  have hst : allB lnC inS = true := by decide +kernel
  have o1 : okh 0 (viS, mkV ++ (pl ++ tlV)) = true := by unfold okh; rw [n1, e1, s1]; rfl
  have o2 : okh 0 (coS, pfC ++ (mkC ++ (pl ++ tlC))) = true := by unfold okh; rw [n2, e2, s2]; rfl
  have hs : szM inS (hiH pl) 0 ≤ 4096 := by
    unfold szM hsz hiH
    simp only [List.map_cons, List.map_nil, List.sum_cons, List.sum_nil, ByteArray.size_append]
    have z1 : viS.size = 3 := rfl
    have z2 : coS.size = 7 := rfl
    have z3 : clN.size = 14 := rfl
    have z4 : mkV.size = 12 := rfl
    have z5 : tlV.size = 2 := rfl
    have z6 : pfC.size = 6 := rfl
    have z7 : mkC.size = 1 := rfl
    have z8 : tlC.size = 1 := rfl
    have z9 : inS.size = 6 := rfl
    have z0 : ByteArray.size ⟨#[48]⟩ = 1 := rfl
    omega
  unfold rgB rhB
  rw [hst, decide_eq_true hs]
  have ha : (hiH pl).all (okh 0) = true := by unfold hiH; simp only [List.all_cons, List.all_nil, o1, o2, n3]; rfl
  have hc : (hiH pl).countP (fun h => swV h.1 clN) = 1 := by unfold hiH; simp [List.countP_cons, s1, s2, s3]
  rw [ha, hc]
  rfl
/-- Rewritten it names the other place. -/
theorem hi_math (h t : Int) (p q : Nat) (hh : 0 ≤ h ∧ h ≤ 4294967295) (ht : 0 ≤ t ∧ t ≤ 4294967295) (hp : 1 ≤ p ∧ p ≤ 65535) (hq : q ≤ 65535) : rwHs (cgOf h t (p : Int) (q : Int) []) inS (hiH (plT (adB h) p)) [] = hiH (plT (adB t) q) := by
  have hb : bdB (cgOf h t (p : Int) (q : Int) []) (strOfNums []) = ⟨#[]⟩ := by unfold bdB; rw [lnsB_nil rfl]; rfl
  have hw1 := wiB_at (c := cgOf h t (p : Int) (q : Int) []) (adB_dgd h) hp rfl (mkV ++ (plT (adB h) p ++ tlV)) ⟨#[]⟩ mkV enV tlV (.inl rfl) (by rw [bnil_app]; rfl) (fun j hj => absurd hj (Nat.not_lt_zero j)) (by decide) (by decide +kernel)
  have hw2 := wiB_at (c := cgOf h t (p : Int) (q : Int) []) (adB_dgd h) hp rfl (pfC ++ (mkC ++ (plT (adB h) p ++ tlC))) pfC mkC enK tlC (.inr rfl) rfl (by rw [ba_app]; exact noOcc1 (by decide)) (by decide) (by decide +kernel)
  rw [bnil_app] at hw1
  have hm : mgH (cgOf h t (p : Int) (q : Int) []) 0 (hiH (plT (adB h) p)) = hiH (plT (adB t) q) := by
    have s1 : swV viS viN = true := by decide +kernel
    have s2 : swV coS viN = false := by decide +kernel
    have s3 : swV coS ctN = true := by decide +kernel
    have s4 : swV clN viN = false := by decide +kernel
    have s5 : swV clN ctN = false := by decide +kernel
    have s6 : swV clN clN = true := by decide +kernel
    have s7 : decB 0 = ⟨#[48]⟩ := by decide +kernel
    unfold mgH hiH vuB
    simp only [List.map_cons, List.map_nil, s1, s2, s3, s4, s5, s6, s7, if_true, Bool.false_eq_true, if_false, hw1, hw2]
    rfl
  unfold rwHs rwOk
  rw [hb, show ByteArray.size ⟨#[]⟩ = 0 from rfl, hm]
  have r1 := hi_right h hh p (by omega)
  have r2 := hi_right t ht q hq
  rw [show ([] : List Int).length = 0 from rfl, r1, r2]
  rfl
end Go.Proofs.YtehdgndbloaljaaDoor

/- Package sip: a message's bytes taken apart: mathematics. -/
namespace Go.Proofs.YtehdgndbloaljaaDoor
open Go.RowKit Go.Shelf
set_option maxRecDepth 100000
set_option linter.unusedVariables false
set_option linter.unusedSimpArgs false

/-- What stands behind so many lines. -/
def itZ : Nat → ByteArray → ByteArray
  | 0, t => t
  | k + 1, t => itZ k (cutZ t crB)
theorem itZ_succ (k : Nat) : ∀ t : ByteArray, itZ (k + 1) t = cutZ (itZ k t) crB := by
  induction k with
  | zero => intro t; rfl
  | succ k ih => intro t; exact ih (cutZ t crB)
/-- How many bytes lines have. -/
def tkn (l : List (ByteArray × ByteArray)) : Nat := (l.map fun x => x.1.size + x.2.size).sum
theorem tkn_snoc (l : List (ByteArray × ByteArray)) (x : ByteArray × ByteArray) : tkn (l ++ [x]) = tkn l + (x.1.size + x.2.size) := by unfold tkn; simp
theorem betw_yes {s p : ByteArray} (h : cutF s p = true) : betw s p = p := by
  rcases cut_spec s p with ⟨_, he, _⟩ | ⟨hf, _⟩
  · have hl := congrArg List.length he
    rw [List.length_append, List.length_append, ← ba_len, ← ba_len, ← ba_len, ← ba_len] at hl
    apply ba_ext
    unfold betw
    rw [ba_ext_list, he]
    have e1 : s.size - (cutZ s p).size = (cutA s p).size + p.size := by omega
    rw [e1, ← List.append_assoc, List.take_left' (by rw [List.length_append, ← ba_len, ← ba_len]), List.drop_left' (by rw [← ba_len])]
  · rw [h] at hf; cases hf
theorem betw_no {s p : ByteArray} (h : cutF s p = false) : betw s p = ⟨#[]⟩ := by
  rcases cut_spec s p with ⟨hf, _⟩ | ⟨_, ha, hz, _⟩
  · rw [h] at hf; cases hf
  · apply ba_ext
    unfold betw
    rw [ba_ext_list, ha, hz]
    rw [List.drop_eq_nil_of_le]
    rw [List.length_take]
    have : ByteArray.size ⟨#[]⟩ = 0 := rfl
    omega
theorem cut_all (s p : ByteArray) : s.data.toList = (cutA s p).data.toList ++ ((betw s p).data.toList ++ (cutZ s p).data.toList) := by
  rcases cut_spec s p with ⟨hf, he, _⟩ | ⟨hf, ha, hz, _⟩
  · rw [betw_yes hf]; exact he
  · rw [betw_no hf, ha, hz]; simp
theorem cut_yes {s p : ByteArray} (h : cutF s p = true) : s = cutA s p ++ (p ++ cutZ s p) := by
  apply ba_ext
  rw [ba_app, ba_app]
  have := cut_all s p
  rwa [betw_yes h] at this
theorem cut_no {s p : ByteArray} (h : cutF s p = false) : cutA s p = s ∧ cutZ s p = ⟨#[]⟩ := by
  rcases cut_spec s p with ⟨hf, _⟩ | ⟨_, ha, hz, _⟩
  · rw [h] at hf; cases hf
  · exact ⟨ha, hz⟩
theorem lns_at : ∀ (pre : List (ByteArray × ByteArray)) (x : ByteArray × ByteArray) (ls : List (ByteArray × ByteArray)) (rest : ByteArray), lnsB rest = pre ++ x :: ls → (itZ pre.length rest).size ≠ 0 ∧ x = (cutA (itZ pre.length rest) crB, betw (itZ pre.length rest) crB) ∧ ls = lnsB (cutZ (itZ pre.length rest) crB)
  | [], x, ls, rest, h => by
    have hz : rest.size ≠ 0 := fun hz => by rw [lnsB_nil hz] at h; cases h
    rw [lnsB_cons hz] at h
    simp only [List.nil_append, List.cons.injEq] at h
    exact ⟨hz, h.1.symm, h.2.symm⟩
  | y :: pre, x, ls, rest, h => by
    have hz : rest.size ≠ 0 := fun hz => by rw [lnsB_nil hz] at h; cases h
    rw [lnsB_cons hz] at h
    simp only [List.cons_append, List.cons.injEq] at h
    exact lns_at pre x ls (cutZ rest crB) h.2
theorem lns_end : ∀ (pre : List (ByteArray × ByteArray)) (rest : ByteArray), lnsB rest = pre → (itZ pre.length rest).size = 0
  | [], rest, h => by
    by_cases hz : rest.size = 0
    · exact hz
    · rw [lnsB_cons hz] at h; cases h
  | y :: pre, rest, h => by
    have hz : rest.size ≠ 0 := fun hz => by rw [lnsB_nil hz] at h; cases h
    rw [lnsB_cons hz] at h
    simp only [List.cons.injEq] at h
    exact lns_end pre (cutZ rest crB) h.2
theorem lns_tail : ∀ (pre ls : List (ByteArray × ByteArray)) (rest : ByteArray), lnsB rest = pre ++ ls → rest.data.toList.drop (tkn pre) = (itZ pre.length rest).data.toList ∧ tkn pre + (itZ pre.length rest).size = rest.size
  | [], ls, rest, h => ⟨rfl, by show 0 + rest.size = _; omega⟩
  | y :: pre, ls, rest, h => by
    have hz : rest.size ≠ 0 := fun hz => by rw [lnsB_nil hz] at h; cases h
    rw [lnsB_cons hz] at h
    simp only [List.cons_append, List.cons.injEq] at h
    obtain ⟨h1, h2⟩ := lns_tail pre ls (cutZ rest crB) h.2
    have hc := cut_all rest crB
    have hl := congrArg List.length hc
    rw [List.length_append, List.length_append, ← ba_len, ← ba_len, ← ba_len, ← ba_len] at hl
    have e : tkn (y :: pre) = ((cutA rest crB).size + (betw rest crB).size) + tkn pre := by rw [← h.1]; rfl
    rw [e]
    refine ⟨?_, ?_⟩
    · rw [← List.drop_drop, hc, ← List.append_assoc, List.drop_left' (by rw [List.length_append, ← ba_len, ← ba_len])]
      exact h1
    · show _ + (itZ pre.length (cutZ rest crB)).size = _
      omega
/-- What is left of a text behind lines. -/
theorem lns_left (pre ls : List (ByteArray × ByteArray)) (rest : ByteArray) (h : lnsB rest = pre ++ ls) : rest.extract (tkn pre) rest.size = itZ pre.length rest := by
  apply ba_ext
  rw [ba_ext_list, ba_len rest, List.take_length]
  exact (lns_tail pre ls rest h).1

/-- A header's line, taken apart. -/
def hdO (l : ByteArray) : Hr := (cutA l nmE, cutZ l nmE)
/-- Headers and body of a text. -/
def spF : Nat → ByteArray → Option (List Hr × ByteArray)
  | 0, _ => none
  | n + 1, t => if t.size = 0 then none else if (cutA t crB).size = 0 then some ([], cutZ t crB) else if cutF (cutA t crB) nmE = false then none else (spF n (cutZ t crB)).map fun r => (hdO (cutA t crB) :: r.1, r.2)
def spT (t : ByteArray) : Option (List Hr × ByteArray) := spF t.size t
theorem spF_fuel : ∀ (n m : Nat) (s : ByteArray), s.size ≤ n → s.size ≤ m → spF n s = spF m s
  | 0, 0, s, _, _ => rfl
  | 0, m + 1, s, h, _ => by unfold spF; rw [if_pos (by omega)]
  | n + 1, 0, s, _, h => by unfold spF; rw [if_pos (by omega)]
  | n + 1, m + 1, s, h1, h2 => by
    unfold spF
    split
    · rfl
    · have := (cut_sizes s crB).2 (by assumption) (by decide)
      rw [spF_fuel n m (cutZ s crB) (by omega) (by omega)]
theorem spT_nil {s : ByteArray} (h : s.size = 0) : spT s = none := by unfold spT; rw [h]; rfl
theorem spT_cons {t : ByteArray} (h : t.size ≠ 0) : spT t = if (cutA t crB).size = 0 then some ([], cutZ t crB) else if cutF (cutA t crB) nmE = false then none else (spT (cutZ t crB)).map fun r => (hdO (cutA t crB) :: r.1, r.2) := by
  have hz := (cut_sizes t crB).2 h (by decide)
  have e : spT t = spF (t.size - 1 + 1) t := by unfold spT; congr 1; omega
  rw [e]
  show (if t.size = 0 then none else _) = _
  rw [if_neg h]
  rw [spF_fuel (t.size - 1) (cutZ t crB).size (cutZ t crB) (by omega) (Nat.le_refl _)]
  rfl
theorem spT_noend {t : ByteArray} (h : cutF t crB = false) : spT t = none := by
  by_cases hz : t.size = 0
  · exact spT_nil hz
  · obtain ⟨ha, hb⟩ := cut_no h
    rw [spT_cons hz, ha, if_neg hz]
    split
    · rfl
    · rw [hb, spT_nil (s := ⟨#[]⟩) rfl]; rfl
/-- Headers that were taken already. -/
def ppd (hs : List Hr) (r : Option (List Hr × ByteArray)) : Option (List Hr × ByteArray) := r.map fun r => (hs ++ r.1, r.2)
theorem ppd_nil (r : Option (List Hr × ByteArray)) : ppd [] r = r := by cases r <;> rfl
theorem ppd_one {t : ByteArray} (hs : List Hr) (h : t.size ≠ 0) (h1 : (cutA t crB).size ≠ 0) (h2 : cutF (cutA t crB) nmE = true) : ppd hs (spT t) = ppd (hs ++ [hdO (cutA t crB)]) (spT (cutZ t crB)) := by
  rw [spT_cons h, if_neg h1, if_neg (by rw [h2]; simp)]
  unfold ppd
  cases spT (cutZ t crB) <;> simp
theorem ppd_bad {t : ByteArray} (hs : List Hr) (h : t.size ≠ 0) (h1 : (cutA t crB).size ≠ 0) (h2 : cutF (cutA t crB) nmE = false) : ppd hs (spT t) = none := by
  rw [spT_cons h, if_neg h1, if_pos h2]
  rfl
theorem ppd_end {t : ByteArray} (hs : List Hr) (h : t.size ≠ 0) (h1 : (cutA t crB).size = 0) : ppd hs (spT t) = some (hs, cutZ t crB) := by
  rw [spT_cons h, if_pos h1]
  unfold ppd
  simp
/-- A message of bytes. -/
def prM (s : ByteArray) : Option (ByteArray × List Hr × ByteArray) := (spT (cutZ s crB)).map fun r => (cutA s crB, r.1, r.2)
theorem sp_join : ∀ (n : Nat) (t : ByteArray) (hs : List Hr) (b : ByteArray), spF n t = some (hs, b) → nmsB t = hdL hs ++ nmsB crB ++ nmsB b
  | 0, t, hs, b, h => by cases h
  | n + 1, t, hs, b, h => by
    unfold spF at h
    split at h
    · cases h
    rename_i hz
    split at h
    · rename_i ha
      cases h
      cases hf : cutF t crB with
      | false => rw [(cut_no hf).1] at ha; exact absurd ha hz
      | true =>
        have := cut_yes hf
        rw [str_empty _ ha, bnil_app] at this
        conv => lhs; rw [this]
        rw [nmsB_app]
        rfl
    split at h
    · cases h
    rename_i ha hm
    have hm' : cutF (cutA t crB) nmE = true := by simpa using hm
    cases hr : spF n (cutZ t crB) with
    | none => rw [hr] at h; cases h
    | some r =>
      rw [hr] at h
      cases h
      have ih := sp_join n (cutZ t crB) r.1 r.2 hr
      have hf : cutF t crB = true := by
        cases hf : cutF t crB with
        | true => rfl
        | false =>
          rw [(cut_no hf).2] at hr
          cases n with
          | zero => cases hr
          | succ n => unfold spF at hr; cases hr
      have h1 := cut_yes hf
      have h2 := cut_yes hm'
      conv => lhs; rw [h1]
      rw [nmsB_app, nmsB_app, ih]
      have e : hdL (hdO (cutA t crB) :: r.1) = nmsB (cutA t crB) ++ nmsB crB ++ hdL r.1 := by
        show nmsB (hdB (hdO (cutA t crB))) ++ hdL r.1 = _
        congr 1
        conv => rhs; rw [h2]
        unfold hdB hdO
        rw [nmsB_app, nmsB_app, nmsB_app, nmsB_app, nmsB_app]
        simp only [List.append_assoc]
      rw [e]
      simp only [List.append_assoc]
/-- What was taken apart, put together. -/
theorem pr_join {s st : ByteArray} {hs : List Hr} {b : ByteArray} (h : prM s = some (st, hs, b)) : txM st hs (nmsB b) = nmsB s := by
  unfold prM at h
  cases hr : spT (cutZ s crB) with
  | none => rw [hr] at h; cases h
  | some r =>
    rw [hr] at h
    cases h
    have hj := sp_join _ _ r.1 r.2 hr
    have hf : cutF s crB = true := by
      cases hf : cutF s crB with
      | true => rfl
      | false => rw [(cut_no hf).2, spT_nil (s := ⟨#[]⟩) rfl] at hr; cases hr
    have h1 := cut_yes hf
    conv => rhs; rw [h1]
    unfold txM
    rw [nmsB_app, nmsB_app, nmsB_app, hj]
    simp only [List.append_assoc]
/-- Headers and body as a text. -/
def tlB : List Hr → ByteArray → ByteArray
  | [], b => crB ++ b
  | h :: hs, b => (h.1 ++ (nmE ++ h.2)) ++ (crB ++ tlB hs b)
def txB (st : ByteArray) (hs : List Hr) (b : ByteArray) : ByteArray := st ++ (crB ++ tlB hs b)
theorem tlB_nms : ∀ (hs : List Hr) (b : ByteArray), nmsB (tlB hs b) = hdL hs ++ nmsB crB ++ nmsB b
  | [], b => by show nmsB (crB ++ b) = _; rw [nmsB_app]; rfl
  | h :: hs, b => by
    show nmsB ((h.1 ++ (nmE ++ h.2)) ++ (crB ++ tlB hs b)) = _
    rw [nmsB_app, nmsB_app, nmsB_app, nmsB_app, tlB_nms hs b]
    have e : hdL (h :: hs) = nmsB (hdB h) ++ hdL hs := rfl
    rw [e]
    unfold hdB
    rw [nmsB_app, nmsB_app, nmsB_app]
    simp only [List.append_assoc]
theorem txB_nms (st : ByteArray) (hs : List Hr) (b : ByteArray) : nmsB (txB st hs b) = txM st hs (nmsB b) := by
  unfold txB txM
  rw [nmsB_app, nmsB_app, nmsB_app, tlB_nms]
  simp only [List.append_assoc]
/-- No end of a line in it. -/
def Pl (s : ByteArray) : Prop := (13 : UInt8) ∉ s.data.toList
theorem cut_line {a z : ByteArray} (h : Pl a) : cutF (a ++ (crB ++ z)) crB = true ∧ cutA (a ++ (crB ++ z)) crB = a ∧ cutZ (a ++ (crB ++ z)) crB = z :=
  cut_uniq rfl (by rw [ba_app, ba_len]; exact noOccH h)
theorem cut_head {a z : ByteArray} (h : (58 : UInt8) ∉ a.data.toList) : cutF (a ++ (nmE ++ z)) nmE = true ∧ cutA (a ++ (nmE ++ z)) nmE = a ∧ cutZ (a ++ (nmE ++ z)) nmE = z :=
  cut_uniq rfl (by rw [ba_app, ba_len]; exact noOccH h)
theorem sp_build : ∀ (hs : List Hr) (b : ByteArray), (∀ h ∈ hs, Pl h.1 ∧ Pl h.2 ∧ (58 : UInt8) ∉ h.1.data.toList) → spT (tlB hs b) = some (hs, b)
  | [], b, _ => by
    have e : tlB [] b = ⟨#[]⟩ ++ (crB ++ b) := (bnil_app _).symm
    obtain ⟨h1, h2, h3⟩ := cut_line (a := ⟨#[]⟩) (z := b) (by unfold Pl; simp)
    rw [e, spT_cons (by rw [ByteArray.size_append, ByteArray.size_append]; have : crB.size = 2 := rfl; omega), h2, h3, if_pos (show ByteArray.size ⟨#[]⟩ = 0 from rfl)]
  | h :: hs, b, hh => by
    obtain ⟨p1, p2, p3⟩ := hh h (List.mem_cons_self ..)
    have ih := sp_build hs b (fun x hx => hh x (List.mem_cons_of_mem _ hx))
    have hp : Pl (h.1 ++ (nmE ++ h.2)) := by
      unfold Pl at *
      rw [ba_app, ba_app]
      intro hm
      rcases List.mem_append.1 hm with q | q
      · exact p1 q
      · rcases List.mem_append.1 q with q | q
        · exact absurd q (by decide)
        · exact p2 q
    obtain ⟨h1, h2, h3⟩ := cut_line (z := tlB hs b) hp
    obtain ⟨g1, g2, g3⟩ := cut_head (z := h.2) p3
    have hs2 : nmE.size = 2 := rfl
    have hc2 : crB.size = 2 := rfl
    show spT ((h.1 ++ (nmE ++ h.2)) ++ (crB ++ tlB hs b)) = _
    rw [spT_cons (by rw [ByteArray.size_append, ByteArray.size_append, ByteArray.size_append]; omega), h2, h3, if_neg (by rw [ByteArray.size_append, ByteArray.size_append]; omega), if_neg (by rw [g1]; simp), ih]
    show some (hdO (h.1 ++ (nmE ++ h.2)) :: hs, b) = _
    unfold hdO
    rw [g2, g3]
theorem okh_pl {n : Nat} {h : Hr} (ho : okh n h = true) : Pl h.1 ∧ Pl h.2 ∧ (58 : UInt8) ∉ h.1.data.toList := by
  unfold okh allN vlB at ho
  simp only [Bool.and_eq_true] at ho
  obtain ⟨⟨h1, _⟩, ⟨h2, _⟩, _⟩ := ho
  exact ⟨allB_not h1 13 (by decide +kernel), allB_not h2 13 (by decide +kernel), allB_not h1 58 (by decide +kernel)⟩
/-- What was put together, taken apart. -/
theorem pr_build {st : ByteArray} {hs : List Hr} {b : ByteArray} (h : rgB st hs b.size = true) : prM (txB st hs b) = some (st, hs, b) := by
  unfold rgB rhB at h
  simp only [Bool.and_eq_true, List.all_eq_true] at h
  obtain ⟨h1, _, ⟨_, h2, _⟩, _⟩ := h
  obtain ⟨c1, c2, c3⟩ := cut_line (a := st) (z := tlB hs b) (allB_not h1 13 (by decide +kernel))
  unfold prM txB
  rw [c2, c3, sp_build hs b (fun x hx => okh_pl (h2 x hx))]
  rfl
theorem str_nms (s : ByteArray) : strOfNums (nmsB s) = s := by
  apply ba_ext
  have h1 := nmsB_str (nmsB s) (nmsB_by s)
  unfold nmsB at h1
  refine List.map_inj_right (f := fun b : UInt8 => (b.toNat : Int)) (fun a b h => ?_) |>.1 h1
  have h' : (a.toNat : Int) = (b.toNat : Int) := h
  exact UInt8.toNat_inj.1 (by omega)
theorem pr_size {s st : ByteArray} {hs : List Hr} {b : ByteArray} (h : prM s = some (st, hs, b)) : szM st hs b.size = s.size := by
  have := congrArg List.length (pr_join h)
  rwa [txM_len, nmsB_len, nmsB_len] at this

/-- What Parse tells: the error, and the message. -/
def paO (zb : List Int) : Option (ByteArray × List Hr × ByteArray) := match prM (strOfNums zb) with
  | none => none
  | some (st, hs, b) => if rgB st hs b.size = true then some (st, hs, b) else none
def paE (zb : List Int) : Int := if 4096 < zb.length then 8 else if (paO zb).isSome = true then 0 else 4
def paM (zb : List Int) : ByteArray × List Hr × ByteArray := if 4096 < zb.length then (⟨#[]⟩, [], ⟨#[]⟩) else (paO zb).getD (⟨#[]⟩, [], ⟨#[]⟩)
theorem paM_long {zb : List Int} (h : 4096 < zb.length) : paE zb = 8 ∧ paM zb = (⟨#[]⟩, [], ⟨#[]⟩) := by unfold paE paM; rw [if_pos h, if_pos h]; exact ⟨rfl, rfl⟩
theorem paM_none {zb : List Int} (h : ¬ 4096 < zb.length) (hp : paO zb = none) : paE zb = 4 ∧ paM zb = (⟨#[]⟩, [], ⟨#[]⟩) := by unfold paE paM; rw [if_neg h, if_neg h, hp]; exact ⟨rfl, rfl⟩
theorem paM_some {zb : List Int} (h : ¬ 4096 < zb.length) {st : ByteArray} {hs : List Hr} {b : ByteArray} (hp : paO zb = some (st, hs, b)) : paE zb = 0 ∧ paM zb = (st, hs, b) := by unfold paE paM; rw [if_neg h, if_neg h, hp]; exact ⟨rfl, rfl⟩
theorem paO_none {zb : List Int} (h : prM (strOfNums zb) = none) : paO zb = none := by unfold paO; rw [h]
theorem paO_wrong {zb : List Int} {st : ByteArray} {hs : List Hr} {b : ByteArray} (h : prM (strOfNums zb) = some (st, hs, b)) (hr : rgB st hs b.size = false) : paO zb = none := by unfold paO; rw [h]; simp [hr]
theorem paO_right {zb : List Int} {st : ByteArray} {hs : List Hr} {b : ByteArray} (h : prM (strOfNums zb) = some (st, hs, b)) (hr : rgB st hs b.size = true) : paO zb = some (st, hs, b) := by unfold paO; rw [h]; simp [hr]
theorem paE_iff (zb : List Int) : paE zb = 0 ↔ ¬ 4096 < zb.length ∧ ∃ m, paO zb = some m := by
  unfold paE
  by_cases h : 4096 < zb.length
  · rw [if_pos h]; simp [h]
  · rw [if_neg h]
    cases hp : paO zb with
    | none => simp
    | some m => simp [h]
/-- Parse of Build. -/
theorem pa_build {st : ByteArray} {hs : List Hr} {zb : List Int} (hy : Mt.By zb) (h : rgB st hs zb.length = true) : paE (txM st hs zb) = 0 ∧ paM (txM st hs zb) = (st, hs, strOfNums zb) := by
  have hsz := rgB_sz h
  have e1 : nmsB (strOfNums zb) = zb := nmsB_str zb hy
  have e2 : (strOfNums zb).size = zb.length := strOfNums_size zb
  have h' : rgB st hs (strOfNums zb).size = true := by rw [e2]; exact h
  have e3 : strOfNums (txM st hs zb) = txB st hs (strOfNums zb) := by
    rw [← str_nms (txB st hs (strOfNums zb)), txB_nms, e1]
  refine paM_some (by rw [txM_len]; omega) (paO_right ?_ h')
  rw [e3, pr_build h']
/-- Build of Parse. -/
theorem build_pa {zb : List Int} (hy : Mt.By zb) (h : paE zb = 0) : rgB (paM zb).1 (paM zb).2.1 (paM zb).2.2.size = true ∧ txM (paM zb).1 (paM zb).2.1 (nmsB (paM zb).2.2) = zb := by
  obtain ⟨hl, m, hm⟩ := (paE_iff zb).1 h
  obtain ⟨st, hs, b⟩ := m
  rw [(paM_some hl hm).2]
  unfold paO at hm
  cases hp : prM (strOfNums zb) with
  | none => rw [hp] at hm; cases hm
  | some r =>
    obtain ⟨st', hs', b'⟩ := r
    rw [hp] at hm
    simp only at hm
    split at hm
    · rename_i hr
      cases hm
      refine ⟨hr, ?_⟩
      have := pr_join hp
      rwa [nmsB_str zb hy] at this
    · cases hm
end Go.Proofs.YtehdgndbloaljaaDoor

/- Package sip: split. -/
namespace Go.Proofs.YtehdgndbloaljaaDoor
open Go.RowKit Go.Shelf
set_option maxRecDepth 100000
attribute [local go_sem] Oper.semAt_some
set_option linter.unusedVariables false
set_option linter.unusedSimpArgs false

theorem OwG.ct {base : Nat} {A B : World} {v : Value} {ys : List Int} (h : OwG base A v ys) (k : CTs A B) : OwG base B v ys := let ⟨g, cap, cur, fz, e, hb, hh, r⟩ := h; ⟨g, cap, cur, fz, e, hb, k.2 _ _ hh rfl, r⟩
theorem OwG.mono {base base' : Nat} {A : World} {v : Value} {ys : List Int} (h : OwG base A v ys) (k : base' ≤ base) : OwG base' A v ys := let ⟨g, cap, cur, fz, e, hb, r⟩ := h; ⟨g, cap, cur, fz, e, Nat.le_trans k hb, r⟩

theorem own_butT {base : Nat} {E : Nat → Prop} {W W' : World} {e : TypeId} {size : Nat} {v : Value} {n : Nat} {xs : List Value} (h : W.ownsRow base e size v n xs) (hb : But E W W') (hE : ∀ g cur fz, W.heap[g]? = some (.cells cur e fz) → ¬ E g) : W'.ownsRow base e size v n xs := by
  obtain ⟨h1, h2 | ⟨g', cap, cur', hv, hg', hh, r⟩⟩ := h
  · exact ⟨h1, .inl h2⟩
  · exact ⟨h1, .inr ⟨g', cap, cur', hv, hg', (hb.block g' (Array.getElem?_eq_some_iff.1 hh).1 (hE g' cur' _ hh)).trans hh, r⟩⟩
/-- What split keeps while it goes along the lines. -/
def PS14 (g gx base : Nat) (st rest : ByteArray) (pre : List (ByteArray × ByteArray)) (W : World) : Prop :=
  W.heap[g]? = some (.cells #[.string ⟨#[]⟩, .slice none 0 0, .slice none 0 0] 25 (0, 0)) ∧ W.heap[g + 1]? = some (.cells #[.bool false] 4 (0, 0)) ∧ W.heap[gx]? = some (.cells #[.string rest] 9 (0, 0)) ∧
  (∃ vh hs, W.heap[gx + 1]? = some (.cells #[.string st, vh, .slice none 0 0] 25 (0, 0)) ∧ W.ownsRow base 53 2 vh hs.length (hrs hs) ∧ hs.length = pre.length ∧ Hid (spT rest = ppd hs (spT (itZ pre.length rest)))) ∧
  W.heap[gx + 1 + 1]? = some (.cells #[.int .i64 (tkn pre : Nat)] 3 (0, 0))
theorem PS14.ct {g gx base : Nat} {st rest : ByteArray} {pre : List (ByteArray × ByteArray)} {A B : World} (h : PS14 g gx base st rest pre A) (k : CTs A B) : PS14 g gx base st rest pre B := by
  obtain ⟨h1, h2, h3, ⟨vh, hs, h4, h5, h6⟩, h7⟩ := h
  exact ⟨k.2 _ _ h1 rfl, k.2 _ _ h2 rfl, k.2 _ _ h3 rfl, ⟨vh, hs, k.2 _ _ h4 rfl, ownsS_ct h5 k, h6⟩, k.2 _ _ h7 rfl⟩
/-- What it leaves. -/
def RS14 (g base : Nat) (st rest : ByteArray) (W : World) : Prop :=
  (∃ vh vb hs b, W.heap[g]? = some (.cells #[.string st, vh, vb] 25 (0, 0)) ∧ W.heap[g + 1]? = some (.cells #[.bool true] 4 (0, 0)) ∧ Hid (spT rest = some (hs, b)) ∧ W.ownsRow base 53 2 vh hs.length (hrs hs) ∧ OwG base W vb (nmsB b)) ∨
  (W.heap[g]? = some (.cells #[.string ⟨#[]⟩, .slice none 0 0, .slice none 0 0] 25 (0, 0)) ∧ W.heap[g + 1]? = some (.cells #[.bool false] 4 (0, 0)) ∧ Hid (spT rest = none))
theorem RS14.ct {g base : Nat} {st rest : ByteArray} {A B : World} (h : RS14 g base st rest A) (k : CTs A B) : RS14 g base st rest B := by
  rcases h with ⟨vh, vb, hs, b, h1, h2, h3, h4, h5⟩ | ⟨h1, h2, h3⟩
  · exact .inl ⟨vh, vb, hs, b, k.2 _ _ h1 rfl, k.2 _ _ h2 rfl, h3, ownsS_ct h4 k, h5.ct k⟩
  · exact .inr ⟨k.2 _ _ h1 rfl, k.2 _ _ h2 rfl, h3⟩
theorem keepNe {W : World} {i j n : Nat} {o : Obj} {cur : Array Value} {t : TypeId} {f : Nat × Nat} (h : W.heap[i]? = some o) (hc : o.isCells = false ∨ i < n) (hj : W.heap[j]? = some (.cells cur t f)) (hn : n ≤ j) : i ≠ j := fun e => by
  subst e
  rw [h] at hj
  cases hj
  rcases hc with h | h
  · cases h
  · omega
theorem OwG.butT {base : Nat} {E : Nat → Prop} {W W' : World} {v : Value} {ys : List Int} (h : OwG base W v ys) (hb : But E W W') (hE : ∀ g cur fz, W.heap[g]? = some (.cells cur 5 fz) → ¬ E g) : OwG base W' v ys := by
  obtain ⟨g, cap, cur, fz, e, hbg, hh, r⟩ := h
  exact ⟨g, cap, cur, fz, e, hbg, (hb.block g (Array.getElem?_eq_some_iff.1 hh).1 (hE g cur fz hh)).trans hh, r⟩
theorem OwG.setT {base : Nat} {W : World} {v : Value} {ys : List Int} (h : OwG base W v ys) {g : Nat} {cur : Array Value} {t : TypeId} (hg : W.heap[g]? = some (.cells cur t (0, 0))) (ht : t ≠ 5) (j : Nat) (u : Value) : OwG base (W.setCell ⟨g, j, none⟩ u) v ys := by
  obtain ⟨g', cap, cur', fz, e, hbg, hh, r⟩ := h
  exact ⟨g', cap, cur', fz, e, hbg, hsetS_ne hh (fun e => by subst e; rw [hg] at hh; cases hh; exact ht rfl), r⟩
/-- The results stored: three cells of a message, and a bool. -/
theorem res14 {W : World} {g n : Nat} {c0 c1 : Array Value} (h0 : W.heap[g]? = some (.cells c0 25 (0, 0))) (hc0 : c0.size = 3) (h1 : W.heap[g + 1]? = some (.cells c1 4 (0, 0))) (hc1 : c1.size = 1) (a b c d : Value) (hn : n ≤ g) (hnW : n ≤ W.heap.size) :
    ((((W.setCell ⟨g, 0, none⟩ a).setCell ⟨g, 1, none⟩ b).setCell ⟨g, 2, none⟩ c).setCell ⟨g + 1, 0, none⟩ d).heap[g]? = some (.cells #[a, b, c] 25 (0, 0)) ∧
    ((((W.setCell ⟨g, 0, none⟩ a).setCell ⟨g, 1, none⟩ b).setCell ⟨g, 2, none⟩ c).setCell ⟨g + 1, 0, none⟩ d).heap[g + 1]? = some (.cells #[d] 4 (0, 0)) ∧
    Below n W ((((W.setCell ⟨g, 0, none⟩ a).setCell ⟨g, 1, none⟩ b).setCell ⟨g, 2, none⟩ c).setCell ⟨g + 1, 0, none⟩ d) ∧
    But (fun b => b = g ∨ b = g + 1) W ((((W.setCell ⟨g, 0, none⟩ a).setCell ⟨g, 1, none⟩ b).setCell ⟨g, 2, none⟩ c).setCell ⟨g + 1, 0, none⟩ d) := by
  have e1 : (((W.setCell ⟨g, 0, none⟩ a).setCell ⟨g, 1, none⟩ b).setCell ⟨g, 2, none⟩ c) = putRow W g 0 [a, b, c] := rfl
  have hb1 : But (fun b => b = g ∨ b = g + 1) W (putRow W g 0 [a, b, c]) := putRow_but (E := fun b => b = g ∨ b = g + 1) (n := g) (.inl rfl) _ _ _ _ (But.refl _ _)
  have p1 := putRow_all [a, b, c] h0 (by rw [hc0]; rfl)
  have hb1' : But (fun b => b = g) W (putRow W g 0 [a, b, c]) := putRow_but (E := fun b => b = g) (n := g) rfl _ _ _ _ (But.refl _ _)
  have p2 := (hb1'.block (g + 1) (Array.getElem?_eq_some_iff.1 h1).1 (by omega)).trans h1
  rw [e1]
  generalize putRow W g 0 [a, b, c] = V at *
  have e2 : V.setCell ⟨g + 1, 0, none⟩ d = putRow V (g + 1) 0 [d] := rfl
  have hb2 : But (fun b => b = g ∨ b = g + 1) W (putRow V (g + 1) 0 [d]) := putRow_but (E := fun b => b = g ∨ b = g + 1) (n := g + 1) (.inr rfl) _ _ _ _ hb1
  have p3 := putRow_all [d] p2 (by rw [hc1]; rfl)
  rw [e2]
  refine ⟨?_, p3, hb2.below hnW (fun k hk e => by omega), hb2⟩
  rw [← e2]
  exact hsetS_ne p1 (by omega)
/-- What split tells. -/
def SpQ (o : Option (ByteArray × List Hr × ByteArray)) (base : Nat) (W : World) (v : Value) : Prop :=
  (∃ st vh vb hs b, o = some (st, hs, b) ∧ v = .tuple #[.agg #[.string st, vh, vb], .bool true] ∧ W.ownsRow base 53 2 vh hs.length (hrs hs) ∧ OwG base W vb (nmsB b)) ∨
  (o = none ∧ v = .tuple #[.agg #[.string ⟨#[]⟩, .slice none 0 0, .slice none 0 0], .bool false])

set_option maxRecDepth 100000 in
set_option maxHeartbeats 8000000 in
theorem split_any (s : ByteArray) (w : World) (hM : TabM w) (hs : s.size ≤ 4096) :
    Calls Tryd.prog 20 #[.string s] w fun e w' => Later w w' ∧ ∃ v, e = .returned v ∧ SpQ (prM s) w.heap.size w' v := by
  have HP : Hid (prM s = (spT (cutZ s crB)).map fun r => (cutA s crB, r.1, r.2)) := rfl
  generalize prM s = pm at *
  have hcs := (cut_sizes s crB).1
  have HC := hide (fun W (h : TabM W) => cut_any s crB W h (by omega))
  generalize cutA s crB = st at *
  generalize cutZ s crB = rest at *
  generalize cutF s crB = cf at *
  have hb0 : Later w ((w.alloc (.cells #[.string ⟨#[]⟩, .slice none 0 0, .slice none 0 0] 25)).alloc (.cells #[.bool false] 4)) := ((Below.refl _ _).alloc (Nat.le_refl _) _).alloc (by simp) _
  have C0 : Hid (((w.alloc (.cells #[.string ⟨#[]⟩, .slice none 0 0, .slice none 0 0] 25)).alloc (.cells #[.bool false] 4)).heap[w.heap.size]? = some (.cells #[.string ⟨#[]⟩, .slice none 0 0, .slice none 0 0] 25)) := (Below.heap_alloc _ _ _ (by simp)).trans (heap_alloc_new w _)
  have C1 : Hid (((w.alloc (.cells #[.string ⟨#[]⟩, .slice none 0 0, .slice none 0 0] 25)).alloc (.cells #[.bool false] 4)).heap[w.heap.size + 1]? = some (.cells #[.bool false] 4)) := by
    have := heap_alloc_new (w.alloc (.cells #[.string ⟨#[]⟩, .slice none 0 0, .slice none 0 0] 25)) (.cells #[.bool false] 4)
    rw [World.size_alloc] at this
    exact this
  refine (callsIn_wide (n := 5)).1 ?_
  refine callsIn_of_wp_marks Tryd.func20 rfl trivial ?_ rfl
  simp only [Tryd.ntmps20, List.size_toArray, List.length_cons, List.length_nil, Nat.reduceAdd, Nat.reduceSub, Array.replicate_succ, Array.replicate_zero, List.push_toArray, List.append_toArray, List.nil_append, List.cons_append]
  gi_upto_region 1 with fail
  generalize (w.alloc (.cells #[.string ⟨#[]⟩, .slice none 0 0, .slice none 0 0] 25)).alloc (.cells #[.bool false] 4) = wa at *
  gi_wp2
  refine ⟨trivial, ?_⟩
  refine (callsIn_wide.2 (HC.out wa (hM.later hb0))).mono ?_
  rintro e w1 ⟨rfl, l1⟩
  have lw1 : Later w w1 := Later.trans hb0 l1
  have hsz1 := lw1.size
  have D0 := hide (later_keep l1 C0.out)
  have D1 := hide (later_keep l1 C1.out)
  have hgb : w.heap.size + 1 < w1.heap.size := (Array.getElem?_eq_some_iff.1 D1.out).1
  clear C0 C1 HC
  have hb4 : Later w1 ((((w1.alloc (.cells #[.string rest] 9)).alloc (.cells #[.string st, .slice none 0 0, .slice none 0 0] 25)).alloc (.cells #[.int .i64 0] 3)).alloc (.cells #[.string rest] 9)) := ((((Below.refl _ _).alloc (Nat.le_refl _) _).alloc (by simp) _).alloc (by simp <;> omega) _).alloc (by simp <;> omega) _
  have c0 : ((((w1.alloc (.cells #[.string rest] 9)).alloc (.cells #[.string st, .slice none 0 0, .slice none 0 0] 25)).alloc (.cells #[.int .i64 0] 3)).alloc (.cells #[.string rest] 9)).heap[w1.heap.size]? = some (.cells #[.string rest] 9) := (Below.heap_alloc _ _ _ (by simp <;> omega)).trans ((Below.heap_alloc _ _ _ (by simp <;> omega)).trans ((Below.heap_alloc _ _ _ (by simp)).trans (heap_alloc_new w1 _)))
  have c1 : ((((w1.alloc (.cells #[.string rest] 9)).alloc (.cells #[.string st, .slice none 0 0, .slice none 0 0] 25)).alloc (.cells #[.int .i64 0] 3)).alloc (.cells #[.string rest] 9)).heap[w1.heap.size + 1]? = some (.cells #[.string st, .slice none 0 0, .slice none 0 0] 25) := by
    have := heap_alloc_new (w1.alloc (.cells #[.string rest] 9)) (.cells #[.string st, .slice none 0 0, .slice none 0 0] 25)
    rw [World.size_alloc] at this
    exact (Below.heap_alloc _ _ _ (by simp <;> omega)).trans ((Below.heap_alloc _ _ _ (by simp)).trans this)
  have c2 : ((((w1.alloc (.cells #[.string rest] 9)).alloc (.cells #[.string st, .slice none 0 0, .slice none 0 0] 25)).alloc (.cells #[.int .i64 0] 3)).alloc (.cells #[.string rest] 9)).heap[w1.heap.size + 1 + 1]? = some (.cells #[.int .i64 0] 3) := by
    have := heap_alloc_new ((w1.alloc (.cells #[.string rest] 9)).alloc (.cells #[.string st, .slice none 0 0, .slice none 0 0] 25)) (.cells #[.int .i64 0] 3)
    simp only [World.size_alloc] at this
    exact (Below.heap_alloc _ _ _ (by simp)).trans this
  have c3 : ((((w1.alloc (.cells #[.string rest] 9)).alloc (.cells #[.string st, .slice none 0 0, .slice none 0 0] 25)).alloc (.cells #[.int .i64 0] 3)).alloc (.cells #[.string rest] 9)).heap[w1.heap.size + 1 + 1 + 1]? = some (.cells #[.string rest] 9) := by
    have := heap_alloc_new (((w1.alloc (.cells #[.string rest] 9)).alloc (.cells #[.string st, .slice none 0 0, .slice none 0 0] 25)).alloc (.cells #[.int .i64 0] 3)) (.cells #[.string rest] 9)
    simpa only [World.size_alloc] using this
  have hs4 : ((((w1.alloc (.cells #[.string rest] 9)).alloc (.cells #[.string st, .slice none 0 0, .slice none 0 0] 25)).alloc (.cells #[.int .i64 0] 3)).alloc (.cells #[.string rest] 9)).heap.size = w1.heap.size + 1 + 1 + 1 + 1 := by simp
  have E0 := hide c0; have E1 := hide c1; have E2 := hide c2; have E3 := hide c3; have HS4 := hide hs4
  clear c0 c1 c2 c3 hs4
  gi_wp2_with (refine ⟨trivial, ?_⟩; gi_at_call 28; refine (lines_in _ _ _).mono ?_; rintro e w' ⟨rfl, rfl⟩)
  generalize (((w1.alloc (.cells #[.string rest] 9)).alloc (.cells #[.string st, .slice none 0 0, .slice none 0 0] 25)).alloc (.cells #[.int .i64 0] 3)).alloc (.cells #[.string rest] 9) = w4 at *
  have hs4 : w4.heap.size = w1.heap.size + 1 + 1 + 1 + 1 := HS4.out
  have hlr : rest.size ≤ 4096 := by omega
  refine wpIn_rangeX (w := w4) rfl (by omega) (gf := 46) (lb := #[.pointer (some ⟨w1.heap.size + 1 + 1 + 1, 0, none⟩)]) rfl trivial (enters_of Tryd.func46 (by kernel_rfl) rfl)
    (lines_gen 4 (by omega) (w1.heap.size + 1 + 1 + 1) rest w w4 hM (by omega) (Later.trans lw1 hb4) (by omega) (block_cell E3.out 0))
    (fun h k => h.trans k) (fun W l o o' hl ho hc hw => belowK_b (w := w4) (by omega) W l o o' hl ho hc hw) (fun hA hL => hL.mono (by omega)) (fun _ _ _ _ h _ => h) (fun _ _ _ _ _ _ _ _ _ h => h) (fun _ => rfl)
    (fun pre W => PS14 w.heap.size w1.heap.size w.heap.size st rest pre W ∧ Below w.heap.size w W) (fun pre W => RS14 w.heap.size w.heap.size st rest W ∧ Below w.heap.size w W)
    (OwnFrom.and (fun s A B row hs hg hr => hs.ct (CTs.row hg (fun r e => (hr r e).2))) (ownFrom_below (Nat.le_refl _) (by omega)))
    (fun s A B h l => ⟨h.1.ct (CTs.of l), h.2.trans (l.mono h.2.size)⟩)
    (OwnFrom.and (fun s A B row hs hg hr => hs.ct (CTs.row hg (fun r e => (hr r e).2))) (ownFrom_below (Nat.le_refl _) (by omega)))
    ⟨⟨later_keep hb4 D0.out, later_keep hb4 D1.out, E0.out, ⟨.slice none 0 0, [], E1.out, ⟨rfl, .inl ⟨rfl, rfl⟩⟩, rfl, by (show _ = _); rw [ppd_nil]; rfl⟩, E2.out⟩, Later.trans lw1 hb4⟩
    (fun x a' W => a' = { tmps := #[.string s, undef, .pointer (some ⟨w.heap.size, 0, none⟩), .pointer (some ⟨w.heap.size + 1, 0, none⟩), .string st, .pointer (some ⟨w1.heap.size, 0, none⟩), .bool cf, .pointer (some ⟨w1.heap.size + 1, 0, none⟩), .pointer (some ⟨w1.heap.size + 1 + 1, 0, none⟩), .string x.1, .string x.2, undef, undef, undef, .tuple #[.string st, .string rest, .bool cf], .string s, .tuple #[.string st, .string rest, .bool cf], .string st, .string rest, .bool cf, .string st, .agg #[.string st, .slice none 0 0, .slice none 0 0], .string rest, .func (.func 46) #[] #[.pointer (some ⟨w1.heap.size + 1 + 1 + 1, 0, none⟩)], .string x.1, .string x.2, undef, undef, undef, undef, undef, undef, undef, undef, undef, undef, undef, undef, undef, undef, undef, undef, undef, undef, undef, undef, undef, undef, undef, undef, undef, undef, undef, undef, undef, undef, undef, undef, undef], defers := [] })
    (fun x a' W l o o' hl ho hc h => h) ?assign ?body ?done ?stop
  case assign =>
    rintro l pre x W K hsz _ hX hK
    dsimp only [encL]
    gi_wp2
    exact hK _ _ (Below.refl _ _) rfl
  case body =>
    rintro l pre x a' W ⟨⟨hr0, hr1, hx0, ⟨vh, hs', hxm, hOw, hhl, hsp⟩, hx2⟩, hbW⟩ hX rfl
    obtain ⟨ls, hls⟩ := hX
    obtain ⟨hz, hxe, -⟩ := lns_at pre x ls rest hls.symm
    have hls2 : lnsB rest = (pre ++ [x]) ++ ls := by rw [← hls]; simp
    have htl := (lns_tail (pre ++ [x]) ls rest hls2).2
    have HLF := hide (lns_left (pre ++ [x]) ls rest hls2)
    have hlen : (pre ++ [x]).length = pre.length + 1 := by simp
    rw [hlen] at HLF htl
    have hpl : pre.length ≤ 4096 := by
      have h1 := congrArg List.length hls
      have h2 := lnsF_len rest.size rest
      unfold lnsB at h1
      simp at h1
      omega
    have htk : tkn (pre ++ [x]) = tkn pre + (x.1.size + x.2.size) := tkn_snoc pre x
    have HEN : Hid (x.1.size = 0 → spT rest = some (hs', rest.extract (tkn (pre ++ [x])) rest.size)) := fun h => by
      rw [hsp.out, HLF.out, itZ_succ]
      exact ppd_end hs' hz (by rw [hxe] at h; exact h)
    have HBD : Hid (x.1.size ≠ 0 → cutF x.1 nmE = false → spT rest = none) := fun h h2 => by
      rw [hsp.out]
      rw [hxe] at h h2
      exact ppd_bad hs' hz h h2
    have HON : Hid (x.1.size ≠ 0 → cutF x.1 nmE = true → spT rest = ppd (hs' ++ [hdO x.1]) (spT (itZ (pre.length + 1) rest))) := fun h h2 => by
      rw [hsp.out, itZ_succ, hxe]
      rw [hxe] at h h2
      exact ppd_one hs' hz h h2
    have HTK : Hid (((tkn (pre ++ [x]) : Nat) : Int) = (tkn pre : Int) + ((x.1.size : Int) + (x.2.size : Int))) := by (show _ = _); rw [htk]; omega
    have hq : tkn (pre ++ [x]) ≤ rest.size := by omega
    clear hsp hls hls2 hxe hz HLF hlen
    obtain ⟨x1, x2⟩ := x
    simp only at HEN HBD HON HTK htk
    have hx1s : x1.size ≤ 4096 := by omega
    have hx2s : x2.size ≤ 4096 := by omega
    have htp : tkn pre ≤ 4096 := by omega
    generalize hqq : tkn (pre ++ [(x1, x2)]) = q at *
    have HQQ := hide hqq
    clear htk htl hqq
    obtain ⟨va, vc, rfl⟩ := owns_form hOw
    have hbsz := hbW.size
    have HOW := hide hOw
    have hh4 : hs'.length ≤ 4096 := by omega
    have HHL := hide hhl
    clear hOw hhl
    have k2 := block_cell hx2
    have f2 := block_frozen hx2
    have B1 : Hid (Below w.heap.size W (W.setCell ⟨w1.heap.size + 1 + 1, 0, none⟩ (.int .i64 (q : Int)))) := (Below.refl _ _).setCell (p := ⟨w1.heap.size + 1 + 1, 0, none⟩) (by (show w.heap.size ≤ w1.heap.size + 1 + 1); omega) _
    have X2 := hide (heap_set1 hx2 0 (.int .i64 (q : Int)))
    have hk1 : Hid (∀ i o, W.heap[i]? = some o → i ≠ w1.heap.size + 1 + 1 → (W.setCell ⟨w1.heap.size + 1 + 1, 0, none⟩ (.int .i64 (q : Int))).heap[i]? = some o) := fun i o h hne => hsetS_ne h hne
    have HO1 := hide (own_set HOW.out hx2 (by decide) 0 (.int .i64 (q : Int)))
    gi_upto_region 7 with fail
    rw [← HTK.out]
    clear k2 f2
    generalize W.setCell ⟨w1.heap.size + 1 + 1, 0, none⟩ (.int .i64 (q : Int)) = W1 at *
    have Y0 := hide (hk1.out _ _ hr0 (by omega))
    have Y1 := hide (hk1.out _ _ hr1 (by omega))
    have Z0 := hide (hk1.out _ _ hx0 (by omega))
    have Z1 := hide (hk1.out _ _ hxm (by omega))
    have hn1 : Hid (∀ i o, W.heap[i]? = some o → (o.isCells = false ∨ i < w.heap.size) → W1.heap[i]? = some o) := fun i o h hc => hk1.out i o h (keepNe h hc hx2 (by omega))
    have hsW1 : w.heap.size ≤ W1.heap.size := Nat.le_trans hbsz B1.out.size
    by_cases hz1 : x1.size = 0
    · have HSP := hide (HEN.out hz1)
      obtain rfl := str_empty x1 hz1
      clear HEN HBD HON hz1
      obtain ⟨gb, cb, w2, hcv, hG2, l2⟩ : ∃ g c w2, (convert 9 22 (.string (rest.extract q rest.size))).run Tryd.prog W1 = .ok (.slice (some ⟨g, 0, none⟩) (nmsB (rest.extract q rest.size)).length c) w2 ∧ OwG W1.heap.size w2 (.slice (some ⟨g, 0, none⟩) (nmsB (rest.extract q rest.size)).length c) (nmsB (rest.extract q rest.size)) ∧ Later W1 w2 := by
        have hG := conv_G W1 (rest.extract q rest.size) (by rw [ByteArray.size_extract]; omega)
        rw [← nmsB_len (rest.extract q rest.size)] at hG
        refine ⟨W1.heap.size, _, _, ?_, hG, conv_later W1 5 (rest.extract q rest.size)⟩
        rw [nmsB_len]
        exact Lib.run_convert_string_bytes W1 9 22 5 (rest.extract q rest.size) Tryd.underlying9 Tryd.underlying22 Tryd.underlying5
      have hq' : (q : Int) ≤ (rest.size : Int) := by omega
      have k0 := block_cell Z0.out
      have k2 := block_cell X2.out
      have Z1b := later_keep l2 Z1.out
      have k1b := block_cell Z1b
      have f1b := block_frozen Z1b
      have hnl0 : (nmsB (rest.extract q rest.size)).length ≤ 4096 := by rw [nmsB_len, ByteArray.size_extract]; omega
      generalize (nmsB (rest.extract q rest.size)).length = nl at *
      have Z13 := hide (heap_set1 Z1b 2 (.slice (some ⟨gb, 0, none⟩) nl cb))
      have hk3 : Hid (∀ i o, W1.heap[i]? = some o → i ≠ w1.heap.size + 1 → (w2.setCell ⟨w1.heap.size + 1, 2, none⟩ (.slice (some ⟨gb, 0, none⟩) nl cb)).heap[i]? = some o) := fun i o h hne => hsetS_ne (later_keep l2 h) hne
      have HO3 := hide (own_set (ownsS_ct HO1.out (CTs.of l2)) Z1b (by decide) 2 (.slice (some ⟨gb, 0, none⟩) nl cb))
      have B3 : Hid (Below w.heap.size W1 (w2.setCell ⟨w1.heap.size + 1, 2, none⟩ (.slice (some ⟨gb, 0, none⟩) nl cb))) := (l2.mono hsW1).setCell (p := ⟨w1.heap.size + 1, 2, none⟩) (by (show w.heap.size ≤ w1.heap.size + 1); omega) _
      have HG3 : Hid (OwG w.heap.size (w2.setCell ⟨w1.heap.size + 1, 2, none⟩ (.slice (some ⟨gb, 0, none⟩) nl cb)) (.slice (some ⟨gb, 0, none⟩) nl cb) (nmsB (rest.extract q rest.size))) := by
        obtain ⟨g', cap', cur, fz, e, hbg, hh, r⟩ := hG2
        exact ⟨g', cap', cur, fz, e, by omega, hsetS_ne hh (fun e2 => by have h1 := (Array.getElem?_eq_some_iff.1 Z1.out).1; omega), r⟩
      clear hG2
      gi_upto_region 9 with fail
      clear k0 k2 k1b f1b hcv
      generalize w2.setCell ⟨w1.heap.size + 1, 2, none⟩ (.slice (some ⟨gb, 0, none⟩) nl cb) = W3 at *
      have V0 := hk3.out _ _ Y0.out (by omega)
      have V1 := hk3.out _ _ Y1.out (by omega)
      have k3 := block_cell Z13.out
      have kv0 := block_cell V0
      have kv1 := block_cell V1
      have fv0 := block_frozen V0
      have fv1 := block_frozen V1
      gi_wp2
      clear k3 kv0 kv1 fv0 fv1
      obtain ⟨q0, q1, qb, qt⟩ := res14 (n := w.heap.size) V0 rfl V1 rfl (.string st) (.slice va hs'.length vc) (.slice (some ⟨gb, 0, none⟩) nl cb) (.bool true) (Nat.le_refl _) (Nat.le_trans hsW1 B3.out.size)
      generalize ((((W3.setCell ⟨w.heap.size, 0, none⟩ _).setCell ⟨w.heap.size, 1, none⟩ _).setCell ⟨w.heap.size, 2, none⟩ _).setCell ⟨w.heap.size + 1, 0, none⟩ _) = V9 at *
      have HOV : V9.ownsRow w.heap.size 53 2 (.slice va hs'.length vc) hs'.length (hrs hs') := own_butT HO3.out qt (fun i cur f h => by rintro (rfl | rfl); (rw [V0] at h; cases h); (rw [V1] at h; cases h))
      have HGV : OwG w.heap.size V9 (.slice (some ⟨gb, 0, none⟩) nl cb) (nmsB (rest.extract q rest.size)) := HG3.out.butT qt (fun i cur f h => by rintro (rfl | rfl); (rw [V0] at h; cases h); (rw [V1] at h; cases h))
      have hBW : Below w.heap.size W V9 := B1.out.trans (B3.out.trans qb)
      have hRS : RS14 w.heap.size w.heap.size st rest V9 := .inl ⟨.slice va hs'.length vc, .slice (some ⟨gb, 0, none⟩) nl cb, hs', rest.extract q rest.size, q0, q1, HSP, HOV, HGV⟩
      have hbV9 := hbW.trans hBW
      refine ⟨⟨hBW.size, fun i o hi ho hc => ?_⟩, hRS, hbV9⟩
      have o1 := hn1.out i o ho (.inl hc)
      have o3 := hk3.out i o o1 (keepNe (n := w.heap.size) o1 (.inl hc) Z1.out (by omega))
      exact (qt.block i (Array.getElem?_eq_some_iff.1 o3).1 (by
        rintro (rfl | rfl)
        · rw [V0] at o3; cases o3; cases hc
        · rw [V1] at o3; cases o3; cases hc)).trans o3
    · have hne1 := str_ne hz1
      gi_upto_region 10 with fail
      have HCT := hide (fun W (h : TabM W) => ((callsIn_wide (n := 2)).2 (cut_any x1 nmE W h (by omega))).inRound l)
      have HBD2 := hide (HBD.out hz1)
      have HON2 := hide (HON.out hz1)
      have hcs1 := (cut_sizes x1 nmE).1
      have HHO : Hid (hdO x1 = (cutA x1 nmE, cutZ x1 nmE)) := rfl
      clear HEN HBD HON hne1
      generalize hdO x1 = hd1 at *
      generalize cutA x1 nmE = ca at *
      generalize cutZ x1 nmE = cz at *
      generalize cutF x1 nmE = cf1 at *
      gi_wp2
      refine ⟨trivial, ?_⟩
      refine (HCT.out W1 (hM.later (hbW.trans B1.out))).mono ?_
      rintro e W2 ⟨rfl, l2⟩
      have U0 := later_keep l2 Y0.out
      have U1 := later_keep l2 Y1.out
      have hsW2 : w.heap.size ≤ W2.heap.size := Nat.le_trans hsW1 l2.size
      have B2 : Hid (Below w.heap.size W W2) := B1.out.trans (l2.mono hsW1)
      cases cf1 with
      | false =>
        have HSP := hide (HBD2.out rfl)
        clear HBD2 HON2 HCT
        have kv0 := block_cell U0
        have kv1 := block_cell U1
        have fv0 := block_frozen U0
        have fv1 := block_frozen U1
        gi_wp2
        clear kv0 kv1 fv0 fv1
        obtain ⟨q0, q1, qb, qt⟩ := res14 (n := w.heap.size) U0 rfl U1 rfl (.string ⟨#[]⟩) (.slice none 0 0) (.slice none 0 0) (.bool false) (Nat.le_refl _) hsW2
        generalize ((((W2.setCell ⟨w.heap.size, 0, none⟩ _).setCell ⟨w.heap.size, 1, none⟩ _).setCell ⟨w.heap.size, 2, none⟩ _).setCell ⟨w.heap.size + 1, 0, none⟩ _) = V9 at *
        have hBW : Below w.heap.size W V9 := B2.out.trans qb
        have hRS : RS14 w.heap.size w.heap.size st rest V9 := .inr ⟨q0, q1, HSP⟩
        have hbV9 := hbW.trans hBW
        refine ⟨⟨hBW.size, fun i o hi ho hc => ?_⟩, hRS, hbV9⟩
        have o3 := later_keep l2 (hn1.out i o ho (.inl hc))
        exact (qt.block i (Array.getElem?_eq_some_iff.1 o3).1 (by
          rintro (rfl | rfl)
          · rw [U0] at o3; cases o3; cases hc
          · rw [U1] at o3; cases o3; cases hc)).trans o3
      | true =>
        have HSP : Hid (spT rest = ppd (hs' ++ [(ca, cz)]) (spT (itZ (pre ++ [(x1, x2)]).length rest))) := by
          have h := HON2.out rfl
          rw [HHO.out] at h
          rw [show (pre ++ [(x1, x2)]).length = pre.length + 1 by simp]
          exact h
        clear HBD2 HON2 HCT HHO
        have la := later_allocR W2 (.cells #[.string ca, .string cz] 53)
        have HNB := heap_alloc_new W2 (.cells #[.string ca, .string cz] 53)
        obtain ⟨i0, hi0, hz0, hz1', hz2⟩ := info_partsS info_hdr
        have HRA := hide (ownsS_ct HO1.out (CTs.of (l2.trans la)))
        have HNW : Hid (∀ j u, [Value.string ca, .string cz][j]? = some u → (W2.alloc (.cells #[.string ca, .string cz] 53)).cell? ((⟨W2.heap.size, 0, none⟩ : Addr).add j) = some u) := fun j u hj => by
          rw [show (⟨W2.heap.size, 0, none⟩ : Addr).add j = ⟨W2.heap.size, j, none⟩ from by unfold Addr.add; split <;> simp_all, block_cell HNB j]
          simpa using hj
        have T1 := hide (later_keep (l2.trans la) Z1.out)
        have hkA : Hid (∀ i o, W.heap[i]? = some o → (o.isCells = false ∨ i < w.heap.size) → (W2.alloc (.cells #[.string ca, .string cz] 53)).heap[i]? = some o) := fun i o h hc => later_keep (l2.trans la) (hn1.out i o h hc)
        have T0 := hide (later_keep la U0)
        have T2 := hide (later_keep la U1)
        have T3 := hide (later_keep (l2.trans la) Z0.out)
        have T4 := hide (later_keep (l2.trans la) X2.out)
        have hsWA : w.heap.size ≤ (W2.alloc (.cells #[.string ca, .string cz] 53)).heap.size := Nat.le_trans hsW2 la.size
        have BA := hide (B2.out.trans (la.mono hsW2))
        have k1 := block_cell (later_keep l2 Z1.out)
        clear HNB U0 U1 la l2
        gi_wp2_with (gi_at_builtin; refine wpListIn_append_own _ rfl (.tmp 51) (.tmp 55) 23 rfl w.heap.size 53 i0 (.agg #[.string ⟨#[]⟩, .string ⟨#[]⟩]) 2 32 Tryd.underlying23 hi0 hz0 hz1' hz2 rfl (by decide) _ hs'.length (hrs hs') rfl HRA.out ⟨W2.heap.size, 0, none⟩ 1 1 [.string ca, .string cz] rfl rfl HNW.out (by intro u hu; simp at hu; rcases hu with rfl | rfl <;> rfl) (by simp only [maxLen]; omega) (by omega) hsWA ?_; intro v2 V2 hrow2 hg2 hnn; obtain ⟨a2, cp2, rfl⟩ := owns_form hrow2; have hob2 := keep_row HRA.out hg2 T1.out (.inl fun cur f e => by cases e); have Kv2 := block_cell hob2; have Fv2 := block_frozen hob2; have HGG := hide hg2; have HRR := hide hrow2; clear hg2 hrow2 hnn)
        clear Kv2 Fv2 k1
        have hE1 := heap_set1 hob2 1 (.slice a2 (hs'.length + 1) cp2)
        have hkV : ∀ i o, (W2.alloc (.cells #[.string ca, .string cz] 53)).heap[i]? = some o → ((∀ cur f, o ≠ .cells cur 53 f) ∨ i < w.heap.size) → i ≠ w1.heap.size + 1 → (V2.setCell ⟨w1.heap.size + 1, 1, none⟩ (.slice a2 (hs'.length + 1) cp2)).heap[i]? = some o := fun i o h hh hne => hsetS_ne (keep_row HRA.out HGG.out h hh) hne
        have F0 := hkV _ _ T0.out (.inl fun cur f e => by cases e) (by omega)
        have F1 := hkV _ _ T2.out (.inl fun cur f e => by cases e) (by omega)
        have F3 := hkV _ _ T3.out (.inl fun cur f e => by cases e) (by omega)
        have F4 := hkV _ _ T4.out (.inl fun cur f e => by cases e) (by omega)
        have hE2 : (V2.setCell ⟨w1.heap.size + 1, 1, none⟩ (.slice a2 (hs'.length + 1) cp2)).ownsRow w.heap.size 53 2 (.slice a2 (hs'.length + 1) cp2) (hs' ++ [(ca, cz)]).length (hrs (hs' ++ [(ca, cz)])) := by
          rw [List.length_append, hrs_snoc]
          exact own_set HRR.out hob2 (by decide) 1 _
        have hBV : Below w.heap.size (W2.alloc (.cells #[.string ca, .string cz] 53)) (V2.setCell ⟨w1.heap.size + 1, 1, none⟩ (.slice a2 (hs'.length + 1) cp2)) := ⟨HGG.out.os, HGG.out.tape, HGG.out.output, by have := HGG.out.size; simp at this ⊢; omega, fun i hi => by
          cases hh : (W2.alloc (.cells #[.string ca, .string cz] 53)).heap[i]? with
          | none => have := Array.getElem?_eq_none_iff.1 hh; omega
          | some o => exact hkV i o hh (.inr hi) (by omega)⟩
        have hBW : Below w.heap.size W (V2.setCell ⟨w1.heap.size + 1, 1, none⟩ (.slice a2 (hs'.length + 1) cp2)) := BA.out.trans hBV
        have hKF : KeepsFrom w4.heap.size W (V2.setCell ⟨w1.heap.size + 1, 1, none⟩ (.slice a2 (hs'.length + 1) cp2)) := ⟨hBW.size, fun i o hi ho hc => hkV i o (hkA.out i o ho (.inl hc)) (.inl fun cur f e => by subst e; cases hc) (by omega)⟩
        have hPS : PS14 w.heap.size w1.heap.size w.heap.size st rest (pre ++ [(x1, x2)]) (V2.setCell ⟨w1.heap.size + 1, 1, none⟩ (.slice a2 (hs'.length + 1) cp2)) := by
          refine ⟨F0, F1, F3, ⟨_, hs' ++ [(ca, cz)], hE1, hE2, ?_, HSP⟩, ?_⟩
          · rw [List.length_append, List.length_append, HHL.out]; rfl
          · rw [HQQ.out]; exact F4
        have hbV9 := hbW.trans hBW
        generalize V2.setCell ⟨w1.heap.size + 1, 1, none⟩ (.slice a2 (hs'.length + 1) cp2) = V9 at *
        exact ⟨hKF, hBW, hPS, hbV9⟩
  case done =>
    rintro D xs W hD hxs ⟨⟨hr0, hr1, hx0, ⟨vh, hs', hxm, hOw, hhl, hsp⟩, hx2⟩, hbW⟩ hK
    have hno : pm = none := by
      rw [HP.out, hsp.out, spT_nil (lns_end xs rest hxs.symm)]
      rfl
    have kv0 := block_cell hr0
    have kv1 := block_cell hr1
    have fv0 := block_frozen hr0
    have fv1 := block_frozen hr1
    have HNO := hide hno
    clear hno hxm hOw hsp hhl
    gi_wp2
    clear kv0 kv1 fv0 fv1
    obtain ⟨q0, q1, qb, qt⟩ := res14 (n := w.heap.size) hr0 rfl hr1 rfl (.string ⟨#[]⟩) (.slice none 0 0) (.slice none 0 0) (.bool false) (Nat.le_refl _) hbW.size
    generalize ((((W.setCell ⟨w.heap.size, 0, none⟩ _).setCell ⟨w.heap.size, 1, none⟩ _).setCell ⟨w.heap.size, 2, none⟩ _).setCell ⟨w.heap.size + 1, 0, none⟩ _) = V9 at *
    have hK9 := (qt.block D (Array.getElem?_eq_some_iff.1 hK).1 (by omega)).trans hK
    have q4 := (CTs.put (o' := .deferred none) hK9 rfl).2 _ _ q0 rfl
    have q5 := (CTs.put (o' := .deferred none) hK9 rfl).2 _ _ q1 rfl
    have Q4 := block_cell q4
    have Q5 := block_cell q5
    refine ⟨by simp, .inl ⟨_, _, rfl, run_takeDeferred hK9, ?_⟩⟩
    exact ⟨.tuple #[.agg #[.string ⟨#[]⟩, .slice none 0 0, .slice none 0 0], .bool false], by simp [results, Tryd.results20, go_sem, Q4, Q5], (hbW.trans qb).trans (belowK_b (w := w) (Nat.le_refl _) V9 D _ _ (by omega) hK9 rfl rfl), _, rfl, .inr ⟨HNO.out, rfl⟩⟩
  case stop =>
    rintro D pre W hD _ ⟨hR, hbW⟩ hK
    have hR2 := hR.ct (CTs.put (o' := .deferred none) hK rfl)
    have hB2 : Later w (W.putObj D (.deferred none)) := hbW.trans (belowK_b (w := w) (Nat.le_refl _) W D _ _ (by omega) hK rfl rfl)
    rcases hR2 with ⟨vh, vb, hs', b, h1, h2, h3, h4, h5⟩ | ⟨h1, h2, h3⟩
    · have hpm : pm = some (st, hs', b) := by rw [HP.out, h3.out]; rfl
      obtain ⟨va, vc, rfl⟩ := owns_form h4
      obtain ⟨g1, c1, e1, _⟩ := h5.form
      have H4 := hide h4
      have H5 := hide h5
      have HPM := hide hpm
      clear h4 h5 hpm hR
      generalize (nmsB b).length = nb at *
      subst e1
      have Q4 := block_cell h1
      have Q5 := block_cell h2
      gi_wp2
      refine ⟨by simp, .inl ⟨_, _, rfl, run_takeDeferred hK, ?_⟩⟩
      exact ⟨.tuple #[.agg #[.string st, .slice va hs'.length vc, .slice (some ⟨g1, 0, none⟩) nb c1], .bool true], by simp [results, Tryd.results20, go_sem, Q4, Q5], hB2, _, rfl, .inl ⟨_, _, _, _, _, HPM.out, rfl, H4.out, H5.out⟩⟩
    · have hpm : pm = none := by rw [HP.out, h3.out]; rfl
      have HPM := hide hpm
      clear hpm hR
      have Q4 := block_cell h1
      have Q5 := block_cell h2
      gi_wp2
      refine ⟨by simp, .inl ⟨_, _, rfl, run_takeDeferred hK, ?_⟩⟩
      exact ⟨.tuple #[.agg #[.string ⟨#[]⟩, .slice none 0 0, .slice none 0 0], .bool false], by simp [results, Tryd.results20, go_sem, Q4, Q5], hB2, _, rfl, .inr ⟨HPM.out, rfl⟩⟩
end Go.Proofs.YtehdgndbloaljaaDoor

/- Package sip: Ports. -/
namespace Go.Proofs.YtehdgndbloaljaaDoor
open Go.RowKit Go.Shelf
set_option maxRecDepth 100000
attribute [local go_sem] Oper.semAt_some
set_option linter.unusedVariables false
set_option linter.unusedSimpArgs false

/-- A map that is a set of these numbers. -/
def MpS (es : Array MapEntry) (acc : List Int) : Prop := es.toList.map (fun x => (x.key, x.val)) = acc.map fun p => (Value.int .u16 p, Value.agg #[])
theorem MpS.nil : MpS #[] [] := rfl
theorem MpS.find {es : Array MapEntry} {acc : List Int} (h : MpS es acc) (z : Int) : (z ∉ acc ∧ Instr.findNow (.int .u16) (.int .u16 z) es.toList 0 = some none) ∨ (z ∈ acc ∧ ∃ j, Instr.findNow (.int .u16) (.int .u16 z) es.toList 0 = some (some (j, .agg #[]))) := by
  have hmem : ∀ x ∈ es.toList, ∃ p ∈ acc, x.key = .int .u16 p ∧ x.val = .agg #[] := fun x hx => by
    have : (x.key, x.val) ∈ acc.map fun p => (Value.int .u16 p, Value.agg #[]) := by rw [← h]; exact List.mem_map.2 ⟨x, hx, rfl⟩
    obtain ⟨p, hp, e⟩ := List.mem_map.1 this
    simp only [Prod.mk.injEq] at e
    exact ⟨p, hp, e.1.symm, e.2.symm⟩
  have hk : ∀ x ∈ es.toList, MapKept.IsKey (.int .u16) x.key := fun x hx => by
    obtain ⟨p, _, e, _⟩ := hmem x hx
    rw [e]
    simp [MapKept.IsKey]
  rcases MapKept.findNow_spec (d := .int .u16) (k := .int .u16 z) (by simp [MapKept.IsKey]) es.toList 0 hk with ⟨h1, h2⟩ | ⟨j, e, h1, h2, h3⟩
  · refine .inl ⟨fun hz => ?_, h1⟩
    have : (Value.int .u16 z, Value.agg #[]) ∈ es.toList.map fun x => (x.key, x.val) := by rw [h]; exact List.mem_map.2 ⟨z, hz, rfl⟩
    obtain ⟨x, hx, e⟩ := List.mem_map.1 this
    simp only [Prod.mk.injEq] at e
    exact h2 x hx e.1
  · obtain ⟨p, hp, e1, e2⟩ := hmem e (List.mem_of_getElem? h2)
    rw [h3] at e1
    cases e1
    rw [e2] at h1
    exact .inr ⟨hp, _, h1⟩
theorem MpS.push {es : Array MapEntry} {acc : List Int} (h : MpS es acc) (z : Int) (c : Nat) : MpS (es.push ⟨.int .u16 z, .agg #[], c⟩) (acc ++ [z]) := by
  unfold MpS at *
  simp [h]
theorem run_findS {w : World} {b : Nat} {es : Array MapEntry} {c : Nat} (hb : w.heap[b]? = some (.map es c)) {acc : List Int} (h : MpS es acc) (z : Int) : (Instr.lookup 69 (.map (some b)) (.int .u16 z) true).run Tryd.prog w = .ok (.tuple #[.agg #[], .bool (decide (z ∈ acc))]) w := by
  have hc : (Instr.checkKey es.isEmpty 10000 47 (.int .u16 z)).run Tryd.prog w = .ok () w := MapKept.run_checkKey (k := .int .u16 z) Tryd.underlying47 (by simp [MapKept.IsKey]) _ 9999
  rcases h.find z with ⟨hz, hf⟩ | ⟨hz, j, hf⟩
  · have hzv : (zeroValue 78).run Tryd.prog w = .ok (.agg #[]) w := by kernel_rfl
    simp [Instr.lookup, run_underlying Tryd.underlying69, MapKept.run_getObj_map hb, hc, MapKept.run_findKey Tryd.underlying47 hf, hzv, Result.andThen, hz]
  · simp [Instr.lookup, run_underlying Tryd.underlying69, MapKept.run_getObj_map hb, hc, MapKept.run_findKey Tryd.underlying47 hf, Result.andThen, hz]
theorem run_insS {w : World} {b : Nat} {es : Array MapEntry} {c : Nat} (hb : w.heap[b]? = some (.map es c)) {acc : List Int} (h : MpS es acc) (z : Int) (hz : z ∉ acc) :
    ∃ w', (Instr.mapUpdate 69 (.map (some b)) (.int .u16 z) (.agg #[])).run Tryd.prog w = .ok () w' ∧ w'.heap[b]? = some (.map (es.push ⟨.int .u16 z, .agg #[], c⟩) (c + 1)) ∧ But (fun k => k = b) w w' := by
  have hc : (Instr.checkKey false 10000 47 (.int .u16 z)).run Tryd.prog w = .ok () w := MapKept.run_checkKey (k := .int .u16 z) Tryd.underlying47 (by simp [MapKept.IsKey]) false 9999
  have hlt := (Array.getElem?_eq_some_iff.1 hb).1
  rcases h.find z with ⟨_, hf⟩ | ⟨h2, _⟩
  · refine ⟨{ w with heap := w.heap.setIfInBounds b (.map (es.push ⟨.int .u16 z, .agg #[], c⟩) (c + 1)) }, ?_, ?_, ⟨rfl, rfl, rfl, by simp, fun i hi hne => ?_⟩⟩
    · simp [Instr.mapUpdate, run_underlying Tryd.underlying69, MapKept.run_getObj_map hb, hc, MapKept.run_findKey Tryd.underlying47 hf, MapKept.run_setObj_map _ hb, Result.andThen]
    · simp [hlt]
    · rw [Array.getElem?_setIfInBounds_ne (by omega)]
  · exact absurd h2 hz

/-- The ports that lines name, each once, in their order. -/
def ptS (acc : List Int) (x : ByteArray × ByteArray) : List Int := match mdO x.1 with
  | none => acc
  | some (_, p, _) => if p ∈ acc then acc else acc ++ [p]
def ptL (ls : List (ByteArray × ByteArray)) : List Int := ls.foldl ptS []
def thB (h : ByteArray) (ls : List (ByteArray × ByteArray)) : Bool := ls.any fun x => eqS x.1 (cnB ++ h)
def ptsB (h s : ByteArray) : List Int := if thB h (lnsB s) = true then ptL (lnsB s) else []
theorem ptL_snoc (l : List (ByteArray × ByteArray)) (x : ByteArray × ByteArray) : ptL (l ++ [x]) = ptS (ptL l) x := by unfold ptL; simp
theorem thB_snoc (h : ByteArray) (l : List (ByteArray × ByteArray)) (x : ByteArray × ByteArray) : thB h (l ++ [x]) = (thB h l || eqS x.1 (cnB ++ h)) := by unfold thB; simp
theorem ptS_len (acc : List Int) (x : ByteArray × ByteArray) : (ptS acc x).length ≤ acc.length + 1 := by
  unfold ptS
  split
  · omega
  · split
    · omega
    · simp
theorem ptL_len : ∀ (n : Nat) (l : List (ByteArray × ByteArray)), l.length = n → (ptL l).length ≤ n
  | 0, l, h => by rw [List.eq_nil_of_length_eq_zero h]; exact Nat.le_refl _
  | n + 1, l, h => by
    rcases List.eq_nil_or_concat l with rfl | ⟨l', x, e⟩
    · cases h
    rw [List.concat_eq_append] at e
    subst e
    have h1 := ptL_len n l' (by simpa using h)
    have h2 := ptS_len (ptL l') x
    rw [ptL_snoc]
    omega
def u16v (l : List Int) : List Value := l.map (Value.int .u16)
theorem info_u16S : (Tryd.prog.info? 47).map (fun i => (i.zero, i.size, i.bytes)) = some (some (.int .u16 0), 1, 2) := by kernel_rfl

/-- What Ports keeps while it goes along the lines. -/
def PQ14 (g g1 : Nat) (host : ByteArray) (pre : List (ByteArray × ByteArray)) (W : World) : Prop :=
  (∃ v, W.heap[g + 1]? = some (.cells #[v] 43 (0, 0)) ∧ W.ownsRow g 47 1 v (ptL pre).length (u16v (ptL pre))) ∧ (∃ es c, W.heap[g + 1 + 1]? = some (.map es c) ∧ Hid (MpS es (ptL pre))) ∧ W.heap[g + 1 + 1 + 1]? = some (.cells #[.map (some (g + 1 + 1))] 69 (0, 0)) ∧
  W.heap[g1]? = some (.cells #[.string (cnB ++ host)] 9 (0, 0)) ∧ W.heap[g1 + 1]? = some (.cells #[.bool (thB host pre)] 4 (0, 0))
theorem PQ14.ct {g g1 n : Nat} {host : ByteArray} {pre : List (ByteArray × ByteArray)} {A B : World} (h : PQ14 g g1 host pre A) (k : CTs A B) (kn : ∀ i o, i < n → A.heap[i]? = some o → B.heap[i]? = some o) (hg : g + 1 + 1 < n) : PQ14 g g1 host pre B := by
  obtain ⟨⟨v, h1, h2⟩, ⟨es, c, h3, h4⟩, h5, h6, h7⟩ := h
  exact ⟨⟨v, k.2 _ _ h1 rfl, ownsS_ct h2 k⟩, ⟨es, c, kn _ _ hg h3, h4⟩, k.2 _ _ h5 rfl, k.2 _ _ h6 rfl, k.2 _ _ h7 rfl⟩

set_option maxRecDepth 100000 in
set_option maxHeartbeats 8000000 in
theorem ports14_any (st : ByteArray) (sv sb : Value) (hs : List Hr) (zb : List Int) (h : Int) (w : World) (hT : TabI w) (hM : TabM w) (hH : RdM w.heap.size w sv hs) (hB : Rd w.heap.size w sb zb) (hz : zb.length ≤ 5000) (hh : 0 ≤ h ∧ h ≤ 4294967295) :
    Calls Tryd.prog 14 #[.agg #[.string st, sv, sb], .int .u32 h] w fun e w' => Later w w' ∧ ∃ v, e = .returned v ∧ w'.ownsRow w.heap.size 47 1 v (ptsB (adB h) (strOfNums zb)).length (u16v (ptsB (adB h) (strOfNums zb))) := by
  obtain ⟨sa, scp, rfl, hsc1, hsc2⟩ := hH.slice
  obtain ⟨ba, bcp, rfl, hbc1, hbc2⟩ := hB.slice
  have hcv : ∀ W, Later w W → (convert 22 9 (.slice ba zb.length bcp)).run Tryd.prog W = .ok (.string (strOfNums zb)) W := fun W hW => conv_rd 22 9 5 Tryd.underlying22 Tryd.underlying5 Tryd.underlying9 (hB.below hW)
  have hss : (strOfNums zb).size ≤ 5000 := by rw [strOfNums_size]; exact hz
  have HAD := hide (fun W (l : Later w W) => address_any h hh W (hT.later l))
  have has : (rowB tDot (ad4 h)).size ≤ 100 := by have := adB_size h hh; unfold adB at this; omega
  have HPT : Hid (ptsB (adB h) (strOfNums zb) = if thB (rowB tDot (ad4 h)) (lnsB (strOfNums zb)) = true then ptL (lnsB (strOfNums zb)) else []) := rfl
  generalize ptsB (adB h) (strOfNums zb) = pts at *
  generalize rowB tDot (ad4 h) = host at *
  generalize strOfNums zb = s at *
  have hmm := @run_makeMap Tryd.prog
  have hb0 : Later w ((((w.alloc (.cells #[.string st, .slice sa hs.length scp, .slice ba zb.length bcp] 25)).alloc (.cells #[.slice none 0 0] 43)).alloc (.map #[] 0)).alloc (.cells #[.map (some (w.heap.size + 1 + 1))] 69)) := ((((Below.refl _ _).alloc (Nat.le_refl _) _).alloc (by simp) _).alloc (by simp <;> omega) _).alloc (by simp <;> omega) _
  have C0 : Hid (((((w.alloc (.cells #[.string st, .slice sa hs.length scp, .slice ba zb.length bcp] 25)).alloc (.cells #[.slice none 0 0] 43)).alloc (.map #[] 0)).alloc (.cells #[.map (some (w.heap.size + 1 + 1))] 69)).heap[w.heap.size]? = some (.cells #[.string st, .slice sa hs.length scp, .slice ba zb.length bcp] 25)) := (Below.heap_alloc _ _ _ (by simp <;> omega)).trans ((Below.heap_alloc _ _ _ (by simp <;> omega)).trans ((Below.heap_alloc _ _ _ (by simp)).trans (heap_alloc_new w _)))
  have C1 : Hid (((((w.alloc (.cells #[.string st, .slice sa hs.length scp, .slice ba zb.length bcp] 25)).alloc (.cells #[.slice none 0 0] 43)).alloc (.map #[] 0)).alloc (.cells #[.map (some (w.heap.size + 1 + 1))] 69)).heap[w.heap.size + 1]? = some (.cells #[.slice none 0 0] 43)) := by
    have := heap_alloc_new (w.alloc (.cells #[.string st, .slice sa hs.length scp, .slice ba zb.length bcp] 25)) (.cells #[.slice none 0 0] 43)
    rw [World.size_alloc] at this
    exact (Below.heap_alloc _ _ _ (by simp <;> omega)).trans ((Below.heap_alloc _ _ _ (by simp)).trans this)
  have C2 : Hid (((((w.alloc (.cells #[.string st, .slice sa hs.length scp, .slice ba zb.length bcp] 25)).alloc (.cells #[.slice none 0 0] 43)).alloc (.map #[] 0)).alloc (.cells #[.map (some (w.heap.size + 1 + 1))] 69)).heap[w.heap.size + 1 + 1]? = some (.map #[] 0)) := by
    have := heap_alloc_new ((w.alloc (.cells #[.string st, .slice sa hs.length scp, .slice ba zb.length bcp] 25)).alloc (.cells #[.slice none 0 0] 43)) (.map #[] 0)
    simp only [World.size_alloc] at this
    exact (Below.heap_alloc _ _ _ (by simp)).trans this
  have C3 : Hid (((((w.alloc (.cells #[.string st, .slice sa hs.length scp, .slice ba zb.length bcp] 25)).alloc (.cells #[.slice none 0 0] 43)).alloc (.map #[] 0)).alloc (.cells #[.map (some (w.heap.size + 1 + 1))] 69)).heap[w.heap.size + 1 + 1 + 1]? = some (.cells #[.map (some (w.heap.size + 1 + 1))] 69)) := by
    have := heap_alloc_new (((w.alloc (.cells #[.string st, .slice sa hs.length scp, .slice ba zb.length bcp] 25)).alloc (.cells #[.slice none 0 0] 43)).alloc (.map #[] 0)) (.cells #[.map (some (w.heap.size + 1 + 1))] 69)
    (show _ = _)
    simpa only [World.size_alloc] using this
  refine (callsIn_wide (n := 5)).1 ?_
  refine callsIn_of_wp_marks Tryd.func14 rfl trivial ?_ rfl
  simp only [Tryd.ntmps14, List.size_toArray, List.length_cons, List.length_nil, Nat.reduceAdd, Nat.reduceSub, Array.replicate_succ, Array.replicate_zero, List.push_toArray, List.append_toArray, List.nil_append, List.cons_append]
  gi_upto_region 3 with fail
  generalize ((((w.alloc (.cells #[.string st, .slice sa hs.length scp, .slice ba zb.length bcp] 25)).alloc (.cells #[.slice none 0 0] 43)).alloc (.map #[] 0)).alloc (.cells #[.map (some (w.heap.size + 1 + 1))] 69)) = wa at *
  gi_wp2
  refine ⟨trivial, ?_⟩
  refine (callsIn_wide.2 (HAD.out wa hb0)).mono ?_
  rintro e w1 ⟨rfl, l1⟩
  have lw1 : Later w w1 := Later.trans hb0 l1
  have hsz1 := lw1.size
  have D0 := hide (later_keep l1 C0.out)
  have D1 := hide (later_keep l1 C1.out)
  have D2 := hide (later_keep l1 C2.out)
  have D3 := hide (later_keep l1 C3.out)
  have hgb : w.heap.size + 1 + 1 + 1 < w1.heap.size := (Array.getElem?_eq_some_iff.1 D3.out).1
  clear C0 C1 C2 C3 HAD hmm
  have hb4 : Later w1 (((w1.alloc (.cells #[.string (cnB ++ host)] 9)).alloc (.cells #[.bool false] 4)).alloc (.cells #[.string s] 9)) := (((Below.refl _ _).alloc (Nat.le_refl _) _).alloc (by simp) _).alloc (by simp <;> omega) _
  have E0 : Hid ((((w1.alloc (.cells #[.string (cnB ++ host)] 9)).alloc (.cells #[.bool false] 4)).alloc (.cells #[.string s] 9)).heap[w1.heap.size]? = some (.cells #[.string (cnB ++ host)] 9)) := (Below.heap_alloc _ _ _ (by simp <;> omega)).trans ((Below.heap_alloc _ _ _ (by simp)).trans (heap_alloc_new w1 _))
  have E1 : Hid ((((w1.alloc (.cells #[.string (cnB ++ host)] 9)).alloc (.cells #[.bool false] 4)).alloc (.cells #[.string s] 9)).heap[w1.heap.size + 1]? = some (.cells #[.bool false] 4)) := by
    have := heap_alloc_new (w1.alloc (.cells #[.string (cnB ++ host)] 9)) (.cells #[.bool false] 4)
    rw [World.size_alloc] at this
    exact (Below.heap_alloc _ _ _ (by simp)).trans this
  have E2 : Hid ((((w1.alloc (.cells #[.string (cnB ++ host)] 9)).alloc (.cells #[.bool false] 4)).alloc (.cells #[.string s] 9)).heap[w1.heap.size + 1 + 1]? = some (.cells #[.string s] 9)) := by
    have := heap_alloc_new ((w1.alloc (.cells #[.string (cnB ++ host)] 9)).alloc (.cells #[.bool false] 4)) (.cells #[.string s] 9)
    (show _ = _)
    simpa only [World.size_alloc] using this
  have HS4 : Hid ((((w1.alloc (.cells #[.string (cnB ++ host)] 9)).alloc (.cells #[.bool false] 4)).alloc (.cells #[.string s] 9)).heap.size = w1.heap.size + 1 + 1 + 1) := by (show _ = _); simp
  have hb3 : Later w1 ((w1.alloc (.cells #[.string (cnB ++ host)] 9)).alloc (.cells #[.bool false] 4)) := ((Below.refl _ _).alloc (Nat.le_refl _) _).alloc (by simp) _
  have hcv0 := hcv ((w1.alloc (.cells #[.string (cnB ++ host)] 9)).alloc (.cells #[.bool false] 4)) (Later.trans lw1 hb3)
  have kd := block_cell (later_keep hb3 D0.out)
  clear hcv
  have hcn9 : ByteArray.size ⟨#[99, 61, 73, 78, 32, 73, 80, 52, 32]⟩ = 9 := rfl
  have hcnE : Hid (cnB ++ host = ⟨#[99, 61, 73, 78, 32, 73, 80, 52, 32]⟩ ++ host) := rfl
  gi_upto_region 4 with fail
  rw [← hcnE.out]
  gi_wp2_with (refine ⟨trivial, ?_⟩; gi_at_call 28; refine (lines_in _ _ _).mono ?_; rintro e w' ⟨rfl, rfl⟩)
  clear hcv0 kd hb3
  generalize (((w1.alloc (.cells #[.string (cnB ++ host)] 9)).alloc (.cells #[.bool false] 4)).alloc (.cells #[.string s] 9)) = w4 at *
  have hs4 : w4.heap.size = w1.heap.size + 1 + 1 + 1 := HS4.out
  refine wpIn_rangeX (w := w4) rfl (by omega) (gf := 46) (lb := #[.pointer (some ⟨w1.heap.size + 1 + 1, 0, none⟩)]) rfl trivial (enters_of Tryd.func46 (by kernel_rfl) rfl)
    (lines_gen 4 (by omega) (w1.heap.size + 1 + 1) s w w4 hM (by omega) (Later.trans lw1 hb4) (by omega) (block_cell E2.out 0))
    (fun h k => h.trans k) (fun W l o o' hl ho hc hw => belowK_b (w := w4) (by omega) W l o o' hl ho hc hw) (fun hA hL => hL.mono (by omega)) (fun _ _ _ _ h _ => h) (fun _ _ _ _ _ _ _ _ _ h => h) (fun _ => rfl)
    (fun pre W => PQ14 w.heap.size w1.heap.size host pre W ∧ Below w.heap.size w W) (fun pre W => False)
    (OwnFrom.and (fun s A B row hs hg hr => hs.ct (n := w4.heap.size) (CTs.row hg (fun r e => (hr r e).2)) (fun i o hi ho => (hg.block i (Array.getElem?_eq_some_iff.1 ho).1 (fun e => by have := (hr i e.symm).1; omega)).trans ho) (by omega)) (ownFrom_below (Nat.le_refl _) (by omega)))
    (fun s A B h l => ⟨h.1.ct (n := w4.heap.size) (CTs.of l) (fun i o hi ho => later_keep l ho) (by omega), h.2.trans (l.mono h.2.size)⟩)
    (fun s A B row hs hg hr => hs)
    ⟨⟨⟨.slice none 0 0, later_keep hb4 D1.out, rfl, .inl ⟨rfl, rfl⟩⟩, ⟨_, _, later_keep hb4 D2.out, MpS.nil⟩, later_keep hb4 D3.out, E0.out, E1.out⟩, Later.trans lw1 hb4⟩
    (fun x a' W => a' = { tmps := #[.agg #[.string st, .slice sa hs.length scp, .slice ba zb.length bcp], .int .u32 h, .pointer (some ⟨w.heap.size, 0, none⟩), undef, .slice none 0 0, .pointer (some ⟨w.heap.size + 1, 0, none⟩), .pointer (some ⟨w.heap.size + 1 + 1 + 1, 0, none⟩), .pointer (some ⟨w1.heap.size, 0, none⟩), .pointer (some ⟨w1.heap.size + 1, 0, none⟩), .string x.1, undef, undef, undef, undef, .map (some (w.heap.size + 1 + 1)), .int .u32 h, .string host, .string (cnB ++ host), .pointer (some ⟨w.heap.size, 2, none⟩), .slice ba zb.length bcp, .string s, .func (.func 46) #[] #[.pointer (some ⟨w1.heap.size + 1 + 1, 0, none⟩)], .string x.1, .string x.2, undef, undef, undef, undef, undef, undef, undef, undef, undef, undef, undef, undef, undef, undef, undef, undef, undef, undef, undef, undef, undef, undef, undef, undef, undef, undef, undef, undef, undef, undef, undef, undef, undef, undef], defers := [] })
    (fun x a' W l o o' hl ho hc h => h) ?assign ?body ?done ?stop
  case assign =>
    rintro l pre x W K hsz _ hX hK
    dsimp only [encL]
    gi_wp2
    exact hK _ _ (Below.refl _ _) rfl
  case body =>
    rintro l pre x a' W ⟨⟨⟨v, hv1, hv2⟩, ⟨es, c, hmp, HMS⟩, hmv, hw0, hth⟩, hbW⟩ hX rfl
    have hxm : x ∈ lnsB s := by
      obtain ⟨rest, e⟩ := hX
      rw [← e]
      exact List.mem_append_right _ (List.mem_cons_self ..)
    have hx1 := (lnsF_mem _ s x hxm).1
    have hpl : pre.length ≤ 5000 := by
      obtain ⟨rest, e⟩ := hX
      have h1 := congrArg List.length e
      have h2 := lnsF_len s.size s
      unfold lnsB at h1
      simp at h1
      omega
    have hacc := ptL_len pre.length pre rfl
    have hPS : Hid (ptL (pre ++ [x]) = ptS (ptL pre) x) := ptL_snoc pre x
    have hTS : Hid (thB host (pre ++ [x]) = (thB host pre || eqS x.1 (cnB ++ host))) := thB_snoc host pre x
    have HPN : Hid (mdO x.1 = none → ptL (pre ++ [x]) = ptL pre) := fun h => by rw [hPS.out]; unfold ptS; rw [h]
    have HPY : Hid (∀ a p b, mdO x.1 = some (a, p, b) → p ∈ ptL pre → ptL (pre ++ [x]) = ptL pre) := fun a p b h hp => by rw [hPS.out]; unfold ptS; rw [h]; simp [hp]
    have HPX : Hid (∀ a p b, mdO x.1 = some (a, p, b) → p ∉ ptL pre → ptL (pre ++ [x]) = ptL pre ++ [p]) := fun a p b h hp => by rw [hPS.out]; unfold ptS; rw [h]; simp [hp]
    have HMD := hide (fun W (h : TabM W) => ((callsIn_wide (n := 2)).2 (mediumOf_any x.1 W h (by omega))).inRound l)
    clear hPS hxm hX
    generalize ptL pre = acc at *
    generalize thB host pre = b0 at *
    generalize mdO x.1 = mo at *
    have hq := str_beq x.1 (cnB ++ host)
    generalize eqS x.1 (cnB ++ host) = q at *
    obtain ⟨va, vc, rfl⟩ := owns_form hv2
    have hbsz := hbW.size
    have k8 := block_cell hth
    have f8 := block_frozen hth
    have k7 := block_cell hw0
    cases b0 with
    | true =>
      have HTH : Hid (thB host (pre ++ [x]) = true) := by (show _ = _); rw [hTS.out]; rfl
      clear hTS hq
      have T1 := hide (heap_set1 hth 0 (.bool true))
      have hk1 : Hid (∀ i o, W.heap[i]? = some o → i ≠ w1.heap.size + 1 → (W.setCell ⟨w1.heap.size + 1, 0, none⟩ (.bool true)).heap[i]? = some o) := fun i o h hne => hsetS_ne h hne
      have HO1 := hide (own_set hv2 hth (by decide) 0 (.bool true))
      have B1 : Hid (Below w.heap.size W (W.setCell ⟨w1.heap.size + 1, 0, none⟩ (.bool true))) := (Below.refl _ _).setCell (p := ⟨w1.heap.size + 1, 0, none⟩) (by (show w.heap.size ≤ w1.heap.size + 1); omega) _
      gi_upto_region 7 with fail
      clear k8 k7 f8
      generalize W.setCell ⟨w1.heap.size + 1, 0, none⟩ (.bool true) = W1 at *
      have hsW1 : w.heap.size ≤ W1.heap.size := Nat.le_trans hbsz B1.out.size
      have F1 := hide (hk1.out _ _ hv1 (by omega))
      have F2 := hide (hk1.out _ _ hmp (by omega))
      have F3 := hide (hk1.out _ _ hmv (by omega))
      have F0 := hide (hk1.out _ _ hw0 (by omega))
      clear hv2
      gi_wp2
      refine ⟨trivial, ?_⟩
      refine (HMD.out W1 (hM.later (hbW.trans B1.out))).mono ?_
      rintro e W2 ⟨rfl, l2⟩
      have hsW2 : w.heap.size ≤ W2.heap.size := Nat.le_trans hsW1 l2.size
      cases mo with
      | none =>
        have HP9 := hide (HPN.out rfl)
        have la := later_allocR W2 (.cells #[.string ⟨#[]⟩, .int .u16 0, .string ⟨#[]⟩] 75)
        have LL := l2.trans la
        simp only [mdV]
        gi_wp2
        have hB9 := B1.out.trans (LL.mono hsW1)
        have hPQ : PQ14 w.heap.size w1.heap.size host (pre ++ [x]) (W2.alloc (.cells #[.string ⟨#[]⟩, .int .u16 0, .string ⟨#[]⟩] 75)) := by
          refine ⟨⟨_, later_keep LL F1.out, ?_⟩, ⟨_, _, later_keep LL F2.out, ?_⟩, later_keep LL F3.out, later_keep LL F0.out, ?_⟩
          · rw [HP9.out]; exact ownsS_ct HO1.out (CTs.of LL)
          · rw [HP9.out]; exact HMS
          · rw [HTH.out]; exact later_keep LL T1.out
        have hKF : KeepsFrom w4.heap.size W (W2.alloc (.cells #[.string ⟨#[]⟩, .int .u16 0, .string ⟨#[]⟩] 75)) := ⟨hB9.size, fun i o hi ho hc => later_keep LL (hk1.out i o ho (by omega))⟩
        have hbV9 := hbW.trans hB9
        generalize W2.alloc (.cells #[.string ⟨#[]⟩, .int .u16 0, .string ⟨#[]⟩] 75) = V9 at *
        exact ⟨by first | exact hKF | (rw [← hs4]; exact hKF), hB9, hPQ, hbV9⟩
      | some m =>
        obtain ⟨ma, p, mb⟩ := m
        have la := later_allocR W2 (.cells #[.string ma, .int .u16 p, .string mb] 75)
        have CM := hide (heap_alloc_new W2 (.cells #[.string ma, .int .u16 p, .string mb] 75))
        have LL := l2.trans la
        simp only [mdV]
        gi_upto_region 9 with fail
        change Code.wpIn _ _ _ _ _ _ (W2.alloc (.cells #[.string ma, .int .u16 p, .string mb] 75))
        generalize W2.alloc (.cells #[.string ma, .int .u16 p, .string mb] 75) = W3 at *
        generalize W2.heap.size = gx at *
        have hlk := run_findS (later_keep LL F2.out) HMS.out p
        have km := block_cell CM.out
        have kv := block_cell (later_keep LL F3.out)
        have lb := later_allocR W3 (.cells #[] 78)
        have L4 := LL.trans lb
        by_cases hp : p ∈ acc
        · have HP9 := hide (HPY.out ma p mb rfl hp)
          rw [decide_eq_true hp] at hlk
          gi_wp2
          clear hlk km kv
          have hB9 := B1.out.trans (L4.mono hsW1)
          have hPQ : PQ14 w.heap.size w1.heap.size host (pre ++ [x]) (W3.alloc (.cells #[] 78)) := by
            refine ⟨⟨_, later_keep L4 F1.out, ?_⟩, ⟨_, _, later_keep L4 F2.out, ?_⟩, later_keep L4 F3.out, later_keep L4 F0.out, ?_⟩
            · rw [HP9.out]; exact ownsS_ct HO1.out (CTs.of L4)
            · rw [HP9.out]; exact HMS
            · rw [HTH.out]; exact later_keep L4 T1.out
          have hKF : KeepsFrom w4.heap.size W (W3.alloc (.cells #[] 78)) := ⟨hB9.size, fun i o hi ho hc => later_keep L4 (hk1.out i o ho (by omega))⟩
          have hbV9 := hbW.trans hB9
          generalize W3.alloc (.cells #[] 78) = V9 at *
          exact ⟨by first | exact hKF | (rw [← hs4]; exact hKF), hB9, hPQ, hbV9⟩
        · have HP9 := hide (HPX.out ma p mb rfl hp)
          rw [decide_eq_false hp] at hlk
          gi_upto_region 11 with fail
          clear hlk km kv
          change Code.wpIn _ _ _ _ _ _ (W3.alloc (.cells #[] 78))
          have CM4 := hide (later_keep lb CM.out)
          generalize W3.alloc (.cells #[] 78) = W4 at *
          obtain ⟨W5, hup, hm5, hb5⟩ := run_insS (later_keep L4 F2.out) HMS.out p hp
          have HMS5 := hide (HMS.out.push p c)
          have HM5 := hide hm5
          clear hm5
          have km := block_cell CM4.out
          have kv := block_cell (later_keep L4 F3.out)
          have hkm : ∀ i o, W4.heap[i]? = some o → i ≠ w.heap.size + 1 + 1 → W5.heap[i]? = some o := fun i o h hne => (hb5.block i (Array.getElem?_eq_some_iff.1 h).1 hne).trans h
          have hm4 : W4.heap[w.heap.size + 1 + 1]? = some (.map es c) := later_keep L4 F2.out
          have N1 := hide (hkm _ _ (later_keep L4 F1.out) (by omega))
          have N3 := hide (hkm _ _ (later_keep L4 F3.out) (by omega))
          have N0 := hide (hkm _ _ (later_keep L4 F0.out) (by omega))
          have NT := hide (hkm _ _ (later_keep L4 T1.out) (by omega))
          have NM := hide (hkm _ _ CM4.out (fun e => by subst e; rw [hm4] at CM4; cases CM4.out))
          have NO : Hid (W5.ownsRow w.heap.size 47 1 (.slice va acc.length vc) acc.length (u16v acc)) := own_butT (ownsS_ct HO1.out (CTs.of L4)) hb5 (fun i cur f h e => by subst e; rw [hm4] at h; cases h)
          have B5 : Hid (Below w.heap.size W W5) := (B1.out.trans (L4.mono hsW1)).trans (hb5.below (Nat.le_trans hsW1 L4.size) (fun k hk e => by omega))
          have hk5 : Hid (∀ i o, W.heap[i]? = some o → i ≠ w1.heap.size + 1 → i ≠ w.heap.size + 1 + 1 → W5.heap[i]? = some o) := fun i o h h1 h2 => hkm i o (later_keep L4 (hk1.out i o h h1)) h2
          clear hkm hm4
          gi_upto_region 12 with fail
          clear hup km kv
          have kp := block_cell N1.out
          have km := block_cell NM.out
          have lc := later_allocR W5 (.cells #[.int .u16 p] 47)
          have HNB := heap_alloc_new W5 (.cells #[.int .u16 p] 47)
          obtain ⟨i0, hi0, hz0, hz1', hz2⟩ := info_partsS info_u16S
          have HRA := hide (ownsS_ct NO.out (CTs.of lc))
          have HNW : Hid (∀ j u, [Value.int .u16 p][j]? = some u → (W5.alloc (.cells #[.int .u16 p] 47)).cell? ((⟨W5.heap.size, 0, none⟩ : Addr).add j) = some u) := fun j u hj => by
            rw [show (⟨W5.heap.size, 0, none⟩ : Addr).add j = ⟨W5.heap.size, j, none⟩ from by unfold Addr.add; split <;> simp_all, block_cell HNB j]
            simpa using hj
          have hsWA : w.heap.size ≤ (W5.alloc (.cells #[.int .u16 p] 47)).heap.size := Nat.le_trans (Nat.le_trans hbsz B5.out.size) lc.size
          have R1 := hide (later_keep lc N1.out)
          have R2 := hide (later_keep lc HM5.out)
          have R3 := hide (later_keep lc N3.out)
          have R0 := hide (later_keep lc N0.out)
          have RT := hide (later_keep lc NT.out)
          have BA := hide (B5.out.trans (lc.mono (Nat.le_trans hbsz B5.out.size)))
          have hkA : Hid (∀ i o, W.heap[i]? = some o → i ≠ w1.heap.size + 1 → i ≠ w.heap.size + 1 + 1 → (W5.alloc (.cells #[.int .u16 p] 47)).heap[i]? = some o) := fun i o h h1 h2 => later_keep lc (hk5.out i o h h1 h2)
          clear HNB lc
          gi_wp2_with (gi_at_builtin; refine wpListIn_append_own _ rfl (.tmp 50) (.tmp 53) 43 rfl w.heap.size 47 i0 (.int .u16 0) 1 2 Tryd.underlying43 hi0 hz0 hz1' hz2 rfl (by decide) _ acc.length (u16v acc) rfl HRA.out ⟨W5.heap.size, 0, none⟩ 1 1 [.int .u16 p] rfl rfl HNW.out (by intro u hu; simp at hu; subst hu; rfl) (by simp only [maxLen]; omega) (by omega) hsWA ?_; intro v2 V2 hrow2 hg2 hnn; obtain ⟨a2, cp2, rfl⟩ := owns_form hrow2; have hob2 := keep_row HRA.out hg2 R1.out (.inl fun cur f e => by cases e); have Kv2 := block_cell hob2; have Fv2 := block_frozen hob2; have HGG := hide hg2; have HRR := hide hrow2; clear hg2 hrow2 hnn)
          clear Kv2 Fv2 kp km
          have hE1 := heap_set1 hob2 0 (.slice a2 (acc.length + 1) cp2)
          have hkV : ∀ i o, (W5.alloc (.cells #[.int .u16 p] 47)).heap[i]? = some o → ((∀ cur f, o ≠ .cells cur 47 f) ∨ i < w.heap.size) → i ≠ w.heap.size + 1 → (V2.setCell ⟨w.heap.size + 1, 0, none⟩ (.slice a2 (acc.length + 1) cp2)).heap[i]? = some o := fun i o h hh hne => hsetS_ne (keep_row HRA.out HGG.out h hh) hne
          have G2 := hkV _ _ R2.out (.inl fun cur f e => by cases e) (by omega)
          have G3 := hkV _ _ R3.out (.inl fun cur f e => by cases e) (by omega)
          have G0 := hkV _ _ R0.out (.inl fun cur f e => by cases e) (by omega)
          have GT := hkV _ _ RT.out (.inl fun cur f e => by cases e) (by omega)
          have hE2 : (V2.setCell ⟨w.heap.size + 1, 0, none⟩ (.slice a2 (acc.length + 1) cp2)).ownsRow w.heap.size 47 1 (.slice a2 (acc.length + 1) cp2) (acc ++ [p]).length (u16v (acc ++ [p])) := by
            have : u16v (acc ++ [p]) = u16v acc ++ [.int .u16 p] := by unfold u16v; simp
            rw [List.length_append, this]
            exact own_set HRR.out hob2 (by decide) 0 _
          have hBV : Below w.heap.size (W5.alloc (.cells #[.int .u16 p] 47)) (V2.setCell ⟨w.heap.size + 1, 0, none⟩ (.slice a2 (acc.length + 1) cp2)) := ⟨HGG.out.os, HGG.out.tape, HGG.out.output, by have := HGG.out.size; simp at this ⊢; omega, fun i hi => by
            cases hh : (W5.alloc (.cells #[.int .u16 p] 47)).heap[i]? with
            | none => have := Array.getElem?_eq_none_iff.1 hh; omega
            | some o => exact hkV i o hh (.inr hi) (by omega)⟩
          have hBW : Below w.heap.size W (V2.setCell ⟨w.heap.size + 1, 0, none⟩ (.slice a2 (acc.length + 1) cp2)) := BA.out.trans hBV
          have hKF : KeepsFrom w4.heap.size W (V2.setCell ⟨w.heap.size + 1, 0, none⟩ (.slice a2 (acc.length + 1) cp2)) := ⟨hBW.size, fun i o hi ho hc => hkV i o (hkA.out i o ho (by omega) (by omega)) (.inl fun cur f e => by subst e; cases hc) (by omega)⟩
          have hPQ : PQ14 w.heap.size w1.heap.size host (pre ++ [x]) (V2.setCell ⟨w.heap.size + 1, 0, none⟩ (.slice a2 (acc.length + 1) cp2)) := by
            refine ⟨⟨_, hE1, ?_⟩, ⟨_, _, G2, ?_⟩, G3, G0, ?_⟩
            · rw [HP9.out]; exact hE2
            · rw [HP9.out]; exact HMS5
            · rw [HTH.out]; exact GT
          have hbV9 := hbW.trans hBW
          generalize V2.setCell ⟨w.heap.size + 1, 0, none⟩ (.slice a2 (acc.length + 1) cp2) = V9 at *
          exact ⟨by first | exact hKF | (rw [← hs4]; exact hKF), hBW, hPQ, hbV9⟩
    | false =>
      have HTH : Hid (thB host (pre ++ [x]) = q) := by (show _ = _); rw [hTS.out]; rfl
      clear hTS
      have T1 := hide (heap_set1 hth 0 (.bool q))
      have hk1 : Hid (∀ i o, W.heap[i]? = some o → i ≠ w1.heap.size + 1 → (W.setCell ⟨w1.heap.size + 1, 0, none⟩ (.bool q)).heap[i]? = some o) := fun i o h hne => hsetS_ne h hne
      have HO1 := hide (own_set hv2 hth (by decide) 0 (.bool q))
      have B1 : Hid (Below w.heap.size W (W.setCell ⟨w1.heap.size + 1, 0, none⟩ (.bool q))) := (Below.refl _ _).setCell (p := ⟨w1.heap.size + 1, 0, none⟩) (by (show w.heap.size ≤ w1.heap.size + 1); omega) _
      gi_upto_region 7 with fail
      clear k8 k7 f8
      generalize W.setCell ⟨w1.heap.size + 1, 0, none⟩ (.bool q) = W1 at *
      have hsW1 : w.heap.size ≤ W1.heap.size := Nat.le_trans hbsz B1.out.size
      have F1 := hide (hk1.out _ _ hv1 (by omega))
      have F2 := hide (hk1.out _ _ hmp (by omega))
      have F3 := hide (hk1.out _ _ hmv (by omega))
      have F0 := hide (hk1.out _ _ hw0 (by omega))
      clear hv2
      gi_wp2
      refine ⟨trivial, ?_⟩
      refine (HMD.out W1 (hM.later (hbW.trans B1.out))).mono ?_
      rintro e W2 ⟨rfl, l2⟩
      have hsW2 : w.heap.size ≤ W2.heap.size := Nat.le_trans hsW1 l2.size
      cases mo with
      | none =>
        have HP9 := hide (HPN.out rfl)
        have la := later_allocR W2 (.cells #[.string ⟨#[]⟩, .int .u16 0, .string ⟨#[]⟩] 75)
        have LL := l2.trans la
        simp only [mdV]
        gi_wp2
        have hB9 := B1.out.trans (LL.mono hsW1)
        have hPQ : PQ14 w.heap.size w1.heap.size host (pre ++ [x]) (W2.alloc (.cells #[.string ⟨#[]⟩, .int .u16 0, .string ⟨#[]⟩] 75)) := by
          refine ⟨⟨_, later_keep LL F1.out, ?_⟩, ⟨_, _, later_keep LL F2.out, ?_⟩, later_keep LL F3.out, later_keep LL F0.out, ?_⟩
          · rw [HP9.out]; exact ownsS_ct HO1.out (CTs.of LL)
          · rw [HP9.out]; exact HMS
          · rw [HTH.out]; exact later_keep LL T1.out
        have hKF : KeepsFrom w4.heap.size W (W2.alloc (.cells #[.string ⟨#[]⟩, .int .u16 0, .string ⟨#[]⟩] 75)) := ⟨hB9.size, fun i o hi ho hc => later_keep LL (hk1.out i o ho (by omega))⟩
        have hbV9 := hbW.trans hB9
        generalize W2.alloc (.cells #[.string ⟨#[]⟩, .int .u16 0, .string ⟨#[]⟩] 75) = V9 at *
        exact ⟨by first | exact hKF | (rw [← hs4]; exact hKF), hB9, hPQ, hbV9⟩
      | some m =>
        obtain ⟨ma, p, mb⟩ := m
        have la := later_allocR W2 (.cells #[.string ma, .int .u16 p, .string mb] 75)
        have CM := hide (heap_alloc_new W2 (.cells #[.string ma, .int .u16 p, .string mb] 75))
        have LL := l2.trans la
        simp only [mdV]
        gi_upto_region 9 with fail
        change Code.wpIn _ _ _ _ _ _ (W2.alloc (.cells #[.string ma, .int .u16 p, .string mb] 75))
        generalize W2.alloc (.cells #[.string ma, .int .u16 p, .string mb] 75) = W3 at *
        generalize W2.heap.size = gx at *
        have hlk := run_findS (later_keep LL F2.out) HMS.out p
        have km := block_cell CM.out
        have kv := block_cell (later_keep LL F3.out)
        have lb := later_allocR W3 (.cells #[] 78)
        have L4 := LL.trans lb
        by_cases hp : p ∈ acc
        · have HP9 := hide (HPY.out ma p mb rfl hp)
          rw [decide_eq_true hp] at hlk
          gi_wp2
          clear hlk km kv
          have hB9 := B1.out.trans (L4.mono hsW1)
          have hPQ : PQ14 w.heap.size w1.heap.size host (pre ++ [x]) (W3.alloc (.cells #[] 78)) := by
            refine ⟨⟨_, later_keep L4 F1.out, ?_⟩, ⟨_, _, later_keep L4 F2.out, ?_⟩, later_keep L4 F3.out, later_keep L4 F0.out, ?_⟩
            · rw [HP9.out]; exact ownsS_ct HO1.out (CTs.of L4)
            · rw [HP9.out]; exact HMS
            · rw [HTH.out]; exact later_keep L4 T1.out
          have hKF : KeepsFrom w4.heap.size W (W3.alloc (.cells #[] 78)) := ⟨hB9.size, fun i o hi ho hc => later_keep L4 (hk1.out i o ho (by omega))⟩
          have hbV9 := hbW.trans hB9
          generalize W3.alloc (.cells #[] 78) = V9 at *
          exact ⟨by first | exact hKF | (rw [← hs4]; exact hKF), hB9, hPQ, hbV9⟩
        · have HP9 := hide (HPX.out ma p mb rfl hp)
          rw [decide_eq_false hp] at hlk
          gi_upto_region 11 with fail
          clear hlk km kv
          change Code.wpIn _ _ _ _ _ _ (W3.alloc (.cells #[] 78))
          have CM4 := hide (later_keep lb CM.out)
          generalize W3.alloc (.cells #[] 78) = W4 at *
          obtain ⟨W5, hup, hm5, hb5⟩ := run_insS (later_keep L4 F2.out) HMS.out p hp
          have HMS5 := hide (HMS.out.push p c)
          have HM5 := hide hm5
          clear hm5
          have km := block_cell CM4.out
          have kv := block_cell (later_keep L4 F3.out)
          have hkm : ∀ i o, W4.heap[i]? = some o → i ≠ w.heap.size + 1 + 1 → W5.heap[i]? = some o := fun i o h hne => (hb5.block i (Array.getElem?_eq_some_iff.1 h).1 hne).trans h
          have hm4 : W4.heap[w.heap.size + 1 + 1]? = some (.map es c) := later_keep L4 F2.out
          have N1 := hide (hkm _ _ (later_keep L4 F1.out) (by omega))
          have N3 := hide (hkm _ _ (later_keep L4 F3.out) (by omega))
          have N0 := hide (hkm _ _ (later_keep L4 F0.out) (by omega))
          have NT := hide (hkm _ _ (later_keep L4 T1.out) (by omega))
          have NM := hide (hkm _ _ CM4.out (fun e => by subst e; rw [hm4] at CM4; cases CM4.out))
          have NO : Hid (W5.ownsRow w.heap.size 47 1 (.slice va acc.length vc) acc.length (u16v acc)) := own_butT (ownsS_ct HO1.out (CTs.of L4)) hb5 (fun i cur f h e => by subst e; rw [hm4] at h; cases h)
          have B5 : Hid (Below w.heap.size W W5) := (B1.out.trans (L4.mono hsW1)).trans (hb5.below (Nat.le_trans hsW1 L4.size) (fun k hk e => by omega))
          have hk5 : Hid (∀ i o, W.heap[i]? = some o → i ≠ w1.heap.size + 1 → i ≠ w.heap.size + 1 + 1 → W5.heap[i]? = some o) := fun i o h h1 h2 => hkm i o (later_keep L4 (hk1.out i o h h1)) h2
          clear hkm hm4
          gi_upto_region 12 with fail
          clear hup km kv
          have kp := block_cell N1.out
          have km := block_cell NM.out
          have lc := later_allocR W5 (.cells #[.int .u16 p] 47)
          have HNB := heap_alloc_new W5 (.cells #[.int .u16 p] 47)
          obtain ⟨i0, hi0, hz0, hz1', hz2⟩ := info_partsS info_u16S
          have HRA := hide (ownsS_ct NO.out (CTs.of lc))
          have HNW : Hid (∀ j u, [Value.int .u16 p][j]? = some u → (W5.alloc (.cells #[.int .u16 p] 47)).cell? ((⟨W5.heap.size, 0, none⟩ : Addr).add j) = some u) := fun j u hj => by
            rw [show (⟨W5.heap.size, 0, none⟩ : Addr).add j = ⟨W5.heap.size, j, none⟩ from by unfold Addr.add; split <;> simp_all, block_cell HNB j]
            simpa using hj
          have hsWA : w.heap.size ≤ (W5.alloc (.cells #[.int .u16 p] 47)).heap.size := Nat.le_trans (Nat.le_trans hbsz B5.out.size) lc.size
          have R1 := hide (later_keep lc N1.out)
          have R2 := hide (later_keep lc HM5.out)
          have R3 := hide (later_keep lc N3.out)
          have R0 := hide (later_keep lc N0.out)
          have RT := hide (later_keep lc NT.out)
          have BA := hide (B5.out.trans (lc.mono (Nat.le_trans hbsz B5.out.size)))
          have hkA : Hid (∀ i o, W.heap[i]? = some o → i ≠ w1.heap.size + 1 → i ≠ w.heap.size + 1 + 1 → (W5.alloc (.cells #[.int .u16 p] 47)).heap[i]? = some o) := fun i o h h1 h2 => later_keep lc (hk5.out i o h h1 h2)
          clear HNB lc
          gi_wp2_with (gi_at_builtin; refine wpListIn_append_own _ rfl (.tmp 50) (.tmp 53) 43 rfl w.heap.size 47 i0 (.int .u16 0) 1 2 Tryd.underlying43 hi0 hz0 hz1' hz2 rfl (by decide) _ acc.length (u16v acc) rfl HRA.out ⟨W5.heap.size, 0, none⟩ 1 1 [.int .u16 p] rfl rfl HNW.out (by intro u hu; simp at hu; subst hu; rfl) (by simp only [maxLen]; omega) (by omega) hsWA ?_; intro v2 V2 hrow2 hg2 hnn; obtain ⟨a2, cp2, rfl⟩ := owns_form hrow2; have hob2 := keep_row HRA.out hg2 R1.out (.inl fun cur f e => by cases e); have Kv2 := block_cell hob2; have Fv2 := block_frozen hob2; have HGG := hide hg2; have HRR := hide hrow2; clear hg2 hrow2 hnn)
          clear Kv2 Fv2 kp km
          have hE1 := heap_set1 hob2 0 (.slice a2 (acc.length + 1) cp2)
          have hkV : ∀ i o, (W5.alloc (.cells #[.int .u16 p] 47)).heap[i]? = some o → ((∀ cur f, o ≠ .cells cur 47 f) ∨ i < w.heap.size) → i ≠ w.heap.size + 1 → (V2.setCell ⟨w.heap.size + 1, 0, none⟩ (.slice a2 (acc.length + 1) cp2)).heap[i]? = some o := fun i o h hh hne => hsetS_ne (keep_row HRA.out HGG.out h hh) hne
          have G2 := hkV _ _ R2.out (.inl fun cur f e => by cases e) (by omega)
          have G3 := hkV _ _ R3.out (.inl fun cur f e => by cases e) (by omega)
          have G0 := hkV _ _ R0.out (.inl fun cur f e => by cases e) (by omega)
          have GT := hkV _ _ RT.out (.inl fun cur f e => by cases e) (by omega)
          have hE2 : (V2.setCell ⟨w.heap.size + 1, 0, none⟩ (.slice a2 (acc.length + 1) cp2)).ownsRow w.heap.size 47 1 (.slice a2 (acc.length + 1) cp2) (acc ++ [p]).length (u16v (acc ++ [p])) := by
            have : u16v (acc ++ [p]) = u16v acc ++ [.int .u16 p] := by unfold u16v; simp
            rw [List.length_append, this]
            exact own_set HRR.out hob2 (by decide) 0 _
          have hBV : Below w.heap.size (W5.alloc (.cells #[.int .u16 p] 47)) (V2.setCell ⟨w.heap.size + 1, 0, none⟩ (.slice a2 (acc.length + 1) cp2)) := ⟨HGG.out.os, HGG.out.tape, HGG.out.output, by have := HGG.out.size; simp at this ⊢; omega, fun i hi => by
            cases hh : (W5.alloc (.cells #[.int .u16 p] 47)).heap[i]? with
            | none => have := Array.getElem?_eq_none_iff.1 hh; omega
            | some o => exact hkV i o hh (.inr hi) (by omega)⟩
          have hBW : Below w.heap.size W (V2.setCell ⟨w.heap.size + 1, 0, none⟩ (.slice a2 (acc.length + 1) cp2)) := BA.out.trans hBV
          have hKF : KeepsFrom w4.heap.size W (V2.setCell ⟨w.heap.size + 1, 0, none⟩ (.slice a2 (acc.length + 1) cp2)) := ⟨hBW.size, fun i o hi ho hc => hkV i o (hkA.out i o ho (by omega) (by omega)) (.inl fun cur f e => by subst e; cases hc) (by omega)⟩
          have hPQ : PQ14 w.heap.size w1.heap.size host (pre ++ [x]) (V2.setCell ⟨w.heap.size + 1, 0, none⟩ (.slice a2 (acc.length + 1) cp2)) := by
            refine ⟨⟨_, hE1, ?_⟩, ⟨_, _, G2, ?_⟩, G3, G0, ?_⟩
            · rw [HP9.out]; exact hE2
            · rw [HP9.out]; exact HMS5
            · rw [HTH.out]; exact GT
          have hbV9 := hbW.trans hBW
          generalize V2.setCell ⟨w.heap.size + 1, 0, none⟩ (.slice a2 (acc.length + 1) cp2) = V9 at *
          exact ⟨by first | exact hKF | (rw [← hs4]; exact hKF), hBW, hPQ, hbV9⟩
  case done =>
    rintro D xs W hD rfl ⟨⟨⟨v, hv1, hv2⟩, ⟨es, c, hmp, HMS⟩, hmv, hw0, hth⟩, hbW⟩ hK
    obtain ⟨va, vc, rfl⟩ := owns_form hv2
    have k1 := block_cell hv1
    have k8 := block_cell hth
    have hB2 : Later w (W.putObj D (.deferred none)) := hbW.trans (belowK_b (w := w) (Nat.le_refl _) W D _ _ (by omega) hK rfl rfl)
    have HO2 := hide (ownsS_ct hv2 (CTs.put (o' := .deferred none) hK rfl))
    clear hv2
    generalize ptL (lnsB s) = acc at *
    generalize thB host (lnsB s) = b0 at *
    cases b0 with
    | true =>
      gi_wp2
      refine ⟨by simp, .inl ⟨_, _, rfl, run_takeDeferred hK, ?_⟩⟩
      exact ⟨.slice va acc.length vc, by simp [results, Tryd.results14, go_sem], hB2, _, rfl, by rw [HPT.out]; exact HO2.out⟩
    | false =>
      gi_wp2
      refine ⟨by simp, .inl ⟨_, _, rfl, run_takeDeferred hK, ?_⟩⟩
      exact ⟨.slice none 0 0, by simp [results, Tryd.results14, go_sem], hB2, _, rfl, by rw [HPT.out]; exact ⟨rfl, .inl ⟨rfl, rfl⟩⟩⟩
  case stop =>
    rintro D pre W hD _ h
    exact h.elim
end Go.Proofs.YtehdgndbloaljaaDoor

/- The document's number, for the laws of package sip. -/
namespace Go.Proofs.YtehdgndbloaljaaDoor
open Go.RowKit Go.Shelf
set_option maxRecDepth 100000
set_option linter.unusedVariables false
set_option linter.unusedSimpArgs false

def dgE (zs : List Int) : Nat → Nat → Nat
  | 0, p => p
  | k + 1, p => if p < zs.length ∧ dgt (zs[p]?.getD 0) = true then dgE zs k (p + 1) else p
theorem dgE_le (zs : List Int) : ∀ k p, p ≤ zs.length → p ≤ dgE zs k p ∧ dgE zs k p ≤ zs.length
  | 0, p, h => ⟨Nat.le_refl _, h⟩
  | k + 1, p, h => by
    unfold dgE
    split
    · rename_i hq
      have := dgE_le zs k (p + 1) (by omega)
      omega
    · exact ⟨Nat.le_refl _, h⟩
/-- Where the digits end. -/
def dgZ (zs : List Int) (p : Nat) : Nat := dgE zs (zs.length - p) p
theorem dgZ_go {zs : List Int} {p : Nat} (h : p < zs.length) (hd : dgt (zs[p]?.getD 0) = true) : dgZ zs p = dgZ zs (p + 1) := by
  unfold dgZ
  rw [show zs.length - p = (zs.length - (p + 1)) + 1 by omega]
  show (if _ then _ else _) = _
  rw [if_pos ⟨h, hd⟩]
theorem dgZ_stop {zs : List Int} {p : Nat} (h : p < zs.length) (hd : dgt (zs[p]?.getD 0) = false) : dgZ zs p = p := by
  unfold dgZ
  rw [show zs.length - p = (zs.length - (p + 1)) + 1 by omega]
  show (if _ then _ else _) = _
  rw [if_neg (by rw [hd]; simp)]
theorem dgZ_end {zs : List Int} {p : Nat} (h : p = zs.length) : dgZ zs p = p := by
  unfold dgZ
  rw [h, Nat.sub_self]
  rfl
theorem dgZ_le {zs : List Int} {p : Nat} (h : p ≤ zs.length) : p ≤ dgZ zs p ∧ dgZ zs p ≤ zs.length := dgE_le zs _ p h
def dgS (zs : List Int) (p : Nat) : ByteArray := strOfNums ((zs.drop p).take (dgZ zs p - p))


/-- How the document goes through digits: where it stops, and what they say. -/
def nuE (zs : List Int) (most : Int) : Nat → Nat → Int → Nat × Int
  | 0, i, n => (i, n)
  | k + 1, i, n => if i < zs.length ∧ dgt (zs[i]?.getD 0) = true ∧ n ≤ most then nuE zs most k (i + 1) (n * 10 + (zs[i]?.getD 0 - 48)) else (i, n)
def nmZ (zs : List Int) (most : Int) (i : Nat) (n : Int) : Nat × Int := nuE zs most (zs.length - i) i n
theorem nmZ_go {zs : List Int} {most : Int} {i : Nat} {n : Int} (h : i < zs.length ∧ dgt (zs[i]?.getD 0) = true ∧ n ≤ most) : nmZ zs most i n = nmZ zs most (i + 1) (n * 10 + (zs[i]?.getD 0 - 48)) := by
  unfold nmZ
  rw [show zs.length - i = (zs.length - (i + 1)) + 1 by omega]
  show (if _ then _ else _) = _
  rw [if_pos h]
theorem nmZ_stop {zs : List Int} {most : Int} {i : Nat} {n : Int} (h : ¬ (i < zs.length ∧ dgt (zs[i]?.getD 0) = true ∧ n ≤ most)) : nmZ zs most i n = (i, n) := by
  unfold nmZ
  cases zs.length - i with
  | zero => rfl
  | succ k => show (if _ then _ else _) = _; rw [if_neg h]
/-- The document's number: none, where there is none. -/
def numD (zs : List Int) (p : Nat) (most : Int) : Option (Int × Nat) := if (nmZ zs most p 0).1 = p ∨ most < (nmZ zs most p 0).2 ∨ (zs[p]?.getD 0 = 48 ∧ p + 1 < (nmZ zs most p 0).1) ∨ ((nmZ zs most p 0).1 < zs.length ∧ dgt (zs[(nmZ zs most p 0).1]?.getD 0) = true) then none else some ((nmZ zs most p 0).2, (nmZ zs most p 0).1)


theorem dgE_in (zs : List Int) : ∀ k p j, p ≤ j → j < dgE zs k p → dgt (zs[j]?.getD 0) = true
  | 0, p, j, h1, h2 => by have : dgE zs 0 p = p := rfl; omega
  | k + 1, p, j, h1, h2 => by
    unfold dgE at h2
    split at h2
    · rename_i hq
      by_cases hj : j = p
      · subst hj; exact hq.2
      · exact dgE_in zs k (p + 1) j (by omega) h2
    · omega
theorem dgE_out (zs : List Int) : ∀ k p, zs.length - p ≤ k → dgE zs k p < zs.length → dgt (zs[dgE zs k p]?.getD 0) = false
  | 0, p, h1, h2 => by have : dgE zs 0 p = p := rfl; omega
  | k + 1, p, h1, h2 => by
    unfold dgE at h2 ⊢
    split at h2
    · rename_i hq
      rw [if_pos hq]
      exact dgE_out zs k (p + 1) (by omega) h2
    · rename_i hq
      rw [if_neg hq]
      cases hd : dgt (zs[p]?.getD 0) with
      | false => rfl
      | true => exact absurd ⟨h2, hd⟩ hq
theorem dgZ_in {zs : List Int} {p j : Nat} (h1 : p ≤ j) (h2 : j < dgZ zs p) : dgt (zs[j]?.getD 0) = true := dgE_in zs _ p j h1 h2
theorem dgZ_out {zs : List Int} {p : Nat} (h : dgZ zs p < zs.length) : dgt (zs[dgZ zs p]?.getD 0) = false := dgE_out zs _ p (Nat.le_refl _) h
theorem nuE_ge (zs : List Int) (most : Int) : ∀ k i n, i ≤ (nuE zs most k i n).1
  | 0, i, n => Nat.le_refl _
  | k + 1, i, n => by
    unfold nuE
    split
    · have := nuE_ge zs most k (i + 1) (n * 10 + (zs[i]?.getD 0 - 48)); omega
    · exact Nat.le_refl _
theorem dgS_size {zs : List Int} {p : Nat} (h : p ≤ zs.length) : (dgS zs p).size = dgZ zs p - p := by
  unfold dgS
  rw [strOfNums_size]
  have := dgZ_le h
  simp
  omega
theorem dgS_at {zs : List Int} {p j : Nat} (hz : Mt.By zs) (h : p ≤ zs.length) (hj : j < dgZ zs p - p) : bAt (dgS zs p) j = zs[p + j]?.getD 0 := by
  unfold dgS
  have := dgZ_le h
  rw [strOf_at _ (fun z hzz => hz z (List.mem_of_mem_drop (List.mem_of_mem_take hzz))) j (by simp; omega), List.getElem?_take, if_pos hj, List.getElem?_drop]
/-- Behind a first digit that is no nought. -/
theorem num_same {zs : List Int} {p : Nat} {most : Int} (hz : Mt.By zs) (hp : p ≤ zs.length) (hm : 0 ≤ most) (h0 : zs[p]?.getD 0 ≠ 48) : ∀ k pos n, pos + k = dgZ zs p - p → 0 ≤ n → n ≤ most → (0 < pos → 0 < n) → (pos = 0 → n = 0) →
    (numP (dgS zs p) most k pos n = none ∧ most < (nmZ zs most (p + pos) n).2) ∨ ∃ v, numP (dgS zs p) most k pos n = some v ∧ nmZ zs most (p + pos) n = (dgZ zs p, v) ∧ v ≤ most
  | 0, pos, n, h1, h2, h3, h4, h5 => by
    have hle := dgZ_le hp
    refine .inr ⟨n, rfl, ?_, h3⟩
    have e : p + pos = dgZ zs p := by omega
    rw [e]
    refine nmZ_stop (fun hq => ?_)
    have := dgZ_out hq.1
    rw [this] at hq
    cases hq.2.1
  | k + 1, pos, n, h1, h2, h3, h4, h5 => by
    have hle := dgZ_le hp
    have hd := dgZ_in (zs := zs) (p := p) (j := p + pos) (by omega) (by omega)
    have hb := dgS_at hz hp (j := pos) (by omega)
    have hr := dgt_rng hd
    have hgo := nmZ_go (zs := zs) (most := most) (i := p + pos) (n := n) ⟨by omega, hd, h3⟩
    rw [hgo]
    unfold numP
    rw [hb, hd, if_neg (by simp), if_neg (fun hq => by have := h4 hq.1; omega)]
    by_cases hbig : most < n * 10 + (zs[p + pos]?.getD 0 - 48)
    · rw [if_pos hbig]
      refine .inl ⟨rfl, ?_⟩
      rw [nmZ_stop (fun hq => by have := hq.2.2; omega)]
      exact hbig
    · rw [if_neg hbig]
      refine num_same hz hp hm h0 k (pos + 1) _ (by omega) (by omega) (by omega) (fun _ => ?_) (by omega)
      by_cases hpz : pos = 0
      · subst hpz
        have := h5 rfl
        simp only [Nat.add_zero] at hr ⊢
        omega
      · have := h4 (by omega); omega
theorem numD_is {zs : List Int} {p : Nat} {most : Int} (hz : Mt.By zs) (hp : p ≤ zs.length) (hm : 0 ≤ most) : numD zs p most = (numV (dgS zs p) most).map fun n => (n, dgZ zs p) := by
  have hle := dgZ_le hp
  have hs := dgS_size hp
  by_cases hm0 : dgZ zs p = p
  · have e1 : nmZ zs most p 0 = (p, 0) := by
      refine nmZ_stop (fun hq => ?_)
      have := dgZ_out (zs := zs) (p := p) (by omega)
      rw [hm0] at this
      rw [this] at hq
      cases hq.2.1
    unfold numD numV
    rw [e1, if_pos (.inl rfl), if_pos (by omega)]
    rfl
  · have hV : numV (dgS zs p) most = numP (dgS zs p) most (dgZ zs p - p) 0 0 := by unfold numV; rw [if_neg (by omega), hs]
    rw [hV]
    by_cases h48 : zs[p]?.getD 0 = 48
    · have hd := dgZ_in (zs := zs) (p := p) (j := p) (Nat.le_refl _) (by omega)
      have e1 := nmZ_go (zs := zs) (most := most) (i := p) (n := 0) ⟨by omega, hd, hm⟩
      have hb := dgS_at hz hp (j := 0) (by omega)
      simp only [Nat.add_zero] at hb
      rw [h48] at e1
      have e0 : (0 : Int) * 10 + (48 - 48) = 0 := by omega
      rw [e0] at e1
      by_cases hone : dgZ zs p = p + 1
      · have e2 : nmZ zs most (p + 1) 0 = (p + 1, 0) := by
          refine nmZ_stop (fun hq => ?_)
          have := dgZ_out (zs := zs) (p := p) (by omega)
          rw [hone] at this
          rw [this] at hq
          cases hq.2.1
        have hn : ¬ ((p + 1 = p) ∨ most < 0 ∨ (zs[p]?.getD 0 = 48 ∧ p + 1 < p + 1) ∨ (p + 1 < zs.length ∧ dgt (zs[p + 1]?.getD 0) = true)) := by
          intro hq
          rcases hq with hq | hq | hq | hq
          · omega
          · omega
          · omega
          · have := dgZ_out (zs := zs) (p := p) (by omega)
            rw [hone, hq.2] at this
            cases this
        unfold numD
        rw [e1, e2, if_neg hn, hone, show p + 1 - p = 1 by omega]
        unfold numP
        rw [hb, h48, if_neg (by decide), if_neg (by omega), if_neg (by omega)]
        rfl
      · have e2 := nuE_ge zs most (zs.length - (p + 2)) (p + 2) (0 * 10 + (zs[p + 1]?.getD 0 - 48))
        have hd1 := dgZ_in (zs := zs) (p := p) (j := p + 1) (by omega) (by omega)
        have e3 := nmZ_go (zs := zs) (most := most) (i := p + 1) (n := 0) ⟨by omega, hd1, hm⟩
        have e4 : p + 2 ≤ (nmZ zs most p 0).1 := by rw [e1, e3]; exact e2
        unfold numD
        rw [if_pos (.inr (.inr (.inl ⟨h48, by omega⟩))), show dgZ zs p - p = (dgZ zs p - p - 2) + 1 + 1 by omega]
        unfold numP
        rw [hb, h48, if_neg (by decide), if_neg (by omega), if_neg (by omega), e0]
        have hb1 := dgS_at hz hp (j := 1) (by omega)
        have : numP (dgS zs p) most (dgZ zs p - p - 2 + 1) (0 + 1) 0 = none := by
          unfold numP
          rw [show 0 + 1 = 1 from rfl, hb1, hd1, if_neg (by simp), if_pos ⟨by omega, rfl⟩]
        rw [this]
        rfl
    · have := num_same hz hp hm h48 (dgZ zs p - p) 0 0 (by omega) (Int.le_refl _) hm (by omega) (fun _ => rfl)
      simp only [Nat.add_zero] at this
      rcases this with ⟨a1, a2⟩ | ⟨v, a1, a2, a3⟩
      · unfold numD
        rw [a1, if_pos (.inr (.inl a2))]
        rfl
      · unfold numD
        rw [a1, a2, if_neg]
        · rfl
        · intro hq
          rcases hq with hq | hq | hq | hq
          · exact hm0 hq
          · omega
          · exact h48 hq.1
          · have := dgZ_out hq.1
            rw [this] at hq
            cases hq.2


theorem Rd.cellAt {n₀ : Nat} {A : World} {bb off cp : Nat} {zs : List Int} (h : Rd n₀ A (.slice (some ⟨bb, off, none⟩) zs.length cp) zs) (i : Nat) (hi : i < zs.length) : A.cell? ⟨bb, off + i, none⟩ = some (.int .u8 (zs[i]?.getD 0)) := by
  rcases h with ⟨a, c, e, hz, _⟩ | ⟨b', o', c', e, _, _, _, _, hc⟩
  · rw [hz] at hi; simp at hi
  · simp at e
    obtain ⟨⟨rfl, rfl⟩, rfl⟩ := e
    exact hc i hi
theorem By_at {zs : List Int} (hz : Mt.By zs) (i : Nat) : 0 ≤ zs[i]?.getD 0 ∧ zs[i]?.getD 0 ≤ 255 := by
  cases h : zs[i]? with
  | none => simp
  | some v => exact hz v (List.mem_of_getElem? h)

set_option maxHeartbeats 8000000 in
theorem rnumber_any (bb off cp n₀ : Nat) (zs : List Int) (hz : Mt.By zs) (p : Nat) (most : Int) (w : World) (hI : Rd n₀ w (.slice (some ⟨bb, off, none⟩) zs.length cp) zs) (hl : zs.length ≤ 1000000) (hp : p ≤ zs.length) (hm : 0 ≤ most ∧ most ≤ 1000000) :
    Calls Tryd.prog 51 #[.slice (some ⟨bb, off, none⟩) zs.length cp, .int .i64 (p : Int), .int .i64 most] w fun e w' => e = .returned (.tuple #[.int .i64 (((numD zs p most).map Prod.fst).getD 0), .int .i64 ((((numD zs p most).map Prod.snd).getD p : Nat) : Int), .bool (numD zs p most).isSome]) ∧ w' = w := by
  have HC := hide (fun i (hi : i < zs.length) => hI.cellAt i hi)
  have HZ := hide (By_at hz)
  obtain ⟨hm1, hm2⟩ := hm
  have g1 : (zs.length : Int) ≤ 1000000 := by omega
  have g2 : (p : Int) ≤ 1000000 := by omega
  clear hI hz
  generalize hnd : numD zs p most = o at *
  have HND := hide hnd
  clear hnd
  go_enter Tryd.func51, Tryd.ntmps51
  go_wp2_with fail
  go_loopw [9, 10] (fun nv iv wr => ∃ (i : Nat) (n : Int), p ≤ i ∧ i ≤ zs.length ∧ nv = .int .i64 n ∧ iv = .int .i64 (i : Int) ∧ 0 ≤ n ∧ n ≤ 10000009 ∧ wr = w ∧ nmZ zs most i n = nmZ zs most p 0) (fun _ iv _ => zs.length - (intOf iv).toNat)
  case atStart => exact ⟨p, 0, Nat.le_refl _, hp, rfl, rfl, by omega, by omega, rfl, rfl⟩
  case round =>
    obtain ⟨i, n, hi1, hi2, rfl, rfl, hn1, hn2, rfl, hnm⟩ := hrel
    have HNM := hide hnm
    clear hnm
    have g3 : (i : Int) ≤ 1000000 := by omega
    by_cases hgo : i < zs.length ∧ dgt (zs[i]?.getD 0) = true ∧ n ≤ most
    · obtain ⟨q1, q2, q3⟩ := hgo
      have HGO := hide (nmZ_go ⟨q1, q2, q3⟩)
      have q1' : (i : Int) < (zs.length : Int) := by omega
      have hcell := HC.out i q1
      have hr := dgt_rng q2
      obtain ⟨r1, r2⟩ := hr
      have hby := HZ.out i
      clear q2
      generalize zs[i]?.getD 0 = c at *
      obtain ⟨b1, b2⟩ := hby
      go_wp2_with fail
      go_roundw
      case rel => exact ⟨i + 1, n * 10 + (c - 48), by omega, by omega, by first | rfl | (congr 1; omega), by simp, by omega, by omega, by first | trivial | rfl, by rw [← HGO.out]; exact HNM.out⟩
      case measure => simp [intOf]; omega
    · have HSP := hide (nmZ_stop hgo)
      have hNZ : nmZ zs most p 0 = (i, n) := by rw [← HNM.out]; exact HSP.out
      have HND2 : Hid (o = if i = p ∨ most < n ∨ (zs[p]?.getD 0 = 48 ∧ p + 1 < i) ∨ (i < zs.length ∧ dgt (zs[i]?.getD 0) = true) then none else some (n, i)) := by show _ = _; rw [← HND.out]; unfold numD; rw [hNZ]
      clear hNZ HSP HNM HND
      have hx : ¬ i < zs.length ∨ (i < zs.length ∧ zs[i]?.getD 0 < 48) ∨ (i < zs.length ∧ 48 ≤ zs[i]?.getD 0 ∧ 57 < zs[i]?.getD 0) ∨ (i < zs.length ∧ dgt (zs[i]?.getD 0) = true ∧ most < n) := by
        by_cases h1 : i < zs.length
        · cases h2 : dgt (zs[i]?.getD 0) with
          | true => exact .inr (.inr (.inr ⟨h1, rfl, by by_cases h3 : n ≤ most; (· exact absurd ⟨h1, h2, h3⟩ hgo); (· omega)⟩))
          | false =>
            unfold dgt at h2
            simp at h2
            omega
        · exact .inl h1
      clear hgo
      rcases hx with hX | ⟨hX, hX2⟩ | ⟨hX, hX2, hX3⟩ | ⟨hX, hX2, hX3⟩
      · have x1 : ¬ (i : Int) < (zs.length : Int) := by omega
        have HNG : Hid (¬ (i < zs.length ∧ dgt (zs[i]?.getD 0) = true)) := fun hq => hX hq.1
        rcases (show i = p ∨ (i ≠ p ∧ most < n) ∨ (i ≠ p ∧ n ≤ most ∧ zs[p]?.getD 0 = 48 ∧ p + 1 < i) ∨ (i ≠ p ∧ n ≤ most ∧ zs[p]?.getD 0 = 48 ∧ ¬ p + 1 < i) ∨ (i ≠ p ∧ n ≤ most ∧ zs[p]?.getD 0 ≠ 48) by omega) with hA | ⟨hA, hB⟩ | ⟨hA, hB, hC, hD⟩ | ⟨hA, hB, hC, hD⟩ | ⟨hA, hB, hC⟩
        · have HNO : Hid (o = none) := by show _ = _; rw [HND2.out, if_pos (.inl hA)]
          have f1 : ((i : Int) == (p : Int)) = true := by simp [hA]
          clear hA
          go_wp2_with fail
          refine bodyPost_ret (v := .tuple #[.int .i64 0, .int .i64 (p : Int), .bool false]) (by simp [results, Tryd.results51, go_sem]) rfl ?_
          exact ⟨by rw [HNO.out]; rfl, rfl⟩
        · have HNO : Hid (o = none) := by show _ = _; rw [HND2.out, if_pos (.inr (.inl hB))]
          have f1 : ((i : Int) == (p : Int)) = false := by rw [beq_eq_false_iff_ne]; omega
          clear hA
          go_wp2_with fail
          refine bodyPost_ret (v := .tuple #[.int .i64 0, .int .i64 (p : Int), .bool false]) (by simp [results, Tryd.results51, go_sem]) rfl ?_
          exact ⟨by rw [HNO.out]; rfl, rfl⟩
        · have HNO : Hid (o = none) := by show _ = _; rw [HND2.out, if_pos (.inr (.inr (.inl ⟨hC, hD⟩)))]
          have f1 : ((i : Int) == (p : Int)) = false := by rw [beq_eq_false_iff_ne]; omega
          have f2 : ¬ most < n := by omega
          have f3 : (zs[p]?.getD 0 == 48) = true := by simp [hC]
          have f4 : (p : Int) + 1 < (i : Int) := by omega
          have cp0 := HC.out p (by omega)
          have hpl : (p : Int) < (zs.length : Int) := by omega
          generalize zs[p]?.getD 0 = c0 at *
          clear hA hC hD
          go_wp2_with fail
          refine bodyPost_ret (v := .tuple #[.int .i64 0, .int .i64 (p : Int), .bool false]) (by simp [results, Tryd.results51, go_sem]) rfl ?_
          exact ⟨by rw [HNO.out]; rfl, rfl⟩
        · first
          | (exfalso; omega)
          | (have HNO : Hid (o = some (n, i)) := by show _ = _; rw [HND2.out, if_neg (fun hq => by rcases hq with hq | hq | hq | hq; (· omega); (· omega); (· omega); (· exact HNG.out hq))]
             have f1 : ((i : Int) == (p : Int)) = false := by rw [beq_eq_false_iff_ne]; omega
             have f2 : ¬ most < n := by omega
             have f3 : (zs[p]?.getD 0 == 48) = true := by simp [hC]
             have f4 : ¬ (p : Int) + 1 < (i : Int) := by omega
             have cp0 := HC.out p (by omega)
             have hpl : (p : Int) < (zs.length : Int) := by omega
             generalize zs[p]?.getD 0 = c0 at *
             clear hA hC hD
             go_wp2_with fail
             refine bodyPost_ret (v := .tuple #[.int .i64 n, .int .i64 (i : Int), .bool true]) (by simp [results, Tryd.results51, go_sem]) rfl ?_
             exact ⟨by rw [HNO.out]; rfl, rfl⟩)
        · first
          | (exfalso; omega)
          | (have HNO : Hid (o = some (n, i)) := by show _ = _; rw [HND2.out, if_neg (fun hq => by rcases hq with hq | hq | hq | hq; (· omega); (· omega); (· exact hC hq.1); (· exact HNG.out hq))]
             have f1 : ((i : Int) == (p : Int)) = false := by rw [beq_eq_false_iff_ne]; omega
             have f2 : ¬ most < n := by omega
             have f3 : (zs[p]?.getD 0 == 48) = false := by rw [beq_eq_false_iff_ne]; exact hC
             have cp0 := HC.out p (by omega)
             have hpl : (p : Int) < (zs.length : Int) := by omega
             generalize zs[p]?.getD 0 = c0 at *
             clear hA hC
             go_wp2_with fail
             refine bodyPost_ret (v := .tuple #[.int .i64 n, .int .i64 (i : Int), .bool true]) (by simp [results, Tryd.results51, go_sem]) rfl ?_
             exact ⟨by rw [HNO.out]; rfl, rfl⟩)
      · have x1 : (i : Int) < (zs.length : Int) := by omega
        have HNG : Hid (¬ (i < zs.length ∧ dgt (zs[i]?.getD 0) = true)) := fun hq => by have := dgt_rng hq.2; omega
        have ci := HC.out i hX
        have x2 : ¬ 48 ≤ zs[i]?.getD 0 := by omega
        clear hX2
        generalize zs[i]?.getD 0 = cc at *
        rcases (show i = p ∨ (i ≠ p ∧ most < n) ∨ (i ≠ p ∧ n ≤ most ∧ zs[p]?.getD 0 = 48 ∧ p + 1 < i) ∨ (i ≠ p ∧ n ≤ most ∧ zs[p]?.getD 0 = 48 ∧ ¬ p + 1 < i) ∨ (i ≠ p ∧ n ≤ most ∧ zs[p]?.getD 0 ≠ 48) by omega) with hA | ⟨hA, hB⟩ | ⟨hA, hB, hC, hD⟩ | ⟨hA, hB, hC, hD⟩ | ⟨hA, hB, hC⟩
        · have HNO : Hid (o = none) := by show _ = _; rw [HND2.out, if_pos (.inl hA)]
          have f1 : ((i : Int) == (p : Int)) = true := by simp [hA]
          clear hA
          go_wp2_with fail
          refine bodyPost_ret (v := .tuple #[.int .i64 0, .int .i64 (p : Int), .bool false]) (by simp [results, Tryd.results51, go_sem]) rfl ?_
          exact ⟨by rw [HNO.out]; rfl, rfl⟩
        · have HNO : Hid (o = none) := by show _ = _; rw [HND2.out, if_pos (.inr (.inl hB))]
          have f1 : ((i : Int) == (p : Int)) = false := by rw [beq_eq_false_iff_ne]; omega
          clear hA
          go_wp2_with fail
          refine bodyPost_ret (v := .tuple #[.int .i64 0, .int .i64 (p : Int), .bool false]) (by simp [results, Tryd.results51, go_sem]) rfl ?_
          exact ⟨by rw [HNO.out]; rfl, rfl⟩
        · have HNO : Hid (o = none) := by show _ = _; rw [HND2.out, if_pos (.inr (.inr (.inl ⟨hC, hD⟩)))]
          have f1 : ((i : Int) == (p : Int)) = false := by rw [beq_eq_false_iff_ne]; omega
          have f2 : ¬ most < n := by omega
          have f3 : (zs[p]?.getD 0 == 48) = true := by simp [hC]
          have f4 : (p : Int) + 1 < (i : Int) := by omega
          have cp0 := HC.out p (by omega)
          have hpl : (p : Int) < (zs.length : Int) := by omega
          generalize zs[p]?.getD 0 = c0 at *
          clear hA hC hD
          go_wp2_with fail
          refine bodyPost_ret (v := .tuple #[.int .i64 0, .int .i64 (p : Int), .bool false]) (by simp [results, Tryd.results51, go_sem]) rfl ?_
          exact ⟨by rw [HNO.out]; rfl, rfl⟩
        · first
          | (exfalso; omega)
          | (have HNO : Hid (o = some (n, i)) := by show _ = _; rw [HND2.out, if_neg (fun hq => by rcases hq with hq | hq | hq | hq; (· omega); (· omega); (· omega); (· exact HNG.out hq))]
             have f1 : ((i : Int) == (p : Int)) = false := by rw [beq_eq_false_iff_ne]; omega
             have f2 : ¬ most < n := by omega
             have f3 : (zs[p]?.getD 0 == 48) = true := by simp [hC]
             have f4 : ¬ (p : Int) + 1 < (i : Int) := by omega
             have cp0 := HC.out p (by omega)
             have hpl : (p : Int) < (zs.length : Int) := by omega
             generalize zs[p]?.getD 0 = c0 at *
             clear hA hC hD
             go_wp2_with fail
             refine bodyPost_ret (v := .tuple #[.int .i64 n, .int .i64 (i : Int), .bool true]) (by simp [results, Tryd.results51, go_sem]) rfl ?_
             exact ⟨by rw [HNO.out]; rfl, rfl⟩)
        · first
          | (exfalso; omega)
          | (have HNO : Hid (o = some (n, i)) := by show _ = _; rw [HND2.out, if_neg (fun hq => by rcases hq with hq | hq | hq | hq; (· omega); (· omega); (· exact hC hq.1); (· exact HNG.out hq))]
             have f1 : ((i : Int) == (p : Int)) = false := by rw [beq_eq_false_iff_ne]; omega
             have f2 : ¬ most < n := by omega
             have f3 : (zs[p]?.getD 0 == 48) = false := by rw [beq_eq_false_iff_ne]; exact hC
             have cp0 := HC.out p (by omega)
             have hpl : (p : Int) < (zs.length : Int) := by omega
             generalize zs[p]?.getD 0 = c0 at *
             clear hA hC
             go_wp2_with fail
             refine bodyPost_ret (v := .tuple #[.int .i64 n, .int .i64 (i : Int), .bool true]) (by simp [results, Tryd.results51, go_sem]) rfl ?_
             exact ⟨by rw [HNO.out]; rfl, rfl⟩)
      · have x1 : (i : Int) < (zs.length : Int) := by omega
        have HNG : Hid (¬ (i < zs.length ∧ dgt (zs[i]?.getD 0) = true)) := fun hq => by have := dgt_rng hq.2; omega
        have ci := HC.out i hX
        have x3 : ¬ zs[i]?.getD 0 ≤ 57 := by omega
        generalize zs[i]?.getD 0 = cc at *
        rcases (show i = p ∨ (i ≠ p ∧ most < n) ∨ (i ≠ p ∧ n ≤ most ∧ zs[p]?.getD 0 = 48 ∧ p + 1 < i) ∨ (i ≠ p ∧ n ≤ most ∧ zs[p]?.getD 0 = 48 ∧ ¬ p + 1 < i) ∨ (i ≠ p ∧ n ≤ most ∧ zs[p]?.getD 0 ≠ 48) by omega) with hA | ⟨hA, hB⟩ | ⟨hA, hB, hC, hD⟩ | ⟨hA, hB, hC, hD⟩ | ⟨hA, hB, hC⟩
        · have HNO : Hid (o = none) := by show _ = _; rw [HND2.out, if_pos (.inl hA)]
          have f1 : ((i : Int) == (p : Int)) = true := by simp [hA]
          clear hA
          go_wp2_with fail
          refine bodyPost_ret (v := .tuple #[.int .i64 0, .int .i64 (p : Int), .bool false]) (by simp [results, Tryd.results51, go_sem]) rfl ?_
          exact ⟨by rw [HNO.out]; rfl, rfl⟩
        · have HNO : Hid (o = none) := by show _ = _; rw [HND2.out, if_pos (.inr (.inl hB))]
          have f1 : ((i : Int) == (p : Int)) = false := by rw [beq_eq_false_iff_ne]; omega
          clear hA
          go_wp2_with fail
          refine bodyPost_ret (v := .tuple #[.int .i64 0, .int .i64 (p : Int), .bool false]) (by simp [results, Tryd.results51, go_sem]) rfl ?_
          exact ⟨by rw [HNO.out]; rfl, rfl⟩
        · have HNO : Hid (o = none) := by show _ = _; rw [HND2.out, if_pos (.inr (.inr (.inl ⟨hC, hD⟩)))]
          have f1 : ((i : Int) == (p : Int)) = false := by rw [beq_eq_false_iff_ne]; omega
          have f2 : ¬ most < n := by omega
          have f3 : (zs[p]?.getD 0 == 48) = true := by simp [hC]
          have f4 : (p : Int) + 1 < (i : Int) := by omega
          have cp0 := HC.out p (by omega)
          have hpl : (p : Int) < (zs.length : Int) := by omega
          generalize zs[p]?.getD 0 = c0 at *
          clear hA hC hD
          go_wp2_with fail
          refine bodyPost_ret (v := .tuple #[.int .i64 0, .int .i64 (p : Int), .bool false]) (by simp [results, Tryd.results51, go_sem]) rfl ?_
          exact ⟨by rw [HNO.out]; rfl, rfl⟩
        · first
          | (exfalso; omega)
          | (have HNO : Hid (o = some (n, i)) := by show _ = _; rw [HND2.out, if_neg (fun hq => by rcases hq with hq | hq | hq | hq; (· omega); (· omega); (· omega); (· exact HNG.out hq))]
             have f1 : ((i : Int) == (p : Int)) = false := by rw [beq_eq_false_iff_ne]; omega
             have f2 : ¬ most < n := by omega
             have f3 : (zs[p]?.getD 0 == 48) = true := by simp [hC]
             have f4 : ¬ (p : Int) + 1 < (i : Int) := by omega
             have cp0 := HC.out p (by omega)
             have hpl : (p : Int) < (zs.length : Int) := by omega
             generalize zs[p]?.getD 0 = c0 at *
             clear hA hC hD
             go_wp2_with fail
             refine bodyPost_ret (v := .tuple #[.int .i64 n, .int .i64 (i : Int), .bool true]) (by simp [results, Tryd.results51, go_sem]) rfl ?_
             exact ⟨by rw [HNO.out]; rfl, rfl⟩)
        · first
          | (exfalso; omega)
          | (have HNO : Hid (o = some (n, i)) := by show _ = _; rw [HND2.out, if_neg (fun hq => by rcases hq with hq | hq | hq | hq; (· omega); (· omega); (· exact hC hq.1); (· exact HNG.out hq))]
             have f1 : ((i : Int) == (p : Int)) = false := by rw [beq_eq_false_iff_ne]; omega
             have f2 : ¬ most < n := by omega
             have f3 : (zs[p]?.getD 0 == 48) = false := by rw [beq_eq_false_iff_ne]; exact hC
             have cp0 := HC.out p (by omega)
             have hpl : (p : Int) < (zs.length : Int) := by omega
             generalize zs[p]?.getD 0 = c0 at *
             clear hA hC
             go_wp2_with fail
             refine bodyPost_ret (v := .tuple #[.int .i64 n, .int .i64 (i : Int), .bool true]) (by simp [results, Tryd.results51, go_sem]) rfl ?_
             exact ⟨by rw [HNO.out]; rfl, rfl⟩)
      · have x1 : (i : Int) < (zs.length : Int) := by omega
        have ci := HC.out i hX
        have hr := dgt_rng hX2
        obtain ⟨r1, r2⟩ := hr
        have x4 : ¬ n ≤ most := by omega
        generalize zs[i]?.getD 0 = cc at *
        by_cases hA : i = p
        · have HNO : Hid (o = none) := by show _ = _; rw [HND2.out, if_pos (.inl hA)]
          have f1 : ((i : Int) == (p : Int)) = true := by simp [hA]
          clear hA hX2
          go_wp2_with fail
          refine bodyPost_ret (v := .tuple #[.int .i64 0, .int .i64 (p : Int), .bool false]) (by simp [results, Tryd.results51, go_sem]) rfl ?_
          exact ⟨by rw [HNO.out]; rfl, rfl⟩
        · have HNO : Hid (o = none) := by show _ = _; rw [HND2.out, if_pos (.inr (.inl hX3))]
          have f1 : ((i : Int) == (p : Int)) = false := by rw [beq_eq_false_iff_ne]; omega
          clear hA hX2
          go_wp2_with fail
          refine bodyPost_ret (v := .tuple #[.int .i64 0, .int .i64 (p : Int), .bool false]) (by simp [results, Tryd.results51, go_sem]) rfl ?_
          exact ⟨by rw [HNO.out]; rfl, rfl⟩
end Go.Proofs.YtehdgndbloaljaaDoor

/- The document's digits and addresses, as lines have them. -/
namespace Go.Proofs.YtehdgndbloaljaaDoor
open Go.RowKit Go.Shelf
set_option maxRecDepth 100000
set_option linter.unusedVariables false
set_option linter.unusedSimpArgs false

/-- A number as the document writes it. -/
def TDigsAt (n : Nat) : Prop := ∀ w : World, Calls Tryd.prog 66 #[.int .i64 (n : Int)] w fun e w' => e = .returned (.string (decB n)) ∧ Later w w'

set_option maxRecDepth 100000 in
set_option maxHeartbeats 8000000 in
theorem tdigits_step (n : Nat) (hn : n ≤ 9223372036854775807) (hi : 10 ≤ n → TDigsAt (n / 10)) : TDigsAt n := by
  intro w
  have hn' : (n : Int) ≤ 9223372036854775807 := by omega
  by_cases h10 : n < 10
  · have h1 : (n : Int) < 10 := by omega
    have HV := hide (decB_small h10)
    go_enter Tryd.func66, Tryd.ntmps66
    have hcv := conv_rd 22 9 5 Tryd.underlying22 Tryd.underlying5 Tryd.underlying9 (rd_one w (48 + (n : Int)))
    generalize hrs : strOfNums [48 + (n : Int)] = rs at *
    go_wp2_with fail
    go_ret
    exact ⟨by rw [HV.out]; rfl, later_allocR _ _⟩
  · have h1 : ¬ (n : Int) < 10 := by omega
    have HV := hide (decB_big (n := n) (by omega))
    have HI := hide (hi (by omega))
    have hds : (decB (n / 10)).size ≤ 20 := decB_len _ (by omega)
    go_enter Tryd.func66, Tryd.ntmps66
    go_upto_region 3 with fail
    refine anyR_begin (R := Later) Later.pre Later.drew 11 rfl (by kernel_rfl) (fun V0 hV0 => ?_)
    refine anyR_val Later.pre 0 rfl (by kernel_rfl) (by kernel_rfl) (by kernel_rfl) (fun _ _ _ _ h => h) rfl ?_; apply Exists.intro; refine ⟨fun v1 hv1 => ?_, ?_⟩; (· (go_simp; rfl)); simp only [Act.put, List.setIfInBounds_toArray, List.set_cons_zero, List.set_cons_succ]
    refine anyR_val Later.pre 3 rfl (by kernel_rfl) (by kernel_rfl) (by kernel_rfl) (fun _ _ _ _ h => h) rfl ?_; apply Exists.intro; refine ⟨fun v1 hv1 => ?_, ?_⟩; (· (go_simp; rfl)); simp only [Act.put, List.setIfInBounds_toArray, List.set_cons_zero, List.set_cons_succ]
    refine anyR_val Later.pre 1 rfl (by kernel_rfl) (by kernel_rfl) (by kernel_rfl) (fun _ _ _ _ h => h) rfl ?_; apply Exists.intro; refine ⟨fun v1 hv1 => ?_, ?_⟩; (· (go_simp; rfl)); simp only [Act.put, List.setIfInBounds_toArray, List.set_cons_zero, List.set_cons_succ]
    refine anyR_val Later.pre 4 rfl (by kernel_rfl) (by kernel_rfl) (by kernel_rfl) (fun _ _ _ _ h => h) rfl ?_; apply Exists.intro; refine ⟨fun v1 hv1 => ?_, ?_⟩; (· (go_simp; rfl)); simp only [Act.put, List.setIfInBounds_toArray, List.set_cons_zero, List.set_cons_succ]
    have e1 : IntKind.i64.wrap ((n : Int) / 10) = ((n / 10 : Nat) : Int) := by
      have h : (n : Int) / 10 = ((n / 10 : Nat) : Int) := by omega
      rw [h]
      exact wrI (by omega) (by omega)
    have e2 : (n : Int).tmod 10 = ((n % 10 : Nat) : Int) := by rw [Int.tmod_eq_emod_of_nonneg (by omega)]; omega
    simp only [e1, e2]
    clear e1 e2
    have hm9 : n % 10 ≤ 9 := by omega
    generalize n % 10 = r at *
    generalize n / 10 = q at *
    have hm9' : (r : Int) ≤ 9 := by omega
    refine anyR_take Later.pre 2 (.string (decB q)) rfl (by kernel_rfl) (by kernel_rfl) (by kernel_rfl) (fun _ _ _ h => h) rfl (fun u hu => goes_call 66 #[.int .i64 (q : Int)] (by go_simp) (HI.out u)) ?_
    simp only [Act.put, List.setIfInBounds_toArray, List.set_cons_zero, List.set_cons_succ]
    refine anyR_val Later.pre 5 rfl (by kernel_rfl) (by kernel_rfl) (by kernel_rfl) (fun _ _ _ _ h => h) rfl ?_; apply Exists.intro; refine ⟨fun v1 hv1 => ?_, ?_⟩; (· (go_simp; rfl)); simp only [Act.put, List.setIfInBounds_toArray, List.set_cons_zero, List.set_cons_succ]
    refine anyR_val Later.pre 6 rfl (by kernel_rfl) (by kernel_rfl) (by kernel_rfl) (fun _ _ _ _ h => h) rfl ?_; apply Exists.intro; refine ⟨fun v1 hv1 => ?_, ?_⟩; (· (go_simp; rfl)); simp only [Act.put, List.setIfInBounds_toArray, List.set_cons_zero, List.set_cons_succ]
    simp only [wrI (x := 48 + (r : Int)) (by omega) (by omega), wrB (x := 48 + (r : Int)) (by omega) (by omega)]
    refine anyR_one 7 rfl (by kernel_rfl) rfl (fun V1 hV1 => ?_)
    unfold Oper.wp
    go_simp
    have l2 := later_allocR V1 (.cells #[.int .u8 (48 + (r : Int))] 5)
    have HR := hide (rd_one V1 (48 + (r : Int)))
    refine ⟨l2, ?_⟩
    change wpAnyR _ _ _ _ _ _ _ _ (V1.alloc (.cells #[.int .u8 (48 + (r : Int))] 5))
    generalize V1.alloc (.cells #[.int .u8 (48 + (r : Int))] 5) = V2 at *
    have qc : ∀ u, Later V2 u → (convert 22 9 (.slice (some ⟨V1.heap.size, 0, none⟩) 1 1)).run Tryd.prog u = .ok (.string (strOfNums [48 + (r : Int)])) u := fun u hu => conv_rd 22 9 5 Tryd.underlying22 Tryd.underlying5 Tryd.underlying9 (HR.out.later hu)
    have hss : (strOfNums [48 + (r : Int)]).size = 1 := strOfNums_size _
    have hss2 : (strOfNums [48 + (r : Int)]).size ≤ 1 := by omega
    clear hss
    generalize strOfNums [48 + (r : Int)] = rs at *
    generalize V1.heap.size = g1 at *
    generalize decB q = dq at *
    refine anyR_val Later.pre 8 rfl (by kernel_rfl) (by kernel_rfl) (by kernel_rfl) (fun _ _ _ _ h => h) rfl ?_; apply Exists.intro; refine ⟨fun v1 hv1 => ?_, ?_⟩; (· (go_simp; rfl)); simp only [Act.put, List.setIfInBounds_toArray, List.set_cons_zero, List.set_cons_succ]
    clear qc
    refine anyR_val Later.pre 9 rfl (by kernel_rfl) (by kernel_rfl) (by kernel_rfl) (fun _ _ _ _ h => h) rfl ⟨.string (dq ++ rs), fun v1 hv1 => (by go_simp; omega), ?_⟩; simp only [Act.put, List.setIfInBounds_toArray, List.set_cons_zero, List.set_cons_succ]
    refine anyR_val Later.pre 10 rfl (by kernel_rfl) (by kernel_rfl) (by kernel_rfl) (fun _ _ _ _ h => h) rfl ?_; apply Exists.intro; refine ⟨fun v1 hv1 => ?_, ?_⟩; (· (go_simp; rfl)); simp only [Act.put, List.setIfInBounds_toArray, List.set_cons_zero, List.set_cons_succ]
    refine anyR_done (by kernel_rfl) (fun V9 hV9 => ?_)
    have L9 : Later w V9 := hV0.trans (hV1.trans (l2.trans hV9))
    go_wp2_with fail
    go_ret
    exact ⟨by rw [HV.out]; rfl, L9⟩
theorem tdigits_any (n : Nat) (hn : n ≤ 9223372036854775807) : TDigsAt n := by
  induction n using Nat.strongRecOn with
  | ind n ih => exact tdigits_step n hn (fun h => ih (n / 10) (by omega) (by omega))

theorem tand255 {x : Int} (h₀ : 0 ≤ x) (h₁ : x < 4294967296) : bits .and .u32 x 255 = x % 256 := by first | exact bits_mask .u32 32 (by decide) wraps_u32 8 (by decide) x h₀ h₁ | go_bits2
theorem tdigI (z : Int) (h : 0 ≤ z ∧ z ≤ 65535) (w : World) : Calls Tryd.prog 66 #[.int .i64 z] w fun e w' => e = .returned (.string (decB z.toNat)) ∧ Later w w' := by
  have := tdigits_any z.toNat (by omega) w
  rwa [Int.toNat_of_nonneg h.1] at this

set_option maxRecDepth 100000 in
set_option maxHeartbeats 4000000 in
theorem tdotted_any (a : Int) (h : 0 ≤ a ∧ a ≤ 4294967295) (w : World) :
    Calls Tryd.prog 50 #[.int .u32 a, .string tDot] w fun e w' => e = .returned (.string (adB a)) ∧ Later w w' := by
  obtain ⟨h0, h1⟩ := h
  have HV := hide (adB_form a)
  have s1 := decB_size (a / 16777216).toNat (by omega)
  have s2 := decB_size (a / 65536 % 256).toNat (by omega)
  have s3 := decB_size (a / 256 % 256).toNat (by omega)
  have s4 := decB_size (a % 256).toNat (by omega)
  have H1 := hide (fun w => tdigI (a / 16777216) (by omega) w)
  have H2 := hide (fun w => tdigI (a / 65536 % 256) (by omega) w)
  have H3 := hide (fun w => tdigI (a / 256 % 256) (by omega) w)
  have H4 := hide (fun w => tdigI (a % 256) (by omega) w)
  generalize decB (a / 16777216).toNat = d1 at *
  generalize decB (a / 65536 % 256).toNat = d2 at *
  generalize decB (a / 256 % 256).toNat = d3 at *
  generalize decB (a % 256).toNat = d4 at *
  have m2 : bits .and .u32 (a / 65536) 255 = a / 65536 % 256 := tand255 (by omega) (by omega)
  have m3 : bits .and .u32 (a / 256) 255 = a / 256 % 256 := tand255 (by omega) (by omega)
  have m4 : a.tmod 256 = a % 256 := Int.tmod_eq_emod_of_nonneg h0
  have e1 : ByteArray.size tDot = 1 := rfl
  have b2 : 0 ≤ a / 65536 % 256 ∧ a / 65536 % 256 ≤ 255 := by omega
  have b3 : 0 ≤ a / 256 % 256 ∧ a / 256 % 256 ≤ 255 := by omega
  have b4 : 0 ≤ a % 256 ∧ a % 256 ≤ 255 := by omega
  go_enter Tryd.func50, Tryd.ntmps50
  go_wp2_with fail
  refine (H1.out w).mono ?_
  rintro e w1 ⟨rfl, l1⟩
  go_wp2_with fail
  refine (H2.out w1).mono ?_
  rintro e w2 ⟨rfl, l2⟩
  go_wp2_with fail
  refine (H3.out w2).mono ?_
  rintro e w3 ⟨rfl, l3⟩
  go_wp2_with fail
  refine (H4.out w3).mono ?_
  rintro e w4 ⟨rfl, l4⟩
  go_wp2_with fail
  go_ret
  refine ⟨?_, Later.trans l1 (l2.trans (l3.trans l4))⟩
  rw [HV.out]
  show Ending.returned (.string (d1 ++ tDot ++ d2 ++ tDot ++ d3 ++ tDot ++ d4)) = _
  simp only [ByteArray.append_assoc]

set_option maxHeartbeats 4000000 in
theorem rconn_any (l : ByteArray) (a : Int) (h : 0 ≤ a ∧ a ≤ 4294967295) (w : World) :
    Calls Tryd.prog 31 #[.string l, .int .u32 a] w fun e w' => e = .returned (.bool (eqS l (cnB ++ adB a))) ∧ Later w w' := by
  have HD := hide (fun W => tdotted_any a h W)
  have hs := adB_size a h
  have HQ : Hid ((l.toList == (⟨#[99, 61, 73, 78, 32, 73, 80, 52, 32]⟩ ++ adB a : ByteArray).toList) = eqS l (cnB ++ adB a)) := str_beq l (cnB ++ adB a)
  generalize adB a = ad at *
  have e9 : ByteArray.size ⟨#[99, 61, 73, 78, 32, 73, 80, 52, 32]⟩ = 9 := rfl
  go_enter Tryd.func31, Tryd.ntmps31
  go_wp2_with fail
  refine (HD.out w).mono ?_
  rintro e w1 ⟨rfl, l1⟩
  have hq := HQ.out
  go_wp2_with fail
  go_ret
  exact ⟨rfl, l1⟩
end Go.Proofs.YtehdgndbloaljaaDoor

/- The first two signs of a kind in a text: mathematics. -/
namespace Go.Proofs.YtehdgndbloaljaaDoor
open Go.RowKit Go.Shelf
set_option maxRecDepth 100000
set_option linter.unusedVariables false
set_option linter.unusedSimpArgs false

theorem occ2 (s : List UInt8) (a b : UInt8) (j : Nat) : Lib.occAt s [a, b] j = true ↔ s[j]? = some a ∧ s[j + 1]? = some b := by
  have e0 : s[j]? = (s.drop j)[0]? := by rw [List.getElem?_drop]; rfl
  have e1 : s[j + 1]? = (s.drop j)[1]? := by rw [List.getElem?_drop]
  unfold Lib.occAt
  rw [e0, e1]
  rcases s.drop j with _ | ⟨x, _ | ⟨y, t⟩⟩
  · simp [List.isPrefixOf]
  · simp [List.isPrefixOf]
  · show ((a == x) && ((b == y) && true)) = true ↔ _
    rw [Bool.and_eq_true, Bool.and_true, beq_iff_eq, beq_iff_eq]
    simp only [List.getElem?_cons_zero, List.getElem?_cons_succ, Option.some.injEq]
    constructor <;> rintro ⟨rfl, rfl⟩ <;> exact ⟨rfl, rfl⟩
theorem bAt_of (s : ByteArray) (j : Nat) (c : UInt8) (h : j < s.size) : s.data.toList[j]? = some c ↔ bAt s j = (c.toNat : Int) := by
  have h' : j < s.data.toList.length := by rw [Array.length_toList]; exact h
  have e : s.get! j = s.data.toList[j] := by
    simp only [ByteArray.get!]
    rw [getElem!_pos s.data j h]
    simp
  rw [List.getElem?_eq_getElem h']
  unfold bAt
  rw [e]
  constructor
  · intro h; cases h; rfl
  · intro h; congr 1; exact UInt8.toNat_inj.1 (by omega)
/-- No such two ahead. -/
def No2 (s : ByteArray) (a b : Int) (i : Nat) : Prop := ∀ j, j < i → j + 1 < s.size → ¬ (bAt s j = a ∧ bAt s (j + 1) = b)
theorem No2.succ {s : ByteArray} {a b : Int} {i : Nat} (h : No2 s a b i) (hi : ¬ (bAt s i = a ∧ bAt s (i + 1) = b)) : No2 s a b (i + 1) := fun j hj hl => by
  rcases Nat.lt_or_eq_of_le (Nat.lt_succ_iff.1 hj) with q | rfl
  · exact h j q hl
  · exact hi
theorem occ2_no {s : ByteArray} {a b : UInt8} {j : Nat} (h : j + 1 < s.size → ¬ (bAt s j = (a.toNat : Int) ∧ bAt s (j + 1) = (b.toNat : Int))) : Lib.occAt s.data.toList [a, b] j = false := by
  cases hc : Lib.occAt s.data.toList [a, b] j with
  | false => rfl
  | true =>
    obtain ⟨h1, h2⟩ := (occ2 _ _ _ _).1 hc
    have hl : j + 1 < s.size := by
      have := (List.getElem?_eq_some_iff.1 h2).1
      rwa [Array.length_toList] at this
    exact absurd ⟨(bAt_of s j a (by omega)).1 h1, (bAt_of s (j + 1) b hl).1 h2⟩ (h hl)
theorem cut2_yes {s : ByteArray} {a b : UInt8} {i : Nat} (hi : i + 1 < s.size) (h1 : bAt s i = (a.toNat : Int)) (h2 : bAt s (i + 1) = (b.toNat : Int)) (hn : No2 s (a.toNat : Int) (b.toNat : Int) i) :
    cutF s ⟨#[a, b]⟩ = true ∧ cutA s ⟨#[a, b]⟩ = s.extract 0 i ∧ cutZ s ⟨#[a, b]⟩ = s.extract (i + 2) s.size := by
  have hl : s.data.toList.length = s.size := by rw [Array.length_toList]; rfl
  have g1 := (bAt_of s i a (by omega)).2 h1
  have g2 := (bAt_of s (i + 1) b hi).2 h2
  have es : (s.extract 0 i).size = i := by rw [ByteArray.size_extract]; omega
  refine cut_uniq ?_ ?_
  · apply ba_ext
    rw [ba_app, ba_app, ba_ext_list, ba_ext_list, List.drop_zero]
    have e1 : s.data.toList.take s.size = s.data.toList := by rw [← hl, List.take_length]
    rw [e1]
    have q1 : i < s.data.toList.length := by omega
    have q2 : i + 1 < s.data.toList.length := by omega
    rw [List.getElem?_eq_getElem q1] at g1
    rw [List.getElem?_eq_getElem q2] at g2
    conv => lhs; rw [← List.take_append_drop i s.data.toList, List.drop_eq_getElem_cons q1, List.drop_eq_getElem_cons q2]
    cases g1
    cases g2
    rfl
  · rw [es]
    exact fun j hj => occ2_no (fun hl => hn j hj hl)
theorem cut2_no {s : ByteArray} {a b : UInt8} {i : Nat} (hi : s.size ≤ i + 1) (hn : No2 s (a.toNat : Int) (b.toNat : Int) i) : cutF s ⟨#[a, b]⟩ = false := by
  cases hf : cutF s ⟨#[a, b]⟩ with
  | false => rfl
  | true =>
    have ho : Lib.occAt s.data.toList [a, b] (cutA s ⟨#[a, b]⟩).size = true := by
      rcases cut_spec s ⟨#[a, b]⟩ with ⟨_, he, _⟩ | ⟨hf', _⟩
      · unfold Lib.occAt
        conv => lhs; arg 2; rw [he]
        rw [ba_len, List.drop_left, List.isPrefixOf_iff_prefix]
        exact List.prefix_append _ _
      · rw [hf] at hf'; cases hf'
    rw [occ2_no (fun hl => hn _ (by omega) hl)] at ho
    cases ho
end Go.Proofs.YtehdgndbloaljaaDoor
