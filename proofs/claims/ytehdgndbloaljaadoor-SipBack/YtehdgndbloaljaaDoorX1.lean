/- Several texts in one. -/
import Derived.Test.YtehdgndbloaljaaDoorX2
import Derived.Sort.CutIn
import Derived.Test.YtehdgndbloaljaaDoorRh
import Derived.Deep.Cut
/- Package sip: Same; the law's live. -/
namespace Go.Proofs.YtehdgndbloaljaaDoor
open Go.RowKit Go.Shelf
set_option maxRecDepth 100000
set_option linter.unusedVariables false
set_option linter.unusedSimpArgs false

/-- Two messages are the same. -/
def smM (s1 s2 : ByteArray) (h1 h2 : List Hr) (z1 z2 : List Int) : Bool := eqS s1 s2 && (decide (h1 = h2) && decide (z1 = z2))
theorem smM_self (s : ByteArray) (h : List Hr) (z : List Int) : smM s s h h z z = true := by
  unfold smM
  rw [eqS_iff.2 rfl]
  simp

set_option maxRecDepth 100000 in
set_option maxHeartbeats 4000000 in
theorem same14_any (s1 s2 : ByteArray) (v1 v2 b1 b2 : Value) (h1 h2 : List Hr) (z1 z2 : List Int) (w : World) (hH1 : RdM w.heap.size w v1 h1) (hH2 : RdM w.heap.size w v2 h2) (hB1 : Rd w.heap.size w b1 z1) (hB2 : Rd w.heap.size w b2 z2) (hy1 : Mt.By z1) (hy2 : Mt.By z2) :
    Calls Tryd.prog 13 #[.agg #[.string s1, v1, b1], .agg #[.string s2, v2, b2]] w fun e w' => e = .returned (.bool (smM s1 s2 h1 h2 z1 z2)) ∧ Later w w' := by
  obtain ⟨a1, c1, rfl, _, _⟩ := hH1.slice
  obtain ⟨a2, c2, rfl, _, _⟩ := hH2.slice
  obtain ⟨a3, c3, rfl, _, _⟩ := hB1.slice
  obtain ⟨a4, c4, rfl, _, _⟩ := hB2.slice
  have hb4 : Later w ((w.alloc (.cells #[.string s1, .slice a1 h1.length c1, .slice a3 z1.length c3] 25)).alloc (.cells #[.string s2, .slice a2 h2.length c2, .slice a4 z2.length c4] 25)) := ((Below.refl _ _).alloc (Nat.le_refl _) _).alloc (by simp) _
  have C0 := hide (show ((w.alloc (.cells #[.string s1, .slice a1 h1.length c1, .slice a3 z1.length c3] 25)).alloc (.cells #[.string s2, .slice a2 h2.length c2, .slice a4 z2.length c4] 25)).heap[w.heap.size]? = some (.cells #[.string s1, .slice a1 h1.length c1, .slice a3 z1.length c3] 25 (0, 0)) from (Below.heap_alloc _ _ _ (by simp)).trans (heap_alloc_new w _))
  have C1 : Hid (((w.alloc (.cells #[.string s1, .slice a1 h1.length c1, .slice a3 z1.length c3] 25)).alloc (.cells #[.string s2, .slice a2 h2.length c2, .slice a4 z2.length c4] 25)).heap[w.heap.size + 1]? = some (.cells #[.string s2, .slice a2 h2.length c2, .slice a4 z2.length c4] 25 (0, 0))) := by
    have := heap_alloc_new (w.alloc (.cells #[.string s1, .slice a1 h1.length c1, .slice a3 z1.length c3] 25)) (.cells #[.string s2, .slice a2 h2.length c2, .slice a4 z2.length c4] 25)
    rw [World.size_alloc] at this
    exact this
  have HE := hide (fun W (l : Later w W) => equalH_any _ _ h1 h2 W (hH1.later l) (hH2.later l))
  have HF := hide (fun W (l : Later w W) => equal_any _ _ z1 z2 W hy1 hy2 (hB1.later l) (hB2.later l))
  have HV : Hid (smM s1 s2 h1 h2 z1 z2 = (eqS s1 s2 && (decide (h1 = h2) && decide (z1 = z2)))) := rfl
  have HQ := hide (str_beq s1 s2)
  generalize smM s1 s2 h1 h2 z1 z2 = r at *
  generalize decide (h1 = h2) = q1 at *
  generalize decide (z1 = z2) = q2 at *
  generalize eqS s1 s2 = q0 at *
  clear hH1 hH2 hB1 hB2 hy1 hy2
  go_enter Tryd.func13, Tryd.ntmps13
  go_upto_region 1 with fail
  generalize (w.alloc (.cells #[.string s1, .slice a1 h1.length c1, .slice a3 z1.length c3] 25)).alloc (.cells #[.string s2, .slice a2 h2.length c2, .slice a4 z2.length c4] 25) = w4 at *
  generalize w.heap.size = gc at C0 C1 ⊢
  have k0 := block_cell C0.out
  have k1 := block_cell C1.out
  have hq0 := HQ.out
  cases q0 with
  | false =>
    go_wp2_with fail
    go_ret
    exact ⟨by rw [HV.out]; rfl, hb4⟩
  | true =>
    go_wp2_with fail
    refine (HE.out w4 hb4).mono ?_
    rintro e w5 ⟨rfl, l5⟩
    clear k0 k1
    have k0 := block_cell (later_keep l5 C0.out)
    have k1 := block_cell (later_keep l5 C1.out)
    cases q1 with
    | false =>
      go_wp2_with fail
      go_ret
      exact ⟨by rw [HV.out]; rfl, Later.trans hb4 l5⟩
    | true =>
      go_wp2_with fail
      refine (HF.out w5 (Later.trans hb4 l5)).mono ?_
      rintro e w6 ⟨rfl, rfl⟩
      go_wp2_with fail
      go_ret
      exact ⟨by rw [HV.out]; simp, Later.trans hb4 l5⟩

def lvV : ByteArray := ⟨#[83, 73, 80, 47, 50, 46, 48, 47, 85, 68, 80, 32, 49, 48, 46, 48, 46, 48, 46, 50, 58, 53, 48, 54, 48, 59, 98, 114, 97, 110, 99, 104, 61, 49]⟩
def lvW : ByteArray := ⟨#[83, 73, 80, 47, 50, 46, 48, 47, 85, 68, 80, 32, 49, 46, 50, 46, 51, 46, 52, 58, 55, 48, 48, 48, 59, 98, 114, 97, 110, 99, 104, 61, 49]⟩
def lvH : List Hr := [(⟨#[86, 105, 97]⟩, lvV), (clN, ⟨#[48]⟩)]
theorem lv_rg : rgB ⟨#[65]⟩ lvH 0 = true := by decide +kernel
theorem lv_rw : rwHs (cgOf 167772162 16909060 5060 7000 []) ⟨#[65]⟩ lvH [] = [(⟨#[86, 105, 97]⟩, lvW), (clN, ⟨#[48]⟩)] := by decide +kernel
theorem lv_sz : (txM ⟨#[65]⟩ lvH []).length = 65 := by decide +kernel

theorem rdH_made (W : World) (l : List Hr) (hl : l.length ≤ 1000) : RdM (W.alloc (.cells (hrs l).toArray 53)).heap.size (W.alloc (.cells (hrs l).toArray 53)) (.slice (some ⟨W.heap.size, 0, none⟩) l.length l.length) l := by
  by_cases hn : l = []
  · subst hn
    exact .inl ⟨_, _, rfl, rfl, by simp, fun h => by cases h⟩
  · refine .inr ⟨W.heap.size, 0, l.length, rfl, hn, Nat.le_refl _, by omega, by simp, fun j hj i hi => ?_⟩
    rw [Nat.zero_add, block_cell (heap_alloc_new W _), ← hrs_at l j i hj hi]
    simp
theorem cg_wf {h t p q : Int} {ml : List (Int × Int)} (hh : 0 ≤ h ∧ h ≤ 4294967295) (ht : 0 ≤ t ∧ t ≤ 4294967295) (hp : 0 ≤ p ∧ p ≤ 65535) (hq : 0 ≤ q ∧ q ≤ 65535) (hm : ∀ m ∈ ml, (0 ≤ m.1 ∧ m.1 ≤ 65535) ∧ (0 ≤ m.2 ∧ m.2 ≤ 65535)) : (cgOf h t p q ml).wf :=
  ⟨⟨by have := adB_size h hh; show (adB h).size ≤ _; omega, by have := adB_size t ht; show (adB t).size ≤ _; omega⟩, hp, hq, hm⟩

set_option maxRecDepth 100000 in
set_option maxHeartbeats 4000000 in
theorem live14_any (w : World) (hT : TabI w) (hM : TabM w) :
    Calls Tryd.prog 9 #[] w fun e w' => e = .returned (.bool true) ∧ Later w w' := by
  have l0 : Later w ((w.alloc (.cells (hrs lvH).toArray 53)).alloc (.cells #[.string ⟨#[65]⟩, .slice (some ⟨w.heap.size, 0, none⟩) 2 2, .slice none 0 0] 25)) := ((Below.refl _ _).alloc (Nat.le_refl _) _).alloc (by simp) _
  have hH0 := (rdH_made w lvH (by decide)).later (later_allocR _ (.cells #[.string ⟨#[65]⟩, .slice (some ⟨w.heap.size, 0, none⟩) 2 2, .slice none 0 0] 25))
  have C0 := hide (heap_alloc_new (w.alloc (.cells (hrs lvH).toArray 53)) (.cells #[.string ⟨#[65]⟩, .slice (some ⟨w.heap.size, 0, none⟩) 2 2, .slice none 0 0] 25))
  rw [World.size_alloc] at C0
  have hH0' : Hid (RdM ((w.alloc (.cells (hrs lvH).toArray 53)).alloc (.cells #[.string ⟨#[65]⟩, .slice (some ⟨w.heap.size, 0, none⟩) 2 2, .slice none 0 0] 25)).heap.size ((w.alloc (.cells (hrs lvH).toArray 53)).alloc (.cells #[.string ⟨#[65]⟩, .slice (some ⟨w.heap.size, 0, none⟩) 2 2, .slice none 0 0] 25)) (.slice (some ⟨w.heap.size, 0, none⟩) 2 2) lvH) := hH0
  clear hH0
  go_enter Tryd.func9, Tryd.ntmps9
  go_upto_region 2 with fail
  change Code.wp _ _ _ _ ((w.alloc (.cells (hrs lvH).toArray 53)).alloc (.cells #[.string ⟨#[65]⟩, .slice (some ⟨w.heap.size, 0, none⟩) 2 2, .slice none 0 0] 25))
  generalize (w.alloc (.cells (hrs lvH).toArray 53)).alloc (.cells #[.string ⟨#[65]⟩, .slice (some ⟨w.heap.size, 0, none⟩) 2 2, .slice none 0 0] 25) = w1 at *
  generalize w.heap.size = gc at *
  have k0 := block_cell C0.out
  have HRW := hide (rewrite14_any 167772162 16909060 5060 7000 [] (.slice none 0 0) ⟨#[65]⟩ (.slice (some ⟨gc, 0, none⟩) 2 2) (.slice none 0 0) lvH [] w1 (hT.later l0) (hM.later l0) (by decide) (by decide) (cg_wf (by decide) (by decide) (by decide) (by decide) (fun m hm => by cases hm)) (.inl ⟨none, 0, rfl, rfl, by omega⟩) hH0'.out (.inl ⟨none, 0, rfl, rfl, by omega, fun _ => rfl⟩) (by decide) (by decide) (by decide +kernel))
  rw [lv_rw] at HRW
  have HBD := hide (fun W (l : Later w1 W) => build14_yes ⟨#[65]⟩ (.slice (some ⟨gc, 0, none⟩) 2 2) (.slice none 0 0) lvH [] W (hT.later (Later.trans l0 l)) (hH0'.out.later l) (.inl ⟨none, 0, rfl, rfl, by omega, fun _ => rfl⟩) (by decide +kernel) lv_rg)
  generalize rwZb (cgOf 167772162 16909060 5060 7000 []) ⟨#[65]⟩ lvH [] = rz at *
  go_wp2_with fail
  refine HRW.out.mono ?_
  rintro e w2 ⟨l2, vh, vb, rfl, hrow, hO⟩
  obtain ⟨va, vc, rfl⟩ := owns_form hrow
  obtain ⟨xa, xc, rfl, _, _⟩ := hO.slice
  clear k0
  have la := later_allocR w2 (.cells #[.string ⟨#[65]⟩, .slice va 2 vc, .slice xa rz.length xc] 25)
  have C1 := hide (heap_alloc_new w2 (.cells #[.string ⟨#[65]⟩, .slice va 2 vc, .slice xa rz.length xc] 25))
  have HR2 := hide ((ownM_rd hrow).later la)
  go_upto_region 3 with fail
  have K3 : Later w1 (w2.alloc (.cells #[.string ⟨#[65]⟩, .slice va 2 vc, .slice xa rz.length xc] 25)) := Later.trans l2 la
  change Code.wp _ _ _ _ (w2.alloc (.cells #[.string ⟨#[65]⟩, .slice va 2 vc, .slice xa rz.length xc] 25))
  generalize w2.alloc (.cells #[.string ⟨#[65]⟩, .slice va 2 vc, .slice xa rz.length xc] 25) = w3 at *
  have hgn : [((⟨#[86, 105, 97]⟩, lvW) : Hr), (clN, ⟨#[48]⟩)].length = 2 := rfl
  generalize w2.heap.size = gn at *
  have k1 := block_cell (later_keep K3 C0.out)
  go_wp2_with fail
  refine (HBD.out w3 K3).mono ?_
  rintro e w4 ⟨l4, v, rfl, hG⟩
  obtain ⟨g, c, e, hg⟩ := hG.form
  rw [lv_sz] at e
  subst e
  clear k1 hG HBD HRW
  have D1 := later_keep l4 C1.out
  have kN := block_cell D1
  obtain ⟨b, off, cp, e, _, _, hbn, hcs⟩ := (HR2.out.later l4).cells (by decide)
  obtain ⟨rfl, rfl⟩ : va = some ⟨b, off, none⟩ ∧ vc = cp := by injection e with h1 h2 h3; exact ⟨h1, h3⟩
  have d1 := hcs 0 (by decide) 1 (by decide)
  have d1' : w4.cell? ⟨b, off + 1, none⟩ = some (.string lvW) := by have := d1; rw [Nat.zero_mul, Nat.add_zero] at this; exact this
  unfold lvW at d1'
  clear hcs d1 e
  go_wp2_with fail
  go_ret
  exact ⟨rfl, Later.trans l0 (Later.trans K3 l4)⟩
end Go.Proofs.YtehdgndbloaljaaDoor

/- A text cut at the first of another: where it is. -/
namespace Go.Proofs.YtehdgndbloaljaaDoor
open Go.RowKit Go.Shelf
set_option maxRecDepth 100000
set_option linter.unusedVariables false
set_option linter.unusedSimpArgs false

theorem cut_uniq {s p a z : ByteArray} (h : s = a ++ (p ++ z)) (hn : Lib.NoOcc s.data.toList p.data.toList a.size) : cutF s p = true ∧ cutA s p = a ∧ cutZ s p = z := by
  have hl : s.data.toList = a.data.toList ++ (p.data.toList ++ z.data.toList) := by rw [h, ba_app, ba_app]
  have ho : Lib.occAt s.data.toList p.data.toList a.size = true := by
    unfold Lib.occAt
    rw [hl, ba_len, List.drop_left, List.isPrefixOf_iff_prefix]
    exact List.prefix_append _ _
  rcases cut_spec s p with ⟨hf, he, hn'⟩ | ⟨_, _, _, hno⟩
  · have ho' : Lib.occAt s.data.toList p.data.toList (cutA s p).size = true := by
      unfold Lib.occAt
      conv => lhs; arg 2; rw [he]
      rw [ba_len, List.drop_left, List.isPrefixOf_iff_prefix]
      exact List.prefix_append _ _
    have hsz : (cutA s p).size = a.size := by
      rcases Nat.lt_trichotomy (cutA s p).size a.size with h1 | h1 | h1
      · rw [hn _ h1] at ho'; cases ho'
      · exact h1
      · rw [hn' _ h1] at ho; cases ho
    rw [hl] at he
    obtain ⟨e1, e2⟩ := List.append_inj he (by rw [← ba_len, ← ba_len, hsz])
    have e3 := List.append_cancel_left e2
    exact ⟨hf, (ba_ext e1).symm, (ba_ext e3).symm⟩
  · have : a.size ≤ s.size := by rw [h, ByteArray.size_append]; omega
    rw [hno _ this] at ho
    cases ho
theorem noOcc1 {a r : List UInt8} {c : UInt8} (h : c ∉ a) : Lib.NoOcc (a ++ r) [c] a.length := fun j hj => by
  unfold Lib.occAt
  have : a[j] ≠ c := fun e => h (e ▸ List.getElem_mem hj)
  rw [List.drop_append_of_le_length (by omega), List.drop_eq_getElem_cons hj, List.cons_append]
  show ((c == a[j]) && _) = false
  rw [beq_false_of_ne (Ne.symm this)]
  rfl
theorem allB_nms (q : Int → Bool) (s : ByteArray) : allB q s = (nmsB s).all q := by
  rw [Bool.eq_iff_iff, List.all_eq_true]
  unfold allB
  rw [decide_eq_true_eq]
  constructor
  · intro h z hz
    obtain ⟨i, hi, rfl⟩ := List.getElem_of_mem hz
    have hi' : i < s.size := by rw [← nmsB_len]; exact hi
    have := h i hi'
    rw [nmsB_at s i hi', List.getElem?_eq_getElem hi] at this
    exact this
  · intro h j hj
    have hj' : j < (nmsB s).length := by rw [nmsB_len]; exact hj
    rw [nmsB_at s j hj, List.getElem?_eq_getElem hj']
    exact h _ (List.getElem_mem hj')
theorem noOccH {a r p : List UInt8} {c : UInt8} (h : c ∉ a) : Lib.NoOcc (a ++ r) (c :: p) a.length := fun j hj => by
  unfold Lib.occAt
  have : a[j] ≠ c := fun e => h (e ▸ List.getElem_mem hj)
  rw [List.drop_append_of_le_length (by omega), List.drop_eq_getElem_cons hj, List.cons_append]
  show ((c == a[j]) && _) = false
  rw [beq_false_of_ne (Ne.symm this)]
  rfl
theorem allB_not {q : Int → Bool} {s : ByteArray} (h : allB q s = true) (c : UInt8) (hc : q (c.toNat : Int) = false) : c ∉ s.data.toList := fun hm => by
  rw [allB_nms, List.all_eq_true] at h
  have := h (c.toNat : Int) (by unfold nmsB; exact List.mem_map.2 ⟨c, hm, rfl⟩)
  rw [hc] at this
  cases this
end Go.Proofs.YtehdgndbloaljaaDoor

/- Package sip: a message's bytes taken apart: mathematics. -/
namespace Go.Proofs.YtehdgndbloaljaaDoor
open Go.RowKit Go.Shelf
set_option maxRecDepth 100000
set_option linter.unusedVariables false
set_option linter.unusedSimpArgs false

/-- What stands behind so many lines. -/
def itZ : Nat → ByteArray → ByteArray
  | 0, t => t
  | k + 1, t => itZ k (cutZ t crB)
theorem itZ_succ (k : Nat) : ∀ t : ByteArray, itZ (k + 1) t = cutZ (itZ k t) crB := by
  induction k with
  | zero => intro t; rfl
  | succ k ih => intro t; exact ih (cutZ t crB)
/-- How many bytes lines have. -/
def tkn (l : List (ByteArray × ByteArray)) : Nat := (l.map fun x => x.1.size + x.2.size).sum
theorem tkn_snoc (l : List (ByteArray × ByteArray)) (x : ByteArray × ByteArray) : tkn (l ++ [x]) = tkn l + (x.1.size + x.2.size) := by unfold tkn; simp
theorem betw_yes {s p : ByteArray} (h : cutF s p = true) : betw s p = p := by
  rcases cut_spec s p with ⟨_, he, _⟩ | ⟨hf, _⟩
  · have hl := congrArg List.length he
    rw [List.length_append, List.length_append, ← ba_len, ← ba_len, ← ba_len, ← ba_len] at hl
    apply ba_ext
    unfold betw
    rw [ba_ext_list, he]
    have e1 : s.size - (cutZ s p).size = (cutA s p).size + p.size := by omega
    rw [e1, ← List.append_assoc, List.take_left' (by rw [List.length_append, ← ba_len, ← ba_len]), List.drop_left' (by rw [← ba_len])]
  · rw [h] at hf; cases hf
theorem betw_no {s p : ByteArray} (h : cutF s p = false) : betw s p = ⟨#[]⟩ := by
  rcases cut_spec s p with ⟨hf, _⟩ | ⟨_, ha, hz, _⟩
  · rw [h] at hf; cases hf
  · apply ba_ext
    unfold betw
    rw [ba_ext_list, ha, hz]
    rw [List.drop_eq_nil_of_le]
    rw [List.length_take]
    have : ByteArray.size ⟨#[]⟩ = 0 := rfl
    omega
theorem cut_all (s p : ByteArray) : s.data.toList = (cutA s p).data.toList ++ ((betw s p).data.toList ++ (cutZ s p).data.toList) := by
  rcases cut_spec s p with ⟨hf, he, _⟩ | ⟨hf, ha, hz, _⟩
  · rw [betw_yes hf]; exact he
  · rw [betw_no hf, ha, hz]; simp
theorem cut_yes {s p : ByteArray} (h : cutF s p = true) : s = cutA s p ++ (p ++ cutZ s p) := by
  apply ba_ext
  rw [ba_app, ba_app]
  have := cut_all s p
  rwa [betw_yes h] at this
theorem cut_no {s p : ByteArray} (h : cutF s p = false) : cutA s p = s ∧ cutZ s p = ⟨#[]⟩ := by
  rcases cut_spec s p with ⟨hf, _⟩ | ⟨_, ha, hz, _⟩
  · rw [h] at hf; cases hf
  · exact ⟨ha, hz⟩
theorem lns_at : ∀ (pre : List (ByteArray × ByteArray)) (x : ByteArray × ByteArray) (ls : List (ByteArray × ByteArray)) (rest : ByteArray), lnsB rest = pre ++ x :: ls → (itZ pre.length rest).size ≠ 0 ∧ x = (cutA (itZ pre.length rest) crB, betw (itZ pre.length rest) crB) ∧ ls = lnsB (cutZ (itZ pre.length rest) crB)
  | [], x, ls, rest, h => by
    have hz : rest.size ≠ 0 := fun hz => by rw [lnsB_nil hz] at h; cases h
    rw [lnsB_cons hz] at h
    simp only [List.nil_append, List.cons.injEq] at h
    exact ⟨hz, h.1.symm, h.2.symm⟩
  | y :: pre, x, ls, rest, h => by
    have hz : rest.size ≠ 0 := fun hz => by rw [lnsB_nil hz] at h; cases h
    rw [lnsB_cons hz] at h
    simp only [List.cons_append, List.cons.injEq] at h
    exact lns_at pre x ls (cutZ rest crB) h.2
theorem lns_end : ∀ (pre : List (ByteArray × ByteArray)) (rest : ByteArray), lnsB rest = pre → (itZ pre.length rest).size = 0
  | [], rest, h => by
    by_cases hz : rest.size = 0
    · exact hz
    · rw [lnsB_cons hz] at h; cases h
  | y :: pre, rest, h => by
    have hz : rest.size ≠ 0 := fun hz => by rw [lnsB_nil hz] at h; cases h
    rw [lnsB_cons hz] at h
    simp only [List.cons.injEq] at h
    exact lns_end pre (cutZ rest crB) h.2
theorem lns_tail : ∀ (pre ls : List (ByteArray × ByteArray)) (rest : ByteArray), lnsB rest = pre ++ ls → rest.data.toList.drop (tkn pre) = (itZ pre.length rest).data.toList ∧ tkn pre + (itZ pre.length rest).size = rest.size
  | [], ls, rest, h => ⟨rfl, by show 0 + rest.size = _; omega⟩
  | y :: pre, ls, rest, h => by
    have hz : rest.size ≠ 0 := fun hz => by rw [lnsB_nil hz] at h; cases h
    rw [lnsB_cons hz] at h
    simp only [List.cons_append, List.cons.injEq] at h
    obtain ⟨h1, h2⟩ := lns_tail pre ls (cutZ rest crB) h.2
    have hc := cut_all rest crB
    have hl := congrArg List.length hc
    rw [List.length_append, List.length_append, ← ba_len, ← ba_len, ← ba_len, ← ba_len] at hl
    have e : tkn (y :: pre) = ((cutA rest crB).size + (betw rest crB).size) + tkn pre := by rw [← h.1]; rfl
    rw [e]
    refine ⟨?_, ?_⟩
    · rw [← List.drop_drop, hc, ← List.append_assoc, List.drop_left' (by rw [List.length_append, ← ba_len, ← ba_len])]
      exact h1
    · show _ + (itZ pre.length (cutZ rest crB)).size = _
      omega
/-- What is left of a text behind lines. -/
theorem lns_left (pre ls : List (ByteArray × ByteArray)) (rest : ByteArray) (h : lnsB rest = pre ++ ls) : rest.extract (tkn pre) rest.size = itZ pre.length rest := by
  apply ba_ext
  rw [ba_ext_list, ba_len rest, List.take_length]
  exact (lns_tail pre ls rest h).1

/-- A header's line, taken apart. -/
def hdO (l : ByteArray) : Hr := (cutA l nmE, cutZ l nmE)
/-- Headers and body of a text. -/
def spF : Nat → ByteArray → Option (List Hr × ByteArray)
  | 0, _ => none
  | n + 1, t => if t.size = 0 then none else if (cutA t crB).size = 0 then some ([], cutZ t crB) else if cutF (cutA t crB) nmE = false then none else (spF n (cutZ t crB)).map fun r => (hdO (cutA t crB) :: r.1, r.2)
def spT (t : ByteArray) : Option (List Hr × ByteArray) := spF t.size t
theorem spF_fuel : ∀ (n m : Nat) (s : ByteArray), s.size ≤ n → s.size ≤ m → spF n s = spF m s
  | 0, 0, s, _, _ => rfl
  | 0, m + 1, s, h, _ => by unfold spF; rw [if_pos (by omega)]
  | n + 1, 0, s, _, h => by unfold spF; rw [if_pos (by omega)]
  | n + 1, m + 1, s, h1, h2 => by
    unfold spF
    split
    · rfl
    · have := (cut_sizes s crB).2 (by assumption) (by decide)
      rw [spF_fuel n m (cutZ s crB) (by omega) (by omega)]
theorem spT_nil {s : ByteArray} (h : s.size = 0) : spT s = none := by unfold spT; rw [h]; rfl
theorem spT_cons {t : ByteArray} (h : t.size ≠ 0) : spT t = if (cutA t crB).size = 0 then some ([], cutZ t crB) else if cutF (cutA t crB) nmE = false then none else (spT (cutZ t crB)).map fun r => (hdO (cutA t crB) :: r.1, r.2) := by
  have hz := (cut_sizes t crB).2 h (by decide)
  have e : spT t = spF (t.size - 1 + 1) t := by unfold spT; congr 1; omega
  rw [e]
  show (if t.size = 0 then none else _) = _
  rw [if_neg h]
  rw [spF_fuel (t.size - 1) (cutZ t crB).size (cutZ t crB) (by omega) (Nat.le_refl _)]
  rfl
theorem spT_noend {t : ByteArray} (h : cutF t crB = false) : spT t = none := by
  by_cases hz : t.size = 0
  · exact spT_nil hz
  · obtain ⟨ha, hb⟩ := cut_no h
    rw [spT_cons hz, ha, if_neg hz]
    split
    · rfl
    · rw [hb, spT_nil (s := ⟨#[]⟩) rfl]; rfl
/-- Headers that were taken already. -/
def ppd (hs : List Hr) (r : Option (List Hr × ByteArray)) : Option (List Hr × ByteArray) := r.map fun r => (hs ++ r.1, r.2)
theorem ppd_nil (r : Option (List Hr × ByteArray)) : ppd [] r = r := by cases r <;> rfl
theorem ppd_one {t : ByteArray} (hs : List Hr) (h : t.size ≠ 0) (h1 : (cutA t crB).size ≠ 0) (h2 : cutF (cutA t crB) nmE = true) : ppd hs (spT t) = ppd (hs ++ [hdO (cutA t crB)]) (spT (cutZ t crB)) := by
  rw [spT_cons h, if_neg h1, if_neg (by rw [h2]; simp)]
  unfold ppd
  cases spT (cutZ t crB) <;> simp
theorem ppd_bad {t : ByteArray} (hs : List Hr) (h : t.size ≠ 0) (h1 : (cutA t crB).size ≠ 0) (h2 : cutF (cutA t crB) nmE = false) : ppd hs (spT t) = none := by
  rw [spT_cons h, if_neg h1, if_pos h2]
  rfl
theorem ppd_end {t : ByteArray} (hs : List Hr) (h : t.size ≠ 0) (h1 : (cutA t crB).size = 0) : ppd hs (spT t) = some (hs, cutZ t crB) := by
  rw [spT_cons h, if_pos h1]
  unfold ppd
  simp
/-- A message of bytes. -/
def prM (s : ByteArray) : Option (ByteArray × List Hr × ByteArray) := (spT (cutZ s crB)).map fun r => (cutA s crB, r.1, r.2)
theorem sp_join : ∀ (n : Nat) (t : ByteArray) (hs : List Hr) (b : ByteArray), spF n t = some (hs, b) → nmsB t = hdL hs ++ nmsB crB ++ nmsB b
  | 0, t, hs, b, h => by cases h
  | n + 1, t, hs, b, h => by
    unfold spF at h
    split at h
    · cases h
    rename_i hz
    split at h
    · rename_i ha
      cases h
      cases hf : cutF t crB with
      | false => rw [(cut_no hf).1] at ha; exact absurd ha hz
      | true =>
        have := cut_yes hf
        rw [str_empty _ ha, bnil_app] at this
        conv => lhs; rw [this]
        rw [nmsB_app]
        rfl
    split at h
    · cases h
    rename_i ha hm
    have hm' : cutF (cutA t crB) nmE = true := by simpa using hm
    cases hr : spF n (cutZ t crB) with
    | none => rw [hr] at h; cases h
    | some r =>
      rw [hr] at h
      cases h
      have ih := sp_join n (cutZ t crB) r.1 r.2 hr
      have hf : cutF t crB = true := by
        cases hf : cutF t crB with
        | true => rfl
        | false =>
          rw [(cut_no hf).2] at hr
          cases n with
          | zero => cases hr
          | succ n => unfold spF at hr; cases hr
      have h1 := cut_yes hf
      have h2 := cut_yes hm'
      conv => lhs; rw [h1]
      rw [nmsB_app, nmsB_app, ih]
      have e : hdL (hdO (cutA t crB) :: r.1) = nmsB (cutA t crB) ++ nmsB crB ++ hdL r.1 := by
        show nmsB (hdB (hdO (cutA t crB))) ++ hdL r.1 = _
        congr 1
        conv => rhs; rw [h2]
        unfold hdB hdO
        rw [nmsB_app, nmsB_app, nmsB_app, nmsB_app, nmsB_app]
        simp only [List.append_assoc]
      rw [e]
      simp only [List.append_assoc]
/-- What was taken apart, put together. -/
theorem pr_join {s st : ByteArray} {hs : List Hr} {b : ByteArray} (h : prM s = some (st, hs, b)) : txM st hs (nmsB b) = nmsB s := by
  unfold prM at h
  cases hr : spT (cutZ s crB) with
  | none => rw [hr] at h; cases h
  | some r =>
    rw [hr] at h
    cases h
    have hj := sp_join _ _ r.1 r.2 hr
    have hf : cutF s crB = true := by
      cases hf : cutF s crB with
      | true => rfl
      | false => rw [(cut_no hf).2, spT_nil (s := ⟨#[]⟩) rfl] at hr; cases hr
    have h1 := cut_yes hf
    conv => rhs; rw [h1]
    unfold txM
    rw [nmsB_app, nmsB_app, nmsB_app, hj]
    simp only [List.append_assoc]
/-- Headers and body as a text. -/
def tlB : List Hr → ByteArray → ByteArray
  | [], b => crB ++ b
  | h :: hs, b => (h.1 ++ (nmE ++ h.2)) ++ (crB ++ tlB hs b)
def txB (st : ByteArray) (hs : List Hr) (b : ByteArray) : ByteArray := st ++ (crB ++ tlB hs b)
theorem tlB_nms : ∀ (hs : List Hr) (b : ByteArray), nmsB (tlB hs b) = hdL hs ++ nmsB crB ++ nmsB b
  | [], b => by show nmsB (crB ++ b) = _; rw [nmsB_app]; rfl
  | h :: hs, b => by
    show nmsB ((h.1 ++ (nmE ++ h.2)) ++ (crB ++ tlB hs b)) = _
    rw [nmsB_app, nmsB_app, nmsB_app, nmsB_app, tlB_nms hs b]
    have e : hdL (h :: hs) = nmsB (hdB h) ++ hdL hs := rfl
    rw [e]
    unfold hdB
    rw [nmsB_app, nmsB_app, nmsB_app]
    simp only [List.append_assoc]
theorem txB_nms (st : ByteArray) (hs : List Hr) (b : ByteArray) : nmsB (txB st hs b) = txM st hs (nmsB b) := by
  unfold txB txM
  rw [nmsB_app, nmsB_app, nmsB_app, tlB_nms]
  simp only [List.append_assoc]
/-- No end of a line in it. -/
def Pl (s : ByteArray) : Prop := (13 : UInt8) ∉ s.data.toList
theorem cut_line {a z : ByteArray} (h : Pl a) : cutF (a ++ (crB ++ z)) crB = true ∧ cutA (a ++ (crB ++ z)) crB = a ∧ cutZ (a ++ (crB ++ z)) crB = z :=
  cut_uniq rfl (by rw [ba_app, ba_len]; exact noOccH h)
theorem cut_head {a z : ByteArray} (h : (58 : UInt8) ∉ a.data.toList) : cutF (a ++ (nmE ++ z)) nmE = true ∧ cutA (a ++ (nmE ++ z)) nmE = a ∧ cutZ (a ++ (nmE ++ z)) nmE = z :=
  cut_uniq rfl (by rw [ba_app, ba_len]; exact noOccH h)
theorem sp_build : ∀ (hs : List Hr) (b : ByteArray), (∀ h ∈ hs, Pl h.1 ∧ Pl h.2 ∧ (58 : UInt8) ∉ h.1.data.toList) → spT (tlB hs b) = some (hs, b)
  | [], b, _ => by
    have e : tlB [] b = ⟨#[]⟩ ++ (crB ++ b) := (bnil_app _).symm
    obtain ⟨h1, h2, h3⟩ := cut_line (a := ⟨#[]⟩) (z := b) (by unfold Pl; simp)
    rw [e, spT_cons (by rw [ByteArray.size_append, ByteArray.size_append]; have : crB.size = 2 := rfl; omega), h2, h3, if_pos (show ByteArray.size ⟨#[]⟩ = 0 from rfl)]
  | h :: hs, b, hh => by
    obtain ⟨p1, p2, p3⟩ := hh h (List.mem_cons_self ..)
    have ih := sp_build hs b (fun x hx => hh x (List.mem_cons_of_mem _ hx))
    have hp : Pl (h.1 ++ (nmE ++ h.2)) := by
      unfold Pl at *
      rw [ba_app, ba_app]
      intro hm
      rcases List.mem_append.1 hm with q | q
      · exact p1 q
      · rcases List.mem_append.1 q with q | q
        · exact absurd q (by decide)
        · exact p2 q
    obtain ⟨h1, h2, h3⟩ := cut_line (z := tlB hs b) hp
    obtain ⟨g1, g2, g3⟩ := cut_head (z := h.2) p3
    have hs2 : nmE.size = 2 := rfl
    have hc2 : crB.size = 2 := rfl
    show spT ((h.1 ++ (nmE ++ h.2)) ++ (crB ++ tlB hs b)) = _
    rw [spT_cons (by rw [ByteArray.size_append, ByteArray.size_append, ByteArray.size_append]; omega), h2, h3, if_neg (by rw [ByteArray.size_append, ByteArray.size_append]; omega), if_neg (by rw [g1]; simp), ih]
    show some (hdO (h.1 ++ (nmE ++ h.2)) :: hs, b) = _
    unfold hdO
    rw [g2, g3]
theorem okh_pl {n : Nat} {h : Hr} (ho : okh n h = true) : Pl h.1 ∧ Pl h.2 ∧ (58 : UInt8) ∉ h.1.data.toList := by
  unfold okh allN vlB at ho
  simp only [Bool.and_eq_true] at ho
  obtain ⟨⟨h1, _⟩, ⟨h2, _⟩, _⟩ := ho
  exact ⟨allB_not h1 13 (by decide +kernel), allB_not h2 13 (by decide +kernel), allB_not h1 58 (by decide +kernel)⟩
/-- What was put together, taken apart. -/
theorem pr_build {st : ByteArray} {hs : List Hr} {b : ByteArray} (h : rgB st hs b.size = true) : prM (txB st hs b) = some (st, hs, b) := by
  unfold rgB rhB at h
  simp only [Bool.and_eq_true, List.all_eq_true] at h
  obtain ⟨h1, _, ⟨_, h2, _⟩, _⟩ := h
  obtain ⟨c1, c2, c3⟩ := cut_line (a := st) (z := tlB hs b) (allB_not h1 13 (by decide +kernel))
  unfold prM txB
  rw [c2, c3, sp_build hs b (fun x hx => okh_pl (h2 x hx))]
  rfl
theorem str_nms (s : ByteArray) : strOfNums (nmsB s) = s := by
  apply ba_ext
  have h1 := nmsB_str (nmsB s) (nmsB_by s)
  unfold nmsB at h1
  refine List.map_inj_right (f := fun b : UInt8 => (b.toNat : Int)) (fun a b h => ?_) |>.1 h1
  have h' : (a.toNat : Int) = (b.toNat : Int) := h
  exact UInt8.toNat_inj.1 (by omega)
theorem pr_size {s st : ByteArray} {hs : List Hr} {b : ByteArray} (h : prM s = some (st, hs, b)) : szM st hs b.size = s.size := by
  have := congrArg List.length (pr_join h)
  rwa [txM_len, nmsB_len, nmsB_len] at this

/-- What Parse tells: the error, and the message. -/
def paO (zb : List Int) : Option (ByteArray × List Hr × ByteArray) := match prM (strOfNums zb) with
  | none => none
  | some (st, hs, b) => if rgB st hs b.size = true then some (st, hs, b) else none
def paE (zb : List Int) : Int := if 4096 < zb.length then 8 else if (paO zb).isSome = true then 0 else 4
def paM (zb : List Int) : ByteArray × List Hr × ByteArray := if 4096 < zb.length then (⟨#[]⟩, [], ⟨#[]⟩) else (paO zb).getD (⟨#[]⟩, [], ⟨#[]⟩)
theorem paM_long {zb : List Int} (h : 4096 < zb.length) : paE zb = 8 ∧ paM zb = (⟨#[]⟩, [], ⟨#[]⟩) := by unfold paE paM; rw [if_pos h, if_pos h]; exact ⟨rfl, rfl⟩
theorem paM_none {zb : List Int} (h : ¬ 4096 < zb.length) (hp : paO zb = none) : paE zb = 4 ∧ paM zb = (⟨#[]⟩, [], ⟨#[]⟩) := by unfold paE paM; rw [if_neg h, if_neg h, hp]; exact ⟨rfl, rfl⟩
theorem paM_some {zb : List Int} (h : ¬ 4096 < zb.length) {st : ByteArray} {hs : List Hr} {b : ByteArray} (hp : paO zb = some (st, hs, b)) : paE zb = 0 ∧ paM zb = (st, hs, b) := by unfold paE paM; rw [if_neg h, if_neg h, hp]; exact ⟨rfl, rfl⟩
theorem paO_none {zb : List Int} (h : prM (strOfNums zb) = none) : paO zb = none := by unfold paO; rw [h]
theorem paO_wrong {zb : List Int} {st : ByteArray} {hs : List Hr} {b : ByteArray} (h : prM (strOfNums zb) = some (st, hs, b)) (hr : rgB st hs b.size = false) : paO zb = none := by unfold paO; rw [h]; simp [hr]
theorem paO_right {zb : List Int} {st : ByteArray} {hs : List Hr} {b : ByteArray} (h : prM (strOfNums zb) = some (st, hs, b)) (hr : rgB st hs b.size = true) : paO zb = some (st, hs, b) := by unfold paO; rw [h]; simp [hr]
theorem paE_iff (zb : List Int) : paE zb = 0 ↔ ¬ 4096 < zb.length ∧ ∃ m, paO zb = some m := by
  unfold paE
  by_cases h : 4096 < zb.length
  · rw [if_pos h]; simp [h]
  · rw [if_neg h]
    cases hp : paO zb with
    | none => simp
    | some m => simp [h]
/-- Parse of Build. -/
theorem pa_build {st : ByteArray} {hs : List Hr} {zb : List Int} (hy : Mt.By zb) (h : rgB st hs zb.length = true) : paE (txM st hs zb) = 0 ∧ paM (txM st hs zb) = (st, hs, strOfNums zb) := by
  have hsz := rgB_sz h
  have e1 : nmsB (strOfNums zb) = zb := nmsB_str zb hy
  have e2 : (strOfNums zb).size = zb.length := strOfNums_size zb
  have h' : rgB st hs (strOfNums zb).size = true := by rw [e2]; exact h
  have e3 : strOfNums (txM st hs zb) = txB st hs (strOfNums zb) := by
    rw [← str_nms (txB st hs (strOfNums zb)), txB_nms, e1]
  refine paM_some (by rw [txM_len]; omega) (paO_right ?_ h')
  rw [e3, pr_build h']
/-- Build of Parse. -/
theorem build_pa {zb : List Int} (hy : Mt.By zb) (h : paE zb = 0) : rgB (paM zb).1 (paM zb).2.1 (paM zb).2.2.size = true ∧ txM (paM zb).1 (paM zb).2.1 (nmsB (paM zb).2.2) = zb := by
  obtain ⟨hl, m, hm⟩ := (paE_iff zb).1 h
  obtain ⟨st, hs, b⟩ := m
  rw [(paM_some hl hm).2]
  unfold paO at hm
  cases hp : prM (strOfNums zb) with
  | none => rw [hp] at hm; cases hm
  | some r =>
    obtain ⟨st', hs', b'⟩ := r
    rw [hp] at hm
    simp only at hm
    split at hm
    · rename_i hr
      cases hm
      refine ⟨hr, ?_⟩
      have := pr_join hp
      rwa [nmsB_str zb hy] at this
    · cases hm
end Go.Proofs.YtehdgndbloaljaaDoor

/- Package sip: split. -/
namespace Go.Proofs.YtehdgndbloaljaaDoor
open Go.RowKit Go.Shelf
set_option maxRecDepth 100000
attribute [local go_sem] Oper.semAt_some
set_option linter.unusedVariables false
set_option linter.unusedSimpArgs false

theorem OwG.ct {base : Nat} {A B : World} {v : Value} {ys : List Int} (h : OwG base A v ys) (k : CTs A B) : OwG base B v ys := let ⟨g, cap, cur, fz, e, hb, hh, r⟩ := h; ⟨g, cap, cur, fz, e, hb, k.2 _ _ hh rfl, r⟩
theorem OwG.mono {base base' : Nat} {A : World} {v : Value} {ys : List Int} (h : OwG base A v ys) (k : base' ≤ base) : OwG base' A v ys := let ⟨g, cap, cur, fz, e, hb, r⟩ := h; ⟨g, cap, cur, fz, e, Nat.le_trans k hb, r⟩

theorem own_butT {base : Nat} {E : Nat → Prop} {W W' : World} {e : TypeId} {size : Nat} {v : Value} {n : Nat} {xs : List Value} (h : W.ownsRow base e size v n xs) (hb : But E W W') (hE : ∀ g cur fz, W.heap[g]? = some (.cells cur e fz) → ¬ E g) : W'.ownsRow base e size v n xs := by
  obtain ⟨h1, h2 | ⟨g', cap, cur', hv, hg', hh, r⟩⟩ := h
  · exact ⟨h1, .inl h2⟩
  · exact ⟨h1, .inr ⟨g', cap, cur', hv, hg', (hb.block g' (Array.getElem?_eq_some_iff.1 hh).1 (hE g' cur' _ hh)).trans hh, r⟩⟩
/-- What split keeps while it goes along the lines. -/
def PS14 (g gx base : Nat) (st rest : ByteArray) (pre : List (ByteArray × ByteArray)) (W : World) : Prop :=
  W.heap[g]? = some (.cells #[.string ⟨#[]⟩, .slice none 0 0, .slice none 0 0] 25 (0, 0)) ∧ W.heap[g + 1]? = some (.cells #[.bool false] 4 (0, 0)) ∧ W.heap[gx]? = some (.cells #[.string rest] 9 (0, 0)) ∧
  (∃ vh hs, W.heap[gx + 1]? = some (.cells #[.string st, vh, .slice none 0 0] 25 (0, 0)) ∧ W.ownsRow base 53 2 vh hs.length (hrs hs) ∧ hs.length = pre.length ∧ Hid (spT rest = ppd hs (spT (itZ pre.length rest)))) ∧
  W.heap[gx + 1 + 1]? = some (.cells #[.int .i64 (tkn pre : Nat)] 3 (0, 0))
theorem PS14.ct {g gx base : Nat} {st rest : ByteArray} {pre : List (ByteArray × ByteArray)} {A B : World} (h : PS14 g gx base st rest pre A) (k : CTs A B) : PS14 g gx base st rest pre B := by
  obtain ⟨h1, h2, h3, ⟨vh, hs, h4, h5, h6⟩, h7⟩ := h
  exact ⟨k.2 _ _ h1 rfl, k.2 _ _ h2 rfl, k.2 _ _ h3 rfl, ⟨vh, hs, k.2 _ _ h4 rfl, ownsS_ct h5 k, h6⟩, k.2 _ _ h7 rfl⟩
/-- What it leaves. -/
def RS14 (g base : Nat) (st rest : ByteArray) (W : World) : Prop :=
  (∃ vh vb hs b, W.heap[g]? = some (.cells #[.string st, vh, vb] 25 (0, 0)) ∧ W.heap[g + 1]? = some (.cells #[.bool true] 4 (0, 0)) ∧ Hid (spT rest = some (hs, b)) ∧ W.ownsRow base 53 2 vh hs.length (hrs hs) ∧ OwG base W vb (nmsB b)) ∨
  (W.heap[g]? = some (.cells #[.string ⟨#[]⟩, .slice none 0 0, .slice none 0 0] 25 (0, 0)) ∧ W.heap[g + 1]? = some (.cells #[.bool false] 4 (0, 0)) ∧ Hid (spT rest = none))
theorem RS14.ct {g base : Nat} {st rest : ByteArray} {A B : World} (h : RS14 g base st rest A) (k : CTs A B) : RS14 g base st rest B := by
  rcases h with ⟨vh, vb, hs, b, h1, h2, h3, h4, h5⟩ | ⟨h1, h2, h3⟩
  · exact .inl ⟨vh, vb, hs, b, k.2 _ _ h1 rfl, k.2 _ _ h2 rfl, h3, ownsS_ct h4 k, h5.ct k⟩
  · exact .inr ⟨k.2 _ _ h1 rfl, k.2 _ _ h2 rfl, h3⟩
theorem keepNe {W : World} {i j n : Nat} {o : Obj} {cur : Array Value} {t : TypeId} {f : Nat × Nat} (h : W.heap[i]? = some o) (hc : o.isCells = false ∨ i < n) (hj : W.heap[j]? = some (.cells cur t f)) (hn : n ≤ j) : i ≠ j := fun e => by
  subst e
  rw [h] at hj
  cases hj
  rcases hc with h | h
  · cases h
  · omega
theorem OwG.butT {base : Nat} {E : Nat → Prop} {W W' : World} {v : Value} {ys : List Int} (h : OwG base W v ys) (hb : But E W W') (hE : ∀ g cur fz, W.heap[g]? = some (.cells cur 5 fz) → ¬ E g) : OwG base W' v ys := by
  obtain ⟨g, cap, cur, fz, e, hbg, hh, r⟩ := h
  exact ⟨g, cap, cur, fz, e, hbg, (hb.block g (Array.getElem?_eq_some_iff.1 hh).1 (hE g cur fz hh)).trans hh, r⟩
theorem OwG.setT {base : Nat} {W : World} {v : Value} {ys : List Int} (h : OwG base W v ys) {g : Nat} {cur : Array Value} {t : TypeId} (hg : W.heap[g]? = some (.cells cur t (0, 0))) (ht : t ≠ 5) (j : Nat) (u : Value) : OwG base (W.setCell ⟨g, j, none⟩ u) v ys := by
  obtain ⟨g', cap, cur', fz, e, hbg, hh, r⟩ := h
  exact ⟨g', cap, cur', fz, e, hbg, hsetS_ne hh (fun e => by subst e; rw [hg] at hh; cases hh; exact ht rfl), r⟩
/-- The results stored: three cells of a message, and a bool. -/
theorem res14 {W : World} {g n : Nat} {c0 c1 : Array Value} (h0 : W.heap[g]? = some (.cells c0 25 (0, 0))) (hc0 : c0.size = 3) (h1 : W.heap[g + 1]? = some (.cells c1 4 (0, 0))) (hc1 : c1.size = 1) (a b c d : Value) (hn : n ≤ g) (hnW : n ≤ W.heap.size) :
    ((((W.setCell ⟨g, 0, none⟩ a).setCell ⟨g, 1, none⟩ b).setCell ⟨g, 2, none⟩ c).setCell ⟨g + 1, 0, none⟩ d).heap[g]? = some (.cells #[a, b, c] 25 (0, 0)) ∧
    ((((W.setCell ⟨g, 0, none⟩ a).setCell ⟨g, 1, none⟩ b).setCell ⟨g, 2, none⟩ c).setCell ⟨g + 1, 0, none⟩ d).heap[g + 1]? = some (.cells #[d] 4 (0, 0)) ∧
    Below n W ((((W.setCell ⟨g, 0, none⟩ a).setCell ⟨g, 1, none⟩ b).setCell ⟨g, 2, none⟩ c).setCell ⟨g + 1, 0, none⟩ d) ∧
    But (fun b => b = g ∨ b = g + 1) W ((((W.setCell ⟨g, 0, none⟩ a).setCell ⟨g, 1, none⟩ b).setCell ⟨g, 2, none⟩ c).setCell ⟨g + 1, 0, none⟩ d) := by
  have e1 : (((W.setCell ⟨g, 0, none⟩ a).setCell ⟨g, 1, none⟩ b).setCell ⟨g, 2, none⟩ c) = putRow W g 0 [a, b, c] := rfl
  have hb1 : But (fun b => b = g ∨ b = g + 1) W (putRow W g 0 [a, b, c]) := putRow_but (E := fun b => b = g ∨ b = g + 1) (n := g) (.inl rfl) _ _ _ _ (But.refl _ _)
  have p1 := putRow_all [a, b, c] h0 (by rw [hc0]; rfl)
  have hb1' : But (fun b => b = g) W (putRow W g 0 [a, b, c]) := putRow_but (E := fun b => b = g) (n := g) rfl _ _ _ _ (But.refl _ _)
  have p2 := (hb1'.block (g + 1) (Array.getElem?_eq_some_iff.1 h1).1 (by omega)).trans h1
  rw [e1]
  generalize putRow W g 0 [a, b, c] = V at *
  have e2 : V.setCell ⟨g + 1, 0, none⟩ d = putRow V (g + 1) 0 [d] := rfl
  have hb2 : But (fun b => b = g ∨ b = g + 1) W (putRow V (g + 1) 0 [d]) := putRow_but (E := fun b => b = g ∨ b = g + 1) (n := g + 1) (.inr rfl) _ _ _ _ hb1
  have p3 := putRow_all [d] p2 (by rw [hc1]; rfl)
  rw [e2]
  refine ⟨?_, p3, hb2.below hnW (fun k hk e => by omega), hb2⟩
  rw [← e2]
  exact hsetS_ne p1 (by omega)
/-- What split tells. -/
def SpQ (o : Option (ByteArray × List Hr × ByteArray)) (base : Nat) (W : World) (v : Value) : Prop :=
  (∃ st vh vb hs b, o = some (st, hs, b) ∧ v = .tuple #[.agg #[.string st, vh, vb], .bool true] ∧ W.ownsRow base 53 2 vh hs.length (hrs hs) ∧ OwG base W vb (nmsB b)) ∨
  (o = none ∧ v = .tuple #[.agg #[.string ⟨#[]⟩, .slice none 0 0, .slice none 0 0], .bool false])

set_option maxRecDepth 100000 in
set_option maxHeartbeats 8000000 in
theorem split_any (s : ByteArray) (w : World) (hM : TabM w) (hs : s.size ≤ 4096) :
    Calls Tryd.prog 20 #[.string s] w fun e w' => Later w w' ∧ ∃ v, e = .returned v ∧ SpQ (prM s) w.heap.size w' v := by
  have HP : Hid (prM s = (spT (cutZ s crB)).map fun r => (cutA s crB, r.1, r.2)) := rfl
  generalize prM s = pm at *
  have hcs := (cut_sizes s crB).1
  have HC := hide (fun W (h : TabM W) => cut_any s crB W h (by omega))
  generalize cutA s crB = st at *
  generalize cutZ s crB = rest at *
  generalize cutF s crB = cf at *
  have hb0 : Later w ((w.alloc (.cells #[.string ⟨#[]⟩, .slice none 0 0, .slice none 0 0] 25)).alloc (.cells #[.bool false] 4)) := ((Below.refl _ _).alloc (Nat.le_refl _) _).alloc (by simp) _
  have C0 : Hid (((w.alloc (.cells #[.string ⟨#[]⟩, .slice none 0 0, .slice none 0 0] 25)).alloc (.cells #[.bool false] 4)).heap[w.heap.size]? = some (.cells #[.string ⟨#[]⟩, .slice none 0 0, .slice none 0 0] 25)) := (Below.heap_alloc _ _ _ (by simp)).trans (heap_alloc_new w _)
  have C1 : Hid (((w.alloc (.cells #[.string ⟨#[]⟩, .slice none 0 0, .slice none 0 0] 25)).alloc (.cells #[.bool false] 4)).heap[w.heap.size + 1]? = some (.cells #[.bool false] 4)) := by
    have := heap_alloc_new (w.alloc (.cells #[.string ⟨#[]⟩, .slice none 0 0, .slice none 0 0] 25)) (.cells #[.bool false] 4)
    rw [World.size_alloc] at this
    exact this
  refine (callsIn_wide (n := 5)).1 ?_
  refine callsIn_of_wp_marks Tryd.func20 rfl trivial ?_ rfl
  simp only [Tryd.ntmps20, List.size_toArray, List.length_cons, List.length_nil, Nat.reduceAdd, Nat.reduceSub, Array.replicate_succ, Array.replicate_zero, List.push_toArray, List.append_toArray, List.nil_append, List.cons_append]
  gi_upto_region 1 with fail
  generalize (w.alloc (.cells #[.string ⟨#[]⟩, .slice none 0 0, .slice none 0 0] 25)).alloc (.cells #[.bool false] 4) = wa at *
  gi_wp2
  refine ⟨trivial, ?_⟩
  refine (callsIn_wide.2 (HC.out wa (hM.later hb0))).mono ?_
  rintro e w1 ⟨rfl, l1⟩
  have lw1 : Later w w1 := Later.trans hb0 l1
  have hsz1 := lw1.size
  have D0 := hide (later_keep l1 C0.out)
  have D1 := hide (later_keep l1 C1.out)
  have hgb : w.heap.size + 1 < w1.heap.size := (Array.getElem?_eq_some_iff.1 D1.out).1
  clear C0 C1 HC
  have hb4 : Later w1 ((((w1.alloc (.cells #[.string rest] 9)).alloc (.cells #[.string st, .slice none 0 0, .slice none 0 0] 25)).alloc (.cells #[.int .i64 0] 3)).alloc (.cells #[.string rest] 9)) := ((((Below.refl _ _).alloc (Nat.le_refl _) _).alloc (by simp) _).alloc (by simp <;> omega) _).alloc (by simp <;> omega) _
  have c0 : ((((w1.alloc (.cells #[.string rest] 9)).alloc (.cells #[.string st, .slice none 0 0, .slice none 0 0] 25)).alloc (.cells #[.int .i64 0] 3)).alloc (.cells #[.string rest] 9)).heap[w1.heap.size]? = some (.cells #[.string rest] 9) := (Below.heap_alloc _ _ _ (by simp <;> omega)).trans ((Below.heap_alloc _ _ _ (by simp <;> omega)).trans ((Below.heap_alloc _ _ _ (by simp)).trans (heap_alloc_new w1 _)))
  have c1 : ((((w1.alloc (.cells #[.string rest] 9)).alloc (.cells #[.string st, .slice none 0 0, .slice none 0 0] 25)).alloc (.cells #[.int .i64 0] 3)).alloc (.cells #[.string rest] 9)).heap[w1.heap.size + 1]? = some (.cells #[.string st, .slice none 0 0, .slice none 0 0] 25) := by
    have := heap_alloc_new (w1.alloc (.cells #[.string rest] 9)) (.cells #[.string st, .slice none 0 0, .slice none 0 0] 25)
    rw [World.size_alloc] at this
    exact (Below.heap_alloc _ _ _ (by simp <;> omega)).trans ((Below.heap_alloc _ _ _ (by simp)).trans this)
  have c2 : ((((w1.alloc (.cells #[.string rest] 9)).alloc (.cells #[.string st, .slice none 0 0, .slice none 0 0] 25)).alloc (.cells #[.int .i64 0] 3)).alloc (.cells #[.string rest] 9)).heap[w1.heap.size + 1 + 1]? = some (.cells #[.int .i64 0] 3) := by
    have := heap_alloc_new ((w1.alloc (.cells #[.string rest] 9)).alloc (.cells #[.string st, .slice none 0 0, .slice none 0 0] 25)) (.cells #[.int .i64 0] 3)
    simp only [World.size_alloc] at this
    exact (Below.heap_alloc _ _ _ (by simp)).trans this
  have c3 : ((((w1.alloc (.cells #[.string rest] 9)).alloc (.cells #[.string st, .slice none 0 0, .slice none 0 0] 25)).alloc (.cells #[.int .i64 0] 3)).alloc (.cells #[.string rest] 9)).heap[w1.heap.size + 1 + 1 + 1]? = some (.cells #[.string rest] 9) := by
    have := heap_alloc_new (((w1.alloc (.cells #[.string rest] 9)).alloc (.cells #[.string st, .slice none 0 0, .slice none 0 0] 25)).alloc (.cells #[.int .i64 0] 3)) (.cells #[.string rest] 9)
    simpa only [World.size_alloc] using this
  have hs4 : ((((w1.alloc (.cells #[.string rest] 9)).alloc (.cells #[.string st, .slice none 0 0, .slice none 0 0] 25)).alloc (.cells #[.int .i64 0] 3)).alloc (.cells #[.string rest] 9)).heap.size = w1.heap.size + 1 + 1 + 1 + 1 := by simp
  have E0 := hide c0; have E1 := hide c1; have E2 := hide c2; have E3 := hide c3; have HS4 := hide hs4
  clear c0 c1 c2 c3 hs4
  gi_wp2_with (refine ⟨trivial, ?_⟩; gi_at_call 28; refine (lines_in _ _ _).mono ?_; rintro e w' ⟨rfl, rfl⟩)
  generalize (((w1.alloc (.cells #[.string rest] 9)).alloc (.cells #[.string st, .slice none 0 0, .slice none 0 0] 25)).alloc (.cells #[.int .i64 0] 3)).alloc (.cells #[.string rest] 9) = w4 at *
  have hs4 : w4.heap.size = w1.heap.size + 1 + 1 + 1 + 1 := HS4.out
  have hlr : rest.size ≤ 4096 := by omega
  refine wpIn_rangeX (w := w4) rfl (by omega) (gf := 46) (lb := #[.pointer (some ⟨w1.heap.size + 1 + 1 + 1, 0, none⟩)]) rfl trivial (enters_of Tryd.func46 (by kernel_rfl) rfl)
    (lines_gen 4 (by omega) (w1.heap.size + 1 + 1 + 1) rest w w4 hM (by omega) (Later.trans lw1 hb4) (by omega) (block_cell E3.out 0))
    (fun h k => h.trans k) (fun W l o o' hl ho hc hw => belowK_b (w := w4) (by omega) W l o o' hl ho hc hw) (fun hA hL => hL.mono (by omega)) (fun _ _ _ _ h _ => h) (fun _ _ _ _ _ _ _ _ _ h => h) (fun _ => rfl)
    (fun pre W => PS14 w.heap.size w1.heap.size w.heap.size st rest pre W ∧ Below w.heap.size w W) (fun pre W => RS14 w.heap.size w.heap.size st rest W ∧ Below w.heap.size w W)
    (OwnFrom.and (fun s A B row hs hg hr => hs.ct (CTs.row hg (fun r e => (hr r e).2))) (ownFrom_below (Nat.le_refl _) (by omega)))
    (fun s A B h l => ⟨h.1.ct (CTs.of l), h.2.trans (l.mono h.2.size)⟩)
    (OwnFrom.and (fun s A B row hs hg hr => hs.ct (CTs.row hg (fun r e => (hr r e).2))) (ownFrom_below (Nat.le_refl _) (by omega)))
    ⟨⟨later_keep hb4 D0.out, later_keep hb4 D1.out, E0.out, ⟨.slice none 0 0, [], E1.out, ⟨rfl, .inl ⟨rfl, rfl⟩⟩, rfl, by (show _ = _); rw [ppd_nil]; rfl⟩, E2.out⟩, Later.trans lw1 hb4⟩
    (fun x a' W => a' = { tmps := #[.string s, undef, .pointer (some ⟨w.heap.size, 0, none⟩), .pointer (some ⟨w.heap.size + 1, 0, none⟩), .string st, .pointer (some ⟨w1.heap.size, 0, none⟩), .bool cf, .pointer (some ⟨w1.heap.size + 1, 0, none⟩), .pointer (some ⟨w1.heap.size + 1 + 1, 0, none⟩), .string x.1, .string x.2, undef, undef, undef, .tuple #[.string st, .string rest, .bool cf], .string s, .tuple #[.string st, .string rest, .bool cf], .string st, .string rest, .bool cf, .string st, .agg #[.string st, .slice none 0 0, .slice none 0 0], .string rest, .func (.func 46) #[] #[.pointer (some ⟨w1.heap.size + 1 + 1 + 1, 0, none⟩)], .string x.1, .string x.2, undef, undef, undef, undef, undef, undef, undef, undef, undef, undef, undef, undef, undef, undef, undef, undef, undef, undef, undef, undef, undef, undef, undef, undef, undef, undef, undef, undef, undef, undef, undef, undef, undef], defers := [] })
    (fun x a' W l o o' hl ho hc h => h) ?assign ?body ?done ?stop
  case assign =>
    rintro l pre x W K hsz _ hX hK
    dsimp only [encL]
    gi_wp2
    exact hK _ _ (Below.refl _ _) rfl
  case body =>
    rintro l pre x a' W ⟨⟨hr0, hr1, hx0, ⟨vh, hs', hxm, hOw, hhl, hsp⟩, hx2⟩, hbW⟩ hX rfl
    obtain ⟨ls, hls⟩ := hX
    obtain ⟨hz, hxe, -⟩ := lns_at pre x ls rest hls.symm
    have hls2 : lnsB rest = (pre ++ [x]) ++ ls := by rw [← hls]; simp
    have htl := (lns_tail (pre ++ [x]) ls rest hls2).2
    have HLF := hide (lns_left (pre ++ [x]) ls rest hls2)
    have hlen : (pre ++ [x]).length = pre.length + 1 := by simp
    rw [hlen] at HLF htl
    have hpl : pre.length ≤ 4096 := by
      have h1 := congrArg List.length hls
      have h2 := lnsF_len rest.size rest
      unfold lnsB at h1
      simp at h1
      omega
    have htk : tkn (pre ++ [x]) = tkn pre + (x.1.size + x.2.size) := tkn_snoc pre x
    have HEN : Hid (x.1.size = 0 → spT rest = some (hs', rest.extract (tkn (pre ++ [x])) rest.size)) := fun h => by
      rw [hsp.out, HLF.out, itZ_succ]
      exact ppd_end hs' hz (by rw [hxe] at h; exact h)
    have HBD : Hid (x.1.size ≠ 0 → cutF x.1 nmE = false → spT rest = none) := fun h h2 => by
      rw [hsp.out]
      rw [hxe] at h h2
      exact ppd_bad hs' hz h h2
    have HON : Hid (x.1.size ≠ 0 → cutF x.1 nmE = true → spT rest = ppd (hs' ++ [hdO x.1]) (spT (itZ (pre.length + 1) rest))) := fun h h2 => by
      rw [hsp.out, itZ_succ, hxe]
      rw [hxe] at h h2
      exact ppd_one hs' hz h h2
    have HTK : Hid (((tkn (pre ++ [x]) : Nat) : Int) = (tkn pre : Int) + ((x.1.size : Int) + (x.2.size : Int))) := by (show _ = _); rw [htk]; omega
    have hq : tkn (pre ++ [x]) ≤ rest.size := by omega
    clear hsp hls hls2 hxe hz HLF hlen
    obtain ⟨x1, x2⟩ := x
    simp only at HEN HBD HON HTK htk
    have hx1s : x1.size ≤ 4096 := by omega
    have hx2s : x2.size ≤ 4096 := by omega
    have htp : tkn pre ≤ 4096 := by omega
    generalize hqq : tkn (pre ++ [(x1, x2)]) = q at *
    have HQQ := hide hqq
    clear htk htl hqq
    obtain ⟨va, vc, rfl⟩ := owns_form hOw
    have hbsz := hbW.size
    have HOW := hide hOw
    have hh4 : hs'.length ≤ 4096 := by omega
    have HHL := hide hhl
    clear hOw hhl
    have k2 := block_cell hx2
    have f2 := block_frozen hx2
    have B1 : Hid (Below w.heap.size W (W.setCell ⟨w1.heap.size + 1 + 1, 0, none⟩ (.int .i64 (q : Int)))) := (Below.refl _ _).setCell (p := ⟨w1.heap.size + 1 + 1, 0, none⟩) (by (show w.heap.size ≤ w1.heap.size + 1 + 1); omega) _
    have X2 := hide (heap_set1 hx2 0 (.int .i64 (q : Int)))
    have hk1 : Hid (∀ i o, W.heap[i]? = some o → i ≠ w1.heap.size + 1 + 1 → (W.setCell ⟨w1.heap.size + 1 + 1, 0, none⟩ (.int .i64 (q : Int))).heap[i]? = some o) := fun i o h hne => hsetS_ne h hne
    have HO1 := hide (own_set HOW.out hx2 (by decide) 0 (.int .i64 (q : Int)))
    gi_upto_region 7 with fail
    rw [← HTK.out]
    clear k2 f2
    generalize W.setCell ⟨w1.heap.size + 1 + 1, 0, none⟩ (.int .i64 (q : Int)) = W1 at *
    have Y0 := hide (hk1.out _ _ hr0 (by omega))
    have Y1 := hide (hk1.out _ _ hr1 (by omega))
    have Z0 := hide (hk1.out _ _ hx0 (by omega))
    have Z1 := hide (hk1.out _ _ hxm (by omega))
    have hn1 : Hid (∀ i o, W.heap[i]? = some o → (o.isCells = false ∨ i < w.heap.size) → W1.heap[i]? = some o) := fun i o h hc => hk1.out i o h (keepNe h hc hx2 (by omega))
    have hsW1 : w.heap.size ≤ W1.heap.size := Nat.le_trans hbsz B1.out.size
    by_cases hz1 : x1.size = 0
    · have HSP := hide (HEN.out hz1)
      obtain rfl := str_empty x1 hz1
      clear HEN HBD HON hz1
      obtain ⟨gb, cb, w2, hcv, hG2, l2⟩ : ∃ g c w2, (convert 9 22 (.string (rest.extract q rest.size))).run Tryd.prog W1 = .ok (.slice (some ⟨g, 0, none⟩) (nmsB (rest.extract q rest.size)).length c) w2 ∧ OwG W1.heap.size w2 (.slice (some ⟨g, 0, none⟩) (nmsB (rest.extract q rest.size)).length c) (nmsB (rest.extract q rest.size)) ∧ Later W1 w2 := by
        have hG := conv_G W1 (rest.extract q rest.size) (by rw [ByteArray.size_extract]; omega)
        rw [← nmsB_len (rest.extract q rest.size)] at hG
        refine ⟨W1.heap.size, _, _, ?_, hG, conv_later W1 5 (rest.extract q rest.size)⟩
        rw [nmsB_len]
        exact Lib.run_convert_string_bytes W1 9 22 5 (rest.extract q rest.size) Tryd.underlying9 Tryd.underlying22 Tryd.underlying5
      have hq' : (q : Int) ≤ (rest.size : Int) := by omega
      have k0 := block_cell Z0.out
      have k2 := block_cell X2.out
      have Z1b := later_keep l2 Z1.out
      have k1b := block_cell Z1b
      have f1b := block_frozen Z1b
      have hnl0 : (nmsB (rest.extract q rest.size)).length ≤ 4096 := by rw [nmsB_len, ByteArray.size_extract]; omega
      generalize (nmsB (rest.extract q rest.size)).length = nl at *
      have Z13 := hide (heap_set1 Z1b 2 (.slice (some ⟨gb, 0, none⟩) nl cb))
      have hk3 : Hid (∀ i o, W1.heap[i]? = some o → i ≠ w1.heap.size + 1 → (w2.setCell ⟨w1.heap.size + 1, 2, none⟩ (.slice (some ⟨gb, 0, none⟩) nl cb)).heap[i]? = some o) := fun i o h hne => hsetS_ne (later_keep l2 h) hne
      have HO3 := hide (own_set (ownsS_ct HO1.out (CTs.of l2)) Z1b (by decide) 2 (.slice (some ⟨gb, 0, none⟩) nl cb))
      have B3 : Hid (Below w.heap.size W1 (w2.setCell ⟨w1.heap.size + 1, 2, none⟩ (.slice (some ⟨gb, 0, none⟩) nl cb))) := (l2.mono hsW1).setCell (p := ⟨w1.heap.size + 1, 2, none⟩) (by (show w.heap.size ≤ w1.heap.size + 1); omega) _
      have HG3 : Hid (OwG w.heap.size (w2.setCell ⟨w1.heap.size + 1, 2, none⟩ (.slice (some ⟨gb, 0, none⟩) nl cb)) (.slice (some ⟨gb, 0, none⟩) nl cb) (nmsB (rest.extract q rest.size))) := by
        obtain ⟨g', cap', cur, fz, e, hbg, hh, r⟩ := hG2
        exact ⟨g', cap', cur, fz, e, by omega, hsetS_ne hh (fun e2 => by have h1 := (Array.getElem?_eq_some_iff.1 Z1.out).1; omega), r⟩
      clear hG2
      gi_upto_region 9 with fail
      clear k0 k2 k1b f1b hcv
      generalize w2.setCell ⟨w1.heap.size + 1, 2, none⟩ (.slice (some ⟨gb, 0, none⟩) nl cb) = W3 at *
      have V0 := hk3.out _ _ Y0.out (by omega)
      have V1 := hk3.out _ _ Y1.out (by omega)
      have k3 := block_cell Z13.out
      have kv0 := block_cell V0
      have kv1 := block_cell V1
      have fv0 := block_frozen V0
      have fv1 := block_frozen V1
      gi_wp2
      clear k3 kv0 kv1 fv0 fv1
      obtain ⟨q0, q1, qb, qt⟩ := res14 (n := w.heap.size) V0 rfl V1 rfl (.string st) (.slice va hs'.length vc) (.slice (some ⟨gb, 0, none⟩) nl cb) (.bool true) (Nat.le_refl _) (Nat.le_trans hsW1 B3.out.size)
      generalize ((((W3.setCell ⟨w.heap.size, 0, none⟩ _).setCell ⟨w.heap.size, 1, none⟩ _).setCell ⟨w.heap.size, 2, none⟩ _).setCell ⟨w.heap.size + 1, 0, none⟩ _) = V9 at *
      have HOV : V9.ownsRow w.heap.size 53 2 (.slice va hs'.length vc) hs'.length (hrs hs') := own_butT HO3.out qt (fun i cur f h => by rintro (rfl | rfl); (rw [V0] at h; cases h); (rw [V1] at h; cases h))
      have HGV : OwG w.heap.size V9 (.slice (some ⟨gb, 0, none⟩) nl cb) (nmsB (rest.extract q rest.size)) := HG3.out.butT qt (fun i cur f h => by rintro (rfl | rfl); (rw [V0] at h; cases h); (rw [V1] at h; cases h))
      have hBW : Below w.heap.size W V9 := B1.out.trans (B3.out.trans qb)
      have hRS : RS14 w.heap.size w.heap.size st rest V9 := .inl ⟨.slice va hs'.length vc, .slice (some ⟨gb, 0, none⟩) nl cb, hs', rest.extract q rest.size, q0, q1, HSP, HOV, HGV⟩
      have hbV9 := hbW.trans hBW
      refine ⟨⟨hBW.size, fun i o hi ho hc => ?_⟩, hRS, hbV9⟩
      have o1 := hn1.out i o ho (.inl hc)
      have o3 := hk3.out i o o1 (keepNe (n := w.heap.size) o1 (.inl hc) Z1.out (by omega))
      exact (qt.block i (Array.getElem?_eq_some_iff.1 o3).1 (by
        rintro (rfl | rfl)
        · rw [V0] at o3; cases o3; cases hc
        · rw [V1] at o3; cases o3; cases hc)).trans o3
    · have hne1 := str_ne hz1
      gi_upto_region 10 with fail
      have HCT := hide (fun W (h : TabM W) => ((callsIn_wide (n := 2)).2 (cut_any x1 nmE W h (by omega))).inRound l)
      have HBD2 := hide (HBD.out hz1)
      have HON2 := hide (HON.out hz1)
      have hcs1 := (cut_sizes x1 nmE).1
      have HHO : Hid (hdO x1 = (cutA x1 nmE, cutZ x1 nmE)) := rfl
      clear HEN HBD HON hne1
      generalize hdO x1 = hd1 at *
      generalize cutA x1 nmE = ca at *
      generalize cutZ x1 nmE = cz at *
      generalize cutF x1 nmE = cf1 at *
      gi_wp2
      refine ⟨trivial, ?_⟩
      refine (HCT.out W1 (hM.later (hbW.trans B1.out))).mono ?_
      rintro e W2 ⟨rfl, l2⟩
      have U0 := later_keep l2 Y0.out
      have U1 := later_keep l2 Y1.out
      have hsW2 : w.heap.size ≤ W2.heap.size := Nat.le_trans hsW1 l2.size
      have B2 : Hid (Below w.heap.size W W2) := B1.out.trans (l2.mono hsW1)
      cases cf1 with
      | false =>
        have HSP := hide (HBD2.out rfl)
        clear HBD2 HON2 HCT
        have kv0 := block_cell U0
        have kv1 := block_cell U1
        have fv0 := block_frozen U0
        have fv1 := block_frozen U1
        gi_wp2
        clear kv0 kv1 fv0 fv1
        obtain ⟨q0, q1, qb, qt⟩ := res14 (n := w.heap.size) U0 rfl U1 rfl (.string ⟨#[]⟩) (.slice none 0 0) (.slice none 0 0) (.bool false) (Nat.le_refl _) hsW2
        generalize ((((W2.setCell ⟨w.heap.size, 0, none⟩ _).setCell ⟨w.heap.size, 1, none⟩ _).setCell ⟨w.heap.size, 2, none⟩ _).setCell ⟨w.heap.size + 1, 0, none⟩ _) = V9 at *
        have hBW : Below w.heap.size W V9 := B2.out.trans qb
        have hRS : RS14 w.heap.size w.heap.size st rest V9 := .inr ⟨q0, q1, HSP⟩
        have hbV9 := hbW.trans hBW
        refine ⟨⟨hBW.size, fun i o hi ho hc => ?_⟩, hRS, hbV9⟩
        have o3 := later_keep l2 (hn1.out i o ho (.inl hc))
        exact (qt.block i (Array.getElem?_eq_some_iff.1 o3).1 (by
          rintro (rfl | rfl)
          · rw [U0] at o3; cases o3; cases hc
          · rw [U1] at o3; cases o3; cases hc)).trans o3
      | true =>
        have HSP : Hid (spT rest = ppd (hs' ++ [(ca, cz)]) (spT (itZ (pre ++ [(x1, x2)]).length rest))) := by
          have h := HON2.out rfl
          rw [HHO.out] at h
          rw [show (pre ++ [(x1, x2)]).length = pre.length + 1 by simp]
          exact h
        clear HBD2 HON2 HCT HHO
        have la := later_allocR W2 (.cells #[.string ca, .string cz] 53)
        have HNB := heap_alloc_new W2 (.cells #[.string ca, .string cz] 53)
        obtain ⟨i0, hi0, hz0, hz1', hz2⟩ := info_partsS info_hdr
        have HRA := hide (ownsS_ct HO1.out (CTs.of (l2.trans la)))
        have HNW : Hid (∀ j u, [Value.string ca, .string cz][j]? = some u → (W2.alloc (.cells #[.string ca, .string cz] 53)).cell? ((⟨W2.heap.size, 0, none⟩ : Addr).add j) = some u) := fun j u hj => by
          rw [show (⟨W2.heap.size, 0, none⟩ : Addr).add j = ⟨W2.heap.size, j, none⟩ from by unfold Addr.add; split <;> simp_all, block_cell HNB j]
          simpa using hj
        have T1 := hide (later_keep (l2.trans la) Z1.out)
        have hkA : Hid (∀ i o, W.heap[i]? = some o → (o.isCells = false ∨ i < w.heap.size) → (W2.alloc (.cells #[.string ca, .string cz] 53)).heap[i]? = some o) := fun i o h hc => later_keep (l2.trans la) (hn1.out i o h hc)
        have T0 := hide (later_keep la U0)
        have T2 := hide (later_keep la U1)
        have T3 := hide (later_keep (l2.trans la) Z0.out)
        have T4 := hide (later_keep (l2.trans la) X2.out)
        have hsWA : w.heap.size ≤ (W2.alloc (.cells #[.string ca, .string cz] 53)).heap.size := Nat.le_trans hsW2 la.size
        have BA := hide (B2.out.trans (la.mono hsW2))
        have k1 := block_cell (later_keep l2 Z1.out)
        clear HNB U0 U1 la l2
        gi_wp2_with (gi_at_builtin; refine wpListIn_append_own _ rfl (.tmp 51) (.tmp 55) 23 rfl w.heap.size 53 i0 (.agg #[.string ⟨#[]⟩, .string ⟨#[]⟩]) 2 32 Tryd.underlying23 hi0 hz0 hz1' hz2 rfl (by decide) _ hs'.length (hrs hs') rfl HRA.out ⟨W2.heap.size, 0, none⟩ 1 1 [.string ca, .string cz] rfl rfl HNW.out (by intro u hu; simp at hu; rcases hu with rfl | rfl <;> rfl) (by simp only [maxLen]; omega) (by omega) hsWA ?_; intro v2 V2 hrow2 hg2 hnn; obtain ⟨a2, cp2, rfl⟩ := owns_form hrow2; have hob2 := keep_row HRA.out hg2 T1.out (.inl fun cur f e => by cases e); have Kv2 := block_cell hob2; have Fv2 := block_frozen hob2; have HGG := hide hg2; have HRR := hide hrow2; clear hg2 hrow2 hnn)
        clear Kv2 Fv2 k1
        have hE1 := heap_set1 hob2 1 (.slice a2 (hs'.length + 1) cp2)
        have hkV : ∀ i o, (W2.alloc (.cells #[.string ca, .string cz] 53)).heap[i]? = some o → ((∀ cur f, o ≠ .cells cur 53 f) ∨ i < w.heap.size) → i ≠ w1.heap.size + 1 → (V2.setCell ⟨w1.heap.size + 1, 1, none⟩ (.slice a2 (hs'.length + 1) cp2)).heap[i]? = some o := fun i o h hh hne => hsetS_ne (keep_row HRA.out HGG.out h hh) hne
        have F0 := hkV _ _ T0.out (.inl fun cur f e => by cases e) (by omega)
        have F1 := hkV _ _ T2.out (.inl fun cur f e => by cases e) (by omega)
        have F3 := hkV _ _ T3.out (.inl fun cur f e => by cases e) (by omega)
        have F4 := hkV _ _ T4.out (.inl fun cur f e => by cases e) (by omega)
        have hE2 : (V2.setCell ⟨w1.heap.size + 1, 1, none⟩ (.slice a2 (hs'.length + 1) cp2)).ownsRow w.heap.size 53 2 (.slice a2 (hs'.length + 1) cp2) (hs' ++ [(ca, cz)]).length (hrs (hs' ++ [(ca, cz)])) := by
          rw [List.length_append, hrs_snoc]
          exact own_set HRR.out hob2 (by decide) 1 _
        have hBV : Below w.heap.size (W2.alloc (.cells #[.string ca, .string cz] 53)) (V2.setCell ⟨w1.heap.size + 1, 1, none⟩ (.slice a2 (hs'.length + 1) cp2)) := ⟨HGG.out.os, HGG.out.tape, HGG.out.output, by have := HGG.out.size; simp at this ⊢; omega, fun i hi => by
          cases hh : (W2.alloc (.cells #[.string ca, .string cz] 53)).heap[i]? with
          | none => have := Array.getElem?_eq_none_iff.1 hh; omega
          | some o => exact hkV i o hh (.inr hi) (by omega)⟩
        have hBW : Below w.heap.size W (V2.setCell ⟨w1.heap.size + 1, 1, none⟩ (.slice a2 (hs'.length + 1) cp2)) := BA.out.trans hBV
        have hKF : KeepsFrom w4.heap.size W (V2.setCell ⟨w1.heap.size + 1, 1, none⟩ (.slice a2 (hs'.length + 1) cp2)) := ⟨hBW.size, fun i o hi ho hc => hkV i o (hkA.out i o ho (.inl hc)) (.inl fun cur f e => by subst e; cases hc) (by omega)⟩
        have hPS : PS14 w.heap.size w1.heap.size w.heap.size st rest (pre ++ [(x1, x2)]) (V2.setCell ⟨w1.heap.size + 1, 1, none⟩ (.slice a2 (hs'.length + 1) cp2)) := by
          refine ⟨F0, F1, F3, ⟨_, hs' ++ [(ca, cz)], hE1, hE2, ?_, HSP⟩, ?_⟩
          · rw [List.length_append, List.length_append, HHL.out]; rfl
          · rw [HQQ.out]; exact F4
        have hbV9 := hbW.trans hBW
        generalize V2.setCell ⟨w1.heap.size + 1, 1, none⟩ (.slice a2 (hs'.length + 1) cp2) = V9 at *
        exact ⟨hKF, hBW, hPS, hbV9⟩
  case done =>
    rintro D xs W hD hxs ⟨⟨hr0, hr1, hx0, ⟨vh, hs', hxm, hOw, hhl, hsp⟩, hx2⟩, hbW⟩ hK
    have hno : pm = none := by
      rw [HP.out, hsp.out, spT_nil (lns_end xs rest hxs.symm)]
      rfl
    have kv0 := block_cell hr0
    have kv1 := block_cell hr1
    have fv0 := block_frozen hr0
    have fv1 := block_frozen hr1
    have HNO := hide hno
    clear hno hxm hOw hsp hhl
    gi_wp2
    clear kv0 kv1 fv0 fv1
    obtain ⟨q0, q1, qb, qt⟩ := res14 (n := w.heap.size) hr0 rfl hr1 rfl (.string ⟨#[]⟩) (.slice none 0 0) (.slice none 0 0) (.bool false) (Nat.le_refl _) hbW.size
    generalize ((((W.setCell ⟨w.heap.size, 0, none⟩ _).setCell ⟨w.heap.size, 1, none⟩ _).setCell ⟨w.heap.size, 2, none⟩ _).setCell ⟨w.heap.size + 1, 0, none⟩ _) = V9 at *
    have hK9 := (qt.block D (Array.getElem?_eq_some_iff.1 hK).1 (by omega)).trans hK
    have q4 := (CTs.put (o' := .deferred none) hK9 rfl).2 _ _ q0 rfl
    have q5 := (CTs.put (o' := .deferred none) hK9 rfl).2 _ _ q1 rfl
    have Q4 := block_cell q4
    have Q5 := block_cell q5
    refine ⟨by simp, .inl ⟨_, _, rfl, run_takeDeferred hK9, ?_⟩⟩
    exact ⟨.tuple #[.agg #[.string ⟨#[]⟩, .slice none 0 0, .slice none 0 0], .bool false], by simp [results, Tryd.results20, go_sem, Q4, Q5], (hbW.trans qb).trans (belowK_b (w := w) (Nat.le_refl _) V9 D _ _ (by omega) hK9 rfl rfl), _, rfl, .inr ⟨HNO.out, rfl⟩⟩
  case stop =>
    rintro D pre W hD _ ⟨hR, hbW⟩ hK
    have hR2 := hR.ct (CTs.put (o' := .deferred none) hK rfl)
    have hB2 : Later w (W.putObj D (.deferred none)) := hbW.trans (belowK_b (w := w) (Nat.le_refl _) W D _ _ (by omega) hK rfl rfl)
    rcases hR2 with ⟨vh, vb, hs', b, h1, h2, h3, h4, h5⟩ | ⟨h1, h2, h3⟩
    · have hpm : pm = some (st, hs', b) := by rw [HP.out, h3.out]; rfl
      obtain ⟨va, vc, rfl⟩ := owns_form h4
      obtain ⟨g1, c1, e1, _⟩ := h5.form
      have H4 := hide h4
      have H5 := hide h5
      have HPM := hide hpm
      clear h4 h5 hpm hR
      generalize (nmsB b).length = nb at *
      subst e1
      have Q4 := block_cell h1
      have Q5 := block_cell h2
      gi_wp2
      refine ⟨by simp, .inl ⟨_, _, rfl, run_takeDeferred hK, ?_⟩⟩
      exact ⟨.tuple #[.agg #[.string st, .slice va hs'.length vc, .slice (some ⟨g1, 0, none⟩) nb c1], .bool true], by simp [results, Tryd.results20, go_sem, Q4, Q5], hB2, _, rfl, .inl ⟨_, _, _, _, _, HPM.out, rfl, H4.out, H5.out⟩⟩
    · have hpm : pm = none := by rw [HP.out, h3.out]; rfl
      have HPM := hide hpm
      clear hpm hR
      have Q4 := block_cell h1
      have Q5 := block_cell h2
      gi_wp2
      refine ⟨by simp, .inl ⟨_, _, rfl, run_takeDeferred hK, ?_⟩⟩
      exact ⟨.tuple #[.agg #[.string ⟨#[]⟩, .slice none 0 0, .slice none 0 0], .bool false], by simp [results, Tryd.results20, go_sem, Q4, Q5], hB2, _, rfl, .inr ⟨HPM.out, rfl⟩⟩
end Go.Proofs.YtehdgndbloaljaaDoor

/- Package sip: Parse. -/
namespace Go.Proofs.YtehdgndbloaljaaDoor
open Go.RowKit Go.Shelf
set_option maxRecDepth 100000
set_option linter.unusedVariables false
set_option linter.unusedSimpArgs false

theorem rdM_nil (n : Nat) (W : World) : RdM n W (.slice none 0 0) [] := .inl ⟨none, 0, rfl, rfl, by omega, fun _ => rfl⟩
theorem rd_nil14 (n : Nat) (W : World) : Rd n W (.slice none 0 0) [] := .inl ⟨none, 0, rfl, rfl, by omega, fun _ => rfl⟩
/-- A message as it lies in memory. -/
def MsQ (m : ByteArray × List Hr × ByteArray) (er : Int) (W : World) (v : Value) : Prop := ∃ vh vb, v = .tuple #[.agg #[.string m.1, vh, vb], .int .i64 er] ∧ RdM W.heap.size W vh m.2.1 ∧ Rd W.heap.size W vb (nmsB m.2.2)

set_option maxRecDepth 100000 in
set_option maxHeartbeats 4000000 in
theorem parse14_any (sb : Value) (zb : List Int) (w : World) (hT : TabI w) (hM : TabM w) (hB : Rd w.heap.size w sb zb) (hy : Mt.By zb) :
    Calls Tryd.prog 7 #[sb] w fun e w' => Later w w' ∧ ∃ v, e = .returned v ∧ MsQ (paM zb) (paE zb) w' v := by
  obtain ⟨ba, bcp, rfl, hbc1, hbc2⟩ := hB.slice
  have l0 : Later w (w.alloc (.cells #[.string ⟨#[]⟩, .slice none 0 0, .slice none 0 0] 25)) := later_allocR _ _
  have C0 := hide (heap_alloc_new w (.cells #[.string ⟨#[]⟩, .slice none 0 0, .slice none 0 0] 25))
  by_cases hlong : 4096 < zb.length
  · have hl' : (4096 : Int) < (zb.length : Int) := by omega
    have HV := hide (paM_long hlong)
    clear hlong
    go_enter Tryd.func7, Tryd.ntmps7
    go_upto_region 1 with fail
    generalize w.alloc _ = w0 at *
    generalize hgc : w.heap.size = gc at C0 ⊢
    have k0 := block_cell C0.out
    have f0 := block_frozen C0.out
    go_wp2_with fail
    generalize hV : (((w0.setCell ⟨gc, 0, none⟩ _).setCell ⟨gc, 1, none⟩ _).setCell ⟨gc, 2, none⟩ _) = V8
    have hV9 : V8 = putRow w0 gc 0 [.string ⟨#[]⟩, .slice none 0 0, .slice none 0 0] := hV.symm
    have hb8 : But (fun b => b = gc) w0 V8 := by rw [hV9]; exact putRow_but (E := fun b => b = gc) (n := gc) rfl _ _ _ _ (But.refl _ _)
    have p8 := putRow_all [.string ⟨#[]⟩, .slice none 0 0, .slice none 0 0] C0.out rfl
    rw [← hV9] at p8
    clear hV hV9 k0 f0
    have P8 := block_cell p8
    have hw8 : Later w V8 := Below.trans l0 (hb8.below l0.size (fun k h e => by omega))
    exact bodyPost_ret (v := .tuple #[.agg #[.string ⟨#[]⟩, .slice none 0 0, .slice none 0 0], .int .i64 8]) (by simp [results, Tryd.results7, go_sem, P8]) rfl ⟨hw8, _, rfl, by rw [HV.out.1, HV.out.2]; exact ⟨_, _, rfl, rdM_nil _ _, rd_nil14 _ _⟩⟩
  · have hl' : ¬ (4096 : Int) < (zb.length : Int) := by omega
    have hcv : ∀ W, Later w W → (convert 22 9 (.slice ba zb.length bcp)).run Tryd.prog W = .ok (.string (strOfNums zb)) W := fun W hW => conv_rd 22 9 5 Tryd.underlying22 Tryd.underlying5 Tryd.underlying9 (hB.below hW)
    have hss : (strOfNums zb).size ≤ 4096 := by rw [strOfNums_size]; omega
    have HSP := hide (fun W (l : Later w W) => split_any (strOfNums zb) W (hM.later l) hss)
    have HNO : Hid (paO zb = none → paE zb = 4 ∧ paM zb = (⟨#[]⟩, [], ⟨#[]⟩)) := fun h => paM_none hlong h
    have HYE : Hid (∀ st hs b, paO zb = some (st, hs, b) → paE zb = 0 ∧ paM zb = (st, hs, b)) := fun st hs b h => paM_some hlong h
    have H1 : Hid (prM (strOfNums zb) = none → paO zb = none) := fun h => paO_none h
    have H2 : Hid (∀ st hs b, prM (strOfNums zb) = some (st, hs, b) → (rgB st hs b.size = false → paO zb = none) ∧ (rgB st hs b.size = true → paO zb = some (st, hs, b)) ∧ szM st hs b.size ≤ 4096) := fun st hs b h => ⟨fun hr => paO_wrong h hr, fun hr => paO_right h hr, by rw [pr_size h]; exact hss⟩
    clear hlong
    generalize prM (strOfNums zb) = pm at *
    generalize strOfNums zb = s at *
    generalize paO zb = po at *
    generalize paE zb = pe at *
    generalize paM zb = pa at *
    have hcv0 := hcv _ l0
    clear hcv
    go_enter Tryd.func7, Tryd.ntmps7
    go_upto_region 3 with fail
    generalize w.alloc _ = w0 at *
    generalize hgc : w.heap.size = gc at C0 ⊢
    go_wp2_with fail
    refine (HSP.out w0 l0).mono ?_
    rintro e w1 ⟨l1, v, rfl, hq⟩
    clear hcv0 HSP
    have L1 : Later w w1 := Later.trans l0 l1
    have C1 := hide (later_keep l1 C0.out)
    rcases hq with ⟨st, vh, vb, hs, b, hpm, rfl, hrow, hG⟩ | ⟨hpm, rfl⟩
    · obtain ⟨h2a, h2b, h2c⟩ := H2.out st hs b hpm
      have HA := hide h2a
      have HB2 := hide h2b
      have hI := ownM_rd hrow
      have hR := hG.rd
      have HRW := hide hrow
      have HGG := hide hG
      clear hrow hG h2a h2b H1 H2 hpm
      obtain ⟨va, vc, rfl, _, _⟩ := hI.slice
      obtain ⟨xa, xc, rfl, _, _⟩ := hR.slice
      have hnl : (nmsB b).length = b.size := nmsB_len b
      have la := later_allocR w1 (.cells #[.string st, .slice va hs.length vc, .slice xa (nmsB b).length xc] 25)
      have CM := hide (heap_alloc_new w1 (.cells #[.string st, .slice va hs.length vc, .slice xa (nmsB b).length xc] 25))
      have HRG := hide (fun W (l : Later w1 W) => (right14_any st hs _ _ (nmsB b) W (hT.later (L1.trans l)) (hI.later l) (hR.later l) (by rw [hnl]; omega)).mono (fun e w' h => (by rw [hnl] at h; exact h : e = .returned (.bool (rgB st hs b.size)) ∧ Later W w')))
      have HI := hide (fun W (l : Later w1 W) => hI.later l)
      have HR := hide (fun W (l : Later w1 W) => hR.later l)
      clear hnl h2c
      generalize rgB st hs b.size = rg at *
      generalize (nmsB b).length = nl at *
      go_upto_region 4 with fail
      change Code.wp _ _ _ _ (w1.alloc (.cells #[.string st, .slice va hs.length vc, .slice xa nl xc] 25))
      have C2 := hide (later_keep la C1.out)
      generalize w1.alloc (.cells #[.string st, .slice va hs.length vc, .slice xa nl xc] 25) = w2 at *
      generalize w1.heap.size = gm at *
      have km := block_cell CM.out
      go_wp2_with fail
      refine (HRG.out w2 la).mono ?_
      rintro e w3 ⟨rfl, l3⟩
      clear km
      have L3 : Later w w3 := L1.trans (la.trans l3)
      have CM3 := later_keep l3 CM.out
      have C3 := later_keep l3 C2.out
      have km := block_cell CM3
      have k0 := block_cell C3
      have f0 := block_frozen C3
      cases rg with
      | false =>
        have HV := hide (HNO.out (HA.out rfl))
        go_wp2_with fail
        generalize hV : (((w3.setCell ⟨gc, 0, none⟩ _).setCell ⟨gc, 1, none⟩ _).setCell ⟨gc, 2, none⟩ _) = V8
        have hV9 : V8 = putRow w3 gc 0 [.string ⟨#[]⟩, .slice none 0 0, .slice none 0 0] := hV.symm
        have hb8 : But (fun b => b = gc) w3 V8 := by rw [hV9]; exact putRow_but (E := fun b => b = gc) (n := gc) rfl _ _ _ _ (But.refl _ _)
        have p8 := putRow_all [.string ⟨#[]⟩, .slice none 0 0, .slice none 0 0] C3 rfl
        rw [← hV9] at p8
        clear hV hV9 k0 f0 km
        have P8 := block_cell p8
        have hw8 : Later w V8 := Below.trans L3 (hb8.below L3.size (fun k h e => by omega))
        exact bodyPost_ret (v := .tuple #[.agg #[.string ⟨#[]⟩, .slice none 0 0, .slice none 0 0], .int .i64 4]) (by simp [results, Tryd.results7, go_sem, P8]) rfl ⟨hw8, _, rfl, by rw [HV.out.1, HV.out.2]; exact ⟨_, _, rfl, rdM_nil _ _, rd_nil14 _ _⟩⟩
      | true =>
        have HV := hide (HYE.out st hs b (HB2.out rfl))
        have HI3 := hide (ownM_later HRW.out (la.trans l3))
        have HR3 := hide (HGG.out.later (la.trans l3))
        go_wp2_with fail
        generalize hV : (((w3.setCell ⟨gc, 0, none⟩ _).setCell ⟨gc, 1, none⟩ _).setCell ⟨gc, 2, none⟩ _) = V8
        have hV9 : V8 = putRow w3 gc 0 [.string st, .slice va hs.length vc, .slice xa nl xc] := hV.symm
        have hb8 : But (fun b => b = gc) w3 V8 := by rw [hV9]; exact putRow_but (E := fun b => b = gc) (n := gc) rfl _ _ _ _ (But.refl _ _)
        have p8 := putRow_all [.string st, .slice va hs.length vc, .slice xa nl xc] C3 rfl
        rw [← hV9] at p8
        clear hV hV9 k0 f0 km
        have P8 := block_cell p8
        have hw8 : Later w V8 := Below.trans L3 (hb8.below L3.size (fun k h e => by omega))
        have hM8 := ownM_rd (own_butT HI3.out hb8 (fun i cur f h => by rintro rfl; rw [C3] at h; cases h))
        have hG8 := (HR3.out.butT hb8 (fun i cur f h => by rintro rfl; rw [C3] at h; cases h)).rd
        exact bodyPost_ret (v := .tuple #[.agg #[.string st, .slice va hs.length vc, .slice xa nl xc], .int .i64 0]) (by simp [results, Tryd.results7, go_sem, P8]) rfl ⟨hw8, _, rfl, by rw [HV.out.1, HV.out.2]; exact ⟨_, _, rfl, hM8, hG8⟩⟩
    · have HV := hide (HNO.out (H1.out hpm))
      have C2 := hide (later_keep (later_allocR w1 (.cells #[.string ⟨#[]⟩, .slice none 0 0, .slice none 0 0] 25)) C1.out)
      have la := later_allocR w1 (.cells #[.string ⟨#[]⟩, .slice none 0 0, .slice none 0 0] 25)
      go_upto_region 4 with fail
      change Code.wp _ _ _ _ (w1.alloc (.cells #[.string ⟨#[]⟩, .slice none 0 0, .slice none 0 0] 25))
      generalize w1.alloc (.cells #[.string ⟨#[]⟩, .slice none 0 0, .slice none 0 0] 25) = w2 at *
      have L3 : Later w w2 := L1.trans la
      have k0 := block_cell C2.out
      have f0 := block_frozen C2.out
      go_wp2_with fail
      generalize hV : (((w2.setCell ⟨gc, 0, none⟩ _).setCell ⟨gc, 1, none⟩ _).setCell ⟨gc, 2, none⟩ _) = V8
      have hV9 : V8 = putRow w2 gc 0 [.string ⟨#[]⟩, .slice none 0 0, .slice none 0 0] := hV.symm
      have hb8 : But (fun b => b = gc) w2 V8 := by rw [hV9]; exact putRow_but (E := fun b => b = gc) (n := gc) rfl _ _ _ _ (But.refl _ _)
      have p8 := putRow_all [.string ⟨#[]⟩, .slice none 0 0, .slice none 0 0] C2.out rfl
      rw [← hV9] at p8
      clear hV hV9 k0 f0
      have P8 := block_cell p8
      have hw8 : Later w V8 := Below.trans L3 (hb8.below L3.size (fun k h e => by omega))
      exact bodyPost_ret (v := .tuple #[.agg #[.string ⟨#[]⟩, .slice none 0 0, .slice none 0 0], .int .i64 4]) (by simp [results, Tryd.results7, go_sem, P8]) rfl ⟨hw8, _, rfl, by rw [HV.out.1, HV.out.2]; exact ⟨_, _, rfl, rdM_nil _ _, rd_nil14 _ _⟩⟩
end Go.Proofs.YtehdgndbloaljaaDoor

/- A guarded operation that is not wanted is passed over. -/
namespace Go.Proofs.YtehdgndbloaljaaDoor
open Go.RowKit Go.Shelf
set_option maxRecDepth 100000
set_option linter.unusedVariables false
set_option linter.unusedSimpArgs false

section
variable {P : Program} {l : List Oper} {Q : Exit → Act → World → Prop} {fuel : Nat} {listed : Array Bool} {a : Act} {w : World} {R : World → World → Prop}
/-- Number i, whose guard does not hold, is passed over first. -/
theorem anyR_skipG (hp : Pre R) (i : Nat) {oi : Oper} (hi : nthOp l i = some oi)
    (hs : Region.noSelect l.toArray = true) (hf : Region.free .any l.toArray listed i = true) (hr : (Region.ready .any l.toArray listed).contains i = true)
    (hQ : ∀ v c a w, Q (.panic c) (a.put oi.dst v) w → Q (.panic c) a w) (hg : Region.wanted oi (yielded l.toArray a.tmps) = false)
    (h : wpAnyR P .any l.toArray Q R fuel (listed.setIfInBounds i true) (a.put oi.dst undef) w) : wpAnyR P .any l.toArray Q R (fuel + 1) listed a w := by
  have hi' : l.toArray[i]? = some oi := by rw [← hi, nthOp_eq]; simp
  exact wpAnyR_first hp.1 hp.2 hi' (Region.noSelect_spec hs) (hQ undef) fuel listed a w (Region.free_spec hi' hf) (by simpa using hr) (.inr ⟨hg, rfl⟩) h
end

end Go.Proofs.YtehdgndbloaljaaDoor

/- A guarded operation that is the only one to come next. -/
namespace Go.Proofs.YtehdgndbloaljaaDoor
open Go.RowKit Go.Shelf
set_option maxRecDepth 100000
set_option linter.unusedVariables false
set_option linter.unusedSimpArgs false

section
variable {P : Program} {l : List Oper} {Q : Exit → Act → World → Prop} {fuel : Nat} {listed : Array Bool} {a : Act} {w : World} {R : World → World → Prop}
theorem anyR_oneG (i : Nat) {oi : Oper} (hi : nthOp l i = some oi) (hr : Region.ready .any l.toArray listed = [i]) (hg : Region.wanted oi (yielded l.toArray a.tmps) = true)
    (h1 : ∀ w', R w w' → oi.wp P a w' (fun a' w'' => R w' w'' ∧ wpAnyR P .any l.toArray Q R fuel (listed.setIfInBounds i true) a' w'') Q) :
    wpAnyR P .any l.toArray Q R (fuel + 1) listed a w := by
  have hi' : l.toArray[i]? = some oi := by rw [← hi, nthOp_eq]; simp
  refine ⟨fun h0 => (by rw [hr] at h0; cases h0), fun k hk w' hw' => ?_⟩
  rw [hr] at hk
  unfold wpOp
  obtain rfl : k = i := by simpa using hk
  rw [hi']; simp only [hg, if_true]; exact .inl (h1 w' hw')
end

end Go.Proofs.YtehdgndbloaljaaDoor

/- The walk of SipSelf. -/
namespace Go.Proofs.YtehdgndbloaljaaDoor
open Go.RowKit Go.Shelf
set_option maxRecDepth 100000
set_option linter.unusedVariables false
set_option linter.unusedSimpArgs false

/-- How long a message of few headers is. -/
theorem szM_few {st : ByteArray} {hs : List Hr} {n : Nat} (h1 : st.size ≤ 140737488351232) (h2 : ∀ o ∈ hs, o.1.size ≤ 140737488351232 ∧ o.2.size ≤ 140737488351232) (h3 : n ≤ 140737488351232) : szM st (hs.take 100) n ≤ 9000000000000000000 ∧ (hs.take 100).length ≤ 100 := by
  have hl : (hs.take 100).length ≤ 100 := by rw [List.length_take]; omega
  have h2' : ∀ o ∈ hs.take 100, o.1.size ≤ 140737488351232 ∧ o.2.size ≤ 140737488351232 := fun o ho => h2 o (List.mem_of_mem_take ho)
  generalize hs.take 100 = l at *
  have : ∀ m (l : List Hr), l.length ≤ m → (∀ o ∈ l, o.1.size ≤ 140737488351232 ∧ o.2.size ≤ 140737488351232) → hsz l ≤ m * 281474976702468 := by
    intro m
    induction m with
    | zero => intro l hl _; have : l = [] := List.eq_nil_of_length_eq_zero (by omega); subst this; simp [hsz]
    | succ m ih =>
      intro l hl h
      cases l with
      | nil => simp [hsz]
      | cons a l =>
        have h1 := ih l (by simpa using hl) (fun o ho => h o (by simp [ho]))
        have h2 := h a (by simp)
        unfold hsz at h1 ⊢
        simp only [List.map_cons, List.sum_cons]
        omega
  have h4 := this 100 l hl h2'
  unfold szM
  exact ⟨by omega, hl⟩
theorem cg_same (h p : Int) (ml : List (Int × Int)) (hm : ∀ m ∈ ml, m.1 = m.2) : (cgOf h h p p ml).same := ⟨rfl, rfl, hm⟩

end Go.Proofs.YtehdgndbloaljaaDoor

/- The walk of SipBack. -/
namespace Go.Proofs.YtehdgndbloaljaaDoor
open Go.RowKit Go.Shelf
set_option maxRecDepth 100000
set_option linter.unusedVariables false
set_option linter.unusedSimpArgs false

theorem txM_by {st : ByteArray} {hs : List Hr} {zb : List Int} (hy : Mt.By zb) : Mt.By (txM st hs zb) := by
  rw [← nmsB_str zb hy, ← txB_nms]
  exact nmsB_by _

set_option maxRecDepth 100000 in
set_option maxHeartbeats 8000000 in
theorem walk_SipBack (w : World) (hT : TabI w) (hM : TabM w) (st : ByteArray) (sv sb : Value) (hs : List Hr) (zb : List Int) (hy : Mt.By zb) (hH : RdM w.heap.size w sv hs) (hB : Rd w.heap.size w sb zb)
    (hz : st.size ≤ 140737488351232 ∧ (∀ o ∈ hs, o.1.size ≤ 140737488351232 ∧ o.2.size ≤ 140737488351232) ∧ hs.length ≤ 140737488351232 ∧ zb.length ≤ 140737488351232) (v2 : Value) (z2 : List Int) (hy2 : Mt.By z2) (hB2 : Rd w.heap.size w v2 z2) (hz2 : z2.length ≤ 140737488351232) :
    Calls Tryd.prog 4 #[.agg #[.string st, sv, sb], v2] w fun e w' => e = .returned (.bool true) ∧ Below w.heap.size w w' := by
  obtain ⟨sa, scp, rfl, _, _⟩ := hH.slice
  obtain ⟨ba, bcp, rfl, _, _⟩ := hB.slice
  obtain ⟨b2, bc2, rfl, _, _⟩ := hB2.slice
  obtain ⟨hz1, hz2', _, hz3⟩ := hz
  obtain ⟨hzz, hl100⟩ := szM_few (n := zb.length) hz1 hz2' hz3
  have l0 : Later w (w.alloc (.cells #[.string st, .slice sa hs.length scp, .slice ba zb.length bcp] 25)) := later_allocR _ _
  have C0 := hide (heap_alloc_new w (.cells #[.string st, .slice sa hs.length scp, .slice ba zb.length bcp] 25))
  have HFW := hide (few_any st _ _ hs zb _ (hH.later l0) (hB.later l0))
  generalize hs.take 100 = hl at *
  have HL := hide (fun W (l : Later w W) => live14_any W (hT.later l) (hM.later l))
  have HP2 := hide (fun W (l : Later w W) => parse14_any _ z2 W (hT.later l) (hM.later l) (hB2.later l) hy2)
  have HYES : Hid (paE z2 = 0 → rgB (paM z2).1 (paM z2).2.1 (paM z2).2.2.size = true ∧ txM (paM z2).1 (paM z2).2.1 (nmsB (paM z2).2.2) = z2) := fun h => build_pa hy2 h
  have HNOT : Hid (paE z2 ≠ 0 → paM z2 = (⟨#[]⟩, [], ⟨#[]⟩)) := fun h => by
    by_cases hl : 4096 < z2.length
    · exact (paM_long hl).2
    · cases hp : paO z2 with
      | none => exact (paM_none hl hp).2
      | some m => exact absurd ((paE_iff z2).2 ⟨hl, m, hp⟩) h
  have HBB := hide (fun W (l : Later w W) => hB.later l)
  generalize paE z2 = pe at *
  generalize paM z2 = pa at *
  obtain ⟨p1, p2, p3⟩ := pa
  simp only at HYES
  go_enter Tryd.func4, Tryd.ntmps4
  go_upto_region 1 with fail
  generalize w.alloc _ = w0 at *
  generalize w.heap.size = gm at C0 ⊢
  have k0 := block_cell C0.out
  go_wp2_with fail
  refine HFW.out.mono ?_
  rintro e w1 ⟨l1, sv2, rfl, hI⟩
  obtain ⟨a2, c2, rfl, _, _⟩ := hI.slice
  clear k0 HFW C0
  have la := later_allocR w1 (.cells #[.string st, .slice a2 hl.length c2, .slice ba zb.length bcp] 25)
  have C1 := hide (heap_alloc_new w1 (.cells #[.string st, .slice a2 hl.length c2, .slice ba zb.length bcp] 25))
  have HI := hide (fun W (l : Later (w1.alloc (.cells #[.string st, .slice a2 hl.length c2, .slice ba zb.length bcp] 25)) W) => ((hI.later l1).later la).later l)
  have L2 : Later w (w1.alloc (.cells #[.string st, .slice a2 hl.length c2, .slice ba zb.length bcp] 25)) := (Later.trans l0 l1).trans la
  go_upto_region 2 with fail
  change Code.wp _ _ _ _ (w1.alloc (.cells #[.string st, .slice a2 hl.length c2, .slice ba zb.length bcp] 25))
  generalize w1.alloc (.cells #[.string st, .slice a2 hl.length c2, .slice ba zb.length bcp] 25) = w2 at *
  generalize w1.heap.size = gn at *
  clear hI la l1 l0
  have k1 := block_cell C1.out
  cases hrg : rgB st hl zb.length with
  | true =>
    have HBU := hide (build14_yes st _ _ hl zb w2 (hT.later L2) (HI.out w2 (Later.refl _)) (HBB.out w2 L2) hzz hrg)
    obtain ⟨hpa1, hpa2⟩ := pa_build hy hrg
    have HTY := hide (txM_by (st := st) (hs := hl) hy)
    have HPP := hide (fun W v (l : Later w W) (h : Rd W.heap.size W v (txM st hl zb)) => parse14_any v (txM st hl zb) W (hT.later l) (hM.later l) h HTY.out)
    rw [hpa1, hpa2] at HPP
    clear hpa1 hpa2 hrg HTY
    generalize txM st hl zb = tx at *
    go_wp2_with fail
    refine HBU.out.mono ?_
    rintro e w3 ⟨l3, v, rfl, hG⟩
    clear k1 HBU
    obtain ⟨g, c, e, hg⟩ := hG.form
    have hRG := hG.rd
    generalize hn : tx.length = n at e
    subst e
    have L3 : Later w w3 := L2.trans l3
    clear hG hn
    go_upto_region 4 with fail
    go_wp2_with fail
    refine (HPP.out w3 _ L3 hRG).mono ?_
    rintro e w4 ⟨l4, v, rfl, hq⟩
    obtain ⟨vh4, vb4, rfl, hI4, hR4⟩ := hq
    clear hRG HPP
    simp only at hI4 hR4
    rw [nmsB_str zb hy] at hR4
    obtain ⟨ha4, hc4, rfl, _, _⟩ := hI4.slice
    obtain ⟨xa4, xc4, rfl, _, _⟩ := hR4.slice
    have L4 : Later w w4 := L3.trans l4
    have l5 := later_allocR w4 (.cells #[.string st, .slice ha4 hl.length hc4, .slice xa4 zb.length xc4] 25)
    have C5 := hide (heap_alloc_new w4 (.cells #[.string st, .slice ha4 hl.length hc4, .slice xa4 zb.length xc4] 25))
    have HI5 := hide (hI4.later l5)
    have HR5 := hide (hR4.later l5)
    have C15 := hide (later_keep ((l3.trans l4).trans l5) C1.out)
    go_upto_region 5 with fail
    change Code.wp _ _ _ _ (w4.alloc (.cells #[.string st, .slice ha4 hl.length hc4, .slice xa4 zb.length xc4] 25))
    have L5 : Later w (w4.alloc (.cells #[.string st, .slice ha4 hl.length hc4, .slice xa4 zb.length xc4] 25)) := L4.trans l5
    have L25 : Later w2 (w4.alloc (.cells #[.string st, .slice ha4 hl.length hc4, .slice xa4 zb.length xc4] 25)) := (l3.trans l4).trans l5
    generalize w4.alloc (.cells #[.string st, .slice ha4 hl.length hc4, .slice xa4 zb.length xc4] 25) = w5 at *
    generalize w4.heap.size = gq at *
    have HSM := hide (same14_any st st _ _ _ _ hl hl zb zb w5 (HI.out w5 L25) HI5.out (HBB.out w5 L5) HR5.out hy hy)
    rw [smM_self] at HSM
    have k5 := block_cell C5.out
    have k1 := block_cell C15.out
    clear hI4 hR4 l5 l4 l3
    go_wp2_with fail
    refine HSM.out.mono ?_
    rintro e w6 ⟨rfl, l6⟩
    clear k5 k1 HSM
    have L6 : Later w w6 := L5.trans l6
    clear HI HI5 HR5 C5 C15 C1
    go_upto_region 7 with fail
    go_wp2_with fail
    refine (HP2.out w6 L6).mono ?_
    rintro e x1 ⟨m1, v, rfl, hq⟩
    obtain ⟨vh5, vb5, rfl, hI5, hR5⟩ := hq
    obtain ⟨ha5, hc5, rfl, _, _⟩ := hI5.slice
    obtain ⟨xa5, xc5, rfl, _, _⟩ := hR5.slice
    have M1 : Later w x1 := Later.trans L6 m1
    have ma := later_allocR x1 (.cells #[.string p1, .slice ha5 p2.length hc5, .slice xa5 (nmsB p3).length xc5] 25)
    have CP := hide (heap_alloc_new x1 (.cells #[.string p1, .slice ha5 p2.length hc5, .slice xa5 (nmsB p3).length xc5] 25))
    have HI5 := hide (fun W (l : Later x1 W) => hI5.later l)
    have HR5 := hide (fun W (l : Later x1 W) => hR5.later l)
    clear hI5 hR5
    go_upto_region 8 with fail
    change Code.wp _ _ _ _ (x1.alloc (.cells #[.string p1, .slice ha5 p2.length hc5, .slice xa5 (nmsB p3).length xc5] 25))
    generalize x1.alloc (.cells #[.string p1, .slice ha5 p2.length hc5, .slice xa5 (nmsB p3).length xc5] 25) = x2 at *
    generalize x1.heap.size = gp at *
    have M2 : Later w x2 := M1.trans ma
    by_cases hpe : pe = 0
    · have t0 : (pe != 0) = false := by simp [hpe]
      obtain ⟨hrg, htx⟩ := HYES.out hpe
      have HBU := hide (fun W (l : Later x1 W) (l2 : Later w W) => build14_yes p1 _ _ p2 (nmsB p3) W (hT.later l2) (HI5.out W l) (HR5.out W l) (by have := rgB_sz hrg; rw [nmsB_len]; omega) (by rw [nmsB_len]; exact hrg))
      rw [htx] at HBU
      clear hrg htx hpe HYES HNOT
      generalize (nmsB p3).length = n3 at *
      go_upto_region 10 with fail
      clear t0
      have kp := block_cell CP.out
      go_wp2_with fail
      refine (HBU.out x2 ma M2).mono ?_
      rintro e x3 ⟨m3, v, rfl, hG⟩
      clear kp
      have M3 : Later w x3 := M2.trans m3
      obtain ⟨gq, cq, e, hgq⟩ := hG.form
      subst e
      have HGR := hide hG.rd
      clear hG
      go_upto_region 11 with fail
      go_wp2_with fail
      refine (HL.out x3 M3).mono ?_
      rintro e x4 ⟨rfl, m4⟩
      have M4 : Later w x4 := M3.trans m4
      have c1 := conv_rd 22 9 5 Tryd.underlying22 Tryd.underlying5 Tryd.underlying9 (HGR.out.later m4)
      have c2 := conv_rd 22 9 5 Tryd.underlying22 Tryd.underlying5 Tryd.underlying9 (hB2.later M4)
      generalize strOfNums z2 = s2 at *
      have hsq : (s2.toList == s2.toList) = true := by simp
      go_wp2_with fail
      go_ret
      exact ⟨rfl, M4⟩
    · have t0 : (pe != 0) = true := by simp [hpe]
      have hem := HNOT.out hpe
      clear hpe HYES HNOT
      simp only [Prod.mk.injEq] at hem
      obtain ⟨rfl, rfl, rfl⟩ := hem
      go_upto_region 9 with fail
      clear t0
      go_wp2_with fail
      refine (HL.out x2 M2).mono ?_
      rintro e x4 ⟨rfl, m4⟩
      have M4 : Later w x4 := M2.trans m4
      have kp := block_cell (later_keep m4 CP.out)
      have HSM := hide (same14_any ⟨#[]⟩ ⟨#[]⟩ _ (.slice none 0 0) _ (.slice none 0 0) [] [] [] [] x4 (HI5.out x4 (ma.trans m4)) (rdM_nil _ _) (HR5.out x4 (ma.trans m4)) (rd_nil14 _ _) (fun z hz => by cases hz) (fun z hz => by cases hz))
      rw [smM_self] at HSM
      go_wp2_with fail
      refine HSM.out.mono ?_
      rintro e x5 ⟨rfl, m5⟩
      clear kp
      go_wp2_with fail
      go_ret
      exact ⟨rfl, M4.trans m5⟩
  | false =>
    have HBU := hide (build14_no st _ _ hl zb w2 (hT.later L2) (HI.out w2 (Later.refl _)) (HBB.out w2 L2) hzz hrg)
    clear hrg
    go_wp2_with fail
    refine HBU.out.mono ?_
    rintro e w3 ⟨rfl, l3⟩
    clear k1 HBU
    have L3 : Later w w3 := L2.trans l3
    clear HI C1
    go_upto_region 7 with fail
    go_wp2_with fail
    refine (HP2.out w3 L3).mono ?_
    rintro e x1 ⟨m1, v, rfl, hq⟩
    obtain ⟨vh5, vb5, rfl, hI5, hR5⟩ := hq
    obtain ⟨ha5, hc5, rfl, _, _⟩ := hI5.slice
    obtain ⟨xa5, xc5, rfl, _, _⟩ := hR5.slice
    have M1 : Later w x1 := Later.trans L3 m1
    have ma := later_allocR x1 (.cells #[.string p1, .slice ha5 p2.length hc5, .slice xa5 (nmsB p3).length xc5] 25)
    have CP := hide (heap_alloc_new x1 (.cells #[.string p1, .slice ha5 p2.length hc5, .slice xa5 (nmsB p3).length xc5] 25))
    have HI5 := hide (fun W (l : Later x1 W) => hI5.later l)
    have HR5 := hide (fun W (l : Later x1 W) => hR5.later l)
    clear hI5 hR5
    go_upto_region 8 with fail
    change Code.wp _ _ _ _ (x1.alloc (.cells #[.string p1, .slice ha5 p2.length hc5, .slice xa5 (nmsB p3).length xc5] 25))
    generalize x1.alloc (.cells #[.string p1, .slice ha5 p2.length hc5, .slice xa5 (nmsB p3).length xc5] 25) = x2 at *
    generalize x1.heap.size = gp at *
    have M2 : Later w x2 := M1.trans ma
    by_cases hpe : pe = 0
    · have t0 : (pe != 0) = false := by simp [hpe]
      obtain ⟨hrg, htx⟩ := HYES.out hpe
      have HBU := hide (fun W (l : Later x1 W) (l2 : Later w W) => build14_yes p1 _ _ p2 (nmsB p3) W (hT.later l2) (HI5.out W l) (HR5.out W l) (by have := rgB_sz hrg; rw [nmsB_len]; omega) (by rw [nmsB_len]; exact hrg))
      rw [htx] at HBU
      clear hrg htx hpe HYES HNOT
      generalize (nmsB p3).length = n3 at *
      go_upto_region 10 with fail
      clear t0
      have kp := block_cell CP.out
      go_wp2_with fail
      refine (HBU.out x2 ma M2).mono ?_
      rintro e x3 ⟨m3, v, rfl, hG⟩
      clear kp
      have M3 : Later w x3 := M2.trans m3
      obtain ⟨gq, cq, e, hgq⟩ := hG.form
      subst e
      have HGR := hide hG.rd
      clear hG
      go_upto_region 11 with fail
      go_wp2_with fail
      refine (HL.out x3 M3).mono ?_
      rintro e x4 ⟨rfl, m4⟩
      have M4 : Later w x4 := M3.trans m4
      have c1 := conv_rd 22 9 5 Tryd.underlying22 Tryd.underlying5 Tryd.underlying9 (HGR.out.later m4)
      have c2 := conv_rd 22 9 5 Tryd.underlying22 Tryd.underlying5 Tryd.underlying9 (hB2.later M4)
      generalize strOfNums z2 = s2 at *
      have hsq : (s2.toList == s2.toList) = true := by simp
      go_wp2_with fail
      go_ret
      exact ⟨rfl, M4⟩
    · have t0 : (pe != 0) = true := by simp [hpe]
      have hem := HNOT.out hpe
      clear hpe HYES HNOT
      simp only [Prod.mk.injEq] at hem
      obtain ⟨rfl, rfl, rfl⟩ := hem
      go_upto_region 9 with fail
      clear t0
      go_wp2_with fail
      refine (HL.out x2 M2).mono ?_
      rintro e x4 ⟨rfl, m4⟩
      have M4 : Later w x4 := M2.trans m4
      have kp := block_cell (later_keep m4 CP.out)
      have HSM := hide (same14_any ⟨#[]⟩ ⟨#[]⟩ _ (.slice none 0 0) _ (.slice none 0 0) [] [] [] [] x4 (HI5.out x4 (ma.trans m4)) (rdM_nil _ _) (HR5.out x4 (ma.trans m4)) (rd_nil14 _ _) (fun z hz => by cases hz) (fun z hz => by cases hz))
      rw [smM_self] at HSM
      go_wp2_with fail
      refine HSM.out.mono ?_
      rintro e x5 ⟨rfl, m5⟩
      clear kp
      go_wp2_with fail
      go_ret
      exact ⟨rfl, M4.trans m5⟩
end Go.Proofs.YtehdgndbloaljaaDoor
