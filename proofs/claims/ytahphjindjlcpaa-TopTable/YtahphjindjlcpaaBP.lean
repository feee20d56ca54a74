/- Package table: slices.DeleteFunc of one row. -/
import Derived.Test.YtahphjindjlcpaaBO
import Derived.Test.YtahphjindjlcpaaBK
import Derived.Deep.DeepCutAuto
import Derived.Deep.CutBlock
namespace Go.Proofs.Ytahphjindjlcpaa
open Go.RowKit Go.Shelf
set_option maxRecDepth 100000
set_option linter.unusedVariables false
set_option linter.unusedSimpArgs false

def zRw : Rw := ⟨0, 0, 0, 0, 0, 0, 0, 0⟩
theorem rws_append (l m : List Rw) : rws (l ++ m) = rws l ++ rws m := by unfold rws; simp
theorem rws_cons (r : Rw) (l : List Rw) : rws (r :: l) = rwc r ++ rws l := by unfold rws; simp

theorem clearR (w : World) (ty : TypeId) (g o c : Nat) (cur : Array Value) (hh : w.heap[g]? = some (.cells cur 65 (0, 0))) (ho : o + 8 ≤ cur.size) :
    (Builtin.clear_ #[57] ty #[.slice (some ⟨g, o, none⟩) 1 c]).run Try.prog w = .ok (.tuple #[]) (putRow w g o (rwc zRw)) := by
  have hc := block_cell hh
  have hf := block_frozen hh
  have hk : ∀ j, j < 8 → ∃ u, w.cell? ⟨g, o + j, none⟩ = some u := fun j hj => ⟨cur[o + j]'(by omega), by rw [hc]; simp⟩
  obtain ⟨u0, k0⟩ := hk 0 (by omega)
  obtain ⟨u1, k1⟩ := hk 1 (by omega)
  obtain ⟨u2, k2⟩ := hk 2 (by omega)
  obtain ⟨u3, k3⟩ := hk 3 (by omega)
  obtain ⟨u4, k4⟩ := hk 4 (by omega)
  obtain ⟨u5, k5⟩ := hk 5 (by omega)
  obtain ⟨u6, k6⟩ := hk 6 (by omega)
  obtain ⟨u7, k7⟩ := hk 7 (by omega)
  clear hk hc
  unfold Builtin.clear_
  go_simp
  have e : (Builtin.zeroCells #[Value.int .u8 0, .int .u32 0, .int .u32 0, .int .u16 0, .int .u16 0, .int .i64 0, .int .i64 0, .int .i64 0] 1).toList = [Value.int .u8 0, .int .u32 0, .int .u32 0, .int .u16 0, .int .u16 0, .int .i64 0, .int .i64 0, .int .i64 0] := by kernel_rfl
  rw [e]
  simp only [Nat.add_zero] at k0
  simp only [storeCells]
  go_simp
  rfl

/-- What stands ahead when rows up to p are looked at, without the k-th. -/
def ahd6 (l : List Rw) (k p : Nat) : List Rw := l.take k ++ (l.drop (k + 1)).take (p - 1 - k)
theorem ahd6_length {l : List Rw} {k p : Nat} (hk : k < p) (hp : p ≤ l.length) : (ahd6 l k p).length = p - 1 := by unfold ahd6; simp; omega
theorem ahd6_first (l : List Rw) (k : Nat) : ahd6 l k (k + 1) = l.take k := by unfold ahd6; simp
theorem ahd6_next {l : List Rw} {k p : Nat} (hk : k < p) (hp : p < l.length) : ahd6 l k (p + 1) = ahd6 l k p ++ [l[p]] := by
  unfold ahd6
  rw [List.append_assoc]
  congr 1
  rw [show p + 1 - 1 - k = (p - 1 - k) + 1 from by omega]
  have h : p - 1 - k < (l.drop (k + 1)).length := by simp; omega
  rw [← List.take_append_getElem h]
  congr 2
  rw [List.getElem_drop]
  congr 1
  omega
theorem ahd6_last (l : List Rw) (k : Nat) (hk : k < l.length) : ahd6 l k l.length = l.eraseIdx k := by
  unfold ahd6
  rw [List.eraseIdx_eq_take_drop_succ]
  congr 1
  exact List.take_of_length_le (by rw [List.length_drop]; omega)

set_option maxHeartbeats 8000000 in
theorem delfunc_any (base g cap gk : Nat) (l : List Rw) (k : Nat) (kp ks kd ka kb : Int) (w : World) (hk : k < l.length) (hkx : kix kp ks kd ka kb l = some k) (hun : ∀ j (hj : j < l.length), j ≠ k → isK kp ks kd ka kb l[j] = false)
    (hO : w.ownsRow base 65 8 (.slice (some ⟨g, 0, none⟩) l.length cap) l.length (rws l)) (hg : w.heap[gk]? = some (.cells #[.int .u8 kp, .int .u32 ks, .int .u32 kd, .int .u16 ka, .int .u16 kb] 26 (0, 0))) :
    Calls Try.prog 49 #[.slice (some ⟨g, 0, none⟩) l.length cap, .func (.func 50) #[] #[.pointer (some ⟨gk, 0, none⟩)]] w fun e w' => e = .returned (.slice (some ⟨g, 0, none⟩) (l.length - 1) cap) ∧ w'.ownsRow base 65 8 (.slice (some ⟨g, 0, none⟩) (l.length - 1) cap) (l.length - 1) (rws (l.eraseIdx k)) ∧ But (fun b => b = g) w w' := by
  have hrd := ownR_rd hO
  obtain ⟨h1, ⟨e, _⟩ | ⟨g2, cap2, cur, e, hgb, hh, hl, hm, hs, hc⟩⟩ := hO
  · cases e
  obtain ⟨rfl, rfl⟩ : g = g2 ∧ cap = cap2 := by simpa using e
  clear e
  have hne : gk ≠ g := fun e => by rw [e, hh] at hg; simp at hg
  obtain ⟨post, hpost⟩ : ∃ post, cur.toList = rws l ++ post := ⟨cur.toList.drop (l.length * 8), by rw [← hc, List.take_append_drop]⟩
  have hplen : post.length = (cap - l.length) * 8 := by
    have := congrArg List.length hpost
    rw [List.length_append, rws_length, Array.length_toList, hs] at this
    omega
  have hcur0 : w.heap[g]? = some (.cells (rws (ahd6 l k (k + 1)) ++ (rwc l[k] ++ (rws (l.drop (k + 1)) ++ post))).toArray 65 (0, 0)) := by
    rw [hh, ahd6_first]
    congr 2
    apply Array.ext'
    simp only [List.toList_toArray]
    rw [hpost]
    conv => lhs; rw [← List.take_append_drop k l, List.drop_eq_getElem_cons hk]
    rw [rws_append, rws_cons]
    simp
  have HRD := hide hrd
  have HKX := hide hkx
  have HUN := hide hun
  have HC0 := hide hcur0
  clear hrd hkx hun hcur0 hpost hc hh h1 hs
  have hm' : cap ≤ 9223372036854775807 := by simpa [maxLen] using hm
  go_enter Try.func49, Try.ntmps49
  go_wp2_with fail
  refine (index_any w.heap.size gk _ l kp ks kd ka kb w (Nat.le_refl _) HRD.out hg).mono ?_
  rintro e w1 ⟨b1, (⟨hn, _⟩ | ⟨k', hk', hk2, rfl⟩)⟩
  · rw [HKX.out] at hn; cases hn
  obtain rfl : k = k' := by rw [HKX.out] at hk'; simpa using hk'
  have l1 : Later w w1 := b1
  clear hk' hk2
  have i1 : (k : Int) < l.length := by omega
  have i2 : ¬ ((k : Int) = -1) := by omega
  have g1 := later_keep l1 hg
  have c1 := later_keep l1 HC0.out
  go_wp2_with fail
  go_loopw [5, 6] (fun i j wr => ∃ p : Nat, k < p ∧ p ≤ l.length ∧ i = .int .i64 ((p : Int) - 1) ∧ j = .int .i64 (p : Int) ∧ But (fun b => b = g) w1 wr ∧ ∃ mid : List Value, mid.length = 8 ∧ wr.heap[g]? = some (.cells (rws (ahd6 l k p) ++ (mid ++ (rws (l.drop p) ++ post))).toArray 65 (0, 0))) (fun _ j _ => l.length - (intOf j).toNat)
  case atStart => exact ⟨k + 1, by omega, by omega, by simp, by simp, But.refl _ _, rwc l[k], rfl, c1⟩
  case round =>
    obtain ⟨p, hkp, hpn, rfl, rfl, hbt, mid, hmid, hcr⟩ := hrel
    have hgr := (hbt.block gk (Array.getElem?_eq_some_iff.1 g1).1 hne).trans g1
    have hal := ahd6_length hkp hpn
    have hrl : (rws (ahd6 l k p)).length = (p - 1) * 8 := by rw [rws_length, hal]
    by_cases hlt : p < l.length
    · have hlt' : (p : Int) < l.length := by omega
      have hck := block_cell hcr
      have hdp : l.drop p = l[p] :: l.drop (p + 1) := List.drop_eq_getElem_cons hlt
      have hat : ∀ i, i < 8 → wr.cell? ⟨g, p * 8 + i, none⟩ = (rwc l[p])[i]? := fun i hi => by
        rw [hck, List.getElem?_toArray, List.getElem?_append_right (by omega), hrl, List.getElem?_append_right (by omega), hmid, List.getElem?_append_left (by rw [rws_length, List.length_drop]; omega), hdp, rws_cons, List.getElem?_append_left (by rw [rwc_length]; omega)]
        congr 1
        omega
      have c0 := hat 0 (by omega)
      have c1' := hat 1 (by omega)
      have c2 := hat 2 (by omega)
      have c3 := hat 3 (by omega)
      have c4 := hat 4 (by omega)
      have c5 := hat 5 (by omega)
      have c6 := hat 6 (by omega)
      have c7 := hat 7 (by omega)
      have hnk := HUN.out p hlt (by omega)
      have hnx := ahd6_next hkp hlt
      generalize hgo : l[p] = r at *
      have HNK := hide hnk
      have HNX := hide hnx
      have HDP := hide hdp
      clear hat hck hgo hnk hnx hdp
      simp only [rwc, List.getElem?_cons_zero, List.getElem?_cons_succ, Nat.add_zero] at c0 c1' c2 c3 c4 c5 c6 c7
      have la : Later wr (wr.alloc (.cells #[.int .u8 r.p, .int .u32 r.s, .int .u32 r.d, .int .u16 r.a, .int .u16 r.b, .int .i64 r.id, .int .i64 r.till, .int .i64 r.turn] 65)) := (Below.refl _ _).alloc (Nat.le_refl _) _
      have xa := heap_alloc_new wr (.cells #[.int .u8 r.p, .int .u32 r.s, .int .u32 r.d, .int .u16 r.a, .int .u16 r.b, .int .i64 r.id, .int .i64 r.till, .int .i64 r.turn] 65)
      go_upto_region 8 with fail
      generalize wr.alloc _ = wa at *
      generalize hxb : wr.heap.size = xb at *
      have hgx : g < xb := by rw [← hxb]; exact (Array.getElem?_eq_some_iff.1 hcr).1
      clear c0 c1' c2 c3 c4 c5 c6 c7 hxb
      have xk := block_cell xa
      have ga := later_keep la hgr
      have ca := later_keep la hcr
      have hci := is_any r gk kp ks kd ka kb wa ga
      rw [show Value.agg (rwc r).toArray = .agg #[.int .u8 r.p, .int .u32 r.s, .int .u32 r.d, .int .u16 r.a, .int .u16 r.b, .int .i64 r.id, .int .i64 r.till, .int .i64 r.turn] from rfl, HNK.out] at hci
      have HCI := hide hci
      clear hci
      go_wp2_with fail
      refine HCI.out.mono ?_
      rintro e wb ⟨rfl, hbb⟩
      have lbb : Later wa wb := hbb
      have xkb := block_cell (later_keep lbb xa)
      have cb := later_keep lbb ca
      have hckb := block_cell cb
      have Fb := block_frozen cb
      have hex : ∀ i, i < 8 → ∃ u, wb.cell? ⟨g, (p - 1) * 8 + i, none⟩ = some u := fun i hi => by
        rw [hckb, List.getElem?_toArray, List.getElem?_append_right (by omega), hrl, Nat.add_sub_cancel_left, List.getElem?_append_left (by omega)]
        exact ⟨mid[i]'(by omega), by simp⟩
      obtain ⟨u0, x0⟩ := hex 0 (by omega)
      obtain ⟨u1, x1⟩ := hex 1 (by omega)
      obtain ⟨u2, x2⟩ := hex 2 (by omega)
      obtain ⟨u3, x3⟩ := hex 3 (by omega)
      obtain ⟨u4, x4⟩ := hex 4 (by omega)
      obtain ⟨u5, x5⟩ := hex 5 (by omega)
      obtain ⟨u6, x6⟩ := hex 6 (by omega)
      obtain ⟨u7, x7⟩ := hex 7 (by omega)
      simp only [Nat.add_zero] at x0
      have hput : (putRow wb g ((p - 1) * 8) (rwc r)).heap[g]? = some (.cells (rws (ahd6 l k p) ++ (rwc r ++ (rws (l.drop p) ++ post))).toArray 65 (0, 0)) := by
        have := putRow_mid (rwc r) (rws (ahd6 l k p)) mid (rws (l.drop p) ++ post) wb cb (by rw [hmid, rwc_length])
        rw [hrl] at this
        exact this
      have hbp : But (fun b => b = g) w1 (putRow wb g ((p - 1) * 8) (rwc r)) := putRow_but (E := fun b => b = g) rfl _ _ _ _ (hbt.trans ((But.of la).trans (But.of lbb)))
      have HPUT := hide hput
      have HBP := hide hbp
      obtain ⟨q, rfl⟩ : ∃ q, p = q + 1 := ⟨p - 1, by omega⟩
      clear hex hckb hput hbp xk
      rw [show q + 1 - 1 = q from by omega] at x0 x1 x2 x3 x4 x5 x6 x7 HPUT HBP
      have e9 : ((q + 1 : Nat) : Int) - 1 = (q : Int) := by omega
      rw [e9]
      have q1 : (q : Int) < l.length := by omega
      go_wp2_with fail
      refine ⟨?_, by simp [intOf]; omega⟩
      iterate 23 apply Exists.intro
      refine ⟨?_, rfl⟩
      refine ⟨q + 1 + 1, by omega, by omega, by simp <;> omega, by simp, HBP.out, rwc r, rfl, ?_⟩
      rw [HNX.out, rws_append, List.append_assoc]
      have h := HPUT.out
      rw [HDP.out, rws_cons, List.append_assoc] at h
      have h2 : (putRow wb g (q * 8) (rwc r)).heap[g]? = some (.cells (rws (ahd6 l k (q + 1)) ++ (rws [r] ++ (rwc r ++ (rws (l.drop (q + 1 + 1)) ++ post)))).toArray 65 (0, 0)) := by
        rw [show rws [r] = rwc r from by simp [rws]]
        exact h
      exact h2
    · obtain rfl : p = l.length := by omega
      obtain ⟨q, hq⟩ : ∃ q, l.length = q + 1 := ⟨l.length - 1, by omega⟩
      have hfin : (putRow wr g (q * 8) (rwc zRw)).heap[g]? = some (.cells (rws (l.eraseIdx k) ++ (rwc zRw ++ post)).toArray 65 (0, 0)) := by
        have := putRow_mid (rwc zRw) (rws (ahd6 l k l.length)) mid (rws (l.drop l.length) ++ post) wr hcr (by rw [hmid, rwc_length])
        rw [hrl, ahd6_last l k hk, List.drop_length] at this
        simpa [rws, hq] using this
      have hbf : But (fun b => b = g) w (putRow wr g (q * 8) (rwc zRw)) := putRow_but (E := fun b => b = g) rfl _ _ _ _ ((But.of l1).trans hbt)
      have hrow : (putRow wr g (q * 8) (rwc zRw)).ownsRow base 65 8 (.slice (some ⟨g, 0, none⟩) q cap) q (rws (l.eraseIdx k)) := by
        have hle : (l.eraseIdx k).length = q := by rw [List.length_eraseIdx_of_lt hk, hq]; omega
        refine ⟨by rw [rws_length, hle], .inr ⟨g, cap, _, rfl, hgb, hfin, by omega, hm, ?_, ?_⟩⟩
        · simp only [List.size_toArray, List.length_append, rws_length, hle, rwc_length, hplen]
          omega
        · simp only [List.toList_toArray]
          rw [List.take_left' (by rw [rws_length, hle])]
      have hcs : wr.heap[g]? = some (.cells (rws (ahd6 l k l.length) ++ (mid ++ (rws (l.drop l.length) ++ post))).toArray 65 (0, 0)) := hcr
      have hcl := fun ty c => clearR wr ty g (q * 8) c _ hcs (by simp only [List.size_toArray, List.length_append, hrl, hmid]; omega)
      have HCR := hide hcl
      have HRW := hide hrow
      have HBF := hide hbf
      have HL1 : Hid (l.length - 1 = q) := show _ = _ from by omega
      clear hcl hrow hbf hfin hcs hcr hrl hal hgr hlt
      rw [hq]
      have hcq : q + 1 ≤ cap := by omega
      have HQ := hide hq
      clear hq
      have e9 : ((q + 1 : Nat) : Int) - 1 = (q : Int) := by omega
      rw [e9]
      have j1 : ¬ cap = q := by omega
      have j2 : q ≤ cap := by omega
      have j4 : (q : Int) ≤ (q : Int) + 1 := by omega
      have j5 : ¬ cap = 0 := by omega
      go_wp2_with fail
      rw [HCR.out]
      go_wp2_with fail
      go_ret
      rw [HL1.out]
      exact ⟨rfl, HRW.out, HBF.out⟩
end Go.Proofs.Ytahphjindjlcpaa
