/- Package table: where a key's row stands in a list; lists of buckets; find. -/
import Derived.Test.YtahphjindjlcpaaBA
namespace Go.Proofs.Ytahphjindjlcpaa
open Go.RowKit Go.Shelf
set_option maxRecDepth 100000
set_option linter.unusedVariables false
set_option linter.unusedSimpArgs false

def kix (kp ks kd ka kb : Int) (l : List Rw) : Option Nat := l.findIdx? (isK kp ks kd ka kb)
theorem kix_none {kp ks kd ka kb : Int} {l : List Rw} (h : ∀ j (hj : j < l.length), isK kp ks kd ka kb l[j] = false) : kix kp ks kd ka kb l = none := by
  unfold kix
  rw [List.findIdx?_eq_none_iff]
  intro r hr
  obtain ⟨j, hj, rfl⟩ := List.getElem_of_mem hr
  exact h j hj
theorem kix_some {kp ks kd ka kb : Int} {l : List Rw} {k : Nat} (hk : k < l.length) (h : ∀ j (hj : j < l.length), j < k → isK kp ks kd ka kb l[j] = false) (ht : isK kp ks kd ka kb l[k] = true) : kix kp ks kd ka kb l = some k := by
  unfold kix
  rw [List.findIdx?_eq_some_iff_getElem]
  exact ⟨hk, ht, fun j hj => by simpa using h j (by omega) hj⟩

set_option maxHeartbeats 4000000 in
theorem index_any (n₀ g : Nat) (sv : Value) (l : List Rw) (kp ks kd ka kb : Int) (w : World) (hn : n₀ ≤ w.heap.size) (hI : RdR n₀ w sv l) (hg : w.heap[g]? = some (.cells #[.int .u8 kp, .int .u32 ks, .int .u32 kd, .int .u16 ka, .int .u16 kb] 26 (0, 0))) :
    Calls Try.prog 56 #[sv, .func (.func 50) #[] #[.pointer (some ⟨g, 0, none⟩)]] w fun e w' => Below w.heap.size w w' ∧ ((kix kp ks kd ka kb l = none ∧ e = .returned (.int .i64 (-1))) ∨ ∃ k : Nat, kix kp ks kd ka kb l = some k ∧ k < l.length ∧ e = .returned (.int .i64 (k : Int))) := by
  obtain ⟨a, cap, rfl, hc1, hc2⟩ := hI.slice
  have hlb : (l.length : Int) ≤ 9223372036854775807 := by omega
  go_enter Try.func56, Try.ntmps56
  go_wp2_with fail
  go_loopw [8] (fun i wr => ∃ k : Nat, k ≤ l.length ∧ i = .int .i64 (k : Int) ∧ (∀ j (hj : j < l.length), j < k → isK kp ks kd ka kb l[j] = false) ∧ Below w.heap.size w wr) (fun i _ => l.length - (intOf i).toNat)
  case atStart => exact ⟨0, by omega, rfl, fun j _ h => by omega, Below.refl _ _⟩
  case round =>
    obtain ⟨k, hk, rfl, hz, hbw⟩ := hrel
    have HZ := hide hz
    clear hz
    by_cases hlt : k < l.length
    · obtain ⟨b, off, cp, e, _, _, hbb, hcs⟩ := (hI.below (hbw.mono hn)).cells (by omega)
      simp at e
      obtain ⟨rfl, rfl⟩ := e
      have hgr := later_keep hbw hg
      have c0 := hcs k hlt 0 (by omega)
      have c1 := hcs k hlt 1 (by omega)
      have c2 := hcs k hlt 2 (by omega)
      have c3 := hcs k hlt 3 (by omega)
      have c4 := hcs k hlt 4 (by omega)
      have c5 := hcs k hlt 5 (by omega)
      have c6 := hcs k hlt 6 (by omega)
      have c7 := hcs k hlt 7 (by omega)
      have hlt' : (k : Int) < l.length := by omega
      clear hcs
      generalize hgo : l[k] = r at *
      have HGO := hide hgo
      clear hgo
      have HR : Hid (Value.agg (rwc r).toArray = .agg #[.int .u8 r.p, .int .u32 r.s, .int .u32 r.d, .int .u16 r.a, .int .u16 r.b, .int .i64 r.id, .int .i64 r.till, .int .i64 r.turn]) := rfl
      have hci := is_any r g kp ks kd ka kb wr hgr
      rw [HR.out] at hci
      simp only [rwc, List.getElem?_cons_zero, List.getElem?_cons_succ, Nat.add_zero] at c0 c1 c2 c3 c4 c5 c6 c7
      have HCI := hide hci
      clear hci
      go_wp2_with fail
      refine HCI.out.mono ?_
      rintro e w' ⟨rfl, hb'⟩
      have hw' := hbw.trans (hb'.mono hbw.size)
      cases ht : isK kp ks kd ka kb r with
      | true =>
        have HTT := hide ht
        clear ht c0 c1 c2 c3 c4 c5 c6 c7
        go_wp2_with fail
        go_ret
        exact ⟨hw', .inr ⟨k, kix_some hlt HZ.out (by rw [HGO.out]; exact HTT.out), hlt, rfl⟩⟩
      | false =>
        have HTT := hide ht
        clear ht c0 c1 c2 c3 c4 c5 c6 c7
        go_wp2_with fail
        go_roundw
        case rel => exact ⟨k + 1, by omega, by go_num, fun j hj hjk => by by_cases h : j = k; (subst h; rw [HGO.out]; exact HTT.out); exact HZ.out j hj (by omega), hw'⟩
        case measure => simp [intOf]; omega
    · obtain rfl : k = l.length := by omega
      go_wp2_with fail
      go_ret
      exact ⟨hbw, .inl ⟨kix_none (fun j hj => HZ.out j hj hj), rfl⟩⟩

/-- A table as it lies in memory: at block b; its lists, each in a block of its own. -/
def TBv (base : Nat) (W : World) (b : Nat) (lim cnt trn : Int) (vs : List Value) (ls : Nat → List Rw) : Prop :=
  vs.length = 256 ∧ base ≤ b ∧ W.heap[b]? = some (.cells (.int .i64 lim :: .int .i64 cnt :: .int .i64 trn :: vs).toArray 62 (0, 0)) ∧
  (∀ i, i < 256 → W.ownsRow base 65 8 (vs[i]?.getD undef) (ls i).length (rws (ls i))) ∧
  ∀ i j, i < 256 → j < 256 → i ≠ j → ∀ g, (vs[i]?.getD undef).ownBlock = some g → (vs[j]?.getD undef).ownBlock ≠ some g
def TB (base : Nat) (W : World) (b : Nat) (lim cnt trn : Int) (ls : Nat → List Rw) : Prop := ∃ vs, TBv base W b lim cnt trn vs ls
theorem ownR_later {base : Nat} {A B : World} {v : Value} {n : Nat} {xs : List Value} (h : A.ownsRow base 65 8 v n xs) (l : Later A B) : B.ownsRow base 65 8 v n xs := by
  obtain ⟨h1, h2 | ⟨g, cap, cur, hv, hg, hh, r⟩⟩ := h
  · exact ⟨h1, .inl h2⟩
  · exact ⟨h1, .inr ⟨g, cap, cur, hv, hg, later_keep l hh, r⟩⟩
theorem TBv.later {base : Nat} {A B : World} {b : Nat} {lim cnt trn : Int} {vs : List Value} {ls : Nat → List Rw} (h : TBv base A b lim cnt trn vs ls) (l : Later A B) : TBv base B b lim cnt trn vs ls :=
  ⟨h.1, h.2.1, later_keep l h.2.2.1, fun i hi => ownR_later (h.2.2.2.1 i hi) l, h.2.2.2.2⟩
theorem TB.later {base : Nat} {A B : World} {b : Nat} {lim cnt trn : Int} {ls : Nat → List Rw} (h : TB base A b lim cnt trn ls) (l : Later A B) : TB base B b lim cnt trn ls := by
  obtain ⟨vs, h⟩ := h
  exact ⟨vs, h.later l⟩
theorem TBv.cell {base : Nat} {W : World} {b : Nat} {lim cnt trn : Int} {vs : List Value} {ls : Nat → List Rw} (h : TBv base W b lim cnt trn vs ls) (i : Nat) (hi : i < 256) : W.cell? ⟨b, 3 + i, none⟩ = some (vs[i]?.getD undef) := by
  rw [block_cell h.2.2.1]
  simp only [List.getElem?_toArray]
  rw [show 3 + i = i + 1 + 1 + 1 from by omega]
  simp [show i < vs.length from by rw [h.1]; exact hi]

set_option maxHeartbeats 1000000 in
theorem list_any (b : Nat) (h : Int) (w : World) (hh : 0 ≤ h ∧ h ≤ 4294967295) :
    Calls Try.prog 47 #[.pointer (some ⟨b, 3, none⟩), .int .u32 h] w fun e w' => e = .returned (.pointer (some ⟨b, 3 + (h % 256).toNat, none⟩)) ∧ w' = w := by
  obtain ⟨r, hr⟩ : ∃ r : Nat, h % 256 = (r : Int) := ⟨(h % 256).toNat, by omega⟩
  have hrt : h.tmod 256 = (r : Int) := by rw [Int.tmod_eq_emod_of_nonneg hh.1]; exact hr
  have hr3 : (r : Int) < 256 := by omega
  rw [hr, Int.toNat_natCast]
  have HR := hide hr
  clear hr
  go_enter Try.func47, Try.ntmps47
  go_wp2_with fail
  go_ret
  exact ⟨by simp, rfl⟩

set_option maxHeartbeats 2000000 in
theorem bfind_any (base b g : Nat) (lim cnt trn : Int) (vs : List Value) (ls : Nat → List Rw) (h : Int) (kp ks kd ka kb : Int) (w : World) (hT : TBv base w b lim cnt trn vs ls) (hh : 0 ≤ h ∧ h ≤ 4294967295) (hg : w.heap[g]? = some (.cells #[.int .u8 kp, .int .u32 ks, .int .u32 kd, .int .u16 ka, .int .u16 kb] 26 (0, 0))) :
    Calls Try.prog 46 #[.pointer (some ⟨b, 3, none⟩), .int .u32 h, .func (.func 50) #[] #[.pointer (some ⟨g, 0, none⟩)]] w fun e w' => Below w.heap.size w w' ∧
      ((kix kp ks kd ka kb (ls (h % 256).toNat) = none ∧ e = .returned (.pointer none)) ∨ ∃ k g2 cap, kix kp ks kd ka kb (ls (h % 256).toNat) = some k ∧ k < (ls (h % 256).toNat).length ∧ vs[(h % 256).toNat]?.getD undef = .slice (some ⟨g2, 0, none⟩) (ls (h % 256).toNat).length cap ∧ e = .returned (.pointer (some ⟨g2, k * 8, none⟩))) := by
  have hi : (h % 256).toNat < 256 := by omega
  have hc := hT.cell _ hi
  have hO := hT.2.2.2.1 _ hi
  generalize hii : (h % 256).toNat = i at *
  have HI := hide hii
  clear hii
  generalize hvs : vs[i]?.getD undef = v at *
  have HVS := hide hvs
  clear hvs
  have hR := ownR_rd hO
  have HO := hide hO
  clear hO
  obtain ⟨a, cap, rfl, hcp, hcm⟩ := hR.slice
  go_enter Try.func46, Try.ntmps46
  go_wp2_with fail
  refine (list_any b h w hh).mono ?_
  rw [HI.out]
  rintro e w1 ⟨rfl, rfl⟩
  go_wp2_with fail
  refine (index_any w1.heap.size g _ (ls i) kp ks kd ka kb w1 (Nat.le_refl _) hR hg).mono ?_
  rintro e w2 ⟨hb2, ⟨hk, rfl⟩ | ⟨k, hk, hkl, rfl⟩⟩
  · have HK := hide hk
    clear hk hc
    go_wp2_with fail
    go_ret
    exact ⟨hb2, .inl ⟨HK.out, rfl⟩⟩
  · have HK := hide hk
    clear hk hc
    obtain ⟨_, ⟨_, h0⟩ | ⟨g2, cap2, cur, e2, _⟩⟩ := HO.out
    · omega
    simp at e2
    obtain ⟨rfl, rfl⟩ := e2
    have hkl' : (k : Int) < (ls i).length := by omega
    go_wp2_with fail
    go_ret
    exact ⟨hb2, .inr ⟨k, g2, cap, HK.out, hkl, rfl, rfl⟩⟩
end Go.Proofs.Ytahphjindjlcpaa
