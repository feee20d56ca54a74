/- Package table: Drop. -/
import Derived.Test.YtahphjindjlcpaaBP
namespace Go.Proofs.Ytahphjindjlcpaa
open Go.RowKit Go.Shelf
set_option maxRecDepth 100000
set_option linter.unusedVariables false
set_option linter.unusedSimpArgs false

/-- Without the row at a place. -/
def dpL (ls : Nat → List Rw) (i k : Nat) : Nat → List Rw := fun j => if j = i then (ls i).eraseIdx k else ls j
/-- No key stands twice in a list. -/
def UQ (l : List Rw) : Prop := ∀ kp ks kd ka kb i j (hi : i < l.length) (hj : j < l.length), isK kp ks kd ka kb l[i] = true → isK kp ks kd ka kb l[j] = true → i = j
theorem UQ.others {l : List Rw} (h : UQ l) {kp ks kd ka kb : Int} {k : Nat} (hk : kix kp ks kd ka kb l = some k) : ∀ j (hj : j < l.length), j ≠ k → isK kp ks kd ka kb l[j] = false := fun j hj hne => by
  unfold kix at hk
  rw [List.findIdx?_eq_some_iff_getElem] at hk
  obtain ⟨hkl, hkt, _⟩ := hk
  cases hb : isK kp ks kd ka kb l[j] with
  | false => rfl
  | true => exact absurd (h kp ks kd ka kb j k hj hkl hb hkt) hne

theorem TBv.dropped {base bt : Nat} {W W1 : World} {lim cnt trn : Int} {vs : List Value} {ls : Nat → List Rw} (hT : TBv base W bt lim cnt trn vs ls) (i : Nat) (hi : i < 256) {g cap k : Nat} (hk : k < (ls i).length) (hv : vs[i]?.getD undef = .slice (some ⟨g, 0, none⟩) (ls i).length cap)
    (hb : But (fun b => b = g) W W1) (hrow : W1.ownsRow base 65 8 (.slice (some ⟨g, 0, none⟩) ((ls i).length - 1) cap) ((ls i).length - 1) (rws ((ls i).eraseIdx k))) :
    TBv base (W1.setCell ⟨bt, 3 + i, none⟩ (.slice (some ⟨g, 0, none⟩) ((ls i).length - 1) cap)) bt lim cnt trn (vs.set i (.slice (some ⟨g, 0, none⟩) ((ls i).length - 1) cap)) (dpL ls i k) ∧ But (fun b => b = bt ∨ b = g) W (W1.setCell ⟨bt, 3 + i, none⟩ (.slice (some ⟨g, 0, none⟩) ((ls i).length - 1) cap)) := by
  obtain ⟨h1, h2, h3, h4, h5⟩ := hT
  have hO := h4 i hi
  rw [hv] at hO
  have hgt : ∃ cur, W.heap[g]? = some (.cells cur 65 (0, 0)) := by
    rcases hO.2 with ⟨e, _⟩ | ⟨g', cp, cur, e, _, hh, _⟩
    · cases e
    · cases e; exact ⟨cur, hh⟩
  have hne : bt ≠ g := fun e => by obtain ⟨cur, hh⟩ := hgt; rw [← e, h3] at hh; cases hh
  have hb3 : W1.heap[bt]? = some (.cells (.int .i64 lim :: .int .i64 cnt :: .int .i64 trn :: vs).toArray 62 (0, 0)) := (hb.block bt (Array.getElem?_eq_some_iff.1 h3).1 hne).trans h3
  have hset : (Value.int .i64 lim :: .int .i64 cnt :: .int .i64 trn :: vs).toArray.setIfInBounds (3 + i) (.slice (some ⟨g, 0, none⟩) ((ls i).length - 1) cap) = (Value.int .i64 lim :: .int .i64 cnt :: .int .i64 trn :: vs.set i (.slice (some ⟨g, 0, none⟩) ((ls i).length - 1) cap)).toArray := by
    rw [show 3 + i = i + 1 + 1 + 1 from by omega]
    simp
  have hV3 := heap_set1 hb3 (3 + i) (.slice (some ⟨g, 0, none⟩) ((ls i).length - 1) cap)
  rw [hset] at hV3
  have keep : ∀ (x : Nat) (o : Obj), x ≠ bt → W1.heap[x]? = some o → (W1.setCell ⟨bt, 3 + i, none⟩ (.slice (some ⟨g, 0, none⟩) ((ls i).length - 1) cap)).heap[x]? = some o := fun x o hx ho => hset_ne ho hx
  refine ⟨⟨by simpa using h1, h2, hV3, fun j hj => ?_, fun j k2 hj hk2 hjk x hx => ?_⟩, (⟨hb.os, hb.tape, hb.output, hb.size, fun x hx he => hb.block x hx (fun e => he (.inr e))⟩ : But (fun b => b = bt ∨ b = g) W W1).setCell (p := ⟨bt, 3 + i, none⟩) (.inl rfl) _⟩
  · by_cases hji : j = i
    · subst hji
      rw [List.getElem?_set_self (by omega)]
      unfold dpL
      rw [if_pos rfl, List.length_eraseIdx_of_lt hk]
      obtain ⟨q1, ⟨q2, q3⟩ | ⟨g2, cap2, cur, e, hgb, hh, q⟩⟩ := hrow
      · cases q2
      · refine ⟨q1, .inr ⟨g2, cap2, cur, e, hgb, keep g2 _ (fun e2 => ?_) hh, q⟩⟩
        rw [e2, hb3] at hh
        cases hh
    · rw [List.getElem?_set_ne (fun e => hji e.symm)]
      unfold dpL
      rw [if_neg hji]
      obtain ⟨q1, q2 | ⟨g2, cap2, cur, e, hgb, hh, q⟩⟩ := h4 j hj
      · exact ⟨q1, .inl q2⟩
      · have hgg : g2 ≠ g := fun e2 => h5 i j hi hj (fun e => hji e.symm) g (by rw [hv]; rfl) (by rw [e, e2]; rfl)
        refine ⟨q1, .inr ⟨g2, cap2, cur, e, hgb, keep g2 _ (fun e2 => ?_) ((hb.block g2 (Array.getElem?_eq_some_iff.1 hh).1 hgg).trans hh), q⟩⟩
        rw [e2, h3] at hh
        cases hh
  · by_cases hji : j = i
    · subst hji
      rw [List.getElem?_set_self (by omega)] at hx
      rw [List.getElem?_set_ne hjk]
      have : g = x := by simpa [Value.ownBlock] using hx
      subst this
      exact h5 j k2 hj hk2 hjk g (by rw [hv]; rfl)
    · rw [List.getElem?_set_ne (fun e => hji e.symm)] at hx
      by_cases hki : k2 = i
      · subst hki
        rw [List.getElem?_set_self (by omega)]
        intro e
        have : g = x := by simpa [Value.ownBlock] using e
        subst this
        exact h5 j k2 hj hk2 hjk g hx (by rw [hv]; rfl)
      · rw [List.getElem?_set_ne (fun e => hki e.symm)]
        exact h5 j k2 hj hk2 hjk x hx

set_option maxHeartbeats 4000000 in
theorem remove_any (base bt gk : Nat) (lim cnt trn : Int) (vs : List Value) (ls : Nat → List Rw) (h : Int) (i k : Nat) (kp ks kd ka kb : Int) (w : World) (hT : TBv base w bt lim cnt trn vs ls) (hh : 0 ≤ h ∧ h ≤ 4294967295) (hhi : (h % 256).toNat = i) (hu : UQ (ls i)) (hk : kix kp ks kd ka kb (ls i) = some k)
    (hg : w.heap[gk]? = some (.cells #[.int .u8 kp, .int .u32 ks, .int .u32 kd, .int .u16 ka, .int .u16 kb] 26 (0, 0))) :
    Calls Try.prog 37 #[.pointer (some ⟨bt, 3, none⟩), .int .u32 h, .func (.func 50) #[] #[.pointer (some ⟨gk, 0, none⟩)]] w fun e w' => e = .returned (.tuple #[]) ∧ TB base w' bt lim cnt trn (dpL ls i k) ∧ But (fun b => b = bt ∨ (vs[i]?.getD undef).ownBlock = some b) w w' := by
  have hi : i < 256 := by omega
  have hkl : k < (ls i).length := by
    unfold kix at hk
    rw [List.findIdx?_eq_some_iff_getElem] at hk
    exact hk.1
  have hO := hT.2.2.2.1 i hi
  obtain ⟨g, cap, hv⟩ : ∃ g cap, vs[i]?.getD undef = .slice (some ⟨g, 0, none⟩) (ls i).length cap := by
    rcases hO.2 with ⟨_, e⟩ | ⟨g', cp, cur, e, _⟩
    · omega
    · exact ⟨g', cp, e⟩
  rw [hv] at hO
  have HD := hide (delfunc_any base g cap gk (ls i) k kp ks kd ka kb w hkl hk (hu.others hk) hO hg)
  have hc := hT.cell i hi
  rw [hv] at hc
  have HV := hide hv
  have HI := hide hhi
  clear hv hhi hO hk hu
  go_enter Try.func37, Try.ntmps37
  go_wp2_with fail
  refine (list_any bt h w hh).mono ?_
  rw [HI.out]
  rintro e w1 ⟨rfl, rfl⟩
  go_wp2_with fail
  refine HD.out.mono ?_
  rintro e w2 ⟨rfl, hrow, hb2⟩
  obtain ⟨hfin, hbt⟩ := hT.dropped i hi hkl HV.out hb2 hrow
  have hbb : w2.heap[bt]? = some (.cells (.int .i64 lim :: .int .i64 cnt :: .int .i64 trn :: vs).toArray 62 (0, 0)) := (hb2.block bt (Array.getElem?_eq_some_iff.1 hT.2.2.1).1 (fun e => by
    rcases hrow.2 with ⟨e2, _⟩ | ⟨g', cp, cur, e2, _, hh2, _⟩
    · cases e2
    · cases e2
      have := (Array.getElem?_eq_some_iff.1 hT.2.2.1).1
      obtain ⟨q1, ⟨q2, q3⟩ | ⟨g3, cap3, cur3, q4, _, q5, _⟩⟩ := hT.2.2.2.1 i hi
      · rw [HV.out] at q2; cases q2
      · rw [HV.out] at q4; cases q4
        rw [← e, hT.2.2.1] at q5
        cases q5)).trans hT.2.2.1
  have k2 : w2.cell? ⟨bt, 3 + i, none⟩ = some (.slice (some ⟨g, 0, none⟩) (ls i).length cap) := by
    rw [block_cell hbb, ← block_cell hT.2.2.1]
    exact hc
  have f2 : w2.frozen? ⟨bt, 3 + i, none⟩ = false := block_frozen hbb _
  have HF := hide hfin
  have HB := hide hbt
  clear hfin hbt hrow
  go_wp2_with fail
  go_end0
  refine ⟨rfl, ⟨_, HF.out⟩, ⟨HB.out.os, HB.out.tape, HB.out.output, HB.out.size, fun x hx he => HB.out.block x hx (fun e => he (e.imp id (fun e => by rw [HV.out, e]; rfl)))⟩⟩
end Go.Proofs.Ytahphjindjlcpaa
