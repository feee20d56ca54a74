/- Package ftp: a reader's address and port with bars. -/
import Derived.Test.YtfnlakpjepjhbaaDoorFJ
namespace Go.Proofs.YtfnlakpjepjhbaaDoor
open Go.RowKit Go.Shelf
set_option maxRecDepth 100000
set_option linter.unusedVariables false
set_option linter.unusedSimpArgs false

def tOne : ByteArray := ⟨#[124, 49, 124]⟩
def tBar : ByteArray := ⟨#[124]⟩
def tDot : ByteArray := ⟨#[46]⟩
/-- An address and a port with bars: the address's numbers, where they end, the port. -/
def barO (zs : List Int) (p : Nat) : Option (List Int × Nat × Int) := if tkB zs p tOne = false then none else (rowF zs tDot 4 0 (p + 3)).bind fun x => if tkB zs x.2 tBar = false then none else if portB zs (x.2 + 1) = false then none else if tkB zs (dgZ zs (x.2 + 1)) tBar = false then none else some (x.1, dgZ zs (x.2 + 1) + 1, portV zs (x.2 + 1))
def BarQ (zs : List Int) (rb : Nat) (bv : Value) (r : Rr) (w w' : World) (e : Ending) : Prop :=
  But (fun g => g = rb) w w' ∧ ((barO zs r.at0 = none ∧ e = .returned (.bool false)) ∨ ∃ x, barO zs r.at0 = some x ∧ e = .returned (.bool true) ∧ x.2.1 ≤ zs.length ∧ RB w' rb bv ⟨x.2.1, r.kd, (r.at0 : Int), (x.2.1 : Int), wat4 x.1 0, x.2.2⟩)

set_option maxHeartbeats 8000000 in
theorem barred_any (rb : Nat) (bb off cp n₀ : Nat) (zs : List Int) (hz : Mt.By zs) (r : Rr) (w : World) (h : RB w rb (.slice (some ⟨bb, off, none⟩) zs.length cp) r) (hI : Rd n₀ w (.slice (some ⟨bb, off, none⟩) zs.length cp) zs) (hl : zs.length ≤ 1000) (ha : r.at0 ≤ zs.length) (hn0 : n₀ ≤ w.heap.size) (hrb : n₀ ≤ rb) :
    Calls Tryd.prog 17 #[.pointer (some ⟨rb, 0, none⟩)] w fun e w' => BarQ zs rb (.slice (some ⟨bb, off, none⟩) zs.length cp) r w w' e := by
  have hrs : rb < w.heap.size := (Array.getElem?_eq_some_iff.1 h).1
  have la : Later w (w.alloc (.cells #[.int .u8 0, .int .u8 0, .int .u8 0, .int .u8 0] 76)) := (Below.refl _ _).alloc (Nat.le_refl _) _
  have hN := heap_alloc_new w (.cells #[.int .u8 0, .int .u8 0, .int .u8 0, .int .u8 0] 76)
  have hb1 := RB.later h la
  have hsz : (w.alloc (.cells #[.int .u8 0, .int .u8 0, .int .u8 0, .int .u8 0] 76)).heap.size = w.heap.size + 1 := by simp
  have HI := hide (fun W (o : But (fun g => g = rb ∨ g = w.heap.size) w W) => hI.below (But.below o hn0 (fun k hk e => by rcases e with e | e <;> omega)))
  have HBO : Hid (barO zs r.at0 = if tkB zs r.at0 tOne = false then none else (rowF zs tDot 4 0 (r.at0 + 3)).bind fun x => if tkB zs x.2 tBar = false then none else if portB zs (x.2 + 1) = false then none else if tkB zs (dgZ zs (x.2 + 1)) tBar = false then none else some (x.1, dgZ zs (x.2 + 1) + 1, portV zs (x.2 + 1))) := rfl
  clear h hI
  go_enter Tryd.func17, Tryd.ntmps17
  go_upto_region 2 with fail
  generalize w.alloc _ = w1 at *
  have kv := block_cell hb1
  have fv := block_frozen hb1
  simp only [rrc] at kv
  have hst : RB (w1.setCell ⟨rb, 3, none⟩ (.int .i64 (r.at0 : Int))) rb (.slice (some ⟨bb, off, none⟩) zs.length cp) (stR r (r.at0 : Int)) := heap_set1 hb1 3 (.int .i64 (r.at0 : Int))
  have hst2 : (w1.setCell ⟨rb, 3, none⟩ (.int .i64 (r.at0 : Int))).heap[w.heap.size]? = some (.cells #[.int .u8 0, .int .u8 0, .int .u8 0, .int .u8 0] 76 (0, 0)) := (Below.heap_setCell _ ⟨rb, 3, none⟩ _ w.heap.size (by simp; omega)).trans hN
  have O2 : But (fun g => g = rb ∨ g = w.heap.size) w (w1.setCell ⟨rb, 3, none⟩ (.int .i64 (r.at0 : Int))) := (But.of la).setCell (p := ⟨rb, 3, none⟩) (.inl rfl) _
  go_upto_region 3 with fail
  generalize w1.setCell ⟨rb, 3, none⟩ _ = w2 at *
  clear kv fv hN hb1 hsz la
  have h2s := O2.size
  have HT1 := hide (take_any rb bb off cp n₀ zs tOne (stR r (r.at0 : Int)) w2 hst (HI.out w2 O2) hl (by decide) ha (by omega))
  have e1 : (stR r (r.at0 : Int)).at0 = r.at0 := rfl
  have e2 : tOne.size = 3 := rfl
  rw [e1, e2] at HT1
  clear e1 e2 hst
  cases k1 : tkB zs r.at0 tOne with
  | false =>
    have HN1 : Hid (barO zs r.at0 = none) := by show _ = _; rw [HBO.out, k1, if_pos rfl]
    rw [k1] at HT1
    unfold tOne at HT1
    clear k1
    go_wp2_with fail
    refine HT1.out.mono ?_
    rintro e w3 ⟨rfl, o3, _⟩
    go_wp2_with fail
    go_ret
    exact ⟨But.dropN (O2.trans (o3.wk1 (fun k hk => .inl hk))) (Nat.le_refl _), .inl ⟨HN1.out, rfl⟩⟩
  | true =>
    have hle1 := tkB_le k1
    have e2 : tOne.size = 3 := rfl
    rw [e2] at hle1
    have HB1 : Hid (barO zs r.at0 = (rowF zs tDot 4 0 (r.at0 + 3)).bind fun x => if tkB zs x.2 tBar = false then none else if portB zs (x.2 + 1) = false then none else if tkB zs (dgZ zs (x.2 + 1)) tBar = false then none else some (x.1, dgZ zs (x.2 + 1) + 1, portV zs (x.2 + 1))) := by show _ = _; rw [HBO.out, k1, if_neg (by simp)]
    rw [k1, if_pos rfl] at HT1
    unfold tOne at HT1
    clear k1 e2 HBO
    go_wp2_with fail
    refine HT1.out.mono ?_
    rintro e w3 ⟨rfl, o3, b3⟩
    have hn3 := (But.block o3 w.heap.size (Array.getElem?_eq_some_iff.1 hst2).1 (fun e => by omega)).trans hst2
    have O3 : But (fun g => g = rb ∨ g = w.heap.size) w w3 := O2.trans (o3.wk1 (fun k hk => .inl hk))
    have h3s := O3.size
    have HRW := hide (row_any rb w.heap.size 76 bb off cp n₀ 4 zs hz tDot [.int .u8 0, .int .u8 0, .int .u8 0, .int .u8 0] (atR (stR r (r.at0 : Int)) (r.at0 + 3)) w3 b3 hn3 (by simp) (HI.out w3 O3) hl (by omega) (by decide) hle1 (by omega) hrb hn0 (by omega))
    have e3 : (atR (stR r (r.at0 : Int)) (r.at0 + 3)).at0 = r.at0 + 3 := rfl
    rw [e3] at HRW
    clear e3 b3 hst2 HT1
    obtain ⟨o, hoo⟩ : ∃ o, rowF zs tDot 4 0 (r.at0 + 3) = o := ⟨_, rfl⟩
    rw [hoo] at HRW HB1
    have HOO := hide hoo
    clear hoo
    go_wp2_with fail
    refine HRW.out.mono ?_
    rintro e w4 ⟨o4, rfl, ho, _⟩
    have O4 : But (fun g => g = rb ∨ g = w.heap.size) w w4 := O3.trans o4
    cases o with
    | none =>
      simp only [Option.isSome_none]
      go_wp2_with fail
      go_ret
      exact ⟨But.dropN O4 (Nat.le_refl _), .inl ⟨HB1.out, rfl⟩⟩
    | some x =>
      obtain ⟨b4, hx2, hn4⟩ := ho x rfl
      have hxl : x.1.length = 4 := rowF_len _ _ _ _ _ x HOO.out
      have hxb : Mt.By x.1 := rowF_by _ _ _ _ _ x HOO.out
      simp only [Option.isSome_some]
      have HB2 : Hid (barO zs r.at0 = if tkB zs x.2 tBar = false then none else if portB zs (x.2 + 1) = false then none else if tkB zs (dgZ zs (x.2 + 1)) tBar = false then none else some (x.1, dgZ zs (x.2 + 1) + 1, portV zs (x.2 + 1))) := HB1.out
      have h4s := O4.size
      have HT2 := hide (take_any rb bb off cp n₀ zs tBar (atR (atR (stR r (r.at0 : Int)) (r.at0 + 3)) x.2) w4 b4 (HI.out w4 O4) hl (by decide) hx2 (by omega))
      have e1 : (atR (atR (stR r (r.at0 : Int)) (r.at0 + 3)) x.2).at0 = x.2 := rfl
      have e2 : tBar.size = 1 := rfl
      rw [e1, e2] at HT2
      clear e1 e2 b4 HRW ho HB1
      cases k2 : tkB zs x.2 tBar with
      | false =>
        have HN1 : Hid (barO zs r.at0 = none) := by show _ = _; rw [HB2.out, k2, if_pos rfl]
        rw [k2] at HT2
        unfold tBar at HT2
        clear k2
        go_wp2_with fail
        refine HT2.out.mono ?_
        rintro e w5 ⟨rfl, o5, _⟩
        go_wp2_with fail
        go_ret
        exact ⟨But.dropN (O4.trans (o5.wk1 (fun k hk => .inl hk))) (Nat.le_refl _), .inl ⟨HN1.out, rfl⟩⟩
      | true =>
        have hle2 : x.2 + 1 ≤ zs.length := tkB_le k2
        have HB3 : Hid (barO zs r.at0 = if portB zs (x.2 + 1) = false then none else if tkB zs (dgZ zs (x.2 + 1)) tBar = false then none else some (x.1, dgZ zs (x.2 + 1) + 1, portV zs (x.2 + 1))) := by show _ = _; rw [HB2.out, k2, if_neg (by simp)]
        rw [k2, if_pos rfl] at HT2
        unfold tBar at HT2
        clear k2 HB2
        go_wp2_with fail
        refine HT2.out.mono ?_
        rintro e w5 ⟨rfl, o5, b5⟩
        have hn5 := (But.block o5 w.heap.size (Array.getElem?_eq_some_iff.1 hn4).1 (fun e => by omega)).trans hn4
        have O5 : But (fun g => g = rb ∨ g = w.heap.size) w w5 := O4.trans (o5.wk1 (fun k hk => .inl hk))
        have h5s := O5.size
        have HNM := hide (rnum_any rb bb off cp n₀ zs hz (atR (atR (atR (stR r (r.at0 : Int)) (r.at0 + 3)) x.2) (x.2 + 1)) w5 b5 (HI.out w5 O5) hl hle2 (by omega) hrb)
        have e3 : (atR (atR (atR (stR r (r.at0 : Int)) (r.at0 + 3)) x.2) (x.2 + 1)).at0 = x.2 + 1 := rfl
        rw [e3] at HNM
        have hdz := dgZ_le hle2
        clear e3 b5 hn4 HT2
        cases k3 : portB zs (x.2 + 1) with
        | false =>
          have HN1 : Hid (barO zs r.at0 = none) := by show _ = _; rw [HB3.out, k3, if_pos rfl]
          rw [k3] at HNM
          clear k3
          go_wp2_with fail
          refine HNM.out.mono ?_
          rintro e w6 ⟨rfl, o6, _⟩
          go_wp2_with fail
          go_ret
          exact ⟨But.dropN (O5.trans (o6.wk1 (fun k hk => .inl hk))) (Nat.le_refl _), .inl ⟨HN1.out, rfl⟩⟩
        | true =>
          have HB4 : Hid (barO zs r.at0 = if tkB zs (dgZ zs (x.2 + 1)) tBar = false then none else some (x.1, dgZ zs (x.2 + 1) + 1, portV zs (x.2 + 1))) := by show _ = _; rw [HB3.out, k3, if_neg (by simp)]
          rw [k3] at HNM
          clear k3 HB3
          generalize portV zs (x.2 + 1) = pv at *
          generalize dgZ zs (x.2 + 1) = dz at *
          go_wp2_with fail
          refine HNM.out.mono ?_
          rintro e w6 ⟨rfl, o6, b6⟩
          have hn6 := (But.block o6 w.heap.size (Array.getElem?_eq_some_iff.1 hn5).1 (fun e => by omega)).trans hn5
          have O6 : But (fun g => g = rb ∨ g = w.heap.size) w w6 := O5.trans (o6.wk1 (fun k hk => .inl hk))
          have h6s := O6.size
          have HT3 := hide (take_any rb bb off cp n₀ zs tBar (ptR (atR (atR (atR (atR (stR r (r.at0 : Int)) (r.at0 + 3)) x.2) (x.2 + 1)) dz) pv) w6 b6 (HI.out w6 O6) hl (by decide) hdz.2 (by omega))
          have e4 : (ptR (atR (atR (atR (atR (stR r (r.at0 : Int)) (r.at0 + 3)) x.2) (x.2 + 1)) dz) pv).at0 = dz := rfl
          have e5 : tBar.size = 1 := rfl
          rw [e4, e5] at HT3
          clear e4 e5 b6 hn5 HNM
          cases k4 : tkB zs dz tBar with
          | false =>
            have HN1 : Hid (barO zs r.at0 = none) := by show _ = _; rw [HB4.out, k4, if_pos rfl]
            rw [k4] at HT3
            unfold tBar at HT3
            clear k4
            go_wp2_with fail
            refine HT3.out.mono ?_
            rintro e w7 ⟨rfl, o7, _⟩
            go_wp2_with fail
            go_ret
            exact ⟨But.dropN (O6.trans (o7.wk1 (fun k hk => .inl hk))) (Nat.le_refl _), .inl ⟨HN1.out, rfl⟩⟩
          | true =>
            have hle4 : dz + 1 ≤ zs.length := tkB_le k4
            have HB5 : Hid (barO zs r.at0 = some (x.1, dz + 1, pv)) := by show _ = _; rw [HB4.out, k4, if_neg (by simp)]
            rw [k4, if_pos rfl] at HT3
            unfold tBar at HT3
            clear k4 HB4
            go_wp2_with fail
            refine HT3.out.mono ?_
            rintro e w7 ⟨rfl, o7, b7⟩
            have hn7 := (But.block o7 w.heap.size (Array.getElem?_eq_some_iff.1 hn6).1 (fun e => by omega)).trans hn6
            have O7 : But (fun g => g = rb ∨ g = w.heap.size) w w7 := O6.trans (o7.wk1 (fun k hk => .inl hk))
            have kv := block_cell b7
            have fv := block_frozen b7
            simp only [rrc, ptR, atR, stR] at kv
            have hst : RB (w7.setCell ⟨rb, 4, none⟩ (.int .i64 ((dz + 1 : Nat) : Int))) rb (.slice (some ⟨bb, off, none⟩) zs.length cp) ⟨dz + 1, r.kd, (r.at0 : Int), ((dz + 1 : Nat) : Int), r.ad, pv⟩ := heap_set1 b7 4 (.int .i64 ((dz + 1 : Nat) : Int))
            have hst2 : (w7.setCell ⟨rb, 4, none⟩ (.int .i64 ((dz + 1 : Nat) : Int))).heap[w.heap.size]? = some (.cells (x.1.map (Value.int .u8)).toArray 76 (0, 0)) := (Below.heap_setCell _ ⟨rb, 4, none⟩ _ w.heap.size (by simp; omega)).trans hn7
            have O8 : But (fun g => g = rb ∨ g = w.heap.size) w (w7.setCell ⟨rb, 4, none⟩ (.int .i64 ((dz + 1 : Nat) : Int))) := O7.setCell (p := ⟨rb, 4, none⟩) (.inl rfl) _
            go_upto_region 6 with fail
            have ed : ((dz + 1 : Nat) : Int) = (dz : Int) + 1 := by omega
            rw [ed] at hst hst2 O8
            generalize w7.setCell ⟨rb, 4, none⟩ _ = w8 at *
            clear kv fv b7
            have h8s := O8.size
            have HG := hide (get32_rd (.slice (some ⟨w.heap.size, 0, none⟩) 4 4) x.1 hxb 0 (by omega) w8 (by have := rd_blk hst2 (by intro e; rw [e] at hxl; cases hxl) (by omega); rw [hxl] at this; exact this))
            have HED := hide ed
            clear ed
            go_wp2_with fail
            refine HG.out.mono ?_
            rintro e w9 ⟨rfl, n9, hn9⟩
            have l9 : Later w8 w9 := by rw [hn9]; exact below_draw (Later.refl _) _
            clear hn9
            have b9 := RB.later hst l9
            have kv := block_cell b9
            have fv := block_frozen b9
            simp only [rrc] at kv
            have hw4 : Hid (wat4 x.1 0 = wat4 x.1 0) := rfl
            generalize ha4 : wat4 x.1 0 = a4 at *
            have HA4 := hide ha4
            clear ha4 hw4
            have HST := hide (heap_set1 b9 5 (.int .u32 a4))
            clear b9 hst hst2
            go_wp2_with fail
            go_ret
            refine ⟨But.dropN ((O8.trans (But.of l9)).setCell (p := ⟨rb, 5, none⟩) (.inl rfl) _) (Nat.le_refl _), .inr ⟨_, HB5.out, rfl, hle4, ?_⟩⟩
            show RB _ rb _ ⟨dz + 1, r.kd, (r.at0 : Int), ((dz + 1 : Nat) : Int), wat4 x.1 0, pv⟩
            rw [HA4.out, HED.out]
            have := HST.out
            unfold RB rrc
            simp only [HED.out]
            exact this
end Go.Proofs.YtfnlakpjepjhbaaDoor
