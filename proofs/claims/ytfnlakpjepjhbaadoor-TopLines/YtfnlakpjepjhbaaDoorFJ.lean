/- Package ftp: a reader's lone, kind. -/
import Derived.Test.YtfnlakpjepjhbaaDoorFI
namespace Go.Proofs.YtfnlakpjepjhbaaDoor
open Go.RowKit Go.Shelf
set_option maxRecDepth 100000
set_option linter.unusedVariables false
set_option linter.unusedSimpArgs false

def lonR (zs : List Int) (r : Rr) : Rr := ⟨dgZ zs r.at0, r.kd, (r.at0 : Int), (dgZ zs r.at0 : Int), r.ad, portV zs r.at0⟩

set_option maxHeartbeats 4000000 in
theorem lone_any (rb : Nat) (bb off cp n₀ : Nat) (zs : List Int) (hz : Mt.By zs) (r : Rr) (w : World) (h : RB w rb (.slice (some ⟨bb, off, none⟩) zs.length cp) r) (hI : Rd n₀ w (.slice (some ⟨bb, off, none⟩) zs.length cp) zs) (hl : zs.length ≤ 1000) (ha : r.at0 ≤ zs.length) (hn0 : n₀ ≤ w.heap.size) (hrb : n₀ ≤ rb) :
    Calls Tryd.prog 20 #[.pointer (some ⟨rb, 0, none⟩)] w fun e w' => e = .returned (.bool (portB zs r.at0)) ∧ OnlyB rb w w' ∧ RB w' rb (.slice (some ⟨bb, off, none⟩) zs.length cp) (lonR zs r) := by
  have kv := block_cell h
  have fv := block_frozen h
  simp only [rrc] at kv
  have hst : RB (w.setCell ⟨rb, 3, none⟩ (.int .i64 (r.at0 : Int))) rb (.slice (some ⟨bb, off, none⟩) zs.length cp) (stR r (r.at0 : Int)) := heap_set1 h 3 (.int .i64 (r.at0 : Int))
  have o1 : But (fun g => g = rb) w (w.setCell ⟨rb, 3, none⟩ (.int .i64 (r.at0 : Int))) := (But.refl (fun g => g = rb) _).setCell (p := ⟨rb, 3, none⟩) rfl _
  have hI1 := hI.below (But.below o1 hn0 (fun k hk e => by omega))
  have hs1 := o1.size
  have HNM := hide (rnum_any rb bb off cp n₀ zs hz (stR r (r.at0 : Int)) (w.setCell ⟨rb, 3, none⟩ (.int .i64 (r.at0 : Int))) hst hI1 hl ha (by omega) hrb)
  have e0 : (stR r (r.at0 : Int)).at0 = r.at0 := rfl
  rw [e0] at HNM
  have HO1 := hide o1
  clear hI hI1 hst o1 e0
  have HLR : Hid (lonR zs r = ⟨dgZ zs r.at0, r.kd, (r.at0 : Int), (dgZ zs r.at0 : Int), r.ad, portV zs r.at0⟩) := rfl
  generalize lonR zs r = lr at *
  generalize portB zs r.at0 = b at *
  generalize portV zs r.at0 = v at *
  generalize dgZ zs r.at0 = dz at *
  go_enter Tryd.func20, Tryd.ntmps20
  go_upto_region 2 with fail
  generalize w.setCell ⟨rb, 3, none⟩ _ = w1 at *
  clear kv fv
  go_wp2_with fail
  refine HNM.out.mono ?_
  rintro e w2 ⟨rfl, o2, b2⟩
  have kv := block_cell b2
  have fv := block_frozen b2
  simp only [rrc, ptR, atR, stR] at kv
  have HST := hide (heap_set1 b2 4 (.int .i64 (dz : Int)))
  clear b2
  go_wp2_with fail
  go_ret
  refine ⟨rfl, (HO1.out.trans o2).trans ((But.refl (fun g => g = rb) _).setCell (p := ⟨rb, 4, none⟩) rfl _), ?_⟩
  rw [HLR.out]
  exact HST.out

def tPort : ByteArray := ⟨#[80, 79, 82, 84, 32]⟩
def tEprt : ByteArray := ⟨#[69, 80, 82, 84, 32]⟩
def t227 : ByteArray := ⟨#[50, 50, 55, 32]⟩
def t229 : ByteArray := ⟨#[50, 50, 57, 32]⟩
/-- What a line begins with, and how much of it. -/
def kdV (zs : List Int) (p : Nat) (back : Bool) : Int × Nat := if back = false then (if tkB zs p tPort = true then (1, p + 5) else if tkB zs p tEprt = true then (2, p + 5) else (0, p)) else (if tkB zs p t227 = true then (3, p + 4) else if tkB zs p t229 = true then (4, p + 4) else (0, p))

set_option maxHeartbeats 8000000 in
theorem kind_any (rb : Nat) (bb off cp n₀ : Nat) (zs : List Int) (back : Bool) (r : Rr) (w : World) (h : RB w rb (.slice (some ⟨bb, off, none⟩) zs.length cp) r) (hI : Rd n₀ w (.slice (some ⟨bb, off, none⟩) zs.length cp) zs) (hl : zs.length ≤ 1000) (ha : r.at0 ≤ zs.length) (hn0 : n₀ ≤ w.heap.size) (hrb : n₀ ≤ rb) :
    Calls Tryd.prog 14 #[.pointer (some ⟨rb, 0, none⟩), .bool back] w fun e w' => e = .returned (.int .i64 (kdV zs r.at0 back).1) ∧ OnlyB rb w w' ∧ RB w' rb (.slice (some ⟨bb, off, none⟩) zs.length cp) (atR r (kdV zs r.at0 back).2) := by
  have HTK := hide (fun t (ht : 0 < t.size ∧ t.size ≤ 1000) W (o : But (fun g => g = rb) w W) (b : RB W rb (.slice (some ⟨bb, off, none⟩) zs.length cp) r) => take_any rb bb off cp n₀ zs t r W b (hI.below (But.below o hn0 (fun k hk e => by omega))) hl ht ha (Nat.le_trans hn0 o.size))
  have HB := hide h
  clear h hI
  have e5 : tPort.size = 5 := rfl
  have e6 : tEprt.size = 5 := rfl
  have e7 : t227.size = 4 := rfl
  have e8 : t229.size = 4 := rfl
  cases back with
  | false =>
    have H1 := hide (HTK.out tPort (by decide) w (But.refl _ _) HB.out)
    have H2 := hide (fun W o b => HTK.out tEprt (by decide) W o b)
    have HKV : Hid (kdV zs r.at0 false = if tkB zs r.at0 tPort = true then (1, r.at0 + 5) else if tkB zs r.at0 tEprt = true then (2, r.at0 + 5) else (0, r.at0)) := rfl
    rw [e5] at H1
    rw [e6] at H2
    clear HTK e5 e6 e7 e8
    generalize kdV zs r.at0 false = kv at *
    cases h1 : tkB zs r.at0 tPort with
    | true =>
      have hkv := HKV.out
      rw [h1, if_pos rfl] at hkv
      subst hkv
      rw [h1, if_pos rfl] at H1
      clear h1 H2
      unfold tPort at H1
      go_enter Tryd.func14, Tryd.ntmps14
      go_wp2_with fail
      refine H1.out.mono ?_
      rintro e w1 ⟨rfl, o1, b1⟩
      have B1 := hide b1
      clear b1
      go_wp2_with fail
      go_ret
      exact ⟨rfl, o1, B1.out⟩
    | false =>
      rw [h1, if_neg (by simp)] at H1
      cases h2 : tkB zs r.at0 tEprt with
      | true =>
        have hkv := HKV.out
        rw [h1, if_neg (by simp), h2, if_pos rfl] at hkv
        subst hkv
        rw [h2, if_pos rfl] at H2
        clear h1 h2
        unfold tPort at H1
        unfold tEprt at H2
        go_enter Tryd.func14, Tryd.ntmps14
        go_wp2_with fail
        refine H1.out.mono ?_
        rintro e w1 ⟨rfl, o1, b1⟩
        have B1 := hide b1
        clear b1
        go_wp2_with fail
        refine (H2.out w1 o1 B1.out).mono ?_
        rintro e w2 ⟨rfl, o2, b2⟩
        have B2 := hide b2
        clear b2
        go_wp2_with fail
        go_ret
        exact ⟨rfl, But.trans o1 o2, B2.out⟩
      | false =>
        have hkv := HKV.out
        rw [h1, if_neg (by simp), h2, if_neg (by simp)] at hkv
        subst hkv
        rw [h2, if_neg (by simp)] at H2
        clear h1 h2
        unfold tPort at H1
        unfold tEprt at H2
        go_enter Tryd.func14, Tryd.ntmps14
        go_wp2_with fail
        refine H1.out.mono ?_
        rintro e w1 ⟨rfl, o1, b1⟩
        have B1 := hide b1
        clear b1
        go_wp2_with fail
        refine (H2.out w1 o1 B1.out).mono ?_
        rintro e w2 ⟨rfl, o2, b2⟩
        have B2 := hide b2
        clear b2
        go_wp2_with fail
        go_ret
        exact ⟨rfl, But.trans o1 o2, B2.out⟩
  | true =>
    have H1 := hide (HTK.out t227 (by decide) w (But.refl _ _) HB.out)
    have H2 := hide (fun W o b => HTK.out t229 (by decide) W o b)
    have HKV : Hid (kdV zs r.at0 true = if tkB zs r.at0 t227 = true then (3, r.at0 + 4) else if tkB zs r.at0 t229 = true then (4, r.at0 + 4) else (0, r.at0)) := rfl
    rw [e7] at H1
    rw [e8] at H2
    clear HTK e5 e6 e7 e8
    generalize kdV zs r.at0 true = kv at *
    cases h1 : tkB zs r.at0 t227 with
    | true =>
      have hkv := HKV.out
      rw [h1, if_pos rfl] at hkv
      subst hkv
      rw [h1, if_pos rfl] at H1
      clear h1 H2
      unfold t227 at H1
      go_enter Tryd.func14, Tryd.ntmps14
      go_wp2_with fail
      refine H1.out.mono ?_
      rintro e w1 ⟨rfl, o1, b1⟩
      have B1 := hide b1
      clear b1
      go_wp2_with fail
      go_ret
      exact ⟨rfl, o1, B1.out⟩
    | false =>
      rw [h1, if_neg (by simp)] at H1
      cases h2 : tkB zs r.at0 t229 with
      | true =>
        have hkv := HKV.out
        rw [h1, if_neg (by simp), h2, if_pos rfl] at hkv
        subst hkv
        rw [h2, if_pos rfl] at H2
        clear h1 h2
        unfold t227 at H1
        unfold t229 at H2
        go_enter Tryd.func14, Tryd.ntmps14
        go_wp2_with fail
        refine H1.out.mono ?_
        rintro e w1 ⟨rfl, o1, b1⟩
        have B1 := hide b1
        clear b1
        go_wp2_with fail
        refine (H2.out w1 o1 B1.out).mono ?_
        rintro e w2 ⟨rfl, o2, b2⟩
        have B2 := hide b2
        clear b2
        go_wp2_with fail
        go_ret
        exact ⟨rfl, But.trans o1 o2, B2.out⟩
      | false =>
        have hkv := HKV.out
        rw [h1, if_neg (by simp), h2, if_neg (by simp)] at hkv
        subst hkv
        rw [h2, if_neg (by simp)] at H2
        clear h1 h2
        unfold t227 at H1
        unfold t229 at H2
        go_enter Tryd.func14, Tryd.ntmps14
        go_wp2_with fail
        refine H1.out.mono ?_
        rintro e w1 ⟨rfl, o1, b1⟩
        have B1 := hide b1
        clear b1
        go_wp2_with fail
        refine (H2.out w1 o1 B1.out).mono ?_
        rintro e w2 ⟨rfl, o2, b2⟩
        have B2 := hide b2
        clear b2
        go_wp2_with fail
        go_ret
        exact ⟨rfl, But.trans o1 o2, B2.out⟩
end Go.Proofs.YtfnlakpjepjhbaaDoor
