/- Package ftp: a reader's number, row. -/
import Derived.Test.YtfnlakpjepjhbaaDoorFF
namespace Go.Proofs.YtfnlakpjepjhbaaDoor
open Go.RowKit Go.Shelf
set_option maxRecDepth 100000
set_option linter.unusedVariables false
set_option linter.unusedSimpArgs false

/-- The digits that stand there, as text. -/
def dgS (zs : List Int) (p : Nat) : ByteArray := strOfNums ((zs.drop p).take (dgZ zs p - p))
def ptR (r : Rr) (v : Int) : Rr := ⟨r.at0, r.kd, r.st, r.en, r.ad, v⟩
def portV (zs : List Int) (p : Nat) : Int := (numV (dgS zs p) 65535).getD 0
def portB (zs : List Int) (p : Nat) : Bool := (numV (dgS zs p) 65535).isSome && !decide ((numV (dgS zs p) 65535).getD 0 = 0)

set_option maxHeartbeats 4000000 in
theorem rnum_any (rb : Nat) (bb off cp n₀ : Nat) (zs : List Int) (hz : Mt.By zs) (r : Rr) (w : World) (h : RB w rb (.slice (some ⟨bb, off, none⟩) zs.length cp) r) (hI : Rd n₀ w (.slice (some ⟨bb, off, none⟩) zs.length cp) zs) (hl : zs.length ≤ 1000) (ha : r.at0 ≤ zs.length) (hn0 : n₀ ≤ w.heap.size) (hrb : n₀ ≤ rb) :
    Calls Tryd.prog 35 #[.pointer (some ⟨rb, 0, none⟩)] w fun e w' => e = .returned (.bool (portB zs r.at0)) ∧ OnlyB rb w w' ∧ RB w' rb (.slice (some ⟨bb, off, none⟩) zs.length cp) (ptR (atR r (dgZ zs r.at0)) (portV zs r.at0)) := by
  have HD := hide (digits_any rb bb off cp n₀ zs hz r w h hI hl ha hn0 hrb)
  have HP := hide (fun W => wport_any (dgS zs r.at0) W)
  have e1 : (numV (dgS zs r.at0) 65535).getD 0 = portV zs r.at0 := rfl
  have e2 : ((numV (dgS zs r.at0) 65535).isSome && !decide (portV zs r.at0 = 0)) = portB zs r.at0 := rfl
  rw [e1, e2] at HP
  have e3 : strOfNums ((zs.drop r.at0).take (dgZ zs r.at0 - r.at0)) = dgS zs r.at0 := rfl
  rw [e3] at HD
  clear e1 e2 e3 h hI
  generalize portV zs r.at0 = v at *
  generalize portB zs r.at0 = b at *
  generalize dgS zs r.at0 = s at *
  generalize dgZ zs r.at0 = dz at *
  go_enter Tryd.func35, Tryd.ntmps35
  go_wp2_with fail
  refine HD.out.mono ?_
  rintro e w1 ⟨rfl, o1, b1⟩
  go_wp2_with fail
  refine (HP.out w1).mono ?_
  rintro e w2 ⟨rfl, l2⟩
  have b2 := RB.later b1 l2
  have kv := block_cell b2
  have fv := block_frozen b2
  unfold rrc at kv
  have HST := hide (heap_set1 b2 6 (.int .u16 v))
  clear b1 b2
  go_wp2_with fail
  go_ret
  exact ⟨rfl, (But.trans o1 (But.of l2)).trans ((But.refl (fun g => g = rb) _).setCell (p := ⟨rb, 6, none⟩) rfl _), HST.out⟩
end Go.Proofs.YtfnlakpjepjhbaaDoor
