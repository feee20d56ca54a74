/- Package sip: a header's value, changed; a medium's port. -/
import Derived.Test.YtibjgaelaijgpaaGreatDoorII
namespace Go.Proofs.YtibjgaelaijgpaaGreatDoor
open Go.RowKit Go.Shelf
set_option maxRecDepth 100000
set_option linter.unusedVariables false
set_option linter.unusedSimpArgs false

def viN : ByteArray := ⟨#[86, 105, 97]⟩
def ctN : ByteArray := ⟨#[67, 111, 110, 116, 97, 99, 116]⟩
def mkV : ByteArray := ⟨#[83, 73, 80, 47, 50, 46, 48, 47, 85, 68, 80, 32]⟩
def mkC : ByteArray := ⟨#[64]⟩
def enV : ByteArray := ⟨#[59]⟩
def enK : ByteArray := ⟨#[62, 59]⟩
/-- A header's value, changed, ahead of a body of so many bytes. -/
def vuB (c : Cg) (n : Nat) (h : Hr) : ByteArray := if swV h.1 viN = true then wiB c h.2 mkV enV else if swV h.1 ctN = true then wiB c h.2 mkC enK else if swV h.1 clN = true then decB n else h.2

set_option maxHeartbeats 4000000 in
theorem value_any (c : Cg) (mv : Value) (x y : ByteArray) (n : Nat) (w : World) (hT : TabI w) (hM : TabM w) (hc : c.wf) (hx : x.size ≤ 100000) (hy : y.size ≤ 100000) (hn : n ≤ 9223372036854775807) :
    Calls Tryz.prog 42 #[.agg #[.string c.host, .string c.is, .int .u16 c.port, .int .u16 c.np, mv], .agg #[.string x, .string y], .int .i64 (n : Int)] w fun e w' => e = .returned (.string (vuB c n (x, y))) ∧ Later w w' := by
  have HV : Hid (vuB c n (x, y) = if swV x viN = true then wiB c y mkV enV else if swV x ctN = true then wiB c y mkC enK else if swV x clN = true then decB n else y) := rfl
  generalize vuB c n (x, y) = r at *
  have l0 : Later w ((w.alloc (.cells #[.string c.host, .string c.is, .int .u16 c.port, .int .u16 c.np, mv] 64)).alloc (.cells #[.string x, .string y] 44)) := (later_allocR _ _).trans (later_allocR _ _)
  have C0 : Hid (((w.alloc (.cells #[.string c.host, .string c.is, .int .u16 c.port, .int .u16 c.np, mv] 64)).alloc (.cells #[.string x, .string y] 44)).heap[w.heap.size]? = some (.cells #[.string c.host, .string c.is, .int .u16 c.port, .int .u16 c.np, mv] 64 (0, 0))) := later_keep (later_allocR _ _) (heap_alloc_new w _)
  have B0 : Hid (((w.alloc (.cells #[.string c.host, .string c.is, .int .u16 c.port, .int .u16 c.np, mv] 64)).alloc (.cells #[.string x, .string y] 44)).heap[w.heap.size + 1]? = some (.cells #[.string x, .string y] 44 (0, 0))) := by
    have := heap_alloc_new (w.alloc (.cells #[.string c.host, .string c.is, .int .u16 c.port, .int .u16 c.np, mv] 64)) (.cells #[.string x, .string y] 44)
    rw [World.size_alloc] at this
    exact this
  go_enter Tryz.func42, Tryz.ntmps42
  go_upto_region 1 with fail
  generalize (w.alloc _).alloc _ = w0 at *
  generalize w.heap.size = g at *
  have k0 := block_cell B0.out
  go_wp2_with fail
  refine (named_any x y viN w0 (by omega)).mono ?_
  generalize swV x viN = b1 at *
  rintro e w1 ⟨rfl, l1⟩
  clear k0
  have L1 := Later.trans l0 l1
  have C1 := hide (later_keep l1 C0.out)
  have B1 := hide (later_keep l1 B0.out)
  clear C0 B0
  cases b1 with
  | true =>
    have k1 := block_cell B1.out
    have q1 := block_cell C1.out
    go_wp2_with fail
    refine (within_any c mv y mkV enV (.inl rfl) w1 (hT.later L1) (hM.later L1) hc hy (by decide)).mono ?_
    rintro e w2 ⟨rfl, l2⟩
    clear k1 q1
    go_wp2_with fail
    go_ret
    exact ⟨by rw [HV.out]; rfl, L1.trans l2⟩
  | false =>
    have k1 := block_cell B1.out
    go_wp2_with fail
    refine (named_any x y ctN w1 (by omega)).mono ?_
    generalize swV x ctN = b2 at *
    rintro e w2 ⟨rfl, l2⟩
    clear k1
    have L2 := L1.trans l2
    have C2 := hide (later_keep l2 C1.out)
    have B2 := hide (later_keep l2 B1.out)
    cases b2 with
    | true =>
      have k2 := block_cell B2.out
      have q2 := block_cell C2.out
      go_wp2_with fail
      refine (within_any c mv y mkC enK (.inr rfl) w2 (hT.later L2) (hM.later L2) hc hy (by decide)).mono ?_
      rintro e w3 ⟨rfl, l3⟩
      clear k2 q2
      go_wp2_with fail
      go_ret
      exact ⟨by rw [HV.out]; rfl, L2.trans l3⟩
    | false =>
      have k2 := block_cell B2.out
      go_wp2_with fail
      refine (named_any x y clN w2 (by omega)).mono ?_
      generalize swV x clN = b3 at *
      rintro e w3 ⟨rfl, l3⟩
      clear k2
      have L3 := L2.trans l3
      have B3 := hide (later_keep l3 B2.out)
      cases b3 with
      | true =>
        go_wp2_with fail
        refine (lengthValue_any n w3 (hT.later L3) hn).mono ?_
        rintro e w4 ⟨rfl, l4⟩
        go_wp2_with fail
        go_ret
        exact ⟨by rw [HV.out]; rfl, L3.trans l4⟩
      | false =>
        have k3 := block_cell B3.out
        go_wp2_with fail
        go_ret
        exact ⟨by rw [HV.out]; rfl, L3⟩

/-- Media as they lie in memory: two numbers each. -/
def RdP2 (n₀ : Nat) (W : World) (sv : Value) (l : List (Int × Int)) : Prop :=
  (∃ a cap, sv = .slice a 0 cap ∧ l = [] ∧ cap ≤ 9223372036854775807) ∨
  ∃ b off cap, sv = .slice (some ⟨b, off, none⟩) l.length cap ∧ l ≠ [] ∧ l.length ≤ cap ∧ cap ≤ 9223372036854775807 ∧ b < n₀ ∧ ∀ j (hj : j < l.length), W.cell? ⟨b, off + j * 2, none⟩ = some (.int .u16 l[j].1) ∧ W.cell? ⟨b, off + j * 2 + 1, none⟩ = some (.int .u16 l[j].2)
theorem RdP2.below {n₀ : Nat} {A B : World} (h : Below n₀ A B) {sv : Value} {l : List (Int × Int)} : RdP2 n₀ A sv l → RdP2 n₀ B sv l
  | .inl e => .inl e
  | .inr ⟨b, off, cap, e, hne, hl, hm, hb, hc⟩ => .inr ⟨b, off, cap, e, hne, hl, hm, hb, fun j hj => ⟨(h.cell (p := ⟨b, off + j * 2, none⟩) hb).trans (hc j hj).1, (h.cell (p := ⟨b, off + j * 2 + 1, none⟩) hb).trans (hc j hj).2⟩⟩
theorem RdP2.mono {n₀ n₁ : Nat} {A : World} (h : n₀ ≤ n₁) {sv : Value} {l : List (Int × Int)} : RdP2 n₀ A sv l → RdP2 n₁ A sv l
  | .inl e => .inl e
  | .inr ⟨b, off, cap, e, hne, hl, hm, hb, hc⟩ => .inr ⟨b, off, cap, e, hne, hl, hm, Nat.lt_of_lt_of_le hb h, hc⟩
theorem RdP2.later {A B : World} {v : Value} {l : List (Int × Int)} (h : RdP2 A.heap.size A v l) (k : Later A B) : RdP2 B.heap.size B v l := (h.below k).mono k.size
theorem RdP2.slice {n₀ : Nat} {A : World} {sv : Value} {l : List (Int × Int)} : RdP2 n₀ A sv l → ∃ a cap, sv = .slice a l.length cap ∧ l.length ≤ cap ∧ cap ≤ 9223372036854775807
  | .inl ⟨a, cap, e, hz, hm⟩ => ⟨a, cap, by rw [e, hz]; rfl, by rw [hz]; exact Nat.zero_le _, hm⟩
  | .inr ⟨b, off, cap, e, _, hl, hm, _⟩ => ⟨_, cap, e, hl, hm⟩
/-- The port that stands in another's place. -/
def inB (l : List (Int × Int)) (p : Int) : Int := ((l.find? fun m => m.1 == p).map (·.2)).getD p

set_option maxHeartbeats 4000000 in
theorem instead_any (c : Cg) (mv : Value) (p : Int) (w : World) (hI : RdP2 w.heap.size w mv c.media) :
    Calls Tryz.prog 70 #[.agg #[.string c.host, .string c.is, .int .u16 c.port, .int .u16 c.np, mv], .int .u16 p] w fun e w' => e = .returned (.int .u16 (inB c.media p)) ∧ Later w w' := by
  obtain ⟨am, cm, rfl, hl1, hm1⟩ := hI.slice
  have l0 : Later w (w.alloc (.cells #[.string c.host, .string c.is, .int .u16 c.port, .int .u16 c.np, .slice am c.media.length cm] 64)) := later_allocR _ _
  have C0 := hide (heap_alloc_new w (.cells #[.string c.host, .string c.is, .int .u16 c.port, .int .u16 c.np, .slice am c.media.length cm] 64))
  go_enter Tryz.func70, Tryz.ntmps70
  go_upto_region 1 with fail
  generalize w.alloc _ = w0 at *
  have HI := hide (hI.later l0)
  generalize w.heap.size = gc at *
  have k0 := block_cell C0.out
  go_upto_region 2 with fail
  clear k0
  have HIN0 : Hid (inB c.media p = ((c.media.find? fun m => m.1 == p).map (·.2)).getD p) := rfl
  generalize hms : c.media = ms at *
  have HMS := hide hms
  clear hms
  have HIN : Hid (inB ms p = ((ms.find? fun m => m.1 == p).map (·.2)).getD p) := rfl
  clear HIN0

  go_loopw [10] (fun iv wr => ∃ k : Nat, k ≤ ms.length ∧ iv = .int .i64 (k : Int) ∧ Later w0 wr ∧ Hid (∀ j (hj : j < ms.length), j < k → (ms[j].1 == p) = false)) (fun iv _ => ms.length - (intOf iv).toNat)
  case atStart => exact ⟨0, by omega, rfl, Later.refl _, fun j hj h => by omega⟩
  case round =>
    obtain ⟨k, hk, rfl, lr, hal⟩ := hrel
    by_cases hlt : k < ms.length
    · have hlt' : (k : Int) < (ms.length : Int) := by omega
      obtain ⟨a, cap, e, e2, _⟩ | ⟨b, off, cp, e, _, _, _, hbn, hcs⟩ := HI.out.below lr
      · rw [e2] at hlt; simp at hlt
      cases e
      obtain ⟨d0, d1⟩ := hcs k hlt
      have HF : Hid ((ms[k].1 == p) = true → ms.find? (fun m => m.1 == p) = some ms[k]) := fun h => by
        rw [List.find?_eq_some_iff_getElem]
        exact ⟨h, k, hlt, rfl, fun j hj => by rw [hal.out j (by omega) hj]; rfl⟩
      have HN : Hid ((ms[k].1 == p) = false → ∀ j (hj : j < ms.length), j < k + 1 → (ms[j].1 == p) = false) := fun h j hj hjk => by
        by_cases hjj : j = k
        · subst hjj; exact h
        · exact hal.out j hj (by omega)
      clear hcs hal
      generalize ms[k] = m at *
      obtain ⟨m1, m2⟩ := m
      simp only at d0 d1 HF HN
      have la := later_allocR wr (.cells #[.int .u16 m1, .int .u16 m2] 55)
      have c1 := block_cell (heap_alloc_new wr (.cells #[.int .u16 m1, .int .u16 m2] 55))
      go_upto_region 4 with fail
      clear d0 d1
      generalize wr.alloc _ = wq at *
      cases hm : (m1 == p) with
      | true =>
        have hf := HF.out hm
        have HR : Hid (inB ms p = m2) := by show _ = _; rw [HIN.out, hf]; rfl
        clear hf
        go_wp2_with fail
        go_ret
        exact ⟨by rw [HMS.out, HR.out]; rfl, Later.trans l0 (lr.trans la)⟩
      | false =>
        have HN2 := hide (HN.out hm)
        go_wp2_with fail
        go_roundw
        case rel => exact ⟨k + 1, by omega, by go_num, lr.trans la, HN2.out⟩
        case measure => simp [intOf]; omega
    · have hnl : ¬ (k : Int) < (ms.length : Int) := by omega
      have HR : Hid (inB ms p = p) := by
        show _ = _
        rw [HIN.out, List.find?_eq_none.2 (fun m hm => ?_)]
        · rfl
        · obtain ⟨j, hj, rfl⟩ := List.getElem_of_mem hm
          rw [hal.out j hj (by omega)]
          simp
      go_wp2_with fail
      go_ret
      exact ⟨by rw [HMS.out, HR.out]; rfl, Later.trans l0 lr⟩
end Go.Proofs.YtibjgaelaijgpaaGreatDoor
