/- Package sip: a line of a body, changed. -/
import Derived.Test.YtibjgaelaijgpaaGreatDoorIK
import Derived.Deep.Cut
namespace Go.Proofs.YtibjgaelaijgpaaGreatDoor
open Go.RowKit Go.Shelf
set_option maxRecDepth 100000
set_option linter.unusedVariables false
set_option linter.unusedSimpArgs false

def cnB : ByteArray := ⟨#[99, 61, 73, 78, 32, 73, 80, 52, 32]⟩
def orB : ByteArray := ⟨#[111, 61]⟩
def omB : ByteArray := ⟨#[32, 73, 78, 32, 73, 80, 52, 32]⟩
def hsB (s p : ByteArray) : Bool := Lib.hasSuffix s.data.toList p.data.toList
def tsB (s p : ByteArray) : ByteArray := ⟨(Lib.trimSuffix s.data.toList p.data.toList).toArray⟩
def mlB (c : Cg) (l : ByteArray) : Option (ByteArray × Int × ByteArray) → ByteArray
  | none => l
  | some (a, p, b) => a ++ decB (inB c.media p).toNat ++ b
/-- A line of a body, changed. -/
def lnB (c : Cg) (l : ByteArray) : ByteArray :=
  if eqS l (cnB ++ c.host) = true then cnB ++ c.is else if hpB l orB = true ∧ hsB l (omB ++ c.host) = true then tsB l c.host ++ c.is else
  mlB c l (mdO l)
theorem tsB_size (s p : ByteArray) : (tsB s p).size ≤ s.size := by
  have hs : s.size = s.data.toList.length := by rw [Array.length_toList]; rfl
  have h1 : (tsB s p).size = (Lib.trimSuffix s.data.toList p.data.toList).length := by unfold tsB; simp [ByteArray.size]
  rw [h1, hs]
  unfold Lib.trimSuffix
  split
  · rw [List.length_take]; omega
  · omega
theorem mdO_size {l : ByteArray} {a b : ByteArray} {p : Int} (h : mdO l = some (a, p, b)) : a.size ≤ l.size + 1 ∧ b.size ≤ l.size ∧ 1 ≤ p ∧ p ≤ 65535 := by
  have h1 := cut_size l spB
  have h2 := cut_size (cutZ l spB) spB
  unfold mdO at h
  split at h
  · cases h
  split at h
  · cases h
  cases hp : prV (cutA (cutZ l spB) spB) with
  | none => rw [hp] at h; cases h
  | some q =>
    rw [hp] at h
    simp only at h
    split at h
    · cases h
    · cases h
      have := prV_rng _ hp
      have hs : spB.size = 1 := rfl
      refine ⟨by rw [ByteArray.size_append]; omega, by rw [ByteArray.size_extract]; omega, this.1, this.2⟩
theorem inB_rng {l : List (Int × Int)} {p : Int} (hl : ∀ m ∈ l, (0 ≤ m.1 ∧ m.1 ≤ 65535) ∧ (0 ≤ m.2 ∧ m.2 ≤ 65535)) (hp : 1 ≤ p ∧ p ≤ 65535) : 0 ≤ inB l p ∧ inB l p ≤ 65535 := by
  unfold inB
  cases h : l.find? (fun m => m.1 == p) with
  | none => simp only [Option.map_none, Option.getD_none]; omega
  | some m => exact (hl m (List.mem_of_find?_eq_some h)).2

set_option maxHeartbeats 8000000 in
theorem line_any (c : Cg) (mv : Value) (l : ByteArray) (w : World) (hT : TabI w) (hM : TabM w) (hc : c.wf) (hI : RdP2 w.heap.size w mv c.media) (hs : l.size ≤ 100000) :
    Calls Tryz.prog 54 #[.agg #[.string c.host, .string c.is, .int .u16 c.port, .int .u16 c.np, mv], .string l] w fun e w' => e = .returned (.string (lnB c l)) ∧ Later w w' := by
  obtain ⟨⟨hc3, hc4⟩, hc1, hc2, hc5⟩ := hc
  have l0 : Later w (w.alloc (.cells #[.string c.host, .string c.is, .int .u16 c.port, .int .u16 c.np, mv] 64)) := later_allocR _ _
  have C0 := hide (heap_alloc_new w (.cells #[.string c.host, .string c.is, .int .u16 c.port, .int .u16 c.np, mv] 64))
  have HV : Hid (lnB c l = if eqS l (cnB ++ c.host) = true then cnB ++ c.is else if hpB l orB = true ∧ hsB l (omB ++ c.host) = true then tsB l c.host ++ c.is else mlB c l (mdO l)) := rfl
  generalize lnB c l = r at *
  have HB := hide (str_beq l (cnB ++ c.host))
  have HP : Hid (∀ W, Calls Tryz.prog 58 #[.string l, .string orB] W fun e w' => e = .returned (.bool (hpB l orB)) ∧ w' = W) := fun W => Any.strings_HasPrefix prefL l orB W
  have HS : Hid (∀ W, Calls Tryz.prog 59 #[.string l, .string (omB ++ c.host)] W fun e w' => e = .returned (.bool (hsB l (omB ++ c.host))) ∧ w' = W) := fun W => Any.strings_HasSuffix suffL l (omB ++ c.host) W (by omega)
  have HT : Hid (∀ W, Calls Tryz.prog 67 #[.string l, .string c.host] W fun e w' => e = .returned (.string (tsB l c.host)) ∧ Later W w') := fun W => (Any.strings_TrimSuffix trimL l c.host W (by omega)).mono fun e w' h => ⟨h.1, h.2 ▸ Later.refl _⟩
  have HM := hide (fun W (h : TabM W) => mediumOf_any l W h (by omega))
  have HMS : Hid (∀ a p b, mdO l = some (a, p, b) → a.size ≤ l.size + 1 ∧ b.size ≤ l.size ∧ 1 ≤ p ∧ p ≤ 65535) := fun a p b h => mdO_size h
  have hts := tsB_size l c.host
  generalize hpB l orB = b2 at *
  generalize hsB l (omB ++ c.host) = b3 at *
  generalize tsB l c.host = tb at *
  generalize mdO l = mo at *
  have e9 : ByteArray.size ⟨#[99, 61, 73, 78, 32, 73, 80, 52, 32]⟩ = 9 := rfl
  have e8 : ByteArray.size ⟨#[32, 73, 78, 32, 73, 80, 52, 32]⟩ = 8 := rfl
  go_enter Tryz.func54, Tryz.ntmps54
  go_upto_region 1 with fail
  generalize w.alloc _ = w0 at *
  have HI0 := hide (hI.later l0)
  generalize w.heap.size = gc at *
  have hb1 : (l.toList == (⟨#[99, 61, 73, 78, 32, 73, 80, 52, 32]⟩ ++ c.host : ByteArray).toList) = eqS l (cnB ++ c.host) := HB.out
  generalize eqS l (cnB ++ c.host) = b1 at *
  have k0 := block_cell C0.out
  cases b1 with
  | true =>
    go_wp2_with fail
    go_ret
    exact ⟨by rw [HV.out]; rfl, l0⟩
  | false =>
    go_upto_region 3 with fail
    clear hb1 k0
    go_wp2_with fail
    refine (HP.out w0).mono ?_
    rintro e w1 ⟨rfl, hw1⟩
    subst hw1
    have HV2 : Hid (b2 = false ∨ b3 = false → r = mlB c l mo) := fun h => by
      rw [HV.out, if_neg (by decide), if_neg (by rintro ⟨h1, h2⟩; subst h1 h2; simp at h)]
    have HV3 : Hid (b2 = true → b3 = true → r = tb ++ c.is) := fun h1 h2 => by
      rw [HV.out, if_neg (by decide), if_pos ⟨h1, h2⟩]
    clear HV HB
    have k1 := block_cell C0.out
    cases b2 with
    | false =>
      go_upto_region 5 with fail
      clear k1
      go_wp2_with fail
      refine (HM.out w1 (hM.later l0)).mono ?_
      rintro e w2 ⟨rfl, l2⟩
      have L2 := Later.trans l0 l2
      have C2 := hide (later_keep l2 C0.out)
      have HI2 := hide (HI0.out.later l2)
      have HR := hide (HV2.out (by simp))
      clear HV2 HV3 C0 HI0
      cases mo with
      | none =>
        have la := later_allocR w2 (.cells #[.string ⟨#[]⟩, .int .u16 0, .string ⟨#[]⟩] 114)
        simp only [mdV]
        go_wp2_with fail
        go_ret
        exact ⟨by rw [HR.out]; rfl, L2.trans la⟩
      | some m =>
        obtain ⟨a, p, b⟩ := m
        obtain ⟨hm1, hm2, hm3⟩ := HMS.out a p b rfl
        have hir := inB_rng hc5 hm3
        have la := later_allocR w2 (.cells #[.string a, .int .u16 p, .string b] 114)
        have CM := hide (heap_alloc_new w2 (.cells #[.string a, .int .u16 p, .string b] 114))
        have C3 := hide (later_keep la C2.out)
        have HI3 := hide (HI2.out.later la)
        have hR : Hid (r = a ++ decB (inB c.media p).toNat ++ b) := HR.out
        have HIN := hide (fun W (h : RdP2 W.heap.size W mv c.media) => instead_any c mv p W h)
        have hds := decB_size (inB c.media p).toNat (by omega)
        have HDE := hide (fun W (h : TabI W) => decimalI_any (inB c.media p) W h hir)
        generalize inB c.media p = q at *
        generalize decB q.toNat = dq at *
        have L3 := L2.trans la
        clear HR HMS HM HT HS HP C2 HI2 hir
        simp only [mdV]
        go_upto_region 7 with fail
        generalize w2.alloc _ = w3 at *
        generalize w2.heap.size = gm at *
        refine anyR_begin (R := Later) Later.pre Later.drew 12 rfl (by kernel_rfl) (fun V0 hV0 => ?_)
        have qC : ∀ v, Later V0 v → ∀ j, v.cell? ⟨gc, j, none⟩ = #[Value.string c.host, .string c.is, .int .u16 c.port, .int .u16 c.np, mv][j]? := fun v hv => block_cell (later_keep (hV0.trans hv) C3.out)
        have qM : ∀ v, Later V0 v → ∀ j, v.cell? ⟨gm, j, none⟩ = #[Value.string a, .int .u16 p, .string b][j]? := fun v hv => block_cell (later_keep (hV0.trans hv) CM.out)
        refine anyR_val Later.pre 0 rfl (by kernel_rfl) (by kernel_rfl) (by kernel_rfl) (fun _ _ _ _ h => h) rfl ?_; apply Exists.intro; refine ⟨fun v1 hv1 => ?_, ?_⟩; (· (go_simp; rfl)); simp only [Act.put, List.setIfInBounds_toArray, List.set_cons_zero, List.set_cons_succ]
        refine anyR_val Later.pre 1 rfl (by kernel_rfl) (by kernel_rfl) (by kernel_rfl) (fun _ _ _ _ h => h) rfl ?_; apply Exists.intro; refine ⟨fun v1 hv1 => ?_, ?_⟩; (· (go_simp; rfl)); simp only [Act.put, List.setIfInBounds_toArray, List.set_cons_zero, List.set_cons_succ]
        refine anyR_val Later.pre 2 rfl (by kernel_rfl) (by kernel_rfl) (by kernel_rfl) (fun _ _ _ _ h => h) rfl ?_; apply Exists.intro; refine ⟨fun v1 hv1 => ?_, ?_⟩; (· (go_simp; rfl)); simp only [Act.put, List.setIfInBounds_toArray, List.set_cons_zero, List.set_cons_succ]
        refine anyR_val Later.pre 3 rfl (by kernel_rfl) (by kernel_rfl) (by kernel_rfl) (fun _ _ _ _ h => h) rfl ?_; apply Exists.intro; refine ⟨fun v1 hv1 => ?_, ?_⟩; (· (go_simp; rfl)); simp only [Act.put, List.setIfInBounds_toArray, List.set_cons_zero, List.set_cons_succ]
        refine anyR_val Later.pre 4 rfl (by kernel_rfl) (by kernel_rfl) (by kernel_rfl) (fun _ _ _ _ h => h) rfl ?_; apply Exists.intro; refine ⟨fun v1 hv1 => ?_, ?_⟩; (· (go_simp; rfl)); simp only [Act.put, List.setIfInBounds_toArray, List.set_cons_zero, List.set_cons_succ]
        refine anyR_take Later.pre 5 (.int .u16 q) rfl (by kernel_rfl) (by kernel_rfl) (by kernel_rfl) (fun _ _ _ h => h) rfl (fun v1 hv1 => goes_call 70 #[.agg #[.string c.host, .string c.is, .int .u16 c.port, .int .u16 c.np, mv], .int .u16 p] (by go_simp) (HIN.out v1 (HI3.out.later (hV0.trans hv1)))) ?_
        simp only [Act.put, List.setIfInBounds_toArray, List.set_cons_zero, List.set_cons_succ]
        refine anyR_take Later.pre 6 (.string dq) rfl (by kernel_rfl) (by kernel_rfl) (by kernel_rfl) (fun _ _ _ h => h) rfl (fun v1 hv1 => goes_call 69 #[.int .u16 q] (by go_simp) (HDE.out v1 (hT.later (L3.trans (hV0.trans hv1))))) ?_
        simp only [Act.put, List.setIfInBounds_toArray, List.set_cons_zero, List.set_cons_succ]
        refine anyR_val Later.pre 7 rfl (by kernel_rfl) (by kernel_rfl) (by kernel_rfl) (fun _ _ _ _ h => h) rfl ⟨.string (a ++ dq), fun v1 hv1 => (by first | (go_simp; done) | (go_simp; omega)), ?_⟩; simp only [Act.put, List.setIfInBounds_toArray, List.set_cons_zero, List.set_cons_succ]
        refine anyR_val Later.pre 8 rfl (by kernel_rfl) (by kernel_rfl) (by kernel_rfl) (fun _ _ _ _ h => h) rfl ?_; apply Exists.intro; refine ⟨fun v1 hv1 => ?_, ?_⟩; (· (go_simp; rfl)); simp only [Act.put, List.setIfInBounds_toArray, List.set_cons_zero, List.set_cons_succ]
        refine anyR_val Later.pre 9 rfl (by kernel_rfl) (by kernel_rfl) (by kernel_rfl) (fun _ _ _ _ h => h) rfl ?_; apply Exists.intro; refine ⟨fun v1 hv1 => ?_, ?_⟩; (· (go_simp; rfl)); simp only [Act.put, List.setIfInBounds_toArray, List.set_cons_zero, List.set_cons_succ]
        refine anyR_val Later.pre 10 rfl (by kernel_rfl) (by kernel_rfl) (by kernel_rfl) (fun _ _ _ _ h => h) rfl ⟨.string (a ++ dq ++ b), fun v1 hv1 => (by first | (go_simp; done) | (go_simp; omega)), ?_⟩; simp only [Act.put, List.setIfInBounds_toArray, List.set_cons_zero, List.set_cons_succ]
        refine anyR_val Later.pre 11 rfl (by kernel_rfl) (by kernel_rfl) (by kernel_rfl) (fun _ _ _ _ h => h) rfl ?_; apply Exists.intro; refine ⟨fun v1 hv1 => ?_, ?_⟩; (· (go_simp; rfl)); simp only [Act.put, List.setIfInBounds_toArray, List.set_cons_zero, List.set_cons_succ]
        clear qC qM
        refine anyR_done (by kernel_rfl) (fun V9 hV9 => ?_)
        go_wp2_with fail
        go_ret
        exact ⟨by rw [hR.out]; first | rfl | simp, L3.trans (hV0.trans hV9)⟩
    | true =>
      go_wp2_with fail
      refine (HS.out w1).mono ?_
      rintro e w1 ⟨rfl, hw1⟩
      subst hw1
      cases b3 with
      | true =>
        have HR := hide (HV3.out (by trivial) (by trivial))
        go_upto_region 4 with fail
        clear k1
        refine anyR_begin (R := Later) Later.pre Later.drew 8 rfl (by kernel_rfl) (fun V0 hV0 => ?_)
        have qC : ∀ v, Later V0 v → ∀ j, v.cell? ⟨gc, j, none⟩ = #[Value.string c.host, .string c.is, .int .u16 c.port, .int .u16 c.np, mv][j]? := fun v hv => block_cell (later_keep (hV0.trans hv) C0.out)
        refine anyR_val Later.pre 0 rfl (by kernel_rfl) (by kernel_rfl) (by kernel_rfl) (fun _ _ _ _ h => h) rfl ?_; apply Exists.intro; refine ⟨fun v1 hv1 => ?_, ?_⟩; (· (go_simp; rfl)); simp only [Act.put, List.setIfInBounds_toArray, List.set_cons_zero, List.set_cons_succ]
        refine anyR_val Later.pre 1 rfl (by kernel_rfl) (by kernel_rfl) (by kernel_rfl) (fun _ _ _ _ h => h) rfl ?_; apply Exists.intro; refine ⟨fun v1 hv1 => ?_, ?_⟩; (· (go_simp; rfl)); simp only [Act.put, List.setIfInBounds_toArray, List.set_cons_zero, List.set_cons_succ]
        refine anyR_val Later.pre 2 rfl (by kernel_rfl) (by kernel_rfl) (by kernel_rfl) (fun _ _ _ _ h => h) rfl ?_; apply Exists.intro; refine ⟨fun v1 hv1 => ?_, ?_⟩; (· (go_simp; rfl)); simp only [Act.put, List.setIfInBounds_toArray, List.set_cons_zero, List.set_cons_succ]
        refine anyR_take Later.pre 3 (.string tb) rfl (by kernel_rfl) (by kernel_rfl) (by kernel_rfl) (fun _ _ _ h => h) rfl (fun v1 hv1 => goes_call 67 #[.string l, .string c.host] (by go_simp) (HT.out v1)) ?_
        simp only [Act.put, List.setIfInBounds_toArray, List.set_cons_zero, List.set_cons_succ]
        refine anyR_val Later.pre 4 rfl (by kernel_rfl) (by kernel_rfl) (by kernel_rfl) (fun _ _ _ _ h => h) rfl ?_; apply Exists.intro; refine ⟨fun v1 hv1 => ?_, ?_⟩; (· (go_simp; rfl)); simp only [Act.put, List.setIfInBounds_toArray, List.set_cons_zero, List.set_cons_succ]
        refine anyR_val Later.pre 5 rfl (by kernel_rfl) (by kernel_rfl) (by kernel_rfl) (fun _ _ _ _ h => h) rfl ?_; apply Exists.intro; refine ⟨fun v1 hv1 => ?_, ?_⟩; (· (go_simp; rfl)); simp only [Act.put, List.setIfInBounds_toArray, List.set_cons_zero, List.set_cons_succ]
        refine anyR_val Later.pre 6 rfl (by kernel_rfl) (by kernel_rfl) (by kernel_rfl) (fun _ _ _ _ h => h) rfl ⟨.string (tb ++ c.is), fun v1 hv1 => (by first | (go_simp; done) | (go_simp; omega)), ?_⟩; simp only [Act.put, List.setIfInBounds_toArray, List.set_cons_zero, List.set_cons_succ]
        refine anyR_val Later.pre 7 rfl (by kernel_rfl) (by kernel_rfl) (by kernel_rfl) (fun _ _ _ _ h => h) rfl ?_; apply Exists.intro; refine ⟨fun v1 hv1 => ?_, ?_⟩; (· (go_simp; rfl)); simp only [Act.put, List.setIfInBounds_toArray, List.set_cons_zero, List.set_cons_succ]
        clear qC
        refine anyR_done (by kernel_rfl) (fun V9 hV9 => ?_)
        go_wp2_with fail
        go_ret
        exact ⟨by rw [HR.out]; first | rfl | simp, l0.trans (hV0.trans hV9)⟩
      | false =>
        go_upto_region 5 with fail
        clear k1
        go_wp2_with fail
        refine (HM.out w1 (hM.later l0)).mono ?_
        rintro e w2 ⟨rfl, l2⟩
        have L2 := Later.trans l0 l2
        have C2 := hide (later_keep l2 C0.out)
        have HI2 := hide (HI0.out.later l2)
        have HR := hide (HV2.out (by simp))
        clear HV2 HV3 C0 HI0
        cases mo with
        | none =>
          have la := later_allocR w2 (.cells #[.string ⟨#[]⟩, .int .u16 0, .string ⟨#[]⟩] 114)
          simp only [mdV]
          go_wp2_with fail
          go_ret
          exact ⟨by rw [HR.out]; rfl, L2.trans la⟩
        | some m =>
          obtain ⟨a, p, b⟩ := m
          obtain ⟨hm1, hm2, hm3⟩ := HMS.out a p b rfl
          have hir := inB_rng hc5 hm3
          have la := later_allocR w2 (.cells #[.string a, .int .u16 p, .string b] 114)
          have CM := hide (heap_alloc_new w2 (.cells #[.string a, .int .u16 p, .string b] 114))
          have C3 := hide (later_keep la C2.out)
          have HI3 := hide (HI2.out.later la)
          have hR : Hid (r = a ++ decB (inB c.media p).toNat ++ b) := HR.out
          have HIN := hide (fun W (h : RdP2 W.heap.size W mv c.media) => instead_any c mv p W h)
          have hds := decB_size (inB c.media p).toNat (by omega)
          have HDE := hide (fun W (h : TabI W) => decimalI_any (inB c.media p) W h hir)
          generalize inB c.media p = q at *
          generalize decB q.toNat = dq at *
          have L3 := L2.trans la
          clear HR HMS HM HT HS HP C2 HI2 hir
          simp only [mdV]
          go_upto_region 7 with fail
          generalize w2.alloc _ = w3 at *
          generalize w2.heap.size = gm at *
          refine anyR_begin (R := Later) Later.pre Later.drew 12 rfl (by kernel_rfl) (fun V0 hV0 => ?_)
          have qC : ∀ v, Later V0 v → ∀ j, v.cell? ⟨gc, j, none⟩ = #[Value.string c.host, .string c.is, .int .u16 c.port, .int .u16 c.np, mv][j]? := fun v hv => block_cell (later_keep (hV0.trans hv) C3.out)
          have qM : ∀ v, Later V0 v → ∀ j, v.cell? ⟨gm, j, none⟩ = #[Value.string a, .int .u16 p, .string b][j]? := fun v hv => block_cell (later_keep (hV0.trans hv) CM.out)
          refine anyR_val Later.pre 0 rfl (by kernel_rfl) (by kernel_rfl) (by kernel_rfl) (fun _ _ _ _ h => h) rfl ?_; apply Exists.intro; refine ⟨fun v1 hv1 => ?_, ?_⟩; (· (go_simp; rfl)); simp only [Act.put, List.setIfInBounds_toArray, List.set_cons_zero, List.set_cons_succ]
          refine anyR_val Later.pre 1 rfl (by kernel_rfl) (by kernel_rfl) (by kernel_rfl) (fun _ _ _ _ h => h) rfl ?_; apply Exists.intro; refine ⟨fun v1 hv1 => ?_, ?_⟩; (· (go_simp; rfl)); simp only [Act.put, List.setIfInBounds_toArray, List.set_cons_zero, List.set_cons_succ]
          refine anyR_val Later.pre 2 rfl (by kernel_rfl) (by kernel_rfl) (by kernel_rfl) (fun _ _ _ _ h => h) rfl ?_; apply Exists.intro; refine ⟨fun v1 hv1 => ?_, ?_⟩; (· (go_simp; rfl)); simp only [Act.put, List.setIfInBounds_toArray, List.set_cons_zero, List.set_cons_succ]
          refine anyR_val Later.pre 3 rfl (by kernel_rfl) (by kernel_rfl) (by kernel_rfl) (fun _ _ _ _ h => h) rfl ?_; apply Exists.intro; refine ⟨fun v1 hv1 => ?_, ?_⟩; (· (go_simp; rfl)); simp only [Act.put, List.setIfInBounds_toArray, List.set_cons_zero, List.set_cons_succ]
          refine anyR_val Later.pre 4 rfl (by kernel_rfl) (by kernel_rfl) (by kernel_rfl) (fun _ _ _ _ h => h) rfl ?_; apply Exists.intro; refine ⟨fun v1 hv1 => ?_, ?_⟩; (· (go_simp; rfl)); simp only [Act.put, List.setIfInBounds_toArray, List.set_cons_zero, List.set_cons_succ]
          refine anyR_take Later.pre 5 (.int .u16 q) rfl (by kernel_rfl) (by kernel_rfl) (by kernel_rfl) (fun _ _ _ h => h) rfl (fun v1 hv1 => goes_call 70 #[.agg #[.string c.host, .string c.is, .int .u16 c.port, .int .u16 c.np, mv], .int .u16 p] (by go_simp) (HIN.out v1 (HI3.out.later (hV0.trans hv1)))) ?_
          simp only [Act.put, List.setIfInBounds_toArray, List.set_cons_zero, List.set_cons_succ]
          refine anyR_take Later.pre 6 (.string dq) rfl (by kernel_rfl) (by kernel_rfl) (by kernel_rfl) (fun _ _ _ h => h) rfl (fun v1 hv1 => goes_call 69 #[.int .u16 q] (by go_simp) (HDE.out v1 (hT.later (L3.trans (hV0.trans hv1))))) ?_
          simp only [Act.put, List.setIfInBounds_toArray, List.set_cons_zero, List.set_cons_succ]
          refine anyR_val Later.pre 7 rfl (by kernel_rfl) (by kernel_rfl) (by kernel_rfl) (fun _ _ _ _ h => h) rfl ⟨.string (a ++ dq), fun v1 hv1 => (by first | (go_simp; done) | (go_simp; omega)), ?_⟩; simp only [Act.put, List.setIfInBounds_toArray, List.set_cons_zero, List.set_cons_succ]
          refine anyR_val Later.pre 8 rfl (by kernel_rfl) (by kernel_rfl) (by kernel_rfl) (fun _ _ _ _ h => h) rfl ?_; apply Exists.intro; refine ⟨fun v1 hv1 => ?_, ?_⟩; (· (go_simp; rfl)); simp only [Act.put, List.setIfInBounds_toArray, List.set_cons_zero, List.set_cons_succ]
          refine anyR_val Later.pre 9 rfl (by kernel_rfl) (by kernel_rfl) (by kernel_rfl) (fun _ _ _ _ h => h) rfl ?_; apply Exists.intro; refine ⟨fun v1 hv1 => ?_, ?_⟩; (· (go_simp; rfl)); simp only [Act.put, List.setIfInBounds_toArray, List.set_cons_zero, List.set_cons_succ]
          refine anyR_val Later.pre 10 rfl (by kernel_rfl) (by kernel_rfl) (by kernel_rfl) (fun _ _ _ _ h => h) rfl ⟨.string (a ++ dq ++ b), fun v1 hv1 => (by first | (go_simp; done) | (go_simp; omega)), ?_⟩; simp only [Act.put, List.setIfInBounds_toArray, List.set_cons_zero, List.set_cons_succ]
          refine anyR_val Later.pre 11 rfl (by kernel_rfl) (by kernel_rfl) (by kernel_rfl) (fun _ _ _ _ h => h) rfl ?_; apply Exists.intro; refine ⟨fun v1 hv1 => ?_, ?_⟩; (· (go_simp; rfl)); simp only [Act.put, List.setIfInBounds_toArray, List.set_cons_zero, List.set_cons_succ]
          clear qC qM
          refine anyR_done (by kernel_rfl) (fun V9 hV9 => ?_)
          go_wp2_with fail
          go_ret
          exact ⟨by rw [hR.out]; first | rfl | simp, L3.trans (hV0.trans hV9)⟩
end Go.Proofs.YtibjgaelaijgpaaGreatDoor
