/- Package sip: a place, with another address and port. -/
import Derived.Test.YtibjgaelaijgpaaGreatDoorIF
namespace Go.Proofs.YtibjgaelaijgpaaGreatDoor
open Go.RowKit Go.Shelf
set_option maxRecDepth 100000
set_option linter.unusedVariables false
set_option linter.unusedSimpArgs false

/-- What the library's search asks for. -/
def TabM (w : World) : Prop := ∃ m : Int, w.cell? ⟨cutL_ren.g 1, 0, none⟩ = some (.int .i64 m)
theorem TabM.later {A B : World} (h : TabM A) (l : Later A B) : TabM B := let ⟨m, hm⟩ := h; ⟨m, l.cell hm⟩
/-- A text cut at the first of another: what is ahead, what is behind, whether it is there. -/
def cutA (s p : ByteArray) : ByteArray := ⟨(Lib.cut s.data.toList p.data.toList).1.toArray⟩
def cutZ (s p : ByteArray) : ByteArray := ⟨(Lib.cut s.data.toList p.data.toList).2.1.toArray⟩
def cutF (s p : ByteArray) : Bool := (Lib.cut s.data.toList p.data.toList).2.2
theorem cut_any (s p : ByteArray) (w : World) (hM : TabM w) (hs : s.size ≤ 1000000) :
    Calls Tryz.prog 66 #[.string s, .string p] w fun e w' => e = .returned (.tuple #[.string (cutA s p), .string (cutZ s p), .bool (cutF s p)]) ∧ Later w w' := by
  obtain ⟨m, hm⟩ := hM
  refine (Any.strings_Cut cutL s p m w (by omega) hm).mono ?_
  rintro e w' ⟨rfl, n, rfl⟩
  exact ⟨rfl, below_draw (Later.refl w) n⟩

/-- A port that is written so. -/
def prV (s : ByteArray) : Option Int := match numV s 65535 with
  | none => none
  | some p => if p = 0 then none else some p
theorem prV_rng (s : ByteArray) {p : Int} (h : prV s = some p) : 1 ≤ p ∧ p ≤ 65535 := by
  have hr := numV_rng s 65535 (by omega)
  unfold prV at h
  cases hn : numV s 65535 with
  | none => rw [hn] at h; cases h
  | some q =>
    rw [hn] at h hr
    simp only [Option.getD_some] at hr
    simp only at h
    split at h
    · cases h
    · cases h
      omega
theorem wport2_any (s : ByteArray) (w : World) : Calls Tryz.prog 82 #[.string s] w fun e w' => e = .returned (.tuple #[.int .u16 ((prV s).getD 0), .bool (prV s).isSome]) ∧ Later w w' := by
  refine (wport_any s w).mono ?_
  rintro e w' ⟨rfl, l⟩
  refine ⟨?_, l⟩
  unfold prV
  cases numV s 65535 with
  | none => rfl
  | some q =>
    simp only [Option.getD_some, Option.isSome_some, Bool.true_and]
    split
    · rename_i h; subst h; rfl
    · rename_i h; simp [h]

theorem decimalI_any (p : Int) (w : World) (hT : TabI w) (hp : 0 ≤ p ∧ p ≤ 65535) :
    Calls Tryz.prog 69 #[.int .u16 p] w fun e w' => e = .returned (.string (decB p.toNat)) ∧ Later w w' := by
  have := decimal_any p.toNat w hT (by omega)
  rwa [Int.toNat_of_nonneg hp.1] at this

/-- What is changed. -/
structure Cg where
  host : ByteArray
  is : ByteArray
  port : Int
  np : Int
  media : List (Int × Int)
def Cg.wf (c : Cg) : Prop := (c.host.size ≤ 1000 ∧ c.is.size ≤ 1000) ∧ (0 ≤ c.port ∧ c.port ≤ 65535) ∧ (0 ≤ c.np ∧ c.np ≤ 65535) ∧ ∀ m ∈ c.media, (0 ≤ m.1 ∧ m.1 ≤ 65535) ∧ (0 ≤ m.2 ∧ m.2 ≤ 65535)
def cln : ByteArray := ⟨#[58]⟩
def plB (c : Cg) (t : ByteArray) : ByteArray :=
  if eqS (cutA t cln) c.host = false then t else if cutF t cln = false then c.is else
  match prV (cutZ t cln) with
  | none => t
  | some p => c.is ++ cln ++ decB (if p = c.port then c.np else p).toNat

set_option maxHeartbeats 4000000 in
theorem place_any (c : Cg) (mv : Value) (t : ByteArray) (w : World) (hT : TabI w) (hM : TabM w) (hc : c.wf) (hs : t.size ≤ 1000000) :
    Calls Tryz.prog 72 #[.agg #[.string c.host, .string c.is, .int .u16 c.port, .int .u16 c.np, mv], .string t] w fun e w' => e = .returned (.string (plB c t)) ∧ Later w w' := by
  obtain ⟨⟨hc3, hc4⟩, hc1, hc2, _⟩ := hc
  have l0 : Later w (w.alloc (.cells #[.string c.host, .string c.is, .int .u16 c.port, .int .u16 c.np, mv] 64)) := later_allocR _ _
  have C0 := hide (heap_alloc_new w (.cells #[.string c.host, .string c.is, .int .u16 c.port, .int .u16 c.np, mv] 64))
  have HP : Hid (plB c t = if eqS (cutA t cln) c.host = false then t else if cutF t cln = false then c.is else match prV (cutZ t cln) with
    | none => t
    | some p => c.is ++ cln ++ decB (if p = c.port then c.np else p).toNat) := rfl
  generalize plB c t = r at *
  have HC := hide (fun W (h : TabM W) => cut_any t cln W h hs)
  have HB := hide (str_beq (cutA t cln) c.host)
  generalize cutA t cln = ca at *
  generalize cutZ t cln = cz at *
  generalize cutF t cln = cf at *
  have HW := hide (fun W => wport2_any cz W)
  have HNR : Hid (∀ p, prV cz = some p → 1 ≤ p ∧ p ≤ 65535) := fun p h => prV_rng cz h
  generalize prV cz = nv at *
  go_enter Tryz.func72, Tryz.ntmps72
  go_upto_region 1 with fail
  generalize w.alloc _ = w0 at *
  generalize w.heap.size = gc at *
  go_wp2_with fail
  refine (HC.out w0 (hM.later l0)).mono ?_
  rintro e w1 ⟨rfl, l1⟩
  go_wp2_with fail
  refine (HW.out w1).mono ?_
  rintro e w2 ⟨rfl, l2⟩
  have L2 := Later.trans l0 (l1.trans l2)
  have C2 := hide (later_keep (l1.trans l2) C0.out)
  clear HC HW l1 l2 C0
  have k2 := block_cell C2.out
  have hb := HB.out
  generalize eqS ca c.host = be at *
  cases be with
  | false =>
    go_wp2_with fail
    go_ret
    exact ⟨by rw [HP.out]; rfl, L2⟩
  | true =>
    cases cf with
    | false =>
      go_wp2_with fail
      go_ret
      exact ⟨by rw [HP.out]; rfl, L2⟩
    | true =>
      cases nv with
      | none =>
        go_wp2_with fail
        go_ret
        exact ⟨by rw [HP.out]; rfl, L2⟩
      | some p =>
        have hpr := HNR.out p rfl
        by_cases hpp : p = c.port
        case pos =>
          have tp : (p == c.port) = true := by simp [hpp]
          have HP2 : Hid (r = c.is ++ cln ++ decB (c.np).toNat) := by
            have h1 := HP.out
            simp only [reduceCtorEq, if_false, if_pos hpp] at h1
            exact h1
          go_upto_region 9 with fail
          refine anyR_begin (R := Later) Later.pre Later.drew 7 rfl (by kernel_rfl) (fun V0 hV0 => ?_)
          have qC : ∀ v, Later V0 v → ∀ j, v.cell? ⟨gc, j, none⟩ = #[Value.string c.host, .string c.is, .int .u16 c.port, .int .u16 c.np, mv][j]? := fun v hv => block_cell (later_keep (hV0.trans hv) C2.out)
          have hds := decB_size c.np.toNat (by omega)
          refine anyR_val Later.pre 0 rfl (by kernel_rfl) (by kernel_rfl) (by kernel_rfl) (fun _ _ _ _ h => h) rfl ?_; apply Exists.intro; refine ⟨fun v1 hv1 => ?_, ?_⟩; (· (go_simp; rfl)); simp only [Act.put, List.setIfInBounds_toArray, List.set_cons_zero, List.set_cons_succ]
          refine anyR_val Later.pre 1 rfl (by kernel_rfl) (by kernel_rfl) (by kernel_rfl) (fun _ _ _ _ h => h) rfl ?_; apply Exists.intro; refine ⟨fun v1 hv1 => ?_, ?_⟩; (· (go_simp; rfl)); simp only [Act.put, List.setIfInBounds_toArray, List.set_cons_zero, List.set_cons_succ]
          refine anyR_val Later.pre 2 rfl (by kernel_rfl) (by kernel_rfl) (by kernel_rfl) (fun _ _ _ _ h => h) rfl ⟨.string (c.is ++ ⟨#[58]⟩), fun v1 hv1 => (by go_simp; omega), ?_⟩; simp only [Act.put, List.setIfInBounds_toArray, List.set_cons_zero, List.set_cons_succ]
          refine anyR_val Later.pre 3 rfl (by kernel_rfl) (by kernel_rfl) (by kernel_rfl) (fun _ _ _ _ h => h) rfl ?_; apply Exists.intro; refine ⟨fun v1 hv1 => ?_, ?_⟩; (· (go_simp; rfl)); simp only [Act.put, List.setIfInBounds_toArray, List.set_cons_zero, List.set_cons_succ]
          refine anyR_take Later.pre 4 (.string (decB (c.np).toNat)) rfl (by kernel_rfl) (by kernel_rfl) (by kernel_rfl) (fun _ _ _ h => h) rfl (fun v1 hv1 => goes_call 69 #[.int .u16 c.np] (by go_simp) (decimalI_any (c.np) v1 (hT.later (L2.trans (hV0.trans hv1))) (by omega))) ?_
          simp only [Act.put, List.setIfInBounds_toArray, List.set_cons_zero, List.set_cons_succ]
          refine anyR_val Later.pre 5 rfl (by kernel_rfl) (by kernel_rfl) (by kernel_rfl) (fun _ _ _ _ h => h) rfl ⟨.string (c.is ++ ⟨#[58]⟩ ++ decB c.np.toNat), fun v1 hv1 => (by go_simp; omega), ?_⟩; simp only [Act.put, List.setIfInBounds_toArray, List.set_cons_zero, List.set_cons_succ]
          refine anyR_val Later.pre 6 rfl (by kernel_rfl) (by kernel_rfl) (by kernel_rfl) (fun _ _ _ _ h => h) rfl ?_; apply Exists.intro; refine ⟨fun v1 hv1 => ?_, ?_⟩; (· (go_simp; rfl)); simp only [Act.put, List.setIfInBounds_toArray, List.set_cons_zero, List.set_cons_succ]
          clear qC
          refine anyR_done (by kernel_rfl) (fun V9 hV9 => ?_)
          go_wp2_with fail
          go_ret
          exact ⟨by rw [HP2.out]; rfl, L2.trans (hV0.trans hV9)⟩
        case neg =>
          have tp : (p == c.port) = false := by simp [hpp]
          have HP2 : Hid (r = c.is ++ cln ++ decB (p).toNat) := by
            have h1 := HP.out
            simp only [reduceCtorEq, if_false, if_neg hpp] at h1
            exact h1
          go_upto_region 9 with fail
          refine anyR_begin (R := Later) Later.pre Later.drew 7 rfl (by kernel_rfl) (fun V0 hV0 => ?_)
          have qC : ∀ v, Later V0 v → ∀ j, v.cell? ⟨gc, j, none⟩ = #[Value.string c.host, .string c.is, .int .u16 c.port, .int .u16 c.np, mv][j]? := fun v hv => block_cell (later_keep (hV0.trans hv) C2.out)
          have hds := decB_size p.toNat (by omega)
          refine anyR_val Later.pre 0 rfl (by kernel_rfl) (by kernel_rfl) (by kernel_rfl) (fun _ _ _ _ h => h) rfl ?_; apply Exists.intro; refine ⟨fun v1 hv1 => ?_, ?_⟩; (· (go_simp; rfl)); simp only [Act.put, List.setIfInBounds_toArray, List.set_cons_zero, List.set_cons_succ]
          refine anyR_val Later.pre 1 rfl (by kernel_rfl) (by kernel_rfl) (by kernel_rfl) (fun _ _ _ _ h => h) rfl ?_; apply Exists.intro; refine ⟨fun v1 hv1 => ?_, ?_⟩; (· (go_simp; rfl)); simp only [Act.put, List.setIfInBounds_toArray, List.set_cons_zero, List.set_cons_succ]
          refine anyR_val Later.pre 2 rfl (by kernel_rfl) (by kernel_rfl) (by kernel_rfl) (fun _ _ _ _ h => h) rfl ⟨.string (c.is ++ ⟨#[58]⟩), fun v1 hv1 => (by go_simp; omega), ?_⟩; simp only [Act.put, List.setIfInBounds_toArray, List.set_cons_zero, List.set_cons_succ]
          refine anyR_val Later.pre 3 rfl (by kernel_rfl) (by kernel_rfl) (by kernel_rfl) (fun _ _ _ _ h => h) rfl ?_; apply Exists.intro; refine ⟨fun v1 hv1 => ?_, ?_⟩; (· (go_simp; rfl)); simp only [Act.put, List.setIfInBounds_toArray, List.set_cons_zero, List.set_cons_succ]
          refine anyR_take Later.pre 4 (.string (decB (p).toNat)) rfl (by kernel_rfl) (by kernel_rfl) (by kernel_rfl) (fun _ _ _ h => h) rfl (fun v1 hv1 => goes_call 69 #[.int .u16 p] (by go_simp) (decimalI_any (p) v1 (hT.later (L2.trans (hV0.trans hv1))) (by omega))) ?_
          simp only [Act.put, List.setIfInBounds_toArray, List.set_cons_zero, List.set_cons_succ]
          refine anyR_val Later.pre 5 rfl (by kernel_rfl) (by kernel_rfl) (by kernel_rfl) (fun _ _ _ _ h => h) rfl ⟨.string (c.is ++ ⟨#[58]⟩ ++ decB p.toNat), fun v1 hv1 => (by go_simp; omega), ?_⟩; simp only [Act.put, List.setIfInBounds_toArray, List.set_cons_zero, List.set_cons_succ]
          refine anyR_val Later.pre 6 rfl (by kernel_rfl) (by kernel_rfl) (by kernel_rfl) (fun _ _ _ _ h => h) rfl ?_; apply Exists.intro; refine ⟨fun v1 hv1 => ?_, ?_⟩; (· (go_simp; rfl)); simp only [Act.put, List.setIfInBounds_toArray, List.set_cons_zero, List.set_cons_succ]
          clear qC
          refine anyR_done (by kernel_rfl) (fun V9 hV9 => ?_)
          go_wp2_with fail
          go_ret
          exact ⟨by rw [HP2.out]; rfl, L2.trans (hV0.trans hV9)⟩
end Go.Proofs.YtibjgaelaijgpaaGreatDoor
