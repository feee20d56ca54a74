/- Several texts in one. -/
import Derived.Test.YtehdgndbloaljaaDoorIJ
import Derived.Deep.Cut
import Derived.Test.YtehdgndbloaljaaDoorRx
import Derived.Test.YtehdgndbloaljaaDoorRt
import Derived.OrdersIn
import Derived.RangeFuncCalls
import Derived.Test.YtehdgndbloaljaaDoorRg
import Derived.Lib.AppendStr
/- Package sip: a line of a body that names a port. -/
namespace Go.Proofs.YtehdgndbloaljaaDoor
open Go.RowKit Go.Shelf
set_option maxRecDepth 100000
set_option linter.unusedVariables false
set_option linter.unusedSimpArgs false

def spB : ByteArray := ⟨#[32]⟩
def meB : ByteArray := ⟨#[109, 61]⟩
/-- A text without what it begins with. -/
def tpB (s p : ByteArray) : ByteArray := ⟨(Lib.trimPrefix s.data.toList p.data.toList).toArray⟩
def hpB (s p : ByteArray) : Bool := Lib.hasPrefix s.data.toList p.data.toList
/-- A line that names a port: what is ahead, the port, what is behind. -/
def mdO (l : ByteArray) : Option (ByteArray × Int × ByteArray) :=
  if hpB (cutA l spB) meB = false then none else if cutF (cutZ l spB) spB = false then none else
  match prV (cutA (cutZ l spB) spB) with
  | none => none
  | some p => if allN ltC (tpB (cutA l spB) meB) = false then none else some (cutA l spB ++ spB, p, (cutZ l spB).extract (cutA (cutZ l spB) spB).size (cutZ l spB).size)
def mdV : Option (ByteArray × Int × ByteArray) → Value
  | none => .tuple #[.agg #[.string ⟨#[]⟩, .int .u16 0, .string ⟨#[]⟩], .bool false]
  | some (a, p, b) => .tuple #[.agg #[.string a, .int .u16 p, .string b], .bool true]

set_option maxHeartbeats 4000000 in
theorem mediumOf_any (l : ByteArray) (w : World) (hM : TabM w) (hs : l.size ≤ 1000000) :
    Calls Tryd.prog 29 #[.string l] w fun e w' => e = .returned (mdV (mdO l)) ∧ Later w w' := by
  have HV : Hid (mdO l = if hpB (cutA l spB) meB = false then none else if cutF (cutZ l spB) spB = false then none else
    match prV (cutA (cutZ l spB) spB) with
    | none => none
    | some p => if allN ltC (tpB (cutA l spB) meB) = false then none else some (cutA l spB ++ spB, p, (cutZ l spB).extract (cutA (cutZ l spB) spB).size (cutZ l spB).size)) := rfl
  generalize mdO l = r at *
  have HC := hide (fun W (h : TabM W) => cut_any l spB W h (by omega))
  obtain ⟨hz1, hz2⟩ := cut_size l spB
  generalize cutA l spB = fi at *
  generalize cutZ l spB = re at *
  generalize cutF l spB = cf at *
  have HD := hide (fun W (h : TabM W) => cut_any re spB W h (by omega))
  obtain ⟨hz3, hz4⟩ := cut_size re spB
  generalize cutA re spB = dg at *
  generalize cutZ re spB = dz at *
  generalize cutF re spB = df at *
  have HP := hide (fun W => Any.strings_CutPrefix cutpL fi meB W)
  have HQ : Hid (∀ W, Calls Tryd.prog 47 #[.string fi, .string meB] W fun e w' => e = .returned (.tuple #[.string (tpB fi meB), .bool (hpB fi meB)]) ∧ w' = W) := fun W => HP.out W
  clear HP
  generalize tpB fi meB = ki at *
  generalize hpB fi meB = kb at *
  have HW := hide (fun W => wport2_any dg W)
  generalize prV dg = nv at *
  have la := later_allocR w (.cells #[.string ⟨#[]⟩, .int .u16 0, .string ⟨#[]⟩] 75)
  have CA := hide (heap_alloc_new w (.cells #[.string ⟨#[]⟩, .int .u16 0, .string ⟨#[]⟩] 75))
  go_enter Tryd.func29, Tryd.ntmps29
  go_upto_region 1 with fail
  generalize w.alloc _ = w0 at *
  generalize hg : w.heap.size = g at *
  go_wp2_with fail
  refine (HC.out w0 (hM.later la)).mono ?_
  rintro e w1 ⟨rfl, l1⟩
  go_wp2_with fail
  refine (HD.out w1 (hM.later (Later.trans la l1))).mono ?_
  rintro e w2 ⟨rfl, l2⟩
  go_wp2_with fail
  refine (HQ.out w2).mono ?_
  rintro e w2b ⟨rfl, hw⟩
  subst hw
  go_wp2_with fail
  refine (HW.out w2b).mono ?_
  rintro e w3 ⟨rfl, l3⟩
  have L3 := l1.trans (l2.trans l3)
  have C3 := hide (later_keep L3 CA.out)
  clear l1 l2 l3 CA HC HD HQ HW
  have LA : Later w w3 := Later.trans la L3
  cases kb with
  | false =>
    have CA := block_cell C3.out; have FA := block_frozen C3.out; go_wp2_with fail; generalize hV : (((w3.setCell ⟨g, 0, none⟩ _).setCell ⟨g, 1, none⟩ _).setCell ⟨g, 2, none⟩ _) = V8; have hV9 : V8 = putRow w3 g 0 [.string ⟨#[]⟩, .int .u16 0, .string ⟨#[]⟩] := hV.symm; have hb8 : But (fun b => b = g) w3 V8 := (by rw [hV9]; exact putRow_but (E := fun b => b = g) (n := g) rfl _ _ _ _ (But.refl _ _)); have p8 := putRow_all [.string ⟨#[]⟩, .int .u16 0, .string ⟨#[]⟩] C3.out rfl; rw [← hV9] at p8; clear hV hV9; have P8 := block_cell p8; have hw8 : Later w V8 := Below.trans LA (hb8.below (LA).size (fun k h e => by omega)); exact bodyPost_ret (v := .tuple #[.agg #[.string ⟨#[]⟩, .int .u16 0, .string ⟨#[]⟩], .bool false]) (by simp [results, Tryd.results29, go_sem, P8]) rfl ⟨(by rw [HV.out]; rfl), hw8⟩
  | true =>
    cases df with
    | false =>
      have CA := block_cell C3.out; have FA := block_frozen C3.out; go_wp2_with fail; generalize hV : (((w3.setCell ⟨g, 0, none⟩ _).setCell ⟨g, 1, none⟩ _).setCell ⟨g, 2, none⟩ _) = V8; have hV9 : V8 = putRow w3 g 0 [.string ⟨#[]⟩, .int .u16 0, .string ⟨#[]⟩] := hV.symm; have hb8 : But (fun b => b = g) w3 V8 := (by rw [hV9]; exact putRow_but (E := fun b => b = g) (n := g) rfl _ _ _ _ (But.refl _ _)); have p8 := putRow_all [.string ⟨#[]⟩, .int .u16 0, .string ⟨#[]⟩] C3.out rfl; rw [← hV9] at p8; clear hV hV9; have P8 := block_cell p8; have hw8 : Later w V8 := Below.trans LA (hb8.below (LA).size (fun k h e => by omega)); exact bodyPost_ret (v := .tuple #[.agg #[.string ⟨#[]⟩, .int .u16 0, .string ⟨#[]⟩], .bool false]) (by simp [results, Tryd.results29, go_sem, P8]) rfl ⟨(by rw [HV.out]; rfl), hw8⟩
    | true =>
      cases nv with
      | none =>
        have CA := block_cell C3.out; have FA := block_frozen C3.out; go_wp2_with fail; generalize hV : (((w3.setCell ⟨g, 0, none⟩ _).setCell ⟨g, 1, none⟩ _).setCell ⟨g, 2, none⟩ _) = V8; have hV9 : V8 = putRow w3 g 0 [.string ⟨#[]⟩, .int .u16 0, .string ⟨#[]⟩] := hV.symm; have hb8 : But (fun b => b = g) w3 V8 := (by rw [hV9]; exact putRow_but (E := fun b => b = g) (n := g) rfl _ _ _ _ (But.refl _ _)); have p8 := putRow_all [.string ⟨#[]⟩, .int .u16 0, .string ⟨#[]⟩] C3.out rfl; rw [← hV9] at p8; clear hV hV9; have P8 := block_cell p8; have hw8 : Later w V8 := Below.trans LA (hb8.below (LA).size (fun k h e => by omega)); exact bodyPost_ret (v := .tuple #[.agg #[.string ⟨#[]⟩, .int .u16 0, .string ⟨#[]⟩], .bool false]) (by simp [results, Tryd.results29, go_sem, P8]) rfl ⟨(by rw [HV.out]; rfl), hw8⟩
      | some p =>
        go_wp2_with fail
        refine (letters_any ki _).mono ?_
        generalize allN ltC ki = ab at *
        rintro e w4 ⟨rfl, l4⟩
        have LB := LA.trans l4
        have C4 := hide (later_keep l4 C3.out)
        cases ab with
        | false =>
          have CA := block_cell C4.out; have FA := block_frozen C4.out; go_wp2_with fail; generalize hV : (((w4.setCell ⟨g, 0, none⟩ _).setCell ⟨g, 1, none⟩ _).setCell ⟨g, 2, none⟩ _) = V8; have hV9 : V8 = putRow w4 g 0 [.string ⟨#[]⟩, .int .u16 0, .string ⟨#[]⟩] := hV.symm; have hb8 : But (fun b => b = g) w4 V8 := (by rw [hV9]; exact putRow_but (E := fun b => b = g) (n := g) rfl _ _ _ _ (But.refl _ _)); have p8 := putRow_all [.string ⟨#[]⟩, .int .u16 0, .string ⟨#[]⟩] C4.out rfl; rw [← hV9] at p8; clear hV hV9; have P8 := block_cell p8; have hw8 : Later w V8 := Below.trans LB (hb8.below (LB).size (fun k h e => by omega)); exact bodyPost_ret (v := .tuple #[.agg #[.string ⟨#[]⟩, .int .u16 0, .string ⟨#[]⟩], .bool false]) (by simp [results, Tryd.results29, go_sem, P8]) rfl ⟨(by rw [HV.out]; rfl), hw8⟩
        | true =>
          have hsz : fi.size + spB.size ≤ 9223372036854775807 := by have : spB.size = 1 := rfl; omega
          have CA := block_cell C4.out; have FA := block_frozen C4.out; go_wp2_with fail; generalize hV : (((w4.setCell ⟨g, 0, none⟩ _).setCell ⟨g, 1, none⟩ _).setCell ⟨g, 2, none⟩ _) = V8; have hV9 : V8 = putRow w4 g 0 [.string <| fi ++ ⟨#[32]⟩, .int .u16 p, .string <| re.extract dg.size re.size] := hV.symm; have hb8 : But (fun b => b = g) w4 V8 := (by rw [hV9]; exact putRow_but (E := fun b => b = g) (n := g) rfl _ _ _ _ (But.refl _ _)); have p8 := putRow_all [.string <| fi ++ ⟨#[32]⟩, .int .u16 p, .string <| re.extract dg.size re.size] C4.out rfl; rw [← hV9] at p8; clear hV hV9; have P8 := block_cell p8; have hw8 : Later w V8 := Below.trans LB (hb8.below (LB).size (fun k h e => by omega)); exact bodyPost_ret (v := .tuple #[.agg #[.string <| fi ++ ⟨#[32]⟩, .int .u16 p, .string <| re.extract dg.size re.size], .bool true]) (by simp [results, Tryd.results29, go_sem, P8]) rfl ⟨(by rw [HV.out]; rfl), hw8⟩
end Go.Proofs.YtehdgndbloaljaaDoor

/- Package sip: a line of a body, changed. -/
namespace Go.Proofs.YtehdgndbloaljaaDoor
open Go.RowKit Go.Shelf
set_option maxRecDepth 100000
set_option linter.unusedVariables false
set_option linter.unusedSimpArgs false

def cnB : ByteArray := ⟨#[99, 61, 73, 78, 32, 73, 80, 52, 32]⟩
def orB : ByteArray := ⟨#[111, 61]⟩
def omB : ByteArray := ⟨#[32, 73, 78, 32, 73, 80, 52, 32]⟩
def hsB (s p : ByteArray) : Bool := Lib.hasSuffix s.data.toList p.data.toList
def tsB (s p : ByteArray) : ByteArray := ⟨(Lib.trimSuffix s.data.toList p.data.toList).toArray⟩
def mlB (c : Cg) (l : ByteArray) : Option (ByteArray × Int × ByteArray) → ByteArray
  | none => l
  | some (a, p, b) => a ++ decB (inB c.media p).toNat ++ b
/-- A line of a body, changed. -/
def lnB (c : Cg) (l : ByteArray) : ByteArray :=
  if eqS l (cnB ++ c.host) = true then cnB ++ c.is else if hpB l orB = true ∧ hsB l (omB ++ c.host) = true then tsB l c.host ++ c.is else
  mlB c l (mdO l)
theorem tsB_size (s p : ByteArray) : (tsB s p).size ≤ s.size := by
  have hs : s.size = s.data.toList.length := by rw [Array.length_toList]; rfl
  have h1 : (tsB s p).size = (Lib.trimSuffix s.data.toList p.data.toList).length := by unfold tsB; simp [ByteArray.size]
  rw [h1, hs]
  unfold Lib.trimSuffix
  split
  · rw [List.length_take]; omega
  · omega
theorem mdO_size {l : ByteArray} {a b : ByteArray} {p : Int} (h : mdO l = some (a, p, b)) : a.size ≤ l.size + 1 ∧ b.size ≤ l.size ∧ 1 ≤ p ∧ p ≤ 65535 := by
  have h1 := cut_size l spB
  have h2 := cut_size (cutZ l spB) spB
  unfold mdO at h
  split at h
  · cases h
  split at h
  · cases h
  cases hp : prV (cutA (cutZ l spB) spB) with
  | none => rw [hp] at h; cases h
  | some q =>
    rw [hp] at h
    simp only at h
    split at h
    · cases h
    · cases h
      have := prV_rng _ hp
      have hs : spB.size = 1 := rfl
      refine ⟨by rw [ByteArray.size_append]; omega, by rw [ByteArray.size_extract]; omega, this.1, this.2⟩
theorem inB_rng {l : List (Int × Int)} {p : Int} (hl : ∀ m ∈ l, (0 ≤ m.1 ∧ m.1 ≤ 65535) ∧ (0 ≤ m.2 ∧ m.2 ≤ 65535)) (hp : 1 ≤ p ∧ p ≤ 65535) : 0 ≤ inB l p ∧ inB l p ≤ 65535 := by
  unfold inB
  cases h : l.find? (fun m => m.1 == p) with
  | none => simp only [Option.map_none, Option.getD_none]; omega
  | some m => exact (hl m (List.mem_of_find?_eq_some h)).2

set_option maxHeartbeats 8000000 in
theorem line_any (c : Cg) (mv : Value) (l : ByteArray) (w : World) (hT : TabI w) (hM : TabM w) (hc : c.wf) (hI : RdP2 w.heap.size w mv c.media) (hs : l.size ≤ 100000) :
    Calls Tryd.prog 72 #[.agg #[.string c.host, .string c.is, .int .u16 c.port, .int .u16 c.np, mv], .string l] w fun e w' => e = .returned (.string (lnB c l)) ∧ Later w w' := by
  obtain ⟨⟨hc3, hc4⟩, hc1, hc2, hc5⟩ := hc
  have l0 : Later w (w.alloc (.cells #[.string c.host, .string c.is, .int .u16 c.port, .int .u16 c.np, mv] 94)) := later_allocR _ _
  have C0 := hide (heap_alloc_new w (.cells #[.string c.host, .string c.is, .int .u16 c.port, .int .u16 c.np, mv] 94))
  have HV : Hid (lnB c l = if eqS l (cnB ++ c.host) = true then cnB ++ c.is else if hpB l orB = true ∧ hsB l (omB ++ c.host) = true then tsB l c.host ++ c.is else mlB c l (mdO l)) := rfl
  generalize lnB c l = r at *
  have HB := hide (str_beq l (cnB ++ c.host))
  have HP : Hid (∀ W, Calls Tryd.prog 68 #[.string l, .string orB] W fun e w' => e = .returned (.bool (hpB l orB)) ∧ w' = W) := fun W => Any.strings_HasPrefix prefL l orB W
  have HS : Hid (∀ W, Calls Tryd.prog 69 #[.string l, .string (omB ++ c.host)] W fun e w' => e = .returned (.bool (hsB l (omB ++ c.host))) ∧ w' = W) := fun W => Any.strings_HasSuffix suffL l (omB ++ c.host) W (by omega)
  have HT : Hid (∀ W, Calls Tryd.prog 82 #[.string l, .string c.host] W fun e w' => e = .returned (.string (tsB l c.host)) ∧ Later W w') := fun W => (Any.strings_TrimSuffix trimL l c.host W (by omega)).mono fun e w' h => ⟨h.1, h.2 ▸ Later.refl _⟩
  have HM := hide (fun W (h : TabM W) => mediumOf_any l W h (by omega))
  have HMS : Hid (∀ a p b, mdO l = some (a, p, b) → a.size ≤ l.size + 1 ∧ b.size ≤ l.size ∧ 1 ≤ p ∧ p ≤ 65535) := fun a p b h => mdO_size h
  have hts := tsB_size l c.host
  generalize hpB l orB = b2 at *
  generalize hsB l (omB ++ c.host) = b3 at *
  generalize tsB l c.host = tb at *
  generalize mdO l = mo at *
  have e9 : ByteArray.size ⟨#[99, 61, 73, 78, 32, 73, 80, 52, 32]⟩ = 9 := rfl
  have e8 : ByteArray.size ⟨#[32, 73, 78, 32, 73, 80, 52, 32]⟩ = 8 := rfl
  go_enter Tryd.func72, Tryd.ntmps72
  go_upto_region 1 with fail
  generalize w.alloc _ = w0 at *
  have HI0 := hide (hI.later l0)
  generalize w.heap.size = gc at *
  have hb1 : (l.toList == (⟨#[99, 61, 73, 78, 32, 73, 80, 52, 32]⟩ ++ c.host : ByteArray).toList) = eqS l (cnB ++ c.host) := HB.out
  generalize eqS l (cnB ++ c.host) = b1 at *
  have k0 := block_cell C0.out
  cases b1 with
  | true =>
    go_wp2_with fail
    go_ret
    exact ⟨by rw [HV.out]; rfl, l0⟩
  | false =>
    go_upto_region 3 with fail
    clear hb1 k0
    go_wp2_with fail
    refine (HP.out w0).mono ?_
    rintro e w1 ⟨rfl, hw1⟩
    subst hw1
    have HV2 : Hid (b2 = false ∨ b3 = false → r = mlB c l mo) := fun h => by
      rw [HV.out, if_neg (by decide), if_neg (by rintro ⟨h1, h2⟩; subst h1 h2; simp at h)]
    have HV3 : Hid (b2 = true → b3 = true → r = tb ++ c.is) := fun h1 h2 => by
      rw [HV.out, if_neg (by decide), if_pos ⟨h1, h2⟩]
    clear HV HB
    have k1 := block_cell C0.out
    cases b2 with
    | false =>
      go_upto_region 5 with fail
      clear k1
      go_wp2_with fail
      refine (HM.out w1 (hM.later l0)).mono ?_
      rintro e w2 ⟨rfl, l2⟩
      have L2 := Later.trans l0 l2
      have C2 := hide (later_keep l2 C0.out)
      have HI2 := hide (HI0.out.later l2)
      have HR := hide (HV2.out (by simp))
      clear HV2 HV3 C0 HI0
      cases mo with
      | none =>
        have la := later_allocR w2 (.cells #[.string ⟨#[]⟩, .int .u16 0, .string ⟨#[]⟩] 75)
        simp only [mdV]
        go_wp2_with fail
        go_ret
        exact ⟨by rw [HR.out]; rfl, L2.trans la⟩
      | some m =>
        obtain ⟨a, p, b⟩ := m
        obtain ⟨hm1, hm2, hm3⟩ := HMS.out a p b rfl
        have hir := inB_rng hc5 hm3
        have la := later_allocR w2 (.cells #[.string a, .int .u16 p, .string b] 75)
        have CM := hide (heap_alloc_new w2 (.cells #[.string a, .int .u16 p, .string b] 75))
        have C3 := hide (later_keep la C2.out)
        have HI3 := hide (HI2.out.later la)
        have hR : Hid (r = a ++ decB (inB c.media p).toNat ++ b) := HR.out
        have HIN := hide (fun W (h : RdP2 W.heap.size W mv c.media) => instead_any c mv p W h)
        have hds := decB_size (inB c.media p).toNat (by omega)
        have HDE := hide (fun W (h : TabI W) => decimalI_any (inB c.media p) W h hir)
        generalize inB c.media p = q at *
        generalize decB q.toNat = dq at *
        have L3 := L2.trans la
        clear HR HMS HM HT HS HP C2 HI2 hir
        simp only [mdV]
        go_upto_region 7 with fail
        generalize w2.alloc _ = w3 at *
        generalize w2.heap.size = gm at *
        refine anyR_begin (R := Later) Later.pre Later.drew 12 rfl (by kernel_rfl) (fun V0 hV0 => ?_)
        have qC : ∀ v, Later V0 v → ∀ j, v.cell? ⟨gc, j, none⟩ = #[Value.string c.host, .string c.is, .int .u16 c.port, .int .u16 c.np, mv][j]? := fun v hv => block_cell (later_keep (hV0.trans hv) C3.out)
        have qM : ∀ v, Later V0 v → ∀ j, v.cell? ⟨gm, j, none⟩ = #[Value.string a, .int .u16 p, .string b][j]? := fun v hv => block_cell (later_keep (hV0.trans hv) CM.out)
        refine anyR_val Later.pre 0 rfl (by kernel_rfl) (by kernel_rfl) (by kernel_rfl) (fun _ _ _ _ h => h) rfl ?_; apply Exists.intro; refine ⟨fun v1 hv1 => ?_, ?_⟩; (· (go_simp; rfl)); simp only [Act.put, List.setIfInBounds_toArray, List.set_cons_zero, List.set_cons_succ]
        refine anyR_val Later.pre 1 rfl (by kernel_rfl) (by kernel_rfl) (by kernel_rfl) (fun _ _ _ _ h => h) rfl ?_; apply Exists.intro; refine ⟨fun v1 hv1 => ?_, ?_⟩; (· (go_simp; rfl)); simp only [Act.put, List.setIfInBounds_toArray, List.set_cons_zero, List.set_cons_succ]
        refine anyR_val Later.pre 2 rfl (by kernel_rfl) (by kernel_rfl) (by kernel_rfl) (fun _ _ _ _ h => h) rfl ?_; apply Exists.intro; refine ⟨fun v1 hv1 => ?_, ?_⟩; (· (go_simp; rfl)); simp only [Act.put, List.setIfInBounds_toArray, List.set_cons_zero, List.set_cons_succ]
        refine anyR_val Later.pre 3 rfl (by kernel_rfl) (by kernel_rfl) (by kernel_rfl) (fun _ _ _ _ h => h) rfl ?_; apply Exists.intro; refine ⟨fun v1 hv1 => ?_, ?_⟩; (· (go_simp; rfl)); simp only [Act.put, List.setIfInBounds_toArray, List.set_cons_zero, List.set_cons_succ]
        refine anyR_val Later.pre 4 rfl (by kernel_rfl) (by kernel_rfl) (by kernel_rfl) (fun _ _ _ _ h => h) rfl ?_; apply Exists.intro; refine ⟨fun v1 hv1 => ?_, ?_⟩; (· (go_simp; rfl)); simp only [Act.put, List.setIfInBounds_toArray, List.set_cons_zero, List.set_cons_succ]
        refine anyR_take Later.pre 5 (.int .u16 q) rfl (by kernel_rfl) (by kernel_rfl) (by kernel_rfl) (fun _ _ _ h => h) rfl (fun v1 hv1 => goes_call 84 #[.agg #[.string c.host, .string c.is, .int .u16 c.port, .int .u16 c.np, mv], .int .u16 p] (by go_simp) (HIN.out v1 (HI3.out.later (hV0.trans hv1)))) ?_
        simp only [Act.put, List.setIfInBounds_toArray, List.set_cons_zero, List.set_cons_succ]
        refine anyR_take Later.pre 6 (.string dq) rfl (by kernel_rfl) (by kernel_rfl) (by kernel_rfl) (fun _ _ _ h => h) rfl (fun v1 hv1 => goes_call 83 #[.int .u16 q] (by go_simp) (HDE.out v1 (hT.later (L3.trans (hV0.trans hv1))))) ?_
        simp only [Act.put, List.setIfInBounds_toArray, List.set_cons_zero, List.set_cons_succ]
        refine anyR_val Later.pre 7 rfl (by kernel_rfl) (by kernel_rfl) (by kernel_rfl) (fun _ _ _ _ h => h) rfl ⟨.string (a ++ dq), fun v1 hv1 => (by first | (go_simp; done) | (go_simp; omega)), ?_⟩; simp only [Act.put, List.setIfInBounds_toArray, List.set_cons_zero, List.set_cons_succ]
        refine anyR_val Later.pre 8 rfl (by kernel_rfl) (by kernel_rfl) (by kernel_rfl) (fun _ _ _ _ h => h) rfl ?_; apply Exists.intro; refine ⟨fun v1 hv1 => ?_, ?_⟩; (· (go_simp; rfl)); simp only [Act.put, List.setIfInBounds_toArray, List.set_cons_zero, List.set_cons_succ]
        refine anyR_val Later.pre 9 rfl (by kernel_rfl) (by kernel_rfl) (by kernel_rfl) (fun _ _ _ _ h => h) rfl ?_; apply Exists.intro; refine ⟨fun v1 hv1 => ?_, ?_⟩; (· (go_simp; rfl)); simp only [Act.put, List.setIfInBounds_toArray, List.set_cons_zero, List.set_cons_succ]
        refine anyR_val Later.pre 10 rfl (by kernel_rfl) (by kernel_rfl) (by kernel_rfl) (fun _ _ _ _ h => h) rfl ⟨.string (a ++ dq ++ b), fun v1 hv1 => (by first | (go_simp; done) | (go_simp; omega)), ?_⟩; simp only [Act.put, List.setIfInBounds_toArray, List.set_cons_zero, List.set_cons_succ]
        refine anyR_val Later.pre 11 rfl (by kernel_rfl) (by kernel_rfl) (by kernel_rfl) (fun _ _ _ _ h => h) rfl ?_; apply Exists.intro; refine ⟨fun v1 hv1 => ?_, ?_⟩; (· (go_simp; rfl)); simp only [Act.put, List.setIfInBounds_toArray, List.set_cons_zero, List.set_cons_succ]
        clear qC qM
        refine anyR_done (by kernel_rfl) (fun V9 hV9 => ?_)
        go_wp2_with fail
        go_ret
        exact ⟨by rw [hR.out]; first | rfl | simp, L3.trans (hV0.trans hV9)⟩
    | true =>
      go_wp2_with fail
      refine (HS.out w1).mono ?_
      rintro e w1 ⟨rfl, hw1⟩
      subst hw1
      cases b3 with
      | true =>
        have HR := hide (HV3.out (by trivial) (by trivial))
        go_upto_region 4 with fail
        clear k1
        refine anyR_begin (R := Later) Later.pre Later.drew 8 rfl (by kernel_rfl) (fun V0 hV0 => ?_)
        have qC : ∀ v, Later V0 v → ∀ j, v.cell? ⟨gc, j, none⟩ = #[Value.string c.host, .string c.is, .int .u16 c.port, .int .u16 c.np, mv][j]? := fun v hv => block_cell (later_keep (hV0.trans hv) C0.out)
        refine anyR_val Later.pre 0 rfl (by kernel_rfl) (by kernel_rfl) (by kernel_rfl) (fun _ _ _ _ h => h) rfl ?_; apply Exists.intro; refine ⟨fun v1 hv1 => ?_, ?_⟩; (· (go_simp; rfl)); simp only [Act.put, List.setIfInBounds_toArray, List.set_cons_zero, List.set_cons_succ]
        refine anyR_val Later.pre 1 rfl (by kernel_rfl) (by kernel_rfl) (by kernel_rfl) (fun _ _ _ _ h => h) rfl ?_; apply Exists.intro; refine ⟨fun v1 hv1 => ?_, ?_⟩; (· (go_simp; rfl)); simp only [Act.put, List.setIfInBounds_toArray, List.set_cons_zero, List.set_cons_succ]
        refine anyR_val Later.pre 2 rfl (by kernel_rfl) (by kernel_rfl) (by kernel_rfl) (fun _ _ _ _ h => h) rfl ?_; apply Exists.intro; refine ⟨fun v1 hv1 => ?_, ?_⟩; (· (go_simp; rfl)); simp only [Act.put, List.setIfInBounds_toArray, List.set_cons_zero, List.set_cons_succ]
        refine anyR_take Later.pre 3 (.string tb) rfl (by kernel_rfl) (by kernel_rfl) (by kernel_rfl) (fun _ _ _ h => h) rfl (fun v1 hv1 => goes_call 82 #[.string l, .string c.host] (by go_simp) (HT.out v1)) ?_
        simp only [Act.put, List.setIfInBounds_toArray, List.set_cons_zero, List.set_cons_succ]
        refine anyR_val Later.pre 4 rfl (by kernel_rfl) (by kernel_rfl) (by kernel_rfl) (fun _ _ _ _ h => h) rfl ?_; apply Exists.intro; refine ⟨fun v1 hv1 => ?_, ?_⟩; (· (go_simp; rfl)); simp only [Act.put, List.setIfInBounds_toArray, List.set_cons_zero, List.set_cons_succ]
        refine anyR_val Later.pre 5 rfl (by kernel_rfl) (by kernel_rfl) (by kernel_rfl) (fun _ _ _ _ h => h) rfl ?_; apply Exists.intro; refine ⟨fun v1 hv1 => ?_, ?_⟩; (· (go_simp; rfl)); simp only [Act.put, List.setIfInBounds_toArray, List.set_cons_zero, List.set_cons_succ]
        refine anyR_val Later.pre 6 rfl (by kernel_rfl) (by kernel_rfl) (by kernel_rfl) (fun _ _ _ _ h => h) rfl ⟨.string (tb ++ c.is), fun v1 hv1 => (by first | (go_simp; done) | (go_simp; omega)), ?_⟩; simp only [Act.put, List.setIfInBounds_toArray, List.set_cons_zero, List.set_cons_succ]
        refine anyR_val Later.pre 7 rfl (by kernel_rfl) (by kernel_rfl) (by kernel_rfl) (fun _ _ _ _ h => h) rfl ?_; apply Exists.intro; refine ⟨fun v1 hv1 => ?_, ?_⟩; (· (go_simp; rfl)); simp only [Act.put, List.setIfInBounds_toArray, List.set_cons_zero, List.set_cons_succ]
        clear qC
        refine anyR_done (by kernel_rfl) (fun V9 hV9 => ?_)
        go_wp2_with fail
        go_ret
        exact ⟨by rw [HR.out]; first | rfl | simp, l0.trans (hV0.trans hV9)⟩
      | false =>
        go_upto_region 5 with fail
        clear k1
        go_wp2_with fail
        refine (HM.out w1 (hM.later l0)).mono ?_
        rintro e w2 ⟨rfl, l2⟩
        have L2 := Later.trans l0 l2
        have C2 := hide (later_keep l2 C0.out)
        have HI2 := hide (HI0.out.later l2)
        have HR := hide (HV2.out (by simp))
        clear HV2 HV3 C0 HI0
        cases mo with
        | none =>
          have la := later_allocR w2 (.cells #[.string ⟨#[]⟩, .int .u16 0, .string ⟨#[]⟩] 75)
          simp only [mdV]
          go_wp2_with fail
          go_ret
          exact ⟨by rw [HR.out]; rfl, L2.trans la⟩
        | some m =>
          obtain ⟨a, p, b⟩ := m
          obtain ⟨hm1, hm2, hm3⟩ := HMS.out a p b rfl
          have hir := inB_rng hc5 hm3
          have la := later_allocR w2 (.cells #[.string a, .int .u16 p, .string b] 75)
          have CM := hide (heap_alloc_new w2 (.cells #[.string a, .int .u16 p, .string b] 75))
          have C3 := hide (later_keep la C2.out)
          have HI3 := hide (HI2.out.later la)
          have hR : Hid (r = a ++ decB (inB c.media p).toNat ++ b) := HR.out
          have HIN := hide (fun W (h : RdP2 W.heap.size W mv c.media) => instead_any c mv p W h)
          have hds := decB_size (inB c.media p).toNat (by omega)
          have HDE := hide (fun W (h : TabI W) => decimalI_any (inB c.media p) W h hir)
          generalize inB c.media p = q at *
          generalize decB q.toNat = dq at *
          have L3 := L2.trans la
          clear HR HMS HM HT HS HP C2 HI2 hir
          simp only [mdV]
          go_upto_region 7 with fail
          generalize w2.alloc _ = w3 at *
          generalize w2.heap.size = gm at *
          refine anyR_begin (R := Later) Later.pre Later.drew 12 rfl (by kernel_rfl) (fun V0 hV0 => ?_)
          have qC : ∀ v, Later V0 v → ∀ j, v.cell? ⟨gc, j, none⟩ = #[Value.string c.host, .string c.is, .int .u16 c.port, .int .u16 c.np, mv][j]? := fun v hv => block_cell (later_keep (hV0.trans hv) C3.out)
          have qM : ∀ v, Later V0 v → ∀ j, v.cell? ⟨gm, j, none⟩ = #[Value.string a, .int .u16 p, .string b][j]? := fun v hv => block_cell (later_keep (hV0.trans hv) CM.out)
          refine anyR_val Later.pre 0 rfl (by kernel_rfl) (by kernel_rfl) (by kernel_rfl) (fun _ _ _ _ h => h) rfl ?_; apply Exists.intro; refine ⟨fun v1 hv1 => ?_, ?_⟩; (· (go_simp; rfl)); simp only [Act.put, List.setIfInBounds_toArray, List.set_cons_zero, List.set_cons_succ]
          refine anyR_val Later.pre 1 rfl (by kernel_rfl) (by kernel_rfl) (by kernel_rfl) (fun _ _ _ _ h => h) rfl ?_; apply Exists.intro; refine ⟨fun v1 hv1 => ?_, ?_⟩; (· (go_simp; rfl)); simp only [Act.put, List.setIfInBounds_toArray, List.set_cons_zero, List.set_cons_succ]
          refine anyR_val Later.pre 2 rfl (by kernel_rfl) (by kernel_rfl) (by kernel_rfl) (fun _ _ _ _ h => h) rfl ?_; apply Exists.intro; refine ⟨fun v1 hv1 => ?_, ?_⟩; (· (go_simp; rfl)); simp only [Act.put, List.setIfInBounds_toArray, List.set_cons_zero, List.set_cons_succ]
          refine anyR_val Later.pre 3 rfl (by kernel_rfl) (by kernel_rfl) (by kernel_rfl) (fun _ _ _ _ h => h) rfl ?_; apply Exists.intro; refine ⟨fun v1 hv1 => ?_, ?_⟩; (· (go_simp; rfl)); simp only [Act.put, List.setIfInBounds_toArray, List.set_cons_zero, List.set_cons_succ]
          refine anyR_val Later.pre 4 rfl (by kernel_rfl) (by kernel_rfl) (by kernel_rfl) (fun _ _ _ _ h => h) rfl ?_; apply Exists.intro; refine ⟨fun v1 hv1 => ?_, ?_⟩; (· (go_simp; rfl)); simp only [Act.put, List.setIfInBounds_toArray, List.set_cons_zero, List.set_cons_succ]
          refine anyR_take Later.pre 5 (.int .u16 q) rfl (by kernel_rfl) (by kernel_rfl) (by kernel_rfl) (fun _ _ _ h => h) rfl (fun v1 hv1 => goes_call 84 #[.agg #[.string c.host, .string c.is, .int .u16 c.port, .int .u16 c.np, mv], .int .u16 p] (by go_simp) (HIN.out v1 (HI3.out.later (hV0.trans hv1)))) ?_
          simp only [Act.put, List.setIfInBounds_toArray, List.set_cons_zero, List.set_cons_succ]
          refine anyR_take Later.pre 6 (.string dq) rfl (by kernel_rfl) (by kernel_rfl) (by kernel_rfl) (fun _ _ _ h => h) rfl (fun v1 hv1 => goes_call 83 #[.int .u16 q] (by go_simp) (HDE.out v1 (hT.later (L3.trans (hV0.trans hv1))))) ?_
          simp only [Act.put, List.setIfInBounds_toArray, List.set_cons_zero, List.set_cons_succ]
          refine anyR_val Later.pre 7 rfl (by kernel_rfl) (by kernel_rfl) (by kernel_rfl) (fun _ _ _ _ h => h) rfl ⟨.string (a ++ dq), fun v1 hv1 => (by first | (go_simp; done) | (go_simp; omega)), ?_⟩; simp only [Act.put, List.setIfInBounds_toArray, List.set_cons_zero, List.set_cons_succ]
          refine anyR_val Later.pre 8 rfl (by kernel_rfl) (by kernel_rfl) (by kernel_rfl) (fun _ _ _ _ h => h) rfl ?_; apply Exists.intro; refine ⟨fun v1 hv1 => ?_, ?_⟩; (· (go_simp; rfl)); simp only [Act.put, List.setIfInBounds_toArray, List.set_cons_zero, List.set_cons_succ]
          refine anyR_val Later.pre 9 rfl (by kernel_rfl) (by kernel_rfl) (by kernel_rfl) (fun _ _ _ _ h => h) rfl ?_; apply Exists.intro; refine ⟨fun v1 hv1 => ?_, ?_⟩; (· (go_simp; rfl)); simp only [Act.put, List.setIfInBounds_toArray, List.set_cons_zero, List.set_cons_succ]
          refine anyR_val Later.pre 10 rfl (by kernel_rfl) (by kernel_rfl) (by kernel_rfl) (fun _ _ _ _ h => h) rfl ⟨.string (a ++ dq ++ b), fun v1 hv1 => (by first | (go_simp; done) | (go_simp; omega)), ?_⟩; simp only [Act.put, List.setIfInBounds_toArray, List.set_cons_zero, List.set_cons_succ]
          refine anyR_val Later.pre 11 rfl (by kernel_rfl) (by kernel_rfl) (by kernel_rfl) (fun _ _ _ _ h => h) rfl ?_; apply Exists.intro; refine ⟨fun v1 hv1 => ?_, ?_⟩; (· (go_simp; rfl)); simp only [Act.put, List.setIfInBounds_toArray, List.set_cons_zero, List.set_cons_succ]
          clear qC qM
          refine anyR_done (by kernel_rfl) (fun V9 hV9 => ?_)
          go_wp2_with fail
          go_ret
          exact ⟨by rw [hR.out]; first | rfl | simp, L3.trans (hV0.trans hV9)⟩
end Go.Proofs.YtehdgndbloaljaaDoor

/- A range over a function whose body may leave a block around it. -/
namespace Go.Proofs.YtehdgndbloaljaaDoor
open Go.RowKit Go.Shelf
set_option maxRecDepth 100000
set_option linter.unusedVariables false

/-- How a round's body is left: it goes on, or it leaves a block around. -/
def postZ {α : Type} (ex : Nat) (B : Nat) (Kp : World → World → Prop) (I Ix : List α → World → Prop) (xs : List α) (W : World) : Exit → Act → World → Prop
  | .normal, _, V => KeepsFrom B W V ∧ Kp W V ∧ I xs V
  | .exit id, _, V => id = ex ∧ KeepsFrom B W V ∧ Ix xs V
  | _, _, _ => False

theorem wpIn_rangeZ (ex : Nat) {F : Fence} {n : Nat} {P : Program} {α : Type} {g : Operand} {ps : Array Tmp} {assign body : Code} {Q : Exit → Act → World → Prop} {a : Act} {w : World}
    (hro : F.round = none) (h1 : 1 ≤ n) {gf : Nat} {lb : Array Value} (hg : a.eval g = .func (.func gf) #[] lb) (hFg : F.fn gf) (eg : ∀ args w, (callFunc gf args).run P w = .ok (.enter gf args) w)
    {encs : α → Array Value} {Kp : World → World → Prop} {X : List α → α → World → Prop} {S Sp : List α → Prop} (hseq : GenX F (n - 1) P gf lb encs Kp X S Sp w)
    (hKt : ∀ {A B C : World}, Kp A B → Kp B C → Kp A C) (hKb : ∀ (W : World) (l : Nat) (o o' : Obj), w.heap.size ≤ l → W.heap[l]? = some o → o.isCells = false → o.isWalk = false → Kp W (W.putObj l o'))
    (hKl : ∀ {A B : World}, w.heap.size ≤ A.heap.size → Later A B → Kp A B) (hXl : ∀ pre x A B, X pre x A → Later A B → X pre x B)
    (hXb : ∀ pre x (W : World) (l : Nat) (o o' : Obj), w.heap.size ≤ l → W.heap[l]? = some o → o.isCells = false → X pre x W → X pre x (W.putObj l o')) (hps : ∀ x, (encs x).size = ps.size)
    (I Ix : List α → World → Prop) (hI : OwnFrom w.heap.size I) (hIl : ∀ s A B, I s A → Later A B → I s B) (hIx : OwnFrom w.heap.size Ix) (h0 : I [] w)
    (A : α → Act → World → Prop) (hA : ∀ x a' (W : World) (l : Nat) (o o' : Obj), w.heap.size ≤ l → W.heap[l]? = some o → o.isCells = false → A x a' W → A x a' (W.putObj l o'))
    (hassign : ∀ (l : Nat) (pre : List α) (x : α) (W : World) (K : Act → World → Prop), w.heap.size ≤ W.heap.size → I pre W → X pre x W → (∀ a' W', Later W W' → A x a' W' → K a' W') →
      assign.wpIn (F.inRound l) (n - 1 - 1) P (Exit.then K (fun _ _ _ => False)) { tmps := (ps.zip (encs x)).foldl (fun t (p, v) => t.setIfInBounds p v) a.tmps, defers := [] } W)
    (hbody : ∀ (l : Nat) (pre : List α) (x : α) (a' : Act) (W : World), I pre W → X pre x W → A x a' W → body.wpIn (F.inRound l) (n - 1 - 1) P (postZ ex w.heap.size Kp I Ix (pre ++ [x]) W) a' W)
    (hdone : ∀ (D : Nat) (xs : List α) (W : World), w.heap.size ≤ D → S xs → I xs W → W.heap[D]? = some (.deferred (some [])) → Q .normal { a with defers := { target := .collected D, args := #[] } :: a.defers } W)
    (hstop : ∀ (D : Nat) (pre : List α) (W : World), w.heap.size ≤ D → Sp pre → Ix pre W → W.heap[D]? = some (.deferred (some [])) → (Code.exit ex).wpIn F n P Q { a with defers := { target := .collected D, args := #[] } :: a.defers } W) :
    (Code.rangeFunc g ps assign body).wpIn F n P Q a w := by
  refine wpIn_rangeFunc fun fn hfn => ?_
  rw [hro]
  obtain ⟨rec, hrec⟩ : ∃ rec : LoopState → Option Code → Loop, rec = fun st pe => { state := st, pending := pe, fn, tmps := a.tmps, params := ps, assign, body, defers := w.heap.size } := ⟨_, rfl⟩
  obtain ⟨V, hV⟩ : ∃ V, (w.alloc (.deferred (some []))).alloc (.loop (rec .ready none)) = V := ⟨_, rfl⟩
  have hl : V.heap[w.heap.size + 1]? = some (.loop (rec .ready none)) := by
    have := World.alloc_heap_new (w.alloc (.deferred (some []))) (.loop (rec .ready none))
    rw [World.size_alloc] at this
    rw [← hV]
    exact this
  have hk : V.heap[w.heap.size]? = some (.deferred (some [])) := by
    rw [← hV]
    exact (Below.heap_alloc _ _ _ (by simp)).trans (World.alloc_heap_new w _)
  have hi : I [] V := by rw [← hV]; exact hI.alloc _ (hI.alloc _ h0)
  have hb : Below w.heap.size w V := by rw [← hV]; exact ((Below.refl _ w).alloc (Nat.le_refl _) _).alloc (by simp) _
  refine ⟨w.heap.size + 1, [{ target := .collected w.heap.size, args := #[] }], V, { target := .fn (.func gf) lb, args := #[.func (.yield (w.heap.size + 1)) #[] #[]] }, V, gf, #[.func (.yield (w.heap.size + 1)) #[] #[]] ++ lb, V, ?_, ?_, ?_, ?_, fun _ => h1, ?_⟩
  · rw [← hV, hrec]; exact run_enterLoop_outer _ _ _ _ _
  · simp only [resolve, hg]
    simp [go_sem]
  · intro f' hf'; simp [Target.leads] at hf'; subst hf'; exact hFg
  · simp [invoke, go_sem, eg]
  refine (hseq (w.heap.size + 1) (fun pre W => I pre W ∧ W.heap[w.heap.size + 1]? = some (.loop (rec .ready none)) ∧ W.heap[w.heap.size]? = some (.deferred (some [])))
    (fun pre W => Ix pre W ∧ W.heap[w.heap.size + 1]? = some (.loop (rec .done (some (.exit ex)))) ∧ W.heap[w.heap.size]? = some (.deferred (some []))) V hb
    (fun s A B hs h => ⟨hIl s A B hs.1 h, later_keep h hs.2.1, later_keep h hs.2.2⟩) ?_ ⟨hi, hl, hk⟩).mono ?_
  · rintro pre x W ⟨ji, jl, jk⟩ hx
    have hlt : w.heap.size + 1 < W.heap.size := (Array.getElem?_eq_some_iff.1 jl).1
    have hy := run_yield (P := P) (args := encs x) jl (by rw [hrec]; exact hps x)
    rw [hrec] at hy
    refine ⟨fn, _, assign, body, hy, roundIn_of_wpIn hfn (hassign _ pre x W _ (by omega) ji hx fun a' W' hL hAx => ?_)⟩
    have pL : Kp W W' := hKl (by omega) hL
    replace ji := hIl _ _ _ ji hL
    replace jl := later_keep hL jl
    replace jk := later_keep hL jk
    replace hx := hXl _ _ _ _ hx hL
    replace hlt : w.heap.size + 1 < W'.heap.size := (Array.getElem?_eq_some_iff.1 jl).1
    refine ⟨_, run_beginRound jl (by rw [hrec]), ?_⟩
    obtain ⟨U, hU⟩ : ∃ U, W'.putObj (w.heap.size + 1) (.loop { rec .ready none with state := .busy }) = U := ⟨_, rfl⟩
    have l2 : U.heap[w.heap.size + 1]? = some (.loop { rec .ready none with state := .busy }) := by rw [← hU]; exact World.putObj_heap_same hlt
    have k2 : U.heap[w.heap.size]? = some (.deferred (some [])) := by rw [← hU]; exact (World.putObj_heap_other (by omega)).trans jk
    have p2 : Kp W U := by rw [← hU]; exact hKt pL (hKb _ _ _ _ (by omega) jl rfl rfl)
    have a2 : A x a' U := by rw [← hU]; exact hA _ _ _ _ _ _ (by omega) jl rfl hAx
    have i2 : I pre U := by rw [← hU]; exact hI.putObj _ ji (by omega) jl rfl
    have x2 : X pre x U := by rw [← hU]; exact hXb _ _ _ _ _ _ (by omega) jl rfl hx
    rw [hU]
    refine wpIn_mono (hbody _ pre x a' U i2 x2 a2) ?_
    have fin : ∀ (jump : Option Code) (Z : World), KeepsFrom w.heap.size U Z →
        (Instr.endRound (w.heap.size + 1) jump).run P Z = .ok (.bool jump.isNone) (Z.putObj (w.heap.size + 1) (.loop (rec (if jump.isNone then .ready else .done) jump))) ∧ Z.heap[w.heap.size + 1]? = some (.loop { rec .ready none with state := .busy }) ∧
        (Z.putObj (w.heap.size + 1) (.loop (rec (if jump.isNone then .ready else .done) jump))).heap[w.heap.size + 1]? = some (.loop (rec (if jump.isNone then .ready else .done) jump)) ∧
        (Z.putObj (w.heap.size + 1) (.loop (rec (if jump.isNone then .ready else .done) jump))).heap[w.heap.size]? = some (.deferred (some [])) := fun jump Z hZ => by
      have l3 := hZ.same _ _ (by omega) l2 rfl
      have r3 := run_endRound (P := P) jump l3
      rw [hrec] at r3 ⊢
      exact ⟨r3, by rw [hrec] at l3; exact l3, World.putObj_heap_same (Array.getElem?_eq_some_iff.1 l3).1, (World.putObj_heap_other (by omega)).trans (hZ.same _ _ (Nat.le_refl _) k2 rfl)⟩
    rintro e a3 Z hp
    cases e with
    | normal =>
      obtain ⟨hZ, hp3, hi3⟩ := hp
      obtain ⟨hr, l3, l4, k4⟩ := fin none Z hZ
      exact ⟨_, _, hr, .inl ⟨rfl, ⟨hI.putObj _ hi3 (by omega) l3 rfl, l4, k4⟩, hKt (hKt p2 hp3) (hKb _ _ _ _ (by omega) l3 rfl rfl)⟩⟩
    | ret => exact hp.elim
    | exit id =>
      obtain ⟨he, hZ, hi3⟩ := hp
      rw [he]
      obtain ⟨hr, l3, l4, k4⟩ := fin (some (.exit ex)) Z hZ
      exact ⟨_, _, hr, .inr ⟨rfl, hIx.putObj _ hi3 (by omega) l3 rfl, l4, k4⟩⟩
    | goto t => exact hp.elim
    | panic ch => exact hp.elim
    | outgrown => exact hp.elim
  · rintro e W2 ⟨⟨v, rfl⟩, (⟨xs, hS, ji, jl, jk⟩ | ⟨pre, hSp, ji, jl, jk⟩)⟩
    · exact ⟨none, _, by have := run_endLoop (P := P) jl (by rw [hrec]; simp); rw [hrec] at this; exact this, hdone _ xs _ (Nat.le_refl _) hS (hI.putObj _ ji (by omega) jl rfl) ((World.putObj_heap_other (by omega)).trans jk)⟩
    · exact ⟨some (.exit ex), _, by have := run_endLoop (P := P) jl (by rw [hrec]; simp); rw [hrec] at this; exact this, hstop _ pre _ (Nat.le_refl _) hSp (hIx.putObj _ ji (by omega) jl rfl) ((World.putObj_heap_other (by omega)).trans jk)⟩
end Go.Proofs.YtehdgndbloaljaaDoor

/- Regions that draw their order, with guards: an operation that only reckons is taken first, one that is alone is taken in its world. -/
namespace Go.Proofs.YtehdgndbloaljaaDoor
open Go.RowKit Go.Shelf
set_option maxRecDepth 100000
set_option linter.unusedVariables false

section
variable {P : Program} {ops : Array Oper} {Q : Exit → Act → World → Prop} {md : Region.Mode} {R : World → World → Prop}
def GivesG (P : Program) (ops : Array Oper) (R : World → World → Prop) (o : Oper) (v : Value) (a : Act) (w : World) : Prop :=
  Region.wanted o (yielded ops a.tmps) = true ∧ ∀ w', R w w' → (execOp a.eval o).run P w' = .ok (.value v) w'
theorem GivesG.of_same {o : Oper} {v : Value} {a a' : Act} {w : World} (hy : GivesG P ops R o v a w) (he : execOp a'.eval o = execOp a.eval o)
    (hw : Region.wanted o (yielded ops a'.tmps) = Region.wanted o (yielded ops a.tmps)) : GivesG P ops R o v a' w := by
  unfold GivesG at *
  rw [he, hw]
  exact hy
theorem GivesG.up {o : Oper} {v : Value} {a : Act} {w w' : World} (ht : ∀ a b c, R a b → R b c → R a c) (hy : GivesG P ops R o v a w) (h : R w w') : GivesG P ops R o v a w' := ⟨hy.1, fun w'' h' => hy.2 w'' (ht _ _ _ h h')⟩

theorem wpOp_putG {j : Nat} {oi oj : Oper} {v : Value} (hj : ops[j]? = some oj) (hap : oi.apart ops oj = true)
    (hsi : ∀ cs b, oi.op ≠ .select cs b) (hsj : ∀ cs b, oj.op ≠ .select cs b)
    (hQ : ∀ c a w, Q (.panic c) (a.put oi.dst v) w → Q (.panic c) a w) {K : Act → World → Prop} {a : Act} {w w₀ : World}
    (hy : GivesG P ops R oi v a w₀) (h : wpOp P ops Q j K (a.put oi.dst v) w) :
    wpOp P ops Q j (fun a' w' => GivesG P ops R oi v a' w₀ ∧ K (a'.put oi.dst v) w') a w := by
  obtain ⟨h1, h2, h3⟩ := Oper.apart_spec hap
  have keep : ∀ (a : Act), GivesG P ops R oi v a w₀ → ∀ u, GivesG P ops R oi v (a.put oj.dst u) w₀ := fun a hy u =>
    hy.of_same (execOp_put oi hsi a oj.dst u h3) (wanted_put oi a oj.dst u h3)
  have keepD : ∀ d, GivesG P ops R oi v { a with defers := d :: a.defers } w₀ := fun d => hy.of_same rfl rfl
  unfold wpOp at *
  simp only [hj] at *
  rw [wanted_put oj a oi.dst v h1] at h
  split
  · rename_i hw
    simp only [hw, if_true] at h
    rcases h with h | ⟨hasks, hlets⟩
    case inr => exact .inr ⟨by unfold Oper.asks at *; rw [execOp_put oj hsj a oi.dst v h1] at hasks; exact hasks, hlets⟩
    refine .inl ?_
    unfold Oper.wp at *
    rw [execOp_put oj hsj a oi.dst v h1] at h
    generalize (execOp a.eval oj).run P w = r at *
    cases r with
    | ok n w' =>
      cases n <;> simp only [Oper.upon] at h ⊢
      case value u => exact ⟨keep a hy u, by rw [← Act.put_comm a v u h2]; exact h⟩
      case skip => exact ⟨keep a hy _, by rw [← Act.put_comm a v undef h2]; exact h⟩
      case defer d =>
        refine ⟨keep _ (keepD d) _, ?_⟩
        rw [← Act.put_comm _ v undef h2, ← Act.put_defers]
        exact h
      case enter f args =>
        refine Calls.mono h fun e w'' he => ?_
        cases e with
        | returned u => exact ⟨keep a hy u, by rw [← Act.put_comm a v u h2]; exact he⟩
        | panicked c => exact hQ _ _ _ he
        | outgrown => exact he
      case row row args => exact Rows.mono h fun u w'' he => ⟨keep a hy u, by rw [← Act.put_comm a v u h2]; exact he⟩
    | halt x w' =>
      cases x <;> simp only [Oper.upon] at h ⊢
      case panic u => exact hQ _ _ _ h
  · rename_i hw
    simp only [hw] at h
    exact ⟨keep a hy _, by rw [← Act.put_comm a v undef h2]; exact h⟩

theorem GivesG.wpOp {i : Nat} {o : Oper} {v : Value} {a : Act} {w : World} (hr : ∀ a, R a a) (hi : ops[i]? = some o) (hy : GivesG P ops R o v a w)
    {K : Act → World → Prop} (h : K (a.put o.dst v) w) : Go.wpOp P ops Q i K a w := by
  unfold Go.wpOp
  simp only [hi, hy.1, if_true]
  refine .inl ?_
  unfold Oper.wp
  rw [hy.2 w (hr w)]
  exact h

theorem wpAnyG_first (hre : ∀ a, R a a) (ht : ∀ a b c, R a b → R b c → R a c) {i : Nat} {oi : Oper} {v : Value} (hi : ops[i]? = some oi) (hsel : ∀ (j : Nat) (o : Oper) cs b, ops[j]? = some o → o.op ≠ .select cs b)
    (hQ : ∀ c a w, Q (.panic c) (a.put oi.dst v) w → Q (.panic c) a w) :
    ∀ (fuel : Nat) (listed : Array Bool) (a : Act) (w : World),
      (∀ j oj, ops[j]? = some oj → j ≠ i → listed.getD j true = false → (∀ e ∈ oj.after, Region.binds md e = true → e.on ≠ i) → oi.apart ops oj = true) →
      i ∈ Region.ready md ops listed → GivesG P ops R oi v a w →
      wpAnyT P md ops Q R fuel (listed.setIfInBounds i true) (a.put oi.dst v) w → wpAnyT P md ops Q R (fuel + 1) listed a w := by
  intro fuel
  induction fuel with
  | zero =>
    intro listed a w _ hr hy H
    refine ⟨fun h => (by rw [h] at hr; cases hr), fun j hj => ?_⟩
    by_cases hji : j = i
    · subst hji; exact hy.wpOp hre hi ⟨hre _, H⟩
    · have := ready_mono hj hji
      rw [H.1] at this
      cases this
  | succ fuel ih =>
    intro listed a w hfree hr hy H
    refine ⟨fun h => (by rw [h] at hr; cases hr), fun j hj => ?_⟩
    by_cases hji : j = i
    · subst hji; exact hy.wpOp hre hi ⟨hre _, H⟩
    · have h1 := H.2 j (ready_mono hj hji)
      obtain ⟨hjun, oj, hoj, hall⟩ := mem_ready.1 hj
      have hnot : ∀ e ∈ oj.after, Region.binds md e = true → e.on ≠ i := fun e he hb heq => by
        have h1 := hall e he hb
        have h0 := (mem_ready.1 hr).1
        rw [heq] at h1
        rcases Nat.lt_or_ge i listed.size with h' | h'
        · simp [h'] at h0 h1; rw [h0] at h1; cases h1
        · simp [Array.getElem?_eq_none h'] at h1
      have h2 := wpOp_putG hoj (hfree j oj hoj hji hjun hnot) (fun cs b => hsel i oi cs b hi) (fun cs b => hsel j oj cs b hoj) hQ hy h1
      have hfree' : ∀ k ok, ops[k]? = some ok → k ≠ i → (listed.setIfInBounds j true).getD k true = false →
          (∀ e ∈ ok.after, Region.binds md e = true → e.on ≠ i) → oi.apart ops ok = true := fun k ok hk hki hun hno => by
        refine hfree k ok hk hki ?_ hno
        by_cases hjk : j = k
        · subst hjk; exact hjun
        · rw [getD_set_ne true hjk] at hun; exact hun
      refine wpOp_mono (fun a' w'' h3 => ⟨h3.2.1, ih (listed.setIfInBounds j true) a' w'' hfree' (ready_mono hr (Ne.symm hji)) (h3.1.up ht h3.2.1) ?_⟩) h2
      rw [Array.setIfInBounds_comm _ _ hji]
      exact h3.2.2
end

section
variable {P : Program} {l : List Oper} {Q : Exit → Act → World → Prop} {fuel : Nat} {listed : Array Bool} {a : Act} {w : World} {R : World → World → Prop}
theorem anyT_valG (hp : Pre R) (i : Nat) {oi : Oper} (hi : nthOp l i = some oi)
    (hs : Region.noSelect l.toArray = true) (hf : Region.free .any l.toArray listed i = true) (hr : (Region.ready .any l.toArray listed).contains i = true)
    (hQ : ∀ v c a w, Q (.panic c) (a.put oi.dst v) w → Q (.panic c) a w) (hg : Region.wanted oi (yielded l.toArray a.tmps) = true)
    (h : ∃ v, (∀ w', R w w' → (execOp a.eval oi).run P w' = .ok (.value v) w') ∧ wpAnyT P .any l.toArray Q R fuel (listed.setIfInBounds i true) (a.put oi.dst v) w) : wpAnyT P .any l.toArray Q R (fuel + 1) listed a w := by
  obtain ⟨v, h1, h2⟩ := h
  have hi' : l.toArray[i]? = some oi := by rw [← hi, nthOp_eq]; simp
  exact wpAnyG_first hp.1 hp.2 hi' (Region.noSelect_spec hs) (hQ v) fuel listed a w (Region.free_spec hi' hf) (by simpa using hr) ⟨hg, h1⟩ h2
theorem anyT_oneG (i : Nat) {oi : Oper} (hi : nthOp l i = some oi) (hr : Region.ready .any l.toArray listed = [i]) (hg : Region.wanted oi (yielded l.toArray a.tmps) = true)
    (h1 : oi.wp P a w (fun a' w'' => R w w'' ∧ wpAnyT P .any l.toArray Q R fuel (listed.setIfInBounds i true) a' w'') Q) :
    wpAnyT P .any l.toArray Q R (fuel + 1) listed a w := by
  have hi' : l.toArray[i]? = some oi := by rw [← hi, nthOp_eq]; simp
  refine ⟨fun h0 => (by rw [hr] at h0; cases h0), fun k hk => ?_⟩
  rw [hr] at hk
  unfold wpOp
  obtain rfl : k = i := by simpa using hk
  rw [hi']; simp only [hg, if_true]; exact .inl h1
end
end Go.Proofs.YtehdgndbloaljaaDoor

/- Regions that draw their order: some operations (those of D) may turn more than the others; what is read ahead of them is taken first. -/
namespace Go.Proofs.YtehdgndbloaljaaDoor
open Go.RowKit Go.Shelf
set_option maxRecDepth 100000
set_option linter.unusedVariables false

def Rj (R1 R2 : World → World → Prop) (D : List Nat) (j : Nat) : World → World → Prop := if D.contains j = true then R2 else R1
theorem Rj_in {R1 R2 : World → World → Prop} {D : List Nat} {j : Nat} (h : D.contains j = true) {w w' : World} (k : R2 w w') : Rj R1 R2 D j w w' := by unfold Rj; rw [if_pos h]; exact k
theorem Rj_out {R1 R2 : World → World → Prop} {D : List Nat} {j : Nat} (h : D.contains j = false) {w w' : World} (k : R1 w w') : Rj R1 R2 D j w w' := by unfold Rj; rw [if_neg (by rw [h]; simp)]; exact k

section
variable {P : Program} {ops : Array Oper} {Q : Exit → Act → World → Prop} {md : Region.Mode} {R1 R2 S : World → World → Prop} {D : List Nat}
def wpAnyU (P : Program) (md : Region.Mode) (ops : Array Oper) (Q : Exit → Act → World → Prop) (R1 R2 : World → World → Prop) (D : List Nat) : Nat → Array Bool → Act → World → Prop
  | 0, listed, a, w => Region.ready md ops listed = [] ∧ Q .normal a w
  | fuel + 1, listed, a, w =>
    (Region.ready md ops listed = [] → Q .normal a w) ∧
    ∀ i ∈ Region.ready md ops listed, wpOp P ops Q i (fun a' w'' => Rj R1 R2 D i w w'' ∧ wpAnyU P md ops Q R1 R2 D fuel (listed.setIfInBounds i true) a' w'') a w

theorem wpAny_of_U : ∀ (fuel : Nat) (listed : Array Bool) (a : Act) (w : World), wpAnyU P md ops Q R1 R2 D fuel listed a w → wpAny P md ops Q fuel listed a w
  | 0, _, _, _, h => h
  | fuel + 1, _, _, _, h => ⟨h.1, fun i hi => wpOp_mono (fun a' w' h' => wpAny_of_U fuel _ a' w' h'.2) (h.2 i hi)⟩

theorem wpAnyU_first (hre : ∀ a, S a a) (ht : ∀ a b c, S a b → S b c → S a c) {i : Nat} {oi : Oper} {v : Value} (hi : ops[i]? = some oi) (hself : ∀ w, Rj R1 R2 D i w w) (hsel : ∀ (j : Nat) (o : Oper) cs b, ops[j]? = some o → o.op ≠ .select cs b)
    (hQ : ∀ c a w, Q (.panic c) (a.put oi.dst v) w → Q (.panic c) a w) (Inv : Array Bool → Prop)
    (hInv : ∀ listed, Inv listed → listed.getD i true = false → ∀ j ∈ Region.ready md ops listed, j ≠ i → (∀ w w', Rj R1 R2 D j w w' → S w w') ∧ Inv (listed.setIfInBounds j true)) :
    ∀ (fuel : Nat) (listed : Array Bool) (a : Act) (w : World), Inv listed →
      (∀ j oj, ops[j]? = some oj → j ≠ i → listed.getD j true = false → (∀ e ∈ oj.after, Region.binds md e = true → e.on ≠ i) → oi.apart ops oj = true) →
      i ∈ Region.ready md ops listed → GivesG P ops S oi v a w →
      wpAnyU P md ops Q R1 R2 D fuel (listed.setIfInBounds i true) (a.put oi.dst v) w → wpAnyU P md ops Q R1 R2 D (fuel + 1) listed a w := by
  intro fuel
  induction fuel with
  | zero =>
    intro listed a w _ _ hr hy H
    refine ⟨fun h => (by rw [h] at hr; cases hr), fun j hj => ?_⟩
    by_cases hji : j = i
    · subst hji; exact hy.wpOp hre hi ⟨hself _, H⟩
    · have := ready_mono hj hji
      rw [H.1] at this
      cases this
  | succ fuel ih =>
    intro listed a w hinv hfree hr hy H
    refine ⟨fun h => (by rw [h] at hr; cases hr), fun j hj => ?_⟩
    by_cases hji : j = i
    · subst hji; exact hy.wpOp hre hi ⟨hself _, H⟩
    · have h1 := H.2 j (ready_mono hj hji)
      obtain ⟨hjun, oj, hoj, hall⟩ := mem_ready.1 hj
      have hnot : ∀ e ∈ oj.after, Region.binds md e = true → e.on ≠ i := fun e he hb heq => by
        have h1 := hall e he hb
        have h0 := (mem_ready.1 hr).1
        rw [heq] at h1
        rcases Nat.lt_or_ge i listed.size with h' | h'
        · simp [h'] at h0 h1; rw [h0] at h1; cases h1
        · simp [Array.getElem?_eq_none h'] at h1
      have h2 := wpOp_putG hoj (hfree j oj hoj hji hjun hnot) (fun cs b => hsel i oi cs b hi) (fun cs b => hsel j oj cs b hoj) hQ hy h1
      have hfree' : ∀ k ok, ops[k]? = some ok → k ≠ i → (listed.setIfInBounds j true).getD k true = false →
          (∀ e ∈ ok.after, Region.binds md e = true → e.on ≠ i) → oi.apart ops ok = true := fun k ok hk hki hun hno => by
        refine hfree k ok hk hki ?_ hno
        by_cases hjk : j = k
        · subst hjk; exact hjun
        · rw [getD_set_ne true hjk] at hun; exact hun
      obtain ⟨hs, hinv'⟩ := hInv listed hinv (mem_ready.1 hr).1 j hj hji
      refine wpOp_mono (fun a' w'' h3 => ⟨h3.2.1, ih (listed.setIfInBounds j true) a' w'' hinv' hfree' (ready_mono hr (Ne.symm hji)) (h3.1.up ht (hs _ _ h3.2.1)) ?_⟩) h2
      rw [Array.setIfInBounds_comm _ _ hji]
      exact h3.2.2
/-- None of D can be taken as long as i is not. -/
def blocks (md : Region.Mode) (ops : Array Oper) (D : List Nat) (i : Nat) : Bool := D.all fun d => match ops[d]? with
  | some o => o.after.any fun e => Region.binds md e && (e.on == i || D.contains e.on)
  | none => false
theorem blocks_spec {i : Nat} (h : blocks md ops D i = true) {listed : Array Bool} (hi : listed.getD i true = false) (hD : ∀ d ∈ D, listed.getD d true = false) {j : Nat} (hj : j ∈ Region.ready md ops listed) : j ∉ D := fun hjD => by
  obtain ⟨_, o, ho, hall⟩ := mem_ready.1 hj
  unfold blocks at h
  rw [List.all_eq_true] at h
  have h1 := h j hjD
  rw [ho] at h1
  simp only [Array.any_eq_true] at h1
  obtain ⟨k, hk, he⟩ := h1
  simp only [Bool.and_eq_true, Bool.or_eq_true, beq_iff_eq] at he
  have hl := hall o.after[k] (Array.getElem_mem hk) he.1
  have no : ∀ x, listed.getD x true = false → listed.getD x false = true → False := fun x h0 h1 => by
    rcases Nat.lt_or_ge x listed.size with h' | h'
    · simp [h'] at h0 h1; rw [h0] at h1; cases h1
    · simp [Array.getElem?_eq_none h'] at h1
  rcases he.2 with e | e
  · rw [e] at hl
    exact no i hi hl
  · exact no _ (hD _ (by simpa using e)) hl
end

section
variable {P : Program} {l : List Oper} {Q : Exit → Act → World → Prop} {fuel : Nat} {listed : Array Bool} {a : Act} {w : World} {R1 R2 S : World → World → Prop} {D : List Nat}
/-- What is read ahead of those of D: none of B, among which they are, can be taken as long as it is not. -/
theorem anyU_val (hp : Pre R1) (i : Nat) (B : List Nat) {oi : Oper} (hi : nthOp l i = some oi) (hiD : D.contains i = false) (hsub : D.all (fun d => B.contains d) = true) (hbl : blocks .any l.toArray B i = true) (hun : B.all (fun d => !(listed.getD d true)) = true)
    (hs : Region.noSelect l.toArray = true) (hf : Region.free .any l.toArray listed i = true) (hr : (Region.ready .any l.toArray listed).contains i = true)
    (hQ : ∀ v c a w, Q (.panic c) (a.put oi.dst v) w → Q (.panic c) a w) (hg : Region.wanted oi (yielded l.toArray a.tmps) = true)
    (h : ∃ v, (∀ w', R1 w w' → (execOp a.eval oi).run P w' = .ok (.value v) w') ∧ wpAnyU P .any l.toArray Q R1 R2 D fuel (listed.setIfInBounds i true) (a.put oi.dst v) w) : wpAnyU P .any l.toArray Q R1 R2 D (fuel + 1) listed a w := by
  obtain ⟨v, h1, h2⟩ := h
  have hi' : l.toArray[i]? = some oi := by rw [← hi, nthOp_eq]; simp
  have hunp : ∀ d ∈ B, listed.getD d true = false := fun d hd => by
    have := List.all_eq_true.1 hun d hd
    simpa using this
  refine wpAnyU_first (S := R1) hp.1 hp.2 hi' (fun w => Rj_out hiD (hp.1 w)) (Region.noSelect_spec hs) (hQ v) (fun listed => ∀ d ∈ B, listed.getD d true = false) ?_ fuel listed a w hunp (Region.free_spec hi' hf) (by simpa using hr) ⟨hg, h1⟩ h2
  intro listed' hinv hiu j hj hji
  have hjB := blocks_spec hbl hiu hinv hj
  have hjD : j ∉ D := fun hd => hjB (by simpa using List.all_eq_true.1 hsub j hd)
  have hjc : D.contains j = false := by cases hc : D.contains j with | false => rfl | true => exact absurd (by simpa using hc) hjD
  refine ⟨fun w w' hR => by unfold Rj at hR; rw [if_neg (by rw [hjc]; simp)] at hR; exact hR, fun d hd => ?_⟩
  by_cases hdj : j = d
  · subst hdj; exact absurd hd hjB
  · rw [getD_set_ne true hdj]; exact hinv d hd
/-- What hangs on no memory. -/
theorem anyU_pure (h1r : ∀ w, R1 w w) (h2r : ∀ w, R2 w w) (i : Nat) {oi : Oper} (hi : nthOp l i = some oi)
    (hs : Region.noSelect l.toArray = true) (hf : Region.free .any l.toArray listed i = true) (hr : (Region.ready .any l.toArray listed).contains i = true)
    (hQ : ∀ v c a w, Q (.panic c) (a.put oi.dst v) w → Q (.panic c) a w) (hg : Region.wanted oi (yielded l.toArray a.tmps) = true)
    (h : ∃ v, (∀ w', (execOp a.eval oi).run P w' = .ok (.value v) w') ∧ wpAnyU P .any l.toArray Q R1 R2 D fuel (listed.setIfInBounds i true) (a.put oi.dst v) w) : wpAnyU P .any l.toArray Q R1 R2 D (fuel + 1) listed a w := by
  obtain ⟨v, h1, h2⟩ := h
  have hi' : l.toArray[i]? = some oi := by rw [← hi, nthOp_eq]; simp
  exact wpAnyU_first (S := fun _ _ => True) (fun _ => trivial) (fun _ _ _ _ _ => trivial) hi' (fun w => by unfold Rj; split; (· exact h2r w); (· exact h1r w)) (Region.noSelect_spec hs) (hQ v) (fun _ => True) (fun _ _ _ _ _ _ => ⟨fun _ _ _ => trivial, trivial⟩) fuel listed a w trivial (Region.free_spec hi' hf) (by simpa using hr) ⟨hg, fun w' _ => h1 w'⟩ h2
theorem anyU_begin {id : Nat} (n : Nat) (hn : l.length = n) (hm : P.follows .mixedOrders = true)
    (h : wpAnyU P .any l.toArray Q R1 R2 D n (Array.replicate n false) a w.drew) : (Code.region id l.toArray true).wp P Q a w := by
  subst hn
  refine wp_region_any hm (wpAny_of_U (R1 := R1) (R2 := R2) (D := D) _ _ _ _ ?_)
  simpa using h
theorem anyU_done (hr : Region.ready .any l.toArray listed = []) (h : Q .normal a w) : wpAnyU P .any l.toArray Q R1 R2 D fuel listed a w := by
  cases fuel with
  | zero => exact ⟨hr, h⟩
  | succ n => exact ⟨fun _ => h, by rw [hr]; simp⟩
theorem anyU_one (i : Nat) {oi : Oper} (hi : nthOp l i = some oi) (hr : Region.ready .any l.toArray listed = [i]) (hg : Region.wanted oi (yielded l.toArray a.tmps) = true)
    (h1 : oi.wp P a w (fun a' w'' => Rj R1 R2 D i w w'' ∧ wpAnyU P .any l.toArray Q R1 R2 D fuel (listed.setIfInBounds i true) a' w'') Q) :
    wpAnyU P .any l.toArray Q R1 R2 D (fuel + 1) listed a w := by
  have hi' : l.toArray[i]? = some oi := by rw [← hi, nthOp_eq]; simp
  refine ⟨fun h0 => (by rw [hr] at h0; cases h0), fun k hk => ?_⟩
  rw [hr] at hk
  unfold wpOp
  obtain rfl : k = i := by simpa using hk
  rw [hi']; simp only [hg, if_true]; exact .inl h1
end
end Go.Proofs.YtehdgndbloaljaaDoor

/- A region that draws its order, in a round of a range over a function. -/
namespace Go.Proofs.YtehdgndbloaljaaDoor
open Go.RowKit Go.Shelf
set_option maxRecDepth 100000
set_option linter.unusedVariables false

def calmQ (Q : Act → World → Prop) : Exit → Act → World → Prop := fun e a w => e = .normal ∧ Q a w
theorem calmQ_out {Q : Act → World → Prop} (h : LetsOut (calmQ Q)) : False := by
  have := h
  simp [LetsOut, calmQ] at this
theorem opIn_round {P : Program} {o : Oper} {a : Act} {w : World} {K : Act → World → Prop} {Q : Exit → Act → World → Prop} (l n : Nat) (hd : ∀ c, o.op ≠ .defer c) (h : o.wp P a w K Q) : o.wpIn (Fence.wide.inRound l) n P a w K Q := by
  unfold Oper.wpIn
  refine ⟨fun _ _ => trivial, ?_⟩
  rw [show (Fence.wide.inRound l).round = some l from rfl, Oper.semAt_some l _ _ hd]
  unfold Oper.wp at h
  generalize (execOp a.eval o).run P w = r at *
  cases r with
  | ok x w' =>
    cases x with
    | enter f args => exact ⟨(fun h0 => by cases h0), CallsIn.inRound l (callsIn_wide.2 h)⟩
    | row r args => exact ⟨(fun h0 => by cases h0), fun c cs _ => let ⟨v, w2, r1, s1⟩ := h c cs; ⟨v, w2, r1, stepsIn_wide.2 s1⟩⟩
    | value v => exact h
    | skip => exact h
    | defer d => exact h
    | round a b c d e => exact h.elim
    | _ => exact h.elim
  | halt x w' => cases x <;> exact h
theorem wpAnyIn_round {P : Program} {md : Region.Mode} {ops : Array Oper} {Q : Act → World → Prop} (l n : Nat) (hd : ∀ (i : Nat) (o : Oper), ops[i]? = some o → ∀ c, o.op ≠ .defer c) : ∀ (fuel : Nat) (listed : Array Bool) (a : Act) (w : World),
    wpAny P md ops (calmQ Q) fuel listed a w → wpAnyIn (Fence.wide.inRound l) n P md ops (calmQ Q) fuel listed a w
  | 0, _, _, _, h => h
  | fuel + 1, listed, a, w, h => ⟨h.1, fun i hi => by
    have h2 := h.2 i hi
    unfold wpOp at h2
    unfold wpOpIn
    cases ho : ops[i]? with
    | none => rw [ho] at h2; exact wpAnyIn_round l n hd fuel _ _ _ h2
    | some o =>
      rw [ho] at h2
      simp only at h2 ⊢
      split
      · rename_i hw
        rw [if_pos hw] at h2
        rcases h2 with h2 | h2
        · exact Oper.wpIn_mono (fun a' w' h' => wpAnyIn_round l n hd fuel _ a' w' h') (opIn_round l n (hd i o ho) h2)
        · exact (calmQ_out h2.2).elim
      · rename_i hw
        rw [if_neg hw] at h2
        exact ⟨fun _ _ => trivial, wpAnyIn_round l n hd fuel _ _ _ h2⟩⟩
variable {P : Program} {R : World → World → Prop} {w : World} {a : Act} {ops : List Oper}
theorem anyR_beginIn (hp : Pre R) (hdr : ∀ w : World, R w w.drew) {id : Nat} {Q : Exit → Act → World → Prop} {l₀ m : Nat} (n : Nat) (hn : ops.length = n) (hm : P.follows .mixedOrders = true) (hd : ∀ (i : Nat) (o : Oper), ops[i]? = some o → ∀ c, o.op ≠ .defer c)
    (h : ∀ w₁, R w w₁ → wpAnyR P .any ops.toArray (calmQ (Q .normal)) R n (Array.replicate n false) a w₁) : (Code.region id ops.toArray true).wpIn (Fence.wide.inRound l₀) m P Q a w := by
  subst hn
  refine wpIn_mono (wpIn_region_any hm (wpAnyIn_round l₀ m (fun i o ho => hd i o (by simpa using ho)) _ _ _ _ (wpAny_of_R hp.1 _ _ _ _ ?_))) (fun e a w h => by obtain ⟨rfl, h⟩ := h; exact h)
  have := h { w with drawn := w.drawn + 1 } (hdr w)
  simpa using this
theorem anyU_beginIn {R1 R2 : World → World → Prop} {D : List Nat} {id : Nat} {Q : Exit → Act → World → Prop} {l₀ m : Nat} (n : Nat) (hn : ops.length = n) (hm : P.follows .mixedOrders = true) (hd : ∀ (i : Nat) (o : Oper), ops[i]? = some o → ∀ c, o.op ≠ .defer c)
    (h : wpAnyU P .any ops.toArray (calmQ (Q .normal)) R1 R2 D n (Array.replicate n false) a w.drew) : (Code.region id ops.toArray true).wpIn (Fence.wide.inRound l₀) m P Q a w := by
  subst hn
  refine wpIn_mono (wpIn_region_any hm (wpAnyIn_round l₀ m (fun i o ho => hd i o (by simpa using ho)) _ _ _ _ (wpAny_of_U (R1 := R1) (R2 := R2) (D := D) _ _ _ _ ?_))) (fun e a w h => by obtain ⟨rfl, h⟩ := h; exact h)
  simpa using h
theorem anyU_two {R1 R2 : World → World → Prop} {D : List Nat} {fuel : Nat} {listed : Array Bool} {Q : Exit → Act → World → Prop} (i j : Nat) {oi oj : Oper} (hi : nthOp ops i = some oi) (hj : nthOp ops j = some oj) (hr : Region.ready .any ops.toArray listed = [i, j]) (gi : Region.wanted oi (yielded ops.toArray a.tmps) = true) (gj : Region.wanted oj (yielded ops.toArray a.tmps) = true)
    (h1 : oi.wp P a w (fun a' w'' => Rj R1 R2 D i w w'' ∧ wpAnyU P .any ops.toArray Q R1 R2 D fuel (listed.setIfInBounds i true) a' w'') Q)
    (h2 : oj.wp P a w (fun a' w'' => Rj R1 R2 D j w w'' ∧ wpAnyU P .any ops.toArray Q R1 R2 D fuel (listed.setIfInBounds j true) a' w'') Q) :
    wpAnyU P .any ops.toArray Q R1 R2 D (fuel + 1) listed a w := by
  have hi' : ops.toArray[i]? = some oi := by rw [← hi, nthOp_eq]; simp
  have hj' : ops.toArray[j]? = some oj := by rw [← hj, nthOp_eq]; simp
  refine ⟨fun h0 => (by rw [hr] at h0; cases h0), fun k hk => ?_⟩
  rw [hr] at hk
  unfold wpOp
  rcases List.mem_cons.1 hk with rfl | hk
  · rw [hi']; simp only [gi, if_true]; exact .inl h1
  · obtain rfl : k = j := by simpa using hk
    rw [hj']; simp only [gj, if_true]; exact .inl h2
/-- No operation of these is put off. -/
def noDefer : List Oper → Bool
  | [] => true
  | o :: r => (match o.op with | .defer _ => false | _ => true) && noDefer r
theorem noDefer_spec : ∀ {l : List Oper}, noDefer l = true → ∀ (i : Nat) (o : Oper), l[i]? = some o → ∀ c, o.op ≠ .defer c
  | [], _, i, o, h, c => by simp at h
  | x :: r, hn, 0, o, h, c => by
    simp at h
    subst h
    intro e
    simp [noDefer, e] at hn
  | x :: r, hn, i + 1, o, h, c => by
    simp [noDefer] at hn
    exact noDefer_spec hn.2 i o (by simpa using h) c
/-- append of a text, by what it yields. -/
theorem wp_appT {o : Oper} {K : Act → World → Prop} {Q : Exit → Act → World → Prop} (s x : Operand) (t u : TypeId) (hop : o.op = Op.call { callee := Callee.builtin Builtin.append, args := #[s, x], argTypes := #[t, u] })
    (v sx : Value) (hs : a.eval s = v) (hx : a.eval x = sx) (v' : Value) (w' : World) (hrun : (Builtin.append_ #[t, u] o.type #[v, sx]).run P w = .ok v' w') (hK : K (a.put o.dst v') w') : o.wp P a w K Q := by
  unfold Oper.wp
  simp [execOp, hop, resolve, invoke, builtin, hs, hx, hrun, Result.andThen]
  exact hK
end Go.Proofs.YtehdgndbloaljaaDoor

/- Package sip: the lines of a text, one after the other. -/
namespace Go.Proofs.YtehdgndbloaljaaDoor
open Go.RowKit Go.Shelf
set_option maxRecDepth 100000
attribute [local go_sem] Oper.semAt_some
set_option linter.unusedVariables false
set_option linter.unusedSimpArgs false

def crB : ByteArray := ⟨#[13, 10]⟩
theorem ba_len (s : ByteArray) : s.size = s.data.toList.length := by rw [Array.length_toList]; rfl
theorem ba_ext {s t : ByteArray} (h : s.data.toList = t.data.toList) : s = t := by
  cases s; cases t; simp only at h; congr 1; exact Array.toList_inj.1 h
theorem cutA_data (s p : ByteArray) : (cutA s p).data.toList = (Lib.cut s.data.toList p.data.toList).1 := by unfold cutA; simp
theorem cutZ_data (s p : ByteArray) : (cutZ s p).data.toList = (Lib.cut s.data.toList p.data.toList).2.1 := by unfold cutZ; simp
/-- What cutting tells: the parts, and nothing of the kind ahead. -/
theorem cut_spec (s p : ByteArray) : (cutF s p = true ∧ s.data.toList = (cutA s p).data.toList ++ (p.data.toList ++ (cutZ s p).data.toList) ∧ Lib.NoOcc s.data.toList p.data.toList (cutA s p).size) ∨
    (cutF s p = false ∧ cutA s p = s ∧ cutZ s p = ⟨#[]⟩ ∧ ∀ j, j ≤ s.size → Lib.occAt s.data.toList p.data.toList j = false) := by
  rw [ba_len, ba_len, cutA_data, cutZ_data]
  have h3 : cutF s p = (Lib.cut s.data.toList p.data.toList).2.2 := rfl
  rw [h3]
  rcases Lib.index_spec s.data.toList p.data.toList with ⟨h1, h2⟩ | ⟨i, h1, h2, ho, hn⟩
  · refine .inr ?_
    have hc : Lib.cut s.data.toList p.data.toList = (s.data.toList, [], false) := by unfold Lib.cut; rw [if_neg (by omega)]
    refine ⟨by rw [hc], ba_ext (by rw [cutA_data, hc]), ba_ext (by rw [cutZ_data, hc]), h2⟩
  · refine .inl ?_
    have hc : Lib.cut s.data.toList p.data.toList = (s.data.toList.take i, s.data.toList.drop (i + p.data.toList.length), true) := by unfold Lib.cut; rw [if_pos (by omega), h1]; rfl
    rw [hc]
    refine ⟨rfl, ?_, by simp only [List.length_take]; rw [Nat.min_eq_left h2]; exact hn⟩
    simp only
    unfold Lib.occAt at ho
    obtain ⟨t, ht⟩ := List.isPrefixOf_iff_prefix.1 ho
    have : s.data.toList.drop (i + p.data.toList.length) = t := by
      rw [← List.drop_drop, ← ht, List.drop_left]
    rw [this, ht, List.take_append_drop]
/-- What stands between the two parts. -/
def betw (s p : ByteArray) : ByteArray := s.extract (cutA s p).size (s.size - (cutZ s p).size)
theorem cut_sizes (s p : ByteArray) : (cutA s p).size + (cutZ s p).size ≤ s.size ∧ (s.size ≠ 0 → p.size ≠ 0 → (cutZ s p).size < s.size) := by
  rcases cut_spec s p with ⟨_, h, _⟩ | ⟨_, h1, h2, _⟩
  · have := congrArg List.length h
    rw [List.length_append, List.length_append, ← ba_len, ← ba_len, ← ba_len, ← ba_len] at this
    omega
  · rw [h1, h2]
    have : ByteArray.size ⟨#[]⟩ = 0 := rfl
    omega
/-- A text's lines, with what ends each. -/
def lnsF : Nat → ByteArray → List (ByteArray × ByteArray)
  | 0, _ => []
  | n + 1, s => if s.size = 0 then [] else (cutA s crB, betw s crB) :: lnsF n (cutZ s crB)
def lnsB (s : ByteArray) : List (ByteArray × ByteArray) := lnsF s.size s
theorem lnsF_fuel : ∀ (n m : Nat) (s : ByteArray), s.size ≤ n → s.size ≤ m → lnsF n s = lnsF m s
  | 0, 0, s, _, _ => rfl
  | 0, m + 1, s, h, _ => by unfold lnsF; rw [if_pos (by omega)]
  | n + 1, 0, s, _, h => by unfold lnsF; rw [if_pos (by omega)]
  | n + 1, m + 1, s, h1, h2 => by
    unfold lnsF
    split
    · rfl
    · have := (cut_sizes s crB).2 (by assumption) (by decide)
      rw [lnsF_fuel n m (cutZ s crB) (by omega) (by omega)]
theorem lnsB_nil {s : ByteArray} (h : s.size = 0) : lnsB s = [] := by unfold lnsB; rw [h]; rfl
theorem lnsB_cons {s : ByteArray} (h : s.size ≠ 0) : lnsB s = (cutA s crB, betw s crB) :: lnsB (cutZ s crB) := by
  have hz := (cut_sizes s crB).2 h (by decide)
  unfold lnsB
  obtain ⟨n, hn⟩ : ∃ n, s.size = n + 1 := ⟨s.size - 1, by omega⟩
  rw [hn]
  have e : lnsF (n + 1) s = (cutA s crB, betw s crB) :: lnsF n (cutZ s crB) := by
    show (if s.size = 0 then [] else _) = _
    rw [if_neg h]
  rw [e]
  congr 1
  exact lnsF_fuel n (cutZ s crB).size (cutZ s crB) (by omega) (Nat.le_refl _)

theorem lines_in (n : Nat) (s : ByteArray) (w : World) :
    CallsIn Fence.wide n Tryd.prog 28 #[.string s] w fun e w' => e = .returned (.func (.func 46) #[] #[.pointer (some ⟨w.heap.size, 0, none⟩)]) ∧ w' = w.alloc (.cells #[.string s] 9) := by
  refine callsIn_of_wp Tryd.func28 rfl trivial ?_ rfl
  simp only [Tryd.ntmps28, List.size_toArray, List.length_cons, List.length_nil, Nat.reduceAdd, Nat.reduceSub, Array.replicate_succ, Array.replicate_zero, List.push_toArray, List.append_toArray, List.nil_append, List.cons_append]
  gi_wp2
  go_ret
  exact ⟨rfl, rfl⟩

def encL (r : ByteArray × ByteArray) : Array Value := #[.string r.1, .string r.2]
def XL (l : List (ByteArray × ByteArray)) (pre : List (ByteArray × ByteArray)) (x : ByteArray × ByteArray) (_V : World) : Prop := ∃ rest, pre ++ x :: rest = l

set_option maxRecDepth 100000 in
set_option maxHeartbeats 4000000 in
theorem lines1_in (n : Nat) (hn : 1 ≤ n) (l B : Nat) (s : ByteArray) (w0 : World) (hM : TabM w0) (hs : s.size ≤ 1000000) (J Jx : List (ByteArray × ByteArray) → World → Prop) (hJ : ∀ s A B, J s A → Later A B → J s B)
    (hY : ∀ pre x V, J pre V → XL (lnsB s) pre x V → YieldAt Fence.wide (n - 1) Tryd.prog l (encL x) V fun e V' => (e = .returned (.bool true) ∧ J (pre ++ [x]) V' ∧ Below w0.heap.size V V') ∨ (e = .returned (.bool false) ∧ Jx (pre ++ [x]) V'))
    (W : World) (hB : W.cell? ⟨B, 0, none⟩ = some (.string s)) (hW : Later w0 W) (h0 : J [] W) :
    CallsIn Fence.wide n Tryd.prog 46 #[.func (.yield l) #[] #[], .pointer (some ⟨B, 0, none⟩)] W fun e W' => (∃ v, e = .returned v) ∧ ((∃ xs, xs = lnsB s ∧ J xs W') ∨ (∃ pre, (∃ rest, pre ++ rest = lnsB s) ∧ Jx pre W')) := by
  refine callsIn_of_wp Tryd.func46 rfl trivial ?_ rfl
  simp only [Tryd.ntmps46, List.size_toArray, List.length_cons, List.length_nil, Nat.reduceAdd, Nat.reduceSub, Array.replicate_succ, Array.replicate_zero, List.push_toArray, List.append_toArray, List.nil_append, List.cons_append]
  gi_wp2
  clear hB
  gi_loopw [3] (fun i wx => ∃ (pre : List (ByteArray × ByteArray)) (t : ByteArray), i = .string t ∧ t.size ≤ 1000000 ∧ Hid (pre ++ lnsB t = lnsB s) ∧ J pre wx ∧ Later w0 wx) (fun i _ => match i with | .string t => t.size | _ => 0)
  case atStart => exact ⟨[], s, rfl, hs, rfl, h0, hW⟩
  case round =>
    obtain ⟨pre, t, rfl, ht, hpre, hJk, hLk⟩ := hrel
    by_cases hz : t.size = 0
    · have hp2 := hpre.out
      rw [lnsB_nil hz, List.append_nil] at hp2
      have HP2 := hide hp2
      obtain rfl := str_empty t hz
      clear hp2 hpre
      gi_wp2
      go_end0
      exact ⟨⟨_, rfl⟩, .inl ⟨_, HP2.out, hJk⟩⟩
    · have he := str_ne hz
      have hc := cut_sizes t crB
      have hp2 := hpre.out
      rw [lnsB_cons hz] at hp2
      have HP2 := hide hp2
      have HCT := hide ((callsIn_wide (n := n - 1)).2 (cut_any t crB wr (hM.later hLk) ht))
      have hc1 := hc.1
      have hc2 := hc.2 hz (by decide)
      have HBE : Hid (betw t crB = t.extract (cutA t crB).size (t.size - (cutZ t crB).size)) := rfl
      clear hpre hp2 hc hz
      generalize betw t crB = bt at *
      generalize cutA t crB = ca at *
      generalize cutZ t crB = cz at *
      generalize cutF t crB = cf at *
      have hsz' : (t.size : Int) ≤ 1000000 := by omega
      gi_wp2
      refine ⟨trivial, ?_⟩
      refine HCT.out.mono ?_
      rintro e w3 ⟨rfl, l3⟩
      obtain ⟨fn, tmps, assign, body, hy, hRr⟩ := hY _ (ca, bt) _ (hJ _ _ _ hJk l3) ⟨_, HP2.out⟩
      dsimp only [encL] at hy
      have HRR := hide hRr
      rw [HBE.out] at hy
      have h1 : (ca.size : Int) ≤ (t.size : Int) - (cz.size : Int) := by omega
      have h2 : (t.size : Int) - (cz.size : Int) = ((t.size - cz.size : Nat) : Int) := by omega
      have h3 : t.size - cz.size ≤ t.size := by omega
      have h4 : ca.size ≤ t.size - cz.size := by omega
      clear HCT hRr
      gi_wp2
      refine HRR.out.mono ?_
      rintro e W3 (⟨rfl, hJ3, hk3⟩ | ⟨rfl, hJx3⟩)
      · gi_wp2
        go_roundw
        case rel => exact ⟨pre ++ [(ca, bt)], cz, rfl, by omega, by (show _ = _; rw [List.append_assoc]; exact HP2.out), hJ3, Below.trans (hLk.trans l3) hk3⟩
        case measure => (show cz.size < t.size); exact hc2
      · gi_wp2
        refine bodyPost_ret (results_none rfl _ _ _) rfl ?_
        exact ⟨⟨_, rfl⟩, .inr ⟨_, ⟨lnsB cz, by rw [List.append_assoc]; exact HP2.out⟩, hJx3⟩⟩

theorem lines_gen (n : Nat) (hn : 1 ≤ n) (B : Nat) (s : ByteArray) (w0 w : World) (hM : TabM w0) (hs : s.size ≤ 1000000) (hw : Later w0 w) (hBl : B < w.heap.size) (hB : w.cell? ⟨B, 0, none⟩ = some (.string s)) :
    GenX Fence.wide n Tryd.prog 46 #[.pointer (some ⟨B, 0, none⟩)] encL (Below w0.heap.size) (XL (lnsB s)) (fun xs => xs = lnsB s) (fun pre => ∃ rest, pre ++ rest = lnsB s) w := fun l J Jx W hW hJ hY h0 =>
  lines1_in n hn l B s w0 hM hs J Jx hJ hY W ((hW.cell (p := ⟨B, 0, none⟩) hBl).trans hB) (hw.trans hW) h0
end Go.Proofs.YtehdgndbloaljaaDoor

/- Package sip: a body, changed line by line. -/
namespace Go.Proofs.YtehdgndbloaljaaDoor
open Go.RowKit Go.Shelf
set_option maxRecDepth 100000
attribute [local go_sem] Oper.semAt_some
set_option linter.unusedVariables false
set_option linter.unusedSimpArgs false

def CTs (A B : World) : Prop := A.heap.size ≤ B.heap.size ∧ ∀ (k : Nat) (o : Obj), A.heap[k]? = some o → o.isCells = true → B.heap[k]? = some o
theorem CTs.of {A B : World} (h : Later A B) : CTs A B := ⟨h.size, fun k o ho _ => later_keep h ho⟩
theorem CTs.row {A B : World} {row : Option Nat} (hg : A.grownBy B row) (hr : ∀ r, row = some r → ∃ o : Obj, A.heap[r]? = some o ∧ o.isCells = false) : CTs A B :=
  ⟨hg.size, fun k o ho hc => (hg.block k (Array.getElem?_eq_some_iff.1 ho).1 (fun e => by obtain ⟨o', h1, h2⟩ := hr k e.symm; rw [ho] at h1; cases h1; rw [hc] at h2; cases h2)).trans ho⟩
theorem CTs.put {A : World} {l : Nat} {o o' : Obj} (h : A.heap[l]? = some o) (hc : o.isCells = false) : CTs A (A.putObj l o') :=
  CTs.row (grownBy_putObj' A l o') (fun r e => by cases e; exact ⟨o, h, hc⟩)
theorem ownsS_ct {base : Nat} {e : TypeId} {size : Nat} {A B : World} {v : Value} {n : Nat} {xs : List Value} (h : A.ownsRow base e size v n xs) (c : CTs A B) : B.ownsRow base e size v n xs := by
  obtain ⟨h1, h2 | ⟨g, cap, cur, hv, hg, hh, r⟩⟩ := h
  · exact ⟨h1, .inl h2⟩
  · exact ⟨h1, .inr ⟨g, cap, cur, hv, hg, c.2 _ _ hh rfl, r⟩⟩

/-- Lines, changed, one behind the other. -/
def bdL (c : Cg) (ls : List (ByteArray × ByteArray)) : ByteArray := ls.foldl (fun b x => b ++ (lnB c x.1 ++ x.2)) ⟨#[]⟩
theorem bdL_snoc (c : Cg) (l : List (ByteArray × ByteArray)) (x : ByteArray × ByteArray) : bdL c (l ++ [x]) = bdL c l ++ (lnB c x.1 ++ x.2) := by unfold bdL; simp
def bdB (c : Cg) (s : ByteArray) : ByteArray := bdL c (lnsB s)
theorem lnB_size (c : Cg) (hc : c.wf) (l : ByteArray) : (lnB c l).size ≤ 2 * l.size + 2010 := by
  obtain ⟨⟨h1, h2⟩, _, _, h5⟩ := hc
  unfold lnB
  split
  · rw [ByteArray.size_append]; have : cnB.size = 9 := rfl; omega
  split
  · rw [ByteArray.size_append]; have := tsB_size l c.host; omega
  cases hm : mdO l with
  | none => simp only [mlB]; omega
  | some m =>
    obtain ⟨a, p, b⟩ := m
    simp only [mlB]
    obtain ⟨q1, q2, q3⟩ := mdO_size hm
    have hd := decB_size (inB c.media p).toNat (by have := inB_rng h5 q3; omega)
    rw [ByteArray.size_append, ByteArray.size_append]
    omega
def nvs (r : ByteArray) : List Value := (nmsB r).map (Value.int .u8)
theorem nvs_str (r : ByteArray) : nvs r = Lib.strCells r := by unfold nvs nmsB Lib.strCells; rw [List.map_map]; rfl
theorem nvs_app (s t : ByteArray) : nvs (s ++ t) = nvs s ++ nvs t := by unfold nvs nmsB; simp
/-- Every line is a part of the text. -/
theorem lnsF_mem : ∀ (n : Nat) (s : ByteArray) (x : ByteArray × ByteArray), x ∈ lnsF n s → x.1.size ≤ s.size ∧ x.2.size ≤ s.size
  | 0, s, x, h => by cases h
  | n + 1, s, x, h => by
    unfold lnsF at h
    split at h
    · cases h
    · have hz := cut_size s crB
      rcases List.mem_cons.1 h with rfl | h
      · refine ⟨hz.1, ?_⟩
        unfold betw
        rw [ByteArray.size_extract]
        omega
      · have := lnsF_mem n _ x h
        omega
theorem lnsF_len : ∀ (n : Nat) (s : ByteArray), (lnsF n s).length ≤ n
  | 0, s => Nat.le_refl _
  | n + 1, s => by
    unfold lnsF
    split
    · simp
    · have := lnsF_len n (cutZ s crB)
      simp only [List.length_cons]
      omega
theorem bdL_size (c : Cg) (hc : c.wf) (k : Nat) : ∀ (n : Nat) (l : List (ByteArray × ByteArray)), l.length = n → (∀ x ∈ l, x.1.size ≤ k ∧ x.2.size ≤ k) → (bdL c l).size ≤ n * (3 * k + 2010)
  | 0, l, hl, _ => by
    rw [List.length_eq_zero_iff.1 hl]
    exact Nat.zero_le _
  | n + 1, l, hl, h => by
    rcases List.eq_nil_or_concat l with rfl | ⟨l', x, e⟩
    · cases hl
    rw [List.concat_eq_append] at e
    subst e
    have h1 := bdL_size c hc k n l' (by simpa using hl) (fun y hy => h y (List.mem_append_left _ hy))
    have h2 := h x (List.mem_append_right _ (List.mem_singleton_self x))
    have h3 := lnB_size c hc x.1
    rw [bdL_snoc, ByteArray.size_append, ByteArray.size_append, Nat.add_mul, Nat.one_mul]
    omega

/-- What body keeps while it goes along the lines. -/
def PB14 (rb base : Nat) (c : Cg) (mv : Value) (pre : List (ByteArray × ByteArray)) (W : World) : Prop :=
  (∃ v, W.heap[rb + 1]? = some (.cells #[v] 22 (0, 0)) ∧ W.ownsRow base 5 1 v (bdL c pre).size (nvs (bdL c pre))) ∧ W.heap[rb]? = some (.cells #[.string c.host, .string c.is, .int .u16 c.port, .int .u16 c.np, mv] 94 (0, 0))
theorem PB14.ct {rb base : Nat} {c : Cg} {mv : Value} {pre : List (ByteArray × ByteArray)} {A B : World} (h : PB14 rb base c mv pre A) (k : CTs A B) : PB14 rb base c mv pre B := by
  obtain ⟨⟨v, h1, h2⟩, h3⟩ := h
  exact ⟨⟨v, k.2 _ _ h1 rfl, ownsS_ct h2 k⟩, k.2 _ _ h3 rfl⟩
theorem owns_form {W : World} {base : Nat} {e : TypeId} {size : Nat} {v : Value} {n : Nat} {xs : List Value} (h : W.ownsRow base e size v n xs) : ∃ a cap, v = .slice a n cap := by
  rcases h.2 with ⟨rfl, rfl⟩ | ⟨g, cap, cur, rfl, _⟩
  · exact ⟨_, _, rfl⟩
  · exact ⟨_, _, rfl⟩
theorem owns_blk {W : World} {base : Nat} {e : TypeId} {size : Nat} {v : Value} {n : Nat} {xs : List Value} (h : W.ownsRow base e size v n xs) : ∀ r, v.ownBlock = some r → ∃ cur, W.heap[r]? = some (.cells cur e (0, 0)) ∧ base ≤ r := fun r hr => by
  rcases h.2 with ⟨rfl, rfl⟩ | ⟨g, cap, cur, rfl, hg, hh, _⟩
  · cases hr
  · cases hr; exact ⟨cur, hh, hg⟩
theorem hsetS_ne {W : World} {n m j : Nat} {v : Value} {o : Obj} (h : W.heap[n]? = some o) (hne : n ≠ m) : (W.setCell ⟨m, j, none⟩ v).heap[n]? = some o := (Below.heap_setCell W ⟨m, j, none⟩ v n hne).trans h

set_option maxRecDepth 100000 in
set_option maxHeartbeats 8000000 in
theorem body_any (c : Cg) (mv sb : Value) (zb : List Int) (w : World) (hT : TabI w) (hM : TabM w) (hc : c.wf) (hI : RdP2 w.heap.size w mv c.media) (hB : Rd w.heap.size w sb zb) (hz : zb.length ≤ 4096) :
    Calls Tryd.prog 59 #[.agg #[.string c.host, .string c.is, .int .u16 c.port, .int .u16 c.np, mv], sb] w fun e w' => Later w w' ∧ ∃ v, e = .returned v ∧ w'.ownsRow w.heap.size 5 1 v (bdB c (strOfNums zb)).size (nvs (bdB c (strOfNums zb))) := by
  have hcv : ∀ W, Later w W → (convert 22 9 sb).run Tryd.prog W = .ok (.string (strOfNums zb)) W := fun W hW => conv_rd 22 9 5 Tryd.underlying22 Tryd.underlying5 Tryd.underlying9 (hB.below hW)
  have hss : (strOfNums zb).size ≤ 4096 := by rw [strOfNums_size]; exact hz
  unfold bdB
  generalize strOfNums zb = s at *
  refine (callsIn_wide (n := 5)).1 ?_
  refine callsIn_of_wp_marks Tryd.func59 rfl trivial ?_ rfl
  simp only [Tryd.ntmps59, List.size_toArray, List.length_cons, List.length_nil, Nat.reduceAdd, Nat.reduceSub, Array.replicate_succ, Array.replicate_zero, List.push_toArray, List.append_toArray, List.nil_append, List.cons_append]
  have hcv0 := hcv ((w.alloc (.cells #[.string c.host, .string c.is, .int .u16 c.port, .int .u16 c.np, mv] 94)).alloc (.cells #[.slice none 0 0] 22)) (((Below.refl _ _).alloc (Nat.le_refl _) _).alloc (by simp) _)
  have hb4 : Later w (((w.alloc (.cells #[.string c.host, .string c.is, .int .u16 c.port, .int .u16 c.np, mv] 94)).alloc (.cells #[.slice none 0 0] 22)).alloc (.cells #[.string s] 9)) := (((Below.refl _ _).alloc (Nat.le_refl _) _).alloc (by simp) _).alloc (by simp <;> omega) _
  have c0 : (((w.alloc (.cells #[.string c.host, .string c.is, .int .u16 c.port, .int .u16 c.np, mv] 94)).alloc (.cells #[.slice none 0 0] 22)).alloc (.cells #[.string s] 9)).heap[w.heap.size]? = some (.cells #[.string c.host, .string c.is, .int .u16 c.port, .int .u16 c.np, mv] 94) := (Below.heap_alloc _ _ _ (by simp <;> omega)).trans ((Below.heap_alloc _ _ _ (by simp)).trans (heap_alloc_new w _))
  have c1 : (((w.alloc (.cells #[.string c.host, .string c.is, .int .u16 c.port, .int .u16 c.np, mv] 94)).alloc (.cells #[.slice none 0 0] 22)).alloc (.cells #[.string s] 9)).heap[w.heap.size + 1]? = some (.cells #[.slice none 0 0] 22) := by
    have := heap_alloc_new (w.alloc (.cells #[.string c.host, .string c.is, .int .u16 c.port, .int .u16 c.np, mv] 94)) (.cells #[.slice none 0 0] 22)
    rw [World.size_alloc] at this
    exact (Below.heap_alloc _ _ _ (by simp)).trans this
  have c2 : (((w.alloc (.cells #[.string c.host, .string c.is, .int .u16 c.port, .int .u16 c.np, mv] 94)).alloc (.cells #[.slice none 0 0] 22)).alloc (.cells #[.string s] 9)).heap[w.heap.size + 1 + 1]? = some (.cells #[.string s] 9) := by
    have := heap_alloc_new ((w.alloc (.cells #[.string c.host, .string c.is, .int .u16 c.port, .int .u16 c.np, mv] 94)).alloc (.cells #[.slice none 0 0] 22)) (.cells #[.string s] 9)
    simpa only [World.size_alloc] using this
  have hs4 : (((w.alloc (.cells #[.string c.host, .string c.is, .int .u16 c.port, .int .u16 c.np, mv] 94)).alloc (.cells #[.slice none 0 0] 22)).alloc (.cells #[.string s] 9)).heap.size = w.heap.size + 1 + 1 + 1 := by simp
  have C0 := hide c0
  have C1 := hide c1
  have C2 := hide c2
  have HS4 := hide hs4
  clear c0 c1 c2 hs4 hcv
  gi_wp2_with (refine ⟨trivial, ?_⟩; gi_at_call 28; refine (lines_in _ _ _).mono ?_; rintro e w' ⟨rfl, rfl⟩)
  clear hcv0
  generalize ((w.alloc (.cells #[.string c.host, .string c.is, .int .u16 c.port, .int .u16 c.np, mv] 94)).alloc (.cells #[.slice none 0 0] 22)).alloc (.cells #[.string s] 9) = w4 at *
  have hs4 : w4.heap.size = w.heap.size + 1 + 1 + 1 := HS4.out
  refine wpIn_rangeX (w := w4) rfl (by omega) (gf := 46) (lb := #[.pointer (some ⟨w.heap.size + 1 + 1, 0, none⟩)]) rfl trivial (enters_of Tryd.func46 (by kernel_rfl) rfl)
    (lines_gen 4 (by omega) (w.heap.size + 1 + 1) s w w4 hM (by omega) hb4 (by omega) (block_cell C2.out 0))
    (fun h k => h.trans k) (fun W l o o' hl ho hc hw => belowK_b (w := w4) (by omega) W l o o' hl ho hc hw) (fun hA hL => hL.mono (by omega)) (fun _ _ _ _ h _ => h) (fun _ _ _ _ _ _ _ _ _ h => h) (fun _ => rfl)
    (fun pre W => PB14 w.heap.size (w.heap.size + 1 + 1) c mv pre W ∧ Below w.heap.size w W) (fun pre W => False)
    (OwnFrom.and (fun s A B row hs hg hr => hs.ct (CTs.row hg (fun r e => (hr r e).2))) (ownFrom_below (Nat.le_refl _) (by omega)))
    (fun s A B h l => ⟨h.1.ct (CTs.of l), h.2.trans (l.mono h.2.size)⟩)
    (fun s A B row hs hg hr => hs)
    ⟨⟨⟨.slice none 0 0, C1.out, rfl, .inl ⟨rfl, rfl⟩⟩, C0.out⟩, hb4⟩
    (fun x a' W => a' = { tmps := #[.agg #[.string c.host, .string c.is, .int .u16 c.port, .int .u16 c.np, mv], sb, .pointer (some ⟨w.heap.size, 0, none⟩), undef, .slice none 0 0, .pointer (some ⟨w.heap.size + 1, 0, none⟩), .string x.1, .string x.2, sb, .string s, .func (.func 46) #[] #[.pointer (some ⟨w.heap.size + 1 + 1, 0, none⟩)], .string x.1, .string x.2, undef, undef, undef, undef, undef, undef, undef, undef], defers := [] })
    (fun x a' W l o o' hl ho hc h => h) ?assign ?body ?done ?stop
  case assign =>
    rintro l pre x W K hsz _ hX hK
    dsimp only [encL]
    gi_wp2
    exact hK _ _ (Below.refl _ _) rfl
  case body =>
    rintro l pre x a' W ⟨⟨⟨v, hob, hOw⟩, hr0⟩, hbW⟩ hX rfl
    have hbsz := hbW.size
    have hxm : ∀ y ∈ pre ++ [x], y ∈ lnsB s := fun y hy => by
      obtain ⟨rest, e⟩ := hX
      rw [← e]
      rcases List.mem_append.1 hy with h | h
      · exact List.mem_append_left _ h
      · rw [List.mem_singleton.1 h]; exact List.mem_append_right _ (List.mem_cons_self ..)
    have hxs := fun y hy => lnsF_mem _ s y (hxm y hy)
    have hx1 := hxs x (List.mem_append_right _ (List.mem_singleton_self x))
    have hpl : pre.length ≤ 4096 := by
      obtain ⟨rest, e⟩ := hX
      have h1 := congrArg List.length e
      have h2 := lnsF_len s.size s
      unfold lnsB at h1
      simp at h1
      omega
    have hps := bdL_size c hc 4096 pre.length pre rfl (fun y hy => by have := hxs y (List.mem_append_left _ hy); omega)
    have hps2 : (bdL c pre).size ≤ 4096 * 14298 := Nat.le_trans hps (Nat.mul_le_mul_right _ hpl)
    have hln := lnB_size c hc x.1
    obtain ⟨va, vc, rfl⟩ := owns_form hOw
    have hnn := bdL_snoc c pre x
    have HNN := hide hnn
    have HX := hide hX
    clear hxs hxm hps hnn hX
    refine wpIn_block ?_
    refine anyU_beginIn (R1 := Later) (R2 := fun _ _ => True) (D := [6, 7]) 8 rfl (by kernel_rfl) (noDefer_spec (by rfl)) ?_
    have ld : Later W W.drew := Later.drew W
    generalize W.drew = Wd at *
    have HOB := hide (later_keep ld hob)
    have HR0 := hide (later_keep ld hr0)
    have HOW := hide (ownsS_ct hOw (CTs.of ld))
    have LWd : Later w Wd := Below.trans hbW (ld.mono hbsz)
    have qB : ∀ v1, Later Wd v1 → ∀ j, v1.cell? ⟨w.heap.size + 1, j, none⟩ = #[Value.slice va (bdL c pre).size vc][j]? := fun v1 hv => block_cell (later_keep hv HOB.out)
    have qC : ∀ v1, Later Wd v1 → ∀ j, v1.cell? ⟨w.heap.size, j, none⟩ = #[Value.string c.host, .string c.is, .int .u16 c.port, .int .u16 c.np, mv][j]? := fun v1 hv => block_cell (later_keep hv HR0.out)
    refine anyU_val Later.pre 0 [6, 7] rfl (by rfl) (by rfl) (by kernel_rfl) (by kernel_rfl) (by kernel_rfl) (by kernel_rfl) (by kernel_rfl) (fun _ _ _ _ h => by cases h.1) (by rfl) ?_; apply Exists.intro; refine ⟨fun v1 hv1 => ?_, ?_⟩; (· (go_simp; rfl)); simp only [Act.put, List.setIfInBounds_toArray, List.set_cons_zero, List.set_cons_succ]
    refine anyU_val Later.pre 1 [3, 5, 6, 7] rfl (by rfl) (by rfl) (by kernel_rfl) (by kernel_rfl) (by kernel_rfl) (by kernel_rfl) (by kernel_rfl) (fun _ _ _ _ h => by cases h.1) (by rfl) ?_; apply Exists.intro; refine ⟨fun v1 hv1 => ?_, ?_⟩; (· (go_simp; rfl)); simp only [Act.put, List.setIfInBounds_toArray, List.set_cons_zero, List.set_cons_succ]
    refine anyU_val Later.pre 2 [3, 5, 6, 7] rfl (by rfl) (by rfl) (by kernel_rfl) (by kernel_rfl) (by kernel_rfl) (by kernel_rfl) (by kernel_rfl) (fun _ _ _ _ h => by cases h.1) (by rfl) ?_; apply Exists.intro; refine ⟨fun v1 hv1 => ?_, ?_⟩; (· (go_simp; rfl)); simp only [Act.put, List.setIfInBounds_toArray, List.set_cons_zero, List.set_cons_succ]
    refine anyU_val Later.pre 4 [5, 6, 7] rfl (by rfl) (by rfl) (by kernel_rfl) (by kernel_rfl) (by kernel_rfl) (by kernel_rfl) (by kernel_rfl) (fun _ _ _ _ h => by cases h.1) (by rfl) ?_; apply Exists.intro; refine ⟨fun v1 hv1 => ?_, ?_⟩; (· (go_simp; rfl)); simp only [Act.put, List.setIfInBounds_toArray, List.set_cons_zero, List.set_cons_succ]
    clear qB qC
    refine anyU_one 3 rfl (by kernel_rfl) (by rfl) ?_
    refine wp_enter 72 #[.agg #[.string c.host, .string c.is, .int .u16 c.port, .int .u16 c.np, mv], .string x.1] (by go_simp) ?_
    refine (line_any c mv x.1 Wd (hT.later LWd) (hM.later LWd) hc (hI.later LWd) (by omega)).mono ?_
    rintro e W1 ⟨rfl, l1⟩
    refine ⟨Rj_out (by rfl) l1, ?_⟩
    simp only [Act.put, List.setIfInBounds_toArray, List.set_cons_zero, List.set_cons_succ]
    refine anyU_one 5 rfl (by kernel_rfl) (by rfl) ?_
    refine wp_value (w' := W1) (.string (lnB c x.1 ++ x.2)) (by go_simp; omega) ?_
    refine ⟨Rj_out (by rfl) (Later.refl _), ?_⟩
    simp only [Act.put, List.setIfInBounds_toArray, List.set_cons_zero, List.set_cons_succ]
    refine anyU_one 6 rfl (by kernel_rfl) (by rfl) ?_
    have HOW1 := ownsS_ct HOW.out (CTs.of l1)
    obtain ⟨i0, hi0, hz0, hz1, hz2⟩ := info_partsS info_u8
    have hsz : (lnB c x.1 ++ x.2).size ≤ 20000 := by rw [ByteArray.size_append]; omega
    have hb1 : w.heap.size + 1 + 1 ≤ W1.heap.size := (Array.getElem?_eq_some_iff.1 (later_keep (ld.trans l1) hob)).1
    obtain ⟨v', W2, hrun, hrow, hg, _⟩ := Lib.run_append_own_string (P := Tryd.prog) W1 (w.heap.size + 1 + 1) 22 9 22 5 i0 Tryd.underlying22 Tryd.underlying9 hi0 hz0 hz1 hz2 _ _ _ HOW1 (lnB c x.1 ++ x.2) (by unfold maxLen; omega) (by omega) hb1
    refine wp_appT (.tmp 13) (.tmp 18) 22 9 rfl _ _ rfl rfl v' W2 hrun ?_
    refine ⟨Rj_in (by rfl) trivial, ?_⟩
    simp only [Act.put, List.setIfInBounds_toArray, List.set_cons_zero, List.set_cons_succ]
    obtain ⟨a2, cp2, rfl⟩ := owns_form hrow
    generalize hq : (bdL c pre).size + (lnB c x.1 ++ x.2).size = q at *
    have HQ := hide hq
    clear hq
    have hbk := owns_blk HOW1
    have hkp : ∀ i o, W1.heap[i]? = some o → (o.isCells = false ∨ i < w.heap.size + 1 + 1) → W2.heap[i]? = some o := fun i o ho hh => (hg.block i (Array.getElem?_eq_some_iff.1 ho).1 (fun e => by
      obtain ⟨cur, h1, h2⟩ := hbk i e.symm
      rw [ho] at h1
      cases h1
      rcases hh with h | h
      · cases h
      · omega)).trans ho
    have hob2 := hkp _ _ (later_keep l1 HOB.out) (.inr (by omega))
    have hr2 := hkp _ _ (later_keep l1 HR0.out) (.inr (by omega))
    have k2 := block_cell hob2
    have f2 := block_frozen hob2
    refine anyU_one 7 rfl (by kernel_rfl) (by rfl) ?_
    unfold Oper.wp
    go_simp
    refine ⟨Rj_in (by rfl) trivial, ?_⟩
    clear k2 f2
    refine anyU_done (by kernel_rfl) ?_
    generalize hvv : Value.slice a2 q cp2 = vv at *
    have hkeep : ∀ i o, W.heap[i]? = some o → (o.isCells = false ∨ i < w.heap.size + 1 + 1) → i ≠ w.heap.size + 1 → (W2.setCell ⟨w.heap.size + 1, 0, none⟩ vv).heap[i]? = some o := fun i o hi hh h2 => hsetS_ne (hkp i o (later_keep (ld.trans l1) hi) hh) h2
    have hsz2 : W.heap.size ≤ W2.heap.size := Nat.le_trans (ld.trans l1).size hg.size
    have hown2 : (W2.setCell ⟨w.heap.size + 1, 0, none⟩ vv).ownsRow (w.heap.size + 1 + 1) 5 1 vv (bdL c (pre ++ [x])).size (nvs (bdL c (pre ++ [x]))) := by
      rw [HNN.out, ByteArray.size_append, HQ.out, nvs_app, nvs_str (lnB c x.1 ++ x.2)]
      refine ⟨hrow.1, hrow.2.imp id ?_⟩
      rintro ⟨g, cp, cur, e1, e2, e3, r⟩
      exact ⟨g, cp, cur, e1, e2, hsetS_ne e3 (by omega), r⟩
    have hbn : Below w.heap.size W (W2.setCell ⟨w.heap.size + 1, 0, none⟩ vv) := ⟨hg.os.trans (ld.trans l1).os, hg.tape.trans (ld.trans l1).tape, hg.output.trans (ld.trans l1).output, by simp; omega, fun i hi => by
      cases hh : W.heap[i]? with
      | none => have := Array.getElem?_eq_none_iff.1 hh; omega
      | some o => exact hkeep i o hh (.inr (by omega)) (by omega)⟩
    refine ⟨rfl, ?_⟩
    show KeepsFrom _ _ _ ∧ Below _ _ _ ∧ _
    refine ⟨⟨by simp; omega, fun i o hi ho hc => hkeep i o ho (.inl hc) (by omega)⟩, hbn, ⟨⟨vv, heap_set1 hob2 0 _, hown2⟩, hkeep _ _ hr0 (.inr (by omega)) (by omega)⟩, hbW.trans hbn⟩
  case done =>
    rintro D xs W hD rfl ⟨⟨⟨v, h1, h2⟩, h3⟩, hbW⟩ hK
    obtain ⟨va, vc, rfl⟩ := owns_form h2
    have K1 := block_cell h1
    gi_wp2
    refine ⟨by simp, .inl ⟨_, _, rfl, run_takeDeferred hK, ?_⟩⟩
    refine ⟨.slice va (bdL c (lnsB s)).size vc, by simp [results, Tryd.results59, go_sem], hbW.trans (belowK_b (w := w) (Nat.le_refl _) W D _ _ (by omega) hK rfl rfl), _, rfl, ?_⟩
    obtain ⟨q1, q2⟩ := ownsS_ct h2 (CTs.put (o' := .deferred none) hK rfl)
    refine ⟨q1, q2.imp id ?_⟩
    rintro ⟨g, cp, cur, e1, e2, r⟩
    exact ⟨g, cp, cur, e1, by omega, r⟩
  case stop =>
    rintro D pre W hD _ h
    exact h.elim
end Go.Proofs.YtehdgndbloaljaaDoor

/- Package sip: a message, changed. -/
namespace Go.Proofs.YtehdgndbloaljaaDoor
open Go.RowKit Go.Shelf
set_option maxRecDepth 100000
set_option linter.unusedVariables false
set_option linter.unusedSimpArgs false

/-- Headers, changed, ahead of a body of so many bytes. -/
def mgH (c : Cg) (n : Nat) (hs : List Hr) : List Hr := hs.map fun h => (h.1, vuB c n h)
theorem mgH_take (c : Cg) (n : Nat) (hs : List Hr) (k : Nat) (hk : k < hs.length) : mgH c n (hs.take (k + 1)) = mgH c n (hs.take k) ++ [(hs[k].1, vuB c n hs[k])] := by
  unfold mgH
  rw [← List.take_append_getElem hk, List.map_append]
  rfl
theorem info_hdr : (Tryd.prog.info? 53).map (fun i => (i.zero, i.size, i.bytes)) = some (some (.agg #[.string ⟨#[]⟩, .string ⟨#[]⟩]), 2, 32) := by kernel_rfl
/-- What append to rows of headers leaves: blocks that are no such row. -/
theorem keep_row {W1 W2 : World} {base : Nat} {e : TypeId} {size : Nat} {v : Value} {n : Nat} {xs : List Value} (h : W1.ownsRow base e size v n xs) (hg : W1.grownBy W2 v.ownBlock) {i : Nat} {o : Obj} (ho : W1.heap[i]? = some o) (hh : (∀ cur f, o ≠ .cells cur e f) ∨ i < base) : W2.heap[i]? = some o :=
  (hg.block i (Array.getElem?_eq_some_iff.1 ho).1 (fun e => by
    obtain ⟨cur, h1, h2⟩ := owns_blk h i e.symm
    rw [ho] at h1
    cases h1
    rcases hh with h | h
    · exact h _ _ rfl
    · omega)).trans ho
theorem keep_own {W1 W2 : World} {base : Nat} {e : TypeId} {size : Nat} {v : Value} {n : Nat} {xs : List Value} (h : W1.ownsRow base e size v n xs) (hg : W1.grownBy W2 v.ownBlock) {base' : Nat} {e' : TypeId} {size' : Nat} {v' : Value} {n' : Nat} {xs' : List Value} (hne : e' ≠ e) (h2 : W1.ownsRow base' e' size' v' n' xs') : W2.ownsRow base' e' size' v' n' xs' := by
  obtain ⟨h1, h2 | ⟨g, cap, cur, hv, hg', hh, r⟩⟩ := h2
  · exact ⟨h1, .inl h2⟩
  · exact ⟨h1, .inr ⟨g, cap, cur, hv, hg', keep_row h hg hh (.inl fun c f e => by cases e; exact hne rfl), r⟩⟩
theorem own_set {W : World} {base : Nat} {e t : TypeId} {size : Nat} {v : Value} {n : Nat} {xs : List Value} (h : W.ownsRow base e size v n xs) {g : Nat} {cur : Array Value} (hg : W.heap[g]? = some (.cells cur t (0, 0))) (hne : e ≠ t) (j : Nat) (u : Value) : (W.setCell ⟨g, j, none⟩ u).ownsRow base e size v n xs := by
  obtain ⟨h1, h2 | ⟨g', cap, cur', hv, hg', hh, r⟩⟩ := h
  · exact ⟨h1, .inl h2⟩
  · exact ⟨h1, .inr ⟨g', cap, cur', hv, hg', hsetS_ne hh (fun e => by subst e; rw [hg] at hh; cases hh; exact hne rfl), r⟩⟩
theorem owns_mono {W : World} {base base' : Nat} {e : TypeId} {size : Nat} {v : Value} {n : Nat} {xs : List Value} (h : W.ownsRow base e size v n xs) (hb : base' ≤ base) : W.ownsRow base' e size v n xs := by
  obtain ⟨h1, h2 | ⟨g', cap, cur', hv, hg', r⟩⟩ := h
  · exact ⟨h1, .inl h2⟩
  · exact ⟨h1, .inr ⟨g', cap, cur', hv, Nat.le_trans hb hg', r⟩⟩

theorem own_but {W W' : World} {base base' : Nat} {e t : TypeId} {size : Nat} {v : Value} {n : Nat} {xs : List Value} (h : W.ownsRow base e size v n xs) {g : Nat} (hb : But (fun b => b = g) W W') {cur : Array Value} (hg : W.heap[g]? = some (.cells cur t (0, 0))) (hne : e ≠ t) (hbb : base' ≤ base) : W'.ownsRow base' e size v n xs := by
  obtain ⟨h1, h2 | ⟨g', cap, cur', hv, hg', hh, r⟩⟩ := h
  · exact ⟨h1, .inl h2⟩
  · exact ⟨h1, .inr ⟨g', cap, cur', hv, Nat.le_trans hbb hg', (hb.block g' (Array.getElem?_eq_some_iff.1 hh).1 (fun e => by subst e; rw [hg] at hh; cases hh; exact hne rfl)).trans hh, r⟩⟩

theorem bdB_size (c : Cg) (hc : c.wf) (s : ByteArray) (h : s.size ≤ 4096) : (bdB c s).size ≤ 60000000 := by
  unfold bdB
  have h1 := bdL_size c hc 4096 (lnsB s).length (lnsB s) rfl (fun x hx => by have := lnsF_mem _ s x hx; omega)
  have h2 := lnsF_len s.size s
  have h3 : (lnsB s).length ≤ 4096 := by unfold lnsB; omega
  exact Nat.le_trans h1 (Nat.le_trans (Nat.mul_le_mul_right _ h3) (by decide))

theorem wp_calmS {P : Program} {c : Code} {Q : Exit → Act → World → Prop} {a : Act} {w : World} (h : c.wp P (calmQ (Q .normal)) a w) : c.wp P Q a w := wp_mono h (fun e a w h => by obtain ⟨rfl, h⟩ := h; exact h)

/-- The message that is being made: its block, its body. -/
def NM14 (w : World) (gn : Nat) (st : ByteArray) (vh vb : Value) (nb : ByteArray) (W : World) : Prop :=
  w.heap.size ≤ gn ∧ W.heap[gn]? = some (.cells #[.string st, vh, vb] 25 (0, 0)) ∧ W.ownsRow w.heap.size 5 1 vb nb.size (nvs nb)

set_option maxRecDepth 100000 in
set_option maxHeartbeats 8000000 in
theorem message_any (c : Cg) (mv : Value) (st : ByteArray) (sv sb : Value) (hs : List Hr) (zb : List Int) (w : World) (hT : TabI w) (hM : TabM w) (hc : c.wf) (hI : RdP2 w.heap.size w mv c.media) (hH : RdM w.heap.size w sv hs) (hB : Rd w.heap.size w sb zb) (hz : zb.length ≤ 4096) (hhl : hs.length ≤ 64) (hhs : ∀ h ∈ hs, h.1.size ≤ 4096 ∧ h.2.size ≤ 4096) :
    Calls Tryd.prog 38 #[.agg #[.string c.host, .string c.is, .int .u16 c.port, .int .u16 c.np, mv], .agg #[.string st, sv, sb]] w fun e w' => Later w w' ∧ ∃ vh vb, e = .returned (.agg #[.string st, vh, vb]) ∧ w'.ownsRow w.heap.size 53 2 vh hs.length (hrs (mgH c (bdB c (strOfNums zb)).size hs)) ∧ w'.ownsRow w.heap.size 5 1 vb (bdB c (strOfNums zb)).size (nvs (bdB c (strOfNums zb))) := by
  obtain ⟨sa, scp, rfl, hsc1, hsc2⟩ := hH.slice
  have hb4 : Later w (((w.alloc (.cells #[.string c.host, .string c.is, .int .u16 c.port, .int .u16 c.np, mv] 94)).alloc (.cells #[.string st, .slice sa hs.length scp, sb] 25)).alloc (.cells #[.string ⟨#[]⟩, .slice none 0 0, .slice none 0 0] 25)) := (((Below.refl _ _).alloc (Nat.le_refl _) _).alloc (by simp) _).alloc (by simp <;> omega) _
  have c0 : (((w.alloc (.cells #[.string c.host, .string c.is, .int .u16 c.port, .int .u16 c.np, mv] 94)).alloc (.cells #[.string st, .slice sa hs.length scp, sb] 25)).alloc (.cells #[.string ⟨#[]⟩, .slice none 0 0, .slice none 0 0] 25)).heap[w.heap.size]? = some (.cells #[.string c.host, .string c.is, .int .u16 c.port, .int .u16 c.np, mv] 94) := (Below.heap_alloc _ _ _ (by simp <;> omega)).trans ((Below.heap_alloc _ _ _ (by simp)).trans (heap_alloc_new w _))
  have c1 : (((w.alloc (.cells #[.string c.host, .string c.is, .int .u16 c.port, .int .u16 c.np, mv] 94)).alloc (.cells #[.string st, .slice sa hs.length scp, sb] 25)).alloc (.cells #[.string ⟨#[]⟩, .slice none 0 0, .slice none 0 0] 25)).heap[w.heap.size + 1]? = some (.cells #[.string st, .slice sa hs.length scp, sb] 25) := by
    have := heap_alloc_new (w.alloc (.cells #[.string c.host, .string c.is, .int .u16 c.port, .int .u16 c.np, mv] 94)) (.cells #[.string st, .slice sa hs.length scp, sb] 25)
    rw [World.size_alloc] at this
    exact (Below.heap_alloc _ _ _ (by simp)).trans this
  have c2 : (((w.alloc (.cells #[.string c.host, .string c.is, .int .u16 c.port, .int .u16 c.np, mv] 94)).alloc (.cells #[.string st, .slice sa hs.length scp, sb] 25)).alloc (.cells #[.string ⟨#[]⟩, .slice none 0 0, .slice none 0 0] 25)).heap[w.heap.size + 1 + 1]? = some (.cells #[.string ⟨#[]⟩, .slice none 0 0, .slice none 0 0] 25) := by
    have := heap_alloc_new ((w.alloc (.cells #[.string c.host, .string c.is, .int .u16 c.port, .int .u16 c.np, mv] 94)).alloc (.cells #[.string st, .slice sa hs.length scp, sb] 25)) (.cells #[.string ⟨#[]⟩, .slice none 0 0, .slice none 0 0] 25)
    simpa only [World.size_alloc] using this
  have hs4 : (((w.alloc (.cells #[.string c.host, .string c.is, .int .u16 c.port, .int .u16 c.np, mv] 94)).alloc (.cells #[.string st, .slice sa hs.length scp, sb] 25)).alloc (.cells #[.string ⟨#[]⟩, .slice none 0 0, .slice none 0 0] 25)).heap.size = w.heap.size + 1 + 1 + 1 := by simp
  have C0 := hide c0
  have C1 := hide c1
  have C2 := hide c2
  have HS4 := hide hs4
  clear c0 c1 c2 hs4
  have hnbs := bdB_size c hc (strOfNums zb) (by rw [strOfNums_size]; exact hz)
  generalize hnb : bdB c (strOfNums zb) = nb at *
  have HNB := hide hnb
  clear hnb
  go_enter Tryd.func38, Tryd.ntmps38
  go_upto_region 1 with fail
  generalize ((w.alloc (.cells #[.string c.host, .string c.is, .int .u16 c.port, .int .u16 c.np, mv] 94)).alloc (.cells #[.string st, .slice sa hs.length scp, sb] 25)).alloc (.cells #[.string ⟨#[]⟩, .slice none 0 0, .slice none 0 0] 25) = w4 at *
  have hs4 : w4.heap.size = w.heap.size + 1 + 1 + 1 := HS4.out
  generalize hgc : w.heap.size = gc at *
  refine wp_mono (Q := fun e a' W => e = .normal ∧ ∃ gn vb, a' = { tmps := #[.agg #[.string c.host, .string c.is, .int .u16 c.port, .int .u16 c.np, mv], .agg #[.string st, .slice sa hs.length scp, sb], .pointer (some ⟨gc, 0, none⟩), .pointer (some ⟨gc + 1, 0, none⟩), .pointer (some ⟨gc + 1 + 1, 0, none⟩), .pointer (some ⟨gn, 0, none⟩), undef, undef, .pointer (some ⟨gc + 1, 0, none⟩), .string st, .agg #[.string c.host, .string c.is, .int .u16 c.port, .int .u16 c.np, mv], .pointer (some ⟨gc + 1, 2, none⟩), sb, vb, .agg #[.string st, .slice none 0 0, vb], undef, undef, undef, undef, undef, undef, undef, undef, undef, undef, undef, undef, undef, undef, undef, undef, undef, undef, undef, undef, undef, undef, undef], defers := [] } ∧ Later w4 W ∧ NM14 w4 gn st (.slice none 0 0) vb nb W) ?reg ?rest
  case reg =>
    refine anyU_begin (R1 := Later) (R2 := fun _ _ => True) (D := [8]) 9 rfl (by kernel_rfl) ?_
    have ld : Later w4 w4.drew := Later.drew w4
    generalize w4.drew = Wd at *
    have LWd : Later w Wd := Later.trans hb4 ld
    have qC : ∀ v1, Later Wd v1 → ∀ j, v1.cell? ⟨gc, j, none⟩ = #[.string c.host, .string c.is, .int .u16 c.port, .int .u16 c.np, mv][j]? := fun v1 hv => block_cell (later_keep (ld.trans hv) C0.out)
    have qM : ∀ v1, Later Wd v1 → ∀ j, v1.cell? ⟨gc + 1, j, none⟩ = #[.string st, .slice sa hs.length scp, sb][j]? := fun v1 hv => block_cell (later_keep (ld.trans hv) C1.out)
    refine anyU_val Later.pre 0 [1, 6, 8] rfl (by rfl) (by rfl) (by kernel_rfl) (by kernel_rfl) (by kernel_rfl) (by kernel_rfl) (by kernel_rfl) (fun _ _ _ _ h => by cases h.1) (by rfl) ?_; apply Exists.intro; refine ⟨fun v1 hv1 => ?_, ?_⟩; (· (go_simp; rfl)); simp only [Act.put, List.setIfInBounds_toArray, List.set_cons_zero, List.set_cons_succ]
    refine anyU_val Later.pre 1 [6, 8] rfl (by rfl) (by rfl) (by kernel_rfl) (by kernel_rfl) (by kernel_rfl) (by kernel_rfl) (by kernel_rfl) (fun _ _ _ _ h => by cases h.1) (by rfl) ?_; apply Exists.intro; refine ⟨fun v1 hv1 => ?_, ?_⟩; (· (go_simp; rfl)); simp only [Act.put, List.setIfInBounds_toArray, List.set_cons_zero, List.set_cons_succ]
    refine anyU_val Later.pre 2 [5, 6, 8] rfl (by rfl) (by rfl) (by kernel_rfl) (by kernel_rfl) (by kernel_rfl) (by kernel_rfl) (by kernel_rfl) (fun _ _ _ _ h => by cases h.1) (by rfl) ?_; apply Exists.intro; refine ⟨fun v1 hv1 => ?_, ?_⟩; (· (go_simp; rfl)); simp only [Act.put, List.setIfInBounds_toArray, List.set_cons_zero, List.set_cons_succ]
    refine anyU_val Later.pre 3 [4, 5, 6, 8] rfl (by rfl) (by rfl) (by kernel_rfl) (by kernel_rfl) (by kernel_rfl) (by kernel_rfl) (by kernel_rfl) (fun _ _ _ _ h => by cases h.1) (by rfl) ?_; apply Exists.intro; refine ⟨fun v1 hv1 => ?_, ?_⟩; (· (go_simp; rfl)); simp only [Act.put, List.setIfInBounds_toArray, List.set_cons_zero, List.set_cons_succ]
    refine anyU_val Later.pre 4 [5, 6, 8] rfl (by rfl) (by rfl) (by kernel_rfl) (by kernel_rfl) (by kernel_rfl) (by kernel_rfl) (by kernel_rfl) (fun _ _ _ _ h => by cases h.1) (by rfl) ?_; apply Exists.intro; refine ⟨fun v1 hv1 => ?_, ?_⟩; (· (go_simp; rfl)); simp only [Act.put, List.setIfInBounds_toArray, List.set_cons_zero, List.set_cons_succ]
    clear qC qM
    refine anyU_two 5 7 rfl rfl (by kernel_rfl) (by rfl) (by rfl) ?ca ?al
    case ca =>
      refine wp_enter 59 #[.agg #[.string c.host, .string c.is, .int .u16 c.port, .int .u16 c.np, mv], sb] (by go_simp) ?_
      refine (body_any c mv sb zb Wd (hT.later LWd) (hM.later LWd) hc ((show RdP2 w.heap.size w mv c.media from hgc ▸ hI).later LWd) ((show Rd w.heap.size w sb zb from hgc ▸ hB).later LWd) hz).mono ?_
      rintro e W1 ⟨l1, v, rfl, hrow⟩
      rw [HNB.out] at hrow
      obtain ⟨va, vc, rfl⟩ := owns_form hrow
      refine ⟨Rj_out (by rfl) l1, ?_⟩
      simp only [Act.put, List.setIfInBounds_toArray, List.set_cons_zero, List.set_cons_succ]
      refine anyU_val Later.pre 6 [8] rfl (by rfl) (by rfl) (by kernel_rfl) (by kernel_rfl) (by kernel_rfl) (by kernel_rfl) (by kernel_rfl) (fun _ _ _ _ h => by cases h.1) (by rfl) ?_; apply Exists.intro; refine ⟨fun v1 hv1 => ?_, ?_⟩; (· (go_simp; rfl)); simp only [Act.put, List.setIfInBounds_toArray, List.set_cons_zero, List.set_cons_succ]
      refine anyU_one 7 rfl (by kernel_rfl) (by rfl) ?_
      have la := later_allocR W1 (.cells #[.string ⟨#[]⟩, .slice none 0 0, .slice none 0 0] 25)
      have HA := heap_alloc_new W1 (.cells #[.string ⟨#[]⟩, .slice none 0 0, .slice none 0 0] 25)
      unfold Oper.wp
      go_simp
      refine ⟨Rj_out (by rfl) la, ?_⟩
      have hsg : w4.heap.size ≤ W1.heap.size := (ld.trans l1).size
      have LL := ld.trans (l1.trans la)
      change wpAnyU _ _ _ _ _ _ _ _ _ _ (W1.alloc (.cells #[.string ⟨#[]⟩, .slice none 0 0, .slice none 0 0] 25))
      generalize W1.alloc (.cells #[.string ⟨#[]⟩, .slice none 0 0, .slice none 0 0] 25) = W5 at *
      generalize W1.heap.size = gn at *
      have hrow5 := ownsS_ct hrow (CTs.of la)
      have kA := block_cell HA; have fA := block_frozen HA; refine anyU_one 8 rfl (by kernel_rfl) (by rfl) ?_; unfold Oper.wp; go_simp; refine ⟨Rj_in (by rfl) trivial, ?_⟩; clear kA fA; generalize hV : (((W5.setCell ⟨gn, 0, none⟩ _).setCell ⟨gn, 1, none⟩ _).setCell ⟨gn, 2, none⟩ _) = V8; have hV9 : V8 = putRow W5 gn 0 [.string st, .slice none 0 0, .slice va nb.size vc] := hV.symm; have hb8 : But (fun b => b = gn) W5 V8 := (by rw [hV9]; exact putRow_but (E := fun b => b = gn) (n := gn) rfl _ _ _ _ (But.refl _ _)); have p8 := putRow_all [.string st, .slice none 0 0, .slice va nb.size vc] HA rfl; rw [← hV9] at p8; clear hV hV9; refine anyU_done (by kernel_rfl) ?_; refine ⟨rfl, gn, .slice va nb.size vc, rfl, Below.trans LL (hb8.below LL.size (fun k h e => by omega)), hsg, p8, ?_⟩; refine own_but hrow5 hb8 HA (by decide) (by first | exact ld.size | exact (ld.trans la).size)
    case al =>
      have la := later_allocR Wd (.cells #[.string ⟨#[]⟩, .slice none 0 0, .slice none 0 0] 25)
      have HA0 := heap_alloc_new Wd (.cells #[.string ⟨#[]⟩, .slice none 0 0, .slice none 0 0] 25)
      unfold Oper.wp
      go_simp
      refine ⟨Rj_out (by rfl) la, ?_⟩
      have hsg : w4.heap.size ≤ Wd.heap.size := ld.size
      change wpAnyU _ _ _ _ _ _ _ _ _ _ (Wd.alloc (.cells #[.string ⟨#[]⟩, .slice none 0 0, .slice none 0 0] 25))
      generalize Wd.alloc (.cells #[.string ⟨#[]⟩, .slice none 0 0, .slice none 0 0] 25) = W3 at *
      generalize hgn : Wd.heap.size = gn at *
      have LW3 : Later w W3 := LWd.trans la
      refine anyU_one 5 rfl (by kernel_rfl) (by rfl) ?_
      refine wp_enter 59 #[.agg #[.string c.host, .string c.is, .int .u16 c.port, .int .u16 c.np, mv], sb] (by go_simp) ?_
      refine (body_any c mv sb zb W3 (hT.later LW3) (hM.later LW3) hc ((show RdP2 w.heap.size w mv c.media from hgc ▸ hI).later LW3) ((show Rd w.heap.size w sb zb from hgc ▸ hB).later LW3) hz).mono ?_
      rintro e W5 ⟨l1, v, rfl, hrow5⟩
      rw [HNB.out] at hrow5
      obtain ⟨va, vc, rfl⟩ := owns_form hrow5
      refine ⟨Rj_out (by rfl) l1, ?_⟩
      simp only [Act.put, List.setIfInBounds_toArray, List.set_cons_zero, List.set_cons_succ]
      refine anyU_val Later.pre 6 [8] rfl (by rfl) (by rfl) (by kernel_rfl) (by kernel_rfl) (by kernel_rfl) (by kernel_rfl) (by kernel_rfl) (fun _ _ _ _ h => by cases h.1) (by rfl) ?_; apply Exists.intro; refine ⟨fun v1 hv1 => ?_, ?_⟩; (· (go_simp; rfl)); simp only [Act.put, List.setIfInBounds_toArray, List.set_cons_zero, List.set_cons_succ]
      have HA := later_keep l1 HA0
      have LL := ld.trans (la.trans l1)
      have kA := block_cell HA; have fA := block_frozen HA; refine anyU_one 8 rfl (by kernel_rfl) (by rfl) ?_; unfold Oper.wp; go_simp; refine ⟨Rj_in (by rfl) trivial, ?_⟩; clear kA fA; generalize hV : (((W5.setCell ⟨gn, 0, none⟩ _).setCell ⟨gn, 1, none⟩ _).setCell ⟨gn, 2, none⟩ _) = V8; have hV9 : V8 = putRow W5 gn 0 [.string st, .slice none 0 0, .slice va nb.size vc] := hV.symm; have hb8 : But (fun b => b = gn) W5 V8 := (by rw [hV9]; exact putRow_but (E := fun b => b = gn) (n := gn) rfl _ _ _ _ (But.refl _ _)); have p8 := putRow_all [.string st, .slice none 0 0, .slice va nb.size vc] HA rfl; rw [← hV9] at p8; clear hV hV9; refine anyU_done (by kernel_rfl) ?_; refine ⟨rfl, gn, .slice va nb.size vc, rfl, Below.trans LL (hb8.below LL.size (fun k h e => by omega)), hsg, p8, ?_⟩; refine own_but hrow5 hb8 HA (by decide) (by first | exact ld.size | exact (ld.trans la).size)
  case rest =>
    rintro e a' W ⟨rfl, gn, vb, rfl, lW, hN⟩
    obtain ⟨hgn, hN1, hN2⟩ := hN
    have D0 := hide (later_keep lW C0.out)
    have D1 := hide (later_keep lW C1.out)
    have D2 := hide (later_keep lW C2.out)
    have LW : Later w W := Later.trans hb4 lW
    obtain ⟨va, vc, rfl⟩ := owns_form hN2
    have HN1 := hide hN1
    have HN2 := hide (owns_mono (base' := gc) hN2 (by omega))
    have LWg : Below gc w W := hgc ▸ LW
    have HH := hide (hH.below LWg)
    have hgn3 : gc + 3 ≤ gn := by omega
    clear hN1 hN2 C0 C1 C2 hgn
    dsimp only
    have k1 := block_cell D1.out
    generalize hnh : mgH c nb.size hs = mh at *
    go_upto_region 3 with fail
    clear k1
    go_loopw [18] (fun iv wr => ∃ (k : Nat) (vh : Value), k ≤ hs.length ∧ iv = .int .i64 (k : Int) ∧ Below gc W wr ∧ Hid (wr.heap[gc]? = some (.cells #[.string c.host, .string c.is, .int .u16 c.port, .int .u16 c.np, mv] 94 (0, 0))) ∧ Hid (wr.heap[gc + 1 + 1]? = some (.cells #[.string ⟨#[]⟩, .slice none 0 0, .slice none 0 0] 25 (0, 0))) ∧ Hid (wr.heap[gn]? = some (.cells #[.string st, vh, .slice va nb.size vc] 25 (0, 0))) ∧ Hid (wr.ownsRow gc 5 1 (.slice va nb.size vc) nb.size (nvs nb)) ∧ Hid (wr.ownsRow gc 53 2 vh k (hrs (mgH c nb.size (hs.take k))))) (fun iv _ => hs.length - (intOf iv).toNat)
    case atStart => exact ⟨0, .slice none 0 0, by omega, rfl, Below.refl _ _, D0, D2, HN1, HN2, rfl, .inl ⟨rfl, rfl⟩⟩
    case round =>
      obtain ⟨k, vh, hk, rfl, hbr, E0, E2, EN, EB, EH⟩ := hrel
      have LWr : Later w wr := by show Below w.heap.size w wr; rw [hgc]; exact LWg.trans hbr
      obtain ⟨ha, hcp, rfl⟩ := owns_form EH.out
      by_cases hlt : k < hs.length
      · have hlt' : (k : Int) < (hs.length : Int) := by omega
        obtain ⟨b, off, cp, e, _, _, hbn, hcs⟩ := ((HH.out).below hbr).cells (by omega)
        cases e
        have d0 := hcs k hlt 0 (by omega)
        have d1 := hcs k hlt 1 (by omega)
        have hsz := hhs hs[k] (List.getElem_mem hlt)
        have HTK := hide (mgH_take c nb.size hs k hlt)
        clear hcs
        generalize hs[k] = hk at *
        obtain ⟨n1, n2⟩ := hk
        simp only [hrc, List.getElem?_cons_zero, List.getElem?_cons_succ, Nat.add_zero] at d0 d1 HTK
        simp only at hsz
        have la := later_allocR wr (.cells #[.string n1, .string n2] 53)
        have HA := hide (heap_alloc_new wr (.cells #[.string n1, .string n2] 53))
        go_upto_region 5 with fail
        clear d0 d1
        generalize wr.alloc _ = wq at *
        generalize hgh : wr.heap.size = gh at *
        have hgcr : gc ≤ gh := by rw [← hgh, ← hgc]; exact LWr.size
        refine wp_calmS ?_
        refine anyU_begin (R1 := Later) (R2 := fun _ _ => True) (D := [12, 14]) 15 rfl (by kernel_rfl) ?_
        have ld : Later wq wq.drew := Later.drew wq
        generalize wq.drew = Wd at *
        have lq := la.trans ld
        have LWd : Later w Wd := LWr.trans lq
        have qC : ∀ v1, Later Wd v1 → ∀ j, v1.cell? ⟨gc, j, none⟩ = #[.string c.host, .string c.is, .int .u16 c.port, .int .u16 c.np, mv][j]? := fun v1 hv => block_cell (later_keep (lq.trans hv) E0.out)
        have qN : ∀ v1, Later Wd v1 → ∀ j, v1.cell? ⟨gn, j, none⟩ = #[.string st, .slice ha k hcp, .slice va nb.size vc][j]? := fun v1 hv => block_cell (later_keep (lq.trans hv) EN.out)
        have qH : ∀ v1, Later Wd v1 → ∀ j, v1.cell? ⟨gh, j, none⟩ = #[.string n1, .string n2][j]? := fun v1 hv => block_cell (later_keep (ld.trans hv) HA.out)
        refine anyU_val Later.pre 0 [1, 12, 14] rfl (by rfl) (by rfl) (by kernel_rfl) (by kernel_rfl) (by kernel_rfl) (by kernel_rfl) (by kernel_rfl) (fun _ _ _ _ h => by cases h.1) (by rfl) ?_; apply Exists.intro; refine ⟨fun v1 hv1 => ?_, ?_⟩; (· (go_simp; rfl)); simp only [Act.put, List.setIfInBounds_toArray, List.set_cons_zero, List.set_cons_succ]
        refine anyU_val Later.pre 1 [12, 14] rfl (by rfl) (by rfl) (by kernel_rfl) (by kernel_rfl) (by kernel_rfl) (by kernel_rfl) (by kernel_rfl) (fun _ _ _ _ h => by cases h.1) (by rfl) ?_; apply Exists.intro; refine ⟨fun v1 hv1 => ?_, ?_⟩; (· (go_simp; rfl)); simp only [Act.put, List.setIfInBounds_toArray, List.set_cons_zero, List.set_cons_succ]
        refine anyU_val Later.pre 2 [3, 10, 11, 12, 14] rfl (by rfl) (by rfl) (by kernel_rfl) (by kernel_rfl) (by kernel_rfl) (by kernel_rfl) (by kernel_rfl) (fun _ _ _ _ h => by cases h.1) (by rfl) ?_; apply Exists.intro; refine ⟨fun v1 hv1 => ?_, ?_⟩; (· (go_simp; rfl)); simp only [Act.put, List.setIfInBounds_toArray, List.set_cons_zero, List.set_cons_succ]
        refine anyU_val Later.pre 3 [10, 11, 12, 14] rfl (by rfl) (by rfl) (by kernel_rfl) (by kernel_rfl) (by kernel_rfl) (by kernel_rfl) (by kernel_rfl) (fun _ _ _ _ h => by cases h.1) (by rfl) ?_; apply Exists.intro; refine ⟨fun v1 hv1 => ?_, ?_⟩; (· (go_simp; rfl)); simp only [Act.put, List.setIfInBounds_toArray, List.set_cons_zero, List.set_cons_succ]
        refine anyU_val Later.pre 4 [9, 10, 11, 12, 14] rfl (by rfl) (by rfl) (by kernel_rfl) (by kernel_rfl) (by kernel_rfl) (by kernel_rfl) (by kernel_rfl) (fun _ _ _ _ h => by cases h.1) (by rfl) ?_; apply Exists.intro; refine ⟨fun v1 hv1 => ?_, ?_⟩; (· (go_simp; rfl)); simp only [Act.put, List.setIfInBounds_toArray, List.set_cons_zero, List.set_cons_succ]
        refine anyU_val Later.pre 5 [9, 10, 11, 12, 14] rfl (by rfl) (by rfl) (by kernel_rfl) (by kernel_rfl) (by kernel_rfl) (by kernel_rfl) (by kernel_rfl) (fun _ _ _ _ h => by cases h.1) (by rfl) ?_; apply Exists.intro; refine ⟨fun v1 hv1 => ?_, ?_⟩; (· (go_simp; rfl)); simp only [Act.put, List.setIfInBounds_toArray, List.set_cons_zero, List.set_cons_succ]
        refine anyU_val Later.pre 6 [7, 8, 9, 10, 11, 12, 14] rfl (by rfl) (by rfl) (by kernel_rfl) (by kernel_rfl) (by kernel_rfl) (by kernel_rfl) (by kernel_rfl) (fun _ _ _ _ h => by cases h.1) (by rfl) ?_; apply Exists.intro; refine ⟨fun v1 hv1 => ?_, ?_⟩; (· (go_simp; rfl)); simp only [Act.put, List.setIfInBounds_toArray, List.set_cons_zero, List.set_cons_succ]
        refine anyU_val Later.pre 7 [8, 9, 10, 11, 12, 14] rfl (by rfl) (by rfl) (by kernel_rfl) (by kernel_rfl) (by kernel_rfl) (by kernel_rfl) (by kernel_rfl) (fun _ _ _ _ h => by cases h.1) (by rfl) ?_; apply Exists.intro; refine ⟨fun v1 hv1 => ?_, ?_⟩; (· (go_simp; rfl)); simp only [Act.put, List.setIfInBounds_toArray, List.set_cons_zero, List.set_cons_succ]
        refine anyU_val Later.pre 8 [9, 10, 11, 12, 14] rfl (by rfl) (by rfl) (by kernel_rfl) (by kernel_rfl) (by kernel_rfl) (by kernel_rfl) (by kernel_rfl) (fun _ _ _ _ h => by cases h.1) (by rfl) ?_; apply Exists.intro; refine ⟨fun v1 hv1 => ?_, ?_⟩; (· (go_simp; rfl)); simp only [Act.put, List.setIfInBounds_toArray, List.set_cons_zero, List.set_cons_succ]
        clear qC qN qH
        refine anyU_one 9 rfl (by kernel_rfl) (by rfl) ?_
        refine wp_enter 60 #[.agg #[.string c.host, .string c.is, .int .u16 c.port, .int .u16 c.np, mv], .agg #[.string n1, .string n2], .int .i64 (nb.size : Int)] (by go_simp) ?_
        refine (value_any c mv n1 n2 nb.size Wd (hT.later LWd) (hM.later LWd) hc (by omega) (by omega) (by omega)).mono ?_
        rintro e W1 ⟨rfl, l1⟩
        generalize vuB c nb.size (n1, n2) = nv at *
        refine ⟨Rj_out (by rfl) l1, ?_⟩
        simp only [Act.put, List.setIfInBounds_toArray, List.set_cons_zero, List.set_cons_succ]
        refine anyU_val Later.pre 10 [11, 12, 14] rfl (by rfl) (by rfl) (by kernel_rfl) (by kernel_rfl) (by kernel_rfl) (by kernel_rfl) (by kernel_rfl) (fun _ _ _ _ h => by cases h.1) (by rfl) ?_; apply Exists.intro; refine ⟨fun v1 hv1 => ?_, ?_⟩; (· (go_simp; rfl)); simp only [Act.put, List.setIfInBounds_toArray, List.set_cons_zero, List.set_cons_succ]
        refine anyU_one 11 rfl (by kernel_rfl) (by rfl) ?_
        have l2 := later_allocR W1 (.cells #[.string n1, .string nv] 53)
        have HNW := hide (heap_alloc_new W1 (.cells #[.string n1, .string nv] 53))
        unfold Oper.wp
        go_simp
        refine ⟨Rj_out (by rfl) l2, ?_⟩
        change wpAnyU _ _ _ _ _ _ _ _ _ _ (W1.alloc (.cells #[.string n1, .string nv] 53))
        generalize W1.alloc (.cells #[.string n1, .string nv] 53) = W5 at *
        generalize W1.heap.size = gw at *
        have LL := lq.trans (l1.trans l2)
        have EH5 := ownsS_ct EH.out (CTs.of LL)
        have EB5 := ownsS_ct EB.out (CTs.of LL)
        have EN5 := later_keep LL EN.out
        have E05 := later_keep LL E0.out
        have E25 := later_keep LL E2.out
        have hnk := block_cell HNW.out
        obtain ⟨i0, hi0, hz0, hz1, hz2⟩ := info_partsS info_hdr
        have hgc5 : gc ≤ W5.heap.size := by have := LL.size; omega
        obtain ⟨v', W2, hrun, hrow, hg, _⟩ := run_append_own (P := Tryd.prog) W5 gc 23 23 53 i0 (.agg #[.string ⟨#[]⟩, .string ⟨#[]⟩]) 2 32 Tryd.underlying23 hi0 hz0 hz1 hz2 rfl (by decide) (.slice ha k hcp) k (hrs (mgH c nb.size (hs.take k))) EH5 ⟨gw, 0, none⟩ 1 1 [.string n1, .string nv] rfl
          (fun j u hj => by
            rw [show (⟨gw, 0, none⟩ : Addr).add j = ⟨gw, 0 + j, none⟩ from by unfold Addr.add; split <;> simp_all]
            rw [Nat.zero_add, hnk j, ← hj]; simp)
          (by intro u hu; simp at hu; rcases hu with rfl | rfl <;> rfl) (by unfold maxLen; omega) (by omega) hgc5
        clear hnk
        refine anyU_one 12 rfl (by kernel_rfl) (by rfl) ?_
        refine wp_app (.tmp 23) (.tmp 33) 23 rfl _ _ rfl rfl v' W2 hrun ?_
        refine ⟨Rj_in (by rfl) trivial, ?_⟩
        simp only [Act.put, List.setIfInBounds_toArray, List.set_cons_zero, List.set_cons_succ]
        obtain ⟨a2, cp2, rfl⟩ := owns_form hrow
        have EN2 := keep_row EH5 hg EN5 (.inl fun cur f e => by cases e)
        have E02 := keep_row EH5 hg E05 (.inl fun cur f e => by cases e)
        have E22 := keep_row EH5 hg E25 (.inl fun cur f e => by cases e)
        have EB2 := keep_own EH5 hg (by decide) EB5
        refine anyU_one 13 rfl (by kernel_rfl) (by rfl) ?_
        refine wp_value (w' := W2) (.pointer (some ⟨gn, 1, none⟩)) (by go_simp) ?_
        refine ⟨Rj_out (by rfl) (Later.refl _), ?_⟩
        simp only [Act.put, List.setIfInBounds_toArray, List.set_cons_zero, List.set_cons_succ]
        have k2 := block_cell EN2
        have f2 := block_frozen EN2
        refine anyU_one 14 rfl (by kernel_rfl) (by rfl) ?_
        unfold Oper.wp
        go_simp
        refine ⟨Rj_in (by rfl) trivial, ?_⟩
        clear k2 f2
        refine anyU_done (by kernel_rfl) ?_
        refine ⟨rfl, ?_⟩
        have EN8 := heap_set1 EN2 1 (.slice a2 (k + 1) cp2)
        have E08 := hsetS_ne (j := 1) (v := .slice a2 (k + 1) cp2) E02 (m := gn) (by intro e; rw [← e] at EN2; rw [E02] at EN2; cases EN2)
        have E28 := hsetS_ne (j := 1) (v := .slice a2 (k + 1) cp2) E22 (m := gn) (by omega)
        have EB8 := own_set EB2 EN2 (by decide) 1 (.slice a2 (k + 1) cp2)
        have EH8 := own_set hrow EN2 (by decide) 1 (.slice a2 (k + 1) cp2)
        have B8 : Below gc wr (W2.setCell ⟨gn, 1, none⟩ (.slice a2 (k + 1) cp2)) := ⟨hg.os.trans LL.os, hg.tape.trans LL.tape, hg.output.trans LL.output, by have := LL.size; have := hg.size; simp; omega, fun i hi => by
          cases hh : wr.heap[i]? with
          | none => have := Array.getElem?_eq_none_iff.1 hh; omega
          | some o => exact hsetS_ne (keep_row EH5 hg (later_keep LL hh) (.inr hi)) (by omega)⟩
        have EH9 : (W2.setCell ⟨gn, 1, none⟩ (.slice a2 (k + 1) cp2)).ownsRow gc 53 2 (.slice a2 (k + 1) cp2) (k + 1) (hrs (mgH c nb.size (hs.take (k + 1)))) := by
          rw [HTK.out, hrs_snoc]
          exact EH8
        have HE8 := hide E08; have HF8 := hide E28; have HG8 := hide EN8; have HB8 := hide EB8; have HH9 := hide EH9; have HBL := hide (hbr.trans B8)
        clear E08 E28 EN8 EB8 EH9 EH8 B8 hrow EB2 E22 E02 EN2 hg hrun E25 E05 EN5 EB5 EH5
        generalize W2.setCell ⟨gn, 1, none⟩ (.slice a2 (k + 1) cp2) = V8 at *
        go_wp2_with fail
        go_roundw
        case rel => exact ⟨k + 1, .slice a2 (k + 1) cp2, by omega, by go_num, HBL.out, HE8, HF8, HG8, HB8, HH9⟩
        case measure => simp [intOf]; omega
      · have hnl : ¬ (k : Int) < (hs.length : Int) := by omega
        have hkk : k = hs.length := by omega
        have HH9 : Hid (wr.ownsRow gc 53 2 (.slice ha k hcp) hs.length (hrs mh)) := by
          have := EH.out
          rw [hkk, List.take_length, hnh] at this
          rw [hkk]
          exact this
        clear hkk
        have k2 := block_cell EN.out
        have k4 := block_cell E2.out
        have f4 := block_frozen E2.out
        go_wp2_with fail
        generalize hV : (((wr.setCell ⟨gc + 1 + 1, 0, none⟩ _).setCell ⟨gc + 1 + 1, 1, none⟩ _).setCell ⟨gc + 1 + 1, 2, none⟩ _) = V8
        have hV9 : V8 = putRow wr (gc + 1 + 1) 0 [.string st, .slice ha k hcp, .slice va nb.size vc] := hV.symm
        have hb8 : But (fun b => b = gc + 1 + 1) wr V8 := by rw [hV9]; exact putRow_but (E := fun b => b = gc + 1 + 1) (n := gc + 1 + 1) rfl _ _ _ _ (But.refl _ _)
        have p8 := putRow_all [.string st, .slice ha k hcp, .slice va nb.size vc] E2.out rfl
        rw [← hV9] at p8
        clear hV hV9
        have P8 := block_cell p8
        have hw8 : Later w V8 := Below.trans LWr (hb8.below LWr.size (fun k h e => by omega))
        exact bodyPost_ret (v := .agg #[.string st, .slice ha k hcp, .slice va nb.size vc]) (by simp [results, Tryd.results38, go_sem, P8]) rfl ⟨hw8, _, _, rfl, own_but HH9.out hb8 E2.out (by decide) (Nat.le_refl _), own_but EB.out hb8 E2.out (by decide) (Nat.le_refl _)⟩
end Go.Proofs.YtehdgndbloaljaaDoor
