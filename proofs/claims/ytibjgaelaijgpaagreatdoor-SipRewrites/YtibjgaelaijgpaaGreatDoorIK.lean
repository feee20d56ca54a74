/- Package sip: a line of a body that names a port. -/
import Derived.Test.YtibjgaelaijgpaaGreatDoorIJ
import Derived.Deep.Cut
namespace Go.Proofs.YtibjgaelaijgpaaGreatDoor
open Go.RowKit Go.Shelf
set_option maxRecDepth 100000
set_option linter.unusedVariables false
set_option linter.unusedSimpArgs false

def spB : ByteArray := ⟨#[32]⟩
def meB : ByteArray := ⟨#[109, 61]⟩
/-- A text without what it begins with. -/
def tpB (s p : ByteArray) : ByteArray := ⟨(Lib.trimPrefix s.data.toList p.data.toList).toArray⟩
def hpB (s p : ByteArray) : Bool := Lib.hasPrefix s.data.toList p.data.toList
/-- A line that names a port: what is ahead, the port, what is behind. -/
def mdO (l : ByteArray) : Option (ByteArray × Int × ByteArray) :=
  if hpB (cutA l spB) meB = false then none else if cutF (cutZ l spB) spB = false then none else
  match prV (cutA (cutZ l spB) spB) with
  | none => none
  | some p => if allN ltC (tpB (cutA l spB) meB) = false then none else some (cutA l spB ++ spB, p, (cutZ l spB).extract (cutA (cutZ l spB) spB).size (cutZ l spB).size)
def mdV : Option (ByteArray × Int × ByteArray) → Value
  | none => .tuple #[.agg #[.string ⟨#[]⟩, .int .u16 0, .string ⟨#[]⟩], .bool false]
  | some (a, p, b) => .tuple #[.agg #[.string a, .int .u16 p, .string b], .bool true]

set_option maxHeartbeats 4000000 in
theorem mediumOf_any (l : ByteArray) (w : World) (hM : TabM w) (hs : l.size ≤ 1000000) :
    Calls Tryz.prog 68 #[.string l] w fun e w' => e = .returned (mdV (mdO l)) ∧ Later w w' := by
  have HV : Hid (mdO l = if hpB (cutA l spB) meB = false then none else if cutF (cutZ l spB) spB = false then none else
    match prV (cutA (cutZ l spB) spB) with
    | none => none
    | some p => if allN ltC (tpB (cutA l spB) meB) = false then none else some (cutA l spB ++ spB, p, (cutZ l spB).extract (cutA (cutZ l spB) spB).size (cutZ l spB).size)) := rfl
  generalize mdO l = r at *
  have HC := hide (fun W (h : TabM W) => cut_any l spB W h (by omega))
  obtain ⟨hz1, hz2⟩ := cut_size l spB
  generalize cutA l spB = fi at *
  generalize cutZ l spB = re at *
  generalize cutF l spB = cf at *
  have HD := hide (fun W (h : TabM W) => cut_any re spB W h (by omega))
  obtain ⟨hz3, hz4⟩ := cut_size re spB
  generalize cutA re spB = dg at *
  generalize cutZ re spB = dz at *
  generalize cutF re spB = df at *
  have HP := hide (fun W => Any.strings_CutPrefix cutpL fi meB W)
  have HQ : Hid (∀ W, Calls Tryz.prog 81 #[.string fi, .string meB] W fun e w' => e = .returned (.tuple #[.string (tpB fi meB), .bool (hpB fi meB)]) ∧ w' = W) := fun W => HP.out W
  clear HP
  generalize tpB fi meB = ki at *
  generalize hpB fi meB = kb at *
  have HW := hide (fun W => wport2_any dg W)
  generalize prV dg = nv at *
  have la := later_allocR w (.cells #[.string ⟨#[]⟩, .int .u16 0, .string ⟨#[]⟩] 114)
  have CA := hide (heap_alloc_new w (.cells #[.string ⟨#[]⟩, .int .u16 0, .string ⟨#[]⟩] 114))
  go_enter Tryz.func68, Tryz.ntmps68
  go_upto_region 1 with fail
  generalize w.alloc _ = w0 at *
  generalize hg : w.heap.size = g at *
  go_wp2_with fail
  refine (HC.out w0 (hM.later la)).mono ?_
  rintro e w1 ⟨rfl, l1⟩
  go_wp2_with fail
  refine (HD.out w1 (hM.later (Later.trans la l1))).mono ?_
  rintro e w2 ⟨rfl, l2⟩
  go_wp2_with fail
  refine (HQ.out w2).mono ?_
  rintro e w2b ⟨rfl, hw⟩
  subst hw
  go_wp2_with fail
  refine (HW.out w2b).mono ?_
  rintro e w3 ⟨rfl, l3⟩
  have L3 := l1.trans (l2.trans l3)
  have C3 := hide (later_keep L3 CA.out)
  clear l1 l2 l3 CA HC HD HQ HW
  have LA : Later w w3 := Later.trans la L3
  cases kb with
  | false =>
    have CA := block_cell C3.out; have FA := block_frozen C3.out; go_wp2_with fail; generalize hV : (((w3.setCell ⟨g, 0, none⟩ _).setCell ⟨g, 1, none⟩ _).setCell ⟨g, 2, none⟩ _) = V8; have hV9 : V8 = putRow w3 g 0 [.string ⟨#[]⟩, .int .u16 0, .string ⟨#[]⟩] := hV.symm; have hb8 : But (fun b => b = g) w3 V8 := (by rw [hV9]; exact putRow_but (E := fun b => b = g) (n := g) rfl _ _ _ _ (But.refl _ _)); have p8 := putRow_all [.string ⟨#[]⟩, .int .u16 0, .string ⟨#[]⟩] C3.out rfl; rw [← hV9] at p8; clear hV hV9; have P8 := block_cell p8; have hw8 : Later w V8 := Below.trans LA (hb8.below (LA).size (fun k h e => by omega)); exact bodyPost_ret (v := .tuple #[.agg #[.string ⟨#[]⟩, .int .u16 0, .string ⟨#[]⟩], .bool false]) (by simp [results, Tryz.results68, go_sem, P8]) rfl ⟨(by rw [HV.out]; rfl), hw8⟩
  | true =>
    cases df with
    | false =>
      have CA := block_cell C3.out; have FA := block_frozen C3.out; go_wp2_with fail; generalize hV : (((w3.setCell ⟨g, 0, none⟩ _).setCell ⟨g, 1, none⟩ _).setCell ⟨g, 2, none⟩ _) = V8; have hV9 : V8 = putRow w3 g 0 [.string ⟨#[]⟩, .int .u16 0, .string ⟨#[]⟩] := hV.symm; have hb8 : But (fun b => b = g) w3 V8 := (by rw [hV9]; exact putRow_but (E := fun b => b = g) (n := g) rfl _ _ _ _ (But.refl _ _)); have p8 := putRow_all [.string ⟨#[]⟩, .int .u16 0, .string ⟨#[]⟩] C3.out rfl; rw [← hV9] at p8; clear hV hV9; have P8 := block_cell p8; have hw8 : Later w V8 := Below.trans LA (hb8.below (LA).size (fun k h e => by omega)); exact bodyPost_ret (v := .tuple #[.agg #[.string ⟨#[]⟩, .int .u16 0, .string ⟨#[]⟩], .bool false]) (by simp [results, Tryz.results68, go_sem, P8]) rfl ⟨(by rw [HV.out]; rfl), hw8⟩
    | true =>
      cases nv with
      | none =>
        have CA := block_cell C3.out; have FA := block_frozen C3.out; go_wp2_with fail; generalize hV : (((w3.setCell ⟨g, 0, none⟩ _).setCell ⟨g, 1, none⟩ _).setCell ⟨g, 2, none⟩ _) = V8; have hV9 : V8 = putRow w3 g 0 [.string ⟨#[]⟩, .int .u16 0, .string ⟨#[]⟩] := hV.symm; have hb8 : But (fun b => b = g) w3 V8 := (by rw [hV9]; exact putRow_but (E := fun b => b = g) (n := g) rfl _ _ _ _ (But.refl _ _)); have p8 := putRow_all [.string ⟨#[]⟩, .int .u16 0, .string ⟨#[]⟩] C3.out rfl; rw [← hV9] at p8; clear hV hV9; have P8 := block_cell p8; have hw8 : Later w V8 := Below.trans LA (hb8.below (LA).size (fun k h e => by omega)); exact bodyPost_ret (v := .tuple #[.agg #[.string ⟨#[]⟩, .int .u16 0, .string ⟨#[]⟩], .bool false]) (by simp [results, Tryz.results68, go_sem, P8]) rfl ⟨(by rw [HV.out]; rfl), hw8⟩
      | some p =>
        go_wp2_with fail
        refine (letters_any ki _).mono ?_
        generalize allN ltC ki = ab at *
        rintro e w4 ⟨rfl, l4⟩
        have LB := LA.trans l4
        have C4 := hide (later_keep l4 C3.out)
        cases ab with
        | false =>
          have CA := block_cell C4.out; have FA := block_frozen C4.out; go_wp2_with fail; generalize hV : (((w4.setCell ⟨g, 0, none⟩ _).setCell ⟨g, 1, none⟩ _).setCell ⟨g, 2, none⟩ _) = V8; have hV9 : V8 = putRow w4 g 0 [.string ⟨#[]⟩, .int .u16 0, .string ⟨#[]⟩] := hV.symm; have hb8 : But (fun b => b = g) w4 V8 := (by rw [hV9]; exact putRow_but (E := fun b => b = g) (n := g) rfl _ _ _ _ (But.refl _ _)); have p8 := putRow_all [.string ⟨#[]⟩, .int .u16 0, .string ⟨#[]⟩] C4.out rfl; rw [← hV9] at p8; clear hV hV9; have P8 := block_cell p8; have hw8 : Later w V8 := Below.trans LB (hb8.below (LB).size (fun k h e => by omega)); exact bodyPost_ret (v := .tuple #[.agg #[.string ⟨#[]⟩, .int .u16 0, .string ⟨#[]⟩], .bool false]) (by simp [results, Tryz.results68, go_sem, P8]) rfl ⟨(by rw [HV.out]; rfl), hw8⟩
        | true =>
          have hsz : fi.size + spB.size ≤ 9223372036854775807 := by have : spB.size = 1 := rfl; omega
          have CA := block_cell C4.out; have FA := block_frozen C4.out; go_wp2_with fail; generalize hV : (((w4.setCell ⟨g, 0, none⟩ _).setCell ⟨g, 1, none⟩ _).setCell ⟨g, 2, none⟩ _) = V8; have hV9 : V8 = putRow w4 g 0 [.string <| fi ++ ⟨#[32]⟩, .int .u16 p, .string <| re.extract dg.size re.size] := hV.symm; have hb8 : But (fun b => b = g) w4 V8 := (by rw [hV9]; exact putRow_but (E := fun b => b = g) (n := g) rfl _ _ _ _ (But.refl _ _)); have p8 := putRow_all [.string <| fi ++ ⟨#[32]⟩, .int .u16 p, .string <| re.extract dg.size re.size] C4.out rfl; rw [← hV9] at p8; clear hV hV9; have P8 := block_cell p8; have hw8 : Later w V8 := Below.trans LB (hb8.below (LB).size (fun k h e => by omega)); exact bodyPost_ret (v := .tuple #[.agg #[.string <| fi ++ ⟨#[32]⟩, .int .u16 p, .string <| re.extract dg.size re.size], .bool true]) (by simp [results, Tryz.results68, go_sem, P8]) rfl ⟨(by rw [HV.out]; rfl), hw8⟩
end Go.Proofs.YtibjgaelaijgpaaGreatDoor
