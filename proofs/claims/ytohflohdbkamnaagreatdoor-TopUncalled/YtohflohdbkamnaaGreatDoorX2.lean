/- Several texts in one. -/
import Derived.Test.YtohflohdbkamnaaGreatDoorX10
import Derived.Test.YtohflohdbkamnaaGreatDoorHd
import Derived.Test.YtohflohdbkamnaaGreatDoorX3
import Derived.Laws.Cover3
import Derived.MapKept
import Derived.Test.YtohflohdbkamnaaGreatDoorW1
import Derived.Test.YtohflohdbkamnaaGreatDoorRg
import Derived.Deep.DeepCutAuto
import Derived.Deep.CutBlock
import Derived.Test.YtohflohdbkamnaaGreatDoorX9
import Derived.Test.YtohflohdbkamnaaGreatDoorX8
import Derived.Test.YtohflohdbkamnaaGreatDoorX7
import Derived.Test.YtohflohdbkamnaaGreatDoorX4
import Derived.Test.YtohflohdbkamnaaGreatDoorX5
import Derived.OrdersIn
import Derived.RangeFuncCalls
import Derived.Test.YtohflohdbkamnaaGreatDoorX11
/- What read tells of a header that was built: the mathematics. -/
namespace Go.Proofs.YtohflohdbkamnaaGreatDoor
open Go.RowKit Go.Shelf
set_option maxRecDepth 100000
set_option linter.unusedVariables false
set_option linter.unusedSimpArgs false

set_option maxHeartbeats 1000000 in
theorem parse_any (sv : Value) (zs : List Int) (w : World) (hB : Mt.By zs) (hl : zs.length ≤ 225000000000000) (hI : Rd w.heap.size w sv zs) :
    Calls Tryz.prog 43 #[sv] w fun e w' => Below w.heap.size w w' ∧
      ((rde false zs ≠ 0 ∧ e = .returned (.tuple #[.agg zc.toArray, .int .i64 (rde false zs)])) ∨
       (rde false zs = 0 ∧ ∃ so sd, e = .returned (.tuple #[pkt zs so sd, .int .i64 0]) ∧ Ow w.heap.size w' so ((zs.take (hl4 zs).toNat).drop 20) ∧ Ow w.heap.size w' sd ((zs.take (ral false zs).toNat).drop (hl4 zs).toNat))) := by
  obtain ⟨a, cap, rfl, hl1, hm1⟩ := hI.slice
  have hb1 : Below w.heap.size w (w.alloc (.cells zc.toArray 78)) := (Below.refl _ _).alloc (Nat.le_refl _) _
  have p1 := heap_alloc_new w (.cells zc.toArray 78)
  have H := hide (read_any false _ zs (w.alloc (.cells zc.toArray 78)) hB hl ((hI.below hb1).mono (by simp)))
  go_enter Tryz.func43, Tryz.ntmps43
  go_wp2_with fail
  refine H.out.mono ?_
  rintro e w2 ⟨hb2, ⟨h, rfl⟩ | ⟨h, so, sd, rfl, hO1, hO2⟩⟩
  · have p2 := (hb2.block w.heap.size (by simp)).trans p1
    have P2 := block_cell p2
    have F2 := block_frozen p2
    go_wp2_with fail
    generalize hV : ((((((((w2.setCell ⟨w.heap.size, 0, none⟩ _).setCell ⟨w.heap.size, 1, none⟩ _).setCell ⟨w.heap.size, 2, none⟩ _).setCell ⟨w.heap.size, 3, none⟩ _).setCell ⟨w.heap.size, 4, none⟩ _).setCell ⟨w.heap.size, 5, none⟩ _).setCell ⟨w.heap.size, 6, none⟩ _).setCell ⟨w.heap.size, 7, none⟩ _).setCell ⟨w.heap.size, 8, none⟩ _ = V
    have hV9 : V = putRow w2 w.heap.size 0 zc := hV.symm
    have hb8 : But (fun b => b = w.heap.size) w2 V := by rw [hV9]; exact putRow_but (E := fun b => b = w.heap.size) (n := w.heap.size) rfl _ _ _ _ (But.refl _ _)
    have p8 := putRow_all zc p2 rfl
    rw [← hV9] at p8
    clear hV hV9 P2 F2 H
    have P8 := block_cell p8
    have hbW := (hb1.trans (hb2.mono (by simp))).trans (hb8.below (by have := hb2.size; simp at this; omega) (fun j h e => by omega))
    exact bodyPost_ret (v := .tuple #[.agg zc.toArray, .int .i64 (rde false zs)]) (by simp [results, Tryz.results43, go_sem, P8]) rfl ⟨hbW, .inl ⟨h, rfl⟩⟩
  · have p2 := (hb2.block w.heap.size (by simp)).trans p1
    have P2 := block_cell p2
    have F2 := block_frozen p2
    obtain ⟨aso, cso, rfl, _, _⟩ := hO1.slice
    obtain ⟨asd, csd, rfl, _, _⟩ := hO2.slice
    generalize hL1 : ((zs.take (hl4 zs).toNat).drop 20).length = lo at *
    generalize hL2 : ((zs.take (ral false zs).toNat).drop (hl4 zs).toNat).length = ld at *
    have HL1 := hide hL1
    have HL2 := hide hL2
    clear hL1 hL2
    unfold pkt
    go_wp2_with fail
    generalize hV : ((((((((w2.setCell ⟨w.heap.size, 0, none⟩ _).setCell ⟨w.heap.size, 1, none⟩ _).setCell ⟨w.heap.size, 2, none⟩ _).setCell ⟨w.heap.size, 3, none⟩ _).setCell ⟨w.heap.size, 4, none⟩ _).setCell ⟨w.heap.size, 5, none⟩ _).setCell ⟨w.heap.size, 6, none⟩ _).setCell ⟨w.heap.size, 7, none⟩ _).setCell ⟨w.heap.size, 8, none⟩ _ = V
    have hV9 : V = putRow w2 w.heap.size 0 [.int .u8 (zs[1]?.getD 0), .int .u16 (wat zs 4), .bool (decide (16384 ≤ wat zs 6 % 32768)), .int .u8 (zs[8]?.getD 0), .int .u8 (zs[9]?.getD 0), .int .u32 (wat4 zs 12), .int .u32 (wat4 zs 16), .slice aso lo cso, .slice asd ld csd] := hV.symm
    have hb8 : But (fun b => b = w.heap.size) w2 V := by rw [hV9]; exact putRow_but (E := fun b => b = w.heap.size) (n := w.heap.size) rfl _ _ _ _ (But.refl _ _)
    have p8 := putRow_all [.int .u8 (zs[1]?.getD 0), .int .u16 (wat zs 4), .bool (decide (16384 ≤ wat zs 6 % 32768)), .int .u8 (zs[8]?.getD 0), .int .u8 (zs[9]?.getD 0), .int .u32 (wat4 zs 12), .int .u32 (wat4 zs 16), .slice aso lo cso, .slice asd ld csd] p2 rfl
    rw [← hV9] at p8
    clear hV hV9 P2 F2 H
    have P8 := block_cell p8
    have hbW := (hb1.trans (hb2.mono (by simp))).trans (hb8.below (by have := hb2.size; simp at this; omega) (fun j h e => by omega))
    exact bodyPost_ret (v := .tuple #[pkt zs (.slice aso lo cso) (.slice asd ld csd), .int .i64 0]) (by simp [results, Tryz.results43, go_sem, P8, pkt]) rfl ⟨hbW, .inr ⟨h, _, _, rfl, (hO1.but hb8 (fun b h e => by simp at h; omega)).mono (by simp), (hO2.but hb8 (fun b h e => by simp at h; omega)).mono (by simp)⟩⟩

set_option maxHeartbeats 1000000 in
theorem quote_any (sv : Value) (zs : List Int) (w : World) (hB : Mt.By zs) (hl : zs.length ≤ 225000000000000) (hI : Rd w.heap.size w sv zs) :
    Calls Tryz.prog 179 #[sv] w fun e w' => Below w.heap.size w w' ∧
      ((rde true zs ≠ 0 ∧ e = .returned (.tuple #[.agg zc.toArray, .int .i64 (rde true zs)])) ∨
       (rde true zs = 0 ∧ ∃ so sd, e = .returned (.tuple #[pkt zs so sd, .int .i64 0]) ∧ Ow w.heap.size w' so ((zs.take (hl4 zs).toNat).drop 20) ∧ Ow w.heap.size w' sd ((zs.take (ral true zs).toNat).drop (hl4 zs).toNat))) := by
  obtain ⟨a, cap, rfl, hl1, hm1⟩ := hI.slice
  have hb1 : Below w.heap.size w (w.alloc (.cells zc.toArray 78)) := (Below.refl _ _).alloc (Nat.le_refl _) _
  have p1 := heap_alloc_new w (.cells zc.toArray 78)
  have H := hide (read_any true _ zs (w.alloc (.cells zc.toArray 78)) hB hl ((hI.below hb1).mono (by simp)))
  go_enter Tryz.func179, Tryz.ntmps179
  go_wp2_with fail
  refine H.out.mono ?_
  rintro e w2 ⟨hb2, ⟨h, rfl⟩ | ⟨h, so, sd, rfl, hO1, hO2⟩⟩
  · have p2 := (hb2.block w.heap.size (by simp)).trans p1
    have P2 := block_cell p2
    have F2 := block_frozen p2
    go_wp2_with fail
    generalize hV : ((((((((w2.setCell ⟨w.heap.size, 0, none⟩ _).setCell ⟨w.heap.size, 1, none⟩ _).setCell ⟨w.heap.size, 2, none⟩ _).setCell ⟨w.heap.size, 3, none⟩ _).setCell ⟨w.heap.size, 4, none⟩ _).setCell ⟨w.heap.size, 5, none⟩ _).setCell ⟨w.heap.size, 6, none⟩ _).setCell ⟨w.heap.size, 7, none⟩ _).setCell ⟨w.heap.size, 8, none⟩ _ = V
    have hV9 : V = putRow w2 w.heap.size 0 zc := hV.symm
    have hb8 : But (fun b => b = w.heap.size) w2 V := by rw [hV9]; exact putRow_but (E := fun b => b = w.heap.size) (n := w.heap.size) rfl _ _ _ _ (But.refl _ _)
    have p8 := putRow_all zc p2 rfl
    rw [← hV9] at p8
    clear hV hV9 P2 F2 H
    have P8 := block_cell p8
    have hbW := (hb1.trans (hb2.mono (by simp))).trans (hb8.below (by have := hb2.size; simp at this; omega) (fun j h e => by omega))
    exact bodyPost_ret (v := .tuple #[.agg zc.toArray, .int .i64 (rde true zs)]) (by simp [results, Tryz.results179, go_sem, P8]) rfl ⟨hbW, .inl ⟨h, rfl⟩⟩
  · have p2 := (hb2.block w.heap.size (by simp)).trans p1
    have P2 := block_cell p2
    have F2 := block_frozen p2
    obtain ⟨aso, cso, rfl, _, _⟩ := hO1.slice
    obtain ⟨asd, csd, rfl, _, _⟩ := hO2.slice
    generalize hL1 : ((zs.take (hl4 zs).toNat).drop 20).length = lo at *
    generalize hL2 : ((zs.take (ral true zs).toNat).drop (hl4 zs).toNat).length = ld at *
    have HL1 := hide hL1
    have HL2 := hide hL2
    clear hL1 hL2
    unfold pkt
    go_wp2_with fail
    generalize hV : ((((((((w2.setCell ⟨w.heap.size, 0, none⟩ _).setCell ⟨w.heap.size, 1, none⟩ _).setCell ⟨w.heap.size, 2, none⟩ _).setCell ⟨w.heap.size, 3, none⟩ _).setCell ⟨w.heap.size, 4, none⟩ _).setCell ⟨w.heap.size, 5, none⟩ _).setCell ⟨w.heap.size, 6, none⟩ _).setCell ⟨w.heap.size, 7, none⟩ _).setCell ⟨w.heap.size, 8, none⟩ _ = V
    have hV9 : V = putRow w2 w.heap.size 0 [.int .u8 (zs[1]?.getD 0), .int .u16 (wat zs 4), .bool (decide (16384 ≤ wat zs 6 % 32768)), .int .u8 (zs[8]?.getD 0), .int .u8 (zs[9]?.getD 0), .int .u32 (wat4 zs 12), .int .u32 (wat4 zs 16), .slice aso lo cso, .slice asd ld csd] := hV.symm
    have hb8 : But (fun b => b = w.heap.size) w2 V := by rw [hV9]; exact putRow_but (E := fun b => b = w.heap.size) (n := w.heap.size) rfl _ _ _ _ (But.refl _ _)
    have p8 := putRow_all [.int .u8 (zs[1]?.getD 0), .int .u16 (wat zs 4), .bool (decide (16384 ≤ wat zs 6 % 32768)), .int .u8 (zs[8]?.getD 0), .int .u8 (zs[9]?.getD 0), .int .u32 (wat4 zs 12), .int .u32 (wat4 zs 16), .slice aso lo cso, .slice asd ld csd] p2 rfl
    rw [← hV9] at p8
    clear hV hV9 P2 F2 H
    have P8 := block_cell p8
    have hbW := (hb1.trans (hb2.mono (by simp))).trans (hb8.below (by have := hb2.size; simp at this; omega) (fun j h e => by omega))
    exact bodyPost_ret (v := .tuple #[pkt zs (.slice aso lo cso) (.slice asd ld csd), .int .i64 0]) (by simp [results, Tryz.results179, go_sem, P8, pkt]) rfl ⟨hbW, .inr ⟨h, _, _, rfl, (hO1.but hb8 (fun b h e => by simp at h; omega)).mono (by simp), (hO2.but hb8 (fun b h e => by simp at h; omega)).mono (by simp)⟩⟩

section
variable (tos id : Int) (keep : Bool) (ttl proto src dst : Int) (zo zd : List Int) (all : Int)
end

end Go.Proofs.YtohflohdbkamnaaGreatDoor

/- Layer 5: Quoted. -/
namespace Go.Proofs.YtohflohdbkamnaaGreatDoor
open Go.RowKit Go.Shelf
set_option maxRecDepth 100000
set_option linter.unusedVariables false
set_option linter.unusedSimpArgs false

def erb (ty : Int) : Bool := ty == 3 || (ty == 11 || ty == 12)
/-- What a quoted packet's data are; its protocol. -/
def qdt (mz : List Int) : List Int := (mz.take (ral true mz).toNat).drop (hl4 mz).toNat
def qpr (mz : List Int) : Int := mz[9]?.getD 0
def qie (pr : Int) (d : List Int) : Int := if pr = 6 then 0 else if pr = 17 then 0 else if pr = 1 then (if ecb (d[0]?.getD 0) (d[1]?.getD 0) = true then 0 else 12) else if pr = 47 then (if pge 47 (d.take 8) = 4 then 4 else 0) else 12
def qia (pr : Int) (d : List Int) : Int := if pr = 6 then wat d 0 else if pr = 17 then wat d 0 else if pr = 1 then wat d 4 else 0
def qib (pr : Int) (d : List Int) : Int := if pr = 6 then wat d 2 else if pr = 17 then wat d 2 else if pr = 1 then wat d 4 else wat d 6
def que (proto : Int) (zd : List Int) : Int := if pie proto zd ≠ 0 then pie proto zd else if erb (zd[0]?.getD 0) = false then 12 else if rde true (zd.drop 8) ≠ 0 then rde true (zd.drop 8) else qie (qpr (zd.drop 8)) (qdt (zd.drop 8))

set_option maxHeartbeats 4000000 in
theorem quoted_bad (tos id ttl proto src dst : Int) (keep : Bool) (so sd : Value) (zd : List Int) (w : World) (hT : Tb w) (hB : Mt.By zd) (hI : Rd w.heap.size w sd zd) (hl : zd.length ≤ 140737488355328) (hbad : pie proto zd ≠ 0 ∨ erb (zd[0]?.getD 0) = false ∨ rde true (zd.drop 8) ≠ 0) :
    Calls Tryz.prog 128 #[.agg #[.int .u8 tos, .int .u16 id, .bool keep, .int .u8 ttl, .int .u8 proto, .int .u32 src, .int .u32 dst, so, sd]] w fun e w' => Below w.heap.size w w' ∧ e = .returned (.tuple #[.agg #[.int .u8 0, .int .u32 0, .int .u32 0, .int .u16 0, .int .u16 0], .int .i64 (que proto zd)]) := by
  obtain ⟨ad, cd, rfl, _, _⟩ := hI.slice
  have hb0 : Below w.heap.size w ((w.alloc (.cells #[.int .u8 tos, .int .u16 id, .bool keep, .int .u8 ttl, .int .u8 proto, .int .u32 src, .int .u32 dst, so, .slice ad zd.length cd] 78)).alloc (.cells #[.int .u8 0, .int .u32 0, .int .u32 0, .int .u16 0, .int .u16 0] 69)) := ((Below.refl _ _).alloc (Nat.le_refl _) _).alloc (by simp) _
  have r0 := heap_alloc_new (w.alloc (.cells #[.int .u8 tos, .int .u16 id, .bool keep, .int .u8 ttl, .int .u8 proto, .int .u32 src, .int .u32 dst, so, .slice ad zd.length cd] 78)) (.cells #[.int .u8 0, .int .u32 0, .int .u32 0, .int .u16 0, .int .u16 0] 69)
  rw [World.size_alloc] at r0
  have R0 := hide r0
  clear r0
  go_enter Tryz.func128, Tryz.ntmps128
  go_wp2_with fail
  generalize ((w.alloc (.cells #[.int .u8 tos, .int .u16 id, .bool keep, .int .u8 ttl, .int .u8 proto, .int .u32 src, .int .u32 dst, so, .slice ad zd.length cd] 78)).alloc (.cells #[.int .u8 0, .int .u32 0, .int .u32 0, .int .u16 0, .int .u16 0] 69)) = w0 at *
  refine (parseIcmp_any tos id ttl proto src dst keep _ _ zd w0 hB ((hI.below hb0).mono hb0.size) hl).mono ?_
  rintro e w1 ⟨hb1, ⟨hf, rfl⟩ | ⟨hf, a1, c1, rfl, hO⟩⟩
  · rw [show zm.toArray = #[.int .u8 0, .int .u8 0, .int .u32 0, .slice none 0 0] from rfl]
    have HQ : Hid (que proto zd = pie proto zd) := if_pos hf
    generalize hpu : pie proto zd = f at *
    have hne : (f != 0) = true := by simp [hf]
    clear hpu hf hbad
    have la : Later w1 (w1.alloc (.cells #[.int .u8 0, .int .u8 0, .int .u32 0, .slice none 0 0] 154)) := (Below.refl _ _).alloc (Nat.le_refl _) _
    have l1 := Later.trans hb1 la
    have rX := later_keep l1 R0.out
    have hwX := hb0.trans (l1.mono hb0.size)
    have kX := block_cell rX
    have fX := block_frozen rX
    go_wp2_with fail
    generalize w1.alloc (.cells #[.int .u8 0, .int .u8 0, .int .u32 0, .slice none 0 0] 154) = W at *
    generalize hV : ((((W.setCell ⟨w.heap.size + 1, 0, none⟩ _).setCell ⟨w.heap.size + 1, 1, none⟩ _).setCell ⟨w.heap.size + 1, 2, none⟩ _).setCell ⟨w.heap.size + 1, 3, none⟩ _).setCell ⟨w.heap.size + 1, 4, none⟩ _ = V
    have hV8 : V = putRow W (w.heap.size + 1) 0 [.int .u8 0, .int .u32 0, .int .u32 0, .int .u16 0, .int .u16 0] := hV.symm
    have hbV : But (fun b => b = w.heap.size + 1) W V := by rw [hV8]; exact putRow_but (E := fun b => b = w.heap.size + 1) (n := w.heap.size + 1) rfl _ _ _ _ (But.refl _ _)
    have pV := putRow_all ([.int .u8 0, .int .u32 0, .int .u32 0, .int .u16 0, .int .u16 0] : List Value) rX rfl
    rw [← hV8] at pV
    clear hV hV8 kX fX
    have PV := block_cell pV
    have hwV : Below w.heap.size w V := hwX.trans (hbV.below hwX.size (fun k hk e => by omega))
    exact bodyPost_ret (v := .tuple #[.agg #[.int .u8 0, .int .u32 0, .int .u32 0, .int .u16 0, .int .u16 0], .int .i64 f]) (by simp [results, Tryz.results128, go_sem, PV]) rfl ⟨hwV, by rw [HQ.out]⟩
  · have la : Later w1 (w1.alloc (.cells #[.int .u8 (zd[0]?.getD 0), .int .u8 (zd[1]?.getD 0), .int .u32 (wat4 zd 4), .slice a1 (zd.length - 8) c1] 154)) := (Below.refl _ _).alloc (Nat.le_refl _) _
    have l1 := Later.trans hb1 la
    have mW := heap_alloc_new w1 (.cells #[.int .u8 (zd[0]?.getD 0), .int .u8 (zd[1]?.getD 0), .int .u32 (wat4 zd 4), .slice a1 (zd.length - 8) c1] 154)
    have rW := later_keep l1 R0.out
    have hwW := hb0.trans (l1.mono hb0.size)
    have DW := hO.ck (CK.of la)
    have HPF := hide hf
    clear hf
    go_wp2_with fail
    generalize w1.alloc (.cells #[.int .u8 (zd[0]?.getD 0), .int .u8 (zd[1]?.getD 0), .int .u32 (wat4 zd 4), .slice a1 (zd.length - 8) c1] 154) = W at *
    generalize w1.heap.size = gm at *
    refine (isError_any (zd[0]?.getD 0) (zd[1]?.getD 0) (wat4 zd 4) _ W).mono ?_
    have HER : Hid (erb (zd[0]?.getD 0) = (zd[0]?.getD 0 == 3 || (zd[0]?.getD 0 == 11 || zd[0]?.getD 0 == 12))) := rfl
    generalize (zd[0]?.getD 0 == 3 || (zd[0]?.getD 0 == 11 || zd[0]?.getD 0 == 12)) = bq at *
    rintro e w2 ⟨rfl, hb2⟩
    have l2 : Later W w2 := hb2
    have r2 := later_keep l2 rW
    have hw2 := hwW.trans (hb2.mono hwW.size)
    cases bq with
    | false =>
      have HQ : Hid (que proto zd = 12) := by show _ = _; unfold que; rw [if_neg (fun h => h HPF.out), if_pos HER.out]
      clear hbad
      have rX := r2
      have hwX := hw2
      have kX := block_cell rX
      have fX := block_frozen rX
      go_wp2_with fail
      generalize hV : ((((w2.setCell ⟨w.heap.size + 1, 0, none⟩ _).setCell ⟨w.heap.size + 1, 1, none⟩ _).setCell ⟨w.heap.size + 1, 2, none⟩ _).setCell ⟨w.heap.size + 1, 3, none⟩ _).setCell ⟨w.heap.size + 1, 4, none⟩ _ = V
      have hV8 : V = putRow w2 (w.heap.size + 1) 0 [.int .u8 0, .int .u32 0, .int .u32 0, .int .u16 0, .int .u16 0] := hV.symm
      have hbV : But (fun b => b = w.heap.size + 1) w2 V := by rw [hV8]; exact putRow_but (E := fun b => b = w.heap.size + 1) (n := w.heap.size + 1) rfl _ _ _ _ (But.refl _ _)
      have pV := putRow_all ([.int .u8 0, .int .u32 0, .int .u32 0, .int .u16 0, .int .u16 0] : List Value) rX rfl
      rw [← hV8] at pV
      clear hV hV8 kX fX
      have PV := block_cell pV
      have hwV : Below w.heap.size w V := hwX.trans (hbV.below hwX.size (fun k hk e => by omega))
      exact bodyPost_ret (v := .tuple #[.agg #[.int .u8 0, .int .u32 0, .int .u32 0, .int .u16 0, .int .u16 0], .int .i64 12]) (by simp [results, Tryz.results128, go_sem, PV]) rfl ⟨hwV, by rw [HQ.out]⟩
    | true =>
      have hrd : rde true (zd.drop 8) ≠ 0 := by
        rcases hbad with h | h | h
        · exact absurd HPF.out h
        · rw [HER.out] at h; cases h
        · exact h
      clear hbad
      have HQ : Hid (que proto zd = rde true (zd.drop 8)) := by show _ = _; unfold que; rw [if_neg (fun h => h HPF.out), if_neg (by rw [HER.out]; decide), if_pos hrd]
      have km := block_cell (later_keep l2 mW)
      have D2 := DW.ck (CK.of l2)
      go_wp2_with fail
      clear km
      refine (quote_any _ (zd.drop 8) w2 (hB.drop 8) (by simp; omega) D2.rd).mono ?_
      rintro e w3 ⟨hb3, ⟨hf3, rfl⟩ | ⟨hf3, _⟩⟩
      · rw [show zc.toArray = #[.int .u8 0, .int .u16 0, .bool false, .int .u8 0, .int .u8 0, .int .u32 0, .int .u32 0, .slice none 0 0, .slice none 0 0] from rfl]
        generalize hpu : rde true (zd.drop 8) = f at *
        have hne : (f != 0) = true := by simp [hrd]
        clear hpu hrd hf3
        have la3 : Later w3 (w3.alloc (.cells #[.int .u8 0, .int .u16 0, .bool false, .int .u8 0, .int .u8 0, .int .u32 0, .int .u32 0, .slice none 0 0, .slice none 0 0] 78)) := (Below.refl _ _).alloc (Nat.le_refl _) _
        have l3 := Later.trans hb3 la3
        have rX := later_keep l3 r2
        have hwX := hw2.trans (l3.mono hw2.size)
        have kX := block_cell rX
        have fX := block_frozen rX
        go_wp2_with fail
        generalize w3.alloc (.cells #[.int .u8 0, .int .u16 0, .bool false, .int .u8 0, .int .u8 0, .int .u32 0, .int .u32 0, .slice none 0 0, .slice none 0 0] 78) = W3 at *
        generalize hV : ((((W3.setCell ⟨w.heap.size + 1, 0, none⟩ _).setCell ⟨w.heap.size + 1, 1, none⟩ _).setCell ⟨w.heap.size + 1, 2, none⟩ _).setCell ⟨w.heap.size + 1, 3, none⟩ _).setCell ⟨w.heap.size + 1, 4, none⟩ _ = V
        have hV8 : V = putRow W3 (w.heap.size + 1) 0 [.int .u8 0, .int .u32 0, .int .u32 0, .int .u16 0, .int .u16 0] := hV.symm
        have hbV : But (fun b => b = w.heap.size + 1) W3 V := by rw [hV8]; exact putRow_but (E := fun b => b = w.heap.size + 1) (n := w.heap.size + 1) rfl _ _ _ _ (But.refl _ _)
        have pV := putRow_all ([.int .u8 0, .int .u32 0, .int .u32 0, .int .u16 0, .int .u16 0] : List Value) rX rfl
        rw [← hV8] at pV
        clear hV hV8 kX fX
        have PV := block_cell pV
        have hwV : Below w.heap.size w V := hwX.trans (hbV.below hwX.size (fun k hk e => by omega))
        exact bodyPost_ret (v := .tuple #[.agg #[.int .u8 0, .int .u32 0, .int .u32 0, .int .u16 0, .int .u16 0], .int .i64 f]) (by simp [results, Tryz.results128, go_sem, PV]) rfl ⟨hwV, by rw [HQ.out]⟩
      · exact absurd hf3 hrd

set_option maxHeartbeats 8000000 in
theorem quoted_gen (pr x1 y1 e0 : Int) (fw fb : FuncId) (tos id ttl proto src dst : Int) (keep : Bool) (so sd : Value) (zd : List Int) (w : World) (hT : Tb w) (hB : Mt.By zd) (hI : Rd w.heap.size w sd zd) (hl : zd.length ≤ 140737488355328) (hpi : pie proto zd = 0) (her : erb (zd[0]?.getD 0) = true) (hrd : rde true (zd.drop 8) = 0) (hpr : (zd.drop 8)[9]?.getD 0 = pr) (h8 : 8 ≤ (qdt (zd.drop 8)).length)
    (hlk0 : ∀ (w : World) (b : Nat), w.heap[b]? = some (.map rdE 4) → (Instr.lookup 243 (.map (some b)) (.int .u8 pr) true).run Tryz.prog w = .ok (.tuple #[.agg #[.func (.func fw) #[] #[], .func (.func fb) #[] #[]], .bool true]) w)
    (hcf : ∀ (args : Array Value) (w : World), (callFunc fb args).run Tryz.prog w = .ok (.enter fb args) w)
    (hf : ∀ w', Below w.heap.size w w' → Calls Tryz.prog fb #[.agg #[.int .u8 ((qdt (zd.drop 8))[0]?.getD 0), .int .u8 ((qdt (zd.drop 8))[1]?.getD 0), .int .u8 ((qdt (zd.drop 8))[2]?.getD 0), .int .u8 ((qdt (zd.drop 8))[3]?.getD 0), .int .u8 ((qdt (zd.drop 8))[4]?.getD 0), .int .u8 ((qdt (zd.drop 8))[5]?.getD 0), .int .u8 ((qdt (zd.drop 8))[6]?.getD 0), .int .u8 ((qdt (zd.drop 8))[7]?.getD 0)]] w' fun e w'' => Below w'.heap.size w' w'' ∧ ∃ a b : Int, e = .returned (.tuple #[.agg #[.int .u16 a, .int .u16 b], .int .i64 e0]) ∧ (e0 = 0 → a = x1 ∧ b = y1)) :
    Calls Tryz.prog 128 #[.agg #[.int .u8 tos, .int .u16 id, .bool keep, .int .u8 ttl, .int .u8 proto, .int .u32 src, .int .u32 dst, so, sd]] w fun e w' => Below w.heap.size w w' ∧ e = .returned (.tuple #[otv e0 pr (wat4 (zd.drop 8) 12) (wat4 (zd.drop 8) 16) x1 y1, .int .i64 e0]) := by
  obtain ⟨ad, cd, rfl, _, _⟩ := hI.slice
  have hb0 : Below w.heap.size w ((w.alloc (.cells #[.int .u8 tos, .int .u16 id, .bool keep, .int .u8 ttl, .int .u8 proto, .int .u32 src, .int .u32 dst, so, .slice ad zd.length cd] 78)).alloc (.cells #[.int .u8 0, .int .u32 0, .int .u32 0, .int .u16 0, .int .u16 0] 69)) := ((Below.refl _ _).alloc (Nat.le_refl _) _).alloc (by simp) _
  have r0 := heap_alloc_new (w.alloc (.cells #[.int .u8 tos, .int .u16 id, .bool keep, .int .u8 ttl, .int .u8 proto, .int .u32 src, .int .u32 dst, so, .slice ad zd.length cd] 78)) (.cells #[.int .u8 0, .int .u32 0, .int .u32 0, .int .u16 0, .int .u16 0] 69)
  rw [World.size_alloc] at r0
  have R0 := hide r0
  clear r0
  go_enter Tryz.func128, Tryz.ntmps128
  go_wp2_with fail
  generalize ((w.alloc (.cells #[.int .u8 tos, .int .u16 id, .bool keep, .int .u8 ttl, .int .u8 proto, .int .u32 src, .int .u32 dst, so, .slice ad zd.length cd] 78)).alloc (.cells #[.int .u8 0, .int .u32 0, .int .u32 0, .int .u16 0, .int .u16 0] 69)) = w0 at *
  refine (parseIcmp_any tos id ttl proto src dst keep _ _ zd w0 hB ((hI.below hb0).mono hb0.size) hl).mono ?_
  rintro e w1 ⟨hb1, ⟨hff, rfl⟩ | ⟨hff, a1, c1, rfl, hO⟩⟩
  · exact absurd hpi hff
  · have la : Later w1 (w1.alloc (.cells #[.int .u8 (zd[0]?.getD 0), .int .u8 (zd[1]?.getD 0), .int .u32 (wat4 zd 4), .slice a1 (zd.length - 8) c1] 154)) := (Below.refl _ _).alloc (Nat.le_refl _) _
    have l1 := Later.trans hb1 la
    have mW := heap_alloc_new w1 (.cells #[.int .u8 (zd[0]?.getD 0), .int .u8 (zd[1]?.getD 0), .int .u32 (wat4 zd 4), .slice a1 (zd.length - 8) c1] 154)
    have rW := later_keep l1 R0.out
    have hwW := hb0.trans (l1.mono hb0.size)
    have DW := hO.ck (CK.of la)
    clear hff
    go_wp2_with fail
    generalize w1.alloc (.cells #[.int .u8 (zd[0]?.getD 0), .int .u8 (zd[1]?.getD 0), .int .u32 (wat4 zd 4), .slice a1 (zd.length - 8) c1] 154) = W at *
    generalize w1.heap.size = gm at *
    refine (isError_any (zd[0]?.getD 0) (zd[1]?.getD 0) (wat4 zd 4) _ W).mono ?_
    rw [show (zd[0]?.getD 0 == 3 || (zd[0]?.getD 0 == 11 || zd[0]?.getD 0 == 12)) = true from her]
    rintro e w2 ⟨rfl, hb2⟩
    have l2 : Later W w2 := hb2
    have r2 := later_keep l2 rW
    have hw2 := hwW.trans (hb2.mono hwW.size)
    have km := block_cell (later_keep l2 mW)
    have D2 := DW.ck (CK.of l2)
    go_wp2_with fail
    clear km
    refine (quote_any _ (zd.drop 8) w2 (hB.drop 8) (by simp; omega) D2.rd).mono ?_
    rintro e w3 ⟨hb3, ⟨hf3, _⟩ | ⟨_, qo, qs0, rfl, hO3, hD3⟩⟩
    · exact absurd hrd hf3
    obtain ⟨b7, c7, rfl, _, _⟩ := hO3.slice
    obtain ⟨b8, c8, rfl, hc8, hc9⟩ := hD3.slice
    unfold pkt
    have HPR := hide hpr
    rw [hpr]
    clear hpr hpi her hrd
    generalize (zd.drop 8)[1]?.getD 0 = q1 at *
    generalize wat (zd.drop 8) 4 = q2 at *
    generalize decide (16384 ≤ wat (zd.drop 8) 6 % 32768) = q3 at *
    generalize (zd.drop 8)[8]?.getD 0 = q4 at *
    generalize hqs : wat4 (zd.drop 8) 12 = qs at *
    generalize hqd : wat4 (zd.drop 8) 16 = qd at *
    have HQS := hide hqs
    have HQD := hide hqd
    clear hqs hqd
    generalize (((zd.drop 8).take (hl4 (zd.drop 8)).toNat).drop 20).length = l7 at *
    clear hO3
    rw [show ((zd.drop 8).take (ral true (zd.drop 8)).toNat).drop (hl4 (zd.drop 8)).toNat = qdt (zd.drop 8) from rfl] at hD3 hc8 ⊢
    generalize hdq : qdt (zd.drop 8) = dq at *
    have HDQ := hide hdq
    clear hdq
    obtain ⟨g8, rfl, _, _, hcs, _⟩ := hD3.at (by omega)
    have la3 : Later w3 (w3.alloc (.cells #[.int .u8 q1, .int .u16 q2, .bool q3, .int .u8 q4, .int .u8 pr, .int .u32 qs, .int .u32 qd, .slice b7 l7 c7, .slice (some ⟨g8, 0, none⟩) dq.length c8] 78)) := (Below.refl _ _).alloc (Nat.le_refl _) _
    have l3 := Later.trans hb3 la3
    have qk := heap_alloc_new w3 (.cells #[.int .u8 q1, .int .u16 q2, .bool q3, .int .u8 q4, .int .u8 pr, .int .u32 qs, .int .u32 qd, .slice b7 l7 c7, .slice (some ⟨g8, 0, none⟩) dq.length c8] 78)
    have r3 := later_keep l3 r2
    have hw3 := hw2.trans (l3.mono hw2.size)
    have HCS : Hid (∀ j, j < dq.length → w3.cell? ⟨g8, j, none⟩ = some (.int .u8 (dq[j]?.getD 0))) := fun j h => (hcs j h).1
    have hgq : w.heap.size + 1 < w3.heap.size := Nat.lt_of_lt_of_le (Array.getElem?_eq_some_iff.1 r2).1 hb3.size
    clear D2 hD3 hcs
    go_upto_region 9 with fail
    have HC3 : Hid (∀ j, j < dq.length → (w3.alloc (.cells #[.int .u8 q1, .int .u16 q2, .bool q3, .int .u8 q4, .int .u8 pr, .int .u32 qs, .int .u32 qd, .slice b7 l7 c7, .slice (some ⟨g8, 0, none⟩) dq.length c8] 78)).cell? ⟨g8, j, none⟩ = some (.int .u8 (dq[j]?.getD 0))) := fun j h => la3.cell (HCS.out j h)
    clear HCS
    generalize w3.alloc (.cells #[.int .u8 q1, .int .u16 q2, .bool q3, .int .u8 q4, .int .u8 pr, .int .u32 qs, .int .u32 qd, .slice b7 l7 c7, .slice (some ⟨g8, 0, none⟩) dq.length c8] 78) = w0q at *
    generalize w3.heap.size = gq at *
    have hlt0 : gq < w0q.heap.size := (Array.getElem?_eq_some_iff.1 qk).1
    go_cut [7, 8] (fun q x wx => ∃ g, q = .pointer (some ⟨g, 0, none⟩) ∧ x = .bool true ∧ wx.heap[g]? = some (.cells #[.func (.func fw) #[] #[], .func (.func fb) #[] #[]] 241 (0, 0)) ∧ Below w0q.heap.size w0q wx)
    case first =>
      refine anyT_begin (R := But (fun b => w0q.heap.size ≤ b)) 10 rfl (by kernel_rfl) ?_
      have hd : Later w0q w0q.drew := Later.drew w0q
      have pd := (hd.block gq (Array.getElem?_eq_some_iff.1 qk).1).trans qk
      have bd : Below w0q.heap.size w0q w0q.drew := hd
      generalize w0q.drew = Wd at *
      have ha : ∀ v1, But (fun b => w0q.heap.size ≤ b) Wd v1 → ∀ i, v1.cell? ⟨gq, i, none⟩ = #[Value.int .u8 q1, .int .u16 q2, .bool q3, .int .u8 q4, .int .u8 pr, .int .u32 qs, .int .u32 qd, .slice b7 l7 c7, .slice (some ⟨g8, 0, none⟩) dq.length c8][i]? := fun v1 h => block_cell ((h.block gq (Array.getElem?_eq_some_iff.1 pd).1 (by omega)).trans pd)
      have hz : w0q.heap.size ≤ Wd.heap.size := bd.size
      refine anyT_val (But.pre _) 1 rfl (by kernel_rfl) (by kernel_rfl) (by kernel_rfl) (fun _ _ _ _ h => h) rfl ?_; apply Exists.intro; refine ⟨fun v1 hv1 => ?_, ?_⟩; (· (go_simp; rfl)); simp only [Act.put, List.setIfInBounds_toArray, List.set_cons_zero, List.set_cons_succ]
      refine anyT_val (But.pre _) 2 rfl (by kernel_rfl) (by kernel_rfl) (by kernel_rfl) (fun _ _ _ _ h => h) rfl ?_; apply Exists.intro; refine ⟨fun v1 hv1 => ?_, ?_⟩; (· (go_simp; rfl)); simp only [Act.put, List.setIfInBounds_toArray, List.set_cons_zero, List.set_cons_succ]
      refine anyT_two 0 7 rfl rfl (by kernel_rfl) rfl rfl ?_ ?_
      · skip
        refine wp_enter 126 #[] (by go_simp) ?_
        refine (readers_any Wd).mono ?_
        rintro e W3 ⟨m, rfl, hb3, hM3⟩
        have l3 : Later Wd W3 := hb3
        refine ⟨But.of l3, ?_⟩
        simp only [Act.put, List.setIfInBounds_toArray, List.set_cons_zero, List.set_cons_succ]
        have hlk := hlk0 _ _ hM3
        refine anyT_two 3 7 rfl rfl (by kernel_rfl) rfl rfl ?_ ?_
        · unfold Oper.wp
          go_simp
          refine ⟨But.refl _ _, ?_⟩
          clear hlk
          refine anyT_val (But.pre _) 4 rfl (by kernel_rfl) (by kernel_rfl) (by kernel_rfl) (fun _ _ _ _ h => h) rfl ?_; apply Exists.intro; refine ⟨fun v1 hv1 => ?_, ?_⟩; (· (go_simp; rfl)); simp only [Act.put, List.setIfInBounds_toArray, List.set_cons_zero, List.set_cons_succ]
          refine anyT_val (But.pre _) 5 rfl (by kernel_rfl) (by kernel_rfl) (by kernel_rfl) (fun _ _ _ _ h => h) rfl ?_; apply Exists.intro; refine ⟨fun v1 hv1 => ?_, ?_⟩; (· (go_simp; rfl)); simp only [Act.put, List.setIfInBounds_toArray, List.set_cons_zero, List.set_cons_succ]
          refine anyT_val (But.pre _) 6 rfl (by kernel_rfl) (by kernel_rfl) (by kernel_rfl) (fun _ _ _ _ h => h) rfl ?_; apply Exists.intro; refine ⟨fun v1 hv1 => ?_, ?_⟩; (· (go_simp; rfl)); simp only [Act.put, List.setIfInBounds_toArray, List.set_cons_zero, List.set_cons_succ]
          refine anyT_one 7 rfl (by kernel_rfl) rfl ?_
          unfold Oper.wp
          go_simp
          have l4 : Later W3 (W3.alloc (.cells #[.nilFunc, .nilFunc] 241)) := (Below.refl _ _).alloc (Nat.le_refl _) _
          have g4 := heap_alloc_new W3 (.cells #[.nilFunc, .nilFunc] 241)
          have b4 : Below w0q.heap.size w0q (W3.alloc (.cells #[.nilFunc, .nilFunc] 241)) := (bd.trans (l3.mono hz)).trans (l4.mono (Nat.le_trans hz l3.size))
          have hge : w0q.heap.size ≤ W3.heap.size := Nat.le_trans hz l3.size
          refine ⟨But.of l4, ?_⟩
          generalize W3.alloc (.cells #[.nilFunc, .nilFunc] 241) = W4 at *
          generalize W3.heap.size = g at *
          have kg := block_cell g4
          have fg := block_frozen g4
          have hsf := run_store_fn Tryz.prog
          refine anyT_one 8 rfl (by kernel_rfl) rfl ?_
          unfold Oper.wp
          go_simp
          generalize hV : (W4.setCell ⟨g, 0, none⟩ _).setCell ⟨g, 1, none⟩ _ = V
          have hV8 : V = putRow W4 (g) 0 [.func (.func fw) #[] #[], .func (.func fb) #[] #[]] := hV.symm
          have hbV : But (fun b => w0q.heap.size ≤ b) W4 V := by rw [hV8]; exact putRow_but (E := fun b => w0q.heap.size ≤ b) (n := g) hge _ _ _ _ (But.refl _ _)
          have pV := putRow_all [Value.func (.func fw) #[] #[], .func (.func fb) #[] #[]] g4 rfl
          rw [← hV8] at pV
          clear hV hV8 kg fg hsf
          refine ⟨hbV, ?_⟩
          refine anyT_one 9 rfl (by kernel_rfl) rfl ?_
          unfold Oper.wp
          go_simp
          refine ⟨But.refl _ _, ?_⟩
          refine anyT_done (by kernel_rfl) ?_
          have hbl : Below w0q.heap.size w0q V := b4.trans (hbV.below b4.size (fun k hk e => by omega))
          clear ha
          go_wp2_with fail
          go_meet
          exact ⟨_, rfl, rfl, pV, hbl⟩
        · unfold Oper.wp
          go_simp
          have l4 : Later W3 (W3.alloc (.cells #[.nilFunc, .nilFunc] 241)) := (Below.refl _ _).alloc (Nat.le_refl _) _
          have g4 := heap_alloc_new W3 (.cells #[.nilFunc, .nilFunc] 241)
          have b4 : Below w0q.heap.size w0q (W3.alloc (.cells #[.nilFunc, .nilFunc] 241)) := (bd.trans (l3.mono hz)).trans (l4.mono (Nat.le_trans hz l3.size))
          have hge : w0q.heap.size ≤ W3.heap.size := Nat.le_trans hz l3.size
          have hM4 := (l4.block m (Array.getElem?_eq_some_iff.1 hM3).1).trans hM3
          refine ⟨But.of l4, ?_⟩
          clear hlk
          generalize W3.alloc (.cells #[.nilFunc, .nilFunc] 241) = W4 at *
          generalize W3.heap.size = g at *
          have hlk := hlk0 _ _ hM4
          refine anyT_one 3 rfl (by kernel_rfl) rfl ?_
          unfold Oper.wp
          go_simp
          refine ⟨But.refl _ _, ?_⟩
          clear hlk
          refine anyT_val (But.pre _) 4 rfl (by kernel_rfl) (by kernel_rfl) (by kernel_rfl) (fun _ _ _ _ h => h) rfl ?_; apply Exists.intro; refine ⟨fun v1 hv1 => ?_, ?_⟩; (· (go_simp; rfl)); simp only [Act.put, List.setIfInBounds_toArray, List.set_cons_zero, List.set_cons_succ]
          refine anyT_val (But.pre _) 5 rfl (by kernel_rfl) (by kernel_rfl) (by kernel_rfl) (fun _ _ _ _ h => h) rfl ?_; apply Exists.intro; refine ⟨fun v1 hv1 => ?_, ?_⟩; (· (go_simp; rfl)); simp only [Act.put, List.setIfInBounds_toArray, List.set_cons_zero, List.set_cons_succ]
          refine anyT_val (But.pre _) 6 rfl (by kernel_rfl) (by kernel_rfl) (by kernel_rfl) (fun _ _ _ _ h => h) rfl ?_; apply Exists.intro; refine ⟨fun v1 hv1 => ?_, ?_⟩; (· (go_simp; rfl)); simp only [Act.put, List.setIfInBounds_toArray, List.set_cons_zero, List.set_cons_succ]
          have kg := block_cell g4
          have fg := block_frozen g4
          have hsf := run_store_fn Tryz.prog
          refine anyT_one 8 rfl (by kernel_rfl) rfl ?_
          unfold Oper.wp
          go_simp
          generalize hV : (W4.setCell ⟨g, 0, none⟩ _).setCell ⟨g, 1, none⟩ _ = V
          have hV8 : V = putRow W4 (g) 0 [.func (.func fw) #[] #[], .func (.func fb) #[] #[]] := hV.symm
          have hbV : But (fun b => w0q.heap.size ≤ b) W4 V := by rw [hV8]; exact putRow_but (E := fun b => w0q.heap.size ≤ b) (n := g) hge _ _ _ _ (But.refl _ _)
          have pV := putRow_all [Value.func (.func fw) #[] #[], .func (.func fb) #[] #[]] g4 rfl
          rw [← hV8] at pV
          clear hV hV8 kg fg hsf
          refine ⟨hbV, ?_⟩
          refine anyT_one 9 rfl (by kernel_rfl) rfl ?_
          unfold Oper.wp
          go_simp
          refine ⟨But.refl _ _, ?_⟩
          refine anyT_done (by kernel_rfl) ?_
          have hbl : Below w0q.heap.size w0q V := b4.trans (hbV.below b4.size (fun k hk e => by omega))
          clear ha
          go_wp2_with fail
          go_meet
          exact ⟨_, rfl, rfl, pV, hbl⟩
      · unfold Oper.wp
        go_simp
        have l4 : Later Wd (Wd.alloc (.cells #[.nilFunc, .nilFunc] 241)) := (Below.refl _ _).alloc (Nat.le_refl _) _
        have g4 := heap_alloc_new Wd (.cells #[.nilFunc, .nilFunc] 241)
        have b4 : Below w0q.heap.size w0q (Wd.alloc (.cells #[.nilFunc, .nilFunc] 241)) := bd.trans (l4.mono hz)
        refine ⟨But.of l4, ?_⟩
        have hge : w0q.heap.size ≤ Wd.heap.size := hz
        generalize Wd.alloc (.cells #[.nilFunc, .nilFunc] 241) = W4 at *
        generalize Wd.heap.size = g at *
        refine anyT_one 0 rfl (by kernel_rfl) rfl ?_
        refine wp_enter 126 #[] (by go_simp) ?_
        refine (readers_any W4).mono ?_
        rintro e W5 ⟨m, rfl, hb5, hM5⟩
        have l5 : Later W4 W5 := hb5
        have g5 := (l5.block g (Array.getElem?_eq_some_iff.1 g4).1).trans g4
        have b5 : Below w0q.heap.size w0q W5 := b4.trans (l5.mono b4.size)
        refine ⟨But.of l5, ?_⟩
        simp only [Act.put, List.setIfInBounds_toArray, List.set_cons_zero, List.set_cons_succ]
        have hlk := hlk0 _ _ hM5
        refine anyT_one 3 rfl (by kernel_rfl) rfl ?_
        unfold Oper.wp
        go_simp
        refine ⟨But.refl _ _, ?_⟩
        clear hlk
        refine anyT_val (But.pre _) 4 rfl (by kernel_rfl) (by kernel_rfl) (by kernel_rfl) (fun _ _ _ _ h => h) rfl ?_; apply Exists.intro; refine ⟨fun v1 hv1 => ?_, ?_⟩; (· (go_simp; rfl)); simp only [Act.put, List.setIfInBounds_toArray, List.set_cons_zero, List.set_cons_succ]
        refine anyT_val (But.pre _) 5 rfl (by kernel_rfl) (by kernel_rfl) (by kernel_rfl) (fun _ _ _ _ h => h) rfl ?_; apply Exists.intro; refine ⟨fun v1 hv1 => ?_, ?_⟩; (· (go_simp; rfl)); simp only [Act.put, List.setIfInBounds_toArray, List.set_cons_zero, List.set_cons_succ]
        refine anyT_val (But.pre _) 6 rfl (by kernel_rfl) (by kernel_rfl) (by kernel_rfl) (fun _ _ _ _ h => h) rfl ?_; apply Exists.intro; refine ⟨fun v1 hv1 => ?_, ?_⟩; (· (go_simp; rfl)); simp only [Act.put, List.setIfInBounds_toArray, List.set_cons_zero, List.set_cons_succ]
        have kg := block_cell g5
        have fg := block_frozen g5
        have hsf := run_store_fn Tryz.prog
        refine anyT_one 8 rfl (by kernel_rfl) rfl ?_
        unfold Oper.wp
        go_simp
        generalize hV : (W5.setCell ⟨g, 0, none⟩ _).setCell ⟨g, 1, none⟩ _ = V
        have hV8 : V = putRow W5 (g) 0 [.func (.func fw) #[] #[], .func (.func fb) #[] #[]] := hV.symm
        have hbV : But (fun b => w0q.heap.size ≤ b) W5 V := by rw [hV8]; exact putRow_but (E := fun b => w0q.heap.size ≤ b) (n := g) hge _ _ _ _ (But.refl _ _)
        have pV := putRow_all [Value.func (.func fw) #[] #[], .func (.func fb) #[] #[]] g5 rfl
        rw [← hV8] at pV
        clear hV hV8 kg fg hsf
        refine ⟨hbV, ?_⟩
        refine anyT_one 9 rfl (by kernel_rfl) rfl ?_
        unfold Oper.wp
        go_simp
        refine ⟨But.refl _ _, ?_⟩
        refine anyT_done (by kernel_rfl) ?_
        have hbl : Below w0q.heap.size w0q V := b5.trans (hbV.below b5.size (fun k hk e => by omega))
        clear ha
        go_wp2_with fail
        go_meet
        exact ⟨_, rfl, rfl, pV, hbl⟩
    case rest =>
      obtain ⟨g, rfl, rfl, hg, hbc⟩ := hcut
      have qc := (hbc.block gq (Array.getElem?_eq_some_iff.1 qk).1).trans qk
      have rc := (hbc.block _ (Array.getElem?_eq_some_iff.1 r3).1).trans r3
      have hwc := hw3.trans (hbc.mono hw3.size)
      have HCc : Hid (∀ j, j < dq.length → wc.cell? ⟨g8, j, none⟩ = some (.int .u8 (dq[j]?.getD 0))) := fun j h => (hbc.cell (p := ⟨g8, j, none⟩) (World.block_lt_of_cell? w0q ⟨g8, j, none⟩ (HC3.out j h))).trans (HC3.out j h)
      generalize wc = wm at *
      go_upto_region 12 with fail
      go_cut [9, 5] (fun q x wx => ∃ gp u v, q = .pointer (some ⟨gp, 0, none⟩) ∧ x = .int .i64 e0 ∧ wx.heap[gp]? = some (.cells #[.int .u16 u, .int .u16 v] 246 (0, 0)) ∧ Hid (e0 = 0 → u = x1 ∧ v = y1) ∧ Below wm.heap.size wm wx)
      case first =>
        refine anyT_begin (R := But (fun b => wm.heap.size ≤ b)) 13 rfl (by kernel_rfl) ?_
        have ld : Later wm wm.drew := Later.drew wm
        have qWd := later_keep ld qc
        have gWd := later_keep ld hg
        have bd : Below wm.heap.size wm wm.drew := ld
        have cWd : ∀ j, j < dq.length → wm.drew.cell? ⟨g8, j, none⟩ = some (.int .u8 (dq[j]?.getD 0)) := fun j h => ld.cell (HCc.out j h)
        generalize wm.drew = Wd at *
        have hz : wm.heap.size ≤ Wd.heap.size := bd.size
        have hgl := (Array.getElem?_eq_some_iff.1 hg).1
        have hql := (Array.getElem?_eq_some_iff.1 qc).1
        have h8l : g8 < wm.heap.size := World.block_lt_of_cell? wm ⟨g8, 0, none⟩ (HCc.out 0 (by omega))
        have ha : ∀ v1, But (fun b => wm.heap.size ≤ b) Wd v1 → ∀ i, v1.cell? ⟨gq, i, none⟩ = #[Value.int .u8 q1, .int .u16 q2, .bool q3, .int .u8 q4, .int .u8 pr, .int .u32 qs, .int .u32 qd, .slice b7 l7 c7, .slice (some ⟨g8, 0, none⟩) dq.length c8][i]? := fun v1 h => block_cell ((h.block gq (Array.getElem?_eq_some_iff.1 qWd).1 (by omega)).trans qWd)
        have hb : ∀ v1, But (fun b => wm.heap.size ≤ b) Wd v1 → ∀ i, v1.cell? ⟨g, i, none⟩ = #[Value.func (.func fw) #[] #[], .func (.func fb) #[] #[]][i]? := fun v1 h => block_cell ((h.block g (Array.getElem?_eq_some_iff.1 gWd).1 (by omega)).trans gWd)
        have hc0 : ∀ v1, But (fun b => wm.heap.size ≤ b) Wd v1 → v1.cell? ⟨g8, 0, none⟩ = some (.int .u8 (dq[0]?.getD 0)) := fun v1 h => h.cell (cWd 0 (by omega)) (by show ¬ wm.heap.size ≤ g8; omega)
        have hc1 : ∀ v1, But (fun b => wm.heap.size ≤ b) Wd v1 → v1.cell? ⟨g8, 1, none⟩ = some (.int .u8 (dq[1]?.getD 0)) := fun v1 h => h.cell (cWd 1 (by omega)) (by show ¬ wm.heap.size ≤ g8; omega)
        have hc2 : ∀ v1, But (fun b => wm.heap.size ≤ b) Wd v1 → v1.cell? ⟨g8, 2, none⟩ = some (.int .u8 (dq[2]?.getD 0)) := fun v1 h => h.cell (cWd 2 (by omega)) (by show ¬ wm.heap.size ≤ g8; omega)
        have hc3 : ∀ v1, But (fun b => wm.heap.size ≤ b) Wd v1 → v1.cell? ⟨g8, 3, none⟩ = some (.int .u8 (dq[3]?.getD 0)) := fun v1 h => h.cell (cWd 3 (by omega)) (by show ¬ wm.heap.size ≤ g8; omega)
        have hc4 : ∀ v1, But (fun b => wm.heap.size ≤ b) Wd v1 → v1.cell? ⟨g8, 4, none⟩ = some (.int .u8 (dq[4]?.getD 0)) := fun v1 h => h.cell (cWd 4 (by omega)) (by show ¬ wm.heap.size ≤ g8; omega)
        have hc5 : ∀ v1, But (fun b => wm.heap.size ≤ b) Wd v1 → v1.cell? ⟨g8, 5, none⟩ = some (.int .u8 (dq[5]?.getD 0)) := fun v1 h => h.cell (cWd 5 (by omega)) (by show ¬ wm.heap.size ≤ g8; omega)
        have hc6 : ∀ v1, But (fun b => wm.heap.size ≤ b) Wd v1 → v1.cell? ⟨g8, 6, none⟩ = some (.int .u8 (dq[6]?.getD 0)) := fun v1 h => h.cell (cWd 6 (by omega)) (by show ¬ wm.heap.size ≤ g8; omega)
        have hc7 : ∀ v1, But (fun b => wm.heap.size ≤ b) Wd v1 → v1.cell? ⟨g8, 7, none⟩ = some (.int .u8 (dq[7]?.getD 0)) := fun v1 h => h.cell (cWd 7 (by omega)) (by show ¬ wm.heap.size ≤ g8; omega)
        clear cWd
        have har : ∀ v1 : World, (Instr.arrayAt 290 (.slice (some ⟨g8, 0, none⟩) dq.length c8)).run Tryz.prog v1 = .ok (.pointer (some ⟨g8, 0, none⟩)) v1 := fun v1 => run_arrayAt (w := v1) 290 5 8 _ _ _ Tryz.underlying290 h8
        refine anyT_val (But.pre _) 0 rfl (by kernel_rfl) (by kernel_rfl) (by kernel_rfl) (fun _ _ _ _ h => h) rfl ?_; apply Exists.intro; refine ⟨fun v1 hv1 => ?_, ?_⟩; (· (go_simp; rfl)); simp only [Act.put, List.setIfInBounds_toArray, List.set_cons_zero, List.set_cons_succ]
        refine anyT_val (But.pre _) 1 rfl (by kernel_rfl) (by kernel_rfl) (by kernel_rfl) (fun _ _ _ _ h => h) rfl ?_; apply Exists.intro; refine ⟨fun v1 hv1 => ?_, ?_⟩; (· (go_simp; rfl)); simp only [Act.put, List.setIfInBounds_toArray, List.set_cons_zero, List.set_cons_succ]
        refine anyT_val (But.pre _) 2 rfl (by kernel_rfl) (by kernel_rfl) (by kernel_rfl) (fun _ _ _ _ h => h) rfl ?_; apply Exists.intro; refine ⟨fun v1 hv1 => ?_, ?_⟩; (· (go_simp; rfl)); simp only [Act.put, List.setIfInBounds_toArray, List.set_cons_zero, List.set_cons_succ]
        refine anyT_val (But.pre _) 3 rfl (by kernel_rfl) (by kernel_rfl) (by kernel_rfl) (fun _ _ _ _ h => h) rfl ?_; apply Exists.intro; refine ⟨fun v1 hv1 => ?_, ?_⟩; (· (go_simp; rfl)); simp only [Act.put, List.setIfInBounds_toArray, List.set_cons_zero, List.set_cons_succ]
        refine anyT_val (But.pre _) 4 rfl (by kernel_rfl) (by kernel_rfl) (by kernel_rfl) (fun _ _ _ _ h => h) rfl ?_; apply Exists.intro; refine ⟨fun v1 hv1 => ?_, ?_⟩; (· (go_simp; rfl)); simp only [Act.put, List.setIfInBounds_toArray, List.set_cons_zero, List.set_cons_succ]
        refine anyT_val (But.pre _) 5 rfl (by kernel_rfl) (by kernel_rfl) (by kernel_rfl) (fun _ _ _ _ h => h) rfl ?_; apply Exists.intro; refine ⟨fun v1 hv1 => ?_, ?_⟩; (· (go_simp; rfl)); simp only [Act.put, List.setIfInBounds_toArray, List.set_cons_zero, List.set_cons_succ]
        clear har ha hb hc0 hc1 hc2 hc3 hc4 hc5 hc6 hc7
        refine anyT_two 6 10 rfl rfl (by kernel_rfl) rfl rfl ?_ ?_
        · refine wp_enter fb #[.agg #[.int .u8 (dq[0]?.getD 0), .int .u8 (dq[1]?.getD 0), .int .u8 (dq[2]?.getD 0), .int .u8 (dq[3]?.getD 0), .int .u8 (dq[4]?.getD 0), .int .u8 (dq[5]?.getD 0), .int .u8 (dq[6]?.getD 0), .int .u8 (dq[7]?.getD 0)]] (by go_simp) ?_
          refine (hf Wd (hwc.trans (ld.mono hwc.size))).mono ?_
          rintro e W5 ⟨hb5, u, v, rfl, hab⟩
          have HAB : Hid (e0 = 0 → u = x1 ∧ v = y1) := hab
          clear hab
          have l5 : Later Wd W5 := hb5
          refine ⟨But.of l5, ?_⟩
          simp only [Act.put, List.setIfInBounds_toArray, List.set_cons_zero, List.set_cons_succ]
          refine anyT_val (But.pre _) 7 rfl (by kernel_rfl) (by kernel_rfl) (by kernel_rfl) (fun _ _ _ _ h => h) rfl ?_; apply Exists.intro; refine ⟨fun v1 hv1 => ?_, ?_⟩; (· (go_simp; rfl)); simp only [Act.put, List.setIfInBounds_toArray, List.set_cons_zero, List.set_cons_succ]
          refine anyT_val (But.pre _) 8 rfl (by kernel_rfl) (by kernel_rfl) (by kernel_rfl) (fun _ _ _ _ h => h) rfl ?_; apply Exists.intro; refine ⟨fun v1 hv1 => ?_, ?_⟩; (· (go_simp; rfl)); simp only [Act.put, List.setIfInBounds_toArray, List.set_cons_zero, List.set_cons_succ]
          refine anyT_val (But.pre _) 9 rfl (by kernel_rfl) (by kernel_rfl) (by kernel_rfl) (fun _ _ _ _ h => h) rfl ?_; apply Exists.intro; refine ⟨fun v1 hv1 => ?_, ?_⟩; (· (go_simp; rfl)); simp only [Act.put, List.setIfInBounds_toArray, List.set_cons_zero, List.set_cons_succ]
          refine anyT_one 10 rfl (by kernel_rfl) rfl ?_
          unfold Oper.wp
          go_simp
          have la5 : Later W5 (W5.alloc (.cells #[.int .u16 0, .int .u16 0] 246)) := (Below.refl _ _).alloc (Nat.le_refl _) _
          have g6 := heap_alloc_new W5 (.cells #[.int .u16 0, .int .u16 0] 246)
          refine ⟨But.of la5, ?_⟩
          have b6 : Below wm.heap.size wm (W5.alloc (.cells #[.int .u16 0, .int .u16 0] 246)) := bd.trans ((l5.trans la5).mono hz)
          have hge : wm.heap.size ≤ W5.heap.size := Nat.le_trans hz l5.size
          generalize W5.alloc (.cells #[.int .u16 0, .int .u16 0] 246) = W6 at *
          generalize W5.heap.size = gp at *
          have kg := block_cell g6
          have fg := block_frozen g6
          refine anyT_one 11 rfl (by kernel_rfl) rfl ?_
          unfold Oper.wp
          go_simp
          generalize hV : (W6.setCell ⟨gp, 0, none⟩ _).setCell ⟨gp, 1, none⟩ _ = V
          have hV8 : V = putRow W6 gp 0 [.int .u16 u, .int .u16 v] := hV.symm
          have hbV : But (fun b => wm.heap.size ≤ b) W6 V := by rw [hV8]; exact putRow_but (E := fun b => wm.heap.size ≤ b) (n := gp) hge _ _ _ _ (But.refl _ _)
          have pV := putRow_all ([.int .u16 u, .int .u16 v] : List Value) g6 rfl
          rw [← hV8] at pV
          clear hV hV8 kg fg
          refine ⟨hbV, ?_⟩
          refine anyT_one 12 rfl (by kernel_rfl) rfl ?_
          unfold Oper.wp
          go_simp
          refine ⟨But.refl _ _, ?_⟩
          refine anyT_done (by kernel_rfl) ?_
          have hbl : Below wm.heap.size wm V := b6.trans (hbV.below b6.size (fun k hk e => by omega))
          go_wp2_with fail
          go_meet
          exact ⟨_, u, v, rfl, rfl, pV, HAB, hbl⟩
        · unfold Oper.wp
          go_simp
          have la5 : Later Wd (Wd.alloc (.cells #[.int .u16 0, .int .u16 0] 246)) := (Below.refl _ _).alloc (Nat.le_refl _) _
          have g5 := heap_alloc_new Wd (.cells #[.int .u16 0, .int .u16 0] 246)
          refine ⟨But.of la5, ?_⟩
          have hge : wm.heap.size ≤ Wd.heap.size := hz
          generalize Wd.alloc (.cells #[.int .u16 0, .int .u16 0] 246) = W5 at *
          generalize Wd.heap.size = gp at *
          refine anyT_one 6 rfl (by kernel_rfl) rfl ?_
          refine wp_enter fb #[.agg #[.int .u8 (dq[0]?.getD 0), .int .u8 (dq[1]?.getD 0), .int .u8 (dq[2]?.getD 0), .int .u8 (dq[3]?.getD 0), .int .u8 (dq[4]?.getD 0), .int .u8 (dq[5]?.getD 0), .int .u8 (dq[6]?.getD 0), .int .u8 (dq[7]?.getD 0)]] (by go_simp) ?_
          refine (hf W5 (hwc.trans ((ld.trans la5).mono hwc.size))).mono ?_
          rintro e W6 ⟨hb6, u, v, rfl, hab⟩
          have HAB : Hid (e0 = 0 → u = x1 ∧ v = y1) := hab
          clear hab
          have l6 : Later W5 W6 := hb6
          have g6 := later_keep l6 g5
          have b6 : Below wm.heap.size wm W6 := (Below.mono (ld.trans (la5.trans l6)) (Nat.le_refl _))
          refine ⟨But.of l6, ?_⟩
          simp only [Act.put, List.setIfInBounds_toArray, List.set_cons_zero, List.set_cons_succ]
          refine anyT_val (But.pre _) 7 rfl (by kernel_rfl) (by kernel_rfl) (by kernel_rfl) (fun _ _ _ _ h => h) rfl ?_; apply Exists.intro; refine ⟨fun v1 hv1 => ?_, ?_⟩; (· (go_simp; rfl)); simp only [Act.put, List.setIfInBounds_toArray, List.set_cons_zero, List.set_cons_succ]
          refine anyT_val (But.pre _) 8 rfl (by kernel_rfl) (by kernel_rfl) (by kernel_rfl) (fun _ _ _ _ h => h) rfl ?_; apply Exists.intro; refine ⟨fun v1 hv1 => ?_, ?_⟩; (· (go_simp; rfl)); simp only [Act.put, List.setIfInBounds_toArray, List.set_cons_zero, List.set_cons_succ]
          refine anyT_val (But.pre _) 9 rfl (by kernel_rfl) (by kernel_rfl) (by kernel_rfl) (fun _ _ _ _ h => h) rfl ?_; apply Exists.intro; refine ⟨fun v1 hv1 => ?_, ?_⟩; (· (go_simp; rfl)); simp only [Act.put, List.setIfInBounds_toArray, List.set_cons_zero, List.set_cons_succ]
          have kg := block_cell g6
          have fg := block_frozen g6
          refine anyT_one 11 rfl (by kernel_rfl) rfl ?_
          unfold Oper.wp
          go_simp
          generalize hV : (W6.setCell ⟨gp, 0, none⟩ _).setCell ⟨gp, 1, none⟩ _ = V
          have hV8 : V = putRow W6 gp 0 [.int .u16 u, .int .u16 v] := hV.symm
          have hbV : But (fun b => wm.heap.size ≤ b) W6 V := by rw [hV8]; exact putRow_but (E := fun b => wm.heap.size ≤ b) (n := gp) hge _ _ _ _ (But.refl _ _)
          have pV := putRow_all ([.int .u16 u, .int .u16 v] : List Value) g6 rfl
          rw [← hV8] at pV
          clear hV hV8 kg fg
          refine ⟨hbV, ?_⟩
          refine anyT_one 12 rfl (by kernel_rfl) rfl ?_
          unfold Oper.wp
          go_simp
          refine ⟨But.refl _ _, ?_⟩
          refine anyT_done (by kernel_rfl) ?_
          have hbl : Below wm.heap.size wm V := b6.trans (hbV.below b6.size (fun k hk e => by omega))
          go_wp2_with fail
          go_meet
          exact ⟨_, u, v, rfl, rfl, pV, HAB, hbl⟩
      case rest =>
        obtain ⟨gp, u, v, rfl, rfl, hgp, HAB, hb2c⟩ := hcut
        have q5 := (hb2c.block gq (Array.getElem?_eq_some_iff.1 qc).1).trans qc
        have r5 := (hb2c.block _ (Array.getElem?_eq_some_iff.1 rc).1).trans rc
        have hw5 := hwc.trans (hb2c.mono hwc.size)
        have kq := block_cell q5
        have kg := block_cell hgp
        go_wp2_with fail
        clear kq kg
        refine (told_any q1 q2 q4 pr qs qd u v e0 q3 _ _ wc).mono ?_
        rintro e w7 ⟨hb7, ⟨hx, rfl⟩ | ⟨hx, rfl⟩⟩
        · have HX := hide hx
          clear hx
          have rX := (Below.block hb7 _ (Array.getElem?_eq_some_iff.1 r5).1).trans r5
          have hwX := hw5.trans (hb7.mono hw5.size)
          have kX := block_cell rX
          have fX := block_frozen rX
          go_wp2_with fail
          generalize hV : ((((w7.setCell ⟨w.heap.size + 1, 0, none⟩ _).setCell ⟨w.heap.size + 1, 1, none⟩ _).setCell ⟨w.heap.size + 1, 2, none⟩ _).setCell ⟨w.heap.size + 1, 3, none⟩ _).setCell ⟨w.heap.size + 1, 4, none⟩ _ = V
          have hV8 : V = putRow w7 (w.heap.size + 1) 0 [.int .u8 0, .int .u32 0, .int .u32 0, .int .u16 0, .int .u16 0] := hV.symm
          have hbV : But (fun b => b = w.heap.size + 1) w7 V := by rw [hV8]; exact putRow_but (E := fun b => b = w.heap.size + 1) (n := w.heap.size + 1) rfl _ _ _ _ (But.refl _ _)
          have pV := putRow_all ([.int .u8 0, .int .u32 0, .int .u32 0, .int .u16 0, .int .u16 0] : List Value) rX rfl
          rw [← hV8] at pV
          clear hV hV8 kX fX
          have PV := block_cell pV
          have hwV : Below w.heap.size w V := hwX.trans (hbV.below hwX.size (fun k hk e => by omega))
          exact bodyPost_ret (v := .tuple #[.agg #[.int .u8 0, .int .u32 0, .int .u32 0, .int .u16 0, .int .u16 0], .int .i64 e0]) (by simp [results, Tryz.results128, go_sem, PV]) rfl ⟨hwV, by rw [otv_no HX.out]⟩
        · subst hx
          obtain ⟨rfl, rfl⟩ := HAB.out rfl
          have rX := (Below.block hb7 _ (Array.getElem?_eq_some_iff.1 r5).1).trans r5
          have hwX := hw5.trans (hb7.mono hw5.size)
          have kX := block_cell rX
          have fX := block_frozen rX
          go_wp2_with fail
          generalize hV : ((((w7.setCell ⟨w.heap.size + 1, 0, none⟩ _).setCell ⟨w.heap.size + 1, 1, none⟩ _).setCell ⟨w.heap.size + 1, 2, none⟩ _).setCell ⟨w.heap.size + 1, 3, none⟩ _).setCell ⟨w.heap.size + 1, 4, none⟩ _ = V
          have hV8 : V = putRow w7 (w.heap.size + 1) 0 [.int .u8 pr, .int .u32 qs, .int .u32 qd, .int .u16 u, .int .u16 v] := hV.symm
          have hbV : But (fun b => b = w.heap.size + 1) w7 V := by rw [hV8]; exact putRow_but (E := fun b => b = w.heap.size + 1) (n := w.heap.size + 1) rfl _ _ _ _ (But.refl _ _)
          have pV := putRow_all ([.int .u8 pr, .int .u32 qs, .int .u32 qd, .int .u16 u, .int .u16 v] : List Value) rX rfl
          rw [← hV8] at pV
          clear hV hV8 kX fX
          have PV := block_cell pV
          have hwV : Below w.heap.size w V := hwX.trans (hbV.below hwX.size (fun k hk e => by omega))
          exact bodyPost_ret (v := .tuple #[.agg #[.int .u8 pr, .int .u32 qs, .int .u32 qd, .int .u16 u, .int .u16 v], .int .i64 0]) (by simp [results, Tryz.results128, go_sem, PV]) rfl ⟨hwV, by rw [HQS.out, HQD.out]; rfl⟩
end Go.Proofs.YtohflohdbkamnaaGreatDoor

/- Layer 5: Quoted in one form. -/
namespace Go.Proofs.YtohflohdbkamnaaGreatDoor
open Go.RowKit Go.Shelf
set_option maxRecDepth 100000
set_option linter.unusedVariables false
set_option linter.unusedSimpArgs false

set_option maxHeartbeats 8000000 in
theorem quoted_other (pr : Int) (tos id ttl proto src dst : Int) (keep : Bool) (so sd : Value) (zd : List Int) (w : World) (hT : Tb w) (hB : Mt.By zd) (hI : Rd w.heap.size w sd zd) (hl : zd.length ≤ 140737488355328) (hpi : pie proto zd = 0) (her : erb (zd[0]?.getD 0) = true) (hrd : rde true (zd.drop 8) = 0) (hpr : (zd.drop 8)[9]?.getD 0 = pr) (h8 : 8 ≤ (qdt (zd.drop 8)).length) (hno : pr ≠ 6 ∧ pr ≠ 17 ∧ pr ≠ 1 ∧ pr ≠ 47) :
    Calls Tryz.prog 128 #[.agg #[.int .u8 tos, .int .u16 id, .bool keep, .int .u8 ttl, .int .u8 proto, .int .u32 src, .int .u32 dst, so, sd]] w fun e w' => Below w.heap.size w w' ∧ e = .returned (.tuple #[.agg #[.int .u8 0, .int .u32 0, .int .u32 0, .int .u16 0, .int .u16 0], .int .i64 12]) := by
  obtain ⟨ad, cd, rfl, _, _⟩ := hI.slice
  have hb0 : Below w.heap.size w ((w.alloc (.cells #[.int .u8 tos, .int .u16 id, .bool keep, .int .u8 ttl, .int .u8 proto, .int .u32 src, .int .u32 dst, so, .slice ad zd.length cd] 78)).alloc (.cells #[.int .u8 0, .int .u32 0, .int .u32 0, .int .u16 0, .int .u16 0] 69)) := ((Below.refl _ _).alloc (Nat.le_refl _) _).alloc (by simp) _
  have r0 := heap_alloc_new (w.alloc (.cells #[.int .u8 tos, .int .u16 id, .bool keep, .int .u8 ttl, .int .u8 proto, .int .u32 src, .int .u32 dst, so, .slice ad zd.length cd] 78)) (.cells #[.int .u8 0, .int .u32 0, .int .u32 0, .int .u16 0, .int .u16 0] 69)
  rw [World.size_alloc] at r0
  have R0 := hide r0
  clear r0
  go_enter Tryz.func128, Tryz.ntmps128
  go_wp2_with fail
  generalize ((w.alloc (.cells #[.int .u8 tos, .int .u16 id, .bool keep, .int .u8 ttl, .int .u8 proto, .int .u32 src, .int .u32 dst, so, .slice ad zd.length cd] 78)).alloc (.cells #[.int .u8 0, .int .u32 0, .int .u32 0, .int .u16 0, .int .u16 0] 69)) = w0 at *
  refine (parseIcmp_any tos id ttl proto src dst keep _ _ zd w0 hB ((hI.below hb0).mono hb0.size) hl).mono ?_
  rintro e w1 ⟨hb1, ⟨hff, rfl⟩ | ⟨hff, a1, c1, rfl, hO⟩⟩
  · exact absurd hpi hff
  · have la : Later w1 (w1.alloc (.cells #[.int .u8 (zd[0]?.getD 0), .int .u8 (zd[1]?.getD 0), .int .u32 (wat4 zd 4), .slice a1 (zd.length - 8) c1] 154)) := (Below.refl _ _).alloc (Nat.le_refl _) _
    have l1 := Later.trans hb1 la
    have mW := heap_alloc_new w1 (.cells #[.int .u8 (zd[0]?.getD 0), .int .u8 (zd[1]?.getD 0), .int .u32 (wat4 zd 4), .slice a1 (zd.length - 8) c1] 154)
    have rW := later_keep l1 R0.out
    have hwW := hb0.trans (l1.mono hb0.size)
    have DW := hO.ck (CK.of la)
    clear hff
    go_wp2_with fail
    generalize w1.alloc (.cells #[.int .u8 (zd[0]?.getD 0), .int .u8 (zd[1]?.getD 0), .int .u32 (wat4 zd 4), .slice a1 (zd.length - 8) c1] 154) = W at *
    generalize w1.heap.size = gm at *
    refine (isError_any (zd[0]?.getD 0) (zd[1]?.getD 0) (wat4 zd 4) _ W).mono ?_
    rw [show (zd[0]?.getD 0 == 3 || (zd[0]?.getD 0 == 11 || zd[0]?.getD 0 == 12)) = true from her]
    rintro e w2 ⟨rfl, hb2⟩
    have l2 : Later W w2 := hb2
    have r2 := later_keep l2 rW
    have hw2 := hwW.trans (hb2.mono hwW.size)
    have km := block_cell (later_keep l2 mW)
    have D2 := DW.ck (CK.of l2)
    go_wp2_with fail
    clear km
    refine (quote_any _ (zd.drop 8) w2 (hB.drop 8) (by simp; omega) D2.rd).mono ?_
    rintro e w3 ⟨hb3, ⟨hf3, _⟩ | ⟨_, qo, qs0, rfl, hO3, hD3⟩⟩
    · exact absurd hrd hf3
    obtain ⟨b7, c7, rfl, _, _⟩ := hO3.slice
    obtain ⟨b8, c8, rfl, hc8, hc9⟩ := hD3.slice
    unfold pkt
    have HPR := hide hpr
    rw [hpr]
    clear hpr hpi her hrd
    generalize (zd.drop 8)[1]?.getD 0 = q1 at *
    generalize wat (zd.drop 8) 4 = q2 at *
    generalize decide (16384 ≤ wat (zd.drop 8) 6 % 32768) = q3 at *
    generalize (zd.drop 8)[8]?.getD 0 = q4 at *
    generalize hqs : wat4 (zd.drop 8) 12 = qs at *
    generalize hqd : wat4 (zd.drop 8) 16 = qd at *
    have HQS := hide hqs
    have HQD := hide hqd
    clear hqs hqd
    generalize (((zd.drop 8).take (hl4 (zd.drop 8)).toNat).drop 20).length = l7 at *
    clear hO3
    rw [show ((zd.drop 8).take (ral true (zd.drop 8)).toNat).drop (hl4 (zd.drop 8)).toNat = qdt (zd.drop 8) from rfl] at hD3 hc8 ⊢
    generalize hdq : qdt (zd.drop 8) = dq at *
    have HDQ := hide hdq
    clear hdq
    obtain ⟨g8, rfl, _, _, hcs, _⟩ := hD3.at (by omega)
    have la3 : Later w3 (w3.alloc (.cells #[.int .u8 q1, .int .u16 q2, .bool q3, .int .u8 q4, .int .u8 pr, .int .u32 qs, .int .u32 qd, .slice b7 l7 c7, .slice (some ⟨g8, 0, none⟩) dq.length c8] 78)) := (Below.refl _ _).alloc (Nat.le_refl _) _
    have l3 := Later.trans hb3 la3
    have qk := heap_alloc_new w3 (.cells #[.int .u8 q1, .int .u16 q2, .bool q3, .int .u8 q4, .int .u8 pr, .int .u32 qs, .int .u32 qd, .slice b7 l7 c7, .slice (some ⟨g8, 0, none⟩) dq.length c8] 78)
    have r3 := later_keep l3 r2
    have hw3 := hw2.trans (l3.mono hw2.size)
    have HCS : Hid (∀ j, j < dq.length → w3.cell? ⟨g8, j, none⟩ = some (.int .u8 (dq[j]?.getD 0))) := fun j h => (hcs j h).1
    have hgq : w.heap.size + 1 < w3.heap.size := Nat.lt_of_lt_of_le (Array.getElem?_eq_some_iff.1 r2).1 hb3.size
    clear D2 hD3 hcs
    go_upto_region 9 with fail
    have HC3 : Hid (∀ j, j < dq.length → (w3.alloc (.cells #[.int .u8 q1, .int .u16 q2, .bool q3, .int .u8 q4, .int .u8 pr, .int .u32 qs, .int .u32 qd, .slice b7 l7 c7, .slice (some ⟨g8, 0, none⟩) dq.length c8] 78)).cell? ⟨g8, j, none⟩ = some (.int .u8 (dq[j]?.getD 0))) := fun j h => la3.cell (HCS.out j h)
    clear HCS
    generalize w3.alloc (.cells #[.int .u8 q1, .int .u16 q2, .bool q3, .int .u8 q4, .int .u8 pr, .int .u32 qs, .int .u32 qd, .slice b7 l7 c7, .slice (some ⟨g8, 0, none⟩) dq.length c8] 78) = w0q at *
    generalize w3.heap.size = gq at *
    have hlt0 : gq < w0q.heap.size := (Array.getElem?_eq_some_iff.1 qk).1
    go_cut [7, 8] (fun q x wx => ∃ g, q = .pointer (some ⟨g, 0, none⟩) ∧ x = .bool false ∧ wx.heap[g]? = some (.cells #[.nilFunc, .nilFunc] 241 (0, 0)) ∧ Below w0q.heap.size w0q wx)
    case first =>
      refine anyT_begin (R := But (fun b => w0q.heap.size ≤ b)) 10 rfl (by kernel_rfl) ?_
      have hd : Later w0q w0q.drew := Later.drew w0q
      have pd := (hd.block gq (Array.getElem?_eq_some_iff.1 qk).1).trans qk
      have bd : Below w0q.heap.size w0q w0q.drew := hd
      generalize w0q.drew = Wd at *
      have ha : ∀ v1, But (fun b => w0q.heap.size ≤ b) Wd v1 → ∀ i, v1.cell? ⟨gq, i, none⟩ = #[Value.int .u8 q1, .int .u16 q2, .bool q3, .int .u8 q4, .int .u8 pr, .int .u32 qs, .int .u32 qd, .slice b7 l7 c7, .slice (some ⟨g8, 0, none⟩) dq.length c8][i]? := fun v1 h => block_cell ((h.block gq (Array.getElem?_eq_some_iff.1 pd).1 (by omega)).trans pd)
      have hz : w0q.heap.size ≤ Wd.heap.size := bd.size
      refine anyT_val (But.pre _) 1 rfl (by kernel_rfl) (by kernel_rfl) (by kernel_rfl) (fun _ _ _ _ h => h) rfl ?_; apply Exists.intro; refine ⟨fun v1 hv1 => ?_, ?_⟩; (· (go_simp; rfl)); simp only [Act.put, List.setIfInBounds_toArray, List.set_cons_zero, List.set_cons_succ]
      refine anyT_val (But.pre _) 2 rfl (by kernel_rfl) (by kernel_rfl) (by kernel_rfl) (fun _ _ _ _ h => h) rfl ?_; apply Exists.intro; refine ⟨fun v1 hv1 => ?_, ?_⟩; (· (go_simp; rfl)); simp only [Act.put, List.setIfInBounds_toArray, List.set_cons_zero, List.set_cons_succ]
      refine anyT_two 0 7 rfl rfl (by kernel_rfl) rfl rfl ?_ ?_
      · skip
        refine wp_enter 126 #[] (by go_simp) ?_
        refine (readers_any Wd).mono ?_
        rintro e W3 ⟨m, rfl, hb3, hM3⟩
        have l3 : Later Wd W3 := hb3
        refine ⟨But.of l3, ?_⟩
        simp only [Act.put, List.setIfInBounds_toArray, List.set_cons_zero, List.set_cons_succ]
        have hlk := look_none hno hM3
        refine anyT_two 3 7 rfl rfl (by kernel_rfl) rfl rfl ?_ ?_
        · unfold Oper.wp
          go_simp
          refine ⟨But.refl _ _, ?_⟩
          clear hlk
          refine anyT_val (But.pre _) 4 rfl (by kernel_rfl) (by kernel_rfl) (by kernel_rfl) (fun _ _ _ _ h => h) rfl ?_; apply Exists.intro; refine ⟨fun v1 hv1 => ?_, ?_⟩; (· (go_simp; rfl)); simp only [Act.put, List.setIfInBounds_toArray, List.set_cons_zero, List.set_cons_succ]
          refine anyT_val (But.pre _) 5 rfl (by kernel_rfl) (by kernel_rfl) (by kernel_rfl) (fun _ _ _ _ h => h) rfl ?_; apply Exists.intro; refine ⟨fun v1 hv1 => ?_, ?_⟩; (· (go_simp; rfl)); simp only [Act.put, List.setIfInBounds_toArray, List.set_cons_zero, List.set_cons_succ]
          refine anyT_val (But.pre _) 6 rfl (by kernel_rfl) (by kernel_rfl) (by kernel_rfl) (fun _ _ _ _ h => h) rfl ?_; apply Exists.intro; refine ⟨fun v1 hv1 => ?_, ?_⟩; (· (go_simp; rfl)); simp only [Act.put, List.setIfInBounds_toArray, List.set_cons_zero, List.set_cons_succ]
          refine anyT_one 7 rfl (by kernel_rfl) rfl ?_
          unfold Oper.wp
          go_simp
          have l4 : Later W3 (W3.alloc (.cells #[.nilFunc, .nilFunc] 241)) := (Below.refl _ _).alloc (Nat.le_refl _) _
          have g4 := heap_alloc_new W3 (.cells #[.nilFunc, .nilFunc] 241)
          have b4 : Below w0q.heap.size w0q (W3.alloc (.cells #[.nilFunc, .nilFunc] 241)) := (bd.trans (l3.mono hz)).trans (l4.mono (Nat.le_trans hz l3.size))
          have hge : w0q.heap.size ≤ W3.heap.size := Nat.le_trans hz l3.size
          refine ⟨But.of l4, ?_⟩
          generalize W3.alloc (.cells #[.nilFunc, .nilFunc] 241) = W4 at *
          generalize W3.heap.size = g at *
          have kg := block_cell g4
          have fg := block_frozen g4
          have hsf := run_store_nf Tryz.prog
          refine anyT_one 8 rfl (by kernel_rfl) rfl ?_
          unfold Oper.wp
          go_simp
          generalize hV : (W4.setCell ⟨g, 0, none⟩ _).setCell ⟨g, 1, none⟩ _ = V
          have hV8 : V = putRow W4 (g) 0 [.nilFunc, .nilFunc] := hV.symm
          have hbV : But (fun b => w0q.heap.size ≤ b) W4 V := by rw [hV8]; exact putRow_but (E := fun b => w0q.heap.size ≤ b) (n := g) hge _ _ _ _ (But.refl _ _)
          have pV := putRow_all [Value.nilFunc, .nilFunc] g4 rfl
          rw [← hV8] at pV
          clear hV hV8 kg fg hsf
          refine ⟨hbV, ?_⟩
          refine anyT_one 9 rfl (by kernel_rfl) rfl ?_
          unfold Oper.wp
          go_simp
          refine ⟨But.refl _ _, ?_⟩
          refine anyT_done (by kernel_rfl) ?_
          have hbl : Below w0q.heap.size w0q V := b4.trans (hbV.below b4.size (fun k hk e => by omega))
          clear ha
          go_wp2_with fail
          go_meet
          exact ⟨_, rfl, rfl, pV, hbl⟩
        · unfold Oper.wp
          go_simp
          have l4 : Later W3 (W3.alloc (.cells #[.nilFunc, .nilFunc] 241)) := (Below.refl _ _).alloc (Nat.le_refl _) _
          have g4 := heap_alloc_new W3 (.cells #[.nilFunc, .nilFunc] 241)
          have b4 : Below w0q.heap.size w0q (W3.alloc (.cells #[.nilFunc, .nilFunc] 241)) := (bd.trans (l3.mono hz)).trans (l4.mono (Nat.le_trans hz l3.size))
          have hge : w0q.heap.size ≤ W3.heap.size := Nat.le_trans hz l3.size
          have hM4 := (l4.block m (Array.getElem?_eq_some_iff.1 hM3).1).trans hM3
          refine ⟨But.of l4, ?_⟩
          clear hlk
          generalize W3.alloc (.cells #[.nilFunc, .nilFunc] 241) = W4 at *
          generalize W3.heap.size = g at *
          have hlk := look_none hno hM4
          refine anyT_one 3 rfl (by kernel_rfl) rfl ?_
          unfold Oper.wp
          go_simp
          refine ⟨But.refl _ _, ?_⟩
          clear hlk
          refine anyT_val (But.pre _) 4 rfl (by kernel_rfl) (by kernel_rfl) (by kernel_rfl) (fun _ _ _ _ h => h) rfl ?_; apply Exists.intro; refine ⟨fun v1 hv1 => ?_, ?_⟩; (· (go_simp; rfl)); simp only [Act.put, List.setIfInBounds_toArray, List.set_cons_zero, List.set_cons_succ]
          refine anyT_val (But.pre _) 5 rfl (by kernel_rfl) (by kernel_rfl) (by kernel_rfl) (fun _ _ _ _ h => h) rfl ?_; apply Exists.intro; refine ⟨fun v1 hv1 => ?_, ?_⟩; (· (go_simp; rfl)); simp only [Act.put, List.setIfInBounds_toArray, List.set_cons_zero, List.set_cons_succ]
          refine anyT_val (But.pre _) 6 rfl (by kernel_rfl) (by kernel_rfl) (by kernel_rfl) (fun _ _ _ _ h => h) rfl ?_; apply Exists.intro; refine ⟨fun v1 hv1 => ?_, ?_⟩; (· (go_simp; rfl)); simp only [Act.put, List.setIfInBounds_toArray, List.set_cons_zero, List.set_cons_succ]
          have kg := block_cell g4
          have fg := block_frozen g4
          have hsf := run_store_nf Tryz.prog
          refine anyT_one 8 rfl (by kernel_rfl) rfl ?_
          unfold Oper.wp
          go_simp
          generalize hV : (W4.setCell ⟨g, 0, none⟩ _).setCell ⟨g, 1, none⟩ _ = V
          have hV8 : V = putRow W4 (g) 0 [.nilFunc, .nilFunc] := hV.symm
          have hbV : But (fun b => w0q.heap.size ≤ b) W4 V := by rw [hV8]; exact putRow_but (E := fun b => w0q.heap.size ≤ b) (n := g) hge _ _ _ _ (But.refl _ _)
          have pV := putRow_all [Value.nilFunc, .nilFunc] g4 rfl
          rw [← hV8] at pV
          clear hV hV8 kg fg hsf
          refine ⟨hbV, ?_⟩
          refine anyT_one 9 rfl (by kernel_rfl) rfl ?_
          unfold Oper.wp
          go_simp
          refine ⟨But.refl _ _, ?_⟩
          refine anyT_done (by kernel_rfl) ?_
          have hbl : Below w0q.heap.size w0q V := b4.trans (hbV.below b4.size (fun k hk e => by omega))
          clear ha
          go_wp2_with fail
          go_meet
          exact ⟨_, rfl, rfl, pV, hbl⟩
      · unfold Oper.wp
        go_simp
        have l4 : Later Wd (Wd.alloc (.cells #[.nilFunc, .nilFunc] 241)) := (Below.refl _ _).alloc (Nat.le_refl _) _
        have g4 := heap_alloc_new Wd (.cells #[.nilFunc, .nilFunc] 241)
        have b4 : Below w0q.heap.size w0q (Wd.alloc (.cells #[.nilFunc, .nilFunc] 241)) := bd.trans (l4.mono hz)
        refine ⟨But.of l4, ?_⟩
        have hge : w0q.heap.size ≤ Wd.heap.size := hz
        generalize Wd.alloc (.cells #[.nilFunc, .nilFunc] 241) = W4 at *
        generalize Wd.heap.size = g at *
        refine anyT_one 0 rfl (by kernel_rfl) rfl ?_
        refine wp_enter 126 #[] (by go_simp) ?_
        refine (readers_any W4).mono ?_
        rintro e W5 ⟨m, rfl, hb5, hM5⟩
        have l5 : Later W4 W5 := hb5
        have g5 := (l5.block g (Array.getElem?_eq_some_iff.1 g4).1).trans g4
        have b5 : Below w0q.heap.size w0q W5 := b4.trans (l5.mono b4.size)
        refine ⟨But.of l5, ?_⟩
        simp only [Act.put, List.setIfInBounds_toArray, List.set_cons_zero, List.set_cons_succ]
        have hlk := look_none hno hM5
        refine anyT_one 3 rfl (by kernel_rfl) rfl ?_
        unfold Oper.wp
        go_simp
        refine ⟨But.refl _ _, ?_⟩
        clear hlk
        refine anyT_val (But.pre _) 4 rfl (by kernel_rfl) (by kernel_rfl) (by kernel_rfl) (fun _ _ _ _ h => h) rfl ?_; apply Exists.intro; refine ⟨fun v1 hv1 => ?_, ?_⟩; (· (go_simp; rfl)); simp only [Act.put, List.setIfInBounds_toArray, List.set_cons_zero, List.set_cons_succ]
        refine anyT_val (But.pre _) 5 rfl (by kernel_rfl) (by kernel_rfl) (by kernel_rfl) (fun _ _ _ _ h => h) rfl ?_; apply Exists.intro; refine ⟨fun v1 hv1 => ?_, ?_⟩; (· (go_simp; rfl)); simp only [Act.put, List.setIfInBounds_toArray, List.set_cons_zero, List.set_cons_succ]
        refine anyT_val (But.pre _) 6 rfl (by kernel_rfl) (by kernel_rfl) (by kernel_rfl) (fun _ _ _ _ h => h) rfl ?_; apply Exists.intro; refine ⟨fun v1 hv1 => ?_, ?_⟩; (· (go_simp; rfl)); simp only [Act.put, List.setIfInBounds_toArray, List.set_cons_zero, List.set_cons_succ]
        have kg := block_cell g5
        have fg := block_frozen g5
        have hsf := run_store_nf Tryz.prog
        refine anyT_one 8 rfl (by kernel_rfl) rfl ?_
        unfold Oper.wp
        go_simp
        generalize hV : (W5.setCell ⟨g, 0, none⟩ _).setCell ⟨g, 1, none⟩ _ = V
        have hV8 : V = putRow W5 (g) 0 [.nilFunc, .nilFunc] := hV.symm
        have hbV : But (fun b => w0q.heap.size ≤ b) W5 V := by rw [hV8]; exact putRow_but (E := fun b => w0q.heap.size ≤ b) (n := g) hge _ _ _ _ (But.refl _ _)
        have pV := putRow_all [Value.nilFunc, .nilFunc] g5 rfl
        rw [← hV8] at pV
        clear hV hV8 kg fg hsf
        refine ⟨hbV, ?_⟩
        refine anyT_one 9 rfl (by kernel_rfl) rfl ?_
        unfold Oper.wp
        go_simp
        refine ⟨But.refl _ _, ?_⟩
        refine anyT_done (by kernel_rfl) ?_
        have hbl : Below w0q.heap.size w0q V := b5.trans (hbV.below b5.size (fun k hk e => by omega))
        clear ha
        go_wp2_with fail
        go_meet
        exact ⟨_, rfl, rfl, pV, hbl⟩
    case rest =>
      obtain ⟨g, rfl, rfl, hg, hbc⟩ := hcut
      have rX := (hbc.block _ (Array.getElem?_eq_some_iff.1 r3).1).trans r3
      have hwX := hw3.trans (hbc.mono hw3.size)
      have kX := block_cell rX
      have fX := block_frozen rX
      go_wp2_with fail
      generalize hV : ((((wc.setCell ⟨w.heap.size + 1, 0, none⟩ _).setCell ⟨w.heap.size + 1, 1, none⟩ _).setCell ⟨w.heap.size + 1, 2, none⟩ _).setCell ⟨w.heap.size + 1, 3, none⟩ _).setCell ⟨w.heap.size + 1, 4, none⟩ _ = V
      have hV8 : V = putRow wc (w.heap.size + 1) 0 [.int .u8 0, .int .u32 0, .int .u32 0, .int .u16 0, .int .u16 0] := hV.symm
      have hbV : But (fun b => b = w.heap.size + 1) wc V := by rw [hV8]; exact putRow_but (E := fun b => b = w.heap.size + 1) (n := w.heap.size + 1) rfl _ _ _ _ (But.refl _ _)
      have pV := putRow_all ([.int .u8 0, .int .u32 0, .int .u32 0, .int .u16 0, .int .u16 0] : List Value) rX rfl
      rw [← hV8] at pV
      clear hV hV8 kX fX
      have PV := block_cell pV
      have hwV : Below w.heap.size w V := hwX.trans (hbV.below hwX.size (fun k hk e => by omega))
      exact bodyPost_ret (v := .tuple #[.agg #[.int .u8 0, .int .u32 0, .int .u32 0, .int .u16 0, .int .u16 0], .int .i64 12]) (by simp [results, Tryz.results128, go_sem, PV]) rfl ⟨hwV, rfl⟩

theorem take8 (d : List Int) (h : 8 ≤ d.length) : d.take 8 = [d[0]?.getD 0, d[1]?.getD 0, d[2]?.getD 0, d[3]?.getD 0, d[4]?.getD 0, d[5]?.getD 0, d[6]?.getD 0, d[7]?.getD 0] := by
  match d, h with
  | x0 :: x1 :: x2 :: x3 :: x4 :: x5 :: x6 :: x7 :: r, _ => rfl
theorem By8 {d : List Int} (hB : Mt.By d) (h : 8 ≤ d.length) : Mt.By [d[0]?.getD 0, d[1]?.getD 0, d[2]?.getD 0, d[3]?.getD 0, d[4]?.getD 0, d[5]?.getD 0, d[6]?.getD 0, d[7]?.getD 0] := by rw [← take8 d h]; exact hB.take 8
theorem g8_0 (d : List Int) : getAt2 [d[0]?.getD 0, d[1]?.getD 0, d[2]?.getD 0, d[3]?.getD 0, d[4]?.getD 0, d[5]?.getD 0, d[6]?.getD 0, d[7]?.getD 0] 0 = wat d 0 := rfl
theorem g8_2 (d : List Int) : getAt2 [d[0]?.getD 0, d[1]?.getD 0, d[2]?.getD 0, d[3]?.getD 0, d[4]?.getD 0, d[5]?.getD 0, d[6]?.getD 0, d[7]?.getD 0] 2 = wat d 2 := rfl
theorem g8_4 (d : List Int) : getAt2 [d[0]?.getD 0, d[1]?.getD 0, d[2]?.getD 0, d[3]?.getD 0, d[4]?.getD 0, d[5]?.getD 0, d[6]?.getD 0, d[7]?.getD 0] 4 = wat d 4 := rfl
theorem g8_6 (d : List Int) : getAt2 [d[0]?.getD 0, d[1]?.getD 0, d[2]?.getD 0, d[3]?.getD 0, d[4]?.getD 0, d[5]?.getD 0, d[6]?.getD 0, d[7]?.getD 0] 6 = wat d 6 := rfl
theorem qdt_len {mz : List Int} (hB : Mt.By mz) (h : rde true mz = 0) : 8 ≤ (qdt mz).length := by
  unfold rde at h
  have hh := hl4_bd hB
  by_cases h1 : msr mz ≠ 0
  · rw [if_pos h1] at h; exact absurd h h1
  rw [if_neg h1] at h
  by_cases h2 : (mz.length : Int) < ral true mz
  · rw [if_pos h2] at h; exact absurd h (by decide)
  rw [if_neg h2] at h
  by_cases h3 : chk mz ≠ 0
  · rw [if_pos h3] at h; exact absurd h h3
  rw [if_neg h3] at h
  by_cases h4 : ral true mz - hl4 mz < 8
  · rw [if_pos ⟨rfl, h4⟩] at h; exact absurd h (by decide)
  unfold qdt
  rw [List.length_drop, List.length_take]
  omega
theorem By_qdt {mz : List Int} (hB : Mt.By mz) : Mt.By (qdt mz) := (hB.take _).drop _

theorem cf_two (args : Array Value) (w : World) : (callFunc 171 args).run Tryz.prog w = .ok (.enter 171 args) w := by kernel_rfl

theorem cf_echo (args : Array Value) (w : World) : (callFunc 174 args).run Tryz.prog w = .ok (.enter 174 args) w := by kernel_rfl

theorem cf_begin (args : Array Value) (w : World) : (callFunc 176 args).run Tryz.prog w = .ok (.enter 176 args) w := by kernel_rfl

def quv (proto : Int) (zd : List Int) : Value := otv (que proto zd) (qpr (zd.drop 8)) (wat4 (zd.drop 8) 12) (wat4 (zd.drop 8) 16) (qia (qpr (zd.drop 8)) (qdt (zd.drop 8))) (qib (qpr (zd.drop 8)) (qdt (zd.drop 8)))

set_option maxHeartbeats 2000000 in
theorem quoted_any (tos id ttl proto src dst : Int) (keep : Bool) (so sd : Value) (zd : List Int) (w : World) (hT : Tb w) (hB : Mt.By zd) (hI : Rd w.heap.size w sd zd) (hl : zd.length ≤ 140737488355328) :
    Calls Tryz.prog 128 #[.agg #[.int .u8 tos, .int .u16 id, .bool keep, .int .u8 ttl, .int .u8 proto, .int .u32 src, .int .u32 dst, so, sd]] w fun e w' => Below w.heap.size w w' ∧ e = .returned (.tuple #[quv proto zd, .int .i64 (que proto zd)]) := by
  unfold quv
  by_cases hpi : pie proto zd = 0
  · cases her : erb (zd[0]?.getD 0) with
    | false =>
      have hq : que proto zd = 12 := by unfold que; rw [if_neg (fun h => h hpi), if_pos her]
      rw [otv_no (by rw [hq]; decide)]
      exact quoted_bad tos id ttl proto src dst keep so sd zd w hT hB hI hl (.inr (.inl her))
    | true =>
      by_cases hrd : rde true (zd.drop 8) = 0
      · have h8 := qdt_len (hB.drop 8) hrd
        have hBq := By8 (By_qdt (hB.drop 8)) h8
        have hq : que proto zd = qie (qpr (zd.drop 8)) (qdt (zd.drop 8)) := by unfold que; rw [if_neg (fun h => h hpi), if_neg (by rw [her]; decide), if_neg (fun h => h hrd)]
        rw [hq]
        obtain ⟨pr, hpr⟩ : ∃ pr, (zd.drop 8)[9]?.getD 0 = pr := ⟨_, rfl⟩
        rw [show qpr (zd.drop 8) = pr from hpr]
        by_cases h6 : pr = 6
        · subst h6
          exact quoted_gen 6 (wat (qdt (zd.drop 8)) 0) (wat (qdt (zd.drop 8)) 2) 0 _ _ tos id ttl proto src dst keep so sd zd w hT hB hI hl hpi her hrd hpr h8 (fun _ _ h => look_tcp h) cf_two (fun w' hb => (ofTwo_any ((qdt (zd.drop 8))[0]?.getD 0) ((qdt (zd.drop 8))[1]?.getD 0) ((qdt (zd.drop 8))[2]?.getD 0) ((qdt (zd.drop 8))[3]?.getD 0) ((qdt (zd.drop 8))[4]?.getD 0) ((qdt (zd.drop 8))[5]?.getD 0) ((qdt (zd.drop 8))[6]?.getD 0) ((qdt (zd.drop 8))[7]?.getD 0) w' hBq).mono fun e w'' h => ⟨h.1, _, _, h.2, fun _ => ⟨g8_0 _, g8_2 _⟩⟩)
        by_cases h17 : pr = 17
        · subst h17
          exact quoted_gen 17 (wat (qdt (zd.drop 8)) 0) (wat (qdt (zd.drop 8)) 2) 0 _ _ tos id ttl proto src dst keep so sd zd w hT hB hI hl hpi her hrd hpr h8 (fun _ _ h => look_udp h) cf_two (fun w' hb => (ofTwo_any ((qdt (zd.drop 8))[0]?.getD 0) ((qdt (zd.drop 8))[1]?.getD 0) ((qdt (zd.drop 8))[2]?.getD 0) ((qdt (zd.drop 8))[3]?.getD 0) ((qdt (zd.drop 8))[4]?.getD 0) ((qdt (zd.drop 8))[5]?.getD 0) ((qdt (zd.drop 8))[6]?.getD 0) ((qdt (zd.drop 8))[7]?.getD 0) w' hBq).mono fun e w'' h => ⟨h.1, _, _, h.2, fun _ => ⟨g8_0 _, g8_2 _⟩⟩)
        by_cases h1 : pr = 1
        · subst h1
          have hqi : qie 1 (qdt (zd.drop 8)) = if ecb ((qdt (zd.drop 8))[0]?.getD 0) ((qdt (zd.drop 8))[1]?.getD 0) = true then 0 else 12 := rfl
          rw [hqi]
          refine quoted_gen 1 (wat (qdt (zd.drop 8)) 4) (wat (qdt (zd.drop 8)) 4) _ _ _ tos id ttl proto src dst keep so sd zd w hT hB hI hl hpi her hrd hpr h8 (fun _ _ h => look_icmp h) cf_echo (fun w' hb => (ofEcho_any ((qdt (zd.drop 8))[0]?.getD 0) ((qdt (zd.drop 8))[1]?.getD 0) ((qdt (zd.drop 8))[2]?.getD 0) ((qdt (zd.drop 8))[3]?.getD 0) ((qdt (zd.drop 8))[4]?.getD 0) ((qdt (zd.drop 8))[5]?.getD 0) ((qdt (zd.drop 8))[6]?.getD 0) ((qdt (zd.drop 8))[7]?.getD 0) w' hBq).mono fun e w'' h => ?_)
          rcases h with ⟨hb2, ⟨he, rfl⟩ | ⟨he, rfl⟩⟩
          · rw [if_pos he]
            exact ⟨hb2, _, _, rfl, fun _ => ⟨g8_4 _, g8_4 _⟩⟩
          · rw [if_neg (by rw [he]; decide)]
            exact ⟨hb2, _, _, rfl, fun h => absurd h (by decide)⟩
        by_cases h47 : pr = 47
        · subst h47
          have hqi : qie 47 (qdt (zd.drop 8)) = if pge 47 ((qdt (zd.drop 8)).take 8) = 4 then 4 else 0 := rfl
          rw [hqi, take8 _ h8]
          refine quoted_gen 47 0 (wat (qdt (zd.drop 8)) 6) _ _ _ tos id ttl proto src dst keep so sd zd w hT hB hI hl hpi her hrd hpr h8 (fun _ _ h => look_gre h) cf_begin (fun w' hb => (ofBegin_any ((qdt (zd.drop 8))[0]?.getD 0) ((qdt (zd.drop 8))[1]?.getD 0) ((qdt (zd.drop 8))[2]?.getD 0) ((qdt (zd.drop 8))[3]?.getD 0) ((qdt (zd.drop 8))[4]?.getD 0) ((qdt (zd.drop 8))[5]?.getD 0) ((qdt (zd.drop 8))[6]?.getD 0) ((qdt (zd.drop 8))[7]?.getD 0) w' (hT.below hb hT.pos) hBq).mono fun e w'' h => ?_)
          rcases h with ⟨hb2, ⟨he, rfl⟩ | ⟨he, rfl⟩⟩
          · rw [if_pos he]
            exact ⟨hb2, _, _, rfl, fun h => absurd h (by decide)⟩
          · rw [if_neg he]
            exact ⟨hb2, _, _, rfl, fun _ => ⟨rfl, g8_6 _⟩⟩
        have hqi : qie pr (qdt (zd.drop 8)) = 12 := by unfold qie; rw [if_neg h6, if_neg h17, if_neg h1, if_neg h47]
        rw [hqi, otv_no (show (12 : Int) ≠ 0 by decide)]
        exact quoted_other pr tos id ttl proto src dst keep so sd zd w hT hB hI hl hpi her hrd hpr h8 ⟨h6, h17, h1, h47⟩
      · have hq : que proto zd = rde true (zd.drop 8) := by unfold que; rw [if_neg (fun h => h hpi), if_neg (by rw [her]; decide), if_pos hrd]
        rw [otv_no (by rw [hq]; exact hrd)]
        exact quoted_bad tos id ttl proto src dst keep so sd zd w hT hB hI hl (.inr (.inr hrd))
  · have hq : que proto zd = pie proto zd := if_pos hpi
    rw [otv_no (by rw [hq]; exact hpi)]
    exact quoted_bad tos id ttl proto src dst keep so sd zd w hT hB hI hl (.inl hpi)
end Go.Proofs.YtohflohdbkamnaaGreatDoor

/- Layer 7: a map that a call makes, looked up. -/
namespace Go.Proofs.YtohflohdbkamnaaGreatDoor
open Go.RowKit Go.Shelf
set_option maxRecDepth 100000
set_option linter.unusedVariables false
set_option linter.unusedSimpArgs false

end Go.Proofs.YtohflohdbkamnaaGreatDoor

/- Layer 7: what a segment tells, and what follows. -/
namespace Go.Proofs.YtohflohdbkamnaaGreatDoor
open Go.RowKit Go.Shelf
set_option maxRecDepth 100000
set_option linter.unusedVariables false
set_option linter.unusedSimpArgs false

def fb (fl k : Int) : Int := bits .and .u8 fl k
def bgn (fl : Int) : Bool := bits .and .u8 fl 23 == 2
theorem begins_any (fl : Int) (w : World) : Calls Tryz.prog 182 #[.int .u8 fl] w fun e w' => e = .returned (.bool (bgn fl)) ∧ w' = w := by
  go_enter Tryz.func182, Tryz.ntmps182
  go_wp2_with fail
  go_ret
  exact ⟨rfl, rfl⟩

end Go.Proofs.YtohflohdbkamnaaGreatDoor

/- A gateway behind which nobody has spoken, in memory; what is found in it. -/
namespace Go.Proofs.YtohflohdbkamnaaGreatDoor
open Go.RowKit Go.Shelf
set_option maxRecDepth 100000
set_option linter.unusedVariables false
set_option linter.unusedSimpArgs false

/-- A gateway's parts. -/
structure Gs where
  lo : Int
  hi : Int
  now : Int
  ls : List Ru
  gr : Nat
  gf : Nat
  gt : Nat
  gb : Nat
  gp : Nat
  vr : Value
  ve : Value
  cf : Nat
  cp : Nat
/-- Its cells. -/
def gtc (s : Gs) : List Value := [.int .u16 s.lo, .int .u16 s.hi, .int .i64 s.now, .int .i64 0, .pointer (some ⟨s.gr, 0, none⟩), .map (some s.gf), .pointer (some ⟨s.gt, 0, none⟩), .pointer (some ⟨s.gb, 0, none⟩), .map (some s.gp)]
/-- A gateway with rules and no flow, nothing expected, no number taken. -/
structure GI (base : Nat) (W : World) (g : Nat) (s : Gs) : Prop where
  bs : base ≤ g
  gc : W.heap[g]? = some (.cells (gtc s).toArray 65 (0, 0))
  rl : RL 166 base W s.gr s.vr s.ls
  tb : TB base W s.gt 128 0 0 (fun _ => [])
  bl : BL 174 base W s.gb s.ve []
  fl : W.heap[s.gf]? = some (.map #[] s.cf)
  pl : W.heap[s.gp]? = some (.map #[] s.cp)
theorem TB.laterD {base : Nat} {A B : World} {b : Nat} {lim cnt trn : Int} {ls : Nat → List Rw} (h : TB base A b lim cnt trn ls) (l : Later A B) : TB base B b lim cnt trn ls := let ⟨vs, h⟩ := h; ⟨vs, h.later l⟩
theorem GI.later {base : Nat} {A B : World} {g : Nat} {s : Gs} (h : GI base A g s) (l : Later A B) : GI base B g s :=
  ⟨h.bs, later_keep l h.gc, h.rl.later l, h.tb.laterD l, h.bl.later l, later_keep l h.fl, later_keep l h.pl⟩
theorem gtv_none (p s d a b : Int) : gtv p s d a b (fun _ => []) = .tuple #[.int .i64 0, .int .i64 0, .bool false] := rfl
theorem get_none (base gt : Nat) (p x d a b : Int) (W : World) (h : TB base W gt 128 0 0 (fun _ => [])) (hs : 0 ≤ x ∧ x ≤ 4294967295) (hd : 0 ≤ d ∧ d ≤ 4294967295) (ha : 0 ≤ a ∧ a ≤ 65535) (hb : 0 ≤ b ∧ b ≤ 65535) :
    Calls Tryz.prog 51 #[.pointer (some ⟨gt, 0, none⟩), .agg #[.int .u8 p, .int .u32 x, .int .u32 d, .int .u16 a, .int .u16 b]] W fun e w' => e = .returned (.tuple #[.int .i64 0, .int .i64 0, .bool false]) ∧ Later W w' := by
  refine (get_any base gt 128 0 0 (fun _ => []) p x d a b W h hs hd ha hb).mono ?_
  rintro e w' ⟨h1, rfl⟩
  exact ⟨by rw [gtv_none], h1⟩

set_option maxRecDepth 100000 in
set_option maxHeartbeats 4000000 in
theorem lookUp_none (base g : Nat) (s : Gs) (p x d a b : Int) (w : World) (h : GI base w g s) (hs : 0 ≤ x ∧ x ≤ 4294967295) (hd : 0 ≤ d ∧ d ≤ 4294967295) (ha : 0 ≤ a ∧ a ≤ 65535) (hb : 0 ≤ b ∧ b ≤ 65535) :
    Calls Tryz.prog 21 #[.pointer (some ⟨g, 0, none⟩), .agg #[.int .u8 p, .int .u32 x, .int .u32 d, .int .u16 a, .int .u16 b]] w fun e w' => e = .returned (.tuple #[.pointer none, .bool false, .bool false]) ∧ Later w w' := by
  have l0 := later_allocG w (.cells #[.int .u8 p, .int .u32 x, .int .u32 d, .int .u16 a, .int .u16 b] 69)
  have C0 := hide (heap_alloc_new w (.cells #[.int .u8 p, .int .u32 x, .int .u32 d, .int .u16 a, .int .u16 b] 69))
  have HG := hide (h.later l0)
  have HGT := hide (fun W (l : Later w W) => get_none base s.gt p x d a b W (h.tb.laterD l) hs hd ha hb)
  clear h hs hd ha hb
  go_enter Tryz.func21, Tryz.ntmps21
  go_upto_region 1 with fail
  generalize w.alloc _ = w1 at *
  generalize w.heap.size = gx at *
  refine anyR_begin (R := Later) Later.pre Later.drew 13 rfl (by kernel_rfl) (fun V0 hV0 => ?_)
  have q0 : ∀ v, Later V0 v → ∀ j, v.cell? ⟨gx, j, none⟩ = #[.int .u8 p, .int .u32 x, .int .u32 d, .int .u16 a, .int .u16 b][j]? := fun v hv => block_cell (later_keep (hV0.trans hv) C0.out)
  have q1 : ∀ v, Later V0 v → ∀ j, v.cell? ⟨g, j, none⟩ = (gtc s).toArray[j]? := fun v hv => block_cell (later_keep (hV0.trans hv) HG.out.gc)
  unfold gtc at q1
  refine anyR_val Later.pre 0 rfl (by kernel_rfl) (by kernel_rfl) (by kernel_rfl) (fun _ _ _ _ h => h) rfl ?_; apply Exists.intro; refine ⟨fun v1 hv1 => ?_, ?_⟩; (· (go_simp; rfl)); simp only [Act.put, List.setIfInBounds_toArray, List.set_cons_zero, List.set_cons_succ]
  refine anyR_val Later.pre 1 rfl (by kernel_rfl) (by kernel_rfl) (by kernel_rfl) (fun _ _ _ _ h => h) rfl ?_; apply Exists.intro; refine ⟨fun v1 hv1 => ?_, ?_⟩; (· (go_simp; rfl)); simp only [Act.put, List.setIfInBounds_toArray, List.set_cons_zero, List.set_cons_succ]
  refine anyR_val Later.pre 2 rfl (by kernel_rfl) (by kernel_rfl) (by kernel_rfl) (fun _ _ _ _ h => h) rfl ?_; apply Exists.intro; refine ⟨fun v1 hv1 => ?_, ?_⟩; (· (go_simp; rfl)); simp only [Act.put, List.setIfInBounds_toArray, List.set_cons_zero, List.set_cons_succ]
  refine anyR_val Later.pre 3 rfl (by kernel_rfl) (by kernel_rfl) (by kernel_rfl) (fun _ _ _ _ h => h) rfl ?_; apply Exists.intro; refine ⟨fun v1 hv1 => ?_, ?_⟩; (· (go_simp; rfl)); simp only [Act.put, List.setIfInBounds_toArray, List.set_cons_zero, List.set_cons_succ]
  refine anyR_val Later.pre 4 rfl (by kernel_rfl) (by kernel_rfl) (by kernel_rfl) (fun _ _ _ _ h => h) rfl ?_; apply Exists.intro; refine ⟨fun v1 hv1 => ?_, ?_⟩; (· (go_simp; rfl)); simp only [Act.put, List.setIfInBounds_toArray, List.set_cons_zero, List.set_cons_succ]
  clear q0 q1
  refine anyR_take Later.pre 5 (.tuple #[.int .i64 0, .int .i64 0, .bool false]) rfl (by kernel_rfl) (by kernel_rfl) (by kernel_rfl) (fun _ _ _ h => h) rfl (fun u hu => goes_call 51 #[.pointer (some ⟨s.gt, 0, none⟩), .agg #[.int .u8 p, .int .u32 x, .int .u32 d, .int .u16 a, .int .u16 b]] (by go_simp) (HGT.out u (Later.trans l0 (hV0.trans hu)))) ?_
  simp only [Act.put, List.setIfInBounds_toArray, List.set_cons_zero, List.set_cons_succ]
  refine anyR_val Later.pre 6 rfl (by kernel_rfl) (by kernel_rfl) (by kernel_rfl) (fun _ _ _ _ h => h) rfl ?_; apply Exists.intro; refine ⟨fun v1 hv1 => ?_, ?_⟩; (· (go_simp; rfl)); simp only [Act.put, List.setIfInBounds_toArray, List.set_cons_zero, List.set_cons_succ]
  refine anyR_val Later.pre 7 rfl (by kernel_rfl) (by kernel_rfl) (by kernel_rfl) (fun _ _ _ _ h => h) rfl ?_; apply Exists.intro; refine ⟨fun v1 hv1 => ?_, ?_⟩; (· (go_simp; rfl)); simp only [Act.put, List.setIfInBounds_toArray, List.set_cons_zero, List.set_cons_succ]
  refine anyR_val Later.pre 8 rfl (by kernel_rfl) (by kernel_rfl) (by kernel_rfl) (fun _ _ _ _ h => h) rfl ?_; apply Exists.intro; refine ⟨fun v1 hv1 => ?_, ?_⟩; (· (go_simp; rfl)); simp only [Act.put, List.setIfInBounds_toArray, List.set_cons_zero, List.set_cons_succ]
  refine anyR_val Later.pre 9 rfl (by kernel_rfl) (by kernel_rfl) (by kernel_rfl) (fun _ _ _ _ h => h) rfl ?_; apply Exists.intro; refine ⟨fun v1 hv1 => ?_, ?_⟩; (· (go_simp; rfl)); simp only [Act.put, List.setIfInBounds_toArray, List.set_cons_zero, List.set_cons_succ]
  refine anyR_val Later.pre 10 rfl (by kernel_rfl) (by kernel_rfl) (by kernel_rfl) (fun _ _ _ _ h => h) rfl ?_; apply Exists.intro; refine ⟨fun v1 hv1 => ?_, ?_⟩; (· (go_simp; rfl)); simp only [Act.put, List.setIfInBounds_toArray, List.set_cons_zero, List.set_cons_succ]
  refine anyR_val Later.pre 11 rfl (by kernel_rfl) (by kernel_rfl) (by kernel_rfl) (fun _ _ _ _ h => h) rfl ?_; apply Exists.intro; refine ⟨fun v1 hv1 => ?_, ?_⟩; (· (go_simp; rfl)); simp only [Act.put, List.setIfInBounds_toArray, List.set_cons_zero, List.set_cons_succ]
  refine anyR_val Later.pre 12 rfl (by kernel_rfl) (by kernel_rfl) (by kernel_rfl) (fun _ _ _ _ h => h) rfl ?_; apply Exists.intro; refine ⟨fun v1 hv1 => ?_, ?_⟩; (· (go_simp; rfl)); simp only [Act.put, List.setIfInBounds_toArray, List.set_cons_zero, List.set_cons_succ]
  refine anyR_done (by kernel_rfl) (fun V9 hV9 => ?_)
  go_wp2_with fail
  exact bodyPost_ret (v := .tuple #[.pointer none, .bool false, .bool false]) (by simp [results, Tryz.results21, go_sem]) rfl ⟨rfl, Later.trans l0 (hV0.trans hV9)⟩
end Go.Proofs.YtohflohdbkamnaaGreatDoor

/- A region that draws its order, in a round of a range over a function. -/
namespace Go.Proofs.YtohflohdbkamnaaGreatDoor
open Go.RowKit Go.Shelf
set_option maxRecDepth 100000
set_option linter.unusedVariables false

def calmQ (Q : Act → World → Prop) : Exit → Act → World → Prop := fun e a w => e = .normal ∧ Q a w
variable {P : Program} {R : World → World → Prop} {w : World} {a : Act} {ops : List Oper}
theorem anyU_two {R1 R2 : World → World → Prop} {D : List Nat} {fuel : Nat} {listed : Array Bool} {Q : Exit → Act → World → Prop} (i j : Nat) {oi oj : Oper} (hi : nthOp ops i = some oi) (hj : nthOp ops j = some oj) (hr : Region.ready .any ops.toArray listed = [i, j]) (gi : Region.wanted oi (yielded ops.toArray a.tmps) = true) (gj : Region.wanted oj (yielded ops.toArray a.tmps) = true)
    (h1 : oi.wp P a w (fun a' w'' => Rj R1 R2 D i w w'' ∧ wpAnyU P .any ops.toArray Q R1 R2 D fuel (listed.setIfInBounds i true) a' w'') Q)
    (h2 : oj.wp P a w (fun a' w'' => Rj R1 R2 D j w w'' ∧ wpAnyU P .any ops.toArray Q R1 R2 D fuel (listed.setIfInBounds j true) a' w'') Q) :
    wpAnyU P .any ops.toArray Q R1 R2 D (fuel + 1) listed a w := by
  have hi' : ops.toArray[i]? = some oi := by rw [← hi, nthOp_eq]; simp
  have hj' : ops.toArray[j]? = some oj := by rw [← hj, nthOp_eq]; simp
  refine ⟨fun h0 => (by rw [hr] at h0; cases h0), fun k hk => ?_⟩
  rw [hr] at hk
  unfold wpOp
  rcases List.mem_cons.1 hk with rfl | hk
  · rw [hi']; simp only [gi, if_true]; exact .inl h1
  · obtain rfl : k = j := by simpa using hk
    rw [hj']; simp only [gj, if_true]; exact .inl h2
end Go.Proofs.YtohflohdbkamnaaGreatDoor

/- Package gate: what a packet's flags are, whether it asks; a flow from outside that nobody called for. -/
namespace Go.Proofs.YtohflohdbkamnaaGreatDoor
open Go.RowKit Go.Shelf
set_option maxRecDepth 100000
set_option linter.unusedVariables false
set_option linter.unusedSimpArgs false

theorem wp_calmG {P : Program} {c : Code} {Q : Exit → Act → World → Prop} {a : Act} {w : World} (h : c.wp P (calmQ (Q .normal)) a w) : c.wp P Q a w := wp_mono h (fun e a w h => by obtain ⟨rfl, h⟩ := h; exact h)
/-- Some flags are handed back. -/
def FlQ (e : Ending) : Prop := ∃ f : Int, e = .returned (.int .u8 f)
/-- Some answer is handed back. -/
def AsQ (e : Ending) : Prop := ∃ f : Bool, e = .returned (.bool f)

set_option maxRecDepth 100000 in
set_option maxHeartbeats 4000000 in
theorem flags_some (g : Nat) (tos id ttl pr src dst : Int) (keep : Bool) (so sd : Value) (side : Int) (zd : List Int) (w : World) (hB : Mt.By zd) (hI : Rd w.heap.size w sd zd) (hl : zd.length ≤ 70000) (hsr : 0 ≤ src ∧ src ≤ 4294967295) (hds : 0 ≤ dst ∧ dst ≤ 4294967295) :
    Calls Tryz.prog 183 #[.agg #[.pointer (some ⟨g, 0, none⟩), .int .u8 tos, .int .u16 id, .bool keep, .int .u8 ttl, .int .u8 pr, .int .u32 src, .int .u32 dst, so, sd, .int .i64 side]] w fun e w' => FlQ e ∧ Later w w' := by
  have l0 := later_allocG w (.cells #[.pointer (some ⟨g, 0, none⟩), .int .u8 tos, .int .u16 id, .bool keep, .int .u8 ttl, .int .u8 pr, .int .u32 src, .int .u32 dst, so, sd, .int .i64 side] 111)
  have C0 := hide (heap_alloc_new w (.cells #[.pointer (some ⟨g, 0, none⟩), .int .u8 tos, .int .u16 id, .bool keep, .int .u8 ttl, .int .u8 pr, .int .u32 src, .int .u32 dst, so, sd, .int .i64 side] 111))
  have HP := hide (parseTcp_any tos id ttl pr src dst keep so sd zd _ hB (hI.later l0) (by omega) hsr hds)
  go_enter Tryz.func183, Tryz.ntmps183
  go_upto_region 1 with fail
  generalize w.alloc _ = w1 at *
  generalize w.heap.size = gx at *
  have k0 := block_cell C0.out
  go_wp2_with fail
  refine HP.out.mono ?_
  rintro e w2 ⟨l2, ⟨h1, rfl⟩ | ⟨h1, os, aO, cO, ad, cd, ho, rfl, hO, hD⟩⟩
  · clear k0
    unfold zsg
    go_upto_region 2 with fail
    have la := later_allocG w2 (.cells #[.int .u16 0, .int .u16 0, .int .u32 0, .int .u32 0, .int .u8 0, .int .u16 0, .int .u16 0, .slice none 0 0, .slice none 0 0] 148)
    have kn := block_cell (heap_alloc_new w2 (.cells #[.int .u16 0, .int .u16 0, .int .u32 0, .int .u32 0, .int .u8 0, .int .u16 0, .int .u16 0, .slice none 0 0, .slice none 0 0] 148))
    generalize w2.alloc _ = w3 at *
    go_wp2_with fail
    go_ret
    exact ⟨⟨_, rfl⟩, Later.trans l0 (Later.trans l2 la)⟩
  · clear k0
    go_upto_region 2 with fail
    have la := later_allocG w2 (.cells #[.int .u16 (wat zd 0), .int .u16 (wat zd 2), .int .u32 (wat4 zd 4), .int .u32 (wat4 zd 8), .int .u8 (zd[13]?.getD 0), .int .u16 (wat zd 14), .int .u16 (wat zd 18), .slice aO os.length cO, .slice ad (zd.length - (thd zd).toNat) cd] 148)
    have kn := block_cell (heap_alloc_new w2 (.cells #[.int .u16 (wat zd 0), .int .u16 (wat zd 2), .int .u32 (wat4 zd 4), .int .u32 (wat4 zd 8), .int .u8 (zd[13]?.getD 0), .int .u16 (wat zd 14), .int .u16 (wat zd 18), .slice aO os.length cO, .slice ad (zd.length - (thd zd).toNat) cd] 148))
    generalize w2.alloc _ = w3 at *
    go_wp2_with fail
    go_ret
    exact ⟨⟨_, rfl⟩, Later.trans l0 (Later.trans l2 la)⟩

set_option maxRecDepth 100000 in
set_option maxHeartbeats 4000000 in
theorem gasks_some (g : Nat) (tos id ttl pr src dst : Int) (keep : Bool) (so sd : Value) (side : Int) (zd : List Int) (w : World) (hB : Mt.By zd) (hI : Rd w.heap.size w sd zd) (hl : zd.length ≤ 70000) :
    Calls Tryz.prog 184 #[.agg #[.pointer (some ⟨g, 0, none⟩), .int .u8 tos, .int .u16 id, .bool keep, .int .u8 ttl, .int .u8 pr, .int .u32 src, .int .u32 dst, so, sd, .int .i64 side]] w fun e w' => AsQ e ∧ Later w w' := by
  have l0 := later_allocG w (.cells #[.pointer (some ⟨g, 0, none⟩), .int .u8 tos, .int .u16 id, .bool keep, .int .u8 ttl, .int .u8 pr, .int .u32 src, .int .u32 dst, so, sd, .int .i64 side] 111)
  have C0 := hide (heap_alloc_new w (.cells #[.pointer (some ⟨g, 0, none⟩), .int .u8 tos, .int .u16 id, .bool keep, .int .u8 ttl, .int .u8 pr, .int .u32 src, .int .u32 dst, so, sd, .int .i64 side] 111))
  have HP := hide (parseIcmp_any tos id ttl pr src dst keep so sd zd _ hB (hI.later l0) (by omega))
  go_enter Tryz.func184, Tryz.ntmps184
  go_upto_region 1 with fail
  generalize w.alloc _ = w1 at *
  generalize w.heap.size = gx at *
  have k0 := block_cell C0.out
  go_wp2_with fail
  refine HP.out.mono ?_
  rintro e w2 ⟨l2, ⟨h1, rfl⟩ | ⟨h1, ad, cd, rfl, hD⟩⟩
  · clear k0
    unfold zm
    go_upto_region 2 with fail
    have la := later_allocG w2 (.cells #[.int .u8 0, .int .u8 0, .int .u32 0, .slice none 0 0] 154)
    have kn := block_cell (heap_alloc_new w2 (.cells #[.int .u8 0, .int .u8 0, .int .u32 0, .slice none 0 0] 154))
    generalize w2.alloc _ = w3 at *
    go_wp2_with fail
    refine (asks_any _ _ _ _ w3).mono ?_
    rintro e w4 ⟨rfl, l4⟩
    go_wp2_with fail
    go_ret
    exact ⟨⟨_, rfl⟩, Later.trans l0 (Later.trans l2 (Later.trans la l4))⟩
  · clear k0
    go_upto_region 2 with fail
    have la := later_allocG w2 (.cells #[.int .u8 (zd[0]?.getD 0), .int .u8 (zd[1]?.getD 0), .int .u32 (wat4 zd 4), .slice ad (zd.length - 8) cd] 154)
    have kn := block_cell (heap_alloc_new w2 (.cells #[.int .u8 (zd[0]?.getD 0), .int .u8 (zd[1]?.getD 0), .int .u32 (wat4 zd 4), .slice ad (zd.length - 8) cd] 154))
    generalize w2.alloc _ = w3 at *
    go_wp2_with fail
    refine (asks_any _ _ _ _ w3).mono ?_
    rintro e w4 ⟨rfl, l4⟩
    go_wp2_with fail
    go_ret
    exact ⟨⟨_, rfl⟩, Later.trans l0 (Later.trans l2 (Later.trans la l4))⟩
end Go.Proofs.YtohflohdbkamnaaGreatDoor

/- Package gate: a flow that may not begin: from outside uncalled, from inside without a rule. -/

namespace Go.Proofs.YtohflohdbkamnaaGreatDoor
open Go.RowKit Go.Shelf
set_option maxRecDepth 100000
set_option linter.unusedVariables false
set_option linter.unusedSimpArgs false

theorem peek_none (base gb : Nat) (ve : Value) (p x d a b now : Int) (W : World) (h : BL 174 base W gb ve []) :
    Calls Tryz.prog 234 #[.pointer (some ⟨gb, 0, none⟩), .agg #[.int .u8 p, .int .u32 x, .int .u32 d, .int .u16 a, .int .u16 b], .int .i64 now] W fun e w' => e = .returned (.tuple #[.agg #[.int .u8 0, .int .u32 0, .int .u32 0, .int .u16 0, .int .u16 0, .int .u32 0, .int .u16 0, .int .i64 0, .int .i64 0], .bool false]) ∧ Later W w' := peek12_any base gb ve [] ⟨p, x, d, a, b⟩ now W h (by simp)
theorem dnat_none (base gr : Nat) (vr : Value) (ls : List Ru) (p d b : Int) (W : World) (h : RL 166 base W gr vr ls) (hn : ∀ y ∈ ls, y.kind ≠ 2) :
    Calls Tryz.prog 237 #[.pointer (some ⟨gr, 0, none⟩), .int .u8 p, .int .u32 d, .int .u16 b] W fun e w' => e = .returned (.tuple #[.agg #[.int .i64 0, .int .u8 0, .int .u32 0, .int .i64 0, .int .u32 0, .int .u16 0, .int .u32 0, .int .u16 0], .bool false]) ∧ Later W w' := by
  have hf := fnd_no (p := dnB p d b) (l := ls) (fun y hy => by unfold dnB; simp [hn y hy])
  have := dnat_any base (some ⟨gr, 0, none⟩) ls p d b W (.inr ⟨gr, vr, rfl, h⟩)
  rw [hf.1, hf.2] at this
  exact this
theorem masq_none (base gr : Nat) (vr : Value) (ls : List Ru) (x : Int) (W : World) (h : RL 166 base W gr vr ls) (hok : okL ls) (hx : 0 ≤ x ∧ x ≤ 4294967295) (hn : ∀ y ∈ ls, y.kind ≠ 1) :
    Calls Tryz.prog 230 #[.pointer (some ⟨gr, 0, none⟩), .int .u32 x] W fun e w' => e = .returned (.tuple #[.agg #[.int .i64 0, .int .u8 0, .int .u32 0, .int .i64 0, .int .u32 0, .int .u16 0, .int .u32 0, .int .u16 0], .bool false]) ∧ Later W w' := by
  have hf := fnd_no (p := mqB x) (l := ls) (fun y hy => by unfold mqB; simp [hn y hy])
  have := masq_any base (some ⟨gr, 0, none⟩) ls x W (.inr ⟨gr, vr, rfl, h⟩) hok hx
  rw [hf.1, hf.2] at this
  exact this

set_option maxRecDepth 100000 in
set_option maxHeartbeats 8000000 in
theorem beginOutside_none (base g : Nat) (s : Gs) (tos id ttl pr src dst : Int) (keep : Bool) (so sd : Value) (side : Int) (p x d a b : Int) (w : World) (h : GI base w g s) (hn : ∀ y ∈ s.ls, y.kind ≠ 2) :
    Calls Tryz.prog 186 #[.agg #[.pointer (some ⟨g, 0, none⟩), .int .u8 tos, .int .u16 id, .bool keep, .int .u8 ttl, .int .u8 pr, .int .u32 src, .int .u32 dst, so, sd, .int .i64 side], .agg #[.int .u8 p, .int .u32 x, .int .u32 d, .int .u16 a, .int .u16 b]] w fun e w' => Gvn e ∧ Later w w' := by
  obtain ⟨l0, c0, c1⟩ := alloc2 w (.cells #[.pointer (some ⟨g, 0, none⟩), .int .u8 tos, .int .u16 id, .bool keep, .int .u8 ttl, .int .u8 pr, .int .u32 src, .int .u32 dst, so, sd, .int .i64 side] 111) (.cells #[.int .u8 p, .int .u32 x, .int .u32 d, .int .u16 a, .int .u16 b] 69)
  have C0 := hide c0
  have C1 := hide c1
  have CG := hide (later_keep l0 h.gc)
  have HPK := hide (fun W (l : Later w W) => peek_none base s.gb s.ve p x d a b s.now W (h.bl.later l))
  have HDN := hide (fun W (l : Later w W) => dnat_none base s.gr s.vr s.ls p d b W (h.rl.later l) hn)
  clear c0 c1 hn h
  go_enter Tryz.func186, Tryz.ntmps186
  go_upto_region 1 with fail
  generalize (w.alloc (.cells #[.pointer (some ⟨g, 0, none⟩), .int .u8 tos, .int .u16 id, .bool keep, .int .u8 ttl, .int .u8 pr, .int .u32 src, .int .u32 dst, so, sd, .int .i64 side] 111)).alloc (.cells #[.int .u8 p, .int .u32 x, .int .u32 d, .int .u16 a, .int .u16 b] 69) = w1 at *
  generalize w.heap.size = gx at C0 C1 ⊢
  have LW0 : Later w w1 := l0
  go_cut [5, 6] (fun v c wx => (∃ gn, v = .pointer (some ⟨gn, 0, none⟩)) ∧ c = .bool false ∧ Hid (Later w1 wx))
  case first =>
    refine wp_calmG ?_
    refine anyU_begin (R1 := Later) (R2 := fun _ _ => True) (D := [16]) 18 rfl (by kernel_rfl) ?_
    have ld : Later w1 w1.drew := Later.drew w1
    generalize w1.drew = Wd at *
    have LWd : Later w Wd := LW0.trans ld
    have q0 : ∀ v1, Later Wd v1 → ∀ j, v1.cell? ⟨gx, j, none⟩ = #[.pointer (some ⟨g, 0, none⟩), .int .u8 tos, .int .u16 id, .bool keep, .int .u8 ttl, .int .u8 pr, .int .u32 src, .int .u32 dst, so, sd, .int .i64 side][j]? := fun v1 hv => block_cell (later_keep (ld.trans hv) C0.out)
    have q1 : ∀ v1, Later Wd v1 → ∀ j, v1.cell? ⟨gx + 1, j, none⟩ = #[.int .u8 p, .int .u32 x, .int .u32 d, .int .u16 a, .int .u16 b][j]? := fun v1 hv => block_cell (later_keep (ld.trans hv) C1.out)
    have q2 : ∀ v1, Later Wd v1 → ∀ j, v1.cell? ⟨g, j, none⟩ = (gtc s).toArray[j]? := fun v1 hv => block_cell (later_keep (ld.trans hv) CG.out)
    unfold gtc at q2
    refine anyU_val Later.pre 0 [1, 2, 3, 4, 11, 12, 13, 14, 16, 17] rfl (by rfl) (by rfl) (by kernel_rfl) (by kernel_rfl) (by kernel_rfl) (by kernel_rfl) (by kernel_rfl) (fun _ _ _ _ h => by cases h.1) (by rfl) ?_; apply Exists.intro; refine ⟨fun v1 hv1 => ?_, ?_⟩; (· (go_simp; rfl)); simp only [Act.put, List.setIfInBounds_toArray, List.set_cons_zero, List.set_cons_succ]
    refine anyU_val Later.pre 1 [2, 3, 4, 11, 12, 13, 14, 16, 17] rfl (by rfl) (by rfl) (by kernel_rfl) (by kernel_rfl) (by kernel_rfl) (by kernel_rfl) (by kernel_rfl) (fun _ _ _ _ h => by cases h.1) (by rfl) ?_; apply Exists.intro; refine ⟨fun v1 hv1 => ?_, ?_⟩; (· (go_simp; rfl)); simp only [Act.put, List.setIfInBounds_toArray, List.set_cons_zero, List.set_cons_succ]
    refine anyU_val Later.pre 2 [3, 4, 11, 12, 13, 14, 16, 17] rfl (by rfl) (by rfl) (by kernel_rfl) (by kernel_rfl) (by kernel_rfl) (by kernel_rfl) (by kernel_rfl) (fun _ _ _ _ h => by cases h.1) (by rfl) ?_; apply Exists.intro; refine ⟨fun v1 hv1 => ?_, ?_⟩; (· (go_simp; rfl)); simp only [Act.put, List.setIfInBounds_toArray, List.set_cons_zero, List.set_cons_succ]
    refine anyU_val Later.pre 3 [4, 11, 12, 13, 14, 16, 17] rfl (by rfl) (by rfl) (by kernel_rfl) (by kernel_rfl) (by kernel_rfl) (by kernel_rfl) (by kernel_rfl) (fun _ _ _ _ h => by cases h.1) (by rfl) ?_; apply Exists.intro; refine ⟨fun v1 hv1 => ?_, ?_⟩; (· (go_simp; rfl)); simp only [Act.put, List.setIfInBounds_toArray, List.set_cons_zero, List.set_cons_succ]
    refine anyU_val Later.pre 4 [11, 12, 13, 14, 16, 17] rfl (by rfl) (by rfl) (by kernel_rfl) (by kernel_rfl) (by kernel_rfl) (by kernel_rfl) (by kernel_rfl) (fun _ _ _ _ h => by cases h.1) (by rfl) ?_; apply Exists.intro; refine ⟨fun v1 hv1 => ?_, ?_⟩; (· (go_simp; rfl)); simp only [Act.put, List.setIfInBounds_toArray, List.set_cons_zero, List.set_cons_succ]
    refine anyU_val Later.pre 5 [11, 12, 13, 14, 16, 17] rfl (by rfl) (by rfl) (by kernel_rfl) (by kernel_rfl) (by kernel_rfl) (by kernel_rfl) (by kernel_rfl) (fun _ _ _ _ h => by cases h.1) (by rfl) ?_; apply Exists.intro; refine ⟨fun v1 hv1 => ?_, ?_⟩; (· (go_simp; rfl)); simp only [Act.put, List.setIfInBounds_toArray, List.set_cons_zero, List.set_cons_succ]
    refine anyU_val Later.pre 6 [7, 8, 9, 10, 11, 12, 13, 14, 16, 17] rfl (by rfl) (by rfl) (by kernel_rfl) (by kernel_rfl) (by kernel_rfl) (by kernel_rfl) (by kernel_rfl) (fun _ _ _ _ h => by cases h.1) (by rfl) ?_; apply Exists.intro; refine ⟨fun v1 hv1 => ?_, ?_⟩; (· (go_simp; rfl)); simp only [Act.put, List.setIfInBounds_toArray, List.set_cons_zero, List.set_cons_succ]
    refine anyU_val Later.pre 7 [8, 9, 10, 11, 12, 13, 14, 16, 17] rfl (by rfl) (by rfl) (by kernel_rfl) (by kernel_rfl) (by kernel_rfl) (by kernel_rfl) (by kernel_rfl) (fun _ _ _ _ h => by cases h.1) (by rfl) ?_; apply Exists.intro; refine ⟨fun v1 hv1 => ?_, ?_⟩; (· (go_simp; rfl)); simp only [Act.put, List.setIfInBounds_toArray, List.set_cons_zero, List.set_cons_succ]
    refine anyU_val Later.pre 8 [9, 10, 11, 12, 13, 14, 16, 17] rfl (by rfl) (by rfl) (by kernel_rfl) (by kernel_rfl) (by kernel_rfl) (by kernel_rfl) (by kernel_rfl) (fun _ _ _ _ h => by cases h.1) (by rfl) ?_; apply Exists.intro; refine ⟨fun v1 hv1 => ?_, ?_⟩; (· (go_simp; rfl)); simp only [Act.put, List.setIfInBounds_toArray, List.set_cons_zero, List.set_cons_succ]
    refine anyU_val Later.pre 9 [10, 11, 12, 13, 14, 16, 17] rfl (by rfl) (by rfl) (by kernel_rfl) (by kernel_rfl) (by kernel_rfl) (by kernel_rfl) (by kernel_rfl) (fun _ _ _ _ h => by cases h.1) (by rfl) ?_; apply Exists.intro; refine ⟨fun v1 hv1 => ?_, ?_⟩; (· (go_simp; rfl)); simp only [Act.put, List.setIfInBounds_toArray, List.set_cons_zero, List.set_cons_succ]
    refine anyU_val Later.pre 10 [11, 12, 13, 14, 16, 17] rfl (by rfl) (by rfl) (by kernel_rfl) (by kernel_rfl) (by kernel_rfl) (by kernel_rfl) (by kernel_rfl) (fun _ _ _ _ h => by cases h.1) (by rfl) ?_; apply Exists.intro; refine ⟨fun v1 hv1 => ?_, ?_⟩; (· (go_simp; rfl)); simp only [Act.put, List.setIfInBounds_toArray, List.set_cons_zero, List.set_cons_succ]
    clear q0 q1 q2
    refine anyU_two 11 15 rfl rfl (by kernel_rfl) (by rfl) (by rfl) ?ca ?al
    case ca =>
      refine wp_enter 234 #[.pointer (some ⟨s.gb, 0, none⟩), .agg #[.int .u8 p, .int .u32 x, .int .u32 d, .int .u16 a, .int .u16 b], .int .i64 s.now] (by go_simp) ?_
      refine (HPK.out Wd LWd).mono ?_
      rintro e W1 ⟨rfl, l1⟩
      refine ⟨Rj_out (by rfl) l1, ?_⟩
      simp only [Act.put, List.setIfInBounds_toArray, List.set_cons_zero, List.set_cons_succ]
      refine anyU_val Later.pre 12 [13, 14, 16, 17] rfl (by rfl) (by rfl) (by kernel_rfl) (by kernel_rfl) (by kernel_rfl) (by kernel_rfl) (by kernel_rfl) (fun _ _ _ _ h => by cases h.1) (by rfl) ?_; apply Exists.intro; refine ⟨fun v1 hv1 => ?_, ?_⟩; (· (go_simp; rfl)); simp only [Act.put, List.setIfInBounds_toArray, List.set_cons_zero, List.set_cons_succ]
      refine anyU_val Later.pre 13 [16, 17] rfl (by rfl) (by rfl) (by kernel_rfl) (by kernel_rfl) (by kernel_rfl) (by kernel_rfl) (by kernel_rfl) (fun _ _ _ _ h => by cases h.1) (by rfl) ?_; apply Exists.intro; refine ⟨fun v1 hv1 => ?_, ?_⟩; (· (go_simp; rfl)); simp only [Act.put, List.setIfInBounds_toArray, List.set_cons_zero, List.set_cons_succ]
      have HSZ := (ld.trans l1).size
      refine anyU_two 14 15 rfl rfl (by kernel_rfl) (by rfl) (by rfl) ?xt1415 ?yt1415
      case xt1415 =>
        refine wp_value (w' := W1) (.bool false) (by go_simp) ?_
        refine ⟨Rj_out (by rfl) (Later.refl _), ?_⟩
        simp only [Act.put, List.setIfInBounds_toArray, List.set_cons_zero, List.set_cons_succ]
        refine anyU_one 15 rfl (by kernel_rfl) (by rfl) ?_
        have la := later_allocG W1 (.cells #[.int .u8 0, .int .u32 0, .int .u32 0, .int .u16 0, .int .u16 0, .int .u32 0, .int .u16 0, .int .i64 0, .int .i64 0] 136)
        have HA0 := heap_alloc_new W1 (.cells #[.int .u8 0, .int .u32 0, .int .u32 0, .int .u16 0, .int .u16 0, .int .u32 0, .int .u16 0, .int .i64 0, .int .i64 0] 136)
        unfold Oper.wp
        go_simp
        refine ⟨Rj_out (by rfl) la, ?_⟩
        change wpAnyU _ _ _ _ _ _ _ _ _ _ (W1.alloc (.cells #[.int .u8 0, .int .u32 0, .int .u32 0, .int .u16 0, .int .u16 0, .int .u32 0, .int .u16 0, .int .i64 0, .int .i64 0] 136))
        have hgn : w1.heap.size ≤ W1.heap.size := HSZ
        generalize W1.alloc (.cells #[.int .u8 0, .int .u32 0, .int .u32 0, .int .u16 0, .int .u16 0, .int .u32 0, .int .u16 0, .int .i64 0, .int .i64 0] 136) = W5 at *
        generalize W1.heap.size = gn at *
        have HA := HA0
        have LL := ld.trans (l1.trans la)
        refine anyU_one 16 rfl (by kernel_rfl) (by rfl) ?_
        have kA := block_cell HA
        have fA := block_frozen HA
        unfold Oper.wp
        go_simp
        refine ⟨Rj_in (by rfl) trivial, ?_⟩
        clear kA fA
        generalize hV : (((((((((W5.setCell ⟨gn, 0, none⟩ _).setCell ⟨gn, 1, none⟩ _).setCell ⟨gn, 2, none⟩ _).setCell ⟨gn, 3, none⟩ _).setCell ⟨gn, 4, none⟩ _).setCell ⟨gn, 5, none⟩ _).setCell ⟨gn, 6, none⟩ _).setCell ⟨gn, 7, none⟩ _).setCell ⟨gn, 8, none⟩ _) = V8
        have hV9 : V8 = putRow W5 gn 0 [.int .u8 0, .int .u32 0, .int .u32 0, .int .u16 0, .int .u16 0, .int .u32 0, .int .u16 0, .int .i64 0, .int .i64 0] := hV.symm
        have hb8 : But (fun b => b = gn) W5 V8 := by rw [hV9]; exact putRow_but (E := fun b => b = gn) (n := gn) rfl _ _ _ _ (But.refl _ _)
        have p8 := putRow_all [.int .u8 0, .int .u32 0, .int .u32 0, .int .u16 0, .int .u16 0, .int .u32 0, .int .u16 0, .int .i64 0, .int .i64 0] HA rfl
        rw [← hV9] at p8
        have PP := hide p8
        clear hV hV9 p8
        have BB := hide (Below.trans LL (hb8.below LL.size (fun k h e => by omega)))
        refine anyU_one 17 rfl (by kernel_rfl) (by rfl) ?_
        refine wp_value (w' := V8) (.bool false) (by go_simp) ?_
        refine ⟨Rj_out (by rfl) (Later.refl _), ?_⟩
        simp only [Act.put, List.setIfInBounds_toArray, List.set_cons_zero, List.set_cons_succ]
        refine anyU_done (by kernel_rfl) ?_
        refine ⟨rfl, ?_⟩
        go_wp2_with fail
        go_meet
        case rel => exact ⟨⟨gn, rfl⟩, rfl, BB⟩
      case yt1415 =>
        have la := later_allocG W1 (.cells #[.int .u8 0, .int .u32 0, .int .u32 0, .int .u16 0, .int .u16 0, .int .u32 0, .int .u16 0, .int .i64 0, .int .i64 0] 136)
        have HA0 := heap_alloc_new W1 (.cells #[.int .u8 0, .int .u32 0, .int .u32 0, .int .u16 0, .int .u16 0, .int .u32 0, .int .u16 0, .int .i64 0, .int .i64 0] 136)
        unfold Oper.wp
        go_simp
        refine ⟨Rj_out (by rfl) la, ?_⟩
        change wpAnyU _ _ _ _ _ _ _ _ _ _ (W1.alloc (.cells #[.int .u8 0, .int .u32 0, .int .u32 0, .int .u16 0, .int .u16 0, .int .u32 0, .int .u16 0, .int .i64 0, .int .i64 0] 136))
        have hgn : w1.heap.size ≤ W1.heap.size := HSZ
        generalize W1.alloc (.cells #[.int .u8 0, .int .u32 0, .int .u32 0, .int .u16 0, .int .u16 0, .int .u32 0, .int .u16 0, .int .i64 0, .int .i64 0] 136) = W5 at *
        generalize W1.heap.size = gn at *
        have HA := HA0
        have LL := ld.trans (l1.trans la)
        refine anyU_two 14 16 rfl rfl (by kernel_rfl) (by rfl) (by rfl) ?xt1416 ?yt1416
        case xt1416 =>
          refine wp_value (w' := W5) (.bool false) (by go_simp) ?_
          refine ⟨Rj_out (by rfl) (Later.refl _), ?_⟩
          simp only [Act.put, List.setIfInBounds_toArray, List.set_cons_zero, List.set_cons_succ]
          refine anyU_one 16 rfl (by kernel_rfl) (by rfl) ?_
          have kA := block_cell HA
          have fA := block_frozen HA
          unfold Oper.wp
          go_simp
          refine ⟨Rj_in (by rfl) trivial, ?_⟩
          clear kA fA
          generalize hV : (((((((((W5.setCell ⟨gn, 0, none⟩ _).setCell ⟨gn, 1, none⟩ _).setCell ⟨gn, 2, none⟩ _).setCell ⟨gn, 3, none⟩ _).setCell ⟨gn, 4, none⟩ _).setCell ⟨gn, 5, none⟩ _).setCell ⟨gn, 6, none⟩ _).setCell ⟨gn, 7, none⟩ _).setCell ⟨gn, 8, none⟩ _) = V8
          have hV9 : V8 = putRow W5 gn 0 [.int .u8 0, .int .u32 0, .int .u32 0, .int .u16 0, .int .u16 0, .int .u32 0, .int .u16 0, .int .i64 0, .int .i64 0] := hV.symm
          have hb8 : But (fun b => b = gn) W5 V8 := by rw [hV9]; exact putRow_but (E := fun b => b = gn) (n := gn) rfl _ _ _ _ (But.refl _ _)
          have p8 := putRow_all [.int .u8 0, .int .u32 0, .int .u32 0, .int .u16 0, .int .u16 0, .int .u32 0, .int .u16 0, .int .i64 0, .int .i64 0] HA rfl
          rw [← hV9] at p8
          have PP := hide p8
          clear hV hV9 p8
          have BB := hide (Below.trans LL (hb8.below LL.size (fun k h e => by omega)))
          refine anyU_one 17 rfl (by kernel_rfl) (by rfl) ?_
          refine wp_value (w' := V8) (.bool false) (by go_simp) ?_
          refine ⟨Rj_out (by rfl) (Later.refl _), ?_⟩
          simp only [Act.put, List.setIfInBounds_toArray, List.set_cons_zero, List.set_cons_succ]
          refine anyU_done (by kernel_rfl) ?_
          refine ⟨rfl, ?_⟩
          go_wp2_with fail
          go_meet
          case rel => exact ⟨⟨gn, rfl⟩, rfl, BB⟩
        case yt1416 =>
          have kA := block_cell HA
          have fA := block_frozen HA
          unfold Oper.wp
          go_simp
          refine ⟨Rj_in (by rfl) trivial, ?_⟩
          clear kA fA
          generalize hV : (((((((((W5.setCell ⟨gn, 0, none⟩ _).setCell ⟨gn, 1, none⟩ _).setCell ⟨gn, 2, none⟩ _).setCell ⟨gn, 3, none⟩ _).setCell ⟨gn, 4, none⟩ _).setCell ⟨gn, 5, none⟩ _).setCell ⟨gn, 6, none⟩ _).setCell ⟨gn, 7, none⟩ _).setCell ⟨gn, 8, none⟩ _) = V8
          have hV9 : V8 = putRow W5 gn 0 [.int .u8 0, .int .u32 0, .int .u32 0, .int .u16 0, .int .u16 0, .int .u32 0, .int .u16 0, .int .i64 0, .int .i64 0] := hV.symm
          have hb8 : But (fun b => b = gn) W5 V8 := by rw [hV9]; exact putRow_but (E := fun b => b = gn) (n := gn) rfl _ _ _ _ (But.refl _ _)
          have p8 := putRow_all [.int .u8 0, .int .u32 0, .int .u32 0, .int .u16 0, .int .u16 0, .int .u32 0, .int .u16 0, .int .i64 0, .int .i64 0] HA rfl
          rw [← hV9] at p8
          have PP := hide p8
          clear hV hV9 p8
          have BB := hide (Below.trans LL (hb8.below LL.size (fun k h e => by omega)))
          refine anyU_one 14 rfl (by kernel_rfl) (by rfl) ?_
          refine wp_value (w' := V8) (.bool false) (by go_simp) ?_
          refine ⟨Rj_out (by rfl) (Later.refl _), ?_⟩
          simp only [Act.put, List.setIfInBounds_toArray, List.set_cons_zero, List.set_cons_succ]
          refine anyU_one 17 rfl (by kernel_rfl) (by rfl) ?_
          refine wp_value (w' := V8) (.bool false) (by go_simp) ?_
          refine ⟨Rj_out (by rfl) (Later.refl _), ?_⟩
          simp only [Act.put, List.setIfInBounds_toArray, List.set_cons_zero, List.set_cons_succ]
          refine anyU_done (by kernel_rfl) ?_
          refine ⟨rfl, ?_⟩
          go_wp2_with fail
          go_meet
          case rel => exact ⟨⟨gn, rfl⟩, rfl, BB⟩
    case al =>
      have HSZ := ld.size
      have la := later_allocG Wd (.cells #[.int .u8 0, .int .u32 0, .int .u32 0, .int .u16 0, .int .u16 0, .int .u32 0, .int .u16 0, .int .i64 0, .int .i64 0] 136)
      have HA0 := heap_alloc_new Wd (.cells #[.int .u8 0, .int .u32 0, .int .u32 0, .int .u16 0, .int .u16 0, .int .u32 0, .int .u16 0, .int .i64 0, .int .i64 0] 136)
      unfold Oper.wp
      go_simp
      refine ⟨Rj_out (by rfl) la, ?_⟩
      change wpAnyU _ _ _ _ _ _ _ _ _ _ (Wd.alloc (.cells #[.int .u8 0, .int .u32 0, .int .u32 0, .int .u16 0, .int .u16 0, .int .u32 0, .int .u16 0, .int .i64 0, .int .i64 0] 136))
      have hgn : w1.heap.size ≤ Wd.heap.size := HSZ
      generalize Wd.alloc (.cells #[.int .u8 0, .int .u32 0, .int .u32 0, .int .u16 0, .int .u16 0, .int .u32 0, .int .u16 0, .int .i64 0, .int .i64 0] 136) = W3 at *
      generalize Wd.heap.size = gn at *
      refine anyU_one 11 rfl (by kernel_rfl) (by rfl) ?_
      refine wp_enter 234 #[.pointer (some ⟨s.gb, 0, none⟩), .agg #[.int .u8 p, .int .u32 x, .int .u32 d, .int .u16 a, .int .u16 b], .int .i64 s.now] (by go_simp) ?_
      refine (HPK.out W3 (LWd.trans la)).mono ?_
      rintro e W5 ⟨rfl, l1⟩
      refine ⟨Rj_out (by rfl) l1, ?_⟩
      simp only [Act.put, List.setIfInBounds_toArray, List.set_cons_zero, List.set_cons_succ]
      refine anyU_val Later.pre 12 [13, 14, 16, 17] rfl (by rfl) (by rfl) (by kernel_rfl) (by kernel_rfl) (by kernel_rfl) (by kernel_rfl) (by kernel_rfl) (fun _ _ _ _ h => by cases h.1) (by rfl) ?_; apply Exists.intro; refine ⟨fun v1 hv1 => ?_, ?_⟩; (· (go_simp; rfl)); simp only [Act.put, List.setIfInBounds_toArray, List.set_cons_zero, List.set_cons_succ]
      refine anyU_val Later.pre 13 [16, 17] rfl (by rfl) (by rfl) (by kernel_rfl) (by kernel_rfl) (by kernel_rfl) (by kernel_rfl) (by kernel_rfl) (fun _ _ _ _ h => by cases h.1) (by rfl) ?_; apply Exists.intro; refine ⟨fun v1 hv1 => ?_, ?_⟩; (· (go_simp; rfl)); simp only [Act.put, List.setIfInBounds_toArray, List.set_cons_zero, List.set_cons_succ]
      have HA := later_keep l1 HA0
      have LL := ld.trans (la.trans l1)
      refine anyU_two 14 16 rfl rfl (by kernel_rfl) (by rfl) (by rfl) ?xt1416 ?yt1416
      case xt1416 =>
        refine wp_value (w' := W5) (.bool false) (by go_simp) ?_
        refine ⟨Rj_out (by rfl) (Later.refl _), ?_⟩
        simp only [Act.put, List.setIfInBounds_toArray, List.set_cons_zero, List.set_cons_succ]
        refine anyU_one 16 rfl (by kernel_rfl) (by rfl) ?_
        have kA := block_cell HA
        have fA := block_frozen HA
        unfold Oper.wp
        go_simp
        refine ⟨Rj_in (by rfl) trivial, ?_⟩
        clear kA fA
        generalize hV : (((((((((W5.setCell ⟨gn, 0, none⟩ _).setCell ⟨gn, 1, none⟩ _).setCell ⟨gn, 2, none⟩ _).setCell ⟨gn, 3, none⟩ _).setCell ⟨gn, 4, none⟩ _).setCell ⟨gn, 5, none⟩ _).setCell ⟨gn, 6, none⟩ _).setCell ⟨gn, 7, none⟩ _).setCell ⟨gn, 8, none⟩ _) = V8
        have hV9 : V8 = putRow W5 gn 0 [.int .u8 0, .int .u32 0, .int .u32 0, .int .u16 0, .int .u16 0, .int .u32 0, .int .u16 0, .int .i64 0, .int .i64 0] := hV.symm
        have hb8 : But (fun b => b = gn) W5 V8 := by rw [hV9]; exact putRow_but (E := fun b => b = gn) (n := gn) rfl _ _ _ _ (But.refl _ _)
        have p8 := putRow_all [.int .u8 0, .int .u32 0, .int .u32 0, .int .u16 0, .int .u16 0, .int .u32 0, .int .u16 0, .int .i64 0, .int .i64 0] HA rfl
        rw [← hV9] at p8
        have PP := hide p8
        clear hV hV9 p8
        have BB := hide (Below.trans LL (hb8.below LL.size (fun k h e => by omega)))
        refine anyU_one 17 rfl (by kernel_rfl) (by rfl) ?_
        refine wp_value (w' := V8) (.bool false) (by go_simp) ?_
        refine ⟨Rj_out (by rfl) (Later.refl _), ?_⟩
        simp only [Act.put, List.setIfInBounds_toArray, List.set_cons_zero, List.set_cons_succ]
        refine anyU_done (by kernel_rfl) ?_
        refine ⟨rfl, ?_⟩
        go_wp2_with fail
        go_meet
        case rel => exact ⟨⟨gn, rfl⟩, rfl, BB⟩
      case yt1416 =>
        have kA := block_cell HA
        have fA := block_frozen HA
        unfold Oper.wp
        go_simp
        refine ⟨Rj_in (by rfl) trivial, ?_⟩
        clear kA fA
        generalize hV : (((((((((W5.setCell ⟨gn, 0, none⟩ _).setCell ⟨gn, 1, none⟩ _).setCell ⟨gn, 2, none⟩ _).setCell ⟨gn, 3, none⟩ _).setCell ⟨gn, 4, none⟩ _).setCell ⟨gn, 5, none⟩ _).setCell ⟨gn, 6, none⟩ _).setCell ⟨gn, 7, none⟩ _).setCell ⟨gn, 8, none⟩ _) = V8
        have hV9 : V8 = putRow W5 gn 0 [.int .u8 0, .int .u32 0, .int .u32 0, .int .u16 0, .int .u16 0, .int .u32 0, .int .u16 0, .int .i64 0, .int .i64 0] := hV.symm
        have hb8 : But (fun b => b = gn) W5 V8 := by rw [hV9]; exact putRow_but (E := fun b => b = gn) (n := gn) rfl _ _ _ _ (But.refl _ _)
        have p8 := putRow_all [.int .u8 0, .int .u32 0, .int .u32 0, .int .u16 0, .int .u16 0, .int .u32 0, .int .u16 0, .int .i64 0, .int .i64 0] HA rfl
        rw [← hV9] at p8
        have PP := hide p8
        clear hV hV9 p8
        have BB := hide (Below.trans LL (hb8.below LL.size (fun k h e => by omega)))
        refine anyU_one 14 rfl (by kernel_rfl) (by rfl) ?_
        refine wp_value (w' := V8) (.bool false) (by go_simp) ?_
        refine ⟨Rj_out (by rfl) (Later.refl _), ?_⟩
        simp only [Act.put, List.setIfInBounds_toArray, List.set_cons_zero, List.set_cons_succ]
        refine anyU_one 17 rfl (by kernel_rfl) (by rfl) ?_
        refine wp_value (w' := V8) (.bool false) (by go_simp) ?_
        refine ⟨Rj_out (by rfl) (Later.refl _), ?_⟩
        simp only [Act.put, List.setIfInBounds_toArray, List.set_cons_zero, List.set_cons_succ]
        refine anyU_done (by kernel_rfl) ?_
        refine ⟨rfl, ?_⟩
        go_wp2_with fail
        go_meet
        case rel => exact ⟨⟨gn, rfl⟩, rfl, BB⟩
  case rest =>
    obtain ⟨⟨gn, rfl⟩, rfl, HL2⟩ := hcut
    obtain ⟨w2, hw2⟩ : ∃ w2, w2 = wc := ⟨_, rfl⟩
    subst hw2
    have L2 := HL2.out
    have D0 := hide (later_keep L2 C0.out)
    have D1 := hide (later_keep L2 C1.out)
    have DG := hide (later_keep L2 CG.out)
    have LW2 : Later w w2 := LW0.trans L2
    clear C0 C1 CG LW0 HL2 HPK
    go_upto_region 6 with fail
    have LW0 := LW2
    go_cut [8, 9] (fun v c wx => (∃ gn, v = .pointer (some ⟨gn, 0, none⟩)) ∧ c = .bool false ∧ Hid (Later w2 wx))
    case first =>
      refine wp_calmG ?_
      refine anyU_begin (R1 := Later) (R2 := fun _ _ => True) (D := [16]) 18 rfl (by kernel_rfl) ?_
      have ld : Later w2 w2.drew := Later.drew w2
      generalize w2.drew = Wd at *
      have LWd : Later w Wd := LW0.trans ld
      have q0 : ∀ v1, Later Wd v1 → ∀ j, v1.cell? ⟨gx, j, none⟩ = #[.pointer (some ⟨g, 0, none⟩), .int .u8 tos, .int .u16 id, .bool keep, .int .u8 ttl, .int .u8 pr, .int .u32 src, .int .u32 dst, so, sd, .int .i64 side][j]? := fun v1 hv => block_cell (later_keep (ld.trans hv) D0.out)
      have q1 : ∀ v1, Later Wd v1 → ∀ j, v1.cell? ⟨gx + 1, j, none⟩ = #[.int .u8 p, .int .u32 x, .int .u32 d, .int .u16 a, .int .u16 b][j]? := fun v1 hv => block_cell (later_keep (ld.trans hv) D1.out)
      have q2 : ∀ v1, Later Wd v1 → ∀ j, v1.cell? ⟨g, j, none⟩ = (gtc s).toArray[j]? := fun v1 hv => block_cell (later_keep (ld.trans hv) DG.out)
      unfold gtc at q2
      refine anyU_val Later.pre 0 [1, 2, 3, 4, 11, 12, 13, 14, 16, 17] rfl (by rfl) (by rfl) (by kernel_rfl) (by kernel_rfl) (by kernel_rfl) (by kernel_rfl) (by kernel_rfl) (fun _ _ _ _ h => by cases h.1) (by rfl) ?_; apply Exists.intro; refine ⟨fun v1 hv1 => ?_, ?_⟩; (· (go_simp; rfl)); simp only [Act.put, List.setIfInBounds_toArray, List.set_cons_zero, List.set_cons_succ]
      refine anyU_val Later.pre 1 [2, 3, 4, 11, 12, 13, 14, 16, 17] rfl (by rfl) (by rfl) (by kernel_rfl) (by kernel_rfl) (by kernel_rfl) (by kernel_rfl) (by kernel_rfl) (fun _ _ _ _ h => by cases h.1) (by rfl) ?_; apply Exists.intro; refine ⟨fun v1 hv1 => ?_, ?_⟩; (· (go_simp; rfl)); simp only [Act.put, List.setIfInBounds_toArray, List.set_cons_zero, List.set_cons_succ]
      refine anyU_val Later.pre 2 [3, 4, 11, 12, 13, 14, 16, 17] rfl (by rfl) (by rfl) (by kernel_rfl) (by kernel_rfl) (by kernel_rfl) (by kernel_rfl) (by kernel_rfl) (fun _ _ _ _ h => by cases h.1) (by rfl) ?_; apply Exists.intro; refine ⟨fun v1 hv1 => ?_, ?_⟩; (· (go_simp; rfl)); simp only [Act.put, List.setIfInBounds_toArray, List.set_cons_zero, List.set_cons_succ]
      refine anyU_val Later.pre 3 [4, 11, 12, 13, 14, 16, 17] rfl (by rfl) (by rfl) (by kernel_rfl) (by kernel_rfl) (by kernel_rfl) (by kernel_rfl) (by kernel_rfl) (fun _ _ _ _ h => by cases h.1) (by rfl) ?_; apply Exists.intro; refine ⟨fun v1 hv1 => ?_, ?_⟩; (· (go_simp; rfl)); simp only [Act.put, List.setIfInBounds_toArray, List.set_cons_zero, List.set_cons_succ]
      refine anyU_val Later.pre 4 [11, 12, 13, 14, 16, 17] rfl (by rfl) (by rfl) (by kernel_rfl) (by kernel_rfl) (by kernel_rfl) (by kernel_rfl) (by kernel_rfl) (fun _ _ _ _ h => by cases h.1) (by rfl) ?_; apply Exists.intro; refine ⟨fun v1 hv1 => ?_, ?_⟩; (· (go_simp; rfl)); simp only [Act.put, List.setIfInBounds_toArray, List.set_cons_zero, List.set_cons_succ]
      refine anyU_val Later.pre 5 [6, 11, 12, 13, 14, 16, 17] rfl (by rfl) (by rfl) (by kernel_rfl) (by kernel_rfl) (by kernel_rfl) (by kernel_rfl) (by kernel_rfl) (fun _ _ _ _ h => by cases h.1) (by rfl) ?_; apply Exists.intro; refine ⟨fun v1 hv1 => ?_, ?_⟩; (· (go_simp; rfl)); simp only [Act.put, List.setIfInBounds_toArray, List.set_cons_zero, List.set_cons_succ]
      refine anyU_val Later.pre 6 [11, 12, 13, 14, 16, 17] rfl (by rfl) (by rfl) (by kernel_rfl) (by kernel_rfl) (by kernel_rfl) (by kernel_rfl) (by kernel_rfl) (fun _ _ _ _ h => by cases h.1) (by rfl) ?_; apply Exists.intro; refine ⟨fun v1 hv1 => ?_, ?_⟩; (· (go_simp; rfl)); simp only [Act.put, List.setIfInBounds_toArray, List.set_cons_zero, List.set_cons_succ]
      refine anyU_val Later.pre 7 [8, 11, 12, 13, 14, 16, 17] rfl (by rfl) (by rfl) (by kernel_rfl) (by kernel_rfl) (by kernel_rfl) (by kernel_rfl) (by kernel_rfl) (fun _ _ _ _ h => by cases h.1) (by rfl) ?_; apply Exists.intro; refine ⟨fun v1 hv1 => ?_, ?_⟩; (· (go_simp; rfl)); simp only [Act.put, List.setIfInBounds_toArray, List.set_cons_zero, List.set_cons_succ]
      refine anyU_val Later.pre 8 [11, 12, 13, 14, 16, 17] rfl (by rfl) (by rfl) (by kernel_rfl) (by kernel_rfl) (by kernel_rfl) (by kernel_rfl) (by kernel_rfl) (fun _ _ _ _ h => by cases h.1) (by rfl) ?_; apply Exists.intro; refine ⟨fun v1 hv1 => ?_, ?_⟩; (· (go_simp; rfl)); simp only [Act.put, List.setIfInBounds_toArray, List.set_cons_zero, List.set_cons_succ]
      refine anyU_val Later.pre 9 [10, 11, 12, 13, 14, 16, 17] rfl (by rfl) (by rfl) (by kernel_rfl) (by kernel_rfl) (by kernel_rfl) (by kernel_rfl) (by kernel_rfl) (fun _ _ _ _ h => by cases h.1) (by rfl) ?_; apply Exists.intro; refine ⟨fun v1 hv1 => ?_, ?_⟩; (· (go_simp; rfl)); simp only [Act.put, List.setIfInBounds_toArray, List.set_cons_zero, List.set_cons_succ]
      refine anyU_val Later.pre 10 [11, 12, 13, 14, 16, 17] rfl (by rfl) (by rfl) (by kernel_rfl) (by kernel_rfl) (by kernel_rfl) (by kernel_rfl) (by kernel_rfl) (fun _ _ _ _ h => by cases h.1) (by rfl) ?_; apply Exists.intro; refine ⟨fun v1 hv1 => ?_, ?_⟩; (· (go_simp; rfl)); simp only [Act.put, List.setIfInBounds_toArray, List.set_cons_zero, List.set_cons_succ]
      clear q0 q1 q2
      refine anyU_two 11 15 rfl rfl (by kernel_rfl) (by rfl) (by rfl) ?ca ?al
      case ca =>
        refine wp_enter 237 #[.pointer (some ⟨s.gr, 0, none⟩), .int .u8 p, .int .u32 d, .int .u16 b] (by go_simp) ?_
        refine (HDN.out Wd LWd).mono ?_
        rintro e W1 ⟨rfl, l1⟩
        refine ⟨Rj_out (by rfl) l1, ?_⟩
        simp only [Act.put, List.setIfInBounds_toArray, List.set_cons_zero, List.set_cons_succ]
        refine anyU_val Later.pre 12 [13, 14, 16, 17] rfl (by rfl) (by rfl) (by kernel_rfl) (by kernel_rfl) (by kernel_rfl) (by kernel_rfl) (by kernel_rfl) (fun _ _ _ _ h => by cases h.1) (by rfl) ?_; apply Exists.intro; refine ⟨fun v1 hv1 => ?_, ?_⟩; (· (go_simp; rfl)); simp only [Act.put, List.setIfInBounds_toArray, List.set_cons_zero, List.set_cons_succ]
        refine anyU_val Later.pre 13 [16, 17] rfl (by rfl) (by rfl) (by kernel_rfl) (by kernel_rfl) (by kernel_rfl) (by kernel_rfl) (by kernel_rfl) (fun _ _ _ _ h => by cases h.1) (by rfl) ?_; apply Exists.intro; refine ⟨fun v1 hv1 => ?_, ?_⟩; (· (go_simp; rfl)); simp only [Act.put, List.setIfInBounds_toArray, List.set_cons_zero, List.set_cons_succ]
        have HSZ := (ld.trans l1).size
        refine anyU_two 14 15 rfl rfl (by kernel_rfl) (by rfl) (by rfl) ?xt1415 ?yt1415
        case xt1415 =>
          refine wp_value (w' := W1) (.bool false) (by go_simp) ?_
          refine ⟨Rj_out (by rfl) (Later.refl _), ?_⟩
          simp only [Act.put, List.setIfInBounds_toArray, List.set_cons_zero, List.set_cons_succ]
          refine anyU_one 15 rfl (by kernel_rfl) (by rfl) ?_
          have la := later_allocG W1 (.cells #[.int .i64 0, .int .u8 0, .int .u32 0, .int .i64 0, .int .u32 0, .int .u16 0, .int .u32 0, .int .u16 0] 28)
          have HA0 := heap_alloc_new W1 (.cells #[.int .i64 0, .int .u8 0, .int .u32 0, .int .i64 0, .int .u32 0, .int .u16 0, .int .u32 0, .int .u16 0] 28)
          unfold Oper.wp
          go_simp
          refine ⟨Rj_out (by rfl) la, ?_⟩
          change wpAnyU _ _ _ _ _ _ _ _ _ _ (W1.alloc (.cells #[.int .i64 0, .int .u8 0, .int .u32 0, .int .i64 0, .int .u32 0, .int .u16 0, .int .u32 0, .int .u16 0] 28))
          have hgn : w2.heap.size ≤ W1.heap.size := HSZ
          generalize W1.alloc (.cells #[.int .i64 0, .int .u8 0, .int .u32 0, .int .i64 0, .int .u32 0, .int .u16 0, .int .u32 0, .int .u16 0] 28) = W5 at *
          generalize W1.heap.size = gn at *
          have HA := HA0
          have LL := ld.trans (l1.trans la)
          refine anyU_one 16 rfl (by kernel_rfl) (by rfl) ?_
          have kA := block_cell HA
          have fA := block_frozen HA
          unfold Oper.wp
          go_simp
          refine ⟨Rj_in (by rfl) trivial, ?_⟩
          clear kA fA
          generalize hV : ((((((((W5.setCell ⟨gn, 0, none⟩ _).setCell ⟨gn, 1, none⟩ _).setCell ⟨gn, 2, none⟩ _).setCell ⟨gn, 3, none⟩ _).setCell ⟨gn, 4, none⟩ _).setCell ⟨gn, 5, none⟩ _).setCell ⟨gn, 6, none⟩ _).setCell ⟨gn, 7, none⟩ _) = V8
          have hV9 : V8 = putRow W5 gn 0 [.int .i64 0, .int .u8 0, .int .u32 0, .int .i64 0, .int .u32 0, .int .u16 0, .int .u32 0, .int .u16 0] := hV.symm
          have hb8 : But (fun b => b = gn) W5 V8 := by rw [hV9]; exact putRow_but (E := fun b => b = gn) (n := gn) rfl _ _ _ _ (But.refl _ _)
          have p8 := putRow_all [.int .i64 0, .int .u8 0, .int .u32 0, .int .i64 0, .int .u32 0, .int .u16 0, .int .u32 0, .int .u16 0] HA rfl
          rw [← hV9] at p8
          have PP := hide p8
          clear hV hV9 p8
          have BB := hide (Below.trans LL (hb8.below LL.size (fun k h e => by omega)))
          refine anyU_one 17 rfl (by kernel_rfl) (by rfl) ?_
          refine wp_value (w' := V8) (.bool false) (by go_simp) ?_
          refine ⟨Rj_out (by rfl) (Later.refl _), ?_⟩
          simp only [Act.put, List.setIfInBounds_toArray, List.set_cons_zero, List.set_cons_succ]
          refine anyU_done (by kernel_rfl) ?_
          refine ⟨rfl, ?_⟩
          go_wp2_with fail
          go_meet
          case rel => exact ⟨⟨gn, rfl⟩, rfl, BB⟩
        case yt1415 =>
          have la := later_allocG W1 (.cells #[.int .i64 0, .int .u8 0, .int .u32 0, .int .i64 0, .int .u32 0, .int .u16 0, .int .u32 0, .int .u16 0] 28)
          have HA0 := heap_alloc_new W1 (.cells #[.int .i64 0, .int .u8 0, .int .u32 0, .int .i64 0, .int .u32 0, .int .u16 0, .int .u32 0, .int .u16 0] 28)
          unfold Oper.wp
          go_simp
          refine ⟨Rj_out (by rfl) la, ?_⟩
          change wpAnyU _ _ _ _ _ _ _ _ _ _ (W1.alloc (.cells #[.int .i64 0, .int .u8 0, .int .u32 0, .int .i64 0, .int .u32 0, .int .u16 0, .int .u32 0, .int .u16 0] 28))
          have hgn : w2.heap.size ≤ W1.heap.size := HSZ
          generalize W1.alloc (.cells #[.int .i64 0, .int .u8 0, .int .u32 0, .int .i64 0, .int .u32 0, .int .u16 0, .int .u32 0, .int .u16 0] 28) = W5 at *
          generalize W1.heap.size = gn at *
          have HA := HA0
          have LL := ld.trans (l1.trans la)
          refine anyU_two 14 16 rfl rfl (by kernel_rfl) (by rfl) (by rfl) ?xt1416 ?yt1416
          case xt1416 =>
            refine wp_value (w' := W5) (.bool false) (by go_simp) ?_
            refine ⟨Rj_out (by rfl) (Later.refl _), ?_⟩
            simp only [Act.put, List.setIfInBounds_toArray, List.set_cons_zero, List.set_cons_succ]
            refine anyU_one 16 rfl (by kernel_rfl) (by rfl) ?_
            have kA := block_cell HA
            have fA := block_frozen HA
            unfold Oper.wp
            go_simp
            refine ⟨Rj_in (by rfl) trivial, ?_⟩
            clear kA fA
            generalize hV : ((((((((W5.setCell ⟨gn, 0, none⟩ _).setCell ⟨gn, 1, none⟩ _).setCell ⟨gn, 2, none⟩ _).setCell ⟨gn, 3, none⟩ _).setCell ⟨gn, 4, none⟩ _).setCell ⟨gn, 5, none⟩ _).setCell ⟨gn, 6, none⟩ _).setCell ⟨gn, 7, none⟩ _) = V8
            have hV9 : V8 = putRow W5 gn 0 [.int .i64 0, .int .u8 0, .int .u32 0, .int .i64 0, .int .u32 0, .int .u16 0, .int .u32 0, .int .u16 0] := hV.symm
            have hb8 : But (fun b => b = gn) W5 V8 := by rw [hV9]; exact putRow_but (E := fun b => b = gn) (n := gn) rfl _ _ _ _ (But.refl _ _)
            have p8 := putRow_all [.int .i64 0, .int .u8 0, .int .u32 0, .int .i64 0, .int .u32 0, .int .u16 0, .int .u32 0, .int .u16 0] HA rfl
            rw [← hV9] at p8
            have PP := hide p8
            clear hV hV9 p8
            have BB := hide (Below.trans LL (hb8.below LL.size (fun k h e => by omega)))
            refine anyU_one 17 rfl (by kernel_rfl) (by rfl) ?_
            refine wp_value (w' := V8) (.bool false) (by go_simp) ?_
            refine ⟨Rj_out (by rfl) (Later.refl _), ?_⟩
            simp only [Act.put, List.setIfInBounds_toArray, List.set_cons_zero, List.set_cons_succ]
            refine anyU_done (by kernel_rfl) ?_
            refine ⟨rfl, ?_⟩
            go_wp2_with fail
            go_meet
            case rel => exact ⟨⟨gn, rfl⟩, rfl, BB⟩
          case yt1416 =>
            have kA := block_cell HA
            have fA := block_frozen HA
            unfold Oper.wp
            go_simp
            refine ⟨Rj_in (by rfl) trivial, ?_⟩
            clear kA fA
            generalize hV : ((((((((W5.setCell ⟨gn, 0, none⟩ _).setCell ⟨gn, 1, none⟩ _).setCell ⟨gn, 2, none⟩ _).setCell ⟨gn, 3, none⟩ _).setCell ⟨gn, 4, none⟩ _).setCell ⟨gn, 5, none⟩ _).setCell ⟨gn, 6, none⟩ _).setCell ⟨gn, 7, none⟩ _) = V8
            have hV9 : V8 = putRow W5 gn 0 [.int .i64 0, .int .u8 0, .int .u32 0, .int .i64 0, .int .u32 0, .int .u16 0, .int .u32 0, .int .u16 0] := hV.symm
            have hb8 : But (fun b => b = gn) W5 V8 := by rw [hV9]; exact putRow_but (E := fun b => b = gn) (n := gn) rfl _ _ _ _ (But.refl _ _)
            have p8 := putRow_all [.int .i64 0, .int .u8 0, .int .u32 0, .int .i64 0, .int .u32 0, .int .u16 0, .int .u32 0, .int .u16 0] HA rfl
            rw [← hV9] at p8
            have PP := hide p8
            clear hV hV9 p8
            have BB := hide (Below.trans LL (hb8.below LL.size (fun k h e => by omega)))
            refine anyU_one 14 rfl (by kernel_rfl) (by rfl) ?_
            refine wp_value (w' := V8) (.bool false) (by go_simp) ?_
            refine ⟨Rj_out (by rfl) (Later.refl _), ?_⟩
            simp only [Act.put, List.setIfInBounds_toArray, List.set_cons_zero, List.set_cons_succ]
            refine anyU_one 17 rfl (by kernel_rfl) (by rfl) ?_
            refine wp_value (w' := V8) (.bool false) (by go_simp) ?_
            refine ⟨Rj_out (by rfl) (Later.refl _), ?_⟩
            simp only [Act.put, List.setIfInBounds_toArray, List.set_cons_zero, List.set_cons_succ]
            refine anyU_done (by kernel_rfl) ?_
            refine ⟨rfl, ?_⟩
            go_wp2_with fail
            go_meet
            case rel => exact ⟨⟨gn, rfl⟩, rfl, BB⟩
      case al =>
        have HSZ := ld.size
        have la := later_allocG Wd (.cells #[.int .i64 0, .int .u8 0, .int .u32 0, .int .i64 0, .int .u32 0, .int .u16 0, .int .u32 0, .int .u16 0] 28)
        have HA0 := heap_alloc_new Wd (.cells #[.int .i64 0, .int .u8 0, .int .u32 0, .int .i64 0, .int .u32 0, .int .u16 0, .int .u32 0, .int .u16 0] 28)
        unfold Oper.wp
        go_simp
        refine ⟨Rj_out (by rfl) la, ?_⟩
        change wpAnyU _ _ _ _ _ _ _ _ _ _ (Wd.alloc (.cells #[.int .i64 0, .int .u8 0, .int .u32 0, .int .i64 0, .int .u32 0, .int .u16 0, .int .u32 0, .int .u16 0] 28))
        have hgn : w2.heap.size ≤ Wd.heap.size := HSZ
        generalize Wd.alloc (.cells #[.int .i64 0, .int .u8 0, .int .u32 0, .int .i64 0, .int .u32 0, .int .u16 0, .int .u32 0, .int .u16 0] 28) = W3 at *
        generalize Wd.heap.size = gn at *
        refine anyU_one 11 rfl (by kernel_rfl) (by rfl) ?_
        refine wp_enter 237 #[.pointer (some ⟨s.gr, 0, none⟩), .int .u8 p, .int .u32 d, .int .u16 b] (by go_simp) ?_
        refine (HDN.out W3 (LWd.trans la)).mono ?_
        rintro e W5 ⟨rfl, l1⟩
        refine ⟨Rj_out (by rfl) l1, ?_⟩
        simp only [Act.put, List.setIfInBounds_toArray, List.set_cons_zero, List.set_cons_succ]
        refine anyU_val Later.pre 12 [13, 14, 16, 17] rfl (by rfl) (by rfl) (by kernel_rfl) (by kernel_rfl) (by kernel_rfl) (by kernel_rfl) (by kernel_rfl) (fun _ _ _ _ h => by cases h.1) (by rfl) ?_; apply Exists.intro; refine ⟨fun v1 hv1 => ?_, ?_⟩; (· (go_simp; rfl)); simp only [Act.put, List.setIfInBounds_toArray, List.set_cons_zero, List.set_cons_succ]
        refine anyU_val Later.pre 13 [16, 17] rfl (by rfl) (by rfl) (by kernel_rfl) (by kernel_rfl) (by kernel_rfl) (by kernel_rfl) (by kernel_rfl) (fun _ _ _ _ h => by cases h.1) (by rfl) ?_; apply Exists.intro; refine ⟨fun v1 hv1 => ?_, ?_⟩; (· (go_simp; rfl)); simp only [Act.put, List.setIfInBounds_toArray, List.set_cons_zero, List.set_cons_succ]
        have HA := later_keep l1 HA0
        have LL := ld.trans (la.trans l1)
        refine anyU_two 14 16 rfl rfl (by kernel_rfl) (by rfl) (by rfl) ?xt1416 ?yt1416
        case xt1416 =>
          refine wp_value (w' := W5) (.bool false) (by go_simp) ?_
          refine ⟨Rj_out (by rfl) (Later.refl _), ?_⟩
          simp only [Act.put, List.setIfInBounds_toArray, List.set_cons_zero, List.set_cons_succ]
          refine anyU_one 16 rfl (by kernel_rfl) (by rfl) ?_
          have kA := block_cell HA
          have fA := block_frozen HA
          unfold Oper.wp
          go_simp
          refine ⟨Rj_in (by rfl) trivial, ?_⟩
          clear kA fA
          generalize hV : ((((((((W5.setCell ⟨gn, 0, none⟩ _).setCell ⟨gn, 1, none⟩ _).setCell ⟨gn, 2, none⟩ _).setCell ⟨gn, 3, none⟩ _).setCell ⟨gn, 4, none⟩ _).setCell ⟨gn, 5, none⟩ _).setCell ⟨gn, 6, none⟩ _).setCell ⟨gn, 7, none⟩ _) = V8
          have hV9 : V8 = putRow W5 gn 0 [.int .i64 0, .int .u8 0, .int .u32 0, .int .i64 0, .int .u32 0, .int .u16 0, .int .u32 0, .int .u16 0] := hV.symm
          have hb8 : But (fun b => b = gn) W5 V8 := by rw [hV9]; exact putRow_but (E := fun b => b = gn) (n := gn) rfl _ _ _ _ (But.refl _ _)
          have p8 := putRow_all [.int .i64 0, .int .u8 0, .int .u32 0, .int .i64 0, .int .u32 0, .int .u16 0, .int .u32 0, .int .u16 0] HA rfl
          rw [← hV9] at p8
          have PP := hide p8
          clear hV hV9 p8
          have BB := hide (Below.trans LL (hb8.below LL.size (fun k h e => by omega)))
          refine anyU_one 17 rfl (by kernel_rfl) (by rfl) ?_
          refine wp_value (w' := V8) (.bool false) (by go_simp) ?_
          refine ⟨Rj_out (by rfl) (Later.refl _), ?_⟩
          simp only [Act.put, List.setIfInBounds_toArray, List.set_cons_zero, List.set_cons_succ]
          refine anyU_done (by kernel_rfl) ?_
          refine ⟨rfl, ?_⟩
          go_wp2_with fail
          go_meet
          case rel => exact ⟨⟨gn, rfl⟩, rfl, BB⟩
        case yt1416 =>
          have kA := block_cell HA
          have fA := block_frozen HA
          unfold Oper.wp
          go_simp
          refine ⟨Rj_in (by rfl) trivial, ?_⟩
          clear kA fA
          generalize hV : ((((((((W5.setCell ⟨gn, 0, none⟩ _).setCell ⟨gn, 1, none⟩ _).setCell ⟨gn, 2, none⟩ _).setCell ⟨gn, 3, none⟩ _).setCell ⟨gn, 4, none⟩ _).setCell ⟨gn, 5, none⟩ _).setCell ⟨gn, 6, none⟩ _).setCell ⟨gn, 7, none⟩ _) = V8
          have hV9 : V8 = putRow W5 gn 0 [.int .i64 0, .int .u8 0, .int .u32 0, .int .i64 0, .int .u32 0, .int .u16 0, .int .u32 0, .int .u16 0] := hV.symm
          have hb8 : But (fun b => b = gn) W5 V8 := by rw [hV9]; exact putRow_but (E := fun b => b = gn) (n := gn) rfl _ _ _ _ (But.refl _ _)
          have p8 := putRow_all [.int .i64 0, .int .u8 0, .int .u32 0, .int .i64 0, .int .u32 0, .int .u16 0, .int .u32 0, .int .u16 0] HA rfl
          rw [← hV9] at p8
          have PP := hide p8
          clear hV hV9 p8
          have BB := hide (Below.trans LL (hb8.below LL.size (fun k h e => by omega)))
          refine anyU_one 14 rfl (by kernel_rfl) (by rfl) ?_
          refine wp_value (w' := V8) (.bool false) (by go_simp) ?_
          refine ⟨Rj_out (by rfl) (Later.refl _), ?_⟩
          simp only [Act.put, List.setIfInBounds_toArray, List.set_cons_zero, List.set_cons_succ]
          refine anyU_one 17 rfl (by kernel_rfl) (by rfl) ?_
          refine wp_value (w' := V8) (.bool false) (by go_simp) ?_
          refine ⟨Rj_out (by rfl) (Later.refl _), ?_⟩
          simp only [Act.put, List.setIfInBounds_toArray, List.set_cons_zero, List.set_cons_succ]
          refine anyU_done (by kernel_rfl) ?_
          refine ⟨rfl, ?_⟩
          go_wp2_with fail
          go_meet
          case rel => exact ⟨⟨gn, rfl⟩, rfl, BB⟩
    case rest =>
      obtain ⟨⟨gm, rfl⟩, rfl, HL3⟩ := hcut
      have L3 := HL3.out
      go_wp2_with fail
      refine (grefuse_yes 3 _).mono ?_
      rintro e w4 ⟨rfl, rfl⟩
      exact ⟨rfl, ⟨3, by decide, rfl⟩, LW2.trans L3⟩

set_option maxRecDepth 100000 in
set_option maxHeartbeats 8000000 in
theorem beginInside_none (base g : Nat) (s : Gs) (tos id ttl pr src dst : Int) (keep : Bool) (so sd : Value) (side : Int) (p x d a b : Int) (w : World) (h : GI base w g s) (hok : okL s.ls) (hx : 0 ≤ x ∧ x ≤ 4294967295) (hn : ∀ y ∈ s.ls, y.kind ≠ 1) :
    Calls Tryz.prog 185 #[.agg #[.pointer (some ⟨g, 0, none⟩), .int .u8 tos, .int .u16 id, .bool keep, .int .u8 ttl, .int .u8 pr, .int .u32 src, .int .u32 dst, so, sd, .int .i64 side], .agg #[.int .u8 p, .int .u32 x, .int .u32 d, .int .u16 a, .int .u16 b]] w fun e w' => Gvn e ∧ Later w w' := by
  obtain ⟨l0, c0, c1⟩ := alloc2 w (.cells #[.pointer (some ⟨g, 0, none⟩), .int .u8 tos, .int .u16 id, .bool keep, .int .u8 ttl, .int .u8 pr, .int .u32 src, .int .u32 dst, so, sd, .int .i64 side] 111) (.cells #[.int .u8 p, .int .u32 x, .int .u32 d, .int .u16 a, .int .u16 b] 69)
  have C0 := hide c0
  have C1 := hide c1
  have CG := hide (later_keep l0 h.gc)
  have HMQ := hide (fun W (l : Later w W) => masq_none base s.gr s.vr s.ls x W (h.rl.later l) hok hx hn)
  clear c0 c1 hn h hok hx
  go_enter Tryz.func185, Tryz.ntmps185
  go_upto_region 1 with fail
  generalize (w.alloc (.cells #[.pointer (some ⟨g, 0, none⟩), .int .u8 tos, .int .u16 id, .bool keep, .int .u8 ttl, .int .u8 pr, .int .u32 src, .int .u32 dst, so, sd, .int .i64 side] 111)).alloc (.cells #[.int .u8 p, .int .u32 x, .int .u32 d, .int .u16 a, .int .u16 b] 69) = w1 at *
  generalize w.heap.size = gx at C0 C1 ⊢
  have LW0 : Later w w1 := l0
  go_cut [5, 6] (fun v c wx => (∃ gn, v = .pointer (some ⟨gn, 0, none⟩)) ∧ c = .bool false ∧ Hid (Later w1 wx))
  case first =>
    refine wp_calmG ?_
    refine anyU_begin (R1 := Later) (R2 := fun _ _ => True) (D := [12]) 14 rfl (by kernel_rfl) ?_
    have ld : Later w1 w1.drew := Later.drew w1
    generalize w1.drew = Wd at *
    have LWd : Later w Wd := LW0.trans ld
    have q0 : ∀ v1, Later Wd v1 → ∀ j, v1.cell? ⟨gx, j, none⟩ = #[.pointer (some ⟨g, 0, none⟩), .int .u8 tos, .int .u16 id, .bool keep, .int .u8 ttl, .int .u8 pr, .int .u32 src, .int .u32 dst, so, sd, .int .i64 side][j]? := fun v1 hv => block_cell (later_keep (ld.trans hv) C0.out)
    have q1 : ∀ v1, Later Wd v1 → ∀ j, v1.cell? ⟨gx + 1, j, none⟩ = #[.int .u8 p, .int .u32 x, .int .u32 d, .int .u16 a, .int .u16 b][j]? := fun v1 hv => block_cell (later_keep (ld.trans hv) C1.out)
    have q2 : ∀ v1, Later Wd v1 → ∀ j, v1.cell? ⟨g, j, none⟩ = (gtc s).toArray[j]? := fun v1 hv => block_cell (later_keep (ld.trans hv) CG.out)
    unfold gtc at q2
    refine anyU_val Later.pre 0 [1, 2, 3, 4, 7, 8, 9, 10, 12, 13] rfl (by rfl) (by rfl) (by kernel_rfl) (by kernel_rfl) (by kernel_rfl) (by kernel_rfl) (by kernel_rfl) (fun _ _ _ _ h => by cases h.1) (by rfl) ?_; apply Exists.intro; refine ⟨fun v1 hv1 => ?_, ?_⟩; (· (go_simp; rfl)); simp only [Act.put, List.setIfInBounds_toArray, List.set_cons_zero, List.set_cons_succ]
    refine anyU_val Later.pre 1 [2, 3, 4, 7, 8, 9, 10, 12, 13] rfl (by rfl) (by rfl) (by kernel_rfl) (by kernel_rfl) (by kernel_rfl) (by kernel_rfl) (by kernel_rfl) (fun _ _ _ _ h => by cases h.1) (by rfl) ?_; apply Exists.intro; refine ⟨fun v1 hv1 => ?_, ?_⟩; (· (go_simp; rfl)); simp only [Act.put, List.setIfInBounds_toArray, List.set_cons_zero, List.set_cons_succ]
    refine anyU_val Later.pre 2 [3, 4, 7, 8, 9, 10, 12, 13] rfl (by rfl) (by rfl) (by kernel_rfl) (by kernel_rfl) (by kernel_rfl) (by kernel_rfl) (by kernel_rfl) (fun _ _ _ _ h => by cases h.1) (by rfl) ?_; apply Exists.intro; refine ⟨fun v1 hv1 => ?_, ?_⟩; (· (go_simp; rfl)); simp only [Act.put, List.setIfInBounds_toArray, List.set_cons_zero, List.set_cons_succ]
    refine anyU_val Later.pre 3 [4, 7, 8, 9, 10, 12, 13] rfl (by rfl) (by rfl) (by kernel_rfl) (by kernel_rfl) (by kernel_rfl) (by kernel_rfl) (by kernel_rfl) (fun _ _ _ _ h => by cases h.1) (by rfl) ?_; apply Exists.intro; refine ⟨fun v1 hv1 => ?_, ?_⟩; (· (go_simp; rfl)); simp only [Act.put, List.setIfInBounds_toArray, List.set_cons_zero, List.set_cons_succ]
    refine anyU_val Later.pre 4 [7, 8, 9, 10, 12, 13] rfl (by rfl) (by rfl) (by kernel_rfl) (by kernel_rfl) (by kernel_rfl) (by kernel_rfl) (by kernel_rfl) (fun _ _ _ _ h => by cases h.1) (by rfl) ?_; apply Exists.intro; refine ⟨fun v1 hv1 => ?_, ?_⟩; (· (go_simp; rfl)); simp only [Act.put, List.setIfInBounds_toArray, List.set_cons_zero, List.set_cons_succ]
    refine anyU_val Later.pre 5 [6, 7, 8, 9, 10, 12, 13] rfl (by rfl) (by rfl) (by kernel_rfl) (by kernel_rfl) (by kernel_rfl) (by kernel_rfl) (by kernel_rfl) (fun _ _ _ _ h => by cases h.1) (by rfl) ?_; apply Exists.intro; refine ⟨fun v1 hv1 => ?_, ?_⟩; (· (go_simp; rfl)); simp only [Act.put, List.setIfInBounds_toArray, List.set_cons_zero, List.set_cons_succ]
    refine anyU_val Later.pre 6 [7, 8, 9, 10, 12, 13] rfl (by rfl) (by rfl) (by kernel_rfl) (by kernel_rfl) (by kernel_rfl) (by kernel_rfl) (by kernel_rfl) (fun _ _ _ _ h => by cases h.1) (by rfl) ?_; apply Exists.intro; refine ⟨fun v1 hv1 => ?_, ?_⟩; (· (go_simp; rfl)); simp only [Act.put, List.setIfInBounds_toArray, List.set_cons_zero, List.set_cons_succ]
    clear q0 q1 q2
    refine anyU_two 7 11 rfl rfl (by kernel_rfl) (by rfl) (by rfl) ?ca ?al
    case ca =>
      refine wp_enter 230 #[.pointer (some ⟨s.gr, 0, none⟩), .int .u32 x] (by go_simp) ?_
      refine (HMQ.out Wd LWd).mono ?_
      rintro e W1 ⟨rfl, l1⟩
      refine ⟨Rj_out (by rfl) l1, ?_⟩
      simp only [Act.put, List.setIfInBounds_toArray, List.set_cons_zero, List.set_cons_succ]
      refine anyU_val Later.pre 8 [9, 10, 12, 13] rfl (by rfl) (by rfl) (by kernel_rfl) (by kernel_rfl) (by kernel_rfl) (by kernel_rfl) (by kernel_rfl) (fun _ _ _ _ h => by cases h.1) (by rfl) ?_; apply Exists.intro; refine ⟨fun v1 hv1 => ?_, ?_⟩; (· (go_simp; rfl)); simp only [Act.put, List.setIfInBounds_toArray, List.set_cons_zero, List.set_cons_succ]
      refine anyU_val Later.pre 9 [12, 13] rfl (by rfl) (by rfl) (by kernel_rfl) (by kernel_rfl) (by kernel_rfl) (by kernel_rfl) (by kernel_rfl) (fun _ _ _ _ h => by cases h.1) (by rfl) ?_; apply Exists.intro; refine ⟨fun v1 hv1 => ?_, ?_⟩; (· (go_simp; rfl)); simp only [Act.put, List.setIfInBounds_toArray, List.set_cons_zero, List.set_cons_succ]
      have HSZ := (ld.trans l1).size
      refine anyU_two 10 11 rfl rfl (by kernel_rfl) (by rfl) (by rfl) ?xt1011 ?yt1011
      case xt1011 =>
        refine wp_value (w' := W1) (.bool false) (by go_simp) ?_
        refine ⟨Rj_out (by rfl) (Later.refl _), ?_⟩
        simp only [Act.put, List.setIfInBounds_toArray, List.set_cons_zero, List.set_cons_succ]
        refine anyU_one 11 rfl (by kernel_rfl) (by rfl) ?_
        have la := later_allocG W1 (.cells #[.int .i64 0, .int .u8 0, .int .u32 0, .int .i64 0, .int .u32 0, .int .u16 0, .int .u32 0, .int .u16 0] 28)
        have HA0 := heap_alloc_new W1 (.cells #[.int .i64 0, .int .u8 0, .int .u32 0, .int .i64 0, .int .u32 0, .int .u16 0, .int .u32 0, .int .u16 0] 28)
        unfold Oper.wp
        go_simp
        refine ⟨Rj_out (by rfl) la, ?_⟩
        change wpAnyU _ _ _ _ _ _ _ _ _ _ (W1.alloc (.cells #[.int .i64 0, .int .u8 0, .int .u32 0, .int .i64 0, .int .u32 0, .int .u16 0, .int .u32 0, .int .u16 0] 28))
        have hgn : w1.heap.size ≤ W1.heap.size := HSZ
        generalize W1.alloc (.cells #[.int .i64 0, .int .u8 0, .int .u32 0, .int .i64 0, .int .u32 0, .int .u16 0, .int .u32 0, .int .u16 0] 28) = W5 at *
        generalize W1.heap.size = gn at *
        have HA := HA0
        have LL := ld.trans (l1.trans la)
        refine anyU_one 12 rfl (by kernel_rfl) (by rfl) ?_
        have kA := block_cell HA
        have fA := block_frozen HA
        unfold Oper.wp
        go_simp
        refine ⟨Rj_in (by rfl) trivial, ?_⟩
        clear kA fA
        generalize hV : ((((((((W5.setCell ⟨gn, 0, none⟩ _).setCell ⟨gn, 1, none⟩ _).setCell ⟨gn, 2, none⟩ _).setCell ⟨gn, 3, none⟩ _).setCell ⟨gn, 4, none⟩ _).setCell ⟨gn, 5, none⟩ _).setCell ⟨gn, 6, none⟩ _).setCell ⟨gn, 7, none⟩ _) = V8
        have hV9 : V8 = putRow W5 gn 0 [.int .i64 0, .int .u8 0, .int .u32 0, .int .i64 0, .int .u32 0, .int .u16 0, .int .u32 0, .int .u16 0] := hV.symm
        have hb8 : But (fun b => b = gn) W5 V8 := by rw [hV9]; exact putRow_but (E := fun b => b = gn) (n := gn) rfl _ _ _ _ (But.refl _ _)
        have p8 := putRow_all [.int .i64 0, .int .u8 0, .int .u32 0, .int .i64 0, .int .u32 0, .int .u16 0, .int .u32 0, .int .u16 0] HA rfl
        rw [← hV9] at p8
        have PP := hide p8
        clear hV hV9 p8
        have BB := hide (Below.trans LL (hb8.below LL.size (fun k h e => by omega)))
        refine anyU_one 13 rfl (by kernel_rfl) (by rfl) ?_
        refine wp_value (w' := V8) (.bool false) (by go_simp) ?_
        refine ⟨Rj_out (by rfl) (Later.refl _), ?_⟩
        simp only [Act.put, List.setIfInBounds_toArray, List.set_cons_zero, List.set_cons_succ]
        refine anyU_done (by kernel_rfl) ?_
        refine ⟨rfl, ?_⟩
        go_wp2_with fail
        go_meet
        case rel => exact ⟨⟨gn, rfl⟩, rfl, BB⟩
      case yt1011 =>
        have la := later_allocG W1 (.cells #[.int .i64 0, .int .u8 0, .int .u32 0, .int .i64 0, .int .u32 0, .int .u16 0, .int .u32 0, .int .u16 0] 28)
        have HA0 := heap_alloc_new W1 (.cells #[.int .i64 0, .int .u8 0, .int .u32 0, .int .i64 0, .int .u32 0, .int .u16 0, .int .u32 0, .int .u16 0] 28)
        unfold Oper.wp
        go_simp
        refine ⟨Rj_out (by rfl) la, ?_⟩
        change wpAnyU _ _ _ _ _ _ _ _ _ _ (W1.alloc (.cells #[.int .i64 0, .int .u8 0, .int .u32 0, .int .i64 0, .int .u32 0, .int .u16 0, .int .u32 0, .int .u16 0] 28))
        have hgn : w1.heap.size ≤ W1.heap.size := HSZ
        generalize W1.alloc (.cells #[.int .i64 0, .int .u8 0, .int .u32 0, .int .i64 0, .int .u32 0, .int .u16 0, .int .u32 0, .int .u16 0] 28) = W5 at *
        generalize W1.heap.size = gn at *
        have HA := HA0
        have LL := ld.trans (l1.trans la)
        refine anyU_two 10 12 rfl rfl (by kernel_rfl) (by rfl) (by rfl) ?xt1012 ?yt1012
        case xt1012 =>
          refine wp_value (w' := W5) (.bool false) (by go_simp) ?_
          refine ⟨Rj_out (by rfl) (Later.refl _), ?_⟩
          simp only [Act.put, List.setIfInBounds_toArray, List.set_cons_zero, List.set_cons_succ]
          refine anyU_one 12 rfl (by kernel_rfl) (by rfl) ?_
          have kA := block_cell HA
          have fA := block_frozen HA
          unfold Oper.wp
          go_simp
          refine ⟨Rj_in (by rfl) trivial, ?_⟩
          clear kA fA
          generalize hV : ((((((((W5.setCell ⟨gn, 0, none⟩ _).setCell ⟨gn, 1, none⟩ _).setCell ⟨gn, 2, none⟩ _).setCell ⟨gn, 3, none⟩ _).setCell ⟨gn, 4, none⟩ _).setCell ⟨gn, 5, none⟩ _).setCell ⟨gn, 6, none⟩ _).setCell ⟨gn, 7, none⟩ _) = V8
          have hV9 : V8 = putRow W5 gn 0 [.int .i64 0, .int .u8 0, .int .u32 0, .int .i64 0, .int .u32 0, .int .u16 0, .int .u32 0, .int .u16 0] := hV.symm
          have hb8 : But (fun b => b = gn) W5 V8 := by rw [hV9]; exact putRow_but (E := fun b => b = gn) (n := gn) rfl _ _ _ _ (But.refl _ _)
          have p8 := putRow_all [.int .i64 0, .int .u8 0, .int .u32 0, .int .i64 0, .int .u32 0, .int .u16 0, .int .u32 0, .int .u16 0] HA rfl
          rw [← hV9] at p8
          have PP := hide p8
          clear hV hV9 p8
          have BB := hide (Below.trans LL (hb8.below LL.size (fun k h e => by omega)))
          refine anyU_one 13 rfl (by kernel_rfl) (by rfl) ?_
          refine wp_value (w' := V8) (.bool false) (by go_simp) ?_
          refine ⟨Rj_out (by rfl) (Later.refl _), ?_⟩
          simp only [Act.put, List.setIfInBounds_toArray, List.set_cons_zero, List.set_cons_succ]
          refine anyU_done (by kernel_rfl) ?_
          refine ⟨rfl, ?_⟩
          go_wp2_with fail
          go_meet
          case rel => exact ⟨⟨gn, rfl⟩, rfl, BB⟩
        case yt1012 =>
          have kA := block_cell HA
          have fA := block_frozen HA
          unfold Oper.wp
          go_simp
          refine ⟨Rj_in (by rfl) trivial, ?_⟩
          clear kA fA
          generalize hV : ((((((((W5.setCell ⟨gn, 0, none⟩ _).setCell ⟨gn, 1, none⟩ _).setCell ⟨gn, 2, none⟩ _).setCell ⟨gn, 3, none⟩ _).setCell ⟨gn, 4, none⟩ _).setCell ⟨gn, 5, none⟩ _).setCell ⟨gn, 6, none⟩ _).setCell ⟨gn, 7, none⟩ _) = V8
          have hV9 : V8 = putRow W5 gn 0 [.int .i64 0, .int .u8 0, .int .u32 0, .int .i64 0, .int .u32 0, .int .u16 0, .int .u32 0, .int .u16 0] := hV.symm
          have hb8 : But (fun b => b = gn) W5 V8 := by rw [hV9]; exact putRow_but (E := fun b => b = gn) (n := gn) rfl _ _ _ _ (But.refl _ _)
          have p8 := putRow_all [.int .i64 0, .int .u8 0, .int .u32 0, .int .i64 0, .int .u32 0, .int .u16 0, .int .u32 0, .int .u16 0] HA rfl
          rw [← hV9] at p8
          have PP := hide p8
          clear hV hV9 p8
          have BB := hide (Below.trans LL (hb8.below LL.size (fun k h e => by omega)))
          refine anyU_one 10 rfl (by kernel_rfl) (by rfl) ?_
          refine wp_value (w' := V8) (.bool false) (by go_simp) ?_
          refine ⟨Rj_out (by rfl) (Later.refl _), ?_⟩
          simp only [Act.put, List.setIfInBounds_toArray, List.set_cons_zero, List.set_cons_succ]
          refine anyU_one 13 rfl (by kernel_rfl) (by rfl) ?_
          refine wp_value (w' := V8) (.bool false) (by go_simp) ?_
          refine ⟨Rj_out (by rfl) (Later.refl _), ?_⟩
          simp only [Act.put, List.setIfInBounds_toArray, List.set_cons_zero, List.set_cons_succ]
          refine anyU_done (by kernel_rfl) ?_
          refine ⟨rfl, ?_⟩
          go_wp2_with fail
          go_meet
          case rel => exact ⟨⟨gn, rfl⟩, rfl, BB⟩
    case al =>
      have HSZ := ld.size
      have la := later_allocG Wd (.cells #[.int .i64 0, .int .u8 0, .int .u32 0, .int .i64 0, .int .u32 0, .int .u16 0, .int .u32 0, .int .u16 0] 28)
      have HA0 := heap_alloc_new Wd (.cells #[.int .i64 0, .int .u8 0, .int .u32 0, .int .i64 0, .int .u32 0, .int .u16 0, .int .u32 0, .int .u16 0] 28)
      unfold Oper.wp
      go_simp
      refine ⟨Rj_out (by rfl) la, ?_⟩
      change wpAnyU _ _ _ _ _ _ _ _ _ _ (Wd.alloc (.cells #[.int .i64 0, .int .u8 0, .int .u32 0, .int .i64 0, .int .u32 0, .int .u16 0, .int .u32 0, .int .u16 0] 28))
      have hgn : w1.heap.size ≤ Wd.heap.size := HSZ
      generalize Wd.alloc (.cells #[.int .i64 0, .int .u8 0, .int .u32 0, .int .i64 0, .int .u32 0, .int .u16 0, .int .u32 0, .int .u16 0] 28) = W3 at *
      generalize Wd.heap.size = gn at *
      refine anyU_one 7 rfl (by kernel_rfl) (by rfl) ?_
      refine wp_enter 230 #[.pointer (some ⟨s.gr, 0, none⟩), .int .u32 x] (by go_simp) ?_
      refine (HMQ.out W3 (LWd.trans la)).mono ?_
      rintro e W5 ⟨rfl, l1⟩
      refine ⟨Rj_out (by rfl) l1, ?_⟩
      simp only [Act.put, List.setIfInBounds_toArray, List.set_cons_zero, List.set_cons_succ]
      refine anyU_val Later.pre 8 [9, 10, 12, 13] rfl (by rfl) (by rfl) (by kernel_rfl) (by kernel_rfl) (by kernel_rfl) (by kernel_rfl) (by kernel_rfl) (fun _ _ _ _ h => by cases h.1) (by rfl) ?_; apply Exists.intro; refine ⟨fun v1 hv1 => ?_, ?_⟩; (· (go_simp; rfl)); simp only [Act.put, List.setIfInBounds_toArray, List.set_cons_zero, List.set_cons_succ]
      refine anyU_val Later.pre 9 [12, 13] rfl (by rfl) (by rfl) (by kernel_rfl) (by kernel_rfl) (by kernel_rfl) (by kernel_rfl) (by kernel_rfl) (fun _ _ _ _ h => by cases h.1) (by rfl) ?_; apply Exists.intro; refine ⟨fun v1 hv1 => ?_, ?_⟩; (· (go_simp; rfl)); simp only [Act.put, List.setIfInBounds_toArray, List.set_cons_zero, List.set_cons_succ]
      have HA := later_keep l1 HA0
      have LL := ld.trans (la.trans l1)
      refine anyU_two 10 12 rfl rfl (by kernel_rfl) (by rfl) (by rfl) ?xt1012 ?yt1012
      case xt1012 =>
        refine wp_value (w' := W5) (.bool false) (by go_simp) ?_
        refine ⟨Rj_out (by rfl) (Later.refl _), ?_⟩
        simp only [Act.put, List.setIfInBounds_toArray, List.set_cons_zero, List.set_cons_succ]
        refine anyU_one 12 rfl (by kernel_rfl) (by rfl) ?_
        have kA := block_cell HA
        have fA := block_frozen HA
        unfold Oper.wp
        go_simp
        refine ⟨Rj_in (by rfl) trivial, ?_⟩
        clear kA fA
        generalize hV : ((((((((W5.setCell ⟨gn, 0, none⟩ _).setCell ⟨gn, 1, none⟩ _).setCell ⟨gn, 2, none⟩ _).setCell ⟨gn, 3, none⟩ _).setCell ⟨gn, 4, none⟩ _).setCell ⟨gn, 5, none⟩ _).setCell ⟨gn, 6, none⟩ _).setCell ⟨gn, 7, none⟩ _) = V8
        have hV9 : V8 = putRow W5 gn 0 [.int .i64 0, .int .u8 0, .int .u32 0, .int .i64 0, .int .u32 0, .int .u16 0, .int .u32 0, .int .u16 0] := hV.symm
        have hb8 : But (fun b => b = gn) W5 V8 := by rw [hV9]; exact putRow_but (E := fun b => b = gn) (n := gn) rfl _ _ _ _ (But.refl _ _)
        have p8 := putRow_all [.int .i64 0, .int .u8 0, .int .u32 0, .int .i64 0, .int .u32 0, .int .u16 0, .int .u32 0, .int .u16 0] HA rfl
        rw [← hV9] at p8
        have PP := hide p8
        clear hV hV9 p8
        have BB := hide (Below.trans LL (hb8.below LL.size (fun k h e => by omega)))
        refine anyU_one 13 rfl (by kernel_rfl) (by rfl) ?_
        refine wp_value (w' := V8) (.bool false) (by go_simp) ?_
        refine ⟨Rj_out (by rfl) (Later.refl _), ?_⟩
        simp only [Act.put, List.setIfInBounds_toArray, List.set_cons_zero, List.set_cons_succ]
        refine anyU_done (by kernel_rfl) ?_
        refine ⟨rfl, ?_⟩
        go_wp2_with fail
        go_meet
        case rel => exact ⟨⟨gn, rfl⟩, rfl, BB⟩
      case yt1012 =>
        have kA := block_cell HA
        have fA := block_frozen HA
        unfold Oper.wp
        go_simp
        refine ⟨Rj_in (by rfl) trivial, ?_⟩
        clear kA fA
        generalize hV : ((((((((W5.setCell ⟨gn, 0, none⟩ _).setCell ⟨gn, 1, none⟩ _).setCell ⟨gn, 2, none⟩ _).setCell ⟨gn, 3, none⟩ _).setCell ⟨gn, 4, none⟩ _).setCell ⟨gn, 5, none⟩ _).setCell ⟨gn, 6, none⟩ _).setCell ⟨gn, 7, none⟩ _) = V8
        have hV9 : V8 = putRow W5 gn 0 [.int .i64 0, .int .u8 0, .int .u32 0, .int .i64 0, .int .u32 0, .int .u16 0, .int .u32 0, .int .u16 0] := hV.symm
        have hb8 : But (fun b => b = gn) W5 V8 := by rw [hV9]; exact putRow_but (E := fun b => b = gn) (n := gn) rfl _ _ _ _ (But.refl _ _)
        have p8 := putRow_all [.int .i64 0, .int .u8 0, .int .u32 0, .int .i64 0, .int .u32 0, .int .u16 0, .int .u32 0, .int .u16 0] HA rfl
        rw [← hV9] at p8
        have PP := hide p8
        clear hV hV9 p8
        have BB := hide (Below.trans LL (hb8.below LL.size (fun k h e => by omega)))
        refine anyU_one 10 rfl (by kernel_rfl) (by rfl) ?_
        refine wp_value (w' := V8) (.bool false) (by go_simp) ?_
        refine ⟨Rj_out (by rfl) (Later.refl _), ?_⟩
        simp only [Act.put, List.setIfInBounds_toArray, List.set_cons_zero, List.set_cons_succ]
        refine anyU_one 13 rfl (by kernel_rfl) (by rfl) ?_
        refine wp_value (w' := V8) (.bool false) (by go_simp) ?_
        refine ⟨Rj_out (by rfl) (Later.refl _), ?_⟩
        simp only [Act.put, List.setIfInBounds_toArray, List.set_cons_zero, List.set_cons_succ]
        refine anyU_done (by kernel_rfl) ?_
        refine ⟨rfl, ?_⟩
        go_wp2_with fail
        go_meet
        case rel => exact ⟨⟨gn, rfl⟩, rfl, BB⟩
  case rest =>
    obtain ⟨⟨gm, rfl⟩, rfl, HL3⟩ := hcut
    have L3 := HL3.out
    go_wp2_with fail
    refine (grefuse_yes 2 _).mono ?_
    rintro e w4 ⟨rfl, rfl⟩
    exact ⟨rfl, ⟨2, by decide, rfl⟩, LW0.trans L3⟩
end Go.Proofs.YtohflohdbkamnaaGreatDoor
