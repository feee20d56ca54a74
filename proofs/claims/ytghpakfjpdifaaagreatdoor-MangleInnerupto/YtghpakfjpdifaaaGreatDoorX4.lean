/- Several texts in one. -/
import Derived.Test.YtghpakfjpdifaaaGreatDoorX5
import Derived.Laws.Cover3
import Derived.Test.YtghpakfjpdifaaaGreatDoorRt
import Derived.Test.YtghpakfjpdifaaaGreatDoorCB
import Derived.Test.YtghpakfjpdifaaaGreatDoorX7
import Derived.Test.YtghpakfjpdifaaaGreatDoorSE
import Derived.Test.YtghpakfjpdifaaaGreatDoorV5
/- Layer 5: Quoted. -/
namespace Go.Proofs.YtghpakfjpdifaaaGreatDoor
open Go.RowKit Go.Shelf
set_option maxRecDepth 100000
set_option linter.unusedVariables false
set_option linter.unusedSimpArgs false

def erb (ty : Int) : Bool := ty == 3 || (ty == 11 || ty == 12)
/-- What a quoted packet's data are; its protocol. -/
def qdt (mz : List Int) : List Int := (mz.take (ral true mz).toNat).drop (hl4 mz).toNat
def qpr (mz : List Int) : Int := mz[9]?.getD 0
def qie (pr : Int) (d : List Int) : Int := if pr = 6 then 0 else if pr = 17 then 0 else if pr = 1 then (if ecb (d[0]?.getD 0) (d[1]?.getD 0) = true then 0 else 12) else if pr = 47 then (if pge 47 (d.take 8) = 4 then 4 else 0) else 12
def qia (pr : Int) (d : List Int) : Int := if pr = 6 then wat d 0 else if pr = 17 then wat d 0 else if pr = 1 then wat d 4 else 0
def qib (pr : Int) (d : List Int) : Int := if pr = 6 then wat d 2 else if pr = 17 then wat d 2 else if pr = 1 then wat d 4 else wat d 6
def que (proto : Int) (zd : List Int) : Int := if pie proto zd ≠ 0 then pie proto zd else if erb (zd[0]?.getD 0) = false then 12 else if rde true (zd.drop 8) ≠ 0 then rde true (zd.drop 8) else qie (qpr (zd.drop 8)) (qdt (zd.drop 8))

set_option maxHeartbeats 4000000 in
theorem quoted_bad (tos id ttl proto src dst : Int) (keep : Bool) (so sd : Value) (zd : List Int) (w : World) (hT : Tb w) (hB : Mt.By zd) (hI : Rd w.heap.size w sd zd) (hl : zd.length ≤ 140737488355328) (hbad : pie proto zd ≠ 0 ∨ erb (zd[0]?.getD 0) = false ∨ rde true (zd.drop 8) ≠ 0) :
  Calls Tryz.prog 16 #[.agg #[.int .u8 tos, .int .u16 id, .bool keep, .int .u8 ttl, .int .u8 proto, .int .u32 src, .int .u32 dst, so, sd]] w fun e w' => Below w.heap.size w w' ∧ e = .returned (.tuple #[.agg #[.int .u8 0, .int .u32 0, .int .u32 0, .int .u16 0, .int .u16 0], .int .i64 (que proto zd)]) := by
 obtain ⟨ad, cd, rfl, _, _⟩ := hI.slice
 have hb0 : Below w.heap.size w ((w.alloc (.cells #[.int .u8 tos, .int .u16 id, .bool keep, .int .u8 ttl, .int .u8 proto, .int .u32 src, .int .u32 dst, so, .slice ad zd.length cd] 26)).alloc (.cells #[.int .u8 0, .int .u32 0, .int .u32 0, .int .u16 0, .int .u16 0] 29)) := ((Below.refl _ _).alloc (Nat.le_refl _) _).alloc (by simp) _
 have r0 := heap_alloc_new (w.alloc (.cells #[.int .u8 tos, .int .u16 id, .bool keep, .int .u8 ttl, .int .u8 proto, .int .u32 src, .int .u32 dst, so, .slice ad zd.length cd] 26)) (.cells #[.int .u8 0, .int .u32 0, .int .u32 0, .int .u16 0, .int .u16 0] 29)
 rw [World.size_alloc] at r0
 have R0 := hide r0
 clear r0
 go_enter Tryz.func16, Tryz.ntmps16
 go_wp2_with fail
 generalize ((w.alloc (.cells #[.int .u8 tos, .int .u16 id, .bool keep, .int .u8 ttl, .int .u8 proto, .int .u32 src, .int .u32 dst, so, .slice ad zd.length cd] 26)).alloc (.cells #[.int .u8 0, .int .u32 0, .int .u32 0, .int .u16 0, .int .u16 0] 29)) = w0 at *
 refine (parseIcmp_any tos id ttl proto src dst keep _ _ zd w0 hB ((hI.below hb0).mono hb0.size) hl).mono ?_
 rintro e w1 ⟨hb1, ⟨hf, rfl⟩ | ⟨hf, a1, c1, rfl, hO⟩⟩
 ·rw [show zm.toArray = #[.int .u8 0, .int .u8 0, .int .u32 0, .slice none 0 0] from rfl]
  have HQ : Hid (que proto zd = pie proto zd) := if_pos hf
  generalize hpu : pie proto zd = f at *
  have hne : (f != 0) = true := by simp [hf]
  clear hpu hf hbad
  have la : Later w1 (w1.alloc (.cells #[.int .u8 0, .int .u8 0, .int .u32 0, .slice none 0 0] 42)) := (Below.refl _ _).alloc (Nat.le_refl _) _
  have l1 := Later.trans hb1 la
  have rX := later_keep l1 R0.out
  have hwX := hb0.trans (l1.mono hb0.size)
  have kX := block_cell rX
  have fX := block_frozen rX
  go_wp2_with fail
  generalize w1.alloc (.cells #[.int .u8 0, .int .u8 0, .int .u32 0, .slice none 0 0] 42) = W at *
  generalize hV : ((((W.setCell ⟨w.heap.size + 1, 0, none⟩ _).setCell ⟨w.heap.size + 1, 1, none⟩ _).setCell ⟨w.heap.size + 1, 2, none⟩ _).setCell ⟨w.heap.size + 1, 3, none⟩ _).setCell ⟨w.heap.size + 1, 4, none⟩ _ = V
  have hV8 : V = putRow W (w.heap.size + 1) 0 [.int .u8 0, .int .u32 0, .int .u32 0, .int .u16 0, .int .u16 0] := hV.symm
  have hbV : But (fun b => b = w.heap.size + 1) W V := by rw [hV8]; exact putRow_but (E := fun b => b = w.heap.size + 1) (n := w.heap.size + 1) rfl _ _ _ _ (But.refl _ _)
  have pV := putRow_all ([.int .u8 0, .int .u32 0, .int .u32 0, .int .u16 0, .int .u16 0] : List Value) rX rfl
  rw [← hV8] at pV
  clear hV hV8 kX fX
  have PV := block_cell pV
  have hwV : Below w.heap.size w V := hwX.trans (hbV.below hwX.size (fun k hk e => by omega))
  exact bodyPost_ret (v := .tuple #[.agg #[.int .u8 0, .int .u32 0, .int .u32 0, .int .u16 0, .int .u16 0], .int .i64 f]) (by simp [results, Tryz.results16, go_sem, PV]) rfl ⟨hwV, by rw [HQ.out]⟩
 ·have la : Later w1 (w1.alloc (.cells #[.int .u8 (zd[0]?.getD 0), .int .u8 (zd[1]?.getD 0), .int .u32 (wat4 zd 4), .slice a1 (zd.length - 8) c1] 42)) := (Below.refl _ _).alloc (Nat.le_refl _) _
  have l1 := Later.trans hb1 la
  have mW := heap_alloc_new w1 (.cells #[.int .u8 (zd[0]?.getD 0), .int .u8 (zd[1]?.getD 0), .int .u32 (wat4 zd 4), .slice a1 (zd.length - 8) c1] 42)
  have rW := later_keep l1 R0.out
  have hwW := hb0.trans (l1.mono hb0.size)
  have DW := hO.ck (CK.of la)
  have HPF := hide hf
  clear hf
  go_wp2_with fail
  generalize w1.alloc (.cells #[.int .u8 (zd[0]?.getD 0), .int .u8 (zd[1]?.getD 0), .int .u32 (wat4 zd 4), .slice a1 (zd.length - 8) c1] 42) = W at *
  generalize w1.heap.size = gm at *
  refine (isError_any (zd[0]?.getD 0) (zd[1]?.getD 0) (wat4 zd 4) _ W).mono ?_
  have HER : Hid (erb (zd[0]?.getD 0) = (zd[0]?.getD 0 == 3 || (zd[0]?.getD 0 == 11 || zd[0]?.getD 0 == 12))) := rfl
  generalize (zd[0]?.getD 0 == 3 || (zd[0]?.getD 0 == 11 || zd[0]?.getD 0 == 12)) = bq at *
  rintro e w2 ⟨rfl, hb2⟩
  have l2 : Later W w2 := hb2
  have r2 := later_keep l2 rW
  have hw2 := hwW.trans (hb2.mono hwW.size)
  cases bq with
  | false =>
   have HQ : Hid (que proto zd = 12) := by show _ = _; unfold que; rw [if_neg (fun h => h HPF.out), if_pos HER.out]
   clear hbad
   have rX := r2
   have hwX := hw2
   have kX := block_cell rX
   have fX := block_frozen rX
   go_wp2_with fail
   generalize hV : ((((w2.setCell ⟨w.heap.size + 1, 0, none⟩ _).setCell ⟨w.heap.size + 1, 1, none⟩ _).setCell ⟨w.heap.size + 1, 2, none⟩ _).setCell ⟨w.heap.size + 1, 3, none⟩ _).setCell ⟨w.heap.size + 1, 4, none⟩ _ = V
   have hV8 : V = putRow w2 (w.heap.size + 1) 0 [.int .u8 0, .int .u32 0, .int .u32 0, .int .u16 0, .int .u16 0] := hV.symm
   have hbV : But (fun b => b = w.heap.size + 1) w2 V := by rw [hV8]; exact putRow_but (E := fun b => b = w.heap.size + 1) (n := w.heap.size + 1) rfl _ _ _ _ (But.refl _ _)
   have pV := putRow_all ([.int .u8 0, .int .u32 0, .int .u32 0, .int .u16 0, .int .u16 0] : List Value) rX rfl
   rw [← hV8] at pV
   clear hV hV8 kX fX
   have PV := block_cell pV
   have hwV : Below w.heap.size w V := hwX.trans (hbV.below hwX.size (fun k hk e => by omega))
   exact bodyPost_ret (v := .tuple #[.agg #[.int .u8 0, .int .u32 0, .int .u32 0, .int .u16 0, .int .u16 0], .int .i64 12]) (by simp [results, Tryz.results16, go_sem, PV]) rfl ⟨hwV, by rw [HQ.out]⟩
  | true =>
   have hrd : rde true (zd.drop 8) ≠ 0 := by
    rcases hbad with h | h | h
    ·exact absurd HPF.out h
    ·rw [HER.out] at h; cases h
    ·exact h
   clear hbad
   have HQ : Hid (que proto zd = rde true (zd.drop 8)) := by show _ = _; unfold que; rw [if_neg (fun h => h HPF.out), if_neg (by rw [HER.out]; decide), if_pos hrd]
   have km := block_cell (later_keep l2 mW)
   have D2 := DW.ck (CK.of l2)
   go_wp2_with fail
   clear km
   refine (quote_any _ (zd.drop 8) w2 (hB.drop 8) (by simp; omega) D2.rd).mono ?_
   rintro e w3 ⟨hb3, ⟨hf3, rfl⟩ | ⟨hf3, _⟩⟩
   ·rw [show zc.toArray = #[.int .u8 0, .int .u16 0, .bool false, .int .u8 0, .int .u8 0, .int .u32 0, .int .u32 0, .slice none 0 0, .slice none 0 0] from rfl]
    generalize hpu : rde true (zd.drop 8) = f at *
    have hne : (f != 0) = true := by simp [hrd]
    clear hpu hrd hf3
    have la3 : Later w3 (w3.alloc (.cells #[.int .u8 0, .int .u16 0, .bool false, .int .u8 0, .int .u8 0, .int .u32 0, .int .u32 0, .slice none 0 0, .slice none 0 0] 26)) := (Below.refl _ _).alloc (Nat.le_refl _) _
    have l3 := Later.trans hb3 la3
    have rX := later_keep l3 r2
    have hwX := hw2.trans (l3.mono hw2.size)
    have kX := block_cell rX
    have fX := block_frozen rX
    go_wp2_with fail
    generalize w3.alloc (.cells #[.int .u8 0, .int .u16 0, .bool false, .int .u8 0, .int .u8 0, .int .u32 0, .int .u32 0, .slice none 0 0, .slice none 0 0] 26) = W3 at *
    generalize hV : ((((W3.setCell ⟨w.heap.size + 1, 0, none⟩ _).setCell ⟨w.heap.size + 1, 1, none⟩ _).setCell ⟨w.heap.size + 1, 2, none⟩ _).setCell ⟨w.heap.size + 1, 3, none⟩ _).setCell ⟨w.heap.size + 1, 4, none⟩ _ = V
    have hV8 : V = putRow W3 (w.heap.size + 1) 0 [.int .u8 0, .int .u32 0, .int .u32 0, .int .u16 0, .int .u16 0] := hV.symm
    have hbV : But (fun b => b = w.heap.size + 1) W3 V := by rw [hV8]; exact putRow_but (E := fun b => b = w.heap.size + 1) (n := w.heap.size + 1) rfl _ _ _ _ (But.refl _ _)
    have pV := putRow_all ([.int .u8 0, .int .u32 0, .int .u32 0, .int .u16 0, .int .u16 0] : List Value) rX rfl
    rw [← hV8] at pV
    clear hV hV8 kX fX
    have PV := block_cell pV
    have hwV : Below w.heap.size w V := hwX.trans (hbV.below hwX.size (fun k hk e => by omega))
    exact bodyPost_ret (v := .tuple #[.agg #[.int .u8 0, .int .u32 0, .int .u32 0, .int .u16 0, .int .u16 0], .int .i64 f]) (by simp [results, Tryz.results16, go_sem, PV]) rfl ⟨hwV, by rw [HQ.out]⟩
   ·exact absurd hf3 hrd

set_option maxHeartbeats 8000000 in
theorem quoted_gen (pr x1 y1 e0 : Int) (fw fb : FuncId) (tos id ttl proto src dst : Int) (keep : Bool) (so sd : Value) (zd : List Int) (w : World) (hT : Tb w) (hB : Mt.By zd) (hI : Rd w.heap.size w sd zd) (hl : zd.length ≤ 140737488355328) (hpi : pie proto zd = 0) (her : erb (zd[0]?.getD 0) = true) (hrd : rde true (zd.drop 8) = 0) (hpr : (zd.drop 8)[9]?.getD 0 = pr) (h8 : 8 ≤ (qdt (zd.drop 8)).length)
  (hlk0 : ∀ (w : World) (b : Nat), w.heap[b]? = some (.map rdE 4) → (Instr.lookup 88 (.map (some b)) (.int .u8 pr) true).run Tryz.prog w = .ok (.tuple #[.agg #[.func (.func fw) #[] #[], .func (.func fb) #[] #[]], .bool true]) w)
  (hcf : ∀ (args : Array Value) (w : World), (callFunc fb args).run Tryz.prog w = .ok (.enter fb args) w)
  (hf : ∀ w', Below w.heap.size w w' → Calls Tryz.prog fb #[.agg #[.int .u8 ((qdt (zd.drop 8))[0]?.getD 0), .int .u8 ((qdt (zd.drop 8))[1]?.getD 0), .int .u8 ((qdt (zd.drop 8))[2]?.getD 0), .int .u8 ((qdt (zd.drop 8))[3]?.getD 0), .int .u8 ((qdt (zd.drop 8))[4]?.getD 0), .int .u8 ((qdt (zd.drop 8))[5]?.getD 0), .int .u8 ((qdt (zd.drop 8))[6]?.getD 0), .int .u8 ((qdt (zd.drop 8))[7]?.getD 0)]] w' fun e w'' => Below w'.heap.size w' w'' ∧ ∃ a b : Int, e = .returned (.tuple #[.agg #[.int .u16 a, .int .u16 b], .int .i64 e0]) ∧ (e0 = 0 → a = x1 ∧ b = y1)) :
  Calls Tryz.prog 16 #[.agg #[.int .u8 tos, .int .u16 id, .bool keep, .int .u8 ttl, .int .u8 proto, .int .u32 src, .int .u32 dst, so, sd]] w fun e w' => Below w.heap.size w w' ∧ e = .returned (.tuple #[otv e0 pr (wat4 (zd.drop 8) 12) (wat4 (zd.drop 8) 16) x1 y1, .int .i64 e0]) := by
 obtain ⟨ad, cd, rfl, _, _⟩ := hI.slice
 have hb0 : Below w.heap.size w ((w.alloc (.cells #[.int .u8 tos, .int .u16 id, .bool keep, .int .u8 ttl, .int .u8 proto, .int .u32 src, .int .u32 dst, so, .slice ad zd.length cd] 26)).alloc (.cells #[.int .u8 0, .int .u32 0, .int .u32 0, .int .u16 0, .int .u16 0] 29)) := ((Below.refl _ _).alloc (Nat.le_refl _) _).alloc (by simp) _
 have r0 := heap_alloc_new (w.alloc (.cells #[.int .u8 tos, .int .u16 id, .bool keep, .int .u8 ttl, .int .u8 proto, .int .u32 src, .int .u32 dst, so, .slice ad zd.length cd] 26)) (.cells #[.int .u8 0, .int .u32 0, .int .u32 0, .int .u16 0, .int .u16 0] 29)
 rw [World.size_alloc] at r0
 have R0 := hide r0
 clear r0
 go_enter Tryz.func16, Tryz.ntmps16
 go_wp2_with fail
 generalize ((w.alloc (.cells #[.int .u8 tos, .int .u16 id, .bool keep, .int .u8 ttl, .int .u8 proto, .int .u32 src, .int .u32 dst, so, .slice ad zd.length cd] 26)).alloc (.cells #[.int .u8 0, .int .u32 0, .int .u32 0, .int .u16 0, .int .u16 0] 29)) = w0 at *
 refine (parseIcmp_any tos id ttl proto src dst keep _ _ zd w0 hB ((hI.below hb0).mono hb0.size) hl).mono ?_
 rintro e w1 ⟨hb1, ⟨hff, rfl⟩ | ⟨hff, a1, c1, rfl, hO⟩⟩
 ·exact absurd hpi hff
 ·have la : Later w1 (w1.alloc (.cells #[.int .u8 (zd[0]?.getD 0), .int .u8 (zd[1]?.getD 0), .int .u32 (wat4 zd 4), .slice a1 (zd.length - 8) c1] 42)) := (Below.refl _ _).alloc (Nat.le_refl _) _
  have l1 := Later.trans hb1 la
  have mW := heap_alloc_new w1 (.cells #[.int .u8 (zd[0]?.getD 0), .int .u8 (zd[1]?.getD 0), .int .u32 (wat4 zd 4), .slice a1 (zd.length - 8) c1] 42)
  have rW := later_keep l1 R0.out
  have hwW := hb0.trans (l1.mono hb0.size)
  have DW := hO.ck (CK.of la)
  clear hff
  go_wp2_with fail
  generalize w1.alloc (.cells #[.int .u8 (zd[0]?.getD 0), .int .u8 (zd[1]?.getD 0), .int .u32 (wat4 zd 4), .slice a1 (zd.length - 8) c1] 42) = W at *
  generalize w1.heap.size = gm at *
  refine (isError_any (zd[0]?.getD 0) (zd[1]?.getD 0) (wat4 zd 4) _ W).mono ?_
  rw [show (zd[0]?.getD 0 == 3 || (zd[0]?.getD 0 == 11 || zd[0]?.getD 0 == 12)) = true from her]
  rintro e w2 ⟨rfl, hb2⟩
  have l2 : Later W w2 := hb2
  have r2 := later_keep l2 rW
  have hw2 := hwW.trans (hb2.mono hwW.size)
  have km := block_cell (later_keep l2 mW)
  have D2 := DW.ck (CK.of l2)
  go_wp2_with fail
  clear km
  refine (quote_any _ (zd.drop 8) w2 (hB.drop 8) (by simp; omega) D2.rd).mono ?_
  rintro e w3 ⟨hb3, ⟨hf3, _⟩ | ⟨_, qo, qs0, rfl, hO3, hD3⟩⟩
  ·exact absurd hrd hf3
  obtain ⟨b7, c7, rfl, _, _⟩ := hO3.slice
  obtain ⟨b8, c8, rfl, hc8, hc9⟩ := hD3.slice
  unfold pkt
  have HPR := hide hpr
  rw [hpr]
  clear hpr hpi her hrd
  generalize (zd.drop 8)[1]?.getD 0 = q1 at *
  generalize wat (zd.drop 8) 4 = q2 at *
  generalize decide (16384 ≤ wat (zd.drop 8) 6 % 32768) = q3 at *
  generalize (zd.drop 8)[8]?.getD 0 = q4 at *
  generalize hqs : wat4 (zd.drop 8) 12 = qs at *
  generalize hqd : wat4 (zd.drop 8) 16 = qd at *
  have HQS := hide hqs
  have HQD := hide hqd
  clear hqs hqd
  generalize (((zd.drop 8).take (hl4 (zd.drop 8)).toNat).drop 20).length = l7 at *
  clear hO3
  rw [show ((zd.drop 8).take (ral true (zd.drop 8)).toNat).drop (hl4 (zd.drop 8)).toNat = qdt (zd.drop 8) from rfl] at hD3 hc8 ⊢
  generalize hdq : qdt (zd.drop 8) = dq at *
  have HDQ := hide hdq
  clear hdq
  obtain ⟨g8, rfl, _, _, hcs, _⟩ := hD3.at (by omega)
  have la3 : Later w3 (w3.alloc (.cells #[.int .u8 q1, .int .u16 q2, .bool q3, .int .u8 q4, .int .u8 pr, .int .u32 qs, .int .u32 qd, .slice b7 l7 c7, .slice (some ⟨g8, 0, none⟩) dq.length c8] 26)) := (Below.refl _ _).alloc (Nat.le_refl _) _
  have l3 := Later.trans hb3 la3
  have qk := heap_alloc_new w3 (.cells #[.int .u8 q1, .int .u16 q2, .bool q3, .int .u8 q4, .int .u8 pr, .int .u32 qs, .int .u32 qd, .slice b7 l7 c7, .slice (some ⟨g8, 0, none⟩) dq.length c8] 26)
  have r3 := later_keep l3 r2
  have hw3 := hw2.trans (l3.mono hw2.size)
  have HCS : Hid (∀ j, j < dq.length → w3.cell? ⟨g8, j, none⟩ = some (.int .u8 (dq[j]?.getD 0))) := fun j h => (hcs j h).1
  have hgq : w.heap.size + 1 < w3.heap.size := Nat.lt_of_lt_of_le (bl9 r2) hb3.size
  clear D2 hD3 hcs
  go_upto_region 9 with fail
  have HC3 : Hid (∀ j, j < dq.length → (w3.alloc (.cells #[.int .u8 q1, .int .u16 q2, .bool q3, .int .u8 q4, .int .u8 pr, .int .u32 qs, .int .u32 qd, .slice b7 l7 c7, .slice (some ⟨g8, 0, none⟩) dq.length c8] 26)).cell? ⟨g8, j, none⟩ = some (.int .u8 (dq[j]?.getD 0))) := fun j h => la3.cell (HCS.out j h)
  clear HCS
  generalize w3.alloc (.cells #[.int .u8 q1, .int .u16 q2, .bool q3, .int .u8 q4, .int .u8 pr, .int .u32 qs, .int .u32 qd, .slice b7 l7 c7, .slice (some ⟨g8, 0, none⟩) dq.length c8] 26) = w0q at *
  generalize w3.heap.size = gq at *
  have hlt0 : gq < w0q.heap.size := (bl9 qk)
  go_cut [7, 8] (fun q x wx => ∃ g, q = .pointer (some ⟨g, 0, none⟩) ∧ x = .bool true ∧ wx.heap[g]? = some (.cells #[.func (.func fw) #[] #[], .func (.func fb) #[] #[]] 86 (0, 0)) ∧ Below w0q.heap.size w0q wx)
  case first =>
   refine anyT_begin (R := But (fun b => w0q.heap.size ≤ b)) 10 rfl (by kernel_rfl) ?_
   have hd : Later w0q w0q.drew := Later.drew w0q
   have pd := (hd.block gq (bl9 qk)).trans qk
   have bd : Below w0q.heap.size w0q w0q.drew := hd
   generalize w0q.drew = Wd at *
   have ha : ∀ v1, But (fun b => w0q.heap.size ≤ b) Wd v1 → ∀ i, v1.cell? ⟨gq, i, none⟩ = #[Value.int .u8 q1, .int .u16 q2, .bool q3, .int .u8 q4, .int .u8 pr, .int .u32 qs, .int .u32 qd, .slice b7 l7 c7, .slice (some ⟨g8, 0, none⟩) dq.length c8][i]? := fun v1 h => block_cell ((h.block gq (bl9 pd) (by omega)).trans pd)
   have hz : w0q.heap.size ≤ Wd.heap.size := bd.size
   refine tV (But.pre _) 1 rfl rfl ?_; apply Exists.intro; refine ⟨fun v1 hv1 => ?_, ?_⟩; (· (go_simp; rfl)); simp only [Act.put, sA, sB, sC]
   refine tV (But.pre _) 2 rfl rfl ?_; apply Exists.intro; refine ⟨fun v1 hv1 => ?_, ?_⟩; (· (go_simp; rfl)); simp only [Act.put, sA, sB, sC]
   refine anyT_two 0 7 rfl rfl (by kernel_rfl) rfl rfl ?_ ?_
   ·skip
    refine wp_enter 46 #[] (by go_simp) ?_
    refine (readers_any Wd).mono ?_
    rintro e W3 ⟨m, rfl, hb3, hM3⟩
    have l3 : Later Wd W3 := hb3
    refine ⟨But.of l3, ?_⟩
    simp only [Act.put, sA, sB, sC]
    have hlk := hlk0 _ _ hM3
    refine anyT_two 3 7 rfl rfl (by kernel_rfl) rfl rfl ?_ ?_
    ·unfold Oper.wp
     go_simp
     refine ⟨But.refl _ _, ?_⟩
     clear hlk
     refine tV (But.pre _) 4 rfl rfl ?_; apply Exists.intro; refine ⟨fun v1 hv1 => ?_, ?_⟩; (· (go_simp; rfl)); simp only [Act.put, sA, sB, sC]
     refine tV (But.pre _) 5 rfl rfl ?_; apply Exists.intro; refine ⟨fun v1 hv1 => ?_, ?_⟩; (· (go_simp; rfl)); simp only [Act.put, sA, sB, sC]
     refine tV (But.pre _) 6 rfl rfl ?_; apply Exists.intro; refine ⟨fun v1 hv1 => ?_, ?_⟩; (· (go_simp; rfl)); simp only [Act.put, sA, sB, sC]
     refine anyT_one 7 rfl (by kernel_rfl) rfl ?_
     unfold Oper.wp
     go_simp
     have l4 : Later W3 (W3.alloc (.cells #[.nilFunc, .nilFunc] 86)) := (Below.refl _ _).alloc (Nat.le_refl _) _
     have g4 := heap_alloc_new W3 (.cells #[.nilFunc, .nilFunc] 86)
     have b4 : Below w0q.heap.size w0q (W3.alloc (.cells #[.nilFunc, .nilFunc] 86)) := (bd.trans (l3.mono hz)).trans (l4.mono (Nat.le_trans hz l3.size))
     have hge : w0q.heap.size ≤ W3.heap.size := Nat.le_trans hz l3.size
     refine ⟨But.of l4, ?_⟩
     generalize W3.alloc (.cells #[.nilFunc, .nilFunc] 86) = W4 at *
     generalize W3.heap.size = g at *
     have kg := block_cell g4
     have fg := block_frozen g4
     have hsf := run_store_fn Tryz.prog
     refine anyT_one 8 rfl (by kernel_rfl) rfl ?_
     unfold Oper.wp
     go_simp
     generalize hV : (W4.setCell ⟨g, 0, none⟩ _).setCell ⟨g, 1, none⟩ _ = V
     have hV8 : V = putRow W4 (g) 0 [.func (.func fw) #[] #[], .func (.func fb) #[] #[]] := hV.symm
     have hbV : But (fun b => w0q.heap.size ≤ b) W4 V := by rw [hV8]; exact putRow_but (E := fun b => w0q.heap.size ≤ b) (n := g) hge _ _ _ _ (But.refl _ _)
     have pV := putRow_all [Value.func (.func fw) #[] #[], .func (.func fb) #[] #[]] g4 rfl
     rw [← hV8] at pV
     clear hV hV8 kg fg hsf
     refine ⟨hbV, ?_⟩
     refine anyT_one 9 rfl (by kernel_rfl) rfl ?_
     unfold Oper.wp
     go_simp
     refine ⟨But.refl _ _, ?_⟩
     refine anyT_done (by kernel_rfl) ?_
     have hbl : Below w0q.heap.size w0q V := b4.trans (hbV.below b4.size (fun k hk e => by omega))
     clear ha
     go_wp2_with fail
     go_meet
     exact ⟨_, rfl, rfl, pV, hbl⟩
    ·unfold Oper.wp
     go_simp
     have l4 : Later W3 (W3.alloc (.cells #[.nilFunc, .nilFunc] 86)) := (Below.refl _ _).alloc (Nat.le_refl _) _
     have g4 := heap_alloc_new W3 (.cells #[.nilFunc, .nilFunc] 86)
     have b4 : Below w0q.heap.size w0q (W3.alloc (.cells #[.nilFunc, .nilFunc] 86)) := (bd.trans (l3.mono hz)).trans (l4.mono (Nat.le_trans hz l3.size))
     have hge : w0q.heap.size ≤ W3.heap.size := Nat.le_trans hz l3.size
     have hM4 := (l4.block m (bl9 hM3)).trans hM3
     refine ⟨But.of l4, ?_⟩
     clear hlk
     generalize W3.alloc (.cells #[.nilFunc, .nilFunc] 86) = W4 at *
     generalize W3.heap.size = g at *
     have hlk := hlk0 _ _ hM4
     refine anyT_one 3 rfl (by kernel_rfl) rfl ?_
     unfold Oper.wp
     go_simp
     refine ⟨But.refl _ _, ?_⟩
     clear hlk
     refine tV (But.pre _) 4 rfl rfl ?_; apply Exists.intro; refine ⟨fun v1 hv1 => ?_, ?_⟩; (· (go_simp; rfl)); simp only [Act.put, sA, sB, sC]
     refine tV (But.pre _) 5 rfl rfl ?_; apply Exists.intro; refine ⟨fun v1 hv1 => ?_, ?_⟩; (· (go_simp; rfl)); simp only [Act.put, sA, sB, sC]
     refine tV (But.pre _) 6 rfl rfl ?_; apply Exists.intro; refine ⟨fun v1 hv1 => ?_, ?_⟩; (· (go_simp; rfl)); simp only [Act.put, sA, sB, sC]
     have kg := block_cell g4
     have fg := block_frozen g4
     have hsf := run_store_fn Tryz.prog
     refine anyT_one 8 rfl (by kernel_rfl) rfl ?_
     unfold Oper.wp
     go_simp
     generalize hV : (W4.setCell ⟨g, 0, none⟩ _).setCell ⟨g, 1, none⟩ _ = V
     have hV8 : V = putRow W4 (g) 0 [.func (.func fw) #[] #[], .func (.func fb) #[] #[]] := hV.symm
     have hbV : But (fun b => w0q.heap.size ≤ b) W4 V := by rw [hV8]; exact putRow_but (E := fun b => w0q.heap.size ≤ b) (n := g) hge _ _ _ _ (But.refl _ _)
     have pV := putRow_all [Value.func (.func fw) #[] #[], .func (.func fb) #[] #[]] g4 rfl
     rw [← hV8] at pV
     clear hV hV8 kg fg hsf
     refine ⟨hbV, ?_⟩
     refine anyT_one 9 rfl (by kernel_rfl) rfl ?_
     unfold Oper.wp
     go_simp
     refine ⟨But.refl _ _, ?_⟩
     refine anyT_done (by kernel_rfl) ?_
     have hbl : Below w0q.heap.size w0q V := b4.trans (hbV.below b4.size (fun k hk e => by omega))
     clear ha
     go_wp2_with fail
     go_meet
     exact ⟨_, rfl, rfl, pV, hbl⟩
   ·unfold Oper.wp
    go_simp
    have l4 : Later Wd (Wd.alloc (.cells #[.nilFunc, .nilFunc] 86)) := (Below.refl _ _).alloc (Nat.le_refl _) _
    have g4 := heap_alloc_new Wd (.cells #[.nilFunc, .nilFunc] 86)
    have b4 : Below w0q.heap.size w0q (Wd.alloc (.cells #[.nilFunc, .nilFunc] 86)) := bd.trans (l4.mono hz)
    refine ⟨But.of l4, ?_⟩
    have hge : w0q.heap.size ≤ Wd.heap.size := hz
    generalize Wd.alloc (.cells #[.nilFunc, .nilFunc] 86) = W4 at *
    generalize Wd.heap.size = g at *
    refine anyT_one 0 rfl (by kernel_rfl) rfl ?_
    refine wp_enter 46 #[] (by go_simp) ?_
    refine (readers_any W4).mono ?_
    rintro e W5 ⟨m, rfl, hb5, hM5⟩
    have l5 : Later W4 W5 := hb5
    have g5 := (l5.block g (bl9 g4)).trans g4
    have b5 : Below w0q.heap.size w0q W5 := b4.trans (l5.mono b4.size)
    refine ⟨But.of l5, ?_⟩
    simp only [Act.put, sA, sB, sC]
    have hlk := hlk0 _ _ hM5
    refine anyT_one 3 rfl (by kernel_rfl) rfl ?_
    unfold Oper.wp
    go_simp
    refine ⟨But.refl _ _, ?_⟩
    clear hlk
    refine tV (But.pre _) 4 rfl rfl ?_; apply Exists.intro; refine ⟨fun v1 hv1 => ?_, ?_⟩; (· (go_simp; rfl)); simp only [Act.put, sA, sB, sC]
    refine tV (But.pre _) 5 rfl rfl ?_; apply Exists.intro; refine ⟨fun v1 hv1 => ?_, ?_⟩; (· (go_simp; rfl)); simp only [Act.put, sA, sB, sC]
    refine tV (But.pre _) 6 rfl rfl ?_; apply Exists.intro; refine ⟨fun v1 hv1 => ?_, ?_⟩; (· (go_simp; rfl)); simp only [Act.put, sA, sB, sC]
    have kg := block_cell g5
    have fg := block_frozen g5
    have hsf := run_store_fn Tryz.prog
    refine anyT_one 8 rfl (by kernel_rfl) rfl ?_
    unfold Oper.wp
    go_simp
    generalize hV : (W5.setCell ⟨g, 0, none⟩ _).setCell ⟨g, 1, none⟩ _ = V
    have hV8 : V = putRow W5 (g) 0 [.func (.func fw) #[] #[], .func (.func fb) #[] #[]] := hV.symm
    have hbV : But (fun b => w0q.heap.size ≤ b) W5 V := by rw [hV8]; exact putRow_but (E := fun b => w0q.heap.size ≤ b) (n := g) hge _ _ _ _ (But.refl _ _)
    have pV := putRow_all [Value.func (.func fw) #[] #[], .func (.func fb) #[] #[]] g5 rfl
    rw [← hV8] at pV
    clear hV hV8 kg fg hsf
    refine ⟨hbV, ?_⟩
    refine anyT_one 9 rfl (by kernel_rfl) rfl ?_
    unfold Oper.wp
    go_simp
    refine ⟨But.refl _ _, ?_⟩
    refine anyT_done (by kernel_rfl) ?_
    have hbl : Below w0q.heap.size w0q V := b5.trans (hbV.below b5.size (fun k hk e => by omega))
    clear ha
    go_wp2_with fail
    go_meet
    exact ⟨_, rfl, rfl, pV, hbl⟩
  case rest =>
   obtain ⟨g, rfl, rfl, hg, hbc⟩ := hcut
   have qc := (hbc.block gq (bl9 qk)).trans qk
   have rc := (hbc.block _ (bl9 r3)).trans r3
   have hwc := hw3.trans (hbc.mono hw3.size)
   have HCc : Hid (∀ j, j < dq.length → wc.cell? ⟨g8, j, none⟩ = some (.int .u8 (dq[j]?.getD 0))) := fun j h => (hbc.cell (p := ⟨g8, j, none⟩) (World.block_lt_of_cell? w0q ⟨g8, j, none⟩ (HC3.out j h))).trans (HC3.out j h)
   generalize wc = wm at *
   go_upto_region 12 with fail
   go_cut [9, 5] (fun q x wx => ∃ gp u v, q = .pointer (some ⟨gp, 0, none⟩) ∧ x = .int .i64 e0 ∧ wx.heap[gp]? = some (.cells #[.int .u16 u, .int .u16 v] 91 (0, 0)) ∧ Hid (e0 = 0 → u = x1 ∧ v = y1) ∧ Below wm.heap.size wm wx)
   case first =>
    refine anyT_begin (R := But (fun b => wm.heap.size ≤ b)) 13 rfl (by kernel_rfl) ?_
    have ld : Later wm wm.drew := Later.drew wm
    have qWd := later_keep ld qc
    have gWd := later_keep ld hg
    have bd : Below wm.heap.size wm wm.drew := ld
    have cWd : ∀ j, j < dq.length → wm.drew.cell? ⟨g8, j, none⟩ = some (.int .u8 (dq[j]?.getD 0)) := fun j h => ld.cell (HCc.out j h)
    generalize wm.drew = Wd at *
    have hz : wm.heap.size ≤ Wd.heap.size := bd.size
    have hgl := (bl9 hg)
    have hql := (bl9 qc)
    have h8l : g8 < wm.heap.size := World.block_lt_of_cell? wm ⟨g8, 0, none⟩ (HCc.out 0 (by omega))
    have ha : ∀ v1, But (fun b => wm.heap.size ≤ b) Wd v1 → ∀ i, v1.cell? ⟨gq, i, none⟩ = #[Value.int .u8 q1, .int .u16 q2, .bool q3, .int .u8 q4, .int .u8 pr, .int .u32 qs, .int .u32 qd, .slice b7 l7 c7, .slice (some ⟨g8, 0, none⟩) dq.length c8][i]? := fun v1 h => block_cell ((h.block gq (bl9 qWd) (by omega)).trans qWd)
    have hb : ∀ v1, But (fun b => wm.heap.size ≤ b) Wd v1 → ∀ i, v1.cell? ⟨g, i, none⟩ = #[Value.func (.func fw) #[] #[], .func (.func fb) #[] #[]][i]? := fun v1 h => block_cell ((h.block g (bl9 gWd) (by omega)).trans gWd)
    have hc0 : ∀ v1, But (fun b => wm.heap.size ≤ b) Wd v1 → v1.cell? ⟨g8, 0, none⟩ = some (.int .u8 (dq[0]?.getD 0)) := fun v1 h => h.cell (cWd 0 (by omega)) (by show ¬ wm.heap.size ≤ g8; omega)
    have hc1 : ∀ v1, But (fun b => wm.heap.size ≤ b) Wd v1 → v1.cell? ⟨g8, 1, none⟩ = some (.int .u8 (dq[1]?.getD 0)) := fun v1 h => h.cell (cWd 1 (by omega)) (by show ¬ wm.heap.size ≤ g8; omega)
    have hc2 : ∀ v1, But (fun b => wm.heap.size ≤ b) Wd v1 → v1.cell? ⟨g8, 2, none⟩ = some (.int .u8 (dq[2]?.getD 0)) := fun v1 h => h.cell (cWd 2 (by omega)) (by show ¬ wm.heap.size ≤ g8; omega)
    have hc3 : ∀ v1, But (fun b => wm.heap.size ≤ b) Wd v1 → v1.cell? ⟨g8, 3, none⟩ = some (.int .u8 (dq[3]?.getD 0)) := fun v1 h => h.cell (cWd 3 (by omega)) (by show ¬ wm.heap.size ≤ g8; omega)
    have hc4 : ∀ v1, But (fun b => wm.heap.size ≤ b) Wd v1 → v1.cell? ⟨g8, 4, none⟩ = some (.int .u8 (dq[4]?.getD 0)) := fun v1 h => h.cell (cWd 4 (by omega)) (by show ¬ wm.heap.size ≤ g8; omega)
    have hc5 : ∀ v1, But (fun b => wm.heap.size ≤ b) Wd v1 → v1.cell? ⟨g8, 5, none⟩ = some (.int .u8 (dq[5]?.getD 0)) := fun v1 h => h.cell (cWd 5 (by omega)) (by show ¬ wm.heap.size ≤ g8; omega)
    have hc6 : ∀ v1, But (fun b => wm.heap.size ≤ b) Wd v1 → v1.cell? ⟨g8, 6, none⟩ = some (.int .u8 (dq[6]?.getD 0)) := fun v1 h => h.cell (cWd 6 (by omega)) (by show ¬ wm.heap.size ≤ g8; omega)
    have hc7 : ∀ v1, But (fun b => wm.heap.size ≤ b) Wd v1 → v1.cell? ⟨g8, 7, none⟩ = some (.int .u8 (dq[7]?.getD 0)) := fun v1 h => h.cell (cWd 7 (by omega)) (by show ¬ wm.heap.size ≤ g8; omega)
    clear cWd
    have har : ∀ v1 : World, (Instr.arrayAt 93 (.slice (some ⟨g8, 0, none⟩) dq.length c8)).run Tryz.prog v1 = .ok (.pointer (some ⟨g8, 0, none⟩)) v1 := fun v1 => run_arrayAt (w := v1) 93 5 8 _ _ _ Tryz.underlying93 h8
    refine tV (But.pre _) 0 rfl rfl ?_; apply Exists.intro; refine ⟨fun v1 hv1 => ?_, ?_⟩; (· (go_simp; rfl)); simp only [Act.put, sA, sB, sC]
    refine tV (But.pre _) 1 rfl rfl ?_; apply Exists.intro; refine ⟨fun v1 hv1 => ?_, ?_⟩; (· (go_simp; rfl)); simp only [Act.put, sA, sB, sC]
    refine tV (But.pre _) 2 rfl rfl ?_; apply Exists.intro; refine ⟨fun v1 hv1 => ?_, ?_⟩; (· (go_simp; rfl)); simp only [Act.put, sA, sB, sC]
    refine tV (But.pre _) 3 rfl rfl ?_; apply Exists.intro; refine ⟨fun v1 hv1 => ?_, ?_⟩; (· (go_simp; rfl)); simp only [Act.put, sA, sB, sC]
    refine tV (But.pre _) 4 rfl rfl ?_; apply Exists.intro; refine ⟨fun v1 hv1 => ?_, ?_⟩; (· (go_simp; rfl)); simp only [Act.put, sA, sB, sC]
    refine tV (But.pre _) 5 rfl rfl ?_; apply Exists.intro; refine ⟨fun v1 hv1 => ?_, ?_⟩; (· (go_simp; rfl)); simp only [Act.put, sA, sB, sC]
    clear har ha hb hc0 hc1 hc2 hc3 hc4 hc5 hc6 hc7
    refine anyT_two 6 10 rfl rfl (by kernel_rfl) rfl rfl ?_ ?_
    ·refine wp_enter fb #[.agg #[.int .u8 (dq[0]?.getD 0), .int .u8 (dq[1]?.getD 0), .int .u8 (dq[2]?.getD 0), .int .u8 (dq[3]?.getD 0), .int .u8 (dq[4]?.getD 0), .int .u8 (dq[5]?.getD 0), .int .u8 (dq[6]?.getD 0), .int .u8 (dq[7]?.getD 0)]] (by go_simp) ?_
     refine (hf Wd (hwc.trans (ld.mono hwc.size))).mono ?_
     rintro e W5 ⟨hb5, u, v, rfl, hab⟩
     have HAB : Hid (e0 = 0 → u = x1 ∧ v = y1) := hab
     clear hab
     have l5 : Later Wd W5 := hb5
     refine ⟨But.of l5, ?_⟩
     simp only [Act.put, sA, sB, sC]
     refine tV (But.pre _) 7 rfl rfl ?_; apply Exists.intro; refine ⟨fun v1 hv1 => ?_, ?_⟩; (· (go_simp; rfl)); simp only [Act.put, sA, sB, sC]
     refine tV (But.pre _) 8 rfl rfl ?_; apply Exists.intro; refine ⟨fun v1 hv1 => ?_, ?_⟩; (· (go_simp; rfl)); simp only [Act.put, sA, sB, sC]
     refine tV (But.pre _) 9 rfl rfl ?_; apply Exists.intro; refine ⟨fun v1 hv1 => ?_, ?_⟩; (· (go_simp; rfl)); simp only [Act.put, sA, sB, sC]
     refine anyT_one 10 rfl (by kernel_rfl) rfl ?_
     unfold Oper.wp
     go_simp
     have la5 : Later W5 (W5.alloc (.cells #[.int .u16 0, .int .u16 0] 91)) := (Below.refl _ _).alloc (Nat.le_refl _) _
     have g6 := heap_alloc_new W5 (.cells #[.int .u16 0, .int .u16 0] 91)
     refine ⟨But.of la5, ?_⟩
     have b6 : Below wm.heap.size wm (W5.alloc (.cells #[.int .u16 0, .int .u16 0] 91)) := bd.trans ((l5.trans la5).mono hz)
     have hge : wm.heap.size ≤ W5.heap.size := Nat.le_trans hz l5.size
     generalize W5.alloc (.cells #[.int .u16 0, .int .u16 0] 91) = W6 at *
     generalize W5.heap.size = gp at *
     have kg := block_cell g6
     have fg := block_frozen g6
     refine anyT_one 11 rfl (by kernel_rfl) rfl ?_
     unfold Oper.wp
     go_simp
     generalize hV : (W6.setCell ⟨gp, 0, none⟩ _).setCell ⟨gp, 1, none⟩ _ = V
     have hV8 : V = putRow W6 gp 0 [.int .u16 u, .int .u16 v] := hV.symm
     have hbV : But (fun b => wm.heap.size ≤ b) W6 V := by rw [hV8]; exact putRow_but (E := fun b => wm.heap.size ≤ b) (n := gp) hge _ _ _ _ (But.refl _ _)
     have pV := putRow_all ([.int .u16 u, .int .u16 v] : List Value) g6 rfl
     rw [← hV8] at pV
     clear hV hV8 kg fg
     refine ⟨hbV, ?_⟩
     refine anyT_one 12 rfl (by kernel_rfl) rfl ?_
     unfold Oper.wp
     go_simp
     refine ⟨But.refl _ _, ?_⟩
     refine anyT_done (by kernel_rfl) ?_
     have hbl : Below wm.heap.size wm V := b6.trans (hbV.below b6.size (fun k hk e => by omega))
     go_wp2_with fail
     go_meet
     exact ⟨_, u, v, rfl, rfl, pV, HAB, hbl⟩
    ·unfold Oper.wp
     go_simp
     have la5 : Later Wd (Wd.alloc (.cells #[.int .u16 0, .int .u16 0] 91)) := (Below.refl _ _).alloc (Nat.le_refl _) _
     have g5 := heap_alloc_new Wd (.cells #[.int .u16 0, .int .u16 0] 91)
     refine ⟨But.of la5, ?_⟩
     have hge : wm.heap.size ≤ Wd.heap.size := hz
     generalize Wd.alloc (.cells #[.int .u16 0, .int .u16 0] 91) = W5 at *
     generalize Wd.heap.size = gp at *
     refine anyT_one 6 rfl (by kernel_rfl) rfl ?_
     refine wp_enter fb #[.agg #[.int .u8 (dq[0]?.getD 0), .int .u8 (dq[1]?.getD 0), .int .u8 (dq[2]?.getD 0), .int .u8 (dq[3]?.getD 0), .int .u8 (dq[4]?.getD 0), .int .u8 (dq[5]?.getD 0), .int .u8 (dq[6]?.getD 0), .int .u8 (dq[7]?.getD 0)]] (by go_simp) ?_
     refine (hf W5 (hwc.trans ((ld.trans la5).mono hwc.size))).mono ?_
     rintro e W6 ⟨hb6, u, v, rfl, hab⟩
     have HAB : Hid (e0 = 0 → u = x1 ∧ v = y1) := hab
     clear hab
     have l6 : Later W5 W6 := hb6
     have g6 := later_keep l6 g5
     have b6 : Below wm.heap.size wm W6 := (Below.mono (ld.trans (la5.trans l6)) (Nat.le_refl _))
     refine ⟨But.of l6, ?_⟩
     simp only [Act.put, sA, sB, sC]
     refine tV (But.pre _) 7 rfl rfl ?_; apply Exists.intro; refine ⟨fun v1 hv1 => ?_, ?_⟩; (· (go_simp; rfl)); simp only [Act.put, sA, sB, sC]
     refine tV (But.pre _) 8 rfl rfl ?_; apply Exists.intro; refine ⟨fun v1 hv1 => ?_, ?_⟩; (· (go_simp; rfl)); simp only [Act.put, sA, sB, sC]
     refine tV (But.pre _) 9 rfl rfl ?_; apply Exists.intro; refine ⟨fun v1 hv1 => ?_, ?_⟩; (· (go_simp; rfl)); simp only [Act.put, sA, sB, sC]
     have kg := block_cell g6
     have fg := block_frozen g6
     refine anyT_one 11 rfl (by kernel_rfl) rfl ?_
     unfold Oper.wp
     go_simp
     generalize hV : (W6.setCell ⟨gp, 0, none⟩ _).setCell ⟨gp, 1, none⟩ _ = V
     have hV8 : V = putRow W6 gp 0 [.int .u16 u, .int .u16 v] := hV.symm
     have hbV : But (fun b => wm.heap.size ≤ b) W6 V := by rw [hV8]; exact putRow_but (E := fun b => wm.heap.size ≤ b) (n := gp) hge _ _ _ _ (But.refl _ _)
     have pV := putRow_all ([.int .u16 u, .int .u16 v] : List Value) g6 rfl
     rw [← hV8] at pV
     clear hV hV8 kg fg
     refine ⟨hbV, ?_⟩
     refine anyT_one 12 rfl (by kernel_rfl) rfl ?_
     unfold Oper.wp
     go_simp
     refine ⟨But.refl _ _, ?_⟩
     refine anyT_done (by kernel_rfl) ?_
     have hbl : Below wm.heap.size wm V := b6.trans (hbV.below b6.size (fun k hk e => by omega))
     go_wp2_with fail
     go_meet
     exact ⟨_, u, v, rfl, rfl, pV, HAB, hbl⟩
   case rest =>
    obtain ⟨gp, u, v, rfl, rfl, hgp, HAB, hb2c⟩ := hcut
    have q5 := (hb2c.block gq (bl9 qc)).trans qc
    have r5 := (hb2c.block _ (bl9 rc)).trans rc
    have hw5 := hwc.trans (hb2c.mono hwc.size)
    have kq := block_cell q5
    have kg := block_cell hgp
    go_wp2_with fail
    clear kq kg
    refine (told_any q1 q2 q4 pr qs qd u v e0 q3 _ _ wc).mono ?_
    rintro e w7 ⟨hb7, ⟨hx, rfl⟩ | ⟨hx, rfl⟩⟩
    ·have HX := hide hx
     clear hx
     have rX := (Below.block hb7 _ (bl9 r5)).trans r5
     have hwX := hw5.trans (hb7.mono hw5.size)
     have kX := block_cell rX
     have fX := block_frozen rX
     go_wp2_with fail
     generalize hV : ((((w7.setCell ⟨w.heap.size + 1, 0, none⟩ _).setCell ⟨w.heap.size + 1, 1, none⟩ _).setCell ⟨w.heap.size + 1, 2, none⟩ _).setCell ⟨w.heap.size + 1, 3, none⟩ _).setCell ⟨w.heap.size + 1, 4, none⟩ _ = V
     have hV8 : V = putRow w7 (w.heap.size + 1) 0 [.int .u8 0, .int .u32 0, .int .u32 0, .int .u16 0, .int .u16 0] := hV.symm
     have hbV : But (fun b => b = w.heap.size + 1) w7 V := by rw [hV8]; exact putRow_but (E := fun b => b = w.heap.size + 1) (n := w.heap.size + 1) rfl _ _ _ _ (But.refl _ _)
     have pV := putRow_all ([.int .u8 0, .int .u32 0, .int .u32 0, .int .u16 0, .int .u16 0] : List Value) rX rfl
     rw [← hV8] at pV
     clear hV hV8 kX fX
     have PV := block_cell pV
     have hwV : Below w.heap.size w V := hwX.trans (hbV.below hwX.size (fun k hk e => by omega))
     exact bodyPost_ret (v := .tuple #[.agg #[.int .u8 0, .int .u32 0, .int .u32 0, .int .u16 0, .int .u16 0], .int .i64 e0]) (by simp [results, Tryz.results16, go_sem, PV]) rfl ⟨hwV, by rw [otv_no HX.out]⟩
    ·subst hx
     obtain ⟨rfl, rfl⟩ := HAB.out rfl
     have rX := (Below.block hb7 _ (bl9 r5)).trans r5
     have hwX := hw5.trans (hb7.mono hw5.size)
     have kX := block_cell rX
     have fX := block_frozen rX
     go_wp2_with fail
     generalize hV : ((((w7.setCell ⟨w.heap.size + 1, 0, none⟩ _).setCell ⟨w.heap.size + 1, 1, none⟩ _).setCell ⟨w.heap.size + 1, 2, none⟩ _).setCell ⟨w.heap.size + 1, 3, none⟩ _).setCell ⟨w.heap.size + 1, 4, none⟩ _ = V
     have hV8 : V = putRow w7 (w.heap.size + 1) 0 [.int .u8 pr, .int .u32 qs, .int .u32 qd, .int .u16 u, .int .u16 v] := hV.symm
     have hbV : But (fun b => b = w.heap.size + 1) w7 V := by rw [hV8]; exact putRow_but (E := fun b => b = w.heap.size + 1) (n := w.heap.size + 1) rfl _ _ _ _ (But.refl _ _)
     have pV := putRow_all ([.int .u8 pr, .int .u32 qs, .int .u32 qd, .int .u16 u, .int .u16 v] : List Value) rX rfl
     rw [← hV8] at pV
     clear hV hV8 kX fX
     have PV := block_cell pV
     have hwV : Below w.heap.size w V := hwX.trans (hbV.below hwX.size (fun k hk e => by omega))
     exact bodyPost_ret (v := .tuple #[.agg #[.int .u8 pr, .int .u32 qs, .int .u32 qd, .int .u16 u, .int .u16 v], .int .i64 0]) (by simp [results, Tryz.results16, go_sem, PV]) rfl ⟨hwV, by rw [HQS.out, HQD.out]; rfl⟩
end Go.Proofs.YtghpakfjpdifaaaGreatDoor

/- Layer 5: Quoted in one form. -/
namespace Go.Proofs.YtghpakfjpdifaaaGreatDoor
open Go.RowKit Go.Shelf
set_option maxRecDepth 100000
set_option linter.unusedVariables false
set_option linter.unusedSimpArgs false

set_option maxHeartbeats 8000000 in
theorem quoted_other (pr : Int) (tos id ttl proto src dst : Int) (keep : Bool) (so sd : Value) (zd : List Int) (w : World) (hT : Tb w) (hB : Mt.By zd) (hI : Rd w.heap.size w sd zd) (hl : zd.length ≤ 140737488355328) (hpi : pie proto zd = 0) (her : erb (zd[0]?.getD 0) = true) (hrd : rde true (zd.drop 8) = 0) (hpr : (zd.drop 8)[9]?.getD 0 = pr) (h8 : 8 ≤ (qdt (zd.drop 8)).length) (hno : pr ≠ 6 ∧ pr ≠ 17 ∧ pr ≠ 1 ∧ pr ≠ 47) :
  Calls Tryz.prog 16 #[.agg #[.int .u8 tos, .int .u16 id, .bool keep, .int .u8 ttl, .int .u8 proto, .int .u32 src, .int .u32 dst, so, sd]] w fun e w' => Below w.heap.size w w' ∧ e = .returned (.tuple #[.agg #[.int .u8 0, .int .u32 0, .int .u32 0, .int .u16 0, .int .u16 0], .int .i64 12]) := by
 obtain ⟨ad, cd, rfl, _, _⟩ := hI.slice
 have hb0 : Below w.heap.size w ((w.alloc (.cells #[.int .u8 tos, .int .u16 id, .bool keep, .int .u8 ttl, .int .u8 proto, .int .u32 src, .int .u32 dst, so, .slice ad zd.length cd] 26)).alloc (.cells #[.int .u8 0, .int .u32 0, .int .u32 0, .int .u16 0, .int .u16 0] 29)) := ((Below.refl _ _).alloc (Nat.le_refl _) _).alloc (by simp) _
 have r0 := heap_alloc_new (w.alloc (.cells #[.int .u8 tos, .int .u16 id, .bool keep, .int .u8 ttl, .int .u8 proto, .int .u32 src, .int .u32 dst, so, .slice ad zd.length cd] 26)) (.cells #[.int .u8 0, .int .u32 0, .int .u32 0, .int .u16 0, .int .u16 0] 29)
 rw [World.size_alloc] at r0
 have R0 := hide r0
 clear r0
 go_enter Tryz.func16, Tryz.ntmps16
 go_wp2_with fail
 generalize ((w.alloc (.cells #[.int .u8 tos, .int .u16 id, .bool keep, .int .u8 ttl, .int .u8 proto, .int .u32 src, .int .u32 dst, so, .slice ad zd.length cd] 26)).alloc (.cells #[.int .u8 0, .int .u32 0, .int .u32 0, .int .u16 0, .int .u16 0] 29)) = w0 at *
 refine (parseIcmp_any tos id ttl proto src dst keep _ _ zd w0 hB ((hI.below hb0).mono hb0.size) hl).mono ?_
 rintro e w1 ⟨hb1, ⟨hff, rfl⟩ | ⟨hff, a1, c1, rfl, hO⟩⟩
 ·exact absurd hpi hff
 ·have la : Later w1 (w1.alloc (.cells #[.int .u8 (zd[0]?.getD 0), .int .u8 (zd[1]?.getD 0), .int .u32 (wat4 zd 4), .slice a1 (zd.length - 8) c1] 42)) := (Below.refl _ _).alloc (Nat.le_refl _) _
  have l1 := Later.trans hb1 la
  have mW := heap_alloc_new w1 (.cells #[.int .u8 (zd[0]?.getD 0), .int .u8 (zd[1]?.getD 0), .int .u32 (wat4 zd 4), .slice a1 (zd.length - 8) c1] 42)
  have rW := later_keep l1 R0.out
  have hwW := hb0.trans (l1.mono hb0.size)
  have DW := hO.ck (CK.of la)
  clear hff
  go_wp2_with fail
  generalize w1.alloc (.cells #[.int .u8 (zd[0]?.getD 0), .int .u8 (zd[1]?.getD 0), .int .u32 (wat4 zd 4), .slice a1 (zd.length - 8) c1] 42) = W at *
  generalize w1.heap.size = gm at *
  refine (isError_any (zd[0]?.getD 0) (zd[1]?.getD 0) (wat4 zd 4) _ W).mono ?_
  rw [show (zd[0]?.getD 0 == 3 || (zd[0]?.getD 0 == 11 || zd[0]?.getD 0 == 12)) = true from her]
  rintro e w2 ⟨rfl, hb2⟩
  have l2 : Later W w2 := hb2
  have r2 := later_keep l2 rW
  have hw2 := hwW.trans (hb2.mono hwW.size)
  have km := block_cell (later_keep l2 mW)
  have D2 := DW.ck (CK.of l2)
  go_wp2_with fail
  clear km
  refine (quote_any _ (zd.drop 8) w2 (hB.drop 8) (by simp; omega) D2.rd).mono ?_
  rintro e w3 ⟨hb3, ⟨hf3, _⟩ | ⟨_, qo, qs0, rfl, hO3, hD3⟩⟩
  ·exact absurd hrd hf3
  obtain ⟨b7, c7, rfl, _, _⟩ := hO3.slice
  obtain ⟨b8, c8, rfl, hc8, hc9⟩ := hD3.slice
  unfold pkt
  have HPR := hide hpr
  rw [hpr]
  clear hpr hpi her hrd
  generalize (zd.drop 8)[1]?.getD 0 = q1 at *
  generalize wat (zd.drop 8) 4 = q2 at *
  generalize decide (16384 ≤ wat (zd.drop 8) 6 % 32768) = q3 at *
  generalize (zd.drop 8)[8]?.getD 0 = q4 at *
  generalize hqs : wat4 (zd.drop 8) 12 = qs at *
  generalize hqd : wat4 (zd.drop 8) 16 = qd at *
  have HQS := hide hqs
  have HQD := hide hqd
  clear hqs hqd
  generalize (((zd.drop 8).take (hl4 (zd.drop 8)).toNat).drop 20).length = l7 at *
  clear hO3
  rw [show ((zd.drop 8).take (ral true (zd.drop 8)).toNat).drop (hl4 (zd.drop 8)).toNat = qdt (zd.drop 8) from rfl] at hD3 hc8 ⊢
  generalize hdq : qdt (zd.drop 8) = dq at *
  have HDQ := hide hdq
  clear hdq
  obtain ⟨g8, rfl, _, _, hcs, _⟩ := hD3.at (by omega)
  have la3 : Later w3 (w3.alloc (.cells #[.int .u8 q1, .int .u16 q2, .bool q3, .int .u8 q4, .int .u8 pr, .int .u32 qs, .int .u32 qd, .slice b7 l7 c7, .slice (some ⟨g8, 0, none⟩) dq.length c8] 26)) := (Below.refl _ _).alloc (Nat.le_refl _) _
  have l3 := Later.trans hb3 la3
  have qk := heap_alloc_new w3 (.cells #[.int .u8 q1, .int .u16 q2, .bool q3, .int .u8 q4, .int .u8 pr, .int .u32 qs, .int .u32 qd, .slice b7 l7 c7, .slice (some ⟨g8, 0, none⟩) dq.length c8] 26)
  have r3 := later_keep l3 r2
  have hw3 := hw2.trans (l3.mono hw2.size)
  have HCS : Hid (∀ j, j < dq.length → w3.cell? ⟨g8, j, none⟩ = some (.int .u8 (dq[j]?.getD 0))) := fun j h => (hcs j h).1
  have hgq : w.heap.size + 1 < w3.heap.size := Nat.lt_of_lt_of_le (bl9 r2) hb3.size
  clear D2 hD3 hcs
  go_upto_region 9 with fail
  have HC3 : Hid (∀ j, j < dq.length → (w3.alloc (.cells #[.int .u8 q1, .int .u16 q2, .bool q3, .int .u8 q4, .int .u8 pr, .int .u32 qs, .int .u32 qd, .slice b7 l7 c7, .slice (some ⟨g8, 0, none⟩) dq.length c8] 26)).cell? ⟨g8, j, none⟩ = some (.int .u8 (dq[j]?.getD 0))) := fun j h => la3.cell (HCS.out j h)
  clear HCS
  generalize w3.alloc (.cells #[.int .u8 q1, .int .u16 q2, .bool q3, .int .u8 q4, .int .u8 pr, .int .u32 qs, .int .u32 qd, .slice b7 l7 c7, .slice (some ⟨g8, 0, none⟩) dq.length c8] 26) = w0q at *
  generalize w3.heap.size = gq at *
  have hlt0 : gq < w0q.heap.size := (bl9 qk)
  go_cut [7, 8] (fun q x wx => ∃ g, q = .pointer (some ⟨g, 0, none⟩) ∧ x = .bool false ∧ wx.heap[g]? = some (.cells #[.nilFunc, .nilFunc] 86 (0, 0)) ∧ Below w0q.heap.size w0q wx)
  case first =>
   refine anyT_begin (R := But (fun b => w0q.heap.size ≤ b)) 10 rfl (by kernel_rfl) ?_
   have hd : Later w0q w0q.drew := Later.drew w0q
   have pd := (hd.block gq (bl9 qk)).trans qk
   have bd : Below w0q.heap.size w0q w0q.drew := hd
   generalize w0q.drew = Wd at *
   have ha : ∀ v1, But (fun b => w0q.heap.size ≤ b) Wd v1 → ∀ i, v1.cell? ⟨gq, i, none⟩ = #[Value.int .u8 q1, .int .u16 q2, .bool q3, .int .u8 q4, .int .u8 pr, .int .u32 qs, .int .u32 qd, .slice b7 l7 c7, .slice (some ⟨g8, 0, none⟩) dq.length c8][i]? := fun v1 h => block_cell ((h.block gq (bl9 pd) (by omega)).trans pd)
   have hz : w0q.heap.size ≤ Wd.heap.size := bd.size
   refine tV (But.pre _) 1 rfl rfl ?_; apply Exists.intro; refine ⟨fun v1 hv1 => ?_, ?_⟩; (· (go_simp; rfl)); simp only [Act.put, sA, sB, sC]
   refine tV (But.pre _) 2 rfl rfl ?_; apply Exists.intro; refine ⟨fun v1 hv1 => ?_, ?_⟩; (· (go_simp; rfl)); simp only [Act.put, sA, sB, sC]
   refine anyT_two 0 7 rfl rfl (by kernel_rfl) rfl rfl ?_ ?_
   ·skip
    refine wp_enter 46 #[] (by go_simp) ?_
    refine (readers_any Wd).mono ?_
    rintro e W3 ⟨m, rfl, hb3, hM3⟩
    have l3 : Later Wd W3 := hb3
    refine ⟨But.of l3, ?_⟩
    simp only [Act.put, sA, sB, sC]
    have hlk := look_none hno hM3
    refine anyT_two 3 7 rfl rfl (by kernel_rfl) rfl rfl ?_ ?_
    ·unfold Oper.wp
     go_simp
     refine ⟨But.refl _ _, ?_⟩
     clear hlk
     refine tV (But.pre _) 4 rfl rfl ?_; apply Exists.intro; refine ⟨fun v1 hv1 => ?_, ?_⟩; (· (go_simp; rfl)); simp only [Act.put, sA, sB, sC]
     refine tV (But.pre _) 5 rfl rfl ?_; apply Exists.intro; refine ⟨fun v1 hv1 => ?_, ?_⟩; (· (go_simp; rfl)); simp only [Act.put, sA, sB, sC]
     refine tV (But.pre _) 6 rfl rfl ?_; apply Exists.intro; refine ⟨fun v1 hv1 => ?_, ?_⟩; (· (go_simp; rfl)); simp only [Act.put, sA, sB, sC]
     refine anyT_one 7 rfl (by kernel_rfl) rfl ?_
     unfold Oper.wp
     go_simp
     have l4 : Later W3 (W3.alloc (.cells #[.nilFunc, .nilFunc] 86)) := (Below.refl _ _).alloc (Nat.le_refl _) _
     have g4 := heap_alloc_new W3 (.cells #[.nilFunc, .nilFunc] 86)
     have b4 : Below w0q.heap.size w0q (W3.alloc (.cells #[.nilFunc, .nilFunc] 86)) := (bd.trans (l3.mono hz)).trans (l4.mono (Nat.le_trans hz l3.size))
     have hge : w0q.heap.size ≤ W3.heap.size := Nat.le_trans hz l3.size
     refine ⟨But.of l4, ?_⟩
     generalize W3.alloc (.cells #[.nilFunc, .nilFunc] 86) = W4 at *
     generalize W3.heap.size = g at *
     have kg := block_cell g4
     have fg := block_frozen g4
     have hsf := run_store_nf Tryz.prog
     refine anyT_one 8 rfl (by kernel_rfl) rfl ?_
     unfold Oper.wp
     go_simp
     generalize hV : (W4.setCell ⟨g, 0, none⟩ _).setCell ⟨g, 1, none⟩ _ = V
     have hV8 : V = putRow W4 (g) 0 [.nilFunc, .nilFunc] := hV.symm
     have hbV : But (fun b => w0q.heap.size ≤ b) W4 V := by rw [hV8]; exact putRow_but (E := fun b => w0q.heap.size ≤ b) (n := g) hge _ _ _ _ (But.refl _ _)
     have pV := putRow_all [Value.nilFunc, .nilFunc] g4 rfl
     rw [← hV8] at pV
     clear hV hV8 kg fg hsf
     refine ⟨hbV, ?_⟩
     refine anyT_one 9 rfl (by kernel_rfl) rfl ?_
     unfold Oper.wp
     go_simp
     refine ⟨But.refl _ _, ?_⟩
     refine anyT_done (by kernel_rfl) ?_
     have hbl : Below w0q.heap.size w0q V := b4.trans (hbV.below b4.size (fun k hk e => by omega))
     clear ha
     go_wp2_with fail
     go_meet
     exact ⟨_, rfl, rfl, pV, hbl⟩
    ·unfold Oper.wp
     go_simp
     have l4 : Later W3 (W3.alloc (.cells #[.nilFunc, .nilFunc] 86)) := (Below.refl _ _).alloc (Nat.le_refl _) _
     have g4 := heap_alloc_new W3 (.cells #[.nilFunc, .nilFunc] 86)
     have b4 : Below w0q.heap.size w0q (W3.alloc (.cells #[.nilFunc, .nilFunc] 86)) := (bd.trans (l3.mono hz)).trans (l4.mono (Nat.le_trans hz l3.size))
     have hge : w0q.heap.size ≤ W3.heap.size := Nat.le_trans hz l3.size
     have hM4 := (l4.block m (bl9 hM3)).trans hM3
     refine ⟨But.of l4, ?_⟩
     clear hlk
     generalize W3.alloc (.cells #[.nilFunc, .nilFunc] 86) = W4 at *
     generalize W3.heap.size = g at *
     have hlk := look_none hno hM4
     refine anyT_one 3 rfl (by kernel_rfl) rfl ?_
     unfold Oper.wp
     go_simp
     refine ⟨But.refl _ _, ?_⟩
     clear hlk
     refine tV (But.pre _) 4 rfl rfl ?_; apply Exists.intro; refine ⟨fun v1 hv1 => ?_, ?_⟩; (· (go_simp; rfl)); simp only [Act.put, sA, sB, sC]
     refine tV (But.pre _) 5 rfl rfl ?_; apply Exists.intro; refine ⟨fun v1 hv1 => ?_, ?_⟩; (· (go_simp; rfl)); simp only [Act.put, sA, sB, sC]
     refine tV (But.pre _) 6 rfl rfl ?_; apply Exists.intro; refine ⟨fun v1 hv1 => ?_, ?_⟩; (· (go_simp; rfl)); simp only [Act.put, sA, sB, sC]
     have kg := block_cell g4
     have fg := block_frozen g4
     have hsf := run_store_nf Tryz.prog
     refine anyT_one 8 rfl (by kernel_rfl) rfl ?_
     unfold Oper.wp
     go_simp
     generalize hV : (W4.setCell ⟨g, 0, none⟩ _).setCell ⟨g, 1, none⟩ _ = V
     have hV8 : V = putRow W4 (g) 0 [.nilFunc, .nilFunc] := hV.symm
     have hbV : But (fun b => w0q.heap.size ≤ b) W4 V := by rw [hV8]; exact putRow_but (E := fun b => w0q.heap.size ≤ b) (n := g) hge _ _ _ _ (But.refl _ _)
     have pV := putRow_all [Value.nilFunc, .nilFunc] g4 rfl
     rw [← hV8] at pV
     clear hV hV8 kg fg hsf
     refine ⟨hbV, ?_⟩
     refine anyT_one 9 rfl (by kernel_rfl) rfl ?_
     unfold Oper.wp
     go_simp
     refine ⟨But.refl _ _, ?_⟩
     refine anyT_done (by kernel_rfl) ?_
     have hbl : Below w0q.heap.size w0q V := b4.trans (hbV.below b4.size (fun k hk e => by omega))
     clear ha
     go_wp2_with fail
     go_meet
     exact ⟨_, rfl, rfl, pV, hbl⟩
   ·unfold Oper.wp
    go_simp
    have l4 : Later Wd (Wd.alloc (.cells #[.nilFunc, .nilFunc] 86)) := (Below.refl _ _).alloc (Nat.le_refl _) _
    have g4 := heap_alloc_new Wd (.cells #[.nilFunc, .nilFunc] 86)
    have b4 : Below w0q.heap.size w0q (Wd.alloc (.cells #[.nilFunc, .nilFunc] 86)) := bd.trans (l4.mono hz)
    refine ⟨But.of l4, ?_⟩
    have hge : w0q.heap.size ≤ Wd.heap.size := hz
    generalize Wd.alloc (.cells #[.nilFunc, .nilFunc] 86) = W4 at *
    generalize Wd.heap.size = g at *
    refine anyT_one 0 rfl (by kernel_rfl) rfl ?_
    refine wp_enter 46 #[] (by go_simp) ?_
    refine (readers_any W4).mono ?_
    rintro e W5 ⟨m, rfl, hb5, hM5⟩
    have l5 : Later W4 W5 := hb5
    have g5 := (l5.block g (bl9 g4)).trans g4
    have b5 : Below w0q.heap.size w0q W5 := b4.trans (l5.mono b4.size)
    refine ⟨But.of l5, ?_⟩
    simp only [Act.put, sA, sB, sC]
    have hlk := look_none hno hM5
    refine anyT_one 3 rfl (by kernel_rfl) rfl ?_
    unfold Oper.wp
    go_simp
    refine ⟨But.refl _ _, ?_⟩
    clear hlk
    refine tV (But.pre _) 4 rfl rfl ?_; apply Exists.intro; refine ⟨fun v1 hv1 => ?_, ?_⟩; (· (go_simp; rfl)); simp only [Act.put, sA, sB, sC]
    refine tV (But.pre _) 5 rfl rfl ?_; apply Exists.intro; refine ⟨fun v1 hv1 => ?_, ?_⟩; (· (go_simp; rfl)); simp only [Act.put, sA, sB, sC]
    refine tV (But.pre _) 6 rfl rfl ?_; apply Exists.intro; refine ⟨fun v1 hv1 => ?_, ?_⟩; (· (go_simp; rfl)); simp only [Act.put, sA, sB, sC]
    have kg := block_cell g5
    have fg := block_frozen g5
    have hsf := run_store_nf Tryz.prog
    refine anyT_one 8 rfl (by kernel_rfl) rfl ?_
    unfold Oper.wp
    go_simp
    generalize hV : (W5.setCell ⟨g, 0, none⟩ _).setCell ⟨g, 1, none⟩ _ = V
    have hV8 : V = putRow W5 (g) 0 [.nilFunc, .nilFunc] := hV.symm
    have hbV : But (fun b => w0q.heap.size ≤ b) W5 V := by rw [hV8]; exact putRow_but (E := fun b => w0q.heap.size ≤ b) (n := g) hge _ _ _ _ (But.refl _ _)
    have pV := putRow_all [Value.nilFunc, .nilFunc] g5 rfl
    rw [← hV8] at pV
    clear hV hV8 kg fg hsf
    refine ⟨hbV, ?_⟩
    refine anyT_one 9 rfl (by kernel_rfl) rfl ?_
    unfold Oper.wp
    go_simp
    refine ⟨But.refl _ _, ?_⟩
    refine anyT_done (by kernel_rfl) ?_
    have hbl : Below w0q.heap.size w0q V := b5.trans (hbV.below b5.size (fun k hk e => by omega))
    clear ha
    go_wp2_with fail
    go_meet
    exact ⟨_, rfl, rfl, pV, hbl⟩
  case rest =>
   obtain ⟨g, rfl, rfl, hg, hbc⟩ := hcut
   have rX := (hbc.block _ (bl9 r3)).trans r3
   have hwX := hw3.trans (hbc.mono hw3.size)
   have kX := block_cell rX
   have fX := block_frozen rX
   go_wp2_with fail
   generalize hV : ((((wc.setCell ⟨w.heap.size + 1, 0, none⟩ _).setCell ⟨w.heap.size + 1, 1, none⟩ _).setCell ⟨w.heap.size + 1, 2, none⟩ _).setCell ⟨w.heap.size + 1, 3, none⟩ _).setCell ⟨w.heap.size + 1, 4, none⟩ _ = V
   have hV8 : V = putRow wc (w.heap.size + 1) 0 [.int .u8 0, .int .u32 0, .int .u32 0, .int .u16 0, .int .u16 0] := hV.symm
   have hbV : But (fun b => b = w.heap.size + 1) wc V := by rw [hV8]; exact putRow_but (E := fun b => b = w.heap.size + 1) (n := w.heap.size + 1) rfl _ _ _ _ (But.refl _ _)
   have pV := putRow_all ([.int .u8 0, .int .u32 0, .int .u32 0, .int .u16 0, .int .u16 0] : List Value) rX rfl
   rw [← hV8] at pV
   clear hV hV8 kX fX
   have PV := block_cell pV
   have hwV : Below w.heap.size w V := hwX.trans (hbV.below hwX.size (fun k hk e => by omega))
   exact bodyPost_ret (v := .tuple #[.agg #[.int .u8 0, .int .u32 0, .int .u32 0, .int .u16 0, .int .u16 0], .int .i64 12]) (by simp [results, Tryz.results16, go_sem, PV]) rfl ⟨hwV, rfl⟩

theorem take8 (d : List Int) (h : 8 ≤ d.length) : d.take 8 = [d[0]?.getD 0, d[1]?.getD 0, d[2]?.getD 0, d[3]?.getD 0, d[4]?.getD 0, d[5]?.getD 0, d[6]?.getD 0, d[7]?.getD 0] := by
 match d, h with
 | x0 :: x1 :: x2 :: x3 :: x4 :: x5 :: x6 :: x7 :: r, _ => rfl
theorem By8 {d : List Int} (hB : Mt.By d) (h : 8 ≤ d.length) : Mt.By [d[0]?.getD 0, d[1]?.getD 0, d[2]?.getD 0, d[3]?.getD 0, d[4]?.getD 0, d[5]?.getD 0, d[6]?.getD 0, d[7]?.getD 0] := by rw [← take8 d h]; exact hB.take 8
theorem g8_0 (d : List Int) : getAt2 [d[0]?.getD 0, d[1]?.getD 0, d[2]?.getD 0, d[3]?.getD 0, d[4]?.getD 0, d[5]?.getD 0, d[6]?.getD 0, d[7]?.getD 0] 0 = wat d 0 := rfl
theorem g8_2 (d : List Int) : getAt2 [d[0]?.getD 0, d[1]?.getD 0, d[2]?.getD 0, d[3]?.getD 0, d[4]?.getD 0, d[5]?.getD 0, d[6]?.getD 0, d[7]?.getD 0] 2 = wat d 2 := rfl
theorem g8_4 (d : List Int) : getAt2 [d[0]?.getD 0, d[1]?.getD 0, d[2]?.getD 0, d[3]?.getD 0, d[4]?.getD 0, d[5]?.getD 0, d[6]?.getD 0, d[7]?.getD 0] 4 = wat d 4 := rfl
theorem g8_6 (d : List Int) : getAt2 [d[0]?.getD 0, d[1]?.getD 0, d[2]?.getD 0, d[3]?.getD 0, d[4]?.getD 0, d[5]?.getD 0, d[6]?.getD 0, d[7]?.getD 0] 6 = wat d 6 := rfl
theorem qdt_len {mz : List Int} (hB : Mt.By mz) (h : rde true mz = 0) : 8 ≤ (qdt mz).length := by
 unfold rde at h
 have hh := hl4_bd hB
 by_cases h1 : msr mz ≠ 0
 ·rw [if_pos h1] at h; exact absurd h h1
 rw [if_neg h1] at h
 by_cases h2 : (mz.length : Int) < ral true mz
 ·rw [if_pos h2] at h; exact absurd h (by decide)
 rw [if_neg h2] at h
 by_cases h3 : chk mz ≠ 0
 ·rw [if_pos h3] at h; exact absurd h h3
 rw [if_neg h3] at h
 by_cases h4 : ral true mz - hl4 mz < 8
 ·rw [if_pos ⟨rfl, h4⟩] at h; exact absurd h (by decide)
 unfold qdt
 rw [List.length_drop, List.length_take]
 omega
theorem By_qdt {mz : List Int} (hB : Mt.By mz) : Mt.By (qdt mz) := (hB.take _).drop _

theorem cf_two (args : Array Value) (w : World) : (callFunc 77 args).run Tryz.prog w = .ok (.enter 77 args) w := by kernel_rfl

theorem cf_echo (args : Array Value) (w : World) : (callFunc 80 args).run Tryz.prog w = .ok (.enter 80 args) w := by kernel_rfl

theorem cf_begin (args : Array Value) (w : World) : (callFunc 82 args).run Tryz.prog w = .ok (.enter 82 args) w := by kernel_rfl

def quv (proto : Int) (zd : List Int) : Value := otv (que proto zd) (qpr (zd.drop 8)) (wat4 (zd.drop 8) 12) (wat4 (zd.drop 8) 16) (qia (qpr (zd.drop 8)) (qdt (zd.drop 8))) (qib (qpr (zd.drop 8)) (qdt (zd.drop 8)))

set_option maxHeartbeats 2000000 in
theorem quoted_any (tos id ttl proto src dst : Int) (keep : Bool) (so sd : Value) (zd : List Int) (w : World) (hT : Tb w) (hB : Mt.By zd) (hI : Rd w.heap.size w sd zd) (hl : zd.length ≤ 140737488355328) :
  Calls Tryz.prog 16 #[.agg #[.int .u8 tos, .int .u16 id, .bool keep, .int .u8 ttl, .int .u8 proto, .int .u32 src, .int .u32 dst, so, sd]] w fun e w' => Below w.heap.size w w' ∧ e = .returned (.tuple #[quv proto zd, .int .i64 (que proto zd)]) := by
 unfold quv
 by_cases hpi : pie proto zd = 0
 ·cases her : erb (zd[0]?.getD 0) with
  | false =>
   have hq : que proto zd = 12 := by unfold que; rw [if_neg (fun h => h hpi), if_pos her]
   rw [otv_no (by rw [hq]; decide)]
   exact quoted_bad tos id ttl proto src dst keep so sd zd w hT hB hI hl (.inr (.inl her))
  | true =>
   by_cases hrd : rde true (zd.drop 8) = 0
   ·have h8 := qdt_len (hB.drop 8) hrd
    have hBq := By8 (By_qdt (hB.drop 8)) h8
    have hq : que proto zd = qie (qpr (zd.drop 8)) (qdt (zd.drop 8)) := by unfold que; rw [if_neg (fun h => h hpi), if_neg (by rw [her]; decide), if_neg (fun h => h hrd)]
    rw [hq]
    obtain ⟨pr, hpr⟩ : ∃ pr, (zd.drop 8)[9]?.getD 0 = pr := ⟨_, rfl⟩
    rw [show qpr (zd.drop 8) = pr from hpr]
    by_cases h6 : pr = 6
    ·subst h6
     exact quoted_gen 6 (wat (qdt (zd.drop 8)) 0) (wat (qdt (zd.drop 8)) 2) 0 _ _ tos id ttl proto src dst keep so sd zd w hT hB hI hl hpi her hrd hpr h8 (fun _ _ h => look_tcp h) cf_two (fun w' hb => (ofTwo_any ((qdt (zd.drop 8))[0]?.getD 0) ((qdt (zd.drop 8))[1]?.getD 0) ((qdt (zd.drop 8))[2]?.getD 0) ((qdt (zd.drop 8))[3]?.getD 0) ((qdt (zd.drop 8))[4]?.getD 0) ((qdt (zd.drop 8))[5]?.getD 0) ((qdt (zd.drop 8))[6]?.getD 0) ((qdt (zd.drop 8))[7]?.getD 0) w' hBq).mono fun e w'' h => ⟨h.1, _, _, h.2, fun _ => ⟨g8_0 _, g8_2 _⟩⟩)
    by_cases h17 : pr = 17
    ·subst h17
     exact quoted_gen 17 (wat (qdt (zd.drop 8)) 0) (wat (qdt (zd.drop 8)) 2) 0 _ _ tos id ttl proto src dst keep so sd zd w hT hB hI hl hpi her hrd hpr h8 (fun _ _ h => look_udp h) cf_two (fun w' hb => (ofTwo_any ((qdt (zd.drop 8))[0]?.getD 0) ((qdt (zd.drop 8))[1]?.getD 0) ((qdt (zd.drop 8))[2]?.getD 0) ((qdt (zd.drop 8))[3]?.getD 0) ((qdt (zd.drop 8))[4]?.getD 0) ((qdt (zd.drop 8))[5]?.getD 0) ((qdt (zd.drop 8))[6]?.getD 0) ((qdt (zd.drop 8))[7]?.getD 0) w' hBq).mono fun e w'' h => ⟨h.1, _, _, h.2, fun _ => ⟨g8_0 _, g8_2 _⟩⟩)
    by_cases h1 : pr = 1
    ·subst h1
     have hqi : qie 1 (qdt (zd.drop 8)) = if ecb ((qdt (zd.drop 8))[0]?.getD 0) ((qdt (zd.drop 8))[1]?.getD 0) = true then 0 else 12 := rfl
     rw [hqi]
     refine quoted_gen 1 (wat (qdt (zd.drop 8)) 4) (wat (qdt (zd.drop 8)) 4) _ _ _ tos id ttl proto src dst keep so sd zd w hT hB hI hl hpi her hrd hpr h8 (fun _ _ h => look_icmp h) cf_echo (fun w' hb => (ofEcho_any ((qdt (zd.drop 8))[0]?.getD 0) ((qdt (zd.drop 8))[1]?.getD 0) ((qdt (zd.drop 8))[2]?.getD 0) ((qdt (zd.drop 8))[3]?.getD 0) ((qdt (zd.drop 8))[4]?.getD 0) ((qdt (zd.drop 8))[5]?.getD 0) ((qdt (zd.drop 8))[6]?.getD 0) ((qdt (zd.drop 8))[7]?.getD 0) w' hBq).mono fun e w'' h => ?_)
     rcases h with ⟨hb2, ⟨he, rfl⟩ | ⟨he, rfl⟩⟩
     ·rw [if_pos he]
      exact ⟨hb2, _, _, rfl, fun _ => ⟨g8_4 _, g8_4 _⟩⟩
     ·rw [if_neg (by rw [he]; decide)]
      exact ⟨hb2, _, _, rfl, fun h => absurd h (by decide)⟩
    by_cases h47 : pr = 47
    ·subst h47
     have hqi : qie 47 (qdt (zd.drop 8)) = if pge 47 ((qdt (zd.drop 8)).take 8) = 4 then 4 else 0 := rfl
     rw [hqi, take8 _ h8]
     refine quoted_gen 47 0 (wat (qdt (zd.drop 8)) 6) _ _ _ tos id ttl proto src dst keep so sd zd w hT hB hI hl hpi her hrd hpr h8 (fun _ _ h => look_gre h) cf_begin (fun w' hb => (ofBegin_any ((qdt (zd.drop 8))[0]?.getD 0) ((qdt (zd.drop 8))[1]?.getD 0) ((qdt (zd.drop 8))[2]?.getD 0) ((qdt (zd.drop 8))[3]?.getD 0) ((qdt (zd.drop 8))[4]?.getD 0) ((qdt (zd.drop 8))[5]?.getD 0) ((qdt (zd.drop 8))[6]?.getD 0) ((qdt (zd.drop 8))[7]?.getD 0) w' (hT.below hb hT.pos) hBq).mono fun e w'' h => ?_)
     rcases h with ⟨hb2, ⟨he, rfl⟩ | ⟨he, rfl⟩⟩
     ·rw [if_pos he]
      exact ⟨hb2, _, _, rfl, fun h => absurd h (by decide)⟩
     ·rw [if_neg he]
      exact ⟨hb2, _, _, rfl, fun _ => ⟨rfl, g8_6 _⟩⟩
    have hqi : qie pr (qdt (zd.drop 8)) = 12 := by unfold qie; rw [if_neg h6, if_neg h17, if_neg h1, if_neg h47]
    rw [hqi, otv_no (show (12 : Int) ≠ 0 by decide)]
    exact quoted_other pr tos id ttl proto src dst keep so sd zd w hT hB hI hl hpi her hrd hpr h8 ⟨h6, h17, h1, h47⟩
   ·have hq : que proto zd = rde true (zd.drop 8) := by unfold que; rw [if_neg (fun h => h hpi), if_neg (by rw [her]; decide), if_pos hrd]
    rw [otv_no (by rw [hq]; exact hrd)]
    exact quoted_bad tos id ttl proto src dst keep so sd zd w hT hB hI hl (.inr (.inr hrd))
 ·have hq : que proto zd = pie proto zd := if_pos hpi
  rw [otv_no (by rw [hq]; exact hpi)]
  exact quoted_bad tos id ttl proto src dst keep so sd zd w hT hB hI hl (.inl hpi)
end Go.Proofs.YtghpakfjpdifaaaGreatDoor

/- Package mangle: what an error quotes, with another tuple. -/
namespace Go.Proofs.YtghpakfjpdifaaaGreatDoor
open Go.RowKit Go.Shelf
set_option maxRecDepth 100000
set_option linter.unusedVariables false
set_option linter.unusedSimpArgs false

theorem rnm_length (s d : Int) (zs : List Int) : (rnm s d zs).length = zs.length := by unfold rnm; rw [putAt2_length, putAt2_length, putAt4_length, putAt4_length]
theorem rnm_by {s d : Int} {zs : List Int} (hB : Mt.By zs) (hs : 0 ≤ s ∧ s ≤ 4294967295) (hd : 0 ≤ d ∧ d ≤ 4294967295) : Mt.By (rnm s d zs) :=
 By_putAt2 (By_putAt2 (By_putAt4 (By_putAt4 hB 12 hs) 16 hd) 10 (by omega)) 10 (Mt.cks_bd _)
theorem qsD_length (pr : Int) (u : Un) (zs : List Int) : (qsD pr u zs).length = zs.length := by
 unfold qsD
 split
 ·unfold qsT; rw [putAt2_length, prt_length]
 split
 ·unfold qsU; split
  ·rw [prt_length]
  ·rw [putAt2_length, prt_length]
 split
 ·unfold qsI; rw [putAt2_length, Mt.put2_length]
 ·unfold rwG; rw [Mt.put2_length]
theorem qsD_by {pr : Int} {u : Un} {zs : List Int} (hB : Mt.By zs) (hu : UOk u) : Mt.By (qsD pr u zs) := by
 have hp := prt_by hB hu.2.2.1 hu.2.2.2
 unfold qsD
 split
 ·exact By_putAt2 hp 16 (ptch_bd _ _)
 split
 ·unfold qsU; split
  ·exact hp
  ·have h9 := nbr_bd (ptch_bd u (getAt2 (prt u.a u.b zs) 6))
   exact By_putAt2 hp 6 ⟨by omega, h9.2⟩
 split
 ·exact By_putAt2 (hB.put2 4 hu.2.2.1) 2 (ptv_bd _ _ _)
 ·exact hB.put2 6 hu.2.2.2

/-- What an error quotes, with another tuple. -/
def rqt (u : Un) (mz : List Int) : List Int := rnm u.s u.d (mz.take (hl4 mz).toNat) ++ (qsD u.pr u (qdt mz) ++ mz.drop (ral true mz).toNat)
theorem rde_facts {mz : List Int} (hB : Mt.By mz) (h : rde true mz = 0) : 20 ≤ (hl4 mz).toNat ∧ (hl4 mz).toNat + 8 ≤ (ral true mz).toNat ∧ (ral true mz).toNat ≤ mz.length := by
 unfold rde at h
 have hh := hl4_bd hB
 by_cases h1 : msr mz ≠ 0
 ·rw [if_pos h1] at h; exact absurd h h1
 rw [if_neg h1] at h
 by_cases h2 : (mz.length : Int) < ral true mz
 ·rw [if_pos h2] at h; exact absurd h (by decide)
 rw [if_neg h2] at h
 by_cases h3 : chk mz ≠ 0
 ·rw [if_pos h3] at h; exact absurd h h3
 rw [if_neg h3] at h
 by_cases h4 : ral true mz - hl4 mz < 8
 ·rw [if_pos ⟨rfl, h4⟩] at h; exact absurd h (by decide)
 have h5 : 20 ≤ hl4 mz := by
  simp only [msr, ne_eq, Decidable.not_not] at h1
  split at h1
  ·omega
  split at h1
  ·omega
  split at h1
  ·omega
  omega
 omega
theorem rqt_length {u : Un} {mz : List Int} (hB : Mt.By mz) (h : rde true mz = 0) : (rqt u mz).length = mz.length := by
 have := rde_facts hB h
 unfold rqt qdt
 rw [List.length_append, List.length_append, rnm_length, qsD_length, List.length_take, List.length_drop, List.length_take, List.length_drop]
 omega

set_option maxHeartbeats 4000000 in
theorem requoted_any (pr s1 d1 a1 b1 s d a b : Int) (sv : Value) (mz : List Int) (w : World) (hB : Mt.By mz) (hI : Rd w.heap.size w sv mz) (hl : mz.length ≤ 140737488355328) (hrd : rde true mz = 0) (hok : pok pr)
  (hs1 : 0 ≤ s1 ∧ s1 ≤ 4294967295) (hd1 : 0 ≤ d1 ∧ d1 ≤ 4294967295) (ha1 : 0 ≤ a1 ∧ a1 ≤ 65535) (hb1 : 0 ≤ b1 ∧ b1 ≤ 65535) (hs : 0 ≤ s ∧ s ≤ 4294967295) (hd : 0 ≤ d ∧ d ≤ 4294967295) (ha : 0 ≤ a ∧ a ≤ 65535) (hb : 0 ≤ b ∧ b ≤ 65535) :
  Calls Tryz.prog 18 #[sv, .agg #[.int .u8 pr, .int .u32 s1, .int .u32 d1, .int .u16 a1, .int .u16 b1], .agg #[.int .u8 pr, .int .u32 s, .int .u32 d, .int .u16 a, .int .u16 b]] w fun e w' => ∃ x c, e = .returned (.slice x mz.length c) ∧ Ow w.heap.size w' (.slice x mz.length c) (rqt ⟨pr, s1, d1, a1, b1, pr, s, d, a, b⟩ mz) ∧ Below w.heap.size w w' := by
 obtain ⟨av, cv, rfl, hlv, hmv⟩ := hI.slice
 have hF := rde_facts hB hrd
 have HQL := hide (rqt_length (u := ⟨pr, s1, d1, a1, b1, pr, s, d, a, b⟩) hB hrd)
 have HRQ : Hid (rqt ⟨pr, s1, d1, a1, b1, pr, s, d, a, b⟩ mz = rnm s d (mz.take (hl4 mz).toNat) ++ (qsD pr ⟨pr, s1, d1, a1, b1, pr, s, d, a, b⟩ (qdt mz) ++ mz.drop (ral true mz).toNat)) := rfl
 have lw : Later w ((w.alloc (.cells #[.int .u8 pr, .int .u32 s1, .int .u32 d1, .int .u16 a1, .int .u16 b1] 29)).alloc (.cells #[.int .u8 pr, .int .u32 s, .int .u32 d, .int .u16 a, .int .u16 b] 29)) := (later_alloc9 w _).trans (later_alloc9 _ _)
 have rW : ((w.alloc (.cells #[.int .u8 pr, .int .u32 s1, .int .u32 d1, .int .u16 a1, .int .u16 b1] 29)).alloc (.cells #[.int .u8 pr, .int .u32 s, .int .u32 d, .int .u16 a, .int .u16 b] 29)).heap[w.heap.size]? = some (.cells #[.int .u8 pr, .int .u32 s1, .int .u32 d1, .int .u16 a1, .int .u16 b1] 29 (0, 0)) := by rw [(later_alloc9 _ _).block w.heap.size (by simp)]; exact heap_alloc_new _ _
 have rT := heap_alloc_new (w.alloc (.cells #[.int .u8 pr, .int .u32 s1, .int .u32 d1, .int .u16 a1, .int .u16 b1] 29)) (.cells #[.int .u8 pr, .int .u32 s, .int .u32 d, .int .u16 a, .int .u16 b] 29)
 rw [World.size_alloc] at rT
 have RW := hide rW
 have RT := hide rT
 clear rW rT
 go_enter Tryz.func18, Tryz.ntmps18
 go_wp2_with fail
 generalize (w.alloc (.cells #[.int .u8 pr, .int .u32 s1, .int .u32 d1, .int .u16 a1, .int .u16 b1] 29)).alloc (.cells #[.int .u8 pr, .int .u32 s, .int .u32 d, .int .u16 a, .int .u16 b] 29) = w1 at *
 have hI1 := (hI.below lw).mono lw.size
 refine (quote_any _ mz w1 hB (by omega) hI1).mono ?_
 rintro e w2 ⟨hb2, ⟨hf2, _⟩ | ⟨_, qo, qs0, rfl, hO2, hD2⟩⟩
 ·exact absurd hrd hf2
 obtain ⟨b7, c7, rfl, _, _⟩ := hO2.slice
 obtain ⟨b8, c8, rfl, hc8, hc9⟩ := hD2.slice
 unfold pkt
 generalize mz[1]?.getD 0 = q1 at *
 generalize wat mz 4 = q2 at *
 generalize decide (16384 ≤ wat mz 6 % 32768) = q3 at *
 generalize mz[8]?.getD 0 = q4 at *
 generalize mz[9]?.getD 0 = q5 at *
 generalize wat4 mz 12 = q6 at *
 generalize wat4 mz 16 = q7 at *
 have hl7 : ((mz.take (hl4 mz).toNat).drop 20).length = (hl4 mz).toNat - 20 := by rw [List.length_drop, List.length_take]; omega
 rw [hl7]
 have hl8 : (qdt mz).length = (ral true mz).toNat - (hl4 mz).toNat := by unfold qdt; rw [List.length_drop, List.length_take]; omega
 have hBq := By_qdt hB
 have HL8 := hide hl8
 clear hl8
 rw [show (mz.take (ral true mz).toNat).drop (hl4 mz).toNat = qdt mz from rfl] at hD2 hc8 ⊢
 generalize qdt mz = dq at *
 clear hO2 hl7 hrd
 generalize (hl4 mz).toNat = hh at *
 generalize (ral true mz).toNat = he at *
 obtain ⟨l7, hl7⟩ : ∃ l7, hh - 20 = l7 := ⟨_, rfl⟩
 rw [hl7]
 have HL7 := hide hl7
 clear hl7
 have la2 := later_alloc9 w2 (.cells #[.int .u8 q1, .int .u16 q2, .bool q3, .int .u8 q4, .int .u8 q5, .int .u32 q6, .int .u32 q7, .slice b7 l7 c7, .slice b8 dq.length c8] 26)
 have l2 : Later w1 w2 := hb2
 have L2 : Later w w2 := lw.trans l2
 have RW3 := hide (((l2.trans la2).block w.heap.size (bl9 RW.out)).trans RW.out)
 have RT3 := hide (((l2.trans la2).block (w.heap.size + 1) (bl9 RT.out)).trans RT.out)
 have RP3 := hide (heap_alloc_new w2 (.cells #[.int .u8 q1, .int .u16 q2, .bool q3, .int .u8 q4, .int .u8 q5, .int .u32 q6, .int .u32 q7, .slice b7 l7 c7, .slice b8 dq.length c8] 26))
 have D3 := hide (hD2.later la2)
 have L3 := L2.trans la2
 clear hD2 hI1 hb2
 go_upto_region 2 with fail
 generalize w2.alloc (.cells #[.int .u8 q1, .int .u16 q2, .bool q3, .int .u8 q4, .int .u8 q5, .int .u32 q6, .int .u32 q7, .slice b7 l7 c7, .slice b8 dq.length c8] 26) = w3 at *
 generalize hgp : w2.heap.size = gp at *
 have hgp1 : w.heap.size + 1 < gp := by rw [← hgp]; exact Nat.lt_of_lt_of_le (bl9 RT.out) l2.size
 clear hgp RW RT la2 l2 L2
 have CP := block_cell RP3.out
 have CW := block_cell RW3.out
 have CT := block_cell RT3.out
 have hl7' : (20 : Int) + (l7 : Int) = (hh : Int) := by have := HL7.out; omega
 have hl8' : (hh : Int) + (dq.length : Int) = (he : Int) := by have := HL8.out; omega
 have lB := later_alloc9 w3 (.cells #[.slice b8 dq.length c8, .int .u8 pr, .int .u32 s1, .int .u32 d1, .int .u16 a1, .int .u16 b1, .int .u8 pr, .int .u32 s, .int .u32 d, .int .u16 a, .int .u16 b] 97)
 have U4 : Hid (UB (w3.alloc (.cells #[.slice b8 dq.length c8, .int .u8 pr, .int .u32 s1, .int .u32 d1, .int .u16 a1, .int .u16 b1, .int .u8 pr, .int .u32 s, .int .u32 d, .int .u16 a, .int .u16 b] 97)) w3.heap.size ⟨pr, s1, d1, a1, b1, pr, s, d, a, b⟩ (.slice b8 dq.length c8)) := heap_alloc_new w3 _
 have hs3 : gp < w3.heap.size := (bl9 RP3.out)
 go_upto_region 5 with fail
 generalize w3.alloc (.cells #[.slice b8 dq.length c8, .int .u8 pr, .int .u32 s1, .int .u32 d1, .int .u16 a1, .int .u16 b1, .int .u8 pr, .int .u32 s, .int .u32 d, .int .u16 a, .int .u16 b] 97) = w4 at *
 clear CP CW CT
 generalize hg : w3.heap.size = g at *
 have T4 := hide ((lB.block (w.heap.size + 1) (by omega)).trans RT3.out)
 have hw4 : Later w w4 := L3.trans lB
 have hg4 : g < w4.heap.size := (bl9 U4.out)
 have hsg : w.heap.size + 1 < g := by omega
 have D4 := hide (D3.out.later lB)
 clear hg lB RT3 RW3 RP3 D3 L3 hs3 hgp1
 refine anyT_begin (R := But (fun q => q = g)) 5 rfl (by kernel_rfl) ?_
 have hdr : Later w4 w4.drew := Later.drew w4
 have T5 := hide ((hdr.block (w.heap.size + 1) (by omega)).trans T4.out)
 have hUR : UR w4.drew g ⟨pr, s1, d1, a1, b1, pr, s, d, a, b⟩ dq := (show UR w4 g ⟨pr, s1, d1, a1, b1, pr, s, d, a, b⟩ dq from ⟨_, U4.out, D4.out.rd⟩).later hdr
 have hw5 : Later w w4.drew := hw4.trans hdr
 have hg5 : g < w4.drew.heap.size := Nat.lt_of_lt_of_le hg4 hdr.size
 generalize w4.drew = w5 at *
 clear T4 U4 D4 hw4 hg4 hdr
 have qT : ∀ v1, But (fun q => q = g) w5 v1 → ∀ i, v1.cell? ⟨w.heap.size + 1, i, none⟩ = #[Value.int .u8 pr, .int .u32 s, .int .u32 d, .int .u16 a, .int .u16 b][i]? := fun v1 h => block_cell ((h.block (w.heap.size + 1) (by omega) (by omega)).trans T5.out)
 refine tV (But.pre _) 1 rfl rfl ?_; apply Exists.intro; refine ⟨fun v1 hv1 => ?_, ?_⟩; (· (go_simp; rfl)); simp only [Act.put, sA, sB, sC]
 refine tV (But.pre _) 2 rfl rfl ?_; apply Exists.intro; refine ⟨fun v1 hv1 => ?_, ?_⟩; (· (go_simp; rfl)); simp only [Act.put, sA, sB, sC]
 clear qT
 refine anyT_one 0 rfl (by kernel_rfl) rfl ?_
 refine wp_enter 51 #[.pointer (some ⟨g, 0, none⟩)] (by go_simp) ((quotedm_any g w5).mono ?_)
 rintro e w6 ⟨m, rfl, l6, hm6⟩
 refine ⟨But.of l6, ?_⟩
 simp only [Act.put, sA, sB, sC]
 have hmg : m ≠ g := by
  intro e
  subst e
  obtain ⟨bv, hx, _⟩ := hUR.later l6
  rw [UB, hm6] at hx
  cases hx
 have qL : ∀ v1, But (fun q => q = g) w6 v1 → (Instr.lookup 98 (.map (some m)) (.int .u8 pr) false).run Tryz.prog v1 = .ok (mth (uqf pr) g) v1 := fun v1 h => look_uqf hok g ((h.block m (bl9 hm6) hmg).trans hm6)
 refine tV (But.pre _) 3 rfl rfl ?_; apply Exists.intro; refine ⟨fun v1 hv1 => ?_, ?_⟩; (· (go_simp; rfl)); simp only [Act.put, sA, sB, sC]
 clear qL
 refine anyT_one 4 rfl (by kernel_rfl) rfl ?_
 have hcf := cf_uqf hok #[.pointer (some ⟨g, 0, none⟩)] w6
 have hdl : dq.length ≤ 140737488355328 := by have := HL8.out; omega
 have hd8 : 8 ≤ dq.length := by have := HL8.out; omega
 refine wp_enter (uqf pr) #[.pointer (some ⟨g, 0, none⟩)] (by go_simp) ((uqf_any (pr := pr) w.heap.size g ⟨pr, s1, d1, a1, b1, pr, s, d, a, b⟩ dq w6 hBq (hUR.later l6) (hw5.trans l6).size hdl ⟨hs, hd, ha, hb⟩ ⟨hs1, hd1, ha1, hb1⟩ hok hd8).mono ?_)
 rintro e w7 ⟨rfl, S7, b7'⟩
 refine ⟨b7', ?_⟩
 simp only [Act.put, sA, sB, sC]
 refine anyT_done (by kernel_rfl) ?_
 obtain ⟨bv7, hU7, hO7⟩ := S7
 obtain ⟨a7, c7', rfl, hc7, hm7⟩ := hO7.slice
 rw [qsD_length] at hU7 hO7 hc7
 have b57 : But (fun q => q = g) w5 w7 := (But.of l6).trans b7'
 have T7 := hide ((b57.block (w.heap.size + 1) (by omega) (by omega)).trans T5.out)
 have hw5' : Below w.heap.size w w5 := hw5
 have hw7 : Below w.heap.size w w7 := hw5'.trans (b57.below hw5'.size (fun k hk e => by omega))
 have hg7 : g < w7.heap.size := Nat.lt_of_lt_of_le hg5 b57.size
 have U7 := hide hU7
 have O7 := hide hO7
 clear hU7 hO7 b7' l6 hm6 hmg b57 T5 hUR hw5 hg5 hcf
 clear hw5'
 go_upto_region 6 with fail
 refine anyT_begin (R := Later) 13 rfl (by kernel_rfl) ?_
 have hdr : Later w7 w7.drew := Later.drew w7
 have T8 := hide ((hdr.block (w.heap.size + 1) (by omega)).trans T7.out)
 have U8 := hide ((hdr.block g hg7).trans U7.out)
 have O8 := hide (O7.out.later hdr)
 have hw8 : Later w w7.drew := hw7.trans (hdr.mono hw7.size)
 generalize w7.drew = w8 at *
 clear T7 U7 O7 hw7 hdr
 have hg8 : g < w8.heap.size := (bl9 U8.out)
 have hI8 := hI.later hw8
 have qT : ∀ v1, Later w8 v1 → ∀ i, v1.cell? ⟨w.heap.size + 1, i, none⟩ = #[Value.int .u8 pr, .int .u32 s, .int .u32 d, .int .u16 a, .int .u16 b][i]? := fun v1 h => block_cell ((h.block (w.heap.size + 1) (by omega)).trans T8.out)
 have qU : ∀ v1, Later w8 v1 → ∀ i, v1.cell? ⟨g, i, none⟩ = #[Value.slice a7 dq.length c7', .int .u8 pr, .int .u32 s1, .int .u32 d1, .int .u16 a1, .int .u16 b1, .int .u8 pr, .int .u32 s, .int .u32 d, .int .u16 a, .int .u16 b][i]? := fun v1 h => block_cell ((h.block g hg8).trans U8.out)
 have hhc : hh ≤ cv := by omega
 have hhe : he ≤ mz.length := hF.2.2
 refine tV Later.pre 0 rfl rfl ?_; apply Exists.intro; refine ⟨fun v1 hv1 => ?_, ?_⟩; (· (go_simp; rfl)); simp only [Act.put, sA, sB, sC]
 refine tV Later.pre 1 rfl rfl ?_; apply Exists.intro; refine ⟨fun v1 hv1 => ?_, ?_⟩; (· (go_simp; rfl)); simp only [Act.put, sA, sB, sC]
 refine tV Later.pre 2 rfl rfl ?_; apply Exists.intro; refine ⟨fun v1 hv1 => ?_, ?_⟩; (· (go_simp; rfl)); simp only [Act.put, sA, sB, sC]
 refine tV Later.pre 3 rfl rfl ?_; apply Exists.intro; refine ⟨fun v1 hv1 => ?_, ?_⟩; (· (go_simp; rfl)); simp only [Act.put, sA, sB, sC]
 refine tV Later.pre 5 rfl rfl ?_; apply Exists.intro; refine ⟨fun v1 hv1 => ?_, ?_⟩; (· (go_simp; rfl)); simp only [Act.put, sA, sB, sC]
 refine tV Later.pre 6 rfl rfl ?_; apply Exists.intro; refine ⟨fun v1 hv1 => ?_, ?_⟩; (· (go_simp; rfl)); simp only [Act.put, sA, sB, sC]
 refine tV Later.pre 7 rfl rfl ?_; apply Exists.intro; refine ⟨fun v1 hv1 => ?_, ?_⟩; (· (go_simp; rfl)); simp only [Act.put, sA, sB, sC]
 refine tV Later.pre 8 rfl rfl ?_; apply Exists.intro; refine ⟨fun v1 hv1 => ?_, ?_⟩; (· (go_simp; rfl)); simp only [Act.put, sA, sB, sC]
 refine tV Later.pre 9 rfl rfl ?_; apply Exists.intro; refine ⟨fun v1 hv1 => ?_, ?_⟩; (· (go_simp; rfl)); simp only [Act.put, sA, sB, sC]
 clear qT qU
 have R45 := hide (show Rd w8.heap.size w8 (.slice (if cv = he then av else Option.map (fun x => x.add he) av) (mz.length - he) (cv - he)) (mz.drop he) from by simpa [sliced] using Rd.drop he hhe hI8)
 have R42 := hide O8.out.rd
 generalize (if cv = he then av else Option.map (fun x => x.add he) av) = a45 at *
 generalize mz.length - he = n45 at *
 generalize cv - he = c45 at *
 refine anyT_one 4 rfl (by kernel_rfl) rfl ?_
 have hth : (mz.take hh).length = hh := by rw [List.length_take]; omega
 have H9 := renamed_any pr s d a b (.slice av hh cv) (mz.take hh) w8 (hB.take hh) (hI8.take hh (by omega)) (by omega) hs hd
 rw [hth] at H9
 refine wp_enter 53 #[.slice av hh cv, .agg #[.int .u8 pr, .int .u32 s, .int .u32 d, .int .u16 a, .int .u16 b]] (by go_simp) (H9.mono ?_)
 rintro e w9 ⟨a9, rfl, O9, b9⟩
 have l9 : Later w8 w9 := b9
 refine ⟨l9, ?_⟩
 simp only [Act.put, sA, sB, sC]
 clear H9
 refine anyT_one 10 rfl (by kernel_rfl) rfl ?_
 unfold Oper.wp
 go_simp
 have l10 := later_alloc9 w9 (.cells #[.slice a9 hh hh, .slice a7 dq.length c7', .slice a45 n45 c45] 24)
 have B10 := heap_alloc_new w9 (.cells #[.slice a9 hh hh, .slice a7 dq.length c7', .slice a45 n45 c45] 24)
 refine ⟨l10, ?_⟩
 generalize w9.alloc (.cells #[.slice a9 hh hh, .slice a7 dq.length c7', .slice a45 n45 c45] 24) = w10 at *
 have C10 := block_cell B10
 have hfl : ([rnm s d (mz.take hh), qsD pr ⟨pr, s1, d1, a1, b1, pr, s, d, a, b⟩ dq, mz.drop he] : List (List Int)).flatten = rqt ⟨pr, s1, d1, a1, b1, pr, s, d, a, b⟩ mz := by rw [HRQ.out]; simp
 have H11 := concat_any w9.heap.size 3 [.slice a9 hh hh, .slice a7 dq.length c7', .slice a45 n45 c45] [rnm s d (mz.take hh), qsD pr ⟨pr, s1, d1, a1, b1, pr, s, d, a, b⟩ dq, mz.drop he] w10 rfl (by simp) (by simp) (by rw [hfl, HQL.out]; exact hl)
  (fun j hj => by
   have hj3 : j < 3 := hj
   have : j = 0 ∨ j = 1 ∨ j = 2 := by omega
   rcases this with rfl | rfl | rfl <;> exact C10 _)
  (fun j hj => by
   have hj3 : j < 3 := hj
   have : j = 0 ∨ j = 1 ∨ j = 2 := by omega
   rcases this with rfl | rfl | rfl
   ·exact O9.rd.later l10
   ·exact (R42.out.later l9).later l10
   ·exact (R45.out.later l9).later l10)
 rw [hfl, HQL.out] at H11
 have HL11 := hide H11
 clear H11 C10 B10 hfl
 generalize w9.heap.size = gb at *
 refine anyT_one 11 rfl (by kernel_rfl) rfl ?_
 refine wp_enter 52 #[.slice (some ⟨gb, 0, none⟩) 3 3] (by go_simp) (HL11.out.mono ?_)
 rintro e w11 ⟨v11, rfl, hown, b11⟩
 have l11 : Later w10 w11 := b11
 have O11 := hide (Ow.of_row hown)
 clear hown
 refine ⟨l11, ?_⟩
 simp only [Act.put, sA, sB, sC]
 refine tV Later.pre 12 rfl rfl ?_; apply Exists.intro; refine ⟨fun v1 hv1 => ?_, ?_⟩; (· (go_simp; rfl)); simp only [Act.put, sA, sB, sC]
 refine anyT_done (by kernel_rfl) ?_
 obtain ⟨x, c, rfl, _, _⟩ := O11.out.slice
 go_wp2_with fail
 go_ret
 have L8 := hw8.trans (l9.trans l10)
 rw [HQL.out] at O11 ⊢
 exact ⟨x, c, rfl, O11.out.mono L8.size, L8.trans l11⟩
end Go.Proofs.YtghpakfjpdifaaaGreatDoor

/- Package mangle: Rewrite. -/
namespace Go.Proofs.YtghpakfjpdifaaaGreatDoor
open Go.RowKit Go.Shelf
set_option maxRecDepth 100000
set_option linter.unusedVariables false
set_option linter.unusedSimpArgs false

theorem later_alloc' (w : World) (o : Obj) : Later w (w.alloc o) := (Below.refl _ _).alloc (Nat.le_refl _) _

set_option maxHeartbeats 16000000 in
theorem rewrite_any (tos id ttl pr src dst : Int) (keep : Bool) (so sd : Value) (zo zd : List Int) (tp s d a b : Int) (w : World) (hT : Tb w) (hBo : Mt.By zo) (hBd : Mt.By zd) (hIo : Rd w.heap.size w so zo) (hId : Rd w.heap.size w sd zd) (hlo : zo.length ≤ 140737488355328) (hl : zd.length ≤ 140737488351232)
  (ht : 0 ≤ tos ∧ tos ≤ 255) (hid : 0 ≤ id ∧ id ≤ 65535) (htt : 0 ≤ ttl ∧ ttl ≤ 255) (hpr : 0 ≤ pr ∧ pr ≤ 255) (hsr : 0 ≤ src ∧ src ≤ 4294967295) (hds : 0 ≤ dst ∧ dst ≤ 4294967295) (hs : 0 ≤ s ∧ s ≤ 4294967295) (hd : 0 ≤ d ∧ d ≤ 4294967295) (ha : 0 ≤ a ∧ a ≤ 65535) (hb : 0 ≤ b ∧ b ≤ 65535) :
  Calls Tryz.prog 27 #[.agg #[.int .u8 tos, .int .u16 id, .bool keep, .int .u8 ttl, .int .u8 pr, .int .u32 src, .int .u32 dst, so, sd], .agg #[.int .u8 tp, .int .u32 s, .int .u32 d, .int .u16 a, .int .u16 b]] w fun e w' => Below w.heap.size w w' ∧ ((rwe pr tp src dst zo.length zd ≠ 0 ∧ e = .returned (.tuple #[.agg zpk.toArray, .int .i64 (rwe pr tp src dst zo.length zd)])) ∨
   (rwe pr tp src dst zo.length zd = 0 ∧ ∃ ao co ad cd, e = .returned (.tuple #[.agg #[.int .u8 tos, .int .u16 id, .bool keep, .int .u8 ttl, .int .u8 pr, .int .u32 s, .int .u32 d, .slice ao zo.length co, .slice ad zd.length cd], .int .i64 0]) ∧ Ow w.heap.size w' (.slice ao zo.length co) zo ∧ Ow w.heap.size w' (.slice ad zd.length cd) (rwD pr s d a b zd))) := by
 obtain ⟨ao, co, rfl, hlo1, hmo1⟩ := hIo.slice
 obtain ⟨ad, cd, rfl, hl1, hm1⟩ := hId.slice
 have hb0 : Below w.heap.size w (((w.alloc (.cells #[.int .u8 tos, .int .u16 id, .bool keep, .int .u8 ttl, .int .u8 pr, .int .u32 src, .int .u32 dst, .slice ao zo.length co, .slice ad zd.length cd] 26)).alloc (.cells #[.int .u8 tp, .int .u32 s, .int .u32 d, .int .u16 a, .int .u16 b] 29)).alloc (.cells zpk.toArray 26)) := (((Below.refl _ _).alloc (Nat.le_refl _) _).alloc (by simp) _).alloc (by simp <;> omega) _
 have p0 : (((w.alloc (.cells #[.int .u8 tos, .int .u16 id, .bool keep, .int .u8 ttl, .int .u8 pr, .int .u32 src, .int .u32 dst, .slice ao zo.length co, .slice ad zd.length cd] 26)).alloc (.cells #[.int .u8 tp, .int .u32 s, .int .u32 d, .int .u16 a, .int .u16 b] 29)).alloc (.cells zpk.toArray 26)).heap[w.heap.size]? = some (.cells #[.int .u8 tos, .int .u16 id, .bool keep, .int .u8 ttl, .int .u8 pr, .int .u32 src, .int .u32 dst, .slice ao zo.length co, .slice ad zd.length cd] 26) := (Below.heap_alloc _ _ _ (by simp <;> omega)).trans ((Below.heap_alloc _ _ _ (by simp)).trans (heap_alloc_new w _))
 have t0 : (((w.alloc (.cells #[.int .u8 tos, .int .u16 id, .bool keep, .int .u8 ttl, .int .u8 pr, .int .u32 src, .int .u32 dst, .slice ao zo.length co, .slice ad zd.length cd] 26)).alloc (.cells #[.int .u8 tp, .int .u32 s, .int .u32 d, .int .u16 a, .int .u16 b] 29)).alloc (.cells zpk.toArray 26)).heap[w.heap.size + 1]? = some (.cells #[.int .u8 tp, .int .u32 s, .int .u32 d, .int .u16 a, .int .u16 b] 29) := by
  have := heap_alloc_new (w.alloc (.cells #[.int .u8 tos, .int .u16 id, .bool keep, .int .u8 ttl, .int .u8 pr, .int .u32 src, .int .u32 dst, .slice ao zo.length co, .slice ad zd.length cd] 26)) (.cells #[.int .u8 tp, .int .u32 s, .int .u32 d, .int .u16 a, .int .u16 b] 29)
  rw [World.size_alloc] at this
  exact (Below.heap_alloc _ _ _ (by simp)).trans this
 have r0 : (((w.alloc (.cells #[.int .u8 tos, .int .u16 id, .bool keep, .int .u8 ttl, .int .u8 pr, .int .u32 src, .int .u32 dst, .slice ao zo.length co, .slice ad zd.length cd] 26)).alloc (.cells #[.int .u8 tp, .int .u32 s, .int .u32 d, .int .u16 a, .int .u16 b] 29)).alloc (.cells zpk.toArray 26)).heap[w.heap.size + 1 + 1]? = some (.cells zpk.toArray 26) := by
  have := heap_alloc_new ((w.alloc (.cells #[.int .u8 tos, .int .u16 id, .bool keep, .int .u8 ttl, .int .u8 pr, .int .u32 src, .int .u32 dst, .slice ao zo.length co, .slice ad zd.length cd] 26)).alloc (.cells #[.int .u8 tp, .int .u32 s, .int .u32 d, .int .u16 a, .int .u16 b] 29)) (.cells zpk.toArray 26)
  simpa only [World.size_alloc] using this
 have P0 := hide p0
 have T0 := hide t0
 have R0 := hide r0
 clear p0 t0 r0
 go_enter Tryz.func27, Tryz.ntmps27
 go_upto_region 1 with fail
 generalize ((w.alloc _).alloc _).alloc _ = W0 at *
 have kP := block_cell P0.out
 have kT := block_cell T0.out
 by_cases c1 : pr = tp
 case neg =>
  have t1 : (pr != tp) = true := by simp [c1]
  have HF : Hid (rwe pr tp src dst zo.length zd = 12) := by show _ = _; unfold rwe; rw [if_pos c1]
  have HNZ : Hid ((12 : Int) ≠ 0) := by show (12 : Int) ≠ 0; decide
  have kR := block_cell R0.out
  have fR := block_frozen R0.out
  clear c1
  go_wp2_with fail
  generalize hV : (((((((((W0.setCell ⟨w.heap.size + 1 + 1, 0, none⟩ _).setCell ⟨w.heap.size + 1 + 1, 1, none⟩ _).setCell ⟨w.heap.size + 1 + 1, 2, none⟩ _).setCell ⟨w.heap.size + 1 + 1, 3, none⟩ _).setCell ⟨w.heap.size + 1 + 1, 4, none⟩ _).setCell ⟨w.heap.size + 1 + 1, 5, none⟩ _).setCell ⟨w.heap.size + 1 + 1, 6, none⟩ _).setCell ⟨w.heap.size + 1 + 1, 7, none⟩ _).setCell ⟨w.heap.size + 1 + 1, 8, none⟩ _) = V8; have hV9 : V8 = putRow W0 (w.heap.size + 1 + 1) 0 zpk := hV.symm; have hb8 : But (fun b => b = w.heap.size + 1 + 1) W0 V8 := by { rw [hV9]; exact putRow_but (E := fun b => b = w.heap.size + 1 + 1) (n := w.heap.size + 1 + 1) rfl _ _ _ _ (But.refl _ _) }; have p8 := putRow_all zpk R0.out rfl; rw [← hV9] at p8; clear hV hV9; have P8 := block_cell p8; have hw8 : Below w.heap.size w V8 := (hb0).trans (hb8.below (hb0).size (fun k h e => by omega)); exact bodyPost_ret (v := .tuple #[.agg zpk.toArray, .int .i64 12]) (by simp [results, Tryz.results27, go_sem, P8, zpk]) rfl ⟨hw8, .inl ⟨by rw [HF.out]; exact HNZ.out, by rw [HF.out]⟩⟩
 subst c1
 have t1 : (pr != pr) = false := by simp
 have hs0 : w.heap.size + 1 + 1 < W0.heap.size := (bl9 R0.out)
 go_upto_region 3 with fail
 go_wp2_with fail
 refine (of_any tos id ttl pr src dst keep _ _ zd W0 (hT.below hb0 hT.pos) hBd ((hId.below hb0).mono hb0.size) (by omega) hsr hds).mono ?_
 obtain ⟨oe, HO⟩ : ∃ e, Hid (ofe pr src dst zd = e) := ⟨_, rfl⟩
 rw [HO.out]
 rintro e w1 ⟨hb1, rfl⟩
 have l1 : Later W0 w1 := hb1
 have hw1 : Below w.heap.size w w1 := Later.below hb0 (Nat.le_refl _) l1
 by_cases c2 : oe = 0
 case neg =>
  rw [otv_no c2]
  have t2 : (oe != 0) = true := by simp [c2]
  have HF : Hid (rwe pr pr src dst zo.length zd = oe) := by show _ = _; unfold rwe; rw [if_neg (by simp), HO.out, if_pos c2]
  have HNZ : Hid (oe ≠ 0) := c2
  have r1 := (l1.block (w.heap.size + 1 + 1) hs0).trans R0.out
  have lA := later_alloc' w1 (.cells #[.int .u8 0, .int .u32 0, .int .u32 0, .int .u16 0, .int .u16 0] 29)
  have r2 := (lA.block (w.heap.size + 1 + 1) (bl9 r1)).trans r1
  have hw2 : Below w.heap.size w (w1.alloc (.cells #[.int .u8 0, .int .u32 0, .int .u32 0, .int .u16 0, .int .u16 0] 29)) := Later.below hw1 (Nat.le_refl _) lA
  have R2 := hide r2
  clear c2 kP kT r1 r2 lA
  go_upto_region 4 with fail
  generalize w1.alloc _ = w2 at *
  have kR := block_cell R2.out
  have fR := block_frozen R2.out
  go_wp2_with fail
  generalize hV : (((((((((w2.setCell ⟨w.heap.size + 1 + 1, 0, none⟩ _).setCell ⟨w.heap.size + 1 + 1, 1, none⟩ _).setCell ⟨w.heap.size + 1 + 1, 2, none⟩ _).setCell ⟨w.heap.size + 1 + 1, 3, none⟩ _).setCell ⟨w.heap.size + 1 + 1, 4, none⟩ _).setCell ⟨w.heap.size + 1 + 1, 5, none⟩ _).setCell ⟨w.heap.size + 1 + 1, 6, none⟩ _).setCell ⟨w.heap.size + 1 + 1, 7, none⟩ _).setCell ⟨w.heap.size + 1 + 1, 8, none⟩ _) = V8; have hV9 : V8 = putRow w2 (w.heap.size + 1 + 1) 0 zpk := hV.symm; have hb8 : But (fun b => b = w.heap.size + 1 + 1) w2 V8 := by { rw [hV9]; exact putRow_but (E := fun b => b = w.heap.size + 1 + 1) (n := w.heap.size + 1 + 1) rfl _ _ _ _ (But.refl _ _) }; have p8 := putRow_all zpk R2.out rfl; rw [← hV9] at p8; clear hV hV9; have P8 := block_cell p8; have hw8 : Below w.heap.size w V8 := (hw2).trans (hb8.below (hw2).size (fun k h e => by omega)); exact bodyPost_ret (v := .tuple #[.agg zpk.toArray, .int .i64 oe]) (by simp [results, Tryz.results27, go_sem, P8, zpk]) rfl ⟨hw8, .inl ⟨by rw [HF.out]; exact HNZ.out, by rw [HF.out]⟩⟩
 subst c2
 have hok := ofe_pok HO.out
 rw [otv_ok]
 have HFL : Hid (rwe pr pr src dst zo.length zd = flt zo.length zd.length) := by show _ = _; unfold rwe; rw [if_neg (by simp), HO.out, if_neg (by simp)]
 generalize ofa pr zd = wa at *
 generalize ofb pr zd = wb at *
 have P1 := hide ((l1.block w.heap.size (by omega)).trans P0.out)
 have T1 := hide ((l1.block (w.heap.size + 1) (by omega)).trans T0.out)
 have R1 := hide ((l1.block (w.heap.size + 1 + 1) hs0).trans R0.out)
 have hs1 : w.heap.size + 1 + 1 < w1.heap.size := Nat.lt_of_lt_of_le hs0 l1.size
 have lA := later_alloc' w1 (.cells #[.int .u8 pr, .int .u32 src, .int .u32 dst, .int .u16 wa, .int .u16 wb] 29)
 have W2 := hide (heap_alloc_new w1 (.cells #[.int .u8 pr, .int .u32 src, .int .u32 dst, .int .u16 wa, .int .u16 wb] 29))
 clear kP kT P0 T0 R0
 go_upto_region 6 with fail
 generalize w1.alloc _ = w2 at *
 have P2 := hide ((lA.block w.heap.size (by omega)).trans P1.out)
 have T2 := hide ((lA.block (w.heap.size + 1) (by omega)).trans T1.out)
 have R2 := hide ((lA.block (w.heap.size + 1 + 1) hs1).trans R1.out)
 have hs2 : w1.heap.size < w2.heap.size := (bl9 W2.out)
 have hw2 : Below w.heap.size w w2 := Later.below hw1 (Nat.le_refl _) lA
 have kP := block_cell P2.out
 have kT := block_cell T2.out
 have kW := block_cell W2.out
 have lB := later_alloc' w2 (.cells #[.slice ad zd.length cd, .int .u8 pr, .int .u32 src, .int .u32 dst, .int .u16 wa, .int .u16 wb, .int .u8 pr, .int .u32 s, .int .u32 d, .int .u16 a, .int .u16 b] 97)
 have U3 : Hid (UB (w2.alloc (.cells #[.slice ad zd.length cd, .int .u8 pr, .int .u32 src, .int .u32 dst, .int .u16 wa, .int .u16 wb, .int .u8 pr, .int .u32 s, .int .u32 d, .int .u16 a, .int .u16 b] 97)) w2.heap.size ⟨pr, src, dst, wa, wb, pr, s, d, a, b⟩ (.slice ad zd.length cd)) := heap_alloc_new w2 _
 clear P1 T1 R1
 go_upto_region 7 with fail
 generalize w2.alloc _ = w3 at *
 clear kP kT kW
 generalize hg : w2.heap.size = g at *
 have P3 := hide ((lB.block w.heap.size (by omega)).trans P2.out)
 have T3 := hide ((lB.block (w.heap.size + 1) (by omega)).trans T2.out)
 have R3 := hide ((lB.block (w.heap.size + 1 + 1) (by omega)).trans R2.out)
 have hw3 : Below w.heap.size w w3 := Later.below hw2 (Nat.le_refl _) lB
 have hg3 : g < w3.heap.size := (bl9 U3.out)
 have hsg : w.heap.size + 1 + 1 < g := by omega
 have hId3 : Rd w3.heap.size w3 (.slice ad zd.length cd) zd := (hId.below hw3).mono hw3.size
 have HG := hide hg
 clear hg lA lB P2 T2 R2 W2 hs2
 refine anyT_begin (R := But (fun q => q = g)) 5 rfl (by kernel_rfl) ?_
 have hdr : Later w3 w3.drew := Later.drew w3
 have P4 := hide ((hdr.block w.heap.size (by omega)).trans P3.out)
 have T4 := hide ((hdr.block (w.heap.size + 1) (by omega)).trans T3.out)
 have R4 := hide ((hdr.block (w.heap.size + 1 + 1) (by omega)).trans R3.out)
 have hUR : UR w3.drew g ⟨pr, src, dst, wa, wb, pr, s, d, a, b⟩ zd := (show UR w3 g ⟨pr, src, dst, wa, wb, pr, s, d, a, b⟩ zd from ⟨_, U3.out, hId3⟩).later hdr
 have hw4 : Below w.heap.size w w3.drew := Later.below hw3 (Nat.le_refl _) hdr
 have hg4 : g < w3.drew.heap.size := Nat.lt_of_lt_of_le hg3 hdr.size
 generalize w3.drew = w4 at *
 have qT : ∀ v1, But (fun q => q = g) w4 v1 → ∀ i, v1.cell? ⟨w.heap.size + 1, i, none⟩ = #[Value.int .u8 pr, .int .u32 s, .int .u32 d, .int .u16 a, .int .u16 b][i]? := fun v1 h => block_cell ((h.block (w.heap.size + 1) (by omega) (by omega)).trans T4.out)
 refine tV (But.pre _) 1 rfl rfl ?_; apply Exists.intro; refine ⟨fun v1 hv1 => ?_, ?_⟩; (· (go_simp; rfl)); simp only [Act.put, sA, sB, sC]
 refine tV (But.pre _) 2 rfl rfl ?_; apply Exists.intro; refine ⟨fun v1 hv1 => ?_, ?_⟩; (· (go_simp; rfl)); simp only [Act.put, sA, sB, sC]
 clear qT
 refine anyT_one 0 rfl (by kernel_rfl) rfl ?_
 refine wp_enter 71 #[.pointer (some ⟨g, 0, none⟩)] (by go_simp) ((whole_any g w4).mono ?_)
 rintro e w5 ⟨m, rfl, l5, hm5⟩
 refine ⟨But.of l5, ?_⟩
 simp only [Act.put, sA, sB, sC]
 have hmg : m ≠ g := by
  intro e
  subst e
  obtain ⟨bv, hx, _⟩ := hUR.later l5
  rw [UB, hm5] at hx
  cases hx
 have qL : ∀ v1, But (fun q => q = g) w5 v1 → (Instr.lookup 98 (.map (some m)) (.int .u8 pr) false).run Tryz.prog v1 = .ok (mth (uf pr) g) v1 := fun v1 h => look_uf hok g ((h.block m (bl9 hm5) hmg).trans hm5)
 refine tV (But.pre _) 3 rfl rfl ?_; apply Exists.intro; refine ⟨fun v1 hv1 => ?_, ?_⟩; (· (go_simp; rfl)); simp only [Act.put, sA, sB, sC]
 clear qL
 refine anyT_one 4 rfl (by kernel_rfl) rfl ?_
 have hcf := cf_uf hok #[.pointer (some ⟨g, 0, none⟩)] w5
 refine wp_enter (uf pr) #[.pointer (some ⟨g, 0, none⟩)] (by go_simp) ((uf_any (pr := pr) w.heap.size g ⟨pr, src, dst, wa, wb, pr, s, d, a, b⟩ zd w5 hBd (hUR.later l5) (Nat.le_trans hw4.size l5.size) (by omega) ⟨hs, hd, ha, hb⟩ rfl HO.out).mono ?_)
 rintro e w6 ⟨rfl, S6, b6⟩
 refine ⟨b6, ?_⟩
 simp only [Act.put, sA, sB, sC]
 refine anyT_done (by kernel_rfl) ?_
 obtain ⟨bv6, hU6, hO6⟩ := S6
 obtain ⟨a6, c6, rfl, _, _⟩ := hO6.slice
 rw [rwD_length] at hU6 hO6
 have b46 : But (fun q => q = g) w4 w6 := (But.of l5).trans b6
 have P6 := hide ((b46.block w.heap.size (by omega) (by omega)).trans P4.out)
 have T6 := hide ((b46.block (w.heap.size + 1) (by omega) (by omega)).trans T4.out)
 have R6 := hide ((b46.block (w.heap.size + 1 + 1) (by omega) (by omega)).trans R4.out)
 have hw6 : Below w.heap.size w w6 := hw4.trans (b46.below hw4.size (fun k hk e => by omega))
 have hg6 : g < w6.heap.size := Nat.lt_of_lt_of_le hg4 b46.size
 have U6 := hide hU6
 have O6 := hide hO6
 clear hU6 hO6 b6 l5 hm5 hmg b46 P4 T4 R4 hUR hw4 hg4 hcf P3 T3 R3 U3 hId3 hw3 hg3 hdr
 go_upto_region 8 with fail
 refine anyT_begin (R := But (fun q => q = w.heap.size)) 17 rfl (by kernel_rfl) ?_
 have hdr : Later w6 w6.drew := Later.drew w6
 have P7 := hide ((hdr.block w.heap.size (by omega)).trans P6.out)
 have T7 := hide ((hdr.block (w.heap.size + 1) (by omega)).trans T6.out)
 have R7 := hide ((hdr.block (w.heap.size + 1 + 1) (by omega)).trans R6.out)
 have U7 := hide (U6.out.later hdr)
 have O7 := hide (O6.out.later hdr)
 have hw7 : Below w.heap.size w w6.drew := Later.below hw6 (Nat.le_refl _) hdr
 have hg7 : g < w6.drew.heap.size := Nat.lt_of_lt_of_le hg6 hdr.size
 generalize w6.drew = w7 at *
 have qT : ∀ v1, But (fun q => q = w.heap.size) w7 v1 → ∀ i, v1.cell? ⟨w.heap.size + 1, i, none⟩ = #[Value.int .u8 pr, .int .u32 s, .int .u32 d, .int .u16 a, .int .u16 b][i]? := fun v1 h => block_cell ((h.block (w.heap.size + 1) (by omega) (by omega)).trans T7.out)
 have qU : ∀ v1, But (fun q => q = w.heap.size) w7 v1 → ∀ i, v1.cell? ⟨g, i, none⟩ = #[Value.slice a6 zd.length c6, .int .u8 pr, .int .u32 src, .int .u32 dst, .int .u16 wa, .int .u16 wb, .int .u8 pr, .int .u32 s, .int .u32 d, .int .u16 a, .int .u16 b][i]? := fun v1 h => block_cell ((h.block g hg7 (by omega)).trans U7.out)
 refine tV (But.pre _) 0 rfl rfl ?_; apply Exists.intro; refine ⟨fun v1 hv1 => ?_, ?_⟩; (· (go_simp; rfl)); simp only [Act.put, sA, sB, sC]
 refine tV (But.pre _) 1 rfl rfl ?_; apply Exists.intro; refine ⟨fun v1 hv1 => ?_, ?_⟩; (· (go_simp; rfl)); simp only [Act.put, sA, sB, sC]
 refine tV (But.pre _) 2 rfl rfl ?_; apply Exists.intro; refine ⟨fun v1 hv1 => ?_, ?_⟩; (· (go_simp; rfl)); simp only [Act.put, sA, sB, sC]
 refine tV (But.pre _) 3 rfl rfl ?_; apply Exists.intro; refine ⟨fun v1 hv1 => ?_, ?_⟩; (· (go_simp; rfl)); simp only [Act.put, sA, sB, sC]
 refine tV (But.pre _) 4 rfl rfl ?_; apply Exists.intro; refine ⟨fun v1 hv1 => ?_, ?_⟩; (· (go_simp; rfl)); simp only [Act.put, sA, sB, sC]
 refine tV (But.pre _) 7 rfl rfl ?_; apply Exists.intro; refine ⟨fun v1 hv1 => ?_, ?_⟩; (· (go_simp; rfl)); simp only [Act.put, sA, sB, sC]
 refine tV (But.pre _) 8 rfl rfl ?_; apply Exists.intro; refine ⟨fun v1 hv1 => ?_, ?_⟩; (· (go_simp; rfl)); simp only [Act.put, sA, sB, sC]
 clear qT qU
 have kP := block_cell P7.out
 refine anyT_one 5 rfl (by kernel_rfl) rfl ?_
 unfold Oper.wp
 go_simp
 refine ⟨But.refl _ _, ?_⟩
 clear kP
 refine tV (But.pre _) 9 rfl rfl ?_; apply Exists.intro; refine ⟨fun v1 hv1 => ?_, ?_⟩; (· (go_simp; rfl)); simp only [Act.put, sA, sB, sC]
 refine anyT_one 6 rfl (by kernel_rfl) rfl ?_
 refine wp_enter 50 #[.slice ao zo.length co] (by go_simp) ((cloneb_any _ zo w7 (by omega) ((hIo.below hw7).mono hw7.size)).mono ?_)
 rintro e w8 ⟨a8, c8, rfl, hO8, hb8⟩
 have l8 : Later w7 w8 := hb8
 refine ⟨But.of l8, ?_⟩
 simp only [Act.put, sA, sB, sC]
 have P8 := hide ((l8.block w.heap.size (by omega)).trans P7.out)
 have R8 := hide ((l8.block (w.heap.size + 1 + 1) (by omega)).trans R7.out)
 have O8 := hide (hO8.mono hw7.size)
 have D8 := hide (O7.out.later l8)
 have hw8 : Below w.heap.size w w8 := Later.below hw7 (Nat.le_refl _) l8
 have hs8 : w.heap.size + 1 + 1 < w8.heap.size := Nat.lt_of_lt_of_le (by omega) l8.size
 have Bw8 : But (fun q => q = w.heap.size) w8 w8 := But.refl _ _
 clear hO8 hb8 P7 T7 R7 U7 O7 hw7 hg7 l8 hdr U6 O6 T6 R6 P6
 have kS := block_cell P8.out
 have fS := block_frozen P8.out
 have P9 := hide (heap_set1 P8.out 5 (.int .u32 s))
 have bt : Hid (But (fun q => q = w.heap.size) w8 (w8.setCell ⟨w.heap.size, 5, none⟩ (.int .u32 s))) := But.setCell (E := fun q => q = w.heap.size) (But.refl _ _) (p := ⟨w.heap.size, 5, none⟩) rfl _
 refine anyT_one 10 rfl (by kernel_rfl) rfl ?_
 unfold Oper.wp
 go_simp
 refine ⟨bt.out, ?_⟩
 have Bw9 := Bw8.trans bt.out
 clear bt kS fS
 generalize w8.setCell ⟨w.heap.size, 5, none⟩ _ = w9 at *
 refine tV (But.pre _) 11 rfl rfl ?_; apply Exists.intro; refine ⟨fun v1 hv1 => ?_, ?_⟩; (· (go_simp; rfl)); simp only [Act.put, sA, sB, sC]
 have kS := block_cell P9.out
 have fS := block_frozen P9.out
 have P10 := hide (heap_set1 P9.out 6 (.int .u32 d))
 have bt : Hid (But (fun q => q = w.heap.size) w9 (w9.setCell ⟨w.heap.size, 6, none⟩ (.int .u32 d))) := But.setCell (E := fun q => q = w.heap.size) (But.refl _ _) (p := ⟨w.heap.size, 6, none⟩) rfl _
 refine anyT_one 12 rfl (by kernel_rfl) rfl ?_
 unfold Oper.wp
 go_simp
 refine ⟨bt.out, ?_⟩
 have Bw10 := Bw9.trans bt.out
 clear bt kS fS
 generalize w9.setCell ⟨w.heap.size, 6, none⟩ _ = w10 at *
 refine tV (But.pre _) 13 rfl rfl ?_; apply Exists.intro; refine ⟨fun v1 hv1 => ?_, ?_⟩; (· (go_simp; rfl)); simp only [Act.put, sA, sB, sC]
 have kS := block_cell P10.out
 have fS := block_frozen P10.out
 have P11 := hide (heap_set1 P10.out 7 (.slice a8 zo.length c8))
 have bt : Hid (But (fun q => q = w.heap.size) w10 (w10.setCell ⟨w.heap.size, 7, none⟩ (.slice a8 zo.length c8))) := But.setCell (E := fun q => q = w.heap.size) (But.refl _ _) (p := ⟨w.heap.size, 7, none⟩) rfl _
 refine anyT_one 14 rfl (by kernel_rfl) rfl ?_
 unfold Oper.wp
 go_simp
 refine ⟨bt.out, ?_⟩
 have Bw11 := Bw10.trans bt.out
 clear bt kS fS
 generalize w10.setCell ⟨w.heap.size, 7, none⟩ _ = w11 at *
 refine tV (But.pre _) 15 rfl rfl ?_; apply Exists.intro; refine ⟨fun v1 hv1 => ?_, ?_⟩; (· (go_simp; rfl)); simp only [Act.put, sA, sB, sC]
 have kS := block_cell P11.out
 have fS := block_frozen P11.out
 have P12 := hide (heap_set1 P11.out 8 (.slice a6 zd.length c6))
 have bt : Hid (But (fun q => q = w.heap.size) w11 (w11.setCell ⟨w.heap.size, 8, none⟩ (.slice a6 zd.length c6))) := But.setCell (E := fun q => q = w.heap.size) (But.refl _ _) (p := ⟨w.heap.size, 8, none⟩) rfl _
 refine anyT_one 16 rfl (by kernel_rfl) rfl ?_
 unfold Oper.wp
 go_simp
 refine ⟨bt.out, ?_⟩
 have Bw12 := Bw11.trans bt.out
 clear bt kS fS
 generalize w11.setCell ⟨w.heap.size, 8, none⟩ _ = w12 at *
 refine anyT_done (by kernel_rfl) ?_
 have P13 : Hid (w12.heap[w.heap.size]? = some (.cells #[.int .u8 tos, .int .u16 id, .bool keep, .int .u8 ttl, .int .u8 pr, .int .u32 s, .int .u32 d, .slice a8 zo.length c8, .slice a6 zd.length c6] 26)) := by have := P12.out; simp at this; exact this
 have R13 := hide ((Bw12.block (w.heap.size + 1 + 1) hs8 (by omega)).trans R8.out)
 have O13 := hide (Ow.aside O8.out P8.out (by decide) Bw12)
 have D13 := hide (Ow.aside D8.out P8.out (by decide) Bw12)
 have hw12 : Below w.heap.size w w12 := hw8.trans (Bw12.below hw8.size (fun k hk e => by omega))
 have hs12 : w.heap.size + 1 + 1 < w12.heap.size := Nat.lt_of_lt_of_le hs8 Bw12.size
 clear P8 P9 P10 P11 P12 R8 O8 D8 Bw8 Bw9 Bw10 Bw11 Bw12 hw8 hs8
 have kP := block_cell P13.out
 obtain ⟨fl, HFF⟩ : ∃ f, Hid (flt zo.length zd.length = f) := ⟨_, rfl⟩
 by_cases c3 : fl = 0
 case neg =>
  have hfn : flt zo.length zd.length ≠ 0 := by rw [HFF.out]; exact c3
  have t3 : (fl != 0) = true := by simp [c3]
  have HF : Hid (rwe pr pr src dst zo.length zd = fl) := by show _ = _; rw [HFL.out, HFF.out]
  have HNZ : Hid (fl ≠ 0) := c3
  have HBN := hide (build_no tos id ttl pr s d keep a8 a6 zo.length c8 zd.length c6 w12 (by omega) (by omega) hfn)
  rw [HFF.out] at HBN
  clear c3 hfn
  go_wp2_with fail
  refine HBN.out.mono ?_
  rintro e w13 ⟨rfl, hb13⟩
  have l13 : Later w12 w13 := hb13
  have R14 := hide ((l13.block (w.heap.size + 1 + 1) hs12).trans R13.out)
  have hw13 : Below w.heap.size w w13 := Later.below hw12 (Nat.le_refl _) l13
  have kR := block_cell R14.out
  have fR := block_frozen R14.out
  clear kP
  go_wp2_with fail
  generalize hV : (((((((((w13.setCell ⟨w.heap.size + 1 + 1, 0, none⟩ _).setCell ⟨w.heap.size + 1 + 1, 1, none⟩ _).setCell ⟨w.heap.size + 1 + 1, 2, none⟩ _).setCell ⟨w.heap.size + 1 + 1, 3, none⟩ _).setCell ⟨w.heap.size + 1 + 1, 4, none⟩ _).setCell ⟨w.heap.size + 1 + 1, 5, none⟩ _).setCell ⟨w.heap.size + 1 + 1, 6, none⟩ _).setCell ⟨w.heap.size + 1 + 1, 7, none⟩ _).setCell ⟨w.heap.size + 1 + 1, 8, none⟩ _) = V8; have hV9 : V8 = putRow w13 (w.heap.size + 1 + 1) 0 zpk := hV.symm; have hb8 : But (fun b => b = w.heap.size + 1 + 1) w13 V8 := by { rw [hV9]; exact putRow_but (E := fun b => b = w.heap.size + 1 + 1) (n := w.heap.size + 1 + 1) rfl _ _ _ _ (But.refl _ _) }; have p8 := putRow_all zpk R14.out rfl; rw [← hV9] at p8; clear hV hV9; have P8 := block_cell p8; have hw8 : Below w.heap.size w V8 := (hw13).trans (hb8.below (hw13).size (fun k h e => by omega)); exact bodyPost_ret (v := .tuple #[.agg zpk.toArray, .int .i64 fl]) (by simp [results, Tryz.results27, go_sem, P8, zpk]) rfl ⟨hw8, .inl ⟨by rw [HF.out]; exact HNZ.out, by rw [HF.out]⟩⟩
 subst c3
 have hfit := flt_fit2 HFF.out
 have HF : Hid (rwe pr pr src dst zo.length zd = 0) := by show _ = _; rw [HFL.out, HFF.out]
 have HBY := hide (build_yes tos id ttl pr s d keep (.slice a8 zo.length c8) (.slice a6 zd.length c6) zo (rwD pr s d a b zd) w12 hBo O13.out.rd D13.out.rd hfit.1 hfit.2.1 (by rw [rwD_length]; exact hfit.2.2) ht hid htt hpr hs hd)
 clear hfit
 go_wp2_with fail
 refine HBY.out.mono ?_
 rintro e w13 ⟨bv, rfl, hOb, hb13⟩
 have l13 : Later w12 w13 := hb13
 have P14 := hide ((l13.block w.heap.size (by omega)).trans P13.out)
 have R14 := hide ((l13.block (w.heap.size + 1 + 1) hs12).trans R13.out)
 have O14 := hide (O13.out.later l13)
 have D14 := hide (D13.out.later l13)
 have hw13 : Below w.heap.size w w13 := Later.below hw12 (Nat.le_refl _) l13
 clear kP hOb HBY hb13 l13 P13 R13 O13 D13
 have kP := block_cell P14.out
 have kR := block_cell R14.out
 have fR := block_frozen R14.out
 go_wp2_with fail
 generalize hV : (((((((((w13.setCell ⟨w.heap.size + 1 + 1, 0, none⟩ _).setCell ⟨w.heap.size + 1 + 1, 1, none⟩ _).setCell ⟨w.heap.size + 1 + 1, 2, none⟩ _).setCell ⟨w.heap.size + 1 + 1, 3, none⟩ _).setCell ⟨w.heap.size + 1 + 1, 4, none⟩ _).setCell ⟨w.heap.size + 1 + 1, 5, none⟩ _).setCell ⟨w.heap.size + 1 + 1, 6, none⟩ _).setCell ⟨w.heap.size + 1 + 1, 7, none⟩ _).setCell ⟨w.heap.size + 1 + 1, 8, none⟩ _) = V8
 have hV9 : V8 = putRow w13 (w.heap.size + 1 + 1) 0 [.int .u8 tos, .int .u16 id, .bool keep, .int .u8 ttl, .int .u8 pr, .int .u32 s, .int .u32 d, .slice a8 zo.length c8, .slice a6 zd.length c6] := hV.symm
 have hb8 : But (fun b => b = w.heap.size + 1 + 1) w13 V8 := by rw [hV9]; exact putRow_but (E := fun b => b = w.heap.size + 1 + 1) (n := w.heap.size + 1 + 1) rfl _ _ _ _ (But.refl _ _)
 have p8 := putRow_all [.int .u8 tos, .int .u16 id, .bool keep, .int .u8 ttl, .int .u8 pr, .int .u32 s, .int .u32 d, .slice a8 zo.length c8, .slice a6 zd.length c6] R14.out rfl
 rw [← hV9] at p8
 clear hV hV9
 have P8 := block_cell p8
 have hw8 : Below w.heap.size w V8 := hw13.trans (hb8.below hw13.size (fun k h e => by omega))
 exact bodyPost_ret (v := .tuple #[.agg #[.int .u8 tos, .int .u16 id, .bool keep, .int .u8 ttl, .int .u8 pr, .int .u32 s, .int .u32 d, .slice a8 zo.length c8, .slice a6 zd.length c6], .int .i64 0]) (by simp [results, Tryz.results27, go_sem, P8]) rfl ⟨hw8, .inr ⟨HF.out, a8, c8, a6, c6, rfl, Ow.aside O14.out R14.out (by decide) hb8, Ow.aside D14.out R14.out (by decide) hb8⟩⟩
end Go.Proofs.YtghpakfjpdifaaaGreatDoor

/- Package mangle: Requote. -/
namespace Go.Proofs.YtghpakfjpdifaaaGreatDoor
open Go.RowKit Go.Shelf
set_option maxRecDepth 100000
set_option linter.unusedVariables false
set_option linter.unusedSimpArgs false

/-- What Requote refuses with (0: nothing). -/
def rqe (proto tp : Int) (lo : Nat) (zd : List Int) : Int := if que proto zd ≠ 0 then que proto zd else if qpr (zd.drop 8) ≠ tp then 12 else flt lo (8 + (zd.drop 8).length)
theorem qie_pok {pr : Int} {d : List Int} (h : qie pr d = 0) : pok pr := by
 unfold qie at h
 unfold pok
 split at h
 ·omega
 split at h
 ·omega
 split at h
 ·omega
 split at h
 ·omega
 ·omega
theorem que_zero {proto : Int} {zd : List Int} (h : que proto zd = 0) : pie proto zd = 0 ∧ erb (zd[0]?.getD 0) = true ∧ rde true (zd.drop 8) = 0 ∧ qie (qpr (zd.drop 8)) (qdt (zd.drop 8)) = 0 := by
 unfold que at h
 by_cases h1 : pie proto zd ≠ 0
 ·rw [if_pos h1] at h; exact absurd h h1
 rw [if_neg h1] at h
 by_cases h2 : erb (zd[0]?.getD 0) = false
 ·rw [if_pos h2] at h; exact absurd h (by decide)
 rw [if_neg h2] at h
 by_cases h3 : rde true (zd.drop 8) ≠ 0
 ·rw [if_pos h3] at h; exact absurd h h3
 rw [if_neg h3] at h
 refine ⟨by omega, by simpa using h2, by omega, h⟩
/-- What stands in a quoted packet, as the unit of another tuple. -/
def qun (mz : List Int) (s d a b : Int) : Un := ⟨qpr mz, wat4 mz 12, wat4 mz 16, qia (qpr mz) (qdt mz), qib (qpr mz) (qdt mz), qpr mz, s, d, a, b⟩
theorem wat4_bd9 {zs : List Int} (hB : Mt.By zs) (k : Nat) : 0 ≤ wat4 zs k ∧ wat4 zs k ≤ 4294967295 := by
 have b1 := wat_bd hB k
 have b2 := wat_bd hB (k + 2)
 unfold wat4
 omega
theorem qia_bd {pr : Int} {d : List Int} (hB : Mt.By d) : 0 ≤ qia pr d ∧ qia pr d ≤ 65535 := by
 have h0 := wat_bd hB 0
 have h4 := wat_bd hB 4
 unfold qia
 split
 ·exact h0
 split
 ·exact h0
 split
 ·exact h4
 ·omega
theorem qib_bd {pr : Int} {d : List Int} (hB : Mt.By d) : 0 ≤ qib pr d ∧ qib pr d ≤ 65535 := by
 have h2 := wat_bd hB 2
 have h4 := wat_bd hB 4
 have h6 := wat_bd hB 6
 unfold qib
 split
 ·exact h2
 split
 ·exact h2
 split
 ·exact h4
 ·exact h6

set_option maxHeartbeats 16000000 in
theorem requote_any (tos id ttl pr src dst : Int) (keep : Bool) (so sd : Value) (zo zd : List Int) (ns nd tp s d a b : Int) (w : World) (hT : Tb w) (hBo : Mt.By zo) (hBd : Mt.By zd) (hIo : Rd w.heap.size w so zo) (hId : Rd w.heap.size w sd zd) (hlo : zo.length ≤ 140737488355328) (hl : zd.length ≤ 140737488351232)
  (ht : 0 ≤ tos ∧ tos ≤ 255) (hid : 0 ≤ id ∧ id ≤ 65535) (htt : 0 ≤ ttl ∧ ttl ≤ 255) (hns : 0 ≤ ns ∧ ns ≤ 4294967295) (hnd : 0 ≤ nd ∧ nd ≤ 4294967295) (hs : 0 ≤ s ∧ s ≤ 4294967295) (hd : 0 ≤ d ∧ d ≤ 4294967295) (ha : 0 ≤ a ∧ a ≤ 65535) (hb : 0 ≤ b ∧ b ≤ 65535) :
  Calls Tryz.prog 5 #[.agg #[.int .u8 tos, .int .u16 id, .bool keep, .int .u8 ttl, .int .u8 pr, .int .u32 src, .int .u32 dst, so, sd], .int .u32 ns, .int .u32 nd, .agg #[.int .u8 tp, .int .u32 s, .int .u32 d, .int .u16 a, .int .u16 b]] w fun e w' => Below w.heap.size w w' ∧ ((rqe pr tp zo.length zd ≠ 0 ∧ e = .returned (.tuple #[.agg zpk.toArray, .int .i64 (rqe pr tp zo.length zd)])) ∨
   (rqe pr tp zo.length zd = 0 ∧ ∃ ao co ad cd, e = .returned (.tuple #[.agg #[.int .u8 tos, .int .u16 id, .bool keep, .int .u8 ttl, .int .u8 1, .int .u32 ns, .int .u32 nd, .slice ao zo.length co, .slice ad (8 + (zd.drop 8).length) cd], .int .i64 0]) ∧ Ow w.heap.size w' (.slice ao zo.length co) zo ∧ Ow w.heap.size w' (.slice ad (8 + (zd.drop 8).length) cd) (icm (zd[0]?.getD 0) (zd[1]?.getD 0) (wat4 zd 4) (rqt (qun (zd.drop 8) s d a b) (zd.drop 8))))) := by
 obtain ⟨ao, co, rfl, hlo1, hmo1⟩ := hIo.slice
 obtain ⟨ad, cd, rfl, hl1, hm1⟩ := hId.slice
 have hb0 : Below w.heap.size w (((w.alloc (.cells #[.int .u8 tos, .int .u16 id, .bool keep, .int .u8 ttl, .int .u8 pr, .int .u32 src, .int .u32 dst, .slice ao zo.length co, .slice ad zd.length cd] 26)).alloc (.cells #[.int .u8 tp, .int .u32 s, .int .u32 d, .int .u16 a, .int .u16 b] 29)).alloc (.cells zpk.toArray 26)) := (((Below.refl _ _).alloc (Nat.le_refl _) _).alloc (by simp) _).alloc (by simp <;> omega) _
 have p0 : (((w.alloc (.cells #[.int .u8 tos, .int .u16 id, .bool keep, .int .u8 ttl, .int .u8 pr, .int .u32 src, .int .u32 dst, .slice ao zo.length co, .slice ad zd.length cd] 26)).alloc (.cells #[.int .u8 tp, .int .u32 s, .int .u32 d, .int .u16 a, .int .u16 b] 29)).alloc (.cells zpk.toArray 26)).heap[w.heap.size]? = some (.cells #[.int .u8 tos, .int .u16 id, .bool keep, .int .u8 ttl, .int .u8 pr, .int .u32 src, .int .u32 dst, .slice ao zo.length co, .slice ad zd.length cd] 26) := (Below.heap_alloc _ _ _ (by simp <;> omega)).trans ((Below.heap_alloc _ _ _ (by simp)).trans (heap_alloc_new w _))
 have t0 : (((w.alloc (.cells #[.int .u8 tos, .int .u16 id, .bool keep, .int .u8 ttl, .int .u8 pr, .int .u32 src, .int .u32 dst, .slice ao zo.length co, .slice ad zd.length cd] 26)).alloc (.cells #[.int .u8 tp, .int .u32 s, .int .u32 d, .int .u16 a, .int .u16 b] 29)).alloc (.cells zpk.toArray 26)).heap[w.heap.size + 1]? = some (.cells #[.int .u8 tp, .int .u32 s, .int .u32 d, .int .u16 a, .int .u16 b] 29) := by
  have := heap_alloc_new (w.alloc (.cells #[.int .u8 tos, .int .u16 id, .bool keep, .int .u8 ttl, .int .u8 pr, .int .u32 src, .int .u32 dst, .slice ao zo.length co, .slice ad zd.length cd] 26)) (.cells #[.int .u8 tp, .int .u32 s, .int .u32 d, .int .u16 a, .int .u16 b] 29)
  rw [World.size_alloc] at this
  exact (Below.heap_alloc _ _ _ (by simp)).trans this
 have r0 : (((w.alloc (.cells #[.int .u8 tos, .int .u16 id, .bool keep, .int .u8 ttl, .int .u8 pr, .int .u32 src, .int .u32 dst, .slice ao zo.length co, .slice ad zd.length cd] 26)).alloc (.cells #[.int .u8 tp, .int .u32 s, .int .u32 d, .int .u16 a, .int .u16 b] 29)).alloc (.cells zpk.toArray 26)).heap[w.heap.size + 1 + 1]? = some (.cells zpk.toArray 26) := by
  have := heap_alloc_new ((w.alloc (.cells #[.int .u8 tos, .int .u16 id, .bool keep, .int .u8 ttl, .int .u8 pr, .int .u32 src, .int .u32 dst, .slice ao zo.length co, .slice ad zd.length cd] 26)).alloc (.cells #[.int .u8 tp, .int .u32 s, .int .u32 d, .int .u16 a, .int .u16 b] 29)) (.cells zpk.toArray 26)
  simpa only [World.size_alloc] using this
 have P0 := hide p0
 have T0 := hide t0
 have R0 := hide r0
 clear p0 t0 r0
 go_enter Tryz.func5, Tryz.ntmps5
 go_upto_region 1 with fail
 generalize ((w.alloc _).alloc _).alloc _ = W0 at *
 have kP := block_cell P0.out
 have hs0 : w.heap.size + 1 + 1 < W0.heap.size := (bl9 R0.out)
 go_wp2_with fail
 refine (quoted_any tos id ttl pr src dst keep _ _ zd W0 (hT.below hb0 hT.pos) hBd ((hId.below hb0).mono hb0.size) (by omega)).mono ?_
 clear kP
 unfold quv
 obtain ⟨oe, HO⟩ : ∃ e, Hid (que pr zd = e) := ⟨_, rfl⟩
 rw [HO.out]
 rintro e w1 ⟨hb1, rfl⟩
 have l1 : Later W0 w1 := hb1
 have hw1 : Below w.heap.size w w1 := Later.below hb0 (Nat.le_refl _) l1
 by_cases c2 : oe = 0
 case neg =>
  rw [otv_no c2]
  have t2 : (oe != 0) = true := by simp [c2]
  have HF : Hid (rqe pr tp zo.length zd = oe) := by show _ = _; unfold rqe; rw [HO.out, if_pos c2]
  have HNZ : Hid (oe ≠ 0) := c2
  have r1 := (l1.block (w.heap.size + 1 + 1) hs0).trans R0.out
  have lA := later_alloc' w1 (.cells #[.int .u8 0, .int .u32 0, .int .u32 0, .int .u16 0, .int .u16 0] 29)
  have r2 := (lA.block (w.heap.size + 1 + 1) (bl9 r1)).trans r1
  have hw2 : Below w.heap.size w (w1.alloc (.cells #[.int .u8 0, .int .u32 0, .int .u32 0, .int .u16 0, .int .u16 0] 29)) := Later.below hw1 (Nat.le_refl _) lA
  have R2 := hide r2
  clear c2 r1 r2 lA
  go_upto_region 2 with fail
  generalize w1.alloc _ = w2 at *
  have kR := block_cell R2.out
  have fR := block_frozen R2.out
  go_wp2_with fail
  generalize hV : (((((((((w2.setCell ⟨w.heap.size + 1 + 1, 0, none⟩ _).setCell ⟨w.heap.size + 1 + 1, 1, none⟩ _).setCell ⟨w.heap.size + 1 + 1, 2, none⟩ _).setCell ⟨w.heap.size + 1 + 1, 3, none⟩ _).setCell ⟨w.heap.size + 1 + 1, 4, none⟩ _).setCell ⟨w.heap.size + 1 + 1, 5, none⟩ _).setCell ⟨w.heap.size + 1 + 1, 6, none⟩ _).setCell ⟨w.heap.size + 1 + 1, 7, none⟩ _).setCell ⟨w.heap.size + 1 + 1, 8, none⟩ _) = V8; have hV9 : V8 = putRow w2 (w.heap.size + 1 + 1) 0 zpk := hV.symm; have hb8 : But (fun b => b = w.heap.size + 1 + 1) w2 V8 := by { rw [hV9]; exact putRow_but (E := fun b => b = w.heap.size + 1 + 1) (n := w.heap.size + 1 + 1) rfl _ _ _ _ (But.refl _ _) }; have p8 := putRow_all zpk R2.out rfl; rw [← hV9] at p8; clear hV hV9; have P8 := block_cell p8; have hw8 : Below w.heap.size w V8 := (hw2).trans (hb8.below (hw2).size (fun k h e => by omega)); exact bodyPost_ret (v := .tuple #[.agg zpk.toArray, .int .i64 oe]) (by simp [results, Tryz.results5, go_sem, P8, zpk]) rfl ⟨hw8, .inl ⟨by rw [HF.out]; exact HNZ.out, by rw [HF.out]⟩⟩
 subst c2
 rw [otv_ok]
 obtain ⟨hpi, her, hrd, hqi⟩ := que_zero HO.out
 have hok := qie_pok hqi
 have hBm := hBd.drop 8
 have hx1 := wat4_bd9 hBm 12
 have hx2 := wat4_bd9 hBm 16
 have hx3 := qia_bd (pr := qpr (zd.drop 8)) (By_qdt hBm)
 have hx4 := qib_bd (pr := qpr (zd.drop 8)) (By_qdt hBm)
 have HU : Hid (qun (zd.drop 8) s d a b = ⟨qpr (zd.drop 8), wat4 (zd.drop 8) 12, wat4 (zd.drop 8) 16, qia (qpr (zd.drop 8)) (qdt (zd.drop 8)), qib (qpr (zd.drop 8)) (qdt (zd.drop 8)), qpr (zd.drop 8), s, d, a, b⟩) := rfl
 have HE : Hid (rqe pr tp zo.length zd = if qpr (zd.drop 8) ≠ tp then 12 else flt zo.length (8 + (zd.drop 8).length)) := by show _ = _; unfold rqe; rw [HO.out, if_neg (by simp)]
 generalize qpr (zd.drop 8) = qp at *
 generalize wat4 (zd.drop 8) 12 = xs at *
 generalize wat4 (zd.drop 8) 16 = xd at *
 generalize qia qp (qdt (zd.drop 8)) = xa at *
 generalize qib qp (qdt (zd.drop 8)) = xb at *
 have P1 := hide ((l1.block w.heap.size (by omega)).trans P0.out)
 have T1 := hide ((l1.block (w.heap.size + 1) (by omega)).trans T0.out)
 have R1 := hide ((l1.block (w.heap.size + 1 + 1) hs0).trans R0.out)
 have hs1 : w.heap.size + 1 + 1 < w1.heap.size := Nat.lt_of_lt_of_le hs0 l1.size
 have lA := later_alloc' w1 (.cells #[.int .u8 qp, .int .u32 xs, .int .u32 xd, .int .u16 xa, .int .u16 xb] 29)
 have W2 := hide (heap_alloc_new w1 (.cells #[.int .u8 qp, .int .u32 xs, .int .u32 xd, .int .u16 xa, .int .u16 xb] 29))
 clear P0 T0 R0
 go_upto_region 2 with fail
 generalize w1.alloc _ = w2 at *
 have P2 := hide ((lA.block w.heap.size (by omega)).trans P1.out)
 have T2 := hide ((lA.block (w.heap.size + 1) (by omega)).trans T1.out)
 have R2 := hide ((lA.block (w.heap.size + 1 + 1) hs1).trans R1.out)
 have hs2 : w1.heap.size < w2.heap.size := (bl9 W2.out)
 have hw2 : Below w.heap.size w w2 := Later.below hw1 (Nat.le_refl _) lA
 generalize hgw : w1.heap.size = gw at *
 clear P1 T1 R1 lA l1 hb1 hw1 hgw
 have kT := block_cell T2.out
 have kW := block_cell W2.out
 by_cases c1 : qp = tp
 case neg =>
  have t1 : (qp != tp) = true := by simp [c1]
  have HF : Hid (rqe pr tp zo.length zd = 12) := by show _ = _; rw [HE.out, if_pos c1]
  have HNZ : Hid ((12 : Int) ≠ 0) := by show (12 : Int) ≠ 0; decide
  have kR := block_cell R2.out
  have fR := block_frozen R2.out
  clear c1
  go_wp2_with fail
  generalize hV : (((((((((w2.setCell ⟨w.heap.size + 1 + 1, 0, none⟩ _).setCell ⟨w.heap.size + 1 + 1, 1, none⟩ _).setCell ⟨w.heap.size + 1 + 1, 2, none⟩ _).setCell ⟨w.heap.size + 1 + 1, 3, none⟩ _).setCell ⟨w.heap.size + 1 + 1, 4, none⟩ _).setCell ⟨w.heap.size + 1 + 1, 5, none⟩ _).setCell ⟨w.heap.size + 1 + 1, 6, none⟩ _).setCell ⟨w.heap.size + 1 + 1, 7, none⟩ _).setCell ⟨w.heap.size + 1 + 1, 8, none⟩ _) = V8; have hV9 : V8 = putRow w2 (w.heap.size + 1 + 1) 0 zpk := hV.symm; have hb8 : But (fun b => b = w.heap.size + 1 + 1) w2 V8 := by { rw [hV9]; exact putRow_but (E := fun b => b = w.heap.size + 1 + 1) (n := w.heap.size + 1 + 1) rfl _ _ _ _ (But.refl _ _) }; have p8 := putRow_all zpk R2.out rfl; rw [← hV9] at p8; clear hV hV9; have P8 := block_cell p8; have hw8 : Below w.heap.size w V8 := (hw2).trans (hb8.below (hw2).size (fun k h e => by omega)); exact bodyPost_ret (v := .tuple #[.agg zpk.toArray, .int .i64 12]) (by simp [results, Tryz.results5, go_sem, P8, zpk]) rfl ⟨hw8, .inl ⟨by rw [HF.out]; exact HNZ.out, by rw [HF.out]⟩⟩
 subst c1
 have t1 : (qp != qp) = false := by simp
 have HFL : Hid (rqe pr qp zo.length zd = flt zo.length (8 + (zd.drop 8).length)) := by show _ = _; rw [HE.out, if_neg (by simp)]
 have kP := block_cell P2.out
 go_upto_region 6 with fail
 go_wp2_with fail
 refine (parseIcmp_any tos id ttl pr src dst keep _ _ zd w2 hBd ((hId.below hw2).mono hw2.size) (by omega)).mono ?_
 rintro e w3 ⟨hb3, ⟨hff, rfl⟩ | ⟨hff, a3, c3, rfl, hO3⟩⟩
 ·exact absurd hpi hff
 have hlen : zd.length - 8 = (zd.drop 8).length := by rw [List.length_drop]
 rw [hlen] at hO3 ⊢
 have HLN := hide hlen
 clear hlen kP kT kW hff
 have l3 : Later w2 w3 := hb3
 have hw3 : Below w.heap.size w w3 := Later.below hw2 (Nat.le_refl _) l3
 have hty := Mt.By.at hBd 0
 have hco := Mt.By.at hBd 1
 have hre := wat4_bd9 hBd 4
 generalize h1 : zd[0]?.getD 0 = ty at *
 generalize h2 : zd[1]?.getD 0 = cde at *
 generalize h3 : wat4 zd 4 = rs at *
 have E1 := hide h1
 have E2 := hide h2
 have E3 := hide h3
 clear h1 h2 h3
 have hmz : (zd.drop 8).length ≤ 140737488351232 := by rw [List.length_drop]; omega
 generalize h4 : zd.drop 8 = mz at *
 have E4 := hide h4
 clear h4
 have lM := later_alloc' w3 (.cells #[.int .u8 ty, .int .u8 cde, .int .u32 rs, .slice a3 mz.length c3] 42)
 have M4 := hide (heap_alloc_new w3 (.cells #[.int .u8 ty, .int .u8 cde, .int .u32 rs, .slice a3 mz.length c3] 42))
 have l4 := l3.trans lM
 have P4 := hide ((l4.block w.heap.size (by omega)).trans P2.out)
 have T4 := hide ((l4.block (w.heap.size + 1) (by omega)).trans T2.out)
 have R4 := hide ((l4.block (w.heap.size + 1 + 1) (by omega)).trans R2.out)
 have W4 := hide ((l4.block gw hs2).trans W2.out)
 have O4 := hide (hO3.later lM)
 have hg3 : w.heap.size + 1 + 1 < w3.heap.size := by have := l3.size; omega
 have hw4 : Below w.heap.size w (w3.alloc (.cells #[.int .u8 ty, .int .u8 cde, .int .u32 rs, .slice a3 mz.length c3] 42)) := Later.below hw3 (Nat.le_refl _) lM
 clear hO3 P2 T2 R2 W2 lM l4 hb3
 go_upto_region 7 with fail
 generalize w3.alloc _ = w4 at *
 generalize hgm : w3.heap.size = gm at *
 have hgm4 : gm < w4.heap.size := (bl9 M4.out)
 have hgm2 : w2.heap.size ≤ gm := by rw [← hgm]; exact l3.size
 clear hgm l3 hw3
 have kM := block_cell M4.out
 have kW := block_cell W4.out
 have kT := block_cell T4.out
 have H5 := hide (requoted_any qp xs xd xa xb s d a b (.slice a3 mz.length c3) mz w4 hBm O4.out.rd (by omega) hrd hok hx1 hx2 hx3 hx4 hs hd ha hb)
 go_wp2_with fail
 refine H5.out.mono ?_
 rintro e w5 ⟨x5, c5, rfl, O5, b5⟩
 have l5 : Later w4 w5 := b5
 have M5 := hide ((l5.block gm hgm4).trans M4.out)
 have P5 := hide ((l5.block w.heap.size (by omega)).trans P4.out)
 have R5 := hide ((l5.block (w.heap.size + 1 + 1) (by omega)).trans R4.out)
 have hw5 : Below w.heap.size w w5 := Later.below hw4 (Nat.le_refl _) l5
 have hgm5 : gm < w5.heap.size := Nat.lt_of_lt_of_le hgm4 l5.size
 clear kM kW kT M4 P4 R4 W4 T4 O4 H5 b5 l5 hw4 hgm4
 rw [← HU.out] at O5
 have HRL : Hid ((rqt (qun mz s d a b) mz).length = mz.length) := rqt_length hBm hrd
 have HRB : Hid (Mt.By (rqt (qun mz s d a b) mz)) := by
  refine ((rnm_by (hBm.take _) hs hd).append ((qsD_by (By_qdt hBm) ?_).append (hBm.drop _)))
  exact ⟨hs, hd, ha, hb⟩
 generalize h5 : rqt (qun mz s d a b) mz = rz at *
 have E5 := hide h5
 clear h5
 have M6 := hide (heap_set1 M5.out 3 (.slice x5 mz.length c5))
 have bM : But (fun q => q = gm) w5 (w5.setCell ⟨gm, 3, none⟩ (.slice x5 mz.length c5)) := But.setCell (E := fun q => q = gm) (But.refl _ _) (p := ⟨gm, 3, none⟩) rfl _
 have kM := block_cell M5.out
 have fM := block_frozen M5.out
 go_upto_region 8 with fail
 generalize w5.setCell ⟨gm, 3, none⟩ _ = w6 at *
 have M6' : Hid (w6.heap[gm]? = some (.cells #[.int .u8 ty, .int .u8 cde, .int .u32 rs, .slice x5 mz.length c5] 42)) := by have := M6.out; simp at this; exact this
 have P6 := hide ((bM.block w.heap.size (by omega) (by omega)).trans P5.out)
 have R6 := hide ((bM.block (w.heap.size + 1 + 1) (by omega) (by omega)).trans R5.out)
 have O6 := hide (Ow.aside O5 M5.out (by decide) bM)
 have hw6 : Below w.heap.size w w6 := hw5.trans (bM.below hw5.size (fun k hk e => by omega))
 have hgm6 : gm < w6.heap.size := (bl9 M6'.out)
 clear kM fM M5 M6 P5 R5 O5 hw5 hgm5 bM
 have kP := block_cell P6.out
 have fP := block_frozen P6.out
 have P7 := hide (heap_set1 (heap_set1 P6.out 5 (.int .u32 ns)) 6 (.int .u32 nd))
 have bP : But (fun q => q = w.heap.size) w6 ((w6.setCell ⟨w.heap.size, 5, none⟩ (.int .u32 ns)).setCell ⟨w.heap.size, 6, none⟩ (.int .u32 nd)) := But.setCell (E := fun q => q = w.heap.size) (But.setCell (E := fun q => q = w.heap.size) (But.refl _ _) (p := ⟨w.heap.size, 5, none⟩) rfl _) (p := ⟨w.heap.size, 6, none⟩) rfl _
 go_upto_region 9 with fail
 generalize (w6.setCell ⟨w.heap.size, 5, none⟩ _).setCell ⟨w.heap.size, 6, none⟩ _ = w7 at *
 have P7' : Hid (w7.heap[w.heap.size]? = some (.cells #[.int .u8 tos, .int .u16 id, .bool keep, .int .u8 ttl, .int .u8 pr, .int .u32 ns, .int .u32 nd, .slice ao zo.length co, .slice ad zd.length cd] 26)) := by have := P7.out; simp at this; exact this
 have M7 := hide ((bP.block gm hgm6 (by omega)).trans M6'.out)
 have R7 := hide ((bP.block (w.heap.size + 1 + 1) (by omega) (by omega)).trans R6.out)
 have O7 := hide (Ow.aside O6.out P6.out (by decide) bP)
 have hw7 : Below w.heap.size w w7 := hw6.trans (bP.below hw6.size (fun k hk e => by omega))
 have hs7 : w.heap.size + 1 + 1 < w7.heap.size := (bl9 R7.out)
 clear kP fP P6 P7 M6' R6 O6 hw6 bP hgm6
 have kP := block_cell P7'.out
 have kM := block_cell M7.out
 obtain ⟨fl, HFF⟩ : ∃ f, Hid (flt zo.length (8 + mz.length) = f) := ⟨_, rfl⟩
 have H8 := hide (buildIcmp_any tos id ttl pr ns nd ty cde rs keep (.slice ao zo.length co) (.slice ad zd.length cd) (.slice x5 mz.length c5) zo rz w7 hBo ((hIo.below hw7).mono hw7.size) HRB.out O7.out.rd hlo (by rw [HRL.out]; omega) ht hid htt hns hnd hty hco hre)
 rw [HRL.out, HFF.out] at H8
 go_wp2_with fail
 refine H8.out.mono ?_
 rintro e w8 ⟨hb8', ⟨hf8, rfl⟩ | ⟨hf8, a8, c8, a9, c9, rfl, Oo, Od⟩⟩
 ·have HF : Hid (rqe pr qp zo.length zd = fl) := by show _ = _; rw [HFL.out, HFF.out]
  have HNZ : Hid (fl ≠ 0) := hf8
  have l8 : Later w7 w8 := hb8'
  have R8 := hide ((l8.block (w.heap.size + 1 + 1) hs7).trans R7.out)
  have hw8' : Below w.heap.size w w8 := Later.below hw7 (Nat.le_refl _) l8
  clear kP kM hf8 hb8'
  have kR := block_cell R8.out
  have fR := block_frozen R8.out
  go_wp2_with fail
  generalize hV : (((((((((w8.setCell ⟨w.heap.size + 1 + 1, 0, none⟩ _).setCell ⟨w.heap.size + 1 + 1, 1, none⟩ _).setCell ⟨w.heap.size + 1 + 1, 2, none⟩ _).setCell ⟨w.heap.size + 1 + 1, 3, none⟩ _).setCell ⟨w.heap.size + 1 + 1, 4, none⟩ _).setCell ⟨w.heap.size + 1 + 1, 5, none⟩ _).setCell ⟨w.heap.size + 1 + 1, 6, none⟩ _).setCell ⟨w.heap.size + 1 + 1, 7, none⟩ _).setCell ⟨w.heap.size + 1 + 1, 8, none⟩ _) = V8; have hV9 : V8 = putRow w8 (w.heap.size + 1 + 1) 0 zpk := hV.symm; have hb8 : But (fun b => b = w.heap.size + 1 + 1) w8 V8 := by { rw [hV9]; exact putRow_but (E := fun b => b = w.heap.size + 1 + 1) (n := w.heap.size + 1 + 1) rfl _ _ _ _ (But.refl _ _) }; have p8 := putRow_all zpk R8.out rfl; rw [← hV9] at p8; clear hV hV9; have P8 := block_cell p8; have hw8 : Below w.heap.size w V8 := (hw8').trans (hb8.below (hw8').size (fun k h e => by omega)); exact bodyPost_ret (v := .tuple #[.agg zpk.toArray, .int .i64 fl]) (by simp [results, Tryz.results5, go_sem, P8, zpk]) rfl ⟨hw8, .inl ⟨by rw [HF.out]; exact HNZ.out, by rw [HF.out]⟩⟩
 ·subst hf8
  have HF : Hid (rqe pr qp zo.length zd = 0) := by show _ = _; rw [HFL.out, HFF.out]
  have l8 : Later w7 w8 := hb8'
  have R8 := hide ((l8.block (w.heap.size + 1 + 1) hs7).trans R7.out)
  have hw8' : Below w.heap.size w w8 := Later.below hw7 (Nat.le_refl _) l8
  have OO := hide (Oo.mono hw7.size)
  have OD := hide (Od.mono hw7.size)
  clear kP kM hb8' Oo Od
  have kR := block_cell R8.out
  have fR := block_frozen R8.out
  go_wp2_with fail
  generalize hV : (((((((((w8.setCell ⟨w.heap.size + 1 + 1, 0, none⟩ _).setCell ⟨w.heap.size + 1 + 1, 1, none⟩ _).setCell ⟨w.heap.size + 1 + 1, 2, none⟩ _).setCell ⟨w.heap.size + 1 + 1, 3, none⟩ _).setCell ⟨w.heap.size + 1 + 1, 4, none⟩ _).setCell ⟨w.heap.size + 1 + 1, 5, none⟩ _).setCell ⟨w.heap.size + 1 + 1, 6, none⟩ _).setCell ⟨w.heap.size + 1 + 1, 7, none⟩ _).setCell ⟨w.heap.size + 1 + 1, 8, none⟩ _) = V8
  have hV9 : V8 = putRow w8 (w.heap.size + 1 + 1) 0 [.int .u8 tos, .int .u16 id, .bool keep, .int .u8 ttl, .int .u8 1, .int .u32 ns, .int .u32 nd, .slice a8 zo.length c8, .slice a9 (8 + mz.length) c9] := hV.symm
  have hb8 : But (fun b => b = w.heap.size + 1 + 1) w8 V8 := by rw [hV9]; exact putRow_but (E := fun b => b = w.heap.size + 1 + 1) (n := w.heap.size + 1 + 1) rfl _ _ _ _ (But.refl _ _)
  have p8 := putRow_all [.int .u8 tos, .int .u16 id, .bool keep, .int .u8 ttl, .int .u8 1, .int .u32 ns, .int .u32 nd, .slice a8 zo.length c8, .slice a9 (8 + mz.length) c9] R8.out rfl
  rw [← hV9] at p8
  clear hV hV9
  have P8 := block_cell p8
  rw [← E5.out, ← E1.out, ← E2.out, ← E3.out, ← E4.out] at OD
  rw [← E4.out] at P8
  have hw8 : Below w.heap.size w V8 := hw8'.trans (hb8.below hw8'.size (fun k h e => by omega))
  exact bodyPost_ret (v := .tuple #[.agg #[.int .u8 tos, .int .u16 id, .bool keep, .int .u8 ttl, .int .u8 1, .int .u32 ns, .int .u32 nd, .slice a8 zo.length c8, .slice a9 (8 + (zd.drop 8).length) c9], .int .i64 0]) (by simp only [E4.out] at P8 ⊢; simp [results, Tryz.results5, go_sem, P8]) rfl ⟨hw8, .inr ⟨HF.out, a8, c8, a9, c9, rfl, Ow.aside OO.out R8.out (by decide) hb8, Ow.aside OD.out R8.out (by decide) hb8⟩⟩
end Go.Proofs.YtghpakfjpdifaaaGreatDoor

/- The document's With: a packet with other data, of its own. -/
namespace Go.Proofs.YtghpakfjpdifaaaGreatDoor
open Go.RowKit Go.Shelf
set_option maxRecDepth 100000
set_option linter.unusedVariables false
set_option linter.unusedSimpArgs false

/-- Bytes of one's own stay where another block turns that holds no bytes. -/
theorem Ow.apart {base mb : Nat} {W W' : World} {v : Value} {zs : List Int} {cur : Array Value} {t : TypeId} (h : Ow base W v zs) (hm : W.heap[mb]? = some (.cells cur t (0, 0))) (ht : t ≠ 5) (hb : But (fun b => b = mb) W W') : Ow base W' v zs := by
 rcases h with h | ⟨g, cap, c, h1, h2, h3, h4, h5, h6, h7⟩
 ·exact .inl h
 ·refine .inr ⟨g, cap, c, h1, h2, h3, h4, h5, (hb.block g (bl9 h6) (fun e => ?_)).trans h6, h7⟩
  subst e
  rw [hm] at h6
  simp at h6
  exact ht h6.2

set_option maxHeartbeats 8000000 in
theorem rwith_any (tos id ttl proto src dst pr : Int) (keep : Bool) (so sx : Value) (ad : Option Addr) (ld cd : Nat) (zo zx : List Int) (w : World) (hIo : Rd w.heap.size w so zo) (hIx : Rd w.heap.size w sx zx) (h1 : zo.length ≤ 140737488355328) (h2 : zx.length ≤ 140737488355328) :
  Calls Tryz.prog 33 #[.agg #[.int .u8 tos, .int .u16 id, .bool keep, .int .u8 ttl, .int .u8 proto, .int .u32 src, .int .u32 dst, so, .slice ad ld cd], .int .u8 pr, sx] w fun e w' => Below w.heap.size w w' ∧ ((flt zo.length zx.length ≠ 0 ∧ e = .returned (.tuple #[.agg #[.int .u8 0, .int .u16 0, .bool false, .int .u8 0, .int .u8 0, .int .u32 0, .int .u32 0, .slice none 0 0, .slice none 0 0], .int .i64 (flt zo.length zx.length)])) ∨
   (flt zo.length zx.length = 0 ∧ ∃ a7 c7 a8 c8, e = .returned (.tuple #[.agg #[.int .u8 tos, .int .u16 id, .bool keep, .int .u8 ttl, .int .u8 pr, .int .u32 src, .int .u32 dst, .slice a7 zo.length c7, .slice a8 zx.length c8], .int .i64 0]) ∧ Ow w.heap.size w' (.slice a7 zo.length c7) zo ∧ Ow w.heap.size w' (.slice a8 zx.length c8) zx)) := by
 obtain ⟨ao, co, rfl, _, _⟩ := hIo.slice
 obtain ⟨ax, cx, rfl, _, _⟩ := hIx.slice
 have hb0 : Below w.heap.size w ((w.alloc (.cells #[.int .u8 tos, .int .u16 id, .bool keep, .int .u8 ttl, .int .u8 proto, .int .u32 src, .int .u32 dst, .slice ao zo.length co, .slice ad ld cd] 26)).alloc (.cells #[.int .u8 0, .int .u16 0, .bool false, .int .u8 0, .int .u8 0, .int .u32 0, .int .u32 0, .slice none 0 0, .slice none 0 0] 26)) := ((Below.refl _ _).alloc (Nat.le_refl _) _).alloc (by simp) _
 by_cases c1 : 40 < zo.length
 ·have t1 : (40 : Int) < zo.length := by omega
  have HF : Hid (flt zo.length zx.length = 4) := by show _ = _; unfold flt; rw [if_pos (.inl c1)]
  go_enter Tryz.func33, Tryz.ntmps33
  go_wp2_with fail
  exact bodyPost_ret (v := .tuple #[.agg #[.int .u8 0, .int .u16 0, .bool false, .int .u8 0, .int .u8 0, .int .u32 0, .int .u32 0, .slice none 0 0, .slice none 0 0], .int .i64 4]) (by simp [results, Tryz.results33, go_sem]) rfl ⟨hb0, .inl ⟨by rw [HF.out]; decide, by rw [HF.out]⟩⟩
 ·have t1 : ¬ (40 : Int) < zo.length := by omega
  by_cases c2 : zo.length % 4 = 0
  ·have t2 : ((zo.length : Int) % 4 != 0) = false := by simp; omega
   by_cases c3 : 65535 < 20 + zo.length + zx.length
   ·have t3 : (65535 : Int) < 20 + zo.length + zx.length := by omega
    have HF : Hid (flt zo.length zx.length = 8) := by show _ = _; unfold flt; rw [if_neg (by omega), if_pos c3]
    go_enter Tryz.func33, Tryz.ntmps33
    go_wp2_with fail
    exact bodyPost_ret (v := .tuple #[.agg #[.int .u8 0, .int .u16 0, .bool false, .int .u8 0, .int .u8 0, .int .u32 0, .int .u32 0, .slice none 0 0, .slice none 0 0], .int .i64 8]) (by simp [results, Tryz.results33, go_sem]) rfl ⟨hb0, .inl ⟨by rw [HF.out]; decide, by rw [HF.out]⟩⟩
   ·have t3 : ¬ (65535 : Int) < 20 + zo.length + zx.length := by omega
    have HF : Hid (flt zo.length zx.length = 0) := by show _ = _; unfold flt; rw [if_neg (by omega), if_neg c3]
    go_enter Tryz.func33, Tryz.ntmps33
    obtain ⟨i0, hi, hz0, hz1, hz2⟩ := info_parts info_u8
    go_upto_region 7 with fail
    have p1 : (((w.alloc (.cells #[.int .u8 tos, .int .u16 id, .bool keep, .int .u8 ttl, .int .u8 proto, .int .u32 src, .int .u32 dst, .slice ao zo.length co, .slice ad ld cd] 26)).alloc (.cells #[.int .u8 0, .int .u16 0, .bool false, .int .u8 0, .int .u8 0, .int .u32 0, .int .u32 0, .slice none 0 0, .slice none 0 0] 26)).alloc (.cells #[.int .u8 tos, .int .u16 id, .bool keep, .int .u8 ttl, .int .u8 pr, .int .u32 src, .int .u32 dst, .slice ao zo.length co, .slice ad ld cd] 26)).heap[w.heap.size]? = some (.cells #[.int .u8 tos, .int .u16 id, .bool keep, .int .u8 ttl, .int .u8 proto, .int .u32 src, .int .u32 dst, .slice ao zo.length co, .slice ad ld cd] 26) := (Below.heap_alloc _ _ _ (by simp; omega)).trans ((Below.heap_alloc _ _ _ (by simp)).trans (heap_alloc_new w _))
    have r1 : (((w.alloc (.cells #[.int .u8 tos, .int .u16 id, .bool keep, .int .u8 ttl, .int .u8 proto, .int .u32 src, .int .u32 dst, .slice ao zo.length co, .slice ad ld cd] 26)).alloc (.cells #[.int .u8 0, .int .u16 0, .bool false, .int .u8 0, .int .u8 0, .int .u32 0, .int .u32 0, .slice none 0 0, .slice none 0 0] 26)).alloc (.cells #[.int .u8 tos, .int .u16 id, .bool keep, .int .u8 ttl, .int .u8 pr, .int .u32 src, .int .u32 dst, .slice ao zo.length co, .slice ad ld cd] 26)).heap[w.heap.size + 1]? = some (.cells #[.int .u8 0, .int .u16 0, .bool false, .int .u8 0, .int .u8 0, .int .u32 0, .int .u32 0, .slice none 0 0, .slice none 0 0] 26 (0, 0)) := by
     have := heap_alloc_new (w.alloc (.cells #[.int .u8 tos, .int .u16 id, .bool keep, .int .u8 ttl, .int .u8 proto, .int .u32 src, .int .u32 dst, .slice ao zo.length co, .slice ad ld cd] 26)) (.cells #[.int .u8 0, .int .u16 0, .bool false, .int .u8 0, .int .u8 0, .int .u32 0, .int .u32 0, .slice none 0 0, .slice none 0 0] 26)
     rw [World.size_alloc] at this
     exact (Below.heap_alloc _ _ _ (by simp)).trans this
    have qq : (((w.alloc (.cells #[.int .u8 tos, .int .u16 id, .bool keep, .int .u8 ttl, .int .u8 proto, .int .u32 src, .int .u32 dst, .slice ao zo.length co, .slice ad ld cd] 26)).alloc (.cells #[.int .u8 0, .int .u16 0, .bool false, .int .u8 0, .int .u8 0, .int .u32 0, .int .u32 0, .slice none 0 0, .slice none 0 0] 26)).alloc (.cells #[.int .u8 tos, .int .u16 id, .bool keep, .int .u8 ttl, .int .u8 pr, .int .u32 src, .int .u32 dst, .slice ao zo.length co, .slice ad ld cd] 26)).heap[w.heap.size + 1 + 1]? = some (.cells #[.int .u8 tos, .int .u16 id, .bool keep, .int .u8 ttl, .int .u8 pr, .int .u32 src, .int .u32 dst, .slice ao zo.length co, .slice ad ld cd] 26) := by
     have := heap_alloc_new ((w.alloc (.cells #[.int .u8 tos, .int .u16 id, .bool keep, .int .u8 ttl, .int .u8 proto, .int .u32 src, .int .u32 dst, .slice ao zo.length co, .slice ad ld cd] 26)).alloc (.cells #[.int .u8 0, .int .u16 0, .bool false, .int .u8 0, .int .u8 0, .int .u32 0, .int .u32 0, .slice none 0 0, .slice none 0 0] 26)) (.cells #[.int .u8 tos, .int .u16 id, .bool keep, .int .u8 ttl, .int .u8 pr, .int .u32 src, .int .u32 dst, .slice ao zo.length co, .slice ad ld cd] 26)
     simpa using this
    have hw1 : Below w.heap.size w (((w.alloc (.cells #[.int .u8 tos, .int .u16 id, .bool keep, .int .u8 ttl, .int .u8 proto, .int .u32 src, .int .u32 dst, .slice ao zo.length co, .slice ad ld cd] 26)).alloc (.cells #[.int .u8 0, .int .u16 0, .bool false, .int .u8 0, .int .u8 0, .int .u32 0, .int .u32 0, .slice none 0 0, .slice none 0 0] 26)).alloc (.cells #[.int .u8 tos, .int .u16 id, .bool keep, .int .u8 ttl, .int .u8 pr, .int .u32 src, .int .u32 dst, .slice ao zo.length co, .slice ad ld cd] 26)) := hb0.alloc (by simp; omega) _
    generalize ((w.alloc (.cells #[.int .u8 tos, .int .u16 id, .bool keep, .int .u8 ttl, .int .u8 proto, .int .u32 src, .int .u32 dst, .slice ao zo.length co, .slice ad ld cd] 26)).alloc (.cells #[.int .u8 0, .int .u16 0, .bool false, .int .u8 0, .int .u8 0, .int .u32 0, .int .u32 0, .slice none 0 0, .slice none 0 0] 26)).alloc (.cells #[.int .u8 tos, .int .u16 id, .bool keep, .int .u8 ttl, .int .u8 pr, .int .u32 src, .int .u32 dst, .slice ao zo.length co, .slice ad ld cd] 26) = W1 at *
    have hs1 : w.heap.size + 1 + 1 < W1.heap.size := (bl9 qq)
    clear t1 t2 t3 c1 c2
    have P1 := block_cell (((Below.refl W1.heap.size W1).alloc (Nat.le_refl _) (.cells #[] 5)).block w.heap.size (by omega) |>.trans p1)
    have la2 : Below W1.heap.size W1 (W1.alloc (.cells #[] 5)) := (Below.refl _ _).alloc (Nat.le_refl _) _
    have ra2 : Rd W1.heap.size (W1.alloc (.cells #[] 5)) _ zo := ((hIo.below hw1).mono hw1.size).below la2
    go_upto_region 8 with (at_builtin; refine wpList_app _ rfl (.tmp 33) (.tmp 35) 24 rfl W1.heap.size 5 i0 Tryz.underlying24 hi hz0 hz1 hz2 _ [] rfl (own_empty W1 _) W1.heap.size _ zo rfl ra2 (by simp; omega) (by simp) ?_; intro v2 w2 ho2 hg2; have hb2 := below_app la2 (own_empty W1 _) hg2 (Nat.le_refl _) la2.size; clear hg2; simp only [List.nil_append] at ho2; have hO2 := Ow.of_row ho2; clear ho2; obtain ⟨a2, c2, rfl, hp2, hm2⟩ := hO2.slice; have q2 := (hb2.block (w.heap.size + 1 + 1) (bl9 qq)).trans qq; have Q2 := block_cell q2; have F2 := block_frozen q2)
    have b2 : But (fun b => b = w.heap.size + 1 + 1) w2 (w2.setCell ⟨w.heap.size + 1 + 1, 7, none⟩ (.slice a2 zo.length c2)) := (But.refl (fun b => b = w.heap.size + 1 + 1) _).setCell (p := ⟨w.heap.size + 1 + 1, 7, none⟩) rfl _
    have qq2 : (w2.setCell ⟨w.heap.size + 1 + 1, 7, none⟩ (.slice a2 zo.length c2)).heap[w.heap.size + 1 + 1]? = some (.cells #[.int .u8 tos, .int .u16 id, .bool keep, .int .u8 ttl, .int .u8 pr, .int .u32 src, .int .u32 dst, .slice a2 zo.length c2, .slice ad ld cd] 26 (0, 0)) := heap_set1 q2 7 _
    have hO3 := hO2.apart q2 (by decide) b2
    have r3 := (b2.block (w.heap.size + 1) (Nat.lt_of_lt_of_le (bl9 r1) hb2.size) (by omega)).trans ((hb2.block (w.heap.size + 1) (bl9 r1)).trans r1)
    have hw2 := hw1.trans (hb2.mono hw1.size)
    have hw3 : Below w.heap.size w _ := hw2.trans (b2.below hw2.size (fun k hk e => by omega))
    clear Q2 F2 P1 q2 b2 ra2 la2
    generalize w2.setCell ⟨w.heap.size + 1 + 1, 7, none⟩ (.slice a2 zo.length c2) = W3 at *
    clear qq
    have qq := qq2
    clear qq2
    have la4 : Below W3.heap.size W3 (W3.alloc (.cells #[] 5)) := (Below.refl _ _).alloc (Nat.le_refl _) _
    have ra4 : Rd W3.heap.size (W3.alloc (.cells #[] 5)) _ zx := ((hIx.below hw3).mono hw3.size).below la4
    go_upto_region 9 with (at_builtin; refine wpList_app _ rfl (.tmp 38) (.tmp 39) 24 rfl W3.heap.size 5 i0 Tryz.underlying24 hi hz0 hz1 hz2 _ [] rfl (own_empty W3 _) W3.heap.size _ zx rfl ra4 (by simp; omega) (by simp) ?_; intro v4 w4 ho4 hg4; have hb4 := below_app la4 (own_empty W3 _) hg4 (Nat.le_refl _) la4.size; clear hg4; simp only [List.nil_append] at ho4; have hO4 := Ow.of_row ho4; clear ho4; obtain ⟨a4, c4, rfl, hp4, hm4⟩ := hO4.slice; have q4 := (hb4.block (w.heap.size + 1 + 1) (bl9 qq)).trans qq; have Q4 := block_cell q4; have F4 := block_frozen q4)
    have b4 : But (fun b => b = w.heap.size + 1 + 1) w4 (w4.setCell ⟨w.heap.size + 1 + 1, 8, none⟩ (.slice a4 zx.length c4)) := (But.refl (fun b => b = w.heap.size + 1 + 1) _).setCell (p := ⟨w.heap.size + 1 + 1, 8, none⟩) rfl _
    have qq4 : (w4.setCell ⟨w.heap.size + 1 + 1, 8, none⟩ (.slice a4 zx.length c4)).heap[w.heap.size + 1 + 1]? = some (.cells #[.int .u8 tos, .int .u16 id, .bool keep, .int .u8 ttl, .int .u8 pr, .int .u32 src, .int .u32 dst, .slice a2 zo.length c2, .slice a4 zx.length c4] 26 (0, 0)) := heap_set1 q4 8 _
    have hO5 := hO4.apart q4 (by decide) b4
    have hO6 := (hO3.later hb4).apart q4 (by decide) b4
    have r5 := (b4.block (w.heap.size + 1) (Nat.lt_of_lt_of_le (bl9 r3) hb4.size) (by omega)).trans ((hb4.block (w.heap.size + 1) (bl9 r3)).trans r3)
    have hw4 := hw3.trans (hb4.mono hw3.size)
    have hw5 : Below w.heap.size w _ := hw4.trans (b4.below hw4.size (fun k hk e => by omega))
    clear Q4 F4 q4 b4 ra4 la4
    generalize w4.setCell ⟨w.heap.size + 1 + 1, 8, none⟩ (.slice a4 zx.length c4) = W5 at *
    have hs3 := (bl9 r3)
    have Q5 := block_cell qq4
    have R5 := block_cell r5
    have F5 := block_frozen r5
    go_wp2_with fail
    generalize hV : ((((((((W5.setCell ⟨w.heap.size + 1, 0, none⟩ _).setCell ⟨w.heap.size + 1, 1, none⟩ _).setCell ⟨w.heap.size + 1, 2, none⟩ _).setCell ⟨w.heap.size + 1, 3, none⟩ _).setCell ⟨w.heap.size + 1, 4, none⟩ _).setCell ⟨w.heap.size + 1, 5, none⟩ _).setCell ⟨w.heap.size + 1, 6, none⟩ _).setCell ⟨w.heap.size + 1, 7, none⟩ _).setCell ⟨w.heap.size + 1, 8, none⟩ _ = V8
    have hV9 : V8 = putRow W5 (w.heap.size + 1) 0 [Value.int .u8 tos, .int .u16 id, .bool keep, .int .u8 ttl, .int .u8 pr, .int .u32 src, .int .u32 dst, .slice a2 zo.length c2, .slice a4 zx.length c4] := hV.symm
    have hb8 : But (fun b => b = w.heap.size + 1) W5 V8 := by rw [hV9]; exact putRow_but (E := fun b => b = w.heap.size + 1) (n := w.heap.size + 1) rfl _ _ _ _ (But.refl _ _)
    have p8 := putRow_all [Value.int .u8 tos, .int .u16 id, .bool keep, .int .u8 ttl, .int .u8 pr, .int .u32 src, .int .u32 dst, .slice a2 zo.length c2, .slice a4 zx.length c4] r5 rfl
    rw [← hV9] at p8
    clear hV hV9
    have P8 := block_cell p8
    have hw8 : Below w.heap.size w V8 := (hw5).trans (hb8.below (hw5).size (fun k h e => by omega))
    exact bodyPost_ret (v := .tuple #[.agg #[.int .u8 tos, .int .u16 id, .bool keep, .int .u8 ttl, .int .u8 pr, .int .u32 src, .int .u32 dst, .slice a2 zo.length c2, .slice a4 zx.length c4], .int .i64 0]) (by simp [results, Tryz.results33, go_sem, P8]) rfl (⟨hw8, .inr ⟨HF.out, a2, c2, a4, c4, rfl, (hO6.apart r5 (by decide) hb8).mono (by omega), (hO5.apart r5 (by decide) hb8).mono (by omega)⟩⟩)
  ·have t2 : ((zo.length : Int) % 4 != 0) = true := by simp; omega
   have HF : Hid (flt zo.length zx.length = 4) := by show _ = _; unfold flt; rw [if_pos (.inr c2)]
   go_enter Tryz.func33, Tryz.ntmps33
   go_wp2_with fail
   exact bodyPost_ret (v := .tuple #[.agg #[.int .u8 0, .int .u16 0, .bool false, .int .u8 0, .int .u8 0, .int .u32 0, .int .u32 0, .slice none 0 0, .slice none 0 0], .int .i64 4]) (by simp [results, Tryz.results33, go_sem]) rfl ⟨hb0, .inl ⟨by rw [HF.out]; decide, by rw [HF.out]⟩⟩
end Go.Proofs.YtghpakfjpdifaaaGreatDoor

/- The document's BuildIcmp. -/
namespace Go.Proofs.YtghpakfjpdifaaaGreatDoor
open Go.RowKit Go.Shelf
set_option maxRecDepth 100000
set_option linter.unusedVariables false
set_option linter.unusedSimpArgs false

theorem flt_none (lo : Nat) (h : flt lo 0 ≠ 0) (n : Nat) : flt lo 0 = 4 ∧ flt lo n = 4 := by
 unfold flt at *
 by_cases c : 40 < lo ∨ lo % 4 ≠ 0
 ·rw [if_pos c, if_pos c]; exact ⟨rfl, rfl⟩
 ·rw [if_neg c, if_neg (by omega)] at h
  exact absurd rfl h
theorem flt_some (lo : Nat) (h : flt lo 0 = 0) (n : Nat) : flt lo n = (if 65535 < 20 + lo + n then 8 else 0) := by
 unfold flt at *
 by_cases c : 40 < lo ∨ lo % 4 ≠ 0
 ·rw [if_pos c] at h; exact absurd h (by decide)
 ·rw [if_neg c]
theorem own_four (w : World) (a b c d : Int) : (w.alloc (.cells #[.int .u8 a, .int .u8 b, .int .u8 c, .int .u8 d] 5)).ownsRow w.heap.size 5 1 (.slice (some ⟨w.heap.size, 0, none⟩) 4 4) [a, b, c, d].length ([a, b, c, d].map (Value.int .u8)) :=
 ⟨rfl, .inr ⟨w.heap.size, 4, _, rfl, Nat.le_refl _, heap_alloc_new w _, by simp, by simp [maxLen], rfl, rfl⟩⟩

theorem but_app {base n size : Nat} {e : TypeId} {W W' : World} {v : Value} {xs : List Value} (ho : W.ownsRow base e size v n xs) (hg : W.grownBy W' v.ownBlock) : But (fun b => base ≤ b) W W' :=
 ⟨hg.os, hg.tape, hg.output, hg.size, fun i hi he => hg.block i hi (fun e => he (ho.lt i e.symm).1)⟩

set_option maxHeartbeats 8000000 in
theorem rbuildIcmp_any (tos id ttl proto src dst ty cde rest : Int) (keep : Bool) (so sm : Value) (ad : Option Addr) (ld cd : Nat) (zo zd : List Int) (w : World) (hIo : Rd w.heap.size w so zo) (hBd : Mt.By zd) (hIm : Rd w.heap.size w sm zd)
  (h1 : zo.length ≤ 140737488355328) (h2 : 8 + zd.length ≤ 140737488355328) (hty : 0 ≤ ty ∧ ty ≤ 255) (hco : 0 ≤ cde ∧ cde ≤ 255) (hre : 0 ≤ rest ∧ rest ≤ 4294967295) :
  Calls Tryz.prog 11 #[.agg #[.int .u8 tos, .int .u16 id, .bool keep, .int .u8 ttl, .int .u8 proto, .int .u32 src, .int .u32 dst, so, .slice ad ld cd], .agg #[.int .u8 ty, .int .u8 cde, .int .u32 rest, sm]] w fun e w' => Below w.heap.size w w' ∧ ((flt zo.length (8 + zd.length) ≠ 0 ∧ e = .returned (.tuple #[.agg #[.int .u8 0, .int .u16 0, .bool false, .int .u8 0, .int .u8 0, .int .u32 0, .int .u32 0, .slice none 0 0, .slice none 0 0], .int .i64 (flt zo.length (8 + zd.length))])) ∨
   (flt zo.length (8 + zd.length) = 0 ∧ ∃ a7 c7 a8 c8, e = .returned (.tuple #[.agg #[.int .u8 tos, .int .u16 id, .bool keep, .int .u8 ttl, .int .u8 1, .int .u32 src, .int .u32 dst, .slice a7 zo.length c7, .slice a8 (8 + zd.length) c8], .int .i64 0]) ∧ Ow w.heap.size w' (.slice a7 zo.length c7) zo ∧ Ow w.heap.size w' (.slice a8 (8 + zd.length) c8) (icm ty cde rest zd))) := by
 obtain ⟨ao, co, rfl, _, _⟩ := hIo.slice
 obtain ⟨am, cm, rfl, _, _⟩ := hIm.slice
 have hb0 : Below w.heap.size w (((w.alloc (.cells #[.int .u8 tos, .int .u16 id, .bool keep, .int .u8 ttl, .int .u8 proto, .int .u32 src, .int .u32 dst, .slice ao zo.length co, .slice ad ld cd] 26)).alloc (.cells #[.int .u8 ty, .int .u8 cde, .int .u32 rest, .slice am zd.length cm] 42)).alloc (.cells #[.int .u8 0, .int .u16 0, .bool false, .int .u8 0, .int .u8 0, .int .u32 0, .int .u32 0, .slice none 0 0, .slice none 0 0] 26)) := (((Below.refl _ _).alloc (Nat.le_refl _) _).alloc (by simp) _).alloc (by simp; omega) _
 have p0 : (((w.alloc (.cells #[.int .u8 tos, .int .u16 id, .bool keep, .int .u8 ttl, .int .u8 proto, .int .u32 src, .int .u32 dst, .slice ao zo.length co, .slice ad ld cd] 26)).alloc (.cells #[.int .u8 ty, .int .u8 cde, .int .u32 rest, .slice am zd.length cm] 42)).alloc (.cells #[.int .u8 0, .int .u16 0, .bool false, .int .u8 0, .int .u8 0, .int .u32 0, .int .u32 0, .slice none 0 0, .slice none 0 0] 26)).heap[w.heap.size]? = some (.cells #[.int .u8 tos, .int .u16 id, .bool keep, .int .u8 ttl, .int .u8 proto, .int .u32 src, .int .u32 dst, .slice ao zo.length co, .slice ad ld cd] 26) := (Below.heap_alloc _ _ _ (by simp; omega)).trans ((Below.heap_alloc _ _ _ (by simp)).trans (heap_alloc_new w _))
 have m0 : (((w.alloc (.cells #[.int .u8 tos, .int .u16 id, .bool keep, .int .u8 ttl, .int .u8 proto, .int .u32 src, .int .u32 dst, .slice ao zo.length co, .slice ad ld cd] 26)).alloc (.cells #[.int .u8 ty, .int .u8 cde, .int .u32 rest, .slice am zd.length cm] 42)).alloc (.cells #[.int .u8 0, .int .u16 0, .bool false, .int .u8 0, .int .u8 0, .int .u32 0, .int .u32 0, .slice none 0 0, .slice none 0 0] 26)).heap[w.heap.size + 1]? = some (.cells #[.int .u8 ty, .int .u8 cde, .int .u32 rest, .slice am zd.length cm] 42) := by
  have := heap_alloc_new (w.alloc (.cells #[.int .u8 tos, .int .u16 id, .bool keep, .int .u8 ttl, .int .u8 proto, .int .u32 src, .int .u32 dst, .slice ao zo.length co, .slice ad ld cd] 26)) (.cells #[.int .u8 ty, .int .u8 cde, .int .u32 rest, .slice am zd.length cm] 42)
  rw [World.size_alloc] at this
  exact (Below.heap_alloc _ _ _ (by simp)).trans this
 have r0 : (((w.alloc (.cells #[.int .u8 tos, .int .u16 id, .bool keep, .int .u8 ttl, .int .u8 proto, .int .u32 src, .int .u32 dst, .slice ao zo.length co, .slice ad ld cd] 26)).alloc (.cells #[.int .u8 ty, .int .u8 cde, .int .u32 rest, .slice am zd.length cm] 42)).alloc (.cells #[.int .u8 0, .int .u16 0, .bool false, .int .u8 0, .int .u8 0, .int .u32 0, .int .u32 0, .slice none 0 0, .slice none 0 0] 26)).heap[w.heap.size + 1 + 1]? = some (.cells #[.int .u8 0, .int .u16 0, .bool false, .int .u8 0, .int .u8 0, .int .u32 0, .int .u32 0, .slice none 0 0, .slice none 0 0] 26 (0, 0)) := by
  have := heap_alloc_new ((w.alloc (.cells #[.int .u8 tos, .int .u16 id, .bool keep, .int .u8 ttl, .int .u8 proto, .int .u32 src, .int .u32 dst, .slice ao zo.length co, .slice ad ld cd] 26)).alloc (.cells #[.int .u8 ty, .int .u8 cde, .int .u32 rest, .slice am zd.length cm] 42)) (.cells #[.int .u8 0, .int .u16 0, .bool false, .int .u8 0, .int .u8 0, .int .u32 0, .int .u32 0, .slice none 0 0, .slice none 0 0] 26)
  simpa using this
 have P0 := hide p0
 have M0 := hide m0
 have R0 := hide r0
 clear p0 m0 r0
 go_enter Tryz.func11, Tryz.ntmps11
 go_wp2_with fail
 generalize ((w.alloc (.cells #[.int .u8 tos, .int .u16 id, .bool keep, .int .u8 ttl, .int .u8 proto, .int .u32 src, .int .u32 dst, .slice ao zo.length co, .slice ad ld cd] 26)).alloc (.cells #[.int .u8 ty, .int .u8 cde, .int .u32 rest, .slice am zd.length cm] 42)).alloc (.cells #[.int .u8 0, .int .u16 0, .bool false, .int .u8 0, .int .u8 0, .int .u32 0, .int .u32 0, .slice none 0 0, .slice none 0 0] 26) = w0 at *
 refine (rwith_any tos id ttl proto src dst 1 keep _ _ ad ld cd zo [] w0 ((hIo.below hb0).mono hb0.size) (rd_zero w0) h1 (by simp)).mono ?_
 rintro e w1 ⟨hb1, ⟨hf, rfl⟩ | ⟨hf, a7, c7, a8, c8, rfl, hO1, hD1⟩⟩
 ·obtain ⟨f4, f4'⟩ := flt_none zo.length hf (8 + zd.length)
  rw [show ([] : List Int).length = 0 from rfl, f4]
  have HF := hide f4'
  clear f4 f4' hf
  have l2 : Later w1 (w1.alloc (.cells #[.int .u8 0, .int .u16 0, .bool false, .int .u8 0, .int .u8 0, .int .u32 0, .int .u32 0, .slice none 0 0, .slice none 0 0] 26)) := (Below.refl _ _).alloc (Nat.le_refl _) _
  have l02 := Later.trans hb1 l2
  have r2 := (l02.block (w.heap.size + 1 + 1) (bl9 R0.out)).trans R0.out
  have hw2 := hb0.trans (l02.mono hb0.size)
  have RR := block_cell r2
  have FF := block_frozen r2
  go_wp2_with fail
  generalize w1.alloc (.cells #[.int .u8 0, .int .u16 0, .bool false, .int .u8 0, .int .u8 0, .int .u32 0, .int .u32 0, .slice none 0 0, .slice none 0 0] 26) = w2 at *
  generalize hV : ((((((((w2.setCell ⟨w.heap.size + 1 + 1, 0, none⟩ _).setCell ⟨w.heap.size + 1 + 1, 1, none⟩ _).setCell ⟨w.heap.size + 1 + 1, 2, none⟩ _).setCell ⟨w.heap.size + 1 + 1, 3, none⟩ _).setCell ⟨w.heap.size + 1 + 1, 4, none⟩ _).setCell ⟨w.heap.size + 1 + 1, 5, none⟩ _).setCell ⟨w.heap.size + 1 + 1, 6, none⟩ _).setCell ⟨w.heap.size + 1 + 1, 7, none⟩ _).setCell ⟨w.heap.size + 1 + 1, 8, none⟩ _ = V8
  have hV9 : V8 = putRow w2 (w.heap.size + 1 + 1) 0 [Value.int .u8 0, .int .u16 0, .bool false, .int .u8 0, .int .u8 0, .int .u32 0, .int .u32 0, .slice none 0 0, .slice none 0 0] := hV.symm
  have hb8 : But (fun b => b = w.heap.size + 1 + 1) w2 V8 := by rw [hV9]; exact putRow_but (E := fun b => b = w.heap.size + 1 + 1) (n := w.heap.size + 1 + 1) rfl _ _ _ _ (But.refl _ _)
  have p8 := putRow_all [Value.int .u8 0, .int .u16 0, .bool false, .int .u8 0, .int .u8 0, .int .u32 0, .int .u32 0, .slice none 0 0, .slice none 0 0] r2 rfl
  rw [← hV9] at p8
  clear hV hV9
  have P8 := block_cell p8
  have hw8 : Below w.heap.size w V8 := (hw2).trans (hb8.below (hw2).size (fun k h e => by omega))
  exact bodyPost_ret (v := .tuple #[.agg #[.int .u8 0, .int .u16 0, .bool false, .int .u8 0, .int .u8 0, .int .u32 0, .int .u32 0, .slice none 0 0, .slice none 0 0], .int .i64 4]) (by simp [results, Tryz.results11, go_sem, P8]) rfl (⟨hw8, .inl ⟨by rw [HF.out]; decide, by rw [HF.out]⟩⟩)
 ·have f0 := flt_some zo.length hf (8 + zd.length)
  clear hf
  have l2 : Later w1 (w1.alloc (.cells #[.int .u8 tos, .int .u16 id, .bool keep, .int .u8 ttl, .int .u8 1, .int .u32 src, .int .u32 dst, .slice a7 zo.length c7, .slice a8 ([] : List Int).length c8] 26)) := (Below.refl _ _).alloc (Nat.le_refl _) _
  have l02 := Later.trans hb1 l2
  have p2 := (l02.block w.heap.size (bl9 P0.out)).trans P0.out
  have m2 := (l02.block (w.heap.size + 1) (bl9 M0.out)).trans M0.out
  have r2 := (l02.block (w.heap.size + 1 + 1) (bl9 R0.out)).trans R0.out
  have hw2 := hb0.trans (l02.mono hb0.size)
  have PP := block_cell p2
  have MM := block_cell m2
  rw [show ([] : List Int).length = 0 from rfl] at *
  by_cases c3 : 65535 < 20 + zo.length + (8 + zd.length)
  ·have t3 : (65535 : Int) < 28 + zo.length + zd.length := by omega
   rw [if_pos c3] at f0
   have HF := hide f0
   clear f0 c3
   have RR := block_cell r2
   have FF := block_frozen r2
   go_wp2_with fail
   generalize w1.alloc (.cells #[.int .u8 tos, .int .u16 id, .bool keep, .int .u8 ttl, .int .u8 1, .int .u32 src, .int .u32 dst, .slice a7 zo.length c7, .slice a8 0 c8] 26) = w2 at *
   generalize hV : ((((((((w2.setCell ⟨w.heap.size + 1 + 1, 0, none⟩ _).setCell ⟨w.heap.size + 1 + 1, 1, none⟩ _).setCell ⟨w.heap.size + 1 + 1, 2, none⟩ _).setCell ⟨w.heap.size + 1 + 1, 3, none⟩ _).setCell ⟨w.heap.size + 1 + 1, 4, none⟩ _).setCell ⟨w.heap.size + 1 + 1, 5, none⟩ _).setCell ⟨w.heap.size + 1 + 1, 6, none⟩ _).setCell ⟨w.heap.size + 1 + 1, 7, none⟩ _).setCell ⟨w.heap.size + 1 + 1, 8, none⟩ _ = V8
   have hV9 : V8 = putRow w2 (w.heap.size + 1 + 1) 0 [Value.int .u8 0, .int .u16 0, .bool false, .int .u8 0, .int .u8 0, .int .u32 0, .int .u32 0, .slice none 0 0, .slice none 0 0] := hV.symm
   have hb8 : But (fun b => b = w.heap.size + 1 + 1) w2 V8 := by rw [hV9]; exact putRow_but (E := fun b => b = w.heap.size + 1 + 1) (n := w.heap.size + 1 + 1) rfl _ _ _ _ (But.refl _ _)
   have p8 := putRow_all [Value.int .u8 0, .int .u16 0, .bool false, .int .u8 0, .int .u8 0, .int .u32 0, .int .u32 0, .slice none 0 0, .slice none 0 0] r2 rfl
   rw [← hV9] at p8
   clear hV hV9
   have P8 := block_cell p8
   have hw8 : Below w.heap.size w V8 := (hw2).trans (hb8.below (hw2).size (fun k h e => by omega))
   exact bodyPost_ret (v := .tuple #[.agg #[.int .u8 0, .int .u16 0, .bool false, .int .u8 0, .int .u8 0, .int .u32 0, .int .u32 0, .slice none 0 0, .slice none 0 0], .int .i64 8]) (by simp [results, Tryz.results11, go_sem, P8]) rfl (⟨hw8, .inl ⟨by rw [HF.out]; decide, by rw [HF.out]⟩⟩)
  ·have t3 : ¬ (65535 : Int) < 28 + zo.length + zd.length := by omega
   rw [if_neg c3] at f0
   have HF := hide f0
   clear f0
   go_upto_region 7 with fail
   have hs2 : (w1.alloc (.cells #[.int .u8 tos, .int .u16 id, .bool keep, .int .u8 ttl, .int .u8 1, .int .u32 src, .int .u32 dst, .slice a7 zo.length c7, .slice a8 0 c8] 26)).heap.size = w1.heap.size + 1 := by simp
   generalize w1.alloc (.cells #[.int .u8 tos, .int .u16 id, .bool keep, .int .u8 ttl, .int .u8 1, .int .u32 src, .int .u32 dst, .slice a7 zo.length c7, .slice a8 0 c8] 26) = w2 at *
   have own3 := own_four w2 ty cde 0 0
   have l3 : Later w2 (w2.alloc (.cells #[.int .u8 ty, .int .u8 cde, .int .u8 0, .int .u8 0] 5)) := (Below.refl _ _).alloc (Nat.le_refl _) _
   have hw3 := hw2.trans (l3.mono hw2.size)
   have p3 := (l3.block w.heap.size (bl9 p2)).trans p2
   have m3 := (l3.block (w.heap.size + 1) (bl9 m2)).trans m2
   have r3 := (l3.block (w.heap.size + 1 + 1) (bl9 r2)).trans r2
   clear PP MM l02 p2 m2
   have HW2 := hide hw2
   clear hw2
   rw [hs2] at own3
   have hsr := (bl9 r2)
   rw [hs2] at hsr
   generalize w2.alloc (.cells #[.int .u8 ty, .int .u8 cde, .int .u8 0, .int .u8 0] 5) = w3 at *
   go_cut [8] (fun v wx => wx.ownsRow (w1.heap.size + 1) 5 1 v (icm0 ty cde rest zd).length ((icm0 ty cde rest zd).map (Value.int .u8)) ∧ Below (w1.heap.size + 1) w3 wx)
   case first =>
    refine anyT_begin (R := But (fun b => w1.heap.size + 1 ≤ b)) 9 rfl (by kernel_rfl) ?_
    have hd : Later w3 w3.drew := Later.drew w3
    have hz3 : w1.heap.size + 1 ≤ w3.heap.size := by have := l3.size; omega
    have ownd := row_below own3 hd (Nat.le_refl _)
    have bd : Below (w1.heap.size + 1) w3 w3.drew := hd.mono hz3
    generalize w3.drew = Wd at *
    have ha : ∀ v1, But (fun b => w1.heap.size + 1 ≤ b) Wd v1 → ∀ i, v1.cell? ⟨w.heap.size + 1, i, none⟩ = #[Value.int .u8 ty, .int .u8 cde, .int .u32 rest, .slice am zd.length cm][i]? := fun v1 h => block_cell ((((But.of hd).trans h).block (w.heap.size + 1) (bl9 m3) (by omega)).trans m3)
    refine tV (But.pre _) 0 rfl rfl ?_; apply Exists.intro; refine ⟨fun v1 hv1 => ?_, ?_⟩; (· (go_simp; rfl)); simp only [Act.put, sA, sB, sC]
    refine tV (But.pre _) 1 rfl rfl ?_; apply Exists.intro; refine ⟨fun v1 hv1 => ?_, ?_⟩; (· (go_simp; rfl)); simp only [Act.put, sA, sB, sC]
    refine tV (But.pre _) 2 rfl rfl ?_; apply Exists.intro; refine ⟨fun v1 hv1 => ?_, ?_⟩; (· (go_simp; rfl)); simp only [Act.put, sA, sB, sC]
    refine tV (But.pre _) 5 rfl rfl ?_; apply Exists.intro; refine ⟨fun v1 hv1 => ?_, ?_⟩; (· (go_simp; rfl)); simp only [Act.put, sA, sB, sC]
    refine tV (But.pre _) 6 rfl rfl ?_; apply Exists.intro; refine ⟨fun v1 hv1 => ?_, ?_⟩; (· (go_simp; rfl)); simp only [Act.put, sA, sB, sC]
    refine anyT_one 3 rfl (by kernel_rfl) rfl ?_
    refine wp_enter 34 #[.int .u32 rest] (by go_simp) ?_
    refine (four_any rest hre Wd).mono ?_
    rintro e w4 ⟨rfl, rfl⟩
    have l4 : Later Wd (Wd.alloc (.cells #[.int .u8 (rest / 16777216), .int .u8 (rest / 65536 % 256), .int .u8 (rest / 256 % 256), .int .u8 (rest % 256)] 5)) := (Below.refl _ _).alloc (Nat.le_refl _) _
    have R4 := Rd.new4 (rest / 16777216) (rest / 65536 % 256) (rest / 256 % 256) (rest % 256) 5 Wd
    have own4 := row_below ownd l4 (Nat.le_refl _)
    have hzd : w1.heap.size + 1 ≤ Wd.heap.size := Nat.le_trans hz3 hd.size
    have b4 := bd.trans (l4.mono hzd)
    refine ⟨But.of l4, ?_⟩
    simp only [Act.put, sA, sB, sC]
    generalize Wd.alloc (.cells #[.int .u8 (rest / 16777216), .int .u8 (rest / 65536 % 256), .int .u8 (rest / 256 % 256), .int .u8 (rest % 256)] 5) = W4 at *
    refine anyT_one 4 rfl (by kernel_rfl) rfl ?_
    obtain ⟨i0, hi, hz0, hz1, hz2⟩ := info_parts info_u8
    have hz4 : w1.heap.size + 1 ≤ W4.heap.size := Nat.le_trans hzd l4.size
    obtain ⟨v5, W5, hrun5, hown5, hgr5⟩ := run_app (P := Tryz.prog) W4 24 24 5 (w1.heap.size + 1) i0 Tryz.underlying24 hi hz0 hz1 hz2 _ [ty, cde, 0, 0] own4 (Wd.heap.size + 1) _ [rest / 16777216, rest / 65536 % 256, rest / 256 % 256, rest % 256] R4 (by simp) hz4
    have b5 := below_app b4 own4 hgr5 (Nat.le_refl _) hz4
    have bt5 : But (fun b => w1.heap.size + 1 ≤ b) W4 W5 := but_app own4 hgr5
    clear hgr5
    refine wp_app (.tmp 33) (.tmp 36) 24 rfl _ _ rfl rfl _ W5 hrun5 ⟨bt5, ?_⟩
    simp only [Act.put, sA, sB, sC]
    refine anyT_one 7 rfl (by kernel_rfl) rfl ?_
    have hz5 : w1.heap.size + 1 ≤ W5.heap.size := Nat.le_trans hz4 bt5.size
    have hRm : Rd w.heap.size W5 (.slice am zd.length cm) zd := hIm.below (hw3.trans (b5.mono (by omega)))
    obtain ⟨v6, W6, hrun6, hown6, hgr6⟩ := run_app (P := Tryz.prog) W5 24 24 5 (w1.heap.size + 1) i0 Tryz.underlying24 hi hz0 hz1 hz2 _ _ hown5 w.heap.size _ zd hRm (by simp; omega) hz5
    have b6 := below_app b5 hown5 hgr6 (Nat.le_refl _) hz5
    have bt6 : But (fun b => w1.heap.size + 1 ≤ b) W5 W6 := but_app hown5 hgr6
    clear hgr6
    refine wp_app (.tmp 37) (.tmp 39) 24 rfl _ _ rfl rfl _ W6 hrun6 ⟨bt6, ?_⟩
    simp only [Act.put, sA, sB, sC]
    refine anyT_one 8 rfl (by kernel_rfl) rfl ?_
    unfold Oper.wp
    go_simp
    refine ⟨But.refl _ _, ?_⟩
    refine anyT_done (by kernel_rfl) ?_
    have hlist : [ty, cde, 0, 0] ++ [rest / 16777216, rest / 65536 % 256, rest / 256 % 256, rest % 256] ++ zd = icm0 ty cde rest zd := by
     unfold icm0
     simp
     omega
    rw [hlist] at hown6
    go_wp2_with fail
    go_meet
    case rel => exact ⟨hown6, b6⟩
   case rest =>
    obtain ⟨hown, bc⟩ := hcut
    have hz3 : w1.heap.size + 1 ≤ w3.heap.size := by have := l3.size; omega
    have p4 := (bc.block w.heap.size (by omega)).trans p3
    have r4 := (bc.block (w.heap.size + 1 + 1) (by omega)).trans r3
    have hw4 := hw3.trans (bc.mono (by omega))
    have hO4 := Ow.of_row hown
    obtain ⟨a4, c4, rfl, _, _⟩ := hO4.slice
    clear p3 r3 m3 hown own3 r2
    have hBi := By_icm0 ty cde rest zd hty hco hre hBd
    have hli := icm0_length ty cde rest zd
    have hcb := Mt.cks_bd (icm0 ty cde rest zd)
    have HIC : Hid (putAt2 (icm0 ty cde rest zd) 2 (Mt.cks (icm0 ty cde rest zd)) = icm ty cde rest zd) := by show _ = _; unfold putAt2; rw [if_pos (by rw [hli]; omega)]; rfl
    have hlc := icm_length ty cde rest zd
    have HLI := hide hli
    have HLC := hide hlc
    clear hli hlc
    generalize icm0 ty cde rest zd = bb at *
    go_upto_region 8 with fail
    refine anyT_begin (R := But (fun b => b = w.heap.size + 1 + 1)) 10 rfl (by kernel_rfl) ?_
    have hd : Later wc wc.drew := Later.drew wc
    have p5 := (hd.block w.heap.size (bl9 p4)).trans p4
    have r5 := (hd.block (w.heap.size + 1 + 1) (bl9 r4)).trans r4
    have hw5 := hw4.trans (hd.mono hw4.size)
    have hO5 := hO4.later hd
    generalize wc.drew = Wd at *
    have ha : ∀ v1, But (fun b => b = w.heap.size + 1 + 1) Wd v1 → ∀ i, v1.cell? ⟨w.heap.size, i, none⟩ = #[Value.int .u8 tos, .int .u16 id, .bool keep, .int .u8 ttl, .int .u8 proto, .int .u32 src, .int .u32 dst, .slice ao zo.length co, .slice ad ld cd][i]? := fun v1 h => block_cell ((h.block w.heap.size (bl9 p5) (by omega)).trans p5)
    refine tV (But.pre _) 0 rfl rfl ?_; apply Exists.intro; refine ⟨fun v1 hv1 => ?_, ?_⟩; (· (go_simp; rfl)); simp only [Act.put, sA, sB, sC]
    refine tV (But.pre _) 1 rfl rfl ?_; apply Exists.intro; refine ⟨fun v1 hv1 => ?_, ?_⟩; (· (go_simp; rfl)); simp only [Act.put, sA, sB, sC]
    refine tV (But.pre _) 2 rfl rfl ?_; apply Exists.intro; refine ⟨fun v1 hv1 => ?_, ?_⟩; (· (go_simp; rfl)); simp only [Act.put, sA, sB, sC]
    refine anyT_one 3 rfl (by kernel_rfl) rfl ?_
    refine wp_enter 23 #[.slice a4 bb.length c4] (by go_simp) ?_
    refine (rsum_any _ bb hBi (by have := HLI.out; omega) Wd hO5.rd).mono ?_
    rintro e W6 ⟨rfl, hb6⟩
    have l6 : Later Wd W6 := hb6
    refine ⟨But.of l6, ?_⟩
    simp only [Act.put, sA, sB, sC]
    refine anyT_one 4 rfl (by kernel_rfl) rfl ?_
    refine wp_enter 22 #[.slice a4 bb.length c4, .int .i64 2, .int .u16 (Mt.cks bb)] (by go_simp) ?_
    refine (rput16_any _ bb 2 (Mt.cks bb) (by omega) (by have := HLI.out; omega) W6 (hO5.later l6).rd hcb).mono ?_
    rintro e W7 ⟨rv, rfl, hO7, hb7⟩
    have l7 : Later W6 W7 := hb7
    rw [HIC.out] at hO7
    obtain ⟨a7', c7', rfl, _, _⟩ := hO7.slice
    refine ⟨But.of l7, ?_⟩
    simp only [Act.put, sA, sB, sC]
    refine anyT_one 5 rfl (by kernel_rfl) rfl ?_
    have hw7 := hw5.trans ((Later.trans l6 l7).mono hw5.size)
    refine wp_enter 33 #[.agg #[.int .u8 tos, .int .u16 id, .bool keep, .int .u8 ttl, .int .u8 proto, .int .u32 src, .int .u32 dst, .slice ao zo.length co, .slice ad ld cd], .int .u8 1, .slice a7' (icm ty cde rest zd).length c7'] (by go_simp) ?_
    refine (rwith_any tos id ttl proto src dst 1 keep _ _ ad ld cd zo (icm ty cde rest zd) W7 ((hIo.below hw7).mono hw7.size) hO7.rd h1 (by rw [HLC.out]; omega)).mono ?_
    rw [HLC.out, HF.out]
    rintro e W8 ⟨hb8, ⟨hx, _⟩ | ⟨_, a9, c9, ad9, cd9, rfl, hO9, hD9⟩⟩
    case inl => exact absurd rfl hx
    have l8 : Later W7 W8 := hb8
    refine ⟨But.of l8, ?_⟩
    simp only [Act.put, sA, sB, sC]
    refine tV (But.pre _) 6 rfl rfl ?_; apply Exists.intro; refine ⟨fun v1 hv1 => ?_, ?_⟩; (· (go_simp; rfl)); simp only [Act.put, sA, sB, sC]
    refine tV (But.pre _) 7 rfl rfl ?_; apply Exists.intro; refine ⟨fun v1 hv1 => ?_, ?_⟩; (· (go_simp; rfl)); simp only [Act.put, sA, sB, sC]
    refine anyT_one 8 rfl (by kernel_rfl) rfl ?_
    have l58 := Later.trans l6 (Later.trans l7 l8)
    have r8 := (l58.block (w.heap.size + 1 + 1) (bl9 r5)).trans r5
    have hw8' := hw5.trans (l58.mono hw5.size)
    have k8 := block_cell r8
    have f8 : ∀ j, W8.frozen? ⟨w.heap.size + 1 + 1, j, none⟩ = false := block_frozen r8
    unfold Oper.wp
    go_simp
    generalize hV7 : ((((((((W8.setCell ⟨w.heap.size + 1 + 1, 0, none⟩ _).setCell ⟨w.heap.size + 1 + 1, 1, none⟩ _).setCell ⟨w.heap.size + 1 + 1, 2, none⟩ _).setCell ⟨w.heap.size + 1 + 1, 3, none⟩ _).setCell ⟨w.heap.size + 1 + 1, 4, none⟩ _).setCell ⟨w.heap.size + 1 + 1, 5, none⟩ _).setCell ⟨w.heap.size + 1 + 1, 6, none⟩ _).setCell ⟨w.heap.size + 1 + 1, 7, none⟩ _).setCell ⟨w.heap.size + 1 + 1, 8, none⟩ _ = V7
    have hV8 : V7 = putRow W8 (w.heap.size + 1 + 1) 0 [.int .u8 tos, .int .u16 id, .bool keep, .int .u8 ttl, .int .u8 1, .int .u32 src, .int .u32 dst, .slice a9 zo.length c9, .slice ad9 (8 + zd.length) cd9] := hV7.symm
    have hbV : But (fun b => b = w.heap.size + 1 + 1) W8 V7 := by rw [hV8]; exact putRow_rb _ _
    have pV := putRow_all [Value.int .u8 tos, .int .u16 id, .bool keep, .int .u8 ttl, .int .u8 1, .int .u32 src, .int .u32 dst, .slice a9 zo.length c9, .slice ad9 (8 + zd.length) cd9] r8 rfl
    rw [← hV8] at pV
    clear hV7 hV8 k8 f8
    refine ⟨hbV, ?_⟩
    refine anyT_one 9 rfl (by kernel_rfl) rfl ?_
    unfold Oper.wp
    go_simp
    refine ⟨But.refl _ _, ?_⟩
    refine anyT_done (by kernel_rfl) ?_
    have PV := block_cell pV
    have hwV : Below w.heap.size w V7 := hw8'.trans (hbV.below hw8'.size (fun k hk e => by omega))
    go_wp2_with fail
    exact bodyPost_ret (v := .tuple #[.agg #[.int .u8 tos, .int .u16 id, .bool keep, .int .u8 ttl, .int .u8 1, .int .u32 src, .int .u32 dst, .slice a9 zo.length c9, .slice ad9 (8 + zd.length) cd9], .int .i64 0]) (by simp [results, Tryz.results11, go_sem, PV]) rfl ⟨hwV, .inr ⟨HF.out, a9, c9, ad9, cd9, rfl, (hO9.apart r8 (by decide) hbV).mono hw7.size, (hD9.apart r8 (by decide) hbV).mono hw7.size⟩⟩
end Go.Proofs.YtghpakfjpdifaaaGreatDoor

/- The document's BuildUdp. -/
namespace Go.Proofs.YtghpakfjpdifaaaGreatDoor
open Go.RowKit Go.Shelf
set_option maxRecDepth 100000
set_option linter.unusedVariables false
set_option linter.unusedSimpArgs false


/-- Bytes that grow in a row of the call's own, made behind a world. -/
def Rw (Wb : World) (v : Value) (ys : List Int) (W : World) : Prop := W.ownsRow Wb.heap.size 5 1 v ys.length (ys.map (Value.int .u8)) ∧ Below Wb.heap.size Wb W
theorem Rw.nil {Wb W : World} (h : Later Wb W) : Rw Wb (.slice none 0 0) [] W := ⟨World.ownsRow_nil _ _ _ _, h⟩
theorem Rw.later {Wb W W' : World} {v : Value} {ys : List Int} (h : Rw Wb v ys W) (l : Later W W') : Rw Wb v ys W' := ⟨row_below h.1 l (Nat.le_refl _), h.2.trans (l.mono h.2.size)⟩
theorem Rw.app {Wb W : World} {v : Value} {ys : List Int} (h : Rw Wb v ys W) (ty : TypeId) (n₀ : Nat) (sx : Value) (zs : List Int) (hI : Rd n₀ W sx zs) (hbd : ys.length + zs.length ≤ 140737488355328) :
  ∃ v' W', (Builtin.append_ #[24, 24] ty #[v, sx]).run Tryz.prog W = .ok v' W' ∧ Rw Wb v' (ys ++ zs) W' ∧ But (fun b => Wb.heap.size ≤ b) W W' := by
 obtain ⟨i0, hi, hz0, hz1, hz2⟩ := info_parts info_u8
 obtain ⟨v', W', hr, ho, hg⟩ := run_app (P := Tryz.prog) W 24 ty 5 Wb.heap.size i0 Tryz.underlying24 hi hz0 hz1 hz2 v ys h.1 n₀ sx zs hI hbd h.2.size
 exact ⟨v', W', hr, ⟨ho, below_app h.2 h.1 hg (Nat.le_refl _) h.2.size⟩, but_app h.1 hg⟩
theorem wpList_rw {ops : Array Oper} {rest : List Oper} {o : Oper} {a : Act} {Q : Exit → Act → World → Prop} (w : World) (hgd : o.guard = none) (s x : Operand)
  (ho : o.op = .call { callee := .builtin .append, args := #[s, x], argTypes := #[24, 24] }) {Wb : World} {v : Value} {ys : List Int} (hR : Rw Wb v ys w) (hs : a.eval s = v)
  (n₀ : Nat) (sx : Value) (zs : List Int) (hx : a.eval x = sx) (hI : Rd n₀ w sx zs) (hbd : ys.length + zs.length ≤ 140737488355328)
  (h : ∀ v' w', Rw Wb v' (ys ++ zs) w' → wpList Tryz.prog ops Q rest (a.put o.dst v') w') : wpList Tryz.prog ops Q (o :: rest) a w := by
 obtain ⟨i0, hi, hz0, hz1, hz2⟩ := info_parts info_u8
 exact wpList_app w hgd s x 24 ho Wb.heap.size 5 i0 Tryz.underlying24 hi hz0 hz1 hz2 v ys hs hR.1 n₀ sx zs hx hI hbd hR.2.size (fun v' w' h1 h2 => h v' w' ⟨h1, below_app hR.2 hR.1 h2 (Nat.le_refl _) hR.2.size⟩)
theorem Rw.ow {Wb W : World} {v : Value} {ys : List Int} (h : Rw Wb v ys W) : Ow Wb.heap.size W v ys := Ow.of_row h.1
theorem Rw.block {Wb W : World} {v : Value} {ys : List Int} (h : Rw Wb v ys W) {k : Nat} {o : Obj} (ho : Wb.heap[k]? = some o) : W.heap[k]? = some o := (h.2.block k (bl9 ho)).trans ho
theorem later_two (W : World) (x y : Int) : Later W (W.alloc (.cells #[.int .u8 x, .int .u8 y] 5)) := (Below.refl _ _).alloc (Nat.le_refl _) _

set_option maxHeartbeats 8000000 in
theorem rbuildUdp_any (tos id ttl proto src dst sp dp : Int) (keep bare : Bool) (so sm : Value) (ad : Option Addr) (ld cd : Nat) (zo zm : List Int) (w : World) (hIo : Rd w.heap.size w so zo) (hBd : Mt.By zm) (hIm : Rd w.heap.size w sm zm)
  (h1 : zo.length ≤ 140737488355328) (h2 : 8 + zm.length ≤ 140737488355328) (hsr : 0 ≤ src ∧ src ≤ 4294967295) (hds : 0 ≤ dst ∧ dst ≤ 4294967295) (hsp : 0 ≤ sp ∧ sp ≤ 65535) (hdp : 0 ≤ dp ∧ dp ≤ 65535) :
  Calls Tryz.prog 26 #[.agg #[.int .u8 tos, .int .u16 id, .bool keep, .int .u8 ttl, .int .u8 proto, .int .u32 src, .int .u32 dst, so, .slice ad ld cd], .agg #[.int .u16 sp, .int .u16 dp, .bool bare, sm]] w fun e w' => Below w.heap.size w w' ∧ ((flt zo.length (8 + zm.length) ≠ 0 ∧ e = .returned (.tuple #[.agg #[.int .u8 0, .int .u16 0, .bool false, .int .u8 0, .int .u8 0, .int .u32 0, .int .u32 0, .slice none 0 0, .slice none 0 0], .int .i64 (flt zo.length (8 + zm.length))])) ∨
   (flt zo.length (8 + zm.length) = 0 ∧ ∃ a7 c7 a8 c8, e = .returned (.tuple #[.agg #[.int .u8 tos, .int .u16 id, .bool keep, .int .u8 ttl, .int .u8 17, .int .u32 src, .int .u32 dst, .slice a7 zo.length c7, .slice a8 (8 + zm.length) c8], .int .i64 0]) ∧ Ow w.heap.size w' (.slice a7 zo.length c7) zo ∧ Ow w.heap.size w' (.slice a8 (8 + zm.length) c8) (udp sp dp bare src dst zm))) := by
 obtain ⟨ao, co, rfl, _, _⟩ := hIo.slice
 obtain ⟨am, cm, rfl, _, _⟩ := hIm.slice
 have hb0 : Below w.heap.size w (((w.alloc (.cells #[.int .u8 tos, .int .u16 id, .bool keep, .int .u8 ttl, .int .u8 proto, .int .u32 src, .int .u32 dst, .slice ao zo.length co, .slice ad ld cd] 26)).alloc (.cells #[.int .u16 sp, .int .u16 dp, .bool bare, .slice am zm.length cm] 57)).alloc (.cells #[.int .u8 0, .int .u16 0, .bool false, .int .u8 0, .int .u8 0, .int .u32 0, .int .u32 0, .slice none 0 0, .slice none 0 0] 26)) := (((Below.refl _ _).alloc (Nat.le_refl _) _).alloc (by simp) _).alloc (by simp; omega) _
 have p0 : (((w.alloc (.cells #[.int .u8 tos, .int .u16 id, .bool keep, .int .u8 ttl, .int .u8 proto, .int .u32 src, .int .u32 dst, .slice ao zo.length co, .slice ad ld cd] 26)).alloc (.cells #[.int .u16 sp, .int .u16 dp, .bool bare, .slice am zm.length cm] 57)).alloc (.cells #[.int .u8 0, .int .u16 0, .bool false, .int .u8 0, .int .u8 0, .int .u32 0, .int .u32 0, .slice none 0 0, .slice none 0 0] 26)).heap[w.heap.size]? = some (.cells #[.int .u8 tos, .int .u16 id, .bool keep, .int .u8 ttl, .int .u8 proto, .int .u32 src, .int .u32 dst, .slice ao zo.length co, .slice ad ld cd] 26) := (Below.heap_alloc _ _ _ (by simp; omega)).trans ((Below.heap_alloc _ _ _ (by simp)).trans (heap_alloc_new w _))
 have m0 : (((w.alloc (.cells #[.int .u8 tos, .int .u16 id, .bool keep, .int .u8 ttl, .int .u8 proto, .int .u32 src, .int .u32 dst, .slice ao zo.length co, .slice ad ld cd] 26)).alloc (.cells #[.int .u16 sp, .int .u16 dp, .bool bare, .slice am zm.length cm] 57)).alloc (.cells #[.int .u8 0, .int .u16 0, .bool false, .int .u8 0, .int .u8 0, .int .u32 0, .int .u32 0, .slice none 0 0, .slice none 0 0] 26)).heap[w.heap.size + 1]? = some (.cells #[.int .u16 sp, .int .u16 dp, .bool bare, .slice am zm.length cm] 57) := by
  have := heap_alloc_new (w.alloc (.cells #[.int .u8 tos, .int .u16 id, .bool keep, .int .u8 ttl, .int .u8 proto, .int .u32 src, .int .u32 dst, .slice ao zo.length co, .slice ad ld cd] 26)) (.cells #[.int .u16 sp, .int .u16 dp, .bool bare, .slice am zm.length cm] 57)
  rw [World.size_alloc] at this
  exact (Below.heap_alloc _ _ _ (by simp)).trans this
 have r0 : (((w.alloc (.cells #[.int .u8 tos, .int .u16 id, .bool keep, .int .u8 ttl, .int .u8 proto, .int .u32 src, .int .u32 dst, .slice ao zo.length co, .slice ad ld cd] 26)).alloc (.cells #[.int .u16 sp, .int .u16 dp, .bool bare, .slice am zm.length cm] 57)).alloc (.cells #[.int .u8 0, .int .u16 0, .bool false, .int .u8 0, .int .u8 0, .int .u32 0, .int .u32 0, .slice none 0 0, .slice none 0 0] 26)).heap[w.heap.size + 1 + 1]? = some (.cells #[.int .u8 0, .int .u16 0, .bool false, .int .u8 0, .int .u8 0, .int .u32 0, .int .u32 0, .slice none 0 0, .slice none 0 0] 26 (0, 0)) := by
  have := heap_alloc_new ((w.alloc (.cells #[.int .u8 tos, .int .u16 id, .bool keep, .int .u8 ttl, .int .u8 proto, .int .u32 src, .int .u32 dst, .slice ao zo.length co, .slice ad ld cd] 26)).alloc (.cells #[.int .u16 sp, .int .u16 dp, .bool bare, .slice am zm.length cm] 57)) (.cells #[.int .u8 0, .int .u16 0, .bool false, .int .u8 0, .int .u8 0, .int .u32 0, .int .u32 0, .slice none 0 0, .slice none 0 0] 26)
  simpa using this
 have P0 := hide p0
 have M0 := hide m0
 have R0 := hide r0
 clear p0 m0 r0
 go_enter Tryz.func26, Tryz.ntmps26
 go_wp2_with fail
 generalize ((w.alloc (.cells #[.int .u8 tos, .int .u16 id, .bool keep, .int .u8 ttl, .int .u8 proto, .int .u32 src, .int .u32 dst, .slice ao zo.length co, .slice ad ld cd] 26)).alloc (.cells #[.int .u16 sp, .int .u16 dp, .bool bare, .slice am zm.length cm] 57)).alloc (.cells #[.int .u8 0, .int .u16 0, .bool false, .int .u8 0, .int .u8 0, .int .u32 0, .int .u32 0, .slice none 0 0, .slice none 0 0] 26) = w0 at *
 refine (rwith_any tos id ttl proto src dst 17 keep _ _ ad ld cd zo [] w0 ((hIo.below hb0).mono hb0.size) (rd_zero w0) h1 (by simp)).mono ?_
 rintro e w1 ⟨hb1, ⟨hf, rfl⟩ | ⟨hf, a7, c7, a8, c8, rfl, hO1, hD1⟩⟩
 ·obtain ⟨f4, f4'⟩ := flt_none zo.length hf (8 + zm.length)
  rw [show ([] : List Int).length = 0 from rfl, f4]
  have HF := hide f4'
  clear f4 f4' hf
  have l2 : Later w1 (w1.alloc (.cells #[.int .u8 0, .int .u16 0, .bool false, .int .u8 0, .int .u8 0, .int .u32 0, .int .u32 0, .slice none 0 0, .slice none 0 0] 26)) := (Below.refl _ _).alloc (Nat.le_refl _) _
  have l02 := Later.trans hb1 l2
  have r2 := (l02.block (w.heap.size + 1 + 1) (bl9 R0.out)).trans R0.out
  have hw2 := hb0.trans (l02.mono hb0.size)
  have RR := block_cell r2
  have FF := block_frozen r2
  go_wp2_with fail
  generalize w1.alloc (.cells #[.int .u8 0, .int .u16 0, .bool false, .int .u8 0, .int .u8 0, .int .u32 0, .int .u32 0, .slice none 0 0, .slice none 0 0] 26) = w2 at *
  generalize hV : ((((((((w2.setCell ⟨w.heap.size + 1 + 1, 0, none⟩ _).setCell ⟨w.heap.size + 1 + 1, 1, none⟩ _).setCell ⟨w.heap.size + 1 + 1, 2, none⟩ _).setCell ⟨w.heap.size + 1 + 1, 3, none⟩ _).setCell ⟨w.heap.size + 1 + 1, 4, none⟩ _).setCell ⟨w.heap.size + 1 + 1, 5, none⟩ _).setCell ⟨w.heap.size + 1 + 1, 6, none⟩ _).setCell ⟨w.heap.size + 1 + 1, 7, none⟩ _).setCell ⟨w.heap.size + 1 + 1, 8, none⟩ _ = V8
  have hV9 : V8 = putRow w2 (w.heap.size + 1 + 1) 0 [Value.int .u8 0, .int .u16 0, .bool false, .int .u8 0, .int .u8 0, .int .u32 0, .int .u32 0, .slice none 0 0, .slice none 0 0] := hV.symm
  have hb8 : But (fun b => b = w.heap.size + 1 + 1) w2 V8 := by rw [hV9]; exact putRow_but (E := fun b => b = w.heap.size + 1 + 1) (n := w.heap.size + 1 + 1) rfl _ _ _ _ (But.refl _ _)
  have p8 := putRow_all [Value.int .u8 0, .int .u16 0, .bool false, .int .u8 0, .int .u8 0, .int .u32 0, .int .u32 0, .slice none 0 0, .slice none 0 0] r2 rfl
  rw [← hV9] at p8
  clear hV hV9
  have P8 := block_cell p8
  have hw8 : Below w.heap.size w V8 := (hw2).trans (hb8.below (hw2).size (fun k h e => by omega))
  exact bodyPost_ret (v := .tuple #[.agg #[.int .u8 0, .int .u16 0, .bool false, .int .u8 0, .int .u8 0, .int .u32 0, .int .u32 0, .slice none 0 0, .slice none 0 0], .int .i64 4]) (by simp [results, Tryz.results26, go_sem, P8]) rfl (⟨hw8, .inl ⟨by rw [HF.out]; decide, by rw [HF.out]⟩⟩)
 ·have f0 := flt_some zo.length hf (8 + zm.length)
  clear hf
  have l2 : Later w1 (w1.alloc (.cells #[.int .u8 tos, .int .u16 id, .bool keep, .int .u8 ttl, .int .u8 17, .int .u32 src, .int .u32 dst, .slice a7 zo.length c7, .slice a8 ([] : List Int).length c8] 26)) := (Below.refl _ _).alloc (Nat.le_refl _) _
  have l02 := Later.trans hb1 l2
  have p2 := (l02.block w.heap.size (bl9 P0.out)).trans P0.out
  have m2 := (l02.block (w.heap.size + 1) (bl9 M0.out)).trans M0.out
  have r2 := (l02.block (w.heap.size + 1 + 1) (bl9 R0.out)).trans R0.out
  have hw2 := hb0.trans (l02.mono hb0.size)
  have PP := block_cell p2
  have MM := block_cell m2
  rw [show ([] : List Int).length = 0 from rfl] at *
  by_cases c3 : 65535 < 20 + zo.length + (8 + zm.length)
  ·have t3 : (65535 : Int) < 28 + zo.length + zm.length := by omega
   rw [if_pos c3] at f0
   have HF := hide f0
   clear f0 c3
   have RR := block_cell r2
   have FF := block_frozen r2
   go_wp2_with fail
   generalize w1.alloc (.cells #[.int .u8 tos, .int .u16 id, .bool keep, .int .u8 ttl, .int .u8 17, .int .u32 src, .int .u32 dst, .slice a7 zo.length c7, .slice a8 0 c8] 26) = w2 at *
   generalize hV : ((((((((w2.setCell ⟨w.heap.size + 1 + 1, 0, none⟩ _).setCell ⟨w.heap.size + 1 + 1, 1, none⟩ _).setCell ⟨w.heap.size + 1 + 1, 2, none⟩ _).setCell ⟨w.heap.size + 1 + 1, 3, none⟩ _).setCell ⟨w.heap.size + 1 + 1, 4, none⟩ _).setCell ⟨w.heap.size + 1 + 1, 5, none⟩ _).setCell ⟨w.heap.size + 1 + 1, 6, none⟩ _).setCell ⟨w.heap.size + 1 + 1, 7, none⟩ _).setCell ⟨w.heap.size + 1 + 1, 8, none⟩ _ = V8
   have hV9 : V8 = putRow w2 (w.heap.size + 1 + 1) 0 [Value.int .u8 0, .int .u16 0, .bool false, .int .u8 0, .int .u8 0, .int .u32 0, .int .u32 0, .slice none 0 0, .slice none 0 0] := hV.symm
   have hb8 : But (fun b => b = w.heap.size + 1 + 1) w2 V8 := by rw [hV9]; exact putRow_but (E := fun b => b = w.heap.size + 1 + 1) (n := w.heap.size + 1 + 1) rfl _ _ _ _ (But.refl _ _)
   have p8 := putRow_all [Value.int .u8 0, .int .u16 0, .bool false, .int .u8 0, .int .u8 0, .int .u32 0, .int .u32 0, .slice none 0 0, .slice none 0 0] r2 rfl
   rw [← hV9] at p8
   clear hV hV9
   have P8 := block_cell p8
   have hw8 : Below w.heap.size w V8 := (hw2).trans (hb8.below (hw2).size (fun k h e => by omega))
   exact bodyPost_ret (v := .tuple #[.agg #[.int .u8 0, .int .u16 0, .bool false, .int .u8 0, .int .u8 0, .int .u32 0, .int .u32 0, .slice none 0 0, .slice none 0 0], .int .i64 8]) (by simp [results, Tryz.results26, go_sem, P8]) rfl (⟨hw8, .inl ⟨by rw [HF.out]; decide, by rw [HF.out]⟩⟩)
  ·have t3 : ¬ (65535 : Int) < 28 + zo.length + zm.length := by omega
   rw [if_neg c3] at f0
   have HF := hide f0
   clear f0
   go_upto_region 7 with fail
   generalize w1.alloc (.cells #[.int .u8 tos, .int .u16 id, .bool keep, .int .u8 ttl, .int .u8 17, .int .u32 src, .int .u32 dst, .slice a7 zo.length c7, .slice a8 0 c8] 26) = w2 at *
   clear PP MM l02 hb0
   have hsr2 := (bl9 r2)
   go_cut [8] (fun v wx => Rw w2 v ([sp, dp].flatMap b2) wx)
   case first =>
    refine anyT_begin (R := But (fun b => w2.heap.size ≤ b)) 10 rfl (by kernel_rfl) ?_
    have R0 : Rw w2 (.slice none 0 0) [] w2.drew := Rw.nil (Later.drew w2)
    have md := R0.block m2
    generalize w2.drew = Wd at *
    have ha : ∀ v1, But (fun b => w2.heap.size ≤ b) Wd v1 → ∀ i, v1.cell? ⟨w.heap.size + 1, i, none⟩ = #[Value.int .u16 sp, .int .u16 dp, .bool bare, .slice am zm.length cm][i]? := fun v1 h => block_cell ((h.block (w.heap.size + 1) (bl9 md) (by omega)).trans md)
    refine tV (But.pre _) 0 rfl rfl ?_; apply Exists.intro; refine ⟨fun v1 hv1 => ?_, ?_⟩; (· (go_simp; rfl)); simp only [Act.put, sA, sB, sC]
    refine tV (But.pre _) 1 rfl rfl ?_; apply Exists.intro; refine ⟨fun v1 hv1 => ?_, ?_⟩; (· (go_simp; rfl)); simp only [Act.put, sA, sB, sC]
    refine tV (But.pre _) 2 rfl rfl ?_; apply Exists.intro; refine ⟨fun v1 hv1 => ?_, ?_⟩; (· (go_simp; rfl)); simp only [Act.put, sA, sB, sC]
    refine tV (But.pre _) 5 rfl rfl ?_; apply Exists.intro; refine ⟨fun v1 hv1 => ?_, ?_⟩; (· (go_simp; rfl)); simp only [Act.put, sA, sB, sC]
    refine tV (But.pre _) 6 rfl rfl ?_; apply Exists.intro; refine ⟨fun v1 hv1 => ?_, ?_⟩; (· (go_simp; rfl)); simp only [Act.put, sA, sB, sC]
    refine anyT_one 3 rfl (by kernel_rfl) rfl ?_
    refine wp_enter 68 #[.int .u16 sp] (by go_simp) ?_
    refine (two_any sp hsp Wd).mono ?_
    rintro e w4 ⟨rfl, rfl⟩
    have R4 := R0.later (later_two Wd (sp / 256) (sp % 256))
    have X4 := Rd.new2 (sp / 256) (sp % 256) 5 Wd
    refine ⟨But.of (later_two Wd _ _), ?_⟩
    simp only [Act.put, sA, sB, sC]
    generalize Wd.alloc (.cells #[.int .u8 (sp / 256), .int .u8 (sp % 256)] 5) = W4 at *
    refine anyT_one 4 rfl (by kernel_rfl) rfl ?_
    obtain ⟨v5, W5, hrun5, R5, bt5⟩ := R4.app 24 _ _ _ X4 (by simp)
    refine wp_app (.tmp 29) (.tmp 32) 24 rfl _ _ rfl rfl _ W5 hrun5 ⟨bt5, ?_⟩
    simp only [Act.put, sA, sB, sC]
    refine anyT_one 7 rfl (by kernel_rfl) rfl ?_
    refine wp_enter 68 #[.int .u16 dp] (by go_simp) ?_
    refine (two_any dp hdp W5).mono ?_
    rintro e w4 ⟨rfl, rfl⟩
    have R6 := R5.later (later_two W5 (dp / 256) (dp % 256))
    have X6 := Rd.new2 (dp / 256) (dp % 256) 5 W5
    refine ⟨But.of (later_two W5 _ _), ?_⟩
    simp only [Act.put, sA, sB, sC]
    generalize W5.alloc (.cells #[.int .u8 (dp / 256), .int .u8 (dp % 256)] 5) = W6 at *
    refine anyT_one 8 rfl (by kernel_rfl) rfl ?_
    obtain ⟨v7, W7, hrun7, R7, bt7⟩ := R6.app 24 _ _ _ X6 (by simp)
    refine wp_app (.tmp 33) (.tmp 36) 24 rfl _ _ rfl rfl _ W7 hrun7 ⟨bt7, ?_⟩
    simp only [Act.put, sA, sB, sC]
    refine anyT_one 9 rfl (by kernel_rfl) rfl ?_
    unfold Oper.wp
    go_simp
    refine ⟨But.refl _ _, ?_⟩
    refine anyT_done (by kernel_rfl) ?_
    clear ha hrun5 hrun7
    go_wp2_with fail
    go_meet
    case rel => exact R7
   case rest =>
    have R3 : Rw w2 _ ([sp, dp].flatMap b2) wc := hcut
    clear hcut
    have mc := block_cell (R3.block m2)
    have hl8 : (8 + (zm.length : Int)) % 65536 = 8 + zm.length := by omega
    have hw8 : 8 + (zm.length : Int) ≤ 65535 := by omega
    go_wp2_with fail
    refine (two_any (8 + zm.length) (by omega) wc).mono ?_
    rintro e w4 ⟨rfl, rfl⟩
    have R4 := R3.later (later_two wc ((8 + zm.length) / 256) ((8 + zm.length) % 256))
    have X4 := Rd.new2 ((8 + (zm.length : Int)) / 256) ((8 + zm.length) % 256) 5 wc
    clear mc
    generalize wc.alloc (.cells #[.int .u8 ((8 + (zm.length : Int)) / 256), .int .u8 ((8 + zm.length) % 256)] 5) = W4 at *
    generalize some (⟨wc.heap.size, 0, none⟩ : Addr) = a4 at *
    go_wp2_with (at_builtin; go_loud (refine wpList_rw _ rfl (.tmp 38) (.tmp 44) rfl R4 rfl _ _ _ rfl X4 (by simp [b2]) ?_; intro v5 W5 R5; refine Hid.out ?_))
    have R6 := R5.later (later_two W5 0 0)
    have X6 := Rd.new2 0 0 5 W5
    show wpList _ _ _ _ _ _
    go_wp2_with (at_builtin; go_loud (refine wpList_rw _ rfl (.tmp 45) (.tmp 46) rfl R6 rfl _ _ _ rfl X6 (by simp [b2]) ?_; intro v7 W7 R7; refine Hid.out ?_))
    have m7 := block_cell (R7.block m2)
    have hRm : Rd w.heap.size W7 (.slice am zm.length cm) zm := hIm.below (hw2.trans (R7.2.mono hw2.size))
    show wpList _ _ _ _ _ _
    go_wp2_with (at_builtin; go_loud (refine wpList_rw _ rfl (.tmp 48) (.tmp 50) rfl R7 rfl _ _ _ rfl hRm (by simp [b2]; omega) ?_; intro v8 W8 R8; refine Hid.out ?_))
    have hlist : (([sp, dp].flatMap b2 ++ [(8 + (zm.length : Int)) / 256, (8 + zm.length) % 256]) ++ [0, 0]) ++ zm = udp0 sp dp zm := by unfold udp0; rw [hl8]; simp [b2]
    rw [hlist] at R8
    have m8 := block_cell (R8.block m2)
    have p8 := block_cell (R8.block p2)
    have r8 := R8.block r2
    have hO8 := R8.ow
    have hw8' := hw2.trans (R8.2.mono hw2.size)
    clear m7 R3 R4 R5 R6 R7 X4 X6 hRm hlist
    show wpList _ _ _ _ _ _
    have pb := R8.block p2
    obtain ⟨a8', c8', rfl, _, _⟩ := hO8.slice
    have hBu : Mt.By (udp0 sp dp zm) := By_udp0 sp dp zm hsp hdp hBd
    have hlu := udp0_length sp dp zm
    have HLC := hide (udp_length sp dp bare src dst zm)
    have HLU := hide hlu
    clear hlu
    have hz : 8 + zm.length ≤ 65535 := by omega
    clear hl8 t3 hw8 R8
    cases bare
    ·have HUD : Hid (putAt2 (udp0 sp dp zm) 6 (usm src dst 17 (udp0 sp dp zm)) = udp sp dp false src dst zm) := by show _ = _; unfold putAt2 udp; rw [if_pos (by rw [HLU.out]; omega)]; rfl
     have hub := usm_bd src dst 17 (udp0 sp dp zm)
     generalize udp0 sp dp zm = bb at *
     go_wp2_with fail
     refine (rsum3_any tos id ttl proto src dst 17 keep _ _ _ bb W8 hBu hO8.rd (by rw [HLU.out]; omega) (by omega) hsr hds).mono ?_
     rintro e W9 ⟨rfl, hb9⟩
     have HU : Hid (usm src dst 17 bb = if Mt.cks (psd src dst 17 bb.length ++ bb) = 0 then 65535 else Mt.cks (psd src dst 17 bb.length ++ bb)) := rfl
     generalize Mt.cks (psd src dst 17 bb.length ++ bb) = c at *
     by_cases hc : c = 0
     ·subst hc
      rw [show usm src dst 17 bb = 65535 from HU.out] at HUD
      clear HU hub
      go_wp2_with fail
      refine (rput16_any _ bb 6 65535 (by omega) (by rw [HLU.out]; omega) W9 (hO8.later hb9).rd (by omega)).mono ?_
      rintro e W10 ⟨rv, rfl, hO10, hb10⟩
      rw [HUD.out] at hO10
      obtain ⟨a10, c10, rfl, _, _⟩ := hO10.slice
      have l10 : Later W8 W10 := Later.trans hb9 hb10
      have p10 := block_cell (later_keep l10 pb)
      go_wp2_with fail
      have pn := block_cell (later_keep l10 pb)
      have rn := later_keep l10 r8
      have hwn := hw8'.trans ((l10).mono hw8'.size)
      refine (rwith_any tos id ttl proto src dst 17 keep _ _ ad ld cd zo (udp sp dp false src dst zm) W10 ((hIo.below hwn).mono hwn.size) hO10.rd h1 (by rw [HLC.out]; omega)).mono ?_
      rw [HLC.out, HF.out]
      rintro e WX ⟨hbX, ⟨hx, _⟩ | ⟨_, a9, c9, ad9, cd9, rfl, hO9, hD9⟩⟩
      case inl => exact absurd rfl hx
      have rX := later_keep hbX rn
      have hwX := hwn.trans (hbX.mono hwn.size)
      have kX := block_cell rX
      have fX := block_frozen rX
      clear pn m8 p8
      go_wp2_with fail
      generalize hV : ((((((((WX.setCell ⟨w.heap.size + 1 + 1, 0, none⟩ _).setCell ⟨w.heap.size + 1 + 1, 1, none⟩ _).setCell ⟨w.heap.size + 1 + 1, 2, none⟩ _).setCell ⟨w.heap.size + 1 + 1, 3, none⟩ _).setCell ⟨w.heap.size + 1 + 1, 4, none⟩ _).setCell ⟨w.heap.size + 1 + 1, 5, none⟩ _).setCell ⟨w.heap.size + 1 + 1, 6, none⟩ _).setCell ⟨w.heap.size + 1 + 1, 7, none⟩ _).setCell ⟨w.heap.size + 1 + 1, 8, none⟩ _ = V
      have hV8 : V = putRow WX (w.heap.size + 1 + 1) 0 [.int .u8 tos, .int .u16 id, .bool keep, .int .u8 ttl, .int .u8 17, .int .u32 src, .int .u32 dst, .slice a9 zo.length c9, .slice ad9 (8 + zm.length) cd9] := hV.symm
      have hbV : But (fun b => b = w.heap.size + 1 + 1) WX V := by rw [hV8]; exact putRow_rb _ _
      have pV := putRow_all [Value.int .u8 tos, .int .u16 id, .bool keep, .int .u8 ttl, .int .u8 17, .int .u32 src, .int .u32 dst, .slice a9 zo.length c9, .slice ad9 (8 + zm.length) cd9] rX rfl
      rw [← hV8] at pV
      clear hV hV8 kX fX
      have PV := block_cell pV
      have hwV : Below w.heap.size w V := hwX.trans (hbV.below hwX.size (fun k hk e => by omega))
      exact bodyPost_ret (v := .tuple #[.agg #[.int .u8 tos, .int .u16 id, .bool keep, .int .u8 ttl, .int .u8 17, .int .u32 src, .int .u32 dst, .slice a9 zo.length c9, .slice ad9 (8 + zm.length) cd9], .int .i64 0]) (by simp [results, Tryz.results26, go_sem, PV]) rfl ⟨hwV, .inr ⟨HF.out, a9, c9, ad9, cd9, rfl, (hO9.apart rX (by decide) hbV).mono hwn.size, (hD9.apart rX (by decide) hbV).mono hwn.size⟩⟩
     ·have hu : usm src dst 17 bb = c := HU.out.trans (if_neg hc)
      rw [hu] at HUD hub
      have hc' : (c == 0) = false := by simp [hc]
      clear HU hu hc
      go_wp2_with fail
      refine (rput16_any _ bb 6 c (by omega) (by rw [HLU.out]; omega) W9 (hO8.later hb9).rd (by omega)).mono ?_
      rintro e W10 ⟨rv, rfl, hO10, hb10⟩
      rw [HUD.out] at hO10
      obtain ⟨a10, c10, rfl, _, _⟩ := hO10.slice
      have l10 : Later W8 W10 := Later.trans hb9 hb10
      have p10 := block_cell (later_keep l10 pb)
      go_wp2_with fail
      have pn := block_cell (later_keep l10 pb)
      have rn := later_keep l10 r8
      have hwn := hw8'.trans ((l10).mono hw8'.size)
      refine (rwith_any tos id ttl proto src dst 17 keep _ _ ad ld cd zo (udp sp dp false src dst zm) W10 ((hIo.below hwn).mono hwn.size) hO10.rd h1 (by rw [HLC.out]; omega)).mono ?_
      rw [HLC.out, HF.out]
      rintro e WX ⟨hbX, ⟨hx, _⟩ | ⟨_, a9, c9, ad9, cd9, rfl, hO9, hD9⟩⟩
      case inl => exact absurd rfl hx
      have rX := later_keep hbX rn
      have hwX := hwn.trans (hbX.mono hwn.size)
      have kX := block_cell rX
      have fX := block_frozen rX
      clear pn m8 p8
      go_wp2_with fail
      generalize hV : ((((((((WX.setCell ⟨w.heap.size + 1 + 1, 0, none⟩ _).setCell ⟨w.heap.size + 1 + 1, 1, none⟩ _).setCell ⟨w.heap.size + 1 + 1, 2, none⟩ _).setCell ⟨w.heap.size + 1 + 1, 3, none⟩ _).setCell ⟨w.heap.size + 1 + 1, 4, none⟩ _).setCell ⟨w.heap.size + 1 + 1, 5, none⟩ _).setCell ⟨w.heap.size + 1 + 1, 6, none⟩ _).setCell ⟨w.heap.size + 1 + 1, 7, none⟩ _).setCell ⟨w.heap.size + 1 + 1, 8, none⟩ _ = V
      have hV8 : V = putRow WX (w.heap.size + 1 + 1) 0 [.int .u8 tos, .int .u16 id, .bool keep, .int .u8 ttl, .int .u8 17, .int .u32 src, .int .u32 dst, .slice a9 zo.length c9, .slice ad9 (8 + zm.length) cd9] := hV.symm
      have hbV : But (fun b => b = w.heap.size + 1 + 1) WX V := by rw [hV8]; exact putRow_rb _ _
      have pV := putRow_all [Value.int .u8 tos, .int .u16 id, .bool keep, .int .u8 ttl, .int .u8 17, .int .u32 src, .int .u32 dst, .slice a9 zo.length c9, .slice ad9 (8 + zm.length) cd9] rX rfl
      rw [← hV8] at pV
      clear hV hV8 kX fX
      have PV := block_cell pV
      have hwV : Below w.heap.size w V := hwX.trans (hbV.below hwX.size (fun k hk e => by omega))
      exact bodyPost_ret (v := .tuple #[.agg #[.int .u8 tos, .int .u16 id, .bool keep, .int .u8 ttl, .int .u8 17, .int .u32 src, .int .u32 dst, .slice a9 zo.length c9, .slice ad9 (8 + zm.length) cd9], .int .i64 0]) (by simp [results, Tryz.results26, go_sem, PV]) rfl ⟨hwV, .inr ⟨HF.out, a9, c9, ad9, cd9, rfl, (hO9.apart rX (by decide) hbV).mono hwn.size, (hD9.apart rX (by decide) hbV).mono hwn.size⟩⟩
    ·rw [show udp0 sp dp zm = udp sp dp true src dst zm from rfl] at *
     go_wp2_with fail
     have pn := block_cell (later_keep (Later.refl W8) pb)
     have rn := later_keep (Later.refl W8) r8
     have hwn := hw8'.trans (((Later.refl W8)).mono hw8'.size)
     refine (rwith_any tos id ttl proto src dst 17 keep _ _ ad ld cd zo (udp sp dp true src dst zm) W8 ((hIo.below hwn).mono hwn.size) hO8.rd h1 (by rw [HLC.out]; omega)).mono ?_
     rw [HLC.out, HF.out]
     rintro e WX ⟨hbX, ⟨hx, _⟩ | ⟨_, a9, c9, ad9, cd9, rfl, hO9, hD9⟩⟩
     case inl => exact absurd rfl hx
     have rX := later_keep hbX rn
     have hwX := hwn.trans (hbX.mono hwn.size)
     have kX := block_cell rX
     have fX := block_frozen rX
     clear pn m8 p8
     go_wp2_with fail
     generalize hV : ((((((((WX.setCell ⟨w.heap.size + 1 + 1, 0, none⟩ _).setCell ⟨w.heap.size + 1 + 1, 1, none⟩ _).setCell ⟨w.heap.size + 1 + 1, 2, none⟩ _).setCell ⟨w.heap.size + 1 + 1, 3, none⟩ _).setCell ⟨w.heap.size + 1 + 1, 4, none⟩ _).setCell ⟨w.heap.size + 1 + 1, 5, none⟩ _).setCell ⟨w.heap.size + 1 + 1, 6, none⟩ _).setCell ⟨w.heap.size + 1 + 1, 7, none⟩ _).setCell ⟨w.heap.size + 1 + 1, 8, none⟩ _ = V
     have hV8 : V = putRow WX (w.heap.size + 1 + 1) 0 [.int .u8 tos, .int .u16 id, .bool keep, .int .u8 ttl, .int .u8 17, .int .u32 src, .int .u32 dst, .slice a9 zo.length c9, .slice ad9 (8 + zm.length) cd9] := hV.symm
     have hbV : But (fun b => b = w.heap.size + 1 + 1) WX V := by rw [hV8]; exact putRow_rb _ _
     have pV := putRow_all [Value.int .u8 tos, .int .u16 id, .bool keep, .int .u8 ttl, .int .u8 17, .int .u32 src, .int .u32 dst, .slice a9 zo.length c9, .slice ad9 (8 + zm.length) cd9] rX rfl
     rw [← hV8] at pV
     clear hV hV8 kX fX
     have PV := block_cell pV
     have hwV : Below w.heap.size w V := hwX.trans (hbV.below hwX.size (fun k hk e => by omega))
     exact bodyPost_ret (v := .tuple #[.agg #[.int .u8 tos, .int .u16 id, .bool keep, .int .u8 ttl, .int .u8 17, .int .u32 src, .int .u32 dst, .slice a9 zo.length c9, .slice ad9 (8 + zm.length) cd9], .int .i64 0]) (by simp [results, Tryz.results26, go_sem, PV]) rfl ⟨hwV, .inr ⟨HF.out, a9, c9, ad9, cd9, rfl, (hO9.apart rX (by decide) hbV).mono hwn.size, (hD9.apart rX (by decide) hbV).mono hwn.size⟩⟩
end Go.Proofs.YtghpakfjpdifaaaGreatDoor

/- The document's answers for packets: Right, Same, header, Build. -/
namespace Go.Proofs.YtghpakfjpdifaaaGreatDoor
open Go.RowKit Go.Shelf
set_option maxRecDepth 100000
set_option linter.unusedVariables false

end Go.Proofs.YtghpakfjpdifaaaGreatDoor
