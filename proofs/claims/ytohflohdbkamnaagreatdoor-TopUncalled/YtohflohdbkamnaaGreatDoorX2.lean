/- Several texts in one. -/
import Derived.Test.YtohflohdbkamnaaGreatDoorX3
import Derived.Laws.Cover3
import Derived.MapKept
import Derived.Test.YtohflohdbkamnaaGreatDoorW1
import Derived.Test.YtohflohdbkamnaaGreatDoorRg
import Derived.Deep.DeepCutAuto
import Derived.Deep.CutBlock
import Derived.Test.YtohflohdbkamnaaGreatDoorX11
import Derived.Test.YtohflohdbkamnaaGreatDoorX10
import Derived.Test.YtohflohdbkamnaaGreatDoorX9
import Derived.Test.YtohflohdbkamnaaGreatDoorX8
import Derived.Test.YtohflohdbkamnaaGreatDoorX4
import Derived.Test.YtohflohdbkamnaaGreatDoorX5
import Derived.OrdersIn
import Derived.RangeFuncCalls
/- Layer 5: Quoted. -/
namespace Go.Proofs.YtohflohdbkamnaaGreatDoor
open Go.RowKit Go.Shelf
set_option maxRecDepth 100000
set_option linter.unusedVariables false
set_option linter.unusedSimpArgs false

def erb (ty : Int) : Bool := ty == 3 || (ty == 11 || ty == 12)
/-- What a quoted packet's data are; its protocol. -/
def qdt (mz : List Int) : List Int := (mz.take (ral true mz).toNat).drop (hl4 mz).toNat
def qpr (mz : List Int) : Int := mz[9]?.getD 0
def qie (pr : Int) (d : List Int) : Int := if pr = 6 then 0 else if pr = 17 then 0 else if pr = 1 then (if ecb (d[0]?.getD 0) (d[1]?.getD 0) = true then 0 else 12) else if pr = 47 then (if pge 47 (d.take 8) = 4 then 4 else 0) else 12
def qia (pr : Int) (d : List Int) : Int := if pr = 6 then wat d 0 else if pr = 17 then wat d 0 else if pr = 1 then wat d 4 else 0
def qib (pr : Int) (d : List Int) : Int := if pr = 6 then wat d 2 else if pr = 17 then wat d 2 else if pr = 1 then wat d 4 else wat d 6
def que (proto : Int) (zd : List Int) : Int := if pie proto zd ≠ 0 then pie proto zd else if erb (zd[0]?.getD 0) = false then 12 else if rde true (zd.drop 8) ≠ 0 then rde true (zd.drop 8) else qie (qpr (zd.drop 8)) (qdt (zd.drop 8))

set_option maxHeartbeats 4000000 in
theorem quoted_bad (tos id ttl proto src dst : Int) (keep : Bool) (so sd : Value) (zd : List Int) (w : World) (hT : Tb w) (hB : Mt.By zd) (hI : Rd w.heap.size w sd zd) (hl : zd.length ≤ 140737488355328) (hbad : pie proto zd ≠ 0 ∨ erb (zd[0]?.getD 0) = false ∨ rde true (zd.drop 8) ≠ 0) :
    Calls Tryz.prog 128 #[.agg #[.int .u8 tos, .int .u16 id, .bool keep, .int .u8 ttl, .int .u8 proto, .int .u32 src, .int .u32 dst, so, sd]] w fun e w' => Below w.heap.size w w' ∧ e = .returned (.tuple #[.agg #[.int .u8 0, .int .u32 0, .int .u32 0, .int .u16 0, .int .u16 0], .int .i64 (que proto zd)]) := by
  obtain ⟨ad, cd, rfl, _, _⟩ := hI.slice
  have hb0 : Below w.heap.size w ((w.alloc (.cells #[.int .u8 tos, .int .u16 id, .bool keep, .int .u8 ttl, .int .u8 proto, .int .u32 src, .int .u32 dst, so, .slice ad zd.length cd] 78)).alloc (.cells #[.int .u8 0, .int .u32 0, .int .u32 0, .int .u16 0, .int .u16 0] 69)) := ((Below.refl _ _).alloc (Nat.le_refl _) _).alloc (by simp) _
  have r0 := heap_alloc_new (w.alloc (.cells #[.int .u8 tos, .int .u16 id, .bool keep, .int .u8 ttl, .int .u8 proto, .int .u32 src, .int .u32 dst, so, .slice ad zd.length cd] 78)) (.cells #[.int .u8 0, .int .u32 0, .int .u32 0, .int .u16 0, .int .u16 0] 69)
  rw [World.size_alloc] at r0
  have R0 := hide r0
  clear r0
  go_enter Tryz.func128, Tryz.ntmps128
  go_wp2_with fail
  generalize ((w.alloc (.cells #[.int .u8 tos, .int .u16 id, .bool keep, .int .u8 ttl, .int .u8 proto, .int .u32 src, .int .u32 dst, so, .slice ad zd.length cd] 78)).alloc (.cells #[.int .u8 0, .int .u32 0, .int .u32 0, .int .u16 0, .int .u16 0] 69)) = w0 at *
  refine (parseIcmp_any tos id ttl proto src dst keep _ _ zd w0 hB ((hI.below hb0).mono hb0.size) hl).mono ?_
  rintro e w1 ⟨hb1, ⟨hf, rfl⟩ | ⟨hf, a1, c1, rfl, hO⟩⟩
  · rw [show zm.toArray = #[.int .u8 0, .int .u8 0, .int .u32 0, .slice none 0 0] from rfl]
    have HQ : Hid (que proto zd = pie proto zd) := if_pos hf
    generalize hpu : pie proto zd = f at *
    have hne : (f != 0) = true := by simp [hf]
    clear hpu hf hbad
    have la : Later w1 (w1.alloc (.cells #[.int .u8 0, .int .u8 0, .int .u32 0, .slice none 0 0] 154)) := (Below.refl _ _).alloc (Nat.le_refl _) _
    have l1 := Later.trans hb1 la
    have rX := later_keep l1 R0.out
    have hwX := hb0.trans (l1.mono hb0.size)
    have kX := block_cell rX
    have fX := block_frozen rX
    go_wp2_with fail
    generalize w1.alloc (.cells #[.int .u8 0, .int .u8 0, .int .u32 0, .slice none 0 0] 154) = W at *
    generalize hV : ((((W.setCell ⟨w.heap.size + 1, 0, none⟩ _).setCell ⟨w.heap.size + 1, 1, none⟩ _).setCell ⟨w.heap.size + 1, 2, none⟩ _).setCell ⟨w.heap.size + 1, 3, none⟩ _).setCell ⟨w.heap.size + 1, 4, none⟩ _ = V
    have hV8 : V = putRow W (w.heap.size + 1) 0 [.int .u8 0, .int .u32 0, .int .u32 0, .int .u16 0, .int .u16 0] := hV.symm
    have hbV : But (fun b => b = w.heap.size + 1) W V := by rw [hV8]; exact putRow_but (E := fun b => b = w.heap.size + 1) (n := w.heap.size + 1) rfl _ _ _ _ (But.refl _ _)
    have pV := putRow_all ([.int .u8 0, .int .u32 0, .int .u32 0, .int .u16 0, .int .u16 0] : List Value) rX rfl
    rw [← hV8] at pV
    clear hV hV8 kX fX
    have PV := block_cell pV
    have hwV : Below w.heap.size w V := hwX.trans (hbV.below hwX.size (fun k hk e => by omega))
    exact bodyPost_ret (v := .tuple #[.agg #[.int .u8 0, .int .u32 0, .int .u32 0, .int .u16 0, .int .u16 0], .int .i64 f]) (by simp [results, Tryz.results128, go_sem, PV]) rfl ⟨hwV, by rw [HQ.out]⟩
  · have la : Later w1 (w1.alloc (.cells #[.int .u8 (zd[0]?.getD 0), .int .u8 (zd[1]?.getD 0), .int .u32 (wat4 zd 4), .slice a1 (zd.length - 8) c1] 154)) := (Below.refl _ _).alloc (Nat.le_refl _) _
    have l1 := Later.trans hb1 la
    have mW := heap_alloc_new w1 (.cells #[.int .u8 (zd[0]?.getD 0), .int .u8 (zd[1]?.getD 0), .int .u32 (wat4 zd 4), .slice a1 (zd.length - 8) c1] 154)
    have rW := later_keep l1 R0.out
    have hwW := hb0.trans (l1.mono hb0.size)
    have DW := hO.ck (CK.of la)
    have HPF := hide hf
    clear hf
    go_wp2_with fail
    generalize w1.alloc (.cells #[.int .u8 (zd[0]?.getD 0), .int .u8 (zd[1]?.getD 0), .int .u32 (wat4 zd 4), .slice a1 (zd.length - 8) c1] 154) = W at *
    generalize w1.heap.size = gm at *
    refine (isError_any (zd[0]?.getD 0) (zd[1]?.getD 0) (wat4 zd 4) _ W).mono ?_
    have HER : Hid (erb (zd[0]?.getD 0) = (zd[0]?.getD 0 == 3 || (zd[0]?.getD 0 == 11 || zd[0]?.getD 0 == 12))) := rfl
    generalize (zd[0]?.getD 0 == 3 || (zd[0]?.getD 0 == 11 || zd[0]?.getD 0 == 12)) = bq at *
    rintro e w2 ⟨rfl, hb2⟩
    have l2 : Later W w2 := hb2
    have r2 := later_keep l2 rW
    have hw2 := hwW.trans (hb2.mono hwW.size)
    cases bq with
    | false =>
      have HQ : Hid (que proto zd = 12) := by show _ = _; unfold que; rw [if_neg (fun h => h HPF.out), if_pos HER.out]
      clear hbad
      have rX := r2
      have hwX := hw2
      have kX := block_cell rX
      have fX := block_frozen rX
      go_wp2_with fail
      generalize hV : ((((w2.setCell ⟨w.heap.size + 1, 0, none⟩ _).setCell ⟨w.heap.size + 1, 1, none⟩ _).setCell ⟨w.heap.size + 1, 2, none⟩ _).setCell ⟨w.heap.size + 1, 3, none⟩ _).setCell ⟨w.heap.size + 1, 4, none⟩ _ = V
      have hV8 : V = putRow w2 (w.heap.size + 1) 0 [.int .u8 0, .int .u32 0, .int .u32 0, .int .u16 0, .int .u16 0] := hV.symm
      have hbV : But (fun b => b = w.heap.size + 1) w2 V := by rw [hV8]; exact putRow_but (E := fun b => b = w.heap.size + 1) (n := w.heap.size + 1) rfl _ _ _ _ (But.refl _ _)
      have pV := putRow_all ([.int .u8 0, .int .u32 0, .int .u32 0, .int .u16 0, .int .u16 0] : List Value) rX rfl
      rw [← hV8] at pV
      clear hV hV8 kX fX
      have PV := block_cell pV
      have hwV : Below w.heap.size w V := hwX.trans (hbV.below hwX.size (fun k hk e => by omega))
      exact bodyPost_ret (v := .tuple #[.agg #[.int .u8 0, .int .u32 0, .int .u32 0, .int .u16 0, .int .u16 0], .int .i64 12]) (by simp [results, Tryz.results128, go_sem, PV]) rfl ⟨hwV, by rw [HQ.out]⟩
    | true =>
      have hrd : rde true (zd.drop 8) ≠ 0 := by
        rcases hbad with h | h | h
        · exact absurd HPF.out h
        · rw [HER.out] at h; cases h
        · exact h
      clear hbad
      have HQ : Hid (que proto zd = rde true (zd.drop 8)) := by show _ = _; unfold que; rw [if_neg (fun h => h HPF.out), if_neg (by rw [HER.out]; decide), if_pos hrd]
      have km := block_cell (later_keep l2 mW)
      have D2 := DW.ck (CK.of l2)
      go_wp2_with fail
      clear km
      refine (quote_any _ (zd.drop 8) w2 (hB.drop 8) (by simp; omega) D2.rd).mono ?_
      rintro e w3 ⟨hb3, ⟨hf3, rfl⟩ | ⟨hf3, _⟩⟩
      · rw [show zc.toArray = #[.int .u8 0, .int .u16 0, .bool false, .int .u8 0, .int .u8 0, .int .u32 0, .int .u32 0, .slice none 0 0, .slice none 0 0] from rfl]
        generalize hpu : rde true (zd.drop 8) = f at *
        have hne : (f != 0) = true := by simp [hrd]
        clear hpu hrd hf3
        have la3 : Later w3 (w3.alloc (.cells #[.int .u8 0, .int .u16 0, .bool false, .int .u8 0, .int .u8 0, .int .u32 0, .int .u32 0, .slice none 0 0, .slice none 0 0] 78)) := (Below.refl _ _).alloc (Nat.le_refl _) _
        have l3 := Later.trans hb3 la3
        have rX := later_keep l3 r2
        have hwX := hw2.trans (l3.mono hw2.size)
        have kX := block_cell rX
        have fX := block_frozen rX
        go_wp2_with fail
        generalize w3.alloc (.cells #[.int .u8 0, .int .u16 0, .bool false, .int .u8 0, .int .u8 0, .int .u32 0, .int .u32 0, .slice none 0 0, .slice none 0 0] 78) = W3 at *
        generalize hV : ((((W3.setCell ⟨w.heap.size + 1, 0, none⟩ _).setCell ⟨w.heap.size + 1, 1, none⟩ _).setCell ⟨w.heap.size + 1, 2, none⟩ _).setCell ⟨w.heap.size + 1, 3, none⟩ _).setCell ⟨w.heap.size + 1, 4, none⟩ _ = V
        have hV8 : V = putRow W3 (w.heap.size + 1) 0 [.int .u8 0, .int .u32 0, .int .u32 0, .int .u16 0, .int .u16 0] := hV.symm
        have hbV : But (fun b => b = w.heap.size + 1) W3 V := by rw [hV8]; exact putRow_but (E := fun b => b = w.heap.size + 1) (n := w.heap.size + 1) rfl _ _ _ _ (But.refl _ _)
        have pV := putRow_all ([.int .u8 0, .int .u32 0, .int .u32 0, .int .u16 0, .int .u16 0] : List Value) rX rfl
        rw [← hV8] at pV
        clear hV hV8 kX fX
        have PV := block_cell pV
        have hwV : Below w.heap.size w V := hwX.trans (hbV.below hwX.size (fun k hk e => by omega))
        exact bodyPost_ret (v := .tuple #[.agg #[.int .u8 0, .int .u32 0, .int .u32 0, .int .u16 0, .int .u16 0], .int .i64 f]) (by simp [results, Tryz.results128, go_sem, PV]) rfl ⟨hwV, by rw [HQ.out]⟩
      · exact absurd hf3 hrd

set_option maxHeartbeats 8000000 in
theorem quoted_gen (pr x1 y1 e0 : Int) (fw fb : FuncId) (tos id ttl proto src dst : Int) (keep : Bool) (so sd : Value) (zd : List Int) (w : World) (hT : Tb w) (hB : Mt.By zd) (hI : Rd w.heap.size w sd zd) (hl : zd.length ≤ 140737488355328) (hpi : pie proto zd = 0) (her : erb (zd[0]?.getD 0) = true) (hrd : rde true (zd.drop 8) = 0) (hpr : (zd.drop 8)[9]?.getD 0 = pr) (h8 : 8 ≤ (qdt (zd.drop 8)).length)
    (hlk0 : ∀ (w : World) (b : Nat), w.heap[b]? = some (.map rdE 4) → (Instr.lookup 243 (.map (some b)) (.int .u8 pr) true).run Tryz.prog w = .ok (.tuple #[.agg #[.func (.func fw) #[] #[], .func (.func fb) #[] #[]], .bool true]) w)
    (hcf : ∀ (args : Array Value) (w : World), (callFunc fb args).run Tryz.prog w = .ok (.enter fb args) w)
    (hf : ∀ w', Below w.heap.size w w' → Calls Tryz.prog fb #[.agg #[.int .u8 ((qdt (zd.drop 8))[0]?.getD 0), .int .u8 ((qdt (zd.drop 8))[1]?.getD 0), .int .u8 ((qdt (zd.drop 8))[2]?.getD 0), .int .u8 ((qdt (zd.drop 8))[3]?.getD 0), .int .u8 ((qdt (zd.drop 8))[4]?.getD 0), .int .u8 ((qdt (zd.drop 8))[5]?.getD 0), .int .u8 ((qdt (zd.drop 8))[6]?.getD 0), .int .u8 ((qdt (zd.drop 8))[7]?.getD 0)]] w' fun e w'' => Below w'.heap.size w' w'' ∧ ∃ a b : Int, e = .returned (.tuple #[.agg #[.int .u16 a, .int .u16 b], .int .i64 e0]) ∧ (e0 = 0 → a = x1 ∧ b = y1)) :
    Calls Tryz.prog 128 #[.agg #[.int .u8 tos, .int .u16 id, .bool keep, .int .u8 ttl, .int .u8 proto, .int .u32 src, .int .u32 dst, so, sd]] w fun e w' => Below w.heap.size w w' ∧ e = .returned (.tuple #[otv e0 pr (wat4 (zd.drop 8) 12) (wat4 (zd.drop 8) 16) x1 y1, .int .i64 e0]) := by
  obtain ⟨ad, cd, rfl, _, _⟩ := hI.slice
  have hb0 : Below w.heap.size w ((w.alloc (.cells #[.int .u8 tos, .int .u16 id, .bool keep, .int .u8 ttl, .int .u8 proto, .int .u32 src, .int .u32 dst, so, .slice ad zd.length cd] 78)).alloc (.cells #[.int .u8 0, .int .u32 0, .int .u32 0, .int .u16 0, .int .u16 0] 69)) := ((Below.refl _ _).alloc (Nat.le_refl _) _).alloc (by simp) _
  have r0 := heap_alloc_new (w.alloc (.cells #[.int .u8 tos, .int .u16 id, .bool keep, .int .u8 ttl, .int .u8 proto, .int .u32 src, .int .u32 dst, so, .slice ad zd.length cd] 78)) (.cells #[.int .u8 0, .int .u32 0, .int .u32 0, .int .u16 0, .int .u16 0] 69)
  rw [World.size_alloc] at r0
  have R0 := hide r0
  clear r0
  go_enter Tryz.func128, Tryz.ntmps128
  go_wp2_with fail
  generalize ((w.alloc (.cells #[.int .u8 tos, .int .u16 id, .bool keep, .int .u8 ttl, .int .u8 proto, .int .u32 src, .int .u32 dst, so, .slice ad zd.length cd] 78)).alloc (.cells #[.int .u8 0, .int .u32 0, .int .u32 0, .int .u16 0, .int .u16 0] 69)) = w0 at *
  refine (parseIcmp_any tos id ttl proto src dst keep _ _ zd w0 hB ((hI.below hb0).mono hb0.size) hl).mono ?_
  rintro e w1 ⟨hb1, ⟨hff, rfl⟩ | ⟨hff, a1, c1, rfl, hO⟩⟩
  · exact absurd hpi hff
  · have la : Later w1 (w1.alloc (.cells #[.int .u8 (zd[0]?.getD 0), .int .u8 (zd[1]?.getD 0), .int .u32 (wat4 zd 4), .slice a1 (zd.length - 8) c1] 154)) := (Below.refl _ _).alloc (Nat.le_refl _) _
    have l1 := Later.trans hb1 la
    have mW := heap_alloc_new w1 (.cells #[.int .u8 (zd[0]?.getD 0), .int .u8 (zd[1]?.getD 0), .int .u32 (wat4 zd 4), .slice a1 (zd.length - 8) c1] 154)
    have rW := later_keep l1 R0.out
    have hwW := hb0.trans (l1.mono hb0.size)
    have DW := hO.ck (CK.of la)
    clear hff
    go_wp2_with fail
    generalize w1.alloc (.cells #[.int .u8 (zd[0]?.getD 0), .int .u8 (zd[1]?.getD 0), .int .u32 (wat4 zd 4), .slice a1 (zd.length - 8) c1] 154) = W at *
    generalize w1.heap.size = gm at *
    refine (isError_any (zd[0]?.getD 0) (zd[1]?.getD 0) (wat4 zd 4) _ W).mono ?_
    rw [show (zd[0]?.getD 0 == 3 || (zd[0]?.getD 0 == 11 || zd[0]?.getD 0 == 12)) = true from her]
    rintro e w2 ⟨rfl, hb2⟩
    have l2 : Later W w2 := hb2
    have r2 := later_keep l2 rW
    have hw2 := hwW.trans (hb2.mono hwW.size)
    have km := block_cell (later_keep l2 mW)
    have D2 := DW.ck (CK.of l2)
    go_wp2_with fail
    clear km
    refine (quote_any _ (zd.drop 8) w2 (hB.drop 8) (by simp; omega) D2.rd).mono ?_
    rintro e w3 ⟨hb3, ⟨hf3, _⟩ | ⟨_, qo, qs0, rfl, hO3, hD3⟩⟩
    · exact absurd hrd hf3
    obtain ⟨b7, c7, rfl, _, _⟩ := hO3.slice
    obtain ⟨b8, c8, rfl, hc8, hc9⟩ := hD3.slice
    unfold pkt
    have HPR := hide hpr
    rw [hpr]
    clear hpr hpi her hrd
    generalize (zd.drop 8)[1]?.getD 0 = q1 at *
    generalize wat (zd.drop 8) 4 = q2 at *
    generalize decide (16384 ≤ wat (zd.drop 8) 6 % 32768) = q3 at *
    generalize (zd.drop 8)[8]?.getD 0 = q4 at *
    generalize hqs : wat4 (zd.drop 8) 12 = qs at *
    generalize hqd : wat4 (zd.drop 8) 16 = qd at *
    have HQS := hide hqs
    have HQD := hide hqd
    clear hqs hqd
    generalize (((zd.drop 8).take (hl4 (zd.drop 8)).toNat).drop 20).length = l7 at *
    clear hO3
    rw [show ((zd.drop 8).take (ral true (zd.drop 8)).toNat).drop (hl4 (zd.drop 8)).toNat = qdt (zd.drop 8) from rfl] at hD3 hc8 ⊢
    generalize hdq : qdt (zd.drop 8) = dq at *
    have HDQ := hide hdq
    clear hdq
    obtain ⟨g8, rfl, _, _, hcs, _⟩ := hD3.at (by omega)
    have la3 : Later w3 (w3.alloc (.cells #[.int .u8 q1, .int .u16 q2, .bool q3, .int .u8 q4, .int .u8 pr, .int .u32 qs, .int .u32 qd, .slice b7 l7 c7, .slice (some ⟨g8, 0, none⟩) dq.length c8] 78)) := (Below.refl _ _).alloc (Nat.le_refl _) _
    have l3 := Later.trans hb3 la3
    have qk := heap_alloc_new w3 (.cells #[.int .u8 q1, .int .u16 q2, .bool q3, .int .u8 q4, .int .u8 pr, .int .u32 qs, .int .u32 qd, .slice b7 l7 c7, .slice (some ⟨g8, 0, none⟩) dq.length c8] 78)
    have r3 := later_keep l3 r2
    have hw3 := hw2.trans (l3.mono hw2.size)
    have HCS : Hid (∀ j, j < dq.length → w3.cell? ⟨g8, j, none⟩ = some (.int .u8 (dq[j]?.getD 0))) := fun j h => (hcs j h).1
    have hgq : w.heap.size + 1 < w3.heap.size := Nat.lt_of_lt_of_le (Array.getElem?_eq_some_iff.1 r2).1 hb3.size
    clear D2 hD3 hcs
    go_upto_region 9 with fail
    have HC3 : Hid (∀ j, j < dq.length → (w3.alloc (.cells #[.int .u8 q1, .int .u16 q2, .bool q3, .int .u8 q4, .int .u8 pr, .int .u32 qs, .int .u32 qd, .slice b7 l7 c7, .slice (some ⟨g8, 0, none⟩) dq.length c8] 78)).cell? ⟨g8, j, none⟩ = some (.int .u8 (dq[j]?.getD 0))) := fun j h => la3.cell (HCS.out j h)
    clear HCS
    generalize w3.alloc (.cells #[.int .u8 q1, .int .u16 q2, .bool q3, .int .u8 q4, .int .u8 pr, .int .u32 qs, .int .u32 qd, .slice b7 l7 c7, .slice (some ⟨g8, 0, none⟩) dq.length c8] 78) = w0q at *
    generalize w3.heap.size = gq at *
    have hlt0 : gq < w0q.heap.size := (Array.getElem?_eq_some_iff.1 qk).1
    go_cut [7, 8] (fun q x wx => ∃ g, q = .pointer (some ⟨g, 0, none⟩) ∧ x = .bool true ∧ wx.heap[g]? = some (.cells #[.func (.func fw) #[] #[], .func (.func fb) #[] #[]] 241 (0, 0)) ∧ Below w0q.heap.size w0q wx)
    case first =>
      refine anyT_begin (R := But (fun b => w0q.heap.size ≤ b)) 10 rfl (by kernel_rfl) ?_
      have hd : Later w0q w0q.drew := Later.drew w0q
      have pd := (hd.block gq (Array.getElem?_eq_some_iff.1 qk).1).trans qk
      have bd : Below w0q.heap.size w0q w0q.drew := hd
      generalize w0q.drew = Wd at *
      have ha : ∀ v1, But (fun b => w0q.heap.size ≤ b) Wd v1 → ∀ i, v1.cell? ⟨gq, i, none⟩ = #[Value.int .u8 q1, .int .u16 q2, .bool q3, .int .u8 q4, .int .u8 pr, .int .u32 qs, .int .u32 qd, .slice b7 l7 c7, .slice (some ⟨g8, 0, none⟩) dq.length c8][i]? := fun v1 h => block_cell ((h.block gq (Array.getElem?_eq_some_iff.1 pd).1 (by omega)).trans pd)
      have hz : w0q.heap.size ≤ Wd.heap.size := bd.size
      refine anyT_val (But.pre _) 1 rfl (by kernel_rfl) (by kernel_rfl) (by kernel_rfl) (fun _ _ _ _ h => h) rfl ?_; apply Exists.intro; refine ⟨fun v1 hv1 => ?_, ?_⟩; (· (go_simp; rfl)); simp only [Act.put, List.setIfInBounds_toArray, List.set_cons_zero, List.set_cons_succ]
      refine anyT_val (But.pre _) 2 rfl (by kernel_rfl) (by kernel_rfl) (by kernel_rfl) (fun _ _ _ _ h => h) rfl ?_; apply Exists.intro; refine ⟨fun v1 hv1 => ?_, ?_⟩; (· (go_simp; rfl)); simp only [Act.put, List.setIfInBounds_toArray, List.set_cons_zero, List.set_cons_succ]
      refine anyT_two 0 7 rfl rfl (by kernel_rfl) rfl rfl ?_ ?_
      · skip
        refine wp_enter 126 #[] (by go_simp) ?_
        refine (readers_any Wd).mono ?_
        rintro e W3 ⟨m, rfl, hb3, hM3⟩
        have l3 : Later Wd W3 := hb3
        refine ⟨But.of l3, ?_⟩
        simp only [Act.put, List.setIfInBounds_toArray, List.set_cons_zero, List.set_cons_succ]
        have hlk := hlk0 _ _ hM3
        refine anyT_two 3 7 rfl rfl (by kernel_rfl) rfl rfl ?_ ?_
        · unfold Oper.wp
          go_simp
          refine ⟨But.refl _ _, ?_⟩
          clear hlk
          refine anyT_val (But.pre _) 4 rfl (by kernel_rfl) (by kernel_rfl) (by kernel_rfl) (fun _ _ _ _ h => h) rfl ?_; apply Exists.intro; refine ⟨fun v1 hv1 => ?_, ?_⟩; (· (go_simp; rfl)); simp only [Act.put, List.setIfInBounds_toArray, List.set_cons_zero, List.set_cons_succ]
          refine anyT_val (But.pre _) 5 rfl (by kernel_rfl) (by kernel_rfl) (by kernel_rfl) (fun _ _ _ _ h => h) rfl ?_; apply Exists.intro; refine ⟨fun v1 hv1 => ?_, ?_⟩; (· (go_simp; rfl)); simp only [Act.put, List.setIfInBounds_toArray, List.set_cons_zero, List.set_cons_succ]
          refine anyT_val (But.pre _) 6 rfl (by kernel_rfl) (by kernel_rfl) (by kernel_rfl) (fun _ _ _ _ h => h) rfl ?_; apply Exists.intro; refine ⟨fun v1 hv1 => ?_, ?_⟩; (· (go_simp; rfl)); simp only [Act.put, List.setIfInBounds_toArray, List.set_cons_zero, List.set_cons_succ]
          refine anyT_one 7 rfl (by kernel_rfl) rfl ?_
          unfold Oper.wp
          go_simp
          have l4 : Later W3 (W3.alloc (.cells #[.nilFunc, .nilFunc] 241)) := (Below.refl _ _).alloc (Nat.le_refl _) _
          have g4 := heap_alloc_new W3 (.cells #[.nilFunc, .nilFunc] 241)
          have b4 : Below w0q.heap.size w0q (W3.alloc (.cells #[.nilFunc, .nilFunc] 241)) := (bd.trans (l3.mono hz)).trans (l4.mono (Nat.le_trans hz l3.size))
          have hge : w0q.heap.size ≤ W3.heap.size := Nat.le_trans hz l3.size
          refine ⟨But.of l4, ?_⟩
          generalize W3.alloc (.cells #[.nilFunc, .nilFunc] 241) = W4 at *
          generalize W3.heap.size = g at *
          have kg := block_cell g4
          have fg := block_frozen g4
          have hsf := run_store_fn Tryz.prog
          refine anyT_one 8 rfl (by kernel_rfl) rfl ?_
          unfold Oper.wp
          go_simp
          generalize hV : (W4.setCell ⟨g, 0, none⟩ _).setCell ⟨g, 1, none⟩ _ = V
          have hV8 : V = putRow W4 (g) 0 [.func (.func fw) #[] #[], .func (.func fb) #[] #[]] := hV.symm
          have hbV : But (fun b => w0q.heap.size ≤ b) W4 V := by rw [hV8]; exact putRow_but (E := fun b => w0q.heap.size ≤ b) (n := g) hge _ _ _ _ (But.refl _ _)
          have pV := putRow_all [Value.func (.func fw) #[] #[], .func (.func fb) #[] #[]] g4 rfl
          rw [← hV8] at pV
          clear hV hV8 kg fg hsf
          refine ⟨hbV, ?_⟩
          refine anyT_one 9 rfl (by kernel_rfl) rfl ?_
          unfold Oper.wp
          go_simp
          refine ⟨But.refl _ _, ?_⟩
          refine anyT_done (by kernel_rfl) ?_
          have hbl : Below w0q.heap.size w0q V := b4.trans (hbV.below b4.size (fun k hk e => by omega))
          clear ha
          go_wp2_with fail
          go_meet
          exact ⟨_, rfl, rfl, pV, hbl⟩
        · unfold Oper.wp
          go_simp
          have l4 : Later W3 (W3.alloc (.cells #[.nilFunc, .nilFunc] 241)) := (Below.refl _ _).alloc (Nat.le_refl _) _
          have g4 := heap_alloc_new W3 (.cells #[.nilFunc, .nilFunc] 241)
          have b4 : Below w0q.heap.size w0q (W3.alloc (.cells #[.nilFunc, .nilFunc] 241)) := (bd.trans (l3.mono hz)).trans (l4.mono (Nat.le_trans hz l3.size))
          have hge : w0q.heap.size ≤ W3.heap.size := Nat.le_trans hz l3.size
          have hM4 := (l4.block m (Array.getElem?_eq_some_iff.1 hM3).1).trans hM3
          refine ⟨But.of l4, ?_⟩
          clear hlk
          generalize W3.alloc (.cells #[.nilFunc, .nilFunc] 241) = W4 at *
          generalize W3.heap.size = g at *
          have hlk := hlk0 _ _ hM4
          refine anyT_one 3 rfl (by kernel_rfl) rfl ?_
          unfold Oper.wp
          go_simp
          refine ⟨But.refl _ _, ?_⟩
          clear hlk
          refine anyT_val (But.pre _) 4 rfl (by kernel_rfl) (by kernel_rfl) (by kernel_rfl) (fun _ _ _ _ h => h) rfl ?_; apply Exists.intro; refine ⟨fun v1 hv1 => ?_, ?_⟩; (· (go_simp; rfl)); simp only [Act.put, List.setIfInBounds_toArray, List.set_cons_zero, List.set_cons_succ]
          refine anyT_val (But.pre _) 5 rfl (by kernel_rfl) (by kernel_rfl) (by kernel_rfl) (fun _ _ _ _ h => h) rfl ?_; apply Exists.intro; refine ⟨fun v1 hv1 => ?_, ?_⟩; (· (go_simp; rfl)); simp only [Act.put, List.setIfInBounds_toArray, List.set_cons_zero, List.set_cons_succ]
          refine anyT_val (But.pre _) 6 rfl (by kernel_rfl) (by kernel_rfl) (by kernel_rfl) (fun _ _ _ _ h => h) rfl ?_; apply Exists.intro; refine ⟨fun v1 hv1 => ?_, ?_⟩; (· (go_simp; rfl)); simp only [Act.put, List.setIfInBounds_toArray, List.set_cons_zero, List.set_cons_succ]
          have kg := block_cell g4
          have fg := block_frozen g4
          have hsf := run_store_fn Tryz.prog
          refine anyT_one 8 rfl (by kernel_rfl) rfl ?_
          unfold Oper.wp
          go_simp
          generalize hV : (W4.setCell ⟨g, 0, none⟩ _).setCell ⟨g, 1, none⟩ _ = V
          have hV8 : V = putRow W4 (g) 0 [.func (.func fw) #[] #[], .func (.func fb) #[] #[]] := hV.symm
          have hbV : But (fun b => w0q.heap.size ≤ b) W4 V := by rw [hV8]; exact putRow_but (E := fun b => w0q.heap.size ≤ b) (n := g) hge _ _ _ _ (But.refl _ _)
          have pV := putRow_all [Value.func (.func fw) #[] #[], .func (.func fb) #[] #[]] g4 rfl
          rw [← hV8] at pV
          clear hV hV8 kg fg hsf
          refine ⟨hbV, ?_⟩
          refine anyT_one 9 rfl (by kernel_rfl) rfl ?_
          unfold Oper.wp
          go_simp
          refine ⟨But.refl _ _, ?_⟩
          refine anyT_done (by kernel_rfl) ?_
          have hbl : Below w0q.heap.size w0q V := b4.trans (hbV.below b4.size (fun k hk e => by omega))
          clear ha
          go_wp2_with fail
          go_meet
          exact ⟨_, rfl, rfl, pV, hbl⟩
      · unfold Oper.wp
        go_simp
        have l4 : Later Wd (Wd.alloc (.cells #[.nilFunc, .nilFunc] 241)) := (Below.refl _ _).alloc (Nat.le_refl _) _
        have g4 := heap_alloc_new Wd (.cells #[.nilFunc, .nilFunc] 241)
        have b4 : Below w0q.heap.size w0q (Wd.alloc (.cells #[.nilFunc, .nilFunc] 241)) := bd.trans (l4.mono hz)
        refine ⟨But.of l4, ?_⟩
        have hge : w0q.heap.size ≤ Wd.heap.size := hz
        generalize Wd.alloc (.cells #[.nilFunc, .nilFunc] 241) = W4 at *
        generalize Wd.heap.size = g at *
        refine anyT_one 0 rfl (by kernel_rfl) rfl ?_
        refine wp_enter 126 #[] (by go_simp) ?_
        refine (readers_any W4).mono ?_
        rintro e W5 ⟨m, rfl, hb5, hM5⟩
        have l5 : Later W4 W5 := hb5
        have g5 := (l5.block g (Array.getElem?_eq_some_iff.1 g4).1).trans g4
        have b5 : Below w0q.heap.size w0q W5 := b4.trans (l5.mono b4.size)
        refine ⟨But.of l5, ?_⟩
        simp only [Act.put, List.setIfInBounds_toArray, List.set_cons_zero, List.set_cons_succ]
        have hlk := hlk0 _ _ hM5
        refine anyT_one 3 rfl (by kernel_rfl) rfl ?_
        unfold Oper.wp
        go_simp
        refine ⟨But.refl _ _, ?_⟩
        clear hlk
        refine anyT_val (But.pre _) 4 rfl (by kernel_rfl) (by kernel_rfl) (by kernel_rfl) (fun _ _ _ _ h => h) rfl ?_; apply Exists.intro; refine ⟨fun v1 hv1 => ?_, ?_⟩; (· (go_simp; rfl)); simp only [Act.put, List.setIfInBounds_toArray, List.set_cons_zero, List.set_cons_succ]
        refine anyT_val (But.pre _) 5 rfl (by kernel_rfl) (by kernel_rfl) (by kernel_rfl) (fun _ _ _ _ h => h) rfl ?_; apply Exists.intro; refine ⟨fun v1 hv1 => ?_, ?_⟩; (· (go_simp; rfl)); simp only [Act.put, List.setIfInBounds_toArray, List.set_cons_zero, List.set_cons_succ]
        refine anyT_val (But.pre _) 6 rfl (by kernel_rfl) (by kernel_rfl) (by kernel_rfl) (fun _ _ _ _ h => h) rfl ?_; apply Exists.intro; refine ⟨fun v1 hv1 => ?_, ?_⟩; (· (go_simp; rfl)); simp only [Act.put, List.setIfInBounds_toArray, List.set_cons_zero, List.set_cons_succ]
        have kg := block_cell g5
        have fg := block_frozen g5
        have hsf := run_store_fn Tryz.prog
        refine anyT_one 8 rfl (by kernel_rfl) rfl ?_
        unfold Oper.wp
        go_simp
        generalize hV : (W5.setCell ⟨g, 0, none⟩ _).setCell ⟨g, 1, none⟩ _ = V
        have hV8 : V = putRow W5 (g) 0 [.func (.func fw) #[] #[], .func (.func fb) #[] #[]] := hV.symm
        have hbV : But (fun b => w0q.heap.size ≤ b) W5 V := by rw [hV8]; exact putRow_but (E := fun b => w0q.heap.size ≤ b) (n := g) hge _ _ _ _ (But.refl _ _)
        have pV := putRow_all [Value.func (.func fw) #[] #[], .func (.func fb) #[] #[]] g5 rfl
        rw [← hV8] at pV
        clear hV hV8 kg fg hsf
        refine ⟨hbV, ?_⟩
        refine anyT_one 9 rfl (by kernel_rfl) rfl ?_
        unfold Oper.wp
        go_simp
        refine ⟨But.refl _ _, ?_⟩
        refine anyT_done (by kernel_rfl) ?_
        have hbl : Below w0q.heap.size w0q V := b5.trans (hbV.below b5.size (fun k hk e => by omega))
        clear ha
        go_wp2_with fail
        go_meet
        exact ⟨_, rfl, rfl, pV, hbl⟩
    case rest =>
      obtain ⟨g, rfl, rfl, hg, hbc⟩ := hcut
      have qc := (hbc.block gq (Array.getElem?_eq_some_iff.1 qk).1).trans qk
      have rc := (hbc.block _ (Array.getElem?_eq_some_iff.1 r3).1).trans r3
      have hwc := hw3.trans (hbc.mono hw3.size)
      have HCc : Hid (∀ j, j < dq.length → wc.cell? ⟨g8, j, none⟩ = some (.int .u8 (dq[j]?.getD 0))) := fun j h => (hbc.cell (p := ⟨g8, j, none⟩) (World.block_lt_of_cell? w0q ⟨g8, j, none⟩ (HC3.out j h))).trans (HC3.out j h)
      generalize wc = wm at *
      go_upto_region 12 with fail
      go_cut [9, 5] (fun q x wx => ∃ gp u v, q = .pointer (some ⟨gp, 0, none⟩) ∧ x = .int .i64 e0 ∧ wx.heap[gp]? = some (.cells #[.int .u16 u, .int .u16 v] 246 (0, 0)) ∧ Hid (e0 = 0 → u = x1 ∧ v = y1) ∧ Below wm.heap.size wm wx)
      case first =>
        refine anyT_begin (R := But (fun b => wm.heap.size ≤ b)) 13 rfl (by kernel_rfl) ?_
        have ld : Later wm wm.drew := Later.drew wm
        have qWd := later_keep ld qc
        have gWd := later_keep ld hg
        have bd : Below wm.heap.size wm wm.drew := ld
        have cWd : ∀ j, j < dq.length → wm.drew.cell? ⟨g8, j, none⟩ = some (.int .u8 (dq[j]?.getD 0)) := fun j h => ld.cell (HCc.out j h)
        generalize wm.drew = Wd at *
        have hz : wm.heap.size ≤ Wd.heap.size := bd.size
        have hgl := (Array.getElem?_eq_some_iff.1 hg).1
        have hql := (Array.getElem?_eq_some_iff.1 qc).1
        have h8l : g8 < wm.heap.size := World.block_lt_of_cell? wm ⟨g8, 0, none⟩ (HCc.out 0 (by omega))
        have ha : ∀ v1, But (fun b => wm.heap.size ≤ b) Wd v1 → ∀ i, v1.cell? ⟨gq, i, none⟩ = #[Value.int .u8 q1, .int .u16 q2, .bool q3, .int .u8 q4, .int .u8 pr, .int .u32 qs, .int .u32 qd, .slice b7 l7 c7, .slice (some ⟨g8, 0, none⟩) dq.length c8][i]? := fun v1 h => block_cell ((h.block gq (Array.getElem?_eq_some_iff.1 qWd).1 (by omega)).trans qWd)
        have hb : ∀ v1, But (fun b => wm.heap.size ≤ b) Wd v1 → ∀ i, v1.cell? ⟨g, i, none⟩ = #[Value.func (.func fw) #[] #[], .func (.func fb) #[] #[]][i]? := fun v1 h => block_cell ((h.block g (Array.getElem?_eq_some_iff.1 gWd).1 (by omega)).trans gWd)
        have hc0 : ∀ v1, But (fun b => wm.heap.size ≤ b) Wd v1 → v1.cell? ⟨g8, 0, none⟩ = some (.int .u8 (dq[0]?.getD 0)) := fun v1 h => h.cell (cWd 0 (by omega)) (by show ¬ wm.heap.size ≤ g8; omega)
        have hc1 : ∀ v1, But (fun b => wm.heap.size ≤ b) Wd v1 → v1.cell? ⟨g8, 1, none⟩ = some (.int .u8 (dq[1]?.getD 0)) := fun v1 h => h.cell (cWd 1 (by omega)) (by show ¬ wm.heap.size ≤ g8; omega)
        have hc2 : ∀ v1, But (fun b => wm.heap.size ≤ b) Wd v1 → v1.cell? ⟨g8, 2, none⟩ = some (.int .u8 (dq[2]?.getD 0)) := fun v1 h => h.cell (cWd 2 (by omega)) (by show ¬ wm.heap.size ≤ g8; omega)
        have hc3 : ∀ v1, But (fun b => wm.heap.size ≤ b) Wd v1 → v1.cell? ⟨g8, 3, none⟩ = some (.int .u8 (dq[3]?.getD 0)) := fun v1 h => h.cell (cWd 3 (by omega)) (by show ¬ wm.heap.size ≤ g8; omega)
        have hc4 : ∀ v1, But (fun b => wm.heap.size ≤ b) Wd v1 → v1.cell? ⟨g8, 4, none⟩ = some (.int .u8 (dq[4]?.getD 0)) := fun v1 h => h.cell (cWd 4 (by omega)) (by show ¬ wm.heap.size ≤ g8; omega)
        have hc5 : ∀ v1, But (fun b => wm.heap.size ≤ b) Wd v1 → v1.cell? ⟨g8, 5, none⟩ = some (.int .u8 (dq[5]?.getD 0)) := fun v1 h => h.cell (cWd 5 (by omega)) (by show ¬ wm.heap.size ≤ g8; omega)
        have hc6 : ∀ v1, But (fun b => wm.heap.size ≤ b) Wd v1 → v1.cell? ⟨g8, 6, none⟩ = some (.int .u8 (dq[6]?.getD 0)) := fun v1 h => h.cell (cWd 6 (by omega)) (by show ¬ wm.heap.size ≤ g8; omega)
        have hc7 : ∀ v1, But (fun b => wm.heap.size ≤ b) Wd v1 → v1.cell? ⟨g8, 7, none⟩ = some (.int .u8 (dq[7]?.getD 0)) := fun v1 h => h.cell (cWd 7 (by omega)) (by show ¬ wm.heap.size ≤ g8; omega)
        clear cWd
        have har : ∀ v1 : World, (Instr.arrayAt 290 (.slice (some ⟨g8, 0, none⟩) dq.length c8)).run Tryz.prog v1 = .ok (.pointer (some ⟨g8, 0, none⟩)) v1 := fun v1 => run_arrayAt (w := v1) 290 5 8 _ _ _ Tryz.underlying290 h8
        refine anyT_val (But.pre _) 0 rfl (by kernel_rfl) (by kernel_rfl) (by kernel_rfl) (fun _ _ _ _ h => h) rfl ?_; apply Exists.intro; refine ⟨fun v1 hv1 => ?_, ?_⟩; (· (go_simp; rfl)); simp only [Act.put, List.setIfInBounds_toArray, List.set_cons_zero, List.set_cons_succ]
        refine anyT_val (But.pre _) 1 rfl (by kernel_rfl) (by kernel_rfl) (by kernel_rfl) (fun _ _ _ _ h => h) rfl ?_; apply Exists.intro; refine ⟨fun v1 hv1 => ?_, ?_⟩; (· (go_simp; rfl)); simp only [Act.put, List.setIfInBounds_toArray, List.set_cons_zero, List.set_cons_succ]
        refine anyT_val (But.pre _) 2 rfl (by kernel_rfl) (by kernel_rfl) (by kernel_rfl) (fun _ _ _ _ h => h) rfl ?_; apply Exists.intro; refine ⟨fun v1 hv1 => ?_, ?_⟩; (· (go_simp; rfl)); simp only [Act.put, List.setIfInBounds_toArray, List.set_cons_zero, List.set_cons_succ]
        refine anyT_val (But.pre _) 3 rfl (by kernel_rfl) (by kernel_rfl) (by kernel_rfl) (fun _ _ _ _ h => h) rfl ?_; apply Exists.intro; refine ⟨fun v1 hv1 => ?_, ?_⟩; (· (go_simp; rfl)); simp only [Act.put, List.setIfInBounds_toArray, List.set_cons_zero, List.set_cons_succ]
        refine anyT_val (But.pre _) 4 rfl (by kernel_rfl) (by kernel_rfl) (by kernel_rfl) (fun _ _ _ _ h => h) rfl ?_; apply Exists.intro; refine ⟨fun v1 hv1 => ?_, ?_⟩; (· (go_simp; rfl)); simp only [Act.put, List.setIfInBounds_toArray, List.set_cons_zero, List.set_cons_succ]
        refine anyT_val (But.pre _) 5 rfl (by kernel_rfl) (by kernel_rfl) (by kernel_rfl) (fun _ _ _ _ h => h) rfl ?_; apply Exists.intro; refine ⟨fun v1 hv1 => ?_, ?_⟩; (· (go_simp; rfl)); simp only [Act.put, List.setIfInBounds_toArray, List.set_cons_zero, List.set_cons_succ]
        clear har ha hb hc0 hc1 hc2 hc3 hc4 hc5 hc6 hc7
        refine anyT_two 6 10 rfl rfl (by kernel_rfl) rfl rfl ?_ ?_
        · refine wp_enter fb #[.agg #[.int .u8 (dq[0]?.getD 0), .int .u8 (dq[1]?.getD 0), .int .u8 (dq[2]?.getD 0), .int .u8 (dq[3]?.getD 0), .int .u8 (dq[4]?.getD 0), .int .u8 (dq[5]?.getD 0), .int .u8 (dq[6]?.getD 0), .int .u8 (dq[7]?.getD 0)]] (by go_simp) ?_
          refine (hf Wd (hwc.trans (ld.mono hwc.size))).mono ?_
          rintro e W5 ⟨hb5, u, v, rfl, hab⟩
          have HAB : Hid (e0 = 0 → u = x1 ∧ v = y1) := hab
          clear hab
          have l5 : Later Wd W5 := hb5
          refine ⟨But.of l5, ?_⟩
          simp only [Act.put, List.setIfInBounds_toArray, List.set_cons_zero, List.set_cons_succ]
          refine anyT_val (But.pre _) 7 rfl (by kernel_rfl) (by kernel_rfl) (by kernel_rfl) (fun _ _ _ _ h => h) rfl ?_; apply Exists.intro; refine ⟨fun v1 hv1 => ?_, ?_⟩; (· (go_simp; rfl)); simp only [Act.put, List.setIfInBounds_toArray, List.set_cons_zero, List.set_cons_succ]
          refine anyT_val (But.pre _) 8 rfl (by kernel_rfl) (by kernel_rfl) (by kernel_rfl) (fun _ _ _ _ h => h) rfl ?_; apply Exists.intro; refine ⟨fun v1 hv1 => ?_, ?_⟩; (· (go_simp; rfl)); simp only [Act.put, List.setIfInBounds_toArray, List.set_cons_zero, List.set_cons_succ]
          refine anyT_val (But.pre _) 9 rfl (by kernel_rfl) (by kernel_rfl) (by kernel_rfl) (fun _ _ _ _ h => h) rfl ?_; apply Exists.intro; refine ⟨fun v1 hv1 => ?_, ?_⟩; (· (go_simp; rfl)); simp only [Act.put, List.setIfInBounds_toArray, List.set_cons_zero, List.set_cons_succ]
          refine anyT_one 10 rfl (by kernel_rfl) rfl ?_
          unfold Oper.wp
          go_simp
          have la5 : Later W5 (W5.alloc (.cells #[.int .u16 0, .int .u16 0] 246)) := (Below.refl _ _).alloc (Nat.le_refl _) _
          have g6 := heap_alloc_new W5 (.cells #[.int .u16 0, .int .u16 0] 246)
          refine ⟨But.of la5, ?_⟩
          have b6 : Below wm.heap.size wm (W5.alloc (.cells #[.int .u16 0, .int .u16 0] 246)) := bd.trans ((l5.trans la5).mono hz)
          have hge : wm.heap.size ≤ W5.heap.size := Nat.le_trans hz l5.size
          generalize W5.alloc (.cells #[.int .u16 0, .int .u16 0] 246) = W6 at *
          generalize W5.heap.size = gp at *
          have kg := block_cell g6
          have fg := block_frozen g6
          refine anyT_one 11 rfl (by kernel_rfl) rfl ?_
          unfold Oper.wp
          go_simp
          generalize hV : (W6.setCell ⟨gp, 0, none⟩ _).setCell ⟨gp, 1, none⟩ _ = V
          have hV8 : V = putRow W6 gp 0 [.int .u16 u, .int .u16 v] := hV.symm
          have hbV : But (fun b => wm.heap.size ≤ b) W6 V := by rw [hV8]; exact putRow_but (E := fun b => wm.heap.size ≤ b) (n := gp) hge _ _ _ _ (But.refl _ _)
          have pV := putRow_all ([.int .u16 u, .int .u16 v] : List Value) g6 rfl
          rw [← hV8] at pV
          clear hV hV8 kg fg
          refine ⟨hbV, ?_⟩
          refine anyT_one 12 rfl (by kernel_rfl) rfl ?_
          unfold Oper.wp
          go_simp
          refine ⟨But.refl _ _, ?_⟩
          refine anyT_done (by kernel_rfl) ?_
          have hbl : Below wm.heap.size wm V := b6.trans (hbV.below b6.size (fun k hk e => by omega))
          go_wp2_with fail
          go_meet
          exact ⟨_, u, v, rfl, rfl, pV, HAB, hbl⟩
        · unfold Oper.wp
          go_simp
          have la5 : Later Wd (Wd.alloc (.cells #[.int .u16 0, .int .u16 0] 246)) := (Below.refl _ _).alloc (Nat.le_refl _) _
          have g5 := heap_alloc_new Wd (.cells #[.int .u16 0, .int .u16 0] 246)
          refine ⟨But.of la5, ?_⟩
          have hge : wm.heap.size ≤ Wd.heap.size := hz
          generalize Wd.alloc (.cells #[.int .u16 0, .int .u16 0] 246) = W5 at *
          generalize Wd.heap.size = gp at *
          refine anyT_one 6 rfl (by kernel_rfl) rfl ?_
          refine wp_enter fb #[.agg #[.int .u8 (dq[0]?.getD 0), .int .u8 (dq[1]?.getD 0), .int .u8 (dq[2]?.getD 0), .int .u8 (dq[3]?.getD 0), .int .u8 (dq[4]?.getD 0), .int .u8 (dq[5]?.getD 0), .int .u8 (dq[6]?.getD 0), .int .u8 (dq[7]?.getD 0)]] (by go_simp) ?_
          refine (hf W5 (hwc.trans ((ld.trans la5).mono hwc.size))).mono ?_
          rintro e W6 ⟨hb6, u, v, rfl, hab⟩
          have HAB : Hid (e0 = 0 → u = x1 ∧ v = y1) := hab
          clear hab
          have l6 : Later W5 W6 := hb6
          have g6 := later_keep l6 g5
          have b6 : Below wm.heap.size wm W6 := (Below.mono (ld.trans (la5.trans l6)) (Nat.le_refl _))
          refine ⟨But.of l6, ?_⟩
          simp only [Act.put, List.setIfInBounds_toArray, List.set_cons_zero, List.set_cons_succ]
          refine anyT_val (But.pre _) 7 rfl (by kernel_rfl) (by kernel_rfl) (by kernel_rfl) (fun _ _ _ _ h => h) rfl ?_; apply Exists.intro; refine ⟨fun v1 hv1 => ?_, ?_⟩; (· (go_simp; rfl)); simp only [Act.put, List.setIfInBounds_toArray, List.set_cons_zero, List.set_cons_succ]
          refine anyT_val (But.pre _) 8 rfl (by kernel_rfl) (by kernel_rfl) (by kernel_rfl) (fun _ _ _ _ h => h) rfl ?_; apply Exists.intro; refine ⟨fun v1 hv1 => ?_, ?_⟩; (· (go_simp; rfl)); simp only [Act.put, List.setIfInBounds_toArray, List.set_cons_zero, List.set_cons_succ]
          refine anyT_val (But.pre _) 9 rfl (by kernel_rfl) (by kernel_rfl) (by kernel_rfl) (fun _ _ _ _ h => h) rfl ?_; apply Exists.intro; refine ⟨fun v1 hv1 => ?_, ?_⟩; (· (go_simp; rfl)); simp only [Act.put, List.setIfInBounds_toArray, List.set_cons_zero, List.set_cons_succ]
          have kg := block_cell g6
          have fg := block_frozen g6
          refine anyT_one 11 rfl (by kernel_rfl) rfl ?_
          unfold Oper.wp
          go_simp
          generalize hV : (W6.setCell ⟨gp, 0, none⟩ _).setCell ⟨gp, 1, none⟩ _ = V
          have hV8 : V = putRow W6 gp 0 [.int .u16 u, .int .u16 v] := hV.symm
          have hbV : But (fun b => wm.heap.size ≤ b) W6 V := by rw [hV8]; exact putRow_but (E := fun b => wm.heap.size ≤ b) (n := gp) hge _ _ _ _ (But.refl _ _)
          have pV := putRow_all ([.int .u16 u, .int .u16 v] : List Value) g6 rfl
          rw [← hV8] at pV
          clear hV hV8 kg fg
          refine ⟨hbV, ?_⟩
          refine anyT_one 12 rfl (by kernel_rfl) rfl ?_
          unfold Oper.wp
          go_simp
          refine ⟨But.refl _ _, ?_⟩
          refine anyT_done (by kernel_rfl) ?_
          have hbl : Below wm.heap.size wm V := b6.trans (hbV.below b6.size (fun k hk e => by omega))
          go_wp2_with fail
          go_meet
          exact ⟨_, u, v, rfl, rfl, pV, HAB, hbl⟩
      case rest =>
        obtain ⟨gp, u, v, rfl, rfl, hgp, HAB, hb2c⟩ := hcut
        have q5 := (hb2c.block gq (Array.getElem?_eq_some_iff.1 qc).1).trans qc
        have r5 := (hb2c.block _ (Array.getElem?_eq_some_iff.1 rc).1).trans rc
        have hw5 := hwc.trans (hb2c.mono hwc.size)
        have kq := block_cell q5
        have kg := block_cell hgp
        go_wp2_with fail
        clear kq kg
        refine (told_any q1 q2 q4 pr qs qd u v e0 q3 _ _ wc).mono ?_
        rintro e w7 ⟨hb7, ⟨hx, rfl⟩ | ⟨hx, rfl⟩⟩
        · have HX := hide hx
          clear hx
          have rX := (Below.block hb7 _ (Array.getElem?_eq_some_iff.1 r5).1).trans r5
          have hwX := hw5.trans (hb7.mono hw5.size)
          have kX := block_cell rX
          have fX := block_frozen rX
          go_wp2_with fail
          generalize hV : ((((w7.setCell ⟨w.heap.size + 1, 0, none⟩ _).setCell ⟨w.heap.size + 1, 1, none⟩ _).setCell ⟨w.heap.size + 1, 2, none⟩ _).setCell ⟨w.heap.size + 1, 3, none⟩ _).setCell ⟨w.heap.size + 1, 4, none⟩ _ = V
          have hV8 : V = putRow w7 (w.heap.size + 1) 0 [.int .u8 0, .int .u32 0, .int .u32 0, .int .u16 0, .int .u16 0] := hV.symm
          have hbV : But (fun b => b = w.heap.size + 1) w7 V := by rw [hV8]; exact putRow_but (E := fun b => b = w.heap.size + 1) (n := w.heap.size + 1) rfl _ _ _ _ (But.refl _ _)
          have pV := putRow_all ([.int .u8 0, .int .u32 0, .int .u32 0, .int .u16 0, .int .u16 0] : List Value) rX rfl
          rw [← hV8] at pV
          clear hV hV8 kX fX
          have PV := block_cell pV
          have hwV : Below w.heap.size w V := hwX.trans (hbV.below hwX.size (fun k hk e => by omega))
          exact bodyPost_ret (v := .tuple #[.agg #[.int .u8 0, .int .u32 0, .int .u32 0, .int .u16 0, .int .u16 0], .int .i64 e0]) (by simp [results, Tryz.results128, go_sem, PV]) rfl ⟨hwV, by rw [otv_no HX.out]⟩
        · subst hx
          obtain ⟨rfl, rfl⟩ := HAB.out rfl
          have rX := (Below.block hb7 _ (Array.getElem?_eq_some_iff.1 r5).1).trans r5
          have hwX := hw5.trans (hb7.mono hw5.size)
          have kX := block_cell rX
          have fX := block_frozen rX
          go_wp2_with fail
          generalize hV : ((((w7.setCell ⟨w.heap.size + 1, 0, none⟩ _).setCell ⟨w.heap.size + 1, 1, none⟩ _).setCell ⟨w.heap.size + 1, 2, none⟩ _).setCell ⟨w.heap.size + 1, 3, none⟩ _).setCell ⟨w.heap.size + 1, 4, none⟩ _ = V
          have hV8 : V = putRow w7 (w.heap.size + 1) 0 [.int .u8 pr, .int .u32 qs, .int .u32 qd, .int .u16 u, .int .u16 v] := hV.symm
          have hbV : But (fun b => b = w.heap.size + 1) w7 V := by rw [hV8]; exact putRow_but (E := fun b => b = w.heap.size + 1) (n := w.heap.size + 1) rfl _ _ _ _ (But.refl _ _)
          have pV := putRow_all ([.int .u8 pr, .int .u32 qs, .int .u32 qd, .int .u16 u, .int .u16 v] : List Value) rX rfl
          rw [← hV8] at pV
          clear hV hV8 kX fX
          have PV := block_cell pV
          have hwV : Below w.heap.size w V := hwX.trans (hbV.below hwX.size (fun k hk e => by omega))
          exact bodyPost_ret (v := .tuple #[.agg #[.int .u8 pr, .int .u32 qs, .int .u32 qd, .int .u16 u, .int .u16 v], .int .i64 0]) (by simp [results, Tryz.results128, go_sem, PV]) rfl ⟨hwV, by rw [HQS.out, HQD.out]; rfl⟩
end Go.Proofs.YtohflohdbkamnaaGreatDoor

/- Layer 5: Quoted in one form. -/
namespace Go.Proofs.YtohflohdbkamnaaGreatDoor
open Go.RowKit Go.Shelf
set_option maxRecDepth 100000
set_option linter.unusedVariables false
set_option linter.unusedSimpArgs false

set_option maxHeartbeats 8000000 in
theorem quoted_other (pr : Int) (tos id ttl proto src dst : Int) (keep : Bool) (so sd : Value) (zd : List Int) (w : World) (hT : Tb w) (hB : Mt.By zd) (hI : Rd w.heap.size w sd zd) (hl : zd.length ≤ 140737488355328) (hpi : pie proto zd = 0) (her : erb (zd[0]?.getD 0) = true) (hrd : rde true (zd.drop 8) = 0) (hpr : (zd.drop 8)[9]?.getD 0 = pr) (h8 : 8 ≤ (qdt (zd.drop 8)).length) (hno : pr ≠ 6 ∧ pr ≠ 17 ∧ pr ≠ 1 ∧ pr ≠ 47) :
    Calls Tryz.prog 128 #[.agg #[.int .u8 tos, .int .u16 id, .bool keep, .int .u8 ttl, .int .u8 proto, .int .u32 src, .int .u32 dst, so, sd]] w fun e w' => Below w.heap.size w w' ∧ e = .returned (.tuple #[.agg #[.int .u8 0, .int .u32 0, .int .u32 0, .int .u16 0, .int .u16 0], .int .i64 12]) := by
  obtain ⟨ad, cd, rfl, _, _⟩ := hI.slice
  have hb0 : Below w.heap.size w ((w.alloc (.cells #[.int .u8 tos, .int .u16 id, .bool keep, .int .u8 ttl, .int .u8 proto, .int .u32 src, .int .u32 dst, so, .slice ad zd.length cd] 78)).alloc (.cells #[.int .u8 0, .int .u32 0, .int .u32 0, .int .u16 0, .int .u16 0] 69)) := ((Below.refl _ _).alloc (Nat.le_refl _) _).alloc (by simp) _
  have r0 := heap_alloc_new (w.alloc (.cells #[.int .u8 tos, .int .u16 id, .bool keep, .int .u8 ttl, .int .u8 proto, .int .u32 src, .int .u32 dst, so, .slice ad zd.length cd] 78)) (.cells #[.int .u8 0, .int .u32 0, .int .u32 0, .int .u16 0, .int .u16 0] 69)
  rw [World.size_alloc] at r0
  have R0 := hide r0
  clear r0
  go_enter Tryz.func128, Tryz.ntmps128
  go_wp2_with fail
  generalize ((w.alloc (.cells #[.int .u8 tos, .int .u16 id, .bool keep, .int .u8 ttl, .int .u8 proto, .int .u32 src, .int .u32 dst, so, .slice ad zd.length cd] 78)).alloc (.cells #[.int .u8 0, .int .u32 0, .int .u32 0, .int .u16 0, .int .u16 0] 69)) = w0 at *
  refine (parseIcmp_any tos id ttl proto src dst keep _ _ zd w0 hB ((hI.below hb0).mono hb0.size) hl).mono ?_
  rintro e w1 ⟨hb1, ⟨hff, rfl⟩ | ⟨hff, a1, c1, rfl, hO⟩⟩
  · exact absurd hpi hff
  · have la : Later w1 (w1.alloc (.cells #[.int .u8 (zd[0]?.getD 0), .int .u8 (zd[1]?.getD 0), .int .u32 (wat4 zd 4), .slice a1 (zd.length - 8) c1] 154)) := (Below.refl _ _).alloc (Nat.le_refl _) _
    have l1 := Later.trans hb1 la
    have mW := heap_alloc_new w1 (.cells #[.int .u8 (zd[0]?.getD 0), .int .u8 (zd[1]?.getD 0), .int .u32 (wat4 zd 4), .slice a1 (zd.length - 8) c1] 154)
    have rW := later_keep l1 R0.out
    have hwW := hb0.trans (l1.mono hb0.size)
    have DW := hO.ck (CK.of la)
    clear hff
    go_wp2_with fail
    generalize w1.alloc (.cells #[.int .u8 (zd[0]?.getD 0), .int .u8 (zd[1]?.getD 0), .int .u32 (wat4 zd 4), .slice a1 (zd.length - 8) c1] 154) = W at *
    generalize w1.heap.size = gm at *
    refine (isError_any (zd[0]?.getD 0) (zd[1]?.getD 0) (wat4 zd 4) _ W).mono ?_
    rw [show (zd[0]?.getD 0 == 3 || (zd[0]?.getD 0 == 11 || zd[0]?.getD 0 == 12)) = true from her]
    rintro e w2 ⟨rfl, hb2⟩
    have l2 : Later W w2 := hb2
    have r2 := later_keep l2 rW
    have hw2 := hwW.trans (hb2.mono hwW.size)
    have km := block_cell (later_keep l2 mW)
    have D2 := DW.ck (CK.of l2)
    go_wp2_with fail
    clear km
    refine (quote_any _ (zd.drop 8) w2 (hB.drop 8) (by simp; omega) D2.rd).mono ?_
    rintro e w3 ⟨hb3, ⟨hf3, _⟩ | ⟨_, qo, qs0, rfl, hO3, hD3⟩⟩
    · exact absurd hrd hf3
    obtain ⟨b7, c7, rfl, _, _⟩ := hO3.slice
    obtain ⟨b8, c8, rfl, hc8, hc9⟩ := hD3.slice
    unfold pkt
    have HPR := hide hpr
    rw [hpr]
    clear hpr hpi her hrd
    generalize (zd.drop 8)[1]?.getD 0 = q1 at *
    generalize wat (zd.drop 8) 4 = q2 at *
    generalize decide (16384 ≤ wat (zd.drop 8) 6 % 32768) = q3 at *
    generalize (zd.drop 8)[8]?.getD 0 = q4 at *
    generalize hqs : wat4 (zd.drop 8) 12 = qs at *
    generalize hqd : wat4 (zd.drop 8) 16 = qd at *
    have HQS := hide hqs
    have HQD := hide hqd
    clear hqs hqd
    generalize (((zd.drop 8).take (hl4 (zd.drop 8)).toNat).drop 20).length = l7 at *
    clear hO3
    rw [show ((zd.drop 8).take (ral true (zd.drop 8)).toNat).drop (hl4 (zd.drop 8)).toNat = qdt (zd.drop 8) from rfl] at hD3 hc8 ⊢
    generalize hdq : qdt (zd.drop 8) = dq at *
    have HDQ := hide hdq
    clear hdq
    obtain ⟨g8, rfl, _, _, hcs, _⟩ := hD3.at (by omega)
    have la3 : Later w3 (w3.alloc (.cells #[.int .u8 q1, .int .u16 q2, .bool q3, .int .u8 q4, .int .u8 pr, .int .u32 qs, .int .u32 qd, .slice b7 l7 c7, .slice (some ⟨g8, 0, none⟩) dq.length c8] 78)) := (Below.refl _ _).alloc (Nat.le_refl _) _
    have l3 := Later.trans hb3 la3
    have qk := heap_alloc_new w3 (.cells #[.int .u8 q1, .int .u16 q2, .bool q3, .int .u8 q4, .int .u8 pr, .int .u32 qs, .int .u32 qd, .slice b7 l7 c7, .slice (some ⟨g8, 0, none⟩) dq.length c8] 78)
    have r3 := later_keep l3 r2
    have hw3 := hw2.trans (l3.mono hw2.size)
    have HCS : Hid (∀ j, j < dq.length → w3.cell? ⟨g8, j, none⟩ = some (.int .u8 (dq[j]?.getD 0))) := fun j h => (hcs j h).1
    have hgq : w.heap.size + 1 < w3.heap.size := Nat.lt_of_lt_of_le (Array.getElem?_eq_some_iff.1 r2).1 hb3.size
    clear D2 hD3 hcs
    go_upto_region 9 with fail
    have HC3 : Hid (∀ j, j < dq.length → (w3.alloc (.cells #[.int .u8 q1, .int .u16 q2, .bool q3, .int .u8 q4, .int .u8 pr, .int .u32 qs, .int .u32 qd, .slice b7 l7 c7, .slice (some ⟨g8, 0, none⟩) dq.length c8] 78)).cell? ⟨g8, j, none⟩ = some (.int .u8 (dq[j]?.getD 0))) := fun j h => la3.cell (HCS.out j h)
    clear HCS
    generalize w3.alloc (.cells #[.int .u8 q1, .int .u16 q2, .bool q3, .int .u8 q4, .int .u8 pr, .int .u32 qs, .int .u32 qd, .slice b7 l7 c7, .slice (some ⟨g8, 0, none⟩) dq.length c8] 78) = w0q at *
    generalize w3.heap.size = gq at *
    have hlt0 : gq < w0q.heap.size := (Array.getElem?_eq_some_iff.1 qk).1
    go_cut [7, 8] (fun q x wx => ∃ g, q = .pointer (some ⟨g, 0, none⟩) ∧ x = .bool false ∧ wx.heap[g]? = some (.cells #[.nilFunc, .nilFunc] 241 (0, 0)) ∧ Below w0q.heap.size w0q wx)
    case first =>
      refine anyT_begin (R := But (fun b => w0q.heap.size ≤ b)) 10 rfl (by kernel_rfl) ?_
      have hd : Later w0q w0q.drew := Later.drew w0q
      have pd := (hd.block gq (Array.getElem?_eq_some_iff.1 qk).1).trans qk
      have bd : Below w0q.heap.size w0q w0q.drew := hd
      generalize w0q.drew = Wd at *
      have ha : ∀ v1, But (fun b => w0q.heap.size ≤ b) Wd v1 → ∀ i, v1.cell? ⟨gq, i, none⟩ = #[Value.int .u8 q1, .int .u16 q2, .bool q3, .int .u8 q4, .int .u8 pr, .int .u32 qs, .int .u32 qd, .slice b7 l7 c7, .slice (some ⟨g8, 0, none⟩) dq.length c8][i]? := fun v1 h => block_cell ((h.block gq (Array.getElem?_eq_some_iff.1 pd).1 (by omega)).trans pd)
      have hz : w0q.heap.size ≤ Wd.heap.size := bd.size
      refine anyT_val (But.pre _) 1 rfl (by kernel_rfl) (by kernel_rfl) (by kernel_rfl) (fun _ _ _ _ h => h) rfl ?_; apply Exists.intro; refine ⟨fun v1 hv1 => ?_, ?_⟩; (· (go_simp; rfl)); simp only [Act.put, List.setIfInBounds_toArray, List.set_cons_zero, List.set_cons_succ]
      refine anyT_val (But.pre _) 2 rfl (by kernel_rfl) (by kernel_rfl) (by kernel_rfl) (fun _ _ _ _ h => h) rfl ?_; apply Exists.intro; refine ⟨fun v1 hv1 => ?_, ?_⟩; (· (go_simp; rfl)); simp only [Act.put, List.setIfInBounds_toArray, List.set_cons_zero, List.set_cons_succ]
      refine anyT_two 0 7 rfl rfl (by kernel_rfl) rfl rfl ?_ ?_
      · skip
        refine wp_enter 126 #[] (by go_simp) ?_
        refine (readers_any Wd).mono ?_
        rintro e W3 ⟨m, rfl, hb3, hM3⟩
        have l3 : Later Wd W3 := hb3
        refine ⟨But.of l3, ?_⟩
        simp only [Act.put, List.setIfInBounds_toArray, List.set_cons_zero, List.set_cons_succ]
        have hlk := look_none hno hM3
        refine anyT_two 3 7 rfl rfl (by kernel_rfl) rfl rfl ?_ ?_
        · unfold Oper.wp
          go_simp
          refine ⟨But.refl _ _, ?_⟩
          clear hlk
          refine anyT_val (But.pre _) 4 rfl (by kernel_rfl) (by kernel_rfl) (by kernel_rfl) (fun _ _ _ _ h => h) rfl ?_; apply Exists.intro; refine ⟨fun v1 hv1 => ?_, ?_⟩; (· (go_simp; rfl)); simp only [Act.put, List.setIfInBounds_toArray, List.set_cons_zero, List.set_cons_succ]
          refine anyT_val (But.pre _) 5 rfl (by kernel_rfl) (by kernel_rfl) (by kernel_rfl) (fun _ _ _ _ h => h) rfl ?_; apply Exists.intro; refine ⟨fun v1 hv1 => ?_, ?_⟩; (· (go_simp; rfl)); simp only [Act.put, List.setIfInBounds_toArray, List.set_cons_zero, List.set_cons_succ]
          refine anyT_val (But.pre _) 6 rfl (by kernel_rfl) (by kernel_rfl) (by kernel_rfl) (fun _ _ _ _ h => h) rfl ?_; apply Exists.intro; refine ⟨fun v1 hv1 => ?_, ?_⟩; (· (go_simp; rfl)); simp only [Act.put, List.setIfInBounds_toArray, List.set_cons_zero, List.set_cons_succ]
          refine anyT_one 7 rfl (by kernel_rfl) rfl ?_
          unfold Oper.wp
          go_simp
          have l4 : Later W3 (W3.alloc (.cells #[.nilFunc, .nilFunc] 241)) := (Below.refl _ _).alloc (Nat.le_refl _) _
          have g4 := heap_alloc_new W3 (.cells #[.nilFunc, .nilFunc] 241)
          have b4 : Below w0q.heap.size w0q (W3.alloc (.cells #[.nilFunc, .nilFunc] 241)) := (bd.trans (l3.mono hz)).trans (l4.mono (Nat.le_trans hz l3.size))
          have hge : w0q.heap.size ≤ W3.heap.size := Nat.le_trans hz l3.size
          refine ⟨But.of l4, ?_⟩
          generalize W3.alloc (.cells #[.nilFunc, .nilFunc] 241) = W4 at *
          generalize W3.heap.size = g at *
          have kg := block_cell g4
          have fg := block_frozen g4
          have hsf := run_store_nf Tryz.prog
          refine anyT_one 8 rfl (by kernel_rfl) rfl ?_
          unfold Oper.wp
          go_simp
          generalize hV : (W4.setCell ⟨g, 0, none⟩ _).setCell ⟨g, 1, none⟩ _ = V
          have hV8 : V = putRow W4 (g) 0 [.nilFunc, .nilFunc] := hV.symm
          have hbV : But (fun b => w0q.heap.size ≤ b) W4 V := by rw [hV8]; exact putRow_but (E := fun b => w0q.heap.size ≤ b) (n := g) hge _ _ _ _ (But.refl _ _)
          have pV := putRow_all [Value.nilFunc, .nilFunc] g4 rfl
          rw [← hV8] at pV
          clear hV hV8 kg fg hsf
          refine ⟨hbV, ?_⟩
          refine anyT_one 9 rfl (by kernel_rfl) rfl ?_
          unfold Oper.wp
          go_simp
          refine ⟨But.refl _ _, ?_⟩
          refine anyT_done (by kernel_rfl) ?_
          have hbl : Below w0q.heap.size w0q V := b4.trans (hbV.below b4.size (fun k hk e => by omega))
          clear ha
          go_wp2_with fail
          go_meet
          exact ⟨_, rfl, rfl, pV, hbl⟩
        · unfold Oper.wp
          go_simp
          have l4 : Later W3 (W3.alloc (.cells #[.nilFunc, .nilFunc] 241)) := (Below.refl _ _).alloc (Nat.le_refl _) _
          have g4 := heap_alloc_new W3 (.cells #[.nilFunc, .nilFunc] 241)
          have b4 : Below w0q.heap.size w0q (W3.alloc (.cells #[.nilFunc, .nilFunc] 241)) := (bd.trans (l3.mono hz)).trans (l4.mono (Nat.le_trans hz l3.size))
          have hge : w0q.heap.size ≤ W3.heap.size := Nat.le_trans hz l3.size
          have hM4 := (l4.block m (Array.getElem?_eq_some_iff.1 hM3).1).trans hM3
          refine ⟨But.of l4, ?_⟩
          clear hlk
          generalize W3.alloc (.cells #[.nilFunc, .nilFunc] 241) = W4 at *
          generalize W3.heap.size = g at *
          have hlk := look_none hno hM4
          refine anyT_one 3 rfl (by kernel_rfl) rfl ?_
          unfold Oper.wp
          go_simp
          refine ⟨But.refl _ _, ?_⟩
          clear hlk
          refine anyT_val (But.pre _) 4 rfl (by kernel_rfl) (by kernel_rfl) (by kernel_rfl) (fun _ _ _ _ h => h) rfl ?_; apply Exists.intro; refine ⟨fun v1 hv1 => ?_, ?_⟩; (· (go_simp; rfl)); simp only [Act.put, List.setIfInBounds_toArray, List.set_cons_zero, List.set_cons_succ]
          refine anyT_val (But.pre _) 5 rfl (by kernel_rfl) (by kernel_rfl) (by kernel_rfl) (fun _ _ _ _ h => h) rfl ?_; apply Exists.intro; refine ⟨fun v1 hv1 => ?_, ?_⟩; (· (go_simp; rfl)); simp only [Act.put, List.setIfInBounds_toArray, List.set_cons_zero, List.set_cons_succ]
          refine anyT_val (But.pre _) 6 rfl (by kernel_rfl) (by kernel_rfl) (by kernel_rfl) (fun _ _ _ _ h => h) rfl ?_; apply Exists.intro; refine ⟨fun v1 hv1 => ?_, ?_⟩; (· (go_simp; rfl)); simp only [Act.put, List.setIfInBounds_toArray, List.set_cons_zero, List.set_cons_succ]
          have kg := block_cell g4
          have fg := block_frozen g4
          have hsf := run_store_nf Tryz.prog
          refine anyT_one 8 rfl (by kernel_rfl) rfl ?_
          unfold Oper.wp
          go_simp
          generalize hV : (W4.setCell ⟨g, 0, none⟩ _).setCell ⟨g, 1, none⟩ _ = V
          have hV8 : V = putRow W4 (g) 0 [.nilFunc, .nilFunc] := hV.symm
          have hbV : But (fun b => w0q.heap.size ≤ b) W4 V := by rw [hV8]; exact putRow_but (E := fun b => w0q.heap.size ≤ b) (n := g) hge _ _ _ _ (But.refl _ _)
          have pV := putRow_all [Value.nilFunc, .nilFunc] g4 rfl
          rw [← hV8] at pV
          clear hV hV8 kg fg hsf
          refine ⟨hbV, ?_⟩
          refine anyT_one 9 rfl (by kernel_rfl) rfl ?_
          unfold Oper.wp
          go_simp
          refine ⟨But.refl _ _, ?_⟩
          refine anyT_done (by kernel_rfl) ?_
          have hbl : Below w0q.heap.size w0q V := b4.trans (hbV.below b4.size (fun k hk e => by omega))
          clear ha
          go_wp2_with fail
          go_meet
          exact ⟨_, rfl, rfl, pV, hbl⟩
      · unfold Oper.wp
        go_simp
        have l4 : Later Wd (Wd.alloc (.cells #[.nilFunc, .nilFunc] 241)) := (Below.refl _ _).alloc (Nat.le_refl _) _
        have g4 := heap_alloc_new Wd (.cells #[.nilFunc, .nilFunc] 241)
        have b4 : Below w0q.heap.size w0q (Wd.alloc (.cells #[.nilFunc, .nilFunc] 241)) := bd.trans (l4.mono hz)
        refine ⟨But.of l4, ?_⟩
        have hge : w0q.heap.size ≤ Wd.heap.size := hz
        generalize Wd.alloc (.cells #[.nilFunc, .nilFunc] 241) = W4 at *
        generalize Wd.heap.size = g at *
        refine anyT_one 0 rfl (by kernel_rfl) rfl ?_
        refine wp_enter 126 #[] (by go_simp) ?_
        refine (readers_any W4).mono ?_
        rintro e W5 ⟨m, rfl, hb5, hM5⟩
        have l5 : Later W4 W5 := hb5
        have g5 := (l5.block g (Array.getElem?_eq_some_iff.1 g4).1).trans g4
        have b5 : Below w0q.heap.size w0q W5 := b4.trans (l5.mono b4.size)
        refine ⟨But.of l5, ?_⟩
        simp only [Act.put, List.setIfInBounds_toArray, List.set_cons_zero, List.set_cons_succ]
        have hlk := look_none hno hM5
        refine anyT_one 3 rfl (by kernel_rfl) rfl ?_
        unfold Oper.wp
        go_simp
        refine ⟨But.refl _ _, ?_⟩
        clear hlk
        refine anyT_val (But.pre _) 4 rfl (by kernel_rfl) (by kernel_rfl) (by kernel_rfl) (fun _ _ _ _ h => h) rfl ?_; apply Exists.intro; refine ⟨fun v1 hv1 => ?_, ?_⟩; (· (go_simp; rfl)); simp only [Act.put, List.setIfInBounds_toArray, List.set_cons_zero, List.set_cons_succ]
        refine anyT_val (But.pre _) 5 rfl (by kernel_rfl) (by kernel_rfl) (by kernel_rfl) (fun _ _ _ _ h => h) rfl ?_; apply Exists.intro; refine ⟨fun v1 hv1 => ?_, ?_⟩; (· (go_simp; rfl)); simp only [Act.put, List.setIfInBounds_toArray, List.set_cons_zero, List.set_cons_succ]
        refine anyT_val (But.pre _) 6 rfl (by kernel_rfl) (by kernel_rfl) (by kernel_rfl) (fun _ _ _ _ h => h) rfl ?_; apply Exists.intro; refine ⟨fun v1 hv1 => ?_, ?_⟩; (· (go_simp; rfl)); simp only [Act.put, List.setIfInBounds_toArray, List.set_cons_zero, List.set_cons_succ]
        have kg := block_cell g5
        have fg := block_frozen g5
        have hsf := run_store_nf Tryz.prog
        refine anyT_one 8 rfl (by kernel_rfl) rfl ?_
        unfold Oper.wp
        go_simp
        generalize hV : (W5.setCell ⟨g, 0, none⟩ _).setCell ⟨g, 1, none⟩ _ = V
        have hV8 : V = putRow W5 (g) 0 [.nilFunc, .nilFunc] := hV.symm
        have hbV : But (fun b => w0q.heap.size ≤ b) W5 V := by rw [hV8]; exact putRow_but (E := fun b => w0q.heap.size ≤ b) (n := g) hge _ _ _ _ (But.refl _ _)
        have pV := putRow_all [Value.nilFunc, .nilFunc] g5 rfl
        rw [← hV8] at pV
        clear hV hV8 kg fg hsf
        refine ⟨hbV, ?_⟩
        refine anyT_one 9 rfl (by kernel_rfl) rfl ?_
        unfold Oper.wp
        go_simp
        refine ⟨But.refl _ _, ?_⟩
        refine anyT_done (by kernel_rfl) ?_
        have hbl : Below w0q.heap.size w0q V := b5.trans (hbV.below b5.size (fun k hk e => by omega))
        clear ha
        go_wp2_with fail
        go_meet
        exact ⟨_, rfl, rfl, pV, hbl⟩
    case rest =>
      obtain ⟨g, rfl, rfl, hg, hbc⟩ := hcut
      have rX := (hbc.block _ (Array.getElem?_eq_some_iff.1 r3).1).trans r3
      have hwX := hw3.trans (hbc.mono hw3.size)
      have kX := block_cell rX
      have fX := block_frozen rX
      go_wp2_with fail
      generalize hV : ((((wc.setCell ⟨w.heap.size + 1, 0, none⟩ _).setCell ⟨w.heap.size + 1, 1, none⟩ _).setCell ⟨w.heap.size + 1, 2, none⟩ _).setCell ⟨w.heap.size + 1, 3, none⟩ _).setCell ⟨w.heap.size + 1, 4, none⟩ _ = V
      have hV8 : V = putRow wc (w.heap.size + 1) 0 [.int .u8 0, .int .u32 0, .int .u32 0, .int .u16 0, .int .u16 0] := hV.symm
      have hbV : But (fun b => b = w.heap.size + 1) wc V := by rw [hV8]; exact putRow_but (E := fun b => b = w.heap.size + 1) (n := w.heap.size + 1) rfl _ _ _ _ (But.refl _ _)
      have pV := putRow_all ([.int .u8 0, .int .u32 0, .int .u32 0, .int .u16 0, .int .u16 0] : List Value) rX rfl
      rw [← hV8] at pV
      clear hV hV8 kX fX
      have PV := block_cell pV
      have hwV : Below w.heap.size w V := hwX.trans (hbV.below hwX.size (fun k hk e => by omega))
      exact bodyPost_ret (v := .tuple #[.agg #[.int .u8 0, .int .u32 0, .int .u32 0, .int .u16 0, .int .u16 0], .int .i64 12]) (by simp [results, Tryz.results128, go_sem, PV]) rfl ⟨hwV, rfl⟩

theorem take8 (d : List Int) (h : 8 ≤ d.length) : d.take 8 = [d[0]?.getD 0, d[1]?.getD 0, d[2]?.getD 0, d[3]?.getD 0, d[4]?.getD 0, d[5]?.getD 0, d[6]?.getD 0, d[7]?.getD 0] := by
  match d, h with
  | x0 :: x1 :: x2 :: x3 :: x4 :: x5 :: x6 :: x7 :: r, _ => rfl
theorem By8 {d : List Int} (hB : Mt.By d) (h : 8 ≤ d.length) : Mt.By [d[0]?.getD 0, d[1]?.getD 0, d[2]?.getD 0, d[3]?.getD 0, d[4]?.getD 0, d[5]?.getD 0, d[6]?.getD 0, d[7]?.getD 0] := by rw [← take8 d h]; exact hB.take 8
theorem g8_0 (d : List Int) : getAt2 [d[0]?.getD 0, d[1]?.getD 0, d[2]?.getD 0, d[3]?.getD 0, d[4]?.getD 0, d[5]?.getD 0, d[6]?.getD 0, d[7]?.getD 0] 0 = wat d 0 := rfl
theorem g8_2 (d : List Int) : getAt2 [d[0]?.getD 0, d[1]?.getD 0, d[2]?.getD 0, d[3]?.getD 0, d[4]?.getD 0, d[5]?.getD 0, d[6]?.getD 0, d[7]?.getD 0] 2 = wat d 2 := rfl
theorem g8_4 (d : List Int) : getAt2 [d[0]?.getD 0, d[1]?.getD 0, d[2]?.getD 0, d[3]?.getD 0, d[4]?.getD 0, d[5]?.getD 0, d[6]?.getD 0, d[7]?.getD 0] 4 = wat d 4 := rfl
theorem g8_6 (d : List Int) : getAt2 [d[0]?.getD 0, d[1]?.getD 0, d[2]?.getD 0, d[3]?.getD 0, d[4]?.getD 0, d[5]?.getD 0, d[6]?.getD 0, d[7]?.getD 0] 6 = wat d 6 := rfl
theorem qdt_len {mz : List Int} (hB : Mt.By mz) (h : rde true mz = 0) : 8 ≤ (qdt mz).length := by
  unfold rde at h
  have hh := hl4_bd hB
  by_cases h1 : msr mz ≠ 0
  · rw [if_pos h1] at h; exact absurd h h1
  rw [if_neg h1] at h
  by_cases h2 : (mz.length : Int) < ral true mz
  · rw [if_pos h2] at h; exact absurd h (by decide)
  rw [if_neg h2] at h
  by_cases h3 : chk mz ≠ 0
  · rw [if_pos h3] at h; exact absurd h h3
  rw [if_neg h3] at h
  by_cases h4 : ral true mz - hl4 mz < 8
  · rw [if_pos ⟨rfl, h4⟩] at h; exact absurd h (by decide)
  unfold qdt
  rw [List.length_drop, List.length_take]
  omega
theorem By_qdt {mz : List Int} (hB : Mt.By mz) : Mt.By (qdt mz) := (hB.take _).drop _

theorem cf_two (args : Array Value) (w : World) : (callFunc 171 args).run Tryz.prog w = .ok (.enter 171 args) w := by kernel_rfl

theorem cf_echo (args : Array Value) (w : World) : (callFunc 174 args).run Tryz.prog w = .ok (.enter 174 args) w := by kernel_rfl

theorem cf_begin (args : Array Value) (w : World) : (callFunc 176 args).run Tryz.prog w = .ok (.enter 176 args) w := by kernel_rfl

def quv (proto : Int) (zd : List Int) : Value := otv (que proto zd) (qpr (zd.drop 8)) (wat4 (zd.drop 8) 12) (wat4 (zd.drop 8) 16) (qia (qpr (zd.drop 8)) (qdt (zd.drop 8))) (qib (qpr (zd.drop 8)) (qdt (zd.drop 8)))

set_option maxHeartbeats 2000000 in
theorem quoted_any (tos id ttl proto src dst : Int) (keep : Bool) (so sd : Value) (zd : List Int) (w : World) (hT : Tb w) (hB : Mt.By zd) (hI : Rd w.heap.size w sd zd) (hl : zd.length ≤ 140737488355328) :
    Calls Tryz.prog 128 #[.agg #[.int .u8 tos, .int .u16 id, .bool keep, .int .u8 ttl, .int .u8 proto, .int .u32 src, .int .u32 dst, so, sd]] w fun e w' => Below w.heap.size w w' ∧ e = .returned (.tuple #[quv proto zd, .int .i64 (que proto zd)]) := by
  unfold quv
  by_cases hpi : pie proto zd = 0
  · cases her : erb (zd[0]?.getD 0) with
    | false =>
      have hq : que proto zd = 12 := by unfold que; rw [if_neg (fun h => h hpi), if_pos her]
      rw [otv_no (by rw [hq]; decide)]
      exact quoted_bad tos id ttl proto src dst keep so sd zd w hT hB hI hl (.inr (.inl her))
    | true =>
      by_cases hrd : rde true (zd.drop 8) = 0
      · have h8 := qdt_len (hB.drop 8) hrd
        have hBq := By8 (By_qdt (hB.drop 8)) h8
        have hq : que proto zd = qie (qpr (zd.drop 8)) (qdt (zd.drop 8)) := by unfold que; rw [if_neg (fun h => h hpi), if_neg (by rw [her]; decide), if_neg (fun h => h hrd)]
        rw [hq]
        obtain ⟨pr, hpr⟩ : ∃ pr, (zd.drop 8)[9]?.getD 0 = pr := ⟨_, rfl⟩
        rw [show qpr (zd.drop 8) = pr from hpr]
        by_cases h6 : pr = 6
        · subst h6
          exact quoted_gen 6 (wat (qdt (zd.drop 8)) 0) (wat (qdt (zd.drop 8)) 2) 0 _ _ tos id ttl proto src dst keep so sd zd w hT hB hI hl hpi her hrd hpr h8 (fun _ _ h => look_tcp h) cf_two (fun w' hb => (ofTwo_any ((qdt (zd.drop 8))[0]?.getD 0) ((qdt (zd.drop 8))[1]?.getD 0) ((qdt (zd.drop 8))[2]?.getD 0) ((qdt (zd.drop 8))[3]?.getD 0) ((qdt (zd.drop 8))[4]?.getD 0) ((qdt (zd.drop 8))[5]?.getD 0) ((qdt (zd.drop 8))[6]?.getD 0) ((qdt (zd.drop 8))[7]?.getD 0) w' hBq).mono fun e w'' h => ⟨h.1, _, _, h.2, fun _ => ⟨g8_0 _, g8_2 _⟩⟩)
        by_cases h17 : pr = 17
        · subst h17
          exact quoted_gen 17 (wat (qdt (zd.drop 8)) 0) (wat (qdt (zd.drop 8)) 2) 0 _ _ tos id ttl proto src dst keep so sd zd w hT hB hI hl hpi her hrd hpr h8 (fun _ _ h => look_udp h) cf_two (fun w' hb => (ofTwo_any ((qdt (zd.drop 8))[0]?.getD 0) ((qdt (zd.drop 8))[1]?.getD 0) ((qdt (zd.drop 8))[2]?.getD 0) ((qdt (zd.drop 8))[3]?.getD 0) ((qdt (zd.drop 8))[4]?.getD 0) ((qdt (zd.drop 8))[5]?.getD 0) ((qdt (zd.drop 8))[6]?.getD 0) ((qdt (zd.drop 8))[7]?.getD 0) w' hBq).mono fun e w'' h => ⟨h.1, _, _, h.2, fun _ => ⟨g8_0 _, g8_2 _⟩⟩)
        by_cases h1 : pr = 1
        · subst h1
          have hqi : qie 1 (qdt (zd.drop 8)) = if ecb ((qdt (zd.drop 8))[0]?.getD 0) ((qdt (zd.drop 8))[1]?.getD 0) = true then 0 else 12 := rfl
          rw [hqi]
          refine quoted_gen 1 (wat (qdt (zd.drop 8)) 4) (wat (qdt (zd.drop 8)) 4) _ _ _ tos id ttl proto src dst keep so sd zd w hT hB hI hl hpi her hrd hpr h8 (fun _ _ h => look_icmp h) cf_echo (fun w' hb => (ofEcho_any ((qdt (zd.drop 8))[0]?.getD 0) ((qdt (zd.drop 8))[1]?.getD 0) ((qdt (zd.drop 8))[2]?.getD 0) ((qdt (zd.drop 8))[3]?.getD 0) ((qdt (zd.drop 8))[4]?.getD 0) ((qdt (zd.drop 8))[5]?.getD 0) ((qdt (zd.drop 8))[6]?.getD 0) ((qdt (zd.drop 8))[7]?.getD 0) w' hBq).mono fun e w'' h => ?_)
          rcases h with ⟨hb2, ⟨he, rfl⟩ | ⟨he, rfl⟩⟩
          · rw [if_pos he]
            exact ⟨hb2, _, _, rfl, fun _ => ⟨g8_4 _, g8_4 _⟩⟩
          · rw [if_neg (by rw [he]; decide)]
            exact ⟨hb2, _, _, rfl, fun h => absurd h (by decide)⟩
        by_cases h47 : pr = 47
        · subst h47
          have hqi : qie 47 (qdt (zd.drop 8)) = if pge 47 ((qdt (zd.drop 8)).take 8) = 4 then 4 else 0 := rfl
          rw [hqi, take8 _ h8]
          refine quoted_gen 47 0 (wat (qdt (zd.drop 8)) 6) _ _ _ tos id ttl proto src dst keep so sd zd w hT hB hI hl hpi her hrd hpr h8 (fun _ _ h => look_gre h) cf_begin (fun w' hb => (ofBegin_any ((qdt (zd.drop 8))[0]?.getD 0) ((qdt (zd.drop 8))[1]?.getD 0) ((qdt (zd.drop 8))[2]?.getD 0) ((qdt (zd.drop 8))[3]?.getD 0) ((qdt (zd.drop 8))[4]?.getD 0) ((qdt (zd.drop 8))[5]?.getD 0) ((qdt (zd.drop 8))[6]?.getD 0) ((qdt (zd.drop 8))[7]?.getD 0) w' (hT.below hb hT.pos) hBq).mono fun e w'' h => ?_)
          rcases h with ⟨hb2, ⟨he, rfl⟩ | ⟨he, rfl⟩⟩
          · rw [if_pos he]
            exact ⟨hb2, _, _, rfl, fun h => absurd h (by decide)⟩
          · rw [if_neg he]
            exact ⟨hb2, _, _, rfl, fun _ => ⟨rfl, g8_6 _⟩⟩
        have hqi : qie pr (qdt (zd.drop 8)) = 12 := by unfold qie; rw [if_neg h6, if_neg h17, if_neg h1, if_neg h47]
        rw [hqi, otv_no (show (12 : Int) ≠ 0 by decide)]
        exact quoted_other pr tos id ttl proto src dst keep so sd zd w hT hB hI hl hpi her hrd hpr h8 ⟨h6, h17, h1, h47⟩
      · have hq : que proto zd = rde true (zd.drop 8) := by unfold que; rw [if_neg (fun h => h hpi), if_neg (by rw [her]; decide), if_pos hrd]
        rw [otv_no (by rw [hq]; exact hrd)]
        exact quoted_bad tos id ttl proto src dst keep so sd zd w hT hB hI hl (.inr (.inr hrd))
  · have hq : que proto zd = pie proto zd := if_pos hpi
    rw [otv_no (by rw [hq]; exact hpi)]
    exact quoted_bad tos id ttl proto src dst keep so sd zd w hT hB hI hl (.inl hpi)
end Go.Proofs.YtohflohdbkamnaaGreatDoor

/- Layer 7: a map that a call makes, looked up. -/
namespace Go.Proofs.YtohflohdbkamnaaGreatDoor
open Go.RowKit Go.Shelf
set_option maxRecDepth 100000
set_option linter.unusedVariables false
set_option linter.unusedSimpArgs false

end Go.Proofs.YtohflohdbkamnaaGreatDoor

/- Layer 7: what a segment tells, and what follows. -/
namespace Go.Proofs.YtohflohdbkamnaaGreatDoor
open Go.RowKit Go.Shelf
set_option maxRecDepth 100000
set_option linter.unusedVariables false
set_option linter.unusedSimpArgs false

def fb (fl k : Int) : Int := bits .and .u8 fl k
def bgn (fl : Int) : Bool := bits .and .u8 fl 23 == 2
theorem begins_any (fl : Int) (w : World) : Calls Tryz.prog 182 #[.int .u8 fl] w fun e w' => e = .returned (.bool (bgn fl)) ∧ w' = w := by
  go_enter Tryz.func182, Tryz.ntmps182
  go_wp2_with fail
  go_ret
  exact ⟨rfl, rfl⟩

end Go.Proofs.YtohflohdbkamnaaGreatDoor

/- A gateway behind which nobody has spoken, in memory; what is found in it. -/
namespace Go.Proofs.YtohflohdbkamnaaGreatDoor
open Go.RowKit Go.Shelf
set_option maxRecDepth 100000
set_option linter.unusedVariables false
set_option linter.unusedSimpArgs false

/-- A gateway's parts. -/
structure Gs where
  lo : Int
  hi : Int
  now : Int
  ls : List Ru
  gr : Nat
  gf : Nat
  gt : Nat
  gb : Nat
  gp : Nat
  vr : Value
  ve : Value
  cf : Nat
  cp : Nat
/-- Its cells. -/
def gtc (s : Gs) : List Value := [.int .u16 s.lo, .int .u16 s.hi, .int .i64 s.now, .int .i64 0, .pointer (some ⟨s.gr, 0, none⟩), .map (some s.gf), .pointer (some ⟨s.gt, 0, none⟩), .pointer (some ⟨s.gb, 0, none⟩), .map (some s.gp)]
/-- A gateway with rules and no flow, nothing expected, no number taken. -/
structure GI (base : Nat) (W : World) (g : Nat) (s : Gs) : Prop where
  bs : base ≤ g
  gc : W.heap[g]? = some (.cells (gtc s).toArray 65 (0, 0))
  rl : RL 166 base W s.gr s.vr s.ls
  tb : TB base W s.gt 128 0 0 (fun _ => [])
  bl : BL 174 base W s.gb s.ve []
  fl : W.heap[s.gf]? = some (.map #[] s.cf)
  pl : W.heap[s.gp]? = some (.map #[] s.cp)
theorem TB.laterD {base : Nat} {A B : World} {b : Nat} {lim cnt trn : Int} {ls : Nat → List Rw} (h : TB base A b lim cnt trn ls) (l : Later A B) : TB base B b lim cnt trn ls := let ⟨vs, h⟩ := h; ⟨vs, h.later l⟩
theorem GI.later {base : Nat} {A B : World} {g : Nat} {s : Gs} (h : GI base A g s) (l : Later A B) : GI base B g s :=
  ⟨h.bs, later_keep l h.gc, h.rl.later l, h.tb.laterD l, h.bl.later l, later_keep l h.fl, later_keep l h.pl⟩
theorem gtv_none (p s d a b : Int) : gtv p s d a b (fun _ => []) = .tuple #[.int .i64 0, .int .i64 0, .bool false] := rfl
theorem get_none (base gt : Nat) (p x d a b : Int) (W : World) (h : TB base W gt 128 0 0 (fun _ => [])) (hs : 0 ≤ x ∧ x ≤ 4294967295) (hd : 0 ≤ d ∧ d ≤ 4294967295) (ha : 0 ≤ a ∧ a ≤ 65535) (hb : 0 ≤ b ∧ b ≤ 65535) :
    Calls Tryz.prog 51 #[.pointer (some ⟨gt, 0, none⟩), .agg #[.int .u8 p, .int .u32 x, .int .u32 d, .int .u16 a, .int .u16 b]] W fun e w' => e = .returned (.tuple #[.int .i64 0, .int .i64 0, .bool false]) ∧ Later W w' := by
  refine (get_any base gt 128 0 0 (fun _ => []) p x d a b W h hs hd ha hb).mono ?_
  rintro e w' ⟨h1, rfl⟩
  exact ⟨by rw [gtv_none], h1⟩

set_option maxRecDepth 100000 in
set_option maxHeartbeats 4000000 in
theorem lookUp_none (base g : Nat) (s : Gs) (p x d a b : Int) (w : World) (h : GI base w g s) (hs : 0 ≤ x ∧ x ≤ 4294967295) (hd : 0 ≤ d ∧ d ≤ 4294967295) (ha : 0 ≤ a ∧ a ≤ 65535) (hb : 0 ≤ b ∧ b ≤ 65535) :
    Calls Tryz.prog 21 #[.pointer (some ⟨g, 0, none⟩), .agg #[.int .u8 p, .int .u32 x, .int .u32 d, .int .u16 a, .int .u16 b]] w fun e w' => e = .returned (.tuple #[.pointer none, .bool false, .bool false]) ∧ Later w w' := by
  have l0 := later_allocG w (.cells #[.int .u8 p, .int .u32 x, .int .u32 d, .int .u16 a, .int .u16 b] 69)
  have C0 := hide (heap_alloc_new w (.cells #[.int .u8 p, .int .u32 x, .int .u32 d, .int .u16 a, .int .u16 b] 69))
  have HG := hide (h.later l0)
  have HGT := hide (fun W (l : Later w W) => get_none base s.gt p x d a b W (h.tb.laterD l) hs hd ha hb)
  clear h hs hd ha hb
  go_enter Tryz.func21, Tryz.ntmps21
  go_upto_region 1 with fail
  generalize w.alloc _ = w1 at *
  generalize w.heap.size = gx at *
  refine anyR_begin (R := Later) Later.pre Later.drew 13 rfl (by kernel_rfl) (fun V0 hV0 => ?_)
  have q0 : ∀ v, Later V0 v → ∀ j, v.cell? ⟨gx, j, none⟩ = #[.int .u8 p, .int .u32 x, .int .u32 d, .int .u16 a, .int .u16 b][j]? := fun v hv => block_cell (later_keep (hV0.trans hv) C0.out)
  have q1 : ∀ v, Later V0 v → ∀ j, v.cell? ⟨g, j, none⟩ = (gtc s).toArray[j]? := fun v hv => block_cell (later_keep (hV0.trans hv) HG.out.gc)
  unfold gtc at q1
  refine anyR_val Later.pre 0 rfl (by kernel_rfl) (by kernel_rfl) (by kernel_rfl) (fun _ _ _ _ h => h) rfl ?_; apply Exists.intro; refine ⟨fun v1 hv1 => ?_, ?_⟩; (· (go_simp; rfl)); simp only [Act.put, List.setIfInBounds_toArray, List.set_cons_zero, List.set_cons_succ]
  refine anyR_val Later.pre 1 rfl (by kernel_rfl) (by kernel_rfl) (by kernel_rfl) (fun _ _ _ _ h => h) rfl ?_; apply Exists.intro; refine ⟨fun v1 hv1 => ?_, ?_⟩; (· (go_simp; rfl)); simp only [Act.put, List.setIfInBounds_toArray, List.set_cons_zero, List.set_cons_succ]
  refine anyR_val Later.pre 2 rfl (by kernel_rfl) (by kernel_rfl) (by kernel_rfl) (fun _ _ _ _ h => h) rfl ?_; apply Exists.intro; refine ⟨fun v1 hv1 => ?_, ?_⟩; (· (go_simp; rfl)); simp only [Act.put, List.setIfInBounds_toArray, List.set_cons_zero, List.set_cons_succ]
  refine anyR_val Later.pre 3 rfl (by kernel_rfl) (by kernel_rfl) (by kernel_rfl) (fun _ _ _ _ h => h) rfl ?_; apply Exists.intro; refine ⟨fun v1 hv1 => ?_, ?_⟩; (· (go_simp; rfl)); simp only [Act.put, List.setIfInBounds_toArray, List.set_cons_zero, List.set_cons_succ]
  refine anyR_val Later.pre 4 rfl (by kernel_rfl) (by kernel_rfl) (by kernel_rfl) (fun _ _ _ _ h => h) rfl ?_; apply Exists.intro; refine ⟨fun v1 hv1 => ?_, ?_⟩; (· (go_simp; rfl)); simp only [Act.put, List.setIfInBounds_toArray, List.set_cons_zero, List.set_cons_succ]
  clear q0 q1
  refine anyR_take Later.pre 5 (.tuple #[.int .i64 0, .int .i64 0, .bool false]) rfl (by kernel_rfl) (by kernel_rfl) (by kernel_rfl) (fun _ _ _ h => h) rfl (fun u hu => goes_call 51 #[.pointer (some ⟨s.gt, 0, none⟩), .agg #[.int .u8 p, .int .u32 x, .int .u32 d, .int .u16 a, .int .u16 b]] (by go_simp) (HGT.out u (Later.trans l0 (hV0.trans hu)))) ?_
  simp only [Act.put, List.setIfInBounds_toArray, List.set_cons_zero, List.set_cons_succ]
  refine anyR_val Later.pre 6 rfl (by kernel_rfl) (by kernel_rfl) (by kernel_rfl) (fun _ _ _ _ h => h) rfl ?_; apply Exists.intro; refine ⟨fun v1 hv1 => ?_, ?_⟩; (· (go_simp; rfl)); simp only [Act.put, List.setIfInBounds_toArray, List.set_cons_zero, List.set_cons_succ]
  refine anyR_val Later.pre 7 rfl (by kernel_rfl) (by kernel_rfl) (by kernel_rfl) (fun _ _ _ _ h => h) rfl ?_; apply Exists.intro; refine ⟨fun v1 hv1 => ?_, ?_⟩; (· (go_simp; rfl)); simp only [Act.put, List.setIfInBounds_toArray, List.set_cons_zero, List.set_cons_succ]
  refine anyR_val Later.pre 8 rfl (by kernel_rfl) (by kernel_rfl) (by kernel_rfl) (fun _ _ _ _ h => h) rfl ?_; apply Exists.intro; refine ⟨fun v1 hv1 => ?_, ?_⟩; (· (go_simp; rfl)); simp only [Act.put, List.setIfInBounds_toArray, List.set_cons_zero, List.set_cons_succ]
  refine anyR_val Later.pre 9 rfl (by kernel_rfl) (by kernel_rfl) (by kernel_rfl) (fun _ _ _ _ h => h) rfl ?_; apply Exists.intro; refine ⟨fun v1 hv1 => ?_, ?_⟩; (· (go_simp; rfl)); simp only [Act.put, List.setIfInBounds_toArray, List.set_cons_zero, List.set_cons_succ]
  refine anyR_val Later.pre 10 rfl (by kernel_rfl) (by kernel_rfl) (by kernel_rfl) (fun _ _ _ _ h => h) rfl ?_; apply Exists.intro; refine ⟨fun v1 hv1 => ?_, ?_⟩; (· (go_simp; rfl)); simp only [Act.put, List.setIfInBounds_toArray, List.set_cons_zero, List.set_cons_succ]
  refine anyR_val Later.pre 11 rfl (by kernel_rfl) (by kernel_rfl) (by kernel_rfl) (fun _ _ _ _ h => h) rfl ?_; apply Exists.intro; refine ⟨fun v1 hv1 => ?_, ?_⟩; (· (go_simp; rfl)); simp only [Act.put, List.setIfInBounds_toArray, List.set_cons_zero, List.set_cons_succ]
  refine anyR_val Later.pre 12 rfl (by kernel_rfl) (by kernel_rfl) (by kernel_rfl) (fun _ _ _ _ h => h) rfl ?_; apply Exists.intro; refine ⟨fun v1 hv1 => ?_, ?_⟩; (· (go_simp; rfl)); simp only [Act.put, List.setIfInBounds_toArray, List.set_cons_zero, List.set_cons_succ]
  refine anyR_done (by kernel_rfl) (fun V9 hV9 => ?_)
  go_wp2_with fail
  exact bodyPost_ret (v := .tuple #[.pointer none, .bool false, .bool false]) (by simp [results, Tryz.results21, go_sem]) rfl ⟨rfl, Later.trans l0 (hV0.trans hV9)⟩
end Go.Proofs.YtohflohdbkamnaaGreatDoor

/- Regions that draw their order, with guards: an operation that only reckons is taken first, one that is alone is taken in its world. -/
namespace Go.Proofs.YtohflohdbkamnaaGreatDoor
open Go.RowKit Go.Shelf
set_option maxRecDepth 100000
set_option linter.unusedVariables false

section
variable {P : Program} {ops : Array Oper} {Q : Exit → Act → World → Prop} {md : Region.Mode} {R : World → World → Prop}
def GivesG (P : Program) (ops : Array Oper) (R : World → World → Prop) (o : Oper) (v : Value) (a : Act) (w : World) : Prop :=
  Region.wanted o (yielded ops a.tmps) = true ∧ ∀ w', R w w' → (execOp a.eval o).run P w' = .ok (.value v) w'
theorem GivesG.of_same {o : Oper} {v : Value} {a a' : Act} {w : World} (hy : GivesG P ops R o v a w) (he : execOp a'.eval o = execOp a.eval o)
    (hw : Region.wanted o (yielded ops a'.tmps) = Region.wanted o (yielded ops a.tmps)) : GivesG P ops R o v a' w := by
  unfold GivesG at *
  rw [he, hw]
  exact hy
theorem GivesG.up {o : Oper} {v : Value} {a : Act} {w w' : World} (ht : ∀ a b c, R a b → R b c → R a c) (hy : GivesG P ops R o v a w) (h : R w w') : GivesG P ops R o v a w' := ⟨hy.1, fun w'' h' => hy.2 w'' (ht _ _ _ h h')⟩

theorem wpOp_putG {j : Nat} {oi oj : Oper} {v : Value} (hj : ops[j]? = some oj) (hap : oi.apart ops oj = true)
    (hsi : ∀ cs b, oi.op ≠ .select cs b) (hsj : ∀ cs b, oj.op ≠ .select cs b)
    (hQ : ∀ c a w, Q (.panic c) (a.put oi.dst v) w → Q (.panic c) a w) {K : Act → World → Prop} {a : Act} {w w₀ : World}
    (hy : GivesG P ops R oi v a w₀) (h : wpOp P ops Q j K (a.put oi.dst v) w) :
    wpOp P ops Q j (fun a' w' => GivesG P ops R oi v a' w₀ ∧ K (a'.put oi.dst v) w') a w := by
  obtain ⟨h1, h2, h3⟩ := Oper.apart_spec hap
  have keep : ∀ (a : Act), GivesG P ops R oi v a w₀ → ∀ u, GivesG P ops R oi v (a.put oj.dst u) w₀ := fun a hy u =>
    hy.of_same (execOp_put oi hsi a oj.dst u h3) (wanted_put oi a oj.dst u h3)
  have keepD : ∀ d, GivesG P ops R oi v { a with defers := d :: a.defers } w₀ := fun d => hy.of_same rfl rfl
  unfold wpOp at *
  simp only [hj] at *
  rw [wanted_put oj a oi.dst v h1] at h
  split
  · rename_i hw
    simp only [hw, if_true] at h
    rcases h with h | ⟨hasks, hlets⟩
    case inr => exact .inr ⟨by unfold Oper.asks at *; rw [execOp_put oj hsj a oi.dst v h1] at hasks; exact hasks, hlets⟩
    refine .inl ?_
    unfold Oper.wp at *
    rw [execOp_put oj hsj a oi.dst v h1] at h
    generalize (execOp a.eval oj).run P w = r at *
    cases r with
    | ok n w' =>
      cases n <;> simp only [Oper.upon] at h ⊢
      case value u => exact ⟨keep a hy u, by rw [← Act.put_comm a v u h2]; exact h⟩
      case skip => exact ⟨keep a hy _, by rw [← Act.put_comm a v undef h2]; exact h⟩
      case defer d =>
        refine ⟨keep _ (keepD d) _, ?_⟩
        rw [← Act.put_comm _ v undef h2, ← Act.put_defers]
        exact h
      case enter f args =>
        refine Calls.mono h fun e w'' he => ?_
        cases e with
        | returned u => exact ⟨keep a hy u, by rw [← Act.put_comm a v u h2]; exact he⟩
        | panicked c => exact hQ _ _ _ he
        | outgrown => exact he
      case row row args => exact Rows.mono h fun u w'' he => ⟨keep a hy u, by rw [← Act.put_comm a v u h2]; exact he⟩
    | halt x w' =>
      cases x <;> simp only [Oper.upon] at h ⊢
      case panic u => exact hQ _ _ _ h
  · rename_i hw
    simp only [hw] at h
    exact ⟨keep a hy _, by rw [← Act.put_comm a v undef h2]; exact h⟩

theorem GivesG.wpOp {i : Nat} {o : Oper} {v : Value} {a : Act} {w : World} (hr : ∀ a, R a a) (hi : ops[i]? = some o) (hy : GivesG P ops R o v a w)
    {K : Act → World → Prop} (h : K (a.put o.dst v) w) : Go.wpOp P ops Q i K a w := by
  unfold Go.wpOp
  simp only [hi, hy.1, if_true]
  refine .inl ?_
  unfold Oper.wp
  rw [hy.2 w (hr w)]
  exact h

end

section
variable {P : Program} {l : List Oper} {Q : Exit → Act → World → Prop} {fuel : Nat} {listed : Array Bool} {a : Act} {w : World} {R : World → World → Prop}
end
end Go.Proofs.YtohflohdbkamnaaGreatDoor

/- Regions that draw their order: some operations (those of D) may turn more than the others; what is read ahead of them is taken first. -/
namespace Go.Proofs.YtohflohdbkamnaaGreatDoor
open Go.RowKit Go.Shelf
set_option maxRecDepth 100000
set_option linter.unusedVariables false

def Rj (R1 R2 : World → World → Prop) (D : List Nat) (j : Nat) : World → World → Prop := if D.contains j = true then R2 else R1
theorem Rj_in {R1 R2 : World → World → Prop} {D : List Nat} {j : Nat} (h : D.contains j = true) {w w' : World} (k : R2 w w') : Rj R1 R2 D j w w' := by unfold Rj; rw [if_pos h]; exact k
theorem Rj_out {R1 R2 : World → World → Prop} {D : List Nat} {j : Nat} (h : D.contains j = false) {w w' : World} (k : R1 w w') : Rj R1 R2 D j w w' := by unfold Rj; rw [if_neg (by rw [h]; simp)]; exact k

section
variable {P : Program} {ops : Array Oper} {Q : Exit → Act → World → Prop} {md : Region.Mode} {R1 R2 S : World → World → Prop} {D : List Nat}
def wpAnyU (P : Program) (md : Region.Mode) (ops : Array Oper) (Q : Exit → Act → World → Prop) (R1 R2 : World → World → Prop) (D : List Nat) : Nat → Array Bool → Act → World → Prop
  | 0, listed, a, w => Region.ready md ops listed = [] ∧ Q .normal a w
  | fuel + 1, listed, a, w =>
    (Region.ready md ops listed = [] → Q .normal a w) ∧
    ∀ i ∈ Region.ready md ops listed, wpOp P ops Q i (fun a' w'' => Rj R1 R2 D i w w'' ∧ wpAnyU P md ops Q R1 R2 D fuel (listed.setIfInBounds i true) a' w'') a w

theorem wpAny_of_U : ∀ (fuel : Nat) (listed : Array Bool) (a : Act) (w : World), wpAnyU P md ops Q R1 R2 D fuel listed a w → wpAny P md ops Q fuel listed a w
  | 0, _, _, _, h => h
  | fuel + 1, _, _, _, h => ⟨h.1, fun i hi => wpOp_mono (fun a' w' h' => wpAny_of_U fuel _ a' w' h'.2) (h.2 i hi)⟩

theorem wpAnyU_first (hre : ∀ a, S a a) (ht : ∀ a b c, S a b → S b c → S a c) {i : Nat} {oi : Oper} {v : Value} (hi : ops[i]? = some oi) (hself : ∀ w, Rj R1 R2 D i w w) (hsel : ∀ (j : Nat) (o : Oper) cs b, ops[j]? = some o → o.op ≠ .select cs b)
    (hQ : ∀ c a w, Q (.panic c) (a.put oi.dst v) w → Q (.panic c) a w) (Inv : Array Bool → Prop)
    (hInv : ∀ listed, Inv listed → listed.getD i true = false → ∀ j ∈ Region.ready md ops listed, j ≠ i → (∀ w w', Rj R1 R2 D j w w' → S w w') ∧ Inv (listed.setIfInBounds j true)) :
    ∀ (fuel : Nat) (listed : Array Bool) (a : Act) (w : World), Inv listed →
      (∀ j oj, ops[j]? = some oj → j ≠ i → listed.getD j true = false → (∀ e ∈ oj.after, Region.binds md e = true → e.on ≠ i) → oi.apart ops oj = true) →
      i ∈ Region.ready md ops listed → GivesG P ops S oi v a w →
      wpAnyU P md ops Q R1 R2 D fuel (listed.setIfInBounds i true) (a.put oi.dst v) w → wpAnyU P md ops Q R1 R2 D (fuel + 1) listed a w := by
  intro fuel
  induction fuel with
  | zero =>
    intro listed a w _ _ hr hy H
    refine ⟨fun h => (by rw [h] at hr; cases hr), fun j hj => ?_⟩
    by_cases hji : j = i
    · subst hji; exact hy.wpOp hre hi ⟨hself _, H⟩
    · have := ready_mono hj hji
      rw [H.1] at this
      cases this
  | succ fuel ih =>
    intro listed a w hinv hfree hr hy H
    refine ⟨fun h => (by rw [h] at hr; cases hr), fun j hj => ?_⟩
    by_cases hji : j = i
    · subst hji; exact hy.wpOp hre hi ⟨hself _, H⟩
    · have h1 := H.2 j (ready_mono hj hji)
      obtain ⟨hjun, oj, hoj, hall⟩ := mem_ready.1 hj
      have hnot : ∀ e ∈ oj.after, Region.binds md e = true → e.on ≠ i := fun e he hb heq => by
        have h1 := hall e he hb
        have h0 := (mem_ready.1 hr).1
        rw [heq] at h1
        rcases Nat.lt_or_ge i listed.size with h' | h'
        · simp [h'] at h0 h1; rw [h0] at h1; cases h1
        · simp [Array.getElem?_eq_none h'] at h1
      have h2 := wpOp_putG hoj (hfree j oj hoj hji hjun hnot) (fun cs b => hsel i oi cs b hi) (fun cs b => hsel j oj cs b hoj) hQ hy h1
      have hfree' : ∀ k ok, ops[k]? = some ok → k ≠ i → (listed.setIfInBounds j true).getD k true = false →
          (∀ e ∈ ok.after, Region.binds md e = true → e.on ≠ i) → oi.apart ops ok = true := fun k ok hk hki hun hno => by
        refine hfree k ok hk hki ?_ hno
        by_cases hjk : j = k
        · subst hjk; exact hjun
        · rw [getD_set_ne true hjk] at hun; exact hun
      obtain ⟨hs, hinv'⟩ := hInv listed hinv (mem_ready.1 hr).1 j hj hji
      refine wpOp_mono (fun a' w'' h3 => ⟨h3.2.1, ih (listed.setIfInBounds j true) a' w'' hinv' hfree' (ready_mono hr (Ne.symm hji)) (h3.1.up ht (hs _ _ h3.2.1)) ?_⟩) h2
      rw [Array.setIfInBounds_comm _ _ hji]
      exact h3.2.2
/-- None of D can be taken as long as i is not. -/
def blocks (md : Region.Mode) (ops : Array Oper) (D : List Nat) (i : Nat) : Bool := D.all fun d => match ops[d]? with
  | some o => o.after.any fun e => Region.binds md e && (e.on == i || D.contains e.on)
  | none => false
theorem blocks_spec {i : Nat} (h : blocks md ops D i = true) {listed : Array Bool} (hi : listed.getD i true = false) (hD : ∀ d ∈ D, listed.getD d true = false) {j : Nat} (hj : j ∈ Region.ready md ops listed) : j ∉ D := fun hjD => by
  obtain ⟨_, o, ho, hall⟩ := mem_ready.1 hj
  unfold blocks at h
  rw [List.all_eq_true] at h
  have h1 := h j hjD
  rw [ho] at h1
  simp only [Array.any_eq_true] at h1
  obtain ⟨k, hk, he⟩ := h1
  simp only [Bool.and_eq_true, Bool.or_eq_true, beq_iff_eq] at he
  have hl := hall o.after[k] (Array.getElem_mem hk) he.1
  have no : ∀ x, listed.getD x true = false → listed.getD x false = true → False := fun x h0 h1 => by
    rcases Nat.lt_or_ge x listed.size with h' | h'
    · simp [h'] at h0 h1; rw [h0] at h1; cases h1
    · simp [Array.getElem?_eq_none h'] at h1
  rcases he.2 with e | e
  · rw [e] at hl
    exact no i hi hl
  · exact no _ (hD _ (by simpa using e)) hl
end

section
variable {P : Program} {l : List Oper} {Q : Exit → Act → World → Prop} {fuel : Nat} {listed : Array Bool} {a : Act} {w : World} {R1 R2 S : World → World → Prop} {D : List Nat}
/-- What is read ahead of those of D: none of B, among which they are, can be taken as long as it is not. -/
theorem anyU_val (hp : Pre R1) (i : Nat) (B : List Nat) {oi : Oper} (hi : nthOp l i = some oi) (hiD : D.contains i = false) (hsub : D.all (fun d => B.contains d) = true) (hbl : blocks .any l.toArray B i = true) (hun : B.all (fun d => !(listed.getD d true)) = true)
    (hs : Region.noSelect l.toArray = true) (hf : Region.free .any l.toArray listed i = true) (hr : (Region.ready .any l.toArray listed).contains i = true)
    (hQ : ∀ v c a w, Q (.panic c) (a.put oi.dst v) w → Q (.panic c) a w) (hg : Region.wanted oi (yielded l.toArray a.tmps) = true)
    (h : ∃ v, (∀ w', R1 w w' → (execOp a.eval oi).run P w' = .ok (.value v) w') ∧ wpAnyU P .any l.toArray Q R1 R2 D fuel (listed.setIfInBounds i true) (a.put oi.dst v) w) : wpAnyU P .any l.toArray Q R1 R2 D (fuel + 1) listed a w := by
  obtain ⟨v, h1, h2⟩ := h
  have hi' : l.toArray[i]? = some oi := by rw [← hi, nthOp_eq]; simp
  have hunp : ∀ d ∈ B, listed.getD d true = false := fun d hd => by
    have := List.all_eq_true.1 hun d hd
    simpa using this
  refine wpAnyU_first (S := R1) hp.1 hp.2 hi' (fun w => Rj_out hiD (hp.1 w)) (Region.noSelect_spec hs) (hQ v) (fun listed => ∀ d ∈ B, listed.getD d true = false) ?_ fuel listed a w hunp (Region.free_spec hi' hf) (by simpa using hr) ⟨hg, h1⟩ h2
  intro listed' hinv hiu j hj hji
  have hjB := blocks_spec hbl hiu hinv hj
  have hjD : j ∉ D := fun hd => hjB (by simpa using List.all_eq_true.1 hsub j hd)
  have hjc : D.contains j = false := by cases hc : D.contains j with | false => rfl | true => exact absurd (by simpa using hc) hjD
  refine ⟨fun w w' hR => by unfold Rj at hR; rw [if_neg (by rw [hjc]; simp)] at hR; exact hR, fun d hd => ?_⟩
  by_cases hdj : j = d
  · subst hdj; exact absurd hd hjB
  · rw [getD_set_ne true hdj]; exact hinv d hd
theorem anyU_begin {id : Nat} (n : Nat) (hn : l.length = n) (hm : P.follows .mixedOrders = true)
    (h : wpAnyU P .any l.toArray Q R1 R2 D n (Array.replicate n false) a w.drew) : (Code.region id l.toArray true).wp P Q a w := by
  subst hn
  refine wp_region_any hm (wpAny_of_U (R1 := R1) (R2 := R2) (D := D) _ _ _ _ ?_)
  simpa using h
theorem anyU_done (hr : Region.ready .any l.toArray listed = []) (h : Q .normal a w) : wpAnyU P .any l.toArray Q R1 R2 D fuel listed a w := by
  cases fuel with
  | zero => exact ⟨hr, h⟩
  | succ n => exact ⟨fun _ => h, by rw [hr]; simp⟩
theorem anyU_one (i : Nat) {oi : Oper} (hi : nthOp l i = some oi) (hr : Region.ready .any l.toArray listed = [i]) (hg : Region.wanted oi (yielded l.toArray a.tmps) = true)
    (h1 : oi.wp P a w (fun a' w'' => Rj R1 R2 D i w w'' ∧ wpAnyU P .any l.toArray Q R1 R2 D fuel (listed.setIfInBounds i true) a' w'') Q) :
    wpAnyU P .any l.toArray Q R1 R2 D (fuel + 1) listed a w := by
  have hi' : l.toArray[i]? = some oi := by rw [← hi, nthOp_eq]; simp
  refine ⟨fun h0 => (by rw [hr] at h0; cases h0), fun k hk => ?_⟩
  rw [hr] at hk
  unfold wpOp
  obtain rfl : k = i := by simpa using hk
  rw [hi']; simp only [hg, if_true]; exact .inl h1
end
end Go.Proofs.YtohflohdbkamnaaGreatDoor

/- A region that draws its order, in a round of a range over a function. -/
namespace Go.Proofs.YtohflohdbkamnaaGreatDoor
open Go.RowKit Go.Shelf
set_option maxRecDepth 100000
set_option linter.unusedVariables false

def calmQ (Q : Act → World → Prop) : Exit → Act → World → Prop := fun e a w => e = .normal ∧ Q a w
variable {P : Program} {R : World → World → Prop} {w : World} {a : Act} {ops : List Oper}
theorem anyU_two {R1 R2 : World → World → Prop} {D : List Nat} {fuel : Nat} {listed : Array Bool} {Q : Exit → Act → World → Prop} (i j : Nat) {oi oj : Oper} (hi : nthOp ops i = some oi) (hj : nthOp ops j = some oj) (hr : Region.ready .any ops.toArray listed = [i, j]) (gi : Region.wanted oi (yielded ops.toArray a.tmps) = true) (gj : Region.wanted oj (yielded ops.toArray a.tmps) = true)
    (h1 : oi.wp P a w (fun a' w'' => Rj R1 R2 D i w w'' ∧ wpAnyU P .any ops.toArray Q R1 R2 D fuel (listed.setIfInBounds i true) a' w'') Q)
    (h2 : oj.wp P a w (fun a' w'' => Rj R1 R2 D j w w'' ∧ wpAnyU P .any ops.toArray Q R1 R2 D fuel (listed.setIfInBounds j true) a' w'') Q) :
    wpAnyU P .any ops.toArray Q R1 R2 D (fuel + 1) listed a w := by
  have hi' : ops.toArray[i]? = some oi := by rw [← hi, nthOp_eq]; simp
  have hj' : ops.toArray[j]? = some oj := by rw [← hj, nthOp_eq]; simp
  refine ⟨fun h0 => (by rw [hr] at h0; cases h0), fun k hk => ?_⟩
  rw [hr] at hk
  unfold wpOp
  rcases List.mem_cons.1 hk with rfl | hk
  · rw [hi']; simp only [gi, if_true]; exact .inl h1
  · obtain rfl : k = j := by simpa using hk
    rw [hj']; simp only [gj, if_true]; exact .inl h2
end Go.Proofs.YtohflohdbkamnaaGreatDoor

/- Package gate: what a packet's flags are, whether it asks; a flow from outside that nobody called for. -/
namespace Go.Proofs.YtohflohdbkamnaaGreatDoor
open Go.RowKit Go.Shelf
set_option maxRecDepth 100000
set_option linter.unusedVariables false
set_option linter.unusedSimpArgs false

theorem wp_calmG {P : Program} {c : Code} {Q : Exit → Act → World → Prop} {a : Act} {w : World} (h : c.wp P (calmQ (Q .normal)) a w) : c.wp P Q a w := wp_mono h (fun e a w h => by obtain ⟨rfl, h⟩ := h; exact h)
/-- Some flags are handed back. -/
def FlQ (e : Ending) : Prop := ∃ f : Int, e = .returned (.int .u8 f)
/-- Some answer is handed back. -/
def AsQ (e : Ending) : Prop := ∃ f : Bool, e = .returned (.bool f)

set_option maxRecDepth 100000 in
set_option maxHeartbeats 4000000 in
theorem flags_some (g : Nat) (tos id ttl pr src dst : Int) (keep : Bool) (so sd : Value) (side : Int) (zd : List Int) (w : World) (hB : Mt.By zd) (hI : Rd w.heap.size w sd zd) (hl : zd.length ≤ 70000) (hsr : 0 ≤ src ∧ src ≤ 4294967295) (hds : 0 ≤ dst ∧ dst ≤ 4294967295) :
    Calls Tryz.prog 183 #[.agg #[.pointer (some ⟨g, 0, none⟩), .int .u8 tos, .int .u16 id, .bool keep, .int .u8 ttl, .int .u8 pr, .int .u32 src, .int .u32 dst, so, sd, .int .i64 side]] w fun e w' => FlQ e ∧ Later w w' := by
  have l0 := later_allocG w (.cells #[.pointer (some ⟨g, 0, none⟩), .int .u8 tos, .int .u16 id, .bool keep, .int .u8 ttl, .int .u8 pr, .int .u32 src, .int .u32 dst, so, sd, .int .i64 side] 111)
  have C0 := hide (heap_alloc_new w (.cells #[.pointer (some ⟨g, 0, none⟩), .int .u8 tos, .int .u16 id, .bool keep, .int .u8 ttl, .int .u8 pr, .int .u32 src, .int .u32 dst, so, sd, .int .i64 side] 111))
  have HP := hide (parseTcp_any tos id ttl pr src dst keep so sd zd _ hB (hI.later l0) (by omega) hsr hds)
  go_enter Tryz.func183, Tryz.ntmps183
  go_upto_region 1 with fail
  generalize w.alloc _ = w1 at *
  generalize w.heap.size = gx at *
  have k0 := block_cell C0.out
  go_wp2_with fail
  refine HP.out.mono ?_
  rintro e w2 ⟨l2, ⟨h1, rfl⟩ | ⟨h1, os, aO, cO, ad, cd, ho, rfl, hO, hD⟩⟩
  · clear k0
    unfold zsg
    go_upto_region 2 with fail
    have la := later_allocG w2 (.cells #[.int .u16 0, .int .u16 0, .int .u32 0, .int .u32 0, .int .u8 0, .int .u16 0, .int .u16 0, .slice none 0 0, .slice none 0 0] 148)
    have kn := block_cell (heap_alloc_new w2 (.cells #[.int .u16 0, .int .u16 0, .int .u32 0, .int .u32 0, .int .u8 0, .int .u16 0, .int .u16 0, .slice none 0 0, .slice none 0 0] 148))
    generalize w2.alloc _ = w3 at *
    go_wp2_with fail
    go_ret
    exact ⟨⟨_, rfl⟩, Later.trans l0 (Later.trans l2 la)⟩
  · clear k0
    go_upto_region 2 with fail
    have la := later_allocG w2 (.cells #[.int .u16 (wat zd 0), .int .u16 (wat zd 2), .int .u32 (wat4 zd 4), .int .u32 (wat4 zd 8), .int .u8 (zd[13]?.getD 0), .int .u16 (wat zd 14), .int .u16 (wat zd 18), .slice aO os.length cO, .slice ad (zd.length - (thd zd).toNat) cd] 148)
    have kn := block_cell (heap_alloc_new w2 (.cells #[.int .u16 (wat zd 0), .int .u16 (wat zd 2), .int .u32 (wat4 zd 4), .int .u32 (wat4 zd 8), .int .u8 (zd[13]?.getD 0), .int .u16 (wat zd 14), .int .u16 (wat zd 18), .slice aO os.length cO, .slice ad (zd.length - (thd zd).toNat) cd] 148))
    generalize w2.alloc _ = w3 at *
    go_wp2_with fail
    go_ret
    exact ⟨⟨_, rfl⟩, Later.trans l0 (Later.trans l2 la)⟩

set_option maxRecDepth 100000 in
set_option maxHeartbeats 4000000 in
theorem gasks_some (g : Nat) (tos id ttl pr src dst : Int) (keep : Bool) (so sd : Value) (side : Int) (zd : List Int) (w : World) (hB : Mt.By zd) (hI : Rd w.heap.size w sd zd) (hl : zd.length ≤ 70000) :
    Calls Tryz.prog 184 #[.agg #[.pointer (some ⟨g, 0, none⟩), .int .u8 tos, .int .u16 id, .bool keep, .int .u8 ttl, .int .u8 pr, .int .u32 src, .int .u32 dst, so, sd, .int .i64 side]] w fun e w' => AsQ e ∧ Later w w' := by
  have l0 := later_allocG w (.cells #[.pointer (some ⟨g, 0, none⟩), .int .u8 tos, .int .u16 id, .bool keep, .int .u8 ttl, .int .u8 pr, .int .u32 src, .int .u32 dst, so, sd, .int .i64 side] 111)
  have C0 := hide (heap_alloc_new w (.cells #[.pointer (some ⟨g, 0, none⟩), .int .u8 tos, .int .u16 id, .bool keep, .int .u8 ttl, .int .u8 pr, .int .u32 src, .int .u32 dst, so, sd, .int .i64 side] 111))
  have HP := hide (parseIcmp_any tos id ttl pr src dst keep so sd zd _ hB (hI.later l0) (by omega))
  go_enter Tryz.func184, Tryz.ntmps184
  go_upto_region 1 with fail
  generalize w.alloc _ = w1 at *
  generalize w.heap.size = gx at *
  have k0 := block_cell C0.out
  go_wp2_with fail
  refine HP.out.mono ?_
  rintro e w2 ⟨l2, ⟨h1, rfl⟩ | ⟨h1, ad, cd, rfl, hD⟩⟩
  · clear k0
    unfold zm
    go_upto_region 2 with fail
    have la := later_allocG w2 (.cells #[.int .u8 0, .int .u8 0, .int .u32 0, .slice none 0 0] 154)
    have kn := block_cell (heap_alloc_new w2 (.cells #[.int .u8 0, .int .u8 0, .int .u32 0, .slice none 0 0] 154))
    generalize w2.alloc _ = w3 at *
    go_wp2_with fail
    refine (asks_any _ _ _ _ w3).mono ?_
    rintro e w4 ⟨rfl, l4⟩
    go_wp2_with fail
    go_ret
    exact ⟨⟨_, rfl⟩, Later.trans l0 (Later.trans l2 (Later.trans la l4))⟩
  · clear k0
    go_upto_region 2 with fail
    have la := later_allocG w2 (.cells #[.int .u8 (zd[0]?.getD 0), .int .u8 (zd[1]?.getD 0), .int .u32 (wat4 zd 4), .slice ad (zd.length - 8) cd] 154)
    have kn := block_cell (heap_alloc_new w2 (.cells #[.int .u8 (zd[0]?.getD 0), .int .u8 (zd[1]?.getD 0), .int .u32 (wat4 zd 4), .slice ad (zd.length - 8) cd] 154))
    generalize w2.alloc _ = w3 at *
    go_wp2_with fail
    refine (asks_any _ _ _ _ w3).mono ?_
    rintro e w4 ⟨rfl, l4⟩
    go_wp2_with fail
    go_ret
    exact ⟨⟨_, rfl⟩, Later.trans l0 (Later.trans l2 (Later.trans la l4))⟩
end Go.Proofs.YtohflohdbkamnaaGreatDoor
