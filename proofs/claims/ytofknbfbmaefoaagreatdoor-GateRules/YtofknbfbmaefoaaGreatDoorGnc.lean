import Derived.Test.YtofknbfbmaefoaaGreatDoorX1
import Derived.Test.YtofknbfbmaefoaaGreatDoorOpX
import Derived.Test.YtofknbfbmaefoaaGreatDoorX7
namespace Go.Proofs.YtofknbfbmaefoaaGreatDoor
set_option maxHeartbeats 8000000
open Go.RowKit Go.Shelf
set_option maxRecDepth 100000
set_option linter.unusedVariables false
set_option linter.unusedSimpArgs false
def prtL (lo sz : Int) : Int := if lo = 0 ∨ IntKind.u16.wrap (lo + sz.tmod 300) < lo then 1000 else lo
def prtH (lo sz : Int) : Int := if lo = 0 ∨ IntKind.u16.wrap (lo + sz.tmod 300) < lo then 1020 else IntKind.u16.wrap (lo + sz.tmod 300)
theorem prt_ok (lo sz : Int) (hlo : 0 ≤ lo ∧ lo ≤ 65535) : prtL lo sz ≠ 0 ∧ prtL lo sz ≤ prtH lo sz := by
 unfold prtL prtH
 by_cases h : lo = 0 ∨ IntKind.u16.wrap (lo + sz.tmod 300) < lo
 ·rw [if_pos h, if_pos h]; omega
 ·rw [if_neg h, if_neg h]; omega
theorem ports_any (lo sz : Int) (v : Value) (w : World) : Calls Tryz.prog 6 #[.agg #[.int .u16 lo, .int .u16 sz, v]] w fun e w' => e = .returned (.tuple #[.int .u16 (prtL lo sz), .int .u16 (prtH lo sz)]) ∧ Later w w' := by
 have l0 := later_allocG w (.cells #[.int .u16 lo, .int .u16 sz, v] 25)
 have C0 := hide (heap_alloc_new w (.cells #[.int .u16 lo, .int .u16 sz, v] 25))
 unfold prtL prtH
 go_enter Tryz.func6, Tryz.ntmps6
 go_upto_region 1 with fail
 generalize w.alloc _ = w1 at *
 generalize w.heap.size = gx at *
 have k0 := block_cell C0.out
 by_cases h0 : lo = 0
 ·subst h0
  go_wp2_with fail
  exact bodyPost_ret (v := .tuple #[.int .u16 1000, .int .u16 1020]) (by simp [results, Tryz.results6, go_sem]) rfl ⟨by first | rfl | rw [if_pos (.inl rfl), if_pos (.inl rfl)], l0⟩
 have t0 : (lo == 0) = false := by rw [beq_eq_false_iff_ne]; exact h0
 by_cases h1 : IntKind.u16.wrap (lo + sz.tmod 300) < lo
 ·go_upto_region 2 with fail
  generalize hW : IntKind.u16.wrap (lo + sz.tmod 300) = hw at *
  go_wp2_with fail
  exact bodyPost_ret (v := .tuple #[.int .u16 1000, .int .u16 1020]) (by simp [results, Tryz.results6, go_sem]) rfl ⟨by first | rfl | rw [if_pos (.inr h1), if_pos (.inr h1)], l0⟩
 ·go_upto_region 2 with fail
  generalize hW : IntKind.u16.wrap (lo + sz.tmod 300) = hw at *
  go_wp2_with fail
  exact bodyPost_ret (v := .tuple #[.int .u16 lo, .int .u16 hw]) (by simp [results, Tryz.results6, go_sem]) rfl ⟨by first | rfl | rw [if_neg (by rintro (h | h); exact h0 h; exact h1 h), if_neg (by rintro (h | h); exact h0 h; exact h1 h)], l0⟩
theorem gpacket_odd (g : Nat) (nw side : Int) (h0 : side ≠ 0) (h1 : side ≠ 1) (sa : Option Addr) (sl sc : Nat) (w : World) : Calls Tryz.prog 8 #[.pointer (some ⟨g, 0, none⟩), .int .i64 nw, .int .i64 side, .slice sa sl sc] w fun e w' => e = .returned (.agg (oc 6).toArray) ∧ Later w w' := by
 have l0 := later_allocG w (.cells (oc 0).toArray 40)
 have C0 := hide (heap_alloc_new w (.cells (oc 0).toArray 40))
 have t0 : (side == 0) = false := by rw [beq_eq_false_iff_ne]; exact h0
 have t1 : (side == 1) = false := by rw [beq_eq_false_iff_ne]; exact h1
 have t2 : (side != 0) = true := by simp [h0]
 have t3 : (side != 1) = true := by simp [h1]
 go_enter Tryz.func8, Tryz.ntmps8
 go_upto_region 1 with fail
 change Code.wp _ _ _ _ (w.alloc (.cells (oc 0).toArray 40))
 generalize w.alloc (.cells (oc 0).toArray 40) = w1 at *
 generalize hgx : w.heap.size = gx at C0 ⊢
 have k0 := block_cell C0.out
 have f0 := block_frozen C0.out
 go_wp2_with fail
 generalize hV : World.setCell _ ⟨gx, 2, none⟩ _ = V8
 have hV9 : V8 = putRow w1 gx 0 (oc 6) := hV.symm
 have hb8 : But (fun b => b = gx) w1 V8 := by rw [hV9]; exact putRow_but (E := fun b => b = gx) (n := gx) rfl _ _ _ _ (But.refl _ _)
 have p8 := putRow_all (oc 6) C0.out rfl
 rw [← hV9] at p8
 clear hV hV9
 have P8 := block_cell p8
 exact bodyPost_ret (v := .agg (oc 6).toArray) (by simp [results, Tryz.results8, go_sem, P8]) rfl ⟨rfl, Below.trans l0 (hb8.below l0.size (fun k hk e => by have e' : k = gx := e; omega))⟩
theorem gpacket_any (base g : Nat) (s : Gs) (nw side : Int) (sa : Option Addr) (sc : Nat) (zs : List Int) (w : World) (h : GI base w g s) (hls : s.ls = []) (hbs : base ≤ w.heap.size) (hT : ∀ W, Below base w W → Tb W) (hB : Mt.By zs) (hI : Rd base w (.slice sa zs.length sc) zs) (hl : zs.length ≤ 60000) :
  Calls Tryz.prog 8 #[.pointer (some ⟨g, 0, none⟩), .int .i64 nw, .int .i64 side, .slice sa zs.length sc] w fun e w' => OcQ e ∧ Below base w w' ∧ ∃ s', s'.ls = [] ∧ GI base w' g s' := by
 by_cases h0 : side = 0 ∨ side = 1
 ·refine (packet_none base g s nw side _ zs w h hbs hT ?_ hB hI hl).mono ?_
  ·rw [hls]
   rcases h0 with e | e
   ·exact .inr ⟨e, ⟨by simp, fun x hx => by cases hx⟩, fun y hy => by cases hy⟩
   ·exact .inl ⟨e, fun y hy => by cases hy⟩
  ·rintro e w' ⟨hq, hk⟩
   have hb := hk.below h hbs
   obtain ⟨_, s', hl', _, h'⟩ := hk
   exact ⟨hq, hb, s', hl'.trans hls, h'⟩
 ·refine (gpacket_odd g nw side (fun e => h0 (.inl e)) (fun e => h0 (.inr e)) sa zs.length sc w).mono ?_
  rintro e w' ⟨rfl, l⟩
  exact ⟨⟨6, by decide, rfl⟩, l.mono hbs, s, hls, h.later l⟩
theorem walk_GateRules (w : World) (hT : Tb w) (hz : Dz w) (lo sz : Int) (sv : Value) (l : List Aop) (hlo : 0 ≤ lo ∧ lo ≤ 65535) (hsz : 0 ≤ sz ∧ sz ≤ 65535) (hl : RdO16 w.heap.size w sv l) :
  Calls Tryz.prog 3 #[.agg #[.int .u16 lo, .int .u16 sz, sv]] w fun e w' => e = .returned (.bool true) ∧ Below w.heap.size w w' := by
 obtain ⟨sa, sc, rfl, _, hsm⟩ := hl.slice
 have l0 := later_allocG w (.cells #[.int .u16 lo, .int .u16 sz, .slice sa l.length sc] 25)
 have C0 := hide (heap_alloc_new w (.cells #[.int .u16 lo, .int .u16 sz, .slice sa l.length sc] 25))
 have HT := hide (fun W (k : Later w W) => (⟨hT.later k, hz.later k⟩ : Tb W ∧ Dz W))
 have HL := hide hl
 have HPO := hide (prt_ok lo sz hlo)
 clear hT hz hl
 go_enter Tryz.func3, Tryz.ntmps3
 go_upto_region 1 with fail
 generalize w.alloc _ = w1 at *
 generalize hgx : w.heap.size = gx at C0 ⊢
 have k0 := block_cell C0.out
 go_wp2_with fail
 refine (ports_any lo sz _ w1).mono ?_
 rintro e w2 ⟨rfl, l2⟩
 clear k0
 generalize prtL lo sz = pl at *
 generalize prtH lo sz = ph at *
 go_wp2_with fail
 refine (gnew_yes pl ph w2 HPO.out.1 HPO.out.2).mono ?_
 rintro e w3 ⟨g, s, rfl, l3, h3, hls, hgk⟩
 have L3 : Later w w3 := l0.trans (l2.trans l3)
 have H3 := hide h3
 have HLS := hide hls
 have hb3 : w2.heap.size ≤ w3.heap.size := l3.size
 have hwg : w.heap.size < w2.heap.size := by
  have h1 := (bl9 C0.out)
  have h2 := l2.size
  omega
 have D0 := hide (later_keep (l2.trans l3) C0.out)
 clear C0 h3 hls hgk l0 l2 l3
 go_upto_region 4 with fail
 go_loopw [6] (fun iv wr => ∃ (k : Nat) (s' : Gs), k ≤ l.length ∧ iv = .int .i64 (k : Int) ∧ Below w.heap.size w wr ∧ wr.heap[gx]? = some (.cells #[.int .u16 lo, .int .u16 sz, .slice sa l.length sc] 25 (0, 0)) ∧ s'.ls = [] ∧ GI w2.heap.size wr g s' ∧ w2.heap.size ≤ wr.heap.size) (fun iv _ => l.length - (intOf iv).toNat)
 case atStart => exact ⟨0, s, by omega, rfl, L3, D0.out, HLS.out, H3.out, hb3⟩
 case round =>
  obtain ⟨k, s', hk, rfl, hb, hc, hls', hG, hbr⟩ := hrel
  have HC := hide hc
  have HG := hide hG
  have HLS' := hide hls'
  clear hc hG hls'
  have kx := block_cell HC.out
  by_cases hkl : k < l.length
  ·by_cases hk8 : k < 80
   ·have hkl' : (k : Int) < (l.length : Int) := by omega
    have hk8' : (k : Int) < 80 := by omega
    obtain ⟨b, off, cap, e, hcl, hcm, hbn, hcs⟩ := HL.out.cells (by omega)
    have hd : wfAo w.heap.size w (l[k]) := HL.out.2 _ (List.getElem_mem hkl)
    have hcs' : ∀ i, i < 12 → wr.cell? ⟨b, off + k * 12 + i, none⟩ = (aoc l[k])[i]? := fun i hi => (hb.cell (p := ⟨b, off + k * 12 + i, none⟩) hbn).trans (hcs k hkl i hi)
    injection e with e1 e2 e3
    subst e1
    have HD := hide hd
    clear hcs hd e2 e3
    generalize l[k] = d at *
    obtain ⟨da, dc, deq, _, _⟩ := HD.out.2.1.slice
    have c0 := hcs' 0 (by omega)
    have c1 := hcs' 1 (by omega)
    have c2 := hcs' 2 (by omega)
    have c3 := hcs' 3 (by omega)
    have c4 := hcs' 4 (by omega)
    have c5 := hcs' 5 (by omega)
    have c6 := hcs' 6 (by omega)
    have c7 := hcs' 7 (by omega)
    have c8 := hcs' 8 (by omega)
    have c9 := hcs' 9 (by omega)
    have c10 := hcs' 10 (by omega)
    have c11 := hcs' 11 (by omega)
    simp only [aoc, List.getElem?_cons_zero, List.getElem?_cons_succ, Nat.add_zero] at c0 c1 c2 c3 c4 c5 c6 c7 c8 c9 c10 c11
    rw [deq] at c2
    clear hcs'
    have la := later_allocG wr (.cells #[.int .i64 d.kd, .int .i64 d.sd, .slice da d.zs.length dc, .int .i64 d.r.kind, .int .u8 d.r.proto, .int .u32 d.r.net, .int .i64 d.r.bits, .int .u32 d.r.tt, .int .u16 d.r.port, .int .u32 d.r.host, .int .u16 d.r.hp, .int .i64 d.nw] 37)
    have X := hide (heap_alloc_new wr (.cells #[.int .i64 d.kd, .int .i64 d.sd, .slice da d.zs.length dc, .int .i64 d.r.kind, .int .u8 d.r.proto, .int .u32 d.r.net, .int .i64 d.r.bits, .int .u32 d.r.tt, .int .u16 d.r.port, .int .u32 d.r.host, .int .u16 d.r.hp, .int .i64 d.nw] 37))
    have LA := hide la
    clear la
    go_upto_region 7 with fail
    clear c0 c1 c2 c3 c4 c5 c6 c7 c8 c9 c10 c11 kx
    change Code.wp _ _ _ _ (wr.alloc (.cells #[.int .i64 d.kd, .int .i64 d.sd, .slice da d.zs.length dc, .int .i64 d.r.kind, .int .u8 d.r.proto, .int .u32 d.r.net, .int .i64 d.r.bits, .int .u32 d.r.tt, .int .u16 d.r.port, .int .u32 d.r.host, .int .u16 d.r.hp, .int .i64 d.nw] 37))
    generalize wr.alloc (.cells #[.int .i64 d.kd, .int .i64 d.sd, .slice da d.zs.length dc, .int .i64 d.r.kind, .int .u8 d.r.proto, .int .u32 d.r.net, .int .i64 d.r.bits, .int .u32 d.r.tt, .int .u16 d.r.port, .int .u32 d.r.host, .int .u16 d.r.hp, .int .i64 d.nw] 37) = wa at *
    generalize hga : wr.heap.size = ga at X ⊢
    have ka := block_cell X.out
    have hba : Below w.heap.size w wa := hb.trans (LA.out.mono hb.size)
    have hca := later_keep LA.out HC.out
    have hGa := HG.out.later LA.out
    have hbra : w2.heap.size ≤ wa.heap.size := Nat.le_trans hbr LA.out.size
    have HCA := hide hca
    have HGA := hide hGa
    clear hca hGa
    by_cases hkd : d.kd = 0
    ·have tk : (d.kd != 0) = false := by rw [hkd]; decide
     by_cases hzl : d.zs.length ≤ 3000
     ·have tz : ¬ (3000 : Int) < (d.zs.length : Int) := by omega
      have hrd := HD.out.2.1
      rw [deq] at hrd
      have HP := hide (gpacket_any w2.heap.size g s' d.nw d.sd da dc d.zs wa HGA.out HLS'.out hbra (fun W k2 => (HT.out W (hba.trans (k2.mono (Nat.le_of_lt hwg)))).1) HD.out.1 ((hrd.below hba).mono (Nat.le_of_lt hwg)) (by omega))
      clear hrd deq
      go_wp2_with fail
      refine HP.out.mono ?_
      rintro e w5 ⟨⟨c, hc, rfl⟩, hb5, s5, hls5, h5⟩
      clear ka HP
      have la := later_allocG w5 (.cells (oc c).toArray 40)
      have X6 := hide (heap_alloc_new w5 (.cells (oc c).toArray 40))
      have H6 := hide (h5.later la)
      have B6 : Below w2.heap.size wa (w5.alloc (.cells (oc c).toArray 40)) := hb5.trans (la.mono (Nat.le_trans hbra hb5.size))
      clear la h5 hb5
      go_upto_region 9 with fail
      change Code.wp _ _ _ _ (w5.alloc (.cells (oc c).toArray 40))
      generalize w5.alloc (.cells (oc c).toArray 40) = w6 at *
      have k6 := block_cell X6.out
      have tc : (c == 0) = false := by rw [beq_eq_false_iff_ne]; omega
      have hs6 : w2.heap.size ≤ w6.heap.size := Nat.le_trans hbra B6.size
      have HF := hide (flows_none w2.heap.size g s5 w6 H6.out)
      go_wp2_with fail
      refine HF.out.mono ?_
      rintro e w7 ⟨rfl, l7⟩
      have HE := hide (expects_none w2.heap.size g s5 w7 (H6.out.later l7))
      clear k6 HF
      go_wp2_with fail
      refine HE.out.mono ?_
      rintro e w8 ⟨⟨ea, ec, rfl⟩, l8⟩
      have L68 : Later w6 w8 := l7.trans l8
      have B8 : Below w2.heap.size wa w8 := B6.trans (L68.mono hs6)
      clear HE
      go_wp2_with fail
      go_roundw
      case rel => exact ⟨k + 1, s5, by omega, by go_num, hba.trans (B8.mono (Nat.le_of_lt hwg)), (B8.block gx (by omega)).trans HCA.out, hls5, H6.out.later L68, Nat.le_trans hbra B8.size⟩
      case measure => simp [intOf]; omega
     ·have tz : (3000 : Int) < (d.zs.length : Int) := by omega
      go_wp2_with fail
      go_roundw
      case rel => exact ⟨k + 1, s', by omega, by go_num, hba, HCA.out, HLS'.out, HGA.out, hbra⟩
      case measure => simp [intOf]; omega
    ·have tk : (d.kd != 0) = true := by simp [hkd]
     go_wp2_with fail
     go_roundw
     case rel => exact ⟨k + 1, s', by omega, by go_num, hba, HCA.out, HLS'.out, HGA.out, hbra⟩
     case measure => simp [intOf]; omega
   ·have hk8' : ¬ (k : Int) < 80 := by omega
    have hkl' : (k : Int) < (l.length : Int) := by omega
    go_wp2_with fail
    refine (live16_any wr (HT.out wr hb).1 (HT.out wr hb).2).mono ?_
    rintro e w9 ⟨rfl, l9⟩
    go_wp2_with fail
    go_ret
    exact ⟨rfl, Below.trans hb (l9.mono hb.size)⟩
  ·obtain rfl : k = l.length := by omega
   go_wp2_with fail
   refine (live16_any wr (HT.out wr hb).1 (HT.out wr hb).2).mono ?_
   rintro e w9 ⟨rfl, l9⟩
   go_wp2_with fail
   go_ret
   exact ⟨rfl, Below.trans hb (l9.mono hb.size)⟩
end Go.Proofs.YtofknbfbmaefoaaGreatDoor
