import Derived.Test.YtofknbfbmaefoaaGreatDoorX12
import Derived.Test.YtofknbfbmaefoaaGreatDoorX13
import Derived.Test.YtofknbfbmaefoaaGreatDoorX16
import Derived.Test.YtofknbfbmaefoaaGreatDoorX20
import Derived.Laws.Cover3
import Derived.MapKept
import Derived.Test.YtofknbfbmaefoaaGreatDoorW1
namespace Go.Proofs.YtofknbfbmaefoaaGreatDoor
set_option maxHeartbeats 2000000
open Go.RowKit Go.Shelf
set_option maxRecDepth 100000
set_option linter.unusedVariables false
set_option linter.unusedSimpArgs false
def ofe (proto src dst : Int) (zd : List Int) : Int := if proto = 6 then pte 6 src dst zd else if proto = 17 then pue 17 src dst zd else if proto = 1 then oie zd else if proto = 47 then pge 47 zd else 12
def ofa (proto : Int) (zd : List Int) : Int := if proto = 6 then wat zd 0 else if proto = 17 then wat zd 0 else if proto = 1 then wat zd 4 else 0
def ofb (proto : Int) (zd : List Int) : Int := if proto = 6 then wat zd 2 else if proto = 17 then wat zd 2 else if proto = 1 then wat zd 4 else getAt2 zd 6
theorem of_any (tos id ttl proto src dst : Int) (keep : Bool) (so sd : Value) (zd : List Int) (w : World) (hT : Tb w) (hB : Mt.By zd) (hI : Rd w.heap.size w sd zd) (hl : 12 + zd.length ≤ 140737488355328) (hsr : 0 ≤ src ∧ src ≤ 4294967295) (hds : 0 ≤ dst ∧ dst ≤ 4294967295) :
  Calls Tryz.prog 21 #[.agg #[.int .u8 tos, .int .u16 id, .bool keep, .int .u8 ttl, .int .u8 proto, .int .u32 src, .int .u32 dst, so, sd]] w fun e w' => Below w.heap.size w w' ∧ e = .returned (.tuple #[otv (ofe proto src dst zd) proto src dst (ofa proto zd) (ofb proto zd), .int .i64 (ofe proto src dst zd)]) := by
 obtain ⟨ad, cd, rfl, _, _⟩ := hI.slice
 by_cases h6 : proto = 6
 ·subst h6
  exact of_gen 6 (wat zd 0) (wat zd 2) (pte 6 src dst zd) _ _ tos id ttl src dst keep so ad zd.length cd w (fun _ _ h => look_tcp h) cf_tcp (fun w' hb => ofTcp_any tos id ttl 6 src dst keep so _ zd w' hB ((hI.below hb).mono hb.size) hl hsr hds)
 by_cases h17 : proto = 17
 ·subst h17
  exact of_gen 17 (wat zd 0) (wat zd 2) (pue 17 src dst zd) _ _ tos id ttl src dst keep so ad zd.length cd w (fun _ _ h => look_udp h) cf_udp (fun w' hb => ofUdp_any tos id ttl 17 src dst keep so _ zd w' hB ((hI.below hb).mono hb.size) hl hsr hds)
 by_cases h1 : proto = 1
 ·subst h1
  exact of_gen 1 (wat zd 4) (wat zd 4) (oie zd) _ _ tos id ttl src dst keep so ad zd.length cd w (fun _ _ h => look_icmp h) cf_icmp (fun w' hb => ofIcmp_any tos id ttl src dst keep so _ zd w' hB ((hI.below hb).mono hb.size) (by omega))
 by_cases h47 : proto = 47
 ·subst h47
  exact of_gen 47 0 (getAt2 zd 6) (pge 47 zd) _ _ tos id ttl src dst keep so ad zd.length cd w (fun _ _ h => look_gre h) cf_gre (fun w' hb => ofGre_any tos id ttl 47 src dst keep so _ zd w' (hT.below hb hT.pos) hB ((hI.below hb).mono hb.size) hl hsr hds)
 have he : ofe proto src dst zd = 12 := by unfold ofe; rw [if_neg h6, if_neg h17, if_neg h1, if_neg h47]
 rw [he]
 exact of_other proto tos id ttl src dst keep so ad zd.length cd w ⟨h6, h17, h1, h47⟩
theorem parse_any (sv : Value) (zs : List Int) (w : World) (hB : Mt.By zs) (hl : zs.length ≤ 225000000000000) (hI : Rd w.heap.size w sv zs) :
  Calls Tryz.prog 19 #[sv] w fun e w' => Below w.heap.size w w' ∧
   ((rde false zs ≠ 0 ∧ e = .returned (.tuple #[.agg zc.toArray, .int .i64 (rde false zs)])) ∨
    (rde false zs = 0 ∧ ∃ so sd, e = .returned (.tuple #[pkt zs so sd, .int .i64 0]) ∧ Ow w.heap.size w' so ((zs.take (hl4 zs).toNat).drop 20) ∧ Ow w.heap.size w' sd ((zs.take (ral false zs).toNat).drop (hl4 zs).toNat))) := by
 obtain ⟨a, cap, rfl, hl1, hm1⟩ := hI.slice
 have hb1 : Below w.heap.size w (w.alloc (.cells zc.toArray 56)) := (Below.refl _ _).alloc (Nat.le_refl _) _
 have p1 := heap_alloc_new w (.cells zc.toArray 56)
 have H := hide (read_any false _ zs (w.alloc (.cells zc.toArray 56)) hB hl ((hI.below hb1).mono (by simp)))
 go_enter Tryz.func19, Tryz.ntmps19
 go_wp2_with fail
 refine H.out.mono ?_
 rintro e w2 ⟨hb2, ⟨h, rfl⟩ | ⟨h, so, sd, rfl, hO1, hO2⟩⟩
 ·have p2 := (hb2.block w.heap.size (by simp)).trans p1
  have P2 := block_cell p2
  have F2 := block_frozen p2
  go_wp2_with fail
  generalize hV : World.setCell _ ⟨w.heap.size, 8, none⟩ _ = V
  have hV9 : V = putRow w2 w.heap.size 0 zc := hV.symm
  have hb8 : But (fun b => b = w.heap.size) w2 V := by rw [hV9]; exact putRow_but (E := fun b => b = w.heap.size) (n := w.heap.size) rfl _ _ _ _ (But.refl _ _)
  have p8 := putRow_all zc p2 rfl
  rw [← hV9] at p8
  clear hV hV9 P2 F2 H
  have P8 := block_cell p8
  have hbW := (hb1.trans (hb2.mono (by simp))).trans (hb8.below (by have := hb2.size; simp at this; omega) (fun j h e => by omega))
  exact bodyPost_ret (v := .tuple #[.agg zc.toArray, .int .i64 (rde false zs)]) (by simp [results, Tryz.results19, go_sem, P8]) rfl ⟨hbW, .inl ⟨h, rfl⟩⟩
 ·have p2 := (hb2.block w.heap.size (by simp)).trans p1
  have P2 := block_cell p2
  have F2 := block_frozen p2
  obtain ⟨aso, cso, rfl, _, _⟩ := hO1.slice
  obtain ⟨asd, csd, rfl, _, _⟩ := hO2.slice
  generalize hL1 : ((zs.take (hl4 zs).toNat).drop 20).length = lo at *
  generalize hL2 : ((zs.take (ral false zs).toNat).drop (hl4 zs).toNat).length = ld at *
  have HL1 := hide hL1
  have HL2 := hide hL2
  clear hL1 hL2
  unfold pkt
  go_wp2_with fail
  generalize hV : World.setCell _ ⟨w.heap.size, 8, none⟩ _ = V
  have hV9 : V = putRow w2 w.heap.size 0 [.int .u8 (zs[1]?.getD 0), .int .u16 (wat zs 4), .bool (decide (16384 ≤ wat zs 6 % 32768)), .int .u8 (zs[8]?.getD 0), .int .u8 (zs[9]?.getD 0), .int .u32 (wat4 zs 12), .int .u32 (wat4 zs 16), .slice aso lo cso, .slice asd ld csd] := hV.symm
  have hb8 : But (fun b => b = w.heap.size) w2 V := by rw [hV9]; exact putRow_but (E := fun b => b = w.heap.size) (n := w.heap.size) rfl _ _ _ _ (But.refl _ _)
  have p8 := putRow_all [.int .u8 (zs[1]?.getD 0), .int .u16 (wat zs 4), .bool (decide (16384 ≤ wat zs 6 % 32768)), .int .u8 (zs[8]?.getD 0), .int .u8 (zs[9]?.getD 0), .int .u32 (wat4 zs 12), .int .u32 (wat4 zs 16), .slice aso lo cso, .slice asd ld csd] p2 rfl
  rw [← hV9] at p8
  clear hV hV9 P2 F2 H
  have P8 := block_cell p8
  have hbW := (hb1.trans (hb2.mono (by simp))).trans (hb8.below (by have := hb2.size; simp at this; omega) (fun j h e => by omega))
  exact bodyPost_ret (v := .tuple #[pkt zs (.slice aso lo cso) (.slice asd ld csd), .int .i64 0]) (by simp [results, Tryz.results19, go_sem, P8, pkt]) rfl ⟨hbW, .inr ⟨h, _, _, rfl, (hO1.but hb8 (fun b h e => by simp at h; omega)).mono (by simp), (hO2.but hb8 (fun b h e => by simp at h; omega)).mono (by simp)⟩⟩
section
variable (tos id : Int) (keep : Bool) (ttl proto src dst : Int) (zo zd : List Int) (all : Int)
theorem hdr_0 : (hdr tos id keep ttl proto src dst zo all ++ zd)[0]?.getD 0 = 64 + (20 + (zo.length : Int)) / 4 := by
 rw [hdr_eq]; unfold h20; simp
theorem hdr_1 : (hdr tos id keep ttl proto src dst zo all ++ zd)[1]?.getD 0 = tos := by
 rw [hdr_eq]; unfold h20; simp
theorem hdr_8 : (hdr tos id keep ttl proto src dst zo all ++ zd)[8]?.getD 0 = ttl := by
 rw [hdr_eq]; unfold h20; simp
theorem hdr_9 : (hdr tos id keep ttl proto src dst zo all ++ zd)[9]?.getD 0 = proto := by
 rw [hdr_eq]; unfold h20; simp
theorem hl4_hdr (h1 : zo.length ≤ 40) (h2 : zo.length % 4 = 0) : hl4 (hdr tos id keep ttl proto src dst zo all ++ zd) = ((20 + zo.length : Nat) : Int) := by
 unfold hl4
 rw [hdr_0]
 omega
theorem hdr_take : (hdr tos id keep ttl proto src dst zo all ++ zd).take (20 + zo.length) = hdr tos id keep ttl proto src dst zo all := by
 rw [← hdr_len tos id keep ttl proto src dst zo all, List.take_left]
theorem hdr_opts : (hdr tos id keep ttl proto src dst zo all).drop 20 = zo := by
 rw [hdr_eq, ← h20_length tos id keep ttl proto src dst zo.length all (hsum tos id keep ttl proto src dst zo all), List.drop_left]
theorem hdr_drop : (hdr tos id keep ttl proto src dst zo all ++ zd).drop (20 + zo.length) = zd := by
 rw [← hdr_len tos id keep ttl proto src dst zo all, List.drop_left]
theorem hdr_split (more : List Int) : ((hdr tos id keep ttl proto src dst zo all ++ (zd ++ more)).take (20 + zo.length + zd.length)).drop (20 + zo.length) = zd := by
 rw [List.drop_take, hdr_drop, show 20 + zo.length + zd.length - (20 + zo.length) = zd.length from by omega, List.take_left]
end
theorem rde_built (tos id : Int) (keep : Bool) (ttl proto src dst : Int) (zo zd more : List Int) (h1 : zo.length ≤ 40) (h2 : zo.length % 4 = 0) (hall : 20 + zo.length + zd.length ≤ 65535)
  (hB : Mt.By (h20 tos id keep ttl proto src dst zo.length (20 + zo.length + zd.length) 0 ++ zo)) :
  rde false (hdr tos id keep ttl proto src dst zo (20 + zo.length + zd.length) ++ (zd ++ more)) = 0 := by
 have hlen : (hdr tos id keep ttl proto src dst zo (20 + zo.length + zd.length) ++ (zd ++ more)).length = 20 + zo.length + (zd.length + more.length) := by rw [List.length_append, hdr_len, List.length_append]
 have e0 := hdr_0 tos id keep ttl proto src dst zo (zd ++ more) (20 + zo.length + zd.length)
 have e2 := hdr_wat2 tos id keep ttl proto src dst zo (zd ++ more) (20 + zo.length + zd.length)
 have e3 := hl4_hdr tos id keep ttl proto src dst zo (zd ++ more) (20 + zo.length + zd.length) h1 h2
 have e6 := hdr_wat6 tos id keep ttl proto src dst zo (zd ++ more) (20 + zo.length + zd.length)
 have et := hdr_take tos id keep ttl proto src dst zo (zd ++ more) (20 + zo.length + zd.length)
 have eg := hdr_good tos id keep ttl proto src dst zo (20 + zo.length + zd.length) hB
 rw [← et] at eg
 generalize hdr tos id keep ttl proto src dst zo (20 + zo.length + zd.length) ++ (zd ++ more) = bb at *
 have hm0 : msr bb = 0 := by unfold msr; rw [hlen, e0, e3, e2, if_neg (by omega), if_neg (by omega), if_neg (by omega), if_neg (by omega), if_neg (by omega)]
 have hr : ral false bb = 20 + zo.length + zd.length := by simp [ral, e2]
 have hc : chk bb = 0 := by unfold chk; rw [e3, e6, Int.toNat_natCast, if_neg (by simp [eg]), if_neg (by cases keep <;> simp), if_neg (by cases keep <;> simp)]
 unfold rde
 rw [hm0, hr, hlen, hc, if_neg (by simp), if_neg (by omega), if_neg (by simp), if_neg (by simp)]
theorem run_find {P : Program} {t kt et : TypeId} (ht : P.underlying t = some (.map kt et)) (hk : P.underlying kt = some (.int .i64)) {w : World} {b : Nat} {es : Array MapEntry} {c : Nat} (hb : w.heap[b]? = some (.map es c)) (z : Int) (v : Value)
  (hf : ((∃ j, Instr.findNow (.int .i64) (.int .i64 z) es.toList 0 = some (some (j, v))) ∨ (Instr.findNow (.int .i64) (.int .i64 z) es.toList 0 = some none ∧ (zeroValue et).run P w = .ok v w))) : (Instr.lookup t (.map (some b)) (.int .i64 z) false).run P w = .ok v w := by
 have hc : (Instr.checkKey es.isEmpty 10000 kt (.int .i64 z)).run P w = .ok () w := MapKept.run_checkKey (k := .int .i64 z) hk (by simp [MapKept.IsKey]) _ 9999
 rcases hf with ⟨j, hf⟩ | ⟨hf, hz⟩
 ·simp [Instr.lookup, run_underlying ht, MapKept.run_getObj_map hb, hc, MapKept.run_findKey hk hf, Result.andThen]
 ·simp [Instr.lookup, run_underlying ht, MapKept.run_getObj_map hb, hc, MapKept.run_findKey hk hf, hz, Result.andThen]
def row7 (s : Int) : List Int := if s = 0 then [0,0,1,0,0,0,0] else if s = 1 then [0,7,1,2,0,0,0] else if s = 2 then [0,7,2,2,2,4,3] else if s = 3 then [0,7,0,0,0,4,3] else if s = 4 then [0,7,0,0,0,5,4] else if s = 5 then [0,7,0,0,0,5,6] else if s = 6 then [0,7,1,0,0,6,6] else if s = 7 then [0,7,1,0,0,0,0] else [0,0,0,0,0,0,0]
end Go.Proofs.YtofknbfbmaefoaaGreatDoor
