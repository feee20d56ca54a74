/- Package ctrl: bytes of numbers, parts joined, bytes.Clone, the packet with bytes in it. -/
import Derived.Test.YtghpakfjpdifaaaGreatDoorV5
import Derived.Test.YtghpakfjpdifaaaGreatDoorRk
namespace Go.Proofs.YtghpakfjpdifaaaGreatDoor
open Go.RowKit Go.Shelf
set_option maxRecDepth 100000
set_option linter.unusedVariables false
set_option linter.unusedSimpArgs false

theorem make2 (w : World) : (Instr.makeSlice 24 (.int .i64 2) (.int .i64 2)).run Tryz.prog w = .ok (.slice (some ⟨w.heap.size, 0, none⟩) 2 2) (w.alloc (.cells #[.int .u8 0, .int .u8 0] 5)) := by kernel_rfl

theorem make4 (w : World) : (Instr.makeSlice 24 (.int .i64 4) (.int .i64 4)).run Tryz.prog w = .ok (.slice (some ⟨w.heap.size, 0, none⟩) 4 4) (w.alloc (.cells #[.int .u8 0, .int .u8 0, .int .u8 0, .int .u8 0] 5)) := by kernel_rfl

set_option maxHeartbeats 1000000 in
theorem ctwo_any (v : Int) (hv : 0 ≤ v ∧ v ≤ 65535) (w : World) :
  Calls Tryz.prog 55 #[.int .u16 v] w fun e w' => ∃ a, e = .returned (.slice a 2 2) ∧ Ow w.heap.size w' (.slice a 2 2) [v / 256, v % 256] ∧ Below w.heap.size w w' := by
 have hm := make2 w
 have hb0 : Below w.heap.size w (w.alloc (.cells #[.int .u8 0, .int .u8 0] 5)) := (Below.refl _ w).alloc (Nat.le_refl _) _
 go_enter Tryz.func55, Tryz.ntmps55
 go_wp2_with fail
 refine (put16_any _ [0, 0] 0 v _ (by simp) (by exact (Rd.new2 0 0 5 w).mono (by simp)) hv).mono ?_
 rintro e w1 ⟨a, rfl, hO, hb1⟩
 rw [putAt2_lit _ 0 0 _ rfl (by simp)] at hO
 go_wp2
 go_ret
 exact ⟨a, rfl, hO.mono (by simp), hb0.trans (hb1.mono (by simp))⟩

set_option maxHeartbeats 1000000 in
theorem cfour_any (v : Int) (hv : 0 ≤ v ∧ v ≤ 4294967295) (w : World) :
  Calls Tryz.prog 56 #[.int .u32 v] w fun e w' => ∃ a, e = .returned (.slice a 4 4) ∧ Ow w.heap.size w' (.slice a 4 4) [v / 65536 / 256, v / 65536 % 256, v % 65536 / 256, v % 65536 % 256] ∧ Below w.heap.size w w' := by
 have hm := make4 w
 have hb0 : Below w.heap.size w (w.alloc (.cells #[.int .u8 0, .int .u8 0, .int .u8 0, .int .u8 0] 5)) := (Below.refl _ w).alloc (Nat.le_refl _) _
 go_enter Tryz.func56, Tryz.ntmps56
 go_wp2_with fail
 refine (put32_any _ [0, 0, 0, 0] 0 v _ (by simp) (by exact (Rd.new4 0 0 0 0 5 w).mono (by simp)) hv).mono ?_
 rintro e w1 ⟨a, rfl, hO, hb1⟩
 rw [putAt4_lit _ 0 0 _ rfl (by simp)] at hO
 go_wp2
 go_ret
 exact ⟨a, rfl, hO.mono (by simp), hb0.trans (hb1.mono (by simp))⟩

theorem eql_nil (w : World) : (binOp .eql 24 (.slice none 0 0) (.slice none 0 0)).run Tryz.prog w = .ok (.bool true) w := by kernel_rfl

theorem eql_some (w : World) (ad : Addr) (n c : Nat) : (binOp .eql 24 (.slice (some ad) n c) (.slice none 0 0)).run Tryz.prog w = .ok (.bool false) w := by kernel_rfl

set_option maxHeartbeats 1000000 in
/-- bytes.Clone. -/
theorem cloneb_any (sv : Value) (zs : List Int) (w : World) (hl : zs.length ≤ 140737488355328) (hI : Rd w.heap.size w sv zs) :
  Calls Tryz.prog 50 #[sv] w fun e w' => ∃ a cap, e = .returned (.slice a zs.length cap) ∧ Ow w.heap.size w' (.slice a zs.length cap) zs ∧ Below w.heap.size w w' := by
 obtain ⟨i0, hi, hz0, hz1, hz2⟩ := info_parts info_u8
 have hb0 : Below w.heap.size w (w.alloc (.cells #[] 5)) := (Below.refl _ w).alloc (Nat.le_refl _) _
 have hR1 := hI.below hb0
 obtain ⟨a, cap, rfl, hl1, hm1⟩ := hI.slice
 cases a with
 | none =>
  obtain ⟨rfl, rfl⟩ : zs = [] ∧ cap = 0 := by
   rcases hI with ⟨a, cap', e, hz, _, hn⟩ | ⟨_, _, _, e, _⟩
   ·have e1 := e
    simp at e1
    obtain ⟨rfl, _, rfl⟩ := e1
    exact ⟨hz, hn rfl⟩
   ·simp at e
  have hq := eql_nil w
  go_enter Tryz.func50, Tryz.ntmps50
  go_wp2
  go_ret
  exact ⟨none, 0, rfl, .inl ⟨rfl, rfl⟩, Below.refl _ _⟩
 | some ad =>
  have hq := eql_some w ad zs.length cap
  go_enter Tryz.func50, Tryz.ntmps50
  go_wp2_with (at_builtin; refine wpList_app _ rfl (.tmp 5) (.tmp 6) 24 rfl w.heap.size 5 i0 Tryz.underlying24 hi hz0 hz1 hz2 _ [] rfl (own_empty w _) w.heap.size _ zs rfl hR1 (by simp; omega) (by simp) ?_; intro v0 w0 hown0 hg0; have hbw0 := below_app hb0 (own_empty w _) hg0 (Nat.le_refl _) hb0.size; clear hg0; have hO0 := Ow.of_row hown0; clear hown0; simp only [List.nil_append] at hO0; obtain ⟨a0, cap0, rfl, hp0, hm0⟩ := hO0.slice)
  go_ret
  exact ⟨a0, cap0, rfl, hO0, hbw0⟩

set_option maxHeartbeats 2000000 in
/-- Parts put one behind the other. -/
theorem joined_any (pb cap : Nat) (svs : List Value) (zss : List (List Int)) (w : World) (hn : svs.length = zss.length) (hcap : svs.length ≤ cap) (hk : svs.length ≤ 1000) (hl : zss.flatten.length ≤ 140737488355328)
  (hc : ∀ j, j < svs.length → w.cell? ⟨pb, j, none⟩ = some (svs[j]?.getD undef)) (hR : ∀ j, j < svs.length → Rd w.heap.size w (svs[j]?.getD undef) (zss[j]?.getD [])) :
  Calls Tryz.prog 54 #[.slice (some ⟨pb, 0, none⟩) svs.length cap] w fun e w' => ∃ v, e = .returned v ∧ w'.ownsRow w.heap.size 5 1 v zss.flatten.length (zss.flatten.map (Value.int .u8)) ∧ Below w.heap.size w w' := by
 obtain ⟨i0, hi, hz0, hz1, hz2⟩ := info_parts info_u8
 have HN := hide hn
 clear hn
 go_enter Tryz.func54, Tryz.ntmps54
 go_wp2
 go_loopw [3, 8] (fun v i wr => ∃ k : Nat, k ≤ svs.length ∧ i = .int .i64 (k : Int) ∧ wr.ownsRow w.heap.size 5 1 v (zss.take k).flatten.length ((zss.take k).flatten.map (Value.int .u8)) ∧ Below w.heap.size w wr)
  (fun _ i _ => svs.length - (intOf i).toNat)
 case atStart => exact ⟨0, by omega, rfl, World.ownsRow_nil _ _ _ _, Below.refl _ _⟩
 case round =>
  obtain ⟨k, hk1, rfl, hown, hnx⟩ := hrel
  by_cases hlt : k < svs.length
  ·have hck := hc k hlt
   have hpb : pb < w.heap.size := World.block_lt_of_cell? w ⟨pb, k, none⟩ hck
   have hcx : wr.cell? ⟨pb, k, none⟩ = some (svs[k]?.getD undef) := (hnx.cell (p := ⟨pb, k, none⟩) hpb).trans hck
   have hRx : Rd w.heap.size wr (svs[k]?.getD undef) (zss[k]?.getD []) := (hR k hlt).below hnx
   have hfl : (zss.take (k + 1)).flatten = (zss.take k).flatten ++ (zss[k]?.getD []) := by
    have hkz : k < zss.length := by have := HN.out; omega
    have e1 : zss.take (k + 1) = zss.take k ++ [zss[k]?.getD []] := by
     rw [List.take_succ_eq_append_getElem hkz, List.getElem?_eq_getElem hkz]
     rfl
    rw [e1, List.flatten_append, List.flatten_cons, List.flatten_nil, List.append_nil]
   have hle : (zss.take (k + 1)).flatten.length ≤ zss.flatten.length := by
    conv => rhs; rw [← List.take_append_drop (k + 1) zss, List.flatten_append]
    simp
   have HF := hide hfl
   have hlen : (zss.take k).flatten.length + (zss[k]?.getD []).length ≤ 140737488355328 := by rw [← List.length_append, ← hfl]; omega
   clear hfl hle hc hR hck
   generalize svs[k]?.getD undef = sv at *
   generalize zss[k]?.getD [] = zs at *
   obtain ⟨a, cp, rfl, hl1, hm1⟩ := hRx.slice
   have hlt' : (k : Int) < svs.length := by omega
   go_wp2_with (at_builtin; refine wpList_app _ rfl (.tmp 12) (.tmp 13) 24 rfl w.heap.size 5 i0 Tryz.underlying24 hi hz0 hz1 hz2 _ _ rfl hown w.heap.size _ zs rfl hRx hlen hnx.size ?_; intro v1 w1 hown1 hg1; have hb1 := below_app hnx hown hg1 (Nat.le_refl _) hnx.size; clear hg1 hown)
   go_roundw
   case rel => exact ⟨k + 1, by omega, by go_num, by rw [HF.out]; exact hown1, hb1⟩
   case measure => simp [intOf]; omega
  ·obtain rfl : k = svs.length := by omega
   rw [HN.out, List.take_length] at hown
   go_wp2
   go_ret
   exact ⟨_, rfl, hown, hnx⟩

/-- Slices that read as bytes, one by one. -/
def Rds (n₀ : Nat) (W : World) : List Value → List (List Int) → Prop
 | [], [] => True
 | v :: vs, z :: zs => Rd n₀ W v z ∧ Rds n₀ W vs zs
 | _, _ => False
theorem Rds.length {n₀ : Nat} {W : World} : ∀ {vs : List Value} {zs : List (List Int)}, Rds n₀ W vs zs → vs.length = zs.length
 | [], [], _ => rfl
 | _ :: _, _ :: _, h => by simp [h.2.length]
 | [], _ :: _, h => h.elim
 | _ :: _, [], h => h.elim
theorem Rds.at {n₀ : Nat} {W : World} : ∀ {vs : List Value} {zs : List (List Int)}, Rds n₀ W vs zs → ∀ j, j < vs.length → Rd n₀ W (vs[j]?.getD undef) (zs[j]?.getD [])
 | _ :: _, _ :: _, h, 0, _ => h.1
 | _ :: _, _ :: _, h, j + 1, hj => by simpa using h.2.at j (by simpa using hj)
 | [], _, _, _, hj => by simp at hj
 | _ :: _, [], h, _, _ => h.elim
theorem rows_of {W : World} {pb : Nat} {t : TypeId} {l : List Value} (h : W.heap[pb]? = some (.cells l.toArray t (0, 0))) : ∀ j, j < l.length → W.cell? ⟨pb, j, none⟩ = some (l[j]?.getD undef) := by
 intro j hj
 rw [block_cell h]
 simp [hj]

theorem joined_rds (pb : Nat) (t : TypeId) (svs : List Value) (zss : List (List Int)) (w : World) (hb : w.heap[pb]? = some (.cells svs.toArray t (0, 0))) (hR : Rds w.heap.size w svs zss) (hk : svs.length ≤ 1000) (hl : zss.flatten.length ≤ 140737488355328) :
  Calls Tryz.prog 54 #[.slice (some ⟨pb, 0, none⟩) svs.length svs.length] w fun e w' => ∃ v, e = .returned v ∧ w'.ownsRow w.heap.size 5 1 v zss.flatten.length (zss.flatten.map (Value.int .u8)) ∧ Below w.heap.size w w' :=
 joined_any pb svs.length svs zss w hR.length (Nat.le_refl _) hk hl (rows_of hb) hR.at

theorem heap_sets {W : World} {n : Nat} {t : TypeId} (v0 v1 v2 v3 v4 v5 v6 v7 v8 x4 x7 x8 : Value) (h : W.heap[n]? = some (.cells #[v0, v1, v2, v3, v4, v5, v6, v7, v8] t (0, 0))) :
  (((W.setCell ⟨n, 4, none⟩ x4).setCell ⟨n, 7, none⟩ x7).setCell ⟨n, 8, none⟩ x8).heap[n]? = some (.cells #[v0, v1, v2, v3, x4, v5, v6, x7, x8] t (0, 0)) := heap_set1 (heap_set1 (heap_set1 h 4 x4) 7 x7) 8 x8

/-- A packet's cells of zeros. -/
abbrev zcc : List Value := [.int .u8 0, .int .u16 0, .bool false, .int .u8 0, .int .u8 0, .int .u32 0, .int .u32 0, .slice none 0 0, .slice none 0 0]

set_option maxHeartbeats 2000000 in
theorem cpacked_yes (tos id ttl proto src dst np : Int) (keep : Bool) (so sd sd' : Value) (zo zd : List Int) (w : World) (hBo : Mt.By zo) (hIo : Rd w.heap.size w so zo) (hId : Rd w.heap.size w sd' zd)
  (hlo : zo.length ≤ 40) (hlm : zo.length % 4 = 0) (hall : 20 + zo.length + zd.length ≤ 65535) (ht : 0 ≤ tos ∧ tos ≤ 255) (hid : 0 ≤ id ∧ id ≤ 65535) (htt : 0 ≤ ttl ∧ ttl ≤ 255) (hpr : 0 ≤ np ∧ np ≤ 255) (hsr : 0 ≤ src ∧ src ≤ 4294967295) (hds : 0 ≤ dst ∧ dst ≤ 4294967295) :
  Calls Tryz.prog 57 #[.agg #[.int .u8 tos, .int .u16 id, .bool keep, .int .u8 ttl, .int .u8 proto, .int .u32 src, .int .u32 dst, so, sd], .int .u8 np, sd'] w fun e w' => ∃ ao co, e = .returned (.tuple #[.agg #[.int .u8 tos, .int .u16 id, .bool keep, .int .u8 ttl, .int .u8 np, .int .u32 src, .int .u32 dst, .slice ao zo.length co, sd'], .int .i64 0]) ∧ Ow w.heap.size w' (.slice ao zo.length co) zo ∧ Below w.heap.size w w' := by
 obtain ⟨ao, co, rfl, hl1, hm1⟩ := hIo.slice
 obtain ⟨ad, cd, rfl, hl2, hm2⟩ := hId.slice
 have hb0 : Below w.heap.size w ((w.alloc (.cells #[.int .u8 tos, .int .u16 id, .bool keep, .int .u8 ttl, .int .u8 proto, .int .u32 src, .int .u32 dst, .slice ao zo.length co, sd] 26)).alloc (.cells zcc.toArray 26)) := ((Below.refl _ _).alloc (Nat.le_refl _) _).alloc (by simp) _
 have p0 : ((w.alloc (.cells #[.int .u8 tos, .int .u16 id, .bool keep, .int .u8 ttl, .int .u8 proto, .int .u32 src, .int .u32 dst, .slice ao zo.length co, sd] 26)).alloc (.cells zcc.toArray 26)).heap[w.heap.size]? = some (.cells #[.int .u8 tos, .int .u16 id, .bool keep, .int .u8 ttl, .int .u8 proto, .int .u32 src, .int .u32 dst, .slice ao zo.length co, sd] 26) := (Below.heap_alloc _ _ _ (by simp)).trans (heap_alloc_new w _)
 have q0 : ((w.alloc (.cells #[.int .u8 tos, .int .u16 id, .bool keep, .int .u8 ttl, .int .u8 proto, .int .u32 src, .int .u32 dst, .slice ao zo.length co, sd] 26)).alloc (.cells zcc.toArray 26)).heap[w.heap.size + 1]? = some (.cells zcc.toArray 26 (0, 0)) := by have := heap_alloc_new (w.alloc (.cells #[.int .u8 tos, .int .u16 id, .bool keep, .int .u8 ttl, .int .u8 proto, .int .u32 src, .int .u32 dst, .slice ao zo.length co, sd] 26)) (.cells zcc.toArray 26); simpa using this
 have P0 := hide p0
 have Q0 := hide q0
 clear p0 q0
 go_enter Tryz.func57, Tryz.ntmps57
 go_wp2_with fail
 refine (cloneb_any _ zo _ (by omega) ((hIo.below hb0).mono (by simp; omega))).mono ?_
 rintro e w1 ⟨a1, c1, rfl, hO1, hb1⟩
 have p1 := (hb1.block w.heap.size (by simp; omega)).trans P0.out
 have q1 := (hb1.block (w.heap.size + 1) (by simp)).trans Q0.out
 have K1 := block_cell p1
 have F1 := block_frozen p1
 have hw1 := hb0.trans (hb1.mono (by simp; omega))
 have p2 := heap_sets _ _ _ _ _ _ _ _ _ (.int .u8 np) (.slice a1 zo.length c1) (.slice ad zd.length cd) p1
 go_wp2_with fail
 have hE : But (fun b => b = w.heap.size) w1 (((w1.setCell ⟨w.heap.size, 4, none⟩ (.int .u8 np)).setCell ⟨w.heap.size, 7, none⟩ (.slice a1 zo.length c1)).setCell ⟨w.heap.size, 8, none⟩ (.slice ad zd.length cd)) := (((But.refl (fun b => b = w.heap.size) w1).setCell (p := ⟨w.heap.size, 4, none⟩) rfl _).setCell (p := ⟨w.heap.size, 7, none⟩) rfl _).setCell (p := ⟨w.heap.size, 8, none⟩) rfl _
 have hs1 : w.heap.size + 2 ≤ w1.heap.size := by have := hb1.size; simp at this; omega
 generalize ((w1.setCell ⟨w.heap.size, 4, none⟩ (.int .u8 np)).setCell ⟨w.heap.size, 7, none⟩ (.slice a1 zo.length c1)).setCell ⟨w.heap.size, 8, none⟩ (.slice ad zd.length cd) = V at *
 have hOV := hO1.but hE (fun b h e => by simp at h; omega)
 have hwV : Below w.heap.size w V := hw1.trans (hE.below (by omega) (fun k h e => by omega))
 have qV := (hE.block (w.heap.size + 1) (by omega) (by omega)).trans q1
 refine (build_yes tos id ttl np src dst keep _ _ zo zd _ hBo hOV.rd ((hId.below hwV).mono hwV.size) hlo hlm hall ht hid htt hpr hsr hds).mono ?_
 rintro e w2 ⟨v2, rfl, hO2, hb2⟩
 have p3 := (hb2.block w.heap.size (by have := hE.size; omega)).trans p2
 have q3 := (hb2.block (w.heap.size + 1) (by have := hE.size; omega)).trans qV
 have K3 := block_cell p3
 have Q3 := block_cell q3
 have G3 := block_frozen q3
 clear K1 F1
 go_wp2_with fail
 generalize hV : ((((((((w2.setCell ⟨w.heap.size + 1, 0, none⟩ _).setCell ⟨w.heap.size + 1, 1, none⟩ _).setCell ⟨w.heap.size + 1, 2, none⟩ _).setCell ⟨w.heap.size + 1, 3, none⟩ _).setCell ⟨w.heap.size + 1, 4, none⟩ _).setCell ⟨w.heap.size + 1, 5, none⟩ _).setCell ⟨w.heap.size + 1, 6, none⟩ _).setCell ⟨w.heap.size + 1, 7, none⟩ _).setCell ⟨w.heap.size + 1, 8, none⟩ _ = V8
 have hV9 : V8 = putRow w2 (w.heap.size + 1) 0 [.int .u8 tos, .int .u16 id, .bool keep, .int .u8 ttl, .int .u8 np, .int .u32 src, .int .u32 dst, .slice a1 zo.length c1, .slice ad zd.length cd] := hV.symm
 have hb8 : But (fun b => b = w.heap.size + 1) w2 V8 := by rw [hV9]; exact putRow_but (E := fun b => b = w.heap.size + 1) (n := w.heap.size + 1) rfl _ _ _ _ (But.refl _ _)
 have p8 := putRow_all [.int .u8 tos, .int .u16 id, .bool keep, .int .u8 ttl, .int .u8 np, .int .u32 src, .int .u32 dst, .slice a1 zo.length c1, .slice ad zd.length cd] q3 rfl
 rw [← hV9] at p8
 clear hV hV9 Q3 G3 K3
 have P8 := block_cell p8
 have hw2 := hwV.trans (hb2.mono hwV.size)
 have hw8 : Below w.heap.size w V8 := hw2.trans (hb8.below hw2.size (fun k h e => by omega))
 refine bodyPost_ret (v := .tuple #[.agg #[.int .u8 tos, .int .u16 id, .bool keep, .int .u8 ttl, .int .u8 np, .int .u32 src, .int .u32 dst, .slice a1 zo.length c1, .slice ad zd.length cd], .int .i64 0]) (by simp [results, Tryz.results57, go_sem, P8]) rfl ⟨a1, c1, rfl, ?_, hw8⟩
 exact ((hOV.below hb2 (Nat.le_refl _)).but hb8 (fun b h e => by simp at h; omega)).mono (by simp; omega)

set_option maxHeartbeats 2000000 in
theorem cpacked_no (tos id ttl proto src dst np : Int) (keep : Bool) (so sd : Value) (zo : List Int) (ad : Option Addr) (ld cd : Nat) (w : World) (hIo : Rd w.heap.size w so zo) (h1 : zo.length ≤ 140737488355328) (h2 : ld ≤ 140737488355328) (hf : flt zo.length ld ≠ 0) :
  Calls Tryz.prog 57 #[.agg #[.int .u8 tos, .int .u16 id, .bool keep, .int .u8 ttl, .int .u8 proto, .int .u32 src, .int .u32 dst, so, sd], .int .u8 np, .slice ad ld cd] w fun e w' => e = .returned (.tuple #[.agg zcc.toArray, .int .i64 (flt zo.length ld)]) ∧ Below w.heap.size w w' := by
 obtain ⟨ao, co, rfl, hl1, hm1⟩ := hIo.slice
 have hb0 : Below w.heap.size w ((w.alloc (.cells #[.int .u8 tos, .int .u16 id, .bool keep, .int .u8 ttl, .int .u8 proto, .int .u32 src, .int .u32 dst, .slice ao zo.length co, sd] 26)).alloc (.cells zcc.toArray 26)) := ((Below.refl _ _).alloc (Nat.le_refl _) _).alloc (by simp) _
 have p0 : ((w.alloc (.cells #[.int .u8 tos, .int .u16 id, .bool keep, .int .u8 ttl, .int .u8 proto, .int .u32 src, .int .u32 dst, .slice ao zo.length co, sd] 26)).alloc (.cells zcc.toArray 26)).heap[w.heap.size]? = some (.cells #[.int .u8 tos, .int .u16 id, .bool keep, .int .u8 ttl, .int .u8 proto, .int .u32 src, .int .u32 dst, .slice ao zo.length co, sd] 26) := (Below.heap_alloc _ _ _ (by simp)).trans (heap_alloc_new w _)
 have q0 : ((w.alloc (.cells #[.int .u8 tos, .int .u16 id, .bool keep, .int .u8 ttl, .int .u8 proto, .int .u32 src, .int .u32 dst, .slice ao zo.length co, sd] 26)).alloc (.cells zcc.toArray 26)).heap[w.heap.size + 1]? = some (.cells zcc.toArray 26 (0, 0)) := by have := heap_alloc_new (w.alloc (.cells #[.int .u8 tos, .int .u16 id, .bool keep, .int .u8 ttl, .int .u8 proto, .int .u32 src, .int .u32 dst, .slice ao zo.length co, sd] 26)) (.cells zcc.toArray 26); simpa using this
 have P0 := hide p0
 have Q0 := hide q0
 clear p0 q0
 have hf' : (flt zo.length ld != 0) = true := by simp [hf]
 have HF := hide hf
 clear hf
 go_enter Tryz.func57, Tryz.ntmps57
 go_wp2_with fail
 refine (cloneb_any _ zo _ (by omega) ((hIo.below hb0).mono (by simp; omega))).mono ?_
 rintro e w1 ⟨a1, c1, rfl, hO1, hb1⟩
 have p1 := (hb1.block w.heap.size (by simp; omega)).trans P0.out
 have q1 := (hb1.block (w.heap.size + 1) (by simp)).trans Q0.out
 have K1 := block_cell p1
 have F1 := block_frozen p1
 have hw1 := hb0.trans (hb1.mono (by simp; omega))
 have p2 := heap_sets _ _ _ _ _ _ _ _ _ (.int .u8 np) (.slice a1 zo.length c1) (.slice ad ld cd) p1
 go_wp2_with fail
 have hE : But (fun b => b = w.heap.size) w1 (((w1.setCell ⟨w.heap.size, 4, none⟩ (.int .u8 np)).setCell ⟨w.heap.size, 7, none⟩ (.slice a1 zo.length c1)).setCell ⟨w.heap.size, 8, none⟩ (.slice ad ld cd)) := (((But.refl (fun b => b = w.heap.size) w1).setCell (p := ⟨w.heap.size, 4, none⟩) rfl _).setCell (p := ⟨w.heap.size, 7, none⟩) rfl _).setCell (p := ⟨w.heap.size, 8, none⟩) rfl _
 have hs1 : w.heap.size + 2 ≤ w1.heap.size := by have := hb1.size; simp at this; omega
 generalize ((w1.setCell ⟨w.heap.size, 4, none⟩ (.int .u8 np)).setCell ⟨w.heap.size, 7, none⟩ (.slice a1 zo.length c1)).setCell ⟨w.heap.size, 8, none⟩ (.slice ad ld cd) = V at *
 have hwV : Below w.heap.size w V := hw1.trans (hE.below (by omega) (fun k h e => by omega))
 have qV := (hE.block (w.heap.size + 1) (by omega) (by omega)).trans q1
 refine (build_no tos id ttl np src dst keep a1 ad zo.length c1 ld cd _ h1 h2 HF.out).mono ?_
 rintro e w2 ⟨rfl, hb2⟩
 have q3 := (hb2.block (w.heap.size + 1) (by have := hE.size; omega)).trans qV
 have Q3 := block_cell q3
 have G3 := block_frozen q3
 clear K1 F1
 go_wp2_with fail
 generalize hV : ((((((((w2.setCell ⟨w.heap.size + 1, 0, none⟩ _).setCell ⟨w.heap.size + 1, 1, none⟩ _).setCell ⟨w.heap.size + 1, 2, none⟩ _).setCell ⟨w.heap.size + 1, 3, none⟩ _).setCell ⟨w.heap.size + 1, 4, none⟩ _).setCell ⟨w.heap.size + 1, 5, none⟩ _).setCell ⟨w.heap.size + 1, 6, none⟩ _).setCell ⟨w.heap.size + 1, 7, none⟩ _).setCell ⟨w.heap.size + 1, 8, none⟩ _ = V8
 have hV9 : V8 = putRow w2 (w.heap.size + 1) 0 zcc := hV.symm
 have hb8 : But (fun b => b = w.heap.size + 1) w2 V8 := by rw [hV9]; exact putRow_but (E := fun b => b = w.heap.size + 1) (n := w.heap.size + 1) rfl _ _ _ _ (But.refl _ _)
 have p8 := putRow_all zcc q3 rfl
 rw [← hV9] at p8
 clear hV hV9 Q3 G3
 have P8 := block_cell p8
 have hw2 := hwV.trans (hb2.mono hwV.size)
 have hw8 : Below w.heap.size w V8 := hw2.trans (hb8.below hw2.size (fun k h e => by omega))
 exact bodyPost_ret (v := .tuple #[.agg zcc.toArray, .int .i64 (flt zo.length ld)]) (by simp [results, Tryz.results57, go_sem, P8]) rfl ⟨rfl, hw8⟩

/-- The packet with bytes in it, or the error. -/
theorem cpacked_any (tos id ttl proto src dst np : Int) (keep : Bool) (so sd sd' : Value) (zo zd : List Int) (w : World) (hBo : Mt.By zo) (hIo : Rd w.heap.size w so zo) (hId : Rd w.heap.size w sd' zd)
  (h1 : zo.length ≤ 140737488355328) (h2 : zd.length ≤ 140737488355328) (ht : 0 ≤ tos ∧ tos ≤ 255) (hid : 0 ≤ id ∧ id ≤ 65535) (htt : 0 ≤ ttl ∧ ttl ≤ 255) (hpr : 0 ≤ np ∧ np ≤ 255) (hsr : 0 ≤ src ∧ src ≤ 4294967295) (hds : 0 ≤ dst ∧ dst ≤ 4294967295) :
  Calls Tryz.prog 57 #[.agg #[.int .u8 tos, .int .u16 id, .bool keep, .int .u8 ttl, .int .u8 proto, .int .u32 src, .int .u32 dst, so, sd], .int .u8 np, sd'] w fun e w' => Below w.heap.size w w' ∧ ((flt zo.length zd.length ≠ 0 ∧ e = .returned (.tuple #[.agg zcc.toArray, .int .i64 (flt zo.length zd.length)])) ∨
   (flt zo.length zd.length = 0 ∧ ∃ ao co, e = .returned (.tuple #[.agg #[.int .u8 tos, .int .u16 id, .bool keep, .int .u8 ttl, .int .u8 np, .int .u32 src, .int .u32 dst, .slice ao zo.length co, sd'], .int .i64 0]) ∧ Ow w.heap.size w' (.slice ao zo.length co) zo)) := by
 by_cases hf : flt zo.length zd.length = 0
 ·have hv : zo.length ≤ 40 ∧ zo.length % 4 = 0 ∧ 20 + zo.length + zd.length ≤ 65535 := by
   unfold flt at hf
   split at hf <;> first | omega | (split at hf <;> omega)
  exact (cpacked_yes tos id ttl proto src dst np keep so sd sd' zo zd w hBo hIo hId hv.1 hv.2.1 hv.2.2 ht hid htt hpr hsr hds).mono fun e w' ⟨ao, co, he, hO, hb⟩ => ⟨hb, .inr ⟨hf, ao, co, he, hO⟩⟩
 ·obtain ⟨ad, cd, rfl, _, _⟩ := hId.slice
  exact (cpacked_no tos id ttl proto src dst np keep so sd zo ad zd.length cd w hIo h1 h2 hf).mono fun e w' ⟨he, hb⟩ => ⟨hb, .inl ⟨hf, he⟩⟩
end Go.Proofs.YtghpakfjpdifaaaGreatDoor
