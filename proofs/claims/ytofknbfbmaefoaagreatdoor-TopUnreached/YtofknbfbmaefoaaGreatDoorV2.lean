import Derived.RegionTactic
import Derived.BigRegion
import Derived.Deep.RegionLaw
import Derived.Test.YtofknbfbmaefoaaGreatDoorV1
namespace Go.Proofs.YtofknbfbmaefoaaGreatDoor
open Go.RowKit Go.Shelf
set_option maxRecDepth 100000
theorem run_app {P : Program} (w : World) (t ty e : TypeId) (base : Nat) (i : TypeInfo) (ht : P.underlying t = some (.slice e)) (hi : P.info? e = some i) (hz : i.zero = some (.int .u8 0)) (hsize : i.size = 1) (hby : i.bytes = 1)
  (v : Value) (ys : List Int) (hown : w.ownsRow base e 1 v ys.length (ys.map (Value.int .u8)))
  (n₀ : Nat) (sx : Value) (zs : List Int) (hI : Rd n₀ w sx zs) (hbd : ys.length + zs.length ≤ 140737488355328) (hbase : base ≤ w.heap.size) :
  ∃ v' w', (Builtin.append_ #[t, t] ty #[v, sx]).run P w = .ok v' w' ∧ w'.ownsRow base e 1 v' (ys ++ zs).length ((ys ++ zs).map (Value.int .u8)) ∧ w.grownBy w' v.ownBlock := by
 rcases hI with ⟨ao, cap, rfl, rfl, hm, hn⟩ | ⟨b, off, cap, rfl, hne, hl, hm, hb, hc⟩
 ·cases ao with
  | none =>
   obtain rfl := hn rfl
   exact ⟨v, w, run_append_owned_none w base t ty e i 1 ht hi v _ _ hown, by simpa using hown, ⟨rfl, rfl, rfl, Nat.le_refl _, fun _ _ _ => rfl⟩⟩
  | some ad =>
   obtain ⟨v', w', hr, h2, h3, _⟩ := run_append_own (P := P) w base t ty e i (.int .u8 0) 1 1 ht hi hz hsize hby rfl (by decide) v _ _ hown ad 0 cap [] rfl (fun j u hj => by simp at hj) (fun u hu => by simp at hu) (by unfold maxLen; omega) (by omega) hbase
   exact ⟨v', w', hr, by simpa using h2, h3⟩
 ·obtain ⟨v', w', hr, h2, h3, _⟩ := run_append_own (P := P) w base t ty e i (.int .u8 0) 1 1 ht hi hz hsize hby rfl (by decide) v _ _ hown ⟨b, off, none⟩ zs.length cap (zs.map (Value.int .u8)) (by simp)
   (fun j u hj => by
    have hj' : j < zs.length := by have := (List.getElem?_eq_some_iff.1 hj).1; simpa using this
    rw [show (⟨b, off, none⟩ : Addr).add j = ⟨b, off + j, none⟩ from by unfold Addr.add; split <;> simp_all, hc j hj', ← hj]
    simp [hj'])
   (fun u hu => by obtain ⟨z, _, rfl⟩ := List.mem_map.1 hu; rfl) (by unfold maxLen; omega) (by omega) hbase
  exact ⟨v', w', hr, by simpa using h2, h3⟩
theorem step_run {P : Program} {ops : Array Oper} {o : Oper} {a : Act} {w : World} {K : Act → World → Prop} {Q : Exit → Act → World → Prop} {E : Prop}
  (hg : o.guard = none) (s x : Operand) (t : TypeId) (hop : o.op = Op.call { callee := Callee.builtin Builtin.append, args := #[s, x], argTypes := #[t, t] })
  (v sx : Value) (hs : a.eval s = v) (hx : a.eval x = sx) (v' : Value) (w' : World) (hrun : (Builtin.append_ #[t, t] o.type #[v, sx]).run P w = .ok v' w') (hK : K (a.put o.dst v') w') :
  if Region.wanted o (yielded ops a.tmps) = true then Oper.wp P o a w K Q else E := by
 have hw : Region.wanted o (yielded ops a.tmps) = true := by simp [Region.wanted, hg]
 rw [if_pos hw]
 unfold Oper.wp
 simp [execOp, hop, resolve, invoke, builtin, hs, hx, hrun, Result.andThen]
 exact hK
theorem or64 (x : Int) (h0 : 0 ≤ x) (h1 : x ≤ 15) : bits .or .i64 64 x = 64 + x := by
 have : x = 0 ∨ x = 1 ∨ x = 2 ∨ x = 3 ∨ x = 4 ∨ x = 5 ∨ x = 6 ∨ x = 7 ∨ x = 8 ∨ x = 9 ∨ x = 10 ∨ x = 11 ∨ x = 12 ∨ x = 13 ∨ x = 14 ∨ x = 15 := by omega
 rcases this with rfl | rfl | rfl | rfl | rfl | rfl | rfl | rfl | rfl | rfl | rfl | rfl | rfl | rfl | rfl | rfl <;> decide +kernel
theorem sets4 {base : Nat} {w4 : World} {g n cap : Nat} {l0 : List Int} (hO : Ow base w4 (.slice (some ⟨g, 0, none⟩) n cap) l0) (hl : 9 < l0.length) (x0 x1 x8 x9 : Int) :
  Ow base ((((w4.setCell ⟨g, 0, none⟩ (.int .u8 x0)).setCell ⟨g, 1, none⟩ (.int .u8 x1)).setCell ⟨g, 8, none⟩ (.int .u8 x8)).setCell ⟨g, 9, none⟩ (.int .u8 x9)).drew (.slice (some ⟨g, 0, none⟩) n cap) ((((l0.set 0 x0).set 1 x1).set 8 x8).set 9 x9) ∧
  Below base w4 ((((w4.setCell ⟨g, 0, none⟩ (.int .u8 x0)).setCell ⟨g, 1, none⟩ (.int .u8 x1)).setCell ⟨g, 8, none⟩ (.int .u8 x8)).setCell ⟨g, 9, none⟩ (.int .u8 x9)).drew := by
 obtain ⟨g0, e0, _, hb, _, h0⟩ := hO.at (by omega)
 cases e0
 obtain ⟨g1, e1, _, _, _, h1⟩ := (h0 0 x0 (by omega)).at (by simp; omega)
 cases e1
 obtain ⟨g2, e2, _, _, _, h2⟩ := (h1 1 x1 (by simp; omega)).at (by simp; omega)
 cases e2
 obtain ⟨g3, e3, _, _, _, h3⟩ := (h2 8 x8 (by simp; omega)).at (by simp; omega)
 cases e3
 have h4 := h3 9 x9 (by simp; omega)
 exact ⟨h4.drew 1, below_draw (((((Below.refl base w4).setCell (p := ⟨g, 0, none⟩) hb _).setCell (p := ⟨g, 1, none⟩) hb _).setCell (p := ⟨g, 8, none⟩) hb _).setCell (p := ⟨g, 9, none⟩) hb _) 1⟩
def hd1 (tos id : Int) (keep : Bool) (ttl proto src dst : Int) (l0 : List Int) (x0 all : Int) : List Int :=
 putAt4 (putAt4 (if keep then putAt2 (putAt2 (putAt2 ((((l0.set 0 x0).set 1 tos).set 8 ttl).set 9 proto) 2 all) 4 id) 6 16384 else putAt2 (putAt2 ((((l0.set 0 x0).set 1 tos).set 8 ttl).set 9 proto) 2 all) 4 id) 12 src) 16 dst
def hd0 (tos id : Int) (keep : Bool) (ttl proto src dst : Int) (zo : List Int) (all : Int) : List Int :=
 hd1 tos id keep ttl proto src dst (List.replicate 20 (0 : Int) ++ zo) (64 + (20 + (zo.length : Int)) / 4) all
def hdr (tos id : Int) (keep : Bool) (ttl proto src dst : Int) (zo : List Int) (all : Int) : List Int :=
 putAt2 (hd0 tos id keep ttl proto src dst zo all) 10 (Mt.cks (hd0 tos id keep ttl proto src dst zo all))
theorem hd0_length (tos id : Int) (keep : Bool) (ttl proto src dst : Int) (zo : List Int) (all : Int) : (hd0 tos id keep ttl proto src dst zo all).length = 20 + zo.length := by
 unfold hd0 hd1
 simp only [putAt4_length]
 split <;> simp only [putAt2_length, List.length_set, List.length_append, List.length_replicate]
theorem By_hd0 (tos id : Int) (keep : Bool) (ttl proto src dst : Int) (zo : List Int) (all : Int) (hO : Mt.By zo) (hl : zo.length ≤ 40) (ht : 0 ≤ tos ∧ tos ≤ 255) (hid : 0 ≤ id ∧ id ≤ 65535) (htt : 0 ≤ ttl ∧ ttl ≤ 255) (hpr : 0 ≤ proto ∧ proto ≤ 255) (hsr : 0 ≤ src ∧ src ≤ 4294967295) (hds : 0 ≤ dst ∧ dst ≤ 4294967295) (hal : 0 ≤ all ∧ all ≤ 65535) :
  Mt.By (hd0 tos id keep ttl proto src dst zo all) := by
 have hz : Mt.By (List.replicate 20 (0 : Int)) := fun z hz => by rw [(List.mem_replicate.1 hz).2]; omega
 have h1 := (((((hz.append hO).set 0 (v := 64 + (20 + (zo.length : Int)) / 4) (by omega)).set 1 ht).set 8 htt).set 9 hpr)
 have h2 := By_putAt2 (By_putAt2 h1 2 hal) 4 hid
 unfold hd0 hd1
 refine By_putAt4 (By_putAt4 ?_ 12 hsr) 16 hds
 cases keep
 ·exact h2
 ·exact By_putAt2 h2 6 (by omega)
theorem make20 (w : World) : (Instr.makeSlice 31 (.int .i64 20) (.int .i64 20)).run Tryz.prog w = .ok (.slice (some ⟨w.heap.size, 0, none⟩) 20 20) (w.alloc (.cells #[.int .u8 0, .int .u8 0, .int .u8 0, .int .u8 0, .int .u8 0, .int .u8 0, .int .u8 0, .int .u8 0, .int .u8 0, .int .u8 0, .int .u8 0, .int .u8 0, .int .u8 0, .int .u8 0, .int .u8 0, .int .u8 0, .int .u8 0, .int .u8 0, .int .u8 0, .int .u8 0] 5)) := by kernel_rfl
theorem own20 (w : World) : (w.alloc (.cells #[.int .u8 0, .int .u8 0, .int .u8 0, .int .u8 0, .int .u8 0, .int .u8 0, .int .u8 0, .int .u8 0, .int .u8 0, .int .u8 0, .int .u8 0, .int .u8 0, .int .u8 0, .int .u8 0, .int .u8 0, .int .u8 0, .int .u8 0, .int .u8 0, .int .u8 0, .int .u8 0] 5)).ownsRow w.heap.size 5 1 (.slice (some ⟨w.heap.size, 0, none⟩) 20 20) (List.replicate 20 (0 : Int)).length ((List.replicate 20 (0 : Int)).map (Value.int .u8)) :=
 ⟨by simp, .inr ⟨w.heap.size, 20, _, rfl, Nat.le_refl _, heap_alloc_new w _, Nat.le_refl _, by unfold maxLen; omega, rfl, rfl⟩⟩
set_option maxHeartbeats 4000000 in
theorem header_any (tos id ttl proto src dst : Int) (keep : Bool) (so : Value) (zo : List Int) (ad : Option Addr) (ld cd : Nat) (w : World) (hO : Mt.By zo) (hI : Rd w.heap.size w so zo)
  (hlo : zo.length ≤ 40) (hlm : zo.length % 4 = 0) (hall : 20 + zo.length + ld ≤ 65535) (ht : 0 ≤ tos ∧ tos ≤ 255) (hid : 0 ≤ id ∧ id ≤ 65535) (htt : 0 ≤ ttl ∧ ttl ≤ 255) (hpr : 0 ≤ proto ∧ proto ≤ 255) (hsr : 0 ≤ src ∧ src ≤ 4294967295) (hds : 0 ≤ dst ∧ dst ≤ 4294967295) :
  Calls Tryz.prog 43 #[.agg #[.int .u8 tos, .int .u16 id, .bool keep, .int .u8 ttl, .int .u8 proto, .int .u32 src, .int .u32 dst, so, .slice ad ld cd]] w fun e w' => ∃ a, e = .returned (.slice a (20 + zo.length) (20 + zo.length)) ∧ Ow w.heap.size w' (.slice a (20 + zo.length) (20 + zo.length)) (hdr tos id keep ttl proto src dst zo (20 + zo.length + ld)) ∧ Below w.heap.size w w' := by
 obtain ⟨i0, hi, hz0, hz1, hz2⟩ := info_parts info_u8
 obtain ⟨ao, co, rfl, hl1, hm1⟩ := hI.slice
 have hbox : Below w.heap.size w (w.alloc (.cells #[.int .u8 tos, .int .u16 id, .bool keep, .int .u8 ttl, .int .u8 proto, .int .u32 src, .int .u32 dst, .slice ao zo.length co, .slice ad ld cd] 56)) := (Below.refl _ _).alloc (Nat.le_refl _) _
 have hcell := cell_new w #[.int .u8 tos, .int .u16 id, .bool keep, .int .u8 ttl, .int .u8 proto, .int .u32 src, .int .u32 dst, .slice ao zo.length co, .slice ad ld cd] 56
 go_enter Tryz.func43, Tryz.ntmps43
 go_wp2_with fail
 refine (sizes_any tos id ttl proto src dst keep ao ad zo.length co ld cd _ (by omega) (by omega)).mono ?_
 rintro e w1 ⟨rfl, hb1⟩
 have hbc : ∀ j, w1.cell? ⟨w.heap.size, j, none⟩ = #[Value.int .u8 tos, .int .u16 id, .bool keep, .int .u8 ttl, .int .u8 proto, .int .u32 src, .int .u32 dst, .slice ao zo.length co, .slice ad ld cd][j]? := fun j => (hb1.cell (p := ⟨w.heap.size, j, none⟩) (by simp)).trans (hcell j)
 have hw1 := hbox.trans (hb1.mono (by simp))
 have hs1 := hb1.size
 have hI1 := hI.below hw1
 clear hcell hb1 hbox
 have hk20 := make20
 have hb2 : Below w.heap.size w (w1.alloc (.cells #[.int .i64 (20 + zo.length), .int .i64 (20 + zo.length + ld)] 200)) := hw1.alloc hw1.size _
 have hs2 : ∀ j, (w1.alloc (.cells #[.int .i64 (20 + zo.length), .int .i64 (20 + zo.length + ld)] 200)).cell? ⟨w1.heap.size, j, none⟩ = #[Value.int .i64 (20 + zo.length), .int .i64 (20 + zo.length + ld)][j]? := cell_new w1 _ _
 have hbc2 : ∀ j, (w1.alloc (.cells #[.int .i64 (20 + zo.length), .int .i64 (20 + zo.length + ld)] 200)).cell? ⟨w.heap.size, j, none⟩ = #[Value.int .u8 tos, .int .u16 id, .bool keep, .int .u8 ttl, .int .u8 proto, .int .u32 src, .int .u32 dst, .slice ao zo.length co, .slice ad ld cd][j]? := fun j => (((Below.refl w1.heap.size w1).alloc (Nat.le_refl _) _).cell (p := ⟨w.heap.size, j, none⟩) (by simp at hs1; simp; omega)).trans (hbc j)
 have hsz2 : w.heap.size < w1.heap.size := by simp at hs1; omega
 have hsz3 : w1.heap.size < (w1.alloc (.cells #[.int .i64 (20 + zo.length), .int .i64 (20 + zo.length + ld)] 200)).heap.size := by simp
 clear hbc hs1 hI1
 go_wp2_with fail
 generalize (w1.alloc (.cells #[.int .i64 (20 + zo.length), .int .i64 (20 + zo.length + ld)] 200)) = W2 at *
 have hI2 := hI.below hb2
 have hb3 := hb2.alloc hb2.size (.cells #[.int .u8 0, .int .u8 0, .int .u8 0, .int .u8 0, .int .u8 0, .int .u8 0, .int .u8 0, .int .u8 0, .int .u8 0, .int .u8 0, .int .u8 0, .int .u8 0, .int .u8 0, .int .u8 0, .int .u8 0, .int .u8 0, .int .u8 0, .int .u8 0, .int .u8 0, .int .u8 0] 5)
 have hbox2 : w.heap.size ≤ W2.heap.size := hb2.size
 obtain ⟨v4, w4, hrun, hown4, hg4⟩ := run_app (P := Tryz.prog) (W2.alloc (.cells #[.int .u8 0, .int .u8 0, .int .u8 0, .int .u8 0, .int .u8 0, .int .u8 0, .int .u8 0, .int .u8 0, .int .u8 0, .int .u8 0, .int .u8 0, .int .u8 0, .int .u8 0, .int .u8 0, .int .u8 0, .int .u8 0, .int .u8 0, .int .u8 0, .int .u8 0, .int .u8 0] 5)).drew 31 31 5 W2.heap.size i0 Tryz.underlying31 hi hz0 hz1 hz2 _ (List.replicate 20 0) (own20 W2) w.heap.size _ zo ((hI.below hb3).drew 1) (by simp; omega) (by simp [World.drew])
 have c7 := hbc2 7
 simp at c7
 have c7' : (W2.alloc (.cells #[.int .u8 0, .int .u8 0, .int .u8 0, .int .u8 0, .int .u8 0, .int .u8 0, .int .u8 0, .int .u8 0, .int .u8 0, .int .u8 0, .int .u8 0, .int .u8 0, .int .u8 0, .int .u8 0, .int .u8 0, .int .u8 0, .int .u8 0, .int .u8 0, .int .u8 0, .int .u8 0] 5)).cell? ⟨w.heap.size, 7, none⟩ = some (.slice ao zo.length co) := (((Below.refl W2.heap.size W2).alloc (Nat.le_refl _) _).cell (p := ⟨w.heap.size, 7, none⟩) (Nat.lt_trans hsz2 hsz3)).trans c7
 have hO4 := Ow.of_row hown4
 have hb4 : Below W2.heap.size W2 w4 := below_app (below_draw ((Below.refl _ W2).alloc (Nat.le_refl _) _) 1) (own20 W2) hg4 (Nat.le_refl _) (by simp)
 have hll : (List.replicate 20 (0 : Int) ++ zo).length = 20 + zo.length := by rw [List.length_append, List.length_replicate]
 have hcb := Mt.cks_bd (hd0 tos id keep ttl proto src dst zo (20 + zo.length + ld))
 have hBd := By_hd0 tos id keep ttl proto src dst zo (20 + zo.length + ld) hO hlo ht hid htt hpr hsr hds (by omega)
 have hld := hd0_length tos id keep ttl proto src dst zo (20 + zo.length + ld)
 have HR : Hid (hdr tos id keep ttl proto src dst zo (20 + zo.length + ld) = putAt2 (hd0 tos id keep ttl proto src dst zo (20 + zo.length + ld)) 10 (Mt.cks (hd0 tos id keep ttl proto src dst zo (20 + zo.length + ld)))) := rfl
 have HD : Hid (hd0 tos id keep ttl proto src dst zo (20 + zo.length + ld) = hd1 tos id keep ttl proto src dst (List.replicate 20 (0 : Int) ++ zo) (64 + (20 + (zo.length : Int)) / 4) (20 + zo.length + ld)) := rfl
 generalize hd0 tos id keep ttl proto src dst zo (20 + zo.length + ld) = dd at *
 generalize List.replicate 20 (0 : Int) ++ zo = l0 at *
 obtain ⟨a4, cap4, rfl, hl4, hm4⟩ := hO4.slice
 obtain ⟨g, hgg, _, hgW, hcf4, hset4⟩ := hO4.at (by omega)
 cases hgg
 obtain ⟨hO5, hb5⟩ := sets4 hO4 (by omega) (64 + (20 + (zo.length : Int)) / 4) tos ttl proto
 have hs3 : ∀ j, w4.cell? ⟨w1.heap.size, j, none⟩ = #[Value.int .i64 (20 + zo.length), .int .i64 (20 + zo.length + ld)][j]? := fun j => (hb4.cell (p := ⟨w1.heap.size, j, none⟩) hsz3).trans (hs2 j)
 have hbc3 : ∀ j, w4.cell? ⟨w.heap.size, j, none⟩ = #[Value.int .u8 tos, .int .u16 id, .bool keep, .int .u8 ttl, .int .u8 proto, .int .u32 src, .int .u32 dst, .slice ao zo.length co, .slice ad ld cd][j]? := fun j => (hb4.cell (p := ⟨w.heap.size, j, none⟩) (Nat.lt_trans hsz2 hsz3)).trans (hbc2 j)
 obtain ⟨x0, f0⟩ := hcf4 0 (by omega)
 obtain ⟨x1, f1⟩ := hcf4 1 (by omega)
 obtain ⟨x8, f8⟩ := hcf4 8 (by omega)
 obtain ⟨x9, f9⟩ := hcf4 9 (by omega)
 have b0 := hbc3 0
 have b3 := hbc3 3
 have b4 := hbc3 4
 have s0 := hs3 0
 simp at b0 b3 b4 s0
 have hlen0 : (1 : Int) < l0.length := by omega
 have hlen9 : (9 : Int) < l0.length := by omega
 have hor : bits .or .i64 64 ((20 + (zo.length : Int)) / 4) = 64 + (20 + (zo.length : Int)) / 4 := or64 _ (by omega) (by omega)
 generalize l0[0]?.getD 0 = y0 at x0
 generalize l0[1]?.getD 0 = y1 at x1
 generalize l0[8]?.getD 0 = y8 at x8
 generalize l0[9]?.getD 0 = y9 at x9
 have HC := hide hcf4
 have HS := hide hset4
 have H1 := hide hs3
 have H2 := hide hbc3
 clear hcf4 hset4 hs3 hbc3 hbc2 hs2 hown4
 go_region_law (refine step_run rfl (.tmp 7) (.tmp 9) 31 rfl _ _ rfl rfl _ w4 hrun ?_)
 all_goals clear hrun c7 c7' hg4 hk20
 all_goals go_wp2_with fail
 all_goals go_region
 all_goals
  rw [hll] at hO5
  have H1' := hide (fun j => (hb5.cell (p := ⟨w1.heap.size, j, none⟩) hsz3).trans (unhide H1 j))
  have H2' := hide (fun j => (hb5.cell (p := ⟨w.heap.size, j, none⟩) (Nat.lt_trans hsz2 hsz3)).trans (unhide H2 j))
  have hz5 := hb5.size
  have hbW5 : Below w.heap.size w ((((w4.setCell ⟨g, 0, none⟩ (.int .u8 (64 + (20 + (zo.length : Int)) / 4))).setCell ⟨g, 1, none⟩ (.int .u8 tos)).setCell ⟨g, 8, none⟩ (.int .u8 ttl)).setCell ⟨g, 9, none⟩ (.int .u8 proto)).drew := (hb2.trans (hb4.mono hb2.size)).trans (hb5.mono hb2.size)
  generalize ((((w4.setCell ⟨g, 0, none⟩ (.int .u8 (64 + (20 + (zo.length : Int)) / 4))).setCell ⟨g, 1, none⟩ (.int .u8 tos)).setCell ⟨g, 8, none⟩ (.int .u8 ttl)).setCell ⟨g, 9, none⟩ (.int .u8 proto)).drew = W5 at *
  have hz4 := hb4.size
  have hq5 : w1.heap.size < W5.heap.size := by omega
  have hq5' : w.heap.size < W5.heap.size := by omega
  have hl5 : ((((l0.set 0 (64 + (20 + (zo.length : Int)) / 4)).set 1 tos).set 8 ttl).set 9 proto).length = 20 + zo.length := by simp only [List.length_set]; exact hll
  unfold hd1 at HD
  generalize (((l0.set 0 (64 + (20 + (zo.length : Int)) / 4)).set 1 tos).set 8 ttl).set 9 proto = l5 at *
  have s1 := unhide H1' 1
  have b1 := unhide H2' 1
  simp at s1 b1
  have hO5' := hO5.mono hbox2
  clear x0 f0 x1 f1 x8 f8 x9 f9 b0 b3 b4 s0 H1 H2 HC HS hO4 hb5 hor hb4 hb3 hI2 hlen0 hlen9 hll hb2
  go_wp2_with fail
  refine (put16_any _ l5 _ (20 + zo.length + ld) _ (by omega) hO5.rd (by omega)).mono ?_
  rintro e w6 ⟨a6, rfl, hO6, hb6⟩
  rw [hl5] at hO6
  have H1' := hide (fun j => (hb6.cell (p := ⟨w1.heap.size, j, none⟩) hq5).trans (unhide H1' j))
  have H2' := hide (fun j => (hb6.cell (p := ⟨w.heap.size, j, none⟩) hq5').trans (unhide H2' j))
  have hbW6 := hbW5.trans (hb6.mono hbW5.size)
  have hq6 := Nat.lt_of_lt_of_le hq5 hb6.size
  have hq6' := Nat.lt_of_lt_of_le hq5' hb6.size
  have hO6' := hO6.mono hbW5.size
  have hl6 := (putAt2_length l5 2 (20 + zo.length + ld)).trans hl5
  generalize putAt2 l5 2 (20 + zo.length + ld) = l6 at *
  clear hb6 hO5 hO5' hbW5
  have b1 := unhide H2' 1
  simp at b1
  go_wp2_with fail
  refine (put16_any _ l6 _ id _ (by omega) hO6.rd hid).mono ?_
  rintro e w7 ⟨a7, rfl, hO7, hb7⟩
  rw [hl6] at hO7
  have H1' := hide (fun j => (hb7.cell (p := ⟨w1.heap.size, j, none⟩) hq6).trans (unhide H1' j))
  have H2' := hide (fun j => (hb7.cell (p := ⟨w.heap.size, j, none⟩) hq6').trans (unhide H2' j))
  have hbW7 := hbW6.trans (hb7.mono hbW6.size)
  have hq7 := Nat.lt_of_lt_of_le hq6 hb7.size
  have hq7' := Nat.lt_of_lt_of_le hq6' hb7.size
  have hO7' := hO7.mono hbW6.size
  have hl7 := (putAt2_length l6 4 id).trans hl6
  generalize putAt2 l6 4 id = l7 at *
  clear hb7 hO6 hO6' hbW6
  have b2 := unhide H2' 2
  simp at b2
  have b5 := unhide H2' 5
  simp at b5
  cases keep
  ·rw [if_neg (by simp)] at HD
   go_wp2_with fail
   refine (put32_any _ l7 _ src _ (by omega) hO7.rd hsr).mono ?_
   rintro e w8 ⟨a8, rfl, hO8, hb8⟩
   rw [hl7] at hO8
   have H1' := hide (fun j => (hb8.cell (p := ⟨w1.heap.size, j, none⟩) hq7).trans (unhide H1' j))
   have H2' := hide (fun j => (hb8.cell (p := ⟨w.heap.size, j, none⟩) hq7').trans (unhide H2' j))
   have hbW8 := hbW7.trans (hb8.mono hbW7.size)
   have hq8 := Nat.lt_of_lt_of_le hq7 hb8.size
   have hq8' := Nat.lt_of_lt_of_le hq7' hb8.size
   have hO8' := hO8.mono hbW7.size
   have hl8 := (putAt4_length l7 12 src).trans hl7
   generalize putAt4 l7 12 src = l8 at *
   clear hb8 hO7 hO7' hbW7
   have b6 := unhide H2' 6
   simp at b6
   go_wp2_with fail
   refine (put32_any _ l8 _ dst _ (by omega) hO8.rd hds).mono ?_
   rintro e w9 ⟨a9, rfl, hO9, hb9⟩
   rw [hl8] at hO9
   have H1' := hide (fun j => (hb9.cell (p := ⟨w1.heap.size, j, none⟩) hq8).trans (unhide H1' j))
   have H2' := hide (fun j => (hb9.cell (p := ⟨w.heap.size, j, none⟩) hq8').trans (unhide H2' j))
   have hbW9 := hbW8.trans (hb9.mono hbW8.size)
   have hq9 := Nat.lt_of_lt_of_le hq8 hb9.size
   have hq9' := Nat.lt_of_lt_of_le hq8' hb9.size
   have hO9' := hO9.mono hbW8.size
   have hl9 := (putAt4_length l8 16 dst).trans hl8
   generalize putAt4 l8 16 dst = l9 at *
   clear hb9 hO8 hO8' hbW8
   go_wp2_with fail
   rw [← HD.out] at hO9 hl9
   refine (sum_any _ dd hBd (by omega) _ hO9.rd).mono ?_
   rintro e w10 ⟨rfl, hb10⟩
   have hO10 := hO9.below hb10 (Nat.le_refl _)
   have hbW10 := hbW9.trans (hb10.mono hbW9.size)
   clear HD
   go_wp2_with fail
   refine (put16_any _ dd _ (Mt.cks dd) _ (by omega) hO10.rd hcb).mono ?_
   rintro e w11 ⟨a11, rfl, hO11, hb11⟩
   rw [hld] at hO11
   go_wp2
   go_ret
   exact ⟨_, rfl, by rw [HR.out]; exact hO11.mono hbW10.size, hbW10.trans (hb11.mono hbW10.size)⟩
  ·rw [if_pos rfl] at HD
   go_wp2_with fail
   refine (put16_any _ l7 _ 16384 _ (by omega) hO7.rd (by omega)).mono ?_
   rintro e w75 ⟨a75, rfl, hO75, hb75⟩
   rw [hl7] at hO75
   have H1' := hide (fun j => (hb75.cell (p := ⟨w1.heap.size, j, none⟩) hq7).trans (unhide H1' j))
   have H2' := hide (fun j => (hb75.cell (p := ⟨w.heap.size, j, none⟩) hq7').trans (unhide H2' j))
   have hbW75 := hbW7.trans (hb75.mono hbW7.size)
   have hq75 := Nat.lt_of_lt_of_le hq7 hb75.size
   have hq75' := Nat.lt_of_lt_of_le hq7' hb75.size
   have hO75' := hO75.mono hbW7.size
   have hl75 := (putAt2_length l7 6 16384).trans hl7
   generalize putAt2 l7 6 16384 = l75 at *
   clear hb75 hO7 hO7' hbW7
   have b5 := unhide H2' 5
   simp at b5
   go_wp2_with fail
   refine (put32_any _ l75 _ src _ (by omega) hO75.rd hsr).mono ?_
   rintro e w8 ⟨a8, rfl, hO8, hb8⟩
   rw [hl75] at hO8
   have H1' := hide (fun j => (hb8.cell (p := ⟨w1.heap.size, j, none⟩) hq75).trans (unhide H1' j))
   have H2' := hide (fun j => (hb8.cell (p := ⟨w.heap.size, j, none⟩) hq75').trans (unhide H2' j))
   have hbW8 := hbW75.trans (hb8.mono hbW75.size)
   have hq8 := Nat.lt_of_lt_of_le hq75 hb8.size
   have hq8' := Nat.lt_of_lt_of_le hq75' hb8.size
   have hO8' := hO8.mono hbW75.size
   have hl8 := (putAt4_length l75 12 src).trans hl75
   generalize putAt4 l75 12 src = l8 at *
   clear hb8 hO75 hO75' hbW75
   have b6 := unhide H2' 6
   simp at b6
   go_wp2_with fail
   refine (put32_any _ l8 _ dst _ (by omega) hO8.rd hds).mono ?_
   rintro e w9 ⟨a9, rfl, hO9, hb9⟩
   rw [hl8] at hO9
   have H1' := hide (fun j => (hb9.cell (p := ⟨w1.heap.size, j, none⟩) hq8).trans (unhide H1' j))
   have H2' := hide (fun j => (hb9.cell (p := ⟨w.heap.size, j, none⟩) hq8').trans (unhide H2' j))
   have hbW9 := hbW8.trans (hb9.mono hbW8.size)
   have hq9 := Nat.lt_of_lt_of_le hq8 hb9.size
   have hq9' := Nat.lt_of_lt_of_le hq8' hb9.size
   have hO9' := hO9.mono hbW8.size
   have hl9 := (putAt4_length l8 16 dst).trans hl8
   generalize putAt4 l8 16 dst = l9 at *
   clear hb9 hO8 hO8' hbW8
   go_wp2_with fail
   rw [← HD.out] at hO9 hl9
   refine (sum_any _ dd hBd (by omega) _ hO9.rd).mono ?_
   rintro e w10 ⟨rfl, hb10⟩
   have hO10 := hO9.below hb10 (Nat.le_refl _)
   have hbW10 := hbW9.trans (hb10.mono hbW9.size)
   clear HD
   go_wp2_with fail
   refine (put16_any _ dd _ (Mt.cks dd) _ (by omega) hO10.rd hcb).mono ?_
   rintro e w11 ⟨a11, rfl, hO11, hb11⟩
   rw [hld] at hO11
   go_wp2
   go_ret
   exact ⟨_, rfl, by rw [HR.out]; exact hO11.mono hbW10.size, hbW10.trans (hb11.mono hbW10.size)⟩
end Go.Proofs.YtofknbfbmaefoaaGreatDoor
