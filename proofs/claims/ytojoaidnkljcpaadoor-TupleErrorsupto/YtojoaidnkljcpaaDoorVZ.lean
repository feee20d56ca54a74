/- The document's header and Build of a packet. -/
import Derived.Test.YtojoaidnkljcpaaDoorV5
import Derived.Test.YtojoaidnkljcpaaDoorX2
import Derived.Test.YtojoaidnkljcpaaDoorHd
namespace Go.Proofs.YtojoaidnkljcpaaDoor
open Go.RowKit Go.Shelf
set_option maxRecDepth 100000
set_option linter.unusedVariables false
set_option linter.unusedSimpArgs false

/-- A row of the call's own that grows, all from Wb on. -/
def Row (Wb : World) (v : Value) (ys : List Int) (W : World) : Prop := W.ownsRow Wb.heap.size 5 1 v ys.length (ys.map (Value.int .u8)) ∧ Below Wb.heap.size Wb W
theorem row_mono {base base' n : Nat} {e : TypeId} {W : World} {v : Value} {xs : List Value} (h : W.ownsRow base e 1 v n xs) (hb : base' ≤ base) : W.ownsRow base' e 1 v n xs :=
  ⟨h.1, h.2.imp id (fun ⟨g, cap, cur, h1, h2, h3⟩ => ⟨g, cap, cur, h1, Nat.le_trans hb h2, h3⟩)⟩
theorem Row.alloc {Wb W : World} {v : Value} {ys : List Int} (h : Row Wb v ys W) (o : Obj) : Row Wb v ys (W.alloc o) := ⟨h.1.alloc o, h.2.alloc h.2.size o⟩
theorem Row.two (Wb : World) (x y : Int) : Row Wb (.slice (some ⟨Wb.heap.size, 0, none⟩) 2 2) [x, y] (Wb.alloc (.cells #[.int .u8 x, .int .u8 y] 5)) :=
  ⟨⟨by simp, .inr ⟨Wb.heap.size, 2, _, rfl, Nat.le_refl _, heap_alloc_new Wb _, Nat.le_refl _, by unfold maxLen; omega, rfl, rfl⟩⟩, (Below.refl _ _).alloc (Nat.le_refl _) _⟩
theorem Row.cell {Wb W : World} {v u : Value} {ys : List Int} (h : Row Wb v ys W) {p : Addr} (hc : Wb.cell? p = some u) : W.cell? p = some u := (h.2.cell (World.block_lt_of_cell? Wb p hc)).trans hc
theorem wpList_row {P : Program} {ops : Array Oper} {rest : List Oper} {o : Oper} {a : Act} {Q : Exit → Act → World → Prop} (w : World) (hgd : o.guard = none) (s x : Operand) (t : TypeId)
    (ho : o.op = .call { callee := .builtin .append, args := #[s, x], argTypes := #[t, t] })
    (Wb : World) (i : TypeInfo) (ht : P.underlying t = some (.slice 5)) (hi : P.info? 5 = some i) (hz : i.zero = some (.int .u8 0)) (hsize : i.size = 1) (hby : i.bytes = 1)
    (v : Value) (ys : List Int) (hs : a.eval s = v) (hR : Row Wb v ys w)
    (n₀ : Nat) (sx : Value) (zs : List Int) (hx : a.eval x = sx) (hI : Rd n₀ w sx zs) (hbd : ys.length + zs.length ≤ 140737488355328)
    (h : ∀ v' w', Row Wb v' (ys ++ zs) w' → wpList P ops Q rest (a.put o.dst v') w') : wpList P ops Q (o :: rest) a w :=
  wpList_app w hgd s x t ho Wb.heap.size 5 i ht hi hz hsize hby v ys hs hR.1 n₀ sx zs hx hI hbd hR.2.size (fun v' w' h1 h2 => h v' w' ⟨h1, below_app hR.2 hR.1 h2 (Nat.le_refl _) hR.2.size⟩)

set_option maxHeartbeats 1000000 in
theorem rput16_row (sv : Value) (zs : List Int) (n : Nat) (v : Int) (hl : zs.length ≤ 140737488355328) (k1 : n + 1 < zs.length) (w : World) (hI : Rd w.heap.size w sv zs) (hv : 0 ≤ v ∧ v ≤ 65535) :
    Calls Tryd.prog 41 #[sv, .int .i64 n, .int .u16 v] w fun e w' => ∃ r, e = .returned r ∧ w'.ownsRow w.heap.size 5 1 r zs.length ((Mt.put2 zs n v).map (Value.int .u8)) ∧ Below w.heap.size w w' := by
  obtain ⟨i0, hi, hz0, hz1, hz2⟩ := info_parts info_u8
  obtain ⟨a, cap, rfl, h1, h2⟩ := hI.slice
  have t0 : (0 : Int) ≤ n := by omega
  have t1 : 2 ≤ (zs.length : Int) := by omega
  have t2 : (n : Int) ≤ (zs.length : Int) - 2 := by omega
  have i1 : (n : Int) < zs.length := by omega
  have i2 : (n : Int) + 1 < zs.length := by omega
  go_enter Tryd.func41, Tryd.ntmps41
  go_wp2_with (at_builtin; refine wpList_app _ rfl (.tmp 8) (.tmp 9) 24 rfl w.heap.size 5 i0 Tryd.underlying24 hi hz0 hz1 hz2 _ [] rfl (World.ownsRow_nil _ _ _ _) w.heap.size _ zs rfl hI (by simp; omega) (by simp) ?_; intro v2 w2 hown2 hg2; have hb2 := (Below.refl w.heap.size w).grown hg2 (by simp) (fun k e => by cases e); clear hg2; have hO2 := Ow.of_row hown2; simp only [List.nil_append] at hO2 hown2; have HW := hide hown2; clear hown2; obtain ⟨a2, cap2, rfl, hl2, hm2⟩ := hO2.slice; obtain ⟨g, rfl, _, hg, hcf, hset⟩ := hO2.at (by omega); obtain ⟨c0, f0⟩ := hcf n (by omega); obtain ⟨c1, f1⟩ := hcf (n + 1) k1; clear hcf)
  go_ret
  refine ⟨_, rfl, ?_, (hb2.setCell (p := ⟨g, n, none⟩) hg _).setCell (p := ⟨g, n + 1, none⟩) hg _⟩
  have := ((HW.out.stored n (.int .u8 (v / 256))).1.stored (n + 1) (.int .u8 (v % 256))).1
  simpa [Mt.put2, List.map_set] using this

set_option maxHeartbeats 4000000 in
theorem rheader_any (tos id ttl proto src dst : Int) (keep : Bool) (so : Value) (zo : List Int) (ad : Option Addr) (ld cd : Nat) (all : Int) (w : World) (hO : Mt.By zo) (hI : Rd w.heap.size w so zo)
    (hlo : zo.length ≤ 40) (hlm : zo.length % 4 = 0) (hall : 0 ≤ all ∧ all ≤ 65535) (ht : 0 ≤ tos ∧ tos ≤ 255) (hid : 0 ≤ id ∧ id ≤ 65535) (htt : 0 ≤ ttl ∧ ttl ≤ 255) (hpr : 0 ≤ proto ∧ proto ≤ 255) (hsr : 0 ≤ src ∧ src ≤ 4294967295) (hds : 0 ≤ dst ∧ dst ≤ 4294967295) :
    Calls Tryd.prog 44 #[.agg #[.int .u8 tos, .int .u16 id, .bool keep, .int .u8 ttl, .int .u8 proto, .int .u32 src, .int .u32 dst, so, .slice ad ld cd], .int .i64 all] w fun e w' => ∃ v, e = .returned v ∧ w'.ownsRow w.heap.size 5 1 v (hdr tos id keep ttl proto src dst zo all).length ((hdr tos id keep ttl proto src dst zo all).map (Value.int .u8)) ∧ Below w.heap.size w w' := by
  obtain ⟨i0, hi, hz0, hz1, hz2⟩ := info_parts info_u8
  obtain ⟨ao, co, rfl, hl1, hm1⟩ := hI.slice
  have hwr : IntKind.u16.wrap all = all := by simp [IntKind.wrap, IntKind.bits, IntKind.signed]; omega
  have hw0 : IntKind.u8.wrap (69 + (zo.length : Int) / 4) = 69 + (zo.length : Int) / 4 := by simp [IntKind.wrap, IntKind.bits, IntKind.signed]; omega
  have hwr : IntKind.u16.wrap all = all := by simp [IntKind.wrap, IntKind.bits, IntKind.signed]; omega
  have hw0 : IntKind.u8.wrap (69 + (zo.length : Int) / 4) = 69 + (zo.length : Int) / 4 := by simp [IntKind.wrap, IntKind.bits, IntKind.signed]; omega
  have hwr : IntKind.u16.wrap all = all := by simp [IntKind.wrap, IntKind.bits, IntKind.signed]; omega
  have hw0 : IntKind.u8.wrap (69 + (zo.length : Int) / 4) = 69 + (zo.length : Int) / 4 := by simp [IntKind.wrap, IntKind.bits, IntKind.signed]; omega
  have hwr : IntKind.u16.wrap all = all := by simp [IntKind.wrap, IntKind.bits, IntKind.signed]; omega
  have hw0 : IntKind.u8.wrap (69 + (zo.length : Int) / 4) = 69 + (zo.length : Int) / 4 := by simp [IntKind.wrap, IntKind.bits, IntKind.signed]; omega
  have hwr : IntKind.u16.wrap all = all := by simp [IntKind.wrap, IntKind.bits, IntKind.signed]; omega
  have hw0 : IntKind.u8.wrap (69 + (zo.length : Int) / 4) = 69 + (zo.length : Int) / 4 := by simp [IntKind.wrap, IntKind.bits, IntKind.signed]; omega
  have hwr : IntKind.u16.wrap all = all := by simp [IntKind.wrap, IntKind.bits, IntKind.signed]; omega
  have hw0 : IntKind.u8.wrap (69 + (zo.length : Int) / 4) = 69 + (zo.length : Int) / 4 := by simp [IntKind.wrap, IntKind.bits, IntKind.signed]; omega
  have hbox : Below w.heap.size w (w.alloc (.cells #[.int .u8 tos, .int .u16 id, .bool keep, .int .u8 ttl, .int .u8 proto, .int .u32 src, .int .u32 dst, .slice ao zo.length co, .slice ad ld cd] 26)) := (Below.refl _ _).alloc (Nat.le_refl _) _
  have hblk := heap_alloc_new w (.cells #[.int .u8 tos, .int .u16 id, .bool keep, .int .u8 ttl, .int .u8 proto, .int .u32 src, .int .u32 dst, .slice ao zo.length co, .slice ad ld cd] 26)
  cases keep
  · have hsb : (w.alloc (.cells #[.int .u8 tos, .int .u16 id, .bool false, .int .u8 ttl, .int .u8 proto, .int .u32 src, .int .u32 dst, .slice ao zo.length co, .slice ad ld cd] 26)).heap.size = w.heap.size + 1 := by simp
    go_enter Tryd.func44, Tryd.ntmps44
    go_wp2_with fail
    generalize (w.alloc (.cells #[.int .u8 tos, .int .u16 id, .bool false, .int .u8 ttl, .int .u8 proto, .int .u32 src, .int .u32 dst, .slice ao zo.length co, .slice ad ld cd] 26)) = Wb at *
    have C0 : Wb.cell? ⟨w.heap.size, 0, none⟩ = some (.int .u8 tos) := block_cell hblk 0
    have C1 : Wb.cell? ⟨w.heap.size, 1, none⟩ = some (.int .u16 id) := block_cell hblk 1
    have C2 : Wb.cell? ⟨w.heap.size, 2, none⟩ = some (.bool false) := block_cell hblk 2
    have C3 : Wb.cell? ⟨w.heap.size, 3, none⟩ = some (.int .u8 ttl) := block_cell hblk 3
    have C4 : Wb.cell? ⟨w.heap.size, 4, none⟩ = some (.int .u8 proto) := block_cell hblk 4
    have C5 : Wb.cell? ⟨w.heap.size, 5, none⟩ = some (.int .u32 src) := block_cell hblk 5
    have C6 : Wb.cell? ⟨w.heap.size, 6, none⟩ = some (.int .u32 dst) := block_cell hblk 6
    have C7 : Wb.cell? ⟨w.heap.size, 7, none⟩ = some (.slice ao zo.length co) := block_cell hblk 7
    have hR1 := Row.two Wb (69 + (zo.length : Int) / 4) tos
    rw [hsb] at hR1
    generalize Wb.alloc (.cells #[.int .u8 (69 + (zo.length : Int) / 4), .int .u8 tos] 5) = w1 at *
    refine (two_any all hall _).mono ?_
    rintro e w2 ⟨rfl, rfl⟩
    go_wp2_with (at_builtin; refine wpList_row _ rfl (.tmp 15) (.tmp 18) 24 rfl Wb i0 Tryd.underlying24 hi hz0 hz1 hz2 _ [69 + (zo.length : Int) / 4, tos] rfl (hR1.alloc _) _ _ [all / 256, all % 256] rfl (Rd.new2 (all / 256) (all % 256) 5 w1) (by simp <;> omega) ?_; intro v3 w3 hR3; have d3x1 := hR3.cell C1)
    generalize hl3 : [69 + (zo.length : Int) / 4, tos] ++ [all / 256, all % 256] = l3 at *
    have n3 : l3.length = 4 := by rw [← hl3]; rfl
    have HL3 := hide hl3
    clear hl3 hR1
    refine (two_any id hid _).mono ?_
    rintro e w4 ⟨rfl, rfl⟩
    go_wp2_with (first
      | (at_builtin; refine wpList_row _ rfl (.tmp 20) (.tmp 23) 24 rfl Wb i0 Tryd.underlying24 hi hz0 hz1 hz2 _ l3 rfl (hR3.alloc _) _ _ [id / 256, id % 256] rfl (Rd.new2 (id / 256) (id % 256) 5 w3) (by simp <;> omega) ?_; intro v5 w5 hR5; have d5x2 := hR5.cell C2)
      | (at_builtin; refine wpList_row _ rfl (.tmp 30) (.tmp 31) 24 rfl Wb i0 Tryd.underlying24 hi hz0 hz1 hz2 _ (l3 ++ [id / 256, id % 256]) rfl (hR5.alloc _) _ _ [0, 0] rfl (Rd.new2 0 0 5 w5) (by simp <;> omega) ?_; intro v7 w7 hR7; have d7x3 := hR7.cell C3; have d7x4 := hR7.cell C4)
      | (at_builtin; refine wpList_row _ rfl (.tmp 33) (.tmp 38) 24 rfl Wb i0 Tryd.underlying24 hi hz0 hz1 hz2 _ (l3 ++ [id / 256, id % 256] ++ [0, 0]) rfl (hR7.alloc _) _ _ [ttl, proto, 0, 0] rfl (Rd.new4 ttl proto 0 0 5 w7) (by simp <;> omega) ?_; intro v9 w9 hR9; have d9x5 := hR9.cell C5))
    generalize hl9 : l3 ++ [id / 256, id % 256] ++ [0, 0] ++ [ttl, proto, 0, 0] = l9 at *
    have n9 : l9.length = 12 := by rw [← hl9]; simp [n3]
    have HL9 := hide hl9
    clear hl9 hR3 hR5 hR7
    refine (four_any src hsr _).mono ?_
    rintro e w10 ⟨rfl, rfl⟩
    go_wp2_with (at_builtin; refine wpList_row _ rfl (.tmp 40) (.tmp 43) 24 rfl Wb i0 Tryd.underlying24 hi hz0 hz1 hz2 _ l9 rfl (hR9.alloc _) _ _ [src / 16777216, src / 65536 % 256, src / 256 % 256, src % 256] rfl (Rd.new4 (src / 16777216) (src / 65536 % 256) (src / 256 % 256) (src % 256) 5 w9) (by simp <;> omega) ?_; intro v11 w11 hR11; have d11x6 := hR11.cell C6)
    generalize hl11 : l9 ++ [src / 16777216, src / 65536 % 256, src / 256 % 256, src % 256] = l11 at *
    have n11 : l11.length = 16 := by rw [← hl11]; simp [n9]
    have HL11 := hide hl11
    clear hl11 hR9
    refine (four_any dst hds _).mono ?_
    rintro e w12 ⟨rfl, rfl⟩
    go_wp2_with (first
      | (at_builtin; refine wpList_row _ rfl (.tmp 45) (.tmp 48) 24 rfl Wb i0 Tryd.underlying24 hi hz0 hz1 hz2 _ l11 rfl (hR11.alloc _) _ _ [dst / 16777216, dst / 65536 % 256, dst / 256 % 256, dst % 256] rfl (Rd.new4 (dst / 16777216) (dst / 65536 % 256) (dst / 256 % 256) (dst % 256) 5 w11) (by simp <;> omega) ?_; intro v13 w13 hR13; have d13x7 := hR13.cell C7)
      | (at_builtin; refine wpList_row _ rfl (.tmp 50) (.tmp 52) 24 rfl Wb i0 Tryd.underlying24 hi hz0 hz1 hz2 _ (l11 ++ [dst / 16777216, dst / 65536 % 256, dst / 256 % 256, dst % 256]) rfl (hR13) _ _ zo rfl (hI.below (hbox.trans (hR13.2.mono (by omega)))) (by simp <;> omega) ?_; intro v14 w14 hR14))
    have hO14 := Ow.of_row hR14.1
    have hll : l11 ++ [dst / 16777216, dst / 65536 % 256, dst / 256 % 256, dst % 256] ++ zo = hd0 tos id false ttl proto src dst zo all := by
      rw [hd0_eq, ← HL11.out, ← HL9.out, ← HL3.out]
      simp [h20]
      omega
    rw [hll] at hO14
    have hBd := By_hd0 tos id false ttl proto src dst zo all hO hlo ht hid htt hpr hsr hds hall
    have hlen := hd0_length tos id false ttl proto src dst zo all
    have HR : Hid (hdr tos id false ttl proto src dst zo all = putAt2 (hd0 tos id false ttl proto src dst zo all) 10 (Mt.cks (hd0 tos id false ttl proto src dst zo all))) := rfl
    have hw14 : Below w.heap.size w w14 := hbox.trans (hR14.2.mono (by omega))
    clear hll hR14 hR13 hR11 HL3 HL9 HL11
    generalize hd0 tos id false ttl proto src dst zo all = dd at *
    have hcb := Mt.cks_bd dd
    refine (rsum_any v14 dd hBd (by omega) w14 hO14.rd).mono ?_
    rintro e w15 ⟨rfl, hb15⟩
    obtain ⟨a14, cap14, rfl, hq14, hm14⟩ := hO14.slice
    have hO15 := hO14.below hb15 (Nat.le_refl _)
    have HLn := hide hlen
    clear hlen
    go_wp2_with fail
    refine (rput16_row _ dd 10 (Mt.cks dd) (by have := HLn.out; omega) (by have := HLn.out; omega) w15 hO15.rd hcb).mono ?_
    rintro e w16 ⟨r16, rfl, hO16, hb16⟩
    go_wp2
    go_ret
    have hw15 := hw14.trans (hb15.mono hw14.size)
    refine ⟨_, rfl, ?_, hw15.trans (hb16.mono hw15.size)⟩
    have hln := HLn.out
    rw [HR.out, putAt2_lit _ 10 10 _ rfl (by omega), Mt.put2_length]
    exact row_mono hO16 hw15.size
  · have hsb : (w.alloc (.cells #[.int .u8 tos, .int .u16 id, .bool true, .int .u8 ttl, .int .u8 proto, .int .u32 src, .int .u32 dst, .slice ao zo.length co, .slice ad ld cd] 26)).heap.size = w.heap.size + 1 := by simp
    go_enter Tryd.func44, Tryd.ntmps44
    go_wp2_with fail
    generalize (w.alloc (.cells #[.int .u8 tos, .int .u16 id, .bool true, .int .u8 ttl, .int .u8 proto, .int .u32 src, .int .u32 dst, .slice ao zo.length co, .slice ad ld cd] 26)) = Wb at *
    have C0 : Wb.cell? ⟨w.heap.size, 0, none⟩ = some (.int .u8 tos) := block_cell hblk 0
    have C1 : Wb.cell? ⟨w.heap.size, 1, none⟩ = some (.int .u16 id) := block_cell hblk 1
    have C2 : Wb.cell? ⟨w.heap.size, 2, none⟩ = some (.bool true) := block_cell hblk 2
    have C3 : Wb.cell? ⟨w.heap.size, 3, none⟩ = some (.int .u8 ttl) := block_cell hblk 3
    have C4 : Wb.cell? ⟨w.heap.size, 4, none⟩ = some (.int .u8 proto) := block_cell hblk 4
    have C5 : Wb.cell? ⟨w.heap.size, 5, none⟩ = some (.int .u32 src) := block_cell hblk 5
    have C6 : Wb.cell? ⟨w.heap.size, 6, none⟩ = some (.int .u32 dst) := block_cell hblk 6
    have C7 : Wb.cell? ⟨w.heap.size, 7, none⟩ = some (.slice ao zo.length co) := block_cell hblk 7
    have hR1 := Row.two Wb (69 + (zo.length : Int) / 4) tos
    rw [hsb] at hR1
    generalize Wb.alloc (.cells #[.int .u8 (69 + (zo.length : Int) / 4), .int .u8 tos] 5) = w1 at *
    refine (two_any all hall _).mono ?_
    rintro e w2 ⟨rfl, rfl⟩
    go_wp2_with (at_builtin; refine wpList_row _ rfl (.tmp 15) (.tmp 18) 24 rfl Wb i0 Tryd.underlying24 hi hz0 hz1 hz2 _ [69 + (zo.length : Int) / 4, tos] rfl (hR1.alloc _) _ _ [all / 256, all % 256] rfl (Rd.new2 (all / 256) (all % 256) 5 w1) (by simp <;> omega) ?_; intro v3 w3 hR3; have d3x1 := hR3.cell C1)
    generalize hl3 : [69 + (zo.length : Int) / 4, tos] ++ [all / 256, all % 256] = l3 at *
    have n3 : l3.length = 4 := by rw [← hl3]; rfl
    have HL3 := hide hl3
    clear hl3 hR1
    refine (two_any id hid _).mono ?_
    rintro e w4 ⟨rfl, rfl⟩
    go_wp2_with (first
      | (at_builtin; refine wpList_row _ rfl (.tmp 20) (.tmp 23) 24 rfl Wb i0 Tryd.underlying24 hi hz0 hz1 hz2 _ l3 rfl (hR3.alloc _) _ _ [id / 256, id % 256] rfl (Rd.new2 (id / 256) (id % 256) 5 w3) (by simp <;> omega) ?_; intro v5 w5 hR5; have d5x2 := hR5.cell C2)
      | (at_builtin; refine wpList_row _ rfl (.tmp 27) (.tmp 28) 24 rfl Wb i0 Tryd.underlying24 hi hz0 hz1 hz2 _ (l3 ++ [id / 256, id % 256]) rfl (hR5.alloc _) _ _ [64, 0] rfl (Rd.new2 64 0 5 w5) (by simp <;> omega) ?_; intro v7 w7 hR7; have d7x3 := hR7.cell C3; have d7x4 := hR7.cell C4)
      | (at_builtin; refine wpList_row _ rfl (.tmp 33) (.tmp 38) 24 rfl Wb i0 Tryd.underlying24 hi hz0 hz1 hz2 _ (l3 ++ [id / 256, id % 256] ++ [64, 0]) rfl (hR7.alloc _) _ _ [ttl, proto, 0, 0] rfl (Rd.new4 ttl proto 0 0 5 w7) (by simp <;> omega) ?_; intro v9 w9 hR9; have d9x5 := hR9.cell C5))
    generalize hl9 : l3 ++ [id / 256, id % 256] ++ [64, 0] ++ [ttl, proto, 0, 0] = l9 at *
    have n9 : l9.length = 12 := by rw [← hl9]; simp [n3]
    have HL9 := hide hl9
    clear hl9 hR3 hR5 hR7
    refine (four_any src hsr _).mono ?_
    rintro e w10 ⟨rfl, rfl⟩
    go_wp2_with (at_builtin; refine wpList_row _ rfl (.tmp 40) (.tmp 43) 24 rfl Wb i0 Tryd.underlying24 hi hz0 hz1 hz2 _ l9 rfl (hR9.alloc _) _ _ [src / 16777216, src / 65536 % 256, src / 256 % 256, src % 256] rfl (Rd.new4 (src / 16777216) (src / 65536 % 256) (src / 256 % 256) (src % 256) 5 w9) (by simp <;> omega) ?_; intro v11 w11 hR11; have d11x6 := hR11.cell C6)
    generalize hl11 : l9 ++ [src / 16777216, src / 65536 % 256, src / 256 % 256, src % 256] = l11 at *
    have n11 : l11.length = 16 := by rw [← hl11]; simp [n9]
    have HL11 := hide hl11
    clear hl11 hR9
    refine (four_any dst hds _).mono ?_
    rintro e w12 ⟨rfl, rfl⟩
    go_wp2_with (first
      | (at_builtin; refine wpList_row _ rfl (.tmp 45) (.tmp 48) 24 rfl Wb i0 Tryd.underlying24 hi hz0 hz1 hz2 _ l11 rfl (hR11.alloc _) _ _ [dst / 16777216, dst / 65536 % 256, dst / 256 % 256, dst % 256] rfl (Rd.new4 (dst / 16777216) (dst / 65536 % 256) (dst / 256 % 256) (dst % 256) 5 w11) (by simp <;> omega) ?_; intro v13 w13 hR13; have d13x7 := hR13.cell C7)
      | (at_builtin; refine wpList_row _ rfl (.tmp 50) (.tmp 52) 24 rfl Wb i0 Tryd.underlying24 hi hz0 hz1 hz2 _ (l11 ++ [dst / 16777216, dst / 65536 % 256, dst / 256 % 256, dst % 256]) rfl (hR13) _ _ zo rfl (hI.below (hbox.trans (hR13.2.mono (by omega)))) (by simp <;> omega) ?_; intro v14 w14 hR14))
    have hO14 := Ow.of_row hR14.1
    have hll : l11 ++ [dst / 16777216, dst / 65536 % 256, dst / 256 % 256, dst % 256] ++ zo = hd0 tos id true ttl proto src dst zo all := by
      rw [hd0_eq, ← HL11.out, ← HL9.out, ← HL3.out]
      simp [h20]
      omega
    rw [hll] at hO14
    have hBd := By_hd0 tos id true ttl proto src dst zo all hO hlo ht hid htt hpr hsr hds hall
    have hlen := hd0_length tos id true ttl proto src dst zo all
    have HR : Hid (hdr tos id true ttl proto src dst zo all = putAt2 (hd0 tos id true ttl proto src dst zo all) 10 (Mt.cks (hd0 tos id true ttl proto src dst zo all))) := rfl
    have hw14 : Below w.heap.size w w14 := hbox.trans (hR14.2.mono (by omega))
    clear hll hR14 hR13 hR11 HL3 HL9 HL11
    generalize hd0 tos id true ttl proto src dst zo all = dd at *
    have hcb := Mt.cks_bd dd
    refine (rsum_any v14 dd hBd (by omega) w14 hO14.rd).mono ?_
    rintro e w15 ⟨rfl, hb15⟩
    obtain ⟨a14, cap14, rfl, hq14, hm14⟩ := hO14.slice
    have hO15 := hO14.below hb15 (Nat.le_refl _)
    have HLn := hide hlen
    clear hlen
    go_wp2_with fail
    refine (rput16_row _ dd 10 (Mt.cks dd) (by have := HLn.out; omega) (by have := HLn.out; omega) w15 hO15.rd hcb).mono ?_
    rintro e w16 ⟨r16, rfl, hO16, hb16⟩
    go_wp2
    go_ret
    have hw15 := hw14.trans (hb15.mono hw14.size)
    refine ⟨_, rfl, ?_, hw15.trans (hb16.mono hw15.size)⟩
    have hln := HLn.out
    rw [HR.out, putAt2_lit _ 10 10 _ rfl (by omega), Mt.put2_length]
    exact row_mono hO16 hw15.size

set_option maxHeartbeats 4000000 in
theorem rbuild_yes (tos id ttl proto src dst : Int) (keep : Bool) (so sd : Value) (zo zd : List Int) (w : World) (hBo : Mt.By zo) (hIo : Rd w.heap.size w so zo) (hId : Rd w.heap.size w sd zd)
    (hlo : zo.length ≤ 40) (hlm : zo.length % 4 = 0) (hall : 20 + zo.length + zd.length ≤ 65535) (ht : 0 ≤ tos ∧ tos ≤ 255) (hid : 0 ≤ id ∧ id ≤ 65535) (htt : 0 ≤ ttl ∧ ttl ≤ 255) (hpr : 0 ≤ proto ∧ proto ≤ 255) (hsr : 0 ≤ src ∧ src ≤ 4294967295) (hds : 0 ≤ dst ∧ dst ≤ 4294967295) :
    Calls Tryd.prog 24 #[.agg #[.int .u8 tos, .int .u16 id, .bool keep, .int .u8 ttl, .int .u8 proto, .int .u32 src, .int .u32 dst, so, sd]] w fun e w' => ∃ v, e = .returned (.tuple #[v, .int .i64 0]) ∧ Ow w.heap.size w' v (hdr tos id keep ttl proto src dst zo (20 + zo.length + zd.length) ++ zd) ∧ Below w.heap.size w w' := by
  obtain ⟨i0, hi, hz0, hz1, hz2⟩ := info_parts info_u8
  obtain ⟨ao, co, rfl, hl1, hm1⟩ := hIo.slice
  obtain ⟨ad, cd, rfl, hl2, hm2⟩ := hId.slice
  have hbox : Below w.heap.size w (w.alloc (.cells #[.int .u8 tos, .int .u16 id, .bool keep, .int .u8 ttl, .int .u8 proto, .int .u32 src, .int .u32 dst, .slice ao zo.length co, .slice ad zd.length cd] 26)) := (Below.refl _ _).alloc (Nat.le_refl _) _
  have hblk := heap_alloc_new w (.cells #[.int .u8 tos, .int .u16 id, .bool keep, .int .u8 ttl, .int .u8 proto, .int .u32 src, .int .u32 dst, .slice ao zo.length co, .slice ad zd.length cd] 26)
  have hsz : (w.alloc (.cells #[.int .u8 tos, .int .u16 id, .bool keep, .int .u8 ttl, .int .u8 proto, .int .u32 src, .int .u32 dst, .slice ao zo.length co, .slice ad zd.length cd] 26)).heap.size = w.heap.size + 1 := by simp
  have t1 : ¬ (40 : Int) < zo.length := by omega
  have t2 : ((zo.length : Int) % 4 != 0) = false := by simp; omega
  have t3 : ¬ (65535 : Int) < 20 + zo.length + zd.length := by omega
  have hlh : (hdr tos id keep ttl proto src dst zo (20 + zo.length + zd.length)).length = 20 + zo.length := hdr_len _ _ _ _ _ _ _ _ _
  go_enter Tryd.func24, Tryd.ntmps24
  go_wp2_with fail
  generalize w.alloc (.cells #[.int .u8 tos, .int .u16 id, .bool keep, .int .u8 ttl, .int .u8 proto, .int .u32 src, .int .u32 dst, .slice ao zo.length co, .slice ad zd.length cd] 26) = w1 at *
  have hIo1 := (hIo.below hbox).mono hbox.size
  have hId1 := (hId.below hbox).mono hbox.size
  have C1 := block_cell hblk
  have b8 : w1.cell? ⟨w.heap.size, 8, none⟩ = some (.slice ad zd.length cd) := C1 8
  have hs1 : w.heap.size < w1.heap.size := by omega
  have HL := hide hlh
  clear hlh
  go_region_law (first
    | (refine step_run rfl (.tmp 28) (.tmp 30) 24 rfl _ _ rfl rfl v5 w5 hrun ?_)
    | (go_simp; go_at_call 44; refine (rheader_any tos id ttl proto src dst keep _ zo ad zd.length cd (20 + zo.length + zd.length) w1.drew hBo (hIo1.drew 1) hlo hlm (by omega) ht hid htt hpr hsr hds).mono ?_; rintro e w4 ⟨v4, rfl, hO4, hb4⟩; have c8 : w4.cell? ⟨w.heap.size, 8, none⟩ = some (.slice ad zd.length cd) := (hb4.cell (p := ⟨w.heap.size, 8, none⟩) hs1).trans b8; obtain ⟨v5, w5, hrun, hO5, hg5⟩ := run_app (P := Tryd.prog) w4 24 24 5 w1.heap.size i0 Tryd.underlying24 hi hz0 hz1 hz2 v4 _ hO4 w1.heap.size _ zd ((hId1.drew 1).below hb4) (by have := HL.out; omega) hb4.size; have hb5 := below_app hb4 hO4 hg5 (Nat.le_refl _) hb4.size; dsimp only))
  all_goals go_wp2
  all_goals go_ret2
  all_goals
    have hbW := (below_draw hbox 1).trans (hb5.mono hbox.size)
    exact ⟨_, rfl, (Ow.of_row hO5).mono hbox.size, hbW⟩

set_option maxHeartbeats 1000000 in
theorem rbuild_no (tos id ttl proto src dst : Int) (keep : Bool) (ao ad : Option Addr) (lo co ld cd : Nat) (w : World) (h1 : lo ≤ 140737488355328) (h2 : ld ≤ 140737488355328) (hf : flt lo ld ≠ 0) :
    Calls Tryd.prog 24 #[.agg #[.int .u8 tos, .int .u16 id, .bool keep, .int .u8 ttl, .int .u8 proto, .int .u32 src, .int .u32 dst, .slice ao lo co, .slice ad ld cd]] w fun e w' => e = .returned (.tuple #[.slice none 0 0, .int .i64 (flt lo ld)]) ∧ Below w.heap.size w w' := by
  have hbox : Below w.heap.size w (w.alloc (.cells #[.int .u8 tos, .int .u16 id, .bool keep, .int .u8 ttl, .int .u8 proto, .int .u32 src, .int .u32 dst, .slice ao lo co, .slice ad ld cd] 26)) := (Below.refl _ _).alloc (Nat.le_refl _) _
  by_cases c1 : 40 < lo
  · have t1 : (40 : Int) < lo := by omega
    have HF : Hid (flt lo ld = 4) := by show _ = _; unfold flt; rw [if_pos (.inl c1)]
    clear hf
    go_enter Tryd.func24, Tryd.ntmps24
    go_wp2
    go_ret2
    exact ⟨by rw [HF.out]; rfl, hbox⟩
  · have t1 : ¬ (40 : Int) < lo := by omega
    by_cases c2 : lo % 4 = 0
    · have t2 : ((lo : Int) % 4 != 0) = false := by simp; omega
      have c3 : 65535 < 20 + lo + ld := by
        refine Classical.byContradiction (fun h => hf ?_)
        unfold flt; rw [if_neg (by omega), if_neg (by omega)]
      have t3 : (65535 : Int) < 20 + lo + ld := by omega
      have HF : Hid (flt lo ld = 8) := by show _ = _; unfold flt; rw [if_neg (by omega), if_pos c3]
      clear hf
      go_enter Tryd.func24, Tryd.ntmps24
      go_wp2
      go_ret2
      exact ⟨by rw [HF.out]; rfl, hbox⟩
    · have t2 : ((lo : Int) % 4 != 0) = true := by simp; omega
      have HF : Hid (flt lo ld = 4) := by show _ = _; unfold flt; rw [if_pos (.inr c2)]
      clear hf
      go_enter Tryd.func24, Tryd.ntmps24
      go_wp2
      go_ret2
      exact ⟨by rw [HF.out]; rfl, hbox⟩
end Go.Proofs.YtojoaidnkljcpaaDoor
