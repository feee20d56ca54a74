/- Package segs: the document's answer for a packet's datagram. -/
import Derived.Test.YtclkfmdlgffbeaaSF
import Derived.Test.YtclkfmdlgffbeaaRx
namespace Go.Proofs.Ytclkfmdlgffbeaa
open Go.RowKit Go.Shelf
set_option maxRecDepth 100000
set_option linter.unusedVariables false
set_option linter.unusedSimpArgs false

set_option maxHeartbeats 1000000 in
theorem rpseudo_row (s d p n : Int) (hs : 0 ≤ s ∧ s ≤ 4294967295) (hd : 0 ≤ d ∧ d ≤ 4294967295) (w : World) :
    Calls Try.prog 53 #[.int .u32 s, .int .u32 d, .int .u8 p, .int .i64 n] w fun e w' => ∃ v, e = .returned v ∧ w'.ownsRow w.heap.size 5 1 v (psd s d p n).length ((psd s d p n).map (Value.int .u8)) ∧ Below w.heap.size w w' := by
  obtain ⟨i0, hi, hz0, hz1, hz2⟩ := info_parts info_u8
  have hn0 : 0 ≤ n % 65536 ∧ n % 65536 ≤ 65535 := by omega
  go_enter Try.func53, Try.ntmps53
  go_wp2_with fail
  refine (four_any s hs _).mono ?_
  rintro e w1 ⟨rfl, rfl⟩
  have hR1 := Rd.new4 (s / 16777216) (s / 65536 % 256) (s / 256 % 256) (s % 256) 5 w
  have hb1 : Below w.heap.size w (w.alloc (.cells #[.int .u8 (s / 16777216), .int .u8 (s / 65536 % 256), .int .u8 (s / 256 % 256), .int .u8 (s % 256)] 5)) := (Below.refl _ w).alloc (Nat.le_refl _) _
  go_wp2_with (at_builtin; refine wpList_app _ rfl (.tmp 10) (.tmp 12) 24 rfl w.heap.size 5 i0 Try.underlying24 hi hz0 hz1 hz2 _ [] rfl (World.ownsRow_nil _ _ _ _) (w.heap.size + 1) _ [s / 16777216, s / 65536 % 256, s / 256 % 256, s % 256] rfl hR1 (by simp) (by simp) ?_; intro v2 w2 hown2 hg2; have hb2 := hb1.grown hg2 (by simp) (fun k e => by cases e); clear hg2 hb1 hR1)
  simp only [List.nil_append] at hown2
  generalize hl2 : [s / 16777216, s / 65536 % 256, s / 256 % 256, s % 256] = l2 at *
  have hn2 : l2.length = 4 := by rw [← hl2]; rfl
  have HL2 := hide hl2
  clear hl2
  refine (four_any d hd _).mono ?_
  rintro e w3 ⟨rfl, rfl⟩
  have hR3 := Rd.new4 (d / 16777216) (d / 65536 % 256) (d / 256 % 256) (d % 256) 5 w2
  have hb3 := hb2.alloc hb2.size (.cells #[.int .u8 (d / 16777216), .int .u8 (d / 65536 % 256), .int .u8 (d / 256 % 256), .int .u8 (d % 256)] 5)
  go_wp2_with (first
    | (at_builtin; refine wpList_app _ rfl (.tmp 14) (.tmp 16) 24 rfl w.heap.size 5 i0 Try.underlying24 hi hz0 hz1 hz2 _ l2 rfl (hown2.alloc _) (w2.heap.size + 1) _ [d / 16777216, d / 65536 % 256, d / 256 % 256, d % 256] rfl hR3 (by simp; omega) hb3.size ?_; intro v4 w4 hown4 hg4; have hb4 := below_app hb3 (hown2.alloc _) hg4 (Nat.le_refl _) hb3.size; clear hg4 hb3 hR3; have hR5 := Rd.new2 0 p 5 w4; have hb5 := hb4.alloc hb4.size (.cells #[.int .u8 0, .int .u8 p] 5))
    | (at_builtin; refine wpList_app _ rfl (.tmp 18) (.tmp 20) 24 rfl w.heap.size 5 i0 Try.underlying24 hi hz0 hz1 hz2 _ (l2 ++ [d / 16777216, d / 65536 % 256, d / 256 % 256, d % 256]) rfl (hown4.alloc _) (w4.heap.size + 1) _ [0, p] rfl hR5 (by simp; omega) hb5.size ?_; intro v6 w6 hown6 hg6; have hb6 := below_app hb5 (hown4.alloc _) hg6 (Nat.le_refl _) hb5.size; clear hg6 hb5 hR5))
  rw [IntKind.wrap_u16]
  have HM : Hid (n % 65536 / 256 = n / 256 % 256 ∧ n % 65536 % 256 = n % 256) := by show _ ∧ _; omega
  generalize n % 65536 = m at *
  refine (two_any m hn0 _).mono ?_
  rintro e w7 ⟨rfl, rfl⟩
  have hR7 := Rd.new2 (m / 256) (m % 256) 5 w6
  have hb7 := hb6.alloc hb6.size (.cells #[.int .u8 (m / 256), .int .u8 (m % 256)] 5)
  go_wp2_with (at_builtin; refine wpList_app _ rfl (.tmp 22) (.tmp 25) 24 rfl w.heap.size 5 i0 Try.underlying24 hi hz0 hz1 hz2 _ (l2 ++ [d / 16777216, d / 65536 % 256, d / 256 % 256, d % 256] ++ [0, p]) rfl (hown6.alloc _) (w6.heap.size + 1) _ [m / 256, m % 256] rfl hR7 (by simp; omega) hb7.size ?_; intro v8 w8 hown8 hg8; have hb8 := below_app hb7 (hown6.alloc _) hg8 (Nat.le_refl _) hb7.size; clear hg8 hb7 hR7)
  go_ret
  refine ⟨_, rfl, ?_, hb8⟩
  rw [← HL2.out, HM.out.1, HM.out.2] at hown8
  exact hown8


/-- An operation that leads to a given value and world. -/
theorem wpList_runD {P : Program} {ops : Array Oper} {rest : List Oper} {o : Oper} {a : Act} {Q : Exit → Act → World → Prop} {w : World} (k : Nat) (hd : o.dst = some k) (hg : o.guard = none) (v : Value) (w' : World) (h : (execOp a.eval o).run P w = .ok (.value v) w')
    (hk : wpList P ops Q rest (a.put o.dst v) w') : wpList P ops Q (o :: rest) a w := wpList_plain hg fun K hK => by unfold Oper.wp; rw [h]; exact hK _ _ hk

set_option maxHeartbeats 2000000 in
theorem rsum3_any (tos id ttl proto src dst pr : Int) (keep : Bool) (so sd sb : Value) (zs : List Int) (w : World) (hB : Mt.By zs) (hI : Rd w.heap.size w sb zs) (hl : 12 + zs.length ≤ 1099511627776) (hpr : 0 ≤ pr ∧ pr ≤ 255) (hsr : 0 ≤ src ∧ src ≤ 4294967295) (hds : 0 ≤ dst ∧ dst ≤ 4294967295) :
    Calls Try.prog 25 #[.agg #[.int .u8 tos, .int .u16 id, .bool keep, .int .u8 ttl, .int .u8 proto, .int .u32 src, .int .u32 dst, so, sd], .int .u8 pr, sb] w fun e w' => e = .returned (.int .u16 (Mt.cks (psd src dst pr zs.length ++ zs))) ∧ Below w.heap.size w w' := by
  obtain ⟨i0, hi, hz0, hz1, hz2⟩ := info_parts info_u8
  obtain ⟨ab, cb, rfl, hl1, hm1⟩ := hI.slice
  have hb0 : Below w.heap.size w (w.alloc (.cells #[.int .u8 tos, .int .u16 id, .bool keep, .int .u8 ttl, .int .u8 proto, .int .u32 src, .int .u32 dst, so, sd] 26)) := (Below.refl _ _).alloc (Nat.le_refl _) _
  have hBs := (By_psd src dst pr zs.length hsr hds hpr).append hB
  have hln : (psd src dst pr zs.length ++ zs).length = 12 + zs.length := by rw [List.length_append, psd_length]
  have HBS := hide hBs
  have HLN := hide hln
  clear hBs hln
  go_enter Try.func25, Try.ntmps25
  go_wp2_with fail
  generalize w.alloc (.cells #[.int .u8 tos, .int .u16 id, .bool keep, .int .u8 ttl, .int .u8 proto, .int .u32 src, .int .u32 dst, so, sd] 26) = W0 at *
  refine (rpseudo_row src dst pr zs.length hsr hds W0).mono ?_
  rintro e w2 ⟨v2, rfl, hO2, hb2⟩
  have hw2 := hb0.trans (hb2.mono hb0.size)
  obtain ⟨a2, c2, rfl, _, _⟩ := (Ow.of_row hO2).slice
  have hI2 := hI.below hw2
  go_wp2_with (at_builtin; refine wpList_app _ rfl (.tmp 14) (.tmp 15) 24 rfl W0.heap.size 5 i0 Try.underlying24 hi hz0 hz1 hz2 _ (psd src dst pr zs.length) rfl hO2 w.heap.size _ zs rfl hI2 (by rw [psd_length]; omega) hb2.size ?_; intro v3 w3 hO3 hg3; have hw3 := below_app hw2 hO2 hg3 hb0.size hw2.size; clear hg3)
  have hO3' := Ow.of_row hO3
  clear hO2 hO3
  refine (rsum_any _ _ HBS.out (by rw [HLN.out]; exact hl) w3 hO3'.rd).mono ?_
  rintro e w4 ⟨rfl, hb4⟩
  have hw4 := hw3.trans (hb4.mono hw3.size)
  go_wp2_with fail
  go_ret
  exact ⟨rfl, hw4⟩