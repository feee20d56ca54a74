/- What read tells of a header that was built: the mathematics. -/
import Derived.Test.YtcjigldianobgaeVU
import Derived.Test.YtcjigldianobgaeHd
namespace Go.Proofs.Ytcjigldianobgae
open Go.RowKit Go.Shelf
set_option maxRecDepth 100000
set_option linter.unusedVariables false
set_option linter.unusedSimpArgs false

set_option maxHeartbeats 1000000 in
theorem parse_any (sv : Value) (zs : List Int) (w : World) (hB : Mt.By zs) (hl : zs.length ≤ 225000000000000) (hI : Rd w.heap.size w sv zs) :
    Calls Try.prog 7 #[sv] w fun e w' => Below w.heap.size w w' ∧
      ((rde false zs ≠ 0 ∧ e = .returned (.tuple #[.agg zc.toArray, .int .i64 (rde false zs)])) ∨
       (rde false zs = 0 ∧ ∃ so sd, e = .returned (.tuple #[pkt zs so sd, .int .i64 0]) ∧ Ow w.heap.size w' so ((zs.take (hl4 zs).toNat).drop 20) ∧ Ow w.heap.size w' sd ((zs.take (ral false zs).toNat).drop (hl4 zs).toNat))) := by
  obtain ⟨a, cap, rfl, hl1, hm1⟩ := hI.slice
  have hb1 : Below w.heap.size w (w.alloc (.cells zc.toArray 26)) := (Below.refl _ _).alloc (Nat.le_refl _) _
  have p1 := heap_alloc_new w (.cells zc.toArray 26)
  have H := hide (read_any false _ zs (w.alloc (.cells zc.toArray 26)) hB hl ((hI.below hb1).mono (by simp)))
  go_enter Try.func7, Try.ntmps7
  go_wp2_with fail
  refine H.out.mono ?_
  rintro e w2 ⟨hb2, ⟨h, rfl⟩ | ⟨h, so, sd, rfl, hO1, hO2⟩⟩
  · have p2 := (hb2.block w.heap.size (by simp)).trans p1
    have P2 := block_cell p2
    have F2 := block_frozen p2
    go_wp2_with fail
    generalize hV : ((((((((w2.setCell ⟨w.heap.size, 0, none⟩ _).setCell ⟨w.heap.size, 1, none⟩ _).setCell ⟨w.heap.size, 2, none⟩ _).setCell ⟨w.heap.size, 3, none⟩ _).setCell ⟨w.heap.size, 4, none⟩ _).setCell ⟨w.heap.size, 5, none⟩ _).setCell ⟨w.heap.size, 6, none⟩ _).setCell ⟨w.heap.size, 7, none⟩ _).setCell ⟨w.heap.size, 8, none⟩ _ = V
    have hV9 : V = putRow w2 w.heap.size 0 zc := hV.symm
    have hb8 : But (fun b => b = w.heap.size) w2 V := by rw [hV9]; exact putRow_but (E := fun b => b = w.heap.size) (n := w.heap.size) rfl _ _ _ _ (But.refl _ _)
    have p8 := putRow_all zc p2 rfl
    rw [← hV9] at p8
    clear hV hV9 P2 F2 H
    have P8 := block_cell p8
    have hbW := (hb1.trans (hb2.mono (by simp))).trans (hb8.below (by have := hb2.size; simp at this; omega) (fun j h e => by omega))
    exact bodyPost_ret (v := .tuple #[.agg zc.toArray, .int .i64 (rde false zs)]) (by simp [results, Try.results7, go_sem, P8]) rfl ⟨hbW, .inl ⟨h, rfl⟩⟩
  · have p2 := (hb2.block w.heap.size (by simp)).trans p1
    have P2 := block_cell p2
    have F2 := block_frozen p2
    obtain ⟨aso, cso, rfl, _, _⟩ := hO1.slice
    obtain ⟨asd, csd, rfl, _, _⟩ := hO2.slice
    generalize hL1 : ((zs.take (hl4 zs).toNat).drop 20).length = lo at *
    generalize hL2 : ((zs.take (ral false zs).toNat).drop (hl4 zs).toNat).length = ld at *
    have HL1 := hide hL1
    have HL2 := hide hL2
    clear hL1 hL2
    unfold pkt
    go_wp2_with fail
    generalize hV : ((((((((w2.setCell ⟨w.heap.size, 0, none⟩ _).setCell ⟨w.heap.size, 1, none⟩ _).setCell ⟨w.heap.size, 2, none⟩ _).setCell ⟨w.heap.size, 3, none⟩ _).setCell ⟨w.heap.size, 4, none⟩ _).setCell ⟨w.heap.size, 5, none⟩ _).setCell ⟨w.heap.size, 6, none⟩ _).setCell ⟨w.heap.size, 7, none⟩ _).setCell ⟨w.heap.size, 8, none⟩ _ = V
    have hV9 : V = putRow w2 w.heap.size 0 [.int .u8 (zs[1]?.getD 0), .int .u16 (wat zs 4), .bool (decide (16384 ≤ wat zs 6 % 32768)), .int .u8 (zs[8]?.getD 0), .int .u8 (zs[9]?.getD 0), .int .u32 (wat4 zs 12), .int .u32 (wat4 zs 16), .slice aso lo cso, .slice asd ld csd] := hV.symm
    have hb8 : But (fun b => b = w.heap.size) w2 V := by rw [hV9]; exact putRow_but (E := fun b => b = w.heap.size) (n := w.heap.size) rfl _ _ _ _ (But.refl _ _)
    have p8 := putRow_all [.int .u8 (zs[1]?.getD 0), .int .u16 (wat zs 4), .bool (decide (16384 ≤ wat zs 6 % 32768)), .int .u8 (zs[8]?.getD 0), .int .u8 (zs[9]?.getD 0), .int .u32 (wat4 zs 12), .int .u32 (wat4 zs 16), .slice aso lo cso, .slice asd ld csd] p2 rfl
    rw [← hV9] at p8
    clear hV hV9 P2 F2 H
    have P8 := block_cell p8
    have hbW := (hb1.trans (hb2.mono (by simp))).trans (hb8.below (by have := hb2.size; simp at this; omega) (fun j h e => by omega))
    exact bodyPost_ret (v := .tuple #[pkt zs (.slice aso lo cso) (.slice asd ld csd), .int .i64 0]) (by simp [results, Try.results7, go_sem, P8, pkt]) rfl ⟨hbW, .inr ⟨h, _, _, rfl, (hO1.but hb8 (fun b h e => by simp at h; omega)).mono (by simp), (hO2.but hb8 (fun b h e => by simp at h; omega)).mono (by simp)⟩⟩

/-- A word of the first bytes. -/
theorem wat_take (zs : List Int) (m k : Nat) (h : k + 1 < m) : wat (zs.take m) k = wat zs k := by
  unfold wat
  rw [List.getElem?_take_of_lt (by omega), List.getElem?_take_of_lt h]
theorem hl4_take (zs : List Int) (m : Nat) (h : 0 < m) : hl4 (zs.take m) = hl4 zs := by
  unfold hl4
  rw [List.getElem?_take_of_lt h]

section
variable (tos id : Int) (keep : Bool) (ttl proto src dst : Int) (zo zd : List Int) (all : Int)
theorem hdr_0 : (hdr tos id keep ttl proto src dst zo all ++ zd)[0]?.getD 0 = 64 + (20 + (zo.length : Int)) / 4 := by
  rw [hdr_eq]; unfold h20; simp
theorem hdr_1 : (hdr tos id keep ttl proto src dst zo all ++ zd)[1]?.getD 0 = tos := by
  rw [hdr_eq]; unfold h20; simp
theorem hdr_8 : (hdr tos id keep ttl proto src dst zo all ++ zd)[8]?.getD 0 = ttl := by
  rw [hdr_eq]; unfold h20; simp
theorem hdr_9 : (hdr tos id keep ttl proto src dst zo all ++ zd)[9]?.getD 0 = proto := by
  rw [hdr_eq]; unfold h20; simp
theorem hl4_hdr (h1 : zo.length ≤ 40) (h2 : zo.length % 4 = 0) : hl4 (hdr tos id keep ttl proto src dst zo all ++ zd) = ((20 + zo.length : Nat) : Int) := by
  unfold hl4
  rw [hdr_0]
  omega
theorem hdr_take : (hdr tos id keep ttl proto src dst zo all ++ zd).take (20 + zo.length) = hdr tos id keep ttl proto src dst zo all := by
  rw [← hdr_len tos id keep ttl proto src dst zo all, List.take_left]
theorem hdr_opts : (hdr tos id keep ttl proto src dst zo all).drop 20 = zo := by
  rw [hdr_eq, ← h20_length tos id keep ttl proto src dst zo.length all (hsum tos id keep ttl proto src dst zo all), List.drop_left]
theorem hdr_drop : (hdr tos id keep ttl proto src dst zo all ++ zd).drop (20 + zo.length) = zd := by
  rw [← hdr_len tos id keep ttl proto src dst zo all, List.drop_left]
theorem hdr_split (more : List Int) : ((hdr tos id keep ttl proto src dst zo all ++ (zd ++ more)).take (20 + zo.length + zd.length)).drop (20 + zo.length) = zd := by
  rw [List.drop_take, hdr_drop, show 20 + zo.length + zd.length - (20 + zo.length) = zd.length from by omega, List.take_left]
end

/-- What is built, cut, is too short. -/
theorem rde_cut (tos id : Int) (keep : Bool) (ttl proto src dst : Int) (zo zd : List Int) (m : Nat) (h1 : zo.length ≤ 40) (h2 : zo.length % 4 = 0) (hm : m < 20 + zo.length + zd.length) :
    rde false ((hdr tos id keep ttl proto src dst zo (20 + zo.length + zd.length) ++ zd).take m) = 3 := by
  have hlen : (hdr tos id keep ttl proto src dst zo (20 + zo.length + zd.length) ++ zd).length = 20 + zo.length + zd.length := by rw [List.length_append, hdr_len]
  have e0 := hdr_0 tos id keep ttl proto src dst zo zd (20 + zo.length + zd.length)
  have e2 := hdr_wat2 tos id keep ttl proto src dst zo zd (20 + zo.length + zd.length)
  have e3 := hl4_hdr tos id keep ttl proto src dst zo zd (20 + zo.length + zd.length) h1 h2
  generalize hdr tos id keep ttl proto src dst zo (20 + zo.length + zd.length) ++ zd = bb at *
  have hlt : (bb.take m).length = m := by simp; omega
  by_cases c1 : m < 20
  · have hm3 : msr (bb.take m) = 3 := by unfold msr; rw [if_pos (by omega)]
    unfold rde; rw [hm3]; simp
  · have f0 : (bb.take m)[0]?.getD 0 = bb[0]?.getD 0 := by rw [List.getElem?_take_of_lt (by omega)]
    have f2 := wat_take bb m 2 (by omega)
    have f3 := hl4_take bb m (by omega)
    by_cases c2 : m < 20 + zo.length
    · have hm3 : msr (bb.take m) = 3 := by unfold msr; rw [hlt, f0, e0, f3, e3, if_neg c1, if_neg (by omega), if_neg (by omega), if_pos (by omega)]
      unfold rde; rw [hm3]; simp
    · have hm0 : msr (bb.take m) = 0 := by unfold msr; rw [hlt, f0, e0, f3, e3, f2, e2, if_neg c1, if_neg (by omega), if_neg (by omega), if_neg (by omega), if_neg (by omega)]
      have hr : ral false (bb.take m) = 20 + zo.length + zd.length := by simp [ral, f2, e2]
      unfold rde
      rw [hm0, hr, hlt, if_neg (by simp), if_pos (by omega)]

/-- What is built is taken, with what is behind it. -/
theorem rde_built (tos id : Int) (keep : Bool) (ttl proto src dst : Int) (zo zd more : List Int) (h1 : zo.length ≤ 40) (h2 : zo.length % 4 = 0) (hall : 20 + zo.length + zd.length ≤ 65535)
    (hB : Mt.By (h20 tos id keep ttl proto src dst zo.length (20 + zo.length + zd.length) 0 ++ zo)) :
    rde false (hdr tos id keep ttl proto src dst zo (20 + zo.length + zd.length) ++ (zd ++ more)) = 0 := by
  have hlen : (hdr tos id keep ttl proto src dst zo (20 + zo.length + zd.length) ++ (zd ++ more)).length = 20 + zo.length + (zd.length + more.length) := by rw [List.length_append, hdr_len, List.length_append]
  have e0 := hdr_0 tos id keep ttl proto src dst zo (zd ++ more) (20 + zo.length + zd.length)
  have e2 := hdr_wat2 tos id keep ttl proto src dst zo (zd ++ more) (20 + zo.length + zd.length)
  have e3 := hl4_hdr tos id keep ttl proto src dst zo (zd ++ more) (20 + zo.length + zd.length) h1 h2
  have e6 := hdr_wat6 tos id keep ttl proto src dst zo (zd ++ more) (20 + zo.length + zd.length)
  have et := hdr_take tos id keep ttl proto src dst zo (zd ++ more) (20 + zo.length + zd.length)
  have eg := hdr_good tos id keep ttl proto src dst zo (20 + zo.length + zd.length) hB
  rw [← et] at eg
  generalize hdr tos id keep ttl proto src dst zo (20 + zo.length + zd.length) ++ (zd ++ more) = bb at *
  have hm0 : msr bb = 0 := by unfold msr; rw [hlen, e0, e3, e2, if_neg (by omega), if_neg (by omega), if_neg (by omega), if_neg (by omega), if_neg (by omega)]
  have hr : ral false bb = 20 + zo.length + zd.length := by simp [ral, e2]
  have hc : chk bb = 0 := by unfold chk; rw [e3, e6, Int.toNat_natCast, if_neg (by simp [eg]), if_neg (by cases keep <;> simp), if_neg (by cases keep <;> simp)]
  unfold rde
  rw [hm0, hr, hlen, hc, if_neg (by simp), if_neg (by omega), if_neg (by simp), if_neg (by simp)]
end Go.Proofs.Ytcjigldianobgae
