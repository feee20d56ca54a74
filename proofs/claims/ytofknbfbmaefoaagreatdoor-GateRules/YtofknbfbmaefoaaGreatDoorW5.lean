import Derived.OwnWalk
import Derived.Test.YtofknbfbmaefoaaGreatDoorW4
namespace Go.Proofs.YtofknbfbmaefoaaGreatDoor
set_option maxHeartbeats 1000000
open Go.RowKit Go.Shelf
set_option maxRecDepth 100000
theorem info_int : (Tryz.prog.info? 3).map (fun i => (i.zero, i.size, i.bytes)) = some (some (.int .i64 0), 1, 8) := by kernel_rfl
theorem info_u8 : (Tryz.prog.info? 5).map (fun i => (i.zero, i.size, i.bytes)) = some (some (.int .u8 0), 1, 1) := by kernel_rfl
def wl (zs : List Int) (k : Nat) : List Int := (List.range k).map (fun j => wat zs (2 * j))
theorem wl_succ (zs : List Int) (k : Nat) : wl zs (k + 1) = wl zs k ++ [wat zs (2 * k)] := by simp [wl, List.range_succ]
theorem wl_sm (zs : List Int) (h : Mt.By zs) (k : Nat) : (wl zs k).sum = sm (wds zs h k) := by simp [wl, sm, wds]; rfl
theorem rwords_any (b off cap : Nat) (zs : List Int) (hB : Mt.By zs) (hl : zs.length ≤ 1099511627776) (w : World) (hb : b < w.heap.size)
  (hc : ∀ j, j < zs.length → w.cell? ⟨b, off + j, none⟩ = some (.int .u8 (zs[j]?.getD 0))) :
  Calls Tryz.prog 212 #[.slice (some ⟨b, off, none⟩) zs.length cap] w fun e w' =>
   ∃ v, e = .returned v ∧ w'.ownsRow w.heap.size 3 1 v ((zs.length + 1) / 2) ((wl zs ((zs.length + 1) / 2)).map (Value.int .i64)) ∧ Below w.heap.size w w' := by
 obtain ⟨i0, hi, hz0, hz1, hz2⟩ := info_parts info_int
 go_enter Tryz.func212, Tryz.ntmps212
 go_wp2
 go_loopw [3, 4] (fun v i wr => ∃ k : Nat, 2 * k ≤ zs.length + 1 ∧ i = .int .i64 ((2 * k : Nat) : Int) ∧ wr.ownsRow w.heap.size 3 1 v k ((wl zs k).map (Value.int .i64)) ∧ Below w.heap.size w wr)
  (fun _ i _ => zs.length + 1 - (intOf i).toNat)
 case atStart => exact ⟨0, by omega, rfl, World.ownsRow_nil _ _ _ _, Below.refl _ _⟩
 case round =>
  obtain ⟨k, hk, rfl, hown, hnx⟩ := hrel
  have hcx : ∀ j, j < zs.length → wr.cell? ⟨b, off + j, none⟩ = some (.int .u8 (zs[j]?.getD 0)) := fun j h => (hnx.cell (p := ⟨b, off + j, none⟩) hb).trans (hc j h)
  by_cases hlt : 2 * k < zs.length
  ·have b0 := hB.at (2 * k)
   have b1 := hB.at (2 * k + 1)
   have HW : Hid (wat zs (2 * k) = zs[2 * k]?.getD 0 * 256 + zs[2 * k + 1]?.getD 0) := rfl
   have c0 := hcx (2 * k) hlt
   by_cases hlt1 : 2 * k + 1 < zs.length
   ·have c1 := hcx (2 * k + 1) hlt1
    generalize zs[2 * k]?.getD 0 = x at c0 b0 HW
    generalize zs[2 * k + 1]?.getD 0 = y at c1 b1 HW
    clear hcx
    go_wp2_with (at_builtin; refine wpList_append_own _ rfl _ _ 152 rfl w.heap.size 3 i0 (.int .i64 0) 1 8 Tryz.underlying152 hi hz0 hz1 hz2 rfl (by decide) _ _ _ rfl (hown.alloc _) ⟨wr.heap.size, 0, none⟩ 1 1 [.int .i64 (x * 256 + y)] rfl rfl ?c1 ?c2 ?c3 ?c4 ?c5 ?_)
    case c1 => intro j u hj; match j, hj with | 0, hj => simp at hj; subst hj; simp [Addr.add]
    case c2 => intro u hu; simp at hu; subst hu; rfl
    case c3 => unfold maxLen; omega
    case c4 => omega
    case c5 => have := hnx.size; simp; omega
    ·intro v' w1 hown' hgrow _
     have hB1 : Below w.heap.size w w1 := (hnx.alloc hnx.size _).grown hgrow (by have := hnx.size; simp; omega) (fun j e => ((hown.lt j e).1))
     have hown2 : w1.ownsRow w.heap.size 3 1 v' (k + 1) ((wl zs (k + 1)).map (Value.int .i64)) := by rw [wl_succ, HW.out, List.map_append]; exact hown'
     clear hown' hgrow hown
     go_wp2
     go_roundw
     case rel => exact ⟨k + 1, by omega, by go_num, hown2, hB1⟩
     case measure => simp [intOf]; omega
   ·have hz : zs[2 * k + 1]?.getD 0 = 0 := by simp [hlt1]
    rw [hz] at HW
    generalize zs[2 * k]?.getD 0 = x at c0 b0 HW
    clear hcx hz b1
    go_wp2_with (at_builtin; refine wpList_append_own _ rfl _ _ 152 rfl w.heap.size 3 i0 (.int .i64 0) 1 8 Tryz.underlying152 hi hz0 hz1 hz2 rfl (by decide) _ _ _ rfl (hown.alloc _) ⟨wr.heap.size, 0, none⟩ 1 1 [.int .i64 (x * 256)] rfl rfl ?c1 ?c2 ?c3 ?c4 ?c5 ?_)
    case c1 => intro j u hj; match j, hj with | 0, hj => simp at hj; subst hj; simp [Addr.add]
    case c2 => intro u hu; simp at hu; subst hu; rfl
    case c3 => unfold maxLen; omega
    case c4 => omega
    case c5 => have := hnx.size; simp; omega
    ·intro v' w1 hown' hgrow _
     have hB1 : Below w.heap.size w w1 := (hnx.alloc hnx.size _).grown hgrow (by have := hnx.size; simp; omega) (fun j e => ((hown.lt j e).1))
     have hown2 : w1.ownsRow w.heap.size 3 1 v' (k + 1) ((wl zs (k + 1)).map (Value.int .i64)) := by rw [wl_succ, HW.out, Int.add_zero, List.map_append]; exact hown'
     clear hown' hgrow hown
     go_wp2
     go_roundw
     case rel => exact ⟨k + 1, by omega, by go_num, hown2, hB1⟩
     case measure => simp [intOf]; omega
  ·have he : (zs.length + 1) / 2 = k := by omega
   go_wp2
   go_ret
   exact ⟨_, rfl, by rw [he]; exact hown, hnx⟩
theorem rwords_nil (a : Option Addr) (cap : Nat) (w : World) :
  Calls Tryz.prog 212 #[.slice a 0 cap] w fun e w' => e = .returned (.slice none 0 0) ∧ w' = w := by
 go_enter Tryz.func212, Tryz.ntmps212
 go_wp2
 go_loop [3, 4] (fun v i => i = .int .i64 0 ∧ v = .slice none 0 0) (fun _ _ => 0)
 case atStart => exact ⟨rfl, rfl⟩
 case round =>
  obtain ⟨rfl, rfl⟩ := hrel
  go_wp2
  go_ret
  exact ⟨rfl, rfl⟩
theorem rwords_rd (sv : Value) (zs : List Int) (hB : Mt.By zs) (hl : zs.length ≤ 1099511627776) (w : World) (hI : Rd w.heap.size w sv zs) :
  Calls Tryz.prog 212 #[sv] w fun e w' =>
   ∃ v, e = .returned v ∧ w'.ownsRow w.heap.size 3 1 v ((zs.length + 1) / 2) ((wl zs ((zs.length + 1) / 2)).map (Value.int .i64)) ∧ Below w.heap.size w w' := by
 rcases hI with ⟨a, cap, rfl, rfl, _⟩ | ⟨b, off, cap, rfl, _, _, _, hb, hc⟩
 ·exact (rwords_nil a cap w).mono fun e w' ⟨he, hw⟩ => by subst hw; exact ⟨_, he, World.ownsRow_nil _ _ _ _, Below.refl _ _⟩
 ·exact rwords_any b off cap zs hB hl w hb hc
def fw (zs : List Int) (k : Nat) : Int := Mt.fd (wl zs k).sum
theorem wl_bd (zs : List Int) (h : Mt.By zs) (k : Nat) : 0 ≤ (wl zs k).sum := by rw [wl_sm zs h]; exact (sm_bd _).1
theorem fw_succ (zs : List Int) (h : Mt.By zs) (k : Nat) : Mt.fd (fw zs k + wat zs (2 * k)) = fw zs (k + 1) := by
 unfold fw
 rw [Mt.fd_add _ _ (wl_bd zs h k) (wat_bd h _).1, wl_succ]
 simp
theorem rsum_any (sv : Value) (zs : List Int) (hB : Mt.By zs) (hl : zs.length ≤ 1099511627776) (w : World) (hI : Rd w.heap.size w sv zs) :
  Calls Tryz.prog 159 #[sv] w fun e w' => e = .returned (.int .u16 (Mt.cks zs)) ∧ Below w.heap.size w w' := by
 obtain ⟨a, cap, rfl, _⟩ := hI.slice
 generalize hlen : zs.length = len at hI
 clear hlen
 go_enter Tryz.func159, Tryz.ntmps159
 go_wp2_with fail
 refine (rwords_rd _ zs hB hl w hI).mono ?_
 rintro e w1 ⟨v, rfl, hown, hb1⟩
 generalize hn : (zs.length + 1) / 2 = n at hown
 have hn2 : n ≤ 1099511627776 := by omega
 obtain ⟨a1, cap1, rfl⟩ : ∃ a1 cap1, v = .slice a1 n cap1 := by
  rcases hown.2 with ⟨rfl, h0⟩ | ⟨g, cap, cur, rfl, _⟩
  ·exact ⟨none, 0, by rw [h0]⟩
  ·exact ⟨_, _, rfl⟩
 have hcell : ∀ k, k < n → ∃ b, a1 = some ⟨b, 0, none⟩ ∧ w1.cell? ⟨b, k, none⟩ = some (.int .i64 (wat zs (2 * k))) := by
  intro k hk
  rcases hown.2 with ⟨he, h0⟩ | ⟨g, cap, cur, he, _, hgb, _, _, _, hcur⟩
  ·omega
  ·cases he
   refine ⟨g, rfl, ?_⟩
   have h1 : (cur.toList.take (n * 1))[k]? = some (.int .i64 (wat zs (2 * k))) := by rw [hcur]; simp [wl, hk]
   rw [List.getElem?_take, if_pos (by omega)] at h1
   simp only [World.cell?, hgb]
   simpa using h1
 have HC : Hid (Mt.cks zs = 65535 - fw zs n) := by
  show _ = _
  unfold Mt.cks fw
  rw [wl_sm zs hB, ← hn, sm_all]
 clear hown hn
 go_wp2
 go_loop [3, 5] (fun t i => ∃ k : Nat, k ≤ n ∧ i = .int .i64 k ∧ t = .int .i64 (fw zs k)) (fun _ i => n - (intOf i).toNat)
 case atStart => exact ⟨0, by omega, rfl, rfl⟩
 case round =>
  obtain ⟨k, hk, rfl, rfl⟩ := hrel
  have hf : 0 ≤ fw zs k ∧ fw zs k ≤ 65535 := Mt.fd_bd _
  by_cases hlt : k < n
  ·obtain ⟨bb, rfl, hcl⟩ := hcell k hlt
   have hwb := wat_bd hB (2 * k)
   have HF : Hid (Mt.fd (fw zs k + wat zs (2 * k)) = fw zs (k + 1)) := fw_succ zs hB k
   clear hcell HC
   generalize fw zs k = t at *
   generalize wat zs (2 * k) = y at *
   go_wp2_with (go_at_call 213; refine (rfold_any _ _ (by omega) (by omega)).mono ?_; rintro e w' ⟨rfl, rfl⟩)
   go_round
   case rel => exact ⟨k + 1, by omega, by go_num, by rw [HF.out]⟩
   case measure => simp [intOf]; omega
  ·obtain rfl : k = n := by omega
   clear hcell
   generalize fw zs k = t at *
   go_wp2
   go_ret
   exact ⟨by rw [HC.out]; rfl, hb1⟩
theorem good_any (sv : Value) (zs : List Int) (hB : Mt.By zs) (hl : zs.length ≤ 140737488355328) (w : World) (hI : Rd w.heap.size w sv zs) :
  Calls Tryz.prog 98 #[sv] w fun e w' => e = .returned (.bool (Mt.cks zs == 0)) ∧ Below w.heap.size w w' := by
 obtain ⟨a, cap, rfl, _⟩ := hI.slice
 go_enter Tryz.func98, Tryz.ntmps98
 go_wp2_with fail
 refine (sum_any _ zs hB hl w hI).mono ?_
 rintro e w1 ⟨rfl, hb1⟩
 go_wp2
 go_ret
 exact ⟨rfl, hb1⟩
theorem rgood_any (sv : Value) (zs : List Int) (hB : Mt.By zs) (hl : zs.length ≤ 1099511627776) (w : World) (hI : Rd w.heap.size w sv zs) :
  Calls Tryz.prog 121 #[sv] w fun e w' => e = .returned (.bool (Mt.cks zs == 0)) ∧ Below w.heap.size w w' := by
 obtain ⟨a, cap, rfl, _⟩ := hI.slice
 go_enter Tryz.func121, Tryz.ntmps121
 go_wp2_with fail
 refine (rsum_any _ zs hB hl w hI).mono ?_
 rintro e w1 ⟨rfl, hb1⟩
 go_wp2
 go_ret
 exact ⟨rfl, hb1⟩
end Go.Proofs.YtofknbfbmaefoaaGreatDoor
