/- Datagrams of Udp in bytes, and what a gateway makes of them. -/
import Derived.Test.YtajcfhcdincngaaGreatDoorX1
import Derived.Test.YtajcfhcdincngaaGreatDoorX4
import Derived.Test.YtajcfhcdincngaaGreatDoorMg
namespace Go.Proofs.YtajcfhcdincngaaGreatDoor
open Go.RowKit Go.Shelf
set_option maxRecDepth 100000
set_option linter.unusedVariables false
set_option linter.unusedSimpArgs false

/-- A datagram's bytes, with its tuple and its data. -/
def UG (src dst a b : Int) (zm z : List Int) : Prop := Mt.By z ∧ z.length = 8 + zm.length ∧ ofe 17 src dst z = 0 ∧ ofa 17 z = a ∧ ofb 17 z = b ∧ z.drop 8 = zm
theorem ug_built (src dst a b : Int) (bare : Bool) (zm : List Int) (hsr : 0 ≤ src ∧ src ≤ 4294967295) (hds : 0 ≤ dst ∧ dst ≤ 4294967295) (ha : 0 ≤ a ∧ a ≤ 65535) (hb : 0 ≤ b ∧ b ≤ 65535) (hB : Mt.By zm) (hl : zm.length ≤ 500) : UG src dst a b zm (udp a b bare src dst zm) := by
 refine ⟨By_udp a b bare src dst zm ha hb hB, udp_length _ _ _ _ _ _, ?_, udp_w0 _ _ _ _ _ _, udp_w2 _ _ _ _ _ _, udp_drop _ _ _ _ _ _⟩
 rw [show ofe 17 src dst (udp a b bare src dst zm) = pue 17 src dst (udp a b bare src dst zm) from rfl, udp_pue _ _ _ _ _ _ 17 rfl src dst (by omega), if_neg]
 rintro ⟨h1, h2⟩
 subst h1
 exact h2 (udp_good a b src dst zm hsr hds (By_udp0 a b zm ha hb hB))
theorem ug_rewritten {src dst a b s d a' b' : Int} {zm z : List Int} (h : UG src dst a b zm z) (hs : 0 ≤ s ∧ s ≤ 4294967295) (hd : 0 ≤ d ∧ d ≤ 4294967295) (ha : 0 ≤ a' ∧ a' ≤ 65535) (hb : 0 ≤ b' ∧ b' ≤ 65535) : UG s d a' b' zm (rwD 17 s d a' b' z) := by
 obtain ⟨hB, hl, he, _, _, hz⟩ := h
 obtain ⟨h1, h2, h3⟩ := rwD_tells (s := s) (d := d) (a := a') (b := b') hB he hs hd ha hb
 refine ⟨rwD_by hB ha hb, by rw [rwD_length]; exact hl, h1, by rw [h2]; rfl, by rw [h3]; rfl, ?_⟩
 rw [← hz, show rwD 17 s d a' b' z = rwU s d a' b' z from rfl]
 exact drop_same fun j hj => rwU_other _ _ _ _ _ _ (by omega) (by omega) (by omega)
/-- A packet's bytes, with a datagram. -/
def dgB (ttl src dst : Int) (z : List Int) : List Int := hdr 0 0 false ttl 17 src dst [] (20 + ([] : List Int).length + z.length) ++ z
structure DgF (ttl src dst a b : Int) (zs z : List Int) : Prop where
 by_ : Mt.By zs
 len : zs.length ≤ 600
 rd : rde false zs = 0
 i9 : zs[9]?.getD 0 = 17
 i8 : zs[8]?.getD 0 = ttl
 i1 : zs[1]?.getD 0 = 0
 w4 : wat zs 4 = 0
 w6 : decide (16384 ≤ wat zs 6 % 32768) = false
 src : wat4 zs 12 = src
 dst : wat4 zs 16 = dst
 zo : ((zs.take (hl4 zs).toNat).drop 20) = []
 zd : ((zs.take (ral false zs).toNat).drop (hl4 zs).toNat) = z
theorem dg_facts {ttl src dst a b : Int} {zm z : List Int} (h : UG src dst a b zm z) (hl : zm.length ≤ 500) (htt : 0 ≤ ttl ∧ ttl ≤ 255) (hsr : 0 ≤ src ∧ src ≤ 4294967295) (hds : 0 ≤ dst ∧ dst ≤ 4294967295) : DgF ttl src dst a b (dgB ttl src dst z) z := by
 obtain ⟨hB, hz, _⟩ := h
 have hBh := (h20_by 0 0 false ttl 17 src dst ([] : List Int).length (20 + ([] : List Int).length + z.length) 0 (by simp) (by omega) (by omega) htt (by omega) hsr hds (by simp; omega) (by omega)).append Mt.By.nil
 have hBy : Mt.By (dgB ttl src dst z) := by
  unfold dgB
  rw [hdr_eq]
  exact ((h20_by 0 0 false ttl 17 src dst ([] : List Int).length (20 + ([] : List Int).length + z.length) _ (by simp) (by omega) (by omega) htt (by omega) hsr hds (by simp; omega) (Mt.cks_bd _)).append Mt.By.nil).append hB
 have hr := rde_built 0 0 false ttl 17 src dst [] z [] (by simp) (by simp) (by simp; omega) hBh
 rw [List.append_nil] at hr
 have e3 := hl4_hdr 0 0 false ttl 17 src dst [] z (20 + ([] : List Int).length + z.length) (by simp) (by simp)
 have e2 := hdr_wat2 0 0 false ttl 17 src dst [] z (20 + ([] : List Int).length + z.length)
 have hral : ral false (dgB ttl src dst z) = ((20 + ([] : List Int).length + z.length : Nat) : Int) := by
  have q0 : ∀ zs : List Int, ral false zs = wat zs 2 := fun zs => by simp [ral]
  unfold dgB
  rw [q0, e2]
  simp
 refine ⟨hBy, by unfold dgB; rw [List.length_append, hdr_len]; simp; omega, hr, hdr_9 _ _ _ _ _ _ _ _ _ _, hdr_8 _ _ _ _ _ _ _ _ _ _, hdr_1 _ _ _ _ _ _ _ _ _ _, hdr_wat4 _ _ _ _ _ _ _ _ _ _, ?_, hdr_src _ _ _ _ _ _ _ _ _ _, hdr_dst _ _ _ _ _ _ _ _ _ _, ?_, ?_⟩
 ·unfold dgB
  rw [hdr_wat6]
  decide
 ·unfold dgB
  rw [e3, Int.toNat_natCast, hdr_take, hdr_opts]
 ·rw [hral]
  unfold dgB
  rw [e3, Int.toNat_natCast, Int.toNat_natCast]
  have q := hdr_split 0 0 false ttl 17 src dst [] z (20 + ([] : List Int).length + z.length) []
  rw [List.append_nil] at q
  exact q

theorem tt_build (ttl src dst a b : Int) (bare : Bool) (sm : Value) (zm : List Int) (w : World) (htt : 0 ≤ ttl ∧ ttl ≤ 255) (hsr : 0 ≤ src ∧ src ≤ 4294967295) (hds : 0 ≤ dst ∧ dst ≤ 4294967295) (ha : 0 ≤ a ∧ a ≤ 65535) (hb : 0 ≤ b ∧ b ≤ 65535) (hB : Mt.By zm) (hI : Rd w.heap.size w sm zm) (hl : zm.length ≤ 500) :
  Calls Tryz.prog 8 #[.agg #[.int .u8 0, .int .u16 0, .bool false, .int .u8 ttl, .int .u8 0, .int .u32 src, .int .u32 dst, .slice none 0 0, .slice none 0 0], .agg #[.int .u16 a, .int .u16 b, .bool bare, sm]] w fun e w' => Later w w' ∧ ∃ a7 c7 a8 l8 c8 z, e = .returned (.tuple #[.agg #[.int .u8 0, .int .u16 0, .bool false, .int .u8 ttl, .int .u8 17, .int .u32 src, .int .u32 dst, .slice a7 0 c7, .slice a8 l8 c8], .int .i64 0]) ∧ UG src dst a b zm z ∧ Ow w.heap.size w' (.slice a7 0 c7) [] ∧ Ow w.heap.size w' (.slice a8 l8 c8) z := by
 refine (buildUdp_any 0 0 ttl 0 src dst a b false bare _ _ _ [] zm w Mt.By.nil (rd_zero w) hB hI (by simp) (by omega) (by omega) (by omega) htt hsr hds ha hb).mono ?_
 have HZ : flt ([] : List Int).length (8 + zm.length) = 0 := by unfold flt; rw [if_neg (by simp), if_neg (by simp; omega)]
 rintro e w' ⟨hb1, ⟨hx, _⟩ | ⟨_, a7, c7, a8, c8, rfl, hO, hD⟩⟩
 ·exact absurd HZ hx
 ·exact ⟨hb1, _, _, _, _, _, _, rfl, ug_built src dst a b bare zm hsr hds ha hb hB hl, hO, hD⟩

theorem tt_bytes (ttl src dst a b : Int) (so sd : Value) (zm z : List Int) (w : World) (h : UG src dst a b zm z) (hl : zm.length ≤ 500) (hIo : Rd w.heap.size w so []) (hId : Rd w.heap.size w sd z) (htt : 0 ≤ ttl ∧ ttl ≤ 255) (hsr : 0 ≤ src ∧ src ≤ 4294967295) (hds : 0 ≤ dst ∧ dst ≤ 4294967295) :
  Calls Tryz.prog 9 #[.agg #[.int .u8 0, .int .u16 0, .bool false, .int .u8 ttl, .int .u8 17, .int .u32 src, .int .u32 dst, so, sd]] w fun e w' => Later w w' ∧ ∃ v, e = .returned (.tuple #[v, .int .i64 0]) ∧ Ow w.heap.size w' v (dgB ttl src dst z) := by
 have h2 := h.2.1
 refine (build_yes 0 0 ttl 17 src dst false so sd [] z w Mt.By.nil hIo hId (by simp) (by simp) (by simp; omega) (by omega) (by omega) htt (by omega) hsr hds).mono ?_
 rintro e w' ⟨v, rfl, hO, hb⟩
 exact ⟨hb, v, rfl, hO⟩

theorem tt_parse (ttl src dst a b : Int) (sv : Value) (zm z : List Int) (w : World) (h : UG src dst a b zm z) (hl : zm.length ≤ 500) (hI : Rd w.heap.size w sv (dgB ttl src dst z)) (htt : 0 ≤ ttl ∧ ttl ≤ 255) (hsr : 0 ≤ src ∧ src ≤ 4294967295) (hds : 0 ≤ dst ∧ dst ≤ 4294967295) :
  Calls Tryz.prog 12 #[sv] w fun e w' => Later w w' ∧ ∃ a7 c7 a8 l8 c8, e = .returned (.tuple #[.agg #[.int .u8 0, .int .u16 0, .bool false, .int .u8 ttl, .int .u8 17, .int .u32 src, .int .u32 dst, .slice a7 0 c7, .slice a8 l8 c8], .int .i64 0]) ∧ Ow w.heap.size w' (.slice a7 0 c7) [] ∧ Ow w.heap.size w' (.slice a8 l8 c8) z := by
 have hF := dg_facts h hl htt hsr hds
 refine (parse_any sv _ w hF.by_ (by have := hF.len; omega) hI).mono ?_
 rintro e w' ⟨hb, ⟨hx, _⟩ | ⟨_, so, sd, rfl, hO, hD⟩⟩
 ·exact absurd hF.rd hx
 rw [hF.zo] at hO
 rw [hF.zd] at hD
 obtain ⟨ao, co, rfl, _, _⟩ := hO.slice
 obtain ⟨ad, cd, rfl, _, _⟩ := hD.slice
 refine ⟨hb, ao, co, ad, _, cd, ?_, hO, hD⟩
 unfold pkt
 rw [hF.i1, hF.w4, hF.w6, hF.i8, hF.i9, hF.src, hF.dst]
 rfl

theorem tt_of (ttl src dst a b : Int) (so sd : Value) (zm z : List Int) (w : World) (hT : Tb w) (h : UG src dst a b zm z) (hl : zm.length ≤ 500) (hId : Rd w.heap.size w sd z) (hsr : 0 ≤ src ∧ src ≤ 4294967295) (hds : 0 ≤ dst ∧ dst ≤ 4294967295) :
  Calls Tryz.prog 13 #[.agg #[.int .u8 0, .int .u16 0, .bool false, .int .u8 ttl, .int .u8 17, .int .u32 src, .int .u32 dst, so, sd]] w fun e w' => Later w w' ∧ e = .returned (.tuple #[.agg #[.int .u8 17, .int .u32 src, .int .u32 dst, .int .u16 a, .int .u16 b], .int .i64 0]) := by
 refine (of_any 0 0 ttl 17 src dst false so sd z w hT h.1 hId (by have := h.2.1; omega) hsr hds).mono ?_
 rintro e w' ⟨hb1, rfl⟩
 rw [h.2.2.1, h.2.2.2.1, h.2.2.2.2.1]
 exact ⟨hb1, by unfold otv; simp⟩

theorem tt_parseU (ttl src dst a b : Int) (so sd : Value) (zm z : List Int) (w : World) (h : UG src dst a b zm z) (hl : zm.length ≤ 500) (hId : Rd w.heap.size w sd z) (hsr : 0 ≤ src ∧ src ≤ 4294967295) (hds : 0 ≤ dst ∧ dst ≤ 4294967295) :
  Calls Tryz.prog 14 #[.agg #[.int .u8 0, .int .u16 0, .bool false, .int .u8 ttl, .int .u8 17, .int .u32 src, .int .u32 dst, so, sd]] w fun e w' => Later w w' ∧ ∃ k6 ad ld cd, e = .returned (.tuple #[.agg #[.int .u16 a, .int .u16 b, .bool k6, .slice ad ld cd], .int .i64 0]) ∧ Ow w.heap.size w' (.slice ad ld cd) zm := by
 refine (parseUdp_any 0 0 ttl 17 src dst false so sd z w h.1 hId (by have := h.2.1; omega) hsr hds).mono ?_
 have HZ : pue 17 src dst z = 0 := h.2.2.1
 have e0 : wat z 0 = a := h.2.2.2.1
 have e2 : wat z 2 = b := h.2.2.2.2.1
 rintro e w' ⟨hb1, ⟨hx, _⟩ | ⟨_, ad, cd, rfl, hD⟩⟩
 ·exact absurd HZ hx
 ·rw [h.2.2.2.2.2] at hD
  rw [e0, e2]
  exact ⟨hb1, _, _, _, _, rfl, hD⟩
end Go.Proofs.YtajcfhcdincngaaGreatDoor
