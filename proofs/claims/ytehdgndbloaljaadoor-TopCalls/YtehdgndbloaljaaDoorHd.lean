/- The bytes of a header, written out, and what they tell. -/
import Derived.Test.YtehdgndbloaljaaDoorV2
namespace Go.Proofs.YtehdgndbloaljaaDoor
set_option maxRecDepth 100000

theorem putAt2_lit (zs : List Int) (k : Nat) (p v : Int) (hp : p = (k : Int)) (hk : k + 1 < zs.length) : putAt2 zs p v = Mt.put2 zs k v := by
  subst hp; unfold putAt2; rw [if_pos (by omega), Int.toNat_natCast]
theorem putAt4_lit (zs : List Int) (k : Nat) (p v : Int) (hp : p = (k : Int)) (hk : k + 3 < zs.length) : putAt4 zs p v = put4 zs k v := by
  subst hp; unfold putAt4; rw [if_pos (by omega), Int.toNat_natCast]

/-- The twenty bytes of a header, with s for its check sum. -/
def h20 (tos id : Int) (keep : Bool) (ttl proto src dst : Int) (lo : Nat) (all s : Int) : List Int :=
  [64 + (20 + (lo : Int)) / 4, tos, all / 256, all % 256, id / 256, id % 256, if keep then 64 else 0, 0, ttl, proto, s / 256, s % 256,
   src / 65536 / 256, src / 65536 % 256, src % 65536 / 256, src % 65536 % 256, dst / 65536 / 256, dst / 65536 % 256, dst % 65536 / 256, dst % 65536 % 256]

theorem hd0_eq (tos id : Int) (keep : Bool) (ttl proto src dst : Int) (zo : List Int) (all : Int) : hd0 tos id keep ttl proto src dst zo all = h20 tos id keep ttl proto src dst zo.length all 0 ++ zo := by
  unfold hd0 hd1
  have e : List.replicate 20 (0 : Int) ++ zo = 0 :: 0 :: 0 :: 0 :: 0 :: 0 :: 0 :: 0 :: 0 :: 0 :: 0 :: 0 :: 0 :: 0 :: 0 :: 0 :: 0 :: 0 :: 0 :: 0 :: zo := rfl
  rw [e]
  cases keep
  · rw [if_neg (by simp), putAt2_lit _ 2 2 _ rfl (by simp), putAt2_lit _ 4 4 _ rfl (by simp [Mt.put2_length]), putAt4_lit _ 12 12 _ rfl (by simp [Mt.put2_length]), putAt4_lit _ 16 16 _ rfl (by simp [Mt.put2_length, put4_length])]
    simp [Mt.put2, put4, h20]
  · rw [if_pos rfl, putAt2_lit _ 2 2 _ rfl (by simp), putAt2_lit _ 4 4 _ rfl (by simp [Mt.put2_length]), putAt2_lit _ 6 6 _ rfl (by simp [Mt.put2_length]), putAt4_lit _ 12 12 _ rfl (by simp [Mt.put2_length]), putAt4_lit _ 16 16 _ rfl (by simp [Mt.put2_length, put4_length])]
    simp [Mt.put2, put4, h20]

/-- The check sum that a packet's header has. -/
def hsum (tos id : Int) (keep : Bool) (ttl proto src dst : Int) (zo : List Int) (all : Int) : Int := Mt.cks (h20 tos id keep ttl proto src dst zo.length all 0 ++ zo)
theorem hdr_eq (tos id : Int) (keep : Bool) (ttl proto src dst : Int) (zo : List Int) (all : Int) : hdr tos id keep ttl proto src dst zo all = h20 tos id keep ttl proto src dst zo.length all (hsum tos id keep ttl proto src dst zo all) ++ zo := by
  unfold hdr hsum
  rw [hd0_eq]
  generalize Mt.cks (h20 tos id keep ttl proto src dst zo.length all 0 ++ zo) = s
  unfold h20
  rw [putAt2_lit _ 10 10 _ rfl (by simp)]
  simp [Mt.put2]

theorem h20_length (tos id : Int) (keep : Bool) (ttl proto src dst : Int) (lo : Nat) (all s : Int) : (h20 tos id keep ttl proto src dst lo all s).length = 20 := rfl
theorem h20_tw (tos id : Int) (keep : Bool) (ttl proto src dst : Int) (lo : Nat) (all s : Int) : Mt.tw true (h20 tos id keep ttl proto src dst lo all s) = Mt.tw true (h20 tos id keep ttl proto src dst lo all 0) + s := by
  unfold h20
  simp only [Mt.tw]
  omega
theorem h20_by (tos id : Int) (keep : Bool) (ttl proto src dst : Int) (lo : Nat) (all s : Int) (hl : lo ≤ 40) (ht : 0 ≤ tos ∧ tos ≤ 255) (hid : 0 ≤ id ∧ id ≤ 65535) (htt : 0 ≤ ttl ∧ ttl ≤ 255) (hpr : 0 ≤ proto ∧ proto ≤ 255) (hsr : 0 ≤ src ∧ src ≤ 4294967295) (hds : 0 ≤ dst ∧ dst ≤ 4294967295) (hal : 0 ≤ all ∧ all ≤ 65535) (hs : 0 ≤ s ∧ s ≤ 65535) : Mt.By (h20 tos id keep ttl proto src dst lo all s) := by
  have hk : 0 ≤ (if keep then (64 : Int) else 0) ∧ (if keep then (64 : Int) else 0) ≤ 255 := by split <;> omega
  unfold h20
  intro z hz
  simp only [List.mem_cons, List.not_mem_nil, or_false] at hz
  rcases hz with h | h | h | h | h | h | h | h | h | h | h | h | h | h | h | h | h | h | h | h <;> subst h <;> first | exact hk | omega

/-- The header is good. -/
theorem hdr_good (tos id : Int) (keep : Bool) (ttl proto src dst : Int) (zo : List Int) (all : Int) (hB : Mt.By (h20 tos id keep ttl proto src dst zo.length all 0 ++ zo)) : Mt.cks (hdr tos id keep ttl proto src dst zo all) = 0 := by
  rw [hdr_eq]
  have h0 := Mt.tw_nonneg true _ hB
  have e1 : Mt.tw true (h20 tos id keep ttl proto src dst zo.length all (hsum tos id keep ttl proto src dst zo all) ++ zo) = Mt.tw true (h20 tos id keep ttl proto src dst zo.length all 0 ++ zo) + hsum tos id keep ttl proto src dst zo all := by
    rw [Mt.tw_append, Mt.tw_append, h20_tw, h20_length, h20_length]
    omega
  have e2 : hsum tos id keep ttl proto src dst zo all = 65535 - Mt.fd (Mt.tw true (h20 tos id keep ttl proto src dst zo.length all 0 ++ zo)) := rfl
  show 65535 - Mt.fd _ = 0
  rw [e1, e2, Mt.fd_good _ h0]
  omega

theorem hdr_len (tos id : Int) (keep : Bool) (ttl proto src dst : Int) (zo : List Int) (all : Int) : (hdr tos id keep ttl proto src dst zo all).length = 20 + zo.length := by
  rw [hdr_eq, List.length_append, h20_length]
theorem hdr_wat2 (tos id : Int) (keep : Bool) (ttl proto src dst : Int) (zo zd : List Int) (all : Int) : wat (hdr tos id keep ttl proto src dst zo all ++ zd) 2 = all := by
  rw [hdr_eq]; unfold wat h20; simp; omega
theorem hdr_wat4 (tos id : Int) (keep : Bool) (ttl proto src dst : Int) (zo zd : List Int) (all : Int) : wat (hdr tos id keep ttl proto src dst zo all ++ zd) 4 = id := by
  rw [hdr_eq]; unfold wat h20; simp; omega
theorem hdr_wat6 (tos id : Int) (keep : Bool) (ttl proto src dst : Int) (zo zd : List Int) (all : Int) : wat (hdr tos id keep ttl proto src dst zo all ++ zd) 6 = if keep then 16384 else 0 := by
  rw [hdr_eq]; unfold wat h20; cases keep <;> simp
theorem hdr_src (tos id : Int) (keep : Bool) (ttl proto src dst : Int) (zo zd : List Int) (all : Int) : wat4 (hdr tos id keep ttl proto src dst zo all ++ zd) 12 = src := by
  rw [hdr_eq]; unfold wat4 wat h20; simp; omega
theorem hdr_dst (tos id : Int) (keep : Bool) (ttl proto src dst : Int) (zo zd : List Int) (all : Int) : wat4 (hdr tos id keep ttl proto src dst zo all ++ zd) 16 = dst := by
  rw [hdr_eq]; unfold wat4 wat h20; simp; omega
end Go.Proofs.YtehdgndbloaljaaDoor
