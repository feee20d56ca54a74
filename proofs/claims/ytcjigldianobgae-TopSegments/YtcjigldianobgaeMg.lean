/- A header of any flags and any check sum: what read tells of it. -/
import Derived.Test.YtcjigldianobgaeMh
namespace Go.Proofs.Ytcjigldianobgae
open Go.RowKit Go.Shelf
set_option maxRecDepth 100000
set_option linter.unusedVariables false
set_option linter.unusedSimpArgs false

/-- The twenty bytes of a header with f for its flags and s for its check sum. -/
def g20 (tos id f ttl proto src dst : Int) (lo : Nat) (all s : Int) : List Int :=
  [64 + (20 + (lo : Int)) / 4, tos, all / 256, all % 256, id / 256, id % 256, f / 256, f % 256, ttl, proto, s / 256, s % 256,
   src / 65536 / 256, src / 65536 % 256, src % 65536 / 256, src % 65536 % 256, dst / 65536 / 256, dst / 65536 % 256, dst % 65536 / 256, dst % 65536 % 256]
theorem g20_of (tos id : Int) (keep : Bool) (ttl proto src dst : Int) (lo : Nat) (all s : Int) : h20 tos id keep ttl proto src dst lo all s = g20 tos id (if keep then 16384 else 0) ttl proto src dst lo all s := by
  unfold h20 g20; cases keep <;> rfl
theorem g20_length (tos id f ttl proto src dst : Int) (lo : Nat) (all s : Int) : (g20 tos id f ttl proto src dst lo all s).length = 20 := rfl
theorem g20_tw (tos id f ttl proto src dst : Int) (lo : Nat) (all s : Int) : Mt.tw true (g20 tos id f ttl proto src dst lo all s) = (64 + (20 + (lo : Int)) / 4) * 256 + tos + all + id + f + ttl * 256 + proto + s + src / 65536 + src % 65536 + dst / 65536 + dst % 65536 := by
  unfold g20
  simp only [Mt.tw]
  omega
theorem g20_by (tos id f ttl proto src dst : Int) (lo : Nat) (all s : Int) (hl : lo ≤ 40) (ht : 0 ≤ tos ∧ tos ≤ 255) (hid : 0 ≤ id ∧ id ≤ 65535) (hf : 0 ≤ f ∧ f ≤ 65535) (htt : 0 ≤ ttl ∧ ttl ≤ 255) (hpr : 0 ≤ proto ∧ proto ≤ 255) (hsr : 0 ≤ src ∧ src ≤ 4294967295) (hds : 0 ≤ dst ∧ dst ≤ 4294967295) (hal : 0 ≤ all ∧ all ≤ 65535) (hs : 0 ≤ s ∧ s ≤ 65535) : Mt.By (g20 tos id f ttl proto src dst lo all s) := by
  unfold g20
  intro z hz
  simp only [List.mem_cons, List.not_mem_nil, or_false] at hz
  rcases hz with h | h | h | h | h | h | h | h | h | h | h | h | h | h | h | h | h | h | h | h <;> subst h <;> omega

section
variable (tos id f ttl proto src dst : Int) (zo zd : List Int) (all s : Int)
theorem g_len : (g20 tos id f ttl proto src dst zo.length all s ++ zo).length = 20 + zo.length := by rw [List.length_append, g20_length]
theorem g_1 : (g20 tos id f ttl proto src dst zo.length all s ++ zo ++ zd)[1]?.getD 0 = tos := by unfold g20; simp
theorem g_8 : (g20 tos id f ttl proto src dst zo.length all s ++ zo ++ zd)[8]?.getD 0 = ttl := by unfold g20; simp
theorem g_9 : (g20 tos id f ttl proto src dst zo.length all s ++ zo ++ zd)[9]?.getD 0 = proto := by unfold g20; simp
theorem g_w4 : wat (g20 tos id f ttl proto src dst zo.length all s ++ zo ++ zd) 4 = id := by unfold wat g20; simp; omega
theorem g_w6 : wat (g20 tos id f ttl proto src dst zo.length all s ++ zo ++ zd) 6 = f := by unfold wat g20; simp; omega
theorem g_src : wat4 (g20 tos id f ttl proto src dst zo.length all s ++ zo ++ zd) 12 = src := by unfold wat4 wat g20; simp; omega
theorem g_dst : wat4 (g20 tos id f ttl proto src dst zo.length all s ++ zo ++ zd) 16 = dst := by unfold wat4 wat g20; simp; omega
theorem g_hl4 (h1 : zo.length ≤ 40) (h2 : zo.length % 4 = 0) : hl4 (g20 tos id f ttl proto src dst zo.length all s ++ zo ++ zd) = ((20 + zo.length : Nat) : Int) := by
  unfold hl4 g20; simp; omega
theorem g_take : (g20 tos id f ttl proto src dst zo.length all s ++ zo ++ zd).take (20 + zo.length) = g20 tos id f ttl proto src dst zo.length all s ++ zo := by
  rw [← g_len tos id f ttl proto src dst zo all s, List.take_left]
theorem g_opts : (g20 tos id f ttl proto src dst zo.length all s ++ zo).drop 20 = zo := by
  rw [← g20_length tos id f ttl proto src dst zo.length all s, List.drop_left]
theorem g_drop : (g20 tos id f ttl proto src dst zo.length all s ++ zo ++ zd).drop (20 + zo.length) = zd := by
  rw [← g_len tos id f ttl proto src dst zo all s, List.drop_left]

/-- What is wrong with it. -/
theorem rde_g (h1 : zo.length ≤ 40) (h2 : zo.length % 4 = 0) (n : Nat) (hn : all = ((20 + zo.length + n : Nat) : Int)) (hz : n ≤ zd.length) :
    rde false (g20 tos id f ttl proto src dst zo.length all s ++ zo ++ zd) = if Mt.cks (g20 tos id f ttl proto src dst zo.length all s ++ zo) ≠ 0 then 5 else if f % 16384 ≠ 0 then 7 else if 32768 ≤ f then 4 else 0 := by
  have hlen : (g20 tos id f ttl proto src dst zo.length all s ++ zo ++ zd).length = 20 + zo.length + zd.length := by rw [List.length_append, g_len]
  have e0 : (g20 tos id f ttl proto src dst zo.length all s ++ zo ++ zd)[0]?.getD 0 = 64 + (20 + (zo.length : Int)) / 4 := by unfold g20; simp
  have e2 : wat (g20 tos id f ttl proto src dst zo.length all s ++ zo ++ zd) 2 = all := by unfold wat g20; simp; omega
  have e3 := g_hl4 tos id f ttl proto src dst zo zd all s h1 h2
  have e6 := g_w6 tos id f ttl proto src dst zo zd all s
  have et := g_take tos id f ttl proto src dst zo zd all s
  generalize g20 tos id f ttl proto src dst zo.length all s ++ zo = hh at *
  generalize hh ++ zd = bb at *
  have hm0 : msr bb = 0 := by unfold msr; rw [hlen, e0, e3, e2, if_neg (by omega), if_neg (by omega), if_neg (by omega), if_neg (by omega), if_neg (by omega)]
  have hr : ral false bb = all := by simp [ral, e2]
  have hc : chk bb = if Mt.cks hh ≠ 0 then 5 else if f % 16384 ≠ 0 then 7 else if 32768 ≤ f then 4 else 0 := by unfold chk; rw [e3, e6, Int.toNat_natCast, et]
  unfold rde
  rw [hm0, hr, hlen, hc, if_neg (by simp), if_neg (by omega)]
  generalize (if Mt.cks hh ≠ 0 then (5 : Int) else if f % 16384 ≠ 0 then 7 else if 32768 ≤ f then 4 else 0) = r
  by_cases h : r = 0
  · subst h; simp
  · rw [if_pos h]
end

/-- A good sum, by numbers. -/
theorem good_of (zs : List Int) (h : 0 < Mt.tw true zs) (h2 : Mt.tw true zs % 65535 = 0) : Mt.cks zs = 0 := by
  unfold Mt.cks
  rw [Mt.fd_of _ h h2]
  omega
theorem good_to (zs : List Int) (h : Mt.cks zs = 0) : 0 < Mt.tw true zs ∧ Mt.tw true zs % 65535 = 0 := by
  unfold Mt.cks at h
  exact Mt.fd_eq _ (by omega)

/-- The packet that is told of a good header. -/
theorem g_pkt (tos id : Int) (keep : Bool) (ttl proto src dst : Int) (zo zd : List Int) (all s : Int) (so sd : Value) : pkt (g20 tos id (if keep then 16384 else 0) ttl proto src dst zo.length all s ++ zo ++ zd) so sd =
    .agg #[.int .u8 tos, .int .u16 id, .bool keep, .int .u8 ttl, .int .u8 proto, .int .u32 src, .int .u32 dst, so, sd] := by
  unfold pkt
  rw [g_1, g_w4, g_w6, g_8, g_9, g_src, g_dst]
  cases keep <;> simp
end Go.Proofs.Ytcjigldianobgae
