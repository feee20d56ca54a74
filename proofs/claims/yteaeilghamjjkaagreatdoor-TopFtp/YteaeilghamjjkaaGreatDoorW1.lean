import Derived.Test.YteaeilghamjjkaaGreatDoorProg
import Derived.Test.YteaeilghamjjkaaGreatDoorMath
import Derived.WalkKit
import Derived.WalkLawsBesides
import Derived.WalkSpells
import Derived.Outline
import Derived.Below
import Derived.Laws.BitsAllLaws
import Derived.Deep.QuietTactic
import Derived.BigQuiet
namespace Go.Proofs.YteaeilghamjjkaaGreatDoor
set_option maxHeartbeats 400000
open Go.RowKit
set_option maxRecDepth 100000
theorem zAd {p:Prop} (h:p):Hid p:=h
theorem zBd {p:Prop} (h:Hid p):p:=h
def Rd (n₀:Nat) (W:World) (sv:Value) (zs:List Int):Prop:=
 (∃a cap,sv= .slice a 0 cap∧zs=[]∧cap≤9223372036854775807∧(a=none→cap=0))∨
 ∃b off cap,sv= .slice (some ⟨b,off,none⟩) zs.length cap∧zs≠ []∧zs.length≤cap∧cap≤9223372036854775807∧b<n₀∧∀j,j<zs.length→W.cell? ⟨b,off+j,none⟩=some (.int .u8 (zs[j]?.getD 0))
theorem Rd.below {n₀:Nat} {A B:World} (h:Below n₀ A B) {sv:Value} {zs:List Int} :Rd n₀ A sv zs→Rd n₀ B sv zs
 | .inl e=> .inl e
 | .inr ⟨b,off,cap,e,hne,hl,hm,hb,hc⟩=> .inr ⟨b,off,cap,e,hne,hl,hm,hb,fun j hj=>(h.cell (p:=⟨b,off+j,none⟩) hb).trans (hc j hj)⟩
theorem Rd.mono {n₀ n₁:Nat} {A:World} (h:n₀≤n₁) {sv:Value} {zs:List Int} :Rd n₀ A sv zs→Rd n₁ A sv zs
 | .inl e=> .inl e
 | .inr ⟨b,off,cap,e,hne,hl,hm,hb,hc⟩=> .inr ⟨b,off,cap,e,hne,hl,hm,Nat.lt_of_lt_of_le hb h,hc⟩
theorem Rd.slice {n₀:Nat} {A:World} {sv:Value} {zs:List Int} :Rd n₀ A sv zs→∃a cap,sv= .slice a zs.length cap∧zs.length≤cap∧cap≤9223372036854775807
 | .inl ⟨a,cap,e,hz,hm,_⟩=>⟨a,cap,by rw[e,hz];rfl,by rw[hz];exact Nat.zero_le _,hm⟩
 | .inr ⟨b,off,cap,e,_,hl,hm,_⟩=>⟨_,cap,e,hl,hm⟩
theorem Rd.take {n₀:Nat} {A:World} {a:Option Addr} {len cap:Nat} {zs:List Int} (k:Nat)(hk:k≤len)(h:Rd n₀ A (.slice a len cap) zs):Rd n₀ A (.slice a k cap) (zs.take k):=by
 rcases h with⟨a',cap',e,hz,hm,hn⟩|⟨b,off,cap',e,hne,hl,hm,hb,hc⟩
 ·cases e
  obtain rfl:k=0:=by omega
  exact .inl ⟨a,cap,rfl,by simp,hm,hn⟩
 ·cases e
  by_cases h0:k=0
  ·subst h0
   exact .inl ⟨_,cap,rfl,by simp,hm,fun h=>by cases h⟩
  ·have hlen:(zs.take k).length=k:=by simp;omega
   refine .inr ⟨b,off,cap,by rw[hlen],fun e=>by rw[e]at hlen;simp at hlen;omega,by omega,hm,hb,fun j hj=> ?_⟩;rw[hc j (by omega)];simp[show j<k by omega]
theorem zEe(a:Option Addr)(len cap:Nat)(p n:Int)(w:World)(hl:len≤9223372036854775807)(h0:0≤p)(hn:0≤n)(h1:p+n≤len):
  Calls Tryz.prog 81 #[.slice a len cap,.int .i64 p,.int .i64 n] w fun e w'=>e= .returned (.bool true)∧w'=w:=by
 have h2:p≤(len:Int)-n:=by omega
 go_enter Tryz.func81,Tryz.ntmps81;go_wp2
 go_ret
 exact⟨rfl,rfl⟩
theorem zFp(a:Option Addr)(len cap:Nat)(p n:Int)(w:World)(hl:len≤9223372036854775807)(hn:0≤n)(hn2:n≤100)(h1:p<0∨(len:Int)<p+n):
  Calls Tryz.prog 81 #[.slice a len cap,.int .i64 p,.int .i64 n] w fun e w'=>e= .returned (.bool false)∧w'=w:=by
 by_cases h0:0≤p
 ·have h2:¬p≤(len:Int)-n:=by omega
  clear h1;go_enter Tryz.func81,Tryz.ntmps81;go_wp2
  go_ret
  exact⟨rfl,rfl⟩
 ·clear h1
  go_enter Tryz.func81,Tryz.ntmps81;go_wp2
  go_ret
  exact⟨rfl,rfl⟩
theorem and_low(k:Int)(h0:0≤k)(h1:k≤9223372036854775807):bits .and .u64 k 65535=k % 65536:=by
 rw[u64_and k 65535 h0 (by omega) (by omega) (by omega)];have:k.toNat &&& (65535:Int).toNat=k.toNat % 65536:=Nat.and_two_pow_sub_one_eq_mod k.toNat 16;omega
theorem zSe(k:Int)(h0:0≤k)(h1:k≤9223372036854775807):IntKind.u64.wrap (k/65536+bits .and .u64 k 65535)=k/65536+k % 65536:=by
 rw[and_low k h0 h1];simp[IntKind.wrap,IntKind.bits,IntKind.signed]
 omega
theorem or_join(x y:Int)(hx:0≤x∧x≤255)(hy:0≤y∧y≤255):bits .or .u16 (x*256) y=x*256+y:=by
 rw[u16_or _ _ (by omega) (by omega) (by omega) (by omega)];have:=nat_join 8 (x*256).toNat y.toNat (by omega) (by omega);omega
theorem zL1 {k:IntKind} {a b:Int} (h:a=b):Ending.returned (.int k a)= .returned (.int k b):=by rw[h]
theorem fold_any(n:Int)(w:World)(h0:0≤n)(h1:n≤9223372036854775807):
  Calls Tryz.prog 123 #[.int .u64 n] w fun e w'=>e= .returned (.int .u16 (Mt.fd n))∧w'=w:=by
 go_enter Tryz.func123,Tryz.ntmps123;go_wp2
 go_loop [0] (fun t=>∃k:Int,0≤k∧k≤n∧Hid (Mt.fd k=Mt.fd n)∧t= .int .u64 k) (fun t=>(intOf t).toNat)
 case atStart=>exact⟨n,h0,by omega,rfl,rfl⟩
 case round=>
  obtain⟨k,hk0,hk1,hfd,rfl⟩:=hrel;by_cases hlt:65535<k
  ·go_wp2
   rw[zSe k hk0 (by omega)];exact⟨⟨_,by omega,by omega,(Mt.fd_step k hk0).trans hfd.out,rfl⟩,by simp[intOf];omega⟩
  ·go_wp2
   go_ret
   exact⟨zL1 ((Mt.fd_low k hk0 (by omega)).symm.trans hfd.out),rfl⟩
def ahd (a b:Int):Int:=if 2147483648≤(a-b) % 4294967296 then(a-b) % 4294967296-4294967296 else(a-b) % 4294967296
theorem ahd_eq(a b:Int):wrap64 (wrap32 ((a-b) % 4294967296))=ahd a b:=by
 unfold wrap64 wrap32 ahd;split<;>omega
theorem zJ7(a b:Int)(w:World):
  Calls Tryz.prog 392 #[.int .u32 a,.int .u32 b] w fun e w'=>e= .returned (.int .i64 (ahd a b))∧w'=w:=by
 go_enter Tryz.func392,Tryz.ntmps392;go_wp2
 go_ret
 exact⟨zL1 (ahd_eq a b),rfl⟩
theorem zJ8(b off len cap:Nat)(x y:Int)(p:Nat)(w:World)(hl:len≤9223372036854775807)(h1:p+1<len)(hx:0≤x∧x≤255)(hy:0≤y∧y≤255)
  (hc0:w.cell? ⟨b,off+p,none⟩=some (.int .u8 x))(hc1:w.cell? ⟨b,off+(p+1),none⟩=some (.int .u8 y)):
  Calls Tryz.prog 39 #[.slice (some ⟨b,off,none⟩) len cap,.int .i64 p] w fun e w'=>e= .returned (.int .u16 (x*256+y))∧∃n,w'=w.drewN n:=by
 go_enter Tryz.func39,Tryz.ntmps39;go_wp2_with (go_at_call 81;refine(zEe _ _ _ _ _ _ hl (by omega) (by omega) (by omega)).mono ?_;rintro e w' ⟨rfl,rfl⟩)
 have hi1:(p:Int)<len:=by omega
 have hi2:(p:Int)+1<len:=by omega
 go_quiet (fail)
 go_wp2
 rw[or_join x y hx hy];go_ret
 exact⟨rfl,nq,rfl⟩
theorem get16_no(a:Option Addr)(len cap:Nat)(p:Int)(w:World)(hl:len≤9223372036854775807)(h1:p<0∨(len:Int)<p+2):
  Calls Tryz.prog 39 #[.slice a len cap,.int .i64 p] w fun e w'=>e= .returned (.int .u16 0)∧w'=w:=by
 go_enter Tryz.func39,Tryz.ntmps39;go_wp2_with (go_at_call 81;refine(zFp _ _ _ _ _ _ hl (by omega) (by omega) h1).mono ?_;rintro e w' ⟨rfl,rfl⟩)
 go_ret
 exact⟨rfl,rfl⟩
end Go.Proofs.YteaeilghamjjkaaGreatDoor
