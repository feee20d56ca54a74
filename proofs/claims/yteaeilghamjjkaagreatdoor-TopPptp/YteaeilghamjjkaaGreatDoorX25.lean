import Derived.Test.YteaeilghamjjkaaGreatDoorProg
import Derived.WalkKit
import Derived.WalkLawsBesides
import Derived.WalkSpells
import Derived.Outline
import Derived.Below
import Derived.Laws.BitsAllLaws
import Derived.Deep.QuietTactic
import Derived.BigQuiet
namespace Go.Proofs.YteaeilghamjjkaaGreatDoor
theorem eS {α:Type} {a:Array α} {i:Nat} {v:α} (h:a[i]? =some v):i<a.size:=(Array.getElem?_eq_some_iff.1 h).1
theorem bA(w:World)(b:Obj):RowKit.Below w.heap.size w (w.alloc b):=(RowKit.Below.refl _ _).alloc (Nat.le_refl _) _
end Go.Proofs.YteaeilghamjjkaaGreatDoor
namespace Go.Proofs.YteaeilghamjjkaaGreatDoor.Mt
set_option maxRecDepth 100000
def tw:Bool→List Int→Int
 |_,[]=>0
 |true,a::r=>a*256+tw false r
 |false,a::r=>a+tw true r
def fd (n:Int):Int:=if n≤0 then 0 else(n-1) % 65535+1
def cks (zs:List Int):Int:=65535-fd (tw true zs)
def By (zs:List Int):Prop:=∀z∈zs,0≤z∧z≤255
theorem By.nil:By []:=fun _ h=>by cases h
theorem By.cons {a:Int} {r:List Int} (h:By (a::r)):(0≤a∧a≤255)∧By r:=⟨h a (by simp),fun z hz=>h z (by simp[hz])⟩
theorem By.mk {a:Int} {r:List Int} (ha:0≤a∧a≤255)(h:By r):By (a::r):=fun z hz=>by
 rcases List.mem_cons.1 hz with rfl|hz
 ·exact ha
 ·exact h z hz
theorem By.append {a b:List Int} (ha:By a)(hb:By b):By (a++b):=fun z hz=>(List.mem_append.1 hz).elim (ha z) (hb z)
theorem By.take {a:List Int} (ha:By a)(k:Nat):By (a.take k):=fun z hz=>ha z (List.mem_of_mem_take hz)
theorem By.drop {a:List Int} (ha:By a)(k:Nat):By (a.drop k):=fun z hz=>ha z (List.mem_of_mem_drop hz)
theorem By.set {a:List Int} (ha:By a)(k:Nat) {v:Int} (hv:0≤v∧v≤255):By (a.set k v):=fun z hz=>by
 rcases List.mem_or_eq_of_mem_set hz with h|rfl
 ·exact ha z h
 ·exact hv
theorem By.at {a:List Int} (ha:By a)(k:Nat):0≤a[k]?.getD 0∧a[k]?.getD 0≤255:=by
 by_cases h:k<a.length
 ·have:=ha a[k] (List.getElem_mem h)
  simpa[h]using this
 ·simp[h]
theorem fd_bd(n:Int):0≤fd n∧fd n≤65535:=by unfold fd;split<;>omega
theorem fd_low(n:Int)(h0:0≤n)(h:n≤65535):fd n=n:=by unfold fd;split<;>omega
theorem fd_step(n:Int)(h0:0≤n):fd (n/65536+n % 65536)=fd n:=by unfold fd;split<;>split<;>omega
theorem fd_good(n:Int)(h0:0≤n):fd (n+(65535-fd n))=65535:=by unfold fd;split<;>split<;>omega
theorem tw_nonneg:∀(h:Bool) (zs:List Int),By zs→0≤tw h zs
 |_,[],_=>by simp[tw]
 |true,a::r,hb=>by have:=tw_nonneg false r hb.cons.2;have:=hb.cons.1;simp only[tw];omega
 |false,a::r,hb=>by have:=tw_nonneg true r hb.cons.2;have:=hb.cons.1;simp only[tw];omega
def turn (h:Bool) (n:Nat):Bool:=if n % 2=0 then h else !h
theorem zDm(h:Bool)(n:Nat):turn (!h) n=turn h (n+1):=by
 unfold turn;by_cases h1:n % 2=0
 ·rw[if_pos h1,if_neg (by omega)]
 ·rw[if_neg h1,if_pos (by omega),Bool.not_not]
theorem tw_append:∀(h:Bool) (a b:List Int),tw h (a++b)=tw h a+tw (turn h a.length) b
 |h,[],b=>by simp[tw,turn]
 |true,x::r,b=>by
  have:=tw_append false r b;rw[show false= !true from rfl,zDm]at this;simp only[List.cons_append,tw,List.length_cons];rw[←show(!true)=false from rfl]at*;omega
 |false,x::r,b=>by
  have:=tw_append true r b;rw[show true= !false from rfl,zDm]at this;simp only[List.cons_append,tw,List.length_cons];rw[←show(!false)=true from rfl]at*;omega
theorem zMb:∀(h:Bool) (zs:List Int) (k:Nat) (v:Int),k<zs.length→tw h (zs.set k v)=tw h zs+(v-zs[k]?.getD 0)*(if turn h k then 256 else 1)
 |h,[],k,v,hk=>by simp at hk
 |true,a::r,0,v,_=>by simp[tw,turn];omega
 |false,a::r,0,v,_=>by simp[tw,turn];omega
 |true,a::r,k+1,v,hk=>by
  have:=zMb false r k v (by simpa using hk);rw[show turn false k=turn true (k+1)from zDm true k]at this;simp only[List.set_cons_succ,tw,List.getElem?_cons_succ];omega
 |false,a::r,k+1,v,hk=>by
  have:=zMb true r k v (by simpa using hk);rw[show turn true k=turn false (k+1)from zDm false k]at this;simp only[List.set_cons_succ,tw,List.getElem?_cons_succ];omega
theorem take_two(zs:List Int)(k:Nat)(h:k+1<zs.length):zs.take (k+2)=zs.take k++[zs[k]?.getD 0,zs[k+1]?.getD 0]:=by
 rw[List.take_succ_eq_append_getElem (i:=k+1) (by omega),List.take_succ_eq_append_getElem (i:=k) (by omega),List.append_assoc];simp[show k<zs.length by omega,h]
theorem take_one(zs:List Int)(k:Nat)(h:k<zs.length):zs.take (k+1)=zs.take k++[zs[k]?.getD 0]:=by
 rw[List.take_succ_eq_append_getElem (by omega)];simp[h]
theorem tw_two(zs:List Int)(k:Nat)(he:k % 2=0)(h:k+1<zs.length):tw true (zs.take (k+2))=tw true (zs.take k)+(zs[k]?.getD 0*256+zs[k+1]?.getD 0):=by
 rw[take_two zs k h,tw_append];have:(zs.take k).length=k:=by simp;omega
 rw[this];simp[turn,he,tw]
theorem tw_one(zs:List Int)(k:Nat)(he:k % 2=0)(h:k<zs.length):tw true (zs.take (k+1))=tw true (zs.take k)+zs[k]?.getD 0*256:=by
 rw[take_one zs k h,tw_append];have:(zs.take k).length=k:=by simp;omega
 rw[this];simp[turn,he,tw]
theorem cks_bd(zs:List Int):0≤cks zs∧cks zs≤65535:=by have:=fd_bd (tw true zs);unfold cks;omega
def put2 (zs:List Int) (k:Nat) (v:Int):List Int:=(zs.set k (v/256)).set (k+1) (v % 256)
theorem put2_length(zs:List Int)(k:Nat)(v:Int):(put2 zs k v).length=zs.length:=by simp[put2]
theorem By.put2 {zs:List Int} (h:By zs)(k:Nat) {v:Int} (hv:0≤v∧v≤65535):By (put2 zs k v):=(h.set k (by omega)).set (k+1) (by omega)
theorem put2_at(zs:List Int)(k:Nat)(v:Int)(h:k+1<zs.length):(put2 zs k v)[k]?.getD 0=v/256∧(put2 zs k v)[k+1]?.getD 0=v % 256:=by
 have hk:k<zs.length:=by omega
 simp[put2,h,hk]
theorem put2_other(zs:List Int)(k j:Nat)(v:Int)(h:j≠k)(h2:j≠k+1):(put2 zs k v)[j]? =zs[j]? :=by
 simp[put2,List.getElem?_set];rw[if_neg (by omega),if_neg (by omega)]
theorem tw_put2(zs:List Int)(k:Nat)(v:Int)(he:k % 2=0)(h:k+1<zs.length):tw true (put2 zs k v)=tw true zs+v-(zs[k]?.getD 0*256+zs[k+1]?.getD 0):=by
 have h1:=zMb true zs k (v/256) (by omega);have h2:=zMb true (zs.set k (v/256)) (k+1) (v % 256) (by simpa using h);have e1:turn true k=true:=by simp[turn,he]
 have e2:turn true (k+1)=false:=by simp[turn];omega
 have e3:(zs.set k (v/256))[k+1]? =zs[k+1]? :=by rw[List.getElem?_set,if_neg (by omega)]
 rw[e1]at h1;rw[e2,e3]at h2
 simp at h1 h2
 unfold put2;rw[h2,h1];omega
end Go.Proofs.YteaeilghamjjkaaGreatDoor.Mt
namespace Go.Proofs.YteaeilghamjjkaaGreatDoor
open Go.RowKit
set_option maxRecDepth 100000
theorem zAc {p:Prop} (h:p):Hid p:=h
theorem zA8 {p:Prop} (h:Hid p):p:=h
def Rd (n₀:Nat) (W:World) (sv:Value) (zs:List Int):Prop:=
 (∃a cap,sv= .slice a 0 cap∧zs=[]∧cap≤9223372036854775807∧(a=none→cap=0))∨
 ∃b off cap,sv= .slice (some ⟨b,off,none⟩) zs.length cap∧zs≠ []∧zs.length≤cap∧cap≤9223372036854775807∧b<n₀∧∀j,j<zs.length→W.cell? ⟨b,off+j,none⟩=some (.int .u8 (zs[j]?.getD 0))
theorem Rd.below {n₀:Nat} {A B:World} (h:Below n₀ A B) {sv:Value} {zs:List Int} :Rd n₀ A sv zs→Rd n₀ B sv zs
 | .inl e=> .inl e
 | .inr ⟨b,off,cap,e,hne,hl,hm,hb,hc⟩=> .inr ⟨b,off,cap,e,hne,hl,hm,hb,fun j hj=>(h.cell (p:=⟨b,off+j,none⟩) hb).trans (hc j hj)⟩
theorem Rd.mono {n₀ n₁:Nat} {A:World} (h:n₀≤n₁) {sv:Value} {zs:List Int} :Rd n₀ A sv zs→Rd n₁ A sv zs
 | .inl e=> .inl e
 | .inr ⟨b,off,cap,e,hne,hl,hm,hb,hc⟩=> .inr ⟨b,off,cap,e,hne,hl,hm,Nat.lt_of_lt_of_le hb h,hc⟩
theorem Rd.slice {n₀:Nat} {A:World} {sv:Value} {zs:List Int} :Rd n₀ A sv zs→∃a cap,sv= .slice a zs.length cap∧zs.length≤cap∧cap≤9223372036854775807
 | .inl ⟨a,cap,e,hz,hm,_⟩=>⟨a,cap,by rw[e,hz];rfl,by rw[hz];exact Nat.zero_le _,hm⟩
 | .inr ⟨b,off,cap,e,_,hl,hm,_⟩=>⟨_,cap,e,hl,hm⟩
theorem Rd.take {n₀:Nat} {A:World} {a:Option Addr} {len cap:Nat} {zs:List Int} (k:Nat)(hk:k≤len)(h:Rd n₀ A (.slice a len cap) zs):Rd n₀ A (.slice a k cap) (zs.take k):=by
 rcases h with⟨a',cap',e,hz,hm,hn⟩|⟨b,off,cap',e,hne,hl,hm,hb,hc⟩
 ·cases e
  obtain rfl:k=0:=by omega
  exact .inl ⟨a,cap,rfl,by simp,hm,hn⟩
 ·cases e
  by_cases h0:k=0
  ·subst h0
   exact .inl ⟨_,cap,rfl,by simp,hm,fun h=>by cases h⟩
  ·have hlen:(zs.take k).length=k:=by simp;omega
   refine .inr ⟨b,off,cap,by rw[hlen],fun e=>by rw[e]at hlen;simp at hlen;omega,by omega,hm,hb,fun j hj=> ?_⟩;rw[hc j (by omega)];simp[show j<k by omega]
set_option maxHeartbeats 400000 in
theorem zDn(a:Option Addr)(len cap:Nat)(p n:Int)(w:World)(hl:len≤9223372036854775807)(h0:0≤p)(hn:0≤n)(h1:p+n≤len):
  Calls Tryz.prog 81 #[.slice a len cap,.int .i64 p,.int .i64 n] w fun e w'=>e= .returned (.bool true)∧w'=w:=by
 have h2:p≤(len:Int)-n:=by omega
 go_enter Tryz.func81,Tryz.ntmps81;go_wp2
 go_ret
 exact⟨rfl,rfl⟩
set_option maxHeartbeats 400000 in
theorem zEr(a:Option Addr)(len cap:Nat)(p n:Int)(w:World)(hl:len≤9223372036854775807)(hn:0≤n)(hn2:n≤100)(h1:p<0∨(len:Int)<p+n):
  Calls Tryz.prog 81 #[.slice a len cap,.int .i64 p,.int .i64 n] w fun e w'=>e= .returned (.bool false)∧w'=w:=by
 by_cases h0:0≤p
 ·have h2:¬p≤(len:Int)-n:=by omega
  clear h1;go_enter Tryz.func81,Tryz.ntmps81;go_wp2
  go_ret
  exact⟨rfl,rfl⟩
 ·clear h1
  go_enter Tryz.func81,Tryz.ntmps81;go_wp2
  go_ret
  exact⟨rfl,rfl⟩
theorem and_low(k:Int)(h0:0≤k)(h1:k≤9223372036854775807):bits .and .u64 k 65535=k % 65536:=by
 rw[u64_and k 65535 h0 (by omega) (by omega) (by omega)];have:k.toNat &&& (65535:Int).toNat=k.toNat % 65536:=Nat.and_two_pow_sub_one_eq_mod k.toNat 16;omega
theorem zOz(k:Int)(h0:0≤k)(h1:k≤9223372036854775807):IntKind.u64.wrap (k/65536+bits .and .u64 k 65535)=k/65536+k % 65536:=by
 rw[and_low k h0 h1];simp[IntKind.wrap,IntKind.bits,IntKind.signed]
 omega
theorem or_join(x y:Int)(hx:0≤x∧x≤255)(hy:0≤y∧y≤255):bits .or .u16 (x*256) y=x*256+y:=by
 rw[u16_or _ _ (by omega) (by omega) (by omega) (by omega)];have:=nat_join 8 (x*256).toNat y.toNat (by omega) (by omega);omega
theorem zKd {k:IntKind} {a b:Int} (h:a=b):Ending.returned (.int k a)= .returned (.int k b):=by rw[h]
set_option maxHeartbeats 400000 in
theorem fold_any(n:Int)(w:World)(h0:0≤n)(h1:n≤9223372036854775807):
  Calls Tryz.prog 123 #[.int .u64 n] w fun e w'=>e= .returned (.int .u16 (Mt.fd n))∧w'=w:=by
 go_enter Tryz.func123,Tryz.ntmps123;go_wp2
 go_loop [0] (fun t=>∃k:Int,0≤k∧k≤n∧Hid (Mt.fd k=Mt.fd n)∧t= .int .u64 k) (fun t=>(intOf t).toNat)
 case atStart=>exact⟨n,h0,by omega,rfl,rfl⟩
 case round=>
  obtain⟨k,hk0,hk1,hfd,rfl⟩:=hrel;by_cases hlt:65535<k
  ·go_wp2
   rw[zOz k hk0 (by omega)];exact⟨⟨_,by omega,by omega,(Mt.fd_step k hk0).trans hfd.out,rfl⟩,by simp[intOf];omega⟩
  ·go_wp2
   go_ret
   exact⟨zKd ((Mt.fd_low k hk0 (by omega)).symm.trans hfd.out),rfl⟩
set_option maxHeartbeats 400000 in
theorem zHy(b off len cap:Nat)(x y:Int)(p:Nat)(w:World)(hl:len≤9223372036854775807)(h1:p+1<len)(hx:0≤x∧x≤255)(hy:0≤y∧y≤255)
  (hc0:w.cell? ⟨b,off+p,none⟩=some (.int .u8 x))(hc1:w.cell? ⟨b,off+(p+1),none⟩=some (.int .u8 y)):
  Calls Tryz.prog 39 #[.slice (some ⟨b,off,none⟩) len cap,.int .i64 p] w fun e w'=>e= .returned (.int .u16 (x*256+y))∧∃n,w'=w.drewN n:=by
 go_enter Tryz.func39,Tryz.ntmps39;go_wp2_with (go_at_call 81;refine(zDn _ _ _ _ _ _ hl (by omega) (by omega) (by omega)).mono ?_;rintro e w' ⟨rfl,rfl⟩)
 have hi1:(p:Int)<len:=by omega
 have hi2:(p:Int)+1<len:=by omega
 go_quiet (fail)
 go_wp2
 rw[or_join x y hx hy];go_ret
 exact⟨rfl,nq,rfl⟩
set_option maxHeartbeats 400000 in
theorem get16_no(a:Option Addr)(len cap:Nat)(p:Int)(w:World)(hl:len≤9223372036854775807)(h1:p<0∨(len:Int)<p+2):
  Calls Tryz.prog 39 #[.slice a len cap,.int .i64 p] w fun e w'=>e= .returned (.int .u16 0)∧w'=w:=by
 go_enter Tryz.func39,Tryz.ntmps39;go_wp2_with (go_at_call 81;refine(zEr _ _ _ _ _ _ hl (by omega) (by omega) h1).mono ?_;rintro e w' ⟨rfl,rfl⟩)
 go_ret
 exact⟨rfl,rfl⟩
end Go.Proofs.YteaeilghamjjkaaGreatDoor
