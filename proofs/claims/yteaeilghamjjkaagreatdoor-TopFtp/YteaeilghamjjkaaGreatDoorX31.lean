import Derived.Test.YteaeilghamjjkaaGreatDoorProg
import Derived.WalkKit
import Derived.WalkLawsBesides
import Derived.WalkSpells
import Derived.Outline
import Derived.Below
import Derived.Laws.BitsAllLaws
import Derived.Deep.QuietTactic
import Derived.BigQuiet
import Derived.RangeFuncNested
import Derived.RangeFuncBound
import Derived.RangeFuncCalls
import Derived.RangeFuncLeaves
import Derived.RangeFuncBox
import Derived.Shelf.Abstract
import Derived.Shelf.RegionOpen
import Derived.OwnWalkIn
import Derived.TacticsInMore
import Derived.LoopNIn
import Derived.LoopIn
import Derived.OwnWalk
import Derived.Laws.OwnMore
import Derived.Laws.AppendOwnNone
namespace Go.Proofs.YteaeilghamjjkaaGreatDoor
theorem eS {α:Type} {a:Array α} {i:Nat} {v:α} (h:a[i]? =some v):i<a.size:=(Array.getElem?_eq_some_iff.1 h).1
theorem bA(w:World)(b:Obj):RowKit.Below w.heap.size w (w.alloc b):=(RowKit.Below.refl _ _).alloc (Nat.le_refl _) _
end Go.Proofs.YteaeilghamjjkaaGreatDoor
namespace Go.Proofs.YteaeilghamjjkaaGreatDoor.Mt
set_option maxRecDepth 100000
def tw:Bool→List Int→Int
 |_,[]=>0
 |true,a::r=>a*256+tw false r
 |false,a::r=>a+tw true r
def fd (n:Int):Int:=if n≤0 then 0 else(n-1) % 65535+1
def cks (zs:List Int):Int:=65535-fd (tw true zs)
def By (zs:List Int):Prop:=∀z∈zs,0≤z∧z≤255
theorem By.nil:By []:=fun _ h=>by cases h
theorem By.cons {a:Int} {r:List Int} (h:By (a::r)):(0≤a∧a≤255)∧By r:=⟨h a (by simp),fun z hz=>h z (by simp[hz])⟩
theorem By.mk {a:Int} {r:List Int} (ha:0≤a∧a≤255)(h:By r):By (a::r):=fun z hz=>by
 rcases List.mem_cons.1 hz with rfl|hz
 ·exact ha
 ·exact h z hz
theorem By.append {a b:List Int} (ha:By a)(hb:By b):By (a++b):=fun z hz=>(List.mem_append.1 hz).elim (ha z) (hb z)
theorem By.take {a:List Int} (ha:By a)(k:Nat):By (a.take k):=fun z hz=>ha z (List.mem_of_mem_take hz)
theorem By.drop {a:List Int} (ha:By a)(k:Nat):By (a.drop k):=fun z hz=>ha z (List.mem_of_mem_drop hz)
theorem By.set {a:List Int} (ha:By a)(k:Nat) {v:Int} (hv:0≤v∧v≤255):By (a.set k v):=fun z hz=>by
 rcases List.mem_or_eq_of_mem_set hz with h|rfl
 ·exact ha z h
 ·exact hv
theorem By.at {a:List Int} (ha:By a)(k:Nat):0≤a[k]?.getD 0∧a[k]?.getD 0≤255:=by
 by_cases h:k<a.length
 ·have:=ha a[k] (List.getElem_mem h)
  simpa[h]using this
 ·simp[h]
theorem fd_bd(n:Int):0≤fd n∧fd n≤65535:=by unfold fd;split<;>omega
theorem fd_low(n:Int)(h0:0≤n)(h:n≤65535):fd n=n:=by unfold fd;split<;>omega
theorem fd_step(n:Int)(h0:0≤n):fd (n/65536+n % 65536)=fd n:=by unfold fd;split<;>split<;>omega
theorem fd_good(n:Int)(h0:0≤n):fd (n+(65535-fd n))=65535:=by unfold fd;split<;>split<;>omega
theorem tw_nonneg:∀(h:Bool) (zs:List Int),By zs→0≤tw h zs
 |_,[],_=>by simp[tw]
 |true,a::r,hb=>by have:=tw_nonneg false r hb.cons.2;have:=hb.cons.1;simp only[tw];omega
 |false,a::r,hb=>by have:=tw_nonneg true r hb.cons.2;have:=hb.cons.1;simp only[tw];omega
def turn (h:Bool) (n:Nat):Bool:=if n % 2=0 then h else !h
theorem zEd(h:Bool)(n:Nat):turn (!h) n=turn h (n+1):=by
 unfold turn;by_cases h1:n % 2=0
 ·rw[if_pos h1,if_neg (by omega)]
 ·rw[if_neg h1,if_pos (by omega),Bool.not_not]
theorem tw_append:∀(h:Bool) (a b:List Int),tw h (a++b)=tw h a+tw (turn h a.length) b
 |h,[],b=>by simp[tw,turn]
 |true,x::r,b=>by
  have:=tw_append false r b;rw[show false= !true from rfl,zEd]at this;simp only[List.cons_append,tw,List.length_cons];rw[←show(!true)=false from rfl]at*;omega
 |false,x::r,b=>by
  have:=tw_append true r b;rw[show true= !false from rfl,zEd]at this;simp only[List.cons_append,tw,List.length_cons];rw[←show(!false)=true from rfl]at*;omega
theorem zOq:∀(h:Bool) (zs:List Int) (k:Nat) (v:Int),k<zs.length→tw h (zs.set k v)=tw h zs+(v-zs[k]?.getD 0)*(if turn h k then 256 else 1)
 |h,[],k,v,hk=>by simp at hk
 |true,a::r,0,v,_=>by simp[tw,turn];omega
 |false,a::r,0,v,_=>by simp[tw,turn];omega
 |true,a::r,k+1,v,hk=>by
  have:=zOq false r k v (by simpa using hk);rw[show turn false k=turn true (k+1)from zEd true k]at this;simp only[List.set_cons_succ,tw,List.getElem?_cons_succ];omega
 |false,a::r,k+1,v,hk=>by
  have:=zOq true r k v (by simpa using hk);rw[show turn true k=turn false (k+1)from zEd false k]at this;simp only[List.set_cons_succ,tw,List.getElem?_cons_succ];omega
theorem take_two(zs:List Int)(k:Nat)(h:k+1<zs.length):zs.take (k+2)=zs.take k++[zs[k]?.getD 0,zs[k+1]?.getD 0]:=by
 rw[List.take_succ_eq_append_getElem (i:=k+1) (by omega),List.take_succ_eq_append_getElem (i:=k) (by omega),List.append_assoc];simp[show k<zs.length by omega,h]
theorem take_one(zs:List Int)(k:Nat)(h:k<zs.length):zs.take (k+1)=zs.take k++[zs[k]?.getD 0]:=by
 rw[List.take_succ_eq_append_getElem (by omega)];simp[h]
theorem tw_two(zs:List Int)(k:Nat)(he:k % 2=0)(h:k+1<zs.length):tw true (zs.take (k+2))=tw true (zs.take k)+(zs[k]?.getD 0*256+zs[k+1]?.getD 0):=by
 rw[take_two zs k h,tw_append];have:(zs.take k).length=k:=by simp;omega
 rw[this];simp[turn,he,tw]
theorem tw_one(zs:List Int)(k:Nat)(he:k % 2=0)(h:k<zs.length):tw true (zs.take (k+1))=tw true (zs.take k)+zs[k]?.getD 0*256:=by
 rw[take_one zs k h,tw_append];have:(zs.take k).length=k:=by simp;omega
 rw[this];simp[turn,he,tw]
theorem cks_bd(zs:List Int):0≤cks zs∧cks zs≤65535:=by have:=fd_bd (tw true zs);unfold cks;omega
def put2 (zs:List Int) (k:Nat) (v:Int):List Int:=(zs.set k (v/256)).set (k+1) (v % 256)
theorem put2_length(zs:List Int)(k:Nat)(v:Int):(put2 zs k v).length=zs.length:=by simp[put2]
theorem By.put2 {zs:List Int} (h:By zs)(k:Nat) {v:Int} (hv:0≤v∧v≤65535):By (put2 zs k v):=(h.set k (by omega)).set (k+1) (by omega)
theorem put2_at(zs:List Int)(k:Nat)(v:Int)(h:k+1<zs.length):(put2 zs k v)[k]?.getD 0=v/256∧(put2 zs k v)[k+1]?.getD 0=v % 256:=by
 have hk:k<zs.length:=by omega
 simp[put2,h,hk]
theorem put2_other(zs:List Int)(k j:Nat)(v:Int)(h:j≠k)(h2:j≠k+1):(put2 zs k v)[j]? =zs[j]? :=by
 simp[put2,List.getElem?_set];rw[if_neg (by omega),if_neg (by omega)]
theorem tw_put2(zs:List Int)(k:Nat)(v:Int)(he:k % 2=0)(h:k+1<zs.length):tw true (put2 zs k v)=tw true zs+v-(zs[k]?.getD 0*256+zs[k+1]?.getD 0):=by
 have h1:=zOq true zs k (v/256) (by omega);have h2:=zOq true (zs.set k (v/256)) (k+1) (v % 256) (by simpa using h);have e1:turn true k=true:=by simp[turn,he]
 have e2:turn true (k+1)=false:=by simp[turn];omega
 have e3:(zs.set k (v/256))[k+1]? =zs[k+1]? :=by rw[List.getElem?_set,if_neg (by omega)]
 rw[e1]at h1;rw[e2,e3]at h2
 simp at h1 h2
 unfold put2;rw[h2,h1];omega
end Go.Proofs.YteaeilghamjjkaaGreatDoor.Mt
namespace Go.Proofs.YteaeilghamjjkaaGreatDoor
open Go.RowKit
set_option maxRecDepth 100000
theorem zAd {p:Prop} (h:p):Hid p:=h
theorem zBd {p:Prop} (h:Hid p):p:=h
def Rd (n₀:Nat) (W:World) (sv:Value) (zs:List Int):Prop:=
 (∃a cap,sv= .slice a 0 cap∧zs=[]∧cap≤9223372036854775807∧(a=none→cap=0))∨
 ∃b off cap,sv= .slice (some ⟨b,off,none⟩) zs.length cap∧zs≠ []∧zs.length≤cap∧cap≤9223372036854775807∧b<n₀∧∀j,j<zs.length→W.cell? ⟨b,off+j,none⟩=some (.int .u8 (zs[j]?.getD 0))
theorem Rd.below {n₀:Nat} {A B:World} (h:Below n₀ A B) {sv:Value} {zs:List Int} :Rd n₀ A sv zs→Rd n₀ B sv zs
 | .inl e=> .inl e
 | .inr ⟨b,off,cap,e,hne,hl,hm,hb,hc⟩=> .inr ⟨b,off,cap,e,hne,hl,hm,hb,fun j hj=>(h.cell (p:=⟨b,off+j,none⟩) hb).trans (hc j hj)⟩
theorem Rd.mono {n₀ n₁:Nat} {A:World} (h:n₀≤n₁) {sv:Value} {zs:List Int} :Rd n₀ A sv zs→Rd n₁ A sv zs
 | .inl e=> .inl e
 | .inr ⟨b,off,cap,e,hne,hl,hm,hb,hc⟩=> .inr ⟨b,off,cap,e,hne,hl,hm,Nat.lt_of_lt_of_le hb h,hc⟩
theorem Rd.slice {n₀:Nat} {A:World} {sv:Value} {zs:List Int} :Rd n₀ A sv zs→∃a cap,sv= .slice a zs.length cap∧zs.length≤cap∧cap≤9223372036854775807
 | .inl ⟨a,cap,e,hz,hm,_⟩=>⟨a,cap,by rw[e,hz];rfl,by rw[hz];exact Nat.zero_le _,hm⟩
 | .inr ⟨b,off,cap,e,_,hl,hm,_⟩=>⟨_,cap,e,hl,hm⟩
theorem Rd.take {n₀:Nat} {A:World} {a:Option Addr} {len cap:Nat} {zs:List Int} (k:Nat)(hk:k≤len)(h:Rd n₀ A (.slice a len cap) zs):Rd n₀ A (.slice a k cap) (zs.take k):=by
 rcases h with⟨a',cap',e,hz,hm,hn⟩|⟨b,off,cap',e,hne,hl,hm,hb,hc⟩
 ·cases e
  obtain rfl:k=0:=by omega
  exact .inl ⟨a,cap,rfl,by simp,hm,hn⟩
 ·cases e
  by_cases h0:k=0
  ·subst h0
   exact .inl ⟨_,cap,rfl,by simp,hm,fun h=>by cases h⟩
  ·have hlen:(zs.take k).length=k:=by simp;omega
   refine .inr ⟨b,off,cap,by rw[hlen],fun e=>by rw[e]at hlen;simp at hlen;omega,by omega,hm,hb,fun j hj=> ?_⟩;rw[hc j (by omega)];simp[show j<k by omega]
set_option maxHeartbeats 400000 in
theorem zEe(a:Option Addr)(len cap:Nat)(p n:Int)(w:World)(hl:len≤9223372036854775807)(h0:0≤p)(hn:0≤n)(h1:p+n≤len):
  Calls Tryz.prog 81 #[.slice a len cap,.int .i64 p,.int .i64 n] w fun e w'=>e= .returned (.bool true)∧w'=w:=by
 have h2:p≤(len:Int)-n:=by omega
 go_enter Tryz.func81,Tryz.ntmps81;go_wp2
 go_ret
 exact⟨rfl,rfl⟩
set_option maxHeartbeats 400000 in
theorem zFp(a:Option Addr)(len cap:Nat)(p n:Int)(w:World)(hl:len≤9223372036854775807)(hn:0≤n)(hn2:n≤100)(h1:p<0∨(len:Int)<p+n):
  Calls Tryz.prog 81 #[.slice a len cap,.int .i64 p,.int .i64 n] w fun e w'=>e= .returned (.bool false)∧w'=w:=by
 by_cases h0:0≤p
 ·have h2:¬p≤(len:Int)-n:=by omega
  clear h1;go_enter Tryz.func81,Tryz.ntmps81;go_wp2
  go_ret
  exact⟨rfl,rfl⟩
 ·clear h1
  go_enter Tryz.func81,Tryz.ntmps81;go_wp2
  go_ret
  exact⟨rfl,rfl⟩
theorem and_low(k:Int)(h0:0≤k)(h1:k≤9223372036854775807):bits .and .u64 k 65535=k % 65536:=by
 rw[u64_and k 65535 h0 (by omega) (by omega) (by omega)];have:k.toNat &&& (65535:Int).toNat=k.toNat % 65536:=Nat.and_two_pow_sub_one_eq_mod k.toNat 16;omega
theorem zSe(k:Int)(h0:0≤k)(h1:k≤9223372036854775807):IntKind.u64.wrap (k/65536+bits .and .u64 k 65535)=k/65536+k % 65536:=by
 rw[and_low k h0 h1];simp[IntKind.wrap,IntKind.bits,IntKind.signed]
 omega
theorem or_join(x y:Int)(hx:0≤x∧x≤255)(hy:0≤y∧y≤255):bits .or .u16 (x*256) y=x*256+y:=by
 rw[u16_or _ _ (by omega) (by omega) (by omega) (by omega)];have:=nat_join 8 (x*256).toNat y.toNat (by omega) (by omega);omega
theorem zL1 {k:IntKind} {a b:Int} (h:a=b):Ending.returned (.int k a)= .returned (.int k b):=by rw[h]
set_option maxHeartbeats 400000 in
theorem fold_any(n:Int)(w:World)(h0:0≤n)(h1:n≤9223372036854775807):
  Calls Tryz.prog 123 #[.int .u64 n] w fun e w'=>e= .returned (.int .u16 (Mt.fd n))∧w'=w:=by
 go_enter Tryz.func123,Tryz.ntmps123;go_wp2
 go_loop [0] (fun t=>∃k:Int,0≤k∧k≤n∧Hid (Mt.fd k=Mt.fd n)∧t= .int .u64 k) (fun t=>(intOf t).toNat)
 case atStart=>exact⟨n,h0,by omega,rfl,rfl⟩
 case round=>
  obtain⟨k,hk0,hk1,hfd,rfl⟩:=hrel;by_cases hlt:65535<k
  ·go_wp2
   rw[zSe k hk0 (by omega)];exact⟨⟨_,by omega,by omega,(Mt.fd_step k hk0).trans hfd.out,rfl⟩,by simp[intOf];omega⟩
  ·go_wp2
   go_ret
   exact⟨zL1 ((Mt.fd_low k hk0 (by omega)).symm.trans hfd.out),rfl⟩
def ahd (a b:Int):Int:=if 2147483648≤(a-b) % 4294967296 then(a-b) % 4294967296-4294967296 else(a-b) % 4294967296
theorem ahd_eq(a b:Int):wrap64 (wrap32 ((a-b) % 4294967296))=ahd a b:=by
 unfold wrap64 wrap32 ahd;split<;>omega
set_option maxHeartbeats 400000 in
theorem zJ7(a b:Int)(w:World):
  Calls Tryz.prog 392 #[.int .u32 a,.int .u32 b] w fun e w'=>e= .returned (.int .i64 (ahd a b))∧w'=w:=by
 go_enter Tryz.func392,Tryz.ntmps392;go_wp2
 go_ret
 exact⟨zL1 (ahd_eq a b),rfl⟩
set_option maxHeartbeats 400000 in
theorem zJ8(b off len cap:Nat)(x y:Int)(p:Nat)(w:World)(hl:len≤9223372036854775807)(h1:p+1<len)(hx:0≤x∧x≤255)(hy:0≤y∧y≤255)
  (hc0:w.cell? ⟨b,off+p,none⟩=some (.int .u8 x))(hc1:w.cell? ⟨b,off+(p+1),none⟩=some (.int .u8 y)):
  Calls Tryz.prog 39 #[.slice (some ⟨b,off,none⟩) len cap,.int .i64 p] w fun e w'=>e= .returned (.int .u16 (x*256+y))∧∃n,w'=w.drewN n:=by
 go_enter Tryz.func39,Tryz.ntmps39;go_wp2_with (go_at_call 81;refine(zEe _ _ _ _ _ _ hl (by omega) (by omega) (by omega)).mono ?_;rintro e w' ⟨rfl,rfl⟩)
 have hi1:(p:Int)<len:=by omega
 have hi2:(p:Int)+1<len:=by omega
 go_quiet (fail)
 go_wp2
 rw[or_join x y hx hy];go_ret
 exact⟨rfl,nq,rfl⟩
open Go.RowKit Go.Shelf
attribute [local go_sem] Oper.semAt_some
abbrev U16:= { x:Int//0≤x∧x≤65535 }
def wat (zs:List Int) (k:Nat):Int:=zs[k]?.getD 0*256+zs[k+1]?.getD 0
theorem zCp {zs:List Int} (h:Mt.By zs)(k:Nat):0≤wat zs k∧wat zs k≤65535:=by
 have:=h.at k;have:=h.at (k+1);unfold wat;omega
def wd (zs:List Int) (h:Mt.By zs) (k:Nat):U16:=⟨wat zs (2*k),zCp h _⟩
def wds (zs:List Int) (h:Mt.By zs) (k:Nat):List U16:=(List.range k).map (wd zs h)
theorem zEf(zs:List Int)(h:Mt.By zs)(k:Nat):wds zs h (k+1)=wds zs h k++[wd zs h k]:=by simp[wds,List.range_succ]
theorem zE0(zs:List Int)(h:Mt.By zs)(k:Nat):(wds zs h k).length=k:=by simp[wds]
def sm (l:List U16):Int:=(l.map (·.1)).sum
theorem zSf(l:List U16)(x:U16):sm (l++[x])=sm l+x.1:=by simp[sm]
theorem sm_bd:∀l:List U16,0≤sm l∧sm l≤65535*l.length
 | []=>by simp[sm]
 |x::r=>by have:=sm_bd r;have:=x.2;simp[sm]at*;omega
theorem sm_wds(zs:List Int)(h:Mt.By zs):∀k,2*k≤zs.length+1→sm (wds zs h k)=Mt.tw true (zs.take (2*k))
 |0,_=>by simp[wds,sm,Mt.tw]
 | k+1,hk=>by
  rw[zEf,zSf,sm_wds zs h k (by omega)];by_cases hl:2*k+1<zs.length
  ·rw[show 2*(k+1)=2*k+2 from by omega,Mt.tw_two zs (2*k) (by omega) hl]
   rfl
  ·have e1:zs.take (2*(k+1))=zs.take (2*k+1):=by
    rw[List.take_of_length_le (by omega),List.take_of_length_le (by omega)]
   rw[e1,Mt.tw_one zs (2*k) (by omega) (by omega)];simp[wd,wat,show ¬2*k+1<zs.length from hl]
theorem sm_all(zs:List Int)(h:Mt.By zs):sm (wds zs h ((zs.length+1)/2))=Mt.tw true zs:=by
 rw[sm_wds zs h _ (by omega),List.take_of_length_le (by omega)]
def KB (n₀ Bs:Nat) (W W':World):Prop:=Below n₀ W W'∧W'.heap[Bs]? =W.heap[Bs]?
theorem KB.refl(n₀ Bs:Nat)(W:World):KB n₀ Bs W W:=⟨Below.refl _ _,rfl⟩
theorem KB.trans {n₀ Bs:Nat} {A B C:World} (h:KB n₀ Bs A B)(k:KB n₀ Bs B C):KB n₀ Bs A C:=⟨h.1.trans k.1,k.2.trans h.2⟩
theorem KB.drewN {n₀ Bs:Nat} {A B:World} (h:KB n₀ Bs A B)(q:Nat):KB n₀ Bs A (B.drewN q):=⟨h.1.trans ⟨rfl,rfl,rfl,Nat.le_refl _,fun _ _=>rfl⟩,h.2⟩
theorem KB.box {n₀ Bs:Nat} {A B:World} (h:KB n₀ Bs A B) {o:Nat} :B.cell? ⟨Bs,o,none⟩=A.cell? ⟨Bs,o,none⟩:=World.cell?_of_block (w:=A) h.2
theorem zIo(W:World)(q:Nat):W.grownBy (W.drewN q) none:=⟨rfl,rfl,rfl,Nat.le_refl _,fun _ _ _=>rfl⟩
set_option maxRecDepth 100000 in
set_option maxHeartbeats 2000000 in
theorem zSg(n:Nat)(hn:1≤n)(l Bs n₀ b off cap:Nat)(zs:List Int)(hB:Mt.By zs)(hreach:zs.length≤9223372036854775806)(hb:b<n₀)(J Jx:List U16→World→Prop)
  (hJ:∀s (W:World) q,J s W→J s (W.drewN q))
  (hY:∀pre (x:U16) W,J pre W→pre.length<(zs.length+1)/2→YieldAt Fence.wide (n-1) Tryz.prog l #[.int .u16 x.1] W fun e W'=>
   (e= .returned (.bool true)∧J (pre++[x]) W'∧KB n₀ Bs W W')∨(e= .returned (.bool false)∧Jx (pre++[x]) W'))
  (W:World)(hBs:W.cell? ⟨Bs,0,none⟩=some (.slice (some ⟨b,off,none⟩) zs.length cap))(hc:∀j,j<zs.length→W.cell? ⟨b,off+j,none⟩=some (.int .u8 (zs[j]?.getD 0)))(h0:J [] W):
  CallsIn Fence.wide n Tryz.prog 176 #[.func (.yield l) #[] #[],.pointer (some ⟨Bs,0,none⟩)] W fun e W'=>(∃v,e= .returned v)∧
   ((∃ys,ys=wds zs hB ((zs.length+1)/2)∧J ys W')∨(∃pre,(∃k,k≤(zs.length+1)/2∧pre=wds zs hB k)∧Jx pre W')):=by
 refine callsIn_of_wp Tryz.func176 rfl trivial ?_ rfl;simp only[Tryz.ntmps176,List.size_toArray,List.length_cons,List.length_nil,Nat.reduceAdd,Nat.reduceSub,Array.replicate_succ,Array.replicate_zero,List.push_toArray,List.append_toArray,List.nil_append,List.cons_append];gi_wp2
 gi_loopw [3] (fun i wr=>∃k:Nat,2*k≤zs.length∧i= .int .i64 ((2*k:Nat):Int)∧J (wds zs hB k) wr∧KB n₀ Bs W wr)
  (fun i _=>zs.length-(intOf i).toNat)
 case atStart=>exact⟨0,by omega,rfl,h0,KB.refl _ _ _⟩
 case round=>
  obtain⟨k,hk,rfl,hJs,hnx⟩:=hrel;have hbx:wr.cell? ⟨Bs,0,none⟩=some (.slice (some ⟨b,off,none⟩) zs.length cap):=hnx.box.trans hBs;have hcx:∀j,j<zs.length→wr.cell? ⟨b,off+j,none⟩=some (.int .u8 (zs[j]?.getD 0)):=fun j h=>(hnx.1.cell (p:=⟨b,off+j,none⟩) hb).trans (hc j h);by_cases hlt:2*k+1<zs.length
  ·have c0:=hcx (2*k) (by omega)
   have c1:=hcx (2*k+1) (by omega);have b0:=hB.at (2*k);have b1:=hB.at (2*k+1);have HW:Hid (wat zs (2*k)=zs[2*k]?.getD 0*256+zs[2*k+1]?.getD 0):=rfl;have hlt':((2*k:Nat):Int)+1<zs.length:=by omega
   generalize zs[2*k]?.getD 0=x at c0 b0 HW;generalize zs[2*k+1]?.getD 0=y at c1 b1 HW;have hxy:0≤x*256+y∧x*256+y≤65535:=by omega
   have HE:Hid (wd zs hB k=⟨x*256+y,hxy⟩):=Subtype.ext HW.out;clear hcx HW;gi_wp2_with (refine⟨trivial,?_⟩;gi_at_call 39;refine(callsIn_wide.2 (zJ8 b off zs.length cap x y (2*k) _ (by omega) hlt b0 b1 c0 c1)).mono ?_;rintro e w' ⟨rfl,q,rfl⟩;obtain⟨fn,tmps,assign,body,hy,hR⟩:=hY _ ⟨x*256+y,hxy⟩ (wr.drewN q) (hJ _ _ q hJs) (by rw[zE0];omega);dsimp only at hy)
   refine hR.mono ?_;rintro e W3 (⟨rfl,hJ3,hk3⟩|⟨rfl,hJx3⟩)
   ·gi_wp2
    go_roundw
    case rel=>exact⟨k+1,by omega,by go_num,by rw[zEf,HE.out];exact hJ3,(hnx.drewN q).trans hk3⟩
    case measure=>simp[intOf];omega
   ·gi_wp2
    refine bodyPost_ret (results_none rfl _ _ _) rfl ?_;exact⟨⟨_,rfl⟩,.inr ⟨_,⟨k+1,by omega,by rw[zEf,HE.out]⟩,hJx3⟩⟩
  ·by_cases hodd:zs.length=2*k+1
   ·have c0:=hcx (2*k) (by omega)
    have b0:=hB.at (2*k);have hz:zs[2*k+1]?.getD 0=0:=by simp[show ¬2*k+1<zs.length from hlt]
    have HW:Hid (wat zs (2*k)=zs[2*k]?.getD 0*256):=by unfold wat;rw[hz];exact Int.add_zero _
    clear hcx hz;generalize zs[2*k]?.getD 0=x at c0 b0 HW;have hxy:0≤x*256∧x*256≤65535:=by omega
    have HE:Hid (wd zs hB k=⟨x*256,hxy⟩):=Subtype.ext HW.out;have HL:Hid ((zs.length+1)/2=k+1):=by show _=_;omega
    obtain⟨fn,tmps,assign,body,hy,hR⟩:=hY _ ⟨x*256,hxy⟩ wr hJs (by rw[zE0];omega);dsimp only at hy
    gi_wp2
    refine hR.mono ?_;rintro e W3 (⟨rfl,hJ3,hk3⟩|⟨rfl,hJx3⟩)
    ·gi_wp2
     go_end0
     exact⟨⟨_,rfl⟩,.inl ⟨_,by rw[HL.out,zEf,HE.out],hJ3⟩⟩
    ·gi_wp2
     go_end0
     exact⟨⟨_,rfl⟩,.inr ⟨_,⟨k+1,by omega,by rw[zEf,HE.out]⟩,hJx3⟩⟩
   ·have he:(zs.length+1)/2=k:=by omega
    gi_wp2
    go_end0
    exact⟨⟨_,rfl⟩,.inl ⟨_,by rw[he],hJs⟩⟩
set_option maxHeartbeats 1000000 in
theorem zQh(n:Nat)(l Bs:Nat)(a:Option Addr)(cap:Nat)(J:List U16→World→Prop)(W:World)(hBs:W.cell? ⟨Bs,0,none⟩=some (.slice a 0 cap))(h0:J [] W):
  CallsIn Fence.wide n Tryz.prog 176 #[.func (.yield l) #[] #[],.pointer (some ⟨Bs,0,none⟩)] W fun e W'=>(∃v,e= .returned v)∧J [] W':=by
 refine callsIn_of_wp Tryz.func176 rfl trivial ?_ rfl;simp only[Tryz.ntmps176,List.size_toArray,List.length_cons,List.length_nil,Nat.reduceAdd,Nat.reduceSub,Array.replicate_succ,Array.replicate_zero,List.push_toArray,List.append_toArray,List.nil_append,List.cons_append];gi_wp2
 gi_loopw [3] (fun i wr=>i= .int .i64 0∧J [] wr∧wr.cell? ⟨Bs,0,none⟩=some (.slice a 0 cap)) (fun _ _=>0)
 case atStart=>exact⟨rfl,h0,hBs⟩
 case round=>
  obtain⟨rfl,hJs,hbx⟩:=hrel;gi_wp2
  go_end0
  exact⟨⟨_,rfl⟩,hJs⟩
theorem words_in(n:Nat)(a:Option Addr)(len cap:Nat)(w:World):
  CallsIn Fence.wide n Tryz.prog 122 #[.slice a len cap] w fun e w'=>e= .returned (.func (.func 176) #[] #[.pointer (some ⟨w.heap.size,0,none⟩)])∧w'=w.alloc (.cells #[.slice a len cap] 26):=by
 refine callsIn_of_wp Tryz.func122 rfl trivial ?_ rfl;simp only[Tryz.ntmps122,List.size_toArray,List.length_cons,List.length_nil,Nat.reduceAdd,Nat.reduceSub,Array.replicate_succ,Array.replicate_zero,List.push_toArray,List.append_toArray,List.nil_append,List.cons_append];gi_wp2
 go_ret
 exact⟨rfl,rfl⟩
theorem zL2(n:Nat)(hn:1≤n)(Bs n₀:Nat)(sv:Value)(zs:List Int)(hB:Mt.By zs)(hreach:zs.length≤9223372036854775806)(w:World)(hBs:Bs<w.heap.size)(hn₀:n₀≤w.heap.size)
  (hc:w.cell? ⟨Bs,0,none⟩=some sv)(hI:Rd n₀ w sv zs):
  SeqStopsK Fence.wide n Tryz.prog 176 #[.pointer (some ⟨Bs,0,none⟩)] (fun x:U16=>#[Value.int .u16 x.1]) (KB n₀ Bs) (fun ys=>ys=wds zs hB ((zs.length+1)/2)) (fun _=>True) ((zs.length+1)/2) w:=fun l J Jx W hW hJ _ hY h0=>by
 have hc':=(hW.cell (p:=⟨Bs,0,none⟩) hBs).trans hc;rcases hI.below (hW.mono hn₀)with⟨a,cap,rfl,rfl,_,_⟩|⟨b,off,cap,rfl,_,hl,hm,hb,hcs⟩
 ·exact (zQh n l Bs a cap J W hc' h0).mono fun e W' ⟨he,hj⟩=>⟨he,.inl ⟨_,rfl,hj⟩⟩
 ·refine (zSg n hn l Bs n₀ b off cap zs hB hreach hb J Jx (fun s X q hs=>hJ s X _ none hs (zIo X q) (fun r e=>by cases e)) hY W hc' hcs h0).mono ?_
  rintro e W' ⟨he,⟨ys,rfl,hj⟩|⟨pre,⟨k,hk,rfl⟩,hj⟩⟩
  ·exact ⟨he,.inl ⟨_,rfl,hj⟩⟩
  ·exact ⟨he,.inr ⟨_,trivial,hj⟩⟩
attribute [local go_sem] Oper.semAt_some
theorem kb_b {w:World} {n₀ Bs:Nat} (hn:n₀≤w.heap.size)(hB:Bs<w.heap.size)(W:World)(l:Nat)(o o':Obj)(hl:w.heap.size≤l)(ho:W.heap[l]? =some o)(hc:o.isCells=false)(hw:o.isWalk=false):KB n₀ Bs W (W.putObj l o'):=
 ⟨belowK_b hn W l o o' hl ho hc hw,(grownBy_putObj' W l o').block Bs (by have:=(eS ho);omega) (by intro e;cases e;omega)⟩
theorem zSh(x:Nat)(h:x<65536):65535^^^x=65535-x:=by
 have h1:=BitVec.toNat_not (x:=BitVec.ofNat 16 x);rw[BitVec.not_def,BitVec.toNat_xor]at h1
 simp at h1
 rw[Nat.mod_eq_of_lt h]at h1;exact h1
theorem not16(x:Int)(h0:0≤x)(h1:x≤65535):bits .xor .u16 IntKind.u16.max x=65535-x:=by
 rw[show IntKind.u16.max=65535 from rfl,u16_xor 65535 x (by omega) (by omega) h0 (by omega)];have:=zSh x.toNat (by omega);rw[show (65535:Int).toNat=65535 from rfl,this];omega
set_option maxRecDepth 100000 in
set_option maxHeartbeats 2000000 in
theorem zD4(sv:Value)(zs:List Int)(hB:Mt.By zs)(hreach:zs.length≤140737488355328)(w:World)(hI:Rd w.heap.size w sv zs):
  Calls Tryz.prog 63 #[sv] w fun e W'=>e= .returned (.int .u16 (Mt.cks zs))∧Below w.heap.size w W':=by
 obtain⟨a,cap,rfl,_⟩:=hI.slice;generalize hlen:zs.length=len at hI;clear hlen;refine(callsIn_wide (n:=5)).1 ?_;refine callsIn_of_wp_marks Tryz.func63 rfl trivial ?_ rfl;simp only[Tryz.ntmps63,List.size_toArray,List.length_cons,List.length_nil,Nat.reduceAdd,Nat.reduceSub,Array.replicate_succ,Array.replicate_zero,List.push_toArray,List.append_toArray,List.nil_append,List.cons_append];gi_wp2_with (refine⟨trivial,?_⟩;gi_at_call 122;refine(words_in _ _ _ _ _).mono ?_;rintro e w' ⟨rfl,rfl⟩)
 have bS:=Boxed.new w 251 (.int .u64 0);have bN:=Boxed.new (w.alloc (.cells #[.int .u64 0] 251)) 26 (.slice a len cap);rw[World.size_alloc]at bN;have hB0:Below w.heap.size w ((w.alloc (.cells #[.int .u64 0] 251)).alloc (.cells #[.slice a len cap] 26)):=((Below.refl _ w).alloc (Nat.le_refl _) _).alloc (by simp) _
 refine wpIn_rangeFunc_ownG rfl (by omega) (gf:=176) (lb:=#[.pointer (some ⟨w.heap.size+1,0,none⟩)]) rfl trivial (enters_of Tryz.func176 (by kernel_rfl) rfl)
  (zL2 4 (by omega) (w.heap.size+1) w.heap.size _ zs hB (by omega) _ (by simp) (by simp;omega) bN.cell (hI.below hB0)) KB.trans (kb_b (by simp;omega) (by simp)) (Below.refl _ _) (fun _=>rfl)
  (fun pre W=>(W.cell? ⟨w.heap.size,0,none⟩=some (.int .u64 (sm pre))∧W.frozen? ⟨w.heap.size,0,none⟩=false)∧Below w.heap.size w W)
  (fun _ _ _=>False)
  (OwnFrom.and (Own.from (fun s A B row hs hg hr=>⟨cell_kept hs.1 hg hr,(frozen_kept hs.1 hg hr).trans hs.2⟩) _) (ownFrom_below (Nat.le_refl _) (by simp;omega)))
  (fun _ _ _ _ _ hs _ _=>hs)
  ⟨⟨(bS.alloc _).cell,(bS.alloc _).frozen⟩,hB0⟩
  (fun x=> { tmps:=#[.slice a len cap,undef,.int .u16 0,.pointer (some ⟨w.heap.size,0,none⟩),.int .u16 x.1,.slice a len cap,.func (.func 176) #[] #[.pointer (some ⟨w.heap.size+1,0,none⟩)],.int .u16 x.1,undef,undef,undef,undef,undef,undef,undef],defers:=[] }) ?assign ?body ?done ?stop
 case assign=>
  intro l x W K hK
  gi_wp2
  exact hK
 case body=>
  rintro l pre x W ⟨⟨hc,hf⟩,hB⟩ hlt;have hs:=sm_bd pre;have hx:=x.2;have hlt2:pre.length≤70368744177664:=by omega
  obtain⟨x,hx'⟩:=x;have HS:Hid (sm (pre++[⟨x,hx'⟩])=sm pre+x):=zSf pre ⟨x,hx'⟩;dsimp only at hx
  generalize sm pre=t at*;gi_wp2
  exact⟨(KeepsOthers.setCell _ _ _).from _,⟨(Below.refl w.heap.size W).setCell (p:=⟨w.heap.size,0,none⟩) (Nat.le_refl _) _,Below.heap_setCell _ _ _ _ (by simp)⟩,⟨by rw[HS.out];exact World.cell?_setCell_same' _ _ _ (by rw[hc];rfl),by rw[World.frozen?_setCell];exact hf⟩,hB.setCell (p:=⟨w.heap.size,0,none⟩) (Nat.le_refl _) _⟩
 case done=>
  rintro D ys W hD rfl ⟨⟨hc,_⟩,hBe⟩ hK;have hs:=sm_bd (wds zs hB ((zs.length+1)/2));rw[zE0]at hs;rw[sm_all]at hc hs;have HC:Hid (Mt.cks zs=65535-Mt.fd (Mt.tw true zs)):=rfl;have hf:=Mt.fd_bd (Mt.tw true zs);generalize Mt.tw true zs=t at*;gi_wp2_with (refine⟨trivial,?_⟩;gi_at_call 123;refine(callsIn_wide.2 (fold_any t _ hs.1 (by omega))).mono ?_;rintro e w' ⟨rfl,rfl⟩)
  rw[not16 _ hf.1 hf.2,←HC.out];refine⟨by simp,.inl ⟨_,_,rfl,run_takeDeferred hK,?_⟩⟩;exact⟨_,results_tmp rfl _ _ _,rfl,hBe.trans (belowK_b (w:=w) (Nat.le_refl _) _ D _ _ (by simp at hD;omega) hK rfl rfl)⟩
 case stop=>
  rintro D c pre W _ _ h _;exact h.elim
theorem zAk {B:Nat} {a w:World} (h:Below B a w)(q:Nat):Below B a (w.drewN q):=h.trans ⟨rfl,rfl,rfl,Nat.le_refl _,fun _ _=>rfl⟩
theorem zDp(w:World)(arr:Array Value)(e:TypeId)(j:Nat):(w.alloc (.cells arr e)).cell? ⟨w.heap.size,j,none⟩=arr[j]? :=by
 simp only[World.cell?,World.alloc_heap_new];rfl
theorem Rd.new(xs:List Int)(e:TypeId)(w:World)(hne:xs≠ [])(hm:xs.length≤9223372036854775807):Rd (w.heap.size+1) (w.alloc (.cells (xs.map (Value.int .u8)).toArray e)) (.slice (some ⟨w.heap.size,0,none⟩) xs.length xs.length) xs:=by
 refine .inr ⟨w.heap.size,0,xs.length,rfl,hne,Nat.le_refl _,hm,by omega,fun j hj=> ?_⟩;rw[zDp];simp[hj]
theorem zBt:(Tryz.prog.info? 5).map (fun i=>(i.zero,i.size,i.bytes))=some (some (.int .u8 0),1,1):=by kernel_rfl
set_option maxHeartbeats 1000000 in
theorem zEg(sv:Value)(zs:List Int)(hB:Mt.By zs)(hl:zs.length≤140737488355328)(w:World)(hI:Rd w.heap.size w sv zs):
  Calls Tryz.prog 132 #[sv] w fun e w'=>e= .returned (.bool (Mt.cks zs==0))∧Below w.heap.size w w':=by
 obtain⟨a,cap,rfl,_⟩:=hI.slice;go_enter Tryz.func132,Tryz.ntmps132;go_wp2_with fail;refine(zD4 _ zs hB hl w hI).mono ?_;rintro e w1 ⟨rfl,hb1⟩;go_wp2
 go_ret
 exact⟨rfl,hb1⟩
def Ow (base:Nat) (W:World) (sv:Value) (zs:List Int):Prop:=
 (sv= .slice none 0 0∧zs=[])∨
 ∃g cap cur,sv= .slice (some ⟨g,0,none⟩) zs.length cap∧base≤g∧zs.length≤cap∧cap≤cur.size∧cap≤9223372036854775807∧W.heap[g]? =some (.cells cur 5 (0,0))∧cur.toList.take zs.length=zs.map (Value.int .u8)
theorem cur_at {cur:Array Value} {zs:List Int} (h:cur.toList.take zs.length=zs.map (Value.int .u8))(j:Nat)(hj:j<zs.length):cur[j]? =some (.int .u8 (zs[j]?.getD 0)):=by
 have h1:(cur.toList.take zs.length)[j]? =some (.int .u8 (zs[j]?.getD 0)):=by rw[h];simp[hj]
 rw[List.getElem?_take,if_pos hj]at h1;simpa using h1
theorem zAa {W:World} {g:Nat} {cur:Array Value} {e:TypeId} (h:W.heap[g]? =some (.cells cur e (0,0)))(j:Nat):W.cell? ⟨g,j,none⟩=cur[j]? :=by
 simp only[World.cell?,h];rfl
theorem zAc {W:World} {g:Nat} {cur:Array Value} {e:TypeId} (h:W.heap[g]? =some (.cells cur e (0,0)))(j:Nat):W.frozen? ⟨g,j,none⟩=false:=by
 simp[World.frozen?,h]
theorem Ow.rd {base:Nat} {W:World} {sv:Value} {zs:List Int} :Ow base W sv zs→Rd W.heap.size W sv zs
 | .inl ⟨e,hz⟩=> .inl ⟨none,0,e,hz,by omega,fun _=>rfl⟩
 | .inr ⟨g,cap,cur,e,hb,hl,hs,hm,hh,hc⟩=>by
  have hg:=(eS hh);by_cases h0:zs=[]
  ·subst h0
   exact .inl ⟨_,cap,e,rfl,hm,fun h=>by cases h⟩
  ·refine .inr ⟨g,0,cap,e,h0,hl,hm,hg,fun j hj=> ?_⟩
   rw[Nat.zero_add,zAa hh];exact cur_at hc j hj
theorem Ow.below {base n:Nat} {W W':World} {sv:Value} {zs:List Int} (h:Ow base W sv zs)(hb:Below n W W')(hn:W.heap.size≤n):Ow base W' sv zs:=by
 rcases h with e|⟨g,cap,cur,e,hg,hl,hs,hm,hh,hc⟩
 ·exact .inl e
 ·exact .inr ⟨g,cap,cur,e,hg,hl,hs,hm,(hb.block g (Nat.lt_of_lt_of_le (eS hh) hn)).trans hh,hc⟩
theorem Ow.mono {base base':Nat} {W:World} {sv:Value} {zs:List Int} (h:Ow base W sv zs)(hb:base'≤base):Ow base' W sv zs:=by
 rcases h with e|⟨g,cap,cur,e,hg,r⟩
 ·exact .inl e
 ·exact .inr ⟨g,cap,cur,e,Nat.le_trans hb hg,r⟩
theorem Ow.of_row {base n:Nat} {W:World} {v:Value} {zs:List Int} (h:W.ownsRow base 5 1 v n (zs.map (Value.int .u8))):Ow base W v zs:=by
 obtain⟨hlen,h2⟩:=h;obtain rfl:zs.length=n:=by simpa using hlen
 rcases h2 with⟨e,h0⟩|⟨g,cap,cur,e,hg,hh,hl,hm,hs,hc⟩
 ·exact .inl ⟨e,by simpa using h0⟩
 ·exact .inr ⟨g,cap,cur,e,hg,hl,by omega,by simpa[maxLen]using hm,hh,by simpa using hc⟩
theorem Ow.slice {base:Nat} {W:World} {sv:Value} {zs:List Int} (h:Ow base W sv zs):∃a cap,sv= .slice a zs.length cap∧zs.length≤cap∧cap≤9223372036854775807:=h.rd.slice
theorem Ow.at {base:Nat} {W:World} {a:Option Addr} {len cap:Nat} {zs:List Int} (h:Ow base W (.slice a len cap) zs)(hne:0<zs.length):∃g,a=some ⟨g,0,none⟩∧len=zs.length∧base≤g∧(∀j,j<zs.length→W.cell? ⟨g,j,none⟩=some (.int .u8 (zs[j]?.getD 0))∧W.frozen? ⟨g,j,none⟩=false)∧
  ∀j v,j<zs.length→Ow base (W.setCell ⟨g,j,none⟩ (.int .u8 v)) (.slice a len cap) (zs.set j v):=by
 rcases h with⟨e,hz⟩|⟨g,cap',cur,e,hg,hl,hs,hm,hh,hc⟩
 ·subst hz;simp at hne
 ·cases e
  refine⟨g,rfl,rfl,hg,fun j hj=>⟨by rw[zAa hh];exact cur_at hc j hj,zAc hh j⟩,fun j v hj=> .inr ⟨g,cap,cur.set! j (.int .u8 v),by simp,hg,by simpa using hl,by simpa using hs,hm,?_,?_⟩⟩
  ·obtain ⟨hlt,hk⟩:=Array.getElem?_eq_some_iff.1 hh
   show(W.heap.modify g _)[g]? =_
   rw[Array.getElem?_eq_getElem (by rw[Array.size_modify];exact hlt),Array.getElem_modify_self,hk];simp
  ·simp only[Array.set!_eq_setIfInBounds,Array.toList_setIfInBounds,List.length_set,List.take_set,hc,List.map_set]
theorem Ow.cut {base:Nat} {W:World} {a:Option Addr} {len cap:Nat} {zs:List Int} (h:Ow base W (.slice a len cap) zs):Ow base W (.slice a len len) zs:=by
 rcases h with⟨e,hz⟩|⟨g,cap',cur,e,hg,hl,hs,hm,hh,hc⟩
 ·cases e
  exact .inl ⟨rfl,hz⟩
 ·cases e
  exact .inr ⟨g,zs.length,cur,rfl,hg,Nat.le_refl _,Nat.le_trans hl hs,Nat.le_trans hl hm,hh,hc⟩
section
variable {P:Program}
theorem zE1 {ops:Array Oper} {rest:List Oper} {o:Oper} {a:Act} {Q:Exit→Act→World→Prop} (w:World)(hgd:o.guard=none)(s x:Operand)(t:TypeId)
  (ho:o.op= .call { callee:= .builtin .append,args:=#[s,x],argTypes:=#[t,t] })
  (base:Nat)(e:TypeId)(i:TypeInfo)(ht:P.underlying t=some (.slice e))(hi:P.info? e=some i)(hz:i.zero=some (.int .u8 0))(hsize:i.size=1)(hby:i.bytes=1)
  (v:Value)(ys:List Int)(hs:a.eval s=v)(hown:w.ownsRow base e 1 v ys.length (ys.map (Value.int .u8)))
  (n₀:Nat)(sx:Value)(zs:List Int)(hx:a.eval x=sx)(hI:Rd n₀ w sx zs)(hbd:ys.length+zs.length≤140737488355328)(hbase:base≤w.heap.size)
  (h:∀v' w',w'.ownsRow base e 1 v' (ys++zs).length ((ys++zs).map (Value.int .u8))→w.grownBy w' v.ownBlock→wpList P ops Q rest (a.put o.dst v') w'):wpList P ops Q (o::rest) a w:=by
 rcases hI with⟨ao,cap,rfl,rfl,hm,hn⟩|⟨b,off,cap,rfl,hne,hl,hm,hb,hc⟩
 ·cases ao with
  |none=>
   obtain rfl:=hn rfl;refine wpList_append_own_none hgd s x t ho base e i 1 ht hi v _ _ hs hown hx (h v w (by simpa using hown) ⟨rfl,rfl,rfl,Nat.le_refl _,fun _ _ _=>rfl⟩)
  |some ad=>
   refine wpList_append_own w hgd s x t ho base e i (.int .u8 0) 1 1 ht hi hz hsize hby rfl (by decide) v _ _ hs hown ad 0 cap [] hx rfl (fun j u hj=>by simp at hj) (fun u hu=>by simp at hu) (by unfold maxLen;omega) (by omega) hbase ?_;intro v' w' hown' hg _
   exact h v' w' (by simpa using hown') hg
 ·refine wpList_append_own w hgd s x t ho base e i (.int .u8 0) 1 1 ht hi hz hsize hby rfl (by decide) v _ _ hs hown ⟨b,off,none⟩ zs.length cap (zs.map (Value.int .u8)) hx (by simp) ?_ ?_ (by unfold maxLen;omega) (by omega) hbase ?_
  ·intro j u hj
   have hj':j<zs.length:=by have:=(List.getElem?_eq_some_iff.1 hj).1;simpa using this
   rw[show (⟨b,off,none⟩:Addr).add j=⟨b,off+j,none⟩from by unfold Addr.add;split<;>simp_all,hc j hj',←hj];simp[hj']
  ·intro u hu
   obtain⟨z,_,rfl⟩:=List.mem_map.1 hu;rfl
  ·intro v' w' hown' hg _
   exact h v' w' (by simpa using hown') hg
end
theorem zEh {B base n size:Nat} {e:TypeId} {a W W':World} {v:Value} {xs:List Value} (hb:Below B a W)(ho:W.ownsRow base e size v n xs)(hg:W.grownBy W' v.ownBlock)(h1:B≤base)(h2:B≤W.heap.size):Below B a W':=
 hb.grown hg h2 (fun k e=>Nat.le_trans h1 (ho.lt k e).1)
theorem own_made {W:World} {base n:Nat} {e:TypeId} {v:Value} (h:W.ownsRow base e 1 v n (madeCells (Value.int .u8 0).cells (n*1)).toList):W.ownsRow base e 1 v (List.replicate n (0:Int)).length ((List.replicate n (0:Int)).map (Value.int .u8)):=by
 rw[show (Value.int .u8 0).cells=#[Value.int .u8 0]from rfl,toList_madeCells_one,Nat.mul_one]at h;rw[List.length_replicate,List.map_replicate];exact h
theorem zJ9(w:World)(e:TypeId):(w.alloc (.cells #[] e)).ownsRow w.heap.size e 1 (.slice (some ⟨w.heap.size,0,none⟩) 0 0) ([]:List Int).length (([]:List Int).map (Value.int .u8)):=
 World.ownsRow_made w #[] 0 (Nat.le_refl _) (by simp) rfl
set_option maxHeartbeats 1000000 in
theorem zEi(sv:Value)(zs:List Int)(w:World)(hl:zs.length≤140737488355328)(hI:Rd w.heap.size w sv zs):
  Calls Tryz.prog 120 #[sv] w fun e w'=>∃a,e= .returned (.slice a zs.length zs.length)∧Ow w.heap.size w' (.slice a zs.length zs.length) zs∧Below w.heap.size w w':=by
 obtain⟨i0,hi,hz0,hz1,hz2⟩:=info_parts zBt;obtain⟨a,cap,rfl,hl1,hm⟩:=hI.slice;go_enter Tryz.func120,Tryz.ntmps120;go_wp2_with (at_builtin;refine zE1 _ rfl _ _ 26 rfl w.heap.size 5 i0 Tryz.underlying26 hi hz0 hz1 hz2 _ [] rfl (World.ownsRow_nil _ _ _ _) w.heap.size _ zs rfl hI ?c1 ?c2 ?_)
 case c1=>simp;omega
 case c2=>exact Nat.le_refl _
 intro v' w1 hown hgrow
 have hOw:=Ow.of_row hown;have hB1:Below w.heap.size w w1:=(Below.refl _ w).grown hgrow (Nat.le_refl _) (fun j e=>by cases e);obtain⟨a1,cap1,rfl,hl2,hm2⟩:=hOw.slice;have hcut:=hOw.cut;clear hown hgrow hOw hI;go_wp2
 go_ret
 exact⟨_,rfl,hcut,hB1⟩
set_option maxHeartbeats 1000000 in
theorem zSi(g off len cap:Nat)(p:Nat)(v:Int)(x y:Value)(w:World)(hl:len≤9223372036854775807)(h1:p+1<len)(hv:0≤v∧v≤65535)
  (hc0:w.cell? ⟨g,off+p,none⟩=some x)(hc1:w.cell? ⟨g,off+(p+1),none⟩=some y)(hf0:w.frozen? ⟨g,off+p,none⟩=false)(hf1:w.frozen? ⟨g,off+(p+1),none⟩=false):
  Calls Tryz.prog 121 #[.slice (some ⟨g,off,none⟩) len cap,.int .i64 p,.int .u16 v] w fun e w'=>e= .returned (.tuple #[])∧w'=(w.setCell ⟨g,off+p,none⟩ (.int .u8 (v/256))).setCell ⟨g,off+(p+1),none⟩ (.int .u8 (v % 256)):=by
 have hi1:(p:Int)<len:=by omega
 have hi2:(p:Int)+1<len:=by omega
 go_enter Tryz.func121,Tryz.ntmps121;go_wp2
 go_end0
 exact⟨rfl,rfl⟩
theorem zFq(base:Nat)(a:Option Addr)(len cap:Nat)(zs:List Int)(p:Nat)(v:Int)(w:World)(hO:Ow base w (.slice a len cap) zs)(h1:p+1<zs.length)(hv:0≤v∧v≤65535):
  Calls Tryz.prog 121 #[.slice a len cap,.int .i64 p,.int .u16 v] w fun e w'=>e= .returned (.tuple #[])∧Ow base w' (.slice a len cap) (Mt.put2 zs p v)∧Below base w w':=by
 obtain⟨a',cap',e',hl1,hm⟩:=hO.slice;obtain⟨g,rfl,rfl,hg,hcf,hset⟩:=hO.at (by omega);obtain⟨c0,f0⟩:=hcf p (by omega);obtain⟨c1,f1⟩:=hcf (p+1) (by omega);have hs1:=hset p (v/256) (by omega);cases e'
 refine(zSi g 0 zs.length cap p v _ _ w (by omega) h1 hv (by rw[Nat.zero_add];exact c0) (by rw[Nat.zero_add];exact c1) (by rw[Nat.zero_add];exact f0) (by rw[Nat.zero_add];exact f1)).mono ?_;rintro e w' ⟨rfl,rfl⟩;rw[Nat.zero_add,Nat.zero_add];obtain⟨g',hg1,_,_,_,hset2⟩:=hs1.at (by simp;omega);cases hg1
 refine⟨rfl,?_,((Below.refl _ _).setCell (p:=⟨g,p,none⟩) hg _).setCell (p:=⟨g,p+1,none⟩) hg _⟩;have:=hset2 (p+1) (v % 256) (by simpa using h1);simpa[Mt.put2]using this
def zLw (zs:List Int) (k:Nat) (v:Int):List Int:=Mt.put2 (Mt.put2 zs k (v/65536)) (k+2) (v % 65536)
theorem zB5(zs:List Int)(k:Nat)(v:Int):(zLw zs k v).length=zs.length:=by simp[zLw,Mt.put2_length]
theorem By_put4 {zs:List Int} (h:Mt.By zs)(k:Nat) {v:Int} (hv:0≤v∧v≤4294967295):Mt.By (zLw zs k v):=(h.put2 k (by omega)).put2 (k+2) (by omega)
set_option maxHeartbeats 1000000 in
theorem zIp(base:Nat)(a:Option Addr)(len cap:Nat)(zs:List Int)(p:Nat)(v:Int)(w:World)(hO:Ow base w (.slice a len cap) zs)(h1:p+3<zs.length)(hv:0≤v∧v≤4294967295):
  Calls Tryz.prog 177 #[.slice a len cap,.int .i64 p,.int .u32 v] w fun e w'=>e= .returned (.tuple #[])∧Ow base w' (.slice a len cap) (zLw zs p v)∧Below base w w':=by
 obtain⟨a',cap',e',hl1,hm⟩:=hO.slice;cases e'
 have hp:p≤9223372036854775803:=by omega
 go_enter Tryz.func177,Tryz.ntmps177;go_wp2_with fail;refine(zFq base a zs.length cap zs p (v/65536) w hO (by omega) (by omega)).mono ?_;rintro e w1 ⟨rfl,hO1,hb1⟩;go_wp2_with fail;rw[IntKind.wrap_u16,show((p:Int)+2)=((p+2:Nat):Int)from by omega];refine(zFq base a zs.length cap _ (p+2) (v % 65536) w1 hO1 (by rw[Mt.put2_length];omega) (by omega)).mono ?_;rintro e w2 ⟨rfl,hO2,hb2⟩;go_wp2
 go_end0
 exact⟨rfl,hO2,hb1.trans hb2⟩
def zBl (zs:List Int) (p:Int) (v:Int):List Int:=if 0≤p∧p+2≤zs.length then Mt.put2 zs p.toNat v else zs
def zBq (zs:List Int) (p:Int) (v:Int):List Int:=if 0≤p∧p+4≤zs.length then zLw zs p.toNat v else zs
theorem zBu(zs:List Int)(p v:Int):(zBl zs p v).length=zs.length:=by unfold zBl;split<;>simp[Mt.put2_length]
theorem zBi(zs:List Int)(p v:Int):(zBq zs p v).length=zs.length:=by unfold zBq;split<;>simp[zB5]
theorem zF1 {zs:List Int} (h:Mt.By zs)(p:Int) {v:Int} (hv:0≤v∧v≤65535):Mt.By (zBl zs p v):=by unfold zBl;split;exact h.put2 _ hv;exact h
theorem zKa {zs:List Int} (h:Mt.By zs)(p:Int) {v:Int} (hv:0≤v∧v≤4294967295):Mt.By (zBq zs p v):=by unfold zBq;split;exact By_put4 h _ hv;exact h
set_option maxHeartbeats 1000000 in
theorem zB6(sv:Value)(zs:List Int)(p v:Int)(w:World)(hl:zs.length≤140737488355328)(hI:Rd w.heap.size w sv zs)(hv:0≤v∧v≤65535):
  Calls Tryz.prog 62 #[sv,.int .i64 p,.int .u16 v] w fun e w'=>∃a,e= .returned (.slice a zs.length zs.length)∧Ow w.heap.size w' (.slice a zs.length zs.length) (zBl zs p v)∧Below w.heap.size w w':=by
 obtain⟨a,cap,rfl,hl1,hm⟩:=hI.slice;by_cases hp:0≤p∧p+2≤zs.length
 ·have HP:Hid (zBl zs p v=Mt.put2 zs p.toNat v):=by show _=_;unfold zBl;rw[if_pos hp]
  obtain⟨n,rfl⟩:=Int.eq_ofNat_of_zero_le hp.1;rw[Int.toNat_natCast]at HP;have hp2:=hp.2;clear hp;go_enter Tryz.func62,Tryz.ntmps62;go_wp2_with fail;refine(zEi _ zs w hl hI).mono ?_;rintro e w1 ⟨a1,rfl,hO1,hb1⟩;go_wp2_with fail;refine(zEe _ _ _ _ _ _ (by omega) (by omega) (by omega) hp2).mono ?_;rintro e w2 ⟨rfl,rfl⟩;go_wp2_with fail;refine(zFq w.heap.size a1 zs.length zs.length zs n v _ hO1 (by omega) hv).mono ?_;rintro e w3 ⟨rfl,hO2,hb2⟩;go_wp2
  go_ret
  exact⟨_,rfl,by rw[HP.out];exact hO2,hb1.trans hb2⟩
 ·have HP:Hid (zBl zs p v=zs):=by show _=_;unfold zBl;rw[if_neg hp]
  have hp':p<0∨(zs.length:Int)<p+2:=by omega
  clear hp;go_enter Tryz.func62,Tryz.ntmps62;go_wp2_with fail;refine(zEi _ zs w hl hI).mono ?_;rintro e w1 ⟨a1,rfl,hO1,hb1⟩;go_wp2_with fail;refine(zFp _ _ _ _ _ _ (by omega) (by omega) (by omega) hp').mono ?_;rintro e w2 ⟨rfl,rfl⟩;clear hp';go_wp2
  go_ret
  exact⟨_,rfl,by rw[HP.out];exact hO1,hb1⟩
set_option maxHeartbeats 1000000 in
theorem zCq(sv:Value)(zs:List Int)(p v:Int)(w:World)(hl:zs.length≤140737488355328)(hI:Rd w.heap.size w sv zs)(hv:0≤v∧v≤4294967295):
  Calls Tryz.prog 126 #[sv,.int .i64 p,.int .u32 v] w fun e w'=>∃a,e= .returned (.slice a zs.length zs.length)∧Ow w.heap.size w' (.slice a zs.length zs.length) (zBq zs p v)∧Below w.heap.size w w':=by
 obtain⟨a,cap,rfl,hl1,hm⟩:=hI.slice;by_cases hp:0≤p∧p+4≤zs.length
 ·have HP:Hid (zBq zs p v=zLw zs p.toNat v):=by show _=_;unfold zBq;rw[if_pos hp]
  obtain⟨n,rfl⟩:=Int.eq_ofNat_of_zero_le hp.1;rw[Int.toNat_natCast]at HP;have hp2:=hp.2;clear hp;go_enter Tryz.func126,Tryz.ntmps126;go_wp2_with fail;refine(zEi _ zs w hl hI).mono ?_;rintro e w1 ⟨a1,rfl,hO1,hb1⟩;go_wp2_with fail;refine(zEe _ _ _ _ _ _ (by omega) (by omega) (by omega) hp2).mono ?_;rintro e w2 ⟨rfl,rfl⟩;go_wp2_with fail;refine(zIp w.heap.size a1 zs.length zs.length zs n v _ hO1 (by omega) hv).mono ?_;rintro e w3 ⟨rfl,hO2,hb2⟩;go_wp2
  go_ret
  exact⟨_,rfl,by rw[HP.out];exact hO2,hb1.trans hb2⟩
 ·have HP:Hid (zBq zs p v=zs):=by show _=_;unfold zBq;rw[if_neg hp]
  have hp':p<0∨(zs.length:Int)<p+4:=by omega
  clear hp;go_enter Tryz.func126,Tryz.ntmps126;go_wp2_with fail;refine(zEi _ zs w hl hI).mono ?_;rintro e w1 ⟨a1,rfl,hO1,hb1⟩;go_wp2_with fail;refine(zFp _ _ _ _ _ _ (by omega) (by omega) (by omega) hp').mono ?_;rintro e w2 ⟨rfl,rfl⟩;clear hp';go_wp2
  go_ret
  exact⟨_,rfl,by rw[HP.out];exact hO1,hb1⟩
end Go.Proofs.YteaeilghamjjkaaGreatDoor
