import Derived.RangeFuncNested
import Derived.RangeFuncBound
import Derived.RangeFuncCalls
import Derived.RangeFuncLeaves
import Derived.RangeFuncBox
import Derived.Shelf.Abstract
import Derived.Shelf.RegionOpen
import Derived.OwnWalkIn
import Derived.TacticsInMore
import Derived.LoopNIn
import Derived.LoopIn
import Derived.Test.YteaeilghamjjkaaGreatDoorW1
namespace Go.Proofs.YteaeilghamjjkaaGreatDoor
set_option maxHeartbeats 2000000
open Go.RowKit Go.Shelf
set_option maxRecDepth 100000
attribute [local go_sem] Oper.semAt_some
abbrev U16:= { x:Int//0≤x∧x≤65535 }
def wat (zs:List Int) (k:Nat):Int:=zs[k]?.getD 0*256+zs[k+1]?.getD 0
theorem zCp {zs:List Int} (h:Mt.By zs)(k:Nat):0≤wat zs k∧wat zs k≤65535:=by
 have:=h.at k;have:=h.at (k+1);unfold wat;omega
def wd (zs:List Int) (h:Mt.By zs) (k:Nat):U16:=⟨wat zs (2*k),zCp h _⟩
def wds (zs:List Int) (h:Mt.By zs) (k:Nat):List U16:=(List.range k).map (wd zs h)
theorem zEf(zs:List Int)(h:Mt.By zs)(k:Nat):wds zs h (k+1)=wds zs h k++[wd zs h k]:=by simp[wds,List.range_succ]
theorem zE0(zs:List Int)(h:Mt.By zs)(k:Nat):(wds zs h k).length=k:=by simp[wds]
def sm (l:List U16):Int:=(l.map (·.1)).sum
theorem zSf(l:List U16)(x:U16):sm (l++[x])=sm l+x.1:=by simp[sm]
theorem sm_bd:∀l:List U16,0≤sm l∧sm l≤65535*l.length
 | []=>by simp[sm]
 |x::r=>by have:=sm_bd r;have:=x.2;simp[sm]at*;omega
theorem sm_wds(zs:List Int)(h:Mt.By zs):∀k,2*k≤zs.length+1→sm (wds zs h k)=Mt.tw true (zs.take (2*k))
 |0,_=>by simp[wds,sm,Mt.tw]
 | k+1,hk=>by
  rw[zEf,zSf,sm_wds zs h k (by omega)];by_cases hl:2*k+1<zs.length
  ·rw[show 2*(k+1)=2*k+2 from by omega,Mt.tw_two zs (2*k) (by omega) hl]
   rfl
  ·have e1:zs.take (2*(k+1))=zs.take (2*k+1):=by
    rw[List.take_of_length_le (by omega),List.take_of_length_le (by omega)]
   rw[e1,Mt.tw_one zs (2*k) (by omega) (by omega)];simp[wd,wat,show ¬2*k+1<zs.length from hl]
theorem sm_all(zs:List Int)(h:Mt.By zs):sm (wds zs h ((zs.length+1)/2))=Mt.tw true zs:=by
 rw[sm_wds zs h _ (by omega),List.take_of_length_le (by omega)]
def KB (n₀ Bs:Nat) (W W':World):Prop:=Below n₀ W W'∧W'.heap[Bs]? =W.heap[Bs]?
theorem KB.refl(n₀ Bs:Nat)(W:World):KB n₀ Bs W W:=⟨Below.refl _ _,rfl⟩
theorem KB.trans {n₀ Bs:Nat} {A B C:World} (h:KB n₀ Bs A B)(k:KB n₀ Bs B C):KB n₀ Bs A C:=⟨h.1.trans k.1,k.2.trans h.2⟩
theorem KB.drewN {n₀ Bs:Nat} {A B:World} (h:KB n₀ Bs A B)(q:Nat):KB n₀ Bs A (B.drewN q):=⟨h.1.trans ⟨rfl,rfl,rfl,Nat.le_refl _,fun _ _=>rfl⟩,h.2⟩
theorem KB.box {n₀ Bs:Nat} {A B:World} (h:KB n₀ Bs A B) {o:Nat} :B.cell? ⟨Bs,o,none⟩=A.cell? ⟨Bs,o,none⟩:=World.cell?_of_block (w:=A) h.2
theorem zIo(W:World)(q:Nat):W.grownBy (W.drewN q) none:=⟨rfl,rfl,rfl,Nat.le_refl _,fun _ _ _=>rfl⟩
theorem zSg(n:Nat)(hn:1≤n)(l Bs n₀ b off cap:Nat)(zs:List Int)(hB:Mt.By zs)(hreach:zs.length≤9223372036854775806)(hb:b<n₀)(J Jx:List U16→World→Prop)
  (hJ:∀s (W:World) q,J s W→J s (W.drewN q))
  (hY:∀pre (x:U16) W,J pre W→pre.length<(zs.length+1)/2→YieldAt Fence.wide (n-1) Tryz.prog l #[.int .u16 x.1] W fun e W'=>
   (e= .returned (.bool true)∧J (pre++[x]) W'∧KB n₀ Bs W W')∨(e= .returned (.bool false)∧Jx (pre++[x]) W'))
  (W:World)(hBs:W.cell? ⟨Bs,0,none⟩=some (.slice (some ⟨b,off,none⟩) zs.length cap))(hc:∀j,j<zs.length→W.cell? ⟨b,off+j,none⟩=some (.int .u8 (zs[j]?.getD 0)))(h0:J [] W):
  CallsIn Fence.wide n Tryz.prog 176 #[.func (.yield l) #[] #[],.pointer (some ⟨Bs,0,none⟩)] W fun e W'=>(∃v,e= .returned v)∧
   ((∃ys,ys=wds zs hB ((zs.length+1)/2)∧J ys W')∨(∃pre,(∃k,k≤(zs.length+1)/2∧pre=wds zs hB k)∧Jx pre W')):=by
 refine callsIn_of_wp Tryz.func176 rfl trivial ?_ rfl;simp only[Tryz.ntmps176,List.size_toArray,List.length_cons,List.length_nil,Nat.reduceAdd,Nat.reduceSub,Array.replicate_succ,Array.replicate_zero,List.push_toArray,List.append_toArray,List.nil_append,List.cons_append];gi_wp2
 gi_loopw [3] (fun i wr=>∃k:Nat,2*k≤zs.length∧i= .int .i64 ((2*k:Nat):Int)∧J (wds zs hB k) wr∧KB n₀ Bs W wr)
  (fun i _=>zs.length-(intOf i).toNat)
 case atStart=>exact⟨0,by omega,rfl,h0,KB.refl _ _ _⟩
 case round=>
  obtain⟨k,hk,rfl,hJs,hnx⟩:=hrel;have hbx:wr.cell? ⟨Bs,0,none⟩=some (.slice (some ⟨b,off,none⟩) zs.length cap):=hnx.box.trans hBs;have hcx:∀j,j<zs.length→wr.cell? ⟨b,off+j,none⟩=some (.int .u8 (zs[j]?.getD 0)):=fun j h=>(hnx.1.cell (p:=⟨b,off+j,none⟩) hb).trans (hc j h);by_cases hlt:2*k+1<zs.length
  ·have c0:=hcx (2*k) (by omega)
   have c1:=hcx (2*k+1) (by omega);have b0:=hB.at (2*k);have b1:=hB.at (2*k+1);have HW:Hid (wat zs (2*k)=zs[2*k]?.getD 0*256+zs[2*k+1]?.getD 0):=rfl;have hlt':((2*k:Nat):Int)+1<zs.length:=by omega
   generalize zs[2*k]?.getD 0=x at c0 b0 HW;generalize zs[2*k+1]?.getD 0=y at c1 b1 HW;have hxy:0≤x*256+y∧x*256+y≤65535:=by omega
   have HE:Hid (wd zs hB k=⟨x*256+y,hxy⟩):=Subtype.ext HW.out;clear hcx HW;gi_wp2_with (refine⟨trivial,?_⟩;gi_at_call 39;refine(callsIn_wide.2 (zJ8 b off zs.length cap x y (2*k) _ (by omega) hlt b0 b1 c0 c1)).mono ?_;rintro e w' ⟨rfl,q,rfl⟩;obtain⟨fn,tmps,assign,body,hy,hR⟩:=hY _ ⟨x*256+y,hxy⟩ (wr.drewN q) (hJ _ _ q hJs) (by rw[zE0];omega);dsimp only at hy)
   refine hR.mono ?_;rintro e W3 (⟨rfl,hJ3,hk3⟩|⟨rfl,hJx3⟩)
   ·gi_wp2
    go_roundw
    case rel=>exact⟨k+1,by omega,by go_num,by rw[zEf,HE.out];exact hJ3,(hnx.drewN q).trans hk3⟩
    case measure=>simp[intOf];omega
   ·gi_wp2
    refine bodyPost_ret (results_none rfl _ _ _) rfl ?_;exact⟨⟨_,rfl⟩,.inr ⟨_,⟨k+1,by omega,by rw[zEf,HE.out]⟩,hJx3⟩⟩
  ·by_cases hodd:zs.length=2*k+1
   ·have c0:=hcx (2*k) (by omega)
    have b0:=hB.at (2*k);have hz:zs[2*k+1]?.getD 0=0:=by simp[show ¬2*k+1<zs.length from hlt]
    have HW:Hid (wat zs (2*k)=zs[2*k]?.getD 0*256):=by unfold wat;rw[hz];exact Int.add_zero _
    clear hcx hz;generalize zs[2*k]?.getD 0=x at c0 b0 HW;have hxy:0≤x*256∧x*256≤65535:=by omega
    have HE:Hid (wd zs hB k=⟨x*256,hxy⟩):=Subtype.ext HW.out;have HL:Hid ((zs.length+1)/2=k+1):=by show _=_;omega
    obtain⟨fn,tmps,assign,body,hy,hR⟩:=hY _ ⟨x*256,hxy⟩ wr hJs (by rw[zE0];omega);dsimp only at hy
    gi_wp2
    refine hR.mono ?_;rintro e W3 (⟨rfl,hJ3,hk3⟩|⟨rfl,hJx3⟩)
    ·gi_wp2
     go_end0
     exact⟨⟨_,rfl⟩,.inl ⟨_,by rw[HL.out,zEf,HE.out],hJ3⟩⟩
    ·gi_wp2
     go_end0
     exact⟨⟨_,rfl⟩,.inr ⟨_,⟨k+1,by omega,by rw[zEf,HE.out]⟩,hJx3⟩⟩
   ·have he:(zs.length+1)/2=k:=by omega
    gi_wp2
    go_end0
    exact⟨⟨_,rfl⟩,.inl ⟨_,by rw[he],hJs⟩⟩
theorem zQh(n:Nat)(l Bs:Nat)(a:Option Addr)(cap:Nat)(J:List U16→World→Prop)(W:World)(hBs:W.cell? ⟨Bs,0,none⟩=some (.slice a 0 cap))(h0:J [] W):
  CallsIn Fence.wide n Tryz.prog 176 #[.func (.yield l) #[] #[],.pointer (some ⟨Bs,0,none⟩)] W fun e W'=>(∃v,e= .returned v)∧J [] W':=by
 refine callsIn_of_wp Tryz.func176 rfl trivial ?_ rfl;simp only[Tryz.ntmps176,List.size_toArray,List.length_cons,List.length_nil,Nat.reduceAdd,Nat.reduceSub,Array.replicate_succ,Array.replicate_zero,List.push_toArray,List.append_toArray,List.nil_append,List.cons_append];gi_wp2
 gi_loopw [3] (fun i wr=>i= .int .i64 0∧J [] wr∧wr.cell? ⟨Bs,0,none⟩=some (.slice a 0 cap)) (fun _ _=>0)
 case atStart=>exact⟨rfl,h0,hBs⟩
 case round=>
  obtain⟨rfl,hJs,hbx⟩:=hrel;gi_wp2
  go_end0
  exact⟨⟨_,rfl⟩,hJs⟩
theorem words_in(n:Nat)(a:Option Addr)(len cap:Nat)(w:World):
  CallsIn Fence.wide n Tryz.prog 122 #[.slice a len cap] w fun e w'=>e= .returned (.func (.func 176) #[] #[.pointer (some ⟨w.heap.size,0,none⟩)])∧w'=w.alloc (.cells #[.slice a len cap] 26):=by
 refine callsIn_of_wp Tryz.func122 rfl trivial ?_ rfl;simp only[Tryz.ntmps122,List.size_toArray,List.length_cons,List.length_nil,Nat.reduceAdd,Nat.reduceSub,Array.replicate_succ,Array.replicate_zero,List.push_toArray,List.append_toArray,List.nil_append,List.cons_append];gi_wp2
 go_ret
 exact⟨rfl,rfl⟩
theorem zL2(n:Nat)(hn:1≤n)(Bs n₀:Nat)(sv:Value)(zs:List Int)(hB:Mt.By zs)(hreach:zs.length≤9223372036854775806)(w:World)(hBs:Bs<w.heap.size)(hn₀:n₀≤w.heap.size)
  (hc:w.cell? ⟨Bs,0,none⟩=some sv)(hI:Rd n₀ w sv zs):
  SeqStopsK Fence.wide n Tryz.prog 176 #[.pointer (some ⟨Bs,0,none⟩)] (fun x:U16=>#[Value.int .u16 x.1]) (KB n₀ Bs) (fun ys=>ys=wds zs hB ((zs.length+1)/2)) (fun _=>True) ((zs.length+1)/2) w:=fun l J Jx W hW hJ _ hY h0=>by
 have hc':=(hW.cell (p:=⟨Bs,0,none⟩) hBs).trans hc;rcases hI.below (hW.mono hn₀)with⟨a,cap,rfl,rfl,_,_⟩|⟨b,off,cap,rfl,_,hl,hm,hb,hcs⟩
 ·exact (zQh n l Bs a cap J W hc' h0).mono fun e W' ⟨he,hj⟩=>⟨he,.inl ⟨_,rfl,hj⟩⟩
 ·refine (zSg n hn l Bs n₀ b off cap zs hB hreach hb J Jx (fun s X q hs=>hJ s X _ none hs (zIo X q) (fun r e=>by cases e)) hY W hc' hcs h0).mono ?_
  rintro e W' ⟨he,⟨ys,rfl,hj⟩|⟨pre,⟨k,hk,rfl⟩,hj⟩⟩
  ·exact ⟨he,.inl ⟨_,rfl,hj⟩⟩
  ·exact ⟨he,.inr ⟨_,trivial,hj⟩⟩
end Go.Proofs.YteaeilghamjjkaaGreatDoor
