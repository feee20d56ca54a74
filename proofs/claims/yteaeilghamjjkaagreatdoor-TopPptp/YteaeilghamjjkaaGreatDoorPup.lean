import Derived.Test.YteaeilghamjjkaaGreatDoorX7
namespace Go.Proofs.YteaeilghamjjkaaGreatDoor
open Go.RowKit Go.Shelf
set_option maxRecDepth 100000
set_option linter.unusedVariables false
set_option linter.unusedSimpArgs false
set_option maxHeartbeats 4000000 in
theorem zR8(base g:Nat)(s:Gf)(w:World)(h:GF base w g s)(hes:EsI s.fe s.cf)(hsz:s.fs.length≤12)(hie:IdE s):Calls Tryz.prog 14 #[.pointer (some ⟨g,0,none⟩)] w fun e w'=>Later w w'∧∃a c,e= .returned (.slice a s.fs.length c):=by
 have HB:=zAc (byId_P base g s w h hes hsz hie);have HFB:=zAc (fun f hf=>(h.fb f hf).2);have HSZ:=zAc hsz;clear h hes hsz hie;go_enter Tryz.func14,Tryz.ntmps14;go_wp2_with fail;refine HB.out.mono ?_;rintro e w2 ⟨⟨xs,a,c,rfl,hxp,hO⟩,l2⟩;have l2':Later w w2:=l2;have HXF:=zAc (fun f (hf:f∈xs)=>hxp.mem_iff.1 hf);have HLN:=zAc hxp.length_eq;have hxl12:xs.length≤12:=by rw[hxp.length_eq];exact HSZ.out
 have HO:=zAc hO;have HL2:=zAc l2';clear hO hxp HB l2 l2';go_upto_region 5 with fail;go_loopw [3,11] (fun ov iv wr=>∃(k:Nat) (b:Option Addr) (d:Nat) (vs:List Value),ov= .slice b k d∧iv= .int .i64 (k:Int)∧k≤xs.length∧wr.ownsRow w2.heap.size 106 15 (.slice b k d) k vs∧Later w2 wr) (fun _ iv _=>xs.length-(intOf iv).toNat)
 case atStart=>exact⟨0,none,0,[],rfl,rfl,by omega,World.ownsRow_nil _ _ _ _,Later.refl _⟩
 case round=>
  obtain⟨k,b,d,vs,rfl,rfl,hk,hR,hL⟩:=hrel;rename World=>wr
  by_cases hlt:k<xs.length
  ·have hlt':(k:Int)<xs.length:=by omega
   obtain⟨q,rfl,hq,hcl0⟩:=zHn HO.out hlt (x:= .pointer (some ⟨xs[k].blk,0,none⟩)) (by rw[List.getElem?_map,List.getElem?_eq_getElem hlt];rfl);have hmem:xs[k]∈xs:=List.getElem_mem hlt;generalize xs[k]=f at*
   have hcl:wr.cell? ⟨q,k,none⟩=some (.pointer (some ⟨f.blk,0,none⟩)):=by
    have hql:q<w2.heap.size:=World.block_lt_of_cell? _ _ hcl0;rw[←hcl0];exact Below.cell (p:=⟨q,k,none⟩) hL hql
   have LW:Later w wr:=HL2.out.trans hL;have HK1:=zAc (zAb LW (HFB.out f (HXF.out f hmem)));have k1:=zAa HK1.out;unfold flc at k1;obtain⟨i0,z0,hi,hz0,hz1,hz3,hz2⟩:=info_F2;obtain⟨a1,c1,W1,hr1,hO1,hg1⟩:=zHm (W:=wr) (base:=w2.heap.size) (t:=56) Tryz.underlying56 hi hz0 hz1 rfl hz2 hz3 (by decide) (.slice b k d) k vs hR (by omega) hL.size [.int .i64 f.id,.int .u8 f.o.pr,.int .u32 f.o.src,.int .u32 f.o.dst,.int .u16 f.o.sp,.int .u16 f.o.dp,.int .u8 f.r.pr,.int .u32 f.r.src,.int .u32 f.r.dst,.int .u16 f.r.sp,.int .u16 f.r.dp,.int .i64 f.side,.int .i64 f.st,.int .i64 f.till,.int .i64 f.ms] rfl (by intro u hu;simp only[List.mem_cons,List.not_mem_nil,or_false]at hu;rcases hu with rfl|rfl|rfl|rfl|rfl|rfl|rfl|rfl|rfl|rfl|rfl|rfl|rfl|rfl|rfl<;>rfl) 56;have la:=zAe wr (.cells [Value.int .i64 f.id,.int .u8 f.o.pr,.int .u32 f.o.src,.int .u32 f.o.dst,.int .u16 f.o.sp,.int .u16 f.o.dp,.int .u8 f.r.pr,.int .u32 f.r.src,.int .u32 f.r.dst,.int .u16 f.r.sp,.int .u16 f.r.dp,.int .i64 f.side,.int .i64 f.st,.int .i64 f.till,.int .i64 f.ms].toArray 106);have hl1:Later w2 W1:=(hL.trans la).grown hg1 (hL.trans la).size (fun j hj=>(hR.lt j hj).1);have HREL:Hid (∃(k':Nat) (b':Option Addr) (d':Nat) (vs':List Value),Value.slice (some a1) (k+1) c1= .slice b' k' d'∧Value.int .i64 ((k:Int)+1)= .int .i64 (k':Int)∧k'≤xs.length∧W1.ownsRow w2.heap.size 106 15 (.slice b' k' d') k' vs'∧Later w2 W1):=⟨k+1,some a1,c1,_,rfl,rfl,by omega,hO1,hl1⟩;have HR1:=zAc hr1
   clear hr1 hi hz0 hz1 hz2 hz3 hO1 hl1 hg1 la hR hL LW hcl0 hmem;go_upto_region 7 with fail;go_upto_region 8 with(at_builtin;refine zCq rfl (.tmp 15) (.tmp 20) 56 56 rfl _ _ rfl rfl _ _ HR1.out ?_);go_wp2_with fail;go_roundw
   case rel=>exact HREL.out
   case measure=>simp[intOf];omega
  ·have hkn:k=xs.length:=by omega
   have HE:=zAc (show ∃a c,(Ending.returned (.slice b k d))= .returned (.slice a s.fs.length c)from⟨b,d,by rw[hkn,HLN.out]⟩);have HLL:=zAc (HL2.out.trans hL);clear hR hL;subst hkn;go_wp2_with fail;go_ret
   exact⟨HLL.out,HE.out⟩
end Go.Proofs.YteaeilghamjjkaaGreatDoor
