import Derived.Test.YteaeilghamjjkaaGreatDoorX5
import Derived.Lib.ConvBytes
import Derived.Lib.AppendIntMem
import Derived.Laws.AppendOwn
import Derived.Shelf.Strings.OnBuilder
namespace Go.Proofs.YteaeilghamjjkaaGreatDoor
set_option maxHeartbeats 4000000
open Go.RowKit Go.Shelf
set_option maxRecDepth 100000
set_option linter.unusedVariables false
set_option linter.unusedSimpArgs false
theorem find_k0(sv:Value)(back:Bool)(bb off cp:Nat)(zs:List Int)(w:World)(hl:zs.length≤1000)(hI:Rd w.heap.size w (.slice (some ⟨bb,off,none⟩) zs.length cp) zs)(hk:(kdV zs 0 back).1=0)(HL:∀W,Later w W→Calls Tryz.prog 27 #[sv] W fun e w'=>e= .returned (.slice (some ⟨bb,off,none⟩) zs.length cp)∧Later W w'):
  Calls Tryz.prog 10 #[sv,.bool back] w fun e w'=>e= .returned (.tuple #[.agg #[.int .i64 0,.int .i64 0,.int .i64 0,.int .u32 0,.int .u16 0],.bool false])∧Below w.heap.size w w':=by
 have HL':=zAd HL;clear HL;go_enter Tryz.func10,Tryz.ntmps10;go_wp2
 refine wp_scope_jumps 0 (GU w.heap.size w) (fun _ _=>0) rfl ?_ ?_
 ·have l1:Later w (w.alloc (.cells #[.int .i64 0,.int .i64 0,.int .i64 0,.int .u32 0,.int .u16 0] 44)):=zAt _ _
  have R1:=zAd (heap_alloc_new w (.cells #[.int .i64 0,.int .i64 0,.int .i64 0,.int .u32 0,.int .u16 0] 44));go_wp2_with fail;refine(HL'.out _ l1).mono ?_;rintro e w2 ⟨rfl,l2⟩;have R2:=zAd ((l2.block w.heap.size (eS R1.out)).trans R1.out);have B3:=zAd (show RB (w2.alloc (.cells (rrc (.slice (some ⟨bb,off,none⟩) zs.length cp) ⟨0,0,0,0,0,0⟩) 80)) w2.heap.size (.slice (some ⟨bb,off,none⟩) zs.length cp) ⟨0,0,0,0,0,0⟩from heap_alloc_new w2 _);have l3:=zAt w2 (.cells (rrc (.slice (some ⟨bb,off,none⟩) zs.length cp) ⟨0,0,0,0,0,0⟩) 80);have L2:=l1.trans l2;have hlt:w.heap.size<w2.heap.size:=Nat.lt_of_lt_of_le (eS R1.out) l2.size;go_upto_region 2 with fail;rw[show (w2.alloc (.cells (rrc (.slice (some ⟨bb,off,none⟩) zs.length cp) ⟨0,0,0,0,0,0⟩) 80))=w2.alloc (.cells #[.slice (some ⟨bb,off,none⟩) zs.length cp,.int .i64 0,.int .i64 0,.int .i64 0,.int .i64 0,.int .u32 0,.int .u16 0] 80)from rfl]at B3 l3;generalize w2.alloc _=w3 at*;generalize w2.heap.size=rb at*;have L3:Below w.heap.size w w3:=L2.trans l3;have hrb:w.heap.size<rb:=hlt;have HK:=zAd (zEu rb bb off cp w.heap.size zs back _ w3 B3.out (hI.below L3) hl (Nat.zero_le _) L3.size (by omega));rw[show (Rr.at0 ⟨0,0,0,0,0,0⟩)=0 from rfl,hk]at HK;generalize (kdV zs 0 back).2=p4 at*;have R3:=zAd ((l3.block w.heap.size (eS R2.out)).trans R2.out);go_wp2_with fail;refine HK.out.mono ?_;rintro e w4 ⟨rfl,o4,b4⟩;have B4:=zAd b4;have o4':But (fun g=>g=rb) w3 w4:=o4
  have R4:=zAd ((o4'.block w.heap.size (eS R3.out) (by omega)).trans R3.out);have L4:Below w.heap.size w w4:=L3.trans (o4'.below L3.size (fun k hk e=>by omega));clear b4 o4;have hlt4:rb<w4.heap.size:=(eS B4.out);have kB:=zAa B4.out;have fB:=zAc B4.out;unfold rrc atR at kB;have B5:=zAd (zAh B4.out 2 (.int .i64 0));have b5:But (fun q=>q=rb) w4 (w4.setCell ⟨rb,2,none⟩ (.int .i64 0)):=But.setCell (E:=fun q=>q=rb) (But.refl _ _) (p:=⟨rb,2,none⟩) rfl _;go_upto_region 3 with fail;generalize w4.setCell ⟨rb,2,none⟩ _=w5 at*;clear kB fB;have B5':w5.heap[rb]? =some (.cells #[.slice (some ⟨bb,off,none⟩) zs.length cp,.int .i64 (p4:Int),.int .i64 0,.int .i64 0,.int .i64 0,.int .u32 0,.int .u16 0] 80 (0,0)):=by have:=B5.out;simp[rrc,atR]at this;exact this
  have kB:=zAa B5';have R5:=zAd ((b5.block w.heap.size (by omega) (by omega)).trans R4.out);have L5:Below w.heap.size w w5:=L4.trans (b5.below L4.size (fun k hk e=>by omega));go_wp2_with fail;go_step3
  exact⟨rfl,_,_,_,_,_,_,_,_,_,_,_,_,_,_,_,_,_,_,_,_,_,_,_,_,_,_,_,_,_,_,_,_,_,_,_,_,_,_,_,_,_,_,_,_,_,_,_,_,_,_,_,_,_,_,_,_,_,_,_,_,_,_,_,_,_,_,_,_,_,_,_,rfl,R5.out,L5,Nat.le_refl _⟩
 ·rintro a' W ⟨u0,u1,u2,u3,u5,u6,u7,u8,u9,u10,u11,u12,u13,u14,u15,u16,u17,u18,u19,u20,u21,u22,u23,u24,u25,u26,u27,u28,u29,u30,u31,u32,u33,u34,u35,u36,u37,u38,u39,u40,u41,u42,u43,u44,u45,u46,u47,u48,u49,u50,u51,u52,u53,u54,u55,u56,u57,u58,u59,u60,u61,u62,u63,u64,u65,u66,u67,u68,u69,u70,u71,rfl,hR,hb,hle⟩
  have kR:=zAa hR;have fR:=zAc hR;have HR:=zAd hR;clear hR;go_wp2
  simp only[Exit.jump];generalize hV:World.setCell _ ⟨w.heap.size,4,none⟩ _=V8;have hV9:V8=zAi W w.heap.size 0 [.int .i64 0,.int .i64 0,.int .i64 0,.int .u32 0,.int .u16 0]:=hV.symm;have hb8:But (fun b=>b=w.heap.size) W V8:=by rw[hV9];exact zAf (E:=fun b=>b=w.heap.size) (n:=w.heap.size) rfl _ _ _ _ (But.refl _ _)
  have p8:=zAe [.int .i64 0,.int .i64 0,.int .i64 0,.int .u32 0,.int .u16 0] HR.out rfl;rw[←hV9]at p8;clear hV hV9 kR fR;have P8:=zAa p8;have hw8:Below w.heap.size w V8:=hb.trans (hb8.below hb.size (fun k h e=>by omega));exact bodyPost_ret (v:= .tuple #[.agg #[.int .i64 0,.int .i64 0,.int .i64 0,.int .u32 0,.int .u16 0],.bool false]) (by simp[results,Tryz.results10,go_sem,P8]) rfl ⟨rfl,hw8⟩
def fdN:Value:= .tuple #[.agg #[.int .i64 0,.int .i64 0,.int .i64 0,.int .u32 0,.int .u16 0],.bool false]
def fdY (kd st en ad pt:Int):Value:= .tuple #[.agg #[.int .i64 kd,.int .i64 st,.int .i64 en,.int .u32 ad,.int .u16 pt],.bool true]
def fd1 (zs:List Int) (p:Nat):Value:=match sixO zs p with
 |none=>fdN
 |some x=>if wat x.1 4≠0∧x.2=zs.length then fdY 1 p x.2 (zAs x.1 0) (wat x.1 4)else fdN
theorem find_k1(sv:Value)(back:Bool)(bb off cp:Nat)(zs:List Int)(w:World)(hl:zs.length≤1000)(hI:Rd w.heap.size w (.slice (some ⟨bb,off,none⟩) zs.length cp) zs)(hz:Mt.By zs)(hcp:zs.length≤cp)(hk:(kdV zs 0 back).1=1)(hp4:(kdV zs 0 back).2≤zs.length)(HL:∀W,Later w W→Calls Tryz.prog 27 #[sv] W fun e w'=>e= .returned (.slice (some ⟨bb,off,none⟩) zs.length cp)∧Later W w'):
  Calls Tryz.prog 10 #[sv,.bool back] w fun e w'=>e= .returned (fd1 zs (kdV zs 0 back).2)∧Below w.heap.size w w':=by
 have HL':=zAd HL;clear HL;go_enter Tryz.func10,Tryz.ntmps10;go_wp2
 refine wp_scope_jumps 0 (fun a W=>GU w.heap.size w a W∧fd1 zs (kdV zs 0 back).2=fdN) (fun _ _=>0) rfl ?_ ?_
 ·have l1:Later w (w.alloc (.cells #[.int .i64 0,.int .i64 0,.int .i64 0,.int .u32 0,.int .u16 0] 44)):=zAt _ _
  have R1:=zAd (heap_alloc_new w (.cells #[.int .i64 0,.int .i64 0,.int .i64 0,.int .u32 0,.int .u16 0] 44));go_wp2_with fail;refine(HL'.out _ l1).mono ?_;rintro e w2 ⟨rfl,l2⟩;have R2:=zAd ((l2.block w.heap.size (eS R1.out)).trans R1.out);have B3:=zAd (show RB (w2.alloc (.cells (rrc (.slice (some ⟨bb,off,none⟩) zs.length cp) ⟨0,0,0,0,0,0⟩) 80)) w2.heap.size (.slice (some ⟨bb,off,none⟩) zs.length cp) ⟨0,0,0,0,0,0⟩from heap_alloc_new w2 _);have l3:=zAt w2 (.cells (rrc (.slice (some ⟨bb,off,none⟩) zs.length cp) ⟨0,0,0,0,0,0⟩) 80);have L2:=l1.trans l2;have hlt:w.heap.size<w2.heap.size:=Nat.lt_of_lt_of_le (eS R1.out) l2.size;go_upto_region 2 with fail;rw[show (w2.alloc (.cells (rrc (.slice (some ⟨bb,off,none⟩) zs.length cp) ⟨0,0,0,0,0,0⟩) 80))=w2.alloc (.cells #[.slice (some ⟨bb,off,none⟩) zs.length cp,.int .i64 0,.int .i64 0,.int .i64 0,.int .i64 0,.int .u32 0,.int .u16 0] 80)from rfl]at B3 l3;generalize w2.alloc _=w3 at*;generalize w2.heap.size=rb at*;have L3:Below w.heap.size w w3:=L2.trans l3;have hrb:w.heap.size<rb:=hlt;have HK:=zAd (zEu rb bb off cp w.heap.size zs back _ w3 B3.out (hI.below L3) hl (Nat.zero_le _) L3.size (by omega));rw[show (Rr.at0 ⟨0,0,0,0,0,0⟩)=0 from rfl,hk]at HK;generalize hp4e:(kdV zs 0 back).2=p4 at*;have EP:=zAd hp4e;clear hp4e;have R3:=zAd ((l3.block w.heap.size (eS R2.out)).trans R2.out);go_wp2_with fail;refine HK.out.mono ?_;rintro e w4 ⟨rfl,o4,b4⟩;have B4:=zAd b4;have o4':But (fun g=>g=rb) w3 w4:=o4
  have R4:=zAd ((o4'.block w.heap.size (eS R3.out) (by omega)).trans R3.out);have L4:Below w.heap.size w w4:=L3.trans (o4'.below L3.size (fun k hk e=>by omega));clear b4 o4;have hlt4:rb<w4.heap.size:=(eS B4.out);have kB:=zAa B4.out;have fB:=zAc B4.out;unfold rrc atR at kB;have B5:=zAd (zAh B4.out 2 (.int .i64 1));have b5:But (fun q=>q=rb) w4 (w4.setCell ⟨rb,2,none⟩ (.int .i64 1)):=But.setCell (E:=fun q=>q=rb) (But.refl _ _) (p:=⟨rb,2,none⟩) rfl _;go_upto_region 3 with fail;generalize w4.setCell ⟨rb,2,none⟩ _=w5 at*;clear kB fB;have B5':w5.heap[rb]? =some (.cells #[.slice (some ⟨bb,off,none⟩) zs.length cp,.int .i64 (p4:Int),.int .i64 1,.int .i64 0,.int .i64 0,.int .u32 0,.int .u16 0] 80 (0,0)):=by have:=B5.out;simp[rrc,atR]at this;exact this
  have kB:=zAa B5';have R5:=zAd ((b5.block w.heap.size (by omega) (by omega)).trans R4.out);have L5:Below w.heap.size w w5:=L4.trans (b5.below L4.size (fun k hk e=>by omega));have hI5:Rd w.heap.size w5 (.slice (some ⟨bb,off,none⟩) zs.length cp) zs:=hI.below L5;have HS:=zAd (zVe rb bb off cp w.heap.size zs hz ⟨p4,1,0,0,0,0⟩ w5 B5' hI5 hl hp4 L5.size (by omega));have hlt5:rb<w5.heap.size:=(Array.getElem?_eq_some_iff.1 B5').1;go_wp2_with fail;refine HS.out.mono ?_;clear kB;rintro e w6 ⟨o6,⟨hno,rfl⟩|⟨x,hx,rfl,hxl,b6⟩⟩
  ·have R6:=zAd ((o6.block w.heap.size (by omega) (by omega)).trans R5.out)
   have L6:Below w.heap.size w w6:=L5.trans (o6.below L5.size (fun k hk e=>by omega));go_wp2_with fail;go_step3
   exact⟨rfl,⟨_,_,_,_,_,_,_,_,_,_,_,_,_,_,_,_,_,_,_,_,_,_,_,_,_,_,_,_,_,_,_,_,_,_,_,_,_,_,_,_,_,_,_,_,_,_,_,_,_,_,_,_,_,_,_,_,_,_,_,_,_,_,_,_,_,_,_,_,_,_,_,rfl,R6.out,L6,Nat.le_refl _⟩,by rw[EP.out];unfold fd1;rw[hno]⟩
  ·have R6:=zAd ((o6.block w.heap.size (by omega) (by omega)).trans R5.out)
   have L6:Below w.heap.size w w6:=L5.trans (o6.below L5.size (fun k hk e=>by omega));have HX:=zAd hx;by_cases hw0:wat x.1 4=0
   ·have t0:decide (wat x.1 4=0)=true:=by simp[hw0]
    have HW:=zAd hw0;clear hw0 hx;rw[t0];go_wp2_with fail;go_step3
    exact⟨rfl,⟨_,_,_,_,_,_,_,_,_,_,_,_,_,_,_,_,_,_,_,_,_,_,_,_,_,_,_,_,_,_,_,_,_,_,_,_,_,_,_,_,_,_,_,_,_,_,_,_,_,_,_,_,_,_,_,_,_,_,_,_,_,_,_,_,_,_,_,_,_,_,_,rfl,R6.out,L6,Nat.le_refl _⟩,by rw[EP.out];unfold fd1;rw[HX.out];exact if_neg (fun h=>h.1 HW.out)⟩
   ·have t0:decide (wat x.1 4=0)=false:=by simp[hw0]
    have HW:=zAd hw0;clear hw0 hx;rw[t0];have HOV:=zAd (zPw rb (some ⟨bb,off,none⟩) zs.length cp _ w6 b6);rw[show (sixR ⟨p4,1,0,0,0,0⟩ x.1 x.2).at0=x.2 from rfl]at HOV;have B6:=zAd b6;clear b6;by_cases hov:x.2=zs.length
    ·have t1:decide (x.2=zs.length)=true:=by simp[hov]
     rw[t1]at HOV;have HV:=zAd hov;clear hov t1 t0;go_wp2_with fail;refine HOV.out.mono ?_;rintro e w7 ⟨rfl,l7⟩;have R7:=zAd ((l7.block w.heap.size (eS R6.out)).trans R6.out);have L7:Below w.heap.size w w7:=L6.trans (l7.mono L6.size);have B7:=zAd (B6.out.later l7);have kB:=zAa B7.out;unfold rrc sixR at kB;have kR:=zAa R7.out;have fR:=zAc R7.out;go_wp2_with fail;simp only[Exit.jump];generalize hV:World.setCell _ ⟨w.heap.size,4,none⟩ _=V8;have hV9:V8=zAi w7 w.heap.size 0 [.int .i64 1,.int .i64 (p4:Int),.int .i64 (x.2:Int),.int .u32 (zAs x.1 0),.int .u16 (wat x.1 4)]:=hV.symm;have hb8:But (fun b=>b=w.heap.size) w7 V8:=by rw[hV9];exact zAf (E:=fun b=>b=w.heap.size) (n:=w.heap.size) rfl _ _ _ _ (But.refl _ _)
     have p8:=zAe [.int .i64 1,.int .i64 (p4:Int),.int .i64 (x.2:Int),.int .u32 (zAs x.1 0),.int .u16 (wat x.1 4)] R7.out rfl;rw[←hV9]at p8;clear hV hV9 kR fR kB;have P8:=zAa p8;have hw8:Below w.heap.size w V8:=L7.trans (hb8.below L7.size (fun k h e=>by omega));exact bodyPost_ret (v:=fdY 1 p4 x.2 (zAs x.1 0) (wat x.1 4)) (by unfold fdY;simp[results,Tryz.results10,go_sem,P8]) rfl ⟨by rw[EP.out];unfold fd1;rw[HX.out];exact congrArg _ (if_pos ⟨HW.out,HV.out⟩).symm,hw8⟩
    ·have t1:decide (x.2=zs.length)=false:=by simp[hov]
     rw[t1]at HOV;have HV:=zAd hov;clear hov t1 t0;go_wp2_with fail;refine HOV.out.mono ?_;rintro e w7 ⟨rfl,l7⟩;have R7:=zAd ((l7.block w.heap.size (eS R6.out)).trans R6.out);have L7:Below w.heap.size w w7:=L6.trans (l7.mono L6.size);go_wp2_with fail;go_step3
     exact⟨rfl,⟨_,_,_,_,_,_,_,_,_,_,_,_,_,_,_,_,_,_,_,_,_,_,_,_,_,_,_,_,_,_,_,_,_,_,_,_,_,_,_,_,_,_,_,_,_,_,_,_,_,_,_,_,_,_,_,_,_,_,_,_,_,_,_,_,_,_,_,_,_,_,_,rfl,R7.out,L7,Nat.le_refl _⟩,by rw[EP.out];unfold fd1;rw[HX.out];exact if_neg (fun h=>HV.out h.2)⟩
 ·rintro a' W ⟨⟨u0,u1,u2,u3,u5,u6,u7,u8,u9,u10,u11,u12,u13,u14,u15,u16,u17,u18,u19,u20,u21,u22,u23,u24,u25,u26,u27,u28,u29,u30,u31,u32,u33,u34,u35,u36,u37,u38,u39,u40,u41,u42,u43,u44,u45,u46,u47,u48,u49,u50,u51,u52,u53,u54,u55,u56,u57,u58,u59,u60,u61,u62,u63,u64,u65,u66,u67,u68,u69,u70,u71,rfl,hR,hb,hle⟩,hfd⟩
  have HFD:=zAd hfd;clear hfd;have kR:=zAa hR;have fR:=zAc hR;have HR:=zAd hR;clear hR;go_wp2
  simp only[Exit.jump];generalize hV:World.setCell _ ⟨w.heap.size,4,none⟩ _=V8;have hV9:V8=zAi W w.heap.size 0 [.int .i64 0,.int .i64 0,.int .i64 0,.int .u32 0,.int .u16 0]:=hV.symm;have hb8:But (fun b=>b=w.heap.size) W V8:=by rw[hV9];exact zAf (E:=fun b=>b=w.heap.size) (n:=w.heap.size) rfl _ _ _ _ (But.refl _ _)
  have p8:=zAe [.int .i64 0,.int .i64 0,.int .i64 0,.int .u32 0,.int .u16 0] HR.out rfl;rw[←hV9]at p8;clear hV hV9 kR fR;have P8:=zAa p8;have hw8:Below w.heap.size w V8:=hb.trans (hb8.below hb.size (fun k h e=>by omega));exact bodyPost_ret (v:= .tuple #[.agg #[.int .i64 0,.int .i64 0,.int .i64 0,.int .u32 0,.int .u16 0],.bool false]) (by simp[results,Tryz.results10,go_sem,P8]) rfl ⟨by rw[HFD.out];rfl,hw8⟩
def Kd1 (zs:List Int) (back:Bool):Prop:=zJ5 zs=true→((kdV (zs.take (zs.length-2)) 0 back).1=0∨(kdV (zs.take (zs.length-2)) 0 back).1=1)∧(kdV (zs.take (zs.length-2)) 0 back).2≤(zs.take (zs.length-2)).length
def zDt (zs:List Int) (back:Bool):Value:=if zJ5 zs=true then(if(kdV (zs.take (zs.length-2)) 0 back).1=1 then fd1 (zs.take (zs.length-2)) (kdV (zs.take (zs.length-2)) 0 back).2 else fdN)else fdN
theorem zDv {zs:List Int} (h:zJ5 zs=true):2≤zs.length∧zs.length≤128:=by
 unfold zJ5 zJ4 at h
 simp at h
 omega
theorem zCz(sv:Value)(zs:List Int)(back:Bool)(w:World)(hT:TabR w)(hB:Mt.By zs)(hI:Rd w.heap.size w sv zs)(hK:Kd1 zs back):
  Calls Tryz.prog 10 #[sv,.bool back] w fun e w'=>e= .returned (zDt zs back)∧Below w.heap.size w w':=by
 rcases hI with⟨a,c,rfl,rfl,hc⟩|⟨bb,off,cp,rfl,hne,hl,hm,hb,hcell⟩
 ·rw[show zDt [] back=fdN from rfl]
  exact zLj _ back w (fun W _=>zRv a c W)
 ·have hI:Rd w.heap.size w (.slice (some ⟨bb,off,none⟩) zs.length cp) zs:= .inr ⟨bb,off,cp,rfl,hne,hl,hm,hb,hcell⟩
  cases h1:zJ5 zs with
  |false=>
   rw[show zDt zs back=fdN from by unfold zDt;rw[if_neg (by rw[h1];simp)]];exact zLj _ back w (fun W l=>(zG3 bb off cp zs W (hT.later l) hB (hI.later l)).mono fun e w' h=>⟨by rw[h.1,zFx h1],h.2⟩)
  | true=>
   obtain⟨h2,h128⟩:=zDv h1;have hl2:(zs.take (zs.length-2)).length=zs.length-2:=by rw[List.length_take];omega
   obtain⟨hk,hp⟩:=hK h1;have hI2:Rd w.heap.size w (.slice (some ⟨bb,off,none⟩) (zs.take (zs.length-2)).length cp) (zs.take (zs.length-2)):=by rw[hl2];exact hI.take _ (by omega)
   have HL:∀W,Later w W→Calls Tryz.prog 27 #[.slice (some ⟨bb,off,none⟩) zs.length cp] W fun e w'=>e= .returned (.slice (some ⟨bb,off,none⟩) (zs.take (zs.length-2)).length cp)∧Later W w':=fun W l=>by
    rw[hl2];exact(zG3 bb off cp zs W (hT.later l) hB (hI.later l)).mono fun e w' h=>⟨by rw[h.1,zLh h1],h.2⟩
   unfold zDt;rw[if_pos h1];rcases hk with hk|hk
   ·rw[if_neg (by omega)]
    exact find_k0 _ back bb off cp (zs.take (zs.length-2)) w (by omega) hI2 hk HL
   ·rw[if_pos hk]
    exact find_k1 _ back bb off cp (zs.take (zs.length-2)) w (by omega) hI2 (hB.take _) (by omega) hk hp HL
def zBe (s:ByteArray):List Int:=s.data.toList.map fun b=>(b.toNat:Int)
theorem zAz(s:ByteArray):(zBe s).length=s.size:=by unfold zBe;rw[List.length_map,Array.length_toList];rfl
theorem zJs(s:ByteArray):Mt.By (zBe s):=fun z hz=>by
 simp only[zBe,List.mem_map]at hz;obtain⟨b,_,rfl⟩:=hz;have:=b.toNat_lt;omega
theorem zDw(w:World)(e:TypeId)(s:ByteArray):Later w (Lib.bytesWorld w e s):=
 ⟨rfl,rfl,rfl,by rw[Lib.bytesWorld_size];omega,fun i hi=>Lib.bytesWorld_at_old w e s i hi⟩
theorem zFz(w:World)(e:TypeId)(s:ByteArray)(hs:s.size≤140737488355328):Rd (Lib.bytesWorld w e s).heap.size (Lib.bytesWorld w e s) (.slice (some ⟨w.heap.size,0,none⟩) s.size (grownCap w s.size 0 e)) (zBe s):=by
 have hc:=grownCap_le_maxLen w s.size 0 e (by unfold maxLen;omega);unfold maxLen at hc;by_cases h0:s.size=0
 ·rw[h0]at hc⊢
  exact .inl ⟨_,_,rfl,List.eq_nil_of_length_eq_zero ((zAz s).trans h0),by omega,fun h=>by cases h⟩
 ·refine .inr ⟨w.heap.size,0,_,by rw[zAz],fun h=>h0 (by rw[←zAz,h];rfl),by rw[zAz];exact grownCap_ge _ _ _ _,by omega,by rw[Lib.bytesWorld_size];omega,fun j hj=> ?_⟩
  rw[zAz]at hj;rw[Nat.zero_add,Lib.bytesWorld_cell w e s j hj];have hj':j<s.data.toList.length:=by rw[Array.length_toList];exact hj
  simp only[zBe,List.getElem?_map,List.getD,List.getElem?_eq_getElem hj',Option.map_some,Option.getD_some]
def TabI (w:World):Prop:=Lib.TabIs Tryz.prog w "internal/strconv.uint64pow10" .u64 Lib.pow10Tab
theorem TabI.later {A B:World} (h:TabI A)(b:Later A B):TabI B:=by
 unfold TabI Lib.TabIs World.var? at*;cases hg:Tryz.prog.globalNamed "internal/strconv.uint64pow10" with
 |none=>simp[hg]at h
 | some g=>
  simp only[hg,Option.bind_some]at h⊢
  have hlt:g<A.heap.size:=by
   rcases Nat.lt_or_ge g A.heap.size with h'|h'
   ·exact h'
   ·simp[Array.getElem?_eq_none h']at h
  rw[b.block g hlt];exact h
def zC8 (n:Nat):ByteArray:=⟨(Lib.decDigits n).toArray⟩
theorem zJt(n:Nat)(w:World)(hT:TabI w)(hn:n≤1000000):
  Calls Tryz.prog 19 #[.int .i64 (n:Int)] w fun e w'=>e= .returned (.string (zC8 n))∧Below w.heap.size w w':=by
 refine(Any.strconv_Itoa itoaL (n:Int) (by omega) (by omega) w hT).mono ?_;rintro e w' ⟨rfl,k,os,rfl⟩;refine⟨?_,Lib.below_grow _ _ (Nat.le_refl _) _ _⟩;unfold Lib.itoa zC8;rw[if_neg (by omega)];rfl
theorem zVl:∀(k n:Nat),n<10^k→1≤k→(Lib.decDigits n).length≤k
 |0,n,_,h=>by omega
 | k+1,n,h,_=>by
  rw[Lib.decDigits];split
  ·simp
  ·rw[List.length_append,List.length_singleton]
   have hk:1≤k:=by
    rcases Nat.eq_zero_or_pos k with rfl|h'
    ·simp at h;omega
    ·exact h'
   have:=zVl k (n/10) (by rw[Nat.pow_succ]at h;omega) hk;omega
theorem zDn(n:Nat)(h:n≤65535):(zC8 n).size≤5:=by
 have:=zVl 5 n (by omega) (by omega);simpa[zC8,ByteArray.size]using this
theorem text_4(a:Int)(n:Nat)(w:World)(hT:TabI w)(hn:n≤65535):
  Calls Tryz.prog 6 #[.int .i64 4,.int .u32 a,.int .u16 (n:Int)] w fun e w'=>∃x c,e= .returned (.slice x (zBe (zC8 n)).length c)∧Rd w'.heap.size w' (.slice x (zBe (zC8 n)).length c) (zBe (zC8 n))∧Below w.heap.size w w':=by
 have HI:=zAd (zJt n w hT (by omega));have hs:=zDn n hn;have hcv:=fun W=>Lib.run_convert_string_bytes (P:=Tryz.prog) W 9 26 5 (zC8 n) Tryz.underlying9 Tryz.underlying26 Tryz.underlying5;have HR:=zAd (fun W=>zFz W 5 (zC8 n) (by omega));have HLn:=zAd (zAz (zC8 n));generalize zC8 n=s at*;have HS:=zAd hs;clear hs;go_enter Tryz.func6,Tryz.ntmps6;go_wp2_with fail;refine HI.out.mono ?_;rintro e w1 ⟨rfl,b1⟩;go_wp2_with fail;go_ret
 rw[HLn.out];exact⟨_,_,rfl,HR.out w1,Later.trans b1 (zDw w1 _ s)⟩
theorem zNk(l:List Int)(e:TypeId)(m:Nat × Nat)(w:World)(hne:l≠ [])(hm:l.length≤1000):Rd (w.alloc (.cells (l.map (Value.int .u8)).toArray e m)).heap.size (w.alloc (.cells (l.map (Value.int .u8)).toArray e m)) (.slice (some ⟨w.heap.size,0,none⟩) l.length l.length) l:=by
 refine .inr ⟨w.heap.size,0,l.length,rfl,hne,Nat.le_refl _,by omega,by simp,fun j hj=> ?_⟩;rw[Nat.zero_add,World.cell?_alloc_mark w _ _ _ j,List.getElem?_toArray,List.getElem?_map,List.getElem?_eq_getElem hj];rfl
theorem joinX:Builder.Extra Tryz.prog zLi:= { sizeBuilder:=by kernel_rfl,liesBuilder:=by kernel_rfl,t5:=Tryz.underlying5,a5:=Tryz.isAgg5,z5:=Tryz.sizeOf5,v5:=Tryz.zeroValue5,infoByte:=by kernel_rfl,cellsByte:=by kernel_rfl,sizeByte:=by kernel_rfl,neB5:=by decide }
theorem info_str:(Tryz.prog.info? 9).map (fun i=>(i.zero,i.size,i.bytes))=some (some (.string ⟨#[]⟩),1,16):=by kernel_rfl
theorem zNl {P:Program} {t:TypeId} {z:Value} {a b:Nat} (h:(P.info? t).map (fun i=>(i.zero,i.size,i.bytes))=some (some z,a,b)):∃i,P.info? t=some i∧i.zero=some z∧i.size=a∧i.bytes=b:=by
 cases hi:P.info? t with
 |none=>rw[hi]at h;cases h
 |some i=>rw[hi]at h;simp at h;exact⟨i,rfl,h.1,h.2.1,h.2.2⟩
theorem new_str(W:World)(xs:List Value):∀j u,xs[j]? =some u→(W.alloc (.cells xs.toArray 9)).cell? ((⟨W.heap.size,0,none⟩:Addr).add j)=some u:=fun j u hj=>by
 rw[show (⟨W.heap.size,0,none⟩:Addr).add j=⟨W.heap.size,j,none⟩from by unfold Addr.add;split<;>simp_all,zAa (heap_alloc_new W _) j];simpa using hj
theorem zG5 {base:Nat} {e:TypeId} {size:Nat} {A B:World} {v:Value} {n:Nat} {xs:List Value} (h:A.ownsRow base e size v n xs)(c:Later A B):B.ownsRow base e size v n xs:=by
 obtain⟨h1,h2|⟨g,cap,cur,hv,hg,hh,r⟩⟩:=h
 ·exact ⟨h1,.inl h2⟩
 ·exact ⟨h1,.inr ⟨g,cap,cur,hv,hg,zAb c hh,r⟩⟩
theorem zIl {w:World} {base:Nat} {e:TypeId} {size:Nat} {v:Value} {n:Nat} {xs:List Value} (h:w.ownsRow base e size v (n+1) xs):∃g cp,v= .slice (some ⟨g,0,none⟩) (n+1) cp:=by
 obtain⟨_,⟨_,h⟩|⟨g,cap,cur,hv,_⟩⟩:=h
 ·omega
 ·exact ⟨g,cap,hv⟩
def strs (l:List ByteArray):List Value:=l.map Value.string
theorem zVm(l:List ByteArray)(x:ByteArray):strs (l++[x])=strs l++[.string x]:=by unfold strs;simp
theorem zNm {ops:Array Oper} {rest:List Oper} {o:Oper} {a:Act} {Q:Exit→Act→World→Prop} {W:World} (hgd:o.guard=none)(s y:Operand)
  (ho:o.op= .call { callee:= .builtin .append,args:=#[s,y],argTypes:=#[126,126] })(base:Nat)(v:Value)(M:List ByteArray)(x:ByteArray)
  (hs:a.eval s=v)(hy:a.eval y= .slice (some ⟨W.heap.size,0,none⟩) 1 1)(hown:W.ownsRow base 9 1 v M.length (strs M))(hb:base≤W.heap.size)(hM:M.length≤100000)
  (h:∀g cp W2,W2.ownsRow base 9 1 (.slice (some ⟨g,0,none⟩) (M.length+1) cp) (M++[x]).length (strs (M++[x]))→Below base W W2→wpList Tryz.prog ops Q rest (a.put o.dst (.slice (some ⟨g,0,none⟩) (M.length+1) cp)) W2):
  wpList Tryz.prog ops Q (o::rest) a (W.alloc (.cells #[.string x] 9)):=by
 obtain⟨i0,hi0,hz0,hz1,hz2⟩:=zNl info_str;have la:Later W (W.alloc (.cells #[.string x] 9)):=bA _ _;have hownA:=zG5 hown la;refine wpList_append_own _ hgd s y 126 ho base 9 i0 (.string ⟨#[]⟩) 1 16 Tryz.underlying126 hi0 hz0 hz1 hz2 rfl (by decide) v M.length (strs M) hs hownA ⟨W.heap.size,0,none⟩ 1 1 [.string x] hy rfl (new_str W [.string x]) (by intro u hu;simp at hu;subst hu;rfl) (by unfold maxLen;omega) (by omega) (by have:=la.size;omega) ?_;intro v2 W2 hrow hg _
 obtain⟨g2,cp2,rfl⟩:=zIl hrow;refine h g2 cp2 W2 ?_ ?_
 ·rw[zVm,List.length_append,List.length_singleton]
  exact hrow
 ·refine (la.mono hb).trans ⟨hg.os,hg.tape,hg.output,hg.size,fun i hi=>hg.block i (by have:=la.size;omega) (fun e=> ?_)⟩
  have:=(hown.lt i e.symm).1;omega
def zG6 (mk:ByteArray) (zs:List Int):ByteArray:=⟨(Lib.join ((zs.map fun z=>zC8 z.toNat).map (·.data.toList)) mk.data.toList).toArray⟩
theorem join_any(bk c:Nat)(xs:List ByteArray)(sep:ByteArray)(w:World)(hc:w.ownsRow 0 9 1 (.slice (some ⟨bk,0,none⟩) xs.length c) xs.length (strs xs))(hlen:(Lib.join (xs.map (·.data.toList)) sep.data.toList).length≤140737488355328)(hN:xs.length≤100000):
  Calls Tryz.prog 47 #[.slice (some ⟨bk,0,none⟩) xs.length c,.string sep] w fun e w'=>e= .returned (.string ⟨(Lib.join (xs.map (·.data.toList)) sep.data.toList).toArray⟩)∧Later w w':=by
 obtain⟨_,⟨e,_⟩|⟨g,cap,cur,e,_,hh,h1,h2,h3,h4⟩⟩:=hc
 ·cases e
 cases e
 refine Any.strings_Join joinL joinX bk 0 c xs sep w (fun j x hj=> ?_) (eS hh) (by omega) h1 hlen;have hj':j<xs.length:=(List.getElem?_eq_some_iff.1 hj).1;rw[Nat.zero_add,zAa hh,←Array.getElem?_toList];have h5:=congrArg (·[j]?) h4;simp only[Nat.mul_one]at h5;rw[List.getElem?_take,if_pos hj']at h5;rw[h5];unfold strs;rw[List.getElem?_map,hj];rfl
theorem zP4(mk:ByteArray)(sv:Value)(zs:List Int)(w:World)(hT:TabI w)(hB:Mt.By zs)(hI:Rd w.heap.size w sv zs)(hn:zs.length≤100)(hne:zs≠ [])(hlen:(zG6 mk zs).size≤1000000):
  Calls Tryz.prog 20 #[.string mk,sv] w fun e w'=>e= .returned (.string (zG6 mk zs))∧Below w.heap.size w w':=by
 obtain⟨av,cv,rfl,hlv,hmv⟩:=hI.slice;have HT:=zAd hT;have HI:=zAd hI;have HB:=zAd hB;have HNE:=zAd hne;have HLE:=zAd hlen;clear hT hI hB hne hlen;have hzl:(zs.length:Int)≤100:=by omega
 go_enter Tryz.func20,Tryz.ntmps20;go_wp2_with fail;go_loopw [5,10] (fun v5 v10 wr=>∃k:Nat,k≤zs.length∧v10= .int .i64 (k:Int)∧wr.ownsRow w.heap.size 9 1 v5 ((zs.take k).map fun z=>zC8 z.toNat).length (strs ((zs.take k).map fun z=>zC8 z.toNat))∧Later w wr) (fun _ v10 _=>zs.length-(intOf v10).toNat)
 case atStart=>exact⟨0,by omega,rfl,⟨rfl,.inl ⟨rfl,rfl⟩⟩,Later.refl _⟩
 case round=>
  obtain⟨k,hk,rfl,hown,l1⟩:=hrel;have HO:=zAd hown;clear hown;by_cases hlt:k<zs.length
  ·have hlt':(k:Int)<zs.length:=by omega
   obtain⟨bb,off,cp,he,hl5,hl6,hl7,hcell⟩:=(HI.out.later l1).cells (by omega);obtain⟨rfl,rfl⟩:av=some ⟨bb,off,none⟩∧cv=cp:=by injection he with h1 h2 h3;exact⟨h1,h3⟩
   clear he;have hck:=hcell k hlt;have hzb:=Mt.By.at HB.out k
   have HS:Hid ((zs.take (k+1)).map (fun z=>zC8 z.toNat)=(zs.take k).map (fun z=>zC8 z.toNat)++[zC8 (zs[k]?.getD 0).toNat]):=by
    show _=_
    rw[List.take_succ_eq_append_getElem hlt,List.map_append,List.getElem?_eq_getElem hlt];rfl
   clear hcell;generalize hM:(zs.take k).map (fun z=>zC8 z.toNat)=M at HO HS;have HML:Hid (M.length=k):=by show _=_;rw[←hM,List.length_map,List.length_take];omega
   clear hM;obtain⟨n,hn'⟩:∃n:Nat,zs[k]?.getD 0=(n:Int):=⟨(zs[k]?.getD 0).toNat,by omega⟩;rw[hn']at hck hzb HS;rw[Int.toNat_natCast]at HS;have HIT:=zAd (zJt n wr (HT.out.later l1) (by omega));generalize zC8 n=x at*;clear hn';go_wp2_with fail;refine HIT.out.mono ?_;rintro e w2 ⟨rfl,b2⟩;have HO2:=zAd (zG5 HO.out b2);have l2:Later w w2:=l1.trans b2;have hws:w.heap.size≤w2.heap.size:=l2.size;have hM1:M.length≤100000:=by rw[HML.out];omega
   go_wp2_with (at_builtin;refine zNm rfl (.tmp 14) (.tmp 18) rfl w.heap.size _ M x rfl rfl HO2.out hws hM1 ?_;intro g cp w3 hown3 b3;refine Hid.out ?_)
   have HO3:=zAd hown3;clear hown3;have l3:Later w w3:=Below.trans l2 b3;show wpList _ _ _ _ _ _
   go_wp2_with fail;go_roundw
   case rel=>exact⟨k+1,hlt,by go_num,by rw[HS.out];exact HO3.out,l3⟩
   case measure=>simp[intOf];omega
  ·obtain rfl:k=zs.length:=by omega
   rw[List.take_length]at HO
   have hgb:∃g cp,u5= .slice (some ⟨g,0,none⟩) (zs.map fun z=>zC8 z.toNat).length cp:=by
    have hl:(zs.map fun z=>zC8 z.toNat).length=zs.length-1+1:=by
     rw[List.length_map];have:zs.length≠0:=fun h=>HNE.out (List.length_eq_zero_iff.1 h);omega
    have:=HO.out;rw[hl]at this⊢;exact zIl this
   obtain⟨g,cp,rfl⟩:=hgb
   have h0:wr.ownsRow 0 9 1 (.slice (some ⟨g,0,none⟩) (zs.map fun z=>zC8 z.toNat).length cp) (zs.map fun z=>zC8 z.toNat).length (strs (zs.map fun z=>zC8 z.toNat)):=by
    obtain⟨h1,h2|⟨g,cap,cur,hv,hg,hh,r⟩⟩:=HO.out
    ·exact ⟨h1,.inl h2⟩
    ·exact ⟨h1,.inr ⟨g,cap,cur,hv,Nat.zero_le _,hh,r⟩⟩
   have HJ:=zAd (join_any g cp (zs.map fun z=>zC8 z.toNat) mk wr h0 (by have:=HLE.out;unfold zG6 at this;have e:∀l:List UInt8,(⟨l.toArray⟩:ByteArray).size=l.length:=fun _=>rfl;rw[e]at this;omega) (by rw[List.length_map];omega));have HRW:Hid ((⟨(Lib.join ((zs.map fun z=>zC8 z.toNat).map (·.data.toList)) mk.data.toList).toArray⟩:ByteArray)=zG6 mk zs):=rfl;rw[HRW.out]at HJ;generalize hrb:zG6 mk zs=rb at*;have ERB:=zAd hrb;clear hrb;generalize (zs.map fun z=>zC8 z.toNat)=xs at*;clear h0 HO HRW;go_wp2_with fail;refine HJ.out.mono ?_;rintro e w4 ⟨rfl,b4⟩;go_wp2_with fail;go_ret
   exact⟨by rw[ERB.out];rfl,l1.trans b4⟩
theorem zP5(l m:List UInt8)(r:List (List UInt8))(sep:List UInt8):Lib.join (l::m::r) sep=l++(sep++Lib.join (m::r) sep):=by simp[Lib.join,List.intercalate,List.intersperse]
theorem zVn(sep:List UInt8)(k:Nat):∀ls:List (List UInt8),(∀l∈ls,l.length≤k)→(Lib.join ls sep).length≤ls.length*(k+sep.length)
 | [],_=>by simp[Lib.join]
 | [l],h=>by have:=h l (by simp);simp[Lib.join];omega
 |l::m::r,h=>by
  have h1:=h l (by simp);have h2:=zVn sep k (m::r) (fun x hx=>h x (by simp[hx]));rw[zP5,List.length_append,List.length_append,List.length_cons,Nat.succ_mul];omega
theorem zDo(mk:ByteArray)(zs:List Int)(h:Mt.By zs):(zG6 mk zs).size≤zs.length*(5+mk.size):=by
 have:=zVn mk.data.toList 5 ((zs.map fun z=>zC8 z.toNat).map (·.data.toList)) (fun l hl=>by
  simp only[List.mem_map]at hl;obtain⟨x,⟨z,hz,rfl⟩,rfl⟩:=hl;have h2:=h z hz;have h3:=zDn z.toNat (by omega);rw[Array.length_toList];exact h3)
 rw[List.length_map,List.length_map,Array.length_toList]at this;exact this
def ad4 (a:Int):List Int:=[a/16777216,a/65536 % 256,a/256 % 256,a % 256]
theorem zD1(a:Int)(h:0≤a∧a≤4294967295):Mt.By (ad4 a):=fun z hz=>by
 simp[ad4]at hz
 omega
def po2 (p:Int):List Int:=[p/256,p % 256]
theorem zP6(p:Int)(h:0≤p∧p≤65535):Mt.By (po2 p):=fun z hz=>by
 simp[po2]at hz
 omega
theorem zNn(a:Int)(h:0≤a∧a≤4294967295)(w:World)(hT:TabI w):
  Calls Tryz.prog 18 #[.int .u32 a] w fun e w'=>e= .returned (.string (zG6 zG1 (ad4 a)))∧Below w.heap.size w w':=by
 have la:Later w (w.alloc (.cells ((ad4 a).map (Value.int .u8)).toArray 5)):=zAt _ _;have HR:=zAd (zP4 zG1 _ (ad4 a) _ (hT.later la) (zD1 a h) (zNk (ad4 a) 5 (0,0) w (by simp[ad4]) (by simp[ad4])) (by simp[ad4]) (by simp[ad4]) (Nat.le_trans (zDo zG1 (ad4 a) (zD1 a h)) (by simp[ad4,zG1,ByteArray.size])));generalize hrb:zG6 zG1 (ad4 a)=rb at HR;have ERB:=zAd hrb;clear hT hrb;unfold zG1 at HR;go_enter Tryz.func18,Tryz.ntmps18;go_wp2_with fail;refine HR.out.mono ?_;rintro e w1 ⟨rfl,b1⟩;have l1:Later w w1:=la.trans b1;go_wp2_with fail;go_ret
 exact⟨rfl,l1⟩
def zB0 (k a:Int) (p:Nat):ByteArray:=if k=2 then zLy++zG6 zG1 (ad4 a)++zDy++zC8 p++zDy else if k=4 then zC8 p else zG6 cma (ad4 a++po2 p)
theorem text_2(a:Int)(h:0≤a∧a≤4294967295)(n:Nat)(w:World)(hT:TabI w)(hn:n≤65535):
  Calls Tryz.prog 6 #[.int .i64 2,.int .u32 a,.int .u16 (n:Int)] w fun e w'=>∃x c,e= .returned (.slice x (zBe (zB0 2 a n)).length c)∧Rd w'.heap.size w' (.slice x (zBe (zB0 2 a n)).length c) (zBe (zB0 2 a n))∧Below w.heap.size w w':=by
 have HA:=zAd (zNn a h w hT);have HIT:=zAd (fun W (l:Later w W)=>zJt n W (hT.later l) (by omega));have hs1:=zDo zG1 (ad4 a) (zD1 a h);have hs2:=zDn n hn
 have hsz:(zB0 2 a n).size≤100:=by
  unfold zB0;rw[if_pos rfl];simp only[ByteArray.size_append];have:zLy.size=3:=rfl;have:zDy.size=1:=rfl;have h3:(ad4 a).length*(5+zG1.size)=24:=rfl;omega
 have hcv:=fun W=>Lib.run_convert_string_bytes (P:=Tryz.prog) W 9 26 5 (zB0 2 a n) Tryz.underlying9 Tryz.underlying26 Tryz.underlying5;have HR:=zAd (fun W=>zFz W 5 (zB0 2 a n) (by omega));have HLn:=zAd (zAz (zB0 2 a n));have hE:zB0 2 a n=zLy++zG6 zG1 (ad4 a)++zDy++zC8 n++zDy:=by unfold zB0;rw[if_pos rfl]
 rw[hE]at hcv;unfold zLy zDy at hcv;have HE:=zAd hE;have hs1':(zG6 zG1 (ad4 a)).size≤24:=hs1;generalize zG6 zG1 (ad4 a)=rb at*;generalize zC8 n=s at*;have q1:(rb.size:Int)≤24:=by omega
 have q2:(s.size:Int)≤5:=by omega
 clear hE hs1 hs2 hsz hT;go_enter Tryz.func6,Tryz.ntmps6;go_wp2_with fail;refine HA.out.mono ?_;rintro e w1 ⟨rfl,b1⟩;go_wp2_with fail;refine(HIT.out w1 b1).mono ?_;rintro e w2 ⟨rfl,b2⟩;have l2:Later w w2:=Later.trans b1 b2;go_wp2_with fail;go_ret
 rw[HLn.out];have e:((⟨#[124,49,124]⟩:ByteArray)++rb++⟨#[124]⟩++s++⟨#[124]⟩)=zB0 2 a n:=HE.out.symm;have hsz2:3+rb.size+1+s.size+1=(zB0 2 a n).size:=by rw[←e];simp only[ByteArray.size_append];rfl
 rw[e];refine⟨some ⟨w2.heap.size,0,none⟩,grownCap w2 (zB0 2 a n).size 0 5,?_,HR.out w2,Later.trans l2 (zDw w2 _ _)⟩;rw[←hsz2];rfl
theorem text_6(k a:Int)(hk:k≠0∧k≠2∧k≠4)(h:0≤a∧a≤4294967295)(n:Nat)(w:World)(hT:TabI w)(hn:n≤65535):
  Calls Tryz.prog 6 #[.int .i64 k,.int .u32 a,.int .u16 (n:Int)] w fun e w'=>∃x c,e= .returned (.slice x (zBe (zB0 k a n)).length c)∧Rd w'.heap.size w' (.slice x (zBe (zB0 k a n)).length c) (zBe (zB0 k a n))∧Below w.heap.size w w':=by
 have la:Later w (w.alloc (.cells ((ad4 a++po2 n).map (Value.int .u8)).toArray 5)):=zAt _ _
 have hby:Mt.By (ad4 a++po2 n):=fun z hz=>by
  rcases List.mem_append.1 hz with hz|hz
  ·exact zD1 a h z hz
  ·exact zP6 n (by omega) z hz
 have hrs:(zG6 cma (ad4 a++po2 n)).size≤36:=zDo cma (ad4 a++po2 n) hby
 have HRW:=zAd (zP4 cma _ (ad4 a++po2 n) _ (hT.later la) hby (zNk (ad4 a++po2 n) 5 (0,0) w (by simp[ad4]) (by simp[ad4,po2])) (by simp[ad4,po2]) (by simp[ad4]) (by omega));have hE:zB0 k a n=zG6 cma (ad4 a++po2 n):=by unfold zB0;rw[if_neg hk.2.1,if_neg hk.2.2]
 rw[hE];have hcv:=fun W=>Lib.run_convert_string_bytes (P:=Tryz.prog) W 9 26 5 (zG6 cma (ad4 a++po2 n)) Tryz.underlying9 Tryz.underlying26 Tryz.underlying5;have HR:=zAd (fun W=>zFz W 5 (zG6 cma (ad4 a++po2 n)) (by omega));have HLn:=zAd (zAz (zG6 cma (ad4 a++po2 n)));generalize zG6 cma (ad4 a++po2 n)=s at*;clear hE hrs hT hby
 unfold cma at HRW;have k0:(k==0)=false:=by simp[hk.1]
 have k2:(k==2)=false:=by simp[hk.2.1]
 have k4:(k==4)=false:=by simp[hk.2.2]
 clear hk;go_enter Tryz.func6,Tryz.ntmps6;go_wp2_with fail;refine HRW.out.mono ?_;rintro e w1 ⟨rfl,b1⟩;have l1:Later w w1:=la.trans b1;go_wp2_with fail;go_ret
 rw[HLn.out];exact⟨_,_,rfl,HR.out w1,Later.trans l1 (zDw w1 _ s)⟩
theorem zP7(k a:Int)(hk:k≠0)(h:0≤a∧a≤4294967295)(n:Nat)(w:World)(hT:TabI w)(hn:n≤65535):
  Calls Tryz.prog 6 #[.int .i64 k,.int .u32 a,.int .u16 (n:Int)] w fun e w'=>∃x c,e= .returned (.slice x (zBe (zB0 k a n)).length c)∧Rd w'.heap.size w' (.slice x (zBe (zB0 k a n)).length c) (zBe (zB0 k a n))∧Below w.heap.size w w':=by
 by_cases h2:k=2
 ·subst h2;exact text_2 a h n w hT hn
 ·by_cases h4:k=4
  ·subst h4;exact text_4 a n w hT hn
  ·exact text_6 k a ⟨hk,h2,h4⟩ h n w hT hn
end Go.Proofs.YteaeilghamjjkaaGreatDoor
