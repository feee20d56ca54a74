import Derived.Test.YteaeilghamjjkaaGreatDoorX8
import Derived.Deep.Cut
import Derived.Laws.RangeAny
import Derived.Deep.DeepCutAuto
import Derived.Deep.CutBlock
namespace Go.Proofs.YteaeilghamjjkaaGreatDoor
set_option maxHeartbeats 8000000
open Go.RowKit Go.Shelf
set_option maxRecDepth 100000
set_option linter.unusedVariables false
set_option linter.unusedSimpArgs false
theorem RdO.anyF {n n':Nat} {A B:World} {v:Value} (h:RdO n A v []):RdO n' B v []:=by
 rcases h with⟨a,cap,h1,h2,h3⟩|⟨b,off,cap,h1,h2,h3⟩
 ·exact .inl ⟨a,cap,h1,h2,h3⟩
 ·exact absurd rfl h2
theorem zRn {src dst sp dp sq ak fl:Int} {zm z:List Int} (h:TG src dst sp dp sq ak fl zm z)(tos id ttl:Int)(keep:Bool)(so sd:Value)(w:World)(hI:Rd w.heap.size w sd z)(hl:zm.length≤500)(hsr:0≤src∧src≤4294967295)(hds:0≤dst∧dst≤4294967295):
  Calls Tryz.prog 26 #[.agg #[.int .u8 tos,.int .u16 id,.bool keep,.int .u8 ttl,.int .u8 6,.int .u32 src,.int .u32 dst,so,sd]] w fun e w'=>Later w w'∧∃aO cO am cm,e= .returned (.tuple #[.agg #[.int .u16 sp,.int .u16 dp,.int .u32 sq,.int .u32 ak,.int .u8 fl,.int .u16 0,.int .u16 0,.slice aO 0 cO,.slice am zm.length cm],.int .i64 0])∧Ow w.heap.size w' (.slice am zm.length cm) zm∧∀n V,RdO n V (.slice aO 0 cO) []:=by
 refine(zCk tos id ttl 6 src dst keep so sd z w h.by_ hI (by have:=h.len;omega) hsr hds).mono ?_;rintro e w' ⟨hb,⟨hx,_⟩|⟨_,os,aO,cO,ad,cd,ho,rfl,hO,hD⟩⟩
 ·exact absurd h.ok hx
 have hos:os=[]:=by
  rw[h.hp]at ho;have:zCf ([]:List Int)=some []:=by decide
  rw[this]at ho;exact(Option.some.inj ho).symm
 subst hos;have hn:z.length-(thd z).toNat=zm.length:=by rw[h.th,h.len];simp
 have hd:z.drop (thd z).toNat=zm:=by rw[h.th];exact h.dat
 rw[hd,hn]at hD;rw[hn,h.a,h.b,h.sq,h.ak,h.fl,h.wn,h.ur];exact⟨hb,aO,cO,ad,cd,rfl,hD,fun n V=>hO.rd.anyF⟩
theorem zU4(src dst sp dp sq ak sq2 ak2 fl:Int)(zm zm2:List Int)(oa da aO aP:Option Addr)(co ld cd cO cP:Nat)(am am2:Option Addr)(cm cm2:Nat)(w:World)(hsr:0≤src∧src≤4294967295)(hds:0≤dst∧dst≤4294967295)(h1:0≤sp∧sp≤65535)(h2:0≤dp∧dp≤65535)(h3:0≤sq2∧sq2≤4294967295)(h4:0≤ak2∧ak2≤4294967295)(h5:0≤fl∧fl≤255)(hB:Mt.By zm)(hB2:Mt.By zm2)(hne:¬(sq=sq2∧ak=ak2∧zm=zm2))(hl:zm.length≤500)(hl2:zm2.length≤500)(hO:Rd w.heap.size w (.slice oa 0 co) [])(hRO:RdO w.heap.size w (.slice aO 0 cO) [])(hRP:RdO w.heap.size w (.slice aP 0 cP) [])(hM:Rd w.heap.size w (.slice am zm.length cm) zm)(hM2:Rd w.heap.size w (.slice am2 zm2.length cm2) zm2):
  Calls Tryz.prog 360 #[.agg #[.int .u8 0,.int .u16 0,.bool false,.int .u8 64,.int .u8 6,.int .u32 src,.int .u32 dst,.slice oa 0 co,.slice da ld cd],.agg #[.int .u16 sp,.int .u16 dp,.int .u32 sq,.int .u32 ak,.int .u8 fl,.int .u16 0,.int .u16 0,.slice aO 0 cO,.slice am zm.length cm],.agg #[.int .u16 sp,.int .u16 dp,.int .u32 sq2,.int .u32 ak2,.int .u8 fl,.int .u16 0,.int .u16 0,.slice aP 0 cP,.slice am2 zm2.length cm2]] w fun e w'=>Later w w'∧∃a7 c7 a8 c8 z,e= .returned (.agg #[.int .u8 0,.int .u16 0,.bool false,.int .u8 64,.int .u8 6,.int .u32 src,.int .u32 dst,.slice a7 0 c7,.slice a8 z.length c8])∧TG src dst sp dp sq2 ak2 fl zm2 z∧Ow w.heap.size w' (.slice a7 0 c7) []∧Ow w.heap.size w' (.slice a8 z.length c8) z:=by
 obtain⟨l0,c0,c1,c2,c3⟩:=zU2 w (.cells #[.int .u8 0,.int .u16 0,.bool false,.int .u8 64,.int .u8 6,.int .u32 src,.int .u32 dst,.slice oa 0 co,.slice da ld cd] 40) (.cells #[.int .u16 sp,.int .u16 dp,.int .u32 sq,.int .u32 ak,.int .u8 fl,.int .u16 0,.int .u16 0,.slice aO 0 cO,.slice am zm.length cm] 32) (.cells #[.int .u16 sp,.int .u16 dp,.int .u32 sq2,.int .u32 ak2,.int .u8 fl,.int .u16 0,.int .u16 0,.slice aP 0 cP,.slice am2 zm2.length cm2] 32) (.cells #[.int .u8 0,.int .u16 0,.bool false,.int .u8 0,.int .u8 0,.int .u32 0,.int .u32 0,.slice none 0 0,.slice none 0 0] 40);have HST:=zAd (fun W (l:Later w W)=>zGw sp sp dp dp sq sq2 ak ak2 fl fl 0 0 0 0 (.slice aO 0 cO) (.slice aP 0 cP) (.slice am zm.length cm) (.slice am2 zm2.length cm2) [] [] zm zm2 W (by intro o ho;cases ho) (by intro o ho;cases ho) hB hB2 (hRO.laterP l) (hRP.laterP l) (hM.later l) (hM2.later l));have hsm:smT sp sp dp dp sq sq2 ak ak2 fl fl 0 0 0 0 [] [] zm zm2=false:=by rw[Bool.eq_false_iff];intro hh;exact hne (by simpa[smT]using hh)
 rw[hsm]at HST;have HBT:=zAd (fun W (l:Later w W)=>zFi 0 0 64 6 src dst sp dp sq2 ak2 fl 0 0 false (.slice oa 0 co) (.slice da ld cd) (.slice aP 0 cP) (.slice am2 zm2.length cm2) [] zm2 [] W Mt.By.nil (hO.later l) hB2 (hM2.later l) (by intro o ho;cases ho) (hRP.laterP l) (by intro o ho;cases ho) (by simp) (by omega) (by omega) (by omega) (by omega) hsr hds h1 h2 h3 h4 h5 (by omega) (by omega));have HTG:=zAd (zPs src dst sp dp sq2 ak2 fl zm2 hsr hds h1 h2 h3 h4 h5 hB2)
 have hz0:(bte [] ([]:List Int).length zm2.length=0):=by
  unfold bte;rw[if_pos zI0];unfold flt;rw[if_neg (by simp),if_neg (by simp[pad,obs,zHd];omega)]
 have HZ:=zAd hz0;have C0:=zAd c0;have C1:=zAd c1;have C2:=zAd c2;have C3:=zAd c3;clear hsm hz0 c0 c1 c2 c3 hO hRO hRP hM hM2 hne;go_enter Tryz.func360,Tryz.ntmps360;go_upto_region 1 with fail;generalize hw1:World.alloc _ _=w1 at*;clear hw1;generalize hgx:w.heap.size=g0 at C0 C1 C2 C3⊢;have k1:=zAa C1.out;have k2:=zAa C2.out;have HS1:=zAd (HST.out w1 l0);clear HST;go_wp2_with fail;refine HS1.out.mono ?_;rintro e w2 ⟨rfl,l2⟩;have l2':Later w1 w2:=l2;have D0:=zAd (zAb l2' C0.out);have D2:=zAd (zAb l2' C2.out);have D3:=zAd (zAb l2' C3.out);have L2:Later w w2:=l0.trans l2';clear k1 k2 HS1 C0 C1 C2 C3 l2 l2';have k0:=zAa D0.out;have k2:=zAa D2.out;have HB1:=zAd (HBT.out w2 L2);clear HBT;go_wp2_with fail;refine HB1.out.mono ?_;rintro e w3 ⟨hb3,⟨hx,_⟩|⟨_,a7,c7,a8,c8,rfl,hO7,hD8⟩⟩
 ·exact absurd HZ.out hx
 have hb3':Later w2 w3:=hb3;have hnl:20+(pad (obs [])).length+zm2.length=20+zm2.length:=by simp[pad,obs,zHd]
 rw[hnl]at hD8⊢;have hz6:tcp sp dp sq2 ak2 fl 0 0 (pad (obs [])) src dst zm2=tcp sp dp sq2 ak2 fl 0 0 [] src dst zm2:=by simp[pad,obs,zHd]
 rw[hz6]at hD8;clear hnl hz6;generalize tcp sp dp sq2 ak2 fl 0 0 [] src dst zm2=z at*;have hzl:=HTG.out.len;rw[←hzl]at hD8⊢;have la:=zAg w3 (.cells #[.int .u8 0,.int .u16 0,.bool false,.int .u8 64,.int .u8 6,.int .u32 src,.int .u32 dst,.slice a7 0 c7,.slice a8 z.length c8] 40);have E0:=zAd (zAb (hb3'.trans la) D0.out);have E3:=zAd (zAb (hb3'.trans la) D3.out);have EN:=zAd (heap_alloc_new w3 (.cells #[.int .u8 0,.int .u16 0,.bool false,.int .u8 64,.int .u8 6,.int .u32 src,.int .u32 dst,.slice a7 0 c7,.slice a8 z.length c8] 40));have O7:=zAd ((hO7.mono L2.size).later la);have O8:=zAd ((hD8.mono L2.size).later la);have L4:=L2.trans (hb3'.trans la);clear hO7 hD8 hzl D0 D2 D3 la hb3 hb3' k0 k2 HB1 HZ;go_upto_region 4 with fail;generalize w3.alloc _=w4 at*;generalize w3.heap.size=g3 at*;have k0:=zAa E0.out;have k4:=zAa EN.out;go_wp2_with fail;refine(built_ok src dst oa da a7 a8 0 co ld cd 0 c7 z.length c8 w4).mono ?_;rintro e w5 ⟨rfl,l5⟩;have F3:=zAd (zAb l5 E3.out);have L5:=L4.trans l5;have O7':=zAd (O7.out.later l5);have O8':=zAd (O8.out.later l5);clear k0 k4 E0 E3 EN O7 O8 l5 L4;have k2:=zAa F3.out;have f2:=zAc F3.out;go_wp2_with fail;generalize hV:World.setCell _ ⟨_,8,none⟩ _=V8;have hV9:V8=zAi w5 (g0+1+1+1) 0 [.int .u8 0,.int .u16 0,.bool false,.int .u8 64,.int .u8 6,.int .u32 src,.int .u32 dst,.slice a7 0 c7,.slice a8 z.length c8]:=hV.symm
 have hb8:But (fun b=>b=g0+1+1+1) w5 V8:=by rw[hV9];exact zAf (E:=fun b=>b=g0+1+1+1) (n:=g0+1+1+1) rfl _ _ _ _ (But.refl _ _)
 have p8:=zAe [.int .u8 0,.int .u16 0,.bool false,.int .u8 64,.int .u8 6,.int .u32 src,.int .u32 dst,.slice a7 0 c7,.slice a8 z.length c8] F3.out rfl;rw[←hV9]at p8;clear hV hV9;have P8:=zAa p8;exact bodyPost_ret (v:= .agg #[.int .u8 0,.int .u16 0,.bool false,.int .u8 64,.int .u8 6,.int .u32 src,.int .u32 dst,.slice a7 0 c7,.slice a8 z.length c8]) (by simp[results,Tryz.results360,go_sem,P8]) rfl ⟨Below.trans L5 (hb8.below L5.size (fun k hk e=>by have e':k=g0+1+1+1:=e;omega)),a7,c7,a8,c8,z,rfl,HTG.out,O7'.out.asideF F3.out (by decide) hb8,O8'.out.asideF F3.out (by decide) hb8⟩
theorem zRo(src dst sp dp sq ak fl:Int)(zm:List Int)(oa da aO aP:Option Addr)(co ld cd cO cP:Nat)(am am2:Option Addr)(cm cm2:Nat)(w:World)(hB:Mt.By zm)(hRO:RdO w.heap.size w (.slice aO 0 cO) [])(hRP:RdO w.heap.size w (.slice aP 0 cP) [])(hM:Rd w.heap.size w (.slice am zm.length cm) zm)(hM2:Rd w.heap.size w (.slice am2 zm.length cm2) zm):
  Calls Tryz.prog 360 #[.agg #[.int .u8 0,.int .u16 0,.bool false,.int .u8 64,.int .u8 6,.int .u32 src,.int .u32 dst,.slice oa 0 co,.slice da ld cd],.agg #[.int .u16 sp,.int .u16 dp,.int .u32 sq,.int .u32 ak,.int .u8 fl,.int .u16 0,.int .u16 0,.slice aO 0 cO,.slice am zm.length cm],.agg #[.int .u16 sp,.int .u16 dp,.int .u32 sq,.int .u32 ak,.int .u8 fl,.int .u16 0,.int .u16 0,.slice aP 0 cP,.slice am2 zm.length cm2]] w fun e w'=>Later w w'∧e= .returned (.agg #[.int .u8 0,.int .u16 0,.bool false,.int .u8 64,.int .u8 6,.int .u32 src,.int .u32 dst,.slice oa 0 co,.slice da ld cd]):=by
 obtain⟨l0,c0,c1,c2,c3⟩:=zU2 w (.cells #[.int .u8 0,.int .u16 0,.bool false,.int .u8 64,.int .u8 6,.int .u32 src,.int .u32 dst,.slice oa 0 co,.slice da ld cd] 40) (.cells #[.int .u16 sp,.int .u16 dp,.int .u32 sq,.int .u32 ak,.int .u8 fl,.int .u16 0,.int .u16 0,.slice aO 0 cO,.slice am zm.length cm] 32) (.cells #[.int .u16 sp,.int .u16 dp,.int .u32 sq,.int .u32 ak,.int .u8 fl,.int .u16 0,.int .u16 0,.slice aP 0 cP,.slice am2 zm.length cm2] 32) (.cells #[.int .u8 0,.int .u16 0,.bool false,.int .u8 0,.int .u8 0,.int .u32 0,.int .u32 0,.slice none 0 0,.slice none 0 0] 40);have HST:=zAd (fun W (l:Later w W)=>zGw sp sp dp dp sq sq ak ak fl fl 0 0 0 0 (.slice aO 0 cO) (.slice aP 0 cP) (.slice am zm.length cm) (.slice am2 zm.length cm2) [] [] zm zm W (by intro o ho;cases ho) (by intro o ho;cases ho) hB hB (hRO.laterP l) (hRP.laterP l) (hM.later l) (hM2.later l));have hsm:smT sp sp dp dp sq sq ak ak fl fl 0 0 0 0 [] [] zm zm=true:=by unfold smT;simp
 rw[hsm]at HST;have C0:=zAd c0;have C1:=zAd c1;have C2:=zAd c2;have C3:=zAd c3;clear hsm c0 c1 c2 c3 hRO hRP hM hM2;go_enter Tryz.func360,Tryz.ntmps360;go_upto_region 1 with fail;generalize hw1:World.alloc _ _=w1 at*;clear hw1;generalize hgx:w.heap.size=g0 at C0 C1 C2 C3⊢;have k1:=zAa C1.out;have k2:=zAa C2.out;have HS1:=zAd (HST.out w1 l0);clear HST;go_wp2_with fail;refine HS1.out.mono ?_;rintro e w2 ⟨rfl,l2⟩;have l2':Later w1 w2:=l2;have D0:=zAd (zAb l2' C0.out);have F3:=zAd (zAb l2' C3.out);have L5:Later w w2:=l0.trans l2';clear k1 k2 HS1 C0 C1 C2 C3 l2 l2';have k0:=zAa D0.out;have k2:=zAa F3.out;have f2:=zAc F3.out;go_wp2_with fail;generalize hV:World.setCell _ ⟨_,8,none⟩ _=V8;have hV9:V8=zAi w2 (g0+1+1+1) 0 [.int .u8 0,.int .u16 0,.bool false,.int .u8 64,.int .u8 6,.int .u32 src,.int .u32 dst,.slice oa 0 co,.slice da ld cd]:=hV.symm;have hb8:But (fun b=>b=g0+1+1+1) w2 V8:=by rw[hV9];exact zAf (E:=fun b=>b=g0+1+1+1) (n:=g0+1+1+1) rfl _ _ _ _ (But.refl _ _)
 have p8:=zAe [.int .u8 0,.int .u16 0,.bool false,.int .u8 64,.int .u8 6,.int .u32 src,.int .u32 dst,.slice oa 0 co,.slice da ld cd] F3.out rfl;rw[←hV9]at p8;clear hV hV9;have P8:=zAa p8;exact bodyPost_ret (v:= .agg #[.int .u8 0,.int .u16 0,.bool false,.int .u8 64,.int .u8 6,.int .u32 src,.int .u32 dst,.slice oa 0 co,.slice da ld cd]) (by simp[results,Tryz.results360,go_sem,P8]) rfl ⟨Below.trans L5 (hb8.below L5.size (fun k hk e=>by have e':k=g0+1+1+1:=e;omega)),rfl⟩
theorem zU5(n0:Nat)(src dst sp dp sq ak sq2 ak2 fl:Int)(zm zm2 zt:List Int)(oa da aO aP:Option Addr)(co cd cO cP:Nat)(am am2:Option Addr)(cm cm2:Nat)(w:World)(hn0:n0≤w.heap.size)(hsr:0≤src∧src≤4294967295)(hds:0≤dst∧dst≤4294967295)(h1:0≤sp∧sp≤65535)(h2:0≤dp∧dp≤65535)(h3:0≤sq2∧sq2≤4294967295)(h4:0≤ak2∧ak2≤4294967295)(h5:0≤fl∧fl≤255)(hB:Mt.By zm)(hB2:Mt.By zm2)(hl:zm.length≤500)(hl2:zm2.length≤500)(hT:TG src dst sp dp sq ak fl zm zt)(hO:Ow n0 w (.slice oa 0 co) [])(hD:Ow n0 w (.slice da zt.length cd) zt)(hRO:RdO w.heap.size w (.slice aO 0 cO) [])(hRP:RdO w.heap.size w (.slice aP 0 cP) [])(hM:Rd w.heap.size w (.slice am zm.length cm) zm)(hM2:Rd w.heap.size w (.slice am2 zm2.length cm2) zm2):
  Calls Tryz.prog 360 #[.agg #[.int .u8 0,.int .u16 0,.bool false,.int .u8 64,.int .u8 6,.int .u32 src,.int .u32 dst,.slice oa 0 co,.slice da zt.length cd],.agg #[.int .u16 sp,.int .u16 dp,.int .u32 sq,.int .u32 ak,.int .u8 fl,.int .u16 0,.int .u16 0,.slice aO 0 cO,.slice am zm.length cm],.agg #[.int .u16 sp,.int .u16 dp,.int .u32 sq2,.int .u32 ak2,.int .u8 fl,.int .u16 0,.int .u16 0,.slice aP 0 cP,.slice am2 zm2.length cm2]] w fun e w'=>Later w w'∧∃a7 c7 a8 c8 z,e= .returned (.agg #[.int .u8 0,.int .u16 0,.bool false,.int .u8 64,.int .u8 6,.int .u32 src,.int .u32 dst,.slice a7 0 c7,.slice a8 z.length c8])∧TG src dst sp dp sq2 ak2 fl zm2 z∧Ow n0 w' (.slice a7 0 c7) []∧Ow n0 w' (.slice a8 z.length c8) z:=by
 by_cases he:sq=sq2∧ak=ak2∧zm=zm2
 ·obtain ⟨rfl,rfl,rfl⟩:=he
  refine(zRo src dst sp dp sq ak fl zm oa da aO aP co zt.length cd cO cP am am2 cm cm2 w hB hRO hRP hM hM2).mono ?_;rintro e w' ⟨l,rfl⟩;exact⟨l,oa,co,da,cd,zt,rfl,hT,hO.later l,hD.later l⟩
 ·refine (zU4 src dst sp dp sq ak sq2 ak2 fl zm zm2 oa da aO aP co zt.length cd cO cP am am2 cm cm2 w hsr hds h1 h2 h3 h4 h5 hB hB2 he hl hl2 hO.rd hRO hRP hM hM2).mono ?_
  rintro e w' ⟨l,a7,c7,a8,c8,z,rfl,hT2,hO2,hD2⟩;exact⟨l,a7,c7,a8,c8,z,rfl,hT2,hO2.mono hn0,hD2.mono hn0⟩
def StQ (base:Nat) (W:World) (hb:Nat) (side sq sq2 ak ak2 fl:Int):Prop:=∃b0 b1 v0 v1 l0 l1,HfC W hb b0 b1∧SL 479 base W b0 v0 l0∧SL 479 base W b1 v1 l1∧l0.length≤1000∧l1.length≤1000∧((side=0∧zD0 l0 sq=sq2∧zGv fl ak l1=ak2)∨(side=1∧zD0 l1 sq=sq2∧zGv fl ak l0=ak2))
theorem zU6(base hb sb n0:Nat)(side sp dp sq ak sq2 ak2 fl:Int)(aO am:Option Addr)(cO cm:Nat)(zm:List Int)(w:World)(hS:StQ base w hb side sq sq2 ak ak2 fl)(hn:n0≤w.heap.size)
  (hsg:w.heap[sb]? =some (.cells #[.int .u16 sp,.int .u16 dp,.int .u32 sq,.int .u32 ak,.int .u8 fl,.int .u16 0,.int .u16 0,.slice aO 0 cO,.slice am zm.length cm] 32 (0,0)))(hI:∀n W,RdO n W (.slice aO 0 cO) [])(hM:Ow n0 w (.slice am zm.length cm) zm)(hzm:zm.length≤500)(hsq:0≤sq∧sq≤4294967295)(hak:0≤ak∧ak≤4294967295):
  Calls Tryz.prog 359 #[.pointer (some ⟨hb,0,none⟩),.int .i64 side,.pointer (some ⟨sb,0,none⟩)] w fun e w'=>e= .returned (.tuple #[])∧∃aP cP am2 cm2,w'.heap[sb]? =some (.cells #[.int .u16 sp,.int .u16 dp,.int .u32 sq2,.int .u32 ak2,.int .u8 fl,.int .u16 0,.int .u16 0,.slice aP 0 cP,.slice am2 zm.length cm2] 32 (0,0))∧But (fun q=>q=sb) w w'∧(∀n W,RdO n W (.slice aP 0 cP) [])∧Ow n0 w' (.slice am2 zm.length cm2) zm:=by
 obtain⟨b0,b1,v0,v1,l0,l1,hC,h0,h1,hl0,hl1,hs⟩:=hS
 have hne:∀ {b:Nat} {v:Value} {l:List Pa},SL 479 base w b v l→b≠sb:=fun h e=>by
  have:=h.2.1;rw[e,hsg]at this;exact absurd (Obj.cells.inj (Option.some.inj this)).2.1 (by decide)
 have hnv:∀ {b:Nat} {v:Value} {l:List Pa},SL 479 base w b v l→∀q,v.ownBlock=some q→q≠sb:=fun h q hq e=>h.ne hsg (by decide) (by rw[hq,e]);have hM2:∀W,But (fun q=>q=sb) w W→Rd W.heap.size W (.slice am zm.length cm) zm:=fun W h=>(hM.asideF hsg (by decide) h).rd;rcases hs with⟨rfl,h3,h4⟩|⟨rfl,h3,h4⟩
 ·refine (renum_in base hb b0 b1 sb sp dp sq ak fl 0 0 aO cO (.slice am zm.length cm) zm l0 l1 v0 v1 w hC h0 h1 hl0 hl1 hsg hI hM2 (hne h0) (hne h1) (hnv h0) (hnv h1) (by omega) hsq hak).mono ?_
  rintro e w' ⟨rfl,vO,vm,hg,hb,hO,hD⟩;obtain⟨aP,cP,rfl,_,_⟩:=(hO 0 w).slice;obtain⟨am2,cm2,rfl,_,_⟩:=hD.slice;rw[h3,h4]at hg;exact⟨rfl,aP,cP,am2,cm2,hg,hb,hO,hD.mono hn⟩
 ·refine (zU1 base hb b0 b1 sb sp dp sq ak fl 0 0 aO cO (.slice am zm.length cm) zm l0 l1 v0 v1 w hC h0 h1 hl0 hl1 hsg hI hM2 (hne h0) (hne h1) (hnv h0) (hnv h1) (by omega) hsq hak).mono ?_
  rintro e w' ⟨rfl,vO,vm,hg,hb,hO,hD⟩;obtain⟨aP,cP,rfl,_,_⟩:=(hO 0 w).slice;obtain⟨am2,cm2,rfl,_,_⟩:=hD.slice;rw[h3,h4]at hg;exact⟨rfl,aP,cP,am2,cm2,hg,hb,hO,hD.mono hn⟩
theorem zJj {base n1:Nat} {src0 dst0 sp dp sq ak sq2 ak2 fl:Int} {zm zm2 z:List Int} (hT0:TG src0 dst0 sp dp sq ak fl zm z)(q:Tu)(hq:TuB q)(hl:zm.length≤500)(hl2:zm2.length≤500)(hBm:Mt.By zm)(hBp:Mt.By zm2)(hsq:0≤sq∧sq≤4294967295)(hak:0≤ak∧ak≤4294967295)(hsq2:0≤sq2∧sq2≤4294967295)(hak2:0≤ak2∧ak2≤4294967295)(hfl:0≤fl∧fl≤255)(g hb fb:Nat)(VA VB:World→Prop)(src dst side:Int)(so sd:Value)(bk:Bool)(t0 t1 t2 t3 t4 i0 i1 i2 i3 i4:Int)(ao ad:Option Addr)(co cd:Nat)(W:World)
  (hVA:VA W)(hAL:∀A B,VA A→Later A B→VA B)(hBL:∀A B,VB A→Later A B→VB B)(hBS:∀(A B:World) (k:Nat) (cur:Array Value) (t:TypeId) (fz:Nat × Nat),VB A→A.heap[k]? =some (.cells cur t fz)→t=40∨t=32→But (fun q=>q=k) A B→VB B)
  (hBR:∀V,VB V→StQ base V hb side sq sq2 ak ak2 fl)(hn:base≤n1∧n1≤W.heap.size)
  (hO:Ow n1 W (.slice ao 0 co) [])(hD:Ow n1 W (.slice ad z.length cd) (rwD 6 q.dst q.src q.dp q.sp z))
  (hLN:∀V n0 aO cO am cm,Later W V→VA V→n1≤n0→n0≤V.heap.size→Ow n0 V (.slice am zm.length cm) zm→Calls Tryz.prog 358 #[.pointer (some ⟨hb,0,none⟩),.agg #[.pointer (some ⟨g,0,none⟩),.int .u8 0,.int .u16 0,.bool false,.int .u8 64,.int .u8 6,.int .u32 src,.int .u32 dst,so,sd,.int .i64 side,.pointer (some ⟨fb,0,none⟩),.bool bk,.int .u8 t0,.int .u32 t1,.int .u32 t2,.int .u16 t3,.int .u16 t4,.int .u8 i0,.int .u32 i1,.int .u32 i2,.int .u16 i3,.int .u16 i4],.agg #[.int .u16 q.dp,.int .u16 q.sp,.int .u32 sq,.int .u32 ak,.int .u8 fl,.int .u16 0,.int .u16 0,.slice aO 0 cO,.slice am zm.length cm]] V fun e w'=>∃am2 cm2,e= .returned (.slice am2 zm2.length cm2)∧Kgl base V w'∧VB w'∧Ow n0 w' (.slice am2 zm2.length cm2) zm2):
  Calls Tryz.prog 356 #[.pointer (some ⟨hb,0,none⟩),.agg #[.pointer (some ⟨g,0,none⟩),.int .u8 0,.int .u16 0,.bool false,.int .u8 64,.int .u8 6,.int .u32 src,.int .u32 dst,so,sd,.int .i64 side,.pointer (some ⟨fb,0,none⟩),.bool bk,.int .u8 t0,.int .u32 t1,.int .u32 t2,.int .u16 t3,.int .u16 t4,.int .u8 i0,.int .u32 i1,.int .u32 i2,.int .u16 i3,.int .u16 i4],.agg #[.int .u8 0,.int .u16 0,.bool false,.int .u8 64,.int .u8 6,.int .u32 q.dst,.int .u32 q.src,.slice ao 0 co,.slice ad z.length cd]] W fun e w'=>ChT base n1 W w' 0 0 64 6 q false [] (fun y W'=>VB W'∧TG q.dst q.src q.dp q.sp sq2 ak2 fl zm2 y) e:=by
 have hT:=zFk (s:=q.dst) (d:=q.src) (a:=q.dp) (b:=q.sp) hT0 hq.2.1 hq.1 hq.2.2.2 hq.2.2.1;generalize hzt:rwD 6 q.dst q.src q.dp q.sp z=zt at*;have hzl:zt.length=z.length:=by rw[←hzt];exact zB4 _ _ _ _ _
 rw[←hzl]at hD⊢;clear hzt hzl hT0;obtain⟨l0,c0,c1,c2⟩:=zO0 W (.cells #[.pointer (some ⟨g,0,none⟩),.int .u8 0,.int .u16 0,.bool false,.int .u8 64,.int .u8 6,.int .u32 src,.int .u32 dst,so,sd,.int .i64 side,.pointer (some ⟨fb,0,none⟩),.bool bk,.int .u8 t0,.int .u32 t1,.int .u32 t2,.int .u16 t3,.int .u16 t4,.int .u8 i0,.int .u32 i1,.int .u32 i2,.int .u16 i3,.int .u16 i4] 242) (.cells #[.int .u8 0,.int .u16 0,.bool false,.int .u8 64,.int .u8 6,.int .u32 q.dst,.int .u32 q.src,.slice ao 0 co,.slice ad zt.length cd] 40) (.cells #[.int .u8 0,.int .u16 0,.bool false,.int .u8 0,.int .u8 0,.int .u32 0,.int .u32 0,.slice none 0 0,.slice none 0 0] 40);have C0:=zAd c0;have C1:=zAd c1;have C2:=zAd c2;have HP:=zAd (fun V (l:Later W V)=>zRn hT 0 0 64 false (.slice ao 0 co) (.slice ad zt.length cd) V ((hD.kg (KG.of_later (base:=base) l)).rd) hl hq.2.1 hq.1);have HLN:=zAd hLN;have HVA:=zAd hVA;have HAL:=zAd hAL;have HBL:=zAd hBL;have HBS:=zAd hBS;have HBR:=zAd hBR;have OO:=zAd hO;have ZZ:=zAd hD;clear c0 c1 c2 hD hO hLN hVA hAL hBL hBS hBR;go_enter Tryz.func356,Tryz.ntmps356;go_upto_region 1 with fail;generalize hw1:World.alloc _ _=w1 at*;clear hw1;generalize hgx:W.heap.size=g0 at C0 C1 C2⊢;have k1:=zAa C1.out;go_wp2_with fail;refine(HP.out w1 l0).mono ?_;rintro e w2 ⟨l2,aO,cO,am,cm,rfl,hD2,hRO⟩;have HRO:=zAd hRO;clear hRO;have l2':Later w1 w2:=l2
 have la:=zAg w2 (.cells #[.int .u16 q.dp,.int .u16 q.sp,.int .u32 sq,.int .u32 ak,.int .u8 fl,.int .u16 0,.int .u16 0,.slice aO 0 cO,.slice am zm.length cm] 32);have E3:=zAd (heap_alloc_new w2 (.cells #[.int .u16 q.dp,.int .u16 q.sp,.int .u32 sq,.int .u32 ak,.int .u8 fl,.int .u16 0,.int .u16 0,.slice aO 0 cO,.slice am zm.length cm] 32));have L3:Later W (w2.alloc (.cells #[.int .u16 q.dp,.int .u16 q.sp,.int .u32 sq,.int .u32 ak,.int .u8 fl,.int .u16 0,.int .u16 0,.slice aO 0 cO,.slice am zm.length cm] 32)):=l0.trans (l2'.trans la);have E0:=zAd (zAb (l2'.trans la) C0.out);have E1:=zAd (zAb (l2'.trans la) C1.out);have E2:=zAd (zAb (l2'.trans la) C2.out);have D3:=zAd (hD2.later la);have hs1:W.heap.size≤w1.heap.size:=l0.size;clear k1 HP C0 C1 C2 l2 la hD2;go_upto_region 2 with fail;change Code.wp _ _ _ _ (w2.alloc (.cells #[.int .u16 q.dp,.int .u16 q.sp,.int .u32 sq,.int .u32 ak,.int .u8 fl,.int .u16 0,.int .u16 0,.slice aO 0 cO,.slice am zm.length cm] 32));generalize w2.alloc (.cells #[.int .u16 q.dp,.int .u16 q.sp,.int .u32 sq,.int .u32 ak,.int .u8 fl,.int .u16 0,.int .u16 0,.slice aO 0 cO,.slice am zm.length cm] 32)=w3 at*;generalize hg3:w2.heap.size=g3 at*
 have hg3w:w1.heap.size≤g3:=by
  have h2:=l2'.size;omega
 clear l2' hg3;have kn:=zAa E3.out;go_upto_region 3 with fail;have ln:=zAg w3 (.cells #[.int .u16 q.dp,.int .u16 q.sp,.int .u32 sq,.int .u32 ak,.int .u8 fl,.int .u16 0,.int .u16 0,.slice aO 0 cO,.slice am zm.length cm] 32);have N4:=zAd (heap_alloc_new w3 (.cells #[.int .u16 q.dp,.int .u16 q.sp,.int .u32 sq,.int .u32 ak,.int .u8 fl,.int .u16 0,.int .u16 0,.slice aO 0 cO,.slice am zm.length cm] 32));have L4:=L3.trans ln;have F0:=zAd (zAb ln E0.out);have F1:=zAd (zAb ln E1.out);have F2:=zAd (zAb ln E2.out);have F3:=zAd (zAb ln E3.out);have D4:=zAd (D3.out.later ln);have hgA:g0+1+1<w3.heap.size:=(eS E2.out);have hgB:g3<w3.heap.size:=(eS E3.out);clear kn E0 E1 E2 E3 D3 ln;change Code.wp _ _ _ _ (w3.alloc (.cells #[.int .u16 q.dp,.int .u16 q.sp,.int .u32 sq,.int .u32 ak,.int .u8 fl,.int .u16 0,.int .u16 0,.slice aO 0 cO,.slice am zm.length cm] 32));generalize w3.alloc (.cells #[.int .u16 q.dp,.int .u16 q.sp,.int .u32 sq,.int .u32 ak,.int .u8 fl,.int .u16 0,.int .u16 0,.slice aO 0 cO,.slice am zm.length cm] 32)=w4 at*;generalize hg4:w3.heap.size=g4 at*;have hg4W:W.heap.size≤g4:=by omega
 have hs4:w1.heap.size≤w4.heap.size:=by
  have h1:=(eS F3.out);omega
 have HRG:=zAd (zC5 (xs:=[.pointer (some ⟨g,0,none⟩),.int .u8 0,.int .u16 0,.bool false,.int .u8 64,.int .u8 6,.int .u32 src,.int .u32 dst,so,sd,.int .i64 side,.pointer (some ⟨fb,0,none⟩),.bool bk,.int .u8 t0,.int .u32 t1,.int .u32 t2,.int .u16 t3,.int .u16 t4,.int .u8 i0,.int .u32 i1,.int .u32 i2,.int .u16 i3,.int .u16 i4]) F0.out);have k3:=zAa F3.out;have HFC:=zAd (HLN.out w4 w1.heap.size aO cO am cm L4 (HAL.out _ _ HVA.out L4) (by omega) hs4 D4.out);clear HLN HVA HAL;go_wp2_with (refine wpList_load_mid rfl 242 (.tmp 4) rfl g0 0 rfl _ _ HRG.out Tryz.underlying242 rfl zFu ?_)
 refine HFC.out.mono ?_;rintro e w5 ⟨am2,cm2,rfl,K5,hVB,hO5⟩;have P0:=zAd (K5.cells F0.out (by decide));have P1:=zAd (K5.cells F1.out (by decide));have P2:=zAd (K5.cells F2.out (by decide));have P3:=zAd (K5.cells F3.out (by decide));have P4:=zAd (K5.cells N4.out (by decide));have D5:=zAd (Kgl.ow8 D4.out K5);have O5:=zAd (Kgl.ow8 (OO.out.kg (KG.of_later (base:=base) L4)) K5);have Z5:=zAd (Kgl.ow8 (ZZ.out.kg (KG.of_later (base:=base) L4)) K5);have M5:=zAd hO5;have VB5:=zAd hVB;have KK5:=zAd ((Kgl.of_kg (KG.of_later (base:=base) L4)).trans K5);clear k3 HFC HRG F0 F1 F2 F3 N4 D4 OO ZZ hO5 hVB K5;have k4:=zAa P4.out;have f4:=zAc P4.out;go_upto_region 4 with fail;clear k4 f4;have hb9:But (fun q=>q=g4) w5 (w5.setCell ⟨g4,8,none⟩ (.slice am2 zm2.length cm2)):=(But.refl (fun q=>q=g4) _).setCell (p:=⟨g4,8,none⟩) (show _=_ from rfl) _;have R4:=zAd (zAh P4.out 8 (.slice am2 zm2.length cm2));have VB6:=zAd (HBS.out _ _ _ _ _ _ VB5.out P4.out (.inr rfl) hb9);have hg4n:∀ {k:Nat} {o:Obj},w5.heap[k]? =some o→k≠g4→(w5.setCell ⟨g4,8,none⟩ (.slice am2 zm2.length cm2)).heap[k]? =some o:=fun hk hne=>(hb9.block _ (eS hk) hne).trans hk;have R0:=zAd (hg4n P0.out (by omega));have R1:=zAd (hg4n P1.out (by omega));have R2:=zAd (hg4n P2.out (by omega));have R3:=zAd (hg4n P3.out (by omega));have D6:=zAd (D5.out.asideF P4.out (by decide) hb9);have O6:=zAd (O5.out.asideF P4.out (by decide) hb9);have Z6:=zAd (Z5.out.asideF P4.out (by decide) hb9)
 have M6:=zAd (M5.out.asideF P4.out (by decide) hb9);have KK6:=zAd (KK5.out.own hb9 hg4W);clear hg4n hb9 P0 P1 P2 P3 P4 D5 O5 Z5 M5 VB5 KK5;generalize w5.setCell ⟨g4,8,none⟩ _=w6 at*
 have hs6:w1.heap.size≤w6.heap.size:=by
  have h1:=(eS R3.out);omega
 have k0:=zAa R0.out;have HRN:=zAd (zU6 base hb g4 w1.heap.size side q.dp q.sp sq ak sq2 ak2 fl aO am2 cO cm2 zm2 w6 (HBR.out _ VB6.out) hs6 R4.out HRO.out M6.out hl2 hsq hak);go_wp2_with fail;refine HRN.out.mono ?_;rintro e w7 ⟨rfl,aP,cP,am3,cm3,hS7,hb7,hRP,hM7⟩;have VB7:=zAd (HBS.out _ _ _ _ _ _ VB6.out R4.out (.inr rfl) hb7);have hg4n:∀ {k:Nat} {o:Obj},w6.heap[k]? =some o→k≠g4→w7.heap[k]? =some o:=fun hk hne=>(hb7.block _ (eS hk) hne).trans hk;have T1:=zAd (hg4n R1.out (by omega));have T2:=zAd (hg4n R2.out (by omega));have T3:=zAd (hg4n R3.out (by omega));have T4:=zAd hS7;have HRP:=zAd hRP;have D7:=zAd (D6.out.asideF R4.out (by decide) hb7);have O7:=zAd (O6.out.asideF R4.out (by decide) hb7);have Z7:=zAd (Z6.out.asideF R4.out (by decide) hb7);have M7:=zAd hM7;have KK7:=zAd (KK6.out.own hb7 hg4W);clear k0 HRN hg4n hb7 R0 R1 R2 R3 R4 D6 O6 Z6 M6 VB6 KK6 hS7 hRP hM7;have k1:=zAa T1.out;have k3:=zAa T3.out;have k4:=zAa T4.out
 have hsz7:n1≤w7.heap.size:=by
  have h1:=(eS T4.out);omega
 have HWS:=zAd (zU5 n1 q.dst q.src q.dp q.sp sq ak sq2 ak2 fl zm zm2 zt ao ad aO aP co cd cO cP am am3 cm cm3 w7 hsz7 hq.2.1 hq.1 hq.2.2.2 hq.2.2.1 hsq2 hak2 hfl hBm hBp hl hl2 hT O7.out Z7.out (HRO.out _ _) (HRP.out _ _) D7.out.rd M7.out.rd);go_wp2_with fail;refine HWS.out.mono ?_;rintro e w8 ⟨l8,a7,c7,a8,c8,z2,rfl,hT2,hO2,hD2⟩;have U2:=zAd (zAb l8 T2.out);have VB8:=zAd (HBL.out _ _ VB7.out l8);have HT2:=zAd hT2;have HO2:=zAd hO2;have HD2:=zAd hD2;have KK8:=zAd (KK7.out.trans (Kgl.of_kg (KG.of_later (base:=base) l8)));clear k1 k3 k4 HWS T1 T2 T3 T4 D7 O7 Z7 M7 VB7 KK7 l8 hT2 hO2 hD2 HRO HRP;have k2:=zAa U2.out;have f2:=zAc U2.out;go_wp2_with fail;generalize hV:World.setCell _ ⟨_,8,none⟩ _=V8;have hV9:V8=zAi w8 (g0+1+1) 0 [.int .u8 0,.int .u16 0,.bool false,.int .u8 64,.int .u8 6,.int .u32 q.dst,.int .u32 q.src,.slice a7 0 c7,.slice a8 z2.length c8]:=hV.symm;have hb8:But (fun b=>b=g0+1+1) w8 V8:=by rw[hV9];exact zAf (E:=fun b=>b=g0+1+1) (n:=g0+1+1) rfl _ _ _ _ (But.refl _ _)
 have p8:=zAe [.int .u8 0,.int .u16 0,.bool false,.int .u8 64,.int .u8 6,.int .u32 q.dst,.int .u32 q.src,.slice a7 0 c7,.slice a8 z2.length c8] U2.out rfl;rw[←hV9]at p8;clear hV hV9 k2 f2;have P8:=zAa p8;exact bodyPost_ret (v:= .agg #[.int .u8 0,.int .u16 0,.bool false,.int .u8 64,.int .u8 6,.int .u32 q.dst,.int .u32 q.src,.slice a7 0 c7,.slice a8 z2.length c8]) (by simp[results,Tryz.results356,go_sem,P8]) rfl ⟨z2,a7,c7,a8,c8,rfl,KK8.out.own hb8 (by omega),HO2.out.asideF U2.out (by decide) hb8,HD2.out.asideF U2.out (by decide) hb8,HBS.out _ _ _ _ _ _ VB8.out U2.out (.inl rfl) hb8,HT2.out⟩
theorem filt_no {α:Type} {p:α→Bool} {l:List α} (h:l.filter p=[]):l.filter (fun x=> !p x)=l:=by
 rw[List.filter_eq_self];intro x hx
 have:=List.filter_eq_nil_iff.1 h x hx;simpa using this
theorem zGx:∀args w,(callFunc 356 args).run Tryz.prog w= .ok (.enter 356 args) w:=enters_of Tryz.func356 (by kernel_rfl) rfl
theorem zU7(base g:Nat)(s:Gf)(nw:Int)(w:World)(h:GF base w g s)(hbs:base≤w.heap.size)(hnw:0≤s.now∧s.now≤549755813888)(hex:s.ex.length≤1000∧∀n,n≤nw∨n≤s.now→s.ex.filter (fun x=>decide (x.dl≤n))=[])(hdu:∀n,n≤nw∨n≤s.now→duR n (zE5 s.rw)=[])(hal:(zE5 s.rw).length≤5000):
  Calls Tryz.prog 21 #[.pointer (some ⟨g,0,none⟩),.int .i64 nw] w fun e w'=>e= .returned (.tuple #[])∧TqG base w w' g s nw:=by
 have HDU:=zAd hdu;have HEX:=zAd hex;have HAL:=zAd hal;clear hdu hex hal;have HG:=zAd h;have hbg:=h.bs;go_enter Tryz.func21,Tryz.ntmps21;have k0:=zAa h.gc;have f0:=zAc h.gc;unfold gfc at k0;go_upto_region 1 with fail;go_cut [18] (fun _ wx=>∃nv:Int,((0≤nv∧nv≤549755813888)∧(nv≤nw∨nv≤s.now)∧s.now≤nv)∧wx=w.setCell ⟨g,2,none⟩ (.int .i64 nv))
 case first=>
  go_wp2_with fail
  all_goals
   go_meet
   case rel=>exact⟨_,by omega,rfl⟩
 case rest=>
 clear k0 f0;obtain⟨nv,hnr,hnv⟩:=hcut;obtain⟨w1,hw1⟩:∃w1,w1=wc:=⟨_,rfl⟩;subst hw1;have h1:GF base w1 g { s with now:=nv } :=by rw[hnv];exact h.now nv
 have M1:But (fun b=>b=g∨b=s.gb) w w1:=by
  rw[hnv];exact(But.refl (fun b=>b=g∨b=s.gb) w).setCell (p:=⟨g,2,none⟩) (show _∨_ from .inl rfl) (.int .i64 nv)
 obtain⟨s1,hs1⟩:∃s1:Gf,s1= { s with now:=nv } :=⟨_,rfl⟩;have e1:s1.gb=s.gb:=by rw[hs1]
 have e2:s1.ex.length≤1000∧s1.ex.filter (fun x=>decide (x.dl≤s1.now))=[]:=by rw[hs1];exact⟨HEX.out.1,HEX.out.2 nv hnr.2.1⟩
 have e3:duR s1.now (zE5 s1.rw)=[]:=by rw[hs1];exact HDU.out nv hnr.2.1
 have e4:(zE5 s1.rw).length≤5000:=by rw[hs1];exact HAL.out
 have e5:∀v, { s1 with ve:=v,ex:=s1.ex } =ltr s nv v:=fun v=>by rw[hs1];rfl
 rw[←hs1]at h1;have HGB:=zAd e1;have HE2:=zAd e2;have HE3:=zAd e3;have HE4:=zAd e4;have HE5:=zAd e5;have HNR:=zAd hnr;clear hs1 e1 e2 e3 e4 e5 hnv hnr HDU HEX HAL HG h hnw;go_upto_region 2 with fail;refine zAl (R:=Later) 11 rfl (by kernel_rfl) ?_;have ld:Later w1 w1.drew:=Later.drew w1;generalize w1.drew=w2 at*;have h2:=h1.later ld;have M2:But (fun b=>b=g∨b=s.gb) w w2:=M1.trans (But.of ld);have q1:∀v,Later w2 v→∀j,v.cell? ⟨g,j,none⟩=(gfc s1).toArray[j]? :=fun v hv=>zAa (zAb hv h2.gc);unfold gfc at q1;have H2:=zAd h2;clear h1 h2 ld M1;refine tX Later.pre 0 ?_;refine tX Later.pre 1 ?_;refine tX Later.pre 2 ?_;refine tX Later.pre 3 ?_;refine tX Later.pre 4 ?_;refine tX Later.pre 5 ?_;refine tX Later.pre 6 ?_;refine tX Later.pre 7 ?_;refine tX Later.pre 10 ?_;clear q1;refine tO 8 ?_;refine zAj 48 #[.pointer (some ⟨s1.gt,0,none⟩),.int .i64 s1.now] (by go_simp) ?_;refine(zUe base s1.gt s1.cnt s1.trn s1.now s1.rw w2 H2.out.tb HE3.out HE4.out).mono ?_;rintro e w3 ⟨⟨gd,rfl⟩,l3⟩;refine⟨l3,?_⟩;simp only[Act.put,sA,sB,sC];refine tX Later.pre 9 ?_;refine tD ?_;have h3:=H2.out.later l3;have M3:But (fun b=>b=g∨b=s.gb) w w3:=M2.trans (But.of l3);have H3:=zAd h3;clear H2 h3 M2 l3;go_upto_region 3 with fail;go_loopw [31] (fun iv wr=>iv= .int .i64 0∧wr=w3) (fun _ _=>0)
 case atStart=>exact⟨rfl,rfl⟩
 case round=>
  obtain⟨rfl,hw⟩:=hrel;subst hw;go_upto_region 9 with fail;refine zAl (R:=But (fun b=>b=s1.gb)) 11 rfl (by kernel_rfl) ?_;have ld:Later wr wr.drew:=Later.drew wr;generalize wr.drew=w4 at*;have h4:=H3.out.later ld;have M4:But (fun b=>b=g∨b=s.gb) w w4:=M3.trans (But.of ld);have q1:∀v,But (fun b=>b=s1.gb) w4 v→∀j,v.cell? ⟨g,j,none⟩=(gfc s1).toArray[j]? :=fun v hv=>zAa (zQ8 hv h4.gc h4.bl.2.1 (by intro e;injection e with e1 e2 e3;exact absurd e2 (by decide)));unfold gfc at q1;have H4:=zAd h4;clear H3 h4 M3 ld;refine tX (But.pre (fun b=>b=s1.gb)) 0 ?_;refine tX (But.pre (fun b=>b=s1.gb)) 1 ?_;refine tX (But.pre (fun b=>b=s1.gb)) 2 ?_;refine tX (But.pre (fun b=>b=s1.gb)) 3 ?_;refine tX (But.pre (fun b=>b=s1.gb)) 4 ?_;refine tX (But.pre (fun b=>b=s1.gb)) 5 ?_;refine tX (But.pre (fun b=>b=s1.gb)) 6 ?_;refine tX (But.pre (fun b=>b=s1.gb)) 7 ?_;refine tX (But.pre (fun b=>b=s1.gb)) 8 ?_;clear q1;refine tO 9 ?_;refine zAj 52 #[.pointer (some ⟨s1.gb,0,none⟩),.int .i64 s1.now] (by go_simp) ?_;refine(zS0 base s1.gb s1.ve s1.ex s1.now w4 H4.out.bl (Nat.le_trans hbs M4.size) HE2.out.1).mono ?_;rintro e w5 ⟨u,rfl,v5,hbl,hrow,hbut,_⟩;rw[HE2.out.2]at hrow;rw[filt_no HE2.out.2]at hbl
  obtain⟨ua,uc,rfl⟩:∃a c,u= .slice a 0 c:=by
   obtain⟨_,⟨rfl,_⟩|⟨b,cap,cur,rfl,_⟩⟩:=hrow
   ·exact ⟨_,_,rfl⟩
   ·exact ⟨_,_,rfl⟩
  have h5:=H4.out.book hbut hbl;have M5:But (fun b=>b=g∨b=s.gb) w w5:=M4.trans ⟨hbut.os,hbut.tape,hbut.output,hbut.size,fun i hi he=>hbut.block i hi (fun e=>he (.inr (by have e':i=s1.gb:=e;rw[e',HGB.out])))⟩;have HB:=zAd hbut;clear hbut hrow hbl;refine⟨HB.out,?_⟩;simp only[Act.put,sA,sB,sC];refine tO 10 ?_;refine zAj 51 #[.pointer (some ⟨g,0,none⟩),.slice ua 0 uc] (by go_simp) ?_;refine(zFa _ ua uc w5).mono ?_;rintro e w6 ⟨rfl,hw6⟩;subst hw6;refine⟨But.refl _ _,?_⟩;simp only[Act.put,sA,sB,sC];refine tD ?_;go_wp2_with fail;go_end0
  exact⟨rfl,M5,_,v5,HNR.out.1,HNR.out.2.1,HNR.out.2.2,by rw[←HE5.out];exact h5⟩
theorem zLd(base g:Nat)(s:Gf)(side nw:Int)(hsd:side=0∨side=1)(sb:Value)(HP:Int→Int→Value→Value→World→Prop)(w:World)(h:GF base w g s)(hbs:base≤w.heap.size)(hsb:∃a ln c,sb= .slice a ln c)(hnow:0≤s.now∧s.now≤549755813888)(hex:s.ex.length≤1000∧∀n,n≤nw∨n≤s.now→s.ex.filter (fun x=>decide (x.dl≤n))=[])(hdu:∀n,n≤nw∨n≤s.now→duR n (zE5 s.rw)=[])(hal:(zE5 s.rw).length≤5000)(hS:HqS HP)
  (hH:∀W n v,KG base w W→(0≤n∧n≤549755813888)→(n≤nw∨n≤s.now)→s.now≤n→GF base W g (ltr s n v)→Calls Tryz.prog 22 #[.pointer (some ⟨g,0,none⟩),.int .i64 side,sb] W fun e w'=>∃(rc sd:Int) (va:Option Addr) (ln vc:Nat),e= .returned (.agg #[.int .i64 rc,.int .i64 sd,.slice va ln vc])∧Kgl base W w'∧HP rc n v (.slice va ln vc) w'):
  Calls Tryz.prog 7 #[.pointer (some ⟨g,0,none⟩),.int .i64 nw,.int .i64 side,sb] w fun e w'=>PkS base w w' nw s.now HP e:=by
 obtain⟨sa,sl,sc,rfl⟩:=hsb;have l0:=zAg w (.cells (oc 0).toArray 36);have C0:=zAd (heap_alloc_new w (.cells (oc 0).toArray 36));have h1:=h.later l0;have HH:=zAd hH;have HG:=zAd h;have H1:=zAd h1;have HSS:=zAd hS;have HTK:=zAd (fun W (hg:GF base W g s) (hb:base≤W.heap.size)=>zU7 base g s nw W hg hb hnow hex hdu hal);clear h h1 hH hex hdu hal hS;rcases hsd with rfl|rfl
 ·go_enter Tryz.func7,Tryz.ntmps7
  go_upto_region 3 with fail;change Code.wp _ _ _ _ (w.alloc (.cells (oc 0).toArray 36));generalize w.alloc (.cells (oc 0).toArray 36)=w1 at*;generalize hgx:w.heap.size=gx at C0⊢;have hs1:base≤w1.heap.size:=Nat.le_trans hbs l0.size;go_wp2_with fail;refine(HTK.out w1 H1.out hs1).mono ?_;rintro e w2 ⟨rfl,M2,n,v2,hn,hnw,hns,h2⟩;have K2:KG base w w2:=(KG.of_later l0).trans (TqG.kg M2 H1.out);have D0:=zAd ((TqG.kg M2 H1.out).cells C0.out (by decide));have HHN:=zAd (HH.out w2 n v2 K2 hn hnw hns h2);have hgw:gx<w2.heap.size:=(eS D0.out);have HNW:=zAd (And.intro hnw hns);clear M2 C0 H1 hs1 HH h2 HTK hnw hns;go_wp2_with fail;refine HHN.out.mono ?_;rintro e w3 ⟨rc,sd,va,ln,vc,rfl,k3,hP3⟩;have E0:=zAd (k3.cells D0.out (by decide));have HP3:=zAd hP3;have K3:Hid (Kgl base w w3):=(Kgl.of_kg K2).trans k3;have k0:=zAa E0.out;have f0:=zAc E0.out;clear HHN hP3 D0 k3;go_wp2_with fail;generalize hV:World.setCell _ ⟨gx,2,none⟩ _=V8;have hV9:V8=zAi w3 gx 0 [.int .i64 rc,.int .i64 sd,.slice va ln vc]:=hV.symm;have hb8:But (fun b=>b=gx) w3 V8:=by rw[hV9];exact zAf (E:=fun b=>b=gx) (n:=gx) rfl _ _ _ _ (But.refl _ _)
  have p8:=zAe [.int .i64 rc,.int .i64 sd,.slice va ln vc] E0.out rfl;rw[←hV9]at p8;clear hV hV9 k0 f0;have P8:=zAa p8;have k8:=K3.out.own hb8 (by omega);exact bodyPost_ret (v:= .agg #[.int .i64 rc,.int .i64 sd,.slice va ln vc]) (by simp[results,Tryz.results7,go_sem,P8]) rfl ⟨rc,sd,va,ln,vc,n,v2,rfl,k8,HNW.out.1,HNW.out.2,HSS.out rc n v2 _ _ _ gx _ _ HP3.out E0.out hb8⟩
 ·go_enter Tryz.func7,Tryz.ntmps7
  go_upto_region 3 with fail;change Code.wp _ _ _ _ (w.alloc (.cells (oc 0).toArray 36));generalize w.alloc (.cells (oc 0).toArray 36)=w1 at*;generalize hgx:w.heap.size=gx at C0⊢;have hs1:base≤w1.heap.size:=Nat.le_trans hbs l0.size;go_wp2_with fail;refine(HTK.out w1 H1.out hs1).mono ?_;rintro e w2 ⟨rfl,M2,n,v2,hn,hnw,hns,h2⟩;have K2:KG base w w2:=(KG.of_later l0).trans (TqG.kg M2 H1.out);have D0:=zAd ((TqG.kg M2 H1.out).cells C0.out (by decide));have HHN:=zAd (HH.out w2 n v2 K2 hn hnw hns h2);have hgw:gx<w2.heap.size:=(eS D0.out);have HNW:=zAd (And.intro hnw hns);clear M2 C0 H1 hs1 HH h2 HTK hnw hns;go_wp2_with fail;refine HHN.out.mono ?_;rintro e w3 ⟨rc,sd,va,ln,vc,rfl,k3,hP3⟩;have E0:=zAd (k3.cells D0.out (by decide));have HP3:=zAd hP3;have K3:Hid (Kgl base w w3):=(Kgl.of_kg K2).trans k3;have k0:=zAa E0.out;have f0:=zAc E0.out;clear HHN hP3 D0 k3;go_wp2_with fail;generalize hV:World.setCell _ ⟨gx,2,none⟩ _=V8;have hV9:V8=zAi w3 gx 0 [.int .i64 rc,.int .i64 sd,.slice va ln vc]:=hV.symm;have hb8:But (fun b=>b=gx) w3 V8:=by rw[hV9];exact zAf (E:=fun b=>b=gx) (n:=gx) rfl _ _ _ _ (But.refl _ _)
  have p8:=zAe [.int .i64 rc,.int .i64 sd,.slice va ln vc] E0.out rfl;rw[←hV9]at p8;clear hV hV9 k0 f0;have P8:=zAa p8;have k8:=K3.out.own hb8 (by omega);exact bodyPost_ret (v:= .agg #[.int .i64 rc,.int .i64 sd,.slice va ln vc]) (by simp[results,Tryz.results7,go_sem,P8]) rfl ⟨rc,sd,va,ln,vc,n,v2,rfl,k8,HNW.out.1,HNW.out.2,HSS.out rc n v2 _ _ _ gx _ _ HP3.out E0.out hb8⟩
theorem zGy(tH:TypeId)(HV:Nat→Value)(fn:Nat)(hmt:∀hb k W,Sem.run Tryz.prog (Go.method (k+1) tH (HV hb) "lychgate/gate.change") W= .ok (fn,HV hb) W)(heg:∀args w,(callFunc fn args).run Tryz.prog w= .ok (.enter fn args) w)(base g:Nat)(s:Gf)(side nw:Int)(bk:Bool)(q:Tu)(src dst sp dp sq ak fl:Int)(zm z:List Int)(sb:Value)(OQ:Int→Value→Nat→Fl→Nat→World→Prop)(CQ:Int→Value→List Int→World→Prop)(w:World)(h:GF base w g s)(hbs:base≤w.heap.size)(hT:TG src dst sp dp sq ak fl zm z)(hl:zm.length≤500)(nI:Nat)(hI:Ow nI w sb (tgB 64 src dst z))(hsr:0≤src∧src≤4294967295)(hds:0≤dst∧dst≤4294967295)(hsd:side=0∨side=1)(hqb:TuB q)(hqp:q.pr=6)(hnow:0≤s.now∧s.now≤549755813888)(hex:s.ex.length≤1000∧∀n,n≤nw∨n≤s.now→s.ex.filter (fun x=>decide (x.dl≤n))=[])(hdu:∀n,n≤nw∨n≤s.now→duR n (zE5 s.rw)=[])(hal:(zE5 s.rw).length≤5000)(hz:∀W,KG base w W→Tb W)
  (hOW:∀n v W so sd,KG base w W→(0≤n∧n≤549755813888)→(n≤nw∨n≤s.now)→s.now≤n→GF base W g (ltr s n v)→Rd W.heap.size W sd z→Calls Tryz.prog 114 #[.agg #[.pointer (some ⟨g,0,none⟩),.int .u8 0,.int .u16 0,.bool false,.int .u8 64,.int .u8 6,.int .u32 src,.int .u32 dst,so,sd,.int .i64 side],.agg #[.int .u8 6,.int .u32 src,.int .u32 dst,.int .u16 sp,.int .u16 dp]] W fun e w'=>∃(f:Fl) (hb:Nat),e= .returned (.tuple #[.pointer (some ⟨f.blk,0,none⟩),.bool bk])∧KG base W w'∧OQ n v f.blk f hb w')
  (hOF:∀n v fb f hb W,OQ n v fb f hb W→f.blk=fb∧W.heap[fb]? =some (.cells (flc f).toArray 111 (0,0))∧oth f bk=q∧f.hp= .iface tH (HV hb))
  (hOL:∀n v fb f hb A B,OQ n v fb f hb A→Later A B→OQ n v fb f hb B)
  (hCH:∀n v fb f hb n1 W so sd ao co ad cd,w.heap.size≤n1→n1≤W.heap.size→KG base w W→OQ n v fb f hb W→Ow n1 W (.slice ao 0 co) []→Ow n1 W (.slice ad z.length cd) (rwD 6 q.dst q.src q.dp q.sp z)→Calls Tryz.prog fn #[HV hb,.agg #[.pointer (some ⟨g,0,none⟩),.int .u8 0,.int .u16 0,.bool false,.int .u8 64,.int .u8 6,.int .u32 src,.int .u32 dst,so,sd,.int .i64 side,.pointer (some ⟨fb,0,none⟩),.bool bk,.int .u8 6,.int .u32 src,.int .u32 dst,.int .u16 sp,.int .u16 dp,.int .u8 6,.int .u32 q.dst,.int .u32 q.src,.int .u16 q.dp,.int .u16 q.sp],.agg #[.int .u8 0,.int .u16 0,.bool false,.int .u8 64,.int .u8 6,.int .u32 q.dst,.int .u32 q.src,.slice ao 0 co,.slice ad z.length cd]] W fun e w'=>ChT base n1 W w' 0 0 64 6 q false [] (CQ n v) e)
  (hCS:∀n v,CqS (CQ n v))(hCL:∀n v y W,CQ n v y W→y.length≤60000)(hCT:∀n v y A B,CQ n v y A→Later A B→CQ n v y B):
  Calls Tryz.prog 7 #[.pointer (some ⟨g,0,none⟩),.int .i64 nw,.int .i64 side,sb] w fun e w'=>TpQ base w w' nw s.now q CQ e:=by
 have hzl:=hT.len;have hrl:(rwD 6 q.dst q.src q.dp q.sp z).length=z.length:=zB4 _ _ _ _ _;have hF:=zJc hT.by_ (by omega) (show(0:Int)≤64∧(64:Int)≤255 by omega) hsr hds;obtain⟨sa,sc,rfl,_,_⟩:=hI.slice;refine(zLd base g s side nw hsd _ (TpH q CQ w.heap.size) w h hbs ⟨_,_,_,rfl⟩ hnow hex hdu hal (TpH.s hCS) (fun W n v k hn hn1 hn2 hg=> ?_)).mono ?_
 ·refine (handle_C base g 6 side q (CQ n v) _ _ W hF.by_ ((hI.kg k).rd) (by have:=hF.len;omega) (by omega) hsd hqb hF.rd hF.i9 (by rw[hF.i8];omega) (by rw[hF.zo];simp) (by rw[hF.zo];rfl) (fun y W2 hc=>by rw[hF.zo];have:=hCL n v y W2 hc;simp;omega) (hCS n v) (hCT n v) (fun W2 so sd l ho hd=> ?_)).mono ?_
  ·rw[hF.zo]at ho
   rw[hF.zd]at hd;rw[hF.i1,hF.w4,hF.w6,hF.i8,hF.src,hF.dst,hF.zo];have K2:=k.trans (KG.of_later (base:=base) l);have hsz:w.heap.size≤W.heap.size:=k.size;refine(zUz tH HV fn hmt heg base g bk q 0 0 64 src dst false so sd side [] z sp dp (OQ n v) (CQ n v) W.heap.size W2 hT.ok (by show wat z 0=sp;exact hT.a) (by show wat z 2=dp;exact hT.b) (by unfold flt;rw[if_neg (by simp),if_neg (by simp;omega)]) Mt.By.nil hT.by_ ho hd (by simp) (by omega) (by omega) (by omega) (by omega) hsr hds hqb hqp (fun V k2=>hz V (K2.trans k2)) (fun V l2=>hOW n v V so sd (K2.trans (KG.of_later l2)) hn hn1 hn2 (hg.later (l.trans l2)) ((hd.later l2).rd)) (hOF n v) (hOL n v) (fun fb f hb V ao co ad cd k2 hq ho2 hd2=> ?_) (hCS n v)).mono ?_
   ·exact hCH n v fb f hb _ V so sd ao co ad cd (Nat.le_trans hsz l.size) k2.size (K2.trans k2) hq ho2 (by rw[←hrl];rw[←hrl]at hd2;exact hd2)
   ·rintro e w2 ⟨zd2,ao,co,ad,cd,rfl,k2,ho2,hd2,hc2⟩
    exact⟨zd2,ao,co,ad,cd,rfl,k2,ho2,hd2,hc2⟩
  ·rintro e w2 ⟨zd2,v2,rfl,k2,hc2,ho2⟩
   rw[hF.i1,hF.w4,hF.w6,hF.i8,hF.zo]at ho2;obtain⟨va,vc,rfl,_,_⟩:=ho2.slice;have ho3:Ow w.heap.size w2 _ (tgB 63 q.dst q.src zd2):=ho2.mono k.size;exact⟨0,oppo side,va,_,vc,rfl,k2,rfl,zd2,hc2,ho3⟩
 ·rintro e w' ⟨rc,sd,va,ln,vc,n,v,rfl,hk,hn1,hn2,rfl,z2,hc,ho⟩
  exact⟨n,v,sd,z2,_,rfl,hk,hn1,hn2,hc,ho⟩
theorem passF(base g:Nat)(f:Fl)(hb nn:Nat)(st st2:Int)(ws:Nat→Nat)(ex:List Ex)(l0 l1:List Pa)(tx:List Int)(now tr nw side:Int)(bk:Bool)(q:Tu)(src dst sp dp sq ak fl:Int)(zm z:List Int)(sb:Value)(w:World)(CQ:Int→List Int→World→Prop)(h:VF base g w f hb nn st ws ex l0 l1 tx now tr)(hbs:base≤w.heap.size)(hT:TG src dst sp dp sq ak fl zm z)(hl:zm.length≤500)(nI:Nat)(hI:Ow nI w sb (tgB 64 src dst z))(hcm:zUj side bk)(hq:q=if bk then oF else rF nn)(hu:(⟨6,src,dst,sp,dp⟩:Tu)=if bk then rF nn else oF)(hnw:nw≤9)(htr:tr≤98)(hst:nx st bk fl=st2)(h2:st2≠0)(h9:9<tm 6 st2)(hz:∀W,KG base w W→Tb W)
  (hCH:∀n f2 n1 W so sd ao co ad cd,(n≤nw∨n≤now)→now≤n→w.heap.size≤n1→n1≤W.heap.size→KG base w W→f2.blk=f.blk→VF base g W f2 hb nn st2 ws ex l0 l1 tx n (tr+1+1)→Ow n1 W (.slice ao 0 co) []→Ow n1 W (.slice ad z.length cd) (rwD 6 q.dst q.src q.dp q.sp z)→Calls Tryz.prog 356 #[.pointer (some ⟨hb,0,none⟩),.agg #[.pointer (some ⟨g,0,none⟩),.int .u8 0,.int .u16 0,.bool false,.int .u8 64,.int .u8 6,.int .u32 src,.int .u32 dst,so,sd,.int .i64 side,.pointer (some ⟨f.blk,0,none⟩),.bool bk,.int .u8 6,.int .u32 src,.int .u32 dst,.int .u16 sp,.int .u16 dp,.int .u8 6,.int .u32 q.dst,.int .u32 q.src,.int .u16 q.dp,.int .u16 q.sp],.agg #[.int .u8 0,.int .u16 0,.bool false,.int .u8 64,.int .u8 6,.int .u32 q.dst,.int .u32 q.src,.slice ao 0 co,.slice ad z.length cd]] W fun e w'=>ChT base n1 W w' 0 0 64 6 q false [] (CQ n) e)
  (hCS:∀n,CqS (CQ n))(hCL:∀n y W,CQ n y W→y.length≤60000)(hCT:∀n y A B,CQ n y A→Later A B→CQ n y B):
  Calls Tryz.prog 7 #[.pointer (some ⟨g,0,none⟩),.int .i64 nw,.int .i64 side,sb] w fun e w'=>TpQ base w w' nw now q (fun n v=>CQ n) e:=by
 obtain⟨s,hG,hS,rfl,rfl⟩:=h.gf;have hnN:=hS.n9
 have hqb:TuB q∧q.pr=6∧((0≤src∧src≤4294967295)∧(0≤dst∧dst≤4294967295)∧(0≤sp∧sp≤65535)∧(0≤dp∧dp≤65535)):=by
  have hbo:TuB oF:=by unfold TuB oF;simp
  have hbr:TuB (rF nn):=by unfold TuB rF;simp;omega
  cases bk
  ·obtain ⟨e1,e2,e3,e4,e5⟩:=Tu.mk.inj hu
   rw[hq];exact⟨hbr,rfl,by rw[e2];omega,by rw[e3];omega,by rw[e4];omega,by rw[e5];omega⟩
  ·obtain ⟨e1,e2,e3,e4,e5⟩:=Tu.mk.inj hu
   rw[hq];exact⟨hbo,rfl,by rw[e2];omega,by rw[e3];omega,by rw[e4];omega,by rw[e5];omega⟩
 obtain⟨hqb,hqp,hsr,hds,hsp,hdp⟩:=hqb;have hfo:=hS.o;have hfr:=hS.r;have hne1:=hS.ne;have hsd0:=hS.sd;have hfb:=hG.fb f (by rw[hS.fs];simp)
 have hqo:oth f bk=q:=by
  unfold oth;rw[hq,hfo,hfr]
 refine(zGy 457 (fun hb=> .pointer (some ⟨hb,0,none⟩)) 356 zJg zGx base g s side nw bk q src dst sp dp sq ak fl zm z sb (fun n v fb f2 hb2 W=>f2.blk=fb∧hb2=hb∧oth f2 bk=q∧f2.blk=f.blk∧((n≤nw∨n≤s.now)∧s.now≤n)∧VF base g W f2 hb nn st2 ws ex l0 l1 tx n (s.trn+1+1)) (fun n v=>CQ n) w hG hbs hT hl nI hI hsr hds (by rcases hcm with⟨e,_⟩|⟨e,_⟩<;>simp[e]) hqb hqp ⟨hS.now.1,by have:=hS.now.2;omega⟩ (by rw[hS.ex];exact⟨by have:=hS.dl.1;omega,fun n hn=>by rw[←hS.ex];exact hS.calm n (by have:=hS.now.2;omega)⟩) (fun n hn=>hS.quiet n (by have:=hS.now.2;omega)) hS.all hz ?hOW ?hOF ?hOL ?hCH ?hCS ?hCL ?hCT).mono (fun e w' h=>h)
 case hOW=>
  intro n v W so sd k hn hn1 hn2 hg hd
  have hS2:=hS.ltr n v ⟨hn.1,by have:=hS.now.2;omega⟩
  have hkr:∃(k:Nat) (r:Rw),kx 6 src dst sp dp (ltr s n v).rw=some k∧((ltr s n v).rw (bki 6 src dst sp dp))[k]? =some r∧r.id=f.id:=by
   cases bk
   ·obtain ⟨e1,e2,e3,e4,e5⟩:=Tu.mk.inj hu
    rw[e2,e3,e4,e5];exact hS2.forth
   ·obtain ⟨e1,e2,e3,e4,e5⟩:=Tu.mk.inj hu
    rw[e2,e3,e4,e5];exact hS2.back
  obtain⟨kk,r,hk1,hk2,hk3⟩:=hkr
  have hbk:bk=true↔¬(6=f.o.pr∧src=f.o.src∧dst=f.o.dst∧kyp 6 sp=kyp f.o.pr f.o.sp∧dp=f.o.dp):=by
   rw[hfo];cases bk
   ·obtain ⟨e1,e2,e3,e4,e5⟩:=Tu.mk.inj hu
    rw[e2,e3,e4,e5];simp[oF]
   ·obtain ⟨e1,e2,e3,e4,e5⟩:=Tu.mk.inj hu
    rw[e2,e3,e4,e5];simp[oF,rF]
  refine(owner_t base g (ltr s n v) f bk 0 0 64 src dst false so sd side z 6 src dst sp dp kk r W hg (by show f∈s.fs;rw[hS.fs];simp) (fun x hx y hy _=>by
   have hx':x∈s.fs:=hx;have hy':y∈s.fs:=hy;rw[hS.fs]at hx' hy';rw[List.mem_singleton.1 hx',List.mem_singleton.1 hy']) (fun x hx _=>by
   have hx':x∈s.fs:=hx;rw[hS.fs]at hx';exact List.mem_singleton.1 hx') hk1 hk2 hk3 hsr hds hsp hdp hbk hsd0 hcm (Nat.le_trans hbs k.size) (by rw[hfo];unfold TuB oF;simp) (by rw[hfr];unfold TuB rF;simp;omega) ⟨hS.trn.1,by show s.trn≤999999;omega⟩ hn hT.by_ hd (by have:=hT.len;omega) hsr hds hT.ok (by rw[hS2.st,hT.fl,hst];exact h2)).mono ?_
  rintro e w2 ⟨rfl,k2,hg2⟩;rw[hS2.st,hT.fl,hst]at hg2;obtain⟨q1,q2⟩:=hS2.become st2 (by show s.trn≤98;omega) h9;refine⟨f.at st2 ((ltr s n v).now+tm 6 st2),hb,rfl,k2,rfl,rfl,hqo,rfl,⟨hn1,hn2⟩,⟨_,hg2,q1,rfl,q2⟩,h.hp,?_,?_,h.vb⟩
  ·exact h.hn.kg (k.trans k2)
  ·exact HvP.kg (f:=f) h.hv (k.trans k2)
 case hOF=>
  rintro n v fb f2 hb2 W ⟨rfl,rfl,h3,h4,_,hv⟩;obtain⟨s2,hg2,hS2,_⟩:=hv.gf;exact⟨rfl,(hg2.fb f2 (by rw[hS2.fs];simp)).2,h3,hv.hp⟩
 case hOL=>
  rintro n v fb f2 hb2 A B ⟨h1,h2,h3,h4,h5,hv⟩ l;exact⟨h1,h2,h3,h4,h5,hv.later l⟩
 case hCH=>
  rintro n v fb f2 hb2 n1 W so sd ao co ad cd hw1 hw2 k ⟨rfl,rfl,h3,h4,h5,hv⟩ ho hd;rw[h4];exact hCH n f2 n1 W so sd ao co ad cd h5.1 h5.2 hw1 hw2 k h4 hv ho hd
 case hCS=>exact fun n v=>hCS n
 case hCL=>exact fun n v=>hCL n
 case hCT=>exact fun n v=>hCT n
noncomputable def lsk:Nat→Array Value
 |0=>Tryz.zeroCells336
 |1=>Tryz.zeroCells336.setIfInBounds 13 (.bool true)
 |_=>(Tryz.zeroCells336.setIfInBounds 13 (.bool true)).setIfInBounds 10 (.bool true)
theorem zJk(k:Nat):(lsk k).size=256:=by
 rcases k with _|_|k
 ·kernel_rfl
 ·show (Array.setIfInBounds _ _ _).size=256
  rw[Array.size_setIfInBounds];kernel_rfl
 ·show (Array.setIfInBounds _ _ _).size=256
  rw[Array.size_setIfInBounds,Array.size_setIfInBounds];kernel_rfl
theorem zU8:(lsk 2).all (·.oneCell')=true:=by kernel_rfl
theorem zNd(w:World):Calls Tryz.prog 185 #[.string ⟨#[13,10]⟩] w fun e w'=>e= .returned (.tuple #[.agg (lsk 2),.bool true])∧Below w.heap.size w w':=by
 have l1:Below w.heap.size w (w.alloc (.cells Tryz.zeroCells336 336)):=bA _ _;have B1:=zAd (show(w.alloc (.cells Tryz.zeroCells336 336)).heap[w.heap.size]? =some (.cells (lsk 0) 336 (0,0))from heap_alloc_new w _);have z13:(lsk 0)[13]? =some (.bool false):=by kernel_rfl
 have z10:(lsk 1)[10]? =some (.bool false):=by kernel_rfl
 go_enter Tryz.func185,Tryz.ntmps185;go_upto_region 1 with fail;generalize w.alloc (.cells Tryz.zeroCells336 336)=w1 at*;generalize hg:w.heap.size=g at*;go_wp2_with fail;go_loopw [4] (fun iv wr=>∃k:Nat,k≤2∧iv= .int .i64 (k:Int)∧wr.heap[g]? =some (.cells (lsk k) 336 (0,0))∧Below g w wr) (fun iv _=>2-(intOf iv).toNat)
 case atStart=>exact⟨0,by omega,rfl,B1.out,l1⟩
 case round=>
  obtain⟨k,hk2,rfl,hb,hbl⟩:=hrel;have kb:=zAa hb;have fb:=zAc hb;have HB:=zAd hb;clear hb;have hcase:k=2∨k=0∨k=1:=by omega
  rcases hcase with rfl|rfl|rfl
  ·clear kb fb
   have hsz:(Tryz.prog.info? 336).map (·.size)=some (lsk 2).size:=by rw[zJk];kernel_rfl
   go_upto_region 8 with fail
   go_wp2_with first
    |(refine wpList_load_row rfl 336 (.tmp 2) rfl g rfl 336 (lsk 2) (0,0) _ HB.out Tryz.underlying336 rfl hsz ?_)
    |(refine wpList_store_row rfl 336 (.tmp 2) (.tmp 20) rfl g (lsk 2) rfl rfl 336 (lsk 2) HB.out hsz rfl zU8 ?_)
   have R9:=setRow_heap wr g (lsk 2) (lsk 2) 336 (0,0) HB.out;have hL:=run_loadVar_row (P:=Tryz.prog) (wr.setRow g (lsk 2)) g 336 336 (lsk 2) (0,0) _ R9 Tryz.underlying336 rfl hsz;have hb9:Below g w (wr.setRow g (lsk 2)):=⟨hbl.os,hbl.tape,hbl.output,by rw[setRow_size];exact hbl.size,fun i hi=>by rw[setRow_other _ _ _ _ (by omega)];exact hbl.block i hi⟩;exact bodyPost_ret (v:= .tuple #[.agg (lsk 2),.bool true]) (by simp[results,Tryz.results185,asAddr,hL]) rfl ⟨rfl,by rw[hg];exact hb9⟩
  ·have hix:∀W:World,(Instr.index 9 (.string ⟨#[13,10]⟩) (.int .i64 0)).run Tryz.prog W= .ok (.int .u8 13) W:=fun W=>by kernel_rfl
   have k13:=(kb 13).trans z13;have f13:=fb 13;clear kb fb;go_wp2_with fail;exact⟨⟨1,by omega,rfl,zAh HB.out 13 (.bool true),hbl.trans ((But.setCell (E:=fun q=>q=g) (But.refl _ _) (p:=⟨g,13,none⟩) rfl _).below (Nat.le_trans (Nat.le_of_eq hg.symm) hbl.size) (fun k hk e=>by omega))⟩,by simp[intOf]⟩
  ·have hix:∀W:World,(Instr.index 9 (.string ⟨#[13,10]⟩) (.int .i64 1)).run Tryz.prog W= .ok (.int .u8 10) W:=fun W=>by kernel_rfl
   have k10:=(kb 10).trans z10;have f10:=fb 10;clear kb fb;go_wp2_with fail;exact⟨⟨2,by omega,rfl,zAh HB.out 10 (.bool true),hbl.trans ((But.setCell (E:=fun q=>q=g) (But.refl _ _) (p:=⟨g,10,none⟩) rfl _).below (Nat.le_trans (Nat.le_of_eq hg.symm) hbl.size) (fun k hk e=>by omega))⟩,by simp[intOf]⟩
def zEc (z:Int):Bool:=z==13||z==10
def crl (zs:List Int):Bool:=zs.any zEc
theorem zero_set:Tryz.zeroCells336=Array.replicate 256 (.bool false):=by kernel_rfl
theorem lsk_at(c:Nat)(hc:c<256):(lsk 2)[c]? =some (.bool (zEc (c:Int))):=by
 show((Tryz.zeroCells336.setIfInBounds 13 (.bool true)).setIfInBounds 10 (.bool true))[c]? =_
 rw[zero_set];by_cases h10:c=10
 ·subst h10;simp[zEc]
 by_cases h13:c=13
 ·subst h13;simp[zEc]
 rw[Array.getElem?_setIfInBounds_ne (by omega),Array.getElem?_setIfInBounds_ne (by omega),Array.getElem?_replicate,if_pos hc];have e1:((c:Int)==13)=false:=by simp;omega
 have e2:((c:Int)==10)=false:=by simp;omega
 simp[zEc,e1,e2]
theorem zRp(g:Nat)(c:Int)(w:World)(hb:w.heap[g]? =some (.cells (lsk 2) 336 (0,0)))(hc:0≤c∧c≤255):
  Calls Tryz.prog 186 #[.pointer (some ⟨g,0,none⟩),.int .u8 c] w fun e w'=>e= .returned (.bool (zEc c))∧w'=w:=by
 obtain⟨n,rfl⟩:∃n:Nat,c=(n:Int):=⟨c.toNat,by omega⟩;have k:=(zAa hb n).trans (lsk_at n (by omega));have hn:n<256:=by omega
 have hn':(n:Int)<256:=by omega
 go_enter Tryz.func186,Tryz.ntmps186;go_wp2_with fail;go_ret
 exact⟨rfl,rfl⟩
theorem zIh(n:Int)(w:World):Calls Tryz.prog 184 #[.int .i64 n] w fun e w'=>e= .returned (.bool (decide (8<n)))∧w'=w:=by
 go_enter Tryz.func184,Tryz.ntmps184;go_wp2_with fail;go_ret
 exact⟨rfl,rfl⟩
theorem zNe(sv:Value)(zs:List Int)(w:World)(hB:Mt.By zs)(hI:Rd w.heap.size w sv zs)(h8:8<zs.length):
  Calls Tryz.prog 135 #[sv,.string ⟨#[13,10]⟩] w fun e w'=>∃r:Int,e= .returned (.int .i64 r)∧decide (0≤r)=crl zs∧Below w.heap.size w w':=by
 obtain⟨av,cv,rfl,hlv,hmv⟩:=hI.slice;have t1:((zs.length:Int)==1)=false:=by simp;omega
 have t8:decide (8<(zs.length:Int))=true:=by simp;omega
 go_enter Tryz.func135,Tryz.ntmps135;go_upto_region 20 with fail;clear t1;go_wp2_with fail;refine(zIh _ w).mono ?_;rintro e w1 ⟨rfl,rfl⟩;go_wp2_with fail;refine(zNd w1).mono ?_;rintro e w2 ⟨rfl,b2⟩;have hsz:(Tryz.prog.info? 336).map (·.size)=some (lsk 2).size:=by rw[zJk];kernel_rfl
 have hzz:Tryz.zeroCells336.size=(lsk 2).size:=by rw[zJk];kernel_rfl
 have B2:=heap_alloc_new w2 (.cells Tryz.zeroCells336 336);have la:=(Below.refl w2.heap.size w2).alloc (Nat.le_refl _) (.cells Tryz.zeroCells336 336);have B3:=zAd (setRow_heap _ _ _ (lsk 2) _ _ B2);have l3:Later w1 ((w2.alloc (.cells Tryz.zeroCells336 336)).setRow w2.heap.size (lsk 2)):=Later.trans b2 ⟨la.os,la.tape,la.output,by rw[setRow_size];exact la.size,fun i hi=>by rw[setRow_other _ _ _ _ (by omega)];exact la.block i hi⟩;go_upto_region 22 with(refine wpList_store_row rfl 336 (.tmp 7) (.tmp 57) rfl w2.heap.size (lsk 2) rfl rfl 336 Tryz.zeroCells336 B2 hsz hzz zU8 ?_);generalize (w2.alloc (.cells Tryz.zeroCells336 336)).setRow w2.heap.size (lsk 2)=w3 at*;generalize w2.heap.size=g at*;clear B2 la hsz hzz b2;have hI3:=hI.later l3;obtain⟨bb,off,cp,he,hl5,hl6,hl7,hcell⟩:=hI3.cells (by omega);obtain⟨rfl,rfl⟩:av=some ⟨bb,off,none⟩∧cv=cp:=by injection he with h1 h2 h3;exact⟨h1,h3⟩
 have HC:=zAd hcell;clear hcell he hI hI3 t8;go_wp2_with fail;go_loopw [62] (fun iv wr=>∃k:Nat,k≤zs.length∧iv= .int .i64 (k:Int)∧(zs.take k).any zEc=false∧wr=w3) (fun iv _=>zs.length-(intOf iv).toNat)
 case atStart=>exact⟨0,by omega,rfl,rfl,rfl⟩
 case round=>
  obtain⟨k,hk,rfl,hno,rfl⟩:=hrel;by_cases hlt:k<zs.length
  ·have hlt':(k:Int)<zs.length:=by omega
   have hck:=HC.out k hlt;have hzb:=Mt.By.at hB k
   have HT:Hid ((zs.take (k+1)).any zEc=((zs.take k).any zEc||zEc (zs[k]?.getD 0))):=by
    show _=_
    rw[List.take_succ_eq_append_getElem hlt,List.any_append,List.getElem?_eq_getElem hlt];simp
   have HA:Hid (zEc (zs[k]?.getD 0)=true→crl zs=true):=fun h=>by
    unfold crl;rw[List.any_eq_true];refine⟨zs[k]?.getD 0,?_,h⟩;rw[List.getElem?_eq_getElem hlt];exact List.getElem_mem hlt
   have HS:=zAd (zRp g (zs[k]?.getD 0) wr B3.out hzb);generalize zs[k]?.getD 0=c at*;cases hcr:zEc c with
   |true=>
    rw[hcr]at HS;go_wp2_with fail;refine HS.out.mono ?_;rintro e w4 ⟨rfl,rfl⟩;go_wp2_with fail;go_ret
    exact⟨k,rfl,by rw[HA.out hcr];simp,l3⟩
   |false=>
    rw[hcr]at HS;go_wp2_with fail;refine HS.out.mono ?_;rintro e w4 ⟨rfl,rfl⟩;go_wp2_with fail;go_roundw
    case rel=>exact⟨k+1,hlt,by go_num,by rw[HT.out,hno,hcr];rfl,trivial⟩
    case measure=>simp[intOf];omega
  ·obtain rfl:k=zs.length:=by omega
   rw[List.take_length]at hno;go_wp2_with fail;go_ret
   exact⟨-1,rfl,by unfold crl;rw[hno];rfl,l3⟩
def dgt (c:Int):Bool:=decide (48≤c) && decide (c≤57)
theorem zCe(c:Int)(w:World):Calls Tryz.prog 190 #[.int .i32 c] w fun e w'=>e= .returned (.bool (dgt c))∧w'=w:=by
 unfold dgt;go_enter Tryz.func190,Tryz.ntmps190;by_cases h:48≤c
 ·go_wp2_with fail
  go_ret
  exact⟨by simp[h],rfl⟩
 ·go_wp2_with fail
  go_ret
  exact⟨by first|(simp[h];done)|(simp[h];omega),rfl⟩
def bAt (s:ByteArray) (i:Nat):Int:=((s.get! i).toNat:Int)
theorem zRq(s:ByteArray)(pos:Nat)(h:pos<s.size):dgt ((Utf8.decode s pos).1:Int)=dgt (bAt s pos)∧(dgt (bAt s pos)=true→Utf8.decode s pos=((s.get! pos).toNat,1)):=by
 have e:s[pos]'h=s.get! pos:=by simp[ByteArray.get!,getElem!_pos,h];rfl
 by_cases ha:(s[pos]'h).toNat<128
 ·have hd:=decode_ascii s pos h ha
  rw[e]at hd;rw[hd];exact⟨rfl,fun _=>rfl⟩
 ·rw[e]at ha
  have h1:dgt (bAt s pos)=false:=by unfold dgt bAt;simp;omega
  have h2:128≤(Utf8.decode s pos).1:=by
   have hb:∀k,(s.get! (pos+k)).toNat<256:=fun k=>(s.get! (pos+k)).toNat_lt;have h0:=hb 0;have h1:=hb 1;have h2:=hb 2;have h3:=hb 3;simp only[Utf8.decode];repeat' split
   all_goals simp_all [Utf8.runeError]
   all_goals omega
  refine⟨?_,fun h=>by rw[h1]at h;cases h⟩;rw[h1];unfold dgt;simp
  omega
def zFv (s:ByteArray) (most:Int):Nat→Nat→Int→Option Int
 |0,_,n=>some n
 |k+1,pos,n=>if dgt (bAt s pos)=false then none else if 0<pos∧n=0 then none else if most<n*10+(bAt s pos-48)then none else zFv s most k (pos+1) (n*10+(bAt s pos-48))
def zC6 (s:ByteArray) (most:Int):Option Int:=if s.size=0 then none else zFv s most s.size 0 0
theorem zBr(w:World)(s:ByteArray)(p:Nat):Later w (w.iter s p):=bA _ _
theorem zNf(s:ByteArray)(i:Nat):0≤bAt s i∧bAt s i≤255:=by unfold bAt;have:=(s.get! i).toNat_lt;omega
theorem zU9(s:ByteArray)(h:s.size=0):s=⟨#[]⟩:=by
 cases s with
 |mk d=>simp[ByteArray.size]at h;simp[h]
theorem zIi(s:ByteArray)(most:Int)(w:World)(hm:0≤most∧most≤1000000):
  Calls Tryz.prog 189 #[.string s,.int .i64 most] w fun e w'=>e= .returned (.tuple #[.int .i64 ((zC6 s most).getD 0),.bool (zC6 s most).isSome])∧Later w w':=by
 have HE:Hid (s.size=0→zC6 s most=none):=fun h=>by unfold zC6;rw[if_pos h]
 have HN:Hid (s.size≠0→zC6 s most=zFv s most s.size 0 0):=fun h=>by unfold zC6;rw[if_neg h]
 generalize zC6 s most=r at*;obtain⟨hm1,hm2⟩:=hm;go_enter Tryz.func189,Tryz.ntmps189;go_wp2_with fail;go_loopw [6] (fun nv wr=>∃(pos:Nat) (n:Int),pos≤s.size∧nv= .int .i64 n∧0≤n∧n≤most∧wr=w.iter s pos∧zFv s most (s.size-pos) pos n=zFv s most s.size 0 0∧(pos=0→n=0)) (fun _ wr=>s.size-wr.iterPos w.heap.size)
 case atStart=>exact⟨0,0,by omega,rfl,by omega,by omega,rfl,rfl,fun _=>rfl⟩
 case round=>
  obtain⟨pos,n,hp,rfl,hn1,hn2,rfl,hnp,hz⟩:=hrel;have HZ:=zAd hz;have HNP:=zAd hnp;clear hz hnp;by_cases hlt:pos<s.size
  ·have hnx:=run_next_any (P:=Tryz.prog) w s pos 0 hlt
   obtain⟨hd1,hd2⟩:=zRq s pos hlt;have hb:=zNf s pos;have HR:=zAd (HN.out (by omega))
   have HS:Hid (zFv s most (s.size-pos) pos n=if dgt (bAt s pos)=false then none else if 0<pos∧n=0 then none else if most<n*10+(bAt s pos-48)then none else zFv s most (s.size-(pos+1)) (pos+1) (n*10+(bAt s pos-48))):=by
    show _=_
    rw[show s.size-pos=(s.size-(pos+1))+1 by omega];rfl
   generalize hc:Utf8.decode s pos=dc at*;obtain⟨c,kk⟩:=dc;have HD2:=zAd hd2;have HD1:=zAd hd1;clear hd1 hd2 hc;simp only at hnx;generalize hbb:bAt s pos=bb at*;have HBB:Hid ((((s.get! pos).toNat:Nat):Int)=bb):=hbb;clear hbb;cases hdg:dgt bb with
   | false=>
    have hdc:dgt (c:Int)=false:=HD1.out.trans hdg;have HV:Hid (r=none):=by show _=_;rw[HR.out,←HNP.out,HS.out,if_pos hdg]
    clear hdg;rcases(show pos=0∨(0<pos∧n=0)∨(0<pos∧n≠0) by omega)with hq|⟨hq,hq2⟩|⟨hq,hq2⟩
    case' inl=>
     have q1:¬(0:Int)<(pos:Int):=by omega
     have q2:¬0<pos:=by omega
     clear hq
    case' inr.inl=>
     have q1:(0:Int)<(pos:Int):=by omega
     have q3:(n==0)=true:=by simp[hq2]
     clear hq2
    case' inr.inr=>
     have q1:(0:Int)<(pos:Int):=by omega
     have q3:(n==0)=false:=by simpa using hq2
    all_goals
     go_wp2_with fail;refine(zCe (c:Int) _).mono ?_;rw[hdc];rintro e w1 ⟨rfl,rfl⟩;clear hdc;go_wp2_with fail;refine bodyPost_ret (v:= .tuple #[.int .i64 0,.bool false]) (by simp[results,Tryz.results189,go_sem]) rfl ?_;rw[HV.out];exact⟨rfl,zBr _ _ _⟩
   | true=>
    have hdc:dgt (c:Int)=true:=HD1.out.trans hdg;have hcc:=HD2.out hdg;have hd3:48≤bb∧bb≤57:=by unfold dgt at hdg;simpa using hdg
    obtain⟨rfl,rfl⟩:c=(s.get! pos).toNat∧kk=1:=by simpa using hcc
    have hcb:(((s.get! pos).toNat:Nat):Int)=bb:=HBB.out;rw[hcb]at hnx hdc;clear hcc hcb HD1 HD2;have HS2:Hid (zFv s most (s.size-pos) pos n=if 0<pos∧n=0 then none else if most<n*10+(bb-48)then none else zFv s most (s.size-(pos+1)) (pos+1) (n*10+(bb-48))):=by show _=_;rw[HS.out,hdg,if_neg (by simp)]
    clear hdg HS;obtain⟨hd3,hd4⟩:=hd3;by_cases hno:0<pos∧n=0
    ·have HV:Hid (r=none):=by show _=_;rw[HR.out,←HNP.out,HS2.out,if_pos hno]
     have q1:(0:Int)<(pos:Int):=by omega
     have q2:=hno.1;have q3:(n==0)=true:=by simp[hno.2]
     clear hno;go_wp2_with fail;refine(zCe bb _).mono ?_;rw[hdc];rintro e w1 ⟨rfl,rfl⟩;clear hdc;go_wp2_with fail;refine bodyPost_ret (v:= .tuple #[.int .i64 0,.bool false]) (by simp[results,Tryz.results189,go_sem]) rfl ?_;rw[HV.out];exact⟨rfl,zBr _ _ _⟩
    ·have HS3:Hid (zFv s most (s.size-pos) pos n=if most<n*10+(bb-48)then none else zFv s most (s.size-(pos+1)) (pos+1) (n*10+(bb-48))):=by show _=_;rw[HS2.out,if_neg hno]
     rcases(show pos=0∨(0<pos∧n≠0) by omega)with hq|⟨hq,hq2⟩
     case' inl=>
      have q1:¬(0:Int)<(pos:Int):=by omega
      have q2:¬0<pos:=by omega
      clear hq
     case' inr=>
      have q1:(0:Int)<(pos:Int):=by omega
      have q3:(n==0)=false:=by simpa using hq2
     all_goals
      clear hno HS2;by_cases hbig:most<n*10+(bb-48)
      ·have HV:Hid (r=none):=by show _=_;rw[HR.out,←HNP.out,HS3.out,if_pos hbig]
       go_wp2_with fail;refine(zCe bb _).mono ?_;rw[hdc];rintro e w1 ⟨rfl,rfl⟩;clear hdc;go_wp2_with fail;refine bodyPost_ret (v:= .tuple #[.int .i64 0,.bool false]) (by simp[results,Tryz.results189,go_sem]) rfl ?_;rw[HV.out];exact⟨rfl,zBr _ _ _⟩
      ·have HP:Hid (zFv s most (s.size-(pos+1)) (pos+1) (n*10+(bb-48))=zFv s most s.size 0 0):=by show _=_;rw[←HNP.out,HS3.out,if_neg hbig]
       have hrg:0≤n*10+(bb-48):=by omega
       go_wp2_with fail;refine(zCe bb _).mono ?_;rw[hdc];rintro e w1 ⟨rfl,rfl⟩;clear hdc;go_wp2_with fail;go_roundw
       case rel=>exact⟨pos+1,n*10+(bb-48),by omega,rfl,hrg,by omega,rfl,HP.out,by omega⟩
       case measure=>simp;omega
  ·have hpe:pos=s.size:=by omega
   have hnx:=run_next_end (P:=Tryz.prog) w s pos 0 hlt;have hse:pos=0→s.size=0:=by omega
   clear hpe;by_cases hs0:s.size=0
   ·have HV:=zAd (HE.out hs0)
    obtain rfl:=zU9 s hs0;have hn0:n=0:=HZ.out (by omega);subst hn0;go_wp2_with fail;refine bodyPost_ret (v:= .tuple #[.int .i64 0,.bool false]) (by simp[results,Tryz.results189,go_sem]) rfl ?_;rw[HV.out];exact⟨rfl,zBr _ _ _⟩
   ·have HV:Hid (r=some n):=by show _=_;rw[HN.out hs0,←HNP.out,show s.size-pos=0 by omega];rfl
    have hne:s.toList.isEmpty=false:=by
     rw[ByteArray.toList_eq];cases hl:s.data.toList with
     |nil=>exact absurd (by show s.data.size=0;rw[←Array.length_toList,hl];rfl) hs0
     |cons _ _=>rfl
    go_wp2_with fail;refine bodyPost_ret (v:= .tuple #[.int .i64 n,.bool true]) (by simp[results,Tryz.results189,go_sem]) rfl ?_;rw[HV.out];exact⟨rfl,zBr _ _ _⟩
theorem zPv(s:ByteArray)(most:Int)(hm:0≤most):∀k pos n r,0≤n→n≤most→zFv s most k pos n=some r→0≤r∧r≤most
 |0,pos,n,r,h1,h2,h=>by
  have e:n=r:=by simpa[zFv]using h
  rw[←e];exact⟨h1,h2⟩
 |k+1,pos,n,r,h1,h2,h=>by
  unfold zFv at h;split at h
  ·cases h
  rename_i hd
  split at h
  ·cases h
  split at h
  ·cases h
  have hd':dgt (bAt s pos)=true:=by simpa using hd
  unfold dgt at hd'
  simp at hd'
  exact zPv s most hm k (pos+1) _ r (by omega) (by omega) h
theorem zFw(s:ByteArray)(most:Int)(hm:0≤most):0≤(zC6 s most).getD 0∧(zC6 s most).getD 0≤most:=by
 cases h:zC6 s most with
 |none=>exact⟨Int.le_refl _,hm⟩
 |some r=>
  unfold zC6 at h;split at h
  ·cases h
  exact zPv s most hm _ _ _ r (Int.le_refl _) hm h
theorem zVa(s:ByteArray)(w:World):Calls Tryz.prog 136 #[.string s] w fun e w'=>e= .returned (.tuple #[.int .u8 ((zC6 s 255).getD 0),.bool (zC6 s 255).isSome])∧Later w w':=by
 have hr:=zFw s 255 (by omega);have HN:=zAd (zIi s 255 w (by omega));generalize (zC6 s 255).getD 0=v at*;generalize (zC6 s 255).isSome=b at*;obtain⟨h1,h2⟩:=hr;go_enter Tryz.func136,Tryz.ntmps136;go_wp2_with fail;refine HN.out.mono ?_;rintro e w1 ⟨rfl,l1⟩;go_wp2_with fail;refine bodyPost_ret (v:= .tuple #[.int .u8 v,.bool b]) (by first|(simp[results,Tryz.results136,go_sem];done)|(simp[results,Tryz.results136,go_sem];omega)) rfl ?_;exact⟨rfl,l1⟩
def sml (c:Int):Int:=if 65≤c∧c≤90 then c+32 else c
theorem zLe(c:Int)(w:World)(hc:0≤c∧c≤255):Calls Tryz.prog 140 #[.int .u8 c] w fun e w'=>e= .returned (.int .u8 (sml c))∧Later w w':=by
 have HV:Hid ((65≤c∧c≤90→sml c=c+32)∧(¬(65≤c∧c≤90)→sml c=c)):=⟨fun h=>if_pos h,fun h=>if_neg h⟩;obtain⟨hc1,hc2⟩:=hc;generalize sml c=z at*;go_enter Tryz.func140,Tryz.ntmps140;by_cases h1:65≤c
 ·by_cases h2:c≤90
  ·have hz:=HV.out.1 ⟨h1,h2⟩
   subst hz;go_wp2_with fail;go_ret
   exact⟨by first|rfl|(simp;omega),Later.refl _⟩
  ·have hz:=HV.out.2 (by omega)
   subst hz;go_wp2_with fail;go_ret
   exact⟨rfl,Later.refl _⟩
 ·have hz:=HV.out.2 (by omega)
  subst hz;go_wp2_with fail;go_ret
  exact⟨rfl,Later.refl _⟩
def swP (s t:ByteArray):Nat→Nat→Bool
 |0,_=>true
 |k+1,pos=>if sml (bAt s pos)=sml (bAt t pos)then swP s t k (pos+1)else false
def swV (s t:ByteArray):Bool:=decide (s.size=t.size) && swP s t s.size 0
theorem zLf(s t:ByteArray)(w:World)(hs:s.size≤9223372036854775807):Calls Tryz.prog 77 #[.string s,.string t] w fun e w'=>e= .returned (.bool (swV s t))∧Later w w':=by
 by_cases hst:s.size=t.size
 ·have HV:Hid (swV s t=swP s t s.size 0):=by show _=_;unfold swV;simp[hst]
  have hb:((s.size:Int) !=(t.size:Int))=false:=by simp[hst]
  have HST:=zAd hst;clear hst;generalize swV s t=z at*;go_enter Tryz.func77,Tryz.ntmps77;go_wp2_with fail;clear hb;go_loopw [13] (fun iv wr=>∃pos:Nat,pos≤s.size∧iv= .int .i64 (pos:Int)∧Later w wr∧swP s t (s.size-pos) pos=swP s t s.size 0) (fun iv _=>s.size-(intOf iv).toNat)
  case atStart=>exact⟨0,by omega,rfl,Later.refl _,rfl⟩
  case round=>
   obtain⟨pos,hp,rfl,lw,hsw⟩:=hrel;have HSW:=zAd hsw;clear hsw;by_cases hlt:pos<s.size
   ·have hlt1:(pos:Int)<s.size:=by omega
    have hlt2:(pos:Int)<t.size:=by have:=HST.out;omega
    have hlt3:pos<t.size:=by have:=HST.out;omega
    have HS2:Hid (swP s t (s.size-pos) pos=if sml (bAt s pos)=sml (bAt t pos)then swP s t (s.size-(pos+1)) (pos+1)else false):=by
     show _=_
     rw[show s.size-pos=(s.size-(pos+1))+1 by omega];rfl
    go_upto_region 6 with fail;refine zAn Later.pre Later.drew 9 rfl (by kernel_rfl) ?_;intro Wd hWd
    refine rX Later.pre 0 ?_;refine rX Later.pre 1 ?_;refine rX Later.pre 2 ?_;refine rX Later.pre 4 ?_;refine rX Later.pre 5 ?_;refine rX Later.pre 6 ?_;have es:((s[pos]'hlt).toNat:Int)=bAt s pos:=by unfold bAt;simp[ByteArray.get!,getElem!_pos,hlt];rfl
    have et:((t[pos]'hlt3).toNat:Int)=bAt t pos:=by unfold bAt;simp[ByteArray.get!,getElem!_pos,hlt3];rfl
    simp only[es,et];clear es et;have hbs:=zNf s pos;have hbt:=zNf t pos;generalize bAt s pos=x at*;generalize bAt t pos=y at*;refine zAq Later.pre 3 (.int .u8 (sml x)) rfl (by kernel_rfl) (by kernel_rfl) (by kernel_rfl) (fun _ _ _ h=>h) rfl (fun w1 hw1=>zAo 140 #[.int .u8 x] (by go_simp) (zLe x w1 hbs)) ?_;simp only[Act.put,sA,sB,sC];refine zAq Later.pre 7 (.int .u8 (sml y)) rfl (by kernel_rfl) (by kernel_rfl) (by kernel_rfl) (fun _ _ _ h=>h) rfl (fun w1 hw1=>zAo 140 #[.int .u8 y] (by go_simp) (zLe y w1 hbt)) ?_;simp only[Act.put,sA,sB,sC];by_cases hxy:sml x=sml y
    ·have hne:(sml x !=sml y)=false:=by simp[hxy]
     have HS3:Hid (swP s t (s.size-pos) pos=swP s t (s.size-(pos+1)) (pos+1)):=by show _=_;rw[HS2.out,if_pos hxy]
     clear hxy;refine rX Later.pre 8 ?_;refine rD (fun VD hVD=> ?_);go_wp2_with fail;go_roundw
     case rel=>exact⟨pos+1,by omega,by simp,lw.trans (hWd.trans hVD),by rw[←HS3.out];exact HSW.out⟩
     case measure=>simp[intOf];omega
    ·have hne:(sml x !=sml y)=true:=by simp[bne,hxy]
     have HZ:Hid (z=false):=by show _=_;rw[HV.out,←HSW.out,HS2.out,if_neg hxy]
     clear hxy;refine rX Later.pre 8 ?_;refine rD (fun VD hVD=> ?_);go_wp2_with fail;refine bodyPost_ret (v:= .bool false) (by simp[results,Tryz.results77,go_sem]) rfl ?_;exact⟨by rw[HZ.out],lw.trans (hWd.trans hVD)⟩
   ·have hlt1:¬(pos:Int)<s.size:=by omega
    have HZ:Hid (z=true):=by show _=_;rw[HV.out,←HSW.out,show s.size-pos=0 by omega];rfl
    go_wp2_with fail;refine bodyPost_ret (v:= .bool true) (by simp[results,Tryz.results77,go_sem]) rfl ?_;exact⟨by rw[HZ.out],lw⟩
 ·have HV:Hid (swV s t=false):=by show _=_;unfold swV;simp[hst]
  have hb:((s.size:Int) !=(t.size:Int))=true:=by simp[bne];omega
  clear hst;generalize swV s t=z at*;go_enter Tryz.func77,Tryz.ntmps77;go_wp2_with fail;go_ret
  exact⟨by rw[HV.out];rfl,Later.refl _⟩
end Go.Proofs.YteaeilghamjjkaaGreatDoor
