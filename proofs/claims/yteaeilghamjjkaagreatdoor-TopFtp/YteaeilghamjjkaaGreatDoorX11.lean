import Derived.Test.YteaeilghamjjkaaGreatDoorX12
import Derived.Deep.AppendLies
import Derived.Deep.Upon
import Derived.Deep.DeepCutAuto
import Derived.Deep.CutBlock
import Derived.Scope
import Derived.WalkMore
namespace Go.Proofs.YteaeilghamjjkaaGreatDoor
set_option maxHeartbeats 4000000
open Go.RowKit Go.Shelf
set_option maxRecDepth 100000
set_option linter.unusedVariables false
set_option linter.unusedSimpArgs false
section
variable (tos id f ttl proto src dst:Int) (zo zd:List Int) (all s:Int)
end
structure TG (src dst sp dp sq ak fl:Int) (zm z:List Int):Prop where
 by_:Mt.By z
 len:z.length=20+zm.length
 ok:pte 6 src dst z=0
 a:wat z 0=sp
 b:wat z 2=dp
 sq:zAs z 4=sq
 ak:zAs z 8=ak
 fl:z[13]?.getD 0=fl
 wn:wat z 14=0
 ur:wat z 18=0
 th:thd z=20
 dat:z.drop 20=zm
theorem TG.hp {src dst sp dp sq ak fl:Int} {zm z:List Int} (h:TG src dst sp dp sq ak fl zm z):hop z=[]:=by
 unfold hop;rw[h.th];simp
theorem zPs(src dst sp dp sq ak fl:Int)(zm:List Int)(hsr:0≤src∧src≤4294967295)(hds:0≤dst∧dst≤4294967295)(h1:0≤sp∧sp≤65535)(h2:0≤dp∧dp≤65535)(h3:0≤sq∧sq≤4294967295)(h4:0≤ak∧ak≤4294967295)(h5:0≤fl∧fl≤255)(hB:Mt.By zm):TG src dst sp dp sq ak fl zm (tcp sp dp sq ak fl 0 0 [] src dst zm):=by
 have h0:Mt.By (zEy sp dp sq ak fl 0 0 [] zm):=zTg sp dp sq ak fl 0 0 [] zm h1 h2 h3 h4 h5 (by omega) (by omega) (by simp) Mt.By.nil hB;have hp:=tcp_pte sp dp sq ak fl 0 0 [] src dst zm zI0 hsr hds h0;refine⟨By_tcp _ _ _ _ _ _ _ _ _ _ _ h0,by rw[zHy];simp,hp.1,by rw[tcp_w0]<;>omega,by rw[tcp_w2]<;>omega,?_,?_,by rw[tcp_13],by rw[tcp_w14]<;>omega,by rw[tcp_w18]<;>omega,?_,?_⟩
 ·rw[tcp_w4]<;>omega
 ·rw[tcp_w8]<;>omega
 ·rw[zM0 _ _ _ _ _ _ _ _ _ _ _ (by simp)]
  simp
 ·exact tcp_drop _ _ _ _ _ _ _ _ _ _ _ 20 (by simp)
theorem zFk {src dst sp dp sq ak fl s d a b:Int} {zm z:List Int} (h:TG src dst sp dp sq ak fl zm z)(hs:0≤s∧s≤4294967295)(hd:0≤d∧d≤4294967295)(ha:0≤a∧a≤65535)(hb:0≤b∧b≤65535):TG s d a b sq ak fl zm (rwD 6 s d a b z):=by
 have hl:=h.len;have ht:=zT3 (s:=s) (d:=d) (a:=a) (b:=b) h.by_ h.ok hs hd ha hb;have hlt:(rwT s d a b z).length=z.length:=zB4 _ _ _ _ _;have ho:∀j,4≤j→j≠16→j≠17→(rwT s d a b z)[j]? =z[j]? :=fun j h1 h2 h3=>zGn _ _ _ _ _ j h1 h2 h3;show TG s d a b sq ak fl zm (rwT s d a b z)
 refine⟨rwT_by h.by_ ha hb,by rw[hlt];exact hl,by first|exact ht|exact ht.1,rwT_w0 _ _ _ _ _ (by omega) ha.1,rwT_w2 _ _ _ _ _ (by omega) hb.1,?_,?_,?_,?_,?_,?_,?_⟩
 ·rw[←h.sq]
  exact zK1 fun j h1 h2=>ho j (by omega) (by omega) (by omega)
 ·rw[←h.ak]
  exact zK1 fun j h1 h2=>ho j (by omega) (by omega) (by omega)
 ·rw[←h.fl,ho 13 (by omega) (by omega) (by omega)]
 ·rw[←h.wn]
  exact zCl (ho 14 (by omega) (by omega) (by omega)) (ho 15 (by omega) (by omega) (by omega))
 ·rw[←h.ur]
  exact zCl (ho 18 (by omega) (by omega) (by omega)) (ho 19 (by omega) (by omega) (by omega))
 ·have e:=h.th
  unfold thd at e⊢;rw[ho 12 (by omega) (by omega) (by omega)];exact e
 ·rw[←h.dat]
  exact zK2 fun j h1=>ho j (by omega) (by omega) (by omega)
def tgB (ttl src dst:Int) (z:List Int):List Int:=hdr 0 0 false ttl 6 src dst [] (20+([]:List Int).length+z.length)++z
structure TgF (ttl src dst:Int) (zs z:List Int):Prop where
 by_:Mt.By zs
 len:zs.length≤600
 rd:rde false zs=0
 i9:zs[9]?.getD 0=6
 i8:zs[8]?.getD 0=ttl
 i1:zs[1]?.getD 0=0
 w4:wat zs 4=0
 w6:decide (16384≤wat zs 6 % 32768)=false
 src:zAs zs 12=src
 dst:zAs zs 16=dst
 zo:((zs.take (hl4 zs).toNat).drop 20)=[]
 zd:((zs.take (ral false zs).toNat).drop (hl4 zs).toNat)=z
theorem zJc {ttl src dst:Int} {z:List Int} (hB:Mt.By z)(hz:z.length≤550)(htt:0≤ttl∧ttl≤255)(hsr:0≤src∧src≤4294967295)(hds:0≤dst∧dst≤4294967295):TgF ttl src dst (tgB ttl src dst z) z:=by
 have hBh:=(h20_by 0 0 false ttl 6 src dst ([]:List Int).length (20+([]:List Int).length+z.length) 0 (by simp) (by omega) (by omega) htt (by omega) hsr hds (by simp;omega) (by omega)).append Mt.By.nil
 have hBy:Mt.By (tgB ttl src dst z):=by
  unfold tgB;rw[zCr];exact((h20_by 0 0 false ttl 6 src dst ([]:List Int).length (20+([]:List Int).length+z.length) _ (by simp) (by omega) (by omega) htt (by omega) hsr hds (by simp;omega) (Mt.cks_bd _)).append Mt.By.nil).append hB
 have hr:=zTs 0 0 false ttl 6 src dst [] z [] (by simp) (by simp) (by simp;omega) hBh;rw[List.append_nil]at hr;have e3:=zTq 0 0 false ttl 6 src dst [] z (20+([]:List Int).length+z.length) (by simp) (by simp);have e2:=zOu 0 0 false ttl 6 src dst [] z (20+([]:List Int).length+z.length)
 have hral:ral false (tgB ttl src dst z)=((20+([]:List Int).length+z.length:Nat):Int):=by
  have q0:∀zs:List Int,ral false zs=wat zs 2:=fun zs=>by simp[ral]
  unfold tgB;rw[q0,e2];simp
 refine⟨hBy,by unfold tgB;rw[List.length_append,zIs];simp;omega,hr,hdr_9 _ _ _ _ _ _ _ _ _ _,hdr_8 _ _ _ _ _ _ _ _ _ _,hdr_1 _ _ _ _ _ _ _ _ _ _,hdr_wat4 _ _ _ _ _ _ _ _ _ _,?_,hdr_src _ _ _ _ _ _ _ _ _ _,hdr_dst _ _ _ _ _ _ _ _ _ _,?_,?_⟩
 ·unfold tgB
  rw[zOv];decide
 ·unfold tgB
  rw[e3,Int.toNat_natCast,zPg,hdr_opts]
 ·rw[hral]
  unfold tgB;rw[e3,Int.toNat_natCast,Int.toNat_natCast];have q:=zTr 0 0 false ttl 6 src dst [] z (20+([]:List Int).length+z.length) [];rw[List.append_nil]at q;exact q
theorem zUo(ttl src dst:Int)(so sd:Value)(z:List Int)(w:World)(hB:Mt.By z)(hz:z.length≤550)(hIo:Rd w.heap.size w so [])(hId:Rd w.heap.size w sd z)(htt:0≤ttl∧ttl≤255)(hsr:0≤src∧src≤4294967295)(hds:0≤dst∧dst≤4294967295):
  Calls Tryz.prog 24 #[.agg #[.int .u8 0,.int .u16 0,.bool false,.int .u8 ttl,.int .u8 6,.int .u32 src,.int .u32 dst,so,sd]] w fun e w'=>Later w w'∧∃v,e= .returned (.tuple #[v,.int .i64 0])∧Ow w.heap.size w' v (tgB ttl src dst z):=by
 refine(zEj 0 0 ttl 6 src dst false so sd [] z w Mt.By.nil hIo hId (by simp) (by simp) (by simp;omega) (by omega) (by omega) htt (by omega) hsr hds).mono ?_;rintro e w' ⟨v,rfl,hO,hb⟩;exact⟨hb,v,rfl,hO⟩
theorem zUp(ttl src dst:Int)(sv:Value)(z:List Int)(w:World)(hB:Mt.By z)(hz:z.length≤550)(hI:Rd w.heap.size w sv (tgB ttl src dst z))(htt:0≤ttl∧ttl≤255)(hsr:0≤src∧src≤4294967295)(hds:0≤dst∧dst≤4294967295):
  Calls Tryz.prog 25 #[sv] w fun e w'=>Later w w'∧∃a7 c7 a8 l8 c8,e= .returned (.tuple #[.agg #[.int .u8 0,.int .u16 0,.bool false,.int .u8 ttl,.int .u8 6,.int .u32 src,.int .u32 dst,.slice a7 0 c7,.slice a8 l8 c8],.int .i64 0])∧Ow w.heap.size w' (.slice a7 0 c7) []∧Ow w.heap.size w' (.slice a8 l8 c8) z:=by
 have hF:=zJc hB hz htt hsr hds;refine(zGl sv _ w hF.by_ (by have:=hF.len;omega) hI).mono ?_;rintro e w' ⟨hb,⟨hx,_⟩|⟨_,so,sd,rfl,hO,hD⟩⟩
 ·exact absurd hF.rd hx
 rw[hF.zo]at hO;rw[hF.zd]at hD;obtain⟨ao,co,rfl,_,_⟩:=hO.slice;obtain⟨ad,cd,rfl,_,_⟩:=hD.slice;refine⟨hb,ao,co,ad,_,cd,?_,hO,hD⟩;unfold pkt;rw[hF.i1,hF.w4,hF.w6,hF.i8,hF.i9,hF.src,hF.dst];rfl
theorem rdo_nil(W:World):RdO W.heap.size W (.slice none 0 0) []:= .inl ⟨none,0,rfl,rfl,by omega,fun _=>rfl⟩
theorem zB2(src dst sp dp sq ak fl:Int)(sm:Value)(zm:List Int)(w:World)(hsr:0≤src∧src≤4294967295)(hds:0≤dst∧dst≤4294967295)(h1:0≤sp∧sp≤65535)(h2:0≤dp∧dp≤65535)(h3:0≤sq∧sq≤4294967295)(h4:0≤ak∧ak≤4294967295)(h5:0≤fl∧fl≤255)(hB:Mt.By zm)(hI:Rd w.heap.size w sm zm)(hl:zm.length≤500):
  Calls Tryz.prog 8 #[.int .u32 src,.int .u32 dst,.agg #[.int .u16 sp,.int .u16 dp,.int .u32 sq,.int .u32 ak,.int .u8 fl,.int .u16 0,.int .u16 0,.slice none 0 0,sm]] w fun e w'=>Later w w'∧∃v z,e= .returned v∧TG src dst sp dp sq ak fl zm z∧Ow w.heap.size w' v (tgB 64 src dst z):=by
 obtain⟨am,cm,rfl,_,_⟩:=hI.slice;have HBT:=zAd (fun W (l:Later w W)=>zFi 0 0 64 0 src dst sp dp sq ak fl 0 0 false (.slice none 0 0) (.slice none 0 0) (.slice none 0 0) (.slice am zm.length cm) [] zm [] W Mt.By.nil (zD5 W) hB (hI.later l) (by intro o ho;cases ho) (rdo_nil W) (by intro o ho;cases ho) (by simp) (by omega) (by omega) (by omega) (by omega) hsr hds h1 h2 h3 h4 h5 (by omega) (by omega));have HTG:=zAd (zPs src dst sp dp sq ak fl zm hsr hds h1 h2 h3 h4 h5 hB)
 have hz0:(bte [] ([]:List Int).length zm.length=0):=by
  unfold bte;rw[if_pos zI0];unfold flt;rw[if_neg (by simp),if_neg (by simp[pad,obs,zHd];omega)]
 have HZ:=zAd hz0;clear hz0;clear hI;go_enter Tryz.func8,Tryz.ntmps8;go_wp2_with fail;generalize hW0:w.alloc _=W0;have L0:Later w W0:=by rw[←hW0];exact(Below.refl _ w).alloc (Nat.le_refl _) _
 clear hW0;refine(HBT.out W0 L0).mono ?_;clear HBT;rintro e w1 ⟨hb1,⟨hx,_⟩|⟨_,a7,c7,a8,c8,rfl,hO,hD⟩⟩
 ·exact absurd HZ.out hx
 clear HZ;have L1:Later w w1:=L0.trans hb1;have hnl:20+(pad (obs [])).length+zm.length=20+zm.length:=by simp[pad,obs,zHd]
 rw[hnl]at hD⊢;have hz6:tcp sp dp sq ak fl 0 0 (pad (obs [])) src dst zm=tcp sp dp sq ak fl 0 0 [] src dst zm:=by simp[pad,obs,zHd]
 rw[hz6]at hD;clear hnl hz6;generalize tcp sp dp sq ak fl 0 0 [] src dst zm=z at*;have hzl:=HTG.out.len;rw[←hzl]at hD⊢;have HO:=zAd hO;have HD:=zAd hD;clear hO hD hzl;go_wp2_with fail;generalize hW2:w1.alloc _=W2;have l2:Later w1 W2:=by rw[←hW2];exact(Below.refl _ w1).alloc (Nat.le_refl _) _
 clear hW2;have LE:w.heap.size≤W0.heap.size:=L0.size;have LE1:w.heap.size≤w1.heap.size:=L1.size;refine(zUo 64 src dst (.slice a7 0 c7) (.slice a8 z.length c8) z W2 HTG.out.by_ (by have:=HTG.out.len;omega) (HO.out.rd.later l2) (HD.out.rd.later l2) (by omega) hsr hds).mono ?_;rintro e w3 ⟨hb3,v,rfl,hV⟩;have L3:Later w w3:=L1.trans (l2.trans hb3);have LS:w.heap.size≤W2.heap.size:=(L1.trans l2).size;go_wp2_with fail;go_ret
 exact⟨L3,_,z,rfl,HTG.out,hV.mono LS⟩
theorem zUq {src dst sp dp sq ak fl:Int} {zm z:List Int} (h:TG src dst sp dp sq ak fl zm z)(tos id ttl:Int)(keep:Bool)(so sd:Value)(w:World)(hI:Rd w.heap.size w sd z)(hl:zm.length≤500)(hsr:0≤src∧src≤4294967295)(hds:0≤dst∧dst≤4294967295):
  Calls Tryz.prog 26 #[.agg #[.int .u8 tos,.int .u16 id,.bool keep,.int .u8 ttl,.int .u8 6,.int .u32 src,.int .u32 dst,so,sd]] w fun e w'=>Later w w'∧∃aO cO am cm,e= .returned (.tuple #[.agg #[.int .u16 sp,.int .u16 dp,.int .u32 sq,.int .u32 ak,.int .u8 fl,.int .u16 0,.int .u16 0,.slice aO 0 cO,.slice am zm.length cm],.int .i64 0])∧Ow w.heap.size w' (.slice am zm.length cm) zm:=by
 refine(zCk tos id ttl 6 src dst keep so sd z w h.by_ hI (by have:=h.len;omega) hsr hds).mono ?_;rintro e w' ⟨hb,⟨hx,_⟩|⟨_,os,aO,cO,ad,cd,ho,rfl,hO,hD⟩⟩
 ·exact absurd h.ok hx
 have hos:os=[]:=by
  rw[h.hp]at ho;have:zCf ([]:List Int)=some []:=by decide
  rw[this]at ho;exact(Option.some.inj ho).symm
 subst hos;have hn:z.length-(thd z).toNat=zm.length:=by rw[h.th,h.len];simp
 have hd:z.drop (thd z).toNat=zm:=by rw[h.th];exact h.dat
 rw[hd,hn]at hD;rw[hn,h.a,h.b,h.sq,h.ak,h.fl,h.wn,h.ur];exact⟨hb,aO,cO,ad,cd,rfl,hD⟩
def SnQ (w w':World) (ttl src dst sp dp sq ak fl:Int) (zm:List Int) (e:Ending):Prop:=Later w w'∧∃a7 c7 a8 l8 c8 aO cO am cm,e= .returned (.tuple #[.agg #[.int .u8 0,.int .u16 0,.bool false,.int .u8 ttl,.int .u8 6,.int .u32 src,.int .u32 dst,.slice a7 0 c7,.slice a8 l8 c8],.agg #[.int .u16 sp,.int .u16 dp,.int .u32 sq,.int .u32 ak,.int .u8 fl,.int .u16 0,.int .u16 0,.slice aO 0 cO,.slice am zm.length cm],.bool true])∧Ow w.heap.size w' (.slice am zm.length cm) zm
def pz6:List Value:=[.int .u8 0,.int .u16 0,.bool false,.int .u8 0,.int .u8 0,.int .u32 0,.int .u32 0,.slice none 0 0,.slice none 0 0]
def sz6:List Value:=[.int .u16 0,.int .u16 0,.int .u32 0,.int .u32 0,.int .u8 0,.int .u16 0,.int .u16 0,.slice none 0 0,.slice none 0 0]
theorem zCx(ttl src dst sp dp sq ak fl:Int)(sv:Value)(zm z:List Int)(w:World)(h:TG src dst sp dp sq ak fl zm z)(hI:Rd w.heap.size w sv (tgB ttl src dst z))(hl:zm.length≤500)(htt:0≤ttl∧ttl≤255)(hsr:0≤src∧src≤4294967295)(hds:0≤dst∧dst≤4294967295):
  Calls Tryz.prog 9 #[sv] w fun e w'=>SnQ w w' ttl src dst sp dp sq ak fl zm e:=by
 unfold SnQ;have hzl:z.length≤550:=by have:=h.len;omega
 obtain⟨a0,c0,rfl,_,_⟩:=hI.slice;generalize hll:(tgB ttl src dst z).length=ll at*;have HP:=zAd (fun W (l:Later w W)=>zUp ttl src dst (.slice a0 ll c0) z W h.by_ hzl (by have:=hI.later l;exact this) htt hsr hds);have HS:=zAd (fun W so sd hI=>zUq h 0 0 ttl false so sd W hI hl hsr hds);clear hI;go_enter Tryz.func9,Tryz.ntmps9;go_upto_region 1 with fail;have l0:Later w ((w.alloc (.cells pz6.toArray 40)).alloc (.cells sz6.toArray 32)):=((Below.refl _ w).alloc (Nat.le_refl _) _).alloc (by simp) _;have p0:((w.alloc (.cells pz6.toArray 40)).alloc (.cells sz6.toArray 32)).heap[w.heap.size]? =some (.cells pz6.toArray 40 (0,0)):=(Below.heap_alloc _ _ _ (by simp)).trans (heap_alloc_new w _);have s0:((w.alloc (.cells pz6.toArray 40)).alloc (.cells sz6.toArray 32)).heap[w.heap.size+1]? =some (.cells sz6.toArray 32 (0,0)):=by have:=heap_alloc_new (w.alloc (.cells pz6.toArray 40)) (.cells sz6.toArray 32);simpa using this
 change Code.wp _ _ _ _ ((w.alloc (.cells pz6.toArray 40)).alloc (.cells sz6.toArray 32));generalize (w.alloc (.cells pz6.toArray 40)).alloc (.cells sz6.toArray 32)=w2 at*;have P0:=zAd p0;have S0:=zAd s0;clear p0 s0;go_wp2_with fail;refine(HP.out w2 l0).mono ?_;rintro e w3 ⟨l3,a7,c7,a8,l8,c8,rfl,hO,hD⟩;have L3:Later w w3:=l0.trans l3;have P3:=zAd (zAb l3 P0.out);have S3:=zAd (zAb l3 S0.out);clear HP P0 S0 l3;have la:=zAg w3 (.cells #[.int .u8 0,.int .u16 0,.bool false,.int .u8 ttl,.int .u8 6,.int .u32 src,.int .u32 dst,.slice a7 0 c7,.slice a8 l8 c8] 40);have Q4:=zAd (heap_alloc_new w3 (.cells #[.int .u8 0,.int .u16 0,.bool false,.int .u8 ttl,.int .u8 6,.int .u32 src,.int .u32 dst,.slice a7 0 c7,.slice a8 l8 c8] 40));have L4:=L3.trans la;have P4:=zAd (zAb la P3.out);have S4:=zAd (zAb la S3.out);have hlt:w.heap.size+1<w3.heap.size:=(eS S3.out);have hD4:=hD.rd.later la;clear la P3 S3 hO hD;go_upto_region 2 with fail;change Code.wp _ _ _ _ (w3.alloc (.cells #[.int .u8 0,.int .u16 0,.bool false,.int .u8 ttl,.int .u8 6,.int .u32 src,.int .u32 dst,.slice a7 0 c7,.slice a8 l8 c8] 40));generalize w3.alloc (.cells #[.int .u8 0,.int .u16 0,.bool false,.int .u8 ttl,.int .u8 6,.int .u32 src,.int .u32 dst,.slice a7 0 c7,.slice a8 l8 c8] 40)=w4 at*;generalize w3.heap.size=gp at*;have HST:=zAd (HS.out w4 (.slice a7 0 c7) (.slice a8 l8 c8) (hD4.mono (by omega)));have kq:=zAa Q4.out;clear HS hD4;go_wp2_with fail;refine HST.out.mono ?_
 rintro e w5 ⟨l5,aO,cO,am,cm,rfl,hO5⟩;have L5:=L4.trans l5;have la:=zAg w5 (.cells #[.int .u16 sp,.int .u16 dp,.int .u32 sq,.int .u32 ak,.int .u8 fl,.int .u16 0,.int .u16 0,.slice aO 0 cO,.slice am zm.length cm] 32);have R6:=zAd (heap_alloc_new w5 (.cells #[.int .u16 sp,.int .u16 dp,.int .u32 sq,.int .u32 ak,.int .u8 fl,.int .u16 0,.int .u16 0,.slice aO 0 cO,.slice am zm.length cm] 32));have L6:=L5.trans la;have P6:=zAd (zAb (l5.trans la) P4.out);have S6:=zAd (zAb (l5.trans la) S4.out);have Q6:=zAd (zAb (l5.trans la) Q4.out);have O6:=zAd ((hO5.mono L4.size).kg (KG.of_later (base:=w.heap.size) la));have hlt5:gp<w5.heap.size:=(eS (zAb l5 Q4.out));clear HST P4 S4 Q4 l5 la hO5 kq;go_upto_region 3 with fail;change Code.wp _ _ _ _ (w5.alloc (.cells #[.int .u16 sp,.int .u16 dp,.int .u32 sq,.int .u32 ak,.int .u8 fl,.int .u16 0,.int .u16 0,.slice aO 0 cO,.slice am zm.length cm] 32));generalize w5.alloc (.cells #[.int .u16 sp,.int .u16 dp,.int .u32 sq,.int .u32 ak,.int .u8 fl,.int .u16 0,.int .u16 0,.slice aO 0 cO,.slice am zm.length cm] 32)=w6 at*;generalize w5.heap.size=gs at*;refine zAl (R:=But (fun b=>b=w.heap.size∨b=w.heap.size+1)) 11 rfl (by kernel_rfl) ?_;have ld:Later w6 w6.drew:=Later.drew w6;generalize w6.drew=wd at*;have P7:=zAd (zAb ld P6.out);have S7:=zAd (zAb ld S6.out);have Q7:=zAd (zAb ld Q6.out);have R7:=zAd (zAb ld R6.out);have L7:=L6.trans ld
 have O7:=zAd (O6.out.kg (KG.of_later (base:=w.heap.size) ld));have hlg:gp<wd.heap.size:=(eS Q7.out);have hlr:gs<wd.heap.size:=(eS R7.out);clear P6 S6 Q6 R6 O6 L6 ld;have q0:∀v,But (fun b=>b=w.heap.size∨b=w.heap.size+1) wd v→∀j,v.cell? ⟨gp,j,none⟩=_:=fun v hv=>zAa ((hv.block gp hlg (fun e=>by have e':gp=w.heap.size∨gp=w.heap.size+1:=e;omega)).trans Q7.out);have q1:∀v,But (fun b=>b=w.heap.size∨b=w.heap.size+1) wd v→∀j,v.cell? ⟨gs,j,none⟩=_:=fun v hv=>zAa ((hv.block gs hlr (fun e=>by have e':gs=w.heap.size∨gs=w.heap.size+1:=e;omega)).trans R7.out);refine gX (But.pre _) 0 ?_;refine gX (But.pre _) 1 ?_;refine gX (But.pre _) 2 ?_;refine gX (But.pre _) 3 ?_;refine gX (But.pre _) 4 ?_;refine gX (But.pre _) 5 ?_;refine gX (But.pre _) 6 ?_;refine gX (But.pre _) 7 ?_;clear q0 q1;have kp:=zAa P7.out;have fp:=zAc P7.out;unfold pz6 at kp;refine tO 8 ?_;unfold Oper.wp;go_simp;generalize hV:World.setCell _ ⟨_,8,none⟩ _=w8;have hV9:w8=zAi wd w.heap.size 0 [.int .u8 0,.int .u16 0,.bool false,.int .u8 ttl,.int .u8 6,.int .u32 src,.int .u32 dst,.slice a7 0 c7,.slice a8 l8 c8]:=hV.symm;have hb8:But (fun b=>b=w.heap.size) wd w8:=by rw[hV9];exact zAf (E:=fun b=>b=w.heap.size) (n:=w.heap.size) rfl _ _ _ _ (But.refl _ _)
 have p8:=zAe [.int .u8 0,.int .u16 0,.bool false,.int .u8 ttl,.int .u8 6,.int .u32 src,.int .u32 dst,.slice a7 0 c7,.slice a8 l8 c8] P7.out rfl;rw[←hV9]at p8;clear hV hV9 kp fp;refine⟨⟨hb8.os,hb8.tape,hb8.output,hb8.size,fun k h1 h2=>hb8.block k h1 (fun e=>h2 (.inl e))⟩,?_⟩;have P8:=zAd p8;have S8:=zAd ((hb8.block (w.heap.size+1) (eS S7.out) (fun e=>by have e':w.heap.size+1=w.heap.size:=e;omega)).trans S7.out);have O8:=zAd (O7.out.aside P7.out (by decide) hb8);have L8:Later w w8:=Below.trans L7 (hb8.below L7.size (fun k h e=>by have e':k=w.heap.size:=e;omega));clear p8 P7 S7 O7 hb8 Q7 R7;have kp:=zAa S8.out;have fp:=zAc S8.out;unfold sz6 at kp;refine tO 9 ?_;unfold Oper.wp;go_simp;generalize hV:World.setCell _ ⟨_,8,none⟩ _=w9;have hV9:w9=zAi w8 (w.heap.size+1) 0 [.int .u16 sp,.int .u16 dp,.int .u32 sq,.int .u32 ak,.int .u8 fl,.int .u16 0,.int .u16 0,.slice aO 0 cO,.slice am zm.length cm]:=hV.symm;have hb9:But (fun b=>b=w.heap.size+1) w8 w9:=by rw[hV9];exact zAf (E:=fun b=>b=w.heap.size+1) (n:=w.heap.size+1) rfl _ _ _ _ (But.refl _ _)
 have p9:=zAe [.int .u16 sp,.int .u16 dp,.int .u32 sq,.int .u32 ak,.int .u8 fl,.int .u16 0,.int .u16 0,.slice aO 0 cO,.slice am zm.length cm] S8.out rfl;rw[←hV9]at p9;clear hV hV9 kp fp;refine⟨⟨hb9.os,hb9.tape,hb9.output,hb9.size,fun k h1 h2=>hb9.block k h1 (fun e=>h2 (.inr e))⟩,?_⟩;have P9:=(hb9.block w.heap.size (eS P8.out) (fun e=>by have e':w.heap.size=w.heap.size+1:=e;omega)).trans P8.out;have O9:=O8.out.aside S8.out (by decide) hb9;have L9:Later w w9:=Below.trans L8 (hb9.below L8.size (fun k h e=>by have e':k=w.heap.size+1:=e;omega));clear P8 S8 O8 hb9;refine tO 10 ?_;unfold Oper.wp;go_simp;refine⟨(But.pre _).1 _,?_⟩;refine tD ?_;have k9:=zAa P9;have j9:=zAa p9;go_wp2_with fail;exact bodyPost_ret (v:= .tuple #[.agg #[.int .u8 0,.int .u16 0,.bool false,.int .u8 ttl,.int .u8 6,.int .u32 src,.int .u32 dst,.slice a7 0 c7,.slice a8 l8 c8],.agg #[.int .u16 sp,.int .u16 dp,.int .u32 sq,.int .u32 ak,.int .u8 fl,.int .u16 0,.int .u16 0,.slice aO 0 cO,.slice am zm.length cm],.bool true]) (by simp[results,Tryz.results9,go_sem,k9,j9]) rfl ⟨L9,a7,c7,a8,l8,c8,aO,cO,am,cm,rfl,O9⟩
theorem Ow.asideF {base mb:Nat} {W W':World} {v:Value} {zs:List Int} {cur:Array Value} {t:TypeId} {fz:Nat × Nat} (h:Ow base W v zs)(hm:W.heap[mb]? =some (.cells cur t fz))(ht:t≠5)(hb:But (fun b=>b=mb) W W'):Ow base W' v zs:=by
 rcases h with h|⟨g,cap,c,h1,h2,h3,h4,h5,h6,h7⟩
 ·exact .inl h
 ·refine .inr ⟨g,cap,c,h1,h2,h3,h4,h5,(hb.block g (eS h6) (fun e=> ?_)).trans h6,h7⟩
  subst e;rw[hm]at h6
  simp at h6
  exact ht h6.2.1
def TpQ (base:Nat) (w w':World) (nw now:Int) (q:Tu) (CQ:Int→Value→List Int→World→Prop) (e:Ending):Prop:=∃(n:Int) (v:Value) (sd2:Int) (z2:List Int) (sv:Value),e= .returned (.agg #[.int .i64 0,.int .i64 sd2,sv])∧Kgl base w w'∧(n≤nw∨n≤now)∧now≤n∧CQ n v z2 w'∧Ow w.heap.size w' sv (tgB 63 q.dst q.src z2)
def TpH (q:Tu) (CQ:Int→Value→List Int→World→Prop) (n0:Nat) (rc n:Int) (v sv:Value) (W:World):Prop:=rc=0∧∃z2,CQ n v z2 W∧Ow n0 W sv (tgB 63 q.dst q.src z2)
theorem TpH.s {q:Tu} {CQ:Int→Value→List Int→World→Prop} {n0:Nat} (hS:∀n v,CqS (CQ n v)):HqS (TpH q CQ n0):=fun rc n v sv A B k cur fz h hk hb=>by
 obtain⟨e,z2,h1,h2⟩:=h;exact⟨e,z2,hS n v _ _ _ _ _ _ _ h1 hk (.inr rfl) hb,h2.asideF hk (by decide) hb⟩
structure Pa where
 ws:Int
 we:Int
 is:Int
 ie:Int
 ta:Option Addr
 tn:Nat
 tc:Nat
def pac (r:Pa):List Value:=[.int .u32 r.ws,.int .u32 r.we,.int .u32 r.is,.int .u32 r.ie,.slice r.ta r.tn r.tc]
def zPa:Pa:=⟨0,0,0,0,none,0,0⟩
def pas (l:List Pa):List Value:=l.flatMap pac
theorem zDu(r:Pa):(pac r).length=5:=rfl
theorem zIa(l:List Pa):(pas l).length=l.length*5:=by
 induction l with
 |nil=>rfl
 |cons r l ih=>unfold pas at ih⊢;rw[List.flatMap_cons,List.length_append,ih,zDu,List.length_cons];omega
theorem zRg(l m:List Pa):pas (l++m)=pas l++pas m:=by unfold pas;simp
theorem zUr:∀(l:List Pa) (j i:Nat) (hj:j<l.length),i<5→(pas l)[j*5+i]? =(pac l[j])[i]?
 |r::l,0,i,_,hi=>by
  unfold pas;rw[List.flatMap_cons,Nat.zero_mul,Nat.zero_add,List.getElem?_append_left (by rw[zDu];exact hi)];rfl
 |r::l,j+1,i,hj,hi=>by
  have ih:=zUr l j i (by simpa using hj) hi;unfold pas at ih⊢;rw[List.flatMap_cons,List.getElem?_append_right (by rw[zDu];omega),zDu,show(j+1)*5+i-5=j*5+i from by omega,ih];rfl
def RdP (n₀:Nat) (W:World) (sv:Value) (l:List Pa):Prop:=
 (∃a cap,sv= .slice a 0 cap∧l=[]∧cap≤9223372036854775807∧(a=none→cap=0))∨
 ∃b off cap,sv= .slice (some ⟨b,off,none⟩) l.length cap∧l≠ []∧l.length≤cap∧cap≤9223372036854775807∧b<n₀∧∀j (hj:j<l.length),∀i,i<5→W.cell? ⟨b,off+j*5+i,none⟩=(pac l[j])[i]?
theorem RdP.below {n₀:Nat} {A B:World} (h:Below n₀ A B) {sv:Value} {l:List Pa} :RdP n₀ A sv l→RdP n₀ B sv l
 | .inl e=> .inl e
 | .inr ⟨b,off,cap,e,hne,hl,hm,hb,hc⟩=> .inr ⟨b,off,cap,e,hne,hl,hm,hb,fun j hj i hi=>(h.cell (p:=⟨b,off+j*5+i,none⟩) hb).trans (hc j hj i hi)⟩
theorem RdP.mono {n₀ n₁:Nat} {A:World} (h:n₀≤n₁) {sv:Value} {l:List Pa} :RdP n₀ A sv l→RdP n₁ A sv l
 | .inl e=> .inl e
 | .inr ⟨b,off,cap,e,hne,hl,hm,hb,hc⟩=> .inr ⟨b,off,cap,e,hne,hl,hm,Nat.lt_of_lt_of_le hb h,hc⟩
theorem RdP.slice {n₀:Nat} {A:World} {sv:Value} {l:List Pa} :RdP n₀ A sv l→∃a cap,sv= .slice a l.length cap∧l.length≤cap∧cap≤9223372036854775807
 | .inl ⟨a,cap,e,hz,hm,_⟩=>⟨a,cap,by rw[e,hz];rfl,by rw[hz];exact Nat.zero_le _,hm⟩
 | .inr ⟨b,off,cap,e,_,hl,hm,_⟩=>⟨_,cap,e,hl,hm⟩
theorem RdP.cells {n₀:Nat} {W:World} {sv:Value} {l:List Pa} (h:RdP n₀ W sv l)(hne:0<l.length):∃b off cap,sv= .slice (some ⟨b,off,none⟩) l.length cap∧l.length≤cap∧cap≤9223372036854775807∧b<n₀∧∀j (hj:j<l.length),∀i,i<5→W.cell? ⟨b,off+j*5+i,none⟩=(pac l[j])[i]? :=by
 rcases h with⟨a,cap,_,rfl,_⟩|⟨b,off,cap,e,_,hl,hm,hb,hc⟩
 ·simp at hne
 ·exact ⟨b,off,cap,e,hl,hm,hb,hc⟩
theorem zBx {base:Nat} {W:World} {v:Value} {l:List Pa} (h:W.ownsRow base 509 5 v l.length (pas l)):RdP W.heap.size W v l:=by
 obtain⟨h1,⟨rfl,h0⟩|⟨g,cap,cur,rfl,hg,hh,hl,hm,hs,hc⟩⟩:=h
 ·have:l=[]:=List.eq_nil_of_length_eq_zero h0
  subst this;exact .inl ⟨none,0,rfl,rfl,by omega,fun _=>rfl⟩
 ·by_cases hn:l=[]
  ·subst hn
   exact .inl ⟨_,cap,rfl,rfl,by simpa[maxLen]using hm,fun h=>by cases h⟩
  ·refine .inr ⟨g,0,cap,rfl,hn,hl,by simpa[maxLen]using hm,(eS hh),fun j hj i hi=> ?_⟩
   rw[Nat.zero_add,zAa hh,←zUr l j i hj hi,←hc,List.getElem?_take_of_lt (by omega)];simp
theorem zFd {base:Nat} {A B:World} {v:Value} {n:Nat} {xs:List Value} (h:A.ownsRow base 509 5 v n xs)(l:Later A B):B.ownsRow base 509 5 v n xs:=by
 obtain⟨h1,h2|⟨g,cap,cur,hv,hg,hh,r⟩⟩:=h
 ·exact ⟨h1,.inl h2⟩
 ·exact ⟨h1,.inr ⟨g,cap,cur,hv,hg,zAb l hh,r⟩⟩
def SL (t:TypeId) (base:Nat) (W:World) (b:Nat) (v:Value) (l:List Pa):Prop:=base≤b∧W.heap[b]? =some (.cells #[v] t (0,0))∧W.ownsRow base 509 5 v l.length (pas l)
theorem SL.later {t:TypeId} {base:Nat} {A B:World} {b:Nat} {v:Value} {l:List Pa} (h:SL t base A b v l)(k:Later A B):SL t base B b v l:=⟨h.1,zAb k h.2.1,zFd h.2.2 k⟩
theorem SL.but {t:TypeId} {base:Nat} {A B:World} {b:Nat} {v:Value} {l:List Pa} {E:Nat→Prop} (h:SL t base A b v l)(k:But E A B)(hb:¬E b)(hv:∀g,v.ownBlock=some g→¬E g):SL t base B b v l:=by
 refine⟨h.1,(k.block b (eS h.2.1) hb).trans h.2.1,?_⟩;obtain⟨h1,h2|⟨g,cap,cur,e,hg,hh,r⟩⟩:=h.2.2
 ·exact ⟨h1,.inl h2⟩
 ·exact ⟨h1,.inr ⟨g,cap,cur,e,hg,(k.block g (eS hh) (hv g (by rw[e];rfl))).trans hh,r⟩⟩
theorem SL.ne {t t2:TypeId} {base:Nat} {W:World} {b c:Nat} {v:Value} {l:List Pa} {cur:Array Value} (h:SL t base W b v l)(hc:W.heap[c]? =some (.cells cur t2 (0,0)))(ht:t2≠509):v.ownBlock≠some c:=fun e=>by
 obtain⟨h1,⟨hn,_⟩|⟨g,cap,cu,hv,hg,hh,r⟩⟩:=h.2.2
 ·rw[hn]at e;cases e
 ·rw[hv]at e
  cases e
  rw[hc]at hh
  simp at hh
  exact ht hh.2
theorem SL.lt {t:TypeId} {base:Nat} {W:World} {b:Nat} {v:Value} {l:List Pa} (h:SL t base W b v l) {g:Nat} (e:v.ownBlock=some g):base≤g∧g<W.heap.size:=by
 obtain⟨h1,⟨hn,_⟩|⟨g2,cap,cu,hv,hg,hh,r⟩⟩:=h.2.2
 ·rw[hn]at e;cases e
 ·rw[hv]at e
  cases e
  exact⟨hg,(eS hh)⟩
theorem SL.blt {t:TypeId} {base:Nat} {W:World} {b:Nat} {v:Value} {l:List Pa} (h:SL t base W b v l):b<W.heap.size:=(eS h.2.1)
theorem zUs:(Tryz.prog.info? 509).map (fun i=>(i.zero,i.size,i.bytes))=some (some (.agg #[.int .u32 0,.int .u32 0,.int .u32 0,.int .u32 0,.slice none 0 0]),5,40):=by kernel_rfl
theorem zM9 {P:Program} {t:TypeId} {z:Value} {a b:Nat} (h:(P.info? t).map (fun i=>(i.zero,i.size,i.bytes))=some (some z,a,b)):∃i,P.info? t=some i∧i.zero=some z∧i.size=a∧i.bytes=b:=by
 cases hi:P.info? t with
 |none=>rw[hi]at h;cases h
 |some i=>rw[hi]at h;simp at h;exact⟨i,rfl,h.1,h.2.1,h.2.2⟩
def SLq (t:TypeId) (base:Nat) (w w':World) (b:Nat) (v:Value) (l:List Pa):Prop:=∃v',SL t base w' b v' l∧But (fun g=>g=b∨v.ownBlock=some g) w w'∧(v'.ownBlock=v.ownBlock∨∀g,v'.ownBlock=some g→w.heap.size≤g)
theorem zUt(b off k:Nat):(⟨b,off,none⟩:Addr).add k=⟨b,off+k,none⟩:=by unfold Addr.add;split<;>simp_all
theorem pas_one(l:List Pa):∀u∈pas l,u.oneCell'=true:=fun u hu=>by
 obtain⟨r,_,hr⟩:=List.mem_flatMap.1 hu;simp only[pac,List.mem_cons,List.not_mem_nil,or_false]at hr;rcases hr with rfl|rfl|rfl|rfl|rfl<;>rfl
theorem appP(w:World)(ty:TypeId)(base n₀:Nat)(v:Value)(xs:List Pa)(sv:Value)(ys:List Pa)(hown:w.ownsRow base 509 5 v xs.length (pas xs))(hI:RdP n₀ w sv ys)(hbase:base≤w.heap.size)(hs:xs.length+ys.length≤10000):
  ∃v' w',(Builtin.append_ #[477,477] ty #[v,sv]).run Tryz.prog w= .ok v' w'∧w'.ownsRow base 509 5 v' (xs++ys).length (pas (xs++ys))∧w.grownBy w' v.ownBlock∧(v'.ownBlock=v.ownBlock∨v'.ownBlock=some w.heap.size):=by
 obtain⟨i0,hi0,hz0,hz1,hz2⟩:=zM9 zUs;rcases hI with⟨a,cap,rfl,rfl,hcm,ha⟩|⟨b,off,cap,rfl,hne,hl,hm,hb,hc⟩
 ·obtain ⟨av,cv,rfl,hv1,hv2⟩:=(zBx hown).slice
  refine⟨_,w,run_append_nothing w _ _ ty _ i0 Tryz.underlying477 hi0 av xs.length cv hv1 (.slice a 0 cap) ?_,by rw[List.append_nil];exact hown,⟨rfl,rfl,rfl,Nat.le_refl _,fun _ _ _=>rfl⟩,.inl rfl⟩;refine⟨.inl ⟨_,Tryz.underlying477⟩,fun w'=> ?_,?_,?_,by simp,by simp⟩<;>cases a<;>simp[Builtin.lenOf,Builtin.firstCells,go_sem]
 ·have hp:0<ys.length:=List.length_pos_iff.2 hne
  obtain⟨g,cap',w',hr,h2,h3,h4,h5⟩:=run_append_lies (P:=Tryz.prog) w 477 ty base 509 i0 _ 5 40 Tryz.underlying477 hi0 hz0 hz1 hz2 rfl (by decide) v xs.length (pas xs) hown ⟨b,off,none⟩ ys.length cap (pas ys) (zIa ys) (fun j u hj=>by
   have hlt:=(List.getElem?_eq_some_iff.1 hj).1;rw[zIa]at hlt;rw[zUt];have h1:=hc (j/5) (by omega) (j % 5) (Nat.mod_lt _ (by omega));rw[←zUr ys (j/5) (j % 5) (by omega) (Nat.mod_lt _ (by omega)),show j/5*5+j % 5=j from by omega,hj]at h1;rw[←h1];congr 2
   omega) (pas_one ys) hp (by unfold maxLen;omega) (by omega) hbase _ rfl
  refine⟨_,w',hr,by rw[List.length_append,zRg];exact h2,h3,?_⟩;rcases h4 with h4|h4
  ·exact .inl (by rw[h4];rfl)
  ·exact .inr (by rw[h4];rfl)
theorem zLa {P:Program} {ops:Array Oper} {rest:List Oper} {o:Oper} {a:Act} {Q:Exit→Act→World→Prop} {w:World} (hg:o.guard=none)(s x:Operand)(t:TypeId)(hop:o.op=Op.call { callee:=Callee.builtin Builtin.append,args:=#[s,x],argTypes:=#[t,t] })
  (v sx:Value)(hs:a.eval s=v)(hx:a.eval x=sx)(v':Value)(w':World)(hrun:(Builtin.append_ #[t,t] o.type #[v,sx]).run P w= .ok v' w')(hk:wpList P ops Q rest (a.put o.dst v') w'):wpList P ops Q (o::rest) a w:=
 wpList_plain hg fun K hK=>zC9 s x t hop v sx hs hx v' w' hrun (hK _ _ hk)
theorem zUu(w:World):(w.alloc (.cells #[] 509)).ownsRow w.heap.size 509 5 (.slice (some ⟨w.heap.size,0,none⟩) 0 0) ([]:List Pa).length (pas []):=
 ⟨rfl,.inr ⟨w.heap.size,0,#[],rfl,Nat.le_refl _,heap_alloc_new w _,Nat.le_refl _,by unfold maxLen;omega,rfl,rfl⟩⟩
theorem copyP(w:World)(ty:TypeId)(n₀:Nat)(sv:Value)(ys:List Pa)(hI:RdP n₀ w sv ys)(hn:n₀≤w.heap.size)(hs:ys.length≤10000):
  ∃v' w',(Builtin.append_ #[477,477] ty #[.slice (some ⟨w.heap.size,0,none⟩) 0 0,sv]).run Tryz.prog (w.alloc (.cells #[] 509))= .ok v' w'∧w'.ownsRow w.heap.size 509 5 v' ys.length (pas ys)∧Later w w':=by
 have la:Later w (w.alloc (.cells #[] 509)):=bA _ _;obtain⟨v',w',h1,h2,h3,h4⟩:=appP (w.alloc (.cells #[] 509)) ty w.heap.size n₀ _ [] sv ys (zUu w) (hI.below (la.mono hn)) la.size (by simpa using hs);refine⟨v',w',h1,by simpa using h2,?_⟩;exact Below.trans la ⟨h3.os,h3.tape,h3.output,h3.size,fun k hk=>h3.block k (by simp;omega) (fun e=>by simp[Value.ownBlock]at e;omega)⟩
theorem zRh(base:Nat)(v:Value)(l:List Pa)(w:World)(hO:w.ownsRow base 509 5 v l.length (pas l))(hl:l.length≤5000):
  Calls Tryz.prog 383 #[v] w fun e w'=>Later w w'∧∃v',e= .returned v'∧w'.ownsRow w.heap.size 509 5 v' l.length (pas l):=by
 obtain⟨u,W1,hrun,hrow,hlat⟩:=copyP w 477 w.heap.size v l (zBx hO) (Nat.le_refl _) (by omega);obtain⟨av,cv,rfl,_,_⟩:=(zBx hO).slice;obtain⟨au,cu,rfl,_,_⟩:=(zBx hrow).slice;have HRUN:=zAd hrun;have HROW:=zAd hrow;have HO:=zAd hO;clear hrun hrow hO;go_enter Tryz.func383,Tryz.ntmps383;cases av with
 | none=>
  go_wp2_with fail;rw[Go.Lib.run_eql_slice_nil _ _ _ _ _ _ _ _ Tryz.underlying477];go_wp2_with fail;go_ret
  have:l.length=0:=by
   obtain⟨_,⟨e,e2⟩|⟨g2,cap2,cur,e,_⟩⟩:=HO.out
   ·exact e2
   ·cases e
  refine⟨Later.refl _,_,rfl,?_⟩;obtain rfl:=List.eq_nil_of_length_eq_zero this;exact⟨rfl,.inl ⟨rfl,rfl⟩⟩
 |some a=>
  go_wp2_with fail;rw[Go.Lib.run_eql_slice_nil _ _ _ _ _ _ _ _ Tryz.underlying477];go_wp2_with (at_builtin;refine zLa rfl (.tmp 5) (.tmp 6) 477 rfl _ _ rfl rfl _ W1 HRUN.out ?_)
  go_ret
  exact⟨hlat,_,rfl,HROW.out⟩
def postZ {α:Type} (ex:Nat) (B:Nat) (Kp:World→World→Prop) (I Ix:List α→World→Prop) (xs:List α) (W:World):Exit→Act→World→Prop
 | .normal,_,V=>KeepsFrom B W V∧Kp W V∧I xs V
 | .exit id,_,V=>id=ex∧KeepsFrom B W V∧Ix xs V
 |_,_,_=>False
theorem zNa(ex:Nat) {F:Fence} {n:Nat} {P:Program} {α:Type} {g:Operand} {ps:Array Tmp} {assign body:Code} {Q:Exit→Act→World→Prop} {a:Act} {w:World}
  (hro:F.round=none)(h1:1≤n) {gf:Nat} {lb:Array Value} (hg:a.eval g= .func (.func gf) #[] lb)(hFg:F.fn gf)(eg:∀args w,(callFunc gf args).run P w= .ok (.enter gf args) w)
  {encs:α→Array Value} {Kp:World→World→Prop} {X:List α→α→World→Prop} {S Sp:List α→Prop} (hseq:GenX F (n-1) P gf lb encs Kp X S Sp w)
  (hKt:∀ {A B C:World},Kp A B→Kp B C→Kp A C)(hKb:∀(W:World) (l:Nat) (o o':Obj),w.heap.size≤l→W.heap[l]? =some o→o.isCells=false→o.isWalk=false→Kp W (W.putObj l o'))
  (hKl:∀ {A B:World},w.heap.size≤A.heap.size→Later A B→Kp A B)(hXl:∀pre x A B,X pre x A→Later A B→X pre x B)
  (hXb:∀pre x (W:World) (l:Nat) (o o':Obj),w.heap.size≤l→W.heap[l]? =some o→o.isCells=false→X pre x W→X pre x (W.putObj l o'))(hps:∀x,(encs x).size=ps.size)
  (I Ix:List α→World→Prop)(hI:OwnFrom w.heap.size I)(hIl:∀s A B,I s A→Later A B→I s B)(hIx:OwnFrom w.heap.size Ix)(h0:I [] w)
  (A:α→Act→World→Prop)(hA:∀x a' (W:World) (l:Nat) (o o':Obj),w.heap.size≤l→W.heap[l]? =some o→o.isCells=false→A x a' W→A x a' (W.putObj l o'))
  (hassign:∀(l:Nat) (pre:List α) (x:α) (W:World) (K:Act→World→Prop),w.heap.size≤W.heap.size→I pre W→X pre x W→(∀a' W',Later W W'→A x a' W'→K a' W')→
   assign.wpIn (F.inRound l) (n-1-1) P (Exit.then K (fun _ _ _=>False)) { tmps:=(ps.zip (encs x)).foldl (fun t (p,v)=>t.setIfInBounds p v) a.tmps,defers:=[] } W)
  (hbody:∀(l:Nat) (pre:List α) (x:α) (a':Act) (W:World),I pre W→X pre x W→A x a' W→body.wpIn (F.inRound l) (n-1-1) P (postZ ex w.heap.size Kp I Ix (pre++[x]) W) a' W)
  (hdone:∀(D:Nat) (xs:List α) (W:World),w.heap.size≤D→S xs→I xs W→W.heap[D]? =some (.deferred (some []))→Q .normal { a with defers:= { target:= .collected D,args:=#[] } ::a.defers } W)
  (hstop:∀(D:Nat) (pre:List α) (W:World),w.heap.size≤D→Sp pre→Ix pre W→W.heap[D]? =some (.deferred (some []))→(Code.exit ex).wpIn F n P Q { a with defers:= { target:= .collected D,args:=#[] } ::a.defers } W):
  (Code.rangeFunc g ps assign body).wpIn F n P Q a w:=by
 refine wpIn_rangeFunc fun fn hfn=> ?_;rw[hro];obtain⟨rec,hrec⟩:∃rec:LoopState→Option Code→Loop,rec=fun st pe=> { state:=st,pending:=pe,fn,tmps:=a.tmps,params:=ps,assign,body,defers:=w.heap.size } :=⟨_,rfl⟩;obtain⟨V,hV⟩:∃V,(w.alloc (.deferred (some []))).alloc (.loop (rec .ready none))=V:=⟨_,rfl⟩
 have hl:V.heap[w.heap.size+1]? =some (.loop (rec .ready none)):=by
  have:=World.alloc_heap_new (w.alloc (.deferred (some []))) (.loop (rec .ready none));rw[World.size_alloc]at this;rw[←hV];exact this
 have hk:V.heap[w.heap.size]? =some (.deferred (some [])):=by
  rw[←hV];exact(Below.heap_alloc _ _ _ (by simp)).trans (World.alloc_heap_new w _)
 have hi:I [] V:=by rw[←hV];exact hI.alloc _ (hI.alloc _ h0)
 have hb:Below w.heap.size w V:=by rw[←hV];exact((Below.refl _ w).alloc (Nat.le_refl _) _).alloc (by simp) _
 refine⟨w.heap.size+1,[{ target:= .collected w.heap.size,args:=#[] }],V, { target:= .fn (.func gf) lb,args:=#[.func (.yield (w.heap.size+1)) #[] #[]] },V,gf,#[.func (.yield (w.heap.size+1)) #[] #[]]++lb,V,?_,?_,?_,?_,fun _=>h1,?_⟩
 ·rw[←hV,hrec];exact run_enterLoop_outer _ _ _ _ _
 ·simp only[resolve,hg]
  simp[go_sem]
 ·intro f' hf';simp[Target.leads]at hf';subst hf';exact hFg
 ·simp[invoke,go_sem,eg]
 refine(hseq (w.heap.size+1) (fun pre W=>I pre W∧W.heap[w.heap.size+1]? =some (.loop (rec .ready none))∧W.heap[w.heap.size]? =some (.deferred (some [])))
  (fun pre W=>Ix pre W∧W.heap[w.heap.size+1]? =some (.loop (rec .done (some (.exit ex))))∧W.heap[w.heap.size]? =some (.deferred (some []))) V hb
  (fun s A B hs h=>⟨hIl s A B hs.1 h,zAb h hs.2.1,zAb h hs.2.2⟩) ?_ ⟨hi,hl,hk⟩).mono ?_
 ·rintro pre x W ⟨ji,jl,jk⟩ hx
  have hlt:w.heap.size+1<W.heap.size:=(eS jl);have hy:=run_yield (P:=P) (args:=encs x) jl (by rw[hrec];exact hps x);rw[hrec]at hy;refine⟨fn,_,assign,body,hy,roundIn_of_wpIn hfn (hassign _ pre x W _ (by omega) ji hx fun a' W' hL hAx=> ?_)⟩;have pL:Kp W W':=hKl (by omega) hL;replace ji:=hIl _ _ _ ji hL
  replace jl:=zAb hL jl
  replace jk:=zAb hL jk
  replace hx:=hXl _ _ _ _ hx hL
  replace hlt:w.heap.size+1<W'.heap.size:=(eS jl)
  refine⟨_,run_beginRound jl (by rw[hrec]),?_⟩;obtain⟨U,hU⟩:∃U,W'.putObj (w.heap.size+1) (.loop { rec .ready none with state:= .busy })=U:=⟨_,rfl⟩;have l2:U.heap[w.heap.size+1]? =some (.loop { rec .ready none with state:= .busy }):=by rw[←hU];exact World.putObj_heap_same hlt
  have k2:U.heap[w.heap.size]? =some (.deferred (some [])):=by rw[←hU];exact(World.putObj_heap_other (by omega)).trans jk
  have p2:Kp W U:=by rw[←hU];exact hKt pL (hKb _ _ _ _ (by omega) jl rfl rfl)
  have a2:A x a' U:=by rw[←hU];exact hA _ _ _ _ _ _ (by omega) jl rfl hAx
  have i2:I pre U:=by rw[←hU];exact hI.putObj _ ji (by omega) jl rfl
  have x2:X pre x U:=by rw[←hU];exact hXb _ _ _ _ _ _ (by omega) jl rfl hx
  rw[hU];refine wpIn_mono (hbody _ pre x a' U i2 x2 a2) ?_
  have fin:∀(jump:Option Code) (Z:World),KeepsFrom w.heap.size U Z→
    (Instr.endRound (w.heap.size+1) jump).run P Z= .ok (.bool jump.isNone) (Z.putObj (w.heap.size+1) (.loop (rec (if jump.isNone then .ready else .done) jump)))∧Z.heap[w.heap.size+1]? =some (.loop { rec .ready none with state:= .busy })∧
    (Z.putObj (w.heap.size+1) (.loop (rec (if jump.isNone then .ready else .done) jump))).heap[w.heap.size+1]? =some (.loop (rec (if jump.isNone then .ready else .done) jump))∧
    (Z.putObj (w.heap.size+1) (.loop (rec (if jump.isNone then .ready else .done) jump))).heap[w.heap.size]? =some (.deferred (some [])):=fun jump Z hZ=>by
   have l3:=hZ.same _ _ (by omega) l2 rfl;have r3:=run_endRound (P:=P) jump l3;rw[hrec]at r3⊢;exact⟨r3,by rw[hrec]at l3;exact l3,World.putObj_heap_same (eS l3),(World.putObj_heap_other (by omega)).trans (hZ.same _ _ (Nat.le_refl _) k2 rfl)⟩
  rintro e a3 Z hp;cases e with
  |normal=>
   obtain⟨hZ,hp3,hi3⟩:=hp;obtain⟨hr,l3,l4,k4⟩:=fin none Z hZ;exact⟨_,_,hr,.inl ⟨rfl,⟨hI.putObj _ hi3 (by omega) l3 rfl,l4,k4⟩,hKt (hKt p2 hp3) (hKb _ _ _ _ (by omega) l3 rfl rfl)⟩⟩
  |ret=>exact hp.elim
  |exit id=>
   obtain⟨he,hZ,hi3⟩:=hp;rw[he];obtain⟨hr,l3,l4,k4⟩:=fin (some (.exit ex)) Z hZ;exact⟨_,_,hr,.inr ⟨rfl,hIx.putObj _ hi3 (by omega) l3 rfl,l4,k4⟩⟩
  |goto t=>exact hp.elim
  |panic ch=>exact hp.elim
  |outgrown=>exact hp.elim
 ·rintro e W2 ⟨⟨v,rfl⟩,(⟨xs,hS,ji,jl,jk⟩|⟨pre,hSp,ji,jl,jk⟩)⟩
  ·exact ⟨none,_,by have:=run_endLoop (P:=P) jl (by rw[hrec];simp);rw[hrec]at this;exact this,hdone _ xs _ (Nat.le_refl _) hS (hI.putObj _ ji (by omega) jl rfl) ((World.putObj_heap_other (by omega)).trans jk)⟩
  ·exact ⟨some (.exit ex),_,by have:=run_endLoop (P:=P) jl (by rw[hrec];simp);rw[hrec]at this;exact this,hstop _ pre _ (Nat.le_refl _) hSp (hIx.putObj _ ji (by omega) jl rfl) ((World.putObj_heap_other (by omega)).trans jk)⟩
attribute [local go_sem] Oper.semAt_some
theorem zNb(w:World)(A B C:Obj):Later w (((w.alloc A).alloc B).alloc C)∧(((w.alloc A).alloc B).alloc C).heap[w.heap.size]? =some A∧(((w.alloc A).alloc B).alloc C).heap[w.heap.size+1]? =some B∧(((w.alloc A).alloc B).alloc C).heap[w.heap.size+1+1]? =some C:=by
 have h1:Later w ((w.alloc A).alloc B):=(bA _ _).alloc (by simp) _;have h2:((w.alloc A).alloc B).heap[w.heap.size]? =some A:=(Below.heap_alloc _ _ _ (by simp)).trans (heap_alloc_new w _)
 have h3:((w.alloc A).alloc B).heap[w.heap.size+1]? =some B:=by
  have:=heap_alloc_new (w.alloc A) B;rwa [World.size_alloc]at this
 refine⟨h1.trans (bA _ _),(Below.heap_alloc _ _ _ (by simp<;>omega)).trans h2,(Below.heap_alloc _ _ _ (by simp)).trans h3,?_⟩;have:=heap_alloc_new ((w.alloc A).alloc B) C;simpa only[World.size_alloc]using this
def bhd (a b:Int):Bool:=decide (0<ahd a b)
theorem zRi(a b:Int)(w:World):Calls Tryz.prog 390 #[.int .u32 a,.int .u32 b] w fun e w'=>e= .returned (.bool (bhd a b))∧w'=w:=by
 have HA:=zAd (zJ7 a b w);unfold bhd;generalize ahd a b=d at*;go_enter Tryz.func390,Tryz.ntmps390;go_wp2_with fail;refine HA.out.mono ?_;rintro e w1 ⟨rfl,rfl⟩;go_wp2_with fail;go_ret
 exact⟨rfl,rfl⟩
theorem map1_any(p:Pa)(w:World):Calls Tryz.prog 376 #[.agg (pac p).toArray] w fun e w'=>e= .returned (.tuple #[.agg #[.int .u32 p.ws,.int .u32 p.we],.agg #[.int .u32 p.is,.int .u32 p.ie]])∧Later w w':=by
 obtain⟨lb0,c0,c1,c2⟩:=zNb w (.cells #[.int .u32 p.ws,.int .u32 p.we,.int .u32 p.is,.int .u32 p.ie,.slice p.ta p.tn p.tc] 509) (.cells #[.int .u32 0,.int .u32 0] 507) (.cells #[.int .u32 0,.int .u32 0] 507);unfold pac;go_enter Tryz.func376,Tryz.ntmps376;go_upto_region 1 with fail;generalize ((w.alloc _).alloc _).alloc _=w0 at*;refine zAl (R:=But (fun g=>g=w.heap.size+1∨g=w.heap.size+1+1)) 6 rfl (by kernel_rfl) ?_;have ld:Later w0 w0.drew:=Later.drew w0;have L0:=lb0.trans ld;have d0:=zAb ld c0;have d1:=zAb ld c1;have d2:=zAb ld c2;generalize w0.drew=Wd at*;have ha:∀v1,But (fun g=>g=w.heap.size+1∨g=w.heap.size+1+1) Wd v1→∀j,v1.cell? ⟨w.heap.size,j,none⟩=#[.int .u32 p.ws,.int .u32 p.we,.int .u32 p.is,.int .u32 p.ie,.slice p.ta p.tn p.tc][j]? :=fun v1 hv=>zAa ((hv.block w.heap.size (eS d0) (by omega)).trans d0);refine tX (But.pre _) 0 ?_;refine tX (But.pre _) 1 ?_;refine tX (But.pre _) 2 ?_;refine tX (But.pre _) 3 ?_;clear ha;refine tO 4 ?_;have k1:=zAa d1;have f1:=zAc d1;unfold Oper.wp;go_simp;have hb1:But (fun g=>g=w.heap.size+1) Wd (zAi Wd (w.heap.size+1) 0 [.int .u32 p.ws,.int .u32 p.we]):=zA1 (rb:=w.heap.size+1) _ Wd;have e1:=zAe [.int .u32 p.ws,.int .u32 p.we] d1 rfl;change But _ _ (zAi Wd (w.heap.size+1) 0 [.int .u32 p.ws,.int .u32 p.we])∧_;refine⟨⟨hb1.os,hb1.tape,hb1.output,hb1.size,fun k hk he=>hb1.block k hk (fun e=>he (.inl e))⟩,?_⟩
 have e2:=(hb1.block (w.heap.size+1+1) (eS d2) (by omega)).trans d2;change zAy _ _ _ _ _ _ _ _ (zAi Wd (w.heap.size+1) 0 [.int .u32 p.ws,.int .u32 p.we]);generalize zAi Wd (w.heap.size+1) 0 [.int .u32 p.ws,.int .u32 p.we]=W1 at*;refine tO 5 ?_;clear k1 f1;have k2:=zAa e2;have f2:=zAc e2;unfold Oper.wp;go_simp;have hb2:But (fun g=>g=w.heap.size+1+1) W1 (zAi W1 (w.heap.size+1+1) 0 [.int .u32 p.is,.int .u32 p.ie]):=zA1 (rb:=w.heap.size+1+1) _ W1;have g2:=zAe [.int .u32 p.is,.int .u32 p.ie] e2 rfl;change But _ _ (zAi W1 (w.heap.size+1+1) 0 [.int .u32 p.is,.int .u32 p.ie])∧_;refine⟨⟨hb2.os,hb2.tape,hb2.output,hb2.size,fun k hk he=>hb2.block k hk (fun e=>he (.inr e))⟩,?_⟩;have g1:=(hb2.block (w.heap.size+1) (eS e1) (by omega)).trans e1;change zAy _ _ _ _ _ _ _ _ (zAi W1 (w.heap.size+1+1) 0 [.int .u32 p.is,.int .u32 p.ie]);have hsz:=L0.size;have hs1:=hb1.size;have LL:Below w.heap.size w (zAi W1 (w.heap.size+1+1) 0 [.int .u32 p.is,.int .u32 p.ie]):=Below.trans L0 ((hb1.below hsz (fun k hk e=>by omega)).trans (hb2.below (by omega) (fun k hk e=>by omega)));generalize zAi W1 (w.heap.size+1+1) 0 [.int .u32 p.is,.int .u32 p.ie]=W2 at*;refine tD ?_;clear k2 f2;have j1:=zAa g1;have j2:=zAa g2;go_wp2_with fail;refine bodyPost_ret (v:= .tuple #[.agg #[.int .u32 p.ws,.int .u32 p.we],.agg #[.int .u32 p.is,.int .u32 p.ie]]) (by simp[results,Tryz.results376,go_sem,j1,j2]) rfl ⟨rfl,LL⟩
theorem zRj(p:Pa)(w:World):Calls Tryz.prog 377 #[.agg (pac p).toArray] w fun e w'=>e= .returned (.tuple #[.agg #[.int .u32 p.is,.int .u32 p.ie],.agg #[.int .u32 p.ws,.int .u32 p.we]])∧Later w w':=by
 obtain⟨lb0,c0,c1,c2⟩:=zNb w (.cells #[.int .u32 p.ws,.int .u32 p.we,.int .u32 p.is,.int .u32 p.ie,.slice p.ta p.tn p.tc] 509) (.cells #[.int .u32 0,.int .u32 0] 507) (.cells #[.int .u32 0,.int .u32 0] 507);unfold pac;go_enter Tryz.func377,Tryz.ntmps377;go_upto_region 1 with fail;generalize ((w.alloc _).alloc _).alloc _=w0 at*;refine zAl (R:=But (fun g=>g=w.heap.size+1∨g=w.heap.size+1+1)) 6 rfl (by kernel_rfl) ?_;have ld:Later w0 w0.drew:=Later.drew w0;have L0:=lb0.trans ld;have d0:=zAb ld c0;have d1:=zAb ld c1;have d2:=zAb ld c2;generalize w0.drew=Wd at*;have ha:∀v1,But (fun g=>g=w.heap.size+1∨g=w.heap.size+1+1) Wd v1→∀j,v1.cell? ⟨w.heap.size,j,none⟩=#[.int .u32 p.ws,.int .u32 p.we,.int .u32 p.is,.int .u32 p.ie,.slice p.ta p.tn p.tc][j]? :=fun v1 hv=>zAa ((hv.block w.heap.size (eS d0) (by omega)).trans d0);refine tX (But.pre _) 0 ?_;refine tX (But.pre _) 1 ?_;refine tX (But.pre _) 2 ?_;refine tX (But.pre _) 3 ?_;clear ha;refine tO 4 ?_;have k1:=zAa d1;have f1:=zAc d1;unfold Oper.wp;go_simp;have hb1:But (fun g=>g=w.heap.size+1) Wd (zAi Wd (w.heap.size+1) 0 [.int .u32 p.is,.int .u32 p.ie]):=zA1 (rb:=w.heap.size+1) _ Wd;have e1:=zAe [.int .u32 p.is,.int .u32 p.ie] d1 rfl;change But _ _ (zAi Wd (w.heap.size+1) 0 [.int .u32 p.is,.int .u32 p.ie])∧_;refine⟨⟨hb1.os,hb1.tape,hb1.output,hb1.size,fun k hk he=>hb1.block k hk (fun e=>he (.inl e))⟩,?_⟩
 have e2:=(hb1.block (w.heap.size+1+1) (eS d2) (by omega)).trans d2;change zAy _ _ _ _ _ _ _ _ (zAi Wd (w.heap.size+1) 0 [.int .u32 p.is,.int .u32 p.ie]);generalize zAi Wd (w.heap.size+1) 0 [.int .u32 p.is,.int .u32 p.ie]=W1 at*;refine tO 5 ?_;clear k1 f1;have k2:=zAa e2;have f2:=zAc e2;unfold Oper.wp;go_simp;have hb2:But (fun g=>g=w.heap.size+1+1) W1 (zAi W1 (w.heap.size+1+1) 0 [.int .u32 p.ws,.int .u32 p.we]):=zA1 (rb:=w.heap.size+1+1) _ W1;have g2:=zAe [.int .u32 p.ws,.int .u32 p.we] e2 rfl;change But _ _ (zAi W1 (w.heap.size+1+1) 0 [.int .u32 p.ws,.int .u32 p.we])∧_;refine⟨⟨hb2.os,hb2.tape,hb2.output,hb2.size,fun k hk he=>hb2.block k hk (fun e=>he (.inr e))⟩,?_⟩;have g1:=(hb2.block (w.heap.size+1) (eS e1) (by omega)).trans e1;change zAy _ _ _ _ _ _ _ _ (zAi W1 (w.heap.size+1+1) 0 [.int .u32 p.ws,.int .u32 p.we]);have hsz:=L0.size;have hs1:=hb1.size;have LL:Below w.heap.size w (zAi W1 (w.heap.size+1+1) 0 [.int .u32 p.ws,.int .u32 p.we]):=Below.trans L0 ((hb1.below hsz (fun k hk e=>by omega)).trans (hb2.below (by omega) (fun k hk e=>by omega)));generalize zAi W1 (w.heap.size+1+1) 0 [.int .u32 p.ws,.int .u32 p.we]=W2 at*;refine tD ?_;clear k2 f2;have j1:=zAa g1;have j2:=zAa g2;go_wp2_with fail;refine bodyPost_ret (v:= .tuple #[.agg #[.int .u32 p.is,.int .u32 p.ie],.agg #[.int .u32 p.ws,.int .u32 p.we]]) (by simp[results,Tryz.results377,go_sem,j1,j2]) rfl ⟨rfl,LL⟩
theorem zNc(n:Nat)(p:Option Addr)(w:World):
  CallsIn Fence.wide n Tryz.prog 389 #[.pointer p] w fun e w'=>e= .returned (.func (.func 396) #[] #[.pointer (some ⟨w.heap.size,0,none⟩)])∧w'=w.alloc (.cells #[.pointer p] 472):=by
 refine callsIn_of_wp Tryz.func389 rfl trivial ?_ rfl;simp only[Tryz.ntmps389,List.size_toArray,List.length_cons,List.length_nil,Nat.reduceAdd,Nat.reduceSub,Array.replicate_succ,Array.replicate_zero,List.push_toArray,List.append_toArray,List.nil_append,List.cons_append];gi_wp2
 go_ret
 exact⟨rfl,rfl⟩
def encP (r:Pa):Array Value:=#[.agg (pac r).toArray]
def XP (l:List Pa) (pre:List Pa) (x:Pa) (_V:World):Prop:=∃rest,pre++x::rest=l
theorem zLb(n:Nat)(hn:1≤n)(l B b n₀:Nat)(v:Value)(ls:List Pa)(J Jx:List Pa→World→Prop)(hlen:ls.length≤1000)
  (hY:∀pre x V,J pre V→XP ls.reverse pre x V→YieldAt Fence.wide (n-1) Tryz.prog l (encP x) V fun e V'=>(e= .returned (.bool true)∧J (pre++[x]) V'∧Below n₀ V V')∨(e= .returned (.bool false)∧Jx (pre++[x]) V'))
  (W:World)(hB:W.cell? ⟨B,0,none⟩=some (.pointer (some ⟨b,0,none⟩)))(hBn:B<n₀)(hbn:b<n₀)(hc:W.cell? ⟨b,0,none⟩=some v)(hR:RdP n₀ W v ls)(h0:J [] W):
  CallsIn Fence.wide n Tryz.prog 396 #[.func (.yield l) #[] #[],.pointer (some ⟨B,0,none⟩)] W fun e W'=>(∃v,e= .returned v)∧((∃xs,xs=ls.reverse∧J xs W')∨(∃pre,(∃rest,pre++rest=ls.reverse)∧Jx pre W')):=by
 obtain⟨sa,cap,rfl,hc1,hc2⟩:=hR.slice;have HR:=zAd hR;have hli:(ls.length:Int)≤1000:=by omega
 have HB:=zAd hB;have HC:=zAd hc;clear hR;refine callsIn_of_wp Tryz.func396 rfl trivial ?_ rfl;simp only[Tryz.ntmps396,List.size_toArray,List.length_cons,List.length_nil,Nat.reduceAdd,Nat.reduceSub,Array.replicate_succ,Array.replicate_zero,List.push_toArray,List.append_toArray,List.nil_append,List.cons_append];gi_wp2
 gi_loopw [3] (fun i wx=>∃k:Nat,k≤ls.length∧i= .int .i64 ((ls.length:Int)-1-(k:Int))∧J (ls.reverse.take k) wx∧Below n₀ W wx) (fun i _=>((intOf i)+1).toNat)
 case atStart=>exact⟨0,by omega,by simp,by rw[List.take_zero];exact h0,Below.refl _ _⟩
 case round=>
  obtain⟨k,hk,rfl,hJk,hbk⟩:=hrel;have hBr:=(hbk.cell (p:=⟨B,0,none⟩) hBn).trans HB.out;have hcr:=(hbk.cell (p:=⟨b,0,none⟩) hbn).trans HC.out;clear hB hc;by_cases hkl:k<ls.length
  ·have hq:ls.length-1-k<ls.length:=by omega
   have hqi:(ls.length:Int)-1-(k:Int)=((ls.length-1-k:Nat):Int):=by omega
   obtain⟨g,off,cp,e,_,_,hgn,hcs⟩:=(HR.out.below hbk).cells (by omega)
   simp at e
   obtain⟨rfl,rfl⟩:=e;have c0:=hcs (ls.length-1-k) hq 0 (by omega);have c1:=hcs (ls.length-1-k) hq 1 (by omega);have c2:=hcs (ls.length-1-k) hq 2 (by omega);have c3:=hcs (ls.length-1-k) hq 3 (by omega);have c4:=hcs (ls.length-1-k) hq 4 (by omega);have hrk:k<ls.reverse.length:=by simpa using hkl
   have hre:ls.reverse[k]=ls[ls.length-1-k]:=by rw[List.getElem_reverse]
   have hat:∃rest,ls.reverse.take k++ls.reverse[k]::rest=ls.reverse:=⟨ls.reverse.drop (k+1),by rw[←List.drop_eq_getElem_cons hrk,List.take_append_drop]⟩;have htk:ls.reverse.take (k+1)=ls.reverse.take k++[ls.reverse[k]]:=(List.take_append_getElem hrk).symm;have htl:∃rest,ls.reverse.take k++[ls.reverse[k]]++rest=ls.reverse:=⟨ls.reverse.drop (k+1),by rw[List.take_append_getElem hrk,List.take_append_drop]⟩;rw[hre]at hat htk htl;rw[hqi];clear hcs hre;generalize ls[ls.length-1-k]=r at*;have HAT:=zAd hat;have HTK:=zAd htk;have HTL:=zAd htl;clear hat htk htl;generalize hqq:ls.length-1-k=q at*;have hq':(q:Int)<ls.length:=by omega
   simp only[pac,List.getElem?_cons_zero,List.getElem?_cons_succ,Nat.add_zero]at c0 c1 c2 c3 c4;obtain⟨fn,tmps,assign,body,hy,hRr⟩:=hY _ r _ hJk HAT.out;dsimp only[encP,pac]at hy
   gi_wp2
   refine hRr.mono ?_;rintro e W3 (⟨rfl,hJ3,hk3⟩|⟨rfl,hJx3⟩)
   ·gi_wp2
    go_roundw
    case rel=>exact⟨k+1,by omega,by(congr 1;omega),by rw[HTK.out];exact hJ3,hbk.trans hk3⟩
    case measure=>first|(simp[intOf];done)|(simp[intOf];omega)
   ·gi_wp2
    refine bodyPost_ret (results_none rfl _ _ _) rfl ?_;exact⟨⟨_,rfl⟩,.inr ⟨_,HTL.out,hJx3⟩⟩
  ·obtain rfl:k=ls.length:=by omega
   have hneg:(ls.length:Int)-1-(ls.length:Int)= -1:=by omega
   rw[hneg];gi_wp2
   go_end0
   exact⟨⟨_,rfl⟩,.inl ⟨_,rfl,by rw[←List.length_reverse,List.take_length]at hJk;exact hJk⟩⟩
end Go.Proofs.YteaeilghamjjkaaGreatDoor
