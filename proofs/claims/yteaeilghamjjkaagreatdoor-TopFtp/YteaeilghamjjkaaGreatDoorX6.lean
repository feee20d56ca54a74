import Derived.Test.YteaeilghamjjkaaGreatDoorX7
import Derived.Lib.BytesEntry
import Derived.Lib.Strings
namespace Go.Proofs.YteaeilghamjjkaaGreatDoor
set_option maxHeartbeats 8000000
open Go.RowKit Go.Shelf
set_option maxRecDepth 100000
set_option linter.unusedVariables false
set_option linter.unusedSimpArgs false
structure Rr where
 at0:Nat
 kd:Int
 st:Int
 en:Int
 ad:Int
 pt:Int
def rrc (bv:Value) (r:Rr):Array Value:=#[bv,.int .i64 (r.at0:Int),.int .i64 r.kd,.int .i64 r.st,.int .i64 r.en,.int .u32 r.ad,.int .u16 r.pt]
def RB (W:World) (rb:Nat) (bv:Value) (r:Rr):Prop:=W.heap[rb]? =some (.cells (rrc bv r) 80 (0,0))
theorem RB.later {A B:World} {rb:Nat} {bv:Value} {r:Rr} (h:RB A rb bv r)(k:Later A B):RB B rb bv r:=zAb k h
def OnlyB (rb:Nat) (w w':World):Prop:=But (fun g=>g=rb) w w'
theorem zPw(rb:Nat)(ba:Option Addr)(n cp:Nat)(r:Rr)(w:World)(h:RB w rb (.slice ba n cp) r):
  Calls Tryz.prog 30 #[.pointer (some ⟨rb,0,none⟩)] w fun e w'=>e= .returned (.bool (decide (r.at0=n)))∧Later w w':=by
 have HB:=zAd h;have k0:=zAa h;unfold rrc at k0;have lz:∀n,Later w (w.drewN n):=fun n=>zAk (Later.refl _) _;by_cases hq:r.at0=n
 case' pos=>
  have hq1:((r.at0:Int)==(n:Int))=true:=by simp[hq]
  have HV:Hid (decide (r.at0=n)=true):=decide_eq_true hq
 case' neg=>
  have hq1:((r.at0:Int)==(n:Int))=false:=by rw[beq_eq_false_iff_ne];omega
  have HV:Hid (decide (r.at0=n)=false):=decide_eq_false hq
 all_goals
  clear hq h;rw[HV.out];go_enter Tryz.func30,Tryz.ntmps30;go_upto_region 1 with fail;go_quiet (fail)
  go_wp2_with fail;go_ret
  exact⟨by first|rfl|simp,lz _⟩
def tkB (zs:List Int) (p:Nat) (t:ByteArray):Bool:=decide (p+t.size≤zs.length) && swV (strOfNums ((zs.drop p).take t.size)) t
def atR (r:Rr) (p:Nat):Rr:=⟨p,r.kd,r.st,r.en,r.ad,r.pt⟩
theorem Rd.mid {n₀:Nat} {A:World} {b off len cap:Nat} {zs:List Int} (p m:Nat)(h:Rd n₀ A (.slice (some ⟨b,off,none⟩) len cap) zs)(hp:p+m≤zs.length)(hm:0<m):Rd n₀ A (.slice (some ⟨b,off+p,none⟩) m (cap-p)) ((zs.drop p).take m):=by
 rcases h with⟨a,c,e,hz,_⟩|⟨b',o',c',e,hne,hl,hmx,hb,hc⟩
 ·rw[hz]at hp;simp at hp;omega
 ·simp at e
  obtain⟨⟨rfl,rfl⟩,rfl,rfl⟩:=e;have hlen:((zs.drop p).take m).length=m:=by simp;omega
  refine .inr ⟨b,off+p,cap-p,by rw[hlen],fun e=>by rw[e]at hlen;simp at hlen;omega,by omega,by omega,hb,fun j hj=> ?_⟩;have hj':j<m:=by omega
  rw[Nat.add_assoc,hc (p+j) (by omega),List.getElem?_take,if_pos hj',List.getElem?_drop]
theorem zCn(rb:Nat)(bb off cp n₀:Nat)(zs:List Int)(t:ByteArray)(r:Rr)(w:World)(h:RB w rb (.slice (some ⟨bb,off,none⟩) zs.length cp) r)(hI:Rd n₀ w (.slice (some ⟨bb,off,none⟩) zs.length cp) zs)(hl:zs.length≤1000)(ht:0<t.size∧t.size≤1000)(ha:r.at0≤zs.length)(hn0:n₀≤w.heap.size):
  Calls Tryz.prog 33 #[.pointer (some ⟨rb,0,none⟩),.string t] w fun e w'=>e= .returned (.bool (tkB zs r.at0 t))∧OnlyB rb w w'∧RB w' rb (.slice (some ⟨bb,off,none⟩) zs.length cp) (if tkB zs r.at0 t=true then atR r (r.at0+t.size)else r):=by
 have HB:=zAd h;have k0:=zAa h;unfold rrc at k0;have g1:(zs.length:Int)≤1000:=by omega
 have g2:(t.size:Int)≤1000:=by omega
 have g3:(r.at0:Int)≤1000:=by omega
 obtain⟨ht1,ht2⟩:=ht;have hcp:zs.length≤cp:=by obtain⟨_,_,e,h1,_⟩:=hI.slice;simp at e;omega
 by_cases hfit:r.at0+t.size≤zs.length
 ·have hf1:¬(zs.length:Int)<(r.at0:Int)+(t.size:Int):=by omega
  have hRm:=Rd.mid r.at0 t.size hI hfit ht1;have HTK:Hid (tkB zs r.at0 t=swV (strOfNums ((zs.drop r.at0).take t.size)) t):=by show _=_;unfold tkB;simp[hfit]
  have HSW:=zAd (fun W=>zLf (strOfNums ((zs.drop r.at0).take t.size)) t W (by rw[strOfNums_size];simp;omega));obtain⟨pe,hpe⟩:∃pe,pe=r.at0+t.size:=⟨_,rfl⟩;have epe:(r.at0:Int)+(t.size:Int)=(pe:Int):=by omega
  have ept:pe-r.at0=t.size:=by omega
  rw[←ept]at hRm;have c1:(pe:Int)≤(cp:Int):=by omega
  have c2:¬cp=r.at0:=by omega
  have c3:r.at0≤pe:=by omega
  have c4:¬(zs.length:Int)<(pe:Int):=by omega
  have c5:(pe:Int)≤2000:=by omega
  have HPE:=zAd hpe;have HEP:=zAd epe;have HRM:=zAd hRm;rw[hpe.symm];have HET:=zAd ept;clear h hI hfit hRm hf1 hpe epe ept;generalize hss:strOfNums ((zs.drop r.at0).take t.size)=ss at*;have HSS:=zAd hss;clear hss;have HZ:Hid (∃z,swV ss t=z∧tkB zs r.at0 t=z):=⟨_,rfl,HTK.out⟩;obtain⟨z,hz1,hz2⟩:=HZ.out;rw[hz1]at HSW;rw[hz2];clear hz1 hz2 HZ HTK;go_enter Tryz.func33,Tryz.ntmps33;go_upto_region 2 with fail;rw[HEP.out];clear k0;refine zAn Later.pre Later.drew 23 rfl (by kernel_rfl) ?_;intro Wd hWd
  have hac:∀v1,Later Wd v1→∀j,v1.cell? ⟨rb,j,none⟩=#[Value.slice (some ⟨bb,off,none⟩) zs.length cp,.int .i64 (r.at0:Int),.int .i64 r.kd,.int .i64 r.st,.int .i64 r.en,.int .u32 r.ad,.int .u16 r.pt][j]? :=fun v1 hv=>zAa (zAb (hWd.trans hv) HB.out);refine rX Later.pre 0 ?_;refine rX Later.pre 1 ?_;refine rX Later.pre 2 ?_;refine rX Later.pre 3 ?_;refine rX Later.pre 4 ?_;refine rX Later.pre 5 ?_;refine rX Later.pre 6 ?_;refine rX Later.pre 7 ?_;refine qX Later.pre 8 ?_;refine qX Later.pre 9 ?_;refine qX Later.pre 10 ?_;refine qX Later.pre 11 ?_;refine qX Later.pre 12 ?_;refine qX Later.pre 13 ?_;refine qX Later.pre 14 ?_;refine qX Later.pre 15 ?_;refine qX Later.pre 16 ?_;refine qX Later.pre 17 ?_
  have hcv:∀v1,Later Wd v1→(convert 26 9 (.slice (some ⟨bb,off+r.at0,none⟩) (pe-r.at0) (cp-r.at0))).run Tryz.prog v1= .ok (.string ss) v1:=fun v1 hv=>by
   have:=zDc (P:=Tryz.prog) (n₀:=n₀) (w:=v1) 26 9 5 Tryz.underlying26 Tryz.underlying5 Tryz.underlying9 (HRM.out.below (Below.mono (hWd.trans hv) hn0));rw[HET.out,HSS.out]at this;rw[HET.out];exact this
  refine qX Later.pre 18 ?_;refine qX Later.pre 19 ?_;refine zB3 Later.pre 20 (.bool z) rfl (by kernel_rfl) (by kernel_rfl) (by kernel_rfl) (fun _ _ _ h=>h) (by rfl) (fun w1 hw1=>zAo 77 #[.string ss,.string t] (by go_simp) (HSW.out w1)) ?_;simp only[Act.put,sA,sB,sC];clear hcv;refine qX Later.pre 21 ?_;refine rX Later.pre 22 ?_;clear hac;refine rD (fun VD hVD=> ?_);have LV:Later w VD:=hWd.trans hVD;have hBV:=RB.later HB.out LV;cases z with
  |false=>
   go_wp2_with fail;go_ret
   exact⟨rfl,But.of LV,hBV⟩
  |true=>
   have kv:=zAa hBV;have fv:=zAc hBV;unfold rrc at kv;have hst:=zAh hBV 1 (.int .i64 (pe:Int));have HST:=zAd hst;clear hst;go_wp2_with fail;go_ret
   exact⟨rfl,(But.of LV).trans ((But.refl (fun g=>g=rb) _).setCell (p:=⟨rb,1,none⟩) rfl _),HST.out⟩
 ·have hf1:(zs.length:Int)<(r.at0:Int)+(t.size:Int):=by omega
  have HTK:Hid (tkB zs r.at0 t=false):=by show _=_;unfold tkB;simp[hfit]
  rw[HTK.out];clear h hI hfit;go_enter Tryz.func33,Tryz.ntmps33;go_upto_region 2 with fail;clear k0;refine zAn Later.pre Later.drew 23 rfl (by kernel_rfl) ?_;intro Wd hWd
  have hac:∀v1,Later Wd v1→∀j,v1.cell? ⟨rb,j,none⟩=#[Value.slice (some ⟨bb,off,none⟩) zs.length cp,.int .i64 (r.at0:Int),.int .i64 r.kd,.int .i64 r.st,.int .i64 r.en,.int .u32 r.ad,.int .u16 r.pt][j]? :=fun v1 hv=>zAa (zAb (hWd.trans hv) HB.out);refine rX Later.pre 0 ?_;refine rX Later.pre 1 ?_;refine rX Later.pre 2 ?_;refine rX Later.pre 3 ?_;refine rX Later.pre 4 ?_;refine rX Later.pre 5 ?_;refine rX Later.pre 6 ?_;refine rX Later.pre 7 ?_;refine zAm Later.pre 8 rfl (by kernel_rfl) (by kernel_rfl) (by kernel_rfl) (fun _ _ _ _ h=>h) (by rfl) ?_;simp only[Act.put,sA,sB,sC];refine zAm Later.pre 9 rfl (by kernel_rfl) (by kernel_rfl) (by kernel_rfl) (fun _ _ _ _ h=>h) (by rfl) ?_;simp only[Act.put,sA,sB,sC];refine zAm Later.pre 10 rfl (by kernel_rfl) (by kernel_rfl) (by kernel_rfl) (fun _ _ _ _ h=>h) (by rfl) ?_;simp only[Act.put,sA,sB,sC];refine zAm Later.pre 11 rfl (by kernel_rfl) (by kernel_rfl) (by kernel_rfl) (fun _ _ _ _ h=>h) (by rfl) ?_;simp only[Act.put,sA,sB,sC];refine zAm Later.pre 12 rfl (by kernel_rfl) (by kernel_rfl) (by kernel_rfl) (fun _ _ _ _ h=>h) (by rfl) ?_;simp only[Act.put,sA,sB,sC];refine zAm Later.pre 13 rfl (by kernel_rfl) (by kernel_rfl) (by kernel_rfl) (fun _ _ _ _ h=>h) (by rfl) ?_;simp only[Act.put,sA,sB,sC];refine zAm Later.pre 14 rfl (by kernel_rfl) (by kernel_rfl) (by kernel_rfl) (fun _ _ _ _ h=>h) (by rfl) ?_;simp only[Act.put,sA,sB,sC]
  refine zAm Later.pre 15 rfl (by kernel_rfl) (by kernel_rfl) (by kernel_rfl) (fun _ _ _ _ h=>h) (by rfl) ?_;simp only[Act.put,sA,sB,sC];refine zAm Later.pre 16 rfl (by kernel_rfl) (by kernel_rfl) (by kernel_rfl) (fun _ _ _ _ h=>h) (by rfl) ?_;simp only[Act.put,sA,sB,sC];refine zAm Later.pre 17 rfl (by kernel_rfl) (by kernel_rfl) (by kernel_rfl) (fun _ _ _ _ h=>h) (by rfl) ?_;simp only[Act.put,sA,sB,sC];refine zAm Later.pre 18 rfl (by kernel_rfl) (by kernel_rfl) (by kernel_rfl) (fun _ _ _ _ h=>h) (by rfl) ?_;simp only[Act.put,sA,sB,sC];refine zAm Later.pre 19 rfl (by kernel_rfl) (by kernel_rfl) (by kernel_rfl) (fun _ _ _ _ h=>h) (by rfl) ?_;simp only[Act.put,sA,sB,sC];refine zAm Later.pre 20 rfl (by kernel_rfl) (by kernel_rfl) (by kernel_rfl) (fun _ _ _ _ h=>h) (by rfl) ?_;simp only[Act.put,sA,sB,sC];refine zAm Later.pre 21 rfl (by kernel_rfl) (by kernel_rfl) (by kernel_rfl) (fun _ _ _ _ h=>h) (by rfl) ?_;simp only[Act.put,sA,sB,sC];refine rX Later.pre 22 ?_;refine rD (fun VD hVD=> ?_);go_wp2_with fail;go_ret
  exact⟨rfl,But.of (hWd.trans hVD),RB.later HB.out (hWd.trans hVD)⟩
def dgE (zs:List Int):Nat→Nat→Nat
 |0,p=>p
 |k+1,p=>if p<zs.length∧dgt (zs[p]?.getD 0)=true then dgE zs k (p+1)else p
theorem dgE_le(zs:List Int):∀k p,p≤zs.length→p≤dgE zs k p∧dgE zs k p≤zs.length
 |0,p,h=>⟨Nat.le_refl _,h⟩
 | k+1,p,h=>by
  unfold dgE;split
  ·rename_i hq
   have:=dgE_le zs k (p+1) (by omega);omega
  ·exact ⟨Nat.le_refl _,h⟩
def dgZ (zs:List Int) (p:Nat):Nat:=dgE zs (zs.length-p) p
theorem dgZ_go {zs:List Int} {p:Nat} (h:p<zs.length)(hd:dgt (zs[p]?.getD 0)=true):dgZ zs p=dgZ zs (p+1):=by
 unfold dgZ;rw[show zs.length-p=(zs.length-(p+1))+1 by omega];show(if _ then _ else _)=_
 rw[if_pos ⟨h,hd⟩]
theorem zPx {zs:List Int} {p:Nat} (h:p<zs.length)(hd:dgt (zs[p]?.getD 0)=false):dgZ zs p=p:=by
 unfold dgZ;rw[show zs.length-p=(zs.length-(p+1))+1 by omega];show(if _ then _ else _)=_
 rw[if_neg (by rw[hd];simp)]
theorem zVc {zs:List Int} {p:Nat} (h:p=zs.length):dgZ zs p=p:=by
 unfold dgZ;rw[h,Nat.sub_self];rfl
theorem zLg {zs:List Int} {p:Nat} (h:p≤zs.length):p≤dgZ zs p∧dgZ zs p≤zs.length:=dgE_le zs _ p h
theorem OnlyB.below {rb n:Nat} {w w':World} (h:OnlyB rb w w')(hn:n≤w.heap.size)(hr:n≤rb):Below n w w':=But.below h hn (fun k hk e=>by omega)
def atM (zs:List Int) (rb:Nat) (w:World):Nat:=zs.length-(intOf ((w.cell? ⟨rb,1,none⟩).getD undef)).toNat
theorem atM_is {zs:List Int} {rb:Nat} {w:World} {bv:Value} {r:Rr} (h:RB w rb bv r):atM zs rb w=zs.length-r.at0:=by
 unfold atM;rw[zAa h 1];simp[rrc,intOf]
theorem zPy {n₀:Nat} {A:World} {bb off cp:Nat} {zs:List Int} (s p:Nat)(h:Rd n₀ A (.slice (some ⟨bb,off,none⟩) zs.length cp) zs)(hs:s≤p)(hp:p≤zs.length):
  (convert 26 9 (.slice (if cp=s then some ⟨bb,off,none⟩else some ⟨bb,off+s,none⟩) (p-s) (cp-s))).run Tryz.prog A= .ok (.string (strOfNums ((zs.drop s).take (p-s)))) A:=by
 obtain⟨_,_,e,hc1,hc2⟩:=h.slice
 simp at e
 obtain⟨_,rfl⟩:=e;refine zDc (n₀:=n₀) 26 9 5 Tryz.underlying26 Tryz.underlying5 Tryz.underlying9 ?_;by_cases hps:p-s=0
 ·rw[hps]
  exact .inl ⟨_,_,rfl,by simp,by omega,fun h=>by split at h<;>cases h⟩
 ·rw[if_neg (by omega)]
  exact Rd.mid s (p-s) h (by omega) (by omega)
theorem zIj(rb:Nat)(bb off cp n₀:Nat)(zs:List Int)(hz:Mt.By zs)(r:Rr)(w:World)(h:RB w rb (.slice (some ⟨bb,off,none⟩) zs.length cp) r)(hI:Rd n₀ w (.slice (some ⟨bb,off,none⟩) zs.length cp) zs)(hl:zs.length≤1000)(ha:r.at0≤zs.length)(hn0:n₀≤w.heap.size)(hrb:n₀≤rb):
  Calls Tryz.prog 137 #[.pointer (some ⟨rb,0,none⟩)] w fun e w'=>e= .returned (.string (strOfNums ((zs.drop r.at0).take (dgZ zs r.at0-r.at0))))∧OnlyB rb w w'∧RB w' rb (.slice (some ⟨bb,off,none⟩) zs.length cp) (atR r (dgZ zs r.at0)):=by
 have HB:=zAd h;have k0:=zAa h;unfold rrc at k0;have HI:=zAd hI;have g1:(zs.length:Int)≤1000:=by omega
 have HA:=zAd ha;have hcp:zs.length≤cp:=by obtain⟨_,_,e,h1,_⟩:=hI.slice;simp at e;omega
 clear h hI;go_enter Tryz.func137,Tryz.ntmps137;have HD0:Hid (dgZ zs r.at0=dgZ zs r.at0):=rfl;generalize hdz:dgZ zs r.at0=dz at*;have HDZ:=zAd hdz;clear hdz HD0;go_wp2_with fail;go_loopw [] (fun wr=>∃p:Nat,r.at0≤p∧p≤zs.length∧dgZ zs p=dz∧OnlyB rb w wr∧RB wr rb (.slice (some ⟨bb,off,none⟩) zs.length cp) (atR r p)) (fun wr=>atM zs rb wr)
 case atStart=>exact⟨r.at0,Nat.le_refl _,HA.out,HDZ.out,But.refl _ _,HB.out⟩
 case round=>
  obtain⟨p,hp1,hp2,hdp,ho,hb⟩:=hrel;have hIr:=HI.out.below (OnlyB.below ho hn0 hrb);have HBR:=zAd hb;have HM:=zAd (atM_is (zs:=zs) hb);have HO:=zAd ho;have HDP:=zAd hdp;have g2:(p:Int)≤1000:=by omega
  have hws:w.heap.size≤wr.heap.size:=But.size ho;have HIR:=zAd hIr;clear hb ho hdp;by_cases hlt:p<zs.length
  ·have hlt1:(p:Int)<(zs.length:Int):=by omega
   have hby:0≤zs[p]∧zs[p]≤255:=hz _ (List.getElem_mem hlt);obtain⟨bc,hbc⟩:∃c,zs[p]?.getD 0=c:=⟨_,rfl⟩;have hbr:0≤bc∧bc≤255:=by rw[←hbc,List.getElem?_eq_getElem hlt];exact hby
   obtain⟨hbr1,hbr2⟩:=hbr
   have hcell:wr.cell? ⟨bb,off+p,none⟩=some (.int .u8 bc):=by
    rcases hIr with⟨a,c,e,hz2,_⟩|⟨b',o',c',e,_,_,_,_,hc⟩
    ·rw[hz2]at hlt;simp at hlt
    ·simp at e
     obtain⟨⟨rfl,rfl⟩,rfl⟩:=e;rw[hc p hlt,hbc]
   have HWB:Hid (IntKind.i32.wrap bc=bc):=by show _=_;simp[IntKind.wrap,IntKind.signed,IntKind.bits];omega
   have HCE:=zAd hcell;clear hIr hcell k0;go_upto_region 2 with fail;refine zAn Later.pre Later.drew 24 rfl (by kernel_rfl) ?_;intro Wd hWd
   have hac:∀v1,Later Wd v1→∀j,v1.cell? ⟨rb,j,none⟩=#[Value.slice (some ⟨bb,off,none⟩) zs.length cp,.int .i64 (p:Int),.int .i64 r.kd,.int .i64 r.st,.int .i64 r.en,.int .u32 r.ad,.int .u16 r.pt][j]? :=fun v1 hv=>zAa (zAb (hWd.trans hv) HBR.out);have hce:∀v1,Later Wd v1→v1.cell? ⟨bb,off+p,none⟩=some (.int .u8 bc):=fun v1 hv=>(hWd.trans hv).cell HCE.out;refine rX Later.pre 0 ?_;refine rX Later.pre 1 ?_;refine rX Later.pre 2 ?_;refine rX Later.pre 3 ?_;refine rX Later.pre 4 ?_;refine rX Later.pre 5 ?_;refine rX Later.pre 6 ?_;refine rX Later.pre 7 ?_;refine rX Later.pre 8 ?_;refine rX Later.pre 9 ?_;refine rX Later.pre 10 ?_;refine qX Later.pre 11 ?_;refine qX Later.pre 12 ?_;refine qX Later.pre 13 ?_;refine qX Later.pre 14 ?_;refine qX Later.pre 15 ?_;refine qX Later.pre 16 ?_;refine qX Later.pre 17 ?_;refine qX Later.pre 18 ?_;refine qX Later.pre 19 ?_;refine qX Later.pre 20 ?_;refine qX Later.pre 21 ?_;simp only[HWB.out];clear hac hce;refine zB3 Later.pre 22 (.bool (dgt bc)) rfl (by kernel_rfl) (by kernel_rfl) (by kernel_rfl) (fun _ _ _ h=>h) (by rfl) (fun w1 hw1=>zAo 190 #[.int .i32 bc] (by go_simp) ((zCe bc w1).mono fun e w2 h=>⟨h.1,by rw[h.2];exact Later.refl _⟩)) ?_;simp only[Act.put,sA,sB,sC];cases hdg:dgt bc with
   | true=>
    have HDZ2:Hid (dgZ zs (p+1)=dz):=by show _=_;rw[←HDP.out];exact(dgZ_go hlt (by rw[hbc];exact hdg)).symm
    clear hdg hbc;refine rX Later.pre 23 ?_;refine rD (fun VD hVD=> ?_);have LV:Later wr VD:=hWd.trans hVD;have hBV:=RB.later HBR.out LV;have kv:=zAa hBV;have fv:=zAc hBV;unfold rrc atR at kv;have HST:=zAd (zAh hBV 1 (.int .i64 ((p+1:Nat):Int)));have e1:(p:Int)+1=((p+1:Nat):Int):=by omega
    have HE1:=zAd e1;clear e1;go_wp2_with fail;rw[HE1.out];go_roundw
    case rel=>exact⟨p+1,by omega,by omega,HDZ2.out,HO.out.trans ((But.of LV).trans ((But.refl (fun g=>g=rb) _).setCell (p:=⟨rb,1,none⟩) rfl _)),HST.out⟩
    case measure=>
     have h1:=atM_is (zs:=zs) (r:=atR r (p+1)) (bv:= .slice (some ⟨bb,off,none⟩) zs.length cp) HST.out;have h2:=HM.out;simp only[atR]at h1 h2;omega
   |false=>
    have HDZ2:Hid (dz=p):=by show _=_;rw[←HDP.out];exact zPx hlt (by rw[hbc];exact hdg)
    clear hdg hbc;refine rX Later.pre 23 ?_;refine rD (fun VD hVD=> ?_);have LVa:Later wr VD:=hWd.trans hVD;have hc3:r.at0≤p:=hp1;have hc4:(p:Int)≤(cp:Int):=by omega
    have hc5:(r.at0:Int)≤(p:Int):=by omega
    have hac2:∀v1,Later VD v1→∀j,v1.cell? ⟨rb,j,none⟩=#[Value.slice (some ⟨bb,off,none⟩) zs.length cp,.int .i64 (p:Int),.int .i64 r.kd,.int .i64 r.st,.int .i64 r.en,.int .u32 r.ad,.int .u16 r.pt][j]? :=fun v1 hv=>zAa (zAb (LVa.trans hv) HBR.out);have kv:=hac2 VD (Later.refl _);go_upto_region 4 with fail;clear kv;refine zAn Later.pre Later.drew 12 rfl (by kernel_rfl) ?_;intro We hWe
    have hac3:∀v1,Later We v1→∀j,v1.cell? ⟨rb,j,none⟩=#[Value.slice (some ⟨bb,off,none⟩) zs.length cp,.int .i64 (p:Int),.int .i64 r.kd,.int .i64 r.st,.int .i64 r.en,.int .u32 r.ad,.int .u16 r.pt][j]? :=fun v1 hv=>hac2 v1 (hWe.trans hv);have hcv:∀v1,Later We v1→(convert 26 9 (.slice (if cp=r.at0 then some ⟨bb,off,none⟩else some ⟨bb,off+r.at0,none⟩) (p-r.at0) (cp-r.at0))).run Tryz.prog v1= .ok (.string (strOfNums ((zs.drop r.at0).take (p-r.at0)))) v1:=fun v1 hv=>zPy r.at0 p (HIR.out.below (Below.mono (LVa.trans (hWe.trans hv)) (by omega))) hp1 hp2;clear hac2;refine rX Later.pre 0 ?_;refine rX Later.pre 1 ?_;refine rX Later.pre 2 ?_;refine rX Later.pre 3 ?_;refine rX Later.pre 4 ?_;refine rX Later.pre 5 ?_;refine rX Later.pre 6 ?_;refine rX Later.pre 7 ?_;refine rX Later.pre 8 ?_;refine rX Later.pre 9 ?_;refine rX Later.pre 10 ?_;generalize (if cp=r.at0 then some (⟨bb,off,none⟩:Addr)else some ⟨bb,off+r.at0,none⟩)=ifa at*;clear hac3 hcv;refine rX Later.pre 11 ?_;refine rD (fun VF hVF=> ?_);have LF:Later wr VF:=LVa.trans (hWe.trans hVF);go_wp2_with fail;refine bodyPost_ret (v:= .string (strOfNums ((zs.drop r.at0).take (p-r.at0)))) (by simp[results,Tryz.results137,go_sem]) rfl ?_;rw[HDZ2.out];exact⟨rfl,HO.out.trans (But.of LF),RB.later HBR.out LF⟩
  ·have hlt1:¬(p:Int)<(zs.length:Int):=by omega
   have ep:p=zs.length:=by omega
   have hdz:dz=p:=by rw[←HDP.out];exact zVc ep
   have HDZ2:=zAd hdz;clear hdz ep hIr k0;go_upto_region 2 with fail;refine zAn Later.pre Later.drew 24 rfl (by kernel_rfl) ?_;intro Wd hWd
   have hac:∀v1,Later Wd v1→∀j,v1.cell? ⟨rb,j,none⟩=#[Value.slice (some ⟨bb,off,none⟩) zs.length cp,.int .i64 (p:Int),.int .i64 r.kd,.int .i64 r.st,.int .i64 r.en,.int .u32 r.ad,.int .u16 r.pt][j]? :=fun v1 hv=>zAa (zAb (hWd.trans hv) HBR.out);refine rX Later.pre 0 ?_;refine rX Later.pre 1 ?_;refine rX Later.pre 2 ?_;refine rX Later.pre 3 ?_;refine rX Later.pre 4 ?_;refine rX Later.pre 5 ?_;refine rX Later.pre 6 ?_;refine rX Later.pre 7 ?_;refine rX Later.pre 8 ?_;refine rX Later.pre 9 ?_;refine rX Later.pre 10 ?_;refine zAm Later.pre 11 rfl (by kernel_rfl) (by kernel_rfl) (by kernel_rfl) (fun _ _ _ _ h=>h) (by rfl) ?_;simp only[Act.put,sA,sB,sC];refine zAm Later.pre 12 rfl (by kernel_rfl) (by kernel_rfl) (by kernel_rfl) (fun _ _ _ _ h=>h) (by rfl) ?_;simp only[Act.put,sA,sB,sC];refine zAm Later.pre 13 rfl (by kernel_rfl) (by kernel_rfl) (by kernel_rfl) (fun _ _ _ _ h=>h) (by rfl) ?_;simp only[Act.put,sA,sB,sC];refine zAm Later.pre 14 rfl (by kernel_rfl) (by kernel_rfl) (by kernel_rfl) (fun _ _ _ _ h=>h) (by rfl) ?_;simp only[Act.put,sA,sB,sC];refine zAm Later.pre 15 rfl (by kernel_rfl) (by kernel_rfl) (by kernel_rfl) (fun _ _ _ _ h=>h) (by rfl) ?_;simp only[Act.put,sA,sB,sC];refine zAm Later.pre 16 rfl (by kernel_rfl) (by kernel_rfl) (by kernel_rfl) (fun _ _ _ _ h=>h) (by rfl) ?_;simp only[Act.put,sA,sB,sC]
   refine zAm Later.pre 17 rfl (by kernel_rfl) (by kernel_rfl) (by kernel_rfl) (fun _ _ _ _ h=>h) (by rfl) ?_;simp only[Act.put,sA,sB,sC];refine zAm Later.pre 18 rfl (by kernel_rfl) (by kernel_rfl) (by kernel_rfl) (fun _ _ _ _ h=>h) (by rfl) ?_;simp only[Act.put,sA,sB,sC];refine zAm Later.pre 19 rfl (by kernel_rfl) (by kernel_rfl) (by kernel_rfl) (fun _ _ _ _ h=>h) (by rfl) ?_;simp only[Act.put,sA,sB,sC];refine zAm Later.pre 20 rfl (by kernel_rfl) (by kernel_rfl) (by kernel_rfl) (fun _ _ _ _ h=>h) (by rfl) ?_;simp only[Act.put,sA,sB,sC];refine zAm Later.pre 21 rfl (by kernel_rfl) (by kernel_rfl) (by kernel_rfl) (fun _ _ _ _ h=>h) (by rfl) ?_;simp only[Act.put,sA,sB,sC];refine zAm Later.pre 22 rfl (by kernel_rfl) (by kernel_rfl) (by kernel_rfl) (fun _ _ _ _ h=>h) (by rfl) ?_;simp only[Act.put,sA,sB,sC];refine rX Later.pre 23 ?_;clear hac;refine rD (fun VD hVD=> ?_);have LVb:Later wr VD:=hWd.trans hVD;have hc3:r.at0≤p:=hp1;have hc4:(p:Int)≤(cp:Int):=by omega
   have hc5:(r.at0:Int)≤(p:Int):=by omega
   have hac2:∀v1,Later VD v1→∀j,v1.cell? ⟨rb,j,none⟩=#[Value.slice (some ⟨bb,off,none⟩) zs.length cp,.int .i64 (p:Int),.int .i64 r.kd,.int .i64 r.st,.int .i64 r.en,.int .u32 r.ad,.int .u16 r.pt][j]? :=fun v1 hv=>zAa (zAb (LVb.trans hv) HBR.out);have kv:=hac2 VD (Later.refl _);go_upto_region 4 with fail;clear kv;refine zAn Later.pre Later.drew 12 rfl (by kernel_rfl) ?_;intro We hWe
   have hac3:∀v1,Later We v1→∀j,v1.cell? ⟨rb,j,none⟩=#[Value.slice (some ⟨bb,off,none⟩) zs.length cp,.int .i64 (p:Int),.int .i64 r.kd,.int .i64 r.st,.int .i64 r.en,.int .u32 r.ad,.int .u16 r.pt][j]? :=fun v1 hv=>hac2 v1 (hWe.trans hv);have hcv:∀v1,Later We v1→(convert 26 9 (.slice (if cp=r.at0 then some ⟨bb,off,none⟩else some ⟨bb,off+r.at0,none⟩) (p-r.at0) (cp-r.at0))).run Tryz.prog v1= .ok (.string (strOfNums ((zs.drop r.at0).take (p-r.at0)))) v1:=fun v1 hv=>zPy r.at0 p (HIR.out.below (Below.mono (LVb.trans (hWe.trans hv)) (by omega))) hp1 hp2;clear hac2;refine rX Later.pre 0 ?_;refine rX Later.pre 1 ?_;refine rX Later.pre 2 ?_;refine rX Later.pre 3 ?_;refine rX Later.pre 4 ?_;refine rX Later.pre 5 ?_;refine rX Later.pre 6 ?_;refine rX Later.pre 7 ?_;refine rX Later.pre 8 ?_;refine rX Later.pre 9 ?_;refine rX Later.pre 10 ?_;generalize (if cp=r.at0 then some (⟨bb,off,none⟩:Addr)else some ⟨bb,off+r.at0,none⟩)=ifa at*;clear hac3 hcv;refine rX Later.pre 11 ?_;refine rD (fun VF hVF=> ?_);have LF:Later wr VF:=LVb.trans (hWe.trans hVF);go_wp2_with fail;refine bodyPost_ret (v:= .string (strOfNums ((zs.drop r.at0).take (p-r.at0)))) (by simp[results,Tryz.results137,go_sem]) rfl ?_;rw[HDZ2.out];exact⟨rfl,HO.out.trans (But.of LF),RB.later HBR.out LF⟩
def dgS (zs:List Int) (p:Nat):ByteArray:=strOfNums ((zs.drop p).take (dgZ zs p-p))
def nxP (zs:List Int) (mk:ByteArray) (i p:Nat):Option Nat:=if i=0 then some p else if tkB zs p mk=true then some (p+mk.size)else none
def zFe (zs:List Int) (mk:ByteArray):Nat→Nat→Nat→Option (List Int × Nat)
 |0,_,p=>some ([],p)
 |k+1,i,p=>(nxP zs mk i p).bind fun q=>(zC6 (dgS zs q) 255).bind fun v=>(zFe zs mk k (i+1) (dgZ zs q)).map fun x=>(v::x.1,x.2)
def RowQ (zs:List Int) (rb nb:Nat) (tn:TypeId) (bv:Value) (r:Rr) (w w':World) (e:Ending) (o:Option (List Int × Nat)):Prop:=
 But (fun g=>g=rb∨g=nb) w w'∧e= .returned (.bool o.isSome)∧(∀x,o=some x→RB w' rb bv (atR r x.2)∧x.2≤zs.length∧w'.heap[nb]? =some (.cells (x.1.map (Value.int .u8)).toArray tn (0,0)))∧∃p,p≤zs.length∧RB w' rb bv (atR r p)
theorem zEs(zs:List Int)(mk:ByteArray):∀k i p x,zFe zs mk k i p=some x→x.1.length=k
 |0,i,p,x,h=>by
  have:x=([],p):=by simpa[zFe]using h.symm
  rw[this];rfl
 |k+1,i,p,x,h=>by
  unfold zFe at h;obtain⟨q,_,h⟩:=Option.bind_eq_some_iff.1 h;obtain⟨v,_,h⟩:=Option.bind_eq_some_iff.1 h;obtain⟨y,hy,rfl⟩:=Option.map_eq_some_iff.1 h;have:=zEs zs mk k (i+1) _ y hy;simp[this]
theorem But.wk1 {E E':Nat→Prop} {a b:World} (h:But E a b)(hE:∀k,E k→E' k):But E' a b:=⟨h.os,h.tape,h.output,h.size,fun i hi he=>h.block i hi (fun h'=>he (hE i h'))⟩
theorem zCy {zs:List Int} {p:Nat} {t:ByteArray} (h:tkB zs p t=true):p+t.size≤zs.length:=by
 unfold tkB at h
 simp at h
 exact h.1
def NQ (zs:List Int) (mk:ByteArray) (i p rb:Nat) (bv:Value) (r:Rr) (wr:World) (v:Value) (wx:World):Prop:=
 (v= .bool false∧∃q:Nat,q≤zs.length∧nxP zs mk i p=some q∧RB wx rb bv (atR r q)∧But (fun g=>g=rb) wr wx)∨(v= .bool true∧nxP zs mk i p=none∧RB wx rb bv (atR r p)∧But (fun g=>g=rb) wr wx)
theorem zVd(rb nb:Nat)(tn:TypeId)(bb off cp n₀ m:Nat)(zs:List Int)(hz:Mt.By zs)(mk:ByteArray)(old:List Value)(r:Rr)(w:World)(h:RB w rb (.slice (some ⟨bb,off,none⟩) zs.length cp) r)(hN:w.heap[nb]? =some (.cells old.toArray tn (0,0)))(hom:old.length=m)(hI:Rd n₀ w (.slice (some ⟨bb,off,none⟩) zs.length cp) zs)(hl:zs.length≤1000)(hm:m≤10)(hmk:0<mk.size∧mk.size≤1000)(ha:r.at0≤zs.length)(hn0:n₀≤w.heap.size)(hrb:n₀≤rb)(hnb:n₀≤nb)(hne:rb≠nb):
  Calls Tryz.prog 74 #[.pointer (some ⟨rb,0,none⟩),.slice (some ⟨nb,0,none⟩) m m,.string mk] w fun e w'=>RowQ zs rb nb tn (.slice (some ⟨bb,off,none⟩) zs.length cp) r w w' e (zFe zs mk m 0 r.at0):=by
 have HB:=zAd h;have HN:=zAd hN;have HI:=zAd hI;have g1:(m:Int)≤10:=by omega
 have HA:=zAd ha;clear h hN hI;generalize hrf:zFe zs mk m 0 r.at0=o at*;have HRF:=zAd hrf;clear hrf;go_enter Tryz.func74,Tryz.ntmps74;go_wp2_with fail;go_loopw [12] (fun iv wr=>∃(i p:Nat) (dn:List Int),i≤m∧iv= .int .i64 (i:Int)∧dn.length=i∧p≤zs.length∧RB wr rb (.slice (some ⟨bb,off,none⟩) zs.length cp) (atR r p)∧wr.heap[nb]? =some (.cells (dn.map (Value.int .u8)++old.drop i).toArray tn (0,0))∧But (fun g=>g=rb∨g=nb) w wr∧o=(zFe zs mk (m-i) i p).map fun x=>(dn++x.1,x.2)) (fun iv _=>m-(intOf iv).toNat)
 case atStart=>exact⟨0,r.at0,[],by omega,rfl,rfl,HA.out,HB.out,by simpa using HN.out,But.refl _ _,by rw[←HRF.out];simp⟩
 case round=>
  obtain⟨i,p,dn,hi,rfl,hdn,hp,hbr,hnr,ho,hof⟩:=hrel;have HO:=zAd ho;have HOF:=zAd hof;have HBR:=zAd hbr;have HNR:=zAd hnr;have hws:w.heap.size≤wr.heap.size:=But.size ho;have HIR:=zAd (HI.out.below (But.below ho hn0 (fun k hk e=>by rcases e with e|e<;>omega)));clear hbr hnr hof;by_cases him:i<m
  ·have him':(i:Int)<(m:Int):=by omega
   have HST:Hid (zFe zs mk (m-i) i p=(nxP zs mk i p).bind fun q=>(zC6 (dgS zs q) 255).bind fun v=>(zFe zs mk (m-(i+1)) (i+1) (dgZ zs q)).map fun x=>(v::x.1,x.2)):=by
    show _=_
    rw[show m-i=(m-(i+1))+1 by omega];rfl
   go_upto_region 4 with fail;go_cut [24] (fun v wx=>NQ zs mk i p rb (.slice (some ⟨bb,off,none⟩) zs.length cp) r wr v wx)
   case first=>
    rcases(show i=0∨0<i by omega)with hi0|hi0
    ·have q1:¬(0:Int)<(i:Int):=by omega
     have q2:¬0<i:=by omega
     have HNX:Hid (nxP zs mk i p=some p):=by show _=_;unfold nxP;rw[if_pos hi0]
     clear hi0;go_wp2_with fail;go_meet
     case rel=>exact .inl ⟨rfl,p,hp,HNX.out,HBR.out,But.refl _ _⟩
    ·have q1:(0:Int)<(i:Int):=by omega
     have HTK:=zAd (zCn rb bb off cp n₀ zs mk (atR r p) wr HBR.out HIR.out hl hmk hp (by omega));have e0:(atR r p).at0=p:=rfl;rw[e0]at HTK;clear e0;cases htk:tkB zs p mk with
     |true=>
      have hle:=zCy htk;have HNX:Hid (nxP zs mk i p=some (p+mk.size)):=by show _=_;unfold nxP;rw[if_neg (by omega),if_pos htk]
      rw[htk]at HTK;clear htk;go_wp2_with fail;refine HTK.out.mono ?_;rintro e w2 ⟨rfl,o2,b2⟩;have B2:=zAd b2;clear b2;go_wp2_with fail;go_meet
      case rel=>exact .inl ⟨rfl,p+mk.size,hle,HNX.out,by have:=B2.out;rw[if_pos trivial]at this;exact this,o2⟩
     |false=>
      have HNX:Hid (nxP zs mk i p=none):=by show _=_;unfold nxP;rw[if_neg (by omega),htk];rfl
      rw[htk]at HTK;clear htk;go_wp2_with fail;refine HTK.out.mono ?_;rintro e w2 ⟨rfl,o2,b2⟩;have B2:=zAd b2;clear b2;go_wp2_with fail;go_meet
      case rel=>exact .inr ⟨rfl,HNX.out,by have:=B2.out;rw[if_neg (by simp)]at this;exact this,o2⟩
   case rest=>
    rcases hcut with⟨rfl,q,hq,hnx,hbq,hoq⟩|⟨rfl,hnx,hbq,hoq⟩
    rotate_left
    ·have HOE:Hid (o=none):=by show _=_;rw[HOF.out,HST.out,hnx];rfl
     have HBQ:=zAd hbq;clear hnx hbq;go_wp2_with fail;refine bodyPost_ret (v:= .bool false) (by simp[results,Tryz.results74,go_sem]) rfl ?_;exact⟨HO.out.trans (hoq.wk1 (fun k hk=> .inl hk)),by rw[HOE.out];rfl,(fun x hx=>by rw[HOE.out]at hx;cases hx),p,hp,HBQ.out⟩
    have hqs:wr.heap.size≤wc.heap.size:=But.size hoq;have hIq:=HIR.out.below (But.below hoq (by omega) (fun k hk e=>by omega));have HDG:=zAd (zIj rb bb off cp n₀ zs hz (atR r q) wc hbq hIq hl hq (by omega) hrb);have HBY:=zAd (fun W=>zVa (dgS zs q) W);have e3:strOfNums ((zs.drop (atR r q).at0).take (dgZ zs (atR r q).at0-(atR r q).at0))=dgS zs q:=rfl;have e4:(atR r q).at0=q:=rfl;rw[e3,e4]at HDG;have hdz:=zLg hq;have HNQ:=zAd ((hoq.block nb (eS HNR.out) (fun e=>hne e.symm)).trans HNR.out);have HOQ:=zAd hoq;have HSQ:Hid (o=((zC6 (dgS zs q) 255).bind fun v=>(zFe zs mk (m-(i+1)) (i+1) (dgZ zs q)).map fun x=>(v::x.1,x.2)).map fun x=>(dn++x.1,x.2)):=by show _=_;rw[HOF.out,HST.out,hnx];rfl
    clear e3 e4 hbq hIq hnx hoq;generalize dgS zs q=sq at*;generalize dgZ zs q=dz at*;cases hnv:zC6 sq 255 with
    |none=>
     have HOE:Hid (o=none):=by show _=_;rw[HSQ.out,hnv];rfl
     rw[hnv]at HBY;clear hnv;go_wp2_with fail;refine HDG.out.mono ?_;rintro e w2 ⟨rfl,o2,b2⟩;go_wp2_with fail;refine(HBY.out w2).mono ?_;rintro e w3 ⟨rfl,l3⟩;simp only[Option.getD_none,Option.isSome_none];have B3:=zAd (RB.later b2 l3);clear b2;go_wp2_with fail;refine bodyPost_ret (v:= .bool false) (by simp[results,Tryz.results74,go_sem]) rfl ?_;exact⟨HO.out.trans ((But.trans HOQ.out (But.trans o2 (But.of l3))).wk1 (fun k hk=> .inl hk)),by rw[HOE.out];rfl,(fun x hx=>by rw[HOE.out]at hx;cases hx),dz,hdz.2,B3.out⟩
    | some v=>
     have HOE:Hid (o=((zFe zs mk (m-(i+1)) (i+1) dz).map fun x=>(v::x.1,x.2)).map fun x=>(dn++x.1,x.2)):=by show _=_;rw[HSQ.out,hnv];rfl
     rw[hnv]at HBY;clear hnv HSQ;go_wp2_with fail;refine HDG.out.mono ?_;rintro e w2 ⟨rfl,o2,b2⟩;go_wp2_with fail;refine(HBY.out w2).mono ?_;rintro e w3 ⟨rfl,l3⟩;simp only[Option.getD_some,Option.isSome_some];have hN2:=(But.block o2 nb (eS HNQ.out) (fun e=>hne e.symm)).trans HNQ.out;have hN3:=zAb l3 hN2;have B3:=zAd (RB.later b2 l3);have kn:=zAa hN3;have fn:=zAc hN3;have hlen:i<(dn.map (Value.int .u8)++old.drop i).length:=by simp;omega
     have kni:w3.cell? ⟨nb,i,none⟩=some ((dn.map (Value.int .u8)++old.drop i)[i]'hlen):=by rw[kn i,List.getElem?_toArray,List.getElem?_eq_getElem hlen]
     generalize (dn.map (Value.int .u8)++old.drop i)[i]'hlen=cv at*;have hset:=zAh hN3 i (.int .u8 v)
     have HSET:Hid ((w3.setCell ⟨nb,i,none⟩ (.int .u8 v)).heap[nb]? =some (.cells ((dn++[v]).map (Value.int .u8)++old.drop (i+1)).toArray tn (0,0))):=by
      show _=_
      rw[hset,List.setIfInBounds_toArray];congr 3
      have hl2:(dn.map (Value.int .u8)).length=i:=by simpa using hdn
      rw[List.set_append_right _ _ (by omega),hl2,Nat.sub_self,List.drop_eq_getElem_cons (show i<old.length by omega),List.set_cons_zero];simp
     have HRB:Hid (RB (w3.setCell ⟨nb,i,none⟩ (.int .u8 v)) rb (.slice (some ⟨bb,off,none⟩) zs.length cp) (atR r dz)):=by
      show _=_
      exact(Below.heap_setCell _ ⟨nb,i,none⟩ _ rb (by simpa using hne)).trans B3.out
     clear b2 kn hset hN2 hN3;go_wp2_with fail;go_roundw
     case rel=>
      refine⟨i+1,dz,dn++[v],by omega,by simp,by simp[hdn],hdz.2,HRB.out,HSET.out,HO.out.trans (((But.trans HOQ.out (But.trans o2 (But.of l3))).wk1 (fun k hk=> .inl hk)).trans ((But.refl (fun g=>g=rb∨g=nb) _).setCell (p:=⟨nb,i,none⟩) (.inr rfl) _)),?_⟩;rw[HOE.out,Option.map_map];congr 1
      funext x
      simp
     case measure=>simp[intOf];omega
  ·have him':¬(i:Int)<(m:Int):=by omega
   have ei:i=m:=by omega
   have HOE:Hid (o=some (dn,p)):=by show _=_;rw[HOF.out,ei,Nat.sub_self];simp[zFe]
   have HDN:Hid (dn.map (Value.int .u8)++old.drop i=dn.map (Value.int .u8)):=by show _=_;rw[List.drop_eq_nil_of_le (by omega),List.append_nil]
   clear ei;go_wp2_with fail;refine bodyPost_ret (v:= .bool true) (by simp[results,Tryz.results74,go_sem]) rfl ?_;refine⟨HO.out,by rw[HOE.out];rfl,fun x hx=> ?_,p,hp,HBR.out⟩;obtain rfl:(dn,p)=x:=by rw[HOE.out]at hx;exact Option.some.inj hx
   exact⟨HBR.out,hp,by have:=HNR.out;rw[HDN.out]at this;exact this⟩
theorem numV_by {s:ByteArray} {v:Int} (h:zC6 s 255=some v):0≤v∧v≤255:=by
 have:=zFw s 255 (by omega);rw[h]at this;exact this
theorem zGz(zs:List Int)(mk:ByteArray):∀k i p x,zFe zs mk k i p=some x→Mt.By x.1
 |0,i,p,x,h=>by
  have:x=([],p):=by simpa[zFe]using h.symm
  rw[this];exact Mt.By.nil
 |k+1,i,p,x,h=>by
  unfold zFe at h;obtain⟨q,_,h⟩:=Option.bind_eq_some_iff.1 h;obtain⟨v,hv,h⟩:=Option.bind_eq_some_iff.1 h;obtain⟨y,hy,rfl⟩:=Option.map_eq_some_iff.1 h;have ih:=zGz zs mk k (i+1) _ y hy;intro z hz
  rcases List.mem_cons.1 hz with rfl|hz
  ·exact numV_by hv
  ·exact ih z hz
theorem But.dropN {rb n:Nat} {w w':World} (h:But (fun g=>g=rb∨g=n) w w')(hn:w.heap.size≤n):But (fun g=>g=rb) w w':=⟨h.os,h.tape,h.output,h.size,fun i hi he=>h.block i hi (fun e=>by rcases e with e|e;(· exact he e);(· omega))⟩
theorem rd_blk {W:World} {nb:Nat} {tn:TypeId} {l:List Int} (h:W.heap[nb]? =some (.cells (l.map (Value.int .u8)).toArray tn (0,0)))(hne:l≠ [])(hm:l.length≤1000):Rd W.heap.size W (.slice (some ⟨nb,0,none⟩) l.length l.length) l:=by
 refine .inr ⟨nb,0,l.length,rfl,hne,Nat.le_refl _,by omega,(eS h),fun j hj=> ?_⟩;rw[Nat.zero_add,zAa h,List.getElem?_toArray,List.getElem?_map,List.getElem?_eq_getElem hj];rfl
def cma:ByteArray:=⟨#[44]⟩
def stR (r:Rr) (v:Int):Rr:=⟨r.at0,r.kd,v,r.en,r.ad,r.pt⟩
def sixR (r:Rr) (l:List Int) (q:Nat):Rr:=⟨q,r.kd,(r.at0:Int),(q:Int),zAs l 0,wat l 4⟩
def sixO (zs:List Int) (p:Nat):Option (List Int × Nat):=zFe zs cma 6 0 p
def SixQ (zs:List Int) (rb n₀:Nat) (bv:Value) (r:Rr) (w w':World) (e:Ending):Prop:=
 But (fun g=>g=rb) w w'∧((sixO zs r.at0=none∧e= .returned (.bool false))∨∃x,sixO zs r.at0=some x∧e= .returned (.bool (!decide (wat x.1 4=0)))∧x.2≤zs.length∧RB w' rb bv (sixR r x.1 x.2))
theorem zVe(rb:Nat)(bb off cp n₀:Nat)(zs:List Int)(hz:Mt.By zs)(r:Rr)(w:World)(h:RB w rb (.slice (some ⟨bb,off,none⟩) zs.length cp) r)(hI:Rd n₀ w (.slice (some ⟨bb,off,none⟩) zs.length cp) zs)(hl:zs.length≤1000)(ha:r.at0≤zs.length)(hn0:n₀≤w.heap.size)(hrb:n₀≤rb):
  Calls Tryz.prog 29 #[.pointer (some ⟨rb,0,none⟩)] w fun e w'=>SixQ zs rb n₀ (.slice (some ⟨bb,off,none⟩) zs.length cp) r w w' e:=by
 have hrs:rb<w.heap.size:=(eS h);have la:Later w (w.alloc (.cells #[.int .u8 0,.int .u8 0,.int .u8 0,.int .u8 0,.int .u8 0,.int .u8 0] 165)):=bA _ _;have hN:=heap_alloc_new w (.cells #[.int .u8 0,.int .u8 0,.int .u8 0,.int .u8 0,.int .u8 0,.int .u8 0] 165);have hb1:=RB.later h la;have hsz:(w.alloc (.cells #[.int .u8 0,.int .u8 0,.int .u8 0,.int .u8 0,.int .u8 0,.int .u8 0] 165)).heap.size=w.heap.size+1:=by simp
 have HI:=zAd hI;go_enter Tryz.func29,Tryz.ntmps29;go_upto_region 2 with fail;generalize w.alloc _=w1 at*;have kv:=zAa hb1;have fv:=zAc hb1;unfold rrc at kv;have hst:RB (w1.setCell ⟨rb,3,none⟩ (.int .i64 (r.at0:Int))) rb (.slice (some ⟨bb,off,none⟩) zs.length cp) (stR r (r.at0:Int)):=zAh hb1 3 (.int .i64 (r.at0:Int));have hst2:(w1.setCell ⟨rb,3,none⟩ (.int .i64 (r.at0:Int))).heap[w.heap.size]? =some (.cells #[.int .u8 0,.int .u8 0,.int .u8 0,.int .u8 0,.int .u8 0,.int .u8 0] 165 (0,0)):=(Below.heap_setCell _ ⟨rb,3,none⟩ _ w.heap.size (by simp;omega)).trans hN;have hst3:But (fun g=>g=rb) w1 (w1.setCell ⟨rb,3,none⟩ (.int .i64 (r.at0:Int))):=(But.refl (fun g=>g=rb) _).setCell (p:=⟨rb,3,none⟩) rfl _;go_upto_region 3 with fail;generalize hV:w1.setCell ⟨rb,3,none⟩ _=w2 at*;clear hV kv fv;have h2s:w1.heap.size≤w2.heap.size:=But.size hst3;have HRW:=zAd (zVd rb w.heap.size 165 bb off cp n₀ 6 zs hz cma [.int .u8 0,.int .u8 0,.int .u8 0,.int .u8 0,.int .u8 0,.int .u8 0] (stR r (r.at0:Int)) w2 hst hst2 (by simp) (HI.out.below ((Below.mono la (by omega)).trans (But.below hst3 (by omega) (fun k hk e=>by omega)))) hl (by omega) (by decide) ha (by omega) hrb hn0 (by omega));unfold cma at HRW;go_wp2_with fail;refine HRW.out.mono ?_;rintro e w3 ⟨o3,rfl,ho,_⟩;have eo:zFe zs ⟨#[44]⟩ 6 0 (stR r (r.at0:Int)).at0=sixO zs r.at0:=rfl;rw[eo]at ho⊢;have HSO:Hid (∃o,sixO zs r.at0=o):=⟨_,rfl⟩;obtain⟨o,hoo⟩:=HSO.out;rw[hoo]at ho⊢;have HOO:=zAd hoo
 have O3:But (fun g=>g=rb) w w3:=But.dropN ((But.of la).trans ((hst3.wk1 (fun k hk=> .inl hk)).trans o3)) (Nat.le_refl _);have h3s:w.heap.size<w3.heap.size:=by have:=But.size o3;omega
 clear eo HSO hoo HRW hst hst2 hN hb1 h hI;cases o with
 |none=>
  simp only[Option.isSome_none];go_wp2_with fail;go_ret
  exact⟨O3,.inl ⟨HOO.out,rfl⟩⟩
 | some x=>
  obtain⟨b3,hx2,hn3⟩:=ho x rfl;have hxl:x.1.length=6:=zEs _ _ _ _ _ x HOO.out;have hxb:Mt.By x.1:=zGz _ _ _ _ _ x HOO.out;simp only[Option.isSome_some];have kv:=zAa b3;have fv:=zAc b3;simp only[rrc,atR,stR]at kv;have hst:RB (w3.setCell ⟨rb,4,none⟩ (.int .i64 (x.2:Int))) rb (.slice (some ⟨bb,off,none⟩) zs.length cp) ⟨x.2,r.kd,(r.at0:Int),(x.2:Int),r.ad,r.pt⟩:=zAh b3 4 (.int .i64 (x.2:Int));have hst2:(w3.setCell ⟨rb,4,none⟩ (.int .i64 (x.2:Int))).heap[w.heap.size]? =some (.cells (x.1.map (Value.int .u8)).toArray 165 (0,0)):=(Below.heap_setCell _ ⟨rb,4,none⟩ _ w.heap.size (by simp;omega)).trans hn3;have O4:But (fun g=>g=rb) w (w3.setCell ⟨rb,4,none⟩ (.int .i64 (x.2:Int))):=O3.setCell (p:=⟨rb,4,none⟩) rfl _;go_upto_region 6 with fail;generalize hV:w3.setCell ⟨rb,4,none⟩ _=w4 at*;clear hV kv fv ho;have HE4:=zAd hst;have HN4:=zAd hst2;clear hst hst2 b3 hn3;have hnlt:w.heap.size<w4.heap.size:=(eS HN4.out);refine zAl (R:=But (fun g=>g=rb)) 14 rfl (by kernel_rfl) ?_;have ld:Later w4 w4.drew:=Later.drew w4;have hE:=RB.later HE4.out ld;have hNd:=zAb ld HN4.out;have OD:But (fun g=>g=rb) w w4.drew:=O4.trans (But.of ld);generalize w4.drew=Wd at*;refine tX (But.pre _) 0 ?_;refine tX (But.pre _) 1 ?_;refine tX (But.pre _) 2 ?_;refine tX (But.pre _) 4 ?_
  have hR:∀W,Later Wd W→Rd W.heap.size W (.slice (some ⟨w.heap.size,0,none⟩) 6 6) x.1:=fun W h=>by
   have:=rd_blk (zAb h hNd) (by intro e;rw[e]at hxl;cases hxl) (by omega);rw[hxl]at this;exact this
  have HR:=zAd hR;clear hR;refine tO 3 ?_;refine zAj 70 #[.slice (some ⟨w.heap.size,0,none⟩) 6 6,.int .i64 0] (by go_simp) ?_;refine(zCh _ x.1 hxb 0 (by omega) Wd (HR.out Wd (Later.refl _))).mono ?_;rintro e V1 ⟨rfl,n1,hn1⟩;have l1:Later Wd V1:=by rw[hn1];exact zAk (Later.refl _) _
  clear hn1;refine⟨But.of l1,?_⟩;simp only[Act.put,sA,sB,sC];refine tO 5 ?_;refine zAj 39 #[.slice (some ⟨w.heap.size,0,none⟩) 6 6,.int .i64 4] (by go_simp) ?_;refine(zA4 _ x.1 hxb 4 (by omega) V1 (HR.out V1 l1)).mono ?_;rintro e V2 ⟨rfl,n2,hn2⟩;have l2:Later V1 V2:=by rw[hn2];exact zAk (Later.refl _) _
  clear hn2;refine⟨But.of l2,?_⟩;simp only[Act.put,sA,sB,sC];have b2:=RB.later hE (l1.trans l2);have O2:But (fun g=>g=rb) w V2:=OD.trans (But.of (l1.trans l2));generalize hw4:zAs x.1 0=a4 at*;generalize hw2:wat x.1 4=p2 at*;have HW4:=zAd hw4;have HW2:=zAd hw2;clear hw4 hw2;refine tX (But.pre _) 6 ?_;refine tX (But.pre _) 7 ?_;refine tX (But.pre _) 8 ?_;have kv:=zAa b2;have fv:=zAc b2;simp only[rrc]at kv;have hs1:RB (V2.setCell ⟨rb,5,none⟩ (.int .u32 a4)) rb (.slice (some ⟨bb,off,none⟩) zs.length cp) ⟨x.2,r.kd,(r.at0:Int),(x.2:Int),a4,r.pt⟩:=zAh b2 5 (.int .u32 a4);have OA:But (fun g=>g=rb) V2 (V2.setCell ⟨rb,5,none⟩ (.int .u32 a4)):=(But.refl (fun g=>g=rb) _).setCell (p:=⟨rb,5,none⟩) rfl _;have HOA:=zAd OA;clear OA;refine tO 9 ?_;unfold Oper.wp;go_simp;generalize hV3:V2.setCell ⟨rb,5,none⟩ _=V3 at*;refine⟨HOA.out,?_⟩;clear hV3 kv fv b2;refine tX (But.pre _) 10 ?_;refine tX (But.pre _) 11 ?_;refine tX (But.pre _) 12 ?_;have kv:=zAa hs1;have fv:=zAc hs1;simp only[rrc]at kv;have hs2:RB (V3.setCell ⟨rb,6,none⟩ (.int .u16 p2)) rb (.slice (some ⟨bb,off,none⟩) zs.length cp) ⟨x.2,r.kd,(r.at0:Int),(x.2:Int),a4,p2⟩:=zAh hs1 6 (.int .u16 p2);have OB:But (fun g=>g=rb) V3 (V3.setCell ⟨rb,6,none⟩ (.int .u16 p2)):=(But.refl (fun g=>g=rb) _).setCell (p:=⟨rb,6,none⟩) rfl _;have HOB:=zAd OB;clear OB;refine tO 13 ?_;unfold Oper.wp;go_simp;generalize hV4:V3.setCell ⟨rb,6,none⟩ _=V4 at*;refine⟨HOB.out,zKf (by kernel_rfl) ?_⟩
  clear hV4 kv fv hs1;have kv:=zAa hs2;simp only[rrc]at kv;have HF:=zAd hs2;clear hs2;have OF:=O2.trans (HOA.out.trans HOB.out);by_cases hp0:p2=0
  case' pos=>
   have hpb:(p2 !=0)=false:=by simp[hp0]
   have HPB:Hid (decide (p2=0)=true):=decide_eq_true hp0
  case' neg=>
   have hpb:(p2 !=0)=true:=by simp[hp0]
   have HPB:Hid (decide (p2=0)=false):=decide_eq_false hp0
  all_goals
   clear hp0;go_wp2_with fail;go_ret
   refine⟨OF,.inr ⟨x,HOO.out,by rw[HW2.out,HPB.out];first|rfl|simp,hx2,?_⟩⟩;have:=HF.out;unfold sixR;rw[HW4.out,HW2.out];exact this
def zEt:ByteArray:=⟨#[80,79,82,84,32]⟩
def zG0:ByteArray:=⟨#[69,80,82,84,32]⟩
def zIk:ByteArray:=⟨#[50,50,55,32]⟩
def zP1:ByteArray:=⟨#[50,50,57,32]⟩
def kdV (zs:List Int) (p:Nat) (back:Bool):Int × Nat:=if back=false then(if tkB zs p zEt=true then(1,p+5)else if tkB zs p zG0=true then(2,p+5)else(0,p))else(if tkB zs p zIk=true then(3,p+4)else if tkB zs p zP1=true then(4,p+4)else(0,p))
theorem zEu(rb:Nat)(bb off cp n₀:Nat)(zs:List Int)(back:Bool)(r:Rr)(w:World)(h:RB w rb (.slice (some ⟨bb,off,none⟩) zs.length cp) r)(hI:Rd n₀ w (.slice (some ⟨bb,off,none⟩) zs.length cp) zs)(hl:zs.length≤1000)(ha:r.at0≤zs.length)(hn0:n₀≤w.heap.size)(hrb:n₀≤rb):
  Calls Tryz.prog 28 #[.pointer (some ⟨rb,0,none⟩),.bool back] w fun e w'=>e= .returned (.int .i64 (kdV zs r.at0 back).1)∧OnlyB rb w w'∧RB w' rb (.slice (some ⟨bb,off,none⟩) zs.length cp) (atR r (kdV zs r.at0 back).2):=by
 have HTK:=zAd (fun t (ht:0<t.size∧t.size≤1000) W (o:But (fun g=>g=rb) w W) (b:RB W rb (.slice (some ⟨bb,off,none⟩) zs.length cp) r)=>zCn rb bb off cp n₀ zs t r W b (hI.below (But.below o hn0 (fun k hk e=>by omega))) hl ht ha (Nat.le_trans hn0 o.size));have HB:=zAd h;clear h hI;have e5:zEt.size=5:=rfl;have e6:zG0.size=5:=rfl;have e7:zIk.size=4:=rfl;have e8:zP1.size=4:=rfl;cases back with
 | false=>
  have H1:=zAd (HTK.out zEt (by decide) w (But.refl _ _) HB.out);have H2:=zAd (fun W o b=>HTK.out zG0 (by decide) W o b);have HKV:Hid (kdV zs r.at0 false=if tkB zs r.at0 zEt=true then(1,r.at0+5)else if tkB zs r.at0 zG0=true then(2,r.at0+5)else(0,r.at0)):=rfl;rw[e5]at H1;rw[e6]at H2;clear HTK e5 e6 e7 e8;generalize kdV zs r.at0 false=kv at*;cases h1:tkB zs r.at0 zEt with
  |true=>
   have hkv:=HKV.out;rw[h1,if_pos rfl]at hkv;subst hkv;rw[h1,if_pos rfl]at H1;clear h1 H2;unfold zEt at H1;go_enter Tryz.func28,Tryz.ntmps28;go_wp2_with fail;refine H1.out.mono ?_;rintro e w1 ⟨rfl,o1,b1⟩;have B1:=zAd b1;clear b1;go_wp2_with fail;go_ret
   exact⟨rfl,o1,B1.out⟩
  | false=>
   rw[h1,if_neg (by simp)]at H1;cases h2:tkB zs r.at0 zG0 with
   |true=>
    have hkv:=HKV.out;rw[h1,if_neg (by simp),h2,if_pos rfl]at hkv;subst hkv;rw[h2,if_pos rfl]at H2;clear h1 h2;unfold zEt at H1;unfold zG0 at H2;go_enter Tryz.func28,Tryz.ntmps28;go_wp2_with fail;refine H1.out.mono ?_;rintro e w1 ⟨rfl,o1,b1⟩;have B1:=zAd b1;clear b1;go_wp2_with fail;refine(H2.out w1 o1 B1.out).mono ?_;rintro e w2 ⟨rfl,o2,b2⟩;have B2:=zAd b2;clear b2;go_wp2_with fail;go_ret
    exact⟨rfl,But.trans o1 o2,B2.out⟩
   |false=>
    have hkv:=HKV.out;rw[h1,if_neg (by simp),h2,if_neg (by simp)]at hkv;subst hkv;rw[h2,if_neg (by simp)]at H2;clear h1 h2;unfold zEt at H1;unfold zG0 at H2;go_enter Tryz.func28,Tryz.ntmps28;go_wp2_with fail;refine H1.out.mono ?_;rintro e w1 ⟨rfl,o1,b1⟩;have B1:=zAd b1;clear b1;go_wp2_with fail;refine(H2.out w1 o1 B1.out).mono ?_;rintro e w2 ⟨rfl,o2,b2⟩;have B2:=zAd b2;clear b2;go_wp2_with fail;go_ret
    exact⟨rfl,But.trans o1 o2,B2.out⟩
 | true=>
  have H1:=zAd (HTK.out zIk (by decide) w (But.refl _ _) HB.out);have H2:=zAd (fun W o b=>HTK.out zP1 (by decide) W o b);have HKV:Hid (kdV zs r.at0 true=if tkB zs r.at0 zIk=true then(3,r.at0+4)else if tkB zs r.at0 zP1=true then(4,r.at0+4)else(0,r.at0)):=rfl;rw[e7]at H1;rw[e8]at H2;clear HTK e5 e6 e7 e8;generalize kdV zs r.at0 true=kv at*;cases h1:tkB zs r.at0 zIk with
  |true=>
   have hkv:=HKV.out;rw[h1,if_pos rfl]at hkv;subst hkv;rw[h1,if_pos rfl]at H1;clear h1 H2;unfold zIk at H1;go_enter Tryz.func28,Tryz.ntmps28;go_wp2_with fail;refine H1.out.mono ?_;rintro e w1 ⟨rfl,o1,b1⟩;have B1:=zAd b1;clear b1;go_wp2_with fail;go_ret
   exact⟨rfl,o1,B1.out⟩
  | false=>
   rw[h1,if_neg (by simp)]at H1;cases h2:tkB zs r.at0 zP1 with
   |true=>
    have hkv:=HKV.out;rw[h1,if_neg (by simp),h2,if_pos rfl]at hkv;subst hkv;rw[h2,if_pos rfl]at H2;clear h1 h2;unfold zIk at H1;unfold zP1 at H2;go_enter Tryz.func28,Tryz.ntmps28;go_wp2_with fail;refine H1.out.mono ?_;rintro e w1 ⟨rfl,o1,b1⟩;have B1:=zAd b1;clear b1;go_wp2_with fail;refine(H2.out w1 o1 B1.out).mono ?_;rintro e w2 ⟨rfl,o2,b2⟩;have B2:=zAd b2;clear b2;go_wp2_with fail;go_ret
    exact⟨rfl,But.trans o1 o2,B2.out⟩
   |false=>
    have hkv:=HKV.out;rw[h1,if_neg (by simp),h2,if_neg (by simp)]at hkv;subst hkv;rw[h2,if_neg (by simp)]at H2;clear h1 h2;unfold zIk at H1;unfold zP1 at H2;go_enter Tryz.func28,Tryz.ntmps28;go_wp2_with fail;refine H1.out.mono ?_;rintro e w1 ⟨rfl,o1,b1⟩;have B1:=zAd b1;clear b1;go_wp2_with fail;refine(H2.out w1 o1 B1.out).mono ?_;rintro e w2 ⟨rfl,o2,b2⟩;have B2:=zAd b2;clear b2;go_wp2_with fail;go_ret
    exact⟨rfl,But.trans o1 o2,B2.out⟩
def zLy:ByteArray:=⟨#[124,49,124]⟩
def zDy:ByteArray:=⟨#[124]⟩
def zG1:ByteArray:=⟨#[46]⟩
def zJ4 (zs ys:List Int):Bool:=decide (ys.length≤zs.length) && decide (zs.drop (zs.length-ys.length)=ys)
theorem zJm(bb off cp n₀:Nat)(zs ys:List Int)(yb:Nat)(w:World)(hz:Mt.By zs)(hy:Mt.By ys)(hI:Rd n₀ w (.slice (some ⟨bb,off,none⟩) zs.length cp) zs)(hY:Rd w.heap.size w (.slice (some ⟨yb,0,none⟩) ys.length ys.length) ys)(hyp:0<ys.length):
  Calls Tryz.prog 134 #[.slice (some ⟨bb,off,none⟩) zs.length cp,.slice (some ⟨yb,0,none⟩) ys.length ys.length] w fun e w'=>e= .returned (.bool (zJ4 zs ys))∧w'=w:=by
 obtain⟨_,_,e,hc1,hc2⟩:=hI.slice
 simp at e
 obtain⟨e0,rfl⟩:=e;clear e0;by_cases hle:ys.length≤zs.length
 ·have h1:(ys.length:Int)≤(zs.length:Int):=by omega
  obtain⟨d,hd⟩:∃d,d=zs.length-ys.length:=⟨_,rfl⟩;have e1:(zs.length:Int)-(ys.length:Int)=(d:Int):=by omega
  have hR:=Rd.mid d ys.length hI (by omega) hyp;have e2:(zs.drop d).take ys.length=zs.drop d:=List.take_of_length_le (by simp;omega);rw[e2]at hR;have e3:zs.length-d=ys.length:=by omega
  have hR':Rd n₀ w (.slice (some ⟨bb,off+d,none⟩) (zs.length-d) (cp-d)) (zs.drop d):=by rw[e3];exact hR
  have HEQ:=zAd (zF8 _ _ (zs.drop d) ys w (fun z hzz=>hz z (List.mem_of_mem_drop hzz)) hy hR' hY);have HV:Hid (zJ4 zs ys=decide (zs.drop d=ys)):=by show _=_;unfold zJ4;rw[hd];simp[hle]
  have g1:(d:Int)≤(zs.length:Int):=by omega
  have g2:¬cp=d:=by omega
  have g3:(zs.length:Int)≤(cp:Int):=by omega
  have g4:(zs.length:Int)≤9223372036854775807:=by omega
  have HE1:=zAd e1;generalize zJ4 zs ys=z at*;generalize decide (zs.drop d=ys)=zz at*;clear hR hR' e2 e3 hI hY hd;go_enter Tryz.func134,Tryz.ntmps134;go_wp2_with fail;refine HEQ.out.mono ?_;rintro e w1 ⟨rfl,rfl⟩;go_wp2_with fail;go_ret
  exact⟨by rw[HV.out];rfl,rfl⟩
 ·have h1:¬(ys.length:Int)≤(zs.length:Int):=by omega
  have HV:Hid (zJ4 zs ys=false):=by show _=_;unfold zJ4;simp[hle]
  generalize zJ4 zs ys=z at*;clear hI hY;go_enter Tryz.func134,Tryz.ntmps134;go_wp2_with fail;go_ret
  exact⟨by rw[HV.out];rfl,rfl⟩
theorem zJn(bb off cp n₀:Nat)(zs ys:List Int)(yb:Nat)(w:World)(hz:Mt.By zs)(hy:Mt.By ys)(hI:Rd n₀ w (.slice (some ⟨bb,off,none⟩) zs.length cp) zs)(hY:Rd w.heap.size w (.slice (some ⟨yb,0,none⟩) ys.length ys.length) ys)(hyp:0<ys.length):
  Calls Tryz.prog 72 #[.slice (some ⟨bb,off,none⟩) zs.length cp,.slice (some ⟨yb,0,none⟩) ys.length ys.length] w fun e w'=>e= .returned (.tuple #[.slice (some ⟨bb,off,none⟩) (if zJ4 zs ys=true then zs.length-ys.length else zs.length) cp,.bool (zJ4 zs ys)])∧w'=w:=by
 obtain⟨_,_,e,hc1,hc2⟩:=hI.slice
 simp at e
 obtain⟨e0,rfl⟩:=e;clear e0;have HHS:=zAd (zJm bb off cp n₀ zs ys yb w hz hy hI hY hyp);cases he:zJ4 zs ys with
 |true=>
  have hle:ys.length≤zs.length:=by unfold zJ4 at he;simp at he;exact he.1
  obtain⟨d,hd⟩:∃d,d=zs.length-ys.length:=⟨_,rfl⟩;have e1:(zs.length:Int)-(ys.length:Int)=(d:Int):=by omega
  have g1:(d:Int)≤(cp:Int):=by omega
  have g2:d≤cp:=by omega
  have g4:(zs.length:Int)≤9223372036854775807:=by omega
  rw[he]at HHS;rw[if_pos rfl,←hd];clear hI hY he hd hle;go_enter Tryz.func72,Tryz.ntmps72;go_wp2_with fail;refine HHS.out.mono ?_;rintro e w1 ⟨rfl,rfl⟩;go_wp2_with fail;exact bodyPost_ret (v:= .tuple #[.slice (some ⟨bb,off,none⟩) d cp,.bool true]) (by simp[results,Tryz.results72,go_sem]) rfl ⟨rfl,rfl⟩
 |false=>
  rw[he]at HHS;rw[if_neg (by simp)];clear hI hY he;go_enter Tryz.func72,Tryz.ntmps72;go_wp2_with fail;refine HHS.out.mono ?_;rintro e w1 ⟨rfl,rfl⟩;go_wp2_with fail;exact bodyPost_ret (v:= .tuple #[.slice (some ⟨bb,off,none⟩) zs.length cp,.bool false]) (by simp[results,Tryz.results72,go_sem]) rfl ⟨rfl,rfl⟩
end Go.Proofs.YteaeilghamjjkaaGreatDoor
