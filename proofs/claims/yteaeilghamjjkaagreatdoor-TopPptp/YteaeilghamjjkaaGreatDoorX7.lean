import Derived.Test.YteaeilghamjjkaaGreatDoorX8
namespace Go.Proofs.YteaeilghamjjkaaGreatDoor
set_option maxHeartbeats 4000000
open Go.RowKit Go.Shelf
set_option maxRecDepth 100000
set_option linter.unusedVariables false
set_option linter.unusedSimpArgs false
def InL (l:List Int) (n:Nat) (cur:Array Value):Prop:=∀i,i<n→∃x∈l,cur[i]? =some (.int .i64 x)
theorem InL.set {l:List Int} {n:Nat} {cur:Array Value} (h:InL l n cur)(j:Nat)(x:Int)(hx:x∈l):InL l n (cur.setIfInBounds j (.int .i64 x)):=fun i hi=>by
 by_cases e:i=j
 ·subst e
  obtain⟨y,_,hy⟩:=h i hi;have hlt:=(eS hy);exact⟨x,hx,by simp[hlt]⟩
 ·obtain ⟨y,hy,he⟩:=h i hi
  exact⟨y,hy,by rw[Array.getElem?_setIfInBounds_ne (fun q=>e q.symm)];exact he⟩
def InP (l:List Int) (n:Nat) (cur:Array Value):Prop:=n≤cur.size∧(cur.toList.take n).Perm (l.map (Value.int .i64))
theorem InP.at {l:List Int} {n:Nat} {cur:Array Value} (h:InP l n cur) {i:Nat} (hi:i<n):∃x∈l,cur[i]? =some (.int .i64 x):=by
 have hlt:i<cur.size:=Nat.lt_of_lt_of_le hi h.1
 have h1:cur.toList[i]'(by simpa using hlt)∈cur.toList.take n:=by
  rw[List.mem_take_iff_getElem];exact⟨i,by simp;omega,rfl⟩
 obtain⟨x,hx,e⟩:=List.mem_map.1 (h.2.mem_iff.1 h1);refine⟨x,hx,?_⟩;rw[e,Array.getElem?_eq_getElem hlt];simp
theorem InP.swap {l:List Int} {n:Nat} {cur:Array Value} (h:InP l n cur) {p q:Nat} (hp:p<n)(hq:q<n)(hpq:p≠q) {x y:Int} (hx:cur[q]? =some (.int .i64 x))(hy:cur[p]? =some (.int .i64 y)):InP l n ((cur.setIfInBounds q (.int .i64 y)).setIfInBounds p (.int .i64 x)):=by
 refine⟨by simpa using h.1,List.Perm.trans ?_ h.2⟩;rw[Array.toList_setIfInBounds,Array.toList_setIfInBounds,List.take_set,List.take_set];have hl:(cur.toList.take n).length=n:=by rw[List.length_take];have:=h.1;simp;omega
 have ex:(cur.toList.take n)[q]'(by omega)= .int .i64 x:=by
  have:=hx;rw[←Array.getElem?_toList]at this;rw[List.getElem_take];exact(List.getElem_eq_iff _).2 this
 have ey:(cur.toList.take n)[p]'(by omega)= .int .i64 y:=by
  have:=hy;rw[←Array.getElem?_toList]at this;rw[List.getElem_take];exact(List.getElem_eq_iff _).2 this
 rw[←ex,←ey];exact List.set_set_perm (by omega) (by omega)
def BkP (l:List Int) (n g:Nat) (z:Nat) (W:World):Prop:=∃cur,W.heap[g]? =some (.cells cur 3 (0,0))∧cur.size=z∧InP l n cur
theorem insertP(l:List Int)(n g cap z:Nat)(w:World)(hn1:1≤n)(hn:n≤12)(hcap:n≤cap∧cap≤9223372036854775807)(hzn:n≤z)(hh:BkP l n g z w):
  Calls Tryz.prog 256 #[.slice (some ⟨g,0,none⟩) n cap,.int .i64 0,.int .i64 (n:Int)] w fun e w'=>(∃v,e= .returned v)∧BkP l n g z w'∧But (fun b=>b=g) w w':=by
 go_enter Tryz.func256,Tryz.ntmps256;go_wp2_with fail;go_loopw [6] (fun i wr=>∃k:Nat,1≤k∧k≤n∧i= .int .i64 (k:Int)∧BkP l n g z wr∧But (fun b=>b=g) w wr) (fun i _=>n-(intOf i).toNat)
 case atStart=>exact⟨1,by omega,by omega,rfl,hh,But.refl _ _⟩
 case round=>
  obtain⟨k,hk1,hk,rfl,hcr,hbt⟩:=hrel;rename World=>w1
  by_cases hlt:k<n
  ·have hlt':(k:Int)<n:=by omega
   go_wp2_with fail;go_loopw [7] (fun j wr=>∃q:Nat,q≤k∧j= .int .i64 (q:Int)∧BkP l n g z wr∧But (fun b=>b=g) w wr) (fun j _=>(intOf j).toNat)
   case atStart=>exact⟨k,by omega,rfl,hcr,hbt⟩
   case round=>
    obtain⟨q,hqk,rfl,hci,hbi⟩:=hrel;rename World=>w2
    by_cases hq0:q=0
    ·subst hq0
     go_upto_region 4 with fail;go_quiet (fail)
     have ld:Later w2 (w2.drewN nq):=zAm (Below.refl _ _) nq
     have HREL:Hid (∃k':Nat,1≤k'∧k'≤n∧(Value.int .i64 ((k:Int)+1))= .int .i64 (k':Int)∧BkP l n g z (w2.drewN nq)∧But (fun b=>b=g) w (w2.drewN nq)):=
      ⟨k+1,by omega,by omega,by simp,(by obtain⟨cur,h1,h2,h3⟩:=hci;exact⟨cur,zAb ld h1,h2,h3⟩),hbi.trans (But.of ld)⟩
     clear hci hbi hcr hbt;go_wp2_with fail;go_roundw
     case rel=>exact HREL.out
     case measure=>simp[intOf];omega
    ·obtain ⟨p,hpq⟩:∃p,q=p+1:=⟨q-1,by omega⟩
     obtain⟨cur,hb,hsz,hin⟩:=hci;obtain⟨x,hx,hxv⟩:=hin.at (i:=q) (by omega);obtain⟨y,hy,hyv⟩:=hin.at (i:=p) (by omega);have g0:(0:Int)<(q:Int):=by omega
     have g00:0<q:=by omega
     have e9:(q:Int)-1=(p:Int):=by omega
     have q1:(p:Int)<n:=by omega
     have q2:(q:Int)<n:=by omega
     have hpk:p≤k:=by omega
     have HPQ:=zAc hpq;have hpn:p<n:=by omega
     have hqn:q<n:=by omega
     have HPN:=zAc (show p≠q by omega)
     have HWR:Hid (IntKind.i64.wrap (p:Int)=(p:Int)):=by
      have:(p:Int)<12:=by omega
      show _=_
      simp[IntKind.wrap,IntKind.bits,IntKind.signed]
      omega
     clear hpq;have HB:=zAc hb;have HIN:=zAc hin;have HXV:=zAc hxv;have HYV:=zAc hyv;have HSZ:=zAc hsz;have HBI:=zAc hbi;clear hcr hbt hb hin hxv hyv hsz hbi;go_upto_region 4 with fail;refine zAk (R:=Later) 15 rfl (by kernel_rfl) ?_;have ld:Later w2 w2.drew:=Later.drew w2;generalize w2.drew=Wd at*;have HBd:=zAc (zAb ld HB.out);have x0:∀v1,Later Wd v1→v1.cell? ⟨g,q,none⟩=some (.int .i64 x):=fun v1 h=>(zAa (zAb h HBd.out) q).trans HXV.out;have y0:∀v1,Later Wd v1→v1.cell? ⟨g,p,none⟩=some (.int .i64 y):=fun v1 h=>(zAa (zAb h HBd.out) p).trans HYV.out;refine tX Later.pre 0 ?_;refine tX Later.pre 1 ?_;refine anyT_val Later.pre 2 rfl (by kernel_rfl) (by kernel_rfl) (by kernel_rfl) (fun _ _ _ _ h=>h) rfl ?_;refine⟨.bool true,fun v1 hv1=> ?_,?_⟩
     ·go_simp
      try simp[g00,g0]
     simp only[Act.put,sA,sB,sC];refine tX Later.pre 3 ?_;refine gX Later.pre 4 ?_;refine gX Later.pre 5 ?_;refine gX Later.pre 6 ?_;refine gX Later.pre 7 ?_;refine gX Later.pre 8 ?_;refine gX Later.pre 9 ?_;refine zIj Later.pre 10 rfl (by kernel_rfl) (by kernel_rfl) (by kernel_rfl) (fun _ _ _ _ h=>h) (by rfl) ?_;refine⟨.int .i64 (p:Int),fun v1 hv1=> ?_,?_⟩
     ·go_simp
      rw[HWR.out]
     simp only[Act.put,sA,sB,sC];refine gX Later.pre 11 ?_;refine gX Later.pre 12 ?_;clear x0 y0;refine zPv 13 rfl (by kernel_rfl) (by rfl) ?_;refine zAi 262 #[.int .i64 x,.int .i64 y] (by go_simp) ?_;refine(lessI x y Wd).mono ?_;rintro e W1 ⟨⟨b,rfl⟩,hW1⟩;subst hW1;refine⟨Later.refl _,?_⟩;simp only[Act.put,sA,sB,sC];refine tX Later.pre 14 ?_;refine tD ?_;cases b with
     | false=>
      have HREL:Hid (∃k':Nat,1≤k'∧k'≤n∧(Value.int .i64 ((k:Int)+1))= .int .i64 (k':Int)∧BkP l n g z W1∧But (fun b=>b=g) w W1):=
       ⟨k+1,by omega,by omega,by simp,⟨cur,HBd.out,HSZ.out,HIN.out⟩,HBI.out.trans (But.of ld)⟩
      go_wp2_with fail;go_roundw
      case rel=>exact HREL.out
      case measure=>simp[intOf];omega
     | true=>
      go_upto_region 6 with fail;refine zA6 (R1:=Later) (R2:=But (fun b=>b=g)) (D:=[15,17]) 18 rfl (by kernel_rfl) ?_;have ld2:Later W1 W1.drew:=Later.drew W1;generalize W1.drew=We at*;have HE:=zAc (zAb ld2 HBd.out);have HBe:=zAc (HBI.out.trans (But.of (ld.trans ld2)));have x0:∀v1,Later We v1→v1.cell? ⟨g,q,none⟩=some (.int .i64 x):=fun v1 h=>(zAa (zAb h HE.out) q).trans HXV.out;have y0:∀v1,Later We v1→v1.cell? ⟨g,p,none⟩=some (.int .i64 y):=fun v1 h=>(zAa (zAb h HE.out) p).trans HYV.out;clear ld ld2 HBd HB HBI;refine pX Later.refl (But.refl _) 0 ?_;refine pX Later.refl (But.refl _) 1 ?_;refine pX Later.refl (But.refl _) 2 ?_;refine pX Later.refl (But.refl _) 3 ?_;refine zFe Later.refl (But.refl _) 4 rfl (by kernel_rfl) (by kernel_rfl) (by kernel_rfl) (fun _ _ _ _ h=>h) (by rfl) ?_;refine⟨.int .i64 (p:Int),fun v1=> ?_,?_⟩;(· (go_simp;rw[HWR.out]));simp only[Act.put,sA,sB,sC];refine pX Later.refl (But.refl _) 5 ?_;refine pX Later.refl (But.refl _) 6 ?_;refine zFe Later.refl (But.refl _) 7 rfl (by kernel_rfl) (by kernel_rfl) (by kernel_rfl) (fun _ _ _ _ h=>h) (by rfl) ?_;refine⟨.int .i64 (p:Int),fun v1=> ?_,?_⟩;(· (go_simp;rw[HWR.out]));simp only[Act.put,sA,sB,sC];refine pX Later.refl (But.refl _) 8 ?_;refine uX Later.pre 9 [15,17] ?_;refine pX Later.refl (But.refl _) 10 ?_;refine pX Later.refl (But.refl _) 11 ?_;refine pX Later.refl (But.refl _) 12 ?_;refine uX Later.pre 13 [15,17] ?_;refine pX Later.refl (But.refl _) 14 ?_;have c0:=x0 We (Later.refl We);clear x0 y0;have f0:=zAd HE.out;have HS1:=zAc (zAh HE.out q (.int .i64 y))
      have HM1:=zAc ((But.refl (fun b=>b=g) We).setCell (p:=⟨g,q,none⟩) (show _=_ from rfl) (.int .i64 y));refine uO 15 ?_;unfold Oper.wp;go_simp;refine⟨zEf (by rfl) HM1.out,?_⟩;clear c0 f0;generalize We.setCell ⟨g,q,none⟩ (.int .i64 y)=Wf at*;have HZ1:=zAc (show(cur.setIfInBounds q (.int .i64 y)).size=z by rw[Array.size_setIfInBounds];exact HSZ.out)
      have c0:Wf.cell? ⟨g,p,none⟩=some (.int .i64 y):=by
       rw[zAa HS1.out p,Array.getElem?_setIfInBounds_ne (fun e=>HPN.out e.symm)];exact HYV.out
      refine pX Later.refl (But.refl _) 16 ?_;have f0:=zAd HS1.out;have HS2:=zAc (zAh HS1.out p (.int .i64 x));have HM2:=zAc ((But.refl (fun b=>b=g) Wf).setCell (p:=⟨g,p,none⟩) (show _=_ from rfl) (.int .i64 x));refine uO 17 ?_;unfold Oper.wp;go_simp;refine⟨zEf (by rfl) HM2.out,?_⟩;clear c0 f0;generalize Wf.setCell ⟨g,p,none⟩ (.int .i64 x)=Wg at*;refine uD ?_
      have HREL:Hid (∃q':Nat,q'≤k∧(Value.int .i64 (p:Int))= .int .i64 (q':Int)∧BkP l n g z Wg∧But (fun b=>b=g) w Wg):=
       ⟨p,hpk,rfl,⟨_,HS2.out,by rw[Array.size_setIfInBounds];exact HZ1.out,HIN.out.swap hpn hqn HPN.out HXV.out HYV.out⟩,(HBe.out.trans HM1.out).trans HM2.out⟩
      go_wp2_with fail;go_roundw
      case rel=>exact HREL.out
      case measure=>simp[intOf];have:=HPQ.out;omega
  ·obtain rfl:k=n:=by omega
   go_wp2_with fail;go_end0
   exact⟨⟨_,rfl⟩,hcr,hbt⟩
theorem pdqP(l:List Int)(n g cap z:Nat)(lm:Int)(w:World)(hn1:1≤n)(hn:n≤12)(hcap:n≤cap∧cap≤9223372036854775807)(hzn:n≤z)(hh:BkP l n g z w):
  Calls Tryz.prog 192 #[.slice (some ⟨g,0,none⟩) n cap,.int .i64 0,.int .i64 (n:Int),.int .i64 lm] w fun e w'=>(∃v,e= .returned v)∧BkP l n g z w'∧But (fun b=>b=g) w w':=by
 have h1:(n:Int)≤12:=by omega
 go_enter Tryz.func192,Tryz.ntmps192;go_wp2_with fail;go_loopw [1,2] (fun a b wr=>a= .int .i64 0∧b= .int .i64 (n:Int)∧wr=w) (fun _ _ _=>0)
 case atStart=>exact⟨rfl,rfl,rfl⟩
 case round=>
  obtain⟨rfl,rfl,rfl⟩:=hrel;go_wp2_with fail;refine(insertP l n g cap z wr hn1 hn hcap hzn hh).mono ?_;rintro e w1 ⟨⟨v,rfl⟩,hc,hb⟩;go_wp2_with fail;refine bodyPost_ret (results_none rfl _ _ _) rfl ?_;exact⟨⟨_,rfl⟩,hc,hb⟩
theorem sortP(l:List Int)(n g cap z:Nat)(w:World)(hn1:1≤n)(hn:n≤12)(hcap:n≤cap∧cap≤9223372036854775807)(hzn:n≤z)(hh:BkP l n g z w):
  Calls Tryz.prog 142 #[.slice (some ⟨g,0,none⟩) n cap] w fun e w'=>(∃v,e= .returned v)∧BkP l n g z w'∧But (fun b=>b=g) w w':=by
 go_enter Tryz.func142,Tryz.ntmps142;go_wp2_with fail;refine(zKn n w hn).mono ?_;rintro e w1 ⟨⟨v,rfl⟩,rfl⟩;go_wp2_with fail;refine(pdqP l n g cap z v w1 hn1 hn hcap hzn hh).mono ?_;rintro e w2 ⟨⟨v2,rfl⟩,hc,hb⟩;go_wp2_with fail;go_end0
 exact⟨⟨_,rfl⟩,hc,hb⟩
theorem sortP0(a:Option Addr)(c:Nat)(w:World):Calls Tryz.prog 142 #[.slice a 0 c] w fun e w'=>(∃v,e= .returned v)∧w'=w:=by
 go_enter Tryz.func142,Tryz.ntmps142;go_wp2_with fail;refine(zKn 0 w (by omega)).mono ?_;rintro e w1 ⟨⟨v,rfl⟩,rfl⟩;go_wp2_with fail;refine(zP9 (.slice a 0 c) v w1).mono ?_;rintro e w2 ⟨⟨v2,rfl⟩,rfl⟩;go_wp2_with fail;go_end0
 exact⟨⟨_,rfl⟩,rfl⟩
def SoP (es:Array MapEntry) (w w':World) (e:Ending):Prop:=∃(a:Option Addr) (c:Nat) (ys:List Int),e= .returned (.slice a ys.length c)∧ys.length≤12∧(ys.map (Value.int .i64)).Perm (es.toList.map (·.key))∧((ys.length=0)∨∃g cur,a=some ⟨g,0,none⟩∧w.heap.size≤g∧w'.heap[g]? =some (.cells cur 3 (0,0))∧cur.toList.take ys.length=ys.map (Value.int .i64))
theorem zQ5 {l:List Value} {xs:List Int} (h:l.Perm (xs.map (Value.int .i64))):∃ys:List Int,l=ys.map (Value.int .i64)∧ys.Perm xs:=by
 have hu:∀zs:List Int,(zs.map (Value.int .i64)).map (fun v=>match v with| .int _ k=>k|_=>0)=zs:=fun zs=>by rw[List.map_map];exact(List.map_congr_left (fun _ _=>rfl)).trans (List.map_id zs)
 refine⟨l.map (fun v=>match v with| .int _ k=>k|_=>0),?_,?_⟩
 ·rw[List.map_map]
  refine((List.map_id l).symm.trans (List.map_congr_left fun v hv=> ?_));obtain⟨x,_,rfl⟩:=List.mem_map.1 (h.mem_iff.1 hv);rfl
 ·have:=h.map (fun v=>match v with| .int _ k=>k|_=>0)
  rw[hu]at this;exact this
theorem sorted_P(B gf cf:Nat)(es:Array MapEntry)(hes:EsI es cf)(hsz:es.size≤12)(w:World)(hB:w.heap[B]? =some (.cells #[.map (some gf)] 86 (0,0)))(hm:w.heap[gf]? =some (.map es cf)):
  Calls Tryz.prog 82 #[.func (.func 143) #[] #[.pointer (some ⟨B,0,none⟩)]] w fun e w'=>SoP es w w' e∧Later w w':=by
 have HA:=zAc (zQ4 B gf cf es hes (by omega) w hB hm);clear hes hB hm;go_enter Tryz.func82,Tryz.ntmps82;go_wp2_with fail;refine HA.out.mono ?_;rintro e w1 ⟨l1,v,xs,rfl,hx,hv⟩;clear HA;by_cases h0:xs.length=0
 ·have hnil:xs=[]:=List.eq_nil_of_length_eq_zero h0
  subst hnil
  obtain⟨a,c,rfl⟩:∃a c,v= .slice a 0 c:=by
   obtain⟨_,⟨rfl,_⟩|⟨b,cap,cur,rfl,_⟩⟩:=hv
   ·exact ⟨_,_,rfl⟩
   ·exact ⟨_,_,rfl⟩
  go_wp2_with fail;refine(sortP0 a c w1).mono ?_;rintro e w2 ⟨⟨v,rfl⟩,rfl⟩;go_wp2_with fail;go_ret
  exact⟨⟨a,c,[],rfl,by simp,hx.2,.inl rfl⟩,l1⟩
 ·obtain ⟨h1,⟨_,e0⟩|⟨g,cap,cur,rfl,hgb,hh,hlc,hmx,hs,hc⟩⟩:=hv
  ·exact absurd e0 h0
  have hmx':cap≤9223372036854775807:=by simpa[maxLen]using hmx
  have hxl:xs.length≤12:=Nat.le_trans hx.1 hsz
  have hzl:xs.length≤cur.size:=by
   have hq:=congrArg List.length hc;simp only[Nat.mul_one,List.length_take,List.length_map,Array.length_toList]at hq;omega
  have hin:InP xs xs.length cur:=⟨hzl,by
   simp only[Nat.mul_one]at hc;rw[hc]⟩
  have HH:=zAc hh;have HX:=zAc hx;have HIN:=zAc hin;clear hh hx hin hc h1 hs hmx;go_wp2_with fail;refine(sortP xs xs.length g cap cur.size w1 (by omega) hxl ⟨hlc,hmx'⟩ hzl ⟨cur,HH.out,rfl,HIN.out⟩).mono ?_;rintro e w2 ⟨⟨v,rfl⟩,⟨cur2,hb2,hz2,hi2⟩,hbt⟩;have L2:Later w w2:=Below.trans l1 (hbt.below l1.size (fun k hk e=>by have e':k=g:=e;omega));have HB2:=zAc hb2;have HI2:=zAc hi2;have HL2:=zAc L2;clear hb2 hi2 hbt L2;go_wp2_with fail;go_ret
  obtain⟨ys,he,hp⟩:=zQ5 HI2.out.2;rw[←hp.length_eq];exact⟨⟨_,cap,ys,rfl,by rw[hp.length_eq];exact hxl,(hp.map _).trans HX.out.2,.inr ⟨g,cur2,rfl,hgb,HB2.out,by rw[←he,hp.length_eq]⟩⟩,HL2.out⟩
theorem zHm {W:World} {base:Nat} {e t:TypeId} {i:TypeInfo} {z:Value} {size bytes:Nat} (ht:Tryz.prog.underlying t=some (.slice e))(hi:Tryz.prog.info? e=some i)(hz:i.zero=some z)(h1:i.size=size)(h2:i.bytes=bytes)(hb:bytes≤1000)(hzc:z.cells.size=size)(hs:0<size)(v:Value)(n:Nat)(xs0:List Value)(hown:W.ownsRow base e size v n xs0)(hn:n≤1000)(hbs:base≤W.heap.size)(xs:List Value)(hl:xs.length=size)(hx:∀u∈xs,u.oneCell'=true)(ty:TypeId):
  ∃a c W',(Builtin.append_ #[t,t] ty #[v,.slice (some ⟨W.heap.size,0,none⟩) 1 1]).run Tryz.prog (W.alloc (.cells xs.toArray e))= .ok (.slice (some a) (n+1) c) W'∧W'.ownsRow base e size (.slice (some a) (n+1) c) (n+1) (xs0++xs)∧(W.alloc (.cells xs.toArray e)).grownBy W' v.ownBlock:=by
 have hm:(n+1)*bytes≤140737488355328:=Nat.le_trans (Nat.mul_le_mul (show n+1≤1001 by omega) hb) (by decide);obtain⟨v',W',hrun,hrow,hg,_⟩:=run_append_own (P:=Tryz.prog) (W.alloc (.cells xs.toArray e)) base t ty e i z size bytes ht hi hz h1 h2 hzc hs v n xs0 (hown.alloc _) ⟨W.heap.size,0,none⟩ 1 1 xs (by omega) (newG W e xs) hx (by unfold maxLen;omega) hm (by simp;omega);obtain⟨g2,cp2,rfl⟩:=ownsRow_succ hrow;exact⟨_,_,W',hrun,hrow,hg⟩
theorem zQ6 {base g:Nat} {W:World} {s:Gf} (h:GF base W g s):s.fe.size=s.fs.length:=by
 have:=congrArg List.length h.fm;simpa using this
theorem zHn {W:World} {base:Nat} {e:TypeId} {a:Option Addr} {n c:Nat} {xs:List Value} (h:W.ownsRow base e 1 (.slice a n c) n xs) {k:Nat} (hk:k<n) {x:Value} (hx:xs[k]? =some x):∃q,a=some ⟨q,0,none⟩∧base≤q∧W.cell? ⟨q,k,none⟩=some x:=by
 obtain⟨h1,⟨_,e0⟩|⟨q,cp,cur,e2,hb,hh,_,_,_,hc⟩⟩:=h
 ·omega
 ·injection e2 with e3 e4 e5
  refine⟨q,e3,hb,?_⟩;rw[zAa hh k,←Array.getElem?_toList];have h0:=congrArg (fun l=>l[k]?) hc;simp only[Nat.mul_one]at h0;rw[List.getElem?_take_of_lt hk,hx]at h0;exact h0
def BiP (s:Gf) (w w':World) (e:Ending):Prop:=∃(xs:List Fl) (a:Option Addr) (c:Nat),e= .returned (.slice a xs.length c)∧xs.Perm s.fs∧w'.ownsRow w.heap.size 101 1 (.slice a xs.length c) xs.length (xs.map fun f=> .pointer (some ⟨f.blk,0,none⟩))
def IdE (s:Gf):Prop:=∀x∈s.fs,∀y∈s.fs,x.id=y.id→x=y
theorem IdE.u {s:Gf} (h:IdE s):IdU s:=fun x hx y hy e=>by rw[h x hx y hy e]
theorem zQ7 {fs xs:List Fl} (hu:∀x∈fs,∀y∈fs,x.id=y.id→x=y)(hm:∀x∈xs,x∈fs)(hp:(xs.map (·.id)).Perm (fs.map (·.id))):xs.Perm fs:=by
 cases fs with
 |nil=>
  have:=hp.length_eq
  simp at this
  rw[this]
 | cons f0 l=>
  generalize hfs:f0::l=fs at*
  have hpk:∀x∈fs,(fs.find? (fun y=>y.id==x.id)).getD f0=x:=fun x hx=>by
   cases hf:fs.find? (fun y=>y.id==x.id) with
   |none=>
    have:=List.find?_eq_none.1 hf x hx
    simp at this
   |some y=>
    have h1:=List.mem_of_find?_eq_some hf;have h2:=List.find?_some hf;exact hu y h1 x hx (by simpa using h2)
  have h2:=hp.map (fun z=>(fs.find? (fun y=>y.id==z)).getD f0);rw[List.map_map,List.map_map]at h2;rw[show xs.map ((fun z=>(fs.find? (fun y=>y.id==z)).getD f0) ∘ fun x=>x.id)=xs from(List.map_congr_left (fun x hx=>hpk x (hm x hx))).trans (List.map_id xs),show fs.map ((fun z=>(fs.find? (fun y=>y.id==z)).getD f0) ∘ fun x=>x.id)=fs from(List.map_congr_left (fun x hx=>hpk x hx)).trans (List.map_id fs)]at h2;exact h2
theorem ids_perm {base g:Nat} {W:World} {s:Gf} (h:GF base W g s) {ys:List Int} (hp:(ys.map (Value.int .i64)).Perm (s.fe.toList.map (·.key))):ys.Perm (s.fs.map (·.id)):=by
 have h1:s.fe.toList.map (·.key)=(s.fs.map (·.id)).map (Value.int .i64):=by
  have:=congrArg (List.map Prod.fst) h.fm;rw[List.map_map,List.map_map]at this;rw[List.map_map];exact this
 rw[h1]at hp;have hu:∀zs:List Int,(zs.map (Value.int .i64)).map (fun v=>match v with| .int _ k=>k|_=>0)=zs:=fun zs=>by rw[List.map_map];exact(List.map_congr_left (fun _ _=>rfl)).trans (List.map_id zs)
 have:=hp.map (fun v=>match v with| .int _ k=>k|_=>0);rw[hu,hu]at this;exact this
theorem byId_P(base g:Nat)(s:Gf)(w:World)(h:GF base w g s)(hes:EsI s.fe s.cf)(hsz:s.fs.length≤12)(hie:IdE s):Calls Tryz.prog 40 #[.pointer (some ⟨g,0,none⟩)] w fun e w'=>BiP s w w' e∧Later w w':=by
 have hu:=hie.u;have HIE:=zAc hie;have k0:=zAa h.gc;unfold gfc at k0;have la:=zAe w (.cells #[.map (some s.gf)] 86);have HS:=zAc (sorted_P w.heap.size s.gf s.cf s.fe hes (by rw[zQ6 h];exact hsz) _ (heap_alloc_new w (.cells #[.map (some s.gf)] 86)) (zAb la h.fl));have HLK:=zAc (fun W (l:Later w W) (f:Fl) (hf:f∈s.fs)=>zI0 (h.later l) hf hu);have HKP:=zAc (fun(ys:List Int) (hp:(ys.map (Value.int .i64)).Perm (s.fe.toList.map (·.key)))=>ids_perm h hp);have HFZ:=zAc (zQ6 h);have HG:=zAc h;have HSZ:=zAc hsz;clear h hes hu hsz hie;go_enter Tryz.func40,Tryz.ntmps40;go_wp2_with fail;refine(keys_any s.gf w).mono ?_;rintro e w1 ⟨rfl,rfl⟩;go_wp2_with fail;refine HS.out.mono ?_;rintro e w2 ⟨⟨a,c,ys,rfl,hn,hpm,hor⟩,l2⟩;have HPM:=zAc (HKP.out ys hpm);have L2:Later w w2:=la.trans l2;have HN12:=zAc hn;have HOR:=zAc hor;have hs1:w.heap.size≤w2.heap.size:=L2.size;clear k0 hor hn HS hpm HKP;generalize hnn:ys.length=n at*;have HNN:=zAc hnn;clear hnn;go_upto_region 3 with fail;go_loopw [3,13] (fun ov iv wr=>∃(k:Nat) (xs:List Fl) (b:Option Addr) (d:Nat),iv= .int .i64 (k:Int)∧k≤n∧ov= .slice b k d∧xs.length=k∧(∀f∈xs,f∈s.fs)∧xs.map (·.id)=ys.take k∧wr.ownsRow w2.heap.size 101 1 (.slice b k d) k (xs.map fun f=> .pointer (some ⟨f.blk,0,none⟩))∧Later w2 wr) (fun _ iv _=>n-(intOf iv).toNat)
 case atStart=>exact⟨0,[],none,0,rfl,by omega,rfl,rfl,by simp,by simp,World.ownsRow_nil _ _ _ _,Later.refl _⟩
 case round=>
  obtain⟨k,xs,b,d,rfl,hk,rfl,hxl,hxf,hxi,hO,hL⟩:=hrel;rename World=>wr
  by_cases hlt:k<n
  ·have hlt':(k:Int)<n:=by omega
   obtain⟨g2,cur,rfl,hg2,hb2,hc2⟩:∃g cur,a=some ⟨g,0,none⟩∧_∧_∧_:=HOR.out.resolve_left (by omega);have hyk:k<ys.length:=by rw[HNN.out];exact hlt
   obtain⟨f,hf,hid⟩:=List.mem_map.1 (HPM.out.mem_iff.1 (List.getElem_mem hyk))
   have he3:cur[k]? =some (.int .i64 f.id):=by
    have h0:(cur.toList.take n)[k]? =(ys.map (Value.int .i64))[k]? :=congrArg (fun l=>l[k]?) hc2;rw[List.getElem?_take_of_lt hlt,List.getElem?_map,List.getElem?_eq_getElem hyk,←hid]at h0;rw[←Array.getElem?_toList];exact h0
   have hxi2:(xs++[f]).map (·.id)=ys.take (k+1):=by
    rw[List.map_append,hxi,←List.take_append_getElem hyk,←hid];rfl
   have hLw:Later w wr:=L2.trans hL;have hcl:wr.cell? ⟨g2,k,none⟩=some (.int .i64 f.id):=(zAa (zAb hL hb2) k).trans he3;have k1:=zAa (HG.out.later hLw).gc;unfold gfc at k1;have hlk:=HLK.out wr hLw f hf;obtain⟨i0,hi,hz0,hz1,hz2⟩:=info_parts zQ0;have hk12:k≤1000:=by have:=HN12.out;omega
   obtain⟨a1,c1,W1,hr1,hO1,hg1⟩:=zHm (W:=wr) (base:=w2.heap.size) (t:=99) Tryz.underlying99 hi hz0 hz1 hz2 (by decide) rfl (by decide) (.slice b k d) k _ hO hk12 hL.size [.pointer (some ⟨f.blk,0,none⟩)] rfl (by intro u hu;simp at hu;subst hu;rfl) 99;have hl1:Later w2 W1:=(hL.trans (zAe wr (.cells [.pointer (some ⟨f.blk,0,none⟩)].toArray 101))).grown hg1 (hL.trans (zAe wr (.cells [.pointer (some ⟨f.blk,0,none⟩)].toArray 101))).size (fun j hj=>(hO.lt j hj).1)
   have HREL:Hid (∃(k':Nat) (xs:List Fl) (b:Option Addr) (d:Nat),Value.int .i64 ((k:Int)+1)= .int .i64 (k':Int)∧k'≤n∧Value.slice (some a1) (k+1) c1= .slice b k' d∧xs.length=k'∧(∀f∈xs,f∈s.fs)∧xs.map (·.id)=ys.take k'∧W1.ownsRow w2.heap.size 101 1 (.slice b k' d) k' (xs.map fun f=> .pointer (some ⟨f.blk,0,none⟩))∧Later w2 W1):=
    ⟨k+1,xs++[f],some a1,c1,rfl,by omega,rfl,by simp[hxl],fun y hy=>by
     rcases List.mem_append.1 hy with hy|hy
     ·exact hxf y hy
     ·rw[List.mem_singleton.1 hy];exact hf,hxi2,by rw[List.map_append];exact hO1,hl1⟩
   have HR1:=zAc hr1;clear hr1 hO1 hg1 hl1 hO hxl hxf hxi hxi2 hid hyk hL hLw he3 hc2 hb2 hi hz0 hz1 hz2;go_upto_region 5 with fail;go_upto_region 6 with(at_builtin;refine zCq rfl (.tmp 17) (.tmp 24) 99 99 rfl _ _ rfl rfl _ _ HR1.out ?_);go_wp2_with fail;go_roundw
   case rel=>exact HREL.out
   case measure=>simp[intOf];omega
  ·have hkn:k=n:=by omega
   subst hkn;have HF:=zAc (show BiP s w wr (.returned (.slice b k d))from⟨xs,b,d,by rw[hxl],zQ7 HIE.out hxf (by rw[hxi,List.take_of_length_le (by rw[HNN.out];omega)];exact HPM.out),by rw[hxl];exact zCl hO hs1⟩);have HLL:=zAc (L2.trans hL);clear hO hxl hxf hxi hL;go_wp2_with fail;go_ret
   exact⟨HF.out,HLL.out⟩
def zHw (f0 f:Fl):Bool:=f.ms==f0.id && f.o.pr==47
theorem zCf {A B:World} {base:Nat} {e:TypeId} {k:Nat} {v:Value} {n:Nat} {xs:List Value} (h:A.ownsRow base e k v n xs)(l:Later A B):B.ownsRow base e k v n xs:=by
 obtain⟨h1,h2|⟨g,cap,cur,hv,hg,hh,r⟩⟩:=h
 ·exact ⟨h1,.inl h2⟩
 ·exact ⟨h1,.inr ⟨g,cap,cur,hv,hg,zAb l hh,r⟩⟩
def TnP (s:Gf) (f0:Fl) (w w':World) (e:Ending):Prop:=∃(ys:List Fl) (a:Option Addr) (c:Nat),e= .returned (.slice a ys.length c)∧ys.Perm (s.fs.filter (zHw f0))∧w'.ownsRow w.heap.size 101 1 (.slice a ys.length c) ys.length (ys.map fun f=> .pointer (some ⟨f.blk,0,none⟩))∧(ys.length=0→a=none∧c=0)
theorem zI2(base g:Nat)(s:Gf)(f0:Fl)(w:World)(h:GF base w g s)(hes:EsI s.fe s.cf)(hsz:s.fs.length≤12)(hie:IdE s)(hf0:w.heap[f0.blk]? =some (.cells (flc f0).toArray 111 (0,0))):
  Calls Tryz.prog 108 #[.pointer (some ⟨g,0,none⟩),.pointer (some ⟨f0.blk,0,none⟩)] w fun e w'=>TnP s f0 w w' e∧Later w w':=by
 have HB:=zAc (byId_P base g s w h hes hsz hie);have HFB:=zAc (fun f hf=>(h.fb f hf).2);have HF0:=zAc hf0;have HSZ:=zAc hsz;clear h hes hsz hie hf0;go_enter Tryz.func108,Tryz.ntmps108;go_wp2_with fail;refine HB.out.mono ?_;rintro e w2 ⟨⟨xs,a,c,rfl,hxp,hO⟩,l2⟩;have HXP:=zAc hxp;have hxf:∀f∈xs,f∈s.fs:=fun f hf=>hxp.mem_iff.1 hf;have l2':Later w w2:=l2;have hxl12:xs.length≤12:=by rw[hxp.length_eq];exact HSZ.out
 have hs1:w.heap.size≤w2.heap.size:=l2'.size;clear hxp;have HO:=zAc hO;have HXF:=zAc hxf;clear hO hxf HB l2;go_upto_region 3 with fail;go_loopw [5,11] (fun ov iv wr=>∃(k:Nat) (b:Option Addr) (m d:Nat),ov= .slice b m d∧iv= .int .i64 (k:Int)∧k≤xs.length∧m=((xs.take k).filter (zHw f0)).length∧wr.ownsRow w2.heap.size 101 1 (.slice b m d) m (((xs.take k).filter (zHw f0)).map fun f=> .pointer (some ⟨f.blk,0,none⟩))∧Later w2 wr∧(m=0→b=none∧d=0)) (fun _ iv _=>xs.length-(intOf iv).toNat)
 case atStart=>exact⟨0,none,0,0,rfl,rfl,by omega,by simp,by simp;exact World.ownsRow_nil _ _ _ _,Later.refl _,fun _=>⟨rfl,rfl⟩⟩
 case round=>
  obtain⟨k,b,m,d,rfl,rfl,hk,hm,hR,hL,hZ⟩:=hrel;rename World=>wr
  by_cases hlt:k<xs.length
  ·have hlt':(k:Int)<xs.length:=by omega
   have hk12:k≤12:=by omega
   obtain⟨q,rfl,hq,hcl0⟩:=zHn HO.out hlt (x:= .pointer (some ⟨xs[k].blk,0,none⟩)) (by rw[List.getElem?_map,List.getElem?_eq_getElem hlt];rfl);have hmem:xs[k]∈xs:=List.getElem_mem hlt;have htk:xs.take (k+1)=xs.take k++[xs[k]]:=by rw[List.take_append_getElem]
   have hm12:m≤12:=by
    rw[hm];exact Nat.le_trans (List.length_filter_le _ _) (by rw[List.length_take];omega)
   generalize xs[k]=f at*
   have hcl:wr.cell? ⟨q,k,none⟩=some (.pointer (some ⟨f.blk,0,none⟩)):=by
    have hql:q<w2.heap.size:=World.block_lt_of_cell? _ _ hcl0;rw[←hcl0];exact Below.cell (p:=⟨q,k,none⟩) hL hql
   have LW:Later w wr:=l2'.trans hL;have HK1:=zAc (zAb LW (HFB.out f (HXF.out f hmem)));have HK0:=zAc (zAb LW HF0.out);have HTK:=zAc htk;have HM:=zAc hm;have HR:=zAc hR;have HL:=zAc hL;have HZ:=zAc hZ;clear hcl0 hmem htk hm hR hL hZ LW;have hsp:zHw f0 f=(f.ms==f0.id && f.o.pr==47):=rfl;cases hb1:(f.ms==f0.id && f.o.pr==47) with
   | false=>
    go_upto_region 5 with fail;have k0:=zAa HK0.out;have k1:=zAa HK1.out;unfold flc at k0 k1;have hsp2:=zAc (hsp.trans hb1);clear hsp;cases t1:(f.ms==f0.id) with
    |false=>
     clear hb1;go_quiet (fail)
     have ld:Later wr (wr.drewN nq):=zAm (Below.refl _ _) nq;have HREL:Hid (∃(k':Nat) (b':Option Addr) (m' d':Nat),Value.slice b m d= .slice b' m' d'∧Value.int .i64 ((k:Int)+1)= .int .i64 (k':Int)∧k'≤xs.length∧m'=((xs.take k').filter (zHw f0)).length∧(wr.drewN nq).ownsRow w2.heap.size 101 1 (.slice b' m' d') m' (((xs.take k').filter (zHw f0)).map fun f=> .pointer (some ⟨f.blk,0,none⟩))∧Later w2 (wr.drewN nq)∧(m'=0→b'=none∧d'=0)):=⟨k+1,b,m,d,rfl,rfl,by omega,by rw[HTK.out,List.filter_append,List.filter_cons_of_neg (by rw[hsp2.out];simp)];simp;exact HM.out,by rw[HTK.out,List.filter_append,List.filter_cons_of_neg (by rw[hsp2.out];simp)];simp;exact zCf HR.out ld,HL.out.trans ld,HZ.out⟩;clear k0 k1 hcl;go_wp2_with fail;go_roundw
     case rel=>exact HREL.out
     case measure=>simp[intOf];omega
    |true=>
     have t2:(f.o.pr==47)=false:=by rw[t1]at hb1;simpa using hb1
     clear hb1;go_quiet (fail)
     have ld:Later wr (wr.drewN nq):=zAm (Below.refl _ _) nq;have HREL:Hid (∃(k':Nat) (b':Option Addr) (m' d':Nat),Value.slice b m d= .slice b' m' d'∧Value.int .i64 ((k:Int)+1)= .int .i64 (k':Int)∧k'≤xs.length∧m'=((xs.take k').filter (zHw f0)).length∧(wr.drewN nq).ownsRow w2.heap.size 101 1 (.slice b' m' d') m' (((xs.take k').filter (zHw f0)).map fun f=> .pointer (some ⟨f.blk,0,none⟩))∧Later w2 (wr.drewN nq)∧(m'=0→b'=none∧d'=0)):=⟨k+1,b,m,d,rfl,rfl,by omega,by rw[HTK.out,List.filter_append,List.filter_cons_of_neg (by rw[hsp2.out];simp)];simp;exact HM.out,by rw[HTK.out,List.filter_append,List.filter_cons_of_neg (by rw[hsp2.out];simp)];simp;exact zCf HR.out ld,HL.out.trans ld,HZ.out⟩;clear k0 k1 hcl;go_wp2_with fail;go_roundw
     case rel=>exact HREL.out
     case measure=>simp[intOf];omega
   |true=>
    go_upto_region 5 with fail;have k0:=zAa HK0.out;have k1:=zAa HK1.out;unfold flc at k0 k1;have hsp2:=zAc (hsp.trans hb1);have t1:(f.ms==f0.id)=true:=by rw[Bool.and_eq_true]at hb1;exact hb1.1
    have t2:(f.o.pr==47)=true:=by rw[Bool.and_eq_true]at hb1;exact hb1.2
    clear hsp hb1;go_quiet (fail)
    have ld:Later wr (wr.drewN nq):=zAm (Below.refl _ _) nq;clear k0 k1 hcl;have HRD:=zAc (zCf HR.out ld);have HLD:=zAc (HL.out.trans ld);generalize wr.drewN nq=we at*;obtain⟨i0,hi,hz0,hz1,hz2⟩:=info_parts zQ0;obtain⟨a1,c1,W1,hr1,hO1,hg1⟩:=zHm (W:=we) (base:=w2.heap.size) (t:=99) Tryz.underlying99 hi hz0 hz1 hz2 (by decide) rfl (by decide) (.slice b m d) m _ HRD.out (by omega) HLD.out.size [.pointer (some ⟨f.blk,0,none⟩)] rfl (by intro u hu;simp at hu;subst hu;rfl) 99;have hl1:Later w2 W1:=(HLD.out.trans (zAe we (.cells [.pointer (some ⟨f.blk,0,none⟩)].toArray 101))).grown hg1 (HLD.out.trans (zAe we (.cells [.pointer (some ⟨f.blk,0,none⟩)].toArray 101))).size (fun j hj=>(HRD.out.lt j hj).1);have HREL:Hid (∃(k':Nat) (b':Option Addr) (m' d':Nat),Value.slice (some a1) (m+1) c1= .slice b' m' d'∧Value.int .i64 ((k:Int)+1)= .int .i64 (k':Int)∧k'≤xs.length∧m'=((xs.take k').filter (zHw f0)).length∧W1.ownsRow w2.heap.size 101 1 (.slice b' m' d') m' (((xs.take k').filter (zHw f0)).map fun f=> .pointer (some ⟨f.blk,0,none⟩))∧Later w2 W1∧(m'=0→b'=none∧d'=0)):=⟨k+1,some a1,m+1,c1,rfl,rfl,by omega,by rw[HTK.out,List.filter_append,List.filter_cons_of_pos hsp2.out];simp;exact HM.out,by rw[HTK.out,List.filter_append,List.filter_cons_of_pos hsp2.out,List.map_append];exact hO1,hl1,fun e=>absurd e (by omega)⟩;have HR1:=zAc hr1;clear hr1 hO1 hg1 hl1 hi hz0 hz1 hz2 HR HRD HL
    go_upto_region 6 with(at_builtin;refine zCq rfl (.tmp 35) (.tmp 37) 99 99 rfl _ _ rfl rfl _ _ HR1.out ?_);go_wp2_with (at_builtin;refine zCq rfl (.tmp 35) (.tmp 37) 99 99 rfl _ _ rfl rfl _ _ HR1.out ?_)
    go_roundw
    case rel=>exact HREL.out
    case measure=>simp[intOf];omega
  ·have hkn:k=xs.length:=by omega
   subst hkn;rw[List.take_length]at hm hR;subst hm;have HP:=zAc (show TnP s f0 w wr (.returned (.slice b (xs.filter (zHw f0)).length d))from⟨xs.filter (zHw f0),b,d,rfl,HXP.out.filter _,zCl hR hs1,hZ⟩);have HLL:=zAc (l2'.trans hL);clear hR hL hZ;go_wp2_with fail;go_ret
   exact⟨HP.out,HLL.out⟩
theorem zD1(base g:Nat)(s:Gf)(f0:Fl)(w:World)(h:GF base w g s)(hes:EsI s.fe s.cf)(hsz:s.fs.length≤12)(hie:IdE s)(hf0:w.heap[f0.blk]? =some (.cells (flc f0).toArray 111 (0,0)))(hms:∀f∈s.fs,(f.ms==f0.id)=false):
  Calls Tryz.prog 108 #[.pointer (some ⟨g,0,none⟩),.pointer (some ⟨f0.blk,0,none⟩)] w fun e w'=>e= .returned (.slice none 0 0)∧Later w w':=by
 refine(zI2 base g s f0 w h hes hsz hie hf0).mono ?_;rintro e w' ⟨⟨ys,a,c,rfl,hp,_,hz⟩,l⟩;rw[List.filter_eq_nil_iff.2 (fun f hf=>by unfold zHw;rw[hms f hf];simp)]at hp;obtain rfl:=hp.eq_nil;obtain⟨rfl,rfl⟩:=hz rfl;exact⟨rfl,l⟩
theorem getF_yes(base gt:Nat)(cnt trn:Int)(rw:Nat→List Rw)(p x d a b:Int)(k:Nat)(r:Rw)(W:World)(h:TB base W gt 128 cnt trn rw)(hk:kx p x d a b rw=some k)(hr:(rw (bki p x d a b))[k]? =some r)(hs:0≤x∧x≤4294967295)(hd:0≤d∧d≤4294967295)(ha:0≤a∧a≤65535)(hb:0≤b∧b≤65535):
  Calls Tryz.prog 103 #[.pointer (some ⟨gt,0,none⟩),.agg #[.int .u8 p,.int .u32 x,.int .u32 d,.int .u16 a,.int .u16 b]] W fun e w'=>e= .returned (.tuple #[.int .i64 r.id,.int .i64 r.till,.bool true])∧Later W w':=by
 refine(zPp base gt 128 cnt trn rw p x d a b W h hs hd ha hb).mono ?_;rintro e w' ⟨h1,rfl⟩;exact⟨by unfold gtv;simp only[hk,hr],h1⟩
theorem tup_ne2(bk:Bool)(p x d a b p2 x2 d2 a2 b2:Int)(w:World)(h:bk=true↔¬(p=p2∧x=x2∧d=d2∧a=a2∧b=b2)):(binOp .neq 103 (.agg #[.int .u8 p,.int .u32 x,.int .u32 d,.int .u16 a,.int .u16 b]) (.agg #[.int .u8 p2,.int .u32 x2,.int .u32 d2,.int .u16 a2,.int .u16 b2])).run Tryz.prog w= .ok (.bool bk) w:=by
 cases bk with
 |true=>exact zQx p x d a b p2 x2 d2 a2 b2 w (h.1 rfl)
 |false=>
  have h2:p=p2∧x=x2∧d=d2∧a=a2∧b=b2:=Classical.byContradiction (fun q=>by have:=h.2 q;cases this);obtain⟨rfl,rfl,rfl,rfl,rfl⟩:=h2;go_simp
theorem zFo(base g:Nat)(s:Gf)(f:Fl)(bk:Bool)(p x d a b:Int)(k:Nat)(r:Rw)(w:World)(h:GF base w g s)(hf:f∈s.fs)(hu:IdU s)(hk:kx p x d a b s.rw=some k)(hr:(s.rw (bki p x d a b))[k]? =some r)(hid:r.id=f.id)(hs:0≤x∧x≤4294967295)(hd:0≤d∧d≤4294967295)(ha:0≤a∧a≤65535)(hb:0≤b∧b≤65535)
  (hbk:bk=true↔¬(p=f.o.pr∧x=f.o.src∧d=f.o.dst∧kyp p a=kyp f.o.pr f.o.sp∧b=f.o.dp)):
  Calls Tryz.prog 49 #[.pointer (some ⟨g,0,none⟩),.agg #[.int .u8 p,.int .u32 x,.int .u32 d,.int .u16 a,.int .u16 b]] w fun e w'=>e= .returned (.tuple #[.pointer (some ⟨f.blk,0,none⟩),.bool bk,.bool true])∧Later w w':=by
 have l0:=zAe w (.cells #[.int .u8 p,.int .u32 x,.int .u32 d,.int .u16 a,.int .u16 b] 103);have C0:=zAc (heap_alloc_new w (.cells #[.int .u8 p,.int .u32 x,.int .u32 d,.int .u16 a,.int .u16 b] 103));have HG:=zAc (h.later l0);have HGT:=zAc (fun W (l:Later w W)=>getF_yes base s.gt s.cnt s.trn s.rw p x d a b k r W (h.tb.laterD l) hk hr hs hd ha hb);rw[hid]at HGT;have HLK:=zAc (fun W (l:Later w W)=>zI0 (h.later l) hf hu);have HF:=zAc (zAb l0 (h.fb f hf).2);have HBK:=zAc hbk;clear h hs hd ha hb hk hr hid hf hu hbk;go_enter Tryz.func49,Tryz.ntmps49;go_upto_region 1 with fail;generalize w.alloc _=w1 at*;generalize w.heap.size=gx at*;refine zAn (R:=Later) Later.pre Later.drew 13 rfl (by kernel_rfl) (fun V0 hV0=> ?_);have q0:∀v,Later V0 v→∀j,v.cell? ⟨gx,j,none⟩=#[.int .u8 p,.int .u32 x,.int .u32 d,.int .u16 a,.int .u16 b][j]? :=fun v hv=>zAa (zAb (hV0.trans hv) C0.out);have q1:∀v,Later V0 v→∀j,v.cell? ⟨g,j,none⟩=(gfc s).toArray[j]? :=fun v hv=>zAa (zAb (hV0.trans hv) HG.out.gc);unfold gfc at q1;refine rX Later.pre 0 ?_;refine rX Later.pre 1 ?_;refine rX Later.pre 2 ?_;refine rX Later.pre 3 ?_;refine rX Later.pre 4 ?_;clear q0 q1
 refine zAr Later.pre 5 (.tuple #[.int .i64 f.id,.int .i64 r.till,.bool true]) rfl (by kernel_rfl) (by kernel_rfl) (by kernel_rfl) (fun _ _ _ h=>h) rfl (fun u hu=>zAo 103 #[.pointer (some ⟨s.gt,0,none⟩),.agg #[.int .u8 p,.int .u32 x,.int .u32 d,.int .u16 a,.int .u16 b]] (by go_simp) (HGT.out u (Later.trans l0 (hV0.trans hu)))) ?_;simp only[Act.put,sA,sB,sC];refine rX Later.pre 6 ?_;refine rX Later.pre 7 ?_;refine rX Later.pre 8 ?_;refine rX Later.pre 9 ?_;refine rX Later.pre 10 ?_;refine rX Later.pre 11 ?_;refine rX Later.pre 12 ?_;refine rD (fun V9 hV9=> ?_);have L9:Later w1 V9:=hV0.trans hV9;have k1:=zAa (zAb L9 HG.out.gc);unfold gfc at k1;have hlk:=HLK.out V9 (l0.trans L9);clear hV0 hV9;go_upto_region 5 with fail;clear k1 hlk;refine zAn (R:=Later) Later.pre Later.drew 13 rfl (by kernel_rfl) (fun V1 hV1=> ?_);have q0:∀v,Later V1 v→∀j,v.cell? ⟨gx,j,none⟩=#[.int .u8 p,.int .u32 x,.int .u32 d,.int .u16 a,.int .u16 b][j]? :=fun v hv=>zAa (zAb (L9.trans (hV1.trans hv)) C0.out);have qf:∀v,Later V1 v→∀j,v.cell? ⟨f.blk,j,none⟩=(flc f).toArray[j]? :=fun v hv=>zAa (zAb (L9.trans (hV1.trans hv)) HF.out);unfold flc at qf;refine rX Later.pre 0 ?_;refine rX Later.pre 1 ?_
 refine zAr Later.pre 2 (.agg #[.int .u8 p,.int .u32 x,.int .u32 d,.int .u16 (kyp p a),.int .u16 b]) rfl (by kernel_rfl) (by kernel_rfl) (by kernel_rfl) (fun _ _ _ h=>h) rfl (fun u hu=>zAo 104 #[.agg #[.int .u8 p,.int .u32 x,.int .u32 d,.int .u16 a,.int .u16 b]] (by go_simp) (zDd p x d a b u)) ?_;simp only[Act.put,sA,sB,sC];refine rX Later.pre 3 ?_;refine rX Later.pre 4 ?_;refine rX Later.pre 5 ?_;refine rX Later.pre 6 ?_;refine rX Later.pre 7 ?_;refine zAr Later.pre 8 (.agg #[.int .u8 f.o.pr,.int .u32 f.o.src,.int .u32 f.o.dst,.int .u16 (kyp f.o.pr f.o.sp),.int .u16 f.o.dp]) rfl (by kernel_rfl) (by kernel_rfl) (by kernel_rfl) (fun _ _ _ h=>h) rfl (fun u hu=>zAo 104 #[.agg #[.int .u8 f.o.pr,.int .u32 f.o.src,.int .u32 f.o.dst,.int .u16 f.o.sp,.int .u16 f.o.dp]] (by go_simp) (zDd f.o.pr f.o.src f.o.dst f.o.sp f.o.dp u)) ?_;simp only[Act.put,sA,sB,sC];clear q0 qf;generalize kyp p a=ka at*;generalize kyp f.o.pr f.o.sp=ka2 at*;have q5:∀v:World,(binOp .neq 103 (.agg #[.int .u8 p,.int .u32 x,.int .u32 d,.int .u16 ka,.int .u16 b]) (.agg #[.int .u8 f.o.pr,.int .u32 f.o.src,.int .u32 f.o.dst,.int .u16 ka2,.int .u16 f.o.dp])).run Tryz.prog v= .ok (.bool bk) v:=fun v=>tup_ne2 bk p x d ka b f.o.pr f.o.src f.o.dst ka2 f.o.dp v HBK.out
 refine anyR_val Later.pre 9 rfl (by kernel_rfl) (by kernel_rfl) (by kernel_rfl) (fun _ _ _ _ h=>h) rfl ⟨.bool bk,fun v1 hv1=>by
  have hb:=HBK.out;clear q5;cases bk with
  |true=>
   have hn:=hb.1 rfl;clear hb;go_simp;by_cases g1:p=f.o.pr<;>by_cases g2:x=f.o.src<;>by_cases g3:d=f.o.dst<;>by_cases g4:ka=ka2<;>by_cases g5:b=f.o.dp<;>simp_all
  |false=>
   have h2:=Classical.byContradiction (fun q=>by have:=hb.2 q;cases this);obtain⟨g1,g2,g3,g4,g5⟩:=h2;rw[g1,g2,g3,g4,g5];go_simp,?_⟩
 simp only[Act.put,sA,sB,sC];refine rX Later.pre 10 ?_;refine rX Later.pre 11 ?_;refine rX Later.pre 12 ?_;refine rD (fun V2 hV2=> ?_);go_wp2_with fail;exact bodyPost_ret (v:= .tuple #[.pointer (some ⟨f.blk,0,none⟩),.bool bk,.bool true]) (by simp[results,Tryz.results49,go_sem]) rfl ⟨rfl,l0.trans (L9.trans (hV1.trans hV2))⟩
theorem zQ8(base gr:Nat)(vr:Value)(ls:List Ru)(x:Int)(W:World)(mr:Ru)(h:RL 285 base W gr vr ls)(hok:okL ls)(hx:0≤x∧x≤4294967295)(hn:ls.find? (mqB x)=some mr):
  Calls Tryz.prog 281 #[.pointer (some ⟨gr,0,none⟩),.int .u32 x] W fun e w'=>e= .returned (.tuple #[.agg #[.int .i64 mr.kind,.int .u8 mr.proto,.int .u32 mr.net,.int .i64 mr.bits,.int .u32 mr.tt,.int .u16 mr.port,.int .u32 mr.host,.int .u16 mr.hp],.bool true])∧Later W w':=by
 have:=masq_any base (some ⟨gr,0,none⟩) ls x W (.inr ⟨gr,vr,rfl,h⟩) hok hx;have e1:fnd (mqB x) ls=mr:=by unfold fnd;rw[hn];rfl
 have e2:fdb (mqB x) ls=true:=by unfold fdb;rw[hn];rfl
 rw[e1,e2]at this;exact this
def MqC (v:Value) (n:Nat) (wx:World) (mr:Ru):Prop:=∃gn,v= .pointer (some ⟨gn,0,none⟩)∧n≤gn∧wx.heap[gn]? =some (.cells #[.int .i64 mr.kind,.int .u8 mr.proto,.int .u32 mr.net,.int .i64 mr.bits,.int .u32 mr.tt,.int .u16 mr.port,.int .u32 mr.host,.int .u16 mr.hp] 125 (0,0))
structure Rdy (s:Gf) (x d:Int) (a:Nat) (b:Int) (mr:Ru):Prop where
 ps:s.ps=[]
 ok:okL s.ls
 fd:s.ls.find? (mqB x)=some mr
 hx:0≤x∧x≤4294967295
 hd:0≤d∧d≤4294967295
 ha:a≤65535
 hb:0≤b∧b≤65535
 tt:0≤mr.tt∧mr.tt≤4294967295
 h1:1≤s.lo
 h2:s.lo≤s.hi
 h3:s.hi<65536
 s1:(b==5060)=false
 s2:((a:Int)==5060)=false
 k1:kx 17 x d (a:Int) b s.rw=none
 k2:∀n:Nat,kx 17 d mr.tt b (n:Int) s.rw=none
 fs:s.fs.length<64
 ne:¬(x=d∧d=mr.tt)
 tr:0≤s.trn∧s.trn≤900000
 nw:0≤s.now∧s.now≤549755813888
 bg:0≤s.bg∧s.bg≤1000000
 id:∀y∈s.fs,y.id≠s.bg
 cn:0≤s.cnt∧s.cnt≤1000
 ln:∀i,(s.rw i).length≤4000
end Go.Proofs.YteaeilghamjjkaaGreatDoor
