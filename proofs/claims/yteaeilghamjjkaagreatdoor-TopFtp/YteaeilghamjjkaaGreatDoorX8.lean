import Derived.Test.YteaeilghamjjkaaGreatDoorX9
import Derived.Laws.AppendOwn
namespace Go.Proofs.YteaeilghamjjkaaGreatDoor
set_option maxHeartbeats 8000000
open Go.RowKit Go.Shelf
set_option maxRecDepth 100000
set_option linter.unusedVariables false
set_option linter.unusedSimpArgs false
theorem zHg {n₀:Nat} (k1 k2:Int)(s1 s2:Value)(d1 d2:List Int)(w:World)(hn:n₀≤w.heap.size)(hB1:Mt.By d1)(hB2:Mt.By d2)(h1:Rd n₀ w s1 d1)(h2:Rd n₀ w s2 d2):
  Calls Tryz.prog 382 #[.agg #[.int .u8 k1,s1],.agg #[.int .u8 k2,s2]] w fun e w'=>e= .returned (.bool (k1==k2 && decide (d1=d2)))∧Below w.heap.size w w':=by
 obtain⟨a1,c1,rfl,_,_⟩:=h1.slice;obtain⟨a2,c2,rfl,_,_⟩:=h2.slice;have hbox:Below w.heap.size w ((w.alloc (.cells #[.int .u8 k1,.slice a1 d1.length c1] 244)).alloc (.cells #[.int .u8 k2,.slice a2 d2.length c2] 244)):=((Below.refl w.heap.size w).alloc (Nat.le_refl _) _).alloc (by simp) _;have HA:=zAd ((h1.mono hn).below hbox);have HB:=zAd ((h2.mono hn).below hbox);clear h1 h2;cases h0:(k1==k2)
 ·go_enter Tryz.func382,Tryz.ntmps382
  go_wp2
  go_ret
  exact⟨rfl,hbox⟩
 ·go_enter Tryz.func382,Tryz.ntmps382
  go_wp2_with fail;refine(zF8 _ _ d1 d2 _ hB1 hB2 HA.out HB.out).mono ?_;rintro e w2 ⟨rfl,rfl⟩;go_wp2
  go_ret
  exact⟨rfl,hbox⟩
theorem opts_ne {a b:List Opt} (k:Nat)(h:a[k]?.getD (0,[])≠b[k]?.getD (0,[])):a≠b:=fun e=>h (by rw[e])
theorem opts_eq {a b:List Opt} (hl:a.length=b.length)(h:∀j,j<a.length→a[j]?.getD (0,[])=b[j]?.getD (0,[])):a=b:=by
 apply List.ext_getElem hl
 intro i h1 h2
 have:=h i h1;simpa[h1,h2]using this
theorem zJi(n₀:Nat)(sO1 sO2:Value)(os1 os2:List Opt)(w:World)(hn:n₀≤w.heap.size)(hB1:ByO os1)(hB2:ByO os2)(hI1:RdO n₀ w sO1 os1)(hI2:RdO n₀ w sO2 os2):
  Calls Tryz.prog 381 #[sO1,sO2,.func (.func 382) #[] #[]] w fun e w'=>e= .returned (.bool (decide (os1=os2)))∧Below w.heap.size w w':=by
 obtain⟨a1,c1,rfl,hc1,hm1⟩:=hI1.slice;obtain⟨a2,c2,rfl,hc2,hm2⟩:=hI2.slice;by_cases hlen:os1.length=os2.length
 ·have t0:((os1.length:Int) !=(os2.length:Int))=false:=by simp[hlen]
  have HL:=zAd hlen;clear hlen;go_enter Tryz.func381,Tryz.ntmps381;go_wp2
  go_loopw [17] (fun i wr=>∃k:Nat,k≤os1.length∧i= .int .i64 (k:Int)∧(∀j,j<k→os1[j]?.getD (0,[])=os2[j]?.getD (0,[]))∧Below w.heap.size w wr) (fun i _=>os1.length-(intOf i).toNat)
  case atStart=>exact⟨0,by omega,rfl,fun j h=>by omega,Below.refl _ _⟩
  case round=>
   obtain⟨k,hk,rfl,hz,hbw⟩:=hrel;have HZ:=zAd hz;clear hz;by_cases hlt:k<os1.length
   ·have hlt2:k<os2.length:=by have:=HL.out;omega
    obtain⟨b,off,cp,e,_,_,hbb,hcs⟩:=(hI1.below (hbw.mono hn)).cells (by omega)
    simp at e
    obtain⟨rfl,rfl⟩:=e;obtain⟨b',off',cp',e',_,_,hbb',hcs'⟩:=(hI2.below (hbw.mono hn)).cells (by omega)
    simp at e'
    obtain⟨rfl,rfl⟩:=e';obtain⟨s,c0,c1',hRs⟩:=hcs k hlt;obtain⟨s',d0,d1,hRs'⟩:=hcs' k hlt2;obtain⟨sa,sc,rfl,_,_⟩:=hRs.slice;obtain⟨sb,sd,rfl,_,_⟩:=hRs'.slice;have hy1:=(hB1 (os1[k]?.getD (0,[])) (by simp[hlt])).2;have hy2:=(hB2 (os2[k]?.getD (0,[])) (by simp[hlt2])).2;have hlt':(k:Int)<os1.length:=by omega
    have hlt2':(k:Int)<os2.length:=by omega
    have hb1s:=hbb;clear hcs hcs';generalize hg1:os1[k]?.getD (0,[])=o1 at*;generalize hg2:os2[k]?.getD (0,[])=o2 at*;have HG1:=zAd hg1;have HG2:=zAd hg2;clear hg1 hg2;obtain⟨k1,dt1⟩:=o1;obtain⟨k2,dt2⟩:=o2;dsimp only at c0 c1' hRs d0 d1 hRs' hy1 hy2
    have hbs:=hbw.size;have la:Later wr (wr.alloc (.cells #[.int .u8 k1,.slice sa dt1.length sc] 244)):=(Below.refl wr.heap.size wr).alloc (Nat.le_refl _) _;have e0:(wr.alloc (.cells #[.int .u8 k1,.slice sa dt1.length sc] 244)).cell? ⟨b',off'+k*2,none⟩=some (.int .u8 k2):=la.cell d0;have e1:(wr.alloc (.cells #[.int .u8 k1,.slice sa dt1.length sc] 244)).cell? ⟨b',off'+k*2+1,none⟩=some (.slice sb dt2.length sd):=la.cell d1;have l2:Later wr ((wr.alloc (.cells #[.int .u8 k1,.slice sa dt1.length sc] 244)).alloc (.cells #[.int .u8 k2,.slice sb dt2.length sd] 244)):=((Below.refl wr.heap.size wr).alloc (Nat.le_refl _) _).alloc (by simp) _;go_wp2_with fail;generalize (wr.alloc (.cells #[.int .u8 k1,.slice sa dt1.length sc] 244)).alloc (.cells #[.int .u8 k2,.slice sb dt2.length sd] 244)=V2 at*;refine(zHg (n₀:=n₀) k1 k2 _ _ dt1 dt2 V2 (by have:=l2.size;omega) hy1 hy2 (hRs.below (l2.mono (by omega))) (hRs'.below (l2.mono (by omega)))).mono ?_;rintro e w5 ⟨rfl,hb5⟩;have hw5:Below w.heap.size w w5:=hbw.trans ((Later.trans l2 hb5).mono hbs);by_cases hq:k1=k2∧dt1=dt2
    ·have t5:(k1==k2 && decide (dt1=dt2))=true:=by simp[hq]
     have HQ:=zAd hq;clear hq;rw[t5];go_wp2_with fail;go_roundw
     case rel=>exact⟨k+1,by omega,by go_num,fun j hj=>by by_cases h:j=k;(subst h;rw[HG1.out,HG2.out,HQ.out.1,HQ.out.2]);exact HZ.out j (by omega),hw5⟩
     case measure=>simp[intOf];omega
    ·have t5:(k1==k2 && decide (dt1=dt2))=false:=by
      cases hh:(k1==k2 && decide (dt1=dt2)) with
      |false=>rfl
      |true=>exact absurd (by simpa using hh) hq
     have HN:Hid (os1≠os2):=by
      show _≠_
      refine opts_ne k (fun e=>hq ?_);rw[HG1.out,HG2.out]at e;simpa using e
     clear hq;rw[t5];go_wp2_with fail;go_ret
     exact⟨by rw[decide_eq_false HN.out];rfl,hw5⟩
   ·obtain rfl:k=os1.length:=by omega
    have HE:Hid (os1=os2):=opts_eq HL.out HZ.out;go_wp2_with fail;go_ret
    exact⟨by rw[decide_eq_true HE.out];rfl,hbw⟩
 ·have t0:((os1.length:Int) !=(os2.length:Int))=true:=by simp;omega
  have HN:Hid (os1≠os2):=fun e=>hlen (by rw[e]);clear hlen;go_enter Tryz.func381,Tryz.ntmps381;go_wp2
  go_ret
  exact⟨by rw[decide_eq_false HN.out];rfl,Below.refl _ _⟩
def smT (sp1 sp2:Int) (dp1 dp2:Int) (sq1 sq2:Int) (ak1 ak2:Int) (fl1 fl2:Int) (wn1 wn2:Int) (ur1 ur2:Int) (os1 os2:List Opt) (zm1 zm2:List Int):Bool:=sp1==sp2 && (dp1==dp2 && (sq1==sq2 && (ak1==ak2 && (fl1==fl2 && (wn1==wn2 && (ur1==ur2 && (decide (os1=os2) && decide (zm1=zm2))))))))
theorem zGw(sp1 sp2:Int)(dp1 dp2:Int)(sq1 sq2:Int)(ak1 ak2:Int)(fl1 fl2:Int)(wn1 wn2:Int)(ur1 ur2:Int)(sO1 sO2 sm1 sm2:Value)(os1 os2:List Opt)(zm1 zm2:List Int)(w:World)(hB1:ByO os1)(hB2:ByO os2)(hD1:Mt.By zm1)(hD2:Mt.By zm2)(hI1:RdO w.heap.size w sO1 os1)(hI2:RdO w.heap.size w sO2 os2)(hM1:Rd w.heap.size w sm1 zm1)(hM2:Rd w.heap.size w sm2 zm2):
  Calls Tryz.prog 369 #[.agg #[.int .u16 sp1,.int .u16 dp1,.int .u32 sq1,.int .u32 ak1,.int .u8 fl1,.int .u16 wn1,.int .u16 ur1,sO1,sm1],.agg #[.int .u16 sp2,.int .u16 dp2,.int .u32 sq2,.int .u32 ak2,.int .u8 fl2,.int .u16 wn2,.int .u16 ur2,sO2,sm2]] w fun e w'=>e= .returned (.bool (smT sp1 sp2 dp1 dp2 sq1 sq2 ak1 ak2 fl1 fl2 wn1 wn2 ur1 ur2 os1 os2 zm1 zm2))∧Below w.heap.size w w':=by
 obtain⟨aO1,cO1,rfl,_,_⟩:=hI1.slice;obtain⟨aO2,cO2,rfl,_,_⟩:=hI2.slice;obtain⟨am1,cm1,rfl,_,_⟩:=hM1.slice;obtain⟨am2,cm2,rfl,_,_⟩:=hM2.slice;have hbox:Below w.heap.size w ((w.alloc (.cells #[.int .u16 sp1,.int .u16 dp1,.int .u32 sq1,.int .u32 ak1,.int .u8 fl1,.int .u16 wn1,.int .u16 ur1,.slice aO1 os1.length cO1,.slice am1 zm1.length cm1] 32)).alloc (.cells #[.int .u16 sp2,.int .u16 dp2,.int .u32 sq2,.int .u32 ak2,.int .u8 fl2,.int .u16 wn2,.int .u16 ur2,.slice aO2 os2.length cO2,.slice am2 zm2.length cm2] 32)):=((Below.refl w.heap.size w).alloc (Nat.le_refl _) _).alloc (by simp) _;have s0:((w.alloc (.cells #[.int .u16 sp1,.int .u16 dp1,.int .u32 sq1,.int .u32 ak1,.int .u8 fl1,.int .u16 wn1,.int .u16 ur1,.slice aO1 os1.length cO1,.slice am1 zm1.length cm1] 32)).alloc (.cells #[.int .u16 sp2,.int .u16 dp2,.int .u32 sq2,.int .u32 ak2,.int .u8 fl2,.int .u16 wn2,.int .u16 ur2,.slice aO2 os2.length cO2,.slice am2 zm2.length cm2] 32)).heap[w.heap.size]? =some (.cells #[.int .u16 sp1,.int .u16 dp1,.int .u32 sq1,.int .u32 ak1,.int .u8 fl1,.int .u16 wn1,.int .u16 ur1,.slice aO1 os1.length cO1,.slice am1 zm1.length cm1] 32):=(Below.heap_alloc _ _ _ (by simp)).trans (heap_alloc_new w _)
 have s1:((w.alloc (.cells #[.int .u16 sp1,.int .u16 dp1,.int .u32 sq1,.int .u32 ak1,.int .u8 fl1,.int .u16 wn1,.int .u16 ur1,.slice aO1 os1.length cO1,.slice am1 zm1.length cm1] 32)).alloc (.cells #[.int .u16 sp2,.int .u16 dp2,.int .u32 sq2,.int .u32 ak2,.int .u8 fl2,.int .u16 wn2,.int .u16 ur2,.slice aO2 os2.length cO2,.slice am2 zm2.length cm2] 32)).heap[w.heap.size+1]? =some (.cells #[.int .u16 sp2,.int .u16 dp2,.int .u32 sq2,.int .u32 ak2,.int .u8 fl2,.int .u16 wn2,.int .u16 ur2,.slice aO2 os2.length cO2,.slice am2 zm2.length cm2] 32):=by have:=heap_alloc_new (w.alloc (.cells #[.int .u16 sp1,.int .u16 dp1,.int .u32 sq1,.int .u32 ak1,.int .u8 fl1,.int .u16 wn1,.int .u16 ur1,.slice aO1 os1.length cO1,.slice am1 zm1.length cm1] 32)) (.cells #[.int .u16 sp2,.int .u16 dp2,.int .u32 sq2,.int .u32 ak2,.int .u8 fl2,.int .u16 wn2,.int .u16 ur2,.slice aO2 os2.length cO2,.slice am2 zm2.length cm2] 32);simpa only[World.size_alloc]using this
 have S0:=zAd s0;have S1:=zAd s1;have HS:Hid (smT sp1 sp2 dp1 dp2 sq1 sq2 ak1 ak2 fl1 fl2 wn1 wn2 ur1 ur2 os1 os2 zm1 zm2=(sp1==sp2 && (dp1==dp2 && (sq1==sq2 && (ak1==ak2 && (fl1==fl2 && (wn1==wn2 && (ur1==ur2 && (decide (os1=os2) && decide (zm1=zm2)))))))))):=rfl;generalize smT sp1 sp2 dp1 dp2 sq1 sq2 ak1 ak2 fl1 fl2 wn1 wn2 ur1 ur2 os1 os2 zm1 zm2=r at*;clear s0 s1;cases h0:(sp1==sp2)
 ·rw[h0]at HS
  go_enter Tryz.func369,Tryz.ntmps369;go_wp2
  go_ret
  exact⟨by rw[HS.out];rfl,hbox⟩
 ·rw [h0]at HS
  cases h1:(dp1==dp2)
  ·rw[h1]at HS
   go_enter Tryz.func369,Tryz.ntmps369;go_wp2
   go_ret
   exact⟨by rw[HS.out];rfl,hbox⟩
  ·rw [h1]at HS
   cases h2:(sq1==sq2)
   ·rw[h2]at HS
    go_enter Tryz.func369,Tryz.ntmps369;go_wp2
    go_ret
    exact⟨by rw[HS.out];rfl,hbox⟩
   ·rw [h2]at HS
    cases h3:(ak1==ak2)
    ·rw[h3]at HS
     go_enter Tryz.func369,Tryz.ntmps369;go_wp2
     go_ret
     exact⟨by rw[HS.out];rfl,hbox⟩
    ·rw [h3]at HS
     cases h4:(fl1==fl2)
     ·rw[h4]at HS
      go_enter Tryz.func369,Tryz.ntmps369;go_wp2
      go_ret
      exact⟨by rw[HS.out];rfl,hbox⟩
     ·rw [h4]at HS
      cases h5:(wn1==wn2)
      ·rw[h5]at HS
       go_enter Tryz.func369,Tryz.ntmps369;go_wp2
       go_ret
       exact⟨by rw[HS.out];rfl,hbox⟩
      ·rw[h5]at HS
       cases h6:(ur1==ur2)
       ·rw[h6]at HS
        go_enter Tryz.func369,Tryz.ntmps369;go_wp2
        go_ret
        exact⟨by rw[HS.out];rfl,hbox⟩
       ·rw[h6]at HS
        simp only[Bool.true_and]at HS;go_enter Tryz.func369,Tryz.ntmps369;go_wp2_with fail;generalize (w.alloc (.cells #[.int .u16 sp1,.int .u16 dp1,.int .u32 sq1,.int .u32 ak1,.int .u8 fl1,.int .u16 wn1,.int .u16 ur1,.slice aO1 os1.length cO1,.slice am1 zm1.length cm1] 32)).alloc (.cells #[.int .u16 sp2,.int .u16 dp2,.int .u32 sq2,.int .u32 ak2,.int .u8 fl2,.int .u16 wn2,.int .u16 ur2,.slice aO2 os2.length cO2,.slice am2 zm2.length cm2] 32)=W0 at*;refine(zJi w.heap.size _ _ os1 os2 W0 hbox.size hB1 hB2 (hI1.below hbox) (hI2.below hbox)).mono ?_;rintro e w1 ⟨rfl,hb1⟩;have hw1:=hbox.trans (hb1.mono hbox.size);have K0:=zAa (zAb hb1 S0.out);have K1:=zAa (zAb hb1 S1.out);cases hd:decide (os1=os2)
        ·rw[hd]at HS
         go_wp2_with fail;go_ret
         exact⟨by rw[HS.out];rfl,hw1⟩
        ·rw[hd]at HS
         simp only[Bool.true_and]at HS;go_wp2_with fail;refine(zF8 _ _ zm1 zm2 w1 hD1 hD2 (hM1.below hw1) (hM2.below hw1)).mono ?_;rintro e w2 ⟨rfl,rfl⟩;go_wp2_with fail;go_ret
         exact⟨by rw[HS.out];rfl,hw1⟩
theorem RdO.laterP {A B:World} {v:Value} {os:List Opt} (h:RdO A.heap.size A v os)(l:Later A B):RdO B.heap.size B v os:=RdO.mono l.size (RdO.below l h)
theorem zU2(w:World)(A B C D:Obj):Later w ((((w.alloc A).alloc B).alloc C).alloc D)∧((((w.alloc A).alloc B).alloc C).alloc D).heap[w.heap.size]? =some A∧((((w.alloc A).alloc B).alloc C).alloc D).heap[w.heap.size+1]? =some B∧((((w.alloc A).alloc B).alloc C).alloc D).heap[w.heap.size+1+1]? =some C∧((((w.alloc A).alloc B).alloc C).alloc D).heap[w.heap.size+1+1+1]? =some D:=by
 obtain⟨l,a,b,c⟩:=zO0 w A B C;have la:=zAg (((w.alloc A).alloc B).alloc C) D;have d:=heap_alloc_new (((w.alloc A).alloc B).alloc C) D;have hs:(((w.alloc A).alloc B).alloc C).heap.size=w.heap.size+1+1+1:=by simp
 rw[hs]at d;exact⟨l.trans la,zAb la a,zAb la b,zAb la c,d⟩
theorem built_ok(src dst:Int)(oa da ob db:Option Addr)(lo co ld cd lp cp lq cq:Nat)(w:World):
  Calls Tryz.prog 370 #[.agg #[.int .u8 0,.int .u16 0,.bool false,.int .u8 64,.int .u8 6,.int .u32 src,.int .u32 dst,.slice oa lo co,.slice da ld cd],.agg #[.int .u8 0,.int .u16 0,.bool false,.int .u8 64,.int .u8 6,.int .u32 src,.int .u32 dst,.slice ob lp cp,.slice db lq cq],.int .i64 0] w fun e w'=>e= .returned (.agg #[.int .u8 0,.int .u16 0,.bool false,.int .u8 64,.int .u8 6,.int .u32 src,.int .u32 dst,.slice ob lp cp,.slice db lq cq])∧Later w w':=by
 obtain⟨l0,c0,c1,c2⟩:=zO0 w (.cells #[.int .u8 0,.int .u16 0,.bool false,.int .u8 64,.int .u8 6,.int .u32 src,.int .u32 dst,.slice oa lo co,.slice da ld cd] 40) (.cells #[.int .u8 0,.int .u16 0,.bool false,.int .u8 64,.int .u8 6,.int .u32 src,.int .u32 dst,.slice ob lp cp,.slice db lq cq] 40) (.cells #[.int .u8 0,.int .u16 0,.bool false,.int .u8 0,.int .u8 0,.int .u32 0,.int .u32 0,.slice none 0 0,.slice none 0 0] 40);have C1:=zAd c1;have C2:=zAd c2;clear c0 c1 c2;go_enter Tryz.func370,Tryz.ntmps370;go_upto_region 1 with fail;generalize hw1:World.alloc _ _=w1 at*;clear hw1;generalize hgx:w.heap.size=g0 at C1 C2⊢;have k1:=zAa C1.out;have k2:=zAa C2.out;have f2:=zAc C2.out;go_wp2_with fail;generalize hV:World.setCell _ ⟨_,8,none⟩ _=V8;have hV9:V8=zAi w1 (g0+1+1) 0 [.int .u8 0,.int .u16 0,.bool false,.int .u8 64,.int .u8 6,.int .u32 src,.int .u32 dst,.slice ob lp cp,.slice db lq cq]:=hV.symm;have hb8:But (fun b=>b=g0+1+1) w1 V8:=by rw[hV9];exact zAf (E:=fun b=>b=g0+1+1) (n:=g0+1+1) rfl _ _ _ _ (But.refl _ _)
 have p8:=zAe [.int .u8 0,.int .u16 0,.bool false,.int .u8 64,.int .u8 6,.int .u32 src,.int .u32 dst,.slice ob lp cp,.slice db lq cq] C2.out rfl;rw[←hV9]at p8;clear hV hV9;have P8:=zAa p8;exact bodyPost_ret (v:= .agg #[.int .u8 0,.int .u16 0,.bool false,.int .u8 64,.int .u8 6,.int .u32 src,.int .u32 dst,.slice ob lp cp,.slice db lq cq]) (by simp[results,Tryz.results370,go_sem,P8]) rfl ⟨rfl,Below.trans l0 (hb8.below l0.size (fun k hk e=>by have e':k=g0+1+1:=e;omega))⟩
theorem zIg(a:Array Value)(w:World)(g:Nat)(tos id ttl src dst:Int)(keep:Bool)(so sd:Value)(side:Int)(hsd:side=0∨side=1)(fb:Nat)(bk:Bool)(t0 t1 t2 t3 t4 i0 i1 i2 i3 i4:Int):
  Calls Tryz.prog 361 #[.agg #[.pointer (some ⟨g,0,none⟩),.int .u8 tos,.int .u16 id,.bool keep,.int .u8 ttl,.int .u8 6,.int .u32 src,.int .u32 dst,so,sd,.int .i64 side,.pointer (some ⟨fb,0,none⟩),.bool bk,.int .u8 t0,.int .u32 t1,.int .u32 t2,.int .u16 t3,.int .u16 t4,.int .u8 i0,.int .u32 i1,.int .u32 i2,.int .u16 i3,.int .u16 i4]] w fun e w'=>e= .returned (.bool (side==0))∧Later w w':=by
 go_enter Tryz.func361,Tryz.ntmps361;go_wp2_with fail;go_ret
 exact⟨rfl,zAg _ _⟩
theorem zC5 {W:World} {b:Nat} {xs:List Value} {t:TypeId} (h:W.heap[b]? =some (.cells xs.toArray t (0,0))):W.rangeAt b 0 xs:=fun j v hv=>by
 rw[Nat.zero_add,zAa h j];simpa using hv
theorem zFu:(Tryz.prog.info? 242).map (·.size)=some 23:=by kernel_rfl
theorem Kgl.ow8 {base n0:Nat} {A B:World} {v:Value} {zs:List Int} (h:Ow n0 A v zs)(k:Kgl base A B):Ow n0 B v zs:=by
 rcases h with h|⟨g,cap,c,h1,h2,h3,h4,h5,h6,h7⟩
 ·exact .inl h
 ·exact .inr ⟨g,cap,c,h1,h2,h3,h4,h5,k.cells h6 (by decide),h7⟩
theorem zU3(g hb:Nat)(f:Fl)(tos id ttl src dst:Int)(keep:Bool)(so sd:Value)(side:Int)(bk:Bool)(t0 t1 t2 t3 t4 i0 i1 i2 i3 i4 sp dp sq ak fl wn ur:Int)(aO ad:Option Addr)(n cO cd:Nat)(w:World)
  (hsd:side=0∨side=1)(hF:∀W,Later w W→Calls Tryz.prog 10 #[.slice ad n cd,.bool bk] W fun e w'=>e= .returned (.tuple #[.agg #[.int .i64 0,.int .i64 0,.int .i64 0,.int .u32 0,.int .u16 0],.bool false])∧Later W w'):
  Calls Tryz.prog 358 #[.pointer (some ⟨hb,0,none⟩),.agg #[.pointer (some ⟨g,0,none⟩),.int .u8 tos,.int .u16 id,.bool keep,.int .u8 ttl,.int .u8 6,.int .u32 src,.int .u32 dst,so,sd,.int .i64 side,.pointer (some ⟨f.blk,0,none⟩),.bool bk,.int .u8 t0,.int .u32 t1,.int .u32 t2,.int .u16 t3,.int .u16 t4,.int .u8 i0,.int .u32 i1,.int .u32 i2,.int .u16 i3,.int .u16 i4],.agg #[.int .u16 sp,.int .u16 dp,.int .u32 sq,.int .u32 ak,.int .u8 fl,.int .u16 wn,.int .u16 ur,.slice aO 0 cO,.slice ad n cd]] w fun e w'=>e= .returned (.slice ad n cd)∧Later w w':=by
 obtain⟨l0,c0,c1⟩:=zBa w (.cells #[.pointer (some ⟨g,0,none⟩),.int .u8 tos,.int .u16 id,.bool keep,.int .u8 ttl,.int .u8 6,.int .u32 src,.int .u32 dst,so,sd,.int .i64 side,.pointer (some ⟨f.blk,0,none⟩),.bool bk,.int .u8 t0,.int .u32 t1,.int .u32 t2,.int .u16 t3,.int .u16 t4,.int .u8 i0,.int .u32 i1,.int .u32 i2,.int .u16 i3,.int .u16 i4] 242) (.cells #[.int .u16 sp,.int .u16 dp,.int .u32 sq,.int .u32 ak,.int .u8 fl,.int .u16 wn,.int .u16 ur,.slice aO 0 cO,.slice ad n cd] 32);have C0:=zAd c0;have C1:=zAd c1;have HF:=zAd (hF _ l0);clear c0 c1 hF;go_enter Tryz.func358,Tryz.ntmps358;go_upto_region 1 with fail;change Code.wp _ _ _ _ ((w.alloc (.cells #[.pointer (some ⟨g,0,none⟩),.int .u8 tos,.int .u16 id,.bool keep,.int .u8 ttl,.int .u8 6,.int .u32 src,.int .u32 dst,so,sd,.int .i64 side,.pointer (some ⟨f.blk,0,none⟩),.bool bk,.int .u8 t0,.int .u32 t1,.int .u32 t2,.int .u16 t3,.int .u16 t4,.int .u8 i0,.int .u32 i1,.int .u32 i2,.int .u16 i3,.int .u16 i4] 242)).alloc (.cells #[.int .u16 sp,.int .u16 dp,.int .u32 sq,.int .u32 ak,.int .u8 fl,.int .u16 wn,.int .u16 ur,.slice aO 0 cO,.slice ad n cd] 32))
 generalize (w.alloc (.cells #[.pointer (some ⟨g,0,none⟩),.int .u8 tos,.int .u16 id,.bool keep,.int .u8 ttl,.int .u8 6,.int .u32 src,.int .u32 dst,so,sd,.int .i64 side,.pointer (some ⟨f.blk,0,none⟩),.bool bk,.int .u8 t0,.int .u32 t1,.int .u32 t2,.int .u16 t3,.int .u16 t4,.int .u8 i0,.int .u32 i1,.int .u32 i2,.int .u16 i3,.int .u16 i4] 242)).alloc (.cells #[.int .u16 sp,.int .u16 dp,.int .u32 sq,.int .u32 ak,.int .u8 fl,.int .u16 wn,.int .u16 ur,.slice aO 0 cO,.slice ad n cd] 32)=w1 at*;generalize hgx:w.heap.size=gx at C0 C1⊢;have k0:=zAa C0.out;have k1:=zAa C1.out;go_wp2_with fail;refine HF.out.mono ?_;rintro e w2 ⟨rfl,l2⟩;have l2':Later w1 w2:=l2;have E0:=zAd (zAb l2' C0.out);have E1:=zAd (zAb l2' C1.out);clear k0 k1 l2 HF;have la:=zAg w2 (.cells #[.int .i64 0,.int .i64 0,.int .i64 0,.int .u32 0,.int .u16 0] 44);go_upto_region 2 with fail;change Code.wp _ _ _ _ (w2.alloc (.cells #[.int .i64 0,.int .i64 0,.int .i64 0,.int .u32 0,.int .u16 0] 44));generalize w2.alloc (.cells #[.int .i64 0,.int .i64 0,.int .i64 0,.int .u32 0,.int .u16 0] 44)=w3 at*;generalize w2.heap.size=g2 at*;have L3:Later w w3:=l0.trans (l2'.trans la);have F0:=zAd (zAb la E0.out);have F1:=zAd (zAb la E1.out);clear E0 E1 l0 la l2'
 have HRG:=zAd (zC5 (xs:=[.pointer (some ⟨g,0,none⟩),.int .u8 tos,.int .u16 id,.bool keep,.int .u8 ttl,.int .u8 6,.int .u32 src,.int .u32 dst,so,sd,.int .i64 side,.pointer (some ⟨f.blk,0,none⟩),.bool bk,.int .u8 t0,.int .u32 t1,.int .u32 t2,.int .u16 t3,.int .u16 t4,.int .u8 i0,.int .u32 i1,.int .u32 i2,.int .u16 i3,.int .u16 i4]) F0.out);go_wp2_with (refine wpList_load_mid rfl 242 (.tmp 4) rfl gx 0 rfl _ _ HRG.out Tryz.underlying242 rfl zFu ?_)
 refine(zIg #[] w3 g tos id ttl src dst keep so sd side hsd f.blk bk t0 t1 t2 t3 t4 i0 i1 i2 i3 i4).mono ?_;rintro e w4 ⟨rfl,l4⟩;have l4':Later w3 w4:=l4;have G1:=zAd (zAb l4' F1.out);have L4:Later w w4:=L3.trans l4';clear F0 F1 HRG l4;have k1:=zAa G1.out;rcases hsd with rfl|rfl
 ·rw[show ((0:Int)==0)=true from rfl]
  go_wp2_with fail;go_ret
  exact⟨rfl,L4⟩
 ·rw[show ((1:Int)==0)=false from rfl]
  go_wp2_with fail;go_ret
  exact⟨rfl,L4⟩
end Go.Proofs.YteaeilghamjjkaaGreatDoor
