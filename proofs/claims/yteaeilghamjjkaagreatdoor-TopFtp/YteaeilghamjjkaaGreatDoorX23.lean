import Derived.Test.YteaeilghamjjkaaGreatDoorX24
import Derived.Deep.DeepCutAuto
import Derived.Deep.CutBlock
import Derived.ChangeKeysEq
namespace Go.Proofs.YteaeilghamjjkaaGreatDoor
set_option maxHeartbeats 4000000
open Go.RowKit Go.Shelf
set_option maxRecDepth 100000
attribute [local go_sem] Oper.semAt_some
set_option linter.unusedVariables false
set_option linter.unusedSimpArgs false
abbrev It:=Value × Option Opt
def encI (x:It):Array Value:=#[x.1,.bool x.2.isSome]
def XI (n₁ N:Nat) (pre:List It) (x:It) (V:World):Prop:=pre.length≤N∧
 match x.2 with
 |some o=>∃s,x.1= .agg #[.int .u8 o.1,s]∧Ow n₁ V s o.2
 |none=>x.1= .agg #[.int .u8 0,.slice none 0 0]
def SI (zs:List Int) (xs:List It):Prop:=(∃os,zCf zs=some os∧xs.map (·.2)=os.map some)∨(zCf zs=none∧∃l v,xs=l++[(v,none)])
def SpI (zs:List Int) (xs:List It):Prop:=(∃l v,xs=l++[(v,none)])→zCf zs=none
def InvI (zs:List Int) (p:Nat) (pre:List It):Prop:=pre.length≤p∧∃os,pre.map (·.2)=os.map some∧zCf zs=(zCf (zs.drop p)).map (os++ ·)
theorem InvI.zero(zs:List Int):InvI zs 0 []:=⟨Nat.le_refl _,[],rfl,by rw[List.drop_zero];cases zCf zs<;>rfl⟩
theorem InvI.bad {zs:List Int} {p:Nat} {pre:List It} (h:InvI zs p pre)(hn:zCf (zs.drop p)=none):zCf zs=none:=by
 obtain⟨_,os,_,h2⟩:=h;rw[h2,hn];rfl
theorem InvI.done {zs:List Int} {p:Nat} {pre:List It} (h:InvI zs p pre)(hn:zCf (zs.drop p)=some []):SI zs pre:=by
 obtain⟨_,os,h1,h2⟩:=h;exact .inl ⟨os,by rw[h2,hn];simp,h1⟩
theorem InvI.next {zs:List Int} {p q:Nat} {pre:List It} {o:Opt} {v:Value} (h:InvI zs p pre)(hq:p+1≤q)(hn:zCf (zs.drop p)=(zCf (zs.drop q)).map (o:: ·)):InvI zs q (pre++[(v,some o)]):=by
 obtain⟨hl,os,h1,h2⟩:=h;refine⟨by simp;omega,os++[o],by simp[h1],?_⟩;rw[h2,hn];cases zCf (zs.drop q)<;>simp
theorem zEm(l:Nat)(J:Act→World→Prop)(Q:Exit→Act→World→Prop)(a:Act)(w:World):Exit.jump l J Q .ret a w=Q .ret a w:=rfl
theorem zGh(l:Nat)(J:Act→World→Prop)(Q:Exit→Act→World→Prop)(a:Act)(w:World):Exit.jump l J Q .normal a w=Q .normal a w:=rfl
theorem KB.later {n₀ Bs:Nat} {A B:World} (h1:n₀≤A.heap.size)(h2:Bs<A.heap.size)(h:Later A B):KB n₀ Bs A B:=⟨h.mono h1,h.block Bs h2⟩
theorem zTi {pre:List It} {v:Value} {o:Opt} (h:∃l v',pre++[(v,some o)]=l++[((v':Value),(none:Option Opt))]):False:=by
 obtain⟨l,v',h⟩:=h;have h3:=congrArg List.getLast? h
 simp at h3
theorem zTj(zs:List Int)(p:Nat)(h:p<zs.length):zs.drop p=zs[p]?.getD 0::zs.drop (p+1):=by
 rw[List.drop_eq_getElem_cons h];simp[h]
theorem walk1_in(n:Nat)(hn:1≤n)(l Bs n₀ n₁ b off cap:Nat)(zs:List Int)(hB:Mt.By zs)(hreach:zs.length≤cap)(hcap:cap≤9223372036854775807)(hlen:zs.length≤140737488355328)(hb:b<n₀)(J Jx:List It→World→Prop)
  (hJ:∀s A B,J s A→Later A B→J s B)
  (hY:∀pre x V,J pre V→XI n₁ zs.length pre x V→YieldAt Fence.wide (n-1) Tryz.prog l (encI x) V fun e V'=>(e= .returned (.bool true)∧J (pre++[x]) V'∧KB n₀ Bs V V')∨(e= .returned (.bool false)∧Jx (pre++[x]) V'))
  (W:World)(hn1:n₁≤W.heap.size)(hBs:W.cell? ⟨Bs,0,none⟩=some (.slice (some ⟨b,off,none⟩) zs.length cap))(hBl:Bs<W.heap.size)(hn0:n₀≤W.heap.size)(hc:∀j,j<zs.length→W.cell? ⟨b,off+j,none⟩=some (.int .u8 (zs[j]?.getD 0)))(h0:J [] W):
  CallsIn Fence.wide n Tryz.prog 178 #[.func (.yield l) #[] #[],.pointer (some ⟨Bs,0,none⟩)] W fun e W'=>(∃v,e= .returned v)∧((∃xs,SI zs xs∧J xs W')∨(∃pre,SpI zs pre∧Jx pre W')):=by
 refine callsIn_of_wp Tryz.func178 rfl trivial ?_ rfl;simp only[Tryz.ntmps178,List.size_toArray,List.length_cons,List.length_nil,Nat.reduceAdd,Nat.reduceSub,Array.replicate_succ,Array.replicate_zero,List.push_toArray,List.append_toArray,List.nil_append,List.cons_append];refine wpIn_wide.2 (wp_scope_jumps 0 (fun a w=>∃(tl:List Value) (pre:List It),tl.length=49∧a= { tmps:=(Value.func (.yield l) #[] #[]:: .pointer (some ⟨Bs,0,none⟩)::tl).toArray,defers:=[] } ∧J pre w∧zCf zs=none∧pre.length≤zs.length) (fun _ _=>0) rfl ((wpIn_wide (n:=n)).1 ?_) (fun a w hJ1=>(wpIn_wide (n:=n)).1 ?_))
 ·have HC :=zAd hc
  clear hc;gi_wp2
  gi_loopw [3] (fun i wr=>∃(p:Nat) (pre:List It),p≤zs.length∧i= .int .i64 (p:Int)∧InvI zs p pre∧J pre wr∧KB n₀ Bs W wr) (fun i _=>zs.length-(intOf i).toNat)
  case atStart=>exact⟨0,[],by omega,rfl,InvI.zero zs,h0,KB.refl _ _ _⟩
  case round=>
   obtain⟨p,pre,hp,rfl,hinv,hJs,hnx⟩:=hrel;have hbx:wr.cell? ⟨Bs,0,none⟩=some (.slice (some ⟨b,off,none⟩) zs.length cap):=hnx.box.trans hBs;have hcx:∀j,j<zs.length→wr.cell? ⟨b,off+j,none⟩=some (.int .u8 (zs[j]?.getD 0)):=fun j h=>(hnx.1.cell (p:=⟨b,off+j,none⟩) hb).trans (HC.out j h);by_cases hlt:p<zs.length
   ·have c0:=hcx p hlt
    have b0:=hB.at p;have HD:=zAd (zTj zs p hlt);have hlt':(p:Int)<zs.length:=by omega
    have hRr:Rd n₀ wr (.slice (some ⟨b,off+p,none⟩) (zs.length-p) (cap-p)) (zs.drop p):= .inr ⟨b,off+p,cap-p,by simp,by intro e;have:=congrArg List.length e;simp at this;omega,by simp;omega,by omega,hb,fun j hj=>by
     have h9:=hcx (p+j) (by simp at hj;omega);rw[show off+p+j=off+(p+j)from by omega,h9];simp[List.getElem?_drop]⟩
    have HRR:=zAd hRr;have c1:p+1<zs.length→wr.cell? ⟨b,off+p+1,none⟩=some (.int .u8 (zs[p+1]?.getD 0)):=fun h=>by have:=hcx (p+1) h;rw[←Nat.add_assoc]at this;exact this
    have HC1:=zAd c1;clear hcx c1;have hn0':n₀≤wr.heap.size:=Nat.le_trans hn0 hnx.1.size;have hBl':Bs<wr.heap.size:=Nat.lt_of_lt_of_le hBl hnx.1.size;generalize hx:zs[p]?.getD 0=x at c0 b0 HD;have HX:=zAd hx;have hcp:(zs.length-p:Nat)≤cap-p:=by omega
    clear hx hRr;by_cases x0:x=0
    ·have t0:(x==0)=true:=by simp[x0]
     have X0:=zAd x0;clear x0;gi_wp2
     refine⟨trivial,?_⟩;refine(callsIn_wide.2 (zTh n₀ (.slice (some ⟨b,off+p,none⟩) (zs.length-p) (cap-p)) (zs.drop p) _ HRR.out (by simp;omega))).mono ?_;rintro e w' ⟨rfl,rfl⟩;cases hz:azb (zs.drop p) with
     |true=>
      gi_wp2
      rw[zEm];refine bodyPost_ret (results_none rfl _ _ _) rfl ?_;refine⟨⟨_,rfl⟩,.inl ⟨pre,hinv.done ?_,hJs⟩⟩;have h1:=of_decide_eq_true hz;rw[HD.out]at h1⊢;rw[X0.out,zGf,if_pos (fun y hy=>h1 y (by simp[hy]))]
     | false=>
      have hno:zCf (zs.drop p)=none:=by
       have h1:=of_decide_eq_false hz;rw[HD.out]at h1⊢;rw[X0.out]at h1⊢;rw[zGf,if_neg (fun h=>h1 (fun y hy=>by rcases List.mem_cons.1 hy with h'|h';exact h';exact h y h'))]
      gi_wp2
      refine wpIn_goto ⟨rfl,_,pre,?_,rfl,hJs,hinv.bad hno,Nat.le_trans hinv.1 hp⟩;rfl
    ·have t0:(x==0)=false:=by simp[x0]
     have X0:=zAd x0;clear x0;by_cases x1:x=1
     ·have t1:(x==1)=true:=by simp[x1]
      subst x1;have hT0:((zs.drop p).take 1)[0]?.getD 0=1:=by rw[HD.out];rfl
      have hBt:Mt.By ((zs.drop p).take 1):=(hB.drop p).take 1;have hTw:((zs.drop p).take 1)[0]?.getD 0≠1→2≤((zs.drop p).take 1).length:=fun h=>(h hT0).elim;have hRt':∀v,Rd n₀ wr v ((zs.drop p).take 1)→Rd wr.heap.size wr v ((zs.drop p).take 1):=fun _ h=>h.mono hn0';have hn1':n₁≤wr.heap.size:=Nat.le_trans hn1 hnx.1.size;gi_wp2
      refine⟨trivial,?_⟩;have hRt:=HRR.out.take 1 (by omega);refine(callsIn_wide.2 (zFj _ ((zs.drop p).take 1) wr (hRt' _ hRt) hBt (by simp;omega) (by simp;omega) hTw)).mono ?_;rw[hT0];rintro e V ⟨hbV,s,rfl,hOs⟩;rw[if_pos rfl]at hOs;obtain⟨fn,tmps,assign,body,hy,hR⟩:=hY pre (.agg #[.int .u8 1,s],some (1,[])) V (hJ _ _ _ hJs hbV) ⟨Nat.le_trans hinv.1 hp,s,rfl,hOs.mono hn1'⟩;dsimp only[encI,Option.isSome]at hy
      have hbx2:V.cell? ⟨Bs,0,none⟩=some (.slice (some ⟨b,off,none⟩) zs.length cap):=(hbV.cell (p:=⟨Bs,0,none⟩) hBl').trans hbx;gi_wp2
      refine hR.mono ?_;rintro e W3 (⟨rfl,hJ3,hk3⟩|⟨rfl,hJx3⟩)
      ·gi_wp2
       go_roundw
       case rel=>exact⟨p+1,_,by omega,by go_num,hinv.next (by omega) (by rw[HD.out,zO8]),hJ3,hnx.trans ((KB.later hn0' hBl' hbV).trans hk3)⟩
       case measure=>simp[intOf];omega
      ·gi_wp2
       rw[zEm];refine bodyPost_ret (results_none rfl _ _ _) rfl ?_;exact⟨⟨_,rfl⟩,.inr ⟨_,fun hl=>(zTi hl).elim,hJx3⟩⟩
     ·have t1:(x==1)=false:=by simp[x1]
      have X1:=zAd x1;clear x1;by_cases hs2:zs.length-p<2
      ·have hno:zCf (zs.drop p)=none:=by
        rw[HD.out,List.drop_of_length_le (by omega)];exact zTd x X0.out X1.out
       have t2:((zs.length-p:Nat):Int)<2:=by omega
       gi_wp2
       refine wpIn_goto ⟨rfl,_,pre,?_,rfl,hJs,hinv.bad hno,Nat.le_trans hinv.1 hp⟩;rfl
      ·have hp1:p+1<zs.length:=by omega
       have t2:¬((zs.length-p:Nat):Int)<2:=by omega
       have c1:=HC1.out hp1;have b1:=hB.at (p+1);have HD2:=zAd (zTj zs (p+1) hp1);have i1:(1:Int)<((zs.length-p:Nat):Int):=by omega
       clear HC1;generalize hz:zs[p+1]?.getD 0=z at c1 b1 HD2;have HZ:=zAd hz;clear hz;by_cases hz2:z<2
       ·have hno:zCf (zs.drop p)=none:=by rw[HD.out,HD2.out];exact zHw x z _ X0.out X1.out (.inl hz2)
        gi_wp2
        refine wpIn_goto ⟨rfl,_,pre,?_,rfl,hJs,hinv.bad hno,Nat.le_trans hinv.1 hp⟩;rfl
       ·by_cases hzl:((zs.length-p:Nat):Int)<z
        ·have hno:zCf (zs.drop p)=none:=by rw[HD.out,HD2.out];exact zHw x z _ X0.out X1.out (.inr (by simp;omega))
         gi_wp2
         refine wpIn_goto ⟨rfl,_,pre,?_,rfl,hJs,hinv.bad hno,Nat.le_trans hinv.1 hp⟩;rfl
        ·obtain ⟨m,rfl⟩:=Int.eq_ofNat_of_zero_le b1.1
         have hm2:2≤m:=by omega
         have hml:p+m≤zs.length:=by omega
         have hT0:((zs.drop p).take m)[0]?.getD 0=x:=by rw[HD.out];cases m with|zero=>omega|succ k=>rfl
         have hBt:Mt.By ((zs.drop p).take m):=(hB.drop p).take m;have hTw:((zs.drop p).take m)[0]?.getD 0≠1→2≤((zs.drop p).take m).length:=fun _=>by simp;omega
         have hRt':∀v,Rd n₀ wr v ((zs.drop p).take m)→Rd wr.heap.size wr v ((zs.drop p).take m):=fun _ h=>h.mono hn0';have hn1':n₁≤wr.heap.size:=Nat.le_trans hn1 hnx.1.size
         have hni:zCf (zs.drop p)=(zCf (zs.drop (p+m))).map ((x,((zs.drop p).take m).drop 2):: ·):=by
          have e1:zs.drop p=x::(m:Int)::zs.drop (p+2):=by rw[HD.out,HD2.out]
          have h9:=zKl x (m:Int) (zs.drop (p+2)) X0.out X1.out (by omega) (by simp;omega);rw[←e1]at h9;rw[h9,List.drop_drop]
          have e2:((zs.drop p).take m).drop 2=(zs.drop (p+2)).take ((m:Int).toNat-2):=by
           rw[List.drop_take,List.drop_drop];simp
          rw[e2,show p+2+((m:Int).toNat-2)=p+m from by omega]
         gi_wp2
         refine⟨trivial,?_⟩;have hRt:=HRR.out.take m (by omega);refine(callsIn_wide.2 (zFj _ ((zs.drop p).take m) wr (hRt' _ hRt) hBt (by simp;omega) (by simp;omega) hTw)).mono ?_;rw[hT0];rintro e V ⟨hbV,s,rfl,hOs⟩;rw[if_neg X1.out]at hOs;obtain⟨fn,tmps,assign,body,hy,hR⟩:=hY pre (.agg #[.int .u8 x,s],some (x,((zs.drop p).take m).drop 2)) V (hJ _ _ _ hJs hbV) ⟨Nat.le_trans hinv.1 hp,s,rfl,hOs.mono hn1'⟩;dsimp only[encI,Option.isSome]at hy
         have hbx2:V.cell? ⟨Bs,0,none⟩=some (.slice (some ⟨b,off,none⟩) zs.length cap):=(hbV.cell (p:=⟨Bs,0,none⟩) hBl').trans hbx;gi_wp2
         refine hR.mono ?_;rintro e W3 (⟨rfl,hJ3,hk3⟩|⟨rfl,hJx3⟩)
         ·gi_wp2
          go_roundw
          case rel=>exact⟨p+m,_,by omega,by go_num,hinv.next (by omega) hni,hJ3,hnx.trans ((KB.later hn0' hBl' hbV).trans hk3)⟩
          case measure=>simp[intOf];omega
         ·gi_wp2
          rw[zEm];refine bodyPost_ret (results_none rfl _ _ _) rfl ?_;exact⟨⟨_,rfl⟩,.inr ⟨_,fun hl=>(zTi hl).elim,hJx3⟩⟩
   ·obtain rfl:p=zs.length:=by omega
    clear hcx;gi_wp2
    rw[zEm];refine bodyPost_ret (results_none rfl _ _ _) rfl ?_;exact⟨⟨_,rfl⟩,.inl ⟨pre,hinv.done (by rw[List.drop_of_length_le (Nat.le_refl _)];rfl),hJs⟩⟩
 ·obtain ⟨tl,pre,htl,rfl,hJs,hno,hpl⟩:=hJ1
  obtain⟨v0,v1,v2,v3,v4,v5,v6,v7,v8,v9,v10,v11,v12,v13,v14,v15,v16,v17,v18,v19,v20,v21,v22,v23,v24,v25,v26,v27,v28,v29,v30,v31,v32,v33,v34,v35,v36,v37,v38,v39,v40,v41,v42,v43,v44,v45,v46,v47,v48,rfl⟩:=list49 htl;have HNO:=zAd hno;clear hno htl;obtain⟨fn,tmps,assign,body,hy,hR⟩:=hY pre (.agg #[.int .u8 0,.slice none 0 0],none) w hJs ⟨hpl,rfl⟩;dsimp only[encI,Option.isSome]at hy
  gi_wp2
  refine hR.mono ?_;rintro e W3 (⟨rfl,hJ3,hk3⟩|⟨rfl,hJx3⟩)
  ·gi_wp2
   rw[zGh];go_end0
   exact⟨⟨_,rfl⟩,.inl ⟨_,.inr ⟨HNO.out,_,_,rfl⟩,hJ3⟩⟩
  ·gi_wp2
   rw[zGh];go_end0
   exact⟨⟨_,rfl⟩,.inr ⟨_,fun _=>HNO.out,hJx3⟩⟩
def zEb (os:List Opt) (ss:List Value):List Value:=(os.zip ss).flatMap fun p=>[.int .u8 p.1.1,p.2]
theorem zEa:∀(os:List Opt) (ss:List Value),ss.length=os.length→(zEb os ss).length=os.length*2
 | [],[],_=>rfl
 |o::os,s::ss,h=>by
  have ih:=zEa os ss (by simpa using h);unfold zEb at ih⊢;simp only[List.zip_cons_cons,List.flatMap_cons,List.length_append,List.length_cons,List.length_nil]at ih⊢;omega
theorem zE8:∀(os:List Opt) (ss:List Value),ss.length=os.length→∀j,j<os.length→(zEb os ss)[j*2]? =some (.int .u8 (os[j]?.getD (0,[])).1)∧(zEb os ss)[j*2+1]? =some (ss[j]?.getD undef)
 |o::os,s::ss,_,0,_=>by simp[zEb]
 |o::os,s::ss,h,j+1,hj=>by
  have ih:=zE8 os ss (by simpa using h) j (by simpa using hj);unfold zEb at ih⊢;simp only[List.zip_cons_cons,List.flatMap_cons,List.cons_append,List.nil_append];rw[show (j+1)*2=j*2+1+1 from by omega];simpa using ih
theorem zTk(os:List Opt)(ss:List Value)(h:ss.length=os.length)(o:Opt)(s:Value):zEb (os++[o]) (ss++[s])=zEb os ss++[.int .u8 o.1,s]:=by
 unfold zEb;rw[List.zip_append h.symm];simp
def OwO (base:Nat) (W:World) (v:Value) (os:List Opt):Prop:=
 ∃ss,ss.length=os.length∧W.ownsRow base 244 2 v os.length (zEb os ss)∧∀j,j<os.length→Ow base W (ss[j]?.getD undef) (os[j]?.getD (0,[])).2
def CK (A B:World):Prop:=A.heap.size≤B.heap.size∧∀(k:Nat) (o:Obj),A.heap[k]? =some o→o.isCells=true→B.heap[k]? =some o
theorem CK.of {A B:World} (h:Later A B):CK A B:=⟨h.size,fun k o ho _=>zAb h ho⟩
theorem CK.row {A B:World} {row:Option Nat} (hg:A.grownBy B row)(hr:∀r,row=some r→∃o:Obj,A.heap[r]? =some o∧o.isCells=false):CK A B:=
 ⟨hg.size,fun k o ho hc=>(hg.block k (eS ho) (fun e=>by obtain⟨o',h1,h2⟩:=hr k e.symm;rw[ho]at h1;cases h1;rw[hc]at h2;cases h2)).trans ho⟩
theorem CK.put {A:World} {l:Nat} {o o':Obj} (h:A.heap[l]? =some o)(hc:o.isCells=false):CK A (A.putObj l o'):=
 CK.row (grownBy_putObj' A l o') (fun r e=>by cases e;exact⟨o,h,hc⟩)
theorem Ow.ck {base:Nat} {A B:World} {v:Value} {zs:List Int} (h:Ow base A v zs)(c:CK A B):Ow base B v zs:=by
 rcases h with h|⟨g,cap,cur,h1,h2,h3,h4,h5,h6,h7⟩
 ·exact .inl h
 ·exact .inr ⟨g,cap,cur,h1,h2,h3,h4,h5,c.2 g _ h6 rfl,h7⟩
theorem zCv {base:Nat} {e:TypeId} {size:Nat} {A B:World} {v:Value} {n:Nat} {xs:List Value} (h:A.ownsRow base e size v n xs)(c:CK A B):B.ownsRow base e size v n xs:=by
 refine⟨h.1,h.2.imp id ?_⟩;rintro⟨g,cap,cur,h1,h2,h3,r⟩;exact⟨g,cap,cur,h1,h2,c.2 g _ h3 rfl,r⟩
theorem OwO.ck {base:Nat} {A B:World} {v:Value} {os:List Opt} (h:OwO base A v os)(c:CK A B):OwO base B v os:=by
 obtain⟨ss,h1,h2,h3⟩:=h;exact⟨ss,h1,zCv h2 c,fun j hj=>(h3 j hj).ck c⟩
theorem OwO.nil(base:Nat)(W:World):OwO base W (.slice none 0 0) []:=⟨[],rfl,World.ownsRow_nil _ _ _ _,fun j h=>by simp at h⟩
theorem OwO.mono {base base':Nat} {W:World} {v:Value} {os:List Opt} (h:OwO base W v os)(hb:base'≤base):OwO base' W v os:=by
 obtain⟨ss,h1,h2,h3⟩:=h;refine⟨ss,h1,⟨h2.1,h2.2.imp id ?_⟩,fun j hj=>(h3 j hj).mono hb⟩;rintro⟨g,cap,cur,h1,h2,r⟩;exact⟨g,cap,cur,h1,by omega,r⟩
theorem OwO.but {base:Nat} {E:Nat→Prop} {A B:World} {v:Value} {os:List Opt} (h:OwO base A v os)(hb:But E A B)(hE:∀b,base≤b→¬E b):OwO base B v os:=by
 obtain⟨ss,h1,h2,h3⟩:=h;refine⟨ss,h1,⟨h2.1,h2.2.imp id ?_⟩,fun j hj=>(h3 j hj).but hb hE⟩;rintro⟨g,cap,cur,h1,h2,h3,r⟩;exact⟨g,cap,cur,h1,h2,(hb.block g (eS h3) (hE g h2)).trans h3,r⟩
theorem OwO.rd {base:Nat} {W:World} {v:Value} {os:List Opt} (h:OwO base W v os):RdO W.heap.size W v os:=by
 obtain⟨ss,h1,h2,h3⟩:=h;rcases h2.2 with⟨rfl,hn⟩|⟨g,cap,cur,rfl,hg,hh,hl,hm,hs,hc⟩
 ·exact .inl ⟨none,0,rfl,List.eq_nil_of_length_eq_zero hn,by omega,fun _=>rfl⟩
 ·by_cases h0:os=[]
  ·subst h0
   exact .inl ⟨_,cap,rfl,rfl,by simpa[maxLen]using hm,fun h=>by cases h⟩
  ·refine .inr ⟨g,0,cap,rfl,h0,hl,by simpa[maxLen]using hm,(eS hh),fun j hj=> ?_⟩
   have hat:=zE8 os ss h1 j hj
   have hk:∀i,i<os.length*2→W.cell? ⟨g,0+i,none⟩=(zEb os ss)[i]? :=fun i hi=>by
    rw[Nat.zero_add,zAa hh i,←hc,List.getElem?_take_of_lt hi];simp
   refine⟨ss[j]?.getD undef,by rw[hk _ (by omega)];exact hat.1,by rw[Nat.add_assoc,hk _ (by omega)];exact hat.2,(h3 j hj).rd⟩
theorem OwO.slice {base:Nat} {W:World} {v:Value} {os:List Opt} (h:OwO base W v os):∃a cap,v= .slice a os.length cap∧os.length≤cap∧cap≤9223372036854775807:=h.rd.slice
attribute [local go_sem] Oper.semAt_some
theorem zTl(n:Nat)(l Bs:Nat)(a:Option Addr)(cap:Nat)(J:List It→World→Prop)(W:World)(hBs:W.cell? ⟨Bs,0,none⟩=some (.slice a 0 cap))(h0:J [] W):
  CallsIn Fence.wide n Tryz.prog 178 #[.func (.yield l) #[] #[],.pointer (some ⟨Bs,0,none⟩)] W fun e W'=>(∃v,e= .returned v)∧J [] W':=by
 refine callsIn_of_wp Tryz.func178 rfl trivial ?_ rfl;simp only[Tryz.ntmps178,List.size_toArray,List.length_cons,List.length_nil,Nat.reduceAdd,Nat.reduceSub,Array.replicate_succ,Array.replicate_zero,List.push_toArray,List.append_toArray,List.nil_append,List.cons_append];refine wpIn_wide.2 (wp_scope_jumps 0 (fun a w=>False) (fun _ _=>0) rfl ((wpIn_wide (n:=n)).1 ?_) (fun a w hJ1=>hJ1.elim));gi_wp2
 gi_loopw [3] (fun i wr=>i= .int .i64 0∧J [] wr∧wr.cell? ⟨Bs,0,none⟩=some (.slice a 0 cap)) (fun _ _=>0)
 case atStart=>exact⟨rfl,h0,hBs⟩
 case round=>
  obtain⟨rfl,hJs,hbx⟩:=hrel;gi_wp2
  rw[zEm];refine bodyPost_ret (results_none rfl _ _ _) rfl ?_;exact⟨⟨_,rfl⟩,hJs⟩
theorem walk_in(n:Nat)(a:Option Addr)(len cap:Nat)(w:World):
  CallsIn Fence.wide n Tryz.prog 133 #[.slice a len cap] w fun e w'=>e= .returned (.func (.func 178) #[] #[.pointer (some ⟨w.heap.size,0,none⟩)])∧w'=w.alloc (.cells #[.slice a len cap] 26):=by
 refine callsIn_of_wp Tryz.func133 rfl trivial ?_ rfl;simp only[Tryz.ntmps133,List.size_toArray,List.length_cons,List.length_nil,Nat.reduceAdd,Nat.reduceSub,Array.replicate_succ,Array.replicate_zero,List.push_toArray,List.append_toArray,List.nil_append,List.cons_append];gi_wp2
 go_ret
 exact⟨rfl,rfl⟩
theorem walk_gen(n:Nat)(hn:1≤n)(Bs n₀ n₁:Nat)(sv:Value)(zs:List Int)(hB:Mt.By zs)(hl:zs.length≤40)(w:World)(hBl:Bs<w.heap.size)(hn₀:n₀≤w.heap.size)(hn₁:n₁≤w.heap.size)
  (hc:w.cell? ⟨Bs,0,none⟩=some sv)(hI:Rd n₀ w sv zs):
  GenX Fence.wide n Tryz.prog 178 #[.pointer (some ⟨Bs,0,none⟩)] encI (KB n₀ Bs) (XI n₁ zs.length) (SI zs) (SpI zs) w:=fun l J Jx W hW hJ hY h0=>by
 have hc':=(hW.cell (p:=⟨Bs,0,none⟩) hBl).trans hc;rcases hI.below (hW.mono hn₀)with⟨a,cap,rfl,rfl,_,_⟩|⟨b,off,cap,rfl,_,hl',hm,hb,hcs⟩
 ·exact (zTl n l Bs a cap J W hc' h0).mono fun e W' ⟨he,hj⟩=>⟨he,.inl ⟨[],.inl ⟨[],rfl,rfl⟩,hj⟩⟩
 ·exact walk1_in n hn l Bs n₀ n₁ b off cap zs hB hl' hm (by omega) hb J Jx hJ hY W (Nat.le_trans hn₁ hW.size) hc' (Nat.lt_of_lt_of_le hBl hW.size) (Nat.le_trans hn₀ hW.size) hcs h0
theorem zPc:(Tryz.prog.info? 244).map (fun i=>(i.zero,i.size,i.bytes))=some (some (.agg #[.int .u8 0,.slice none 0 0]),2,32):=by kernel_rfl
theorem zBg {W:World} {n m j:Nat} {v:Value} {o:Obj} (h:W.heap[n]? =some o)(hne:n≠m):(W.setCell ⟨m,j,none⟩ v).heap[n]? =some o:=(Below.heap_setCell W ⟨m,j,none⟩ v n hne).trans h
theorem KeepsFrom.set2(B:Nat)(W:World)(p q:Addr)(u v:Value):KeepsFrom B W ((W.setCell p u).setCell q v):=((KeepsOthers.setCell W p u).from B).trans ((KeepsOthers.setCell _ q v).from B)
def PI (rb base:Nat) (pre:List It) (W:World):Prop:=
 (∃os v,pre.map (·.2)=os.map some∧W.heap[rb+1+1]? =some (.cells #[v] 30 (0,0))∧OwO base W v os)∧W.heap[rb]? =some (.cells #[.slice none 0 0] 30 (0,0))∧W.heap[rb+1]? =some (.cells #[.bool false] 4 (0,0))
theorem PI.ck {rb base:Nat} {pre:List It} {A B:World} (h:PI rb base pre A)(c:CK A B):PI rb base pre B:=by
 obtain⟨⟨os,v,h1,h2,h3⟩,h4,h5⟩:=h;exact⟨⟨os,v,h1,c.2 _ _ h2 rfl,h3.ck c⟩,c.2 _ _ h4 rfl,c.2 _ _ h5 rfl⟩
def PX (rb:Nat) (pre:List It) (W:World):Prop:=(∃l v,pre=l++[(v,none)])∧W.heap[rb]? =some (.cells #[.slice none 0 0] 30 (0,0))∧W.heap[rb+1]? =some (.cells #[.bool false] 4 (0,0))
theorem PX.ck {rb:Nat} {pre:List It} {A B:World} (h:PX rb pre A)(c:CK A B):PX rb pre B:=⟨h.1,c.2 _ _ h.2.1 rfl,c.2 _ _ h.2.2 rfl⟩
theorem XI.ck {n₁ N:Nat} {pre:List It} {x:It} {A B:World} (h:XI n₁ N pre x A)(c:CK A B):XI n₁ N pre x B:=by
 obtain⟨v,o⟩:=x;cases o with
 |none=>exact h
 |some o=>
  obtain⟨h0,s,h1,h2⟩:=h;exact⟨h0,s,h1,h2.ck c⟩
theorem zGi(sv:Value)(zs:List Int)(hB:Mt.By zs)(hl:zs.length≤40)(w:World)(hI:Rd w.heap.size w sv zs):
  Calls Tryz.prog 69 #[sv] w fun e w'=>Below w.heap.size w w'∧((zCf zs=none∧e= .returned (.tuple #[.slice none 0 0,.bool false]))∨∃os v,zCf zs=some os∧e= .returned (.tuple #[v,.bool true])∧OwO w.heap.size w' v os):=by
 obtain⟨a,cap,rfl,_⟩:=hI.slice;refine(callsIn_wide (n:=5)).1 ?_;refine callsIn_of_wp_marks Tryz.func69 rfl trivial ?_ rfl;simp only[Tryz.ntmps69,List.size_toArray,List.length_cons,List.length_nil,Nat.reduceAdd,Nat.reduceSub,Array.replicate_succ,Array.replicate_zero,List.push_toArray,List.append_toArray,List.nil_append,List.cons_append];have hb4:Below w.heap.size w ((((w.alloc (.cells #[.slice none 0 0] 30)).alloc (.cells #[.bool false] 4)).alloc (.cells #[.slice none 0 0] 30)).alloc (.cells #[.slice a zs.length cap] 26)):=(((bA _ _).alloc (by simp) _).alloc (by simp<;>omega) _).alloc (by simp<;>omega) _;have c0:((((w.alloc (.cells #[.slice none 0 0] 30)).alloc (.cells #[.bool false] 4)).alloc (.cells #[.slice none 0 0] 30)).alloc (.cells #[.slice a zs.length cap] 26)).heap[w.heap.size]? =some (.cells #[.slice none 0 0] 30):=(Below.heap_alloc _ _ _ (by simp<;>omega)).trans ((Below.heap_alloc _ _ _ (by simp<;>omega)).trans ((Below.heap_alloc _ _ _ (by simp)).trans (heap_alloc_new w _)))
 have c1:((((w.alloc (.cells #[.slice none 0 0] 30)).alloc (.cells #[.bool false] 4)).alloc (.cells #[.slice none 0 0] 30)).alloc (.cells #[.slice a zs.length cap] 26)).heap[w.heap.size+1]? =some (.cells #[.bool false] 4):=by
  have:=heap_alloc_new (w.alloc (.cells #[.slice none 0 0] 30)) (.cells #[.bool false] 4);rw[World.size_alloc]at this;exact(Below.heap_alloc _ _ _ (by simp<;>omega)).trans ((Below.heap_alloc _ _ _ (by simp)).trans this)
 have c2:((((w.alloc (.cells #[.slice none 0 0] 30)).alloc (.cells #[.bool false] 4)).alloc (.cells #[.slice none 0 0] 30)).alloc (.cells #[.slice a zs.length cap] 26)).heap[w.heap.size+1+1]? =some (.cells #[.slice none 0 0] 30):=by
  have:=heap_alloc_new ((w.alloc (.cells #[.slice none 0 0] 30)).alloc (.cells #[.bool false] 4)) (.cells #[.slice none 0 0] 30);simp only[World.size_alloc]at this;exact(Below.heap_alloc _ _ _ (by simp)).trans this
 have c3:((((w.alloc (.cells #[.slice none 0 0] 30)).alloc (.cells #[.bool false] 4)).alloc (.cells #[.slice none 0 0] 30)).alloc (.cells #[.slice a zs.length cap] 26)).heap[w.heap.size+1+1+1]? =some (.cells #[.slice a zs.length cap] 26):=by
  have:=heap_alloc_new (((w.alloc (.cells #[.slice none 0 0] 30)).alloc (.cells #[.bool false] 4)).alloc (.cells #[.slice none 0 0] 30)) (.cells #[.slice a zs.length cap] 26);simpa only[World.size_alloc]using this
 have hs4:((((w.alloc (.cells #[.slice none 0 0] 30)).alloc (.cells #[.bool false] 4)).alloc (.cells #[.slice none 0 0] 30)).alloc (.cells #[.slice a zs.length cap] 26)).heap.size=w.heap.size+1+1+1+1:=by simp
 have C0:=zAd c0;have C1:=zAd c1;have C2:=zAd c2;have C3:=zAd c3;have HS4:=zAd hs4;clear c0 c1 c2 c3 hs4;gi_wp2_with (refine⟨trivial,?_⟩;gi_at_call 133;refine(walk_in _ _ _ _ _).mono ?_;rintro e w' ⟨rfl,rfl⟩)
 generalize (((w.alloc (.cells #[.slice none 0 0] 30)).alloc (.cells #[.bool false] 4)).alloc (.cells #[.slice none 0 0] 30)).alloc (.cells #[.slice a zs.length cap] 26)=w4 at*;have hs4:w4.heap.size=w.heap.size+1+1+1+1:=HS4.out
 refine zB7 (w:=w4) rfl (by omega) (gf:=178) (lb:=#[.pointer (some ⟨w.heap.size+1+1+1,0,none⟩)]) rfl trivial (enters_of Tryz.func178 (by kernel_rfl) rfl)
  (walk_gen 4 (by omega) (w.heap.size+1+1+1) w.heap.size (w.heap.size+1+1+1+1) _ zs hB hl w4 (by omega) (by omega) (by omega) (zAa C3.out 0) (hI.below hb4))
  KB.trans (kb_b (by omega) (by omega)) (fun hA hL=>KB.later (by omega) (by omega) hL) (fun _ _ _ _ h l=>h.ck (CK.of l)) (fun _ _ _ _ _ _ _ ho hc h=>h.ck (CK.put ho hc)) (fun _=>rfl)
  (fun pre W=>PI w.heap.size (w.heap.size+1+1+1+1) pre W∧Below w.heap.size w W) (fun pre W=>PX w.heap.size pre W∧Below w.heap.size w W)
  (OwnFrom.and (fun s A B row hs hg hr=>hs.ck (CK.row hg (fun r e=>(hr r e).2))) (ownFrom_below (Nat.le_refl _) (by omega)))
  (fun s A B h l=>⟨h.1.ck (CK.of l),h.2.trans (l.mono h.2.size)⟩)
  (OwnFrom.and (fun s A B row hs hg hr=>hs.ck (CK.row hg (fun r e=>(hr r e).2))) (ownFrom_below (Nat.le_refl _) (by omega)))
  ⟨⟨⟨[],.slice none 0 0,rfl,C2.out,OwO.nil _ _⟩,C0.out,C1.out⟩,hb4⟩
  (fun x a' W=>∃(bx:Nat) (k:Int) (sa:Option Addr) (sl sc:Nat),w.heap.size+1+1+1+1≤bx∧x.1= .agg #[.int .u8 k,.slice sa sl sc]∧W.heap[bx]? =some (.cells #[.int .u8 k,.slice sa sl sc] 244 (0,0))∧a'= { tmps:=#[.slice a zs.length cap,undef,.pointer (some ⟨w.heap.size,0,none⟩),.pointer (some ⟨w.heap.size+1,0,none⟩),.pointer (some ⟨w.heap.size+1+1,0,none⟩),.pointer (some ⟨bx,0,none⟩),.bool x.2.isSome,.slice a zs.length cap,.func (.func 178) #[] #[.pointer (some ⟨w.heap.size+1+1+1,0,none⟩)],x.1,.bool x.2.isSome,undef,undef,undef,undef,undef,undef,undef],defers:=[] })
  (fun x a' W l o o' hl ho hc h=>by obtain⟨bx,k,sa,sl,sc,h1,h2,h3,h4⟩:=h;exact⟨bx,k,sa,sl,sc,h1,h2,(CK.put ho hc).2 _ _ h3 rfl,h4⟩) ?assign ?body ?done ?stop
 case assign=>
  rintro l pre x W K hsz _ hX hK
  obtain⟨k,sa,sl,sc,hxv⟩:∃(k:Int) (sa:Option Addr) (sl sc:Nat),x.1= .agg #[.int .u8 k,.slice sa sl sc]:=by
   obtain⟨v,o⟩:=x;cases o with
   |none=>exact⟨_,_,_,_,hX.2⟩
   |some o=>
    obtain⟨_,s,h1,h2⟩:=hX;obtain⟨sa,sc,rfl,_,_⟩:=h2.slice;exact⟨_,_,_,_,h1⟩
  obtain⟨v,o⟩:=x;dsimp only at hxv
  subst hxv;dsimp only[encI]
  gi_wp2
  refine hK _ _ ?_ ⟨W.heap.size,k,sa,sl,sc,by omega,rfl,heap_alloc_new _ _,rfl⟩;exact(Below.refl _ W).alloc (Nat.le_refl _) _
 case body=>
  rintro l pre ⟨v,o⟩ a' W ⟨⟨⟨os,vr,hos,hob,hOw⟩,hr0,hr1⟩,hbW⟩ hX ⟨bx,k,sa,sl,sc,hbx,hxv,hbo,rfl⟩;dsimp only at hxv
  subst hxv;have hbsz:=hbW.size;have Kb:=zAa hbo;have Kv:=zAa hob;have Fv:=zAc hob;have hobl:=(eS hob);have hbl:=(eS hbo);cases o with
  |none=>
   have K0:=zAa hr0;have K1:=zAa hr1;have F0:=zAc hr0;have F1:=zAc hr1;dsimp only[Option.isSome]
   gi_wp2
   refine⟨KeepsFrom.set2 _ _ _ _ _ _,⟨⟨_,_,rfl⟩,?_,?_⟩,?_⟩
   ·exact (zBg (zAh hr0 0 _) (by simp))
   ·exact (zAh (zBg hr1 (by simp)) 0 _)
   ·exact (hbW.setCell (p:=⟨w.heap.size,0,none⟩) (Nat.le_refl _) _).setCell (p:=⟨w.heap.size+1,0,none⟩) (Nat.le_succ _) _
  | some o=>
   obtain⟨hpl,s,hsv,hOs⟩:=hX;dsimp only at hsv hOs
   obtain⟨kd,dt⟩:=o
   simp at hsv
   obtain⟨rfl,rfl⟩:=hsv;dsimp only at hOs
   dsimp only[Option.isSome]
   obtain⟨ss,hsl,hrow,hdat⟩:=hOw;obtain⟨i0,hi,hz0,hz1,hz2⟩:=info_parts zPc;have hlo:os.length≤40:=by have:=congrArg List.length hos;simp at this;omega
   have hcka:CK W (W.alloc (.cells #[.int .u8 k,.slice sa sl sc] 244)):=CK.of ((Below.refl _ W).alloc (Nat.le_refl _) _);have hrowA:=zCv hrow hcka
   have hnews:∀j u,[Value.int .u8 k,.slice sa sl sc][j]? =some u→(W.alloc (.cells #[.int .u8 k,.slice sa sl sc] 244)).cell? ((⟨W.heap.size,0,none⟩:Addr).add j)=some u:=fun j u hj=>by
    rw[show (⟨W.heap.size,0,none⟩:Addr).add j=⟨W.heap.size,j,none⟩from by unfold Addr.add;split<;>simp_all,zAa (heap_alloc_new W _) j];simpa using hj
   have hbl2:∀r,vr.ownBlock=some r→∃cur,(W.alloc (.cells #[.int .u8 k,.slice sa sl sc] 244)).heap[r]? =some (.cells cur 244 (0,0))∧w.heap.size+1+1+1+1≤r:=fun r hr=>by
    rcases hrowA.2 with⟨rfl,_⟩|⟨g,cp,cur,rfl,hg,hh,_⟩
    ·cases hr
    ·cases hr
     exact⟨cur,hh,hg⟩
   have HNW:=zAd hnews;have HRA:=zAd hrowA;have HB2:=zAd hbl2;clear hnews hrowA hbl2 hrow;gi_wp2_with (gi_at_builtin;refine wpListIn_append_own _ rfl (.tmp 13) (.tmp 15) 30 rfl (w.heap.size+1+1+1+1) 244 i0 (.agg #[.int .u8 0,.slice none 0 0]) 2 32 Tryz.underlying30 hi hz0 hz1 hz2 rfl (by decide) _ os.length (zEb os ss) rfl HRA.out ⟨W.heap.size,0,none⟩ 1 1 [.int .u8 k,.slice sa sl sc] rfl rfl HNW.out (by intro u hu;simp at hu;rcases hu with rfl|rfl<;>rfl) (by simp only[maxLen];omega) (by omega) (by simp;omega) ?_;intro v2 W2 hrow2 hg2 hnn;obtain⟨g2,cp2,rfl⟩:=ownsRow_succ hrow2;have hob2:=(hg2.block (w.heap.size+1+1) (by simp;omega) (fun e=>by obtain⟨_,_,h⟩:=HB2.out _ e.symm;omega)).trans ((Below.heap_alloc W _ (w.heap.size+1+1) hobl).trans hob);have Kv2:=zAa hob2;have Fv2:=zAc hob2)
   have hkeep:∀i o,W.heap[i]? =some o→some i≠vr.ownBlock→i≠w.heap.size+1+1→(W2.setCell ⟨w.heap.size+1+1,0,none⟩ (.slice (some ⟨g2,0,none⟩) (os.length+1) cp2)).heap[i]? =some o:=fun i o hi h1 h2=>
    zBg ((hg2.block i (by have:=(eS hi);simp;omega) h1).trans ((Below.heap_alloc W _ i (eS hi)).trans hi)) h2
   have hsz2:W.heap.size+1≤W2.heap.size:=by have:=hg2.size;simpa using this
   have hown2:(W2.setCell ⟨w.heap.size+1+1,0,none⟩ (.slice (some ⟨g2,0,none⟩) (os.length+1) cp2)).ownsRow (w.heap.size+1+1+1+1) 244 2 (.slice (some ⟨g2,0,none⟩) (os.length+1) cp2) (os.length+1) (zEb os ss++[.int .u8 k,.slice sa sl sc]):=by
    refine⟨hrow2.1,hrow2.2.imp id ?_⟩;rintro⟨g,cp,cur,e1,e2,e3,r⟩;exact⟨g,cp,cur,e1,e2,zBg e3 (by omega),r⟩
   have hdk:∀v zs',Ow (w.heap.size+1+1+1+1) W v zs'→Ow (w.heap.size+1+1+1+1) (W2.setCell ⟨w.heap.size+1+1,0,none⟩ (.slice (some ⟨g2,0,none⟩) (os.length+1) cp2)) v zs':=fun v zs' h=>by
    rcases h with h|⟨g,cp,cur,e1,e2,e3,e4,e5,e6,e7⟩
    ·exact .inl h
    ·refine .inr ⟨g,cp,cur,e1,e2,e3,e4,e5,hkeep g _ e6 (fun e=> ?_) (by omega),e7⟩
     obtain⟨c2,h2,_⟩:=HB2.out g e.symm;rw[Below.heap_alloc W _ g (eS e6),e6]at h2
     simp at h2
   have hbn:Below w.heap.size W (W2.setCell ⟨w.heap.size+1+1,0,none⟩ (.slice (some ⟨g2,0,none⟩) (os.length+1) cp2)):=⟨hg2.os,hg2.tape,hg2.output,by simp;omega,fun i hi=>by
    cases hh:W.heap[i]? with
    |none=>have:=Array.getElem?_eq_none_iff.1 hh;omega
    |some o=>exact hkeep i o hh (fun e=>by obtain⟨_,_,h⟩:=HB2.out _ e.symm;omega) (by omega)⟩
   refine⟨⟨by simp;omega,fun i o hi ho hc=>hkeep i o ho (fun e=> ?_) (by omega)⟩,⟨hbn,?_⟩,⟨⟨os++[(k,dt)],(.slice (some ⟨g2,0,none⟩) (os.length+1) cp2),by simp[hos],zAh hob2 0 _,ss++[.slice sa sl sc],by simp[hsl],?_,?_⟩,?_,?_⟩,hbW.trans hbn⟩
   ·obtain ⟨c2,h2,_⟩:=HB2.out i e.symm
    rw[Below.heap_alloc W _ i (eS ho),ho]at h2;cases h2
    cases hc
   ·cases hh:W.heap[w.heap.size+1+1+1]? with
    |none=>have:=Array.getElem?_eq_none_iff.1 hh;omega
    |some o=>exact hkeep _ o hh (fun e=>by obtain⟨_,_,h⟩:=HB2.out _ e.symm;omega) (by omega)
   ·rw[List.length_append,List.length_singleton,zTk os ss hsl]
    exact hown2
   ·intro j hj
    simp at hj
    by_cases h:j<os.length
    ·rw[List.getElem?_append_left h,List.getElem?_append_left (by omega)]
     exact hdk _ _ (hdat j h)
    ·obtain rfl:j=os.length:=by omega
     rw[List.getElem?_append_right (Nat.le_refl _),List.getElem?_append_right (by omega),hsl];simpa using hdk _ _ hOs
   ·exact hkeep _ _ hr0 (fun e=>by obtain⟨_,_,h⟩:=HB2.out _ e.symm;omega) (by omega)
   ·exact hkeep _ _ hr1 (fun e=>by obtain⟨_,_,h⟩:=HB2.out _ e.symm;omega) (by omega)
 case done=>
  rintro D xs W hD hS ⟨⟨⟨os,v,h1,h2,h3⟩,h4,h5⟩,hbW⟩ hK;obtain⟨av,cv,rfl,_,_⟩:=h3.slice;have hbsz:=hbW.size
  have hopts:zCf zs=some os:=by
   rcases hS with⟨os',e1,e2⟩|⟨_,l',v',rfl⟩
   ·rw[e1]
    congr 1
    rw[h1]at e2;have:=congrArg (List.filterMap id) e2;simpa[List.filterMap_map]using this.symm
   ·have:=congrArg List.getLast? h1
    cases hl:os.getLast? <;>simp[hl]at this
  have K2:=zAa h2;have K4:=zAa h4;have K5:=zAa h5;have F4:=zAc h4;have F5:=zAc h5;have HOP:=zAd hopts;clear hopts h1 hS;gi_wp2
  have r4:((W.setCell ⟨w.heap.size,0,none⟩ (.slice av os.length cv)).setCell ⟨w.heap.size+1,0,none⟩ (.bool true)).heap[w.heap.size]? =some (.cells #[.slice av os.length cv] 30 (0,0)):=zBg (zAh h4 0 _) (by simp);have r5:((W.setCell ⟨w.heap.size,0,none⟩ (.slice av os.length cv)).setCell ⟨w.heap.size+1,0,none⟩ (.bool true)).heap[w.heap.size+1]? =some (.cells #[.bool true] 4 (0,0)):=zAh (zBg h5 (by simp)) 0 _;have rD:((W.setCell ⟨w.heap.size,0,none⟩ (.slice av os.length cv)).setCell ⟨w.heap.size+1,0,none⟩ (.bool true)).heap[D]? =some (.deferred (some [])):=zBg (zBg hK (by omega)) (by omega);have hE:But (fun b=>b=w.heap.size∨b=w.heap.size+1) W ((W.setCell ⟨w.heap.size,0,none⟩ (.slice av os.length cv)).setCell ⟨w.heap.size+1,0,none⟩ (.bool true)):=((But.refl _ W).setCell (p:=⟨w.heap.size,0,none⟩) (.inl rfl) _).setCell (p:=⟨w.heap.size+1,0,none⟩) (.inr rfl) _;generalize (W.setCell ⟨w.heap.size,0,none⟩ (.slice av os.length cv)).setCell ⟨w.heap.size+1,0,none⟩ (.bool true)=V at*;have hbV:Below w.heap.size w V:=hbW.trans (hE.below hbW.size (fun k h e=>by omega));have hOV:=h3.but hE (fun b h e=>by omega);have q4:=(CK.put (o':= .deferred none) rD rfl).2 _ _ r4 rfl;have q5:=(CK.put (o':= .deferred none) rD rfl).2 _ _ r5 rfl;have Q4:=zAa q4;have Q5:=zAa q5;refine⟨by simp,.inl ⟨_,_,rfl,run_takeDeferred rD,?_⟩⟩
  exact⟨.tuple #[.slice av os.length cv,.bool true],by simp[results,Tryz.results69,go_sem,Q4,Q5],hbV.trans (belowK_b (w:=w) (Nat.le_refl _) V D _ _ (by omega) rD rfl rfl),.inr ⟨os,_,HOP.out,rfl,(hOV.ck (CK.put rD rfl)).mono (by omega)⟩⟩
 case stop=>
  rintro D pre W hD hSp ⟨⟨hl,h4,h5⟩,hbW⟩ hK;have hno:=hSp hl;have q4:=(CK.put (o':= .deferred none) hK rfl).2 _ _ h4 rfl;have q5:=(CK.put (o':= .deferred none) hK rfl).2 _ _ h5 rfl;have Q4:=zAa q4;have Q5:=zAa q5;gi_wp2
  refine⟨by simp,.inl ⟨_,_,rfl,run_takeDeferred hK,?_⟩⟩;exact⟨.tuple #[.slice none 0 0,.bool false],by simp[results,Tryz.results69,go_sem,Q4,Q5],hbW.trans (belowK_b (w:=w) (Nat.le_refl _) W D _ _ (by omega) hK rfl rfl),.inl ⟨hno,rfl⟩⟩
def thd (zs:List Int):Int:=zs[12]?.getD 0/16*4
def ptc (proto src dst:Int) (zs:List Int):Int:=if proto≠6 then 12 else if zs.length<20 then 3 else if thd zs<20∨zs[12]?.getD 0 % 16≠0 then 4 else if(zs.length:Int)<thd zs then 3 else if Mt.cks (psd src dst 6 zs.length++zs)≠0 then 5 else 0
theorem zMo(tos id ttl proto src dst:Int)(keep:Bool)(so sd:Value)(zs:List Int)(w:World)(hB:Mt.By zs)(hI:Rd w.heap.size w sd zs)(hl:12+zs.length≤140737488355328)(hsr:0≤src∧src≤4294967295)(hds:0≤dst∧dst≤4294967295):
  Calls Tryz.prog 68 #[.agg #[.int .u8 tos,.int .u16 id,.bool keep,.int .u8 ttl,.int .u8 proto,.int .u32 src,.int .u32 dst,so,sd]] w fun e w'=>Below w.heap.size w w'∧((ptc proto src dst zs≠0∧e= .returned (.tuple #[.int .i64 0,.int .i64 (ptc proto src dst zs)]))∨(ptc proto src dst zs=0∧e= .returned (.tuple #[.int .i64 (thd zs),.int .i64 0]))):=by
 obtain⟨ad,cd,rfl,hl1,hm1⟩:=hI.slice;have hb0:Below w.heap.size w (w.alloc (.cells #[.int .u8 tos,.int .u16 id,.bool keep,.int .u8 ttl,.int .u8 proto,.int .u32 src,.int .u32 dst,so,.slice ad zs.length cd] 40)):=bA _ _;by_cases c1:proto=6
 ·have t1:(proto !=6)=false:=by simp[c1]
  have C1:=zAd c1;clear c1;by_cases c2:zs.length<20
  ·have HF:Hid (ptc proto src dst zs=3):=by show _=_;unfold ptc;rw[if_neg (by simp[C1.out]),if_pos c2]
   have t2:(zs.length:Int)<20:=by omega
   clear c2;go_enter Tryz.func68,Tryz.ntmps68;go_wp2_with fail;exact bodyPost_ret (v:= .tuple #[.int .i64 0,.int .i64 3]) (by simp[results,Tryz.results68,go_sem]) rfl ⟨hb0,.inl ⟨by rw[HF.out];decide,by rw[HF.out]⟩⟩
  ·have t2:¬(zs.length:Int)<20:=by omega
   obtain⟨b,off,cap,e0,hlc,hmc,hbb,hcs⟩:=hI.cells (by omega)
   simp at e0
   obtain⟨rfl,rfl⟩:=e0;have d0:=(hb0.cell (p:=⟨b,off+12,none⟩) hbb).trans (hcs 12 (by omega));have b0:=hB.at 12;have i12:(12:Int)<zs.length:=by omega
   clear hcs;have HTH:Hid (thd zs=zs[12]?.getD 0/16*4):=rfl;have HC2:=zAd c2;generalize hx:zs[12]?.getD 0=x at d0 b0 HTH;have HX:=zAd hx;have hand:=and15 x b0;clear hx c2;by_cases c3:x/16*4<20
   ·have HF:Hid (ptc proto src dst zs=4):=by show _=_;unfold ptc;rw[if_neg (by simp[C1.out]),if_neg HC2.out,if_pos (.inl (by rw[HTH.out];exact c3))]
    go_enter Tryz.func68,Tryz.ntmps68;go_wp2_with fail;exact bodyPost_ret (v:= .tuple #[.int .i64 0,.int .i64 4]) (by simp[results,Tryz.results68,go_sem]) rfl ⟨hb0,.inl ⟨by rw[HF.out];decide,by rw[HF.out]⟩⟩
   ·by_cases c4:x % 16=0
    ·have t4:(x % 16 !=0)=false:=by simp[c4]
     by_cases c5:(zs.length:Int)<x/16*4
     ·have HF:Hid (ptc proto src dst zs=3):=by show _=_;unfold ptc;rw[if_neg (by simp[C1.out]),if_neg HC2.out,if_neg (by rw[HTH.out,HX.out];omega),if_pos (by rw[HTH.out];exact c5)]
      have C4:=zAd c4;clear c4;go_enter Tryz.func68,Tryz.ntmps68;go_wp2_with fail;exact bodyPost_ret (v:= .tuple #[.int .i64 0,.int .i64 3]) (by simp[results,Tryz.results68,go_sem]) rfl ⟨hb0,.inl ⟨by rw[HF.out];decide,by rw[HF.out]⟩⟩
     ·have C4:=zAd c4
      clear c4;have hBs:=(zFg src dst 6 zs.length hsr hds (by omega)).append hB;have hln:(psd src dst 6 zs.length++zs).length=12+zs.length:=by rw[List.length_append,zBb]
      have hBS:=zAd hBs;have HLN:=zAd hln;clear hBs hln;go_enter Tryz.func68,Tryz.ntmps68;go_wp2_with fail;rw[C1.out];refine(zE7 tos id ttl 6 src dst keep _ _ zs _ ((hI.below (by rw[C1.out]at hb0;exact hb0)).mono (by simp)) hl hsr hds).mono ?_;rintro e w3 ⟨a3,c3',rfl,hO3,hb3⟩;rw[C1.out]at hb0;generalize hgW:w.alloc (.cells #[.int .u8 tos,.int .u16 id,.bool keep,.int .u8 ttl,.int .u8 6,.int .u32 src,.int .u32 dst,so,.slice (some ⟨b,off,none⟩) zs.length cd] 40)=W0 at*;clear hgW;go_wp2_with fail;rw[←HLN.out]at hO3⊢;refine(zEg _ _ hBS.out (by rw[HLN.out];exact hl) w3 hO3.rd).mono ?_;rintro e w4 ⟨rfl,hb4⟩;have hw4:Below w.heap.size w w4:=hb0.trans ((hb3.trans (hb4.mono hb3.size)).mono hb0.size);by_cases c6:Mt.cks (psd src dst 6 zs.length++zs)=0
      ·have t6:(Mt.cks (psd src dst 6 zs.length++zs)==0)=true:=by simp[c6]
       have HF:Hid (ptc proto src dst zs=0):=by show _=_;unfold ptc;rw[if_neg (by simp[C1.out]),if_neg HC2.out,if_neg (by rw[HTH.out,HX.out];have:=C4.out;omega),if_neg (by rw[HTH.out];omega),if_neg (by simp[c6])]
       clear c6;go_wp2_with fail;exact bodyPost_ret (v:= .tuple #[.int .i64 (x/16*4),.int .i64 0]) (by simp[results,Tryz.results68,go_sem]) rfl ⟨hw4,.inr ⟨HF.out,by rw[HTH.out]⟩⟩
      ·have t6:(Mt.cks (psd src dst 6 zs.length++zs)==0)=false:=by simp[c6]
       have HF:Hid (ptc proto src dst zs=5):=by show _=_;unfold ptc;rw[if_neg (by simp[C1.out]),if_neg HC2.out,if_neg (by rw[HTH.out,HX.out];have:=C4.out;omega),if_neg (by rw[HTH.out];omega),if_pos c6]
       clear c6;go_wp2_with fail;exact bodyPost_ret (v:= .tuple #[.int .i64 0,.int .i64 5]) (by simp[results,Tryz.results68,go_sem]) rfl ⟨hw4,.inl ⟨by rw[HF.out];decide,by rw[HF.out]⟩⟩
    ·have t4:(x % 16 !=0)=true:=by simp[c4]
     have HF:Hid (ptc proto src dst zs=4):=by show _=_;unfold ptc;rw[if_neg (by simp[C1.out]),if_neg HC2.out,if_pos (.inr (by rw[HX.out];exact c4))]
     clear c4;go_enter Tryz.func68,Tryz.ntmps68;go_wp2_with fail;exact bodyPost_ret (v:= .tuple #[.int .i64 0,.int .i64 4]) (by simp[results,Tryz.results68,go_sem]) rfl ⟨hb0,.inl ⟨by rw[HF.out];decide,by rw[HF.out]⟩⟩
 ·have t1:(proto !=6)=true:=by simp[c1]
  have HF:Hid (ptc proto src dst zs=12):=by show _=_;unfold ptc;rw[if_pos c1]
  clear c1;go_enter Tryz.func68,Tryz.ntmps68;go_wp2_with fail;exact bodyPost_ret (v:= .tuple #[.int .i64 0,.int .i64 12]) (by simp[results,Tryz.results68,go_sem]) rfl ⟨hb0,.inl ⟨by rw[HF.out];decide,by rw[HF.out]⟩⟩
abbrev zsg:List Value:=[.int .u16 0,.int .u16 0,.int .u32 0,.int .u32 0,.int .u8 0,.int .u16 0,.int .u16 0,.slice none 0 0,.slice none 0 0]
def hop (zs:List Int):List Int:=(zs.drop 20).take ((thd zs).toNat-20)
def pte (proto src dst:Int) (zs:List Int):Int:=if ptc proto src dst zs≠0 then ptc proto src dst zs else if(zCf (hop zs)).isNone then 4 else 0
theorem zPd {proto src dst:Int} {zs:List Int} (h:ptc proto src dst zs=0):proto=6∧20≤zs.length∧20≤thd zs∧thd zs≤zs.length∧zs[12]?.getD 0 % 16=0∧Mt.cks (psd src dst 6 zs.length++zs)=0:=by
 unfold ptc at h;split at h
 ·omega
 split at h
 ·omega
 split at h
 ·omega
 split at h
 ·omega
 split at h
 ·omega
 ·omega
theorem thd_le {zs:List Int} (hB:Mt.By zs):thd zs≤60:=by have:=hB.at 12;unfold thd;omega
theorem OwO.later {base:Nat} {A B:World} {v:Value} {os:List Opt} (h:OwO base A v os)(l:Later A B):OwO base B v os:=h.ck (CK.of l)
theorem zMp {P:Program} {ops:Array Oper} {rest:List Oper} {o:Oper} {a:Act} {Q:Exit→Act→World→Prop} {w:World} (k:Nat)(hd:o.dst=some k)(hg:o.guard=none)(v:Value)(h:(execOp a.eval o).run P w= .ok (.value v) w)
  (hk:wpList P ops Q rest (a.put o.dst v) w):wpList P ops Q (o::rest) a w:=wpList_plain hg fun K hK=>by unfold Oper.wp;rw[h];exact hK _ _ hk
theorem zCk(tos id ttl proto src dst:Int)(keep:Bool)(so sd:Value)(zs:List Int)(w:World)(hB:Mt.By zs)(hI:Rd w.heap.size w sd zs)(hl:12+zs.length≤140737488355328)(hsr:0≤src∧src≤4294967295)(hds:0≤dst∧dst≤4294967295):
  Calls Tryz.prog 26 #[.agg #[.int .u8 tos,.int .u16 id,.bool keep,.int .u8 ttl,.int .u8 proto,.int .u32 src,.int .u32 dst,so,sd]] w fun e w'=>Below w.heap.size w w'∧((pte proto src dst zs≠0∧e= .returned (.tuple #[.agg zsg.toArray,.int .i64 (pte proto src dst zs)]))∨
   (pte proto src dst zs=0∧∃os aO cO ad cd,zCf (hop zs)=some os∧e= .returned (.tuple #[.agg #[.int .u16 (wat zs 0),.int .u16 (wat zs 2),.int .u32 (zAs zs 4),.int .u32 (zAs zs 8),.int .u8 (zs[13]?.getD 0),.int .u16 (wat zs 14),.int .u16 (wat zs 18),.slice aO os.length cO,.slice ad (zs.length-(thd zs).toNat) cd],.int .i64 0])∧OwO w.heap.size w' (.slice aO os.length cO) os∧Ow w.heap.size w' (.slice ad (zs.length-(thd zs).toNat) cd) (zs.drop (thd zs).toNat))):=by
 obtain⟨ad,cd,rfl,hl1,hm1⟩:=hI.slice;have hb0:Below w.heap.size w ((w.alloc (.cells #[.int .u8 tos,.int .u16 id,.bool keep,.int .u8 ttl,.int .u8 proto,.int .u32 src,.int .u32 dst,so,.slice ad zs.length cd] 40)).alloc (.cells zsg.toArray 32)):=(bA _ _).alloc (by simp) _;have p0:((w.alloc (.cells #[.int .u8 tos,.int .u16 id,.bool keep,.int .u8 ttl,.int .u8 proto,.int .u32 src,.int .u32 dst,so,.slice ad zs.length cd] 40)).alloc (.cells zsg.toArray 32)).heap[w.heap.size]? =some (.cells #[.int .u8 tos,.int .u16 id,.bool keep,.int .u8 ttl,.int .u8 proto,.int .u32 src,.int .u32 dst,so,.slice ad zs.length cd] 40):=(Below.heap_alloc _ _ _ (by simp)).trans (heap_alloc_new w _);have r0:((w.alloc (.cells #[.int .u8 tos,.int .u16 id,.bool keep,.int .u8 ttl,.int .u8 proto,.int .u32 src,.int .u32 dst,so,.slice ad zs.length cd] 40)).alloc (.cells zsg.toArray 32)).heap[w.heap.size+1]? =some (.cells zsg.toArray 32 (0,0)):=by have:=heap_alloc_new (w.alloc (.cells #[.int .u8 tos,.int .u16 id,.bool keep,.int .u8 ttl,.int .u8 proto,.int .u32 src,.int .u32 dst,so,.slice ad zs.length cd] 40)) (.cells zsg.toArray 32);simpa using this
 have hs0:((w.alloc (.cells #[.int .u8 tos,.int .u16 id,.bool keep,.int .u8 ttl,.int .u8 proto,.int .u32 src,.int .u32 dst,so,.slice ad zs.length cd] 40)).alloc (.cells zsg.toArray 32)).heap.size=w.heap.size+1+1:=by simp
 have P0:=zAd p0;have R0:=zAd r0;have HS:=zAd hs0;clear p0 r0 hs0;go_enter Tryz.func26,Tryz.ntmps26;go_wp2_with fail;generalize (w.alloc (.cells #[.int .u8 tos,.int .u16 id,.bool keep,.int .u8 ttl,.int .u8 proto,.int .u32 src,.int .u32 dst,so,.slice ad zs.length cd] 40)).alloc (.cells zsg.toArray 32)=W0 at*;refine(zMo tos id ttl proto src dst keep _ _ zs W0 hB ((hI.below hb0).mono hb0.size) hl hsr hds).mono ?_;rintro e w1 ⟨hb1,⟨hf,rfl⟩|⟨hf,rfl⟩⟩
 ·have r1:=zAb hb1 R0.out
  have hw1:=hb0.trans (hb1.mono hb0.size);have t1:(ptc proto src dst zs !=0)=true:=by simp[hf]
  have HF:Hid (pte proto src dst zs=ptc proto src dst zs):=by show _=_;unfold pte;rw[if_pos hf]
  have HN:=zAd hf;clear hf;have R1:=zAa r1;have F1:=zAc r1;go_wp2_with fail;generalize hV:World.setCell _ ⟨w.heap.size+1,8,none⟩ _=V8;have hV9:V8=zAi w1 (w.heap.size+1) 0 zsg:=hV.symm;have hb8:But (fun b=>b=w.heap.size+1) w1 V8:=by rw[hV9];exact zAf (E:=fun b=>b=w.heap.size+1) (n:=w.heap.size+1) rfl _ _ _ _ (But.refl _ _)
  have p8:=zAe zsg r1 rfl;rw[←hV9]at p8;clear hV hV9;have P8:=zAa p8;have hw8:Below w.heap.size w V8:=(hw1).trans (hb8.below (hw1).size (fun k h e=>by omega));exact bodyPost_ret (v:= .tuple #[.agg zsg.toArray,.int .i64 (ptc proto src dst zs)]) (by simp[results,Tryz.results26,go_sem,P8]) rfl (⟨hw8,.inl ⟨by rw[HF.out];exact HN.out,by rw[HF.out]⟩⟩)
 ·have r1:=zAb hb1 R0.out
  have p1:=zAb hb1 P0.out;have hw1:=hb0.trans (hb1.mono hb0.size);have hs1:w.heap.size+1+1≤w1.heap.size:=by have:=hb1.size;have:=HS.out;omega
  obtain⟨z1,z2,z3,z4,z5,z6⟩:=zPd hf;have z7:=thd_le hB;have HPT:Hid (pte proto src dst zs=if(zCf (hop zs)).isNone then 4 else 0):=by show _=_;unfold pte;rw[if_neg (by simp[hf])]
  have HPC:=zAd hf;have HZ6:=zAd z6;clear hf z1 z5 z6 hb1 hb0 P0 R0 HS;obtain⟨tm,hh⟩:∃tm:Nat,thd zs=(tm:Int):=⟨(thd zs).toNat,by omega⟩;have HHOP:Hid (hop zs=(zs.drop 20).take (tm-20)):=by show _=_;unfold hop;rw[hh];simp
  have HTO:Hid ((thd zs).toNat=tm):=by show _=_;rw[hh];simp
  rw[hh]at z3 z4 z7⊢;have HH:=zAd hh;clear hh;obtain⟨b,off,cap,e0,hlc,hmc,hbb,hcs⟩:=hI.cells (by omega);have hcl:=e0
  simp at hcl
  obtain⟨rfl,rfl⟩:=hcl;have d13:=hcs 13 (by omega);clear e0 hcs;have K1:=zAa p1;have i20:(20:Int)≤tm:=by omega
  have ihl:(tm:Int)≤zs.length:=by omega
  have ilc:(zs.length:Int)≤cd:=by omega
  have hs20:=((hI.below hw1).cutAt 20 (by omega)).take (tm-20) (by omega);obtain⟨a20,hA20⟩:∃a20,(if cd=20 then some (⟨b,off,none⟩:Addr)else some ⟨b,off+20,none⟩)=a20:=⟨_,rfl⟩;rw[hA20]at hs20;have HA20:=zAd hA20;have HS20:=zAd hs20;clear hs20 hA20;go_wp2_with (refine zMp 23 rfl rfl (.slice a20 (tm-20) (cd-20)) (by rw[←HA20.out];go_simp;split<;>first|rfl|(intro _;omega)) ?_)
  have hBh:Mt.By ((zs.drop 20).take (tm-20)):=(hB.drop 20).take _;have hlh:((zs.drop 20).take (tm-20)).length=tm-20:=by simp;omega
  refine(zGi _ ((zs.drop 20).take (tm-20)) hBh (by omega) w1 (HS20.out.mono hw1.size)).mono ?_;clear HS20 HA20 K1;rintro e w2 ⟨hb2,⟨ho,rfl⟩|⟨os,vO,ho,rfl,hOO⟩⟩
  ·have r2:=zAb hb2 r1
   have hw2:=hw1.trans (hb2.mono hw1.size);have HF:Hid (pte proto src dst zs=4):=by show _=_;rw[HPT.out,HHOP.out,ho];rfl
   clear ho;have R1:=zAa r2;have F1:=zAc r2;go_wp2_with fail;generalize hV:World.setCell _ ⟨w.heap.size+1,8,none⟩ _=V8;have hV9:V8=zAi w2 (w.heap.size+1) 0 zsg:=hV.symm;have hb8:But (fun b=>b=w.heap.size+1) w2 V8:=by rw[hV9];exact zAf (E:=fun b=>b=w.heap.size+1) (n:=w.heap.size+1) rfl _ _ _ _ (But.refl _ _)
   have p8:=zAe zsg r2 rfl;rw[←hV9]at p8;clear hV hV9;have P8:=zAa p8;have hw8:Below w.heap.size w V8:=(hw2).trans (hb8.below (hw2).size (fun k h e=>by omega));exact bodyPost_ret (v:= .tuple #[.agg zsg.toArray,.int .i64 4]) (by simp[results,Tryz.results26,go_sem,P8]) rfl (⟨hw8,.inl ⟨by rw[HF.out];decide,by rw[HF.out]⟩⟩)
  ·have r2:=zAb hb2 r1
   have hw2:=hw1.trans (hb2.mono hw1.size);have hs2':w.heap.size+1+1≤w2.heap.size:=by have:=hb2.size;omega
   have HF:Hid (pte proto src dst zs=0):=by show _=_;rw[HPT.out,HHOP.out,ho];rfl
   have HO:Hid (zCf (hop zs)=some os):=by show _=_;rw[HHOP.out];exact ho
   obtain⟨aO,cO,rfl,_,_⟩:=hOO.slice;have hOO':=hOO.mono (base':=w.heap.size+1+1) hs1;clear ho hOO hb2 r1 p1 hw1 hBh hlh;generalize hx13:zs[13]?.getD 0=x13 at d13;have HX13:=zAd hx13;clear hx13;go_wp2_with fail;obtain⟨Φ,HΦ⟩:∃Φ:Array Value→World→Prop,Hid (Φ=(fun arr W=>∃aO cO ad cd,arr=#[.int .u16 (wat zs 0),.int .u16 (wat zs 2),.int .u32 (zAs zs 4),.int .u32 (zAs zs 8),.int .u8 x13,.int .u16 (wat zs 14),.int .u16 (wat zs 18),.slice aO os.length cO,.slice ad (zs.length-tm) cd]∧OwO (w.heap.size+1+1) W (.slice aO os.length cO) os∧Ow (w.heap.size+1+1) W (.slice ad (zs.length-tm) cd) (zs.drop tm))):=⟨_,rfl⟩
   have hΦ:zQl Φ:=by
    rw[HΦ.out];rintro arr A B l ⟨aO,cO,ad,cd,h1,h2,h3⟩;exact⟨aO,cO,ad,cd,h1,h2.later l,h3.later l⟩
   refine zAn (R:=KR (w.heap.size+1) 9 32 Φ) (Keep.pre _ _ _) (fun w=>KR.of hΦ (Later.drew w)) 23 rfl (by kernel_rfl) (fun W1 hW1=> ?_);have hg1:Wr (w.heap.size+1) 9 32 W1:=hW1.2.1 ⟨_,r2,rfl⟩;have hbut:∀v1,KR (w.heap.size+1) 9 32 Φ W1 v1→But (fun b=>b=w.heap.size+1) w2 v1:=fun v1 h=>hW1.1.trans h.1;have hbel:∀v1,KR (w.heap.size+1) 9 32 Φ W1 v1→Below w.heap.size w v1:=fun v1 h=>hw2.trans ((hbut v1 h).below (by omega) (fun k h e=>by omega));have q13:∀v1,KR (w.heap.size+1) 9 32 Φ W1 v1→v1.cell? ⟨b,off+13,none⟩=some (.int .u8 x13):=fun v1 h=>((hbel v1 h).cell (p:=⟨b,off+13,none⟩) hbb).trans d13;have hr:∀v1,KR (w.heap.size+1) 9 32 Φ W1 v1→Rd w.heap.size v1 (.slice (some ⟨b,off,none⟩) zs.length cd) zs:=fun v1 h=>hI.below (hbel v1 h);have i13:(13:Int)<zs.length:=by omega
   have hOO2:∀v1,KR (w.heap.size+1) 9 32 Φ W1 v1→OwO (w.heap.size+1+1) v1 (.slice aO os.length cO) os:=fun v1 h=>hOO'.but (hbut v1 h) (fun b h e=>by omega);clear d13;refine rX (Keep.pre _ _ _) 0 ?_;refine zAq (Keep.pre _ _ _) 1 (.int .u16 (wat zs 0)) rfl (by kernel_rfl) (by kernel_rfl) (by kernel_rfl) (fun _ _ _ h=>h) rfl (fun v1 hv1=>zAo 39 #[.slice (some ⟨b,off,none⟩) zs.length cd,.int .i64 0] (by go_simp) ?_) ?_
   ·exact (zA4 _ zs hB 0 (by omega) v1 (hr v1 hv1)).mono fun e w' ⟨he,q,hw⟩=>⟨he,KR.of hΦ (by rw[hw];exact zAk (Later.refl v1) q)⟩
   simp only[Act.put,sA,sB,sC];refine rX (Keep.pre _ _ _) 2 ?_;refine zAq (Keep.pre _ _ _) 3 (.int .u16 (wat zs 2)) rfl (by kernel_rfl) (by kernel_rfl) (by kernel_rfl) (fun _ _ _ h=>h) rfl (fun v1 hv1=>zAo 39 #[.slice (some ⟨b,off,none⟩) zs.length cd,.int .i64 2] (by go_simp) ?_) ?_
   ·exact (zA4 _ zs hB 2 (by omega) v1 (hr v1 hv1)).mono fun e w' ⟨he,q,hw⟩=>⟨he,KR.of hΦ (by rw[hw];exact zAk (Later.refl v1) q)⟩
   simp only[Act.put,sA,sB,sC];refine rX (Keep.pre _ _ _) 4 ?_;refine zAq (Keep.pre _ _ _) 5 (.int .u32 (zAs zs 4)) rfl (by kernel_rfl) (by kernel_rfl) (by kernel_rfl) (fun _ _ _ h=>h) rfl (fun v1 hv1=>zAo 70 #[.slice (some ⟨b,off,none⟩) zs.length cd,.int .i64 4] (by go_simp) ?_) ?_
   ·exact (zCh _ zs hB 4 (by omega) v1 (hr v1 hv1)).mono fun e w' ⟨he,q,hw⟩=>⟨he,KR.of hΦ (by rw[hw];exact zAk (Later.refl v1) q)⟩
   simp only[Act.put,sA,sB,sC];refine rX (Keep.pre _ _ _) 6 ?_;refine zAq (Keep.pre _ _ _) 7 (.int .u32 (zAs zs 8)) rfl (by kernel_rfl) (by kernel_rfl) (by kernel_rfl) (fun _ _ _ h=>h) rfl (fun v1 hv1=>zAo 70 #[.slice (some ⟨b,off,none⟩) zs.length cd,.int .i64 8] (by go_simp) ?_) ?_
   ·exact (zCh _ zs hB 8 (by omega) v1 (hr v1 hv1)).mono fun e w' ⟨he,q,hw⟩=>⟨he,KR.of hΦ (by rw[hw];exact zAk (Later.refl v1) q)⟩
   simp only[Act.put,sA,sB,sC];refine rX (Keep.pre _ _ _) 8 ?_;refine rX (Keep.pre _ _ _) 9 ?_;refine rX (Keep.pre _ _ _) 10 ?_;refine rX (Keep.pre _ _ _) 11 ?_;refine zAq (Keep.pre _ _ _) 12 (.int .u16 (wat zs 14)) rfl (by kernel_rfl) (by kernel_rfl) (by kernel_rfl) (fun _ _ _ h=>h) rfl (fun v1 hv1=>zAo 39 #[.slice (some ⟨b,off,none⟩) zs.length cd,.int .i64 14] (by go_simp) ?_) ?_
   ·exact (zA4 _ zs hB 14 (by omega) v1 (hr v1 hv1)).mono fun e w' ⟨he,q,hw⟩=>⟨he,KR.of hΦ (by rw[hw];exact zAk (Later.refl v1) q)⟩
   simp only[Act.put,sA,sB,sC];refine rX (Keep.pre _ _ _) 13 ?_;refine zAq (Keep.pre _ _ _) 14 (.int .u16 (wat zs 18)) rfl (by kernel_rfl) (by kernel_rfl) (by kernel_rfl) (fun _ _ _ h=>h) rfl (fun v1 hv1=>zAo 39 #[.slice (some ⟨b,off,none⟩) zs.length cd,.int .i64 18] (by go_simp) ?_) ?_
   ·exact (zA4 _ zs hB 18 (by omega) v1 (hr v1 hv1)).mono fun e w' ⟨he,q,hw⟩=>⟨he,KR.of hΦ (by rw[hw];exact zAk (Later.refl v1) q)⟩
   simp only[Act.put,sA,sB,sC];refine rX (Keep.pre _ _ _) 15 ?_;refine rX (Keep.pre _ _ _) 16 ?_;refine rX (Keep.pre _ _ _) 17 ?_;refine rX (Keep.pre _ _ _) 18 ?_;have hs8:∀v1,KR (w.heap.size+1) 9 32 Φ W1 v1→Rd w.heap.size v1 (.slice (if cd=tm then some (⟨b,off,none⟩:Addr)else some ⟨b,off+tm,none⟩) (zs.length-tm) (cd-tm)) (zs.drop tm):=fun v1 h=>(hr v1 h).cutAt tm (by omega);generalize (if cd=tm then some (⟨b,off,none⟩:Addr)else some ⟨b,off+tm,none⟩)=adh at*;refine rO 19 (fun W2 hW2=> ?_);refine zAj 71 #[.slice adh (zs.length-tm) (cd-tm)] (by go_simp) ?_;refine(zAx _ (zs.drop tm) W2 (by simp;omega) ((hs8 W2 hW2).mono (hbel W2 hW2).size)).mono ?_;rw[List.length_drop];rintro e W5 ⟨a5,c5,rfl,hO5,hb5⟩;have hW15:=hW2.trans (KR.of hΦ hb5);have hs2:w.heap.size+1+1≤W2.heap.size:=Nat.le_trans hs2' (hbut W2 hW2).size;refine⟨KR.of hΦ hb5,?_⟩;simp only[Act.put,sA,sB,sC];refine rX (Keep.pre _ _ _) 20 ?_;refine rO 21 (fun W6 hW6=> ?_);have hW16:=hW15.trans hW6;have hg6:=hW16.2.1 hg1;have hg6':=hg6;obtain⟨cur,hcur,hsz⟩:=hg6';have k6:∀j,W6.cell? ⟨w.heap.size+1,j,none⟩=cur[j]? :=zAa hcur;have f6:∀j,W6.frozen? ⟨w.heap.size+1,j,none⟩=false:=zAc hcur;unfold Oper.wp;go_simp;generalize hV7:World.setCell _ ⟨w.heap.size+1,8,none⟩ _=V7
   have hV8:V7=zAi W6 (w.heap.size+1) 0 [.int .u16 (wat zs 0),.int .u16 (wat zs 2),.int .u32 (zAs zs 4),.int .u32 (zAs zs 8),.int .u8 x13,.int .u16 (wat zs 14),.int .u16 (wat zs 18),.slice aO os.length cO,.slice a5 (zs.length-tm) c5]:=hV7.symm;have hSt:=KR.store (Φ:=Φ) [.int .u16 (wat zs 0),.int .u16 (wat zs 2),.int .u32 (zAs zs 4),.int .u32 (zAs zs 8),.int .u8 x13,.int .u16 (wat zs 14),.int .u16 (wat zs 18),.slice aO os.length cO,.slice a5 (zs.length-tm) c5] hg6 rfl (by rw[HΦ.out];exact⟨aO,cO,a5,c5,rfl,(((hOO2 W6 hW16)).but (zA1 (rb:=w.heap.size+1) _ _) (fun b h e=>by omega)),((hO5.but hW6.1 (fun b h e=>by omega)).but (zA1 (rb:=w.heap.size+1) _ _) (fun b h e=>by omega)).mono hs2⟩);rw[←hV8]at hSt;clear hV7 hV8 k6 f6;refine⟨hSt.1,?_⟩;refine rX (Keep.pre _ _ _) 22 ?_;refine rD (fun W8 hW8=> ?_);obtain⟨arr,hh8,hP8⟩:=hW8.2.2 hSt.2;have hw8:=hbel W8 ((hW16.trans hSt.1).trans hW8);clear hSt hr hs8 hbut q13 hOO2;rw[HΦ.out]at hP8;obtain⟨aO8,cO8,ad8',cd8,rfl,hOO8,hO8⟩:=hP8;have r8:=zAa hh8;go_wp2_with fail;exact bodyPost_ret (v:= .tuple #[.agg #[.int .u16 (wat zs 0),.int .u16 (wat zs 2),.int .u32 (zAs zs 4),.int .u32 (zAs zs 8),.int .u8 x13,.int .u16 (wat zs 14),.int .u16 (wat zs 18),.slice aO8 os.length cO8,.slice ad8' (zs.length-tm) cd8],.int .i64 0]) (by simp[results,Tryz.results26,go_sem,r8]) rfl ⟨hw8,.inr ⟨HF.out,os,aO8,cO8,ad8',cd8,HO.out,by rw[HTO.out,HX13.out],hOO8.mono (by omega),by rw[HTO.out];exact hO8.mono (by omega)⟩⟩
def pie (proto:Int) (zs:List Int):Int:=if proto≠1 then 12 else if zs.length<8 then 3 else if Mt.cks zs≠0 then 5 else 0
abbrev zm:List Value:=[.int .u8 0,.int .u8 0,.int .u32 0,.slice none 0 0]
def tab:List Int:=[32,1,136,11,48,1,136,11,32,129,136,11,48,129,136,11]
def Tb (w:World):Prop:=∀i,i<16→w.cell? ⟨0,i,none⟩=some (.int .u8 (tab[i]?.getD 0))
theorem Tb.pos {w:World} (h:Tb w):0<w.heap.size:=World.block_lt_of_cell? w ⟨0,0,none⟩ (h 0 (by omega))
theorem Tb.below {w w':World} {n:Nat} (h:Tb w)(hb:Below n w w')(hn:0<n):Tb w':=fun i hi=>(hb.cell (p:=⟨0,i,none⟩) hn).trans (h i hi)
def zHe (e0 e1 e2 e3:Bool):Nat:=bif e0 then 0 else bif e1 then 1 else bif e2 then 2 else bif e3 then 3 else 4
def bgo (a b c d:Int):Nat:=zHe (a==32 && (b==1 && (c==136 && d==11))) (a==48 && (b==1 && (c==136 && d==11))) (a==32 && (b==129 && (c==136 && d==11))) (a==48 && (b==129 && (c==136 && d==11)))
end Go.Proofs.YteaeilghamjjkaaGreatDoor
