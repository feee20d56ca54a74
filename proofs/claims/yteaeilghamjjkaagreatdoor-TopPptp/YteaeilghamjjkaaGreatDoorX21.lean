import Derived.Test.YteaeilghamjjkaaGreatDoorX22
import Derived.Deep.DeepCutAuto
import Derived.Deep.CutBlock
import Derived.Deep.AppendLies
import Derived.Deep.Upon
namespace Go.Proofs.YteaeilghamjjkaaGreatDoor
set_option maxHeartbeats 8000000
open Go.RowKit Go.Shelf
set_option maxRecDepth 100000
set_option linter.unusedVariables false
set_option linter.unusedSimpArgs false
theorem zG8(x:Ru)(w:World):
  Calls Tryz.prog 195 #[.agg (ruc x).toArray] w fun e w'=>e= .returned (.bool (rtD x))∧Later w w':=by
 obtain⟨kind,proto,net,bts,tq,port,host,hp⟩:=x;unfold ruc;simp only;have lb0:Later w (w.alloc (.cells #[.int .i64 kind,.int .u8 proto,.int .u32 net,.int .i64 bts,.int .u32 tq,.int .u16 port,.int .u32 host,.int .u16 hp] 125)):=bA _ _;have c0:=zAa (heap_alloc_new w (.cells #[.int .i64 kind,.int .u8 proto,.int .u32 net,.int .i64 bts,.int .u32 tq,.int .u16 port,.int .u32 host,.int .u16 hp] 125));go_enter Tryz.func195,Tryz.ntmps195;by_cases p1:proto=6
 ·by_cases h4:tq=0
  ·go_wp2_with fail
   go_ret
   exact⟨by simp[rtD, *],bA _ _⟩
  ·by_cases h5:port=0
   ·go_wp2_with fail
    go_ret
    exact⟨by simp[rtD, *],bA _ _⟩
   ·by_cases h6:host=0
    ·go_wp2_with fail
     go_ret
     exact⟨by simp[rtD, *],bA _ _⟩
    ·by_cases h7:hp=0
     ·go_wp2_with fail
      go_ret
      exact⟨by simp[rtD, *],bA _ _⟩
     ·by_cases h8:net=0
      ·by_cases h9:bts=0
       ·go_wp2_with fail
        go_ret
        exact⟨by simp[rtD, *],bA _ _⟩
       ·go_wp2_with fail
        go_ret
        exact⟨by simp[rtD, *],bA _ _⟩
      ·go_wp2_with fail
       go_ret
       exact⟨by simp[rtD, *],bA _ _⟩
 ·by_cases p2:proto=17
  ·by_cases h4:tq=0
   ·go_wp2_with fail
    go_ret
    exact⟨by simp[rtD, *],bA _ _⟩
   ·by_cases h5:port=0
    ·go_wp2_with fail
     go_ret
     exact⟨by simp[rtD, *],bA _ _⟩
    ·by_cases h6:host=0
     ·go_wp2_with fail
      go_ret
      exact⟨by simp[rtD, *],bA _ _⟩
     ·by_cases h7:hp=0
      ·go_wp2_with fail
       go_ret
       exact⟨by simp[rtD, *],bA _ _⟩
      ·by_cases h8:net=0
       ·by_cases h9:bts=0
        ·go_wp2_with fail
         go_ret
         exact⟨by simp[rtD, *],bA _ _⟩
        ·go_wp2_with fail
         go_ret
         exact⟨by simp[rtD, *],bA _ _⟩
       ·go_wp2_with fail
        go_ret
        exact⟨by simp[rtD, *],bA _ _⟩
  ·go_wp2_with fail
   go_ret
   exact⟨by simp[rtD, *],bA _ _⟩
theorem zNs(x:Ru)(w:World)(hx:wfR x):
  Calls Tryz.prog 146 #[.agg (ruc x).toArray] w fun e w'=>e= .returned (.bool (rtB x))∧Later w w':=by
 obtain⟨kind,proto,net,bts,tq,port,host,hp⟩:=x;have hM:∀W,kind=1→Calls Tryz.prog 194 #[.agg #[.int .i64 kind,.int .u8 proto,.int .u32 net,.int .i64 bts,.int .u32 tq,.int .u16 port,.int .u32 host,.int .u16 hp]] W fun e w'=>e= .returned (.bool (rtM ⟨kind,proto,net,bts,tq,port,host,hp⟩))∧Later W w':=fun W h=>zG7 ⟨kind,proto,net,bts,tq,port,host,hp⟩ W hx h;have hD:∀W,Calls Tryz.prog 195 #[.agg #[.int .i64 kind,.int .u8 proto,.int .u32 net,.int .i64 bts,.int .u32 tq,.int .u16 port,.int .u32 host,.int .u16 hp]] W fun e w'=>e= .returned (.bool (rtD ⟨kind,proto,net,bts,tq,port,host,hp⟩))∧Later W w':=fun W=>zG8 ⟨kind,proto,net,bts,tq,port,host,hp⟩ W;have HM:=zAc hM;have HD:=zAc hD;clear hM hD;unfold ruc;simp only;have hr1:kind=1→rtB ⟨kind,proto,net,bts,tq,port,host,hp⟩=rtM ⟨kind,proto,net,bts,tq,port,host,hp⟩:=fun h=>by simp[rtB,h]
 have hr2:kind=2→rtB ⟨kind,proto,net,bts,tq,port,host,hp⟩=rtD ⟨kind,proto,net,bts,tq,port,host,hp⟩:=fun h=>by simp[rtB,h]
 have hr3:kind≠1→kind≠2→rtB ⟨kind,proto,net,bts,tq,port,host,hp⟩=false:=fun h h2=>by simp[rtB,h,h2]
 generalize rtB ⟨kind,proto,net,bts,tq,port,host,hp⟩=tb at*;generalize rtM ⟨kind,proto,net,bts,tq,port,host,hp⟩=tm at*;generalize rtD ⟨kind,proto,net,bts,tq,port,host,hp⟩=td at*;have HR1:=zAc hr1;have HR2:=zAc hr2;have HR3:=zAc hr3;clear hr1 hr2 hr3 hx;have lb0:Later w (w.alloc (.cells #[.int .i64 kind,.int .u8 proto,.int .u32 net,.int .i64 bts,.int .u32 tq,.int .u16 port,.int .u32 host,.int .u16 hp] 125)):=bA _ _;have c0:=zAa (heap_alloc_new w (.cells #[.int .i64 kind,.int .u8 proto,.int .u32 net,.int .i64 bts,.int .u32 tq,.int .u16 port,.int .u32 host,.int .u16 hp] 125));go_enter Tryz.func146,Tryz.ntmps146;by_cases k1:kind=1
 ·subst k1
  go_wp2_with fail;generalize w.alloc _=w0 at*;refine(HM.out w0 trivial).mono ?_;rintro e w1 ⟨rfl,l1⟩;go_wp2_with fail;go_ret
  exact⟨by rw[HR1.out trivial];rfl,lb0.trans l1⟩
 ·by_cases k2:kind=2
  ·subst k2
   go_wp2_with fail;generalize w.alloc _=w0 at*;refine(HD.out w0).mono ?_;rintro e w1 ⟨rfl,l1⟩;go_wp2_with fail;go_ret
   exact⟨by rw[HR2.out trivial];rfl,lb0.trans l1⟩
  ·go_wp2_with fail
   go_ret
   exact⟨by rw[HR3.out k1 k2];rfl,lb0⟩
def okL (l:List Ru):Prop:=l.length≤32∧∀x∈l,wfR x∧rtB x=true
theorem rtB_bits {x:Ru} (h:rtB x=true)(hk:x.kind=1):0≤x.bits∧x.bits≤32:=by
 unfold rtB at h;rw[if_pos hk]at h;unfold rtM at h
 simp at h
 omega
def mqB (src:Int) (x:Ru):Bool:=decide (x.kind=1) && decide (upp src x.bits=x.net)
theorem zPg(x:Ru)(sb:Nat)(src:Int)(w:World)(hb:x.kind=1→0≤x.bits∧x.bits≤32)(hs:0≤src∧src≤4294967295)(hc:w.cell? ⟨sb,0,none⟩=some (.int .u32 src)):
  Calls Tryz.prog 311 #[.agg (ruc x).toArray,.pointer (some ⟨sb,0,none⟩)] w fun e w'=>e= .returned (.bool (mqB src x))∧Later w w':=by
 obtain⟨kind,proto,net,bts,tq,port,host,hp⟩:=x;unfold ruc mqB;simp only at*;have lb0:Later w (w.alloc (.cells #[.int .i64 kind,.int .u8 proto,.int .u32 net,.int .i64 bts,.int .u32 tq,.int .u16 port,.int .u32 host,.int .u16 hp] 125)):=bA _ _;have c0:=zAa (heap_alloc_new w (.cells #[.int .i64 kind,.int .u8 proto,.int .u32 net,.int .i64 bts,.int .u32 tq,.int .u16 port,.int .u32 host,.int .u16 hp] 125));have cs:=lb0.cell hc;clear hc;go_enter Tryz.func311,Tryz.ntmps311;go_wp2_with fail;generalize w.alloc (.cells #[.int .i64 kind,.int .u8 proto,.int .u32 net,.int .i64 bts,.int .u32 tq,.int .u16 port,.int .u32 host,.int .u16 hp] 125)=w0 at*;by_cases k1:kind=1
 ·obtain ⟨h0,h1⟩:=hb k1
  have hU:∀W,Calls Tryz.prog 265 #[.int .i64 bts] W fun e w'=>e= .returned (.int .u32 (upm bts))∧w'=W:=fun W=>zH7 bts W h0 h1;have hz:=and_upm src bts hs h0 h1;have HZ:=zAc hz;clear hz;go_quiet (first|(go_at_call 265;exact Calls.quiet_of_same (hU _)))
  go_wp2_with fail;go_ret
  refine⟨?_,lb0.trans (zAm (Later.refl _) _)⟩;show Ending.returned (Value.bool _)=_
  rw[HZ.out];simp[k1]
  rfl
 ·go_quiet (fail)
  go_wp2_with fail;go_ret
  exact⟨by simp[k1],lb0.trans (zAm (Later.refl _) _)⟩
theorem has1_any(y x:Ru)(xb:Nat)(w:World)(hc:w.heap[xb]? =some (.cells (ruc x).toArray 125 (0,0))):
  Calls Tryz.prog 198 #[.agg (ruc y).toArray,.pointer (some ⟨xb,0,none⟩)] w fun e w'=>e= .returned (.bool (decide (y=x)))∧Later w w':=by
 obtain⟨kind,proto,net,bts,tq,port,host,hp⟩:=y;obtain⟨k2,p2,n2,b2,t2,q2,h2,g2⟩:=x;unfold ruc at*;simp only at*;have lb0:Later w (w.alloc (.cells #[.int .i64 kind,.int .u8 proto,.int .u32 net,.int .i64 bts,.int .u32 tq,.int .u16 port,.int .u32 host,.int .u16 hp] 125)):=bA _ _;have c0:=zAa (heap_alloc_new w (.cells #[.int .i64 kind,.int .u8 proto,.int .u32 net,.int .i64 bts,.int .u32 tq,.int .u16 port,.int .u32 host,.int .u16 hp] 125));have cx:=zAa (zAb lb0 hc);clear hc;go_enter Tryz.func198,Tryz.ntmps198;go_upto_region 1 with fail;generalize w.alloc (.cells #[.int .i64 kind,.int .u8 proto,.int .u32 net,.int .i64 bts,.int .u32 tq,.int .u16 port,.int .u32 host,.int .u16 hp] 125)=w0 at*;go_wp2_with fail
 all_goals go_ret
 all_goals exact⟨by simp_all,lb0⟩
theorem masq_any(base:Nat)(p:Option Addr)(ls:List Ru)(src:Int)(w:World)(hT:PL base w p ls)(hok:okL ls)(hs:0≤src∧src≤4294967295):
  Calls Tryz.prog 281 #[.pointer p,.int .u32 src] w fun e w'=>e= .returned (.tuple #[.agg (ruc (fnd (mqB src) ls)).toArray,.bool (fdb (mqB src) ls)])∧Later w w':=by
 have lb0:Later w ((w.alloc (.cells #[.int .u32 src] 29)).alloc (.cells #[.int .i64 0,.int .u8 0,.int .u32 0,.int .i64 0,.int .u32 0,.int .u16 0,.int .u32 0,.int .u16 0] 125)):=(bA _ _).alloc (by simp) _;have c0:((w.alloc (.cells #[.int .u32 src] 29)).alloc (.cells #[.int .i64 0,.int .u8 0,.int .u32 0,.int .i64 0,.int .u32 0,.int .u16 0,.int .u32 0,.int .u16 0] 125)).heap[w.heap.size]? =some (.cells #[.int .u32 src] 29):=(Below.heap_alloc _ _ _ (by simp)).trans (heap_alloc_new w _)
 have c1:((w.alloc (.cells #[.int .u32 src] 29)).alloc (.cells #[.int .i64 0,.int .u8 0,.int .u32 0,.int .i64 0,.int .u32 0,.int .u16 0,.int .u32 0,.int .u16 0] 125)).heap[w.heap.size+1]? =some (.cells #[.int .i64 0,.int .u8 0,.int .u32 0,.int .i64 0,.int .u32 0,.int .u16 0,.int .u32 0,.int .u16 0] 125):=by
  have:=heap_alloc_new (w.alloc (.cells #[.int .u32 src] 29)) (.cells #[.int .i64 0,.int .u8 0,.int .u32 0,.int .i64 0,.int .u32 0,.int .u16 0,.int .u32 0,.int .u16 0] 125);rwa [World.size_alloc]at this
 go_enter Tryz.func281,Tryz.ntmps281;go_wp2_with fail;generalize (w.alloc (.cells #[.int .u32 src] 29)).alloc (.cells #[.int .i64 0,.int .u8 0,.int .u32 0,.int .i64 0,.int .u32 0,.int .u16 0,.int .u32 0,.int .u16 0] 125)=w0 at*;refine((callsIn_wide (n:=5)).1 (zPe 5 p w0)).mono ?_;rintro e w1 ⟨rfl,hw1⟩;have l1:Later w0 w1:=by rw[hw1];exact bA _ _
 have b1:w1.heap[w0.heap.size]? =some (.cells #[.pointer p] 85):=by rw[hw1];exact heap_alloc_new w0 _
 generalize w0.heap.size=B at*;clear hw1;have hT1:=hT.later (lb0.trans l1);have d0:=zAb l1 c0;have d1:=zAb l1 c1;go_wp2_with fail;refine(zH6 base 311 #[.pointer (some ⟨w.heap.size,0,none⟩)] p B ls (mqB src) w1 hT1 (eS b1) ((zAa b1 0).trans rfl) (enters_of Tryz.func311 (by kernel_rfl) rfl) (fun x hx W hW=>zPg x w.heap.size src W (fun hk=>rtB_bits (hok.2 x hx).2 hk) hs ((zAa (zAb hW d0) 0).trans rfl))).mono ?_;rintro e w2 ⟨rfl,l2⟩;have e1:=zAb l2 d1;have K1:=zAa e1;have F1:=zAd e1;generalize hr:fnd (mqB src) ls=r at*;generalize ht:fdb (mqB src) ls=t at*;have HR:=zAc hr;have HT:=zAc ht;clear hr ht;unfold ruc;go_wp2_with fail;change bodyPost _ _ _ _ _ (zAj w2 (w.heap.size+1) 0 (ruc r));have v1:=zAg (ruc r) e1 rfl;have hbl:Below w.heap.size w2 (zAj w2 (w.heap.size+1) 0 (ruc r)):=(zB3 (rb:=w.heap.size+1) (ruc r) w2).below ((lb0.trans l1).trans l2).size (fun k hk e=>by omega);generalize zAj w2 (w.heap.size+1) 0 (ruc r)=V at*;have k1:=zAa v1;simp only[ruc]at k1;refine bodyPost_ret (v:= .tuple #[.agg (ruc r).toArray,.bool t]) (by simp[results,Tryz.results281,go_sem,k1,ruc]) rfl ⟨by rw[HR.out,HT.out],Below.trans ((lb0.trans l1).trans l2) hbl⟩
def hasB (x:Ru) (l:List Ru):Bool:=fdb (fun y=>decide (y=x)) l
theorem has_anyU(base:Nat)(p:Option Addr)(ls:List Ru)(x:Ru)(w:World)(hT:PL base w p ls):
  Calls Tryz.prog 147 #[.pointer p,.agg (ruc x).toArray] w fun e w'=>e= .returned (.bool (hasB x ls))∧Later w w':=by
 have lb0:Later w (w.alloc (.cells (ruc x).toArray 125)):=bA _ _;have c0:=heap_alloc_new w (.cells (ruc x).toArray 125);go_enter Tryz.func147,Tryz.ntmps147;unfold ruc at*;go_wp2_with fail;generalize w.alloc _=w0 at*;refine((callsIn_wide (n:=5)).1 (zPe 5 p w0)).mono ?_;rintro e w1 ⟨rfl,hw1⟩;have l1:Later w0 w1:=by rw[hw1];exact bA _ _
 have b1:w1.heap[w0.heap.size]? =some (.cells #[.pointer p] 85):=by rw[hw1];exact heap_alloc_new w0 _
 generalize w0.heap.size=B at*;clear hw1;have hT1:=hT.later (lb0.trans l1);have d0:=zAb l1 c0;go_wp2_with fail;refine(zH6 base 198 #[.pointer (some ⟨w.heap.size,0,none⟩)] p B ls (fun y=>decide (y=x)) w1 hT1 (eS b1) ((zAa b1 0).trans rfl) (enters_of Tryz.func198 (by kernel_rfl) rfl) (fun y hy W hW=>has1_any y x w.heap.size W (zAb hW d0))).mono ?_;rintro e w2 ⟨rfl,l2⟩;generalize fnd (fun y=>decide (y=x)) ls=r at*;generalize ht:fdb (fun y=>decide (y=x)) ls=t at*;have HT:=zAc ht;clear ht;unfold ruc;go_wp2_with fail;go_ret
 refine⟨?_,(lb0.trans (l1.trans l2)).trans (bA _ _)⟩;unfold hasB;rw[HT.out];rfl
theorem zPh:(Tryz.prog.info? 125).map (fun i=>(i.zero,i.size,i.bytes))=some (some (.agg #[.int .i64 0,.int .u8 0,.int .u32 0,.int .i64 0,.int .u32 0,.int .u16 0,.int .u32 0,.int .u16 0]),8,40):=by kernel_rfl
theorem zKh {P:Program} {t:TypeId} {z:Value} {a b:Nat} (h:(P.info? t).map (fun i=>(i.zero,i.size,i.bytes))=some (some z,a,b)):∃i,P.info? t=some i∧i.zero=some z∧i.size=a∧i.bytes=b:=by
 cases hi:P.info? t with
 |none=>rw[hi]at h;cases h
 |some i=>rw[hi]at h;simp at h;exact⟨i,rfl,h.1,h.2.1,h.2.2⟩
def adE (l:List Ru) (x:Ru):Int:=if rtB x=false then 4 else if hasB x l=true then 10 else if 32≤l.length then 9 else 0
def adL (l:List Ru) (x:Ru):List Ru:=if adE l x=0 then l++[x]else l
theorem zPi {l:List Ru} {x:Ru} (h:adE l x≠0):adL l x=l:=by unfold adL;rw[if_neg h]
theorem zPj {l:List Ru} {x:Ru} (h:adE l x=0):adL l x=l++[x]:=by unfold adL;rw[if_pos h]
theorem zMj(W:World)(x:Ru):∀j u,(ruc x)[j]? =some u→(W.alloc (.cells (ruc x).toArray 125)).cell? ((⟨W.heap.size,0,none⟩:Addr).add j)=some u:=fun j u hj=>by
 rw[show (⟨W.heap.size,0,none⟩:Addr).add j=⟨W.heap.size,j,none⟩from by unfold Addr.add;split<;>simp_all,zAa (heap_alloc_new W _) j];simpa using hj
def RLq (t:TypeId) (base:Nat) (w w':World) (b:Nat) (v:Value) (l:List Ru):Prop:=∃v',RL t base w' b v' l∧But (fun g=>g=b∨v.ownBlock=some g) w w'∧(v'.ownBlock=v.ownBlock∨∀g,v'.ownBlock=some g→w.heap.size≤g)
theorem RLq.same {t:TypeId} {base:Nat} {w w':World} {b:Nat} {v:Value} {l:List Ru} (h:RL t base w b v l)(k:Later w w'):RLq t base w w' b v l:=⟨v,h.later k,But.of k,.inl rfl⟩
theorem new9_any(w:World):Calls Tryz.prog 92 #[] w fun e w'=>e= .returned (.pointer (some ⟨w.heap.size,0,none⟩))∧Later w w'∧RL 285 w.heap.size w' w.heap.size (.slice none 0 0) []:=by
 have la:Later w (w.alloc (.cells #[.slice none 0 0] 285)):=bA _ _;have hn:=heap_alloc_new w (.cells #[.slice none 0 0] 285);go_enter Tryz.func92,Tryz.ntmps92;go_wp2_with fail;go_ret
 exact⟨rfl,la,Nat.le_refl _,hn,rfl,.inl ⟨rfl,rfl⟩⟩
theorem add9_any(base b:Nat)(v:Value)(l:List Ru)(x:Ru)(w:World)(hT:RL 285 base w b v l)(hx:wfR x)(hl:l.length≤32)(hbs:base≤w.heap.size):
  Calls Tryz.prog 95 #[.pointer (some ⟨b,0,none⟩),.agg (ruc x).toArray] w fun e w'=>e= .returned (.int .i64 (adE l x))∧RLq 285 base w w' b v (adL l x):=by
 obtain⟨i0,hi0,hz0,hz1,hz2⟩:=zKh zPh;have HR9:=zAc (fun W=>zNs x W hx);have lb0:Later w (w.alloc (.cells (ruc x).toArray 125)):=bA _ _;have rb:=heap_alloc_new w (.cells (ruc x).toArray 125);obtain⟨av,cv,rfl,_,_⟩:=(zPd hT.2.2).slice;have HNE:Hid (some b≠Value.ownBlock (.slice av l.length cv)):=fun e=>hT.ne hT.2.1 (by decide) e.symm;go_enter Tryz.func95,Tryz.ntmps95;unfold ruc at rb;have rk:=zAa rb;unfold ruc;go_wp2_with fail;change Calls _ _ #[.agg (ruc x).toArray] (w.alloc (.cells (ruc x).toArray 125)) _;unfold ruc at lb0;unfold ruc;generalize w.alloc _=w0 at*;refine(HR9.out w0).mono ?_;rintro e w1 ⟨rfl,l1⟩;cases hrt:rtB x with
 |false=>
  have hae:adE l x=4:=by unfold adE;rw[if_pos hrt]
  have HAE:=zAc hae;have HAL:=zAc (zPi (l:=l) (x:=x) (by rw[hae];omega));have lz:=lb0.trans l1;clear hae rk;go_wp2_with fail;go_ret
  exact⟨by rw[HAE.out];rfl,by rw[HAL.out];exact RLq.same hT lz⟩
 | true =>
  have r1:=zAb l1 rb;clear rk;have rk:=zAa r1;have hT1:=hT.later (lb0.trans l1);go_wp2_with fail;refine(has_anyU base (some ⟨b,0,none⟩) l x w1 (.inr ⟨b,_,rfl,hT1⟩)).mono ?_;rintro e w2 ⟨rfl,l2⟩;have lz:=(lb0.trans l1).trans l2;cases hhs:hasB x l with
  |true=>
   have hae:adE l x=10:=by unfold adE;rw[hrt,hhs];simp
   have HAE:=zAc hae;have HAL:=zAc (zPi (l:=l) (x:=x) (by rw[hae];omega));clear hae rk hrt hhs;go_wp2_with fail;go_ret
   exact⟨by rw[HAE.out];rfl,by rw[HAL.out];exact RLq.same hT lz⟩
  | false=>
   have r2:=zAb l2 r1;have k2:=zAa (hT.later lz).2.1;by_cases hfull:32≤l.length
   ·have hae:adE l x=9:=by unfold adE;rw[hrt,hhs,if_neg (by simp),if_neg (by simp),if_pos hfull]
    have HAE:=zAc hae;have HAL:=zAc (zPi (l:=l) (x:=x) (by rw[hae];omega));have hf':(32:Int)≤l.length:=by omega
    clear hae rk hrt hhs;go_wp2_with fail;go_ret
    exact⟨by rw[HAE.out];rfl,by rw[HAL.out];exact RLq.same hT lz⟩
   ·have hae:adE l x=0:=by unfold adE;rw[hrt,hhs,if_neg (by simp),if_neg (by simp),if_neg hfull]
    have HAE:=zAc hae;have HAL:=zAc (zPj (l:=l) (x:=x) hae);have hf':¬(32:Int)≤l.length:=by omega
    clear hae rk hrt hhs;go_wp2_with fail;clear k2;have lbx:=lz;have rb:=r2;generalize hwx:w2=wx at*;clear hwx;refine zAk (R:=But (fun g=>g=b∨Value.ownBlock (.slice av l.length cv)=some g)) 11 rfl (by kernel_rfl) ?_;have ld:Later wx wx.drew:=Later.drew wx;have LD:=lbx.trans ld;have rd0:=zAb ld rb;generalize wx.drew=Wd at*;have hTd:=hT.later LD;have hnb:w.heap.size≠b:=fun e=>by have:=hT.blt;omega
    have hnv:Value.ownBlock (.slice av l.length cv)≠some w.heap.size:=fun e=>by have:=(hT.lt e).2;omega
    have ha:∀v1,But (fun g=>g=b∨Value.ownBlock (.slice av l.length cv)=some g) Wd v1→∀j,v1.cell? ⟨w.heap.size,j,none⟩=#[Value.int .i64 x.kind,.int .u8 x.proto,.int .u32 x.net,.int .i64 x.bits,.int .u32 x.tt,.int .u16 x.port,.int .u32 x.host,.int .u16 x.hp][j]? :=fun v1 hv=>zAa ((hv.block w.heap.size (eS rd0) (fun hE=>hE.elim hnb hnv)).trans rd0);refine tX (But.pre _) 0 ?_;refine tX (But.pre _) 1 ?_;refine tX (But.pre _) 2 ?_;refine tX (But.pre _) 3 ?_;refine tX (But.pre _) 5 ?_;clear ha;have kd:=zAa hTd.2.1;refine zDs 4 6 rfl rfl (by kernel_rfl) rfl rfl ?_ ?_
    ·unfold Oper.wp
     go_simp;refine⟨But.refl _ _,?_⟩;clear kd;refine tO 6 ?_;unfold Oper.wp;go_simp;have l1:Later Wd (Wd.alloc (.cells (ruc x).toArray 125)):=bA _ _;have HN1:=zMj Wd x;have LL:=LD.trans l1;refine⟨But.of l1,?_⟩;change zA1 _ _ _ _ _ _ _ _ (Wd.alloc (.cells (ruc x).toArray 125));generalize Wd.alloc (.cells (ruc x).toArray 125)=W1 at*;generalize Wd.heap.size=gn at*;have hT1:=hT.later LL;have hO1:=hT1.2.2;have hbs1:=Nat.le_trans hbs LL.size;refine tO 7 ?_;refine wp_append_lies W1 (.tmp 27) (.tmp 29) 283 rfl base 125 i0 (.agg #[.int .i64 0,.int .u8 0,.int .u32 0,.int .i64 0,.int .u32 0,.int .u16 0,.int .u32 0,.int .u16 0]) 8 40 Tryz.underlying283 hi0 hz0 hz1 hz2 rfl (by decide) (.slice av l.length cv) l.length (rus l) rfl hO1 ⟨gn,0,none⟩ 1 1 (ruc x) rfl rfl HN1 (by intro u hu;simp only[ruc,List.mem_cons,List.not_mem_nil,or_false]at hu;rcases hu with rfl|rfl|rfl|rfl|rfl|rfl|rfl|rfl<;>rfl) (by omega) (by unfold maxLen;omega) (by omega) hbs1 _ rfl ?_;intro g' cap' W6 hrow6 hg6 hpl hlt6
     have hb6:But (fun g=>g=b∨Value.ownBlock (.slice av l.length cv)=some g) W1 W6:=⟨hg6.os,hg6.tape,hg6.output,hg6.size,fun k hk he=>hg6.block k hk (fun e=>he (.inr e.symm))⟩;refine⟨hb6,?_⟩;simp only[Act.put,sA,sB,sC];have h6:W6.heap[b]? =some (.cells #[.slice av l.length cv] 285 (0,0)):=(hg6.block b (eS hT1.2.1) HNE.out).trans hT1.2.1;have k6:=zAa h6;have f6:=zAd h6;refine tX (But.pre _) 8 ?_;refine tX (But.pre _) 9 ?_;refine tO 10 ?_;unfold Oper.wp;go_simp;generalize hV:W6.setCell ⟨b,0,none⟩ _=V;have hV3:=zAh h6 0 (.slice (some ⟨g',0,none⟩) (l.length+1) cap');rw[hV]at hV3;have hbV2:But (fun g=>g=b∨Value.ownBlock (.slice av l.length cv)=some g) W6 V:=by rw[←hV];exact(But.refl (fun g=>g=b∨Value.ownBlock (.slice av l.length cv)=some g) _).setCell (p:=⟨b,0,none⟩) (.inl rfl) _
     have hbV1:But (fun g=>g=b) W6 V:=by rw[←hV];exact(But.refl (fun g=>g=b) _).setCell (p:=⟨b,0,none⟩) rfl _
     refine⟨hbV2,?_⟩;clear hV k6 f6;refine tD ?_
     have hfin:RLq 285 base w V b (.slice av l.length cv) (l++[x]):=by
      refine⟨.slice (some ⟨g',0,none⟩) (l.length+1) cap',⟨hT.1,hV3,?_⟩,(But.of LL).trans (hb6.trans hbV2),?_⟩
      ·rw[zMi,List.length_append,List.length_singleton]
       obtain⟨q1,⟨q2,q3⟩|⟨g,cap,cur,hv,hgb,hh,q⟩⟩:=hrow6
       ·simp at q2
       ·refine ⟨q1,.inr ⟨g,cap,cur,hv,hgb,(hbV1.block g (eS hh) (fun e=> ?_)).trans hh,q⟩⟩
        subst e;rw[h6]at hh
        simp at hh
      ·rcases hpl with h|h
       ·exact .inl h.symm
       ·refine .inr (fun g hg=> ?_)
        have:g'=g:=by simpa[Value.ownBlock]using hg
        subst this;have:=LL.size;omega
     have HF:=zAc hfin;clear hfin;go_wp2_with fail;go_ret
     exact⟨by rw[HAE.out];rfl,by rw[HAL.out];exact HF.out⟩
    ·unfold Oper.wp
     go_simp;have l1:Later Wd (Wd.alloc (.cells (ruc x).toArray 125)):=bA _ _;have HN1:=zMj Wd x;have LL:=LD.trans l1;refine⟨But.of l1,?_⟩;have k1:=zAa (zAb l1 hTd.2.1);clear kd;change zA1 _ _ _ _ _ _ _ _ (Wd.alloc (.cells (ruc x).toArray 125));generalize Wd.alloc (.cells (ruc x).toArray 125)=W1 at*;generalize Wd.heap.size=gn at*;refine tO 4 ?_;unfold Oper.wp;go_simp;refine⟨But.refl _ _,?_⟩;clear k1;have hT1:=hT.later LL;have hO1:=hT1.2.2;have hbs1:=Nat.le_trans hbs LL.size;refine tO 7 ?_;refine wp_append_lies W1 (.tmp 27) (.tmp 29) 283 rfl base 125 i0 (.agg #[.int .i64 0,.int .u8 0,.int .u32 0,.int .i64 0,.int .u32 0,.int .u16 0,.int .u32 0,.int .u16 0]) 8 40 Tryz.underlying283 hi0 hz0 hz1 hz2 rfl (by decide) (.slice av l.length cv) l.length (rus l) rfl hO1 ⟨gn,0,none⟩ 1 1 (ruc x) rfl rfl HN1 (by intro u hu;simp only[ruc,List.mem_cons,List.not_mem_nil,or_false]at hu;rcases hu with rfl|rfl|rfl|rfl|rfl|rfl|rfl|rfl<;>rfl) (by omega) (by unfold maxLen;omega) (by omega) hbs1 _ rfl ?_;intro g' cap' W6 hrow6 hg6 hpl hlt6
     have hb6:But (fun g=>g=b∨Value.ownBlock (.slice av l.length cv)=some g) W1 W6:=⟨hg6.os,hg6.tape,hg6.output,hg6.size,fun k hk he=>hg6.block k hk (fun e=>he (.inr e.symm))⟩;refine⟨hb6,?_⟩;simp only[Act.put,sA,sB,sC];have h6:W6.heap[b]? =some (.cells #[.slice av l.length cv] 285 (0,0)):=(hg6.block b (eS hT1.2.1) HNE.out).trans hT1.2.1;have k6:=zAa h6;have f6:=zAd h6;refine tX (But.pre _) 8 ?_;refine tX (But.pre _) 9 ?_;refine tO 10 ?_;unfold Oper.wp;go_simp;generalize hV:W6.setCell ⟨b,0,none⟩ _=V;have hV3:=zAh h6 0 (.slice (some ⟨g',0,none⟩) (l.length+1) cap');rw[hV]at hV3;have hbV2:But (fun g=>g=b∨Value.ownBlock (.slice av l.length cv)=some g) W6 V:=by rw[←hV];exact(But.refl (fun g=>g=b∨Value.ownBlock (.slice av l.length cv)=some g) _).setCell (p:=⟨b,0,none⟩) (.inl rfl) _
     have hbV1:But (fun g=>g=b) W6 V:=by rw[←hV];exact(But.refl (fun g=>g=b) _).setCell (p:=⟨b,0,none⟩) rfl _
     refine⟨hbV2,?_⟩;clear hV k6 f6;refine tD ?_
     have hfin:RLq 285 base w V b (.slice av l.length cv) (l++[x]):=by
      refine⟨.slice (some ⟨g',0,none⟩) (l.length+1) cap',⟨hT.1,hV3,?_⟩,(But.of LL).trans (hb6.trans hbV2),?_⟩
      ·rw[zMi,List.length_append,List.length_singleton]
       obtain⟨q1,⟨q2,q3⟩|⟨g,cap,cur,hv,hgb,hh,q⟩⟩:=hrow6
       ·simp at q2
       ·refine ⟨q1,.inr ⟨g,cap,cur,hv,hgb,(hbV1.block g (eS hh) (fun e=> ?_)).trans hh,q⟩⟩
        subst e;rw[h6]at hh
        simp at hh
      ·rcases hpl with h|h
       ·exact .inl h.symm
       ·refine .inr (fun g hg=> ?_)
        have:g'=g:=by simpa[Value.ownBlock]using hg
        subst this;have:=LL.size;omega
     have HF:=zAc hfin;clear hfin;go_wp2_with fail;go_ret
     exact⟨by rw[HAE.out];rfl,by rw[HAL.out];exact HF.out⟩
structure Ex where
 pr:Int
 src:Int
 dst:Int
 sp:Int
 dp:Int
 host:Int
 hp:Int
 ms:Int
 dl:Int
deriving DecidableEq
def exc (r:Ex):List Value:=[.int .u8 r.pr,.int .u32 r.src,.int .u32 r.dst,.int .u16 r.sp,.int .u16 r.dp,.int .u32 r.host,.int .u16 r.hp,.int .i64 r.ms,.int .i64 r.dl]
def exs (l:List Ex):List Value:=l.flatMap exc
theorem zC2(r:Ex):(exc r).length=9:=rfl
theorem zF6(l:List Ex):(exs l).length=l.length*9:=by
 induction l with
 |nil=>rfl
 |cons r l ih=>unfold exs at ih⊢;rw[List.flatMap_cons,List.length_append,ih,zC2,List.length_cons];omega
theorem zNt(l m:List Ex):exs (l++m)=exs l++exs m:=by unfold exs;simp
theorem zPk:∀(l:List Ex) (j i:Nat) (hj:j<l.length),i<9→(exs l)[j*9+i]? =(exc l[j])[i]?
 |r::l,0,i,_,hi=>by
  unfold exs;rw[List.flatMap_cons,Nat.zero_mul,Nat.zero_add,List.getElem?_append_left (by rw[zC2];exact hi)];rfl
 |r::l,j+1,i,hj,hi=>by
  have ih:=zPk l j i (by simpa using hj) hi;unfold exs at ih⊢;rw[List.flatMap_cons,List.getElem?_append_right (by rw[zC2];omega),zC2,show(j+1)*9+i-9=j*9+i from by omega,ih];rfl
def RdV (n₀:Nat) (W:World) (sv:Value) (l:List Ex):Prop:=
 (∃a cap,sv= .slice a 0 cap∧l=[]∧cap≤9223372036854775807∧(a=none→cap=0))∨
 ∃b off cap,sv= .slice (some ⟨b,off,none⟩) l.length cap∧l≠ []∧l.length≤cap∧cap≤9223372036854775807∧b<n₀∧∀j (hj:j<l.length),∀i,i<9→W.cell? ⟨b,off+j*9+i,none⟩=(exc l[j])[i]?
theorem RdV.below {n₀:Nat} {A B:World} (h:Below n₀ A B) {sv:Value} {l:List Ex} :RdV n₀ A sv l→RdV n₀ B sv l
 | .inl e=> .inl e
 | .inr ⟨b,off,cap,e,hne,hl,hm,hb,hc⟩=> .inr ⟨b,off,cap,e,hne,hl,hm,hb,fun j hj i hi=>(h.cell (p:=⟨b,off+j*9+i,none⟩) hb).trans (hc j hj i hi)⟩
theorem RdV.slice {n₀:Nat} {A:World} {sv:Value} {l:List Ex} :RdV n₀ A sv l→∃a cap,sv= .slice a l.length cap∧l.length≤cap∧cap≤9223372036854775807
 | .inl ⟨a,cap,e,hz,hm,_⟩=>⟨a,cap,by rw[e,hz];rfl,by rw[hz];exact Nat.zero_le _,hm⟩
 | .inr ⟨b,off,cap,e,_,hl,hm,_⟩=>⟨_,cap,e,hl,hm⟩
theorem RdV.cells {n₀:Nat} {W:World} {sv:Value} {l:List Ex} (h:RdV n₀ W sv l)(hne:0<l.length):∃b off cap,sv= .slice (some ⟨b,off,none⟩) l.length cap∧l.length≤cap∧cap≤9223372036854775807∧b<n₀∧∀j (hj:j<l.length),∀i,i<9→W.cell? ⟨b,off+j*9+i,none⟩=(exc l[j])[i]? :=by
 rcases h with⟨a,cap,_,rfl,_⟩|⟨b,off,cap,e,_,hl,hm,hb,hc⟩
 ·simp at hne
 ·exact ⟨b,off,cap,e,hl,hm,hb,hc⟩
theorem zKi {base:Nat} {W:World} {v:Value} {l:List Ex} (h:W.ownsRow base 172 9 v l.length (exs l)):RdV W.heap.size W v l:=by
 obtain⟨h1,⟨rfl,h0⟩|⟨g,cap,cur,rfl,hg,hh,hl,hm,hs,hc⟩⟩:=h
 ·have:l=[]:=List.eq_nil_of_length_eq_zero h0
  subst this;exact .inl ⟨none,0,rfl,rfl,by omega,fun _=>rfl⟩
 ·by_cases hn:l=[]
  ·subst hn
   exact .inl ⟨_,cap,rfl,rfl,by simpa[maxLen]using hm,fun h=>by cases h⟩
  ·refine .inr ⟨g,0,cap,rfl,hn,hl,by simpa[maxLen]using hm,(eS hh),fun j hj i hi=> ?_⟩
   rw[Nat.zero_add,zAa hh,←zPk l j i hj hi,←hc,List.getElem?_take_of_lt (by omega)];simp
theorem zC3 {base:Nat} {A B:World} {v:Value} {n:Nat} {xs:List Value} (h:A.ownsRow base 172 9 v n xs)(l:Later A B):B.ownsRow base 172 9 v n xs:=by
 obtain⟨h1,h2|⟨g,cap,cur,hv,hg,hh,r⟩⟩:=h
 ·exact ⟨h1,.inl h2⟩
 ·exact ⟨h1,.inr ⟨g,cap,cur,hv,hg,zAb l hh,r⟩⟩
def BL (t:TypeId) (base:Nat) (W:World) (b:Nat) (v:Value) (l:List Ex):Prop:=base≤b∧W.heap[b]? =some (.cells #[v] t (0,0))∧W.ownsRow base 172 9 v l.length (exs l)
theorem BL.later {t:TypeId} {base:Nat} {A B:World} {b:Nat} {v:Value} {l:List Ex} (h:BL t base A b v l)(k:Later A B):BL t base B b v l:=⟨h.1,zAb k h.2.1,zC3 h.2.2 k⟩
theorem BL.blt {t:TypeId} {base:Nat} {W:World} {b:Nat} {v:Value} {l:List Ex} (h:BL t base W b v l):b<W.heap.size:=(eS h.2.1)
theorem info_exp:(Tryz.prog.info? 172).map (fun i=>(i.zero,i.size,i.bytes))=some (some (.agg #[.int .u8 0,.int .u32 0,.int .u32 0,.int .u16 0,.int .u16 0,.int .u32 0,.int .u16 0,.int .i64 0,.int .i64 0]),9,40):=by kernel_rfl
theorem zKj {P:Program} {t:TypeId} {z:Value} {a b:Nat} (h:(P.info? t).map (fun i=>(i.zero,i.size,i.bytes))=some (some z,a,b)):∃i,P.info? t=some i∧i.zero=some z∧i.size=a∧i.bytes=b:=by
 cases hi:P.info? t with
 |none=>rw[hi]at h;cases h
 |some i=>rw[hi]at h;simp at h;exact⟨i,rfl,h.1,h.2.1,h.2.2⟩
theorem zPl(b off k:Nat):(⟨b,off,none⟩:Addr).add k=⟨b,off+k,none⟩:=by unfold Addr.add;split<;>simp_all
theorem exs_one(l:List Ex):∀u∈exs l,u.oneCell'=true:=fun u hu=>by
 obtain⟨r,_,hr⟩:=List.mem_flatMap.1 hu;simp only[exc,List.mem_cons,List.not_mem_nil,or_false]at hr;rcases hr with rfl|rfl|rfl|rfl|rfl|rfl|rfl|rfl|rfl<;>rfl
theorem appE(w:World)(ty:TypeId)(base n₀:Nat)(v:Value)(xs:List Ex)(sv:Value)(ys:List Ex)(hown:w.ownsRow base 172 9 v xs.length (exs xs))(hI:RdV n₀ w sv ys)(hbase:base≤w.heap.size)(hs:xs.length+ys.length≤10000):
  ∃v' w',(Builtin.append_ #[47,47] ty #[v,sv]).run Tryz.prog w= .ok v' w'∧w'.ownsRow base 172 9 v' (xs++ys).length (exs (xs++ys))∧w.grownBy w' v.ownBlock∧(v'.ownBlock=v.ownBlock∨v'.ownBlock=some w.heap.size):=by
 obtain⟨i0,hi0,hz0,hz1,hz2⟩:=zKj info_exp;rcases hI with⟨a,cap,rfl,rfl,hcm,ha⟩|⟨b,off,cap,rfl,hne,hl,hm,hb,hc⟩
 ·obtain ⟨av,cv,rfl,hv1,hv2⟩:=(zKi hown).slice
  refine⟨_,w,run_append_nothing w _ _ ty _ i0 Tryz.underlying47 hi0 av xs.length cv hv1 (.slice a 0 cap) ?_,by rw[List.append_nil];exact hown,⟨rfl,rfl,rfl,Nat.le_refl _,fun _ _ _=>rfl⟩,.inl rfl⟩;refine⟨.inl ⟨_,Tryz.underlying47⟩,fun w'=> ?_,?_,?_,by simp,by simp⟩<;>cases a<;>simp[Builtin.lenOf,Builtin.firstCells,go_sem]
 ·have hp:0<ys.length:=List.length_pos_iff.2 hne
  obtain⟨g,cap',w',hr,h2,h3,h4,h5⟩:=run_append_lies (P:=Tryz.prog) w 47 ty base 172 i0 _ 9 40 Tryz.underlying47 hi0 hz0 hz1 hz2 rfl (by decide) v xs.length (exs xs) hown ⟨b,off,none⟩ ys.length cap (exs ys) (zF6 ys) (fun j u hj=>by
   have hlt:=(List.getElem?_eq_some_iff.1 hj).1;rw[zF6]at hlt;rw[zPl];have h1:=hc (j/9) (by omega) (j % 9) (Nat.mod_lt _ (by omega));rw[←zPk ys (j/9) (j % 9) (by omega) (Nat.mod_lt _ (by omega)),show j/9*9+j % 9=j from by omega,hj]at h1;rw[←h1];congr 2
   omega) (exs_one ys) hp (by unfold maxLen;omega) (by omega) hbase _ rfl
  refine⟨_,w',hr,by rw[List.length_append,zNt];exact h2,h3,?_⟩;rcases h4 with h4|h4
  ·exact .inl (by rw[h4];rfl)
  ·exact .inr (by rw[h4];rfl)
theorem zE8 {P:Program} {ops:Array Oper} {rest:List Oper} {o:Oper} {a:Act} {Q:Exit→Act→World→Prop} {w:World} (hg:o.guard=none)(s x:Operand)(t:TypeId)(hop:o.op=Op.call { callee:=Callee.builtin Builtin.append,args:=#[s,x],argTypes:=#[t,t] })
  (v sx:Value)(hs:a.eval s=v)(hx:a.eval x=sx)(v':Value)(w':World)(hrun:(Builtin.append_ #[t,t] o.type #[v,sx]).run P w= .ok v' w')(hk:wpList P ops Q rest (a.put o.dst v') w'):wpList P ops Q (o::rest) a w:=
 wpList_plain hg fun K hK=>zEl s x t hop v sx hs hx v' w' hrun (hK _ _ hk)
structure Tu where
 pr:Int
 src:Int
 dst:Int
 sp:Int
 dp:Int
deriving DecidableEq
theorem of1_any(y:Ex)(m:Int)(mb:Nat)(w:World)(hc:w.cell? ⟨mb,0,none⟩=some (.int .i64 m)):
  Calls Tryz.prog 223 #[.agg (exc y).toArray,.pointer (some ⟨mb,0,none⟩)] w fun e w'=>e= .returned (.bool (decide (y.ms=m)))∧Later w w':=by
 obtain⟨pr,src,dst,sp,dp,host,hp,ms,dl⟩:=y;unfold exc at*;simp only at*;have lb0:Later w (w.alloc (.cells #[.int .u8 pr,.int .u32 src,.int .u32 dst,.int .u16 sp,.int .u16 dp,.int .u32 host,.int .u16 hp,.int .i64 ms,.int .i64 dl] 172)):=bA _ _;have c0:=zAa (heap_alloc_new w (.cells #[.int .u8 pr,.int .u32 src,.int .u32 dst,.int .u16 sp,.int .u16 dp,.int .u32 host,.int .u16 hp,.int .i64 ms,.int .i64 dl] 172));have cx:=lb0.cell hc;clear hc;go_enter Tryz.func223,Tryz.ntmps223;go_upto_region 1 with fail;generalize w.alloc (.cells #[.int .u8 pr,.int .u32 src,.int .u32 dst,.int .u16 sp,.int .u16 dp,.int .u32 host,.int .u16 hp,.int .i64 ms,.int .i64 dl] 172)=w0 at*;go_wp2_with fail
 all_goals go_ret
 all_goals exact⟨by first|rfl|simp_all,lb0⟩
theorem due1_any(y:Ex)(m:Int)(mb:Nat)(w:World)(hc:w.cell? ⟨mb,0,none⟩=some (.int .i64 m)):
  Calls Tryz.prog 111 #[.agg (exc y).toArray,.pointer (some ⟨mb,0,none⟩)] w fun e w'=>e= .returned (.bool (decide (y.dl≤m)))∧Later w w':=by
 obtain⟨pr,src,dst,sp,dp,host,hp,ms,dl⟩:=y;unfold exc at*;simp only at*;have lb0:Later w (w.alloc (.cells #[.int .u8 pr,.int .u32 src,.int .u32 dst,.int .u16 sp,.int .u16 dp,.int .u32 host,.int .u16 hp,.int .i64 ms,.int .i64 dl] 172)):=bA _ _;have c0:=zAa (heap_alloc_new w (.cells #[.int .u8 pr,.int .u32 src,.int .u32 dst,.int .u16 sp,.int .u16 dp,.int .u32 host,.int .u16 hp,.int .i64 ms,.int .i64 dl] 172));have cx:=lb0.cell hc;clear hc;go_enter Tryz.func111,Tryz.ntmps111;go_upto_region 1 with fail;generalize w.alloc (.cells #[.int .u8 pr,.int .u32 src,.int .u32 dst,.int .u16 sp,.int .u16 dp,.int .u32 host,.int .u16 hp,.int .i64 ms,.int .i64 dl] 172)=w0 at*;go_wp2_with fail
 all_goals go_ret
 all_goals exact⟨by first|rfl|simp_all,lb0⟩
theorem app1E(W:World)(ty:TypeId)(base:Nat)(v:Value)(xs:List Ex)(x:Ex)(hown:W.ownsRow base 172 9 v xs.length (exs xs))(hb:base≤W.heap.size)(hs:xs.length≤5000):
  ∃g cap W',(Builtin.append_ #[47,47] ty #[v,.slice (some ⟨W.heap.size,0,none⟩) 1 1]).run Tryz.prog (W.alloc (.cells (exc x).toArray 172))= .ok (.slice (some ⟨g,0,none⟩) (xs.length+1) cap) W'∧W'.ownsRow base 172 9 (.slice (some ⟨g,0,none⟩) (xs.length+1) cap) (xs++[x]).length (exs (xs++[x]))∧But (fun b=>v.ownBlock=some b) W W'∧(v.ownBlock=some g∨W.heap.size≤g)∧(W.alloc (.cells (exc x).toArray 172)).grownBy W' v.ownBlock:=by
 have la:Later W (W.alloc (.cells (exc x).toArray 172)):=bA _ _;have hn:=heap_alloc_new W (.cells (exc x).toArray 172)
 have hI:RdV (W.heap.size+1) (W.alloc (.cells (exc x).toArray 172)) (.slice (some ⟨W.heap.size,0,none⟩) 1 1) [x]:= .inr ⟨W.heap.size,0,1,rfl,by simp,by simp,by omega,by omega,fun j hj i hi=>by
  obtain rfl:j=0:=by simpa using hj
  rw[show 0+0*9+i=i from by omega,zAa hn i];simp⟩
 obtain⟨v',w',h1,h2,h3,h4⟩:=appE (W.alloc (.cells (exc x).toArray 172)) ty base (W.heap.size+1) v xs _ [x] (zC3 hown la) hI (by have:=la.size;omega) (by simp;omega);have h2':=h2;rw[show (xs++[x]).length=xs.length+1 from by simp]at h2';obtain⟨g,cap,rfl⟩:=ownsRow_succ h2';refine⟨g,cap,w',h1,h2,(But.of la).trans ⟨h3.os,h3.tape,h3.output,h3.size,fun k hk he=>h3.block k hk (fun e=>he e.symm)⟩,?_,h3⟩;rcases h4 with h4|h4
 ·exact .inl h4.symm
 ·right
  simp[Value.ownBlock]at h4
  omega
theorem zEu {E:Nat→Prop} {base:Nat} {A B:World} {v:Value} {n:Nat} {xs:List Value} (h:A.ownsRow base 172 9 v n xs)(k:But E A B)(hE:∀g,v.ownBlock=some g→¬E g):B.ownsRow base 172 9 v n xs:=by
 obtain⟨h1,h2|⟨g,cap,cur,hv,hg,hh,r⟩⟩:=h
 ·exact ⟨h1,.inl h2⟩
 ·exact ⟨h1,.inr ⟨g,cap,cur,hv,hg,(k.block g (eS hh) (hE g (by rw[hv];rfl))).trans hh,r⟩⟩
theorem zDc {base:Nat} {W:World} {v:Value} {n:Nat} {xs:List Value} (h:W.ownsRow base 172 9 v n xs) {g:Nat} (e:v.ownBlock=some g):base≤g∧g<W.heap.size:=h.lt g e
theorem zB0 {base:Nat} {A:World} {v:Value} {n:Nat} {xs:List Value} (h:A.ownsRow base 172 9 v n xs):∃sa cap,v= .slice sa n cap:=by
 obtain⟨h1,⟨rfl,rfl⟩|⟨g,cap,cur,hv,hg,r⟩⟩:=h
 ·exact ⟨_,_,rfl⟩
 ·exact ⟨_,_,hv⟩
def Two (base:Nat) (W:World) (u v:Value) (xs ys:List Ex):Prop:=W.ownsRow base 172 9 u xs.length (exs xs)∧W.ownsRow base 172 9 v ys.length (exs ys)∧∀g,u.ownBlock=some g→v.ownBlock≠some g
theorem Two.later {base:Nat} {A B:World} {u v:Value} {xs ys:List Ex} (h:Two base A u v xs ys)(k:Later A B):Two base B u v xs ys:=⟨zC3 h.1 k,zC3 h.2.1 k,h.2.2⟩
theorem zKk(n₀ cf:Nat)(lb:Array Value)(v:Value)(l:List Ex)(q:Ex→Bool)(w:World)(hR:RdV n₀ w v l)(hn:n₀≤w.heap.size)(hl:l.length≤1000)
  (eg:∀args w,(callFunc cf args).run Tryz.prog w= .ok (.enter cf args) w)
  (hcl:∀x∈l,∀W,Later w W→Calls Tryz.prog cf (#[.agg (exc x).toArray]++lb) W fun e W'=>e= .returned (.bool (q x))∧Later W W'):
  Calls Tryz.prog 166 #[v,.func (.func cf) #[] lb] w fun e w'=>Later w w'∧∃u1 u2,e= .returned (.tuple #[u1,u2])∧Two w.heap.size w' u1 u2 (l.filter q) (l.filter (fun x=> !q x)):=by
 obtain⟨sa,cap,rfl,hc1,hc2⟩:=hR.slice;have HR:=zAc hR;have HCL:=zAc hcl;have HEG:=zAc eg;have hli:(l.length:Int)≤1000:=by omega
 clear hR hcl eg;go_enter Tryz.func166,Tryz.ntmps166;go_wp2_with fail;go_loopw [4,5,10] (fun u1 u2 i wr=>∃k:Nat,k≤l.length∧i= .int .i64 (k:Int)∧Two w.heap.size wr u1 u2 ((l.take k).filter q) ((l.take k).filter (fun x=> !q x))∧Later w wr) (fun _ _ i _=>l.length-(intOf i).toNat)
 case atStart=>exact⟨0,by omega,rfl,⟨World.ownsRow_nil _ _ _ _,World.ownsRow_nil _ _ _ _,fun g h=>by cases h⟩,Later.refl _⟩
 case round=>
  obtain⟨k,hk,rfl,hTw,lr⟩:=hrel;obtain⟨s1,k1,rfl⟩:=zB0 hTw.1;obtain⟨s2,k2,rfl⟩:=zB0 hTw.2.1;have HTW:=zAc hTw;clear hTw;have hlA:((l.take k).filter q).length≤1000:=Nat.le_trans (List.length_filter_le _ _) (by simp;omega);have hlB:((l.take k).filter (fun x=> !q x)).length≤1000:=Nat.le_trans (List.length_filter_le _ _) (by simp;omega);by_cases hkl:k<l.length
  ·obtain ⟨g,off,cp,e,_,_,hgn,hcs⟩:=(HR.out.below (lr.mono hn)).cells (by omega)
   simp at e
   obtain⟨rfl,rfl⟩:=e;have c0:=hcs k hkl 0 (by omega);have c1:=hcs k hkl 1 (by omega);have c2:=hcs k hkl 2 (by omega);have c3:=hcs k hkl 3 (by omega);have c4:=hcs k hkl 4 (by omega);have c5:=hcs k hkl 5 (by omega);have c6:=hcs k hkl 6 (by omega);have c7:=hcs k hkl 7 (by omega);have c8:=hcs k hkl 8 (by omega);have hkl':(k:Int)<l.length:=by omega
   have htk:l.take (k+1)=l.take k++[l[k]]:=(List.take_append_getElem hkl).symm;have HFA:Hid (∀b,q l[k]=b→(l.take (k+1)).filter q=if b then(l.take k).filter q++[l[k]]else(l.take k).filter q):=fun b h=>by rw[htk,List.filter_append];cases b<;>simp[h]
   have HFB:Hid (∀b,q l[k]=b→(l.take (k+1)).filter (fun x=> !q x)=if b then(l.take k).filter (fun x=> !q x)else(l.take k).filter (fun x=> !q x)++[l[k]]):=fun b h=>by rw[htk,List.filter_append];cases b<;>simp[h]
   have HC:=zAc (HCL.out l[k] (List.getElem_mem hkl));clear hcs htk;generalize hFq:(l.take k).filter q=FA at*;generalize hFn:(l.take k).filter (fun x=> !q x)=FB at*;clear hFq hFn;generalize l[k]=r at*;simp only[exc,List.getElem?_cons_zero,List.getElem?_cons_succ,Nat.add_zero]at c0 c1 c2 c3 c4 c5 c6 c7 c8;have la:Later wr (wr.alloc (.cells #[.int .u8 r.pr,.int .u32 r.src,.int .u32 r.dst,.int .u16 r.sp,.int .u16 r.dp,.int .u32 r.host,.int .u16 r.hp,.int .i64 r.ms,.int .i64 r.dl] 172)):=bA _ _;have cB:=heap_alloc_new wr (.cells #[.int .u8 r.pr,.int .u32 r.src,.int .u32 r.dst,.int .u16 r.sp,.int .u16 r.dp,.int .u32 r.host,.int .u16 r.hp,.int .i64 r.ms,.int .i64 r.dl] 172);have kB:=zAa cB;have hws:w.heap.size≤wr.heap.size:=lr.size;go_wp2_with fail;generalize wr.alloc (.cells #[.int .u8 r.pr,.int .u32 r.src,.int .u32 r.dst,.int .u16 r.sp,.int .u16 r.dp,.int .u32 r.host,.int .u16 r.hp,.int .i64 r.ms,.int .i64 r.dl] 172)=w1 at*;clear c0 c1 c2 c3 c4 c5 c6 c7 c8 kB;rw[HEG.out];simp only[Oper.upon];have L1:Later w w1:=lr.trans la;refine(HC.out w1 L1).mono ?_;rintro e w2 ⟨rfl,l2⟩;have L2:Later w w2:=L1.trans l2;have kB:=zAa (zAb l2 cB);have HTW2:=zAc (HTW.out.later (la.trans l2));have hs2:=L2.size;clear la l2 cB HTW HC;cases hq:q r with
   | true=>
    obtain⟨g2,cp2,W3,hrun,hrow,hbt,hob,_⟩:=app1E w2 47 w.heap.size (.slice s1 FA.length k1) FA r HTW2.out.1 hs2 (by omega);have HRUN:=zAc hrun;have HE1:=zAc (HFA.out true hq);have HE2:=zAc (HFB.out true hq)
    have HN:Hid (Two w.heap.size W3 (.slice (some ⟨g2,0,none⟩) (FA.length+1) cp2) (.slice s2 FB.length k2) (FA++[r]) FB∧Later w W3):=⟨⟨hrow,zEu HTW2.out.2.1 hbt (fun g hg e=>HTW2.out.2.2 g e hg),fun g hg e=>by
     cases hg
     rcases hob with h|h
     ·exact HTW2.out.2.2 _ h e
     ·have:g2<w2.heap.size:=(zDc HTW2.out.2.1 e).2
      omega⟩,Below.trans L2 (hbt.below hs2 (fun x hx e=>by have:=(zDc HTW2.out.1 e).1;omega))⟩
    clear hq hrun hrow hbt hob HFA HFB;go_wp2_with (at_builtin;refine zE8 rfl (.tmp 17) (.tmp 19) 47 rfl _ _ rfl rfl _ W3 HRUN.out ?_)
    go_roundw
    case rel=>exact⟨k+1,by omega,by go_num,by rw[HE1.out,HE2.out];exact HN.out.1,HN.out.2⟩
    case measure=>simp[intOf];omega
   | false=>
    obtain⟨g2,cp2,W3,hrun,hrow,hbt,hob,_⟩:=app1E w2 47 w.heap.size (.slice s2 FB.length k2) FB r HTW2.out.2.1 hs2 (by omega);have HRUN:=zAc hrun;have HE1:=zAc (HFA.out false hq);have HE2:=zAc (HFB.out false hq)
    have HN:Hid (Two w.heap.size W3 (.slice s1 FA.length k1) (.slice (some ⟨g2,0,none⟩) (FB.length+1) cp2) FA (FB++[r])∧Later w W3):=⟨⟨zEu HTW2.out.1 hbt (fun g hg e=>HTW2.out.2.2 g hg e),hrow,fun g hg e=>by
     cases e
     rcases hob with h|h
     ·exact HTW2.out.2.2 _ hg h
     ·have:g2<w2.heap.size:=(zDc HTW2.out.1 hg).2
      omega⟩,Below.trans L2 (hbt.below hs2 (fun x hx e=>by have:=(zDc HTW2.out.2.1 e).1;omega))⟩
    clear hq hrun hrow hbt hob HFA HFB;go_wp2_with (at_builtin;refine zE8 rfl (.tmp 21) (.tmp 23) 47 rfl _ _ rfl rfl _ W3 HRUN.out ?_)
    go_roundw
    case rel=>exact⟨k+1,by omega,by go_num,by rw[HE1.out,HE2.out];exact HN.out.1,HN.out.2⟩
    case measure=>simp[intOf];omega
  ·obtain rfl:k=l.length:=by omega
   rw[List.take_length]at HTW;simp only[List.take_length]at*;go_wp2_with fail;refine bodyPost_ret (v:= .tuple #[.slice s1 (l.filter q).length k1,.slice s2 (l.filter (fun x=> !q x)).length k2]) (by simp[results,Tryz.results166,go_sem]) rfl ?_;exact⟨lr,_,_,rfl,HTW.out⟩
theorem BL.mono' {t:TypeId} {base base':Nat} {W:World} {b:Nat} {v:Value} {l:List Ex} (h:W.ownsRow base 172 9 v l.length (exs l))(hb:base'≤base):W.ownsRow base' 172 9 v l.length (exs l):=by
 obtain⟨h1,h2|⟨g,cap,cur,hv,hg,r⟩⟩:=h
 ·exact ⟨h1,.inl h2⟩
 ·exact ⟨h1,.inr ⟨g,cap,cur,hv,by omega,r⟩⟩
theorem of12_any(m:Int)(w:World):Calls Tryz.prog 165 #[.int .i64 m] w fun e w'=>e= .returned (.func (.func 223) #[] #[.pointer (some ⟨w.heap.size,0,none⟩)])∧w'=w.alloc (.cells #[.int .i64 m] 3):=by
 go_enter Tryz.func165,Tryz.ntmps165;go_wp2_with fail;go_ret
 exact⟨rfl,rfl⟩
theorem zPm(w:World):Calls Tryz.prog 94 #[] w fun e w'=>e= .returned (.pointer (some ⟨w.heap.size,0,none⟩))∧Later w w'∧BL 174 w.heap.size w' w.heap.size (.slice none 0 0) []:=by
 have la:Later w (w.alloc (.cells #[.slice none 0 0] 174)):=bA _ _;have hn:=heap_alloc_new w (.cells #[.slice none 0 0] 174);go_enter Tryz.func94,Tryz.ntmps94;go_wp2_with fail;go_ret
 exact⟨rfl,la,Nat.le_refl _,hn,rfl,.inl ⟨rfl,rfl⟩⟩
def TkO (t:TypeId) (base:Nat) (w w':World) (b:Nat) (l1 l2:List Ex) (u:Value):Prop:=∃v',BL t base w' b v' l2∧w'.ownsRow w.heap.size 172 9 u l1.length (exs l1)∧But (fun g=>g=b) w w'∧∀g,v'.ownBlock=some g→w.heap.size≤g
theorem zE9(base b cf:Nat)(lb:Array Value)(v:Value)(l:List Ex)(q:Ex→Bool)(w:World)(hT:BL 174 base w b v l)(hbs:base≤w.heap.size)(hl:l.length≤1000)
  (eg:∀args w,(callFunc cf args).run Tryz.prog w= .ok (.enter cf args) w)
  (hcl:∀x∈l,∀W,Later w W→Calls Tryz.prog cf (#[.agg (exc x).toArray]++lb) W fun e W'=>e= .returned (.bool (q x))∧Later W W'):
  Calls Tryz.prog 110 #[.pointer (some ⟨b,0,none⟩),.func (.func cf) #[] lb] w fun e w'=>∃u,e= .returned u∧TkO 174 base w w' b (l.filter q) (l.filter (fun x=> !q x)) u:=by
 have HSP:=zAc (zKk w.heap.size cf lb v l q w (zKi hT.2.2) (Nat.le_refl _) hl eg hcl);have k0:=zAa hT.2.1;obtain⟨av,cv,rfl,_,_⟩:=(zKi hT.2.2).slice;clear eg hcl;go_enter Tryz.func110,Tryz.ntmps110;go_wp2_with fail;refine HSP.out.mono ?_;rintro e w1 ⟨l1,u1,u2,rfl,hTw⟩;have h1:=zAb l1 hT.2.1;have hbl:=hT.blt;clear k0 HSP;have k1:=zAa h1;have f1:=zAd h1;obtain⟨s1,c1,rfl⟩:=zB0 hTw.1;obtain⟨s2,c2,rfl⟩:=zB0 hTw.2.1;have HTW:=zAc hTw;clear hTw;go_wp2_with fail;go_ret
 have hbt:But (fun g=>g=b) w1 (w1.setCell ⟨b,0,none⟩ (.slice s2 (l.filter (fun x=> !q x)).length c2)):=(But.refl (fun g=>g=b) _).setCell (p:=⟨b,0,none⟩) rfl _;have hsz:w.heap.size≤w1.heap.size:=l1.size;refine⟨_,rfl,.slice s2 (l.filter (fun x=> !q x)).length c2,⟨hT.1,by simpa using zAh h1 0 (.slice s2 (l.filter (fun x=> !q x)).length c2),?_⟩,?_,(But.of l1).trans hbt,fun g hg=>(zDc HTW.out.2.1 hg).1⟩
 ·exact BL.mono' (t:=0) (b:=0) (zEu HTW.out.2.1 hbt (fun g hg e=>by have:=(zDc HTW.out.2.1 hg).1;omega)) hbs
 ·exact zEu HTW.out.1 hbt (fun g hg e=>by have:=(zDc HTW.out.1 hg).1;omega)
theorem zNu(base b:Nat)(v:Value)(l:List Ex)(m:Int)(w:World)(hT:BL 174 base w b v l)(hbs:base≤w.heap.size)(hl:l.length≤1000):
  Calls Tryz.prog 107 #[.pointer (some ⟨b,0,none⟩),.int .i64 m] w fun e w'=>∃u,e= .returned u∧TkO 174 base w w' b (l.filter (fun x=>decide (x.ms=m))) (l.filter (fun x=> !decide (x.ms=m))) u:=by
 go_enter Tryz.func107,Tryz.ntmps107;go_wp2_with fail;refine(of12_any m w).mono ?_;rintro e w1 ⟨rfl,hw1⟩;have l1:Later w w1:=by rw[hw1];exact bA _ _
 have c1:w1.heap[w.heap.size]? =some (.cells #[.int .i64 m] 3):=by rw[hw1];exact heap_alloc_new w _
 clear hw1;have HTO:=zAc (zE9 base b 223 #[.pointer (some ⟨w.heap.size,0,none⟩)] v l (fun x=>decide (x.ms=m)) w1 (hT.later l1) (Nat.le_trans hbs l1.size) hl (enters_of Tryz.func223 (by kernel_rfl) rfl) (fun x _ W hW=>of1_any x m w.heap.size W ((zAa (zAb hW c1) 0).trans rfl)));go_wp2_with fail;refine HTO.out.mono ?_;rintro e w2 ⟨u,rfl,v',h1,h2,h3,h4⟩;have hs:w.heap.size≤w1.heap.size:=l1.size;obtain⟨s2,c2,rfl⟩:=zB0 h2;have H2:=zAc h2;clear h2;go_wp2_with fail;go_ret
 exact⟨_,rfl,v',h1,BL.mono' (t:=0) (b:=0) H2.out hs,(But.of l1).trans h3,fun g hg=>Nat.le_trans hs (h4 g hg)⟩
theorem zPn(base b:Nat)(v:Value)(l:List Ex)(m:Int)(w:World)(hT:BL 174 base w b v l)(hbs:base≤w.heap.size)(hl:l.length≤1000):
  Calls Tryz.prog 52 #[.pointer (some ⟨b,0,none⟩),.int .i64 m] w fun e w'=>∃u,e= .returned u∧TkO 174 base w w' b (l.filter (fun x=>decide (x.dl≤m))) (l.filter (fun x=> !decide (x.dl≤m))) u:=by
 have l1:Later w (w.alloc (.cells #[.int .i64 m] 3)):=bA _ _;have c1:=heap_alloc_new w (.cells #[.int .i64 m] 3);go_enter Tryz.func52,Tryz.ntmps52;go_wp2_with fail;generalize w.alloc _=w1 at*;have HTO:=zAc (zE9 base b 111 #[.pointer (some ⟨w.heap.size,0,none⟩)] v l (fun x=>decide (x.dl≤m)) w1 (hT.later l1) (Nat.le_trans hbs l1.size) hl (enters_of Tryz.func111 (by kernel_rfl) rfl) (fun x _ W hW=>due1_any x m w.heap.size W ((zAa (zAb hW c1) 0).trans rfl)));refine HTO.out.mono ?_;rintro e w2 ⟨u,rfl,v',h1,h2,h3,h4⟩;have hs:w.heap.size≤w1.heap.size:=l1.size;obtain⟨s2,c2,rfl⟩:=zB0 h2;have H2:=zAc h2;clear h2;go_wp2_with fail;go_ret
 exact⟨_,rfl,v',h1,BL.mono' (t:=0) (b:=0) H2.out hs,(But.of l1).trans h3,fun g hg=>Nat.le_trans hs (h4 g hg)⟩
end Go.Proofs.YteaeilghamjjkaaGreatDoor
