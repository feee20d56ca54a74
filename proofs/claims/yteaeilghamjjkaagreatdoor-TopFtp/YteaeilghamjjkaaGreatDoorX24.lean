import Derived.Test.YteaeilghamjjkaaGreatDoorX25
import Derived.ScopeJumps
namespace Go.Proofs.YteaeilghamjjkaaGreatDoor
set_option maxHeartbeats 8000000
open Go.RowKit Go.Shelf
set_option maxRecDepth 100000
set_option linter.unusedVariables false
set_option linter.unusedSimpArgs false
theorem otv_ok(proto src dst a b:Int):otv 0 proto src dst a b= .agg #[.int .u8 proto,.int .u32 src,.int .u32 dst,.int .u16 a,.int .u16 b]:=rfl
theorem otv_no {e0:Int} (h:e0≠0)(proto src dst a b:Int):otv e0 proto src dst a b= .agg #[.int .u8 0,.int .u32 0,.int .u32 0,.int .u16 0,.int .u16 0]:=if_neg h
theorem zO6(pr x y e0:Int)(fw fb:FuncId)(tos id ttl src dst:Int)(keep:Bool)(so:Value)(ad:Option Addr)(ld cd:Nat)(w:World)
  (hlk0:∀(w:World) (b:Nat),w.heap[b]? =some (.map rdE 4)→(Instr.lookup 314 (.map (some b)) (.int .u8 pr) true).run Tryz.prog w= .ok (.tuple #[.agg #[.func (.func fw) #[] #[],.func (.func fb) #[] #[]],.bool true]) w)
  (hcf:∀(args:Array Value) (w:World),(callFunc fw args).run Tryz.prog w= .ok (.enter fw args) w)
  (hf:∀w',Below w.heap.size w w'→Calls Tryz.prog fw #[.agg #[.int .u8 tos,.int .u16 id,.bool keep,.int .u8 ttl,.int .u8 pr,.int .u32 src,.int .u32 dst,so,.slice ad ld cd]] w' fun e w''=>Below w'.heap.size w' w''∧∃a b:Int,e= .returned (.tuple #[.agg #[.int .u16 a,.int .u16 b],.int .i64 e0])∧(e0=0→a=x∧b=y)):
  Calls Tryz.prog 112 #[.agg #[.int .u8 tos,.int .u16 id,.bool keep,.int .u8 ttl,.int .u8 pr,.int .u32 src,.int .u32 dst,so,.slice ad ld cd]] w fun e w'=>Below w.heap.size w w'∧e= .returned (.tuple #[otv e0 pr src dst x y,.int .i64 e0]):=by
 have hb0:Below w.heap.size w ((w.alloc (.cells #[.int .u8 tos,.int .u16 id,.bool keep,.int .u8 ttl,.int .u8 pr,.int .u32 src,.int .u32 dst,so,.slice ad ld cd] 40)).alloc (.cells #[.int .u8 0,.int .u32 0,.int .u32 0,.int .u16 0,.int .u16 0] 103)):=(bA _ _).alloc (by simp) _;have p0:((w.alloc (.cells #[.int .u8 tos,.int .u16 id,.bool keep,.int .u8 ttl,.int .u8 pr,.int .u32 src,.int .u32 dst,so,.slice ad ld cd] 40)).alloc (.cells #[.int .u8 0,.int .u32 0,.int .u32 0,.int .u16 0,.int .u16 0] 103)).heap[w.heap.size]? =some (.cells #[.int .u8 tos,.int .u16 id,.bool keep,.int .u8 ttl,.int .u8 pr,.int .u32 src,.int .u32 dst,so,.slice ad ld cd] 40):=(Below.heap_alloc _ _ _ (by simp)).trans (heap_alloc_new w _);have r0:=heap_alloc_new (w.alloc (.cells #[.int .u8 tos,.int .u16 id,.bool keep,.int .u8 ttl,.int .u8 pr,.int .u32 src,.int .u32 dst,so,.slice ad ld cd] 40)) (.cells #[.int .u8 0,.int .u32 0,.int .u32 0,.int .u16 0,.int .u16 0] 103);rw[World.size_alloc]at r0;have hs0:((w.alloc (.cells #[.int .u8 tos,.int .u16 id,.bool keep,.int .u8 ttl,.int .u8 pr,.int .u32 src,.int .u32 dst,so,.slice ad ld cd] 40)).alloc (.cells #[.int .u8 0,.int .u32 0,.int .u32 0,.int .u16 0,.int .u16 0] 103)).heap.size=w.heap.size+2:=by simp
 have HS0:=zAd hs0;have P0:=zAd p0;have R0:=zAd r0;clear r0 hs0 p0;go_enter Tryz.func112,Tryz.ntmps112;go_upto_region 1 with fail;generalize (w.alloc (.cells #[.int .u8 tos,.int .u16 id,.bool keep,.int .u8 ttl,.int .u8 pr,.int .u32 src,.int .u32 dst,so,.slice ad ld cd] 40)).alloc (.cells #[.int .u8 0,.int .u32 0,.int .u32 0,.int .u16 0,.int .u16 0] 103)=w0 at*;have hlt0:w.heap.size+1<w0.heap.size:=by have:=HS0.out;omega
 have p0:=P0.out;go_cut [4,5] (fun q x wx=>∃g,q= .pointer (some ⟨g,0,none⟩)∧x= .bool true∧wx.heap[g]? =some (.cells #[.func (.func fw) #[] #[],.func (.func fb) #[] #[]] 312 (0,0))∧Below w0.heap.size w0 wx)
 case first=>
  refine zAl (R:=But (fun b=>w0.heap.size≤b)) 10 rfl (by kernel_rfl) ?_;have hd:Later w0 w0.drew:=Later.drew w0;have pd:=(hd.block w.heap.size (eS p0)).trans p0;have bd:Below w0.heap.size w0 w0.drew:=hd;generalize w0.drew=Wd at*;have ha:∀v1,But (fun b=>w0.heap.size≤b) Wd v1→∀i,v1.cell? ⟨w.heap.size,i,none⟩=#[Value.int .u8 tos,.int .u16 id,.bool keep,.int .u8 ttl,.int .u8 pr,.int .u32 src,.int .u32 dst,so,.slice ad ld cd][i]? :=fun v1 h=>zAa ((h.block w.heap.size (eS pd) (by omega)).trans pd);have hz:w0.heap.size≤Wd.heap.size:=bd.size;refine tX (But.pre _) 1 ?_;refine tX (But.pre _) 2 ?_;refine zBv 0 7 rfl rfl (by kernel_rfl) rfl rfl ?_ ?_
  ·skip
   refine zAj 167 #[] (by go_simp) ?_;refine(zC4 Wd).mono ?_;rintro e W3 ⟨m,rfl,hb3,hM3⟩;have l3:Later Wd W3:=hb3;refine⟨But.of l3,?_⟩;simp only[Act.put,sA,sB,sC];have hlk:=hlk0 _ _ hM3;refine zBv 3 7 rfl rfl (by kernel_rfl) rfl rfl ?_ ?_
   ·unfold Oper.wp
    go_simp;refine⟨But.refl _ _,?_⟩;clear hlk;refine tX (But.pre _) 4 ?_;refine tX (But.pre _) 5 ?_;refine tX (But.pre _) 6 ?_;refine tO 7 ?_;unfold Oper.wp;go_simp;have l4:Later W3 (W3.alloc (.cells #[.nilFunc,.nilFunc] 312)):=bA _ _;have g4:=heap_alloc_new W3 (.cells #[.nilFunc,.nilFunc] 312);have b4:Below w0.heap.size w0 (W3.alloc (.cells #[.nilFunc,.nilFunc] 312)):=(bd.trans (l3.mono hz)).trans (l4.mono (Nat.le_trans hz l3.size));have hge:w0.heap.size≤W3.heap.size:=Nat.le_trans hz l3.size;refine⟨But.of l4,?_⟩;generalize W3.alloc (.cells #[.nilFunc,.nilFunc] 312)=W4 at*;generalize W3.heap.size=g at*;have kg:=zAa g4;have fg:=zAc g4;have hsf:=zDg Tryz.prog;refine tO 8 ?_;unfold Oper.wp;go_simp;generalize hV:World.setCell _ ⟨g,1,none⟩ _=V;have hV8:V=zAi W4 (g) 0 [.func (.func fw) #[] #[],.func (.func fb) #[] #[]]:=hV.symm;have hbV:But (fun b=>w0.heap.size≤b) W4 V:=by rw[hV8];exact zAf (E:=fun b=>w0.heap.size≤b) (n:=g) hge _ _ _ _ (But.refl _ _)
    have pV:=zAe [Value.func (.func fw) #[] #[],.func (.func fb) #[] #[]] g4 rfl;rw[←hV8]at pV;clear hV hV8 kg fg hsf;refine⟨hbV,?_⟩;refine tO 9 ?_;unfold Oper.wp;go_simp;refine⟨But.refl _ _,?_⟩;refine tD ?_;have hbl:Below w0.heap.size w0 V:=b4.trans (hbV.below b4.size (fun k hk e=>by omega));clear ha;go_wp2_with fail;go_meet
    exact⟨_,rfl,rfl,pV,hbl⟩
   ·unfold Oper.wp
    go_simp;have l4:Later W3 (W3.alloc (.cells #[.nilFunc,.nilFunc] 312)):=bA _ _;have g4:=heap_alloc_new W3 (.cells #[.nilFunc,.nilFunc] 312);have b4:Below w0.heap.size w0 (W3.alloc (.cells #[.nilFunc,.nilFunc] 312)):=(bd.trans (l3.mono hz)).trans (l4.mono (Nat.le_trans hz l3.size));have hge:w0.heap.size≤W3.heap.size:=Nat.le_trans hz l3.size;have hM4:=(l4.block m (eS hM3)).trans hM3;refine⟨But.of l4,?_⟩;clear hlk;generalize W3.alloc (.cells #[.nilFunc,.nilFunc] 312)=W4 at*;generalize W3.heap.size=g at*;have hlk:=hlk0 _ _ hM4;refine tO 3 ?_;unfold Oper.wp;go_simp;refine⟨But.refl _ _,?_⟩;clear hlk;refine tX (But.pre _) 4 ?_;refine tX (But.pre _) 5 ?_;refine tX (But.pre _) 6 ?_;have kg:=zAa g4;have fg:=zAc g4;have hsf:=zDg Tryz.prog;refine tO 8 ?_;unfold Oper.wp;go_simp;generalize hV:World.setCell _ ⟨g,1,none⟩ _=V;have hV8:V=zAi W4 (g) 0 [.func (.func fw) #[] #[],.func (.func fb) #[] #[]]:=hV.symm;have hbV:But (fun b=>w0.heap.size≤b) W4 V:=by rw[hV8];exact zAf (E:=fun b=>w0.heap.size≤b) (n:=g) hge _ _ _ _ (But.refl _ _)
    have pV:=zAe [Value.func (.func fw) #[] #[],.func (.func fb) #[] #[]] g4 rfl;rw[←hV8]at pV;clear hV hV8 kg fg hsf;refine⟨hbV,?_⟩;refine tO 9 ?_;unfold Oper.wp;go_simp;refine⟨But.refl _ _,?_⟩;refine tD ?_;have hbl:Below w0.heap.size w0 V:=b4.trans (hbV.below b4.size (fun k hk e=>by omega));clear ha;go_wp2_with fail;go_meet
    exact⟨_,rfl,rfl,pV,hbl⟩
  ·unfold Oper.wp
   go_simp;have l4:Later Wd (Wd.alloc (.cells #[.nilFunc,.nilFunc] 312)):=bA _ _;have g4:=heap_alloc_new Wd (.cells #[.nilFunc,.nilFunc] 312);have b4:Below w0.heap.size w0 (Wd.alloc (.cells #[.nilFunc,.nilFunc] 312)):=bd.trans (l4.mono hz);refine⟨But.of l4,?_⟩;have hge:w0.heap.size≤Wd.heap.size:=hz;generalize Wd.alloc (.cells #[.nilFunc,.nilFunc] 312)=W4 at*;generalize Wd.heap.size=g at*;refine tO 0 ?_;refine zAj 167 #[] (by go_simp) ?_;refine(zC4 W4).mono ?_;rintro e W5 ⟨m,rfl,hb5,hM5⟩;have l5:Later W4 W5:=hb5;have g5:=(l5.block g (eS g4)).trans g4;have b5:Below w0.heap.size w0 W5:=b4.trans (l5.mono b4.size);refine⟨But.of l5,?_⟩;simp only[Act.put,sA,sB,sC];have hlk:=hlk0 _ _ hM5;refine tO 3 ?_;unfold Oper.wp;go_simp;refine⟨But.refl _ _,?_⟩;clear hlk;refine tX (But.pre _) 4 ?_;refine tX (But.pre _) 5 ?_;refine tX (But.pre _) 6 ?_;have kg:=zAa g5;have fg:=zAc g5;have hsf:=zDg Tryz.prog;refine tO 8 ?_;unfold Oper.wp;go_simp;generalize hV:World.setCell _ ⟨g,1,none⟩ _=V;have hV8:V=zAi W5 (g) 0 [.func (.func fw) #[] #[],.func (.func fb) #[] #[]]:=hV.symm;have hbV:But (fun b=>w0.heap.size≤b) W5 V:=by rw[hV8];exact zAf (E:=fun b=>w0.heap.size≤b) (n:=g) hge _ _ _ _ (But.refl _ _)
   have pV:=zAe [Value.func (.func fw) #[] #[],.func (.func fb) #[] #[]] g5 rfl;rw[←hV8]at pV;clear hV hV8 kg fg hsf;refine⟨hbV,?_⟩;refine tO 9 ?_;unfold Oper.wp;go_simp;refine⟨But.refl _ _,?_⟩;refine tD ?_;have hbl:Below w0.heap.size w0 V:=b5.trans (hbV.below b5.size (fun k hk e=>by omega));clear ha;go_wp2_with fail;go_meet
   exact⟨_,rfl,rfl,pV,hbl⟩
 case rest=>
  obtain⟨g,rfl,rfl,hg,hbc⟩:=hcut;have pc:=(hbc.block w.heap.size (eS p0)).trans p0;have rc:=(hbc.block _ (eS R0.out)).trans R0.out;have hwc:=hb0.trans (hbc.mono hb0.size);have kg:=zAa hg;have kp:=zAa pc;go_wp2_with fail;refine(hf wc hwc).mono ?_;rintro e w5 ⟨hb5,u,v,rfl,hab⟩;have HAB:=zAd hab;clear hab;have l6:Later w5 (w5.alloc (.cells #[.int .u16 u,.int .u16 v] 317)):=bA _ _;have l56:=Later.trans hb5 l6;have p6:=(l56.block w.heap.size (eS pc)).trans pc;have r6:=(l56.block _ (eS rc)).trans rc;have hw6:=hwc.trans (l56.mono hwc.size);clear kg kp;have kp:=zAa p6;go_wp2_with fail;generalize w5.alloc (.cells #[.int .u16 u,.int .u16 v] 317)=w6 at*;refine(told_any tos id ttl pr src dst u v e0 keep so _ w6).mono ?_;rintro e w7 ⟨hb7,⟨hx,rfl⟩|⟨hx,rfl⟩⟩
  ·have HX:=zAd hx
   clear hx;have r7:=(Below.block hb7 _ (eS r6)).trans r6;have hw7:=hw6.trans (hb7.mono hw6.size);have k7:=zAa r7;have f7:=zAc r7;clear kp;go_wp2_with fail;generalize hV:World.setCell _ ⟨w.heap.size+1,4,none⟩ _=V;have hV8:V=zAi w7 (w.heap.size+1) 0 [.int .u8 0,.int .u32 0,.int .u32 0,.int .u16 0,.int .u16 0]:=hV.symm;have hbV:But (fun b=>b=w.heap.size+1) w7 V:=by rw[hV8];exact zAf (E:=fun b=>b=w.heap.size+1) (n:=w.heap.size+1) rfl _ _ _ _ (But.refl _ _)
   have pV:=zAe ([.int .u8 0,.int .u32 0,.int .u32 0,.int .u16 0,.int .u16 0]:List Value) r7 rfl;rw[←hV8]at pV;clear hV hV8 k7 f7;have PV:=zAa pV;have hwV:Below w.heap.size w V:=hw7.trans (hbV.below hw7.size (fun k hk e=>by omega));exact bodyPost_ret (v:= .tuple #[.agg #[.int .u8 0,.int .u32 0,.int .u32 0,.int .u16 0,.int .u16 0],.int .i64 e0]) (by simp[results,Tryz.results112,go_sem,PV]) rfl ⟨hwV,by rw[otv_no HX.out]⟩
  ·subst hx
   obtain⟨rfl,rfl⟩:=HAB.out rfl;have r7:=(Below.block hb7 _ (eS r6)).trans r6;have hw7:=hw6.trans (hb7.mono hw6.size);have k7:=zAa r7;have f7:=zAc r7;clear kp;go_wp2_with fail;generalize hV:World.setCell _ ⟨w.heap.size+1,4,none⟩ _=V;have hV8:V=zAi w7 (w.heap.size+1) 0 [.int .u8 pr,.int .u32 src,.int .u32 dst,.int .u16 u,.int .u16 v]:=hV.symm;have hbV:But (fun b=>b=w.heap.size+1) w7 V:=by rw[hV8];exact zAf (E:=fun b=>b=w.heap.size+1) (n:=w.heap.size+1) rfl _ _ _ _ (But.refl _ _)
   have pV:=zAe ([.int .u8 pr,.int .u32 src,.int .u32 dst,.int .u16 u,.int .u16 v]:List Value) r7 rfl;rw[←hV8]at pV;clear hV hV8 k7 f7;have PV:=zAa pV;have hwV:Below w.heap.size w V:=hw7.trans (hbV.below hw7.size (fun k hk e=>by omega));exact bodyPost_ret (v:= .tuple #[.agg #[.int .u8 pr,.int .u32 src,.int .u32 dst,.int .u16 u,.int .u16 v],.int .i64 0]) (by simp[results,Tryz.results112,go_sem,PV]) rfl ⟨hwV,rfl⟩
theorem cf_tcp(args:Array Value)(w:World):(callFunc 224 args).run Tryz.prog w= .ok (.enter 224 args) w:=by kernel_rfl
abbrev Opt:=Int × List Int
def ByO (os:List Opt):Prop:=∀o∈os,(0≤o.1∧o.1≤255)∧Mt.By o.2
def ob1 (o:Opt):List Int:=if o.1=1 then [1]else o.1::(2+(o.2.length:Int))::o.2
def okO (o:Opt):Prop:=o.1≠0∧(o.1=1→o.2=[])
instance (o:Opt):Decidable (okO o):=by unfold okO;exact inferInstance
def osz (o:Opt):Nat:=if o.1=1 then 1 else 2+o.2.length
theorem zHu(o:Opt):(ob1 o).length=osz o:=by unfold ob1 osz;split<;>simp;omega
def obs (os:List Opt):List Int:=os.flatMap ob1
theorem obs_nil:obs []=[]:=rfl
theorem zO7(o:Opt)(r:List Opt):obs (o::r)=ob1 o++obs r:=by simp[obs]
theorem zIz(l:List Opt)(o:Opt):obs (l++[o])=obs l++ob1 o:=by simp[obs]
theorem obs_app(l r:List Opt):obs (l++r)=obs l++obs r:=by simp[obs]
def zSd (os:List Opt):Prop:=(∀o∈os,okO o)∧(obs os).length≤40
instance (os:List Opt):Decidable (zSd os):=by unfold zSd;exact inferInstance
theorem zI0:zSd []:=by constructor<;>simp[obs]
def zHd (n:Nat):Nat:=(4-n % 4) % 4
def pad (l:List Int):List Int:=l++List.replicate (zHd l.length) 0
theorem zHv(l:List Int):(pad l).length=l.length+zHd l.length:=by simp[pad]
theorem zMk(l:List Int):(pad l).length % 4=0:=by rw[zHv];unfold zHd;omega
theorem pad_le(l:List Int)(h:l.length≤40):(pad l).length≤40:=by rw[zHv];unfold zHd;omega
theorem By_rep(n:Nat):Mt.By (List.replicate n 0):=by
 induction n with
 |zero=>exact Mt.By.nil
 |succ n ih=>rw[List.replicate_succ];exact .mk (by omega) ih
theorem By_ob1(o:Opt)(h:(0≤o.1∧o.1≤255)∧Mt.By o.2)(hl:osz o≤40):Mt.By (ob1 o):=by
 unfold osz at hl;unfold ob1;split
 ·exact .mk (by omega) .nil
 ·rw[if_neg (by assumption)]at hl
  exact .mk h.1 (.mk (by omega) h.2)
theorem By_obs:∀os:List Opt,ByO os→(obs os).length≤40→Mt.By (obs os)
 | [],_,_=>Mt.By.nil
 |o::r,h,hl=>by
  rw[zO7]at hl⊢;rw[List.length_append,zHu]at hl;exact(By_ob1 o (h o (by simp)) (by omega)).append (By_obs r (fun x hx=>h x (by simp[hx])) (by omega))
theorem By_pad(l:List Int)(h:Mt.By l):Mt.By (pad l):=h.append (By_rep _)
def po:Nat→List Int→Option (List Opt)
 |0,_=>none
 |_+1,[]=>some []
 | n+1,k::r=>
  if k=0 then(if ∀x∈r,x=0 then some []else none)
  else if k=1 then(po n r).map ((1,[]):: ·)
  else match r with
   | []=>none
   |s::r'=>if s<2∨(r'.length:Int)+2<s then none else(po n (r'.drop (s.toNat-2))).map ((k,r'.take (s.toNat-2)):: ·)
theorem zMl:∀(n m:Nat) (l:List Int),l.length<n→l.length<m→po n l=po m l
 |0,_,_,h,_=>by omega
 |_+1,0,_,_,h=>by omega
 |n+1,m+1,[],_,_=>rfl
 | n+1,m+1,k::r,h,h'=>by
  simp at h h'
  unfold po;split
  ·rfl
  split
  ·rw[zMl n m r (by omega) (by omega)]
  cases r with
  |nil=>rfl
  |cons s r'=>
   dsimp only
   split
   ·rfl
   ·rw[zMl n m (r'.drop (s.toNat-2)) (by simp at h⊢;omega) (by simp at h'⊢;omega)]
def zCf (zs:List Int):Option (List Opt):=po (zs.length+1) zs
theorem zGf(r:List Int):zCf (0::r)=if ∀x∈r,x=0 then some []else none:=by unfold zCf po;rw[if_pos rfl]
theorem zO8(r:List Int):zCf (1::r)=(zCf r).map ((1,[]):: ·):=by
 show po ((r.length+1)+1) (1::r)=_
 unfold zCf;conv=>lhs;unfold po
 rw[if_neg (by decide),if_pos rfl]
theorem zTd(k:Int)(h0:k≠0)(h1:k≠1):zCf [k]=none:=by unfold zCf po;rw[if_neg h0,if_neg h1]
theorem zHw(k s:Int)(r:List Int)(h0:k≠0)(h1:k≠1)(h:s<2∨(r.length:Int)+2<s):zCf (k::s::r)=none:=by
 unfold zCf po;rw[if_neg h0,if_neg h1];simp only;rw[if_pos h]
theorem zKl(k s:Int)(r:List Int)(h0:k≠0)(h1:k≠1)(h:2≤s)(h':s≤(r.length:Int)+2):zCf (k::s::r)=(zCf (r.drop (s.toNat-2))).map ((k,r.take (s.toNat-2)):: ·):=by
 show po ((k::s::r).length+1) (k::s::r)=_
 unfold zCf;conv=>lhs;unfold po
 rw[if_neg h0,if_neg h1];simp only;rw[if_neg (by omega),zMl _ ((r.drop (s.toNat-2)).length+1) (r.drop (s.toNat-2)) (by simp;omega) (by omega)]
theorem opts_rep(n:Nat):zCf (List.replicate n 0)=some []:=by
 cases n with
 |zero=>rfl
 |succ n=>rw[List.replicate_succ,zGf,if_pos (fun x hx=>(List.mem_replicate.1 hx).2)]
theorem zO9(m:Nat):∀os:List Opt,(∀o∈os,okO o)→zCf (obs os++List.replicate m 0)=some os
 | [],_=>by rw[obs_nil,List.nil_append];exact opts_rep m
 | o::r,h=>by
  have ih:=zO9 m r (fun x hx=>h x (by simp[hx]));obtain⟨k,d⟩:=o;have ho:=h (k,d) (by simp);unfold okO at ho;dsimp only at ho
  rw[zO7,List.append_assoc];unfold ob1;dsimp only
  split
  ·rename_i hk
   subst hk;rw[List.cons_append,List.nil_append,zO8,ih,ho.2 rfl];rfl
  ·rename_i hk
   simp only[List.cons_append];rw[zKl k _ _ ho.1 hk (by omega) (by simp;omega)];rw[show (2+(d.length:Int)).toNat-2=d.length from by omega,List.drop_left,List.take_left,ih];rfl
theorem opts_pad(os:List Opt)(h:zSd os):zCf (pad (obs os))=some os:=zO9 _ os h.1
def RdO (n₀:Nat) (W:World) (sv:Value) (os:List Opt):Prop:=
 (∃a cap,sv= .slice a 0 cap∧os=[]∧cap≤9223372036854775807∧(a=none→cap=0))∨
 ∃b off cap,sv= .slice (some ⟨b,off,none⟩) os.length cap∧os≠ []∧os.length≤cap∧cap≤9223372036854775807∧b<n₀∧
  ∀j,j<os.length→∃s,W.cell? ⟨b,off+j*2,none⟩=some (.int .u8 (os[j]?.getD (0,[])).1)∧W.cell? ⟨b,off+j*2+1,none⟩=some s∧Rd n₀ W s (os[j]?.getD (0,[])).2
theorem RdO.below {n₀:Nat} {A B:World} (h:Below n₀ A B) {sv:Value} {os:List Opt} :RdO n₀ A sv os→RdO n₀ B sv os
 | .inl e=> .inl e
 | .inr ⟨b,off,cap,e,hne,hl,hm,hb,hc⟩=> .inr ⟨b,off,cap,e,hne,hl,hm,hb,fun j hj=>let⟨s,h1,h2,h3⟩:=hc j hj;⟨s,(h.cell (p:=⟨b,off+j*2,none⟩) hb).trans h1,(h.cell (p:=⟨b,off+j*2+1,none⟩) hb).trans h2,h3.below h⟩⟩
theorem RdO.mono {n₀ n₁:Nat} {A:World} (h:n₀≤n₁) {sv:Value} {os:List Opt} :RdO n₀ A sv os→RdO n₁ A sv os
 | .inl e=> .inl e
 | .inr ⟨b,off,cap,e,hne,hl,hm,hb,hc⟩=> .inr ⟨b,off,cap,e,hne,hl,hm,Nat.lt_of_lt_of_le hb h,fun j hj=>let⟨s,h1,h2,h3⟩:=hc j hj;⟨s,h1,h2,h3.mono h⟩⟩
theorem RdO.slice {n₀:Nat} {A:World} {sv:Value} {os:List Opt} :RdO n₀ A sv os→∃a cap,sv= .slice a os.length cap∧os.length≤cap∧cap≤9223372036854775807
 | .inl ⟨a,cap,e,hz,hm,_⟩=>⟨a,cap,by rw[e,hz];rfl,by rw[hz];exact Nat.zero_le _,hm⟩
 | .inr ⟨b,off,cap,e,_,hl,hm,_⟩=>⟨_,cap,e,hl,hm⟩
theorem RdO.cells {n₀:Nat} {W:World} {sv:Value} {os:List Opt} (h:RdO n₀ W sv os)(hne:0<os.length):∃b off cap,sv= .slice (some ⟨b,off,none⟩) os.length cap∧os.length≤cap∧cap≤9223372036854775807∧b<n₀∧
  ∀j,j<os.length→∃s,W.cell? ⟨b,off+j*2,none⟩=some (.int .u8 (os[j]?.getD (0,[])).1)∧W.cell? ⟨b,off+j*2+1,none⟩=some s∧Rd n₀ W s (os[j]?.getD (0,[])).2:=by
 rcases h with⟨a,cap,_,rfl,_⟩|⟨b,off,cap,e,_,hl,hm,hb,hc⟩
 ·simp at hne
 ·exact ⟨b,off,cap,e,hl,hm,hb,hc⟩
def rob (k:Int) (len:Nat):Bool:=k !=0 && (k !=1||(len:Int)==0)
def oszi (k:Int) (len:Nat):Int:=if k=1 then 1 else 2+(len:Int)
theorem rob_iff(o:Opt):rob o.1 o.2.length=true↔okO o:=by
 unfold rob okO;obtain⟨k,d⟩:=o;by_cases h:k=1<;>cases d<;>simp_all<;>omega
theorem oszi_eq(o:Opt):oszi o.1 o.2.length=(osz o:Int):=by unfold oszi osz;split<;>simp
theorem zQ2(k:Int)(a:Option Addr)(len cap:Nat)(w:World):
  Calls Tryz.prog 118 #[.agg #[.int .u8 k,.slice a len cap]] w fun e w'=>e= .returned (.bool (rob k len))∧Below w.heap.size w w':=by
 have hbox:Below w.heap.size w (w.alloc (.cells #[.int .u8 k,.slice a len cap] 244)):=bA _ _;unfold rob;cases h1:(k !=0)
 ·go_enter Tryz.func118,Tryz.ntmps118
  go_wp2
  go_ret
  exact⟨rfl,hbox⟩
 ·cases h2:(k !=1)
  ·go_enter Tryz.func118,Tryz.ntmps118
   go_wp2
   go_ret
   exact⟨rfl,hbox⟩
  ·go_enter Tryz.func118,Tryz.ntmps118
   go_wp2
   go_ret
   exact⟨rfl,hbox⟩
theorem zKm(k:Int)(a:Option Addr)(len cap:Nat)(w:World)(hl:len≤140737488355328):
  Calls Tryz.prog 119 #[.agg #[.int .u8 k,.slice a len cap]] w fun e w'=>e= .returned (.int .i64 (oszi k len))∧Below w.heap.size w w':=by
 have hbox:Below w.heap.size w (w.alloc (.cells #[.int .u8 k,.slice a len cap] 244)):=bA _ _;unfold oszi;by_cases h:k=1
 ·rw[if_pos h]
  have h1:(k==1)=true:=by simp[h]
  clear h;go_enter Tryz.func119,Tryz.ntmps119;go_wp2
  go_ret
  exact⟨rfl,hbox⟩
 ·rw[if_neg h]
  have h1:(k==1)=false:=by simp[h]
  clear h;go_enter Tryz.func119,Tryz.ntmps119;go_wp2
  go_ret
  exact⟨rfl,hbox⟩
section
variable {P:Program} {l:List Oper} {Q:Exit→Act→World→Prop} {fuel:Nat} {listed:Array Bool} {a:Act} {w:World} {R:World→World→Prop}
theorem zB8(hp:Pre R)(i:Nat) {oi:Oper} (hi:zBp l i=some oi)
  (hs:Region.noSelect l.toArray=true)(hf:Region.free .any l.toArray listed i=true)(hr:(Region.ready .any l.toArray listed).contains i=true)
  (hQ:∀c a w,Q (.panic c) (a.put oi.dst undef) w→Q (.panic c) a w)(hg:Region.wanted oi (yielded l.toArray a.tmps)=false)
  (h:zA2 P .any l.toArray Q R fuel (listed.setIfInBounds i true) (a.put oi.dst undef) w):zA2 P .any l.toArray Q R (fuel+1) listed a w:=by
 have hi':l.toArray[i]? =some oi:=by rw[←hi,zA6];simp
 exact zCi hp.1 hp.2 hi' (Region.noSelect_spec hs) hQ fuel listed a w (Region.free_spec hi' hf) (by simpa using hr) (.inr ⟨hg,rfl⟩) h
end
theorem HSt.below {tl:List Value} {t:TypeId} {ub:Nat} {N:Nat→Prop} {ys:List Int} {W W':World} (h:HSt tl t ub N ys W)(l:Later W W'):HSt tl t ub N ys W':=by
 obtain⟨v,h1,h2,h3⟩:=h;refine⟨v,(l.block ub (eS h1)).trans h1,⟨h2.1,h2.2.imp id ?_⟩,h3⟩;rintro⟨g,cap,cur,e,hg,hh,r⟩;exact⟨g,cap,cur,e,hg,(l.block g (eS hh)).trans hh,r⟩
theorem HSt.cell {tl:List Value} {t:TypeId} {ub:Nat} {N:Nat→Prop} {ys:List Int} {W:World} (h:HSt tl t ub N ys W):∃a c,W.cell? ⟨ub,0,none⟩=some (.slice a ys.length c)∧Ow (ub+1) W (.slice a ys.length c) ys∧ys.length≤c:=by
 obtain⟨v,h1,h2,h3⟩:=h;have hO:=Ow.of_row h2;obtain⟨a,c,rfl,hc,_⟩:=hO.slice;exact⟨a,c,by have:=zAa h1 0;simpa using this,hO,hc⟩
def hpad (ub:Nat) (W:World):Nat:=match W.cell? ⟨ub,0,none⟩with|some (.slice _ n _)=>zHd n|_=>0
theorem zGg(sv:Value)(os:List Opt)(w:World)(hB:ByO os)(hI:RdO w.heap.size w sv os)(hl:∀o∈os,o.2.length≤140737488355000):
  Calls Tryz.prog 57 #[sv] w fun e w'=>Below w.heap.size w w'∧((¬zSd os∧e= .returned (.tuple #[.slice none 0 0,.bool false]))∨
   (zSd os∧∃a c,e= .returned (.tuple #[.slice a (pad (obs os)).length c,.bool true])∧Ow w.heap.size w' (.slice a (pad (obs os)).length c) (pad (obs os)))):=by
 obtain⟨a,cap,rfl,hc1,hc2⟩:=hI.slice;have h0:HSt [] 145 w.heap.size (fun _=>False) [] (w.alloc (.cells #[.slice none 0 0] 145)):=⟨.slice none 0 0,heap_alloc_new _ _,World.ownsRow_nil _ _ _ _,fun _ h=>by cases h⟩;have hb0:Below w.heap.size w (w.alloc (.cells #[.slice none 0 0] 145)):=bA _ _;go_enter Tryz.func57,Tryz.ntmps57;go_wp2
 generalize w.alloc (.cells #[.slice none 0 0] 145)=W0 at*
 go_loopw [9] (fun i wr=>∃k:Nat,k≤os.length∧i= .int .i64 (k:Int)∧HSt [] 145 w.heap.size (fun _=>False) (obs (os.take k)) wr∧Below w.heap.size w wr∧(∀o∈os.take k,okO o)∧(obs (os.take k)).length≤40)
  (fun i _=>os.length-(intOf i).toNat)
 case atStart=>exact⟨0,by omega,rfl,h0,hb0,by simp,by simp[obs]⟩
 case round=>
  obtain⟨k,hk,rfl,hH,hb,hok,h40⟩:=hrel;have hub:=hH.lt;by_cases hlt:k<os.length
  ·obtain ⟨b,off,cp,e,_,_,hbb,hcs⟩:=(hI.below hb).cells (by omega)
   simp at e
   obtain⟨rfl,rfl⟩:=e;obtain⟨s,c0,c1,hRs⟩:=hcs k hlt;clear hcs;obtain⟨ax,cx,rfl,hs1,hs2⟩:=hRs.slice;have hmem:os[k]?.getD (0,[])∈os:=by simp[hlt]
   have hol:=hl _ hmem;have hoB:=hB _ hmem;have HT:Hid (os.take (k+1)=os.take k++[os[k]?.getD (0,[])]):=by show _=_;rw[List.take_add_one];simp[hlt]
   clear hmem;generalize os[k]?.getD (0,[])=o at*;obtain⟨kd,dt⟩:=o;dsimp only at c0 hRs hs1 hol hoB c1
   have hRo:=(rob_iff (kd,dt));have hOz:=(oszi_eq (kd,dt));have hO1:=zHu (kd,dt);dsimp only at hRo hOz
   have HRo:=zAd hRo;have HOz:=zAd hOz;have HO1:=zAd hO1;clear hRo hOz hO1;have hlt':(k:Int)<os.length:=by omega
   have hbw:Below w.heap.size w (wr.alloc (.cells #[.int .u8 kd,.slice ax dt.length cx] 244)):=hb.trans ((Below.refl _ wr).alloc hb.size _);have hHw:=hH.alloc (.cells #[.int .u8 kd,.slice ax dt.length cx] 244);have ox:(wr.alloc (.cells #[.int .u8 kd,.slice ax dt.length cx] 244)).heap[wr.heap.size]? =some (.cells #[.int .u8 kd,.slice ax dt.length cx] 244):=heap_alloc_new _ _;have hsw:(wr.alloc (.cells #[.int .u8 kd,.slice ax dt.length cx] 244)).heap.size=wr.heap.size+1:=by simp
   have OX:=zAd ox;have HSW:=zAd hsw;clear ox hsw;have hRw:=hRs.below ((Below.refl _ wr).alloc hb.size (.cells #[.int .u8 kd,.slice ax dt.length cx] 244));go_upto_region 5 with fail;generalize wr.alloc (.cells #[.int .u8 kd,.slice ax dt.length cx] 244)=W1 at*;obtain⟨ah,ch,hcell,hOh,hch⟩:=hHw.cell;refine zAn Later.pre Later.drew 12 rfl (by kernel_rfl) (fun W2 hW2=> ?_);have qo:∀v1,Later W2 v1→∀i,v1.cell? ⟨wr.heap.size,i,none⟩=#[Value.int .u8 kd,.slice ax dt.length cx][i]? :=fun v1 h=>zAa (zAb (hW2.trans h) OX.out);have qh:∀v1,Later W2 v1→v1.cell? ⟨w.heap.size,0,none⟩=some (.slice ah (obs (os.take k)).length ch):=fun v1 h=>(hW2.trans h).cell hcell;refine rX Later.pre 0 ?_;refine zAq Later.pre 1 (.bool (rob kd dt.length)) rfl (by kernel_rfl) (by kernel_rfl) (by kernel_rfl) (fun _ _ _ h=>h) rfl (fun v1 hv1=>zAo 118 #[.agg #[.int .u8 kd,.slice ax dt.length cx]] (by go_simp) ?_) ?_
   ·exact (zQ2 kd ax dt.length cx v1)
   simp only[Act.put,sA,sB,sC];have hmm:(kd,dt)∈os:=by have h2:(kd,dt)∈os.take (k+1):=(by rw[HT.out];simp);exact List.mem_of_mem_take h2
   have hbad:¬okO (kd,dt)→¬zSd os:=fun h h'=>h (h'.1 _ hmm);clear hmm;cases hro:rob kd dt.length with
   |false=>
    have HN:=zAd (hbad (fun h=>by have:=(HRo.out.2 h);rw[hro]at this;cases this));clear hbad hro;refine rX Later.pre 2 ?_;refine rX Later.pre 3 ?_;refine zB8 Later.pre 4 rfl (by kernel_rfl) (by kernel_rfl) (by kernel_rfl) (fun _ _ _ h=>h) (by rfl) ?_;simp only[Act.put,sA,sB,sC];refine zB8 Later.pre 5 rfl (by kernel_rfl) (by kernel_rfl) (by kernel_rfl) (fun _ _ _ h=>h) (by rfl) ?_;simp only[Act.put,sA,sB,sC];refine zB8 Later.pre 6 rfl (by kernel_rfl) (by kernel_rfl) (by kernel_rfl) (fun _ _ _ h=>h) (by rfl) ?_;simp only[Act.put,sA,sB,sC];refine zB8 Later.pre 7 rfl (by kernel_rfl) (by kernel_rfl) (by kernel_rfl) (fun _ _ _ h=>h) (by rfl) ?_;simp only[Act.put,sA,sB,sC];refine zB8 Later.pre 8 rfl (by kernel_rfl) (by kernel_rfl) (by kernel_rfl) (fun _ _ _ h=>h) (by rfl) ?_;simp only[Act.put,sA,sB,sC];refine zB8 Later.pre 9 rfl (by kernel_rfl) (by kernel_rfl) (by kernel_rfl) (fun _ _ _ h=>h) (by rfl) ?_;simp only[Act.put,sA,sB,sC];refine zB8 Later.pre 10 rfl (by kernel_rfl) (by kernel_rfl) (by kernel_rfl) (fun _ _ _ h=>h) (by rfl) ?_;simp only[Act.put,sA,sB,sC];refine rX Later.pre 11 ?_;refine rD (fun W8 hW8=> ?_);have hw8:Below w.heap.size w W8:=hbw.trans ((hW2.trans hW8).mono hbw.size);clear qo qh;go_wp2_with fail;exact bodyPost_ret (v:= .tuple #[.slice none 0 0,.bool false]) (by simp[results,Tryz.results57,go_sem]) rfl ⟨hw8,.inl ⟨HN.out,rfl⟩⟩
   | true=>
    have hokx:okO (kd,dt):=HRo.out.1 hro;clear hbad hro;refine rX Later.pre 2 ?_;refine rX Later.pre 3 ?_;refine qX Later.pre 4 ?_;refine zB3 Later.pre 5 (.int .i64 (oszi kd dt.length)) rfl (by kernel_rfl) (by kernel_rfl) (by kernel_rfl) (fun _ _ _ h=>h) (by rfl) (fun v1 hv1=>zAo 119 #[.agg #[.int .u8 kd,.slice ax dt.length cx]] (by go_simp) ?_) ?_
    ·exact (zKm kd ax dt.length cx v1 (by omega))
    simp only[Act.put,sA,sB,sC];refine qX Later.pre 6 ?_;refine qX Later.pre 7 ?_;refine qX Later.pre 8 ?_;refine qX Later.pre 9 ?_;refine qX Later.pre 10 ?_;refine rX Later.pre 11 ?_;refine rD (fun W8 hW8=> ?_);have hl8:=hW2.trans hW8;have hw8:Below w.heap.size w W8:=hbw.trans (hl8.mono hbw.size);have hH8:=hHw.below hl8;have ox8:=zAb hl8 OX.out;have hs8:wr.heap.size+1≤W8.heap.size:=by have:=hl8.size;have:=HSW.out;omega
    have hR8:=hRw.below (hl8.mono (by have:=HSW.out;have:=hb.size;omega));clear qo qh hOh hcell hRw hHw hbw hW2 hW8 hl8 OX HSW;have hT2:(obs (os.take (k+1))).length=(obs (os.take k)).length+(ob1 (kd,dt)).length:=by rw[HT.out,zIz,List.length_append]
    rw[HO1.out]at hT2;by_cases hbig:(40:Int)-((obs (os.take k)).length:Int)<oszi kd dt.length
    ·have HN:Hid (¬zSd os):=by
      show ¬zSd os
      intro h
      have h2:=h.2;have h3:(obs os).length=(obs (os.take (k+1))).length+(obs (os.drop (k+1))).length:=by rw[←List.length_append,←obs_app,List.take_append_drop]
      have h4:=HOz.out;omega
     rw[show decide (IntKind.i64.wrap (40-((obs (os.take k)).length:Int))<oszi kd dt.length)=true from by rw[IntKind.wrap_i64];simp;omega];go_wp2_with fail;exact bodyPost_ret (v:= .tuple #[.slice none 0 0,.bool false]) (by simp[results,Tryz.results57,go_sem]) rfl ⟨hw8,.inl ⟨HN.out,rfl⟩⟩
    ·have hsm:(obs (os.take (k+1))).length≤40:=by have h4:=HOz.out;omega
     have HSM:=zAd hsm;clear hsm hT2;rw[show decide (IntKind.i64.wrap (40-((obs (os.take k)).length:Int))<oszi kd dt.length)=false from by rw[IntKind.wrap_i64];simp;omega];have K8:=zAa ox8;go_wp2_with fail;have hR9:=Rd.new [kd] 5 W8 (by simp) (by simp);have hH9:=hH8.below ((Below.refl _ W8).alloc (Nat.le_refl _) (.cells #[.int .u8 kd] 5));refine(zDe [] 145 w.heap.size (fun b=>False∨b=wr.heap.size) _ _ [kd] _ _ hH9 (fun b hb=>by rcases hb with h|h;exact h.elim;subst h;exact⟨by first|omega|(simp;omega),by omega⟩) hR9 (by simp;omega)).mono ?_;rintro e W9 ⟨rfl,hH10,hE9⟩;have hE9':But (fun b=>w.heap.size≤b∧¬(False∨b=wr.heap.size)) W8 W9:=(But.of ((Below.refl _ W8).alloc (Nat.le_refl _) _)).trans hE9;have hw9:Below w.heap.size w W9:=hw8.trans (hE9'.below (by omega) (fun k h e=>by omega));have ox9:=(hE9'.block wr.heap.size (by omega) (by simp)).trans ox8;have hR10:=hR8.below (hE9'.below (by omega) (fun k h e=>by omega));have hs9:wr.heap.size+1≤W9.heap.size:=Nat.le_trans hs8 hE9'.size;clear hR9 hH9 hH8 hE9 hE9' ox8 hR8 K8;have K9:=zAa ox9;by_cases hk1:kd=1
     ·have t1:(kd !=1)=false:=by simp[hk1]
      have HO:Hid (obs (os.take (k+1))=obs (os.take k)++[kd]):=by show _=_;rw[HT.out,zIz];unfold ob1;rw[if_pos hk1];simp[hk1]
      have HK:=zAd hk1;clear hk1;go_wp2_with fail;go_roundw
      case rel=>exact⟨k+1,by omega,by go_num,by rw[HO.out];exact hH10.weaken (fun _ h=>h.elim),hw9,by rw[HT.out];intro o ho;rcases List.mem_append.1 ho with h|h;exact hok o h;simp at h;subst h;exact hokx,HSM.out⟩
      case measure=>simp[intOf];omega
     ·have t1:(kd !=1)=true:=by simp[hk1]
      have HO:Hid (obs (os.take (k+1))=obs (os.take k)++[kd]++[2+(dt.length:Int)]++dt):=by show _=_;rw[HT.out,zIz];unfold ob1;rw[if_neg hk1];simp
      have HK:=zAd hk1;have hzz:oszi kd dt.length=2+(dt.length:Int):=by unfold oszi;rw[if_neg hk1]
      have HZ:=zAd hzz;have hd38:dt.length≤38:=by have h:=HSM.out;rw[HO.out]at h;simp at h;omega
      clear hk1 hzz;go_wp2_with fail;refine(zKm kd ax dt.length cx W9 (by omega)).mono ?_;rintro e Wa ⟨rfl,hba⟩;rw[HZ.out];have hwr:IntKind.u8.wrap (2+(dt.length:Int))=2+(dt.length:Int):=by rw[IntKind.wrap_u8];omega
      have hwa:Below w.heap.size w Wa:=hw9.trans (hba.mono hw9.size);have oxa:=zAb hba ox9;have hHa:=hH10.below hba;have hRa:=hR10.below (hba.mono (by omega));have hsa:wr.heap.size+1≤Wa.heap.size:=Nat.le_trans hs9 hba.size;clear K9 ox9 hH10 hR10 hba;go_wp2_with fail;have hRb:=Rd.new [2+(dt.length:Int)] 5 Wa (by simp) (by simp);have hHb:=hHa.below ((Below.refl _ Wa).alloc (Nat.le_refl _) (.cells #[.int .u8 (2+(dt.length:Int))] 5));refine(zDe [] 145 w.heap.size (fun b=>False∨b=wr.heap.size) _ _ [2+(dt.length:Int)] _ _ hHb (fun b hb=>by rcases hb with h|h;exact h.elim;subst h;exact⟨by first|omega|(simp;omega),by omega⟩) hRb (by simp;omega)).mono ?_;rintro e Wb ⟨rfl,hHc,hEb⟩;have hEb':But (fun b=>w.heap.size≤b∧¬(False∨b=wr.heap.size)) Wa Wb:=(But.of ((Below.refl _ Wa).alloc (Nat.le_refl _) _)).trans hEb;have hwb:Below w.heap.size w Wb:=hwa.trans (hEb'.below (by omega) (fun k h e=>by omega));have oxb:=(hEb'.block wr.heap.size (by omega) (by simp)).trans oxa;have hRc:=hRa.below (hEb'.below (by omega) (fun k h e=>by omega));have hsb:wr.heap.size+1≤Wb.heap.size:=Nat.le_trans hsa hEb'.size;clear hRb hHb hHa hEb hEb' oxa hRa;have Kb:=zAa oxb;go_wp2_with fail;refine(zDe [] 145 w.heap.size (fun b=>False∨b=wr.heap.size) _ _ dt _ _ hHc (fun b hb=>by rcases hb with h|h;exact h.elim;subst h;exact⟨by first|omega|(simp;omega),by omega⟩) hRc (by simp;omega)).mono ?_;rintro e Wc ⟨rfl,hHd,hEc⟩
      have hwc:Below w.heap.size w Wc:=hwb.trans (hEc.below (by omega) (fun k h e=>by omega));clear Kb;go_wp2_with fail;go_roundw
      case rel=>exact⟨k+1,by omega,by go_num,by rw[HO.out];exact hHd.weaken (fun _ h=>h.elim),hwc,by rw[HT.out];intro o ho;rcases List.mem_append.1 ho with h|h;exact hok o h;simp at h;subst h;exact hokx,HSM.out⟩
      case measure=>simp[intOf];omega
  ·obtain rfl:k=os.length:=by omega
   rw[List.take_length]at hH hok h40;have HOK:Hid (zSd os):=⟨hok,h40⟩;clear hlt hok;go_wp2_with fail;clear hI hl hB;go_loopw [] (fun wr=>∃m:Nat,m≤zHd (obs os).length∧HSt [] 145 w.heap.size (fun _=>False) (obs os++List.replicate m 0) wr∧Below w.heap.size w wr) (fun wr=>hpad w.heap.size wr)
   case atStart=>exact⟨0,Nat.zero_le _,by simpa using hH,hb⟩
   case round=>
    obtain⟨m,hm,hHm,hbm⟩:=hrel;have hubm:=hHm.lt;have hbw:=hbm.size;obtain⟨ah,ch,hcell,hOh,hch⟩:=hHm.cell;have hln:(obs os++List.replicate m 0).length=(obs os).length+m:=by simp
    have HLN:=zAd hln;clear hln;generalize hgl:(obs os++List.replicate m 0).length=L at*;have hL:L=(obs os).length+m:=HLN.out;clear HLN;by_cases hd:L % 4=0
    ·have t4:((L:Int).tmod 4 !=0)=false:=by
      rw[Int.tmod_eq_emod_of_nonneg (by omega)];simp
      omega
     have hme:m=zHd (obs os).length:=by unfold zHd at*;omega
     subst hme;have hpd:obs os++List.replicate (zHd (obs os).length) 0=pad (obs os):=rfl;rw[hpd]at hOh hgl;subst hgl;have t5:(((pad (obs os)).length:Int) % 4 !=0)=false:=by simp;omega
     have HPD:=zAd hm;clear hL hm hd hpd hHm;generalize hgl:(pad (obs os)).length=L at*;have HGL:=zAd hgl;clear hgl;go_wp2_with fail;exact bodyPost_ret (v:= .tuple #[.slice ah L ch,.bool true]) (by simp[results,Tryz.results57,go_sem]) rfl ⟨hbm,.inr ⟨HOK.out,ah,ch,by rw[HGL.out],by rw[HGL.out];exact hOh.mono (Nat.le_succ _)⟩⟩
    ·have t4:((L:Int).tmod 4 !=0)=true:=by
      rw[Int.tmod_eq_emod_of_nonneg (by omega)];simp
      omega
     have hlt:m+1≤zHd (obs os).length:=by unfold zHd at*;omega
     have t5:((L:Int) % 4 !=0)=true:=by simp;omega
     have h44:L≤44:=by unfold zHd at*;omega
     have HD:=zAd hd;have HL:=zAd hL;have HGL:=zAd hgl;clear hd hL hgl;go_wp2_with fail;have hRb:=Rd.new [0] 5 wr (by simp) (by simp);have hHb:=hHm.below ((Below.refl _ wr).alloc (Nat.le_refl _) (.cells #[.int .u8 0] 5));refine(zDe [] 145 w.heap.size (fun _=>False) _ _ [0] _ _ hHb (fun b hb=>hb.elim) hRb (by have:=HGL.out;simp at this⊢;omega)).mono ?_;rintro e Wb ⟨rfl,hHc,hEb⟩;have hEb':But (fun b=>w.heap.size≤b∧¬False) wr Wb:=(But.of ((Below.refl _ wr).alloc (Nat.le_refl _) _)).trans hEb;have hwb:Below w.heap.size w Wb:=hbm.trans (hEb'.below (by omega) (fun k h e=>by omega));clear hRb hHb hEb hEb' hOh;go_wp2_with fail;obtain⟨ai,ci,hcell2,_,_⟩:=hHc.cell;have HE:Hid (obs os++List.replicate m 0++[0]=obs os++List.replicate (m+1) 0):=by show _=_;rw[List.append_assoc,List.replicate_succ']
     rw[HE.out]at hHc hcell2;go_roundw
     case rel=>exact⟨m+1,hlt,hHc,hwb⟩
     case measure=>
      unfold hpad;rw[hcell,hcell2];have h1:=HL.out;have h2:=HD.out;simp only[List.length_append,List.length_replicate];show zHd _<zHd _
      unfold zHd at*;omega
section
variable {P:Program} {ops:Array Oper} {Q:Exit→Act→World→Prop} {md:Region.Mode} {R:World→World→Prop}
def GivesG (P:Program) (ops:Array Oper) (R:World→World→Prop) (o:Oper) (v:Value) (a:Act) (w:World):Prop:=
 Region.wanted o (yielded ops a.tmps)=true∧∀w',R w w'→(execOp a.eval o).run P w'= .ok (.value v) w'
theorem GivesG.of_same {o:Oper} {v:Value} {a a':Act} {w:World} (hy:GivesG P ops R o v a w)(he:execOp a'.eval o=execOp a.eval o)
  (hw:Region.wanted o (yielded ops a'.tmps)=Region.wanted o (yielded ops a.tmps)):GivesG P ops R o v a' w:=by
 unfold GivesG at*;rw[he,hw];exact hy
theorem GivesG.up {o:Oper} {v:Value} {a:Act} {w w':World} (ht:∀a b c,R a b→R b c→R a c)(hy:GivesG P ops R o v a w)(h:R w w'):GivesG P ops R o v a w':=⟨hy.1,fun w'' h'=>hy.2 w'' (ht _ _ _ h h')⟩
theorem zKn {j:Nat} {oi oj:Oper} {v:Value} (hj:ops[j]? =some oj)(hap:oi.apart ops oj=true)
  (hsi:∀cs b,oi.op≠ .select cs b)(hsj:∀cs b,oj.op≠ .select cs b)
  (hQ:∀c a w,Q (.panic c) (a.put oi.dst v) w→Q (.panic c) a w) {K:Act→World→Prop} {a:Act} {w w₀:World}
  (hy:GivesG P ops R oi v a w₀)(h:wpOp P ops Q j K (a.put oi.dst v) w):
  wpOp P ops Q j (fun a' w'=>GivesG P ops R oi v a' w₀∧K (a'.put oi.dst v) w') a w:=by
 obtain⟨h1,h2,h3⟩:=Oper.apart_spec hap
 have keep:∀(a:Act),GivesG P ops R oi v a w₀→∀u,GivesG P ops R oi v (a.put oj.dst u) w₀:=fun a hy u=>
  hy.of_same (execOp_put oi hsi a oj.dst u h3) (wanted_put oi a oj.dst u h3)
 have keepD:∀d,GivesG P ops R oi v { a with defers:=d::a.defers } w₀:=fun d=>hy.of_same rfl rfl;unfold wpOp at*;simp only[hj]at*;rw[wanted_put oj a oi.dst v h1]at h;split
 ·rename_i hw
  simp only[hw,if_true]at h;rcases h with h|⟨hasks,hlets⟩
  case inr=>exact .inr ⟨by unfold Oper.asks at*;rw[execOp_put oj hsj a oi.dst v h1]at hasks;exact hasks,hlets⟩
  refine .inl ?_;unfold Oper.wp at*;rw[execOp_put oj hsj a oi.dst v h1]at h;generalize (execOp a.eval oj).run P w=r at*;cases r with
  | ok n w'=>
   cases n<;>simp only[Oper.upon]at h⊢
   case value u=>exact⟨keep a hy u,by rw[←Act.put_comm a v u h2];exact h⟩
   case skip=>exact⟨keep a hy _,by rw[←Act.put_comm a v undef h2];exact h⟩
   case defer d=>
    refine⟨keep _ (keepD d) _,?_⟩;rw[←Act.put_comm _ v undef h2,←Act.put_defers];exact h
   case enter f args=>
    refine Calls.mono h fun e w'' he=> ?_;cases e with
    |returned u=>exact⟨keep a hy u,by rw[←Act.put_comm a v u h2];exact he⟩
    |panicked c=>exact hQ _ _ _ he
    |outgrown=>exact he
   case row row args=>exact Rows.mono h fun u w'' he=>⟨keep a hy u,by rw[←Act.put_comm a v u h2];exact he⟩
  |halt x w'=>
   cases x<;>simp only[Oper.upon]at h⊢
   case panic u=>exact hQ _ _ _ h
 ·rename_i hw
  simp only[hw]at h;exact⟨keep a hy _,by rw[←Act.put_comm a v undef h2];exact h⟩
theorem GivesG.wpOp {i:Nat} {o:Oper} {v:Value} {a:Act} {w:World} (hr:∀a,R a a)(hi:ops[i]? =some o)(hy:GivesG P ops R o v a w)
  {K:Act→World→Prop} (h:K (a.put o.dst v) w):Go.wpOp P ops Q i K a w:=by
 unfold Go.wpOp;simp only[hi,hy.1,if_true];refine .inl ?_;unfold Oper.wp;rw[hy.2 w (hr w)];exact h
theorem zKo(hre:∀a,R a a)(ht:∀a b c,R a b→R b c→R a c) {i:Nat} {oi:Oper} {v:Value} (hi:ops[i]? =some oi)(hsel:∀(j:Nat) (o:Oper) cs b,ops[j]? =some o→o.op≠ .select cs b)
  (hQ:∀c a w,Q (.panic c) (a.put oi.dst v) w→Q (.panic c) a w):
  ∀(fuel:Nat) (listed:Array Bool) (a:Act) (w:World),
   (∀j oj,ops[j]? =some oj→j≠i→listed.getD j true=false→(∀e∈oj.after,Region.binds md e=true→e.on≠i)→oi.apart ops oj=true)→
   i∈Region.ready md ops listed→GivesG P ops R oi v a w→
   zAy P md ops Q R fuel (listed.setIfInBounds i true) (a.put oi.dst v) w→zAy P md ops Q R (fuel+1) listed a w:=by
 intro fuel
 induction fuel with
 | zero=>
  intro listed a w _ hr hy H
  refine⟨fun h=>(by rw[h]at hr;cases hr),fun j hj=> ?_⟩;by_cases hji:j=i
  ·subst hji;exact hy.wpOp hre hi ⟨hre _,H⟩
  ·have:=ready_mono hj hji
   rw[H.1]at this;cases this
 | succ fuel ih=>
  intro listed a w hfree hr hy H
  refine⟨fun h=>(by rw[h]at hr;cases hr),fun j hj=> ?_⟩;by_cases hji:j=i
  ·subst hji;exact hy.wpOp hre hi ⟨hre _,H⟩
  ·have h1:=H.2 j (ready_mono hj hji)
   obtain⟨hjun,oj,hoj,hall⟩:=mem_ready.1 hj
   have hnot:∀e∈oj.after,Region.binds md e=true→e.on≠i:=fun e he hb heq=>by
    have h1:=hall e he hb;have h0:=(mem_ready.1 hr).1;rw[heq]at h1;rcases Nat.lt_or_ge i listed.size with h'|h'
    ·simp[h']at h0 h1;rw[h0]at h1;cases h1
    ·simp[Array.getElem?_eq_none h']at h1
   have h2:=zKn hoj (hfree j oj hoj hji hjun hnot) (fun cs b=>hsel i oi cs b hi) (fun cs b=>hsel j oj cs b hoj) hQ hy h1
   have hfree':∀k ok,ops[k]? =some ok→k≠i→(listed.setIfInBounds j true).getD k true=false→
     (∀e∈ok.after,Region.binds md e=true→e.on≠i)→oi.apart ops ok=true:=fun k ok hk hki hun hno=>by
    refine hfree k ok hk hki ?_ hno;by_cases hjk:j=k
    ·subst hjk;exact hjun
    ·rw[getD_set_ne true hjk]at hun;exact hun
   refine wpOp_mono (fun a' w'' h3=>⟨h3.2.1,ih (listed.setIfInBounds j true) a' w'' hfree' (ready_mono hr (Ne.symm hji)) (h3.1.up ht h3.2.1) ?_⟩) h2;rw[Array.setIfInBounds_comm _ _ hji];exact h3.2.2
end
section
variable {P:Program} {l:List Oper} {Q:Exit→Act→World→Prop} {fuel:Nat} {listed:Array Bool} {a:Act} {w:World} {R:World→World→Prop}
theorem zTe(hp:Pre R)(i:Nat) {oi:Oper} (hi:zBp l i=some oi)
  (hs:Region.noSelect l.toArray=true)(hf:Region.free .any l.toArray listed i=true)(hr:(Region.ready .any l.toArray listed).contains i=true)
  (hQ:∀v c a w,Q (.panic c) (a.put oi.dst v) w→Q (.panic c) a w)(hg:Region.wanted oi (yielded l.toArray a.tmps)=true)
  (h:∃v,(∀w',R w w'→(execOp a.eval oi).run P w'= .ok (.value v) w')∧zAy P .any l.toArray Q R fuel (listed.setIfInBounds i true) (a.put oi.dst v) w):zAy P .any l.toArray Q R (fuel+1) listed a w:=by
 obtain⟨v,h1,h2⟩:=h;have hi':l.toArray[i]? =some oi:=by rw[←hi,zA6];simp
 exact zKo hp.1 hp.2 hi' (Region.noSelect_spec hs) (hQ v) fuel listed a w (Region.free_spec hi' hf) (by simpa using hr) ⟨hg,h1⟩ h2
theorem gX(hp:Pre R)(i:Nat) {oi:Oper} {v:Value} {p:Prop} (h:p)(hi:zBp l i=some oi:=by exact rfl)(hg:Region.wanted oi (yielded l.toArray a.tmps)=true:=by rfl)(h1:∀w',R w w'→(execOp a.eval oi).run P w'= .ok (.value v) w':=by intro v h;go_simp;rfl)(hn:zAy P .any l.toArray Q R fuel (listed.setIfInBounds i true) (a.put oi.dst v) w=p:=by conv=>lhs;simp only[Act.put,sA,sB,sC])(hs:Region.noSelect l.toArray=true:=by kernel_rfl)(hf:Region.free .any l.toArray listed i=true:=by kernel_rfl)(hr:(Region.ready .any l.toArray listed).contains i=true:=by kernel_rfl)(hQ:∀v c a w,Q (.panic c) (a.put oi.dst v) w→Q (.panic c) a w:=by intro _ _ _ _ h;first|exact h|cases h.1):zAy P .any l.toArray Q R (fuel+1) listed a w:=zTe hp i hi hs hf hr hQ hg ⟨v,h1,Eq.mpr hn h⟩
theorem zKp(i:Nat) {oi:Oper} (hi:zBp l i=some oi)(hr:Region.ready .any l.toArray listed=[i])(hg:Region.wanted oi (yielded l.toArray a.tmps)=true)
  (h1:oi.wp P a w (fun a' w''=>R w w''∧zAy P .any l.toArray Q R fuel (listed.setIfInBounds i true) a' w'') Q):
  zAy P .any l.toArray Q R (fuel+1) listed a w:=by
 have hi':l.toArray[i]? =some oi:=by rw[←hi,zA6];simp
 refine⟨fun h0=>(by rw[hr]at h0;cases h0),fun k hk=> ?_⟩;rw[hr]at hk;unfold wpOp;obtain rfl:k=i:=by simpa using hk
 rw[hi'];simp only[hg,if_true];exact .inl h1
end
def Rj (R1 R2:World→World→Prop) (D:List Nat) (j:Nat):World→World→Prop:=if D.contains j=true then R2 else R1
theorem zDx {R1 R2:World→World→Prop} {D:List Nat} {j:Nat} (h:D.contains j=true) {w w':World} (k:R2 w w'):Rj R1 R2 D j w w':=by unfold Rj;rw[if_pos h];exact k
theorem zA3 {R1 R2:World→World→Prop} {D:List Nat} {j:Nat} (h:D.contains j=false) {w w':World} (k:R1 w w'):Rj R1 R2 D j w w':=by unfold Rj;rw[if_neg (by rw[h];simp)];exact k
section
variable {P:Program} {ops:Array Oper} {Q:Exit→Act→World→Prop} {md:Region.Mode} {R1 R2 S:World→World→Prop} {D:List Nat}
def zA8 (P:Program) (md:Region.Mode) (ops:Array Oper) (Q:Exit→Act→World→Prop) (R1 R2:World→World→Prop) (D:List Nat):Nat→Array Bool→Act→World→Prop
 |0,listed,a,w=>Region.ready md ops listed=[]∧Q .normal a w
 |fuel+1,listed,a,w=>
  (Region.ready md ops listed=[]→Q .normal a w)∧
  ∀i∈Region.ready md ops listed,wpOp P ops Q i (fun a' w''=>Rj R1 R2 D i w w''∧zA8 P md ops Q R1 R2 D fuel (listed.setIfInBounds i true) a' w'') a w
theorem zHx:∀(fuel:Nat) (listed:Array Bool) (a:Act) (w:World),zA8 P md ops Q R1 R2 D fuel listed a w→wpAny P md ops Q fuel listed a w
 |0,_,_,_,h=>h
 |fuel+1,_,_,_,h=>⟨h.1,fun i hi=>wpOp_mono (fun a' w' h'=>zHx fuel _ a' w' h'.2) (h.2 i hi)⟩
theorem zFh(hre:∀a,S a a)(ht:∀a b c,S a b→S b c→S a c) {i:Nat} {oi:Oper} {v:Value} (hi:ops[i]? =some oi)(hself:∀w,Rj R1 R2 D i w w)(hsel:∀(j:Nat) (o:Oper) cs b,ops[j]? =some o→o.op≠ .select cs b)
  (hQ:∀c a w,Q (.panic c) (a.put oi.dst v) w→Q (.panic c) a w)(Inv:Array Bool→Prop)
  (hInv:∀listed,Inv listed→listed.getD i true=false→∀j∈Region.ready md ops listed,j≠i→(∀w w',Rj R1 R2 D j w w'→S w w')∧Inv (listed.setIfInBounds j true)):
  ∀(fuel:Nat) (listed:Array Bool) (a:Act) (w:World),Inv listed→
   (∀j oj,ops[j]? =some oj→j≠i→listed.getD j true=false→(∀e∈oj.after,Region.binds md e=true→e.on≠i)→oi.apart ops oj=true)→
   i∈Region.ready md ops listed→GivesG P ops S oi v a w→
   zA8 P md ops Q R1 R2 D fuel (listed.setIfInBounds i true) (a.put oi.dst v) w→zA8 P md ops Q R1 R2 D (fuel+1) listed a w:=by
 intro fuel
 induction fuel with
 | zero=>
  intro listed a w _ _ hr hy H
  refine⟨fun h=>(by rw[h]at hr;cases hr),fun j hj=> ?_⟩;by_cases hji:j=i
  ·subst hji;exact hy.wpOp hre hi ⟨hself _,H⟩
  ·have:=ready_mono hj hji
   rw[H.1]at this;cases this
 | succ fuel ih=>
  intro listed a w hinv hfree hr hy H
  refine⟨fun h=>(by rw[h]at hr;cases hr),fun j hj=> ?_⟩;by_cases hji:j=i
  ·subst hji;exact hy.wpOp hre hi ⟨hself _,H⟩
  ·have h1:=H.2 j (ready_mono hj hji)
   obtain⟨hjun,oj,hoj,hall⟩:=mem_ready.1 hj
   have hnot:∀e∈oj.after,Region.binds md e=true→e.on≠i:=fun e he hb heq=>by
    have h1:=hall e he hb;have h0:=(mem_ready.1 hr).1;rw[heq]at h1;rcases Nat.lt_or_ge i listed.size with h'|h'
    ·simp[h']at h0 h1;rw[h0]at h1;cases h1
    ·simp[Array.getElem?_eq_none h']at h1
   have h2:=zKn hoj (hfree j oj hoj hji hjun hnot) (fun cs b=>hsel i oi cs b hi) (fun cs b=>hsel j oj cs b hoj) hQ hy h1
   have hfree':∀k ok,ops[k]? =some ok→k≠i→(listed.setIfInBounds j true).getD k true=false→
     (∀e∈ok.after,Region.binds md e=true→e.on≠i)→oi.apart ops ok=true:=fun k ok hk hki hun hno=>by
    refine hfree k ok hk hki ?_ hno;by_cases hjk:j=k
    ·subst hjk;exact hjun
    ·rw[getD_set_ne true hjk]at hun;exact hun
   obtain⟨hs,hinv'⟩:=hInv listed hinv (mem_ready.1 hr).1 j hj hji;refine wpOp_mono (fun a' w'' h3=>⟨h3.2.1,ih (listed.setIfInBounds j true) a' w'' hinv' hfree' (ready_mono hr (Ne.symm hji)) (h3.1.up ht (hs _ _ h3.2.1)) ?_⟩) h2;rw[Array.setIfInBounds_comm _ _ hji];exact h3.2.2
def zPb (md:Region.Mode) (ops:Array Oper) (D:List Nat) (i:Nat):Bool:=D.all fun d=>match ops[d]? with
 |some o=>o.after.any fun e=>Region.binds md e && (e.on==i||D.contains e.on)
 |none=>false
theorem zMm {i:Nat} (h:zPb md ops D i=true) {listed:Array Bool} (hi:listed.getD i true=false)(hD:∀d∈D,listed.getD d true=false) {j:Nat} (hj:j∈Region.ready md ops listed):j∉D:=fun hjD=>by
 obtain⟨_,o,ho,hall⟩:=mem_ready.1 hj;unfold zPb at h;rw[List.all_eq_true]at h;have h1:=h j hjD;rw[ho]at h1;simp only[Array.any_eq_true]at h1;obtain⟨k,hk,he⟩:=h1;simp only[Bool.and_eq_true,Bool.or_eq_true,beq_iff_eq]at he;have hl:=hall o.after[k] (Array.getElem_mem hk) he.1
 have no:∀x,listed.getD x true=false→listed.getD x false=true→False:=fun x h0 h1=>by
  rcases Nat.lt_or_ge x listed.size with h'|h'
  ·simp[h']at h0 h1;rw[h0]at h1;cases h1
  ·simp[Array.getElem?_eq_none h']at h1
 rcases he.2 with e|e
 ·rw[e]at hl
  exact no i hi hl
 ·exact no _ (hD _ (by simpa using e)) hl
end
section
variable {P:Program} {l:List Oper} {Q:Exit→Act→World→Prop} {fuel:Nat} {listed:Array Bool} {a:Act} {w:World} {R1 R2 S:World→World→Prop} {D:List Nat}
theorem anyU_val(hp:Pre R1)(i:Nat)(B:List Nat) {oi:Oper} (hi:zBp l i=some oi)(hiD:D.contains i=false)(hsub:D.all (fun d=>B.contains d)=true)(hbl:zPb .any l.toArray B i=true)(hun:B.all (fun d=> !(listed.getD d true))=true)
  (hs:Region.noSelect l.toArray=true)(hf:Region.free .any l.toArray listed i=true)(hr:(Region.ready .any l.toArray listed).contains i=true)
  (hQ:∀v c a w,Q (.panic c) (a.put oi.dst v) w→Q (.panic c) a w)(hg:Region.wanted oi (yielded l.toArray a.tmps)=true)
  (h:∃v,(∀w',R1 w w'→(execOp a.eval oi).run P w'= .ok (.value v) w')∧zA8 P .any l.toArray Q R1 R2 D fuel (listed.setIfInBounds i true) (a.put oi.dst v) w):zA8 P .any l.toArray Q R1 R2 D (fuel+1) listed a w:=by
 obtain⟨v,h1,h2⟩:=h;have hi':l.toArray[i]? =some oi:=by rw[←hi,zA6];simp
 have hunp:∀d∈B,listed.getD d true=false:=fun d hd=>by
  have:=List.all_eq_true.1 hun d hd;simpa using this
 refine zFh (S:=R1) hp.1 hp.2 hi' (fun w=>zA3 hiD (hp.1 w)) (Region.noSelect_spec hs) (hQ v) (fun listed=>∀d∈B,listed.getD d true=false) ?_ fuel listed a w hunp (Region.free_spec hi' hf) (by simpa using hr) ⟨hg,h1⟩ h2;intro listed' hinv hiu j hj hji
 have hjB:=zMm hbl hiu hinv hj;have hjD:j∉D:=fun hd=>hjB (by simpa using List.all_eq_true.1 hsub j hd);have hjc:D.contains j=false:=by cases hc:D.contains j with|false=>rfl|true=>exact absurd (by simpa using hc) hjD
 refine⟨fun w w' hR=>by unfold Rj at hR;rw[if_neg (by rw[hjc];simp)]at hR;exact hR,fun d hd=> ?_⟩;by_cases hdj:j=d
 ·subst hdj;exact absurd hd hjB
 ·rw[getD_set_ne true hdj];exact hinv d hd
theorem zB9(h1r:∀w,R1 w w)(h2r:∀w,R2 w w)(i:Nat) {oi:Oper} (hi:zBp l i=some oi)
  (hs:Region.noSelect l.toArray=true)(hf:Region.free .any l.toArray listed i=true)(hr:(Region.ready .any l.toArray listed).contains i=true)
  (hQ:∀v c a w,Q (.panic c) (a.put oi.dst v) w→Q (.panic c) a w)(hg:Region.wanted oi (yielded l.toArray a.tmps)=true)
  (h:∃v,(∀w',(execOp a.eval oi).run P w'= .ok (.value v) w')∧zA8 P .any l.toArray Q R1 R2 D fuel (listed.setIfInBounds i true) (a.put oi.dst v) w):zA8 P .any l.toArray Q R1 R2 D (fuel+1) listed a w:=by
 obtain⟨v,h1,h2⟩:=h;have hi':l.toArray[i]? =some oi:=by rw[←hi,zA6];simp
 exact zFh (S:=fun _ _=>True) (fun _=>trivial) (fun _ _ _ _ _=>trivial) hi' (fun w=>by unfold Rj;split;(· exact h2r w);(· exact h1r w)) (Region.noSelect_spec hs) (hQ v) (fun _=>True) (fun _ _ _ _ _ _=>⟨fun _ _ _=>trivial,trivial⟩) fuel listed a w trivial (Region.free_spec hi' hf) (by simpa using hr) ⟨hg,fun w' _=>h1 w'⟩ h2
theorem zA5 {id:Nat} (n:Nat)(hn:l.length=n)(hm:P.follows .mixedOrders=true)
  (h:zA8 P .any l.toArray Q R1 R2 D n (Array.replicate n false) a w.drew):(Code.region id l.toArray true).wp P Q a w:=by
 subst hn;refine wp_region_any hm (zHx (R1:=R1) (R2:=R2) (D:=D) _ _ _ _ ?_);simpa using h
theorem zTf(hr:Region.ready .any l.toArray listed=[])(h:Q .normal a w):zA8 P .any l.toArray Q R1 R2 D fuel listed a w:=by
 cases fuel with
 |zero=>exact⟨hr,h⟩
 |succ n=>exact⟨fun _=>h,by rw[hr];simp⟩
theorem anyU_one(i:Nat) {oi:Oper} (hi:zBp l i=some oi)(hr:Region.ready .any l.toArray listed=[i])(hg:Region.wanted oi (yielded l.toArray a.tmps)=true)
  (h1:oi.wp P a w (fun a' w''=>Rj R1 R2 D i w w''∧zA8 P .any l.toArray Q R1 R2 D fuel (listed.setIfInBounds i true) a' w'') Q):
  zA8 P .any l.toArray Q R1 R2 D (fuel+1) listed a w:=by
 have hi':l.toArray[i]? =some oi:=by rw[←hi,zA6];simp
 refine⟨fun h0=>(by rw[hr]at h0;cases h0),fun k hk=> ?_⟩;rw[hr]at hk;unfold wpOp;obtain rfl:k=i:=by simpa using hk
 rw[hi'];simp only[hg,if_true];exact .inl h1
theorem uX(hp:Pre R1)(i:Nat)(B:List Nat) {oi:Oper} {v:Value} {p:Prop} (h:p)(hi:zBp l i=some oi:=by exact rfl)(hg:Region.wanted oi (yielded l.toArray a.tmps)=true:=by rfl)(hiD:D.contains i=false:=by rfl)(hsub:D.all (fun d=>B.contains d)=true:=by rfl)(hbl:zPb .any l.toArray B i=true:=by kernel_rfl)(hun:B.all (fun d=> !(listed.getD d true))=true:=by kernel_rfl)(h1:∀w',R1 w w'→(execOp a.eval oi).run P w'= .ok (.value v) w':=by intro v h;go_simp;rfl)(hn:zA8 P .any l.toArray Q R1 R2 D fuel (listed.setIfInBounds i true) (a.put oi.dst v) w=p:=by conv=>lhs;simp only[Act.put,sA,sB,sC])(hs:Region.noSelect l.toArray=true:=by kernel_rfl)(hf:Region.free .any l.toArray listed i=true:=by kernel_rfl)(hr:(Region.ready .any l.toArray listed).contains i=true:=by kernel_rfl)(hQ:∀v c a w,Q (.panic c) (a.put oi.dst v) w→Q (.panic c) a w:=by intro _ _ _ _ h;first|exact h|cases h.1):zA8 P .any l.toArray Q R1 R2 D (fuel+1) listed a w:=anyU_val hp i B hi hiD hsub hbl hun hs hf hr hQ hg ⟨v,h1,Eq.mpr hn h⟩
theorem pX(h1r:∀w,R1 w w)(h2r:∀w,R2 w w)(i:Nat) {oi:Oper} {v:Value} {p:Prop} (h:p)(hi:zBp l i=some oi:=by exact rfl)(hg:Region.wanted oi (yielded l.toArray a.tmps)=true:=by rfl)(h1:∀w',(execOp a.eval oi).run P w'= .ok (.value v) w':=by intro v;go_simp;rfl)(hn:zA8 P .any l.toArray Q R1 R2 D fuel (listed.setIfInBounds i true) (a.put oi.dst v) w=p:=by conv=>lhs;simp only[Act.put,sA,sB,sC])(hs:Region.noSelect l.toArray=true:=by kernel_rfl)(hf:Region.free .any l.toArray listed i=true:=by kernel_rfl)(hr:(Region.ready .any l.toArray listed).contains i=true:=by kernel_rfl)(hQ:∀v c a w,Q (.panic c) (a.put oi.dst v) w→Q (.panic c) a w:=by intro _ _ _ _ h;first|exact h|cases h.1):zA8 P .any l.toArray Q R1 R2 D (fuel+1) listed a w:=zB9 h1r h2r i hi hs hf hr hQ hg ⟨v,h1,Eq.mpr hn h⟩
theorem uO(i:Nat) {oi:Oper} (h1:oi.wp P a w (fun a' w''=>Rj R1 R2 D i w w''∧zA8 P .any l.toArray Q R1 R2 D fuel (listed.setIfInBounds i true) a' w'') Q)(hi:zBp l i=some oi:=by exact rfl)(hr:Region.ready .any l.toArray listed=[i]:=by kernel_rfl)(hg:Region.wanted oi (yielded l.toArray a.tmps)=true:=by rfl):zA8 P .any l.toArray Q R1 R2 D (fuel+1) listed a w:=anyU_one i hi hr hg h1
theorem uD(h:Q .normal a w)(hr:Region.ready .any l.toArray listed=[]:=by kernel_rfl):zA8 P .any l.toArray Q R1 R2 D fuel listed a w:=zTf hr h
end
def zEy (sp dp sq ak fl wn ur:Int) (ob zd:List Int):List Int:=[sp,dp].flatMap b2++[sq,ak].flatMap b4++[(20+(ob.length:Int))/4*16,fl]++[wn,0,ur].flatMap b2++ob++zd
def tcp (sp dp sq ak fl wn ur:Int) (ob:List Int) (src dst:Int) (zd:List Int):List Int:=Mt.put2 (zEy sp dp sq ak fl wn ur ob zd) 16 (Mt.cks (psd src dst 6 (20+ob.length+zd.length:Nat)++zEy sp dp sq ak fl wn ur ob zd))
theorem zD9(sp dp sq ak fl wn ur:Int)(ob zd:List Int):(zEy sp dp sq ak fl wn ur ob zd).length=20+ob.length+zd.length:=by simp[zEy,b2,b4];omega
theorem zHy(sp dp sq ak fl wn ur:Int)(ob:List Int)(src dst:Int)(zd:List Int):(tcp sp dp sq ak fl wn ur ob src dst zd).length=20+ob.length+zd.length:=by simp[tcp,Mt.put2_length,zD9]
theorem zTg(sp dp sq ak fl wn ur:Int)(ob zd:List Int)(h1:0≤sp∧sp≤65535)(h2:0≤dp∧dp≤65535)(h3:0≤sq∧sq≤4294967295)(h4:0≤ak∧ak≤4294967295)(h5:0≤fl∧fl≤255)(h6:0≤wn∧wn≤65535)(h7:0≤ur∧ur≤65535)(ho:ob.length≤40)(hB:Mt.By ob)(hB2:Mt.By zd):Mt.By (zEy sp dp sq ak fl wn ur ob zd):=by
 unfold zEy;refine(Mt.By.append ?_ hB).append hB2;simp only[List.flatMap_cons,List.flatMap_nil,b2,b4,List.cons_append,List.nil_append,List.append_nil];exact .mk (by omega) (.mk (by omega) (.mk (by omega) (.mk (by omega) (.mk (by omega) (.mk (by omega) (.mk (by omega) (.mk (by omega) (.mk (by omega) (.mk (by omega) (.mk (by omega) (.mk (by omega) (.mk (by omega) (.mk (by omega) (.mk (by omega) (.mk (by omega) (.mk (by omega) (.mk (by omega) (.mk (by omega) (.mk (by omega) .nil)))))))))))))))))))
theorem By_tcp(sp dp sq ak fl wn ur:Int)(ob:List Int)(src dst:Int)(zd:List Int)(h:Mt.By (zEy sp dp sq ak fl wn ur ob zd)):Mt.By (tcp sp dp sq ak fl wn ur ob src dst zd):=h.put2 16 (Mt.cks_bd _)
def bte (os:List Opt) (lo lm:Nat):Int:=if zSd os then flt lo (20+(pad (obs os)).length+lm)else 4
theorem zFi(tos id ttl proto src dst sp dp sq ak fl wn ur:Int)(keep:Bool)(so sd sO sm:Value)(zo zm:List Int)(os:List Opt)(w:World)(hBo:Mt.By zo)(hIo:Rd w.heap.size w so zo)(hBm:Mt.By zm)(hIm:Rd w.heap.size w sm zm)
  (hBO:ByO os)(hIO:RdO w.heap.size w sO os)(hlO:∀o∈os,o.2.length≤140737488355000)
  (h1:zo.length≤140737488355328)(h2:zm.length≤140737488355000)(ht:0≤tos∧tos≤255)(hid:0≤id∧id≤65535)(htt:0≤ttl∧ttl≤255)(hsr:0≤src∧src≤4294967295)(hds:0≤dst∧dst≤4294967295)
  (hsp:0≤sp∧sp≤65535)(hdp:0≤dp∧dp≤65535)(hsq:0≤sq∧sq≤4294967295)(hak:0≤ak∧ak≤4294967295)(hfl:0≤fl∧fl≤255)(hwn:0≤wn∧wn≤65535)(hur:0≤ur∧ur≤65535):
  Calls Tryz.prog 23 #[.agg #[.int .u8 tos,.int .u16 id,.bool keep,.int .u8 ttl,.int .u8 proto,.int .u32 src,.int .u32 dst,so,sd],.agg #[.int .u16 sp,.int .u16 dp,.int .u32 sq,.int .u32 ak,.int .u8 fl,.int .u16 wn,.int .u16 ur,sO,sm]] w fun e w'=>Below w.heap.size w w'∧((bte os zo.length zm.length≠0∧e= .returned (.tuple #[.agg zcc.toArray,.int .i64 (bte os zo.length zm.length)]))∨
   (bte os zo.length zm.length=0∧∃ao co ad cd,e= .returned (.tuple #[.agg #[.int .u8 tos,.int .u16 id,.bool keep,.int .u8 ttl,.int .u8 6,.int .u32 src,.int .u32 dst,.slice ao zo.length co,.slice ad (20+(pad (obs os)).length+zm.length) cd],.int .i64 0])∧Ow w.heap.size w' (.slice ao zo.length co) zo∧Ow w.heap.size w' (.slice ad (20+(pad (obs os)).length+zm.length) cd) (tcp sp dp sq ak fl wn ur (pad (obs os)) src dst zm))):=by
 obtain⟨ao,co,rfl,_,_⟩:=hIo.slice;obtain⟨am,cm,rfl,_,_⟩:=hIm.slice;obtain⟨aO,cO,rfl,_,_⟩:=hIO.slice;have hb0:Below w.heap.size w (((w.alloc (.cells #[.int .u8 tos,.int .u16 id,.bool keep,.int .u8 ttl,.int .u8 proto,.int .u32 src,.int .u32 dst,.slice ao zo.length co,sd] 40)).alloc (.cells #[.int .u16 sp,.int .u16 dp,.int .u32 sq,.int .u32 ak,.int .u8 fl,.int .u16 wn,.int .u16 ur,.slice aO os.length cO,.slice am zm.length cm] 32)).alloc (.cells zcc.toArray 40)):=((bA _ _).alloc (by simp) _).alloc (by simp<;>omega) _;have p0:(((w.alloc (.cells #[.int .u8 tos,.int .u16 id,.bool keep,.int .u8 ttl,.int .u8 proto,.int .u32 src,.int .u32 dst,.slice ao zo.length co,sd] 40)).alloc (.cells #[.int .u16 sp,.int .u16 dp,.int .u32 sq,.int .u32 ak,.int .u8 fl,.int .u16 wn,.int .u16 ur,.slice aO os.length cO,.slice am zm.length cm] 32)).alloc (.cells zcc.toArray 40)).heap[w.heap.size]? =some (.cells #[.int .u8 tos,.int .u16 id,.bool keep,.int .u8 ttl,.int .u8 proto,.int .u32 src,.int .u32 dst,.slice ao zo.length co,sd] 40):=(Below.heap_alloc _ _ _ (by simp<;>omega)).trans ((Below.heap_alloc _ _ _ (by simp)).trans (heap_alloc_new w _))
 have s0:(((w.alloc (.cells #[.int .u8 tos,.int .u16 id,.bool keep,.int .u8 ttl,.int .u8 proto,.int .u32 src,.int .u32 dst,.slice ao zo.length co,sd] 40)).alloc (.cells #[.int .u16 sp,.int .u16 dp,.int .u32 sq,.int .u32 ak,.int .u8 fl,.int .u16 wn,.int .u16 ur,.slice aO os.length cO,.slice am zm.length cm] 32)).alloc (.cells zcc.toArray 40)).heap[w.heap.size+1]? =some (.cells #[.int .u16 sp,.int .u16 dp,.int .u32 sq,.int .u32 ak,.int .u8 fl,.int .u16 wn,.int .u16 ur,.slice aO os.length cO,.slice am zm.length cm] 32):=by
  have:=heap_alloc_new (w.alloc (.cells #[.int .u8 tos,.int .u16 id,.bool keep,.int .u8 ttl,.int .u8 proto,.int .u32 src,.int .u32 dst,.slice ao zo.length co,sd] 40)) (.cells #[.int .u16 sp,.int .u16 dp,.int .u32 sq,.int .u32 ak,.int .u8 fl,.int .u16 wn,.int .u16 ur,.slice aO os.length cO,.slice am zm.length cm] 32);rw[World.size_alloc]at this;exact(Below.heap_alloc _ _ _ (by simp)).trans this
 have r0:(((w.alloc (.cells #[.int .u8 tos,.int .u16 id,.bool keep,.int .u8 ttl,.int .u8 proto,.int .u32 src,.int .u32 dst,.slice ao zo.length co,sd] 40)).alloc (.cells #[.int .u16 sp,.int .u16 dp,.int .u32 sq,.int .u32 ak,.int .u8 fl,.int .u16 wn,.int .u16 ur,.slice aO os.length cO,.slice am zm.length cm] 32)).alloc (.cells zcc.toArray 40)).heap[w.heap.size+1+1]? =some (.cells zcc.toArray 40 (0,0)):=by
  have:=heap_alloc_new ((w.alloc (.cells #[.int .u8 tos,.int .u16 id,.bool keep,.int .u8 ttl,.int .u8 proto,.int .u32 src,.int .u32 dst,.slice ao zo.length co,sd] 40)).alloc (.cells #[.int .u16 sp,.int .u16 dp,.int .u32 sq,.int .u32 ak,.int .u8 fl,.int .u16 wn,.int .u16 ur,.slice aO os.length cO,.slice am zm.length cm] 32)) (.cells zcc.toArray 40);simpa only[World.size_alloc]using this
 have hs0:(((w.alloc (.cells #[.int .u8 tos,.int .u16 id,.bool keep,.int .u8 ttl,.int .u8 proto,.int .u32 src,.int .u32 dst,.slice ao zo.length co,sd] 40)).alloc (.cells #[.int .u16 sp,.int .u16 dp,.int .u32 sq,.int .u32 ak,.int .u8 fl,.int .u16 wn,.int .u16 ur,.slice aO os.length cO,.slice am zm.length cm] 32)).alloc (.cells zcc.toArray 40)).heap.size=w.heap.size+1+1+1:=by simp
 have S0:=zAd s0;have P0:=zAd p0;have R0:=zAd r0;have HS0:=zAd hs0;clear p0 s0 r0 hs0;go_enter Tryz.func23,Tryz.ntmps23;go_wp2_with fail;generalize ((w.alloc (.cells #[.int .u8 tos,.int .u16 id,.bool keep,.int .u8 ttl,.int .u8 proto,.int .u32 src,.int .u32 dst,.slice ao zo.length co,sd] 40)).alloc (.cells #[.int .u16 sp,.int .u16 dp,.int .u32 sq,.int .u32 ak,.int .u8 fl,.int .u16 wn,.int .u16 ur,.slice aO os.length cO,.slice am zm.length cm] 32)).alloc (.cells zcc.toArray 40)=W0 at*;refine(zGg _ os W0 hBO ((hIO.below hb0).mono hb0.size) hlO).mono ?_;rintro e w1 ⟨hb1,⟨hno,rfl⟩|⟨hyes,aB,cB,rfl,hOB⟩⟩
 ·have r1:=zAb hb1 R0.out
  have hw1:=hb0.trans (hb1.mono hb0.size);have HF:Hid (bte os zo.length zm.length=4):=by show _=_;unfold bte;rw[if_neg hno]
  have K1:=zAa r1;have F1:=zAc r1;clear hno;go_wp2_with fail;generalize hV:World.setCell _ ⟨w.heap.size+1+1,8,none⟩ _=V8;have hV9:V8=zAi w1 (w.heap.size+1+1) 0 zcc:=hV.symm;have hb8:But (fun b=>b=w.heap.size+1+1) w1 V8:=by rw[hV9];exact zAf (E:=fun b=>b=w.heap.size+1+1) (n:=w.heap.size+1+1) rfl _ _ _ _ (But.refl _ _)
  have p8:=zAe zcc r1 rfl;rw[←hV9]at p8;clear hV hV9;have P8:=zAa p8;have hw8:Below w.heap.size w V8:=(hw1).trans (hb8.below (hw1).size (fun k h e=>by omega));exact bodyPost_ret (v:= .tuple #[.agg zcc.toArray,.int .i64 4]) (by simp[results,Tryz.results23,go_sem,P8]) rfl (⟨hw8,.inl ⟨by rw[HF.out];decide,by rw[HF.out]⟩⟩)
 ·have r1:=zAb hb1 R0.out
  have p1:=zAb hb1 P0.out;have s1:=zAb hb1 S0.out;have hw1:=hb0.trans (hb1.mono hb0.size);have hsz1:w.heap.size+1+1+1≤w1.heap.size:=by have:=hb1.size;have:=HS0.out;omega
  have hBt:Hid (bte os zo.length zm.length=flt zo.length (20+(pad (obs os)).length+zm.length)):=by show _=_;unfold bte;rw[if_pos hyes]
  have h40:(pad (obs os)).length≤40:=pad_le _ hyes.2;have hm4:(pad (obs os)).length % 4=0:=zMk _;have hBp:=By_pad _ (By_obs os hBO hyes.2);have HYES:=zAd hyes;have HBP:=zAd hBp;clear hyes hBp P0 R0 S0 HS0 hb1 hb0;have K1:=zAa s1;go_upto_region 6 with fail;have hHu:HSt [.int .u8 6] 147 w1.heap.size (fun _=>False) [] (w1.alloc (.cells #[.slice none 0 0,.int .u8 6] 147)):=⟨.slice none 0 0,heap_alloc_new _ _,World.ownsRow_nil _ _ _ _,fun _ h=>by cases h⟩;have hEu:But (fun b=>w1.heap.size≤b) w1 (w1.alloc (.cells #[.slice none 0 0,.int .u8 6] 147)):=But.of ((Below.refl _ w1).alloc (Nat.le_refl _) _);have hsu:w1.heap.size+1≤(w1.alloc (.cells #[.slice none 0 0,.int .u8 6] 147)).heap.size:=by simp
  generalize w1.alloc (.cells #[.slice none 0 0,.int .u8 6] 147)=wxu at*;clear K1;have Ku:=zAa ((hEu.block (w.heap.size+1) (by omega) (by omega)).trans s1);have hA:=hHu.alloc (.cells ([sp,dp].map (Value.int .u16)).toArray 22);have hkA:=heap_alloc_new wxu (.cells ([sp,dp].map (Value.int .u16)).toArray 22);go_wp2_with fail;refine(zE6 [.int .u8 6] 147 22 w1.heap.size wxu.heap.size 2 (fun b=>False∨b=wxu.heap.size) _ [sp,dp] _ hA (fun b hb=>by rcases hb with h|h;exact h.elim;subst h;exact⟨by simp,by have:=hsu;omega⟩) (.inr rfl) hkA (by intro n hn;simp at hn;omega) (by simp[b2,b4]) (by simp)).mono ?_;rintro e wxa ⟨rfl,hHa',hX⟩;have hHa:HSt [.int .u8 6] 147 w1.heap.size (fun _=>False) _ wxa:=hHa'.weaken (fun _ h=>h.elim);have hEa:But (fun b=>w1.heap.size≤b) w1 wxa:=hEu.trans ((But.of ((Below.refl _ wxu).alloc (Nat.le_refl _) _)).trans (hX.wk fun b h=>h.1));have hsa:w1.heap.size+1≤wxa.heap.size:=Nat.le_trans hsu (((But.of ((Below.refl _ wxu).alloc (Nat.le_refl _) _)).trans (hX.wk (E':=fun b=>w1.heap.size≤b) fun b h=>h.1)).size);have Ka:=zAa ((hEa.block (w.heap.size+1) (by omega) (by omega)).trans s1);clear hA hkA hX hHa' hHu hEu Ku;have hA:=hHa.alloc (.cells ([sq,ak].map (Value.int .u32)).toArray 29);have hkA:=heap_alloc_new wxa (.cells ([sq,ak].map (Value.int .u32)).toArray 29);go_wp2_with fail
  refine(zQ0 [.int .u8 6] 147 29 w1.heap.size wxa.heap.size 2 (fun b=>False∨b=wxa.heap.size) _ [sq,ak] _ hA (fun b hb=>by rcases hb with h|h;exact h.elim;subst h;exact⟨by simp,by have:=hsa;omega⟩) (.inr rfl) hkA (by intro n hn;simp at hn;omega) (by simp[b2,b4]) (by simp)).mono ?_;rintro e wxb ⟨rfl,hHb',hX⟩;have hHb:HSt [.int .u8 6] 147 w1.heap.size (fun _=>False) _ wxb:=hHb'.weaken (fun _ h=>h.elim);have hEb:But (fun b=>w1.heap.size≤b) w1 wxb:=hEa.trans ((But.of ((Below.refl _ wxa).alloc (Nat.le_refl _) _)).trans (hX.wk fun b h=>h.1));have hsb:w1.heap.size+1≤wxb.heap.size:=Nat.le_trans hsa (((But.of ((Below.refl _ wxa).alloc (Nat.le_refl _) _)).trans (hX.wk (E':=fun b=>w1.heap.size≤b) fun b h=>h.1)).size);have Kb:=zAa ((hEb.block (w.heap.size+1) (by omega) (by omega)).trans s1);clear hA hkA hX hHb' hHa hEa Ka;go_wp2_with fail;have hRn:=Rd.new [(20+((pad (obs os)).length:Int))/4*16,fl] 5 wxb (by simp) (by simp);refine(zDe [.int .u8 6] 147 w1.heap.size (fun _=>False) _ _ [(20+((pad (obs os)).length:Int))/4*16,fl] _ _ (hHb.below ((Below.refl _ wxb).alloc (Nat.le_refl _) _)) (fun b hb=>hb.elim) hRn (by simp[b2,b4])).mono ?_;rintro e wxc ⟨rfl,hHc,hX⟩;have hEc:But (fun b=>w1.heap.size≤b) w1 wxc:=hEb.trans ((But.of ((Below.refl _ wxb).alloc (Nat.le_refl _) _)).trans (hX.wk fun b h=>h.1));have hsc:w1.heap.size+1≤wxc.heap.size:=Nat.le_trans hsb (((But.of ((Below.refl _ wxb).alloc (Nat.le_refl _) _)).trans (hX.wk (E':=fun b=>w1.heap.size≤b) fun b h=>h.1)).size)
  have Kc:=zAa ((hEc.block (w.heap.size+1) (by omega) (by omega)).trans s1);clear hRn hX hHb hEb Kb;have hA:=hHc.alloc (.cells ([wn,0,ur].map (Value.int .u16)).toArray 22);have hkA:=heap_alloc_new wxc (.cells ([wn,0,ur].map (Value.int .u16)).toArray 22);go_wp2_with fail;refine(zE6 [.int .u8 6] 147 22 w1.heap.size wxc.heap.size 3 (fun b=>False∨b=wxc.heap.size) _ [wn,0,ur] _ hA (fun b hb=>by rcases hb with h|h;exact h.elim;subst h;exact⟨by simp,by have:=hsc;omega⟩) (.inr rfl) hkA (by intro n hn;simp at hn;omega) (by simp[b2,b4]) (by simp)).mono ?_;rintro e wxd ⟨rfl,hHd',hX⟩;have hHd:HSt [.int .u8 6] 147 w1.heap.size (fun _=>False) _ wxd:=hHd'.weaken (fun _ h=>h.elim);have hEd:But (fun b=>w1.heap.size≤b) w1 wxd:=hEc.trans ((But.of ((Below.refl _ wxc).alloc (Nat.le_refl _) _)).trans (hX.wk fun b h=>h.1));have hsd:w1.heap.size+1≤wxd.heap.size:=Nat.le_trans hsc (((But.of ((Below.refl _ wxc).alloc (Nat.le_refl _) _)).trans (hX.wk (E':=fun b=>w1.heap.size≤b) fun b h=>h.1)).size);have Kd:=zAa ((hEd.block (w.heap.size+1) (by omega) (by omega)).trans s1);clear hA hkA hX hHd' hHc hEc Kc;go_wp2_with fail;have hRB:=hOB.rd.below (hEd.below (Nat.le_refl _) (fun k h e=>by omega));refine(zDe [.int .u8 6] 147 w1.heap.size (fun _=>False) _ _ (pad (obs os)) _ _ hHd (fun b hb=>hb.elim) hRB (by simp[b2,b4];omega)).mono ?_;rintro e wxe ⟨rfl,hHe,hX⟩;have hEe:But (fun b=>w1.heap.size≤b) w1 wxe:=hEd.trans ((hX.wk fun b h=>h.1))
  have hse:w1.heap.size+1≤wxe.heap.size:=Nat.le_trans hsd (((hX.wk (E':=fun b=>w1.heap.size≤b) fun b h=>h.1)).size);have Ke:=zAa ((hEe.block (w.heap.size+1) (by omega) (by omega)).trans s1);clear hRB hX hHd hEd Kd;go_wp2_with fail;have hwe:Below w.heap.size w wxe:=hw1.trans (hEe.below (by omega) (fun k h e=>by omega));refine(zDe [.int .u8 6] 147 w1.heap.size (fun _=>False) _ _ zm _ _ hHe (fun b hb=>hb.elim) (hIm.below hwe) (by simp[b2,b4];omega)).mono ?_;rintro e wxf ⟨rfl,hHf,hX⟩;have hEf:But (fun b=>w1.heap.size≤b) w1 wxf:=hEe.trans ((hX.wk fun b h=>h.1));have hsf:w1.heap.size+1≤wxf.heap.size:=Nat.le_trans hse (((hX.wk (E':=fun b=>w1.heap.size≤b) fun b h=>h.1)).size);have Kf:=zAa ((hEf.block (w.heap.size+1) (by omega) (by omega)).trans s1);clear hX hHe hEe Ke hwe;have HU:Hid ([]++[sp,dp].flatMap b2++[sq,ak].flatMap b4++[(20+((pad (obs os)).length:Int))/4*16,fl]++[wn,0,ur].flatMap b2++pad (obs os)++zm=(zEy sp dp sq ak fl wn ur (pad (obs os)) zm)):=by show _=_;rw[List.nil_append];rfl
  rw[HU.out]at hHf;have hw2:Below w.heap.size w wxf:=hw1.trans (hEf.below (by omega) (fun k h e=>by omega));have p2:=(hEf.block w.heap.size (by omega) (by omega)).trans p1;have r2:=(hEf.block (w.heap.size+1+1) (by omega) (by omega)).trans r1;clear Kf hEf HU p1 r1 s1 hOB;obtain⟨v2,u2,hown2,_⟩:=hHf;have hOu:=Ow.of_row hown2;obtain⟨av,cv,rfl,_,_⟩:=hOu.slice;have K2:=zAa p2;have hB0:=zTg sp dp sq ak fl wn ur (pad (obs os)) zm hsp hdp hsq hak hfl hwn hur h40 HBP.out hBm;have HTL:=zAd (zD9 sp dp sq ak fl wn ur (pad (obs os)) zm);go_wp2_with fail;refine(zMj tos id ttl proto src dst 6 keep _ _ _ zo (zEy sp dp sq ak fl wn ur (pad (obs os)) zm) wxf w1.heap.size _ u2 hBo ((hIo.below hw2).mono hw2.size) hOu.rd h1 (by rw[HTL.out];omega) ht hid htt (by omega) hsr hds).mono ?_;rw[HTL.out]at hOu⊢;clear K2 u2 hown2 p2;have HTC:Hid (tcp sp dp sq ak fl wn ur (pad (obs os)) src dst zm=Mt.put2 (zEy sp dp sq ak fl wn ur (pad (obs os)) zm) 16 (Mt.cks (psd src dst 6 (20+(pad (obs os)).length+zm.length)++(zEy sp dp sq ak fl wn ur (pad (obs os)) zm)))):=rfl;rintro e w3 ⟨hb3,⟨hf,rfl⟩|⟨hf,ao3,co3,rfl,hO3⟩⟩
  ·have hf':(flt zo.length (20+(pad (obs os)).length+zm.length) !=0)=true:=by simp[hf]
   have HF:=zAd hf;have r3:=(hb3.block (w.heap.size+1+1) (by omega)).trans r2;have hw3:=hw2.trans (hb3.mono hw2.size);clear hf r2;go_upto_region 14 with fail;generalize hV:w3.alloc _=W4;have W4l:Later w3 W4:=by rw[←hV];exact(Below.refl _ w3).alloc (Nat.le_refl _) _
   clear hV;have r4:=(W4l.block (w.heap.size+1+1) (by have:=hb3.size;omega)).trans r3;have hw4:=hw3.trans (W4l.mono hw3.size);have K4:=zAa r4;have F4:=zAc r4;clear r3 hb3;go_wp2_with fail;generalize hV:World.setCell _ ⟨w.heap.size+1+1,8,none⟩ _=V8;have hV9:V8=zAi W4 (w.heap.size+1+1) 0 zcc:=hV.symm;have hb8:But (fun b=>b=w.heap.size+1+1) W4 V8:=by rw[hV9];exact zAf (E:=fun b=>b=w.heap.size+1+1) (n:=w.heap.size+1+1) rfl _ _ _ _ (But.refl _ _)
   have p8:=zAe zcc r4 rfl;rw[←hV9]at p8;clear hV hV9;have P8:=zAa p8;have hw8:Below w.heap.size w V8:=(hw4).trans (hb8.below (hw4).size (fun k h e=>by omega));exact bodyPost_ret (v:= .tuple #[.agg zcc.toArray,.int .i64 (flt zo.length (20+(pad (obs os)).length+zm.length))]) (by simp[results,Tryz.results23,go_sem,P8]) rfl (⟨hw8,.inl ⟨by rw[hBt.out];exact HF.out,by rw[hBt.out]⟩⟩)
  ·have HF:Hid (bte os zo.length zm.length=0):=by show _=_;rw[hBt.out];exact hf
   have r3:=(hb3.block (w.heap.size+1+1) (by omega)).trans r2;have hw3:=hw2.trans (hb3.mono hw2.size);have hs3:=hb3.size;have hOu3:=hOu.later hb3;clear hf r2;go_upto_region 15 with fail;generalize hV:w3.alloc _=W4;have W4l:Later w3 W4:=by rw[←hV];exact(Below.refl _ w3).alloc (Nat.le_refl _) _
   have W4q:W4.heap[w3.heap.size]? =some (.cells [.int .u8 tos,.int .u16 id,.bool keep,.int .u8 ttl,.int .u8 6,.int .u32 src,.int .u32 dst,.slice ao3 zo.length co3,.slice av (20+(pad (obs os)).length+zm.length) cv].toArray 40 (0,0)):=by rw[←hV];exact heap_alloc_new w3 _
   clear hV;have r4:=(W4l.block (w.heap.size+1+1) (by omega)).trans r3;have hw4:=hw3.trans (W4l.mono hw3.size);have hO4:=hO3.later W4l;have hOu4:=hOu3.later W4l;clear r3 hO3 hOu3;have hBS:=(zFg src dst 6 (20+(pad (obs os)).length+zm.length) hsr hds (by omega)).append hB0;have HLS:Hid ((psd src dst 6 (20+(pad (obs os)).length+zm.length)++(zEy sp dp sq ak fl wn ur (pad (obs os)) zm)).length=12+(20+(pad (obs os)).length+zm.length)):=by show _=_;rw[List.length_append,zBb,HTL.out]
   refine zA5 (R1:=Later) (R2:=But (fun b=>b=w3.heap.size)) (D:=[7]) 8 rfl (by kernel_rfl) ?_;have hd:Later W4 W4.drew:=Later.drew W4;have q5:=zAb hd W4q;have r5:=zAb hd r4;have hw5:=hw4.trans (hd.mono hw4.size);have hO5:=hO4.later hd;have hOu5:=hOu4.later hd;clear W4q r4 hO4 hOu4;generalize W4.drew=W5 at*;have Q5:=zAa q5;have q0:=fun v1 (hv:Later W5 v1)=>zAa (zAb hv q5);refine uX Later.pre 0 [1,5,7] ?_;refine uX Later.pre 1 [5,7] ?_;clear q0;refine uO 2 ?_;unfold Oper.wp;go_simp;refine⟨zA3 (by rfl) (Later.refl _),?_⟩;refine uO 3 ?_;refine zAj 64 #[.agg #[.int .u8 tos,.int .u16 id,.bool keep,.int .u8 ttl,.int .u8 6,.int .u32 src,.int .u32 dst,.slice ao3 zo.length co3,.slice av (20+(pad (obs os)).length+zm.length) cv]] (by go_simp) ?_;refine(zE7 tos id ttl 6 src dst keep _ _ (zEy sp dp sq ak fl wn ur (pad (obs os)) zm) W5 hOu5.rd (by rw[HTL.out];omega) hsr hds).mono ?_;rw[HTL.out];rintro e W6 ⟨a6',c6',rfl,hS6,hb6⟩;refine⟨zA3 (by rfl) hb6,?_⟩;simp only[Act.put,sA,sB,sC];refine uO 4 ?_;refine zAj 63 #[.slice a6' (12+(20+(pad (obs os)).length+zm.length)) c6'] (by go_simp) ?_;refine(zD4 _ (psd src dst 6 (20+(pad (obs os)).length+zm.length)++(zEy sp dp sq ak fl wn ur (pad (obs os)) zm)) hBS (by rw[HLS.out];omega) W6 hS6.rd).mono ?_;rintro e W7 ⟨rfl,hb7⟩;refine⟨zA3 (by rfl) hb7,?_⟩;simp only[Act.put,sA,sB,sC];have hb57:Later W5 W7:=hb6.trans (hb7.mono hb6.size);have hO7:=hO5.later hb57
   have hOu7:=hOu5.later hb57;have r7:=zAb hb57 r5;have q7:=zAb hb57 q5;have hw7:=hw5.trans (hb57.mono hw5.size);have hq5:=(eS q5);have hcb:=Mt.cks_bd (psd src dst 6 (20+(pad (obs os)).length+zm.length)++(zEy sp dp sq ak fl wn ur (pad (obs os)) zm));refine uO 5 ?_;refine zAj 62 #[.slice av (20+(pad (obs os)).length+zm.length) cv,.int .i64 16,.int .u16 (Mt.cks (psd src dst 6 (20+(pad (obs os)).length+zm.length)++(zEy sp dp sq ak fl wn ur (pad (obs os)) zm)))] (by go_simp) ?_;refine(zB6 _ (zEy sp dp sq ak fl wn ur (pad (obs os)) zm) 16 (Mt.cks (psd src dst 6 (20+(pad (obs os)).length+zm.length)++(zEy sp dp sq ak fl wn ur (pad (obs os)) zm))) W7 (by rw[HTL.out];omega) hOu7.rd hcb).mono ?_;rw[HTL.out];rintro e W8 ⟨a6,rfl,hO8,hb8'⟩;rw[zAv _ 16 16 _ rfl (by rw[HTL.out];omega)]at hO8;refine⟨zA3 (by rfl) hb8',?_⟩;simp only[Act.put,sA,sB,sC];have r8:=zAb hb8' r7;have q8:=zAb hb8' q7;have hw8':=hw7.trans (hb8'.mono hw7.size);have hOo:=hO7.later hb8';have hs57:=hb57.size;have hs78:=hb8'.size;clear hOu5 hO5 hOu7 hO7 r7 q7 r5 q5 Q5 hS6;refine uO 6 ?_;unfold Oper.wp;go_simp;refine⟨zA3 (by rfl) (Later.refl _),?_⟩;have Q8:=zAa q8;have F8:=zAc q8;refine uO 7 ?_;unfold Oper.wp;go_simp;refine⟨zDx (by rfl) ((But.refl (fun b=>b=w3.heap.size) W8).setCell (p:=⟨w3.heap.size,8,none⟩) rfl _),?_⟩;clear Q8 F8;refine uD ?_
   have E9:But (fun b=>b=w3.heap.size) W8 (W8.setCell ⟨w3.heap.size,8,none⟩ (.slice a6 (20+(pad (obs os)).length+zm.length) (20+(pad (obs os)).length+zm.length))):=(But.refl (fun b=>b=w3.heap.size) W8).setCell (p:=⟨w3.heap.size,8,none⟩) rfl _;have q9:(W8.setCell ⟨w3.heap.size,8,none⟩ (.slice a6 (20+(pad (obs os)).length+zm.length) (20+(pad (obs os)).length+zm.length))).heap[w3.heap.size]? =some (.cells [.int .u8 tos,.int .u16 id,.bool keep,.int .u8 ttl,.int .u8 6,.int .u32 src,.int .u32 dst,.slice ao3 zo.length co3,.slice a6 (20+(pad (obs os)).length+zm.length) (20+(pad (obs os)).length+zm.length)].toArray 40 (0,0)):=zAh q8 8 _;generalize W8.setCell ⟨w3.heap.size,8,none⟩ (.slice a6 (20+(pad (obs os)).length+zm.length) (20+(pad (obs os)).length+zm.length))=W9 at*;have r9:=(E9.block (w.heap.size+1+1) (by omega) (by omega)).trans r8;have hwL:Below w.heap.size w W9:=hw8'.trans (E9.below (by omega) (fun k h e=>by omega));have hO9:=hOo.aside q8 (by decide) E9;have hOd:=hO8.aside q8 (by decide) E9;have Q9:=zAa q9;have R9:=zAa r9;have F9:=zAc r9;go_wp2_with fail;generalize hV:World.setCell _ ⟨w.heap.size+1+1,8,none⟩ _=V8;have hV9:V8=zAi W9 (w.heap.size+1+1) 0 [.int .u8 tos,.int .u16 id,.bool keep,.int .u8 ttl,.int .u8 6,.int .u32 src,.int .u32 dst,.slice ao3 zo.length co3,.slice a6 (20+(pad (obs os)).length+zm.length) (20+(pad (obs os)).length+zm.length)]:=hV.symm
   have hb8:But (fun b=>b=w.heap.size+1+1) W9 V8:=by rw[hV9];exact zAf (E:=fun b=>b=w.heap.size+1+1) (n:=w.heap.size+1+1) rfl _ _ _ _ (But.refl _ _)
   have p8:=zAe [.int .u8 tos,.int .u16 id,.bool keep,.int .u8 ttl,.int .u8 6,.int .u32 src,.int .u32 dst,.slice ao3 zo.length co3,.slice a6 (20+(pad (obs os)).length+zm.length) (20+(pad (obs os)).length+zm.length)] r9 rfl;rw[←hV9]at p8;clear hV hV9;have P8:=zAa p8;have hw8:Below w.heap.size w V8:=(hwL).trans (hb8.below (hwL).size (fun k h e=>by omega));exact bodyPost_ret (v:= .tuple #[.agg #[.int .u8 tos,.int .u16 id,.bool keep,.int .u8 ttl,.int .u8 6,.int .u32 src,.int .u32 dst,.slice ao3 zo.length co3,.slice a6 (20+(pad (obs os)).length+zm.length) (20+(pad (obs os)).length+zm.length)],.int .i64 0]) (by simp[results,Tryz.results23,go_sem,P8]) rfl (⟨hw8,.inr ⟨HF.out,_,_,_,_,rfl,(hO9.but hb8 (fun b h e=>by omega)).mono hw2.size,by rw[HTC.out];exact(hOd.but hb8 (fun b h e=>by omega)).mono (by omega)⟩⟩)
attribute [local go_sem] Oper.semAt_some
theorem zAu {α:Type} {n:Nat} {l:List α} (h:l.length=n+1):∃a r,l=a::r∧r.length=n:=by
 cases l with
 |nil=>simp at h
 |cons a r=>exact⟨a,r,rfl,by simpa using h⟩
theorem list49 {α:Type} {l:List α} (h:l.length=49):∃v0 v1 v2 v3 v4 v5 v6 v7 v8 v9 v10 v11 v12 v13 v14 v15 v16 v17 v18 v19 v20 v21 v22 v23 v24 v25 v26 v27 v28 v29 v30 v31 v32 v33 v34 v35 v36 v37 v38 v39 v40 v41 v42 v43 v44 v45 v46 v47 v48,l=[v0,v1,v2,v3,v4,v5,v6,v7,v8,v9,v10,v11,v12,v13,v14,v15,v16,v17,v18,v19,v20,v21,v22,v23,v24,v25,v26,v27,v28,v29,v30,v31,v32,v33,v34,v35,v36,v37,v38,v39,v40,v41,v42,v43,v44,v45,v46,v47,v48]:=by
 obtain⟨v0,l0,rfl,h0⟩:=zAu h;obtain⟨v1,l1,rfl,h1⟩:=zAu h0;obtain⟨v2,l2,rfl,h2⟩:=zAu h1;obtain⟨v3,l3,rfl,h3⟩:=zAu h2;obtain⟨v4,l4,rfl,h4⟩:=zAu h3;obtain⟨v5,l5,rfl,h5⟩:=zAu h4;obtain⟨v6,l6,rfl,h6⟩:=zAu h5;obtain⟨v7,l7,rfl,h7⟩:=zAu h6;obtain⟨v8,l8,rfl,h8⟩:=zAu h7;obtain⟨v9,l9,rfl,h9⟩:=zAu h8;obtain⟨v10,l10,rfl,h10⟩:=zAu h9;obtain⟨v11,l11,rfl,h11⟩:=zAu h10;obtain⟨v12,l12,rfl,h12⟩:=zAu h11;obtain⟨v13,l13,rfl,h13⟩:=zAu h12;obtain⟨v14,l14,rfl,h14⟩:=zAu h13;obtain⟨v15,l15,rfl,h15⟩:=zAu h14;obtain⟨v16,l16,rfl,h16⟩:=zAu h15;obtain⟨v17,l17,rfl,h17⟩:=zAu h16;obtain⟨v18,l18,rfl,h18⟩:=zAu h17;obtain⟨v19,l19,rfl,h19⟩:=zAu h18;obtain⟨v20,l20,rfl,h20⟩:=zAu h19;obtain⟨v21,l21,rfl,h21⟩:=zAu h20;obtain⟨v22,l22,rfl,h22⟩:=zAu h21;obtain⟨v23,l23,rfl,h23⟩:=zAu h22;obtain⟨v24,l24,rfl,h24⟩:=zAu h23;obtain⟨v25,l25,rfl,h25⟩:=zAu h24;obtain⟨v26,l26,rfl,h26⟩:=zAu h25;obtain⟨v27,l27,rfl,h27⟩:=zAu h26;obtain⟨v28,l28,rfl,h28⟩:=zAu h27;obtain⟨v29,l29,rfl,h29⟩:=zAu h28;obtain⟨v30,l30,rfl,h30⟩:=zAu h29;obtain⟨v31,l31,rfl,h31⟩:=zAu h30;obtain⟨v32,l32,rfl,h32⟩:=zAu h31;obtain⟨v33,l33,rfl,h33⟩:=zAu h32;obtain⟨v34,l34,rfl,h34⟩:=zAu h33;obtain⟨v35,l35,rfl,h35⟩:=zAu h34;obtain⟨v36,l36,rfl,h36⟩:=zAu h35;obtain⟨v37,l37,rfl,h37⟩:=zAu h36;obtain⟨v38,l38,rfl,h38⟩:=zAu h37;obtain⟨v39,l39,rfl,h39⟩:=zAu h38;obtain⟨v40,l40,rfl,h40⟩:=zAu h39;obtain⟨v41,l41,rfl,h41⟩:=zAu h40
 obtain⟨v42,l42,rfl,h42⟩:=zAu h41;obtain⟨v43,l43,rfl,h43⟩:=zAu h42;obtain⟨v44,l44,rfl,h44⟩:=zAu h43;obtain⟨v45,l45,rfl,h45⟩:=zAu h44;obtain⟨v46,l46,rfl,h46⟩:=zAu h45;obtain⟨v47,l47,rfl,h47⟩:=zAu h46;obtain⟨v48,l48,rfl,h48⟩:=zAu h47;obtain rfl:l48=[]:=List.eq_nil_of_length_eq_zero h48;exact⟨v0,v1,v2,v3,v4,v5,v6,v7,v8,v9,v10,v11,v12,v13,v14,v15,v16,v17,v18,v19,v20,v21,v22,v23,v24,v25,v26,v27,v28,v29,v30,v31,v32,v33,v34,v35,v36,v37,v38,v39,v40,v41,v42,v43,v44,v45,v46,v47,v48,rfl⟩
theorem zMn(x:Int)(w:World):Calls Tryz.prog 250 #[.int .u8 x] w fun e w'=>e= .returned (.bool (x !=0))∧w'=w:=by
 go_enter Tryz.func250,Tryz.ntmps250;go_wp2
 go_ret
 exact⟨rfl,rfl⟩
theorem idxb_any(n₀:Nat)(sv:Value)(zs:List Int)(w:World)(hI:Rd n₀ w sv zs)(hl:zs.length≤140737488355328):
  Calls Tryz.prog 300 #[sv,.func (.func 250) #[] #[]] w fun e w'=>w'=w∧(((∀x∈zs,x=0)∧e= .returned (.int .i64 (-1)))∨((¬ ∀x∈zs,x=0)∧∃k:Nat,k<zs.length∧e= .returned (.int .i64 (k:Int)))):=by
 obtain⟨a,cap,rfl,hc1,hc2⟩:=hI.slice;go_enter Tryz.func300,Tryz.ntmps300;go_wp2
 go_loopw [8] (fun i wr=>∃k:Nat,k≤zs.length∧i= .int .i64 (k:Int)∧(∀j,j<k→zs[j]?.getD 0=0)∧wr=w) (fun i _=>zs.length-(intOf i).toNat)
 case atStart=>exact⟨0,by omega,rfl,fun j h=>by omega,rfl⟩
 case round=>
  obtain⟨k,hk,rfl,hz,rfl⟩:=hrel;by_cases hlt:k<zs.length
  ·obtain ⟨b,off,cp,e,_,_,hbb,hcs⟩:=hI.cells (by omega)
   simp at e
   obtain⟨rfl,rfl⟩:=e;have c0:=hcs k hlt;have hlt':(k:Int)<zs.length:=by omega
   have HX:Hid (zs[k]?.getD 0=zs[k]?.getD 0):=rfl;generalize hx:zs[k]?.getD 0=x at c0;have HXX:=zAd hx;have HZ:=zAd hz;clear hx hcs hz;go_wp2_with fail;refine(zMn x _).mono ?_;rintro e w' ⟨rfl,rfl⟩;cases hx0:(x !=0) with
   |true=>
    have hne:x≠0:=by simpa using hx0
    clear hx0;go_wp2_with fail;go_ret
    refine⟨rfl,.inr ⟨fun h=>hne ?_,k,hlt,rfl⟩⟩;rw[←HXX.out];have:=h (zs[k]?.getD 0) (by simp[hlt]);exact this
   |false=>
    have hne:x=0:=by simpa using hx0
    have HNE:=zAd hne;clear hx0 hne;go_wp2_with fail;go_roundw
    case rel=>exact⟨k+1,by omega,by go_num,fun j hj=>by by_cases h:j=k;(subst h;rw[HXX.out];exact HNE.out);exact HZ.out j (by omega),trivial⟩
    case measure=>simp[intOf];omega
  ·obtain rfl:k=zs.length:=by omega
   have HZ:=zAd hz;clear hz;go_wp2_with fail;go_ret
   refine⟨rfl,.inl ⟨fun x hx=> ?_,rfl⟩⟩;obtain⟨j,hj,rfl⟩:=List.getElem_of_mem hx;have:=HZ.out j hj;simpa[hj]using this
def azb (zs:List Int):Bool:=decide (∀x∈zs,x=0)
theorem zTh(n₀:Nat)(sv:Value)(zs:List Int)(w:World)(hI:Rd n₀ w sv zs)(hl:zs.length≤140737488355328):
  Calls Tryz.prog 179 #[sv] w fun e w'=>e= .returned (.bool (azb zs))∧w'=w:=by
 obtain⟨a,cap,rfl,hc1,hc2⟩:=hI.slice
 have hcf:Calls Tryz.prog 249 #[.slice a zs.length cap,.func (.func 250) #[] #[]] w fun e w'=>e= .returned (.bool (!azb zs))∧w'=w:=by
  go_enter Tryz.func249,Tryz.ntmps249;go_wp2_with fail;refine(idxb_any n₀ _ zs w hI hl).mono ?_;rintro e w' ⟨rfl,⟨hz,rfl⟩|⟨hz,k,hk,rfl⟩⟩
  ·go_wp2
   go_ret
   exact⟨by unfold azb;rw[decide_eq_true hz];rfl,rfl⟩
  ·go_wp2
   go_ret
   refine⟨?_,rfl⟩;unfold azb;rw[decide_eq_false hz];simp
 go_enter Tryz.func179,Tryz.ntmps179;go_wp2_with fail;refine hcf.mono ?_;rintro e w' ⟨rfl,rfl⟩;go_wp2
 go_ret
 exact⟨by simp,rfl⟩
abbrev zop:List Value:=[.int .u8 0,.slice none 0 0]
theorem zFj(sv:Value)(zs:List Int)(w:World)(hI:Rd w.heap.size w sv zs)(hB:Mt.By zs)(hl:zs.length≤140737488355328)(h1:0<zs.length)(h2:zs[0]?.getD 0≠1→2≤zs.length):
  Calls Tryz.prog 180 #[sv] w fun e w'=>Below w.heap.size w w'∧∃s,e= .returned (.agg #[.int .u8 (zs[0]?.getD 0),s])∧Ow w.heap.size w' s (if zs[0]?.getD 0=1 then []else zs.drop 2):=by
 obtain⟨b,off,cap,rfl,hc1,hc2,hbb,hcs⟩:=hI.cells h1;have d0:=hcs 0 h1;rw[Nat.add_zero]at d0;clear hcs;have hb0:Below w.heap.size w (w.alloc (.cells zop.toArray 244)):=bA _ _;have r0:(w.alloc (.cells zop.toArray 244)).heap[w.heap.size]? =some (.cells zop.toArray 244 (0,0)):=heap_alloc_new _ _;have hs0:(w.alloc (.cells zop.toArray 244)).heap.size=w.heap.size+1:=by simp
 have dW:=(hb0.cell (p:=⟨b,off,none⟩) hbb).trans d0;have R0:=zAd r0;have HS:=zAd hs0;clear r0 hs0 d0;have i0:(0:Int)<zs.length:=by omega
 generalize hx:zs[0]?.getD 0=x at*;have HX:=zAd hx;clear hx;by_cases c1:x=1
 ·have t1:(x==1)=true:=by simp[c1]
  have C1:=zAd c1;clear c1 h2;go_enter Tryz.func180,Tryz.ntmps180;go_wp2_with fail;exact bodyPost_ret (v:= .agg #[.int .u8 1,.slice none 0 0]) (by simp[results,Tryz.results180,go_sem]) rfl ⟨by simpa using(Below.refl w.heap.size w).alloc (Nat.le_refl _) _,.slice none 0 0,rfl,.inl ⟨rfl,rfl⟩⟩
 ·have t1:(x==1)=false:=by simp[c1]
  have C1:=zAd c1;have h22:=h2 c1;clear c1 h2;have i2:(2:Int)≤zs.length:=by omega
  have i2c:(zs.length:Int)≤cap:=by omega
  go_enter Tryz.func180,Tryz.ntmps180;go_upto_region 3 with fail;generalize w.alloc (.cells zop.toArray 244)=W0 at*;refine zAl (R:=But (fun b=>b=w.heap.size)) 8 rfl (by kernel_rfl) ?_;have hd:Later W0 W0.drew:=Later.drew W0;have hb1:=hb0.trans (hd.mono hb0.size);have r1:=zAb hd R0.out;have hs1:w.heap.size+1≤W0.drew.heap.size:=by have:=hd.size;have:=HS.out;omega
  have dV:∀v1,But (fun b=>b=w.heap.size) W0.drew v1→v1.cell? ⟨b,off,none⟩=some (.int .u8 x):=fun v1 h=>h.cell ((hd.cell dW)) (by simp;omega);clear dW R0 HS;generalize W0.drew=W1 at*;refine tX (But.pre _) 0 ?_;refine tX (But.pre _) 1 ?_;refine tX (But.pre _) 2 ?_;refine tX (But.pre _) 3 ?_;refine tX (But.pre _) 4 ?_;have hs8:=(hI.below hb1).cutAt 2 (by omega);generalize (if cap=2 then some (⟨b,off,none⟩:Addr)else some ⟨b,off+2,none⟩)=ad2 at*;clear dV;refine tO 5 ?_;refine zAj 71 #[.slice ad2 (zs.length-2) (cap-2)] (by go_simp) ?_;refine(zAx _ (zs.drop 2) W1 (by simp;omega) (hs8.mono hb1.size)).mono ?_;rw[List.length_drop];rintro e W2 ⟨a2,c2,rfl,hO2,hb2⟩;refine⟨But.of hb2,?_⟩;simp only[Act.put,sA,sB,sC];have r2:=zAb hb2 r1;have R2:=zAa r2;have F2:=zAc r2;have hw2:=hb1.trans (hb2.mono hb1.size);refine tO 6 ?_;unfold Oper.wp;go_simp;refine⟨But.refl _ _,?_⟩;refine tO 7 ?_;unfold Oper.wp;go_simp;generalize hV:World.setCell _ ⟨w.heap.size,1,none⟩ _=V8;have hV9:V8=zAi W2 (w.heap.size) 0 [.int .u8 x,.slice a2 (zs.length-2) c2]:=hV.symm;have hb8:But (fun b=>b=w.heap.size) W2 V8:=by rw[hV9];exact zAf (E:=fun b=>b=w.heap.size) (n:=w.heap.size) rfl _ _ _ _ (But.refl _ _)
  have p8:=zAe [.int .u8 x,.slice a2 (zs.length-2) c2] r2 rfl;rw[←hV9]at p8;clear hV hV9 R2 F2;refine⟨hb8,?_⟩;refine tD ?_;have P8:=zAa p8;have hw8:Below w.heap.size w V8:=hw2.trans (hb8.below hw2.size (fun k h e=>by omega));go_wp2_with fail;exact bodyPost_ret (v:= .agg #[.int .u8 x,.slice a2 (zs.length-2) c2]) (by simp[results,Tryz.results180,go_sem,P8]) rfl ⟨hw8,.slice a2 (zs.length-2) c2,rfl,(hO2.but hb8 (fun b h e=>by omega)).mono (by omega)⟩
end Go.Proofs.YteaeilghamjjkaaGreatDoor
