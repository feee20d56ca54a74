import Derived.Test.YteaeilghamjjkaaGreatDoorX10
namespace Go.Proofs.YteaeilghamjjkaaGreatDoor
set_option maxHeartbeats 8000000
open Go.RowKit Go.Shelf
set_option maxRecDepth 100000
set_option linter.unusedVariables false
set_option linter.unusedSimpArgs false
theorem HvP.asideF {A B:World} {f:Fl} {pr ad:Int} {n mb:Nat} {cur:Array Value} {t:TypeId} {fz:Nat × Nat} (h:HvP A f pr ad n)(hm:A.heap[mb]? =some (.cells cur t fz))(ht:t≠230)(hb:But (fun q=>q=mb) A B):HvP B f pr ad n:=by
 obtain⟨b,e,hh⟩:=h;refine⟨b,e,(hb.block b (eS hh) (fun q=> ?_)).trans hh⟩;have q':b=mb:=q;rw[q',hm]at hh;exact ht (Obj.cells.inj (Option.some.inj hh)).2.1
theorem zCd {A B:World} {hb mb:Nat} {cur cur2:Array Value} {t t2:TypeId} {fz fz2:Nat × Nat} (h:A.heap[hb]? =some (.cells cur2 t2 fz2))(hm:A.heap[mb]? =some (.cells cur t fz))(ht:t≠t2)(hB:But (fun q=>q=mb) A B):B.heap[hb]? =some (.cells cur2 t2 fz2):=by
 refine(hB.block hb (eS h) (fun q=> ?_)).trans h;have q':hb=mb:=q;rw[q',hm]at h;exact ht (Obj.cells.inj (Option.some.inj h)).2.1
def HfS (base:Nat) (W:World) (hb:Nat) (l0 l1:List Pa) (tx:List Int):Prop:=∃b0 b1 v0 v1,base≤hb∧HfC W hb b0 b1∧SL 479 base W b0 v0 l0∧SL 479 base W b1 v1 l1∧∀p∈l0,Ow base W (.slice p.ta p.tn p.tc) tx
theorem HfN.toS {base:Nat} {W:World} {hb:Nat} {tx:List Int} (h:HfN base W hb):HfS base W hb [] [] tx:=by
 obtain⟨b0,b1,⟨h1,h2,h3,_⟩,h4,h5,h6⟩:=h;exact⟨b0,b1,_,_,h1,h4,⟨h2,h5,rfl,.inl ⟨rfl,rfl⟩⟩,⟨h3,h6,rfl,.inl ⟨rfl,rfl⟩⟩,by simp⟩
theorem HfS.later {base:Nat} {A B:World} {hb:Nat} {l0 l1:List Pa} {tx:List Int} (h:HfS base A hb l0 l1 tx)(l:Later A B):HfS base B hb l0 l1 tx:=by
 obtain⟨b0,b1,v0,v1,h1,h2,h3,h4,h5⟩:=h;exact⟨b0,b1,v0,v1,h1,zAb l h2,h3.later l,h4.later l,fun p hp=>(h5 p hp).later l⟩
theorem SL.kgF {t:TypeId} {base:Nat} {A B:World} {b:Nat} {v:Value} {l:List Pa} (h:SL t base A b v l)(k:KG base A B)(ht:gTs.contains t=false):SL t base B b v l:=by
 obtain⟨h1,h2,h3,h4|⟨b,cap,cur',e',hb',hh,r⟩⟩:=h
 ·exact ⟨h1,k.cells h2 ht,h3,.inl h4⟩
 ·exact ⟨h1,k.cells h2 ht,h3,.inr ⟨b,cap,cur',e',hb',k.cells hh (by decide),r⟩⟩
theorem HfS.kg {base:Nat} {A B:World} {hb:Nat} {l0 l1:List Pa} {tx:List Int} (h:HfS base A hb l0 l1 tx)(k:KG base A B):HfS base B hb l0 l1 tx:=by
 obtain⟨b0,b1,v0,v1,h1,h2,h3,h4,h5⟩:=h;exact⟨b0,b1,v0,v1,h1,k.cells h2 (by decide),h3.kgF k (by decide),h4.kgF k (by decide),fun p hp=>(h5 p hp).kg k⟩
def AsT (t:TypeId):Prop:=t=40∨t=36∨t=32
theorem SL.asideF {base:Nat} {A B:World} {b mb:Nat} {v:Value} {l:List Pa} {cur:Array Value} {t:TypeId} {fz:Nat × Nat} (h:SL 479 base A b v l)(hm:A.heap[mb]? =some (.cells cur t fz))(ht:AsT t)(hB:But (fun q=>q=mb) A B):SL 479 base B b v l:=
 ⟨h.1,zCd h.2.1 hm (by rcases ht with rfl|rfl|rfl<;>decide) hB,zPi h.2.2 hB hm (by rcases ht with rfl|rfl|rfl<;>decide)⟩
theorem HfS.asideF {base:Nat} {A B:World} {hb mb:Nat} {l0 l1:List Pa} {tx:List Int} {cur:Array Value} {t:TypeId} {fz:Nat × Nat} (h:HfS base A hb l0 l1 tx)(hm:A.heap[mb]? =some (.cells cur t fz))(ht:AsT t)(hB:But (fun q=>q=mb) A B):HfS base B hb l0 l1 tx:=by
 obtain⟨b0,b1,v0,v1,h1,h2,h3,h4,h5⟩:=h;exact⟨b0,b1,v0,v1,h1,zCd h2 hm (by rcases ht with rfl|rfl|rfl<;>decide) hB,h3.asideF hm ht hB,h4.asideF hm ht hB,fun p hp=>(h5 p hp).asideF hm (by rcases ht with rfl|rfl|rfl<;>decide) hB⟩
structure VF (base g:Nat) (W:World) (f:Fl) (hb nn:Nat) (st:Int) (ws:Nat→Nat) (ex:List Ex) (l0 l1:List Pa) (tx:List Int) (now tr:Int):Prop where
 gf:∃s,GF base W g s∧F1 s f nn st ws ex∧s.now=now∧s.trn=tr
 hp:f.hp=hft hb
 hn:HfS base W hb l0 l1 tx
 hv:HvP W f 6 16909060 nn
 vb:HvB base f
theorem VF.later {base g:Nat} {A B:World} {f:Fl} {hb nn:Nat} {st:Int} {ws:Nat→Nat} {ex:List Ex} {l0 l1:List Pa} {tx:List Int} {now tr:Int} (h:VF base g A f hb nn st ws ex l0 l1 tx now tr)(l:Later A B):VF base g B f hb nn st ws ex l0 l1 tx now tr:=by
 obtain⟨s,h1,h2⟩:=h.gf;exact⟨⟨s,h1.later l,h2⟩,h.hp,h.hn.later l,h.hv.kg (KG.of_later (base:=base) l),h.vb⟩
theorem VF.aside {base g:Nat} {A B:World} {f:Fl} {hb nn:Nat} {st:Int} {ws:Nat→Nat} {ex:List Ex} {l0 l1:List Pa} {tx:List Int} {now tr:Int} (h:VF base g A f hb nn st ws ex l0 l1 tx now tr) {mb:Nat} {cur:Array Value} {t:TypeId} {fz:Nat × Nat} (hm:A.heap[mb]? =some (.cells cur t fz))(ht:AsT t)(hB:But (fun q=>q=mb) A B):VF base g B f hb nn st ws ex l0 l1 tx now tr:=by
 obtain⟨s,h1,h2⟩:=h.gf;exact⟨⟨s,h1.other (TE.one hm) hB (by rcases ht with rfl|rfl|rfl<;>decide),h2⟩,h.hp,h.hn.asideF hm ht hB,h.hv.asideF hm (by rcases ht with rfl|rfl|rfl<;>decide) hB,h.vb⟩
def OwX (base m:Nat) (W:World) (v:Value) (os:List Opt):Prop:=
 ∃ss,ss.length=os.length∧W.ownsRow base 244 2 v os.length (zEb os ss)∧∀j,j<os.length→(j<m→Ow base W (ss[j]?.getD undef) (os[j]?.getD (0,[])).2)∧(m≤j→Rd base W (ss[j]?.getD undef) (os[j]?.getD (0,[])).2)
theorem eqlO_nil(w:World):(binOp .eql 30 (.slice none 0 0) (.slice none 0 0)).run Tryz.prog w= .ok (.bool true) w:=by kernel_rfl
theorem zU0(w:World)(ad:Addr)(n c:Nat):(binOp .eql 30 (.slice (some ad) n c) (.slice none 0 0)).run Tryz.prog w= .ok (.bool false) w:=by kernel_rfl
theorem zIf(w:World):(w.alloc (.cells #[] 244)).ownsRow w.heap.size 244 2 (.slice (some ⟨w.heap.size,0,none⟩) 0 0) 0 []:=
 World.ownsRow_made w #[] 0 (Nat.le_refl _) (by simp) rfl
theorem RdO.row {n₀:Nat} {W:World} {a:Option Addr} {cap:Nat} {os:List Opt} (h:RdO n₀ W (.slice a os.length cap) os)(ha:a≠none):∃ad ss,a=some ad∧ss.length=os.length∧(∀j u,(zEb os ss)[j]? =some u→W.cell? (ad.add j)=some u)∧(∀u∈zEb os ss,u.oneCell'=true)∧∀j,j<os.length→Rd n₀ W (ss[j]?.getD undef) (os[j]?.getD (0,[])).2:=by
 rcases h with⟨a',cap',e,rfl,_⟩|⟨b,off,cap',e,hne,hl,hm,hb,hc⟩
 ·cases a with
  |none=>exact absurd rfl ha
  |some ad=>exact⟨ad,[],rfl,rfl,fun j u hj=>by simp[zEb]at hj,fun u hu=>by simp[zEb]at hu,fun j hj=>by simp at hj⟩
 ·simp at e
  obtain⟨rfl,rfl⟩:=e
  obtain⟨f,hf⟩:∃f:Nat→Value,∀j,j<os.length→W.cell? ⟨b,off+j*2,none⟩=some (.int .u8 (os[j]?.getD (0,[])).1)∧W.cell? ⟨b,off+j*2+1,none⟩=some (f j)∧Rd n₀ W (f j) (os[j]?.getD (0,[])).2:=by
   refine⟨fun j=>if h:j<os.length then(hc j h).choose else undef,fun j hj=> ?_⟩;simp only[dif_pos hj];exact(hc j hj).choose_spec
  have hsl:((List.range os.length).map f).length=os.length:=by simp
  have hgd:∀j,j<os.length→((List.range os.length).map f)[j]?.getD undef=f j:=fun j hj=>by simp[hj]
  have hcell:∀j,j<os.length*2→(zEb os ((List.range os.length).map f))[j]? =W.cell? ⟨b,off+j,none⟩:=fun j hj=>by
   have hat:=zE8 os _ hsl (j/2) (by omega);have hfj:=hf (j/2) (by omega);rw[hgd _ (by omega)]at hat;by_cases h2:j % 2=0
   ·have e:j=j/2*2:=by omega
    rw[←e]at hat hfj;rw[hat.1,hfj.1]
   ·have e:j=j/2*2+1:=by omega
    rw[←e]at hat;rw[Nat.add_assoc,←e]at hfj;rw[hat.2,hfj.2.1]
  have hlen:=zEa os _ hsl;refine⟨⟨b,off,none⟩,(List.range os.length).map f,rfl,hsl,fun j u hj=> ?_,fun u hu=> ?_,fun j hj=>by rw[hgd j hj];exact(hf j hj).2.2⟩
  ·have hjl:=(List.getElem?_eq_some_iff.1 hj).1
   rw[show (⟨b,off,none⟩:Addr).add j=⟨b,off+j,none⟩from by unfold Addr.add;split<;>simp_all,←hcell j (by omega),hj]
  ·obtain ⟨j,hj,hju⟩:=List.getElem_of_mem hu
   have hj':=List.getElem?_eq_getElem hj;have hat:=zE8 os _ hsl (j/2) (by omega);have hfj:=hf (j/2) (by omega);rw[hgd _ (by omega)]at hat;by_cases h2:j % 2=0
   ·have e:j=j/2*2:=by omega
    rw[←e,hj']at hat;have:=hat.1;simp only[hju,Option.some.injEq]at this;rw[this];rfl
   ·have e:j=j/2*2+1:=by omega
    rw[←e,hj']at hat;have:=hat.2;simp only[hju,Option.some.injEq]at this;rw[this];obtain⟨a,c,e',_⟩:=hfj.2.2.slice;rw[e'];rfl
theorem zRm(sv:Value)(os:List Opt)(w:World)(hl:os.length≤1000)(hI:RdO w.heap.size w sv os):
  Calls Tryz.prog 391 #[sv] w fun e w'=>∃v,e= .returned v∧OwX w.heap.size 0 w' v os∧Below w.heap.size w w':=by
 obtain⟨i0,hi,hz0,hz1,hz2⟩:=info_parts zPc;obtain⟨a,cap,rfl,hl1,hm1⟩:=hI.slice;cases a with
 | none=>
  obtain⟨rfl,rfl⟩:os=[]∧cap=0:=by
   rcases hI with⟨a,cap',e,hz,_,hn⟩|⟨_,_,_,e,_⟩
   ·have e1:=e
    simp at e1
    obtain⟨rfl,_,rfl⟩:=e1;exact⟨hz,hn rfl⟩
   ·simp at e
  have hq:=eqlO_nil w;go_enter Tryz.func391,Tryz.ntmps391;go_wp2
  go_ret
  exact⟨_,rfl,⟨[],rfl,World.ownsRow_nil _ _ _ _,fun j h=>by simp at h⟩,Below.refl _ _⟩
 |some ad0=>
  have hb0:Below w.heap.size w (w.alloc (.cells #[] 244)):=(Below.refl _ w).alloc (Nat.le_refl _) _;obtain⟨ad,ss,e,hsl,hcell,hone,hrd⟩:=(hI.below hb0).row (by simp);obtain rfl:ad0=ad:=by simpa using e
  have hlen:=zEa os ss hsl;have hq:=zU0 w ad0 os.length cap;have HC:=zAd hcell;have HO:=zAd hone;have HR:=zAd hrd;have HL:=zAd hlen;clear hcell hone hrd hlen;go_enter Tryz.func391,Tryz.ntmps391;go_wp2_with (at_builtin;refine wpList_append_own _ rfl (.tmp 5) (.tmp 6) 30 rfl w.heap.size 244 i0 (.agg #[.int .u8 0,.slice none 0 0]) 2 32 Tryz.underlying30 hi hz0 hz1 hz2 rfl (by decide) _ 0 [] rfl (zIf w) ad0 os.length cap (zEb os ss) rfl HL.out HC.out HO.out (by simp only[maxLen];omega) (by omega) (by simp) ?_)
  intro v2 W2 hrow2 hg2 hnn
  have hw2:Below w.heap.size w W2:=zEh hb0 (zIf w) hg2 (Nat.le_refl _) (by simp);have hX:OwX w.heap.size 0 W2 v2 os:=⟨ss,hsl,by simpa using hrow2,fun j hj=>⟨fun h=>by omega,fun _=>(HR.out j hj).below' hb0 hw2⟩⟩;clear hrow2 hg2 hnn;go_wp2
  go_ret
  exact⟨_,rfl,hX,hw2⟩
theorem zC7 {A B:World} {b mb:Nat} {o:Obj} (h:A.heap[b]? =some o)(hB:But (fun q=>q=mb) A B)(hn:b≠mb):B.heap[b]? =some o:=(hB.block b (eS h) hn).trans h
theorem ownO_nil(a:Option Addr)(c:Nat)(w:World)(hI:RdO w.heap.size w (.slice a 0 c) []):
  Calls Tryz.prog 380 #[.slice a 0 c] w fun e w'=>∃v,e= .returned v∧(∀n W,RdO n W v [])∧Later w w':=by
 go_enter Tryz.func380,Tryz.ntmps380;go_wp2_with fail;refine(zRm (.slice a 0 c) [] w (by simp) hI).mono ?_;rintro e w1 ⟨v,rfl,hX,hb1⟩
 obtain⟨b,cap,rfl,hv⟩:∃b cap,v= .slice b 0 cap∧∀n W,RdO n W (.slice b 0 cap) []:=by
  obtain⟨ss,h1,⟨h2,⟨rfl,h0⟩|⟨g,cp,cur,rfl,hg,hh,hl',hm,_⟩⟩,h3⟩:=hX
  ·exact ⟨none,0,rfl,fun n W=> .inl ⟨none,0,rfl,rfl,by omega,fun _=>rfl⟩⟩
  ·exact ⟨_,cp,rfl,fun n W=> .inl ⟨_,cp,rfl,rfl,by simpa[maxLen]using hm,fun h=>by cases h⟩⟩
 clear hX;go_wp2_with fail;go_loopw [9] (fun i wr=>i= .int .i64 0∧wr=w1) (fun i _=>0)
 case atStart=>exact⟨rfl,rfl⟩
 case round=>
  obtain⟨rfl,rfl⟩:=hrel;go_wp2_with fail;go_ret
  exact⟨_,rfl,hv,hb1⟩
theorem zCg(sp dp sq ak fl wn ur:Int)(a:Option Addr)(c:Nat)(sm:Value)(w:World)(hI:∀n W,RdO n W (.slice a 0 c) []):
  Calls Tryz.prog 367 #[.agg #[.int .u16 sp,.int .u16 dp,.int .u32 sq,.int .u32 ak,.int .u8 fl,.int .u16 wn,.int .u16 ur,.slice a 0 c,sm]] w fun e w'=>e= .returned (.slice none 0 0)∧Later w w':=by
 have la:=zAg w (.cells #[.int .u16 sp,.int .u16 dp,.int .u32 sq,.int .u32 ak,.int .u8 fl,.int .u16 wn,.int .u16 ur,.slice a 0 c,sm] 32);have S0:=zAd (heap_alloc_new w (.cells #[.int .u16 sp,.int .u16 dp,.int .u32 sq,.int .u32 ak,.int .u8 fl,.int .u16 wn,.int .u16 ur,.slice a 0 c,sm] 32));go_enter Tryz.func367,Tryz.ntmps367;go_wp2_with fail;generalize w.alloc (.cells #[.int .u16 sp,.int .u16 dp,.int .u32 sq,.int .u32 ak,.int .u8 fl,.int .u16 wn,.int .u16 ur,.slice a 0 c,sm] 32)=W0 at*;refine(zPf w.heap.size _ [] W0 la.size (hI _ _) (by intro o ho;cases ho)).mono ?_;rintro e w1 ⟨hb1,⟨hn,rfl⟩|⟨k,hk,rfl⟩⟩
 ·clear hn
  go_wp2_with fail;go_ret
  exact⟨rfl,la.trans hb1⟩
 ·cases hk
theorem zAw(sp dp sq ak fl wn ur:Int)(a am ae:Option Addr)(c cm ce:Nat)(zm:List Int)(w:World)(hI:∀n W,RdO n W (.slice a 0 c) [])(hM:Rd w.heap.size w (.slice am zm.length cm) zm)(hzm:zm.length≤140737488355328):
  Calls Tryz.prog 368 #[.agg #[.int .u16 sp,.int .u16 dp,.int .u32 sq,.int .u32 ak,.int .u8 fl,.int .u16 wn,.int .u16 ur,.slice a 0 c,.slice am zm.length cm],.slice ae 0 ce] w fun e w'=>Later w w'∧∃aV cV vm,e= .returned (.agg #[.int .u16 sp,.int .u16 dp,.int .u32 sq,.int .u32 ak,.int .u8 fl,.int .u16 wn,.int .u16 ur,.slice aV 0 cV,vm])∧(∀n W,RdO n W (.slice aV 0 cV) [])∧Ow w.heap.size w' vm zm:=by
 obtain⟨l0,c0,c1⟩:=zBa w (.cells #[.int .u16 sp,.int .u16 dp,.int .u32 sq,.int .u32 ak,.int .u8 fl,.int .u16 wn,.int .u16 ur,.slice a 0 c,.slice am zm.length cm] 32) (.cells #[.int .u16 0,.int .u16 0,.int .u32 0,.int .u32 0,.int .u8 0,.int .u16 0,.int .u16 0,.slice none 0 0,.slice none 0 0] 32);have C0:=zAd c0;have C1:=zAd c1;clear c0 c1;go_enter Tryz.func368,Tryz.ntmps368;go_upto_region 1 with fail;generalize (w.alloc (.cells #[.int .u16 sp,.int .u16 dp,.int .u32 sq,.int .u32 ak,.int .u8 fl,.int .u16 wn,.int .u16 ur,.slice a 0 c,.slice am zm.length cm] 32)).alloc (.cells #[.int .u16 0,.int .u16 0,.int .u32 0,.int .u32 0,.int .u8 0,.int .u16 0,.int .u16 0,.slice none 0 0,.slice none 0 0] 32)=w0 at*;generalize hgx:w.heap.size=gx at C0 C1⊢;refine zA5 (R1:=Later) (R2:=fun _ _=>True) (D:=[7,9]) 10 rfl (by kernel_rfl) ?_;have ld:Later w0 w0.drew:=Later.drew w0;generalize w0.drew=Wd at*;have L1:=l0.trans ld;have q0:∀v,Later Wd v→∀j,v.cell? ⟨gx,j,none⟩=_:=fun v hv=>zAa (zAb (ld.trans hv) C0.out);refine uX Later.pre 0 [1,2,5,7,9] ?_;refine uX Later.pre 1 [2,5,7,9] ?_;refine uX Later.pre 3 [4,5,7,9] ?_;refine uX Later.pre 4 [5,7,9] ?_;clear q0;refine uO 2 ?_;refine zAj 380 #[.slice a 0 c] (by go_simp) ?_;refine(ownO_nil a c Wd (hI _ _)).mono ?_;rintro e W2 ⟨v,rfl,hO,l2⟩;obtain⟨aV,cV,rfl,_,_⟩:=(hO 0 Wd).slice;have l2':Later Wd W2:=l2;refine⟨zA3 (by rfl) l2',?_⟩;simp only[Act.put,sA,sB,sC];refine pX Later.refl (fun _=>trivial) 6 ?_;refine uO 5 ?_
 refine zAj 71 #[.slice am zm.length cm] (by go_simp) ?_;refine(zAx _ zm W2 hzm (Rd.later hM (L1.trans l2'))).mono ?_;rintro e W5 ⟨am1,cm1,rfl,hD,l5⟩;have l5':Later W2 W5:=l5;refine⟨zA3 (by rfl) l5',?_⟩;simp only[Act.put,sA,sB,sC];have L5:=L1.trans (l2'.trans l5');have D0:=zAd (zAb (ld.trans (l2'.trans l5')) C0.out);have D1:=zAd (zAb (ld.trans (l2'.trans l5')) C1.out);have HD:=zAd (hD.mono (show w.heap.size≤W2.heap.size from(L1.trans l2').size));clear C0 C1 l2 l5 l2' l5' ld hD;have k0:=zAa D0.out;have f0:=zAc D0.out;refine uO 7 ?_;unfold Oper.wp;go_simp;have B1:But (fun q=>q=gx) W5 (W5.setCell ⟨gx,7,none⟩ (.slice aV 0 cV)):=(But.refl (fun q=>q=gx) _).setCell (p:=⟨gx,7,none⟩) rfl _;have E0:=zAd (zAh D0.out 7 (.slice aV 0 cV));refine⟨zDx (by rfl) trivial,?_⟩;have E1:=zAd (zC7 D1.out B1 (show gx+1≠gx by omega));have HE:=zAd (HD.out.asideF D0.out (by decide) B1);clear k0 f0 D0 D1 HD;generalize W5.setCell ⟨gx,7,none⟩ _=W6 at*;refine pX Later.refl (fun _=>trivial) 8 ?_;have k0:=zAa E0.out;have f0:=zAc E0.out;refine uO 9 ?_;unfold Oper.wp;go_simp;have B2:But (fun q=>q=gx) W6 (W6.setCell ⟨gx,8,none⟩ (.slice am1 zm.length cm1)):=(But.refl (fun q=>q=gx) _).setCell (p:=⟨gx,8,none⟩) rfl _;have F0:=zAd (zAh E0.out 8 (.slice am1 zm.length cm1));refine⟨zDx (by rfl) trivial,?_⟩;have F1:=zAd (zC7 E1.out B2 (show gx+1≠gx by omega));have HF:=zAd (HE.out.asideF E0.out (by decide) B2)
 have LB:=zAd (Below.trans L5 ((B1.trans B2).below L5.size (fun k h e=>by have e':k=gx:=e;omega)));clear k0 f0 E0 E1 HE B1 B2 L5;generalize W6.setCell ⟨gx,8,none⟩ _=W7 at*;refine uD ?_;have k0:=zAa F0.out;go_wp2_with fail;refine(zPf w.heap.size (.slice aV 0 cV) [] W7 LB.out.size (hO _ _) (by intro o ho;cases ho)).mono ?_;rintro e w8 ⟨hb8,⟨hn,rfl⟩|⟨k,hk,rfl⟩⟩
 ·clear hn k0
  have l8:Later W7 w8:=hb8;have G1:=zAd (zAb l8 F1.out);have k0:=zAa (zAb l8 F0.out);have k1:=zAa G1.out;have f1:=zAc G1.out;have HG:=zAd (HF.out.later l8);have LG:=zAd (Below.trans LB.out (l8.mono LB.out.size));clear hb8 l8 LB HF F0 F1;go_wp2_with fail;generalize hV:World.setCell _ ⟨gx+1,8,none⟩ _=V;have hV9:V=zAi w8 (gx+1) 0 [.int .u16 sp,.int .u16 dp,.int .u32 sq,.int .u32 ak,.int .u8 fl,.int .u16 wn,.int .u16 ur,.slice aV 0 cV,.slice am1 zm.length cm1]:=hV.symm;have hb9:But (fun q=>q=gx+1) w8 V:=by rw[hV9];exact zAf (E:=fun q=>q=gx+1) (n:=gx+1) rfl _ _ _ _ (But.refl _ _)
  have p8:=zAe [.int .u16 sp,.int .u16 dp,.int .u32 sq,.int .u32 ak,.int .u8 fl,.int .u16 wn,.int .u16 ur,.slice aV 0 cV,.slice am1 zm.length cm1] G1.out rfl;rw[←hV9]at p8;clear hV hV9 k0 k1 f1;have P8:=zAa p8;exact bodyPost_ret (v:= .agg #[.int .u16 sp,.int .u16 dp,.int .u32 sq,.int .u32 ak,.int .u8 fl,.int .u16 wn,.int .u16 ur,.slice aV 0 cV,.slice am1 zm.length cm1]) (by simp[results,Tryz.results368,go_sem,P8]) rfl ⟨Below.trans LG.out (hb9.below LG.out.size (fun k h e=>by have e':k=gx+1:=e;omega)),aV,cV,_,rfl,hO,HG.out.asideF G1.out (by decide) hb9⟩
 ·cases hk
def zGv (fl ak:Int) (l:List Pa):Int:=if bits .and .u8 fl 16≠0 then zJd l ak else ak
theorem renum_in(base hb b0 b1 sb:Nat)(sp dp sq ak fl wn ur:Int)(aO:Option Addr)(cO:Nat)(sm:Value)(zm:List Int)(l0 l1:List Pa)(v0 v1:Value)(w:World)(hC:HfC w hb b0 b1)(h0:SL 479 base w b0 v0 l0)(h1:SL 479 base w b1 v1 l1)(hl0:l0.length≤1000)(hl1:l1.length≤1000)
  (hsg:w.heap[sb]? =some (.cells #[.int .u16 sp,.int .u16 dp,.int .u32 sq,.int .u32 ak,.int .u8 fl,.int .u16 wn,.int .u16 ur,.slice aO 0 cO,sm] 32 (0,0)))(hI:∀n W,RdO n W (.slice aO 0 cO) [])(hM:∀W,But (fun q=>q=sb) w W→Rd W.heap.size W sm zm)(hb0:b0≠sb)(hb1:b1≠sb)(hv0:∀q,v0.ownBlock=some q→q≠sb)(hv1:∀q,v1.ownBlock=some q→q≠sb)(hzm:zm.length≤140737488355328)(hsq:0≤sq∧sq≤4294967295)(hak:0≤ak∧ak≤4294967295):
  Calls Tryz.prog 359 #[.pointer (some ⟨hb,0,none⟩),.int .i64 0,.pointer (some ⟨sb,0,none⟩)] w fun e w'=>e= .returned (.tuple #[])∧∃vO vm,w'.heap[sb]? =some (.cells #[.int .u16 sp,.int .u16 dp,.int .u32 (zD0 l0 sq),.int .u32 (zGv fl ak l1),.int .u8 fl,.int .u16 wn,.int .u16 ur,vO,vm] 32 (0,0))∧But (fun q=>q=sb) w w'∧(∀n W,RdO n W vO [])∧Ow w.heap.size w' vm zm:=by
 obtain⟨am,cm,rfl,_,_⟩:=(hM w (But.refl _ _)).slice;have K0:=zAd hC;have G0:=zAd hsg;have S0':=zAd h0;have S1':=zAd h1;have HI:=zAd hI;have HM:=zAd hM;clear hC hsg h0 h1 hI hM;go_enter Tryz.func359,Tryz.ntmps359;go_upto_region 0 with fail;refine zAl (R:=Later) 8 rfl (by kernel_rfl) ?_;have ld:Later w w.drew:=Later.drew w;generalize w.drew=wa at*;have q0:∀v,Later wa v→∀j,v.cell? ⟨hb,j,none⟩=_:=fun v hv=>zAa (zAb (ld.trans hv) K0.out);refine tX Later.pre 0 ?_;refine tX Later.pre 1 ?_;refine tX Later.pre 3 ?_;refine tX Later.pre 4 ?_;refine tO 2 ?_;refine zAj 56 #[.int .i64 0] (by go_simp) ?_;refine(zM8 0 (by decide) wa).mono ?_;rintro e w1 ⟨rfl,hw1⟩;subst hw1;refine⟨Later.refl _,?_⟩;simp only[Act.put,sA,sB,sC];rw[show oppo 0=1 from rfl];refine tX Later.pre 5 ?_;refine tX Later.pre 6 ?_;refine tX Later.pre 7 ?_;clear q0;refine tD ?_;go_upto_region 1 with fail;refine zA5 (R1:=Later) (R2:=But (fun q=>q=sb)) (D:=[14]) 15 rfl (by kernel_rfl) ?_;have ld2:Later w1 w1.drew:=Later.drew w1;generalize w1.drew=wb at*;have LB:Later w wb:=ld.trans ld2;have q0:∀v,Later wb v→∀j,v.cell? ⟨hb,j,none⟩=_:=fun v hv=>zAa (zAb (LB.trans hv) K0.out);have q1:∀v,Later wb v→∀j,v.cell? ⟨sb,j,none⟩=_:=fun v hv=>zAa (zAb (LB.trans hv) G0.out);refine uX Later.pre 0 [12,13,14] ?_;refine uX Later.pre 1 [3,4,5,6,11,14] ?_;refine uX Later.pre 2 [5,6,11,14] ?_;refine uX Later.pre 3 [4,5,6,11,14] ?_;refine uX Later.pre 4 [5,6,11,14] ?_
 refine uX Later.pre 5 [6,11,14] ?_;refine uX Later.pre 6 [11,14] ?_;refine uX Later.pre 7 [8,9,10,11,14] ?_;refine uX Later.pre 8 [9,10,11,14] ?_;refine uX Later.pre 9 [10,11,14] ?_;refine uX Later.pre 10 [11,14] ?_;clear q0 q1;refine uO 11 ?_;refine zAj 365 #[.pointer (some ⟨b0,0,none⟩),.int .u32 sq] (by go_simp) ?_;refine(zPt base b0 v0 l0 sq hsq wb (S0'.out.later LB) hl0).mono ?_;rintro e wc ⟨rfl,lc⟩;refine⟨zA3 (by rfl) lc,?_⟩;simp only[Act.put,sA,sB,sC];refine uX Later.pre 12 [13,14] ?_;refine uX Later.pre 13 [14] ?_;have LC:Later w wc:=LB.trans lc;have GC:=zAd (zAb LC G0.out);have kg:=zAa GC.out;have fg:=zAc GC.out;refine uO 14 ?_;unfold Oper.wp;go_simp;have B1:But (fun q=>q=sb) wc (wc.setCell ⟨sb,2,none⟩ (.int .u32 (zD0 l0 sq))):=But.setCell (E:=fun q=>q=sb) (But.refl _ _) (p:=⟨sb,2,none⟩) rfl _;refine⟨zDx (by rfl) B1,?_⟩;clear kg fg;refine uD ?_;have G1:=zAd (zAh GC.out 2 (.int .u32 (zD0 l0 sq)));generalize wc.setCell ⟨sb,2,none⟩ _=wd at*;have kg:=zAa G1.out;have fg:=zAc G1.out;have HS1:=zAd ((S1'.out.later LC).but B1 (hb1) (hv1));by_cases hf:bits .and .u8 fl 16=0
 ·have t1:(bits .and .u8 fl 16 !=0)=false:=by simp[hf]
  have HA:Hid (zGv fl ak l1=ak):=by show _=_;unfold zGv;rw[if_neg (by simp[hf])]
  clear hf;go_wp2_with fail;have D0:But (fun q=>q=sb) w wd:=(But.of LC).trans B1;refine(zCg sp dp (zD0 l0 sq) ak fl wn ur aO cO (.slice am zm.length cm) wd HI.out).mono ?_;rintro e wf ⟨rfl,bf⟩;have lf:Later wd wf:=bf;have GF:=zAd (zAb lf G1.out);clear kg fg;go_wp2_with fail;go_loopw [8,51] (fun _ iv wr=>iv= .int .i64 0∧wr=wf) (fun _ _ _=>0)
  case atStart=>exact⟨rfl,rfl⟩
  case round=>
   obtain⟨rfl,hwr⟩:=hrel;obtain rfl:=hwr.symm;have kg:=zAa GF.out;go_wp2_with fail;refine(zAw sp dp (zD0 l0 sq) ak fl wn ur aO am none cO cm 0 zm _ HI.out (HM.out _ (D0.trans (But.of lf))) hzm).mono ?_;rintro e wg ⟨bg,aV,cV,vm,rfl,hO,hD⟩;obtain⟨aD,cD,rfl,_,_⟩:=hD.slice;have lg:Later wf wg:=bg;clear kg;have GG:=zAd (zAb lg GF.out);have kg:=zAa GG.out;have fg:=zAc GG.out;go_wp2_with fail;clear kg fg;generalize hV:World.setCell _ ⟨sb,8,none⟩ _=V;have hV9:V=zAi wg sb 0 [.int .u16 sp,.int .u16 dp,.int .u32 (zD0 l0 sq),.int .u32 ak,.int .u8 fl,.int .u16 wn,.int .u16 ur,.slice aV 0 cV,.slice aD zm.length cD]:=hV.symm;have hb8:But (fun q=>q=sb) wg V:=by rw[hV9];exact zAf (E:=fun q=>q=sb) (n:=sb) rfl _ _ _ _ (But.refl _ _)
   have p8:=zAe [.int .u16 sp,.int .u16 dp,.int .u32 (zD0 l0 sq),.int .u32 ak,.int .u8 fl,.int .u16 wn,.int .u16 ur,.slice aV 0 cV,.slice aD zm.length cD] GG.out rfl;rw[←hV9]at p8;clear hV hV9;have hsz:w.heap.size≤wf.heap.size:=Nat.le_trans D0.size lf.size;refine bodyPost_end (results_none rfl _ _ _) rfl ?_;refine⟨rfl,.slice aV 0 cV,.slice aD zm.length cD,?_,?_,?_,?_⟩
   ·rw[HA.out];exact p8
   ·exact (D0.trans (But.of (lf.trans lg))).trans hb8
   ·exact hO
   ·exact (hD.asideF GG.out (by decide) hb8).mono hsz
 ·have t1:(bits .and .u8 fl 16 !=0)=true:=by simp[hf]
  have HA:Hid (zGv fl ak l1=zJd l1 ak):=by show _=_;unfold zGv;rw[if_pos hf]
  clear hf;go_wp2_with fail;refine(zIc base b1 v1 l1 ak hak wd HS1.out hl1).mono ?_;rintro e we ⟨rfl,le⟩;have le':Later wd we:=le;have GE:=zAd (zAb le' G1.out);clear kg fg;have kg:=zAa GE.out;have fg:=zAc GE.out;have B2:But (fun q=>q=sb) we (we.setCell ⟨sb,3,none⟩ (.int .u32 (zJd l1 ak))):=But.setCell (E:=fun q=>q=sb) (But.refl _ _) (p:=⟨sb,3,none⟩) rfl _;have D1x0:=(((But.of LC).trans B1).trans (But.of le')).trans B2;have G2:=zAd (zAh GE.out 3 (.int .u32 (zJd l1 ak)));go_upto_region 4 with fail;generalize hwf1:we.setCell ⟨sb,3,none⟩ _=wf1 at*;have D1x:=D1x0;clear kg fg hwf1;have kg:=zAa G2.out;go_wp2_with fail;have D1:But (fun q=>q=sb) w wf1:=D1x;refine(zCg sp dp (zD0 l0 sq) (zJd l1 ak) fl wn ur aO cO (.slice am zm.length cm) wf1 HI.out).mono ?_;rintro e wf ⟨rfl,bf⟩;have lf:Later wf1 wf:=bf;have GF:=zAd (zAb lf G2.out);clear kg;go_wp2_with fail;go_loopw [8,51] (fun _ iv wr=>iv= .int .i64 0∧wr=wf) (fun _ _ _=>0)
  case atStart=>exact⟨rfl,rfl⟩
  case round=>
   obtain⟨rfl,hwr⟩:=hrel;obtain rfl:=hwr.symm;have kg:=zAa GF.out;go_wp2_with fail;refine(zAw sp dp (zD0 l0 sq) (zJd l1 ak) fl wn ur aO am none cO cm 0 zm _ HI.out (HM.out _ (D1.trans (But.of lf))) hzm).mono ?_;rintro e wg ⟨bg,aV,cV,vm,rfl,hO,hD⟩;obtain⟨aD,cD,rfl,_,_⟩:=hD.slice;have lg:Later wf wg:=bg;clear kg;have GG:=zAd (zAb lg GF.out);have kg:=zAa GG.out;have fg:=zAc GG.out;go_wp2_with fail;clear kg fg;generalize hV:World.setCell _ ⟨sb,8,none⟩ _=V;have hV9:V=zAi wg sb 0 [.int .u16 sp,.int .u16 dp,.int .u32 (zD0 l0 sq),.int .u32 (zJd l1 ak),.int .u8 fl,.int .u16 wn,.int .u16 ur,.slice aV 0 cV,.slice aD zm.length cD]:=hV.symm;have hb8:But (fun q=>q=sb) wg V:=by rw[hV9];exact zAf (E:=fun q=>q=sb) (n:=sb) rfl _ _ _ _ (But.refl _ _)
   have p8:=zAe [.int .u16 sp,.int .u16 dp,.int .u32 (zD0 l0 sq),.int .u32 (zJd l1 ak),.int .u8 fl,.int .u16 wn,.int .u16 ur,.slice aV 0 cV,.slice aD zm.length cD] GG.out rfl;rw[←hV9]at p8;clear hV hV9;have hsz:w.heap.size≤wf.heap.size:=Nat.le_trans D1.size lf.size;refine bodyPost_end (results_none rfl _ _ _) rfl ?_;refine⟨rfl,.slice aV 0 cV,.slice aD zm.length cD,?_,?_,?_,?_⟩
   ·rw[HA.out];exact p8
   ·exact (D1.trans (But.of (lf.trans lg))).trans hb8
   ·exact hO
   ·exact (hD.asideF GG.out (by decide) hb8).mono hsz
theorem zU1(base hb b0 b1 sb:Nat)(sp dp sq ak fl wn ur:Int)(aO:Option Addr)(cO:Nat)(sm:Value)(zm:List Int)(l0 l1:List Pa)(v0 v1:Value)(w:World)(hC:HfC w hb b0 b1)(h0:SL 479 base w b0 v0 l0)(h1:SL 479 base w b1 v1 l1)(hl0:l0.length≤1000)(hl1:l1.length≤1000)
  (hsg:w.heap[sb]? =some (.cells #[.int .u16 sp,.int .u16 dp,.int .u32 sq,.int .u32 ak,.int .u8 fl,.int .u16 wn,.int .u16 ur,.slice aO 0 cO,sm] 32 (0,0)))(hI:∀n W,RdO n W (.slice aO 0 cO) [])(hM:∀W,But (fun q=>q=sb) w W→Rd W.heap.size W sm zm)(hb0:b0≠sb)(hb1:b1≠sb)(hv0:∀q,v0.ownBlock=some q→q≠sb)(hv1:∀q,v1.ownBlock=some q→q≠sb)(hzm:zm.length≤140737488355328)(hsq:0≤sq∧sq≤4294967295)(hak:0≤ak∧ak≤4294967295):
  Calls Tryz.prog 359 #[.pointer (some ⟨hb,0,none⟩),.int .i64 1,.pointer (some ⟨sb,0,none⟩)] w fun e w'=>e= .returned (.tuple #[])∧∃vO vm,w'.heap[sb]? =some (.cells #[.int .u16 sp,.int .u16 dp,.int .u32 (zD0 l1 sq),.int .u32 (zGv fl ak l0),.int .u8 fl,.int .u16 wn,.int .u16 ur,vO,vm] 32 (0,0))∧But (fun q=>q=sb) w w'∧(∀n W,RdO n W vO [])∧Ow w.heap.size w' vm zm:=by
 obtain⟨am,cm,rfl,_,_⟩:=(hM w (But.refl _ _)).slice;have K0:=zAd hC;have G0:=zAd hsg;have S0':=zAd h0;have S1':=zAd h1;have HI:=zAd hI;have HM:=zAd hM;clear hC hsg h0 h1 hI hM;go_enter Tryz.func359,Tryz.ntmps359;go_upto_region 0 with fail;refine zAl (R:=Later) 8 rfl (by kernel_rfl) ?_;have ld:Later w w.drew:=Later.drew w;generalize w.drew=wa at*;have q0:∀v,Later wa v→∀j,v.cell? ⟨hb,j,none⟩=_:=fun v hv=>zAa (zAb (ld.trans hv) K0.out);refine tX Later.pre 0 ?_;refine tX Later.pre 1 ?_;refine tX Later.pre 3 ?_;refine tX Later.pre 4 ?_;refine tO 2 ?_;refine zAj 56 #[.int .i64 1] (by go_simp) ?_;refine(zM8 1 (by decide) wa).mono ?_;rintro e w1 ⟨rfl,hw1⟩;subst hw1;refine⟨Later.refl _,?_⟩;simp only[Act.put,sA,sB,sC];rw[show oppo 1=0 from rfl];refine tX Later.pre 5 ?_;refine tX Later.pre 6 ?_;refine tX Later.pre 7 ?_;clear q0;refine tD ?_;go_upto_region 1 with fail;refine zA5 (R1:=Later) (R2:=But (fun q=>q=sb)) (D:=[14]) 15 rfl (by kernel_rfl) ?_;have ld2:Later w1 w1.drew:=Later.drew w1;generalize w1.drew=wb at*;have LB:Later w wb:=ld.trans ld2;have q0:∀v,Later wb v→∀j,v.cell? ⟨hb,j,none⟩=_:=fun v hv=>zAa (zAb (LB.trans hv) K0.out);have q1:∀v,Later wb v→∀j,v.cell? ⟨sb,j,none⟩=_:=fun v hv=>zAa (zAb (LB.trans hv) G0.out);refine uX Later.pre 0 [12,13,14] ?_;refine uX Later.pre 1 [3,4,5,6,11,14] ?_;refine uX Later.pre 2 [5,6,11,14] ?_;refine uX Later.pre 3 [4,5,6,11,14] ?_;refine uX Later.pre 4 [5,6,11,14] ?_
 refine uX Later.pre 5 [6,11,14] ?_;refine uX Later.pre 6 [11,14] ?_;refine uX Later.pre 7 [8,9,10,11,14] ?_;refine uX Later.pre 8 [9,10,11,14] ?_;refine uX Later.pre 9 [10,11,14] ?_;refine uX Later.pre 10 [11,14] ?_;clear q0 q1;refine uO 11 ?_;refine zAj 365 #[.pointer (some ⟨b1,0,none⟩),.int .u32 sq] (by go_simp) ?_;refine(zPt base b1 v1 l1 sq hsq wb (S1'.out.later LB) hl1).mono ?_;rintro e wc ⟨rfl,lc⟩;refine⟨zA3 (by rfl) lc,?_⟩;simp only[Act.put,sA,sB,sC];refine uX Later.pre 12 [13,14] ?_;refine uX Later.pre 13 [14] ?_;have LC:Later w wc:=LB.trans lc;have GC:=zAd (zAb LC G0.out);have kg:=zAa GC.out;have fg:=zAc GC.out;refine uO 14 ?_;unfold Oper.wp;go_simp;have B1:But (fun q=>q=sb) wc (wc.setCell ⟨sb,2,none⟩ (.int .u32 (zD0 l1 sq))):=But.setCell (E:=fun q=>q=sb) (But.refl _ _) (p:=⟨sb,2,none⟩) rfl _;refine⟨zDx (by rfl) B1,?_⟩;clear kg fg;refine uD ?_;have G1:=zAd (zAh GC.out 2 (.int .u32 (zD0 l1 sq)));generalize wc.setCell ⟨sb,2,none⟩ _=wd at*;have kg:=zAa G1.out;have fg:=zAc G1.out;have HS1:=zAd ((S0'.out.later LC).but B1 (hb0) (hv0));by_cases hf:bits .and .u8 fl 16=0
 ·have t1:(bits .and .u8 fl 16 !=0)=false:=by simp[hf]
  have HA:Hid (zGv fl ak l0=ak):=by show _=_;unfold zGv;rw[if_neg (by simp[hf])]
  clear hf;go_wp2_with fail;have D0:But (fun q=>q=sb) w wd:=(But.of LC).trans B1;refine(zCg sp dp (zD0 l1 sq) ak fl wn ur aO cO (.slice am zm.length cm) wd HI.out).mono ?_;rintro e wf ⟨rfl,bf⟩;have lf:Later wd wf:=bf;have GF:=zAd (zAb lf G1.out);clear kg fg;go_wp2_with fail;go_loopw [8,51] (fun _ iv wr=>iv= .int .i64 0∧wr=wf) (fun _ _ _=>0)
  case atStart=>exact⟨rfl,rfl⟩
  case round=>
   obtain⟨rfl,hwr⟩:=hrel;obtain rfl:=hwr.symm;have kg:=zAa GF.out;go_wp2_with fail;refine(zAw sp dp (zD0 l1 sq) ak fl wn ur aO am none cO cm 0 zm _ HI.out (HM.out _ (D0.trans (But.of lf))) hzm).mono ?_;rintro e wg ⟨bg,aV,cV,vm,rfl,hO,hD⟩;obtain⟨aD,cD,rfl,_,_⟩:=hD.slice;have lg:Later wf wg:=bg;clear kg;have GG:=zAd (zAb lg GF.out);have kg:=zAa GG.out;have fg:=zAc GG.out;go_wp2_with fail;clear kg fg;generalize hV:World.setCell _ ⟨sb,8,none⟩ _=V;have hV9:V=zAi wg sb 0 [.int .u16 sp,.int .u16 dp,.int .u32 (zD0 l1 sq),.int .u32 ak,.int .u8 fl,.int .u16 wn,.int .u16 ur,.slice aV 0 cV,.slice aD zm.length cD]:=hV.symm;have hb8:But (fun q=>q=sb) wg V:=by rw[hV9];exact zAf (E:=fun q=>q=sb) (n:=sb) rfl _ _ _ _ (But.refl _ _)
   have p8:=zAe [.int .u16 sp,.int .u16 dp,.int .u32 (zD0 l1 sq),.int .u32 ak,.int .u8 fl,.int .u16 wn,.int .u16 ur,.slice aV 0 cV,.slice aD zm.length cD] GG.out rfl;rw[←hV9]at p8;clear hV hV9;have hsz:w.heap.size≤wf.heap.size:=Nat.le_trans D0.size lf.size;refine bodyPost_end (results_none rfl _ _ _) rfl ?_;refine⟨rfl,.slice aV 0 cV,.slice aD zm.length cD,?_,?_,?_,?_⟩
   ·rw[HA.out];exact p8
   ·exact (D0.trans (But.of (lf.trans lg))).trans hb8
   ·exact hO
   ·exact (hD.asideF GG.out (by decide) hb8).mono hsz
 ·have t1:(bits .and .u8 fl 16 !=0)=true:=by simp[hf]
  have HA:Hid (zGv fl ak l0=zJd l0 ak):=by show _=_;unfold zGv;rw[if_pos hf]
  clear hf;go_wp2_with fail;refine(zIc base b0 v0 l0 ak hak wd HS1.out hl0).mono ?_;rintro e we ⟨rfl,le⟩;have le':Later wd we:=le;have GE:=zAd (zAb le' G1.out);clear kg fg;have kg:=zAa GE.out;have fg:=zAc GE.out;have B2:But (fun q=>q=sb) we (we.setCell ⟨sb,3,none⟩ (.int .u32 (zJd l0 ak))):=But.setCell (E:=fun q=>q=sb) (But.refl _ _) (p:=⟨sb,3,none⟩) rfl _;have D1x0:=(((But.of LC).trans B1).trans (But.of le')).trans B2;have G2:=zAd (zAh GE.out 3 (.int .u32 (zJd l0 ak)));go_upto_region 4 with fail;generalize hwf1:we.setCell ⟨sb,3,none⟩ _=wf1 at*;have D1x:=D1x0;clear kg fg hwf1;have kg:=zAa G2.out;go_wp2_with fail;have D1:But (fun q=>q=sb) w wf1:=D1x;refine(zCg sp dp (zD0 l1 sq) (zJd l0 ak) fl wn ur aO cO (.slice am zm.length cm) wf1 HI.out).mono ?_;rintro e wf ⟨rfl,bf⟩;have lf:Later wf1 wf:=bf;have GF:=zAd (zAb lf G2.out);clear kg;go_wp2_with fail;go_loopw [8,51] (fun _ iv wr=>iv= .int .i64 0∧wr=wf) (fun _ _ _=>0)
  case atStart=>exact⟨rfl,rfl⟩
  case round=>
   obtain⟨rfl,hwr⟩:=hrel;obtain rfl:=hwr.symm;have kg:=zAa GF.out;go_wp2_with fail;refine(zAw sp dp (zD0 l1 sq) (zJd l0 ak) fl wn ur aO am none cO cm 0 zm _ HI.out (HM.out _ (D1.trans (But.of lf))) hzm).mono ?_;rintro e wg ⟨bg,aV,cV,vm,rfl,hO,hD⟩;obtain⟨aD,cD,rfl,_,_⟩:=hD.slice;have lg:Later wf wg:=bg;clear kg;have GG:=zAd (zAb lg GF.out);have kg:=zAa GG.out;have fg:=zAc GG.out;go_wp2_with fail;clear kg fg;generalize hV:World.setCell _ ⟨sb,8,none⟩ _=V;have hV9:V=zAi wg sb 0 [.int .u16 sp,.int .u16 dp,.int .u32 (zD0 l1 sq),.int .u32 (zJd l0 ak),.int .u8 fl,.int .u16 wn,.int .u16 ur,.slice aV 0 cV,.slice aD zm.length cD]:=hV.symm;have hb8:But (fun q=>q=sb) wg V:=by rw[hV9];exact zAf (E:=fun q=>q=sb) (n:=sb) rfl _ _ _ _ (But.refl _ _)
   have p8:=zAe [.int .u16 sp,.int .u16 dp,.int .u32 (zD0 l1 sq),.int .u32 (zJd l0 ak),.int .u8 fl,.int .u16 wn,.int .u16 ur,.slice aV 0 cV,.slice aD zm.length cD] GG.out rfl;rw[←hV9]at p8;clear hV hV9;have hsz:w.heap.size≤wf.heap.size:=Nat.le_trans D1.size lf.size;refine bodyPost_end (results_none rfl _ _ _) rfl ?_;refine⟨rfl,.slice aV 0 cV,.slice aD zm.length cD,?_,?_,?_,?_⟩
   ·rw[HA.out];exact p8
   ·exact (D1.trans (But.of (lf.trans lg))).trans hb8
   ·exact hO
   ·exact (hD.asideF GG.out (by decide) hb8).mono hsz
end Go.Proofs.YteaeilghamjjkaaGreatDoor
