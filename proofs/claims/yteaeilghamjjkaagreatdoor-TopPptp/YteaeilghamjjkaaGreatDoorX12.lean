import Derived.Test.YteaeilghamjjkaaGreatDoorX13
import Derived.Laws.IdiomRangeMap
import Derived.Maps.RangeRun
import Derived.Laws.Bits64b
import Derived.Laws.BitsAllLaws
import Derived.Lib.TrailingZeros
import Derived.Deep.DeepCutAuto
import Derived.Deep.CutBlock
namespace Go.Proofs.YteaeilghamjjkaaGreatDoor
open Go.RowKit Go.Shelf
set_option maxRecDepth 100000
set_option linter.unusedVariables false
set_option linter.unusedSimpArgs false
def RuE (W:World) (E:Nat→Prop):Prop:=∀b,E b→∃cur t f,W.heap[b]? =some (.cells cur t f)∧(t=285∨t=125)
theorem RuE.keep {W W':World} {E:Nat→Prop} (hE:RuE W E)(hb:But E W W') {b:Nat} {o:Obj} (h:W.heap[b]? =some o)(ho:∀cur t f,o= .cells cur t f→t≠285∧t≠125):W'.heap[b]? =some o:=
 (hb.block b (eS h) (fun e=>by
  obtain⟨cur,t,f,h1,h2⟩:=hE b e;rw[h]at h1;have:=ho cur t f (Option.some.inj h1);rcases h2 with h2|h2
  ·exact this.1 h2
  ·exact this.2 h2)).trans h
theorem RuE.own {W W':World} {E:Nat→Prop} (hE:RuE W E)(hb:But E W W') {base:Nat} {e:TypeId} {size:Nat} {v:Value} {n:Nat} {xs:List Value} (h:W.ownsRow base e size v n xs)(h1:e≠285)(h2:e≠125):W'.ownsRow base e size v n xs:=by
 obtain⟨q1,q2|⟨b,cap,cur',e',hb',hh,r⟩⟩:=h
 ·exact ⟨q1,.inl q2⟩
 ·exact ⟨q1,.inr ⟨b,cap,cur',e',hb',hE.keep hb hh (fun c t f e=>by cases e;exact⟨h1,h2⟩),r⟩⟩
theorem GI.rules {base g:Nat} {W W':World} {s:Gs} (h:GI base W g s) {E:Nat→Prop} (hE:RuE W E)(hb:But E W W') {v:Value} {l:List Ru} (hl:RL 285 base W' s.gr v l):GI base W' g { s with vr:=v,ls:=l } :=by
 obtain⟨vs,q1,q2,q3,q4,q5⟩:=h.tb;exact⟨h.bs,hE.keep hb h.gc (fun c t f e=>by cases e;exact⟨by decide,by decide⟩),hl,⟨vs,q1,q2,hE.keep hb q3 (fun c t f e=>by cases e;exact⟨by decide,by decide⟩),fun i hi=>hE.own hb (q4 i hi) (by decide) (by decide),q5⟩,⟨h.bl.1,hE.keep hb h.bl.2.1 (fun c t f e=>by cases e;exact⟨by decide,by decide⟩),hE.own hb h.bl.2.2 (by decide) (by decide)⟩,hE.keep hb h.fl (fun c t f e=>by cases e),hE.keep hb h.pl (fun c t f e=>by cases e)⟩
theorem RL.ruE {base:Nat} {W:World} {b:Nat} {v:Value} {l:List Ru} (h:RL 285 base W b v l):RuE W (fun g=>g=b∨v.ownBlock=some g):=fun g hg=>by
 rcases hg with rfl|hg
 ·exact ⟨_,_,_,h.2.1,.inl rfl⟩
 ·obtain ⟨_,⟨rfl,_⟩|⟨g',cap,cur,rfl,_,hh,_⟩⟩:=h.2.2
  ·cases hg
  ·cases hg
   exact⟨_,_,_,hh,.inr rfl⟩
def mqR:Ru:=⟨1,0,167772160,8,16909060,0,0,0⟩
theorem mq_wf:wfR mqR:=by unfold wfR mqR;simp
theorem mq_ok:adE [] mqR=0:=by decide+kernel
theorem mq_list:adL [] mqR=[mqR]:=by rw[zPj mq_ok];rfl
def encK (x:Int):Array Value:=#[.int .i64 x]
theorem keys_any(gf:Nat)(w:World):Calls Tryz.prog 83 #[.map (some gf)] w fun e w'=>e= .returned (.func (.func 143) #[] #[.pointer (some ⟨w.heap.size,0,none⟩)])∧w'=w.alloc (.cells #[.map (some gf)] 86):=by
 have hmf:∀(fn:Fn) (first cap:Array Value) (w:World),(Instr.makeFunc fn first cap).run Tryz.prog w= .ok (.func fn first cap) w:=fun _ _ _ _=>rfl;go_enter Tryz.func83,Tryz.ntmps83;go_wp2_with fail;go_ret
 exact⟨rfl,rfl⟩
open Go.RowKit Go.Shelf Go.ChangeMaps
theorem zK7 {B:World} {r:Nat} {o o':Obj} (h:B.heap[r]? =some o):(setBlock B r o').heap[r]? =some o':=by
 have:=(eS h);show(B.heap.setIfInBounds r o')[r]? =_
 simp[this]
def KWk (n₀:Nat) (A B:World):Prop:=Below n₀ A B∧∀(k:Nat) (o:Obj),A.heap[k]? =some o→o.isWalk=true→B.heap[k]? =some o
theorem KWk.trans {n:Nat} {a b c:World} (h:KWk n a b)(k:KWk n b c):KWk n a c:=⟨h.1.trans k.1,fun i o h1 h2=>k.2 i o (h.2 i o h1 h2) h2⟩
theorem KWk.of {n:Nat} {a b:World} (h:Later a b)(hn:n≤a.heap.size):KWk n a b:=⟨h.mono hn,fun i o h1 _=>zAb h h1⟩
theorem KWk.put {n:Nat} {W:World} {l:Nat} {o o':Obj} (hl:n≤l)(h:W.heap[l]? =some o)(hc:o.isCells=false)(hw:o.isWalk=false):KWk n W (W.putObj l o'):=⟨(belowK_b (n₀:=n) (w:= { W with heap:=W.heap.take n }) (by have:=(eS h);simp;omega) W l o o' (by simp;omega) h hc hw),fun k ob h1 h2=>by
 by_cases e:k=l
 ·subst e
  rw[h]at h1;cases h1
  rw[hw]at h2;cases h2
 ·exact (World.putObj_heap_other e).trans h1⟩
theorem zIn(sv:Value)(w:World):Calls Tryz.prog 256 #[sv,.int .i64 0,.int .i64 0] w fun e w'=>(∃v,e= .returned v)∧w'=w:=by
 go_enter Tryz.func256,Tryz.ntmps256;go_wp2_with fail;go_loopw [6] (fun i wr=>i= .int .i64 1∧wr=w) (fun _ _=>0)
 case atStart=>exact⟨rfl,rfl⟩
 case round=>
  obtain⟨rfl,rfl⟩:=hrel;go_wp2_with fail;go_end0
  exact⟨⟨_,rfl⟩,rfl⟩
set_option maxHeartbeats 2000000 in
theorem zP9(sv:Value)(lm:Int)(w:World):Calls Tryz.prog 192 #[sv,.int .i64 0,.int .i64 0,.int .i64 lm] w fun e w'=>(∃v,e= .returned v)∧w'=w:=by
 go_enter Tryz.func192,Tryz.ntmps192;go_wp2_with fail;go_loopw [1,2] (fun a b wr=>a= .int .i64 0∧b= .int .i64 0∧wr=w) (fun _ _ _=>0)
 case atStart=>exact⟨rfl,rfl,rfl⟩
 case round=>
  obtain⟨rfl,rfl,rfl⟩:=hrel;go_wp2_with fail;refine(zIn sv wr).mono ?_;rintro e w1 ⟨⟨v,rfl⟩,rfl⟩;go_wp2_with fail;refine bodyPost_ret (results_none rfl _ _ _) rfl ?_;exact⟨⟨_,rfl⟩,rfl⟩
theorem zIo(e:Bool)(p a:Int)(w:World):(Instr.checkKey e 10000 119 (.agg #[.int .u8 p,.int .u32 a])).run Tryz.prog w= .ok () w:=by kernel_rfl
theorem look_src {w:World} {b c:Nat} (hb:w.heap[b]? =some (.map #[] c))(p a:Int):(Instr.lookup 89 (.map (some b)) (.agg #[.int .u8 p,.int .u32 a]) false).run Tryz.prog w= .ok (.pointer none) w:=by
 have hf:(Instr.findKey 119 (.agg #[.int .u8 p,.int .u32 a]) []).run Tryz.prog w= .ok none w:=MapKept.run_findKey Tryz.underlying119 rfl;simp[Instr.lookup,run_underlying Tryz.underlying89,MapKept.run_getObj_map hb,zIo,hf,Result.andThen]
end Go.Proofs.YteaeilghamjjkaaGreatDoor
namespace Go.Proofs.YteaeilghamjjkaaGreatDoor.Pm
set_option maxRecDepth 100000
end Go.Proofs.YteaeilghamjjkaaGreatDoor.Pm
namespace Go.Proofs.YteaeilghamjjkaaGreatDoor
open Go.RowKit Go.Shelf
set_option maxRecDepth 100000
set_option linter.unusedVariables false
set_option linter.unusedSimpArgs false
theorem zDx(n:Nat):2^(n % 64)<18446744073709551616:=by
 have:2^(n % 64)<2^64:=Nat.pow_lt_pow_right (by omega) (Nat.mod_lt _ (by omega));simpa using this
theorem wrapN(x:Nat)(h:x<18446744073709551616):IntKind.u64.wrap (x:Int)=(x:Int):=by rw[IntKind.wrap_u64];omega
set_option maxHeartbeats 1000000 in
theorem zK8(n:Nat)(w:World)(hn:n<65536):Calls Tryz.prog 193 #[.int .u16 (n:Int)] w fun e w'=>e= .returned (.int .u64 ((2^(n % 64):Nat):Int))∧w'=w:=by
 have hp:=wrapN (2^(n % 64)) (zDx n);have HP:=zAc hp;clear hp;go_enter Tryz.func193,Tryz.ntmps193;go_wp2_with fail;go_ret
 refine⟨?_,rfl⟩;rw[←HP.out];simp
def pcl (low high:Int) (ws:Nat→Nat):List Value:= .int .u16 low:: .int .u16 high::(List.range 1024).map (fun i=> .int .u64 (ws i:Int))
def PB (base:Nat) (W:World) (b:Nat) (low high:Int) (ws:Nat→Nat):Prop:=base≤b∧(∀i,ws i<18446744073709551616)∧W.heap[b]? =some (.cells (pcl low high ws).toArray 282 (0,0))
theorem PB.later {base:Nat} {A B:World} {b:Nat} {low high:Int} {ws:Nat→Nat} (h:PB base A b low high ws)(l:Later A B):PB base B b low high ws:=⟨h.1,h.2.1,zAb l h.2.2⟩
theorem PB.lt {base:Nat} {W:World} {b:Nat} {low high:Int} {ws:Nat→Nat} (h:PB base W b low high ws):b<W.heap.size:=(eS h.2.2)
theorem PB.word {base:Nat} {W:World} {b:Nat} {low high:Int} {ws:Nat→Nat} (h:PB base W b low high ws)(i:Nat)(hi:i<1024):W.cell? ⟨b,2+i,none⟩=some (.int .u64 (ws i:Int)):=by
 rw[zAa h.2.2,List.getElem?_toArray];unfold pcl;rw[show 2+i=i+1+1 from by omega,List.getElem?_cons_succ,List.getElem?_cons_succ,List.getElem?_map,List.getElem?_range hi];rfl
theorem PB.low {base:Nat} {W:World} {b:Nat} {low high:Int} {ws:Nat→Nat} (h:PB base W b low high ws):W.cell? ⟨b,0,none⟩=some (.int .u16 low):=by
 rw[zAa h.2.2];rfl
theorem PB.high {base:Nat} {W:World} {b:Nat} {low high:Int} {ws:Nat→Nat} (h:PB base W b low high ws):W.cell? ⟨b,1,none⟩=some (.int .u16 high):=by
 rw[zAa h.2.2];rfl
def upd (ws:Nat→Nat) (i x:Nat):Nat→Nat:=fun j=>if j=i then x else ws j
theorem zQa(low high:Int)(ws:Nat→Nat)(i x:Nat)(hi:i<1024):(pcl low high ws).toArray.setIfInBounds (2+i) (.int .u64 (x:Int))=(pcl low high (upd ws i x)).toArray:=by
 rw[List.setIfInBounds_toArray];congr 1
 unfold pcl;rw[show 2+i=i+1+1 from by omega,List.set_cons_succ,List.set_cons_succ];congr 2
 apply List.ext_getElem?
 intro j
 rw[List.getElem?_set,List.getElem?_map,List.getElem?_map];unfold upd;by_cases hj:i=j
 ·subst hj
  rw[if_pos rfl,List.getElem?_range hi];simp[hi]
 ·rw[if_neg hj]
  by_cases hl:j<1024
  ·rw[List.getElem?_range hl]
   simp[Ne.symm hj]
  ·rw[List.getElem?_eq_none (by simp;omega)]
   rfl
def fr (ws:Nat→Nat) (n:Nat):Bool:=(ws (n/64)).testBit (n % 64)
theorem and_pow(x i:Nat):(x &&& 2^i≠0)↔x.testBit i=true:=by
 constructor
 ·intro h
  cases hb:x.testBit i with
  |true=>rfl
  | false=>
   refine absurd (Nat.eq_of_testBit_eq fun j=> ?_) h;rw[Nat.testBit_and,Nat.testBit_two_pow,Nat.zero_testBit];by_cases hj:i=j
   ·subst hj
    rw[hb];rfl
   ·simp[hj]
 ·intro h e
  have:=congrArg (fun y=>Nat.testBit y i) e;simp[Nat.testBit_and,Nat.testBit_two_pow,h]at this
theorem zQb(n:Nat)(hn:n<65536):IntKind.u16.wrap ((n:Int)/64)=((n/64:Nat):Int):=by
 have:IntKind.u16.wrap ((n:Int)/64)=((n:Int)/64) % 65536:=by simp[IntKind.wrap,IntKind.signed,IntKind.bits]
 rw[this];omega
set_option maxHeartbeats 2000000 in
theorem zQc(base b:Nat)(low high:Int)(ws:Nat→Nat)(n:Nat)(w:World)(hT:PB base w b low high ws)(hn:n<65536):
  Calls Tryz.prog 145 #[.pointer (some ⟨b,2,none⟩),.int .u16 (n:Int)] w fun e w'=>e= .returned (.bool (fr ws n))∧Later w w':=by
 have HW:=zAc (zQb n hn);have hq2:n/64<1024:=by omega
 have hq3:((n/64:Nat):Int)<1024:=by omega
 have hlt:=zDx n;have hwl:=hT.2.1 (n/64);have HAN:=zAc (bits_and_u64_nat (ws (n/64)) (2^(n % 64)) hwl hlt)
 have HFR:Hid (fr ws n=decide (¬((ws (n/64) &&& 2^(n % 64):Nat):Int)=0)):=by
  show _=_
  rw[Bool.eq_iff_iff,decide_eq_true_iff];unfold fr;rw[←and_pow];omega
 have HB:=zAc (fun W=>zK8 n W hn);have HQ:=zAc (fun v1 (h:Later w v1)=>(hT.later h).word (n/64) hq2);clear hlt hwl hq2;generalize n/64=i at*;generalize 2^(n % 64)=c at*;have hi0:(0:Int)≤(i:Int):=by omega
 have hi1:(i:Int)<1024:=by omega
 clear hq3;go_enter Tryz.func145,Tryz.ntmps145;go_upto_region 1 with fail;refine zAn (R:=Later) Later.pre Later.drew 12 rfl (by kernel_rfl) (fun V1 hV1=> ?_);have q1:∀v1,Later V1 v1→v1.cell? ⟨b,2+i,none⟩=some (.int .u64 (ws i:Int)):=fun v1 h=>HQ.out v1 (hV1.trans h);refine rX Later.pre 0 ?_;refine rX Later.pre 1 ?_;refine rX Later.pre 2 ?_;rw[HW.out];refine rX Later.pre 3 ?_;refine rX Later.pre 4 ?_;refine rX Later.pre 5 ?_;refine rX Later.pre 6 ?_;refine rX Later.pre 7 ?_;clear q1;refine zAr Later.pre 8 (.int .u64 (c:Int)) rfl (by kernel_rfl) (by kernel_rfl) (by kernel_rfl) (fun _ _ _ h=>h) rfl (fun w1 hw1=>zAo 193 #[.int .u16 (n:Int)] (by go_simp) ((HB.out w1).mono fun e w2 h=>⟨h.1,by rw[h.2];exact Later.refl _⟩)) ?_;simp only[Act.put,sA,sB,sC];refine rX Later.pre 9 ?_;rw[HAN.out];generalize ws i &&& c=z at*;refine rX Later.pre 10 ?_;refine rX Later.pre 11 ?_;refine rD (fun V2 hV2=> ?_);have L2:=hV1.trans hV2;go_wp2_with fail;go_ret
 refine⟨?_,L2⟩;rw[HFR.out];by_cases hz:z=0<;>simp[hz]
theorem add_lt {x c:Nat} (hx:x<18446744073709551616)(hc:c<18446744073709551616):x|||c<18446744073709551616:=by
 have:=Nat.or_lt_two_pow (n:=64) (x:=x) (y:=c) (by omega) (by omega);simpa using this
theorem zQd {x c:Nat} (hx:x<18446744073709551616)(hc:c<18446744073709551616):x &&& (18446744073709551615-c)<18446744073709551616:=Nat.lt_of_le_of_lt Nat.and_le_left hx
set_option maxHeartbeats 2000000 in
theorem zQe(base b:Nat)(low high:Int)(ws:Nat→Nat)(n:Nat)(w:World)(hT:PB base w b low high ws)(hn:n<65536):
  Calls Tryz.prog 222 #[.pointer (some ⟨b,2,none⟩),.int .u16 (n:Int)] w fun e w'=>(∃v,e= .returned v)∧PB base w' b low high (upd ws (n/64) (ws (n/64)|||2^(n % 64)))∧But (fun g=>g=b) w w':=by
 have HW:=zAc (zQb n hn);have hq2:n/64<1024:=by omega
 have hq3:((n/64:Nat):Int)<1024:=by omega
 have hlt:=zDx n;have hwl:=hT.2.1 (n/64);have HAN:=zAc (bits_or_u64_nat (ws (n/64)) (2^(n % 64)) hwl hlt);have HLT:Hid (ws (n/64)|||2^(n % 64)<18446744073709551616):=add_lt hwl hlt;have HB:=zAc (fun W=>zK8 n W hn);have HQ:=zAc (fun v1 (h:PB base v1 b low high ws)=>h.word (n/64) hq2);have HST:=zAc (fun x:Nat=>zQa low high ws (n/64) x hq2);clear hlt hwl hq2;generalize n/64=i at*;generalize 2^(n % 64)=c at*;have hi0:(0:Int)≤(i:Int):=by omega
 have hi1:(i:Int)<1024:=by omega
 clear hq3;go_enter Tryz.func222,Tryz.ntmps222;refine zA6 (R1:=Later) (R2:=But (fun g=>g=b)) (D:=[13]) 14 rfl (by kernel_rfl) ?_;have ld:Later w w.drew:=Later.drew w;have hTd:=hT.later ld;generalize w.drew=Wd at*;have q1:∀v1,Later Wd v1→v1.cell? ⟨b,2+i,none⟩=some (.int .u64 (ws i:Int)):=fun v1 h=>HQ.out v1 (hTd.later h);refine pX Later.refl (But.refl _) 0 ?_;refine pX Later.refl (But.refl _) 1 ?_;refine pX Later.refl (But.refl _) 2 ?_;rw[HW.out];refine pX Later.refl (But.refl _) 3 ?_;refine pX Later.refl (But.refl _) 4 ?_;refine pX Later.refl (But.refl _) 5 ?_;refine uX Later.pre 6 [9,13] ?_;refine pX Later.refl (But.refl _) 7 ?_;refine pX Later.refl (But.refl _) 10 ?_;refine pX Later.refl (But.refl _) 11 ?_;clear q1;refine uO 8 ?_;refine zAi 193 #[.int .u16 (n:Int)] (by go_simp) ?_;refine(HB.out Wd).mono ?_;rintro e W1 ⟨rfl,rfl⟩;refine⟨zBr (by rfl) (Later.refl _),?_⟩;simp only[Act.put,sA,sB,sC];refine pX Later.refl (But.refl _) 9 ?_;rw[HAN.out];refine pX Later.refl (But.refl _) 12 ?_
 have hfin:PB base (W1.setCell ⟨b,2+i,none⟩ (.int .u64 ((ws i|||c:Nat):Int))) b low high (upd ws i (ws i|||c)):=by
  refine⟨hTd.1,fun j=> ?_,?_⟩
  ·unfold upd
   split
   ·exact HLT.out
   ·exact hTd.2.1 j
  ·rw[←HST.out]
   exact zAh hTd.2.2 (2+i) _
 have hbS:But (fun g=>g=b) W1 (W1.setCell ⟨b,2+i,none⟩ (.int .u64 ((ws i|||c:Nat):Int))):=(But.refl (fun g=>g=b) _).setCell (p:=⟨b,2+i,none⟩) rfl _;have F1:=zAd hTd.2.2;have k1:=HQ.out W1 hTd;have HF:=zAc hfin;have HBS:=zAc hbS;clear hfin hbS;generalize hzz:ws i|||c=z at*
 refine uO 13 ?_;unfold Oper.wp;go_simp;refine⟨zEf (by rfl) HBS.out,?_⟩;refine uD ?_;generalize hV:World.setCell _ _ _=V at*;go_end0
 exact⟨⟨_,rfl⟩,HF.out,(But.of ld).trans HBS.out⟩
set_option maxHeartbeats 2000000 in
theorem zN6(base b:Nat)(low high:Int)(ws:Nat→Nat)(n:Nat)(w:World)(hT:PB base w b low high ws)(hn:n<65536):
  Calls Tryz.prog 328 #[.pointer (some ⟨b,2,none⟩),.int .u16 (n:Int)] w fun e w'=>(∃v,e= .returned v)∧PB base w' b low high (upd ws (n/64) (ws (n/64) &&& (18446744073709551615-2^(n % 64))))∧But (fun g=>g=b) w w':=by
 have HW:=zAc (zQb n hn);have hq2:n/64<1024:=by omega
 have hq3:((n/64:Nat):Int)<1024:=by omega
 have hlt:=zDx n;have hwl:=hT.2.1 (n/64);have HAN:=zAc (u64_andNot_nat (ws (n/64)) (2^(n % 64)) hwl hlt);have HLT:Hid (ws (n/64) &&& (18446744073709551615-2^(n % 64))<18446744073709551616):=zQd hwl hlt;have HB:=zAc (fun W=>zK8 n W hn);have HQ:=zAc (fun v1 (h:PB base v1 b low high ws)=>h.word (n/64) hq2);have HST:=zAc (fun x:Nat=>zQa low high ws (n/64) x hq2);clear hlt hwl hq2;generalize n/64=i at*;generalize 2^(n % 64)=c at*;have hi0:(0:Int)≤(i:Int):=by omega
 have hi1:(i:Int)<1024:=by omega
 clear hq3;go_enter Tryz.func328,Tryz.ntmps328;refine zA6 (R1:=Later) (R2:=But (fun g=>g=b)) (D:=[13]) 14 rfl (by kernel_rfl) ?_;have ld:Later w w.drew:=Later.drew w;have hTd:=hT.later ld;generalize w.drew=Wd at*;have q1:∀v1,Later Wd v1→v1.cell? ⟨b,2+i,none⟩=some (.int .u64 (ws i:Int)):=fun v1 h=>HQ.out v1 (hTd.later h);refine pX Later.refl (But.refl _) 0 ?_;refine pX Later.refl (But.refl _) 1 ?_;refine pX Later.refl (But.refl _) 2 ?_;rw[HW.out];refine pX Later.refl (But.refl _) 3 ?_;refine pX Later.refl (But.refl _) 4 ?_;refine pX Later.refl (But.refl _) 5 ?_;refine uX Later.pre 6 [9,13] ?_;refine pX Later.refl (But.refl _) 7 ?_;refine pX Later.refl (But.refl _) 10 ?_;refine pX Later.refl (But.refl _) 11 ?_;clear q1;refine uO 8 ?_;refine zAi 193 #[.int .u16 (n:Int)] (by go_simp) ?_;refine(HB.out Wd).mono ?_;rintro e W1 ⟨rfl,rfl⟩;refine⟨zBr (by rfl) (Later.refl _),?_⟩;simp only[Act.put,sA,sB,sC];refine pX Later.refl (But.refl _) 9 ?_;rw[HAN.out];refine pX Later.refl (But.refl _) 12 ?_
 have hfin:PB base (W1.setCell ⟨b,2+i,none⟩ (.int .u64 ((ws i &&& (18446744073709551615-c):Nat):Int))) b low high (upd ws i (ws i &&& (18446744073709551615-c))):=by
  refine⟨hTd.1,fun j=> ?_,?_⟩
  ·unfold upd
   split
   ·exact HLT.out
   ·exact hTd.2.1 j
  ·rw[←HST.out]
   exact zAh hTd.2.2 (2+i) _
 have hbS:But (fun g=>g=b) W1 (W1.setCell ⟨b,2+i,none⟩ (.int .u64 ((ws i &&& (18446744073709551615-c):Nat):Int))):=(But.refl (fun g=>g=b) _).setCell (p:=⟨b,2+i,none⟩) rfl _;have F1:=zAd hTd.2.2;have k1:=HQ.out W1 hTd;have HF:=zAc hfin;have HBS:=zAc hbS;clear hfin hbS;generalize hzz:ws i &&& (18446744073709551615-c)=z at*;refine uO 13 ?_;unfold Oper.wp;go_simp;refine⟨zEf (by rfl) HBS.out,?_⟩;refine uD ?_;generalize hV:World.setCell _ _ _=V at*;go_end0
 exact⟨⟨_,rfl⟩,HF.out,(But.of ld).trans HBS.out⟩
theorem zGi {m n:Nat} (h1:m/64=n/64)(h2:m % 64=n % 64):m=n:=by omega
theorem fr_add(ws:Nat→Nat)(n m:Nat):fr (upd ws (n/64) (ws (n/64)|||2^(n % 64))) m=(fr ws m||decide (m=n)):=by
 unfold fr upd;by_cases h:m/64=n/64
 ·rw[if_pos h,Nat.testBit_or,Nat.testBit_two_pow,h]
  congr 1
  rw[decide_eq_decide];constructor
  ·intro e;exact zGi h e.symm
  ·intro e;rw[e]
 ·rw[if_neg h]
  have:¬m=n:=fun e=>h (by rw[e]);simp[this]
theorem zQf(ws:Nat→Nat)(n m:Nat):fr (upd ws (n/64) (ws (n/64) &&& (18446744073709551615-2^(n % 64)))) m=(fr ws m && !decide (m=n)):=by
 unfold fr upd;by_cases h:m/64=n/64
 ·rw[if_pos h,Nat.testBit_and,h]
  have hp:=zDx n;have e:=Nat.testBit_two_pow_sub_succ (n:=64) (x:=2^(n % 64)) (by simpa using hp) (m % 64);rw[show (2:Nat)^64-(2^(n % 64)+1)=18446744073709551615-2^(n % 64)from by omega]at e;rw[e,Nat.testBit_two_pow];have hm:m % 64<64:=Nat.mod_lt _ (by omega)
  have:decide (n % 64=m % 64)=decide (m=n):=by
   rw[decide_eq_decide];constructor
   ·intro e;exact zGi h e.symm
   ·intro e;rw[e]
  rw[this];simp[hm]
 ·rw[if_neg h]
  have:¬m=n:=fun e=>h (by rw[e]);simp[this]
attribute [local go_sem] Oper.semAt_some
attribute [local go_sem] Oper.semAt_some
def Dz (w:World):Prop:=∀j,j<64→w.cell? ⟨6,j,none⟩=some (.int .u8 (Lib.deBruijn64tab.getD j 0:Nat))
theorem Dz.pos {w:World} (h:Dz w):6<w.heap.size:=World.block_lt_of_cell? w ⟨6,0,none⟩ (h 0 (by omega))
theorem Dz.below {w w':World} {n:Nat} (h:Dz w)(hb:Below n w w')(hn:6<n):Dz w':=fun i hi=>(hb.cell (p:=⟨6,i,none⟩) hn).trans (h i hi)
theorem Dz.later {w w':World} (h:Dz w)(l:Later w w'):Dz w':=h.below l h.pos
theorem zQg {P:Program} {ops:Array Oper} {rest:List Oper} {o:Oper} {a:Act} {Q:Exit→Act→World→Prop} {w:World} (hg:o.guard=none)(t:TypeId)(x:Operand)(ho:o.op= .load t x)(p:Addr)(hx:a.eval x= .pointer (some p))(v:Value)(hl:(Instr.loadAt t (.pointer (some p))).run P w= .ok v w)
  (hk:wpList P ops Q rest (a.put o.dst v) w):wpList P ops Q (o::rest) a w:=wpList_plain hg fun K hK=>by
 unfold Oper.wp execOp;simp only[ho,hx,Sem.run_bind,hl,Result.andThen_ok,Sem.run_pure];exact hK _ _ hk
theorem tz_key(x a:Nat)(hx:x<18446744073709551616)(hx0:x≠0)(hlow:x &&& (18446744073709551616-x)=a):
  IntKind.u64.wrap (bits BinOp.and IntKind.u64 (x:Int) (IntKind.u64.wrap (-(x:Int)))*285870213051353865)/288230376151711744=((a*285870213051353865 % 18446744073709551616/288230376151711744:Nat):Int):=by
 have e1:IntKind.u64.wrap (-(x:Int))=((18446744073709551616-x:Nat):Int):=by rw[IntKind.wrap_u64];omega
 rw[e1,bits_and_u64_nat x _ hx (by omega),hlow,IntKind.wrap_u64];omega
set_option maxHeartbeats 400000 in
theorem tz_core(x idx:Nat)(kk:Int)(w:World)(hx0:((x:Int)==0)=false)(HK:Hid (IntKind.u64.wrap (bits BinOp.and IntKind.u64 (x:Int) (IntKind.u64.wrap (-(x:Int)))*285870213051353865)/288230376151711744=(idx:Int)))(hi':(idx:Int)<64)(HLD:Hid ((Instr.loadAt 5 (.pointer (some ⟨6,idx,none⟩))).run Tryz.prog w= .ok (.int .u8 kk) w)):
  Calls Tryz.prog 268 #[.int .u64 (x:Int)] w fun e w'=>e= .returned (.int .i64 (wrap64 kk))∧w'=w:=by
 go_enter Tryz.func268,Tryz.ntmps268;go_upto_region 3 with fail;go_wp2_with (first|rw[HK.out]|(refine zQg rfl 5 (.tmp 11) rfl ⟨6,idx,none⟩ rfl (.int .u8 kk) HLD.out ?_))
 go_ret
 exact⟨rfl,rfl⟩
theorem tz_any(x:Nat)(w:World)(hx:x<18446744073709551616)(h0:x≠0)(hT:Dz w):
  Calls Tryz.prog 268 #[.int .u64 (x:Int)] w fun e w'=>e= .returned (.int .i64 (Lib.ctz 64 x:Nat))∧w'=w:=by
 obtain⟨hlow,hk⟩:=Lib.lowest_bit 64 x h0 hx;obtain⟨hi,htab⟩:=Lib.deBruijn64_at _ hk;have hcell:=hT _ hi;rw[htab]at hcell;have key:=tz_key x _ hx h0 hlow;have hwk:wrap64 (Lib.ctz 64 x:Int)=(Lib.ctz 64 x:Int):=by unfold wrap64;omega
 have h:=tz_core x _ (Lib.ctz 64 x:Nat) w (by simp;omega) (zAc key) (by omega) (zAc (by simp[Instr.loadAt,go_sem,hcell]));rw[hwk]at h;exact h
end Go.Proofs.YteaeilghamjjkaaGreatDoor
