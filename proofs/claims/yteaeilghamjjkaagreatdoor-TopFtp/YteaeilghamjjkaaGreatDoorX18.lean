import Derived.Test.YteaeilghamjjkaaGreatDoorX19
import Derived.Laws.Bits64b
import Derived.Laws.BitsAllLaws
import Derived.Lib.TrailingZeros
import Derived.Deep.DeepCutAuto
import Derived.Deep.CutBlock
namespace Go.Proofs.YteaeilghamjjkaaGreatDoor
open Go.RowKit Go.Shelf
set_option maxRecDepth 100000
set_option linter.unusedVariables false
set_option linter.unusedSimpArgs false
theorem zEp(n:Nat):2^(n % 64)<18446744073709551616:=by
 have:2^(n % 64)<2^64:=Nat.pow_lt_pow_right (by omega) (Nat.mod_lt _ (by omega));simpa using this
theorem wrapN(x:Nat)(h:x<18446744073709551616):IntKind.u64.wrap (x:Int)=(x:Int):=by rw[IntKind.wrap_u64];omega
set_option maxHeartbeats 1000000 in
theorem zMw(n:Nat)(w:World)(hn:n<65536):Calls Tryz.prog 193 #[.int .u16 (n:Int)] w fun e w'=>e= .returned (.int .u64 ((2^(n % 64):Nat):Int))∧w'=w:=by
 have hp:=wrapN (2^(n % 64)) (zEp n);have HP:=zAd hp;clear hp;go_enter Tryz.func193,Tryz.ntmps193;go_wp2_with fail;go_ret
 refine⟨?_,rfl⟩;rw[←HP.out];simp
def pcl (low high:Int) (ws:Nat→Nat):List Value:= .int .u16 low:: .int .u16 high::(List.range 1024).map (fun i=> .int .u64 (ws i:Int))
def PB (base:Nat) (W:World) (b:Nat) (low high:Int) (ws:Nat→Nat):Prop:=base≤b∧(∀i,ws i<18446744073709551616)∧W.heap[b]? =some (.cells (pcl low high ws).toArray 282 (0,0))
theorem PB.later {base:Nat} {A B:World} {b:Nat} {low high:Int} {ws:Nat→Nat} (h:PB base A b low high ws)(l:Later A B):PB base B b low high ws:=⟨h.1,h.2.1,zAb l h.2.2⟩
theorem PB.lt {base:Nat} {W:World} {b:Nat} {low high:Int} {ws:Nat→Nat} (h:PB base W b low high ws):b<W.heap.size:=(eS h.2.2)
theorem PB.word {base:Nat} {W:World} {b:Nat} {low high:Int} {ws:Nat→Nat} (h:PB base W b low high ws)(i:Nat)(hi:i<1024):W.cell? ⟨b,2+i,none⟩=some (.int .u64 (ws i:Int)):=by
 rw[zAa h.2.2,List.getElem?_toArray];unfold pcl;rw[show 2+i=i+1+1 from by omega,List.getElem?_cons_succ,List.getElem?_cons_succ,List.getElem?_map,List.getElem?_range hi];rfl
theorem PB.low {base:Nat} {W:World} {b:Nat} {low high:Int} {ws:Nat→Nat} (h:PB base W b low high ws):W.cell? ⟨b,0,none⟩=some (.int .u16 low):=by
 rw[zAa h.2.2];rfl
theorem PB.high {base:Nat} {W:World} {b:Nat} {low high:Int} {ws:Nat→Nat} (h:PB base W b low high ws):W.cell? ⟨b,1,none⟩=some (.int .u16 high):=by
 rw[zAa h.2.2];rfl
def upd (ws:Nat→Nat) (i x:Nat):Nat→Nat:=fun j=>if j=i then x else ws j
theorem zTw(low high:Int)(ws:Nat→Nat)(i x:Nat)(hi:i<1024):(pcl low high ws).toArray.setIfInBounds (2+i) (.int .u64 (x:Int))=(pcl low high (upd ws i x)).toArray:=by
 rw[List.setIfInBounds_toArray];congr 1
 unfold pcl;rw[show 2+i=i+1+1 from by omega,List.set_cons_succ,List.set_cons_succ];congr 2
 apply List.ext_getElem?
 intro j
 rw[List.getElem?_set,List.getElem?_map,List.getElem?_map];unfold upd;by_cases hj:i=j
 ·subst hj
  rw[if_pos rfl,List.getElem?_range hi];simp[hi]
 ·rw[if_neg hj]
  by_cases hl:j<1024
  ·rw[List.getElem?_range hl]
   simp[Ne.symm hj]
  ·rw[List.getElem?_eq_none (by simp;omega)]
   rfl
def fr (ws:Nat→Nat) (n:Nat):Bool:=(ws (n/64)).testBit (n % 64)
theorem and_pow(x i:Nat):(x &&& 2^i≠0)↔x.testBit i=true:=by
 constructor
 ·intro h
  cases hb:x.testBit i with
  |true=>rfl
  | false=>
   refine absurd (Nat.eq_of_testBit_eq fun j=> ?_) h;rw[Nat.testBit_and,Nat.testBit_two_pow,Nat.zero_testBit];by_cases hj:i=j
   ·subst hj
    rw[hb];rfl
   ·simp[hj]
 ·intro h e
  have:=congrArg (fun y=>Nat.testBit y i) e;simp[Nat.testBit_and,Nat.testBit_two_pow,h]at this
theorem zTx(n:Nat)(hn:n<65536):IntKind.u16.wrap ((n:Int)/64)=((n/64:Nat):Int):=by
 have:IntKind.u16.wrap ((n:Int)/64)=((n:Int)/64) % 65536:=by simp[IntKind.wrap,IntKind.signed,IntKind.bits]
 rw[this];omega
set_option maxHeartbeats 2000000 in
theorem has_any(base b:Nat)(low high:Int)(ws:Nat→Nat)(n:Nat)(w:World)(hT:PB base w b low high ws)(hn:n<65536):
  Calls Tryz.prog 145 #[.pointer (some ⟨b,2,none⟩),.int .u16 (n:Int)] w fun e w'=>e= .returned (.bool (fr ws n))∧Later w w':=by
 have HW:=zAd (zTx n hn);have hq2:n/64<1024:=by omega
 have hq3:((n/64:Nat):Int)<1024:=by omega
 have hlt:=zEp n;have hwl:=hT.2.1 (n/64);have HAN:=zAd (bits_and_u64_nat (ws (n/64)) (2^(n % 64)) hwl hlt)
 have HFR:Hid (fr ws n=decide (¬((ws (n/64) &&& 2^(n % 64):Nat):Int)=0)):=by
  show _=_
  rw[Bool.eq_iff_iff,decide_eq_true_iff];unfold fr;rw[←and_pow];omega
 have HB:=zAd (fun W=>zMw n W hn);have HQ:=zAd (fun v1 (h:Later w v1)=>(hT.later h).word (n/64) hq2);clear hlt hwl hq2;generalize n/64=i at*;generalize 2^(n % 64)=c at*;have hi0:(0:Int)≤(i:Int):=by omega
 have hi1:(i:Int)<1024:=by omega
 clear hq3;go_enter Tryz.func145,Tryz.ntmps145;go_upto_region 1 with fail;refine zAn (R:=Later) Later.pre Later.drew 12 rfl (by kernel_rfl) (fun V1 hV1=> ?_);have q1:∀v1,Later V1 v1→v1.cell? ⟨b,2+i,none⟩=some (.int .u64 (ws i:Int)):=fun v1 h=>HQ.out v1 (hV1.trans h);refine rX Later.pre 0 ?_;refine rX Later.pre 1 ?_;refine rX Later.pre 2 ?_;rw[HW.out];refine rX Later.pre 3 ?_;refine rX Later.pre 4 ?_;refine rX Later.pre 5 ?_;refine rX Later.pre 6 ?_;refine rX Later.pre 7 ?_;clear q1;refine zAq Later.pre 8 (.int .u64 (c:Int)) rfl (by kernel_rfl) (by kernel_rfl) (by kernel_rfl) (fun _ _ _ h=>h) rfl (fun w1 hw1=>zAo 193 #[.int .u16 (n:Int)] (by go_simp) ((HB.out w1).mono fun e w2 h=>⟨h.1,by rw[h.2];exact Later.refl _⟩)) ?_;simp only[Act.put,sA,sB,sC];refine rX Later.pre 9 ?_;rw[HAN.out];generalize ws i &&& c=z at*;refine rX Later.pre 10 ?_;refine rX Later.pre 11 ?_;refine rD (fun V2 hV2=> ?_);have L2:=hV1.trans hV2;go_wp2_with fail;go_ret
 refine⟨?_,L2⟩;rw[HFR.out];by_cases hz:z=0<;>simp[hz]
theorem add_lt {x c:Nat} (hx:x<18446744073709551616)(hc:c<18446744073709551616):x|||c<18446744073709551616:=by
 have:=Nat.or_lt_two_pow (n:=64) (x:=x) (y:=c) (by omega) (by omega);simpa using this
theorem zTy {x c:Nat} (hx:x<18446744073709551616)(hc:c<18446744073709551616):x &&& (18446744073709551615-c)<18446744073709551616:=Nat.lt_of_le_of_lt Nat.and_le_left hx
set_option maxHeartbeats 2000000 in
theorem add_any(base b:Nat)(low high:Int)(ws:Nat→Nat)(n:Nat)(w:World)(hT:PB base w b low high ws)(hn:n<65536):
  Calls Tryz.prog 222 #[.pointer (some ⟨b,2,none⟩),.int .u16 (n:Int)] w fun e w'=>(∃v,e= .returned v)∧PB base w' b low high (upd ws (n/64) (ws (n/64)|||2^(n % 64)))∧But (fun g=>g=b) w w':=by
 have HW:=zAd (zTx n hn);have hq2:n/64<1024:=by omega
 have hq3:((n/64:Nat):Int)<1024:=by omega
 have hlt:=zEp n;have hwl:=hT.2.1 (n/64);have HAN:=zAd (bits_or_u64_nat (ws (n/64)) (2^(n % 64)) hwl hlt);have HLT:Hid (ws (n/64)|||2^(n % 64)<18446744073709551616):=add_lt hwl hlt;have HB:=zAd (fun W=>zMw n W hn);have HQ:=zAd (fun v1 (h:PB base v1 b low high ws)=>h.word (n/64) hq2);have HST:=zAd (fun x:Nat=>zTw low high ws (n/64) x hq2);clear hlt hwl hq2;generalize n/64=i at*;generalize 2^(n % 64)=c at*;have hi0:(0:Int)≤(i:Int):=by omega
 have hi1:(i:Int)<1024:=by omega
 clear hq3;go_enter Tryz.func222,Tryz.ntmps222;refine zA5 (R1:=Later) (R2:=But (fun g=>g=b)) (D:=[13]) 14 rfl (by kernel_rfl) ?_;have ld:Later w w.drew:=Later.drew w;have hTd:=hT.later ld;generalize w.drew=Wd at*;have q1:∀v1,Later Wd v1→v1.cell? ⟨b,2+i,none⟩=some (.int .u64 (ws i:Int)):=fun v1 h=>HQ.out v1 (hTd.later h);refine pX Later.refl (But.refl _) 0 ?_;refine pX Later.refl (But.refl _) 1 ?_;refine pX Later.refl (But.refl _) 2 ?_;rw[HW.out];refine pX Later.refl (But.refl _) 3 ?_;refine pX Later.refl (But.refl _) 4 ?_;refine pX Later.refl (But.refl _) 5 ?_;refine uX Later.pre 6 [9,13] ?_;refine pX Later.refl (But.refl _) 7 ?_;refine pX Later.refl (But.refl _) 10 ?_;refine pX Later.refl (But.refl _) 11 ?_;clear q1;refine uO 8 ?_;refine zAj 193 #[.int .u16 (n:Int)] (by go_simp) ?_;refine(HB.out Wd).mono ?_;rintro e W1 ⟨rfl,rfl⟩;refine⟨zA3 (by rfl) (Later.refl _),?_⟩;simp only[Act.put,sA,sB,sC];refine pX Later.refl (But.refl _) 9 ?_;rw[HAN.out];refine pX Later.refl (But.refl _) 12 ?_
 have hfin:PB base (W1.setCell ⟨b,2+i,none⟩ (.int .u64 ((ws i|||c:Nat):Int))) b low high (upd ws i (ws i|||c)):=by
  refine⟨hTd.1,fun j=> ?_,?_⟩
  ·unfold upd
   split
   ·exact HLT.out
   ·exact hTd.2.1 j
  ·rw[←HST.out]
   exact zAh hTd.2.2 (2+i) _
 have hbS:But (fun g=>g=b) W1 (W1.setCell ⟨b,2+i,none⟩ (.int .u64 ((ws i|||c:Nat):Int))):=(But.refl (fun g=>g=b) _).setCell (p:=⟨b,2+i,none⟩) rfl _;have F1:=zAc hTd.2.2;have k1:=HQ.out W1 hTd;have HF:=zAd hfin;have HBS:=zAd hbS;clear hfin hbS;generalize hzz:ws i|||c=z at*
 refine uO 13 ?_;unfold Oper.wp;go_simp;refine⟨zDx (by rfl) HBS.out,?_⟩;refine uD ?_;generalize hV:World.setCell _ _ _=V at*;go_end0
 exact⟨⟨_,rfl⟩,HF.out,(But.of ld).trans HBS.out⟩
set_option maxHeartbeats 2000000 in
theorem zQ9(base b:Nat)(low high:Int)(ws:Nat→Nat)(n:Nat)(w:World)(hT:PB base w b low high ws)(hn:n<65536):
  Calls Tryz.prog 328 #[.pointer (some ⟨b,2,none⟩),.int .u16 (n:Int)] w fun e w'=>(∃v,e= .returned v)∧PB base w' b low high (upd ws (n/64) (ws (n/64) &&& (18446744073709551615-2^(n % 64))))∧But (fun g=>g=b) w w':=by
 have HW:=zAd (zTx n hn);have hq2:n/64<1024:=by omega
 have hq3:((n/64:Nat):Int)<1024:=by omega
 have hlt:=zEp n;have hwl:=hT.2.1 (n/64);have HAN:=zAd (u64_andNot_nat (ws (n/64)) (2^(n % 64)) hwl hlt);have HLT:Hid (ws (n/64) &&& (18446744073709551615-2^(n % 64))<18446744073709551616):=zTy hwl hlt;have HB:=zAd (fun W=>zMw n W hn);have HQ:=zAd (fun v1 (h:PB base v1 b low high ws)=>h.word (n/64) hq2);have HST:=zAd (fun x:Nat=>zTw low high ws (n/64) x hq2);clear hlt hwl hq2;generalize n/64=i at*;generalize 2^(n % 64)=c at*;have hi0:(0:Int)≤(i:Int):=by omega
 have hi1:(i:Int)<1024:=by omega
 clear hq3;go_enter Tryz.func328,Tryz.ntmps328;refine zA5 (R1:=Later) (R2:=But (fun g=>g=b)) (D:=[13]) 14 rfl (by kernel_rfl) ?_;have ld:Later w w.drew:=Later.drew w;have hTd:=hT.later ld;generalize w.drew=Wd at*;have q1:∀v1,Later Wd v1→v1.cell? ⟨b,2+i,none⟩=some (.int .u64 (ws i:Int)):=fun v1 h=>HQ.out v1 (hTd.later h);refine pX Later.refl (But.refl _) 0 ?_;refine pX Later.refl (But.refl _) 1 ?_;refine pX Later.refl (But.refl _) 2 ?_;rw[HW.out];refine pX Later.refl (But.refl _) 3 ?_;refine pX Later.refl (But.refl _) 4 ?_;refine pX Later.refl (But.refl _) 5 ?_;refine uX Later.pre 6 [9,13] ?_;refine pX Later.refl (But.refl _) 7 ?_;refine pX Later.refl (But.refl _) 10 ?_;refine pX Later.refl (But.refl _) 11 ?_;clear q1;refine uO 8 ?_;refine zAj 193 #[.int .u16 (n:Int)] (by go_simp) ?_;refine(HB.out Wd).mono ?_;rintro e W1 ⟨rfl,rfl⟩;refine⟨zA3 (by rfl) (Later.refl _),?_⟩;simp only[Act.put,sA,sB,sC];refine pX Later.refl (But.refl _) 9 ?_;rw[HAN.out];refine pX Later.refl (But.refl _) 12 ?_
 have hfin:PB base (W1.setCell ⟨b,2+i,none⟩ (.int .u64 ((ws i &&& (18446744073709551615-c):Nat):Int))) b low high (upd ws i (ws i &&& (18446744073709551615-c))):=by
  refine⟨hTd.1,fun j=> ?_,?_⟩
  ·unfold upd
   split
   ·exact HLT.out
   ·exact hTd.2.1 j
  ·rw[←HST.out]
   exact zAh hTd.2.2 (2+i) _
 have hbS:But (fun g=>g=b) W1 (W1.setCell ⟨b,2+i,none⟩ (.int .u64 ((ws i &&& (18446744073709551615-c):Nat):Int))):=(But.refl (fun g=>g=b) _).setCell (p:=⟨b,2+i,none⟩) rfl _;have F1:=zAc hTd.2.2;have k1:=HQ.out W1 hTd;have HF:=zAd hfin;have HBS:=zAd hbS;clear hfin hbS;generalize hzz:ws i &&& (18446744073709551615-c)=z at*;refine uO 13 ?_;unfold Oper.wp;go_simp;refine⟨zDx (by rfl) HBS.out,?_⟩;refine uD ?_;generalize hV:World.setCell _ _ _=V at*;go_end0
 exact⟨⟨_,rfl⟩,HF.out,(But.of ld).trans HBS.out⟩
theorem zHz {m n:Nat} (h1:m/64=n/64)(h2:m % 64=n % 64):m=n:=by omega
theorem fr_add(ws:Nat→Nat)(n m:Nat):fr (upd ws (n/64) (ws (n/64)|||2^(n % 64))) m=(fr ws m||decide (m=n)):=by
 unfold fr upd;by_cases h:m/64=n/64
 ·rw[if_pos h,Nat.testBit_or,Nat.testBit_two_pow,h]
  congr 1
  rw[decide_eq_decide];constructor
  ·intro e;exact zHz h e.symm
  ·intro e;rw[e]
 ·rw[if_neg h]
  have:¬m=n:=fun e=>h (by rw[e]);simp[this]
theorem zTz(ws:Nat→Nat)(n m:Nat):fr (upd ws (n/64) (ws (n/64) &&& (18446744073709551615-2^(n % 64)))) m=(fr ws m && !decide (m=n)):=by
 unfold fr upd;by_cases h:m/64=n/64
 ·rw[if_pos h,Nat.testBit_and,h]
  have hp:=zEp n;have e:=Nat.testBit_two_pow_sub_succ (n:=64) (x:=2^(n % 64)) (by simpa using hp) (m % 64);rw[show (2:Nat)^64-(2^(n % 64)+1)=18446744073709551615-2^(n % 64)from by omega]at e;rw[e,Nat.testBit_two_pow];have hm:m % 64<64:=Nat.mod_lt _ (by omega)
  have:decide (n % 64=m % 64)=decide (m=n):=by
   rw[decide_eq_decide];constructor
   ·intro e;exact zHz h e.symm
   ·intro e;rw[e]
  rw[this];simp[hm]
 ·rw[if_neg h]
  have:¬m=n:=fun e=>h (by rw[e]);simp[this]
attribute [local go_sem] Oper.semAt_some
attribute [local go_sem] Oper.semAt_some
def Dz (w:World):Prop:=∀j,j<64→w.cell? ⟨6,j,none⟩=some (.int .u8 (Lib.deBruijn64tab.getD j 0:Nat))
theorem Dz.pos {w:World} (h:Dz w):6<w.heap.size:=World.block_lt_of_cell? w ⟨6,0,none⟩ (h 0 (by omega))
theorem Dz.below {w w':World} {n:Nat} (h:Dz w)(hb:Below n w w')(hn:6<n):Dz w':=fun i hi=>(hb.cell (p:=⟨6,i,none⟩) hn).trans (h i hi)
theorem Dz.later {w w':World} (h:Dz w)(l:Later w w'):Dz w':=h.below l h.pos
theorem zT0 {P:Program} {ops:Array Oper} {rest:List Oper} {o:Oper} {a:Act} {Q:Exit→Act→World→Prop} {w:World} (hg:o.guard=none)(t:TypeId)(x:Operand)(ho:o.op= .load t x)(p:Addr)(hx:a.eval x= .pointer (some p))(v:Value)(hl:(Instr.loadAt t (.pointer (some p))).run P w= .ok v w)
  (hk:wpList P ops Q rest (a.put o.dst v) w):wpList P ops Q (o::rest) a w:=wpList_plain hg fun K hK=>by
 unfold Oper.wp execOp;simp only[ho,hx,Sem.run_bind,hl,Result.andThen_ok,Sem.run_pure];exact hK _ _ hk
theorem tz_key(x a:Nat)(hx:x<18446744073709551616)(hx0:x≠0)(hlow:x &&& (18446744073709551616-x)=a):
  IntKind.u64.wrap (bits BinOp.and IntKind.u64 (x:Int) (IntKind.u64.wrap (-(x:Int)))*285870213051353865)/288230376151711744=((a*285870213051353865 % 18446744073709551616/288230376151711744:Nat):Int):=by
 have e1:IntKind.u64.wrap (-(x:Int))=((18446744073709551616-x:Nat):Int):=by rw[IntKind.wrap_u64];omega
 rw[e1,bits_and_u64_nat x _ hx (by omega),hlow,IntKind.wrap_u64];omega
set_option maxHeartbeats 400000 in
theorem tz_core(x idx:Nat)(kk:Int)(w:World)(hx0:((x:Int)==0)=false)(HK:Hid (IntKind.u64.wrap (bits BinOp.and IntKind.u64 (x:Int) (IntKind.u64.wrap (-(x:Int)))*285870213051353865)/288230376151711744=(idx:Int)))(hi':(idx:Int)<64)(HLD:Hid ((Instr.loadAt 5 (.pointer (some ⟨6,idx,none⟩))).run Tryz.prog w= .ok (.int .u8 kk) w)):
  Calls Tryz.prog 268 #[.int .u64 (x:Int)] w fun e w'=>e= .returned (.int .i64 (wrap64 kk))∧w'=w:=by
 go_enter Tryz.func268,Tryz.ntmps268;go_upto_region 3 with fail;go_wp2_with (first|rw[HK.out]|(refine zT0 rfl 5 (.tmp 11) rfl ⟨6,idx,none⟩ rfl (.int .u8 kk) HLD.out ?_))
 go_ret
 exact⟨rfl,rfl⟩
theorem tz_any(x:Nat)(w:World)(hx:x<18446744073709551616)(h0:x≠0)(hT:Dz w):
  Calls Tryz.prog 268 #[.int .u64 (x:Int)] w fun e w'=>e= .returned (.int .i64 (Lib.ctz 64 x:Nat))∧w'=w:=by
 obtain⟨hlow,hk⟩:=Lib.lowest_bit 64 x h0 hx;obtain⟨hi,htab⟩:=Lib.deBruijn64_at _ hk;have hcell:=hT _ hi;rw[htab]at hcell;have key:=tz_key x _ hx h0 hlow;have hwk:wrap64 (Lib.ctz 64 x:Int)=(Lib.ctz 64 x:Int):=by unfold wrap64;omega
 have h:=tz_core x _ (Lib.ctz 64 x:Nat) w (by simp;omega) (zAd key) (by omega) (zAd (by simp[Instr.loadAt,go_sem,hcell]));rw[hwk]at h;exact h
end Go.Proofs.YteaeilghamjjkaaGreatDoor
namespace Go.Proofs.YteaeilghamjjkaaGreatDoor.Pm
set_option maxRecDepth 100000
def bl (x:Nat):List Nat:=(List.range 64).filter (fun j=>x.testBit j)
theorem bl_zero:bl 0=[]:=by unfold bl;simp
theorem range_at(k n:Nat)(h:k<n):List.range n=List.range k++k::(List.range (n-k-1)).map (fun j=>k+1+j):=by
 obtain⟨m,rfl⟩:∃m,n=k+1+m:=⟨n-k-1,by omega⟩;rw[List.range_add,List.range_succ,List.append_assoc,show k+1+m-k-1=m from by omega];rfl
theorem zKt(p q:Nat→Bool)(k n:Nat)(h:k<n)(hl:∀j,j<k→p j=false)(hk:p k=true)(hq:∀j,q j=(p j && decide (j≠k))):(List.range n).filter p=k::(List.range n).filter q:=by
 have e1:(List.range k).filter p=[]:=by rw[List.filter_eq_nil_iff];intro j hj;rw[hl j (by simpa using hj)];simp
 have e2:(List.range k).filter q=[]:=by rw[List.filter_eq_nil_iff];intro j hj;rw[hq,hl j (by simpa using hj)];simp
 rw[range_at k n h,List.filter_append,List.filter_append,e1,e2,List.filter_cons_of_pos hk,List.filter_cons_of_neg (by rw[hq];simp)];simp only[List.nil_append];congr 1
 refine List.filter_congr fun j hj=> ?_;obtain⟨i,_,rfl⟩:=List.mem_map.1 hj;rw[hq];simp
 omega
theorem low_clear(x:Nat)(h0:x≠0)(hx:x<18446744073709551616):Lib.ctz 64 x<64∧(∀j,j<Lib.ctz 64 x→x.testBit j=false)∧x.testBit (Lib.ctz 64 x)=true∧∀j,(x &&& (x-1)).testBit j=(x.testBit j && decide (j≠Lib.ctz 64 x)):=by
 have hc:Lib.ctz 64 x=Lib.ctzFrom 64 x:=by unfold Lib.ctz;rw[if_neg h0]
 obtain⟨m,hm,hk⟩:=Lib.ctzFrom_spec 64 x (by omega) (by simpa using hx);rw[hc];generalize Lib.ctzFrom 64 x=k at*;have hp:0<2^k:=Nat.two_pow_pos k
 have t1:∀j,x.testBit j=if j<k then false else(2*m+1).testBit (j-k):=fun j=>by
  have:=Nat.testBit_two_pow_mul_add (2*m+1) (b:=0) (i:=k) hp j;rw[Nat.add_zero,←hm]at this;rw[this];split<;>simp
 have e:x-1=2^k*(2*m)+(2^k-1):=by rw[hm,Nat.mul_add,Nat.mul_one];omega
 have t2:∀j,(x-1).testBit j=if j<k then(2^k-1).testBit j else(2*m).testBit (j-k):=fun j=>by
  rw[e];exact Nat.testBit_two_pow_mul_add (2*m) (b:=2^k-1) (i:=k) (by omega) j
 refine⟨hk,fun j hj=>by rw[t1,if_pos hj],?_,fun j=> ?_⟩
 ·rw[t1,if_neg (by omega),Nat.sub_self]
  simp
 ·rw[Nat.testBit_and,t1,t2]
  by_cases hj:j<k
  ·simp[hj]
  ·rw[if_neg hj,if_neg hj]
   by_cases hjk:j=k
   ·subst hjk
    simp
   ·obtain ⟨i,hi⟩:∃i,j-k=i+1:=⟨j-k-1,by omega⟩
    rw[hi,Nat.testBit_succ,Nat.testBit_succ];rw[show (2*m+1)/2=m from by omega,show(2*m)/2=m from by omega];simp[hjk]
theorem bl_step(x:Nat)(h0:x≠0)(hx:x<18446744073709551616):bl x=Lib.ctz 64 x::bl (x &&& (x-1)):=by
 obtain⟨h1,h2,h3,h4⟩:=low_clear x h0 hx;unfold bl;exact zKt _ _ _ 64 h1 h2 h3 h4
end Go.Proofs.YteaeilghamjjkaaGreatDoor.Pm
namespace Go.Proofs.YteaeilghamjjkaaGreatDoor
open Go.RowKit Go.Shelf
set_option maxRecDepth 100000
attribute [local go_sem] Oper.semAt_some
set_option linter.unusedVariables false
set_option linter.unusedSimpArgs false
def wel (ws:Nat→Nat) (i:Nat):List Nat:=(Pm.bl (ws i)).map (fun j=>64*i+j)
def zFn (ws:Nat→Nat) (i:Nat):List Nat:=(List.range i).flatMap (wel ws)
def els (ws:Nat→Nat):List Nat:=zFn ws 1024
theorem zH0(ws:Nat→Nat)(i:Nat):zFn ws (i+1)=zFn ws i++wel ws i:=by
 unfold zFn;rw[List.range_succ,List.flatMap_append];simp
theorem els_at(ws:Nat→Nat)(i:Nat)(hi:i<1024):∃rest,zFn ws i++wel ws i++rest=els ws:=by
 obtain⟨m,hm⟩:∃m,1024=i+1+m:=⟨1023-i,by omega⟩;refine⟨((List.range m).map (i+1+ ·)).flatMap (wel ws),?_⟩;unfold els zFn;rw[hm,List.range_add,List.flatMap_append,List.range_succ,List.flatMap_append];simp
def encN (n:Nat):Array Value:=#[.int .u16 (n:Int)]
def XN (ws:Nat→Nat) (pre:List Nat) (x:Nat) (_V:World):Prop:=∃rest,pre++x::rest=els ws
def KN (n₀ B:Nat) (A C:World):Prop:=Below n₀ A C∧∀o,A.heap[B]? =some o→C.heap[B]? =some o
theorem KN.refl(n₀ B:Nat)(A:World):KN n₀ B A A:=⟨Below.refl _ _,fun o h=>h⟩
theorem KN.trans {n₀ B:Nat} {A C D:World} (h:KN n₀ B A C)(k:KN n₀ B C D):KN n₀ B A D:=⟨h.1.trans k.1,fun o ho=>k.2 o (h.2 o ho)⟩
theorem KN.of {n₀ B:Nat} {A C:World} (l:Later A C)(h:n₀≤A.heap.size):KN n₀ B A C:=⟨Below.mono l h,fun o ho=>zAb l ho⟩
set_option maxRecDepth 100000 in
set_option maxHeartbeats 2000000 in
theorem alln_in(n:Nat)(hn:2≤n)(l B b n₀ base:Nat)(low high:Int)(ws:Nat→Nat)(J Jx:List Nat→World→Prop)
  (hJ:∀s A B,J s A→Later A B→J s B)
  (hY:∀pre x V,J pre V→XN ws pre x V→YieldAt Fence.wide (n-1) Tryz.prog l (encN x) V fun e V'=>(e= .returned (.bool true)∧J (pre++[x]) V'∧KN n₀ B V V')∨(e= .returned (.bool false)∧Jx (pre++[x]) V'))
  (W:World)(hB:W.heap[B]? =some (.cells #[.pointer (some ⟨b,2,none⟩)] 346 (0,0)))(hn0:n₀≤W.heap.size)(hT:PB base W b low high ws)(hb:b<n₀)(hz:Dz W)(hz0:6<n₀)(h0:J [] W):
  CallsIn Fence.wide n Tryz.prog 332 #[.func (.yield l) #[] #[],.pointer (some ⟨B,0,none⟩)] W fun e W'=>(∃v,e= .returned v)∧((∃xs,xs=els ws∧J xs W')∨(∃pre,True∧Jx pre W')):=by
 have HT:=zAd hT;have HZ:=zAd hz;have HBX:=zAd hB;clear hz hB hT;refine callsIn_of_wp Tryz.func332 rfl trivial ?_ rfl;simp only[Tryz.ntmps332,List.size_toArray,List.length_cons,List.length_nil,Nat.reduceAdd,Nat.reduceSub,Array.replicate_succ,Array.replicate_zero,List.push_toArray,List.append_toArray,List.nil_append,List.cons_append];gi_wp2
 gi_loopw [5] (fun i wr=>∃p:Nat,p≤1024∧i= .int .i64 (p:Int)∧J (zFn ws p) wr∧KN n₀ B W wr) (fun i _=>1024-(intOf i).toNat)
 case atStart=>exact⟨0,by omega,rfl,h0,KN.refl _ _ _⟩
 case round=>
  obtain⟨p,hp,rfl,hJp,hkp⟩:=hrel;by_cases hlt:p<1024
  ·have hlt':(p:Int)<1024:=by omega
   have hbx:=zAa (hkp.2 _ HBX.out);have hTp:PB base wr b low high ws:=⟨HT.out.1,HT.out.2.1,(hkp.1.block b hb).trans HT.out.2.2⟩;have hwd:=hTp.word p hlt;have hwl:=hTp.2.1 p;obtain⟨rest,hrest⟩:=els_at ws p hlt;have HRS:=zAd hrest;clear hrest;have hwe:wel ws p=(Pm.bl (ws p)).map (fun j=>64*p+j):=rfl;have HWE:=zAd hwe;clear hwe;generalize ws p=x0 at*;gi_wp2
   rename World=>w1
   gi_loopw [4] (fun lf wx=>∃(x:Nat) (d:List Nat),lf= .int .u64 (x:Int)∧x<18446744073709551616∧d++Pm.bl x=Pm.bl x0∧J (zFn ws p++d.map (fun j=>64*p+j)) wx∧KN n₀ B W wx) (fun lf _=>(Pm.bl (intOf lf).toNat).length)
   case atStart=>exact⟨x0,[],rfl,hwl,rfl,by rw[List.map_nil,List.append_nil];exact hJp,hkp⟩
   case round=>
    obtain⟨x,d,rfl,hxl,hdx,hJd,hkd⟩:=hrel;by_cases hx0:x=0
    ·subst hx0
     rw[Pm.bl_zero,List.append_nil]at hdx;subst hdx;gi_wp2
     go_roundw
     case rel=>exact⟨p+1,by omega,by go_num,by rw[zH0,HWE.out];exact hJd,hkd⟩
     case measure=>simp[intOf];omega
    ·have hst:=Pm.bl_step x hx0 hxl
     obtain⟨hk,_⟩:=Pm.low_clear x hx0 hxl;have HTZ:=zAd (tz_any x wr hxl hx0 (HZ.out.below hkd.1 hz0));have hnx:((x:Int) !=0)=true:=by simp;omega
     have hat:XN ws (zFn ws p++d.map (fun j=>64*p+j)) (64*p+Lib.ctz 64 x) wr:=by
      refine⟨(Pm.bl (x &&& (x-1))).map (fun j=>64*p+j)++rest,?_⟩;rw[←HRS.out,HWE.out,←hdx,hst];simp
     have hnext:d++[Lib.ctz 64 x]++Pm.bl (x &&& (x-1))=Pm.bl x0:=by rw[←hdx,hst];simp
     have hlen:(Pm.bl (x &&& (x-1))).length<(Pm.bl x).length:=by rw[hst];simp
     have hband:bits BinOp.and IntKind.u64 (x:Int) (IntKind.u64.wrap ((x:Int)-1))=((x &&& (x-1):Nat):Int):=by
      rw[show (x:Int)-1=((x-1:Nat):Int)from by omega,wrapN _ (by omega)];exact bits_and_u64_nat x (x-1) hxl (by omega)
     have hbl:x &&& (x-1)<18446744073709551616:=Nat.lt_of_le_of_lt Nat.and_le_left hxl;obtain⟨fn,tmps,assign,body,hy,hR⟩:=hY _ _ _ hJd hat;dsimp only[encN]at hy
     rw[show ((64*p+Lib.ctz 64 x:Nat):Int)=(p:Int)*64+(Lib.ctz 64 x:Int)from by omega]at hy;have HNX:=zAd hnext;have HLN:=zAd hlen;have HBA:=zAd hband;have HBL:=zAd hbl;have HR:=zAd hR;have hk':(Lib.ctz 64 x:Int)<64:=by omega
     clear hnext hlen hband hbl hR hat hst hk hdx hx0;generalize Lib.ctz 64 x=k at*;generalize x &&& (x-1)=x2 at*;gi_wp2
     refine⟨trivial,?_⟩;refine⟨fun _=>by omega,(callsIn_wide.2 HTZ.out).mono ?_⟩;rintro e w3 ⟨rfl,rfl⟩;gi_wp2
     refine⟨fun _=>by omega,HR.out.mono ?_⟩;rintro e W3 (⟨rfl,hJ3,hk3⟩|⟨rfl,hJx3⟩)
     ·gi_wp2
      rw[HBA.out];go_roundw
      case rel=>exact⟨x2,d++[k],rfl,HBL.out,HNX.out,by rw[List.map_append,←List.append_assoc];exact hJ3,hkd.trans hk3⟩
      case measure=>simpa[intOf]using HLN.out
     ·gi_wp2
      refine bodyPost_ret (results_none rfl _ _ _) rfl ?_;exact⟨⟨_,rfl⟩,.inr ⟨_,trivial,hJx3⟩⟩
  ·obtain rfl:p=1024:=by omega
   gi_wp2
   go_end0
   exact⟨⟨_,rfl⟩,.inl ⟨_,rfl,hJp⟩⟩
attribute [local go_sem] Oper.semAt_some
theorem alln_gen(n:Nat)(hn:2≤n)(B b n₀ base:Nat)(low high:Int)(ws:Nat→Nat)(w:World)(hB:w.heap[B]? =some (.cells #[.pointer (some ⟨b,2,none⟩)] 346 (0,0)))(hn0:n₀≤w.heap.size)(hT:PB base w b low high ws)(hb:b<n₀)(hz:Dz w)(hz0:6<n₀):
  GenX Fence.wide n Tryz.prog 332 #[.pointer (some ⟨B,0,none⟩)] encN (KN n₀ B) (XN ws) (fun xs=>xs=els ws) (fun _=>True) w:=fun l J Jx W hW hJ hY h0=>
 alln_in n hn l B b n₀ base low high ws J Jx hJ hY W (zAb hW hB) (Nat.le_trans hn0 (Below.size hW)) (hT.later hW) hb (hz.later hW) hz0 h0
theorem zMx(x:Int)(h1: -9223372036854775808≤x)(h2:x≤9223372036854775807):IntKind.i64.wrap x=x:=by
 simp[IntKind.wrap,IntKind.signed,IntKind.bits]
 omega
theorem wp_calm {P:Program} {c:Code} {Q:Exit→Act→World→Prop} {a:Act} {w:World} (h:c.wp P (fun e a w=>e= .normal∧Q .normal a w) a w):c.wp P Q a w:=wp_mono h (fun e a w h=>by obtain⟨rfl,h⟩:=h;exact h)
def zC1 (low high:Nat):List Nat:=(List.range (high-low+1)).map (fun i=>low+i)
def XM (low high:Nat) (pre:List Nat) (x:Nat) (_V:World):Prop:=∃rest,pre++x::rest=zC1 low high
def KL (n₀ B b:Nat) (A C:World):Prop:=KN n₀ B A C∧∀i,i<2→∀v,A.cell? ⟨b,i,none⟩=some v→C.cell? ⟨b,i,none⟩=some v
theorem KL.trans {n₀ B b:Nat} {A C D:World} (h:KL n₀ B b A C)(k:KL n₀ B b C D):KL n₀ B b A D:=⟨h.1.trans k.1,fun i hi v hv=>k.2 i hi v (h.2 i hi v hv)⟩
theorem KL.of {n₀ B b:Nat} {A C:World} (l:Later A C)(h:n₀≤A.heap.size):KL n₀ B b A C:=⟨KN.of l h,fun i _ v hv=>l.cell hv⟩
set_option maxRecDepth 100000 in
set_option maxHeartbeats 2000000 in
theorem numb_in(n:Nat)(hn:2≤n)(l B b n₀ low high:Nat)(hlh:low≤high)(hh:high<65536)(J Jx:List Nat→World→Prop)
  (hJ:∀s A B,J s A→Later A B→J s B)
  (hY:∀pre x V,J pre V→XM low high pre x V→YieldAt Fence.wide (n-1) Tryz.prog l (encN x) V fun e V'=>(e= .returned (.bool true)∧J (pre++[x]) V'∧KL n₀ B b V V')∨(e= .returned (.bool false)∧Jx (pre++[x]) V'))
  (W:World)(hB:W.heap[B]? =some (.cells #[.pointer (some ⟨b,0,none⟩)] 117 (0,0)))(hn0:n₀≤W.heap.size)(c0:W.cell? ⟨b,0,none⟩=some (.int .u16 (low:Int)))(c1:W.cell? ⟨b,1,none⟩=some (.int .u16 (high:Int)))(h0:J [] W):
  CallsIn Fence.wide n Tryz.prog 144 #[.func (.yield l) #[] #[],.pointer (some ⟨B,0,none⟩)] W fun e W'=>(∃v,e= .returned v)∧((∃xs,xs=zC1 low high∧J xs W')∨(∃pre,True∧Jx pre W')):=by
 have HBX:=zAd hB;have HC0:=zAd c0;have HC1:=zAd c1;clear hB c0 c1;have hlh':(low:Int)≤(high:Int):=by omega
 have hh':(high:Int)<65536:=by omega
 refine callsIn_of_wp Tryz.func144 rfl trivial ?_ rfl;simp only[Tryz.ntmps144,List.size_toArray,List.length_cons,List.length_nil,Nat.reduceAdd,Nat.reduceSub,Array.replicate_succ,Array.replicate_zero,List.push_toArray,List.append_toArray,List.nil_append,List.cons_append];refine wpIn_seq ?_;refine wpIn_wide.2 (wp_calm ?_);refine zAn (R:=Later) Later.pre Later.drew 13 rfl (by kernel_rfl) (fun V1 hV1=> ?_);have q0:∀v1,Later V1 v1→v1.cell? ⟨b,0,none⟩=some (.int .u16 (low:Int)):=fun v1 h=>(hV1.trans h).cell HC0.out;have q1:∀v1,Later V1 v1→v1.cell? ⟨b,1,none⟩=some (.int .u16 (high:Int)):=fun v1 h=>(hV1.trans h).cell HC1.out;have q2:∀v1,Later V1 v1→∀j,v1.cell? ⟨B,j,none⟩=#[Value.pointer (some ⟨b,0,none⟩)][j]? :=fun v1 h=>zAa (zAb (hV1.trans h) HBX.out);refine rX Later.pre 0 ?_;refine rX Later.pre 1 ?_;refine rX Later.pre 2 ?_;refine rX Later.pre 3 ?_;refine rX Later.pre 4 ?_;refine rX Later.pre 5 ?_;refine rX Later.pre 6 ?_;refine rX Later.pre 7 ?_;refine rX Later.pre 8 ?_;refine rX Later.pre 9 ?_;refine rX Later.pre 10 ?_;refine rX Later.pre 11 ?_;refine rX Later.pre 12 ?_;refine rD (fun V2 hV2=>⟨rfl,?_⟩);have L2:=hV1.trans hV2;clear q0 q1 q2 hlh' hh'
 have hwv:IntKind.i64.wrap (IntKind.i64.wrap (IntKind.i64.wrap (high:Int)-IntKind.i64.wrap (low:Int))+1)=(high:Int)-(low:Int)+1:=by
  rw[zMx (high:Int) (by omega) (by omega),zMx (low:Int) (by omega) (by omega),zMx ((high:Int)-(low:Int)) (by omega) (by omega),zMx ((high:Int)-(low:Int)+1) (by omega) (by omega)]
 rw[hwv];clear hwv;generalize IntKind.i64.wrap (IntKind.i64.wrap (high:Int)-IntKind.i64.wrap (low:Int))=z0 at*;generalize IntKind.i64.wrap (high:Int)=z1 at*;generalize IntKind.i64.wrap (low:Int)=z2 at*;generalize hq:(high:Int)-(low:Int)+1=q at*;have HQ:=zAd hq;clear hq;have hkl2:KL n₀ B b W V2:=KL.of L2 hn0;have hJ2:=hJ _ _ _ h0 L2;gi_wp2
 gi_loopw [16] (fun i wr=>∃p:Nat,p≤high-low+1∧i= .int .i64 (p:Int)∧J ((zC1 low high).take p) wr∧KL n₀ B b W wr) (fun i _=>high-low+1-(intOf i).toNat)
 case atStart=>exact⟨0,by omega,rfl,hJ2,hkl2⟩
 case round=>
  obtain⟨p,hp,rfl,hJp,hkp⟩:=hrel;have hnl:(zC1 low high).length=high-low+1:=by unfold zC1;simp
  by_cases hlt:p<high-low+1
  ·have hlt':(p:Int)<q:=by have:=HQ.out;omega
   have hpl:p<(zC1 low high).length:=by omega
   have hnp:(zC1 low high)[p]=low+p:=by
    have h2:(zC1 low high)[p]? =some (low+p):=by unfold zC1;rw[List.getElem?_map,List.getElem?_range hlt];rfl
    rw[List.getElem?_eq_getElem hpl]at h2;exact Option.some.inj h2
   have hat:XM low high ((zC1 low high).take p) (low+p) wr:=⟨(zC1 low high).drop (p+1),by rw[←hnp,←List.drop_eq_getElem_cons hpl,List.take_append_drop]⟩;have htk:(zC1 low high).take (p+1)=(zC1 low high).take p++[low+p]:=by rw[←hnp,List.take_append_getElem hpl]
   obtain⟨fn,tmps,assign,body,hy,hR⟩:=hY _ _ _ hJp hat;dsimp only[encN]at hy
   rw[show ((low+p:Nat):Int)=(low:Int)+(p:Int)from by omega]at hy;have HTK:=zAd htk;have HR:=zAd hR;have c0:=hkp.2 0 (by omega) _ HC0.out;have hbx:=zAa (hkp.1.2 _ HBX.out);have HLT:=zAd hlt
   have hw6:IntKind.u16.wrap ((low:Int)+IntKind.u16.wrap (p:Int))=(low:Int)+(p:Int):=by
    have e1:∀z:Int,IntKind.u16.wrap z=z % 65536:=fun z=>by simp[IntKind.wrap,IntKind.signed,IntKind.bits]
    rw[e1,e1];omega
   have HW6:=zAd hw6;clear hw6;clear hat htk hR hnp hpl hnl hlt hp;gi_wp2
   rw[HW6.out];simp only[hy];refine⟨fun _=>by omega,HR.out.mono ?_⟩;rintro e W3 (⟨rfl,hJ3,hk3⟩|⟨rfl,hJx3⟩)
   ·have hp6:(p:Int)<65536:=by have:=HLT.out;omega
    gi_wp2
    go_roundw
    case rel=>exact⟨p+1,by have:=HLT.out;omega,by go_num,by rw[HTK.out];exact hJ3,hkp.trans hk3⟩
    case measure=>simp[intOf];have:=HLT.out;omega
   ·gi_wp2
    refine bodyPost_ret (results_none rfl _ _ _) rfl ?_;exact⟨⟨_,rfl⟩,.inr ⟨_,trivial,hJx3⟩⟩
  ·obtain rfl:p=high-low+1:=by omega
   have hge:¬((high-low+1:Nat):Int)<q:=by have:=HQ.out;omega
   rw[List.take_of_length_le (by omega)]at hJp;have HJ:=zAd hJp;clear hJp;clear hlt hp hnl;generalize high-low+1=q2 at*;gi_wp2
   go_end0
   first|exact⟨⟨_,rfl⟩,.inl ⟨_,rfl,HJ.out⟩⟩|exact⟨⟨_,rfl⟩,.inl HJ.out⟩
theorem numb_gen(n:Nat)(hn:2≤n)(B b n₀ low high:Nat)(hlh:low≤high)(hh:high<65536)(w:World)(hB:w.heap[B]? =some (.cells #[.pointer (some ⟨b,0,none⟩)] 117 (0,0)))(hn0:n₀≤w.heap.size)(c0:w.cell? ⟨b,0,none⟩=some (.int .u16 (low:Int)))(c1:w.cell? ⟨b,1,none⟩=some (.int .u16 (high:Int))):
  GenX Fence.wide n Tryz.prog 144 #[.pointer (some ⟨B,0,none⟩)] encN (KL n₀ B b) (XM low high) (fun xs=>xs=zC1 low high) (fun _=>True) w:=fun l J Jx W hW hJ hY h0=>
 numb_in n hn l B b n₀ low high hlh hh J Jx hJ hY W (zAb hW hB) (Nat.le_trans hn0 (Below.size hW)) ((show Later w W from hW).cell c0) ((show Later w W from hW).cell c1) h0
attribute [local go_sem] Oper.semAt_some
theorem zMy(low high:Int):Tryz.prog.built 282 [(0,.int .u16 low),(1,.int .u16 high)]=some (Value.int .u16 low:: .int .u16 high::List.replicate 1024 (.int .u64 0)).toArray:=by kernel_rfl
theorem pcl_zero(low high:Int):(Value.int .u16 low:: .int .u16 high::List.replicate 1024 (.int .u64 0))=pcl low high (fun _=>0):=by
 unfold pcl;congr 2
theorem zRa(low high:Int):Tryz.prog.built 282 [(0,.int .u16 low),(1,.int .u16 high)]=some (pcl low high (fun _=>0)).toArray:=by rw[zMy,pcl_zero]
theorem zKu {F:Fence} {n:Nat} {P:Program} {ops:Array Oper} {rest:List Oper} {o:Oper} {a:Act} {Q:Exit→Act→World→Prop} {w:World} (hr:F.round=none)(hg:o.guard=none)(t:TypeId)(parts:Array (Nat × Operand))(ho:o.op= .build t parts)(cs:Array Value)(ps:List (Nat × Value))(hp:(parts.map fun(i,x)=>(i,a.eval x)).toList=ps)(hb:P.built t ps=some cs)
  (hk:wpListIn F n P ops Q rest (a.put o.dst (.agg cs)) w):wpListIn F n P ops Q (o::rest) a w:=wpListIn_plain hg fun K hK=>by
 subst hp
 have h:(o.semAt F.round a.eval).run P w= .ok (.value (.agg cs)) w:=by
  rw[hr];show(execOp a.eval o).run P w=_
  unfold execOp;simp only[ho,Sem.run_bind,run_build w t _ cs hb,Result.andThen_ok,Sem.run_pure]
 unfold Oper.wpIn;rw[h];exact⟨fun f hf=>(by unfold Oper.about at hf;rw[ho]at hf;cases hf),hK _ _ hk⟩
theorem zRb(n:Nat)(b:Nat)(w:World):
  CallsIn Fence.wide n Tryz.prog 90 #[.pointer (some ⟨b,0,none⟩)] w fun e w'=>e= .returned (.func (.func 144) #[] #[.pointer (some ⟨w.heap.size,0,none⟩)])∧w'=w.alloc (.cells #[.pointer (some ⟨b,0,none⟩)] 117):=by
 refine callsIn_of_wp Tryz.func90 rfl trivial ?_ rfl;simp only[Tryz.ntmps90,List.size_toArray,List.length_cons,List.length_nil,Nat.reduceAdd,Nat.reduceSub,Array.replicate_succ,Array.replicate_zero,List.push_toArray,List.append_toArray,List.nil_append,List.cons_append];gi_wp2
 go_ret
 exact⟨rfl,rfl⟩
def wsA (ws:Nat→Nat) (n:Nat):Nat→Nat:=upd ws (n/64) (ws (n/64)|||2^(n % 64))
def zFb (l:List Nat):Nat→Nat:=l.foldl wsA (fun _=>0)
theorem zKv(l:List Nat)(x:Nat):zFb (l++[x])=wsA (zFb l) x:=by unfold zFb;rw[List.foldl_append];rfl
theorem fr_zero(m:Nat):fr (fun _=>0) m=false:=by unfold fr;simp
theorem fr_wsOf(m:Nat)(l:List Nat):fr (zFb l) m=decide (m∈l):=by
 suffices h:∀k:List Nat,fr (zFb k.reverse) m=decide (m∈k.reverse) by simpa using h l.reverse
 intro k
 induction k with
 |nil=>exact fr_zero m
 |cons x k ih=>
  rw[List.reverse_cons,zKv];unfold wsA;rw[fr_add,ih,Bool.eq_iff_iff];simp
theorem zPj {low high m:Nat} (h:low≤high):m∈zC1 low high↔low≤m∧m≤high:=by
 unfold zC1;simp
 constructor
 ·rintro ⟨i,hi,rfl⟩;omega
 ·intro h2;exact⟨m-low,by omega,by omega⟩
def CT (A B:World):Prop:=A.heap.size≤B.heap.size∧∀(k:Nat) (o:Obj),A.heap[k]? =some o→o.isCells=true→B.heap[k]? =some o
theorem CT.of {A B:World} (h:Later A B):CT A B:=⟨h.size,fun k o ho _=>zAb h ho⟩
theorem CT.row {A B:World} {row:Option Nat} (hg:A.grownBy B row)(hr:∀r,row=some r→∃o:Obj,A.heap[r]? =some o∧o.isCells=false):CT A B:=
 ⟨hg.size,fun k o ho hc=>(hg.block k (eS ho) (fun e=>by obtain⟨o',h1,h2⟩:=hr k e.symm;rw[ho]at h1;cases h1;rw[hc]at h2;cases h2)).trans ho⟩
theorem CT.put {A:World} {l:Nat} {o o':Obj} (h:A.heap[l]? =some o)(hc:o.isCells=false):CT A (A.putObj l o'):=
 CT.row (grownBy_putObj' A l o') (fun r e=>by cases e;exact⟨o,h,hc⟩)
def PNw (rb low high:Nat) (pre:List Nat) (W:World):Prop:=PB rb W rb (low:Int) (high:Int) (zFb pre)∧W.heap[rb+1]? =some (.cells #[.pointer (some ⟨rb,0,none⟩)] 117 (0,0))
theorem PNw.ct {rb low high:Nat} {pre:List Nat} {A B:World} (h:PNw rb low high pre A)(c:CT A B):PNw rb low high pre B:=⟨⟨h.1.1,h.1.2.1,c.2 _ _ h.1.2.2 rfl⟩,c.2 _ _ h.2 rfl⟩
theorem kl_put {n₀ B b m:Nat} (hn:n₀≤m)(hB:B<m)(hb:b<m) {W:World} {l:Nat} {o o':Obj} (hl:m≤l)(ho:W.heap[l]? =some o)(hc:o.isCells=false)(hw:o.isWalk=false):KL n₀ B b W (W.putObj l o'):=by
 have hg:=grownBy_putObj' W l o'
 have hblk:∀i,i<m→(W.putObj l o').heap[i]? =W.heap[i]? :=fun i hi=>by
  refine hg.block i ?_ (fun e=>by cases e;omega);have:=(eS ho);omega
 refine⟨⟨⟨hg.os,hg.tape,hg.output,hg.size,fun i hi=>hblk i (by omega)⟩,fun v hv=>(hblk B hB).trans hv⟩,fun i _ v hv=> ?_⟩;unfold World.cell? at hv⊢;rw[hblk b hb];exact hv
set_option maxRecDepth 100000 in
set_option maxHeartbeats 4000000 in
theorem new8_yes(low high:Nat)(hl1:1≤low)(hlh:low≤high)(hh:high<65536)(w:World):
  Calls Tryz.prog 221 #[.int .u16 (low:Int),.int .u16 (high:Int)] w fun e w'=>e= .returned (.pointer (some ⟨w.heap.size,0,none⟩))∧Later w w'∧PB w.heap.size w' w.heap.size low high (zFb (zC1 low high)):=by
 have hl0:¬(low:Int)=0:=by omega
 have hgt:¬(high:Int)<(low:Int):=by omega
 have hb4:Later w (((w.alloc (.cells (pcl (low:Int) (high:Int) (fun _=>0)).toArray 282)).alloc (.cells #[.pointer (some ⟨w.heap.size,0,none⟩)] 117)).alloc (.cells #[.pointer (some ⟨w.heap.size,0,none⟩)] 117)):=((bA _ _).alloc (by simp) _).alloc (by simp<;>omega) _;have c0:(((w.alloc (.cells (pcl (low:Int) (high:Int) (fun _=>0)).toArray 282)).alloc (.cells #[.pointer (some ⟨w.heap.size,0,none⟩)] 117)).alloc (.cells #[.pointer (some ⟨w.heap.size,0,none⟩)] 117)).heap[w.heap.size]? =some (.cells (pcl (low:Int) (high:Int) (fun _=>0)).toArray 282):=(Below.heap_alloc _ _ _ (by simp<;>omega)).trans ((Below.heap_alloc _ _ _ (by simp)).trans (heap_alloc_new w _))
 have c1:(((w.alloc (.cells (pcl (low:Int) (high:Int) (fun _=>0)).toArray 282)).alloc (.cells #[.pointer (some ⟨w.heap.size,0,none⟩)] 117)).alloc (.cells #[.pointer (some ⟨w.heap.size,0,none⟩)] 117)).heap[w.heap.size+1]? =some (.cells #[.pointer (some ⟨w.heap.size,0,none⟩)] 117):=by
  have:=heap_alloc_new (w.alloc (.cells (pcl (low:Int) (high:Int) (fun _=>0)).toArray 282)) (.cells #[.pointer (some ⟨w.heap.size,0,none⟩)] 117);rw[World.size_alloc]at this;exact(Below.heap_alloc _ _ _ (by simp)).trans this
 have c2:(((w.alloc (.cells (pcl (low:Int) (high:Int) (fun _=>0)).toArray 282)).alloc (.cells #[.pointer (some ⟨w.heap.size,0,none⟩)] 117)).alloc (.cells #[.pointer (some ⟨w.heap.size,0,none⟩)] 117)).heap[w.heap.size+1+1]? =some (.cells #[.pointer (some ⟨w.heap.size,0,none⟩)] 117):=by
  have:=heap_alloc_new ((w.alloc (.cells (pcl (low:Int) (high:Int) (fun _=>0)).toArray 282)).alloc (.cells #[.pointer (some ⟨w.heap.size,0,none⟩)] 117)) (.cells #[.pointer (some ⟨w.heap.size,0,none⟩)] 117);simpa only[World.size_alloc]using this
 have hs4:(((w.alloc (.cells (pcl (low:Int) (high:Int) (fun _=>0)).toArray 282)).alloc (.cells #[.pointer (some ⟨w.heap.size,0,none⟩)] 117)).alloc (.cells #[.pointer (some ⟨w.heap.size,0,none⟩)] 117)).heap.size=w.heap.size+1+1+1:=by simp
 have C0:=zAd c0;have C1:=zAd c1;have C2:=zAd c2;have HS4:=zAd hs4;clear c0 c1 c2 hs4;refine(callsIn_wide (n:=5)).1 ?_;refine callsIn_of_wp_marks Tryz.func221 rfl trivial ?_ rfl;simp only[Tryz.ntmps221,List.size_toArray,List.length_cons,List.length_nil,Nat.reduceAdd,Nat.reduceSub,Array.replicate_succ,Array.replicate_zero,List.push_toArray,List.append_toArray,List.nil_append,List.cons_append];gi_wp2_with (first|(refine zKu rfl rfl 282 #[(0,.tmp 14),(1,.tmp 15)] rfl _ [(0,.int .u16 (low:Int)),(1,.int .u16 (high:Int))] (by go_loud (first|rfl|simp[go_sem])) (zRa (low:Int) (high:Int)) ?_)|(refine⟨trivial,?_⟩;gi_at_call 90;refine(zRb _ _ _).mono ?_;rintro e w' ⟨rfl,rfl⟩))
 generalize (((w.alloc (.cells (pcl (low:Int) (high:Int) (fun _=>0)).toArray 282)).alloc (.cells #[.pointer (some ⟨w.heap.size,0,none⟩)] 117)).alloc (.cells #[.pointer (some ⟨w.heap.size,0,none⟩)] 117))=w4 at*;have hs4:w4.heap.size=w.heap.size+1+1+1:=HS4.out;have hPB0:PB w.heap.size w4 w.heap.size (low:Int) (high:Int) (zFb []):=⟨Nat.le_refl _,fun i=>by show 0<_;omega,C0.out⟩
 refine zB7 (w:=w4) rfl (by omega) (gf:=144) (lb:=#[.pointer (some ⟨w.heap.size+1+1,0,none⟩)]) rfl trivial (enters_of Tryz.func144 (by kernel_rfl) rfl)
  (numb_gen 4 (by omega) (w.heap.size+1+1) w.heap.size w.heap.size low high hlh hh w4 C2.out (by omega) hPB0.low hPB0.high)
  (fun h k=>h.trans k) (fun W l o o' hl ho hc hw=>kl_put (by omega) (by omega) (by omega) hl ho hc hw) (fun hA hL=>KL.of hL (by omega)) (fun _ _ _ _ h _=>h) (fun _ _ _ _ _ _ _ _ _ h=>h) (fun _=>rfl)
  (fun pre W=>PNw w.heap.size low high pre W∧Below w.heap.size w W) (fun pre W=>False)
  (OwnFrom.and (fun s A B row hs hg hr=>hs.ct (CT.row hg (fun r e=>(hr r e).2))) (ownFrom_below (Nat.le_refl _) (by omega)))
  (fun s A B h l=>⟨h.1.ct (CT.of l),h.2.trans (l.mono h.2.size)⟩)
  (fun s A B row hs hg hr=>hs)
  ⟨⟨hPB0,C1.out⟩,hb4⟩
  (fun x a' W=>a'= { tmps:=#[.int .u16 (low:Int),.int .u16 (high:Int),undef,undef,.pointer none,.pointer (some ⟨w.heap.size+1,0,none⟩),.int .u16 (x:Int),.int .u16 (low:Int),.bool false,.bool false,.int .u16 (low:Int),.int .u16 (high:Int),.bool false,.bool false,.int .u16 (low:Int),.int .u16 (high:Int),.agg (pcl (low:Int) (high:Int) (fun _=>0)).toArray,.pointer (some ⟨w.heap.size,0,none⟩),.pointer (some ⟨w.heap.size,0,none⟩),.func (.func 144) #[] #[.pointer (some ⟨w.heap.size+1+1,0,none⟩)],.int .u16 (x:Int),undef,undef,undef,undef,undef,undef],defers:=[] })
  (fun x a' W l o o' hl ho hc h=>h) ?assign ?body ?done ?stop
 case assign=>
  rintro l pre x W K hsz _ hX hK;dsimp only[encN]
  gi_wp2
  exact hK _ _ (Later.refl _) rfl
 case body=>
  rintro l pre x a' W ⟨⟨hPB,h1⟩,hbW⟩ hX rfl
  have hxm:x<65536:=by
   obtain⟨rest,e⟩:=hX;have:x∈zC1 low high:=by rw[←e];simp
   have:=(zPj hlh).1 this;omega
  have HAD:=zAd (((callsIn_wide (n:=2)).2 (add_any w.heap.size w.heap.size (low:Int) (high:Int) (zFb pre) x W hPB hxm)).inRound l);have K1:=zAa h1;have hbsz:=hbW.size;gi_wp2
  refine⟨trivial,HAD.out.mono ?_⟩;rintro e W1 ⟨⟨u,rfl⟩,hPB1,hbt1⟩;have hb1:Below w.heap.size W W1:=hbt1.below hbsz (fun k hk e=>by omega);have h11:=(hbt1.block _ (eS h1) (by omega)).trans h1;have hsn:zFb (pre++[x])=upd (zFb pre) (x/64) (zFb pre (x/64)|||2^(x % 64)):=zKv pre x;have HSN:=zAd hsn;clear hsn;gi_wp2
  refine⟨⟨hbt1.size,fun i o hi ho hc=>(hbt1.block i (eS ho) (by omega)).trans ho⟩,⟨⟨hb1,fun o ho=>(hbt1.block _ (eS ho) (by omega)).trans ho⟩,fun i hi v hv=> ?_⟩,⟨by rw[HSN.out];exact hPB1,h11⟩,hbW.trans hb1⟩;rcases(show i=0∨i=1 by omega)with rfl|rfl
  ·rw[hPB.low]at hv
   rw[hPB1.low];exact hv
  ·rw[hPB.high]at hv
   rw[hPB1.high];exact hv
 case done=>
  rintro D xs W hD rfl ⟨⟨hPB,h1⟩,hbW⟩ hK;have K1:=zAa h1;gi_wp2
  refine⟨by simp,.inl ⟨_,_,rfl,run_takeDeferred hK,?_⟩⟩;exact⟨.pointer (some ⟨w.heap.size,0,none⟩),by simp[results,Tryz.results221,go_sem],rfl,hbW.trans (belowK_b (w:=w) (Nat.le_refl _) W D _ _ (by omega) hK rfl rfl),hPB.1,hPB.2.1,(CT.put (o':= .deferred none) hK rfl).2 _ _ hPB.2.2 rfl⟩
 case stop=>
  rintro D pre W hD hSp hF hK;exact hF.elim
attribute [local go_sem] Oper.semAt_some
def fsn (q:Bool) (wish:Nat) (L:List Nat):Nat:=if q then wish else L.head?.getD 0
def fsb (q:Bool) (L:List Nat):Bool:=q|| !L.isEmpty
def XL (L:List Nat) (pre:List Nat) (x:Nat) (_V:World):Prop:=∃rest,pre++x::rest=L
def PF0 (rb:Nat) (pre:List Nat) (W:World):Prop:=pre=[]∧W.heap[rb]? =some (.cells #[.int .u16 0] 22 (0,0))∧W.heap[rb+1]? =some (.cells #[.bool false] 4 (0,0))
theorem PF0.ct {rb:Nat} {pre:List Nat} {A B:World} (h:PF0 rb pre A)(c:CT A B):PF0 rb pre B:=⟨h.1,c.2 _ _ h.2.1 rfl,c.2 _ _ h.2.2 rfl⟩
def PF1 (rb:Nat) (L pre:List Nat) (W:World):Prop:=∃x rest,pre=[x]∧L=x::rest∧W.heap[rb]? =some (.cells #[.int .u16 (x:Int)] 22 (0,0))∧W.heap[rb+1]? =some (.cells #[.bool true] 4 (0,0))
theorem PF1.ct {rb:Nat} {L pre:List Nat} {A B:World} (h:PF1 rb L pre A)(c:CT A B):PF1 rb L pre B:=by
 obtain⟨x,rest,h1,h2,h3,h4⟩:=h;exact⟨x,rest,h1,h2,c.2 _ _ h3 rfl,c.2 _ _ h4 rfl⟩
theorem zMz {W:World} {rb:Nat} {x0:Int} {t0:Bool} (h0:W.heap[rb]? =some (.cells #[.int .u16 x0] 22 (0,0)))(h1:W.heap[rb+1]? =some (.cells #[.bool t0] 4 (0,0)))(x:Int)(t:Bool):
  ((W.setCell ⟨rb,0,none⟩ (.int .u16 x)).setCell ⟨rb+1,0,none⟩ (.bool t)).heap[rb]? =some (.cells #[.int .u16 x] 22 (0,0))∧((W.setCell ⟨rb,0,none⟩ (.int .u16 x)).setCell ⟨rb+1,0,none⟩ (.bool t)).heap[rb+1]? =some (.cells #[.bool t] 4 (0,0))∧But (fun g=>g=rb∨g=rb+1) W ((W.setCell ⟨rb,0,none⟩ (.int .u16 x)).setCell ⟨rb+1,0,none⟩ (.bool t)):=by
 have v0:=zAh h0 0 (.int .u16 x);have v1:=(Below.heap_setCell W ⟨rb,0,none⟩ (.int .u16 x) (rb+1) (by simp)).trans h1;refine⟨(Below.heap_setCell _ ⟨rb+1,0,none⟩ (.bool t) rb (by simp)).trans v0,zAh v1 0 (.bool t),?_⟩;exact((But.refl (fun g=>g=rb∨g=rb+1) W).setCell (p:=⟨rb,0,none⟩) (.inl rfl) _).setCell (p:=⟨rb+1,0,none⟩) (.inr rfl) _
theorem zKw(rb D:Nat)(x:Int)(t:Bool)(W w:World)(hD:rb+1+1≤D)(hb:Below w.heap.size w W)(h1:W.heap[rb]? =some (.cells #[.int .u16 x] 22 (0,0)))(h2:W.heap[rb+1]? =some (.cells #[.bool t] 4 (0,0)))(hK:W.heap[D]? =some (.deferred (some [])))
  (hrb:w.heap.size≤rb)(t0 t1 t2 t3 t4 t5 t8 t9 t10 t11 t12 t13 t14 t15:Value):
  bodyPostM Fence.wide 5 Tryz.prog Tryz.f326 (fun e w'=>e= .returned (.tuple #[.int .u16 x,.bool t])∧Later w w') Exit.ret
   { tmps:=#[t0,t1,t2,t3,t4,t5,.pointer (some ⟨rb,0,none⟩),.pointer (some ⟨rb+1,0,none⟩),t8,t9,t10,t11,t12,t13,t14,t15],defers:=[{ target:= .collected D,args:=#[] }] } W:=by
 refine⟨by simp,.inl ⟨_,_,rfl,run_takeDeferred hK,?_⟩⟩;have z1:=(CT.put (o':= .deferred none) hK rfl).2 _ _ h1 rfl;have z2:=(CT.put (o':= .deferred none) hK rfl).2 _ _ h2 rfl;have k1:=zAa z1;have k2:=zAa z2;refine⟨.tuple #[.int .u16 x,.bool t],by simp[results,Tryz.results326,go_sem,k1,k2],rfl,hb.trans (belowK_b (w:=w) (Nat.le_refl _) W D _ _ (by omega) hK rfl rfl)⟩
set_option maxRecDepth 100000 in
set_option maxHeartbeats 4000000 in
theorem zRc(wish cf gf:Nat)(pb:Value)(lb:Array Value)(q:Bool)(L:List Nat)(Kp:World→World→Prop)(w:World)(eg:∀args w,(callFunc cf args).run Tryz.prog w= .ok (.enter cf args) w)(egf:∀args w,(callFunc gf args).run Tryz.prog w= .ok (.enter gf args) w)
  (hq:∀W,Later w W→Calls Tryz.prog cf #[pb,.int .u16 (wish:Int)] W fun e W'=>e= .returned (.bool q)∧Later W W')
  (hgen:∀w4,Later w w4→GenX Fence.wide 4 Tryz.prog gf lb encN Kp (XL L) (fun xs=>xs=L) (fun _=>True) w4)
  (hKt:∀ {A B C:World},Kp A B→Kp B C→Kp A C)(hKb:∀(w4 W:World) (l:Nat) (o o':Obj),Later w w4→w4.heap.size≤l→W.heap[l]? =some o→o.isCells=false→o.isWalk=false→Kp W (W.putObj l o'))
  (hKl:∀ {w4 A B:World},Later w w4→w4.heap.size≤A.heap.size→Later A B→Kp A B):
  Calls Tryz.prog 326 #[.int .u16 (wish:Int),.func (.func cf) #[pb] #[],.func (.func gf) #[] lb] w fun e w'=>e= .returned (.tuple #[.int .u16 (fsn q wish L:Nat),.bool (fsb q L)])∧Later w w':=by
 refine(callsIn_wide (n:=5)).1 ?_;refine callsIn_of_wp_marks Tryz.func326 rfl trivial ?_ rfl;simp only[Tryz.ntmps326,List.size_toArray,List.length_cons,List.length_nil,Nat.reduceAdd,Nat.reduceSub,Array.replicate_succ,Array.replicate_zero,List.push_toArray,List.append_toArray,List.nil_append,List.cons_append];have hb2:Later w ((w.alloc (.cells #[.int .u16 0] 22)).alloc (.cells #[.bool false] 4)):=(bA _ _).alloc (by simp) _;have c0:((w.alloc (.cells #[.int .u16 0] 22)).alloc (.cells #[.bool false] 4)).heap[w.heap.size]? =some (.cells #[.int .u16 0] 22):=(Below.heap_alloc _ _ _ (by simp)).trans (heap_alloc_new w _)
 have c1:((w.alloc (.cells #[.int .u16 0] 22)).alloc (.cells #[.bool false] 4)).heap[w.heap.size+1]? =some (.cells #[.bool false] 4):=by
  have:=heap_alloc_new (w.alloc (.cells #[.int .u16 0] 22)) (.cells #[.bool false] 4);rw[World.size_alloc]at this;exact this
 have C0:=zAd c0;have C1:=zAd c1;have HQ:=zAd hq;have HEG:=zAd eg;clear c0 c1 hq eg;gi_wp2
 refine⟨trivial,?_⟩;rw[HEG.out];simp only[Oper.uponIn];generalize hw2:(w.alloc (.cells #[.int .u16 0] 22)).alloc (.cells #[.bool false] 4)=w2 at*;clear hw2;refine⟨fun _=>by omega,(callsIn_wide.2 (HQ.out w2 hb2)).mono ?_⟩;rintro e w4 ⟨rfl,l4⟩;have hb4:Later w w4:=hb2.trans l4;have d0:=zAb l4 C0.out;have d1:=zAb l4 C1.out;have hs4:w.heap.size+1+1≤w4.heap.size:=by have:=(eS d1);omega
 cases q with
 |true=>
  have K0:=zAa d0;have K1:=zAa d1;have F0:=zAc d0;have F1:=zAc d1;gi_wp2
  obtain⟨v0,v1,hb5⟩:=zMz d0 d1 (wish:Int) true;generalize (w4.setCell ⟨w.heap.size,0,none⟩ (.int .u16 (wish:Int))).setCell ⟨w.heap.size+1,0,none⟩ (.bool true)=V at*;have k2:=zAa v0;have k3:=zAa v1;exact⟨.tuple #[.int .u16 (wish:Int),.bool true],by simp[results,Tryz.results326,go_sem,k2,k3],rfl,Below.trans hb4 (hb5.below hb4.size (fun k hk e=>by omega))⟩
 | false=>
  gi_wp2
  refine zB7 (w:=w4) rfl (by omega) (gf:=gf) (lb:=lb) rfl trivial egf (hgen w4 hb4) hKt (fun W l o o' hl ho hc hw=>hKb w4 W l o o' hb4 hl ho hc hw) (fun hA hL=>hKl hb4 hA hL) (fun _ _ _ _ h _=>h) (fun _ _ _ _ _ _ _ _ _ h=>h) (fun _=>rfl)
   (fun pre W=>PF0 w.heap.size pre W∧Below w.heap.size w W) (fun pre W=>PF1 w.heap.size L pre W∧Below w.heap.size w W)
   (OwnFrom.and (fun s A B row hs hg hr=>hs.ct (CT.row hg (fun r e=>(hr r e).2))) (ownFrom_below (Nat.le_refl _) (by omega)))
   (fun s A B h l=>⟨h.1.ct (CT.of l),h.2.trans (l.mono h.2.size)⟩)
   (OwnFrom.and (fun s A B row hs hg hr=>hs.ct (CT.row hg (fun r e=>(hr r e).2))) (ownFrom_below (Nat.le_refl _) (by omega)))
   ⟨⟨rfl,d0,d1⟩,hb4⟩
   (fun x a' W=>a'= { tmps:=#[.int .u16 (wish:Int),.func (.func cf) #[pb] #[],.func (.func gf) #[] lb,undef,undef,undef,.pointer (some ⟨w.heap.size,0,none⟩),.pointer (some ⟨w.heap.size+1,0,none⟩),.int .u16 (x:Int),.func (.func cf) #[pb] #[],.int .u16 (wish:Int),.bool false,undef,.func (.func gf) #[] lb,.int .u16 (x:Int),undef],defers:=[] })
   (fun x a' W l o o' hl ho hc h=>h) ?assign ?body ?done ?stop
  case assign=>
   rintro l pre x W K hsz _ hX hK;dsimp only[encN]
   gi_wp2
   exact hK _ _ (Later.refl _) rfl
  case body=>
   rintro l pre x a' W ⟨⟨rfl,h0,h1⟩,hbW⟩ hX rfl;obtain⟨rest,hL⟩:=hX;have K0:=zAa h0;have K1:=zAa h1;have F0:=zAc h0;have F1:=zAc h1;have hbsz:=hbW.size;gi_wp2
   obtain⟨v0,v1,hb5⟩:=zMz h0 h1 (x:Int) true;generalize (W.setCell ⟨w.heap.size,0,none⟩ (.int .u16 (x:Int))).setCell ⟨w.heap.size+1,0,none⟩ (.bool true)=V at*;exact⟨⟨hb5.size,fun i o hi ho hc=>(hb5.block i (eS ho) (by omega)).trans ho⟩,⟨x,rest,rfl,hL.symm,v0,v1⟩,hbW.trans (hb5.below hbsz (fun k hk e=>by omega))⟩
  case done=>
   rintro D xs W hD rfl ⟨⟨hx,h0,h1⟩,hbW⟩ hK;subst hx;have K0:=zAa h0;have K1:=zAa h1;have F0:=zAc h0;have F1:=zAc h1;have hbsz:=hbW.size;gi_wp2
   obtain⟨v0,v1,hb5⟩:=zMz h0 h1 0 false;have hD5:=(hb5.block D (eS hK) (by omega)).trans hK;generalize (W.setCell ⟨w.heap.size,0,none⟩ (.int .u16 0)).setCell ⟨w.heap.size+1,0,none⟩ (.bool false)=V at*;exact zKw w.heap.size D 0 false V w (by omega) (hbW.trans (hb5.below hbsz (fun k hk e=>by omega))) v0 v1 hD5 (Nat.le_refl _) _ _ _ _ _ _ _ _ _ _ _ _ _ _
  case stop=>
   rintro D pre W hD hSp ⟨⟨x,rest,rfl,hL,h0,h1⟩,hbW⟩ hK;subst hL;gi_wp2
   exact zKw w.heap.size D (x:Int) true W w (by omega) hbW h0 h1 hK (Nat.le_refl _) _ _ _ _ _ _ _ _ _ _ _ _ _ _
theorem all8_in(b:Nat)(w:World):Calls Tryz.prog 327 #[.pointer (some ⟨b,2,none⟩)] w fun e w'=>e= .returned (.func (.func 332) #[] #[.pointer (some ⟨w.heap.size,0,none⟩)])∧w'=w.alloc (.cells #[.pointer (some ⟨b,2,none⟩)] 346):=by
 go_enter Tryz.func327,Tryz.ntmps327;go_wp2_with fail;go_ret
 exact⟨rfl,rfl⟩
def wsR (ws:Nat→Nat) (n:Nat):Nat→Nat:=upd ws (n/64) (ws (n/64) &&& (18446744073709551615-2^(n % 64)))
def tkP (base:Nat) (W':World) (b low high:Nat) (ws:Nat→Nat) (q:Bool) (L:List Nat) (n:Nat):Prop:=(fsb q L=false∧PB base W' b (low:Int) (high:Int) ws)∨(fsb q L=true∧PB base W' b (low:Int) (high:Int) (wsR ws n))
def tke (q:Bool) (L:List Nat):Int:=if fsb q L=true then 0 else 9
theorem tke_t {q:Bool} {L:List Nat} (h:fsb q L=true):tke q L=0:=by unfold tke;rw[if_pos h]
theorem tke_f {q:Bool} {L:List Nat} (h:fsb q L=false):tke q L=9:=by unfold tke;rw[if_neg (by rw[h];simp)]
theorem els_lt {ws:Nat→Nat} {x:Nat} (h:x∈els ws):x<65536:=by
 unfold els zFn wel at h;obtain⟨i,hi,hx⟩:=List.mem_flatMap.1 h;obtain⟨j,hj,rfl⟩:=List.mem_map.1 hx;unfold Pm.bl at hj;have h1:=(List.mem_filter.1 hj).1
 simp at hi h1
 omega
set_option maxHeartbeats 4000000 in
theorem zKx(base b low high:Nat)(ws:Nat→Nat)(wish:Nat)(w:World)(hT:PB base w b (low:Int) (high:Int) ws)(hw:wish<65536)(hz:Dz w)(hgb:6≤b:=by omega):
  Calls Tryz.prog 312 #[.pointer (some ⟨b,0,none⟩),.int .u16 (wish:Int)] w fun e w'=>e= .returned (.tuple #[.int .u16 (fsn (fr ws wish) wish (els ws):Nat),.int .i64 (tke (fr ws wish) (els ws))])∧tkP base w' b low high ws (fr ws wish) (els ws) (fsn (fr ws wish) wish (els ws))∧But (fun g=>g=b) w w':=by
 go_enter Tryz.func312,Tryz.ntmps312;go_upto_region 3 with fail;refine zAl (R:=But (fun _=>False)) 15 rfl (by kernel_rfl) ?_;have ld:Later w w.drew:=Later.drew w;have hTd:=hT.later ld;have hzd:=hz.later ld;generalize w.drew=Wd at*;refine tX (But.pre _) 0 ?_;refine tX (But.pre _) 1 ?_;refine tX (But.pre _) 2 ?_;refine tX (But.pre _) 3 ?_;refine tX (But.pre _) 4 ?_;refine tX (But.pre _) 5 ?_;refine tX (But.pre _) 6 ?_;refine tX (But.pre _) 7 ?_;refine tO 8 ?_;refine zAj 327 #[.pointer (some ⟨b,2,none⟩)] (by go_simp) ?_;refine(all8_in b Wd).mono ?_;rintro e W1 ⟨rfl,hW1⟩;have la:Later Wd W1:=by rw[hW1];exact bA _ _
 have hbx:W1.heap[Wd.heap.size]? =some (.cells #[.pointer (some ⟨b,2,none⟩)] 346 (0,0)):=by rw[hW1];exact heap_alloc_new _ _
 clear hW1;refine⟨But.of la,?_⟩;simp only[Act.put,sA,sB,sC];have hT1:=hTd.later la;have hz1:=hzd.later la;have hbl:=hTd.lt;generalize Wd.heap.size=B at*;have hBl:B<W1.heap.size:=(eS hbx)
 have HF:=zAd (zRc wish 145 332 (.pointer (some ⟨b,2,none⟩)) #[.pointer (some ⟨B,0,none⟩)] (fr ws wish) (els ws) (KN (b+1) B) W1
  (enters_of Tryz.func145 (by kernel_rfl) rfl) (enters_of Tryz.func332 (by kernel_rfl) rfl)
  (fun W hW=>has_any base b (low:Int) (high:Int) ws wish W (hT1.later hW) hw)
  (fun w4 h4=>alln_gen 4 (by omega) B b (b+1) base (low:Int) (high:Int) ws w4 (zAb h4 hbx) (by have:=Below.size h4;omega) (hT1.later h4) (by omega) (hz1.later h4) (Nat.lt_succ_of_le hgb))
  (fun h k=>h.trans k) (fun w4 W l o o' h4 hl ho hc hw=>(kl_put (b:=b) (m:=w4.heap.size) (by have:=Below.size h4;omega) (by have:=Below.size h4;omega) (by have:=Below.size h4;omega) hl ho hc hw).1) (fun h4 hA hL=>KN.of hL (by have:=Below.size h4;omega)))
 refine tO 9 ?_;refine zAj 326 #[.int .u16 (wish:Int),.func (.func 145) #[.pointer (some ⟨b,2,none⟩)] #[],.func (.func 332) #[] #[.pointer (some ⟨B,0,none⟩)]] (by go_simp) ?_;refine HF.out.mono ?_;rintro e W2 ⟨rfl,l2⟩;refine⟨But.of l2,?_⟩;simp only[Act.put,sA,sB,sC]
 have hlim:fsb (fr ws wish) (els ws)=true→fsn (fr ws wish) wish (els ws)<65536:=fun h=>by
  unfold fsb at h;unfold fsn;cases hq:fr ws wish with
  |true=>simpa using hw
  | false=>
   rw[hq]at h;cases hL:els ws with
   |nil=>rw[hL]at h;simp at h
   |cons x L=>
    have:x∈els ws:=by rw[hL];simp
    simpa using els_lt this
 have HLM:=zAd hlim;have hbW2:But (fun g=>g=b) w W2:=(But.of ld).trans ((But.of la).trans (But.of l2));have hT2:=hT1.later l2;clear hlim HF la l2 ld hTd hT1 hzd hz1;generalize hqe:fr ws wish=q at*;generalize hLe:els ws=L at*;have HQE:=zAd hqe;have HLE:=zAd hLe;clear hqe hLe;generalize hne:fsn q wish L=n at*;have HNE:=zAd hne;clear hne;cases hbe:fsb q L with
 |true=>
  rw[hbe]at HLM;have hn:=HLM.out rfl;have HBE:=zAd hbe;clear hbe;refine tX (But.pre _) 10 ?_;refine tX (But.pre _) 11 ?_;refine tX (But.pre _) 12 ?_;refine tX (But.pre _) 13 ?_;refine tX (But.pre _) 14 ?_;refine tD ?_;go_wp2_with fail;refine(zQ9 base b (low:Int) (high:Int) ws n W2 hT2 hn).mono ?_;rintro e W3 ⟨⟨v,rfl⟩,hT3,hb3⟩;have hfb:=hbW2.trans hb3;go_wp2_with fail;refine bodyPost_ret (v:= .tuple #[.int .u16 (n:Int),.int .i64 0]) (by simp[results,Tryz.results312,go_sem]) rfl ?_;rw[HQE.out,HLE.out,HNE.out,tke_t HBE.out];exact⟨rfl,.inr ⟨HBE.out,hT3⟩,hfb⟩
 | false=>
  have HBE:=zAd hbe;clear hbe;refine tX (But.pre _) 10 ?_;refine tX (But.pre _) 11 ?_;refine tX (But.pre _) 12 ?_;refine tX (But.pre _) 13 ?_;refine tX (But.pre _) 14 ?_;refine tD ?_;go_wp2_with fail;refine bodyPost_ret (v:= .tuple #[.int .u16 0,.int .i64 9]) (by simp[results,Tryz.results312,go_sem]) rfl ?_;rw[HQE.out,HLE.out,HNE.out,tke_f HBE.out]
  have hn0:n=0:=by
   rw[←HNE.out];have:=HBE.out;unfold fsb at this;unfold fsn;cases q with
   |true=>simp at this
   |false=>
    cases L with
    |nil=>rfl
    |cons x L=>simp at this
  subst hn0;exact⟨rfl,.inl ⟨HBE.out,hT2⟩,hbW2⟩
end Go.Proofs.YteaeilghamjjkaaGreatDoor
