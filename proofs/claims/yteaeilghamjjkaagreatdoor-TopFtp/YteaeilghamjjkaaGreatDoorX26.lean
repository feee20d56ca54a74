import Derived.Test.YteaeilghamjjkaaGreatDoorX27
import Derived.Deep.DeepCutAuto
import Derived.Deep.CutBlock
import Derived.Deep.AppendLies
import Derived.Deep.MidRow
namespace Go.Proofs.YteaeilghamjjkaaGreatDoor
set_option maxHeartbeats 8000000
open Go.RowKit Go.Shelf
set_option maxRecDepth 100000
set_option linter.unusedVariables false
set_option linter.unusedSimpArgs false
def kix (kp ks kd ka kb:Int) (l:List Rw):Option Nat:=l.findIdx? (isK kp ks kd ka kb)
theorem kix_none {kp ks kd ka kb:Int} {l:List Rw} (h:∀j (hj:j<l.length),isK kp ks kd ka kb l[j]=false):kix kp ks kd ka kb l=none:=by
 unfold kix;rw[List.findIdx?_eq_none_iff];intro r hr
 obtain⟨j,hj,rfl⟩:=List.getElem_of_mem hr;exact h j hj
theorem kix_some {kp ks kd ka kb:Int} {l:List Rw} {k:Nat} (hk:k<l.length)(h:∀j (hj:j<l.length),j<k→isK kp ks kd ka kb l[j]=false)(ht:isK kp ks kd ka kb l[k]=true):kix kp ks kd ka kb l=some k:=by
 unfold kix;rw[List.findIdx?_eq_some_iff_getElem];exact⟨hk,ht,fun j hj=>by simpa using h j (by omega) hj⟩
theorem zS2(n₀ g:Nat)(sv:Value)(l:List Rw)(kp ks kd ka kb:Int)(w:World)(hn:n₀≤w.heap.size)(hI:RdR n₀ w sv l)(hg:w.heap[g]? =some (.cells #[.int .u8 kp,.int .u32 ks,.int .u32 kd,.int .u16 ka,.int .u16 kb] 103 (0,0))):
  Calls Tryz.prog 274 #[sv,.func (.func 220) #[] #[.pointer (some ⟨g,0,none⟩)]] w fun e w'=>Below w.heap.size w w'∧((kix kp ks kd ka kb l=none∧e= .returned (.int .i64 (-1)))∨∃k:Nat,kix kp ks kd ka kb l=some k∧k<l.length∧e= .returned (.int .i64 (k:Int))):=by
 obtain⟨a,cap,rfl,hc1,hc2⟩:=hI.slice;have hlb:(l.length:Int)≤9223372036854775807:=by omega
 go_enter Tryz.func274,Tryz.ntmps274;go_wp2_with fail;go_loopw [8] (fun i wr=>∃k:Nat,k≤l.length∧i= .int .i64 (k:Int)∧(∀j (hj:j<l.length),j<k→isK kp ks kd ka kb l[j]=false)∧Below w.heap.size w wr) (fun i _=>l.length-(intOf i).toNat)
 case atStart=>exact⟨0,by omega,rfl,fun j _ h=>by omega,Below.refl _ _⟩
 case round=>
  obtain⟨k,hk,rfl,hz,hbw⟩:=hrel;have HZ:=zAd hz;clear hz;by_cases hlt:k<l.length
  ·obtain ⟨b,off,cp,e,_,_,hbb,hcs⟩:=(hI.below (hbw.mono hn)).cells (by omega)
   simp at e
   obtain⟨rfl,rfl⟩:=e;have hgr:=zAb hbw hg;have c0:=hcs k hlt 0 (by omega);have c1:=hcs k hlt 1 (by omega);have c2:=hcs k hlt 2 (by omega);have c3:=hcs k hlt 3 (by omega);have c4:=hcs k hlt 4 (by omega);have c5:=hcs k hlt 5 (by omega);have c6:=hcs k hlt 6 (by omega);have c7:=hcs k hlt 7 (by omega);have hlt':(k:Int)<l.length:=by omega
   clear hcs;generalize hgo:l[k]=r at*;have HGO:=zAd hgo;clear hgo;have HR:Hid (Value.agg (rwc r).toArray= .agg #[.int .u8 r.p,.int .u32 r.s,.int .u32 r.d,.int .u16 r.a,.int .u16 r.b,.int .i64 r.id,.int .i64 r.till,.int .i64 r.turn]):=rfl;have hci:=is_any r g kp ks kd ka kb wr hgr;rw[HR.out]at hci;simp only[rwc,List.getElem?_cons_zero,List.getElem?_cons_succ,Nat.add_zero]at c0 c1 c2 c3 c4 c5 c6 c7;have HCI:=zAd hci;clear hci;go_wp2_with fail;refine HCI.out.mono ?_;rintro e w' ⟨rfl,hb'⟩;have hw':=hbw.trans (hb'.mono hbw.size);cases ht:isK kp ks kd ka kb r with
   |true=>
    have HTT:=zAd ht;clear ht c0 c1 c2 c3 c4 c5 c6 c7;go_wp2_with fail;go_ret
    exact⟨hw',.inr ⟨k,kix_some hlt HZ.out (by rw[HGO.out];exact HTT.out),hlt,rfl⟩⟩
   |false=>
    have HTT:=zAd ht;clear ht c0 c1 c2 c3 c4 c5 c6 c7;go_wp2_with fail;go_roundw
    case rel=>exact⟨k+1,by omega,by go_num,fun j hj hjk=>by by_cases h:j=k;(subst h;rw[HGO.out];exact HTT.out);exact HZ.out j hj (by omega),hw'⟩
    case measure=>simp[intOf];omega
  ·obtain rfl:k=l.length:=by omega
   go_wp2_with fail;go_ret
   exact⟨hbw,.inl ⟨kix_none (fun j hj=>HZ.out j hj hj),rfl⟩⟩
def TBv (base:Nat) (W:World) (b:Nat) (lim cnt trn:Int) (vs:List Value) (ls:Nat→List Rw):Prop:=
 vs.length=256∧base≤b∧W.heap[b]? =some (.cells (.int .i64 lim:: .int .i64 cnt:: .int .i64 trn::vs).toArray 217 (0,0))∧
 (∀i,i<256→W.ownsRow base 220 8 (vs[i]?.getD undef) (ls i).length (rws (ls i)))∧
 ∀i j,i<256→j<256→i≠j→∀g,(vs[i]?.getD undef).ownBlock=some g→(vs[j]?.getD undef).ownBlock≠some g
def TB (base:Nat) (W:World) (b:Nat) (lim cnt trn:Int) (ls:Nat→List Rw):Prop:=∃vs,TBv base W b lim cnt trn vs ls
theorem zCu {base:Nat} {A B:World} {v:Value} {n:Nat} {xs:List Value} (h:A.ownsRow base 220 8 v n xs)(l:Later A B):B.ownsRow base 220 8 v n xs:=by
 obtain⟨h1,h2|⟨g,cap,cur,hv,hg,hh,r⟩⟩:=h
 ·exact ⟨h1,.inl h2⟩
 ·exact ⟨h1,.inr ⟨g,cap,cur,hv,hg,zAb l hh,r⟩⟩
theorem TBv.later {base:Nat} {A B:World} {b:Nat} {lim cnt trn:Int} {vs:List Value} {ls:Nat→List Rw} (h:TBv base A b lim cnt trn vs ls)(l:Later A B):TBv base B b lim cnt trn vs ls:=
 ⟨h.1,h.2.1,zAb l h.2.2.1,fun i hi=>zCu (h.2.2.2.1 i hi) l,h.2.2.2.2⟩
theorem TBv.cell {base:Nat} {W:World} {b:Nat} {lim cnt trn:Int} {vs:List Value} {ls:Nat→List Rw} (h:TBv base W b lim cnt trn vs ls)(i:Nat)(hi:i<256):W.cell? ⟨b,3+i,none⟩=some (vs[i]?.getD undef):=by
 rw[zAa h.2.2.1];simp only[List.getElem?_toArray];rw[show 3+i=i+1+1+1 from by omega];simp[show i<vs.length from by rw[h.1];exact hi]
theorem zO3(b:Nat)(h:Int)(w:World)(hh:0≤h∧h≤4294967295):
  Calls Tryz.prog 217 #[.pointer (some ⟨b,3,none⟩),.int .u32 h] w fun e w'=>e= .returned (.pointer (some ⟨b,3+(h % 256).toNat,none⟩))∧w'=w:=by
 obtain⟨r,hr⟩:∃r:Nat,h % 256=(r:Int):=⟨(h % 256).toNat,by omega⟩;have hrt:h.tmod 256=(r:Int):=by rw[Int.tmod_eq_emod_of_nonneg hh.1];exact hr
 have hr3:(r:Int)<256:=by omega
 rw[hr,Int.toNat_natCast];have HR:=zAd hr;clear hr;go_enter Tryz.func217,Tryz.ntmps217;go_wp2_with fail;go_ret
 exact⟨by simp,rfl⟩
theorem zS3(base b g:Nat)(lim cnt trn:Int)(vs:List Value)(ls:Nat→List Rw)(h:Int)(kp ks kd ka kb:Int)(w:World)(hT:TBv base w b lim cnt trn vs ls)(hh:0≤h∧h≤4294967295)(hg:w.heap[g]? =some (.cells #[.int .u8 kp,.int .u32 ks,.int .u32 kd,.int .u16 ka,.int .u16 kb] 103 (0,0))):
  Calls Tryz.prog 216 #[.pointer (some ⟨b,3,none⟩),.int .u32 h,.func (.func 220) #[] #[.pointer (some ⟨g,0,none⟩)]] w fun e w'=>Below w.heap.size w w'∧
   ((kix kp ks kd ka kb (ls (h % 256).toNat)=none∧e= .returned (.pointer none))∨∃k g2 cap,kix kp ks kd ka kb (ls (h % 256).toNat)=some k∧k<(ls (h % 256).toNat).length∧vs[(h % 256).toNat]?.getD undef= .slice (some ⟨g2,0,none⟩) (ls (h % 256).toNat).length cap∧e= .returned (.pointer (some ⟨g2,k*8,none⟩))):=by
 have hi:(h % 256).toNat<256:=by omega
 have hc:=hT.cell _ hi;have hO:=hT.2.2.2.1 _ hi;generalize hii:(h % 256).toNat=i at*;have HI:=zAd hii;clear hii;generalize hvs:vs[i]?.getD undef=v at*;have HVS:=zAd hvs;clear hvs;have hR:=zDd hO;have HO:=zAd hO;clear hO;obtain⟨a,cap,rfl,hcp,hcm⟩:=hR.slice;go_enter Tryz.func216,Tryz.ntmps216;go_wp2_with fail;refine(zO3 b h w hh).mono ?_;rw[HI.out];rintro e w1 ⟨rfl,rfl⟩;go_wp2_with fail;refine(zS2 w1.heap.size g _ (ls i) kp ks kd ka kb w1 (Nat.le_refl _) hR hg).mono ?_;rintro e w2 ⟨hb2,⟨hk,rfl⟩|⟨k,hk,hkl,rfl⟩⟩
 ·have HK:=zAd hk
  clear hk hc;go_wp2_with fail;go_ret
  exact⟨hb2,.inl ⟨HK.out,rfl⟩⟩
 ·have HK:=zAd hk
  clear hk hc;obtain⟨_,⟨_,h0⟩|⟨g2,cap2,cur,e2,_⟩⟩:=HO.out
  ·omega
  simp at e2
  obtain⟨rfl,rfl⟩:=e2;have hkl':(k:Int)<(ls i).length:=by omega
  go_wp2_with fail;go_ret
  exact⟨hb2,.inr ⟨k,g2,cap,HK.out,hkl,rfl,rfl⟩⟩
def bki (p s d a b:Int):Nat:=(hsh (tb p s d (kyp p a) b) % 256).toNat
theorem hstep_bd(h x:Int):0≤zBs h x∧zBs h x≤4294967295:=by unfold zBs;omega
theorem hsh_bd(x:Int)(zs:List Int):0≤hsh (zs++[x])∧hsh (zs++[x])≤4294967295:=by
 unfold hsh;rw[List.foldl_append];exact hstep_bd _ _
theorem zS4(p s d a b:Int):0≤hsh (tb p s d a b)∧hsh (tb p s d a b)≤4294967295:=hsh_bd (b % 256) [p,s/16777216,s/65536 % 256,s/256 % 256,s % 256,d/16777216,d/65536 % 256,d/256 % 256,d % 256,a/256,a % 256,b/256]
theorem zDz(p s d a b:Int):bki p s d a b<256:=by have:=zS4 p s d (kyp p a) b;unfold bki;omega
def kx (p s d a b:Int) (ls:Nat→List Rw):Option Nat:=kix p s d (kyp p a) b (ls (bki p s d a b))
theorem zGe(base bt:Nat)(lim cnt trn:Int)(vs:List Value)(ls:Nat→List Rw)(p s d a b:Int)(w:World)(hT:TBv base w bt lim cnt trn vs ls)(hs:0≤s∧s≤4294967295)(hd:0≤d∧d≤4294967295)(ha:0≤a∧a≤65535)(hb:0≤b∧b≤65535):
  Calls Tryz.prog 159 #[.pointer (some ⟨bt,0,none⟩),.agg #[.int .u8 p,.int .u32 s,.int .u32 d,.int .u16 a,.int .u16 b]] w fun e w'=>Below w.heap.size w w'∧
   ((kx p s d a b ls=none∧e= .returned (.pointer none))∨∃k g2 cap,kx p s d a b ls=some k∧k<(ls (bki p s d a b)).length∧vs[bki p s d a b]?.getD undef= .slice (some ⟨g2,0,none⟩) (ls (bki p s d a b)).length cap∧e= .returned (.pointer (some ⟨g2,k*8,none⟩))):=by
 have hb0:Below w.heap.size w (w.alloc (.cells #[.int .u8 p,.int .u32 s,.int .u32 d,.int .u16 a,.int .u16 b] 103)):=bA _ _;have t0:=heap_alloc_new w (.cells #[.int .u8 p,.int .u32 s,.int .u32 d,.int .u16 a,.int .u16 b] 103);have hhb:=zS4 p s d (kyp p a) b;go_enter Tryz.func159,Tryz.ntmps159;go_upto_region 1 with fail;generalize w.alloc (.cells #[.int .u8 p,.int .u32 s,.int .u32 d,.int .u16 a,.int .u16 b] 103)=w0 at*;go_cut [4] (fun v wx=>Later w0 wx∧((kx p s d a b ls=none∧v= .pointer none)∨∃k g2 cap,kx p s d a b ls=some k∧k<(ls (bki p s d a b)).length∧vs[bki p s d a b]?.getD undef= .slice (some ⟨g2,0,none⟩) (ls (bki p s d a b)).length cap∧v= .pointer (some ⟨g2,k*8,none⟩)))
 case first=>
  refine zAn (R:=Later) Later.pre Later.drew 9 rfl (by kernel_rfl) (fun V1 hV1=> ?_);have q0:∀v1,Later V1 v1→∀i,v1.cell? ⟨w.heap.size,i,none⟩=#[Value.int .u8 p,.int .u32 s,.int .u32 d,.int .u16 a,.int .u16 b][i]? :=fun v1 h=>zAa (zAb (hV1.trans h) t0);refine rX Later.pre 0 ?_;refine rX Later.pre 1 ?_;refine rX Later.pre 2 ?_;refine rX Later.pre 3 ?_;refine rX Later.pre 5 ?_;clear q0;refine zAq Later.pre 4 (.int .u32 (hsh (tb p s d (kyp p a) b))) rfl (by kernel_rfl) (by kernel_rfl) (by kernel_rfl) (fun _ _ _ h=>h) rfl (fun w1 hw1=>zAo 161 #[.agg #[.int .u8 p,.int .u32 s,.int .u32 d,.int .u16 a,.int .u16 b]] (by go_simp) ((zO2 p s d a b w1 hs hd ha hb).mono fun e w2 h=>h)) ?_;simp only[Act.put,sA,sB,sC];refine rO 6 (fun V2 hV2=> ?_);refine zAj 162 #[.agg #[.int .u8 p,.int .u32 s,.int .u32 d,.int .u16 a,.int .u16 b]] (by go_simp) ?_;refine(of_key p s d a b V2).mono ?_;rintro e V3 ⟨g,rfl,hb3,hgz,hg3⟩;have l3:Later V2 V3:=hb3;refine⟨l3,?_⟩;simp only[Act.put,sA,sB,sC];refine rO 7 (fun V4 hV4=> ?_);refine zAj 216 #[.pointer (some ⟨bt,3,none⟩),.int .u32 (hsh (tb p s d (kyp p a) b)),.func (.func 220) #[] #[.pointer (some ⟨g,0,none⟩)]] (by go_simp) ?_;have lw:Later w w0:=hb0;have l4:=(hV1.trans hV2).trans (l3.trans hV4);refine(zS3 base bt g lim cnt trn vs ls (hsh (tb p s d (kyp p a) b)) p s d (kyp p a) b V4 (hT.later (lw.trans l4)) hhb (zAb hV4 hg3)).mono ?_
  rw[show (hsh (tb p s d (kyp p a) b) % 256).toNat=bki p s d a b from rfl];rintro e V5 ⟨hb5,hres⟩;have l5:Later V4 V5:=hb5;rcases hres with⟨hk,rfl⟩|⟨k,g2,cap,hk,hkl,hv,rfl⟩
  ·refine ⟨l5,?_⟩
   simp only[Act.put,sA,sB,sC];refine rX Later.pre 8 ?_;refine rD (fun V6 hV6=> ?_);have hl6:=l4.trans (l5.trans hV6);have HK:Hid (kx p s d a b ls=none):=hk;clear hk;go_wp2_with fail;go_meet
   exact⟨hl6,.inl ⟨HK.out,rfl⟩⟩
  ·refine ⟨l5,?_⟩
   simp only[Act.put,sA,sB,sC];refine rX Later.pre 8 ?_;refine rD (fun V6 hV6=> ?_);have hl6:=l4.trans (l5.trans hV6);have HK:Hid (kx p s d a b ls=some k):=hk;have HV:=zAd hv;clear hk hv;go_wp2_with fail;go_meet
   exact⟨hl6,.inr ⟨k,g2,cap,HK.out,hkl,HV.out,rfl⟩⟩
 case rest=>
  obtain⟨lc,hres⟩:=hcut;have hwc:=hb0.trans (lc.mono hb0.size);rcases hres with⟨hk,rfl⟩|⟨k,g2,cap,hk,hkl,hv,rfl⟩
  ·have HK:=zAd hk
   clear hk;go_wp2_with fail;go_ret
   exact⟨hwc,.inl ⟨HK.out,rfl⟩⟩
  ·have HK:=zAd hk
   have HV:=zAd hv;clear hk hv;go_wp2_with fail;go_ret
   exact⟨hwc,.inr ⟨k,g2,cap,HK.out,hkl,HV.out,rfl⟩⟩
theorem TBv.row {base:Nat} {W:World} {b:Nat} {lim cnt trn:Int} {vs:List Value} {ls:Nat→List Rw} (h:TBv base W b lim cnt trn vs ls)(i:Nat)(hi:i<256) {g cap k:Nat} (hv:vs[i]?.getD undef= .slice (some ⟨g,0,none⟩) (ls i).length cap)(hk:k<(ls i).length):∀j,j<8→W.cell? ⟨g,k*8+j,none⟩=(rwc (ls i)[k])[j]? :=by
 have hO:=zDd (h.2.2.2.1 i hi);rw[hv]at hO;obtain⟨b',off,cp,e,_,_,_,hc⟩:=hO.cells (by omega)
 simp at e
 obtain⟨⟨rfl,rfl⟩,rfl⟩:=e;intro j hj
 have:=hc k hk j hj;rwa [Nat.zero_add]at this
def gtv (p s d a b:Int) (ls:Nat→List Rw):Value:=match kx p s d a b ls with|none=> .tuple #[.int .i64 0,.int .i64 0,.bool false]|some k=>match (ls (bki p s d a b))[k]? with|some r=> .tuple #[.int .i64 r.id,.int .i64 r.till,.bool true]|none=>undef
theorem zS5(base bt:Nat)(lim cnt trn:Int)(ls:Nat→List Rw)(p s d a b:Int)(w:World)(hT:TB base w bt lim cnt trn ls)(hs:0≤s∧s≤4294967295)(hd:0≤d∧d≤4294967295)(ha:0≤a∧a≤65535)(hb:0≤b∧b≤65535):
  Calls Tryz.prog 103 #[.pointer (some ⟨bt,0,none⟩),.agg #[.int .u8 p,.int .u32 s,.int .u32 d,.int .u16 a,.int .u16 b]] w fun e w'=>Below w.heap.size w w'∧e= .returned (gtv p s d a b ls):=by
 obtain⟨vs,hT⟩:=hT;have hb0:Below w.heap.size w (w.alloc (.cells #[.int .u8 p,.int .u32 s,.int .u32 d,.int .u16 a,.int .u16 b] 103)):=bA _ _;go_enter Tryz.func103,Tryz.ntmps103;go_wp2_with fail;generalize w.alloc (.cells #[.int .u8 p,.int .u32 s,.int .u32 d,.int .u16 a,.int .u16 b] 103)=w0 at*;have lw:Later w w0:=hb0;refine(zGe base bt lim cnt trn vs ls p s d a b w0 (hT.later lw) hs hd ha hb).mono ?_;rintro e w1 ⟨hb1,⟨hk,rfl⟩|⟨k,g2,cap,hk,hkl,hv,rfl⟩⟩
 ·have l1:Later w0 w1:=hb1
  have hw1:=hb0.trans (hb1.mono hb0.size);have HG:Hid (gtv p s d a b ls= .tuple #[.int .i64 0,.int .i64 0,.bool false]):=by show _=_;unfold gtv;rw[hk]
  clear hk;go_wp2_with fail;exact bodyPost_ret (v:= .tuple #[.int .i64 0,.int .i64 0,.bool false]) (by simp[results,Tryz.results103,go_sem]) rfl ⟨hw1,by rw[HG.out]⟩
 ·have l1:Later w0 w1:=hb1
  have hw1:=hb0.trans (hb1.mono hb0.size);have hT1:=hT.later (lw.trans l1);have hrow:=hT1.row _ (zDz p s d a b) hv hkl;have c5:=hrow 5 (by omega);have c6:=hrow 6 (by omega);have HG:Hid (gtv p s d a b ls= .tuple #[.int .i64 (ls (bki p s d a b))[k].id,.int .i64 (ls (bki p s d a b))[k].till,.bool true]):=by show _=_;unfold gtv;rw[hk];simp[hkl]
  clear hk hrow hv;generalize (ls (bki p s d a b))[k]=r at*;simp only[rwc,List.getElem?_cons_zero,List.getElem?_cons_succ]at c5 c6;go_upto_region 6 with fail;refine zAn (R:=Later) Later.pre Later.drew 11 rfl (by kernel_rfl) (fun V1 hV1=> ?_);have q5:∀v1,Later V1 v1→v1.cell? ⟨g2,k*8+5,none⟩=some (.int .i64 r.id):=fun v1 h=>(hV1.trans h).cell c5;have q6:∀v1,Later V1 v1→v1.cell? ⟨g2,k*8+6,none⟩=some (.int .i64 r.till):=fun v1 h=>(hV1.trans h).cell c6;clear c5 c6;refine rX Later.pre 0 ?_;refine rX Later.pre 1 ?_;refine rX Later.pre 2 ?_;refine rX Later.pre 3 ?_;refine rX Later.pre 4 ?_;refine rX Later.pre 5 ?_;refine rX Later.pre 6 ?_;refine rX Later.pre 7 ?_;refine rX Later.pre 8 ?_;refine rX Later.pre 9 ?_;refine rX Later.pre 10 ?_;refine rD (fun V2 hV2=> ?_);have hw2:=hw1.trans ((hV1.trans hV2).mono hw1.size);clear q5 q6;go_wp2_with fail;exact bodyPost_ret (v:= .tuple #[.int .i64 r.id,.int .i64 r.till,.bool true]) (by simp[results,Tryz.results103,go_sem]) rfl ⟨hw2,by rw[HG.out]⟩
theorem zO4(base bt:Nat)(lim cnt trn:Int)(vs:List Value)(ls:Nat→List Rw)(w:World)(hT:TBv base w bt lim cnt trn vs ls)(htr:0≤trn∧trn≤1000000):
  Calls Tryz.prog 292 #[.pointer (some ⟨bt,0,none⟩)] w fun e w'=>e= .returned (.int .i64 (trn+1))∧But (fun g=>g=bt) w w'∧TBv base w' bt lim cnt (trn+1) vs ls:=by
 have hh:=hT.2.2.1;have k2:w.cell? ⟨bt,2,none⟩=some (.int .i64 trn):=by rw[zAa hh];rfl
 have f2:=zAc hh 2;have hst:=zAh hh 2 (.int .i64 (trn+1));have hbs:But (fun g=>g=bt) w (w.setCell ⟨bt,2,none⟩ (.int .i64 (trn+1))):=(But.refl (fun g=>g=bt) _).setCell (p:=⟨bt,2,none⟩) rfl _
 have hT2:TBv base (w.setCell ⟨bt,2,none⟩ (.int .i64 (trn+1))) bt lim cnt (trn+1) vs ls:=by
  refine⟨hT.1,hT.2.1,by simpa using hst,fun i hi=> ?_,hT.2.2.2.2⟩;obtain⟨h1,h2|⟨g,cap,cur,hv,hg,hh2,r⟩⟩:=hT.2.2.2.1 i hi
  ·exact ⟨h1,.inl h2⟩
  ·have hne:g≠bt:=fun e=>by subst e;rw[hh2]at hh;simp at hh
   exact⟨h1,.inr ⟨g,cap,cur,hv,hg,(hbs.block g (bl9 hh2) hne).trans hh2,r⟩⟩
 have k3:(w.setCell ⟨bt,2,none⟩ (.int .i64 (trn+1))).cell? ⟨bt,2,none⟩=some (.int .i64 (trn+1)):=by rw[zAa hT2.2.2.1];rfl
 have HT2:=zAd hT2;have HB:=zAd hbs;clear hT2 hbs hst hT hh;go_enter Tryz.func292,Tryz.ntmps292;go_wp2_with fail;go_ret
 exact⟨rfl,HB.out,HT2.out⟩
def zEw (till:Int):Bool:=decide (0≤till∧till≤1099511627776)
theorem zKh(till:Int)(w:World):Calls Tryz.prog 291 #[.int .i64 till] w fun e w'=>e= .returned (.bool (zEw till))∧w'=w:=by
 by_cases h1:0≤till
 ·by_cases h2:till≤1099511627776
  ·have HM:Hid (zEw till=true):=by show _=_;unfold zEw;exact decide_eq_true ⟨h1,h2⟩
   go_enter Tryz.func291,Tryz.ntmps291;go_wp2_with fail;go_ret
   exact⟨by rw[HM.out];simp[h1,h2],rfl⟩
  ·have HM:Hid (zEw till=false):=by show _=_;unfold zEw;exact decide_eq_false (fun h=>h2 h.2)
   go_enter Tryz.func291,Tryz.ntmps291;go_wp2_with fail;go_ret
   exact⟨by rw[HM.out];simp[h1,h2],rfl⟩
 ·have HM:Hid (zEw till=false):=by show _=_;unfold zEw;exact decide_eq_false (fun h=>h1 h.1)
  have h1':¬0≤till:=h1;go_enter Tryz.func291,Tryz.ntmps291;go_wp2_with fail;go_ret
  exact⟨by rw[HM.out];simp[h1'],rfl⟩
theorem zQw:Tryz.zeroCells217=(Value.int .i64 0:: .int .i64 0:: .int .i64 0::List.replicate 256 (.slice none 0 0)).toArray:=by kernel_rfl
theorem zO5:(Tryz.prog.info? 220).map (fun i=>(i.zero,i.size,i.bytes))=some (some (.agg #[.int .u8 0,.int .u32 0,.int .u32 0,.int .u16 0,.int .u16 0,.int .i64 0,.int .i64 0,.int .i64 0]),8,40):=by kernel_rfl
theorem new_yes(n:Int)(w:World)(h1:1≤n)(h2:n≤4096):Calls Tryz.prog 93 #[.int .i64 n] w fun e w'=>e= .returned (.pointer (some ⟨w.heap.size,0,none⟩))∧Below w.heap.size w w'∧TB w.heap.size w' w.heap.size n 0 0 (fun _=>[]):=by
 have hb:Below w.heap.size w (w.alloc (.cells (Tryz.zeroCells217.setIfInBounds 0 (.int .i64 n)) 217)):=bA _ _
 have hT:TB w.heap.size (w.alloc (.cells (Tryz.zeroCells217.setIfInBounds 0 (.int .i64 n)) 217)) w.heap.size n 0 0 (fun _=>[]):=by
  refine⟨List.replicate 256 (.slice none 0 0),by simp,Nat.le_refl _,?_,fun i hi=> ?_,fun i j hi hj _ g hg=> ?_⟩
  ·rw[heap_alloc_new,zQw]
   simp
  ·have:(List.replicate 256 (Value.slice none 0 0))[i]?.getD undef= .slice none 0 0:=by rw[List.getElem?_replicate,if_pos hi];rfl
   rw[this];exact World.ownsRow_nil _ _ _ _
  ·have:(List.replicate 256 (Value.slice none 0 0))[i]?.getD undef= .slice none 0 0:=by rw[List.getElem?_replicate,if_pos hi];rfl
   rw[this]at hg;cases hg
 have HT:=zAd hT;clear hT;go_enter Tryz.func93,Tryz.ntmps93;go_wp2_with fail;go_ret
 exact⟨rfl,hb,HT.out⟩
def zSc (ls:Nat→List Rw) (i:Nat) (r:Rw):Nat→List Rw:=fun j=>if j=i then ls i++[r]else ls j
theorem TBv.added {base bt:Nat} {W W6 V:World} {lim cnt trn:Int} {vs:List Value} {ls:Nat→List Rw} (hT:TBv base W bt lim cnt trn vs ls)(i:Nat)(hi:i<256)(r:Rw) {g' cap':Nat}
  (hrow:W6.ownsRow base 220 8 (.slice (some ⟨g',0,none⟩) ((ls i).length+1) cap') ((ls i).length+1) (rws (ls i)++rwc r))(hg:W.grownBy W6 (vs[i]?.getD undef).ownBlock)(hpl:(vs[i]?.getD undef).ownBlock=some g'∨W.heap.size≤g')
  (hbV:But (fun g=>g=bt) W6 V)(hV:V.heap[bt]? =some (.cells (.int .i64 lim:: .int .i64 cnt:: .int .i64 trn::vs.set i (.slice (some ⟨g',0,none⟩) ((ls i).length+1) cap')).toArray 217 (0,0))):
  TBv base V bt lim cnt trn (vs.set i (.slice (some ⟨g',0,none⟩) ((ls i).length+1) cap')) (zSc ls i r):=by
 obtain⟨h1,h2,h3,h4,h5⟩:=hT
 have hb6:W6.heap[bt]? =some (.cells (.int .i64 lim:: .int .i64 cnt:: .int .i64 trn::vs).toArray 217 (0,0)):=by
  refine(hg.block bt (bl9 h3) (fun e=> ?_)).trans h3;obtain⟨_,⟨hn,_⟩|⟨g,cap,cur,hv,_,hh,_⟩⟩:=h4 i hi
  ·rw[hn]at e;cases e
  ·rw[hv]at e
   cases e
   rw[h3]at hh
   simp at hh
 have keep:∀(g:Nat) (cur:Array Value),W6.heap[g]? =some (.cells cur 220 (0,0))→V.heap[g]? =some (.cells cur 220 (0,0)):=fun g cur h=>
  (hbV.block g (bl9 h) (fun e=>by subst e;rw[hb6]at h;simp at h)).trans h
 refine⟨by simpa using h1,h2,hV,fun j hj=> ?_,fun j k hj hk hjk g hg1=> ?_⟩
 ·by_cases hji:j=i
  ·subst hji
   rw[List.getElem?_set_self (by omega)];unfold zSc;rw[if_pos rfl,List.length_append,List.length_singleton,show rws (ls j++[r])=rws (ls j)++rwc r from by simp[rws]];obtain⟨q1,⟨q2,q3⟩|⟨g,cap,cur,hv,hgb,hh,q⟩⟩:=hrow
   ·simp at q2
   ·exact ⟨q1,.inr ⟨g,cap,cur,hv,hgb,keep g cur hh,q⟩⟩
  ·rw[List.getElem?_set_ne (fun e=>hji e.symm)]
   unfold zSc;rw[if_neg hji];obtain⟨q1,q2|⟨g,cap,cur,hv,hgb,hh,q⟩⟩:=h4 j hj
   ·exact ⟨q1,.inl q2⟩
   ·refine ⟨q1,.inr ⟨g,cap,cur,hv,hgb,keep g cur ((hg.block g (bl9 hh) (fun e=> ?_)).trans hh),q⟩⟩
    have:=h5 j i hj hi hji g (by rw[hv];rfl);exact this e.symm
 ·have old:∀j,j<256→∀g,(vs[j]?.getD undef).ownBlock=some g→g<W.heap.size:=fun j hj g h=>by
   obtain⟨_,⟨hn,_⟩|⟨g2,cap,cur,hv,_,hh,_⟩⟩:=h4 j hj
   ·rw[hn]at h;cases h
   ·rw[hv]at h
    cases h
    exact(bl9 hh)
  by_cases hji:j=i
  ·subst hji
   rw[List.getElem?_set_self (by omega)]at hg1;cases hg1
   rw[List.getElem?_set_ne hjk];intro e
   rcases hpl with h|h
   ·exact h5 j k hj hk hjk g' h e
   ·have:=old k hk g' e;omega
  ·rw[List.getElem?_set_ne (fun e=>hji e.symm)]at hg1
   by_cases hki:k=i
   ·subst hki
    rw[List.getElem?_set_self (by omega)];intro e
    cases e
    rcases hpl with h|h
    ·exact h5 j k hj hk hjk g' hg1 h
    ·have:=old j hj g' hg1;omega
   ·rw[List.getElem?_set_ne (fun e=>hki e.symm)]
    exact h5 j k hj hk hjk g hg1
theorem zMg(W:World)(xs:List Value):∀j u,xs[j]? =some u→(W.alloc (.cells xs.toArray 220)).cell? ((⟨W.heap.size,0,none⟩:Addr).add j)=some u:=fun j u hj=>by
 rw[show (⟨W.heap.size,0,none⟩:Addr).add j=⟨W.heap.size,j,none⟩from by unfold Addr.add;split<;>simp_all,zAa (heap_alloc_new W _) j];simpa using hj
theorem tadd_any(base bt:Nat)(lim cnt trn:Int)(vs:List Value)(ls:Nat→List Rw)(h:Int)(i:Nat)(p s d a b id till turn:Int)(w:World)(hT:TBv base w bt lim cnt trn vs ls)(hh:0≤h∧h≤4294967295)(hhi:(h % 256).toNat=i)(hln:(ls i).length≤5000)(hbs:base≤w.heap.size):
  Calls Tryz.prog 330 #[.pointer (some ⟨bt,3,none⟩),.int .u32 h,.agg #[.int .u8 p,.int .u32 s,.int .u32 d,.int .u16 a,.int .u16 b,.int .i64 id,.int .i64 till,.int .i64 turn]] w fun e w'=>e= .returned (.tuple #[])∧TB base w' bt lim cnt trn (zSc ls i ⟨p,s,d,a,b,id,till,turn⟩)∧But (fun g=>g=bt∨(vs[i]?.getD undef).ownBlock=some g) w w':=by
 obtain⟨i0,hi0,hz0,hz1,hz2⟩:=info_parts zO5;have hi:i<256:=by omega
 have HI:=zAd hhi;clear hhi;have hO:=hT.2.2.2.1 i hi;generalize hvs:vs[i]?.getD undef=v at*;have HVS:=zAd hvs;clear hvs;obtain⟨av,cv,rfl,_,_⟩:=(zDd hO).slice
 have HNE:Hid (some bt≠Value.ownBlock (.slice av (ls i).length cv)):=by
  show _≠_
  intro e
  obtain⟨_,⟨hn,_⟩|⟨g,cap,cur,hv,_,hh2,_⟩⟩:=hO
  ·rw[hn]at e;cases e
  ·rw[hv]at e
   cases e
   rw[hT.2.2.1]at hh2
   simp at hh2
 have lb0:Later w (w.alloc (.cells #[.int .u8 p,.int .u32 s,.int .u32 d,.int .u16 a,.int .u16 b,.int .i64 id,.int .i64 till,.int .i64 turn] 220)):=bA _ _;have rb:=heap_alloc_new w (.cells #[.int .u8 p,.int .u32 s,.int .u32 d,.int .u16 a,.int .u16 b,.int .i64 id,.int .i64 till,.int .i64 turn] 220);have HO:=zAd hO;clear hO;go_enter Tryz.func330,Tryz.ntmps330;go_wp2_with fail;generalize w.alloc (.cells #[.int .u8 p,.int .u32 s,.int .u32 d,.int .u16 a,.int .u16 b,.int .i64 id,.int .i64 till,.int .i64 turn] 220)=w0 at*;refine(zO3 bt h w0 hh).mono ?_;rw[HI.out];rintro e w1 ⟨rfl,rfl⟩;go_upto_region 2 with fail;generalize hwx:w1=wx at*;clear hwx;refine zAl (R:=But (fun g=>g=bt∨Value.ownBlock (.slice av (ls i).length cv)=some g)) 9 rfl (by kernel_rfl) ?_;have ld:Later wx wx.drew:=Later.drew wx;have LD:=lb0.trans ld;have rd0:=zAb ld rb;generalize wx.drew=Wd at*;have hTd:=hT.later LD;have hnb:w.heap.size≠bt:=fun e=>by have:=(bl9 hT.2.2.1);omega
 have hnv:Value.ownBlock (.slice av (ls i).length cv)≠some w.heap.size:=fun e=>by have:=(HO.out.lt _ e).2;omega
 have ha:∀v1,But (fun g=>g=bt∨Value.ownBlock (.slice av (ls i).length cv)=some g) Wd v1→∀j,v1.cell? ⟨w.heap.size,j,none⟩=#[Value.int .u8 p,.int .u32 s,.int .u32 d,.int .u16 a,.int .u16 b,.int .i64 id,.int .i64 till,.int .i64 turn][j]? :=fun v1 hv=>zAa ((hv.block w.heap.size (bl9 rd0) (fun hE=>hE.elim hnb hnv)).trans rd0);refine tX (But.pre _) 0 ?_;refine tX (But.pre _) 1 ?_;refine tX (But.pre _) 2 ?_;refine tX (But.pre _) 4 ?_;clear ha;have kd:Wd.cell? ⟨bt,3+i,none⟩=some (.slice av (ls i).length cv):=(hTd.cell i hi).trans (by rw[HVS.out]);refine zBv 3 5 rfl rfl (by kernel_rfl) rfl rfl ?_ ?_
 ·unfold Oper.wp
  go_simp;refine⟨But.refl _ _,?_⟩;clear kd;refine tO 5 ?_;unfold Oper.wp;go_simp;have l1:Later Wd (Wd.alloc (.cells #[.int .u8 p,.int .u32 s,.int .u32 d,.int .u16 a,.int .u16 b,.int .i64 id,.int .i64 till,.int .i64 turn] 220)):=bA _ _;have HN1:=zMg Wd (rwc ⟨p,s,d,a,b,id,till,turn⟩);have LL:=LD.trans l1;refine⟨But.of l1,?_⟩;generalize hW1:Wd.alloc (.cells #[.int .u8 p,.int .u32 s,.int .u32 d,.int .u16 a,.int .u16 b,.int .i64 id,.int .i64 till,.int .i64 turn] 220)=W1 at*;rw[show Wd.alloc (.cells (rwc ⟨p,s,d,a,b,id,till,turn⟩).toArray 220)=W1 from hW1]at HN1;clear hW1;generalize Wd.heap.size=gn at*;have hT1:=hT.later LL;have hO1:=zCu HO.out LL;have hbs1:=Nat.le_trans hbs LL.size;refine tO 6 ?_;refine wp_append_lies W1 (.tmp 13) (.tmp 15) 210 rfl base 220 i0 (.agg #[.int .u8 0,.int .u32 0,.int .u32 0,.int .u16 0,.int .u16 0,.int .i64 0,.int .i64 0,.int .i64 0]) 8 40 Tryz.underlying210 hi0 hz0 hz1 hz2 rfl (by decide) (.slice av (ls i).length cv) (ls i).length (rws (ls i)) rfl hO1 ⟨gn,0,none⟩ 1 1 (rwc ⟨p,s,d,a,b,id,till,turn⟩) rfl rfl HN1 (by intro u hu;simp only[rwc,List.mem_cons,List.not_mem_nil,or_false]at hu;rcases hu with rfl|rfl|rfl|rfl|rfl|rfl|rfl|rfl<;>rfl) (by omega) (by unfold maxLen;omega) (by omega) hbs1 _ rfl ?_;intro g' cap' W6 hrow6 hg6 hpl hlt6
  have hb6:But (fun g=>g=bt∨Value.ownBlock (.slice av (ls i).length cv)=some g) W1 W6:=⟨hg6.os,hg6.tape,hg6.output,hg6.size,fun k hk he=>hg6.block k hk (fun e=>he (.inr e.symm))⟩;refine⟨hb6,?_⟩;simp only[Act.put,sA,sB,sC];have h6:W6.heap[bt]? =some (.cells (.int .i64 lim:: .int .i64 cnt:: .int .i64 trn::vs).toArray 217 (0,0)):=(hg6.block bt (bl9 hT1.2.2.1) HNE.out).trans hT1.2.2.1
  have k6:W6.cell? ⟨bt,3+i,none⟩=some (.slice av (ls i).length cv):=by
   rw[zAa h6,←zAa hT1.2.2.1];exact(hT1.cell i hi).trans (by rw[HVS.out])
  have f6:W6.frozen? ⟨bt,3+i,none⟩=false:=zAc h6 _;refine tX (But.pre _) 7 ?_;refine tO 8 ?_;unfold Oper.wp;go_simp;generalize hV:W6.setCell ⟨bt,3+i,none⟩ _=V;have hV3:=zAh h6 (3+i) (.slice (some ⟨g',0,none⟩) ((ls i).length+1) cap');rw[hV]at hV3;have hbV:But (fun g=>g=bt) W6 V:=by rw[←hV];exact(But.refl (fun g=>g=bt) _).setCell (p:=⟨bt,3+i,none⟩) rfl _
  have hbV2:But (fun g=>g=bt∨Value.ownBlock (.slice av (ls i).length cv)=some g) W6 V:=by rw[←hV];exact(But.refl (fun g=>g=bt∨Value.ownBlock (.slice av (ls i).length cv)=some g) _).setCell (p:=⟨bt,3+i,none⟩) (.inl rfl) _
  refine⟨hbV2,?_⟩;clear hV k6 f6;refine tD ?_
  have hset:(Value.int .i64 lim:: .int .i64 cnt:: .int .i64 trn::vs).toArray.setIfInBounds (3+i) (.slice (some ⟨g',0,none⟩) ((ls i).length+1) cap')=(Value.int .i64 lim:: .int .i64 cnt:: .int .i64 trn::vs.set i (.slice (some ⟨g',0,none⟩) ((ls i).length+1) cap')).toArray:=by
   rw[show 3+i=i+1+1+1 from by omega];simp
  rw[hset]at hV3;have hfin:=hT1.added i hi ⟨p,s,d,a,b,id,till,turn⟩ hrow6 (by rw[HVS.out];exact hg6) (by rw[HVS.out];exact hpl.imp (fun x=>x) (fun h=>by rw[h];exact Nat.le_refl _)) hbV hV3;have hbf:=(But.of LL).trans (hb6.trans hbV2);have HF:=zAd hfin;clear hfin;go_wp2_with fail;go_end0
  exact⟨rfl,⟨_,HF.out⟩,hbf⟩
 ·unfold Oper.wp
  go_simp;have l1:Later Wd (Wd.alloc (.cells #[.int .u8 p,.int .u32 s,.int .u32 d,.int .u16 a,.int .u16 b,.int .i64 id,.int .i64 till,.int .i64 turn] 220)):=bA _ _;have HN1:=zMg Wd (rwc ⟨p,s,d,a,b,id,till,turn⟩);have LL:=LD.trans l1;refine⟨But.of l1,?_⟩;have k1:=l1.cell kd;clear kd;generalize hW1:Wd.alloc (.cells #[.int .u8 p,.int .u32 s,.int .u32 d,.int .u16 a,.int .u16 b,.int .i64 id,.int .i64 till,.int .i64 turn] 220)=W1 at*;rw[show Wd.alloc (.cells (rwc ⟨p,s,d,a,b,id,till,turn⟩).toArray 220)=W1 from hW1]at HN1;clear hW1;generalize Wd.heap.size=gn at*;refine tO 3 ?_;unfold Oper.wp;go_simp;refine⟨But.refl _ _,?_⟩;clear k1;have hT1:=hT.later LL;have hO1:=zCu HO.out LL;have hbs1:=Nat.le_trans hbs LL.size;refine tO 6 ?_;refine wp_append_lies W1 (.tmp 13) (.tmp 15) 210 rfl base 220 i0 (.agg #[.int .u8 0,.int .u32 0,.int .u32 0,.int .u16 0,.int .u16 0,.int .i64 0,.int .i64 0,.int .i64 0]) 8 40 Tryz.underlying210 hi0 hz0 hz1 hz2 rfl (by decide) (.slice av (ls i).length cv) (ls i).length (rws (ls i)) rfl hO1 ⟨gn,0,none⟩ 1 1 (rwc ⟨p,s,d,a,b,id,till,turn⟩) rfl rfl HN1 (by intro u hu;simp only[rwc,List.mem_cons,List.not_mem_nil,or_false]at hu;rcases hu with rfl|rfl|rfl|rfl|rfl|rfl|rfl|rfl<;>rfl) (by omega) (by unfold maxLen;omega) (by omega) hbs1 _ rfl ?_;intro g' cap' W6 hrow6 hg6 hpl hlt6
  have hb6:But (fun g=>g=bt∨Value.ownBlock (.slice av (ls i).length cv)=some g) W1 W6:=⟨hg6.os,hg6.tape,hg6.output,hg6.size,fun k hk he=>hg6.block k hk (fun e=>he (.inr e.symm))⟩;refine⟨hb6,?_⟩;simp only[Act.put,sA,sB,sC];have h6:W6.heap[bt]? =some (.cells (.int .i64 lim:: .int .i64 cnt:: .int .i64 trn::vs).toArray 217 (0,0)):=(hg6.block bt (bl9 hT1.2.2.1) HNE.out).trans hT1.2.2.1
  have k6:W6.cell? ⟨bt,3+i,none⟩=some (.slice av (ls i).length cv):=by
   rw[zAa h6,←zAa hT1.2.2.1];exact(hT1.cell i hi).trans (by rw[HVS.out])
  have f6:W6.frozen? ⟨bt,3+i,none⟩=false:=zAc h6 _;refine tX (But.pre _) 7 ?_;refine tO 8 ?_;unfold Oper.wp;go_simp;generalize hV:W6.setCell ⟨bt,3+i,none⟩ _=V;have hV3:=zAh h6 (3+i) (.slice (some ⟨g',0,none⟩) ((ls i).length+1) cap');rw[hV]at hV3;have hbV:But (fun g=>g=bt) W6 V:=by rw[←hV];exact(But.refl (fun g=>g=bt) _).setCell (p:=⟨bt,3+i,none⟩) rfl _
  have hbV2:But (fun g=>g=bt∨Value.ownBlock (.slice av (ls i).length cv)=some g) W6 V:=by rw[←hV];exact(But.refl (fun g=>g=bt∨Value.ownBlock (.slice av (ls i).length cv)=some g) _).setCell (p:=⟨bt,3+i,none⟩) (.inl rfl) _
  refine⟨hbV2,?_⟩;clear hV k6 f6;refine tD ?_
  have hset:(Value.int .i64 lim:: .int .i64 cnt:: .int .i64 trn::vs).toArray.setIfInBounds (3+i) (.slice (some ⟨g',0,none⟩) ((ls i).length+1) cap')=(Value.int .i64 lim:: .int .i64 cnt:: .int .i64 trn::vs.set i (.slice (some ⟨g',0,none⟩) ((ls i).length+1) cap')).toArray:=by
   rw[show 3+i=i+1+1+1 from by omega];simp
  rw[hset]at hV3;have hfin:=hT1.added i hi ⟨p,s,d,a,b,id,till,turn⟩ hrow6 (by rw[HVS.out];exact hg6) (by rw[HVS.out];exact hpl.imp (fun x=>x) (fun h=>by rw[h];exact Nat.le_refl _)) hbV hV3;have hbf:=(But.of LL).trans (hb6.trans hbV2);have HF:=zAd hfin;clear hfin;go_wp2_with fail;go_end0
  exact⟨rfl,⟨_,HF.out⟩,hbf⟩
def zQx (lim cnt:Int) (ls:Nat→List Rw) (p s d a b till:Int):Int:=if zEw till=false then 2 else if kx p s d a b ls≠none then 10 else if lim≤cnt then 9 else 0
theorem TBv.but {base bt:Nat} {W V:World} {lim cnt trn c2:Int} {vs:List Value} {ls:Nat→List Rw} (hT:TBv base W bt lim cnt trn vs ls)(hb:But (fun g=>g=bt) W V)(hV:V.heap[bt]? =some (.cells (.int .i64 lim:: .int .i64 c2:: .int .i64 trn::vs).toArray 217 (0,0))):TBv base V bt lim c2 trn vs ls:=by
 refine⟨hT.1,hT.2.1,hV,fun i hi=> ?_,hT.2.2.2.2⟩;obtain⟨h1,h2|⟨g,cap,cur,hv,hg,hh2,r⟩⟩:=hT.2.2.2.1 i hi
 ·exact ⟨h1,.inl h2⟩
 ·have hne:g≠bt:=fun e=>by subst e;have:=hT.2.2.1;rw[hh2]at this;simp at this
  exact⟨h1,.inr ⟨g,cap,cur,hv,hg,(hb.block g (bl9 hh2) hne).trans hh2,r⟩⟩
theorem tput_any(base bt:Nat)(lim cnt trn:Int)(vs:List Value)(ls:Nat→List Rw)(p s d a b id till:Int)(w:World)(hT:TBv base w bt lim cnt trn vs ls)(hs:0≤s∧s≤4294967295)(hd:0≤d∧d≤4294967295)(ha:0≤a∧a≤65535)(hb:0≤b∧b≤65535)(hbs:base≤w.heap.size)(htr:0≤trn∧trn≤1000000)(hcn:0≤cnt∧cnt≤4096)(hlm:lim≤4096)(hln:(ls (bki p s d a b)).length≤5000):
  Calls Tryz.prog 314 #[.pointer (some ⟨bt,0,none⟩),.agg #[.int .u8 p,.int .u32 s,.int .u32 d,.int .u16 a,.int .u16 b],.int .i64 id,.int .i64 till] w fun e w'=>e= .returned (.int .i64 (zQx lim cnt ls p s d a b till))∧
   ((zQx lim cnt ls p s d a b till≠0∧TBv base w' bt lim cnt trn vs ls∧Below w.heap.size w w')∨(zQx lim cnt ls p s d a b till=0∧TB base w' bt lim (cnt+1) (trn+1) (zSc ls (bki p s d a b) ⟨p,s,d,kyp p a,b,id,till,trn+1⟩)∧But (fun g=>g=bt∨(vs[bki p s d a b]?.getD undef).ownBlock=some g) w w')):=by
 have lb0:Later w (w.alloc (.cells #[.int .u8 p,.int .u32 s,.int .u32 d,.int .u16 a,.int .u16 b] 103)):=bA _ _;have t0:=heap_alloc_new w (.cells #[.int .u8 p,.int .u32 s,.int .u32 d,.int .u16 a,.int .u16 b] 103);go_enter Tryz.func314,Tryz.ntmps314;go_wp2_with fail;generalize w.alloc (.cells #[.int .u8 p,.int .u32 s,.int .u32 d,.int .u16 a,.int .u16 b] 103)=w0 at*;refine(zKh till w0).mono ?_;rintro e w1 ⟨rfl,rfl⟩;have hT1:=hT.later lb0;cases hm:zEw till with
 |false=>
  have HQ:Hid (zQx lim cnt ls p s d a b till=2):=if_pos hm;clear hm;go_wp2_with fail;go_ret
  exact⟨by rw[HQ.out];rfl,.inl ⟨by rw[HQ.out];decide,hT1,lb0⟩⟩
 | true=>
  have k0:=zAa t0;go_wp2_with fail;clear k0;refine(zGe base bt lim cnt trn vs ls p s d a b w1 hT1 hs hd ha hb).mono ?_;rintro e w2 ⟨hb2,⟨hk,rfl⟩|⟨k,g2,cap,hk,hkl,hv,rfl⟩⟩
  ·have l2:Later w1 w2:=hb2
   have L2:=lb0.trans l2;have hT2:=hT.later L2;have t2:=zAb l2 t0;have c1:w2.cell? ⟨bt,1,none⟩=some (.int .i64 cnt):=by rw[zAa hT2.2.2.1];rfl
   have c0:w2.cell? ⟨bt,0,none⟩=some (.int .i64 lim):=by rw[zAa hT2.2.2.1];rfl
   have HP:Hid (zQx lim cnt ls p s d a b till=if lim≤cnt then 9 else 0):=by show _=_;unfold zQx;rw[hm,hk];simp
   clear hm hk;go_upto_region 7 with fail;refine zAn (R:=Later) Later.pre Later.drew 10 rfl (by kernel_rfl) (fun V1 hV1=> ?_);have q1:∀v1,Later V1 v1→v1.cell? ⟨bt,1,none⟩=some (.int .i64 cnt):=fun v1 h=>(hV1.trans h).cell c1;have q0:∀v1,Later V1 v1→v1.cell? ⟨bt,0,none⟩=some (.int .i64 lim):=fun v1 h=>(hV1.trans h).cell c0;clear c0 c1;refine rX Later.pre 0 ?_;refine rX Later.pre 1 ?_;refine rX Later.pre 2 ?_;refine rX Later.pre 3 ?_;refine rX Later.pre 4 ?_;refine rX Later.pre 5 ?_;refine rX Later.pre 6 ?_;refine rX Later.pre 7 ?_;refine rX Later.pre 8 ?_;refine rX Later.pre 9 ?_;refine rD (fun V2 hV2=> ?_);clear q0 q1;have L3:=L2.trans (hV1.trans hV2);have t3:=zAb (hV1.trans hV2) t2;have hT3:=hT.later L3;by_cases hful:lim≤cnt
   ·have HQ:Hid (zQx lim cnt ls p s d a b till=9):=HP.out.trans (if_pos hful)
    go_wp2_with fail;go_ret
    exact⟨by rw[HQ.out];rfl,.inl ⟨by rw[HQ.out];decide,hT3,L3⟩⟩
   ·have HQ:Hid (zQx lim cnt ls p s d a b till=0):=HP.out.trans (if_neg hful)
    have hnb:w.heap.size≠bt:=fun e=>by have:=(bl9 hT.2.2.1);omega
    have hnv:(vs[bki p s d a b]?.getD undef).ownBlock≠some w.heap.size:=fun e=>by have:=((hT.2.2.2.1 _ (zDz p s d a b)).lt _ e).2;omega
    go_upto_region 9 with fail;refine zAl (R:=But (fun g=>g=bt∨(vs[bki p s d a b]?.getD undef).ownBlock=some g)) 13 rfl (by kernel_rfl) ?_;have ld:Later V2 V2.drew:=Later.drew V2;have td:=zAb ld t3;have LD:=L3.trans ld;generalize V2.drew=Wd at*;have hq:∀v1,But (fun g=>g=bt∨(vs[bki p s d a b]?.getD undef).ownBlock=some g) Wd v1→∀j,v1.cell? ⟨w.heap.size,j,none⟩=#[Value.int .u8 p,.int .u32 s,.int .u32 d,.int .u16 a,.int .u16 b][j]? :=fun v1 hv=>zAa ((hv.block w.heap.size (bl9 td) (fun hE=>hE.elim hnb hnv)).trans td);refine tX (But.pre _) 0 ?_;refine tX (But.pre _) 1 ?_;refine tX (But.pre _) 2 ?_;refine tX (But.pre _) 3 ?_;refine tX (But.pre _) 5 ?_;refine tX (But.pre _) 7 ?_;refine tX (But.pre _) 8 ?_;refine tX (But.pre _) 9 ?_;clear hq;refine tO 4 ?_;refine zAj 161 #[.agg #[.int .u8 p,.int .u32 s,.int .u32 d,.int .u16 a,.int .u16 b]] (by go_simp) ?_;refine(zO2 p s d a b Wd hs hd ha hb).mono ?_;rintro e W1 ⟨rfl,hb1⟩;have k1:Later Wd W1:=hb1;refine⟨But.of k1,?_⟩;simp only[Act.put,sA,sB,sC];refine tO 6 ?_;refine zAj 104 #[.agg #[.int .u8 p,.int .u32 s,.int .u32 d,.int .u16 a,.int .u16 b]] (by go_simp) ?_;refine(zD8 p s d a b W1).mono ?_;rintro e W2 ⟨rfl,hb2'⟩;have k2:Later W1 W2:=hb2';refine⟨But.of k2,?_⟩;simp only[Act.put,sA,sB,sC];have LW2:=LD.trans (k1.trans k2);refine tO 10 ?_;refine zAj 292 #[.pointer (some ⟨bt,0,none⟩)] (by go_simp) ?_;refine(zO4 base bt lim cnt trn vs ls W2 (hT.later LW2) htr).mono ?_
    rintro e W3 ⟨rfl,hb3,hT4⟩;have hb3':But (fun g=>g=bt∨(vs[bki p s d a b]?.getD undef).ownBlock=some g) W2 W3:=⟨hb3.os,hb3.tape,hb3.output,hb3.size,fun k hk he=>hb3.block k hk (fun e=>he (.inl e))⟩;refine⟨hb3',?_⟩;simp only[Act.put,sA,sB,sC];refine tX (But.pre _) 11 ?_;refine tO 12 ?_;refine zAj 330 #[.pointer (some ⟨bt,3,none⟩),.int .u32 (hsh (tb p s d (kyp p a) b)),.agg #[.int .u8 p,.int .u32 s,.int .u32 d,.int .u16 (kyp p a),.int .u16 b,.int .i64 id,.int .i64 till,.int .i64 (trn+1)]] (by go_simp) ?_;refine(tadd_any base bt lim cnt (trn+1) vs ls (hsh (tb p s d (kyp p a) b)) (bki p s d a b) p s d (kyp p a) b id till (trn+1) W3 hT4 (zS4 _ _ _ _ _) rfl hln (Nat.le_trans (Nat.le_trans hbs LW2.size) hb3.size)).mono ?_;rintro e W4 ⟨rfl,⟨vs4,hT5⟩,hb4⟩;refine⟨hb4,?_⟩;simp only[Act.put,sA,sB,sC];refine tD ?_;have hbt:But (fun g=>g=bt∨(vs[bki p s d a b]?.getD undef).ownBlock=some g) w W4:=(But.of LW2).trans (hb3'.trans hb4);have hh5:=hT5.2.2.1;have c1:W4.cell? ⟨bt,1,none⟩=some (.int .i64 cnt):=by rw[zAa hh5];rfl
    have f1:=zAc hh5 1;have hst:=zAh hh5 1 (.int .i64 (cnt+1));have hb5:But (fun g=>g=bt) W4 (W4.setCell ⟨bt,1,none⟩ (.int .i64 (cnt+1))):=(But.refl (fun g=>g=bt) _).setCell (p:=⟨bt,1,none⟩) rfl _;have hb5':But (fun g=>g=bt∨(vs[bki p s d a b]?.getD undef).ownBlock=some g) W4 (W4.setCell ⟨bt,1,none⟩ (.int .i64 (cnt+1))):=⟨hb5.os,hb5.tape,hb5.output,hb5.size,fun k hk he=>hb5.block k hk (fun e=>he (.inl e))⟩;have hT6:=hT5.but (c2:=cnt+1) hb5 (by simpa using hst);have HT6:=zAd hT6;have HB6:=zAd (hbt.trans hb5');clear hT6 hb5 hb5' hst hh5 hT5;go_wp2_with fail;go_ret
    exact⟨by rw[HQ.out];rfl,.inr ⟨HQ.out,⟨_,HT6.out⟩,HB6.out⟩⟩
  ·have l2:Later w1 w2:=hb2
   have HQ:Hid (zQx lim cnt ls p s d a b till=10):=by show _=_;unfold zQx;rw[hm,hk];simp
   have L2:=lb0.trans l2;have hT2:=hT.later L2;clear hm hk hv;go_wp2_with fail;go_ret
   exact⟨by rw[HQ.out];rfl,.inl ⟨by rw[HQ.out];decide,hT2,L2⟩⟩
theorem zS6(n:Nat)(w:World)(hn:n≤12):Calls Tryz.prog 200 #[.int .u64 (n:Int)] w fun e w'=>(∃v,e= .returned (.int .i64 v))∧w'=w:=by
 have hc:n=0∨n=1∨n=2∨n=3∨n=4∨n=5∨n=6∨n=7∨n=8∨n=9∨n=10∨n=11∨n=12:=by omega
 clear hn;rcases hc with rfl|rfl|rfl|rfl|rfl|rfl|rfl|rfl|rfl|rfl|rfl|rfl|rfl
 all_goals
  go_enter Tryz.func200,Tryz.ntmps200;go_wp2_with fail;go_ret
  exact⟨⟨_,rfl⟩,rfl⟩
theorem len_few(n:Nat)(w:World)(hn:n≤12):Calls Tryz.prog 156 #[.int .u64 (n:Int)] w fun e w'=>(∃v,e= .returned (.int .i64 v))∧w'=w:=by
 go_enter Tryz.func156,Tryz.ntmps156;go_wp2_with fail;refine(zS6 n w hn).mono ?_;rintro e w1 ⟨⟨v,rfl⟩,rfl⟩;go_wp2_with fail;go_ret
 exact⟨⟨_,rfl⟩,rfl⟩
attribute [local go_sem] Oper.semAt_some
def zE5 (ls:Nat→List Rw):List Rw:=(List.range 256).flatMap ls
def zHc (ls:Nat→List Rw) (i:Nat):List Rw:=(List.range i).flatMap ls
theorem zHq(ls:Nat→List Rw)(i:Nat):zHc ls (i+1)=zHc ls i++ls i:=by
 unfold zHc;rw[List.range_succ,List.flatMap_append];simp
theorem allR_at(ls:Nat→List Rw)(i k:Nat)(hi:i<256)(hk:k<(ls i).length):∃rest,(zHc ls i++(ls i).take k)++(ls i)[k]::rest=zE5 ls:=by
 obtain⟨m,hm⟩:∃m,256=i+1+m:=⟨255-i,by omega⟩
 have e:zE5 ls=zHc ls (i+1)++((List.range m).map (i+1+ ·)).flatMap ls:=by
  unfold zE5 zHc;rw[hm,List.range_add,List.flatMap_append]
 refine⟨(ls i).drop (k+1)++((List.range m).map (i+1+ ·)).flatMap ls,?_⟩;rw[e,zHq]
 have h2:ls i=(ls i).take k++(ls i)[k]::(ls i).drop (k+1):=by
  rw[←List.drop_eq_getElem_cons hk,List.take_append_drop]
 rw[List.append_assoc,List.append_assoc];congr 1
 rw[←List.cons_append,←List.append_assoc,←h2]
def encR (r:Rw):Array Value:=#[.agg (rwc r).toArray]
def XR (ls:Nat→List Rw) (pre:List Rw) (x:Rw) (_V:World):Prop:=∃rest,pre++x::rest=zE5 ls
theorem zEk {F:Fence} {n:Nat} {P:Program} {ops:Array Oper} {rest:List Oper} {o:Oper} {a:Act} {Q:Exit→Act→World→Prop} {w:World} (k:Nat)(hd:o.dst=some k)(hg:o.guard=none)(v:Value)(ha:o.about P w a.eval=none)(h:(o.semAt F.round a.eval).run P w= .ok (.value v) w)
  (hk:wpListIn F n P ops Q rest (a.put o.dst v) w):wpListIn F n P ops Q (o::rest) a w:=wpListIn_plain hg fun K hK=>by unfold Oper.wpIn;rw[h];exact⟨fun f hf=>(by rw[ha]at hf;cases hf),hK _ _ hk⟩
theorem idx_arr(vs:List Value)(i:Nat)(w:World)(hv:vs.length=256)(hi:i<256):(Instr.index 213 (.agg vs.toArray) (.int .i64 (i:Int))).run Tryz.prog w= .ok (vs[i]?.getD undef) w:=by
 have h1:(i:Int)<256:=by omega
 have h2:i<vs.length:=by omega
 simp[Instr.index,go_sem,h1,h2,hv,hi]
theorem all1_in(n:Nat)(hn:1≤n)(l B bt n₀:Nat)(vs:List Value)(ls:Nat→List Rw)(hv:vs.length=256)(J Jx:List Rw→World→Prop)
  (hJ:∀s A B,J s A→Later A B→J s B)
  (hY:∀pre x V,J pre V→XR ls pre x V→YieldAt Fence.wide (n-1) Tryz.prog l (encR x) V fun e V'=>(e= .returned (.bool true)∧J (pre++[x]) V'∧Below n₀ V V')∨(e= .returned (.bool false)∧Jx (pre++[x]) V'))
  (W:World)(hB:W.cell? ⟨B,0,none⟩=some (.pointer (some ⟨bt,3,none⟩)))(hn0:n₀≤W.heap.size)(hc:∀i,i<256→W.cell? ⟨bt,3+i,none⟩=some (vs[i]?.getD undef))(hR:∀i,i<256→RdR n₀ W (vs[i]?.getD undef) (ls i))(h0:J [] W):
  CallsIn Fence.wide n Tryz.prog 154 #[.func (.yield l) #[] #[],.pointer (some ⟨B,0,none⟩)] W fun e W'=>(∃v,e= .returned v)∧((∃xs,xs=zE5 ls∧J xs W')∨(∃pre,True∧Jx pre W')):=by
 have hra:W.rangeAt bt 3 vs:=fun j v hj=>by
  have hlt:j<256:=by have:=(List.getElem?_eq_some_iff.1 hj).1;omega
  rw[hc j hlt,hj];rfl
 have hL:(Instr.loadAt 213 (.pointer (some ⟨bt,3,none⟩))).run Tryz.prog W= .ok (.agg vs.toArray) W:=run_loadAt_mid W bt 3 _ vs _ hra Tryz.underlying213 rfl (by rw[hv];kernel_rfl);have HC:=zAd hc;have HR:=zAd hR;have HL:=zAd hL;clear hc hR hra hL;refine callsIn_of_wp Tryz.func154 rfl trivial ?_ rfl;simp only[Tryz.ntmps154,List.size_toArray,List.length_cons,List.length_nil,Nat.reduceAdd,Nat.reduceSub,Array.replicate_succ,Array.replicate_zero,List.push_toArray,List.append_toArray,List.nil_append,List.cons_append];gi_wp2_with (refine zEk 10 rfl rfl (.agg vs.toArray) rfl (by go_loud (show Sem.run _ (Instr.loadAt 213 (.pointer (some ⟨bt,3,none⟩))>>=fun v=>pure (Next.value v)) _=_;rw[Sem.run_bind,HL.out];rfl)) ?_)
 gi_loopw [11] (fun i wr=>∃p:Nat,p≤256∧i= .int .i64 (p:Int)∧J (zHc ls p) wr∧Below n₀ W wr) (fun i _=>256-(intOf i).toNat)
 case atStart=>exact⟨0,by omega,rfl,h0,Below.refl _ _⟩
 case round=>
  obtain⟨p,hp,rfl,hJp,hbp⟩:=hrel;by_cases hlt:p<256
  ·have hlt':(p:Int)<256:=by omega
   have hRp:=(HR.out p hlt).below hbp;have hix:=idx_arr vs p wr hv hlt;generalize hvp:vs[p]?.getD undef=v at*;obtain⟨sa,cap,rfl,hc1,hc2⟩:=hRp.slice;have HIX:=zAd hix;have HRP:=zAd hRp;have HVP:=zAd hvp;clear hvp hix hRp;gi_wp2_with (refine zEk 13 rfl rfl (.slice sa (ls p).length cap) rfl (by go_loud (show Sem.run _ (Instr.index 213 (.agg vs.toArray) (.int .i64 (p:Int))>>=fun v=>pure (Next.value v)) _=_;rw[Sem.run_bind,HIX.out];rfl)) ?_)
   rename World=>w1
   gi_loopw [16] (fun i wx=>∃k:Nat,k≤(ls p).length∧i= .int .i64 (k:Int)∧J (zHc ls p++(ls p).take k) wx∧Below n₀ W wx) (fun i _=>(ls p).length-(intOf i).toNat)
   case atStart=>exact⟨0,by omega,rfl,by rw[List.take_zero,List.append_nil];exact hJp,hbp⟩
   case round=>
    obtain⟨k,hk,rfl,hJk,hbk⟩:=hrel;by_cases hkl:k<(ls p).length
    ·obtain ⟨g,off,cp,e,_,_,hgn,hcs⟩:=((HR.out p hlt).below hbk|>fun h=>show RdR n₀ wr (.slice sa (ls p).length cap) (ls p)from HVP.out▸h).cells (by omega)
     simp at e
     obtain⟨rfl,rfl⟩:=e;have c0:=hcs k hkl 0 (by omega);have c1:=hcs k hkl 1 (by omega);have c2:=hcs k hkl 2 (by omega);have c3:=hcs k hkl 3 (by omega);have c4:=hcs k hkl 4 (by omega);have c5:=hcs k hkl 5 (by omega);have c6:=hcs k hkl 6 (by omega);have c7:=hcs k hkl 7 (by omega);have hkl':(k:Int)<(ls p).length:=by omega
     have hat:=allR_at ls p k hlt hkl;have htk:zHc ls p++(ls p).take (k+1)=zHc ls p++(ls p).take k++[(ls p)[k]]:=by rw[List.append_assoc,List.take_append_getElem hkl]
     clear hcs;generalize hgo:(ls p)[k]=r at*;have HAT:=zAd hat;have HTK:=zAd htk;clear hgo hat htk;simp only[rwc,List.getElem?_cons_zero,List.getElem?_cons_succ,Nat.add_zero]at c0 c1 c2 c3 c4 c5 c6 c7;have la:Later wr (wr.alloc (.cells #[.int .u8 r.p,.int .u32 r.s,.int .u32 r.d,.int .u16 r.a,.int .u16 r.b,.int .i64 r.id,.int .i64 r.till,.int .i64 r.turn] 220)):=bA _ _;obtain⟨fn,tmps,assign,body,hy,hR⟩:=hY _ r _ (hJ _ _ _ hJk la) HAT.out;dsimp only[encR,rwc]at hy
     have hwr:=Nat.le_trans hn0 hbk.size;gi_wp2
     refine hR.mono ?_;rintro e W3 (⟨rfl,hJ3,hk3⟩|⟨rfl,hJx3⟩)
     ·gi_wp2
      go_roundw
      case rel=>exact⟨k+1,by omega,by go_num,by rw[HTK.out];exact hJ3,hbk.trans ((la.mono hwr).trans hk3)⟩
      case measure=>simp[intOf];omega
     ·gi_wp2
      refine bodyPost_ret (results_none rfl _ _ _) rfl ?_;exact⟨⟨_,rfl⟩,.inr ⟨_,trivial,hJx3⟩⟩
    ·obtain rfl:k=(ls p).length:=by omega
     gi_wp2
     go_roundw
     case rel=>exact⟨p+1,by omega,by go_num,by rw[zHq];rw[List.take_length]at hJk;exact hJk,hbk⟩
     case measure=>simp[intOf];omega
  ·obtain rfl:p=256:=by omega
   gi_wp2
   go_end0
   exact⟨⟨_,rfl⟩,.inl ⟨_,rfl,hJp⟩⟩
theorem all_gen(n:Nat)(hn:1≤n)(B bt n₀ base:Nat)(lim cnt trn:Int)(vs:List Value)(ls:Nat→List Rw)(w0 w:World)(hT:TBv base w0 bt lim cnt trn vs ls)(hn0:n₀=w0.heap.size)(hw:Later w0 w)(hBl:B<w.heap.size)(hB:w.cell? ⟨B,0,none⟩=some (.pointer (some ⟨bt,3,none⟩))):
  GenX Fence.wide n Tryz.prog 154 #[.pointer (some ⟨B,0,none⟩)] encR (Below n₀) (XR ls) (fun xs=>xs=zE5 ls) (fun _=>True) w:=fun l J Jx W hW hJ hY h0=>by
 subst hn0;have hwW:Later w0 W:=hw.trans hW;have hTW:=hT.later hwW;exact all1_in n hn l B bt w0.heap.size vs ls hT.1 J Jx hJ hY W ((hW.cell (p:=⟨B,0,none⟩) hBl).trans hB) hwW.size (fun i hi=>hTW.cell i hi) (fun i hi=>(zDd (hT.2.2.2.1 i hi)).below hwW) h0
theorem zQy(sv:Value)(n:Nat)(f:Value)(w:World)(hn:n≤1):Calls Tryz.prog 206 #[sv,.int .i64 0,.int .i64 (n:Int),f] w fun e w'=>(∃v,e= .returned v)∧w'=w:=by
 go_enter Tryz.func206,Tryz.ntmps206;go_wp2_with fail;go_loopw [8] (fun i wr=>i= .int .i64 1∧wr=w) (fun _ _=>0)
 case atStart=>exact⟨rfl,rfl⟩
 case round=>
  obtain⟨rfl,rfl⟩:=hrel;have h1:¬(1:Int)<(n:Int):=by omega
  go_wp2_with fail;go_end0
  exact⟨⟨_,rfl⟩,rfl⟩
theorem pdq_one(sv:Value)(n:Nat)(lm:Int)(f:Value)(w:World)(hn:n≤1):Calls Tryz.prog 155 #[sv,.int .i64 0,.int .i64 (n:Int),.int .i64 lm,f] w fun e w'=>(∃v,e= .returned v)∧w'=w:=by
 have h1:(n:Int)≤12:=by omega
 go_enter Tryz.func155,Tryz.ntmps155;go_wp2_with fail;go_loopw [1,2] (fun a b wr=>a= .int .i64 0∧b= .int .i64 (n:Int)∧wr=w) (fun _ _ _=>0)
 case atStart=>exact⟨rfl,rfl,rfl⟩
 case round=>
  obtain⟨rfl,rfl,rfl⟩:=hrel;go_wp2_with fail;refine(zQy sv n f wr hn).mono ?_;rintro e w1 ⟨⟨v,rfl⟩,rfl⟩;go_wp2_with fail;refine bodyPost_ret (results_none rfl _ _ _) rfl ?_;exact⟨⟨_,rfl⟩,rfl⟩
theorem sort_one(a:Option Addr)(n cap:Nat)(f:Value)(w:World)(hn:n≤1):Calls Tryz.prog 101 #[.slice a n cap,f] w fun e w'=>(∃v,e= .returned v)∧w'=w:=by
 have h1:(n:Int)≤12:=by omega
 go_enter Tryz.func101,Tryz.ntmps101;go_wp2_with fail;refine(len_few n w (by omega)).mono ?_;rintro e w1 ⟨⟨v,rfl⟩,rfl⟩;go_wp2_with fail;refine(pdq_one (.slice a n cap) n v f w1 hn).mono ?_;rintro e w2 ⟨⟨v2,rfl⟩,rfl⟩;go_wp2_with fail;go_end0
 exact⟨⟨_,rfl⟩,rfl⟩
attribute [local go_sem] Oper.semAt_some
theorem all_in(n bt:Nat)(w:World):
  CallsIn Fence.wide n Tryz.prog 100 #[.pointer (some ⟨bt,3,none⟩)] w fun e w'=>e= .returned (.func (.func 154) #[] #[.pointer (some ⟨w.heap.size,0,none⟩)])∧w'=w.alloc (.cells #[.pointer (some ⟨bt,3,none⟩)] 293):=by
 refine callsIn_of_wp Tryz.func100 rfl trivial ?_ rfl;simp only[Tryz.ntmps100,List.size_toArray,List.length_cons,List.length_nil,Nat.reduceAdd,Nat.reduceSub,Array.replicate_succ,Array.replicate_zero,List.push_toArray,List.append_toArray,List.nil_append,List.cons_append];gi_wp2
 go_ret
 exact⟨rfl,rfl⟩
def duR (now:Int) (l:List Rw):List Rw:=l.filter fun r=>decide (r.till≤now)
theorem duR_yes {now:Int} {l:List Rw} {r:Rw} (h:r.till≤now):duR now (l++[r])=duR now l++[r]:=by unfold duR;rw[List.filter_append];simp[h]
theorem duR_no {now:Int} {l:List Rw} {r:Rw} (h:¬r.till≤now):duR now (l++[r])=duR now l:=by unfold duR;rw[List.filter_append];simp[h]
theorem zHr(now:Int)(l:List Rw):(duR now l).length≤l.length:=List.length_filter_le _ _
theorem rws_snoc(l:List Rw)(r:Rw):rws (l++[r])=rws l++rwc r:=by unfold rws;simp
def CTy (A B:World):Prop:=A.heap.size≤B.heap.size∧∀(k:Nat) (o:Obj),A.heap[k]? =some o→o.isCells=true→B.heap[k]? =some o
theorem CTy.of {A B:World} (h:Later A B):CTy A B:=⟨h.size,fun k o ho _=>zAb h ho⟩
theorem CTy.row {A B:World} {row:Option Nat} (hg:A.grownBy B row)(hr:∀r,row=some r→∃o:Obj,A.heap[r]? =some o∧o.isCells=false):CTy A B:=
 ⟨hg.size,fun k o ho hc=>(hg.block k (bl9 ho) (fun e=>by obtain⟨o',h1,h2⟩:=hr k e.symm;rw[ho]at h1;cases h1;rw[hc]at h2;cases h2)).trans ho⟩
theorem CTy.put {A:World} {l:Nat} {o o':Obj} (h:A.heap[l]? =some o)(hc:o.isCells=false):CTy A (A.putObj l o'):=
 CTy.row (grownBy_putObj' A l o') (fun r e=>by cases e;exact⟨o,h,hc⟩)
theorem ownsR_ct {base:Nat} {e:TypeId} {size:Nat} {A B:World} {v:Value} {n:Nat} {xs:List Value} (h:A.ownsRow base e size v n xs)(c:CTy A B):B.ownsRow base e size v n xs:=by
 obtain⟨h1,h2|⟨g,cap,cur,hv,hg,hh,r⟩⟩:=h
 ·exact ⟨h1,.inl h2⟩
 ·exact ⟨h1,.inr ⟨g,cap,cur,hv,hg,c.2 _ _ hh rfl,r⟩⟩
def PD (rb base:Nat) (now:Int) (pre:List Rw) (W:World):Prop:=
 (∃v,W.heap[rb+1]? =some (.cells #[v] 210 (0,0))∧W.ownsRow base 220 8 v (duR now pre).length (rws (duR now pre)))∧W.heap[rb]? =some (.cells #[.int .i64 now] 3 (0,0))
theorem PD.ct {rb base:Nat} {now:Int} {pre:List Rw} {A B:World} (h:PD rb base now pre A)(c:CTy A B):PD rb base now pre B:=by
 obtain⟨⟨v,h1,h2⟩,h3⟩:=h;exact⟨⟨v,c.2 _ _ h1 rfl,ownsR_ct h2 c⟩,c.2 _ _ h3 rfl⟩
def zS7 (l l':List Rw):Prop:=l'.length=l.length∧∀(base:Nat) (v:Value) (W:World),W.ownsRow base 220 8 v l.length (rws l)→
 Calls Tryz.prog 101 #[v,.func (.func 102) #[] #[]] W fun e W'=>(∃u,e= .returned u)∧W'.ownsRow base 220 8 v l.length (rws l')∧But (fun g=>v.ownBlock=some g) W W'
theorem zS8(l:List Rw)(h:l.length≤1):zS7 l l:=⟨rfl,fun base v W hv=>by
 obtain⟨a,cap,rfl,_,_⟩:=(zDd hv).slice;refine(sort_one a l.length cap _ W h).mono ?_;rintro e W' ⟨hu,rfl⟩;exact⟨hu,hv,But.refl _ _⟩⟩
end Go.Proofs.YteaeilghamjjkaaGreatDoor
