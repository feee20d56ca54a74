import Derived.Deep.OwnRows
import Derived.Test.YteaeilghamjjkaaGreatDoorX22
namespace Go.Proofs.YteaeilghamjjkaaGreatDoor
set_option maxHeartbeats 4000000
open Go.RowKit Go.Shelf
set_option maxRecDepth 100000
set_option linter.unusedVariables false
set_option linter.unusedSimpArgs false
def zLx (k:Int) (len:Nat):Bool:=decide (k=5∧len % 8=0∧1≤len/8∧len/8≤4)
theorem zTo(k:Int)(a:Option Addr)(len cap:Nat)(w:World)(hl:len≤140737488355328):
  Calls Tryz.prog 379 #[.agg #[.int .u8 k,.slice a len cap]] w fun e w'=>e= .returned (.bool (zLx k len))∧Below w.heap.size w w':=by
 have hbox:Below w.heap.size w (w.alloc (.cells #[.int .u8 k,.slice a len cap] 244)):=bA _ _;by_cases h1:k=5
 ·have t1:(k==5)=true:=by simp[h1]
  by_cases h2:len % 8=0
  ·have t2:((len:Int) % 8==0)=true:=by simp;omega
   by_cases h3:(1:Int)≤(len:Int)/8
   ·by_cases h4:(len:Int)/8≤4
    ·have HR:Hid (zLx k len=true):=by show _=_;unfold zLx;exact decide_eq_true ⟨h1,h2,by omega,by omega⟩
     clear h1 h2;go_enter Tryz.func379,Tryz.ntmps379;go_wp2
     go_ret
     exact⟨by rw[HR.out];rfl,hbox⟩
    ·have HR:Hid (zLx k len=false):=by show _=_;unfold zLx;exact decide_eq_false (fun h=>by omega)
     clear h1 h2;go_enter Tryz.func379,Tryz.ntmps379;go_wp2
     go_ret
     exact⟨by rw[HR.out];rfl,hbox⟩
   ·have HR:Hid (zLx k len=false):=by show _=_;unfold zLx;exact decide_eq_false (fun h=>by omega)
    clear h1 h2;go_enter Tryz.func379,Tryz.ntmps379;go_wp2
    go_ret
    exact⟨by rw[HR.out];rfl,hbox⟩
  ·have t2:((len:Int) % 8==0)=false:=by simp;omega
   have HR:Hid (zLx k len=false):=by show _=_;unfold zLx;exact decide_eq_false (fun h=>by omega)
   clear h1 h2;go_enter Tryz.func379,Tryz.ntmps379;go_wp2
   go_ret
   exact⟨by rw[HR.out];rfl,hbox⟩
 ·have t1:(k==5)=false:=by simp[h1]
  have HR:Hid (zLx k len=false):=by show _=_;unfold zLx;exact decide_eq_false (fun h=>h1 h.1)
  clear h1;go_enter Tryz.func379,Tryz.ntmps379;go_wp2
  go_ret
  exact⟨by rw[HR.out];rfl,hbox⟩
def tlo (o:Opt):Bool:=zLx o.1 o.2.length
def skx (os:List Opt):Option Nat:=os.findIdx? tlo
theorem skx_none {os:List Opt} (h:∀j,j<os.length→tlo (os[j]?.getD (0,[]))=false):skx os=none:=by
 unfold skx;rw[List.findIdx?_eq_none_iff];intro o ho
 obtain⟨j,hj,rfl⟩:=List.getElem_of_mem ho;have:=h j hj;simpa[hj]using this
theorem skx_some {os:List Opt} {k:Nat} (hk:k<os.length)(h:∀j,j<k→tlo (os[j]?.getD (0,[]))=false)(ht:tlo (os[k]?.getD (0,[]))=true):skx os=some k:=by
 unfold skx;rw[List.findIdx?_eq_some_iff_getElem];refine⟨hk,by simpa[hk]using ht,fun j hj=> ?_⟩;have:=h j hj;simpa[show j<os.length from by omega]using this
theorem skx_lt {os:List Opt} {k:Nat} (h:skx os=some k):k<os.length∧tlo (os[k]?.getD (0,[]))=true:=by
 unfold skx at h;rw[List.findIdx?_eq_some_iff_getElem]at h;obtain⟨hk,ht,_⟩:=h;exact⟨hk,by simpa[hk]using ht⟩
theorem zPf(n₀:Nat)(sv:Value)(os:List Opt)(w:World)(hn:n₀≤w.heap.size)(hI:RdO n₀ w sv os)(hl:∀o∈os,o.2.length≤140737488355328):
  Calls Tryz.prog 378 #[sv,.func (.func 379) #[] #[]] w fun e w'=>Below w.heap.size w w'∧((skx os=none∧e= .returned (.int .i64 (-1)))∨∃k:Nat,skx os=some k∧e= .returned (.int .i64 (k:Int))):=by
 obtain⟨a,cap,rfl,hc1,hc2⟩:=hI.slice;go_enter Tryz.func378,Tryz.ntmps378;go_wp2
 go_loopw [8] (fun i wr=>∃k:Nat,k≤os.length∧i= .int .i64 (k:Int)∧(∀j,j<k→tlo (os[j]?.getD (0,[]))=false)∧Below w.heap.size w wr) (fun i _=>os.length-(intOf i).toNat)
 case atStart=>exact⟨0,by omega,rfl,fun j h=>by omega,Below.refl _ _⟩
 case round=>
  obtain⟨k,hk,rfl,hz,hbw⟩:=hrel;have HZ:=zAd hz;clear hz;by_cases hlt:k<os.length
  ·obtain ⟨b,off,cp,e,_,_,hbb,hcs⟩:=(hI.below (hbw.mono hn)).cells (by omega)
   simp at e
   obtain⟨rfl,rfl⟩:=e;obtain⟨s,c0,c1,hRs⟩:=hcs k hlt;obtain⟨sa,sc,rfl,_,_⟩:=hRs.slice;have hol:=hl (os[k]?.getD (0,[])) (by simp[hlt]);have HT:Hid (tlo (os[k]?.getD (0,[]))=zLx (os[k]?.getD (0,[])).1 (os[k]?.getD (0,[])).2.length):=rfl;have hlt':(k:Int)<os.length:=by omega
   clear hcs hRs;generalize hgo:os[k]?.getD (0,[])=o at*;have HGO:=zAd hgo;clear hgo;obtain⟨kd,dt⟩:=o;dsimp only at c0 c1 hol HT
   go_wp2_with fail;refine(zTo kd sa dt.length sc wr hol).mono ?_;rintro e w' ⟨rfl,hb'⟩;have hw':=hbw.trans (hb'.mono hbw.size);cases ht:zLx kd dt.length with
   |true=>
    have HTT:=zAd (HT.out.trans ht);clear ht;go_wp2_with fail;go_ret
    exact⟨hw',.inr ⟨k,skx_some hlt HZ.out (by rw[HGO.out];exact HTT.out),rfl⟩⟩
   |false=>
    have HTT:=zAd (HT.out.trans ht);clear ht;go_wp2_with fail;go_roundw
    case rel=>exact⟨k+1,by omega,by go_num,fun j hj=>by by_cases h:j=k;(subst h;rw[HGO.out];exact HTT.out);exact HZ.out j (by omega),hw'⟩
    case measure=>simp[intOf];omega
  ·obtain rfl:k=os.length:=by omega
   go_wp2_with fail;go_ret
   exact⟨hbw,.inl ⟨skx_none HZ.out,rfl⟩⟩
def zGk (zs:List Int):List Int:=(List.range (zs.length/4)).map fun i=>zAs zs (i*4)
theorem zDi(zs:List Int):(zGk zs).length=zs.length/4:=by simp[zGk]
theorem quads_at(zs:List Int)(k:Nat)(h:k<zs.length/4):(zGk zs)[k]? =some (zAs zs (k*4)):=by simp[zGk,h]
def zHf (os:List Opt):List Int:=match skx os with|some k=>zGk (os[k]?.getD (0,[])).2|none=>[]
def Ow4 (base:Nat) (W:World) (v:Value) (ns:List Int):Prop:=
 (v= .slice none 0 0∧ns=[])∨∃g,v= .slice (some ⟨g,0,none⟩) ns.length ns.length∧base≤g∧W.heap[g]? =some (.cells (ns.map (Value.int .u32)).toArray 29 (0,0))
theorem Ow4.slice {base:Nat} {A:World} {v:Value} {ns:List Int} (h:Ow4 base A v ns):∃a,v= .slice a ns.length ns.length:=by
 rcases h with⟨rfl,rfl⟩|⟨g,rfl,_⟩
 ·exact ⟨none,rfl⟩
 ·exact ⟨_,rfl⟩
theorem info_u32:(Tryz.prog.info? 29).map (fun i=>(i.zero,i.size,i.bytes))=some (some (.int .u32 0),1,4):=by kernel_rfl
theorem made_eq(n:Nat):Obj.cells (madeCells #[.int .u32 0] n) 29=Obj.cells (List.replicate n (Value.int .u32 0)).toArray 29 (0,0):=by
 congr 1
 apply Array.ext
 ·simp[madeCells]
 ·intro i h1 h2
  simp[madeCells,Nat.mod_one]
theorem zQ6(zs:List Int)(p:Int)(k:Nat)(hk:p=k)(h:k+4≤zs.length):zAw zs p=zAs zs k:=by
 subst hk;unfold zAw;rw[if_pos (by omega),Int.toNat_natCast]
theorem Rd.below' {n₀:Nat} {w A B:World} {v:Value} {zs:List Int} (h:Rd n₀ A v zs)(ha:Below n₀ w A)(hb:Below n₀ w B):Rd n₀ B v zs:=by
 rcases h with h|⟨b,off,cap,e,hne,hl,hm,hlt,hc⟩
 ·exact .inl h
 ·exact .inr ⟨b,off,cap,e,hne,hl,hm,hlt,fun j hj=>(hb.cell (p:=⟨b,off+j,none⟩) hlt).trans ((ha.cell (p:=⟨b,off+j,none⟩) hlt).symm.trans (hc j hj))⟩
theorem zEn(sp dp sq ak fl wn ur:Int)(sO sm:Value)(os:List Opt)(w:World)(hB:ByO os)(hI:RdO w.heap.size w sO os)(hl:∀o∈os,o.2.length≤140737488355328):
  Calls Tryz.prog 367 #[.agg #[.int .u16 sp,.int .u16 dp,.int .u32 sq,.int .u32 ak,.int .u8 fl,.int .u16 wn,.int .u16 ur,sO,sm]] w fun e w'=>Below w.heap.size w w'∧∃v,e= .returned v∧Ow4 w.heap.size w' v (zHf os):=by
 obtain⟨a,cap,rfl,hc1,hc2⟩:=hI.slice;have hb0:Below w.heap.size w (w.alloc (.cells #[.int .u16 sp,.int .u16 dp,.int .u32 sq,.int .u32 ak,.int .u8 fl,.int .u16 wn,.int .u16 ur,.slice a os.length cap,sm] 32)):=bA _ _;have s0:=heap_alloc_new w (.cells #[.int .u16 sp,.int .u16 dp,.int .u32 sq,.int .u32 ak,.int .u8 fl,.int .u16 wn,.int .u16 ur,.slice a os.length cap,sm] 32);have S0:=zAd s0;clear s0;go_enter Tryz.func367,Tryz.ntmps367;go_wp2_with fail;generalize w.alloc (.cells #[.int .u16 sp,.int .u16 dp,.int .u32 sq,.int .u32 ak,.int .u8 fl,.int .u16 wn,.int .u16 ur,.slice a os.length cap,sm] 32)=W0 at*;refine(zPf w.heap.size _ os W0 hb0.size (hI.below hb0) hl).mono ?_;rintro e w1 ⟨hb1,⟨hn,rfl⟩|⟨k,hk,rfl⟩⟩
 ·have hw1:=hb0.trans (hb1.mono hb0.size)
  have HS:Hid (zHf os=[]):=by show _=_;unfold zHf;rw[hn]
  clear hn;go_wp2_with fail;go_ret
  exact⟨hw1,_,rfl,by rw[HS.out];exact .inl ⟨rfl,rfl⟩⟩
 ·have hw1:=hb0.trans (hb1.mono hb0.size)
  have s1:=zAb hb1 S0.out;obtain⟨hkl,htl⟩:=skx_lt hk;have HS:Hid (zHf os=zGk (os[k]?.getD (0,[])).2):=by show _=_;unfold zHf;rw[hk]
  obtain⟨b,off,cp,e,_,_,hbb,hcs⟩:=(hI.below hw1).cells (by omega)
  simp at e
  obtain⟨rfl,rfl⟩:=e;obtain⟨s,c0,c1,hRs⟩:=hcs k hkl;obtain⟨sa,sc,rfl,_,_⟩:=hRs.slice;have hoB:=(hB (os[k]?.getD (0,[])) (by simp[hkl])).2
  have hts:(os[k]?.getD (0,[])).2.length % 8=0∧1≤(os[k]?.getD (0,[])).2.length/8∧(os[k]?.getD (0,[])).2.length/8≤4:=by
   unfold tlo zLx at htl;have:=of_decide_eq_true htl;exact this.2
  clear hcs htl hk hb1 hb0 S0;generalize (os[k]?.getD (0,[])).2=dt at*;have hkl':(k:Int)<os.length:=by omega
  have K1:=zAa s1;obtain⟨i0,hi,hz0,hz1,hz2⟩:=info_parts info_u32;have h4:dt.length≤32:=by omega
  have H8:=zAd hts;have h8:8≤dt.length:=by omega
  clear hts;go_wp2_with (at_make;refine wpList_make_row _ rfl _ _ 248 rfl 29 i0 (.int .u32 0) Tryz.underlying248 hi hz0 hz1 rfl .i64 .i64 (dt.length/4) (congrArg (Value.int .i64) (Int.natCast_ediv dt.length 4).symm) (congrArg (Value.int .i64) (Int.natCast_ediv dt.length 4).symm) (by rw[hz2];omega) (by omega) ?_)
  have hg0:(w1.alloc (.cells (madeCells #[.int .u32 0] (dt.length/4)) 29)).heap[w1.heap.size]? =some (.cells (((zGk dt).take 0).map (Value.int .u32)++List.replicate (dt.length/4-0) (Value.int .u32 0)).toArray 29 (0,0)):=by
   rw[heap_alloc_new,List.take_zero,List.map_nil,List.nil_append,Nat.sub_zero];congr 1
   exact made_eq _
  have hb2:Below w.heap.size w (w1.alloc (.cells (madeCells #[.int .u32 0] (dt.length/4)) 29)):=hw1.trans ((Below.refl _ w1).alloc hw1.size _);have hgw:=hw1.size;have HS2:Hid (zHf os=zGk dt):=HS;generalize w1.alloc (.cells (madeCells #[.int .u32 0] (dt.length/4)) 29)=W2 at*;clear K1 s1 HS c0 c1;go_loopw [24] (fun i wr=>∃m:Nat,m≤dt.length/4∧i= .int .i64 (m:Int)∧wr.heap[w1.heap.size]? =some (.cells (((zGk dt).take m).map (Value.int .u32)++List.replicate (dt.length/4-m) (Value.int .u32 0)).toArray 29 (0,0))∧Below w.heap.size w wr) (fun i _=>dt.length/4-(intOf i).toNat)
  case atStart=>exact⟨0,by omega,rfl,hg0,hb2⟩
  case round=>
   obtain⟨m,hm,rfl,hgm,hbm⟩:=hrel;by_cases hlt:m<dt.length/4
   ·have hlt':(m:Int)<(dt.length:Int)/4:=by omega
    have hmN:(m:Int)<((dt.length/4:Nat):Int):=by omega
    go_wp2_with fail;refine(zEl _ dt hoB ((m:Int)*4) wr ((hRs.below' hw1 hbm))).mono ?_;rintro e w' ⟨rfl,q,hq⟩;have hbq:Later wr w':=by rw[hq];exact zAk (Later.refl wr) q
    clear hq;rw[zQ6 dt ((m:Int)*4) (m*4) (by omega) (by omega)];have hgq:=zAb hbq hgm;have hw':=hbm.trans (hbq.mono hbm.size);have hrl:((zGk dt).take m).length=m:=by rw[List.length_take,zDi];omega
    have Kq:w'.cell? ⟨w1.heap.size,m,none⟩=some (.int .u32 0):=by
     rw[zAa hgq m];simp only[List.getElem?_toArray];rw[List.getElem?_append_right (by rw[List.length_map,hrl];exact Nat.le_refl _),List.length_map,hrl,Nat.sub_self,List.getElem?_replicate];simp;omega
    have Fq:w'.frozen? ⟨w1.heap.size,m,none⟩=false:=zAc hgq m;have hset:=zAh hgq m (.int .u32 (zAs dt (m*4)));have hE:Below w.heap.size w (w'.setCell ⟨w1.heap.size,m,none⟩ (.int .u32 (zAs dt (m*4)))):=hw'.setCell (p:=⟨w1.heap.size,m,none⟩) hgw _;have HLT:=zAd hlt;go_wp2_with fail;go_roundw
    case rel=>
     refine⟨m+1,by omega,by go_num,?_,hE⟩;rw[hset];congr 2
     have h1:=quads_at dt m hlt;rw[List.take_add_one,h1];simp only[List.setIfInBounds_toArray];congr 1
     rw[List.set_append_right _ _ (by rw[List.length_map,hrl];exact Nat.le_refl _),List.length_map,hrl,Nat.sub_self,show dt.length/4-m=(dt.length/4-(m+1))+1 from by omega,List.replicate_succ];simp
    case measure=>simp[intOf];omega
   ·obtain rfl:m=dt.length/4:=by omega
    have hfin:wr.heap[w1.heap.size]? =some (.cells ((zGk dt).map (Value.int .u32)).toArray 29 (0,0)):=by
     rw[hgm,←zDi dt,List.take_length];simp
    go_wp2_with fail;go_ret
    exact⟨hbm,_,rfl,by rw[HS2.out];exact .inr ⟨w1.heap.size,by rw[zDi];rfl,hgw,hfin⟩⟩
end Go.Proofs.YteaeilghamjjkaaGreatDoor
