import Derived.Test.YteaeilghamjjkaaGreatDoorX21
namespace Go.Proofs.YteaeilghamjjkaaGreatDoor
set_option maxHeartbeats 16000000
open Go.RowKit
set_option maxRecDepth 100000
set_option linter.unusedVariables false
set_option linter.unusedSimpArgs false
theorem flt_fit2 {lo ld:Nat} (hf:flt lo ld=0):lo≤40∧lo % 4=0∧20+lo+ld≤65535:=by
 unfold flt at hf;split at hf<;>first|omega|(split at hf<;>omega)
theorem zCw(s d p n:Int)(zs:List Int):Mt.tw true (psd s d p n++zs)=Mt.tw true (psd s d p n)+Mt.tw true zs:=by
 rw[Mt.tw_append,zBb];rfl
theorem zI5(s d p n:Int)(zs:List Int)(k:Nat)(hB:Mt.By (psd s d p n++zs))(hk:k % 2=0)(hl:k+1<zs.length)(h0:zs[k]?.getD 0=0)(h1:zs[k+1]?.getD 0=0):Mt.cks (psd s d p n++Mt.put2 zs k (Mt.cks (psd s d p n++zs)))=0:=by
 have hn:=Mt.tw_nonneg true _ hB;have hg:=Mt.fd_good _ hn;rw[zCw]at hn hg;unfold Mt.cks;rw[zCw,Mt.tw_put2 zs k _ hk hl,h0,h1,zCw];rw[show Mt.tw true (psd s d p n)+(Mt.tw true zs+(65535-Mt.fd (Mt.tw true (psd s d p n)+Mt.tw true zs))-(0*256+0))=Mt.tw true (psd s d p n)+Mt.tw true zs+(65535-Mt.fd (Mt.tw true (psd s d p n)+Mt.tw true zs))from by omega,hg];rfl
section
variable (sp dp sq ak fl wn ur:Int) (ob:List Int) (src dst:Int) (zd:List Int)
def zPk (c:Int):List Int:=Mt.put2 ([sp,dp].flatMap b2++[sq,ak].flatMap b4++[(20+(ob.length:Int))/4*16,fl]++[wn,0,ur].flatMap b2) 16 c
theorem zCa(c:Int):(zPk sp dp sq ak fl wn ur ob c).length=20:=by simp[zPk,Mt.put2_length,b2,b4]
theorem zGm:tcp sp dp sq ak fl wn ur ob src dst zd=zPk sp dp sq ak fl wn ur ob (Mt.cks (psd src dst 6 (20+ob.length+zd.length:Nat)++zEy sp dp sq ak fl wn ur ob zd))++(ob++zd):=by
 unfold tcp zPk;generalize Mt.cks (psd src dst 6 (20+ob.length+zd.length:Nat)++zEy sp dp sq ak fl wn ur ob zd)=c;simp[zEy,Mt.put2,b2,b4]
theorem tcp_drop(h:Nat)(hh:h=20+ob.length):(tcp sp dp sq ak fl wn ur ob src dst zd).drop h=zd:=by
 subst hh;rw[zGm,List.drop_append,zCa,List.drop_of_length_le (by rw[zCa];omega),List.nil_append,show 20+ob.length-20=ob.length from by omega,List.drop_left]
theorem tcp_opt(h:Nat)(hh:h=20+ob.length):((tcp sp dp sq ak fl wn ur ob src dst zd).drop 20).take (h-20)=ob:=by
 subst hh;rw[zGm,List.drop_append,zCa,List.drop_of_length_le (by rw[zCa];omega),List.nil_append,Nat.sub_self,List.drop_zero,show 20+ob.length-20=ob.length from by omega,List.take_left]
theorem zPl(j:Nat)(hj:j<20):(tcp sp dp sq ak fl wn ur ob src dst zd)[j]?.getD 0=(zPk sp dp sq ak fl wn ur ob (Mt.cks (psd src dst 6 (20+ob.length+zd.length:Nat)++zEy sp dp sq ak fl wn ur ob zd)))[j]?.getD 0:=by
 rw[zGm,List.getElem?_append_left (by rw[zCa];exact hj)]
theorem tcp_12:(tcp sp dp sq ak fl wn ur ob src dst zd)[12]?.getD 0=(20+(ob.length:Int))/4*16:=by rw[zPl _ _ _ _ _ _ _ _ _ _ _ 12 (by omega)];simp[zPk,Mt.put2,b2,b4]
theorem tcp_13:(tcp sp dp sq ak fl wn ur ob src dst zd)[13]?.getD 0=fl:=by rw[zPl _ _ _ _ _ _ _ _ _ _ _ 13 (by omega)];simp[zPk,Mt.put2,b2,b4]
theorem zM0(h4:ob.length % 4=0):thd (tcp sp dp sq ak fl wn ur ob src dst zd)=20+(ob.length:Int):=by unfold thd;rw[tcp_12];omega
theorem zDj(j:Nat)(hj:j+1<20):wat (tcp sp dp sq ak fl wn ur ob src dst zd) j=wat (zPk sp dp sq ak fl wn ur ob (Mt.cks (psd src dst 6 (20+ob.length+zd.length:Nat)++zEy sp dp sq ak fl wn ur ob zd))) j:=by
 unfold wat;rw[zPl _ _ _ _ _ _ _ _ _ _ _ j (by omega),zPl _ _ _ _ _ _ _ _ _ _ _ (j+1) hj]
theorem tcp_w0:wat (tcp sp dp sq ak fl wn ur ob src dst zd) 0=sp:=by rw[zDj _ _ _ _ _ _ _ _ _ _ _ 0 (by omega)];simp[wat,zPk,Mt.put2,b2,b4];omega
theorem tcp_w2:wat (tcp sp dp sq ak fl wn ur ob src dst zd) 2=dp:=by rw[zDj _ _ _ _ _ _ _ _ _ _ _ 2 (by omega)];simp[wat,zPk,Mt.put2,b2,b4];omega
theorem tcp_w14:wat (tcp sp dp sq ak fl wn ur ob src dst zd) 14=wn:=by rw[zDj _ _ _ _ _ _ _ _ _ _ _ 14 (by omega)];simp[wat,zPk,Mt.put2,b2,b4];omega
theorem tcp_w18:wat (tcp sp dp sq ak fl wn ur ob src dst zd) 18=ur:=by rw[zDj _ _ _ _ _ _ _ _ _ _ _ 18 (by omega)];simp[wat,zPk,Mt.put2,b2,b4];omega
theorem tcp_w4:zAs (tcp sp dp sq ak fl wn ur ob src dst zd) 4=sq:=by unfold zAs;rw[zDj _ _ _ _ _ _ _ _ _ _ _ 4 (by omega),zDj _ _ _ _ _ _ _ _ _ _ _ (4+2) (by omega)];simp[wat,zPk,Mt.put2,b2,b4];omega
theorem tcp_w8:zAs (tcp sp dp sq ak fl wn ur ob src dst zd) 8=ak:=by unfold zAs;rw[zDj _ _ _ _ _ _ _ _ _ _ _ 8 (by omega),zDj _ _ _ _ _ _ _ _ _ _ _ (8+2) (by omega)];simp[wat,zPk,Mt.put2,b2,b4];omega
theorem tcp_good(hs:0≤src∧src≤4294967295)(hd:0≤dst∧dst≤4294967295)(hB:Mt.By (zEy sp dp sq ak fl wn ur ob zd)):Mt.cks (psd src dst 6 (20+ob.length+zd.length:Nat)++tcp sp dp sq ak fl wn ur ob src dst zd)=0:=
 zI5 src dst 6 _ _ 16 ((zFg src dst 6 _ hs hd (by omega)).append hB) (by omega) (by rw[zD9];omega) (by simp[zEy,b2,b4]) (by simp[zEy,b2,b4])
theorem tcp_ptc(proto:Int)(hp:proto=6)(s d:Int)(h4:ob.length % 4=0)(h40:ob.length≤40):ptc proto s d (tcp sp dp sq ak fl wn ur ob src dst zd)=if Mt.cks (psd s d 6 (20+ob.length+zd.length:Nat)++tcp sp dp sq ak fl wn ur ob src dst zd)≠0 then 5 else 0:=by
 unfold ptc;rw[if_neg (by simp[hp]),zHy,if_neg (by omega),zM0 _ _ _ _ _ _ _ _ _ _ _ h4,tcp_12,if_neg (by omega),if_neg (by omega)]
end
theorem tcp_hop(sp dp sq ak fl wn ur:Int)(ob:List Int)(src dst:Int)(zd:List Int)(h4:ob.length % 4=0):hop (tcp sp dp sq ak fl wn ur ob src dst zd)=ob:=by
 unfold hop;rw[zM0 _ _ _ _ _ _ _ _ _ _ _ h4];exact tcp_opt _ _ _ _ _ _ _ _ _ _ _ _ (by omega)
theorem tcp_pte(sp dp sq ak fl wn ur:Int)(os:List Opt)(src dst:Int)(zd:List Int)(hok:zSd os)(hs:0≤src∧src≤4294967295)(hd:0≤dst∧dst≤4294967295)(hB:Mt.By (zEy sp dp sq ak fl wn ur (pad (obs os)) zd)):
  pte 6 src dst (tcp sp dp sq ak fl wn ur (pad (obs os)) src dst zd)=0∧zCf (hop (tcp sp dp sq ak fl wn ur (pad (obs os)) src dst zd))=some os:=by
 have h1:ptc 6 src dst (tcp sp dp sq ak fl wn ur (pad (obs os)) src dst zd)=0:=by
  rw[tcp_ptc _ _ _ _ _ _ _ _ _ _ _ 6 rfl src dst (zMk _) (pad_le _ hok.2),if_neg (by rw[tcp_good _ _ _ _ _ _ _ _ _ _ _ hs hd hB];simp)]
 have h2:zCf (hop (tcp sp dp sq ak fl wn ur (pad (obs os)) src dst zd))=some os:=by rw[tcp_hop _ _ _ _ _ _ _ _ _ _ _ (zMk _)];exact opts_pad os hok
 refine⟨?_,h2⟩;unfold pte;rw[if_neg (by simp[h1]),h2];rfl
section
variable (sp dp:Int) (bare:Bool) (src dst:Int) (zm:List Int)
end
open Go.RowKit Go.Shelf
def prt (a b:Int) (zs:List Int):List Int:=Mt.put2 (Mt.put2 zs 0 a) 2 b
def nbr (x:Int):Int:=if x=0 then 65535 else x
def rwT (s d a b:Int) (zs:List Int):List Int:=Mt.put2 (Mt.put2 (prt a b zs) 16 0) 16 (Mt.cks (psd s d 6 zs.length++Mt.put2 (prt a b zs) 16 0))
def rwU (s d a b:Int) (zs:List Int):List Int:=if wat zs 6=0 then prt a b zs else Mt.put2 (Mt.put2 (prt a b zs) 6 0) 6 (nbr (Mt.cks (psd s d 17 zs.length++Mt.put2 (prt a b zs) 6 0)))
def rwI (a:Int) (zs:List Int):List Int:=Mt.put2 (Mt.put2 (Mt.put2 zs 4 a) 2 0) 2 (Mt.cks (Mt.put2 (Mt.put2 zs 4 a) 2 0))
def rwG (b:Int) (zs:List Int):List Int:=Mt.put2 zs 6 b
def rwD (pr s d a b:Int) (zs:List Int):List Int:=if pr=6 then rwT s d a b zs else if pr=17 then rwU s d a b zs else if pr=1 then rwI a zs else rwG b zs
theorem zBc(a b:Int)(zs:List Int):(prt a b zs).length=zs.length:=by simp[prt,Mt.put2_length]
theorem zKy {a b:Int} {zs:List Int} (h:Mt.By zs)(ha:0≤a∧a≤65535)(hb:0≤b∧b≤65535):Mt.By (prt a b zs):=(h.put2 0 ha).put2 2 hb
theorem zCb(a b:Int)(zs:List Int)(j:Nat)(h:4≤j):(prt a b zs)[j]? =zs[j]? :=by
 unfold prt;rw[Mt.put2_other _ _ _ _ (by omega) (by omega),Mt.put2_other _ _ _ _ (by omega) (by omega)]
theorem zB4(s d a b:Int)(zs:List Int):(rwT s d a b zs).length=zs.length:=by simp[rwT,Mt.put2_length,zBc]
theorem zH1(s d a b:Int)(zs:List Int):(rwU s d a b zs).length=zs.length:=by unfold rwU;split<;>simp[Mt.put2_length,zBc]
theorem zH2(a:Int)(zs:List Int):(rwI a zs).length=zs.length:=by simp[rwI,Mt.put2_length]
theorem zH3(pr s d a b:Int)(zs:List Int):(rwD pr s d a b zs).length=zs.length:=by
 unfold rwD;split
 ·exact zB4 ..
 split
 ·exact zH1 ..
 split
 ·exact zH2 ..
 ·exact Mt.put2_length ..
theorem rwT_by {s d a b:Int} {zs:List Int} (h:Mt.By zs)(ha:0≤a∧a≤65535)(hb:0≤b∧b≤65535):Mt.By (rwT s d a b zs):=((zKy h ha hb).put2 16 (by omega)).put2 16 (Mt.cks_bd _)
theorem zGn(s d a b:Int)(zs:List Int)(j:Nat)(h:4≤j)(h2:j≠16)(h3:j≠17):(rwT s d a b zs)[j]? =zs[j]? :=by
 unfold rwT;rw[Mt.put2_other _ _ _ _ (by omega) (by omega),Mt.put2_other _ _ _ _ (by omega) (by omega),zCb _ _ _ _ h]
theorem zCl {xs zs:List Int} {k:Nat} (h0:xs[k]? =zs[k]?)(h1:xs[k+1]? =zs[k+1]?):wat xs k=wat zs k:=by unfold wat;rw[h0,h1]
theorem zK1 {xs zs:List Int} {k:Nat} (h:∀j,k≤j→j<k+4→xs[j]? =zs[j]?):zAs xs k=zAs zs k:=by
 unfold zAs;rw[zCl (h k (by omega) (by omega)) (h (k+1) (by omega) (by omega)),zCl (h (k+2) (by omega) (by omega)) (h (k+2+1) (by omega) (by omega))]
theorem zK2 {xs zs:List Int} {k:Nat} (h:∀j,k≤j→xs[j]? =zs[j]?):xs.drop k=zs.drop k:=by
 apply List.ext_getElem?
 intro i
 rw[List.getElem?_drop,List.getElem?_drop,h _ (by omega)]
theorem prt_w0(a b:Int)(zs:List Int)(h:4≤zs.length)(ha:0≤a):wat (prt a b zs) 0=a:=by
 unfold prt;rw[zBo _ _ _ _ (by omega),zIq _ _ _ (by omega) ha]
theorem prt_w2(a b:Int)(zs:List Int)(h:4≤zs.length)(hb:0≤b):wat (prt a b zs) 2=b:=by
 unfold prt;rw[zIq _ _ _ (by simp[Mt.put2_length];omega) hb]
theorem rwT_w0(s d a b:Int)(zs:List Int)(h:20≤zs.length)(ha:0≤a):wat (rwT s d a b zs) 0=a:=by
 unfold rwT;rw[zBo _ _ _ _ (by omega),zBo _ _ _ _ (by omega),prt_w0 _ _ _ (by omega) ha]
theorem rwT_w2(s d a b:Int)(zs:List Int)(h:20≤zs.length)(hb:0≤b):wat (rwT s d a b zs) 2=b:=by
 unfold rwT;rw[zBo _ _ _ _ (by omega),zBo _ _ _ _ (by omega),prt_w2 _ _ _ (by omega) hb]
theorem rwT_good {s d a b:Int} {zs:List Int} (h:Mt.By zs)(hl:20≤zs.length)(hs:0≤s∧s≤4294967295)(hd:0≤d∧d≤4294967295)(ha:0≤a∧a≤65535)(hb:0≤b∧b≤65535):Mt.cks (psd s d 6 zs.length++rwT s d a b zs)=0:=by
 unfold rwT;have hz:=Mt.put2_at (prt a b zs) 16 0 (by rw[zBc];omega);refine zI5 s d 6 zs.length _ 16 ?_ (by omega) (by simp[Mt.put2_length,zBc];omega) (by rw[hz.1];rfl) (by rw[hz.2];rfl);exact(zFg s d 6 zs.length hs hd (by omega)).append ((zKy h ha hb).put2 16 (by omega))
theorem zT3 {src dst s d a b:Int} {zs:List Int} (h:Mt.By zs)(hp:pte 6 src dst zs=0)(hs:0≤s∧s≤4294967295)(hd:0≤d∧d≤4294967295)(ha:0≤a∧a≤65535)(hb:0≤b∧b≤65535):
  pte 6 s d (rwT s d a b zs)=0∧thd (rwT s d a b zs)=thd zs∧hop (rwT s d a b zs)=hop zs∧20≤zs.length∧20≤thd zs:=by
 have hpc:ptc 6 src dst zs=0:=by
  unfold pte at hp;split at hp
  ·rename_i h1;exact absurd hp h1
  ·rename_i h1;simpa using h1
 have hop':(zCf (hop zs)).isNone=false:=by
  unfold pte at hp;rw[if_neg (by simp[hpc])]at hp;split at hp
  ·omega
  ·rename_i h1;exact Bool.eq_false_iff.2 h1
 obtain⟨_,h20,ht20,htl,h16,_⟩:=zPd hpc;have e12:(rwT s d a b zs)[12]? =zs[12]? :=zGn _ _ _ _ _ _ (by omega) (by omega) (by omega);have et:thd (rwT s d a b zs)=thd zs:=by unfold thd;rw[e12]
 have eh:hop (rwT s d a b zs)=hop zs:=by unfold hop;rw[et,zK2 (fun j hj=>zGn s d a b zs j (by omega) (by omega) (by omega))]
 refine⟨?_,et,eh,h20,ht20⟩;have eg:=rwT_good h h20 hs hd ha hb
 have ep:ptc 6 s d (rwT s d a b zs)=0:=by
  unfold ptc;rw[zB4,et,e12,if_neg (by omega),if_neg (by omega),if_neg (by omega),if_neg (by omega),if_neg (by simp[eg])]
 unfold pte;rw[if_neg (by simp[ep]),eh,if_neg (by simp[hop'])]
structure Un where
 p1:Int
 s1:Int
 d1:Int
 a1:Int
 b1:Int
 pr:Int
 s:Int
 d:Int
 a:Int
 b:Int
def unc (u:Un) (bv:Value):Array Value:=#[bv,.int .u8 u.p1,.int .u32 u.s1,.int .u32 u.d1,.int .u16 u.a1,.int .u16 u.b1,.int .u8 u.pr,.int .u32 u.s,.int .u32 u.d,.int .u16 u.a,.int .u16 u.b]
def UB (w:World) (g:Nat) (u:Un) (bv:Value):Prop:=w.heap[g]? =some (.cells (unc u bv) 326 (0,0))
def UR (w:World) (g:Nat) (u:Un) (zs:List Int):Prop:=∃bv,UB w g u bv∧Rd w.heap.size w bv zs
def US (base:Nat) (w:World) (g:Nat) (u:Un) (zs:List Int):Prop:=∃bv,UB w g u bv∧Ow base w bv zs
theorem US.ur {base:Nat} {w:World} {g:Nat} {u:Un} {zs:List Int} (h:US base w g u zs):UR w g u zs:=by
 obtain⟨bv,h1,h2⟩:=h;exact⟨bv,h1,h2.rd⟩
theorem UB.later {w w':World} {g:Nat} {u:Un} {bv:Value} (h:UB w g u bv)(l:Later w w'):UB w' g u bv:=(l.block g (eS h)).trans h
theorem UR.later {w w':World} {g:Nat} {u:Un} {zs:List Int} (h:UR w g u zs)(l:Later w w'):UR w' g u zs:=by
 obtain⟨bv,h1,h2⟩:=h;exact⟨bv,h1.later l,(h2.below l).mono l.size⟩
theorem US.later {base:Nat} {w w':World} {g:Nat} {u:Un} {zs:List Int} (h:US base w g u zs)(l:Later w w'):US base w' g u zs:=by
 obtain⟨bv,h1,h2⟩:=h;exact⟨bv,h1.later l,h2.later l⟩
def UQ (base:Nat) (w:World) (g:Nat) (u:Un) (zs:List Int) (e:Ending) (w':World):Prop:=e= .returned (.tuple #[])∧US base w' g u zs∧But (fun q=>q=g) w w'
theorem zBy(base:Nat)(g:Nat)(u:Un)(zs:List Int)(p v:Int)(w:World)(h:UR w g u zs)(hb:base≤w.heap.size)(hl:zs.length≤140737488355328)(hv:0≤v∧v≤65535):
  Calls Tryz.prog 296 #[.pointer (some ⟨g,0,none⟩),.int .i64 p,.int .u16 v] w fun e w'=>UQ base w g u (zBl zs p v) e w':=by
 obtain⟨bv,hU,hI⟩:=h;obtain⟨a,cap,rfl,hl1,hm1⟩:=hI.slice;have CU:=zAa hU;simp only[unc]at CU;go_enter Tryz.func296,Tryz.ntmps296;go_wp2_with fail;refine(zB6 _ zs p v w hl hI hv).mono ?_;rintro e w1 ⟨a1,rfl,hO,hb1⟩;have l1:Later w w1:=hb1;have hU1:=hU.later l1;have C1:=zAa hU1;have F1:=zAc hU1;simp only[unc]at C1;have hB:But (fun q=>q=g) w1 (w1.setCell ⟨g,0,none⟩ (.slice a1 zs.length zs.length)):=But.setCell (E:=fun q=>q=g) (But.refl _ _) (p:=⟨g,0,none⟩) rfl _;have hU2:UB (w1.setCell ⟨g,0,none⟩ (.slice a1 zs.length zs.length)) g u (.slice a1 zs.length zs.length):=zAh hU1 0 _;have HB:=zAd hB;have HU2:=zAd hU2;have hO2:=zAd (Ow.aside (hO.mono hb) hU1 (by decide) hB);clear hB hU2 CU hU hI;go_wp2_with fail;go_end0
 exact⟨rfl,⟨_,HU2.out,hO2.out⟩,(But.of l1).trans HB.out⟩
theorem zH4(base:Nat)(g:Nat)(u:Un)(zs:List Int)(w:World)(h:UR w g u zs)(hb:base≤w.heap.size)(hl:zs.length≤140737488355328)(h4:4≤zs.length)(ha:0≤u.a∧u.a≤65535)(hbb:0≤u.b∧u.b≤65535):
  Calls Tryz.prog 295 #[.pointer (some ⟨g,0,none⟩)] w fun e w'=>UQ base w g u (prt u.a u.b zs) e w':=by
 have HP:=zAd (fun w (h:UR w g u zs) (hb:base≤w.heap.size)=>zBy base g u zs 0 u.a w h hb hl ha);rw[zAv zs 0 0 u.a rfl (by omega)]at HP;obtain⟨bv,hU,_⟩:=id h;have CU:=zAa hU;simp only[unc]at CU;go_enter Tryz.func295,Tryz.ntmps295;go_wp2_with fail;refine(HP.out w h hb).mono ?_;rintro e w1 ⟨rfl,hS,b1⟩;obtain⟨bv1,hU1,_⟩:=id hS;have C1:=zAa hU1;simp only[unc]at C1;have hbb1:base≤w1.heap.size:=Nat.le_trans hb b1.size;clear CU hU HP;go_wp2_with fail;refine(zBy base g u _ 2 u.b w1 hS.ur hbb1 (by rw[Mt.put2_length];exact hl) hbb).mono ?_;rw[zAv _ 2 2 u.b rfl (by rw[Mt.put2_length];omega)];rintro e w2 ⟨rfl,hS2,b2⟩;go_wp2_with fail;go_end0
 exact⟨rfl,hS2,b1.trans b2⟩
theorem zGo(g:Nat)(u:Un)(zs:List Int)(w:World)(h:UR w g u zs)(hl:12+zs.length≤140737488355328)(hsr:0≤u.s∧u.s≤4294967295)(hds:0≤u.d∧u.d≤4294967295):
  Calls Tryz.prog 297 #[.pointer (some ⟨g,0,none⟩)] w fun e w'=>∃a c,e= .returned (.slice a (12+zs.length) c)∧Ow w.heap.size w' (.slice a (12+zs.length) c) (psd u.s u.d u.pr zs.length++zs)∧Later w w':=by
 obtain⟨i0,hi,hz0,hz1,hz2⟩:=info_parts zBt;obtain⟨bv,hU,hI⟩:=h;obtain⟨a,cap,rfl,hl1,hm1⟩:=hI.slice;go_enter Tryz.func297,Tryz.ntmps297;go_upto_region 1 with fail;refine zAl (R:=Later) 27 rfl (by kernel_rfl) ?_;have hd:Later w w.drew:=Later.drew w;have hI1:=hI.below hd;have hs1:w.heap.size≤w.drew.heap.size:=hd.size;have qp:∀v1,Later w.drew v1→∀i,v1.cell? ⟨g,i,none⟩=#[Value.slice a zs.length cap,.int .u8 u.p1,.int .u32 u.s1,.int .u32 u.d1,.int .u16 u.a1,.int .u16 u.b1,.int .u8 u.pr,.int .u32 u.s,.int .u32 u.d,.int .u16 u.a,.int .u16 u.b][i]? :=fun v1 h=>zAa (hU.later (hd.trans h));generalize w.drew=W1 at*;refine tX Later.pre 0 ?_;refine tX Later.pre 1 ?_;refine tX Later.pre 2 ?_;refine tX Later.pre 3 ?_;refine tX Later.pre 4 ?_;refine tX Later.pre 5 ?_;refine tX Later.pre 6 ?_;refine tX Later.pre 7 ?_;refine tX Later.pre 8 ?_;refine tX Later.pre 9 ?_;refine tX Later.pre 10 ?_;refine tX Later.pre 11 ?_;refine tX Later.pre 12 ?_;refine tX Later.pre 13 ?_;refine tX Later.pre 14 ?_;refine tX Later.pre 15 ?_;refine tX Later.pre 16 ?_;refine tX Later.pre 17 ?_;refine tX Later.pre 18 ?_;refine tX Later.pre 19 ?_;refine tX Later.pre 21 ?_;refine tX Later.pre 22 ?_;refine tX Later.pre 23 ?_;refine tX Later.pre 24 ?_;refine tO 20 ?_;refine zAj 124 #[.int .u32 u.s,.int .u32 u.d,.int .u8 u.pr,.int .i64 zs.length] (by go_simp) ?_;refine(zHm u.s u.d u.pr zs.length hsr hds W1).mono ?_;rintro e w2 ⟨a2,rfl,hO2,hb2⟩;refine⟨hb2,?_⟩;simp only[Act.put,sA,sB,sC]
 have l2:Later w w2:=hd.trans hb2;obtain⟨v3,w3,hr3,hO3,hb3⟩:=zE2 (P:=Tryz.prog) w2 26 26 W1.heap.size i0 Tryz.underlying26 hi hz0 hz1 hz2 a2 12 _ hO2 (by simp[psd]) w.heap.size _ zs (hI.below l2) (by rw[zBb];omega) hb2.size;refine tO 25 ?_;obtain⟨a3,c3,rfl,_,_⟩:=hO3.slice;rw[List.length_append,zBb]at hr3 hO3;refine zC9 (.tmp 23) (.tmp 27) 26 rfl _ _ rfl rfl _ w3 hr3 ⟨hb3,?_⟩;simp only[Act.put,sA,sB,sC];clear qp;refine tX Later.pre 26 ?_;refine tD ?_;go_wp2_with fail;go_ret
 exact⟨a3,c3,rfl,hO3.mono hs1,l2.trans hb3⟩
def UOk (u:Un):Prop:=(0≤u.s∧u.s≤4294967295)∧(0≤u.d∧u.d≤4294967295)∧(0≤u.a∧u.a≤65535)∧(0≤u.b∧u.b≤65535)
theorem zK3(base:Nat)(g:Nat)(u:Un)(zs:List Int)(w:World)(hB:Mt.By zs)(h:UR w g u zs)(hb:base≤w.heap.size)(hl:12+zs.length≤140737488355328)(h20:20≤zs.length)(hu:UOk u)(hpr:u.pr=6):
  Calls Tryz.prog 245 #[.pointer (some ⟨g,0,none⟩)] w fun e w'=>UQ base w g u (rwT u.s u.d u.a u.b zs) e w':=by
 obtain⟨hs,hd,ha,hbb⟩:=hu;have H1:=zAd (zH4 base g u zs w h hb (by omega) (by omega) ha hbb);have hB1:=zKy hB ha hbb;have hB2:=hB1.put2 16 (v:=0) (by omega);have hL1:=zBc u.a u.b zs;have hL2:(Mt.put2 (prt u.a u.b zs) 16 0).length=zs.length:=by rw[Mt.put2_length,hL1]
 have HR:Hid (rwT u.s u.d u.a u.b zs=Mt.put2 (Mt.put2 (prt u.a u.b zs) 16 0) 16 (Mt.cks (psd u.s u.d u.pr (Mt.put2 (prt u.a u.b zs) 16 0).length++Mt.put2 (prt u.a u.b zs) 16 0))):=by show _=_;rw[hL2,hpr];rfl
 have HPR:Hid (0≤u.pr∧u.pr≤255):=by show _∧_;omega
 clear hpr;have HE:=zAd (zAv (prt u.a u.b zs) 16 16 0 rfl (by omega));have HE2:=zAd (fun v=>zAv (Mt.put2 (prt u.a u.b zs) 16 0) 16 16 v rfl (by omega));generalize prt u.a u.b zs=z1 at*;generalize Mt.put2 z1 16 0=z2 at*;have hl1:z1.length≤140737488355328:=by omega
 have hl2:12+z2.length≤140737488355328:=by omega
 have HL2:=zAd hL2;clear hL1 hL2;go_enter Tryz.func245,Tryz.ntmps245;go_wp2_with fail;refine H1.out.mono ?_;rintro e w1 ⟨rfl,S1,b1⟩;go_wp2_with fail;refine(zBy base g u z1 16 0 w1 S1.ur (Nat.le_trans hb b1.size) hl1 (by omega)).mono ?_;rw[HE.out];rintro e w2 ⟨rfl,S2,b2⟩;go_wp2_with fail;refine(zGo g u z2 w2 S2.ur hl2 hs hd).mono ?_;rintro e w3 ⟨a3,c3,rfl,hO3,l3⟩;have hBs:=(zFg u.s u.d u.pr z2.length hs hd HPR.out).append hB2;go_wp2_with fail;refine(zD4 _ _ hBs (by rw[List.length_append,zBb];omega) w3 hO3.rd).mono ?_;rintro e w4 ⟨rfl,l4⟩;have l4':Later w3 w4:=l4;have hc:=Mt.cks_bd (psd u.s u.d u.pr z2.length++z2);have S4:=(S2.later l3).later l4';generalize Mt.cks (psd u.s u.d u.pr z2.length++z2)=ck at*;go_wp2_with fail;refine(zBy base g u z2 16 _ w4 S4.ur (Nat.le_trans hb (Nat.le_trans b1.size (Nat.le_trans b2.size (l3.trans l4').size))) (by omega) hc).mono ?_;rw[HE2.out,←HR.out];rintro e w5 ⟨rfl,S5,b5⟩;go_wp2_with fail;go_end0
 exact⟨rfl,S5,b1.trans (b2.trans ((But.of (l3.trans l4')).trans b5))⟩
abbrev zpk:List Value:=[.int .u8 0,.int .u16 0,.bool false,.int .u8 0,.int .u8 0,.int .u32 0,.int .u32 0,.slice none 0 0,.slice none 0 0]
abbrev mth (f:FuncId) (g:Nat):Value:= .func (.func f) #[.pointer (some ⟨g,0,none⟩)] #[]
def whE (g:Nat):Array MapEntry:=#[⟨.int .u8 6,mth 245 g,0⟩,⟨.int .u8 17,mth 246 g,1⟩,⟨.int .u8 1,mth 247 g,2⟩,⟨.int .u8 47,mth 248 g,3⟩]
theorem zT5(g:Nat)(w:World):Calls Tryz.prog 175 #[.pointer (some ⟨g,0,none⟩)] w fun e w'=>∃m,e= .returned (.map (some m))∧Later w w'∧w'.heap[m]? =some (.map (whE g) 4):=by
 have hmm:= @run_makeMap Tryz.prog;have hb0:Below w.heap.size w (w.alloc (.map #[] 0)):=bA _ _;have hM0:=heap_alloc_new w (.map #[] 0);obtain⟨w1,r1,m1,l1⟩:=zCj (P:=Tryz.prog) Tryz.underlying327 Tryz.underlying5 hM0 6 (mth 245 g) (by kernel_rfl);obtain⟨w2,r2,m2,l2⟩:=zCj (P:=Tryz.prog) Tryz.underlying327 Tryz.underlying5 m1 17 (mth 246 g) (by kernel_rfl);obtain⟨w3,r3,m3,l3⟩:=zCj (P:=Tryz.prog) Tryz.underlying327 Tryz.underlying5 m2 1 (mth 247 g) (by kernel_rfl);obtain⟨w4,r4,m4,l4⟩:=zCj (P:=Tryz.prog) Tryz.underlying327 Tryz.underlying5 m3 47 (mth 248 g) (by kernel_rfl);have hb4:Below w.heap.size w w4:=(((hb0.trans (l1 _ (Nat.le_refl _))).trans (l2 _ (Nat.le_refl _))).trans (l3 _ (Nat.le_refl _))).trans (l4 _ (Nat.le_refl _));clear m1 m2 m3 l1 l2 l3 l4 hM0 hb0;have M4:=zAd m4;clear m4;go_enter Tryz.func175,Tryz.ntmps175;go_wp2_with fail;go_ret
 exact⟨_,rfl,hb4,M4.out⟩
theorem zEq {P:Program} {q:IntKind} {t kt et:TypeId} (ht:P.underlying t=some (.map kt et))(hk:P.underlying kt=some (.int q)) {w:World} {b:Nat} {es:Array MapEntry} {c:Nat} (hb:w.heap[b]? =some (.map es c))(z:Int)(v:Value)(j:Nat)
  (hf:Instr.findNow (.int q) (.int q z) es.toList 0=some (some (j,v))):(Instr.lookup t (.map (some b)) (.int q z) false).run P w= .ok v w:=by
 have hc:(Instr.checkKey es.isEmpty 10000 kt (.int q z)).run P w= .ok () w:=MapKept.run_checkKey (k:= .int q z) hk (by simp[MapKept.IsKey]) _ 9999;simp[Instr.lookup,run_underlying ht,MapKept.run_getObj_map hb,hc,MapKept.run_findKey hk hf,Result.andThen]
def uf (pr:Int):FuncId:=if pr=6 then 245 else if pr=17 then 246 else if pr=1 then 247 else 248
def pok (pr:Int):Prop:=pr=6∨pr=17∨pr=1∨pr=47
theorem ofe_pok {pr src dst:Int} {zd:List Int} (h:ofe pr src dst zd=0):pok pr:=by
 unfold ofe at h;unfold pok;split at h
 ·omega
 split at h
 ·omega
 split at h
 ·omega
 split at h
 ·omega
 ·omega
theorem look_uf {pr:Int} (h:pok pr)(g:Nat) {w:World} {m:Nat} (hm:w.heap[m]? =some (.map (whE g) 4)):(Instr.lookup 327 (.map (some m)) (.int .u8 pr) false).run Tryz.prog w= .ok (mth (uf pr) g) w:=by
 rcases h with rfl|rfl|rfl|rfl
 ·exact zEq Tryz.underlying327 Tryz.underlying5 hm 6 _ 0 (by kernel_rfl)
 ·exact zEq Tryz.underlying327 Tryz.underlying5 hm 17 _ 1 (by kernel_rfl)
 ·exact zEq Tryz.underlying327 Tryz.underlying5 hm 1 _ 2 (by kernel_rfl)
 ·exact zEq Tryz.underlying327 Tryz.underlying5 hm 47 _ 3 (by kernel_rfl)
theorem cf_uf {pr:Int} (h:pok pr)(args:Array Value)(w:World):(callFunc (uf pr) args).run Tryz.prog w= .ok (.enter (uf pr) args) w:=by
 rcases h with rfl|rfl|rfl|rfl<;>kernel_rfl
theorem uf_any {pr:Int} {src dst:Int} (base:Nat)(g:Nat)(u:Un)(zs:List Int)(w:World)(hB:Mt.By zs)(h:UR w g u zs)(hb:base≤w.heap.size)(hl:12+zs.length≤140737488355328)(hu:UOk u)(hpr:u.pr=pr)(ho:ofe pr src dst zs=0)(hp:pr=6):
  Calls Tryz.prog (uf pr) #[.pointer (some ⟨g,0,none⟩)] w fun e w'=>UQ base w g u (rwD pr u.s u.d u.a u.b zs) e w':=by
 have hs:=hu.1;have hd:=hu.2.1;have ha:=hu.2.2.1;have hbb:=hu.2.2.2;unfold ofe at ho;subst hp;rw[if_pos rfl]at ho;rw[show uf 6=245 from rfl,show rwD 6 u.s u.d u.a u.b zs=rwT u.s u.d u.a u.b zs from by unfold rwD;rw[if_pos rfl]];exact zK3 base g u zs w hB h hb hl (zT3 (s:=u.s) (d:=u.d) (a:=u.a) (b:=u.b) hB ho hs hd ha hbb).2.2.2.1 hu hpr
def rwe (pr tp src dst:Int) (lo:Nat) (zd:List Int):Int:=if pr≠tp then 12 else if ofe pr src dst zd≠0 then ofe pr src dst zd else flt lo zd.length
theorem zDk(w:World)(o:Obj):Later w (w.alloc o):=bA _ _
theorem zM2(tos id ttl pr src dst:Int)(keep:Bool)(so sd:Value)(zo zd:List Int)(tp s d a b:Int)(w:World)(hT:Tb w)(hBo:Mt.By zo)(hBd:Mt.By zd)(hIo:Rd w.heap.size w so zo)(hId:Rd w.heap.size w sd zd)(hlo:zo.length≤140737488355328)(hl:zd.length≤140737488351232)
  (ht:0≤tos∧tos≤255)(hid:0≤id∧id≤65535)(htt:0≤ttl∧ttl≤255)(hpr:0≤pr∧pr≤255)(hsr:0≤src∧src≤4294967295)(hds:0≤dst∧dst≤4294967295)(hs:0≤s∧s≤4294967295)(hd:0≤d∧d≤4294967295)(ha:0≤a∧a≤65535)(hb:0≤b∧b≤65535)(hp:Hid (pr=6)):
  Calls Tryz.prog 117 #[.agg #[.int .u8 tos,.int .u16 id,.bool keep,.int .u8 ttl,.int .u8 pr,.int .u32 src,.int .u32 dst,so,sd],.agg #[.int .u8 tp,.int .u32 s,.int .u32 d,.int .u16 a,.int .u16 b]] w fun e w'=>Below w.heap.size w w'∧((rwe pr tp src dst zo.length zd≠0∧e= .returned (.tuple #[.agg zpk.toArray,.int .i64 (rwe pr tp src dst zo.length zd)]))∨
   (rwe pr tp src dst zo.length zd=0∧∃ao co ad cd,e= .returned (.tuple #[.agg #[.int .u8 tos,.int .u16 id,.bool keep,.int .u8 ttl,.int .u8 pr,.int .u32 s,.int .u32 d,.slice ao zo.length co,.slice ad zd.length cd],.int .i64 0])∧Ow w.heap.size w' (.slice ao zo.length co) zo∧Ow w.heap.size w' (.slice ad zd.length cd) (rwD pr s d a b zd))):=by
 obtain⟨ao,co,rfl,hlo1,hmo1⟩:=hIo.slice;obtain⟨ad,cd,rfl,hl1,hm1⟩:=hId.slice;have hb0:Below w.heap.size w (((w.alloc (.cells #[.int .u8 tos,.int .u16 id,.bool keep,.int .u8 ttl,.int .u8 pr,.int .u32 src,.int .u32 dst,.slice ao zo.length co,.slice ad zd.length cd] 40)).alloc (.cells #[.int .u8 tp,.int .u32 s,.int .u32 d,.int .u16 a,.int .u16 b] 103)).alloc (.cells zpk.toArray 40)):=((bA _ _).alloc (by simp) _).alloc (by simp<;>omega) _;have p0:(((w.alloc (.cells #[.int .u8 tos,.int .u16 id,.bool keep,.int .u8 ttl,.int .u8 pr,.int .u32 src,.int .u32 dst,.slice ao zo.length co,.slice ad zd.length cd] 40)).alloc (.cells #[.int .u8 tp,.int .u32 s,.int .u32 d,.int .u16 a,.int .u16 b] 103)).alloc (.cells zpk.toArray 40)).heap[w.heap.size]? =some (.cells #[.int .u8 tos,.int .u16 id,.bool keep,.int .u8 ttl,.int .u8 pr,.int .u32 src,.int .u32 dst,.slice ao zo.length co,.slice ad zd.length cd] 40):=(Below.heap_alloc _ _ _ (by simp<;>omega)).trans ((Below.heap_alloc _ _ _ (by simp)).trans (heap_alloc_new w _))
 have t0:(((w.alloc (.cells #[.int .u8 tos,.int .u16 id,.bool keep,.int .u8 ttl,.int .u8 pr,.int .u32 src,.int .u32 dst,.slice ao zo.length co,.slice ad zd.length cd] 40)).alloc (.cells #[.int .u8 tp,.int .u32 s,.int .u32 d,.int .u16 a,.int .u16 b] 103)).alloc (.cells zpk.toArray 40)).heap[w.heap.size+1]? =some (.cells #[.int .u8 tp,.int .u32 s,.int .u32 d,.int .u16 a,.int .u16 b] 103):=by
  have:=heap_alloc_new (w.alloc (.cells #[.int .u8 tos,.int .u16 id,.bool keep,.int .u8 ttl,.int .u8 pr,.int .u32 src,.int .u32 dst,.slice ao zo.length co,.slice ad zd.length cd] 40)) (.cells #[.int .u8 tp,.int .u32 s,.int .u32 d,.int .u16 a,.int .u16 b] 103);rw[World.size_alloc]at this;exact(Below.heap_alloc _ _ _ (by simp)).trans this
 have r0:(((w.alloc (.cells #[.int .u8 tos,.int .u16 id,.bool keep,.int .u8 ttl,.int .u8 pr,.int .u32 src,.int .u32 dst,.slice ao zo.length co,.slice ad zd.length cd] 40)).alloc (.cells #[.int .u8 tp,.int .u32 s,.int .u32 d,.int .u16 a,.int .u16 b] 103)).alloc (.cells zpk.toArray 40)).heap[w.heap.size+1+1]? =some (.cells zpk.toArray 40):=by
  have:=heap_alloc_new ((w.alloc (.cells #[.int .u8 tos,.int .u16 id,.bool keep,.int .u8 ttl,.int .u8 pr,.int .u32 src,.int .u32 dst,.slice ao zo.length co,.slice ad zd.length cd] 40)).alloc (.cells #[.int .u8 tp,.int .u32 s,.int .u32 d,.int .u16 a,.int .u16 b] 103)) (.cells zpk.toArray 40);simpa only[World.size_alloc]using this
 have P0:=zAd p0;have T0:=zAd t0;have R0:=zAd r0;clear p0 t0 r0;go_enter Tryz.func117,Tryz.ntmps117;go_upto_region 1 with fail;generalize ((w.alloc _).alloc _).alloc _=W0 at*;have kP:=zAa P0.out;have kT:=zAa T0.out;by_cases c1:pr=tp
 case neg=>
  have t1:(pr !=tp)=true:=by simp[c1]
  have HF:Hid (rwe pr tp src dst zo.length zd=12):=by show _=_;unfold rwe;rw[if_pos c1]
  have HNZ:Hid ((12:Int)≠0):=by show(12:Int)≠0;decide
  have kR:=zAa R0.out;have fR:=zAc R0.out;clear c1;go_wp2_with fail;generalize hV:World.setCell _ ⟨w.heap.size+1+1,8,none⟩ _=V8;have hV9:V8=zAi W0 (w.heap.size+1+1) 0 zpk:=hV.symm;have hb8:But (fun b=>b=w.heap.size+1+1) W0 V8:=by { rw[hV9];exact zAf (E:=fun b=>b=w.heap.size+1+1) (n:=w.heap.size+1+1) rfl _ _ _ _ (But.refl _ _) };have p8:=zAe zpk R0.out rfl;rw[←hV9]at p8;clear hV hV9;have P8:=zAa p8;have hw8:Below w.heap.size w V8:=(hb0).trans (hb8.below (hb0).size (fun k h e=>by omega));exact bodyPost_ret (v:= .tuple #[.agg zpk.toArray,.int .i64 12]) (by simp[results,Tryz.results117,go_sem,P8,zpk]) rfl ⟨hw8,.inl ⟨by rw[HF.out];exact HNZ.out,by rw[HF.out]⟩⟩
 subst c1;have t1:(pr !=pr)=false:=by simp
 have hs0:w.heap.size+1+1<W0.heap.size:=(eS R0.out);go_upto_region 3 with fail;go_wp2_with fail;refine(zTp tos id ttl pr src dst keep _ _ zd W0 (hT.below hb0 hT.pos) hBd ((hId.below hb0).mono hb0.size) (by omega) hsr hds hp.out).mono ?_;obtain⟨oe,HO⟩:∃e,Hid (ofe pr src dst zd=e):=⟨_,rfl⟩;rw[HO.out];rintro e w1 ⟨hb1,rfl⟩;have l1:Later W0 w1:=hb1;have hw1:Below w.heap.size w w1:=Later.below hb0 (Nat.le_refl _) l1;by_cases c2:oe=0
 case neg=>
  rw[otv_no c2];have t2:(oe !=0)=true:=by simp[c2]
  have HF:Hid (rwe pr pr src dst zo.length zd=oe):=by show _=_;unfold rwe;rw[if_neg (by simp),HO.out,if_pos c2]
  have HNZ:Hid (oe≠0):=c2;have r1:=(l1.block (w.heap.size+1+1) hs0).trans R0.out;have lA:=zDk w1 (.cells #[.int .u8 0,.int .u32 0,.int .u32 0,.int .u16 0,.int .u16 0] 103);have r2:=(lA.block (w.heap.size+1+1) (eS r1)).trans r1;have hw2:Below w.heap.size w (w1.alloc (.cells #[.int .u8 0,.int .u32 0,.int .u32 0,.int .u16 0,.int .u16 0] 103)):=Later.below hw1 (Nat.le_refl _) lA;have R2:=zAd r2;clear c2 kP kT r1 r2 lA;go_upto_region 4 with fail;generalize w1.alloc _=w2 at*;have kR:=zAa R2.out;have fR:=zAc R2.out;go_wp2_with fail;generalize hV:World.setCell _ ⟨w.heap.size+1+1,8,none⟩ _=V8;have hV9:V8=zAi w2 (w.heap.size+1+1) 0 zpk:=hV.symm;have hb8:But (fun b=>b=w.heap.size+1+1) w2 V8:=by { rw[hV9];exact zAf (E:=fun b=>b=w.heap.size+1+1) (n:=w.heap.size+1+1) rfl _ _ _ _ (But.refl _ _) };have p8:=zAe zpk R2.out rfl;rw[←hV9]at p8;clear hV hV9;have P8:=zAa p8;have hw8:Below w.heap.size w V8:=(hw2).trans (hb8.below (hw2).size (fun k h e=>by omega));exact bodyPost_ret (v:= .tuple #[.agg zpk.toArray,.int .i64 oe]) (by simp[results,Tryz.results117,go_sem,P8,zpk]) rfl ⟨hw8,.inl ⟨by rw[HF.out];exact HNZ.out,by rw[HF.out]⟩⟩
 subst c2;have hok:=ofe_pok HO.out;rw[otv_ok];have HFL:Hid (rwe pr pr src dst zo.length zd=flt zo.length zd.length):=by show _=_;unfold rwe;rw[if_neg (by simp),HO.out,if_neg (by simp)]
 generalize ofa pr zd=wa at*;generalize ofb pr zd=wb at*;have P1:=zAd ((l1.block w.heap.size (by omega)).trans P0.out);have T1:=zAd ((l1.block (w.heap.size+1) (by omega)).trans T0.out);have R1:=zAd ((l1.block (w.heap.size+1+1) hs0).trans R0.out);have hs1:w.heap.size+1+1<w1.heap.size:=Nat.lt_of_lt_of_le hs0 l1.size;have lA:=zDk w1 (.cells #[.int .u8 pr,.int .u32 src,.int .u32 dst,.int .u16 wa,.int .u16 wb] 103);have W2:=zAd (heap_alloc_new w1 (.cells #[.int .u8 pr,.int .u32 src,.int .u32 dst,.int .u16 wa,.int .u16 wb] 103));clear kP kT P0 T0 R0;go_upto_region 6 with fail;generalize w1.alloc _=w2 at*;have P2:=zAd ((lA.block w.heap.size (by omega)).trans P1.out);have T2:=zAd ((lA.block (w.heap.size+1) (by omega)).trans T1.out);have R2:=zAd ((lA.block (w.heap.size+1+1) hs1).trans R1.out);have hs2:w1.heap.size<w2.heap.size:=(eS W2.out);have hw2:Below w.heap.size w w2:=Later.below hw1 (Nat.le_refl _) lA;have kP:=zAa P2.out;have kT:=zAa T2.out;have kW:=zAa W2.out;have lB:=zDk w2 (.cells #[.slice ad zd.length cd,.int .u8 pr,.int .u32 src,.int .u32 dst,.int .u16 wa,.int .u16 wb,.int .u8 pr,.int .u32 s,.int .u32 d,.int .u16 a,.int .u16 b] 326);have U3:Hid (UB (w2.alloc (.cells #[.slice ad zd.length cd,.int .u8 pr,.int .u32 src,.int .u32 dst,.int .u16 wa,.int .u16 wb,.int .u8 pr,.int .u32 s,.int .u32 d,.int .u16 a,.int .u16 b] 326)) w2.heap.size ⟨pr,src,dst,wa,wb,pr,s,d,a,b⟩ (.slice ad zd.length cd)):=heap_alloc_new w2 _;clear P1 T1 R1
 go_upto_region 7 with fail;generalize w2.alloc _=w3 at*;clear kP kT kW;generalize hg:w2.heap.size=g at*;have P3:=zAd ((lB.block w.heap.size (by omega)).trans P2.out);have T3:=zAd ((lB.block (w.heap.size+1) (by omega)).trans T2.out);have R3:=zAd ((lB.block (w.heap.size+1+1) (by omega)).trans R2.out);have hw3:Below w.heap.size w w3:=Later.below hw2 (Nat.le_refl _) lB;have hg3:g<w3.heap.size:=(eS U3.out);have hsg:w.heap.size+1+1<g:=by omega
 have hId3:Rd w3.heap.size w3 (.slice ad zd.length cd) zd:=(hId.below hw3).mono hw3.size;have HG:=zAd hg;clear hg lA lB P2 T2 R2 W2 hs2;refine zAl (R:=But (fun q=>q=g)) 5 rfl (by kernel_rfl) ?_;have hdr:Later w3 w3.drew:=Later.drew w3;have P4:=zAd ((hdr.block w.heap.size (by omega)).trans P3.out);have T4:=zAd ((hdr.block (w.heap.size+1) (by omega)).trans T3.out);have R4:=zAd ((hdr.block (w.heap.size+1+1) (by omega)).trans R3.out);have hUR:UR w3.drew g ⟨pr,src,dst,wa,wb,pr,s,d,a,b⟩ zd:=(show UR w3 g ⟨pr,src,dst,wa,wb,pr,s,d,a,b⟩ zd from⟨_,U3.out,hId3⟩).later hdr;have hw4:Below w.heap.size w w3.drew:=Later.below hw3 (Nat.le_refl _) hdr;have hg4:g<w3.drew.heap.size:=Nat.lt_of_lt_of_le hg3 hdr.size;generalize w3.drew=w4 at*;have qT:∀v1,But (fun q=>q=g) w4 v1→∀i,v1.cell? ⟨w.heap.size+1,i,none⟩=#[Value.int .u8 pr,.int .u32 s,.int .u32 d,.int .u16 a,.int .u16 b][i]? :=fun v1 h=>zAa ((h.block (w.heap.size+1) (by omega) (by omega)).trans T4.out);refine tX (But.pre _) 1 ?_;refine tX (But.pre _) 2 ?_;clear qT;refine tO 0 ?_;refine zAj 175 #[.pointer (some ⟨g,0,none⟩)] (by go_simp) ((zT5 g w4).mono ?_);rintro e w5 ⟨m,rfl,l5,hm5⟩;refine⟨But.of l5,?_⟩;simp only[Act.put,sA,sB,sC]
 have hmg:m≠g:=by
  intro e
  subst e;obtain⟨bv,hx,_⟩:=hUR.later l5;rw[UB,hm5]at hx;cases hx
 have qL:∀v1,But (fun q=>q=g) w5 v1→(Instr.lookup 327 (.map (some m)) (.int .u8 pr) false).run Tryz.prog v1= .ok (mth (uf pr) g) v1:=fun v1 h=>look_uf hok g ((h.block m (eS hm5) hmg).trans hm5);refine tX (But.pre _) 3 ?_;clear qL;refine tO 4 ?_;have hcf:=cf_uf hok #[.pointer (some ⟨g,0,none⟩)] w5;refine zAj (uf pr) #[.pointer (some ⟨g,0,none⟩)] (by go_simp) ((uf_any (pr:=pr) w.heap.size g ⟨pr,src,dst,wa,wb,pr,s,d,a,b⟩ zd w5 hBd (hUR.later l5) (Nat.le_trans hw4.size l5.size) (by omega) ⟨hs,hd,ha,hb⟩ rfl HO.out hp.out).mono ?_);rintro e w6 ⟨rfl,S6,b6⟩;refine⟨b6,?_⟩;simp only[Act.put,sA,sB,sC];refine tD ?_;obtain⟨bv6,hU6,hO6⟩:=S6;obtain⟨a6,c6,rfl,_,_⟩:=hO6.slice;rw[zH3]at hU6 hO6;have b46:But (fun q=>q=g) w4 w6:=(But.of l5).trans b6;have P6:=zAd ((b46.block w.heap.size (by omega) (by omega)).trans P4.out);have T6:=zAd ((b46.block (w.heap.size+1) (by omega) (by omega)).trans T4.out);have R6:=zAd ((b46.block (w.heap.size+1+1) (by omega) (by omega)).trans R4.out);have hw6:Below w.heap.size w w6:=hw4.trans (b46.below hw4.size (fun k hk e=>by omega));have hg6:g<w6.heap.size:=Nat.lt_of_lt_of_le hg4 b46.size;have U6:=zAd hU6;have O6:=zAd hO6;clear hU6 hO6 b6 l5 hm5 hmg b46 P4 T4 R4 hUR hw4 hg4 hcf P3 T3 R3 U3 hId3 hw3 hg3 hdr;go_upto_region 8 with fail;refine zAl (R:=But (fun q=>q=w.heap.size)) 17 rfl (by kernel_rfl) ?_;have hdr:Later w6 w6.drew:=Later.drew w6;have P7:=zAd ((hdr.block w.heap.size (by omega)).trans P6.out)
 have T7:=zAd ((hdr.block (w.heap.size+1) (by omega)).trans T6.out);have R7:=zAd ((hdr.block (w.heap.size+1+1) (by omega)).trans R6.out);have U7:=zAd (U6.out.later hdr);have O7:=zAd (O6.out.later hdr);have hw7:Below w.heap.size w w6.drew:=Later.below hw6 (Nat.le_refl _) hdr;have hg7:g<w6.drew.heap.size:=Nat.lt_of_lt_of_le hg6 hdr.size;generalize w6.drew=w7 at*;have qT:∀v1,But (fun q=>q=w.heap.size) w7 v1→∀i,v1.cell? ⟨w.heap.size+1,i,none⟩=#[Value.int .u8 pr,.int .u32 s,.int .u32 d,.int .u16 a,.int .u16 b][i]? :=fun v1 h=>zAa ((h.block (w.heap.size+1) (by omega) (by omega)).trans T7.out);have qU:∀v1,But (fun q=>q=w.heap.size) w7 v1→∀i,v1.cell? ⟨g,i,none⟩=#[Value.slice a6 zd.length c6,.int .u8 pr,.int .u32 src,.int .u32 dst,.int .u16 wa,.int .u16 wb,.int .u8 pr,.int .u32 s,.int .u32 d,.int .u16 a,.int .u16 b][i]? :=fun v1 h=>zAa ((h.block g hg7 (by omega)).trans U7.out);refine tX (But.pre _) 0 ?_;refine tX (But.pre _) 1 ?_;refine tX (But.pre _) 2 ?_;refine tX (But.pre _) 3 ?_;refine tX (But.pre _) 4 ?_;refine tX (But.pre _) 7 ?_;refine tX (But.pre _) 8 ?_;clear qT qU;have kP:=zAa P7.out;refine tO 5 ?_;unfold Oper.wp;go_simp;refine⟨But.refl _ _,?_⟩;clear kP;refine tX (But.pre _) 9 ?_;refine tO 6 ?_;refine zAj 71 #[.slice ao zo.length co] (by go_simp) ((zAx _ zo w7 (by omega) ((hIo.below hw7).mono hw7.size)).mono ?_);rintro e w8 ⟨a8,c8,rfl,hO8,hb8⟩;have l8:Later w7 w8:=hb8;refine⟨But.of l8,?_⟩;simp only[Act.put,sA,sB,sC]
 have P8:=zAd ((l8.block w.heap.size (by omega)).trans P7.out);have R8:=zAd ((l8.block (w.heap.size+1+1) (by omega)).trans R7.out);have O8:=zAd (hO8.mono hw7.size);have D8:=zAd (O7.out.later l8);have hw8:Below w.heap.size w w8:=Later.below hw7 (Nat.le_refl _) l8;have hs8:w.heap.size+1+1<w8.heap.size:=Nat.lt_of_lt_of_le (by omega) l8.size;have Bw8:But (fun q=>q=w.heap.size) w8 w8:=But.refl _ _;clear hO8 hb8 P7 T7 R7 U7 O7 hw7 hg7 l8 hdr U6 O6 T6 R6 P6;have kS:=zAa P8.out;have fS:=zAc P8.out;have P9:=zAd (zAh P8.out 5 (.int .u32 s));have bt:Hid (But (fun q=>q=w.heap.size) w8 (w8.setCell ⟨w.heap.size,5,none⟩ (.int .u32 s))):=But.setCell (E:=fun q=>q=w.heap.size) (But.refl _ _) (p:=⟨w.heap.size,5,none⟩) rfl _;refine tO 10 ?_;unfold Oper.wp;go_simp;refine⟨bt.out,?_⟩;have Bw9:=Bw8.trans bt.out;clear bt kS fS;generalize w8.setCell ⟨w.heap.size,5,none⟩ _=w9 at*;refine tX (But.pre _) 11 ?_;have kS:=zAa P9.out;have fS:=zAc P9.out;have P10:=zAd (zAh P9.out 6 (.int .u32 d));have bt:Hid (But (fun q=>q=w.heap.size) w9 (w9.setCell ⟨w.heap.size,6,none⟩ (.int .u32 d))):=But.setCell (E:=fun q=>q=w.heap.size) (But.refl _ _) (p:=⟨w.heap.size,6,none⟩) rfl _;refine tO 12 ?_;unfold Oper.wp;go_simp;refine⟨bt.out,?_⟩;have Bw10:=Bw9.trans bt.out;clear bt kS fS;generalize w9.setCell ⟨w.heap.size,6,none⟩ _=w10 at*;refine tX (But.pre _) 13 ?_;have kS:=zAa P10.out;have fS:=zAc P10.out
 have P11:=zAd (zAh P10.out 7 (.slice a8 zo.length c8));have bt:Hid (But (fun q=>q=w.heap.size) w10 (w10.setCell ⟨w.heap.size,7,none⟩ (.slice a8 zo.length c8))):=But.setCell (E:=fun q=>q=w.heap.size) (But.refl _ _) (p:=⟨w.heap.size,7,none⟩) rfl _;refine tO 14 ?_;unfold Oper.wp;go_simp;refine⟨bt.out,?_⟩;have Bw11:=Bw10.trans bt.out;clear bt kS fS;generalize w10.setCell ⟨w.heap.size,7,none⟩ _=w11 at*;refine tX (But.pre _) 15 ?_;have kS:=zAa P11.out;have fS:=zAc P11.out;have P12:=zAd (zAh P11.out 8 (.slice a6 zd.length c6));have bt:Hid (But (fun q=>q=w.heap.size) w11 (w11.setCell ⟨w.heap.size,8,none⟩ (.slice a6 zd.length c6))):=But.setCell (E:=fun q=>q=w.heap.size) (But.refl _ _) (p:=⟨w.heap.size,8,none⟩) rfl _;refine tO 16 ?_;unfold Oper.wp;go_simp;refine⟨bt.out,?_⟩;have Bw12:=Bw11.trans bt.out;clear bt kS fS;generalize w11.setCell ⟨w.heap.size,8,none⟩ _=w12 at*;refine tD ?_;have P13:Hid (w12.heap[w.heap.size]? =some (.cells #[.int .u8 tos,.int .u16 id,.bool keep,.int .u8 ttl,.int .u8 pr,.int .u32 s,.int .u32 d,.slice a8 zo.length c8,.slice a6 zd.length c6] 40)):=by have:=P12.out;simp at this;exact this
 have R13:=zAd ((Bw12.block (w.heap.size+1+1) hs8 (by omega)).trans R8.out);have O13:=zAd (Ow.aside O8.out P8.out (by decide) Bw12);have D13:=zAd (Ow.aside D8.out P8.out (by decide) Bw12);have hw12:Below w.heap.size w w12:=hw8.trans (Bw12.below hw8.size (fun k hk e=>by omega));have hs12:w.heap.size+1+1<w12.heap.size:=Nat.lt_of_lt_of_le hs8 Bw12.size;clear P8 P9 P10 P11 P12 R8 O8 D8 Bw8 Bw9 Bw10 Bw11 Bw12 hw8 hs8;have kP:=zAa P13.out;obtain⟨fl,HFF⟩:∃f,Hid (flt zo.length zd.length=f):=⟨_,rfl⟩;by_cases c3:fl=0
 case neg=>
  have hfn:flt zo.length zd.length≠0:=by rw[HFF.out];exact c3
  have t3:(fl !=0)=true:=by simp[c3]
  have HF:Hid (rwe pr pr src dst zo.length zd=fl):=by show _=_;rw[HFL.out,HFF.out]
  have HNZ:Hid (fl≠0):=c3;have HBN:=zAd (zOs tos id ttl pr s d keep a8 a6 zo.length c8 zd.length c6 w12 (by omega) (by omega) hfn);rw[HFF.out]at HBN;clear c3 hfn;go_wp2_with fail;refine HBN.out.mono ?_;rintro e w13 ⟨rfl,hb13⟩;have l13:Later w12 w13:=hb13;have R14:=zAd ((l13.block (w.heap.size+1+1) hs12).trans R13.out);have hw13:Below w.heap.size w w13:=Later.below hw12 (Nat.le_refl _) l13;have kR:=zAa R14.out;have fR:=zAc R14.out;clear kP;go_wp2_with fail;generalize hV:World.setCell _ ⟨w.heap.size+1+1,8,none⟩ _=V8;have hV9:V8=zAi w13 (w.heap.size+1+1) 0 zpk:=hV.symm;have hb8:But (fun b=>b=w.heap.size+1+1) w13 V8:=by { rw[hV9];exact zAf (E:=fun b=>b=w.heap.size+1+1) (n:=w.heap.size+1+1) rfl _ _ _ _ (But.refl _ _) };have p8:=zAe zpk R14.out rfl;rw[←hV9]at p8;clear hV hV9;have P8:=zAa p8;have hw8:Below w.heap.size w V8:=(hw13).trans (hb8.below (hw13).size (fun k h e=>by omega));exact bodyPost_ret (v:= .tuple #[.agg zpk.toArray,.int .i64 fl]) (by simp[results,Tryz.results117,go_sem,P8,zpk]) rfl ⟨hw8,.inl ⟨by rw[HF.out];exact HNZ.out,by rw[HF.out]⟩⟩
 subst c3;have hfit:=flt_fit2 HFF.out;have HF:Hid (rwe pr pr src dst zo.length zd=0):=by show _=_;rw[HFL.out,HFF.out]
 have HBY:=zAd (zEj tos id ttl pr s d keep (.slice a8 zo.length c8) (.slice a6 zd.length c6) zo (rwD pr s d a b zd) w12 hBo O13.out.rd D13.out.rd hfit.1 hfit.2.1 (by rw[zH3];exact hfit.2.2) ht hid htt hpr hs hd);clear hfit;go_wp2_with fail;refine HBY.out.mono ?_;rintro e w13 ⟨bv,rfl,hOb,hb13⟩;have l13:Later w12 w13:=hb13;have P14:=zAd ((l13.block w.heap.size (by omega)).trans P13.out);have R14:=zAd ((l13.block (w.heap.size+1+1) hs12).trans R13.out);have O14:=zAd (O13.out.later l13);have D14:=zAd (D13.out.later l13);have hw13:Below w.heap.size w w13:=Later.below hw12 (Nat.le_refl _) l13;clear kP hOb HBY hb13 l13 P13 R13 O13 D13;have kP:=zAa P14.out;have kR:=zAa R14.out;have fR:=zAc R14.out;go_wp2_with fail;generalize hV:World.setCell _ ⟨w.heap.size+1+1,8,none⟩ _=V8;have hV9:V8=zAi w13 (w.heap.size+1+1) 0 [.int .u8 tos,.int .u16 id,.bool keep,.int .u8 ttl,.int .u8 pr,.int .u32 s,.int .u32 d,.slice a8 zo.length c8,.slice a6 zd.length c6]:=hV.symm;have hb8:But (fun b=>b=w.heap.size+1+1) w13 V8:=by rw[hV9];exact zAf (E:=fun b=>b=w.heap.size+1+1) (n:=w.heap.size+1+1) rfl _ _ _ _ (But.refl _ _)
 have p8:=zAe [.int .u8 tos,.int .u16 id,.bool keep,.int .u8 ttl,.int .u8 pr,.int .u32 s,.int .u32 d,.slice a8 zo.length c8,.slice a6 zd.length c6] R14.out rfl;rw[←hV9]at p8;clear hV hV9;have P8:=zAa p8;have hw8:Below w.heap.size w V8:=hw13.trans (hb8.below hw13.size (fun k h e=>by omega));exact bodyPost_ret (v:= .tuple #[.agg #[.int .u8 tos,.int .u16 id,.bool keep,.int .u8 ttl,.int .u8 pr,.int .u32 s,.int .u32 d,.slice a8 zo.length c8,.slice a6 zd.length c6],.int .i64 0]) (by simp[results,Tryz.results117,go_sem,P8]) rfl ⟨hw8,.inr ⟨HF.out,a8,c8,a6,c6,rfl,Ow.aside O14.out R14.out (by decide) hb8,Ow.aside D14.out R14.out (by decide) hb8⟩⟩
attribute [local go_sem] Oper.semAt_some
end Go.Proofs.YteaeilghamjjkaaGreatDoor
