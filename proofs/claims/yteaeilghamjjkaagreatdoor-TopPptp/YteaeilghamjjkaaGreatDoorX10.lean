import Derived.Test.YteaeilghamjjkaaGreatDoorX11
import Derived.Deep.DeepCutAuto
import Derived.Deep.CutBlock
namespace Go.Proofs.YteaeilghamjjkaaGreatDoor
set_option maxHeartbeats 16000000
open Go.RowKit Go.Shelf
set_option maxRecDepth 100000
set_option linter.unusedVariables false
set_option linter.unusedSimpArgs false
structure Un where
 p1:Int
 s1:Int
 d1:Int
 a1:Int
 b1:Int
 pr:Int
 s:Int
 d:Int
 a:Int
 b:Int
def unc (u:Un) (bv:Value):Array Value:=#[bv,.int .u8 u.p1,.int .u32 u.s1,.int .u32 u.d1,.int .u16 u.a1,.int .u16 u.b1,.int .u8 u.pr,.int .u32 u.s,.int .u32 u.d,.int .u16 u.a,.int .u16 u.b]
def UB (w:World) (g:Nat) (u:Un) (bv:Value):Prop:=w.heap[g]? =some (.cells (unc u bv) 326 (0,0))
def UR (w:World) (g:Nat) (u:Un) (zs:List Int):Prop:=∃bv,UB w g u bv∧Rd w.heap.size w bv zs
def US (base:Nat) (w:World) (g:Nat) (u:Un) (zs:List Int):Prop:=∃bv,UB w g u bv∧Ow base w bv zs
theorem US.ur {base:Nat} {w:World} {g:Nat} {u:Un} {zs:List Int} (h:US base w g u zs):UR w g u zs:=by
 obtain⟨bv,h1,h2⟩:=h;exact⟨bv,h1,h2.rd⟩
theorem UB.later {w w':World} {g:Nat} {u:Un} {bv:Value} (h:UB w g u bv)(l:Later w w'):UB w' g u bv:=(l.block g (eS h)).trans h
theorem UR.later {w w':World} {g:Nat} {u:Un} {zs:List Int} (h:UR w g u zs)(l:Later w w'):UR w' g u zs:=by
 obtain⟨bv,h1,h2⟩:=h;exact⟨bv,h1.later l,(h2.below l).mono l.size⟩
theorem US.later {base:Nat} {w w':World} {g:Nat} {u:Un} {zs:List Int} (h:US base w g u zs)(l:Later w w'):US base w' g u zs:=by
 obtain⟨bv,h1,h2⟩:=h;exact⟨bv,h1.later l,h2.later l⟩
def UQ (base:Nat) (w:World) (g:Nat) (u:Un) (zs:List Int) (e:Ending) (w':World):Prop:=e= .returned (.tuple #[])∧US base w' g u zs∧But (fun q=>q=g) w w'
theorem zDz(base:Nat)(g:Nat)(u:Un)(zs:List Int)(p v:Int)(w:World)(h:UR w g u zs)(hb:base≤w.heap.size)(hl:zs.length≤140737488355328)(hv:0≤v∧v≤65535):
  Calls Tryz.prog 296 #[.pointer (some ⟨g,0,none⟩),.int .i64 p,.int .u16 v] w fun e w'=>UQ base w g u (zAq zs p v) e w':=by
 obtain⟨bv,hU,hI⟩:=h;obtain⟨a,cap,rfl,hl1,hm1⟩:=hI.slice;have CU:=zAa hU;simp only[unc]at CU;go_enter Tryz.func296,Tryz.ntmps296;go_wp2_with fail;refine(zBf _ zs p v w hl hI hv).mono ?_;rintro e w1 ⟨a1,rfl,hO,hb1⟩;have l1:Later w w1:=hb1;have hU1:=hU.later l1;have C1:=zAa hU1;have F1:=zAd hU1;simp only[unc]at C1;have hB:But (fun q=>q=g) w1 (w1.setCell ⟨g,0,none⟩ (.slice a1 zs.length zs.length)):=But.setCell (E:=fun q=>q=g) (But.refl _ _) (p:=⟨g,0,none⟩) rfl _;have hU2:UB (w1.setCell ⟨g,0,none⟩ (.slice a1 zs.length zs.length)) g u (.slice a1 zs.length zs.length):=zAh hU1 0 _;have HB:=zAc hB;have HU2:=zAc hU2;have hO2:=zAc (Ow.aside (hO.mono hb) hU1 (by decide) hB);clear hB hU2 CU hU hI;go_wp2_with fail;go_end0
 exact⟨rfl,⟨_,HU2.out,hO2.out⟩,(But.of l1).trans HB.out⟩
theorem zOb(base:Nat)(g:Nat)(u:Un)(zs:List Int)(w:World)(h:UR w g u zs)(hb:base≤w.heap.size)(hl:zs.length≤140737488355328)(h4:4≤zs.length)(ha:0≤u.a∧u.a≤65535)(hbb:0≤u.b∧u.b≤65535):
  Calls Tryz.prog 295 #[.pointer (some ⟨g,0,none⟩)] w fun e w'=>UQ base w g u (prt u.a u.b zs) e w':=by
 have HP:=zAc (fun w (h:UR w g u zs) (hb:base≤w.heap.size)=>zDz base g u zs 0 u.a w h hb hl ha);rw[zAv zs 0 0 u.a rfl (by omega)]at HP;obtain⟨bv,hU,_⟩:=id h;have CU:=zAa hU;simp only[unc]at CU;go_enter Tryz.func295,Tryz.ntmps295;go_wp2_with fail;refine(HP.out w h hb).mono ?_;rintro e w1 ⟨rfl,hS,b1⟩;obtain⟨bv1,hU1,_⟩:=id hS;have C1:=zAa hU1;simp only[unc]at C1;have hbb1:base≤w1.heap.size:=Nat.le_trans hb b1.size;clear CU hU HP;go_wp2_with fail;refine(zDz base g u _ 2 u.b w1 hS.ur hbb1 (by rw[Mt.put2_length];exact hl) hbb).mono ?_;rw[zAv _ 2 2 u.b rfl (by rw[Mt.put2_length];omega)];rintro e w2 ⟨rfl,hS2,b2⟩;go_wp2_with fail;go_end0
 exact⟨rfl,hS2,b1.trans b2⟩
theorem zLd(g:Nat)(u:Un)(zs:List Int)(w:World)(h:UR w g u zs)(hl:12+zs.length≤140737488355328)(hsr:0≤u.s∧u.s≤4294967295)(hds:0≤u.d∧u.d≤4294967295):
  Calls Tryz.prog 297 #[.pointer (some ⟨g,0,none⟩)] w fun e w'=>∃a c,e= .returned (.slice a (12+zs.length) c)∧Ow w.heap.size w' (.slice a (12+zs.length) c) (psd u.s u.d u.pr zs.length++zs)∧Later w w':=by
 obtain⟨i0,hi,hz0,hz1,hz2⟩:=info_parts zBi;obtain⟨bv,hU,hI⟩:=h;obtain⟨a,cap,rfl,hl1,hm1⟩:=hI.slice;go_enter Tryz.func297,Tryz.ntmps297;go_upto_region 1 with fail;refine zAk (R:=Later) 27 rfl (by kernel_rfl) ?_;have hd:Later w w.drew:=Later.drew w;have hI1:=hI.below hd;have hs1:w.heap.size≤w.drew.heap.size:=hd.size;have qp:∀v1,Later w.drew v1→∀i,v1.cell? ⟨g,i,none⟩=#[Value.slice a zs.length cap,.int .u8 u.p1,.int .u32 u.s1,.int .u32 u.d1,.int .u16 u.a1,.int .u16 u.b1,.int .u8 u.pr,.int .u32 u.s,.int .u32 u.d,.int .u16 u.a,.int .u16 u.b][i]? :=fun v1 h=>zAa (hU.later (hd.trans h));generalize w.drew=W1 at*;refine tX Later.pre 0 ?_;refine tX Later.pre 1 ?_;refine tX Later.pre 2 ?_;refine tX Later.pre 3 ?_;refine tX Later.pre 4 ?_;refine tX Later.pre 5 ?_;refine tX Later.pre 6 ?_;refine tX Later.pre 7 ?_;refine tX Later.pre 8 ?_;refine tX Later.pre 9 ?_;refine tX Later.pre 10 ?_;refine tX Later.pre 11 ?_;refine tX Later.pre 12 ?_;refine tX Later.pre 13 ?_;refine tX Later.pre 14 ?_;refine tX Later.pre 15 ?_;refine tX Later.pre 16 ?_;refine tX Later.pre 17 ?_;refine tX Later.pre 18 ?_;refine tX Later.pre 19 ?_;refine tX Later.pre 21 ?_;refine tX Later.pre 22 ?_;refine tX Later.pre 23 ?_;refine tX Later.pre 24 ?_;refine tO 20 ?_;refine zAi 124 #[.int .u32 u.s,.int .u32 u.d,.int .u8 u.pr,.int .i64 zs.length] (by go_simp) ?_;refine(zF4 u.s u.d u.pr zs.length hsr hds W1).mono ?_;rintro e w2 ⟨a2,rfl,hO2,hb2⟩;refine⟨hb2,?_⟩;simp only[Act.put,sA,sB,sC]
 have l2:Later w w2:=hd.trans hb2;obtain⟨v3,w3,hr3,hO3,hb3⟩:=zD9 (P:=Tryz.prog) w2 26 26 W1.heap.size i0 Tryz.underlying26 hi hz0 hz1 hz2 a2 12 _ hO2 (by simp[psd]) w.heap.size _ zs (hI.below l2) (by rw[zBk];omega) hb2.size;refine tO 25 ?_;obtain⟨a3,c3,rfl,_,_⟩:=hO3.slice;rw[List.length_append,zBk]at hr3 hO3;refine zEl (.tmp 23) (.tmp 27) 26 rfl _ _ rfl rfl _ w3 hr3 ⟨hb3,?_⟩;simp only[Act.put,sA,sB,sC];clear qp;refine tX Later.pre 26 ?_;refine tD ?_;go_wp2_with fail;go_ret
 exact⟨a3,c3,rfl,hO3.mono hs1,l2.trans hb3⟩
def UOk (u:Un):Prop:=(0≤u.s∧u.s≤4294967295)∧(0≤u.d∧u.d≤4294967295)∧(0≤u.a∧u.a≤65535)∧(0≤u.b∧u.b≤65535)
theorem zIw(base:Nat)(g:Nat)(u:Un)(zs:List Int)(w:World)(hB:Mt.By zs)(h:UR w g u zs)(hb:base≤w.heap.size)(hl:12+zs.length≤140737488355328)(h20:20≤zs.length)(hu:UOk u)(hpr:u.pr=6):
  Calls Tryz.prog 245 #[.pointer (some ⟨g,0,none⟩)] w fun e w'=>UQ base w g u (rwT u.s u.d u.a u.b zs) e w':=by
 obtain⟨hs,hd,ha,hbb⟩:=hu;have H1:=zAc (zOb base g u zs w h hb (by omega) (by omega) ha hbb);have hB1:=zQi hB ha hbb;have hB2:=hB1.put2 16 (v:=0) (by omega);have hL1:=zCm u.a u.b zs;have hL2:(Mt.put2 (prt u.a u.b zs) 16 0).length=zs.length:=by rw[Mt.put2_length,hL1]
 have HR:Hid (rwT u.s u.d u.a u.b zs=Mt.put2 (Mt.put2 (prt u.a u.b zs) 16 0) 16 (Mt.cks (psd u.s u.d u.pr (Mt.put2 (prt u.a u.b zs) 16 0).length++Mt.put2 (prt u.a u.b zs) 16 0))):=by show _=_;rw[hL2,hpr];rfl
 have HPR:Hid (0≤u.pr∧u.pr≤255):=by show _∧_;omega
 clear hpr;have HE:=zAc (zAv (prt u.a u.b zs) 16 16 0 rfl (by omega));have HE2:=zAc (fun v=>zAv (Mt.put2 (prt u.a u.b zs) 16 0) 16 16 v rfl (by omega));generalize prt u.a u.b zs=z1 at*;generalize Mt.put2 z1 16 0=z2 at*;have hl1:z1.length≤140737488355328:=by omega
 have hl2:12+z2.length≤140737488355328:=by omega
 have HL2:=zAc hL2;clear hL1 hL2;go_enter Tryz.func245,Tryz.ntmps245;go_wp2_with fail;refine H1.out.mono ?_;rintro e w1 ⟨rfl,S1,b1⟩;go_wp2_with fail;refine(zDz base g u z1 16 0 w1 S1.ur (Nat.le_trans hb b1.size) hl1 (by omega)).mono ?_;rw[HE.out];rintro e w2 ⟨rfl,S2,b2⟩;go_wp2_with fail;refine(zLd g u z2 w2 S2.ur hl2 hs hd).mono ?_;rintro e w3 ⟨a3,c3,rfl,hO3,l3⟩;have hBs:=(zId u.s u.d u.pr z2.length hs hd HPR.out).append hB2;go_wp2_with fail;refine(zEy _ _ hBs (by rw[List.length_append,zBk];omega) w3 hO3.rd).mono ?_;rintro e w4 ⟨rfl,l4⟩;have l4':Later w3 w4:=l4;have hc:=Mt.cks_bd (psd u.s u.d u.pr z2.length++z2);have S4:=(S2.later l3).later l4';generalize Mt.cks (psd u.s u.d u.pr z2.length++z2)=ck at*;go_wp2_with fail;refine(zDz base g u z2 16 _ w4 S4.ur (Nat.le_trans hb (Nat.le_trans b1.size (Nat.le_trans b2.size (l3.trans l4').size))) (by omega) hc).mono ?_;rw[HE2.out,←HR.out];rintro e w5 ⟨rfl,S5,b5⟩;go_wp2_with fail;go_end0
 exact⟨rfl,S5,b1.trans (b2.trans ((But.of (l3.trans l4')).trans b5))⟩
theorem zOc(base:Nat)(g:Nat)(u:Un)(zs:List Int)(w:World)(h:UR w g u zs)(hb:base≤w.heap.size)(hl:zs.length≤140737488355328)(h8:8≤zs.length)(hu:UOk u):
  Calls Tryz.prog 248 #[.pointer (some ⟨g,0,none⟩)] w fun e w'=>UQ base w g u (rwG u.b zs) e w':=by
 obtain⟨hs,hd,ha,hbb⟩:=hu;have H1:=zAc (zDz base g u zs 6 u.b w h hb hl hbb);rw[zAv zs 6 6 u.b rfl (by omega)]at H1;obtain⟨bv,hU,_⟩:=id h;have CU:=zAa hU;simp only[unc]at CU;go_enter Tryz.func248,Tryz.ntmps248;go_wp2_with fail;refine H1.out.mono ?_;rintro e w1 ⟨rfl,S1,b1⟩;go_wp2_with fail;go_end0
 exact⟨rfl,S1,b1⟩
abbrev zpk:List Value:=[.int .u8 0,.int .u16 0,.bool false,.int .u8 0,.int .u8 0,.int .u32 0,.int .u32 0,.slice none 0 0,.slice none 0 0]
abbrev mth (f:FuncId) (g:Nat):Value:= .func (.func f) #[.pointer (some ⟨g,0,none⟩)] #[]
def whE (g:Nat):Array MapEntry:=#[⟨.int .u8 6,mth 245 g,0⟩,⟨.int .u8 17,mth 246 g,1⟩,⟨.int .u8 1,mth 247 g,2⟩,⟨.int .u8 47,mth 248 g,3⟩]
theorem zQl(g:Nat)(w:World):Calls Tryz.prog 175 #[.pointer (some ⟨g,0,none⟩)] w fun e w'=>∃m,e= .returned (.map (some m))∧Later w w'∧w'.heap[m]? =some (.map (whE g) 4):=by
 have hmm:= @run_makeMap Tryz.prog;have hb0:Below w.heap.size w (w.alloc (.map #[] 0)):=bA _ _;have hM0:=heap_alloc_new w (.map #[] 0);obtain⟨w1,r1,m1,l1⟩:=zCb (P:=Tryz.prog) Tryz.underlying327 Tryz.underlying5 hM0 6 (mth 245 g) (by kernel_rfl);obtain⟨w2,r2,m2,l2⟩:=zCb (P:=Tryz.prog) Tryz.underlying327 Tryz.underlying5 m1 17 (mth 246 g) (by kernel_rfl);obtain⟨w3,r3,m3,l3⟩:=zCb (P:=Tryz.prog) Tryz.underlying327 Tryz.underlying5 m2 1 (mth 247 g) (by kernel_rfl);obtain⟨w4,r4,m4,l4⟩:=zCb (P:=Tryz.prog) Tryz.underlying327 Tryz.underlying5 m3 47 (mth 248 g) (by kernel_rfl);have hb4:Below w.heap.size w w4:=(((hb0.trans (l1 _ (Nat.le_refl _))).trans (l2 _ (Nat.le_refl _))).trans (l3 _ (Nat.le_refl _))).trans (l4 _ (Nat.le_refl _));clear m1 m2 m3 l1 l2 l3 l4 hM0 hb0;have M4:=zAc m4;clear m4;go_enter Tryz.func175,Tryz.ntmps175;go_wp2_with fail;go_ret
 exact⟨_,rfl,hb4,M4.out⟩
theorem zD0 {P:Program} {q:IntKind} {t kt et:TypeId} (ht:P.underlying t=some (.map kt et))(hk:P.underlying kt=some (.int q)) {w:World} {b:Nat} {es:Array MapEntry} {c:Nat} (hb:w.heap[b]? =some (.map es c))(z:Int)(v:Value)(j:Nat)
  (hf:Instr.findNow (.int q) (.int q z) es.toList 0=some (some (j,v))):(Instr.lookup t (.map (some b)) (.int q z) false).run P w= .ok v w:=by
 have hc:(Instr.checkKey es.isEmpty 10000 kt (.int q z)).run P w= .ok () w:=MapKept.run_checkKey (k:= .int q z) hk (by simp[MapKept.IsKey]) _ 9999;simp[Instr.lookup,run_underlying ht,MapKept.run_getObj_map hb,hc,MapKept.run_findKey hk hf,Result.andThen]
def uf (pr:Int):FuncId:=if pr=6 then 245 else if pr=17 then 246 else if pr=1 then 247 else 248
def pok (pr:Int):Prop:=pr=6∨pr=17∨pr=1∨pr=47
theorem ofe_pok {pr src dst:Int} {zd:List Int} (h:ofe pr src dst zd=0):pok pr:=by
 unfold ofe at h;unfold pok;split at h
 ·omega
 split at h
 ·omega
 split at h
 ·omega
 split at h
 ·omega
 ·omega
theorem look_uf {pr:Int} (h:pok pr)(g:Nat) {w:World} {m:Nat} (hm:w.heap[m]? =some (.map (whE g) 4)):(Instr.lookup 327 (.map (some m)) (.int .u8 pr) false).run Tryz.prog w= .ok (mth (uf pr) g) w:=by
 rcases h with rfl|rfl|rfl|rfl
 ·exact zD0 Tryz.underlying327 Tryz.underlying5 hm 6 _ 0 (by kernel_rfl)
 ·exact zD0 Tryz.underlying327 Tryz.underlying5 hm 17 _ 1 (by kernel_rfl)
 ·exact zD0 Tryz.underlying327 Tryz.underlying5 hm 1 _ 2 (by kernel_rfl)
 ·exact zD0 Tryz.underlying327 Tryz.underlying5 hm 47 _ 3 (by kernel_rfl)
theorem cf_uf {pr:Int} (h:pok pr)(args:Array Value)(w:World):(callFunc (uf pr) args).run Tryz.prog w= .ok (.enter (uf pr) args) w:=by
 rcases h with rfl|rfl|rfl|rfl<;>kernel_rfl
theorem uf_any {pr:Int} {src dst:Int} (base:Nat)(g:Nat)(u:Un)(zs:List Int)(w:World)(hB:Mt.By zs)(h:UR w g u zs)(hb:base≤w.heap.size)(hl:12+zs.length≤140737488355328)(hu:UOk u)(hpr:u.pr=pr)(ho:ofe pr src dst zs=0)(hp:pr=6∨pr=47):
  Calls Tryz.prog (uf pr) #[.pointer (some ⟨g,0,none⟩)] w fun e w'=>UQ base w g u (rwD pr u.s u.d u.a u.b zs) e w':=by
 have hs:=hu.1;have hd:=hu.2.1;have ha:=hu.2.2.1;have hbb:=hu.2.2.2;unfold ofe at ho;by_cases h6:pr=6
 ·subst h6
  rw[if_pos rfl]at ho;rw[show uf 6=245 from rfl,show rwD 6 u.s u.d u.a u.b zs=rwT u.s u.d u.a u.b zs from by unfold rwD;rw[if_pos rfl]];exact zIw base g u zs w hB h hb hl (zQk (s:=u.s) (d:=u.d) (a:=u.a) (b:=u.b) hB ho hs hd ha hbb).2.2.2.1 hu hpr
 rw[if_neg h6]at ho;by_cases h17:pr=17
 ·omega
 rw[if_neg h17]at ho;by_cases h1:pr=1
 ·omega
 rw[if_neg h1]at ho;by_cases h47:pr=47
 ·subst h47
  rw[if_pos rfl]at ho;rw[show uf 47=248 from rfl,show rwD 47 u.s u.d u.a u.b zs=rwG u.b zs from by unfold rwD;rw[if_neg h6,if_neg h17,if_neg h1]];exact zOc base g u zs w h hb (by omega) (rwG_pge (b:=u.b) ho).2.2 hu
 ·rw[if_neg h47]at ho
  omega
def rwe (pr tp src dst:Int) (lo:Nat) (zd:List Int):Int:=if pr≠tp then 12 else if ofe pr src dst zd≠0 then ofe pr src dst zd else flt lo zd.length
theorem zCw(w:World)(o:Obj):Later w (w.alloc o):=bA _ _
theorem zFk(tos id ttl pr src dst:Int)(keep:Bool)(so sd:Value)(zo zd:List Int)(tp s d a b:Int)(w:World)(hT:Tb w)(hBo:Mt.By zo)(hBd:Mt.By zd)(hIo:Rd w.heap.size w so zo)(hId:Rd w.heap.size w sd zd)(hlo:zo.length≤140737488355328)(hl:zd.length≤140737488351232)
  (ht:0≤tos∧tos≤255)(hid:0≤id∧id≤65535)(htt:0≤ttl∧ttl≤255)(hpr:0≤pr∧pr≤255)(hsr:0≤src∧src≤4294967295)(hds:0≤dst∧dst≤4294967295)(hs:0≤s∧s≤4294967295)(hd:0≤d∧d≤4294967295)(ha:0≤a∧a≤65535)(hb:0≤b∧b≤65535)(hp:pr=6∨pr=47):
  Calls Tryz.prog 117 #[.agg #[.int .u8 tos,.int .u16 id,.bool keep,.int .u8 ttl,.int .u8 pr,.int .u32 src,.int .u32 dst,so,sd],.agg #[.int .u8 tp,.int .u32 s,.int .u32 d,.int .u16 a,.int .u16 b]] w fun e w'=>Below w.heap.size w w'∧((rwe pr tp src dst zo.length zd≠0∧e= .returned (.tuple #[.agg zpk.toArray,.int .i64 (rwe pr tp src dst zo.length zd)]))∨
   (rwe pr tp src dst zo.length zd=0∧∃ao co ad cd,e= .returned (.tuple #[.agg #[.int .u8 tos,.int .u16 id,.bool keep,.int .u8 ttl,.int .u8 pr,.int .u32 s,.int .u32 d,.slice ao zo.length co,.slice ad zd.length cd],.int .i64 0])∧Ow w.heap.size w' (.slice ao zo.length co) zo∧Ow w.heap.size w' (.slice ad zd.length cd) (rwD pr s d a b zd))):=by
 obtain⟨ao,co,rfl,hlo1,hmo1⟩:=hIo.slice;obtain⟨ad,cd,rfl,hl1,hm1⟩:=hId.slice;have hb0:Below w.heap.size w (((w.alloc (.cells #[.int .u8 tos,.int .u16 id,.bool keep,.int .u8 ttl,.int .u8 pr,.int .u32 src,.int .u32 dst,.slice ao zo.length co,.slice ad zd.length cd] 40)).alloc (.cells #[.int .u8 tp,.int .u32 s,.int .u32 d,.int .u16 a,.int .u16 b] 103)).alloc (.cells zpk.toArray 40)):=((bA _ _).alloc (by simp) _).alloc (by simp<;>omega) _;have p0:(((w.alloc (.cells #[.int .u8 tos,.int .u16 id,.bool keep,.int .u8 ttl,.int .u8 pr,.int .u32 src,.int .u32 dst,.slice ao zo.length co,.slice ad zd.length cd] 40)).alloc (.cells #[.int .u8 tp,.int .u32 s,.int .u32 d,.int .u16 a,.int .u16 b] 103)).alloc (.cells zpk.toArray 40)).heap[w.heap.size]? =some (.cells #[.int .u8 tos,.int .u16 id,.bool keep,.int .u8 ttl,.int .u8 pr,.int .u32 src,.int .u32 dst,.slice ao zo.length co,.slice ad zd.length cd] 40):=(Below.heap_alloc _ _ _ (by simp<;>omega)).trans ((Below.heap_alloc _ _ _ (by simp)).trans (heap_alloc_new w _))
 have t0:(((w.alloc (.cells #[.int .u8 tos,.int .u16 id,.bool keep,.int .u8 ttl,.int .u8 pr,.int .u32 src,.int .u32 dst,.slice ao zo.length co,.slice ad zd.length cd] 40)).alloc (.cells #[.int .u8 tp,.int .u32 s,.int .u32 d,.int .u16 a,.int .u16 b] 103)).alloc (.cells zpk.toArray 40)).heap[w.heap.size+1]? =some (.cells #[.int .u8 tp,.int .u32 s,.int .u32 d,.int .u16 a,.int .u16 b] 103):=by
  have:=heap_alloc_new (w.alloc (.cells #[.int .u8 tos,.int .u16 id,.bool keep,.int .u8 ttl,.int .u8 pr,.int .u32 src,.int .u32 dst,.slice ao zo.length co,.slice ad zd.length cd] 40)) (.cells #[.int .u8 tp,.int .u32 s,.int .u32 d,.int .u16 a,.int .u16 b] 103);rw[World.size_alloc]at this;exact(Below.heap_alloc _ _ _ (by simp)).trans this
 have r0:(((w.alloc (.cells #[.int .u8 tos,.int .u16 id,.bool keep,.int .u8 ttl,.int .u8 pr,.int .u32 src,.int .u32 dst,.slice ao zo.length co,.slice ad zd.length cd] 40)).alloc (.cells #[.int .u8 tp,.int .u32 s,.int .u32 d,.int .u16 a,.int .u16 b] 103)).alloc (.cells zpk.toArray 40)).heap[w.heap.size+1+1]? =some (.cells zpk.toArray 40):=by
  have:=heap_alloc_new ((w.alloc (.cells #[.int .u8 tos,.int .u16 id,.bool keep,.int .u8 ttl,.int .u8 pr,.int .u32 src,.int .u32 dst,.slice ao zo.length co,.slice ad zd.length cd] 40)).alloc (.cells #[.int .u8 tp,.int .u32 s,.int .u32 d,.int .u16 a,.int .u16 b] 103)) (.cells zpk.toArray 40);simpa only[World.size_alloc]using this
 have P0:=zAc p0;have T0:=zAc t0;have R0:=zAc r0;clear p0 t0 r0;go_enter Tryz.func117,Tryz.ntmps117;go_upto_region 1 with fail;generalize ((w.alloc _).alloc _).alloc _=W0 at*;have kP:=zAa P0.out;have kT:=zAa T0.out;by_cases c1:pr=tp
 case neg=>
  have t1:(pr !=tp)=true:=by simp[c1]
  have HF:Hid (rwe pr tp src dst zo.length zd=12):=by show _=_;unfold rwe;rw[if_pos c1]
  have HNZ:Hid ((12:Int)≠0):=by show(12:Int)≠0;decide
  have kR:=zAa R0.out;have fR:=zAd R0.out;clear c1;go_wp2_with fail;generalize hV:World.setCell _ ⟨w.heap.size+1+1,8,none⟩ _=V8;have hV9:V8=zAj W0 (w.heap.size+1+1) 0 zpk:=hV.symm;have hb8:But (fun b=>b=w.heap.size+1+1) W0 V8:=by { rw[hV9];exact zAf (E:=fun b=>b=w.heap.size+1+1) (n:=w.heap.size+1+1) rfl _ _ _ _ (But.refl _ _) };have p8:=zAg zpk R0.out rfl;rw[←hV9]at p8;clear hV hV9;have P8:=zAa p8;have hw8:Below w.heap.size w V8:=(hb0).trans (hb8.below (hb0).size (fun k h e=>by omega));exact bodyPost_ret (v:= .tuple #[.agg zpk.toArray,.int .i64 12]) (by simp[results,Tryz.results117,go_sem,P8,zpk]) rfl ⟨hw8,.inl ⟨by rw[HF.out];exact HNZ.out,by rw[HF.out]⟩⟩
 subst c1;have t1:(pr !=pr)=false:=by simp
 have hs0:w.heap.size+1+1<W0.heap.size:=(eS R0.out);go_upto_region 3 with fail;go_wp2_with fail;refine(zP8 tos id ttl pr src dst keep _ _ zd W0 (hT.below hb0 hT.pos) hBd ((hId.below hb0).mono hb0.size) (by omega) hsr hds hp).mono ?_;obtain⟨oe,HO⟩:∃e,Hid (ofe pr src dst zd=e):=⟨_,rfl⟩;rw[HO.out];rintro e w1 ⟨hb1,rfl⟩;have l1:Later W0 w1:=hb1;have hw1:Below w.heap.size w w1:=Later.below hb0 (Nat.le_refl _) l1;by_cases c2:oe=0
 case neg=>
  rw[otv_no c2];have t2:(oe !=0)=true:=by simp[c2]
  have HF:Hid (rwe pr pr src dst zo.length zd=oe):=by show _=_;unfold rwe;rw[if_neg (by simp),HO.out,if_pos c2]
  have HNZ:Hid (oe≠0):=c2;have r1:=(l1.block (w.heap.size+1+1) hs0).trans R0.out;have lA:=zCw w1 (.cells #[.int .u8 0,.int .u32 0,.int .u32 0,.int .u16 0,.int .u16 0] 103);have r2:=(lA.block (w.heap.size+1+1) (eS r1)).trans r1;have hw2:Below w.heap.size w (w1.alloc (.cells #[.int .u8 0,.int .u32 0,.int .u32 0,.int .u16 0,.int .u16 0] 103)):=Later.below hw1 (Nat.le_refl _) lA;have R2:=zAc r2;clear c2 kP kT r1 r2 lA;go_upto_region 4 with fail;generalize w1.alloc _=w2 at*;have kR:=zAa R2.out;have fR:=zAd R2.out;go_wp2_with fail;generalize hV:World.setCell _ ⟨w.heap.size+1+1,8,none⟩ _=V8;have hV9:V8=zAj w2 (w.heap.size+1+1) 0 zpk:=hV.symm;have hb8:But (fun b=>b=w.heap.size+1+1) w2 V8:=by { rw[hV9];exact zAf (E:=fun b=>b=w.heap.size+1+1) (n:=w.heap.size+1+1) rfl _ _ _ _ (But.refl _ _) };have p8:=zAg zpk R2.out rfl;rw[←hV9]at p8;clear hV hV9;have P8:=zAa p8;have hw8:Below w.heap.size w V8:=(hw2).trans (hb8.below (hw2).size (fun k h e=>by omega));exact bodyPost_ret (v:= .tuple #[.agg zpk.toArray,.int .i64 oe]) (by simp[results,Tryz.results117,go_sem,P8,zpk]) rfl ⟨hw8,.inl ⟨by rw[HF.out];exact HNZ.out,by rw[HF.out]⟩⟩
 subst c2;have hok:=ofe_pok HO.out;rw[otv_ok];have HFL:Hid (rwe pr pr src dst zo.length zd=flt zo.length zd.length):=by show _=_;unfold rwe;rw[if_neg (by simp),HO.out,if_neg (by simp)]
 generalize ofa pr zd=wa at*;generalize ofb pr zd=wb at*;have P1:=zAc ((l1.block w.heap.size (by omega)).trans P0.out);have T1:=zAc ((l1.block (w.heap.size+1) (by omega)).trans T0.out);have R1:=zAc ((l1.block (w.heap.size+1+1) hs0).trans R0.out);have hs1:w.heap.size+1+1<w1.heap.size:=Nat.lt_of_lt_of_le hs0 l1.size;have lA:=zCw w1 (.cells #[.int .u8 pr,.int .u32 src,.int .u32 dst,.int .u16 wa,.int .u16 wb] 103);have W2:=zAc (heap_alloc_new w1 (.cells #[.int .u8 pr,.int .u32 src,.int .u32 dst,.int .u16 wa,.int .u16 wb] 103));clear kP kT P0 T0 R0;go_upto_region 6 with fail;generalize w1.alloc _=w2 at*;have P2:=zAc ((lA.block w.heap.size (by omega)).trans P1.out);have T2:=zAc ((lA.block (w.heap.size+1) (by omega)).trans T1.out);have R2:=zAc ((lA.block (w.heap.size+1+1) hs1).trans R1.out);have hs2:w1.heap.size<w2.heap.size:=(eS W2.out);have hw2:Below w.heap.size w w2:=Later.below hw1 (Nat.le_refl _) lA;have kP:=zAa P2.out;have kT:=zAa T2.out;have kW:=zAa W2.out;have lB:=zCw w2 (.cells #[.slice ad zd.length cd,.int .u8 pr,.int .u32 src,.int .u32 dst,.int .u16 wa,.int .u16 wb,.int .u8 pr,.int .u32 s,.int .u32 d,.int .u16 a,.int .u16 b] 326);have U3:Hid (UB (w2.alloc (.cells #[.slice ad zd.length cd,.int .u8 pr,.int .u32 src,.int .u32 dst,.int .u16 wa,.int .u16 wb,.int .u8 pr,.int .u32 s,.int .u32 d,.int .u16 a,.int .u16 b] 326)) w2.heap.size ⟨pr,src,dst,wa,wb,pr,s,d,a,b⟩ (.slice ad zd.length cd)):=heap_alloc_new w2 _;clear P1 T1 R1
 go_upto_region 7 with fail;generalize w2.alloc _=w3 at*;clear kP kT kW;generalize hg:w2.heap.size=g at*;have P3:=zAc ((lB.block w.heap.size (by omega)).trans P2.out);have T3:=zAc ((lB.block (w.heap.size+1) (by omega)).trans T2.out);have R3:=zAc ((lB.block (w.heap.size+1+1) (by omega)).trans R2.out);have hw3:Below w.heap.size w w3:=Later.below hw2 (Nat.le_refl _) lB;have hg3:g<w3.heap.size:=(eS U3.out);have hsg:w.heap.size+1+1<g:=by omega
 have hId3:Rd w3.heap.size w3 (.slice ad zd.length cd) zd:=(hId.below hw3).mono hw3.size;have HG:=zAc hg;clear hg lA lB P2 T2 R2 W2 hs2;refine zAk (R:=But (fun q=>q=g)) 5 rfl (by kernel_rfl) ?_;have hdr:Later w3 w3.drew:=Later.drew w3;have P4:=zAc ((hdr.block w.heap.size (by omega)).trans P3.out);have T4:=zAc ((hdr.block (w.heap.size+1) (by omega)).trans T3.out);have R4:=zAc ((hdr.block (w.heap.size+1+1) (by omega)).trans R3.out);have hUR:UR w3.drew g ⟨pr,src,dst,wa,wb,pr,s,d,a,b⟩ zd:=(show UR w3 g ⟨pr,src,dst,wa,wb,pr,s,d,a,b⟩ zd from⟨_,U3.out,hId3⟩).later hdr;have hw4:Below w.heap.size w w3.drew:=Later.below hw3 (Nat.le_refl _) hdr;have hg4:g<w3.drew.heap.size:=Nat.lt_of_lt_of_le hg3 hdr.size;generalize w3.drew=w4 at*;have qT:∀v1,But (fun q=>q=g) w4 v1→∀i,v1.cell? ⟨w.heap.size+1,i,none⟩=#[Value.int .u8 pr,.int .u32 s,.int .u32 d,.int .u16 a,.int .u16 b][i]? :=fun v1 h=>zAa ((h.block (w.heap.size+1) (by omega) (by omega)).trans T4.out);refine tX (But.pre _) 1 ?_;refine tX (But.pre _) 2 ?_;clear qT;refine tO 0 ?_;refine zAi 175 #[.pointer (some ⟨g,0,none⟩)] (by go_simp) ((zQl g w4).mono ?_);rintro e w5 ⟨m,rfl,l5,hm5⟩;refine⟨But.of l5,?_⟩;simp only[Act.put,sA,sB,sC]
 have hmg:m≠g:=by
  intro e
  subst e;obtain⟨bv,hx,_⟩:=hUR.later l5;rw[UB,hm5]at hx;cases hx
 have qL:∀v1,But (fun q=>q=g) w5 v1→(Instr.lookup 327 (.map (some m)) (.int .u8 pr) false).run Tryz.prog v1= .ok (mth (uf pr) g) v1:=fun v1 h=>look_uf hok g ((h.block m (eS hm5) hmg).trans hm5);refine tX (But.pre _) 3 ?_;clear qL;refine tO 4 ?_;have hcf:=cf_uf hok #[.pointer (some ⟨g,0,none⟩)] w5;refine zAi (uf pr) #[.pointer (some ⟨g,0,none⟩)] (by go_simp) ((uf_any (pr:=pr) w.heap.size g ⟨pr,src,dst,wa,wb,pr,s,d,a,b⟩ zd w5 hBd (hUR.later l5) (Nat.le_trans hw4.size l5.size) (by omega) ⟨hs,hd,ha,hb⟩ rfl HO.out hp).mono ?_);rintro e w6 ⟨rfl,S6,b6⟩;refine⟨b6,?_⟩;simp only[Act.put,sA,sB,sC];refine tD ?_;obtain⟨bv6,hU6,hO6⟩:=S6;obtain⟨a6,c6,rfl,_,_⟩:=hO6.slice;rw[zGl]at hU6 hO6;have b46:But (fun q=>q=g) w4 w6:=(But.of l5).trans b6;have P6:=zAc ((b46.block w.heap.size (by omega) (by omega)).trans P4.out);have T6:=zAc ((b46.block (w.heap.size+1) (by omega) (by omega)).trans T4.out);have R6:=zAc ((b46.block (w.heap.size+1+1) (by omega) (by omega)).trans R4.out);have hw6:Below w.heap.size w w6:=hw4.trans (b46.below hw4.size (fun k hk e=>by omega));have hg6:g<w6.heap.size:=Nat.lt_of_lt_of_le hg4 b46.size;have U6:=zAc hU6;have O6:=zAc hO6;clear hU6 hO6 b6 l5 hm5 hmg b46 P4 T4 R4 hUR hw4 hg4 hcf P3 T3 R3 U3 hId3 hw3 hg3 hdr;go_upto_region 8 with fail;refine zAk (R:=But (fun q=>q=w.heap.size)) 17 rfl (by kernel_rfl) ?_;have hdr:Later w6 w6.drew:=Later.drew w6;have P7:=zAc ((hdr.block w.heap.size (by omega)).trans P6.out)
 have T7:=zAc ((hdr.block (w.heap.size+1) (by omega)).trans T6.out);have R7:=zAc ((hdr.block (w.heap.size+1+1) (by omega)).trans R6.out);have U7:=zAc (U6.out.later hdr);have O7:=zAc (O6.out.later hdr);have hw7:Below w.heap.size w w6.drew:=Later.below hw6 (Nat.le_refl _) hdr;have hg7:g<w6.drew.heap.size:=Nat.lt_of_lt_of_le hg6 hdr.size;generalize w6.drew=w7 at*;have qT:∀v1,But (fun q=>q=w.heap.size) w7 v1→∀i,v1.cell? ⟨w.heap.size+1,i,none⟩=#[Value.int .u8 pr,.int .u32 s,.int .u32 d,.int .u16 a,.int .u16 b][i]? :=fun v1 h=>zAa ((h.block (w.heap.size+1) (by omega) (by omega)).trans T7.out);have qU:∀v1,But (fun q=>q=w.heap.size) w7 v1→∀i,v1.cell? ⟨g,i,none⟩=#[Value.slice a6 zd.length c6,.int .u8 pr,.int .u32 src,.int .u32 dst,.int .u16 wa,.int .u16 wb,.int .u8 pr,.int .u32 s,.int .u32 d,.int .u16 a,.int .u16 b][i]? :=fun v1 h=>zAa ((h.block g hg7 (by omega)).trans U7.out);refine tX (But.pre _) 0 ?_;refine tX (But.pre _) 1 ?_;refine tX (But.pre _) 2 ?_;refine tX (But.pre _) 3 ?_;refine tX (But.pre _) 4 ?_;refine tX (But.pre _) 7 ?_;refine tX (But.pre _) 8 ?_;clear qT qU;have kP:=zAa P7.out;refine tO 5 ?_;unfold Oper.wp;go_simp;refine⟨But.refl _ _,?_⟩;clear kP;refine tX (But.pre _) 9 ?_;refine tO 6 ?_;refine zAi 71 #[.slice ao zo.length co] (by go_simp) ((zBd _ zo w7 (by omega) ((hIo.below hw7).mono hw7.size)).mono ?_);rintro e w8 ⟨a8,c8,rfl,hO8,hb8⟩;have l8:Later w7 w8:=hb8;refine⟨But.of l8,?_⟩;simp only[Act.put,sA,sB,sC]
 have P8:=zAc ((l8.block w.heap.size (by omega)).trans P7.out);have R8:=zAc ((l8.block (w.heap.size+1+1) (by omega)).trans R7.out);have O8:=zAc (hO8.mono hw7.size);have D8:=zAc (O7.out.later l8);have hw8:Below w.heap.size w w8:=Later.below hw7 (Nat.le_refl _) l8;have hs8:w.heap.size+1+1<w8.heap.size:=Nat.lt_of_lt_of_le (by omega) l8.size;have Bw8:But (fun q=>q=w.heap.size) w8 w8:=But.refl _ _;clear hO8 hb8 P7 T7 R7 U7 O7 hw7 hg7 l8 hdr U6 O6 T6 R6 P6;have kS:=zAa P8.out;have fS:=zAd P8.out;have P9:=zAc (zAh P8.out 5 (.int .u32 s));have bt:Hid (But (fun q=>q=w.heap.size) w8 (w8.setCell ⟨w.heap.size,5,none⟩ (.int .u32 s))):=But.setCell (E:=fun q=>q=w.heap.size) (But.refl _ _) (p:=⟨w.heap.size,5,none⟩) rfl _;refine tO 10 ?_;unfold Oper.wp;go_simp;refine⟨bt.out,?_⟩;have Bw9:=Bw8.trans bt.out;clear bt kS fS;generalize w8.setCell ⟨w.heap.size,5,none⟩ _=w9 at*;refine tX (But.pre _) 11 ?_;have kS:=zAa P9.out;have fS:=zAd P9.out;have P10:=zAc (zAh P9.out 6 (.int .u32 d));have bt:Hid (But (fun q=>q=w.heap.size) w9 (w9.setCell ⟨w.heap.size,6,none⟩ (.int .u32 d))):=But.setCell (E:=fun q=>q=w.heap.size) (But.refl _ _) (p:=⟨w.heap.size,6,none⟩) rfl _;refine tO 12 ?_;unfold Oper.wp;go_simp;refine⟨bt.out,?_⟩;have Bw10:=Bw9.trans bt.out;clear bt kS fS;generalize w9.setCell ⟨w.heap.size,6,none⟩ _=w10 at*;refine tX (But.pre _) 13 ?_;have kS:=zAa P10.out;have fS:=zAd P10.out
 have P11:=zAc (zAh P10.out 7 (.slice a8 zo.length c8));have bt:Hid (But (fun q=>q=w.heap.size) w10 (w10.setCell ⟨w.heap.size,7,none⟩ (.slice a8 zo.length c8))):=But.setCell (E:=fun q=>q=w.heap.size) (But.refl _ _) (p:=⟨w.heap.size,7,none⟩) rfl _;refine tO 14 ?_;unfold Oper.wp;go_simp;refine⟨bt.out,?_⟩;have Bw11:=Bw10.trans bt.out;clear bt kS fS;generalize w10.setCell ⟨w.heap.size,7,none⟩ _=w11 at*;refine tX (But.pre _) 15 ?_;have kS:=zAa P11.out;have fS:=zAd P11.out;have P12:=zAc (zAh P11.out 8 (.slice a6 zd.length c6));have bt:Hid (But (fun q=>q=w.heap.size) w11 (w11.setCell ⟨w.heap.size,8,none⟩ (.slice a6 zd.length c6))):=But.setCell (E:=fun q=>q=w.heap.size) (But.refl _ _) (p:=⟨w.heap.size,8,none⟩) rfl _;refine tO 16 ?_;unfold Oper.wp;go_simp;refine⟨bt.out,?_⟩;have Bw12:=Bw11.trans bt.out;clear bt kS fS;generalize w11.setCell ⟨w.heap.size,8,none⟩ _=w12 at*;refine tD ?_;have P13:Hid (w12.heap[w.heap.size]? =some (.cells #[.int .u8 tos,.int .u16 id,.bool keep,.int .u8 ttl,.int .u8 pr,.int .u32 s,.int .u32 d,.slice a8 zo.length c8,.slice a6 zd.length c6] 40)):=by have:=P12.out;simp at this;exact this
 have R13:=zAc ((Bw12.block (w.heap.size+1+1) hs8 (by omega)).trans R8.out);have O13:=zAc (Ow.aside O8.out P8.out (by decide) Bw12);have D13:=zAc (Ow.aside D8.out P8.out (by decide) Bw12);have hw12:Below w.heap.size w w12:=hw8.trans (Bw12.below hw8.size (fun k hk e=>by omega));have hs12:w.heap.size+1+1<w12.heap.size:=Nat.lt_of_lt_of_le hs8 Bw12.size;clear P8 P9 P10 P11 P12 R8 O8 D8 Bw8 Bw9 Bw10 Bw11 Bw12 hw8 hs8;have kP:=zAa P13.out;obtain⟨fl,HFF⟩:∃f,Hid (flt zo.length zd.length=f):=⟨_,rfl⟩;by_cases c3:fl=0
 case neg=>
  have hfn:flt zo.length zd.length≠0:=by rw[HFF.out];exact c3
  have t3:(fl !=0)=true:=by simp[c3]
  have HF:Hid (rwe pr pr src dst zo.length zd=fl):=by show _=_;rw[HFL.out,HFF.out]
  have HNZ:Hid (fl≠0):=c3;have HBN:=zAc (zG1 tos id ttl pr s d keep a8 a6 zo.length c8 zd.length c6 w12 (by omega) (by omega) hfn);rw[HFF.out]at HBN;clear c3 hfn;go_wp2_with fail;refine HBN.out.mono ?_;rintro e w13 ⟨rfl,hb13⟩;have l13:Later w12 w13:=hb13;have R14:=zAc ((l13.block (w.heap.size+1+1) hs12).trans R13.out);have hw13:Below w.heap.size w w13:=Later.below hw12 (Nat.le_refl _) l13;have kR:=zAa R14.out;have fR:=zAd R14.out;clear kP;go_wp2_with fail;generalize hV:World.setCell _ ⟨w.heap.size+1+1,8,none⟩ _=V8;have hV9:V8=zAj w13 (w.heap.size+1+1) 0 zpk:=hV.symm;have hb8:But (fun b=>b=w.heap.size+1+1) w13 V8:=by { rw[hV9];exact zAf (E:=fun b=>b=w.heap.size+1+1) (n:=w.heap.size+1+1) rfl _ _ _ _ (But.refl _ _) };have p8:=zAg zpk R14.out rfl;rw[←hV9]at p8;clear hV hV9;have P8:=zAa p8;have hw8:Below w.heap.size w V8:=(hw13).trans (hb8.below (hw13).size (fun k h e=>by omega));exact bodyPost_ret (v:= .tuple #[.agg zpk.toArray,.int .i64 fl]) (by simp[results,Tryz.results117,go_sem,P8,zpk]) rfl ⟨hw8,.inl ⟨by rw[HF.out];exact HNZ.out,by rw[HF.out]⟩⟩
 subst c3;have hfit:=flt_fit2 HFF.out;have HF:Hid (rwe pr pr src dst zo.length zd=0):=by show _=_;rw[HFL.out,HFF.out]
 have HBY:=zAc (zCg tos id ttl pr s d keep (.slice a8 zo.length c8) (.slice a6 zd.length c6) zo (rwD pr s d a b zd) w12 hBo O13.out.rd D13.out.rd hfit.1 hfit.2.1 (by rw[zGl];exact hfit.2.2) ht hid htt hpr hs hd);clear hfit;go_wp2_with fail;refine HBY.out.mono ?_;rintro e w13 ⟨bv,rfl,hOb,hb13⟩;have l13:Later w12 w13:=hb13;have P14:=zAc ((l13.block w.heap.size (by omega)).trans P13.out);have R14:=zAc ((l13.block (w.heap.size+1+1) hs12).trans R13.out);have O14:=zAc (O13.out.later l13);have D14:=zAc (D13.out.later l13);have hw13:Below w.heap.size w w13:=Later.below hw12 (Nat.le_refl _) l13;clear kP hOb HBY hb13 l13 P13 R13 O13 D13;have kP:=zAa P14.out;have kR:=zAa R14.out;have fR:=zAd R14.out;go_wp2_with fail;generalize hV:World.setCell _ ⟨w.heap.size+1+1,8,none⟩ _=V8;have hV9:V8=zAj w13 (w.heap.size+1+1) 0 [.int .u8 tos,.int .u16 id,.bool keep,.int .u8 ttl,.int .u8 pr,.int .u32 s,.int .u32 d,.slice a8 zo.length c8,.slice a6 zd.length c6]:=hV.symm;have hb8:But (fun b=>b=w.heap.size+1+1) w13 V8:=by rw[hV9];exact zAf (E:=fun b=>b=w.heap.size+1+1) (n:=w.heap.size+1+1) rfl _ _ _ _ (But.refl _ _)
 have p8:=zAg [.int .u8 tos,.int .u16 id,.bool keep,.int .u8 ttl,.int .u8 pr,.int .u32 s,.int .u32 d,.slice a8 zo.length c8,.slice a6 zd.length c6] R14.out rfl;rw[←hV9]at p8;clear hV hV9;have P8:=zAa p8;have hw8:Below w.heap.size w V8:=hw13.trans (hb8.below hw13.size (fun k h e=>by omega));exact bodyPost_ret (v:= .tuple #[.agg #[.int .u8 tos,.int .u16 id,.bool keep,.int .u8 ttl,.int .u8 pr,.int .u32 s,.int .u32 d,.slice a8 zo.length c8,.slice a6 zd.length c6],.int .i64 0]) (by simp[results,Tryz.results117,go_sem,P8]) rfl ⟨hw8,.inr ⟨HF.out,a8,c8,a6,c6,rfl,Ow.aside O14.out R14.out (by decide) hb8,Ow.aside D14.out R14.out (by decide) hb8⟩⟩
attribute [local go_sem] Oper.semAt_some
def mvL (ls:Nat→List Rw) (i k:Nat) (till turn:Int):Nat→List Rw:=fun j=>if j=i then(ls i).modify k (fun r=> { r with till:=till,turn:=turn })else ls j
theorem zGm(x y:Int):∀(l:List Rw) (k:Nat),k<l.length→rws (l.modify k (fun r=> { r with till:=x,turn:=y }))=((rws l).set (k*8+6) (.int .i64 x)).set (k*8+7) (.int .i64 y)
 |r::l,0,_=>by simp[rws,rwc]
 |r::l,k+1,h=>by
  have ih:=zGm x y l k (by simpa using h);unfold rws at ih⊢;simp only[List.modify_succ_cons,List.flatMap_cons,ih];rw[show (k+1)*8+6=(rwc r).length+(k*8+6)from by rw[zA5];omega,show(k+1)*8+7=(rwc r).length+(k*8+7)from by rw[zA5];omega];rw[List.set_append_right _ _ (by omega),List.set_append_right _ _ (by omega)];simp
theorem TBv.moved {base bt:Nat} {W:World} {lim cnt trn:Int} {vs:List Value} {ls:Nat→List Rw} (hT:TBv base W bt lim cnt trn vs ls)(i:Nat)(hi:i<256) {g cap k:Nat} (hv:vs[i]?.getD undef= .slice (some ⟨g,0,none⟩) (ls i).length cap)(hk:k<(ls i).length)(x y:Int):
  TBv base ((W.setCell ⟨g,k*8+6,none⟩ (.int .i64 x)).setCell ⟨g,k*8+7,none⟩ (.int .i64 y)) bt lim cnt trn vs (mvL ls i k x y):=by
 have hb:But (fun b=>b=g) W ((W.setCell ⟨g,k*8+6,none⟩ (.int .i64 x)).setCell ⟨g,k*8+7,none⟩ (.int .i64 y)):=((But.refl (fun b=>b=g) W).setCell (p:=⟨g,k*8+6,none⟩) rfl _).setCell (p:=⟨g,k*8+7,none⟩) rfl _;have hO:=hT.2.2.2.1 i hi;rw[hv]at hO
 have hgt:∃cur,W.heap[g]? =some (.cells cur 220 (0,0)):=by
  rcases hO.2 with⟨e,_⟩|⟨g',cp,cur,e,_,hh,_⟩
  ·cases e
  ·cases e;exact⟨cur,hh⟩
 have hne:bt≠g:=fun e=>by obtain⟨cur,hh⟩:=hgt;rw[←e,hT.2.2.1]at hh;cases hh
 refine⟨hT.1,hT.2.1,(hb.block bt (eS hT.2.2.1) hne).trans hT.2.2.1,fun j hj=> ?_,hT.2.2.2.2⟩;by_cases hji:j=i
 ·subst hji
  have h2:=((hO.stored (k*8+6) (.int .i64 x)).1.stored (k*8+7) (.int .i64 y)).1;rw[hv];unfold mvL;rw[if_pos rfl,List.length_modify,zGm x y _ k hk];exact h2
 ·have h2:=hT.2.2.2.1 j hj
  unfold mvL;rw[if_neg hji];refine⟨h2.1,h2.2.imp id ?_⟩;rintro⟨g',cp,cur,e1,e2,e3,r⟩;have hgg:g'≠g:=fun e=>hT.2.2.2.2 i j hi hj (fun e=>hji e.symm) g (by rw[hv];rfl) (by rw[e1,e];rfl);exact⟨g',cp,cur,e1,e2,(hb.block g' (eS e3) hgg).trans e3,r⟩
def KT (w w':World):Prop:=∀(k:Nat) (cur:Array Value) (t:TypeId) (f:Nat × Nat),w.heap[k]? =some (.cells cur t f)→t≠217→t≠220→w'.heap[k]? =some (.cells cur t f)
theorem KT.of_but {E:Nat→Prop} {w w':World} (h:But E w w')(hE:∀g,E g→∃cur t f,w.heap[g]? =some (.cells cur t f)∧(t=217∨t=220)):KT w w':=fun k cur t f hk h1 h2=>by
 refine(h.block k (eS hk) (fun e=> ?_)).trans hk;obtain⟨c2,t2,f2,q,ht⟩:=hE k e;rw[hk]at q;cases q
 rcases ht with ht|ht
 ·exact h1 ht
 ·exact h2 ht
def KM (w w':World):Prop:=∀(k:Nat) (o:Obj),w.heap[k]? =some o→(∀cur t f,o= .cells cur t f→t≠217∧t≠220)→w'.heap[k]? =some o
theorem KM.of_but {E:Nat→Prop} {w w':World} (h:But E w w')(hE:∀g,E g→∃cur t f,w.heap[g]? =some (.cells cur t f)∧(t=217∨t=220)):KM w w':=fun k o hk h1=>by
 refine(h.block k (eS hk) (fun e=> ?_)).trans hk;obtain⟨c2,t2,f2,q,ht⟩:=hE k e;rw[hk]at q;obtain⟨q1,q2⟩:=h1 c2 t2 f2 (Option.some.inj q);rcases ht with ht|ht
 ·exact q1 ht
 ·exact q2 ht
theorem KM.of_later {w w':World} (h:Later w w'):KM w w':=fun k o hk _=>zAb h hk
theorem KM.map {w w':World} (h:KM w w') {k:Nat} {m:Array MapEntry} {c:Nat} (hk:w.heap[k]? =some (.map m c)):w'.heap[k]? =some (.map m c):=h k _ hk (fun _ _ _ e=>by cases e)
theorem KT.of_later {w w':World} (h:Later w w'):KT w w':=fun k cur t f hk _ _=>zAb h hk
theorem TBv.typed {base bt:Nat} {W:World} {lim cnt trn:Int} {vs:List Value} {ls:Nat→List Rw} (hT:TBv base W bt lim cnt trn vs ls)(i:Nat)(hi:i<256):∀g,(g=bt∨(vs[i]?.getD undef).ownBlock=some g)→∃cur t f,W.heap[g]? =some (.cells cur t f)∧(t=217∨t=220):=fun g h=>by
 rcases h with rfl|h
 ·exact ⟨_,_,_,hT.2.2.1,.inl rfl⟩
 ·rcases (hT.2.2.2.1 i hi).2 with⟨e,_⟩|⟨g',cp,cur,e,_,hh,_⟩
  ·rw[e]at h;cases h
  ·rw[e]at h
   cases h
   exact⟨_,_,_,hh,.inr rfl⟩
def move (ls:Nat→List Rw) (p s d a b till:Int):Int:=if zDe till=false then 2 else if kx p s d a b ls=none then 11 else 0
theorem move_any(base bt:Nat)(lim cnt trn:Int)(ls:Nat→List Rw)(p s d a b till:Int)(w:World)(hT:TB base w bt lim cnt trn ls)(hs:0≤s∧s≤4294967295)(hd:0≤d∧d≤4294967295)(ha:0≤a∧a≤65535)(hb:0≤b∧b≤65535)(hbs:base≤w.heap.size)(htr:0≤trn∧trn≤1000000):
  Calls Tryz.prog 242 #[.pointer (some ⟨bt,0,none⟩),.agg #[.int .u8 p,.int .u32 s,.int .u32 d,.int .u16 a,.int .u16 b],.int .i64 till] w fun e w'=>e= .returned (.int .i64 (move ls p s d a b till))∧
   ((move ls p s d a b till≠0∧TB base w' bt lim cnt trn ls∧Below w.heap.size w w')∨(move ls p s d a b till=0∧∃k g,kx p s d a b ls=some k∧base≤g∧TB base w' bt lim cnt (trn+1) (mvL ls (bki p s d a b) k till (trn+1))∧But (fun h=>h=bt∨h=g) w w'∧KT w w'∧KM w w')):=by
 obtain⟨vs,hT⟩:=hT;have lb0:Later w (w.alloc (.cells #[.int .u8 p,.int .u32 s,.int .u32 d,.int .u16 a,.int .u16 b] 103)):=bA _ _;have t0:=heap_alloc_new w (.cells #[.int .u8 p,.int .u32 s,.int .u32 d,.int .u16 a,.int .u16 b] 103);go_enter Tryz.func242,Tryz.ntmps242;go_wp2_with fail;generalize w.alloc (.cells #[.int .u8 p,.int .u32 s,.int .u32 d,.int .u16 a,.int .u16 b] 103)=w0 at*;refine(zIa till w0).mono ?_;rintro e w1 ⟨rfl,rfl⟩;have hT1:=hT.later lb0;cases hm:zDe till with
 |false=>
  have HQ:Hid (move ls p s d a b till=2):=if_pos hm;clear hm;go_wp2_with fail;go_ret
  exact⟨by rw[HQ.out];rfl,.inl ⟨by rw[HQ.out];decide,⟨vs,hT1⟩,lb0⟩⟩
 | true=>
  have k0:=zAa t0;go_wp2_with fail;clear k0;refine(zDt base bt lim cnt trn vs ls p s d a b w1 hT1 hs hd ha hb).mono ?_;rintro e w2 ⟨hb2,⟨hk,rfl⟩|⟨k,g2,cap,hk,hkl,hv,rfl⟩⟩
  ·have L2:=lb0.trans (show Later w1 w2 from hb2)
   have hT2:=hT.later L2;have HQ:Hid (move ls p s d a b till=11):=by show _=_;unfold move;rw[hm,hk];simp
   clear hm hk;go_wp2_with fail;go_ret
   exact⟨by rw[HQ.out];rfl,.inl ⟨by rw[HQ.out];decide,⟨vs,hT2⟩,L2⟩⟩
  ·have L2:=lb0.trans (show Later w1 w2 from hb2)
   have hT2:=hT.later L2;have HQ:Hid (move ls p s d a b till=0):=by show _=_;unfold move;rw[hm,hk];simp
   have HK:=zAc hk;have HV:=zAc hv;clear hm hk hv;go_wp2_with fail;refine(zMl base bt lim cnt trn vs ls w2 hT2 htr).mono ?_;rintro e w3 ⟨rfl,hb3,hT3⟩;have hcc:=hT3.row _ (zCa p s d a b) HV.out hkl;have c6:=hcc 6 (by omega);have c7:=hcc 7 (by omega);have hgO:=hT3.2.2.2.1 _ (zCa p s d a b);rw[HV.out]at hgO
   have hgt:base≤g2∧∃cur,w3.heap[g2]? =some (.cells cur 220 (0,0)):=by
    rcases hgO.2 with⟨e,_⟩|⟨g',cp,cur,e,h1,hh,_⟩
    ·cases e
    ·cases e;exact⟨h1,cur,hh⟩
   obtain⟨hbg,cur,hcur⟩:=hgt;have F:=zAd hcur;have HM:=zAc (hT3.moved _ (zCa p s d a b) HV.out hkl till (trn+1))
   have HB:Hid (But (fun h=>h=bt∨h=g2) w ((w3.setCell ⟨g2,k*8+6,none⟩ (.int .i64 till)).setCell ⟨g2,k*8+7,none⟩ (.int .i64 (trn+1)))):=by
    show But _ _ _
    refine((But.trans (But.of L2) (⟨hb3.os,hb3.tape,hb3.output,hb3.size,fun q hq he=>hb3.block q hq (fun e=>he (.inl e))⟩:But (fun h=>h=bt∨h=g2) w2 w3)).setCell (p:=⟨g2,k*8+6,none⟩) (.inr rfl) _).setCell (p:=⟨g2,k*8+7,none⟩) (.inr rfl) _
   have HKT:Hid (KT w ((w3.setCell ⟨g2,k*8+6,none⟩ (.int .i64 till)).setCell ⟨g2,k*8+7,none⟩ (.int .i64 (trn+1)))):=KT.of_but HB.out (fun g hg=>hT.typed _ (zCa p s d a b) g (hg.imp id (fun e=>by rw[HV.out,e];rfl)));have HKM:Hid (KM w ((w3.setCell ⟨g2,k*8+6,none⟩ (.int .i64 till)).setCell ⟨g2,k*8+7,none⟩ (.int .i64 (trn+1)))):=KM.of_but HB.out (fun g hg=>hT.typed _ (zCa p s d a b) g (hg.imp id (fun e=>by rw[HV.out,e];rfl)));clear hcc hgO hT3 hT2 hT1 hT hb3 hcur;simp only[rwc,List.getElem?_cons_zero,List.getElem?_cons_succ]at c6 c7;go_wp2_with fail;go_ret
   exact⟨by rw[HQ.out];rfl,.inr ⟨HQ.out,k,g2,HK.out,hbg,⟨vs,HM.out⟩,HB.out,HKT.out,HKM.out⟩⟩
def zRw:Rw:=⟨0,0,0,0,0,0,0,0⟩
theorem zGn(l m:List Rw):rws (l++m)=rws l++rws m:=by unfold rws;simp
theorem zHh(r:Rw)(l:List Rw):rws (r::l)=rwc r++rws l:=by unfold rws;simp
theorem clearR(w:World)(ty:TypeId)(g o c:Nat)(cur:Array Value)(hh:w.heap[g]? =some (.cells cur 220 (0,0)))(ho:o+8≤cur.size):
  (Builtin.clear_ #[210] ty #[.slice (some ⟨g,o,none⟩) 1 c]).run Tryz.prog w= .ok (.tuple #[]) (zAj w g o (rwc zRw)):=by
 have hc:=zAa hh;have hf:=zAd hh;have hk:∀j,j<8→∃u,w.cell? ⟨g,o+j,none⟩=some u:=fun j hj=>⟨cur[o+j]'(by omega),by rw[hc];simp⟩;obtain⟨u0,k0⟩:=hk 0 (by omega);obtain⟨u1,k1⟩:=hk 1 (by omega);obtain⟨u2,k2⟩:=hk 2 (by omega);obtain⟨u3,k3⟩:=hk 3 (by omega);obtain⟨u4,k4⟩:=hk 4 (by omega);obtain⟨u5,k5⟩:=hk 5 (by omega);obtain⟨u6,k6⟩:=hk 6 (by omega);obtain⟨u7,k7⟩:=hk 7 (by omega);clear hk hc;unfold Builtin.clear_;go_simp;have e:(Builtin.zeroCells #[Value.int .u8 0,.int .u32 0,.int .u32 0,.int .u16 0,.int .u16 0,.int .i64 0,.int .i64 0,.int .i64 0] 1).toList=[Value.int .u8 0,.int .u32 0,.int .u32 0,.int .u16 0,.int .u16 0,.int .i64 0,.int .i64 0,.int .i64 0]:=by kernel_rfl
 rw[e];simp only[Nat.add_zero]at k0;simp only[storeCells];go_simp;rfl
def zIx (l:List Rw) (k p:Nat):List Rw:=l.take k++(l.drop (k+1)).take (p-1-k)
theorem zLe {l:List Rw} {k p:Nat} (hk:k<p)(hp:p≤l.length):(zIx l k p).length=p-1:=by unfold zIx;simp;omega
theorem zOd(l:List Rw)(k:Nat):zIx l k (k+1)=l.take k:=by unfold zIx;simp
theorem zQm {l:List Rw} {k p:Nat} (hk:k<p)(hp:p<l.length):zIx l k (p+1)=zIx l k p++[l[p]]:=by
 unfold zIx;rw[List.append_assoc];congr 1
 rw[show p+1-1-k=(p-1-k)+1 from by omega];have h:p-1-k<(l.drop (k+1)).length:=by simp;omega
 rw[←List.take_append_getElem h];congr 2
 rw[List.getElem_drop];congr 1
 omega
theorem zQn(l:List Rw)(k:Nat)(hk:k<l.length):zIx l k l.length=l.eraseIdx k:=by
 unfold zIx;rw[List.eraseIdx_eq_take_drop_succ];congr 1
 exact List.take_of_length_le (by rw[List.length_drop];omega)
theorem zLf(base g cap gk:Nat)(l:List Rw)(k:Nat)(kp ks kd ka kb:Int)(w:World)(hk:k<l.length)(hkx:kix kp ks kd ka kb l=some k)(hun:∀j (hj:j<l.length),j≠k→isK kp ks kd ka kb l[j]=false)
  (hO:w.ownsRow base 220 8 (.slice (some ⟨g,0,none⟩) l.length cap) l.length (rws l))(hg:w.heap[gk]? =some (.cells #[.int .u8 kp,.int .u32 ks,.int .u32 kd,.int .u16 ka,.int .u16 kb] 103 (0,0))):
  Calls Tryz.prog 218 #[.slice (some ⟨g,0,none⟩) l.length cap,.func (.func 220) #[] #[.pointer (some ⟨gk,0,none⟩)]] w fun e w'=>e= .returned (.slice (some ⟨g,0,none⟩) (l.length-1) cap)∧w'.ownsRow base 220 8 (.slice (some ⟨g,0,none⟩) (l.length-1) cap) (l.length-1) (rws (l.eraseIdx k))∧But (fun b=>b=g) w w':=by
 have hrd:=zCn hO;obtain⟨h1,⟨e,_⟩|⟨g2,cap2,cur,e,hgb,hh,hl,hm,hs,hc⟩⟩:=hO
 ·cases e
 obtain⟨rfl,rfl⟩:g=g2∧cap=cap2:=by simpa using e
 clear e;have hne:gk≠g:=fun e=>by rw[e,hh]at hg;simp at hg
 obtain⟨post,hpost⟩:∃post,cur.toList=rws l++post:=⟨cur.toList.drop (l.length*8),by rw[←hc,List.take_append_drop]⟩
 have hplen:post.length=(cap-l.length)*8:=by
  have:=congrArg List.length hpost;rw[List.length_append,zB1,Array.length_toList,hs]at this;omega
 have hcur0:w.heap[g]? =some (.cells (rws (zIx l k (k+1))++(rwc l[k]++(rws (l.drop (k+1))++post))).toArray 220 (0,0)):=by
  rw[hh,zOd];congr 2
  apply Array.ext'
  simp only[List.toList_toArray];rw[hpost];conv=>lhs;rw[←List.take_append_drop k l,List.drop_eq_getElem_cons hk]
  rw[zGn,zHh];simp
 have HRD:=zAc hrd;have HKX:=zAc hkx;have HUN:=zAc hun;have HC0:=zAc hcur0;clear hrd hkx hun hcur0 hpost hc hh h1 hs;have hm':cap≤9223372036854775807:=by simpa[maxLen]using hm
 go_enter Tryz.func218,Tryz.ntmps218;go_wp2_with fail;refine(zH9 w.heap.size gk _ l kp ks kd ka kb w (Nat.le_refl _) HRD.out hg).mono ?_;rintro e w1 ⟨b1,(⟨hn,_⟩|⟨k',hk',hk2,rfl⟩)⟩
 ·rw[HKX.out]at hn;cases hn
 obtain rfl:k=k':=by rw[HKX.out]at hk';simpa using hk'
 have l1:Later w w1:=b1;clear hk' hk2;have i1:(k:Int)<l.length:=by omega
 have i2:¬((k:Int)= -1):=by omega
 have g1:=zAb l1 hg;have c1:=zAb l1 HC0.out;go_wp2_with fail;go_loopw [5,6] (fun i j wr=>∃p:Nat,k<p∧p≤l.length∧i= .int .i64 ((p:Int)-1)∧j= .int .i64 (p:Int)∧But (fun b=>b=g) w1 wr∧∃mid:List Value,mid.length=8∧wr.heap[g]? =some (.cells (rws (zIx l k p)++(mid++(rws (l.drop p)++post))).toArray 220 (0,0))) (fun _ j _=>l.length-(intOf j).toNat)
 case atStart=>exact⟨k+1,by omega,by omega,by simp,by simp,But.refl _ _,rwc l[k],rfl,c1⟩
 case round=>
  obtain⟨p,hkp,hpn,rfl,rfl,hbt,mid,hmid,hcr⟩:=hrel;have hgr:=(hbt.block gk (eS g1) hne).trans g1;have hal:=zLe hkp hpn;have hrl:(rws (zIx l k p)).length=(p-1)*8:=by rw[zB1,hal]
  by_cases hlt:p<l.length
  ·have hlt':(p:Int)<l.length:=by omega
   have hck:=zAa hcr;have hdp:l.drop p=l[p]::l.drop (p+1):=List.drop_eq_getElem_cons hlt
   have hat:∀i,i<8→wr.cell? ⟨g,p*8+i,none⟩=(rwc l[p])[i]? :=fun i hi=>by
    rw[hck,List.getElem?_toArray,List.getElem?_append_right (by omega),hrl,List.getElem?_append_right (by omega),hmid,List.getElem?_append_left (by rw[zB1,List.length_drop];omega),hdp,zHh,List.getElem?_append_left (by rw[zA5];omega)];congr 1
    omega
   have c0:=hat 0 (by omega);have c1':=hat 1 (by omega);have c2:=hat 2 (by omega);have c3:=hat 3 (by omega);have c4:=hat 4 (by omega);have c5:=hat 5 (by omega);have c6:=hat 6 (by omega);have c7:=hat 7 (by omega);have hnk:=HUN.out p hlt (by omega);have hnx:=zQm hkp hlt;generalize hgo:l[p]=r at*;have HNK:=zAc hnk;have HNX:=zAc hnx;have HDP:=zAc hdp;clear hat hck hgo hnk hnx hdp;simp only[rwc,List.getElem?_cons_zero,List.getElem?_cons_succ,Nat.add_zero]at c0 c1' c2 c3 c4 c5 c6 c7;have la:Later wr (wr.alloc (.cells #[.int .u8 r.p,.int .u32 r.s,.int .u32 r.d,.int .u16 r.a,.int .u16 r.b,.int .i64 r.id,.int .i64 r.till,.int .i64 r.turn] 220)):=bA _ _;have xa:=heap_alloc_new wr (.cells #[.int .u8 r.p,.int .u32 r.s,.int .u32 r.d,.int .u16 r.a,.int .u16 r.b,.int .i64 r.id,.int .i64 r.till,.int .i64 r.turn] 220);go_upto_region 8 with fail;generalize wr.alloc _=wa at*;generalize hxb:wr.heap.size=xb at*;have hgx:g<xb:=by rw[←hxb];exact(eS hcr)
   clear c0 c1' c2 c3 c4 c5 c6 c7 hxb;have xk:=zAa xa;have ga:=zAb la hgr;have ca:=zAb la hcr;have hci:=is_any r gk kp ks kd ka kb wa ga;rw[show Value.agg (rwc r).toArray= .agg #[.int .u8 r.p,.int .u32 r.s,.int .u32 r.d,.int .u16 r.a,.int .u16 r.b,.int .i64 r.id,.int .i64 r.till,.int .i64 r.turn]from rfl,HNK.out]at hci;have HCI:=zAc hci;clear hci;go_wp2_with fail;refine HCI.out.mono ?_;rintro e wb ⟨rfl,hbb⟩;have lbb:Later wa wb:=hbb;have xkb:=zAa (zAb lbb xa);have cb:=zAb lbb ca;have hckb:=zAa cb;have Fb:=zAd cb
   have hex:∀i,i<8→∃u,wb.cell? ⟨g,(p-1)*8+i,none⟩=some u:=fun i hi=>by
    rw[hckb,List.getElem?_toArray,List.getElem?_append_right (by omega),hrl,Nat.add_sub_cancel_left,List.getElem?_append_left (by omega)];exact⟨mid[i]'(by omega),by simp⟩
   obtain⟨u0,x0⟩:=hex 0 (by omega);obtain⟨u1,x1⟩:=hex 1 (by omega);obtain⟨u2,x2⟩:=hex 2 (by omega);obtain⟨u3,x3⟩:=hex 3 (by omega);obtain⟨u4,x4⟩:=hex 4 (by omega);obtain⟨u5,x5⟩:=hex 5 (by omega);obtain⟨u6,x6⟩:=hex 6 (by omega);obtain⟨u7,x7⟩:=hex 7 (by omega);simp only[Nat.add_zero]at x0
   have hput:(zAj wb g ((p-1)*8) (rwc r)).heap[g]? =some (.cells (rws (zIx l k p)++(rwc r++(rws (l.drop p)++post))).toArray 220 (0,0)):=by
    have:=zC4 (rwc r) (rws (zIx l k p)) mid (rws (l.drop p)++post) wb cb (by rw[hmid,zA5]);rw[hrl]at this;exact this
   have hbp:But (fun b=>b=g) w1 (zAj wb g ((p-1)*8) (rwc r)):=zAf (E:=fun b=>b=g) rfl _ _ _ _ (hbt.trans ((But.of la).trans (But.of lbb)));have HPUT:=zAc hput;have HBP:=zAc hbp;obtain⟨q,rfl⟩:∃q,p=q+1:=⟨p-1,by omega⟩;clear hex hckb hput hbp xk;rw[show q+1-1=q from by omega]at x0 x1 x2 x3 x4 x5 x6 x7 HPUT HBP;have e9:((q+1:Nat):Int)-1=(q:Int):=by omega
   rw[e9];have q1:(q:Int)<l.length:=by omega
   go_wp2_with fail;refine⟨?_,by simp[intOf];omega⟩;iterate 23 apply Exists.intro
   refine⟨?_,rfl⟩;refine⟨q+1+1,by omega,by omega,by simp<;>omega,by simp,HBP.out,rwc r,rfl,?_⟩;rw[HNX.out,zGn,List.append_assoc];have h:=HPUT.out;rw[HDP.out,zHh,List.append_assoc]at h
   have h2:(zAj wb g (q*8) (rwc r)).heap[g]? =some (.cells (rws (zIx l k (q+1))++(rws [r]++(rwc r++(rws (l.drop (q+1+1))++post)))).toArray 220 (0,0)):=by
    rw[show rws [r]=rwc r from by simp[rws]];exact h
   exact h2
  ·obtain rfl:p=l.length:=by omega
   obtain⟨q,hq⟩:∃q,l.length=q+1:=⟨l.length-1,by omega⟩
   have hfin:(zAj wr g (q*8) (rwc zRw)).heap[g]? =some (.cells (rws (l.eraseIdx k)++(rwc zRw++post)).toArray 220 (0,0)):=by
    have:=zC4 (rwc zRw) (rws (zIx l k l.length)) mid (rws (l.drop l.length)++post) wr hcr (by rw[hmid,zA5]);rw[hrl,zQn l k hk,List.drop_length]at this;simpa[rws,hq]using this
   have hbf:But (fun b=>b=g) w (zAj wr g (q*8) (rwc zRw)):=zAf (E:=fun b=>b=g) rfl _ _ _ _ ((But.of l1).trans hbt)
   have hrow:(zAj wr g (q*8) (rwc zRw)).ownsRow base 220 8 (.slice (some ⟨g,0,none⟩) q cap) q (rws (l.eraseIdx k)):=by
    have hle:(l.eraseIdx k).length=q:=by rw[List.length_eraseIdx_of_lt hk,hq];omega
    refine⟨by rw[zB1,hle],.inr ⟨g,cap,_,rfl,hgb,hfin,by omega,hm,?_,?_⟩⟩
    ·simp only[List.size_toArray,List.length_append,zB1,hle,zA5,hplen]
     omega
    ·simp only[List.toList_toArray]
     rw[List.take_left' (by rw[zB1,hle])]
   have hcs:wr.heap[g]? =some (.cells (rws (zIx l k l.length)++(mid++(rws (l.drop l.length)++post))).toArray 220 (0,0)):=hcr;have hcl:=fun ty c=>clearR wr ty g (q*8) c _ hcs (by simp only[List.size_toArray,List.length_append,hrl,hmid];omega);have HCR:=zAc hcl;have HRW:=zAc hrow;have HBF:=zAc hbf;have HL1:Hid (l.length-1=q):=show _=_ from by omega
   clear hcl hrow hbf hfin hcs hcr hrl hal hgr hlt;rw[hq];have hcq:q+1≤cap:=by omega
   have HQ:=zAc hq;clear hq;have e9:((q+1:Nat):Int)-1=(q:Int):=by omega
   rw[e9];have j1:¬cap=q:=by omega
   have j2:q≤cap:=by omega
   have j4:(q:Int)≤(q:Int)+1:=by omega
   have j5:¬cap=0:=by omega
   go_wp2_with fail;rw[HCR.out];go_wp2_with fail;go_ret
   rw[HL1.out];exact⟨rfl,HRW.out,HBF.out⟩
def dpL (ls:Nat→List Rw) (i k:Nat):Nat→List Rw:=fun j=>if j=i then(ls i).eraseIdx k else ls j
def UQy (l:List Rw):Prop:=∀kp ks kd ka kb i j (hi:i<l.length) (hj:j<l.length),isK kp ks kd ka kb l[i]=true→isK kp ks kd ka kb l[j]=true→i=j
theorem UQy.others {l:List Rw} (h:UQy l) {kp ks kd ka kb:Int} {k:Nat} (hk:kix kp ks kd ka kb l=some k):∀j (hj:j<l.length),j≠k→isK kp ks kd ka kb l[j]=false:=fun j hj hne=>by
 unfold kix at hk;rw[List.findIdx?_eq_some_iff_getElem]at hk;obtain⟨hkl,hkt,_⟩:=hk;cases hb:isK kp ks kd ka kb l[j] with
 |false=>rfl
 |true=>exact absurd (h kp ks kd ka kb j k hj hkl hb hkt) hne
theorem TBv.dropped {base bt:Nat} {W W1:World} {lim cnt trn:Int} {vs:List Value} {ls:Nat→List Rw} (hT:TBv base W bt lim cnt trn vs ls)(i:Nat)(hi:i<256) {g cap k:Nat} (hk:k<(ls i).length)(hv:vs[i]?.getD undef= .slice (some ⟨g,0,none⟩) (ls i).length cap)
  (hb:But (fun b=>b=g) W W1)(hrow:W1.ownsRow base 220 8 (.slice (some ⟨g,0,none⟩) ((ls i).length-1) cap) ((ls i).length-1) (rws ((ls i).eraseIdx k))):
  TBv base (W1.setCell ⟨bt,3+i,none⟩ (.slice (some ⟨g,0,none⟩) ((ls i).length-1) cap)) bt lim cnt trn (vs.set i (.slice (some ⟨g,0,none⟩) ((ls i).length-1) cap)) (dpL ls i k)∧But (fun b=>b=bt∨b=g) W (W1.setCell ⟨bt,3+i,none⟩ (.slice (some ⟨g,0,none⟩) ((ls i).length-1) cap)):=by
 obtain⟨h1,h2,h3,h4,h5⟩:=hT;have hO:=h4 i hi;rw[hv]at hO
 have hgt:∃cur,W.heap[g]? =some (.cells cur 220 (0,0)):=by
  rcases hO.2 with⟨e,_⟩|⟨g',cp,cur,e,_,hh,_⟩
  ·cases e
  ·cases e;exact⟨cur,hh⟩
 have hne:bt≠g:=fun e=>by obtain⟨cur,hh⟩:=hgt;rw[←e,h3]at hh;cases hh
 have hb3:W1.heap[bt]? =some (.cells (.int .i64 lim:: .int .i64 cnt:: .int .i64 trn::vs).toArray 217 (0,0)):=(hb.block bt (eS h3) hne).trans h3
 have hset:(Value.int .i64 lim:: .int .i64 cnt:: .int .i64 trn::vs).toArray.setIfInBounds (3+i) (.slice (some ⟨g,0,none⟩) ((ls i).length-1) cap)=(Value.int .i64 lim:: .int .i64 cnt:: .int .i64 trn::vs.set i (.slice (some ⟨g,0,none⟩) ((ls i).length-1) cap)).toArray:=by
  rw[show 3+i=i+1+1+1 from by omega];simp
 have hV3:=zAh hb3 (3+i) (.slice (some ⟨g,0,none⟩) ((ls i).length-1) cap);rw[hset]at hV3;have keep:∀(x:Nat) (o:Obj),x≠bt→W1.heap[x]? =some o→(W1.setCell ⟨bt,3+i,none⟩ (.slice (some ⟨g,0,none⟩) ((ls i).length-1) cap)).heap[x]? =some o:=fun x o hx ho=>zKo ho hx;refine⟨⟨by simpa using h1,h2,hV3,fun j hj=> ?_,fun j k2 hj hk2 hjk x hx=> ?_⟩,(⟨hb.os,hb.tape,hb.output,hb.size,fun x hx he=>hb.block x hx (fun e=>he (.inr e))⟩:But (fun b=>b=bt∨b=g) W W1).setCell (p:=⟨bt,3+i,none⟩) (.inl rfl) _⟩
 ·by_cases hji:j=i
  ·subst hji
   rw[List.getElem?_set_self (by omega)];unfold dpL;rw[if_pos rfl,List.length_eraseIdx_of_lt hk];obtain⟨q1,⟨q2,q3⟩|⟨g2,cap2,cur,e,hgb,hh,q⟩⟩:=hrow
   ·cases q2
   ·refine ⟨q1,.inr ⟨g2,cap2,cur,e,hgb,keep g2 _ (fun e2=> ?_) hh,q⟩⟩
    rw[e2,hb3]at hh;cases hh
  ·rw[List.getElem?_set_ne (fun e=>hji e.symm)]
   unfold dpL;rw[if_neg hji];obtain⟨q1,q2|⟨g2,cap2,cur,e,hgb,hh,q⟩⟩:=h4 j hj
   ·exact ⟨q1,.inl q2⟩
   ·have hgg:g2≠g:=fun e2=>h5 i j hi hj (fun e=>hji e.symm) g (by rw[hv];rfl) (by rw[e,e2];rfl)
    refine⟨q1,.inr ⟨g2,cap2,cur,e,hgb,keep g2 _ (fun e2=> ?_) ((hb.block g2 (eS hh) hgg).trans hh),q⟩⟩;rw[e2,h3]at hh;cases hh
 ·by_cases hji:j=i
  ·subst hji
   rw[List.getElem?_set_self (by omega)]at hx;rw[List.getElem?_set_ne hjk];have:g=x:=by simpa[Value.ownBlock]using hx
   subst this;exact h5 j k2 hj hk2 hjk g (by rw[hv];rfl)
  ·rw[List.getElem?_set_ne (fun e=>hji e.symm)]at hx
   by_cases hki:k2=i
   ·subst hki
    rw[List.getElem?_set_self (by omega)];intro e
    have:g=x:=by simpa[Value.ownBlock]using e
    subst this;exact h5 j k2 hj hk2 hjk g hx (by rw[hv];rfl)
   ·rw[List.getElem?_set_ne (fun e=>hki e.symm)]
    exact h5 j k2 hj hk2 hjk x hx
theorem zLg(base bt gk:Nat)(lim cnt trn:Int)(vs:List Value)(ls:Nat→List Rw)(h:Int)(i k:Nat)(kp ks kd ka kb:Int)(w:World)(hT:TBv base w bt lim cnt trn vs ls)(hh:0≤h∧h≤4294967295)(hhi:(h % 256).toNat=i)(hu:UQy (ls i))(hk:kix kp ks kd ka kb (ls i)=some k)
  (hg:w.heap[gk]? =some (.cells #[.int .u8 kp,.int .u32 ks,.int .u32 kd,.int .u16 ka,.int .u16 kb] 103 (0,0))):
  Calls Tryz.prog 160 #[.pointer (some ⟨bt,3,none⟩),.int .u32 h,.func (.func 220) #[] #[.pointer (some ⟨gk,0,none⟩)]] w fun e w'=>e= .returned (.tuple #[])∧TB base w' bt lim cnt trn (dpL ls i k)∧But (fun b=>b=bt∨(vs[i]?.getD undef).ownBlock=some b) w w':=by
 have hi:i<256:=by omega
 have hkl:k<(ls i).length:=by
  unfold kix at hk;rw[List.findIdx?_eq_some_iff_getElem]at hk;exact hk.1
 have hO:=hT.2.2.2.1 i hi
 obtain⟨g,cap,hv⟩:∃g cap,vs[i]?.getD undef= .slice (some ⟨g,0,none⟩) (ls i).length cap:=by
  rcases hO.2 with⟨_,e⟩|⟨g',cp,cur,e,_⟩
  ·omega
  ·exact ⟨g',cp,e⟩
 rw[hv]at hO;have HD:=zAc (zLf base g cap gk (ls i) k kp ks kd ka kb w hkl hk (hu.others hk) hO hg);have hc:=hT.cell i hi;rw[hv]at hc;have HV:=zAc hv;have HI:=zAc hhi;clear hv hhi hO hk hu;go_enter Tryz.func160,Tryz.ntmps160;go_wp2_with fail;refine(zHa bt h w hh).mono ?_;rw[HI.out];rintro e w1 ⟨rfl,rfl⟩;go_wp2_with fail;refine HD.out.mono ?_;rintro e w2 ⟨rfl,hrow,hb2⟩;obtain⟨hfin,hbt⟩:=hT.dropped i hi hkl HV.out hb2 hrow
 have hbb:w2.heap[bt]? =some (.cells (.int .i64 lim:: .int .i64 cnt:: .int .i64 trn::vs).toArray 217 (0,0)):=(hb2.block bt (eS hT.2.2.1) (fun e=>by
  rcases hrow.2 with⟨e2,_⟩|⟨g',cp,cur,e2,_,hh2,_⟩
  ·cases e2
  ·cases e2
   have:=(eS hT.2.2.1);obtain⟨q1,⟨q2,q3⟩|⟨g3,cap3,cur3,q4,_,q5,_⟩⟩:=hT.2.2.2.1 i hi
   ·rw[HV.out]at q2;cases q2
   ·rw[HV.out]at q4;cases q4
    rw[←e,hT.2.2.1]at q5;cases q5)).trans hT.2.2.1
 have k2:w2.cell? ⟨bt,3+i,none⟩=some (.slice (some ⟨g,0,none⟩) (ls i).length cap):=by
  rw[zAa hbb,←zAa hT.2.2.1];exact hc
 have f2:w2.frozen? ⟨bt,3+i,none⟩=false:=zAd hbb _;have HF:=zAc hfin;have HB:=zAc hbt;clear hfin hbt hrow;go_wp2_with fail;go_end0
 refine⟨rfl,⟨_,HF.out⟩,⟨HB.out.os,HB.out.tape,HB.out.output,HB.out.size,fun x hx he=>HB.out.block x hx (fun e=>he (e.imp id (fun e=>by rw[HV.out,e];rfl)))⟩⟩
end Go.Proofs.YteaeilghamjjkaaGreatDoor
