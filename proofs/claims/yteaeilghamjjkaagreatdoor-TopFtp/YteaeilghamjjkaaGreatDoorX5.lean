import Derived.Lib.SlBytesConst
import Derived.Test.YteaeilghamjjkaaGreatDoorX6
import Derived.Shelf.LaysM
import Derived.Shelf.Strconv.Itoa3
import Derived.Shelf.Strings.OnBuilder
import Derived.Shelf.Spec.DecodeRune
import Derived.Lib.IndexEntry
import Derived.Lib.Bytealg
import Derived.Lib.AppendZeros
import Derived.Deep.Cut
import Derived.ScopeJumps
import Derived.WalkMore
namespace Go.Proofs.YteaeilghamjjkaaGreatDoor
set_option maxHeartbeats 4000000
open Go.RowKit Go.Shelf
set_option maxRecDepth 100000
set_option linter.unusedVariables false
set_option linter.unusedSimpArgs false
def zJ5 (zs:List Int):Bool:=zJ4 zs [13,10] && (decide (zs.length≤128) && !(crl (zs.take (zs.length-2))))
def zVf (bb off cp:Nat) (zs:List Int):Value:=if zJ5 zs=true then .slice (some ⟨bb,off,none⟩) (zs.length-2) cp else .slice none 0 0
theorem zLh {bb off cp:Nat} {zs:List Int} (h:zJ5 zs=true):zVf bb off cp zs= .slice (some ⟨bb,off,none⟩) (zs.length-2) cp:=by unfold zVf;rw[if_pos h]
theorem zFx {bb off cp:Nat} {zs:List Int} (h:zJ5 zs=false):zVf bb off cp zs= .slice none 0 0:=by unfold zVf;rw[if_neg (by rw[h];simp)]
theorem zNi:Mt.By [13,10]:=fun z hz=>by simp at hz;omega
theorem zVg {c:Int} (h:dgt c=true):48≤c∧c≤57:=by unfold dgt at h;simpa using h
theorem zFy(l:List Int)(hl:Mt.By l)(i:Nat)(h:i<l.length):bAt (strOfNums l) i=l[i]?.getD 0:=by
 have hs:i<(strOfNums l).size:=by rw[strOfNums_size];exact h
 have hb:=hl l[i] (List.getElem_mem h);unfold bAt;rw[List.getElem?_eq_getElem h];simp only[Option.getD_some,ByteArray.get!,strOfNums];rw[getElem!_pos _ i (by simpa using h)];simp
 omega
open Go.Shelf
def zVh:Go.Shelf.Ren:=⟨fun|171=>19|243=>46|246=>96|283=>148|284=>149|285=>150|286=>151|129=>200|317=>199|318=>201|319=>202|320=>203|337=>267|338=>268|n=>n,fun|3=>3|9=>9|2=>2|4=>4|171=>287|0=>0|53=>251|37=>26|5=>5|173=>290|212=>354|51=>29|20=>20|213=>355|46=>66|232=>440|233=>441|n=>n,fun|17=>2|18=>5|19=>6|n=>n⟩
theorem itoaL:Go.Proofs.LaysM.n171 Tryz.prog zVh:= {
 mixed:=by kernel_rfl
 f129:=Tryz.func200.trans (congrArg some (by kernel_rfl))
 f171:=Tryz.func19.trans (congrArg some (by kernel_rfl))
 f243:=Tryz.func46.trans (congrArg some (by kernel_rfl))
 f246:=Tryz.func96.trans (congrArg some (by kernel_rfl))
 f283:=Tryz.func148.trans (congrArg some (by kernel_rfl))
 f284:=Tryz.func149.trans (congrArg some (by kernel_rfl))
 f285:=Tryz.func150.trans (congrArg some (by kernel_rfl))
 f286:=Tryz.func151.trans (congrArg some (by kernel_rfl))
 f317:=Tryz.func199.trans (congrArg some (by kernel_rfl))
 f318:=Tryz.func201.trans (congrArg some (by kernel_rfl))
 f319:=Tryz.func202.trans (congrArg some (by kernel_rfl))
 f320:=Tryz.func203.trans (congrArg some (by kernel_rfl))
 f337:=Tryz.func267.trans (congrArg some (by kernel_rfl))
 f338:=Tryz.func268.trans (congrArg some (by kernel_rfl))
 t0:=Tryz.underlying0
 a0:=Tryz.isAgg0
 z0:=Tryz.sizeOf0
 v0:=Tryz.zeroValue0
 t2:=Tryz.underlying2
 a2:=Tryz.isAgg2
 z2:=Tryz.sizeOf2
 v2:=Tryz.zeroValue2
 t3:=Tryz.underlying3
 a3:=Tryz.isAgg3
 z3:=Tryz.sizeOf3
 v3:=Tryz.zeroValue3
 t4:=Tryz.underlying4
 a4:=Tryz.isAgg4
 z4:=Tryz.sizeOf4
 v4:=Tryz.zeroValue4
 t5:=Tryz.underlying5
 a5:=Tryz.isAgg5
 z5:=Tryz.sizeOf5
 v5:=Tryz.zeroValue5
 t9:=Tryz.underlying9
 a9:=Tryz.isAgg9
 z9:=Tryz.sizeOf9
 v9:=Tryz.zeroValue9
 t20:=Tryz.underlying20
 a20:=Tryz.isAgg20
 z20:=Tryz.sizeOf20
 v20:=Tryz.zeroValue20
 t37:=Tryz.underlying26
 a37:=Tryz.isAgg26
 z37:=Tryz.sizeOf26
 v37:=Tryz.zeroValue26
 t46:=Tryz.underlying66
 a46:=Tryz.isAgg66
 z46:=Tryz.sizeOf66
 v46:=Tryz.zeroValue66
 t51:=Tryz.underlying29
 a51:=Tryz.isAgg29
 z51:=Tryz.sizeOf29
 v51:=Tryz.zeroValue29
 t53:=Tryz.underlying251
 a53:=Tryz.isAgg251
 z53:=Tryz.sizeOf251
 v53:=Tryz.zeroValue251
 t171:=Tryz.underlying287
 a171:=Tryz.isAgg287
 z171:=Tryz.sizeOf287
 v171:=Tryz.zeroValue287
 t173:=Tryz.underlying290
 a173:=Tryz.isAgg290
 z173:=Tryz.sizeOf290
 v173:=Tryz.zeroValue290
 t212:=Tryz.underlying354
 a212:=Tryz.isAgg354
 z212:=Tryz.sizeOf354
 v212:=Tryz.zeroValue354
 t213:=Tryz.underlying355
 a213:=Tryz.isAgg355
 z213:=Tryz.sizeOf355
 t232:=Tryz.underlying440
 a232:=Tryz.isAgg440
 z232:=Tryz.sizeOf440
 v232:=Tryz.zeroValue440
 t233:=Tryz.underlying441
 a233:=Tryz.isAgg441
 z233:=Tryz.sizeOf441
 v233:=Tryz.zeroValue441
 g17:=by kernel_rfl
 g18:=by kernel_rfl
 g19:=by kernel_rfl
 i0:=by kernel_rfl
 i2:=by kernel_rfl
 i3:=by kernel_rfl
 i4:=by kernel_rfl
 i5:=by kernel_rfl
 i9:=by kernel_rfl
 i20:=by kernel_rfl
 i37:=by kernel_rfl
 i46:=by kernel_rfl
 i51:=by kernel_rfl
 i53:=by kernel_rfl
 i171:=by kernel_rfl
 i173:=by kernel_rfl
 i212:=by kernel_rfl
 i232:=by kernel_rfl
 i233:=by kernel_rfl
 m17:=by kernel_rfl
 m18:=by kernel_rfl
 m19:=by kernel_rfl }
def zLi:Go.Shelf.Ren:=⟨fun|156=>47|165=>97|166=>98|169=>99|240=>152|241=>153|276=>204|277=>205|n=>n,fun|31=>126|9=>9|3=>3|4=>4|0=>0|20=>20|72=>204|76=>207|70=>202|37=>26|75=>206|127=>292|164=>356|5=>5|80=>209|n=>n,fun|n=>n⟩
theorem joinL:Go.Proofs.Lays.n156 Tryz.prog zLi:= {
 mixed:=by kernel_rfl
 f156:=Tryz.func47.trans (congrArg some (by kernel_rfl))
 f165:=Tryz.func97.trans (congrArg some (by kernel_rfl))
 f166:=Tryz.func98.trans (congrArg some (by kernel_rfl))
 f169:=Tryz.func99.trans (congrArg some (by kernel_rfl))
 f240:=Tryz.func152.trans (congrArg some (by kernel_rfl))
 f241:=Tryz.func153.trans (congrArg some (by kernel_rfl))
 f276:=Tryz.func204.trans (congrArg some (by kernel_rfl))
 f277:=Tryz.func205.trans (congrArg some (by kernel_rfl))
 t0:=Tryz.underlying0
 a0:=Tryz.isAgg0
 z0:=Tryz.sizeOf0
 v0:=Tryz.zeroValue0
 t3:=Tryz.underlying3
 a3:=Tryz.isAgg3
 z3:=Tryz.sizeOf3
 v3:=Tryz.zeroValue3
 t4:=Tryz.underlying4
 a4:=Tryz.isAgg4
 z4:=Tryz.sizeOf4
 v4:=Tryz.zeroValue4
 t9:=Tryz.underlying9
 a9:=Tryz.isAgg9
 z9:=Tryz.sizeOf9
 v9:=Tryz.zeroValue9
 t20:=Tryz.underlying20
 a20:=Tryz.isAgg20
 z20:=Tryz.sizeOf20
 v20:=Tryz.zeroValue20
 t31:=Tryz.underlying126
 a31:=Tryz.isAgg126
 z31:=Tryz.sizeOf126
 v31:=Tryz.zeroValue126
 t37:=Tryz.underlying26
 a37:=Tryz.isAgg26
 z37:=Tryz.sizeOf26
 v37:=Tryz.zeroValue26
 t70:=Tryz.underlying202
 a70:=Tryz.isAgg202
 z70:=Tryz.sizeOf202
 v70:=Tryz.zeroValue202
 t72:=Tryz.underlying204
 a72:=Tryz.isAgg204
 z72:=Tryz.sizeOf204
 v72:=Tryz.zeroValue204
 t75:=Tryz.underlying206
 a75:=Tryz.isAgg206
 z75:=Tryz.sizeOf206
 v75:=Tryz.zeroValue206
 t76:=Tryz.underlying207
 a76:=Tryz.isAgg207
 z76:=Tryz.sizeOf207
 v76:=Tryz.zeroValue207
 t127:=Tryz.underlying292
 a127:=Tryz.isAgg292
 z127:=Tryz.sizeOf292
 v127:=Tryz.zeroValue292
 t164:=Tryz.underlying356
 a164:=Tryz.isAgg356
 z164:=Tryz.sizeOf356
 v164:=Tryz.zeroValue356 }
def zDm:Go.Shelf.Ren:=⟨fun|32=>187|49=>255|n=>n,fun|30=>26|21=>21|3=>3|0=>0|5=>5|4=>4|33=>339|66=>434|25=>66|69=>437|68=>436|n=>n,fun|2=>3|3=>4|n=>n⟩
theorem runeL:Go.Proofs.Lays7.n32 Tryz.prog zDm:= {
 mixed:=by kernel_rfl
 f32:=Tryz.func187.trans (congrArg some (by kernel_rfl))
 f49:=Tryz.func255.trans (congrArg some (by kernel_rfl))
 t0:=Tryz.underlying0
 a0:=Tryz.isAgg0
 z0:=Tryz.sizeOf0
 v0:=Tryz.zeroValue0
 i0:=by kernel_rfl
 t3:=Tryz.underlying3
 a3:=Tryz.isAgg3
 z3:=Tryz.sizeOf3
 v3:=Tryz.zeroValue3
 i3:=by kernel_rfl
 t4:=Tryz.underlying4
 a4:=Tryz.isAgg4
 z4:=Tryz.sizeOf4
 v4:=Tryz.zeroValue4
 i4:=by kernel_rfl
 t5:=Tryz.underlying5
 a5:=Tryz.isAgg5
 z5:=Tryz.sizeOf5
 v5:=Tryz.zeroValue5
 i5:=by kernel_rfl
 t21:=Tryz.underlying21
 a21:=Tryz.isAgg21
 z21:=Tryz.sizeOf21
 v21:=Tryz.zeroValue21
 i21:=by kernel_rfl
 t25:=Tryz.underlying66
 a25:=Tryz.isAgg66
 z25:=Tryz.sizeOf66
 v25:=Tryz.zeroValue66
 i25:=by kernel_rfl
 t30:=Tryz.underlying26
 a30:=Tryz.isAgg26
 z30:=Tryz.sizeOf26
 v30:=Tryz.zeroValue26
 i30:=by kernel_rfl
 t33:=Tryz.underlying339
 a33:=Tryz.isAgg339
 z33:=Tryz.sizeOf339
 v33:=Tryz.zeroValue339
 i33:=by kernel_rfl
 t66:=Tryz.underlying434
 a66:=Tryz.isAgg434
 z66:=Tryz.sizeOf434
 t68:=Tryz.underlying436
 a68:=Tryz.isAgg436
 z68:=Tryz.sizeOf436
 v68:=Tryz.zeroValue436
 i68:=by kernel_rfl
 t69:=Tryz.underlying437
 a69:=Tryz.isAgg437
 z69:=Tryz.sizeOf437
 v69:=Tryz.zeroValue437
 i69:=by kernel_rfl
 g2:=by kernel_rfl
 g3:=by kernel_rfl }
theorem zJo(c:Nat)(n:Nat)(h1:128≤c)(h2:c≤1114111)(h3:Utf8.valid (c:Int)=true)(h:(c<2048∧n=2)∨(2048≤c∧c<65536∧n=3)∨(65536≤c∧n=4)):(Utf8.encode (c:Int)).size=n:=by
 unfold Utf8.encode;simp only[h3,if_true,Int.toNat_natCast];rcases h with⟨h,rfl⟩|⟨h,h',rfl⟩|⟨h,rfl⟩
 ·rw[if_neg (by omega),if_pos (by omega)];rfl
 ·rw[if_neg (by omega),if_neg (by omega),if_pos (by omega)];rfl
 ·rw[if_neg (by omega),if_neg (by omega),if_neg (by omega)];rfl
theorem dec_hi(s:ByteArray)(hs:0<s.size)(h0:128≤(s.get! 0).toNat):1≤(Utf8.decode s 0).2∧(Utf8.decode s 0).2≤s.size∧128≤(Utf8.decode s 0).1∧(Utf8.decode s 0).1≤1114111∧(∀k,k<(Utf8.decode s 0).2→128≤(s.get! k).toNat)∧((Utf8.decode s 0).1≠65533→2≤(Utf8.decode s 0).2∧(Utf8.encode ((Utf8.decode s 0).1:Int)).size=(Utf8.decode s 0).2):=by
 have hb:∀k,(s.get! k).toNat<256:=fun k=>(s.get! k).toNat_lt;have b0:=hb 0;have b1:=hb 1;have b2:=hb 2;have b3:=hb 3
 have E:1≤(Utf8.runeError,1).2∧(Utf8.runeError,1).2≤s.size∧128≤(Utf8.runeError,1).1∧(Utf8.runeError,1).1≤1114111∧(∀k,k<(Utf8.runeError,1).2→128≤(s.get! k).toNat)∧((Utf8.runeError,1).1≠65533→2≤(Utf8.runeError,1).2∧(Utf8.encode ((Utf8.runeError,1).1:Int)).size=(Utf8.runeError,1).2):=by
  refine⟨Nat.le_refl _,hs,by decide,by decide,fun k hk=> ?_,fun h=>absurd rfl h⟩;obtain rfl:k=0:=by simp only at hk;omega
  exact h0
 unfold Utf8.decode;simp only[Nat.zero_add];rw[if_neg (by omega)];split
 ·rename_i h
  simp only[Bool.and_eq_true,beq_iff_eq,decide_eq_true_eq]at h;split
  ·rename_i hc
   refine⟨by omega,by omega,by omega,by omega,fun k hk=> ?_,fun _=>⟨by omega,zJo _ _ (by omega) (by omega) (by unfold Utf8.valid;simp;omega) (.inl ⟨by omega,rfl⟩)⟩⟩;simp only at hk;rcases(show k=0∨k=1 by omega)with rfl|rfl<;>omega
  ·exact E
 split
 ·rename_i h
  simp only[Bool.and_eq_true,beq_iff_eq,decide_eq_true_eq]at h;split
  ·rename_i hc
   simp only[Bool.and_eq_true,decide_eq_true_eq,ge_iff_le]at hc;refine⟨by omega,by omega,by omega,by omega,fun k hk=> ?_,fun _=>⟨by omega,zJo _ _ (by omega) (by omega) hc.2 (.inr (.inl ⟨by omega,by omega,rfl⟩))⟩⟩;simp only at hk;rcases(show k=0∨k=1∨k=2 by omega)with rfl|rfl|rfl<;>omega
  ·exact E
 split
 ·rename_i h
  simp only[Bool.and_eq_true,beq_iff_eq,decide_eq_true_eq]at h;split
  ·rename_i hc
   simp only[Bool.and_eq_true,decide_eq_true_eq,ge_iff_le]at hc;have hv:=hc.2;unfold Utf8.valid at hv
   simp at hv
   refine⟨by omega,by omega,by omega,by omega,fun k hk=> ?_,fun _=>⟨by omega,zJo _ _ (by omega) (by omega) hc.2 (.inr (.inr ⟨by omega,rfl⟩))⟩⟩;simp only at hk;rcases(show k=0∨k=1∨k=2∨k=3 by omega)with rfl|rfl|rfl|rfl<;>omega
  ·exact E
 exact E
theorem enc_ne(c:Nat)(h:128≤c)(h2:c≤1114111):Utf8.encode (c:Int)≠⟨#[13,10]⟩:=by
 intro e
 have hs:(Utf8.encode (c:Int)).data=#[13,10]:=by rw[e]
 unfold Utf8.encode at hs;simp only at hs;generalize hc:(if Utf8.valid (c:Int)=true then(c:Int).toNat else Utf8.runeError)=d at hs;have hd:128≤d:=by rw[←hc];split<;>simp[Utf8.runeError]<;>omega
 rw[if_neg (by omega)]at hs;split at hs
 ·have h3:=congrArg (fun a:Array UInt8=>(a[0]?.getD 0).toNat) hs
  simp at h3
  omega
 ·split at hs<;>(have h3:=congrArg Array.size hs;simp at h3)
def TabR (w:World):Prop:=(∃m:Int,w.cell? ⟨1,0,none⟩=some (.int .i64 m))∧Lib.Utf8Tabs (zDm.g 2) (zDm.g 3) w
theorem TabR.below {A B:World} (h:TabR A)(b:Below A.heap.size A B):TabR B:=by
 have k:∀(q:Addr) (v:Value),A.cell? q=some v→B.cell? q=some v:=fun q v hv=>by
  have hq:q.block<A.heap.size:=by
   rcases Nat.lt_or_ge q.block A.heap.size with h|h
   ·exact h
   ·simp[World.cell?,Array.getElem?_eq_none h]at hv
  exact(b.cell hq).trans hv
 exact⟨h.1.elim fun m hm=>⟨m,k _ _ hm⟩,fun c hc=>k _ _ (h.2.1 c hc),fun i hi=>⟨k _ _ (h.2.2 i hi).1,k _ _ (h.2.2 i hi).2⟩⟩
theorem TabR.later {A B:World} (h:TabR A)(b:Later A B):TabR B:=h.below b
theorem rune_any(s:ByteArray)(b off cap:Nat)(w:World)(hT:TabR w)(hp:∀j,j<s.size→w.cell? ⟨b,off+j,none⟩=some (.int .u8 (s.get! j).toNat))(h0:0<s.size):
  Calls Tryz.prog 187 #[.slice (some ⟨b,off,none⟩) s.size cap] w fun e w'=>e= .returned (.tuple #[.int .i32 (Utf8.decode s 0).1,.int .i64 (Utf8.decode s 0).2])∧Below w.heap.size w w':=by
 have h:=Any7.utf8_DecodeRune runeL s b off cap w hT.2 hp;have e:Lib.decodeGo s=Utf8.decode s 0:=if_neg (by omega);rw[e]at h;exact h
theorem zP2(zs:List Int)(k:Nat)(h:(zs.take k).any zEc=false):∀n,k+n≤zs.length→(∀j,j<n→128≤zs[k+j]?.getD 0)→(zs.take (k+n)).any zEc=false
 |0,_,_=>h
 |n+1,hl,hb=>by
  have hlt:k+n<zs.length:=by omega
  rw[←Nat.add_assoc,List.take_succ_eq_append_getElem hlt,List.any_append,zP2 zs k h n (by omega) (fun j hj=>hb j (by omega))];have:=hb n (by omega);rw[List.getElem?_eq_getElem hlt]at this;simp only[Option.getD_some]at this;simp[zEc]
  omega
theorem zRs(b:List UInt8)(h:2<b.length):Lib.index [13,10] b= -1:=by
 refine Lib.index_none fun j _=> ?_;cases ho:Lib.occAt [13,10] b j with
 |false=>rfl
 |true=>
  rcases Lib.occAt_room ho with h'|h'
  ·simp at h';omega
  ·rw[h']at h;simp at h
theorem zVi(eb:ByteArray)(n:Nat)(h:eb.size=n)(h2:2<n):Lib.index (⟨#[13,10]⟩:ByteArray).data.toList eb.data.toList= -1:=zRs _ (by rw[Array.length_toList];show 2<eb.size;omega)
theorem zVj(eb:ByteArray)(n:Nat)(m:Int)(w:World)(hm:w.cell? ⟨1,0,none⟩=some (.int .i64 m))(h:eb.size=n)(h2:2<n)(hn:(n:Int)≤m):(Extern.BytealgIndex.index #[.string ⟨#[13,10]⟩,.string eb]).run Tryz.prog w= .ok (.int .i64 (-1)) w:=by
 have h3:=Lib.run_indexString (P:=Tryz.prog) ⟨#[13,10]⟩ eb w 1 m (by kernel_rfl) hm (by omega) (by omega) (by decide);rw[zVi eb n h h2]at h3;exact h3
theorem ixcr_nat:∀n:Nat,n<256→decide (0≤Lib.indexByte [13,10] n.toUInt8)=zEc (n:Int):=by decide+kernel
theorem ixcr(c:Int)(h:0≤c∧c≤255):decide (0≤Lib.indexByte [13,10] c.toNat.toUInt8)=zEc c:=by
 obtain⟨n,rfl⟩:∃n:Nat,c=(n:Int):=⟨c.toNat,by omega⟩;exact ixcr_nat n (by omega)
theorem zJp(sv:Value)(zs:List Int)(w:World)(hT:TabR w)(hB:Mt.By zs)(hI:Rd w.heap.size w sv zs)(h8:zs.length≤8)(h1:zs.length≠1):
  Calls Tryz.prog 135 #[sv,.string ⟨#[13,10]⟩] w fun e w'=>∃r:Int,e= .returned (.int .i64 r)∧decide (0≤r)=crl zs∧Below w.heap.size w w':=by
 obtain⟨av,cv,rfl,hlv,hmv⟩:=hI.slice;have t1:((zs.length:Int)==1)=false:=by simp;omega
 have t8:decide (8<(zs.length:Int))=false:=by simp;omega
 have HT:=zAd hT;clear hT;go_enter Tryz.func135,Tryz.ntmps135;go_upto_region 20 with fail;clear t1;go_wp2_with fail;refine(zIh _ w).mono ?_;rintro e w1 ⟨rfl,rfl⟩;go_wp2_with fail;clear t8;go_loopw [12] (fun iv wr=>∃k:Nat,k≤zs.length∧iv= .int .i64 (k:Int)∧(zs.take k).any zEc=false∧Later w1 wr) (fun iv _=>zs.length-(intOf iv).toNat)
 case atStart=>exact⟨0,by omega,rfl,rfl,Later.refl _⟩
 case round=>
  obtain⟨k,hk,rfl,hno,l1⟩:=hrel;by_cases hlt:k<zs.length
  ·have hlt':(k:Int)<zs.length:=by omega
   obtain⟨bb,off,cp,he,hl5,hl6,hl7,hcell⟩:=(hI.later l1).cells (by omega);obtain⟨rfl,rfl⟩:av=some ⟨bb,off,none⟩∧cv=cp:=by injection he with h1 h2 h3;exact⟨h1,h3⟩
   clear he;have hck:=hcell k hlt;have hzb:=Mt.By.at hB k;have HC:=zAd hcell;clear hcell
   have HTk:Hid ((zs.take (k+1)).any zEc=((zs.take k).any zEc||zEc (zs[k]?.getD 0))):=by
    show _=_
    rw[List.take_succ_eq_append_getElem hlt,List.any_append,List.getElem?_eq_getElem hlt];simp
   have HA:Hid (zEc (zs[k]?.getD 0)=true→crl zs=true):=fun h=>by
    unfold crl;rw[List.any_eq_true];refine⟨zs[k]?.getD 0,?_,h⟩;rw[List.getElem?_eq_getElem hlt];exact List.getElem_mem hlt
   have HNO:=zAd hno;clear hno;by_cases hasc:zs[k]?.getD 0<128
   ·generalize zs[k]?.getD 0=c at*
    have HX:Hid (decide (0≤Lib.indexByte [13,10] c.toNat.toUInt8)=zEc c):=ixcr c hzb;generalize hixe:Lib.indexByte [13,10] c.toNat.toUInt8=ix at*;have HIX:=zAd hixe;clear hixe;go_wp2_with fail;rw[run_callFunc_extern Tryz.func182 (by kernel_rfl) (by kernel_rfl) (by kernel_rfl) (e:=Extern.BytealgIndexByte.indexByte) (by kernel_rfl),Lib.run_indexByteString,HIX.out];simp only[Result.andThen];rw[Oper.upon_value];by_cases hx:0≤ix
    ·go_wp2_with fail
     go_ret
     exact⟨k,rfl,by rw[HA.out (by rw[←HX.out];simp[hx])];simp,l1⟩
    ·have HF:Hid (zEc c=false):=by show _=_;rw[←HX.out];simp;omega
     go_wp2_with fail;go_roundw
     case rel=>exact⟨k+1,hlt,by go_num,by rw[HTk.out,HNO.out,HF.out];rfl,l1⟩
     case measure=>simp[intOf];omega
   ·have hcv:¬cv=k:=by omega
    have hs:(strOfNums (zs.drop k)).size=zs.length-k:=by rw[strOfNums_size,List.length_drop]
    have hbd:Mt.By (zs.drop k):=fun z hz=>hB z (List.mem_of_mem_drop hz)
    have hat:∀j,j<zs.length-k→(((strOfNums (zs.drop k)).get! j).toNat:Int)=zs[k+j]?.getD 0:=fun j hj=>by
     have:=zFy (zs.drop k) hbd j (by simp;omega);rw[List.getElem?_drop]at this;exact this
    have HAT:=zAd hat;have HRU:=rune_any (strOfNums (zs.drop k)) bb (off+k) (cv-k) wr (HT.out.later l1) (fun j hj=>by rw[hs]at hj;rw[Nat.add_assoc,HC.out (k+j) (by omega),←hat j hj]) (by omega);have D:=dec_hi (strOfNums (zs.drop k)) (by omega) (by have:=hat 0 (by omega);simp only[Nat.add_zero]at this;omega);rw[hs]at HRU D;generalize strOfNums (zs.drop k)=s at*;clear hat hs hbd;generalize Utf8.decode s 0=dd at*;obtain⟨r,n⟩:=dd;obtain⟨d1,d2,d3,d4,d5,d6⟩:=D;simp only at d1 d2 d3 d4 d5 d6 HRU;have HM:Hid ((zs.take (k+n)).any zEc=false):=zP2 zs k HNO.out n (by omega) (fun j hj=>by rw[←HAT.out j (by omega)];have:=d5 j hj;omega);have HD6:=zAd d6;have HRU':=zAd HRU;clear d5 d6 HRU HAT HTk HA;generalize zs[k]?.getD 0=c at*;go_wp2_with fail;refine HRU'.out.mono ?_;rintro e w2 ⟨rfl,b2⟩;have l2:Later w1 w2:=l1.trans b2;clear HRU';have e13:((r:Int)==13)=false:=by simp;omega
    have e10:((r:Int)==10)=false:=by simp;omega
    obtain⟨m,hm⟩:=(HT.out.later l2).1;have HEN:=zAd (enc_ne r d3 d4)
    have hbq:(([13,10]:List UInt8)==(Utf8.encode (r:Int)).toList)=false:=by
     rw[beq_eq_false_iff_ne,ByteArray.toList_eq];intro h
     exact HEN.out (ByteArray.ext (Array.toList_inj.1 h.symm))
    have hcv2:∀W:World,(convert 21 9 (.int .i32 (r:Int))).run Tryz.prog W= .ok (.string (Utf8.encode (r:Int))) W:=fun W=>by kernel_rfl
    generalize Utf8.encode (r:Int)=eb at*;clear HEN;by_cases hr:r=65533
    ·have er:((r:Int) !=65533)=false:=by simp[hr]
     clear hr;go_wp2_with fail;go_loopw [] (fun wx=>∃pos:Nat,pos≤2∧wx=w2.iter ⟨#[13,10]⟩ pos) (fun wx=>2-wx.iterPos w2.heap.size)
     case atStart=>exact⟨0,by omega,rfl⟩
     case round=>
      obtain⟨pos,hp,rfl⟩:=hrel;have l3:Later w1 (w2.iter ⟨#[13,10]⟩ pos):=l2.trans (zBr _ _ _);rcases(show pos=0∨pos=1∨pos=2 by omega)with rfl|rfl|rfl
      ·have hnx:=run_next_any (P:=Tryz.prog) w2 ⟨#[13,10]⟩ 0 0 (by decide)
       rw[show Utf8.decode ⟨#[13,10]⟩ 0=(13,1)from by decide]at hnx;go_wp2_with fail;go_roundw
       case rel=>exact⟨1,by omega,rfl⟩
       case measure=>simp[World.iterPos_iter]
      ·have hnx:=run_next_any (P:=Tryz.prog) w2 ⟨#[13,10]⟩ 1 0 (by decide)
       rw[show Utf8.decode ⟨#[13,10]⟩ 1=(10,1)from by decide]at hnx;go_wp2_with fail;go_roundw
       case rel=>exact⟨2,by omega,rfl⟩
       case measure=>simp[World.iterPos_iter]
      ·have hnx:=run_next_end (P:=Tryz.prog) w2 ⟨#[13,10]⟩ 2 0 (by decide)
       go_wp2_with fail;go_roundw
       case rel=>exact⟨k+n,by omega,by push_cast;rfl,HM.out,l3⟩
       case measure=>simp[intOf];omega
    ·have er:((r:Int) !=65533)=true:=by simp;omega
     obtain⟨h2n,hen0⟩:=HD6.out hr;have hen:=zAd hen0;clear hen0;clear hr;by_cases hn2:n=2
     ·have en:((2:Int)==(n:Int))=true:=by simp;omega
      clear hn2;go_wp2_with fail;(go_roundw;(case rel=>exact⟨k+n,by omega,by push_cast;rfl,HM.out,by assumption⟩);(case measure=>simp[intOf];omega))
     ·have en:((2:Int)==(n:Int))=false:=by simp;omega
      by_cases hmn:(n:Int)≤m
      ·have HI:=zAd (zVj _ n m w2 hm hen.out (by omega) hmn)
       go_wp2_with fail;rw[run_callFunc_extern Tryz.func188 (by kernel_rfl) (by kernel_rfl) (by kernel_rfl) (e:=Extern.BytealgIndex.index) (by kernel_rfl),HI.out];simp only[Result.andThen];rw[Oper.upon_value];go_wp2_with fail;(go_roundw;(case rel=>exact⟨k+n,by omega,by push_cast;rfl,HM.out,by assumption⟩);(case measure=>simp[intOf];omega))
      ·go_wp2_with fail
       go_loopw [] (fun wx=>∃pos:Nat,pos≤2∧wx=w2.iter ⟨#[13,10]⟩ pos) (fun wx=>2-wx.iterPos w2.heap.size)
       case atStart=>exact⟨0,by omega,rfl⟩
       case round=>
        obtain⟨pos,hp,rfl⟩:=hrel;have l3:Later w1 (w2.iter ⟨#[13,10]⟩ pos):=l2.trans (zBr _ _ _);rcases(show pos=0∨pos=1∨pos=2 by omega)with rfl|rfl|rfl
        ·have hnx:=run_next_any (P:=Tryz.prog) w2 ⟨#[13,10]⟩ 0 0 (by decide)
         rw[show Utf8.decode ⟨#[13,10]⟩ 0=(13,1)from by decide]at hnx;go_wp2_with fail;go_roundw
         case rel=>exact⟨1,by omega,rfl⟩
         case measure=>simp[World.iterPos_iter]
        ·have hnx:=run_next_any (P:=Tryz.prog) w2 ⟨#[13,10]⟩ 1 0 (by decide)
         rw[show Utf8.decode ⟨#[13,10]⟩ 1=(10,1)from by decide]at hnx;go_wp2_with fail;go_roundw
         case rel=>exact⟨2,by omega,rfl⟩
         case measure=>simp[World.iterPos_iter]
        ·have hnx:=run_next_end (P:=Tryz.prog) w2 ⟨#[13,10]⟩ 2 0 (by decide)
         go_wp2_with fail;go_roundw
         case rel=>exact⟨k+n,by omega,by push_cast;rfl,HM.out,l3⟩
         case measure=>simp[intOf];omega
  ·obtain rfl:k=zs.length:=by omega
   rw[List.take_length]at hno;go_wp2_with fail;go_ret
   exact⟨-1,rfl,by unfold crl;rw[hno];rfl,l1⟩
theorem take_nil(rb:Nat)(t:ByteArray)(r:Rr)(w:World)(h:RB w rb (.slice none 0 0) r)(h0:r.at0=0)(ht:0<t.size∧t.size≤1000):
  Calls Tryz.prog 33 #[.pointer (some ⟨rb,0,none⟩),.string t] w fun e w'=>e= .returned (.bool false)∧Later w w':=by
 have HB:=zAd h;have k0:=zAa h;unfold rrc at k0;rw[h0]at k0;have H0:=zAd h0;clear h0;have g2:(t.size:Int)≤1000:=by omega
 have hf1:(0:Int)<(t.size:Int):=by omega
 clear h;go_enter Tryz.func33,Tryz.ntmps33;go_upto_region 2 with fail;clear k0;refine zAn Later.pre Later.drew 23 rfl (by kernel_rfl) ?_;intro Wd hWd
 have hac:∀v1,Later Wd v1→∀j,v1.cell? ⟨rb,j,none⟩=#[Value.slice none 0 0,.int .i64 (r.at0:Int),.int .i64 r.kd,.int .i64 r.st,.int .i64 r.en,.int .u32 r.ad,.int .u16 r.pt][j]? :=fun v1 hv=>zAa (RB.later HB.out (hWd.trans hv));refine rX Later.pre 0 ?_;refine rX Later.pre 1 ?_;refine rX Later.pre 2 ?_;refine rX Later.pre 3 ?_;refine rX Later.pre 4 ?_;refine rX Later.pre 5 ?_;refine rX Later.pre 6 ?_;refine rX Later.pre 7 ?_;refine zAm Later.pre 8 rfl (by kernel_rfl) (by kernel_rfl) (by kernel_rfl) (fun _ _ _ _ h=>h) (by rfl) ?_;simp only[Act.put,sA,sB,sC];refine zAm Later.pre 9 rfl (by kernel_rfl) (by kernel_rfl) (by kernel_rfl) (fun _ _ _ _ h=>h) (by rfl) ?_;simp only[Act.put,sA,sB,sC];refine zAm Later.pre 10 rfl (by kernel_rfl) (by kernel_rfl) (by kernel_rfl) (fun _ _ _ _ h=>h) (by rfl) ?_;simp only[Act.put,sA,sB,sC];refine zAm Later.pre 11 rfl (by kernel_rfl) (by kernel_rfl) (by kernel_rfl) (fun _ _ _ _ h=>h) (by rfl) ?_;simp only[Act.put,sA,sB,sC];refine zAm Later.pre 12 rfl (by kernel_rfl) (by kernel_rfl) (by kernel_rfl) (fun _ _ _ _ h=>h) (by rfl) ?_;simp only[Act.put,sA,sB,sC];refine zAm Later.pre 13 rfl (by kernel_rfl) (by kernel_rfl) (by kernel_rfl) (fun _ _ _ _ h=>h) (by rfl) ?_;simp only[Act.put,sA,sB,sC];refine zAm Later.pre 14 rfl (by kernel_rfl) (by kernel_rfl) (by kernel_rfl) (fun _ _ _ _ h=>h) (by rfl) ?_;simp only[Act.put,sA,sB,sC]
 refine zAm Later.pre 15 rfl (by kernel_rfl) (by kernel_rfl) (by kernel_rfl) (fun _ _ _ _ h=>h) (by rfl) ?_;simp only[Act.put,sA,sB,sC];refine zAm Later.pre 16 rfl (by kernel_rfl) (by kernel_rfl) (by kernel_rfl) (fun _ _ _ _ h=>h) (by rfl) ?_;simp only[Act.put,sA,sB,sC];refine zAm Later.pre 17 rfl (by kernel_rfl) (by kernel_rfl) (by kernel_rfl) (fun _ _ _ _ h=>h) (by rfl) ?_;simp only[Act.put,sA,sB,sC];refine zAm Later.pre 18 rfl (by kernel_rfl) (by kernel_rfl) (by kernel_rfl) (fun _ _ _ _ h=>h) (by rfl) ?_;simp only[Act.put,sA,sB,sC];refine zAm Later.pre 19 rfl (by kernel_rfl) (by kernel_rfl) (by kernel_rfl) (fun _ _ _ _ h=>h) (by rfl) ?_;simp only[Act.put,sA,sB,sC];refine zAm Later.pre 20 rfl (by kernel_rfl) (by kernel_rfl) (by kernel_rfl) (fun _ _ _ _ h=>h) (by rfl) ?_;simp only[Act.put,sA,sB,sC];refine zAm Later.pre 21 rfl (by kernel_rfl) (by kernel_rfl) (by kernel_rfl) (fun _ _ _ _ h=>h) (by rfl) ?_;simp only[Act.put,sA,sB,sC];refine rX Later.pre 22 ?_;refine rD (fun VD hVD=> ?_);go_wp2_with fail;go_ret
 exact⟨rfl,hWd.trans hVD⟩
theorem kind_nil(rb:Nat)(back:Bool)(r:Rr)(w:World)(h:RB w rb (.slice none 0 0) r)(h0:r.at0=0):
  Calls Tryz.prog 28 #[.pointer (some ⟨rb,0,none⟩),.bool back] w fun e w'=>e= .returned (.int .i64 0)∧Later w w':=by
 have HTK:=zAd (fun(t:ByteArray) (ht:0<t.size∧t.size≤1000) (W:World) (l:Later w W)=>take_nil rb t r W (h.later l) h0 ht);clear h h0;cases back with
 |false=>
  go_enter Tryz.func28,Tryz.ntmps28;go_wp2_with fail;refine(HTK.out ⟨#[80,79,82,84,32]⟩ (by decide) w (Below.refl _ _)).mono ?_;rintro e w1 ⟨rfl,l1⟩;go_wp2_with fail;refine(HTK.out ⟨#[69,80,82,84,32]⟩ (by decide) w1 l1).mono ?_;rintro e w2 ⟨rfl,l2⟩;go_wp2_with fail;go_ret
  exact⟨rfl,l1.trans l2⟩
 |true=>
  go_enter Tryz.func28,Tryz.ntmps28;go_wp2_with fail;refine(HTK.out ⟨#[50,50,55,32]⟩ (by decide) w (Below.refl _ _)).mono ?_;rintro e w1 ⟨rfl,l1⟩;go_wp2_with fail;refine(HTK.out ⟨#[50,50,57,32]⟩ (by decide) w1 l1).mono ?_;rintro e w2 ⟨rfl,l2⟩;go_wp2_with fail;go_ret
  exact⟨rfl,l1.trans l2⟩
theorem grow_pos(n:Nat)(w:World)(h0:0<n)(hn:n≤140737488355328):
  Calls Tryz.prog 310 #[.slice none 0 0,.int .i64 n] w fun e w'=>∃v,e= .returned v∧w'.ownsRow w.heap.size 5 1 v 0 []∧Below w.heap.size w w':=by
 obtain⟨i0,hi,hz0,hz1,hz2⟩:=info_parts zBt;have hcap:=grownCap_le_maxLen w n 0 5 (by unfold maxLen;omega);have hcap0:=grownCap_ge w n 0 5;have hr:=Lib.run_append_nil_zeros (P:=Tryz.prog) w 26 3 26 5 i0 (.int .u8 0) .i64 .i64 Tryz.underlying26 Tryz.underlying3 hi hz0 n h0 (by omega) (by omega) (by rw[hz2];omega)
 have hsz:(Builtin.zeroCells (Value.int .u8 0).cells n++Builtin.zeroCells (Value.int .u8 0).cells (grownCap w n 0 5-n)).size=grownCap w n 0 5*1:=by
  simp[Builtin.zeroCells,Value.cells]
  omega
 have ho:=World.ownsRow_made (base:=w.heap.size) (e:=5) (size:=1) w.drew (Builtin.zeroCells (Value.int .u8 0).cells n++Builtin.zeroCells (Value.int .u8 0).cells (grownCap w n 0 5-n)) (grownCap w n 0 5) (Nat.le_refl _) hcap hsz;have hb:Below w.heap.size w (w.drew.alloc (.cells (Builtin.zeroCells (Value.int .u8 0).cells n++Builtin.zeroCells (Value.int .u8 0).cells (grownCap w n 0 5-n)) 5)):=(Below.refl _ _).drew.alloc (Nat.le_refl _) _;have HO:=zAd ho;have HB:=zAd hb;clear ho hb hsz;generalize w.drew.alloc (.cells (Builtin.zeroCells (Value.int .u8 0).cells n++Builtin.zeroCells (Value.int .u8 0).cells (grownCap w n 0 5-n)) 5)=w1 at*;generalize grownCap w n 0 5=cp at*;have hcp:cp≤9223372036854775807:=hcap;clear hcap;go_enter Tryz.func310,Tryz.ntmps310;go_wp2_with (at_builtin;refine Lib.wpList_append_run _ rfl (.tmp 20) (.tmp 21) _ _ rfl (.slice none 0 0) (.int .i64 n) rfl rfl _ _ hr ?_;clear hr)
 go_ret
 exact⟨_,rfl,HO.out,HB.out⟩
theorem grow_any(n:Nat)(w:World)(hn:n≤140737488355328):
  Calls Tryz.prog 310 #[.slice none 0 0,.int .i64 n] w fun e w'=>∃v,e= .returned v∧w'.ownsRow w.heap.size 5 1 v 0 []∧Below w.heap.size w w':=by
 by_cases h0:0<n
 ·exact grow_pos n w h0 hn
 obtain rfl:n=0:=by omega
 go_enter Tryz.func310,Tryz.ntmps310;go_wp2_with fail;go_ret
 exact⟨_,rfl,World.ownsRow_nil _ _ _ _,Below.refl _ _⟩
theorem zRt(pb cap:Nat)(svs:List Value)(zss:List (List Int))(w:World)(hn:svs.length=zss.length)(hcap:svs.length≤cap)(hk:svs.length≤1000)(hl:zss.flatten.length≤140737488355328)
  (hc:∀j,j<svs.length→w.cell? ⟨pb,j,none⟩=some (svs[j]?.getD undef))(hR:∀j,j<svs.length→Rd w.heap.size w (svs[j]?.getD undef) (zss[j]?.getD [])):
  Calls Tryz.prog 278 #[.slice (some ⟨pb,0,none⟩) svs.length cap] w fun e w'=>∃v,e= .returned v∧w'.ownsRow w.heap.size 5 1 v zss.flatten.length (zss.flatten.map (Value.int .u8))∧Below w.heap.size w w':=by
 obtain⟨i0,hi,hz0,hz1,hz2⟩:=info_parts zBt;have HN:=zAd hn;clear hn
 have HFL:=zAd (fun k (hlt:k<svs.length)=>show(zss.take (k+1)).flatten=(zss.take k).flatten++(zss[k]?.getD [])∧(zss.take (k+1)).flatten.length≤zss.flatten.length from by
  have hkz:k<zss.length:=by have:=HN.out;omega
  have e1:zss.take (k+1)=zss.take k++[zss[k]?.getD []]:=by
   rw[List.take_succ_eq_append_getElem hkz,List.getElem?_eq_getElem hkz];rfl
  refine⟨by rw[e1,List.flatten_append,List.flatten_cons,List.flatten_nil,List.append_nil],?_⟩;conv=>rhs;rw[←List.take_append_drop (k+1) zss,List.flatten_append]
  simp)
 go_enter Tryz.func278,Tryz.ntmps278;go_wp2
 go_loopw [3,11] (fun v i wr=>∃k:Nat,k≤svs.length∧i= .int .i64 (k:Int)∧v= .int .i64 ((zss.take k).flatten.length:Nat)∧wr=w)
  (fun _ i _=>svs.length-(intOf i).toNat)
 case atStart=>exact⟨0,by omega,rfl,rfl,rfl⟩
 case round=>
  obtain⟨k,hk1,rfl,rfl,rfl⟩:=hrel;by_cases hlt:k<svs.length
  ·have hcx:=hc k hlt
   have hRx:=hR k hlt;obtain⟨hfl,hle⟩:=HFL.out k hlt;have hlen:(zss.take k).flatten.length+(zss[k]?.getD []).length≤140737488355328:=by rw[←List.length_append,←hfl];omega
   have HF:Hid ((zss.take (k+1)).flatten.length=(zss.take k).flatten.length+(zss[k]?.getD []).length):=by show _=_;rw[hfl,List.length_append]
   clear hfl hle hc hR;generalize svs[k]?.getD undef=sv at*;generalize zss[k]?.getD []=zs at*;generalize (zss.take k).flatten.length=sz at*;obtain⟨a,cp,rfl,hl1,hm1⟩:=hRx.slice;have hlt':(k:Int)<svs.length:=by omega
   go_wp2_with fail;go_roundw
   case rel=>exact⟨k+1,by omega,by go_num,by rw[HF.out];go_num,trivial⟩
   case measure=>simp[intOf];omega
  ·obtain rfl:k=svs.length:=by omega
   obtain⟨w0,hw0⟩:∃x,x=wr:=⟨_,rfl⟩;subst hw0;rw[HN.out,List.take_length];rw[HN.out]at hc hR;have hgr:=zAd (grow_any zss.flatten.length w0 hl);have HL:=zAd hl;clear hl;generalize hnn:zss.flatten.length=nn at hgr HL⊢;have HQ:=zAd hnn;clear hnn;go_upto_region 9 with fail;go_wp2_with fail;refine hgr.out.mono ?_;rintro e w1 ⟨nv,rfl,hown1,hb1⟩;go_wp2_with fail
   go_loopw [6,27] (fun v i wq=>∃k:Nat,k≤zss.length∧i= .int .i64 (k:Int)∧wq.ownsRow w0.heap.size 5 1 v (zss.take k).flatten.length ((zss.take k).flatten.map (Value.int .u8))∧Below w0.heap.size w0 wq)
    (fun _ i _=>zss.length-(intOf i).toNat)
   case atStart=>exact⟨0,by omega,rfl,hown1,hb1⟩
   case round=>
    obtain⟨k,hk1,rfl,hown,hnx⟩:=hrel;by_cases hlt:k<zss.length
    ·have hck:=hc k hlt
     have hpb:pb<w0.heap.size:=World.block_lt_of_cell? w0 ⟨pb,k,none⟩ hck;have hcx:wr.cell? ⟨pb,k,none⟩=some (svs[k]?.getD undef):=(hnx.cell (p:=⟨pb,k,none⟩) hpb).trans hck;have hRx:Rd w0.heap.size wr (svs[k]?.getD undef) (zss[k]?.getD []):=(hR k hlt).below hnx;obtain⟨hfl,hle⟩:=HFL.out k (by rw[HN.out];exact hlt);have HF:=zAd hfl;have hlen:(zss.take k).flatten.length+(zss[k]?.getD []).length≤140737488355328:=by rw[←List.length_append,←hfl];exact Nat.le_trans hle (by rw[HQ.out];exact HL.out)
     clear hfl hle hc hR hck;generalize svs[k]?.getD undef=sv at*;generalize zss[k]?.getD []=zs at*;obtain⟨a,cp,rfl,hl1,hm1⟩:=hRx.slice;have hlt':(k:Int)<zss.length:=by omega
     have hk':zss.length≤1000:=by rw[←HN.out];exact hk
     have HL1:=zAd (show k+1≤zss.length from hlt);go_wp2_with (at_builtin;refine zE1 _ rfl (.tmp 31) (.tmp 32) 26 rfl w0.heap.size 5 i0 Tryz.underlying26 hi hz0 hz1 hz2 _ _ rfl hown w0.heap.size _ zs rfl hRx hlen hnx.size ?_;intro v1 w1 hown1 hg1;have hb1:=zEh hnx hown hg1 (Nat.le_refl _) hnx.size;clear hg1 hown)
     go_roundw
     case rel=>exact⟨k+1,HL1.out,by go_num,by rw[HF.out];exact hown1,hb1⟩
     case measure=>have:=HL1.out;simp[intOf];omega
    ·obtain rfl:k=zss.length:=by omega
     rw[List.take_length]at hown;go_wp2_with fail;go_ret
     exact⟨_,rfl,hown,hnx⟩
def rpl (st en:Int) (zs ts:List Int):List Int:=if st<0∨st>en∨en>zs.length then zs else zs.take st.toNat++(ts++zs.drop en.toNat)
theorem zAt(w:World)(o:Obj):Later w (w.alloc o):=bA _ _
theorem zG2(k st en ad po:Int)(sv tv:Value)(zs ts:List Int)(w:World)(hI:Rd w.heap.size w sv zs)(hJ:Rd w.heap.size w tv ts)(hl:zs.length+ts.length≤140737488355328)
  (hs: -9223372036854775808≤st∧st≤9223372036854775807)(he: -9223372036854775808≤en∧en≤9223372036854775807):
  Calls Tryz.prog 364 #[sv,.agg #[.int .i64 k,.int .i64 st,.int .i64 en,.int .u32 ad,.int .u16 po],tv] w fun e w'=>∃x c,e= .returned (.slice x (rpl st en zs ts).length c)∧Ow w.heap.size w' (.slice x (rpl st en zs ts).length c) (rpl st en zs ts)∧Below w.heap.size w w':=by
 obtain⟨av,cv,rfl,hlv,hmv⟩:=hI.slice;obtain⟨at',ct,rfl,hlt,hmt⟩:=hJ.slice;have l1:=zAt w (.cells #[.int .i64 k,.int .i64 st,.int .i64 en,.int .u32 ad,.int .u16 po] 44);have F1:=zAd (heap_alloc_new w (.cells #[.int .i64 k,.int .i64 st,.int .i64 en,.int .u32 ad,.int .u16 po] 44));go_enter Tryz.func364,Tryz.ntmps364;go_upto_region 1 with fail;generalize w.alloc (.cells #[.int .i64 k,.int .i64 st,.int .i64 en,.int .u32 ad,.int .u16 po] 44)=w1 at*;have hI1:=hI.later l1;have hJ1:=hJ.later l1;have kF:=zAa F1.out;by_cases hbad:st<0∨st>en∨en>zs.length
 ·have HR:Hid (rpl st en zs ts=zs):=by show _=_;unfold rpl;rw[if_pos hbad]
  have HC:=zAd (zAx _ zs w1 (by omega) hI1)
  have fin:∀(e:Ending) (w':World),(∃a8 c8,e= .returned (.slice a8 zs.length c8)∧Ow w1.heap.size w' (.slice a8 zs.length c8) zs∧Below w1.heap.size w1 w')→∃x c,e= .returned (.slice x (rpl st en zs ts).length c)∧Ow w.heap.size w' (.slice x (rpl st en zs ts).length c) (rpl st en zs ts)∧Below w.heap.size w w':=by
   rintro e w' ⟨a8,c8,rfl,hO,hb⟩;rw[HR.out];exact⟨a8,c8,rfl,hO.mono l1.size,l1.trans hb⟩
  by_cases c1:st<0
  ·have t1:decide (st<0)=true:=by simp[c1]
   go_wp2_with fail;refine HC.out.mono ?_;rintro e w2 ⟨a8,c8,rfl,hO,hb⟩;go_wp2_with fail;go_ret
   exact fin _ _ ⟨a8,c8,rfl,hO,hb⟩
  have t1:decide (st<0)=false:=by simp[c1]
  by_cases c2:st>en
  ·have t2:decide (en<st)=true:=by simp[c2]
   go_wp2_with fail;refine HC.out.mono ?_;rintro e w2 ⟨a8,c8,rfl,hO,hb⟩;go_wp2_with fail;go_ret
   exact fin _ _ ⟨a8,c8,rfl,hO,hb⟩
  have t2:decide (en<st)=false:=by simp[c2]
  have c3:(zs.length:Int)<en:=by omega
  have t3:decide ((zs.length:Int)<en)=true:=by simp[c3]
  go_wp2_with fail;refine HC.out.mono ?_;rintro e w2 ⟨a8,c8,rfl,hO,hb⟩;go_wp2_with fail;go_ret
  exact fin _ _ ⟨a8,c8,rfl,hO,hb⟩
 ·have HR:Hid (rpl st en zs ts=zs.take st.toNat++(ts++zs.drop en.toNat)):=by show _=_;unfold rpl;rw[if_neg hbad]
  obtain⟨n,rfl⟩:∃n:Nat,st=(n:Int):=⟨st.toNat,by omega⟩;obtain⟨m,rfl⟩:∃m:Nat,en=(m:Int):=⟨en.toNat,by omega⟩;have hnm:n≤m:=by omega
  have hmz:m≤zs.length:=by omega
  rw[Int.toNat_natCast,Int.toNat_natCast]at HR;have t1:decide ((n:Int)<0)=false:=by simp
  have t2:decide ((m:Int)<n)=false:=by simp;omega
  have t3:decide ((zs.length:Int)<m)=false:=by simp;omega
  have hrl:(rpl n m zs ts).length≤140737488355328:=by rw[HR.out,List.length_append,List.length_append,List.length_take,List.length_drop];omega
  generalize hrz:rpl n m zs ts=rz at*;have ER:=zAd hrz;clear hrz;clear hbad hs he;go_upto_region 3 with fail;clear t1 t2 t3 kF;refine zAl (R:=Later) 12 rfl (by kernel_rfl) ?_;have hdr:Later w1 w1.drew:=Later.drew w1;have F2:=zAd ((hdr.block w.heap.size (eS F1.out)).trans F1.out);have hI2:=hI1.later hdr;have hJ2:=hJ1.later hdr;have L2:=l1.trans hdr;generalize w1.drew=w2 at*;clear hI1 hJ1 hdr F1 l1;have qF:∀v1,Later w2 v1→∀i,v1.cell? ⟨w.heap.size,i,none⟩=#[Value.int .i64 k,.int .i64 n,.int .i64 m,.int .u32 ad,.int .u16 po][i]? :=fun v1 h=>zAa ((h.block w.heap.size (eS F2.out)).trans F2.out);have hnc:n≤cv:=by omega
  refine tX Later.pre 0 ?_;refine tX Later.pre 1 ?_;refine tX Later.pre 2 ?_;refine tX Later.pre 3 ?_;refine tX Later.pre 4 ?_;refine tX Later.pre 5 ?_;refine tX Later.pre 6 ?_;refine tX Later.pre 7 ?_;refine tX Later.pre 8 ?_;clear qF;have R9:=zAd (show Rd w2.heap.size w2 (.slice (if cv=m then av else Option.map (fun x=>x.add m) av) (zs.length-m) (cv-m)) (zs.drop m)from by simpa[sliced]using Rd.drop m hmz hI2);have R8:=zAd (hI2.take n (by omega));have R7:=zAd hJ2;generalize (if cv=m then av else Option.map (fun x=>x.add m) av)=a9 at*;generalize zs.length-m=n9 at*;generalize cv-m=c9 at*;refine tO 9 ?_;unfold Oper.wp;go_simp;have l3:=zAt w2 (.cells #[.slice av n cv,.slice at' ts.length ct,.slice a9 n9 c9] 26);have B3:=heap_alloc_new w2 (.cells #[.slice av n cv,.slice at' ts.length ct,.slice a9 n9 c9] 26);refine⟨l3,?_⟩;generalize w2.alloc (.cells #[.slice av n cv,.slice at' ts.length ct,.slice a9 n9 c9] 26)=w3 at*;have C3:=zAa B3;have hfl:([zs.take n,ts,zs.drop m]:List (List Int)).flatten=rz:=by rw[HR.out];simp
  have H4:=zRt w2.heap.size 3 [.slice av n cv,.slice at' ts.length ct,.slice a9 n9 c9] [zs.take n,ts,zs.drop m] w3 rfl (by simp) (by simp) (by rw[hfl];exact hrl)
   (fun j hj=>by
    have hj3:j<3:=hj;have:j=0∨j=1∨j=2:=by omega
    rcases this with rfl|rfl|rfl<;>exact C3 _)
   (fun j hj=>by
    have hj3:j<3:=hj;have:j=0∨j=1∨j=2:=by omega
    rcases this with rfl|rfl|rfl
    ·exact R8.out.later l3
    ·exact R7.out.later l3
    ·exact R9.out.later l3)
  rw[hfl]at H4;have HL4:=zAd H4;clear H4 C3 B3 hfl;generalize w2.heap.size=gb at*;refine tO 10 ?_;refine zAj 278 #[.slice (some ⟨gb,0,none⟩) 3 3] (by go_simp) (HL4.out.mono ?_);rintro e w4 ⟨v4,rfl,hown,b4⟩;have l4:Later w3 w4:=b4;have O4:=zAd (Ow.of_row hown);clear hown;refine⟨l4,?_⟩;simp only[Act.put,sA,sB,sC];refine tX Later.pre 11 ?_;refine tD ?_;obtain⟨x,c,rfl,_,_⟩:=O4.out.slice;go_wp2_with fail;go_ret
  have L3:=L2.trans l3;rw[ER.out];exact⟨x,c,rfl,O4.out.mono L3.size,L3.trans l4⟩
def GU (rb:Nat) (w:World) (a':Act) (W:World):Prop:=∃u0 u1 u2 u3 u5 u6 u7 u8 u9 u10 u11 u12 u13 u14 u15 u16 u17 u18 u19 u20 u21 u22 u23 u24 u25 u26 u27 u28 u29 u30 u31 u32 u33 u34 u35 u36 u37 u38 u39 u40 u41 u42 u43 u44 u45 u46 u47 u48 u49 u50 u51 u52 u53 u54 u55 u56 u57 u58 u59 u60 u61 u62 u63 u64 u65 u66 u67 u68 u69 u70 u71:Value,a'= { tmps:=#[u0,u1,u2,u3,.pointer (some ⟨rb,0,none⟩),u5,u6,u7,u8,u9,u10,u11,u12,u13,u14,u15,u16,u17,u18,u19,u20,u21,u22,u23,u24,u25,u26,u27,u28,u29,u30,u31,u32,u33,u34,u35,u36,u37,u38,u39,u40,u41,u42,u43,u44,u45,u46,u47,u48,u49,u50,u51,u52,u53,u54,u55,u56,u57,u58,u59,u60,u61,u62,u63,u64,u65,u66,u67,u68,u69,u70,u71],defers:=[] } ∧W.heap[rb]? =some (.cells #[.int .i64 0,.int .i64 0,.int .i64 0,.int .u32 0,.int .u16 0] 44 (0,0))∧Below w.heap.size w W∧w.heap.size≤rb
theorem zLj(sv:Value)(back:Bool)(w:World)(HL:∀W,Later w W→Calls Tryz.prog 27 #[sv] W fun e w'=>e= .returned (.slice none 0 0)∧Later W w'):
  Calls Tryz.prog 10 #[sv,.bool back] w fun e w'=>e= .returned (.tuple #[.agg #[.int .i64 0,.int .i64 0,.int .i64 0,.int .u32 0,.int .u16 0],.bool false])∧Below w.heap.size w w':=by
 have HL':=zAd HL;clear HL;go_enter Tryz.func10,Tryz.ntmps10;go_wp2
 refine wp_scope_jumps 0 (GU w.heap.size w) (fun _ _=>0) rfl ?_ ?_
 ·have l1:Later w (w.alloc (.cells #[.int .i64 0,.int .i64 0,.int .i64 0,.int .u32 0,.int .u16 0] 44)):=zAt _ _
  have R1:=zAd (heap_alloc_new w (.cells #[.int .i64 0,.int .i64 0,.int .i64 0,.int .u32 0,.int .u16 0] 44));go_wp2_with fail;refine(HL'.out _ l1).mono ?_;rintro e w2 ⟨rfl,l2⟩;have R2:=zAd ((l2.block w.heap.size (eS R1.out)).trans R1.out);have B3:=zAd (show RB (w2.alloc (.cells (rrc (.slice none 0 0) ⟨0,0,0,0,0,0⟩) 80)) w2.heap.size (.slice none 0 0) ⟨0,0,0,0,0,0⟩from heap_alloc_new w2 _);have l3:=zAt w2 (.cells (rrc (.slice none 0 0) ⟨0,0,0,0,0,0⟩) 80);have L2:=l1.trans l2;have hlt:w.heap.size<w2.heap.size:=Nat.lt_of_lt_of_le (eS R1.out) l2.size;go_upto_region 2 with fail;rw[show (w2.alloc (.cells (rrc (.slice none 0 0) ⟨0,0,0,0,0,0⟩) 80))=w2.alloc (.cells #[.slice none 0 0,.int .i64 0,.int .i64 0,.int .i64 0,.int .i64 0,.int .u32 0,.int .u16 0] 80)from rfl]at B3 l3;generalize w2.alloc _=w3 at*;generalize w2.heap.size=rb at*;have HK:=zAd (kind_nil rb back _ w3 B3.out rfl);go_wp2_with fail;refine HK.out.mono ?_;rintro e w4 ⟨rfl,l4⟩;have B4:=zAd (B3.out.later l4);have R4:=zAd (((l3.trans l4).block w.heap.size (eS R2.out)).trans R2.out);have L4:Below w.heap.size w w4:=L2.trans (l3.trans l4);have hlt4:rb<w4.heap.size:=(eS B4.out);have kB:=zAa B4.out;have fB:=zAc B4.out;unfold rrc at kB;have B5:=zAd (zAh B4.out 2 (.int .i64 0));have b5:But (fun q=>q=rb) w4 (w4.setCell ⟨rb,2,none⟩ (.int .i64 0)):=But.setCell (E:=fun q=>q=rb) (But.refl _ _) (p:=⟨rb,2,none⟩) rfl _;go_upto_region 3 with fail;generalize w4.setCell ⟨rb,2,none⟩ _=w5 at*;clear kB fB
  have B5':w5.heap[rb]? =some (.cells #[.slice none 0 0,.int .i64 0,.int .i64 0,.int .i64 0,.int .i64 0,.int .u32 0,.int .u16 0] 80 (0,0)):=by have:=B5.out;simp[rrc]at this;exact this
  have kB:=zAa B5';have R5:=zAd ((b5.block w.heap.size (by omega) (by omega)).trans R4.out);have L5:Below w.heap.size w w5:=L4.trans (b5.below L4.size (fun k hk e=>by omega));go_wp2_with fail;go_step3
  exact⟨rfl,_,_,_,_,_,_,_,_,_,_,_,_,_,_,_,_,_,_,_,_,_,_,_,_,_,_,_,_,_,_,_,_,_,_,_,_,_,_,_,_,_,_,_,_,_,_,_,_,_,_,_,_,_,_,_,_,_,_,_,_,_,_,_,_,_,_,_,_,_,_,_,rfl,R5.out,L5,Nat.le_refl _⟩
 ·rintro a' W ⟨u0,u1,u2,u3,u5,u6,u7,u8,u9,u10,u11,u12,u13,u14,u15,u16,u17,u18,u19,u20,u21,u22,u23,u24,u25,u26,u27,u28,u29,u30,u31,u32,u33,u34,u35,u36,u37,u38,u39,u40,u41,u42,u43,u44,u45,u46,u47,u48,u49,u50,u51,u52,u53,u54,u55,u56,u57,u58,u59,u60,u61,u62,u63,u64,u65,u66,u67,u68,u69,u70,u71,rfl,hR,hb,hle⟩
  have kR:=zAa hR;have fR:=zAc hR;have HR:=zAd hR;clear hR;go_wp2
  simp only[Exit.jump];generalize hV:World.setCell _ ⟨w.heap.size,4,none⟩ _=V8;have hV9:V8=zAi W w.heap.size 0 [.int .i64 0,.int .i64 0,.int .i64 0,.int .u32 0,.int .u16 0]:=hV.symm;have hb8:But (fun b=>b=w.heap.size) W V8:=by rw[hV9];exact zAf (E:=fun b=>b=w.heap.size) (n:=w.heap.size) rfl _ _ _ _ (But.refl _ _)
  have p8:=zAe [.int .i64 0,.int .i64 0,.int .i64 0,.int .u32 0,.int .u16 0] HR.out rfl;rw[←hV9]at p8;clear hV hV9 kR fR;have P8:=zAa p8;have hw8:Below w.heap.size w V8:=hb.trans (hb8.below hb.size (fun k h e=>by omega));exact bodyPost_ret (v:= .tuple #[.agg #[.int .i64 0,.int .i64 0,.int .i64 0,.int .u32 0,.int .u16 0],.bool false]) (by simp[results,Tryz.results10,go_sem,P8]) rfl ⟨rfl,hw8⟩
theorem zNj(sv:Value)(zs:List Int)(w:World)(hB:Mt.By zs)(hI:Rd w.heap.size w sv zs)(h1:zs.length=1):
  Calls Tryz.prog 135 #[sv,.string ⟨#[13,10]⟩] w fun e w'=>∃r:Int,e= .returned (.int .i64 r)∧decide (0≤r)=crl zs∧Below w.heap.size w w':=by
 obtain⟨c,rfl⟩:∃c,zs=[c]:=by
  match zs,h1 with
  | [c],_=>exact⟨c,rfl⟩
 obtain⟨bb,off,cp,rfl,hl5,hl6,hl7,hcell⟩:=hI.cells (by simp);have hck:w.cell? ⟨bb,off,none⟩=some (.int .u8 c):=hcell 0 (by simp);have hzb:0≤c∧c≤255:=hB c (by simp);have HCR:Hid (crl [c]=zEc c):=by show _=_;unfold crl;simp
 generalize crl [c]=cc at*;simp only[List.length_singleton]at*;clear hcell hI h1;go_enter Tryz.func135,Tryz.ntmps135;by_cases hasc:c<128
 ·have HX:Hid (decide (0≤Lib.indexByte [13,10] c.toNat.toUInt8)=zEc c):=ixcr c hzb
  generalize hixe:Lib.indexByte [13,10] c.toNat.toUInt8=ix at*;have HIX:=zAd hixe;clear hixe;have hge:¬(128:Int)≤c:=by omega
  go_wp2_with fail;rw[run_callFunc_extern Tryz.func182 (by kernel_rfl) (by kernel_rfl) (by kernel_rfl) (e:=Extern.BytealgIndexByte.indexByte) (by kernel_rfl),Lib.run_indexByteString,HIX.out];simp only[Result.andThen];rw[Oper.upon_value];by_cases hx:0≤ix
  ·go_wp2_with fail
   go_ret
   exact⟨0,rfl,by rw[HCR.out,←HX.out];simp[hx],Below.refl _ _⟩
  ·go_wp2_with fail
   go_ret
   exact⟨-1,rfl,by rw[HCR.out,←HX.out];simp;omega,Below.refl _ _⟩
 ·have hge:(128:Int)≤c:=by omega
  have HF:Hid (zEc c=false):=by show _=_;unfold zEc;simp;omega
  go_wp2_with fail;go_loopw [] (fun wx=>∃pos:Nat,pos≤2∧wx=w.iter ⟨#[13,10]⟩ pos) (fun wx=>2-wx.iterPos w.heap.size)
  case atStart=>exact⟨0,by omega,rfl⟩
  case round=>
   obtain⟨pos,hp,rfl⟩:=hrel;have l3:Later w (w.iter ⟨#[13,10]⟩ pos):=zBr _ _ _;rcases(show pos=0∨pos=1∨pos=2 by omega)with rfl|rfl|rfl
   ·have hnx:=run_next_any (P:=Tryz.prog) w ⟨#[13,10]⟩ 0 0 (by decide)
    rw[show Utf8.decode ⟨#[13,10]⟩ 0=(13,1)from by decide]at hnx;go_wp2_with fail;go_roundw
    case rel=>exact⟨1,by omega,rfl⟩
    case measure=>simp[World.iterPos_iter]
   ·have hnx:=run_next_any (P:=Tryz.prog) w ⟨#[13,10]⟩ 1 0 (by decide)
    rw[show Utf8.decode ⟨#[13,10]⟩ 1=(10,1)from by decide]at hnx;go_wp2_with fail;go_roundw
    case rel=>exact⟨2,by omega,rfl⟩
    case measure=>simp[World.iterPos_iter]
   ·have hnx:=run_next_end (P:=Tryz.prog) w ⟨#[13,10]⟩ 2 0 (by decide)
    go_wp2_with fail;go_ret
    exact⟨-1,rfl,by rw[HCR.out,HF.out];rfl,l3⟩
theorem zHh(sv:Value)(zs:List Int)(w:World)(hT:TabR w)(hB:Mt.By zs)(hI:Rd w.heap.size w sv zs):
  Calls Tryz.prog 73 #[sv,.string ⟨#[13,10]⟩] w fun e w'=>e= .returned (.bool (crl zs))∧Below w.heap.size w w':=by
 obtain⟨av,cv,rfl,hlv,hmv⟩:=hI.slice
 have H:Hid (Calls Tryz.prog 135 #[.slice av zs.length cv,.string ⟨#[13,10]⟩] w fun e w'=>∃r:Int,e= .returned (.int .i64 r)∧decide (0≤r)=crl zs∧Below w.heap.size w w'):=by
  by_cases h8:8<zs.length
  ·exact zNe _ zs w hB hI h8
  ·by_cases h1:zs.length=1
   ·exact zNj _ zs w hB hI h1
   ·exact zJp _ zs w hT hB hI (by omega) h1
 clear hT;go_enter Tryz.func73,Tryz.ntmps73;go_wp2_with fail;refine H.out.mono ?_;rintro e w1 ⟨r,rfl,hr,b1⟩;have HR:=zAd hr;clear hr;go_wp2_with fail;go_ret
 exact⟨by rw[←HR.out];rfl,b1⟩
theorem zG3(bb off cp:Nat)(zs:List Int)(w:World)(hT:TabR w)(hB:Mt.By zs)(hI:Rd w.heap.size w (.slice (some ⟨bb,off,none⟩) zs.length cp) zs):
  Calls Tryz.prog 27 #[.slice (some ⟨bb,off,none⟩) zs.length cp] w fun e w'=>e= .returned (zVf bb off cp zs)∧Below w.heap.size w w':=by
 have hb1:Below w.heap.size w (w.alloc (.cells #[.int .u8 13,.int .u8 10] 5 (2,3))):=bA _ _;have l1:Later w (w.alloc (.cells #[.int .u8 13,.int .u8 10] 5 (2,3))):=hb1;have HT:=zAd (hT.later l1);clear hT;have hcl:∀j,(w.alloc (.cells #[.int .u8 13,.int .u8 10] 5 (2,3))).cell? ⟨w.heap.size,j,none⟩=#[Value.int .u8 13,.int .u8 10][j]? :=fun j=>World.cell?_alloc_mark w _ _ _ j
 have R1':Rd (w.alloc (.cells #[.int .u8 13,.int .u8 10] 5 (2,3))).heap.size (w.alloc (.cells #[.int .u8 13,.int .u8 10] 5 (2,3))) (.slice (some ⟨w.heap.size,0,none⟩) 2 2) [13,10]:= .inr ⟨w.heap.size,0,2,rfl,by simp,by simp,by omega,by simp,fun j hj=>by
  have hj2:j<2:=hj;rw[Nat.zero_add,hcl];have:j=0∨j=1:=by omega
  rcases this with rfl|rfl<;>rfl⟩
 have hcv:=Lib.run_convert_bytes_const (P:=Tryz.prog) w 26 5 #[.int .u8 13,.int .u8 10] 2 2 Tryz.underlying26 Tryz.underlying5;have HC:=zAd (zJn bb off cp _ zs [13,10] w.heap.size _ hB zNi (hI.later l1) R1' (by simp));have HO:Hid (zJ5 zs=(zJ4 zs [13,10] && (decide (zs.length≤128) && !(crl (zs.take (zs.length-2)))))):=rfl;clear R1' hcl;go_enter Tryz.func27,Tryz.ntmps27;go_wp2_with fail;refine HC.out.mono ?_;rintro e w2 ⟨rfl,rfl⟩;clear HC hcv;cases hE:zJ4 zs [13,10] with
 |false=>
  rw[if_neg (by simp)];go_wp2_with fail;go_ret
  exact⟨by rw[zFx (by rw[HO.out,hE];rfl)];rfl,hb1⟩
 | true=>
  have hz2:2≤zs.length:=by unfold zJ4 at hE;simp at hE;exact hE.1
  rw[if_pos rfl,show zs.length-([13,10]:List Int).length=zs.length-2 from rfl];by_cases h128:zs.length≤128
  ·have t2:decide ((128:Int)<zs.length)=false:=by simp;omega
   have hl2:(zs.take (zs.length-2)).length=zs.length-2:=by rw[List.length_take];omega
   have HK:=zAd (zHh (.slice (some ⟨bb,off,none⟩) (zs.length-2) cp) (zs.take (zs.length-2)) _ HT.out (hB.take _) ((hI.later l1).take (zs.length-2) (by omega)));have HO2:Hid (zJ5 zs= !(crl (zs.take (zs.length-2)))):=by show _=_;rw[HO.out,hE];simp[h128]
   generalize crl (zs.take (zs.length-2))=cc at*;clear hl2 HO hE hz2;go_wp2_with fail;refine HK.out.mono ?_;rintro e w3 ⟨rfl,b3⟩;have l3:=l1.trans b3;cases cc with
   |true=>
    go_wp2_with fail;go_ret
    exact⟨by rw[zFx (by rw[HO2.out];rfl)];rfl,l3⟩
   |false=>
    go_wp2_with fail;go_ret
    exact⟨by rw[zLh (by rw[HO2.out];rfl)];rfl,l3⟩
  ·have t2:decide ((128:Int)<zs.length)=true:=by simp;omega
   have HO2:Hid (zJ5 zs=false):=by show _=_;rw[HO.out];simp[h128]
   clear HO hE hz2;go_wp2_with fail;go_ret
   exact⟨by rw[zFx HO2.out];rfl,hb1⟩
theorem zRv(a:Option Addr)(cp:Nat)(w:World):
  Calls Tryz.prog 27 #[.slice a 0 cp] w fun e w'=>e= .returned (.slice none 0 0)∧Below w.heap.size w w':=by
 have hb1:Below w.heap.size w (w.alloc (.cells #[.int .u8 13,.int .u8 10] 5 (2,3))):=bA _ _;have hcv:=Lib.run_convert_bytes_const (P:=Tryz.prog) w 26 5 #[.int .u8 13,.int .u8 10] 2 2 Tryz.underlying26 Tryz.underlying5;go_enter Tryz.func27,Tryz.ntmps27;go_wp2
 go_ret
 exact⟨rfl,hb1⟩
end Go.Proofs.YteaeilghamjjkaaGreatDoor
