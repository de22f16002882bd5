import Derived.Test.YteobgfbgglfkbaaGreatAP1
import Derived.Deep.DeepCutAuto
import Derived.Shelf.Strings.BuilderK
set_option maxHeartbeats 800000
namespace Go.Proofs.YteobgfbgglfkbaaGreat
open Go.RowKit
attribute [local go_sem ↓] Go.wp_at_zero Go.wp_at_succ
def zG(l:List UInt8):ByteArray:=⟨l.toArray⟩
theorem yV(l:List UInt8):(zG l).size=l.length:=by simp[zG,ByteArray.size]
theorem Zl(l m:List UInt8):zG l++zG m=zG (l++m):=by
 apply ByteArray.ext;simp[zG]
theorem Zx(x:ByteArray):zG x.data.toList=x:=by simp[zG]
theorem UB(c:UInt8):(⟨#[UInt8.ofNat ((c.toNat:Int)).toNat]⟩:ByteArray)=zG [c]:=by simp[zG]
theorem EI(c:UInt8):((zk c).toNat:Int)=if 97<=c.toNat/\c.toNat<=122 then(c.toNat:Int) - 32 else c.toNat:=by
 unfold zk
 split
 ·rename_i h
  rw[UInt8.toNat_sub_of_le _ _ (by rw[UInt8.le_iff_toNat_le];show 32<=_;omega)]
  show((c.toNat - 32:Nat):Int)=_
  omega
 ·rfl
theorem BL(c:UInt8):((zu c).toNat:Int)=if 65<=c.toNat/\c.toNat<=90 then(c.toNat:Int)+32 else c.toNat:=by
 unfold zu
 split
 ·rename_i h
  rw[UInt8.toNat_add]
  show(((c.toNat+32) % 256:Nat):Int)=_
  omega
 ·rfl
theorem RH{w:World}(c:UInt8):Calls Tryz.prog 159 #[.int .u8 c.toNat] w fun e w'=>e= .returned (.int .u8 (zk c).toNat)/\w'=w:=by
 have hc:=c.toNat_lt;have HN:=zC (EI c);generalize ((zk c).toNat:Int)=r at *;generalize c.toNat=n at *
 by_cases h1:(97:Int)<=n
 ·by_cases h2:(n:Int)<=122
  ·have q:r=(n:Int) - 32:=by rw[HN.o,if_pos ⟨by omega,by omega⟩]
   have Q:=zC q;clear q;go_enter Tryz.func159,Tryz.ntmps159;go_wp2_with fail;go_ret;exact⟨by rw[Q.o];first|rfl|(congr 2;done)|(congr 2;simp[IntKind.wrap];omega),rfl⟩
  ·have q:r=(n:Int):=by rw[HN.o,if_neg (by omega)]
   have Q:=zC q;clear q;go_enter Tryz.func159,Tryz.ntmps159;go_wp2_with fail;go_ret;exact⟨by rw[Q.o];rfl,rfl⟩
 ·have q:r=(n:Int):=by rw[HN.o,if_neg (by omega)]
  have Q:=zC q;clear q;go_enter Tryz.func159,Tryz.ntmps159;go_wp2_with fail;go_ret;exact⟨by rw[Q.o];rfl,rfl⟩
theorem Sb{w:World}(c:UInt8):Calls Tryz.prog 160 #[.int .u8 c.toNat] w fun e w'=>e= .returned (.int .u8 (zu c).toNat)/\w'=w:=by
 have hc:=c.toNat_lt;have HN:=zC (BL c);generalize ((zu c).toNat:Int)=r at *;generalize c.toNat=n at *
 by_cases h1:(65:Int)<=n
 ·by_cases h2:(n:Int)<=90
  ·have q:r=(n:Int)+32:=by rw[HN.o,if_pos ⟨by omega,by omega⟩]
   have Q:=zC q;clear q;go_enter Tryz.func160,Tryz.ntmps160;go_wp2_with fail;go_ret;exact⟨by rw[Q.o];first|rfl|(congr 2;done)|(congr 2;simp[IntKind.wrap];omega),rfl⟩
  ·have q:r=(n:Int):=by rw[HN.o,if_neg (by omega)]
   have Q:=zC q;clear q;go_enter Tryz.func160,Tryz.ntmps160;go_wp2_with fail;go_ret;exact⟨by rw[Q.o];rfl,rfl⟩
 ·have q:r=(n:Int):=by rw[HN.o,if_neg (by omega)]
  have Q:=zC q;clear q;go_enter Tryz.func160,Tryz.ntmps160;go_wp2_with fail;go_ret;exact⟨by rw[Q.o];rfl,rfl⟩
theorem Dl(l:List UInt8):(zG l).toList=l:=by rw[Qj];simp[zG]
theorem QV(l:List UInt8)(i j:Nat):(zG l).extract i j=zG ((l.drop i).take (j - i)):=by
 apply ByteArray.ext;simp[zG,ByteArray.data_extract,List.extract_toArray]
theorem Rx(x y:List UInt8):(x.take y.length==y)=y.isPrefixOf x:=by
 rw[Bool.eq_iff_iff,List.isPrefixOf_iff_prefix,beq_iff_eq,List.prefix_iff_eq_take];exact⟨fun h=>h.symm,fun h=>h.symm⟩
theorem LR{w:World}(c:UInt8):Calls Tryz.prog 158 #[.int .u8 c.toNat] w fun e w'=>e= .returned (.string (zG [c]))/\Ch [] w w':=by
 have hcv:=QN w c.toNat;rw[UB]at hcv;go_enter Tryz.func158,Tryz.ntmps158;go_wp2_with fail;go_ret;exact⟨rfl,Ch.alloc _ _ _⟩
theorem Ix{w:World}(x y:List UInt8):Calls Tryz.prog 240 #[.string (zG x),.string (zG y)] w fun e w'=>e= .returned (.bool (y.isPrefixOf x))/\w'=w:=by
 go_enter Tryz.func240,Tryz.ntmps240;go_wp2_with fail
 ·rename_i h
  go_ret;rw[yV,yV]at h;refine⟨?_,rfl⟩
  show Ending.returned (.bool (((zG x).extract 0 (zG y).size).toList==(zG y).toList))=_
  rw[QV,Dl,Dl,yV,List.drop_zero,Nat.sub_zero,Rx x y]
 ·rename_i h
  go_ret;rw[yV,yV]at h;refine⟨?_,rfl⟩
  show Ending.returned (.bool false)=_
  have:y.isPrefixOf x=false:=by
   rw[Bool.eq_false_iff];intro e;rw[List.isPrefixOf_iff_prefix]at e;exact h e.length_le
  rw[this]
def Yu(x y:ByteArray):Bool:=y.data.toList.isPrefixOf x.data.toList
theorem Ro{w:World}(x y:ByteArray):Calls Tryz.prog 239 #[.string x,.string y] w fun e w'=>e= .returned (.bool (Yu x y))/\w'=w:=by
 have H0:=Ix (w:=w) x.data.toList y.data.toList;rw[Zx,Zx,show y.data.toList.isPrefixOf x.data.toList=Yu x y from rfl]at H0;go_enter Tryz.func239,Tryz.ntmps239;go_wp2_with fail;refine H0.mono ?_;rintro e w1 ⟨rfl,rfl⟩;go_wp2_with fail;go_ret;exact⟨rfl,rfl⟩
theorem XJ(l:List UInt8):(zG l).data.toList=l:=by simp[zG]
theorem PJ{one:List UInt8}{k:Nat}{s:List UInt8}(hk:k<s.length):yr one (s.drop k)=if(s.drop k).isPrefixOf one then s.length - k else yr one (s.drop (k+1)):=by
 rw[List.drop_eq_getElem_cons hk];unfold yr;simp only[List.length_drop];rw[show s.length - (k+1)+1=s.length - k from by omega]
 cases hd:List.drop (k+1) s with
 |nil=>simp[yr]
 |cons a l=>simp[yr]
theorem Ol{w:World}(one two seen:List UInt8)(hs:seen.length<=400):Calls Tryz.prog 238 #[.agg #[.string (zG one),.string (zG two)],.string (zG seen)] w fun e w'=>e= .returned (.int .i64 (yr one seen))/\Ch [] w w':=by
 have B0:=zE.new w #[.string (zG one),.string (zG two)] 182;have g0:=Ch.alloc [] w (.cells #[.string (zG one),.string (zG two)] 182);go_enter Tryz.func238,Tryz.ntmps238;go_wp2_with fail;generalize w.alloc (.cells #[.string (zG one),.string (zG two)] 182)=w0 at *;generalize w.heap.size=H at *;have HZ:=zC (yV seen)
 have hn:(zG seen).size<=400:=by rw[yV];exact hs
 have HX:Hd (∀k,Yu (zG one) ((zG seen).extract k (zG seen).size)=(seen.drop k).isPrefixOf one):=fun k=>by unfold Yu;rw[QV,XJ,XJ,HZ.o,List.take_of_length_le (by simp)]
 go_loopw [5,8] (fun _ i w5=>∃k:Nat,k<=(zG seen).size/\i= .int .i64 k/\Hd (yr one (seen.drop k)=yr one seen)/\zE w5 H #[.string (zG one),.string (zG two)] 182/\Ch [] w w5) (fun _ i _=>(zG seen).size - (intOf i).toNat)
 case atStart=>exact⟨0,Nat.zero_le _,rfl,by show _=_;simp,B0,g0⟩
 case round=>
  obtain⟨k,hk,rfl,HB,B5,g5⟩:=hrel;have d0:=B5.cl 0 _ rfl;have HP:=zC (HX.o k);clear HX
  by_cases hlt:(k:Int)<(zG seen).size
  ·have HC:=zC (PJ (one:=one) (show k<seen.length by have:=HZ.o;omega))
   go_wp2_with fail;go_quiet ((go_at_call 239;exact Calls.quiet_of_same (Ro _ _)));go_wp2_with fail
   ·rename_i hp
    go_ret;refine⟨?_,g5.trans (Ch.drewN _ _ _)⟩;rw[<- HB.o,HC.o,if_pos (HP.o.symm.trans hp),<- HZ.o]
    go_num
   ·rename_i hp
    refine⟨⟨k+1,by omega,by go_num,?_,B5.kp (Ch.drewN [] _ _) (by simp),g5.trans (Ch.drewN _ _ _)⟩,by simp[intOf];omega⟩
    show _=_
    rw[<- HB.o,HC.o,HP.o.symm.trans hp];rfl
  ·have HD:Hd (yr one seen=0):=by
    show _=_
    rw[<- HB.o,List.drop_of_length_le (by have:=HZ.o;omega)];rfl
   go_wp2_with fail;go_ret;exact⟨by rw[HD.o];rfl,g5⟩
theorem CK{w:World}(one two:List UInt8)(h:Nat)(hh:h<=one.length)(h4:one.length<=4):
 Calls Tryz.prog 236 #[.agg #[.string (zG one),.string (zG two)],.int .u8 h] w fun e w'=>e= .returned (.string (zG (one.take h)))/\Ch [] w w':=by
 have HZ:=zC (yV one)
 have hn:(h:Int)<=(zG one).size:=by rw[yV];omega
 have hn2:(zG one).size<=4:=by rw[yV];exact h4
 go_enter Tryz.func236,Tryz.ntmps236;go_wp2_with fail;go_ret;refine⟨?_,Ch.alloc _ _ _⟩
 show Ending.returned (.string ((zG one).extract 0 h))=_
 rw[QV,List.drop_zero,Nat.sub_zero]
theorem aO{w:World}(one two:List UInt8)(h:Nat)(hh:h<one.length)(h4:one.length<=4)(c:UInt8):
 Calls Tryz.prog 237 #[.agg #[.string (zG one),.string (zG two)],.int .u8 h,.int .u8 c.toNat] w fun e w'=>e= .returned (.tuple #[.int .u8 (Jd one two h c).1,.string (zG (Jd one two h c).2)])/\Ch [] w w':=by
 have B0:=zE.new w #[.string (zG one),.string (zG two)] 182;have g0:=Ch.alloc [] w (.cells #[.string (zG one),.string (zG two)] 182)
 have hn:(h:Int)<=(zG one).size:=by rw[yV];omega
 have hn2:(zG one).size<=4:=by rw[yV];exact h4
 go_enter Tryz.func237,Tryz.ntmps237;go_wp2_with fail;generalize w.alloc (.cells #[.string (zG one),.string (zG two)] 182)=w0 at *;generalize w.heap.size=H at *;have c0:=B0.cl 0 _ rfl;have c1:=B0.cl 1 _ rfl;have hc1:(zG [c]).size=1:=yV _
 have HS:Hd ((zG one).extract 0 h++zG [c]=zG (one.take h++[c])):=by
  show _=_
  rw[QV,Zl,List.drop_zero,Nat.sub_zero]
 have hl:(one.take h++[c]).length<=400:=by simp;omega
 have HSW:Hd (Jd one two h c=if one.take h++[c]=one then(0,two)else(yr one (one.take h++[c]),(one.take h++[c]).take ((one.take h++[c]).length - yr one (one.take h++[c])))):=rfl
 have HL2:Hd ((one.take h++[c]).length<=one.length):=by show _<=_;simp;omega
 go_cut [8] (fun s8 wx=>s8= .string (zG (one.take h++[c]))/\zE wx H #[.string (zG one),.string (zG two)] 182/\Ch [] w wx)
 case first=>
  go_region_with ((go_at_call 158;refine(LR c).mono ?_;rintro e w1 ⟨rfl,g1⟩;have B1:zE w1 H _ _:=zE.kp (zE.kp B0 (Ch.drew [] w0) (by simp)) g1 (by simp);have e0:=B1.cl 0 _ rfl))
  all_goals
   go_wp2_with fail;go_meet;exact⟨by rw[HS.o],B1,g0.trans ((Ch.drew _ _).trans g1)⟩
 case rest=>
  obtain⟨rfl,B2,g2⟩:=hcut;clear c0 c1 HS;generalize hX:one.take h++[c]=X at *;clear hX;have d0:=B2.cl 0 _ rfl;have d1:=B2.cl 1 _ rfl
  by_cases hq:X=one
  ·obtain⟨q1,q2⟩:=Y6 (congrArg zG hq)
   have HQ:=zC hq;clear hq;go_wp2_with fail;go_quiet (fail);go_wp2_with fail;go_ret2;exact⟨by rw[HSW.o,if_pos HQ.o];rfl,g2.trans (Ch.drewN _ _ _)⟩
  ·obtain⟨q1,q2⟩:=Zn (a:=zG X) (b:=zG one) (fun e=>hq (by have:=congrArg (fun z=>z.data.toList) e;simpa[XJ]using this))
   have HQ:=zC hq;clear hq;go_wp2_with fail;refine(Ol one two X hl).mono ?_;rintro e w3 ⟨rfl,g3⟩;have HB:=zC (Wc one X);have HN:=zC (yV X)
   have hb1:(yr one X:Int)<=(zG X).size:=by have:=HB.o;have:=HN.o;omega
   have hb2:(zG X).size<=4:=by have:=HL2.o;have:=HN.o;omega
   generalize hbq:yr one X=n at *;clear hbq;go_wp2_with fail;go_quiet (fail);go_wp2_with fail;go_ret2;refine⟨?_,g2.trans (g3.trans (Ch.drewN _ _ _))⟩;rw[HSW.o,if_neg HQ.o]
   show Ending.returned (.tuple #[.int .u8 n,.string ((zG X).extract 0 ((zG X).size - n))])=_
   rw[QV,HN.o,List.drop_zero,Nat.sub_zero]
theorem Mz{w:World}(c:UInt8):Calls Tryz.prog 179 #[.int .u8 c.toNat] w fun e w'=>e= .returned (.int .u8 (zk c).toNat)/\w'=w:=by
 have hc:=c.toNat_lt;have HN:=zC (EI c);generalize ((zk c).toNat:Int)=r at *;generalize c.toNat=n at *
 by_cases h1:(97:Int)<=n
 ·by_cases h2:(n:Int)<=122
  ·have q:r=(n:Int) - 32:=by rw[HN.o,if_pos ⟨by omega,by omega⟩]
   have Q:=zC q;clear q;go_enter Tryz.func179,Tryz.ntmps179;go_wp2_with fail;go_ret;exact⟨by rw[Q.o];first|rfl|(congr 2;simp;omega),rfl⟩
  ·have q:r=(n:Int):=by rw[HN.o,if_neg (by omega)]
   have Q:=zC q;clear q;go_enter Tryz.func179,Tryz.ntmps179;go_wp2_with fail;go_ret;exact⟨by rw[Q.o];rfl,rfl⟩
 ·have q:r=(n:Int):=by rw[HN.o,if_neg (by omega)]
  have Q:=zC q;clear q;go_enter Tryz.func179,Tryz.ntmps179;go_wp2_with fail;go_ret;exact⟨by rw[Q.o];rfl,rfl⟩
theorem AX{w:World}(c:UInt8):Calls Tryz.prog 181 #[.int .u8 c.toNat] w fun e w'=>e= .returned (.int .u8 (zu c).toNat)/\w'=w:=by
 have hc:=c.toNat_lt;have HN:=zC (BL c);generalize ((zu c).toNat:Int)=r at *;generalize c.toNat=n at *
 by_cases h1:(65:Int)<=n
 ·by_cases h2:(n:Int)<=90
  ·have q:r=(n:Int)+32:=by rw[HN.o,if_pos ⟨by omega,by omega⟩]
   have Q:=zC q;clear q;go_enter Tryz.func181,Tryz.ntmps181;go_wp2_with fail;go_ret;exact⟨by rw[Q.o];first|rfl|(congr 2;simp;omega),rfl⟩
  ·have q:r=(n:Int):=by rw[HN.o,if_neg (by omega)]
   have Q:=zC q;clear q;go_enter Tryz.func181,Tryz.ntmps181;go_wp2_with fail;go_ret;exact⟨by rw[Q.o];rfl,rfl⟩
 ·have q:r=(n:Int):=by rw[HN.o,if_neg (by omega)]
  have Q:=zC q;clear q;go_enter Tryz.func181,Tryz.ntmps181;go_wp2_with fail;go_ret;exact⟨by rw[Q.o];rfl,rfl⟩
def je(f:Nat->List UInt8):Array Value:=((List.range 256).map fun j=>Value.string (zG (f j))).toArray
theorem LO(f:Nat->List UInt8){j:Nat}(hj:j<256):(je f)[j]? =some (.string (zG (f j))):=by
 simp[je,hj]
theorem Ou(f:Nat->List UInt8){i:Nat}(_hi:i<256)(x:List UInt8):(je f).setIfInBounds i (.string (zG x))=je (fun j=>if j=i then x else f j):=by
 apply Array.ext
 ·simp[je]
 ·intro j h1 h2
  simp[je]at h1 h2
  by_cases e:i=j
  ·subst e;simp[je]
  ·simp[je,e,Ne.symm e]
theorem KZ{f g:Nat->List UInt8}(h:∀j,j<256->f j=g j):je f=je g:=by
 unfold je
 congr 1
 apply List.map_congr_left;intro j hj;rw[h j (by simpa using hj)]
theorem Hi{w:World}(rb:Nat)(h:Nat):Calls Tryz.prog 241 #[.pointer (some ⟨rb,0,none⟩),.int .u8 h] w fun e w'=>e= .returned (.string (zG []))/\w'=w:=by
 go_enter Tryz.func241,Tryz.ntmps241;go_wp2_with fail;go_ret;exact⟨rfl,rfl⟩
theorem Fe{w:World}{rb:Nat}{f:Nat->List UInt8}(hB:zE w rb (je f) 219)(h:Nat)(c:UInt8):Calls Tryz.prog 242 #[.pointer (some ⟨rb,0,none⟩),.int .u8 h,.int .u8 c.toNat] w fun e w'=>e= .returned (.tuple #[.int .u8 0,.string (zG (f c.toNat))])/\Ch [] w w':=by
 have hc:=c.toNat_lt;have d:=hB.cl c.toNat _ (LO f hc);generalize c.toNat=n at *
 have hc':(n:Int)<256:=by omega
 go_enter Tryz.func242,Tryz.ntmps242;go_wp2_with fail;go_quiet (fail);go_wp2_with fail;go_ret2;exact⟨rfl,Ch.drewN _ _ _⟩
def Ui:Go.Shelf.Ren:=⟨fun|166=>199|167=>81|169=>46|240=>120|276=>155|n=>n,fun|0=>0|3=>3|4=>4|5=>5|9=>9|20=>20|37=>124|70=>123|72=>126|75=>175|80=>128|127=>185|164=>267|n=>n,fun n=>n⟩
theorem GM:Go.Proofs.Lays.n166 Tryz.prog Ui:={
 mixed:=by kernel_rfl
 f166:=Tryz.func199.trans (congrArg some (by kernel_rfl))
 f240:=Tryz.func120.trans (congrArg some (by kernel_rfl))
 f276:=Tryz.func155.trans (congrArg some (by kernel_rfl))
 t0:=Tryz.underlying0
 a0:=Tryz.isAgg0
 z0:=Tryz.sizeOf0
 v0:=Tryz.zeroValue0
 t3:=Tryz.underlying3
 a3:=Tryz.isAgg3
 z3:=Tryz.sizeOf3
 v3:=Tryz.zeroValue3
 t4:=Tryz.underlying4
 a4:=Tryz.isAgg4
 z4:=Tryz.sizeOf4
 v4:=Tryz.zeroValue4
 t9:=Tryz.underlying9
 a9:=Tryz.isAgg9
 z9:=Tryz.sizeOf9
 v9:=Tryz.zeroValue9
 t20:=Tryz.underlying20
 a20:=Tryz.isAgg20
 z20:=Tryz.sizeOf20
 v20:=Tryz.zeroValue20
 t37:=Tryz.underlying124
 a37:=Tryz.isAgg124
 z37:=Tryz.sizeOf124
 v37:=Tryz.zeroValue124
 t70:=Tryz.underlying123
 a70:=Tryz.isAgg123
 z70:=Tryz.sizeOf123
 v70:=Tryz.zeroValue123
 t72:=Tryz.underlying126
 a72:=Tryz.isAgg126
 z72:=Tryz.sizeOf126
 v72:=Tryz.zeroValue126
 t75:=Tryz.underlying175
 a75:=Tryz.isAgg175
 z75:=Tryz.sizeOf175
 v75:=Tryz.zeroValue175
 t164:=Tryz.underlying267
 a164:=Tryz.isAgg267
 z164:=Tryz.sizeOf267
 v164:=Tryz.zeroValue267}
theorem Gl:Go.Proofs.Lays.n167 Tryz.prog Ui:={
 mixed:=by kernel_rfl
 f167:=Tryz.func81.trans (congrArg some (by kernel_rfl))
 f240:=Tryz.func120.trans (congrArg some (by kernel_rfl))
 f276:=Tryz.func155.trans (congrArg some (by kernel_rfl))
 t0:=Tryz.underlying0
 a0:=Tryz.isAgg0
 z0:=Tryz.sizeOf0
 v0:=Tryz.zeroValue0
 t4:=Tryz.underlying4
 a4:=Tryz.isAgg4
 z4:=Tryz.sizeOf4
 v4:=Tryz.zeroValue4
 t5:=Tryz.underlying5
 a5:=Tryz.isAgg5
 z5:=Tryz.sizeOf5
 v5:=Tryz.zeroValue5
 t9:=Tryz.underlying9
 a9:=Tryz.isAgg9
 z9:=Tryz.sizeOf9
 v9:=Tryz.zeroValue9
 t20:=Tryz.underlying20
 a20:=Tryz.isAgg20
 z20:=Tryz.sizeOf20
 v20:=Tryz.zeroValue20
 t37:=Tryz.underlying124
 a37:=Tryz.isAgg124
 z37:=Tryz.sizeOf124
 v37:=Tryz.zeroValue124
 t70:=Tryz.underlying123
 a70:=Tryz.isAgg123
 z70:=Tryz.sizeOf123
 v70:=Tryz.zeroValue123
 t72:=Tryz.underlying126
 a72:=Tryz.isAgg126
 z72:=Tryz.sizeOf126
 v72:=Tryz.zeroValue126
 t75:=Tryz.underlying175
 a75:=Tryz.isAgg175
 z75:=Tryz.sizeOf175
 v75:=Tryz.zeroValue175
 t164:=Tryz.underlying267
 a164:=Tryz.isAgg267
 z164:=Tryz.sizeOf267
 v164:=Tryz.zeroValue267}
theorem Np:Go.Proofs.Lays.n169 Tryz.prog Ui:={
 mixed:=by kernel_rfl
 f169:=Tryz.func46.trans (congrArg some (by kernel_rfl))
 t0:=Tryz.underlying0
 a0:=Tryz.isAgg0
 z0:=Tryz.sizeOf0
 v0:=Tryz.zeroValue0
 t3:=Tryz.underlying3
 a3:=Tryz.isAgg3
 z3:=Tryz.sizeOf3
 v3:=Tryz.zeroValue3
 t9:=Tryz.underlying9
 a9:=Tryz.isAgg9
 z9:=Tryz.sizeOf9
 v9:=Tryz.zeroValue9
 t37:=Tryz.underlying124
 a37:=Tryz.isAgg124
 z37:=Tryz.sizeOf124
 v37:=Tryz.zeroValue124
 t70:=Tryz.underlying123
 a70:=Tryz.isAgg123
 z70:=Tryz.sizeOf123
 v70:=Tryz.zeroValue123
 t72:=Tryz.underlying126
 a72:=Tryz.isAgg126
 z72:=Tryz.sizeOf126
 v72:=Tryz.zeroValue126
 t127:=Tryz.underlying185
 a127:=Tryz.isAgg185
 z127:=Tryz.sizeOf185
 v127:=Tryz.zeroValue185}
theorem Ux:Go.Proofs.Builder.Extra Tryz.prog Ui:={
 sizeBuilder:=by kernel_rfl
 liesBuilder:=by kernel_rfl
 t5:=Tryz.underlying5
 a5:=Tryz.isAgg5
 z5:=Tryz.sizeOf5
 v5:=Tryz.zeroValue5
 infoByte:=by kernel_rfl
 cellsByte:=by kernel_rfl
 sizeByte:=by kernel_rfl
 neB5:=by decide}
def yi(w:World)(B b:Nat)(l:List UInt8):Prop:=Lib.IsBuilderF 126 5 B b (Lib.byteCells l) w
def Fr(B st b:Nat)(w w':World):Prop:=Below B w w'/\∀k o,w.heap[k]? =some o->k≠st->k≠b->(∀c fz,o≠ .cells c 5 fz)->w'.heap[k]? =some o
theorem Fr.refl(B st b:Nat)(w:World):Fr B st b w w:=⟨Below.refl _ _,fun _ _ h _ _ _=>h⟩
theorem Fr.trans{B st b:Nat}{w1 w2 w3:World}(h:Fr B st b w1 w2)(g:Fr B st b w2 w3):Fr B st b w1 w3:=
 ⟨h.1.trans g.1,fun k o hk h1 h2 h3=>g.2 k o (h.2 k o hk h1 h2 h3) h1 h2 h3⟩
theorem Fr.of{B b:Nat}(st:Nat){w w':World}(h:Below B w w')(g:Lib.OthersKept 5 (some b) w w'):Fr B st b w w':=
 ⟨h,fun k o hk _ h2 h3=>g k o hk (fun e=>h2 (Option.some.inj e)) h3⟩
theorem Fr.ch{B st b:Nat}{w w':World}{X:List Nat}(g:Ch X w w')(hB:B<=w.heap.size)(hX:∀k,k∈X->B<=k/\(k=st\/k=b)):Fr B st b w w':=
 ⟨g.below hB (fun k hk=>(hX k hk).1),fun k o hk h1 h2 _=>by
  have hlt:k<w.heap.size:=(Array.getElem?_eq_some_iff.1 hk).1;rw[g.block k hlt (fun e=>by have:=(hX k e).2;omega)]
  exact hk⟩
theorem Fr.size{B st b:Nat}{w w':World}(h:Fr B st b w w'):w.heap.size<=w'.heap.size:=h.1.size
theorem Fr.blk{B st b:Nat}{w w':World}(h:Fr B st b w w'){k:Nat}{cs:Array Value}{T:TypeId}(hk:zE w k cs T)(h1:k≠st)(h2:k≠b)(hT:T≠5):zE w' k cs T:=
 h.2 k _ hk h1 h2 (fun c fz e=>hT (by injection e))
theorem yi.kp{w w':World}{B b:Nat}{l:List UInt8}{X:List Nat}(h:yi w B b l)(g:Ch X w w')(hb:b∉X)(hX:∀k,k∈X->∀c fz,w.heap[k]? ≠some (.cells c 5 fz)):yi w' B b l:=by
 have key:∀p,Lib.BuilderAtF 126 5 B b p (Lib.byteCells l) w->Lib.BuilderAtF 126 5 B b p (Lib.byteCells l) w':=by
  rintro p ⟨hB,v,hbk,hown,hne⟩;have hlt:b<w.heap.size:=(Array.getElem?_eq_some_iff.1 hbk).1;refine⟨hB,v,(g.block b hlt hb).trans hbk,⟨hown.1,?_⟩,hne⟩
  rcases hown.2 with h0|⟨gg,cap,cur,fz,hv,hr⟩
  ·exact Or.inl h0
  ·refine Or.inr ⟨gg,cap,cur,fz,hv,?_⟩
   obtain⟨h1,h2,h3⟩:=hr;have hl2:gg<w.heap.size:=(Array.getElem?_eq_some_iff.1 h2).1;exact⟨h1,(g.block gg hl2 (fun e=>hX gg e _ _ h2)).trans h2,h3⟩
 rcases h with h|h
 ·exact Or.inl (key _ h)
 ·exact Or.inr (key _ h)
theorem yi.lt{w:World}{B b:Nat}{l:List UInt8}(h:yi w B b l):B<=b/\b<w.heap.size:=by
 rcases h with h|h
 ·exact⟨h.1,h.lt⟩
 ·exact⟨h.1,h.lt⟩
theorem yi.kind{w:World}{B b:Nat}{l:List UInt8}(h:yi w B b l):∃cs,w.heap[b]? =some (.cells cs 126 (0,0)):=by
 rcases h with⟨_,v,h,_⟩|⟨_,v,h,_⟩
 ·exact⟨_,h⟩
 ·exact⟨_,h⟩
theorem MZ(w:World){B:Nat}(hB:B<=w.heap.size):yi (w.alloc (.cells #[.pointer none,.slice none 0 0] 126)) B w.heap.size []:=
 Or.inl ⟨hB,.slice none 0 0,zr _ _,⟨by simp[Lib.byteCells],Or.inl ⟨rfl,rfl⟩⟩,by simp[Value.ownBlock]⟩
theorem Uz{w:World}{B b:Nat}{l:List UInt8}(st:Nat)(h:yi w B b l)(c:UInt8)(hl:l.length+1<=140737488355328)(hB:B<=w.heap.size):
 Calls Tryz.prog 81 #[.pointer (some ⟨b,0,none⟩),.int .u8 c.toNat] w fun e w'=>e= .returned .nilIface/\yi w' B b (l++[c])/\Fr B st b w w':=by
 refine(Any.Builder_WriteByte_k Gl Ux B b (Lib.byteCells l) c.toNat w h (by rw[Lib.byteCells_length];exact hl) hB).mono ?_;rintro e w' ⟨rfl,h1,h2,h3⟩;refine⟨rfl,?_,Fr.of st h2 h3⟩;unfold yi;rw[Lib.byteCells_append];exact Or.inr h1
theorem ON{w:World}{B b:Nat}{l:List UInt8}(st:Nat)(h:yi w B b l)(m:List UInt8)(hl:l.length+m.length<=140737488355328)(hB:B<=w.heap.size):
 Calls Tryz.prog 199 #[.pointer (some ⟨b,0,none⟩),.string (zG m)] w fun e w'=>e= .returned (.tuple #[.int .i64 (zG m).size,.nilIface])/\yi w' B b (l++m)/\Fr B st b w w':=by
 refine(Any.Builder_WriteString_k GM Ux B b (Lib.byteCells l) (zG m) w h (by rw[Lib.byteCells_length,yV];exact hl) hB).mono ?_;rintro e w' ⟨rfl,h1,h2,h3⟩;refine⟨rfl,?_,Fr.of st h2 h3⟩;unfold yi;rw[Lib.byteCells_append];exact Or.inr h1
theorem Td{w:World}{B b:Nat}{l:List UInt8}(st:Nat)(h:yi w B b l)(hB:B<=w.heap.size):
 Calls Tryz.prog 46 #[.pointer (some ⟨b,0,none⟩)] w fun e w'=>e= .returned (.string (zG l))/\Fr B st b w w':=by
 refine(Any.Builder_String_any_k Np Ux B b l w h hB).mono ?_;rintro e w' ⟨rfl,h1,h2,h3⟩;exact⟨rfl,Fr.of st h2 h3⟩
end Go.Proofs.YteobgfbgglfkbaaGreat
