import Derived.Test.YteobgfbgglfkbaaGreatJP1
import Derived.Deep.DeepCutAuto
import Derived.Shelf.Strings.BuilderK
namespace Go.Proofs.YteobgfbgglfkbaaGreat
open Go.RowKit
attribute [local go_sem ↓] Go.wp_at_zero Go.wp_at_succ
def str(l:List UInt8):ByteArray:=⟨l.toArray⟩
theorem zA1(l:List UInt8):(str l).size=l.length:=by simp [str,ByteArray.size]
theorem zMF(l m:List UInt8):str l++str m=str (l++m):=by
 apply ByteArray.ext;simp [str]
theorem zCw(x:ByteArray):str x.data.toList=x:=by simp [str]
theorem str_one(c:UInt8):(⟨#[UInt8.ofNat ((c.toNat:Int)).toNat]⟩:ByteArray)=str [c]:=by simp [str]
theorem zLP(c:UInt8):((capB c).toNat:Int)=if 97≤c.toNat∧c.toNat≤122 then (c.toNat:Int) - 32 else c.toNat:=by
 unfold capB
 split
 ·rename_i h
  rw [UInt8.toNat_sub_of_le _ _ (by rw [UInt8.le_iff_toNat_le];show 32≤_;omega)]
  show ((c.toNat - 32:Nat):Int)=_
  omega
 ·rfl
theorem zLM(c:UInt8):((litB c).toNat:Int)=if 65≤c.toNat∧c.toNat≤90 then (c.toNat:Int)+32 else c.toNat:=by
 unfold litB
 split
 ·rename_i h
  rw [UInt8.toNat_add]
  show (((c.toNat+32) % 256:Nat):Int)=_
  omega
 ·rfl
theorem capital_any{w:World}(c:UInt8):Calls Tryz.prog 159 #[.int .u8 c.toNat] w fun e w'=>e= .returned (.int .u8 (capB c).toNat)∧w'=w:=by
 have hc:=c.toNat_lt;have HN:=hide (zLP c);generalize ((capB c).toNat:Int)=r at *;generalize c.toNat=n at *
 by_cases h1:(97:Int)≤n
 ·by_cases h2:(n:Int)≤122
  ·have q:r=(n:Int) - 32:=by rw [HN.out,if_pos ⟨by omega,by omega⟩]
   have Q:=hide q;clear q;go_enter Tryz.func159,Tryz.ntmps159;go_wp2_with fail;go_ret;exact ⟨by rw [Q.out];first | rfl | (congr 2;done) | (congr 2;simp [IntKind.wrap];omega),rfl⟩
  ·have q:r=(n:Int):=by rw [HN.out,if_neg (by omega)]
   have Q:=hide q;clear q;go_enter Tryz.func159,Tryz.ntmps159;go_wp2_with fail;go_ret;exact ⟨by rw [Q.out];rfl,rfl⟩
 ·have q:r=(n:Int):=by rw [HN.out,if_neg (by omega)]
  have Q:=hide q;clear q;go_enter Tryz.func159,Tryz.ntmps159;go_wp2_with fail;go_ret;exact ⟨by rw [Q.out];rfl,rfl⟩
theorem little_any{w:World}(c:UInt8):Calls Tryz.prog 160 #[.int .u8 c.toNat] w fun e w'=>e= .returned (.int .u8 (litB c).toNat)∧w'=w:=by
 have hc:=c.toNat_lt;have HN:=hide (zLM c);generalize ((litB c).toNat:Int)=r at *;generalize c.toNat=n at *
 by_cases h1:(65:Int)≤n
 ·by_cases h2:(n:Int)≤90
  ·have q:r=(n:Int)+32:=by rw [HN.out,if_pos ⟨by omega,by omega⟩]
   have Q:=hide q;clear q;go_enter Tryz.func160,Tryz.ntmps160;go_wp2_with fail;go_ret;exact ⟨by rw [Q.out];first | rfl | (congr 2;done) | (congr 2;simp [IntKind.wrap];omega),rfl⟩
  ·have q:r=(n:Int):=by rw [HN.out,if_neg (by omega)]
   have Q:=hide q;clear q;go_enter Tryz.func160,Tryz.ntmps160;go_wp2_with fail;go_ret;exact ⟨by rw [Q.out];rfl,rfl⟩
 ·have q:r=(n:Int):=by rw [HN.out,if_neg (by omega)]
  have Q:=hide q;clear q;go_enter Tryz.func160,Tryz.ntmps160;go_wp2_with fail;go_ret;exact ⟨by rw [Q.out];rfl,rfl⟩
end Go.Proofs.YteobgfbgglfkbaaGreat
namespace Go.Proofs.YteobgfbgglfkbaaGreat
open Go.RowKit
attribute [local go_sem ↓] Go.wp_at_zero Go.wp_at_succ
theorem zHP(l:List UInt8):(str l).toList=l:=by rw [zCI];simp [str]
theorem zC7(l:List UInt8)(i j:Nat):(str l).extract i j=str ((l.drop i).take (j - i)):=by
 apply ByteArray.ext;simp [str,ByteArray.data_extract,List.extract_toArray]
theorem zLe(x y:List UInt8):(x.take y.length==y)=y.isPrefixOf x:=by
 rw [Bool.eq_iff_iff,List.isPrefixOf_iff_prefix,beq_iff_eq,List.prefix_iff_eq_take];exact ⟨fun h=>h.symm,fun h=>h.symm⟩
theorem zJb{w:World}(c:UInt8):Calls Tryz.prog 158 #[.int .u8 c.toNat] w fun e w'=>e= .returned (.string (str [c]))∧Ch [] w w':=by
 have hcv:=zEw w c.toNat;rw [str_one] at hcv;go_enter Tryz.func158,Tryz.ntmps158;go_wp2_with fail;go_ret;exact ⟨rfl,Ch.alloc _ _ _⟩
theorem zHG{w:World}(x y:List UInt8):Calls Tryz.prog 240 #[.string (str x),.string (str y)] w fun e w'=>e= .returned (.bool (y.isPrefixOf x))∧w'=w:=by
 go_enter Tryz.func240,Tryz.ntmps240;go_wp2_with fail
 ·rename_i h
  go_ret;rw [zA1,zA1] at h;refine ⟨?_,rfl⟩
  show Ending.returned (.bool (((str x).extract 0 (str y).size).toList==(str y).toList))=_
  rw [zC7,zHP,zHP,zA1,List.drop_zero,Nat.sub_zero,zLe x y]
 ·rename_i h
  go_ret;rw [zA1,zA1] at h;refine ⟨?_,rfl⟩
  show Ending.returned (.bool false)=_
  have:y.isPrefixOf x=false:=by
   rw [Bool.eq_false_iff];intro e;rw [List.isPrefixOf_iff_prefix] at e;exact h e.length_le
  rw [this]
def hpB(x y:ByteArray):Bool:=y.data.toList.isPrefixOf x.data.toList
theorem zH1{w:World}(x y:ByteArray):Calls Tryz.prog 239 #[.string x,.string y] w fun e w'=>e= .returned (.bool (hpB x y))∧w'=w:=by
 have H0:=zHG (w:=w) x.data.toList y.data.toList;rw [zCw,zCw,show y.data.toList.isPrefixOf x.data.toList=hpB x y from rfl] at H0;go_enter Tryz.func239,Tryz.ntmps239;go_wp2_with fail;refine H0.mono ?_;rintro e w1 ⟨rfl,rfl⟩;go_wp2_with fail;go_ret;exact ⟨rfl,rfl⟩
theorem zEh(l:List UInt8):(str l).data.toList=l:=by simp [str]
theorem zL9{one:List UInt8}{k:Nat}{s:List UInt8}(hk:k<s.length):zBw one (s.drop k)=if (s.drop k).isPrefixOf one then s.length - k else zBw one (s.drop (k+1)):=by
 rw [List.drop_eq_getElem_cons hk];unfold zBw;simp only [List.length_drop];rw [show s.length - (k+1)+1=s.length - k from by omega]
 cases hd:List.drop (k+1) s with
 |nil=>simp [zBw]
 |cons a l=>simp [zBw]
set_option maxHeartbeats 800000 in
theorem zOq{w:World}(one two seen:List UInt8)(hs:seen.length≤400):Calls Tryz.prog 238 #[.agg #[.string (str one),.string (str two)],.string (str seen)] w fun e w'=>e= .returned (.int .i64 (zBw one seen))∧Ch [] w w':=by
 have B0:=zAD.new w #[.string (str one),.string (str two)] 182;have g0:=Ch.alloc [] w (.cells #[.string (str one),.string (str two)] 182);go_enter Tryz.func238,Tryz.ntmps238;go_wp2_with fail;generalize w.alloc (.cells #[.string (str one),.string (str two)] 182)=w0 at *;generalize w.heap.size=H at *;have HZ:=hide (zA1 seen)
 have hn:(str seen).size≤400:=by rw [zA1];exact hs
 have HX:Hid (∀k,hpB (str one) ((str seen).extract k (str seen).size)=(seen.drop k).isPrefixOf one):=fun k=>by unfold hpB;rw [zC7,zEh,zEh,HZ.out,List.take_of_length_le (by simp)]
 go_loopw [5,8] (fun _ i w5=>∃k:Nat,k≤(str seen).size∧i= .int .i64 k∧Hid (zBw one (seen.drop k)=zBw one seen)∧zAD w5 H #[.string (str one),.string (str two)] 182∧Ch [] w w5) (fun _ i _=>(str seen).size - (intOf i).toNat)
 case atStart=>exact ⟨0,Nat.zero_le _,rfl,by show _=_;simp,B0,g0⟩
 case round=>
  obtain ⟨k,hk,rfl,HB,B5,g5⟩:=hrel;have d0:=B5.cell 0 _ rfl;have HP:=hide (HX.out k);clear HX
  by_cases hlt:(k:Int)<(str seen).size
  ·have HC:=hide (zL9 (one:=one) (show k<seen.length by have:=HZ.out;omega))
   go_wp2_with fail;go_quiet ((go_at_call 239;exact Calls.quiet_of_same (zH1 _ _)));go_wp2_with fail
   ·rename_i hp
    go_ret;refine ⟨?_,g5.trans (Ch.drewN _ _ _)⟩;rw [← HB.out,HC.out,if_pos (HP.out.symm.trans hp),← HZ.out]
    go_num
   ·rename_i hp
    refine ⟨⟨k+1,by omega,by go_num,?_,B5.keep (Ch.drewN [] _ _) (by simp),g5.trans (Ch.drewN _ _ _)⟩,by simp [intOf];omega⟩
    show _=_
    rw [← HB.out,HC.out,HP.out.symm.trans hp];rfl
  ·have HD:Hid (zBw one seen=0):=by
    show _=_
    rw [← HB.out,List.drop_of_length_le (by have:=HZ.out;omega)];rfl
   go_wp2_with fail;go_ret;exact ⟨by rw [HD.out];rfl,g5⟩
theorem zJk{w:World}(one two:List UInt8)(h:Nat)(hh:h≤one.length)(h4:one.length≤4):
  Calls Tryz.prog 236 #[.agg #[.string (str one),.string (str two)],.int .u8 h] w fun e w'=>e= .returned (.string (str (one.take h)))∧Ch [] w w':=by
 have HZ:=hide (zA1 one)
 have hn:(h:Int)≤(str one).size:=by rw [zA1];omega
 have hn2:(str one).size≤4:=by rw [zA1];exact h4
 go_enter Tryz.func236,Tryz.ntmps236;go_wp2_with fail;go_ret;refine ⟨?_,Ch.alloc _ _ _⟩
 show Ending.returned (.string ((str one).extract 0 h))=_
 rw [zC7,List.drop_zero,Nat.sub_zero]
set_option maxHeartbeats 800000 in
theorem zKc{w:World}(one two:List UInt8)(h:Nat)(hh:h<one.length)(h4:one.length≤4)(c:UInt8):
  Calls Tryz.prog 237 #[.agg #[.string (str one),.string (str two)],.int .u8 h,.int .u8 c.toNat] w fun e w'=>e= .returned (.tuple #[.int .u8 (zBx one two h c).1,.string (str (zBx one two h c).2)])∧Ch [] w w':=by
 have B0:=zAD.new w #[.string (str one),.string (str two)] 182;have g0:=Ch.alloc [] w (.cells #[.string (str one),.string (str two)] 182)
 have hn:(h:Int)≤(str one).size:=by rw [zA1];omega
 have hn2:(str one).size≤4:=by rw [zA1];exact h4
 go_enter Tryz.func237,Tryz.ntmps237;go_wp2_with fail;generalize w.alloc (.cells #[.string (str one),.string (str two)] 182)=w0 at *;generalize w.heap.size=H at *;have c0:=B0.cell 0 _ rfl;have c1:=B0.cell 1 _ rfl;have hc1:(str [c]).size=1:=zA1 _
 have HS:Hid ((str one).extract 0 h++str [c]=str (one.take h++[c])):=by
  show _=_
  rw [zC7,zMF,List.drop_zero,Nat.sub_zero]
 have hl:(one.take h++[c]).length≤400:=by simp;omega
 have HSW:Hid (zBx one two h c=if one.take h++[c]=one then (0,two) else (zBw one (one.take h++[c]),(one.take h++[c]).take ((one.take h++[c]).length - zBw one (one.take h++[c])))):=rfl
 have HL2:Hid ((one.take h++[c]).length≤one.length):=by show _≤_;simp;omega
 go_cut [8] (fun s8 wx=>s8= .string (str (one.take h++[c]))∧zAD wx H #[.string (str one),.string (str two)] 182∧Ch [] w wx)
 case first=>
  go_region_with ((go_at_call 158;refine (zJb c).mono ?_;rintro e w1 ⟨rfl,g1⟩;have B1:zAD w1 H _ _:=zAD.keep (zAD.keep B0 (Ch.drew [] w0) (by simp)) g1 (by simp);have e0:=B1.cell 0 _ rfl))
  all_goals
   go_wp2_with fail;go_meet;exact ⟨by rw [HS.out],B1,g0.trans ((Ch.drew _ _).trans g1)⟩
 case rest=>
  obtain ⟨rfl,B2,g2⟩:=hcut;clear c0 c1 HS;generalize hX:one.take h++[c]=X at *;clear hX;have d0:=B2.cell 0 _ rfl;have d1:=B2.cell 1 _ rfl
  by_cases hq:X=one
  ·obtain ⟨q1,q2⟩:=zCe (congrArg str hq)
   have HQ:=hide hq;clear hq;go_wp2_with fail;go_quiet (fail);go_wp2_with fail;go_ret2;exact ⟨by rw [HSW.out,if_pos HQ.out];rfl,g2.trans (Ch.drewN _ _ _)⟩
  ·obtain ⟨q1,q2⟩:=zBy (a:=str X) (b:=str one) (fun e=>hq (by have:=congrArg (fun z=>z.data.toList) e;simpa [zEh] using this))
   have HQ:=hide hq;clear hq;go_wp2_with fail;refine (zOq one two X hl).mono ?_;rintro e w3 ⟨rfl,g3⟩;have HB:=hide (zFA one X);have HN:=hide (zA1 X)
   have hb1:(zBw one X:Int)≤(str X).size:=by have:=HB.out;have:=HN.out;omega
   have hb2:(str X).size≤4:=by have:=HL2.out;have:=HN.out;omega
   generalize hbq:zBw one X=n at *;clear hbq;go_wp2_with fail;go_quiet (fail);go_wp2_with fail;go_ret2;refine ⟨?_,g2.trans (g3.trans (Ch.drewN _ _ _))⟩;rw [HSW.out,if_neg HQ.out]
   show Ending.returned (.tuple #[.int .u8 n,.string ((str X).extract 0 ((str X).size - n))])=_
   rw [zC7,HN.out,List.drop_zero,Nat.sub_zero]
theorem zIY{w:World}(c:UInt8):Calls Tryz.prog 179 #[.int .u8 c.toNat] w fun e w'=>e= .returned (.int .u8 (capB c).toNat)∧w'=w:=by
 have hc:=c.toNat_lt;have HN:=hide (zLP c);generalize ((capB c).toNat:Int)=r at *;generalize c.toNat=n at *
 by_cases h1:(97:Int)≤n
 ·by_cases h2:(n:Int)≤122
  ·have q:r=(n:Int) - 32:=by rw [HN.out,if_pos ⟨by omega,by omega⟩]
   have Q:=hide q;clear q;go_enter Tryz.func179,Tryz.ntmps179;go_wp2_with fail;go_ret;exact ⟨by rw [Q.out];first | rfl | (congr 2;simp;omega),rfl⟩
  ·have q:r=(n:Int):=by rw [HN.out,if_neg (by omega)]
   have Q:=hide q;clear q;go_enter Tryz.func179,Tryz.ntmps179;go_wp2_with fail;go_ret;exact ⟨by rw [Q.out];rfl,rfl⟩
 ·have q:r=(n:Int):=by rw [HN.out,if_neg (by omega)]
  have Q:=hide q;clear q;go_enter Tryz.func179,Tryz.ntmps179;go_wp2_with fail;go_ret;exact ⟨by rw [Q.out];rfl,rfl⟩
theorem zJS{w:World}(c:UInt8):Calls Tryz.prog 181 #[.int .u8 c.toNat] w fun e w'=>e= .returned (.int .u8 (litB c).toNat)∧w'=w:=by
 have hc:=c.toNat_lt;have HN:=hide (zLM c);generalize ((litB c).toNat:Int)=r at *;generalize c.toNat=n at *
 by_cases h1:(65:Int)≤n
 ·by_cases h2:(n:Int)≤90
  ·have q:r=(n:Int)+32:=by rw [HN.out,if_pos ⟨by omega,by omega⟩]
   have Q:=hide q;clear q;go_enter Tryz.func181,Tryz.ntmps181;go_wp2_with fail;go_ret;exact ⟨by rw [Q.out];first | rfl | (congr 2;simp;omega),rfl⟩
  ·have q:r=(n:Int):=by rw [HN.out,if_neg (by omega)]
   have Q:=hide q;clear q;go_enter Tryz.func181,Tryz.ntmps181;go_wp2_with fail;go_ret;exact ⟨by rw [Q.out];rfl,rfl⟩
 ·have q:r=(n:Int):=by rw [HN.out,if_neg (by omega)]
  have Q:=hide q;clear q;go_enter Tryz.func181,Tryz.ntmps181;go_wp2_with fail;go_ret;exact ⟨by rw [Q.out];rfl,rfl⟩
def zBe(f:Nat→List UInt8):Array Value:=((List.range 256).map fun j=>Value.string (str (f j))).toArray
theorem zJY(f:Nat→List UInt8){j:Nat}(hj:j<256):(zBe f)[j]? =some (.string (str (f j))):=by
 simp [zBe,hj]
theorem zMY(f:Nat→List UInt8){i:Nat}(_hi:i<256)(x:List UInt8):(zBe f).setIfInBounds i (.string (str x))=zBe (fun j=>if j=i then x else f j):=by
 apply Array.ext
 ·simp [zBe]
 ·intro j h1 h2
  simp [zBe] at h1 h2
  by_cases e:i=j
  ·subst e;simp [zBe]
  ·simp [zBe,e,Ne.symm e]
theorem zD6{f g:Nat→List UInt8}(h:∀j,j<256→f j=g j):zBe f=zBe g:=by
 unfold zBe
 congr 1
 apply List.map_congr_left;intro j hj;rw [h j (by simpa using hj)]
theorem zJa{w:World}(rb:Nat)(h:Nat):Calls Tryz.prog 241 #[.pointer (some ⟨rb,0,none⟩),.int .u8 h] w fun e w'=>e= .returned (.string (str []))∧w'=w:=by
 go_enter Tryz.func241,Tryz.ntmps241;go_wp2_with fail;go_ret;exact ⟨rfl,rfl⟩
set_option maxHeartbeats 800000 in
theorem zJT{w:World}{rb:Nat}{f:Nat→List UInt8}(hB:zAD w rb (zBe f) 219)(h:Nat)(c:UInt8):Calls Tryz.prog 242 #[.pointer (some ⟨rb,0,none⟩),.int .u8 h,.int .u8 c.toNat] w fun e w'=>e= .returned (.tuple #[.int .u8 0,.string (str (f c.toNat))])∧Ch [] w w':=by
 have hc:=c.toNat_lt;have d:=hB.cell c.toNat _ (zJY f hc);generalize c.toNat=n at *
 have hc':(n:Int)<256:=by omega
 go_enter Tryz.func242,Tryz.ntmps242;go_wp2_with fail;go_quiet (fail);go_wp2_with fail;go_ret2;exact ⟨rfl,Ch.drewN _ _ _⟩
end Go.Proofs.YteobgfbgglfkbaaGreat
namespace Go.Proofs.YteobgfbgglfkbaaGreat
open Go.RowKit
def renB:Go.Shelf.Ren:=⟨fun | 166=>199 | 167=>81 | 169=>46 | 240=>120 | 276=>155 | n=>n,fun | 0=>0 | 3=>3 | 4=>4 | 5=>5 | 9=>9 | 20=>20 | 37=>124 | 70=>123 | 72=>126 | 75=>175 | 80=>128 | 127=>185 | 164=>267 | n=>n,fun n=>n⟩
theorem lays166:Go.Proofs.Lays.n166 Tryz.prog renB:={
 mixed:=by kernel_rfl
 f166:=Tryz.func199.trans (congrArg some (by kernel_rfl))
 f240:=Tryz.func120.trans (congrArg some (by kernel_rfl))
 f276:=Tryz.func155.trans (congrArg some (by kernel_rfl))
 t0:=Tryz.underlying0
 a0:=Tryz.isAgg0
 z0:=Tryz.sizeOf0
 v0:=Tryz.zeroValue0
 t3:=Tryz.underlying3
 a3:=Tryz.isAgg3
 z3:=Tryz.sizeOf3
 v3:=Tryz.zeroValue3
 t4:=Tryz.underlying4
 a4:=Tryz.isAgg4
 z4:=Tryz.sizeOf4
 v4:=Tryz.zeroValue4
 t9:=Tryz.underlying9
 a9:=Tryz.isAgg9
 z9:=Tryz.sizeOf9
 v9:=Tryz.zeroValue9
 t20:=Tryz.underlying20
 a20:=Tryz.isAgg20
 z20:=Tryz.sizeOf20
 v20:=Tryz.zeroValue20
 t37:=Tryz.underlying124
 a37:=Tryz.isAgg124
 z37:=Tryz.sizeOf124
 v37:=Tryz.zeroValue124
 t70:=Tryz.underlying123
 a70:=Tryz.isAgg123
 z70:=Tryz.sizeOf123
 v70:=Tryz.zeroValue123
 t72:=Tryz.underlying126
 a72:=Tryz.isAgg126
 z72:=Tryz.sizeOf126
 v72:=Tryz.zeroValue126
 t75:=Tryz.underlying175
 a75:=Tryz.isAgg175
 z75:=Tryz.sizeOf175
 v75:=Tryz.zeroValue175
 t164:=Tryz.underlying267
 a164:=Tryz.isAgg267
 z164:=Tryz.sizeOf267
 v164:=Tryz.zeroValue267}
theorem lays167:Go.Proofs.Lays.n167 Tryz.prog renB:={
 mixed:=by kernel_rfl
 f167:=Tryz.func81.trans (congrArg some (by kernel_rfl))
 f240:=Tryz.func120.trans (congrArg some (by kernel_rfl))
 f276:=Tryz.func155.trans (congrArg some (by kernel_rfl))
 t0:=Tryz.underlying0
 a0:=Tryz.isAgg0
 z0:=Tryz.sizeOf0
 v0:=Tryz.zeroValue0
 t4:=Tryz.underlying4
 a4:=Tryz.isAgg4
 z4:=Tryz.sizeOf4
 v4:=Tryz.zeroValue4
 t5:=Tryz.underlying5
 a5:=Tryz.isAgg5
 z5:=Tryz.sizeOf5
 v5:=Tryz.zeroValue5
 t9:=Tryz.underlying9
 a9:=Tryz.isAgg9
 z9:=Tryz.sizeOf9
 v9:=Tryz.zeroValue9
 t20:=Tryz.underlying20
 a20:=Tryz.isAgg20
 z20:=Tryz.sizeOf20
 v20:=Tryz.zeroValue20
 t37:=Tryz.underlying124
 a37:=Tryz.isAgg124
 z37:=Tryz.sizeOf124
 v37:=Tryz.zeroValue124
 t70:=Tryz.underlying123
 a70:=Tryz.isAgg123
 z70:=Tryz.sizeOf123
 v70:=Tryz.zeroValue123
 t72:=Tryz.underlying126
 a72:=Tryz.isAgg126
 z72:=Tryz.sizeOf126
 v72:=Tryz.zeroValue126
 t75:=Tryz.underlying175
 a75:=Tryz.isAgg175
 z75:=Tryz.sizeOf175
 v75:=Tryz.zeroValue175
 t164:=Tryz.underlying267
 a164:=Tryz.isAgg267
 z164:=Tryz.sizeOf267
 v164:=Tryz.zeroValue267}
theorem zNE:Go.Proofs.Lays.n169 Tryz.prog renB:={
 mixed:=by kernel_rfl
 f169:=Tryz.func46.trans (congrArg some (by kernel_rfl))
 t0:=Tryz.underlying0
 a0:=Tryz.isAgg0
 z0:=Tryz.sizeOf0
 v0:=Tryz.zeroValue0
 t3:=Tryz.underlying3
 a3:=Tryz.isAgg3
 z3:=Tryz.sizeOf3
 v3:=Tryz.zeroValue3
 t9:=Tryz.underlying9
 a9:=Tryz.isAgg9
 z9:=Tryz.sizeOf9
 v9:=Tryz.zeroValue9
 t37:=Tryz.underlying124
 a37:=Tryz.isAgg124
 z37:=Tryz.sizeOf124
 v37:=Tryz.zeroValue124
 t70:=Tryz.underlying123
 a70:=Tryz.isAgg123
 z70:=Tryz.sizeOf123
 v70:=Tryz.zeroValue123
 t72:=Tryz.underlying126
 a72:=Tryz.isAgg126
 z72:=Tryz.sizeOf126
 v72:=Tryz.zeroValue126
 t127:=Tryz.underlying185
 a127:=Tryz.isAgg185
 z127:=Tryz.sizeOf185
 v127:=Tryz.zeroValue185}
theorem zLS:Go.Proofs.Builder.Extra Tryz.prog renB:={
 sizeBuilder:=by kernel_rfl
 liesBuilder:=by kernel_rfl
 t5:=Tryz.underlying5
 a5:=Tryz.isAgg5
 z5:=Tryz.sizeOf5
 v5:=Tryz.zeroValue5
 infoByte:=by kernel_rfl
 cellsByte:=by kernel_rfl
 sizeByte:=by kernel_rfl
 neB5:=by decide}
end Go.Proofs.YteobgfbgglfkbaaGreat
namespace Go.Proofs.YteobgfbgglfkbaaGreat
open Go.RowKit
attribute [local go_sem ↓] Go.wp_at_zero Go.wp_at_succ
def IsB(w:World)(B b:Nat)(l:List UInt8):Prop:=Lib.IsBuilderF 126 5 B b (Lib.byteCells l) w
def Fr(B st b:Nat)(w w':World):Prop:=Below B w w'∧∀k o,w.heap[k]? =some o→k≠st→k≠b→(∀c fz,o≠ .cells c 5 fz)→w'.heap[k]? =some o
theorem Fr.refl(B st b:Nat)(w:World):Fr B st b w w:=⟨Below.refl _ _,fun _ _ h _ _ _=>h⟩
theorem Fr.trans{B st b:Nat}{w1 w2 w3:World}(h:Fr B st b w1 w2)(g:Fr B st b w2 w3):Fr B st b w1 w3:=
 ⟨h.1.trans g.1,fun k o hk h1 h2 h3=>g.2 k o (h.2 k o hk h1 h2 h3) h1 h2 h3⟩
theorem Fr.of{B b:Nat}(st:Nat){w w':World}(h:Below B w w')(g:Lib.OthersKept 5 (some b) w w'):Fr B st b w w':=
 ⟨h,fun k o hk _ h2 h3=>g k o hk (fun e=>h2 (Option.some.inj e)) h3⟩
theorem Fr.ch{B st b:Nat}{w w':World}{X:List Nat}(g:Ch X w w')(hB:B≤w.heap.size)(hX:∀k,k∈X→B≤k∧(k=st∨k=b)):Fr B st b w w':=
 ⟨g.below hB (fun k hk=>(hX k hk).1),fun k o hk h1 h2 _=>by
  have hlt:k<w.heap.size:=(Array.getElem?_eq_some_iff.1 hk).1;rw [g.block k hlt (fun e=>by have:=(hX k e).2;omega)]
  exact hk⟩
theorem Fr.size{B st b:Nat}{w w':World}(h:Fr B st b w w'):w.heap.size≤w'.heap.size:=h.1.size
theorem Fr.blk{B st b:Nat}{w w':World}(h:Fr B st b w w'){k:Nat}{cs:Array Value}{T:TypeId}(hk:zAD w k cs T)(h1:k≠st)(h2:k≠b)(hT:T≠5):zAD w' k cs T:=
 h.2 k _ hk h1 h2 (fun c fz e=>hT (by injection e))
theorem IsB.keep{w w':World}{B b:Nat}{l:List UInt8}{X:List Nat}(h:IsB w B b l)(g:Ch X w w')(hb:b∉X)(hX:∀k,k∈X→∀c fz,w.heap[k]? ≠some (.cells c 5 fz)):IsB w' B b l:=by
 have key:∀p,Lib.BuilderAtF 126 5 B b p (Lib.byteCells l) w→Lib.BuilderAtF 126 5 B b p (Lib.byteCells l) w':=by
  rintro p ⟨hB,v,hbk,hown,hne⟩;have hlt:b<w.heap.size:=(Array.getElem?_eq_some_iff.1 hbk).1;refine ⟨hB,v,(g.block b hlt hb).trans hbk,⟨hown.1,?_⟩,hne⟩
  rcases hown.2 with h0 | ⟨gg,cap,cur,fz,hv,hr⟩
  ·exact Or.inl h0
  ·refine Or.inr ⟨gg,cap,cur,fz,hv,?_⟩
   obtain ⟨h1,h2,h3⟩:=hr;have hl2:gg<w.heap.size:=(Array.getElem?_eq_some_iff.1 h2).1;exact ⟨h1,(g.block gg hl2 (fun e=>hX gg e _ _ h2)).trans h2,h3⟩
 rcases h with h | h
 ·exact Or.inl (key _ h)
 ·exact Or.inr (key _ h)
theorem IsB.lt{w:World}{B b:Nat}{l:List UInt8}(h:IsB w B b l):B≤b∧b<w.heap.size:=by
 rcases h with h | h
 ·exact ⟨h.1,h.lt⟩
 ·exact ⟨h.1,h.lt⟩
theorem IsB.kind{w:World}{B b:Nat}{l:List UInt8}(h:IsB w B b l):∃cs,w.heap[b]? =some (.cells cs 126 (0,0)):=by
 rcases h with ⟨_,v,h,_⟩ | ⟨_,v,h,_⟩
 ·exact ⟨_,h⟩
 ·exact ⟨_,h⟩
theorem zIF(w:World){B:Nat}(hB:B≤w.heap.size):IsB (w.alloc (.cells #[.pointer none,.slice none 0 0] 126)) B w.heap.size []:=
 Or.inl ⟨hB,.slice none 0 0,zAH _ _,⟨by simp [Lib.byteCells],Or.inl ⟨rfl,rfl⟩⟩,by simp [Value.ownBlock]⟩
theorem zCt{w:World}{B b:Nat}{l:List UInt8}(st:Nat)(h:IsB w B b l)(c:UInt8)(hl:l.length+1≤140737488355328)(hB:B≤w.heap.size):
  Calls Tryz.prog 81 #[.pointer (some ⟨b,0,none⟩),.int .u8 c.toNat] w fun e w'=>e= .returned .nilIface∧IsB w' B b (l++[c])∧Fr B st b w w':=by
 refine (Any.Builder_WriteByte_k lays167 zLS B b (Lib.byteCells l) c.toNat w h (by rw [Lib.byteCells_length];exact hl) hB).mono ?_;rintro e w' ⟨rfl,h1,h2,h3⟩;refine ⟨rfl,?_,Fr.of st h2 h3⟩;unfold IsB;rw [Lib.byteCells_append];exact Or.inr h1
theorem zGi{w:World}{B b:Nat}{l:List UInt8}(st:Nat)(h:IsB w B b l)(m:List UInt8)(hl:l.length+m.length≤140737488355328)(hB:B≤w.heap.size):
  Calls Tryz.prog 199 #[.pointer (some ⟨b,0,none⟩),.string (str m)] w fun e w'=>e= .returned (.tuple #[.int .i64 (str m).size,.nilIface])∧IsB w' B b (l++m)∧Fr B st b w w':=by
 refine (Any.Builder_WriteString_k lays166 zLS B b (Lib.byteCells l) (str m) w h (by rw [Lib.byteCells_length,zA1];exact hl) hB).mono ?_;rintro e w' ⟨rfl,h1,h2,h3⟩;refine ⟨rfl,?_,Fr.of st h2 h3⟩;unfold IsB;rw [Lib.byteCells_append];exact Or.inr h1
theorem zGc{w:World}{B b:Nat}{l:List UInt8}(st:Nat)(h:IsB w B b l)(hB:B≤w.heap.size):
  Calls Tryz.prog 46 #[.pointer (some ⟨b,0,none⟩)] w fun e w'=>e= .returned (.string (str l))∧Fr B st b w w':=by
 refine (Any.Builder_String_any_k zNE zLS B b l w h hB).mono ?_;rintro e w' ⟨rfl,h1,h2,h3⟩;exact ⟨rfl,Fr.of st h2 h3⟩
end Go.Proofs.YteobgfbgglfkbaaGreat
