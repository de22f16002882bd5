import Derived.Test.YteobgfbgglfkbaaGreatAS5
import Derived.Test.YteobgfbgglfkbaaGreatAS7
set_option maxHeartbeats 6400000
set_option maxRecDepth 100000
namespace Go.Proofs.YteobgfbgglfkbaaGreat
open Go.RowKit
attribute [local go_sem ↓] Go.wp_at_zero Go.wp_at_succ
def zm(w:World)(v:Value)(M:List (Nat->Bool)):Prop:=∃nq:Nat->Nat->Nat,w.ownsRow 0 240 4 v M.length (ya nq M.length)/\∀(i:Nat) f,M[i]? =some f->zU (nq i) f
theorem zm.kp{w w':World}{v:Value}{M:List (Nat->Bool)}{Y:List Nat}(h:zm w v M)(c:Ch Y w w')(hv:∀q,v.ownBlock=some q->q∉Y):zm w' v M:=by
 obtain⟨nq,h1,h2⟩:=h;exact⟨nq,zJ h1 c hv,h2⟩
theorem zm.slice{w:World}{v:Value}{M:List (Nat->Bool)}(h:zm w v M):∃a c,v= .slice a M.length c:=by
 obtain⟨nq,h1,_⟩:=h;exact zQ h1
theorem zm.lt{w:World}{v:Value}{M:List (Nat->Bool)}(h:zm w v M):∀q,v.ownBlock=some q->q<w.heap.size:=by
 obtain⟨nq,h1,_⟩:=h
 exact fun q hq=>(h1.lt q hq).2
theorem zm.nil(w:World):zm w (.slice none 0 0) []:=⟨fun _ _=>0,⟨rfl,Or.inl ⟨rfl,rfl⟩⟩,fun i f h=>by simp at h⟩
theorem zm.snoc{w:World}{v:Value}{M:List (Nat->Bool)}{nq:Nat->Nat->Nat}(h2:∀(i:Nat) f,M[i]? =some f->zU (nq i) f){q:Nat->Nat}{f:Nat->Bool}(hq:zU q f)(own:w.ownsRow 0 240 4 v (M.length+1) (ya nq M.length++[.int .u64 (q 0),.int .u64 (q 1),.int .u64 (q 2),.int .u64 (q 3)])):zm w v (M++[f]):=by
 refine⟨fun i=>if i=M.length then q else nq i,?_,fun i g hi=> ?_⟩
 ·rw[List.length_append,List.length_singleton,Bi]
  simp only[if_true];rw[Qo (nq':=nq) (fun p t hp _=>by simp only[if_neg (show ¬p=M.length by omega)])];exact own
 ·by_cases e:i<M.length
  ·simp only[if_neg (show ¬i=M.length by omega)]
   exact h2 i g (by rwa [List.getElem?_append_left e]at hi)
  ·have e2:i=M.length:=by
    have:=(List.getElem?_eq_some_iff.1 hi).1;simp at this;omega
   subst e2;rw[List.getElem?_concat_length]at hi;have:=Option.some.inj hi;subst this;simp only[if_true];exact hq
theorem RY(M:List (Nat->Bool))(b c:Nat){j:Nat}{f:Nat->Bool}(hj:M[j]? =some f):JL (M.take (j+1)) b c=(JL (M.take j) b c && (f b==f c)):=by
 obtain⟨h1,rfl⟩:=List.getElem?_eq_some_iff.1 hj;rw[List.take_succ_eq_append_getElem h1];simp only[JL,List.all_append,List.all_cons,List.all_nil,Bool.and_true]
theorem aZ{w:World}{v:Value}{M:List (Nat->Bool)}(h:zm w v M)(hM:M.length<=16777216){b c:Nat}(hb:b<256)(hc:c<256):
 Calls Tryz.prog 174 #[v,.int .u8 b,.int .u8 c] w fun e w'=>e= .returned (.bool (!JL M b c))/\Ch [] w w':=by
 obtain⟨a,k,rfl⟩:=h.slice;obtain⟨nq,hR,hF⟩:=h;have HR:=zC hR;have HF:=zC hF;clear hR hF;go_enter Tryz.func174,Tryz.ntmps174;go_wp2_with fail
 go_loopw [11] (fun iv w5=>∃j:Nat,iv= .int .i64 j/\j<=M.length/\Hd (JL (M.take j) b c=true/\Ch [] w w5)) (fun iv _=>M.length - (intOf iv).toNat)
 case atStart=>exact⟨0,rfl,Nat.zero_le _,by show _/\_;exact⟨by simp[JL],Ch.refl _ _⟩⟩
 case round=>
  generalize wr=w5 at *;obtain⟨j,rfl,hj,H5⟩:=hrel
  by_cases hlt:(j:Int)<M.length
  ·have hj2:j<M.length:=by omega
   have hj0:(0:Int)<=j:=by omega
   obtain⟨f,hf⟩:∃f,M[j]? =some f:=⟨_,List.getElem?_eq_getElem hj2⟩;have hq:=HF.o j f hf;have R5:=zJ HR.o H5.o.2 (by simp)
   obtain⟨g,hg⟩:∃g,a=some ⟨g,0,none⟩:=by
    rcases R5.2 with⟨_,h0⟩|⟨g,cap,cur,h,_⟩
    ·omega
    ·injection h with h
     exact⟨g,h⟩
   subst hg;obtain⟨r0,r1,r2,r3,rf⟩:=UF R5 hj2 (q:=nq j) (fun _ _=>rfl);have g6:=Ch.alloc [] w5 (.cells (zK (nq j)) 240);have D6:=zE.new w5 (zK (nq j)) 240;have hw6:w5.alloc (.cells #[.int .u64 (nq j 0:Nat),.int .u64 (nq j 1:Nat),.int .u64 (nq j 2:Nat),.int .u64 (nq j 3:Nat)] 240)=w5.alloc (.cells (zK (nq j)) 240):=rfl;generalize w5.alloc (.cells (zK (nq j)) 240)=w6 at *;obtain⟨d0,d1,d2,d3⟩:=D6.c4
   have CELL:Hd (∀W,Ch [] w6 W->(W.cell? ⟨w5.heap.size,0,none⟩=some (.int .u64 (nq j 0:Nat))/\W.cell? ⟨w5.heap.size,1,none⟩=some (.int .u64 (nq j 1:Nat))/\W.cell? ⟨w5.heap.size,2,none⟩=some (.int .u64 (nq j 2:Nat))/\W.cell? ⟨w5.heap.size,3,none⟩=some (.int .u64 (nq j 3:Nat))/\Ch [] w6 W)):=fun W cW=>by
    obtain⟨x0,x1,x2,x3⟩:=(D6.kp cW (by simp)).c4;exact⟨x0,x1,x2,x3,cW⟩
   have HAS:Hd (∀W z,z<256->Calls Tryz.prog 156 #[.agg #[.int .u64 (nq j 0:Nat),.int .u64 (nq j 1:Nat),.int .u64 (nq j 2:Nat),.int .u64 (nq j 3:Nat)],.int .u8 (z:Nat)] W fun e w'=>e= .returned (.bool (f z))/\Ch [] W w'):=fun W z hz=>Wg hq z hz
   have HC6:=zC (H5.o.2.trans g6);have HAL:=zC H5.o.1;have HTK:=zC (RY M b c hf)
   have e1:IntKind.i64.wrap ((j:Int)+1)=((j+1:Nat):Int):=by rw[IntKind.wrap_i64];omega
   clear hq R5 D6 g6;go_wp2_with fail
   go_region_held3 (fun w'=>w'.cell? ⟨w5.heap.size,0,none⟩=some (.int .u64 (nq j 0:Nat))/\w'.cell? ⟨w5.heap.size,1,none⟩=some (.int .u64 (nq j 1:Nat))/\w'.cell? ⟨w5.heap.size,2,none⟩=some (.int .u64 (nq j 2:Nat))/\w'.cell? ⟨w5.heap.size,3,none⟩=some (.int .u64 (nq j 3:Nat))/\Ch [] w6 w') (first|(exact E7)|(exact CELL.o _ (by repeat' (first|assumption|exact Ch.refl _ _|refine Ch.trans ?_ (Ch.drew [] _))))|go_keep) (first|(go_at_call 156;refine(HAS.o _ _ (by first|exact hb|exact hc)).mono ?_;rintro e w7 ⟨rfl,k7⟩;have K7:Ch [] w6 w7:=Ch.trans (by repeat' (first|assumption|exact Ch.refl _ _|refine Ch.trans ?_ (Ch.drew [] _))) k7;have E7:=CELL.o w7 K7))
   all_goals
    have HC7:=zC (HC6.o.trans K7)
    cases hbc:(f b==f c)with
    |true=>
     have HA7:Hd (JL (M.take (j+1)) b c=true):=by show _=_;rw[HTK.o,HAL.o,hbc];rfl
     go_wp2_with fail;exact⟨⟨j+1,by simp,by omega,by show _/\_;exact⟨HA7.o,HC7.o⟩⟩,by simp[intOf];omega⟩
    |false=>
     have HA7:Hd (JL M b c=false):=by
      show _=_
      unfold JL;rw[List.all_eq_false];exact⟨f,List.mem_of_getElem? hf,by simp[hbc]⟩
     go_wp2_with fail;go_ret;exact⟨by rw[HA7.o];rfl,HC7.o⟩
  ·have e:j=M.length:=by omega
   subst e;have HA:=H5.o.1;rw[List.take_length]at HA;have HC:=zC H5.o.2;have HAx:=zC HA;clear HA H5;go_wp2_with fail;go_ret;exact⟨by rw[HAx.o];rfl,HC.o⟩
def Qy(w:World)(n:Nat)(cap:Array Value)(p:UInt8->Bool):Prop:=(∀(args:Array Value) (W:World),Sem.run Tryz.prog (callFunc n args) W= .ok (.enter n args) W)/\∀W,Ch [] w W->∀z:UInt8,Calls Tryz.prog n (#[.int .u8 (z.toNat)]++cap) W fun e w'=>e= .returned (.bool (p z))/\Ch [] W w'
theorem GO{w:World}{v:Value}{xs:List UInt8}(hR:w.ownsRow 0 5 1 v xs.length (jJ xs))(hx:xs.length<=1000){n:Nat}{cap:Array Value}{p:UInt8->Bool}(hp:Qy w n cap p):
 Calls Tryz.prog 205 #[v,.func (.func n) #[] cap] w fun e w'=>∃i:Int,e= .returned (.int .i64 i)/\(xs.any p=true↔0<=i)/\Ch [] w w':=by
 obtain⟨a,k,rfl⟩:=zQ hR;have HR:=zC hR;have HP:=zC hp.2;have hen:=hp.1;clear hR hp;go_enter Tryz.func205,Tryz.ntmps205;go_wp2_with fail
 go_loopw [8] (fun iv w5=>∃j:Nat,iv= .int .i64 j/\j<=xs.length/\Hd ((xs.take j).any p=false/\Ch [] w w5)) (fun iv _=>xs.length - (intOf iv).toNat)
 case atStart=>exact⟨0,rfl,Nat.zero_le _,by show _/\_;exact⟨by simp,Ch.refl _ _⟩⟩
 case round=>
  generalize wr=w5 at *;obtain⟨j,rfl,hj,H5⟩:=hrel
  by_cases hlt:(j:Int)<xs.length
  ·have hj2:j<xs.length:=by omega
   have hj0:(0:Int)<=j:=by omega
   have R5:=zJ HR.o H5.o.2 (by simp)
   obtain⟨g,hg⟩:∃g,a=some ⟨g,0,none⟩:=by
    rcases R5.2 with⟨_,h0⟩|⟨g,cap,cur,h,_⟩
    ·omega
    ·injection h with h
     exact⟨g,h⟩
   subst hg;obtain⟨z,hz⟩:∃z,xs[j]? =some z:=⟨_,List.getElem?_eq_getElem hj2⟩
   have cz:w5.cell? ⟨g,j,none⟩=some (.int .u8 (z.toNat)):=by
    rw[R5.cellAt j (by omega)];simp[jJ,hz]
   have CALL:=zC (HP.o w5 H5.o.2 z)
   have TK:(xs.take (j+1)).any p=((xs.take j).any p || p z):=by
    obtain⟨h1,rfl⟩:=List.getElem?_eq_some_iff.1 hz;rw[List.take_succ_eq_append_getElem h1,List.any_append];simp
   have HTK:=zC TK
   have e1:IntKind.i64.wrap ((j:Int)+1)=((j+1:Nat):Int):=by rw[IntKind.wrap_i64];omega
   clear TK R5;go_wp2_with fail;refine CALL.o.mono ?_;rintro e w6 ⟨rfl,c6⟩;have HC6:=zC (H5.o.2.trans c6)
   cases hpz:p z with
   |false=>
    have HN:Hd ((xs.take (j+1)).any p=false):=by show _=_;rw[HTK.o,H5.o.1,hpz];rfl
    go_wp2_with fail;exact⟨⟨j+1,by simp,by omega,by show _/\_;exact⟨HN.o,HC6.o⟩⟩,by simp[intOf];omega⟩
   |true=>
    have HN:Hd (xs.any p=true):=by show _=_;rw[List.any_eq_true];exact⟨z,List.mem_of_getElem? hz,hpz⟩
    go_wp2_with fail;go_ret;exact⟨j,rfl,⟨fun _=>hj0,fun _=>HN.o⟩,HC6.o⟩
  ·have e:j=xs.length:=by omega
   subst e;have HA:=H5.o.1;rw[List.take_length]at HA;have HC:=zC H5.o.2;have HAx:=zC HA;clear HA H5;go_wp2_with fail;go_ret;exact⟨-1,rfl,⟨fun h=>(by have h':xs.any p=true:=(by simpa using h);rw[HAx.o]at h';cases h'),fun h=>(by omega)⟩,HC.o⟩
theorem IA{w:World}{v:Value}{xs:List UInt8}(hR:w.ownsRow 0 5 1 v xs.length (jJ xs))(hx:xs.length<=1000){n:Nat}{cap:Array Value}{p:UInt8->Bool}(hp:Qy w n cap p):
 Calls Tryz.prog 175 #[v,.func (.func n) #[] cap] w fun e w'=>e= .returned (.bool (xs.any p))/\Ch [] w w':=by
 obtain⟨a,k,rfl⟩:=zQ hR;have HI:=zC (GO hR hx hp);clear hR hp;go_enter Tryz.func175,Tryz.ntmps175;go_wp2_with fail;refine HI.o.mono ?_;rintro e w1 ⟨i,rfl,hi,c1⟩;have HH:=zC hi;clear hi;go_wp2_with fail;go_ret;refine⟨?_,c1⟩
 have:xs.any p=decide (0<=i):=by rw[Bool.eq_iff_iff,HH.o,decide_eq_true_eq]
 rw[this]
 first|rfl|simp
theorem Pf{w:World}{mb bb:Nat}{v:Value}{M:List (Nat->Bool)}(h:zm w v M)(hM:M.length<=16777216)(hm:zE w mb #[v] 238){b:Nat}(hb:b<256)(hbb:zE w bb #[.int .i64 b] 3):Qy w 173 #[.pointer (some ⟨mb,0,none⟩),.pointer (some ⟨bb,0,none⟩)] (fun z=>JL M b z.toNat):=by
 refine⟨fun _ _=>by kernel_rfl,fun W c z=> ?_⟩;obtain⟨a,k,rfl⟩:=h.slice;have c0:=(hm.kp c (by simp)).cl 0 (.slice a M.length k) rfl;have c1:=(hbb.kp c (by simp)).cl 0 (.int .i64 b) rfl;have AP:=zC (aZ (h.kp c (by simp)) hM hb z.toNat_lt)
 have hw8:IntKind.u8.wrap (b:Int)=(b:Int):=by rw[IntKind.wrap_u8];omega
 clear h hm hbb
 show Calls Tryz.prog 173 #[.int .u8 (z.toNat),.pointer (some ⟨mb,0,none⟩),.pointer (some ⟨bb,0,none⟩)] W _
 go_enter Tryz.func173,Tryz.ntmps173;go_wp2_with fail;refine AP.o.mono ?_;rintro e w1 ⟨rfl,k1⟩;go_wp2_with fail;go_ret;refine⟨?_,k1⟩
 first|rfl|simp
theorem DJ{w:World}{v:Value}{M:List (Nat->Bool)}(h:zm w v M)(hM:M.length<=16777216):
 Calls Tryz.prog 137 #[v] w fun e w'=>∃lv,e= .returned lv/\w'.ownsRow 0 5 1 lv (yw M 256).length (jJ (yw M 256))/\(∀q,lv.ownBlock=some q->w.heap.size<=q)/\Ch [] w w':=by
 obtain⟨a,k,rfl⟩:=h.slice;have g0:=Ch.alloc [] w (.cells #[.slice a M.length k] 238);have B0:=zE.new w #[.slice a M.length k] 238;have HH:=zC h
 have hmf:∀(fn:Fn) (first cap:Array Value) (w:World),(Instr.makeFunc fn first cap).run Tryz.prog w= .ok (.func fn first cap) w:=fun _ _ _ _=>rfl
 clear h;go_enter Tryz.func137,Tryz.ntmps137;go_wp2_with fail;generalize w.alloc (.cells #[.slice a M.length k] 238)=w0 at *
 go_loopw [3,6] (fun lv iv w5=>∃b:Nat,iv= .int .i64 b/\b<=256/\Hd (w5.ownsRow 0 5 1 lv (yw M b).length (jJ (yw M b))/\(∀q,lv.ownBlock=some q->w0.heap.size<=q)/\Ch [] w0 w5)) (fun _ iv _=>256 - (intOf iv).toNat)
 case atStart=>exact⟨0,rfl,by omega,by show _/\_;exact⟨⟨rfl,Or.inl ⟨rfl,rfl⟩⟩,by intro q hq;simp[Value.ownBlock]at hq,Ch.refl _ _⟩⟩
 case round=>
  generalize wr=w5 at *;obtain⟨b,rfl,hb,H5⟩:=hrel
  by_cases hlt:(b:Int)<256
  ·have hb2:b<256:=by omega
   obtain⟨la,lc,hlv⟩:=zQ H5.o.1;subst hlv;have hlen:=UT M b;have g6:=Ch.alloc [] w5 (.cells #[.int .i64 b] 3);have B6:=zE.new w5 #[.int .i64 b] 3;have G6:Ch [] w (w5.alloc (.cells #[.int .i64 b] 3)):=(g0.trans H5.o.2.2).trans g6;have M6:=(B0.kp H5.o.2.2 (by simp)).kp g6 (by simp);have R6:=zJ H5.o.1 g6 (by simp)
   have hw8:IntKind.u8.wrap (b:Int)=(b:Int):=by rw[IntKind.wrap_u8];omega
   have e1:IntKind.i64.wrap ((b:Int)+1)=((b+1:Nat):Int):=by rw[IntKind.wrap_i64];omega
   have CF:=zC (IA R6 (by omega) (Pf (HH.o.kp G6 (by simp)) hM M6 hb2 B6));have HB6:=zC B6;have HR6:=zC R6;have HG6:=zC (H5.o.2.2.trans g6);have V5:=zC H5.o.2.1;have z5:=H5.o.2.2.size
   have z6:(w5.alloc (.cells #[.int .i64 b] 3)).heap.size=w5.heap.size+1:=by simp
   clear B6 R6 M6 G6 g6;generalize hw6:w5.alloc (.cells #[.int .i64 b] 3)=w6 at *;go_wp2_with fail;refine CF.o.mono ?_;rintro e w7 ⟨rfl,c7⟩;have HC7:=zC (HG6.o.trans c7);have R7:=zC (zJ HR6.o c7 (by simp));have z7:=c7.size;have B7:=HB6.o.kp c7 (by simp);have b0:=B7.cl 0 (.int .i64 b) rfl
   cases hany:(yw M b).any (fun z=>JL M b z.toNat)with
   |true=>
    have HL:Hd (yw M (b+1)=yw M b):=by show _=_;rw[yw,if_pos hany]
    go_wp2_with fail;exact⟨⟨b+1,by simp,by omega,by show _/\_;rw[HL.o];exact⟨R7.o,V5.o,HC7.o⟩⟩,by simp[intOf];omega⟩
   |false=>
    have HL:Hd (yw M (b+1)=yw M b++[UInt8.ofNat b]):=by show _=_;rw[yw,if_neg (by rw[hany];simp)]
    have gA:=Ch.alloc [] w7 (.cells #[.int .u8 b] 5);have O7:=zJ R7.o gA (by simp);have HGA:=zC (HC7.o.trans gA);clear B7;go_wp2_with (at_builtin;refine YZ 124 5 1 1 (.int .u8 0) Tryz.underlying124 Ka rfl (by omega) (by omega) (by rfl) _ _ (by rfl) (.slice la (yw M b).length lc) (yw M b).length _ (by rfl) O7 w7.heap.size [.int .u8 b] (by rfl) (zr _ _) rfl (by intro u hu;simp at hu;subst hu;rfl) (by omega) (w7.heap.size+1) (by simp) ?_;intro g8 cap8 w8 own8 gr8 hat8 hlt8);go_roundw
    case rel=>
     refine⟨b+1,by simp,by omega,?_⟩
     show _/\_
     rw[HL.o];refine⟨?_,fun q hq=> ?_,HGA.o.trans' gr8 (fun q hq=>Or.inr (V5.o q (by simpa using hq)))⟩
     ·have:jJ (yw M b++[UInt8.ofNat b])=jJ (yw M b)++[.int .u8 b]:=by
       have e:(UInt8.ofNat b).toNat=b:=by rw[UInt8.toNat_ofNat'];exact Nat.mod_eq_of_lt (by omega)
       simp[jJ,e]
      rw[this,List.length_append,List.length_singleton];exact own8
     ·have e:g8=q:=by simpa[Value.ownBlock]using hq
      subst e
      rcases hat8 with h|h
      ·exact V5.o _ h
      ·omega
    case measure=>simp[intOf];omega
  ·have e:b=256:=by omega
   subst e;have HC:=zC H5.o;go_wp2_with fail;go_ret;have z0:=g0.size;exact⟨_,rfl,HC.o.1,fun q hq=>by have:=HC.o.2.1 q hq;omega,g0.trans HC.o.2.2⟩
theorem MQ{w:World}{n:Nat}{cap:Array Value}{p:UInt8->Bool}(hp:Qy w n cap p):
 Calls Tryz.prog 171 #[.func (.func n) #[] cap] w fun e w'=>∃q,e= .returned (zS q)/\zU q (fun j=>p (UInt8.ofNat j))/\Ch [] w w':=by
 have HP:=zC hp.2;have hen:=hp.1;clear hp;have b0:zE ((w.alloc (.cells (zK fun _=>0) 240)).alloc (.cells (zK fun _=>0) 240)) w.heap.size (zK fun _=>0) 240:=(zE.new w _ _).kp (Ch.alloc [] _ _) (by simp)
 have b1:zE ((w.alloc (.cells (zK fun _=>0) 240)).alloc (.cells (zK fun _=>0) 240)) (w.heap.size+1) (zK fun _=>0) 240:=by
  have:=zE.new (w.alloc (.cells (zK fun _=>0) 240)) (zK fun _=>0) 240
  simpa using this
 have g0:Ch [] w ((w.alloc (.cells (zK fun _=>0) 240)).alloc (.cells (zK fun _=>0) 240)):=(Ch.alloc _ _ _).trans (Ch.alloc _ _ _);go_enter Tryz.func171,Tryz.ntmps171;go_wp2_with fail
 go_loopw [5] (fun v6 w5=>∃(k:Nat) (q:Nat->Nat),k<=256/\v6= .int .i64 k/\Hd (zE w5 (w.heap.size+1) (zK q) 240/\zU q (fun j=>decide (j<k) && p (UInt8.ofNat j))/\zE w5 w.heap.size (zK fun _=>0) 240/\Ch [] w w5)) (fun v6 _=>256 - (intOf v6).toNat)
 case atStart=>exact⟨0,fun _=>0,by omega,rfl,by show _/\_;exact⟨b1,zU.zero.congr (fun j _=>by simp),b0,g0⟩⟩
 case round=>
  generalize wr=w5 at *;obtain⟨k,q,hk,rfl,H5⟩:=hrel;clear b0 b1 g0
  by_cases hlt:(k:Int)<256
  ·have hw8:IntKind.u8.wrap (k:Int)=(k:Int):=by rw[IntKind.wrap_u8];omega
   have hk2:k<256:=by omega
   have ez:(UInt8.ofNat k).toNat=k:=by rw[UInt8.toNat_ofNat'];exact Nat.mod_eq_of_lt (by omega)
   have CALL:=zC (HP.o w5 H5.o.2.2.2 (UInt8.ofNat k));rw[ez]at CALL
   have e1:IntKind.i64.wrap ((k:Int)+1)=((k+1:Nat):Int):=by rw[IntKind.wrap_i64];omega
   go_wp2_with fail;refine CALL.o.mono ?_;rintro e w6 ⟨rfl,c6⟩;have B6:=zC (H5.o.1.kp c6 (by simp));have R6:=zC (H5.o.2.2.1.kp c6 (by simp));have G6:=zC (H5.o.2.2.2.trans c6)
   cases hpk:p (UInt8.ofNat k)with
   |false=>
    have F6:Hd (zU q (fun j=>decide (j<k+1) && p (UInt8.ofNat j))):=by
     refine H5.o.2.1.congr (fun j hj=> ?_)
     by_cases e:j=k
     ·subst e;simp[hpk]
     ·have:decide (j<k+1)=decide (j<k):=by rw[decide_eq_decide];omega
      rw[this]
    go_wp2_with fail;exact⟨⟨k+1,q,by omega,by simp,by show _/\_;exact⟨B6.o,F6.o,R6.o,G6.o⟩⟩,by simp[intOf];omega⟩
   |true=>
    have HF5:=zC H5.o.2.1;go_wp2_with fail;refine(K0 B6.o HF5.o k hk2).mono ?_;rintro e w7 ⟨rfl,B7,G7⟩
    have F7:Hd (zU (fun t=>if t=k / 64 then q t ||| 2 ^ (k % 64)else q t) (fun j=>decide (j<k+1) && p (UInt8.ofNat j))):=by
     refine(HF5.o.add (c:=k) hk2).congr (fun j hj=> ?_)
     by_cases e:j=k
     ·subst e;simp[hpk]
     ·have:decide (j<k+1)=decide (j<k):=by rw[decide_eq_decide];omega
      rw[this];simp[e]
    have HB7:=zC B7;have HR7:=zC (R6.o.kp G7 (by simp));have HG7:=zC (G6.o.trans' G7 (by intro x hx;simp at hx;omega));clear B7 G7;go_wp2_with fail;exact⟨⟨k+1,_,by omega,by simp,by show _/\_;exact⟨HB7.o,F7.o,HR7.o,HG7.o⟩⟩,by simp[intOf];omega⟩
  ·have F6:zU q (fun j=>p (UInt8.ofNat j)):=H5.o.2.1.congr (by
    intro j hj
    have:decide (j<k)=true:=by simp;omega
    simp[this])
   obtain⟨x0,x1,x2,x3⟩:=H5.o.1.c4;obtain⟨y0,y1,y2,y3⟩:=H5.o.2.2.1.c4;have fz:=H5.o.1.fz;have fy:=H5.o.2.2.1.fz;have R5x:=zC H5.o.2.2.1;have G5x:=zC H5.o.2.2.2;clear H5;go_wp2_with fail;obtain⟨R6,G6⟩:=R5x.o.fill q;have g6:=G5x.o.trans' G6 (by intro k hk;simp at hk;omega)
   try simp only at R6 g6
   generalize (((w5.setCell ⟨w.heap.size,0,none⟩ (.int .u64 (q 0))).setCell ⟨w.heap.size,1,none⟩ (.int .u64 (q 1))).setCell ⟨w.heap.size,2,none⟩ (.int .u64 (q 2))).setCell ⟨w.heap.size,3,none⟩ (.int .u64 (q 3))=w6 at *;clear x0 x1 x2 x3 y0 y1 y2 y3;obtain⟨y0,y1,y2,y3⟩:=R6.c4;exact bodyPost_ret (v:=zS q) (by simp[results,Tryz.results171,go_sem,zS,zK,y0,y1,y2,y3]) rfl ⟨q,rfl,F6,g6⟩
theorem Wz:(Tryz.prog.info? 240).map (fun i=>(i.zero,i.size,i.bytes))=some (some (.agg #[.int .u64 0,.int .u64 0,.int .u64 0,.int .u64 0]),4,32):=by kernel_rfl
theorem Rz{w:World}{P g m pb kb:Nat}{nx hv:Nat->Nat->Bool}{l:Nat->Bool}(hT:Z0 w P g m nx hv l)(hp:zE w pb #[.pointer (some ⟨P,0,none⟩)] 102){k:Nat}(hk:k<256)(hkb:zE w kb #[.int .i64 k] 3):Qy w 172 #[.pointer (some ⟨pb,0,none⟩),.pointer (some ⟨kb,0,none⟩)] (fun z=>hv z.toNat k):=by
 refine⟨fun _ _=>by kernel_rfl,fun W c z=> ?_⟩;obtain⟨cap,nq,hq,eq,b1,b2,b3,b4,b5,b6⟩:=hT.kp c (by simp) (by simp);have c0:=(hp.kp c (by simp)).cl 0 (.pointer (some ⟨P,0,none⟩)) rfl;have c1:=(hkb.kp c (by simp)).cl 0 (.int .i64 k) rfl;have hz:=z.toNat_lt;obtain⟨r0,r1,r2,r3,rf⟩:=yL.row b1 (i:=z.toNat) (by omega) (q:=hq z.toNat) (fun _ _=>rfl);have HS:=zC (b5 z.toNat (by omega))
 have hw8:IntKind.u8.wrap (k:Int)=(k:Int):=by rw[IntKind.wrap_u8];omega
 have hz1:((z.toNat:Nat):Int)<256:=by omega
 have hz0:(0:Int)<=(z.toNat:Nat):=by omega
 clear hT hp hkb b1 b2 b4 b5 b6
 show Calls Tryz.prog 172 #[.int .u8 (z.toNat),.pointer (some ⟨pb,0,none⟩),.pointer (some ⟨kb,0,none⟩)] W _
 go_enter Tryz.func172,Tryz.ntmps172;go_wp2_with fail
 go_region_with (first|(go_at_call 108;refine(Mh (q:=hq z.toNat) HS.o k hk).mono ?_;rintro e w1 ⟨rfl,k1⟩))
 all_goals
  go_wp2_with fail;go_ret;exact⟨rfl,(Ch.drew [] W).trans k1⟩
theorem Rb{w:World}{P g m:Nat}{nx hv:Nat->Nat->Bool}{l:Nat->Bool}(hT:Z0 w P g m nx hv l)(hm:m<=13):
 Calls Tryz.prog 136 #[.pointer (some ⟨P,0,none⟩)] w fun e w'=>∃v,e= .returned v/\zm w' v (J4 m hv)/\(∀q,v.ownBlock=some q->w.heap.size<=q)/\Ch [] w w':=by
 obtain⟨cap,nq,hq,eq,b1,b2,b3,b4,b5,b6⟩:=id hT;have g0:=Ch.alloc [] w (.cells #[.pointer (some ⟨P,0,none⟩)] 102);have B0:=zE.new w #[.pointer (some ⟨P,0,none⟩)] 102;have p0:=yL.c0 (zE.kp b1 g0 (by simp));have d0:=B0.cl 0 (.pointer (some ⟨P,0,none⟩)) rfl
 have hmf:∀(fn:Fn) (first cap:Array Value) (w:World),(Instr.makeFunc fn first cap).run Tryz.prog w= .ok (.func fn first cap) w:=fun _ _ _ _=>rfl
 have HT:=zC (hT.kp g0 (by simp) (by simp));have HB0:=zC B0
 have z0:(w.alloc (.cells #[.pointer (some ⟨P,0,none⟩)] 102)).heap.size=w.heap.size+1:=by simp
 clear hT b1 b2 b3 b4 b5 b6 B0;generalize hw0:w.alloc (.cells #[.pointer (some ⟨P,0,none⟩)] 102)=w0 at *;go_enter Tryz.func136,Tryz.ntmps136;go_wp2_with fail;clear p0 d0
 go_loopw [3,10] (fun lv iv w5=>∃k:Nat,iv= .int .i64 k/\k<=m/\Hd (zm w5 lv (J4 k hv)/\(∀q,lv.ownBlock=some q->w0.heap.size<=q)/\Ch [] w0 w5)) (fun _ iv _=>m - (intOf iv).toNat)
 case atStart=>exact⟨0,rfl,by omega,by show _/\_;exact⟨zm.nil _,by intro q hq;simp[Value.ownBlock]at hq,Ch.refl _ _⟩⟩
 case round=>
  generalize wr=w5 at *;obtain⟨k,rfl,hk,H5⟩:=hrel
  by_cases hlt:(k:Int)<m
  ·obtain⟨la,lc,hlv⟩:=H5.o.1.slice
   subst hlv
   have hpl:(J4 k hv).length=k:=by simp[J4]
   have g6:=Ch.alloc [] w5 (.cells #[.int .i64 k] 3);have B6:=zE.new w5 #[.int .i64 k] 3
   have e1:IntKind.i64.wrap ((k:Int)+1)=((k+1:Nat):Int):=by rw[IntKind.wrap_i64];omega
   have WH:=zC (MQ (Rz (HT.o.kp (H5.o.2.2.trans g6) (by simp) (by simp)) ((HB0.o.kp H5.o.2.2 (by simp)).kp g6 (by simp)) (by omega:k<256) B6));have HG6:=zC (H5.o.2.2.trans g6)
   have V5:Hd (∀q,(Value.slice la k lc).ownBlock=some q->w0.heap.size<=q):=by have:=H5.o.2.1;rw[hpl]at this;exact this
   have z5:=H5.o.2.2.size;have HM6:=zC (H5.o.1.kp g6 (by simp))
   have z6:(w5.alloc (.cells #[.int .i64 k] 3)).heap.size=w5.heap.size+1:=by simp
   clear B6 g6;generalize hw6:w5.alloc (.cells #[.int .i64 k] 3)=w6 at *;go_wp2_with fail;refine WH.o.mono ?_;rintro e w7 ⟨q,rfl,hq7,c7⟩;have HM7:=HM6.o.kp c7 (by simp);obtain⟨nq7,R7,F7⟩:=HM7;have gA:=Ch.alloc [] w7 (.cells #[.int .u64 (q 0),.int .u64 (q 1),.int .u64 (q 2),.int .u64 (q 3)] 240);have O7:=zJ R7 gA (by simp);rw[hpl]at O7;have HGA:=zC ((HG6.o.trans c7).trans gA);have HF7:=zC F7;have HQ7:=zC hq7;have z7:=c7.size;rw[show zS q= .agg #[.int .u64 (q 0),.int .u64 (q 1),.int .u64 (q 2),.int .u64 (q 3)]from rfl];clear R7 F7 hq7 c7 gA;go_wp2_with (at_builtin;refine YZ 238 240 4 32 (.agg #[.int .u64 0,.int .u64 0,.int .u64 0,.int .u64 0]) Tryz.underlying238 Wz rfl (by omega) (by omega) (by rfl) _ _ (by rfl) (.slice la k lc) k _ (by rfl) O7 w7.heap.size [.int .u64 (q 0),.int .u64 (q 1),.int .u64 (q 2),.int .u64 (q 3)] (by rfl) (zr _ _) rfl (by intro u hu;simp at hu;rcases hu with rfl|rfl|rfl|rfl <;>rfl) (by omega) (w7.heap.size+1) (by simp) ?_;intro g8 cap8 w8 own8 gr8 hat8 hlt8);go_roundw
   case rel=>
    refine⟨k+1,by simp,by omega,?_⟩
    show _/\_
    refine⟨?_,fun x hx=> ?_,HGA.o.trans' gr8 (fun x hx=>Or.inr (V5.o x (by simpa using hx)))⟩
    ·have e:J4 (k+1) hv=J4 k hv++[fun c=>hv c k]:=by simp[J4,List.range_succ]
     rw[e];refine zm.snoc HF7.o (HQ7.o.congr (fun j hj=> ?_)) (by rw[hpl];exact own8)
     have:(UInt8.ofNat j).toNat=j:=by rw[UInt8.toNat_ofNat'];exact Nat.mod_eq_of_lt (by omega)
     rw[this]
    ·have e:g8=x:=by simpa[Value.ownBlock]using hx
     subst e
     rcases hat8 with h|h
     ·exact V5.o _ h
     ·omega
   case measure=>simp[intOf];omega
  ·have e:k=m:=by omega
   subst e;have HC:=zC H5.o;clear H5;go_wp2_with fail;go_ret;exact⟨_,rfl,HC.o.1,fun q hq=>by have:=HC.o.2.1 q hq;omega,g0.trans HC.o.2.2⟩
theorem KX{w:World}(x:ByteArray)(hx:x.size<=400):
 Calls Tryz.prog 170 #[.string x] w fun e w'=>∃v,e= .returned v/\zm w' v (yM x.data.toList)/\(∀q,v.ownBlock=some q->w.heap.size<=q)/\Ch [] w w':=by
 have hxl:x.data.toList.length=x.size:=JF x;have HXL:=zC hxl;clear hxl;go_enter Tryz.func170,Tryz.ntmps170;go_wp2_with fail
 go_loopw [3,7] (fun lv iv w5=>∃k:Nat,iv= .int .i64 k/\k<=x.size/\Hd (zm w5 lv (yM (x.data.toList.take k))/\(∀q,lv.ownBlock=some q->w.heap.size<=q)/\Ch [] w w5)) (fun _ iv _=>x.size - (intOf iv).toNat)
 case atStart=>exact⟨0,rfl,by omega,by show _/\_;exact⟨zm.nil _,by intro q hq;simp[Value.ownBlock]at hq,Ch.refl _ _⟩⟩
 case round=>
  generalize wr=w5 at *;obtain⟨k,rfl,hk,H5⟩:=hrel
  by_cases hlt:(k:Int)<x.size
  ·have hk2:k<x.size:=by omega
   have hk3:k<x.data.toList.length:=by rw[HXL.o];exact hk2
   have hk0:(0:Int)<=k:=by omega
   have hpl:(yM (x.data.toList.take k)).length=k:=by simp[yM];have:=HXL.o;simp at this;omega
   obtain⟨la,lc,hlv⟩:=H5.o.1.slice;rw[hpl]at hlv;subst hlv;obtain⟨c,hc⟩:∃c,x.data.toList[k]=c:=⟨_,rfl⟩
   have HX:∀h:k<x.size,x[k]=c:=fun _=>by rw[<- hc];rfl
   have TK:Hd (yM (x.data.toList.take (k+1))=yM (x.data.toList.take k)++[fun z=>z==c.toNat]):=by
    show _=_
    rw[List.take_succ_eq_append_getElem hk3,hc];simp[yM]
   have g6:=Ch.alloc [] w5 (.cells #[.int .u8 (c.toNat)] 5);have B6:=zE.new w5 #[.int .u8 (c.toNat)] 5
   have e1:IntKind.i64.wrap ((k:Int)+1)=((k+1:Nat):Int):=by rw[IntKind.wrap_i64];omega
   have OF:=zC (LU B6 c.toNat_lt);have HG6:=zC (H5.o.2.2.trans g6);have V5:=zC H5.o.2.1;have z5:=H5.o.2.2.size;have HM6:=zC (H5.o.1.kp g6 (by simp));clear B6 g6 hc;generalize hw6:w5.alloc (.cells #[.int .u8 (c.toNat)] 5)=w6 at *;go_wp2_with fail;refine OF.o.mono ?_;rintro e w7 ⟨q,rfl,hq7,c7⟩;have HM7:=HM6.o.kp c7 (by simp);obtain⟨nq7,R7,F7⟩:=HM7;rw[hpl]at R7;have gA:=Ch.alloc [] w7 (.cells #[.int .u64 (q 0),.int .u64 (q 1),.int .u64 (q 2),.int .u64 (q 3)] 240);have O7:=zJ R7 gA (by simp);have HGA:=zC ((HG6.o.trans c7).trans gA);have HF7:=zC F7;have HQ7:=zC hq7;have z7:=c7.size;have zG6:=HG6.o.size;rw[show zS q= .agg #[.int .u64 (q 0),.int .u64 (q 1),.int .u64 (q 2),.int .u64 (q 3)]from rfl];clear R7 F7 hq7 c7 gA;go_wp2_with (at_builtin;refine YZ 238 240 4 32 (.agg #[.int .u64 0,.int .u64 0,.int .u64 0,.int .u64 0]) Tryz.underlying238 Wz rfl (by omega) (by omega) (by rfl) _ _ (by rfl) (.slice la k lc) k _ (by rfl) O7 w7.heap.size [.int .u64 (q 0),.int .u64 (q 1),.int .u64 (q 2),.int .u64 (q 3)] (by rfl) (zr _ _) rfl (by intro u hu;simp at hu;rcases hu with rfl|rfl|rfl|rfl <;>rfl) (by omega) (w7.heap.size+1) (by simp) ?_;intro g8 cap8 w8 own8 gr8 hat8 hlt8);go_roundw
   case rel=>
    refine⟨k+1,by simp,by omega,?_⟩
    show _/\_
    rw[TK.o];refine⟨zm.snoc HF7.o HQ7.o (by rw[hpl];exact own8),fun y hy=> ?_,HGA.o.trans' gr8 (fun y hy=>Or.inr (V5.o y (by simpa using hy)))⟩
    have e:g8=y:=by simpa[Value.ownBlock]using hy
    subst e
    rcases hat8 with h|h
    ·exact V5.o _ h
    ·omega
   case measure=>simp[intOf];omega
  ·have e:k=x.size:=by omega
   subst e;have HC:=H5.o;rw[<- HXL.o,List.take_length]at HC;have HCx:=zC HC;clear H5 HC;go_wp2_with fail;go_ret;exact⟨_,rfl,HCx.o.1,HCx.o.2.1,HCx.o.2.2⟩
end Go.Proofs.YteobgfbgglfkbaaGreat
