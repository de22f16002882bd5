import Derived.Test.YteobgfbgglfkbaaGreatJS8
import Derived.Test.YteobgfbgglfkbaaGreatJP6
set_option maxHeartbeats 12800000
set_option maxRecDepth 100000
namespace Go.Proofs.YteobgfbgglfkbaaGreat
open Go.RowKit
attribute [local go_sem ↓] Go.wp_at_zero Go.wp_at_succ
theorem Ch.ofBelow2{w w':World}{B:Nat}(h:Below B w w'):Ch ((List.range w.heap.size).filter fun k=>decide (B<=k)) w w':=
 ⟨h.os,h.tape,h.output,h.size,fun k hk hx=>h.block k (Nat.lt_of_not_le fun hle=>hx (by simp[hk,hle]))⟩
theorem ZI.kind{w:World}{k:TypeId}{B:Nat}{G:Value->Value->Prop}(h:ZI w k B G)(c:Array Value)(T:TypeId)(fz:Nat×Nat):w.heap[B]? ≠some (.cells c T fz):=by
 obtain⟨_,_,⟨_,⟨_,_,hm,_⟩,_⟩,_⟩:=h;rw[hm];intro e;cases e
theorem Io{Ds:List zH}{h0 h1 h2:Nat}{x:Value}(h:Vs Ds (.agg #[.int .u8 h0,.int .u8 h1,.int .u8 h2]) x):∃k0 k1 k2:Int,x= .agg #[.int .u8 k0,.int .u8 k1,.int .u8 k2,.string (zG (yE Ds [h0,h1,h2]))]:=by
 obtain⟨h0',h1',h2',s,k0,k1,k2,_,_,_,e,rfl,rfl⟩:=h;simp only[Value.agg.injEq]at e;have e:=congrArg Array.toList e;simp at e;obtain⟨e1,e2,e3⟩:=e
 have e1:h0'=h0:=by omega
 have e2:h1'=h1:=by omega
 have e3:h2'=h2:=by omega
 subst e1 e2 e3;exact⟨k0,k1,k2,rfl⟩
theorem ja.three{w:World}{st:Nat}{A:List Nat}(h:ja w st A):∃k0 k1 k2:Nat,zE w st #[.int .u8 k0,.int .u8 k1,.int .u8 k2] 122:=by
 obtain⟨h1,h2⟩:=h
 match A,h2 with
 |[k0,k1,k2],_=>exact⟨k0,k1,k2,h1⟩
theorem WV{Ds:List zH}(hF:yo Ds){w:World}{X:List Nat}{r:Nat}(h:jP Ds w X r){h0 h1 h2:Nat}(b0:h0<256)(b1:h1<256)(b2:h2<256)(hh:j7 Ds [h0,h1,h2])(ho:(yE Ds [h0,h1,h2]).length<=1000000):
 Calls Tryz.prog 131 #[.pointer (some ⟨r,0,none⟩),.agg #[.int .u8 h0,.int .u8 h1,.int .u8 h2]] w fun e w'=>e= .returned (.string (zG (yE Ds [h0,h1,h2])))/\jP Ds w' X r/\Ch X w w':=by
 obtain⟨o,hoe⟩:∃o,yE Ds [h0,h1,h2]=o:=⟨_,rfl⟩;rw[hoe]at ho ⊢;have HOE:=zC hoe;clear hoe;have HH:=zC h;have hXl:=h.lt;obtain⟨pv,ev,B1,B2,Z,hX,a1,a2,a3,a4,a5,a6,a7,a8,a9,a10⟩:=h;obtain⟨pn,pm,pc,pd,rfl,rfl,pe,pe'⟩:=a2.v.funcs;have hrl:=a1.lt;have X0:=zE.new w #[.int .u8 h0,.int .u8 h1,.int .u8 h2] 122;have g0:=Ch.alloc [] w (.cells #[.int .u8 h0,.int .u8 h1,.int .u8 h2] 122)
 have z0:(w.alloc (.cells #[.int .u8 h0,.int .u8 h1,.int .u8 h2] 122)).heap.size=w.heap.size+1:=by simp
 have A0:=a1.kp g0 (by simp);generalize hw0:w.alloc (.cells #[.int .u8 h0,.int .u8 h1,.int .u8 h2] 122)=w0 at *;have g3:=Ch.alloc [] w0 (.cells #[.int .u8 0,.int .u8 0,.int .u8 0,.string ⟨#[]⟩] 229);have X3:=zE.new w0 #[.int .u8 0,.int .u8 0,.int .u8 0,.string ⟨#[]⟩] 229
 have z3:(w0.alloc (.cells #[.int .u8 0,.int .u8 0,.int .u8 0,.string ⟨#[]⟩] 229)).heap.size=w0.heap.size+1:=by simp
 have X03:=X0.kp g3 (by simp);have A3:=A0.kp g3 (by simp);generalize hw3:w0.alloc (.cells #[.int .u8 0,.int .u8 0,.int .u8 0,.string ⟨#[]⟩] 229)=w3 at *;rw[z0]at X3;have c0:=X0.cl 0 (.int .u8 h0) rfl;have c1:=X0.cl 1 (.int .u8 h1) rfl;have c2:=X0.cl 2 (.int .u8 h2) rfl;have c0':=X03.cl 0 (.int .u8 h0) rfl;have c1':=X03.cl 1 (.int .u8 h1) rfl;have c2':=X03.cl 2 (.int .u8 h2) rfl;have r1:=A0.cl 3 (.map (some B2)) rfl;have r1':=A3.cl 3 (.map (some B2)) rfl;have xf:=X3.fz;have x0:=X3.cl 0 (.int .u8 0) rfl;have x1:=X3.cl 1 (.int .u8 0) rfl;have x2:=X3.cl 2 (.int .u8 0) rfl;have x3:=X3.cl 3 (.string ⟨#[]⟩) rfl;have HA:=zC a1;have HC:=zC a2;have HS:=zC a3;have HE:=zC a4;have HX:=zC hX;have HX03:=zC X03;have HX3:=zC X3;have HF:=zC hF;have HHH:=zC hh;have HKEY:=zC (RK (a:=h0) (b:=h1) (c:=h2) (by omega) (by omega) (by omega));have G3:=zC (g0.trans g3);clear a1 a2 a3 a4 hX X0 X03 X3 A0 A3 hF hh;go_enter Tryz.func131,Tryz.ntmps131;go_wp2_with fail
 rcases HE.o.look LB Tryz.underlying272 US HKEY.o with⟨x,hx,lk⟩|lk
 ·obtain⟨k0,k1,k2,hxe⟩:=Io hx
  rw[HOE.o]at hxe;subst hxe;have lk2:=lk _ (g0.trans (Ch.drew [] w0));have lk3:=lk _ (G3.o.trans (Ch.drew [] w3));obtain⟨X4,g4⟩:=HX3.o.fill4 (.int .u8 k0) (.int .u8 k1) (.int .u8 k2) (.string (zG o));have G4:=zC (G3.o.trans' g4 (by simp));have v3:=X4.cl 3 (.string (zG o)) rfl;clear lk hx X4 g4;go_region
  all_goals
   clear x0 x1 x2 x3 xf c0 c1 c2 c0' c1' c2';generalize hw4:(((w3.setCell ⟨w.heap.size+1,0,none⟩ (.int .u8 k0)).setCell ⟨w.heap.size+1,1,none⟩ (.int .u8 k1)).setCell ⟨w.heap.size+1,2,none⟩ (.int .u8 k2)).setCell ⟨w.heap.size+1,3,none⟩ (.string (zG o))=w4 at *;go_wp2_with fail;go_ret;exact⟨rfl,HH.o.kp (G4.o.trans (Ch.drew [] w4)) (by simp),(G4.o.trans (Ch.drew [] w4)).mono (by simp)⟩
 ·have lk2:=lk _ (g0.trans (Ch.drew [] w0))
  have lk3:=lk _ (G3.o.trans (Ch.drew [] w3));obtain⟨X4,g4⟩:=HX3.o.fill4 (.int .u8 0) (.int .u8 0) (.int .u8 0) (.string ⟨#[]⟩);have G4:=zC (G3.o.trans' g4 (by simp));have X04:=HX03.o.kp g4 (by simp);have HLK:=zC lk;clear lk X4;go_region
  all_goals
   clear x0 x1 x2 x3 xf c0 c1 c2 c0' c1' c2' lk2 lk3 r1 r1';generalize hw4:(((w3.setCell ⟨w.heap.size+1,0,none⟩ (.int .u8 0)).setCell ⟨w.heap.size+1,1,none⟩ (.int .u8 0)).setCell ⟨w.heap.size+1,2,none⟩ (.int .u8 0)).setCell ⟨w.heap.size+1,3,none⟩ (.string ⟨#[]⟩)=w4 at *
   have z4:w4.heap.size=w.heap.size+1+1:=by have:w4.heap.size=w3.heap.size:=(by rw[<- hw4];simp);omega
   have f0:=X04.cl 0 (.int .u8 h0) rfl;have f1:=X04.cl 1 (.int .u8 h1) rfl;have f2:=X04.cl 2 (.int .u8 h2) rfl;have g5:=Ch.alloc [] w4 (.cells #[.int .u8 h0,.int .u8 h1,.int .u8 h2] 122);have X5:=zE.new w4 #[.int .u8 h0,.int .u8 h1,.int .u8 h2] 122
   have z5:(w4.alloc (.cells #[.int .u8 h0,.int .u8 h1,.int .u8 h2] 122)).heap.size=w4.heap.size+1:=by simp
   have X05:=X04.kp g5 (by simp);generalize hw5:w4.alloc (.cells #[.int .u8 h0,.int .u8 h1,.int .u8 h2] 122)=w5 at *;have g6:=Ch.alloc [] w5 (.cells #[.pointer none,.slice none 0 0] 126);have I6:=MZ w5 (B:=w.heap.size) (by omega);have X06:=X05.kp g6 (by simp);have X6:=X5.kp g6 (by simp);have G6:=zC ((G4.o.trans g5).trans g6)
   have z6:(w5.alloc (.cells #[.pointer none,.slice none 0 0] 126)).heap.size=w5.heap.size+1:=by simp
   generalize hw6:w5.alloc (.cells #[.pointer none,.slice none 0 0] 126)=w6 at *;have A6:=HA.o.kp G6.o (by simp);have r0:=A6.cl 1 (.func (.func pm) #[] pd) rfl;rw[z4]at X6;rw[z5,z4]at I6;have G6d:=zC (G6.o.trans (Ch.drew [] w6));have END:=Be Ds 0 pm pd HF.o.1 (by have:=HF.o.2;omega) w6.drew (.func (.func pn) #[] pc) w.heap.size (w.heap.size+1+1) (w.heap.size+1+1+1) [] [h0,h1,h2] [] (HC.o.kp G6d.o (by simp)).v rfl HHH.o ⟨X6,rfl⟩ (I6.kp (Ch.drew [] w6) (by simp) (by simp)) (by omega) (by rw[HOE.o];simp;omega);rw[HOE.o]at END
   have HG:Hd (∀k0 k1 k2:Int,Vs Ds (.agg #[.int .u8 h0,.int .u8 h1,.int .u8 h2]) (.agg #[.int .u8 k0,.int .u8 k1,.int .u8 k2,.string (zG o)])):=fun k0 k1 k2=>⟨h0,h1,h2,_,k0,k1,k2,b0,b1,b2,rfl,by rw[HOE.o],rfl⟩
   have HEND:=zC END;have HX06:=zC X06;clear END X04 X05 X5 X6 X06 A6 I6 hw3 hw4;go_wp2_with fail;refine HEND.o.mono ?_;rintro e w7 ⟨rfl,I7,f7,A7,S7⟩;obtain⟨k0,k1,k2,S7b⟩:=S7.three;have G7:=zC (f7.ch0 G6d.o);have X07:=f7.blk (show zE w6.drew _ _ _ from HX06.o) (by omega) (by omega) (by decide);have A7r:=HA.o.kp G7.o (by simp);have z7:=f7.1.size;have z7':w6.drew.heap.size=w6.heap.size:=rfl;have q0:=S7b.cl 0 (.int .u8 k0) rfl;have q1:=S7b.cl 1 (.int .u8 k1) rfl;have q2:=S7b.cl 2 (.int .u8 k2) rfl;have d0:=X07.cl 0 (.int .u8 h0) rfl;have d1:=X07.cl 1 (.int .u8 h1) rfl;have d2:=X07.cl 2 (.int .u8 h2) rfl;have r2:=A7r.cl 3 (.map (some B2)) rfl;have HI7:=zC I7;have HS7:=zC S7b;have HX07:=zC X07;clear I7 S7b S7 X07 A7r r0 f0 f1 f2
   have STR:∀W,Ch [] w7 W->Calls Tryz.prog 46 #[.pointer (some ⟨w.heap.size+1+1+1,0,none⟩)] W fun e w'=>e= .returned (.string (zG o))/\yi w' w.heap.size (w.heap.size+1+1+1) o/\Fr w.heap.size (w.heap.size+1+1+1) (w.heap.size+1+1+1) W w':=fun W gW=>Mf (HI7.o.kp gW (by simp) (by simp)) (by have:=gW.size;omega)
   have HSTR:=zC STR
   have FIN8:∀w8,Fr w.heap.size (w.heap.size+1+1+1) (w.heap.size+1+1+1) w7.drew w8->Ch [] w w8/\zE w8 (w.heap.size+1+1) #[.int .u8 k0,.int .u8 k1,.int .u8 k2] 122/\zE w8 w.heap.size #[.int .u8 h0,.int .u8 h1,.int .u8 h2] 122:=by
    intro w8 f8;exact⟨f8.ch0 (G7.o.trans (Ch.drew [] w7)),f8.blk (show zE w7.drew _ _ _ from HS7.o) (by omega) (by omega) (by decide),f8.blk (show zE w7.drew _ _ _ from HX07.o) (by omega) (by omega) (by decide)⟩
   have HFIN8:=zC FIN8;have HNUM:=zC (aS (Ds:=Ds));clear STR FIN8;go_wp2_with fail
   go_region_with (first|(go_at_call 46;refine(HSTR.o _ (Ch.drew [] w7)).mono ?_;rintro e w8 ⟨rfl,I8,f8⟩;obtain⟨G8,S8,X08⟩:=HFIN8.o w8 f8;have A8:=HA.o.kp G8 (by simp);have q0':=S8.cl 0 (.int .u8 k0) rfl;have q1':=S8.cl 1 (.int .u8 k1) rfl;have q2':=S8.cl 2 (.int .u8 k2) rfl;have d0':=X08.cl 0 (.int .u8 h0) rfl;have d1':=X08.cl 1 (.int .u8 h1) rfl;have d2':=X08.cl 2 (.int .u8 h2) rfl;have r2':=A8.cl 3 (.map (some B2)) rfl;obtain⟨w9,st9,C9,g9,lk9⟩:=(HE.o.kp G8 (by simp)).store LB Tryz.underlying272 US HKEY.o (HG.o k0 k1 k2) Zw 4294967296 (by simp only[maxLen];omega) HNUM.o.1 HNUM.o.2 (fun w' c=>HLK.o w' (G8.trans c))))
   all_goals
    have RUN9:Hd (jP Ds w9 X r/\Ch X w w9):=by
     have n1:=HX.o
     have e1:B2∈X:=by rw[n1];simp
     have cw:Ch X w w9:=(G8.mono (by simp)).trans (g9.mono (by simpa using e1));refine⟨⟨_,_,B1,B2,Z,n1,A8.kp g9 (by simpa using a9),(HC.o.kp G8 (by simp)).kp g9 (fun q hq hx=>a7 (by have e:q=B2:=(by simpa using hx);rw[<- e];exact hq)),(HS.o.kp G8 (by simp)).kp g9 (by simpa using a10),C9,a5,a6,a7,a8,a9,a10⟩,cw⟩
    have hB2:B2<w.heap.size:=HE.o.lt;have I9:=zC (I8.kp g9 (by simp;omega) (by intro k hk c fz e;rw[List.mem_singleton]at hk;rw[hk]at e;exact(HE.o.kp G8 (by simp)).kind _ _ _ e));have z9:=g9.size;have z8:=f8.1.size;have z8':w7.drew.heap.size=w7.heap.size:=rfl;clear lk9 C9 g9 A8 X08 S8 I8 f8 q0 q1 q2 d0 d1 d2 r2 q0' q1' q2' d0' d1' d2' r2' st9;go_wp2_with fail;refine(Mf I9.o (by omega)).mono ?_;rintro e w10 ⟨rfl,_,f10⟩;have C10:=zC (Ch.ofBelow2 f10.1);go_wp2_with fail;go_ret;exact⟨rfl,RUN9.o.1.kp C10.o (fun q hq hx=>by have:=hXl q hq;simp at hx;omega),RUN9.o.2.trans' C10.o (fun q hq=>Or.inr (by simp at hq;omega))⟩
section
variable {m:Nat} {nx hv:Nat->Nat->Bool} {l:Nat->Bool} {w:World}
theorem Ra(pf:Zs m nx hv){P g:Nat}(hT:Z0 w P g m nx hv l):
 Calls Tryz.prog 124 #[.pointer (some ⟨P,0,none⟩)] w fun e w'=>∃W X,e= .returned (.pointer (some ⟨W,0,none⟩))/\jX m nx hv l w' X W [Z3]/\Ch [P,g] w w'/\W∈X/\∀q,q∈X->q=P\/q=g\/w.heap.size<=q:=by
 have HT:=zC hT;have HPF:=zC pf;have lT:=hT.lt
 have hgP:g≠P:=by
  obtain⟨_,_,_,_,_,_,h,_⟩:=hT;exact h
 clear hT pf;go_enter Tryz.func124,Tryz.ntmps124;go_wp2_with fail;refine Ho.mono ?_;rintro e w1 ⟨rfl,M1,c1⟩;have z1:=c1.size;have lM:=M1.lt (w.heap.size+1) (by simp);have g2:=Ch.alloc [] w1 (.cells #[.pointer (some ⟨P,0,none⟩),.pointer (some ⟨w.heap.size+1,0,none⟩),.slice none 0 0] 279);have W2:=zE.new w1 #[.pointer (some ⟨P,0,none⟩),.pointer (some ⟨w.heap.size+1,0,none⟩),.slice none 0 0] 279
 have z2:(w1.alloc (.cells #[.pointer (some ⟨P,0,none⟩),.pointer (some ⟨w.heap.size+1,0,none⟩),.slice none 0 0] 279)).heap.size=w1.heap.size+1:=by simp
 have M2:=M1.kp g2 (by simp);have G2:=c1.trans g2;generalize hw2:w1.alloc (.cells #[.pointer (some ⟨P,0,none⟩),.pointer (some ⟨w.heap.size+1,0,none⟩),.slice none 0 0] 279)=w2 at *
 have WK:jX m nx hv l w2 (w1.heap.size:: P:: g:: ([w.heap.size+1,w.heap.size]++(Value.slice none 0 0).ownBlock.toList)) w1.heap.size []:=by
  refine⟨⟨P,g,w.heap.size+1,[w.heap.size+1,w.heap.size],.slice none 0 0,[],fun _ _=>0,rfl,W2,HT.o.kp G2 (by simp) (by simp),M2,rfl,by intro i f h;simp at h,World.ownsRow_nil _ _ _ _,by intro i b h;simp at h,?_⟩,by intro f h;simp at h,List.nodup_nil⟩;simp[Value.ownBlock];omega
 have g3:=Ch.alloc [] w2 (.cells #[.int .u8 (0:Nat)] 161);have B3:=zE.new w2 #[.int .u8 (0:Nat)] 161;have hb:w2.alloc (.cells #[.int .u8 0] 161)=w2.alloc (.cells #[.int .u8 ((0:Nat):Int)] 161):=rfl;rw[z2]at B3;have HB3:=zC B3;have HWK:=zC (WK.kp g3 (by simp));have G3:=zC (G2.trans g3);clear M1 M2 W2 WK B3 g2 c1 G2;go_wp2_with fail;generalize w2.alloc (.cells #[.int .u8 ((0:Nat):Int)] 161)=w3 at *;refine(Xe HB3.o (by omega)).mono ?_;rintro e w4 ⟨q,rfl,hq,c4⟩;have hq':zU q Z3:=hq;have SP:=zC (DW HPF.o.le (HWK.o.kp c4 (by simp)) hq' (XT HPF.o.pos));rw[show zS q= .agg #[.int .u64 (q 0),.int .u64 (q 1),.int .u64 (q 2),.int .u64 (q 3)]from rfl]at SP ⊢;clear hq hq';go_wp2_with fail;refine SP.o.mono ?_;rintro e w5 ⟨i,X',γ',rfl,WA,hg,hi,c5,s5⟩
 have hγ:γ'=[Z3]:=by
  rcases hg with rfl|rfl
  ·simp at hi
  ·rfl
 subst hγ;have HWA:=zC WA;have HC5:=zC c5;have HS5:=zC s5;have zc4:=c4.size;have zG3:=G3.o.size;clear WA c5 s5 hi hg;go_wp2_with fail;go_ret
 have mem:w1.heap.size∈X':=by
  obtain⟨_,_,_,_,_,_,_,e,_⟩:=HWA.o.mem;rw[e];simp
 refine⟨w1.heap.size,X',by simp,HWA.o,((G3.o.trans c4).mono (by simp)).trans' HC5.o (fun q hq=> ?_),mem,fun q hq=> ?_⟩
 ·simp[Value.ownBlock]at hq
  simp;omega
 ·rcases HS5.o q hq with h|h
  ·simp[Value.ownBlock]at h
   omega
  ·exact Or.inr (Or.inr (by omega))
end
def Zt(hs:List Nat):Prop:=∀h,h∈hs->h<4
theorem AO{D:zH}(hD:yR D):∀(xs:List UInt8) (h:Nat),Yc D h->h<4->(feed D h xs).1<4
 |[],h,_,hl=>hl
 |b:: xs,h,hh,hl=>by
  simp only[feed];refine AO hD xs _ (UV hD hh b).1 ?_
  cases hs:D.swap with
  |true=>
   have h1:=(UV hD hh b).1 hs;have h2:=(hD.1 hs).2.1;omega
  |false=>simp[jR,hs]
theorem VC:∀(Ds:List zH) (hs:List Nat) (xs:List UInt8),(∀D,D∈Ds->yR D)->j7 Ds hs->Zt hs->Zt (zT Ds hs xs).1
 |[],hs,xs,_,_,h=>h
 |D:: Ds,[],xs,_,hh,_=>hh.elim
 |D:: Ds,n:: hs,xs,hD,hh,h=>by
  intro k hk;simp only[zT,List.mem_cons]at hk
  rcases hk with rfl|hk
  ·exact AO (hD D (by simp)) xs n hh.1 (h n (by simp))
  ·exact VC Ds hs _ (fun E hE=>hD E (by simp[hE])) hh.2 (fun j hj=>h j (by simp[hj])) k hk
def ZZ(hs:List Nat):Nat:=hs.foldl (fun n h=>4 * n+h) 0
theorem We{hs:List Nat}(hl:hs.length=3)(h:Zt hs):ZZ hs<64:=by
 match hs,hl with
 |[a,b,c],_=>
  have h1:=h a (by simp);have h2:=h b (by simp);have h3:=h c (by simp);simp only[ZZ,List.foldl_cons,List.foldl_nil];omega
theorem Xx{hs ks:List Nat}(hl:hs.length=3)(kl:ks.length=3)(h:Zt hs)(k:Zt ks)(e:ZZ hs=ZZ ks):hs=ks:=by
 match hs,hl,ks,kl with
 |[a,b,c],_,[d,f,g],_=>
  have h1:=h a (by simp);have h2:=h b (by simp);have h3:=h c (by simp);have k1:=k d (by simp);have k2:=k f (by simp);have k3:=k g (by simp);simp only[ZZ,List.foldl_cons,List.foldl_nil]at e
  have e1:a=d:=by omega
  have e2:b=f:=by omega
  have e3:c=g:=by omega
  rw[e1,e2,e3]
def Qr(Ds:List zH)(m:Nat)(k:List Nat×(Nat->Bool)):Prop:=Xc Ds m k/\Zt k.1
def Qu(k:List Nat×(Nat->Bool)):Nat:=ZZ k.1 * 8192+JY k.2 13
theorem BQ{Ds:List zH}{m:Nat}(k:List Nat×(Nat->Bool))(h:Qr Ds m k):Qu k<524288:=by
 have h1:=We h.1.1.2 h.2;have h2:JY k.2 13<8192:=Wm k.2 13;unfold Qu;omega
theorem Mq{Ds:List zH}{m:Nat}(hm:m<=13)(k k':List Nat×(Nat->Bool))(h:Qr Ds m k)(h':Qr Ds m k')(e:Qu k=Qu k'):k=k':=by
 have h2:JY k.2 13<8192:=Wm k.2 13;have h2':JY k'.2 13<8192:=Wm k'.2 13;unfold Qu at e
 have e1:ZZ k.1=ZZ k'.1:=by omega
 have e2:JY k.2 13=JY k'.2 13:=by omega
 exact Prod.ext (Xx h.1.1.2 h'.1.1.2 h.2 h'.2 e1) (Lj hm h.1.2 h'.1.2 e2)
def WF(Ds:List zH)(L:zF)(ls:List UInt8):Prop:=ls.Pairwise (fun a b=>a.toNat<b.toNat)/\ls.length<=256/\∀y,L (yH Ds y)->∃y',(∀b,b∈y'->b∈ls)/\L (yH Ds y')/\yJ y'<=yJ y
theorem SW{Ds:List zH}(hF:yo Ds){m:Nat}{nx hv:Nat->Nat->Bool}{l:Nat->Bool}(pf:Zs m nx hv){L:zF}(hL:∀t,L t↔yP nx hv l 0 t):WF Ds L (yw (JB Ds (yu Ds++J4 m hv)) 256):=by
 have hm:m<=256:=by have:=pf.le;omega
 have ok:=(LZ (nx:=nx) (hv:=hv) (l:=l) hF pf.pos hm).two;refine⟨ok.sorted,UT _ _,fun y hy=> ?_⟩;obtain⟨y',h1,h2,h3⟩:=ok.rep y ((Ww hF pf.pos hm pf.closed y).2 ((hL _).1 hy));exact⟨y',h1,(hL _).2 ((Ww hF pf.pos hm pf.closed y').1 h2),h3⟩
theorem BG{Ds:List zH}(hF:yo Ds){m:Nat}{nx hv:Nat->Nat->Bool}{l:Nat->Bool}(pf:Zs m nx hv){L:zF}(hL:∀t,L t↔yP nx hv l 0 t){ls:List UInt8}(hS:WF Ds L ls):ZK (Js Ds m nx hv l) ls (Qr Ds m):=by
 have hm:m<=256:=by have:=pf.le;omega
 have ok:=LZ (nx:=nx) (hv:=hv) (l:=l) hF pf.pos hm;refine(ZK.and (good:=Xc Ds m) ⟨ok.g0,ok.gs,ok.lw,ok.ll,hS.1,fun y hy=> ?_⟩ (fun k=>Zt k.1) (by intro h hh;simp[Js]at hh;omega) (fun k b hk hl=>VC Ds k.1 [b] hF.1 hk.1.1 hl));obtain⟨y',h1,h2,h3⟩:=hS.2.2 y ((hL _).2 ((Ww hF pf.pos hm pf.closed y).1 hy));exact⟨y',h1,(Ww hF pf.pos hm pf.closed y').2 ((hL _).1 h2),h3⟩
def leN(γ γ':List (Nat->Bool)):Prop:=γ<+:γ'/\(γ.Nodup->γ'.Nodup)
def VI(γ:List (Nat->Bool))(v:Value)(k:List Nat×(Nat->Bool)):Prop:=
 γ.Nodup/\∃h0 h1 h2 s:Nat,k.1=[h0,h1,h2]/\h0<256/\h1<256/\h2<256/\s<=1000000000/\v= .agg #[.int .u8 h0,.int .u8 h1,.int .u8 h2,.int .i64 s]/\γ[s]? =some k.2
theorem RT{γ:List (Nat->Bool)}{v:Value}{k:List Nat×(Nat->Bool)}(h:VI γ v k):∃(a0 a1 a2 a3:Int),v= .agg #[.int .u8 a0,.int .u8 a1,.int .u8 a2,.int .i64 a3]/\∃kl,keyOf Tryz.prog 227 v=some kl:=by
 obtain⟨_,h0,h1,h2,s,_,b0,b1,b2,bs,rfl,_⟩:=h;exact⟨_,_,_,_,rfl,TZ (by omega) (by omega) (by omega) bs⟩
theorem T5{γ:List (Nat->Bool)}{v v':Value}{k k':List Nat×(Nat->Bool)}(h:VI γ v k)(h':VI γ v' k'):v=v'↔k=k':=by
 obtain⟨hn,h0,h1,h2,s,hk,b0,b1,b2,bs,rfl,hs⟩:=h;obtain⟨_,g0,g1,g2,s',hk',_,_,_,_,rfl,hs'⟩:=h'
 constructor
 ·intro e
  simp only[Value.agg.injEq]at e;have e:=congrArg Array.toList e;simp at e;obtain⟨e1,e2,e3,e4⟩:=e
  have e1:h0=g0:=by omega
  have e2:h1=g1:=by omega
  have e3:h2=g2:=by omega
  have e4:s=s':=by omega
  subst e1 e2 e3 e4;refine Prod.ext (by rw[hk,hk']) ?_;rw[hs]at hs';exact Option.some.inj hs'
 ·rintro rfl
  rw[hk]at hk';simp only[List.cons.injEq,and_true]at hk';obtain⟨rfl,rfl,rfl⟩:=hk'
  have e:s=s':=by
   obtain⟨i1,e1⟩:=List.getElem?_eq_some_iff.1 hs;obtain⟨i2,e2⟩:=List.getElem?_eq_some_iff.1 hs';have hp:=List.pairwise_iff_getElem.1 (List.nodup_iff_pairwise_ne.1 hn)
   rcases Nat.lt_trichotomy s s' with h|h|h
   ·exact absurd (e1.trans e2.symm) (hp s s' i1 i2 h)
   ·exact h
   ·exact absurd (e2.trans e1.symm) (hp s' s i2 i1 h)
  rw[e]
def Jc(Ds:List zH)(m:Nat)(nx hv:Nat->Nat->Bool)(l:Nat->Bool)(rb wb:Nat)(w:World)(X:List Nat)(γ:List (Nat->Bool)):Prop:=
 ∃r W Xr Xw,X=rb:: wb:: (Xr++Xw)/\zE w rb #[.pointer (some ⟨r,0,none⟩)] 221/\zE w wb #[.pointer (some ⟨W,0,none⟩)] 223/\jP Ds w Xr r/\jX m nx hv l w Xw W γ/\(∀k,k∈Xr->k∉Xw)/\rb∉Xr/\rb∉Xw/\wb∉Xr/\wb∉Xw/\rb≠wb
theorem Jc.lt{Ds:List zH}{m:Nat}{nx hv:Nat->Nat->Bool}{l:Nat->Bool}{rb wb:Nat}{w:World}{X:List Nat}{γ:List (Nat->Bool)}(h:Jc Ds m nx hv l rb wb w X γ):∀k,k∈X->k<w.heap.size:=by
 obtain⟨r,W,Xr,Xw,rfl,a1,a2,a3,a4,_⟩:=h;intro k hk;simp only[List.mem_cons,List.mem_append]at hk
 rcases hk with rfl|rfl|hk|hk
 ·exact a1.lt
 ·exact a2.lt
 ·exact a3.lt k hk
 ·exact a4.lt k hk
theorem Jc.kp{Ds:List zH}{m:Nat}{nx hv:Nat->Nat->Bool}{l:Nat->Bool}{rb wb:Nat}{w w':World}{X Y:List Nat}{γ:List (Nat->Bool)}(h:Jc Ds m nx hv l rb wb w X γ)(c:Ch Y w w')(hX:∀k,k∈X->k∉Y):Jc Ds m nx hv l rb wb w' X γ:=by
 obtain⟨r,W,Xr,Xw,rfl,a1,a2,a3,a4,a5⟩:=h;exact⟨r,W,Xr,Xw,rfl,a1.kp c (hX rb (by simp)),a2.kp c (hX wb (by simp)),a3.kp c (fun k hk=>hX k (by simp[hk])),a4.kp c (fun k hk=>hX k (by simp[hk])),a5⟩
theorem Jc.ran{m:Nat}{nx hv:Nat->Nat->Bool}{l:Nat->Bool}{rb wb r W:Nat}{w w':World}{Xr Xw:List Nat}{γ:List (Nat->Bool)}(a1:zE w rb #[.pointer (some ⟨r,0,none⟩)] 221)(a2:zE w wb #[.pointer (some ⟨W,0,none⟩)] 223)(a4:jX m nx hv l w Xw W γ)(a5:(∀k,k∈Xr->k∉Xw)/\rb∉Xr/\rb∉Xw/\wb∉Xr/\wb∉Xw/\rb≠wb)(c:Ch Xr w w'):
 zE w' rb #[.pointer (some ⟨r,0,none⟩)] 221/\zE w' wb #[.pointer (some ⟨W,0,none⟩)] 223/\jX m nx hv l w' Xw W γ:=
 ⟨a1.kp c a5.2.1,a2.kp c a5.2.2.2.1,a4.kp c (fun k hk hx=>a5.1 k hx hk)⟩
theorem Jc.walked{Ds:List zH}{m:Nat}{nx hv:Nat->Nat->Bool}{l:Nat->Bool}{rb wb r W:Nat}{w w':World}{Xr Xw X':List Nat}{γ':List (Nat->Bool)}(a1:zE w rb #[.pointer (some ⟨r,0,none⟩)] 221)(a2:zE w wb #[.pointer (some ⟨W,0,none⟩)] 223)(a3:jP Ds w Xr r)(a5:(∀k,k∈Xr->k∉Xw)/\rb∉Xr/\rb∉Xw/\wb∉Xr/\wb∉Xw/\rb≠wb)(c:Ch Xw w w')(h:jX m nx hv l w' X' W γ')(hs:∀q,q∈X'->q∈Xw\/w.heap.size<=q):
 Jc Ds m nx hv l rb wb w' (rb:: wb:: (Xr++X')) γ':=by
 have l1:=a1.lt;have l2:=a2.lt;have l3:=a3.lt;refine⟨r,W,Xr,X',rfl,a1.kp c a5.2.2.1,a2.kp c a5.2.2.2.2.1,a3.kp c a5.1,h,fun k hk hx=> ?_,a5.2.1,fun hx=> ?_,a5.2.2.2.1,fun hx=> ?_,a5.2.2.2.2.2⟩
 ·rcases hs k hx with h1|h1
  ·exact a5.1 k hk h1
  ·have:=l3 k hk;omega
 ·rcases hs rb hx with h1|h1
  ·exact a5.2.2.1 h1
  ·omega
 ·rcases hs wb hx with h1|h1
  ·exact a5.2.2.2.2.1 h1
  ·omega
end Go.Proofs.YteobgfbgglfkbaaGreat
