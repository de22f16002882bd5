import Derived.Test.YteobgfbgglfkbaaGreatAP3
import Derived.Test.YteobgfbgglfkbaaGreatAC1
set_option maxHeartbeats 3200000
set_option maxRecDepth 100000
namespace Go.Proofs.YteobgfbgglfkbaaGreat
open Go.RowKit
attribute [local go_sem ↓] Go.wp_at_zero Go.wp_at_succ
def Vj(S:List zH)(i:Int):zH:=match S[i.toNat]? with|some p=>p|none=>⟨ByteArray.empty,false,ByteArray.empty,ByteArray.empty,[]⟩
def zt(S:List zH)(L:List Int):List zH:=L.map (Vj S)
theorem YS(S:List zH)(L:List Int):(zt S L).length=L.length:=by simp[zt]
theorem Pj(S:List zH)(L:List Int){j:Nat}(hj:j<L.length):(zt S L).drop j=Vj S L[j]:: (zt S L).drop (j+1):=by
 rw[List.drop_eq_getElem_cons (by rw[YS];exact hj)];simp[zt]
theorem UY{S:List zH}{i:Int}{D:zH}(h:S[i.toNat]? =some D):Vj S i=D:=by simp[Vj,h]
theorem Va{S:List zH}{L:List Int}(h:∀D,D∈S->yR D)(hL:jM S.length L):∀D,D∈zt S L->yR D:=by
 intro D hD;simp only[zt,List.mem_map]at hD;obtain⟨i,hi,rfl⟩:=hD;have:=hL.2 i hi;rw[UY (D:=S[i.toNat]'(by omega)) (by simp)];exact h _ (List.getElem_mem _)
theorem XC:∀(sv:List (zZ×Value)) (i:Nat) (p:zZ×Value),sv[i]? =some p->(jI sv)[i * 2]? =some (.string p.1.name)/\(jI sv)[i * 2+1]? =some p.2
 |[],i,p,h=>by simp at h
 |q:: sv,0,p,h=>by simp at h;subst h;simp[jI]
 |q:: sv,i+1,p,h=>by
  have ih:=XC sv i p (by simpa using h)
  have e:∀t,(jI (q:: sv))[(i+1) * 2+t]? =(jI sv)[i * 2+t]? :=by
   intro t;rw[show(i+1) * 2+t=(i * 2+t)+2 from by omega];simp[jI]
  exact⟨(e 0).trans ih.1,(e 1).trans ih.2⟩
theorem PL{w W0:World}{v0 v1 v2 vs:Value}{nm:ByteArray}(hW:W0=((w.alloc (.cells #[v0,v1,v2] 65)).alloc (.cells #[.string nm,vs] 79)).alloc (.cells #[.nilFunc,.nilFunc] 77)):
 zE W0 w.heap.size #[v0,v1,v2] 65/\zE W0 (w.heap.size+1) #[.string nm,vs] 79/\zE W0 (w.heap.size+1+1) #[.nilFunc,.nilFunc] 77/\Ch [] w W0/\W0.heap.size=w.heap.size+3:=by
 have A:=zE.new w #[v0,v1,v2] 65;have g1:=Ch.alloc [] w (.cells #[v0,v1,v2] 65)
 have z1:(w.alloc (.cells #[v0,v1,v2] 65)).heap.size=w.heap.size+1:=by simp
 generalize w.alloc (.cells #[v0,v1,v2] 65)=w1 at *;have B:=zE.new w1 #[.string nm,vs] 79;have g2:=Ch.alloc [] w1 (.cells #[.string nm,vs] 79)
 have z2:(w1.alloc (.cells #[.string nm,vs] 79)).heap.size=w1.heap.size+1:=by simp
 generalize w1.alloc (.cells #[.string nm,vs] 79)=w2 at *;have C:=zE.new w2 #[.nilFunc,.nilFunc] 77;have g3:=Ch.alloc [] w2 (.cells #[.nilFunc,.nilFunc] 77)
 have z3:(w2.alloc (.cells #[.nilFunc,.nilFunc] 77)).heap.size=w2.heap.size+1:=by simp
 rw[<- hW]at g3 C z3;rw[z1]at B;rw[show w2.heap.size=w.heap.size+1+1 from by omega]at C;exact⟨(A.kp g2 (by simp)).kp g3 (by simp),B.kp g3 (by simp),C,g1.trans (g2.trans g3),by omega⟩
def Bg(w:World)(H wb:Nat)(pc cc:Array Value)(Ds:List zH)(j:Nat)(w5:World):Prop:=
 ∃pv ev,zE w5 wb #[pv,ev] 77/\JJ w5 (wb+1) (Ds.drop j) j pv ev/\zE w5 H pc 65/\zE w5 (H+1) cc 79/\zE w5 (H+1+1) #[.nilFunc,.nilFunc] 77/\Ch [] w w5/\wb+1<=w5.heap.size
theorem Gf{w:World}{F:Nat->Prop}{v0 v1 v2 vs:Value}{nm:ByteArray}{sv:List (zH×Value)}{L:List Int}(hv1:JI v1)(hv2:JI v2)
 (hrs:w.ownsRow 0 118 5 v0 sv.length (jp sv)) (hps:∀p,p∈sv->JO w F p.2 p.1.rules) (hcr:j9 w F vs L) (hok:∀p,p∈sv->yR p.1) (hL:jM sv.length L):
 Calls Tryz.prog 24 #[.agg #[v0,v1,v2],.agg #[.string nm,vs]] w fun e w'=>∃pv ev lo,e= .returned (.agg #[pv,ev])/\w.heap.size<=lo/\JJ w' lo (zt (sv.map fun p=>p.1) L) 0 pv ev/\Ch [] w w':=by
 obtain⟨a0,c0,rfl⟩:=zQ hrs;obtain⟨aq,cs,rfl⟩:=zQ hcr.2;obtain⟨x1,n1,k1,rfl⟩:=hv1;obtain⟨x2,n2,k2,rfl⟩:=hv2;have hL3:=hL.1;go_enter Tryz.func24,Tryz.ntmps24;go_wp2_with fail;generalize hW0:((w.alloc (.cells #[.slice a0 sv.length c0,.slice x1 n1 k1,.slice x2 n2 k2] 65)).alloc (.cells #[.string nm,.slice aq L.length cs] 79)).alloc (.cells #[.nilFunc,.nilFunc] 77)=W0;obtain⟨P0,C0,R0,g0,z0⟩:=PL hW0.symm;clear hW0;refine(Rp).mono ?_;rintro e w1 ⟨rfl,g1⟩;have gA:=Ch.alloc [] w1 (.cells #[.func (.func 80) #[] #[],.func (.func 82) #[] #[]] 77);have WB:=zE.new w1 #[.func (.func 80) #[] #[],.func (.func 82) #[] #[]] 77;have P1:=zC ((P0.kp g1 (by simp)).kp gA (by simp));have C1:=(C0.kp g1 (by simp)).kp gA (by simp);have R1:=zC ((R0.kp g1 (by simp)).kp gA (by simp));have z1:=g1.size
 have zA:(w1.alloc (.cells #[.func (.func 80) #[] #[],.func (.func 82) #[] #[]] 77)).heap.size=w1.heap.size+1:=by simp
 have GA:=zC (g0.trans (g1.trans gA));have d1:=C1.cl 1 _ rfl;have C1x:=zC C1;have WBx:=zC WB;clear C1 WB gA P0 C0 R0 g0
 have hWB:w.heap.size+3<=w1.heap.size:=by omega
 have HSV:=zC hrs;have HCR:=zC hcr.2;clear hrs hcr;generalize hH:w.heap.size=H at *;go_wp2_with fail;clear d1;generalize w1.alloc (.cells #[.func (.func 80) #[] #[],.func (.func 82) #[] #[]] 77)=w2 at *;generalize w1.heap.size=wb at *;clear g1 z1 z0
 go_loopw [6] (fun i w5=>∃(j:Nat) (x:Int),j<=L.length/\i= .int .i64 x/\x=(j:Int) - 1/\Hd (Bg w H wb #[.slice a0 sv.length c0,.slice x1 n1 k1,.slice x2 n2 k2] #[.string nm,.slice aq L.length cs] (zt (sv.map fun p=>p.1) L) j w5)) (fun i _=>((intOf i)+1).toNat)
 case atStart=>
  refine⟨L.length,_,Nat.le_refl _,rfl,by go_num,⟨_,_,WBx.o,?_,P1.o,C1x.o,R1.o,GA.o,by omega⟩⟩;rw[List.drop_of_length_le (by rw[YS];omega)];exact⟨rfl,rfl⟩
 case round=>
  obtain⟨j,x,hj,rfl,hx,NR⟩:=hrel;obtain⟨pv,ev,hWBw,hCL,hP,hC,hR,hG,hz⟩:=NR.o
  by_cases hlt:(0:Int)<=x
  ·obtain⟨q,rfl⟩:∃q:Nat,x=q:=⟨x.toNat,by omega⟩
   obtain rfl:j=q+1:=by omega
   have hq:q<L.length:=by omega
   have hix:=hL.2 L[q] (List.getElem_mem hq)
   have hqL:(q:Int)<L.length:=by omega
   obtain⟨t,ht⟩:∃t:Nat,L[q]=t:=⟨L[q].toNat,by omega⟩
   have ht':t<sv.length:=by omega
   have htS:(t:Int)<sv.length:=by omega
   have HDR:=zC (Pj (sv.map fun p=>p.1) L hq);have HSA:Hd (Vj (sv.map fun p=>p.1) L[q]=sv[t].1):=UY (by rw[ht];simp[ht']);obtain⟨g,hga,hg⟩:=jO HCR.o (by omega);obtain⟨g',hga',hg'⟩:=jO HSV.o (by omega)
   have KS:∀W,Ch [wb] wr W->(W.cell? ⟨H,0,none⟩=some (.slice a0 sv.length c0)/\W.cell? ⟨H+1,1,none⟩=some (.slice aq L.length cs)/\W.cell? ⟨g,q,none⟩=some (.int .i64 t)/\W.cell? ⟨g',t * 5,none⟩=some (.string sv[t].1.name)/\W.cell? ⟨g',t * 5+1,none⟩=some (.int .i64 (if sv[t].1.swap then 1 else 0))/\W.cell? ⟨g',t * 5+2,none⟩=some sv[t].2/\W.cell? ⟨g',t * 5+3,none⟩=some (.string sv[t].1.one)/\W.cell? ⟨g',t * 5+4,none⟩=some (.string sv[t].1.two)):=by
    intro W gW;have G:Ch [] w W:=hG.trans' gW (by simp;omega);obtain⟨gg,e1,hc⟩:=jO (zJ HCR.o G (by simp)) (by omega);obtain⟨gg',e2,hc'⟩:=jO (zJ HSV.o G (by simp)) (by omega)
    obtain rfl:g=gg:=by rw[hga]at e1;injection e1 with e1;injection e1
    obtain rfl:g'=gg':=by rw[hga']at e2;injection e2 with e2;injection e2
    obtain⟨k0,k1,k2,k3,k4⟩:=Q4 sv t sv[t] (by simp[ht']);exact⟨(hP.kp gW (by simp;omega)).cl 0 _ rfl,(hC.kp gW (by simp;omega)).cl 1 _ rfl,hc q _ (by simp[hq,ht]),hc' _ _ k0,hc' _ _ k1,hc' _ _ k2,hc' _ _ k3,hc' _ _ k4⟩
   have hD:=hok sv[t] (List.getElem_mem ht');have hpr:=hps sv[t] (List.getElem_mem ht');subst hga hga';rw[HSA.o]at HDR;clear HSA hg hg' ht hix hx;generalize sv[t]=p at *;obtain⟨D,vr⟩:=p;simp only at KS hD hpr HDR;have b0:=hWBw.cl 0 _ rfl;have b1:=hWBw.cl 1 _ rfl;obtain⟨f1,f2,e1,e2,rfl,rfl,_,_⟩:=hCL.toV.funcs
   have HNEW:∀W,Ch [] w W->Calls Tryz.prog 45 #[.agg #[.string D.name,.int .i64 (if D.swap then 1 else 0),vr,.string D.one,.string D.two]] W fun e w'=>∃mv,e= .returned mv/\QD w' W.heap.size D mv/\Ch [] W w':=fun W gW=>Gv (hpr.kp gW) hD
   generalize (if D.swap=true then(1:Int)else 0)=kd at *;have KSx:=zC KS;have HNW:=zC HNEW;clear HNEW;have HPR:=zC hpr;have HDx:=zC hD;have HGx:=zC hG;have HWx:=zC hWBw;have HCLx:=zC hCL;have HPx:=zC hP;have HCx:=zC hC;have HRx:=zC hR;clear KS hpr hD hG hWBw hCL hP hC hR NR
   have HAH:Hd (∀W6 mv,QD W6 wr.drew.heap.size D mv->Ch [] wr.drew W6->Calls Tryz.prog 44 #[mv,.int .i64 q,.agg #[.func (.func f1) #[] e1,.func (.func f2) #[] e2]] W6 fun e w'=>∃pv ev,e= .returned (.agg #[pv,ev])/\JJ w' (wb+1) (D:: (zt (sv.map fun p=>p.1) L).drop (q+1)) q pv ev/\Ch [] W6 w'):=by
    intro W6 mv hm g6;have zd:wr.drew.heap.size=wr.heap.size:=rfl;have z6:=g6.size;exact CW (lo:=wb+1) (by omega) ⟨hm.1,fun rb e=>by have:=hm.2 rb e;omega⟩ (JJ.kp ((Ch.drew [] wr).trans g6) (by simp) _ _ _ _ HCLx.o)
   have s0:=KSx.o wr (Ch.refl _ _);obtain⟨s1,s2,s3,s4,s5,s6,s7,s8⟩:=s0;go_wp2_with fail
   go_region_with (first|(go_at_call 45;refine(HNW.o _ (HGx.o.trans (Ch.drew _ _))).mono ?_;rintro e w6 ⟨mv,rfl,m6,g6⟩;have M6:=zC m6;have s6:=KSx.o w6 ((Ch.drew _ _).trans (g6.mono (by simp)));obtain⟨t1,t2,t3,t4,t5,t6,t7,t8⟩:=s6;have c6:Ch [wb] wr w6:=(Ch.drew _ _).trans (g6.mono (by simp));have W6:zE w6 wb _ _:=zE.kp (zE.kp HWx.o (Ch.drew [] wr) (by simp)) g6 (by simp);have b60:=W6.cl 0 _ rfl;have b61:=W6.cl 1 _ rfl;clear m6)|(go_at_call 44;refine(HAH.o _ _ M6.o g6).mono ?_;rintro e w7 ⟨pv7,ev7,rfl,l7,g7⟩;obtain⟨f3,f4,e3,e4,rfl,rfl,_,_⟩:=l7.toV.funcs;have L7:=zC l7;have c7:Ch [wb] wr w7:=c6.trans (g7.mono (by simp));have W7:=zE.kp W6 g7 (by simp);have b70:=W7.cl 0 _ rfl;have b71:=W7.cl 1 _ rfl;have f70:=W7.fz 0;have f71:=W7.fz 1;clear l7))
   all_goals
    obtain⟨W8,g8⟩:=W7.fill2 (.func (.func f3) #[] e3) (.func (.func f4) #[] e4);have c8:=c7.trans g8;have G8:Ch [] w _:=HGx.o.trans' c8 (by simp;omega)
    have REL:Hd (Bg w H wb #[.slice (some ⟨g',0,none⟩) sv.length c0,.slice x1 n1 k1,.slice x2 n2 k2] #[.string nm,.slice (some ⟨g,0,none⟩) L.length cs] (zt (sv.map fun p=>p.1) L) q ((w7.setCell ⟨wb,0,none⟩ (.func (.func f3) #[] e3)).setCell ⟨wb,1,none⟩ (.func (.func f4) #[] e4))):=
     ⟨_,_,W8,by rw[HDR.o];exact JJ.kp g8 (by simp) _ _ _ _ L7.o,HPx.o.kp c8 (by simp;omega),HCx.o.kp c8 (by simp;omega),HRx.o.kp c8 (by simp;omega),G8,by have:=c8.size;omega⟩
    clear W8 g8 c8 G8 b70 b71 f70 f71 W7 c7 b60 b61 W6;generalize (w7.setCell ⟨wb,0,none⟩ (.func (.func f3) #[] e3)).setCell ⟨wb,1,none⟩ (.func (.func f4) #[] e4)=w8 at *;go_wp2_with fail;exact⟨⟨q,_,by omega,rfl,by omega,REL⟩,by simp[intOf]⟩
  ·obtain rfl:j=0:=by omega
   obtain⟨f1,f2,e1,e2,rfl,rfl,_,_⟩:=hCL.toV.funcs;have b0:=hWBw.cl 0 _ rfl;have b1:=hWBw.cl 1 _ rfl;have r0:=hR.cl 0 _ rfl;have r1:=hR.cl 1 _ rfl;have q0:=hR.fz 0;have q1:=hR.fz 1
   have hne:¬H+1+1=wb:=by omega
   obtain⟨R8,g8⟩:=hR.fill2 (.func (.func f1) #[] e1) (.func (.func f2) #[] e2);have G8:Hd (Ch [] w _):=hG.trans' g8 (by simp;omega);have CL8:Hd (JJ _ (wb+1) (zt (sv.map fun p=>p.1) L) 0 (.func (.func f1) #[] e1) (.func (.func f2) #[] e2)):=JJ.kp g8 (by simp;omega) _ _ _ _ hCL;have R8x:=zC R8;clear hCL hWBw hP hC hR NR R8 g8;go_wp2_with fail;have v0:=R8x.o.cl 0 _ rfl;have v1:=R8x.o.cl 1 _ rfl;exact bodyPost_ret (v:= .agg #[.func (.func f1) #[] e1,.func (.func f2) #[] e2]) (by simp[results,Tryz.results24,go_sem,v0,v1]) rfl ⟨_,_,rfl,wb+1,by omega,CL8.o,G8.o⟩
end Go.Proofs.YteobgfbgglfkbaaGreat
