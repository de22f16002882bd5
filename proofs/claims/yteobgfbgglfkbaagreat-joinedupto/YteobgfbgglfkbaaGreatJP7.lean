import Derived.Test.YteobgfbgglfkbaaGreatJP4
import Derived.Test.YteobgfbgglfkbaaGreatJC1
namespace Go.Proofs.YteobgfbgglfkbaaGreat
open Go.RowKit
attribute [local go_sem ↓] Go.wp_at_zero Go.wp_at_succ
def zFP(S:List zAE)(i:Int):zAE:=match S[i.toNat]? with | some p=>p | none=>⟨ByteArray.empty,false,ByteArray.empty,ByteArray.empty,[]⟩
def zAG(S:List zAE)(L:List Int):List zAE:=L.map (zFP S)
theorem zB5(S:List zAE)(L:List Int):(zAG S L).length=L.length:=by simp [zAG]
theorem zIS(S:List zAE)(L:List Int){j:Nat}(hj:j<L.length):(zAG S L).drop j=zFP S L[j]:: (zAG S L).drop (j+1):=by
 rw [List.drop_eq_getElem_cons (by rw [zB5];exact hj)];simp [zAG]
theorem zD8{S:List zAE}{i:Int}{D:zAE}(h:S[i.toNat]? =some D):zFP S i=D:=by simp [zFP,h]
theorem zC0{S:List zAE}{L:List Int}(h:∀D,D∈S→zAb D)(hL:zBI S.length L):∀D,D∈zAG S L→zAb D:=by
 intro D hD;simp only [zAG,List.mem_map] at hD;obtain ⟨i,hi,rfl⟩:=hD;have:=hL.2 i hi;rw [zD8 (D:=S[i.toNat]'(by omega)) (by simp)];exact h _ (List.getElem_mem _)
theorem zCC:∀(sv:List (zAQ×Value)) (i:Nat) (p:zAQ×Value),sv[i]? =some p→(zAR sv)[i * 2]? =some (.string p.1.name)∧(zAR sv)[i * 2+1]? =some p.2
 |[],i,p,h=>by simp at h
 |q:: sv,0,p,h=>by simp at h;subst h;simp [zAR]
 |q:: sv,i+1,p,h=>by
  have ih:=zCC sv i p (by simpa using h)
  have e:∀t,(zAR (q:: sv))[(i+1) * 2+t]? =(zAR sv)[i * 2+t]? :=by
   intro t;rw [show (i+1) * 2+t=(i * 2+t)+2 from by omega];simp [zAR]
  exact ⟨(e 0).trans ih.1,(e 1).trans ih.2⟩
theorem zG2{w W0:World}{v0 v1 v2 vs:Value}{nm:ByteArray}(hW:W0=((w.alloc (.cells #[v0,v1,v2] 65)).alloc (.cells #[.string nm,vs] 79)).alloc (.cells #[.nilFunc,.nilFunc] 77)):
  zAD W0 w.heap.size #[v0,v1,v2] 65∧zAD W0 (w.heap.size+1) #[.string nm,vs] 79∧zAD W0 (w.heap.size+1+1) #[.nilFunc,.nilFunc] 77∧Ch [] w W0∧W0.heap.size=w.heap.size+3:=by
 have A:=zAD.new w #[v0,v1,v2] 65;have g1:=Ch.alloc [] w (.cells #[v0,v1,v2] 65)
 have z1:(w.alloc (.cells #[v0,v1,v2] 65)).heap.size=w.heap.size+1:=by simp
 generalize w.alloc (.cells #[v0,v1,v2] 65)=w1 at *;have B:=zAD.new w1 #[.string nm,vs] 79;have g2:=Ch.alloc [] w1 (.cells #[.string nm,vs] 79)
 have z2:(w1.alloc (.cells #[.string nm,vs] 79)).heap.size=w1.heap.size+1:=by simp
 generalize w1.alloc (.cells #[.string nm,vs] 79)=w2 at *;have C:=zAD.new w2 #[.nilFunc,.nilFunc] 77;have g3:=Ch.alloc [] w2 (.cells #[.nilFunc,.nilFunc] 77)
 have z3:(w2.alloc (.cells #[.nilFunc,.nilFunc] 77)).heap.size=w2.heap.size+1:=by simp
 rw [← hW] at g3 C z3;rw [z1] at B;rw [show w2.heap.size=w.heap.size+1+1 from by omega] at C;exact ⟨(A.keep g2 (by simp)).keep g3 (by simp),B.keep g3 (by simp),C,g1.trans (g2.trans g3),by omega⟩
def NcRel(w:World)(H wb:Nat)(pc cc:Array Value)(Ds:List zAE)(j:Nat)(w5:World):Prop:=
 ∃pv ev,zAD w5 wb #[pv,ev] 77∧zCF w5 (wb+1) (Ds.drop j) j pv ev∧zAD w5 H pc 65∧zAD w5 (H+1) cc 79∧zAD w5 (H+1+1) #[.nilFunc,.nilFunc] 77∧Ch [] w w5∧wb+1≤w5.heap.size
set_option maxRecDepth 100000 in
set_option maxHeartbeats 3200000 in
theorem zE0{w:World}{F:Nat→Prop}{v0 v1 v2 vs:Value}{nm:ByteArray}{sv:List (zAE×Value)}{L:List Int}(hv1:isSl v1)(hv2:isSl v2)
  (hrs:w.ownsRow 0 118 5 v0 sv.length (zAV sv)) (hps:∀p,p∈sv→zAm w F p.2 p.1.rules) (hcr:zA7 w F vs L) (hok:∀p,p∈sv→zAb p.1) (hL:zBI sv.length L):
  Calls Tryz.prog 24 #[.agg #[v0,v1,v2],.agg #[.string nm,vs]] w fun e w'=>∃pv ev lo,e= .returned (.agg #[pv,ev])∧w.heap.size≤lo∧zCF w' lo (zAG (sv.map fun p=>p.1) L) 0 pv ev∧Ch [] w w':=by
 obtain ⟨a0,c0,rfl⟩:=zAC hrs;obtain ⟨aq,cs,rfl⟩:=zAC hcr.2;obtain ⟨x1,n1,k1,rfl⟩:=hv1;obtain ⟨x2,n2,k2,rfl⟩:=hv2;have hL3:=hL.1;go_enter Tryz.func24,Tryz.ntmps24;go_wp2_with fail;generalize hW0:((w.alloc (.cells #[.slice a0 sv.length c0,.slice x1 n1 k1,.slice x2 n2 k2] 65)).alloc (.cells #[.string nm,.slice aq L.length cs] 79)).alloc (.cells #[.nilFunc,.nilFunc] 77)=W0;obtain ⟨P0,C0,R0,g0,z0⟩:=zG2 hW0.symm;clear hW0;refine (zMh).mono ?_;rintro e w1 ⟨rfl,g1⟩;have gA:=Ch.alloc [] w1 (.cells #[.func (.func 80) #[] #[],.func (.func 82) #[] #[]] 77);have WB:=zAD.new w1 #[.func (.func 80) #[] #[],.func (.func 82) #[] #[]] 77;have P1:=hide ((P0.keep g1 (by simp)).keep gA (by simp));have C1:=(C0.keep g1 (by simp)).keep gA (by simp);have R1:=hide ((R0.keep g1 (by simp)).keep gA (by simp));have z1:=g1.size
 have zA:(w1.alloc (.cells #[.func (.func 80) #[] #[],.func (.func 82) #[] #[]] 77)).heap.size=w1.heap.size+1:=by simp
 have GA:=hide (g0.trans (g1.trans gA));have d1:=C1.cell 1 _ rfl;have C1x:=hide C1;have WBx:=hide WB;clear C1 WB gA P0 C0 R0 g0
 have hWB:w.heap.size+3≤w1.heap.size:=by omega
 have HSV:=hide hrs;have HCR:=hide hcr.2;clear hrs hcr;generalize hH:w.heap.size=H at *;go_wp2_with fail;clear d1;generalize w1.alloc (.cells #[.func (.func 80) #[] #[],.func (.func 82) #[] #[]] 77)=w2 at *;generalize w1.heap.size=wb at *;clear g1 z1 z0
 go_loopw [6] (fun i w5=>∃(j:Nat) (x:Int),j≤L.length∧i= .int .i64 x∧x=(j:Int) - 1∧Hid (NcRel w H wb #[.slice a0 sv.length c0,.slice x1 n1 k1,.slice x2 n2 k2] #[.string nm,.slice aq L.length cs] (zAG (sv.map fun p=>p.1) L) j w5)) (fun i _=>((intOf i)+1).toNat)
 case atStart=>
  refine ⟨L.length,_,Nat.le_refl _,rfl,by go_num,⟨_,_,WBx.out,?_,P1.out,C1x.out,R1.out,GA.out,by omega⟩⟩;rw [List.drop_of_length_le (by rw [zB5];omega)];exact ⟨rfl,rfl⟩
 case round=>
  obtain ⟨j,x,hj,rfl,hx,NR⟩:=hrel;obtain ⟨pv,ev,hWBw,hCL,hP,hC,hR,hG,hz⟩:=NR.out
  by_cases hlt:(0:Int)≤x
  ·obtain ⟨q,rfl⟩:∃q:Nat,x=q:=⟨x.toNat,by omega⟩
   obtain rfl:j=q+1:=by omega
   have hq:q<L.length:=by omega
   have hix:=hL.2 L[q] (List.getElem_mem hq)
   have hqL:(q:Int)<L.length:=by omega
   obtain ⟨t,ht⟩:∃t:Nat,L[q]=t:=⟨L[q].toNat,by omega⟩
   have ht':t<sv.length:=by omega
   have htS:(t:Int)<sv.length:=by omega
   have HDR:=hide (zIS (sv.map fun p=>p.1) L hq);have HSA:Hid (zFP (sv.map fun p=>p.1) L[q]=sv[t].1):=zD8 (by rw [ht];simp [ht']);obtain ⟨g,hga,hg⟩:=zAc HCR.out (by omega);obtain ⟨g',hga',hg'⟩:=zAc HSV.out (by omega)
   have KS:∀W,Ch [wb] wr W→(W.cell? ⟨H,0,none⟩=some (.slice a0 sv.length c0)∧W.cell? ⟨H+1,1,none⟩=some (.slice aq L.length cs)∧W.cell? ⟨g,q,none⟩=some (.int .i64 t)∧W.cell? ⟨g',t * 5,none⟩=some (.string sv[t].1.name)∧W.cell? ⟨g',t * 5+1,none⟩=some (.int .i64 (if sv[t].1.swap then 1 else 0))∧W.cell? ⟨g',t * 5+2,none⟩=some sv[t].2∧W.cell? ⟨g',t * 5+3,none⟩=some (.string sv[t].1.one)∧W.cell? ⟨g',t * 5+4,none⟩=some (.string sv[t].1.two)):=by
    intro W gW;have G:Ch [] w W:=hG.trans' gW (by simp;omega);obtain ⟨gg,e1,hc⟩:=zAc (zAB HCR.out G (by simp)) (by omega);obtain ⟨gg',e2,hc'⟩:=zAc (zAB HSV.out G (by simp)) (by omega)
    obtain rfl:g=gg:=by rw [hga] at e1;injection e1 with e1;injection e1
    obtain rfl:g'=gg':=by rw [hga'] at e2;injection e2 with e2;injection e2
    obtain ⟨k0,k1,k2,k3,k4⟩:=zBq sv t sv[t] (by simp [ht']);exact ⟨(hP.keep gW (by simp;omega)).cell 0 _ rfl,(hC.keep gW (by simp;omega)).cell 1 _ rfl,hc q _ (by simp [hq,ht]),hc' _ _ k0,hc' _ _ k1,hc' _ _ k2,hc' _ _ k3,hc' _ _ k4⟩
   have hD:=hok sv[t] (List.getElem_mem ht');have hpr:=hps sv[t] (List.getElem_mem ht');subst hga hga';rw [HSA.out] at HDR;clear HSA hg hg' ht hix hx;generalize sv[t]=p at *;obtain ⟨D,vr⟩:=p;simp only at KS hD hpr HDR;have b0:=hWBw.cell 0 _ rfl;have b1:=hWBw.cell 1 _ rfl;obtain ⟨f1,f2,e1,e2,rfl,rfl,_,_⟩:=hCL.toV.funcs
   have HNEW:∀W,Ch [] w W→Calls Tryz.prog 45 #[.agg #[.string D.name,.int .i64 (if D.swap then 1 else 0),vr,.string D.one,.string D.two]] W fun e w'=>∃mv,e= .returned mv∧zI8 w' W.heap.size D mv∧Ch [] W w':=fun W gW=>new_any (hpr.keep gW) hD
   generalize (if D.swap=true then (1:Int) else 0)=kd at *;have KSx:=hide KS;have HNW:=hide HNEW;clear HNEW;have HPR:=hide hpr;have HDx:=hide hD;have HGx:=hide hG;have HWx:=hide hWBw;have HCLx:=hide hCL;have HPx:=hide hP;have HCx:=hide hC;have HRx:=hide hR;clear KS hpr hD hG hWBw hCL hP hC hR NR
   have HAH:Hid (∀W6 mv,zI8 W6 wr.drew.heap.size D mv→Ch [] wr.drew W6→Calls Tryz.prog 44 #[mv,.int .i64 q,.agg #[.func (.func f1) #[] e1,.func (.func f2) #[] e2]] W6 fun e w'=>∃pv ev,e= .returned (.agg #[pv,ev])∧zCF w' (wb+1) (D:: (zAG (sv.map fun p=>p.1) L).drop (q+1)) q pv ev∧Ch [] W6 w'):=by
    intro W6 mv hm g6;have zd:wr.drew.heap.size=wr.heap.size:=rfl;have z6:=g6.size;exact zM2 (lo:=wb+1) (by omega) ⟨hm.1,fun rb e=>by have:=hm.2 rb e;omega⟩ (zCF.keep ((Ch.drew [] wr).trans g6) (by simp) _ _ _ _ HCLx.out)
   have s0:=KSx.out wr (Ch.refl _ _);obtain ⟨s1,s2,s3,s4,s5,s6,s7,s8⟩:=s0;go_wp2_with fail
   go_region_with (first | (go_at_call 45;refine (HNW.out _ (HGx.out.trans (Ch.drew _ _))).mono ?_;rintro e w6 ⟨mv,rfl,m6,g6⟩;have M6:=hide m6;have s6:=KSx.out w6 ((Ch.drew _ _).trans (g6.mono (by simp)));obtain ⟨t1,t2,t3,t4,t5,t6,t7,t8⟩:=s6;have c6:Ch [wb] wr w6:=(Ch.drew _ _).trans (g6.mono (by simp));have W6:zAD w6 wb _ _:=zAD.keep (zAD.keep HWx.out (Ch.drew [] wr) (by simp)) g6 (by simp);have b60:=W6.cell 0 _ rfl;have b61:=W6.cell 1 _ rfl;clear m6) | (go_at_call 44;refine (HAH.out _ _ M6.out g6).mono ?_;rintro e w7 ⟨pv7,ev7,rfl,l7,g7⟩;obtain ⟨f3,f4,e3,e4,rfl,rfl,_,_⟩:=l7.toV.funcs;have L7:=hide l7;have c7:Ch [wb] wr w7:=c6.trans (g7.mono (by simp));have W7:=zAD.keep W6 g7 (by simp);have b70:=W7.cell 0 _ rfl;have b71:=W7.cell 1 _ rfl;have f70:=W7.frozen 0;have f71:=W7.frozen 1;clear l7))
   all_goals
    obtain ⟨W8,g8⟩:=W7.fill2 (.func (.func f3) #[] e3) (.func (.func f4) #[] e4);have c8:=c7.trans g8;have G8:Ch [] w _:=HGx.out.trans' c8 (by simp;omega)
    have REL:Hid (NcRel w H wb #[.slice (some ⟨g',0,none⟩) sv.length c0,.slice x1 n1 k1,.slice x2 n2 k2] #[.string nm,.slice (some ⟨g,0,none⟩) L.length cs] (zAG (sv.map fun p=>p.1) L) q ((w7.setCell ⟨wb,0,none⟩ (.func (.func f3) #[] e3)).setCell ⟨wb,1,none⟩ (.func (.func f4) #[] e4))):=
     ⟨_,_,W8,by rw [HDR.out];exact zCF.keep g8 (by simp) _ _ _ _ L7.out,HPx.out.keep c8 (by simp;omega),HCx.out.keep c8 (by simp;omega),HRx.out.keep c8 (by simp;omega),G8,by have:=c8.size;omega⟩
    clear W8 g8 c8 G8 b70 b71 f70 f71 W7 c7 b60 b61 W6;generalize (w7.setCell ⟨wb,0,none⟩ (.func (.func f3) #[] e3)).setCell ⟨wb,1,none⟩ (.func (.func f4) #[] e4)=w8 at *;go_wp2_with fail;exact ⟨⟨q,_,by omega,rfl,by omega,REL⟩,by simp [intOf]⟩
  ·obtain rfl:j=0:=by omega
   obtain ⟨f1,f2,e1,e2,rfl,rfl,_,_⟩:=hCL.toV.funcs;have b0:=hWBw.cell 0 _ rfl;have b1:=hWBw.cell 1 _ rfl;have r0:=hR.cell 0 _ rfl;have r1:=hR.cell 1 _ rfl;have q0:=hR.frozen 0;have q1:=hR.frozen 1
   have hne:¬H+1+1=wb:=by omega
   obtain ⟨R8,g8⟩:=hR.fill2 (.func (.func f1) #[] e1) (.func (.func f2) #[] e2);have G8:Hid (Ch [] w _):=hG.trans' g8 (by simp;omega);have CL8:Hid (zCF _ (wb+1) (zAG (sv.map fun p=>p.1) L) 0 (.func (.func f1) #[] e1) (.func (.func f2) #[] e2)):=zCF.keep g8 (by simp;omega) _ _ _ _ hCL;have R8x:=hide R8;clear hCL hWBw hP hC hR NR R8 g8;go_wp2_with fail;have v0:=R8x.out.cell 0 _ rfl;have v1:=R8x.out.cell 1 _ rfl;exact bodyPost_ret (v:= .agg #[.func (.func f1) #[] e1,.func (.func f2) #[] e2]) (by simp [results,Tryz.results24,go_sem,v0,v1]) rfl ⟨_,_,rfl,wb+1,by omega,CL8.out,G8.out⟩
theorem zIk{w:World}{F:Nat→Prop}{v0 v1 v2 vs:Value}{nm:ByteArray}{sv:List (zAE×Value)}{L:List Int}(hv1:isSl v1)(hv2:isSl v2)
  (hrs:w.ownsRow 0 118 5 v0 sv.length (zAV sv)) (hps:∀p,p∈sv→zAm w F p.2 p.1.rules) (hcr:zA7 w F vs L) (hok:∀p,p∈sv→zAb p.1) (hL:zBI sv.length L):
  Calls Tryz.prog 24 #[.agg #[v0,v1,v2],.agg #[.string nm,vs]] w fun e w'=>∃pv ev,e= .returned (.agg #[pv,ev])∧zA9 w' (zAG (sv.map fun p=>p.1) L) 0 pv ev∧Ch [] w w':=
 (zE0 hv1 hv2 hrs hps hcr hok hL).mono (fun _ _ h=>by
  obtain ⟨pv,ev,lo,h1,_,h2,h3⟩:=h
  exact ⟨pv,ev,h1,h2.toV,h3⟩)
end Go.Proofs.YteobgfbgglfkbaaGreat
