import Derived.Test.YteobgfbgglfkbaaGreatAP7
import Derived.Test.YteobgfbgglfkbaaGreatAT3
import Derived.Test.YteobgfbgglfkbaaGreatAS5
set_option maxHeartbeats 12800000
set_option maxRecDepth 100000
namespace Go.Proofs.YteobgfbgglfkbaaGreat
open Go.RowKit
attribute [local go_sem ↓] Go.wp_at_zero Go.wp_at_succ
theorem LM{w:World}{lo:Nat}:∀(Ds:List zH) (k:Nat) (pv ev:Value),JJ w lo Ds k pv ev->∃Z:List Nat,(∀b,b∈Z->lo<=b/\b<w.heap.size)/\∀w':World,(∀b,b∈Z->w'.heap[b]? =w.heap[b]?)->j5 w' Ds k pv ev
 |[],_,_,_,h=>⟨[],by simp,fun _ _=>h⟩
 |D:: Ds,k,pv,ev,⟨M,N,R,P,mv,rp,re,h1,h2,h0,h3,h4,h5,h6,h7,h8⟩=>by
  obtain⟨Z,z1,z2⟩:=LM Ds (k+1) rp re h8
  have hm:∃Y:List Nat,(∀b,b∈Y->lo<=b/\b<w.heap.size)/\∀w':World,(∀b,b∈Y->w'.heap[b]? =w.heap[b]?)->VS w' D mv:=by
   rcases h4.1 with q|⟨q1,rb,q2,q3⟩
   ·exact⟨[],by simp,fun _ _=>Or.inl q⟩
   ·exact⟨[rb],by simpa using ⟨h4.2 rb q2,q3.lt⟩,fun w' hw=>Or.inr ⟨q1,rb,q2,(hw rb (by simp)).trans q3⟩⟩
  obtain⟨Y,y1,y2⟩:=hm;refine⟨M:: N:: R:: P:: (Y++Z),?_,fun w' hw=>⟨M,N,R,P,mv,rp,re,h1,h2,(hw M (by simp)).trans h3,y2 w' (fun b hb=>hw b (by simp[hb])),(hw N (by simp)).trans h5,(hw P (by simp)).trans h6,(hw R (by simp)).trans h7,z2 w' (fun b hb=>hw b (by simp[hb]))⟩⟩;intro b hb;simp only[List.mem_cons,List.mem_append]at hb
  rcases hb with rfl|rfl|rfl|rfl|hb|hb
  ·exact⟨h0.1,h3.lt⟩
  ·exact⟨h0.2.1,h5.lt⟩
  ·exact⟨h0.2.2.1,h7.lt⟩
  ·exact⟨h0.2.2.2,h6.lt⟩
  ·exact y1 b hb
  ·exact z1 b hb
theorem Vf{Ds:List zH}{w w2 w3 w4 w5:World}{B1 B2 r lo:Nat}{pv ev:Value}(hlo:w.heap.size<=lo)(hc:JJ w2 lo Ds 0 pv ev)(c3:Ch [] w2 w5)(m1:yx w3 282 B1 0 (fun _=>none))(m2:yx w4 122 B2 0 (fun _=>none))(c1:Ch [] w3 w5)(c2:Ch [] w4 w5)(hr:zE w5 r #[pv,ev,.map (some B1),.map (some B2)] 274)(n1:w.heap.size<=B1)(n2:w.heap.size<=B2)(n3:w.heap.size<=r)(d12:B1≠B2)(hz:∀Z:List Nat,(∀b,b∈Z->lo<=b/\b<w2.heap.size)->(∀w':World,(∀b,b∈Z->w'.heap[b]? =w2.heap[b]?)->j5 w' Ds 0 pv ev)->r∉Z/\B1∉Z/\B2∉Z)(dr1:r≠B1)(dr2:r≠B2):∃X,jP Ds w5 X r/\r∈X/\∀q,q∈X->w.heap.size<=q:=by
 obtain⟨Z,z1,z2⟩:=LM Ds 0 pv ev hc;obtain⟨q1,q2,q3⟩:=hz Z z1 z2;refine⟨r:: B1:: B2:: Z,⟨pv,ev,B1,B2,Z,rfl,hr,?_,?_,?_,q1,q2,q3,dr1,dr2,d12⟩,by simp,fun q hq=> ?_⟩
 ·have:Q1 w2 Z Ds pv ev:=⟨fun b hb=>(z1 b hb).2,z2⟩
  exact this.kp c3 (by simp)
 ·exact⟨[],fun _=>none,m1.kp c1 (by simp),List.nodup_nil,fun _=>Or.inl rfl,fun u hu=>by cases hu⟩
 ·exact⟨[],fun _=>none,m2.kp c2 (by simp),List.nodup_nil,fun _=>Or.inl rfl,fun u hu=>by cases hu⟩
 ·simp only[List.mem_cons]at hq
  rcases hq with rfl|rfl|rfl|hq
  ·exact n3
  ·exact n1
  ·exact n2
  ·have:=(z1 q hq).1;omega
theorem KU{w:World}{lo b:Nat}{F:Nat->Prop}{v0 v1 v2:Value}{sv:List (zH×Value)}{cv:List (zZ×Value)}{av:List (ze×Value×Value)}(hp:yZ w lo b F v0 v1 v2 sv cv av){i:Nat}{ch:zZ}{vs:Value}(hi:cv[i]? =some (ch,vs))(hok:∀p,p∈sv->yR p.1)(hL:jM sv.length ch.scrubs):
 Calls Tryz.prog 123 #[.agg #[v0,v1,v2],.int .i64 i] w fun e w'=>∃r X,e= .returned (.pointer (some ⟨r,0,none⟩))/\jP (zt (sv.map fun p=>p.1) ch.scrubs) w' X r/\r∈X/\Ch [] w w'/\∀q,q∈X->w.heap.size<=q:=by
 have hlt:i<cv.length:=(List.getElem?_eq_some_iff.1 hi).1;obtain⟨a0,c0,rfl⟩:=zQ hp.rs;obtain⟨a2,c2,rfl⟩:=zQ hp.ra
 obtain⟨gc,cc,rfl⟩:∃g cap,v1= .slice (some ⟨g,0,none⟩) cv.length cap:=by
  rcases hp.rc.2 with⟨_,h0⟩|⟨g,cap,cur,h,_⟩
  ·omega
  ·exact⟨g,cap,h⟩
 have hcr:=hp.pc _ (List.mem_of_getElem? hi);obtain⟨sa,cs,hvs⟩:=zQ hcr.2;simp only at hvs;subst hvs;have g0:=Ch.alloc [] w (.cells #[.slice a0 sv.length c0,.slice (some ⟨gc,0,none⟩) cv.length cc,.slice a2 av.length c2] 65);have P0:=zE.new w #[.slice a0 sv.length c0,.slice (some ⟨gc,0,none⟩) cv.length cc,.slice a2 av.length c2] 65
 have z0:(w.alloc (.cells #[.slice a0 sv.length c0,.slice (some ⟨gc,0,none⟩) cv.length cc,.slice a2 av.length c2] 65)).heap.size=w.heap.size+1:=by simp
 generalize hw0:w.alloc (.cells #[.slice a0 sv.length c0,.slice (some ⟨gc,0,none⟩) cv.length cc,.slice a2 av.length c2] 65)=w0 at *;have hcc:=XC cv i _ hi
 have cell:∀W,Ch [] w W->W.cell? ⟨gc,i * 2,none⟩=some (.string ch.name)/\W.cell? ⟨gc,i * 2+1,none⟩=some (.slice sa ch.scrubs.length cs):=by
  intro W c;have R:=zJ hp.rc c (by simp);have hl:=R.1;exact⟨by rw[R.cellAt (i * 2) (by omega)];exact hcc.1,by rw[R.cellAt (i * 2+1) (by omega)];exact hcc.2⟩
 have pcell:∀W,Ch [] w0 W->W.cell? ⟨w.heap.size,0,none⟩=some (.slice a0 sv.length c0)/\W.cell? ⟨w.heap.size,1,none⟩=some (.slice (some ⟨gc,0,none⟩) cv.length cc)/\W.cell? ⟨w.heap.size,2,none⟩=some (.slice a2 av.length c2):=by
  intro W c;have B:=P0.kp c (by simp);exact⟨B.cl 0 _ rfl,B.cl 1 _ rfl,B.cl 2 _ rfl⟩
 have NC:Hd (∀W,Ch [] w W->Calls Tryz.prog 24 #[.agg #[.slice a0 sv.length c0,.slice (some ⟨gc,0,none⟩) cv.length cc,.slice a2 av.length c2],.agg #[.string ch.name,.slice sa ch.scrubs.length cs]] W fun e w'=>∃pv ev lo,e= .returned (.agg #[pv,ev])/\W.heap.size<=lo/\JJ w' lo (zt (sv.map fun p=>p.1) ch.scrubs) 0 pv ev/\Ch [] W w'):=by
  intro W c;have hpW:=hp.kp c (by simp);exact Gf ⟨_,_,_,rfl⟩ ⟨_,_,_,rfl⟩ hpW.rs hpW.ps (hcr.frame (fun k hk=>c.block k (hp.f k hk).2.1 (by simp)) (fun _ h=>h)) hok hL
 have HCELL:=zC cell;have HPC:=zC pcell;obtain⟨p0,p1,p2⟩:=pcell w0 (Ch.refl _ _);obtain⟨q0,q1⟩:=cell w0 g0
 have hlt':(i:Int)<cv.length:=by omega
 have hi0:(0:Int)<=i:=by omega
 have hmm:= @run_makeMap Tryz.prog;have HP:=zC hp;clear cell pcell hp hcr P0;go_enter Tryz.func123,Tryz.ntmps123;go_wp2_with fail
 have KEEP:∀W,Ch [] w0 W->(W.cell? ⟨w.heap.size,0,none⟩=some (.slice a0 sv.length c0)/\W.cell? ⟨w.heap.size,1,none⟩=some (.slice (some ⟨gc,0,none⟩) cv.length cc)/\W.cell? ⟨w.heap.size,2,none⟩=some (.slice a2 av.length c2)/\W.cell? ⟨gc,i * 2,none⟩=some (.string ch.name)/\W.cell? ⟨gc,i * 2+1,none⟩=some (.slice sa ch.scrubs.length cs)/\Ch [] w0 W):=fun W c=>⟨(HPC.o W c).1,(HPC.o W c).2.1,(HPC.o W c).2.2,(HCELL.o W (g0.trans c)).1,(HCELL.o W (g0.trans c)).2,c⟩
 have HK:=zC KEEP;clear KEEP
 go_region_held3 (fun w'=>w'.cell? ⟨w.heap.size,0,none⟩=some (.slice a0 sv.length c0)/\w'.cell? ⟨w.heap.size,1,none⟩=some (.slice (some ⟨gc,0,none⟩) cv.length cc)/\w'.cell? ⟨w.heap.size,2,none⟩=some (.slice a2 av.length c2)/\w'.cell? ⟨gc,i * 2,none⟩=some (.string ch.name)/\w'.cell? ⟨gc,i * 2+1,none⟩=some (.slice sa ch.scrubs.length cs)/\Ch [] w0 w') (first|(exact E2)|(exact HK.o _ (by repeat' (first|assumption|exact Ch.refl _ _|refine Ch.trans ?_ (Ch.alloc [] _ _)|refine Ch.trans ?_ (Ch.drew [] _))))) (first|(go_at_call 24;refine(NC.o _ (g0.trans (by repeat' (first|assumption|exact Ch.refl _ _|refine Ch.trans ?_ (Ch.alloc [] _ _)|refine Ch.trans ?_ (Ch.drew [] _))))).mono ?_;rintro e w2 ⟨pv,ev,lo,rfl,hlo,CL,k2⟩;have K2:Ch [] w0 w2:=Ch.trans (by repeat' (first|assumption|exact Ch.refl _ _|refine Ch.trans ?_ (Ch.alloc [] _ _)|refine Ch.trans ?_ (Ch.drew [] _))) k2;have E2:=HK.o w2 K2))
 all_goals
  have zk2:=k2.size
  have zsz:∀(W:World),W.drew.heap.size=W.heap.size:=fun _=>rfl
  simp only[zsz,World.alloc,Array.size_push]at hlo zk2;have HCL:=zC CL;have HK2:=zC k2;clear CL hmm p0 p1 p2 q0 q1 E2;go_wp2_with fail;go_ret
  have La:∀T,yx (w0.alloc (.map #[] 0)) T (w.heap.size+1) 0 (fun _=>none):=fun T=>by have:=yx.made w0 T;rw[z0]at this;exact this
  have Lb:∀T,yx ((w0.alloc (.map #[] 0)).alloc (.map #[] 0)) T (w.heap.size+1+1) 0 (fun _=>none):=fun T=>by
   have:=yx.made (w0.alloc (.map #[] 0)) T;rw[show(w0.alloc (.map #[] 0)).heap.size=w.heap.size+1+1 from by simp[z0]]at this;exact this
  have Lc:∀T,yx (w2.alloc (.map #[] 0)) T w2.heap.size 0 (fun _=>none):=fun T=>yx.made w2 T
  have Ld:∀T,yx ((w2.alloc (.map #[] 0)).alloc (.map #[] 0)) T (w2.heap.size+1) 0 (fun _=>none):=fun T=>by
   have:=yx.made (w2.alloc (.map #[] 0)) T;rw[show(w2.alloc (.map #[] 0)).heap.size=w2.heap.size+1 from by simp]at this;exact this
  have k2:=HK2.o
  first
  |(obtain⟨X,hR,hm,hX⟩:=Vf (w:=w) (w5:=((w2.alloc (.map #[] 0)).alloc (.map #[] 0)).alloc (.cells #[pv,ev,.map (some (w2.heap.size)),.map (some (w2.heap.size+1))] 274)) (B1:=w2.heap.size) (B2:=w2.heap.size+1) (r:=w2.heap.size+1+1) (by omega) HCL.o (by repeat' (first|assumption|exact Ch.refl _ _|refine Ch.trans ?_ (Ch.alloc [] _ _)|refine Ch.trans ?_ (Ch.drew [] _)|refine Ch.trans ?_ k2)) (Lc _) (Ld _) (by repeat' (first|assumption|exact Ch.refl _ _|refine Ch.trans ?_ (Ch.alloc [] _ _)|refine Ch.trans ?_ (Ch.drew [] _)|refine Ch.trans ?_ k2)) (by repeat' (first|assumption|exact Ch.refl _ _|refine Ch.trans ?_ (Ch.alloc [] _ _)|refine Ch.trans ?_ (Ch.drew [] _)|refine Ch.trans ?_ k2)) (by have:=zE.new ((w2.alloc (.map #[] 0)).alloc (.map #[] 0)) #[pv,ev,.map (some (w2.heap.size)),.map (some (w2.heap.size+1))] 274;rw[show((w2.alloc (.map #[] 0)).alloc (.map #[] 0)).heap.size=w2.heap.size+1+1 from by simp]at this;exact this) (by omega) (by omega) (by omega) (by omega) (fun Z hz _=>⟨fun h=>by have:=hz _ h;omega,fun h=>by have:=hz _ h;omega,fun h=>by have:=hz _ h;omega⟩) (by omega) (by omega);exact⟨_,X,by simp,hR,hm,(by repeat' (first|assumption|exact Ch.refl _ _|refine Ch.trans ?_ (Ch.alloc [] _ _)|refine Ch.trans ?_ (Ch.drew [] _)|refine Ch.trans ?_ k2)),hX⟩)
  |(obtain⟨X,hR,hm,hX⟩:=Vf (w:=w) (w5:=((w2.alloc (.map #[] 0)).alloc (.map #[] 0)).alloc (.cells #[pv,ev,.map (some (w2.heap.size+1)),.map (some (w2.heap.size))] 274)) (B1:=w2.heap.size+1) (B2:=w2.heap.size) (r:=w2.heap.size+1+1) (by omega) HCL.o (by repeat' (first|assumption|exact Ch.refl _ _|refine Ch.trans ?_ (Ch.alloc [] _ _)|refine Ch.trans ?_ (Ch.drew [] _)|refine Ch.trans ?_ k2)) (Ld _) (Lc _) (by repeat' (first|assumption|exact Ch.refl _ _|refine Ch.trans ?_ (Ch.alloc [] _ _)|refine Ch.trans ?_ (Ch.drew [] _)|refine Ch.trans ?_ k2)) (by repeat' (first|assumption|exact Ch.refl _ _|refine Ch.trans ?_ (Ch.alloc [] _ _)|refine Ch.trans ?_ (Ch.drew [] _)|refine Ch.trans ?_ k2)) (by have:=zE.new ((w2.alloc (.map #[] 0)).alloc (.map #[] 0)) #[pv,ev,.map (some (w2.heap.size+1)),.map (some (w2.heap.size))] 274;rw[show((w2.alloc (.map #[] 0)).alloc (.map #[] 0)).heap.size=w2.heap.size+1+1 from by simp]at this;exact this) (by omega) (by omega) (by omega) (by omega) (fun Z hz _=>⟨fun h=>by have:=hz _ h;omega,fun h=>by have:=hz _ h;omega,fun h=>by have:=hz _ h;omega⟩) (by omega) (by omega);exact⟨_,X,by simp,hR,hm,(by repeat' (first|assumption|exact Ch.refl _ _|refine Ch.trans ?_ (Ch.alloc [] _ _)|refine Ch.trans ?_ (Ch.drew [] _)|refine Ch.trans ?_ k2)),hX⟩)
  |(obtain⟨X,hR,hm,hX⟩:=Vf (w:=w) (w5:=(w2.alloc (.map #[] 0)).alloc (.cells #[pv,ev,.map (some (w.heap.size+1)),.map (some (w2.heap.size))] 274)) (B1:=w.heap.size+1) (B2:=w2.heap.size) (r:=w2.heap.size+1) (by omega) HCL.o (by repeat' (first|assumption|exact Ch.refl _ _|refine Ch.trans ?_ (Ch.alloc [] _ _)|refine Ch.trans ?_ (Ch.drew [] _)|refine Ch.trans ?_ k2)) (La _) (Lc _) (by repeat' (first|assumption|exact Ch.refl _ _|refine Ch.trans ?_ (Ch.alloc [] _ _)|refine Ch.trans ?_ (Ch.drew [] _)|refine Ch.trans ?_ k2)) (by repeat' (first|assumption|exact Ch.refl _ _|refine Ch.trans ?_ (Ch.alloc [] _ _)|refine Ch.trans ?_ (Ch.drew [] _)|refine Ch.trans ?_ k2)) (by have:=zE.new (w2.alloc (.map #[] 0)) #[pv,ev,.map (some (w.heap.size+1)),.map (some (w2.heap.size))] 274;rw[show(w2.alloc (.map #[] 0)).heap.size=w2.heap.size+1 from by simp]at this;exact this) (by omega) (by omega) (by omega) (by omega) (fun Z hz _=>⟨fun h=>by have:=hz _ h;omega,fun h=>by have:=hz _ h;omega,fun h=>by have:=hz _ h;omega⟩) (by omega) (by omega);exact⟨_,X,by simp,hR,hm,(by repeat' (first|assumption|exact Ch.refl _ _|refine Ch.trans ?_ (Ch.alloc [] _ _)|refine Ch.trans ?_ (Ch.drew [] _)|refine Ch.trans ?_ k2)),hX⟩)
  |(obtain⟨X,hR,hm,hX⟩:=Vf (w:=w) (w5:=(w2.alloc (.map #[] 0)).alloc (.cells #[pv,ev,.map (some (w2.heap.size)),.map (some (w.heap.size+1))] 274)) (B1:=w2.heap.size) (B2:=w.heap.size+1) (r:=w2.heap.size+1) (by omega) HCL.o (by repeat' (first|assumption|exact Ch.refl _ _|refine Ch.trans ?_ (Ch.alloc [] _ _)|refine Ch.trans ?_ (Ch.drew [] _)|refine Ch.trans ?_ k2)) (Lc _) (La _) (by repeat' (first|assumption|exact Ch.refl _ _|refine Ch.trans ?_ (Ch.alloc [] _ _)|refine Ch.trans ?_ (Ch.drew [] _)|refine Ch.trans ?_ k2)) (by repeat' (first|assumption|exact Ch.refl _ _|refine Ch.trans ?_ (Ch.alloc [] _ _)|refine Ch.trans ?_ (Ch.drew [] _)|refine Ch.trans ?_ k2)) (by have:=zE.new (w2.alloc (.map #[] 0)) #[pv,ev,.map (some (w2.heap.size)),.map (some (w.heap.size+1))] 274;rw[show(w2.alloc (.map #[] 0)).heap.size=w2.heap.size+1 from by simp]at this;exact this) (by omega) (by omega) (by omega) (by omega) (fun Z hz _=>⟨fun h=>by have:=hz _ h;omega,fun h=>by have:=hz _ h;omega,fun h=>by have:=hz _ h;omega⟩) (by omega) (by omega);exact⟨_,X,by simp,hR,hm,(by repeat' (first|assumption|exact Ch.refl _ _|refine Ch.trans ?_ (Ch.alloc [] _ _)|refine Ch.trans ?_ (Ch.drew [] _)|refine Ch.trans ?_ k2)),hX⟩)
  |(obtain⟨X,hR,hm,hX⟩:=Vf (w:=w) (w5:=w2.alloc (.cells #[pv,ev,.map (some (w.heap.size+1)),.map (some (w.heap.size+1+1))] 274)) (B1:=w.heap.size+1) (B2:=w.heap.size+1+1) (r:=w2.heap.size) (by omega) HCL.o (by repeat' (first|assumption|exact Ch.refl _ _|refine Ch.trans ?_ (Ch.alloc [] _ _)|refine Ch.trans ?_ (Ch.drew [] _)|refine Ch.trans ?_ k2)) (La _) (Lb _) (by repeat' (first|assumption|exact Ch.refl _ _|refine Ch.trans ?_ (Ch.alloc [] _ _)|refine Ch.trans ?_ (Ch.drew [] _)|refine Ch.trans ?_ k2)) (by repeat' (first|assumption|exact Ch.refl _ _|refine Ch.trans ?_ (Ch.alloc [] _ _)|refine Ch.trans ?_ (Ch.drew [] _)|refine Ch.trans ?_ k2)) (by have:=zE.new w2 #[pv,ev,.map (some (w.heap.size+1)),.map (some (w.heap.size+1+1))] 274;exact this) (by omega) (by omega) (by omega) (by omega) (fun Z hz _=>⟨fun h=>by have:=hz _ h;omega,fun h=>by have:=hz _ h;omega,fun h=>by have:=hz _ h;omega⟩) (by omega) (by omega);exact⟨_,X,by simp,hR,hm,(by repeat' (first|assumption|exact Ch.refl _ _|refine Ch.trans ?_ (Ch.alloc [] _ _)|refine Ch.trans ?_ (Ch.drew [] _)|refine Ch.trans ?_ k2)),hX⟩)
  |(obtain⟨X,hR,hm,hX⟩:=Vf (w:=w) (w5:=w2.alloc (.cells #[pv,ev,.map (some (w.heap.size+1+1)),.map (some (w.heap.size+1))] 274)) (B1:=w.heap.size+1+1) (B2:=w.heap.size+1) (r:=w2.heap.size) (by omega) HCL.o (by repeat' (first|assumption|exact Ch.refl _ _|refine Ch.trans ?_ (Ch.alloc [] _ _)|refine Ch.trans ?_ (Ch.drew [] _)|refine Ch.trans ?_ k2)) (Lb _) (La _) (by repeat' (first|assumption|exact Ch.refl _ _|refine Ch.trans ?_ (Ch.alloc [] _ _)|refine Ch.trans ?_ (Ch.drew [] _)|refine Ch.trans ?_ k2)) (by repeat' (first|assumption|exact Ch.refl _ _|refine Ch.trans ?_ (Ch.alloc [] _ _)|refine Ch.trans ?_ (Ch.drew [] _)|refine Ch.trans ?_ k2)) (by have:=zE.new w2 #[pv,ev,.map (some (w.heap.size+1+1)),.map (some (w.heap.size+1))] 274;exact this) (by omega) (by omega) (by omega) (by omega) (fun Z hz _=>⟨fun h=>by have:=hz _ h;omega,fun h=>by have:=hz _ h;omega,fun h=>by have:=hz _ h;omega⟩) (by omega) (by omega);exact⟨_,X,by simp,hR,hm,(by repeat' (first|assumption|exact Ch.refl _ _|refine Ch.trans ?_ (Ch.alloc [] _ _)|refine Ch.trans ?_ (Ch.drew [] _)|refine Ch.trans ?_ k2)),hX⟩)
theorem DK{K:Type}{S:yp K}{ls:List UInt8}{good:K->Prop}(ok:ZK S ls good)(num:K->Nat)(N:Nat)(hnum:∀k,good k->num k<N)(hinj:∀k k',good k->good k'->num k=num k'->k=k'){W:List UInt8}(h:Zb (fun t=>S.want (S.at t)=true) W):W.length<N:=by
 have hl:((List.range (W.length+1)).map fun i=>S.at (W.take i)).Nodup:=by
  rw[List.nodup_iff_pairwise_ne,List.pairwise_iff_getElem];intro i j hi hj hij e;simp only[List.length_map,List.length_range]at hi hj;simp only[List.getElem_map,List.getElem_range]at e
  have e2:S.at (W.take i++W.drop j)=S.at W:=by
   have e3:S.at W=S.at (W.take j++W.drop j):=by rw[List.take_append_drop]
   rw[e3];unfold yp.at at e ⊢;rw[List.foldl_append,List.foldl_append,e]
  have hw:S.want (S.at (W.take i++W.drop j))=true:=by rw[e2];exact h.1
  exact h.short (by rw[List.length_append,List.length_take,List.length_drop];omega) hw
 have:=Wv hl num N (fun x hx=>by
  obtain⟨i,_,rfl⟩:=List.mem_map.1 hx
  exact hnum _ (ok.good_at _)) (fun x y hx hy e=>by
  obtain⟨i,_,rfl⟩:=List.mem_map.1 hx;obtain⟨j,_,rfl⟩:=List.mem_map.1 hy
  exact hinj _ _ (ok.good_at _) (ok.good_at _) e)
 simp only[List.length_map,List.length_range]at this;omega
theorem runN{Ds:List zH}(hF:yo Ds){m:Nat}{nx hv:Nat->Nat->Bool}{l:Nat->Bool}(pf:Zs m nx hv)(rb wb lo:Nat)(hlo:lo<=rb):Ve (Js Ds m nx hv l) (Qr Ds m) lo leN VI (Jc Ds m nx hv l rb wb) 125 129 #[.pointer (some ⟨rb,0,none⟩),.pointer (some ⟨wb,0,none⟩)] #[.pointer (some ⟨wb,0,none⟩),.pointer (some ⟨rb,0,none⟩)] where
 lt:=fun w X γ h=>by
  refine⟨?_,h.lt⟩;obtain⟨r,W,Xr,Xw,rfl,a1,_⟩:=h;have:=a1.lt;omega
 kp:=fun w w' X Y γ h c hX=>h.kp c (fun k hk hy=>(hX k hy).2 hk)
 refl:=fun γ=>⟨List.prefix_refl _,id⟩
 trans:=fun a b c h g=>⟨h.1.trans g.1,fun q=>g.2 (h.2 q)⟩
 mono:=fun γ γ' v k h hk=>by
  obtain⟨hn,h0,h1,h2,s,q1,q2,q3,q4,q5,q6,q7⟩:=hk;exact⟨h.2 hn,h0,h1,h2,s,q1,q2,q3,q4,q5,q6,NM h.1 q7⟩
 shape:=fun γ v k h=>RT h
 inj:=fun γ v k v' k' h h'=>T5 h h'
 enN:=fun _ _=>by kernel_rfl
 enW:=fun _ _=>by kernel_rfl
 next:=fun w X γ v k b hI hk hg=>(Cu hF pf hI hk hg b).mono (fun _ _ h=>h)
 want:=fun w X γ v k hI hk hg=>Rv hF pf hI hk hg
def YF(bad:List UInt8->Prop)(w:World)(e:Ending)(w':World):Prop:=
 ∃W found,e= .returned (.tuple #[.string (zG W),.bool found])/\((found=true/\Zb bad W)\/(found=false/\W=[]/\∀t,¬bad t))/\W.length<=600000/\Ch [] w w'
def Xk(Ds:List zH)(w w1:World)(s8:Value)(W:World):Prop:=
 ∃rb r Xr,s8= .pointer (some ⟨rb,0,none⟩)/\zE W rb #[.pointer (some ⟨r,0,none⟩)] 221/\jP Ds W Xr r/\rb∉Xr/\w.heap.size<=rb/\(∀q,q∈Xr->w.heap.size<=q)/\Ch [] w1 W
theorem ag{w:World}{lo b:Nat}{F:Nat->Prop}{v0 v1 v2:Value}{sv:List (zH×Value)}{cv:List (zZ×Value)}{av:List (ze×Value×Value)}(hp:yZ w lo b F v0 v1 v2 sv cv av){i:Nat}{ch:zZ}{vs:Value}(hi:cv[i]? =some (ch,vs))(hok:∀p,p∈sv->yR p.1)(hL:jM sv.length ch.scrubs)
 {vc ve:Value} {h N:Nat} {L:zF} (hvc:j9 w F vc [(i:Int)]) (hve:JI ve) (hX:yC w F h ve L N) (hN:N<=12) {lv:Value} {ls:List UInt8} (hl:w.ownsRow 0 5 1 lv ls.length (jJ ls)) (hS:WF (zt (sv.map fun p=>p.1) ch.scrubs) L ls):
 Calls Tryz.prog 88 #[.agg #[v0,v1,v2],.agg #[.int .i64 0,vc,ve],lv] w (YF (fun t=>L (yH (zt (sv.map fun p=>p.1) ch.scrubs) t)) w):=by
 have hFine:yo (zt (sv.map fun p=>p.1) ch.scrubs):=⟨Va (fun D hD=>by obtain⟨p,hp,rfl⟩:=List.mem_map.1 hD;exact hok p hp) (by simpa using hL),by rw[YS];exact hL.1⟩;generalize hDs:zt (sv.map fun p=>p.1) ch.scrubs=Ds at *;obtain⟨a0,c0,rfl⟩:=zQ hp.rs;obtain⟨a1,c1,rfl⟩:=zQ hp.rc;obtain⟨a2,c2,rfl⟩:=zQ hp.ra;obtain⟨la,lc,rfl⟩:=zQ hl;obtain⟨ea,en,ec,rfl⟩:=hve
 obtain⟨gv,cc,rfl⟩:∃g cap,vc= .slice (some ⟨g,0,none⟩) 1 cap:=by
  rcases hvc.2.2 with⟨_,h0⟩|⟨g,cap,cur,h,_⟩
  ·simp at h0
  ·exact⟨g,cap,h⟩
 have g0:=Ch.alloc [] w (.cells #[.slice a0 sv.length c0,.slice a1 cv.length c1,.slice a2 av.length c2] 65);have P0:=zE.new w #[.slice a0 sv.length c0,.slice a1 cv.length c1,.slice a2 av.length c2] 65
 have z0:(w.alloc (.cells #[.slice a0 sv.length c0,.slice a1 cv.length c1,.slice a2 av.length c2] 65)).heap.size=w.heap.size+1:=by simp
 generalize hw0:w.alloc (.cells #[.slice a0 sv.length c0,.slice a1 cv.length c1,.slice a2 av.length c2] 65)=w0 at *;have g1:=Ch.alloc [] w0 (.cells #[.int .i64 0,.slice (some ⟨gv,0,none⟩) 1 cc,.slice ea en ec] 87);have C1:=zE.new w0 #[.int .i64 0,.slice (some ⟨gv,0,none⟩) 1 cc,.slice ea en ec] 87
 have z1:(w0.alloc (.cells #[.int .i64 0,.slice (some ⟨gv,0,none⟩) 1 cc,.slice ea en ec] 87)).heap.size=w0.heap.size+1:=by simp
 have P1:=P0.kp g1 (by simp);rw[z0]at C1;generalize hw1:w0.alloc (.cells #[.int .i64 0,.slice (some ⟨gv,0,none⟩) 1 cc,.slice ea en ec] 87)=w1 at *;have G1:=g0.trans g1
 have KEEP:Hd (∀W,Ch [] w1 W->(W.cell? ⟨w.heap.size,0,none⟩=some (.slice a0 sv.length c0)/\W.cell? ⟨w.heap.size,1,none⟩=some (.slice a1 cv.length c1)/\W.cell? ⟨w.heap.size,2,none⟩=some (.slice a2 av.length c2)/\W.cell? ⟨w.heap.size+1,1,none⟩=some (.slice (some ⟨gv,0,none⟩) 1 cc)/\W.cell? ⟨w.heap.size+1,2,none⟩=some (.slice ea en ec)/\W.cell? ⟨gv,0,none⟩=some (.int .i64 i)/\Ch [] w1 W)):=by
  intro W c;have B:=P1.kp c (by simp);have D:=C1.kp c (by simp);have R:=zJ hvc.2 (G1.trans c) (by simp);exact⟨B.cl 0 _ rfl,B.cl 1 _ rfl,B.cl 2 _ rfl,D.cl 1 _ rfl,D.cl 2 _ rfl,by rw[R.cellAt 0 (by simp)];rfl,c⟩
 have NR:Hd (∀W,Ch [] w W->Calls Tryz.prog 123 #[.agg #[.slice a0 sv.length c0,.slice a1 cv.length c1,.slice a2 av.length c2],.int .i64 i] W fun e w'=>∃r X,e= .returned (.pointer (some ⟨r,0,none⟩))/\jP Ds w' X r/\r∈X/\Ch [] W w'/\∀q,q∈X->W.heap.size<=q):=by
  intro W c;have:=KU (hp.kp c (by simp)) hi hok hL;rw[hDs]at this;exact this
 have HP:=zC hp;have HEX:=zC hX;have HL:=zC hl;have HS:=zC hS;have HF:=zC hFine;have HG1:=zC G1;obtain⟨p0,p1,p2,p3,p4,p5,_⟩:=KEEP.o w1 (Ch.refl _ _);clear hp hX hl hS hFine P0 P1 C1 G1 g0 g1 hvc hi hok hL
 have BT:Hd (zE (w1.alloc (.cells #[.pointer none] 221)).drew (w.heap.size+1+1) #[.pointer none] 221):=by
  have:=zE.new w1 #[.pointer none] 221;rw[z1,z0]at this;exact this
 go_enter Tryz.func88,Tryz.ntmps88;go_wp2_with fail
 go_cut [8] (fun s8 wx=>Xk Ds w w1 s8 wx)
 case first=>
  go_region_held3 (fun w'=>w'.cell? ⟨w.heap.size,0,none⟩=some (.slice a0 sv.length c0)/\w'.cell? ⟨w.heap.size,1,none⟩=some (.slice a1 cv.length c1)/\w'.cell? ⟨w.heap.size,2,none⟩=some (.slice a2 av.length c2)/\w'.cell? ⟨w.heap.size+1,1,none⟩=some (.slice (some ⟨gv,0,none⟩) 1 cc)/\w'.cell? ⟨w.heap.size+1,2,none⟩=some (.slice ea en ec)/\w'.cell? ⟨gv,0,none⟩=some (.int .i64 i)/\Ch [] w1 w') (first|(exact E2)|(exact KEEP.o _ (Ch.setCell_new K2 (Or.inr (by show w1.heap.size<=w.heap.size+1+1;omega)) _))|(exact KEEP.o _ (by repeat' (first|assumption|exact Ch.refl _ _|refine Ch.trans ?_ (Ch.alloc [] _ _)|refine Ch.trans ?_ (Ch.drew [] _))))|go_keep) (first|(go_at_call 123;refine(NR.o _ (HG1.o.trans (by repeat' (first|assumption|exact Ch.refl _ _|refine Ch.trans ?_ (Ch.alloc [] _ _)|refine Ch.trans ?_ (Ch.drew [] _))))).mono ?_;rintro e w2 ⟨r,Xr,rfl,RA,hrX,k2,hXr⟩;have K2:Ch [] w1 w2:=Ch.trans (by repeat' (first|assumption|exact Ch.refl _ _|refine Ch.trans ?_ (Ch.alloc [] _ _)|refine Ch.trans ?_ (Ch.drew [] _))) k2;have E2:=KEEP.o w2 K2;first|(have T2:=(BT.o).kp k2 (by simp);have t20:=T2.cl 0 (.pointer none) rfl;have t2f:=T2.fz)|skip))
  all_goals
   have zk2:=k2.size;have lX:=RA.lt
   first
   |(have REL:Hd (Xk Ds w w1 (.pointer (some ⟨w2.heap.size,0,none⟩)) (w2.alloc (.cells #[.pointer (some ⟨r,0,none⟩)] 221))):=⟨w2.heap.size,r,Xr,rfl,zE.new w2 _ _,RA.kp (Ch.alloc [] w2 _) (by simp),fun hx=>by have:=lX _ hx;omega,by have:=K2.size;omega,fun q hq=>by have:=hXr q hq;have e:w1.drew.heap.size=w1.heap.size:=rfl;omega,K2.trans (Ch.alloc [] _ _)⟩
     clear RA hrX E2 hXr p0 p1 p2 p3 p4 p5;go_wp2_with fail;go_meet
     exact REL.o)
   |(have hXr':∀q,q∈Xr->w.heap.size+1+1+1<=q:=fun q hq=>by
      have:=hXr q hq
      have e:(w1.alloc (.cells #[.pointer none] 221)).drew.heap.size=w1.heap.size+1:=by show(w1.heap.push _).size=_;simp
      omega
     have REL:Hd (Xk Ds w w1 (.pointer (some ⟨w.heap.size+1+1,0,none⟩)) (w2.setCell ⟨w.heap.size+1+1,0,none⟩ (.pointer (some ⟨r,0,none⟩)))):=⟨w.heap.size+1+1,r,Xr,rfl,T2.set 0 _,RA.kp (Ch.setCell (X:=[w.heap.size+1+1]) w2 (by simp) _) (fun q hq hx=>by have:=hXr' q hq;simp at hx;omega),fun hx=>by have:=hXr' _ hx;omega,by omega,fun q hq=>by have:=hXr' q hq;omega,Ch.setCell_new K2 (Or.inr (by show w1.heap.size<=w.heap.size+1+1;omega)) _⟩;clear RA hrX E2 hXr hXr' p0 p1 p2 p3 p4 p5 T2 t20 t2f;go_wp2_with fail;go_meet
     exact REL.o)
 case rest=>
 obtain⟨rb,r,Xr,rfl,B3,R3,nrb,lrb,lXr,K3⟩:=hcut;obtain⟨_,_,_,_,q4,_,_⟩:=KEEP.o wc K3;have G3:=HG1.o.trans K3;have EX:=yC.frame (w':=wc) (G:=F) (fun k hk=>G3.block k (HP.o.f k hk).2.1 (by simp)) (fun _ h=>h) _ _ _ _ HEX.o;have NEW:=zC (Lq EX ⟨_,_,_,rfl⟩ (fun k hk=>by have:=(HP.o.f k hk).2.1;have:=G3.size;omega) hN);have HB3:=zC B3;have HR3:=zC R3;have HG3:=zC G3;clear B3 R3 K3 EX G3 p0 p1 p2 p3 p4 p5 NR BT;go_wp2_with fail;refine NEW.o.mono ?_;rintro e w4 ⟨P,rfl,hP,hPL,c4⟩;obtain⟨g,m,nx,hv,l,hT,pf,hglo,hLA⟩:=hPL.tables;have HPF:=zC pf;have HLA:=zC hLA;have HT:=zC hT;have HB4:=zC (HB3.o.kp c4 (by simp));have HR4:=zC (HR3.o.kp c4 (by simp));have HG4:=zC (HG3.o.trans c4);have z4:=c4.size;have zG3:=HG3.o.size;have lrl:=HB3.o.lt;have lXl:=zC HR3.o.lt;have NW:=zC (Ra pf hT);clear hPL hT pf hLA c4 q4;go_wp2_with fail;refine NW.o.mono ?_;rintro e w5 ⟨W,Xw,rfl,WA,c5,hWX,hXw⟩;have z5:=c5.size;have HB5:=zC (HB4.o.kp c5 (by simp;omega));have HR5:=zC (HR4.o.kp c5 (fun k hk hx=>by have:=lXl.o k hk;simp at hx;omega));have G5:Ch [] w w5:=HG4.o.trans' c5 (fun k hk=>Or.inr (by simp at hk;omega));have g6:=Ch.alloc [] w5 (.cells #[.pointer (some ⟨W,0,none⟩)] 223);have B6:=zE.new w5 #[.pointer (some ⟨W,0,none⟩)] 223;have lXw:=WA.lt;have G6:=G5.trans g6;have zG6:=G6.size
 have INV:Jc Ds m nx hv l rb w5.heap.size (w5.alloc (.cells #[.pointer (some ⟨W,0,none⟩)] 223)) (rb:: w5.heap.size:: (Xr++Xw)) [Z3]:=by
  refine⟨r,W,Xr,Xw,rfl,HB5.o.kp g6 (by simp),B6,HR5.o.kp g6 (by simp),WA.kp g6 (by simp),fun k hk hx=> ?_,nrb,fun hx=> ?_,fun hx=> ?_,fun hx=> ?_,by omega⟩
  ·have:=lXl.o k hk;have:=hXw k hx;omega
  ·have:=hXw _ hx;omega
  ·have:=lXl.o _ hx;omega
  ·have:=lXw _ hx;omega
 have SH:=zC (IR (runN HF.o HPF.o rb w5.heap.size w.heap.size lrb) (BG HF.o HPF.o HLA.o HS.o) Qu 524288 (by omega) (fun k hk=>BQ k hk) (fun k k' hk hk' e=>Mq HPF.o.le k k' hk hk' e) INV (start:= .agg #[.int .u8 0,.int .u8 0,.int .u8 0,.int .i64 0]) ⟨by simp,0,0,0,0,rfl,by omega,by omega,by omega,by omega,rfl,rfl⟩ (zJ HL.o G6 (by simp)) (fun q hq hx=>by
  have:=(HL.o.lt q hq).2;simp only[List.mem_cons,List.mem_append]at hx
  rcases hx with h|h|h|h
  ·omega
  ·omega
  ·have:=lXr q h;omega
  ·have:=hXw q h;omega) HS.o.2.1)
 have HG6:=zC G6
 have hmf:∀(fn:Fn) (first cap:Array Value) (w:World),(Instr.makeFunc fn first cap).run Tryz.prog w= .ok (.func fn first cap) w:=fun _ _ _ _=>rfl
 have FIN:Hd (∀e w7,Mu (Js Ds m nx hv l) (rb:: w5.heap.size:: (Xr++Xw)) (w5.alloc (.cells #[.pointer (some ⟨W,0,none⟩)] 223)) e w7->YF (fun t=>L (yH Ds t)) w e w7):=by
  rintro e w7 ⟨Wt,found,rfl,hr,c7⟩
  have hm:m<=256:=by have:=HPF.o.le;omega
  have iff:∀t,(Js Ds m nx hv l).want ((Js Ds m nx hv l).at t)=true↔L (yH Ds t):=fun t=>(Ww HF.o HPF.o.pos hm HPF.o.closed t).trans (HLA.o _).symm
  refine⟨Wt,found,rfl,?_,?_,HG6.o.trans' c7 (fun q hx=>Or.inr ?_)⟩
  rotate_left
  ·rcases hr with⟨h1,h2⟩|⟨h1,h2,h3⟩
   ·have:=DK (BG HF.o HPF.o HLA.o HS.o) Qu 524288 (fun k hk=>BQ k hk) (fun k k' hk hk' e=>Mq HPF.o.le k k' hk hk' e) h2
    omega
   ·subst h2
    simp
  rotate_left
  ·rcases hr with⟨h1,h2,h3⟩|⟨h1,h2,h3⟩
   ·exact Or.inl ⟨h1,(iff _).1 h2,fun y hy=>h3 y ((iff y).2 hy)⟩
   ·exact Or.inr ⟨h1,h2,fun t ht=>by have:=h3 t;rw[(iff t).2 ht]at this;cases this⟩
  ·simp only[List.mem_cons,List.mem_append]at hx
   rcases hx with h|h|h|h
   ·omega
   ·omega
   ·exact lXr q h
   ·have:=hXw q h;omega
 clear WA c5 hWX hXw B6 INV G5 G6 g6 lXw;go_wp2_with fail;refine SH.o.mono ?_;intro e w7 hF7;have A7:=FIN.o e w7 hF7;obtain⟨Wt,found,rfl,hr,hwl,c7⟩:=A7;have HA:Hd (YF (fun t=>L (yH Ds t)) w (.returned (.tuple #[.string (zG Wt),.bool found])) w7):=⟨Wt,found,rfl,hr,hwl,c7⟩;clear hF7 hr c7 hwl;go_wp2_with fail;go_ret2;exact HA.o
end Go.Proofs.YteobgfbgglfkbaaGreat
