import Derived.Test.YteobgfbgglfkbaaGreatRU3
import Derived.Test.YteobgfbgglfkbaaGreatRT5
set_option maxHeartbeats 12800000
set_option maxRecDepth 100000
namespace Go.Proofs.YteobgfbgglfkbaaGreat
open Go.RowKit
attribute [local go_sem ↓] Go.wp_at_zero Go.wp_at_succ
def QZ(L:zF)(w:World)(P:Nat):Prop:=∃g m nx hv l,Z0 w P g m nx hv l/\Zs m nx hv/\∀t,L t↔yP nx hv l 0 t
theorem QZ.kp{L:zF}{w w':World}{P:Nat}(h:QZ L w P)(c:Ch [] w w'):QZ L w' P:=by
 obtain⟨g,m,nx,hv,l,a,b,d⟩:=h;exact⟨g,m,nx,hv,l,a.kp c (by simp) (by simp),b,d⟩
def VJ(L:zF)(w:World)(v:Value):Prop:=∃m nx hv l,zm w v (J4 m hv)/\Zs m nx hv/\∀t,L t↔yP nx hv l 0 t
theorem VJ.kp{L:zF}{w w':World}{v:Value}(h:VJ L w v)(c:Ch [] w w'):VJ L w' v:=by
 obtain⟨m,nx,hv,l,a,b,d⟩:=h;exact⟨m,nx,hv,l,a.kp c (by simp),b,d⟩
def DG(A:List (Nat->Bool))(L:zF)(w1:World)(v:Value)(W:World):Prop:=∃m nx hv l,zm W v (A++J4 m hv)/\Zs m nx hv/\(∀t,L t↔yP nx hv l 0 t)/\Ch [] w1 W
theorem Jo.kp{w w':World}{F:Nat->Prop}{v:Value}{sv:List (zH×Value)}(h:Jo w F v sv)(c:Ch [] w w'):Jo w' F v sv:=⟨zJ h.1 c (by simp),fun p hp=>(h.2 p hp).kp c⟩
theorem Gy{L:zF}{w w':World}{P:Nat}(h:Hd (QZ L w P))(c:Ch [] w w'):Hd (QZ L w' P):=h.o.kp c
theorem PQ{L:zF}{w w':World}{v:Value}(h:Hd (VJ L w v))(c:Ch [] w w'):Hd (VJ L w' v):=h.o.kp c
theorem Bt{M:List (Nat->Bool)}{w w':World}{v:Value}(h:Hd (zm w v M))(c:Ch [] w w'):Hd (zm w' v M):=h.o.kp c (by simp)
theorem KQ{S:List zH}{L:List Int}(hL:jM S.length L):∀D,D∈zt S L->D∈S:=by
 intro D hD;simp only[zt,List.mem_map]at hD;obtain⟨i,hi,rfl⟩:=hD;have:=hL.2 i hi;rw[UY (D:=S[i.toNat]'(by omega)) (by simp)];exact List.getElem_mem _
theorem IB{w:World}{lo b:Nat}{F:Nat->Prop}{v0 v1 v2:Value}{sv:List (zH×Value)}{cv:List (zZ×Value)}{av:List (ze×Value×Value)}(hp:yZ w lo b F v0 v1 v2 sv cv av){i:Nat}{ch:zZ}{vs:Value}(hi:cv[i]? =some (ch,vs))(hok:∀p,p∈sv->yR p.1/\p.1.one.size<=4)(hch:∀p,p∈cv->jM sv.length p.1.scrubs)
 {vc ve:Value} {h N:Nat} {L:zF} (hvc:j9 w F vc [(i:Int)]) (hve:JI ve) (hX:yC w F h ve L N) (hN:N<=12):
 Calls Tryz.prog 89 #[.agg #[v0,v1,v2],.agg #[.int .i64 0,vc,ve]] w fun e w'=>∃lv ls,e= .returned lv/\w'.ownsRow 0 5 1 lv ls.length (jJ ls)/\WF (zt (sv.map fun p=>p.1) ch.scrubs) L ls/\Ch [] w w':=by
 have hL:jM sv.length ch.scrubs:=hch (ch,vs) (List.mem_of_getElem? hi);have hil:i<cv.length:=(List.getElem?_eq_some_iff.1 hi).1;have hFine:yo (zt (sv.map fun p=>p.1) ch.scrubs):=⟨Va (fun D hD=>by obtain⟨p,hp,rfl⟩:=List.mem_map.1 hD;exact(hok p hp).1) (by simpa using hL),by rw[YS];exact hL.1⟩
 have hone:∀D,D∈zt (sv.map fun p=>p.1) ch.scrubs->D.one.size<=4:=by
  intro D hD;obtain⟨p,hp,rfl⟩:=List.mem_map.1 (KQ (by simpa using hL) D hD);exact(hok p hp).2
 have hpk:(jr sv cv [(i:Int)]).map (fun p=>p.1)=zt (sv.map fun p=>p.1) ch.scrubs:=by
  have e:Yx cv (i:Int)=ch.scrubs:=by simp[Yx,hi]
  simp only[jr,List.flatMap_cons,List.flatMap_nil,List.append_nil,e];exact Kz sv _
 have hpl:(jr sv cv [(i:Int)]).length<=3:=XE (fun p hp=>(hch p hp).1) [(i:Int)];generalize hDs:zt (sv.map fun p=>p.1) ch.scrubs=Ds at *;have hFew:Few Ds:=⟨by have:=hFine.2;omega,fun D hD=>⟨hone D hD,(hFine.1 D hD).2.2⟩⟩
 have SOF:Hd (∀W,Ch [] w W->Calls Tryz.prog 133 #[.agg #[v0,v1,v2],vc] W fun e w'=>∃u,e= .returned u/\Jo w' F u (jr sv cv [(i:Int)])/\(∀q,u.ownBlock=some q->W.heap.size<=q)/\Ch [] W w'):=by
  intro W c;have G:=hp.kp c (by simp);refine BI G (L:=[(i:Int)]) ?_ (by simp) (by intro j hj;simp at hj;subst hj;omega) hch;exact⟨hvc.1,zJ hvc.2 c (by simp)⟩
 generalize hpv:jr sv cv [(i:Int)]=pv at *;obtain⟨a0,c0,rfl⟩:=zQ hp.rs;obtain⟨a1,c1,rfl⟩:=zQ hp.rc;obtain⟨a2,c2,rfl⟩:=zQ hp.ra;obtain⟨ea,en,ec,rfl⟩:=hve
 obtain⟨gv,cc,rfl⟩:∃g cap,vc= .slice (some ⟨g,0,none⟩) 1 cap:=by
  rcases hvc.2.2 with⟨_,h0⟩|⟨g,cap,cur,h,_⟩
  ·simp at h0
  ·exact⟨g,cap,h⟩
 have g0:=Ch.alloc [] w (.cells #[.slice a0 sv.length c0,.slice a1 cv.length c1,.slice a2 av.length c2] 65);have P0:=zE.new w #[.slice a0 sv.length c0,.slice a1 cv.length c1,.slice a2 av.length c2] 65
 have z0:(w.alloc (.cells #[.slice a0 sv.length c0,.slice a1 cv.length c1,.slice a2 av.length c2] 65)).heap.size=w.heap.size+1:=by simp
 generalize hw0:w.alloc (.cells #[.slice a0 sv.length c0,.slice a1 cv.length c1,.slice a2 av.length c2] 65)=w0 at *;have g1:=Ch.alloc [] w0 (.cells #[.int .i64 0,.slice (some ⟨gv,0,none⟩) 1 cc,.slice ea en ec] 87);have C1:=zE.new w0 #[.int .i64 0,.slice (some ⟨gv,0,none⟩) 1 cc,.slice ea en ec] 87;have P1:=P0.kp g1 (by simp);rw[z0]at C1;generalize hw1:w0.alloc (.cells #[.int .i64 0,.slice (some ⟨gv,0,none⟩) 1 cc,.slice ea en ec] 87)=w1 at *;have G1:=g0.trans g1
 have KEEP:Hd (∀W,Ch [] w1 W->(W.cell? ⟨w.heap.size+1,2,none⟩=some (.slice ea en ec)/\Ch [] w1 W)):=by
  intro W c;have D:=C1.kp c (by simp);exact⟨D.cl 2 _ rfl,c⟩
 have SO:=zC (SOF.o w1 G1)
 have NW:Hd (∀W,Ch [] w1 W->Calls Tryz.prog 37 #[.slice ea en ec] W fun e w'=>∃P,e= .returned (.pointer (some ⟨P,0,none⟩))/\Hd (QZ L w' P)/\Ch [] W w'):=by
  intro W c;have G3:=G1.trans c;have EX:=yC.frame (w':=W) (G:=F) (fun k hk=>G3.block k (hp.f k hk).2.1 (by simp)) (fun _ h=>h) _ _ _ _ hX;refine(Lq EX ⟨_,_,_,rfl⟩ (fun k hk=>by have:=(hp.f k hk).2.1;have:=G3.size;omega) hN).mono ?_;rintro e w4 ⟨P,rfl,hP,hPL,c4⟩;obtain⟨g,m,nx,hv,l,hT,pf,hglo,hLA⟩:=hPL.tables;exact⟨P,rfl,⟨g,m,nx,hv,l,hT,pf,hLA⟩,c4⟩
 have MK:Hd (∀W P,QZ L W P->Calls Tryz.prog 136 #[.pointer (some ⟨P,0,none⟩)] W fun e w'=>∃a n c,e= .returned (.slice a n c)/\Hd (VJ L w' (.slice a n c))/\Ch [] W w'):=by
  rintro W P ⟨g,m,nx,hv,l,hT,pf,hLA⟩;refine(Rb hT pf.le).mono ?_;rintro e w' ⟨v,rfl,hM,_,k⟩;obtain⟨a,c,rfl⟩:=hM.slice;exact⟨a,_,c,rfl,⟨m,nx,hv,l,hM,pf,hLA⟩,k⟩
 have lA:(yu Ds).length<=60:=by
  have:=XK hFew Ds.length (Nat.le_refl _);rw[List.take_length]at this;have:=hFew.1;omega
 have hok2:∀p,p∈pv->(∀r,r∈p.1.rules->jf r.o)/\p.1.rules.length<=6:=by
  intro p hp
  have:p.1∈Ds:=by rw[<- hpk];exact List.mem_map.2 ⟨p,hp,rfl⟩
  exact(hFine.1 _ this).2
 have p2:=(KEEP.o w1 (Ch.refl _ _)).1;have p1:=P1.cl 0 _ rfl;have p3:=P1.cl 1 _ rfl;have p4:=P1.cl 2 _ rfl;have p5:=C1.cl 1 _ rfl;have HPK:=zC hpk;have HF:=zC hFine;have HFew:=zC hFew;have HG1:=zC G1;clear hp hX hFine P0 P1 C1 G1 g0 g1 hvc hi hok hL SOF hone hFew hpv hpk hch hil;go_enter Tryz.func89,Tryz.ntmps89;go_wp2_with fail;refine SO.o.mono ?_;rintro e w2 ⟨u,rfl,S2,n2,k2⟩;obtain⟨ua,uc,rfl⟩:=zQ S2.1;have p2:=(KEEP.o w2 k2).1;have K2:Ch [] w1 w2:=k2;have HS2:=zC S2
 have SM:Hd (∀W,Ch [] w2 W->Calls Tryz.prog 135 #[.slice ua pv.length uc] W fun e w'=>∃a n c,e= .returned (.slice a n c)/\Hd (zm w' (.slice a n c) (yu Ds))/\Ch [] W w'):=by
  intro W c;have S3:Jo W F (.slice ua pv.length uc) pv:=HS2.o.kp c;refine(De S3 (by rw[HPK.o];exact HFew.o)).mono ?_;rintro e w' ⟨v,rfl,hM,_,k⟩;rw[HPK.o]at hM;obtain⟨a,c,rfl⟩:=hM.slice;exact⟨a,_,c,rfl,hM,k⟩
 have CC:Hd (∀W g va vb,zE W g #[va,vb] 238->zm W va (yu Ds)->VJ L W vb->Ch [] w2 W->Calls Tryz.prog 134 #[.slice (some ⟨g,0,none⟩) 2 2] W fun e w'=>∃a n c,e= .returned (.slice a n c)/\Hd (DG (yu Ds) L w2 (.slice a n c) w')/\Ch [] w2 w'):=by
  rintro W g va vb hb hA ⟨m,nx,hv,l,hM,pf,hLA⟩ c;refine(LC hb hA hM (by omega) (by have:=pf.le;simp[J4];omega)).mono ?_;rintro e w' ⟨v,rfl,hM,_,k⟩;obtain⟨a,cc,rfl⟩:=hM.slice;exact⟨a,_,cc,rfl,⟨m,nx,hv,l,hM,pf,hLA,c.trans k⟩,c.trans k⟩
 have KEEP2:Hd (∀W,Ch [] w2 W->(W.cell? ⟨w.heap.size+1,2,none⟩=some (.slice ea en ec)/\Ch [] w2 W)):=fun W c=>⟨(KEEP.o W (K2.trans c)).1,c⟩
 have NW2:Hd (∀W,Ch [] w2 W->Calls Tryz.prog 37 #[.slice ea en ec] W fun e w'=>∃P,e= .returned (.pointer (some ⟨P,0,none⟩))/\Hd (QZ L w' P)/\Ch [] W w'):=fun W c=>NW.o W (K2.trans c)
 have HG2:=zC (HG1.o.trans K2);clear SO p1 p3 p4 p5 S2 n2 k2 K2 KEEP NW;go_wp2_with fail
 go_cut [6] (fun s6 wx=>∃a n c,s6= .slice a n c/\Hd (DG (yu Ds) L w2 s6 wx))
 case first=>
  go_region_held3 (fun w'=>w'.cell? ⟨w.heap.size+1,2,none⟩=some (.slice ea en ec)/\Ch [] w2 w') (first|(exact E2)|(exact KEEP2.o _ (by repeat' (first|assumption|exact Ch.refl _ _|refine Ch.trans ?_ (Ch.alloc [] _ _)|refine Ch.trans ?_ (Ch.drew [] _))))|go_keep) (first|(go_at_call 135;refine(SM.o _ (by repeat' (first|assumption|exact Ch.refl _ _|refine Ch.trans ?_ (Ch.alloc [] _ _)|refine Ch.trans ?_ (Ch.drew [] _)))).mono ?_;rintro e wA ⟨a3,n3,c3,rfl,HA,kA⟩;have KA:Ch [] w2 wA:=Ch.trans (by repeat' (first|assumption|exact Ch.refl _ _|refine Ch.trans ?_ (Ch.alloc [] _ _)|refine Ch.trans ?_ (Ch.drew [] _))) kA;have E2:=KEEP2.o wA KA;(try have HPT:=Gy HPT (Ch.trans (by repeat' (first|assumption|exact Ch.refl _ _|refine Ch.trans ?_ (Ch.alloc [] _ _)|refine Ch.trans ?_ (Ch.drew [] _))) kA));(try have HMP:=PQ HMP (Ch.trans (by repeat' (first|assumption|exact Ch.refl _ _|refine Ch.trans ?_ (Ch.alloc [] _ _)|refine Ch.trans ?_ (Ch.drew [] _))) kA));clear kA)|(go_at_call 37;refine(NW2.o _ (by repeat' (first|assumption|exact Ch.refl _ _|refine Ch.trans ?_ (Ch.alloc [] _ _)|refine Ch.trans ?_ (Ch.drew [] _)))).mono ?_;rintro e wB ⟨P,rfl,HPT,kB⟩;have KB:Ch [] w2 wB:=Ch.trans (by repeat' (first|assumption|exact Ch.refl _ _|refine Ch.trans ?_ (Ch.alloc [] _ _)|refine Ch.trans ?_ (Ch.drew [] _))) kB;have E2:=KEEP2.o wB KB;(try have HA:=Bt HA (Ch.trans (by repeat' (first|assumption|exact Ch.refl _ _|refine Ch.trans ?_ (Ch.alloc [] _ _)|refine Ch.trans ?_ (Ch.drew [] _))) kB));clear kB)|(go_at_call 136;refine(MK.o _ _ (HPT.o.kp (by repeat' (first|assumption|exact Ch.refl _ _|refine Ch.trans ?_ (Ch.alloc [] _ _)|refine Ch.trans ?_ (Ch.drew [] _))))).mono ?_;rintro e wC ⟨a5,n5,c5,rfl,HMP,kC⟩;have KC:Ch [] w2 wC:=Ch.trans (by repeat' (first|assumption|exact Ch.refl _ _|refine Ch.trans ?_ (Ch.alloc [] _ _)|refine Ch.trans ?_ (Ch.drew [] _))) kC;have E2:=KEEP2.o wC KC;(try have HA:=Bt HA (Ch.trans (by repeat' (first|assumption|exact Ch.refl _ _|refine Ch.trans ?_ (Ch.alloc [] _ _)|refine Ch.trans ?_ (Ch.drew [] _))) kC));clear kC)|(go_at_call 134;refine(CC.o _ _ _ _ (by first|exact zE.new _ _ _|exact(zE.new _ _ _).kp (Ch.drew [] _) (by simp)) (HA.o.kp (by repeat' (first|assumption|exact Ch.refl _ _|refine Ch.trans ?_ (Ch.alloc [] _ _)|refine Ch.trans ?_ (Ch.drew [] _))) (by simp)) (HMP.o.kp (by repeat' (first|assumption|exact Ch.refl _ _|refine Ch.trans ?_ (Ch.alloc [] _ _)|refine Ch.trans ?_ (Ch.drew [] _)))) (by repeat' (first|assumption|exact Ch.refl _ _|refine Ch.trans ?_ (Ch.alloc [] _ _)|refine Ch.trans ?_ (Ch.drew [] _)))).mono ?_;rintro e wD ⟨a6,n6,c6,rfl,HR,KD⟩;have E2:=KEEP2.o wD KD))
  all_goals
   go_wp2_with fail;go_meet;exact⟨_,_,_,rfl,HR⟩
 case rest=>
 obtain⟨a6,n6,c6,rfl,HR⟩:=hcut;obtain⟨m,nx,hv,l,hM,pf,hLA,kc⟩:=HR.o;have IC:=zC (Am (HS2.o.kp kc) hok2 (by omega) hM (by have:=pf.le;simp[J4];omega));have HPF:=zC pf;have HLA:=zC hLA;have HG3:=zC (HG2.o.trans kc);clear HR hM pf hLA kc;go_wp2_with fail;refine IC.o.mono ?_;rintro e w7 ⟨u7,rfl,m7,l7,k7⟩;rw[HPK.o]at m7 l7;have LT:=zC (DJ m7 (by omega));obtain⟨a7,c7,rfl⟩:=m7.slice;have SV:=zC (SW HF.o HPF.o HLA.o);clear l7 m7;generalize JB Ds (yu Ds++J4 m hv)=MM at *;generalize MM.length=ml at *;go_wp2_with fail;refine LT.o.mono ?_;rintro e w8 ⟨lv,rfl,own8,_,k8⟩;have HO:=zC own8;have HG8:=zC ((HG3.o.trans k7).trans k8);clear own8 k7 k8;go_wp2_with fail;go_ret;exact⟨_,_,rfl,HO.o,SV.o,HG8.o⟩
def WM(Ds:List zH)(L:zF)(w:World)(v:Value):Prop:=∃ls,w.ownsRow 0 5 1 v ls.length (jJ ls)/\WF Ds L ls
theorem WM.kp{Ds:List zH}{L:zF}{w w':World}{v:Value}(h:WM Ds L w v)(c:Ch [] w w'):WM Ds L w' v:=by
 obtain⟨ls,a,b⟩:=h;exact⟨ls,zJ a c (by simp),b⟩
theorem Hw{w:World}{lo b:Nat}{F:Nat->Prop}{v0 v1 v2:Value}{sv:List (zH×Value)}{cv:List (zZ×Value)}{av:List (ze×Value×Value)}(hp:yZ w lo b F v0 v1 v2 sv cv av){i:Nat}{ch:zZ}{vs:Value}(hi:cv[i]? =some (ch,vs))(hok:∀p,p∈sv->yR p.1/\p.1.one.size<=4)(hch:∀p,p∈cv->jM sv.length p.1.scrubs)
 {vc ve:Value} {h N:Nat} {L:zF} (hvc:j9 w F vc [(i:Int)]) (hve:JI ve) (hX:yC w F h ve L N) (hN:N<=12):
 Calls Tryz.prog 48 #[.agg #[v0,v1,v2],.agg #[.int .i64 0,vc,ve]] w (YF (fun t=>L (yH (zt (sv.map fun p=>p.1) ch.scrubs) t)) w):=by
 have hL:jM sv.length ch.scrubs:=hch (ch,vs) (List.mem_of_getElem? hi)
 have NL:Hd (∀W,Ch [] w W->Calls Tryz.prog 89 #[.agg #[v0,v1,v2],.agg #[.int .i64 0,vc,ve]] W fun e w'=>∃a n c,e= .returned (.slice a n c)/\Hd (WM (zt (sv.map fun p=>p.1) ch.scrubs) L w' (.slice a n c))/\Ch [] W w'):=by
  intro W c;refine(IB (hp.kp c (by simp)) hi hok hch ⟨hvc.1,zJ hvc.2 c (by simp)⟩ hve (yC.frame (w':=W) (G:=F) (fun k hk=>c.block k (hp.f k hk).2.1 (by simp)) (fun _ h=>h) _ _ _ _ hX) hN).mono ?_;rintro e w' ⟨lv,ls,rfl,ho,hS,k⟩;obtain⟨a,cc,rfl⟩:=zQ ho;exact⟨a,_,cc,rfl,⟨ls,ho,hS⟩,k⟩
 have NC:Hd (∀W lv,Ch [] w W->WM (zt (sv.map fun p=>p.1) ch.scrubs) L W lv->Calls Tryz.prog 88 #[.agg #[v0,v1,v2],.agg #[.int .i64 0,vc,ve],lv] W (YF (fun t=>L (yH (zt (sv.map fun p=>p.1) ch.scrubs) t)) W)):=by
  rintro W lv c ⟨ls,ho,hS⟩;exact ag (hp.kp c (by simp)) hi (fun p hp=>(hok p hp).1) hL ⟨hvc.1,zJ hvc.2 c (by simp)⟩ hve (yC.frame (w':=W) (G:=F) (fun k hk=>c.block k (hp.f k hk).2.1 (by simp)) (fun _ h=>h) _ _ _ _ hX) hN ho hS
 generalize hDs:zt (sv.map fun p=>p.1) ch.scrubs=Ds at *;obtain⟨a0,c0,rfl⟩:=zQ hp.rs;obtain⟨a1,c1,rfl⟩:=zQ hp.rc;obtain⟨a2,c2,rfl⟩:=zQ hp.ra;obtain⟨ea,en,ec,rfl⟩:=hve
 obtain⟨va,vn,vcc,rfl⟩:JI vc:=by
  obtain⟨a,c,rfl⟩:=zQ hvc.2;exact⟨_,_,_,rfl⟩
 have g0:=Ch.alloc [] w (.cells #[.slice a0 sv.length c0,.slice a1 cv.length c1,.slice a2 av.length c2] 65);have P0:=zE.new w #[.slice a0 sv.length c0,.slice a1 cv.length c1,.slice a2 av.length c2] 65
 have z0:(w.alloc (.cells #[.slice a0 sv.length c0,.slice a1 cv.length c1,.slice a2 av.length c2] 65)).heap.size=w.heap.size+1:=by simp
 generalize hw0:w.alloc (.cells #[.slice a0 sv.length c0,.slice a1 cv.length c1,.slice a2 av.length c2] 65)=w0 at *;have g1:=Ch.alloc [] w0 (.cells #[.int .i64 0,.slice va vn vcc,.slice ea en ec] 87);have C1:=zE.new w0 #[.int .i64 0,.slice va vn vcc,.slice ea en ec] 87;have P1:=P0.kp g1 (by simp);rw[z0]at C1;generalize hw1:w0.alloc (.cells #[.int .i64 0,.slice va vn vcc,.slice ea en ec] 87)=w1 at *;have G1:=g0.trans g1
 have KEEP:Hd (∀W,Ch [] w1 W->(W.cell? ⟨w.heap.size,0,none⟩=some (.slice a0 sv.length c0)/\W.cell? ⟨w.heap.size,1,none⟩=some (.slice a1 cv.length c1)/\W.cell? ⟨w.heap.size,2,none⟩=some (.slice a2 av.length c2)/\W.cell? ⟨w.heap.size+1,0,none⟩=some (.int .i64 0)/\W.cell? ⟨w.heap.size+1,1,none⟩=some (.slice va vn vcc)/\W.cell? ⟨w.heap.size+1,2,none⟩=some (.slice ea en ec)/\Ch [] w1 W)):=by
  intro W c;have B:=P1.kp c (by simp);have D:=C1.kp c (by simp);exact⟨B.cl 0 _ rfl,B.cl 1 _ rfl,B.cl 2 _ rfl,D.cl 0 _ rfl,D.cl 1 _ rfl,D.cl 2 _ rfl,c⟩
 have HG1:=zC G1;obtain⟨p0,p1,p2,p3,p4,p5,_⟩:=KEEP.o w1 (Ch.refl _ _);clear hp hX P0 P1 C1 G1 g0 g1 hvc hi hok hL hch hDs;go_enter Tryz.func48,Tryz.ntmps48;go_wp2_with fail
 go_region_held3 (fun w'=>w'.cell? ⟨w.heap.size,0,none⟩=some (.slice a0 sv.length c0)/\w'.cell? ⟨w.heap.size,1,none⟩=some (.slice a1 cv.length c1)/\w'.cell? ⟨w.heap.size,2,none⟩=some (.slice a2 av.length c2)/\w'.cell? ⟨w.heap.size+1,0,none⟩=some (.int .i64 0)/\w'.cell? ⟨w.heap.size+1,1,none⟩=some (.slice va vn vcc)/\w'.cell? ⟨w.heap.size+1,2,none⟩=some (.slice ea en ec)/\Ch [] w1 w') (first|(exact E3)|(exact E2)|(exact KEEP.o _ (by repeat' (first|assumption|exact Ch.refl _ _|refine Ch.trans ?_ (Ch.alloc [] _ _)|refine Ch.trans ?_ (Ch.drew [] _))))|go_keep) (first|(go_at_call 89;refine(NL.o _ (HG1.o.trans (by repeat' (first|assumption|exact Ch.refl _ _|refine Ch.trans ?_ (Ch.alloc [] _ _)|refine Ch.trans ?_ (Ch.drew [] _))))).mono ?_;rintro e w2 ⟨a3,n3,c3,rfl,HL,k2⟩;have K2:Ch [] w1 w2:=Ch.trans (by repeat' (first|assumption|exact Ch.refl _ _|refine Ch.trans ?_ (Ch.alloc [] _ _)|refine Ch.trans ?_ (Ch.drew [] _))) k2;have E2:=KEEP.o w2 K2)|(go_at_call 88;refine(NC.o _ _ (HG1.o.trans (by repeat' (first|assumption|exact Ch.refl _ _|refine Ch.trans ?_ (Ch.alloc [] _ _)|refine Ch.trans ?_ (Ch.drew [] _)))) (HL.o.kp (by repeat' (first|assumption|exact Ch.refl _ _|refine Ch.trans ?_ (Ch.alloc [] _ _)|refine Ch.trans ?_ (Ch.drew [] _))))).mono ?_;rintro e w3 ⟨Wt,found,rfl,hr,hwl,k3⟩;have K3:Ch [] w1 w3:=Ch.trans (by repeat' (first|assumption|exact Ch.refl _ _|refine Ch.trans ?_ (Ch.alloc [] _ _)|refine Ch.trans ?_ (Ch.drew [] _))) k3;have E3:=KEEP.o w3 K3;have HR:=zC hr;clear hr))
 all_goals
  go_wp2_with fail;go_ret2;exact⟨Wt,found,rfl,HR.o,hwl,HG1.o.trans K3⟩
end Go.Proofs.YteobgfbgglfkbaaGreat
