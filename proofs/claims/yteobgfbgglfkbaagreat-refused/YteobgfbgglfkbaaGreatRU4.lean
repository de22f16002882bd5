import Derived.Test.YteobgfbgglfkbaaGreatRU3
import Derived.Test.YteobgfbgglfkbaaGreatRT5
namespace Go.Proofs.YteobgfbgglfkbaaGreat
open Go.RowKit
attribute [local go_sem ↓] Go.wp_at_zero Go.wp_at_succ
def PTx(L:Lang)(w:World)(P:Nat):Prop:=∃g m nx hv l,PatT w P g m nx hv l∧PatF m nx hv∧∀t,L t↔Acc nx hv l 0 t
theorem PTx.keep{L:Lang}{w w':World}{P:Nat}(h:PTx L w P)(c:Ch [] w w'):PTx L w' P:=by
 obtain ⟨g,m,nx,hv,l,a,b,d⟩:=h;exact ⟨g,m,nx,hv,l,a.keep c (by simp) (by simp),b,d⟩
def MPx(L:Lang)(w:World)(v:Value):Prop:=∃m nx hv l,zAl w v (patM m hv)∧PatF m nx hv∧∀t,L t↔Acc nx hv l 0 t
theorem MPx.keep{L:Lang}{w w':World}{v:Value}(h:MPx L w v)(c:Ch [] w w'):MPx L w' v:=by
 obtain ⟨m,nx,hv,l,a,b,d⟩:=h;exact ⟨m,nx,hv,l,a.keep c (by simp),b,d⟩
def zLJ(A:List (Nat→Bool))(L:Lang)(w1:World)(v:Value)(W:World):Prop:=∃m nx hv l,zAl W v (A++patM m hv)∧PatF m nx hv∧(∀t,L t↔Acc nx hv l 0 t)∧Ch [] w1 W
theorem zFH.keep{w w':World}{F:Nat→Prop}{v:Value}{sv:List (zAE×Value)}(h:zFH w F v sv)(c:Ch [] w w'):zFH w' F v sv:=⟨zAB h.1 c (by simp),fun p hp=>(h.2 p hp).keep c⟩
theorem hPT_keep{L:Lang}{w w':World}{P:Nat}(h:Hid (PTx L w P))(c:Ch [] w w'):Hid (PTx L w' P):=h.out.keep c
theorem hMP_keep{L:Lang}{w w':World}{v:Value}(h:Hid (MPx L w v))(c:Ch [] w w'):Hid (MPx L w' v):=h.out.keep c
theorem zLC{M:List (Nat→Bool)}{w w':World}{v:Value}(h:Hid (zAl w v M))(c:Ch [] w w'):Hid (zAl w' v M):=h.out.keep c (by simp)
theorem zJy{S:List zAE}{L:List Int}(hL:zBl S.length L):∀D,D∈zAR S L→D∈S:=by
 intro D hD;simp only [zAR,List.mem_map] at hD;obtain ⟨i,hi,rfl⟩:=hD;have:=hL.2 i hi;rw [zEL (D:=S[i.toNat]'(by omega)) (by simp)];exact List.getElem_mem _
set_option maxRecDepth 100000 in
set_option maxHeartbeats 12800000 in
theorem zFr{w:World}{lo b:Nat}{F:Nat→Prop}{v0 v1 v2:Value}{sv:List (zAE×Value)}{cv:List (zAS×Value)}{av:List (zAU×Value×Value)}(hp:zA3 w lo b F v0 v1 v2 sv cv av){i:Nat}{ch:zAS}{vs:Value}(hi:cv[i]? =some (ch,vs))(hok:∀p,p∈sv→zAi p.1∧p.1.one.size≤4)(hch:∀p,p∈cv→zBl sv.length p.1.scrubs)
  {vc ve:Value} {h N:Nat} {L:Lang} (hvc:zBD w F vc [(i:Int)]) (hve:isSl ve) (hX:zAO w F h ve L N) (hN:N≤12):
  Calls Tryz.prog 89 #[.agg #[v0,v1,v2],.agg #[.int .i64 0,vc,ve]] w fun e w'=>∃lv ls,e= .returned lv∧w'.ownsRow 0 5 1 lv ls.length (zB7 ls)∧zJU (zAR (sv.map fun p=>p.1) ch.scrubs) L ls∧Ch [] w w':=by
 have hL:zBl sv.length ch.scrubs:=hch (ch,vs) (List.mem_of_getElem? hi);have hil:i<cv.length:=(List.getElem?_eq_some_iff.1 hi).1;have hFine:Fine (zAR (sv.map fun p=>p.1) ch.scrubs):=⟨zHB (fun D hD=>by obtain ⟨p,hp,rfl⟩:=List.mem_map.1 hD;exact (hok p hp).1) (by simpa using hL),by rw [zDH];exact hL.1⟩
 have hone:∀D,D∈zAR (sv.map fun p=>p.1) ch.scrubs→D.one.size≤4:=by
  intro D hD;obtain ⟨p,hp,rfl⟩:=List.mem_map.1 (zJy (by simpa using hL) D hD);exact (hok p hp).2
 have hpk:(zDl sv cv [(i:Int)]).map (fun p=>p.1)=zAR (sv.map fun p=>p.1) ch.scrubs:=by
  have e:cvAt cv (i:Int)=ch.scrubs:=by simp [cvAt,hi]
  simp only [zDl,List.flatMap_cons,List.flatMap_nil,List.append_nil,e];exact svAt_fst sv _
 have hpl:(zDl sv cv [(i:Int)]).length≤3:=zGL (fun p hp=>(hch p hp).1) [(i:Int)];generalize hDs:zAR (sv.map fun p=>p.1) ch.scrubs=Ds at *;have hFew:Few Ds:=⟨by have:=hFine.2;omega,fun D hD=>⟨hone D hD,(hFine.1 D hD).2.2⟩⟩
 have SOF:Hid (∀W,Ch [] w W→Calls Tryz.prog 133 #[.agg #[v0,v1,v2],vc] W fun e w'=>∃u,e= .returned u∧zFH w' F u (zDl sv cv [(i:Int)])∧(∀q,u.ownBlock=some q→W.heap.size≤q)∧Ch [] W w'):=by
  intro W c;have G:=hp.keep c (by simp);refine zJs G (L:=[(i:Int)]) ?_ (by simp) (by intro j hj;simp at hj;subst hj;omega) hch;exact ⟨hvc.1,zAB hvc.2 c (by simp)⟩
 generalize hpv:zDl sv cv [(i:Int)]=pv at *;obtain ⟨a0,c0,rfl⟩:=zAD hp.rs;obtain ⟨a1,c1,rfl⟩:=zAD hp.rc;obtain ⟨a2,c2,rfl⟩:=zAD hp.ra;obtain ⟨ea,en,ec,rfl⟩:=hve
 obtain ⟨gv,cc,rfl⟩:∃g cap,vc= .slice (some ⟨g,0,none⟩) 1 cap:=by
  rcases hvc.2.2 with ⟨_,h0⟩ | ⟨g,cap,cur,h,_⟩
  ·simp at h0
  ·exact ⟨g,cap,h⟩
 have g0:=Ch.alloc [] w (.cells #[.slice a0 sv.length c0,.slice a1 cv.length c1,.slice a2 av.length c2] 65);have P0:=zAC.new w #[.slice a0 sv.length c0,.slice a1 cv.length c1,.slice a2 av.length c2] 65
 have z0:(w.alloc (.cells #[.slice a0 sv.length c0,.slice a1 cv.length c1,.slice a2 av.length c2] 65)).heap.size=w.heap.size+1:=by simp
 generalize hw0:w.alloc (.cells #[.slice a0 sv.length c0,.slice a1 cv.length c1,.slice a2 av.length c2] 65)=w0 at *;have g1:=Ch.alloc [] w0 (.cells #[.int .i64 0,.slice (some ⟨gv,0,none⟩) 1 cc,.slice ea en ec] 87);have C1:=zAC.new w0 #[.int .i64 0,.slice (some ⟨gv,0,none⟩) 1 cc,.slice ea en ec] 87;have P1:=P0.keep g1 (by simp);rw [z0] at C1;generalize hw1:w0.alloc (.cells #[.int .i64 0,.slice (some ⟨gv,0,none⟩) 1 cc,.slice ea en ec] 87)=w1 at *;have G1:=g0.trans g1
 have KEEP:Hid (∀W,Ch [] w1 W→(W.cell? ⟨w.heap.size+1,2,none⟩=some (.slice ea en ec)∧Ch [] w1 W)):=by
  intro W c;have D:=C1.keep c (by simp);exact ⟨D.cell 2 _ rfl,c⟩
 have SO:=hide (SOF.out w1 G1)
 have NW:Hid (∀W,Ch [] w1 W→Calls Tryz.prog 37 #[.slice ea en ec] W fun e w'=>∃P,e= .returned (.pointer (some ⟨P,0,none⟩))∧Hid (PTx L w' P)∧Ch [] W w'):=by
  intro W c;have G3:=G1.trans c;have EX:=zAO.frame (w':=W) (G:=F) (fun k hk=>G3.block k (hp.f k hk).2.1 (by simp)) (fun _ h=>h) _ _ _ _ hX;refine (zKs EX ⟨_,_,_,rfl⟩ (fun k hk=>by have:=(hp.f k hk).2.1;have:=G3.size;omega) hN).mono ?_;rintro e w4 ⟨P,rfl,hP,hPL,c4⟩;obtain ⟨g,m,nx,hv,l,hT,pf,hglo,hLA⟩:=hPL.tables;exact ⟨P,rfl,⟨g,m,nx,hv,l,hT,pf,hLA⟩,c4⟩
 have MK:Hid (∀W P,PTx L W P→Calls Tryz.prog 136 #[.pointer (some ⟨P,0,none⟩)] W fun e w'=>∃a n c,e= .returned (.slice a n c)∧Hid (MPx L w' (.slice a n c))∧Ch [] W w'):=by
  rintro W P ⟨g,m,nx,hv,l,hT,pf,hLA⟩;refine (zNa hT pf.le).mono ?_;rintro e w' ⟨v,rfl,hM,_,k⟩;obtain ⟨a,c,rfl⟩:=hM.slice;exact ⟨a,_,c,rfl,⟨m,nx,hv,l,hM,pf,hLA⟩,k⟩
 have lA:(zBq Ds).length≤60:=by
  have:=zHq hFew Ds.length (Nat.le_refl _);rw [List.take_length] at this;have:=hFew.1;omega
 have hok2:∀p,p∈pv→(∀r,r∈p.1.rules→zDb r.out)∧p.1.rules.length≤6:=by
  intro p hp
  have:p.1∈Ds:=by rw [← hpk];exact List.mem_map.2 ⟨p,hp,rfl⟩
  exact (hFine.1 _ this).2
 have p2:=(KEEP.out w1 (Ch.refl _ _)).1;have p1:=P1.cell 0 _ rfl;have p3:=P1.cell 1 _ rfl;have p4:=P1.cell 2 _ rfl;have p5:=C1.cell 1 _ rfl;have HPK:=hide hpk;have HF:=hide hFine;have HFew:=hide hFew;have HG1:=hide G1;clear hp hX hFine P0 P1 C1 G1 g0 g1 hvc hi hok hL SOF hone hFew hpv hpk hch hil;go_enter Tryz.func89,Tryz.ntmps89;go_wp2_with fail;refine SO.out.mono ?_;rintro e w2 ⟨u,rfl,S2,n2,k2⟩;obtain ⟨ua,uc,rfl⟩:=zAD S2.1;have p2:=(KEEP.out w2 k2).1;have K2:Ch [] w1 w2:=k2;have HS2:=hide S2
 have SM:Hid (∀W,Ch [] w2 W→Calls Tryz.prog 135 #[.slice ua pv.length uc] W fun e w'=>∃a n c,e= .returned (.slice a n c)∧Hid (zAl w' (.slice a n c) (zBq Ds))∧Ch [] W w'):=by
  intro W c;have S3:zFH W F (.slice ua pv.length uc) pv:=HS2.out.keep c;refine (zHU S3 (by rw [HPK.out];exact HFew.out)).mono ?_;rintro e w' ⟨v,rfl,hM,_,k⟩;rw [HPK.out] at hM;obtain ⟨a,c,rfl⟩:=hM.slice;exact ⟨a,_,c,rfl,hM,k⟩
 have CC:Hid (∀W g va vb,zAC W g #[va,vb] 238→zAl W va (zBq Ds)→MPx L W vb→Ch [] w2 W→Calls Tryz.prog 134 #[.slice (some ⟨g,0,none⟩) 2 2] W fun e w'=>∃a n c,e= .returned (.slice a n c)∧Hid (zLJ (zBq Ds) L w2 (.slice a n c) w')∧Ch [] w2 w'):=by
  rintro W g va vb hb hA ⟨m,nx,hv,l,hM,pf,hLA⟩ c;refine (zMt hb hA hM (by omega) (by have:=pf.le;simp [patM];omega)).mono ?_;rintro e w' ⟨v,rfl,hM,_,k⟩;obtain ⟨a,cc,rfl⟩:=hM.slice;exact ⟨a,_,cc,rfl,⟨m,nx,hv,l,hM,pf,hLA,c.trans k⟩,c.trans k⟩
 have KEEP2:Hid (∀W,Ch [] w2 W→(W.cell? ⟨w.heap.size+1,2,none⟩=some (.slice ea en ec)∧Ch [] w2 W)):=fun W c=>⟨(KEEP.out W (K2.trans c)).1,c⟩
 have NW2:Hid (∀W,Ch [] w2 W→Calls Tryz.prog 37 #[.slice ea en ec] W fun e w'=>∃P,e= .returned (.pointer (some ⟨P,0,none⟩))∧Hid (PTx L w' P)∧Ch [] W w'):=fun W c=>NW.out W (K2.trans c)
 have HG2:=hide (HG1.out.trans K2);clear SO p1 p3 p4 p5 S2 n2 k2 K2 KEEP NW;go_wp2_with fail
 go_cut [6] (fun s6 wx=>∃a n c,s6= .slice a n c∧Hid (zLJ (zBq Ds) L w2 s6 wx))
 case first=>
  go_region_held3 (fun w'=>w'.cell? ⟨w.heap.size+1,2,none⟩=some (.slice ea en ec)∧Ch [] w2 w') (first | (exact E2) | (exact KEEP2.out _ (by repeat' (first | assumption | exact Ch.refl _ _ | refine Ch.trans ?_ (Ch.alloc [] _ _) | refine Ch.trans ?_ (Ch.drew [] _)))) | go_keep) (first | (go_at_call 135;refine (SM.out _ (by repeat' (first | assumption | exact Ch.refl _ _ | refine Ch.trans ?_ (Ch.alloc [] _ _) | refine Ch.trans ?_ (Ch.drew [] _)))).mono ?_;rintro e wA ⟨a3,n3,c3,rfl,HA,kA⟩;have KA:Ch [] w2 wA:=Ch.trans (by repeat' (first | assumption | exact Ch.refl _ _ | refine Ch.trans ?_ (Ch.alloc [] _ _) | refine Ch.trans ?_ (Ch.drew [] _))) kA;have E2:=KEEP2.out wA KA;(try have HPT:=hPT_keep HPT (Ch.trans (by repeat' (first | assumption | exact Ch.refl _ _ | refine Ch.trans ?_ (Ch.alloc [] _ _) | refine Ch.trans ?_ (Ch.drew [] _))) kA));(try have HMP:=hMP_keep HMP (Ch.trans (by repeat' (first | assumption | exact Ch.refl _ _ | refine Ch.trans ?_ (Ch.alloc [] _ _) | refine Ch.trans ?_ (Ch.drew [] _))) kA));clear kA) | (go_at_call 37;refine (NW2.out _ (by repeat' (first | assumption | exact Ch.refl _ _ | refine Ch.trans ?_ (Ch.alloc [] _ _) | refine Ch.trans ?_ (Ch.drew [] _)))).mono ?_;rintro e wB ⟨P,rfl,HPT,kB⟩;have KB:Ch [] w2 wB:=Ch.trans (by repeat' (first | assumption | exact Ch.refl _ _ | refine Ch.trans ?_ (Ch.alloc [] _ _) | refine Ch.trans ?_ (Ch.drew [] _))) kB;have E2:=KEEP2.out wB KB;(try have HA:=zLC HA (Ch.trans (by repeat' (first | assumption | exact Ch.refl _ _ | refine Ch.trans ?_ (Ch.alloc [] _ _) | refine Ch.trans ?_ (Ch.drew [] _))) kB));clear kB) | (go_at_call 136;refine (MK.out _ _ (HPT.out.keep (by repeat' (first | assumption | exact Ch.refl _ _ | refine Ch.trans ?_ (Ch.alloc [] _ _) | refine Ch.trans ?_ (Ch.drew [] _))))).mono ?_;rintro e wC ⟨a5,n5,c5,rfl,HMP,kC⟩;have KC:Ch [] w2 wC:=Ch.trans (by repeat' (first | assumption | exact Ch.refl _ _ | refine Ch.trans ?_ (Ch.alloc [] _ _) | refine Ch.trans ?_ (Ch.drew [] _))) kC;have E2:=KEEP2.out wC KC;(try have HA:=zLC HA (Ch.trans (by repeat' (first | assumption | exact Ch.refl _ _ | refine Ch.trans ?_ (Ch.alloc [] _ _) | refine Ch.trans ?_ (Ch.drew [] _))) kC));clear kC) | (go_at_call 134;refine (CC.out _ _ _ _ (by first | exact zAC.new _ _ _ | exact (zAC.new _ _ _).keep (Ch.drew [] _) (by simp)) (HA.out.keep (by repeat' (first | assumption | exact Ch.refl _ _ | refine Ch.trans ?_ (Ch.alloc [] _ _) | refine Ch.trans ?_ (Ch.drew [] _))) (by simp)) (HMP.out.keep (by repeat' (first | assumption | exact Ch.refl _ _ | refine Ch.trans ?_ (Ch.alloc [] _ _) | refine Ch.trans ?_ (Ch.drew [] _)))) (by repeat' (first | assumption | exact Ch.refl _ _ | refine Ch.trans ?_ (Ch.alloc [] _ _) | refine Ch.trans ?_ (Ch.drew [] _)))).mono ?_;rintro e wD ⟨a6,n6,c6,rfl,HR,KD⟩;have E2:=KEEP2.out wD KD))
  all_goals
   go_wp2_with fail;go_meet;exact ⟨_,_,_,rfl,HR⟩
 case rest=>
 obtain ⟨a6,n6,c6,rfl,HR⟩:=hcut;obtain ⟨m,nx,hv,l,hM,pf,hLA,kc⟩:=HR.out;have IC:=hide (zKe (HS2.out.keep kc) hok2 (by omega) hM (by have:=pf.le;simp [patM];omega));have HPF:=hide pf;have HLA:=hide hLA;have HG3:=hide (HG2.out.trans kc);clear HR hM pf hLA kc;go_wp2_with fail;refine IC.out.mono ?_;rintro e w7 ⟨u7,rfl,m7,l7,k7⟩;rw [HPK.out] at m7 l7;have LT:=hide (zJN m7 (by omega));obtain ⟨a7,c7,rfl⟩:=m7.slice;have SV:=hide (zPm HF.out HPF.out HLA.out);clear l7 m7;generalize zC1 Ds (zBq Ds++patM m hv)=MM at *;generalize MM.length=ml at *;go_wp2_with fail;refine LT.out.mono ?_;rintro e w8 ⟨lv,rfl,own8,_,k8⟩;have HO:=hide own8;have HG8:=hide ((HG3.out.trans k7).trans k8);clear own8 k7 k8;go_wp2_with fail;go_ret;exact ⟨_,_,rfl,HO.out,SV.out,HG8.out⟩
end Go.Proofs.YteobgfbgglfkbaaGreat
namespace Go.Proofs.YteobgfbgglfkbaaGreat
open Go.RowKit
attribute [local go_sem ↓] Go.wp_at_zero Go.wp_at_succ
def LtAt(Ds:List zAE)(L:Lang)(w:World)(v:Value):Prop:=∃ls,w.ownsRow 0 5 1 v ls.length (zB7 ls)∧zJU Ds L ls
theorem LtAt.keep{Ds:List zAE}{L:Lang}{w w':World}{v:Value}(h:LtAt Ds L w v)(c:Ch [] w w'):LtAt Ds L w' v:=by
 obtain ⟨ls,a,b⟩:=h;exact ⟨ls,zAB a c (by simp),b⟩
set_option maxRecDepth 100000 in
set_option maxHeartbeats 12800000 in
theorem zNk{w:World}{lo b:Nat}{F:Nat→Prop}{v0 v1 v2:Value}{sv:List (zAE×Value)}{cv:List (zAS×Value)}{av:List (zAU×Value×Value)}(hp:zA3 w lo b F v0 v1 v2 sv cv av){i:Nat}{ch:zAS}{vs:Value}(hi:cv[i]? =some (ch,vs))(hok:∀p,p∈sv→zAi p.1∧p.1.one.size≤4)(hch:∀p,p∈cv→zBl sv.length p.1.scrubs)
  {vc ve:Value} {h N:Nat} {L:Lang} (hvc:zBD w F vc [(i:Int)]) (hve:isSl ve) (hX:zAO w F h ve L N) (hN:N≤12):
  Calls Tryz.prog 48 #[.agg #[v0,v1,v2],.agg #[.int .i64 0,vc,ve]] w (zFl (fun t=>L (zBg (zAR (sv.map fun p=>p.1) ch.scrubs) t)) w):=by
 have hL:zBl sv.length ch.scrubs:=hch (ch,vs) (List.mem_of_getElem? hi)
 have NL:Hid (∀W,Ch [] w W→Calls Tryz.prog 89 #[.agg #[v0,v1,v2],.agg #[.int .i64 0,vc,ve]] W fun e w'=>∃a n c,e= .returned (.slice a n c)∧Hid (LtAt (zAR (sv.map fun p=>p.1) ch.scrubs) L w' (.slice a n c))∧Ch [] W w'):=by
  intro W c;refine (zFr (hp.keep c (by simp)) hi hok hch ⟨hvc.1,zAB hvc.2 c (by simp)⟩ hve (zAO.frame (w':=W) (G:=F) (fun k hk=>c.block k (hp.f k hk).2.1 (by simp)) (fun _ h=>h) _ _ _ _ hX) hN).mono ?_;rintro e w' ⟨lv,ls,rfl,ho,hS,k⟩;obtain ⟨a,cc,rfl⟩:=zAD ho;exact ⟨a,_,cc,rfl,⟨ls,ho,hS⟩,k⟩
 have NC:Hid (∀W lv,Ch [] w W→LtAt (zAR (sv.map fun p=>p.1) ch.scrubs) L W lv→Calls Tryz.prog 88 #[.agg #[v0,v1,v2],.agg #[.int .i64 0,vc,ve],lv] W (zFl (fun t=>L (zBg (zAR (sv.map fun p=>p.1) ch.scrubs) t)) W)):=by
  rintro W lv c ⟨ls,ho,hS⟩;exact zMj (hp.keep c (by simp)) hi (fun p hp=>(hok p hp).1) hL ⟨hvc.1,zAB hvc.2 c (by simp)⟩ hve (zAO.frame (w':=W) (G:=F) (fun k hk=>c.block k (hp.f k hk).2.1 (by simp)) (fun _ h=>h) _ _ _ _ hX) hN ho hS
 generalize hDs:zAR (sv.map fun p=>p.1) ch.scrubs=Ds at *;obtain ⟨a0,c0,rfl⟩:=zAD hp.rs;obtain ⟨a1,c1,rfl⟩:=zAD hp.rc;obtain ⟨a2,c2,rfl⟩:=zAD hp.ra;obtain ⟨ea,en,ec,rfl⟩:=hve
 obtain ⟨va,vn,vcc,rfl⟩:isSl vc:=by
  obtain ⟨a,c,rfl⟩:=zAD hvc.2;exact ⟨_,_,_,rfl⟩
 have g0:=Ch.alloc [] w (.cells #[.slice a0 sv.length c0,.slice a1 cv.length c1,.slice a2 av.length c2] 65);have P0:=zAC.new w #[.slice a0 sv.length c0,.slice a1 cv.length c1,.slice a2 av.length c2] 65
 have z0:(w.alloc (.cells #[.slice a0 sv.length c0,.slice a1 cv.length c1,.slice a2 av.length c2] 65)).heap.size=w.heap.size+1:=by simp
 generalize hw0:w.alloc (.cells #[.slice a0 sv.length c0,.slice a1 cv.length c1,.slice a2 av.length c2] 65)=w0 at *;have g1:=Ch.alloc [] w0 (.cells #[.int .i64 0,.slice va vn vcc,.slice ea en ec] 87);have C1:=zAC.new w0 #[.int .i64 0,.slice va vn vcc,.slice ea en ec] 87;have P1:=P0.keep g1 (by simp);rw [z0] at C1;generalize hw1:w0.alloc (.cells #[.int .i64 0,.slice va vn vcc,.slice ea en ec] 87)=w1 at *;have G1:=g0.trans g1
 have KEEP:Hid (∀W,Ch [] w1 W→(W.cell? ⟨w.heap.size,0,none⟩=some (.slice a0 sv.length c0)∧W.cell? ⟨w.heap.size,1,none⟩=some (.slice a1 cv.length c1)∧W.cell? ⟨w.heap.size,2,none⟩=some (.slice a2 av.length c2)∧W.cell? ⟨w.heap.size+1,0,none⟩=some (.int .i64 0)∧W.cell? ⟨w.heap.size+1,1,none⟩=some (.slice va vn vcc)∧W.cell? ⟨w.heap.size+1,2,none⟩=some (.slice ea en ec)∧Ch [] w1 W)):=by
  intro W c;have B:=P1.keep c (by simp);have D:=C1.keep c (by simp);exact ⟨B.cell 0 _ rfl,B.cell 1 _ rfl,B.cell 2 _ rfl,D.cell 0 _ rfl,D.cell 1 _ rfl,D.cell 2 _ rfl,c⟩
 have HG1:=hide G1;obtain ⟨p0,p1,p2,p3,p4,p5,_⟩:=KEEP.out w1 (Ch.refl _ _);clear hp hX P0 P1 C1 G1 g0 g1 hvc hi hok hL hch hDs;go_enter Tryz.func48,Tryz.ntmps48;go_wp2_with fail
 go_region_held3 (fun w'=>w'.cell? ⟨w.heap.size,0,none⟩=some (.slice a0 sv.length c0)∧w'.cell? ⟨w.heap.size,1,none⟩=some (.slice a1 cv.length c1)∧w'.cell? ⟨w.heap.size,2,none⟩=some (.slice a2 av.length c2)∧w'.cell? ⟨w.heap.size+1,0,none⟩=some (.int .i64 0)∧w'.cell? ⟨w.heap.size+1,1,none⟩=some (.slice va vn vcc)∧w'.cell? ⟨w.heap.size+1,2,none⟩=some (.slice ea en ec)∧Ch [] w1 w') (first | (exact E3) | (exact E2) | (exact KEEP.out _ (by repeat' (first | assumption | exact Ch.refl _ _ | refine Ch.trans ?_ (Ch.alloc [] _ _) | refine Ch.trans ?_ (Ch.drew [] _)))) | go_keep) (first | (go_at_call 89;refine (NL.out _ (HG1.out.trans (by repeat' (first | assumption | exact Ch.refl _ _ | refine Ch.trans ?_ (Ch.alloc [] _ _) | refine Ch.trans ?_ (Ch.drew [] _))))).mono ?_;rintro e w2 ⟨a3,n3,c3,rfl,HL,k2⟩;have K2:Ch [] w1 w2:=Ch.trans (by repeat' (first | assumption | exact Ch.refl _ _ | refine Ch.trans ?_ (Ch.alloc [] _ _) | refine Ch.trans ?_ (Ch.drew [] _))) k2;have E2:=KEEP.out w2 K2) | (go_at_call 88;refine (NC.out _ _ (HG1.out.trans (by repeat' (first | assumption | exact Ch.refl _ _ | refine Ch.trans ?_ (Ch.alloc [] _ _) | refine Ch.trans ?_ (Ch.drew [] _)))) (HL.out.keep (by repeat' (first | assumption | exact Ch.refl _ _ | refine Ch.trans ?_ (Ch.alloc [] _ _) | refine Ch.trans ?_ (Ch.drew [] _))))).mono ?_;rintro e w3 ⟨Wt,found,rfl,hr,hwl,k3⟩;have K3:Ch [] w1 w3:=Ch.trans (by repeat' (first | assumption | exact Ch.refl _ _ | refine Ch.trans ?_ (Ch.alloc [] _ _) | refine Ch.trans ?_ (Ch.drew [] _))) k3;have E3:=KEEP.out w3 K3;have HR:=hide hr;clear hr))
 all_goals
  go_wp2_with fail;go_ret2;exact ⟨Wt,found,rfl,HR.out,hwl,HG1.out.trans K3⟩
end Go.Proofs.YteobgfbgglfkbaaGreat
