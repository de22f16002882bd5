import Derived.Test.YteobgfbgglfkbaaGreatVX1
import Derived.Test.YteobgfbgglfkbaaGreatVV2
set_option maxHeartbeats 6400000
set_option maxRecDepth 100000
namespace Go.Proofs.YteobgfbgglfkbaaGreat
open Go.RowKit
attribute [local go_sem ↓] Go.wp_at_zero Go.wp_at_succ
theorem Fz{w:World}{lo b:Nat}{F:Nat->Prop}{v0 v1 v2:Value}{sv:List (zH×Value)}{cv:List (zZ×Value)}{av:List (ze×Value×Value)}(hp:yZ w lo b F v0 v1 v2 sv cv av){i j:Nat}{ci cj:zZ}{vi vj:Value}(hi:cv[i]? =some (ci,vi))(hj:cv[j]? =some (cj,vj))(hok:∀p,p∈sv->yR p.1/\p.1.one.size<=4/\p.1.two.size<=4)(hch:∀p,p∈cv->jM sv.length p.1.scrubs)
 {vc:Value} (hvc:j9 w F vc [(i:Int),(j:Int)]) {Ds Es:List zH} (hDs:zt (sv.map fun p=>p.1) ci.scrubs=Ds) (hEs:zt (sv.map fun p=>p.1) cj.scrubs=Es):
 Calls Tryz.prog 91 #[.agg #[v0,v1,v2],.agg #[.int .i64 1,vc,.slice none 0 0]] w fun e w'=>∃lv,e= .returned lv/\w'.ownsRow 0 5 1 lv (yw (YY (Ds++Es)) 256).length (jJ (yw (YY (Ds++Es)) 256))/\Ch [] w w':=by
 have hLi:jM sv.length ci.scrubs:=hch (ci,vi) (List.mem_of_getElem? hi);have hLj:jM sv.length cj.scrubs:=hch (cj,vj) (List.mem_of_getElem? hj);have hil:i<cv.length:=(List.getElem?_eq_some_iff.1 hi).1;have hjl:j<cv.length:=(List.getElem?_eq_some_iff.1 hj).1
 have hpk:(jr sv cv [(i:Int),(j:Int)]).map (fun p=>p.1)=Ds++Es:=by
  have e1:Yx cv (i:Int)=ci.scrubs:=by simp[Yx,hi]
  have e2:Yx cv (j:Int)=cj.scrubs:=by simp[Yx,hj]
  simp only[jr,List.flatMap_cons,List.flatMap_nil,List.append_nil,e1,e2,List.map_append];rw[Kz,Kz,hDs,hEs]
 have hpl:(jr sv cv [(i:Int),(j:Int)]).length<=6:=XE (fun p hp=>(hch p hp).1) [(i:Int),(j:Int)]
 have hmem:∀D,D∈Ds++Es->yR D/\D.one.size<=4/\D.two.size<=4:=by
  intro D hD;rw[<- hDs,<- hEs]at hD
  rcases List.mem_append.1 hD with h|h
  ·obtain⟨p,hp,rfl⟩:=List.mem_map.1 (KQ (by simpa using hLi) D h)
   exact hok p hp
  ·obtain⟨p,hp,rfl⟩:=List.mem_map.1 (KQ (by simpa using hLj) D h)
   exact hok p hp
 have hlen:(Ds++Es).length<=6:=by rw[<- hpk,List.length_map];exact hpl
 generalize hDE:Ds++Es=DE at *;have hFew:Few DE:=⟨hlen,fun D hD=>⟨(hmem D hD).2.1,(hmem D hD).1.2.2⟩⟩;have hFew2:Kr DE:=⟨hlen,fun D hD=>⟨(hmem D hD).2.2,(hmem D hD).1.2.2,(hmem D hD).1.2.1⟩⟩
 have SOF:Hd (∀W,Ch [] w W->Calls Tryz.prog 133 #[.agg #[v0,v1,v2],vc] W fun e w'=>∃u,e= .returned u/\Jo w' F u (jr sv cv [(i:Int),(j:Int)])/\(∀q,u.ownBlock=some q->W.heap.size<=q)/\Ch [] W w'):=by
  intro W c;have G:=hp.kp c (by simp);refine BI G (L:=[(i:Int),(j:Int)]) ?_ (by simp) (by intro k hk;simp at hk;rcases hk with rfl|rfl <;>omega) hch;exact⟨hvc.1,zJ hvc.2 c (by simp)⟩
 generalize hpv:jr sv cv [(i:Int),(j:Int)]=pv at *;obtain⟨a0,c0,rfl⟩:=zQ hp.rs;obtain⟨a1,c1,rfl⟩:=zQ hp.rc;obtain⟨a2,c2,rfl⟩:=zQ hp.ra;obtain⟨va,cc,rfl⟩:=zQ hvc.2;have g0:=Ch.alloc [] w (.cells #[.slice a0 sv.length c0,.slice a1 cv.length c1,.slice a2 av.length c2] 65);have P0:=zE.new w #[.slice a0 sv.length c0,.slice a1 cv.length c1,.slice a2 av.length c2] 65
 have z0:(w.alloc (.cells #[.slice a0 sv.length c0,.slice a1 cv.length c1,.slice a2 av.length c2] 65)).heap.size=w.heap.size+1:=by simp
 generalize hw0:w.alloc (.cells #[.slice a0 sv.length c0,.slice a1 cv.length c1,.slice a2 av.length c2] 65)=w0 at *;have g1:=Ch.alloc [] w0 (.cells #[.int .i64 1,.slice va 2 cc,.slice none 0 0] 87);have C1:=zE.new w0 #[.int .i64 1,.slice va 2 cc,.slice none 0 0] 87;have P1:=P0.kp g1 (by simp);rw[z0]at C1;generalize hw1:w0.alloc (.cells #[.int .i64 1,.slice va 2 cc,.slice none 0 0] 87)=w1 at *;have G1:=g0.trans g1;have SO:=zC (SOF.o w1 G1)
 have lA:(yu DE).length<=60:=by
  have:=XK hFew DE.length (Nat.le_refl _);rw[List.take_length]at this;omega
 have lB:(Zg DE).length<=482:=by
  have:=Kw hFew2 DE.length (Nat.le_refl _);rw[List.take_length]at this;rw[AQ,List.length_append]
  split
  ·simp only[List.length_cons,List.length_nil];omega
  ·simp only[List.length_nil];omega
 have hok2:∀p,p∈pv->(∀r,r∈p.1.rules->jf r.o)/\p.1.rules.length<=6:=by
  intro p hp
  have:p.1∈DE:=by rw[<- hpk];exact List.mem_map.2 ⟨p,hp,rfl⟩
  exact(hmem _ this).1.2
 have p1:=P1.cl 0 _ rfl;have p3:=P1.cl 1 _ rfl;have p4:=P1.cl 2 _ rfl;have p5:=C1.cl 1 _ rfl;have HPK:=zC hpk;have HFew:=zC hFew;have HFew2:=zC hFew2;have HG1:=zC G1;clear hp P0 P1 C1 G1 g0 g1 hvc hi hj hok hLi hLj SOF hmem hFew hFew2 hpv hpk hch hil hjl hDs hEs hDE;simp only[List.length_cons,List.length_nil]at SO ⊢;go_enter Tryz.func91,Tryz.ntmps91;go_wp2_with fail;refine SO.o.mono ?_;rintro e w2 ⟨u,rfl,S2,n2,k2⟩;obtain⟨ua,uc,rfl⟩:=zQ S2.1;have SM:=zC (De S2 (by rw[HPK.o];exact HFew.o));have HS2:=zC S2;have HG2:=zC (HG1.o.trans k2);clear SO p1 p3 p4 p5 S2 n2 k2;go_wp2_with fail;refine SM.o.mono ?_;rintro e w3 ⟨u3,rfl,m3,_,k3⟩;rw[HPK.o]at m3;obtain⟨a3,c3,rfl⟩:=m3.slice;have TM:=zC (Ik (HS2.o.kp k3) (by rw[HPK.o];exact HFew2.o));have HM3:=zC m3;have HG3:=zC (HG2.o.trans k3);have HS3:=zC (HS2.o.kp k3);clear m3 k3 SM;go_wp2_with fail;refine TM.o.mono ?_;rintro e w4 ⟨u4,rfl,m4,_,k4⟩;rw[HPK.o]at m4;obtain⟨a4,c4,rfl⟩:=m4.slice;have g5:=Ch.alloc [] w4 (.cells #[.slice a3 (yu DE).length c3,.slice a4 (Zg DE).length c4] 238);have CC:=zC (LC (zE.new w4 #[.slice a3 (yu DE).length c3,.slice a4 (Zg DE).length c4] 238) (HM3.o.kp (k4.trans g5) (by simp)) (m4.kp g5 (by simp)) (by omega) (by omega));have HG5:=zC ((HG3.o.trans k4).trans g5);have HS5:=zC (HS3.o.kp (k4.trans g5))
 have hl5:(yu DE++Zg DE).length<=1000:=by rw[List.length_append];omega
 clear m4 k4 TM g5;generalize hla:(yu DE).length=la at *;generalize hlb:(Zg DE).length=lb at *;go_wp2_with fail;refine CC.o.mono ?_;rintro e w6 ⟨u6,rfl,m6,_,k6⟩;have IC:=zC (Am (HS5.o.kp k6) hok2 (by omega) m6 hl5);obtain⟨a6,c6,rfl⟩:=m6.slice;have HG6:=zC (HG5.o.trans k6);clear m6 k6 CC;generalize (yu DE++Zg DE).length=lab at *;go_wp2_with fail;refine IC.o.mono ?_;rintro e w7 ⟨u7,rfl,m7,l7,k7⟩;rw[HPK.o]at m7 l7;have e7:JB DE (yu DE++Zg DE)=YY DE:=rfl;rw[e7]at m7 l7;have LT:=zC (DJ m7 (by omega));obtain⟨a7,c7,rfl⟩:=m7.slice;have HG7:=zC (HG6.o.trans k7);clear m7 l7 k7 IC e7;generalize (YY DE).length=ls7 at *;go_wp2_with fail;refine LT.o.mono ?_;rintro e w8 ⟨lv,rfl,own8,_,k8⟩;have HO:=zC own8;have HG8:=zC (HG7.o.trans k8);clear own8 k8;go_wp2_with fail;go_ret;exact⟨_,rfl,HO.o,HG8.o⟩
def Vd(_:Unit)(v:Value)(k:List Nat×List Nat×Bool):Prop:=
 ∃h0 h1 h2 h3 h4 h5:Nat,k.1=[h0,h1,h2]/\k.2.1=[h3,h4,h5]/\(h0<256/\h1<256/\h2<256/\h3<256/\h4<256/\h5<256)/\v= .agg #[.int .u8 h0,.int .u8 h1,.int .u8 h2,.int .u8 h3,.int .u8 h4,.int .u8 h5,.bool k.2.2]
theorem Gj{v v':Value}{k k':List Nat×List Nat×Bool}(h:Vd () v k)(h':Vd () v' k'):v=v'↔k=k':=by
 obtain⟨h0,h1,h2,h3,h4,h5,e1,e2,_,rfl⟩:=h;obtain⟨g0,g1,g2,g3,g4,g5,f1,f2,_,rfl⟩:=h';obtain⟨k1,k2,k3⟩:=k;obtain⟨l1,l2,l3⟩:=k';simp only at e1 e2 f1 f2;subst e1 e2 f1 f2
 constructor
 ·intro e
  simp only[Value.agg.injEq]at e;have e:=congrArg Array.toList e;simp at e;obtain⟨a0,a1,a2,a3,a4,a5,a6⟩:=e
  have a0:h0=g0:=by omega
  have a1:h1=g1:=by omega
  have a2:h2=g2:=by omega
  have a3:h3=g3:=by omega
  have a4:h4=g4:=by omega
  have a5:h5=g5:=by omega
  subst a0 a1 a2 a3 a4 a5 a6;rfl
 ·intro e
  simp only[Prod.mk.injEq,List.cons.injEq,and_true]at e;obtain⟨⟨rfl,rfl,rfl⟩,⟨rfl,rfl,rfl⟩,rfl⟩:=e;rfl
def Vq(Ds Es:List zH)(k:List Nat×List Nat×Bool):Prop:=Ar Ds Es k/\Zt k.1/\Zt k.2.1
def Qt(k:List Nat×List Nat×Bool):Nat:=(ZZ k.1 * 64+ZZ k.2.1) * 2+(if k.2.2 then 1 else 0)
theorem Bn{Ds Es:List zH}(k:List Nat×List Nat×Bool)(h:Vq Ds Es k):Qt k<8192:=by
 have h1:=We h.1.1.2 h.2.1;have h2:=We h.1.2.2 h.2.2;unfold Qt
 split <;>omega
theorem EN{Ds Es:List zH}(k k':List Nat×List Nat×Bool)(h:Vq Ds Es k)(h':Vq Ds Es k')(e:Qt k=Qt k'):k=k':=by
 have a1:=We h.1.2.2 h.2.2;have a2:=We h'.1.2.2 h'.2.2;unfold Qt at e
 have e1:ZZ k.1=ZZ k'.1:=by split at e <;>split at e <;>omega
 have e2:ZZ k.2.1=ZZ k'.2.1:=by split at e <;>split at e <;>omega
 have e3:k.2.2=k'.2.2:=by
  cases h1:k.2.2 <;>cases h2:k'.2.2 <;>rw[h1,h2]at e <;>simp at e ⊢ <;>omega
 exact Prod.ext (Xx h.1.1.2 h'.1.1.2 h.2.1 h'.2.1 e1) (Prod.ext (Xx h.1.2.2 h'.1.2.2 h.2.2 h'.2.2 e2) e3)
theorem NP{Ds Es:List zH}(hF:yo Ds)(hE:yo Es):ZK (jY Ds Es) (yw (YY (Ds++Es)) 256) (Vq Ds Es):=by
 have h0:Zt [0,0,0]:=by intro h hh;simp at hh;omega
 refine((Oa hF hE).two).and (fun k=>Zt k.1/\Zt k.2.1) ⟨h0,h0⟩ (fun k b hk hl=>⟨VC Ds k.1 [b] hF.1 hk.1.1 hl.1,VC Es k.2.1 [b] hE.1 hk.2.1 hl.2⟩)
def Yd(Ds Es:List zH)(rb sb:Nat)(w:World)(X:List Nat)(_:Unit):Prop:=
 ∃r s Xr Xs,X=rb:: sb:: (Xr++Xs)/\zE w rb #[.pointer (some ⟨r,0,none⟩)] 221/\zE w sb #[.pointer (some ⟨s,0,none⟩)] 221/\jP Ds w Xr r/\jP Es w Xs s/\(∀k,k∈Xr->k∉Xs)/\rb∉Xr/\rb∉Xs/\sb∉Xr/\sb∉Xs/\rb≠sb
theorem Yd.lt{Ds Es:List zH}{rb sb:Nat}{w:World}{X:List Nat}{u:Unit}(h:Yd Ds Es rb sb w X u):∀k,k∈X->k<w.heap.size:=by
 obtain⟨r,s,Xr,Xs,rfl,a1,a2,a3,a4,_⟩:=h;intro k hk;simp only[List.mem_cons,List.mem_append]at hk
 rcases hk with rfl|rfl|hk|hk
 ·exact a1.lt
 ·exact a2.lt
 ·exact a3.lt k hk
 ·exact a4.lt k hk
theorem Yd.kp{Ds Es:List zH}{rb sb:Nat}{w w':World}{X Y:List Nat}{u:Unit}(h:Yd Ds Es rb sb w X u)(c:Ch Y w w')(hX:∀k,k∈X->k∉Y):Yd Ds Es rb sb w' X u:=by
 obtain⟨r,s,Xr,Xs,rfl,a1,a2,a3,a4,a5⟩:=h;exact⟨r,s,Xr,Xs,rfl,a1.kp c (hX rb (by simp)),a2.kp c (hX sb (by simp)),a3.kp c (fun k hk=>hX k (by simp[hk])),a4.kp c (fun k hk=>hX k (by simp[hk])),a5⟩
structure SI(Ds Es:List zH)(rb sb r s:Nat)(Xr Xs:List Nat)(w1:World)(pb:Nat)(pc:Array Value)(W:World):Prop where
 a1:zE W rb #[.pointer (some ⟨r,0,none⟩)] 221
 a2:zE W sb #[.pointer (some ⟨s,0,none⟩)] 221
 a3:jP Ds W Xr r
 a4:jP Es W Xs s
 a5:zE W pb pc 246
 a6:zE W (pb+1) #[.int .u8 0,.int .u8 0,.int .u8 0,.int .u8 0,.int .u8 0,.int .u8 0,.bool false] 246
 ch:Ch (Xr++Xs) w1 W
 d1:(∀k,k∈Xr->k∉Xs)/\rb∉Xr/\rb∉Xs/\sb∉Xr/\sb∉Xs/\rb≠sb
 d2:pb∉Xr/\pb∉Xs/\pb+1∉Xr/\pb+1∉Xs
 l:rb<w1.heap.size/\sb<w1.heap.size/\pb+1<w1.heap.size/\(∀k,k∈Xr->k<w1.heap.size)/\∀k,k∈Xs->k<w1.heap.size
section
variable {Ds Es:List zH} {rb sb r s:Nat} {Xr Xs:List Nat} {w1:World} {pb:Nat} {pc:Array Value} {W W':World}
theorem SI.quiet(h:SI Ds Es rb sb r s Xr Xs w1 pb pc W)(c:Ch [] W W'):SI Ds Es rb sb r s Xr Xs w1 pb pc W':=
 ⟨h.a1.kp c (by simp),h.a2.kp c (by simp),h.a3.kp c (by simp),h.a4.kp c (by simp),h.a5.kp c (by simp),h.a6.kp c (by simp),h.ch.trans (c.mono (by simp)),h.d1,h.d2,h.l⟩
theorem SI.set(h:SI Ds Es rb sb r s Xr Xs w1 pb pc W){b:Nat}(hb:w1.heap.size<=b)(i:Nat)(v:Value):SI Ds Es rb sb r s Xr Xs w1 pb pc (W.setCell ⟨b,i,none⟩ v):=by
 have c:Ch [b] W (W.setCell ⟨b,i,none⟩ v):=Ch.setCell _ (by simp) _;obtain⟨l1,l2,l3,l4,l5⟩:=h.l;exact⟨h.a1.kp c (by simp;omega),h.a2.kp c (by simp;omega),h.a3.kp c (fun k hk hx=>by have:=l4 k hk;simp at hx;omega),h.a4.kp c (fun k hk hx=>by have:=l5 k hk;simp at hx;omega),h.a5.kp c (by simp;omega),h.a6.kp c (by simp;omega),h.ch.trans' c (fun k hk=>Or.inr (by simp at hk;omega)),h.d1,h.d2,h.l⟩
theorem SI.run1(h:SI Ds Es rb sb r s Xr Xs w1 pb pc W)(hr:jP Ds W' Xr r)(c:Ch Xr W W'):SI Ds Es rb sb r s Xr Xs w1 pb pc W':=
 ⟨h.a1.kp c h.d1.2.1,h.a2.kp c h.d1.2.2.2.1,hr,h.a4.kp c (fun k hk hx=>h.d1.1 k hx hk),h.a5.kp c h.d2.1,h.a6.kp c h.d2.2.2.1,h.ch.trans (c.mono (fun k hk=>by simp[hk])),h.d1,h.d2,h.l⟩
theorem SI.run2(h:SI Ds Es rb sb r s Xr Xs w1 pb pc W)(hr:jP Es W' Xs s)(c:Ch Xs W W'):SI Ds Es rb sb r s Xr Xs w1 pb pc W':=
 ⟨h.a1.kp c h.d1.2.2.1,h.a2.kp c h.d1.2.2.2.2.1,h.a3.kp c (fun k hk hx=>h.d1.1 k hk hx),hr,h.a5.kp c h.d2.2.1,h.a6.kp c h.d2.2.2.2,h.ch.trans (c.mono (fun k hk=>by simp[hk])),h.d1,h.d2,h.l⟩
end
end Go.Proofs.YteobgfbgglfkbaaGreat
