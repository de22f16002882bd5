import Derived.Test.YteobgfbgglfkbaaGreatAU6
import Derived.Test.YteobgfbgglfkbaaGreatAW1
set_option maxHeartbeats 6400000
set_option maxRecDepth 100000
namespace Go.Proofs.YteobgfbgglfkbaaGreat
open Go.RowKit
attribute [local go_sem ↓] Go.wp_at_zero Go.wp_at_succ
theorem Kx:∀(av:List (ze×Value)) (i:Nat) (p:ze×Value),av[i]? =some p->(ZC av)[i * 4]? =some (.bool p.1.never)/\(ZC av)[i * 4+1]? =some (.int .i64 p.1.of1)/\(ZC av)[i * 4+2]? =some (.int .i64 p.1.of2)/\(ZC av)[i * 4+3]? =some p.2
 |[],i,p,h=>by simp at h
 |q:: sv,0,p,h=>by simp at h;subst h;simp[ZC]
 |q:: sv,i+1,p,h=>by
  have ih:=Kx sv i p (by simpa using h)
  have e:∀t,(ZC (q:: sv))[(i+1) * 4+t]? =(ZC sv)[i * 4+t]? :=by
   intro t;rw[show(i+1) * 4+t=(i * 4+t)+4 from by omega];simp[ZC]
  exact⟨(e 0).trans ih.1,(e 1).trans ih.2.1,(e 2).trans ih.2.2.1,(e 3).trans ih.2.2.2⟩
theorem Pr{S:List zH}{L:List Int}(h:∀D,D∈S->yR D)(hL:jM S.length L){T:List UInt8}(hT:T.length<=1048576):(yH (zt S L) T).length<=8589934592:=by
 have h1:=Kv (zt S L) T 1048576 (Va h hL) hT;rw[YS]at h1;have h2:16 ^ L.length<=16 ^ 3:=Nat.pow_le_pow_right (by omega) hL.1;have h3:16 ^ L.length * (1048576+1)<=16 ^ 3 * (1048576+1):=Nat.mul_le_mul_right _ h2
 have h4:16 ^ 3 * (1048576+1)<=8589934592:=by decide
 omega
theorem Mj{w:World}{lo b d:Nat}{F:Nat->Prop}{vs vc va:Value}{sv:List (zH×Value)}{cv:List (zZ×Value)}{av:List (ze×Value)}(hp:jQ w lo b d F vs vc va sv cv av)(hok:∀D,D∈(sv.map fun p=>p.1)->yR D)(hch:∀p,p∈cv->jM sv.length p.1.scrubs){i:Nat}{q:ze}{v:Value}(hi:av[i]? =some (q,v))(ha:Yp cv.length q)(T:List UInt8)(hT:T.length<=1048576):
 Calls Tryz.prog 14 #[.pointer (some ⟨d,0,none⟩),.int .i64 i,.string (zG T)] w fun e w'=>∃r:Bool,e= .returned (.bool r)/\(r=true↔Je ⟨sv.map (fun p=>p.1),cv.map (fun p=>p.1),av.map (fun p=>p.1)⟩ q T)/\Ch [] w w':=by
 have hil:i<av.length:=(List.getElem?_eq_some_iff.1 hi).1
 have hiI:(i:Int)<av.length:=by omega
 have hi0:(0:Int)<=i:=by omega
 obtain⟨a2,c2,rfl⟩:=zQ hp.ra;obtain⟨g,rfl,hcells⟩:=jO hp.ra (by omega);obtain⟨x0,x1,x2,x3⟩:=Kx av i _ hi;have r0:=hcells _ _ x0;have r1:=hcells _ _ x1;have r2:=hcells _ _ x2;have r3:=hcells _ _ x3;have d2:=hp.blk.cl 2 _ rfl;have har:=hp.pa _ (List.mem_of_getElem? hi);obtain⟨nv,of1,of2,L,kk⟩:=q;simp only at r0 r1 r2 r3 har;obtain⟨h1,h2,h3⟩:=ha;simp only at h1 h2 h3;obtain⟨n1,rfl⟩:∃n:Nat,of1=n:=⟨of1.toNat,by omega⟩
 have hn1:n1<cv.length:=by omega
 have ok1:=hch cv[n1] (List.getElem_mem hn1)
 have PUT1:Hd (∀W,Ch [] w W->Calls Tryz.prog 27 #[.pointer (some ⟨d,0,none⟩),.int .i64 n1,.string (zG T)] W fun e w'=>e= .returned (.string (zG (yH (zt (sv.map fun p=>p.1) cv[n1].1.scrubs) T)))/\Ch [] W w'):=
  fun W c=>DI (hp.kp (c.mono (by simp))) hn1 ok1 hok T (by omega)
 have RM1:=Pr hok (by rw[List.length_map];exact ok1) hT
 have e1:Ye (cv.map fun p=>p.1) (n1:Int)=cv[n1].1.scrubs:=by simp[Ye,hn1]
 generalize hX1:yH (zt (sv.map fun p=>p.1) cv[n1].1.scrubs) T=X1 at *
 have HE1:Hd (yH (zt (sv.map fun p=>p.1) (Ye (cv.map fun p=>p.1) (n1:Int))) T=X1):=by show _=_;rw[e1,hX1]
 clear x0 x1 x2 x3 hcells e1 hX1 ok1
 cases nv with
 |true=>
  rcases har with⟨_,nb,hh,rfl,hN⟩|⟨h,_⟩
  ·have HAS:Hd (∀W,Ch [] w W->Calls Tryz.prog 34 #[.pointer (some ⟨nb,0,none⟩),.string (zG X1)] W fun e w'=>∃q:Bool,e= .returned (.bool q)/\(q=true↔L (zG X1).data.toList)/\Ch [] W w'):=by
    intro W c;have:=Ga (T:=zG X1) (by rw[yV];omega) (jk.frame (w':=W) (G:=F) (fun k hk=>c.block k (hp.f k hk).2.1 (by simp)) (fun _ h=>h) hN) (fun k hk=>by have:=(hp.f k hk).2.1;have:=c.size;omega);unfold ptr at this;exact this
   have g3:=Ch.alloc [] w (.cells #[.bool true,.int .i64 n1,.int .i64 of2,.pointer (some ⟨nb,0,none⟩)] 49);have B3:=zE.new w #[.bool true,.int .i64 n1,.int .i64 of2,.pointer (some ⟨nb,0,none⟩)] 49;have P3:=zC (PUT1.o _ g3);have y0:=B3.cl 0 _ rfl;have y1:=B3.cl 1 _ rfl;have y3:=B3.cl 3 _ rfl;have HB3:=zC B3;have HG3:=zC g3;clear hp hN B3 g3 hok hch hi h1 h2 h3;go_enter Tryz.func14,Tryz.ntmps14;go_wp2_with fail;generalize w.alloc (.cells #[.bool true,.int .i64 n1,.int .i64 of2,.pointer (some ⟨nb,0,none⟩)] 49)=w3 at *;refine P3.o.mono ?_;rintro e w4 ⟨rfl,k4⟩;have B4:=HB3.o.kp k4 (by simp);have z0:=B4.cl 0 _ rfl;have z3:=B4.cl 3 _ rfl;have HG4:=zC (HG3.o.trans k4);clear y0 y1 y3 B4 k4;go_wp2_with fail;refine(HAS.o _ HG4.o).mono ?_;rintro e w5 ⟨r,rfl,hr,k5⟩;have HR:=zC hr;have HG5:=zC (HG4.o.trans k5);clear hr k5;go_wp2_with fail;go_ret;refine⟨r,rfl,?_,HG5.o⟩;rw[HR.o];unfold Je;simp only[if_true];rw[HE1.o];simp[zG]
  ·cases h
 |false=>
  rcases har with⟨h,_⟩|⟨_,rfl⟩
  ·cases h
  have h3:=h3 rfl;obtain⟨n2,rfl⟩:∃n:Nat,of2=n:=⟨of2.toNat,by omega⟩
  have hn2:n2<cv.length:=by omega
  have ok2:=hch cv[n2] (List.getElem_mem hn2)
  have PUT2:Hd (∀W,Ch [] w W->Calls Tryz.prog 27 #[.pointer (some ⟨d,0,none⟩),.int .i64 n2,.string (zG T)] W fun e w'=>e= .returned (.string (zG (yH (zt (sv.map fun p=>p.1) cv[n2].1.scrubs) T)))/\Ch [] W w'):=
   fun W c=>DI (hp.kp (c.mono (by simp))) hn2 ok2 hok T (by omega)
  have e2:Ye (cv.map fun p=>p.1) (n2:Int)=cv[n2].1.scrubs:=by simp[Ye,hn2]
  generalize hX2:yH (zt (sv.map fun p=>p.1) cv[n2].1.scrubs) T=X2 at *
  have HE2:Hd (yH (zt (sv.map fun p=>p.1) (Ye (cv.map fun p=>p.1) (n2:Int))) T=X2):=by show _=_;rw[e2,hX2]
  have g3:=Ch.alloc [] w (.cells #[.bool false,.int .i64 n1,.int .i64 n2,.pointer none] 49);have B3:=zE.new w #[.bool false,.int .i64 n1,.int .i64 n2,.pointer none] 49;have P3:=zC (PUT1.o _ g3);have y0:=B3.cl 0 _ rfl;have y1:=B3.cl 1 _ rfl;have y2:=B3.cl 2 _ rfl;have HB3:=zC B3;have HG3:=zC g3;clear hp B3 g3 hok hch hi h1 h2 h3 e2 hX2 ok2;go_enter Tryz.func14,Tryz.ntmps14;go_wp2_with fail;generalize w.alloc (.cells #[.bool false,.int .i64 n1,.int .i64 n2,.pointer none] 49)=w3 at *;refine P3.o.mono ?_;rintro e w4 ⟨rfl,k4⟩;have B4:=HB3.o.kp k4 (by simp);have z0:=B4.cl 0 _ rfl;have z2:=B4.cl 2 _ rfl;have HG4:=zC (HG3.o.trans k4);have P4:=zC (PUT2.o _ HG4.o);clear y0 y1 y2 B4 k4;go_wp2_with fail;refine P4.o.mono ?_;rintro e w5 ⟨rfl,k5⟩;have HG5:=zC (HG4.o.trans k5)
  have HB:Hd (Je ⟨sv.map (fun p=>p.1),cv.map (fun p=>p.1),av.map (fun p=>p.1)⟩ ⟨false,n1,n2,L,kk⟩ T↔X1≠X2):=by
   show _↔_
   unfold Je;simp only[Bool.false_eq_true,if_false];rw[HE1.o,HE2.o]
  clear k5 HE1 HE2
  by_cases hq:X1=X2
  ·obtain⟨q1,q2⟩:=Y6 (congrArg zG hq)
   have HQ:=zC hq;clear hq;go_wp2_with fail;go_ret;exact⟨false,rfl,by rw[HB.o,HQ.o];simp,HG5.o⟩
  ·have hq':¬zG X1=zG X2:=fun e=>hq (by have:=congrArg (fun b:ByteArray=>b.data.toList) e;simpa[zG]using this)
   obtain⟨q1,q2⟩:=Zn hq';have HQ:=zC hq;clear hq hq';go_wp2_with fail;go_ret;exact⟨true,rfl,by rw[HB.o];simp[HQ.o],HG5.o⟩
theorem Oz{w:World}{lo b d:Nat}{F:Nat->Prop}{vs vc va:Value}{sv:List (zH×Value)}{cv:List (zZ×Value)}{av:List (ze×Value)}(hp:jQ w lo b d F vs vc va sv cv av)(hok:∀D,D∈(sv.map fun p=>p.1)->yR D)(hch:∀p,p∈cv->jM sv.length p.1.scrubs){i:Nat}{q:ze}{v:Value}(hi:av[i]? =some (q,v))(ha:Yp cv.length q){k:Int}{W:List UInt8}(hW:W.length<=600000)(hv:Qe q.never (Je ⟨sv.map (fun p=>p.1),cv.map (fun p=>p.1),av.map (fun p=>p.1)⟩ q) k W):
 Calls Tryz.prog 13 #[.pointer (some ⟨d,0,none⟩),.int .i64 i,.agg #[.int .i64 k,.string (zG W)]] w fun e w'=>e= .returned (.bool true)/\Ch [] w w':=by
 have hil:i<av.length:=(List.getElem?_eq_some_iff.1 hi).1
 have hiI:(i:Int)<av.length:=by omega
 have hi0:(0:Int)<=i:=by omega
 have g1:=Ch.alloc [] w (.cells #[.int .i64 k,.string (zG W)] 33);have B1:=zE.new w #[.int .i64 k,.string (zG W)] 33
 have BAD:Hd (∀X,Ch [] w X->Calls Tryz.prog 14 #[.pointer (some ⟨d,0,none⟩),.int .i64 i,.string (zG W)] X fun e w'=>∃r:Bool,e= .returned (.bool r)/\(r=true↔Je ⟨sv.map (fun p=>p.1),cv.map (fun p=>p.1),av.map (fun p=>p.1)⟩ q W)/\Ch [] X w'):=
  fun X c=>Mj (hp.kp (c.mono (by simp))) hok hch hi ha W (by omega)
 have hp1:=hp.kp (g1.mono (by simp));obtain⟨a2,c2,rfl⟩:=zQ hp1.ra;obtain⟨g,rfl,hcells⟩:=jO hp1.ra (by omega);obtain⟨x0,_,_,_⟩:=Kx av i _ hi;have r0:=hcells _ _ x0;have d2:=hp1.blk.cl 2 _ rfl;simp only at r0;have y0:=B1.cl 0 _ rfl;have y1:=B1.cl 1 _ rfl;have HB1:=zC B1;have HG1:=zC g1;clear hp hp1 hok hch hi ha hcells x0 B1 g1;generalize hw1:w.alloc (.cells #[.int .i64 k,.string (zG W)] 33)=w1 at *;generalize Je ⟨sv.map (fun p=>p.1),cv.map (fun p=>p.1),av.map (fun p=>p.1)⟩ q=bd at *;generalize q.never=nv at *
 rcases hv with⟨rfl,hL⟩|⟨rfl,rfl,_⟩
 ·have HL:=zC hL
  clear hL
  cases nv with
  |true=>
   simp only[if_true]at *;go_enter Tryz.func13,Tryz.ntmps13;go_wp2_with fail;refine(BAD.o _ HG1.o).mono ?_;rintro e w2 ⟨r,rfl,hr,k2⟩;have hr2:r=true:=hr.2 HL.o.1;subst hr2;have B2:=HB1.o.kp k2 (by simp);have z0:=B2.cl 0 _ rfl;have HG2:=zC (HG1.o.trans k2);clear B2 hr k2 y0 y1;go_wp2_with fail;go_ret;exact⟨rfl,HG2.o⟩
  |false=>
   simp only[Bool.false_eq_true,if_false]at *;go_enter Tryz.func13,Tryz.ntmps13;go_wp2_with fail;refine(BAD.o _ HG1.o).mono ?_;rintro e w2 ⟨r,rfl,hr,k2⟩;have hr2:r=true:=hr.2 HL.o.1;subst hr2;have B2:=HB1.o.kp k2 (by simp);have z0:=B2.cl 0 _ rfl;have HG2:=zC (HG1.o.trans k2);clear B2 hr k2 y0 y1;go_wp2_with fail;go_ret;exact⟨rfl,HG2.o⟩
 ·clear BAD
  have hs:zG []=⟨#[]⟩:=rfl;rw[hs]at y1 HB1 hw1 ⊢;clear hs
  cases nv with
  |true=>
   simp only[if_true]at *;go_enter Tryz.func13,Tryz.ntmps13;go_wp2_with fail;go_ret;exact⟨rfl,HG1.o⟩
  |false=>
   simp only[Bool.false_eq_true,if_false]at *;go_enter Tryz.func13,Tryz.ntmps13;go_wp2_with fail;go_ret;exact⟨rfl,HG1.o⟩
theorem Uu:∀(vs:List (Int×List UInt8)) (i:Nat) (p:Int×List UInt8),vs[i]? =some p->(JT vs)[i * 2]? =some (.int .i64 p.1)/\(JT vs)[i * 2+1]? =some (.string (zG p.2))
 |[],i,p,h=>by simp at h
 |q:: vs,0,p,h=>by simp at h;subst h;simp[JT]
 |q:: vs,i+1,p,h=>by
  have ih:=Uu vs i p (by simpa using h)
  have e:∀t,(JT (q:: vs))[(i+1) * 2+t]? =(JT vs)[i * 2+t]? :=by
   intro t;rw[show(i+1) * 2+t=(i * 2+t)+2 from by omega];simp[JT]
  exact⟨(e 0).trans ih.1,(e 1).trans ih.2⟩
theorem YI.one{D:yt}{aq:List ze}{vs vs':List (Int×List UInt8)}(h:YI D aq vs)(h':YI D aq vs'):vs=vs':=by
 refine List.ext_getElem (h.1.trans h'.1.symm) (fun i h1 h2=> ?_)
 have hq:i<aq.length:=by rw[<- h.1];exact h1
 have a:=(h.2 i aq[i] vs[i] (List.getElem?_eq_getElem hq) (List.getElem?_eq_getElem h1)).1;have b:=(h'.2 i aq[i] vs'[i] (List.getElem?_eq_getElem hq) (List.getElem?_eq_getElem h2)).1;obtain⟨e1,e2⟩:=a.one b;exact Prod.ext e1 e2
theorem Nz{w:World}{g n cap:Nat}{T:TypeId}{xs:List Value}(R:w.ownsRow 0 T 2 (.slice (some ⟨g,0,none⟩) n cap) n xs)(i:Nat)(u u':Value):∃ys,((w.setCell ⟨g,i * 2,none⟩ u).setCell ⟨g,i * 2+1,none⟩ u').ownsRow 0 T 2 (.slice (some ⟨g,0,none⟩) n cap) n ys/\(∀k,(i+1) * 2<=k->ys[k]? =xs[k]?)/\Ch [g] w ((w.setCell ⟨g,i * 2,none⟩ u).setCell ⟨g,i * 2+1,none⟩ u'):=by
 refine⟨_,((R.stored (i * 2) u).1.stored (i * 2+1) u').1,fun k hk=> ?_,(Ch.setCell _ (by simp) _).trans (Ch.setCell _ (by simp) _)⟩;rw[List.getElem?_set_ne (by omega),List.getElem?_set_ne (by omega)]
theorem Lk{w:World}{g n cap:Nat}{T:TypeId}{xs:List Value}(R:w.ownsRow 0 T 2 (.slice (some ⟨g,0,none⟩) n cap) n xs){i:Nat}(hi:i<n):∃u u',w.cell? ⟨g,i * 2,none⟩=some u/\w.cell? ⟨g,i * 2+1,none⟩=some u'/\xs[i * 2]? =some u/\xs[i * 2+1]? =some u':=by
 have hl:=R.1
 have h0:i * 2<xs.length:=by omega
 have h1:i * 2+1<xs.length:=by omega
 exact⟨xs[i * 2],xs[i * 2+1],by rw[R.cellAt _ (by omega)];exact List.getElem?_eq_getElem h0,by rw[R.cellAt _ (by omega)];exact List.getElem?_eq_getElem h1,List.getElem?_eq_getElem h0,List.getElem?_eq_getElem h1⟩
theorem vneq(w:World)(k:Int)(s:ByteArray):(binOp .neq 33 (.agg #[.int .i64 k,.string s]) (.agg #[.int .i64 k,.string s])).run Tryz.prog w= .ok (.bool false) w:=by
 have hu:Tryz.prog.underlying 33=some (.struct (Tryz.prog.fieldsOf 33)):=by kernel_rfl
 have hs:Tryz.prog.stoodInHeld 33=false:=by kernel_rfl
 have h1:=Tryz.underlying3;have h2:=Tryz.underlying9;have h3:=Tryz.underlying33;simp[go_sem,hs,h1,h2,h3]
theorem IK{w:World}(S:ByteArray)(hS:QK){D:yt}{s:St}(hc:yX S=(0,0))(hr:jA S= .ok (D,s)){v:Value}{vs:List (Int×List UInt8)}(ho:w.ownsRow 0 33 2 v vs.length (JT vs))(hv:YI D D.asked vs):
 Calls Tryz.prog 15 #[.string S,v] w fun e w'=>e= .returned (.bool true)/\Ch v.ownBlock.toList w w':=by
 have hn:vs.length<=6:=by rw[hv.1];exact(Mg hc hr).2.1
 obtain⟨a,c,rfl⟩:=zQ ho;have HO:=zC ho;have HLT:=zC ho.lt;have HV:=zC hv;have HC:=zC hc;have HR:=zC hr;have HSX:=zC hS;clear ho hv hc hr hS;go_enter Tryz.func15,Tryz.ntmps15;go_wp2_with fail
 go_loopw [5,6] (fun lv iv w5=>∃j:Nat,iv= .int .i64 j/\j<=vs.length/\Hd (w5.ownsRow 0 33 2 lv j (JT (vs.take j))/\(∀q,lv.ownBlock=some q->w.heap.size<=q)/\(∃xs,w5.ownsRow 0 33 2 (.slice a vs.length c) vs.length xs/\∀k,j * 2<=k->xs[k]? =(JT vs)[k]?)/\Ch (Value.slice a vs.length c).ownBlock.toList w w5)) (fun _ iv _=>vs.length - (intOf iv).toNat)
 case atStart=>exact⟨0,rfl,Nat.zero_le _,by show _/\_;exact⟨⟨rfl,Or.inl ⟨rfl,rfl⟩⟩,by intro q hq;simp[Value.ownBlock]at hq,⟨_,HO.o,fun _ _=>rfl⟩,Ch.refl _ _⟩⟩
 case round=>
  generalize wr=w5 at *;obtain⟨j,rfl,hj,H5⟩:=hrel;obtain⟨O5,N5,⟨xs,OL5,hxs⟩,G5⟩:=H5.o;obtain⟨la,lc,hlv⟩:=zQ O5;subst hlv
  have e1:IntKind.i64.wrap ((j:Int)+1)=((j+1:Nat):Int):=by rw[IntKind.wrap_i64];omega
  by_cases hlt:(j:Int)<vs.length
  ·have hj2:j<vs.length:=by omega
   have hj0:(0:Int)<=j:=by omega
   obtain⟨⟨kd,Wt⟩,hpj⟩:∃p,vs[j]? =some p:=⟨_,List.getElem?_eq_getElem hj2⟩;obtain⟨g,hg,hcells⟩:=jO OL5 (by omega);subst hg;obtain⟨x0,x1⟩:=Uu vs j _ hpj;have r0:=hcells _ _ ((hxs _ (Nat.le_refl _)).trans x0);have r1:=hcells _ _ ((hxs _ (Nat.le_succ _)).trans x1);simp only at r0 r1;have hgl:g<w.heap.size:=(HLT.o g rfl).2
   have HT:Hd (vs.take (j+1)=vs.take j++[(kd,Wt)]):=by
    obtain⟨h1,h2⟩:=List.getElem?_eq_some_iff.1 hpj
    show _=_
    rw[List.take_succ_eq_append_getElem h1,h2]
   have g8:=Ch.alloc [] w5 (.cells #[.int .i64 kd,.string (zG Wt)] 33);have O8:=zJ O5 g8 (by simp);have OL8:=zC (zJ OL5 g8 (by simp));have z5:=G5.size
   have z8:(w5.alloc (.cells #[.int .i64 kd,.string (zG Wt)] 33)).heap.size=w5.heap.size+1:=by simp
   have HG8:=zC (G5.trans (g8.mono (by simp)));have HN5:=zC N5;have HXS:=zC hxs;clear hcells x0 x1 g8 O5 N5 OL5 G5 H5 hxs hpj;go_wp2_with (at_builtin;refine YZ 29 33 2 24 (.agg #[.int .i64 0,.string ⟨#[]⟩]) Tryz.underlying29 Kc rfl (by omega) (by omega) (by rfl) _ _ (by rfl) (.slice la j lc) j _ (by rfl) O8 w5.heap.size [.int .i64 kd,.string (zG Wt)] (by rfl) (zr _ _) rfl (by intro u hu;simp at hu;rcases hu with rfl|rfl <;>rfl) (by omega) (w5.heap.size+1) (by simp) ?_;intro g9 cap9 w9 own9 gr9 hat9 hlt9;have OL9:=zJ OL8.o gr9 (fun q hq hx=>by have e:g=q:=(by simpa[Value.ownBlock]using hq);have:=HN5.o q (by simpa using hx);omega);obtain⟨u0,u1,y0,y1,_,_⟩:=Lk OL9 hj2;have yf:=OL9.frozenAt);obtain⟨ys,OY,hys,gY⟩:=Nz OL9 j (.int .i64 0) (.string ⟨#[]⟩)
   have FIN:Hd (((w9.setCell ⟨g,j * 2,none⟩ (.int .i64 0)).setCell ⟨g,j * 2+1,none⟩ (.string ⟨#[]⟩)).ownsRow 0 33 2 (.slice (some ⟨g9,0,none⟩) (j+1) cap9) (j+1) (JT (vs.take (j+1)))/\(∀q,(Value.slice (some ⟨g9,0,none⟩) (j+1) cap9).ownBlock=some q->w.heap.size<=q)/\(∃xs,((w9.setCell ⟨g,j * 2,none⟩ (.int .i64 0)).setCell ⟨g,j * 2+1,none⟩ (.string ⟨#[]⟩)).ownsRow 0 33 2 (.slice (some ⟨g,0,none⟩) vs.length c) vs.length xs/\∀k,(j+1) * 2<=k->xs[k]? =(JT vs)[k]?)/\Ch (Value.slice (some ⟨g,0,none⟩) vs.length c).ownBlock.toList w ((w9.setCell ⟨g,j * 2,none⟩ (.int .i64 0)).setCell ⟨g,j * 2+1,none⟩ (.string ⟨#[]⟩))):=by
    have hg9:w.heap.size<=g9:=by
     rcases hat9 with h|h
     ·exact HN5.o _ h
     ·omega
    refine⟨?_,fun q hq=> ?_,⟨ys,OY,fun k hk=>(hys k hk).trans (HXS.o k (by omega))⟩,?_⟩
    ·rw[HT.o,BW]
     exact zJ own9 gY (fun q hq hx=>by have e:g9=q:=(by simpa[Value.ownBlock]using hq);simp at hx;omega)
    ·have e:g9=q:=by simpa[Value.ownBlock]using hq
     omega
    ·exact(HG8.o.trans' gr9 (fun q hq=>Or.inr (HN5.o q (by simpa using hq)))).trans (gY.mono (by simp[Value.ownBlock]))
   clear OL9 own9 gr9 hat9 hys gY OY;go_wp2_with fail;exact⟨⟨j+1,by simp,by omega,FIN⟩,by simp[intOf];omega⟩
  ·have e:j=vs.length:=by omega
   subst e;rw[List.take_length]at O5;have HO5:=zC O5;have HG5:=zC G5;clear H5 O5 N5 OL5 G5 hxs
   have hne:((vs.length:Int) !=(vs.length:Int))=false:=by simp
   go_wp2_with fail;refine(BK S (Or.inl HSX.o)).mono ?_;rintro e w6 ⟨B6,⟨h,_⟩|⟨_,D',s',v',vs',hr',rfl,ho',hv',_⟩⟩
   ·exact absurd HC.o h
   ·have hD:D'=D:=by
     rw[HR.o]at hr'
     injection hr' with h
     injection h with h _
     exact h.symm
    subst hD;have hvs:=hv'.one HV.o;subst hvs;obtain⟨a6,c6,rfl⟩:=zQ ho';have HO6:=zC ho';have HW6:=zC (zJ HO5.o (VH B6) (by simp));have HG6:=zC (HG5.o.trans ((VH B6).mono (by simp)));clear hr' ho' hv' B6 HO5 HG5;go_wp2_with fail
    go_loopw [10] (fun iv w7=>∃j:Nat,iv= .int .i64 j/\j<=vs'.length/\Hd (Ch [] w6 w7)) (fun iv _=>vs'.length - (intOf iv).toNat)
    case atStart=>exact⟨0,rfl,Nat.zero_le _,Ch.refl _ _⟩
    case round=>
     generalize wr=w7 at *;obtain⟨j,rfl,hj,H7⟩:=hrel
     have e1:IntKind.i64.wrap ((j:Int)+1)=((j+1:Nat):Int):=by rw[IntKind.wrap_i64];omega
     by_cases hlt:(j:Int)<vs'.length
     ·have hj2:j<vs'.length:=by omega
      have hj0:(0:Int)<=j:=by omega
      obtain⟨⟨kd,Wt⟩,hpj⟩:∃p,vs'[j]? =some p:=⟨_,List.getElem?_eq_getElem hj2⟩;obtain⟨x0,x1⟩:=Uu vs' j _ hpj;obtain⟨ga,hga,hca⟩:=jO (zJ HO6.o H7.o (by simp)) (by omega);obtain⟨gb,hgb,hcb⟩:=jO (zJ HW6.o H7.o (by simp)) (by omega);subst hga hgb;have p0:=hca _ _ x0;have p1:=hca _ _ x1;have q0:=hcb _ _ x0;have q1:=hcb _ _ x1;simp only at p0 p1 q0 q1
      have hq:=fun W=>vneq W kd (zG Wt)
      have HG7:=zC H7.o;clear hca hcb x0 x1 hpj;go_wp2_with fail;go_quiet (fail);go_wp2_with fail;exact⟨⟨j+1,by simp,by omega,HG7.o.trans (Ch.drewN _ _ _)⟩,by simp[intOf];omega⟩
     ·have HG7:=zC (HG6.o.trans (H7.o.mono (by simp)))
      clear H7;go_wp2_with fail;go_ret;exact⟨rfl,HG7.o⟩
theorem Bp{w:World}(S:ByteArray)(hS:QK):Calls Tryz.prog 11 #[.string S] w fun e w'=>Ch [] w w'/\∃v vs,e= .returned (.tuple #[v,.int .i64 (yX S).1,.int .i64 (yX S).2])/\w'.ownsRow 0 33 2 v vs.length (JT vs)/\(∀q,v.ownBlock=some q->w.heap.size<=q)/\(yX S≠(0,0)->vs=[])/\(yX S=(0,0)->∃D s,jA S= .ok (D,s)/\YI D D.asked vs):=by
 refine(BK S (Or.inl hS)).mono ?_;rintro e w1 ⟨B1,⟨hc,rfl⟩|⟨hc,D,s,v,vs,hr,rfl,ho,hv,hnew⟩⟩
 ·exact⟨VH B1,_,[],rfl,⟨rfl,Or.inl ⟨rfl,rfl⟩⟩,by intro q hq;simp[Value.ownBlock]at hq,fun _=>rfl,fun h=>absurd h hc⟩
 ·exact⟨VH B1,v,vs,by rw[hc],ho,hnew,fun h=>absurd hc h,fun _=>⟨D,s,hr,hv⟩⟩
theorem El(hS:QK){w:World}(S:ByteArray)(T:List UInt8)(hT:T.length<=1048576):
 Calls Tryz.prog 4 #[.string S,.string (zG T)] w fun e w'=>e= .returned (.bool true)/\Ch [] w w':=by
 have HS:=zC hS;clear hS;have hTs:=yV T;go_enter Tryz.func4,Tryz.ntmps4;go_wp2_with fail;refine(Bp S HS.o).mono ?_;rintro e w1 ⟨c1,v,vs,rfl,ho,hnew,he,hg⟩;obtain⟨a,c,rfl⟩:=zQ ho;have HO:=zC ho;have HNEW:=zC hnew;have HE:=zC he;have HG:=zC hg;have HC1:=zC c1;clear ho hnew he hg c1;generalize hC:yX S=C at *;obtain⟨C1,C2⟩:=C;have HC:=zC hC;clear hC;simp only;go_wp2_with fail;refine(Bp S HS.o).mono ?_;rintro e w2 ⟨c2,x,ys,rfl,hox,hnx,_,_⟩;obtain⟨ax,cx,rfl⟩:=zQ hox;rw[HC.o];have HOX:=zC hox;have HNX:=zC hnx;have HC2:=zC c2;clear hox hnx c2;simp only
 have hyl:ys.length<=9223372036854775807:=by
  rcases HOX.o.2 with⟨_,h0⟩|⟨g,cap,cur,h,_,_,h1,h2,_⟩
  ·omega
  ·unfold maxLen at h2;omega
 go_wp2_with fail
 go_loopw [11] (fun iv w5=>∃j:Nat,iv= .int .i64 j/\j<=ys.length/\Hd ((∃xs,w5.ownsRow 0 33 2 (.slice ax ys.length cx) ys.length xs)/\Ch (Value.slice ax ys.length cx).ownBlock.toList w2 w5)) (fun iv _=>ys.length - (intOf iv).toNat)
 case atStart=>exact⟨0,rfl,Nat.zero_le _,by show _/\_;exact⟨⟨_,HOX.o⟩,Ch.refl _ _⟩⟩
 case round=>
  generalize wr=w5 at *;obtain⟨j,rfl,hj,H5⟩:=hrel
  by_cases hlt:(j:Int)<ys.length
  ·have hj2:j<ys.length:=by omega
   have hj0:(0:Int)<=j:=by omega
   have e1:IntKind.i64.wrap ((j:Int)+1)=((j+1:Nat):Int):=by rw[IntKind.wrap_i64];omega
   obtain⟨⟨xs,O5⟩,G5⟩:=H5.o
   obtain⟨g,hgx⟩:∃g,ax=some ⟨g,0,none⟩:=by
    rcases O5.2 with⟨_,h0⟩|⟨g,cap,cur,h,_⟩
    ·omega
    ·injection h with h
     exact⟨g,h⟩
   subst hgx;obtain⟨u0,u1,y0,y1,_,_⟩:=Lk O5 hj2;have yf:=O5.frozenAt;obtain⟨zs,OZ,_,gZ⟩:=Nz O5 j (.int .i64 (-1)) (.string ⟨#[]⟩);have FIN:Hd ((∃xs,((w5.setCell ⟨g,j * 2,none⟩ (.int .i64 (-1))).setCell ⟨g,j * 2+1,none⟩ (.string ⟨#[]⟩)).ownsRow 0 33 2 (.slice (some ⟨g,0,none⟩) ys.length cx) ys.length xs)/\Ch (Value.slice (some ⟨g,0,none⟩) ys.length cx).ownBlock.toList w2 ((w5.setCell ⟨g,j * 2,none⟩ (.int .i64 (-1))).setCell ⟨g,j * 2+1,none⟩ (.string ⟨#[]⟩))):=⟨⟨zs,OZ⟩,G5.trans (gZ.mono (by simp[Value.ownBlock]))⟩;clear O5 G5 H5 OZ gZ;go_wp2_with fail;exact⟨⟨j+1,by simp,by omega,FIN⟩,by simp[intOf];omega⟩
  ·have G5:Hd (Ch [] w1 w5):=HC2.o.trans' H5.o.2 (fun k hk=>Or.inr (HNX.o k (by simpa using hk)))
   clear H5;go_wp2_with fail;refine(Tz S).mono ?_;rintro e w6 ⟨B6,⟨hc,rfl⟩|⟨hc,b,d,F,vs0,vc,va,sv,cv,av,s,rfl,hp,hr⟩⟩
   ·rw[HC.o]at hc ⊢
    have h1:¬C1=0:=by
     intro e;have:=Xv HC.o e;exact hc (by rw[e,this])
    have hvs:vs=[]:=HE.o hc;subst hvs
    have q0:(C1 !=0)=true:=by simp[h1]
    have HG6:=zC ((HC1.o.trans G5.o).trans (VH B6));clear hc B6 h1;simp only;go_wp2_with fail;refine(Aj C1).mono ?_;rintro e w7 ⟨rfl,rfl⟩;go_wp2_with fail;go_ret;exact⟨rfl,HG6.o⟩
   ·rw[HC.o]at hc
    injection hc with hc1 hc2
    subst hc1 hc2;obtain⟨D,s',hr',hv⟩:=HG.o rfl
    have hD:D=⟨sv.map (·.1),cv.map (·.1),av.map (·.1)⟩:=by
     rw[hr]at hr'
     injection hr' with h
     injection h with h _
     exact h.symm
    subst hD;obtain⟨⟨okS,okC⟩,okN⟩:=Ln HC.o hr;obtain⟨okT,okA,okQ⟩:=Mg HC.o hr
    have hvl:vs.length=av.length:=by rw[hv.1];simp
    simp only[List.length_map]at okN okA okC okQ
    have hchV:∀p,p∈cv->jM sv.length p.1.scrubs:=fun p hp=>okC p.1 (List.mem_map_of_mem hp)
    have hakV:∀p,p∈av->Yp cv.length p.1:=fun p hp=>okQ p.1 (List.mem_map_of_mem hp)
    have O6:=zJ HO.o (G5.o.trans (VH B6)) (by simp);obtain⟨a2,k2,e2⟩:=zQ hp.ra;subst e2;have d2:=hp.blk.cl 2 _ rfl
    have hne:((vs.length:Int) !=(av.length:Int))=false:=by rw[hvl];simp
    have LV:Hd (∀W (i:Nat) q u k Wt,Ch [] w6 W->av[i]? =some (q,u)->vs[i]? =some (k,Wt)->Calls Tryz.prog 13 #[.pointer (some ⟨d,0,none⟩),.int .i64 i,.agg #[.int .i64 k,.string (zG Wt)]] W fun e w'=>e= .returned (.bool true)/\Ch [] W w'):=by
     intro W i q u k Wt cW h1 h2;obtain⟨x1,x2⟩:=hv.2 i q (k,Wt) (by simp[h1]) h2;exact Oz (hp.kp (cW.mono (by simp))) okS hchV h1 (hakV _ (List.mem_of_getElem? h1)) x2 x1
    have BD:Hd (∀W (i:Nat) q u,Ch [] w6 W->av[i]? =some (q,u)->Calls Tryz.prog 14 #[.pointer (some ⟨d,0,none⟩),.int .i64 i,.string (zG T)] W fun e w'=>∃r:Bool,e= .returned (.bool r)/\(r=true↔Je ⟨sv.map (·.1),cv.map (·.1),av.map (·.1)⟩ q T)/\Ch [] W w'):=
     fun W i q u cW h1=>Mj (hp.kp (cW.mono (by simp))) okS hchV h1 (hakV _ (List.mem_of_getElem? h1)) T hT
    have HV:=zC hv;have HVL:=zC hvl;have HR:=zC hr;have HO6:=zC O6;have HG6:=zC ((HC1.o.trans G5.o).trans (VH B6));clear hp hr hr' B6 O6 okS okC okT okQ hchV hakV hv hvl;go_wp2_with fail;refine(Aj 0).mono ?_;rintro e w6' ⟨rfl,rfl⟩;go_wp2_with fail;clear d2 hne
    go_loopw [15] (fun iv w7=>∃j:Nat,iv= .int .i64 j/\j<=vs.length/\Hd (Ch [] w6' w7)) (fun iv _=>vs.length - (intOf iv).toNat)
    case atStart=>exact⟨0,rfl,Nat.zero_le _,Ch.refl _ _⟩
    case round=>
     generalize wr=w7 at *;obtain⟨j,rfl,hj,H7⟩:=hrel
     by_cases hlt:(j:Int)<vs.length
     ·have hj2:j<vs.length:=by omega
      have hj0:(0:Int)<=j:=by omega
      have e1:IntKind.i64.wrap ((j:Int)+1)=((j+1:Nat):Int):=by have:=HVL.o;rw[IntKind.wrap_i64];omega
      obtain⟨⟨kd,Wt⟩,hpj⟩:∃p,vs[j]? =some p:=⟨_,List.getElem?_eq_getElem hj2⟩;obtain⟨⟨q,u⟩,hqj⟩:∃p,av[j]? =some p:=⟨_,List.getElem?_eq_getElem (by have:=HVL.o;omega)⟩;obtain⟨x0,x1⟩:=Uu vs j _ hpj;obtain⟨VD,_⟩:=HV.o.2 j q (kd,Wt) (by simp[hqj]) hpj;obtain⟨ga,hga,hca⟩:=jO (zJ HO6.o H7.o (by simp)) (by omega);subst hga
      have KC:Hd (∀W,Ch [] w7 W->W.cell? ⟨ga,j * 2,none⟩=some (.int .i64 kd)/\W.cell? ⟨ga,j * 2+1,none⟩=some (.string (zG Wt))):=by
       intro W cW;obtain⟨gb,hgb,hcb⟩:=jO (zJ HO6.o (H7.o.trans cW) (by simp)) (by omega)
       obtain rfl:ga=gb:=by injection hgb with e;injection e
       exact⟨hcb _ _ x0,hcb _ _ x1⟩
      obtain⟨p0,p1⟩:=KC.o w7 (Ch.refl _ _);have CALL:=zC (LV.o w7 j q u kd Wt H7.o hqj hpj)
      have BC:Hd (∀W,Ch [] w7 W->Calls Tryz.prog 14 #[.pointer (some ⟨d,0,none⟩),.int .i64 j,.string (zG T)] W fun e w'=>∃r:Bool,e= .returned (.bool r)/\(r=true↔Je ⟨sv.map (·.1),cv.map (·.1),av.map (·.1)⟩ q T)/\Ch [] W w'):=fun W cW=>BD.o W j q u (H7.o.trans cW) hqj
      have hws:=yV Wt;simp only at VD;clear hca x0 x1 hpj hqj;go_wp2_with fail;refine CALL.o.mono ?_;rintro e w8 ⟨rfl,k8⟩;obtain⟨s0,s1⟩:=KC.o w8 k8;have HK8:=zC k8;have HG8:=zC (H7.o.trans k8);clear p0 p1 k8 CALL KC;generalize Je ⟨sv.map (·.1),cv.map (·.1),av.map (·.1)⟩ q=bd at *;generalize q.never=nv at *
      rcases VD with⟨hk,hL⟩|⟨hk,hW,hno⟩
      ·by_cases hsh:(T.length:Int)<Wt.length
       ·have HNB:Hd (¬bd T):=hL.short (by omega)
        cases nv with
        |true=>
         simp only[if_true]at hk;subst hk;clear hL;go_wp2_with fail;refine(BC.o _ HK8.o).mono ?_;rintro e w9 ⟨r,rfl,hr9,k9⟩
         have hr0:r=false:=by
          cases r with
          |false=>rfl
          |true=>exact absurd (hr9.1 rfl) HNB.o
         subst hr0;have HG9:=zC (HG8.o.trans k9);clear hr9 k9;go_wp2_with fail;exact⟨⟨j+1,by simp,by omega,HG9⟩,by simp[intOf];omega⟩
        |false=>
         simp only[Bool.false_eq_true,if_false]at hk;subst hk;clear hL;go_wp2_with fail;refine(BC.o _ HK8.o).mono ?_;rintro e w9 ⟨r,rfl,hr9,k9⟩
         have hr0:r=false:=by
          cases r with
          |false=>rfl
          |true=>exact absurd (hr9.1 rfl) HNB.o
         subst hr0;have HG9:=zC (HG8.o.trans k9);clear hr9 k9;go_wp2_with fail;exact⟨⟨j+1,by simp,by omega,HG9⟩,by simp[intOf];omega⟩
       ·cases nv with
        |true=>
         simp only[if_true]at hk;subst hk;clear hL;go_wp2_with fail;exact⟨⟨j+1,by simp,by omega,HG8⟩,by simp[intOf];omega⟩
        |false=>
         simp only[Bool.false_eq_true,if_false]at hk;subst hk;clear hL;go_wp2_with fail;exact⟨⟨j+1,by simp,by omega,HG8⟩,by simp[intOf];omega⟩
      ·have HNB:=zC (hno T)
       clear hno
       cases nv with
       |true=>
        simp only[if_true]at hk;subst hk;go_wp2_with fail;refine(BC.o _ HK8.o).mono ?_;rintro e w9 ⟨r,rfl,hr9,k9⟩
        have hr0:r=false:=by
         cases r with
         |false=>rfl
         |true=>exact absurd (hr9.1 rfl) HNB.o
        subst hr0;have HG9:=zC (HG8.o.trans k9);clear hr9 k9;go_wp2_with fail;exact⟨⟨j+1,by simp,by omega,HG9⟩,by simp[intOf];omega⟩
       |false=>
        simp only[Bool.false_eq_true,if_false]at hk;subst hk;go_wp2_with fail;refine(BC.o _ HK8.o).mono ?_;rintro e w9 ⟨r,rfl,hr9,k9⟩
        have hr0:r=false:=by
         cases r with
         |false=>rfl
         |true=>exact absurd (hr9.1 rfl) HNB.o
        subst hr0;have HG9:=zC (HG8.o.trans k9);clear hr9 k9;go_wp2_with fail;exact⟨⟨j+1,by simp,by omega,HG9⟩,by simp[intOf];omega⟩
     ·have AN:=zC (IK (w:=w7) S HS.o HC.o HR.o (zJ HO6.o H7.o (by simp)) HV.o)
      have HG7:=zC (HG6.o.trans H7.o);clear H7;go_wp2_with fail;refine AN.o.mono ?_;rintro e w8 ⟨rfl,k8⟩;have HG8:=zC (HG7.o.trans' k8 (fun k hk=>Or.inr (HNEW.o k (by simpa using hk))));go_wp2_with fail;go_ret;exact⟨rfl,HG8.o⟩
end Go.Proofs.YteobgfbgglfkbaaGreat
