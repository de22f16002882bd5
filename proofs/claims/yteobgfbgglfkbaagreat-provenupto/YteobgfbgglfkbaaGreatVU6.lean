import Derived.Test.YteobgfbgglfkbaaGreatVU4
import Derived.Test.YteobgfbgglfkbaaGreatVU5
set_option maxHeartbeats 6400000
set_option maxRecDepth 100000
namespace Go.Proofs.YteobgfbgglfkbaaGreat
open Go.RowKit
attribute [local go_sem ↓] Go.wp_at_zero Go.wp_at_succ
theorem TD{w:World}{v0 v1 v2 vc ve:Value}(h0:JI v0)(h1:JI v1)(h2:JI v2)(hc:JI vc)(he:JI ve){never:Bool}{bad:List UInt8->Prop}
 (HA:∀W,Ch [] w W->Calls Tryz.prog (if never then 48 else 49) #[.agg #[v0,v1,v2],.agg #[.int .i64 (if never then 0 else 1),vc,ve]] W (YF bad W)):
 Calls Tryz.prog 28 #[.agg #[v0,v1,v2],.agg #[.int .i64 (if never then 0 else 1),vc,ve]] w fun e w'=>∃k W,e= .returned (.agg #[.int .i64 k,.string (zG W)])/\Qe never bad k W/\W.length<=600000/\Ch [] w w':=by
 obtain⟨a0,n0,c0,rfl⟩:=h0;obtain⟨a1,n1,c1,rfl⟩:=h1;obtain⟨a2,n2,c2,rfl⟩:=h2;obtain⟨va,vn,vcc,rfl⟩:=hc;obtain⟨ea,en,ec,rfl⟩:=he
 have en48:∀(args:Array Value) (W:World),Sem.run Tryz.prog (callFunc 48 args) W= .ok (.enter 48 args) W:=fun _ _=>by kernel_rfl
 have en49:∀(args:Array Value) (W:World),Sem.run Tryz.prog (callFunc 49 args) W= .ok (.enter 49 args) W:=fun _ _=>by kernel_rfl
 generalize hkd:(if never then(0:Int)else 1)=kd at *;have g0:=Ch.alloc [] w (.cells #[.slice a0 n0 c0,.slice a1 n1 c1,.slice a2 n2 c2] 65);have P0:=zE.new w #[.slice a0 n0 c0,.slice a1 n1 c1,.slice a2 n2 c2] 65
 have z0:(w.alloc (.cells #[.slice a0 n0 c0,.slice a1 n1 c1,.slice a2 n2 c2] 65)).heap.size=w.heap.size+1:=by simp
 generalize hw0:w.alloc (.cells #[.slice a0 n0 c0,.slice a1 n1 c1,.slice a2 n2 c2] 65)=w0 at *;have g1:=Ch.alloc [] w0 (.cells #[.int .i64 kd,.slice va vn vcc,.slice ea en ec] 87);have C1:=zE.new w0 #[.int .i64 kd,.slice va vn vcc,.slice ea en ec] 87
 have z1:(w0.alloc (.cells #[.int .i64 kd,.slice va vn vcc,.slice ea en ec] 87)).heap.size=w0.heap.size+1:=by simp
 have P1:=P0.kp g1 (by simp);rw[z0]at C1 z1;generalize hw1:w0.alloc (.cells #[.int .i64 kd,.slice va vn vcc,.slice ea en ec] 87)=w1 at *;have g2:=Ch.alloc [] w1 (.cells #[.int .i64 0,.string ⟨#[]⟩] 33);have V2:=zE.new w1 #[.int .i64 0,.string ⟨#[]⟩] 33;have P2:=P1.kp g2 (by simp);have C2:=C1.kp g2 (by simp);rw[z1]at V2;generalize hw2:w1.alloc (.cells #[.int .i64 0,.string ⟨#[]⟩] 33)=w2 at *;have G2:=(g0.trans g1).trans g2;have p0:=P2.cl 0 _ rfl;have p1:=P2.cl 1 _ rfl;have p2:=P2.cl 2 _ rfl;have q0:=C2.cl 0 _ rfl;have q1:=C2.cl 1 _ rfl;have q2:=C2.cl 2 _ rfl;have CALL:=zC (HA w2 G2);have HV2:=zC V2;have HG2:=zC G2;clear HA V2 G2 P0 P1 P2 C1 C2 g0 g1 g2
 cases never with
 |true=>
  simp only[if_true]at CALL hkd;subst hkd;go_enter Tryz.func28,Tryz.ntmps28;go_wp2_with fail;refine CALL.o.mono ?_;rintro e w3 ⟨Wt,found,rfl,hr,hwl,k3⟩;have B3:=HV2.o.kp k3 (by simp);have x0:=B3.cl 0 _ rfl;have x1:=B3.cl 1 _ rfl;have xf:=B3.fz;have HG3:=zC (HG2.o.trans k3);have HR:=zC hr
  cases found with
  |true=>
   obtain⟨B4,g4⟩:=B3.fill2 (.int .i64 2) (.string (zG Wt));have y0:=B4.cl 0 _ rfl;have y1:=B4.cl 1 _ rfl;have HG4:=zC (HG3.o.trans' g4 (fun k hk=>Or.inr (by simp at hk;omega)));clear B3 B4 g4 hr k3;go_wp2_with fail;refine bodyPost_ret (v:= .agg #[.int .i64 2,.string (zG Wt)]) ?_ rfl ⟨2,Wt,rfl,?_,hwl,HG4.o⟩
   ·simp[results,Tryz.results28,go_sem,y0,y1]
   ·rcases HR.o with h|h
    ·exact Or.inl ⟨rfl,h.2⟩
    ·exact absurd h.1 (by simp)
  |false=>
   obtain⟨B4,g4⟩:=B3.fill2 (.int .i64 1) (.string ⟨#[]⟩);have y0:=B4.cl 0 _ rfl;have y1:=B4.cl 1 _ rfl;have HG4:=zC (HG3.o.trans' g4 (fun k hk=>Or.inr (by simp at hk;omega)));clear B3 B4 g4 hr k3;go_wp2_with fail;refine bodyPost_ret (v:= .agg #[.int .i64 1,.string ⟨#[]⟩]) ?_ rfl ⟨1,[],rfl,?_,by simp,HG4.o⟩
   ·simp[results,Tryz.results28,go_sem,y0,y1]
   ·rcases HR.o with h|h
    ·exact absurd h.1 (by simp)
    ·exact Or.inr ⟨rfl,rfl,h.2.2⟩
 |false=>
  simp only[Bool.false_eq_true,if_false]at CALL hkd;subst hkd;go_enter Tryz.func28,Tryz.ntmps28;go_wp2_with fail;refine CALL.o.mono ?_;rintro e w3 ⟨Wt,found,rfl,hr,hwl,k3⟩;have B3:=HV2.o.kp k3 (by simp);have x0:=B3.cl 0 _ rfl;have x1:=B3.cl 1 _ rfl;have xf:=B3.fz;have HG3:=zC (HG2.o.trans k3);have HR:=zC hr
  cases found with
  |true=>
   obtain⟨B4,g4⟩:=B3.fill2 (.int .i64 4) (.string (zG Wt));have y0:=B4.cl 0 _ rfl;have y1:=B4.cl 1 _ rfl;have HG4:=zC (HG3.o.trans' g4 (fun k hk=>Or.inr (by simp at hk;omega)));clear B3 B4 g4 hr k3;go_wp2_with fail;refine bodyPost_ret (v:= .agg #[.int .i64 4,.string (zG Wt)]) ?_ rfl ⟨4,Wt,rfl,?_,hwl,HG4.o⟩
   ·simp[results,Tryz.results28,go_sem,y0,y1]
   ·rcases HR.o with h|h
    ·exact Or.inl ⟨rfl,h.2⟩
    ·exact absurd h.1 (by simp)
  |false=>
   obtain⟨B4,g4⟩:=B3.fill2 (.int .i64 3) (.string ⟨#[]⟩);have y0:=B4.cl 0 _ rfl;have y1:=B4.cl 1 _ rfl;have HG4:=zC (HG3.o.trans' g4 (fun k hk=>Or.inr (by simp at hk;omega)));clear B3 B4 g4 hr k3;go_wp2_with fail;refine bodyPost_ret (v:= .agg #[.int .i64 3,.string ⟨#[]⟩]) ?_ rfl ⟨3,[],rfl,?_,by simp,HG4.o⟩
   ·simp[results,Tryz.results28,go_sem,y0,y1]
   ·rcases HR.o with h|h
    ·exact absurd h.1 (by simp)
    ·exact Or.inr ⟨rfl,rfl,h.2.2⟩
theorem Kc:(Tryz.prog.info? 33).map (fun i=>(i.zero,i.size,i.bytes))=some (some (.agg #[.int .i64 0,.string ⟨#[]⟩]),2,24):=by kernel_rfl
theorem aW(z:Array Value)(n:Nat):(madeCells z n).size=n:=by simp[madeCells]
theorem GZ{w:World}{ops:Array Oper}{rest:List Oper}{o:Oper}{a:Act}{Q:Exit->Act->World->Prop}(l c:Operand)(n:Nat)(hn:n<=1000)
 (hg:o.guard=none) (hop:o.op=Op.makeSlice 29 l c) (hl:a.eval l= .int .i64 0) (hc:a.eval c= .int .i64 n)
 (hK:∀w',w'.ownsRow 0 33 2 (.slice (some ⟨w.heap.size,0,none⟩) 0 n) 0 []->Ch [] w w'->w'.heap.size=w.heap.size+1->wpList Tryz.prog ops Q rest (a.put o.dst (.slice (some ⟨w.heap.size,0,none⟩) 0 n)) w'):
 wpList Tryz.prog ops Q (o:: rest) a w:=by
 refine wpList_plain hg fun K hK'=> ?_
 obtain⟨i,hi,hz0,hz1,hz2⟩:=info_parts Kc;have hrun:=run_make (P:=Tryz.prog) w 29 33 i (.agg #[.int .i64 0,.string ⟨#[]⟩]) Tryz.underlying29 hi hz0 .i64 .i64 0 n (by omega) (by omega) (by rw[hz2];omega) (by omega);rw[hz1]at hrun;simp only[Int.toNat_natCast,Int.toNat_zero]at hrun
 have hm:n<=maxLen:=by unfold maxLen;omega
 unfold Oper.wp;simp[execOp,hop,hl,hc,hrun,Result.andThen];exact hK' _ _ (hK _ ⟨rfl,Or.inr ⟨w.heap.size,n,_,rfl,Nat.zero_le _,zr _ _,Nat.zero_le _,hm,aW _ _,rfl⟩⟩ (Ch.alloc _ _ _) (by simp))
def JT(vs:List (Int×List UInt8)):List Value:=vs.flatMap fun p=>[.int .i64 p.1,.string (zG p.2)]
theorem BW(vs:List (Int×List UInt8))(k:Int)(W:List UInt8):JT (vs++[(k,W)])=JT vs++[.int .i64 k,.string (zG W)]:=by simp[JT]
theorem Nf:∀(av:List (ze×Value×Value)) (i:Nat) (p:ze×Value×Value),av[i]? =some p->(ZY av)[i * 3]? =some (.int .i64 (if p.1.never then 0 else 1))/\(ZY av)[i * 3+1]? =some p.2.1/\(ZY av)[i * 3+2]? =some p.2.2
 |[],i,p,h=>by simp at h
 |q:: sv,0,p,h=>by simp at h;subst h;simp[ZY]
 |q:: sv,i+1,p,h=>by
  have ih:=Nf sv i p (by simpa using h)
  have e:∀t,(ZY (q:: sv))[(i+1) * 3+t]? =(ZY sv)[i * 3+t]? :=by
   intro t;rw[show(i+1) * 3+t=(i * 3+t)+3 from by omega];simp[ZY]
  exact⟨(e 0).trans ih.1,(e 1).trans ih.2.1,(e 2).trans ih.2.2⟩
def YI(D:yt)(aq:List ze)(vs:List (Int×List UInt8)):Prop:=vs.length=aq.length/\∀(i:Nat) q p,aq[i]? =some q->vs[i]? =some p->Qe q.never (Je D q) p.1 p.2/\p.2.length<=600000
theorem YI.snoc{D:yt}{aq:List ze}{vs:List (Int×List UInt8)}(h:YI D aq vs){q:ze}{k:Int}{W:List UInt8}(hv:Qe q.never (Je D q) k W/\W.length<=600000):YI D (aq++[q]) (vs++[(k,W)]):=by
 refine⟨by simp[h.1],fun i q' p' h1 h2=> ?_⟩
 by_cases hi:i<aq.length
 ·rw[List.getElem?_append_left hi]at h1
  rw[List.getElem?_append_left (by rw[h.1];exact hi)]at h2;exact h.2 i q' p' h1 h2
 ·rw[List.getElem?_append_right (by omega)]at h1
  rw[List.getElem?_append_right (by rw[h.1];omega),h.1]at h2
  have e:i - aq.length=0:=by
   cases hk:i - aq.length with
   |zero=>rfl
   |succ n=>rw[hk]at h1;simp at h1
  rw[e]at h1 h2;simp at h1 h2;rw[<- h1,<- h2];exact hv
def Ht(S:ByteArray)(w:World)(e:Ending)(w':World):Prop:=
 Below w.heap.size w w'/\((yX S≠(0,0)/\e= .returned (.tuple #[.slice none 0 0,.int .i64 (yX S).1,.int .i64 (yX S).2]))\/
  (yX S=(0,0)/\∃D s v vs,jA S= .ok (D,s)/\e= .returned (.tuple #[v,.int .i64 0,.int .i64 0])/\w'.ownsRow 0 33 2 v vs.length (JT vs)/\YI D D.asked vs/\∀q,v.ownBlock=some q->w.heap.size<=q))
def QK:Prop:=∀(w:World)(lo b:Nat)(F:Nat->Prop)(v0 v1 v2:Value)(sv:List (zH×Value))(cv:List (zZ×Value))(av:List (ze×Value×Value)),yZ w lo b F v0 v1 v2 sv cv av->(∀p,p∈sv->yR p.1/\p.1.one.size<=4/\p.1.two.size<=4)->(∀p,p∈cv->jM sv.length p.1.scrubs)->
 ∀(i j:Nat) (ci cj:zZ) (vi vj:Value),cv[i]? =some (ci,vi)->cv[j]? =some (cj,vj)->∀(vc:Value),j9 w F vc [(i:Int),(j:Int)]->
  Calls Tryz.prog 49 #[.agg #[v0,v1,v2],.agg #[.int .i64 1,vc,.slice none 0 0]] w (YF (fun t=>yH (zt (sv.map fun p=>p.1) ci.scrubs) t≠yH (zt (sv.map fun p=>p.1) cj.scrubs) t) w)
theorem Ih{w:World}{lo b:Nat}{F:Nat->Prop}{v0 v1 v2:Value}{sv:List (zH×Value)}{cv:List (zZ×Value)}{av:List (ze×Value×Value)}(hp:yZ w lo b F v0 v1 v2 sv cv av)(hok:∀p,p∈sv->yR p.1/\p.1.one.size<=4/\p.1.two.size<=4)(hch:∀p,p∈cv->jM sv.length p.1.scrubs)
 {q:ze} {vc ve:Value} (hq:QG w F vc ve q) (ha:Yp cv.length q) (hS:q.never=true\/QK) (aq:List ze):
 JI vc/\JI ve/\∀W,Ch [] w W->Calls Tryz.prog (if q.never then 48 else 49) #[.agg #[v0,v1,v2],.agg #[.int .i64 (if q.never then 0 else 1),vc,ve]] W (YF (Je ⟨sv.map (fun p=>p.1),cv.map (fun p=>p.1),aq⟩ q) W):=by
 have hch1:∀i:Int,0<=i/\i<cv.length->∃ch vs,cv[i.toNat]? =some (ch,vs)/\Ye (cv.map fun p=>p.1) i=ch.scrubs:=by
  intro i hi
  have hl:i.toNat<cv.length:=by omega
  refine⟨cv[i.toNat].1,cv[i.toNat].2,by simp[hl],?_⟩;simp[Ye,hl]
 have hok1:∀p,p∈sv->yR p.1/\p.1.one.size<=4:=fun p hp=>⟨(hok p hp).1,(hok p hp).2.1⟩
 obtain⟨ch1,vs1,h1,e1⟩:=hch1 q.of1 ha.1
 have i1:q.of1=((q.of1.toNat:Nat):Int):=by have:=ha.1.1;omega
 rcases hq with⟨hn,hc,he,hh,N,hX,hk⟩|⟨hn,hc,he⟩
 ·obtain⟨a,c,hvc⟩:=zQ hc.2
  refine⟨⟨_,_,_,hvc⟩,he,fun W g=> ?_⟩;rw[i1]at hc
  have hN:N<=12:=by have:=ha.2.1 hn;omega
  have K:=Hw (hp.kp g (by simp)) h1 hok1 hch ⟨hc.1,zJ hc.2 g (by simp)⟩ he (yC.frame (w':=W) (G:=F) (fun k hk=>g.block k (hp.f k hk).2.1 (by simp)) (fun _ h=>h) _ _ _ _ hX) hN;rw[hn];simp only[if_true]
  have e:Je ⟨sv.map (fun p=>p.1),cv.map (fun p=>p.1),aq⟩ q=fun t=>q.lang (yH (zt (sv.map fun p=>p.1) ch1.scrubs) t):=by
   funext t
   unfold Je;rw[if_pos hn,e1]
  rw[e];exact K
 ·obtain⟨a,c,hvc⟩:=zQ hc.2
  refine⟨⟨_,_,_,hvc⟩,⟨_,_,_,he⟩,fun W g=> ?_⟩;have ha2:=ha.2.2 hn;obtain⟨ch2,vs2,h2,e2⟩:=hch1 q.of2 ha2
  have i2:q.of2=((q.of2.toNat:Nat):Int):=by omega
  rw[i1,i2]at hc;have hS:QK:=hS.resolve_left (by rw[hn];simp);have K:=hS W lo b F v0 v1 v2 sv cv av (hp.kp g (by simp)) hok hch _ _ _ _ _ _ h1 h2 vc ⟨hc.1,zJ hc.2 g (by simp)⟩;rw[hn,he];simp only[Bool.false_eq_true,if_false]
  have e:Je ⟨sv.map (fun p=>p.1),cv.map (fun p=>p.1),aq⟩ q=fun t=>yH (zt (sv.map fun p=>p.1) ch1.scrubs) t≠yH (zt (sv.map fun p=>p.1) ch2.scrubs) t:=by
   funext t
   unfold Je;rw[if_neg (by rw[hn];simp),e1,e2]
  rw[e];exact K
theorem BK{w:World}(S:ByteArray)(hS:QK\/∀D s,jA S= .ok (D,s)->∀q,q∈D.asked->q.never=true):Calls Tryz.prog 11 #[.string S] w (Ht S w):=by
 have HSx:=zC hS;clear hS;go_enter Tryz.func11,Tryz.ntmps11;go_wp2_with fail;refine(PD S).mono ?_;rintro e w1 ⟨B1,_,_,_,rfl,⟨x0,n0,c0,rfl⟩,⟨x1,n1,c1,rfl⟩,⟨x2,n2,c2,rfl⟩,hgood⟩;have HGOOD:=zC hgood;clear hgood;have B1x:=zC B1;have zB1:=B1.size;clear B1;generalize hC:yX S=C at *;obtain⟨C1,C2⟩:=C;have HC:=zC hC;clear hC;have A1:=zE.new w1 #[.slice x0 n0 c0,.slice x1 n1 c1,.slice x2 n2 c2] 65;have g1:=Ch.alloc [] w1 (.cells #[.slice x0 n0 c0,.slice x1 n1 c1,.slice x2 n2 c2] 65)
 have z1:(w1.alloc (.cells #[.slice x0 n0 c0,.slice x1 n1 c1,.slice x2 n2 c2] 65)).heap.size=w1.heap.size+1:=by simp
 have A2:=A1.kp (Ch.alloc [] _ (.cells #[.int .i64 C1,.int .i64 C2] 68)) (by simp);have F2:=zE.new (w1.alloc (.cells #[.slice x0 n0 c0,.slice x1 n1 c1,.slice x2 n2 c2] 65)) #[.int .i64 C1,.int .i64 C2] 68;have g2:=g1.trans (Ch.alloc [] _ (.cells #[.int .i64 C1,.int .i64 C2] 68));rw[z1]at F2;have A2x:=zC A2;have F2x:=zC F2;have g2x:=zC g2;clear A1 g1 z1 A2 F2 g2
 by_cases hc:C1=0
 ·have q:(C1 !=0)=false:=by simp[hc]
  have hC2:C2=0:=Xv HC.o hc;subst hc hC2;obtain⟨s',F,sv,cv,av,hr,hp⟩:=HGOOD.o rfl;have hok:=Ln HC.o hr;have hok2:=Mg HC.o hr;have HR:=zC hr
  have hnev:∀p,p∈av->p.1.never=true\/QK:=by
   intro p hp
   rcases HSx.o with h|h
   ·exact Or.inr h
   ·exact Or.inl (h _ _ hr _ (List.mem_map_of_mem hp))
  clear hr HGOOD HSx;obtain⟨⟨okS,okC⟩,okN⟩:=hok;obtain⟨okT,okA,okQ⟩:=hok2;simp only[List.mem_map]at okS okC okT okQ;simp only[List.length_map]at okN okA okC okQ;obtain⟨a5,b5,e5⟩:=zQ hp.rs
  injection e5 with e51 e52 e53
  subst e51 e52 e53;obtain⟨a6,b6,e6⟩:=zQ hp.rc
  injection e6 with e61 e62 e63
  subst e61 e62 e63;obtain⟨a7,b7,e7⟩:=zQ hp.ra
  injection e7 with e71 e72 e73
  subst e71 e72 e73;have HP2:=zC (hp.kp g2x.o (by simp));clear hp
  have hokV:∀p,p∈sv->yR p.1/\p.1.one.size<=4/\p.1.two.size<=4:=fun p hp=>⟨okS p.1 ⟨p,hp,rfl⟩,okT p.1 ⟨p,hp,rfl⟩⟩
  have hchV:∀p,p∈cv->jM sv.length p.1.scrubs:=fun p hp=>okC p.1 ⟨p,hp,rfl⟩
  have hakV:∀p,p∈av->Yp cv.length p.1:=fun p hp=>okQ p.1 ⟨p,hp,rfl⟩
  have HOK:=zC hokV;have HCH:=zC hchV;have HAK:=zC hakV;have HNV:=zC hnev;clear okS okC okT okQ hokV hchV hakV hnev q F2x
  have P2:Hd (∀W,Ch [] ((w1.alloc (.cells #[.slice x0 sv.length c0,.slice x1 cv.length c1,.slice x2 av.length c2] 65)).alloc (.cells #[.int .i64 0,.int .i64 0] 68)) W->W.cell? ⟨w1.heap.size,0,none⟩=some (.slice x0 sv.length c0)/\W.cell? ⟨w1.heap.size,1,none⟩=some (.slice x1 cv.length c1)/\W.cell? ⟨w1.heap.size,2,none⟩=some (.slice x2 av.length c2)):=by
   intro W c;have B:=A2x.o.kp c (by simp);exact⟨B.cl 0 _ rfl,B.cl 1 _ rfl,B.cl 2 _ rfl⟩
  obtain⟨_,_,p2⟩:=P2.o _ (Ch.refl _ _)
  have zz:((w1.alloc (.cells #[.slice x0 sv.length c0,.slice x1 cv.length c1,.slice x2 av.length c2] 65)).alloc (.cells #[.int .i64 0,.int .i64 0] 68)).heap.size=w1.heap.size+1+1:=by simp
  have z2:=g2x.o.size;go_wp2_with (at_make;refine GZ _ _ av.length (by omega) rfl rfl rfl rfl ?_;intro w3 R3 g3 z3;obtain⟨_,_,p3⟩:=P2.o _ g3);clear p2 p3;generalize (w1.alloc (.cells #[.slice x0 sv.length c0,.slice x1 cv.length c1,.slice x2 av.length c2] 65)).alloc (.cells #[.int .i64 0,.int .i64 0] 68)=w2 at *;rw[zz]at R3;have HZZ:=zC zz
  have START:Hd (∃vs,w3.ownsRow 0 33 2 (.slice (some ⟨w1.heap.size+1+1,0,none⟩) 0 av.length) vs.length (JT vs)/\YI ⟨sv.map (fun p=>p.1),cv.map (fun p=>p.1),av.map (fun p=>p.1)⟩ ((av.map fun p=>p.1).take 0) vs/\(∀q,(Value.slice (some ⟨w1.heap.size+1+1,0,none⟩) 0 av.length).ownBlock=some q->w2.heap.size<=q)/\Ch [] w2 w3):=
   ⟨[],R3,⟨by simp,by intro i q p h;simp at h⟩,by intro q hq;simp[Value.ownBlock]at hq;omega,g3⟩
  clear zz;clear R3 g3 z3
  go_loopw [9,34] (fun lv iv w5=>∃j:Nat,iv= .int .i64 j/\j<=av.length/\Hd (∃vs,w5.ownsRow 0 33 2 lv vs.length (JT vs)/\YI ⟨sv.map (fun p=>p.1),cv.map (fun p=>p.1),av.map (fun p=>p.1)⟩ ((av.map fun p=>p.1).take j) vs/\(∀q,lv.ownBlock=some q->w2.heap.size<=q)/\Ch [] w2 w5)) (fun _ iv _=>av.length - (intOf iv).toNat)
  case atStart=>exact⟨0,rfl,Nat.zero_le _,START⟩
  case round=>
   clear START;generalize wr=w5 at *;obtain⟨j,rfl,hj,H5⟩:=hrel;obtain⟨vs,O5,V5,N5,G5⟩:=H5.o
   have hvl:vs.length=j:=by rw[V5.1,List.length_take,List.length_map];omega
   obtain⟨la,lc,hlv⟩:=zQ O5;subst hlv;rw[hvl]at O5 N5;rw[hvl];have HN5:=zC N5
   by_cases hlt:(j:Int)<av.length
   ·have hj2:j<av.length:=by omega
    have hj0:(0:Int)<=j:=by omega
    obtain⟨p,hpj⟩:∃p,av[j]? =some p:=⟨_,List.getElem?_eq_getElem hj2⟩;have hpm:p∈av:=List.mem_of_getElem? hpj
    have HT:Hd ((av.map fun p=>p.1).take (j+1)=(av.map fun p=>p.1).take j++[p.1]):=by
     obtain⟨h1,rfl⟩:=List.getElem?_eq_some_iff.1 hpj
     show _=_
     rw[List.take_succ_eq_append_getElem (by simpa using h1)];simp
    have HP5:=HP2.o.kp G5 (by simp);obtain⟨isc,ise,LK⟩:=Ih HP5 HOK.o HCH.o (HP5.pa p hpm) (HAK.o p hpm) (HNV.o p hpm) (av.map fun p=>p.1);obtain⟨ga,hga,hcells⟩:=jO HP5.ra (by omega);obtain⟨k0,k1,k2⟩:=Nf av j p hpj;have r0:=hcells _ _ k0;have r1:=hcells _ _ k1;have r2:=hcells _ _ k2;have VD:=zC (fun W (c:Ch [] w5 W)=>TD ⟨_,_,_,rfl⟩ ⟨_,_,_,rfl⟩ ⟨_,_,_,rfl⟩ isc ise (fun W' c'=>LK W' (c.trans c')));obtain⟨q,vc,ve⟩:=p;obtain⟨va,vn,vcc,rfl⟩:=isc;obtain⟨ea,en,ec,rfl⟩:=ise;simp only at VD r0 r1 r2 HT;generalize hkd:(if q.never=true then(0:Int)else 1)=kd at *;subst hga;obtain⟨p0,p1,p2⟩:=P2.o _ G5;have g6:=Ch.alloc [] w5 (.cells #[.int .i64 kd,.slice va vn vcc,.slice ea en ec] 87);have C6:=zE.new w5 #[.int .i64 kd,.slice va vn vcc,.slice ea en ec] 87;obtain⟨s0,s1,s2⟩:=P2.o _ (G5.trans g6);have HG6:=zC (G5.trans g6);have O6:=zC (zJ O5 g6 (by simp));have CALL:=zC (VD.o _ g6);have t0:=C6.cl 0 _ rfl;have t1:=C6.cl 1 _ rfl;have t2:=C6.cl 2 _ rfl
    have e1:IntKind.i64.wrap ((j:Int)+1)=((j+1:Nat):Int):=by rw[IntKind.wrap_i64];omega
    have HV5:=zC V5;have z5:=g6.size;clear LK hcells k0 k1 k2 VD g6 C6 HP5 O5 V5 N5 G5 H5 hpj hpm hkd;go_wp2_with fail;refine CALL.o.mono ?_;rintro e w7 ⟨kd7,Wt,rfl,hvd,hwl,k7⟩;have g8:=Ch.alloc [] w7 (.cells #[.int .i64 kd7,.string (zG Wt)] 33);have O8:=zJ O6.o (k7.trans g8) (by simp);have HG8:=zC (HG6.o.trans (k7.trans g8));have HVD:=zC (And.intro hvd hwl);have z7:=HG8.o.size
    have z8:(w7.alloc (.cells #[.int .i64 kd7,.string (zG Wt)] 33)).heap.size=w7.heap.size+1:=by simp
    rw[z8]at z7
    have zl:w2.heap.size<=w7.heap.size:=by have:=HG6.o.size;have:=k7.size;omega
    clear hvd k7 g8 p0 p1 p2 s0 s1 s2 t0 t1 t2 r0 r1 r2 hwl z8;go_wp2_with (at_builtin;refine YZ 29 33 2 24 (.agg #[.int .i64 0,.string ⟨#[]⟩]) Tryz.underlying29 Kc rfl (by omega) (by omega) (by rfl) _ _ (by rfl) (.slice la j lc) j _ (by rfl) O8 w7.heap.size [.int .i64 kd7,.string (zG Wt)] (by rfl) (zr _ _) rfl (by intro u hu;simp at hu;rcases hu with rfl|rfl <;>rfl) (by omega) (w7.heap.size+1) (by simp) ?_;intro g9 cap9 w9 own9 gr9 hat9 hlt9)
    have FIN:Hd (∃vs',w9.ownsRow 0 33 2 (.slice (some ⟨g9,0,none⟩) (j+1) cap9) vs'.length (JT vs')/\YI ⟨sv.map (fun p=>p.1),cv.map (fun p=>p.1),av.map (fun p=>p.1)⟩ ((av.map fun p=>p.1).take (j+1)) vs'/\(∀q,(Value.slice (some ⟨g9,0,none⟩) (j+1) cap9).ownBlock=some q->w2.heap.size<=q)/\Ch [] w2 w9):=by
     refine⟨vs++[(kd7,Wt)],?_,by rw[HT.o];exact HV5.o.snoc HVD.o,fun y hy=> ?_,HG8.o.trans' gr9 (fun y hy=>Or.inr (HN5.o y (by simpa using hy)))⟩
     ·rw[BW,List.length_append,hvl]
      exact own9
     ·have e:g9=y:=by simpa[Value.ownBlock]using hy
      subst e
      rcases hat9 with h|h
      ·exact HN5.o _ h
      ·omega
    clear own9 gr9 hat9;go_roundw
    case rel=>exact⟨j+1,by simp,by omega,FIN⟩
    case measure=>simp[intOf];omega
   ·have e:j=av.length:=by omega
    subst e;have HV:=zC V5;have HO:=zC O5;have HG5:=zC G5;clear H5 V5 O5 N5 G5;go_wp2_with fail;go_ret3;have zf:=HZZ.o;refine⟨B1x.o.trans ((g2x.o.trans HG5.o).below zB1 (by simp)),Or.inr ⟨HC.o,_,_,_,vs,HR.o,rfl,by rw[hvl];exact HO.o,?_,fun q hq=>by have:=HN5.o q hq;omega⟩⟩;have:=HV.o;rw[List.take_of_length_le (by simp)]at this;exact this
 ·have q:(C1 !=0)=true:=by simp[hc]
  have HNE:Hd (¬(C1,C2)=((0:Int),(0:Int))):=by
   intro e
   injection e with e _
   exact hc e
  clear hc;go_wp2_with fail;refine(T9 C1 C2).mono ?_;rintro e w3 ⟨rfl,g3⟩;go_wp2_with fail;go_ret3;exact⟨B1x.o.trans ((g2x.o.trans g3).below zB1 (by simp)),Or.inl ⟨by rw[HC.o];exact HNE.o,by rw[HC.o];rfl⟩⟩
end Go.Proofs.YteobgfbgglfkbaaGreat
