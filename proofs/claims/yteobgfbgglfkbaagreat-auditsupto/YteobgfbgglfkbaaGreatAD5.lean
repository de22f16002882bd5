import Derived.Test.YteobgfbgglfkbaaGreatAD4
set_option maxHeartbeats 3200000
set_option maxRecDepth 100000
namespace Go.Proofs.YteobgfbgglfkbaaGreat
open Go.RowKit
attribute [local go_sem ↓] Go.wp_at_zero Go.wp_at_succ
def zM(e:Bool)(f l:Nat->Nat):Array Value:= #[.bool e,.int .u64 (f 0),.int .u64 (f 1),.int .u64 (f 2),.int .u64 (f 3),.int .u64 (l 0),.int .u64 (l 1),.int .u64 (l 2),.int .u64 (l 3)]
def yD(e:Bool)(f l:Nat->Nat):Value:= .agg (zM e f l)
def YN(v:Value)(P:Pc):Prop:=∃qf ql,v=yD P.e qf ql/\zU qf P.f/\zU ql P.l
def JQ(w:World)(P g m:Nat)(nx hv:Nat->Nat->Bool):Prop:=
 ∃cap e nq hq,yL w P (.slice (some ⟨g,0,none⟩) m cap) hq e/\w.ownsRow 0 156 4 (.slice (some ⟨g,0,none⟩) m cap) m (ya nq m)/\g≠P/\m<=256/\(∀p,p<m->zU (nq p) (nx p))/\(∀c,c<256->zU (hq c) (hv c))
theorem JQ.kp{w w':World}{P g m:Nat}{nx hv:Nat->Nat->Bool}(h:JQ w P g m nx hv){X:List Nat}(c:Ch X w w')(h1:P∉X)(h2:g∉X):JQ w' P g m nx hv:=by
 obtain⟨cap,e,nq,hq,a,b,r⟩:=h;exact⟨cap,e,nq,hq,zE.kp a c h1,zJ b c (by intro k hk;simp[Value.ownBlock]at hk;subst hk;exact h2),r⟩
theorem JQ.lt{w:World}{P g m:Nat}{nx hv:Nat->Nat->Bool}(h:JQ w P g m nx hv):P<w.heap.size/\g<w.heap.size/\g≠P/\m<=256:=by
 obtain⟨cap,e,nq,hq,a,b,r⟩:=h;exact⟨zE.lt a,(b.lt g rfl).2,r.1,r.2.1⟩
theorem Kj{w:World}{P g m:Nat}{nx hv:Nat->Nat->Bool}{ql qf:Nat->Nat}{l f:Nat->Bool}(H:JQ w P g m nx hv)(hl:zU ql l)(hf:zU qf f):
 Calls Tryz.prog 105 #[.pointer (some ⟨P,0,none⟩),zS ql,zS qf] w fun r w'=>r= .returned (.tuple #[])/\Ch [g] w w'/\JQ w' P g m (yl nx l f) hv:=by
 obtain⟨cap,e,nq,hq,a,b,r1,r2,r3,r4⟩:=H;refine(Ty a b r1 r2 hl hf.1 (fun p hp=>(r3 p hp).1)).mono ?_;rintro r w' ⟨rfl,g1,R⟩;refine⟨rfl,g1,cap,e,_,hq,zE.kp a g1 (by simpa using Ne.symm r1),R,r1,r2,fun p hp=> ?_,r4⟩
 show zU (fun t=>if l p=true then nq p t ||| qf t else nq p t) (fun q=>nx p q || (l p && f q))
 cases hlp:l p with
 |true=>simpa using (r3 p hp).or hf
 |false=>simpa using r3 p hp
theorem zE.c9{w:World}{B:Nat}{e:Bool}{f l:Nat->Nat}{T:TypeId}(h:zE w B (zM e f l) T):w.cell? ⟨B,0,none⟩=some (.bool e)/\w.cell? ⟨B,1,none⟩=some (.int .u64 (f 0))/\w.cell? ⟨B,2,none⟩=some (.int .u64 (f 1))/\w.cell? ⟨B,3,none⟩=some (.int .u64 (f 2))/\w.cell? ⟨B,4,none⟩=some (.int .u64 (f 3))/\w.cell? ⟨B,5,none⟩=some (.int .u64 (l 0))/\w.cell? ⟨B,6,none⟩=some (.int .u64 (l 1))/\w.cell? ⟨B,7,none⟩=some (.int .u64 (l 2))/\w.cell? ⟨B,8,none⟩=some (.int .u64 (l 3))/\(∀o,w.frozen? ⟨B,o,none⟩=false):=
 ⟨h.cl 0 _ rfl,h.cl 1 _ rfl,h.cl 2 _ rfl,h.cl 3 _ rfl,h.cl 4 _ rfl,h.cl 5 _ rfl,h.cl 6 _ rfl,h.cl 7 _ rfl,h.cl 8 _ rfl,h.fz⟩
theorem zE.setF{w:World}{B:Nat}{e:Bool}{f l:Nat->Nat}{T:TypeId}(h:zE w B (zM e f l) T)(q:Nat->Nat):
 zE ((((w.setCell ⟨B,1,none⟩ (.int .u64 (q 0))).setCell ⟨B,2,none⟩ (.int .u64 (q 1))).setCell ⟨B,3,none⟩ (.int .u64 (q 2))).setCell ⟨B,4,none⟩ (.int .u64 (q 3))) B (zM e q l) T/\
 Ch [B] w ((((w.setCell ⟨B,1,none⟩ (.int .u64 (q 0))).setCell ⟨B,2,none⟩ (.int .u64 (q 1))).setCell ⟨B,3,none⟩ (.int .u64 (q 2))).setCell ⟨B,4,none⟩ (.int .u64 (q 3))):=
 ⟨(((h.set 1 (.int .u64 (q 0))).set 2 (.int .u64 (q 1))).set 3 (.int .u64 (q 2))).set 4 (.int .u64 (q 3)),(((Ch.setCell _ (by simp) _).trans (Ch.setCell _ (by simp) _)).trans (Ch.setCell _ (by simp) _)).trans (Ch.setCell _ (by simp) _)⟩
theorem zE.setL{w:World}{B:Nat}{e:Bool}{f l:Nat->Nat}{T:TypeId}(h:zE w B (zM e f l) T)(q:Nat->Nat):
 zE ((((w.setCell ⟨B,5,none⟩ (.int .u64 (q 0))).setCell ⟨B,6,none⟩ (.int .u64 (q 1))).setCell ⟨B,7,none⟩ (.int .u64 (q 2))).setCell ⟨B,8,none⟩ (.int .u64 (q 3))) B (zM e f q) T/\
 Ch [B] w ((((w.setCell ⟨B,5,none⟩ (.int .u64 (q 0))).setCell ⟨B,6,none⟩ (.int .u64 (q 1))).setCell ⟨B,7,none⟩ (.int .u64 (q 2))).setCell ⟨B,8,none⟩ (.int .u64 (q 3))):=
 ⟨(((h.set 5 (.int .u64 (q 0))).set 6 (.int .u64 (q 1))).set 7 (.int .u64 (q 2))).set 8 (.int .u64 (q 3)),(((Ch.setCell _ (by simp) _).trans (Ch.setCell _ (by simp) _)).trans (Ch.setCell _ (by simp) _)).trans (Ch.setCell _ (by simp) _)⟩
def lay9(w:World)(B:Nat)(e:Bool)(f l:Nat->Nat):World:=((((((((w.setCell ⟨B,0,none⟩ (.bool e)).setCell ⟨B,1,none⟩ (.int .u64 (f 0))).setCell ⟨B,2,none⟩ (.int .u64 (f 1))).setCell ⟨B,3,none⟩ (.int .u64 (f 2))).setCell ⟨B,4,none⟩ (.int .u64 (f 3))).setCell ⟨B,5,none⟩ (.int .u64 (l 0))).setCell ⟨B,6,none⟩ (.int .u64 (l 1))).setCell ⟨B,7,none⟩ (.int .u64 (l 2))).setCell ⟨B,8,none⟩ (.int .u64 (l 3))
theorem zE.lay9{w:World}{B:Nat}{e e':Bool}{f l f' l':Nat->Nat}{T:TypeId}(h:zE w B (zM e f l) T):zE (lay9 w B e' f' l') B (zM e' f' l') T/\Ch [B] w (Proofs.YteobgfbgglfkbaaGreat.lay9 w B e' f' l'):=by
 have h0:zE (w.setCell ⟨B,0,none⟩ (.bool e')) B (zM e' f l) T:=h.set 0 _;have g0:Ch [B] w (w.setCell ⟨B,0,none⟩ (.bool e')):=Ch.setCell _ (by simp) _;obtain⟨h1,g1⟩:=h0.setF f';obtain⟨h2,g2⟩:=h1.setL l';exact⟨h2,g0.trans (g1.trans g2)⟩
theorem KM{w:World}{P g m:Nat}{nx hv:Nat->Nat->Bool}{v1 v2:Value}{P1 P2:Pc}(H:JQ w P g m nx hv)(h1:YN v1 P1)(h2:YN v2 P2):
 Calls Tryz.prog 69 #[.pointer (some ⟨P,0,none⟩),v1,v2] w fun r w'=>∃v,r= .returned v/\YN v (yU P1 P2)/\Ch [g] w w'/\JQ w' P g m (yl nx P1.l P2.f) hv:=by
 obtain⟨f1,l1,rfl,hf1,hl1⟩:=h1;obtain⟨f2,l2,rfl,hf2,hl2⟩:=h2;obtain⟨hPl,hgl,hgP,hm⟩:=H.lt
 have hpost:∀v q1 q2,v=yD (P1.e && P2.e) q1 q2->zU q1 (yU P1 P2).f->zU q2 (yU P1 P2).l->YN v (yU P1 P2):=fun v q1 q2 e a b=>⟨q1,q2,e,a,b⟩
 have HP:=zC hpost;clear hpost;unfold yD zM;generalize he1:P1.e=e1 at *;generalize he2:P2.e=e2 at *;have HE1:=zC he1;have HE2:=zC he2;clear he1 he2;go_enter Tryz.func69,Tryz.ntmps69;go_wp2_with fail;have bA:=zE.new w (zM e1 f1 l1) 163
 have z1:(w.alloc (.cells (zM e1 f1 l1) 163)).heap.size=w.heap.size+1:=by simp
 have g1:=Ch.alloc [] w (.cells (zM e1 f1 l1) 163);have bB:=zE.new (w.alloc (.cells (zM e1 f1 l1) 163)) (zM e2 f2 l2) 163;have g2:=Ch.alloc [] (w.alloc (.cells (zM e1 f1 l1) 163)) (.cells (zM e2 f2 l2) 163)
 have z2:((w.alloc (.cells (zM e1 f1 l1) 163)).alloc (.cells (zM e2 f2 l2) 163)).heap.size=w.heap.size+2:=by simp
 have bC:=zE.new ((w.alloc (.cells (zM e1 f1 l1) 163)).alloc (.cells (zM e2 f2 l2) 163)) (zM false (fun _=>0) (fun _=>0)) 163;have g3:=Ch.alloc [] ((w.alloc (.cells (zM e1 f1 l1) 163)).alloc (.cells (zM e2 f2 l2) 163)) (.cells (zM false (fun _=>0) (fun _=>0)) 163)
 have z3:(((w.alloc (.cells (zM e1 f1 l1) 163)).alloc (.cells (zM e2 f2 l2) 163)).alloc (.cells (zM false (fun _=>0) (fun _=>0)) 163)).heap.size=w.heap.size+3:=by simp
 have bA3:=(bA.kp g2 (by simp)).kp g3 (by simp);have bB3:=bB.kp g3 (by simp);rw[z1]at bB3;rw[z2]at bC;have g03:=(g1.trans g2).trans g3;have H3:=H.kp g03 (by simp) (by simp);rw[show w.heap.size+2=w.heap.size+1+1 from rfl]at bC;have ALL:=And.intro bA3 (And.intro bB3 (And.intro bC (And.intro H3 (And.intro g03 z3))));clear bA3 bB3 bC H3 g03 z3 bA bB g1 g2 g3 z1 z2
 revert ALL
 rw[show((w.alloc (.cells #[.bool e1,.int .u64 (f1 0),.int .u64 (f1 1),.int .u64 (f1 2),.int .u64 (f1 3),.int .u64 (l1 0),.int .u64 (l1 1),.int .u64 (l1 2),.int .u64 (l1 3)] 163)).alloc (.cells #[.bool e2,.int .u64 (f2 0),.int .u64 (f2 1),.int .u64 (f2 2),.int .u64 (f2 3),.int .u64 (l2 0),.int .u64 (l2 1),.int .u64 (l2 2),.int .u64 (l2 3)] 163)).alloc (.cells #[.bool false,.int .u64 0,.int .u64 0,.int .u64 0,.int .u64 0,.int .u64 0,.int .u64 0,.int .u64 0,.int .u64 0] 163)=((w.alloc (.cells (zM e1 f1 l1) 163)).alloc (.cells (zM e2 f2 l2) 163)).alloc (.cells (zM false (fun _=>0) (fun _=>0)) 163)from rfl];generalize ((w.alloc (.cells (zM e1 f1 l1) 163)).alloc (.cells (zM e2 f2 l2) 163)).alloc (.cells (zM false (fun _=>0) (fun _=>0)) 163)=W;rintro⟨bA,bB,bC,HW,g0,zW⟩;generalize hK:w.heap.size=K at *;refine(Kj HW hl1 hf2).mono ?_;rintro r w1 ⟨rfl,g1,H1⟩;have nA:=bA.kp g1 (by simp;omega);have nB:=bB.kp g1 (by simp;omega);have nC:=bC.kp g1 (by simp;omega);obtain⟨a0,a1,a2,a3,a4,a5,a6,a7,a8,af⟩:=nA.c9;obtain⟨b0,b1,b2,b3,b4,b5,b6,b7,b8,bf⟩:=nB.c9;have zw1:=g1.size
 have kl0:K<w1.heap.size:=by omega
 have kl1:K+1<w1.heap.size:=by omega
 have kl2:K+1+1<w1.heap.size:=by omega
 obtain⟨c0,c1,c2,c3,c4,c5,c6,c7,c8,cf⟩:=nC.c9
 cases e1 <;>cases e2
 ·
  go_wp2_with fail;have gD:=Ch.alloc [] w1 (.cells (zM false f1 l2) 163);obtain⟨n1,k1⟩:=nC.lay9 (e':=false) (f':=f1) (l':=l2);have kk:=k1.trans (Ch.alloc [K+1+1] _ (.cells (zM false f1 l2) 163));have n2:=n1.kp (Ch.alloc [] _ (.cells (zM false f1 l2) 163)) (by simp)
  show bodyPost _ _ _ _ _ ((lay9 w1 (K+1+1) false f1 l2).alloc (.cells (zM false f1 l2) 163))
  generalize (lay9 w1 (K+1+1) false f1 l2).alloc (.cells (zM false f1 l2) 163)=X at *;clear a0 a1 a2 a3 a4 a5 a6 a7 a8 af b0 b1 b2 b3 b4 b5 b6 b7 b8 bf c0 c1 c2 c3 c4 c5 c6 c7 c8 cf;obtain⟨y0,y1,y2,y3,y4,y5,y6,y7,y8,yf⟩:=n2.c9;refine bodyPost_ret (v:=yD false f1 l2) (by simp[results,Tryz.results69,go_sem,yD,zM,y0,y1,y2,y3,y4,y5,y6,y7,y8]) rfl ?_
  have g9:Ch [g] w X:=⟨kk.os.trans (g1.os.trans g0.os),kk.tape.trans (g1.tape.trans g0.tape),kk.output.trans (g1.output.trans g0.output),by have:=kk.size;have:=g0.size;omega,fun k hk hx=>by
   rw[kk.block k (by omega) (by simp;omega),g1.block k (by omega) hx,g0.block k (by omega) (by simp)]⟩
  exact⟨_,rfl,HP.o _ f1 l2 rfl (by
   simp only[yU,HE1.o]
   simpa using hf1) (by
   simp only[yU,HE2.o]
   simpa using hl2),g9,H1.kp kk (by simp;omega) (by simp;omega)⟩
 ·
  go_wp2_with fail;have gD:=Ch.alloc [] w1 (.cells (zM false f1 l2) 163);have nD:=zE.new w1 (zM false f1 l2) 163;have mA:=nA.kp gD (by simp);have mB:=nB.kp gD (by simp);have mC:=nC.kp gD (by simp)
  have zD:(w1.alloc (.cells (zM false f1 l2) 163)).heap.size=w1.heap.size+1:=by simp
  rw[show w1.alloc (.cells #[.bool false,.int .u64 (f1 0),.int .u64 (f1 1),.int .u64 (f1 2),.int .u64 (f1 3),.int .u64 (l2 0),.int .u64 (l2 1),.int .u64 (l2 2),.int .u64 (l2 3)] 163)=w1.alloc (.cells (zM false f1 l2) 163)from rfl];clear a0 a1 a2 a3 a4 a5 a6 a7 a8 af b0 b1 b2 b3 b4 b5 b6 b7 b8 bf c0 c1 c2 c3 c4 c5 c6 c7 c8 cf;generalize w1.alloc (.cells (zM false f1 l2) 163)=w2 at *;generalize hD:w1.heap.size=D at *;refine(YW (q1:=l2) (q2:=l1) hl2.1 hl1.1).mono ?_;rintro r w3 ⟨rfl,h3⟩;rw[show zS (fun t=>l2 t ||| l1 t)= .agg #[.int .u64 (l2 0 ||| l1 0:Nat),.int .u64 (l2 1 ||| l1 1:Nat),.int .u64 (l2 2 ||| l1 2:Nat),.int .u64 (l2 3 ||| l1 3:Nat)]from rfl];have A3:=mA.kp h3 (by simp);have B3:=mB.kp h3 (by simp);have C3:=mC.kp h3 (by simp);have D3:=nD.kp h3 (by simp);obtain⟨a0,a1,a2,a3,a4,a5,a6,a7,a8,af⟩:=A3.c9;obtain⟨b0,b1,b2,b3,b4,b5,b6,b7,b8,bf⟩:=B3.c9;obtain⟨c0,c1,c2,c3,c4,c5,c6,c7,c8,cf⟩:=C3.c9;obtain⟨d0,d1,d2,d3,d4,d5,d6,d7,d8,df⟩:=D3.c9;have zz3:=h3.size;go_wp2_with fail;obtain⟨D4,h4⟩:=D3.setL (fun t=>l2 t ||| l1 t)
  try simp only at D4 h4
  have C4:=C3.kp h4 (by simp;omega);obtain⟨n2,k2⟩:=C4.lay9 (e':=false) (f':=f1) (l':=(fun t=>l2 t ||| l1 t));clear a0 a1 a2 a3 a4 a5 a6 a7 a8 af b0 b1 b2 b3 b4 b5 b6 b7 b8 bf c0 c1 c2 c3 c4 c5 c6 c7 c8 cf d0 d1 d2 d3 d4 d5 d6 d7 d8 df
  show bodyPost _ _ _ _ _ (lay9 ((((w3.setCell ⟨D,5,none⟩ (.int .u64 (l2 0 ||| l1 0:Nat))).setCell ⟨D,6,none⟩ (.int .u64 (l2 1 ||| l1 1:Nat))).setCell ⟨D,7,none⟩ (.int .u64 (l2 2 ||| l1 2:Nat))).setCell ⟨D,8,none⟩ (.int .u64 (l2 3 ||| l1 3:Nat))) (K+1+1) false f1 (fun t=>l2 t ||| l1 t))
  generalize ((((w3.setCell ⟨D,5,none⟩ (.int .u64 (l2 0 ||| l1 0:Nat))).setCell ⟨D,6,none⟩ (.int .u64 (l2 1 ||| l1 1:Nat))).setCell ⟨D,7,none⟩ (.int .u64 (l2 2 ||| l1 2:Nat))).setCell ⟨D,8,none⟩ (.int .u64 (l2 3 ||| l1 3:Nat)))=wq at *;generalize lay9 wq (K+1+1) false f1 (fun t=>l2 t ||| l1 t)=X at *;obtain⟨y0,y1,y2,y3,y4,y5,y6,y7,y8,yf⟩:=n2.c9;have kk:Ch [D,K+1+1] w1 X:=(gD.mono (by simp)).trans ((h3.mono (by simp)).trans (((h4).mono (by simp)).trans (k2.mono (by simp))));refine bodyPost_ret (v:=yD false f1 (fun t=>l2 t ||| l1 t)) (by simp[results,Tryz.results69,go_sem,yD,zM,y0,y1,y2,y3,y4,y5,y6,y7,y8]) rfl ?_
  have g9:Ch [g] w X:=⟨kk.os.trans (g1.os.trans g0.os),kk.tape.trans (g1.tape.trans g0.tape),kk.output.trans (g1.output.trans g0.output),by have:=kk.size;have:=g0.size;omega,fun k hk hx=>by
   rw[kk.block k (by omega) (by simp;omega),g1.block k (by omega) hx,g0.block k (by omega) (by simp)]⟩
  exact⟨_,rfl,HP.o _ f1 (fun t=>l2 t ||| l1 t) rfl (by
   simp only[yU,HE1.o]
   simpa using hf1) (by
   simp only[yU,HE2.o]
   simpa using hl2.or hl1),g9,H1.kp kk (by simp;omega) (by simp;omega)⟩
 ·
  go_wp2_with fail;have gD:=Ch.alloc [] w1 (.cells (zM false f1 l2) 163);have nD:=zE.new w1 (zM false f1 l2) 163;have mA:=nA.kp gD (by simp);have mB:=nB.kp gD (by simp);have mC:=nC.kp gD (by simp)
  have zD:(w1.alloc (.cells (zM false f1 l2) 163)).heap.size=w1.heap.size+1:=by simp
  rw[show w1.alloc (.cells #[.bool false,.int .u64 (f1 0),.int .u64 (f1 1),.int .u64 (f1 2),.int .u64 (f1 3),.int .u64 (l2 0),.int .u64 (l2 1),.int .u64 (l2 2),.int .u64 (l2 3)] 163)=w1.alloc (.cells (zM false f1 l2) 163)from rfl];clear a0 a1 a2 a3 a4 a5 a6 a7 a8 af b0 b1 b2 b3 b4 b5 b6 b7 b8 bf c0 c1 c2 c3 c4 c5 c6 c7 c8 cf;generalize w1.alloc (.cells (zM false f1 l2) 163)=w2 at *;generalize hD:w1.heap.size=D at *;refine(YW (q1:=f1) (q2:=f2) hf1.1 hf2.1).mono ?_;rintro r w3 ⟨rfl,h3⟩;rw[show zS (fun t=>f1 t ||| f2 t)= .agg #[.int .u64 (f1 0 ||| f2 0:Nat),.int .u64 (f1 1 ||| f2 1:Nat),.int .u64 (f1 2 ||| f2 2:Nat),.int .u64 (f1 3 ||| f2 3:Nat)]from rfl];have A3:=mA.kp h3 (by simp);have B3:=mB.kp h3 (by simp);have C3:=mC.kp h3 (by simp);have D3:=nD.kp h3 (by simp);obtain⟨a0,a1,a2,a3,a4,a5,a6,a7,a8,af⟩:=A3.c9;obtain⟨b0,b1,b2,b3,b4,b5,b6,b7,b8,bf⟩:=B3.c9;obtain⟨c0,c1,c2,c3,c4,c5,c6,c7,c8,cf⟩:=C3.c9;obtain⟨d0,d1,d2,d3,d4,d5,d6,d7,d8,df⟩:=D3.c9;have zz3:=h3.size;go_wp2_with fail;obtain⟨D4,h4⟩:=D3.setF (fun t=>f1 t ||| f2 t)
  try simp only at D4 h4
  have C4:=C3.kp h4 (by simp;omega);obtain⟨n2,k2⟩:=C4.lay9 (e':=false) (f':=(fun t=>f1 t ||| f2 t)) (l':=l2);clear a0 a1 a2 a3 a4 a5 a6 a7 a8 af b0 b1 b2 b3 b4 b5 b6 b7 b8 bf c0 c1 c2 c3 c4 c5 c6 c7 c8 cf d0 d1 d2 d3 d4 d5 d6 d7 d8 df
  show bodyPost _ _ _ _ _ (lay9 ((((w3.setCell ⟨D,1,none⟩ (.int .u64 (f1 0 ||| f2 0:Nat))).setCell ⟨D,2,none⟩ (.int .u64 (f1 1 ||| f2 1:Nat))).setCell ⟨D,3,none⟩ (.int .u64 (f1 2 ||| f2 2:Nat))).setCell ⟨D,4,none⟩ (.int .u64 (f1 3 ||| f2 3:Nat))) (K+1+1) false (fun t=>f1 t ||| f2 t) l2)
  generalize ((((w3.setCell ⟨D,1,none⟩ (.int .u64 (f1 0 ||| f2 0:Nat))).setCell ⟨D,2,none⟩ (.int .u64 (f1 1 ||| f2 1:Nat))).setCell ⟨D,3,none⟩ (.int .u64 (f1 2 ||| f2 2:Nat))).setCell ⟨D,4,none⟩ (.int .u64 (f1 3 ||| f2 3:Nat)))=wq at *;generalize lay9 wq (K+1+1) false (fun t=>f1 t ||| f2 t) l2=X at *;obtain⟨y0,y1,y2,y3,y4,y5,y6,y7,y8,yf⟩:=n2.c9;have kk:Ch [D,K+1+1] w1 X:=(gD.mono (by simp)).trans ((h3.mono (by simp)).trans (((h4).mono (by simp)).trans (k2.mono (by simp))));refine bodyPost_ret (v:=yD false (fun t=>f1 t ||| f2 t) l2) (by simp[results,Tryz.results69,go_sem,yD,zM,y0,y1,y2,y3,y4,y5,y6,y7,y8]) rfl ?_
  have g9:Ch [g] w X:=⟨kk.os.trans (g1.os.trans g0.os),kk.tape.trans (g1.tape.trans g0.tape),kk.output.trans (g1.output.trans g0.output),by have:=kk.size;have:=g0.size;omega,fun k hk hx=>by
   rw[kk.block k (by omega) (by simp;omega),g1.block k (by omega) hx,g0.block k (by omega) (by simp)]⟩
  exact⟨_,rfl,HP.o _ (fun t=>f1 t ||| f2 t) l2 rfl (by
   simp only[yU,HE1.o]
   simpa using hf1.or hf2) (by
   simp only[yU,HE2.o]
   simpa using hl2),g9,H1.kp kk (by simp;omega) (by simp;omega)⟩
 ·
  go_wp2_with fail;have gD:=Ch.alloc [] w1 (.cells (zM true f1 l2) 163);have nD:=zE.new w1 (zM true f1 l2) 163;have mA:=nA.kp gD (by simp);have mB:=nB.kp gD (by simp);have mC:=nC.kp gD (by simp)
  have zD:(w1.alloc (.cells (zM true f1 l2) 163)).heap.size=w1.heap.size+1:=by simp
  rw[show w1.alloc (.cells #[.bool true,.int .u64 (f1 0),.int .u64 (f1 1),.int .u64 (f1 2),.int .u64 (f1 3),.int .u64 (l2 0),.int .u64 (l2 1),.int .u64 (l2 2),.int .u64 (l2 3)] 163)=w1.alloc (.cells (zM true f1 l2) 163)from rfl];clear a0 a1 a2 a3 a4 a5 a6 a7 a8 af b0 b1 b2 b3 b4 b5 b6 b7 b8 bf c0 c1 c2 c3 c4 c5 c6 c7 c8 cf;generalize w1.alloc (.cells (zM true f1 l2) 163)=w2 at *;generalize hD:w1.heap.size=D at *;refine(YW (q1:=f1) (q2:=f2) hf1.1 hf2.1).mono ?_;rintro r w3 ⟨rfl,h3⟩;rw[show zS (fun t=>f1 t ||| f2 t)= .agg #[.int .u64 (f1 0 ||| f2 0:Nat),.int .u64 (f1 1 ||| f2 1:Nat),.int .u64 (f1 2 ||| f2 2:Nat),.int .u64 (f1 3 ||| f2 3:Nat)]from rfl];have A3:=mA.kp h3 (by simp);have B3:=mB.kp h3 (by simp);have C3:=mC.kp h3 (by simp);have D3:=nD.kp h3 (by simp);obtain⟨a0,a1,a2,a3,a4,a5,a6,a7,a8,af⟩:=A3.c9;obtain⟨b0,b1,b2,b3,b4,b5,b6,b7,b8,bf⟩:=B3.c9;obtain⟨c0,c1,c2,c3,c4,c5,c6,c7,c8,cf⟩:=C3.c9;obtain⟨d0,d1,d2,d3,d4,d5,d6,d7,d8,df⟩:=D3.c9;have zz3:=h3.size;go_wp2_with fail;obtain⟨D4,h4⟩:=D3.setF (fun t=>f1 t ||| f2 t)
  try simp only at D4 h4
  clear a0 a1 a2 a3 a4 a5 a6 a7 a8 af b0 b1 b2 b3 b4 b5 b6 b7 b8 bf c0 c1 c2 c3 c4 c5 c6 c7 c8 cf d0 d1 d2 d3 d4 d5 d6 d7 d8 df;have A4:=A3.kp h4 (by simp;omega);have B4:=B3.kp h4 (by simp;omega);have C4:=C3.kp h4 (by simp;omega);generalize ((((w3.setCell ⟨D,1,none⟩ (.int .u64 (f1 0 ||| f2 0:Nat))).setCell ⟨D,2,none⟩ (.int .u64 (f1 1 ||| f2 1:Nat))).setCell ⟨D,3,none⟩ (.int .u64 (f1 2 ||| f2 2:Nat))).setCell ⟨D,4,none⟩ (.int .u64 (f1 3 ||| f2 3:Nat)))=w4 at *;refine(YW (q1:=l2) (q2:=l1) hl2.1 hl1.1).mono ?_;rintro r w5 ⟨rfl,h5⟩;rw[show zS (fun t=>l2 t ||| l1 t)= .agg #[.int .u64 (l2 0 ||| l1 0:Nat),.int .u64 (l2 1 ||| l1 1:Nat),.int .u64 (l2 2 ||| l1 2:Nat),.int .u64 (l2 3 ||| l1 3:Nat)]from rfl];have A5:=A4.kp h5 (by simp);have B5:=B4.kp h5 (by simp);have C5:=C4.kp h5 (by simp);have D5:=D4.kp h5 (by simp);obtain⟨a0,a1,a2,a3,a4,a5,a6,a7,a8,af⟩:=A5.c9;obtain⟨b0,b1,b2,b3,b4,b5,b6,b7,b8,bf⟩:=B5.c9;obtain⟨c0,c1,c2,c3,c4,c5,c6,c7,c8,cf⟩:=C5.c9;obtain⟨d0,d1,d2,d3,d4,d5,d6,d7,d8,df⟩:=D5.c9;have zz5:=h5.size;go_wp2_with fail;obtain⟨D6,h6⟩:=D5.setL (fun t=>l2 t ||| l1 t)
  try simp only at D6 h6
  have C6:=C5.kp h6 (by simp;omega);obtain⟨n2,k2⟩:=C6.lay9 (e':=true) (f':=(fun t=>f1 t ||| f2 t)) (l':=(fun t=>l2 t ||| l1 t));clear a0 a1 a2 a3 a4 a5 a6 a7 a8 af b0 b1 b2 b3 b4 b5 b6 b7 b8 bf c0 c1 c2 c3 c4 c5 c6 c7 c8 cf d0 d1 d2 d3 d4 d5 d6 d7 d8 df
  show bodyPost _ _ _ _ _ (lay9 ((((w5.setCell ⟨D,5,none⟩ (.int .u64 (l2 0 ||| l1 0:Nat))).setCell ⟨D,6,none⟩ (.int .u64 (l2 1 ||| l1 1:Nat))).setCell ⟨D,7,none⟩ (.int .u64 (l2 2 ||| l1 2:Nat))).setCell ⟨D,8,none⟩ (.int .u64 (l2 3 ||| l1 3:Nat))) (K+1+1) true (fun t=>f1 t ||| f2 t) (fun t=>l2 t ||| l1 t))
  generalize ((((w5.setCell ⟨D,5,none⟩ (.int .u64 (l2 0 ||| l1 0:Nat))).setCell ⟨D,6,none⟩ (.int .u64 (l2 1 ||| l1 1:Nat))).setCell ⟨D,7,none⟩ (.int .u64 (l2 2 ||| l1 2:Nat))).setCell ⟨D,8,none⟩ (.int .u64 (l2 3 ||| l1 3:Nat)))=wq at *;generalize lay9 wq (K+1+1) true (fun t=>f1 t ||| f2 t) (fun t=>l2 t ||| l1 t)=X at *;obtain⟨y0,y1,y2,y3,y4,y5,y6,y7,y8,yf⟩:=n2.c9;have kk:Ch [D,K+1+1] w1 X:=(gD.mono (by simp)).trans ((h3.mono (by simp)).trans (((h4).mono (by simp)).trans ((h5.mono (by simp)).trans (((h6).mono (by simp)).trans (k2.mono (by simp))))));refine bodyPost_ret (v:=yD true (fun t=>f1 t ||| f2 t) (fun t=>l2 t ||| l1 t)) (by simp[results,Tryz.results69,go_sem,yD,zM,y0,y1,y2,y3,y4,y5,y6,y7,y8]) rfl ?_
  have g9:Ch [g] w X:=⟨kk.os.trans (g1.os.trans g0.os),kk.tape.trans (g1.tape.trans g0.tape),kk.output.trans (g1.output.trans g0.output),by have:=kk.size;have:=g0.size;omega,fun k hk hx=>by
   rw[kk.block k (by omega) (by simp;omega),g1.block k (by omega) hx,g0.block k (by omega) (by simp)]⟩
  exact⟨_,rfl,HP.o _ (fun t=>f1 t ||| f2 t) (fun t=>l2 t ||| l1 t) rfl (by
   simp only[yU,HE1.o]
   simpa using hf1.or hf2) (by
   simp only[yU,HE2.o]
   simpa using hl2.or hl1),g9,H1.kp kk (by simp;omega) (by simp;omega)⟩
theorem yL.row{w:World}{P:Nat}{v:Value}{h:Nat->Nat->Nat}{e:Nat->Nat}(H:yL w P v h e){i:Nat}(hi:i<256){q:Nat->Nat}(hq:∀t,t<4->h i t=q t):
 w.cell? ⟨P,1+i * 4,none⟩=some (.int .u64 (q 0))/\w.cell? ⟨P,1+i * 4+1,none⟩=some (.int .u64 (q 1))/\w.cell? ⟨P,1+i * 4+2,none⟩=some (.int .u64 (q 2))/\w.cell? ⟨P,1+i * 4+3,none⟩=some (.int .u64 (q 3))/\∀j,w.frozen? ⟨P,j,none⟩=false:=by
 have key:∀t,t<4->w.cell? ⟨P,1+i * 4+t,none⟩=some (.int .u64 (q t:Nat)):=by
  intro t ht;have:=H.ch hi ht;rw[hq t ht]at this;rw[show 1+i * 4+t=1+(4 * i+t) by omega];exact this
 exact⟨key 0 (by omega),key 1 (by omega),key 2 (by omega),key 3 (by omega),zE.fz H⟩
theorem yL.set0{w:World}{P:Nat}{v:Value}{h:Nat->Nat->Nat}{e:Nat->Nat}(H:yL w P v h e)(v':Value):yL (w.setCell ⟨P,0,none⟩ v') P v' h e:=by
 have:=zE.set H 0 v';unfold yL
 simpa[JP]using this
theorem yL.setRow{w:World}{P:Nat}{v:Value}{h:Nat->Nat->Nat}{e:Nat->Nat}(H:yL w P v h e){i:Nat}(hi:i<256)(q:Nat->Nat):
 yL ((((w.setCell ⟨P,1+i * 4,none⟩ (.int .u64 (q 0))).setCell ⟨P,1+i * 4+1,none⟩ (.int .u64 (q 1))).setCell ⟨P,1+i * 4+2,none⟩ (.int .u64 (q 2))).setCell ⟨P,1+i * 4+3,none⟩ (.int .u64 (q 3))) P v (fun k=>if k=i then q else h k) e/\
 Ch [P] w ((((w.setCell ⟨P,1+i * 4,none⟩ (.int .u64 (q 0))).setCell ⟨P,1+i * 4+1,none⟩ (.int .u64 (q 1))).setCell ⟨P,1+i * 4+2,none⟩ (.int .u64 (q 2))).setCell ⟨P,1+i * 4+3,none⟩ (.int .u64 (q 3))):=by
 refine⟨?_,(((Ch.setCell _ (by simp) _).trans (Ch.setCell _ (by simp) _)).trans (Ch.setCell _ (by simp) _)).trans (Ch.setCell _ (by simp) _)⟩;have r:=zE.set (zE.set (zE.set (zE.set H (1+i * 4) (.int .u64 (q 0))) (1+i * 4+1) (.int .u64 (q 1))) (1+i * 4+2) (.int .u64 (q 2))) (1+i * 4+3) (.int .u64 (q 3));unfold yL
 have e1:(((((JP v h e).toArray.setIfInBounds (1+i * 4) (.int .u64 (q 0))).setIfInBounds (1+i * 4+1) (.int .u64 (q 1))).setIfInBounds (1+i * 4+2) (.int .u64 (q 2))).setIfInBounds (1+i * 4+3) (.int .u64 (q 3)))=(JP v (fun k=>if k=i then q else h k) e).toArray:=by
  simp only[List.setIfInBounds_toArray]
  congr 1
  unfold JP;have hl:=Jw h 256;rw[show 1+i * 4=(4 * i)+1 by omega,show 4 * i+1+1=(4 * i+1)+1 by omega,show 4 * i+1+2=(4 * i+2)+1 by omega,show 4 * i+1+3=(4 * i+3)+1 by omega];simp only[List.set_cons_succ];rw[List.set_append_left _ _ (by rw[hl];omega),List.set_append_left _ _ (by rw[List.length_set,hl];omega),List.set_append_left _ _ (by rw[List.length_set,List.length_set,hl];omega),List.set_append_left _ _ (by rw[List.length_set,List.length_set,List.length_set,hl];omega),My hi]
 rw[<- e1];exact r
theorem yL.congr{w:World}{P:Nat}{v:Value}{h h':Nat->Nat->Nat}{e:Nat->Nat}(H:yL w P v h e)(hh:∀c t,c<256->t<4->h c t=h' c t):yL w P v h' e:=by
 unfold yL JP at *;rw[<- Qo hh];exact H
theorem LW:(Tryz.prog.info? 156).map (fun i=>(i.zero,i.size,i.bytes))=some (some (.agg #[.int .u64 0,.int .u64 0,.int .u64 0,.int .u64 0]),4,32):=by kernel_rfl
def Mc(w:World)(P g:Nat)(pc:Pc)(m:Nat)(nx hv:Nat->Nat->Bool)(r:Ending)(w':World):Prop:=
 ∃v g',r= .returned v/\YN v pc/\Ch [P,g] w w'/\(g'=g\/w.heap.size<=g')/\JQ w' P g' m nx hv
theorem ML{w:World}{P g m:Nat}{nx hv:Nat->Nat->Bool}{qb:Nat->Nat}{fb:Nat->Bool}(H:JQ w P g m nx hv)(hm:m<256)(hb:zU qb fb):
 Calls Tryz.prog 214 #[.pointer (some ⟨P,0,none⟩),zS qb] w (Mc w P g ⟨false,fun q=>q==m,fun q=>q==m⟩ (m+1) (fun p q=>if p=m then false else nx p q) (fun c q=>hv c q || (fb c && q==m))):=by
 obtain⟨hPl,hgl,hgP,_⟩:=H.lt;obtain⟨cap,e,nq,hq,HA,HR,_,_,HN,HH⟩:=H;have e1:zS qb= .agg #[.int .u64 (qb 0),.int .u64 (qb 1),.int .u64 (qb 2),.int .u64 (qb 3)]:=rfl;rw[e1];clear e1;have p0:=HA.c0
 have hw8:IntKind.u8.wrap (m:Int)=(m:Int):=by rw[IntKind.wrap_u8];omega
 go_enter Tryz.func214,Tryz.ntmps214;go_wp2_with fail;have bA:=zE.new w (zK qb) 240
 have z1:(w.alloc (.cells (zK qb) 240)).heap.size=w.heap.size+1:=by simp
 have g1:=Ch.alloc [] w (.cells (zK qb) 240);have bB:=zE.new (w.alloc (.cells (zK qb) 240)) (zM false (fun _=>0) (fun _=>0)) 163;have g2:=Ch.alloc [] (w.alloc (.cells (zK qb) 240)) (.cells (zM false (fun _=>0) (fun _=>0)) 163)
 have z2:((w.alloc (.cells (zK qb) 240)).alloc (.cells (zM false (fun _=>0) (fun _=>0)) 163)).heap.size=w.heap.size+1+1:=by simp
 have bC:=zE.new ((w.alloc (.cells (zK qb) 240)).alloc (.cells (zM false (fun _=>0) (fun _=>0)) 163)) #[.int .u8 m] 161;have g3:=Ch.alloc [] ((w.alloc (.cells (zK qb) 240)).alloc (.cells (zM false (fun _=>0) (fun _=>0)) 163)) (.cells #[.int .u8 m] 161)
 have z3:(((w.alloc (.cells (zK qb) 240)).alloc (.cells (zM false (fun _=>0) (fun _=>0)) 163)).alloc (.cells #[.int .u8 m] 161)).heap.size=w.heap.size+3:=by simp
 have bA3:=(bA.kp g2 (by simp)).kp g3 (by simp);have bB3:=bB.kp g3 (by simp);rw[z1]at bB3;rw[z2]at bC;have g03:=(g1.trans g2).trans g3;have ALL:=And.intro bA3 (And.intro bB3 (And.intro bC (And.intro g03 z3)));clear bA3 bB3 bC g03 z3 bA bB g1 g2 g3 z1 z2
 revert ALL
 rw[show((w.alloc (.cells #[.int .u64 (qb 0),.int .u64 (qb 1),.int .u64 (qb 2),.int .u64 (qb 3)] 240)).alloc (.cells #[.bool false,.int .u64 0,.int .u64 0,.int .u64 0,.int .u64 0,.int .u64 0,.int .u64 0,.int .u64 0,.int .u64 0] 163)).alloc (.cells #[.int .u8 m] 161)=((w.alloc (.cells (zK qb) 240)).alloc (.cells (zM false (fun _=>0) (fun _=>0)) 163)).alloc (.cells #[.int .u8 m] 161)from rfl];generalize ((w.alloc (.cells (zK qb) 240)).alloc (.cells (zM false (fun _=>0) (fun _=>0)) 163)).alloc (.cells #[.int .u8 m] 161)=W;rintro⟨bA,bB,bC,g0,zW⟩;have A0:yL W P _ hq e:=zE.kp HA g0 (by simp);have R0:=zJ HR g0 (by simp);generalize hK:w.heap.size=K at *;refine(Xe bC hm).mono ?_;rintro r w2 ⟨q,rfl,hqf,h2⟩;rw[show zS q= .agg #[.int .u64 (q 0),.int .u64 (q 1),.int .u64 (q 2),.int .u64 (q 3)]from rfl];have A2:yL w2 P _ hq e:=zE.kp A0 h2 (by simp);have R2:=zJ R0 h2 (by simp);have bA2:=bA.kp h2 (by simp);have bB2:=bB.kp h2 (by simp);have zz2:=h2.size
 have hP2:P<w2.heap.size:=by omega
 have hg2:g<w2.heap.size:=by omega
 have bD:=(zE.new w2 (zK q) 156).kp (Ch.alloc [] _ (.cells #[.int .u64 0,.int .u64 0,.int .u64 0,.int .u64 0] 156)) (by simp);have g3:=(Ch.alloc [] w2 (.cells (zK q) 156)).trans (Ch.alloc [] _ (.cells #[.int .u64 0,.int .u64 0,.int .u64 0,.int .u64 0] 156));have R3:=zJ R2 g3 (by simp);have A3:yL _ P _ hq e:=zE.kp A2 g3 (by simp);have bA3:=bA2.kp g3 (by simp);have bB3:=bB2.kp g3 (by simp)
 have N3:((w2.alloc (.cells (zK q) 156)).alloc (.cells #[.int .u64 0,.int .u64 0,.int .u64 0,.int .u64 0] 156)).heap[w2.heap.size+1]? =some (.cells [Value.int .u64 0,.int .u64 0,.int .u64 0,.int .u64 0].toArray 156):=by
  have:=zr (w2.alloc (.cells (zK q) 156)) (.cells #[.int .u64 0,.int .u64 0,.int .u64 0,.int .u64 0] 156)
  simpa using this
 clear p0;have p0:=A2.c0;have pf:=zE.fz A2
 have z3:((w2.alloc (.cells (zK q) 156)).alloc (.cells #[.int .u64 0,.int .u64 0,.int .u64 0,.int .u64 0] 156)).heap.size=w2.heap.size+2:=by simp
 go_wp2_with (at_builtin;refine QC 152 156 4 32 (.agg #[.int .u64 0,.int .u64 0,.int .u64 0,.int .u64 0]) Tryz.underlying152 LW rfl (by omega) (by omega) (by rfl) _ _ (by rfl) (.slice (some ⟨g,0,none⟩) m cap) m _ (by rfl) R3 (w2.heap.size+1) [.int .u64 0,.int .u64 0,.int .u64 0,.int .u64 0] (by rfl) N3 rfl (by intro u hu;simp at hu;subst hu;rfl) (by omega) (w2.heap.size+2) z3 ?_;intro g4 cap4 w4 own4 gr4 hat4 hlt4;have A4:yL w4 P _ hq e:=zE.kp A3 gr4 (by simp[Value.ownBlock];omega);have p4:=A4.c0;have pf4:=zE.fz A4);have gr4':Ch [g] ((w2.alloc (.cells (zK q) 156)).alloc (.cells #[.int .u64 0,.int .u64 0,.int .u64 0,.int .u64 0] 156)) w4:=gr4;have bA4:=bA3.kp gr4' (by simp;omega);have bB4:=bB3.kp gr4' (by simp;omega);have bD4:=bD.kp gr4' (by simp;omega);have gS:Ch [P] w4 (w4.setCell ⟨P,0,none⟩ (.slice (some ⟨g4,0,none⟩) (m+1) cap4)):=Ch.setCell _ (by simp) _
 have hg4:(g4=g\/w2.heap.size<=g4)/\g4≠P/\g4≠w2.heap.size:=by
  rcases hat4 with e|e
  ·simp[Value.ownBlock]at e;omega
  ·omega
 have A5:=A4.set0 (.slice (some ⟨g4,0,none⟩) (m+1) cap4);have own5:=zJ own4 gS (by intro k hk;simp[Value.ownBlock]at hk;subst hk;simpa using hg4.2.1);have bA5:=bA4.kp gS (by simp;omega);have bB5:=bB4.kp gS (by simp;omega);have bD5:=bD4.kp gS (by simp;omega);have g25:Ch [P,g] w2 (w4.setCell ⟨P,0,none⟩ (.slice (some ⟨g4,0,none⟩) (m+1) cap4)):=(g3.mono (by simp)).trans ((gr4'.mono (by simp)).trans (gS.mono (by simp)));have zz4:=gr4'.size
 have z5:(w4.setCell ⟨P,0,none⟩ (.slice (some ⟨g4,0,none⟩) (m+1) cap4)).heap.size=w4.heap.size:=by simp[World.setCell]
 clear p4 pf4 p0 pf;generalize w4.setCell ⟨P,0,none⟩ (.slice (some ⟨g4,0,none⟩) (m+1) cap4)=w5 at *;generalize hD:w2.heap.size=D at *
 rw[show(ya nq m++[Value.int .u64 0,.int .u64 0,.int .u64 0,.int .u64 0])=ya (fun p t=>if p=m then 0 else nq p t) (m+1)from by
  rw[Bi];simp only[if_true];rw[Qo (nq:=nq) (nq':=fun p t=>if p=m then 0 else nq p t) (fun p t hp _=>by rw[if_neg (by omega)])]
  rfl]at own5
 have OWN:=zC own5;clear own4 own5 A4 A3 A2 A0 R0 R2 R3 bA bA2 bA3 bA4 bB bB2 bB3 bB4 bC bD bD4 N3 gr4 gr4' gS
 go_loopw [6,25] (fun _ v w6=>∃i:Nat,v= .int .i64 i/\i<=256/\Ch [P] w5 w6/\yL w6 P (.slice (some ⟨g4,0,none⟩) (m+1) cap4) (fun c t=>if c<i/\fb c=true then hq c t ||| q t else hq c t) e) (fun _ v _=>256 - (match v with|.int _ x=>x.toNat|_=>0))
 case atStart=>exact⟨0,rfl,by omega,Ch.refl _ _,by simpa using A5⟩
 case round=>
  generalize wr=w6 at *;obtain⟨i,rfl,hi,g6,A6⟩:=hrel;have d0:=bA5.kp g6 (by simp;omega);have d1:=bB5.kp g6 (by simp;omega);have d2:=bD5.kp g6 (by simp;omega);obtain⟨x0,x1,x2,x3⟩:=d0.c4
  by_cases hlt:i<256
  ·have hlt':(i:Int)<256:=by omega
   have hi0:(0:Int)<=i:=by omega
   have hwi:IntKind.u8.wrap (i:Int)=(i:Int):=by rw[IntKind.wrap_u8];omega
   go_wp2_with fail;refine(Wg hb i (by omega)).mono ?_;rintro r w7 ⟨rfl,h7⟩;have A7:yL w7 P _ _ e:=zE.kp A6 h7 (by simp);have d2':=d2.kp h7 (by simp);clear x0 x1 x2 x3;obtain⟨y0,y1,y2,y3⟩:=d2'.c4
   have hcur:∀t,t<4->(if i<i/\fb i=true then hq i t ||| q t else hq i t)=hq i t:=fun t _=>by simp
   obtain⟨z0,z1,z2,z3,fz⟩:=A7.row hlt (q:=hq i) hcur
   have hm':256 - (i+1)<256 - i:=by omega
   cases hff:fb i
   ·go_wp2_with fail
    refine⟨⟨i+1,rfl,by omega,g6.trans (h7.mono (by simp)),A7.congr ?_⟩,hm'⟩;intro c t _ _
    by_cases ec:c=i
    ·subst ec;simp[hff]
    ·have:c<i+1↔c<i:=by omega
     simp only[this]
   ·have A7x:=zC A7
    clear A7 A6 d0 d1 d2;go_wp2_with fail
    go_region_with (go_at_call 106;refine(YW (q1:=hq i) (q2:=q) ((HH i hlt).1) hqf.1).mono ?_;rintro r w8 ⟨rfl,h8⟩;have A8:yL w8 P _ _ e:=zE.kp (zE.kp A7x.o (Ch.drew [] w7) (by simp)) h8 (by simp);obtain⟨k0,k1,k2,k3,f8⟩:=A8.row hlt (q:=hq i) hcur;rw[show zS (fun t=>hq i t ||| q t)= .agg #[.int .u64 (hq i 0 ||| q 0:Nat),.int .u64 (hq i 1 ||| q 1:Nat),.int .u64 (hq i 2 ||| q 2:Nat),.int .u64 (hq i 3 ||| q 3:Nat)]from rfl])
    all_goals
     obtain⟨A9,h9⟩:=A8.setRow hlt (fun t=>hq i t ||| q t);have h79:Ch [P] w7 _:=(Ch.drew _ _).trans ((h8.mono (by simp)).trans h9)
     try simp only at A9 h79
     generalize (((w8.setCell ⟨P,1+i * 4,none⟩ (.int .u64 (hq i 0 ||| q 0:Nat))).setCell ⟨P,1+i * 4+1,none⟩ (.int .u64 (hq i 1 ||| q 1:Nat))).setCell ⟨P,1+i * 4+2,none⟩ (.int .u64 (hq i 2 ||| q 2:Nat))).setCell ⟨P,1+i * 4+3,none⟩ (.int .u64 (hq i 3 ||| q 3:Nat))=w9 at *;clear k0 k1 k2 k3 f8 z0 z1 z2 z3 fz y0 y1 y2 y3;go_wp2_with fail;refine⟨⟨i+1,rfl,by omega,g6.trans ((h7.mono (by simp)).trans h79),A9.congr ?_⟩,hm'⟩;intro c t _ _
     by_cases ec:c=i
     ·subst ec;simp[hff]
     ·have:c<i+1↔c<i:=by omega
      simp only[this,ec,if_false]
  ·have hge:¬(i:Int)<256:=by omega
   obtain rfl:i=256:=by omega
   clear hlt x0 x1 x2 x3;obtain⟨y0,y1,y2,y3⟩:=d2.c4;obtain⟨c0,c1,c2,c3,c4,c5,c6,c7,c8,cf⟩:=d1.c9;go_wp2_with fail;obtain⟨n2,k2⟩:=d1.lay9 (e':=false) (f':=q) (l':=q);clear y0 y1 y2 y3 c0 c1 c2 c3 c4 c5 c6 c7 c8 cf
   show bodyPost _ _ _ _ _ (lay9 w6 (K+1) false q q)
   generalize lay9 w6 (K+1) false q q=X at *;obtain⟨y0,y1,y2,y3,y4,y5,y6,y7,y8,yf⟩:=n2.c9;refine bodyPost_ret (v:=yD false q q) (by simp[results,Tryz.results214,go_sem,yD,zM,y0,y1,y2,y3,y4,y5,y6,y7,y8]) rfl ?_;have zz6:=g6.size;have kx:=k2.size;refine⟨_,g4,rfl,⟨q,q,rfl,hqf,hqf⟩,?_,by omega,cap4,e,_,_,zE.kp A6 k2 (by simp;omega),zJ (zJ OWN.o g6 (by intro k hk;simp[Value.ownBlock]at hk;subst hk;simpa using hg4.2.1)) k2 (by intro k hk;simp[Value.ownBlock]at hk;subst hk;simp;omega),hg4.2.1,by omega,?_,?_⟩
   ·exact⟨k2.os.trans (g6.os.trans (g25.os.trans (h2.os.trans g0.os))),k2.tape.trans (g6.tape.trans (g25.tape.trans (h2.tape.trans g0.tape))),k2.output.trans (g6.output.trans (g25.output.trans (h2.output.trans g0.output))),by have:=g25.size;omega,fun k hk hx=>by
     have hx':k≠P/\k≠g:=by simpa using hx
     rw[k2.block k (by have:=g25.size;omega) (by simp;omega),g6.block k (by have:=g25.size;omega) (by simpa using hx'.1),g25.block k (by omega) hx,h2.block k (by omega) (by simp),g0.block k (by omega) (by simp)]⟩
   ·intro p hp
    by_cases ep:p=m
    ·subst ep
     simpa using zU.zero
    ·simpa[ep]using HN p (by omega)
   ·intro c hc
    show zU (fun t=>if c<256/\fb c=true then hq c t ||| q t else hq c t) (fun j=>hv c j || (fb c && j==m))
    cases hfc:fb c with
    |true=>simpa[hc]using (HH c hc).or hqf
    |false=>simpa using HH c hc
def Qc(hv:Nat->Nat->Bool)(m:Nat):Prop:=∀c p,m<=p->hv c p=false
def FOk(w:World)(F:Nat->Prop)(P g:Nat):Prop:=∀k,F k->k<w.heap.size/\k≠P/\k≠g
def Yk(w:World)(P g m:Nat)(nx hv:Nat->Nat->Bool)(N:Nat)(L:zF)(r:Ending)(w':World):Prop:=
 ∃v g' pc m' nx' hv',r= .returned v/\YN v pc/\Ch [P,g] w w'/\(g'=g\/w.heap.size<=g')/\JQ w' P g' m' nx' hv'/\m<=m'/\m'<=m+N/\ji nx' hv' m m' pc L/\
  (∀p q,p<m->nx' p q=nx p q)/\(∀c p,p<m->hv' c p=hv c p)/\Qc hv' m'
theorem Mc.add{w w':World}{P g m:Nat}{nx hv:Nat->Nat->Bool}{fb:Nat->Bool}{Lc:List (Int×Int)}{r:Ending}(H:Mc w P g ⟨false,fun q=>q==m,fun q=>q==m⟩ (m+1) (fun p q=>if p=m then false else nx p q) (fun c q=>hv c q || (fb c && q==m)) r w')(hf:Qc hv m)(hc:∀c,c<256->fb c=zo Lc c):
 Yk w P g m nx hv 1 (zF.cls Lc) r w':=by
 obtain⟨v,g',rfl,hv',hch,hg,hp⟩:=H;refine⟨v,g',_,m+1,_,_,rfl,hv',hch,hg,hp,by omega,by omega,aH (by simp) (fun c h=>by simp[hf c m (Nat.le_refl _),hc c h]),fun p q hpm=>by rw[if_neg (by omega)],fun c p hpm=> ?_,fun c p hpm=> ?_⟩
 ·have:(p==m)=false:=by simp;omega
  simp[this]
 ·have:(p==m)=false:=by simp;omega
  simp[this,hf c p (by omega)]
theorem Uc{w W w4:World}{P g m N B:Nat}{nx hv:Nat->Nat->Bool}{L:zF}{r:Ending}(c:Ch [] w W)(hP:P<w.heap.size)(hg:g<w.heap.size)(hB:zE W B (zM false (fun _=>0) (fun _=>0)) 163)(hwB:w.heap.size<=B)(H:Yk W P g m nx hv N L r w4):
 ∃e qf ql,r= .returned (yD e qf ql)/\zE w4 B (zM false (fun _=>0) (fun _=>0)) 163/\Yk w P g m nx hv N L (.returned (yD e qf ql)) (lay9 w4 B e qf ql)/\zE (lay9 w4 B e qf ql) B (zM e qf ql) 163:=by
 obtain⟨v,g',pc,m',nx',hv',rfl,⟨qf,ql,rfl,h1,h2⟩,ch,hg',hp,rest⟩:=H;have hBl:=hB.lt;have zc:=c.size;have nB:=hB.kp ch (by simp;omega);obtain⟨n1,k1⟩:=nB.lay9 (e':=pc.e) (f':=qf) (l':=ql);refine⟨pc.e,qf,ql,rfl,nB,⟨_,g',pc,m',nx',hv',rfl,⟨qf,ql,rfl,h1,h2⟩,?_,by omega,hp.kp k1 (by simp;omega) (by simp;omega),rest⟩,n1⟩
 exact⟨k1.os.trans (ch.os.trans c.os),k1.tape.trans (ch.tape.trans c.tape),k1.output.trans (ch.output.trans c.output),by have:=ch.size;have:=k1.size;omega,fun k hk hx=>by
  rw[k1.block k (by have:=ch.size;omega) (by simp;omega),ch.block k (by omega) hx,c.block k hk (by simp)]⟩
def VN(h:Nat):Prop:=∀(w:World) (F:Nat->Prop) (P g m:Nat) (nx hv:Nat->Nat->Bool) (v:Value) (L:zF) (N:Nat),yC w F h v L N->JI v->FOk w F P g->JQ w P g m nx hv->Qc hv m->m+N<=256->
 Calls Tryz.prog 70 #[.pointer (some ⟨P,0,none⟩),v] w (Yk w P g m nx hv N L)
theorem CD{h:Nat}(hE:VN h){w:World}{F:Nat->Prop}{P g m:Nat}{nx hv:Nat->Nat->Bool}{K c rp:Int}{q:Nat->Nat}{ga:Option Addr}{gn gc N:Nat}{A:zF}(hF:FOk w F P g)(H:JQ w P g m nx hv)(hf:Qc hv m)(hN:m+N<=256)
 (hk:(K=0/\N=1/\0<=c/\c<=255/\A=zF.cls [(c,c)])\/(K=1/\N=1/\A=zF.cls [(0,255)])\/(K=2/\N=1/\∃Lc,zU q (zo Lc)/\A=zF.cls Lc)\/(K=3/\∃M,N=M+1/\yC w F h (.slice ga gn gc) A M)):
 Calls Tryz.prog 194 #[.pointer (some ⟨P,0,none⟩),.agg #[.int .i64 K,.int .u8 c,.int .u64 (q 0),.int .u64 (q 1),.int .u64 (q 2),.int .u64 (q 3),.slice ga gn gc,.int .i64 rp]] w (Yk w P g m nx hv N A):=by
 obtain⟨hPl,hgl,hgP,_⟩:=H.lt
 rcases hk with⟨rfl,rfl,hc0,hc1,rfl⟩|⟨rfl,rfl,rfl⟩|⟨rfl,rfl,Lc,hq,rfl⟩|⟨rfl,M,rfl,hX⟩
 ·obtain⟨c,rfl⟩:∃n:Nat,c=n:=⟨c.toNat,by omega⟩
  go_enter Tryz.func194,Tryz.ntmps194;go_wp2_with fail;have g1:=Ch.alloc [] w (.cells #[.int .i64 0,.int .u8 c,.int .u64 (q 0),.int .u64 (q 1),.int .u64 (q 2),.int .u64 (q 3),.slice ga gn gc,.int .i64 rp] 256)
  have z1:(w.alloc (.cells #[.int .i64 0,.int .u8 c,.int .u64 (q 0),.int .u64 (q 1),.int .u64 (q 2),.int .u64 (q 3),.slice ga gn gc,.int .i64 rp] 256)).heap.size=w.heap.size+1:=by simp
  have bB:zE ((w.alloc (.cells #[.int .i64 0,.int .u8 c,.int .u64 (q 0),.int .u64 (q 1),.int .u64 (q 2),.int .u64 (q 3),.slice ga gn gc,.int .i64 rp] 256)).alloc (.cells #[.bool false,.int .u64 0,.int .u64 0,.int .u64 0,.int .u64 0,.int .u64 0,.int .u64 0,.int .u64 0,.int .u64 0] 163)) (w.heap.size+1) (zM false (fun _=>0) (fun _=>0)) 163:=by
   have:=zE.new (w.alloc (.cells #[.int .i64 0,.int .u8 c,.int .u64 (q 0),.int .u64 (q 1),.int .u64 (q 2),.int .u64 (q 3),.slice ga gn gc,.int .i64 rp] 256)) (zM false (fun _=>0) (fun _=>0)) 163;rw[z1]at this;exact this
  have g2:=g1.trans (Ch.alloc [] _ (.cells #[.bool false,.int .u64 0,.int .u64 0,.int .u64 0,.int .u64 0,.int .u64 0,.int .u64 0,.int .u64 0,.int .u64 0] 163))
  have z2:((w.alloc (.cells #[.int .i64 0,.int .u8 c,.int .u64 (q 0),.int .u64 (q 1),.int .u64 (q 2),.int .u64 (q 3),.slice ga gn gc,.int .i64 rp] 256)).alloc (.cells #[.bool false,.int .u64 0,.int .u64 0,.int .u64 0,.int .u64 0,.int .u64 0,.int .u64 0,.int .u64 0,.int .u64 0] 163)).heap.size=w.heap.size+1+1:=by simp
  have bC:=zE.new ((w.alloc (.cells #[.int .i64 0,.int .u8 c,.int .u64 (q 0),.int .u64 (q 1),.int .u64 (q 2),.int .u64 (q 3),.slice ga gn gc,.int .i64 rp] 256)).alloc (.cells #[.bool false,.int .u64 0,.int .u64 0,.int .u64 0,.int .u64 0,.int .u64 0,.int .u64 0,.int .u64 0,.int .u64 0] 163)) #[.int .u8 c] 5;have g3:=g2.trans (Ch.alloc [] _ (.cells #[.int .u8 c] 5));have bB3:=bB.kp (Ch.alloc [] ((w.alloc (.cells #[.int .i64 0,.int .u8 c,.int .u64 (q 0),.int .u64 (q 1),.int .u64 (q 2),.int .u64 (q 3),.slice ga gn gc,.int .i64 rp] 256)).alloc (.cells #[.bool false,.int .u64 0,.int .u64 0,.int .u64 0,.int .u64 0,.int .u64 0,.int .u64 0,.int .u64 0,.int .u64 0] 163)) (.cells #[.int .u8 c] 5)) (by simp)
  have z3:(((w.alloc (.cells #[.int .i64 0,.int .u8 c,.int .u64 (q 0),.int .u64 (q 1),.int .u64 (q 2),.int .u64 (q 3),.slice ga gn gc,.int .i64 rp] 256)).alloc (.cells #[.bool false,.int .u64 0,.int .u64 0,.int .u64 0,.int .u64 0,.int .u64 0,.int .u64 0,.int .u64 0,.int .u64 0] 163)).alloc (.cells #[.int .u8 c] 5)).heap.size=w.heap.size+3:=by simp
  rw[z2]at bC;clear z1 z2 bB g1 g2;generalize ((w.alloc (.cells #[.int .i64 0,.int .u8 c,.int .u64 (q 0),.int .u64 (q 1),.int .u64 (q 2),.int .u64 (q 3),.slice ga gn gc,.int .i64 rp] 256)).alloc (.cells #[.bool false,.int .u64 0,.int .u64 0,.int .u64 0,.int .u64 0,.int .u64 0,.int .u64 0,.int .u64 0,.int .u64 0] 163)).alloc (.cells #[.int .u8 c] 5)=W at *;generalize hK:w.heap.size=KK at *;refine(LU bC (by omega)).mono ?_;rintro r w3 ⟨qc,rfl,hqc,h3⟩;have W3:=g3.trans h3;have bB4:=bB3.kp h3 (by simp);go_wp2_with fail;refine(ML (H.kp W3 (by simp) (by simp)) (by omega) hqc).mono ?_;rintro r w4 hp
  have hpost:=hp.add (Lc:=[(c,c)]) hf (fun j _=>by
   simp only[zo,List.any_cons,List.any_nil,Bool.or_false]
   rw[Bool.eq_iff_iff];simp;omega)
  clear hp;subst hK;obtain⟨e,qf,ql,rfl,nB,hfin,nX⟩:=Uc (w:=w) W3 hPl hgl bB4 (by omega) hpost;obtain⟨c0,c1,c2,c3,c4,c5,c6,c7,c8,cf⟩:=nB.c9;rw[show yD e qf ql= .agg #[.bool e,.int .u64 (qf 0),.int .u64 (qf 1),.int .u64 (qf 2),.int .u64 (qf 3),.int .u64 (ql 0),.int .u64 (ql 1),.int .u64 (ql 2),.int .u64 (ql 3)]from rfl];have HF:=zC hfin;clear hfin;go_wp2_with fail;clear c0 c1 c2 c3 c4 c5 c6 c7 c8 cf
  show bodyPost _ _ _ _ _ (lay9 w4 (w.heap.size+1) e qf ql)
  have HF':=HF.o;generalize lay9 w4 (w.heap.size+1) e qf ql=X at *;obtain⟨y0,y1,y2,y3,y4,y5,y6,y7,y8,yf⟩:=nX.c9;exact bodyPost_ret (v:=yD e qf ql) (by simp[results,Tryz.results194,go_sem,yD,zM,y0,y1,y2,y3,y4,y5,y6,y7,y8]) rfl HF'
 ·go_enter Tryz.func194,Tryz.ntmps194
  go_wp2_with fail;have g1:=Ch.alloc [] w (.cells #[.int .i64 1,.int .u8 c,.int .u64 (q 0),.int .u64 (q 1),.int .u64 (q 2),.int .u64 (q 3),.slice ga gn gc,.int .i64 rp] 256)
  have z1:(w.alloc (.cells #[.int .i64 1,.int .u8 c,.int .u64 (q 0),.int .u64 (q 1),.int .u64 (q 2),.int .u64 (q 3),.slice ga gn gc,.int .i64 rp] 256)).heap.size=w.heap.size+1:=by simp
  have bB:zE ((w.alloc (.cells #[.int .i64 1,.int .u8 c,.int .u64 (q 0),.int .u64 (q 1),.int .u64 (q 2),.int .u64 (q 3),.slice ga gn gc,.int .i64 rp] 256)).alloc (.cells #[.bool false,.int .u64 0,.int .u64 0,.int .u64 0,.int .u64 0,.int .u64 0,.int .u64 0,.int .u64 0,.int .u64 0] 163)) (w.heap.size+1) (zM false (fun _=>0) (fun _=>0)) 163:=by
   have:=zE.new (w.alloc (.cells #[.int .i64 1,.int .u8 c,.int .u64 (q 0),.int .u64 (q 1),.int .u64 (q 2),.int .u64 (q 3),.slice ga gn gc,.int .i64 rp] 256)) (zM false (fun _=>0) (fun _=>0)) 163;rw[z1]at this;exact this
  have g2:=g1.trans (Ch.alloc [] _ (.cells #[.bool false,.int .u64 0,.int .u64 0,.int .u64 0,.int .u64 0,.int .u64 0,.int .u64 0,.int .u64 0,.int .u64 0] 163))
  have z2:((w.alloc (.cells #[.int .i64 1,.int .u8 c,.int .u64 (q 0),.int .u64 (q 1),.int .u64 (q 2),.int .u64 (q 3),.slice ga gn gc,.int .i64 rp] 256)).alloc (.cells #[.bool false,.int .u64 0,.int .u64 0,.int .u64 0,.int .u64 0,.int .u64 0,.int .u64 0,.int .u64 0,.int .u64 0] 163)).heap.size=w.heap.size+1+1:=by simp
  clear z1 g1;generalize (w.alloc (.cells #[.int .i64 1,.int .u8 c,.int .u64 (q 0),.int .u64 (q 1),.int .u64 (q 2),.int .u64 (q 3),.slice ga gn gc,.int .i64 rp] 256)).alloc (.cells #[.bool false,.int .u64 0,.int .u64 0,.int .u64 0,.int .u64 0,.int .u64 0,.int .u64 0,.int .u64 0,.int .u64 0] 163)=W at *;generalize hK:w.heap.size=KK at *;refine(Vw 0 255 (by omega) (by omega)).mono ?_;rintro r w3 ⟨qc,rfl,hqc,h3⟩;have W3:=g2.trans h3;have bB4:=bB.kp h3 (by simp);go_wp2_with fail;refine(ML (H.kp W3 (by simp) (by simp)) (by omega) hqc).mono ?_;rintro r w4 hp
  have hpost:=hp.add (Lc:=[(0,255)]) hf (fun j hj=>by
   simp only[zo,List.any_cons,List.any_nil,Bool.or_false]
   rw[Bool.eq_iff_iff];simp;omega)
  clear hp;subst hK;obtain⟨e,qf,ql,rfl,nB,hfin,nX⟩:=Uc (w:=w) W3 hPl hgl bB4 (by omega) hpost;obtain⟨c0,c1,c2,c3,c4,c5,c6,c7,c8,cf⟩:=nB.c9;rw[show yD e qf ql= .agg #[.bool e,.int .u64 (qf 0),.int .u64 (qf 1),.int .u64 (qf 2),.int .u64 (qf 3),.int .u64 (ql 0),.int .u64 (ql 1),.int .u64 (ql 2),.int .u64 (ql 3)]from rfl];have HF:=zC hfin;clear hfin;go_wp2_with fail;clear c0 c1 c2 c3 c4 c5 c6 c7 c8 cf
  show bodyPost _ _ _ _ _ (lay9 w4 (w.heap.size+1) e qf ql)
  have HF':=HF.o;generalize lay9 w4 (w.heap.size+1) e qf ql=X at *;obtain⟨y0,y1,y2,y3,y4,y5,y6,y7,y8,yf⟩:=nX.c9;exact bodyPost_ret (v:=yD e qf ql) (by simp[results,Tryz.results194,go_sem,yD,zM,y0,y1,y2,y3,y4,y5,y6,y7,y8]) rfl HF'
 ·go_enter Tryz.func194,Tryz.ntmps194
  go_wp2_with fail;have g1:=Ch.alloc [] w (.cells #[.int .i64 2,.int .u8 c,.int .u64 (q 0),.int .u64 (q 1),.int .u64 (q 2),.int .u64 (q 3),.slice ga gn gc,.int .i64 rp] 256)
  have z1:(w.alloc (.cells #[.int .i64 2,.int .u8 c,.int .u64 (q 0),.int .u64 (q 1),.int .u64 (q 2),.int .u64 (q 3),.slice ga gn gc,.int .i64 rp] 256)).heap.size=w.heap.size+1:=by simp
  have bB:zE ((w.alloc (.cells #[.int .i64 2,.int .u8 c,.int .u64 (q 0),.int .u64 (q 1),.int .u64 (q 2),.int .u64 (q 3),.slice ga gn gc,.int .i64 rp] 256)).alloc (.cells #[.bool false,.int .u64 0,.int .u64 0,.int .u64 0,.int .u64 0,.int .u64 0,.int .u64 0,.int .u64 0,.int .u64 0] 163)) (w.heap.size+1) (zM false (fun _=>0) (fun _=>0)) 163:=by
   have:=zE.new (w.alloc (.cells #[.int .i64 2,.int .u8 c,.int .u64 (q 0),.int .u64 (q 1),.int .u64 (q 2),.int .u64 (q 3),.slice ga gn gc,.int .i64 rp] 256)) (zM false (fun _=>0) (fun _=>0)) 163;rw[z1]at this;exact this
  have g2:=g1.trans (Ch.alloc [] _ (.cells #[.bool false,.int .u64 0,.int .u64 0,.int .u64 0,.int .u64 0,.int .u64 0,.int .u64 0,.int .u64 0,.int .u64 0] 163))
  have z2:((w.alloc (.cells #[.int .i64 2,.int .u8 c,.int .u64 (q 0),.int .u64 (q 1),.int .u64 (q 2),.int .u64 (q 3),.slice ga gn gc,.int .i64 rp] 256)).alloc (.cells #[.bool false,.int .u64 0,.int .u64 0,.int .u64 0,.int .u64 0,.int .u64 0,.int .u64 0,.int .u64 0,.int .u64 0] 163)).heap.size=w.heap.size+1+1:=by simp
  clear z1 g1;generalize (w.alloc (.cells #[.int .i64 2,.int .u8 c,.int .u64 (q 0),.int .u64 (q 1),.int .u64 (q 2),.int .u64 (q 3),.slice ga gn gc,.int .i64 rp] 256)).alloc (.cells #[.bool false,.int .u64 0,.int .u64 0,.int .u64 0,.int .u64 0,.int .u64 0,.int .u64 0,.int .u64 0,.int .u64 0] 163)=W at *;generalize hK:w.heap.size=KK at *;refine(ML (H.kp g2 (by simp) (by simp)) (by omega) hq).mono ?_;rintro r w4 hp;have hpost:=hp.add (Lc:=Lc) hf (fun j _=>rfl);clear hp;subst hK;obtain⟨e,qf,ql,rfl,nB,hfin,nX⟩:=Uc (w:=w) g2 hPl hgl bB (by omega) hpost;obtain⟨c0,c1,c2,c3,c4,c5,c6,c7,c8,cf⟩:=nB.c9;rw[show yD e qf ql= .agg #[.bool e,.int .u64 (qf 0),.int .u64 (qf 1),.int .u64 (qf 2),.int .u64 (qf 3),.int .u64 (ql 0),.int .u64 (ql 1),.int .u64 (ql 2),.int .u64 (ql 3)]from rfl];have HF:=zC hfin;clear hfin;go_wp2_with fail;clear c0 c1 c2 c3 c4 c5 c6 c7 c8 cf
  show bodyPost _ _ _ _ _ (lay9 w4 (w.heap.size+1) e qf ql)
  have HF':=HF.o;generalize lay9 w4 (w.heap.size+1) e qf ql=X at *;obtain⟨y0,y1,y2,y3,y4,y5,y6,y7,y8,yf⟩:=nX.c9;exact bodyPost_ret (v:=yD e qf ql) (by simp[results,Tryz.results194,go_sem,yD,zM,y0,y1,y2,y3,y4,y5,y6,y7,y8]) rfl HF'
 ·have HX:=zC hX
  have HE:=zC hE;clear hX hE;go_enter Tryz.func194,Tryz.ntmps194;go_wp2_with fail;have g1:=Ch.alloc [] w (.cells #[.int .i64 3,.int .u8 c,.int .u64 (q 0),.int .u64 (q 1),.int .u64 (q 2),.int .u64 (q 3),.slice ga gn gc,.int .i64 rp] 256)
  have z1:(w.alloc (.cells #[.int .i64 3,.int .u8 c,.int .u64 (q 0),.int .u64 (q 1),.int .u64 (q 2),.int .u64 (q 3),.slice ga gn gc,.int .i64 rp] 256)).heap.size=w.heap.size+1:=by simp
  have bB:zE ((w.alloc (.cells #[.int .i64 3,.int .u8 c,.int .u64 (q 0),.int .u64 (q 1),.int .u64 (q 2),.int .u64 (q 3),.slice ga gn gc,.int .i64 rp] 256)).alloc (.cells #[.bool false,.int .u64 0,.int .u64 0,.int .u64 0,.int .u64 0,.int .u64 0,.int .u64 0,.int .u64 0,.int .u64 0] 163)) (w.heap.size+1) (zM false (fun _=>0) (fun _=>0)) 163:=by
   have:=zE.new (w.alloc (.cells #[.int .i64 3,.int .u8 c,.int .u64 (q 0),.int .u64 (q 1),.int .u64 (q 2),.int .u64 (q 3),.slice ga gn gc,.int .i64 rp] 256)) (zM false (fun _=>0) (fun _=>0)) 163;rw[z1]at this;exact this
  have g2:=g1.trans (Ch.alloc [] _ (.cells #[.bool false,.int .u64 0,.int .u64 0,.int .u64 0,.int .u64 0,.int .u64 0,.int .u64 0,.int .u64 0,.int .u64 0] 163))
  have z2:((w.alloc (.cells #[.int .i64 3,.int .u8 c,.int .u64 (q 0),.int .u64 (q 1),.int .u64 (q 2),.int .u64 (q 3),.slice ga gn gc,.int .i64 rp] 256)).alloc (.cells #[.bool false,.int .u64 0,.int .u64 0,.int .u64 0,.int .u64 0,.int .u64 0,.int .u64 0,.int .u64 0,.int .u64 0] 163)).heap.size=w.heap.size+1+1:=by simp
  clear z1 g1;generalize (w.alloc (.cells #[.int .i64 3,.int .u8 c,.int .u64 (q 0),.int .u64 (q 1),.int .u64 (q 2),.int .u64 (q 3),.slice ga gn gc,.int .i64 rp] 256)).alloc (.cells #[.bool false,.int .u64 0,.int .u64 0,.int .u64 0,.int .u64 0,.int .u64 0,.int .u64 0,.int .u64 0,.int .u64 0] 163)=W at *;have hx:=yC.frame (w':=W) (G:=F) (fun k hk=>g2.block k (hF k hk).1 (by simp)) (fun _ h=>h) _ _ _ _ HX.o;refine(HE.o W F P g m nx hv _ A M hx ⟨_,_,_,rfl⟩ (fun k hk=>by have:=hF k hk;have:=g2.size;omega) (H.kp g2 (by simp) (by simp)) hf (by omega)).mono ?_;rintro r w4 hp
  have hpost:Yk W P g m nx hv (M+1) A r w4:=by
   obtain⟨v,g',pc,m',nx',hv',e,a,ch,hg,hp,h5,h6,rest⟩:=hp;exact⟨v,g',pc,m',nx',hv',e,a,ch,hg,hp,h5,by omega,rest⟩
  clear hp;obtain⟨e,qf,ql,rfl,nB,hfin,nX⟩:=Uc (w:=w) g2 hPl hgl bB (by omega) hpost;obtain⟨c0,c1,c2,c3,c4,c5,c6,c7,c8,cf⟩:=nB.c9;rw[show yD e qf ql= .agg #[.bool e,.int .u64 (qf 0),.int .u64 (qf 1),.int .u64 (qf 2),.int .u64 (qf 3),.int .u64 (ql 0),.int .u64 (ql 1),.int .u64 (ql 2),.int .u64 (ql 3)]from rfl];have HF:=zC hfin;clear hfin;go_wp2_with fail;clear c0 c1 c2 c3 c4 c5 c6 c7 c8 cf
  show bodyPost _ _ _ _ _ (lay9 w4 (w.heap.size+1) e qf ql)
  have HF':=HF.o;generalize lay9 w4 (w.heap.size+1) e qf ql=X at *;obtain⟨y0,y1,y2,y3,y4,y5,y6,y7,y8,yf⟩:=nX.c9;exact bodyPost_ret (v:=yD e qf ql) (by simp[results,Tryz.results194,go_sem,yD,zM,y0,y1,y2,y3,y4,y5,y6,y7,y8]) rfl HF'
theorem Ch.more{X Y:List Nat}{w1 w2 w3:World}(g:Ch X w1 w2)(k:Ch Y w2 w3)(h:∀y,y∈Y->y∈X\/w1.heap.size<=y):Ch X w1 w3:=
 ⟨k.os.trans g.os,k.tape.trans g.tape,k.output.trans g.output,Nat.le_trans g.size k.size,fun i hi hx=>by
  rw[k.block i (by have:=g.size;omega) (fun hy=>by rcases h i hy with e|e;exact hx e;omega),g.block i hi hx]⟩
theorem Rl{h:Nat}(hE:VN h){w:World}{F:Nat->Prop}{P g m:Nat}{nx hv:Nat->Nat->Bool}{K c rp:Int}{q:Nat->Nat}{ga:Option Addr}{gn gc N:Nat}{A:zF}(hF:FOk w F P g)(H:JQ w P g m nx hv)(hf:Qc hv m)(hN:m+N<=256)(hr0:0<=rp)(hr3:rp<=3)
 (hk:(K=0/\N=1/\0<=c/\c<=255/\A=zF.cls [(c,c)])\/(K=1/\N=1/\A=zF.cls [(0,255)])\/(K=2/\N=1/\∃Lc,zU q (zo Lc)/\A=zF.cls Lc)\/(K=3/\∃M,N=M+1/\yC w F h (.slice ga gn gc) A M)):
 Calls Tryz.prog 148 #[.pointer (some ⟨P,0,none⟩),.agg #[.int .i64 K,.int .u8 c,.int .u64 (q 0),.int .u64 (q 1),.int .u64 (q 2),.int .u64 (q 3),.slice ga gn gc,.int .i64 rp]] w (Yk w P g m nx hv N (YX rp A)):=by
 obtain⟨hPl,hgl,hgP,_⟩:=H.lt;have HK:=zC hk;have HE:=zC hE;clear hk hE;go_enter Tryz.func148,Tryz.ntmps148;go_wp2_with fail;have g1:=Ch.alloc [] w (.cells #[.int .i64 K,.int .u8 c,.int .u64 (q 0),.int .u64 (q 1),.int .u64 (q 2),.int .u64 (q 3),.slice ga gn gc,.int .i64 rp] 256)
 have z1:(w.alloc (.cells #[.int .i64 K,.int .u8 c,.int .u64 (q 0),.int .u64 (q 1),.int .u64 (q 2),.int .u64 (q 3),.slice ga gn gc,.int .i64 rp] 256)).heap.size=w.heap.size+1:=by simp
 have bA:zE ((w.alloc (.cells #[.int .i64 K,.int .u8 c,.int .u64 (q 0),.int .u64 (q 1),.int .u64 (q 2),.int .u64 (q 3),.slice ga gn gc,.int .i64 rp] 256)).alloc (.cells #[.bool false,.int .u64 0,.int .u64 0,.int .u64 0,.int .u64 0,.int .u64 0,.int .u64 0,.int .u64 0,.int .u64 0] 163)) w.heap.size #[.int .i64 K,.int .u8 c,.int .u64 (q 0),.int .u64 (q 1),.int .u64 (q 2),.int .u64 (q 3),.slice ga gn gc,.int .i64 rp] 256:=(zE.new w _ _).kp (Ch.alloc [] _ _) (by simp)
 have bB:zE ((w.alloc (.cells #[.int .i64 K,.int .u8 c,.int .u64 (q 0),.int .u64 (q 1),.int .u64 (q 2),.int .u64 (q 3),.slice ga gn gc,.int .i64 rp] 256)).alloc (.cells #[.bool false,.int .u64 0,.int .u64 0,.int .u64 0,.int .u64 0,.int .u64 0,.int .u64 0,.int .u64 0,.int .u64 0] 163)) (w.heap.size+1) (zM false (fun _=>0) (fun _=>0)) 163:=by
  have:=zE.new (w.alloc (.cells #[.int .i64 K,.int .u8 c,.int .u64 (q 0),.int .u64 (q 1),.int .u64 (q 2),.int .u64 (q 3),.slice ga gn gc,.int .i64 rp] 256)) (zM false (fun _=>0) (fun _=>0)) 163;rw[z1]at this;exact this
 have g2:=g1.trans (Ch.alloc [] _ (.cells #[.bool false,.int .u64 0,.int .u64 0,.int .u64 0,.int .u64 0,.int .u64 0,.int .u64 0,.int .u64 0,.int .u64 0] 163))
 have z2:((w.alloc (.cells #[.int .i64 K,.int .u8 c,.int .u64 (q 0),.int .u64 (q 1),.int .u64 (q 2),.int .u64 (q 3),.slice ga gn gc,.int .i64 rp] 256)).alloc (.cells #[.bool false,.int .u64 0,.int .u64 0,.int .u64 0,.int .u64 0,.int .u64 0,.int .u64 0,.int .u64 0,.int .u64 0] 163)).heap.size=w.heap.size+1+1:=by simp
 clear z1 g1;generalize (w.alloc (.cells #[.int .i64 K,.int .u8 c,.int .u64 (q 0),.int .u64 (q 1),.int .u64 (q 2),.int .u64 (q 3),.slice ga gn gc,.int .i64 rp] 256)).alloc (.cells #[.bool false,.int .u64 0,.int .u64 0,.int .u64 0,.int .u64 0,.int .u64 0,.int .u64 0,.int .u64 0,.int .u64 0] 163)=W at *
 have hk2:(K=0/\N=1/\0<=c/\c<=255/\A=zF.cls [(c,c)])\/(K=1/\N=1/\A=zF.cls [(0,255)])\/(K=2/\N=1/\∃Lc,zU q (zo Lc)/\A=zF.cls Lc)\/(K=3/\∃M,N=M+1/\yC W F h (.slice ga gn gc) A M):=by
  rcases HK.o with hk|hk|hk|⟨hk,M,hM,hX⟩
  ·exact Or.inl hk
  ·exact Or.inr (Or.inl hk)
  ·exact Or.inr (Or.inr (Or.inl hk))
  ·exact Or.inr (Or.inr (Or.inr ⟨hk,M,hM,yC.frame (fun k hk=>g2.block k (hF k hk).1 (by simp)) (fun _ h=>h) _ _ _ _ hX⟩))
 refine(CD HE.o (F:=F) (fun k hk=>by have:=hF k hk;have:=g2.size;omega) (H.kp g2 (by simp) (by simp)) hf hN hk2).mono ?_;rintro r w3 ⟨v,g',pc,m',nx',hv',rfl,⟨qf,ql,rfl,hqf,hql⟩,ch,hg',hp,hm1,hm2,hpo,hnx,hhv,hfr⟩;clear hk2 HK HE;have zg2:=g2.size;have nA:=bA.kp ch (by simp;omega);have nB:=bB.kp ch (by simp;omega);have zc:=ch.size;obtain⟨hP3,hg3,hgP3,_⟩:=hp.lt;generalize hpe:pc.e=e at *;rw[show yD e qf ql= .agg #[.bool e,.int .u64 (qf 0),.int .u64 (qf 1),.int .u64 (qf 2),.int .u64 (qf 3),.int .u64 (ql 0),.int .u64 (ql 1),.int .u64 (ql 2),.int .u64 (ql 3)]from rfl];have HPE:=zC hpe;clear hpe;have gW:Ch [P,g] w w3:=(g2.mono (by simp)).trans ch
 have lNo:∀p,p<m->pc.l p=false:=fun p hpm=>by
  cases el:pc.l p with
  |false=>rfl
  |true=>have:=hpo.lr p el;omega
 have a7:=nA.cl 7 _ rfl
 have kl0:w.heap.size<w3.heap.size:=by omega
 have kl1:w.heap.size+1<w3.heap.size:=by omega
 obtain⟨c0,c1,c2,c3,c4,c5,c6,c7,c8,cf⟩:=nB.c9;generalize hK:w.heap.size=KK at *
 have FIN:∀(e':Bool) (nx2:Nat->Nat->Bool) (X:World),JQ X P g' m' nx2 hv'->Ch [P,g] w X->(∀p q,p<m->nx2 p q=nx' p q)->ji nx2 hv' m m' {pc with e:=e'} (YX rp A)->Yk w P g m nx hv N (YX rp A) (.returned (yD e' qf ql)) X:=by
  intro e' nx2 X hX cX h1 h2;exact⟨_,g',{pc with e:=e'},m',nx2,hv',rfl,⟨qf,ql,rfl,hqf,hql⟩,cX,by omega,hX,hm1,hm2,h2,fun p q hpm=>(h1 p q hpm).trans (hnx p q hpm),hhv,hfr⟩
 have HFIN:=zC FIN;clear FIN
 obtain rfl|rfl|rfl|rfl:rp=0\/rp=1\/rp=2\/rp=3:=by omega
 ·go_wp2_with fail
  obtain⟨n1,k1⟩:=nB.lay9 (e':=e) (f':=qf) (l':=ql);have k2:=Ch.alloc [] (lay9 w3 (KK+1) e qf ql) (.cells (zM e qf ql) 163);have n2:=n1.kp k2 (by simp);have kk:Ch [KK+1] w3 _:=k1.trans (k2.mono (by simp))
  show bodyPost _ _ _ _ _ ((lay9 w3 (KK+1) e qf ql).alloc (.cells (zM e qf ql) 163))
  clear c0 c1 c2 c3 c4 c5 c6 c7 c8 cf a7;generalize (lay9 w3 (KK+1) e qf ql).alloc (.cells (zM e qf ql) 163)=X at *;obtain⟨y0,y1,y2,y3,y4,y5,y6,y7,y8,yf⟩:=n2.c9;refine bodyPost_ret (v:=yD e qf ql) (by simp[results,Tryz.results148,go_sem,yD,zM,y0,y1,y2,y3,y4,y5,y6,y7,y8]) rfl ?_;exact HFIN.o e nx' X (hp.kp kk (by simp;omega) (by simp;omega)) (gW.more kk (by simp;omega)) (fun _ _ _=>rfl) (by rw[<- HPE.o];exact hpo)
 ·go_wp2_with fail
  have kD:=Ch.alloc [] w3 (.cells (zM e qf ql) 163);have nD:=zE.new w3 (zM e qf ql) 163;have mA:=nA.kp kD (by simp);have mB:=nB.kp kD (by simp);have mP:=hp.kp kD (by simp) (by simp);rw[show w3.alloc (.cells #[.bool e,.int .u64 (qf 0),.int .u64 (qf 1),.int .u64 (qf 2),.int .u64 (qf 3),.int .u64 (ql 0),.int .u64 (ql 1),.int .u64 (ql 2),.int .u64 (ql 3)] 163)=w3.alloc (.cells (zM e qf ql) 163)from rfl]
  have zD:(w3.alloc (.cells (zM e qf ql) 163)).heap.size=w3.heap.size+1:=by simp
  clear c0 c1 c2 c3 c4 c5 c6 c7 c8 cf a7;generalize w3.alloc (.cells (zM e qf ql) 163)=w4 at *;generalize hD:w3.heap.size=D at *;refine(Kj mP hql hqf).mono ?_;rintro r w5 ⟨rfl,h5,hp5⟩;have A5:=mA.kp h5 (by simp;omega);have B5:=mB.kp h5 (by simp;omega);have D5:=nD.kp h5 (by simp;omega);have z5:=h5.size;have a7:=A5.cl 7 _ rfl;obtain⟨c0,c1,c2,c3,c4,c5,c6,c7,c8,cf⟩:=B5.c9;obtain⟨d0,d1,d2,d3,d4,d5,d6,d7,d8,df⟩:=D5.c9;have g35:Ch [P,g] w w5:=(gW.more kD (by simp)).more h5 (by simp;omega);have pl:ji (yl nx' pc.l pc.f) hv' m m' {pc with e:=true} (YX 1 A):=Ow hpo
  have pn:∀p q,p<m->yl nx' pc.l pc.f p q=nx' p q:=fun p q hpm=>by simp[yl,lNo p hpm]
  have HPL:=zC pl;have HPN:=zC pn;clear pl pn;go_wp2_with fail;have hs:Ch [D] w5 (w5.setCell ⟨D,0,none⟩ (.bool true)):=Ch.setCell _ (by simp) _;have B6:=B5.kp hs (by simp;omega);obtain⟨n1,k1⟩:=B6.lay9 (e':=true) (f':=qf) (l':=ql)
  show bodyPost _ _ _ _ _ (lay9 (w5.setCell ⟨D,0,none⟩ (.bool true)) (KK+1) true qf ql)
  clear c0 c1 c2 c3 c4 c5 c6 c7 c8 cf d0 d1 d2 d3 d4 d5 d6 d7 d8 df a7
  have z6:(w5.setCell ⟨D,0,none⟩ (.bool true)).heap.size=w5.heap.size:=by simp[World.setCell]
  generalize w5.setCell ⟨D,0,none⟩ (.bool true)=w6 at *;have hp6:=hp5.kp hs (by simp;omega) (by simp;omega);have g36:=g35.more hs (by simp;omega);generalize lay9 w6 (KK+1) true qf ql=X at *;obtain⟨y0,y1,y2,y3,y4,y5,y6,y7,y8,yf⟩:=n1.c9;refine bodyPost_ret (v:=yD true qf ql) (by simp[results,Tryz.results148,go_sem,yD,zM,y0,y1,y2,y3,y4,y5,y6,y7,y8]) rfl ?_;exact HFIN.o true _ X (hp6.kp k1 (by simp;omega) (by simp;omega)) (g36.more k1 (by simp;omega)) HPN.o HPL.o
 ·go_wp2_with fail
  have kD:=Ch.alloc [] w3 (.cells (zM e qf ql) 163);have nD:=zE.new w3 (zM e qf ql) 163;have mA:=nA.kp kD (by simp);have mB:=nB.kp kD (by simp);have mP:=hp.kp kD (by simp) (by simp);rw[show w3.alloc (.cells #[.bool e,.int .u64 (qf 0),.int .u64 (qf 1),.int .u64 (qf 2),.int .u64 (qf 3),.int .u64 (ql 0),.int .u64 (ql 1),.int .u64 (ql 2),.int .u64 (ql 3)] 163)=w3.alloc (.cells (zM e qf ql) 163)from rfl]
  have zD:(w3.alloc (.cells (zM e qf ql) 163)).heap.size=w3.heap.size+1:=by simp
  clear c0 c1 c2 c3 c4 c5 c6 c7 c8 cf a7;generalize w3.alloc (.cells (zM e qf ql) 163)=w4 at *;generalize hD:w3.heap.size=D at *;refine(Kj mP hql hqf).mono ?_;rintro r w5 ⟨rfl,h5,hp5⟩;have A5:=mA.kp h5 (by simp;omega);have B5:=mB.kp h5 (by simp;omega);have D5:=nD.kp h5 (by simp;omega);have z5:=h5.size;have a7:=A5.cl 7 _ rfl;obtain⟨c0,c1,c2,c3,c4,c5,c6,c7,c8,cf⟩:=B5.c9;obtain⟨d0,d1,d2,d3,d4,d5,d6,d7,d8,df⟩:=D5.c9;have g35:Ch [P,g] w w5:=(gW.more kD (by simp)).more h5 (by simp;omega);have pl:ji (yl nx' pc.l pc.f) hv' m m' {pc with e:=e} (YX 2 A):=(by rw[<- HPE.o];exact EB hpo)
  have pn:∀p q,p<m->yl nx' pc.l pc.f p q=nx' p q:=fun p q hpm=>by simp[yl,lNo p hpm]
  have HPL:=zC pl;have HPN:=zC pn;clear pl pn;go_wp2_with fail;obtain⟨n1,k1⟩:=B5.lay9 (e':=e) (f':=qf) (l':=ql)
  show bodyPost _ _ _ _ _ (lay9 w5 (KK+1) e qf ql)
  clear c0 c1 c2 c3 c4 c5 c6 c7 c8 cf d0 d1 d2 d3 d4 d5 d6 d7 d8 df a7;have hp6:=hp5;have g36:=g35;generalize lay9 w5 (KK+1) e qf ql=X at *;obtain⟨y0,y1,y2,y3,y4,y5,y6,y7,y8,yf⟩:=n1.c9;refine bodyPost_ret (v:=yD e qf ql) (by simp[results,Tryz.results148,go_sem,yD,zM,y0,y1,y2,y3,y4,y5,y6,y7,y8]) rfl ?_;exact HFIN.o e _ X (hp6.kp k1 (by simp;omega) (by simp;omega)) (g36.more k1 (by simp;omega)) HPN.o HPL.o
 ·go_wp2_with fail
  obtain⟨n1,k1⟩:=nB.lay9 (e':=true) (f':=qf) (l':=ql);have k2:=Ch.alloc [] (lay9 w3 (KK+1) true qf ql) (.cells (zM true qf ql) 163);have n2:=n1.kp k2 (by simp);have kk:Ch [KK+1] w3 _:=k1.trans (k2.mono (by simp))
  show bodyPost _ _ _ _ _ ((lay9 w3 (KK+1) true qf ql).alloc (.cells (zM true qf ql) 163))
  clear c0 c1 c2 c3 c4 c5 c6 c7 c8 cf a7;generalize (lay9 w3 (KK+1) true qf ql).alloc (.cells (zM true qf ql) 163)=X at *;obtain⟨y0,y1,y2,y3,y4,y5,y6,y7,y8,yf⟩:=n2.c9;refine bodyPost_ret (v:=yD true qf ql) (by simp[results,Tryz.results148,go_sem,yD,zM,y0,y1,y2,y3,y4,y5,y6,y7,y8]) rfl ?_;exact HFIN.o true nx' X (hp.kp kk (by simp;omega) (by simp;omega)) (gW.more kk (by simp;omega)) (fun _ _ _=>rfl) (Fp hpo)
end Go.Proofs.YteobgfbgglfkbaaGreat
