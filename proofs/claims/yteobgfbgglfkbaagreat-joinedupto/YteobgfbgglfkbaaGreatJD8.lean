import Derived.Test.YteobgfbgglfkbaaGreatJD7
import Derived.Deep.DeepCutAuto
set_option maxHeartbeats 6400000
set_option maxRecDepth 100000
namespace Go.Proofs.YteobgfbgglfkbaaGreat
open Go.RowKit
attribute [local go_sem ↓] Go.wp_at_zero Go.wp_at_succ
theorem RU{w:World}{ops:Array Oper}{rest:List Oper}{o:Oper}{a:Act}{Q:Exit->Act->World->Prop}(l c:Operand)
 (hg:o.guard=none) (hop:o.op=Op.makeSlice 152 l c) (hl:a.eval l= .int .i64 1) (hc:a.eval c= .int .i64 1)
 (hK:∀w',w'.ownsRow 0 156 4 (.slice (some ⟨w.heap.size,0,none⟩) 1 1) 1 (ya (fun _ _=>0) 1)->Ch [] w w'->w'.heap.size=w.heap.size+1->wpList Tryz.prog ops Q rest (a.put o.dst (.slice (some ⟨w.heap.size,0,none⟩) 1 1)) w'):
 wpList Tryz.prog ops Q (o:: rest) a w:=by
 refine wpList_plain hg fun K hK'=> ?_
 obtain⟨i,hi,hz0,hz1,hz2⟩:=info_parts LW;have hrun:=run_make (P:=Tryz.prog) w 152 156 i (.agg #[.int .u64 0,.int .u64 0,.int .u64 0,.int .u64 0]) Tryz.underlying152 hi hz0 .i64 .i64 1 1 (by omega) (by omega) (by rw[hz2];decide) (by decide);rw[hz1,show Int.toNat 1 * 4=4 from rfl,show madeCells (Value.agg #[.int .u64 0,.int .u64 0,.int .u64 0,.int .u64 0]).cells 4= #[.int .u64 0,.int .u64 0,.int .u64 0,.int .u64 0]from by kernel_rfl]at hrun;unfold Oper.wp;simp[execOp,hop,hl,hc,hrun,Result.andThen];refine hK' _ _ (hK _ ⟨rfl,Or.inr ⟨w.heap.size,1,#[.int .u64 0,.int .u64 0,.int .u64 0,.int .u64 0],rfl,Nat.zero_le _,zr _ _,by omega,by decide,rfl,rfl⟩⟩ (Ch.alloc _ _ _) (by simp))
theorem Po(v:Value):Tryz.zeroCells159.setIfInBounds 0 v=(JP v (fun _ _=>0) (fun _=>0)).toArray:=by kernel_rfl
theorem yL.setE{w:World}{P:Nat}{v:Value}{h:Nat->Nat->Nat}{e:Nat->Nat}(H:yL w P v h e)(q:Nat->Nat):
 yL ((((w.setCell ⟨P,1025,none⟩ (.int .u64 (q 0))).setCell ⟨P,1026,none⟩ (.int .u64 (q 1))).setCell ⟨P,1027,none⟩ (.int .u64 (q 2))).setCell ⟨P,1028,none⟩ (.int .u64 (q 3))) P v h q/\
 Ch [P] w ((((w.setCell ⟨P,1025,none⟩ (.int .u64 (q 0))).setCell ⟨P,1026,none⟩ (.int .u64 (q 1))).setCell ⟨P,1027,none⟩ (.int .u64 (q 2))).setCell ⟨P,1028,none⟩ (.int .u64 (q 3))):=by
 refine⟨?_,(((Ch.setCell _ (by simp) _).trans (Ch.setCell _ (by simp) _)).trans (Ch.setCell _ (by simp) _)).trans (Ch.setCell _ (by simp) _)⟩;have r:=zE.set (zE.set (zE.set (zE.set H 1025 (.int .u64 (q 0))) 1026 (.int .u64 (q 1))) 1027 (.int .u64 (q 2))) 1028 (.int .u64 (q 3));unfold yL
 have e1:(((((JP v h e).toArray.setIfInBounds 1025 (.int .u64 (q 0))).setIfInBounds 1026 (.int .u64 (q 1))).setIfInBounds 1027 (.int .u64 (q 2))).setIfInBounds 1028 (.int .u64 (q 3)))=(JP v h q).toArray:=by
  simp only[List.setIfInBounds_toArray];refine congrArg List.toArray ?_;unfold JP
  have k:∀(x0 x1 x2 x3:Value) (y0 y1 y2 y3:Value) (A:List Value) (n0 n1 n2 n3:Nat),n0=A.length+1->n1=n0+1->n2=n1+1->n3=n2+1->((((v:: (A++[x0,x1,x2,x3])).set n0 y0).set n1 y1).set n2 y2).set n3 y3=v:: (A++[y0,y1,y2,y3]):=by
   intro x0 x1 x2 x3 y0 y1 y2 y3 A n0 n1 n2 n3 e0 e1 e2 e3;subst e3 e2 e1 e0;simp[List.set_append_right]
  exact k _ _ _ _ _ _ _ _ (ya h 256) 1025 1026 1027 1028 (by rw[Jw]) rfl rfl rfl
 rw[<- e1];exact r
def XZ(w:World)(lo P:Nat)(L:zF):Prop:=
 ∃(g m cap:Nat) (nq hq:Nat->Nat->Nat) (nx hv:Nat->Nat->Bool) (eq:Nat->Nat) (l:Nat->Bool),yL w P (.slice (some ⟨g,0,none⟩) m cap) hq eq/\w.ownsRow 0 156 4 (.slice (some ⟨g,0,none⟩) m cap) m (ya nq m)/\g≠P/\0<m/\m<=256/\(∀p,p<m->zU (nq p) (nx p))/\(∀c,c<256->zU (hq c) (hv c))/\zU eq l/\
  (∀p q,p<m->nx p q=true->q<m)/\m<=13/\(∀c,hv c 0=false)/\lo<=g/\∀t,L t↔yP nx hv l 0 t
def UZ(w:World)(L:zF)(s5:Value)(X:World):Prop:=
 ∃(DD g4 m4:Nat) (pc4:Pc) (nx4 hv4:Nat->Nat->Bool) (e5:Bool) (qf5 ql5:Nat->Nat),s5= .pointer (some ⟨DD,0,none⟩)/\zE X DD (zM e5 qf5 ql5) 163/\DD≠w.heap.size+1/\JQ X (w.heap.size+1) g4 m4 (yl nx4 (fun j=>j==0) pc4.f) hv4/\zU ql5 (fun q=>pc4.l q || (pc4.e && q==0))/\Ch [] w X/\1<=m4/\ji nx4 hv4 1 m4 pc4 L/\m4<=13/\(∀c,hv4 c 0=false)/\w.heap.size<=g4/\∀q,nx4 0 q=false
theorem Lq{w:World}{F:Nat->Prop}{h:Nat}{v:Value}{L:zF}{N:Nat}(hX:yC w F h v L N)(hv:JI v)(hF:∀k,F k->k<w.heap.size)(hN:N<=12):
 Calls Tryz.prog 37 #[v] w fun r w'=>∃P,r= .returned (.pointer (some ⟨P,0,none⟩))/\w.heap.size<=P/\XZ w' w.heap.size P L/\Ch [] w w':=by
 obtain⟨va,vn,vc,rfl⟩:=hv;have HX:=zC hX;clear hX;go_enter Tryz.func37,Tryz.ntmps37;go_wp2_with (at_make;refine RU _ _ rfl rfl rfl rfl ?_;intro w1 R1 g1 z1);rw[Po];have hP:=zE.new w1 (JP (.slice (some ⟨w.heap.size,0,none⟩) 1 1) (fun _ _=>0) (fun _=>0)).toArray 159;rw[z1]at hP;have g2:=Ch.alloc [] w1 (.cells (JP (.slice (some ⟨w.heap.size,0,none⟩) 1 1) (fun _ _=>0) (fun _=>0)).toArray 159)
 have z2:(w1.alloc (.cells (JP (.slice (some ⟨w.heap.size,0,none⟩) 1 1) (fun _ _=>0) (fun _=>0)).toArray 159)).heap.size=w.heap.size+2:=by simp[z1]
 have R2:=zJ R1 g2 (by simp);have bC:=zE.new (w1.alloc (.cells (JP (.slice (some ⟨w.heap.size,0,none⟩) 1 1) (fun _ _=>0) (fun _=>0)).toArray 159)) #[.int .u8 (0:Nat)] 161;rw[z2]at bC;have g3:=Ch.alloc [] (w1.alloc (.cells (JP (.slice (some ⟨w.heap.size,0,none⟩) 1 1) (fun _ _=>0) (fun _=>0)).toArray 159)) (.cells #[.int .u8 (0:Nat)] 161);have hP3:yL _ _ _ _ _:=hP.kp g3 (by simp);have R3:=zJ R2 g3 (by simp);have g03:=(g1.trans g2).trans g3
 have z3:((w1.alloc (.cells (JP (.slice (some ⟨w.heap.size,0,none⟩) 1 1) (fun _ _=>0) (fun _=>0)).toArray 159)).alloc (.cells #[.int .u8 (0:Nat)] 161)).heap.size=w.heap.size+3:=by simp[z1]
 have ALL:=And.intro hP3 (And.intro R3 (And.intro bC (And.intro g03 z3)));clear hP g2 z2 R2 bC g3 hP3 R3 g03 z3
 revert ALL
 rw[show(#[Value.int .u8 0]:Array Value)= #[.int .u8 ((0:Nat):Int)]from rfl];generalize (w1.alloc (.cells (JP (.slice (some ⟨w.heap.size,0,none⟩) 1 1) (fun _ _=>0) (fun _=>0)).toArray 159)).alloc (.cells #[.int .u8 (0:Nat)] 161)=W;rintro⟨hP,R,bC,g0,zW⟩;clear R1 g1 z1;refine(Xe bC (by omega)).mono ?_;rintro r w2 ⟨q0,rfl,hq0,h2⟩;rw[show zS q0= .agg #[.int .u64 (q0 0),.int .u64 (q0 1),.int .u64 (q0 2),.int .u64 (q0 3)]from rfl];go_wp2_with fail;have S3:=zE.new w2 (zK q0) 156;have h3:=Ch.alloc [] w2 (.cells (zK q0) 156)
 have z3:(w2.alloc (.cells (zK q0) 156)).heap.size=w2.heap.size+1:=by simp
 have zz2:=h2.size;have G3:=(g0.trans h2).trans h3
 have PG:JQ (w2.alloc (.cells (zK q0) 156)) (w.heap.size+1) w.heap.size 1 (fun _ _=>false) (fun _ _=>false):=
  ⟨1,fun _=>0,fun _ _=>0,fun _ _=>0,zE.kp (zE.kp hP h2 (by simp)) h3 (by simp),zJ (zJ R h2 (by simp)) h3 (by simp),by omega,by omega,fun _ _=>zU.zero,fun _ _=>zU.zero⟩
 have hx3:=yC.frame (w':=w2.alloc (.cells (zK q0) 156)) (G:=F) (fun k hk=>G3.block k (hF k hk) (by simp)) (fun _ h=>h) _ _ _ _ HX.o;rw[show w2.alloc (.cells #[.int .u64 (q0 0),.int .u64 (q0 1),.int .u64 (q0 2),.int .u64 (q0 3)] 156)=w2.alloc (.cells (zK q0) 156)from rfl];generalize w2.alloc (.cells (zK q0) 156)=w3 at *;generalize hS:w2.heap.size=S at *;obtain⟨s0,s1,s2,s3⟩:=S3.c4;have S3x:=zC S3;have PGx:=zC PG;have HX3:=zC hx3;clear S3 PG hx3 hP R bC;have RPs:YN (yD false q0 q0) ⟨false,fun j=>j==0,fun j=>j==0⟩:=⟨q0,q0,rfl,hq0,hq0⟩;have zd:w3.drew.heap.size=w3.heap.size:=rfl
 have hadd:∀W',Ch [] w3 W'->Calls Tryz.prog 70 #[.pointer (some ⟨w.heap.size+1,0,none⟩),.slice va vn vc] W' (Yk W' (w.heap.size+1) w.heap.size 1 (fun _ _=>false) (fun _ _=>false) N L):=by
  intro W' hW';have zW':=hW'.size;exact Dy h W' F (w.heap.size+1) w.heap.size 1 (fun _ _=>false) (fun _ _=>false) _ L N (yC.frame (fun k hk=>(hW'.block k (by have:=hF k hk;omega) (by simp))) (fun _ h=>h) _ _ _ _ HX3.o) ⟨_,_,_,rfl⟩ (fun k hk=>by have:=hF k hk;refine⟨?_,?_,?_⟩ <;>omega) (PGx.o.kp hW' (by simp) (by simp)) (fun _ _ _=>rfl) (by omega)
 have DZ:Hd (zE (w3.alloc (.cells #[.bool false,.int .u64 0,.int .u64 0,.int .u64 0,.int .u64 0,.int .u64 0,.int .u64 0,.int .u64 0,.int .u64 0] 163)).drew (S+1) (zM false (fun _=>0) (fun _=>0)) 163):=by
  have:=(zE.new w3 (zM false (fun _=>0) (fun _=>0)) 163).kp (Ch.drew [] _) (by simp);rw[z3]at this;exact this
 have ZA:Hd ((w3.alloc (.cells #[.bool false,.int .u64 0,.int .u64 0,.int .u64 0,.int .u64 0,.int .u64 0,.int .u64 0,.int .u64 0,.int .u64 0] 163)).drew.heap.size=S+2):=by
  show(w3.heap.push _).size=_
  simp[z3]
 have HADD:=zC hadd;clear hadd
 go_cut [5] (fun s5 wx=>UZ w L s5 wx)
 case first=>
  go_region_with (first|(go_at_call 70;first|(have CHW:=Ch.drew [] w3;refine(HADD.o _ CHW).mono ?_;rintro r w4 ⟨v4,g4,pc4,m4,nx4,hv4,rfl,⟨qf4,ql4,rfl,hqf4,hql4⟩,ch4,hg4,hp4,hm41,hm42,hpo4,hnx4,hhv4,hfr4⟩;have z4:=ch4.size;obtain⟨lP4,lg4,_,_⟩:=hp4.lt;have S4:=(S3x.o.kp CHW (by simp)).kp ch4 (by simp;omega);obtain⟨t0,t1,t2,t3⟩:=S4.c4;have lS4:=S4.lt;have RP4:YN (yD pc4.e qf4 ql4) pc4:=⟨qf4,ql4,rfl,hqf4,hql4⟩;rw[show yD pc4.e qf4 ql4= .agg #[.bool pc4.e,.int .u64 (qf4 0),.int .u64 (qf4 1),.int .u64 (qf4 2),.int .u64 (qf4 3),.int .u64 (ql4 0),.int .u64 (ql4 1),.int .u64 (ql4 2),.int .u64 (ql4 3)]from rfl])|(have CHW:=(Ch.alloc [] w3 (.cells #[.bool false,.int .u64 0,.int .u64 0,.int .u64 0,.int .u64 0,.int .u64 0,.int .u64 0,.int .u64 0,.int .u64 0] 163)).trans (Ch.drew [] _);refine(HADD.o _ CHW).mono ?_;rintro r w4 ⟨v4,g4,pc4,m4,nx4,hv4,rfl,⟨qf4,ql4,rfl,hqf4,hql4⟩,ch4,hg4,hp4,hm41,hm42,hpo4,hnx4,hhv4,hfr4⟩;have zA:=ZA.o;have D4:=DZ.o.kp ch4 (by simp;omega);obtain⟨u0,u1,u2,u3,u4,u5,u6,u7,u8,uf⟩:=D4.c9;have z4:=ch4.size;obtain⟨lP4,lg4,_,_⟩:=hp4.lt;have S4:=(S3x.o.kp CHW (by simp)).kp ch4 (by simp;omega);obtain⟨t0,t1,t2,t3⟩:=S4.c4;have lS4:=S4.lt;have RP4:YN (yD pc4.e qf4 ql4) pc4:=⟨qf4,ql4,rfl,hqf4,hql4⟩;rw[show yD pc4.e qf4 ql4= .agg #[.bool pc4.e,.int .u64 (qf4 0),.int .u64 (qf4 1),.int .u64 (qf4 2),.int .u64 (qf4 3),.int .u64 (ql4 0),.int .u64 (ql4 1),.int .u64 (ql4 2),.int .u64 (ql4 3)]from rfl]))|(go_at_call 69;first|(refine(KM hp4 RPs RP4).mono ?_;rintro r w5 ⟨v5,rfl,⟨qf5,ql5,rfl,hqf5,hql5⟩,ch5,hp5⟩;first|(have D5:=D4.kp ch5 (by simp;omega);obtain⟨x0,x1,x2,x3,x4,x5,x6,x7,x8,xf⟩:=D5.c9;rw[show yD (yU ⟨false,fun j=>j==0,fun j=>j==0⟩ pc4).e qf5 ql5= .agg #[.bool (yU ⟨false,fun j=>j==0,fun j=>j==0⟩ pc4).e,.int .u64 (qf5 0),.int .u64 (qf5 1),.int .u64 (qf5 2),.int .u64 (qf5 3),.int .u64 (ql5 0),.int .u64 (ql5 1),.int .u64 (ql5 2),.int .u64 (ql5 3)]from rfl])|rw[show yD (yU ⟨false,fun j=>j==0,fun j=>j==0⟩ pc4).e qf5 ql5= .agg #[.bool (yU ⟨false,fun j=>j==0,fun j=>j==0⟩ pc4).e,.int .u64 (qf5 0),.int .u64 (qf5 1),.int .u64 (qf5 2),.int .u64 (qf5 3),.int .u64 (ql5 0),.int .u64 (ql5 1),.int .u64 (ql5 2),.int .u64 (ql5 3)]from rfl])|(refine(KM (hp4.kp (Ch.alloc [] w4 (.cells #[.bool false,.int .u64 0,.int .u64 0,.int .u64 0,.int .u64 0,.int .u64 0,.int .u64 0,.int .u64 0,.int .u64 0] 163)) (by simp) (by simp)) RPs RP4).mono ?_;rintro r w5 ⟨v5,rfl,⟨qf5,ql5,rfl,hqf5,hql5⟩,ch5,hp5⟩;have D5:=(zE.new w4 (zM false (fun _=>0) (fun _=>0)) 163).kp ch5 (by simp;omega);obtain⟨x0,x1,x2,x3,x4,x5,x6,x7,x8,xf⟩:=D5.c9;rw[show yD (yU ⟨false,fun j=>j==0,fun j=>j==0⟩ pc4).e qf5 ql5= .agg #[.bool (yU ⟨false,fun j=>j==0,fun j=>j==0⟩ pc4).e,.int .u64 (qf5 0),.int .u64 (qf5 1),.int .u64 (qf5 2),.int .u64 (qf5 3),.int .u64 (ql5 0),.int .u64 (ql5 1),.int .u64 (ql5 2),.int .u64 (ql5 3)]from rfl])))
  all_goals
   have G4:Ch [] w w4:=(G3.trans CHW).trans' ch4 (by simp)
   have G5:Ch [] w w5:=by
    first
    |(have c5:Ch [g4] w4 w5:=by with_reducible exact ch5
      exact G4.trans' c5 (by simp;omega))
    |exact(G4.trans (Ch.alloc [] w4 (.cells #[.bool false,.int .u64 0,.int .u64 0,.int .u64 0,.int .u64 0,.int .u64 0,.int .u64 0,.int .u64 0,.int .u64 0] 163))).trans' ch5 (by simp;omega)
   have z5:=ch5.size;have zG4:=G4.size
   first
   |(have D5':zE w5 (S+1) (zM false (fun _=>0) (fun _=>0)) 163:=by with_reducible exact D5
     obtain⟨n6,k6⟩:=D5'.lay9 (e':=(yU ⟨false,fun j=>j==0,fun j=>j==0⟩ pc4).e) (f':=qf5) (l':=ql5);have P6:=hp5.kp k6 (by simp;omega) (by simp;omega);have G6:=G5.trans' k6 (by simp;omega);have REL:UZ w L (.pointer (some ⟨(S+1),0,none⟩)) (lay9 w5 (S+1) (yU ⟨false,fun j=>j==0,fun j=>j==0⟩ pc4).e qf5 ql5):=⟨_,g4,m4,pc4,nx4,hv4,_,qf5,ql5,rfl,n6,by omega,P6,hql5,G6,by omega,hpo4,by omega,fun c'=>by rw[hhv4 c' 0 (by omega)],by have:=CHW.size;rcases hg4 with h|h <;>omega,fun q'=>by rw[hnx4 0 q' (by omega)]⟩;have HREL:=zC REL;clear REL n6 k6 P6 G6;go_wp2_with fail;go_meet
     exact HREL.o)
   |(have D5':zE w5 w4.heap.size (zM false (fun _=>0) (fun _=>0)) 163:=by with_reducible exact D5
     obtain⟨n6,k6⟩:=D5'.lay9 (e':=(yU ⟨false,fun j=>j==0,fun j=>j==0⟩ pc4).e) (f':=qf5) (l':=ql5);have P6:=hp5.kp k6 (by simp;omega) (by simp;omega);have G6:=G5.trans' k6 (by simp;omega);have REL:UZ w L (.pointer (some ⟨w4.heap.size,0,none⟩)) (lay9 w5 w4.heap.size (yU ⟨false,fun j=>j==0,fun j=>j==0⟩ pc4).e qf5 ql5):=⟨_,g4,m4,pc4,nx4,hv4,_,qf5,ql5,rfl,n6,by omega,P6,hql5,G6,by omega,hpo4,by omega,fun c'=>by rw[hhv4 c' 0 (by omega)],by have:=CHW.size;rcases hg4 with h|h <;>omega,fun q'=>by rw[hnx4 0 q' (by omega)]⟩;have HREL:=zC REL;clear REL n6 k6 P6 G6;go_wp2_with fail;go_meet
     exact HREL.o)
   |(have n6:=zE.new w5 (zM (yU ⟨false,fun j=>j==0,fun j=>j==0⟩ pc4).e qf5 ql5) 163
     have k6:=Ch.alloc [] w5 (.cells (zM (yU ⟨false,fun j=>j==0,fun j=>j==0⟩ pc4).e qf5 ql5) 163);have P6:=hp5.kp k6 (by simp) (by simp);have G6:=G5.trans k6;have REL:UZ w L (.pointer (some ⟨w5.heap.size,0,none⟩)) (w5.alloc (.cells (zM (yU ⟨false,fun j=>j==0,fun j=>j==0⟩ pc4).e qf5 ql5) 163)):=⟨_,g4,m4,pc4,nx4,hv4,_,qf5,ql5,rfl,n6,by omega,P6,hql5,G6,by omega,hpo4,by omega,fun c'=>by rw[hhv4 c' 0 (by omega)],by have:=CHW.size;rcases hg4 with h|h <;>omega,fun q'=>by rw[hnx4 0 q' (by omega)]⟩;have HREL:=zC REL;clear REL n6 k6 P6 G6;go_wp2_with fail;go_meet
     exact HREL.o)
 case rest=>
 obtain⟨DD,g4,m4,pc4,nx4,hv4,e5,qf5,ql5,rfl,n6,nDP,P6,hql5,G6,hm4,hpo4,hm13,hv0,hg4,hn0⟩:=hcut;have nDP':¬DD=w.heap.size+1:=nDP;have nPD:¬w.heap.size+1=DD:=Ne.symm nDP;obtain⟨cap6,e6,nq6,hq6,A6,R6,hgP6,hm6,HN6,HH6⟩:=P6;obtain⟨y0,y1,y2,y3,y4,y5,y6,y7,y8,yf⟩:=n6.c9;obtain⟨pe0,pe1,pe2,pe3⟩:=A6.ce;have pf:=zE.fz A6;have HPO:=zC hpo4;have HN0:=zC hn0;have HV0:=zC hv0;clear hpo4 hn0 hv0 HADD DZ ZA HX3 PGx S3x HX s0 s1 s2 s3;go_wp2_with fail;obtain⟨A7,k7⟩:=A6.setE ql5;clear y0 y1 y2 y3 y4 y5 y6 y7 y8 yf pe0 pe1 pe2 pe3 pf;generalize (((wc.setCell ⟨w.heap.size+1,1025,none⟩ (.int .u64 (ql5 0))).setCell ⟨w.heap.size+1,1026,none⟩ (.int .u64 (ql5 1))).setCell ⟨w.heap.size+1,1027,none⟩ (.int .u64 (ql5 2))).setCell ⟨w.heap.size+1,1028,none⟩ (.int .u64 (ql5 3))=X7 at *;go_ret;refine⟨w.heap.size+1,rfl,by omega,⟨g4,m4,cap6,nq6,hq6,_,hv4,ql5,_,A7,zJ R6 k7 (by intro k hk;simp[Value.ownBlock]at hk;subst hk;simpa using hgP6),hgP6,by omega,hm6,HN6,HH6,hql5,?_,hm13,HV0.o,hg4,?_⟩,G6.trans' k7 (by simp)⟩
 ·intro p q' hp hq'
  simp only[yl,Bool.or_eq_true,Bool.and_eq_true]at hq'
  rcases hq' with hq'|⟨_,hq'⟩
  ·by_cases e0:p=0
   ·subst e0;rw[HN0.o q']at hq';cases hq'
   ·exact(HPO.o.nr p q' (by omega) hp hq').2
  ·exact(HPO.o.fr q' hq').2
 ·intro t
  have hpo5:ji (yl nx4 (fun j=>j==0) pc4.f) hv4 1 m4 pc4 L:=HPO.o.congr (fun p q' hp _=>by
   have:(p==0)=false:=by simp;omega
   simp[yl,this]) (fun _ _ _ _=>rfl)
  exact Ej hpo5 (fun q'=>by simp[yl,HN0.o q']) t
end Go.Proofs.YteobgfbgglfkbaaGreat
