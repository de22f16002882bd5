import Derived.Test.YteobgfbgglfkbaaGreatJD7
import Derived.Deep.DeepCutAuto
namespace Go.Proofs.YteobgfbgglfkbaaGreat
open Go.RowKit
attribute [local go_sem ↓] Go.wp_at_zero Go.wp_at_succ
theorem zIh{w:World}{ops:Array Oper}{rest:List Oper}{o:Oper}{a:Act}{Q:Exit→Act→World→Prop}(l c:Operand)
  (hg:o.guard=none) (hop:o.op=Op.makeSlice 152 l c) (hl:a.eval l= .int .i64 1) (hc:a.eval c= .int .i64 1)
  (hK:∀w',w'.ownsRow 0 156 4 (.slice (some ⟨w.heap.size,0,none⟩) 1 1) 1 (zAq (fun _ _=>0) 1)→Ch [] w w'→w'.heap.size=w.heap.size+1→wpList Tryz.prog ops Q rest (a.put o.dst (.slice (some ⟨w.heap.size,0,none⟩) 1 1)) w'):
  wpList Tryz.prog ops Q (o:: rest) a w:=by
 refine wpList_plain hg fun K hK'=> ?_
 obtain ⟨i,hi,hz0,hz1,hz2⟩:=info_parts zKy;have hrun:=run_make (P:=Tryz.prog) w 152 156 i (.agg #[.int .u64 0,.int .u64 0,.int .u64 0,.int .u64 0]) Tryz.underlying152 hi hz0 .i64 .i64 1 1 (by omega) (by omega) (by rw [hz2];decide) (by decide);rw [hz1,show Int.toNat 1 * 4=4 from rfl,show madeCells (Value.agg #[.int .u64 0,.int .u64 0,.int .u64 0,.int .u64 0]).cells 4= #[.int .u64 0,.int .u64 0,.int .u64 0,.int .u64 0] from by kernel_rfl] at hrun;unfold Oper.wp;simp [execOp,hop,hl,hc,hrun,Result.andThen];refine hK' _ _ (hK _ ⟨rfl,Or.inr ⟨w.heap.size,1,#[.int .u64 0,.int .u64 0,.int .u64 0,.int .u64 0],rfl,Nat.zero_le _,zAH _ _,by omega,by decide,rfl,rfl⟩⟩ (Ch.alloc _ _ _) (by simp))
theorem zeroPat(v:Value):Tryz.zeroCells159.setIfInBounds 0 v=(patC v (fun _ _=>0) (fun _=>0)).toArray:=by kernel_rfl
theorem zBJ.setE{w:World}{P:Nat}{v:Value}{h:Nat→Nat→Nat}{e:Nat→Nat}(H:zBJ w P v h e)(q:Nat→Nat):
  zBJ ((((w.setCell ⟨P,1025,none⟩ (.int .u64 (q 0:Nat))).setCell ⟨P,1026,none⟩ (.int .u64 (q 1:Nat))).setCell ⟨P,1027,none⟩ (.int .u64 (q 2:Nat))).setCell ⟨P,1028,none⟩ (.int .u64 (q 3:Nat))) P v h q∧
  Ch [P] w ((((w.setCell ⟨P,1025,none⟩ (.int .u64 (q 0:Nat))).setCell ⟨P,1026,none⟩ (.int .u64 (q 1:Nat))).setCell ⟨P,1027,none⟩ (.int .u64 (q 2:Nat))).setCell ⟨P,1028,none⟩ (.int .u64 (q 3:Nat))):=by
 refine ⟨?_,(((Ch.setCell _ (by simp) _).trans (Ch.setCell _ (by simp) _)).trans (Ch.setCell _ (by simp) _)).trans (Ch.setCell _ (by simp) _)⟩;have r:=zAD.set (zAD.set (zAD.set (zAD.set H 1025 (.int .u64 (q 0:Nat))) 1026 (.int .u64 (q 1:Nat))) 1027 (.int .u64 (q 2:Nat))) 1028 (.int .u64 (q 3:Nat));unfold zBJ
 have e1:(((((patC v h e).toArray.setIfInBounds 1025 (.int .u64 (q 0:Nat))).setIfInBounds 1026 (.int .u64 (q 1:Nat))).setIfInBounds 1027 (.int .u64 (q 2:Nat))).setIfInBounds 1028 (.int .u64 (q 3:Nat)))=(patC v h q).toArray:=by
  simp only [List.setIfInBounds_toArray];refine congrArg List.toArray ?_;unfold patC
  have k:∀(x0 x1 x2 x3:Value) (y0 y1 y2 y3:Value) (A:List Value) (n0 n1 n2 n3:Nat),n0=A.length+1→n1=n0+1→n2=n1+1→n3=n2+1→((((v:: (A++[x0,x1,x2,x3])).set n0 y0).set n1 y1).set n2 y2).set n3 y3=v:: (A++[y0,y1,y2,y3]):=by
   intro x0 x1 x2 x3 y0 y1 y2 y3 A n0 n1 n2 n3 e0 e1 e2 e3;subst e3 e2 e1 e0;simp [List.set_append_right]
  exact k _ _ _ _ _ _ _ _ (zAq h 256) 1025 1026 1027 1028 (by rw [zAw]) rfl rfl rfl
 rw [← e1];exact r
def PatL(w:World)(lo P:Nat)(L:Lang):Prop:=
 ∃(g m cap:Nat) (nq hq:Nat→Nat→Nat) (nx hv:Nat→Nat→Bool) (eq:Nat→Nat) (l:Nat→Bool),zBJ w P (.slice (some ⟨g,0,none⟩) m cap) hq eq∧w.ownsRow 0 156 4 (.slice (some ⟨g,0,none⟩) m cap) m (zAq nq m)∧g≠P∧0<m∧m≤256∧(∀p,p<m→SetF (nq p) (nx p))∧(∀c,c<256→SetF (hq c) (hv c))∧SetF eq l∧
  (∀p q,p<m→nx p q=true→q<m)∧m≤13∧(∀c,hv c 0=false)∧lo≤g∧∀t,L t↔Acc nx hv l 0 t
end Go.Proofs.YteobgfbgglfkbaaGreat
namespace Go.Proofs.YteobgfbgglfkbaaGreat
open Go.RowKit
attribute [local go_sem ↓] Go.wp_at_zero Go.wp_at_succ
def zLI(w:World)(L:Lang)(s5:Value)(X:World):Prop:=
 ∃(DD g4 m4:Nat) (pc4:Pc) (nx4 hv4:Nat→Nat→Bool) (e5:Bool) (qf5 ql5:Nat→Nat),s5= .pointer (some ⟨DD,0,none⟩)∧zAD X DD (pcC e5 qf5 ql5) 163∧DD≠w.heap.size+1∧PatG X (w.heap.size+1) g4 m4 (zBr nx4 (fun j=>j==0) pc4.f) hv4∧SetF ql5 (fun q=>pc4.l q || (pc4.e && q==0))∧Ch [] w X∧1≤m4∧POk nx4 hv4 1 m4 pc4 L∧m4≤13∧(∀c,hv4 c 0=false)∧w.heap.size≤g4∧∀q,nx4 0 q=false
set_option maxRecDepth 100000 in
set_option maxHeartbeats 6400000 in
theorem zNq{w:World}{F:Nat→Prop}{h:Nat}{v:Value}{L:Lang}{N:Nat}(hX:zAS w F h v L N)(hv:isSl v)(hF:∀k,F k→k<w.heap.size)(hN:N≤12):
  Calls Tryz.prog 37 #[v] w fun r w'=>∃P,r= .returned (.pointer (some ⟨P,0,none⟩))∧w.heap.size≤P∧PatL w' w.heap.size P L∧Ch [] w w':=by
 obtain ⟨va,vn,vc,rfl⟩:=hv;have HX:=hide hX;clear hX;go_enter Tryz.func37,Tryz.ntmps37;go_wp2_with (at_make;refine zIh _ _ rfl rfl rfl rfl ?_;intro w1 R1 g1 z1);rw [zeroPat];have hP:=zAD.new w1 (patC (.slice (some ⟨w.heap.size,0,none⟩) 1 1) (fun _ _=>0) (fun _=>0)).toArray 159;rw [z1] at hP;have g2:=Ch.alloc [] w1 (.cells (patC (.slice (some ⟨w.heap.size,0,none⟩) 1 1) (fun _ _=>0) (fun _=>0)).toArray 159)
 have z2:(w1.alloc (.cells (patC (.slice (some ⟨w.heap.size,0,none⟩) 1 1) (fun _ _=>0) (fun _=>0)).toArray 159)).heap.size=w.heap.size+2:=by simp [z1]
 have R2:=zAB R1 g2 (by simp);have bC:=zAD.new (w1.alloc (.cells (patC (.slice (some ⟨w.heap.size,0,none⟩) 1 1) (fun _ _=>0) (fun _=>0)).toArray 159)) #[.int .u8 (0:Nat)] 161;rw [z2] at bC;have g3:=Ch.alloc [] (w1.alloc (.cells (patC (.slice (some ⟨w.heap.size,0,none⟩) 1 1) (fun _ _=>0) (fun _=>0)).toArray 159)) (.cells #[.int .u8 (0:Nat)] 161);have hP3:zBJ _ _ _ _ _:=hP.keep g3 (by simp);have R3:=zAB R2 g3 (by simp);have g03:=(g1.trans g2).trans g3
 have z3:((w1.alloc (.cells (patC (.slice (some ⟨w.heap.size,0,none⟩) 1 1) (fun _ _=>0) (fun _=>0)).toArray 159)).alloc (.cells #[.int .u8 (0:Nat)] 161)).heap.size=w.heap.size+3:=by simp [z1]
 have ALL:=And.intro hP3 (And.intro R3 (And.intro bC (And.intro g03 z3)));clear hP g2 z2 R2 bC g3 hP3 R3 g03 z3
 revert ALL
 rw [show (#[Value.int .u8 0]:Array Value)= #[.int .u8 ((0:Nat):Int)] from rfl];generalize (w1.alloc (.cells (patC (.slice (some ⟨w.heap.size,0,none⟩) 1 1) (fun _ _=>0) (fun _=>0)).toArray 159)).alloc (.cells #[.int .u8 (0:Nat)] 161)=W;rintro ⟨hP,R,bC,g0,zW⟩;clear R1 g1 z1;refine (zJs bC (by omega)).mono ?_;rintro r w2 ⟨q0,rfl,hq0,h2⟩;rw [show setV q0= .agg #[.int .u64 (q0 0:Nat),.int .u64 (q0 1:Nat),.int .u64 (q0 2:Nat),.int .u64 (q0 3:Nat)] from rfl];go_wp2_with fail;have S3:=zAD.new w2 (setC q0) 156;have h3:=Ch.alloc [] w2 (.cells (setC q0) 156)
 have z3:(w2.alloc (.cells (setC q0) 156)).heap.size=w2.heap.size+1:=by simp
 have zz2:=h2.size;have G3:=(g0.trans h2).trans h3
 have PG:PatG (w2.alloc (.cells (setC q0) 156)) (w.heap.size+1) w.heap.size 1 (fun _ _=>false) (fun _ _=>false):=
  ⟨1,fun _=>0,fun _ _=>0,fun _ _=>0,zAD.keep (zAD.keep hP h2 (by simp)) h3 (by simp),zAB (zAB R h2 (by simp)) h3 (by simp),by omega,by omega,fun _ _=>SetF.zero,fun _ _=>SetF.zero⟩
 have hx3:=zAS.frame (w':=w2.alloc (.cells (setC q0) 156)) (G:=F) (fun k hk=>G3.block k (hF k hk) (by simp)) (fun _ h=>h) _ _ _ _ HX.out;rw [show w2.alloc (.cells #[.int .u64 (q0 0:Nat),.int .u64 (q0 1:Nat),.int .u64 (q0 2:Nat),.int .u64 (q0 3:Nat)] 156)=w2.alloc (.cells (setC q0) 156) from rfl];generalize w2.alloc (.cells (setC q0) 156)=w3 at *;generalize hS:w2.heap.size=S at *;obtain ⟨s0,s1,s2,s3⟩:=S3.c4;have S3x:=hide S3;have PGx:=hide PG;have HX3:=hide hx3;clear S3 PG hx3 hP R bC;have RPs:zGI (pcV false q0 q0) ⟨false,fun j=>j==0,fun j=>j==0⟩:=⟨q0,q0,rfl,hq0,hq0⟩;have zd:w3.drew.heap.size=w3.heap.size:=rfl
 have hadd:∀W',Ch [] w3 W'→Calls Tryz.prog 70 #[.pointer (some ⟨w.heap.size+1,0,none⟩),.slice va vn vc] W' (zDJ W' (w.heap.size+1) w.heap.size 1 (fun _ _=>false) (fun _ _=>false) N L):=by
  intro W' hW';have zW':=hW'.size;exact zKr h W' F (w.heap.size+1) w.heap.size 1 (fun _ _=>false) (fun _ _=>false) _ L N (zAS.frame (fun k hk=>(hW'.block k (by have:=hF k hk;omega) (by simp))) (fun _ h=>h) _ _ _ _ HX3.out) ⟨_,_,_,rfl⟩ (fun k hk=>by have:=hF k hk;refine ⟨?_,?_,?_⟩ <;>omega) (PGx.out.keep hW' (by simp) (by simp)) (fun _ _ _=>rfl) (by omega)
 have DZ:Hid (zAD (w3.alloc (.cells #[.bool false,.int .u64 0,.int .u64 0,.int .u64 0,.int .u64 0,.int .u64 0,.int .u64 0,.int .u64 0,.int .u64 0] 163)).drew (S+1) (pcC false (fun _=>0) (fun _=>0)) 163):=by
  have:=(zAD.new w3 (pcC false (fun _=>0) (fun _=>0)) 163).keep (Ch.drew [] _) (by simp);rw [z3] at this;exact this
 have ZA:Hid ((w3.alloc (.cells #[.bool false,.int .u64 0,.int .u64 0,.int .u64 0,.int .u64 0,.int .u64 0,.int .u64 0,.int .u64 0,.int .u64 0] 163)).drew.heap.size=S+2):=by
  show (w3.heap.push _).size=_
  simp [z3]
 have HADD:=hide hadd;clear hadd
 go_cut [5] (fun s5 wx=>zLI w L s5 wx)
 case first=>
  go_region_with (first | (go_at_call 70;first | (have CHW:=Ch.drew [] w3;refine (HADD.out _ CHW).mono ?_;rintro r w4 ⟨v4,g4,pc4,m4,nx4,hv4,rfl,⟨qf4,ql4,rfl,hqf4,hql4⟩,ch4,hg4,hp4,hm41,hm42,hpo4,hnx4,hhv4,hfr4⟩;have z4:=ch4.size;obtain ⟨lP4,lg4,_,_⟩:=hp4.lt;have S4:=(S3x.out.keep CHW (by simp)).keep ch4 (by simp;omega);obtain ⟨t0,t1,t2,t3⟩:=S4.c4;have lS4:=S4.lt;have RP4:zGI (pcV pc4.e qf4 ql4) pc4:=⟨qf4,ql4,rfl,hqf4,hql4⟩;rw [show pcV pc4.e qf4 ql4= .agg #[.bool pc4.e,.int .u64 (qf4 0:Nat),.int .u64 (qf4 1:Nat),.int .u64 (qf4 2:Nat),.int .u64 (qf4 3:Nat),.int .u64 (ql4 0:Nat),.int .u64 (ql4 1:Nat),.int .u64 (ql4 2:Nat),.int .u64 (ql4 3:Nat)] from rfl]) | (have CHW:=(Ch.alloc [] w3 (.cells #[.bool false,.int .u64 0,.int .u64 0,.int .u64 0,.int .u64 0,.int .u64 0,.int .u64 0,.int .u64 0,.int .u64 0] 163)).trans (Ch.drew [] _);refine (HADD.out _ CHW).mono ?_;rintro r w4 ⟨v4,g4,pc4,m4,nx4,hv4,rfl,⟨qf4,ql4,rfl,hqf4,hql4⟩,ch4,hg4,hp4,hm41,hm42,hpo4,hnx4,hhv4,hfr4⟩;have zA:=ZA.out;have D4:=DZ.out.keep ch4 (by simp;omega);obtain ⟨u0,u1,u2,u3,u4,u5,u6,u7,u8,uf⟩:=D4.c9;have z4:=ch4.size;obtain ⟨lP4,lg4,_,_⟩:=hp4.lt;have S4:=(S3x.out.keep CHW (by simp)).keep ch4 (by simp;omega);obtain ⟨t0,t1,t2,t3⟩:=S4.c4;have lS4:=S4.lt;have RP4:zGI (pcV pc4.e qf4 ql4) pc4:=⟨qf4,ql4,rfl,hqf4,hql4⟩;rw [show pcV pc4.e qf4 ql4= .agg #[.bool pc4.e,.int .u64 (qf4 0:Nat),.int .u64 (qf4 1:Nat),.int .u64 (qf4 2:Nat),.int .u64 (qf4 3:Nat),.int .u64 (ql4 0:Nat),.int .u64 (ql4 1:Nat),.int .u64 (ql4 2:Nat),.int .u64 (ql4 3:Nat)] from rfl])) | (go_at_call 69;first | (refine (zFS hp4 RPs RP4).mono ?_;rintro r w5 ⟨v5,rfl,⟨qf5,ql5,rfl,hqf5,hql5⟩,ch5,hp5⟩;first | (have D5:=D4.keep ch5 (by simp;omega);obtain ⟨x0,x1,x2,x3,x4,x5,x6,x7,x8,xf⟩:=D5.c9;rw [show pcV (zAY ⟨false,fun j=>j==0,fun j=>j==0⟩ pc4).e qf5 ql5= .agg #[.bool (zAY ⟨false,fun j=>j==0,fun j=>j==0⟩ pc4).e,.int .u64 (qf5 0:Nat),.int .u64 (qf5 1:Nat),.int .u64 (qf5 2:Nat),.int .u64 (qf5 3:Nat),.int .u64 (ql5 0:Nat),.int .u64 (ql5 1:Nat),.int .u64 (ql5 2:Nat),.int .u64 (ql5 3:Nat)] from rfl]) | rw [show pcV (zAY ⟨false,fun j=>j==0,fun j=>j==0⟩ pc4).e qf5 ql5= .agg #[.bool (zAY ⟨false,fun j=>j==0,fun j=>j==0⟩ pc4).e,.int .u64 (qf5 0:Nat),.int .u64 (qf5 1:Nat),.int .u64 (qf5 2:Nat),.int .u64 (qf5 3:Nat),.int .u64 (ql5 0:Nat),.int .u64 (ql5 1:Nat),.int .u64 (ql5 2:Nat),.int .u64 (ql5 3:Nat)] from rfl]) | (refine (zFS (hp4.keep (Ch.alloc [] w4 (.cells #[.bool false,.int .u64 0,.int .u64 0,.int .u64 0,.int .u64 0,.int .u64 0,.int .u64 0,.int .u64 0,.int .u64 0] 163)) (by simp) (by simp)) RPs RP4).mono ?_;rintro r w5 ⟨v5,rfl,⟨qf5,ql5,rfl,hqf5,hql5⟩,ch5,hp5⟩;have D5:=(zAD.new w4 (pcC false (fun _=>0) (fun _=>0)) 163).keep ch5 (by simp;omega);obtain ⟨x0,x1,x2,x3,x4,x5,x6,x7,x8,xf⟩:=D5.c9;rw [show pcV (zAY ⟨false,fun j=>j==0,fun j=>j==0⟩ pc4).e qf5 ql5= .agg #[.bool (zAY ⟨false,fun j=>j==0,fun j=>j==0⟩ pc4).e,.int .u64 (qf5 0:Nat),.int .u64 (qf5 1:Nat),.int .u64 (qf5 2:Nat),.int .u64 (qf5 3:Nat),.int .u64 (ql5 0:Nat),.int .u64 (ql5 1:Nat),.int .u64 (ql5 2:Nat),.int .u64 (ql5 3:Nat)] from rfl])))
  all_goals
   have G4:Ch [] w w4:=(G3.trans CHW).trans' ch4 (by simp)
   have G5:Ch [] w w5:=by
    first
    |(have c5:Ch [g4] w4 w5:=by with_reducible exact ch5
      exact G4.trans' c5 (by simp;omega))
    |exact (G4.trans (Ch.alloc [] w4 (.cells #[.bool false,.int .u64 0,.int .u64 0,.int .u64 0,.int .u64 0,.int .u64 0,.int .u64 0,.int .u64 0,.int .u64 0] 163))).trans' ch5 (by simp;omega)
   have z5:=ch5.size;have zG4:=G4.size
   first
   |(have D5':zAD w5 (S+1) (pcC false (fun _=>0) (fun _=>0)) 163:=by with_reducible exact D5
     obtain ⟨n6,k6⟩:=D5'.lay9 (e':=(zAY ⟨false,fun j=>j==0,fun j=>j==0⟩ pc4).e) (f':=qf5) (l':=ql5);have P6:=hp5.keep k6 (by simp;omega) (by simp;omega);have G6:=G5.trans' k6 (by simp;omega);have REL:zLI w L (.pointer (some ⟨(S+1),0,none⟩)) (lay9 w5 (S+1) (zAY ⟨false,fun j=>j==0,fun j=>j==0⟩ pc4).e qf5 ql5):=⟨_,g4,m4,pc4,nx4,hv4,_,qf5,ql5,rfl,n6,by omega,P6,hql5,G6,by omega,hpo4,by omega,fun c'=>by rw [hhv4 c' 0 (by omega)],by have:=CHW.size;rcases hg4 with h | h <;>omega,fun q'=>by rw [hnx4 0 q' (by omega)]⟩;have HREL:=hide REL;clear REL n6 k6 P6 G6;go_wp2_with fail;go_meet
     exact HREL.out)
   |(have D5':zAD w5 w4.heap.size (pcC false (fun _=>0) (fun _=>0)) 163:=by with_reducible exact D5
     obtain ⟨n6,k6⟩:=D5'.lay9 (e':=(zAY ⟨false,fun j=>j==0,fun j=>j==0⟩ pc4).e) (f':=qf5) (l':=ql5);have P6:=hp5.keep k6 (by simp;omega) (by simp;omega);have G6:=G5.trans' k6 (by simp;omega);have REL:zLI w L (.pointer (some ⟨w4.heap.size,0,none⟩)) (lay9 w5 w4.heap.size (zAY ⟨false,fun j=>j==0,fun j=>j==0⟩ pc4).e qf5 ql5):=⟨_,g4,m4,pc4,nx4,hv4,_,qf5,ql5,rfl,n6,by omega,P6,hql5,G6,by omega,hpo4,by omega,fun c'=>by rw [hhv4 c' 0 (by omega)],by have:=CHW.size;rcases hg4 with h | h <;>omega,fun q'=>by rw [hnx4 0 q' (by omega)]⟩;have HREL:=hide REL;clear REL n6 k6 P6 G6;go_wp2_with fail;go_meet
     exact HREL.out)
   |(have n6:=zAD.new w5 (pcC (zAY ⟨false,fun j=>j==0,fun j=>j==0⟩ pc4).e qf5 ql5) 163
     have k6:=Ch.alloc [] w5 (.cells (pcC (zAY ⟨false,fun j=>j==0,fun j=>j==0⟩ pc4).e qf5 ql5) 163);have P6:=hp5.keep k6 (by simp) (by simp);have G6:=G5.trans k6;have REL:zLI w L (.pointer (some ⟨w5.heap.size,0,none⟩)) (w5.alloc (.cells (pcC (zAY ⟨false,fun j=>j==0,fun j=>j==0⟩ pc4).e qf5 ql5) 163)):=⟨_,g4,m4,pc4,nx4,hv4,_,qf5,ql5,rfl,n6,by omega,P6,hql5,G6,by omega,hpo4,by omega,fun c'=>by rw [hhv4 c' 0 (by omega)],by have:=CHW.size;rcases hg4 with h | h <;>omega,fun q'=>by rw [hnx4 0 q' (by omega)]⟩;have HREL:=hide REL;clear REL n6 k6 P6 G6;go_wp2_with fail;go_meet
     exact HREL.out)
 case rest=>
 obtain ⟨DD,g4,m4,pc4,nx4,hv4,e5,qf5,ql5,rfl,n6,nDP,P6,hql5,G6,hm4,hpo4,hm13,hv0,hg4,hn0⟩:=hcut;have nDP':¬DD=w.heap.size+1:=nDP;have nPD:¬w.heap.size+1=DD:=Ne.symm nDP;obtain ⟨cap6,e6,nq6,hq6,A6,R6,hgP6,hm6,HN6,HH6⟩:=P6;obtain ⟨y0,y1,y2,y3,y4,y5,y6,y7,y8,yf⟩:=n6.c9;obtain ⟨pe0,pe1,pe2,pe3⟩:=A6.ce;have pf:=zAD.frozen A6;have HPO:=hide hpo4;have HN0:=hide hn0;have HV0:=hide hv0;clear hpo4 hn0 hv0 HADD DZ ZA HX3 PGx S3x HX s0 s1 s2 s3;go_wp2_with fail;obtain ⟨A7,k7⟩:=A6.setE ql5;clear y0 y1 y2 y3 y4 y5 y6 y7 y8 yf pe0 pe1 pe2 pe3 pf;generalize (((wc.setCell ⟨w.heap.size+1,1025,none⟩ (.int .u64 (ql5 0:Nat))).setCell ⟨w.heap.size+1,1026,none⟩ (.int .u64 (ql5 1:Nat))).setCell ⟨w.heap.size+1,1027,none⟩ (.int .u64 (ql5 2:Nat))).setCell ⟨w.heap.size+1,1028,none⟩ (.int .u64 (ql5 3:Nat))=X7 at *;go_ret;refine ⟨w.heap.size+1,rfl,by omega,⟨g4,m4,cap6,nq6,hq6,_,hv4,ql5,_,A7,zAB R6 k7 (by intro k hk;simp [Value.ownBlock] at hk;subst hk;simpa using hgP6),hgP6,by omega,hm6,HN6,HH6,hql5,?_,hm13,HV0.out,hg4,?_⟩,G6.trans' k7 (by simp)⟩
 ·intro p q' hp hq'
  simp only [zBr,Bool.or_eq_true,Bool.and_eq_true] at hq'
  rcases hq' with hq' | ⟨_,hq'⟩
  ·by_cases e0:p=0
   ·subst e0;rw [HN0.out q'] at hq';cases hq'
   ·exact (HPO.out.nr p q' (by omega) hp hq').2
  ·exact (HPO.out.fr q' hq').2
 ·intro t
  have hpo5:POk (zBr nx4 (fun j=>j==0) pc4.f) hv4 1 m4 pc4 L:=HPO.out.congr (fun p q' hp _=>by
   have:(p==0)=false:=by simp;omega
   simp [zBr,this]) (fun _ _ _ _=>rfl)
  exact whole_ok hpo5 (fun q'=>by simp [zBr,HN0.out q']) t
end Go.Proofs.YteobgfbgglfkbaaGreat
