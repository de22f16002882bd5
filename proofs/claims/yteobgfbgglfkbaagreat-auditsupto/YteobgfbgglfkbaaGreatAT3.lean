import Derived.Test.YteobgfbgglfkbaaGreatAT1
set_option maxHeartbeats 12800000
set_option maxRecDepth 100000
namespace Go.Proofs.YteobgfbgglfkbaaGreat
open Go.RowKit
attribute [local go_sem ↓] Go.wp_at_zero Go.wp_at_succ
section
variable {Ds:List zH} {m:Nat} {nx hv:Nat->Nat->Bool} {l:Nat->Bool} {rb wb:Nat} {w:World} {X:List Nat} {γ:List (Nat->Bool)}
def Cl(Ds:List zH)(m:Nat)(nx hv:Nat->Nat->Bool)(l:Nat->Bool)(rb wb:Nat)(w:World)(X:List Nat)(γ:List (Nat->Bool))(k:List Nat×(Nat->Bool))(lost:Bool)(e:Ending)(w':World):Prop:=
 ∃v' X' γ',e= .returned (.tuple #[v',.bool (!lost)])/\Jc Ds m nx hv l rb wb w' X' γ'/\leN γ γ'/\VI γ' v' k/\Ch X w w'/\∀q,q∈X'->q∈X\/w.heap.size<=q
theorem Cu(hF:yo Ds)(pf:Zs m nx hv)(h:Jc Ds m nx hv l rb wb w X γ){v:Value}{k:List Nat×(Nat->Bool)}(hk:VI γ v k)(hg:Qr Ds m k)(b:UInt8):
 Calls Tryz.prog 125 (#[v,.int .u8 (b.toNat)]++ #[.pointer (some ⟨rb,0,none⟩),.pointer (some ⟨wb,0,none⟩)]) w (Cl Ds m nx hv l rb wb w X γ ((Js Ds m nx hv l).step k b) (QP ((Js Ds m nx hv l).step k b).2)):=by
 obtain⟨hn,h0,h1,h2,s,hk1,b0,b1,b2,bs,rfl,hs⟩:=hk;obtain⟨hs0,f⟩:=k;simp only at hk1 hs;subst hk1;obtain⟨k0,k1,k2,o,hfd,hko,hol⟩:=Xh hF hg.1.1.1 b;have hlow:=VC Ds _ [b] hF.1 hg.1.1.1 hg.2;rw[hfd]at hlow;have q0:=hlow k0 (by simp);have q1:=hlow k1 (by simp);have q2:=hlow k2 (by simp)
 have hstep:(Js Ds m nx hv l).step ([h0,h1,h2],f) b=([k0,k1,k2],yc (yG m nx hv) f o):=by
  show((zT Ds [h0,h1,h2] [b]).1,yc (yG m nx hv) f (zT Ds [h0,h1,h2] [b]).2)=_
  rw[hfd]
 rw[hstep];simp only;have hXl:=h.lt;obtain⟨r,W,Xr,Xw,rfl,a1,a2,a3,a4,a5⟩:=h;have g0:=Ch.alloc [] w (.cells #[.int .u8 h0,.int .u8 h1,.int .u8 h2,.int .i64 s] 227);have P0:=zE.new w #[.int .u8 h0,.int .u8 h1,.int .u8 h2,.int .i64 s] 227
 have z0:(w.alloc (.cells #[.int .u8 h0,.int .u8 h1,.int .u8 h2,.int .i64 s] 227)).heap.size=w.heap.size+1:=by simp
 generalize hw0:w.alloc (.cells #[.int .u8 h0,.int .u8 h1,.int .u8 h2,.int .i64 s] 227)=w0 at *;have g1:=Ch.alloc [] w0 (.cells #[.int .u8 0,.int .u8 0,.int .u8 0,.int .i64 0] 227);have R1:=zE.new w0 #[.int .u8 0,.int .u8 0,.int .u8 0,.int .i64 0] 227
 have z1:(w0.alloc (.cells #[.int .u8 0,.int .u8 0,.int .u8 0,.int .i64 0] 227)).heap.size=w0.heap.size+1:=by simp
 have P1:=P0.kp g1 (by simp);have G1:=g0.trans g1;rw[z0]at R1;generalize hw1:w0.alloc (.cells #[.int .u8 0,.int .u8 0,.int .u8 0,.int .i64 0] 227)=w1 at *;have A1:=a1.kp G1 (by simp);have A2:=a2.kp G1 (by simp);have A3:=a3.kp G1 (by simp);have A4:=a4.kp G1 (by simp);have PUT:=zC (K5 hF A3 b0 b1 b2 hg.1.1.1 b hfd (by omega));have p0:=P1.cl 0 (.int .u8 h0) rfl;have p1:=P1.cl 1 (.int .u8 h1) rfl;have p2:=P1.cl 2 (.int .u8 h2) rfl;have c1:=A1.cl 0 (.pointer (some ⟨r,0,none⟩)) rfl;have HG1:=zC G1;have HP1:=zC P1;have HR1:=zC R1;have HA1:=zC A1;have HA2:=zC A2;have HA4:=zC A4;have HPF:=zC pf;have HS:=zC hs;have HN:=zC hn;have H5:=zC a5;have hrbl:=a1.lt;have hwbl:=a2.lt;have hrl:=zC a3.lt;have hwl:=zC a4.lt;clear a1 a2 a3 a4 a5 A1 A2 A3 A4 P0 P1 R1 hF hg hfd hko hs hn hstep pf G1 g0 g1 hXl;go_enter Tryz.func125,Tryz.ntmps125;go_wp2_with fail;refine PUT.o.mono ?_;rintro e w2 ⟨rfl,R2,c2⟩;have zG1:=HG1.o.size;obtain⟨B1,B2,W2⟩:=Jc.ran HA1.o HA2.o HA4.o H5.o c2
 have nX:∀q,w.heap.size<=q->q∉Xr/\q∉Xw:=fun q hq=>⟨fun hx=>by have:=hrl.o q hx;omega,fun hx=>by have:=hwl.o q hx;omega⟩
 have P2:=HP1.o.kp c2 (nX _ (Nat.le_refl _)).1;have RR2:=HR1.o.kp c2 (nX _ (by omega)).1;have z2:=c2.size;have g3:=Ch.alloc [] w2 (.cells #[.int .u8 k0,.int .u8 k1,.int .u8 k2,.string (zG o)] 229);have M3:=zE.new w2 #[.int .u8 k0,.int .u8 k1,.int .u8 k2,.string (zG o)] 229
 have z3:(w2.alloc (.cells #[.int .u8 k0,.int .u8 k1,.int .u8 k2,.string (zG o)] 229)).heap.size=w2.heap.size+1:=by simp
 have W3:=W2.kp g3 (by simp);have B13:=B1.kp g3 (by simp);have B23:=B2.kp g3 (by simp);have R3:=R2.kp g3 (by simp);have P3:=P2.kp g3 (by simp);have RR3:=RR2.kp g3 (by simp);generalize hw3:w2.alloc (.cells #[.int .u8 k0,.int .u8 k1,.int .u8 k2,.string (zG o)] 229)=w3 at *;have THR:=zC (BH HPF.o W3 HS.o o (by omega));have t0:=B23.cl 0 (.pointer (some ⟨W,0,none⟩)) rfl;have t1:=P3.cl 3 (.int .i64 s) rfl;have t2:=M3.cl 3 (.string (zG o)) rfl;have HC2:=zC c2;have HB13:=zC B13;have HB23:=zC B23;have HR3:=zC R3;have HRR3:=zC RR3;have HM3:=zC M3;have HG3:=zC g3;clear p0 p1 p2 c1 B1 B2 W2 P2 RR2 W3 B13 B23 R3 P3 RR3 M3 R2 c2 g3;go_wp2_with fail;refine THR.o.mono ?_;rintro e w4 ⟨s4,X4,γ4,rfl,W4,pre4,get4,c4,s4'⟩;have IN4:=Jc.walked HB13.o HB23.o HR3.o H5.o c4 W4 s4'
 have hs4:s4<8193:=by
  have:=(List.getElem?_eq_some_iff.1 get4).1;have:=W4.len HPF.o.le;omega
 have M4:=HM3.o.kp c4 (nX _ (by omega)).2;have R4:=HRR3.o.kp c4 (nX _ (by omega)).2;have B4:=HB23.o.kp c4 H5.o.2.2.2.2.1;have z4:=c4.size;have u0:=M4.cl 0 (.int .u8 k0) rfl;have u1:=M4.cl 1 (.int .u8 k1) rfl;have u2:=M4.cl 2 (.int .u8 k2) rfl;have t0':=B4.cl 0 (.pointer (some ⟨W,0,none⟩)) rfl;have y0:=R4.cl 0 (.int .u8 0) rfl;have y1:=R4.cl 1 (.int .u8 0) rfl;have y2:=R4.cl 2 (.int .u8 0) rfl;have y3:=R4.cl 3 (.int .i64 0) rfl;have yf:=R4.fz;have LOST:=zC (fun(W':World) (c:Ch [] w4 W')=>GK (W4.kp c (by simp)) get4);have TOT:Hd (Ch (rb:: wb:: (Xr++Xw)) w w4):=(((HG1.o.mono (by simp)).trans (HC2.o.mono (fun q hq=>by simp[hq]))).trans (HG3.o.mono (by simp))).trans (c4.mono (fun q hq=>by simp[hq]));have HIN:=zC IN4;have HPRE:=zC pre4;have HGET:=zC get4;have HS4:=zC s4';have HM4:=zC M4;have HR4:=zC R4;have HB4:=zC B4;have HND:=zC W4.nodup;clear IN4 pre4 get4 s4' M4 R4 B4 W4 c4 t0 t1 t2;go_wp2_with fail
 go_region_with (first|(go_at_call 128;refine(LOST.o _ (Ch.drew [] w4)).mono ?_;rintro e w5 ⟨rfl,c5⟩;have d5:=(Ch.drew [] w4).trans c5;have M5:=HM4.o.kp d5 (by simp);have R5:=HR4.o.kp d5 (by simp);have B5:=HB4.o.kp d5 (by simp);have u0':=M5.cl 0 (.int .u8 k0) rfl;have u1':=M5.cl 1 (.int .u8 k1) rfl;have u2':=M5.cl 2 (.int .u8 k2) rfl;have t0'':=B5.cl 0 (.pointer (some ⟨W,0,none⟩)) rfl;have y0':=R5.cl 0 (.int .u8 0) rfl;have y1':=R5.cl 1 (.int .u8 0) rfl;have y2':=R5.cl 2 (.int .u8 0) rfl;have y3':=R5.cl 3 (.int .i64 0) rfl;have yf':=R5.fz))
 all_goals
  obtain⟨X6,g6⟩:=R5.fill4 (.int .u8 k0) (.int .u8 k1) (.int .u8 k2) (.int .i64 s4);have x0:=X6.cl 0 (.int .u8 k0) rfl;have x1:=X6.cl 1 (.int .u8 k1) rfl;have x2:=X6.cl 2 (.int .u8 k2) rfl;have x3:=X6.cl 3 (.int .i64 s4) rfl;have C6:=zC (d5.mono (Y:=[w.heap.size+1]) (by simp) |>.trans g6);clear X6 g6 u0 u1 u2 u0' u1' u2' t0' t0'' y0 y1 y2 y3 yf y0' y1' y2' y3' yf' M5 R5 B5;generalize (((w5.setCell ⟨w.heap.size+1,0,none⟩ (.int .u8 k0)).setCell ⟨w.heap.size+1,1,none⟩ (.int .u8 k1)).setCell ⟨w.heap.size+1,2,none⟩ (.int .u8 k2)).setCell ⟨w.heap.size+1,3,none⟩ (.int .i64 s4)=w6 at *;go_wp2_with fail;refine bodyPost_ret (v:= .tuple #[.agg #[.int .u8 k0,.int .u8 k1,.int .u8 k2,.int .i64 s4],.bool (!QP (yc (yG m nx hv) f o))]) ?_ rfl ?_
  ·simp[results,Tryz.results125,go_sem,x0,x1,x2,x3]
  ·refine⟨_,rb:: wb:: (Xr++X4),γ4,rfl,HIN.o.kp C6.o (fun q hq hx=> ?_),⟨HPRE.o,fun _=>HND.o⟩,⟨HND.o,k0,k1,k2,s4,rfl,by omega,by omega,by omega,by omega,rfl,HGET.o⟩,TOT.o.trans' C6.o (fun q hq=>Or.inr (by simp at hq;omega)),fun q hq=> ?_⟩
   ·have e:q=w.heap.size+1:=by simpa using hx
    subst e;simp only[List.mem_cons,List.mem_append]at hq
    rcases hq with h|h|h|h
    ·omega
    ·omega
    ·exact(nX _ (by omega)).1 h
    ·rcases HS4.o _ h with h'|h'
     ·exact(nX _ (by omega)).2 h'
     ·omega
   ·simp only[List.mem_cons,List.mem_append]at hq ⊢
    rcases hq with h|h|h|h
    ·exact Or.inl (Or.inl h)
    ·exact Or.inl (Or.inr (Or.inl h))
    ·exact Or.inl (Or.inr (Or.inr (Or.inl h)))
    ·rcases HS4.o _ h with h'|h'
     ·exact Or.inl (Or.inr (Or.inr (Or.inr h')))
     ·exact Or.inr (by omega)
end
section
variable {Ds:List zH} {m:Nat} {nx hv:Nat->Nat->Bool} {l:Nat->Bool} {rb wb:Nat} {w:World} {X:List Nat} {γ:List (Nat->Bool)}
theorem Wr{Ds:List zH}(hF:yo Ds){hs:List Nat}(h:j7 Ds hs):(yE Ds hs).length<=100000:=by
 have key:∀(Ds:List zH) (hs:List Nat),(∀D,D∈Ds->yR D)->j7 Ds hs->(yE Ds hs).length<=Ds.length * (4 * 12 ^ Ds.length):=by
  intro Ds
  induction Ds with
  |nil=>intro hs _ _;simp[yE]
  |cons D Ds ih=>
   intro hs hD hh
   cases hs with
   |nil=>exact hh.elim
   |cons n hs=>
    have hD':∀E,E∈Ds->yR E:=fun E hE=>hD E (by simp[hE])
    have e1:=Xq (hD D (by simp)) (h:=n);have e2:=QO Ds hs (jm D n) hD' hh.2;have e3:=ih _ hD' e2.1;simp only[yE,List.length_append,List.length_cons];have e4:(zT Ds hs (jm D n)).2.length<=12 ^ Ds.length * 4:=Nat.le_trans e2.2.2 (Nat.mul_le_mul_left _ e1)
    have e5:(12:Nat) ^ (Ds.length+1)=12 * 12 ^ Ds.length:=by rw[Nat.pow_succ];omega
    rw[e5];generalize 12 ^ Ds.length=a at *;have e6:Ds.length * (4 * a)<=Ds.length * (4 * (12 * a)):=Nat.mul_le_mul_left _ (by omega);rw[Nat.add_mul];omega
 have h1:=key Ds hs hF.1 h;have h2:12 ^ Ds.length<=12 ^ 3:=Nat.pow_le_pow_right (by omega) hF.2;have h3:Ds.length * (4 * 12 ^ Ds.length)<=3 * (4 * 12 ^ 3):=Nat.mul_le_mul hF.2 (by omega);omega
theorem Rv(hF:yo Ds)(pf:Zs m nx hv)(h:Jc Ds m nx hv l rb wb w X γ){v:Value}{k:List Nat×(Nat->Bool)}(hk:VI γ v k)(hg:Qr Ds m k):
 Calls Tryz.prog 129 (#[v]++ #[.pointer (some ⟨wb,0,none⟩),.pointer (some ⟨rb,0,none⟩)]) w fun e w'=>∃X' γ',e= .returned (.bool ((Js Ds m nx hv l).want k))/\Jc Ds m nx hv l rb wb w' X' γ'/\leN γ γ'/\Ch X w w'/\∀q,q∈X'->q∈X\/w.heap.size<=q:=by
 obtain⟨hn,h0,h1,h2,s,hk1,b0,b1,b2,bs,rfl,hs⟩:=hk;obtain⟨hs0,f⟩:=k;simp only at hk1 hs;subst hk1;have hol:=Wr hF hg.1.1.1;have hwant:(Js Ds m nx hv l).want ([h0,h1,h2],f)=Yn l (yc (yG m nx hv) f (yE Ds [h0,h1,h2])):=rfl;rw[hwant];obtain⟨r,W,Xr,Xw,rfl,a1,a2,a3,a4,a5⟩:=h;have g1:=Ch.alloc [] w (.cells #[.int .u8 h0,.int .u8 h1,.int .u8 h2,.int .i64 s] 227);have P1:=zE.new w #[.int .u8 h0,.int .u8 h1,.int .u8 h2,.int .i64 s] 227;generalize hw1:w.alloc (.cells #[.int .u8 h0,.int .u8 h1,.int .u8 h2,.int .i64 s] 227)=w1 at *;have A1:=a1.kp g1 (by simp);have A2:=a2.kp g1 (by simp);have A3:=a3.kp g1 (by simp);have A4:=a4.kp g1 (by simp);have END:=zC (fun(W':World) (c:Ch [] w1 W')=>WV hF (A3.kp c (by simp)) b0 b1 b2 hg.1.1.1 (Nat.le_trans hol (by decide)));generalize yE Ds [h0,h1,h2]=o at *;have p0:=P1.cl 0 (.int .u8 h0) rfl;have p1:=P1.cl 1 (.int .u8 h1) rfl;have p2:=P1.cl 2 (.int .u8 h2) rfl;have p3:=P1.cl 3 (.int .i64 s) rfl;have c1:=A1.cl 0 (.pointer (some ⟨r,0,none⟩)) rfl;have c2:=A2.cl 0 (.pointer (some ⟨W,0,none⟩)) rfl;have HG1:=zC g1;have HP1:=zC P1;have HA1:=zC A1;have HA2:=zC A2;have HA3:=zC A3;have HA4:=zC A4;have HPF:=zC pf;have HS:=zC hs;have HN:=zC hn;have H5:=zC a5;have hrl:=zC a3.lt;have hwl:=zC a4.lt
 have nX:∀q,w.heap.size<=q->q∉Xr/\q∉Xw:=fun q hq=>⟨fun hx=>by have:=hrl.o q hx;omega,fun hx=>by have:=hwl.o q hx;omega⟩
 have HNX:=zC nX;clear a1 a2 a3 a4 a5 A1 A2 A3 A4 P1 hF hg hs hn pf g1 nX hwant;have cdr:=Ch.drew [] w1
 have RAN:Hd (∀w2,Ch Xr w1.drew w2->zE w2 rb #[.pointer (some ⟨r,0,none⟩)] 221/\zE w2 wb #[.pointer (some ⟨W,0,none⟩)] 223/\jX m nx hv l w2 Xw W γ/\zE w2 w.heap.size #[.int .u8 h0,.int .u8 h1,.int .u8 h2,.int .i64 s] 227):=by
  intro w2 c;obtain⟨x1,x2,x3⟩:=Jc.ran (HA1.o.kp cdr (by simp)) (HA2.o.kp cdr (by simp)) (HA4.o.kp cdr (by simp)) H5.o c;exact⟨x1,x2,x3,(HP1.o.kp cdr (by simp)).kp c (HNX.o _ (Nat.le_refl _)).1⟩
 go_enter Tryz.func129,Tryz.ntmps129;go_wp2_with fail
 have KEEP:Hd (∀W',zE W' rb #[.pointer (some ⟨r,0,none⟩)] 221->zE W' wb #[.pointer (some ⟨W,0,none⟩)] 223->zE W' w.heap.size #[.int .u8 h0,.int .u8 h1,.int .u8 h2,.int .i64 s] 227->(W'.cell? ⟨rb,0,none⟩=some (.pointer (some ⟨r,0,none⟩))/\W'.cell? ⟨wb,0,none⟩=some (.pointer (some ⟨W,0,none⟩))/\W'.cell? ⟨w.heap.size,0,none⟩=some (.int .u8 h0)/\W'.cell? ⟨w.heap.size,1,none⟩=some (.int .u8 h1)/\W'.cell? ⟨w.heap.size,2,none⟩=some (.int .u8 h2)/\W'.cell? ⟨w.heap.size,3,none⟩=some (.int .i64 s))):=fun W' q1 q2 q3=>⟨q1.cl 0 _ rfl,q2.cl 0 _ rfl,q3.cl 0 _ rfl,q3.cl 1 _ rfl,q3.cl 2 _ rfl,q3.cl 3 _ rfl⟩
 have E1:=KEEP.o w1.drew (HA1.o.kp cdr (by simp)) (HA2.o.kp cdr (by simp)) (HP1.o.kp cdr (by simp))
 go_region_held3 (fun w'=>w'.cell? ⟨rb,0,none⟩=some (.pointer (some ⟨r,0,none⟩))/\w'.cell? ⟨wb,0,none⟩=some (.pointer (some ⟨W,0,none⟩))/\w'.cell? ⟨w.heap.size,0,none⟩=some (.int .u8 h0)/\w'.cell? ⟨w.heap.size,1,none⟩=some (.int .u8 h1)/\w'.cell? ⟨w.heap.size,2,none⟩=some (.int .u8 h2)/\w'.cell? ⟨w.heap.size,3,none⟩=some (.int .i64 s)) (first|(exact E5)|(exact E4)|(exact E2)|(exact E1)|go_keep) (first|(go_at_call 131;refine(END.o _ cdr).mono ?_;rintro e w2 ⟨rfl,R2,k2⟩;obtain⟨B1,B2,W2,P2⟩:=RAN.o _ k2;have E2:=KEEP.o w2 B1 B2 P2)|(go_at_call 127;refine(BH HPF.o W2 HS.o o (Nat.le_trans hol (by decide))).mono ?_;rintro e w4 ⟨s4,X4,γ4,rfl,W4,pre4,get4,k4,s4'⟩;have B24:=B2.kp k4 H5.o.2.2.2.2.1;have E4:=KEEP.o w4 (B1.kp k4 H5.o.2.2.1) B24 (P2.kp k4 (HNX.o _ (Nat.le_refl _)).2))|(go_at_call 130;refine(OX W4 get4).mono ?_;rintro e w5 ⟨rfl,k5⟩;have E5:=KEEP.o w5 ((B1.kp k4 H5.o.2.2.1).kp k5 (by simp)) (B24.kp k5 (by simp)) ((P2.kp k4 (HNX.o _ (Nat.le_refl _)).2).kp k5 (by simp))))
 all_goals
  have IN4:=(Jc.walked B1 B2 R2 H5.o k4 W4 s4').kp k5 (by simp);have z1:=HG1.o.size;have z2:=k2.size;have e12:w1.drew.heap.size=w1.heap.size:=rfl;have TOT:Hd (Ch (rb:: wb:: (Xr++Xw)) w w5):=((((HG1.o.mono (by simp)).trans (cdr.mono (by simp))).trans (k2.mono (fun q hq=>by simp[hq]))).trans (k4.mono (fun q hq=>by simp[hq]))).trans (k5.mono (by simp));have HIN:=zC IN4;have HPRE:=zC pre4;have HS4:=zC s4';have HND:=zC W4.nodup;clear IN4 pre4 get4 s4' W4 k4 k5 B1 B2 B24 R2 W2 P2 p0 p1 p2 p3 c1 c2 E1 E2 E4 E5;go_wp2_with fail;go_ret;refine⟨rb:: wb:: (Xr++X4),γ4,rfl,HIN.o,⟨HPRE.o,fun _=>HND.o⟩,TOT.o,fun q hq=> ?_⟩;simp only[List.mem_cons,List.mem_append]at hq ⊢
  rcases hq with h|h|h|h
  ·exact Or.inl (Or.inl h)
  ·exact Or.inl (Or.inr (Or.inl h))
  ·exact Or.inl (Or.inr (Or.inr (Or.inl h)))
  ·rcases HS4.o _ h with h'|h'
   ·exact Or.inl (Or.inr (Or.inr (Or.inr h')))
   ·exact Or.inr (by omega)
end
end Go.Proofs.YteobgfbgglfkbaaGreat
