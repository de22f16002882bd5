import Derived.Test.YteobgfbgglfkbaaGreatJD6
set_option maxHeartbeats 6400000
set_option maxRecDepth 100000
namespace Go.Proofs.YteobgfbgglfkbaaGreat
open Go.RowKit
attribute [local go_sem ↓] Go.wp_at_zero Go.wp_at_succ
theorem Hb{α:Type}{f:α->List Value}{k:Nat}(hk:∀a,(f a).length=k):∀(l:List α) (i t:Nat) (hi:i<l.length),t<k->(l.flatMap f)[i * k+t]? =(f l[i])[t]? :=by
 intro l
 induction l with
 |nil=>intro i t hi;simp at hi
 |cons a l ih=>
  intro i t hi ht;rw[List.flatMap_cons]
  cases i with
  |zero=>rw[List.getElem?_append_left (by rw[hk];omega)];simp
  |succ i=>
   rw[List.getElem?_append_right (by rw[hk,Nat.add_mul];omega),hk,show(i+1) * k+t - k=i * k+t by rw[Nat.add_mul];omega,ih i t (by simpa using hi) ht];simp
theorem CO{w:World}{g n cap:Nat}{bs:List (jo×zF×Nat)}(R:w.ownsRow 0 256 8 (.slice (some ⟨g,0,none⟩) n cap) n (VA bs))(hn:n=bs.length){i:Nat}(hi:i<bs.length):
 w.cell? ⟨g,i * 8,none⟩=some (.int .i64 bs[i].1.K)/\w.cell? ⟨g,i * 8+1,none⟩=some (.int .u8 bs[i].1.c)/\w.cell? ⟨g,i * 8+2,none⟩=some (.int .u64 (bs[i].1.q 0:Nat))/\w.cell? ⟨g,i * 8+3,none⟩=some (.int .u64 (bs[i].1.q 1:Nat))/\w.cell? ⟨g,i * 8+4,none⟩=some (.int .u64 (bs[i].1.q 2:Nat))/\w.cell? ⟨g,i * 8+5,none⟩=some (.int .u64 (bs[i].1.q 3:Nat))/\w.cell? ⟨g,i * 8+6,none⟩=some bs[i].1.g/\w.cell? ⟨g,i * 8+7,none⟩=some (.int .i64 bs[i].1.rp):=by
 have key:∀t v,t<8->bs[i].1.cells[t]? =some v->w.cell? ⟨g,i * 8+t,none⟩=some v:=by
  intro t v ht hv;rw[R.cellAt (i * 8+t) (by omega),VA,Hb (k:=8) (f:=fun p:jo×zF×Nat=>p.1.cells) (fun a=>rfl) bs i t hi ht];exact hv
 exact⟨key 0 _ (by omega) rfl,key 1 _ (by omega) rfl,key 2 _ (by omega) rfl,key 3 _ (by omega) rfl,key 4 _ (by omega) rfl,key 5 _ (by omega) rfl,key 6 _ (by omega) rfl,key 7 _ (by omega) rfl⟩
def Ul(w:World)(P g m:Nat)(nx hv:Nat->Nat->Bool)(B:Nat)(L:zF)(N:Nat)(w5:World):Prop:=
 Ch [P,g] w w5/\∃(g5 m5:Nat) (nx5 hv5:Nat->Nat->Bool) (pc:Pc) (e:Bool) (qf ql:Nat->Nat),zE w5 B (zM false (fun _=>0) (fun _=>0)) 163/\zE w5 (B+1) (zM e qf ql) 163/\pc.e=e/\zU qf pc.f/\zU ql pc.l/\
  JQ w5 P g5 m5 nx5 hv5/\(g5=g\/w.heap.size<=g5)/\g5≠B/\g5≠B+1/\m<=m5/\m5<=m+N/\ji nx5 hv5 m m5 pc L/\(∀p q,p<m->nx5 p q=nx p q)/\(∀c p,p<m->hv5 c p=hv c p)/\Qc hv5 m5
theorem Tw{h:Nat}(hE:VN h){w:World}{F:Nat->Prop}{P g m:Nat}{nx hv:Nat->Nat->Bool}{v:Value}{L:zF}{N:Nat}(hR:VL w F (yC w F h) v L N)(hF:FOk w F P g)(H:JQ w P g m nx hv)(hf:Qc hv m)(hN:m+N<=256):
 Calls Tryz.prog 107 #[.pointer (some ⟨P,0,none⟩),v] w (Yk w P g m nx hv N L):=by
 obtain⟨hPl,hgl,hgP,_⟩:=H.lt;obtain⟨hvF,bs,hO,rfl,rfl,hbs⟩:=hR;obtain⟨ra,rc,rfl⟩:=zQ hO;have hsm:=UN hO;have HBS:=zC hbs;have HE:=zC hE;clear hbs hE;go_enter Tryz.func107,Tryz.ntmps107;go_wp2_with fail;have bA:zE ((w.alloc (.cells (zM false (fun _=>0) (fun _=>0)) 163)).alloc (.cells (zM true (fun _=>0) (fun _=>0)) 163)) w.heap.size (zM false (fun _=>0) (fun _=>0)) 163:=(zE.new w _ _).kp (Ch.alloc [] _ _) (by simp)
 have bB:zE ((w.alloc (.cells (zM false (fun _=>0) (fun _=>0)) 163)).alloc (.cells (zM true (fun _=>0) (fun _=>0)) 163)) (w.heap.size+1) (zM true (fun _=>0) (fun _=>0)) 163:=by
  have:=zE.new (w.alloc (.cells (zM false (fun _=>0) (fun _=>0)) 163)) (zM true (fun _=>0) (fun _=>0)) 163
  simpa using this
 have g0:Ch [] w ((w.alloc (.cells (zM false (fun _=>0) (fun _=>0)) 163)).alloc (.cells (zM true (fun _=>0) (fun _=>0)) 163)):=(Ch.alloc _ _ _).trans (Ch.alloc _ _ _)
 have START:Ul w P g m nx hv w.heap.size (zF.row ((bs.map fun p=>p.2.1).take 0)) 0 ((w.alloc (.cells (zM false (fun _=>0) (fun _=>0)) 163)).alloc (.cells (zM true (fun _=>0) (fun _=>0)) 163)):=
  ⟨g0.mono (by simp),g,m,nx,hv,⟨true,fun _=>false,fun _=>false⟩,true,fun _=>0,fun _=>0,bA,bB,rfl,zU.zero,zU.zero,H.kp g0 (by simp) (by simp),Or.inl rfl,by omega,by omega,by omega,by omega,Eq _ _ _,fun _ _ _=>rfl,fun _ _ _=>rfl,hf⟩
 have HST:=zC START;clear START bA bB
 go_loopw [7,11] (fun _ v w5=>∃i:Nat,v= .int .i64 i/\i<=bs.length/\Ul w P g m nx hv w.heap.size (zF.row ((bs.map fun p=>p.2.1).take i)) (((bs.map fun p=>p.2.2).take i).sum) w5) (fun _ v _=>bs.length - (match v with|.int _ x=>x.toNat|_=>0))
 case atStart=>exact⟨0,rfl,by omega,HST.o⟩
 case round=>
  generalize wr=w5 at *;obtain⟨i,rfl,hi,G5,g5,m5,nx5,hv5,pc,e,qf,ql,A5,B5,hpe,hqf,hql,P5,hg5,hgB,hgB1,hm1,hm2,hpo,hnx,hhv,hfr⟩:=hrel;have z5:=G5.size
  by_cases hlt:i<bs.length
  ·have hlt':(i:Int)<bs.length:=by omega
   have hi0:(0:Int)<=i:=by omega
   obtain⟨gb,rfl,_⟩:=jO hO (by omega);have fgb:=hvF gb rfl;have O5:=ju (w':=w5) hO (fun k hk=>G5.block k (by have:=hF k (hvF k hk);omega) (by have:=hF k (hvF k hk);simp;omega));obtain⟨r0,r1,r2,r3,r4,r5,r6,r7⟩:=CO O5 rfl hlt;obtain⟨⟨ga,gn,gc,hga⟩,A,hLA,⟨hr0,hr3⟩,hk⟩:=HBS.o bs[i] (by simp);rw[hga]at r6 hk;have g6:=Ch.alloc [] w5 (.cells #[.int .i64 bs[i].1.K,.int .u8 bs[i].1.c,.int .u64 (bs[i].1.q 0:Nat),.int .u64 (bs[i].1.q 1:Nat),.int .u64 (bs[i].1.q 2:Nat),.int .u64 (bs[i].1.q 3:Nat),.slice ga gn gc,.int .i64 bs[i].1.rp] 256);have D6:=zE.new w5 #[.int .i64 bs[i].1.K,.int .u8 bs[i].1.c,.int .u64 (bs[i].1.q 0:Nat),.int .u64 (bs[i].1.q 1:Nat),.int .u64 (bs[i].1.q 2:Nat),.int .u64 (bs[i].1.q 3:Nat),.slice ga gn gc,.int .i64 bs[i].1.rp] 256;have A6:=A5.kp g6 (by simp);have B6:=B5.kp g6 (by simp);have P6:=P5.kp g6 (by simp) (by simp)
   have z6:(w5.alloc (.cells #[.int .i64 bs[i].1.K,.int .u8 bs[i].1.c,.int .u64 (bs[i].1.q 0:Nat),.int .u64 (bs[i].1.q 1:Nat),.int .u64 (bs[i].1.q 2:Nat),.int .u64 (bs[i].1.q 3:Nat),.slice ga gn gc,.int .i64 bs[i].1.rp] 256)).heap.size=w5.heap.size+1:=by simp
   have hk6:(bs[i].1.K=0/\bs[i].2.2=1/\0<=bs[i].1.c/\bs[i].1.c<=255/\A=zF.cls [(bs[i].1.c,bs[i].1.c)])\/(bs[i].1.K=1/\bs[i].2.2=1/\A=zF.cls [(0,255)])\/(bs[i].1.K=2/\bs[i].2.2=1/\∃Lc,zU bs[i].1.q (zo Lc)/\A=zF.cls Lc)\/(bs[i].1.K=3/\∃M,bs[i].2.2=M+1/\yC (w5.alloc (.cells #[.int .i64 bs[i].1.K,.int .u8 bs[i].1.c,.int .u64 (bs[i].1.q 0:Nat),.int .u64 (bs[i].1.q 1:Nat),.int .u64 (bs[i].1.q 2:Nat),.int .u64 (bs[i].1.q 3:Nat),.slice ga gn gc,.int .i64 bs[i].1.rp] 256)).drew F h (.slice ga gn gc) A M):=by
    rcases hk with hk|hk|hk|⟨hk,M,hM,hX⟩
    ·exact Or.inl hk
    ·exact Or.inr (Or.inl hk)
    ·exact Or.inr (Or.inr (Or.inl hk))
    ·refine Or.inr (Or.inr (Or.inr ⟨hk,M,hM,yC.frame (fun k hk=> ?_) (fun _ h=>h) _ _ _ _ hX⟩))
     have:=hF k hk
     show(w5.alloc _).heap[k]? =_
     rw[g6.block k (by omega) (by simp),G5.block k (by omega) (by simp;omega)]
   have HK6:=zC hk6;clear hk hk6
   have hm':bs.length - (i+1)<bs.length - i:=by omega
   have hsum:(((bs.map fun p=>p.2.2).take (i+1)).sum)=(((bs.map fun p=>p.2.2).take i).sum)+bs[i].2.2:=by
    rw[List.take_succ_eq_append_getElem (by simpa using hlt),List.sum_append];simp
   have hle:((bs.map fun p=>p.2.2).take (i+1)).sum<=(bs.map fun p=>p.2.2).sum:=by
    conv=>rhs;rw[<- List.take_append_drop (i+1) (bs.map fun p=>p.2.2)]
    rw[List.sum_append];omega
   have hrow:zF.row ((bs.map fun p=>p.2.1).take (i+1))=zF.seq (zF.row ((bs.map fun p=>p.2.1).take i)) bs[i].2.1:=by
    rw[List.take_succ_eq_append_getElem (by simpa using hlt),EV];simp
   have HSUM:=zC hsum;have HLE:=zC hle;have HROW:=zC hrow;have HPO:=zC hpo;have HLA:=zC hLA;clear hsum hle hrow hpo hLA A5 B5 P5;go_wp2_with fail;clear r0 r1 r2 r3 r4 r5 r6 r7;generalize w5.alloc (.cells #[.int .i64 bs[i].1.K,.int .u8 bs[i].1.c,.int .u64 (bs[i].1.q 0:Nat),.int .u64 (bs[i].1.q 1:Nat),.int .u64 (bs[i].1.q 2:Nat),.int .u64 (bs[i].1.q 3:Nat),.slice ga gn gc,.int .i64 bs[i].1.rp] 256)=w6 at *;generalize hD:w5.heap.size=D at *;obtain⟨b0,b1,b2,b3,b4,b5,b6,b7,b8,bf⟩:=B6.c9;have d0:=D6.cl 0 _ rfl;have d1:=D6.cl 1 _ rfl;have d2:=D6.cl 2 _ rfl;have d3:=D6.cl 3 _ rfl;have d4:=D6.cl 4 _ rfl;have d5:=D6.cl 5 _ rfl;have d6:=D6.cl 6 _ rfl;have d7:=D6.cl 7 _ rfl;have lB6:=B6.lt;have B6x:=zC B6;have A6x:=zC A6;have P6x:=zC P6;clear B6 A6 P6;have z0:w6.drew.heap.size=w6.heap.size:=rfl;have RP:YN (yD e qf ql) pc:=⟨qf,ql,by rw[hpe],hqf,hql⟩
   go_region_with (first|(go_at_call 148;refine(Rl HE.o (w:=w6.drew) (F:=F) (N:=bs[i].2.2) (fun k hk=>by have:=hF k hk;refine⟨?_,this.2.1,?_⟩ <;>omega) (P6x.o.kp (Ch.drew [] w6) (by simp) (by simp)) hfr (by have:=HSUM.o;have:=HLE.o;omega) hr0 hr3 HK6.o).mono ?_;rintro r w7 ⟨v7,g7,pc7,m7,nx7,hv7,rfl,⟨qf7,ql7,rfl,hqf7,hql7⟩,ch7,hg7,hp7,hm71,hm72,hpo7,hnx7,hhv7,hfr7⟩;have B7:=(B6x.o.kp (Ch.drew [] w6) (by simp)).kp ch7 (by simp;omega);have A7:=(A6x.o.kp (Ch.drew [] w6) (by simp)).kp ch7 (by simp;omega);obtain⟨k0,k1,k2,k3,k4,k5,k6,k7,k8,kf⟩:=B7.c9;have z7:=ch7.size;have RP7:YN (yD pc7.e qf7 ql7) pc7:=⟨qf7,ql7,rfl,hqf7,hql7⟩;rw[show yD pc7.e qf7 ql7= .agg #[.bool pc7.e,.int .u64 (qf7 0),.int .u64 (qf7 1),.int .u64 (qf7 2),.int .u64 (qf7 3),.int .u64 (ql7 0),.int .u64 (ql7 1),.int .u64 (ql7 2),.int .u64 (ql7 3)]from rfl])|(go_at_call 69;refine(KM (P1:=pc) (P2:=pc7) hp7 RP RP7).mono ?_;rintro r w8 ⟨v8,rfl,⟨qf8,ql8,rfl,hqf8,hql8⟩,ch8,hp8⟩;have B8:=B7.kp ch8 (by simp;omega);have A8:=A7.kp ch8 (by simp;omega);obtain⟨l0,l1,l2,l3,l4,l5,l6,l7,l8,lf⟩:=B8.c9;rw[show yD (yU pc pc7).e qf8 ql8= .agg #[.bool (yU pc pc7).e,.int .u64 (qf8 0),.int .u64 (qf8 1),.int .u64 (qf8 2),.int .u64 (qf8 3),.int .u64 (ql8 0),.int .u64 (ql8 1),.int .u64 (ql8 2),.int .u64 (ql8 3)]from rfl]))
   all_goals
    obtain⟨n9,k9⟩:=B8.lay9 (e':=(yU pc pc7).e) (f':=qf8) (l':=ql8);have z8:=ch8.size;have A9:=A8.kp k9 (by simp);have P9:=hp8.kp k9 (by simp;omega) (by simp;omega);have G9:Ch [P,g] w _:=((((G5.trans' g6 (by simp)).trans' (Ch.drew [] w6) (by simp)).trans' ch7 (by simp;omega)).trans' ch8 (by simp;omega)).trans' k9 (by simp);clear k0 k1 k2 k3 k4 k5 k6 k7 k8 kf l0 l1 l2 l3 l4 l5 l6 l7 l8 lf b0 b1 b2 b3 b4 b5 b6 b7 b8 bf d0 d1 d2 d3 d4 d5 d6 d7
    change Exit.inBlock 1 _ _ _ (lay9 w8 (w.heap.size+1) (yU pc pc7).e qf8 ql8)
    generalize lay9 w8 (w.heap.size+1) (yU pc pc7).e qf8 ql8=w9 at *;go_wp2_with fail;refine⟨⟨i+1,rfl,by omega,G9,g7,m7,_,hv7,yU pc pc7,_,qf8,ql8,A9,n9,rfl,hqf8,hql8,P9,by omega,by omega,by omega,by omega,by have:=HSUM.o;omega,?_,?_,?_,hfr7⟩,hm'⟩
    ·rw[HROW.o,HLA.o]
     exact FT (HPO.o.congr (fun p q _ hp=>hnx7 p q hp) (fun c p _ hp=>hhv7 c p hp)) hpo7 hm1 hm71
    ·intro p q' hpm
     have lNo:pc.l p=false:=by
      cases el:pc.l p with
      |false=>rfl
      |true=>have:=HPO.o.lr p el;omega
     simp only[yl,lNo,Bool.false_and,Bool.or_false];rw[hnx7 p q' (by omega),hnx p q' hpm]
    ·intro c' p hpm
     rw[hhv7 c' p (by omega),hhv c' p hpm]
  ·have hge:¬(i:Int)<bs.length:=by omega
   obtain rfl:i=bs.length:=by omega
   clear hlt;obtain⟨c0,c1,c2,c3,c4,c5,c6,c7,c8,cf⟩:=A5.c9;obtain⟨b0,b1,b2,b3,b4,b5,b6,b7,b8,bf⟩:=B5.c9;have HPO:=zC hpo;clear hpo;go_wp2_with fail;obtain⟨n9,k9⟩:=A5.lay9 (e':=e) (f':=qf) (l':=ql);have P9:=P5.kp k9 (by simp;omega) (by simp;omega);have G9:=G5.trans' k9 (by simp);clear c0 c1 c2 c3 c4 c5 c6 c7 c8 cf b0 b1 b2 b3 b4 b5 b6 b7 b8 bf
   show bodyPost _ _ _ _ _ (lay9 w5 w.heap.size e qf ql)
   generalize lay9 w5 w.heap.size e qf ql=X at *;obtain⟨y0,y1,y2,y3,y4,y5,y6,y7,y8,yf⟩:=n9.c9;refine bodyPost_ret (v:=yD e qf ql) (by simp[results,Tryz.results107,go_sem,yD,zM,y0,y1,y2,y3,y4,y5,y6,y7,y8]) rfl ?_
   have t1:(bs.map fun p=>p.2.1).take bs.length=bs.map fun p=>p.2.1:=List.take_of_length_le (by simp)
   have t2:(bs.map fun p=>p.2.2).take bs.length=bs.map fun p=>p.2.2:=List.take_of_length_le (by simp)
   have hpo:=HPO.o;rw[t1]at hpo;rw[t2]at hm2;exact⟨_,g5,pc,m5,nx5,hv5,rfl,⟨qf,ql,by rw[hpe],hqf,hql⟩,G9,hg5,P9,hm1,hm2,hpo,hnx,hhv,hfr⟩
theorem Sa{h:Nat}(hE:VN h):VN (h+1):=by
 intro w F P g m nx hv v L N hX _ hF H hf hN;obtain⟨hPl,hgl,hgP,_⟩:=H.lt;obtain⟨hvF,rs,hO,rfl,rfl,hrs⟩:=hX;obtain⟨ra,rc,rfl⟩:=zQ hO;have hsm:=UN hO;have HRS:=zC hrs;have HE:=zC hE;clear hrs hE;go_enter Tryz.func70,Tryz.ntmps70;go_wp2_with fail;have bA:zE ((w.alloc (.cells (zM false (fun _=>0) (fun _=>0)) 163)).alloc (.cells (zM false (fun _=>0) (fun _=>0)) 163)) w.heap.size (zM false (fun _=>0) (fun _=>0)) 163:=(zE.new w _ _).kp (Ch.alloc [] _ _) (by simp)
 have bB:zE ((w.alloc (.cells (zM false (fun _=>0) (fun _=>0)) 163)).alloc (.cells (zM false (fun _=>0) (fun _=>0)) 163)) (w.heap.size+1) (zM false (fun _=>0) (fun _=>0)) 163:=by
  have:=zE.new (w.alloc (.cells (zM false (fun _=>0) (fun _=>0)) 163)) (zM false (fun _=>0) (fun _=>0)) 163
  simpa using this
 have g0:Ch [] w ((w.alloc (.cells (zM false (fun _=>0) (fun _=>0)) 163)).alloc (.cells (zM false (fun _=>0) (fun _=>0)) 163)):=(Ch.alloc _ _ _).trans (Ch.alloc _ _ _)
 have START:Ul w P g m nx hv w.heap.size (zF.alt ((rs.map fun p=>p.2.1).take 0)) 0 ((w.alloc (.cells (zM false (fun _=>0) (fun _=>0)) 163)).alloc (.cells (zM false (fun _=>0) (fun _=>0)) 163)):=
  ⟨g0.mono (by simp),g,m,nx,hv,⟨false,fun _=>false,fun _=>false⟩,false,fun _=>0,fun _=>0,bA,bB,rfl,zU.zero,zU.zero,H.kp g0 (by simp) (by simp),Or.inl rfl,by omega,by omega,by omega,by omega,CI _ _ _,fun _ _ _=>rfl,fun _ _ _=>rfl,hf⟩
 have HST:=zC START;clear START bA bB
 go_loopw [7,8,11] (fun _ _ v w5=>∃i:Nat,v= .int .i64 i/\i<=rs.length/\Ul w P g m nx hv w.heap.size (zF.alt ((rs.map fun p=>p.2.1).take i)) (((rs.map fun p=>p.2.2).take i).sum) w5) (fun _ _ v _=>rs.length - (match v with|.int _ x=>x.toNat|_=>0))
 case atStart=>exact⟨0,rfl,by omega,HST.o⟩
 case round=>
  generalize wr=w5 at *;obtain⟨i,rfl,hi,G5,g5,m5,nx5,hv5,pc,e,qf,ql,A5,B5,hpe,hqf,hql,P5,hg5,hgB,hgB1,hm1,hm2,hpo,hnx,hhv,hfr⟩:=hrel;have z5:=G5.size
  by_cases hlt:i<rs.length
  ·have hlt':(i:Int)<rs.length:=by omega
   have hi0:(0:Int)<=i:=by omega
   obtain⟨gb,rfl,_⟩:=jO hO (by omega);have fgb:=hvF gb rfl;have O5:=ju (w':=w5) hO (fun k hk=>G5.block k (by have:=hF k (hvF k hk);omega) (by have:=hF k (hvF k hk);simp;omega));have r0:=O5.cellAt i (by omega);rw[show(rs.map fun p=>p.1)[i]? =some rs[i].1 from by simp[hlt]]at r0
   have frm:∀k,F k->w5.heap[k]? =w.heap[k]? :=fun k hk=>G5.block k (by have:=hF k hk;omega) (by have:=hF k hk;simp;omega)
   have hrow:=(HRS.o rs[i] (by simp)).mono (w':=w5) frm (fun _ h=>h) (fun v L N hx=>yC.frame frm (fun _ h=>h) h v L N hx)
   obtain⟨xa,xn,xc,hxv⟩:JI rs[i].1:=by
    obtain⟨_,b,hb,_⟩:=hrow;obtain⟨a,c,e⟩:=zQ hb;exact⟨a,_,c,e⟩
   rw[hxv]at r0 hrow
   have hm':rs.length - (i+1)<rs.length - i:=by omega
   have hsum:(((rs.map fun p=>p.2.2).take (i+1)).sum)=(((rs.map fun p=>p.2.2).take i).sum)+rs[i].2.2:=by
    rw[List.take_succ_eq_append_getElem (by simpa using hlt),List.sum_append];simp
   have hle:((rs.map fun p=>p.2.2).take (i+1)).sum<=(rs.map fun p=>p.2.2).sum:=by
    conv=>rhs;rw[<- List.take_append_drop (i+1) (rs.map fun p=>p.2.2)]
    rw[List.sum_append];omega
   have halt:zF.alt ((rs.map fun p=>p.2.1).take (i+1))=zF.alt ((rs.map fun p=>p.2.1).take i++[rs[i].2.1]):=by
    rw[List.take_succ_eq_append_getElem (by simpa using hlt)];simp
   have HSUM:=zC hsum;have HLE:=zC hle;have HALT:=zC halt;have HPO:=zC hpo;have HROW:=zC hrow;clear hsum hle halt hpo hrow;go_wp2_with fail;refine(Tw HE.o (F:=F) HROW.o (fun k hk=>by have:=hF k hk;refine⟨?_,this.2.1,?_⟩ <;>omega) P5 hfr (by have:=HSUM.o;have:=HLE.o;omega)).mono ?_;rintro r w7 ⟨v7,g7,pc7,m7,nx7,hv7,rfl,⟨qf7,ql7,rfl,hqf7,hql7⟩,ch7,hg7,hp7,hm71,hm72,hpo7,hnx7,hhv7,hfr7⟩;clear r0;have lB5:=B5.lt;have B7:=B5.kp ch7 (by simp;omega);have A7:=A5.kp ch7 (by simp;omega);have z7:=ch7.size
   have kl1:w.heap.size+1<w7.heap.size:=by omega
   obtain⟨b0,b1,b2,b3,b4,b5,b6,b7,b8,bf⟩:=B7.c9;rw[show yD pc7.e qf7 ql7= .agg #[.bool pc7.e,.int .u64 (qf7 0),.int .u64 (qf7 1),.int .u64 (qf7 2),.int .u64 (qf7 3),.int .u64 (ql7 0),.int .u64 (ql7 1),.int .u64 (ql7 2),.int .u64 (ql7 3)]from rfl];cases e
   ·go_wp2_with fail
    have hs:Ch [w.heap.size+1] w7 (w7.setCell ⟨w.heap.size+1,0,none⟩ (.bool pc7.e)):=Ch.setCell _ (by simp) _;have B8:zE (w7.setCell ⟨w.heap.size+1,0,none⟩ (.bool pc7.e)) (w.heap.size+1) (zM pc7.e qf ql) 163:=B7.set 0 _;have A8:=A7.kp hs (by simp);have P8:=hp7.kp hs (by simp;omega) (by simp;omega)
    have z8:(w7.setCell ⟨w.heap.size+1,0,none⟩ (.bool pc7.e)).heap.size=w7.heap.size:=by simp[World.setCell]
    clear b0 b1 b2 b3 b4 b5 b6 b7 b8 bf;generalize w7.setCell ⟨w.heap.size+1,0,none⟩ (.bool pc7.e)=w8 at *;have hD:=Ch.alloc [] w8 (.cells (zM pc7.e qf7 ql7) 163);have D9:=zE.new w8 (zM pc7.e qf7 ql7) 163;rw[z8]at D9;have B9:=B8.kp hD (by simp);have A9:=A8.kp hD (by simp);have P9:=P8.kp hD (by simp) (by simp)
    have z9:(w8.alloc (.cells (zM pc7.e qf7 ql7) 163)).heap.size=w8.heap.size+1:=by simp
    rw[show w8.alloc (.cells #[.bool pc7.e,.int .u64 (qf7 0),.int .u64 (qf7 1),.int .u64 (qf7 2),.int .u64 (qf7 3),.int .u64 (ql7 0),.int .u64 (ql7 1),.int .u64 (ql7 2),.int .u64 (ql7 3)] 163)=w8.alloc (.cells (zM pc7.e qf7 ql7) 163)from rfl];generalize w8.alloc (.cells (zM pc7.e qf7 ql7) 163)=w9 at *;generalize hDD:w7.heap.size=D at *;refine(YW (q1:=qf) (q2:=qf7) hqf.1 hqf7.1).mono ?_;rintro r wa ⟨rfl,ha⟩;rw[show zS (fun t=>qf t ||| qf7 t)= .agg #[.int .u64 (qf 0 ||| qf7 0:Nat),.int .u64 (qf 1 ||| qf7 1:Nat),.int .u64 (qf 2 ||| qf7 2:Nat),.int .u64 (qf 3 ||| qf7 3:Nat)]from rfl];have Ba:=B9.kp ha (by simp);have Aa:=A9.kp ha (by simp);have Da:=D9.kp ha (by simp);have Pa:=P9.kp ha (by simp) (by simp);obtain⟨b0,b1,b2,b3,b4,b5,b6,b7,b8,bf⟩:=Ba.c9;obtain⟨d0,d1,d2,d3,d4,d5,d6,d7,d8,df⟩:=Da.c9;have za:=ha.size;go_wp2_with fail;obtain⟨Bb,hb⟩:=Ba.setF (fun t=>qf t ||| qf7 t)
    try simp only at Bb hb
    have Ab:=Aa.kp hb (by simp);have Db:=Da.kp hb (by simp;omega);have Pb:=Pa.kp hb (by simp;omega) (by simp;omega);clear b0 b1 b2 b3 b4 b5 b6 b7 b8 bf d0 d1 d2 d3 d4 d5 d6 d7 d8 df;have zb:=hb.size;generalize (((wa.setCell ⟨w.heap.size+1,1,none⟩ (.int .u64 (qf 0 ||| qf7 0:Nat))).setCell ⟨w.heap.size+1,2,none⟩ (.int .u64 (qf 1 ||| qf7 1:Nat))).setCell ⟨w.heap.size+1,3,none⟩ (.int .u64 (qf 2 ||| qf7 2:Nat))).setCell ⟨w.heap.size+1,4,none⟩ (.int .u64 (qf 3 ||| qf7 3:Nat))=wb at *;refine(YW (q1:=ql) (q2:=ql7) hql.1 hql7.1).mono ?_;rintro r wc ⟨rfl,hc⟩;rw[show zS (fun t=>ql t ||| ql7 t)= .agg #[.int .u64 (ql 0 ||| ql7 0:Nat),.int .u64 (ql 1 ||| ql7 1:Nat),.int .u64 (ql 2 ||| ql7 2:Nat),.int .u64 (ql 3 ||| ql7 3:Nat)]from rfl];have Bc:=Bb.kp hc (by simp);have Ac:=Ab.kp hc (by simp);have Pc':=Pb.kp hc (by simp) (by simp);obtain⟨b0,b1,b2,b3,b4,b5,b6,b7,b8,bf⟩:=Bc.c9;have zc:=hc.size;go_wp2_with fail;obtain⟨Bd,hd⟩:=Bc.setL (fun t=>ql t ||| ql7 t)
    try simp only at Bd hd
    have Ad:=Ac.kp hd (by simp);have Pd:=Pc'.kp hd (by simp;omega) (by simp;omega);clear b0 b1 b2 b3 b4 b5 b6 b7 b8 bf;generalize (((wc.setCell ⟨w.heap.size+1,5,none⟩ (.int .u64 (ql 0 ||| ql7 0:Nat))).setCell ⟨w.heap.size+1,6,none⟩ (.int .u64 (ql 1 ||| ql7 1:Nat))).setCell ⟨w.heap.size+1,7,none⟩ (.int .u64 (ql 2 ||| ql7 2:Nat))).setCell ⟨w.heap.size+1,8,none⟩ (.int .u64 (ql 3 ||| ql7 3:Nat))=wd at *;have GG:Ch [P,g] w wd:=((((((G5.trans' ch7 (by simp;omega)).trans' hs (by simp)).trans' hD (by simp)).trans' ha (by simp)).trans' hb (by simp)).trans' hc (by simp)).trans' hd (by simp);refine⟨⟨i+1,rfl,by omega,GG,g7,m7,nx7,hv7,Jz pc pc7,_,_,_,Ad,Bd,by simp[Jz,hpe],hqf.or hqf7,hql.or hql7,Pd,by omega,by omega,by omega,by omega,by have:=HSUM.o;omega,?_,?_,?_,hfr7⟩,hm'⟩
    ·rw[HALT.o]
     exact EE (HPO.o.congr (fun p q _ hp=>hnx7 p q hp) (fun c p _ hp=>hhv7 c p hp)) hpo7 hm1 hm71
    ·intro p q' hpm
     rw[hnx7 p q' (by omega),hnx p q' hpm]
    ·intro c' p hpm
     rw[hhv7 c' p (by omega),hhv c' p hpm]
   ·go_wp2_with fail
    have hs:Ch [w.heap.size+1] w7 (w7.setCell ⟨w.heap.size+1,0,none⟩ (.bool true)):=Ch.setCell _ (by simp) _;have B8:zE (w7.setCell ⟨w.heap.size+1,0,none⟩ (.bool true)) (w.heap.size+1) (zM true qf ql) 163:=B7.set 0 _;have A8:=A7.kp hs (by simp);have P8:=hp7.kp hs (by simp;omega) (by simp;omega)
    have z8:(w7.setCell ⟨w.heap.size+1,0,none⟩ (.bool true)).heap.size=w7.heap.size:=by simp[World.setCell]
    clear b0 b1 b2 b3 b4 b5 b6 b7 b8 bf;generalize w7.setCell ⟨w.heap.size+1,0,none⟩ (.bool true)=w8 at *;have hD:=Ch.alloc [] w8 (.cells (zM pc7.e qf7 ql7) 163);have D9:=zE.new w8 (zM pc7.e qf7 ql7) 163;rw[z8]at D9;have B9:=B8.kp hD (by simp);have A9:=A8.kp hD (by simp);have P9:=P8.kp hD (by simp) (by simp)
    have z9:(w8.alloc (.cells (zM pc7.e qf7 ql7) 163)).heap.size=w8.heap.size+1:=by simp
    rw[show w8.alloc (.cells #[.bool pc7.e,.int .u64 (qf7 0),.int .u64 (qf7 1),.int .u64 (qf7 2),.int .u64 (qf7 3),.int .u64 (ql7 0),.int .u64 (ql7 1),.int .u64 (ql7 2),.int .u64 (ql7 3)] 163)=w8.alloc (.cells (zM pc7.e qf7 ql7) 163)from rfl];generalize w8.alloc (.cells (zM pc7.e qf7 ql7) 163)=w9 at *;generalize hDD:w7.heap.size=D at *;refine(YW (q1:=qf) (q2:=qf7) hqf.1 hqf7.1).mono ?_;rintro r wa ⟨rfl,ha⟩;rw[show zS (fun t=>qf t ||| qf7 t)= .agg #[.int .u64 (qf 0 ||| qf7 0:Nat),.int .u64 (qf 1 ||| qf7 1:Nat),.int .u64 (qf 2 ||| qf7 2:Nat),.int .u64 (qf 3 ||| qf7 3:Nat)]from rfl];have Ba:=B9.kp ha (by simp);have Aa:=A9.kp ha (by simp);have Da:=D9.kp ha (by simp);have Pa:=P9.kp ha (by simp) (by simp);obtain⟨b0,b1,b2,b3,b4,b5,b6,b7,b8,bf⟩:=Ba.c9;obtain⟨d0,d1,d2,d3,d4,d5,d6,d7,d8,df⟩:=Da.c9;have za:=ha.size;go_wp2_with fail;obtain⟨Bb,hb⟩:=Ba.setF (fun t=>qf t ||| qf7 t)
    try simp only at Bb hb
    have Ab:=Aa.kp hb (by simp);have Db:=Da.kp hb (by simp;omega);have Pb:=Pa.kp hb (by simp;omega) (by simp;omega);clear b0 b1 b2 b3 b4 b5 b6 b7 b8 bf d0 d1 d2 d3 d4 d5 d6 d7 d8 df;have zb:=hb.size;generalize (((wa.setCell ⟨w.heap.size+1,1,none⟩ (.int .u64 (qf 0 ||| qf7 0:Nat))).setCell ⟨w.heap.size+1,2,none⟩ (.int .u64 (qf 1 ||| qf7 1:Nat))).setCell ⟨w.heap.size+1,3,none⟩ (.int .u64 (qf 2 ||| qf7 2:Nat))).setCell ⟨w.heap.size+1,4,none⟩ (.int .u64 (qf 3 ||| qf7 3:Nat))=wb at *;refine(YW (q1:=ql) (q2:=ql7) hql.1 hql7.1).mono ?_;rintro r wc ⟨rfl,hc⟩;rw[show zS (fun t=>ql t ||| ql7 t)= .agg #[.int .u64 (ql 0 ||| ql7 0:Nat),.int .u64 (ql 1 ||| ql7 1:Nat),.int .u64 (ql 2 ||| ql7 2:Nat),.int .u64 (ql 3 ||| ql7 3:Nat)]from rfl];have Bc:=Bb.kp hc (by simp);have Ac:=Ab.kp hc (by simp);have Pc':=Pb.kp hc (by simp) (by simp);obtain⟨b0,b1,b2,b3,b4,b5,b6,b7,b8,bf⟩:=Bc.c9;have zc:=hc.size;go_wp2_with fail;obtain⟨Bd,hd⟩:=Bc.setL (fun t=>ql t ||| ql7 t)
    try simp only at Bd hd
    have Ad:=Ac.kp hd (by simp);have Pd:=Pc'.kp hd (by simp;omega) (by simp;omega);clear b0 b1 b2 b3 b4 b5 b6 b7 b8 bf;generalize (((wc.setCell ⟨w.heap.size+1,5,none⟩ (.int .u64 (ql 0 ||| ql7 0:Nat))).setCell ⟨w.heap.size+1,6,none⟩ (.int .u64 (ql 1 ||| ql7 1:Nat))).setCell ⟨w.heap.size+1,7,none⟩ (.int .u64 (ql 2 ||| ql7 2:Nat))).setCell ⟨w.heap.size+1,8,none⟩ (.int .u64 (ql 3 ||| ql7 3:Nat))=wd at *;have GG:Ch [P,g] w wd:=((((((G5.trans' ch7 (by simp;omega)).trans' hs (by simp)).trans' hD (by simp)).trans' ha (by simp)).trans' hb (by simp)).trans' hc (by simp)).trans' hd (by simp);refine⟨⟨i+1,rfl,by omega,GG,g7,m7,nx7,hv7,Jz pc pc7,_,_,_,Ad,Bd,by simp[Jz,hpe],hqf.or hqf7,hql.or hql7,Pd,by omega,by omega,by omega,by omega,by have:=HSUM.o;omega,?_,?_,?_,hfr7⟩,hm'⟩
    ·rw[HALT.o]
     exact EE (HPO.o.congr (fun p q _ hp=>hnx7 p q hp) (fun c p _ hp=>hhv7 c p hp)) hpo7 hm1 hm71
    ·intro p q' hpm
     rw[hnx7 p q' (by omega),hnx p q' hpm]
    ·intro c' p hpm
     rw[hhv7 c' p (by omega),hhv c' p hpm]
  ·have hge:¬(i:Int)<rs.length:=by omega
   obtain rfl:i=rs.length:=by omega
   clear hlt;obtain⟨c0,c1,c2,c3,c4,c5,c6,c7,c8,cf⟩:=A5.c9;obtain⟨b0,b1,b2,b3,b4,b5,b6,b7,b8,bf⟩:=B5.c9;have HPO:=zC hpo;clear hpo;go_wp2_with fail;obtain⟨n9,k9⟩:=A5.lay9 (e':=e) (f':=qf) (l':=ql);have P9:=P5.kp k9 (by simp;omega) (by simp;omega);have G9:=G5.trans' k9 (by simp);clear c0 c1 c2 c3 c4 c5 c6 c7 c8 cf b0 b1 b2 b3 b4 b5 b6 b7 b8 bf
   show bodyPost _ _ _ _ _ (lay9 w5 w.heap.size e qf ql)
   generalize lay9 w5 w.heap.size e qf ql=X at *;obtain⟨y0,y1,y2,y3,y4,y5,y6,y7,y8,yf⟩:=n9.c9;refine bodyPost_ret (v:=yD e qf ql) (by simp[results,Tryz.results70,go_sem,yD,zM,y0,y1,y2,y3,y4,y5,y6,y7,y8]) rfl ?_
   have t1:(rs.map fun p=>p.2.1).take rs.length=rs.map fun p=>p.2.1:=List.take_of_length_le (by simp)
   have t2:(rs.map fun p=>p.2.2).take rs.length=rs.map fun p=>p.2.2:=List.take_of_length_le (by simp)
   have hpo:=HPO.o;rw[t1]at hpo;rw[t2]at hm2;exact⟨_,g5,pc,m5,nx5,hv5,rfl,⟨qf,ql,by rw[hpe],hqf,hql⟩,G9,hg5,P9,hm1,hm2,hpo,hnx,hhv,hfr⟩
theorem Dy:∀h,VN h
 |0=>fun _ _ _ _ _ _ _ _ _ _ hx=>hx.elim
 |h+1=>Sa (Dy h)
end Go.Proofs.YteobgfbgglfkbaaGreat
