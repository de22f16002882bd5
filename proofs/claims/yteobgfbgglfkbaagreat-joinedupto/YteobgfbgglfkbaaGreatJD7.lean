import Derived.Test.YteobgfbgglfkbaaGreatJD6
namespace Go.Proofs.YteobgfbgglfkbaaGreat
open Go.RowKit
attribute [local go_sem ↓] Go.wp_at_zero Go.wp_at_succ
theorem flat_get{α:Type}{f:α→List Value}{k:Nat}(hk:∀a,(f a).length=k):∀(l:List α) (i t:Nat) (hi:i<l.length),t<k→(l.flatMap f)[i * k+t]? =(f l[i])[t]? :=by
 intro l
 induction l with
 |nil=>intro i t hi;simp at hi
 |cons a l ih=>
  intro i t hi ht;rw [List.flatMap_cons]
  cases i with
  |zero=>rw [List.getElem?_append_left (by rw [hk];omega)];simp
  |succ i=>
   rw [List.getElem?_append_right (by rw [hk,Nat.add_mul];omega),hk,show (i+1) * k+t - k=i * k+t by rw [Nat.add_mul];omega,ih i t (by simpa using hi) ht];simp
theorem rowBase{w:World}{g n cap:Nat}{bs:List (zCo×Lang×Nat)}(R:w.ownsRow 0 256 8 (.slice (some ⟨g,0,none⟩) n cap) n (zDc bs))(hn:n=bs.length){i:Nat}(hi:i<bs.length):
  w.cell? ⟨g,i * 8,none⟩=some (.int .i64 bs[i].1.K)∧w.cell? ⟨g,i * 8+1,none⟩=some (.int .u8 bs[i].1.c)∧w.cell? ⟨g,i * 8+2,none⟩=some (.int .u64 (bs[i].1.q 0:Nat))∧w.cell? ⟨g,i * 8+3,none⟩=some (.int .u64 (bs[i].1.q 1:Nat))∧w.cell? ⟨g,i * 8+4,none⟩=some (.int .u64 (bs[i].1.q 2:Nat))∧w.cell? ⟨g,i * 8+5,none⟩=some (.int .u64 (bs[i].1.q 3:Nat))∧w.cell? ⟨g,i * 8+6,none⟩=some bs[i].1.g∧w.cell? ⟨g,i * 8+7,none⟩=some (.int .i64 bs[i].1.rp):=by
 have key:∀t v,t<8→bs[i].1.cells[t]? =some v→w.cell? ⟨g,i * 8+t,none⟩=some v:=by
  intro t v ht hv;rw [R.cellAt (i * 8+t) (by omega),zDc,flat_get (k:=8) (f:=fun p:zCo×Lang×Nat=>p.1.cells) (fun a=>rfl) bs i t hi ht];exact hv
 exact ⟨key 0 _ (by omega) rfl,key 1 _ (by omega) rfl,key 2 _ (by omega) rfl,key 3 _ (by omega) rfl,key 4 _ (by omega) rfl,key 5 _ (by omega) rfl,key 6 _ (by omega) rfl,key 7 _ (by omega) rfl⟩
def zKm(w:World)(P g m:Nat)(nx hv:Nat→Nat→Bool)(B:Nat)(L:Lang)(N:Nat)(w5:World):Prop:=
 Ch [P,g] w w5∧∃(g5 m5:Nat) (nx5 hv5:Nat→Nat→Bool) (pc:Pc) (e:Bool) (qf ql:Nat→Nat),zAD w5 B (pcC false (fun _=>0) (fun _=>0)) 163∧zAD w5 (B+1) (pcC e qf ql) 163∧pc.e=e∧SetF qf pc.f∧SetF ql pc.l∧
  PatG w5 P g5 m5 nx5 hv5∧(g5=g∨w.heap.size≤g5)∧g5≠B∧g5≠B+1∧m≤m5∧m5≤m+N∧POk nx5 hv5 m m5 pc L∧(∀p q,p<m→nx5 p q=nx p q)∧(∀c p,p<m→hv5 c p=hv c p)∧zKN hv5 m5
set_option maxRecDepth 100000 in
set_option maxHeartbeats 6400000 in
theorem zLd{h:Nat}(hE:AddE h){w:World}{F:Nat→Prop}{P g m:Nat}{nx hv:Nat→Nat→Bool}{v:Value}{L:Lang}{N:Nat}(hR:zF9 w F (zAS w F h) v L N)(hF:FOk w F P g)(H:PatG w P g m nx hv)(hf:zKN hv m)(hN:m+N≤256):
  Calls Tryz.prog 107 #[.pointer (some ⟨P,0,none⟩),v] w (zDJ w P g m nx hv N L):=by
 obtain ⟨hPl,hgl,hgP,_⟩:=H.lt;obtain ⟨hvF,bs,hO,rfl,rfl,hbs⟩:=hR;obtain ⟨ra,rc,rfl⟩:=zAC hO;have hsm:=zEu hO;have HBS:=hide hbs;have HE:=hide hE;clear hbs hE;go_enter Tryz.func107,Tryz.ntmps107;go_wp2_with fail;have bA:zAD ((w.alloc (.cells (pcC false (fun _=>0) (fun _=>0)) 163)).alloc (.cells (pcC true (fun _=>0) (fun _=>0)) 163)) w.heap.size (pcC false (fun _=>0) (fun _=>0)) 163:=(zAD.new w _ _).keep (Ch.alloc [] _ _) (by simp)
 have bB:zAD ((w.alloc (.cells (pcC false (fun _=>0) (fun _=>0)) 163)).alloc (.cells (pcC true (fun _=>0) (fun _=>0)) 163)) (w.heap.size+1) (pcC true (fun _=>0) (fun _=>0)) 163:=by
  have:=zAD.new (w.alloc (.cells (pcC false (fun _=>0) (fun _=>0)) 163)) (pcC true (fun _=>0) (fun _=>0)) 163
  simpa using this
 have g0:Ch [] w ((w.alloc (.cells (pcC false (fun _=>0) (fun _=>0)) 163)).alloc (.cells (pcC true (fun _=>0) (fun _=>0)) 163)):=(Ch.alloc _ _ _).trans (Ch.alloc _ _ _)
 have START:zKm w P g m nx hv w.heap.size (Lang.row ((bs.map fun p=>p.2.1).take 0)) 0 ((w.alloc (.cells (pcC false (fun _=>0) (fun _=>0)) 163)).alloc (.cells (pcC true (fun _=>0) (fun _=>0)) 163)):=
  ⟨g0.mono (by simp),g,m,nx,hv,⟨true,fun _=>false,fun _=>false⟩,true,fun _=>0,fun _=>0,bA,bB,rfl,SetF.zero,SetF.zero,H.keep g0 (by simp) (by simp),Or.inl rfl,by omega,by omega,by omega,by omega,eps_ok _ _ _,fun _ _ _=>rfl,fun _ _ _=>rfl,hf⟩
 have HST:=hide START;clear START bA bB
 go_loopw [7,11] (fun _ v w5=>∃i:Nat,v= .int .i64 i∧i≤bs.length∧zKm w P g m nx hv w.heap.size (Lang.row ((bs.map fun p=>p.2.1).take i)) (((bs.map fun p=>p.2.2).take i).sum) w5) (fun _ v _=>bs.length - (match v with | .int _ x=>x.toNat | _=>0))
 case atStart=>exact ⟨0,rfl,by omega,HST.out⟩
 case round=>
  generalize wr=w5 at *;obtain ⟨i,rfl,hi,G5,g5,m5,nx5,hv5,pc,e,qf,ql,A5,B5,hpe,hqf,hql,P5,hg5,hgB,hgB1,hm1,hm2,hpo,hnx,hhv,hfr⟩:=hrel;have z5:=G5.size
  by_cases hlt:i<bs.length
  ·have hlt':(i:Int)<bs.length:=by omega
   have hi0:(0:Int)≤i:=by omega
   obtain ⟨gb,rfl,_⟩:=zAc hO (by omega);have fgb:=hvF gb rfl;have O5:=zAa (w':=w5) hO (fun k hk=>G5.block k (by have:=hF k (hvF k hk);omega) (by have:=hF k (hvF k hk);simp;omega));obtain ⟨r0,r1,r2,r3,r4,r5,r6,r7⟩:=rowBase O5 rfl hlt;obtain ⟨⟨ga,gn,gc,hga⟩,A,hLA,⟨hr0,hr3⟩,hk⟩:=HBS.out bs[i] (by simp);rw [hga] at r6 hk;have g6:=Ch.alloc [] w5 (.cells #[.int .i64 bs[i].1.K,.int .u8 bs[i].1.c,.int .u64 (bs[i].1.q 0:Nat),.int .u64 (bs[i].1.q 1:Nat),.int .u64 (bs[i].1.q 2:Nat),.int .u64 (bs[i].1.q 3:Nat),.slice ga gn gc,.int .i64 bs[i].1.rp] 256);have D6:=zAD.new w5 #[.int .i64 bs[i].1.K,.int .u8 bs[i].1.c,.int .u64 (bs[i].1.q 0:Nat),.int .u64 (bs[i].1.q 1:Nat),.int .u64 (bs[i].1.q 2:Nat),.int .u64 (bs[i].1.q 3:Nat),.slice ga gn gc,.int .i64 bs[i].1.rp] 256;have A6:=A5.keep g6 (by simp);have B6:=B5.keep g6 (by simp);have P6:=P5.keep g6 (by simp) (by simp)
   have z6:(w5.alloc (.cells #[.int .i64 bs[i].1.K,.int .u8 bs[i].1.c,.int .u64 (bs[i].1.q 0:Nat),.int .u64 (bs[i].1.q 1:Nat),.int .u64 (bs[i].1.q 2:Nat),.int .u64 (bs[i].1.q 3:Nat),.slice ga gn gc,.int .i64 bs[i].1.rp] 256)).heap.size=w5.heap.size+1:=by simp
   have hk6:(bs[i].1.K=0∧bs[i].2.2=1∧0≤bs[i].1.c∧bs[i].1.c≤255∧A=Lang.cls [(bs[i].1.c,bs[i].1.c)])∨(bs[i].1.K=1∧bs[i].2.2=1∧A=Lang.cls [(0,255)])∨(bs[i].1.K=2∧bs[i].2.2=1∧∃Lc,SetF bs[i].1.q (zAj Lc)∧A=Lang.cls Lc)∨(bs[i].1.K=3∧∃M,bs[i].2.2=M+1∧zAS (w5.alloc (.cells #[.int .i64 bs[i].1.K,.int .u8 bs[i].1.c,.int .u64 (bs[i].1.q 0:Nat),.int .u64 (bs[i].1.q 1:Nat),.int .u64 (bs[i].1.q 2:Nat),.int .u64 (bs[i].1.q 3:Nat),.slice ga gn gc,.int .i64 bs[i].1.rp] 256)).drew F h (.slice ga gn gc) A M):=by
    rcases hk with hk | hk | hk | ⟨hk,M,hM,hX⟩
    ·exact Or.inl hk
    ·exact Or.inr (Or.inl hk)
    ·exact Or.inr (Or.inr (Or.inl hk))
    ·refine Or.inr (Or.inr (Or.inr ⟨hk,M,hM,zAS.frame (fun k hk=> ?_) (fun _ h=>h) _ _ _ _ hX⟩))
     have:=hF k hk
     show (w5.alloc _).heap[k]? =_
     rw [g6.block k (by omega) (by simp),G5.block k (by omega) (by simp;omega)]
   have HK6:=hide hk6;clear hk hk6
   have hm':bs.length - (i+1)<bs.length - i:=by omega
   have hsum:(((bs.map fun p=>p.2.2).take (i+1)).sum)=(((bs.map fun p=>p.2.2).take i).sum)+bs[i].2.2:=by
    rw [List.take_succ_eq_append_getElem (by simpa using hlt),List.sum_append];simp
   have hle:((bs.map fun p=>p.2.2).take (i+1)).sum≤(bs.map fun p=>p.2.2).sum:=by
    conv=>rhs;rw [← List.take_append_drop (i+1) (bs.map fun p=>p.2.2)]
    rw [List.sum_append];omega
   have hrow:Lang.row ((bs.map fun p=>p.2.1).take (i+1))=Lang.seq (Lang.row ((bs.map fun p=>p.2.1).take i)) bs[i].2.1:=by
    rw [List.take_succ_eq_append_getElem (by simpa using hlt),row_snoc];simp
   have HSUM:=hide hsum;have HLE:=hide hle;have HROW:=hide hrow;have HPO:=hide hpo;have HLA:=hide hLA;clear hsum hle hrow hpo hLA A5 B5 P5;go_wp2_with fail;clear r0 r1 r2 r3 r4 r5 r6 r7;generalize w5.alloc (.cells #[.int .i64 bs[i].1.K,.int .u8 bs[i].1.c,.int .u64 (bs[i].1.q 0:Nat),.int .u64 (bs[i].1.q 1:Nat),.int .u64 (bs[i].1.q 2:Nat),.int .u64 (bs[i].1.q 3:Nat),.slice ga gn gc,.int .i64 bs[i].1.rp] 256)=w6 at *;generalize hD:w5.heap.size=D at *;obtain ⟨b0,b1,b2,b3,b4,b5,b6,b7,b8,bf⟩:=B6.c9;have d0:=D6.cell 0 _ rfl;have d1:=D6.cell 1 _ rfl;have d2:=D6.cell 2 _ rfl;have d3:=D6.cell 3 _ rfl;have d4:=D6.cell 4 _ rfl;have d5:=D6.cell 5 _ rfl;have d6:=D6.cell 6 _ rfl;have d7:=D6.cell 7 _ rfl;have lB6:=B6.lt;have B6x:=hide B6;have A6x:=hide A6;have P6x:=hide P6;clear B6 A6 P6;have z0:w6.drew.heap.size=w6.heap.size:=rfl;have RP:zGI (pcV e qf ql) pc:=⟨qf,ql,by rw [hpe],hqf,hql⟩
   go_region_with (first | (go_at_call 148;refine (zGF HE.out (w:=w6.drew) (F:=F) (N:=bs[i].2.2) (fun k hk=>by have:=hF k hk;refine ⟨?_,this.2.1,?_⟩ <;>omega) (P6x.out.keep (Ch.drew [] w6) (by simp) (by simp)) hfr (by have:=HSUM.out;have:=HLE.out;omega) hr0 hr3 HK6.out).mono ?_;rintro r w7 ⟨v7,g7,pc7,m7,nx7,hv7,rfl,⟨qf7,ql7,rfl,hqf7,hql7⟩,ch7,hg7,hp7,hm71,hm72,hpo7,hnx7,hhv7,hfr7⟩;have B7:=(B6x.out.keep (Ch.drew [] w6) (by simp)).keep ch7 (by simp;omega);have A7:=(A6x.out.keep (Ch.drew [] w6) (by simp)).keep ch7 (by simp;omega);obtain ⟨k0,k1,k2,k3,k4,k5,k6,k7,k8,kf⟩:=B7.c9;have z7:=ch7.size;have RP7:zGI (pcV pc7.e qf7 ql7) pc7:=⟨qf7,ql7,rfl,hqf7,hql7⟩;rw [show pcV pc7.e qf7 ql7= .agg #[.bool pc7.e,.int .u64 (qf7 0:Nat),.int .u64 (qf7 1:Nat),.int .u64 (qf7 2:Nat),.int .u64 (qf7 3:Nat),.int .u64 (ql7 0:Nat),.int .u64 (ql7 1:Nat),.int .u64 (ql7 2:Nat),.int .u64 (ql7 3:Nat)] from rfl]) | (go_at_call 69;refine (zFS (P1:=pc) (P2:=pc7) hp7 RP RP7).mono ?_;rintro r w8 ⟨v8,rfl,⟨qf8,ql8,rfl,hqf8,hql8⟩,ch8,hp8⟩;have B8:=B7.keep ch8 (by simp;omega);have A8:=A7.keep ch8 (by simp;omega);obtain ⟨l0,l1,l2,l3,l4,l5,l6,l7,l8,lf⟩:=B8.c9;rw [show pcV (zAY pc pc7).e qf8 ql8= .agg #[.bool (zAY pc pc7).e,.int .u64 (qf8 0:Nat),.int .u64 (qf8 1:Nat),.int .u64 (qf8 2:Nat),.int .u64 (qf8 3:Nat),.int .u64 (ql8 0:Nat),.int .u64 (ql8 1:Nat),.int .u64 (ql8 2:Nat),.int .u64 (ql8 3:Nat)] from rfl]))
   all_goals
    obtain ⟨n9,k9⟩:=B8.lay9 (e':=(zAY pc pc7).e) (f':=qf8) (l':=ql8);have z8:=ch8.size;have A9:=A8.keep k9 (by simp);have P9:=hp8.keep k9 (by simp;omega) (by simp;omega);have G9:Ch [P,g] w _:=((((G5.trans' g6 (by simp)).trans' (Ch.drew [] w6) (by simp)).trans' ch7 (by simp;omega)).trans' ch8 (by simp;omega)).trans' k9 (by simp);clear k0 k1 k2 k3 k4 k5 k6 k7 k8 kf l0 l1 l2 l3 l4 l5 l6 l7 l8 lf b0 b1 b2 b3 b4 b5 b6 b7 b8 bf d0 d1 d2 d3 d4 d5 d6 d7
    change Exit.inBlock 1 _ _ _ (lay9 w8 (w.heap.size+1) (zAY pc pc7).e qf8 ql8)
    generalize lay9 w8 (w.heap.size+1) (zAY pc pc7).e qf8 ql8=w9 at *;go_wp2_with fail;refine ⟨⟨i+1,rfl,by omega,G9,g7,m7,_,hv7,zAY pc pc7,_,qf8,ql8,A9,n9,rfl,hqf8,hql8,P9,by omega,by omega,by omega,by omega,by have:=HSUM.out;omega,?_,?_,?_,hfr7⟩,hm'⟩
    ·rw [HROW.out,HLA.out]
     exact seq_ok (HPO.out.congr (fun p q _ hp=>hnx7 p q hp) (fun c p _ hp=>hhv7 c p hp)) hpo7 hm1 hm71
    ·intro p q' hpm
     have lNo:pc.l p=false:=by
      cases el:pc.l p with
      |false=>rfl
      |true=>have:=HPO.out.lr p el;omega
     simp only [zBr,lNo,Bool.false_and,Bool.or_false];rw [hnx7 p q' (by omega),hnx p q' hpm]
    ·intro c' p hpm
     rw [hhv7 c' p (by omega),hhv c' p hpm]
  ·have hge:¬(i:Int)<bs.length:=by omega
   obtain rfl:i=bs.length:=by omega
   clear hlt;obtain ⟨c0,c1,c2,c3,c4,c5,c6,c7,c8,cf⟩:=A5.c9;obtain ⟨b0,b1,b2,b3,b4,b5,b6,b7,b8,bf⟩:=B5.c9;have HPO:=hide hpo;clear hpo;go_wp2_with fail;obtain ⟨n9,k9⟩:=A5.lay9 (e':=e) (f':=qf) (l':=ql);have P9:=P5.keep k9 (by simp;omega) (by simp;omega);have G9:=G5.trans' k9 (by simp);clear c0 c1 c2 c3 c4 c5 c6 c7 c8 cf b0 b1 b2 b3 b4 b5 b6 b7 b8 bf
   show bodyPost _ _ _ _ _ (lay9 w5 w.heap.size e qf ql)
   generalize lay9 w5 w.heap.size e qf ql=X at *;obtain ⟨y0,y1,y2,y3,y4,y5,y6,y7,y8,yf⟩:=n9.c9;refine bodyPost_ret (v:=pcV e qf ql) (by simp [results,Tryz.results107,go_sem,pcV,pcC,y0,y1,y2,y3,y4,y5,y6,y7,y8]) rfl ?_
   have t1:(bs.map fun p=>p.2.1).take bs.length=bs.map fun p=>p.2.1:=List.take_of_length_le (by simp)
   have t2:(bs.map fun p=>p.2.2).take bs.length=bs.map fun p=>p.2.2:=List.take_of_length_le (by simp)
   have hpo:=HPO.out;rw [t1] at hpo;rw [t2] at hm2;exact ⟨_,g5,pc,m5,nx5,hv5,rfl,⟨qf,ql,by rw [hpe],hqf,hql⟩,G9,hg5,P9,hm1,hm2,hpo,hnx,hhv,hfr⟩
end Go.Proofs.YteobgfbgglfkbaaGreat
namespace Go.Proofs.YteobgfbgglfkbaaGreat
open Go.RowKit
attribute [local go_sem ↓] Go.wp_at_zero Go.wp_at_succ
set_option maxRecDepth 100000 in
set_option maxHeartbeats 6400000 in
theorem zJR{h:Nat}(hE:AddE h):AddE (h+1):=by
 intro w F P g m nx hv v L N hX _ hF H hf hN;obtain ⟨hPl,hgl,hgP,_⟩:=H.lt;obtain ⟨hvF,rs,hO,rfl,rfl,hrs⟩:=hX;obtain ⟨ra,rc,rfl⟩:=zAC hO;have hsm:=zEu hO;have HRS:=hide hrs;have HE:=hide hE;clear hrs hE;go_enter Tryz.func70,Tryz.ntmps70;go_wp2_with fail;have bA:zAD ((w.alloc (.cells (pcC false (fun _=>0) (fun _=>0)) 163)).alloc (.cells (pcC false (fun _=>0) (fun _=>0)) 163)) w.heap.size (pcC false (fun _=>0) (fun _=>0)) 163:=(zAD.new w _ _).keep (Ch.alloc [] _ _) (by simp)
 have bB:zAD ((w.alloc (.cells (pcC false (fun _=>0) (fun _=>0)) 163)).alloc (.cells (pcC false (fun _=>0) (fun _=>0)) 163)) (w.heap.size+1) (pcC false (fun _=>0) (fun _=>0)) 163:=by
  have:=zAD.new (w.alloc (.cells (pcC false (fun _=>0) (fun _=>0)) 163)) (pcC false (fun _=>0) (fun _=>0)) 163
  simpa using this
 have g0:Ch [] w ((w.alloc (.cells (pcC false (fun _=>0) (fun _=>0)) 163)).alloc (.cells (pcC false (fun _=>0) (fun _=>0)) 163)):=(Ch.alloc _ _ _).trans (Ch.alloc _ _ _)
 have START:zKm w P g m nx hv w.heap.size (Lang.alt ((rs.map fun p=>p.2.1).take 0)) 0 ((w.alloc (.cells (pcC false (fun _=>0) (fun _=>0)) 163)).alloc (.cells (pcC false (fun _=>0) (fun _=>0)) 163)):=
  ⟨g0.mono (by simp),g,m,nx,hv,⟨false,fun _=>false,fun _=>false⟩,false,fun _=>0,fun _=>0,bA,bB,rfl,SetF.zero,SetF.zero,H.keep g0 (by simp) (by simp),Or.inl rfl,by omega,by omega,by omega,by omega,none_ok _ _ _,fun _ _ _=>rfl,fun _ _ _=>rfl,hf⟩
 have HST:=hide START;clear START bA bB
 go_loopw [7,8,11] (fun _ _ v w5=>∃i:Nat,v= .int .i64 i∧i≤rs.length∧zKm w P g m nx hv w.heap.size (Lang.alt ((rs.map fun p=>p.2.1).take i)) (((rs.map fun p=>p.2.2).take i).sum) w5) (fun _ _ v _=>rs.length - (match v with | .int _ x=>x.toNat | _=>0))
 case atStart=>exact ⟨0,rfl,by omega,HST.out⟩
 case round=>
  generalize wr=w5 at *;obtain ⟨i,rfl,hi,G5,g5,m5,nx5,hv5,pc,e,qf,ql,A5,B5,hpe,hqf,hql,P5,hg5,hgB,hgB1,hm1,hm2,hpo,hnx,hhv,hfr⟩:=hrel;have z5:=G5.size
  by_cases hlt:i<rs.length
  ·have hlt':(i:Int)<rs.length:=by omega
   have hi0:(0:Int)≤i:=by omega
   obtain ⟨gb,rfl,_⟩:=zAc hO (by omega);have fgb:=hvF gb rfl;have O5:=zAa (w':=w5) hO (fun k hk=>G5.block k (by have:=hF k (hvF k hk);omega) (by have:=hF k (hvF k hk);simp;omega));have r0:=O5.cellAt i (by omega);rw [show (rs.map fun p=>p.1)[i]? =some rs[i].1 from by simp [hlt]] at r0
   have frm:∀k,F k→w5.heap[k]? =w.heap[k]? :=fun k hk=>G5.block k (by have:=hF k hk;omega) (by have:=hF k hk;simp;omega)
   have hrow:=(HRS.out rs[i] (by simp)).mono (w':=w5) frm (fun _ h=>h) (fun v L N hx=>zAS.frame frm (fun _ h=>h) h v L N hx)
   obtain ⟨xa,xn,xc,hxv⟩:isSl rs[i].1:=by
    obtain ⟨_,b,hb,_⟩:=hrow;obtain ⟨a,c,e⟩:=zAC hb;exact ⟨a,_,c,e⟩
   rw [hxv] at r0 hrow
   have hm':rs.length - (i+1)<rs.length - i:=by omega
   have hsum:(((rs.map fun p=>p.2.2).take (i+1)).sum)=(((rs.map fun p=>p.2.2).take i).sum)+rs[i].2.2:=by
    rw [List.take_succ_eq_append_getElem (by simpa using hlt),List.sum_append];simp
   have hle:((rs.map fun p=>p.2.2).take (i+1)).sum≤(rs.map fun p=>p.2.2).sum:=by
    conv=>rhs;rw [← List.take_append_drop (i+1) (rs.map fun p=>p.2.2)]
    rw [List.sum_append];omega
   have halt:Lang.alt ((rs.map fun p=>p.2.1).take (i+1))=Lang.alt ((rs.map fun p=>p.2.1).take i++[rs[i].2.1]):=by
    rw [List.take_succ_eq_append_getElem (by simpa using hlt)];simp
   have HSUM:=hide hsum;have HLE:=hide hle;have HALT:=hide halt;have HPO:=hide hpo;have HROW:=hide hrow;clear hsum hle halt hpo hrow;go_wp2_with fail;refine (zLd HE.out (F:=F) HROW.out (fun k hk=>by have:=hF k hk;refine ⟨?_,this.2.1,?_⟩ <;>omega) P5 hfr (by have:=HSUM.out;have:=HLE.out;omega)).mono ?_;rintro r w7 ⟨v7,g7,pc7,m7,nx7,hv7,rfl,⟨qf7,ql7,rfl,hqf7,hql7⟩,ch7,hg7,hp7,hm71,hm72,hpo7,hnx7,hhv7,hfr7⟩;clear r0;have lB5:=B5.lt;have B7:=B5.keep ch7 (by simp;omega);have A7:=A5.keep ch7 (by simp;omega);have z7:=ch7.size
   have kl1:w.heap.size+1<w7.heap.size:=by omega
   obtain ⟨b0,b1,b2,b3,b4,b5,b6,b7,b8,bf⟩:=B7.c9;rw [show pcV pc7.e qf7 ql7= .agg #[.bool pc7.e,.int .u64 (qf7 0:Nat),.int .u64 (qf7 1:Nat),.int .u64 (qf7 2:Nat),.int .u64 (qf7 3:Nat),.int .u64 (ql7 0:Nat),.int .u64 (ql7 1:Nat),.int .u64 (ql7 2:Nat),.int .u64 (ql7 3:Nat)] from rfl];cases e
   ·go_wp2_with fail
    have hs:Ch [w.heap.size+1] w7 (w7.setCell ⟨w.heap.size+1,0,none⟩ (.bool pc7.e)):=Ch.setCell _ (by simp) _;have B8:zAD (w7.setCell ⟨w.heap.size+1,0,none⟩ (.bool pc7.e)) (w.heap.size+1) (pcC pc7.e qf ql) 163:=B7.set 0 _;have A8:=A7.keep hs (by simp);have P8:=hp7.keep hs (by simp;omega) (by simp;omega)
    have z8:(w7.setCell ⟨w.heap.size+1,0,none⟩ (.bool pc7.e)).heap.size=w7.heap.size:=by simp [World.setCell]
    clear b0 b1 b2 b3 b4 b5 b6 b7 b8 bf;generalize w7.setCell ⟨w.heap.size+1,0,none⟩ (.bool pc7.e)=w8 at *;have hD:=Ch.alloc [] w8 (.cells (pcC pc7.e qf7 ql7) 163);have D9:=zAD.new w8 (pcC pc7.e qf7 ql7) 163;rw [z8] at D9;have B9:=B8.keep hD (by simp);have A9:=A8.keep hD (by simp);have P9:=P8.keep hD (by simp) (by simp)
    have z9:(w8.alloc (.cells (pcC pc7.e qf7 ql7) 163)).heap.size=w8.heap.size+1:=by simp
    rw [show w8.alloc (.cells #[.bool pc7.e,.int .u64 (qf7 0:Nat),.int .u64 (qf7 1:Nat),.int .u64 (qf7 2:Nat),.int .u64 (qf7 3:Nat),.int .u64 (ql7 0:Nat),.int .u64 (ql7 1:Nat),.int .u64 (ql7 2:Nat),.int .u64 (ql7 3:Nat)] 163)=w8.alloc (.cells (pcC pc7.e qf7 ql7) 163) from rfl];generalize w8.alloc (.cells (pcC pc7.e qf7 ql7) 163)=w9 at *;generalize hDD:w7.heap.size=D at *;refine (zC1 (q1:=qf) (q2:=qf7) hqf.1 hqf7.1).mono ?_;rintro r wa ⟨rfl,ha⟩;rw [show setV (fun t=>qf t ||| qf7 t)= .agg #[.int .u64 (qf 0 ||| qf7 0:Nat),.int .u64 (qf 1 ||| qf7 1:Nat),.int .u64 (qf 2 ||| qf7 2:Nat),.int .u64 (qf 3 ||| qf7 3:Nat)] from rfl];have Ba:=B9.keep ha (by simp);have Aa:=A9.keep ha (by simp);have Da:=D9.keep ha (by simp);have Pa:=P9.keep ha (by simp) (by simp);obtain ⟨b0,b1,b2,b3,b4,b5,b6,b7,b8,bf⟩:=Ba.c9;obtain ⟨d0,d1,d2,d3,d4,d5,d6,d7,d8,df⟩:=Da.c9;have za:=ha.size;go_wp2_with fail;obtain ⟨Bb,hb⟩:=Ba.setF (fun t=>qf t ||| qf7 t)
    try simp only at Bb hb
    have Ab:=Aa.keep hb (by simp);have Db:=Da.keep hb (by simp;omega);have Pb:=Pa.keep hb (by simp;omega) (by simp;omega);clear b0 b1 b2 b3 b4 b5 b6 b7 b8 bf d0 d1 d2 d3 d4 d5 d6 d7 d8 df;have zb:=hb.size;generalize (((wa.setCell ⟨w.heap.size+1,1,none⟩ (.int .u64 (qf 0 ||| qf7 0:Nat))).setCell ⟨w.heap.size+1,2,none⟩ (.int .u64 (qf 1 ||| qf7 1:Nat))).setCell ⟨w.heap.size+1,3,none⟩ (.int .u64 (qf 2 ||| qf7 2:Nat))).setCell ⟨w.heap.size+1,4,none⟩ (.int .u64 (qf 3 ||| qf7 3:Nat))=wb at *;refine (zC1 (q1:=ql) (q2:=ql7) hql.1 hql7.1).mono ?_;rintro r wc ⟨rfl,hc⟩;rw [show setV (fun t=>ql t ||| ql7 t)= .agg #[.int .u64 (ql 0 ||| ql7 0:Nat),.int .u64 (ql 1 ||| ql7 1:Nat),.int .u64 (ql 2 ||| ql7 2:Nat),.int .u64 (ql 3 ||| ql7 3:Nat)] from rfl];have Bc:=Bb.keep hc (by simp);have Ac:=Ab.keep hc (by simp);have Pc':=Pb.keep hc (by simp) (by simp);obtain ⟨b0,b1,b2,b3,b4,b5,b6,b7,b8,bf⟩:=Bc.c9;have zc:=hc.size;go_wp2_with fail;obtain ⟨Bd,hd⟩:=Bc.setL (fun t=>ql t ||| ql7 t)
    try simp only at Bd hd
    have Ad:=Ac.keep hd (by simp);have Pd:=Pc'.keep hd (by simp;omega) (by simp;omega);clear b0 b1 b2 b3 b4 b5 b6 b7 b8 bf;generalize (((wc.setCell ⟨w.heap.size+1,5,none⟩ (.int .u64 (ql 0 ||| ql7 0:Nat))).setCell ⟨w.heap.size+1,6,none⟩ (.int .u64 (ql 1 ||| ql7 1:Nat))).setCell ⟨w.heap.size+1,7,none⟩ (.int .u64 (ql 2 ||| ql7 2:Nat))).setCell ⟨w.heap.size+1,8,none⟩ (.int .u64 (ql 3 ||| ql7 3:Nat))=wd at *;have GG:Ch [P,g] w wd:=((((((G5.trans' ch7 (by simp;omega)).trans' hs (by simp)).trans' hD (by simp)).trans' ha (by simp)).trans' hb (by simp)).trans' hc (by simp)).trans' hd (by simp);refine ⟨⟨i+1,rfl,by omega,GG,g7,m7,nx7,hv7,orP pc pc7,_,_,_,Ad,Bd,by simp [orP,hpe],hqf.or hqf7,hql.or hql7,Pd,by omega,by omega,by omega,by omega,by have:=HSUM.out;omega,?_,?_,?_,hfr7⟩,hm'⟩
    ·rw [HALT.out]
     exact or_ok (HPO.out.congr (fun p q _ hp=>hnx7 p q hp) (fun c p _ hp=>hhv7 c p hp)) hpo7 hm1 hm71
    ·intro p q' hpm
     rw [hnx7 p q' (by omega),hnx p q' hpm]
    ·intro c' p hpm
     rw [hhv7 c' p (by omega),hhv c' p hpm]
   ·go_wp2_with fail
    have hs:Ch [w.heap.size+1] w7 (w7.setCell ⟨w.heap.size+1,0,none⟩ (.bool true)):=Ch.setCell _ (by simp) _;have B8:zAD (w7.setCell ⟨w.heap.size+1,0,none⟩ (.bool true)) (w.heap.size+1) (pcC true qf ql) 163:=B7.set 0 _;have A8:=A7.keep hs (by simp);have P8:=hp7.keep hs (by simp;omega) (by simp;omega)
    have z8:(w7.setCell ⟨w.heap.size+1,0,none⟩ (.bool true)).heap.size=w7.heap.size:=by simp [World.setCell]
    clear b0 b1 b2 b3 b4 b5 b6 b7 b8 bf;generalize w7.setCell ⟨w.heap.size+1,0,none⟩ (.bool true)=w8 at *;have hD:=Ch.alloc [] w8 (.cells (pcC pc7.e qf7 ql7) 163);have D9:=zAD.new w8 (pcC pc7.e qf7 ql7) 163;rw [z8] at D9;have B9:=B8.keep hD (by simp);have A9:=A8.keep hD (by simp);have P9:=P8.keep hD (by simp) (by simp)
    have z9:(w8.alloc (.cells (pcC pc7.e qf7 ql7) 163)).heap.size=w8.heap.size+1:=by simp
    rw [show w8.alloc (.cells #[.bool pc7.e,.int .u64 (qf7 0:Nat),.int .u64 (qf7 1:Nat),.int .u64 (qf7 2:Nat),.int .u64 (qf7 3:Nat),.int .u64 (ql7 0:Nat),.int .u64 (ql7 1:Nat),.int .u64 (ql7 2:Nat),.int .u64 (ql7 3:Nat)] 163)=w8.alloc (.cells (pcC pc7.e qf7 ql7) 163) from rfl];generalize w8.alloc (.cells (pcC pc7.e qf7 ql7) 163)=w9 at *;generalize hDD:w7.heap.size=D at *;refine (zC1 (q1:=qf) (q2:=qf7) hqf.1 hqf7.1).mono ?_;rintro r wa ⟨rfl,ha⟩;rw [show setV (fun t=>qf t ||| qf7 t)= .agg #[.int .u64 (qf 0 ||| qf7 0:Nat),.int .u64 (qf 1 ||| qf7 1:Nat),.int .u64 (qf 2 ||| qf7 2:Nat),.int .u64 (qf 3 ||| qf7 3:Nat)] from rfl];have Ba:=B9.keep ha (by simp);have Aa:=A9.keep ha (by simp);have Da:=D9.keep ha (by simp);have Pa:=P9.keep ha (by simp) (by simp);obtain ⟨b0,b1,b2,b3,b4,b5,b6,b7,b8,bf⟩:=Ba.c9;obtain ⟨d0,d1,d2,d3,d4,d5,d6,d7,d8,df⟩:=Da.c9;have za:=ha.size;go_wp2_with fail;obtain ⟨Bb,hb⟩:=Ba.setF (fun t=>qf t ||| qf7 t)
    try simp only at Bb hb
    have Ab:=Aa.keep hb (by simp);have Db:=Da.keep hb (by simp;omega);have Pb:=Pa.keep hb (by simp;omega) (by simp;omega);clear b0 b1 b2 b3 b4 b5 b6 b7 b8 bf d0 d1 d2 d3 d4 d5 d6 d7 d8 df;have zb:=hb.size;generalize (((wa.setCell ⟨w.heap.size+1,1,none⟩ (.int .u64 (qf 0 ||| qf7 0:Nat))).setCell ⟨w.heap.size+1,2,none⟩ (.int .u64 (qf 1 ||| qf7 1:Nat))).setCell ⟨w.heap.size+1,3,none⟩ (.int .u64 (qf 2 ||| qf7 2:Nat))).setCell ⟨w.heap.size+1,4,none⟩ (.int .u64 (qf 3 ||| qf7 3:Nat))=wb at *;refine (zC1 (q1:=ql) (q2:=ql7) hql.1 hql7.1).mono ?_;rintro r wc ⟨rfl,hc⟩;rw [show setV (fun t=>ql t ||| ql7 t)= .agg #[.int .u64 (ql 0 ||| ql7 0:Nat),.int .u64 (ql 1 ||| ql7 1:Nat),.int .u64 (ql 2 ||| ql7 2:Nat),.int .u64 (ql 3 ||| ql7 3:Nat)] from rfl];have Bc:=Bb.keep hc (by simp);have Ac:=Ab.keep hc (by simp);have Pc':=Pb.keep hc (by simp) (by simp);obtain ⟨b0,b1,b2,b3,b4,b5,b6,b7,b8,bf⟩:=Bc.c9;have zc:=hc.size;go_wp2_with fail;obtain ⟨Bd,hd⟩:=Bc.setL (fun t=>ql t ||| ql7 t)
    try simp only at Bd hd
    have Ad:=Ac.keep hd (by simp);have Pd:=Pc'.keep hd (by simp;omega) (by simp;omega);clear b0 b1 b2 b3 b4 b5 b6 b7 b8 bf;generalize (((wc.setCell ⟨w.heap.size+1,5,none⟩ (.int .u64 (ql 0 ||| ql7 0:Nat))).setCell ⟨w.heap.size+1,6,none⟩ (.int .u64 (ql 1 ||| ql7 1:Nat))).setCell ⟨w.heap.size+1,7,none⟩ (.int .u64 (ql 2 ||| ql7 2:Nat))).setCell ⟨w.heap.size+1,8,none⟩ (.int .u64 (ql 3 ||| ql7 3:Nat))=wd at *;have GG:Ch [P,g] w wd:=((((((G5.trans' ch7 (by simp;omega)).trans' hs (by simp)).trans' hD (by simp)).trans' ha (by simp)).trans' hb (by simp)).trans' hc (by simp)).trans' hd (by simp);refine ⟨⟨i+1,rfl,by omega,GG,g7,m7,nx7,hv7,orP pc pc7,_,_,_,Ad,Bd,by simp [orP,hpe],hqf.or hqf7,hql.or hql7,Pd,by omega,by omega,by omega,by omega,by have:=HSUM.out;omega,?_,?_,?_,hfr7⟩,hm'⟩
    ·rw [HALT.out]
     exact or_ok (HPO.out.congr (fun p q _ hp=>hnx7 p q hp) (fun c p _ hp=>hhv7 c p hp)) hpo7 hm1 hm71
    ·intro p q' hpm
     rw [hnx7 p q' (by omega),hnx p q' hpm]
    ·intro c' p hpm
     rw [hhv7 c' p (by omega),hhv c' p hpm]
  ·have hge:¬(i:Int)<rs.length:=by omega
   obtain rfl:i=rs.length:=by omega
   clear hlt;obtain ⟨c0,c1,c2,c3,c4,c5,c6,c7,c8,cf⟩:=A5.c9;obtain ⟨b0,b1,b2,b3,b4,b5,b6,b7,b8,bf⟩:=B5.c9;have HPO:=hide hpo;clear hpo;go_wp2_with fail;obtain ⟨n9,k9⟩:=A5.lay9 (e':=e) (f':=qf) (l':=ql);have P9:=P5.keep k9 (by simp;omega) (by simp;omega);have G9:=G5.trans' k9 (by simp);clear c0 c1 c2 c3 c4 c5 c6 c7 c8 cf b0 b1 b2 b3 b4 b5 b6 b7 b8 bf
   show bodyPost _ _ _ _ _ (lay9 w5 w.heap.size e qf ql)
   generalize lay9 w5 w.heap.size e qf ql=X at *;obtain ⟨y0,y1,y2,y3,y4,y5,y6,y7,y8,yf⟩:=n9.c9;refine bodyPost_ret (v:=pcV e qf ql) (by simp [results,Tryz.results70,go_sem,pcV,pcC,y0,y1,y2,y3,y4,y5,y6,y7,y8]) rfl ?_
   have t1:(rs.map fun p=>p.2.1).take rs.length=rs.map fun p=>p.2.1:=List.take_of_length_le (by simp)
   have t2:(rs.map fun p=>p.2.2).take rs.length=rs.map fun p=>p.2.2:=List.take_of_length_le (by simp)
   have hpo:=HPO.out;rw [t1] at hpo;rw [t2] at hm2;exact ⟨_,g5,pc,m5,nx5,hv5,rfl,⟨qf,ql,by rw [hpe],hqf,hql⟩,G9,hg5,P9,hm1,hm2,hpo,hnx,hhv,hfr⟩
theorem zKr:∀h,AddE h
 |0=>fun _ _ _ _ _ _ _ _ _ _ hx=>hx.elim
 |h+1=>zJR (zKr h)
end Go.Proofs.YteobgfbgglfkbaaGreat
