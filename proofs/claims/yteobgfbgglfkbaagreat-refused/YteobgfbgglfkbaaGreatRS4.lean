import Derived.Test.YteobgfbgglfkbaaGreatRS1
set_option maxHeartbeats 6400000
set_option maxRecDepth 100000
namespace Go.Proofs.YteobgfbgglfkbaaGreat
open Go.RowKit
attribute [local go_sem ↓] Go.wp_at_zero Go.wp_at_succ
theorem PC:(Tryz.prog.info? 156).map (fun i=>(i.zero,i.size,i.bytes))=some (some (.agg #[.int .u64 0,.int .u64 0,.int .u64 0,.int .u64 0]),4,32):=by kernel_rfl
theorem Au(w:World):(zeroValue 3).run Tryz.prog w= .ok (.int .i64 0) w:=by kernel_rfl
def ZV(w:World)(X:List Nat)(M:Nat)(ks:List Value):Prop:=
 ∃B v f,X=M:: B:: v.ownBlock.toList/\zE w M #[.map (some B),v] 324/\yx w 156 B ks.length f/\(∀u,(f u=none/\u∉ks)\/∃i:Nat,f u=some (.int .i64 i)/\ks[i]? =some u)/\w.ownsRow 0 156 4 v ks.length (ks.flatMap jN)/\(∀u,u∈ks->(jN u).length=4)/\B≠M/\v.ownBlock≠some M/\v.ownBlock≠some B
theorem ZV.kp{w w':World}{X Y:List Nat}{M:Nat}{ks:List Value}(h:ZV w X M ks)(g:Ch Y w w')(hX:∀k,k∈X->k∉Y):ZV w' X M ks:=by
 obtain⟨B,v,f,rfl,h1,h2,h3,h4,h5,h6⟩:=h;refine⟨B,v,f,rfl,h1.kp g (hX M (by simp)),h2.kp g (hX B (by simp)),h3,zJ h4 g (fun k hk=>hX k (by simp[hk])),h5,h6⟩
theorem ZV.lt{w:World}{X:List Nat}{M:Nat}{ks:List Value}(h:ZV w X M ks):∀k,k∈X->k<w.heap.size:=by
 obtain⟨B,v,f,rfl,h1,h2,h3,h4,h5⟩:=h;intro k hk;simp only[List.mem_cons,Option.mem_toList]at hk
 rcases hk with rfl|rfl|hk
 ·exact h1.lt
 ·exact h2.lt
 ·exact(h4.lt k hk).2
theorem Ho{w:World}:Calls Tryz.prog 161 #[] w fun e w'=>e= .returned (.pointer (some ⟨w.heap.size+1,0,none⟩))/\ZV w' [w.heap.size+1,w.heap.size] (w.heap.size+1) []/\Ch [] w w':=by
 have hmm:= @run_makeMap Tryz.prog;have M0:=yx.made w 156;have g0:=Ch.alloc [] w (.map #[] 0)
 have z0:(w.alloc (.map #[] 0)).heap.size=w.heap.size+1:=by simp
 have B1:=zE.new (w.alloc (.map #[] 0)) #[.map (some w.heap.size),.slice none 0 0] 324;have g1:=Ch.alloc [] (w.alloc (.map #[] 0)) (.cells #[.map (some w.heap.size),.slice none 0 0] 324);have M1:=M0.kp g1 (by simp);rw[z0]at B1;have FIN:=zC (And.intro (show ZV _ [w.heap.size+1,w.heap.size] (w.heap.size+1) []from⟨w.heap.size,.slice none 0 0,_,rfl,B1,M1,fun u=>Or.inl ⟨rfl,by simp⟩,World.ownsRow_nil _ _ _ _,by simp,by omega,by simp[Value.ownBlock],by simp[Value.ownBlock]⟩) (g0.trans g1));clear M0 B1 M1;go_enter Tryz.func161,Tryz.ntmps161;go_wp2_with fail;go_ret;exact⟨by simp,FIN.o.1,FIN.o.2⟩
def WT(w:World)(X:List Nat)(M:Nat)(ks:List Value)(key:Value)(e:Ending)(w':World):Prop:=
 (∃i:Nat,ks[i]? =some key/\e= .returned (.tuple #[.int .i64 i,.bool false])/\Ch [] w w')\/
 (key∉ks/\e= .returned (.tuple #[.int .i64 ks.length,.bool true])/\∃X',ZV w' X' M (ks++[key])/\Ch X w w'/\∀k,k∈X'->k∈X\/w.heap.size<=k)
theorem Pq{w w0 w1 w7:World}{M B g cap H:Nat}{a:Option Addr}{c:Nat}{ks:List Value}{f f':Value->Option Value}{key:Value}{news:List Value}(hM:zE w M #[.map (some B),.slice a ks.length c] 324)(hBM:B≠M)(hvM:(Value.slice a ks.length c).ownBlock≠some M)(hvB:(Value.slice a ks.length c).ownBlock≠some B)
 (hL:∀u,u∈ks->(jN u).length=4) (hF:yx w1 156 B (ks.length+1) f') (hf:∀u,(f u=none/\u∉ks)\/∃i:Nat,f u=some (.int .i64 i)/\ks[i]? =some u) (hin:key∉ks) (f1:f' key=some (.int .i64 ks.length)) (f2:∀u,u≠key->f' u=f u)
 (g0:Ch [] w w0) (g1:Ch [B] w0 w1) (own:w7.ownsRow 0 156 4 (.slice (some ⟨g,0,none⟩) (ks.length+1) cap) (ks.length+1) (ks.flatMap jN++news)) (hnews:jN key=news) (hnl:news.length=4) (g7:Ch (Value.slice a ks.length c).ownBlock.toList w1 w7) (hat:(Value.slice a ks.length c).ownBlock=some g\/g=H) (hH:w1.heap.size<=H):
 WT w (M:: B:: (Value.slice a ks.length c).ownBlock.toList) M ks key (.returned (.tuple #[.int .i64 ks.length,.bool true])) (w7.setCell ⟨M,1,none⟩ (.slice (some ⟨g,0,none⟩) (ks.length+1) cap)):=by
 have hMl:=hM.lt;have z0:=g0.size;have z1:=g1.size;have hBl:B<w1.heap.size:=hF.lt
 have hgM:g≠M:=by
  rintro rfl
  rcases hat with h|h
  ·exact hvM h
  ·omega
 have hgB:g≠B:=by
  rintro rfl
  rcases hat with h|h
  ·exact hvB h
  ·omega
 have M7:zE w7 M #[.map (some B),.slice a ks.length c] 324:=((hM.kp g0 (by simp)).kp g1 (by simpa using Ne.symm hBM)).kp g7 (by simpa using hvM);have gM:Ch [M] w7 (w7.setCell ⟨M,1,none⟩ (.slice (some ⟨g,0,none⟩) (ks.length+1) cap)):=Ch.setCell _ (by simp) _;refine Or.inr ⟨hin,rfl,[M,B,g],⟨B,.slice (some ⟨g,0,none⟩) (ks.length+1) cap,f',by simp[Value.ownBlock],?_,?_,?_,?_,?_,hBM,by simpa[Value.ownBlock]using hgM,by simpa[Value.ownBlock]using hgB⟩,?_,?_⟩
 ·have:=M7.set 1 (.slice (some ⟨g,0,none⟩) (ks.length+1) cap)
  simpa using this
 ·rw[List.length_append,List.length_singleton]
  exact(hF.kp g7 (by simpa using hvB)).kp gM (by simpa using hBM)
 ·intro u
  by_cases e:u=key
  ·subst e
   exact Or.inr ⟨ks.length,f1,by simp⟩
  ·rw[f2 u e]
   rcases hf u with⟨h1,h2⟩|⟨i,h1,h2⟩
   ·exact Or.inl ⟨h1,by simp[h2,e]⟩
   ·exact Or.inr ⟨i,h1,JC h2⟩
 ·rw[List.length_append,List.length_singleton,List.flatMap_append]
  simp only[List.flatMap_cons,List.flatMap_nil,List.append_nil,hnews];exact zJ own gM (by intro k hk;simp[Value.ownBlock]at hk;subst hk;simpa using hgM)
 ·intro u hu
  rcases List.mem_append.1 hu with h|h
  ·exact hL u h
  ·have:u=key:=by simpa using h
   rw[this,hnews,hnl]
 ·refine(((g0.mono (by simp)).trans (g1.mono (by simp))).trans (g7.mono (fun k hk=>by simp[hk]))).trans (gM.mono (by simp))
 ·intro k hk
  simp only[List.mem_cons,List.not_mem_nil,or_false]at hk
  rcases hk with rfl|rfl|rfl
  ·exact Or.inl (by simp)
  ·exact Or.inl (by simp)
  ·rcases hat with h|h
   ·exact Or.inl (by simp[h])
   ·exact Or.inr (by omega)
theorem Hu{w:World}{X:List Nat}{M:Nat}{ks:List Value}(H:ZV w X M ks){x0 x1 x2 x3:Value}(hk:∃kl,keyOf Tryz.prog 156 (.agg #[x0,x1,x2,x3])=some kl)(h1:∀u,u∈[x0,x1,x2,x3]->u.oneCell'=true)(hn:ks.length<=16777216):
 Calls Tryz.prog 200 #[.pointer (some ⟨M,0,none⟩),.agg #[x0,x1,x2,x3]] w (WT w X M ks (.agg #[x0,x1,x2,x3])):=by
 obtain⟨B,v,f,rfl,hM,hF,hf,hR,hL,hBM,hvM,hvB⟩:=H;obtain⟨a,c,rfl⟩:=zQ hR;have X0:=zE.new w #[x0,x1,x2,x3] 156;have g0:=Ch.alloc [] w (.cells #[x0,x1,x2,x3] 156)
 have z0:(w.alloc (.cells #[x0,x1,x2,x3] 156)).heap.size=w.heap.size+1:=by simp
 have M0:=hM.kp g0 (by simp);have F0:=hF.kp g0 (by simp);have R0:=zJ hR g0 (by simp);generalize hw0:w.alloc (.cells #[x0,x1,x2,x3] 156)=w0 at X0 g0 z0 M0 F0 R0;have LK:=F0.look XU Tryz.underlying322 (Au w0) hk;have LKd:=(F0.kp (Ch.drew [] w0) (by simp)).look XU Tryz.underlying322 (Au w0.drew) hk;have m0:=M0.cl 0 (.map (some B)) rfl;have m1:=M0.cl 1 (.slice a ks.length c) rfl;have d0:=X0.cl 0 x0 rfl;have d1:=X0.cl 1 x1 rfl;have d2:=X0.cl 2 x2 rfl;have d3:=X0.cl 3 x3 rfl;have HHf:=zC hf;have HHk:=zC hk;have HH1:=zC h1;have HF0:=zC F0;have HM:=zC hM;have HR:=zC hR;have HL:=zC hL;have HX0:=zC X0;have HM0:=zC M0;have HR0:=zC R0;go_enter Tryz.func200,Tryz.ntmps200;go_wp2_with fail;clear hM F0 hR hL R0
 rcases HHf.o (.agg #[x0,x1,x2,x3])with⟨hno,hin⟩|⟨i,hi,hget⟩
 ·rw[hno]at LK LKd
  have ST:∃f':Value->Option Value,f' (.agg #[x0,x1,x2,x3])=some (.int .i64 ks.length)/\∀u,u≠ .agg #[x0,x1,x2,x3]->f' u=f u:=by
   classical
   exact⟨fun u=>if u= .agg #[x0,x1,x2,x3]then some (.int .i64 ks.length)else f u,by simp,fun u hu=>by simp[hu]⟩
  obtain⟨f',f1,f2⟩:=ST;have HF1:=zC f1;have HF2:=zC f2;obtain⟨w1,hst,hF1,g1⟩:=(HF0.o.kp ((Ch.drew [] w0).trans (Ch.drew [] w0.drew)) (by simp)).store XU Tryz.underlying322 (by simp only[maxLen];omega) HHk.o (.int .i64 ks.length) f1 f2;have GD:=zC ((g0.trans (Ch.drew [] w0)).trans (Ch.drew [] w0.drew));have HF1x:=zC hF1;have M1:zE w1 M _ _:=(HM0.o.kp ((Ch.drew [] w0).trans (Ch.drew [] w0.drew)) (by simp)).kp g1 (by simpa using Ne.symm hBM);have X1:zE w1 w.heap.size _ _:=(HX0.o.kp ((Ch.drew [] w0).trans (Ch.drew [] w0.drew)) (by simp)).kp g1 (by have:=hF.lt;simp;omega);have R1:=zJ (zJ HR0.o ((Ch.drew [] w0).trans (Ch.drew [] w0.drew)) (by simp)) g1 (fun k hk e=>by rw[List.mem_singleton]at e;subst e;exact hvB hk);have n0:=M1.cl 0 (.map (some B)) rfl;have n1:=M1.cl 1 (.slice a ks.length c) rfl;have e0:=X1.cl 0 x0 rfl;have e1:=X1.cl 1 x1 rfl;have e2:=X1.cl 2 x2 rfl;have e3:=X1.cl 3 x3 rfl;have gAl:Ch [] w1 (w1.drew.alloc (.cells #[x0,x1,x2,x3] 156)):=(Ch.drew [] w1).trans (Ch.alloc _ _ _);have OWN:=zJ R1 gAl (by simp);have MA:=M1.kp gAl (by simp);have nA:=MA.cl 1 (.slice a ks.length c) rfl;have nD:=(M1.kp (Ch.alloc [] w1 (.cells #[x0,x1,x2,x3] 156)) (by simp)).cl 1 (.slice a ks.length c) rfl;have NEW:(w1.drew.alloc (.cells #[x0,x1,x2,x3] 156)).heap[w1.heap.size]? =some (.cells [x0,x1,x2,x3].toArray 156):=zr w1.drew _
  have ZN:(w1.drew.alloc (.cells #[x0,x1,x2,x3] 156)).heap.size=w1.heap.size+1:=by show(w1.heap.push _).size=_;simp
  have NDD:Hd (M∉(Value.slice a ks.length c).ownBlock.toList):=by show ¬_;simpa using hvM
  have G1x:=zC g1;have HOW:=zC OWN;have HMA:=zC MA;clear f1 f2 hf OWN MA R1 M1 X1 g1 hF1;go_region
  all_goals
   go_wp2_with fail;go_region
   all_goals
    go_wp2_with fail
    go_region_law ((refine UP 152 156 4 32 (.agg #[.int .u64 0,.int .u64 0,.int .u64 0,.int .u64 0]) Tryz.underlying152 PC rfl (by omega) (by omega) (by rfl) _ _ (by rfl) (.slice a ks.length c) ks.length (ks.flatMap jN) (by rfl) HOW.o w1.heap.size [x0,x1,x2,x3] (by rfl) NEW rfl HH1.o (by omega) (w1.heap.size+1) ZN ?_;intro g cap w7 own7 gr7 hat7 hlt7;have B7:=HMA.o.kp gr7 NDD.o;have b70:=B7.cl 1 (.slice a ks.length c) rfl;have b7f:=B7.fz))
    all_goals
     go_wp2_with fail;go_ret2;exact Pq (f:=f) HM.o hBM hvM hvB HL.o HF1x.o HHf.o hin HF1.o HF2.o GD.o G1x.o own7 rfl rfl (((Ch.drew _ w1).trans (Ch.alloc _ _ (.cells #[x0,x1,x2,x3] 156))).trans gr7) hat7 (by omega)
 ·rw[hi]at LK LKd
  have G1:=zC (g0.trans (Ch.drew [] w0));go_region
  all_goals
   go_wp2_with fail;go_ret2;exact Or.inl ⟨i,hget,rfl,G1.o⟩
theorem NT:∀(ks:List Value),(∀u,u∈ks->(jN u).length=4)->∀(i:Nat) (u:Value),ks[i]? =some u->∀t,t<4->(ks.flatMap jN)[i * 4+t]? =(jN u)[t]?
 |[],_,i,u,h,_,_=>by simp at h
 |x:: ks,hl,0,u,h,t,ht=>by
  have e:x=u:=by simpa using h
  subst e;rw[List.flatMap_cons,List.getElem?_append_left (by rw[hl x (by simp)];omega)];simp
 |x:: ks,hl,i+1,u,h,t,ht=>by
  have e:ks[i]? =some u:=by simpa using h
  rw[List.flatMap_cons,List.getElem?_append_right (by rw[hl x (by simp)];omega),hl x (by simp),show(i+1) * 4+t - 4=i * 4+t by omega];exact NT ks (fun v hv=>hl v (by simp[hv])) i u e t ht
theorem Id{w:World}{X:List Nat}{M:Nat}{ks:List Value}(H:ZV w X M ks){i:Nat}{a0 a1 a2 a3:Int}(hi:ks[i]? =some (.agg #[.int .u64 a0,.int .u64 a1,.int .u64 a2,.int .u64 a3])):
 Calls Tryz.prog 201 #[.pointer (some ⟨M,0,none⟩),.int .i64 i] w fun e w'=>e= .returned (.agg #[.int .u64 a0,.int .u64 a1,.int .u64 a2,.int .u64 a3])/\Ch [] w w':=by
 obtain⟨B,v,f,rfl,hM,hF,hf,hR,hL,hBM,hvM,hvB⟩:=H;have hlt:i<ks.length:=(List.getElem?_eq_some_iff.1 hi).1
 obtain⟨g,cap,rfl⟩:∃g cap,v= .slice (some ⟨g,0,none⟩) ks.length cap:=by
  rcases hR.2 with⟨_,h0⟩|⟨g,cap,cur,h,_⟩
  ·omega
  ·exact⟨g,cap,h⟩
 have key:∀(W:World),Ch [] w W->∀t,t<4->W.cell? ⟨g,i * 4+t,none⟩=[.int .u64 a0,.int .u64 a1,.int .u64 a2,.int .u64 a3][t]? :=by
  intro W gW t ht
  have h2:ks.length * 4<=(ks.flatMap jN).length:=by rw[hR.1];exact Nat.le_refl _
  rw[(zJ hR gW (by simp)).cellAt (i * 4+t) (by omega),NT ks hL i _ hi t ht];rfl
 have X0:=zE.new w #[.int .u64 0,.int .u64 0,.int .u64 0,.int .u64 0] 156;have g0:=Ch.alloc [] w (.cells #[.int .u64 0,.int .u64 0,.int .u64 0,.int .u64 0] 156);have m1:=(hM.kp g0 (by simp)).cl 1 (.slice (some ⟨g,0,none⟩) ks.length cap) rfl;have fz:=X0.fz;have k0:(w.alloc (.cells #[.int .u64 0,.int .u64 0,.int .u64 0,.int .u64 0] 156)).cell? ⟨g,i * 4,none⟩=some (.int .u64 a0):=key _ g0 0 (by omega);have k1:(w.alloc (.cells #[.int .u64 0,.int .u64 0,.int .u64 0,.int .u64 0] 156)).cell? ⟨g,i * 4+1,none⟩=some (.int .u64 a1):=key _ g0 1 (by omega);have k2:(w.alloc (.cells #[.int .u64 0,.int .u64 0,.int .u64 0,.int .u64 0] 156)).cell? ⟨g,i * 4+2,none⟩=some (.int .u64 a2):=key _ g0 2 (by omega);have k3:(w.alloc (.cells #[.int .u64 0,.int .u64 0,.int .u64 0,.int .u64 0] 156)).cell? ⟨g,i * 4+3,none⟩=some (.int .u64 a3):=key _ g0 3 (by omega);clear key
 have hlt':(i:Int)<ks.length:=by omega
 have hi0:(0:Int)<=i:=by omega
 go_enter Tryz.func201,Tryz.ntmps201;go_wp2_with fail;have X1:=zE.new w #[.int .u64 a0,.int .u64 a1,.int .u64 a2,.int .u64 a3] 156;have y0:=X1.cl 0 (.int .u64 a0) (by simp);have y1:=X1.cl 1 (.int .u64 a1) (by simp);have y2:=X1.cl 2 (.int .u64 a2) (by simp);have y3:=X1.cl 3 (.int .u64 a3) (by simp);refine bodyPost_ret (v:= .agg #[.int .u64 a0,.int .u64 a1,.int .u64 a2,.int .u64 a3]) ?_ rfl ⟨rfl,Ch.alloc _ _ _⟩;simp[results,Tryz.results201,go_sem,y0,y1,y2,y3]
end Go.Proofs.YteobgfbgglfkbaaGreat
