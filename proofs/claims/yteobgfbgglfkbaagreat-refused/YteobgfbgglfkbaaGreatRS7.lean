import Derived.Test.YteobgfbgglfkbaaGreatRS4
import Derived.Test.YteobgfbgglfkbaaGreatRS2
set_option maxHeartbeats 6400000
set_option maxRecDepth 100000
namespace Go.Proofs.YteobgfbgglfkbaaGreat
open Go.RowKit
attribute [local go_sem ↓] Go.wp_at_zero Go.wp_at_succ
theorem FG{q q':Nat->Nat}{f:Nat->Bool}(h:zU q f)(h':zU q' f):zS q=zS q':=by
 have key:∀t,t<4->q t=q' t:=by
  intro t ht
  refine Nat.eq_of_testBit_eq fun i=> ?_
  by_cases hi:i<64
  ·have a:=h.2 (64 * t+i) (by omega)
   have b:=h'.2 (64 * t+i) (by omega);rw[show(64 * t+i) / 64=t by omega,show(64 * t+i) % 64=i by omega]at a b;rw[a,b]
  ·have e:(18446744073709551616:Nat)<=2 ^ i:=by
    have:(2:Nat) ^ 64<=2 ^ i:=Nat.pow_le_pow_right (by omega) (by omega);exact this
   rw[Nat.testBit_lt_two_pow (Nat.lt_of_lt_of_le (h.1 t) e),Nat.testBit_lt_two_pow (Nat.lt_of_lt_of_le (h'.1 t) e)]
 simp only[zS,zK,key 0 (by omega),key 1 (by omega),key 2 (by omega),key 3 (by omega)]
theorem OG{q:Nat->Nat}{m:Nat}{f f':Nat->Bool}(hm:m<=256)(h:zU q f)(h':zU q f')(g:ZO m f)(g':ZO m f'):f=f':=by
 funext p
 by_cases hp:p<256
 ·rw[<- h.2 p hp,<- h'.2 p hp]
 ·have e1:f p=false:=by
   cases e:f p with
   |false=>rfl
   |true=>have:=g p e;omega
  have e2:f' p=false:=by
   cases e:f' p with
   |false=>rfl
   |true=>have:=g' p e;omega
  rw[e1,e2]
theorem FU{q q':Nat->Nat}(h:zS q=zS q'):∀t,t<4->q t=q' t:=by
 simp only[zS,zK,Value.agg.injEq]at h;have h':=congrArg Array.toList h;simp at h';intro t ht
 rcases Nat.lt_or_ge t 1 with h1|h1
 ·have:t=0:=by omega
  subst this;omega
 ·rcases Nat.lt_or_ge t 2 with h2|h2
  ·have:t=1:=by omega
   subst this;omega
  ·rcases Nat.lt_or_ge t 3 with h3|h3
   ·have:t=2:=by omega
    subst this;omega
   ·have:t=3:=by omega
    subst this;omega
theorem Gz{q q':Nat->Nat}{f:Nat->Bool}(h:zU q f)(e:zS q'=zS q)(hw:Wd q'):zU q' f:=by
 refine⟨hw,fun j hj=> ?_⟩;rw[FU e (j / 64) (by omega)];exact h.2 j hj
structure Zs(m:Nat)(nx hv:Nat->Nat->Bool):Prop where
 pos:0<m
 le:m<=13
 closed:∀p q,p<m->nx p q=true->q<m
 zero:∀c,hv c 0=false
def Z0(w:World)(P g m:Nat)(nx hv:Nat->Nat->Bool)(l:Nat->Bool):Prop:=
 ∃cap nq hq eq,yL w P (.slice (some ⟨g,0,none⟩) m cap) hq eq/\w.ownsRow 0 156 4 (.slice (some ⟨g,0,none⟩) m cap) m (ya nq m)/\g≠P/\(∀p,p<m->zU (nq p) (nx p))/\(∀c,c<256->zU (hq c) (hv c))/\zU eq l
theorem Z0.kp{w w':World}{P g m:Nat}{nx hv:Nat->Nat->Bool}{l:Nat->Bool}{Y:List Nat}(h:Z0 w P g m nx hv l)(c:Ch Y w w')(h1:P∉Y)(h2:g∉Y):Z0 w' P g m nx hv l:=by
 obtain⟨cap,nq,hq,eq,a1,a2,a3⟩:=h;exact⟨cap,nq,hq,eq,zE.kp a1 c h1,zJ a2 c (by intro k hk;simp[Value.ownBlock]at hk;subst hk;exact h2),a3⟩
theorem Z0.lt{w:World}{P g m:Nat}{nx hv:Nat->Nat->Bool}{l:Nat->Bool}(h:Z0 w P g m nx hv l):P<w.heap.size/\g<w.heap.size:=by
 obtain⟨cap,nq,hq,eq,a1,a2,a3⟩:=h;exact⟨zE.lt a1,(a2.lt g rfl).2⟩
theorem XZ.tables{w:World}{lo P:Nat}{L:zF}(h:XZ w lo P L):∃g m nx hv l,Z0 w P g m nx hv l/\Zs m nx hv/\lo<=g/\∀t,L t↔yP nx hv l 0 t:=by
 obtain⟨g,m,cap,nq,hq,nx,hv,eq,l,a1,a2,a3,a4,a5,a6,a7,a8,a9,b1,b2,b4,b3⟩:=h;exact⟨g,m,nx,hv,l,⟨cap,nq,hq,eq,a1,a2,a3,a6,a7,a8⟩,⟨a4,b1,a9,b2⟩,b4,b3⟩
def YU(st:Nat->Nat->Nat)(n:Nat):List Value:=(List.range (256 * n)).map fun j=> .int .i64 (st (j / 256) (j % 256):Nat)
theorem Qd{st:Nat->Nat->Nat}{n p b:Nat}(hp:p<n)(hb:b<256):(YU st n)[p * 256+b]? =some (.int .i64 (st p b:Nat)):=by
 have h1:p * 256+b<256 * n:=by omega
 have e1:(p * 256+b) / 256=p:=by omega
 have e2:(p * 256+b) % 256=b:=by omega
 simp[YU,h1,e1,e2]
theorem Qh(st:Nat->Nat->Nat)(n:Nat):(YU st n).length=n * 256:=by simp[YU];omega
theorem GH{st:Nat->Nat->Nat}{n p b:Nat}(hp:p<n)(hb:b<256)(x:Nat):(YU st n).set (p * 256+b) (.int .i64 (x:Nat))=YU (fun i c=>if i=p/\c=b then x else st i c) n:=by
 apply List.ext_getElem?;intro j
 by_cases hj:j<n * 256
 ·have e:j=j / 256 * 256+j % 256:=by omega
  have h1:j / 256<n:=by omega
  have h2:j % 256<256:=by omega
  by_cases he:j=p * 256+b
  ·subst he
   rw[List.getElem?_set_self (by rw[Qh];omega),Qd hp hb];simp
  ·rw[List.getElem?_set_ne (Ne.symm he)]
   have q1:=Qd (st:=st) h1 h2;have q2:=Qd (st:=fun i c=>if i=p/\c=b then x else st i c) h1 h2;rw[<- e]at q1 q2;rw[q1,q2,if_neg (by omega)]
 ·rw[List.getElem?_eq_none (by simp[Qh];omega),List.getElem?_eq_none (by simp[Qh];omega)]
theorem Pg(st:Nat->Nat->Nat)(n:Nat):YU (fun i c=>if i<n then st i c else 0) (n+1)=YU st n++List.replicate 256 (.int .i64 0):=by
 apply List.ext_getElem?;intro j
 by_cases hj:j<n * 256
 ·have e:j=j / 256 * 256+j % 256:=by omega
  have q1:=Qd (st:=st) (show j / 256<n by omega) (show j % 256<256 by omega);have q2:=Qd (st:=fun i c=>if i<n then st i c else 0) (show j / 256<n+1 by omega) (show j % 256<256 by omega);rw[<- e]at q1 q2;rw[List.getElem?_append_left (by rw[Qh];exact hj),q1,q2,if_pos (by omega)]
 ·rw[List.getElem?_append_right (by rw[Qh];omega),Qh]
  by_cases hj2:j<(n+1) * 256
  ·have e:j=j / 256 * 256+j % 256:=by omega
   have q2:=Qd (st:=fun i c=>if i<n then st i c else 0) (show j / 256<n+1 by omega) (show j % 256<256 by omega);rw[<- e]at q2;rw[q2,if_neg (by omega),List.getElem?_replicate,if_pos (by omega)];rfl
  ·rw[List.getElem?_eq_none (by rw[Qh];omega),List.getElem?_eq_none (by rw[List.length_replicate];omega)]
structure jX(m:Nat)(nx hv:Nat->Nat->Bool)(l:Nat->Bool)(w:World)(X:List Nat)(W:Nat)(γ:List (Nat->Bool)):Prop where
 mem:∃P g Mt Xm sv vs st,X=W:: P:: g:: (Xm++sv.ownBlock.toList)/\zE w W #[.pointer (some ⟨P,0,none⟩),.pointer (some ⟨Mt,0,none⟩),sv] 279/\Z0 w P g m nx hv l/\ZV w Xm Mt vs/\vs.length=γ.length/\
  (∀(i:Nat) f,γ[i]? =some f->∃q,vs[i]? =some (zS q)/\zU q f)/\w.ownsRow 0 284 256 sv γ.length (YU st γ.length)/\
  (∀i b,i<γ.length->b<256->st i b=0\/∃f,γ[i]? =some f/\γ[st i b]? =some (yG m nx hv f (UInt8.ofNat b)))/\
  (W∉Xm/\P∉Xm/\g∉Xm/\W≠P/\W≠g/\∀q,sv.ownBlock=some q->q≠W/\q≠P/\q≠g/\q∉Xm)
 good:∀f,f∈γ->ZO m f
 nodup:γ.Nodup
section
variable {m:Nat} {nx hv:Nat->Nat->Bool} {l:Nat->Bool} {w w':World} {X Y:List Nat} {W:Nat} {γ:List (Nat->Bool)}
theorem jX.kp(h:jX m nx hv l w X W γ)(c:Ch Y w w')(hX:∀k,k∈X->k∉Y):jX m nx hv l w' X W γ:=by
 refine⟨?_,h.good,h.nodup⟩;obtain⟨P,g,Mt,Xm,sv,vs,st,rfl,a1,a2,a3,a4,a5,a6,a7,a8⟩:=h.mem;refine⟨P,g,Mt,Xm,sv,vs,st,rfl,a1.kp c (hX W (by simp)),a2.kp c (hX P (by simp)) (hX g (by simp)),a3.kp c (fun k hk=>hX k (by simp[hk])),a4,a5,zJ a6 c (fun k hk=>hX k (by simp[hk])),a7,a8⟩
theorem jX.lt(h:jX m nx hv l w X W γ):∀k,k∈X->k<w.heap.size:=by
 obtain⟨P,g,Mt,Xm,sv,vs,st,rfl,a1,a2,a3,a4,a5,a6,a7,a8⟩:=h.mem;intro k hk;simp only[List.mem_cons,List.mem_append,Option.mem_toList]at hk
 rcases hk with rfl|rfl|rfl|hk|hk
 ·exact a1.lt
 ·exact a2.lt.1
 ·exact a2.lt.2
 ·exact a3.lt k hk
 ·exact(a6.lt k hk).2
end
def JY(f:Nat->Bool):Nat->Nat
 |0=>0
 |n+1=>2 * JY f n+(if f n then 1 else 0)
theorem Wm(f:Nat->Bool):∀n,JY f n<2 ^ n
 |0=>by simp[JY]
 |n+1=>by
  have:=Wm f n;unfold JY;rw[Nat.pow_succ]
  split <;>omega
theorem ET{f g:Nat->Bool}:∀n,JY f n=JY g n->∀p,p<n->f p=g p
 |0,_,p,hp=>by omega
 |n+1,h,p,hp=>by
  unfold JY at h
  have h1:JY f n=JY g n:=by
   split at h <;>split at h <;>omega
  by_cases e:p=n
  ·subst e
   cases ef:f p <;>cases eg:g p <;>simp[ef,eg]at h <;>first|rfl|omega
  ·exact ET n h1 p (by omega)
theorem Lj{m:Nat}(hm:m<=13){f g:Nat->Bool}(hf:ZO m f)(hg:ZO m g)(h:JY f 13=JY g 13):f=g:=by
 funext p
 by_cases hp:p<13
 ·exact ET 13 h p hp
 ·have e1:f p=false:=by
   cases e:f p with
   |false=>rfl
   |true=>have:=hf p e;omega
  have e2:g p=false:=by
   cases e:g p with
   |false=>rfl
   |true=>have:=hg p e;omega
  rw[e1,e2]
theorem jX.len{m:Nat}{nx hv:Nat->Nat->Bool}{l:Nat->Bool}{w:World}{X:List Nat}{W:Nat}{γ:List (Nat->Bool)}(hm:m<=13)(h:jX m nx hv l w X W γ):γ.length<=8192:=
 Wv h.nodup (fun f=>JY f 13) 8192 (fun f _=>Wm f 13) (fun f g hf hg e=>Lj hm (h.good f hf) (h.good g hg) e)
theorem Ts:(Tryz.prog.info? 284).map (fun i=>(i.zero,i.size,i.bytes))=some (some (.agg (List.replicate 256 (.int .i64 0)).toArray),256,2048):=by kernel_rfl
theorem Gm:Tryz.zeroCells284=(List.replicate 256 (.int .i64 0)).toArray:=by kernel_rfl
theorem GS(w:World):(Instr.buildSlice 277 1 #[(0,.agg Tryz.zeroCells284)]).run Tryz.prog w= .ok (.slice (some ⟨w.heap.size,0,none⟩) 1 1) (w.alloc (.cells Tryz.zeroCells284 284)):=by kernel_rfl
theorem RO{w:World}{ops:Array Oper}{rest:List Oper}{o:Oper}{a:Act}{Q:Exit->Act->World->Prop}(hg:o.guard=none)(x:Operand)(hop:o.op=Op.buildSlice 277 1 #[(0,x)])(hx:a.eval x= .agg Tryz.zeroCells284)
 (hK:wpList Tryz.prog ops Q rest (a.put o.dst (.slice (some ⟨w.heap.size,0,none⟩) 1 1)) (w.alloc (.cells (List.replicate 256 (.int .i64 0)).toArray 284))):wpList Tryz.prog ops Q (o:: rest) a w:=by
 refine wpList_plain hg fun K' hK'=> ?_
 have hr:=GS w;rw[<- Gm]at hK;generalize Tryz.zeroCells284=cs at *;unfold Oper.wp;simp[execOp,hop,hx,hr,Result.andThen];exact hK' _ _ hK
def KJ(m:Nat)(nx hv:Nat->Nat->Bool)(l:Nat->Bool)(w:World)(X:List Nat)(W:Nat)(γ:List (Nat->Bool))(f:Nat->Bool)(e:Ending)(w':World):Prop:=
 ∃(i:Nat) (X':List Nat) (γ':List (Nat->Bool)),e= .returned (.int .i64 i)/\jX m nx hv l w' X' W γ'/\γ<+:γ'/\γ'[i]? =some f/\Ch X w w'/\∀q,q∈X'->q∈X\/w.heap.size<=q
def Wx(m:Nat)(nx hv:Nat->Nat->Bool)(l:Nat->Bool)(w:World)(X:List Nat)(W:Nat)(γ:List (Nat->Bool))(f:Nat->Bool)(e:Ending)(w':World):Prop:=
 ∃(i:Nat) (X':List Nat) (γ':List (Nat->Bool)),e= .returned (.int .i64 i)/\jX m nx hv l w' X' W γ'/\(γ'=γ\/γ'=γ++[f])/\γ'[i]? =some f/\Ch X w w'/\∀q,q∈X'->q∈X\/w.heap.size<=q
theorem Wx.walk{m:Nat}{nx hv:Nat->Nat->Bool}{l:Nat->Bool}{w w':World}{X:List Nat}{W:Nat}{γ:List (Nat->Bool)}{f:Nat->Bool}{e:Ending}(h:Wx m nx hv l w X W γ f e w'):KJ m nx hv l w X W γ f e w':=by
 obtain⟨i,X',γ',h1,h2,h3,h4⟩:=h;refine⟨i,X',γ',h1,h2,?_,h4⟩
 rcases h3 with rfl|rfl
 ·exact List.prefix_refl _
 ·exact List.prefix_append _ _
theorem WT.flat{w w':World}{X:List Nat}{M:Nat}{ks:List Value}{key:Value}{e:Ending}(h:WT w X M ks key e w'):∃(n:Nat) (b:Bool),e= .returned (.tuple #[.int .i64 n,.bool b])/\Hd ((b=false/\ks[n]? =some key/\Ch [] w w')\/(b=true/\n=ks.length/\key∉ks/\∃X',ZV w' X' M (ks++[key])/\Ch X w w'/\∀k,k∈X'->k∈X\/w.heap.size<=k)):=by
 rcases h with⟨i,h1,rfl,h2⟩|⟨h1,rfl,h2⟩
 ·exact⟨i,false,rfl,Or.inl ⟨rfl,h1,h2⟩⟩
 ·exact⟨ks.length,true,rfl,Or.inr ⟨rfl,rfl,h1,h2⟩⟩
section
variable {m:Nat} {nx hv:Nat->Nat->Bool} {l:Nat->Bool} {w:World} {X:List Nat} {W:Nat} {γ:List (Nat->Bool)}
theorem Iz{P g Mt:Nat}{Xm Xn:List Nat}{a:Option Addr}{c:Nat}{vs:List Value}{st:Nat->Nat->Nat}{q:Nat->Nat}{f:Nat->Bool}{w0 w1 w2 w7:World}{g7 cap H:Nat}(h:jX m nx hv l w X W γ)(hX:X=W:: P:: g:: (Xm++(Value.slice a γ.length c).ownBlock.toList))(a1:zE w W #[.pointer (some ⟨P,0,none⟩),.pointer (some ⟨Mt,0,none⟩),.slice a γ.length c] 279)(a2:Z0 w P g m nx hv l)(a3:ZV w Xm Mt vs)(a4:vs.length=γ.length)
 (a5:∀(i:Nat) f,γ[i]? =some f->∃q,vs[i]? =some (zS q)/\zU q f) (a6:w.ownsRow 0 284 256 (.slice a γ.length c) γ.length (YU st γ.length)) (a7:∀i b,i<γ.length->b<256->st i b=0\/∃f,γ[i]? =some f/\γ[st i b]? =some (yG m nx hv f (UInt8.ofNat b)))
 (a8:W∉Xm/\P∉Xm/\g∉Xm/\W≠P/\W≠g/\∀q,(Value.slice a γ.length c).ownBlock=some q->q≠W/\q≠P/\q≠g/\q∉Xm) (hq:zU q f) (hg:ZO m f) (hn:zS q∉vs) (c0:Ch [] w w0) (M1:ZV w1 Xn Mt (vs++[zS q])) (c1:Ch Xm w0 w1) (s1:∀k,k∈Xn->k∈Xm\/w0.heap.size<=k)
 (c2:Ch [] w1 w2) (own:w7.ownsRow 0 284 256 (.slice (some ⟨g7,0,none⟩) (γ.length+1) cap) (γ.length+1) (YU st γ.length++List.replicate 256 (.int .i64 0))) (c7:Ch (Value.slice a γ.length c).ownBlock.toList w2 w7) (hat:(Value.slice a γ.length c).ownBlock=some g7\/g7=H) (hH:w2.heap.size<=H):
 Wx m nx hv l w X W γ f (.returned (.int .i64 (vs.length:Nat))) (w7.setCell ⟨W,2,none⟩ (.slice (some ⟨g7,0,none⟩) (γ.length+1) cap)):=by
 have z0:=c0.size;have z1:=c1.size;have z2:=c2.size;have lX:=h.lt;have lW:=a1.lt;have lP:=a2.lt;have lM:=a3.lt
 have hs:∀k,k∈(Value.slice a γ.length c).ownBlock.toList->k<w.heap.size/\k≠W/\k≠P/\k≠g/\k∉Xm:=fun k hk=>⟨(a6.lt k (by simpa using hk)).2,a8.2.2.2.2.2 k (by simpa using hk)⟩
 have gW:Ch [W] w7 (w7.setCell ⟨W,2,none⟩ (.slice (some ⟨g7,0,none⟩) (γ.length+1) cap)):=Ch.setCell _ (by simp) _
 have big:∀k,k∈Xn->k∈Xm\/w.heap.size<=k:=fun k hk=>(s1 k hk).imp id (fun h=>by omega)
 have nW:W∉Xn:=fun hx=>by rcases big W hx with h1|h1;exact a8.1 h1;omega
 have nP:P∉Xn:=fun hx=>by rcases big P hx with h1|h1;exact a8.2.1 h1;omega
 have ng:g∉Xn:=fun hx=>by rcases big g hx with h1|h1;exact a8.2.2.1 h1;omega
 have ns:∀k,k∈(Value.slice a γ.length c).ownBlock.toList->k∉Xn:=fun k hk hx=>by
  have:=hs k hk
  rcases big k hx with h1|h1
  ·exact this.2.2.2.2 h1
  ·omega
 have hg7:g7≠W/\g7≠P/\g7≠g/\g7∉Xn:=by
  rcases hat with h1|h1
  ·have:=hs g7 (by simp[h1])
   exact⟨this.2.1,this.2.2.1,this.2.2.2.1,ns g7 (by simp[h1])⟩
  ·exact⟨by omega,by omega,by omega,fun hx=>by have:=M1.lt g7 hx;omega⟩
 have tot:Ch (Xm++(Value.slice a γ.length c).ownBlock.toList) w w7:=(((c0.mono (by simp)).trans (c1.mono (fun k hk=>List.mem_append_left _ hk))).trans (c2.mono (by simp))).trans (c7.mono (fun k hk=>List.mem_append_right _ hk))
 have hfn:f∉γ:=by
  intro hx;obtain⟨i,hi,e⟩:=List.mem_iff_getElem.1 hx;obtain⟨q',h1,h2⟩:=a5 i γ[i] (List.getElem?_eq_getElem hi);rw[e]at h2;rw[FG h2 hq]at h1;exact hn (List.mem_of_getElem? h1)
 have W7:=(a1.kp tot (by simp;exact⟨a8.1,fun e=>(a8.2.2.2.2.2 W e).1 rfl⟩)).set 2 (.slice (some ⟨g7,0,none⟩) (γ.length+1) cap);refine⟨vs.length,W:: P:: g:: (Xn++[g7]),γ++[f],rfl,⟨⟨P,g,Mt,Xn,.slice (some ⟨g7,0,none⟩) (γ.length+1) cap,vs++[zS q],fun i c=>if i<γ.length then st i c else 0,by simp[Value.ownBlock],by simpa using W7,?_,?_,by simp[a4],?_,?_,?_,nW,nP,ng,a8.2.2.2.1,a8.2.2.2.2.1,?_⟩,?_,?_⟩,Or.inr rfl,by rw[a4];simp,?_,?_⟩
 ·refine(a2.kp tot ?_ ?_).kp gW (by simpa using Ne.symm a8.2.2.2.1) (by simpa using Ne.symm a8.2.2.2.2.1)
  ·simp;exact⟨a8.2.1,fun e=>(a8.2.2.2.2.2 P e).2.1 rfl⟩
  ·simp;exact⟨a8.2.2.1,fun e=>(a8.2.2.2.2.2 g e).2.2.1 rfl⟩
 ·exact((M1.kp c2 (by simp)).kp c7 (fun k hk hx=>ns k hx hk)).kp gW (fun k hk hx=>nW (by have e:k=W:=(by simpa using hx);rw[<- e];exact hk))
 ·intro i u hu
  by_cases e:i<γ.length
  ·obtain⟨q',h1,h2⟩:=a5 i u (VX e hu)
   exact⟨q',JC h1,h2⟩
  ·have e2:i=γ.length:=by
    have:=(List.getElem?_eq_some_iff.1 hu).1;simp at this;omega
   subst e2;rw[List.getElem?_concat_length]at hu;have:=Option.some.inj hu;subst this;exact⟨q,by rw[<- a4];simp,hq⟩
 ·rw[List.length_append,List.length_singleton,Pg]
  exact zJ own gW (by intro k hk;simp[Value.ownBlock]at hk;subst hk;simpa using hg7.1)
 ·intro i b hi hb
  by_cases e:i<γ.length
  ·simp only[if_pos e]
   rcases a7 i b e hb with h1|⟨u,h1,h2⟩
   ·exact Or.inl h1
   ·exact Or.inr ⟨u,JC h1,JC h2⟩
  ·exact Or.inl (by simp only[if_neg e])
 ·intro k hk
  have e:g7=k:=by simpa[Value.ownBlock]using hk
  subst e;exact hg7
 ·intro u hu
  rcases List.mem_append.1 hu with h1|h1
  ·exact h.good u h1
  ·have:u=f:=by simpa using h1
   rw[this];exact hg
 ·rw[List.nodup_append]
  refine⟨h.nodup,by simp,fun x hx y hy=> ?_⟩
  have:y=f:=by simpa using hy
  subst this
  exact fun e=>hfn (e ▸ hx)
 ·rw[hX]
  exact(tot.mono (fun k hk=>by simp only[List.mem_cons];exact Or.inr (Or.inr (Or.inr hk)))).trans (gW.mono (by simp))
 ·intro k hk
  rw[hX];simp only[List.mem_cons,List.mem_append,List.not_mem_nil,or_false]at hk ⊢
  rcases hk with rfl|rfl|rfl|hk|rfl
  ·exact Or.inl (Or.inl rfl)
  ·exact Or.inl (Or.inr (Or.inl rfl))
  ·exact Or.inl (Or.inr (Or.inr (Or.inl rfl)))
  ·rcases big k hk with h1|h1
   ·exact Or.inl (Or.inr (Or.inr (Or.inr (Or.inl h1))))
   ·exact Or.inr h1
  ·rcases hat with h1|h1
   ·exact Or.inl (Or.inr (Or.inr (Or.inr (Or.inr (by simp[h1])))))
   ·exact Or.inr (by omega)
theorem DW(hm:m<=13)(h:jX m nx hv l w X W γ){q:Nat->Nat}{f:Nat->Bool}(hq:zU q f)(hg:ZO m f):
 Calls Tryz.prog 162 #[.pointer (some ⟨W,0,none⟩),zS q] w (Wx m nx hv l w X W γ f):=by
 have hlen:=h.len hm;obtain⟨P,g,Mt,Xm,sv,vs,st,hX,a1,a2,a3,a4,a5,a6,a7,a8⟩:=h.mem;obtain⟨a,c,rfl⟩:=zQ a6;rw[show zS q= .agg #[.int .u64 (q 0),.int .u64 (q 1),.int .u64 (q 2),.int .u64 (q 3)]from rfl];have B0:=zE.new w (zK q) 156;have g0:=Ch.alloc [] w (.cells (zK q) 156)
 have z0:(w.alloc (.cells (zK q) 156)).heap.size=w.heap.size+1:=by simp
 have W0:=a1.kp g0 (by simp);have M0:=a3.kp g0 (by simp);have HA1:=zC a1;have HA2:=zC a2;have HA3:=zC a3;have HA4:=zC a4;have HA5:=zC a5;have HA6:=zC a6;have HA7:=zC a7;have HA8:=zC a8;have HH:=zC h;have HQ:=zC hq;have HG:=zC hg;have HX:=zC hX;clear a1 a2 a3 a4 a5 a6 a7 a8 h hq hg hX;have hw0:w.alloc (.cells #[.int .u64 (q 0),.int .u64 (q 1),.int .u64 (q 2),.int .u64 (q 3)] 156)=w.alloc (.cells (zK q) 156):=rfl;generalize w.alloc (.cells (zK q) 156)=w0 at *;obtain⟨d0,d1,d2,d3⟩:=B0.c4;have n0:=W0.cl 0 (.pointer (some ⟨P,0,none⟩)) rfl;have n1:=W0.cl 1 (.pointer (some ⟨Mt,0,none⟩)) rfl;have n2:=W0.cl 2 (.slice a γ.length c) rfl
 have MM:∀W',Ch [] w0 W'->Calls Tryz.prog 200 #[.pointer (some ⟨Mt,0,none⟩),.agg #[.int .u64 (q 0),.int .u64 (q 1),.int .u64 (q 2),.int .u64 (q 3)]] W' (WT W' Xm Mt vs (zS q)):=by
  intro W' gW';exact Hu (M0.kp gW' (by simp)) (aN (fun t _=>HQ.o.1 t)) (by intro u hu;simp at hu;rcases hu with rfl|rfl|rfl|rfl <;>rfl) (by rw[HA4.o];omega)
 have HMM:=zC MM;have HW0:=zC W0;clear MM M0 B0 W0;go_enter Tryz.func162,Tryz.ntmps162;go_wp2_with fail;have gd:Hd (Ch [] w w0.drew):=g0.trans (Ch.drew [] w0)
 go_region_with (first|(go_at_call 200;refine(HMM.o _ (Ch.drew [] w0)).mono ?_;intro e w1 hM1;obtain⟨n1',b1,rfl,hM⟩:=hM1.flat;clear hM1))
 all_goals
  rcases hM.o with⟨rfl,hk,c1⟩|⟨rfl,rfl,hn,Xn,M1,c1,s1⟩
  ·have FIN:Hd (Wx m nx hv l w X W γ f (.returned (.int .i64 (n1':Nat))) w1):=by
    have hlt:n1'<γ.length:=by rw[<- HA4.o];exact(List.getElem?_eq_some_iff.1 hk).1
    obtain⟨q',h1,h2⟩:=HA5.o n1' γ[n1'] (List.getElem?_eq_getElem hlt);rw[hk]at h1;have e:zS q=zS q':=Option.some.inj h1;have hf:γ[n1']=f:=OG (by omega) (Gz h2 e HQ.o.1) HQ.o (HH.o.good _ (List.getElem_mem _)) HG.o;exact⟨n1',X,γ,rfl,HH.o.kp (gd.o.trans c1) (by simp),Or.inl rfl,by rw[List.getElem?_eq_getElem hlt,hf],(gd.o.trans c1).mono (by simp),fun k hk=>Or.inl hk⟩
   go_wp2_with fail;go_ret;exact FIN.o
  ·have W1:=(HW0.o.kp (Ch.drew [] w0) (by simp)).kp c1 HA8.o.1
   have m2:=W1.cl 2 (.slice a γ.length c) rfl;have HM1:=zC M1;have HC1:=zC c1;have HS1:=zC s1;have gA:=Ch.alloc [] w1 (.cells (List.replicate 256 (.int .i64 0)).toArray 284);have OWN:=zJ (zJ (zJ HA6.o gd.o (by simp)) c1 (fun k hk hx=>(HA8.o.2.2.2.2.2 k hk).2.2.2 hx)) gA (by simp);have HOWN:=zC OWN;have HGA:=zC gA
   have hnl:γ.length<=16777216:=by omega
   clear OWN M1 c1 s1
   have NDD:Hd (W∉(Value.slice a γ.length c).ownBlock.toList):=by show ¬_;intro hx;exact(HA8.o.2.2.2.2.2 W (by simpa using hx)).1 rfl
   have HW1:=zC (W1.kp gA (by simp));clear W1 gA;go_wp2_with (first|(refine RO rfl _ rfl rfl ?_)|(at_builtin;refine YZ 277 284 256 2048 (.agg (List.replicate 256 (.int .i64 0)).toArray) Tryz.underlying277 Ts rfl (by omega) (by omega) (by rfl) _ _ (by rfl) (.slice a γ.length c) γ.length _ (by rfl) HOWN.o w1.heap.size (List.replicate 256 (.int .i64 0)) (by rfl) (zr _ _) (by rw[List.length_replicate]) (by intro u hu;rw[List.eq_of_mem_replicate hu];rfl) hnl (w1.heap.size+1) (by simp) ?_;intro g7 cap7 w7 own7 gr7 hat7 hlt7;have W7:=HW1.o.kp gr7 NDD.o;have b7:=W7.cl 2 (.slice a γ.length c) rfl;have b7f:=W7.fz));go_ret;exact Iz HH.o HX.o HA1.o HA2.o HA3.o HA4.o HA5.o HA6.o HA7.o HA8.o HQ.o HG.o hn gd.o HM1.o HC1.o HS1.o HGA.o own7 gr7 hat7 (by simp)
end
section
variable {m:Nat} {nx hv:Nat->Nat->Bool} {l:Nat->Bool} {w:World} {X:List Nat} {W:Nat} {γ:List (Nat->Bool)}
theorem KV(h:jX m nx hv l w X W γ){s:Nat}{f:Nat->Bool}(hs:γ[s]? =some f):
 Calls Tryz.prog 163 #[.pointer (some ⟨W,0,none⟩),.int .i64 s] w fun e w'=>∃q,e= .returned (zS q)/\zU q f/\Ch [] w w':=by
 obtain⟨P,g,Mt,Xm,sv,vs,st,hX,a1,a2,a3,a4,a5,a6,a7,a8⟩:=h.mem;obtain⟨q,hv1,hq⟩:=a5 s f hs;have B0:=zE.new w (zK fun _=>0) 156;have g0:=Ch.alloc [] w (.cells (zK fun _=>0) 156);have W0:=a1.kp g0 (by simp);have HM0:=zC (a3.kp g0 (by simp));have n1:=W0.cl 1 (.pointer (some ⟨Mt,0,none⟩)) rfl;have HQ:=zC hq;have HV:=zC hv1;have HB0:=zC B0;have HG0:=zC g0;clear a1 a2 a3 a4 a5 a6 a7 a8 h hs hq hX hv1 W0 B0 g0;have hw0:w.alloc (.cells #[.int .u64 0,.int .u64 0,.int .u64 0,.int .u64 0] 156)=w.alloc (.cells (zK fun _=>0) 156):=rfl;generalize w.alloc (.cells (zK fun _=>0) 156)=w0 at *;go_enter Tryz.func163,Tryz.ntmps163;go_wp2_with fail;refine(Id HM0.o (i:=s) (a0:=(q 0)) (a1:=(q 1)) (a2:=(q 2)) (a3:=(q 3)) HV.o).mono ?_;rintro e w1 ⟨rfl,c1⟩;have B1:=HB0.o.kp c1 (by simp);obtain⟨k0,k1,k2,k3⟩:=B1.c4;have kf:=B1.fz;obtain⟨B2,c2⟩:=B1.fill q;obtain⟨y0,y1,y2,y3⟩:=B2.c4;have HC:=zC ((HG0.o.trans c1).trans' c2 (fun k hk=>Or.inr (by simp at hk;omega)));go_wp2_with fail;refine bodyPost_ret (v:=zS q) ?_ rfl ⟨q,rfl,HQ.o,HC.o⟩;simp[results,Tryz.results163,go_sem,y0,y1,y2,y3,zS,zK]
theorem GK(h:jX m nx hv l w X W γ){s:Nat}{f:Nat->Bool}(hs:γ[s]? =some f):
 Calls Tryz.prog 128 #[.pointer (some ⟨W,0,none⟩),.int .i64 s] w fun e w'=>e= .returned (.bool (QP f))/\Ch [] w w':=by
 have HP:=zC (KV h hs);clear h hs;go_enter Tryz.func128,Tryz.ntmps128;go_wp2_with fail;refine HP.o.mono ?_;rintro e w1 ⟨q,rfl,hq,c1⟩;have HE:=zC (EU (w:=w1) hq);rw[show zS q= .agg #[.int .u64 (q 0),.int .u64 (q 1),.int .u64 (q 2),.int .u64 (q 3)]from rfl]at HE ⊢;go_wp2_with fail;refine HE.o.mono ?_;rintro e w2 ⟨r,rfl,hr,c2⟩;go_wp2_with fail;go_ret;refine⟨?_,c1.trans c2⟩
 have:r=QP f:=by
  rw[Bool.eq_iff_iff,hr];unfold QP;simp[List.all_eq_true]
 rw[this];rfl
end
end Go.Proofs.YteobgfbgglfkbaaGreat
