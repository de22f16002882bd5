import Derived.Test.YteobgfbgglfkbaaGreatAV1
import Derived.Test.YteobgfbgglfkbaaGreatAS5
set_option maxHeartbeats 12800000
set_option maxRecDepth 100000
namespace Go.Proofs.YteobgfbgglfkbaaGreat
open Go.RowKit
attribute [local go_sem ↓] Go.wp_at_zero Go.wp_at_succ
theorem Ee{w:World}{X:List Nat}{M:Nat}{ks:List Value}(h:ZL w X M ks):Calls Tryz.prog 184 #[.pointer (some ⟨M,0,none⟩)] w fun e w'=>e= .returned (.int .i64 ks.length)/\w'=w:=by
 obtain⟨B,v,f,rfl,h1,h2,h3,h4,h5,h6⟩:=h;obtain⟨a,c,rfl⟩:=zQ h4;have c0:=h1.cl 1 _ rfl;go_enter Tryz.func184,Tryz.ntmps184;go_wp2_with fail;go_ret;exact⟨rfl,rfl⟩
structure VZ{K Γ:Type}(S:yp K)(good:K->Prop)(lo:Nat)(le:Γ->Γ->Prop)(Key:Γ->Value->K->Prop)(zi:World->List Nat->Γ->Prop)(nn nw:Nat)(nc wc:Array Value):Prop where
 lt:∀w X γ,zi w X γ->lo<=w.heap.size/\∀k,k∈X->k<w.heap.size
 kp:∀w w' X Y γ,zi w X γ->Ch Y w w'->(∀k,k∈Y->lo<=k/\k∉X)->zi w' X γ
 refl:∀γ,le γ γ
 trans:∀a b c,le a b->le b c->le a c
 mono:∀γ γ' v k,le γ γ'->Key γ v k->Key γ' v k
 shape:∀γ v k,Key γ v k->∃(a0 a1 a2 a3 a4 a5:Int) (b6:Bool),v= .agg #[.int .u8 a0,.int .u8 a1,.int .u8 a2,.int .u8 a3,.int .u8 a4,.int .u8 a5,.bool b6]/\∃kl,keyOf Tryz.prog 246 v=some kl
 inj:∀γ v k v' k',Key γ v k->Key γ v' k'->(v=v'↔k=k')
 enN:∀(args:Array Value) (W:World),Sem.run Tryz.prog (callFunc nn args) W= .ok (.enter nn args) W
 enW:∀(args:Array Value) (W:World),Sem.run Tryz.prog (callFunc nw args) W= .ok (.enter nw args) W
 next:∀w X γ v k (l:UInt8),zi w X γ->Key γ v k->good k->Calls Tryz.prog nn (#[v,.int .u8 (l.toNat)]++nc) w fun e w'=>∃v' X' γ',e= .returned (.tuple #[v',.bool (!S.lost (S.step k l))])/\zi w' X' γ'/\le γ γ'/\Key γ' v' (S.step k l)/\Ch X w w'/\∀q,q∈X'->q∈X\/w.heap.size<=q
 want:∀w X γ v k,zi w X γ->Key γ v k->good k->Calls Tryz.prog nw (#[v]++wc) w fun e w'=>∃X' γ',e= .returned (.bool (S.want k))/\zi w' X' γ'/\le γ γ'/\Ch X w w'/\∀q,q∈X'->q∈X\/w.heap.size<=q
structure ZT{K Γ:Type}(S:yp K)(ls:List UInt8)(Key:Γ->Value->K->Prop)(zi:World->List Nat->Γ->Prop)(w:World)(X:List Nat)(lv:Value)(M:Nat)(sv:Value)(ts:List (List UInt8))(w5:World)(X5 Xm:List Nat)(γ:Γ)(ss:List (Nat×UInt8))(vs:List Value):Prop where
 steps:XL ts ss
 met:ZL w5 Xm M vs
 len:vs.length=ts.length
 keys:∀(j:Nat) (t:List UInt8),ts[j]? =some t->∃v,vs[j]? =some v/\Key γ v (S.at t)
 row:w5.ownsRow 0 291 2 sv ss.length (YK ss)
 lets:w5.ownsRow 0 5 1 lv ls.length (jJ ls)
 inv:zi w5 X5 γ
 newM:∀q,q∈Xm->w.heap.size<=q/\q∉X5
 newS:∀q,sv.ownBlock=some q->w.heap.size<=q/\q∉X5/\q∉Xm
 oldL:∀q,lv.ownBlock=some q->q<w.heap.size/\q∉X
 sub:∀q,q∈X5->q∈X\/w.heap.size<=q
 ch:Ch X w w5
section
variable {K Γ:Type} {S:yp K} {good:K->Prop} {lo:Nat} {le:Γ->Γ->Prop} {Key:Γ->Value->K->Prop} {zi:World->List Nat->Γ->Prop} {nn nw:Nat} {nc wc:Array Value} {ls:List UInt8} {w:World} {X:List Nat} {lv:Value} {M:Nat} {sv:Value} {ts:List (List UInt8)} {w5 w6:World} {X5 X6 Xm:List Nat} {γ γ':Γ} {ss:List (Nat×UInt8)} {vs:List Value}
theorem ZT.quiet(R:VZ S good lo le Key zi nn nw nc wc)(h:ZT S ls Key zi w X lv M sv ts w5 X5 Xm γ ss vs)(c:Ch [] w5 w6):ZT S ls Key zi w X lv M sv ts w6 X5 Xm γ ss vs:=
 {h with
  met:=h.met.kp c (by simp)
  row:=zJ h.row c (by simp)
  lets:=zJ h.lets c (by simp)
  inv:=R.kp _ _ _ _ _ h.inv c (by simp)
  ch:=h.ch.trans' c (by simp)}
theorem ZT.closure(R:VZ S good lo le Key zi nn nw nc wc)(h:ZT S ls Key zi w X lv M sv ts w5 X5 Xm γ ss vs)(hI:zi w6 X6 γ')(hle:le γ γ')(c:Ch X5 w5 w6)(hs:∀q,q∈X6->q∈X5\/w5.heap.size<=q):ZT S ls Key zi w X lv M sv ts w6 X6 Xm γ' ss vs where
 steps:=h.steps
 met:=h.met.kp c (fun k hk=>(h.newM k hk).2)
 len:=h.len
 keys:=fun j t hj=>by
  obtain⟨v,h1,h2⟩:=h.keys j t hj;exact⟨v,h1,R.mono _ _ _ _ hle h2⟩
 row:=zJ h.row c (fun q hq=>(h.newS q hq).2.1)
 lets:=zJ h.lets c (fun q hq hx=>by
  have:=h.oldL q hq
  rcases h.sub q hx with h1|h1
  ·exact this.2 h1
  ·omega)
 inv:=hI
 newM:=fun q hq=>⟨(h.newM q hq).1,fun hx=>by
  have:=h.met.lt q hq
  rcases hs q hx with h1|h1
  ·exact(h.newM q hq).2 h1
  ·omega⟩
 newS:=fun q hq=>⟨(h.newS q hq).1,fun hx=>by
  have:=(h.row.lt q hq).2
  rcases hs q hx with h1|h1
  ·exact(h.newS q hq).2.1 h1
  ·omega,(h.newS q hq).2.2⟩
 oldL:=h.oldL
 sub:=fun q hq=>by
  have:=h.ch.size
  rcases hs q hq with h1|h1
  ·exact h.sub q h1
  ·exact Or.inr (by omega)
 ch:=h.ch.trans' c h.sub
theorem ZT.grow(R:VZ S good lo le Key zi nn nw nc wc)(hlo:lo<=w.heap.size)(h:ZT S ls Key zi w X lv M sv ts w5 X5 Xm γ ss vs){a:List UInt8}{l:UInt8}{now:Nat}(ha:ts[now]? =some a){v:Value}(hv:Key γ v (S.at (a++[l]))){Xn:List Nat}(hm:ZL w6 Xn M (vs++[v]))(c:Ch Xm w5 w6)(hs:∀q,q∈Xn->q∈Xm\/w5.heap.size<=q)
 {w7 w8:World} (c7:Ch [] w6 w7) {g cap H:Nat} (own:w8.ownsRow 0 291 2 (.slice (some ⟨g,0,none⟩) (ss.length+1) cap) (ss.length+1) (YK ss++[.int .i64 (now:Nat),.int .u8 (l.toNat)])) (c8:Ch sv.ownBlock.toList w7 w8) (hat:sv.ownBlock=some g\/g=H) (hH:w7.heap.size<=H):
 ZT S ls Key zi w X lv M (.slice (some ⟨g,0,none⟩) (ss.length+1) cap) (ts++[a++[l]]) w8 X5 Xn γ (ss++[(now,l)]) (vs++[v]):=by
 have hlt:now<ts.length:=(List.getElem?_eq_some_iff.1 ha).1;have z0:=h.ch.size;have z1:=c.size;have z7:=c7.size
 have c8':∀q,q∈sv.ownBlock.toList->w.heap.size<=q/\q∉X5/\q∉Xm:=fun q hq=>h.newS q (by simpa using hq)
 have hX5:=(R.lt _ _ _ h.inv).2
 have hnX:∀q,q∈Xn->w.heap.size<=q/\q∉X5:=fun q hq=>by
  rcases hs q hq with h1|h1
  ·exact h.newM q h1
  ·exact⟨by omega,fun hx=>by have:=hX5 q hx;omega⟩
 have hsx:∀q,q∈sv.ownBlock.toList->q∉Xn:=fun q hq hx=>by
  have hlt:=(h.row.lt q (by simpa using hq)).2
  rcases hs q hx with h1|h1
  ·exact(c8' q hq).2.2 h1
  ·omega
 have hg:w.heap.size<=g/\g∉X5/\g∉Xn:=by
  rcases hat with h1|h1
  ·have:=c8' g (by simp[h1])
   exact⟨this.1,this.2.1,hsx g (by simp[h1])⟩
  ·refine⟨by omega,fun hx=>by have:=hX5 g hx;omega,fun hx=>by have:=hm.lt g hx;omega⟩
 have tot:Ch (Xm++sv.ownBlock.toList) w5 w8:=((c.mono (fun q hq=>List.mem_append_left _ hq)).trans (c7.mono (by simp))).trans (c8.mono (fun q hq=>List.mem_append_right _ hq));refine⟨⟨?_,JC h.steps.zero,?_⟩,(hm.kp c7 (by simp)).kp c8 (fun q hq hx=>hsx q hx hq),by simp[h.len],?_,?_,?_,?_,hnX,?_,h.oldL,h.sub,?_⟩
 ·simp[h.steps.len]
 ·intro j t hj h0
  by_cases e:j<ts.length
  ·obtain⟨k,m,b,h1,h2,h3,h4⟩:=h.steps.from_ j t (VX e hj) h0
   exact⟨k,m,b,JC h1,h2,JC h3,h4⟩
  ·have e2:j=ts.length:=by
    have:=(List.getElem?_eq_some_iff.1 hj).1;simp at this;omega
   subst e2;refine⟨now,l,a,by rw[<- h.steps.len];simp,hlt,JC ha,?_⟩;rw[List.getElem?_concat_length]at hj;exact(Option.some.inj hj).symm
 ·intro j t hj
  by_cases e:j<ts.length
  ·obtain⟨u,h1,h2⟩:=h.keys j t (VX e hj)
   exact⟨u,JC h1,h2⟩
  ·have e2:j=ts.length:=by
    have:=(List.getElem?_eq_some_iff.1 hj).1;simp at this;omega
   subst e2;rw[List.getElem?_concat_length]at hj;have:=Option.some.inj hj;subst this;exact⟨v,by rw[<- h.len];simp,hv⟩
 ·rw[LN,List.length_append,List.length_singleton]
  exact own
 ·refine zJ h.lets tot (fun q hq hx=> ?_)
  have:=(h.oldL q hq).1
  rcases List.mem_append.1 hx with h1|h1
  ·have:=(h.newM q h1).1;omega
  ·have:=(c8' q h1).1;omega
 ·refine R.kp _ _ _ _ _ h.inv tot (fun q hx=> ?_)
  rcases List.mem_append.1 hx with h1|h1
  ·have:=h.newM q h1;exact⟨by omega,this.2⟩
  ·have:=c8' q h1;exact⟨by omega,this.2.1⟩
 ·intro q hq
  have e:g=q:=by simpa[Value.ownBlock]using hq
  subst e;exact hg
 ·refine h.ch.trans' tot (fun q hx=> ?_)
  rcases List.mem_append.1 hx with h1|h1
  ·exact Or.inr (h.newM q h1).1
  ·exact Or.inr (c8' q h1).1
end
theorem Tb:(Tryz.prog.info? 291).map (fun i=>(i.zero,i.size,i.bytes))=some (some (.agg #[.int .i64 0,.int .u8 0]),2,16):=by kernel_rfl
def BU{K:Type}(S:yp K)(X:List Nat)(w:World)(e:Ending)(w':World):Prop:=
 ∃W found,e= .returned (.tuple #[.string (zG W),.bool found])/\((found=true/\Zb (fun t=>S.want (S.at t)=true) W)\/(found=false/\W=[]/\∀t,S.want (S.at t)=false))/\Ch X w w'
theorem ZT.start{K Γ:Type}{S:yp K}{good:K->Prop}{lo:Nat}{le:Γ->Γ->Prop}{Key:Γ->Value->K->Prop}{zi:World->List Nat->Γ->Prop}{nn nw:Nat}{nc wc:Array Value}{ls:List UInt8}(R:VZ S good lo le Key zi nn nw nc wc){w w1 w2 w3 w4:World}{X X1 Xm:List Nat}{γ1:Γ}{lv start:Value}(h0:Key γ1 start S.k0)(hlo:lo<=w.heap.size)(hl:w.ownsRow 0 5 1 lv ls.length (jJ ls))(hlX:∀q,lv.ownBlock=some q->q∉X)
 (I1:zi w1 X1 γ1) (c1:Ch X w w1) (s1:∀q,q∈X1->q∈X\/w.heap.size<=q) (c2:Ch [] w1 w2) (M3:ZL w3 Xm (w1.heap.size+1) ([]++[start])) (c3:Ch [w1.heap.size+1,w1.heap.size] w2 w3) (s3:∀q,q∈Xm->q∈[w1.heap.size+1,w1.heap.size]\/w2.heap.size<=q) (h4:w4=w3.alloc (.cells #[.int .i64 0,.int .u8 0] 291)):
 ZT S ls Key zi w X lv (w1.heap.size+1) (.slice (some ⟨w3.heap.size,0,none⟩) 1 1) [[]] w4 X1 Xm γ1 [(0,0)] [start]:=by
 have c4:Ch [] w3 w4:=by rw[h4];exact Ch.alloc _ _ _
 have z1:=c1.size;have z2:=c2.size;have z3:=c3.size;have c14:Ch [w1.heap.size+1,w1.heap.size] w1 w4:=((c2.mono (by simp)).trans c3).trans (c4.mono (by simp));have hX1:=(R.lt _ _ _ I1).2
 have hn:∀q,q∈Xm->w.heap.size<=q/\q∉X1:=fun q hq=>by
  have:w1.heap.size<=q:=by
   rcases s3 q hq with h|h
   ·simp at h;omega
   ·omega
  exact⟨by omega,fun hx=>by have:=hX1 q hx;omega⟩
 refine⟨⟨rfl,rfl,?_⟩,M3.kp c4 (by simp),rfl,?_,?_,?_,?_,hn,?_,?_,s1,?_⟩
 ·intro j t hj h
  have:=(List.getElem?_eq_some_iff.1 hj).1;simp at this;omega
 ·intro j t hj
  have:=(List.getElem?_eq_some_iff.1 hj).1;simp at this;subst this
  have:t=[]:=by simpa using hj.symm
  subst this;exact⟨start,rfl,h0⟩
 ·rw[h4]
  exact⟨rfl,Or.inr ⟨w3.heap.size,1,#[.int .i64 0,.int .u8 0],rfl,Nat.zero_le _,zr _ _,Nat.le_refl _,by simp[maxLen],rfl,rfl⟩⟩
 ·have:=zJ hl c1 hlX
  refine zJ this c14 (fun q hq=> ?_);have:=(this.lt q hq).2;simp;omega
 ·refine R.kp _ _ _ _ _ I1 c14 (fun q hq=> ?_)
  have:w1.heap.size<=q:=by simp at hq;omega
  exact⟨by omega,fun hx=>by have:=hX1 q hx;omega⟩
 ·intro q hq
  have e:w3.heap.size=q:=by simpa[Value.ownBlock]using hq
  subst e;exact⟨by omega,fun hx=>by have:=hX1 _ hx;omega,fun hx=>by have:=M3.lt _ hx;omega⟩
 ·exact fun q hq=>⟨(hl.lt q hq).2,hlX q hq⟩
 ·exact c1.trans' c14 (fun q hq=>Or.inr (by simp at hq;omega))
theorem TO{K Γ:Type}{S:yp K}{good:K->Prop}{lo:Nat}{le:Γ->Γ->Prop}{Key:Γ->Value->K->Prop}{zi:World->List Nat->Γ->Prop}{nn nw:Nat}{nc wc:Array Value}{ls:List UInt8}(R:VZ S good lo le Key zi nn nw nc wc)(ok:ZK S ls good)(num:K->Nat)(N:Nat)(hN:N<=16000000)(hnum:∀k,good k->num k<N)(hinj:∀k k',good k->good k'->num k=num k'->k=k')
 {w:World} {X:List Nat} {γ:Γ} (hI:zi w X γ) {start lv:Value} (h0:Key γ start S.k0) (hl:w.ownsRow 0 5 1 lv ls.length (jJ ls)) (hlX:∀q,lv.ownBlock=some q->q∉X) (hll:ls.length<=256):
 Calls Tryz.prog 142 #[start,lv,.func (.func nn) #[] nc,.func (.func nw) #[] wc] w (BU S X w):=by
 obtain⟨la,lc,rfl⟩:=zQ hl;obtain⟨a0,a1,a2,a3,a4,a5,b6,hst,hkey⟩:=R.shape _ _ _ h0;subst hst;have enN:=R.enN;have enW:=R.enW
 have bound:∀ts:List (List UInt8),(ts.map S.at).Nodup->ts.length<=N:=by
  intro ts hn
  have:=Wv hn num N (fun x hx=>by obtain⟨t,_,rfl⟩:=List.mem_map.1 hx;exact hnum _ (ok.good_at t)) (fun x y hx hy e=>by
   obtain⟨t,_,rfl⟩:=List.mem_map.1 hx;obtain⟨u,_,rfl⟩:=List.mem_map.1 hy
   exact hinj _ _ (ok.good_at t) (ok.good_at u) e)
  simpa using this
 have HB:=zC bound;have HO:=zC ok;have HRn:=zC R;have H0:=zC h0;have HL:=zC hl;have HLX:=zC hlX;have HK:=zC hkey;clear bound ok hl hlX hkey hnum hinj;have X0:=zE.new w #[.int .u8 a0,.int .u8 a1,.int .u8 a2,.int .u8 a3,.int .u8 a4,.int .u8 a5,.bool b6] 246;have g0:=Ch.alloc [] w (.cells #[.int .u8 a0,.int .u8 a1,.int .u8 a2,.int .u8 a3,.int .u8 a4,.int .u8 a5,.bool b6] 246)
 have z0:(w.alloc (.cells #[.int .u8 a0,.int .u8 a1,.int .u8 a2,.int .u8 a3,.int .u8 a4,.int .u8 a5,.bool b6] 246)).heap.size=w.heap.size+1:=by simp
 have I0:=R.kp _ _ _ _ _ hI g0 (by simp);have W0:=zC (R.want _ _ _ _ _ I0 h0 HO.o.g0);have hI2:=R.lt _ _ _ hI;clear R hI I0;generalize hw0:w.alloc (.cells #[.int .u8 a0,.int .u8 a1,.int .u8 a2,.int .u8 a3,.int .u8 a4,.int .u8 a5,.bool b6] 246)=w0 at *;have XX:=zC X0;have d0:=X0.cl 0 (.int .u8 a0) rfl;have d1:=X0.cl 1 (.int .u8 a1) rfl;have d2:=X0.cl 2 (.int .u8 a2) rfl;have d3:=X0.cl 3 (.int .u8 a3) rfl;have d4:=X0.cl 4 (.int .u8 a4) rfl;have d5:=X0.cl 5 (.int .u8 a5) rfl;have d6:=X0.cl 6 (.bool b6) rfl;go_enter Tryz.func142,Tryz.ntmps142;go_wp2_with fail;refine W0.o.mono ?_;rintro e w1 ⟨X1,γ1,rfl,I1,l1,c1,s1⟩;have zc1:=c1.size
 cases hw:S.want S.k0 with
 |true=>
  go_wp2_with fail;go_ret2;exact⟨[],true,rfl,Or.inl ⟨rfl,hw,fun y _=>by rw[Vv];omega⟩,(g0.mono (by simp)).trans c1⟩
 |false=>
  have HW:=zC hw;have HC1:Hd (Ch X w w1):=(g0.mono (by simp)).trans c1
  have nX:w.heap.size∉X:=fun hx=>by have:=hI2.2 _ hx;omega
  have B1:=XX.o.kp c1 nX;have HX1:=zC B1;have HI1:=zC I1;have HS1:=zC s1;have HL1:=zC l1;clear d0 d1 d2 d3 d4 d5 d6 X0 I1 s1 l1 hw c1 nX;go_wp2_with fail;refine Ex.mono ?_;rintro e w2 ⟨rfl,M2,c2⟩;have B2:=B1.kp c2 (by simp);have e0:=B2.cl 0 (.int .u8 a0) rfl;have e1:=B2.cl 1 (.int .u8 a1) rfl;have e2:=B2.cl 2 (.int .u8 a2) rfl;have e3:=B2.cl 3 (.int .u8 a3) rfl;have e4:=B2.cl 4 (.int .u8 a4) rfl;have e5:=B2.cl 5 (.int .u8 a5) rfl;have e6:=B2.cl 6 (.bool b6) rfl;have HM2:=zC M2;have HC2:=zC c2;have zc2:=c2.size;clear M2 c2 B1 B2;go_wp2_with fail;refine(Ae HM2.o HK.o (by intro u hu;simp at hu;rcases hu with rfl|rfl|rfl|rfl|rfl|rfl|rfl <;>rfl) (by simp)).mono ?_;rintro e w3 (⟨i,hi,_⟩|⟨_,rfl,Xm,M3,c3,s3⟩)
  ·simp at hi
  have zc3:=c3.size;have HM3:=zC M3;have HC3:=zC c3;have HS3:=zC s3;clear M3 c3 s3 e0 e1 e2 e3 e4 e5 e6;have START:=zC (ZT.start HRn.o (ls:=ls) (HRn.o.mono _ _ _ _ HL1.o H0.o) hI2.1 HL.o HLX.o HI1.o HC1.o (fun q hq=>(HS1.o q hq).imp id (fun h=>by omega)) HC2.o HM3.o HC3.o HS3.o (w4:=w3.alloc (.cells #[.int .i64 0,.int .u8 0] 291)) rfl);go_wp2_with fail;generalize w3.alloc (.cells #[.int .i64 0,.int .u8 0] 291)=w4 at *;generalize w1.heap.size+1=M at *;clear HM3 HC3 HS3 HM2 HC2 HC1 HX1 HI1 HS1 HL1 XX W0 H0 HL HLX
  go_loopw [11,12] (fun sv nv w5=>∃(nw:Nat) (ts:List (List UInt8)) (X5 Xm:List Nat) (γ5:Γ) (ss:List (Nat×UInt8)) (vs:List Value),nv= .int .i64 nw/\Hd (jw S ls ts nw 0/\ZT S ls Key zi w X (.slice la ls.length lc) M sv ts w5 X5 Xm γ5 ss vs)) (fun _ nv _=>N+1 - (intOf nv).toNat)
  case atStart=>exact⟨0,[[]],X1,Xm,γ1,[(0,0)],_,rfl,⟨jw.start HW.o,START.o⟩⟩
  case round=>
   generalize wr=w5 at *;obtain⟨nw,ts,X5,Xm5,γ5,ss,vs,rfl,H5⟩:=hrel;clear START HW;have hnw:nw<=ts.length:=H5.o.1.upto;have hb5:ts.length<=N:=HB.o ts H5.o.1.apart;have hvs:vs.length=ts.length:=H5.o.2.len;have HV:=zC hvs;clear hvs
   by_cases hlt:nw<ts.length
   ·have hlt':(nw:Int)<vs.length:=by have:=HV.o;omega
    have hvn:(vs.length:Int)<=16000000:=by have:=HV.o;omega
    have MT:=zC H5.o.2.met;obtain⟨a,ha⟩:∃a,ts[nw]? =some a:=⟨_,List.getElem?_eq_getElem hlt⟩;have HA:=zC ha;clear ha;go_wp2_with fail;refine(Ee MT.o).mono ?_;rintro e w5' ⟨rfl,rfl⟩;go_wp2_with fail
    go_loopw [11,36] (fun sv iv w6=>∃(li:Nat) (ts:List (List UInt8)) (X5 Xm:List Nat) (γ5:Γ) (ss:List (Nat×UInt8)) (vs:List Value),iv= .int .i64 li/\li<=ls.length/\Hd (jw S ls ts nw li/\ZT S ls Key zi w X (.slice la ls.length lc) M sv ts w6 X5 Xm γ5 ss vs/\ts[nw]? =some a)) (fun _ iv _=>ls.length - (intOf iv).toNat)
    case atStart=>exact⟨0,ts,X5,Xm5,γ5,ss,vs,rfl,Nat.zero_le _,⟨H5.o.1,H5.o.2,HA.o⟩⟩
    case round=>
     clear H5 HA MT HV hb5 hlt hlt' hvn hnw;generalize wr=w6 at *;obtain⟨li,ts,X6,Xm6,γ6,ss,vs,rfl,hli,H6⟩:=hrel;have hnt:nw<ts.length:=(List.getElem?_eq_some_iff.1 H6.o.2.2).1;have hb6:ts.length<=N:=HB.o ts H6.o.1.apart
     by_cases hll2:(li:Int)<ls.length
     ·have hli2:li<ls.length:=by omega
      have hli0:(0:Int)<=li:=by omega
      obtain⟨l,hl⟩:∃l,ls[li]? =some l:=⟨_,List.getElem?_eq_getElem hli2⟩
      obtain⟨gl,rfl⟩:∃gl,la=some ⟨gl,0,none⟩:=by
       rcases H6.o.2.1.lets.2 with⟨_,h0⟩|⟨g,cap,cur,h,_⟩
       ·omega
       ·injection h with h
        exact⟨g,h⟩
      have cL:w6.cell? ⟨gl,li,none⟩=some (.int .u8 (l.toNat)):=by
       rw[H6.o.2.1.lets.cellAt li (by omega)];simp[jJ,hl]
      obtain⟨v,hv,hk⟩:=H6.o.2.1.keys nw a H6.o.2.2;obtain⟨a0,a1,a2,a3,a4,a5,b6,rfl,_⟩:=HRn.o.shape _ _ _ hk;have hga:=HO.o.good_at a;have HKa:=zC hk;have Hl:=zC hl;have HGA:=zC hga
      have e1:IntKind.i64.wrap ((li:Int)+1)=((li+1:Nat):Int):=by rw[IntKind.wrap_i64];omega
      have HV:=zC H6.o.2.1.len;clear hk hl hga;go_wp2_with fail;refine(Ij H6.o.2.1.met hv).mono ?_;rintro e w7 ⟨rfl,c7⟩;have MEM7:=zC (H6.o.2.1.quiet HRn.o c7);clear cL;go_wp2_with fail;refine(HRn.o.next _ _ _ _ _ l MEM7.o.inv HKa.o HGA.o).mono ?_;rintro e w8 ⟨v8,X8,γ8,rfl,I8,le8,k8,c8,s8⟩;have MEM8:=zC (MEM7.o.closure HRn.o I8 le8 c8 s8);obtain⟨c0,c1,c2,c3,c4,c5,c6,rfl,key8⟩:=HRn.o.shape _ _ _ k8;have hat:S.at (a++[l])=S.step (S.at a) l:=S.at_snoc a l;rw[<- hat]at k8 ⊢;have HK8:=zC k8;have HKey8:=zC key8;have g9:=Ch.alloc [] w8 (.cells #[.int .u8 c0,.int .u8 c1,.int .u8 c2,.int .u8 c3,.int .u8 c4,.int .u8 c5,.bool c6] 246);have B9:=zE.new w8 #[.int .u8 c0,.int .u8 c1,.int .u8 c2,.int .u8 c3,.int .u8 c4,.int .u8 c5,.bool c6] 246;have MEM9:=zC (MEM8.o.quiet HRn.o g9);have f0:=B9.cl 0 (.int .u8 c0) rfl;have f1:=B9.cl 1 (.int .u8 c1) rfl;have f2:=B9.cl 2 (.int .u8 c2) rfl;have f3:=B9.cl 3 (.int .u8 c3) rfl;have f4:=B9.cl 4 (.int .u8 c4) rfl;have f5:=B9.cl 5 (.int .u8 c5) rfl;have f6:=B9.cl 6 (.bool c6) rfl;have HB9:=zC B9;clear I8 le8 c8 s8 k8 key8 MEM7 B9 g9
      cases hlost:S.lost (S.at (a++[l]))with
      |true=>
       have BF:=zC (H6.o.1.sk HO.o.sorted H6.o.2.2 Hl.o (Or.inl hlost));go_wp2_with fail;exact⟨⟨li+1,ts,X8,Xm6,γ8,ss,vs,by simp,by omega,⟨BF.o,MEM9.o,H6.o.2.2⟩⟩,by simp[intOf];omega⟩
      |false=>
       have hvb:vs.length<=16000000:=by have:=HV.o;omega
       go_wp2_with fail;generalize hw9:w8.alloc (.cells #[.int .u8 c0,.int .u8 c1,.int .u8 c2,.int .u8 c3,.int .u8 c4,.int .u8 c5,.bool c6] 246)=w9 at *
       have zc9:w9.heap.size=w8.heap.size+1:=by rw[<- hw9];simp
       refine(Ae MEM9.o.met HKey8.o (by intro u hu;simp at hu;rcases hu with rfl|rfl|rfl|rfl|rfl|rfl|rfl <;>rfl) (by omega)).mono ?_;rintro e w10 (⟨i,hi,rfl,c10⟩|⟨hnin,rfl,Xn,M10,c10,s10⟩)
       ·have MEM10:=zC (MEM9.o.quiet HRn.o c10)
        have hmem:S.at (a++[l])∈ts.map S.at:=by
         have hi2:i<ts.length:=by rw[<- HV.o];exact(List.getElem?_eq_some_iff.1 hi).1
         obtain⟨u,hu1,hu2⟩:=MEM9.o.keys i ts[i] (List.getElem?_eq_getElem hi2);rw[hi]at hu1;have e:=Option.some.inj hu1;rw[<- e]at hu2;have:=(HRn.o.inj _ _ _ _ _ HK8.o hu2).1 rfl;rw[this];exact List.mem_map.2 ⟨_,List.getElem_mem _,rfl⟩
        have BF:=zC (H6.o.1.sk HO.o.sorted H6.o.2.2 Hl.o (Or.inr hmem));clear hmem c10;go_wp2_with fail;exact⟨⟨li+1,ts,X8,Xm6,γ8,ss,vs,by simp,by omega,⟨BF.o,MEM10.o,H6.o.2.2⟩⟩,by simp[intOf];omega⟩
       ·have hnm:S.at (a++[l])∉ts.map S.at:=by
         intro hm;obtain⟨t,ht,e⟩:=List.mem_map.1 hm;obtain⟨j,hj,rfl⟩:=List.mem_iff_getElem.1 ht;obtain⟨u,hu1,hu2⟩:=MEM9.o.keys j ts[j] (List.getElem?_eq_getElem hj);have:=(HRn.o.inj _ _ _ _ _ HK8.o hu2).2 e.symm;rw[this]at hnin;exact hnin (List.mem_of_getElem? hu1)
        have HNM:=zC hnm;have HM10:=zC M10;have HC10:=zC c10;have HS10:=zC s10;obtain⟨sa,sc,hsv⟩:=zQ MEM9.o.row;subst hsv
        have hssl:ss.length<=16000000:=by rw[MEM9.o.steps.len];omega
        have zc10:=c10.size;have B10:=HB9.o.kp c10 (fun hx=>by have:=MEM8.o.met.lt _ hx;omega);have HB10:=zC B10;have gA:=Ch.alloc [] w10 (.cells #[.int .i64 (nw:Nat),.int .u8 (l.toNat)] 291);have HGAl:=zC gA;have O10:=zJ (zJ MEM9.o.row c10 (fun q hq=>(MEM9.o.newS q hq).2.2)) gA (by simp)
        have HN12:Hd (w8.heap.size∉(Value.slice sa ss.length sc).ownBlock.toList):=by
         show ¬_
         intro hx;have:=(MEM8.o.row.lt _ (by simpa using hx)).2;omega
        clear hnm M10 c10 s10 hnin B10 gA;go_wp2_with (at_builtin;refine YZ 292 291 2 16 (.agg #[.int .i64 0,.int .u8 0]) Tryz.underlying292 Tb rfl (by omega) (by omega) (by rfl) _ _ (by rfl) (.slice sa ss.length sc) ss.length _ (by rfl) O10 w10.heap.size [.int .i64 (nw:Nat),.int .u8 (l.toNat)] (by rfl) (zr _ _) rfl (by intro u hu;simp at hu;rcases hu with rfl|rfl <;>rfl) (by omega) (w10.heap.size+1) (by simp) ?_;intro g12 cap12 w12 own12 gr12 hat12 hlt12;have B12:=(HB10.o.kp HGAl.o (by simp)).kp gr12 HN12.o;have h0:=B12.cl 0 (.int .u8 c0) rfl;have h1:=B12.cl 1 (.int .u8 c1) rfl;have h2:=B12.cl 2 (.int .u8 c2) rfl;have h3:=B12.cl 3 (.int .u8 c3) rfl;have h4:=B12.cl 4 (.int .u8 c4) rfl;have h5:=B12.cl 5 (.int .u8 c5) rfl;have h6:=B12.cl 6 (.bool c6) rfl);have MEM12:=zC (MEM9.o.grow HRn.o hI2.1 H6.o.2.2 HK8.o HM10.o HC10.o HS10.o HGAl.o own12 gr12 hat12 (by simp));refine(HRn.o.want _ _ _ _ _ MEM12.o.inv HK8.o (HO.o.good_at _)).mono ?_;rintro e w13 ⟨X13,γ13,rfl,I13,le13,c13,s13⟩;have MEM13:=zC (MEM12.o.closure HRn.o I13 le13 c13 s13);clear I13 le13 c13 s13 own12 gr12 hat12 hlt12 B12 O10 MEM12
        cases hwant:S.want (S.at (a++[l]))with
        |true=>
         have FND:=zC (H6.o.1.found2 HO.o H6.o.2.2 Hl.o hwant);go_wp2_with fail;refine(Nx MEM13.o.steps (by rw[List.length_append,List.length_singleton];have:=MEM13.o.row;rw[List.length_append,List.length_singleton]at this;exact this) (by simp;omega) (num:=vs.length) (t:=a++[l]) (by rw[HV.o];simp) (by rw[HV.o];omega)).mono ?_;rintro e w14 ⟨rfl,c14⟩;have HC14:=zC (MEM13.o.ch.trans' c14 (by simp));go_wp2_with fail;go_ret2;exact⟨a++[l],true,rfl,Or.inl ⟨rfl,FND.o⟩,HC14.o⟩
        |false=>
         have BF:=zC (H6.o.1.grow HO.o.sorted H6.o.2.2 Hl.o HNM.o hwant);go_wp2_with fail;exact⟨⟨li+1,ts++[a++[l]],X13,Xn,γ13,ss++[(nw,l)],vs++[_],by simp,by omega,⟨BF.o,MEM13.o,JC H6.o.2.2⟩⟩,by simp[intOf];omega⟩
     ·have e:li=ls.length:=by omega
      subst e
      have e1:IntKind.i64.wrap ((nw:Int)+1)=((nw+1:Nat):Int):=by rw[IntKind.wrap_i64];omega
      go_wp2_with fail;exact⟨⟨nw+1,ts,X6,Xm6,γ6,ss,vs,by simp,⟨H6.o.1.next hnt,H6.o.2.1⟩⟩,by simp[intOf];omega⟩
   ·have e:nw=ts.length:=by omega
    subst e;have MT:=zC H5.o.2.met
    have hvn:(vs.length:Int)<=16000000:=by have:=HV.o;omega
    have hnlt:¬(ts.length:Int)<vs.length:=by have:=HV.o;omega
    have FIN:=zC (H5.o.1.never2 HO.o);have HC:=zC H5.o.2.ch;go_wp2_with fail;refine(Ee MT.o).mono ?_;rintro e w5' ⟨rfl,rfl⟩;go_wp2_with fail;go_ret2;exact⟨[],false,rfl,Or.inr ⟨rfl,rfl,FIN.o⟩,HC.o⟩
end Go.Proofs.YteobgfbgglfkbaaGreat
