import Derived.Test.YteobgfbgglfkbaaGreatRP8
import Derived.Test.YteobgfbgglfkbaaGreatRS1
namespace Go.Proofs.YteobgfbgglfkbaaGreat
open Go.RowKit
def Yp(n:Nat)(q:ze):Prop:=(0<=q.of1/\q.of1<n)/\(q.never=true->q.k<=12)/\(q.never=false->0<=q.of2/\q.of2<n)
def Wq(D:yt):Prop:=(∀q,q∈D.scrubs->q.one.size<=4/\q.two.size<=4)/\D.asked.length<=6/\∀q,q∈D.asked->Yp D.chains.length q
theorem RX{S x:ByteArray}{s s':St}{D:zH}(h:JA S x s= .ok (D,s'))(e:s'.e=0):D.one.size<=4/\D.two.size<=4:=by
 unfold JA at h
 split at h
 ·split at h
  ·cases h
  ·split at h
   ·cases h
   ·split at h
    ·cases h
    ·injection h with h;injection h with h1 h2'
     subst h1;exact⟨show ByteArray.empty.size<=4 by decide,show ByteArray.empty.size<=4 by decide⟩
 ·split at h
  ·cases h
  ·rename_i a c s3 h1
   injection h with h;injection h with h2 h3
   subst h2 h3;exact(NJ h1 e).2
theorem Tu{S:ByteArray}{ns nc:List ByteArray}{a:Int}{s s':St}{D:zH}(h:j8 S ns nc a s= .ok (D,s'))(e:s'.e=0):D.one.size<=4/\D.two.size<=4:=by
 unfold j8 at h
 split at h
 ·cases h
 ·exact RX h e
theorem Ng{S:ByteArray}{nc:List ByteArray}{s s':St}{i:Int}(h:yK S nc s= .ok (i,s'))(e:s'.e=0):0<=i/\i<nc.length:=by
 unfold yK at h
 split at h
 ·cases h
 ·rename_i x a s1 h1
  injection h with h;injection h with h2 h3
  subst h2 h3;have q:=(Zq.sayW (by decide) e).1;simp only[decide_eq_false_iff_not]at q;exact Dv q
theorem Om{S:ByteArray}{nc:List ByteArray}{cnt:Nat}{nv:Bool}{a:Int}{s s':St}{q:ze}(z:Z s)(h:jE S nc cnt nv a s= .ok (q,s'))(e:s'.e=0):cnt<6/\Yp nc.length q:=by
 unfold jE at h
 split at h
 ·cases h
 ·rename_i i1 s1 h1
  have fin:s1.e=0->cnt<6/\0<=i1/\i1<nc.length:=by
   intro e1;have q1:=(UQ (Zq.sayW (wr:=decide (6<=(cnt:Int))) (a:=a) (s:=s) (e:=3) (by decide)) h1 e1).1;simp only[decide_eq_false_iff_not]at q1;exact⟨by omega,Ng h1 e1⟩
  split at h
  ·split at h
   ·cases h
   ·rename_i s2 h2
    split at h
    ·cases h
    ·rename_i L s3 h3
     split at h
     ·cases h
     ·rename_i s4 h4
      split at h
      ·cases h
      ·rename_i s5 h5
       injection h with h;injection h with h6 h7
       subst h6 h7;have e4:=Ja (Q:=s4.e=0) (Zq.self s4) h5 e;have e3:=Ni (Q:=s3.e=0) (Zq.self s3) h4 e4;have e2:=DF (Q:=s2.e=0) (Zq.self s2) h3 e3;have e1:=Ja (Q:=s1.e=0) (Zq.self s1) h2 e2;have z3:=DC (Yg (Kn (Z.say (by decide) z) h1) h2) h3;obtain⟨f1,f2⟩:=fin e1;exact⟨f1,f2,fun _=>(z3 e3).2,fun hc=>absurd hc (by simp)⟩
  ·split at h
   ·cases h
   ·rename_i i2 s2 h2
    split at h
    ·cases h
    ·rename_i s3 h3
     injection h with h;injection h with h6 h7
     subst h6 h7;have e2:=Ja (Q:=s2.e=0) (Zq.self s2) h3 e;have e1:=UQ (Q:=s1.e=0) (Zq.self s1) h2 e2;obtain⟨f1,f2⟩:=fin e1;exact⟨f1,f2,fun hc=>absurd hc (by simp),fun _=>Ng h2 e2⟩
theorem Yp.mono{n m:Nat}{q:ze}(h:Yp n q)(hm:n<=m):Yp m q:=⟨⟨h.1.1,by have:=h.1.2;omega⟩,h.2.1,fun e=>⟨(h.2.2 e).1,by have:=(h.2.2 e).2;omega⟩⟩
theorem Ox{S x:ByteArray}{a:Int}{D D':yt}{s s':St}(z:Z s)(h:jb S x a D s= .ok (D',s'))(e:s'.e=0)(hD:Wq D):Wq D':=by
 unfold jb at h
 split at h
 ·split at h
  ·cases h
  ·rename_i q s2 h1
   injection h with h;injection h with h2 h3
   subst h2 h3;refine⟨fun r hr=> ?_,hD.2.1,hD.2.2⟩
   rcases List.mem_append.1 hr with hr|hr
   ·exact hD.1 r hr
   ·simp at hr;subst hr;exact Tu h1 e
 ·split at h
  ·split at h
   ·cases h
   ·rename_i q s2 h1
    injection h with h;injection h with h2 h3
    subst h2 h3;exact⟨hD.1,hD.2.1,fun r hr=>(hD.2.2 r hr).mono (by simp)⟩
  ·split at h
   ·cases h
   ·rename_i q s2 h1
    injection h with h;injection h with h2 h3
    subst h2 h3;have w:=Om z h1 e;simp only[List.length_map]at w;refine⟨hD.1,by simp;omega,fun r hr=> ?_⟩
    rcases List.mem_append.1 hr with hr|hr
    ·exact hD.2.2 r hr
    ·simp at hr;subst hr;exact w.2
theorem IZ{S:ByteArray}:∀n (s:St) D D' s',Z s->jC S n s D= .ok (D',s')->s'.e=0->Wq D->Wq D':=by
 intro n
 induction n with
 |zero=>intro s D D' s' _ h;cases h
 |succ n ih=>
  intro s D D' s' z h e hD;unfold jC at h
  split at h
  ·split at h
   ·cases h
   ·rename_i h1
    split at h
    ·cases h
    ·rename_i D1 s2 h2
     have z1:=Vo z h1;exact ih _ _ _ _ ((Le z1 h2).sk S) h e (Ox z1 h2 (AD (Q:=s2.e=0) n _ _ _ _ ((Zq.self s2).sk S) h e) hD)
  ·injection h with h;injection h with h1 h2;subst h1;exact hD
theorem Mg{S:ByteArray}{D:yt}{s:St}(hc:yX S=(0,0))(h:jA S= .ok (D,s)):Wq D:=by
 have e:s.e=0:=by
  unfold yX at hc
  split at hc
  ·cases hc
  ·rw[h]at hc
   unfold Yf at hc;simp only at hc
   split at hc
   ·assumption
   ·injection hc
 exact IZ _ _ _ _ _ (Z.st0.sk S) h e ⟨by simp,by simp,by simp⟩
def Je(D:yt)(q:ze)(t:List UInt8):Prop:=
 if q.never=true then q.lang (yH (zt D.scrubs (Ye D.chains q.of1)) t)else yH (zt D.scrubs (Ye D.chains q.of1)) t≠yH (zt D.scrubs (Ye D.chains q.of2)) t
def Qe(never:Bool)(bad:List UInt8->Prop)(k:Int)(W:List UInt8):Prop:=(k=(if never then 2 else 4)/\Zb bad W)\/(k=(if never then 1 else 3)/\W=[]/\∀t,¬bad t)
theorem Qe.one{never:Bool}{bad:List UInt8->Prop}{k k':Int}{W W':List UInt8}(h:Qe never bad k W)(h':Qe never bad k' W'):k=k'/\W=W':=by
 rcases h with⟨h1,h2⟩|⟨h1,h2,h3⟩
 ·rcases h' with⟨g1,g2⟩|⟨g1,g2,g3⟩
  ·exact⟨h1.trans g1.symm,h2.one g2⟩
  ·exact absurd h2.1 (g3 W)
 ·rcases h' with⟨g1,g2⟩|⟨g1,g2,g3⟩
  ·exact absurd g2.1 (h3 W')
  ·exact⟨h1.trans g1.symm,h2.trans g2.symm⟩
theorem bG(c:UInt8)(t:List UInt8):zF.alt [zF.row [zF.cls [((c.toNat:Int),(c.toNat:Int))]]] t↔t=[c]:=by
 constructor
 ·rintro⟨A,hA,h⟩
  simp only[List.mem_singleton]at hA;subst hA;obtain⟨x,y,rfl,⟨b,rfl,hb⟩,hy⟩:=h;have hy:y=[]:=hy;subst hy;simp only[zo,List.any_cons,List.any_nil,Bool.or_false,Bool.and_eq_true,decide_eq_true_eq]at hb;have:b=c:=UInt8.toNat_inj.1 (by omega);rw[this];rfl
 ·rintro rfl
  refine⟨_,List.mem_singleton.2 rfl,[c],[],rfl,⟨c,rfl,?_⟩,rfl⟩;simp[zo]
def au:ByteArray:=⟨#[115,99,114,117,98,32,97,123,91,120,93,116,111,32,110,111,110,101,59,125,99,104,97,105,110,32,99,61,97,59,110,101,118,101,114,32,99,47,120,47,59,110,101,118,101,114,32,99,47,121,47,59]⟩
def bF:zH:=⟨⟨#[97]⟩,false,ByteArray.empty,ByteArray.empty,[⟨[(120,120)],[]⟩]⟩
def am:yt:=⟨[bF],[⟨⟨#[99]⟩,[0]⟩],[⟨true,0,0,zF.alt [zF.row [zF.cls [(120,120)]]],1⟩,⟨true,0,0,zF.alt [zF.row [zF.cls [(121,121)]]],1⟩]⟩
theorem bk:∃s,jA au= .ok (am,s)/\s.e=0:=⟨⟨52,0,0,1⟩,by kernel_rfl,rfl⟩
theorem bY:yX au=(0,0):=by kernel_rfl
theorem bI(t:List UInt8):yH (zt am.scrubs (Ye am.chains 0)) t=t.flatMap fun c=>if c=120 then []else [c]:=by
 show t.flatMap (yN bF.rules)=_
 congr 1
 funext c
 show(if zo [(120,120)] c.toNat then jD [] c else [c])=_
 by_cases h:c=120
 ·subst h;rfl
 ·rw[if_neg h,if_neg]
  intro q;apply h;simp only[zo,List.any_cons,List.any_nil,Bool.or_false,Bool.and_eq_true,decide_eq_true_eq]at q;exact UInt8.toNat_inj.1 (by show c.toNat=120;omega)
theorem bZ{k:Int}{W:List UInt8}(h:Qe true (Je am ⟨true,0,0,zF.alt [zF.row [zF.cls [(120,120)]]],1⟩) k W):k=1/\W=[]:=by
 refine h.one (Or.inr ⟨rfl,rfl,fun t ht=> ?_⟩);have ht:zF.alt [zF.row [zF.cls [(120,120)]]] (yH (zt am.scrubs (Ye am.chains 0)) t):=ht;have:=(bG 120 _).1 ht;rw[bI]at this
 have hm:(120:UInt8)∈t.flatMap fun c=>if c=120 then []else [c]:=by rw[this];simp
 obtain⟨c,_,hc⟩:=List.mem_flatMap.1 hm
 by_cases e:c=120
 ·rw[if_pos e]at hc;simp at hc
 ·rw[if_neg e]at hc;simp at hc;exact e hc.symm
theorem bV{k:Int}{W:List UInt8}(h:Qe true (Je am ⟨true,0,0,zF.alt [zF.row [zF.cls [(121,121)]]],1⟩) k W):k=2/\W=[121]:=by
 have iff:∀t,Je am ⟨true,0,0,zF.alt [zF.row [zF.cls [(121,121)]]],1⟩ t↔(t.flatMap fun c=>if c=120 then []else [c])=[121]:=by
  intro t
  show zF.alt [zF.row [zF.cls [(121,121)]]] (yH (zt am.scrubs (Ye am.chains 0)) t)↔_
  rw[bI];exact bG 121 _
 refine h.one (Or.inl ⟨rfl,(iff _).2 (by decide),fun y hy=> ?_⟩);have hy:=(iff y).1 hy
 match y,hy with
 |[],hy=>simp at hy
 |[b],hy=>
  by_cases e:b=120
  ·subst e;simp at hy
  ·simp[e]at hy;subst hy;exact Nat.le_refl _
 |a:: b:: t,_=>exact Nat.le_of_lt (Cy (by simp))
structure bw(E P:ByteArray)(off:Nat):Prop where
 lt:∀i,i<E.size->bt P (i+off)=bt E i
 bar:bt P (E.size+off)=47
 size:E.size+off<P.size
structure Sh(E:ByteArray)(off:Nat)(s t:St):Prop where
 i:t.i=s.i+off
 e:s.e=0
 f:t.e=0
 k:t.k=s.k
 le:s.i<=E.size
theorem Sh.at{E:ByteArray}{off:Nat}{s t:St}(h:Sh E off s t){n m:Nat}(hn:m=n+off)(hl:n<=E.size):Sh E off {s with i:=n} {t with i:=m}:=⟨hn,h.e,h.f,h.k,hl⟩
theorem cV{E:ByteArray}{i:Nat}(h:¬i<E.size):bt E i= -1:=by unfold bt;rw[dif_neg h]
theorem bw.same{E P:ByteArray}{off:Nat}(B:bw E P off){s t:St}(h:Sh E off s t)(hb:0<=bt E s.i):bt P t.i=bt E s.i/\s.i<E.size:=by
 have hl:=yB hb;exact⟨by rw[h.i];exact B.lt _ hl,hl⟩
theorem bw.other{E P:ByteArray}{off:Nat}(B:bw E P off){s t:St}(h:Sh E off s t){c:Int}(hc:c≠47)(hb:¬bt E s.i=c):¬bt P t.i=c:=by
 by_cases hl:s.i<E.size
 ·rw[h.i,B.lt _ hl];exact hb
 ·have e:s.i=E.size:=by have:=h.le;omega
  rw[h.i,e,B.bar]
  exact fun h=>hc h.symm
theorem cQ{E P:ByteArray}{off:Nat}(B:bw E P off){lo:Int}(hlo:0<=lo){but:ByteArray}{s s' t:St}{c:Int}(hs:Sh E off s t)(h:zx E lo but s= .ok (c,s')):∃t',zx P lo but t= .ok (c,t')/\Sh E off s' t':=by
 unfold zx at h
 split at h
 ·rename_i h0
  obtain⟨e0,l0⟩:=B.same hs (by omega)
  split at h
  ·rename_i h1
   split at h
   ·rename_i h2
    have l1:=yB (S:=E) (i:=s.i+1) (by simp[jv]at h1;omega);have l2:=yB (S:=E) (i:=s.i+2) (by simp[jv]at h2;omega)
    have e1:bt P (t.i+1)=bt E (s.i+1):=by rw[hs.i,show s.i+off+1=(s.i+1)+off by omega];exact B.lt _ l1
    have e2:bt P (t.i+2)=bt E (s.i+2):=by rw[hs.i,show s.i+off+2=(s.i+2)+off by omega];exact B.lt _ l2
    injection h with h;injection h with h3 h4
    subst h3 h4;refine⟨{t with i:=t.i+3},?_,hs.at (by have:=hs.i;omega) (by omega)⟩;unfold zx;rw[e0,if_pos h0,e1,if_pos h1,e2,if_pos h2]
   ·cases h
  ·cases h
 ·rename_i h0
  split at h
  ·rename_i h1
   have hb:0<=bt E s.i:=by simp at h1;omega
   obtain⟨e0,l0⟩:=B.same hs hb
   injection h with h;injection h with h3 h4
   subst h3 h4;refine⟨{t with i:=t.i+1},?_,hs.at (by have:=hs.i;omega) (by omega)⟩;unfold zx;rw[e0,if_neg h0,if_pos h1]
  ·cases h
theorem cY{E P:ByteArray}{off:Nat}(B:bw E P off){s s' t:St}{q:Int×Int}(hs:Sh E off s t)(h:yv E s= .ok (q,s'))(e:s'.e=0):∃t',yv P t= .ok (q,t')/\Sh E off s' t':=by
 unfold yv at h
 split at h
 ·cases h
 ·rename_i a s1 h1
  obtain⟨t1,g1,k1⟩:=cQ B (by decide) hs h1
  split at h
  ·rename_i h0
   obtain⟨e0,l0⟩:=B.same k1 (by omega)
   split at h
   ·cases h
   ·rename_i c s2 h2
    obtain⟨t2,g2,k2⟩:=cQ B (by decide) (k1.at (n:=s1.i+1) (m:=t1.i+1) (by have:=k1.i;omega) (by omega)) h2
    injection h with h;injection h with h3 h4
    subst h3;rw[<- h4]at e ⊢;have q:=(Zq.sayW (by decide) e).1;refine⟨t2,?_,?_⟩
    ·unfold yv
     rw[g1];simp only;rw[e0,if_pos h0,g2];simp only[q];simp[zL]
    ·rw[q];simpa[zL]using k2
  ·rename_i h0
   injection h with h;injection h with h3 h4
   subst h3 h4;refine⟨t1,?_,k1⟩;unfold yv;rw[g1];simp only;rw[if_neg (B.other k1 (by decide) h0)]
theorem dI{E P:ByteArray}{off:Nat}(B:bw E P off):∀n m (s t:St) x y s',n<=m->Sh E off s t->yq E n s x= .ok (y,s')->s'.e=0->∃t',yq P m t x= .ok (y,t')/\Sh E off s' t':=by
 intro n
 induction n with
 |zero=>intro m s t x y s' _ _ h;cases h
 |succ n ih=>
  intro m s t x y s' hm hs h e;obtain⟨m,rfl⟩:∃k,m=k+1:=⟨m - 1,by omega⟩;unfold yq at h
  split at h
  ·cases h
  ·rename_i p s1 h1
   split at h
   ·rename_i h0
    injection h with h;injection h with h3 h4
    subst h3
    have e1:s1.e=0:=by rw[<- h4]at e;exact e
    obtain⟨t1,g1,k1⟩:=cY B hs h1 e1;obtain⟨e0,l0⟩:=B.same k1 (by omega);refine⟨{t1 with i:=t1.i+1},?_,?_⟩
    ·unfold yq
     rw[g1];simp only;rw[e0,if_pos h0]
    ·rw[<- h4];exact k1.at (by have:=k1.i;omega) (by omega)
   ·rename_i h0
    have e1:=FZ (Q:=s1.e=0) n s1 _ _ _ (Zq.self s1) h e;obtain⟨t1,g1,k1⟩:=cY B hs h1 e1;obtain⟨t2,g2,k2⟩:=ih m s1 t1 _ _ _ (by omega) k1 h e;refine⟨t2,?_,k2⟩;unfold yq;rw[g1];simp only;rw[if_neg (B.other k1 (by decide) h0)];exact g2
theorem dL{E P:ByteArray}{off:Nat}(B:bw E P off){s s' t:St}{q:List (Int×Int)}(hs:Sh E off s t)(h:yn E s= .ok (q,s'))(e:s'.e=0):∃t',yn P t= .ok (q,t')/\Sh E off s' t':=by
 unfold yn at h
 split at h
 ·rename_i h0
  obtain⟨e0,l0⟩:=B.same hs (by omega);obtain⟨t2,g2,k2⟩:=dI B _ (P.size+1) _ {t with i:=t.i+1} _ _ _ (by have:=B.size;omega) (hs.at (by have:=hs.i;omega) (by omega)) h e;refine⟨t2,?_,k2⟩;unfold yn;rw[e0,if_pos h0];exact g2
 ·cases h
theorem dD{E P:ByteArray}{off:Nat}(B:bw E P off){L:zF}{s t:St}(hs:Sh E off s t):(yY P L t).1=(yY E L s).1/\Sh E off (yY E L s).2 (yY P L t).2:=by
 unfold yY
 have step:∀{c:Int},0<=c->bt E s.i=c->bt P t.i=c/\Sh E off {s with i:=s.i+1} {t with i:=t.i+1}:=by
  intro c hc h;obtain⟨e0,l0⟩:=B.same hs (by omega);exact⟨by rw[e0,h],hs.at (by have:=hs.i;omega) (by omega)⟩
 by_cases h1:bt E s.i=42
 ·obtain⟨a,b⟩:=step (by decide) h1
  rw[if_pos h1,if_pos a];exact⟨rfl,b⟩
 ·rw[if_neg h1,if_neg (B.other hs (by decide) h1)]
  by_cases h2:bt E s.i=43
  ·obtain⟨a,b⟩:=step (by decide) h2
   rw[if_pos h2,if_pos a];exact⟨rfl,b⟩
  ·rw[if_neg h2,if_neg (B.other hs (by decide) h2)]
   by_cases h3:bt E s.i=63
   ·obtain⟨a,b⟩:=step (by decide) h3
    rw[if_pos h3,if_pos a];exact⟨rfl,b⟩
   ·rw[if_neg h3,if_neg (B.other hs (by decide) h3)];exact⟨rfl,hs⟩
def cG(E:ByteArray)(off:Nat)(f g:St->Except Nat (zF×St)):Prop:=(∀(Q:Prop) s L s',Zq Q s->f s= .ok (L,s')->Zq Q s')/\∀s t L s',Sh E off s t->f s= .ok (L,s')->s'.e=0->∃t',g t= .ok (L,t')/\Sh E off s' t'
theorem bx{wr:Bool}{e a:Int}{s:St}(h:wr=false):zL wr e a s=s:=by subst h;simp[zL]
theorem da{E P:ByteArray}{off:Nat}(B:bw E P off){f g:St->Except Nat (zF×St)}(hf:cG E off f g)(d:Nat):cG E off (ye f E d) (ye g P d):=by
 refine⟨fun Q s L s' z h=>Iv (fun s L s'=>hf.1 Q s L s') z h,fun s t L s' hs h e=> ?_⟩;unfold ye at h;simp only at h
 have hk:decide (12<s.k+1)=false:=by
  have h1:Zq (decide (12<s.k+1)=false) (zL (decide (12<s.k+1)) 3 s.i {s with k:=s.k+1}):=fun q=>(Zq.sayW (by decide) q).1
  split at h
  ·injection h with h;injection h with h3 h4;rw[<- h4]at e;exact h1 e
  ·split at h
   ·split at h
    ·rename_i h2;injection h with h;injection h with h3 h4;rw[<- h4]at e;exact Dq h1 h2 e
    ·cases h
   ·split at h
    ·split at h
     ·cases h
     ·rename_i h2
      have:=hf.1 _ _ _ _ (Zq.at (Zq.say (wr:=decide ((4:Int)<=(d:Int))) (a:=s.i) (e:=3) (by decide) h1) _) h2
      split at h
      ·injection h with h;injection h with h3 h4;rw[<- h4]at e;exact this e
      ·cases h
    ·split at h
     ·rename_i h2;injection h with h;injection h with h3 h4;rw[<- h4]at e;exact WQ h1 h2 e
     ·cases h
 have hk':decide (12<t.k+1)=false:=by rw[hs.k];exact hk
 rw[bx hk]at h;have hs1:Sh E off {s with k:=s.k+1} {t with k:=t.k+1}:=⟨hs.i,hs.e,hs.f,by show t.k+1=s.k+1;rw[hs.k],hs.le⟩;unfold ye;simp only;rw[bx hk']
 split at h
 ·rename_i h0
  obtain⟨e0,l0⟩:=B.same hs (by omega);rw[e0,if_pos h0]
  injection h with h;injection h with h3 h4
  subst h3 h4;exact⟨_,rfl,hs1.at (by have:=hs.i;omega) (by omega)⟩
 ·rename_i h0
  rw[if_neg (B.other hs (by decide) h0)]
  split at h
  ·rename_i h0
   obtain⟨e0,l0⟩:=B.same hs (by omega);rw[e0,if_pos h0]
   split at h
   ·rename_i h2
    injection h with h;injection h with h3 h4
    subst h3 h4;obtain⟨t2,g2,k2⟩:=dL B hs1 h2 e;rw[g2];exact⟨_,rfl,k2⟩
   ·cases h
  ·rename_i h0
   rw[if_neg (B.other hs (by decide) h0)]
   split at h
   ·rename_i h0
    obtain⟨e0,l0⟩:=B.same hs (by omega);rw[e0,if_pos h0]
    split at h
    ·cases h
    ·rename_i L3 s3 h2
     split at h
     ·rename_i h41
      injection h with h;injection h with h3 h4
      have e3:s3.e=0:=by rw[<- h4]at e;exact e
      have hd:decide ((4:Int)<=(d:Int))=false:=by
       refine hf.1 (decide ((4:Int)<=(d:Int))=false) _ _ _ (Zq.at ?_ _) h2 e3
       exact fun q=>(Zq.sayW (by decide) q).1
      rw[bx hd]at h2;obtain⟨t3,g3,k3⟩:=hf.2 _ {{t with k:=t.k+1} with i:=t.i+1} _ _ (hs1.at (n:=s.i+1) (by have:=hs.i;omega) (by omega)) h2 e3;rw[bx hd,g3];simp only;obtain⟨e4,l4⟩:=B.same k3 (by omega);rw[e4,if_pos h41];subst h3;exact⟨_,rfl,by rw[<- h4];exact k3.at (by have:=k3.i;omega) (by omega)⟩
     ·cases h
   ·rename_i h0
    rw[if_neg (B.other hs (by decide) h0)]
    split at h
    ·rename_i h2
     injection h with h;injection h with h3 h4
     subst h3 h4;obtain⟨t2,g2,k2⟩:=cQ B (by decide) hs1 h2;rw[g2];exact⟨_,rfl,k2⟩
    ·cases h
theorem dV{E P:ByteArray}{off:Nat}(B:bw E P off){s t:St}(hs:Sh E off s t):Yj (bt P t.i)=Yj (bt E s.i):=by
 by_cases hl:s.i<E.size
 ·rw[hs.i,B.lt _ hl]
 ·have e:s.i=E.size:=by have:=hs.le;omega
  rw[hs.i,e,B.bar,cV (by omega)]
  decide
theorem dB{E P:ByteArray}{off:Nat}(B:bw E P off){f g:St->Except Nat (zF×St)}(hf:cG E off f g):∀n m (s t:St) x y s',n<=m->Sh E off s t->yh f E n s x= .ok (y,s')->s'.e=0->∃t',yh g P m t x= .ok (y,t')/\Sh E off s' t':=by
 intro n
 induction n with
 |zero=>intro m s t x y s' _ _ h;cases h
 |succ n ih=>
  intro m s t x y s' hm hs h e;obtain⟨m,rfl⟩:∃k,m=k+1:=⟨m - 1,by omega⟩;unfold yh at h ⊢;rw[dV B hs]
  split at h
  ·rename_i h0
   rw[if_pos h0]
   injection h with h;injection h with h3 h4
   subst h3 h4;exact⟨_,rfl,hs⟩
  ·rename_i h0
   rw[if_neg h0]
   split at h
   ·cases h
   ·rename_i L1 s1 h1
    have e1:s1.e=0:=E9 (Q:=s1.e=0) (fun s L s'=>hf.1 _ s L s') n _ _ _ _ (Fu (Zq.self s1)) h e;obtain⟨t1,g1,k1⟩:=hf.2 _ _ _ _ hs h1 e1;rw[g1];simp only;obtain⟨a,b⟩:=dD B (L:=L1) k1;rw[a];exact ih m _ _ _ _ _ (by omega) b h e
theorem dH{E P:ByteArray}{off:Nat}(B:bw E P off){f g:St->Except Nat (zF×St)}(hf:cG E off f g):∀n m (s t:St) x y s',n<=m->Sh E off s t->jZ f E n s x= .ok (y,s')->s'.e=0->∃t',jZ g P m t x= .ok (y,t')/\Sh E off s' t':=by
 intro n
 induction n with
 |zero=>intro m s t x y s' _ _ h;cases h
 |succ n ih=>
  intro m s t x y s' hm hs h e;obtain⟨m,rfl⟩:∃k,m=k+1:=⟨m - 1,by omega⟩;unfold jZ at h ⊢
  split at h
  ·cases h
  ·rename_i L1 s1 h1
   split at h
   ·rename_i h0
    have e1:s1.e=0:=Et (Q:=s1.e=0) (fun s L s'=>hf.1 _ s L s') n _ _ _ _ ((Zq.self s1).at _) h e;obtain⟨t1,g1,k1⟩:=hf.2 _ _ _ _ hs h1 e1;obtain⟨e0,l0⟩:=B.same k1 (by omega);rw[g1];simp only;rw[e0,if_pos h0];exact ih m _ _ _ _ _ (by omega) (k1.at (by have:=k1.i;omega) (by omega)) h e
   ·rename_i h0
    injection h with h;injection h with h3 h4
    subst h3
    have e1:s1.e=0:=by rw[<- h4]at e;exact e
    obtain⟨t1,g1,k1⟩:=hf.2 _ _ _ _ hs h1 e1;rw[g1];simp only;rw[if_neg (B.other k1 (by decide) h0)];exact⟨_,rfl,by rw[<- h4];exact k1⟩
theorem dY{E P:ByteArray}{off:Nat}(B:bw E P off):∀n m d,n<=m->cG E off (zv E n d) (zv P m d):=by
 intro n
 induction n with
 |zero=>
  intro m d _;refine⟨?_,?_⟩
  ·intro Q s L s' _ h
   cases h
  ·intro s t L s' _ h
   cases h
 |succ n ih=>
  intro m d hm;obtain⟨m,rfl⟩:∃k,m=k+1:=⟨m - 1,by omega⟩;refine⟨fun Q s L s' z h=>Gw _ _ _ _ _ z h,fun s t L s' hs h e=> ?_⟩;unfold zv at h ⊢;have hb:=da B (ih m (d+1) (by omega)) d
  have hr:cG E off (fun s=>yh (ye (zv E n (d+1)) E d) E (E.size+1) s []) (fun s=>yh (ye (zv P m (d+1)) P d) P (P.size+1) s []):=
   ⟨fun Q s L s' z h=>E9 (fun s L s'=>hb.1 Q s L s') _ _ _ _ _ z h,fun s t L s' hs h e=>dB B hb _ (P.size+1) s t _ _ _ (by have:=B.size;omega) hs h e⟩
  exact dH B hr _ _ s t _ _ _ (by have:=B.size;omega) hs h e
theorem cI(A R:ByteArray)(i:Nat):bt (A++R) i=if i<A.size then bt A i else bt R (i - A.size):=by
 unfold bt
 by_cases h:i<A.size
 ·rw[if_pos h,dif_pos (by rw[ByteArray.size_append];omega),dif_pos h]
  rw[ByteArray.getElem_append_left h]
 ·rw[if_neg h]
  by_cases h2:i - A.size<R.size
  ·rw[dif_pos (by rw[ByteArray.size_append];omega),dif_pos h2]
   rw[ByteArray.getElem_append_right (by omega)]
  ·rw[dif_neg (by rw[ByteArray.size_append];omega),dif_neg h2]
theorem cy(A R:ByteArray){i j:Nat}(h:j<=A.size):(A++R).extract i j=A.extract i j:=by
 have:= @ByteArray.extract_append A R i j;rw[this]
 have e:R.extract (i - A.size) (j - A.size)=ByteArray.empty:=by
  rw[show j - A.size=0 by omega];simp
 rw[e];simp
def cA:ByteArray:=⟨#[115,99,114,117,98,32,97,123,125,99,104,97,105,110,32,99,61,97,59,110,101,118,101,114,32,99,47]⟩
def cq:ByteArray:=⟨#[47,59]⟩
def bp(E:ByteArray):ByteArray:=(cA++E)++cq
def aB:ByteArray:=⟨#[97]⟩
def cB:ByteArray:=⟨#[99]⟩
theorem cO(E:ByteArray):(bp E).size=E.size+29:=by
 unfold bp;rw[ByteArray.size_append,ByteArray.size_append]
 show 27+E.size+2=_
 omega
theorem cE(E:ByteArray){i:Nat}(h:i<27):bt (bp E) i=bt cA i:=by
 have e:cA.size=27:=rfl;unfold bp;rw[cI,if_pos (by rw[ByteArray.size_append];omega),cI,if_pos (by omega)]
theorem cT(E:ByteArray)(i:Nat):bt (bp E) (E.size+27+i)=bt cq i:=by
 have e:cA.size=27:=rfl;unfold bp;rw[cI,if_neg (by rw[ByteArray.size_append];omega),ByteArray.size_append,e,show E.size+27+i - (27+E.size)=i by omega]
theorem cZ(E:ByteArray):bw E (bp E) 27:=by
 have e:cA.size=27:=rfl;refine⟨fun i hi=> ?_,?_,by rw[cO];omega⟩
 ·unfold bp
  rw[cI,if_pos (by rw[ByteArray.size_append];omega),cI,if_neg (by omega),e,show i+27 - 27=i by omega]
 ·have:=cT E 0
  rw[Nat.add_zero]at this;rw[this];decide
theorem cU{p:Int->Bool}{P:ByteArray}:∀(n i j:Nat),j=i+n->j<=P.size->(∀k,i<=k->k<j->p (bt P k)=true)->p (bt P j)=false->run p P i=j
 |0,i,j,e,_,_,h=>by subst e;exact Z9 h
 |n+1,i,j,e,hl,hk,h=>by
  rw[Qs (by omega) (hk i (Nat.le_refl _) (by omega))];exact cU n (i+1) j (by omega) hl (fun k h1 h2=>hk k (by omega) h2) h
theorem bu(E:ByteArray){p:Int->Bool}{i j:Nat}(h:(decide (j<27) && decide (i<=j) && (List.range j).all (fun k=>decide (k<i) || p (bt cA k)) && !p (bt cA j))=true):run p (bp E) i=j:=by
 simp only[Bool.and_eq_true,decide_eq_true_eq,List.all_eq_true,Bool.or_eq_true,List.mem_range,Bool.not_eq_true']at h;obtain⟨⟨⟨h1,h2⟩,h3⟩,h4⟩:=h;refine cU (j - i) i j (by omega) (by rw[cO];omega) (fun k a b=> ?_) (by rw[cE E h1];exact h4);rw[cE E (by omega)]
 rcases h3 k b with h|h
 ·omega
 ·exact h
theorem cC(E:ByteArray){i j:Nat}(h:j<=27):(bp E).extract i j=cA.extract i j:=by
 have e:cA.size=27:=rfl;unfold bp;rw[cy _ _ (by rw[ByteArray.size_append];omega),cy _ _ (by omega)]
theorem cR{P:ByteArray}{L:List ByteArray}{s:St}{i j:Nat}{x:ByteArray}(h1:run zI P s.i=i)(h2:run zR P i=j)(h3:P.extract i j=x)(h4:JS L x=true):yI P L s= .ok ((x,i),{s with i:=j}):=by
 unfold yI;simp only[h1,h2,h3,h4,if_true]
theorem cK{P:ByteArray}{s:St}{i j:Nat}{x:ByteArray}(h1:run zI P s.i=i)(h2:run zR P i=j)(h3:P.extract i j=x)(h4:¬(x.size=0\/JS js x=true\/8<x.size)):yA P s= .ok ((x,i),{s with i:=j}):=by
 unfold yA;simp only[h1,h2,h3];rw[if_neg h4]
theorem cH{P:ByteArray}{s:St}{c:Int}{i:Nat}(h1:run zI P s.i=i)(h2:bt P i=c):zh P c s= .ok {s with i:=i+1}:=by
 unfold zh;rw[h1,if_pos h2]
theorem cF{P:ByteArray}{s:St}{i:Nat}(h1:run zI P s.i=i):s.sk P={s with i:=i}:=by
 unfold St.sk;rw[h1]
theorem dd(E:ByteArray):j8 (bp E) [] [] 0 ⟨5,0,0,0⟩= .ok (⟨aB,false,ByteArray.empty,ByteArray.empty,[]⟩,⟨9,0,0,0⟩):=by
 have r1:yA (bp E) ⟨5,0,0,0⟩= .ok ((aB,6),⟨7,0,0,0⟩):=cK (bu E (by decide)) (bu E (by decide)) ((cC E (by decide)).trans (by decide)) (by decide);have b7:run zI (bp E) 7=7:=bu E (by decide);have b8:run zI (bp E) 8=8:=bu E (by decide);have c7:bt (bp E) 7=123:=(cE E (by decide)).trans (by decide);have c8:bt (bp E) 8=125:=(cE E (by decide)).trans (by decide);have k7:(⟨7,0,0,0⟩:St).sk (bp E)=⟨7,0,0,0⟩:=cF b7;have k8:(⟨8,0,0,0⟩:St).sk (bp E)=⟨8,0,0,0⟩:=cF b8;have s7:zh (bp E) 123 ⟨7,0,0,0⟩= .ok ⟨8,0,0,0⟩:=cH b7 c7;have s8:zh (bp E) 125 ⟨8,0,0,0⟩= .ok ⟨9,0,0,0⟩:=cH b8 c8
 have f8:jj (bp E) ((bp E).size+1) ⟨8,0,0,0⟩ []= .ok ([],⟨8,0,0,0⟩):=by
  unfold jj;simp only;rw[b8,c8,if_neg (by decide),k8]
 unfold j8;rw[bx (by decide),r1];simp only;rw[bx (by decide)];unfold JA;simp only;rw[b7,c7,if_pos rfl,k7,s7];simp only;rw[f8];simp only;rw[s8]
theorem dn(E:ByteArray):jx (bp E) [aB] [] 9 ⟨14,0,0,0⟩= .ok (⟨cB,[0]⟩,⟨19,0,0,0⟩):=by
 have r1:yA (bp E) ⟨14,0,0,0⟩= .ok ((cB,15),⟨16,0,0,0⟩):=cK (bu E (by decide)) (bu E (by decide)) ((cC E (by decide)).trans (by decide)) (by decide);have s16:zh (bp E) 61 ⟨16,0,0,0⟩= .ok ⟨17,0,0,0⟩:=cH (bu E (by decide)) ((cE E (by decide)).trans (by decide));have r2:yA (bp E) ⟨17,0,0,0⟩= .ok ((aB,17),⟨18,0,0,0⟩):=cK (bu E (by decide)) (bu E (by decide)) ((cC E (by decide)).trans (by decide)) (by decide);have b18:run zI (bp E) 18=18:=bu E (by decide);have c18:bt (bp E) 18=59:=(cE E (by decide)).trans (by decide);have k18:(⟨18,0,0,0⟩:St).sk (bp E)=⟨18,0,0,0⟩:=cF b18;have s18:zh (bp E) 59 ⟨18,0,0,0⟩= .ok ⟨19,0,0,0⟩:=cH b18 c18
 have l:jl (bp E) [aB] ((bp E).size+1) ⟨17,0,0,0⟩ []= .ok ([0],⟨18,0,0,0⟩):=by
  unfold jl;rw[r2];simp only;rw[bx (by decide),bx (by decide)];simp only;rw[b18,c18,if_pos rfl,k18];rfl
 unfold jx;rw[bx (by decide),r1];simp only;rw[bx (by decide),s16];simp only;rw[l];simp only;rw[s18]
theorem dT{E:ByteArray}{L:zF}{s:St}(h:br E= .ok (L,s))(e:s.e=0):∃k a,jE (bp E) [cB] 0 true 19 ⟨24,0,0,0⟩= .ok (⟨true,0,0,L,k⟩,⟨E.size+29,0,a,k⟩):=by
 have r1:yA (bp E) ⟨24,0,0,0⟩= .ok ((cB,25),⟨26,0,0,0⟩):=cK (bu E (by decide)) (bu E (by decide)) ((cC E (by decide)).trans (by decide)) (by decide);have s26:zh (bp E) 47 ⟨26,0,0,0⟩= .ok ⟨27,0,0,0⟩:=cH (bu E (by decide)) ((cE E (by decide)).trans (by decide));unfold br at h
 split at h
 ·cases h
 ·rename_i L1 s1 h1
  split at h
  ·cases h
  ·rename_i hi
   injection h with h;injection h with h2 h3
   subst h2 h3;obtain⟨t,g,k⟩:=(dY (cZ E) (E.size+1) ((bp E).size+1) 0 (by rw[cO];omega)).2 st0 ⟨27,0,0,0⟩ L1 s1 ⟨rfl,rfl,rfl,rfl,Nat.zero_le _⟩ h1 e;have hle:=k.le;have hti:=k.i;have htf:=k.f
   have hend:s1.i=E.size:=by omega
   obtain⟨ti,te,ta,tk⟩:=t;simp only at hti htf;subst htf;rw[hend]at hti;subst hti;have c0:bt (bp E) (E.size+27)=47:=(cZ E).bar;have c1:bt (bp E) (E.size+28)=59:=(cT E 1).trans (by decide);refine⟨tk,ta,?_⟩;unfold jE yK;rw[bx (by decide),r1];simp only;rw[bx (by decide),if_pos trivial,s26];simp only;unfold JU Jq;simp only;rw[g];simp only;unfold JD;rw[if_pos c0];simp only;rw[cH (Z9 (by show zI (bt (bp E) (E.size+28))=false;rw[c1];decide)) c1];rfl
theorem dc{E:ByteArray}{L:zF}{s:St}(h:br E= .ok (L,s))(e:s.e=0):∃k s',jA (bp E)= .ok (⟨[⟨aB,false,ByteArray.empty,ByteArray.empty,[]⟩],[⟨cB,[0]⟩],[⟨true,0,0,L,k⟩]⟩,s'):=by
 obtain⟨k,a,hA⟩:=dT h e;have z:(bp E).size=E.size+29:=cO E;have b0:st0.sk (bp E)=⟨0,0,0,0⟩:=cF (bu E (by decide));have b9:(⟨9,0,0,0⟩:St).sk (bp E)=⟨9,0,0,0⟩:=cF (bu E (by decide));have b19:(⟨19,0,0,0⟩:St).sk (bp E)=⟨19,0,0,0⟩:=cF (bu E (by decide));have w0:yI (bp E) Jf ⟨0,0,0,0⟩= .ok ((Ji,0),⟨5,0,0,0⟩):=cR (bu E (by decide)) (bu E (by decide)) ((cC E (by decide)).trans (by decide)) (by decide);have w9:yI (bp E) Jf ⟨9,0,0,0⟩= .ok ((Jj,9),⟨14,0,0,0⟩):=cR (bu E (by decide)) (bu E (by decide)) ((cC E (by decide)).trans (by decide)) (by decide);have w19:yI (bp E) Jf ⟨19,0,0,0⟩= .ok ((JR,19),⟨24,0,0,0⟩):=cR (bu E (by decide)) (bu E (by decide)) ((cC E (by decide)).trans (by decide)) (by decide);have hs:=dd E;have hc:=dn E;have bz:(⟨E.size+29,0,a,k⟩:St).sk (bp E)=⟨E.size+29,0,a,k⟩:=cF (Z9 (by rw[cV (by show ¬E.size+29<_;omega)];decide));refine⟨k,⟨E.size+29,0,a,k⟩,?_⟩;unfold jA;rw[b0,show(bp E).size+1=(E.size+26)+4 by omega];generalize hP:bp E=P at *;rw[show ∀n s D,jC P (n+1) s D=(if s.i<P.size then(match yI P Jf s with|.error d=> .error d|.ok ((x,p),s1)=>match jb P x p D s1 with|.error d=> .error d|.ok (D',s2)=>jC P n (s2.sk P) D')else .ok (D,s))from fun _ _ _=>rfl];rw[if_pos (by show 0<P.size;omega),w0];simp only
 rw[show jb P Ji ((0:Nat):Int) ⟨[],[],[]⟩ ⟨5,0,0,0⟩= .ok (⟨[⟨aB,false,ByteArray.empty,ByteArray.empty,[]⟩],[],[]⟩,⟨9,0,0,0⟩)from by
  unfold jb;rw[if_pos (by decide)];simp only[List.map_nil];rw[show((0:Nat):Int)=0 from rfl,hs]
  rfl]
 simp only;rw[b9];rw[show ∀n s D,jC P (n+1) s D=(if s.i<P.size then(match yI P Jf s with|.error d=> .error d|.ok ((x,p),s1)=>match jb P x p D s1 with|.error d=> .error d|.ok (D',s2)=>jC P n (s2.sk P) D')else .ok (D,s))from fun _ _ _=>rfl];rw[if_pos (by show 9<P.size;omega),w9];simp only
 rw[show jb P Jj ((9:Nat):Int) ⟨[⟨aB,false,ByteArray.empty,ByteArray.empty,[]⟩],[],[]⟩ ⟨14,0,0,0⟩= .ok (⟨[⟨aB,false,ByteArray.empty,ByteArray.empty,[]⟩],[⟨cB,[0]⟩],[]⟩,⟨19,0,0,0⟩)from by
  unfold jb;rw[if_neg (by decide),if_pos (by decide)];simp only[List.map_nil,List.map_cons];rw[show((9:Nat):Int)=9 from rfl,hc]
  rfl]
 simp only;rw[b19];rw[show ∀n s D,jC P (n+1) s D=(if s.i<P.size then(match yI P Jf s with|.error d=> .error d|.ok ((x,p),s1)=>match jb P x p D s1 with|.error d=> .error d|.ok (D',s2)=>jC P n (s2.sk P) D')else .ok (D,s))from fun _ _ _=>rfl];rw[if_pos (by show 19<P.size;omega),w19];simp only
 rw[show jb P JR ((19:Nat):Int) ⟨[⟨aB,false,ByteArray.empty,ByteArray.empty,[]⟩],[⟨cB,[0]⟩],[]⟩ ⟨24,0,0,0⟩= .ok (⟨[⟨aB,false,ByteArray.empty,ByteArray.empty,[]⟩],[⟨cB,[0]⟩],[⟨true,0,0,L,k⟩]⟩,⟨E.size+29,0,a,k⟩)from by
  unfold jb;rw[if_neg (by decide),if_neg (by decide)];simp only[List.map_nil,List.map_cons,List.length_nil];rw[show((19:Nat):Int)=19 from rfl,show yQ JR JR=true from by decide,hA]
  rfl]
 simp only;rw[bz];rw[show ∀n s D,jC P (n+1) s D=(if s.i<P.size then(match yI P Jf s with|.error d=> .error d|.ok ((x,p),s1)=>match jb P x p D s1 with|.error d=> .error d|.ok (D',s2)=>jC P n (s2.sk P) D')else .ok (D,s))from fun _ _ _=>rfl];rw[if_neg (by show ¬E.size+29<P.size;omega)]
end Go.Proofs.YteobgfbgglfkbaaGreat
