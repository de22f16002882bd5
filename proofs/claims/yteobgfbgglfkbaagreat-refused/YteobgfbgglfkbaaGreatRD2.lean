import Derived.Test.YteobgfbgglfkbaaGreatRA6
set_option maxHeartbeats 1600000
set_option maxRecDepth 100000
namespace Go.Proofs.YteobgfbgglfkbaaGreat
open Go.RowKit
attribute [local go_sem ↓] Go.wp_at_zero Go.wp_at_succ
def sl(c n:Nat):Value:= .slice (some ⟨c,0,none⟩) n n
theorem zq.fa{w:World}{c n:Nat}{f:Nat->Bool}(h:zq w c n f){i:Nat}(hi:i<n):w.cell? ⟨c,i,none⟩=some (.bool (f i))/\(∀o,w.frozen? ⟨c,o,none⟩=false):=⟨h.cl i hi,h.fz⟩
theorem Ch.forget{X:List Nat}{w w':World}(g:Ch X w w')(h:∀x,x∈X->w.heap.size<=x):Ch [] w w':=
 ⟨g.os,g.tape,g.output,g.size,fun k hk _=>g.block k hk (fun hx=>by have:=h k hx;omega)⟩
theorem Uf{w:World}{a b n:Nat}{f g:Nat->Bool}(ha:zq w a n f)(hb:zq w b n g)(hn:n<=281474976710656):
 Calls Tryz.prog 100 #[sl a n,sl b n] w fun e w'=>∃c,w.heap.size<=c/\e= .returned (sl c n)/\zq w' c n (fun k=>f k || g k)/\Ch [] w w':=by
 unfold sl;go_enter Tryz.func100,Tryz.ntmps100;go_wp2_with (at_make;refine QA 142 Tryz.underlying142 _ _ n rfl rfl rfl rfl hn ?_;intro w2 hB g2 hz);have ha2:=ha.kp g2 (by simp);have hb2:=hb.kp g2 (by simp);have la:=ha.lt;have lb:=hb.lt;generalize hC:w.heap.size=C at *
 go_loopw [6] (fun v w5=>Ch [C] w2 w5/\∃i:Nat,v= .int .i64 i/\i<=n/\zq w5 C n (fun k=>if k<i then f k || g k else false)) (fun v _=>n - (match v with|.int _ q=>q.toNat|_=>0))
 case atStart=>exact⟨Ch.refl _ _,0,rfl,by omega,by simpa using hB⟩
 case round=>
  obtain⟨g5,i,rfl,hi,h5⟩:=hrel;have a5:=ha2.kp g5 (by simp;omega);have b5:=hb2.kp g5 (by simp;omega)
  by_cases hlt:i<n
  ·obtain⟨ca,fa⟩:=a5.fa hlt
   obtain⟨cb,fb⟩:=b5.fa hlt;obtain⟨cc,fc⟩:=h5.fa hlt
   have hlt':(i:Int)<n:=by omega
   have hi0:(0:Int)<=i:=by omega
   have hpos:zq (wr.setCell ⟨C,i,none⟩ (.bool (f i || g i))) C n (fun k=>if k<i+1 then f k || g k else false):=(h5.set i (f i || g i)).congr (fun k _=>by
    by_cases e:k=i
    ·subst e;simp
    ·rw[if_neg e]
     by_cases e2:k<i
     ·rw[if_pos e2,if_pos (by omega)]
     ·rw[if_neg e2,if_neg (by omega)])
   have gs:Ch [C] wr (wr.setCell ⟨C,i,none⟩ (.bool (f i || g i))):=Ch.setCell _ (by simp) _
   have hm:n - (i+1)<n - i:=by omega
   generalize f i=x at *;generalize g i=y at *
   cases x <;>simp only[Bool.true_or,Bool.false_or]at hpos gs
   ·go_wp2_with fail
    exact⟨⟨g5.trans gs,i+1,rfl,by omega,hpos⟩,hm⟩
   ·go_wp2_with fail
    exact⟨⟨g5.trans gs,i+1,rfl,by omega,hpos⟩,hm⟩
  ·have hge:¬(i:Int)<n:=by omega
   obtain rfl:i=n:=by omega
   clear hlt;go_wp2_with fail;go_ret;exact⟨C,by omega,rfl,h5.congr (fun k hk=>by rw[if_pos hk]),((g2.mono (by simp)).trans g5).forget (by simp;omega)⟩
theorem AG{w:World}{a b n:Nat}{f g:Nat->Bool}(ha:zq w a n f)(hb:zq w b n g)(hn:n<=281474976710656):
 Calls Tryz.prog 101 #[sl a n,sl b n] w fun e w'=>e= .returned (.bool (decide (∀k,k<n->f k=g k)))/\Ch [] w w':=by
 unfold sl;go_enter Tryz.func101,Tryz.ntmps101;go_wp2_with fail
 go_loopw [5] (fun v w5=>Ch [] w w5/\∃i:Nat,v= .int .i64 i/\i<=n/\∀k,k<i->f k=g k) (fun v _=>n - (match v with|.int _ q=>q.toNat|_=>0))
 case atStart=>exact⟨Ch.refl _ _,0,rfl,by omega,by intro k hk;omega⟩
 case round=>
  obtain⟨g5,i,rfl,hi,h5⟩:=hrel;have a5:=ha.kp g5 (by simp);have b5:=hb.kp g5 (by simp)
  by_cases hlt:i<n
  ·obtain⟨ca,fa⟩:=a5.fa hlt
   obtain⟨cb,fb⟩:=b5.fa hlt
   have hlt':(i:Int)<n:=by omega
   have hi0:(0:Int)<=i:=by omega
   have hm:n - (i+1)<n - i:=by omega
   by_cases he:f i=g i
   ·have q:(!(f i==g i))=false:=by simp[he]
    have HE:=zC he;clear he;go_wp2_with fail;go_quiet (fail);go_wp2_with fail
    exact⟨⟨g5.trans (Ch.drewN _ _ _),i+1,rfl,by omega,fun k hk=>by
     by_cases e:k=i
     ·rw[e];exact HE.o
     ·exact h5 k (by omega)⟩,hm⟩
   ·have q:(!(f i==g i))=true:=by simpa using he
    have HE:=zC he;clear he;go_wp2_with fail;go_quiet (fail);go_wp2_with fail;go_ret;exact⟨by rw[decide_eq_false (fun e=>HE.o (e i hlt))];rfl,g5.trans (Ch.drewN _ _ _)⟩
  ·have hge:¬(i:Int)<n:=by omega
   obtain rfl:i=n:=by omega
   clear hlt;go_wp2_with fail;go_ret;exact⟨by rw[decide_eq_true h5];rfl,g5⟩
def JN(T:ByteArray)(i j:Nat):List UInt8:=(T.data.toList.take j).drop i
theorem XO(T:ByteArray)(i:Nat):JN T i i=[]:=by
 unfold JN;apply List.eq_nil_of_length_eq_zero;simp
theorem VG{T:ByteArray}{i j:Nat}(hij:i<=j)(hj:j<=T.size):(JN T i j).length=j - i:=by
 unfold JN
 have:T.data.toList.length=T.size:=by simp
 simp;omega
theorem Kl{T:ByteArray}{i m j:Nat}(h1:i<=m)(h2:m<=j)(hj:j<=T.size):JN T i j=JN T i m++JN T m j:=by
 unfold JN
 have hl:T.data.toList.length=T.size:=by simp
 apply List.ext_getElem?;intro k;rw[List.getElem?_append];simp only[List.getElem?_drop,List.getElem?_take,List.length_drop,List.length_take,hl]
 by_cases hk:k<min m T.size - i
 ·rw[if_pos hk,if_pos (by omega),if_pos (by omega)]
 ·rw[if_neg hk]
  have e:m+(k - (min m T.size - i))=i+k:=by omega
  rw[e]
theorem Mw{T:ByteArray}{i j:Nat}(hij:i<=j)(hj:j<=T.size){x y:List UInt8}(h:JN T i j=x++y):∃m,i<=m/\m<=j/\x=JN T i m/\y=JN T m j:=by
 have hl:=VG hij hj;rw[h]at hl;simp at hl;refine⟨i+x.length,by omega,by omega,?_⟩;have:=Kl (T:=T) (i:=i) (m:=i+x.length) (j:=j) (by omega) (by omega) hj;rw[h]at this
 have hx:x.length=(JN T i (i+x.length)).length:=by rw[VG (by omega) (by omega)];omega
 exact List.append_inj this hx
theorem EW{T:ByteArray}{i:Nat}(hi:i<T.size):JN T i (i+1)=[T[i]]:=by
 have hl:=VG (T:=T) (i:=i) (j:=i+1) (by omega) (by omega);apply List.ext_getElem?;intro k
 cases k with
 |zero=>
  unfold JN;simp[List.getElem?_drop];exact Array.getElem?_eq_getElem hi
 |succ k=>
  rw[List.getElem?_eq_none (by omega)];simp
theorem Dz(T:ByteArray):JN T 0 T.size=T.data.toList:=by
 unfold JN
 have hl:T.data.toList.length=T.size:=by simp
 rw[<- hl,List.take_length];rfl
def JG(T:ByteArray)(L:zF)(f:Nat->Bool)(j:Nat):Prop:=∃i,i<=j/\f i=true/\L (JN T i j)
def JM(n:Nat)(g:Nat->Bool)(P:Nat->Prop):Prop:=∀j,j<=n->(g j=true↔P j)
theorem CU{T:ByteArray}{f:Nat->Bool}:JM T.size f (JG T zF.eps f):=by
 intro j hj
 constructor
 ·intro h;exact⟨j,Nat.le_refl _,h,XO T j⟩
 ·rintro⟨i,hi,hf,he⟩
  have:=VG hi hj;rw[show JN T i j=[]from he]at this;simp at this
  rwa [show j=i from by omega]
theorem DO{T:ByteArray}{A B:zF}{f g h:Nat->Bool}(h1:JM T.size g (JG T A f))(h2:JM T.size h (JG T B g)):JM T.size h (JG T (zF.seq A B) f):=by
 intro j hj;rw[h2 j hj]
 constructor
 ·rintro⟨m,hm,hg,hB⟩
  obtain⟨i,hi,hf,hA⟩:=(h1 m (by omega)).1 hg;exact⟨i,by omega,hf,_,_,Kl hi hm hj,hA,hB⟩
 ·rintro⟨i,hi,hf,x,y,e,hA,hB⟩
  obtain⟨m,hm1,hm2,rfl,rfl⟩:=Mw hi hj e;exact⟨m,hm2,(h1 m (by omega)).2 ⟨i,hm1,hf,hA⟩,hB⟩
theorem NI(A B C:zF):zF.seq (zF.seq A B) C=zF.seq A (zF.seq B C):=by
 funext t
 apply propext
 constructor
 ·rintro⟨_,z,rfl,⟨x,y,rfl,hx,hy⟩,hz⟩
  exact⟨x,y++z,by simp,hx,y,z,rfl,hy,hz⟩
 ·rintro⟨x,_,rfl,hx,y,z,rfl,hy,hz⟩
  exact⟨x++y,z,by simp,⟨x,y,rfl,hx,hy⟩,hz⟩
theorem Nh(A:zF):zF.seq A zF.eps=A:=by
 funext t
 apply propext
 constructor
 ·rintro⟨x,y,rfl,hx,hy⟩;rw[show y=[]from hy];simpa using hx
 ·intro h;exact⟨t,[],by simp,h,rfl⟩
theorem Mx(A:zF):zF.seq zF.eps A=A:=by
 funext t
 apply propext
 constructor
 ·rintro⟨x,y,rfl,hx,hy⟩;rw[show x=[]from hx];simpa using hy
 ·intro h;exact⟨[],t,rfl,rfl,h⟩
theorem EV(R:List zF)(A:zF):zF.row (R++[A])=zF.seq (zF.row R) A:=by
 induction R with
 |nil=>simp only[List.nil_append,zF.row];rw[Nh,Mx]
 |cons B R ih=>simp only[List.cons_append,zF.row];rw[ih,NI]
theorem Oy{T:ByteArray}{f:Nat->Bool}:JM T.size (fun _=>false) (JG T (zF.alt []) f):=by
 intro j _
 constructor
 ·intro h;cases h
 ·rintro⟨i,_,_,A,hA,_⟩;simp at hA
theorem Sk{T:ByteArray}{R:List zF}{A:zF}{f g h:Nat->Bool}(h1:JM T.size g (JG T (zF.alt R) f))(h2:JM T.size h (JG T A f)):JM T.size (fun k=>g k || h k) (JG T (zF.alt (R++[A])) f):=by
 intro j hj;rw[Bool.or_eq_true,h1 j hj,h2 j hj]
 constructor
 ·rintro(⟨i,hi,hf,B,hB,hb⟩|⟨i,hi,hf,ha⟩)
  ·exact⟨i,hi,hf,B,by simp[hB],hb⟩
  ·exact⟨i,hi,hf,A,by simp,ha⟩
 ·rintro⟨i,hi,hf,B,hB,hb⟩
  simp at hB
  rcases hB with hB|rfl
  ·exact Or.inl ⟨i,hi,hf,B,hB,hb⟩
  ·exact Or.inr ⟨i,hi,hf,hb⟩
theorem CN{T:ByteArray}{A:zF}{f h:Nat->Bool}(h2:JM T.size h (JG T A f)):JM T.size (fun k=>f k || h k) (JG T A.opt f):=by
 intro j hj;rw[Bool.or_eq_true,h2 j hj]
 constructor
 ·rintro(hf|⟨i,hi,hf,ha⟩)
  ·exact⟨j,Nat.le_refl _,hf,Or.inl (XO T j)⟩
  ·exact⟨i,hi,hf,Or.inr ha⟩
 ·rintro⟨i,hi,hf,he|ha⟩
  ·have:=VG hi hj
   rw[he]at this;simp at this;exact Or.inl (by rwa [show j=i from by omega])
  ·exact Or.inr ⟨i,hi,hf,ha⟩
def Vh(T:ByteArray)(A:zF)(f g:Nat->Bool):Prop:=∀j,j<=T.size->(f j=true->g j=true)/\(g j=true->JG T A.star f j)
theorem TP(A:zF)(n:Nat):zF.pow A (n+1)=zF.seq (zF.pow A n) A:=by
 induction n with
 |zero=>simp only[zF.pow];rw[Nh,Mx]
 |succ n ih=>rw[zF.pow,ih,<- NI,<- zF.pow,ih]
theorem BO{T:ByteArray}{A:zF}{f:Nat->Bool}:Vh T A f f:=fun j _=>⟨id,fun h=>⟨j,Nat.le_refl _,h,0,XO T j⟩⟩
theorem Nr{T:ByteArray}{A:zF}{f g h:Nat->Bool}(m:Vh T A f g)(h2:JM T.size h (JG T A g)):Vh T A f (fun k=>g k || h k):=by
 intro j hj;simp only[Bool.or_eq_true];refine⟨fun hf=>Or.inl ((m j hj).1 hf),?_⟩;rintro(hg|hh)
 ·exact(m j hj).2 hg
 ·obtain⟨i,hi,hg,ha⟩:=(h2 j hj).1 hh
  obtain⟨i0,hi0,hf,n,hn⟩:=(m i (by omega)).2 hg;exact⟨i0,by omega,hf,n+1,by rw[TP];exact⟨_,_,Kl hi0 hi hj,hn,ha⟩⟩
theorem Ak{T:ByteArray}{A:zF}{f g h:Nat->Bool}(m:Vh T A f g)(h2:JM T.size h (JG T A g))(hs:∀k,k<T.size+1->(g k || h k)=g k):JM T.size g (JG T A.star f):=by
 intro j hj;refine⟨(m j hj).2,?_⟩;rintro⟨i,hi,hf,n,hn⟩
 have key:∀n i j,i<=j->j<=T.size->g i=true->zF.pow A n (JN T i j)->g j=true:=by
  intro n
  induction n with
  |zero=>
   intro i j hi hj hg he;have:=VG hi hj;rw[show JN T i j=[]from he]at this;simp at this
   rwa [show j=i from by omega]
  |succ n ih=>
   intro i j hi hj hg he;obtain⟨x,y,e,hx,hy⟩:=he;obtain⟨q,q1,q2,rfl,rfl⟩:=Mw hi hj e;have hq:h q=true:=(h2 q (by omega)).2 ⟨i,q1,hg,hx⟩
   have hgq:g q=true:=by rw[<- hs q (by omega),hq,Bool.or_true]
   exact ih q j q2 hj hgq hy
 exact key n i j hi hj ((m i (by omega)).1 hf) hn
theorem TT{T:ByteArray}{A:zF}{f g h:Nat->Bool}(h1:JM T.size g (JG T A f))(h2:JM T.size h (JG T A.star g)):JM T.size h (JG T A.plus f):=by
 have e:A.plus=zF.seq A A.star:=by
  funext t
  apply propext
  constructor
  ·rintro⟨n,x,y,e,hx,hy⟩;exact⟨x,y,e,hx,n,hy⟩
  ·rintro⟨x,y,e,hx,n,hy⟩;exact⟨n,x,y,e,hx,hy⟩
 rw[e];exact DO h1 h2
theorem aD{T:ByteArray}{Lc:List (Int×Int)}{f:Nat->Bool}{g:Nat->Bool}(hg0:g 0=false)(hg:∀(i:Nat) (hi:i<T.size),g (i+1)=(f i && zo Lc T[i].toNat)):JM T.size g (JG T (zF.cls Lc) f):=by
 intro j hj
 constructor
 ·intro h
  cases j with
  |zero=>rw[hg0]at h;cases h
  |succ i=>
   rw[hg i (by omega),Bool.and_eq_true]at h;exact⟨i,by omega,h.1,_,EW (by omega),h.2⟩
 ·rintro⟨i,hi,hf,c,e,hc⟩
  have hl:=VG hi hj;rw[e]at hl;simp at hl
  obtain rfl:j=i+1:=by omega
  rw[EW (by omega)]at e;simp at e;rw[hg i (by omega),hf,e,hc];rfl
def VF(w:World)(T:ByteArray)(L:zF)(f:Nat->Bool)(e:Ending)(w':World):Prop:=
 ∃c g,e= .returned (sl c (T.size+1))/\zq w' c (T.size+1) g/\JM T.size g (JG T L f)/\Ch [] w w'
def Vm(T:ByteArray)(h:Nat):Prop:=∀(w:World) (F:Nat->Prop) (nb:Nat) (L:zF) (a:Nat) (f:Nat->Bool),jk w F h nb L->(∀k,F k->k<w.heap.size)->zq w a (T.size+1) f->
 Calls Tryz.prog 64 #[ptr nb,.string T,sl a (T.size+1)] w (VF w T L f)
theorem SF{T:ByteArray}(hT:T.size+1<=281474976710656){w:World}{nb c a:Nat}{Lc:List (Int×Int)}{kids:Value}{f:Nat->Bool}(hN:yS w nb 99 (.slice (some ⟨c,0,none⟩) 256 256) kids)(hc:zq w c 256 (zo Lc))(ha:zq w a (T.size+1) f):
 Calls Tryz.prog 64 #[ptr nb,.string T,sl a (T.size+1)] w (VF w T (zF.cls Lc) f):=by
 unfold sl ptr;obtain⟨k0,k1,k2,kf⟩:=hN.fa;have lN:=hN.lt;have la:=ha.lt;have lc:=hc.lt;go_enter Tryz.func64,Tryz.ntmps64;go_wp2_with (at_make;refine QA 142 Tryz.underlying142 _ _ (T.size+1) rfl rfl rfl rfl hT ?_;intro w2 hB g2 hz);have ha2:=ha.kp g2 (by simp);have hc2:=hc.kp g2 (by simp);have hN2:=hN.kp g2 (by simp);clear k0 k1 k2 kf;generalize hC:w.heap.size=C at *
 go_loopw [8] (fun v w5=>Ch [C] w2 w5/\∃i:Nat,v= .int .i64 i/\i<=T.size/\∃g,zq w5 C (T.size+1) g/\g 0=false/\∀(k:Nat) (hk:k<T.size),k<i->g (k+1)=(f k && zo Lc T[k].toNat)) (fun v _=>T.size - (match v with|.int _ q=>q.toNat|_=>0))
 case atStart=>exact⟨Ch.refl _ _,0,rfl,by omega,_,hB,rfl,by intro k _ hk;omega⟩
 case round=>
  obtain⟨g5,i,rfl,hi,g,h5,hg0,hg⟩:=hrel;have a5:=ha2.kp g5 (by simp;omega);have c5:=hc2.kp g5 (by simp;omega);have N5:=hN2.kp g5 (by simp;omega);obtain⟨k0,k1,k2,kf⟩:=N5.fa
  by_cases hlt:i<T.size
  ·obtain⟨ca,fa⟩:=a5.fa (i:=i) (by omega)
   have hb8:T[i].toNat<256:=T[i].toNat_lt;obtain⟨cc,fc⟩:=c5.fa hb8;obtain⟨cl,fl⟩:=h5.fa (i:=i+1) (by omega)
   have hlt':(i:Int)<T.size:=by omega
   have hi0:(0:Int)<=i:=by omega
   have hlt2:(i:Int)<(T.size:Int)+1:=by omega
   have hlt3:(i:Int)+1<(T.size:Int)+1:=by omega
   have hb8':(T[i].toNat:Int)<256:=by omega
   have HG:=zC hg;clear hg
   have hpos:∀v,v=(f i && zo Lc T[i].toNat)->Ch [C] w2 (wr.setCell ⟨C,i+1,none⟩ (.bool v)).drew/\∃i':Nat,Value.int .i64 ((i:Int)+1)= .int .i64 i'/\i'<=T.size/\∃g,zq (wr.setCell ⟨C,i+1,none⟩ (.bool v)).drew C (T.size+1) g/\g 0=false/\∀(k:Nat) (hk:k<T.size),k<i'->g (k+1)=(f k && zo Lc T[k].toNat):=by
    intro v hv;refine⟨g5.trans ((Ch.setCell _ (by simp) _).trans (Ch.drew _ _)),i+1,rfl,by omega,_,(h5.set (i+1) v).kp (Ch.drew [] _) (by simp),by simpa using hg0,fun k hk hki=> ?_⟩
    by_cases e:k=i
    ·subst e;simp[hv]
    ·rw[if_neg (by omega)];exact HG.o k hk (by omega)
   have HP:=zC hpos;clear hpos
   have hm:T.size - (i+1)<T.size - i:=by omega
   generalize f i=x at *;generalize zo Lc T[i].toNat=y at *;cases x
   ·go_wp2_with fail
    go_region;go_wp2_with fail;exact⟨HP.o _ rfl,hm⟩
   ·go_wp2_with fail
    go_region;go_wp2_with fail;exact⟨HP.o _ (by simp),hm⟩
  ·have hge:¬(i:Int)<T.size:=by omega
   obtain rfl:i=T.size:=by omega
   clear hlt;go_wp2_with fail;go_ret;exact⟨C,g,rfl,h5,aD hg0 (fun k hk=>hg k hk hk),((g2.mono (by simp)).trans g5).forget (by simp;omega)⟩
theorem UN{w:World}{e:TypeId}{size n:Nat}{v:Value}{xs:List Value}(h:w.ownsRow 0 e size v n xs):n<=9223372036854775807:=by
 have hm:maxLen<=9223372036854775807:=by decide
 rcases h.2 with⟨_,e2⟩|⟨g,cap,cur,_,_,_,h1,h2,_⟩ <;>omega
structure Wi(w:World)(F:Nat->Prop)(h nb:Nat)(K:Int)(v:Value)(ks:List Nat)(Ls:List zF):Prop where
 n:yS w nb K (.slice none 0 0) v
 f:∀g,v.ownBlock=some g->F g
 nf:F nb
 r:w.ownsRow 0 47 1 v ks.length (ks.map ptr)
 l:ks.length=Ls.length
 k:∀(i k:Nat) (L':zF),ks[i]? =some k->Ls[i]? =some L'->jk w F h k L'
theorem Wi.frame{w w':World}{F:Nat->Prop}{h nb:Nat}{K:Int}{v:Value}{ks:List Nat}{Ls:List zF}(q:Wi w F h nb K v ks Ls)(hF:∀k,F k->w'.heap[k]? =w.heap[k]?):Wi w' F h nb K v ks Ls:=
 ⟨(hF _ q.nf).trans q.n,q.f,q.nf,ju q.r (fun k hk=>hF k (q.f k hk)),q.l,fun i k L' a b=>(q.k i k L' a b).frame hF (fun _ h=>h)⟩
theorem TF{T:ByteArray}{h:Nat}(hE:Vm T h){w:World}{F:Nat->Prop}{nb a:Nat}{v:Value}{ks:List Nat}{Ls:List zF}{f:Nat->Bool}(q:Wi w F h nb 115 v ks Ls)(hF:∀k,F k->k<w.heap.size)(ha:zq w a (T.size+1) f):
 Calls Tryz.prog 64 #[ptr nb,.string T,sl a (T.size+1)] w (VF w T (zF.row Ls) f):=by
 obtain⟨a0,c0,rfl⟩:=zQ q.r;have hsm:=UN q.r;obtain⟨k0,k1,k2,kf⟩:=q.n.fa;have HE:=zC hE;clear hE;unfold ptr;go_enter Tryz.func64,Tryz.ntmps64;go_wp2_with fail;clear k0 k1 k2 kf
 go_loopw [2,9] (fun fv v w5=>Ch [] w w5/\∃(i c:Nat) (g:Nat->Bool),v= .int .i64 i/\i<=ks.length/\fv=sl c (T.size+1)/\zq w5 c (T.size+1) g/\JM T.size g (JG T (zF.row (Ls.take i)) f)) (fun _ v _=>ks.length - (match v with|.int _ q=>q.toNat|_=>0))
 case atStart=>exact⟨Ch.refl _ _,0,a,f,rfl,by omega,rfl,ha,CU⟩
 case round=>
  obtain⟨g5,i,c,g,rfl,hi,rfl,hc,ht⟩:=hrel;have q5:=q.frame (fun k hk=>g5.block k (hF k hk) (by simp));obtain⟨k0,k1,k2,kf⟩:=q5.n.fa
  by_cases hlt:i<ks.length
  ·have hlt':(i:Int)<ks.length:=by omega
   have hi0:(0:Int)<=i:=by omega
   obtain⟨gb,rfl,hcell⟩:=jO q5.r (by omega);have hk:=hcell i (ptr ks[i]) (by simp[hlt])
   have hL:i<Ls.length:=by have:=q.l;omega
   have hrep:=q5.k i ks[i] Ls[i] (by simp[hlt]) (by simp[hL]);unfold ptr at hk
   have hm:ks.length - (i+1)<ks.length - i:=by omega
   have HT:=zC ht;clear ht;unfold sl;go_wp2_with fail;refine(HE.o wr F ks[i] Ls[i] c g hrep (fun k hk=>by have:=hF k hk;have:=g5.size;omega) hc).mono ?_;rintro e w6 ⟨c6,g6,rfl,hc6,ht6,gr6⟩;unfold sl;go_wp2_with fail;exact⟨⟨g5.trans gr6,i+1,c6,g6,rfl,by omega,rfl,hc6,by rw[List.take_succ_eq_append_getElem hL,EV];exact DO HT.o ht6⟩,hm⟩
  ·have hge:¬(i:Int)<ks.length:=by omega
   obtain rfl:i=ks.length:=by omega
   clear hlt;unfold sl;go_wp2_with fail;go_ret;exact⟨c,g,rfl,hc,by rw[q.l,List.take_length]at ht;exact ht,g5⟩
theorem Cv{T:ByteArray}(hT:T.size+1<=281474976710656){h:Nat}(hE:Vm T h){w:World}{F:Nat->Prop}{nb a:Nat}{v:Value}{ks:List Nat}{Ls:List zF}{f:Nat->Bool}(q:Wi w F h nb 111 v ks Ls)(hF:∀k,F k->k<w.heap.size)(ha:zq w a (T.size+1) f):
 Calls Tryz.prog 64 #[ptr nb,.string T,sl a (T.size+1)] w (VF w T (zF.alt Ls) f):=by
 obtain⟨a0,c0,rfl⟩:=zQ q.r;have hsm:=UN q.r;obtain⟨k0,k1,k2,kf⟩:=q.n.fa;have HE:=zC hE;clear hE;unfold ptr;unfold sl;go_enter Tryz.func64,Tryz.ntmps64;go_wp2_with (at_make;refine QA 142 Tryz.underlying142 _ _ (T.size+1) rfl rfl rfl rfl hT ?_;intro w2 hB g2 hz);clear k0 k1 k2 kf
 go_loopw [10,11,12] (fun fv v _ w5=>Ch [] w w5/\∃(i c:Nat) (g:Nat->Bool),v= .int .i64 i/\i<=ks.length/\fv=sl c (T.size+1)/\zq w5 c (T.size+1) g/\JM T.size g (JG T (zF.alt (Ls.take i)) f)) (fun _ v _ _=>ks.length - (match v with|.int _ q=>q.toNat|_=>0))
 case atStart=>exact⟨g2,0,_,_,rfl,by omega,rfl,hB,Oy⟩
 case round=>
  obtain⟨g5,i,c,g,rfl,hi,rfl,hc,ht⟩:=hrel;have q5:=q.frame (fun k hk=>g5.block k (hF k hk) (by simp));obtain⟨k0,k1,k2,kf⟩:=q5.n.fa
  by_cases hlt:i<ks.length
  ·have hlt':(i:Int)<ks.length:=by omega
   have hi0:(0:Int)<=i:=by omega
   obtain⟨gb,rfl,hcell⟩:=jO q5.r (by omega);have hk:=hcell i (ptr ks[i]) (by simp[hlt])
   have hL:i<Ls.length:=by have:=q.l;omega
   have hrep:=q5.k i ks[i] Ls[i] (by simp[hlt]) (by simp[hL]);unfold ptr at hk
   have hm:ks.length - (i+1)<ks.length - i:=by omega
   have HT:=zC ht;clear ht;unfold sl;go_wp2_with fail;refine(HE.o wr F ks[i] Ls[i] a f hrep (fun k hk=>by have:=hF k hk;have:=g5.size;omega) (ha.kp g5 (by simp))).mono ?_;rintro e w6 ⟨c6,g6,rfl,hc6,ht6,gr6⟩;unfold sl;go_wp2_with fail;refine(Uf (hc.kp gr6 (by simp)) hc6 hT).mono ?_;rintro e w7 ⟨c7,_,rfl,hc7,gr7⟩;unfold sl;go_wp2_with fail;exact⟨⟨g5.trans (gr6.trans gr7),i+1,c7,_,rfl,by omega,rfl,hc7,by rw[List.take_succ_eq_append_getElem hL];exact Sk HT.o ht6⟩,hm⟩
  ·have hge:¬(i:Int)<ks.length:=by omega
   obtain rfl:i=ks.length:=by omega
   clear hlt;unfold sl;go_wp2_with fail;go_ret;exact⟨c,g,rfl,hc,by rw[q.l,List.take_length]at ht;exact ht,g5⟩
def VT(n:Nat)(g:Nat->Bool):Nat:=(List.range n).countP fun k=> !g k
theorem Nj{n:Nat}{g h:Nat->Bool}(hs:¬∀k,k<n->(g k || h k)=g k):VT n (fun k=>g k || h k)<VT n g:=by
 unfold VT
 have hex:∃k,k<n/\g k=false/\h k=true:=by
  apply Classical.byContradiction;intro hn;apply hs;intro k hk
  cases hg:g k with
  |true=>rfl
  |false=>
   cases hh:h k with
   |false=>rfl
   |true=>exact absurd ⟨k,hk,hg,hh⟩ hn
 obtain⟨k,hk,hg,hh⟩:=hex
 have hmem:k∈List.range n:=by simpa using hk
 obtain⟨l1,l2,e⟩:=List.append_of_mem hmem;rw[e];simp only[List.countP_append,List.countP_cons,hg,hh];have m1:l1.countP (fun k=> !(g k || h k))<=l1.countP (fun k=> !g k):=List.countP_mono_left (by intro x _ hx;simp at hx ⊢;exact hx.1);have m2:l2.countP (fun k=> !(g k || h k))<=l2.countP (fun k=> !g k):=List.countP_mono_left (by intro x _ hx;simp at hx ⊢;exact hx.1);simp only[Bool.false_or,Bool.not_true,Bool.not_false,Bool.false_eq_true,if_false,if_true];omega
def XD(n:Nat)(v:Value)(w:World):Nat:=match v with
 |.slice (some a) _ _=>VT n (fun k=>match w.cell? ⟨a.block,k,none⟩with|some (.bool true)=>true|_=>false)
 |_=>0
theorem Uj{w:World}{c n:Nat}{g:Nat->Bool}(h:zq w c n g):XD n (sl c n) w=VT n g:=by
 unfold XD sl VT;apply List.countP_congr;intro k hk;have hcell:=h.cl k (by simpa using hk);simp only[hcell]
 cases g k <;>simp
structure QY(w:World)(F:Nat->Prop)(h nb:Nat)(K:Int)(kb k:Nat)(A:zF):Prop where
 n:yS w nb K (.slice none 0 0) (.slice (some ⟨kb,0,none⟩) 1 1)
 nf:F nb
 f:F kb
 b:w.heap[kb]? =some (.cells #[ptr k] 47)
 r:jk w F h k A
theorem QY.frame{w w':World}{F:Nat->Prop}{h nb kb k:Nat}{K:Int}{A:zF}(q:QY w F h nb K kb k A)(hF:∀k,F k->w'.heap[k]? =w.heap[k]?):QY w' F h nb K kb k A:=
 ⟨(hF _ q.nf).trans q.n,q.nf,q.f,(hF _ q.f).trans q.b,q.r.frame hF (fun _ h=>h)⟩
theorem QY.cl{w:World}{F:Nat->Prop}{h nb kb k:Nat}{K:Int}{A:zF}(q:QY w F h nb K kb k A):w.cell? ⟨kb,0,none⟩=some (.pointer (some ⟨k,0,none⟩)):=by
 have:=q.b;simp[World.cell?,this,ptr]
theorem Ip{T:ByteArray}(hT:T.size+1<=281474976710656){h:Nat}(hE:Vm T h){w:World}{F:Nat->Prop}{nb a kb k:Nat}{A:zF}{f:Nat->Bool}(q:QY w F h nb 63 kb k A)(hF:∀k,F k->k<w.heap.size)(ha:zq w a (T.size+1) f):
 Calls Tryz.prog 64 #[ptr nb,.string T,sl a (T.size+1)] w (VF w T A.opt f):=by
 obtain⟨k0,k1,k2,kf⟩:=q.n.fa;have hk:=q.cl;have HE:=zC hE;clear hE;unfold ptr sl;go_enter Tryz.func64,Tryz.ntmps64;go_wp2_with fail;refine(HE.o w F k A a f q.r hF ha).mono ?_;rintro e w6 ⟨c6,g6,rfl,hc6,ht6,gr6⟩;unfold sl;go_wp2_with fail;refine(Uf (ha.kp gr6 (by simp)) hc6 hT).mono ?_;rintro e w7 ⟨c7,_,rfl,hc7,gr7⟩;unfold sl;go_wp2_with fail;go_ret;exact⟨c7,_,rfl,hc7,CN ht6,gr6.trans gr7⟩
theorem Cz{T:ByteArray}(hT:T.size+1<=281474976710656){h:Nat}(hE:Vm T h){w:World}{F:Nat->Prop}{nb a kb k:Nat}{A:zF}{f:Nat->Bool}(q:QY w F h nb 42 kb k A)(hF:∀k,F k->k<w.heap.size)(ha:zq w a (T.size+1) f):
 Calls Tryz.prog 64 #[ptr nb,.string T,sl a (T.size+1)] w (VF w T A.star f):=by
 obtain⟨k0,k1,k2,kf⟩:=q.n.fa;have HE:=zC hE;clear hE;unfold ptr sl;go_enter Tryz.func64,Tryz.ntmps64;go_wp2_with fail;clear k0 k1 k2 kf
 go_loopw [2,14,15] (fun fv _ _ w5=>Ch [] w w5/\∃(c:Nat) (g:Nat->Bool),fv=sl c (T.size+1)/\zq w5 c (T.size+1) g/\Vh T A f g) (fun fv _ _ w5=>XD (T.size+1) fv w5)
 case atStart=>exact⟨Ch.refl _ _,a,f,rfl,ha,BO⟩
 case round=>
  obtain⟨g5,c,g,rfl,hc,ht⟩:=hrel;have q5:=q.frame (fun k hk=>g5.block k (hF k hk) (by simp));obtain⟨k0,k1,k2,kf⟩:=q5.n.fa;have hk:=q5.cl;have HT:=zC ht;clear ht;have HL:=zC (Uj hc);unfold sl;go_wp2_with fail;refine(HE.o wr F k A c g q5.r (fun k hk=>by have:=hF k hk;have:=g5.size;omega) hc).mono ?_;rintro e w6 ⟨c6,g6,rfl,hc6,ht6,gr6⟩;unfold sl;go_wp2_with fail;have hc':=hc.kp gr6 (by simp);refine(Uf hc' hc6 hT).mono ?_;rintro e w7 ⟨c7,_,rfl,hc7,gr7⟩;unfold sl;go_wp2_with fail;have hc'':=hc'.kp gr7 (by simp);refine(AG hc7 hc'' hT).mono ?_;rintro e w8 ⟨rfl,gr8⟩;have HT6:=zC ht6;clear ht6
  by_cases hs:∀k,k<T.size+1->(g k || g6 k)=g k
  ·rw[decide_eq_true hs]
   have HS:=zC hs;clear hs;go_wp2_with fail;go_ret;exact⟨c,g,rfl,hc''.kp gr8 (by simp),Ak HT.o HT6.o HS.o,g5.trans (gr6.trans (gr7.trans gr8))⟩
  ·rw[decide_eq_false hs]
   have HS:=zC hs;clear hs;go_wp2_with fail;have hc8:=hc7.kp gr8 (by simp);refine⟨⟨g5.trans (gr6.trans (gr7.trans gr8)),c7,_,rfl,hc8,Nr HT.o HT6.o⟩,?_⟩;exact HL.o ▸ Uj hc8 ▸ Nj HS.o
theorem FW{T:ByteArray}(hT:T.size+1<=281474976710656){h:Nat}(hE:Vm T h){w:World}{F:Nat->Prop}{nb a kb k:Nat}{A:zF}{f:Nat->Bool}(q:QY w F h nb 43 kb k A)(hF:∀k,F k->k<w.heap.size)(ha:zq w a (T.size+1) f):
 Calls Tryz.prog 64 #[ptr nb,.string T,sl a (T.size+1)] w (VF w T A.plus f):=by
 obtain⟨k0,k1,k2,kf⟩:=q.n.fa;have HE:=zC hE;clear hE;unfold ptr sl;go_enter Tryz.func64,Tryz.ntmps64;have hk:=q.cl;go_wp2_with fail;refine(HE.o w F k A a f q.r hF ha).mono ?_;rintro e w1 ⟨c1,f1,rfl,hc1,ht1,gr1⟩;have HT1:=zC ht1;clear ht1;unfold sl;go_wp2_with fail;clear k0 k1 k2 kf hk
 go_loopw [2,14,15] (fun fv _ _ w5=>Ch [] w w5/\∃(c:Nat) (g:Nat->Bool),fv=sl c (T.size+1)/\zq w5 c (T.size+1) g/\Vh T A f1 g) (fun fv _ _ w5=>XD (T.size+1) fv w5)
 case atStart=>exact⟨gr1,c1,f1,rfl,hc1,BO⟩
 case round=>
  obtain⟨g5,c,g,rfl,hc,ht⟩:=hrel;have q5:=q.frame (fun k hk=>g5.block k (hF k hk) (by simp));obtain⟨k0,k1,k2,kf⟩:=q5.n.fa;have hk:=q5.cl;have HT:=zC ht;clear ht;have HL:=zC (Uj hc);unfold sl;go_wp2_with fail;refine(HE.o wr F k A c g q5.r (fun k hk=>by have:=hF k hk;have:=g5.size;omega) hc).mono ?_;rintro e w6 ⟨c6,g6,rfl,hc6,ht6,gr6⟩;unfold sl;go_wp2_with fail;have hc':=hc.kp gr6 (by simp);refine(Uf hc' hc6 hT).mono ?_;rintro e w7 ⟨c7,_,rfl,hc7,gr7⟩;unfold sl;go_wp2_with fail;have hc'':=hc'.kp gr7 (by simp);refine(AG hc7 hc'' hT).mono ?_;rintro e w8 ⟨rfl,gr8⟩;have HT6:=zC ht6;clear ht6
  by_cases hs:∀k,k<T.size+1->(g k || g6 k)=g k
  ·rw[decide_eq_true hs]
   have HS:=zC hs;clear hs;go_wp2_with fail;go_ret;exact⟨c,g,rfl,hc''.kp gr8 (by simp),TT HT1.o (Ak HT.o HT6.o HS.o),g5.trans (gr6.trans (gr7.trans gr8))⟩
  ·rw[decide_eq_false hs]
   have HS:=zC hs;clear hs;go_wp2_with fail;have hc8:=hc7.kp gr8 (by simp);refine⟨⟨g5.trans (gr6.trans (gr7.trans gr8)),c7,_,rfl,hc8,Nr HT.o HT6.o⟩,?_⟩;exact HL.o ▸ Uj hc8 ▸ Nj HS.o
theorem Dg{T:ByteArray}(hT:T.size+1<=281474976710656):∀h,Vm T h
 |0=>fun _ _ _ _ _ _ hr=>hr.elim
 |h+1=>by
  intro w F nb L a f hr hF ha;have ih:=Dg hT h;obtain⟨fn,hr⟩:=hr
  rcases hr with⟨c,Lc,kids,fc,h1,h2,rfl⟩|⟨kb,K,k,A,fk,h1,h2,h3,h4⟩|⟨v,ks,Ls,K,h1,h2,h3,h4,h5,h6⟩
  ·exact SF hT h1 h2 ha
  ·rcases h4 with⟨rfl,rfl⟩|⟨rfl,rfl⟩|⟨rfl,rfl⟩
   ·exact Cz hT ih ⟨h1,fn,fk,h2,h3⟩ hF ha
   ·exact FW hT ih ⟨h1,fn,fk,h2,h3⟩ hF ha
   ·exact Ip hT ih ⟨h1,fn,fk,h2,h3⟩ hF ha
  ·rcases h6 with⟨rfl,rfl⟩|⟨rfl,rfl⟩
   ·exact TF ih ⟨h1,h2,fn,h3,h4,h5⟩ hF ha
   ·exact Cv hT ih ⟨h1,h2,fn,h3,h4,h5⟩ hF ha
theorem Ga{T:ByteArray}(hT:T.size+1<=281474976710656){w:World}{F:Nat->Prop}{h nb:Nat}{L:zF}(hr:jk w F h nb L)(hF:∀k,F k->k<w.heap.size):
 Calls Tryz.prog 34 #[ptr nb,.string T] w fun e w'=>∃q:Bool,e= .returned (.bool q)/\(q=true↔L T.data.toList)/\Ch [] w w':=by
 unfold ptr;go_enter Tryz.func34,Tryz.ntmps34
 have hge:¬(T.size:Int)+1<=0:=by omega
 have hlt:(T.size:Int)<(T.size:Int)+1:=by omega
 have h00:(0:Int)<(T.size:Int)+1:=by omega
 go_wp2_with (at_make;refine QA 142 Tryz.underlying142 _ _ (T.size+1) rfl rfl rfl rfl hT ?_;intro w2 hB g2 hz;obtain⟨cl,fl⟩:=hB.fa (i:=0) (by omega));have hB3:=hB.set 0 true;have g3:Ch [w.heap.size] w2 (w2.setCell ⟨w.heap.size,0,none⟩ (.bool true)):=Ch.setCell _ (by simp) _
 have g23:=(g2.mono (Y:=[w.heap.size]) (by simp)).trans g3 |>.forget (by simp)
 generalize w2.setCell ⟨w.heap.size,0,none⟩ (.bool true)=w3 at *;refine(Dg hT h w3 F nb L w.heap.size _ (hr.frame (fun k hk=>g23.block k (hF k hk) (by simp)) (fun _ h=>h)) (fun k hk=>by have:=hF k hk;have:=g23.size;omega) hB3).mono ?_;rintro e w4 ⟨c,g,rfl,hc,ht,g4⟩;obtain⟨d0,d1⟩:=hc.fa (i:=T.size) (by omega);have HT:=zC ht;clear ht;unfold sl;go_wp2_with fail;go_ret;refine⟨g T.size,rfl,?_,g23.trans g4⟩;rw[HT.o T.size (Nat.le_refl _)]
 constructor
 ·rintro⟨i,hi,hf,hL⟩
  by_cases e:i=0
  ·subst e;rw[Dz]at hL;exact hL
  ·simp[e]at hf
 ·intro hL
  exact⟨0,by omega,by simp,by rw[Dz];exact hL⟩
theorem cJ{S:ByteArray}{a b:Int}(h:bq S=(a,b))(ha:a=0):b=0:=by
 subst ha;unfold bq at h
 split at h
 ·cases h
 ·unfold Yf at h
  split at h
  ·cases h
  ·split at h
   ·cases h;rfl
   ·rename_i hn
    simp only[Prod.mk.injEq]at h;exact absurd h.1 hn
def ct(w:World)(E T:ByteArray)(e:Ending)(w':World):Prop:=
 Below w.heap.size w w'/\∃q:Bool,e= .returned (.tuple #[.bool q,.int .i64 (bq E).1,.int .i64 (bq E).2])/\
  (bq E≠(0,0)->q=false)/\(bq E=(0,0)->∃L s,br E= .ok (L,s)/\(q=true↔L T.data.toList))
theorem dG{w:World}(E T:ByteArray)(hT:T.size+1<=281474976710656):Calls Tryz.prog 18 #[.string E,.string T] w (ct w E T):=by
 go_enter Tryz.func18,Tryz.ntmps18;go_wp2_with fail;refine(dm E).mono ?_;rintro e w1 ⟨B1,⟨hne,rfl⟩|⟨he,nb,h,F,L,s,rfl,hr,hF,hs⟩⟩
 ·generalize hC:bq E=C at *
  obtain⟨C1,C2⟩:=C;have HC:=zC hC
  have hc:¬C1=0:=by
   intro e;apply hne;rw[e,cJ hC e]
  have q:(C1 !=0)=true:=by simp[hc]
  clear hC;simp only;go_wp2_with fail;go_ret3;exact⟨B1,false,by rw[HC.o];rfl,fun _=>rfl,fun e=>absurd (HC.o.symm.trans e) hne⟩
 ·have HC:=zC he
  have HS:=zC hs;clear he hs;go_wp2_with fail;refine(Ga hT hr (fun k hk=>(hF k hk).2)).mono ?_;rintro e w2 ⟨q,rfl,hq,g2⟩;go_wp2_with fail;go_ret3;exact⟨B1.trans (g2.below B1.size (by simp)),q,by rw[HC.o];rfl,fun e=>absurd HC.o e,fun _=>⟨L,s,HS.o,hq⟩⟩
end Go.Proofs.YteobgfbgglfkbaaGreat
