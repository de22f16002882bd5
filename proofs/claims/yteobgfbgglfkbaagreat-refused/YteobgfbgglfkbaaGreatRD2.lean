import Derived.Test.YteobgfbgglfkbaaGreatRA2
import Derived.Test.YteobgfbgglfkbaaGreatRA3
import Derived.Test.YteobgfbgglfkbaaGreatRA6
namespace Go.Proofs.YteobgfbgglfkbaaGreat
open Go.RowKit
attribute [local go_sem ↓] Go.wp_at_zero Go.wp_at_succ
def sl(c n:Nat):Value:= .slice (some ⟨c,0,none⟩) n n
theorem zAL.facts{w:World}{c n:Nat}{f:Nat→Bool}(h:zAL w c n f){i:Nat}(hi:i<n):w.cell? ⟨c,i,none⟩=some (.bool (f i))∧(∀o,w.frozen? ⟨c,o,none⟩=false):=⟨h.cell i hi,h.frozen⟩
theorem Ch.forget{X:List Nat}{w w':World}(g:Ch X w w')(h:∀x,x∈X→w.heap.size≤x):Ch [] w w':=
 ⟨g.os,g.tape,g.output,g.size,fun k hk _=>g.block k hk (fun hx=>by have:=h k hx;omega)⟩
set_option maxHeartbeats 800000 in
theorem zLE{w:World}{a b n:Nat}{f g:Nat→Bool}(ha:zAL w a n f)(hb:zAL w b n g)(hn:n≤281474976710656):
  Calls Tryz.prog 100 #[sl a n,sl b n] w fun e w'=>∃c,w.heap.size≤c∧e= .returned (sl c n)∧zAL w' c n (fun k=>f k || g k)∧Ch [] w w':=by
 unfold sl;go_enter Tryz.func100,Tryz.ntmps100;go_wp2_with (at_make;refine zA9 142 Tryz.underlying142 _ _ n rfl rfl rfl rfl hn ?_;intro w2 hB g2 hz);have ha2:=ha.keep g2 (by simp);have hb2:=hb.keep g2 (by simp);have la:=ha.lt;have lb:=hb.lt;generalize hC:w.heap.size=C at *
 go_loopw [6] (fun v w5=>Ch [C] w2 w5∧∃i:Nat,v= .int .i64 i∧i≤n∧zAL w5 C n (fun k=>if k<i then f k || g k else false)) (fun v _=>n - (match v with | .int _ q=>q.toNat | _=>0))
 case atStart=>exact ⟨Ch.refl _ _,0,rfl,by omega,by simpa using hB⟩
 case round=>
  obtain ⟨g5,i,rfl,hi,h5⟩:=hrel;have a5:=ha2.keep g5 (by simp;omega);have b5:=hb2.keep g5 (by simp;omega)
  by_cases hlt:i<n
  ·obtain ⟨ca,fa⟩:=a5.facts hlt
   obtain ⟨cb,fb⟩:=b5.facts hlt;obtain ⟨cc,fc⟩:=h5.facts hlt
   have hlt':(i:Int)<n:=by omega
   have hi0:(0:Int)≤i:=by omega
   have hpos:zAL (wr.setCell ⟨C,i,none⟩ (.bool (f i || g i))) C n (fun k=>if k<i+1 then f k || g k else false):=(h5.set i (f i || g i)).congr (fun k _=>by
    by_cases e:k=i
    ·subst e;simp
    ·rw [if_neg e]
     by_cases e2:k<i
     ·rw [if_pos e2,if_pos (by omega)]
     ·rw [if_neg e2,if_neg (by omega)])
   have gs:Ch [C] wr (wr.setCell ⟨C,i,none⟩ (.bool (f i || g i))):=Ch.setCell _ (by simp) _
   have hm:n - (i+1)<n - i:=by omega
   generalize f i=x at *;generalize g i=y at *
   cases x <;>simp only [Bool.true_or,Bool.false_or] at hpos gs
   ·go_wp2_with fail
    exact ⟨⟨g5.trans gs,i+1,rfl,by omega,hpos⟩,hm⟩
   ·go_wp2_with fail
    exact ⟨⟨g5.trans gs,i+1,rfl,by omega,hpos⟩,hm⟩
  ·have hge:¬(i:Int)<n:=by omega
   obtain rfl:i=n:=by omega
   clear hlt;go_wp2_with fail;go_ret;exact ⟨C,by omega,rfl,h5.congr (fun k hk=>by rw [if_pos hk]),((g2.mono (by simp)).trans g5).forget (by simp;omega)⟩
set_option maxHeartbeats 800000 in
theorem zLp{w:World}{a b n:Nat}{f g:Nat→Bool}(ha:zAL w a n f)(hb:zAL w b n g)(hn:n≤281474976710656):
  Calls Tryz.prog 101 #[sl a n,sl b n] w fun e w'=>e= .returned (.bool (decide (∀k,k<n→f k=g k)))∧Ch [] w w':=by
 unfold sl;go_enter Tryz.func101,Tryz.ntmps101;go_wp2_with fail
 go_loopw [5] (fun v w5=>Ch [] w w5∧∃i:Nat,v= .int .i64 i∧i≤n∧∀k,k<i→f k=g k) (fun v _=>n - (match v with | .int _ q=>q.toNat | _=>0))
 case atStart=>exact ⟨Ch.refl _ _,0,rfl,by omega,by intro k hk;omega⟩
 case round=>
  obtain ⟨g5,i,rfl,hi,h5⟩:=hrel;have a5:=ha.keep g5 (by simp);have b5:=hb.keep g5 (by simp)
  by_cases hlt:i<n
  ·obtain ⟨ca,fa⟩:=a5.facts hlt
   obtain ⟨cb,fb⟩:=b5.facts hlt
   have hlt':(i:Int)<n:=by omega
   have hi0:(0:Int)≤i:=by omega
   have hm:n - (i+1)<n - i:=by omega
   by_cases he:f i=g i
   ·have q:(!(f i==g i))=false:=by simp [he]
    have HE:=hide he;clear he;go_wp2_with fail;go_quiet (fail);go_wp2_with fail
    exact ⟨⟨g5.trans (Ch.drewN _ _ _),i+1,rfl,by omega,fun k hk=>by
     by_cases e:k=i
     ·rw [e];exact HE.out
     ·exact h5 k (by omega)⟩,hm⟩
   ·have q:(!(f i==g i))=true:=by simpa using he
    have HE:=hide he;clear he;go_wp2_with fail;go_quiet (fail);go_wp2_with fail;go_ret;exact ⟨by rw [decide_eq_false (fun e=>HE.out (e i hlt))];rfl,g5.trans (Ch.drewN _ _ _)⟩
  ·have hge:¬(i:Int)<n:=by omega
   obtain rfl:i=n:=by omega
   clear hlt;go_wp2_with fail;go_ret;exact ⟨by rw [decide_eq_true h5];rfl,g5⟩
end Go.Proofs.YteobgfbgglfkbaaGreat
namespace Go.Proofs.YteobgfbgglfkbaaGreat
open Go.RowKit
def seg(T:ByteArray)(i j:Nat):List UInt8:=(T.data.toList.take j).drop i
theorem zFy(T:ByteArray)(i:Nat):seg T i i=[]:=by
 unfold seg;apply List.eq_nil_of_length_eq_zero;simp
theorem zEm{T:ByteArray}{i j:Nat}(hij:i≤j)(hj:j≤T.size):(seg T i j).length=j - i:=by
 unfold seg
 have:T.data.toList.length=T.size:=by simp
 simp;omega
theorem zIk{T:ByteArray}{i m j:Nat}(h1:i≤m)(h2:m≤j)(hj:j≤T.size):seg T i j=seg T i m++seg T m j:=by
 unfold seg
 have hl:T.data.toList.length=T.size:=by simp
 apply List.ext_getElem?;intro k;rw [List.getElem?_append];simp only [List.getElem?_drop,List.getElem?_take,List.length_drop,List.length_take,hl]
 by_cases hk:k<min m T.size - i
 ·rw [if_pos hk,if_pos (by omega),if_pos (by omega)]
 ·rw [if_neg hk]
  have e:m+(k - (min m T.size - i))=i+k:=by omega
  rw [e]
theorem zI3{T:ByteArray}{i j:Nat}(hij:i≤j)(hj:j≤T.size){x y:List UInt8}(h:seg T i j=x++y):∃m,i≤m∧m≤j∧x=seg T i m∧y=seg T m j:=by
 have hl:=zEm hij hj;rw [h] at hl;simp at hl;refine ⟨i+x.length,by omega,by omega,?_⟩;have:=zIk (T:=T) (i:=i) (m:=i+x.length) (j:=j) (by omega) (by omega) hj;rw [h] at this
 have hx:x.length=(seg T i (i+x.length)).length:=by rw [zEm (by omega) (by omega)];omega
 exact List.append_inj this hx
theorem zKm{T:ByteArray}{i:Nat}(hi:i<T.size):seg T i (i+1)=[T[i]]:=by
 have hl:=zEm (T:=T) (i:=i) (j:=i+1) (by omega) (by omega);apply List.ext_getElem?;intro k
 cases k with
 |zero=>
  unfold seg;simp [List.getElem?_drop];exact Array.getElem?_eq_getElem hi
 |succ k=>
  rw [List.getElem?_eq_none (by omega)];simp
theorem zKP(T:ByteArray):seg T 0 T.size=T.data.toList:=by
 unfold seg
 have hl:T.data.toList.length=T.size:=by simp
 rw [← hl,List.take_length];rfl
def zDL(T:ByteArray)(L:Lang)(f:Nat→Bool)(j:Nat):Prop:=∃i,i≤j∧f i=true∧L (seg T i j)
def zDV(n:Nat)(g:Nat→Bool)(P:Nat→Prop):Prop:=∀j,j≤n→(g j=true↔P j)
theorem ends_eps{T:ByteArray}{f:Nat→Bool}:zDV T.size f (zDL T Lang.eps f):=by
 intro j hj
 constructor
 ·intro h;exact ⟨j,Nat.le_refl _,h,zFy T j⟩
 ·rintro ⟨i,hi,hf,he⟩
  have:=zEm hi hj;rw [show seg T i j=[] from he] at this;simp at this
  rwa [show j=i from by omega]
theorem zL3{T:ByteArray}{A B:Lang}{f g h:Nat→Bool}(h1:zDV T.size g (zDL T A f))(h2:zDV T.size h (zDL T B g)):zDV T.size h (zDL T (Lang.seq A B) f):=by
 intro j hj;rw [h2 j hj]
 constructor
 ·rintro ⟨m,hm,hg,hB⟩
  obtain ⟨i,hi,hf,hA⟩:=(h1 m (by omega)).1 hg;exact ⟨i,by omega,hf,_,_,zIk hi hm hj,hA,hB⟩
 ·rintro ⟨i,hi,hf,x,y,e,hA,hB⟩
  obtain ⟨m,hm1,hm2,rfl,rfl⟩:=zI3 hi hj e;exact ⟨m,hm2,(h1 m (by omega)).2 ⟨i,hm1,hf,hA⟩,hB⟩
theorem zJM(A B C:Lang):Lang.seq (Lang.seq A B) C=Lang.seq A (Lang.seq B C):=by
 funext t
 apply propext
 constructor
 ·rintro ⟨_,z,rfl,⟨x,y,rfl,hx,hy⟩,hz⟩
  exact ⟨x,y++z,by simp,hx,y,z,rfl,hy,hz⟩
 ·rintro ⟨x,_,rfl,hx,y,z,rfl,hy,hz⟩
  exact ⟨x++y,z,by simp,⟨x,y,rfl,hx,hy⟩,hz⟩
theorem zNt(A:Lang):Lang.seq A Lang.eps=A:=by
 funext t
 apply propext
 constructor
 ·rintro ⟨x,y,rfl,hx,hy⟩;rw [show y=[] from hy];simpa using hx
 ·intro h;exact ⟨t,[],by simp,h,rfl⟩
theorem zOO(A:Lang):Lang.seq Lang.eps A=A:=by
 funext t
 apply propext
 constructor
 ·rintro ⟨x,y,rfl,hx,hy⟩;rw [show x=[] from hx];simpa using hy
 ·intro h;exact ⟨[],t,rfl,rfl,h⟩
theorem zLO(R:List Lang)(A:Lang):Lang.row (R++[A])=Lang.seq (Lang.row R) A:=by
 induction R with
 |nil=>simp only [List.nil_append,Lang.row];rw [zNt,zOO]
 |cons B R ih=>simp only [List.cons_append,Lang.row];rw [ih,zJM]
theorem zNv{T:ByteArray}{f:Nat→Bool}:zDV T.size (fun _=>false) (zDL T (Lang.alt []) f):=by
 intro j _
 constructor
 ·intro h;cases h
 ·rintro ⟨i,_,_,A,hA,_⟩;simp at hA
theorem ends_or{T:ByteArray}{R:List Lang}{A:Lang}{f g h:Nat→Bool}(h1:zDV T.size g (zDL T (Lang.alt R) f))(h2:zDV T.size h (zDL T A f)):zDV T.size (fun k=>g k || h k) (zDL T (Lang.alt (R++[A])) f):=by
 intro j hj;rw [Bool.or_eq_true,h1 j hj,h2 j hj]
 constructor
 ·rintro (⟨i,hi,hf,B,hB,hb⟩ | ⟨i,hi,hf,ha⟩)
  ·exact ⟨i,hi,hf,B,by simp [hB],hb⟩
  ·exact ⟨i,hi,hf,A,by simp,ha⟩
 ·rintro ⟨i,hi,hf,B,hB,hb⟩
  simp at hB
  rcases hB with hB | rfl
  ·exact Or.inl ⟨i,hi,hf,B,hB,hb⟩
  ·exact Or.inr ⟨i,hi,hf,hb⟩
theorem ends_opt{T:ByteArray}{A:Lang}{f h:Nat→Bool}(h2:zDV T.size h (zDL T A f)):zDV T.size (fun k=>f k || h k) (zDL T A.opt f):=by
 intro j hj;rw [Bool.or_eq_true,h2 j hj]
 constructor
 ·rintro (hf | ⟨i,hi,hf,ha⟩)
  ·exact ⟨j,Nat.le_refl _,hf,Or.inl (zFy T j)⟩
  ·exact ⟨i,hi,hf,Or.inr ha⟩
 ·rintro ⟨i,hi,hf,he | ha⟩
  ·have:=zEm hi hj
   rw [he] at this;simp at this;exact Or.inl (by rwa [show j=i from by omega])
  ·exact Or.inr ⟨i,hi,hf,ha⟩
def Mid(T:ByteArray)(A:Lang)(f g:Nat→Bool):Prop:=∀j,j≤T.size→(f j=true→g j=true)∧(g j=true→zDL T A.star f j)
theorem pow_snoc(A:Lang)(n:Nat):Lang.pow A (n+1)=Lang.seq (Lang.pow A n) A:=by
 induction n with
 |zero=>simp only [Lang.pow];rw [zNt,zOO]
 |succ n ih=>rw [Lang.pow,ih,← zJM,← Lang.pow,ih]
theorem zJj{T:ByteArray}{A:Lang}{f:Nat→Bool}:Mid T A f f:=fun j _=>⟨id,fun h=>⟨j,Nat.le_refl _,h,0,zFy T j⟩⟩
theorem zLZ{T:ByteArray}{A:Lang}{f g h:Nat→Bool}(m:Mid T A f g)(h2:zDV T.size h (zDL T A g)):Mid T A f (fun k=>g k || h k):=by
 intro j hj;simp only [Bool.or_eq_true];refine ⟨fun hf=>Or.inl ((m j hj).1 hf),?_⟩;rintro (hg | hh)
 ·exact (m j hj).2 hg
 ·obtain ⟨i,hi,hg,ha⟩:=(h2 j hj).1 hh
  obtain ⟨i0,hi0,hf,n,hn⟩:=(m i (by omega)).2 hg;exact ⟨i0,by omega,hf,n+1,by rw [pow_snoc];exact ⟨_,_,zIk hi0 hi hj,hn,ha⟩⟩
theorem zOs{T:ByteArray}{A:Lang}{f g h:Nat→Bool}(m:Mid T A f g)(h2:zDV T.size h (zDL T A g))(hs:∀k,k<T.size+1→(g k || h k)=g k):zDV T.size g (zDL T A.star f):=by
 intro j hj;refine ⟨(m j hj).2,?_⟩;rintro ⟨i,hi,hf,n,hn⟩
 have key:∀n i j,i≤j→j≤T.size→g i=true→Lang.pow A n (seg T i j)→g j=true:=by
  intro n
  induction n with
  |zero=>
   intro i j hi hj hg he;have:=zEm hi hj;rw [show seg T i j=[] from he] at this;simp at this
   rwa [show j=i from by omega]
  |succ n ih=>
   intro i j hi hj hg he;obtain ⟨x,y,e,hx,hy⟩:=he;obtain ⟨q,q1,q2,rfl,rfl⟩:=zI3 hi hj e;have hq:h q=true:=(h2 q (by omega)).2 ⟨i,q1,hg,hx⟩
   have hgq:g q=true:=by rw [← hs q (by omega),hq,Bool.or_true]
   exact ih q j q2 hj hgq hy
 exact key n i j hi hj ((m i (by omega)).1 hf) hn
theorem zNN{T:ByteArray}{A:Lang}{f g h:Nat→Bool}(h1:zDV T.size g (zDL T A f))(h2:zDV T.size h (zDL T A.star g)):zDV T.size h (zDL T A.plus f):=by
 have e:A.plus=Lang.seq A A.star:=by
  funext t
  apply propext
  constructor
  ·rintro ⟨n,x,y,e,hx,hy⟩;exact ⟨x,y,e,hx,n,hy⟩
  ·rintro ⟨x,y,e,hx,n,hy⟩;exact ⟨n,x,y,e,hx,hy⟩
 rw [e];exact zL3 h1 h2
theorem ends_cls{T:ByteArray}{Lc:List (Int×Int)}{f:Nat→Bool}{g:Nat→Bool}(hg0:g 0=false)(hg:∀(i:Nat) (hi:i<T.size),g (i+1)=(f i && zAg Lc T[i].toNat)):zDV T.size g (zDL T (Lang.cls Lc) f):=by
 intro j hj
 constructor
 ·intro h
  cases j with
  |zero=>rw [hg0] at h;cases h
  |succ i=>
   rw [hg i (by omega),Bool.and_eq_true] at h;exact ⟨i,by omega,h.1,_,zKm (by omega),h.2⟩
 ·rintro ⟨i,hi,hf,c,e,hc⟩
  have hl:=zEm hi hj;rw [e] at hl;simp at hl
  obtain rfl:j=i+1:=by omega
  rw [zKm (by omega)] at e;simp at e;rw [hg i (by omega),hf,e,hc];rfl
end Go.Proofs.YteobgfbgglfkbaaGreat
namespace Go.Proofs.YteobgfbgglfkbaaGreat
open Go.RowKit
attribute [local go_sem ↓] Go.wp_at_zero Go.wp_at_succ
def zDo(w:World)(T:ByteArray)(L:Lang)(f:Nat→Bool)(e:Ending)(w':World):Prop:=
 ∃c g,e= .returned (sl c (T.size+1))∧zAL w' c (T.size+1) g∧zDV T.size g (zDL T L f)∧Ch [] w w'
def zMN(T:ByteArray)(h:Nat):Prop:=∀(w:World) (F:Nat→Prop) (nb:Nat) (L:Lang) (a:Nat) (f:Nat→Bool),zBA w F h nb L→(∀k,F k→k<w.heap.size)→zAL w a (T.size+1) f→
 Calls Tryz.prog 64 #[ptr nb,.string T,sl a (T.size+1)] w (zDo w T L f)
set_option maxRecDepth 100000 in
set_option maxHeartbeats 1600000 in
theorem ends_c{T:ByteArray}(hT:T.size+1≤281474976710656){w:World}{nb c a:Nat}{Lc:List (Int×Int)}{kids:Value}{f:Nat→Bool}(hN:zAk w nb 99 (.slice (some ⟨c,0,none⟩) 256 256) kids)(hc:zAL w c 256 (zAg Lc))(ha:zAL w a (T.size+1) f):
  Calls Tryz.prog 64 #[ptr nb,.string T,sl a (T.size+1)] w (zDo w T (Lang.cls Lc) f):=by
 unfold sl ptr;obtain ⟨k0,k1,k2,kf⟩:=hN.facts;have lN:=hN.lt;have la:=ha.lt;have lc:=hc.lt;go_enter Tryz.func64,Tryz.ntmps64;go_wp2_with (at_make;refine zA9 142 Tryz.underlying142 _ _ (T.size+1) rfl rfl rfl rfl hT ?_;intro w2 hB g2 hz);have ha2:=ha.keep g2 (by simp);have hc2:=hc.keep g2 (by simp);have hN2:=hN.keep g2 (by simp);clear k0 k1 k2 kf;generalize hC:w.heap.size=C at *
 go_loopw [8] (fun v w5=>Ch [C] w2 w5∧∃i:Nat,v= .int .i64 i∧i≤T.size∧∃g,zAL w5 C (T.size+1) g∧g 0=false∧∀(k:Nat) (hk:k<T.size),k<i→g (k+1)=(f k && zAg Lc T[k].toNat)) (fun v _=>T.size - (match v with | .int _ q=>q.toNat | _=>0))
 case atStart=>exact ⟨Ch.refl _ _,0,rfl,by omega,_,hB,rfl,by intro k _ hk;omega⟩
 case round=>
  obtain ⟨g5,i,rfl,hi,g,h5,hg0,hg⟩:=hrel;have a5:=ha2.keep g5 (by simp;omega);have c5:=hc2.keep g5 (by simp;omega);have N5:=hN2.keep g5 (by simp;omega);obtain ⟨k0,k1,k2,kf⟩:=N5.facts
  by_cases hlt:i<T.size
  ·obtain ⟨ca,fa⟩:=a5.facts (i:=i) (by omega)
   have hb8:T[i].toNat<256:=T[i].toNat_lt;obtain ⟨cc,fc⟩:=c5.facts hb8;obtain ⟨cl,fl⟩:=h5.facts (i:=i+1) (by omega)
   have hlt':(i:Int)<T.size:=by omega
   have hi0:(0:Int)≤i:=by omega
   have hlt2:(i:Int)<(T.size:Int)+1:=by omega
   have hlt3:(i:Int)+1<(T.size:Int)+1:=by omega
   have hb8':(T[i].toNat:Int)<256:=by omega
   have HG:=hide hg;clear hg
   have hpos:∀v,v=(f i && zAg Lc T[i].toNat)→Ch [C] w2 (wr.setCell ⟨C,i+1,none⟩ (.bool v)).drew∧∃i':Nat,Value.int .i64 ((i:Int)+1)= .int .i64 i'∧i'≤T.size∧∃g,zAL (wr.setCell ⟨C,i+1,none⟩ (.bool v)).drew C (T.size+1) g∧g 0=false∧∀(k:Nat) (hk:k<T.size),k<i'→g (k+1)=(f k && zAg Lc T[k].toNat):=by
    intro v hv;refine ⟨g5.trans ((Ch.setCell _ (by simp) _).trans (Ch.drew _ _)),i+1,rfl,by omega,_,(h5.set (i+1) v).keep (Ch.drew [] _) (by simp),by simpa using hg0,fun k hk hki=> ?_⟩
    by_cases e:k=i
    ·subst e;simp [hv]
    ·rw [if_neg (by omega)];exact HG.out k hk (by omega)
   have HP:=hide hpos;clear hpos
   have hm:T.size - (i+1)<T.size - i:=by omega
   generalize f i=x at *;generalize zAg Lc T[i].toNat=y at *;cases x
   ·go_wp2_with fail
    go_region;go_wp2_with fail;exact ⟨HP.out _ rfl,hm⟩
   ·go_wp2_with fail
    go_region;go_wp2_with fail;exact ⟨HP.out _ (by simp),hm⟩
  ·have hge:¬(i:Int)<T.size:=by omega
   obtain rfl:i=T.size:=by omega
   clear hlt;go_wp2_with fail;go_ret;exact ⟨C,g,rfl,h5,ends_cls hg0 (fun k hk=>hg k hk hk),((g2.mono (by simp)).trans g5).forget (by simp;omega)⟩
end Go.Proofs.YteobgfbgglfkbaaGreat
namespace Go.Proofs.YteobgfbgglfkbaaGreat
open Go.RowKit
attribute [local go_sem ↓] Go.wp_at_zero Go.wp_at_succ
theorem zCu{w:World}{e:TypeId}{size n:Nat}{v:Value}{xs:List Value}(h:w.ownsRow 0 e size v n xs):n≤9223372036854775807:=by
 have hm:maxLen≤9223372036854775807:=by decide
 rcases h.2 with ⟨_,e2⟩ | ⟨g,cap,cur,_,_,_,h1,h2,_⟩ <;>omega
structure zJg(w:World)(F:Nat→Prop)(h nb:Nat)(K:Int)(v:Value)(ks:List Nat)(Ls:List Lang):Prop where
 n:zAk w nb K (.slice none 0 0) v
 f:∀g,v.ownBlock=some g→F g
 nf:F nb
 r:w.ownsRow 0 47 1 v ks.length (ks.map ptr)
 l:ks.length=Ls.length
 k:∀(i k:Nat) (L':Lang),ks[i]? =some k→Ls[i]? =some L'→zBA w F h k L'
theorem zJg.frame{w w':World}{F:Nat→Prop}{h nb:Nat}{K:Int}{v:Value}{ks:List Nat}{Ls:List Lang}(q:zJg w F h nb K v ks Ls)(hF:∀k,F k→w'.heap[k]? =w.heap[k]?):zJg w' F h nb K v ks Ls:=
 ⟨(hF _ q.nf).trans q.n,q.f,q.nf,zAY q.r (fun k hk=>hF k (q.f k hk)),q.l,fun i k L' a b=>(q.k i k L' a b).frame hF (fun _ h=>h)⟩
set_option maxRecDepth 100000 in
set_option maxHeartbeats 1600000 in
theorem ends_row{T:ByteArray}{h:Nat}(hE:zMN T h){w:World}{F:Nat→Prop}{nb a:Nat}{v:Value}{ks:List Nat}{Ls:List Lang}{f:Nat→Bool}(q:zJg w F h nb 115 v ks Ls)(hF:∀k,F k→k<w.heap.size)(ha:zAL w a (T.size+1) f):
  Calls Tryz.prog 64 #[ptr nb,.string T,sl a (T.size+1)] w (zDo w T (Lang.row Ls) f):=by
 obtain ⟨a0,c0,rfl⟩:=zAD q.r;have hsm:=zCu q.r;obtain ⟨k0,k1,k2,kf⟩:=q.n.facts;have HE:=hide hE;clear hE;unfold ptr;go_enter Tryz.func64,Tryz.ntmps64;go_wp2_with fail;clear k0 k1 k2 kf
 go_loopw [2,9] (fun fv v w5=>Ch [] w w5∧∃(i c:Nat) (g:Nat→Bool),v= .int .i64 i∧i≤ks.length∧fv=sl c (T.size+1)∧zAL w5 c (T.size+1) g∧zDV T.size g (zDL T (Lang.row (Ls.take i)) f)) (fun _ v _=>ks.length - (match v with | .int _ q=>q.toNat | _=>0))
 case atStart=>exact ⟨Ch.refl _ _,0,a,f,rfl,by omega,rfl,ha,ends_eps⟩
 case round=>
  obtain ⟨g5,i,c,g,rfl,hi,rfl,hc,ht⟩:=hrel;have q5:=q.frame (fun k hk=>g5.block k (hF k hk) (by simp));obtain ⟨k0,k1,k2,kf⟩:=q5.n.facts
  by_cases hlt:i<ks.length
  ·have hlt':(i:Int)<ks.length:=by omega
   have hi0:(0:Int)≤i:=by omega
   obtain ⟨gb,rfl,hcell⟩:=zAb q5.r (by omega);have hk:=hcell i (ptr ks[i]) (by simp [hlt])
   have hL:i<Ls.length:=by have:=q.l;omega
   have hrep:=q5.k i ks[i] Ls[i] (by simp [hlt]) (by simp [hL]);unfold ptr at hk
   have hm:ks.length - (i+1)<ks.length - i:=by omega
   have HT:=hide ht;clear ht;unfold sl;go_wp2_with fail;refine (HE.out wr F ks[i] Ls[i] c g hrep (fun k hk=>by have:=hF k hk;have:=g5.size;omega) hc).mono ?_;rintro e w6 ⟨c6,g6,rfl,hc6,ht6,gr6⟩;unfold sl;go_wp2_with fail;exact ⟨⟨g5.trans gr6,i+1,c6,g6,rfl,by omega,rfl,hc6,by rw [List.take_succ_eq_append_getElem hL,zLO];exact zL3 HT.out ht6⟩,hm⟩
  ·have hge:¬(i:Int)<ks.length:=by omega
   obtain rfl:i=ks.length:=by omega
   clear hlt;unfold sl;go_wp2_with fail;go_ret;exact ⟨c,g,rfl,hc,by rw [q.l,List.take_length] at ht;exact ht,g5⟩
end Go.Proofs.YteobgfbgglfkbaaGreat
namespace Go.Proofs.YteobgfbgglfkbaaGreat
open Go.RowKit
attribute [local go_sem ↓] Go.wp_at_zero Go.wp_at_succ
set_option maxRecDepth 100000 in
set_option maxHeartbeats 1600000 in
theorem ends_alt{T:ByteArray}(hT:T.size+1≤281474976710656){h:Nat}(hE:zMN T h){w:World}{F:Nat→Prop}{nb a:Nat}{v:Value}{ks:List Nat}{Ls:List Lang}{f:Nat→Bool}(q:zJg w F h nb 111 v ks Ls)(hF:∀k,F k→k<w.heap.size)(ha:zAL w a (T.size+1) f):
  Calls Tryz.prog 64 #[ptr nb,.string T,sl a (T.size+1)] w (zDo w T (Lang.alt Ls) f):=by
 obtain ⟨a0,c0,rfl⟩:=zAD q.r;have hsm:=zCu q.r;obtain ⟨k0,k1,k2,kf⟩:=q.n.facts;have HE:=hide hE;clear hE;unfold ptr;unfold sl;go_enter Tryz.func64,Tryz.ntmps64;go_wp2_with (at_make;refine zA9 142 Tryz.underlying142 _ _ (T.size+1) rfl rfl rfl rfl hT ?_;intro w2 hB g2 hz);clear k0 k1 k2 kf
 go_loopw [10,11,12] (fun fv v _ w5=>Ch [] w w5∧∃(i c:Nat) (g:Nat→Bool),v= .int .i64 i∧i≤ks.length∧fv=sl c (T.size+1)∧zAL w5 c (T.size+1) g∧zDV T.size g (zDL T (Lang.alt (Ls.take i)) f)) (fun _ v _ _=>ks.length - (match v with | .int _ q=>q.toNat | _=>0))
 case atStart=>exact ⟨g2,0,_,_,rfl,by omega,rfl,hB,zNv⟩
 case round=>
  obtain ⟨g5,i,c,g,rfl,hi,rfl,hc,ht⟩:=hrel;have q5:=q.frame (fun k hk=>g5.block k (hF k hk) (by simp));obtain ⟨k0,k1,k2,kf⟩:=q5.n.facts
  by_cases hlt:i<ks.length
  ·have hlt':(i:Int)<ks.length:=by omega
   have hi0:(0:Int)≤i:=by omega
   obtain ⟨gb,rfl,hcell⟩:=zAb q5.r (by omega);have hk:=hcell i (ptr ks[i]) (by simp [hlt])
   have hL:i<Ls.length:=by have:=q.l;omega
   have hrep:=q5.k i ks[i] Ls[i] (by simp [hlt]) (by simp [hL]);unfold ptr at hk
   have hm:ks.length - (i+1)<ks.length - i:=by omega
   have HT:=hide ht;clear ht;unfold sl;go_wp2_with fail;refine (HE.out wr F ks[i] Ls[i] a f hrep (fun k hk=>by have:=hF k hk;have:=g5.size;omega) (ha.keep g5 (by simp))).mono ?_;rintro e w6 ⟨c6,g6,rfl,hc6,ht6,gr6⟩;unfold sl;go_wp2_with fail;refine (zLE (hc.keep gr6 (by simp)) hc6 hT).mono ?_;rintro e w7 ⟨c7,_,rfl,hc7,gr7⟩;unfold sl;go_wp2_with fail;exact ⟨⟨g5.trans (gr6.trans gr7),i+1,c7,_,rfl,by omega,rfl,hc7,by rw [List.take_succ_eq_append_getElem hL];exact ends_or HT.out ht6⟩,hm⟩
  ·have hge:¬(i:Int)<ks.length:=by omega
   obtain rfl:i=ks.length:=by omega
   clear hlt;unfold sl;go_wp2_with fail;go_ret;exact ⟨c,g,rfl,hc,by rw [q.l,List.take_length] at ht;exact ht,g5⟩
def zM2(n:Nat)(g:Nat→Bool):Nat:=(List.range n).countP fun k=> !g k
theorem zPC{n:Nat}{g h:Nat→Bool}(hs:¬∀k,k<n→(g k || h k)=g k):zM2 n (fun k=>g k || h k)<zM2 n g:=by
 unfold zM2
 have hex:∃k,k<n∧g k=false∧h k=true:=by
  apply Classical.byContradiction;intro hn;apply hs;intro k hk
  cases hg:g k with
  |true=>rfl
  |false=>
   cases hh:h k with
   |false=>rfl
   |true=>exact absurd ⟨k,hk,hg,hh⟩ hn
 obtain ⟨k,hk,hg,hh⟩:=hex
 have hmem:k∈List.range n:=by simpa using hk
 obtain ⟨l1,l2,e⟩:=List.append_of_mem hmem;rw [e];simp only [List.countP_append,List.countP_cons,hg,hh];have m1:l1.countP (fun k=> !(g k || h k))≤l1.countP (fun k=> !g k):=List.countP_mono_left (by intro x _ hx;simp at hx ⊢;exact hx.1);have m2:l2.countP (fun k=> !(g k || h k))≤l2.countP (fun k=> !g k):=List.countP_mono_left (by intro x _ hx;simp at hx ⊢;exact hx.1);simp only [Bool.false_or,Bool.not_true,Bool.not_false,Bool.false_eq_true,if_false,if_true];omega
def lackW(n:Nat)(v:Value)(w:World):Nat:=match v with
 |.slice (some a) _ _=>zM2 n (fun k=>match w.cell? ⟨a.block,k,none⟩ with | some (.bool true)=>true | _=>false)
 |_=>0
theorem zF1{w:World}{c n:Nat}{g:Nat→Bool}(h:zAL w c n g):lackW n (sl c n) w=zM2 n g:=by
 unfold lackW sl zM2;apply List.countP_congr;intro k hk;have hcell:=h.cell k (by simpa using hk);simp only [hcell]
 cases g k <;>simp
structure zJ6(w:World)(F:Nat→Prop)(h nb:Nat)(K:Int)(kb k:Nat)(A:Lang):Prop where
 n:zAk w nb K (.slice none 0 0) (.slice (some ⟨kb,0,none⟩) 1 1)
 nf:F nb
 f:F kb
 b:w.heap[kb]? =some (.cells #[ptr k] 47)
 r:zBA w F h k A
theorem zJ6.frame{w w':World}{F:Nat→Prop}{h nb kb k:Nat}{K:Int}{A:Lang}(q:zJ6 w F h nb K kb k A)(hF:∀k,F k→w'.heap[k]? =w.heap[k]?):zJ6 w' F h nb K kb k A:=
 ⟨(hF _ q.nf).trans q.n,q.nf,q.f,(hF _ q.f).trans q.b,q.r.frame hF (fun _ h=>h)⟩
theorem zJ6.cell{w:World}{F:Nat→Prop}{h nb kb k:Nat}{K:Int}{A:Lang}(q:zJ6 w F h nb K kb k A):w.cell? ⟨kb,0,none⟩=some (.pointer (some ⟨k,0,none⟩)):=by
 have:=q.b;simp [World.cell?,this,ptr]
set_option maxRecDepth 100000 in
set_option maxHeartbeats 1600000 in
theorem zN7{T:ByteArray}(hT:T.size+1≤281474976710656){h:Nat}(hE:zMN T h){w:World}{F:Nat→Prop}{nb a kb k:Nat}{A:Lang}{f:Nat→Bool}(q:zJ6 w F h nb 63 kb k A)(hF:∀k,F k→k<w.heap.size)(ha:zAL w a (T.size+1) f):
  Calls Tryz.prog 64 #[ptr nb,.string T,sl a (T.size+1)] w (zDo w T A.opt f):=by
 obtain ⟨k0,k1,k2,kf⟩:=q.n.facts;have hk:=q.cell;have HE:=hide hE;clear hE;unfold ptr sl;go_enter Tryz.func64,Tryz.ntmps64;go_wp2_with fail;refine (HE.out w F k A a f q.r hF ha).mono ?_;rintro e w6 ⟨c6,g6,rfl,hc6,ht6,gr6⟩;unfold sl;go_wp2_with fail;refine (zLE (ha.keep gr6 (by simp)) hc6 hT).mono ?_;rintro e w7 ⟨c7,_,rfl,hc7,gr7⟩;unfold sl;go_wp2_with fail;go_ret;exact ⟨c7,_,rfl,hc7,ends_opt ht6,gr6.trans gr7⟩
set_option maxRecDepth 100000 in
set_option maxHeartbeats 1600000 in
theorem zMP{T:ByteArray}(hT:T.size+1≤281474976710656){h:Nat}(hE:zMN T h){w:World}{F:Nat→Prop}{nb a kb k:Nat}{A:Lang}{f:Nat→Bool}(q:zJ6 w F h nb 42 kb k A)(hF:∀k,F k→k<w.heap.size)(ha:zAL w a (T.size+1) f):
  Calls Tryz.prog 64 #[ptr nb,.string T,sl a (T.size+1)] w (zDo w T A.star f):=by
 obtain ⟨k0,k1,k2,kf⟩:=q.n.facts;have HE:=hide hE;clear hE;unfold ptr sl;go_enter Tryz.func64,Tryz.ntmps64;go_wp2_with fail;clear k0 k1 k2 kf
 go_loopw [2,14,15] (fun fv _ _ w5=>Ch [] w w5∧∃(c:Nat) (g:Nat→Bool),fv=sl c (T.size+1)∧zAL w5 c (T.size+1) g∧Mid T A f g) (fun fv _ _ w5=>lackW (T.size+1) fv w5)
 case atStart=>exact ⟨Ch.refl _ _,a,f,rfl,ha,zJj⟩
 case round=>
  obtain ⟨g5,c,g,rfl,hc,ht⟩:=hrel;have q5:=q.frame (fun k hk=>g5.block k (hF k hk) (by simp));obtain ⟨k0,k1,k2,kf⟩:=q5.n.facts;have hk:=q5.cell;have HT:=hide ht;clear ht;have HL:=hide (zF1 hc);unfold sl;go_wp2_with fail;refine (HE.out wr F k A c g q5.r (fun k hk=>by have:=hF k hk;have:=g5.size;omega) hc).mono ?_;rintro e w6 ⟨c6,g6,rfl,hc6,ht6,gr6⟩;unfold sl;go_wp2_with fail;have hc':=hc.keep gr6 (by simp);refine (zLE hc' hc6 hT).mono ?_;rintro e w7 ⟨c7,_,rfl,hc7,gr7⟩;unfold sl;go_wp2_with fail;have hc'':=hc'.keep gr7 (by simp);refine (zLp hc7 hc'' hT).mono ?_;rintro e w8 ⟨rfl,gr8⟩;have HT6:=hide ht6;clear ht6
  by_cases hs:∀k,k<T.size+1→(g k || g6 k)=g k
  ·rw [decide_eq_true hs]
   have HS:=hide hs;clear hs;go_wp2_with fail;go_ret;exact ⟨c,g,rfl,hc''.keep gr8 (by simp),zOs HT.out HT6.out HS.out,g5.trans (gr6.trans (gr7.trans gr8))⟩
  ·rw [decide_eq_false hs]
   have HS:=hide hs;clear hs;go_wp2_with fail;have hc8:=hc7.keep gr8 (by simp);refine ⟨⟨g5.trans (gr6.trans (gr7.trans gr8)),c7,_,rfl,hc8,zLZ HT.out HT6.out⟩,?_⟩;exact HL.out ▸ zF1 hc8 ▸ zPC HS.out
set_option maxRecDepth 100000 in
set_option maxHeartbeats 1600000 in
theorem zMU{T:ByteArray}(hT:T.size+1≤281474976710656){h:Nat}(hE:zMN T h){w:World}{F:Nat→Prop}{nb a kb k:Nat}{A:Lang}{f:Nat→Bool}(q:zJ6 w F h nb 43 kb k A)(hF:∀k,F k→k<w.heap.size)(ha:zAL w a (T.size+1) f):
  Calls Tryz.prog 64 #[ptr nb,.string T,sl a (T.size+1)] w (zDo w T A.plus f):=by
 obtain ⟨k0,k1,k2,kf⟩:=q.n.facts;have HE:=hide hE;clear hE;unfold ptr sl;go_enter Tryz.func64,Tryz.ntmps64;have hk:=q.cell;go_wp2_with fail;refine (HE.out w F k A a f q.r hF ha).mono ?_;rintro e w1 ⟨c1,f1,rfl,hc1,ht1,gr1⟩;have HT1:=hide ht1;clear ht1;unfold sl;go_wp2_with fail;clear k0 k1 k2 kf hk
 go_loopw [2,14,15] (fun fv _ _ w5=>Ch [] w w5∧∃(c:Nat) (g:Nat→Bool),fv=sl c (T.size+1)∧zAL w5 c (T.size+1) g∧Mid T A f1 g) (fun fv _ _ w5=>lackW (T.size+1) fv w5)
 case atStart=>exact ⟨gr1,c1,f1,rfl,hc1,zJj⟩
 case round=>
  obtain ⟨g5,c,g,rfl,hc,ht⟩:=hrel;have q5:=q.frame (fun k hk=>g5.block k (hF k hk) (by simp));obtain ⟨k0,k1,k2,kf⟩:=q5.n.facts;have hk:=q5.cell;have HT:=hide ht;clear ht;have HL:=hide (zF1 hc);unfold sl;go_wp2_with fail;refine (HE.out wr F k A c g q5.r (fun k hk=>by have:=hF k hk;have:=g5.size;omega) hc).mono ?_;rintro e w6 ⟨c6,g6,rfl,hc6,ht6,gr6⟩;unfold sl;go_wp2_with fail;have hc':=hc.keep gr6 (by simp);refine (zLE hc' hc6 hT).mono ?_;rintro e w7 ⟨c7,_,rfl,hc7,gr7⟩;unfold sl;go_wp2_with fail;have hc'':=hc'.keep gr7 (by simp);refine (zLp hc7 hc'' hT).mono ?_;rintro e w8 ⟨rfl,gr8⟩;have HT6:=hide ht6;clear ht6
  by_cases hs:∀k,k<T.size+1→(g k || g6 k)=g k
  ·rw [decide_eq_true hs]
   have HS:=hide hs;clear hs;go_wp2_with fail;go_ret;exact ⟨c,g,rfl,hc''.keep gr8 (by simp),zNN HT1.out (zOs HT.out HT6.out HS.out),g5.trans (gr6.trans (gr7.trans gr8))⟩
  ·rw [decide_eq_false hs]
   have HS:=hide hs;clear hs;go_wp2_with fail;have hc8:=hc7.keep gr8 (by simp);refine ⟨⟨g5.trans (gr6.trans (gr7.trans gr8)),c7,_,rfl,hc8,zLZ HT.out HT6.out⟩,?_⟩;exact HL.out ▸ zF1 hc8 ▸ zPC HS.out
theorem zI6{T:ByteArray}(hT:T.size+1≤281474976710656):∀h,zMN T h
 |0=>fun _ _ _ _ _ _ hr=>hr.elim
 |h+1=>by
  intro w F nb L a f hr hF ha;have ih:=zI6 hT h;obtain ⟨fn,hr⟩:=hr
  rcases hr with ⟨c,Lc,kids,fc,h1,h2,rfl⟩ | ⟨kb,K,k,A,fk,h1,h2,h3,h4⟩ | ⟨v,ks,Ls,K,h1,h2,h3,h4,h5,h6⟩
  ·exact ends_c hT h1 h2 ha
  ·rcases h4 with ⟨rfl,rfl⟩ | ⟨rfl,rfl⟩ | ⟨rfl,rfl⟩
   ·exact zMP hT ih ⟨h1,fn,fk,h2,h3⟩ hF ha
   ·exact zMU hT ih ⟨h1,fn,fk,h2,h3⟩ hF ha
   ·exact zN7 hT ih ⟨h1,fn,fk,h2,h3⟩ hF ha
  ·rcases h6 with ⟨rfl,rfl⟩ | ⟨rfl,rfl⟩
   ·exact ends_row ih ⟨h1,h2,fn,h3,h4,h5⟩ hF ha
   ·exact ends_alt hT ih ⟨h1,h2,fn,h3,h4,h5⟩ hF ha
set_option maxHeartbeats 800000 in
theorem zKW{T:ByteArray}(hT:T.size+1≤281474976710656){w:World}{F:Nat→Prop}{h nb:Nat}{L:Lang}(hr:zBA w F h nb L)(hF:∀k,F k→k<w.heap.size):
  Calls Tryz.prog 34 #[ptr nb,.string T] w fun e w'=>∃q:Bool,e= .returned (.bool q)∧(q=true↔L T.data.toList)∧Ch [] w w':=by
 unfold ptr;go_enter Tryz.func34,Tryz.ntmps34
 have hge:¬(T.size:Int)+1≤0:=by omega
 have hlt:(T.size:Int)<(T.size:Int)+1:=by omega
 have h00:(0:Int)<(T.size:Int)+1:=by omega
 go_wp2_with (at_make;refine zA9 142 Tryz.underlying142 _ _ (T.size+1) rfl rfl rfl rfl hT ?_;intro w2 hB g2 hz;obtain ⟨cl,fl⟩:=hB.facts (i:=0) (by omega));have hB3:=hB.set 0 true;have g3:Ch [w.heap.size] w2 (w2.setCell ⟨w.heap.size,0,none⟩ (.bool true)):=Ch.setCell _ (by simp) _
 have g23:=(g2.mono (Y:=[w.heap.size]) (by simp)).trans g3 |>.forget (by simp)
 generalize w2.setCell ⟨w.heap.size,0,none⟩ (.bool true)=w3 at *;refine (zI6 hT h w3 F nb L w.heap.size _ (hr.frame (fun k hk=>g23.block k (hF k hk) (by simp)) (fun _ h=>h)) (fun k hk=>by have:=hF k hk;have:=g23.size;omega) hB3).mono ?_;rintro e w4 ⟨c,g,rfl,hc,ht,g4⟩;obtain ⟨d0,d1⟩:=hc.facts (i:=T.size) (by omega);have HT:=hide ht;clear ht;unfold sl;go_wp2_with fail;go_ret;refine ⟨g T.size,rfl,?_,g23.trans g4⟩;rw [HT.out T.size (Nat.le_refl _)]
 constructor
 ·rintro ⟨i,hi,hf,hL⟩
  by_cases e:i=0
  ·subst e;rw [zKP] at hL;exact hL
  ·simp [e] at hf
 ·intro hL
  exact ⟨0,by omega,by simp,by rw [zKP];exact hL⟩
end Go.Proofs.YteobgfbgglfkbaaGreat
namespace Go.Proofs.YteobgfbgglfkbaaGreat
open Go.RowKit
attribute [local go_sem ↓] Go.wp_at_zero Go.wp_at_succ
theorem zES{S:ByteArray}{a b:Int}(h:zBz S=(a,b))(ha:a=0):b=0:=by
 subst ha;unfold zBz at h
 split at h
 ·cases h
 ·unfold endE at h
  split at h
  ·cases h
  ·split at h
   ·cases h;rfl
   ·rename_i hn
    simp only [Prod.mk.injEq] at h;exact absurd h.1 hn
def zJ4(w:World)(E T:ByteArray)(e:Ending)(w':World):Prop:=
 Below w.heap.size w w'∧∃q:Bool,e= .returned (.tuple #[.bool q,.int .i64 (zBz E).1,.int .i64 (zBz E).2])∧
  (zBz E≠(0,0)→q=false)∧(zBz E=(0,0)→∃L s,zCC E= .ok (L,s)∧(q=true↔L T.data.toList))
set_option maxHeartbeats 800000 in
theorem zND{w:World}(E T:ByteArray)(hT:T.size+1≤281474976710656):Calls Tryz.prog 18 #[.string E,.string T] w (zJ4 w E T):=by
 go_enter Tryz.func18,Tryz.ntmps18;go_wp2_with fail;refine (zFJ E).mono ?_;rintro e w1 ⟨B1,⟨hne,rfl⟩ | ⟨he,nb,h,F,L,s,rfl,hr,hF,hs⟩⟩
 ·generalize hC:zBz E=C at *
  obtain ⟨C1,C2⟩:=C;have HC:=hide hC
  have hc:¬C1=0:=by
   intro e;apply hne;rw [e,zES hC e]
  have q:(C1 !=0)=true:=by simp [hc]
  clear hC;simp only;go_wp2_with fail;go_ret3;exact ⟨B1,false,by rw [HC.out];rfl,fun _=>rfl,fun e=>absurd (HC.out.symm.trans e) hne⟩
 ·have HC:=hide he
  have HS:=hide hs;clear he hs;go_wp2_with fail;refine (zKW hT hr (fun k hk=>(hF k hk).2)).mono ?_;rintro e w2 ⟨q,rfl,hq,g2⟩;go_wp2_with fail;go_ret3;exact ⟨B1.trans (g2.below B1.size (by simp)),q,by rw [HC.out];rfl,fun e=>absurd HC.out e,fun _=>⟨L,s,HS.out,hq⟩⟩
end Go.Proofs.YteobgfbgglfkbaaGreat
