import Derived.Test.YteobgfbgglfkbaaGreatAP8
import Derived.Test.YteobgfbgglfkbaaGreatAS1
namespace Go.Proofs.YteobgfbgglfkbaaGreat
open Go.RowKit
def Yp(n:Nat)(q:ze):Prop:=(0<=q.of1/\q.of1<n)/\(q.never=true->q.k<=12)/\(q.never=false->0<=q.of2/\q.of2<n)
def Wq(D:yt):Prop:=(∀q,q∈D.scrubs->q.one.size<=4/\q.two.size<=4)/\D.asked.length<=6/\∀q,q∈D.asked->Yp D.chains.length q
theorem RX{S x:ByteArray}{s s':St}{D:zH}(h:JA S x s= .ok (D,s'))(e:s'.e=0):D.one.size<=4/\D.two.size<=4:=by
 unfold JA at h
 split at h
 ·split at h
  ·cases h
  ·split at h
   ·cases h
   ·split at h
    ·cases h
    ·injection h with h;injection h with h1 h2'
     subst h1;exact⟨show ByteArray.empty.size<=4 by decide,show ByteArray.empty.size<=4 by decide⟩
 ·split at h
  ·cases h
  ·rename_i a c s3 h1
   injection h with h;injection h with h2 h3
   subst h2 h3;exact(NJ h1 e).2
theorem Tu{S:ByteArray}{ns nc:List ByteArray}{a:Int}{s s':St}{D:zH}(h:j8 S ns nc a s= .ok (D,s'))(e:s'.e=0):D.one.size<=4/\D.two.size<=4:=by
 unfold j8 at h
 split at h
 ·cases h
 ·exact RX h e
theorem Ng{S:ByteArray}{nc:List ByteArray}{s s':St}{i:Int}(h:yK S nc s= .ok (i,s'))(e:s'.e=0):0<=i/\i<nc.length:=by
 unfold yK at h
 split at h
 ·cases h
 ·rename_i x a s1 h1
  injection h with h;injection h with h2 h3
  subst h2 h3;have q:=(Zq.sayW (by decide) e).1;simp only[decide_eq_false_iff_not]at q;exact Dv q
theorem Om{S:ByteArray}{nc:List ByteArray}{cnt:Nat}{nv:Bool}{a:Int}{s s':St}{q:ze}(z:Z s)(h:jE S nc cnt nv a s= .ok (q,s'))(e:s'.e=0):cnt<6/\Yp nc.length q:=by
 unfold jE at h
 split at h
 ·cases h
 ·rename_i i1 s1 h1
  have fin:s1.e=0->cnt<6/\0<=i1/\i1<nc.length:=by
   intro e1;have q1:=(UQ (Zq.sayW (wr:=decide (6<=(cnt:Int))) (a:=a) (s:=s) (e:=3) (by decide)) h1 e1).1;simp only[decide_eq_false_iff_not]at q1;exact⟨by omega,Ng h1 e1⟩
  split at h
  ·split at h
   ·cases h
   ·rename_i s2 h2
    split at h
    ·cases h
    ·rename_i L s3 h3
     split at h
     ·cases h
     ·rename_i s4 h4
      split at h
      ·cases h
      ·rename_i s5 h5
       injection h with h;injection h with h6 h7
       subst h6 h7;have e4:=Ja (Q:=s4.e=0) (Zq.self s4) h5 e;have e3:=Ni (Q:=s3.e=0) (Zq.self s3) h4 e4;have e2:=DF (Q:=s2.e=0) (Zq.self s2) h3 e3;have e1:=Ja (Q:=s1.e=0) (Zq.self s1) h2 e2;have z3:=DC (Yg (Kn (Z.say (by decide) z) h1) h2) h3;obtain⟨f1,f2⟩:=fin e1;exact⟨f1,f2,fun _=>(z3 e3).2,fun hc=>absurd hc (by simp)⟩
  ·split at h
   ·cases h
   ·rename_i i2 s2 h2
    split at h
    ·cases h
    ·rename_i s3 h3
     injection h with h;injection h with h6 h7
     subst h6 h7;have e2:=Ja (Q:=s2.e=0) (Zq.self s2) h3 e;have e1:=UQ (Q:=s1.e=0) (Zq.self s1) h2 e2;obtain⟨f1,f2⟩:=fin e1;exact⟨f1,f2,fun hc=>absurd hc (by simp),fun _=>Ng h2 e2⟩
theorem Yp.mono{n m:Nat}{q:ze}(h:Yp n q)(hm:n<=m):Yp m q:=⟨⟨h.1.1,by have:=h.1.2;omega⟩,h.2.1,fun e=>⟨(h.2.2 e).1,by have:=(h.2.2 e).2;omega⟩⟩
theorem Ox{S x:ByteArray}{a:Int}{D D':yt}{s s':St}(z:Z s)(h:jb S x a D s= .ok (D',s'))(e:s'.e=0)(hD:Wq D):Wq D':=by
 unfold jb at h
 split at h
 ·split at h
  ·cases h
  ·rename_i q s2 h1
   injection h with h;injection h with h2 h3
   subst h2 h3;refine⟨fun r hr=> ?_,hD.2.1,hD.2.2⟩
   rcases List.mem_append.1 hr with hr|hr
   ·exact hD.1 r hr
   ·simp at hr;subst hr;exact Tu h1 e
 ·split at h
  ·split at h
   ·cases h
   ·rename_i q s2 h1
    injection h with h;injection h with h2 h3
    subst h2 h3;exact⟨hD.1,hD.2.1,fun r hr=>(hD.2.2 r hr).mono (by simp)⟩
  ·split at h
   ·cases h
   ·rename_i q s2 h1
    injection h with h;injection h with h2 h3
    subst h2 h3;have w:=Om z h1 e;simp only[List.length_map]at w;refine⟨hD.1,by simp;omega,fun r hr=> ?_⟩
    rcases List.mem_append.1 hr with hr|hr
    ·exact hD.2.2 r hr
    ·simp at hr;subst hr;exact w.2
theorem IZ{S:ByteArray}:∀n (s:St) D D' s',Z s->jC S n s D= .ok (D',s')->s'.e=0->Wq D->Wq D':=by
 intro n
 induction n with
 |zero=>intro s D D' s' _ h;cases h
 |succ n ih=>
  intro s D D' s' z h e hD;unfold jC at h
  split at h
  ·split at h
   ·cases h
   ·rename_i h1
    split at h
    ·cases h
    ·rename_i D1 s2 h2
     have z1:=Vo z h1;exact ih _ _ _ _ ((Le z1 h2).sk S) h e (Ox z1 h2 (AD (Q:=s2.e=0) n _ _ _ _ ((Zq.self s2).sk S) h e) hD)
  ·injection h with h;injection h with h1 h2;subst h1;exact hD
theorem Mg{S:ByteArray}{D:yt}{s:St}(hc:yX S=(0,0))(h:jA S= .ok (D,s)):Wq D:=by
 have e:s.e=0:=by
  unfold yX at hc
  split at hc
  ·cases hc
  ·rw[h]at hc
   unfold Yf at hc;simp only at hc
   split at hc
   ·assumption
   ·injection hc
 exact IZ _ _ _ _ _ (Z.st0.sk S) h e ⟨by simp,by simp,by simp⟩
def Je(D:yt)(q:ze)(t:List UInt8):Prop:=
 if q.never=true then q.lang (yH (zt D.scrubs (Ye D.chains q.of1)) t)else yH (zt D.scrubs (Ye D.chains q.of1)) t≠yH (zt D.scrubs (Ye D.chains q.of2)) t
def Qe(never:Bool)(bad:List UInt8->Prop)(k:Int)(W:List UInt8):Prop:=(k=(if never then 2 else 4)/\Zb bad W)\/(k=(if never then 1 else 3)/\W=[]/\∀t,¬bad t)
theorem Qe.one{never:Bool}{bad:List UInt8->Prop}{k k':Int}{W W':List UInt8}(h:Qe never bad k W)(h':Qe never bad k' W'):k=k'/\W=W':=by
 rcases h with⟨h1,h2⟩|⟨h1,h2,h3⟩
 ·rcases h' with⟨g1,g2⟩|⟨g1,g2,g3⟩
  ·exact⟨h1.trans g1.symm,h2.one g2⟩
  ·exact absurd h2.1 (g3 W)
 ·rcases h' with⟨g1,g2⟩|⟨g1,g2,g3⟩
  ·exact absurd g2.1 (h3 W')
  ·exact⟨h1.trans g1.symm,h2.trans g2.symm⟩
end Go.Proofs.YteobgfbgglfkbaaGreat
