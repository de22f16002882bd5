import Derived.Test.YteobgfbgglfkbaaGreatRP1
import Derived.Test.YteobgfbgglfkbaaGreatRC1
import Derived.Test.YteobgfbgglfkbaaGreatRP8
import Derived.Test.YteobgfbgglfkbaaGreatRS1
namespace Go.Proofs.YteobgfbgglfkbaaGreat
open Go.RowKit
def zKK(n:Nat)(q:zAU):Prop:=(0≤q.of1∧q.of1<n)∧(q.never=true→q.k≤12)∧(q.never=false→0≤q.of2∧q.of2<n)
def zJD(D:PolD):Prop:=(∀q,q∈D.scrubs→q.one.size≤4∧q.two.size≤4)∧D.asked.length≤6∧∀q,q∈D.asked→zKK D.chains.length q
theorem zOT{S x:ByteArray}{s s':St}{D:zAE}(h:zCy S x s= .ok (D,s'))(e:s'.e=0):D.one.size≤4∧D.two.size≤4:=by
 unfold zCy at h
 split at h
 ·split at h
  ·cases h
  ·split at h
   ·cases h
   ·split at h
    ·cases h
    ·injection h with h;injection h with h1 h2'
     subst h1;exact ⟨show ByteArray.empty.size≤4 by decide,show ByteArray.empty.size≤4 by decide⟩
 ·split at h
  ·cases h
  ·rename_i a c s3 h1
   injection h with h;injection h with h2 h3
   subst h2 h3;exact (zLx h1 e).2
theorem zM4{S:ByteArray}{ns nc:List ByteArray}{a:Int}{s s':St}{D:zAE}(h:zBs S ns nc a s= .ok (D,s'))(e:s'.e=0):D.one.size≤4∧D.two.size≤4:=by
 unfold zBs at h
 split at h
 ·cases h
 ·exact zOT h e
theorem zJQ{S:ByteArray}{nc:List ByteArray}{s s':St}{i:Int}(h:zAd S nc s= .ok (i,s'))(e:s'.e=0):0≤i∧i<nc.length:=by
 unfold zAd at h
 split at h
 ·cases h
 ·rename_i x a s1 h1
  injection h with h;injection h with h2 h3
  subst h2 h3;have q:=(Zq.sayW (by decide) e).1;simp only [decide_eq_false_iff_not] at q;exact zHw q
theorem zOQ{S:ByteArray}{nc:List ByteArray}{cnt:Nat}{nv:Bool}{a:Int}{s s':St}{q:zAU}(z:Z s)(h:zBH S nc cnt nv a s= .ok (q,s'))(e:s'.e=0):cnt<6∧zKK nc.length q:=by
 unfold zBH at h
 split at h
 ·cases h
 ·rename_i i1 s1 h1
  have fin:s1.e=0→cnt<6∧0≤i1∧i1<nc.length:=by
   intro e1;have q1:=(zGA (Zq.sayW (wr:=decide (6≤(cnt:Int))) (a:=a) (s:=s) (e:=3) (by decide)) h1 e1).1;simp only [decide_eq_false_iff_not] at q1;exact ⟨by omega,zJQ h1 e1⟩
  split at h
  ·split at h
   ·cases h
   ·rename_i s2 h2
    split at h
    ·cases h
    ·rename_i L s3 h3
     split at h
     ·cases h
     ·rename_i s4 h4
      split at h
      ·cases h
      ·rename_i s5 h5
       injection h with h;injection h with h6 h7
       subst h6 h7;have e4:=zA5 (Q:=s4.e=0) (Zq.self s4) h5 e;have e3:=zPS (Q:=s3.e=0) (Zq.self s3) h4 e4;have e2:=zNc (Q:=s2.e=0) (Zq.self s2) h3 e3;have e1:=zA5 (Q:=s1.e=0) (Zq.self s1) h2 e2;have z3:=zPU (zCH (zIn (Z.say (by decide) z) h1) h2) h3;obtain ⟨f1,f2⟩:=fin e1;exact ⟨f1,f2,fun _=>(z3 e3).2,fun hc=>absurd hc (by simp)⟩
  ·split at h
   ·cases h
   ·rename_i i2 s2 h2
    split at h
    ·cases h
    ·rename_i s3 h3
     injection h with h;injection h with h6 h7
     subst h6 h7;have e2:=zA5 (Q:=s2.e=0) (Zq.self s2) h3 e;have e1:=zGA (Q:=s1.e=0) (Zq.self s1) h2 e2;obtain ⟨f1,f2⟩:=fin e1;exact ⟨f1,f2,fun hc=>absurd hc (by simp),fun _=>zJQ h2 e2⟩
theorem zKK.mono{n m:Nat}{q:zAU}(h:zKK n q)(hm:n≤m):zKK m q:=⟨⟨h.1.1,by have:=h.1.2;omega⟩,h.2.1,fun e=>⟨(h.2.2 e).1,by have:=(h.2.2 e).2;omega⟩⟩
theorem zNL{S x:ByteArray}{a:Int}{D D':PolD}{s s':St}(z:Z s)(h:zA7 S x a D s= .ok (D',s'))(e:s'.e=0)(hD:zJD D):zJD D':=by
 unfold zA7 at h
 split at h
 ·split at h
  ·cases h
  ·rename_i q s2 h1
   injection h with h;injection h with h2 h3
   subst h2 h3;refine ⟨fun r hr=> ?_,hD.2.1,hD.2.2⟩
   rcases List.mem_append.1 hr with hr | hr
   ·exact hD.1 r hr
   ·simp at hr;subst hr;exact zM4 h1 e
 ·split at h
  ·split at h
   ·cases h
   ·rename_i q s2 h1
    injection h with h;injection h with h2 h3
    subst h2 h3;exact ⟨hD.1,hD.2.1,fun r hr=>(hD.2.2 r hr).mono (by simp)⟩
  ·split at h
   ·cases h
   ·rename_i q s2 h1
    injection h with h;injection h with h2 h3
    subst h2 h3;have w:=zOQ z h1 e;simp only [List.length_map] at w;refine ⟨hD.1,by simp;omega,fun r hr=> ?_⟩
    rcases List.mem_append.1 hr with hr | hr
    ·exact hD.2.2 r hr
    ·simp at hr;subst hr;exact w.2
theorem zOB{S:ByteArray}:∀n (s:St) D D' s',Z s→zBe S n s D= .ok (D',s')→s'.e=0→zJD D→zJD D':=by
 intro n
 induction n with
 |zero=>intro s D D' s' _ h;cases h
 |succ n ih=>
  intro s D D' s' z h e hD;unfold zBe at h
  split at h
  ·split at h
   ·cases h
   ·rename_i h1
    split at h
    ·cases h
    ·rename_i D1 s2 h2
     have z1:=zFY z h1;exact ih _ _ _ _ ((zL0 z1 h2).skip S) h e (zNL z1 h2 (zOz (Q:=s2.e=0) n _ _ _ _ ((Zq.self s2).skip S) h e) hD)
  ·injection h with h;injection h with h1 h2;subst h1;exact hD
theorem polR_wf2{S:ByteArray}{D:PolD}{s:St}(hc:zAz S=(0,0))(h:polR S= .ok (D,s)):zJD D:=by
 have e:s.e=0:=by
  unfold zAz at hc
  split at hc
  ·cases hc
  ·rw [h] at hc
   unfold endE at hc;simp only at hc
   split at hc
   ·assumption
   ·injection hc
 exact zOB _ _ _ _ _ (Z.st0.skip S) h e ⟨by simp,by simp,by simp⟩
end Go.Proofs.YteobgfbgglfkbaaGreat
namespace Go.Proofs.YteobgfbgglfkbaaGreat
open Go.RowKit
def zGu(D:PolD)(q:zAU)(t:List UInt8):Prop:=
 if q.never=true then q.lang (zBg (zAR D.scrubs (zEA D.chains q.of1)) t) else zBg (zAR D.scrubs (zEA D.chains q.of1)) t≠zBg (zAR D.scrubs (zEA D.chains q.of2)) t
def Verd(never:Bool)(bad:List UInt8→Prop)(k:Int)(W:List UInt8):Prop:=(k=(if never then 2 else 4)∧zE1 bad W)∨(k=(if never then 1 else 3)∧W=[]∧∀t,¬bad t)
theorem Verd.one{never:Bool}{bad:List UInt8→Prop}{k k':Int}{W W':List UInt8}(h:Verd never bad k W)(h':Verd never bad k' W'):k=k'∧W=W':=by
 rcases h with ⟨h1,h2⟩ | ⟨h1,h2,h3⟩
 ·rcases h' with ⟨g1,g2⟩ | ⟨g1,g2,g3⟩
  ·exact ⟨h1.trans g1.symm,h2.one g2⟩
  ·exact absurd h2.1 (g3 W)
 ·rcases h' with ⟨g1,g2⟩ | ⟨g1,g2,g3⟩
  ·exact absurd g2.1 (h3 W')
  ·exact ⟨h1.trans g1.symm,h2.trans g2.symm⟩
theorem zLi(c:UInt8)(t:List UInt8):Lang.alt [Lang.row [Lang.cls [((c.toNat:Int),(c.toNat:Int))]]] t↔t=[c]:=by
 constructor
 ·rintro ⟨A,hA,h⟩
  simp only [List.mem_singleton] at hA;subst hA;obtain ⟨x,y,rfl,⟨b,rfl,hb⟩,hy⟩:=h;have hy:y=[]:=hy;subst hy;simp only [zAg,List.any_cons,List.any_nil,Bool.or_false,Bool.and_eq_true,decide_eq_true_eq] at hb;have:b=c:=UInt8.toNat_inj.1 (by omega);rw [this];rfl
 ·rintro rfl
  refine ⟨_,List.mem_singleton.2 rfl,[c],[],rfl,⟨c,rfl,?_⟩,rfl⟩;simp [zAg]
def zJd:ByteArray:=⟨#[115,99,114,117,98,32,97,123,91,120,93,116,111,32,110,111,110,101,59,125,99,104,97,105,110,32,99,61,97,59,110,101,118,101,114,32,99,47,120,47,59,110,101,118,101,114,32,99,47,121,47,59]⟩
def aliveX:zAE:=⟨⟨#[97]⟩,false,ByteArray.empty,ByteArray.empty,[⟨[(120,120)],[]⟩]⟩
def zDE:PolD:=⟨[aliveX],[⟨⟨#[99]⟩,[0]⟩],[⟨true,0,0,Lang.alt [Lang.row [Lang.cls [(120,120)]]],1⟩,⟨true,0,0,Lang.alt [Lang.row [Lang.cls [(121,121)]]],1⟩]⟩
theorem zOI:∃s,polR zJd= .ok (zDE,s)∧s.e=0:=⟨⟨52,0,0,1⟩,by kernel_rfl,rfl⟩
theorem zK0:zAz zJd=(0,0):=by kernel_rfl
theorem zHH(t:List UInt8):zBg (zAR zDE.scrubs (zEA zDE.chains 0)) t=t.flatMap fun c=>if c=120 then [] else [c]:=by
 show t.flatMap (zCF aliveX.rules)=_
 congr 1
 funext c
 show (if zAg [(120,120)] c.toNat then outB [] c else [c])=_
 by_cases h:c=120
 ·subst h;rfl
 ·rw [if_neg h,if_neg]
  intro q;apply h;simp only [zAg,List.any_cons,List.any_nil,Bool.or_false,Bool.and_eq_true,decide_eq_true_eq] at q;exact UInt8.toNat_inj.1 (by show c.toNat=120;omega)
theorem zOE{k:Int}{W:List UInt8}(h:Verd true (zGu zDE ⟨true,0,0,Lang.alt [Lang.row [Lang.cls [(120,120)]]],1⟩) k W):k=1∧W=[]:=by
 refine h.one (Or.inr ⟨rfl,rfl,fun t ht=> ?_⟩);have ht:Lang.alt [Lang.row [Lang.cls [(120,120)]]] (zBg (zAR zDE.scrubs (zEA zDE.chains 0)) t):=ht;have:=(zLi 120 _).1 ht;rw [zHH] at this
 have hm:(120:UInt8)∈t.flatMap fun c=>if c=120 then [] else [c]:=by rw [this];simp
 obtain ⟨c,_,hc⟩:=List.mem_flatMap.1 hm
 by_cases e:c=120
 ·rw [if_pos e] at hc;simp at hc
 ·rw [if_neg e] at hc;simp at hc;exact e hc.symm
theorem zN3{k:Int}{W:List UInt8}(h:Verd true (zGu zDE ⟨true,0,0,Lang.alt [Lang.row [Lang.cls [(121,121)]]],1⟩) k W):k=2∧W=[121]:=by
 have iff:∀t,zGu zDE ⟨true,0,0,Lang.alt [Lang.row [Lang.cls [(121,121)]]],1⟩ t↔(t.flatMap fun c=>if c=120 then [] else [c])=[121]:=by
  intro t
  show Lang.alt [Lang.row [Lang.cls [(121,121)]]] (zBg (zAR zDE.scrubs (zEA zDE.chains 0)) t)↔_
  rw [zHH];exact zLi 121 _
 refine h.one (Or.inl ⟨rfl,(iff _).2 (by decide),fun y hy=> ?_⟩);have hy:=(iff y).1 hy
 match y,hy with
 |[],hy=>simp at hy
 |[b],hy=>
  by_cases e:b=120
  ·subst e;simp at hy
  ·simp [e] at hy;subst hy;exact Nat.le_refl _
 |a:: b:: t,_=>exact Nat.le_of_lt (zFj (by simp))
end Go.Proofs.YteobgfbgglfkbaaGreat
namespace Go.Proofs.YteobgfbgglfkbaaGreat
open Go.RowKit
structure Bed(E P:ByteArray)(off:Nat):Prop where
 lt:∀i,i<E.size→bt P (i+off)=bt E i
 bar:bt P (E.size+off)=47
 size:E.size+off<P.size
structure Sh(E:ByteArray)(off:Nat)(s t:St):Prop where
 i:t.i=s.i+off
 e:s.e=0
 f:t.e=0
 k:t.k=s.k
 le:s.i≤E.size
theorem Sh.at{E:ByteArray}{off:Nat}{s t:St}(h:Sh E off s t){n m:Nat}(hn:m=n+off)(hl:n≤E.size):Sh E off {s with i:=n} {t with i:=m}:=⟨hn,h.e,h.f,h.k,hl⟩
theorem bt_neg{E:ByteArray}{i:Nat}(h:¬i<E.size):bt E i= -1:=by unfold bt;rw [dif_neg h]
theorem Bed.same{E P:ByteArray}{off:Nat}(B:Bed E P off){s t:St}(h:Sh E off s t)(hb:0≤bt E s.i):bt P t.i=bt E s.i∧s.i<E.size:=by
 have hl:=zAu hb;exact ⟨by rw [h.i];exact B.lt _ hl,hl⟩
theorem Bed.other{E P:ByteArray}{off:Nat}(B:Bed E P off){s t:St}(h:Sh E off s t){c:Int}(hc:c≠47)(hb:¬bt E s.i=c):¬bt P t.i=c:=by
 by_cases hl:s.i<E.size
 ·rw [h.i,B.lt _ hl];exact hb
 ·have e:s.i=E.size:=by have:=h.le;omega
  rw [h.i,e,B.bar]
  exact fun h=>hc h.symm
theorem zFZ{E P:ByteArray}{off:Nat}(B:Bed E P off){lo:Int}(hlo:0≤lo){but:ByteArray}{s s' t:St}{c:Int}(hs:Sh E off s t)(h:zAN E lo but s= .ok (c,s')):∃t',zAN P lo but t= .ok (c,t')∧Sh E off s' t':=by
 unfold zAN at h
 split at h
 ·rename_i h0
  obtain ⟨e0,l0⟩:=B.same hs (by omega)
  split at h
  ·rename_i h1
   split at h
   ·rename_i h2
    have l1:=zAu (S:=E) (i:=s.i+1) (by simp [zCk] at h1;omega);have l2:=zAu (S:=E) (i:=s.i+2) (by simp [zCk] at h2;omega)
    have e1:bt P (t.i+1)=bt E (s.i+1):=by rw [hs.i,show s.i+off+1=(s.i+1)+off by omega];exact B.lt _ l1
    have e2:bt P (t.i+2)=bt E (s.i+2):=by rw [hs.i,show s.i+off+2=(s.i+2)+off by omega];exact B.lt _ l2
    injection h with h;injection h with h3 h4
    subst h3 h4;refine ⟨{t with i:=t.i+3},?_,hs.at (by have:=hs.i;omega) (by omega)⟩;unfold zAN;rw [e0,if_pos h0,e1,if_pos h1,e2,if_pos h2]
   ·cases h
  ·cases h
 ·rename_i h0
  split at h
  ·rename_i h1
   have hb:0≤bt E s.i:=by simp at h1;omega
   obtain ⟨e0,l0⟩:=B.same hs hb
   injection h with h;injection h with h3 h4
   subst h3 h4;refine ⟨{t with i:=t.i+1},?_,hs.at (by have:=hs.i;omega) (by omega)⟩;unfold zAN;rw [e0,if_neg h0,if_pos h1]
  ·cases h
theorem zLF{E P:ByteArray}{off:Nat}(B:Bed E P off){s s' t:St}{q:Int×Int}(hs:Sh E off s t)(h:zBf E s= .ok (q,s'))(e:s'.e=0):∃t',zBf P t= .ok (q,t')∧Sh E off s' t':=by
 unfold zBf at h
 split at h
 ·cases h
 ·rename_i a s1 h1
  obtain ⟨t1,g1,k1⟩:=zFZ B (by decide) hs h1
  split at h
  ·rename_i h0
   obtain ⟨e0,l0⟩:=B.same k1 (by omega)
   split at h
   ·cases h
   ·rename_i c s2 h2
    obtain ⟨t2,g2,k2⟩:=zFZ B (by decide) (k1.at (n:=s1.i+1) (m:=t1.i+1) (by have:=k1.i;omega) (by omega)) h2
    injection h with h;injection h with h3 h4
    subst h3;rw [← h4] at e ⊢;have q:=(Zq.sayW (by decide) e).1;refine ⟨t2,?_,?_⟩
    ·unfold zBf
     rw [g1];simp only;rw [e0,if_pos h0,g2];simp only [q];simp [sayS]
    ·rw [q];simpa [sayS] using k2
  ·rename_i h0
   injection h with h;injection h with h3 h4
   subst h3 h4;refine ⟨t1,?_,k1⟩;unfold zBf;rw [g1];simp only;rw [if_neg (B.other k1 (by decide) h0)]
theorem zOY{E P:ByteArray}{off:Nat}(B:Bed E P off):∀n m (s t:St) x y s',n≤m→Sh E off s t→zAt E n s x= .ok (y,s')→s'.e=0→∃t',zAt P m t x= .ok (y,t')∧Sh E off s' t':=by
 intro n
 induction n with
 |zero=>intro m s t x y s' _ _ h;cases h
 |succ n ih=>
  intro m s t x y s' hm hs h e;obtain ⟨m,rfl⟩:∃k,m=k+1:=⟨m - 1,by omega⟩;unfold zAt at h
  split at h
  ·cases h
  ·rename_i p s1 h1
   split at h
   ·rename_i h0
    injection h with h;injection h with h3 h4
    subst h3
    have e1:s1.e=0:=by rw [← h4] at e;exact e
    obtain ⟨t1,g1,k1⟩:=zLF B hs h1 e1;obtain ⟨e0,l0⟩:=B.same k1 (by omega);refine ⟨{t1 with i:=t1.i+1},?_,?_⟩
    ·unfold zAt
     rw [g1];simp only;rw [e0,if_pos h0]
    ·rw [← h4];exact k1.at (by have:=k1.i;omega) (by omega)
   ·rename_i h0
    have e1:=zLt (Q:=s1.e=0) n s1 _ _ _ (Zq.self s1) h e;obtain ⟨t1,g1,k1⟩:=zLF B hs h1 e1;obtain ⟨t2,g2,k2⟩:=ih m s1 t1 _ _ _ (by omega) k1 h e;refine ⟨t2,?_,k2⟩;unfold zAt;rw [g1];simp only;rw [if_neg (B.other k1 (by decide) h0)];exact g2
theorem zOd{E P:ByteArray}{off:Nat}(B:Bed E P off){s s' t:St}{q:List (Int×Int)}(hs:Sh E off s t)(h:zAr E s= .ok (q,s'))(e:s'.e=0):∃t',zAr P t= .ok (q,t')∧Sh E off s' t':=by
 unfold zAr at h
 split at h
 ·rename_i h0
  obtain ⟨e0,l0⟩:=B.same hs (by omega);obtain ⟨t2,g2,k2⟩:=zOY B _ (P.size+1) _ {t with i:=t.i+1} _ _ _ (by have:=B.size;omega) (hs.at (by have:=hs.i;omega) (by omega)) h e;refine ⟨t2,?_,k2⟩;unfold zAr;rw [e0,if_pos h0];exact g2
 ·cases h
theorem zOp{E P:ByteArray}{off:Nat}(B:Bed E P off){L:Lang}{s t:St}(hs:Sh E off s t):(zAh P L t).1=(zAh E L s).1∧Sh E off (zAh E L s).2 (zAh P L t).2:=by
 unfold zAh
 have step:∀{c:Int},0≤c→bt E s.i=c→bt P t.i=c∧Sh E off {s with i:=s.i+1} {t with i:=t.i+1}:=by
  intro c hc h;obtain ⟨e0,l0⟩:=B.same hs (by omega);exact ⟨by rw [e0,h],hs.at (by have:=hs.i;omega) (by omega)⟩
 by_cases h1:bt E s.i=42
 ·obtain ⟨a,b⟩:=step (by decide) h1
  rw [if_pos h1,if_pos a];exact ⟨rfl,b⟩
 ·rw [if_neg h1,if_neg (B.other hs (by decide) h1)]
  by_cases h2:bt E s.i=43
  ·obtain ⟨a,b⟩:=step (by decide) h2
   rw [if_pos h2,if_pos a];exact ⟨rfl,b⟩
  ·rw [if_neg h2,if_neg (B.other hs (by decide) h2)]
   by_cases h3:bt E s.i=63
   ·obtain ⟨a,b⟩:=step (by decide) h3
    rw [if_pos h3,if_pos a];exact ⟨rfl,b⟩
   ·rw [if_neg h3,if_neg (B.other hs (by decide) h3)];exact ⟨rfl,hs⟩
def zMk(E:ByteArray)(off:Nat)(f g:St→Except Nat (Lang×St)):Prop:=(∀(Q:Prop) s L s',Zq Q s→f s= .ok (L,s')→Zq Q s')∧∀s t L s',Sh E off s t→f s= .ok (L,s')→s'.e=0→∃t',g t= .ok (L,t')∧Sh E off s' t'
theorem zDv{wr:Bool}{e a:Int}{s:St}(h:wr=false):sayS wr e a s=s:=by subst h;simp [sayS]
theorem baseR_sh{E P:ByteArray}{off:Nat}(B:Bed E P off){f g:St→Except Nat (Lang×St)}(hf:zMk E off f g)(d:Nat):zMk E off (zBN f E d) (zBN g P d):=by
 refine ⟨fun Q s L s' z h=>zNR (fun s L s'=>hf.1 Q s L s') z h,fun s t L s' hs h e=> ?_⟩;unfold zBN at h;simp only at h
 have hk:decide (12<s.k+1)=false:=by
  have h1:Zq (decide (12<s.k+1)=false) (sayS (decide (12<s.k+1)) 3 s.i {s with k:=s.k+1}):=fun q=>(Zq.sayW (by decide) q).1
  split at h
  ·injection h with h;injection h with h3 h4;rw [← h4] at e;exact h1 e
  ·split at h
   ·split at h
    ·rename_i h2;injection h with h;injection h with h3 h4;rw [← h4] at e;exact zIR h1 h2 e
    ·cases h
   ·split at h
    ·split at h
     ·cases h
     ·rename_i h2
      have:=hf.1 _ _ _ _ (Zq.at (Zq.say (wr:=decide ((4:Int)≤(d:Int))) (a:=s.i) (e:=3) (by decide) h1) _) h2
      split at h
      ·injection h with h;injection h with h3 h4;rw [← h4] at e;exact this e
      ·cases h
    ·split at h
     ·rename_i h2;injection h with h;injection h with h3 h4;rw [← h4] at e;exact zDa h1 h2 e
     ·cases h
 have hk':decide (12<t.k+1)=false:=by rw [hs.k];exact hk
 rw [zDv hk] at h;have hs1:Sh E off {s with k:=s.k+1} {t with k:=t.k+1}:=⟨hs.i,hs.e,hs.f,by show t.k+1=s.k+1;rw [hs.k],hs.le⟩;unfold zBN;simp only;rw [zDv hk']
 split at h
 ·rename_i h0
  obtain ⟨e0,l0⟩:=B.same hs (by omega);rw [e0,if_pos h0]
  injection h with h;injection h with h3 h4
  subst h3 h4;exact ⟨_,rfl,hs1.at (by have:=hs.i;omega) (by omega)⟩
 ·rename_i h0
  rw [if_neg (B.other hs (by decide) h0)]
  split at h
  ·rename_i h0
   obtain ⟨e0,l0⟩:=B.same hs (by omega);rw [e0,if_pos h0]
   split at h
   ·rename_i h2
    injection h with h;injection h with h3 h4
    subst h3 h4;obtain ⟨t2,g2,k2⟩:=zOd B hs1 h2 e;rw [g2];exact ⟨_,rfl,k2⟩
   ·cases h
  ·rename_i h0
   rw [if_neg (B.other hs (by decide) h0)]
   split at h
   ·rename_i h0
    obtain ⟨e0,l0⟩:=B.same hs (by omega);rw [e0,if_pos h0]
    split at h
    ·cases h
    ·rename_i L3 s3 h2
     split at h
     ·rename_i h41
      injection h with h;injection h with h3 h4
      have e3:s3.e=0:=by rw [← h4] at e;exact e
      have hd:decide ((4:Int)≤(d:Int))=false:=by
       refine hf.1 (decide ((4:Int)≤(d:Int))=false) _ _ _ (Zq.at ?_ _) h2 e3
       exact fun q=>(Zq.sayW (by decide) q).1
      rw [zDv hd] at h2;obtain ⟨t3,g3,k3⟩:=hf.2 _ {{t with k:=t.k+1} with i:=t.i+1} _ _ (hs1.at (n:=s.i+1) (by have:=hs.i;omega) (by omega)) h2 e3;rw [zDv hd,g3];simp only;obtain ⟨e4,l4⟩:=B.same k3 (by omega);rw [e4,if_pos h41];subst h3;exact ⟨_,rfl,by rw [← h4];exact k3.at (by have:=k3.i;omega) (by omega)⟩
     ·cases h
   ·rename_i h0
    rw [if_neg (B.other hs (by decide) h0)]
    split at h
    ·rename_i h2
     injection h with h;injection h with h3 h4
     subst h3 h4;obtain ⟨t2,g2,k2⟩:=zFZ B (by decide) hs1 h2;rw [g2];exact ⟨_,rfl,k2⟩
    ·cases h
theorem stop_sh{E P:ByteArray}{off:Nat}(B:Bed E P off){s t:St}(hs:Sh E off s t):zDu (bt P t.i)=zDu (bt E s.i):=by
 by_cases hl:s.i<E.size
 ·rw [hs.i,B.lt _ hl]
 ·have e:s.i=E.size:=by have:=hs.le;omega
  rw [hs.i,e,B.bar,bt_neg (by omega)]
  decide
theorem rowF_sh{E P:ByteArray}{off:Nat}(B:Bed E P off){f g:St→Except Nat (Lang×St)}(hf:zMk E off f g):∀n m (s t:St) x y s',n≤m→Sh E off s t→rowF f E n s x= .ok (y,s')→s'.e=0→∃t',rowF g P m t x= .ok (y,t')∧Sh E off s' t':=by
 intro n
 induction n with
 |zero=>intro m s t x y s' _ _ h;cases h
 |succ n ih=>
  intro m s t x y s' hm hs h e;obtain ⟨m,rfl⟩:∃k,m=k+1:=⟨m - 1,by omega⟩;unfold rowF at h ⊢;rw [stop_sh B hs]
  split at h
  ·rename_i h0
   rw [if_pos h0]
   injection h with h;injection h with h3 h4
   subst h3 h4;exact ⟨_,rfl,hs⟩
  ·rename_i h0
   rw [if_neg h0]
   split at h
   ·cases h
   ·rename_i L1 s1 h1
    have e1:s1.e=0:=zPg (Q:=s1.e=0) (fun s L s'=>hf.1 _ s L s') n _ _ _ _ (zLX (Zq.self s1)) h e;obtain ⟨t1,g1,k1⟩:=hf.2 _ _ _ _ hs h1 e1;rw [g1];simp only;obtain ⟨a,b⟩:=zOp B (L:=L1) k1;rw [a];exact ih m _ _ _ _ _ (by omega) b h e
theorem altF_sh{E P:ByteArray}{off:Nat}(B:Bed E P off){f g:St→Except Nat (Lang×St)}(hf:zMk E off f g):∀n m (s t:St) x y s',n≤m→Sh E off s t→altF f E n s x= .ok (y,s')→s'.e=0→∃t',altF g P m t x= .ok (y,t')∧Sh E off s' t':=by
 intro n
 induction n with
 |zero=>intro m s t x y s' _ _ h;cases h
 |succ n ih=>
  intro m s t x y s' hm hs h e;obtain ⟨m,rfl⟩:∃k,m=k+1:=⟨m - 1,by omega⟩;unfold altF at h ⊢
  split at h
  ·cases h
  ·rename_i L1 s1 h1
   split at h
   ·rename_i h0
    have e1:s1.e=0:=altF_Q (Q:=s1.e=0) (fun s L s'=>hf.1 _ s L s') n _ _ _ _ ((Zq.self s1).at _) h e;obtain ⟨t1,g1,k1⟩:=hf.2 _ _ _ _ hs h1 e1;obtain ⟨e0,l0⟩:=B.same k1 (by omega);rw [g1];simp only;rw [e0,if_pos h0];exact ih m _ _ _ _ _ (by omega) (k1.at (by have:=k1.i;omega) (by omega)) h e
   ·rename_i h0
    injection h with h;injection h with h3 h4
    subst h3
    have e1:s1.e=0:=by rw [← h4] at e;exact e
    obtain ⟨t1,g1,k1⟩:=hf.2 _ _ _ _ hs h1 e1;rw [g1];simp only;rw [if_neg (B.other k1 (by decide) h0)];exact ⟨_,rfl,by rw [← h4];exact k1⟩
theorem zMV{E P:ByteArray}{off:Nat}(B:Bed E P off):∀n m d,n≤m→zMk E off (zAM E n d) (zAM P m d):=by
 intro n
 induction n with
 |zero=>
  intro m d _;refine ⟨?_,?_⟩
  ·intro Q s L s' _ h
   cases h
  ·intro s t L s' _ h
   cases h
 |succ n ih=>
  intro m d hm;obtain ⟨m,rfl⟩:∃k,m=k+1:=⟨m - 1,by omega⟩;refine ⟨fun Q s L s' z h=>zJ0 _ _ _ _ _ z h,fun s t L s' hs h e=> ?_⟩;unfold zAM at h ⊢;have hb:=baseR_sh B (ih m (d+1) (by omega)) d
  have hr:zMk E off (fun s=>rowF (zBN (zAM E n (d+1)) E d) E (E.size+1) s []) (fun s=>rowF (zBN (zAM P m (d+1)) P d) P (P.size+1) s []):=
   ⟨fun Q s L s' z h=>zPg (fun s L s'=>hb.1 Q s L s') _ _ _ _ _ z h,fun s t L s' hs h e=>rowF_sh B hb _ (P.size+1) s t _ _ _ (by have:=B.size;omega) hs h e⟩
  exact altF_sh B hr _ _ s t _ _ _ (by have:=B.size;omega) hs h e
end Go.Proofs.YteobgfbgglfkbaaGreat
namespace Go.Proofs.YteobgfbgglfkbaaGreat
open Go.RowKit
theorem zJc(A R:ByteArray)(i:Nat):bt (A++R) i=if i<A.size then bt A i else bt R (i - A.size):=by
 unfold bt
 by_cases h:i<A.size
 ·rw [if_pos h,dif_pos (by rw [ByteArray.size_append];omega),dif_pos h]
  rw [ByteArray.getElem_append_left h]
 ·rw [if_neg h]
  by_cases h2:i - A.size<R.size
  ·rw [dif_pos (by rw [ByteArray.size_append];omega),dif_pos h2]
   rw [ByteArray.getElem_append_right (by omega)]
  ·rw [dif_neg (by rw [ByteArray.size_append];omega),dif_neg h2]
theorem zOF(A R:ByteArray){i j:Nat}(h:j≤A.size):(A++R).extract i j=A.extract i j:=by
 have:= @ByteArray.extract_append A R i j;rw [this]
 have e:R.extract (i - A.size) (j - A.size)=ByteArray.empty:=by
  rw [show j - A.size=0 by omega];simp
 rw [e];simp
def preB:ByteArray:=⟨#[115,99,114,117,98,32,97,123,125,99,104,97,105,110,32,99,61,97,59,110,101,118,101,114,32,99,47]⟩
def sufB:ByteArray:=⟨#[47,59]⟩
def zAa(E:ByteArray):ByteArray:=(preB++E)++sufB
def aB:ByteArray:=⟨#[97]⟩
def cB:ByteArray:=⟨#[99]⟩
theorem zER(E:ByteArray):(zAa E).size=E.size+29:=by
 unfold zAa;rw [ByteArray.size_append,ByteArray.size_append]
 show 27+E.size+2=_
 omega
theorem zGP(E:ByteArray){i:Nat}(h:i<27):bt (zAa E) i=bt preB i:=by
 have e:preB.size=27:=rfl;unfold zAa;rw [zJc,if_pos (by rw [ByteArray.size_append];omega),zJc,if_pos (by omega)]
theorem bt_suf(E:ByteArray)(i:Nat):bt (zAa E) (E.size+27+i)=bt sufB i:=by
 have e:preB.size=27:=rfl;unfold zAa;rw [zJc,if_neg (by rw [ByteArray.size_append];omega),ByteArray.size_append,e,show E.size+27+i - (27+E.size)=i by omega]
theorem zJ1(E:ByteArray):Bed E (zAa E) 27:=by
 have e:preB.size=27:=rfl;refine ⟨fun i hi=> ?_,?_,by rw [zER];omega⟩
 ·unfold zAa
  rw [zJc,if_pos (by rw [ByteArray.size_append];omega),zJc,if_neg (by omega),e,show i+27 - 27=i by omega]
 ·have:=bt_suf E 0
  rw [Nat.add_zero] at this;rw [this];decide
theorem run_to{p:Int→Bool}{P:ByteArray}:∀(n i j:Nat),j=i+n→j≤P.size→(∀k,i≤k→k<j→p (bt P k)=true)→p (bt P j)=false→run p P i=j
 |0,i,j,e,_,_,h=>by subst e;exact zBk h
 |n+1,i,j,e,hl,hk,h=>by
  rw [zDF (by omega) (hk i (Nat.le_refl _) (by omega))];exact run_to n (i+1) j (by omega) hl (fun k h1 h2=>hk k (by omega) h2) h
theorem zBM(E:ByteArray){p:Int→Bool}{i j:Nat}(h:(decide (j<27) && decide (i≤j) && (List.range j).all (fun k=>decide (k<i) || p (bt preB k)) && !p (bt preB j))=true):run p (zAa E) i=j:=by
 simp only [Bool.and_eq_true,decide_eq_true_eq,List.all_eq_true,Bool.or_eq_true,List.mem_range,Bool.not_eq_true'] at h;obtain ⟨⟨⟨h1,h2⟩,h3⟩,h4⟩:=h;refine run_to (j - i) i j (by omega) (by rw [zER];omega) (fun k a b=> ?_) (by rw [zGP E h1];exact h4);rw [zGP E (by omega)]
 rcases h3 k b with h | h
 ·omega
 ·exact h
theorem zEp(E:ByteArray){i j:Nat}(h:j≤27):(zAa E).extract i j=preB.extract i j:=by
 have e:preB.size=27:=rfl;unfold zAa;rw [zOF _ _ (by rw [ByteArray.size_append];omega),zOF _ _ (by omega)]
theorem zIb{P:ByteArray}{L:List ByteArray}{s:St}{i j:Nat}{x:ByteArray}(h1:run isBl P s.i=i)(h2:run isSm P i=j)(h3:P.extract i j=x)(h4:anyB L x=true):zAw P L s= .ok ((x,i),{s with i:=j}):=by
 unfold zAw;simp only [h1,h2,h3,h4,if_true]
theorem zF4{P:ByteArray}{s:St}{i j:Nat}{x:ByteArray}(h1:run isBl P s.i=i)(h2:run isSm P i=j)(h3:P.extract i j=x)(h4:¬(x.size=0∨anyB zCm x=true∨8<x.size)):zAn P s= .ok ((x,i),{s with i:=j}):=by
 unfold zAn;simp only [h1,h2,h3];rw [if_neg h4]
theorem zCx{P:ByteArray}{s:St}{c:Int}{i:Nat}(h1:run isBl P s.i=i)(h2:bt P i=c):zAG P c s= .ok {s with i:=i+1}:=by
 unfold zAG;rw [h1,if_pos h2]
theorem zEf{P:ByteArray}{s:St}{i:Nat}(h1:run isBl P s.i=i):s.skip P={s with i:=i}:=by
 unfold St.skip;rw [h1]
theorem zKU(E:ByteArray):zBs (zAa E) [] [] 0 ⟨5,0,0,0⟩= .ok (⟨aB,false,ByteArray.empty,ByteArray.empty,[]⟩,⟨9,0,0,0⟩):=by
 have r1:zAn (zAa E) ⟨5,0,0,0⟩= .ok ((aB,6),⟨7,0,0,0⟩):=zF4 (zBM E (by decide)) (zBM E (by decide)) ((zEp E (by decide)).trans (by decide)) (by decide);have b7:run isBl (zAa E) 7=7:=zBM E (by decide);have b8:run isBl (zAa E) 8=8:=zBM E (by decide);have c7:bt (zAa E) 7=123:=(zGP E (by decide)).trans (by decide);have c8:bt (zAa E) 8=125:=(zGP E (by decide)).trans (by decide);have k7:(⟨7,0,0,0⟩:St).skip (zAa E)=⟨7,0,0,0⟩:=zEf b7;have k8:(⟨8,0,0,0⟩:St).skip (zAa E)=⟨8,0,0,0⟩:=zEf b8;have s7:zAG (zAa E) 123 ⟨7,0,0,0⟩= .ok ⟨8,0,0,0⟩:=zCx b7 c7;have s8:zAG (zAa E) 125 ⟨8,0,0,0⟩= .ok ⟨9,0,0,0⟩:=zCx b8 c8
 have f8:zBV (zAa E) ((zAa E).size+1) ⟨8,0,0,0⟩ []= .ok ([],⟨8,0,0,0⟩):=by
  unfold zBV;simp only;rw [b8,c8,if_neg (by decide),k8]
 unfold zBs;rw [zDv (by decide),r1];simp only;rw [zDv (by decide)];unfold zCy;simp only;rw [b7,c7,if_pos rfl,k7,s7];simp only;rw [f8];simp only;rw [s8]
theorem zKB(E:ByteArray):zBu (zAa E) [aB] [] 9 ⟨14,0,0,0⟩= .ok (⟨cB,[0]⟩,⟨19,0,0,0⟩):=by
 have r1:zAn (zAa E) ⟨14,0,0,0⟩= .ok ((cB,15),⟨16,0,0,0⟩):=zF4 (zBM E (by decide)) (zBM E (by decide)) ((zEp E (by decide)).trans (by decide)) (by decide);have s16:zAG (zAa E) 61 ⟨16,0,0,0⟩= .ok ⟨17,0,0,0⟩:=zCx (zBM E (by decide)) ((zGP E (by decide)).trans (by decide));have r2:zAn (zAa E) ⟨17,0,0,0⟩= .ok ((aB,17),⟨18,0,0,0⟩):=zF4 (zBM E (by decide)) (zBM E (by decide)) ((zEp E (by decide)).trans (by decide)) (by decide);have b18:run isBl (zAa E) 18=18:=zBM E (by decide);have c18:bt (zAa E) 18=59:=(zGP E (by decide)).trans (by decide);have k18:(⟨18,0,0,0⟩:St).skip (zAa E)=⟨18,0,0,0⟩:=zEf b18;have s18:zAG (zAa E) 59 ⟨18,0,0,0⟩= .ok ⟨19,0,0,0⟩:=zCx b18 c18
 have l:zBX (zAa E) [aB] ((zAa E).size+1) ⟨17,0,0,0⟩ []= .ok ([0],⟨18,0,0,0⟩):=by
  unfold zBX;rw [r2];simp only;rw [zDv (by decide),zDv (by decide)];simp only;rw [b18,c18,if_pos rfl,k18];rfl
 unfold zBu;rw [zDv (by decide),r1];simp only;rw [zDv (by decide),s16];simp only;rw [l];simp only;rw [s18]
theorem zKu{E:ByteArray}{L:Lang}{s:St}(h:zCC E= .ok (L,s))(e:s.e=0):∃k a,zBH (zAa E) [cB] 0 true 19 ⟨24,0,0,0⟩= .ok (⟨true,0,0,L,k⟩,⟨E.size+29,0,a,k⟩):=by
 have r1:zAn (zAa E) ⟨24,0,0,0⟩= .ok ((cB,25),⟨26,0,0,0⟩):=zF4 (zBM E (by decide)) (zBM E (by decide)) ((zEp E (by decide)).trans (by decide)) (by decide);have s26:zAG (zAa E) 47 ⟨26,0,0,0⟩= .ok ⟨27,0,0,0⟩:=zCx (zBM E (by decide)) ((zGP E (by decide)).trans (by decide));unfold zCC at h
 split at h
 ·cases h
 ·rename_i L1 s1 h1
  split at h
  ·cases h
  ·rename_i hi
   injection h with h;injection h with h2 h3
   subst h2 h3;obtain ⟨t,g,k⟩:=(zMV (zJ1 E) (E.size+1) ((zAa E).size+1) 0 (by rw [zER];omega)).2 st0 ⟨27,0,0,0⟩ L1 s1 ⟨rfl,rfl,rfl,rfl,Nat.zero_le _⟩ h1 e;have hle:=k.le;have hti:=k.i;have htf:=k.f
   have hend:s1.i=E.size:=by omega
   obtain ⟨ti,te,ta,tk⟩:=t;simp only at hti htf;subst htf;rw [hend] at hti;subst hti;have c0:bt (zAa E) (E.size+27)=47:=(zJ1 E).bar;have c1:bt (zAa E) (E.size+28)=59:=(bt_suf E 1).trans (by decide);refine ⟨tk,ta,?_⟩;unfold zBH zAd;rw [zDv (by decide),r1];simp only;rw [zDv (by decide),if_pos trivial,s26];simp only;unfold zDS zD4;simp only;rw [g];simp only;unfold zC6;rw [if_pos c0];simp only;rw [zCx (zBk (by show isBl (bt (zAa E) (E.size+28))=false;rw [c1];decide)) c1];rfl
theorem zNl{E:ByteArray}{L:Lang}{s:St}(h:zCC E= .ok (L,s))(e:s.e=0):∃k s',polR (zAa E)= .ok (⟨[⟨aB,false,ByteArray.empty,ByteArray.empty,[]⟩],[⟨cB,[0]⟩],[⟨true,0,0,L,k⟩]⟩,s'):=by
 obtain ⟨k,a,hA⟩:=zKu h e;have z:(zAa E).size=E.size+29:=zER E;have b0:st0.skip (zAa E)=⟨0,0,0,0⟩:=zEf (zBM E (by decide));have b9:(⟨9,0,0,0⟩:St).skip (zAa E)=⟨9,0,0,0⟩:=zEf (zBM E (by decide));have b19:(⟨19,0,0,0⟩:St).skip (zAa E)=⟨19,0,0,0⟩:=zEf (zBM E (by decide));have w0:zAw (zAa E) zCs ⟨0,0,0,0⟩= .ok ((zCT,0),⟨5,0,0,0⟩):=zIb (zBM E (by decide)) (zBM E (by decide)) ((zEp E (by decide)).trans (by decide)) (by decide);have w9:zAw (zAa E) zCs ⟨9,0,0,0⟩= .ok ((zCS,9),⟨14,0,0,0⟩):=zIb (zBM E (by decide)) (zBM E (by decide)) ((zEp E (by decide)).trans (by decide)) (by decide);have w19:zAw (zAa E) zCs ⟨19,0,0,0⟩= .ok ((zB4,19),⟨24,0,0,0⟩):=zIb (zBM E (by decide)) (zBM E (by decide)) ((zEp E (by decide)).trans (by decide)) (by decide);have hs:=zKU E;have hc:=zKB E;have bz:(⟨E.size+29,0,a,k⟩:St).skip (zAa E)=⟨E.size+29,0,a,k⟩:=zEf (zBk (by rw [bt_neg (by show ¬E.size+29<_;omega)];decide));refine ⟨k,⟨E.size+29,0,a,k⟩,?_⟩;unfold polR;rw [b0,show (zAa E).size+1=(E.size+26)+4 by omega];generalize hP:zAa E=P at *;rw [show ∀n s D,zBe P (n+1) s D=(if s.i<P.size then (match zAw P zCs s with | .error d=> .error d | .ok ((x,p),s1)=>match zA7 P x p D s1 with | .error d=> .error d | .ok (D',s2)=>zBe P n (s2.skip P) D') else .ok (D,s)) from fun _ _ _=>rfl];rw [if_pos (by show 0<P.size;omega),w0];simp only
 rw [show zA7 P zCT ((0:Nat):Int) ⟨[],[],[]⟩ ⟨5,0,0,0⟩= .ok (⟨[⟨aB,false,ByteArray.empty,ByteArray.empty,[]⟩],[],[]⟩,⟨9,0,0,0⟩) from by
  unfold zA7;rw [if_pos (by decide)];simp only [List.map_nil];rw [show ((0:Nat):Int)=0 from rfl,hs]
  rfl]
 simp only;rw [b9];rw [show ∀n s D,zBe P (n+1) s D=(if s.i<P.size then (match zAw P zCs s with | .error d=> .error d | .ok ((x,p),s1)=>match zA7 P x p D s1 with | .error d=> .error d | .ok (D',s2)=>zBe P n (s2.skip P) D') else .ok (D,s)) from fun _ _ _=>rfl];rw [if_pos (by show 9<P.size;omega),w9];simp only
 rw [show zA7 P zCS ((9:Nat):Int) ⟨[⟨aB,false,ByteArray.empty,ByteArray.empty,[]⟩],[],[]⟩ ⟨14,0,0,0⟩= .ok (⟨[⟨aB,false,ByteArray.empty,ByteArray.empty,[]⟩],[⟨cB,[0]⟩],[]⟩,⟨19,0,0,0⟩) from by
  unfold zA7;rw [if_neg (by decide),if_pos (by decide)];simp only [List.map_nil,List.map_cons];rw [show ((9:Nat):Int)=9 from rfl,hc]
  rfl]
 simp only;rw [b19];rw [show ∀n s D,zBe P (n+1) s D=(if s.i<P.size then (match zAw P zCs s with | .error d=> .error d | .ok ((x,p),s1)=>match zA7 P x p D s1 with | .error d=> .error d | .ok (D',s2)=>zBe P n (s2.skip P) D') else .ok (D,s)) from fun _ _ _=>rfl];rw [if_pos (by show 19<P.size;omega),w19];simp only
 rw [show zA7 P zB4 ((19:Nat):Int) ⟨[⟨aB,false,ByteArray.empty,ByteArray.empty,[]⟩],[⟨cB,[0]⟩],[]⟩ ⟨24,0,0,0⟩= .ok (⟨[⟨aB,false,ByteArray.empty,ByteArray.empty,[]⟩],[⟨cB,[0]⟩],[⟨true,0,0,L,k⟩]⟩,⟨E.size+29,0,a,k⟩) from by
  unfold zA7;rw [if_neg (by decide),if_neg (by decide)];simp only [List.map_nil,List.map_cons,List.length_nil];rw [show ((19:Nat):Int)=19 from rfl,show zBK zB4 zB4=true from by decide,hA]
  rfl]
 simp only;rw [bz];rw [show ∀n s D,zBe P (n+1) s D=(if s.i<P.size then (match zAw P zCs s with | .error d=> .error d | .ok ((x,p),s1)=>match zA7 P x p D s1 with | .error d=> .error d | .ok (D',s2)=>zBe P n (s2.skip P) D') else .ok (D,s)) from fun _ _ _=>rfl];rw [if_neg (by show ¬E.size+29<P.size;omega)]
end Go.Proofs.YteobgfbgglfkbaaGreat
