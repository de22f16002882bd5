import Derived.Test.YteobgfbgglfkbaaGreatVB6
set_option maxHeartbeats 6400000
set_option maxRecDepth 100000
namespace Go.Proofs.YteobgfbgglfkbaaGreat
open Go.RowKit
attribute [local go_sem ↓] Go.wp_at_zero Go.wp_at_succ
def jp(sv:List (zH×Value)):List Value:=sv.flatMap fun p=>[.string p.1.name,.int .i64 (if p.1.swap then 1 else 0),p.2,.string p.1.one,.string p.1.two]
theorem Q4:∀(sv:List (zH×Value)) (i:Nat) (p:zH×Value),sv[i]? =some p->
 (jp sv)[i * 5]? =some (.string p.1.name)/\(jp sv)[i * 5+1]? =some (.int .i64 (if p.1.swap then 1 else 0))/\(jp sv)[i * 5+2]? =some p.2/\(jp sv)[i * 5+3]? =some (.string p.1.one)/\(jp sv)[i * 5+4]? =some (.string p.1.two)
 |[],i,p,h=>by simp at h
 |q:: sv,0,p,h=>by simp at h;subst h;simp[jp]
 |q:: sv,i+1,p,h=>by
  have ih:=Q4 sv i p (by simpa using h)
  have e:∀t,(jp (q:: sv))[(i+1) * 5+t]? =(jp sv)[i * 5+t]? :=by
   intro t;rw[show(i+1) * 5+t=(i * 5+t)+5 from by omega];simp[jp]
  exact⟨(e 0).trans ih.1,(e 1).trans ih.2.1,(e 2).trans ih.2.2.1,(e 3).trans ih.2.2.2.1,(e 4).trans ih.2.2.2.2⟩
theorem EL:∀(sv:List (zZ×Value)) (i:Nat) (p:zZ×Value),sv[i]? =some p->(jI sv)[i * 2]? =some (.string p.1.name)/\(jI sv)[i * 2+1]? =some p.2
 |[],i,p,h=>by simp at h
 |q:: sv,0,p,h=>by simp at h;subst h;simp[jI]
 |q:: sv,i+1,p,h=>by
  have ih:=EL sv i p (by simpa using h)
  have e:∀t,(jI (q:: sv))[(i+1) * 2+t]? =(jI sv)[i * 2+t]? :=by
   intro t;rw[show(i+1) * 2+t=(i * 2+t)+2 from by omega];simp[jI]
  exact⟨(e 0).trans ih.1,(e 1).trans ih.2⟩
theorem aQ{w:World}{B:Nat}{n x:ByteArray}{u1 u2 u3 u4:Value}(hB:w.cell? ⟨B,0,none⟩=some (.string x))(hlt:B<w.heap.size):
 Calls Tryz.prog 196 #[.agg #[.string n,u1,u2,u3,u4],.pointer (some ⟨B,0,none⟩)] w fun e w'=>e= .returned (.bool (yQ n x))/\Ch [] w w':=by
 have hne:¬B=w.heap.size:=by omega
 have hB':(w.alloc (.cells #[.string n,u1,u2,u3,u4] 118)).cell? ⟨B,0,none⟩=some (.string x):=by
  rw[World.cell?_alloc_past _ _ _ hlt];exact hB
 by_cases hq:n=x
 ·obtain⟨q1,q2⟩:=Y6 hq
  have HS:Hd (yQ n x=true):=Jh.2 hq;clear hq;go_enter Tryz.func196,Tryz.ntmps196;go_wp2_with fail;go_ret;exact⟨by rw[HS.o];rfl,Ch.alloc _ _ _⟩
 ·obtain⟨q1,q2⟩:=Zn hq
  have HS:Hd (yQ n x=false):=q2;clear hq;go_enter Tryz.func196,Tryz.ntmps196;go_wp2_with fail;go_ret;exact⟨by rw[HS.o];rfl,Ch.alloc _ _ _⟩
theorem aV{w:World}{vs:Value}{sv:List (zH×Value)}(ho:w.ownsRow 0 118 5 vs sv.length (jp sv))(hn:sv.length<=500){B:Nat}{x:ByteArray}(hB:w.cell? ⟨B,0,none⟩=some (.string x))(hlt:B<w.heap.size):
 Calls Tryz.prog 195 #[vs,.func (.func 196) #[] #[.pointer (some ⟨B,0,none⟩)]] w fun e w'=>e= .returned (.int .i64 (zy (sv.map fun p=>p.1.name) x))/\Ch [] w w':=by
 obtain⟨a,c,rfl⟩:=zQ ho;go_enter Tryz.func195,Tryz.ntmps195;go_wp2_with fail
 go_loopw [5,8] (fun _ k w5=>∃j:Nat,k= .int .i64 j/\j<=sv.length/\Hd (Zz (sv.map fun p=>p.1.name) x j)/\Ch [] w w5) (fun _ k _=>sv.length - (intOf k).toNat)
 case atStart=>exact⟨0,rfl,Nat.zero_le _,fun t _ h=>by omega,Ch.refl _ _⟩
 case round=>
  generalize wr=w5 at *;obtain⟨j,rfl,hj,hno,g5⟩:=hrel
  have hB5:w5.cell? ⟨B,0,none⟩=some (.string x):=by simp only[World.cell?,g5.block B hlt (by simp)];exact hB
  have z5:=g5.size
  by_cases hlt2:(j:Int)<sv.length
  ·have hlt':j<sv.length:=by omega
   have ho5:=zJ ho g5 (by simp);obtain⟨g,rfl,hg⟩:=jO ho5 (by omega);obtain⟨a0,a1,a2,a3,a4⟩:=Q4 sv j sv[j] (by simp[hlt']);have k0:=hg _ _ a0;have k1:=hg _ _ a1;have k2:=hg _ _ a2;have k3:=hg _ _ a3;have k4:=hg _ _ a4
   have hnm:(sv.map fun p=>p.1.name)[j]'(by simpa using hlt')=sv[j].1.name:=by simp
   have hg':=zC hg;clear hg a0 a1 a2 a3 a4;generalize sv[j]=y at *;generalize (if y.1.swap=true then(1:Int)else 0)=kk at *;go_wp2_with fail;refine(aQ hB5 (by omega)).mono ?_;rintro e w6 ⟨rfl,g6⟩;cases hq:yQ y.1.name x
   ·have H2:Hd (Zz (sv.map fun p=>p.1.name) x (j+1)):=by
     intro t ht h1
     by_cases e:t=j
     ·subst e;rw[hnm];intro e';rw[Jh.2 e']at hq;cases hq
     ·exact hno.o t ht (by omega)
    go_wp2_with fail;go_roundw
    case rel=>exact⟨j+1,by go_num,by omega,H2,g5.trans g6⟩
    case measure=>simp[intOf];omega
   ·have HR:Hd (zy (sv.map fun p=>p.1.name) x=j):=Uh (by simpa using hlt') (hnm.trans (Jh.1 hq)) hno.o
    go_wp2_with fail;go_ret;exact⟨by rw[HR.o];rfl,g5.trans g6⟩
  ·have HR:Hd (zy (sv.map fun p=>p.1.name) x= -1):=Uk (fun t ht=>hno.o t ht (by simp at ht;omega))
   go_wp2_with fail;go_ret;exact⟨by rw[HR.o];rfl,g5⟩
theorem Ml{w:World}{b:Nat}{vs:Value}{sv:List (zH×Value)}(hc:w.cell? ⟨b,5,none⟩=some vs)(hb:b<w.heap.size)(ho:w.ownsRow 0 118 5 vs sv.length (jp sv))(hn:sv.length<=500)(x:ByteArray):
 Calls Tryz.prog 151 #[.pointer (some ⟨b,5,none⟩),.string x] w fun e w'=>e= .returned (.int .i64 (zy (sv.map fun p=>p.1.name) x))/\Ch [] w w':=by
 have hc':(w.alloc (.cells #[.string x] 9)).cell? ⟨b,5,none⟩=some vs:=by rw[World.cell?_alloc_past _ _ _ hb];exact hc
 have hne:¬b=w.heap.size:=by omega
 have ho':=zJ ho (Ch.alloc [] w (.cells #[.string x] 9)) (by simp)
 have hB:(w.alloc (.cells #[.string x] 9)).cell? ⟨w.heap.size,0,none⟩=some (.string x):=by simp only[World.cell?,zr];rfl
 go_enter Tryz.func151,Tryz.ntmps151;go_wp2_with fail;refine(aV ho' hn hB (by simp)).mono ?_;rintro e w1 ⟨rfl,g1⟩;go_wp2_with fail;go_ret;exact⟨rfl,(Ch.alloc _ _ _).trans g1⟩
theorem TJ{w:World}{B:Nat}{n x:ByteArray}{u1:Value}(hB:w.cell? ⟨B,0,none⟩=some (.string x))(hlt:B<w.heap.size):
 Calls Tryz.prog 42 #[.agg #[.string n,u1],.pointer (some ⟨B,0,none⟩)] w fun e w'=>e= .returned (.bool (yQ n x))/\Ch [] w w':=by
 have hne:¬B=w.heap.size:=by omega
 have hB':(w.alloc (.cells #[.string n,u1] 79)).cell? ⟨B,0,none⟩=some (.string x):=by
  rw[World.cell?_alloc_past _ _ _ hlt];exact hB
 by_cases hq:n=x
 ·obtain⟨q1,q2⟩:=Y6 hq
  have HS:Hd (yQ n x=true):=Jh.2 hq;clear hq;go_enter Tryz.func42,Tryz.ntmps42;go_wp2_with fail;go_ret;exact⟨by rw[HS.o];rfl,Ch.alloc _ _ _⟩
 ·obtain⟨q1,q2⟩:=Zn hq
  have HS:Hd (yQ n x=false):=q2;clear hq;go_enter Tryz.func42,Tryz.ntmps42;go_wp2_with fail;go_ret;exact⟨by rw[HS.o];rfl,Ch.alloc _ _ _⟩
theorem GV{w:World}{vs:Value}{sv:List (zZ×Value)}(ho:w.ownsRow 0 79 2 vs sv.length (jI sv))(hn:sv.length<=500){B:Nat}{x:ByteArray}(hB:w.cell? ⟨B,0,none⟩=some (.string x))(hlt:B<w.heap.size):
 Calls Tryz.prog 41 #[vs,.func (.func 42) #[] #[.pointer (some ⟨B,0,none⟩)]] w fun e w'=>e= .returned (.int .i64 (zy (sv.map fun p=>p.1.name) x))/\Ch [] w w':=by
 obtain⟨a,c,rfl⟩:=zQ ho;go_enter Tryz.func41,Tryz.ntmps41;go_wp2_with fail
 go_loopw [5,8] (fun _ k w5=>∃j:Nat,k= .int .i64 j/\j<=sv.length/\Hd (Zz (sv.map fun p=>p.1.name) x j)/\Ch [] w w5) (fun _ k _=>sv.length - (intOf k).toNat)
 case atStart=>exact⟨0,rfl,Nat.zero_le _,fun t _ h=>by omega,Ch.refl _ _⟩
 case round=>
  generalize wr=w5 at *;obtain⟨j,rfl,hj,hno,g5⟩:=hrel
  have hB5:w5.cell? ⟨B,0,none⟩=some (.string x):=by simp only[World.cell?,g5.block B hlt (by simp)];exact hB
  have z5:=g5.size
  by_cases hlt2:(j:Int)<sv.length
  ·have hlt':j<sv.length:=by omega
   have ho5:=zJ ho g5 (by simp);obtain⟨g,rfl,hg⟩:=jO ho5 (by omega);obtain⟨a0,a1⟩:=EL sv j sv[j] (by simp[hlt']);have k0:=hg _ _ a0;have k1:=hg _ _ a1
   have hnm:(sv.map fun p=>p.1.name)[j]'(by simpa using hlt')=sv[j].1.name:=by simp
   have hg':=zC hg;clear hg a0 a1;generalize sv[j]=y at *;go_wp2_with fail;refine(TJ hB5 (by omega)).mono ?_;rintro e w6 ⟨rfl,g6⟩;cases hq:yQ y.1.name x
   ·have H2:Hd (Zz (sv.map fun p=>p.1.name) x (j+1)):=by
     intro t ht h1
     by_cases e:t=j
     ·subst e;rw[hnm];intro e';rw[Jh.2 e']at hq;cases hq
     ·exact hno.o t ht (by omega)
    go_wp2_with fail;go_roundw
    case rel=>exact⟨j+1,by go_num,by omega,H2,g5.trans g6⟩
    case measure=>simp[intOf];omega
   ·have HR:Hd (zy (sv.map fun p=>p.1.name) x=j):=Uh (by simpa using hlt') (hnm.trans (Jh.1 hq)) hno.o
    go_wp2_with fail;go_ret;exact⟨by rw[HR.o];rfl,g5.trans g6⟩
  ·have HR:Hd (zy (sv.map fun p=>p.1.name) x= -1):=Uk (fun t ht=>hno.o t ht (by simp at ht;omega))
   go_wp2_with fail;go_ret;exact⟨by rw[HR.o];rfl,g5⟩
theorem M8{w:World}{b:Nat}{vs:Value}{sv:List (zZ×Value)}(hc:w.cell? ⟨b,6,none⟩=some vs)(hb:b<w.heap.size)(ho:w.ownsRow 0 79 2 vs sv.length (jI sv))(hn:sv.length<=500)(x:ByteArray):
 Calls Tryz.prog 23 #[.pointer (some ⟨b,5,none⟩),.string x] w fun e w'=>e= .returned (.int .i64 (zy (sv.map fun p=>p.1.name) x))/\Ch [] w w':=by
 have hc':(w.alloc (.cells #[.string x] 9)).cell? ⟨b,6,none⟩=some vs:=by rw[World.cell?_alloc_past _ _ _ hb];exact hc
 have hne:¬b=w.heap.size:=by omega
 have ho':=zJ ho (Ch.alloc [] w (.cells #[.string x] 9)) (by simp)
 have hB:(w.alloc (.cells #[.string x] 9)).cell? ⟨w.heap.size,0,none⟩=some (.string x):=by simp only[World.cell?,zr];rfl
 go_enter Tryz.func23,Tryz.ntmps23;go_wp2_with fail;refine(GV ho' hn hB (by simp)).mono ?_;rintro e w1 ⟨rfl,g1⟩;go_wp2_with fail;go_ret;exact⟨rfl,(Ch.alloc _ _ _).trans g1⟩
def ZY(av:List (ze×Value×Value)):List Value:=av.flatMap fun p=>[.int .i64 (if p.1.never then 0 else 1),p.2.1,p.2.2]
def QG(w:World)(F:Nat->Prop)(vc ve:Value)(q:ze):Prop:=
 (q.never=true/\j9 w F vc [q.of1]/\(∃a n c,ve= .slice a n c)/\∃h N,yC w F h ve q.lang N/\q.k=N)\/(q.never=false/\j9 w F vc [q.of1,q.of2]/\ve= .slice none 0 0)
theorem QG.frame{w w':World}{F G:Nat->Prop}{vc ve:Value}{q:ze}(hF:∀k,F k->w'.heap[k]? =w.heap[k]?)(hG:∀k,F k->G k)(h:QG w F vc ve q):QG w' G vc ve q:=by
 rcases h with⟨h1,h2,hv,hh,N,h3,h4⟩|⟨h1,h2,h3⟩
 ·exact Or.inl ⟨h1,h2.frame hF hG,hv,hh,N,yC.frame hF hG _ _ _ _ h3,h4⟩
 ·exact Or.inr ⟨h1,h2.frame hF hG,h3⟩
structure yZ(w:World)(lo b:Nat)(F:Nat->Prop)(v5 v6 v7:Value)(sv:List (zH×Value))(cv:List (zZ×Value))(av:List (ze×Value×Value)):Prop where
 rs:w.ownsRow 0 118 5 v5 sv.length (jp sv)
 rc:w.ownsRow 0 79 2 v6 cv.length (jI cv)
 ra:w.ownsRow 0 87 3 v7 av.length (ZY av)
 ps:∀p,p∈sv->JO w F p.2 p.1.rules
 pc:∀p,p∈cv->j9 w F p.2 p.1.scrubs
 pa:∀p,p∈av->QG w F p.2.1 p.2.2 p.1
 bs:∀g,v5.ownBlock=some g->lo<=g/\g<w.heap.size/\g≠b/\v6.ownBlock≠some g/\v7.ownBlock≠some g/\¬F g
 bc:∀g,v6.ownBlock=some g->lo<=g/\g<w.heap.size/\g≠b/\v5.ownBlock≠some g/\v7.ownBlock≠some g/\¬F g
 ba:∀g,v7.ownBlock=some g->lo<=g/\g<w.heap.size/\g≠b/\v5.ownBlock≠some g/\v6.ownBlock≠some g/\¬F g
 f:∀k,F k->lo<=k/\k<w.heap.size/\k≠b
theorem yZ.kp{w w':World}{lo b:Nat}{F:Nat->Prop}{v5 v6 v7:Value}{sv:List (zH×Value)}{cv:List (zZ×Value)}{av:List (ze×Value×Value)}(h:yZ w lo b F v5 v6 v7 sv cv av){X:List Nat}(g:Ch X w w')(hX:∀k,k∈X->k=b\/w.heap.size<=k):yZ w' lo b F v5 v6 v7 sv cv av:=by
 have hF:∀k,F k->w'.heap[k]? =w.heap[k]? :=fun k hk=>g.block k (h.f k hk).2.1 (fun hx=>by have:=h.f k hk;have:=hX k hx;omega)
 have z:=g.size;refine⟨zJ h.rs g (fun k hk hx=> ?_),zJ h.rc g (fun k hk hx=> ?_),zJ h.ra g (fun k hk hx=> ?_),fun p hp=>(h.ps p hp).frame hF (fun _ h=>h),fun p hp=>(h.pc p hp).frame hF (fun _ h=>h),fun p hp=>(h.pa p hp).frame hF (fun _ h=>h),fun k hk=> ?_,fun k hk=> ?_,fun k hk=> ?_,fun k hk=> ?_⟩
 ·have:=h.bs k hk;have:=hX k hx;omega
 ·have:=h.bc k hk;have:=hX k hx;omega
 ·have:=h.ba k hk;have:=hX k hx;omega
 ·have a:=h.bs k hk;exact⟨a.1,by omega,a.2.2⟩
 ·have a:=h.bc k hk;exact⟨a.1,by omega,a.2.2⟩
 ·have a:=h.ba k hk;exact⟨a.1,by omega,a.2.2⟩
 ·have a:=h.f k hk;exact⟨a.1,by omega,a.2.2⟩
theorem Ur{S:ByteArray}{s s':St}{x:ByteArray}{p:Nat}(hi:s.i<=S.size)(h:yA S s= .ok ((x,p),s')):p<=s'.i/\s'.i<=S.size/\s.i<=p:=by
 unfold yA at h;simp only at h
 split at h
 ·cases h
 ·injection h with h;injection h with h1 h2;injection h1 with h3 h4;subst h3 h4 h2
  have l1:=zn zI S s.i hi;have l2:=zn zR S (run zI S s.i) l1.2;exact⟨l2.1,l2.2,l1.1⟩
theorem MR{w:World}{b:Nat}{S:ByteArray}{s:St}{v5 v6 v7:Value}(h:zP w b S s v5 v6 v7)(hS:S.size<=400)(hi:s.i<=S.size):
 Calls Tryz.prog 150 #[.pointer (some ⟨b,0,none⟩)] w (Jp w b S v5 v6 v7 Yr (yA S s)):=by
 go_enter Tryz.func150,Tryz.ntmps150;go_wp2_with fail;refine(Hx h hS hi).mono ?_;rintro e w1 ⟨g1,⟨x,p,s1,hl,rfl,h1,hi1⟩|⟨d,hl,hg⟩⟩
 ·have HL:=zC hl
  have HX:=zC (EH hl);have lo:=Ur hi hl;clear hl;obtain⟨c0,c1,c2,c3,c4,c5,c6,c7,fz⟩:=h1.fa
  have l1:(p:Int)<=s1.i:=by omega
  have l2:(s1.i:Int)<=S.size:=by omega
  have hsl:0<=(p:Int)/\(p:Int)<=s1.i/\(s1.i:Int)<=S.size:=⟨by omega,by omega,by omega⟩;go_wp2_with fail;go_quiet (fail);go_wp2_with fail;go_ret2;exact⟨g1.trans (Ch.drewN _ _ _),Or.inl ⟨(x,p),s1,_,HL.o,rfl,by unfold Yr;rw[HX.o];rfl,h1⟩⟩
 ·have HL:=zC hl
  clear hl;obtain⟨rfl,ht⟩:=hg;exact zY rfl ⟨g1,Or.inr ⟨d,HL.o,⟨rfl,ht⟩⟩⟩
theorem L6{w:World}{b:Nat}{S:ByteArray}{s:St}{v5 v6 v7:Value}(h:zP w b S s v5 v6 v7)(n a:Int):
 Calls Tryz.prog 154 #[.pointer (some ⟨b,0,none⟩),.int .i64 n,.int .i64 a] w fun e w'=>e= .returned (.int .i64 n)/\zP w' b S (zL (decide (n<0)) 5 a s) v5 v6 v7/\Ch [b] w w':=by
 by_cases hn:n<0
 ·have HD:Hd (decide (n<0)=true):=decide_eq_true hn
  go_enter Tryz.func154,Tryz.ntmps154;go_wp2_with fail;refine(Qm h 5 a).mono ?_;rintro e w1 ⟨rfl,h1,g1⟩;go_wp2_with fail;go_ret;exact⟨rfl,by rw[HD.o];exact h1,g1⟩
 ·have HD:Hd (decide (n<0)=false):=decide_eq_false hn
  go_enter Tryz.func154,Tryz.ntmps154;go_wp2_with fail;go_ret;exact⟨rfl,by rw[HD.o,Zo];exact h,Ch.refl _ _⟩
def Qf(c:Int)(v:Value)(_:World):Prop:=v= .int .i64 c
theorem Mr{w:World}{lo b:Nat}{S:ByteArray}{s:St}{F:Nat->Prop}{v5 v6 v7:Value}{sv:List (zH×Value)}{cv:List (zZ×Value)}{av:List (ze×Value×Value)}(h:zP w b S s v5 v6 v7)(hS:S.size<=400)(hi:s.i<=S.size)(hp:yZ w lo b F v5 v6 v7 sv cv av)(hn:sv.length<=450):
 Calls Tryz.prog 117 #[.pointer (some ⟨b,0,none⟩)] w (Jp w b S v5 v6 v7 Qf (yK S (sv.map fun p=>p.1.name) s)):=by
 go_enter Tryz.func117,Tryz.ntmps117;go_wp2_with fail;refine(MR h hS hi).mono ?_;rintro e w1 ⟨g1,⟨⟨x,p⟩,s1,v,hl,rfl,hv,h1⟩|⟨d,hl,hg⟩⟩
 ·unfold Yr at hv
  subst hv
  have HR:Hd (yK S (sv.map fun p=>p.1.name) s= .ok (zy (sv.map fun p=>p.1.name) x,zL (decide (zy (sv.map fun p=>p.1.name) x<0)) 5 p s1)):=by show _=_;simp only[yK,hl]
  clear hl;have hp1:=hp.kp g1 (by simp);go_wp2_with fail;refine(Ml h1.fa.2.2.2.2.2.1 h1.lt hp1.rs (by omega) x).mono ?_;rintro e w2 ⟨rfl,g2⟩;have h2:=h1.kp g2 (by simp);generalize zy (sv.map fun p=>p.1.name) x=ix at *;go_wp2_with fail;refine(L6 h2 ix p).mono ?_;rintro e w3 ⟨rfl,h3,g3⟩;go_wp2_with fail;go_ret;exact⟨(g1.trans (g2.mono (by simp))).trans g3,Or.inl ⟨ix,_,_,HR.o,rfl,rfl,h3⟩⟩
 ·have HR:Hd (yK S (sv.map fun p=>p.1.name) s= .error d):=by show _=_;simp only[yK,hl]
  clear hl;obtain⟨rfl,ht⟩:=hg;exact zY rfl ⟨g1,Or.inr ⟨d,HR.o,⟨rfl,ht⟩⟩⟩
theorem MU{w:World}{lo b:Nat}{S:ByteArray}{s:St}{F:Nat->Prop}{v5 v6 v7:Value}{sv:List (zH×Value)}{cv:List (zZ×Value)}{av:List (ze×Value×Value)}(h:zP w b S s v5 v6 v7)(hS:S.size<=400)(hi:s.i<=S.size)(hp:yZ w lo b F v5 v6 v7 sv cv av)(hn:cv.length<=450):
 Calls Tryz.prog 118 #[.pointer (some ⟨b,0,none⟩)] w (Jp w b S v5 v6 v7 Qf (yK S (cv.map fun p=>p.1.name) s)):=by
 go_enter Tryz.func118,Tryz.ntmps118;go_wp2_with fail;refine(MR h hS hi).mono ?_;rintro e w1 ⟨g1,⟨⟨x,p⟩,s1,v,hl,rfl,hv,h1⟩|⟨d,hl,hg⟩⟩
 ·unfold Yr at hv
  subst hv
  have HR:Hd (yK S (cv.map fun p=>p.1.name) s= .ok (zy (cv.map fun p=>p.1.name) x,zL (decide (zy (cv.map fun p=>p.1.name) x<0)) 5 p s1)):=by show _=_;simp only[yK,hl]
  clear hl;have hp1:=hp.kp g1 (by simp);go_wp2_with fail;refine(M8 h1.fa.2.2.2.2.2.2.1 h1.lt hp1.rc (by omega) x).mono ?_;rintro e w2 ⟨rfl,g2⟩;have h2:=h1.kp g2 (by simp);generalize zy (cv.map fun p=>p.1.name) x=ix at *;go_wp2_with fail;refine(L6 h2 ix p).mono ?_;rintro e w3 ⟨rfl,h3,g3⟩;go_wp2_with fail;go_ret;exact⟨(g1.trans (g2.mono (by simp))).trans g3,Or.inl ⟨ix,_,_,HR.o,rfl,rfl,h3⟩⟩
 ·have HR:Hd (yK S (cv.map fun p=>p.1.name) s= .error d):=by show _=_;simp only[yK,hl]
  clear hl;obtain⟨rfl,ht⟩:=hg;exact zY rfl ⟨g1,Or.inr ⟨d,HR.o,⟨rfl,ht⟩⟩⟩
def YV(S:ByteArray)(ns nc:List ByteArray)(s:St):Except Nat (ByteArray×St):=
 match yA S s with
 |.error d=> .error d
 |.ok ((x,a),s1)=> .ok (x,zL (ZS ns nc x) 4 a s1)
theorem LS{w:World}{lo b:Nat}{S:ByteArray}{s:St}{F:Nat->Prop}{v5 v6 v7:Value}{sv:List (zH×Value)}{cv:List (zZ×Value)}{av:List (ze×Value×Value)}(h:zP w b S s v5 v6 v7)(hS:S.size<=400)(hi:s.i<=S.size)(hp:yZ w lo b F v5 v6 v7 sv cv av)(hn:sv.length<=450)(hc:cv.length<=450):
 Calls Tryz.prog 114 #[.pointer (some ⟨b,0,none⟩)] w (Jp w b S v5 v6 v7 WI (YV S (sv.map fun p=>p.1.name) (cv.map fun p=>p.1.name) s)):=by
 go_enter Tryz.func114,Tryz.ntmps114;go_wp2_with fail;refine(MR h hS hi).mono ?_;rintro e w1 ⟨g1,⟨⟨x,p⟩,s1,v,hl,rfl,hv,h1⟩|⟨d,hl,hg⟩⟩
 ·unfold Yr at hv
  subst hv
  have HR:Hd (YV S (sv.map fun p=>p.1.name) (cv.map fun p=>p.1.name) s= .ok (x,zL (decide (0<=zy (sv.map fun p=>p.1.name) x\/0<=zy (cv.map fun p=>p.1.name) x)) 4 p s1)):=by show _=_;simp only[YV,hl,ZS]
  clear hl;have hp1:=hp.kp g1 (by simp);go_wp2_with fail;refine(Ml h1.fa.2.2.2.2.2.1 h1.lt hp1.rs (by omega) x).mono ?_;rintro e w2 ⟨rfl,g2⟩;have h2:=h1.kp g2 (by simp);have hp2:=hp1.kp g2 (by simp);generalize zy (sv.map fun p=>p.1.name) x=ix at *
  by_cases hx:0<=ix
  ·have HD:Hd (∀iy:Int,decide (0<=ix\/0<=iy)=true):=fun iy=>decide_eq_true (Or.inl hx)
   have hx':decide (0<=ix)=true:=decide_eq_true hx;go_wp2_with fail;refine(Qm h2 4 p).mono ?_;rintro e w3 ⟨rfl,h3,g3⟩;go_wp2_with fail;go_ret;exact⟨(g1.trans (g2.mono (by simp))).trans g3,Or.inl ⟨x,_,_,HR.o,rfl,rfl,by rw[HD.o];exact h3⟩⟩
  ·have hx':decide (0<=ix)=false:=decide_eq_false hx
   go_wp2_with fail;refine(M8 h2.fa.2.2.2.2.2.2.1 h2.lt hp2.rc (by omega) x).mono ?_;rintro e w3 ⟨rfl,g3⟩;have h3:=h2.kp g3 (by simp);generalize zy (cv.map fun p=>p.1.name) x=iy at *
   by_cases hy:0<=iy
   ·have HD:Hd (decide (0<=ix\/0<=iy)=true):=decide_eq_true (Or.inr hy)
    have hy':decide (0<=iy)=true:=decide_eq_true hy;go_wp2_with fail;refine(Qm h3 4 p).mono ?_;rintro e w4 ⟨rfl,h4,g4⟩;go_wp2_with fail;go_ret;exact⟨((g1.trans (g2.mono (by simp))).trans (g3.mono (by simp))).trans g4,Or.inl ⟨x,_,_,HR.o,rfl,rfl,by rw[HD.o];exact h4⟩⟩
   ·have HD:Hd (decide (0<=ix\/0<=iy)=false):=decide_eq_false (by omega)
    have hy':decide (0<=iy)=false:=decide_eq_false hy;go_wp2_with fail;go_ret;exact⟨(g1.trans (g2.mono (by simp))).trans (g3.mono (by simp)),Or.inl ⟨x,_,_,HR.o,rfl,rfl,by rw[HD.o,Zo];exact h3⟩⟩
 ·have HR:Hd (YV S (sv.map fun p=>p.1.name) (cv.map fun p=>p.1.name) s= .error d):=by show _=_;simp only[YV,hl]
  clear hl;obtain⟨rfl,ht⟩:=hg;exact zY rfl ⟨g1,Or.inr ⟨d,HR.o,⟨rfl,ht⟩⟩⟩
theorem yZ.addScrub{W w8:World}{lo b g H:Nat}{F G:Nat->Prop}{v5 v6 v7:Value}{sv:List (zH×Value)}{cv:List (zZ×Value)}{av:List (ze×Value×Value)}(hp:yZ W lo b F v5 v6 v7 sv cv av){D:zH}{vr:Value}{cap:Nat}(hG:∀k,G k->lo<=k/\k<W.heap.size/\k≠b/\v5.ownBlock≠some k/\v6.ownBlock≠some k/\v7.ownBlock≠some k)
 (hrep:JO W G vr D.rules) (own:w8.ownsRow 0 118 5 (.slice (some ⟨g,0,none⟩) (sv.length+1) cap) (sv.length+1) (jp sv++jp [(D,vr)])) (fr:∀k,k<W.heap.size->v5.ownBlock≠some k->k≠b->w8.heap[k]? =W.heap[k]?) (hat:v5.ownBlock=some g\/g=H) (hH:W.heap.size<=H) (hlt:g<w8.heap.size) (hz:W.heap.size<=w8.heap.size) (hlo:lo<=W.heap.size) (hb:b<W.heap.size):
 yZ w8 lo b (fun k=>F k\/G k) (.slice (some ⟨g,0,none⟩) (sv.length+1) cap) v6 v7 (sv++[(D,vr)]) cv av:=by
 have frF:∀k,F k->w8.heap[k]? =W.heap[k]? :=fun k hk=>fr k (hp.f k hk).2.1 (fun e=>(hp.bs k e).2.2.2.2.2 hk) (hp.f k hk).2.2
 have frG:∀k,G k->w8.heap[k]? =W.heap[k]? :=fun k hk=>fr k (hG k hk).2.1 (by have:=hG k hk;simp_all) (hG k hk).2.2.1
 have hg:lo<=g/\g<w8.heap.size/\g≠b/\v6.ownBlock≠some g/\v7.ownBlock≠some g/\¬(F g\/G g):=by
  rcases hat with e|e
  ·obtain⟨a1,a2,a3,a4,a5,a6⟩:=hp.bs g e
   refine⟨a1,hlt,a3,a4,a5,?_⟩;rintro(h1|h1)
   ·exact a6 h1
   ·have:=hG g h1;simp_all
  ·refine⟨by omega,hlt,by omega,fun e2=>by have:=hp.bc g e2;omega,fun e2=>by have:=hp.ba g e2;omega,?_⟩
   rintro(h1|h1)
   ·have:=hp.f g h1;omega
   ·have:=hG g h1;omega
 have hne:∀k,k≠g->¬(Value.slice (some ⟨g,0,none⟩) (sv.length+1) cap).ownBlock=some k:=by
  intro k hk;simp[Value.ownBlock];intro e;exact hk e.symm
 have hFG:∀k,¬F k->(∀h:G k,False)->¬(F k\/G k):=by
  rintro k h1 h2 (h3|h3)
  ·exact h1 h3
  ·exact h2 h3
 exact {
  rs:=by rw[List.length_append];simp only[jp,List.flatMap_append]at own ⊢;exact own
  rc:=ju hp.rc (fun k hk=>fr k (hp.bc k hk).2.1 (by have:=hp.bc k hk;simp_all) (hp.bc k hk).2.2.1)
  ra:=ju hp.ra (fun k hk=>fr k (hp.ba k hk).2.1 (by have:=hp.ba k hk;simp_all) (hp.ba k hk).2.2.1)
  ps:=by
   intro p hp'
   rcases List.mem_append.1 hp' with h1|h1
   ·exact(hp.ps p h1).frame frF (fun _ h=>Or.inl h)
   ·simp at h1;subst h1;exact hrep.frame frG (fun _ h=>Or.inr h)
  pc:=fun p h1=>(hp.pc p h1).frame frF (fun _ h=>Or.inl h)
  pa:=fun p h1=>(hp.pa p h1).frame frF (fun _ h=>Or.inl h)
  bs:=by intro k hk;simp[Value.ownBlock]at hk;subst hk;exact hg
  bc:=by
   intro k hk;have a:=hp.bc k hk
   have n1:k≠g:=by rintro rfl;exact hg.2.2.2.1 hk
   have hF:=hFG k a.2.2.2.2.2 (fun h=>by have:=hG k h;simp_all);refine⟨a.1,by omega,a.2.2.1,?_,?_,hF⟩
   all_goals first|exact hne k n1|exact a.2.2.2.1|exact a.2.2.2.2.1
  ba:=by
   intro k hk;have a:=hp.ba k hk
   have n1:k≠g:=by rintro rfl;exact hg.2.2.2.2.1 hk
   have hF:=hFG k a.2.2.2.2.2 (fun h=>by have:=hG k h;simp_all);refine⟨a.1,by omega,a.2.2.1,?_,?_,hF⟩
   all_goals first|exact hne k n1|exact a.2.2.2.1|exact a.2.2.2.2.1
  f:=by
   rintro k (h1|h1)
   ·have a:=hp.f k h1;exact⟨a.1,by omega,a.2.2⟩
   ·have a:=hG k h1;exact⟨a.1,by omega,a.2.2.1⟩}
theorem yZ.addChain{W w8:World}{lo b g H:Nat}{F G:Nat->Prop}{v5 v6 v7:Value}{sv:List (zH×Value)}{cv:List (zZ×Value)}{av:List (ze×Value×Value)}(hp:yZ W lo b F v5 v6 v7 sv cv av){D:zZ}{vr:Value}{cap:Nat}(hG:∀k,G k->lo<=k/\k<W.heap.size/\k≠b/\v5.ownBlock≠some k/\v6.ownBlock≠some k/\v7.ownBlock≠some k)
 (hrep:j9 W G vr D.scrubs) (own:w8.ownsRow 0 79 2 (.slice (some ⟨g,0,none⟩) (cv.length+1) cap) (cv.length+1) (jI cv++jI [(D,vr)])) (fr:∀k,k<W.heap.size->v6.ownBlock≠some k->k≠b->w8.heap[k]? =W.heap[k]?) (hat:v6.ownBlock=some g\/g=H) (hH:W.heap.size<=H) (hlt:g<w8.heap.size) (hz:W.heap.size<=w8.heap.size) (hlo:lo<=W.heap.size) (hb:b<W.heap.size):
 yZ w8 lo b (fun k=>F k\/G k) v5 (.slice (some ⟨g,0,none⟩) (cv.length+1) cap) v7 sv (cv++[(D,vr)]) av:=by
 have frF:∀k,F k->w8.heap[k]? =W.heap[k]? :=fun k hk=>fr k (hp.f k hk).2.1 (fun e=>(hp.bc k e).2.2.2.2.2 hk) (hp.f k hk).2.2
 have frG:∀k,G k->w8.heap[k]? =W.heap[k]? :=fun k hk=>fr k (hG k hk).2.1 (by have:=hG k hk;simp_all) (hG k hk).2.2.1
 have hg:lo<=g/\g<w8.heap.size/\g≠b/\v5.ownBlock≠some g/\v7.ownBlock≠some g/\¬(F g\/G g):=by
  rcases hat with e|e
  ·obtain⟨a1,a2,a3,a4,a5,a6⟩:=hp.bc g e
   refine⟨a1,hlt,a3,a4,a5,?_⟩;rintro(h1|h1)
   ·exact a6 h1
   ·have:=hG g h1;simp_all
  ·refine⟨by omega,hlt,by omega,fun e2=>by have:=hp.bs g e2;omega,fun e2=>by have:=hp.ba g e2;omega,?_⟩
   rintro(h1|h1)
   ·have:=hp.f g h1;omega
   ·have:=hG g h1;omega
 have hne:∀k,k≠g->¬(Value.slice (some ⟨g,0,none⟩) (cv.length+1) cap).ownBlock=some k:=by
  intro k hk;simp[Value.ownBlock];intro e;exact hk e.symm
 have hFG:∀k,¬F k->(∀h:G k,False)->¬(F k\/G k):=by
  rintro k h1 h2 (h3|h3)
  ·exact h1 h3
  ·exact h2 h3
 exact {
  rs:=ju hp.rs (fun k hk=>fr k (hp.bs k hk).2.1 (by have:=hp.bs k hk;simp_all) (hp.bs k hk).2.2.1)
  rc:=by rw[List.length_append];simp only[jI,List.flatMap_append]at own ⊢;exact own
  ra:=ju hp.ra (fun k hk=>fr k (hp.ba k hk).2.1 (by have:=hp.ba k hk;simp_all) (hp.ba k hk).2.2.1)
  ps:=fun p h1=>(hp.ps p h1).frame frF (fun _ h=>Or.inl h)
  pc:=by
   intro p hp'
   rcases List.mem_append.1 hp' with h1|h1
   ·exact(hp.pc p h1).frame frF (fun _ h=>Or.inl h)
   ·simp at h1;subst h1;exact hrep.frame frG (fun _ h=>Or.inr h)
  pa:=fun p h1=>(hp.pa p h1).frame frF (fun _ h=>Or.inl h)
  bc:=by intro k hk;simp[Value.ownBlock]at hk;subst hk;exact hg
  bs:=by
   intro k hk;have a:=hp.bs k hk
   have n1:k≠g:=by rintro rfl;exact hg.2.2.2.1 hk
   have hF:=hFG k a.2.2.2.2.2 (fun h=>by have:=hG k h;simp_all);refine⟨a.1,by omega,a.2.2.1,?_,?_,hF⟩
   all_goals first|exact hne k n1|exact a.2.2.2.1|exact a.2.2.2.2.1
  ba:=by
   intro k hk;have a:=hp.ba k hk
   have n1:k≠g:=by rintro rfl;exact hg.2.2.2.2.1 hk
   have hF:=hFG k a.2.2.2.2.2 (fun h=>by have:=hG k h;simp_all);refine⟨a.1,by omega,a.2.2.1,?_,?_,hF⟩
   all_goals first|exact hne k n1|exact a.2.2.2.1|exact a.2.2.2.2.1
  f:=by
   rintro k (h1|h1)
   ·have a:=hp.f k h1;exact⟨a.1,by omega,a.2.2⟩
   ·have a:=hG k h1;exact⟨a.1,by omega,a.2.2.1⟩}
theorem yZ.addCheck{W w8:World}{lo b g H:Nat}{F G:Nat->Prop}{v5 v6 v7:Value}{sv:List (zH×Value)}{cv:List (zZ×Value)}{av:List (ze×Value×Value)}(hp:yZ W lo b F v5 v6 v7 sv cv av){D:ze}{vr:Value×Value}{cap:Nat}(hG:∀k,G k->lo<=k/\k<W.heap.size/\k≠b/\v5.ownBlock≠some k/\v6.ownBlock≠some k/\v7.ownBlock≠some k)
 (hrep:QG W G vr.1 vr.2 D) (own:w8.ownsRow 0 87 3 (.slice (some ⟨g,0,none⟩) (av.length+1) cap) (av.length+1) (ZY av++ZY [(D,vr)])) (fr:∀k,k<W.heap.size->v7.ownBlock≠some k->k≠b->w8.heap[k]? =W.heap[k]?) (hat:v7.ownBlock=some g\/g=H) (hH:W.heap.size<=H) (hlt:g<w8.heap.size) (hz:W.heap.size<=w8.heap.size) (hlo:lo<=W.heap.size) (hb:b<W.heap.size):
 yZ w8 lo b (fun k=>F k\/G k) v5 v6 (.slice (some ⟨g,0,none⟩) (av.length+1) cap) sv cv (av++[(D,vr)]):=by
 have frF:∀k,F k->w8.heap[k]? =W.heap[k]? :=fun k hk=>fr k (hp.f k hk).2.1 (fun e=>(hp.ba k e).2.2.2.2.2 hk) (hp.f k hk).2.2
 have frG:∀k,G k->w8.heap[k]? =W.heap[k]? :=fun k hk=>fr k (hG k hk).2.1 (by have:=hG k hk;simp_all) (hG k hk).2.2.1
 have hg:lo<=g/\g<w8.heap.size/\g≠b/\v5.ownBlock≠some g/\v6.ownBlock≠some g/\¬(F g\/G g):=by
  rcases hat with e|e
  ·obtain⟨a1,a2,a3,a4,a5,a6⟩:=hp.ba g e
   refine⟨a1,hlt,a3,a4,a5,?_⟩;rintro(h1|h1)
   ·exact a6 h1
   ·have:=hG g h1;simp_all
  ·refine⟨by omega,hlt,by omega,fun e2=>by have:=hp.bs g e2;omega,fun e2=>by have:=hp.bc g e2;omega,?_⟩
   rintro(h1|h1)
   ·have:=hp.f g h1;omega
   ·have:=hG g h1;omega
 have hne:∀k,k≠g->¬(Value.slice (some ⟨g,0,none⟩) (av.length+1) cap).ownBlock=some k:=by
  intro k hk;simp[Value.ownBlock];intro e;exact hk e.symm
 have hFG:∀k,¬F k->(∀h:G k,False)->¬(F k\/G k):=by
  rintro k h1 h2 (h3|h3)
  ·exact h1 h3
  ·exact h2 h3
 exact {
  rs:=ju hp.rs (fun k hk=>fr k (hp.bs k hk).2.1 (by have:=hp.bs k hk;simp_all) (hp.bs k hk).2.2.1)
  rc:=ju hp.rc (fun k hk=>fr k (hp.bc k hk).2.1 (by have:=hp.bc k hk;simp_all) (hp.bc k hk).2.2.1)
  ra:=by rw[List.length_append];simp only[ZY,List.flatMap_append]at own ⊢;exact own
  ps:=fun p h1=>(hp.ps p h1).frame frF (fun _ h=>Or.inl h)
  pc:=fun p h1=>(hp.pc p h1).frame frF (fun _ h=>Or.inl h)
  pa:=by
   intro p hp'
   rcases List.mem_append.1 hp' with h1|h1
   ·exact(hp.pa p h1).frame frF (fun _ h=>Or.inl h)
   ·simp at h1;subst h1;exact hrep.frame frG (fun _ h=>Or.inr h)
  ba:=by intro k hk;simp[Value.ownBlock]at hk;subst hk;exact hg
  bs:=by
   intro k hk;have a:=hp.bs k hk
   have n1:k≠g:=by rintro rfl;exact hg.2.2.2.1 hk
   have hF:=hFG k a.2.2.2.2.2 (fun h=>by have:=hG k h;simp_all);refine⟨a.1,by omega,a.2.2.1,?_,?_,hF⟩
   all_goals first|exact hne k n1|exact a.2.2.2.1|exact a.2.2.2.2.1
  bc:=by
   intro k hk;have a:=hp.bc k hk
   have n1:k≠g:=by rintro rfl;exact hg.2.2.2.2.1 hk
   have hF:=hFG k a.2.2.2.2.2 (fun h=>by have:=hG k h;simp_all);refine⟨a.1,by omega,a.2.2.1,?_,?_,hF⟩
   all_goals first|exact hne k n1|exact a.2.2.2.1|exact a.2.2.2.2.1
  f:=by
   rintro k (h1|h1)
   ·have a:=hp.f k h1;exact⟨a.1,by omega,a.2.2⟩
   ·have a:=hG k h1;exact⟨a.1,by omega,a.2.2.1⟩}
theorem Bf:(Tryz.prog.info? 118).map (fun i=>(i.zero,i.size,i.bytes))=some (some (.agg #[.string ⟨#[]⟩,.int .i64 0,.slice none 0 0,.string ⟨#[]⟩,.string ⟨#[]⟩]),5,80):=by kernel_rfl
theorem Pu:(Tryz.prog.info? 79).map (fun i=>(i.zero,i.size,i.bytes))=some (some (.agg #[.string ⟨#[]⟩,.slice none 0 0]),2,40):=by kernel_rfl
theorem Sy:(Tryz.prog.info? 87).map (fun i=>(i.zero,i.size,i.bytes))=some (some (.agg #[.int .i64 0,.slice none 0 0,.slice none 0 0]),3,56):=by kernel_rfl
structure YM(lo b:Nat)(w w':World):Prop where
 os:w'.os=w.os
 tape:w'.tape=w.tape
 output:w'.output=w.output
 size:w.heap.size<=w'.heap.size
 block:∀k,k<lo->k≠b->w'.heap[k]? =w.heap[k]?
theorem YM.refl(lo b:Nat)(w:World):YM lo b w w:=⟨rfl,rfl,rfl,Nat.le_refl _,fun _ _ _=>rfl⟩
theorem YM.trans{lo b:Nat}{w1 w2 w3:World}(h:YM lo b w1 w2)(k:YM lo b w2 w3):YM lo b w1 w3:=
 ⟨k.os.trans h.os,k.tape.trans h.tape,k.output.trans h.output,Nat.le_trans h.size k.size,fun i hi hb=>(k.block i hi hb).trans (h.block i hi hb)⟩
theorem Ch.belb{X:List Nat}{w w':World}(h:Ch X w w'){lo b:Nat}(hB:lo<=w.heap.size)(hX:∀k,k∈X->k=b\/lo<=k):YM lo b w w':=
 ⟨h.os,h.tape,h.output,h.size,fun k hk hb=>h.block k (by omega) (fun hx=>by rcases hX k hx with e|e <;>omega)⟩
def YB(w:World)(lo b:Nat)(S:ByteArray)(r:Except Nat (yt×St))(e:Ending)(w':World):Prop:=
 YM lo b w w'/\((∃s' F v5 v6 v7 sv cv av,r= .ok (⟨sv.map (fun p=>p.1),cv.map (fun p=>p.1),av.map (fun p=>p.1)⟩,s')/\e= .returned (.tuple #[])/\zP w' b S s' v5 v6 v7/\yZ w' lo b F v5 v6 v7 sv cv av/\s'.i<=S.size)\/(∃d,r= .error d/\Zv w' b S d e))
def jg(S:ByteArray)(W:ByteArray)(D:yt)(s:St):Except Nat (yt×St):=
 match yI S [W] s with
 |.error d=> .error d
 |.ok ((_,p),s1)=>jb S W p D s1
theorem OI{S:ByteArray}{x:ByteArray}{s:St}(hi:s.i<=S.size)(h:zV S (run zI S s.i)=11):JA S x s=match jG S (s.sk S)with|.error d=> .error d|.ok ((a,c),s3)=> .ok (⟨x,true,a,c,[]⟩,s3):=by
 have l1:=zn zI S s.i hi
 have hne:¬bt S (run zI S s.i)=123:=by
  intro e;have:=(Yv l1.2 (k:=6) (c:=123) (by simp[jd])).2 e;omega
 unfold JA;rw[if_neg hne]
 cases jG S (s.sk S)with
 |error d=>rfl
 |ok q=>rfl
theorem TL{S:ByteArray}{x:ByteArray}{s:St}(hi:s.i<=S.size)(h:¬zV S (run zI S s.i)=11):JA S x s=match ZF S (s.sk S)with|.error d=> .error d|.ok (R,s5)=> .ok (⟨x,false,ByteArray.empty,ByteArray.empty,R⟩,s5):=by
 have l1:=zn zI S s.i hi
 by_cases hb:bt S (run zI S s.i)=123
 ·unfold JA ZF
  rw[if_pos hb]
  cases zh S 123 (s.sk S)with
  |error d=>rfl
  |ok s3=>
   simp only
   cases jj S (S.size+1) s3 []with
   |error d=>rfl
   |ok q=>
    obtain⟨R,s4⟩:=q;simp only
    cases zh S 125 s4 with
    |error d=>rfl
    |ok s5=>rfl
 ·unfold JA
  rw[if_neg hb]
  have h1:ZF S (s.sk S)= .error (run zI S s.i):=by
   unfold ZF zh;simp only[yT,ZJ,if_neg hb]
  have h2:jG S (s.sk S)= .error (run zI S s.i):=by
   have:¬JS [Jt] (S.extract (run zI S s.i) (run zR S (run zI S s.i)))=true:=by
    rw[Jv];simp only[List.mem_cons,List.not_mem_nil,or_false];intro e;exact h ((Zm l1.2 (k:=11) (by omega) rfl).2 e)
   unfold jG yI;simp only[yT,ZJ,if_neg this]
  rw[h1,h2]
theorem Bv{w W:World}{lo b:Nat}{S:ByteArray}{F G:Nat->Prop}{a0:Option Addr}{c0:Nat}{v6 v7:Value}{sv:List (zH×Value)}{cv:List (zZ×Value)}{av:List (ze×Value×Value)}{s':St}{R:Except Nat (yt×St)}{D:zH}{vr:Value}
 (hp:yZ w lo b F (.slice a0 sv.length c0) v6 v7 sv cv av) (gW:Ch [b] w W) (hlo:lo<=w.heap.size) (hbl:b<w.heap.size) (hW:zP W b S s' (.slice a0 sv.length c0) v6 v7) (hi:s'.i<=S.size)
 (hR:R= .ok (⟨(sv++[(D,vr)]).map (fun p=>p.1),cv.map (fun p=>p.1),av.map (fun p=>p.1)⟩,s')) (hrep:JO W G vr D.rules) (hG:∀k,G k->w.heap.size<=k/\k<W.heap.size) {k1:Int} (hk:k1=if D.swap then 1 else 0):
 ∀(g cap:Nat) (w7:World),w7.ownsRow 0 118 5 (.slice (some ⟨g,0,none⟩) (sv.length+1) cap) (sv.length+1) (jp sv++[.string D.name,.int .i64 k1,vr,.string D.one,.string D.two])->Ch (Value.slice a0 sv.length c0).ownBlock.toList (W.drew.alloc (.cells #[.string D.name,.int .i64 k1,vr,.string D.one,.string D.two] 118)) w7->((Value.slice a0 sv.length c0).ownBlock=some g\/g=W.heap.size+1)->g<w7.heap.size->
  YB w lo b S R (.returned (.tuple #[])) (w7.setCell ⟨b,5,none⟩ (.slice (some ⟨g,0,none⟩) (sv.length+1) cap)):=by
 intro g cap w7 own7 gr7 hat7 hlt7;have gA:Ch [] W (W.drew.alloc (.cells #[.string D.name,.int .i64 k1,vr,.string D.one,.string D.two] 118)):=(Ch.drew [] W).trans (Ch.alloc _ _ _)
 have zA:(W.drew.alloc (.cells #[.string D.name,.int .i64 k1,vr,.string D.one,.string D.two] 118)).heap.size=W.heap.size+1:=by
  show(W.heap.push _).size=_;simp
 have zW:=gW.size;have hpW:=hp.kp gW (by simp)
 have nb:b∉(Value.slice a0 sv.length c0).ownBlock.toList:=by simp;intro e;exact(hp.bs b e).2.2.1 rfl
 have gD:Ch [b] w7 (w7.setCell ⟨b,5,none⟩ (.slice (some ⟨g,0,none⟩) (sv.length+1) cap)):=Ch.setCell _ (by simp) _;have z7:=gr7.size;have h8:=(((hW.kp gA (by simp)).kp gr7 nb).set.2.2.2.2.1) (.slice (some ⟨g,0,none⟩) (sv.length+1) cap)
 have hz8:(w7.setCell ⟨b,5,none⟩ (.slice (some ⟨g,0,none⟩) (sv.length+1) cap)).heap.size=w7.heap.size:=by simp[World.setCell]
 have hgb:g≠b:=by
  rcases hat7 with e|e
  ·exact(hp.bs g e).2.2.1
  ·omega
 refine⟨?_,Or.inl ⟨s',fun k=>F k\/G k,_,_,_,_,_,_,hR,rfl,h8,?_,hi⟩⟩
 ·refine((gW.trans (gA.mono (by simp))).belb (by omega) (by simp)).trans ((gr7.belb (by omega) ?_).trans (gD.belb (by omega) (by simp)))
  intro k hk;simp at hk;exact Or.inr (hp.bs k hk).1
 ·refine hpW.addScrub (D:=D) (vr:=vr) (H:=W.heap.size+1) (fun k hk=> ?_) hrep ?_ (fun k h1 h2 h3=> ?_) hat7 (by omega) (by omega) (by omega) (by omega) (by omega)
  ·have h1:=hG k hk
   refine⟨by omega,by omega,by omega,fun e=> ?_,fun e=> ?_,fun e=> ?_⟩
   ·have:=hp.bs k e;omega
   ·have:=hp.bc k e;omega
   ·have:=hp.ba k e;omega
  ·rw[show jp [(D,vr)]=[.string D.name,.int .i64 k1,vr,.string D.one,.string D.two]from by rw[hk];rfl]
   exact zJ own7 gD (fun k hk=>by simp[Value.ownBlock]at hk;subst hk;simpa using hgb)
  ·rw[Below.heap_setCell _ _ _ _ (by simpa using h3),gr7.block k (by omega) (by simpa using h2),gA.block k h1 (by simp)]
theorem XG(sv:List (zH×Value)):(sv.map fun p=>p.1).map (fun q=>q.name)=sv.map fun p=>p.1.name:=by simp
theorem Wy(sv:List (zZ×Value)):(sv.map fun p=>p.1).map (fun q=>q.name)=sv.map fun p=>p.1.name:=by simp
theorem Dm:yQ Ji Ji=true:=by decide
theorem Tl{w:World}{lo b:Nat}{S:ByteArray}{s:St}{F:Nat->Prop}{v5 v6 v7:Value}{sv:List (zH×Value)}{cv:List (zZ×Value)}{av:List (ze×Value×Value)}(h:zP w b S s v5 v6 v7)(hS:S.size<=400)(hi:s.i<=S.size)(hp:yZ w lo b F v5 v6 v7 sv cv av)(hlo:lo<=w.heap.size)(hn:sv.length<=400)(hc:cv.length<=400):
 Calls Tryz.prog 76 #[.pointer (some ⟨b,0,none⟩)] w (YB w lo b S (jg S Ji ⟨sv.map (fun p=>p.1),cv.map (fun p=>p.1),av.map (fun p=>p.1)⟩ s)):=by
 obtain⟨a0,c0,rfl⟩:=zQ hp.rs;have hbl:=h.lt;generalize hR0:jg S Ji ⟨sv.map (fun p=>p.1),cv.map (fun p=>p.1),av.map (fun p=>p.1)⟩ s=R;have HR0:=zC hR0;clear hR0;go_enter Tryz.func76,Tryz.ntmps76;go_wp2_with fail;refine(Qx h hS hi (k:=10) (W:=Ji) (by omega) rfl).mono ?_;rintro e w1 ⟨g1,⟨x1,p1,s1,hl1,rfl,h1,hi1⟩|⟨d,hl,hg⟩⟩
 ·have HR1:Hd (∀r,YV S (sv.map fun p=>p.1.name) (cv.map fun p=>p.1.name) (zL (decide (6<=(sv.length:Int))) 3 p1 s1)=r->(∀d,r= .error d->R= .error d)/\
   (∀x s3,r= .ok (x,s3)->(∀d,JA S x s3= .error d->R= .error d)/\(∀q s4,JA S x s3= .ok (q,s4)->R= .ok (⟨sv.map (fun p=>p.1)++[q],cv.map (fun p=>p.1),av.map (fun p=>p.1)⟩,s4)))):=by
   intro r hr
   have hlen:((sv.map fun p=>p.1.name).length:Int)=sv.length:=by simp
   unfold YV at hr
   have hsc:∀r',j8 S (sv.map fun p=>p.1.name) (cv.map fun p=>p.1.name) p1 s1=r'->(∀d,r'= .error d->R= .error d)/\(∀q s4,r'= .ok (q,s4)->R= .ok (⟨sv.map (fun p=>p.1)++[q],cv.map (fun p=>p.1),av.map (fun p=>p.1)⟩,s4)):=by
    intro r' hr';refine⟨fun d e=> ?_,fun q s4 e=> ?_⟩
    ·subst e;rw[<- HR0.o];simp only[jg,hl1,jb,Dm,if_true,XG,Wy,hr']
    ·subst e;rw[<- HR0.o];simp only[jg,hl1,jb,Dm,if_true,XG,Wy,hr']
   unfold j8 at hsc;rw[hlen]at hsc
   cases hnm:yA S (zL (decide (6<=(sv.length:Int))) 3 p1 s1)with
   |error d0=>
    rw[hnm]at hr hsc;refine⟨fun d e=> ?_,fun x s3 e=> ?_⟩
    ·subst e;injection hr with hr;subst hr;exact(hsc _ rfl).1 _ rfl
    ·subst e;cases hr
   |ok q0=>
    obtain⟨⟨x0,a0'⟩,s0⟩:=q0;rw[hnm]at hr hsc;simp only at hr hsc;refine⟨fun d e=> ?_,fun x s3 e=> ?_⟩
    ·subst e;cases hr
    ·subst e
     injection hr with hr;injection hr with e1 e2;subst e1 e2
     exact⟨fun d e=>(hsc _ e).1 _ rfl,fun q s4 e=>(hsc _ e).2 _ _ rfl⟩
  clear hl1;obtain⟨c0',c1,c2,c3,c4,c5,c6,c7,fz⟩:=h1.fa;go_wp2_with fail;refine(QF h1 _ 6 _).mono ?_;rintro e w2 ⟨rfl,h2,g2⟩;clear c0' c1 c2 c3 c4 c5 c6 c7 fz
  have hi2:(zL (decide (6<=(sv.length:Int))) 3 p1 s1).i<=S.size:=by rw[ym];exact hi1
  have hp2:=hp.kp (g1.trans g2) (by simp);generalize zL (decide (6<=(sv.length:Int))) 3 p1 s1=s2 at *;go_wp2_with fail;refine(LS h2 hS hi2 hp2 (by omega) (by omega)).mono ?_;rintro e w3 ⟨g3,⟨x,s3,v,hl,rfl,hv,h3⟩|⟨d,hl,hg⟩⟩
  ·unfold WI at hv
   subst hv;have HR3:=zC ((HR1.o _ hl).2 _ _ rfl)
   have hi3:s3.i<=S.size:=by
    unfold YV at hl
    cases hnm:yA S s2 with
    |error d0=>rw[hnm]at hl;cases hl
    |ok q0=>
     obtain⟨⟨x0,a0'⟩,s0⟩:=q0;rw[hnm]at hl
     injection hl with hl;injection hl with _ hl;subst hl
     rw[ym];exact(Ur hi2 hnm).2.1
   clear hl HR1;have G3:=(g1.trans g2).trans g3;have z3:=G3.size;have l3:=zn zI S s3.i hi3;have h4:=h3.kp (Ch.alloc [] w3 (.cells #[.string x,.int .i64 0,.slice none 0 0,.string ⟨#[]⟩,.string ⟨#[]⟩] 118)) (by simp);have X4:=zE.new w3 #[.string x,.int .i64 0,.slice none 0 0,.string ⟨#[]⟩,.string ⟨#[]⟩] 118;have G4:=G3.trans (Ch.alloc [b] w3 (.cells #[.string x,.int .i64 0,.slice none 0 0,.string ⟨#[]⟩,.string ⟨#[]⟩] 118));go_wp2_with fail;generalize w3.alloc (.cells #[.string x,.int .i64 0,.slice none 0 0,.string ⟨#[]⟩,.string ⟨#[]⟩] 118)=w4 at *;have z4:=X4.lt;refine(Jl h4 hS hi3).mono ?_;rintro e w5 ⟨rfl,h5,g5⟩;have X5:=X4.kp g5 (by simp;omega);have G5:=G4.trans g5;have z5:=g5.size
   by_cases hsg:zV S (run zI S s3.i)=11
   ·have HB:=zC (OI (x:=x) hi3 hsg)
    rw[hsg];clear hsg;obtain⟨y0,y1,y2,y3,y4⟩:=X5.c5;have fy:=X5.fz;go_wp2_with fail;have X6:zE (w5.setCell ⟨w3.heap.size,1,none⟩ (.int .i64 1)) w3.heap.size #[.string x,.int .i64 1,.slice none 0 0,.string ⟨#[]⟩,.string ⟨#[]⟩] 118:=X5.set 1 _;have C6:Ch [w3.heap.size] w5 (w5.setCell ⟨w3.heap.size,1,none⟩ (.int .i64 1)):=Ch.setCell _ (by simp) _;have h6:=h5.kp C6 (by simp;omega);have G6:=G5.trans' C6 (by intro k hk;simp at hk;omega);generalize w5.setCell ⟨w3.heap.size,1,none⟩ (.int .i64 1)=w6 at *;clear y0 y1 y2 y3 y4 fy;have z6:=C6.size;refine(Hs h6 hS (by simp only[yT];exact l3.2)).mono ?_;rintro e w7 ⟨g7,⟨⟨A,C⟩,s7,v,hl,rfl,hv,h7⟩|⟨d,hl,hg⟩⟩
    ·unfold DQ at hv
     subst hv
     have HR7:Hd (R= .ok (⟨(sv++[((⟨x,true,A,C,[]⟩:zH),Value.slice none 0 0)]).map (fun p=>p.1),cv.map (fun p=>p.1),av.map (fun p=>p.1)⟩,s7)):=by
      show _=_
      rw[HR3.o.2 _ _ (by rw[HB.o,hl])];simp
     have hi7:=(Lf (by simp only[yT];exact l3.2) hl).2;clear hl HB HR3;have X7:=X6.kp g7 (by simp;omega);have G7:=G6.trans g7;have z7:=g7.size;obtain⟨y0,y1,y2,y3,y4⟩:=X7.c5;have fy:=X7.fz;simp only
     have X8:zE ((w7.setCell ⟨w3.heap.size,3,none⟩ (.string A)).setCell ⟨w3.heap.size,4,none⟩ (.string C)) w3.heap.size #[.string x,.int .i64 1,.slice none 0 0,.string A,.string C] 118:=by
      have r0:zE (w7.setCell ⟨w3.heap.size,3,none⟩ (.string A)) w3.heap.size #[.string x,.int .i64 1,.slice none 0 0,.string A,.string ⟨#[]⟩] 118:=X7.set 3 _;exact r0.set 4 _
     have C8:Ch [w3.heap.size] w7 ((w7.setCell ⟨w3.heap.size,3,none⟩ (.string A)).setCell ⟨w3.heap.size,4,none⟩ (.string C)):=(Ch.setCell _ (by simp) _).trans (Ch.setCell _ (by simp) _);have h8:=h7.kp C8 (by simp;omega);have G8:=G7.trans' C8 (by intro k hk;simp at hk;omega);go_wp2_with fail;generalize (w7.setCell ⟨w3.heap.size,3,none⟩ (.string A)).setCell ⟨w3.heap.size,4,none⟩ (.string C)=W at *;clear y0 y1 y2 y3 y4 fy;obtain⟨y0,y1,y2,y3,y4⟩:=X8.c5;have hpW:=hp.kp G8 (by simp);have FINAL:=zC (Bv (D:=⟨x,true,A,C,[]⟩) (G:=fun _=>False) (vr:= .slice none 0 0) (k1:=1) hp G8 hlo hbl h8 hi7 HR7.o ⟨fun g hg=>by simp[Value.ownBlock]at hg,[],rfl,⟨rfl,Or.inl ⟨rfl,rfl⟩⟩,by intro p hp;simp at hp⟩ (fun k hk=>hk.elim) rfl);simp only at FINAL;obtain⟨c0',c1,c2,c3,c4,c5,c6,c7,fz⟩:=h8.fa;have gAl:Ch [] W (W.drew.alloc (.cells #[.string x,.int .i64 1,.slice none 0 0,.string A,.string C] 118)):=(Ch.drew [] W).trans (Ch.alloc _ _ _);have OWN:=zJ hpW.rs gAl (by simp);have hAl:=h8.kp gAl (by simp);have bal:=(h8.kp (Ch.alloc [] W (.cells #[.string x,.int .i64 1,.slice none 0 0,.string A,.string C] 118)) (by simp)).fa.2.2.2.2.2.1;have NEW:(W.drew.alloc (.cells #[.string x,.int .i64 1,.slice none 0 0,.string A,.string C] 118)).heap[W.heap.size]? =some (.cells [.string x,.int .i64 1,.slice none 0 0,.string A,.string C].toArray 118):=zr W.drew _
     have ZN:(W.drew.alloc (.cells #[.string x,.int .i64 1,.slice none 0 0,.string A,.string C] 118)).heap.size=W.heap.size+1:=by show(W.heap.push _).size=_;simp
     have NDD:Hd (b∉(Value.slice a0 sv.length c0).ownBlock.toList):=by show ¬_;simp;intro e;exact(hp.bs b e).2.2.1 rfl
     clear G8 C8 X8 h7 G7 X7 hpW;go_wp2_with fail
     go_region_law ((refine Zc 61 118 5 80 (.agg #[.string ⟨#[]⟩,.int .i64 0,.slice none 0 0,.string ⟨#[]⟩,.string ⟨#[]⟩]) Tryz.underlying61 Bf rfl (by omega) (by omega) (by rfl) _ _ (by rfl) (.slice a0 sv.length c0) sv.length (jp sv) (by rfl) OWN W.heap.size [.string x,.int .i64 1,.slice none 0 0,.string A,.string C] (by rfl) NEW rfl (by intro u hu;simp at hu;rcases hu with rfl|rfl|rfl|rfl|rfl <;>rfl) (by omega) (W.heap.size+1) ZN ?_;intro g cap w7 own7 gr7 hat7 hlt7;have B7:=hAl.kp gr7 NDD.o;have b70:=B7.fa.2.2.2.2.2.1;have b7f:=B7.fa.2.2.2.2.2.2.2.2))
     all_goals
      go_wp2_with fail
      go_end0
      exact FINAL.o _ _ _ own7 gr7 hat7 hlt7
    ·have HR7:Hd (R= .error d):=HR3.o.1 _ (by rw[HB.o,hl])
     clear hl;obtain⟨rfl,ht⟩:=hg;exact zY rfl ⟨(G6.trans g7).belb (by omega) (by simp),Or.inr ⟨d,HR7.o,⟨rfl,ht⟩⟩⟩
   ·have HB:=zC (TL (x:=x) hi3 hsg)
    have q1:(zV S (run zI S s3.i)==11)=false:=by simp[hsg]
    clear hsg;generalize zV S (run zI S s3.i)=sg at *;go_wp2_with fail;refine(Cx h5 hS (by simp only[yT];exact l3.2)).mono ?_;rintro e w7 ⟨g7,⟨RL,s7,v,hl,rfl,⟨⟨ra,rn,rc,rfl⟩,FR,hRR,hFR⟩,h7⟩|⟨d,hl,hg⟩⟩
    ·have HR7:Hd (R= .ok (⟨(sv++[((⟨x,false,ByteArray.empty,ByteArray.empty,RL⟩:zH),Value.slice ra rn rc)]).map (fun p=>p.1),cv.map (fun p=>p.1),av.map (fun p=>p.1)⟩,s7)):=by
      show _=_
      rw[HR3.o.2 _ _ (by rw[HB.o,hl])];simp
     have hi7:s7.i<=S.size:=by
      unfold ZF at hl
      cases h1':zh S 123 (s3.sk S)with
      |error d=>rw[h1']at hl;cases hl
      |ok sa=>
       rw[h1']at hl;simp only at hl;have k1:=Yb (by simp only[yT];exact l3.2) (by omega) h1'
       cases h2':jj S (S.size+1) sa []with
       |error d=>rw[h2']at hl;cases hl
       |ok q=>
        obtain⟨Rq,sb⟩:=q;rw[h2']at hl;simp only at hl;have k2:=Ay _ _ _ _ _ k1.2.1 h2'
        cases h3':zh S 125 sb with
        |error d=>rw[h3']at hl;cases hl
        |ok sc=>
         rw[h3']at hl
         injection hl with hl;injection hl with _ hl;subst hl
         exact(Yb k2.2 (by omega) h3').2.1
     clear hl HB HR3;have X7:=X5.kp g7 (by simp;omega);have G7:=G5.trans g7;have z7:=g7.size;obtain⟨y0,y1,y2,y3,y4⟩:=X7.c5;have fy:=X7.fz;have X8:zE (w7.setCell ⟨w3.heap.size,2,none⟩ (.slice ra rn rc)) w3.heap.size #[.string x,.int .i64 0,.slice ra rn rc,.string ⟨#[]⟩,.string ⟨#[]⟩] 118:=X7.set 2 _;have C8:Ch [w3.heap.size] w7 (w7.setCell ⟨w3.heap.size,2,none⟩ (.slice ra rn rc)):=Ch.setCell _ (by simp) _;have h8:=h7.kp C8 (by simp;omega);have G8:=G7.trans' C8 (by intro k hk;simp at hk;omega);have hRR8:JO (w7.setCell ⟨w3.heap.size,2,none⟩ (.slice ra rn rc)) FR (.slice ra rn rc) RL:=hRR.frame (fun k hk=>C8.block k (hFR k hk).2 (by have:=hFR k hk;simp;omega)) (fun _ h=>h);have z8:=C8.size;go_wp2_with fail;generalize w7.setCell ⟨w3.heap.size,2,none⟩ (.slice ra rn rc)=W at *;clear y0 y1 y2 y3 y4 fy;obtain⟨y0,y1,y2,y3,y4⟩:=X8.c5;have hpW:=hp.kp G8 (by simp);have FINAL:=zC (Bv (D:=⟨x,false,ByteArray.empty,ByteArray.empty,RL⟩) (G:=FR) (vr:= .slice ra rn rc) (k1:=0) hp G8 hlo hbl h8 hi7 HR7.o hRR8 (fun k hk=>by have:=hFR k hk;omega) rfl);simp only at FINAL
     change Hd (∀(g cap:Nat) (w7:World),w7.ownsRow 0 118 5 (.slice (some ⟨g,0,none⟩) (sv.length+1) cap) (sv.length+1) (jp sv++[.string x,.int .i64 0,.slice ra rn rc,.string ⟨#[]⟩,.string ⟨#[]⟩])->Ch (Value.slice a0 sv.length c0).ownBlock.toList (W.drew.alloc (.cells #[.string x,.int .i64 0,.slice ra rn rc,.string ⟨#[]⟩,.string ⟨#[]⟩] 118)) w7->((Value.slice a0 sv.length c0).ownBlock=some g\/g=W.heap.size+1)->g<w7.heap.size->_)at FINAL
     obtain⟨c0',c1,c2,c3,c4,c5,c6,c7,fz⟩:=h8.fa;have gAl:Ch [] W (W.drew.alloc (.cells #[.string x,.int .i64 0,.slice ra rn rc,.string ⟨#[]⟩,.string ⟨#[]⟩] 118)):=(Ch.drew [] W).trans (Ch.alloc _ _ _);have OWN:=zJ hpW.rs gAl (by simp);have hAl:=h8.kp gAl (by simp);have bal:=(h8.kp (Ch.alloc [] W (.cells #[.string x,.int .i64 0,.slice ra rn rc,.string ⟨#[]⟩,.string ⟨#[]⟩] 118)) (by simp)).fa.2.2.2.2.2.1;have NEW:(W.drew.alloc (.cells #[.string x,.int .i64 0,.slice ra rn rc,.string ⟨#[]⟩,.string ⟨#[]⟩] 118)).heap[W.heap.size]? =some (.cells [.string x,.int .i64 0,.slice ra rn rc,.string ⟨#[]⟩,.string ⟨#[]⟩].toArray 118):=zr W.drew _
     have ZN:(W.drew.alloc (.cells #[.string x,.int .i64 0,.slice ra rn rc,.string ⟨#[]⟩,.string ⟨#[]⟩] 118)).heap.size=W.heap.size+1:=by show(W.heap.push _).size=_;simp
     have NDD:Hd (b∉(Value.slice a0 sv.length c0).ownBlock.toList):=by show ¬_;simp;intro e;exact(hp.bs b e).2.2.1 rfl
     clear G8 C8 X8 h7 G7 X7 hpW hRR hRR8 hFR;go_wp2_with fail
     go_region_law ((refine Zc 61 118 5 80 (.agg #[.string ⟨#[]⟩,.int .i64 0,.slice none 0 0,.string ⟨#[]⟩,.string ⟨#[]⟩]) Tryz.underlying61 Bf rfl (by omega) (by omega) (by rfl) _ _ (by rfl) (.slice a0 sv.length c0) sv.length (jp sv) (by rfl) OWN W.heap.size [.string x,.int .i64 0,.slice ra rn rc,.string ⟨#[]⟩,.string ⟨#[]⟩] (by rfl) NEW rfl (by intro u hu;simp at hu;rcases hu with rfl|rfl|rfl|rfl|rfl <;>rfl) (by omega) (W.heap.size+1) ZN ?_;intro g cap w7 own7 gr7 hat7 hlt7;have B7:=hAl.kp gr7 NDD.o;have b70:=B7.fa.2.2.2.2.2.1;have b7f:=B7.fa.2.2.2.2.2.2.2.2))
     all_goals
      go_wp2_with fail
      go_end0
      exact FINAL.o _ _ _ own7 gr7 hat7 hlt7
    ·have HR7:Hd (R= .error d):=HR3.o.1 _ (by rw[HB.o,hl])
     clear hl;obtain⟨rfl,ht⟩:=hg;exact zY rfl ⟨(G5.trans g7).belb (by omega) (by simp),Or.inr ⟨d,HR7.o,⟨rfl,ht⟩⟩⟩
  ·have HR3:Hd (R= .error d):=(HR1.o _ hl).1 _ rfl
   clear hl;obtain⟨rfl,ht⟩:=hg;exact zY rfl ⟨((g1.trans g2).trans g3).belb (by omega) (by simp),Or.inr ⟨d,HR3.o,⟨rfl,ht⟩⟩⟩
 ·have HR:Hd (R= .error d):=by show _=_;rw[<- HR0.o];simp only[jg,hl]
  clear hl;obtain⟨rfl,ht⟩:=hg;exact zY rfl ⟨g1.belb (by omega) (by simp),Or.inr ⟨d,HR.o,⟨rfl,ht⟩⟩⟩
end Go.Proofs.YteobgfbgglfkbaaGreat
