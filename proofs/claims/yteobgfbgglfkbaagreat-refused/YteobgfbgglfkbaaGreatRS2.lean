import Derived.Test.YteobgfbgglfkbaaGreatRP1
import Derived.Test.YteobgfbgglfkbaaGreatRS1
import Derived.Test.YteobgfbgglfkbaaGreatRD9
namespace Go.Proofs.YteobgfbgglfkbaaGreat
open Go.RowKit
def heldC(Ds:List zAE)(xs:List UInt8):List Nat:=(zAX Ds [0,0,0] xs).1
def toldC(Ds:List zAE)(xs:List UInt8):List UInt8:=(zAX Ds [0,0,0] xs).2
def Fine(Ds:List zAE):Prop:=(∀D,D∈Ds→zAi D)∧Ds.length≤3
theorem zMH{x:UInt8}(hx:97≤x.toNat∧x.toNat≤122):(x - 32).toNat=x.toNat - 32:=by
 rw [UInt8.toNat_sub_of_le _ _ (by rw [UInt8.le_iff_toNat_le];show 32≤_;omega)];rfl
theorem zMQ{x:UInt8}(hx:65≤x.toNat∧x.toNat≤90):(x+32).toNat=x.toNat+32:=by
 rw [UInt8.toNat_add]
 show (x.toNat+32) % 256=_
 omega
theorem zIy{one:List UInt8}{b:UInt8}(hb:b∉one):∀s:List UInt8,zB5 one (s++[b])=0
 |[]=>by
  simp only [List.nil_append,zB5];rw [if_neg];rw [List.isPrefixOf_iff_prefix];rintro ⟨t,e⟩;exact hb (by rw [← e];simp)
 |x:: s=>by
  simp only [List.cons_append,zB5];rw [if_neg,zIy hb s];rw [List.isPrefixOf_iff_prefix];rintro ⟨t,e⟩;exact hb (by rw [← e];simp)
theorem zGx{one two:List UInt8}{b:UInt8}(hb:b∉one)(h:Nat):zB8 one two h b=(0,one.take h++[b]):=by
 unfold zB8;rw [if_neg (fun e=>hb (by rw [← e];simp)),zIy hb,Nat.sub_zero,List.take_length]
def runP{K:Type}(step:K→UInt8→K)(s:K)(ys:List UInt8):K:=ys.foldl step s
theorem zEo{K:Type}(step:K→UInt8→K)(s:K)(xs ys:List UInt8):runP step s (xs++ys)=runP step (runP step s xs) ys:=by simp [runP]
def sig{K:Type}(Ds:List zAE)(step:K→UInt8→K)(s:K)(t:List UInt8):List Nat×K:=(heldC Ds t,runP step s (toldC Ds t))
theorem sig_run{K:Type}{Ds:List zAE}(hF:Fine Ds)(step:K→UInt8→K)(s:K)(t:List UInt8):runP step s (zBg Ds t)=runP step (sig Ds step s t).2 (endC Ds (sig Ds step s t).1):=by
 rw [← machines Ds hF.1 hF.2,zEo];rfl
end Go.Proofs.YteobgfbgglfkbaaGreat
namespace Go.Proofs.YteobgfbgglfkbaaGreat
open Go.RowKit
def AllR(R:UInt8→UInt8→Prop):List UInt8→List UInt8→Prop
 |[],[]=>True
 |x:: xs,y:: ys=>R x y∧AllR R xs ys
 |_,_=>False
theorem AllR.app{R:UInt8→UInt8→Prop}:∀{a b c d:List UInt8},AllR R a b→AllR R c d→AllR R (a++c) (b++d)
 |[],[],_,_,_,h=>h
 |_:: _,_:: _,_,_,h,g=>⟨h.1,AllR.app h.2 g⟩
 |[],_:: _,_,_,h,_=>h.elim
 |_:: _,[],_,_,h,_=>h.elim
theorem AllR.self{R:UInt8→UInt8→Prop}:∀{l:List UInt8},(∀k,k∈l→R k k)→AllR R l l
 |[],_=>trivial
 |x:: l,h=>⟨h x (by simp),AllR.self (fun k hk=>h k (by simp [hk]))⟩
theorem AllR.run{K:Type}{R:UInt8→UInt8→Prop}{step:K→UInt8→K}(hs:∀s x y,R x y→step s x=step s y):∀{u v:List UInt8} (s:K),AllR R u v→runP step s u=runP step s v
 |[],[],_,_=>rfl
 |x:: u,y:: v,s,h=>by
  show runP step (step s x) u=runP step (step s y) v
  rw [hs s x y h.1];exact AllR.run hs _ h.2
 |[],_:: _,_,h=>h.elim
 |_:: _,[],_,h=>h.elim
structure zN4(D:zAE)(R:UInt8→UInt8→Prop):Prop where
 one:∀x y k,R x y→k∈D.one.data.toList→(x=k↔y=k)
 selfOne:∀k,k∈D.one.data.toList→R k k
 selfTwo:∀k,k∈D.two.data.toList→R k k
 cls:∀r,r∈D.rules→∀x y,R x y→zAg r.cls x.toNat=zAg r.cls y.toNat
 out:∀r,r∈D.rules→∀p,p∈r.out→(∀k,k∈p.2.data.toList→R k k)∧(p.1≠116→p.1≠98→∀x y,R x y→R (capB x) (capB y)∧R (litB x) (litB y))
theorem zKi{D:zAE}{R:UInt8→UInt8→Prop}(hK:zN4 D R){x y:UInt8}(h:R x y)(n:Nat):(zB8 D.one.data.toList D.two.data.toList n x).1=(zB8 D.one.data.toList D.two.data.toList n y).1∧AllR R (zB8 D.one.data.toList D.two.data.toList n x).2 (zB8 D.one.data.toList D.two.data.toList n y).2:=by
 by_cases hx:x∈D.one.data.toList
 ·have e:y=x:=(hK.one x y x h hx).1 rfl
  subst e;refine ⟨rfl,AllR.self fun k hk=> ?_⟩;unfold zB8 at hk
  split at hk
  ·exact hK.selfTwo k hk
  ·have:=List.mem_of_mem_take hk
   rcases List.mem_append.1 this with h1 | h1
   ·exact hK.selfOne k (List.mem_of_mem_take h1)
   ·have:k=y:=by simpa using h1
    subst this;exact h
 ·have hy:y∉D.one.data.toList:=fun hy=>hx (by
   have e:x=y:=(hK.one x y y h hy).2 rfl
   rw [e];exact hy)
  rw [zGx hx,zGx hy];exact ⟨rfl,AllR.app (AllR.self fun k hk=>hK.selfOne k (List.mem_of_mem_take hk)) ⟨h,trivial⟩⟩
theorem zLL{R:UInt8→UInt8→Prop}{x y:UInt8}(h:R x y):∀{P:List (Int×ByteArray)},(∀p,p∈P→(∀k,k∈p.2.data.toList→R k k)∧(p.1≠116→p.1≠98→∀x y,R x y→R (capB x) (capB y)∧R (litB x) (litB y)))→AllR R (outB P x) (outB P y)
 |[],_=>trivial
 |p:: P,hP=>by
  have ih:=zLL (P:=P) h (fun q hq=>hP q (by simp [hq]));have hp:=hP p (by simp);unfold outB at *;rw [List.flatMap_cons,List.flatMap_cons];refine AllR.app ?_ ih;unfold zEn
  split
  ·exact AllR.self hp.1
  ·rename_i h1
   split
   ·exact ⟨h,trivial⟩
   ·rename_i h2
    split
    ·exact ⟨(hp.2 h1 h2 x y h).1,trivial⟩
    ·exact ⟨(hp.2 h1 h2 x y h).2,trivial⟩
theorem zI9{R:UInt8→UInt8→Prop}{x y:UInt8}(h:R x y):∀{Rs:List zCA},(∀r,r∈Rs→(∀x y,R x y→zAg r.cls x.toNat=zAg r.cls y.toNat)∧∀p,p∈r.out→(∀k,k∈p.2.data.toList→R k k)∧(p.1≠116→p.1≠98→∀x y,R x y→R (capB x) (capB y)∧R (litB x) (litB y)))→AllR R (zCF Rs x) (zCF Rs y)
 |[],_=>⟨h,trivial⟩
 |r:: Rs,hR=>by
  have ih:=zI9 (Rs:=Rs) h (fun q hq=>hR q (by simp [hq]));have hr:=hR r (by simp);unfold zCF;rw [hr.1 x y h]
  split
  ·exact zLL h hr.2
  ·exact ih
theorem putD_rel{D:zAE}{R:UInt8→UInt8→Prop}(hK:zN4 D R){x y:UInt8}(h:R x y)(n:Nat):(putD D n x).1=(putD D n y).1∧AllR R (putD D n x).2 (putD D n y).2:=by
 unfold putD
 cases hs:D.swap with
 |true=>simp only [if_true];exact zKi hK h n
 |false=>simp only [Bool.false_eq_true,if_false];exact ⟨trivial,zI9 h (fun r hr=>⟨hK.cls r hr,hK.out r hr⟩)⟩
theorem zLr{D:zAE}{R:UInt8→UInt8→Prop}(hK:zN4 D R):∀{xs ys:List UInt8} (n:Nat),AllR R xs ys→(feed D n xs).1=(feed D n ys).1∧AllR R (feed D n xs).2 (feed D n ys).2
 |[],[],_,_=>⟨rfl,trivial⟩
 |x:: xs,y:: ys,n,h=>by
  obtain ⟨e1,a1⟩:=putD_rel hK h.1 n;simp only [feed];rw [e1];obtain ⟨e2,a2⟩:=zLr hK (putD D n y).1 h.2;exact ⟨e2,AllR.app a1 a2⟩
 |[],_:: _,_,h=>h.elim
 |_:: _,[],_,h=>h.elim
theorem zJz{R:UInt8→UInt8→Prop}:∀{Ds:List zAE} {xs ys:List UInt8} (hs:List Nat),(∀D,D∈Ds→zN4 D R)→AllR R xs ys→(zAX Ds hs xs).1=(zAX Ds hs ys).1∧AllR R (zAX Ds hs xs).2 (zAX Ds hs ys).2
 |[],_,_,_,_,h=>⟨rfl,h⟩
 |D:: Ds,_,_,[],_,_=>⟨rfl,trivial⟩
 |D:: Ds,xs,ys,n:: hs,hK,h=>by
  obtain ⟨e1,a1⟩:=zLr (hK D (by simp)) n h;obtain ⟨e2,a2⟩:=zJz (Ds:=Ds) hs (fun E hE=>hK E (by simp [hE])) a1;simp only [zAX];rw [e1,e2];exact ⟨rfl,a2⟩
def zBE(l:List UInt8):List (Nat→Bool):=l.map fun k c=>c==k.toNat
def zCq(D:zAE):List (Int×ByteArray):=D.rules.flatMap fun r=>r.out
def zD1(Ds:List zAE):Bool:=Ds.any fun D=>(zCq D).any fun p=>p.1 !=116 && p.1 !=98
def zBq(Ds:List zAE):List (Nat→Bool):=Ds.flatMap fun D=>zBE D.one.data.toList++D.rules.map fun r=>zAg r.cls
def capN(c:Nat):Nat:=(capB (UInt8.ofNat c)).toNat
def litN(c:Nat):Nat:=(litB (UInt8.ofNat c)).toNat
def zC1(Ds:List zAE)(M:List (Nat→Bool)):List (Nat→Bool):=if zD1 Ds then M++M.flatMap fun m=>[fun c=>m (capN c),fun c=>m (litN c)] else M
def zCi(M:List (Nat→Bool))(b c:Nat):Bool:=M.all fun m=>m b==m c
def zAe(M:List (Nat→Bool)):Nat→List UInt8
 |0=>[]
 |n+1=>if (zAe M n).any (fun l=>zCi M n l.toNat) then zAe M n else zAe M n++[UInt8.ofNat n]
theorem zDe(M:List (Nat→Bool)):∀n,n≤256→∀l,l∈zAe M n→l.toNat<n
 |0,_,l,h=>by cases h
 |n+1,hn,l,h=>by
  unfold zAe at h
  split at h
  ·have:=zDe M n (by omega) l h;omega
  ·rcases List.mem_append.1 h with h | h
   ·have:=zDe M n (by omega) l h;omega
   ·have:l=UInt8.ofNat n:=by simpa using h
    rw [this,UInt8.toNat_ofNat'];have:n % 2 ^ 8=n:=Nat.mod_eq_of_lt (by omega);omega
theorem zCz(M:List (Nat→Bool)):∀n,n≤256→(zAe M n).Pairwise (fun a b=>a.toNat<b.toNat)
 |0,_=>List.Pairwise.nil
 |n+1,hn=>by
  unfold zAe
  split
  ·exact zCz M n (by omega)
  ·refine List.pairwise_append.2 ⟨zCz M n (by omega),by simp,fun a ha b hb=> ?_⟩
   have:b=UInt8.ofNat n:=by simpa using hb
   rw [this,UInt8.toNat_ofNat'];have h1:n % 2 ^ 8=n:=Nat.mod_eq_of_lt (by omega);have:=zDe M n (by omega) a ha;omega
theorem zKN(M:List (Nat→Bool))(b:Nat):zCi M b b=true:=by simp [zCi]
theorem zFm(M:List (Nat→Bool)):∀n,n≤256→∀b,b<n→∃l,l∈zAe M n∧l.toNat≤b∧zCi M b l.toNat=true
 |0,_,b,h=>by omega
 |n+1,hn,b,h=>by
  by_cases hb:b<n
  ·obtain ⟨l,h1,h2,h3⟩:=zFm M n (by omega) b hb
   refine ⟨l,?_,h2,h3⟩;unfold zAe
   split
   ·exact h1
   ·exact List.mem_append_left _ h1
  ·have e:b=n:=by omega
   subst e;unfold zAe
   split
   ·rename_i hx
    obtain ⟨l,h1,h2⟩:=List.any_eq_true.1 hx;exact ⟨l,h1,Nat.le_of_lt (zDe M b (by omega) l h1),h2⟩
   ·refine ⟨UInt8.ofNat b,List.mem_append_right _ (by simp),?_,?_⟩
    ·rw [UInt8.toNat_ofNat'];exact Nat.mod_le _ _
    ·rw [UInt8.toNat_ofNat',Nat.mod_eq_of_lt (show b<2 ^ 8 by omega)];exact zKN M b
theorem zD5(M:List (Nat→Bool)):∀n,(zAe M n).length≤n
 |0=>Nat.le_refl _
 |n+1=>by
  unfold zAe;have:=zD5 M n
  split
  ·omega
  ·simp;omega
theorem zG5(b:UInt8):(97≤b.toNat∧b.toNat≤122∧(capB b).toNat=b.toNat - 32)∨(¬(97≤b.toNat∧b.toNat≤122)∧(capB b).toNat=b.toNat):=by
 unfold capB
 split
 ·rename_i h;exact Or.inl ⟨h.1,h.2,zMH h⟩
 ·rename_i h;exact Or.inr ⟨h,rfl⟩
theorem zGa(b:UInt8):(65≤b.toNat∧b.toNat≤90∧(litB b).toNat=b.toNat+32)∨(¬(65≤b.toNat∧b.toNat≤90)∧(litB b).toNat=b.toNat):=by
 unfold litB
 split
 ·rename_i h;exact Or.inl ⟨h.1,h.2,zMQ h⟩
 ·rename_i h;exact Or.inr ⟨h,rfl⟩
theorem zPj(x:UInt8):capB (capB x)=capB x:=by
 have:=zG5 x;have:=zG5 (capB x);rw [← UInt8.toNat_inj];omega
theorem zNM(x:UInt8):capB (litB x)=capB x:=by
 have:=zG5 x;have:=zGa x;have:=zG5 (litB x);rw [← UInt8.toNat_inj];omega
theorem zO4(x:UInt8):litB (litB x)=litB x:=by
 have:=zGa x;have:=zGa (litB x);rw [← UInt8.toNat_inj];omega
theorem zOc(x:UInt8):litB (capB x)=litB x:=by
 have:=zG5 x;have:=zGa x;have:=zGa (capB x);rw [← UInt8.toNat_inj];omega
def Prs(cs:Bool)(C:UInt8→Prop)(b c x y:UInt8):Prop:=(x=y∧C x)∨(x=b∧y=c)∨(cs=true∧((x=capB b∧y=capB c)∨(x=litB b∧y=litB c)))
theorem Prs.cap{C:UInt8→Prop}(hC:∀x,C x→C (capB x)∧C (litB x)){b c x y:UInt8}(h:Prs true C b c x y):Prs true C b c (capB x) (capB y)∧Prs true C b c (litB x) (litB y):=by
 rcases h with ⟨rfl,h⟩ | ⟨rfl,rfl⟩ | ⟨_,⟨rfl,rfl⟩ | ⟨rfl,rfl⟩⟩
 ·exact ⟨Or.inl ⟨rfl,(hC _ h).1⟩,Or.inl ⟨rfl,(hC _ h).2⟩⟩
 ·exact ⟨Or.inr (Or.inr ⟨rfl,Or.inl ⟨rfl,rfl⟩⟩),Or.inr (Or.inr ⟨rfl,Or.inr ⟨rfl,rfl⟩⟩)⟩
 ·rw [zPj,zPj,zOc,zOc]
  exact ⟨Or.inr (Or.inr ⟨rfl,Or.inl ⟨rfl,rfl⟩⟩),Or.inr (Or.inr ⟨rfl,Or.inr ⟨rfl,rfl⟩⟩)⟩
 ·rw [zNM,zNM,zO4,zO4]
  exact ⟨Or.inr (Or.inr ⟨rfl,Or.inl ⟨rfl,rfl⟩⟩),Or.inr (Or.inr ⟨rfl,Or.inr ⟨rfl,rfl⟩⟩)⟩
theorem zHz(x:UInt8):capN x.toNat=(capB x).toNat:=by simp [capN]
theorem zH9(x:UInt8):litN x.toNat=(litB x).toNat:=by simp [litN]
theorem Prs.mark{Ds:List zAE}{M:List (Nat→Bool)}{C:UInt8→Prop}{b c x y:UInt8}(ha:zCi (zC1 Ds M) b.toNat c.toNat=true)(h:Prs (zD1 Ds) C b c x y){m:Nat→Bool}(hm:m∈M):m x.toNat=m y.toNat:=by
 have ha':=List.all_eq_true.1 ha
 have h0:m∈zC1 Ds M:=by
  unfold zC1
  split
  ·exact List.mem_append_left _ hm
  ·exact hm
 rcases h with ⟨rfl,_⟩ | ⟨rfl,rfl⟩ | ⟨hc,h⟩
 ·rfl
 ·simpa using ha' m h0
 ·have h1:(fun c=>m (capN c))∈zC1 Ds M:=by
   unfold zC1;rw [if_pos hc];exact List.mem_append_right _ (List.mem_flatMap.2 ⟨m,hm,by simp⟩)
  have h2:(fun c=>m (litN c))∈zC1 Ds M:=by
   unfold zC1;rw [if_pos hc];exact List.mem_append_right _ (List.mem_flatMap.2 ⟨m,hm,by simp⟩)
  rcases h with ⟨rfl,rfl⟩ | ⟨rfl,rfl⟩
  ·have:=ha' _ h1
   simp only [zHz,beq_iff_eq] at this;exact this
  ·have:=ha' _ h2
   simp only [zH9,beq_iff_eq] at this;exact this
theorem zKX{l:List UInt8}{k:UInt8}(h:k∈l):(fun c=>c==k.toNat)∈zBE l:=List.mem_map.2 ⟨k,h,rfl⟩
theorem zK2{k x y:UInt8}(h:(x.toNat==k.toNat)=(y.toNat==k.toNat)):x=k↔y=k:=by
 rw [← UInt8.toNat_inj,← UInt8.toNat_inj];rw [Bool.eq_iff_iff] at h
 simpa using h
theorem keeps_of{Ds:List zAE}{M:List (Nat→Bool)}{C:UInt8→Prop}{b c:UInt8}(ha:zCi (zC1 Ds M) b.toNat c.toNat=true)(hM:∀m,m∈zBq Ds→m∈M)
  (hC:zD1 Ds=true→∀x,C x→C (capB x)∧C (litB x)) (h1:∀D,D∈Ds→∀k,k∈D.one.data.toList→C k) (h2:∀D,D∈Ds→∀k,k∈D.two.data.toList→C k) (h3:∀D,D∈Ds→∀p,p∈zCq D→∀k,k∈p.2.data.toList→C k):
  ∀D,D∈Ds→zN4 D (Prs (zD1 Ds) C b c):=by
 intro D hD;refine ⟨fun x y k h hk=> ?_,fun k hk=>Or.inl ⟨rfl,h1 D hD k hk⟩,fun k hk=>Or.inl ⟨rfl,h2 D hD k hk⟩,fun r hr x y h=> ?_,fun r hr p hp=>⟨fun k hk=> ?_,fun p1 p2 x y h=> ?_⟩⟩
 ·refine zK2 ?_
  exact h.mark ha (hM _ (List.mem_flatMap.2 ⟨D,hD,List.mem_append_left _ (zKX hk)⟩))
 ·exact h.mark ha (hM _ (List.mem_flatMap.2 ⟨D,hD,List.mem_append_right _ (List.mem_map.2 ⟨r,hr,rfl⟩)⟩))
 ·exact Or.inl ⟨rfl,h3 D hD p (List.mem_flatMap.2 ⟨r,hr,hp⟩) k hk⟩
 ·have hc:zD1 Ds=true:=by
   unfold zD1;rw [List.any_eq_true];refine ⟨D,hD,?_⟩;rw [List.any_eq_true];exact ⟨p,List.mem_flatMap.2 ⟨r,hr,hp⟩,by simp [p1,p2]⟩
  rw [hc] at h ⊢;exact h.cap (hC hc)
end Go.Proofs.YteobgfbgglfkbaaGreat
namespace Go.Proofs.YteobgfbgglfkbaaGreat
open Go.RowKit
theorem zBU.feed{Ds:List zAE}(hF:Fine Ds){hs:List Nat}(h:zBU Ds hs)(xs:List UInt8):zBU Ds (zAX Ds hs xs).1:=(zDA Ds hs xs hF.1 h).1
def zBC(m:Nat)(nx hv:Nat→Nat→Bool)(f:Nat→Bool)(b:UInt8):Nat→Bool:=fun q=>decide (q<m) && zGV m nx hv f b.toNat q
def zJA(f:Nat→Bool):Bool:=(List.range 256).all fun p=> !f p
def endP(l f:Nat→Bool):Bool:=(List.range 256).any fun p=>f p && l p
def zDx:Nat→Bool:=fun p=>p==0
def zCr(Ds:List zAE)(m:Nat)(nx hv:Nat→Nat→Bool)(l:Nat→Bool):Srch (List Nat×(Nat→Bool)) where
 step k b:=((zAX Ds k.1 [b]).1,runP (zBC m nx hv) k.2 (zAX Ds k.1 [b]).2)
 k0:=([0,0,0],zDx)
 lost k:=zJA k.2
 want k:=endP l (runP (zBC m nx hv) k.2 (endC Ds k.1))
def zFF(m:Nat)(f:Nat→Bool):Prop:=∀p,f p=true→p<m
def zOg(Ds:List zAE)(m:Nat)(k:List Nat×(Nat→Bool)):Prop:=(zBU Ds k.1∧k.1.length=3)∧zFF m k.2
theorem zFa{m:Nat}{nx hv:Nat→Nat→Bool}{f:Nat→Bool}{b:UInt8}:zFF m (zBC m nx hv f b):=by
 intro p hp;simp only [zBC,Bool.and_eq_true,decide_eq_true_eq] at hp;exact hp.1
theorem zGG{m:Nat}{nx hv:Nat→Nat→Bool}:∀(u:List UInt8) {f:Nat→Bool},zFF m f→zFF m (runP (zBC m nx hv) f u)
 |[],_,h=>h
 |b:: u,f,_=>zGG u (f:=zBC m nx hv f b) zFa
theorem zG0{m:Nat}(hm:m≤256){f:Nat→Bool}(h:zFF m f):zJA f=true↔∀p,f p=false:=by
 unfold zJA;rw [List.all_eq_true]
 constructor
 ·intro g p
  cases e:f p with
  |false=>rfl
  |true=>have:=g p (List.mem_range.2 (by have:=h p e;omega));simp [e] at this
 ·intro g p _
  simp [g p]
theorem zOe{m:Nat}{nx hv:Nat→Nat→Bool}{f:Nat→Bool}(h:∀p,f p=false)(b:UInt8):∀p,zBC m nx hv f b p=false:=by
 intro p;simp [zBC,zGV,h]
theorem zIO{m:Nat}{nx hv:Nat→Nat→Bool}:∀(u:List UInt8) {f:Nat→Bool},(∀p,f p=false)→∀p,runP (zBC m nx hv) f u p=false
 |[],_,h=>h
 |b:: u,_,h=>zIO u (zOe h b)
def patM(m:Nat)(hv:Nat→Nat→Bool):List (Nat→Bool):=(List.range m).map fun p c=>hv c p
theorem zEe{m:Nat}(hm:0<m):zFF m zDx:=by
 intro p hp
 have:p=0:=by simpa [zDx] using hp
 omega
theorem zLb{Ds:List zAE}(hF:Fine Ds){m:Nat}(hm0:0<m)(hm:m≤256){nx hv:Nat→Nat→Bool}{l:Nat→Bool}:zJE (zCr Ds m nx hv l) (zAe (zC1 Ds (zBq Ds++patM m hv)) 256) (zOg Ds m) where
 g0:=⟨⟨zEM Ds 3 hF.1 hF.2,rfl⟩,zEe hm0⟩
 gs:=fun k b h=>⟨⟨h.1.1.feed hF [b],by rw [zCr];simp only;rw [zFD];exact h.1.2⟩,zGG _ h.2⟩
 lw:=fun k h hl=>by
  have h0:=(zG0 hm h.2).1 hl
  show endP l _=false
  unfold endP;rw [List.any_eq_false];intro p _;simp [zIO (m:=m) (nx:=nx) (hv:=hv) (endC Ds k.1) h0 p]
 ll:=fun k b h hl=>by
  have h0:=(zG0 hm h.2).1 hl;exact (zG0 hm (zGG _ h.2)).2 (zIO _ h0)
 sorted:=zCz _ 256 (Nat.le_refl _)
 rep:=fun b=>by
  obtain ⟨c,h1,h2,h3⟩:=zFm (zC1 Ds (zBq Ds++patM m hv)) 256 (Nat.le_refl _) b.toNat b.toNat_lt;refine ⟨c,h1,h2,fun k h=> ?_⟩;have hK:=keeps_of (C:=fun _=>True) h3 (fun m' hm'=>List.mem_append_left _ hm') (fun _ _ _=>⟨trivial,trivial⟩) (fun _ _ _ _=>trivial) (fun _ _ _ _=>trivial) (fun _ _ _ _ _ _=>trivial);have hr:=zJz (xs:=[b]) (ys:=[c]) k.1 hK ⟨Or.inr (Or.inl ⟨rfl,rfl⟩),trivial⟩
  have hs:∀(s:Nat→Bool) (x y:UInt8),Prs (zD1 Ds) (fun _=>True) b c x y→zBC m nx hv s x=zBC m nx hv s y:=by
   intro s x y hxy
   funext q
   unfold zBC
   by_cases hq:q<m
   ·have:=hxy.mark h3 (m:=fun c=>hv c q) (List.mem_append_right _ (List.mem_map.2 ⟨q,List.mem_range.2 hq,rfl⟩))
    simp only [zGV];rw [this]
   ·simp [hq]
  show ((zAX Ds k.1 [b]).1,runP (zBC m nx hv) k.2 (zAX Ds k.1 [b]).2)=((zAX Ds k.1 [c]).1,runP (zBC m nx hv) k.2 (zAX Ds k.1 [c]).2)
  rw [hr.1,AllR.run hs _ hr.2]
theorem zHs{K:Type}(Ds:List zAE)(st:K→UInt8→K):∀(t:List UInt8) (hs:List Nat) (s:K),Ds.length≤hs.length→t.foldl (fun (k:List Nat×K) b=>((zAX Ds k.1 [b]).1,runP st k.2 (zAX Ds k.1 [b]).2)) (hs,s)=((zAX Ds hs t).1,runP st s (zAX Ds hs t).2)
 |[],hs,s,h=>by rw [zGZ Ds hs h];rfl
 |b:: t,hs,s,h=>by
  rw [List.foldl_cons,zHs Ds st t _ _ (by rw [zFD];exact h)];have:=zC9 Ds hs [b] t;rw [List.singleton_append] at this;rw [this,zEo]
theorem never_at{Ds:List zAE}(hF:Fine Ds){m:Nat}{nx hv:Nat→Nat→Bool}{l:Nat→Bool}(t:List UInt8):(zCr Ds m nx hv l).at t=sig Ds (zBC m nx hv) zDx t:=
 zHs Ds (zBC m nx hv) t [0,0,0] zDx hF.2
theorem accN_cut{m:Nat}{nx hv:Nat→Nat→Bool}{l now:Nat→Bool}(hcl:∀p q,p<m→nx p q=true→q<m)(c:UInt8)(t:List UInt8):AccN nx hv l (zGV m nx hv now c.toNat) t↔AccN nx hv l (zBC m nx hv now c) t:=by
 constructor
 ·rintro ⟨p,hp,h,g⟩
  exact ⟨p,hp,by simp [zBC,h,zIc hcl _ _ h],g⟩
 ·rintro ⟨p,hp,h,g⟩
  exact ⟨p,hp,by simp only [zBC,Bool.and_eq_true] at h;exact h.2,g⟩
theorem zLh{m:Nat}{nx hv:Nat→Nat→Bool}{l:Nat→Bool}(hm:m≤256)(hcl:∀p q,p<m→nx p q=true→q<m):∀(t:List UInt8) (now:Nat→Bool),zFF m now→(AccN nx hv l now t↔endP l (runP (zBC m nx hv) now t)=true)
 |[],now,h=>by
  unfold endP;rw [List.any_eq_true]
  constructor
  ·rintro ⟨p,hp,h1,h2⟩
   have h2':l p=true:=h2;exact ⟨p,List.mem_range.2 hp,by show (now p && l p)=true;rw [h1,h2'];rfl⟩
  ·rintro ⟨p,hp,h1⟩
   have h1':(now p && l p)=true:=h1;rw [Bool.and_eq_true] at h1';exact ⟨p,List.mem_range.1 hp,h1'.1,h1'.2⟩
 |c:: t,now,h=>by
  rw [zIt hm hcl (fun p _ hp=>h p hp) c t,accN_cut hcl,zLh hm hcl t _ zFa];rfl
theorem zDZ{Ds:List zAE}(hF:Fine Ds){m:Nat}(hm0:0<m)(hm:m≤256){nx hv:Nat→Nat→Bool}{l:Nat→Bool}(hcl:∀p q,p<m→nx p q=true→q<m)(t:List UInt8):(zCr Ds m nx hv l).want ((zCr Ds m nx hv l).at t)=true↔Acc nx hv l 0 (zBg Ds t):=by
 rw [never_at hF]
 show endP l (runP (zBC m nx hv) (sig Ds (zBC m nx hv) zDx t).2 (endC Ds (sig Ds (zBC m nx hv) zDx t).1))=true↔_
 rw [← sig_run hF,← zLh hm hcl _ _ (zEe hm0)]
 constructor
 ·rintro ⟨p,hp,h1,h2⟩
  have:p=0:=by simpa [zDx] using h1
  subst this;exact h2
 ·intro h
  exact ⟨0,by omega,rfl,h⟩
end Go.Proofs.YteobgfbgglfkbaaGreat
