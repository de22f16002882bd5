import Derived.Test.YteobgfbgglfkbaaGreatRP1
import Derived.Test.YteobgfbgglfkbaaGreatRS1
import Derived.Test.YteobgfbgglfkbaaGreatRD9
namespace Go.Proofs.YteobgfbgglfkbaaGreat
open Go.RowKit
def Zi(Ds:List zH)(xs:List UInt8):List Nat:=(zT Ds [0,0,0] xs).1
def Qg(Ds:List zH)(xs:List UInt8):List UInt8:=(zT Ds [0,0,0] xs).2
def yo(Ds:List zH):Prop:=(∀D,D∈Ds->yR D)/\Ds.length<=3
theorem Ff{x:UInt8}(hx:97<=x.toNat/\x.toNat<=122):(x - 32).toNat=x.toNat - 32:=by
 rw[UInt8.toNat_sub_of_le _ _ (by rw[UInt8.le_iff_toNat_le];show 32<=_;omega)];rfl
theorem Sl{x:UInt8}(hx:65<=x.toNat/\x.toNat<=90):(x+32).toNat=x.toNat+32:=by
 rw[UInt8.toNat_add]
 show(x.toNat+32) % 256=_
 omega
theorem Eg{one:List UInt8}{b:UInt8}(hb:b∉one):∀s:List UInt8,yr one (s++[b])=0
 |[]=>by
  simp only[List.nil_append,yr];rw[if_neg];rw[List.isPrefixOf_iff_prefix];rintro⟨t,e⟩;exact hb (by rw[<- e];simp)
 |x:: s=>by
  simp only[List.cons_append,yr];rw[if_neg,Eg hb s];rw[List.isPrefixOf_iff_prefix];rintro⟨t,e⟩;exact hb (by rw[<- e];simp)
theorem DV{one two:List UInt8}{b:UInt8}(hb:b∉one)(h:Nat):Jd one two h b=(0,one.take h++[b]):=by
 unfold Jd;rw[if_neg (fun e=>hb (by rw[<- e];simp)),Eg hb,Nat.sub_zero,List.take_length]
def yc{K:Type}(step:K->UInt8->K)(s:K)(ys:List UInt8):K:=ys.foldl step s
theorem MS{K:Type}(step:K->UInt8->K)(s:K)(xs ys:List UInt8):yc step s (xs++ys)=yc step (yc step s xs) ys:=by simp[yc]
def WG{K:Type}(Ds:List zH)(step:K->UInt8->K)(s:K)(t:List UInt8):List Nat×K:=(Zi Ds t,yc step s (Qg Ds t))
theorem IV{K:Type}{Ds:List zH}(hF:yo Ds)(step:K->UInt8->K)(s:K)(t:List UInt8):yc step s (yH Ds t)=yc step (WG Ds step s t).2 (yE Ds (WG Ds step s t).1):=by
 rw[<- EO Ds hF.1 hF.2,MS];rfl
def yO(R:UInt8->UInt8->Prop):List UInt8->List UInt8->Prop
 |[],[]=>True
 |x:: xs,y:: ys=>R x y/\yO R xs ys
 |_,_=>False
theorem yO.app{R:UInt8->UInt8->Prop}:∀{a b c d:List UInt8},yO R a b->yO R c d->yO R (a++c) (b++d)
 |[],[],_,_,_,h=>h
 |_:: _,_:: _,_,_,h,g=>⟨h.1,yO.app h.2 g⟩
 |[],_:: _,_,_,h,_=>h.elim
 |_:: _,[],_,_,h,_=>h.elim
theorem yO.self{R:UInt8->UInt8->Prop}:∀{l:List UInt8},(∀k,k∈l->R k k)->yO R l l
 |[],_=>trivial
 |x:: l,h=>⟨h x (by simp),yO.self (fun k hk=>h k (by simp[hk]))⟩
theorem yO.run{K:Type}{R:UInt8->UInt8->Prop}{step:K->UInt8->K}(hs:∀s x y,R x y->step s x=step s y):∀{u v:List UInt8} (s:K),yO R u v->yc step s u=yc step s v
 |[],[],_,_=>rfl
 |x:: u,y:: v,s,h=>by
  show yc step (step s x) u=yc step (step s y) v
  rw[hs s x y h.1];exact yO.run hs _ h.2
 |[],_:: _,_,h=>h.elim
 |_:: _,[],_,h=>h.elim
structure YO(D:zH)(R:UInt8->UInt8->Prop):Prop where
 one:∀x y k,R x y->k∈D.one.data.toList->(x=k↔y=k)
 selfOne:∀k,k∈D.one.data.toList->R k k
 selfTwo:∀k,k∈D.two.data.toList->R k k
 cls:∀r,r∈D.rules->∀x y,R x y->zo r.cls x.toNat=zo r.cls y.toNat
 o:∀r,r∈D.rules->∀p,p∈r.o->(∀k,k∈p.2.data.toList->R k k)/\(p.1≠116->p.1≠98->∀x y,R x y->R (zk x) (zk y)/\R (zu x) (zu y))
theorem Fv{D:zH}{R:UInt8->UInt8->Prop}(hK:YO D R){x y:UInt8}(h:R x y)(n:Nat):(Jd D.one.data.toList D.two.data.toList n x).1=(Jd D.one.data.toList D.two.data.toList n y).1/\yO R (Jd D.one.data.toList D.two.data.toList n x).2 (Jd D.one.data.toList D.two.data.toList n y).2:=by
 by_cases hx:x∈D.one.data.toList
 ·have e:y=x:=(hK.one x y x h hx).1 rfl
  subst e;refine⟨rfl,yO.self fun k hk=> ?_⟩;unfold Jd at hk
  split at hk
  ·exact hK.selfTwo k hk
  ·have:=List.mem_of_mem_take hk
   rcases List.mem_append.1 this with h1|h1
   ·exact hK.selfOne k (List.mem_of_mem_take h1)
   ·have:k=y:=by simpa using h1
    subst this;exact h
 ·have hy:y∉D.one.data.toList:=fun hy=>hx (by
   have e:x=y:=(hK.one x y y h hy).2 rfl
   rw[e];exact hy)
  rw[DV hx,DV hy];exact⟨rfl,yO.app (yO.self fun k hk=>hK.selfOne k (List.mem_of_mem_take hk)) ⟨h,trivial⟩⟩
theorem Dw{R:UInt8->UInt8->Prop}{x y:UInt8}(h:R x y):∀{P:List (Int×ByteArray)},(∀p,p∈P->(∀k,k∈p.2.data.toList->R k k)/\(p.1≠116->p.1≠98->∀x y,R x y->R (zk x) (zk y)/\R (zu x) (zu y)))->yO R (jD P x) (jD P y)
 |[],_=>trivial
 |p:: P,hP=>by
  have ih:=Dw (P:=P) h (fun q hq=>hP q (by simp[hq]));have hp:=hP p (by simp);unfold jD at *;rw[List.flatMap_cons,List.flatMap_cons];refine yO.app ?_ ih;unfold j6
  split
  ·exact yO.self hp.1
  ·rename_i h1
   split
   ·exact⟨h,trivial⟩
   ·rename_i h2
    split
    ·exact⟨(hp.2 h1 h2 x y h).1,trivial⟩
    ·exact⟨(hp.2 h1 h2 x y h).2,trivial⟩
theorem Lr{R:UInt8->UInt8->Prop}{x y:UInt8}(h:R x y):∀{Rs:List yb},(∀r,r∈Rs->(∀x y,R x y->zo r.cls x.toNat=zo r.cls y.toNat)/\∀p,p∈r.o->(∀k,k∈p.2.data.toList->R k k)/\(p.1≠116->p.1≠98->∀x y,R x y->R (zk x) (zk y)/\R (zu x) (zu y)))->yO R (yN Rs x) (yN Rs y)
 |[],_=>⟨h,trivial⟩
 |r:: Rs,hR=>by
  have ih:=Lr (Rs:=Rs) h (fun q hq=>hR q (by simp[hq]));have hr:=hR r (by simp);unfold yN;rw[hr.1 x y h]
  split
  ·exact Dw h hr.2
  ·exact ih
theorem Ps{D:zH}{R:UInt8->UInt8->Prop}(hK:YO D R){x y:UInt8}(h:R x y)(n:Nat):(jR D n x).1=(jR D n y).1/\yO R (jR D n x).2 (jR D n y).2:=by
 unfold jR
 cases hs:D.swap with
 |true=>simp only[if_true];exact Fv hK h n
 |false=>simp only[Bool.false_eq_true,if_false];exact⟨trivial,Lr h (fun r hr=>⟨hK.cls r hr,hK.o r hr⟩)⟩
theorem Lu{D:zH}{R:UInt8->UInt8->Prop}(hK:YO D R):∀{xs ys:List UInt8} (n:Nat),yO R xs ys->(feed D n xs).1=(feed D n ys).1/\yO R (feed D n xs).2 (feed D n ys).2
 |[],[],_,_=>⟨rfl,trivial⟩
 |x:: xs,y:: ys,n,h=>by
  obtain⟨e1,a1⟩:=Ps hK h.1 n;simp only[feed];rw[e1];obtain⟨e2,a2⟩:=Lu hK (jR D n y).1 h.2;exact⟨e2,yO.app a1 a2⟩
 |[],_:: _,_,h=>h.elim
 |_:: _,[],_,h=>h.elim
theorem Wu{R:UInt8->UInt8->Prop}:∀{Ds:List zH} {xs ys:List UInt8} (hs:List Nat),(∀D,D∈Ds->YO D R)->yO R xs ys->(zT Ds hs xs).1=(zT Ds hs ys).1/\yO R (zT Ds hs xs).2 (zT Ds hs ys).2
 |[],_,_,_,_,h=>⟨rfl,h⟩
 |D:: Ds,_,_,[],_,_=>⟨rfl,trivial⟩
 |D:: Ds,xs,ys,n:: hs,hK,h=>by
  obtain⟨e1,a1⟩:=Lu (hK D (by simp)) n h;obtain⟨e2,a2⟩:=Wu (Ds:=Ds) hs (fun E hE=>hK E (by simp[hE])) a1;simp only[zT];rw[e1,e2];exact⟨rfl,a2⟩
def yM(l:List UInt8):List (Nat->Bool):=l.map fun k c=>c==k.toNat
def jc(D:zH):List (Int×ByteArray):=D.rules.flatMap fun r=>r.o
def jF(Ds:List zH):Bool:=Ds.any fun D=>(jc D).any fun p=>p.1 !=116 && p.1 !=98
def yu(Ds:List zH):List (Nat->Bool):=Ds.flatMap fun D=>yM D.one.data.toList++D.rules.map fun r=>zo r.cls
def Yl(c:Nat):Nat:=(zk (UInt8.ofNat c)).toNat
def Yz(c:Nat):Nat:=(zu (UInt8.ofNat c)).toNat
def JB(Ds:List zH)(M:List (Nat->Bool)):List (Nat->Bool):=if jF Ds then M++M.flatMap fun m=>[fun c=>m (Yl c),fun c=>m (Yz c)]else M
def JL(M:List (Nat->Bool))(b c:Nat):Bool:=M.all fun m=>m b==m c
def yw(M:List (Nat->Bool)):Nat->List UInt8
 |0=>[]
 |n+1=>if(yw M n).any (fun l=>JL M n l.toNat)then yw M n else yw M n++[UInt8.ofNat n]
theorem Uw(M:List (Nat->Bool)):∀n,n<=256->∀l,l∈yw M n->l.toNat<n
 |0,_,l,h=>by cases h
 |n+1,hn,l,h=>by
  unfold yw at h
  split at h
  ·have:=Uw M n (by omega) l h;omega
  ·rcases List.mem_append.1 h with h|h
   ·have:=Uw M n (by omega) l h;omega
   ·have:l=UInt8.ofNat n:=by simpa using h
    rw[this,UInt8.toNat_ofNat'];have:n % 2 ^ 8=n:=Nat.mod_eq_of_lt (by omega);omega
theorem UO(M:List (Nat->Bool)):∀n,n<=256->(yw M n).Pairwise (fun a b=>a.toNat<b.toNat)
 |0,_=>List.Pairwise.nil
 |n+1,hn=>by
  unfold yw
  split
  ·exact UO M n (by omega)
  ·refine List.pairwise_append.2 ⟨UO M n (by omega),by simp,fun a ha b hb=> ?_⟩
   have:b=UInt8.ofNat n:=by simpa using hb
   rw[this,UInt8.toNat_ofNat'];have h1:n % 2 ^ 8=n:=Nat.mod_eq_of_lt (by omega);have:=Uw M n (by omega) a ha;omega
theorem Hj(M:List (Nat->Bool))(b:Nat):JL M b b=true:=by simp[JL]
theorem Kh(M:List (Nat->Bool)):∀n,n<=256->∀b,b<n->∃l,l∈yw M n/\l.toNat<=b/\JL M b l.toNat=true
 |0,_,b,h=>by omega
 |n+1,hn,b,h=>by
  by_cases hb:b<n
  ·obtain⟨l,h1,h2,h3⟩:=Kh M n (by omega) b hb
   refine⟨l,?_,h2,h3⟩;unfold yw
   split
   ·exact h1
   ·exact List.mem_append_left _ h1
  ·have e:b=n:=by omega
   subst e;unfold yw
   split
   ·rename_i hx
    obtain⟨l,h1,h2⟩:=List.any_eq_true.1 hx;exact⟨l,h1,Nat.le_of_lt (Uw M b (by omega) l h1),h2⟩
   ·refine⟨UInt8.ofNat b,List.mem_append_right _ (by simp),?_,?_⟩
    ·rw[UInt8.toNat_ofNat'];exact Nat.mod_le _ _
    ·rw[UInt8.toNat_ofNat',Nat.mod_eq_of_lt (show b<2 ^ 8 by omega)];exact Hj M b
theorem UT(M:List (Nat->Bool)):∀n,(yw M n).length<=n
 |0=>Nat.le_refl _
 |n+1=>by
  unfold yw;have:=UT M n
  split
  ·omega
  ·simp;omega
theorem Zd(b:UInt8):(97<=b.toNat/\b.toNat<=122/\(zk b).toNat=b.toNat - 32)\/(¬(97<=b.toNat/\b.toNat<=122)/\(zk b).toNat=b.toNat):=by
 unfold zk
 split
 ·rename_i h;exact Or.inl ⟨h.1,h.2,Ff h⟩
 ·rename_i h;exact Or.inr ⟨h,rfl⟩
theorem Zf(b:UInt8):(65<=b.toNat/\b.toNat<=90/\(zu b).toNat=b.toNat+32)\/(¬(65<=b.toNat/\b.toNat<=90)/\(zu b).toNat=b.toNat):=by
 unfold zu
 split
 ·rename_i h;exact Or.inl ⟨h.1,h.2,Sl h⟩
 ·rename_i h;exact Or.inr ⟨h,rfl⟩
theorem MB(x:UInt8):zk (zk x)=zk x:=by
 have:=Zd x;have:=Zd (zk x);rw[<- UInt8.toNat_inj];omega
theorem MJ(x:UInt8):zk (zu x)=zk x:=by
 have:=Zd x;have:=Zf x;have:=Zd (zu x);rw[<- UInt8.toNat_inj];omega
theorem KE(x:UInt8):zu (zu x)=zu x:=by
 have:=Zf x;have:=Zf (zu x);rw[<- UInt8.toNat_inj];omega
theorem Xi(x:UInt8):zu (zk x)=zu x:=by
 have:=Zd x;have:=Zf x;have:=Zf (zk x);rw[<- UInt8.toNat_inj];omega
def ZG(cs:Bool)(C:UInt8->Prop)(b c x y:UInt8):Prop:=(x=y/\C x)\/(x=b/\y=c)\/(cs=true/\((x=zk b/\y=zk c)\/(x=zu b/\y=zu c)))
theorem ZG.cap{C:UInt8->Prop}(hC:∀x,C x->C (zk x)/\C (zu x)){b c x y:UInt8}(h:ZG true C b c x y):ZG true C b c (zk x) (zk y)/\ZG true C b c (zu x) (zu y):=by
 rcases h with⟨rfl,h⟩|⟨rfl,rfl⟩|⟨_,⟨rfl,rfl⟩|⟨rfl,rfl⟩⟩
 ·exact⟨Or.inl ⟨rfl,(hC _ h).1⟩,Or.inl ⟨rfl,(hC _ h).2⟩⟩
 ·exact⟨Or.inr (Or.inr ⟨rfl,Or.inl ⟨rfl,rfl⟩⟩),Or.inr (Or.inr ⟨rfl,Or.inr ⟨rfl,rfl⟩⟩)⟩
 ·rw[MB,MB,Xi,Xi]
  exact⟨Or.inr (Or.inr ⟨rfl,Or.inl ⟨rfl,rfl⟩⟩),Or.inr (Or.inr ⟨rfl,Or.inr ⟨rfl,rfl⟩⟩)⟩
 ·rw[MJ,MJ,KE,KE]
  exact⟨Or.inr (Or.inr ⟨rfl,Or.inl ⟨rfl,rfl⟩⟩),Or.inr (Or.inr ⟨rfl,Or.inr ⟨rfl,rfl⟩⟩)⟩
theorem Ks(x:UInt8):Yl x.toNat=(zk x).toNat:=by simp[Yl]
theorem MG(x:UInt8):Yz x.toNat=(zu x).toNat:=by simp[Yz]
theorem ZG.mark{Ds:List zH}{M:List (Nat->Bool)}{C:UInt8->Prop}{b c x y:UInt8}(ha:JL (JB Ds M) b.toNat c.toNat=true)(h:ZG (jF Ds) C b c x y){m:Nat->Bool}(hm:m∈M):m x.toNat=m y.toNat:=by
 have ha':=List.all_eq_true.1 ha
 have h0:m∈JB Ds M:=by
  unfold JB
  split
  ·exact List.mem_append_left _ hm
  ·exact hm
 rcases h with⟨rfl,_⟩|⟨rfl,rfl⟩|⟨hc,h⟩
 ·rfl
 ·simpa using ha' m h0
 ·have h1:(fun c=>m (Yl c))∈JB Ds M:=by
   unfold JB;rw[if_pos hc];exact List.mem_append_right _ (List.mem_flatMap.2 ⟨m,hm,by simp⟩)
  have h2:(fun c=>m (Yz c))∈JB Ds M:=by
   unfold JB;rw[if_pos hc];exact List.mem_append_right _ (List.mem_flatMap.2 ⟨m,hm,by simp⟩)
  rcases h with⟨rfl,rfl⟩|⟨rfl,rfl⟩
  ·have:=ha' _ h1
   simp only[Ks,beq_iff_eq]at this;exact this
  ·have:=ha' _ h2
   simp only[MG,beq_iff_eq]at this;exact this
theorem U2{l:List UInt8}{k:UInt8}(h:k∈l):(fun c=>c==k.toNat)∈yM l:=List.mem_map.2 ⟨k,h,rfl⟩
theorem UJ{k x y:UInt8}(h:(x.toNat==k.toNat)=(y.toNat==k.toNat)):x=k↔y=k:=by
 rw[<- UInt8.toNat_inj,<- UInt8.toNat_inj];rw[Bool.eq_iff_iff]at h
 simpa using h
theorem DA{Ds:List zH}{M:List (Nat->Bool)}{C:UInt8->Prop}{b c:UInt8}(ha:JL (JB Ds M) b.toNat c.toNat=true)(hM:∀m,m∈yu Ds->m∈M)
 (hC:jF Ds=true->∀x,C x->C (zk x)/\C (zu x)) (h1:∀D,D∈Ds->∀k,k∈D.one.data.toList->C k) (h2:∀D,D∈Ds->∀k,k∈D.two.data.toList->C k) (h3:∀D,D∈Ds->∀p,p∈jc D->∀k,k∈p.2.data.toList->C k):
 ∀D,D∈Ds->YO D (ZG (jF Ds) C b c):=by
 intro D hD;refine⟨fun x y k h hk=> ?_,fun k hk=>Or.inl ⟨rfl,h1 D hD k hk⟩,fun k hk=>Or.inl ⟨rfl,h2 D hD k hk⟩,fun r hr x y h=> ?_,fun r hr p hp=>⟨fun k hk=> ?_,fun p1 p2 x y h=> ?_⟩⟩
 ·refine UJ ?_
  exact h.mark ha (hM _ (List.mem_flatMap.2 ⟨D,hD,List.mem_append_left _ (U2 hk)⟩))
 ·exact h.mark ha (hM _ (List.mem_flatMap.2 ⟨D,hD,List.mem_append_right _ (List.mem_map.2 ⟨r,hr,rfl⟩)⟩))
 ·exact Or.inl ⟨rfl,h3 D hD p (List.mem_flatMap.2 ⟨r,hr,hp⟩) k hk⟩
 ·have hc:jF Ds=true:=by
   unfold jF;rw[List.any_eq_true];refine⟨D,hD,?_⟩;rw[List.any_eq_true];exact⟨p,List.mem_flatMap.2 ⟨r,hr,hp⟩,by simp[p1,p2]⟩
  rw[hc]at h ⊢;exact h.cap (hC hc)
theorem j7.feed{Ds:List zH}(hF:yo Ds){hs:List Nat}(h:j7 Ds hs)(xs:List UInt8):j7 Ds (zT Ds hs xs).1:=(QO Ds hs xs hF.1 h).1
def yG(m:Nat)(nx hv:Nat->Nat->Bool)(f:Nat->Bool)(b:UInt8):Nat->Bool:=fun q=>decide (q<m) && Ya m nx hv f b.toNat q
def QP(f:Nat->Bool):Bool:=(List.range 256).all fun p=> !f p
def Yn(l f:Nat->Bool):Bool:=(List.range 256).any fun p=>f p && l p
def Z3:Nat->Bool:=fun p=>p==0
def Js(Ds:List zH)(m:Nat)(nx hv:Nat->Nat->Bool)(l:Nat->Bool):yp (List Nat×(Nat->Bool)) where
 step k b:=((zT Ds k.1 [b]).1,yc (yG m nx hv) k.2 (zT Ds k.1 [b]).2)
 k0:=([0,0,0],Z3)
 lost k:=QP k.2
 want k:=Yn l (yc (yG m nx hv) k.2 (yE Ds k.1))
def ZO(m:Nat)(f:Nat->Bool):Prop:=∀p,f p=true->p<m
def Xc(Ds:List zH)(m:Nat)(k:List Nat×(Nat->Bool)):Prop:=(j7 Ds k.1/\k.1.length=3)/\ZO m k.2
theorem Xb{m:Nat}{nx hv:Nat->Nat->Bool}{f:Nat->Bool}{b:UInt8}:ZO m (yG m nx hv f b):=by
 intro p hp;simp only[yG,Bool.and_eq_true,decide_eq_true_eq]at hp;exact hp.1
theorem Ku{m:Nat}{nx hv:Nat->Nat->Bool}:∀(u:List UInt8) {f:Nat->Bool},ZO m f->ZO m (yc (yG m nx hv) f u)
 |[],_,h=>h
 |b:: u,f,_=>Ku u (f:=yG m nx hv f b) Xb
theorem Xj{m:Nat}(hm:m<=256){f:Nat->Bool}(h:ZO m f):QP f=true↔∀p,f p=false:=by
 unfold QP;rw[List.all_eq_true]
 constructor
 ·intro g p
  cases e:f p with
  |false=>rfl
  |true=>have:=g p (List.mem_range.2 (by have:=h p e;omega));simp[e]at this
 ·intro g p _
  simp[g p]
theorem PF{m:Nat}{nx hv:Nat->Nat->Bool}{f:Nat->Bool}(h:∀p,f p=false)(b:UInt8):∀p,yG m nx hv f b p=false:=by
 intro p;simp[yG,Ya,h]
theorem K6{m:Nat}{nx hv:Nat->Nat->Bool}:∀(u:List UInt8) {f:Nat->Bool},(∀p,f p=false)->∀p,yc (yG m nx hv) f u p=false
 |[],_,h=>h
 |b:: u,_,h=>K6 u (PF h b)
def J4(m:Nat)(hv:Nat->Nat->Bool):List (Nat->Bool):=(List.range m).map fun p c=>hv c p
theorem XT{m:Nat}(hm:0<m):ZO m Z3:=by
 intro p hp
 have:p=0:=by simpa[Z3]using hp
 omega
theorem LZ{Ds:List zH}(hF:yo Ds){m:Nat}(hm0:0<m)(hm:m<=256){nx hv:Nat->Nat->Bool}{l:Nat->Bool}:Ut (Js Ds m nx hv l) (yw (JB Ds (yu Ds++J4 m hv)) 256) (Xc Ds m) where
 g0:=⟨⟨WP Ds 3 hF.1 hF.2,rfl⟩,XT hm0⟩
 gs:=fun k b h=>⟨⟨h.1.1.feed hF [b],by rw[Js];simp only;rw[Vx];exact h.1.2⟩,Ku _ h.2⟩
 lw:=fun k h hl=>by
  have h0:=(Xj hm h.2).1 hl
  show Yn l _=false
  unfold Yn;rw[List.any_eq_false];intro p _;simp[K6 (m:=m) (nx:=nx) (hv:=hv) (yE Ds k.1) h0 p]
 ll:=fun k b h hl=>by
  have h0:=(Xj hm h.2).1 hl;exact(Xj hm (Ku _ h.2)).2 (K6 _ h0)
 sorted:=UO _ 256 (Nat.le_refl _)
 rep:=fun b=>by
  obtain⟨c,h1,h2,h3⟩:=Kh (JB Ds (yu Ds++J4 m hv)) 256 (Nat.le_refl _) b.toNat b.toNat_lt;refine⟨c,h1,h2,fun k h=> ?_⟩;have hK:=DA (C:=fun _=>True) h3 (fun m' hm'=>List.mem_append_left _ hm') (fun _ _ _=>⟨trivial,trivial⟩) (fun _ _ _ _=>trivial) (fun _ _ _ _=>trivial) (fun _ _ _ _ _ _=>trivial);have hr:=Wu (xs:=[b]) (ys:=[c]) k.1 hK ⟨Or.inr (Or.inl ⟨rfl,rfl⟩),trivial⟩
  have hs:∀(s:Nat->Bool) (x y:UInt8),ZG (jF Ds) (fun _=>True) b c x y->yG m nx hv s x=yG m nx hv s y:=by
   intro s x y hxy
   funext q
   unfold yG
   by_cases hq:q<m
   ·have:=hxy.mark h3 (m:=fun c=>hv c q) (List.mem_append_right _ (List.mem_map.2 ⟨q,List.mem_range.2 hq,rfl⟩))
    simp only[Ya];rw[this]
   ·simp[hq]
  show((zT Ds k.1 [b]).1,yc (yG m nx hv) k.2 (zT Ds k.1 [b]).2)=((zT Ds k.1 [c]).1,yc (yG m nx hv) k.2 (zT Ds k.1 [c]).2)
  rw[hr.1,yO.run hs _ hr.2]
theorem DS{K:Type}(Ds:List zH)(st:K->UInt8->K):∀(t:List UInt8) (hs:List Nat) (s:K),Ds.length<=hs.length->t.foldl (fun(k:List Nat×K) b=>((zT Ds k.1 [b]).1,yc st k.2 (zT Ds k.1 [b]).2)) (hs,s)=((zT Ds hs t).1,yc st s (zT Ds hs t).2)
 |[],hs,s,h=>by rw[WY Ds hs h];rfl
 |b:: t,hs,s,h=>by
  rw[List.foldl_cons,DS Ds st t _ _ (by rw[Vx];exact h)];have:=Vl Ds hs [b] t;rw[List.singleton_append]at this;rw[this,MS]
theorem Of{Ds:List zH}(hF:yo Ds){m:Nat}{nx hv:Nat->Nat->Bool}{l:Nat->Bool}(t:List UInt8):(Js Ds m nx hv l).at t=WG Ds (yG m nx hv) Z3 t:=
 DS Ds (yG m nx hv) t [0,0,0] Z3 hF.2
theorem Hm{m:Nat}{nx hv:Nat->Nat->Bool}{l now:Nat->Bool}(hcl:∀p q,p<m->nx p q=true->q<m)(c:UInt8)(t:List UInt8):Ws nx hv l (Ya m nx hv now c.toNat) t↔Ws nx hv l (yG m nx hv now c) t:=by
 constructor
 ·rintro⟨p,hp,h,g⟩
  exact⟨p,hp,by simp[yG,h,NF hcl _ _ h],g⟩
 ·rintro⟨p,hp,h,g⟩
  exact⟨p,hp,by simp only[yG,Bool.and_eq_true]at h;exact h.2,g⟩
theorem Mm{m:Nat}{nx hv:Nat->Nat->Bool}{l:Nat->Bool}(hm:m<=256)(hcl:∀p q,p<m->nx p q=true->q<m):∀(t:List UInt8) (now:Nat->Bool),ZO m now->(Ws nx hv l now t↔Yn l (yc (yG m nx hv) now t)=true)
 |[],now,h=>by
  unfold Yn;rw[List.any_eq_true]
  constructor
  ·rintro⟨p,hp,h1,h2⟩
   have h2':l p=true:=h2;exact⟨p,List.mem_range.2 hp,by show(now p && l p)=true;rw[h1,h2'];rfl⟩
  ·rintro⟨p,hp,h1⟩
   have h1':(now p && l p)=true:=h1;rw[Bool.and_eq_true]at h1';exact⟨p,List.mem_range.1 hp,h1'.1,h1'.2⟩
 |c:: t,now,h=>by
  rw[OU hm hcl (fun p _ hp=>h p hp) c t,Hm hcl,Mm hm hcl t _ Xb];rfl
theorem Ww{Ds:List zH}(hF:yo Ds){m:Nat}(hm0:0<m)(hm:m<=256){nx hv:Nat->Nat->Bool}{l:Nat->Bool}(hcl:∀p q,p<m->nx p q=true->q<m)(t:List UInt8):(Js Ds m nx hv l).want ((Js Ds m nx hv l).at t)=true↔yP nx hv l 0 (yH Ds t):=by
 rw[Of hF]
 show Yn l (yc (yG m nx hv) (WG Ds (yG m nx hv) Z3 t).2 (yE Ds (WG Ds (yG m nx hv) Z3 t).1))=true↔_
 rw[<- IV hF,<- Mm hm hcl _ _ (XT hm0)]
 constructor
 ·rintro⟨p,hp,h1,h2⟩
  have:p=0:=by simpa[Z3]using h1
  subst this;exact h2
 ·intro h
  exact⟨0,by omega,rfl,h⟩
end Go.Proofs.YteobgfbgglfkbaaGreat
