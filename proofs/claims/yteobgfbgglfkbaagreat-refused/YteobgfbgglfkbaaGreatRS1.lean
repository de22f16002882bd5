import Derived.Test.YteobgfbgglfkbaaGreatRA4
import Derived.Maps.OwnSet
import Derived.DeepKeys4
import Derived.Laws.EntriesVeiled
namespace Go.Proofs.YteobgfbgglfkbaaGreat
open Go.RowKit
attribute [local go_sem ↓] Go.wp_at_zero Go.wp_at_succ
def yJ(t:List UInt8):Nat:=t.foldl (fun n b=>256 * n+(b.toNat+1)) 0
theorem Vv:yJ []=0:=rfl
theorem Jk(t:List UInt8)(b:UInt8):yJ (t++[b])=256 * yJ t+(b.toNat+1):=by simp[yJ]
theorem YT(t:List UInt8):t=[]\/∃y b,t=y++[b]:=by
 by_cases h:t=[]
 ·exact Or.inl h
 ·exact Or.inr ⟨t.dropLast,t.getLast h,(List.dropLast_concat_getLast h).symm⟩
theorem En:∀(n:Nat)(x y:List UInt8),y.length=n->x.length<n->yJ x<yJ y:=by
 intro n
 induction n with
 |zero=>intro x y _ h;omega
 |succ n ih=>
  intro x y hy hx
  rcases YT y with rfl|⟨y,b,rfl⟩
  ·simp at hy
  ·rw[Jk]
   rcases YT x with rfl|⟨x,a,rfl⟩
   ·rw[Vv];omega
   ·rw[Jk]
    simp only[List.length_append,List.length_singleton]at hx hy;have:=ih x y (by omega) (by omega);have:=a.toNat_lt;omega
theorem Cy{x y:List UInt8}(h:x.length<y.length):yJ x<yJ y:=En _ x y rfl h
theorem Py:∀(n:Nat)(x y:List UInt8),x.length=n->yJ x=yJ y->x=y:=by
 intro n
 induction n with
 |zero=>
  intro x y hx h;have:x=[]:=List.length_eq_zero_iff.1 hx;subst this
  rcases YT y with rfl|⟨y,b,rfl⟩
  ·rfl
  ·rw[Jk,Vv]at h;omega
 |succ n ih=>
  intro x y hx h
  rcases YT x with rfl|⟨x,a,rfl⟩
  ·simp at hx
  ·rcases YT y with rfl|⟨y,b,rfl⟩
   ·rw[Jk,Vv]at h;omega
   ·rw[Jk,Jk]at h
    simp only[List.length_append,List.length_singleton]at hx;have:=a.toNat_lt;have:=b.toNat_lt
    have e1:yJ x=yJ y:=by omega
    have e2:a=b:=UInt8.toNat_inj.1 (by omega);rw[ih x y (by omega) e1,e2]
theorem PM{x y:List UInt8}(h:yJ x=yJ y):x=y:=Py _ x y rfl h
def Zb(bad:List UInt8->Prop)(W:List UInt8):Prop:=bad W/\∀y,bad y->yJ W<=yJ y
theorem Zb.one{bad:List UInt8->Prop}{W W':List UInt8}(h:Zb bad W)(h':Zb bad W'):W=W':=
 PM (Nat.le_antisymm (h.2 _ h'.1) (h'.2 _ h.1))
theorem Zb.short{bad:List UInt8->Prop}{W y:List UInt8}(h:Zb bad W)(hy:y.length<W.length):¬bad y:=fun b=>by
 have:=h.2 y b;have:=Cy hy;omega
structure yp(K:Type) where
 step:K->UInt8->K
 k0:K
 lost:K->Bool
 want:K->Bool
def yp.at{K:Type}(S:yp K)(t:List UInt8):K:=t.foldl S.step S.k0
theorem yp.at_snoc{K:Type}(S:yp K)(t:List UInt8)(b:UInt8):S.at (t++[b])=S.step (S.at t) b:=by simp[yp.at]
structure Ut{K:Type}(S:yp K)(ls:List UInt8)(good:K->Prop):Prop where
 g0:good S.k0
 gs:∀k b,good k->good (S.step k b)
 lw:∀k,good k->S.lost k=true->S.want k=false
 ll:∀k b,good k->S.lost k=true->S.lost (S.step k b)=true
 sorted:ls.Pairwise (fun a b=>a.toNat<b.toNat)
 rep:∀b:UInt8,∃l,l∈ls/\l.toNat<=b.toNat/\∀k,good k->S.step k b=S.step k l
def ZH(now li k i:Nat):Prop:=k<now\/(k=now/\i<li)
structure jw{K:Type}(S:yp K)(ls:List UInt8)(ts:List (List UInt8))(now li:Nat):Prop where
 first:ts[0]? =some []
 rise:ts.Pairwise (fun a b=>yJ a<yJ b)
 apart:(ts.map S.at).Nodup
 from_:∀t,t∈ts->t=[]\/∃k i a l,ZH now li k i/\ts[k]? =some a/\ls[i]? =some l/\t=a++[l]
 none_:∀t,t∈ts->S.want (S.at t)=false
 done:∀k i a l,ZH now li k i->ts[k]? =some a->ls[i]? =some l->S.lost (S.at (a++[l]))=true\/∃t,t∈ts/\S.at t=S.at (a++[l])/\yJ t<=yJ (a++[l])
 upto:now<=ts.length
theorem jw.start{K:Type}{S:yp K}{ls:List UInt8}(h:S.want S.k0=false):jw S ls [[]] 0 0 where
 first:=rfl
 rise:=by simp
 apart:=by simp
 from_:=by intro t ht;exact Or.inl (by simpa using ht)
 none_:=by
  intro t ht
  have e:t=[]:=by simpa using ht
  subst e;exact h
 done:=by intro k i a l hd;unfold ZH at hd;omega
 upto:=by simp
theorem Av{ts:List (List UInt8)}(h:ts.Pairwise (fun a b=>yJ a<yJ b)){i j:Nat}{a b:List UInt8}(hi:ts[i]? =some a)(hj:ts[j]? =some b)(hlt:i<j):yJ a<yJ b:=by
 obtain⟨h1,rfl⟩:=List.getElem?_eq_some_iff.1 hi;obtain⟨h2,rfl⟩:=List.getElem?_eq_some_iff.1 hj;exact List.pairwise_iff_getElem.1 h i j h1 h2 hlt
theorem EP{ls:List UInt8}(h:ls.Pairwise (fun a b=>a.toNat<b.toNat)){i j:Nat}{a b:UInt8}(hi:ls[i]? =some a)(hj:ls[j]? =some b)(hlt:i<j):a.toNat<b.toNat:=by
 obtain⟨h1,rfl⟩:=List.getElem?_eq_some_iff.1 hi;obtain⟨h2,rfl⟩:=List.getElem?_eq_some_iff.1 hj;exact List.pairwise_iff_getElem.1 h i j h1 h2 hlt
theorem jw.below{K:Type}{S:yp K}{ls:List UInt8}{ts:List (List UInt8)}{now li:Nat}(h:jw S ls ts now li)(hl:ls.Pairwise (fun a b=>a.toNat<b.toNat)){a:List UInt8}{l:UInt8}(ha:ts[now]? =some a)(hb:ls[li]? =some l):∀t,t∈ts->yJ t<yJ (a++[l]):=by
 intro t ht;rw[Jk]
 rcases h.from_ t ht with rfl|⟨k,i,c,m,hd,hc,hm,rfl⟩
 ·rw[Vv];omega
 ·rw[Jk]
  have:=m.toNat_lt
  rcases hd with hd|⟨rfl,hd⟩
  ·have:=Av h.rise hc ha hd
   omega
  ·rw[ha]at hc
   injection hc with hc
   subst hc;have:=EP hl hm hb hd;omega
theorem Nl{now li k i:Nat}(h:ZH now (li+1) k i):ZH now li k i\/(k=now/\i=li):=by
 unfold ZH at *;omega
theorem ZH.mono{now li k i:Nat}(h:ZH now li k i):ZH now (li+1) k i:=by unfold ZH at *;omega
theorem jw.sk{K:Type}{S:yp K}{ls:List UInt8}{ts:List (List UInt8)}{now li:Nat}(h:jw S ls ts now li)(hl:ls.Pairwise (fun a b=>a.toNat<b.toNat)){a:List UInt8}{l:UInt8}(ha:ts[now]? =some a)(hb:ls[li]? =some l)
 (hs:S.lost (S.at (a++[l]))=true\/S.at (a++[l])∈ts.map S.at):jw S ls ts now (li+1) where
 first:=h.first
 rise:=h.rise
 apart:=h.apart
 from_:=by
  intro t ht
  rcases h.from_ t ht with h0|⟨k,i,c,m,hd,hr⟩
  ·exact Or.inl h0
  ·exact Or.inr ⟨k,i,c,m,hd.mono,hr⟩
 none_:=h.none_
 done:=by
  intro k i c m hd hc hm
  rcases Nl hd with hd|⟨rfl,rfl⟩
  ·exact h.done k i c m hd hc hm
  ·rw[ha]at hc
   injection hc with hc
   rw[hb]at hm
   injection hm with hm
   subst hc hm
   rcases hs with hs|hs
   ·exact Or.inl hs
   ·obtain⟨t,ht,e⟩:=List.mem_map.1 hs
    exact Or.inr ⟨t,ht,e,Nat.le_of_lt (h.below hl ha hb t ht)⟩
 upto:=h.upto
theorem JC{α:Type}{l:List α}{x a:α}{k:Nat}(h:l[k]? =some a):(l++[x])[k]? =some a:=by
 obtain⟨h1,rfl⟩:=List.getElem?_eq_some_iff.1 h;rw[List.getElem?_append_left h1];exact List.getElem?_eq_some_iff.2 ⟨h1,rfl⟩
theorem VX{α:Type}{l:List α}{x a:α}{k:Nat}(hk:k<l.length)(h:(l++[x])[k]? =some a):l[k]? =some a:=by
 rwa [List.getElem?_append_left hk]at h
theorem jw.grow{K:Type}{S:yp K}{ls:List UInt8}{ts:List (List UInt8)}{now li:Nat}(h:jw S ls ts now li)(hl:ls.Pairwise (fun a b=>a.toNat<b.toNat)){a:List UInt8}{l:UInt8}(ha:ts[now]? =some a)(hb:ls[li]? =some l)
 (hn:S.at (a++[l])∉ts.map S.at) (hw:S.want (S.at (a++[l]))=false):jw S ls (ts++[a++[l]]) now (li+1) where
 first:=JC h.first
 rise:=List.pairwise_append.2 ⟨h.rise,by simp,fun t ht u hu=>by
  have:u=a++[l]:=by simpa using hu
  subst this
  exact h.below hl ha hb t ht⟩
 apart:=by
  rw[List.map_append,List.nodup_append];refine⟨h.apart,by simp,fun x hx y hy=> ?_⟩
  have:y=S.at (a++[l]):=by simpa using hy
  subst this
  exact fun e=>hn (e ▸ hx)
 from_:=by
  intro t ht
  rcases List.mem_append.1 ht with ht|ht
  ·rcases h.from_ t ht with h0|⟨k,i,c,m,hd,hc,hr⟩
   ·exact Or.inl h0
   ·exact Or.inr ⟨k,i,c,m,hd.mono,JC hc,hr⟩
  ·have:t=a++[l]:=by simpa using ht
   exact Or.inr ⟨now,li,a,l,Or.inr ⟨rfl,Nat.lt_succ_self _⟩,JC ha,hb,this⟩
 none_:=by
  intro t ht
  rcases List.mem_append.1 ht with ht|ht
  ·exact h.none_ t ht
  ·have:t=a++[l]:=by simpa using ht
   subst this;exact hw
 done:=by
  have hlt:now<ts.length:=(List.getElem?_eq_some_iff.1 ha).1;intro k i c m hd hc hm
  rcases Nl hd with hd|⟨rfl,rfl⟩
  ·have hk:k<ts.length:=by unfold ZH at hd;omega
   rcases h.done k i c m hd (VX hk hc) hm with h1|⟨t,ht,e⟩
   ·exact Or.inl h1
   ·exact Or.inr ⟨t,List.mem_append_left _ ht,e⟩
  ·rw[JC ha]at hc
   injection hc with hc
   rw[hb]at hm
   injection hm with hm
   subst hc hm;exact Or.inr ⟨_,List.mem_append_right _ (List.mem_singleton.2 rfl),rfl,Nat.le_refl _⟩
 upto:=by have:=h.upto;simp;omega
theorem jw.next{K:Type}{S:yp K}{ls:List UInt8}{ts:List (List UInt8)}{now:Nat}(h:jw S ls ts now ls.length)(hn:now<ts.length):jw S ls ts (now+1) 0 where
 first:=h.first
 rise:=h.rise
 apart:=h.apart
 from_:=by
  intro t ht
  rcases h.from_ t ht with h0|⟨k,i,c,m,hd,hr⟩
  ·exact Or.inl h0
  ·exact Or.inr ⟨k,i,c,m,Or.inl (by unfold ZH at hd;omega),hr⟩
 none_:=h.none_
 done:=by
  intro k i c m hd hc hm;refine h.done k i c m ?_ hc hm;have hi:i<ls.length:=(List.getElem?_eq_some_iff.1 hm).1;unfold ZH at *;omega
 upto:=hn
theorem Ek:∀(N:Nat)(l:List Nat),l.Nodup->(∀x,x∈l->x<N)->l.length<=N:=by
 intro N
 induction N with
 |zero=>
  intro l _ h
  cases l with
  |nil=>exact Nat.le_refl _
  |cons x l=>exact absurd (h x (by simp)) (by omega)
 |succ N ih=>
  intro l hl h
  have:=ih (l.erase N) (hl.erase N) (fun x hx=>by
   have h1:=h x (List.mem_of_mem_erase hx)
   have h2:x≠N:=(List.Nodup.mem_erase_iff hl).1 hx |>.1
   omega)
  rw[List.length_erase]at this
  split at this <;>omega
theorem Wv{α:Type}{l:List α}(hl:l.Nodup)(f:α->Nat)(N:Nat)(h1:∀x,x∈l->f x<N)(h2:∀x y,x∈l->y∈l->f x=f y->x=y):l.length<=N:=by
 have hn:(l.map f).Nodup:=by
  rw[List.nodup_iff_pairwise_ne,List.pairwise_map];have:=List.nodup_iff_pairwise_ne.1 hl;exact this.imp_of_mem (fun hx hy hne e=>hne (h2 _ _ hx hy e))
 have:=Ek N (l.map f) hn (fun n hn'=>by
  obtain⟨x,hx,rfl⟩:=List.mem_map.1 hn'
  exact h1 x hx)
 simpa using this
structure ZK{K:Type}(S:yp K)(ls:List UInt8)(good:K->Prop):Prop where
 g0:good S.k0
 gs:∀k b,good k->good (S.step k b)
 lw:∀k,good k->S.lost k=true->S.want k=false
 ll:∀k b,good k->S.lost k=true->S.lost (S.step k b)=true
 sorted:ls.Pairwise (fun a b=>a.toNat<b.toNat)
 rep:∀y,S.want (S.at y)=true->∃y',(∀b,b∈y'->b∈ls)/\S.want (S.at y')=true/\yJ y'<=yJ y
theorem ZK.good_at{K:Type}{S:yp K}{ls:List UInt8}{good:K->Prop}(h:ZK S ls good)(t:List UInt8):good (S.at t):=by
 have:∀(u:List UInt8) (k:K),good k->good (u.foldl S.step k):=by
  intro u
  induction u with
  |nil=>exact fun k hk=>hk
  |cons b u ih=>exact fun k hk=>ih _ (h.gs k b hk)
 exact this t _ h.g0
theorem ZK.and{K:Type}{S:yp K}{ls:List UInt8}{good:K->Prop}(h:ZK S ls good)(P:K->Prop)(p0:P S.k0)(ps:∀k b,good k->P k->P (S.step k b)):ZK S ls (fun k=>good k/\P k) where
 g0:=⟨h.g0,p0⟩
 gs:=fun k b hk=>⟨h.gs k b hk.1,ps k b hk.1 hk.2⟩
 lw:=fun k hk=>h.lw k hk.1
 ll:=fun k b hk=>h.ll k b hk.1
 sorted:=h.sorted
 rep:=h.rep
theorem Gu(f:UInt8->UInt8)(hf:∀b,(f b).toNat<=b.toNat):∀(n:Nat) (y:List UInt8),y.length=n->yJ (y.map f)<=yJ y:=by
 intro n
 induction n with
 |zero=>
  intro y hy;have:y=[]:=List.length_eq_zero_iff.1 hy;subst this;exact Nat.le_refl _
 |succ n ih=>
  intro y hy
  rcases YT y with rfl|⟨y,b,rfl⟩
  ·simp at hy
  ·simp only[List.length_append,List.length_singleton]at hy
   rw[List.map_append,List.map_cons,List.map_nil,Jk,Jk];have:=ih y (by omega);have:=hf b;omega
theorem Ut.two{K:Type}{S:yp K}{ls:List UInt8}{good:K->Prop}(h:Ut S ls good):ZK S ls good where
 g0:=h.g0
 gs:=h.gs
 lw:=h.lw
 ll:=h.ll
 sorted:=h.sorted
 rep:=fun y hy=>by
  have hc:∃f:UInt8->UInt8,∀b,f b∈ls/\(f b).toNat<=b.toNat/\∀k,good k->S.step k b=S.step k (f b):=⟨fun b=>(h.rep b).choose,fun b=>(h.rep b).choose_spec⟩;obtain⟨f,hf⟩:=hc
  have key:∀(u:List UInt8) (k:K),good k->u.foldl S.step k=(u.map f).foldl S.step k:=by
   intro u
   induction u with
   |nil=>exact fun _ _=>rfl
   |cons b u ih=>
    intro k hk;rw[List.foldl_cons,List.map_cons,List.foldl_cons,<- (hf b).2.2 k hk];exact ih _ (h.gs k b hk)
  refine⟨y.map f,fun b hb=> ?_,?_,Gu f (fun b=>(hf b).2.1) _ y rfl⟩
  ·obtain⟨c,_,rfl⟩:=List.mem_map.1 hb
   exact(hf c).1
  ·have e:S.at (y.map f)=S.at y:=(key y S.k0 h.g0).symm
   rw[e];exact hy
theorem jw.found2{K:Type}{S:yp K}{ls:List UInt8}{good:K->Prop}(ok:ZK S ls good){ts:List (List UInt8)}{now li:Nat}(h:jw S ls ts now li){a:List UInt8}{l:UInt8}(ha:ts[now]? =some a)(hb:ls[li]? =some l)
 (hw:S.want (S.at (a++[l]))=true):Zb (fun t=>S.want (S.at t)=true) (a++[l]):=by
 refine⟨hw,?_⟩
 have key:∀(n:Nat) (y:List UInt8),y.length=n->(∀b,b∈y->b∈ls)->yJ y<yJ (a++[l])->S.lost (S.at y)=true\/∃t,t∈ts/\S.at t=S.at y/\yJ t<=yJ y:=by
  intro n
  induction n with
  |zero=>
   intro y hy _ _;have:y=[]:=List.length_eq_zero_iff.1 hy;subst this;exact Or.inr ⟨[],List.mem_of_getElem? h.first,rfl,Nat.le_refl _⟩
  |succ n ih=>
   intro y hy hls hc
   rcases YT y with rfl|⟨y,b,rfl⟩
   ·simp at hy
   ·simp only[List.length_append,List.length_singleton]at hy
    have hyc:yJ y<yJ (a++[l]):=by rw[Jk]at hc;omega
    rcases ih y (by omega) (fun c hcm=>hls c (by simp[hcm])) hyc with h1|⟨t,ht,e,hle⟩
    ·left
     rw[S.at_snoc];exact ok.ll _ _ (ok.good_at y) h1
    ·obtain⟨k,hk,rfl⟩:=List.mem_iff_getElem.1 ht
     obtain⟨i,hi,rfl⟩:=List.mem_iff_getElem.1 (hls b (by simp))
     have e1:S.at (ts[k]++[ls[i]])=S.at (y++[ls[i]]):=by rw[S.at_snoc,S.at_snoc,e]
     have e2:yJ (ts[k]++[ls[i]])<=yJ (y++[ls[i]]):=by rw[Jk,Jk];omega
     have hd:ZH now li k i:=by
      have e3:yJ (ts[k]++[ls[i]])<yJ (a++[l]):=by omega
      rw[Jk,Jk]at e3;have:=ls[i].toNat_lt;have:=l.toNat_lt
      rcases Nat.lt_trichotomy k now with h1|h1|h1
      ·exact Or.inl h1
      ·subst h1
       have:ts[k]=a:=by rw[List.getElem?_eq_getElem hk]at ha;injection ha
       rw[this]at e3;refine Or.inr ⟨rfl,Nat.lt_of_not_le fun hge=> ?_⟩
       rcases Nat.lt_or_eq_of_le hge with h2|h2
       ·have:=EP ok.sorted hb (List.getElem?_eq_getElem hi) h2
        omega
       ·subst h2
        rw[List.getElem?_eq_getElem hi]at hb
        injection hb with hb
        rw[hb]at e3;omega
      ·have:=Av h.rise ha (List.getElem?_eq_getElem hk) h1
       omega
     rcases h.done k i _ _ hd (List.getElem?_eq_getElem hk) (List.getElem?_eq_getElem hi)with h1|⟨t,ht,e3,h3⟩
     ·left;rw[<- e1];exact h1
     ·exact Or.inr ⟨t,ht,e3.trans e1,by omega⟩
 intro y0 hy0;obtain⟨y,hls,hy,hle⟩:=ok.rep y0 hy0;refine Nat.le_trans (Nat.le_of_not_lt fun hlt=> ?_) hle
 rcases key _ y rfl hls hlt with h1|⟨t,ht,e,_⟩
 ·rw[ok.lw _ (ok.good_at y) h1]at hy;cases hy
 ·rw[<- e,h.none_ t ht]at hy;cases hy
theorem jw.never2{K:Type}{S:yp K}{ls:List UInt8}{good:K->Prop}(ok:ZK S ls good){ts:List (List UInt8)}(h:jw S ls ts ts.length 0)(y0:List UInt8):S.want (S.at y0)=false:=by
 have key:∀(n:Nat) (y:List UInt8),y.length=n->(∀b,b∈y->b∈ls)->S.lost (S.at y)=true\/∃t,t∈ts/\S.at t=S.at y:=by
  intro n
  induction n with
  |zero=>
   intro y hy _;have:y=[]:=List.length_eq_zero_iff.1 hy;subst this;exact Or.inr ⟨[],List.mem_of_getElem? h.first,rfl⟩
  |succ n ih=>
   intro y hy hls
   rcases YT y with rfl|⟨y,b,rfl⟩
   ·simp at hy
   ·simp only[List.length_append,List.length_singleton]at hy
    rcases ih y (by omega) (fun c hcm=>hls c (by simp[hcm]))with h1|⟨t,ht,e⟩
    ·left
     rw[S.at_snoc];exact ok.ll _ _ (ok.good_at y) h1
    ·obtain⟨k,hk,rfl⟩:=List.mem_iff_getElem.1 ht
     obtain⟨i,hi,rfl⟩:=List.mem_iff_getElem.1 (hls b (by simp))
     have e1:S.at (ts[k]++[ls[i]])=S.at (y++[ls[i]]):=by rw[S.at_snoc,S.at_snoc,e]
     rcases h.done k i _ _ (Or.inl hk) (List.getElem?_eq_getElem hk) (List.getElem?_eq_getElem hi)with h1|⟨t,ht,e3,_⟩
     ·left;rw[<- e1];exact h1
     ·exact Or.inr ⟨t,ht,e3.trans e1⟩
 cases hw:S.want (S.at y0)with
 |false=>rfl
 |true=>
  obtain⟨y,hls,hy,_⟩:=ok.rep y0 hw
  rcases key _ y rfl hls with h1|⟨t,ht,e⟩
  ·rw[ok.lw _ (ok.good_at y) h1]at hy;cases hy
  ·rw[<- e,h.none_ t ht]at hy;cases hy
def Ua(v:Value):Option (DataW Value×List MemPlace):=some (.held v,[])
def yx(w:World)(k:TypeId)(B n:Nat)(f:Value->Option Value):Prop:=
 ∃D:DataW Value,w.ownsMap Tryz.prog k Ua B n D/\∀v kl,keyOf Tryz.prog k v=some kl->Maps.has D kl=(f v).isSome/\∀x,f v=some x->∀z,D.atKey kl z= .held x
theorem yx.lt{w:World}{k:TypeId}{B n:Nat}{f:Value->Option Value}(h:yx w k B n f):B<w.heap.size:=by
 obtain⟨D,h,_⟩:=h;exact h.lt
theorem yx.kp{w w':World}{k:TypeId}{B n:Nat}{f:Value->Option Value}{X:List Nat}(h:yx w k B n f)(g:Ch X w w')(hB:B∉X):yx w' k B n f:=by
 obtain⟨D,⟨es,clock,hb,r⟩,h2⟩:=h;have hlt:B<w.heap.size:=(Array.getElem?_eq_some_iff.1 hb).1;exact⟨D,⟨es,clock,(g.block B hlt hB).trans hb,r⟩,h2⟩
theorem yx.made(w:World)(k:TypeId):yx (w.alloc (.map #[] 0)) k w.heap.size 0 (fun _=>none):=
 ⟨.map [],World.ownsMap_made w Tryz.prog k Ua,fun v kl _=>⟨rfl,fun x hx=>by cases hx⟩⟩
theorem yx.look{w:World}{k t e:TypeId}{B n:Nat}{f:Value->Option Value}(h:yx w k B n f)(K:Maps.Keyed Tryz.prog k)(ht:Tryz.prog.underlying t=some (.map k e)){z:Value}(hz:(zeroValue e).run Tryz.prog w= .ok z w){key:Value}(hkey:∃kl,keyOf Tryz.prog k key=some kl):
 (Instr.lookup t (.map (some B)) key true).run Tryz.prog w= .ok (.tuple #[(f key).getD z,.bool (f key).isSome]) w:=by
 obtain⟨D,h1,h2⟩:=h;obtain⟨kl,hkl⟩:=hkey;obtain⟨v,ps,hr,hv⟩:=h1.look_ok K ht hz (zd:= .held z) (zp:=[]) rfl hkl;obtain⟨a1,a2⟩:=h2 key kl hkl;rw[hr,a1]
 have hv':DataW.held v=D.atKey kl (.held z):=by
  simp only[Ua,Option.some.injEq,Prod.mk.injEq]at hv;exact hv.1
 cases hf:f key with
 |some x=>
  rw[a2 x hf]at hv';have hv2:=DataW.held.inj hv';subst hv2;rfl
 |none=>
  rw[Maps.atKey_of_not_has (by rw[a1,hf];rfl)]at hv';have hv2:=DataW.held.inj hv';subst hv2;rfl
theorem yx.look1{w:World}{k t e:TypeId}{B n:Nat}{f:Value->Option Value}(h:yx w k B n f)(K:Maps.Keyed Tryz.prog k)(ht:Tryz.prog.underlying t=some (.map k e)){z:Value}(hz:(zeroValue e).run Tryz.prog w= .ok z w){key:Value}(hkey:∃kl,keyOf Tryz.prog k key=some kl):
 (Instr.lookup t (.map (some B)) key false).run Tryz.prog w= .ok ((f key).getD z) w:=by
 obtain⟨D,h1,h2⟩:=h;obtain⟨kl,hkl⟩:=hkey;obtain⟨v,ps,hr,hv⟩:=h1.lookup K ht hz (zd:= .held z) (zp:=[]) rfl hkl;obtain⟨a1,a2⟩:=h2 key kl hkl;rw[hr]
 have hv':DataW.held v=D.atKey kl (.held z):=by
  simp only[Ua,Option.some.injEq,Prod.mk.injEq]at hv;exact hv.1
 cases hf:f key with
 |some x=>
  rw[a2 x hf]at hv';have hv2:=DataW.held.inj hv';subst hv2;rfl
 |none=>
  rw[Maps.atKey_of_not_has (by rw[a1,hf];rfl)]at hv';have hv2:=DataW.held.inj hv';subst hv2;rfl
theorem yx.store{w:World}{k t e:TypeId}{B n:Nat}{f:Value->Option Value}(h:yx w k B n f)(K:Maps.Keyed Tryz.prog k)(ht:Tryz.prog.underlying t=some (.map k e))(hn:n<maxLen){key:Value}(hkey:∃kl,keyOf Tryz.prog k key=some kl)(val:Value){f':Value->Option Value}(h1:f' key=some val)(h2:∀v,v≠key->f' v=f v):
 ∃w',(Instr.mapUpdate t (.map (some B)) key val).run Tryz.prog w= .ok () w'/\yx w' k B (n+1) f'/\Ch [B] w w':=by
 obtain⟨D,o1,o2⟩:=h;obtain⟨kl,hkl⟩:=hkey;obtain⟨w',hr,o3,g⟩:=o1.update K ht hn hkl (val:=val) (d:= .held val) (ps:=[]) rfl;refine⟨w',hr,⟨_,o3,fun v kv hkv=> ?_⟩,Ch.grown g⟩
 by_cases e:kv=kl
 ·subst e
  have:v=key:=K.inj hkv hkl;subst this;rw[h1];refine⟨Maps.has_put_same o1.isMap (K.key hkl) _,fun x hx z=> ?_⟩;have hx2:=Option.some.inj hx;subst hx2;exact Maps.atKey_put_same o1.isMap (K.key hkl) _ _
 ·have hne:v≠key:=by
   rintro rfl;rw[hkl]at hkv;exact e (Option.some.inj hkv).symm
  rw[h2 v hne,Maps.has_put_other e];refine⟨(o2 v kv hkv).1,fun x hx z=> ?_⟩;rw[Maps.atKey_put_other e];exact(o2 v kv hkv).2 x hx z
section
variable {w:World} {ops:Array Oper} {rest:List Oper} {o:Oper} {a:Act} {Q:Exit->Act->World->Prop}
end
theorem Wo:laidOutB Tryz.prog=true:=by kernel_rfl
theorem XQ:Maps.Keyed Tryz.prog 227:=Maps.Keyed.of_law (deep_law_laid Wo (m:=5) (by decide) (by decide+kernel) (by kernel_rfl) (by kernel_rfl))
theorem XU:Maps.Keyed Tryz.prog 156:=Maps.Keyed.of_law (deep_law_laid Wo (m:=5) (by decide) (by decide+kernel) (by kernel_rfl) (by kernel_rfl))
theorem LI:Maps.Keyed Tryz.prog 282:=Maps.Keyed.of_law (deep_law_laid Wo (m:=5) (by decide) (by decide+kernel) (by kernel_rfl) (by kernel_rfl))
theorem LB:Maps.Keyed Tryz.prog 122:=Maps.Keyed.of_law (deep_law_laid Wo (m:=5) (by decide) (by decide+kernel) (by kernel_rfl) (by kernel_rfl))
theorem Wf:∃d,Tryz.prog.types.size+1=d+5:=by
 have:4<=Tryz.prog.types.size:=by decide+kernel
 exact⟨Tryz.prog.types.size - 4,by omega⟩
theorem wfU8{a:Int}(h:0<=a/\a<256):(Lit.int .u8 a).wf=true:=by
 have e1:IntKind.u8.min=0:=rfl;have e2:IntKind.u8.max=255:=rfl;simp only[Lit.wf,e1,e2,Bool.and_eq_true,decide_eq_true_eq];omega
theorem Iq{a:Nat}(h:a<=1000000000):(Lit.int .i64 a).wf=true:=by
 have e1:IntKind.i64.min= -9223372036854775808:=rfl;have e2:IntKind.i64.max=9223372036854775807:=rfl;simp only[Lit.wf,e1,e2,Bool.and_eq_true,decide_eq_true_eq];omega
theorem Oe{a:Nat}(h:a<18446744073709551616):(Lit.int .u64 a).wf=true:=by
 have e1:IntKind.u64.min=0:=rfl;have e2:IntKind.u64.max=18446744073709551615:=rfl;simp only[Lit.wf,e1,e2,Bool.and_eq_true,decide_eq_true_eq];omega
theorem kU8(d:Nat)(T:TypeId)(hT:Tryz.prog.underlying T=some (.int .u8)){a:Int}(h:0<=a/\a<256):Tryz.prog.keyLits (d+1) T [.int .u8 a]=some [.int .u8 a]:=by
 simp[Program.keyLits,hT,wfU8 h]
theorem kI64(d:Nat)(T:TypeId)(hT:Tryz.prog.underlying T=some (.int .i64)){a:Nat}(h:a<=1000000000):Tryz.prog.keyLits (d+1) T [.int .i64 a]=some [.int .i64 a]:=by
 simp[Program.keyLits,hT,Iq h]
theorem UR(d:Nat){a:Nat}(h:a<18446744073709551616):Tryz.prog.keyLits (d+1) 153 [.int .u64 a]=some [.int .u64 a]:=by
 simp[Program.keyLits,Tryz.underlying153,Oe h]
theorem cA3:Tryz.prog.cellsOf 120=3:=by kernel_rfl
theorem cA4:Tryz.prog.cellsOf 154=4:=by kernel_rfl
theorem To:Tryz.prog.cellsOf 119=1:=by kernel_rfl
theorem cU8:Tryz.prog.cellsOf 5=1:=by kernel_rfl
theorem IQ:Tryz.prog.cellsOf 225=1:=by kernel_rfl
theorem cU64:Tryz.prog.cellsOf 153=1:=by kernel_rfl
theorem UC:Tryz.prog.cellsOf 122=3:=by kernel_rfl
theorem EM:Tryz.prog.cellsOf 227=4:=by kernel_rfl
theorem Aw:Tryz.prog.cellsOf 282=4:=by kernel_rfl
theorem NY:Tryz.prog.cellsOf 156=4:=by kernel_rfl
theorem rg3:List.range 3=[0,1,2]:=rfl
theorem rg4:List.range 4=[0,1,2,3]:=rfl
theorem Ah{d n:Nat}{t e:TypeId}{cs:List Value}(h:Tryz.prog.underlying t=some (.array n e)):Tryz.prog.keyLits (d+1) t cs=if cs.length=Tryz.prog.cellsOf t then((List.range n).mapM fun i=>Tryz.prog.keyLits d e ((cs.drop (i * Tryz.prog.cellsOf e)).take (Tryz.prog.cellsOf e))).map List.flatten else none:=by
 simp only[Program.keyLits,h]
theorem UH {d : Nat} {t : TypeId} {fs : Array Field} {cs : List Value} (h : Tryz.prog.underlying t = some (.struct fs)) : Tryz.prog.keyLits (d + 1) t cs = if cs.length = Tryz.prog.cellsOf t ∧ fs.all (·.name != "_") = true then (fs.toList.mapM fun f => Tryz.prog.keyLits d f.type ((cs.drop f.offset).take (Tryz.prog.cellsOf f.type))).map List.flatten else none := by
 simp only[Program.keyLits,h]
theorem kA3(d:Nat){a b c:Int}(ha:0<=a/\a<256)(hb:0<=b/\b<256)(hc:0<=c/\c<256):Tryz.prog.keyLits (d+2) 120 [.int .u8 a,.int .u8 b,.int .u8 c]=some [.int .u8 a,.int .u8 b,.int .u8 c]:=by
 rw[Ah Tryz.underlying120];simp[cA3,To,rg3,kU8 d 119 Tryz.underlying119 ha,kU8 d 119 Tryz.underlying119 hb,kU8 d 119 Tryz.underlying119 hc]
theorem WS(d:Nat){a b c:Int}(ha:0<=a/\a<256)(hb:0<=b/\b<256)(hc:0<=c/\c<256):Tryz.prog.keyLits (d+3) 122 [.int .u8 a,.int .u8 b,.int .u8 c]=some [.int .u8 a,.int .u8 b,.int .u8 c]:=by
 rw[UH Tryz.underlying122];simp[UC,cA3,kA3 d ha hb hc]
theorem WC{T:TypeId}{fs:Array Field}{cs:Array Value}{ls:List Lit}{d:Nat}(hU:Tryz.prog.underlying T=some (.struct fs))(hk:Tryz.prog.keyType T=true)(hc:cs.size=Tryz.prog.cellsOf T)(hd:Tryz.prog.types.size+1=d)(hl:Tryz.prog.keyLits d T cs.toList=some ls):∃kl,keyOf Tryz.prog T (.agg cs)=some kl:=by
 have hf:Value.formed Tryz.prog T (.agg cs)=true:=by simp only[Value.formed,hU,hc,beq_self_eq_true]
 subst hd;refine⟨.string (keyBytes ls),?_⟩;unfold keyOf;rw[hU];simp only[hk,hf,Bool.and_self,if_true];rw[show(Value.agg cs).cells=cs from rfl,hl];rfl
theorem RK{a b c:Int}(ha:0<=a/\a<256)(hb:0<=b/\b<256)(hc:0<=c/\c<256):∃kl,keyOf Tryz.prog 122 (.agg #[.int .u8 a,.int .u8 b,.int .u8 c])=some kl:=by
 obtain⟨d,hd⟩:=Wf
 have hk:Tryz.prog.keyType 122=true:=by kernel_rfl
 exact WC Tryz.underlying122 hk UC.symm hd (WS (d+2) ha hb hc)
theorem TZ{a b c:Int}{s:Nat}(ha:0<=a/\a<256)(hb:0<=b/\b<256)(hc:0<=c/\c<256)(hs:s<=1000000000):∃kl,keyOf Tryz.prog 227 (.agg #[.int .u8 a,.int .u8 b,.int .u8 c,.int .i64 s])=some kl:=by
 obtain⟨d,hd⟩:=Wf
 have hk:Tryz.prog.keyType 227=true:=by kernel_rfl
 have e:=WS (d+1) ha hb hc;have f:=kI64 (d+3) 225 Tryz.underlying225 hs
 have g:Tryz.prog.keyLits (d+5) 227 [.int .u8 a,.int .u8 b,.int .u8 c,.int .i64 s]=some [.int .u8 a,.int .u8 b,.int .u8 c,.int .i64 s]:=by
  rw[UH Tryz.underlying227];simp[EM,UC,IQ,e,f]
 exact WC Tryz.underlying227 hk EM.symm hd g
theorem Pe{a b c l:Int}(ha:0<=a/\a<256)(hb:0<=b/\b<256)(hc:0<=c/\c<256)(hl:0<=l/\l<256):∃kl,keyOf Tryz.prog 282 (.agg #[.int .u8 a,.int .u8 b,.int .u8 c,.int .u8 l])=some kl:=by
 obtain⟨d,hd⟩:=Wf
 have hk:Tryz.prog.keyType 282=true:=by kernel_rfl
 have e:=WS (d+1) ha hb hc;have f:=kU8 (d+3) 5 Tryz.underlying5 hl
 have g:Tryz.prog.keyLits (d+5) 282 [.int .u8 a,.int .u8 b,.int .u8 c,.int .u8 l]=some [.int .u8 a,.int .u8 b,.int .u8 c,.int .u8 l]:=by
  rw[UH Tryz.underlying282];simp[Aw,UC,cU8,e,f]
 exact WC Tryz.underlying282 hk Aw.symm hd g
theorem aN{q:Nat->Nat}(h:∀t,t<4->q t<18446744073709551616):∃kl,keyOf Tryz.prog 156 (.agg #[.int .u64 (q 0),.int .u64 (q 1),.int .u64 (q 2),.int .u64 (q 3)])=some kl:=by
 obtain⟨d,hd⟩:=Wf
 have hk:Tryz.prog.keyType 156=true:=by kernel_rfl
 have e:Tryz.prog.keyLits (d+4) 154 [.int .u64 (q 0),.int .u64 (q 1),.int .u64 (q 2),.int .u64 (q 3)]=some [.int .u64 (q 0),.int .u64 (q 1),.int .u64 (q 2),.int .u64 (q 3)]:=by
  rw[Ah Tryz.underlying154];simp[cA4,cU64,rg4,UR (d+2) (h 0 (by omega)),UR (d+2) (h 1 (by omega)),UR (d+2) (h 2 (by omega)),UR (d+2) (h 3 (by omega))]
 have g:Tryz.prog.keyLits (d+5) 156 [.int .u64 (q 0),.int .u64 (q 1),.int .u64 (q 2),.int .u64 (q 3)]=some [.int .u64 (q 0),.int .u64 (q 1),.int .u64 (q 2),.int .u64 (q 3)]:=by
  rw[UH Tryz.underlying156];simp[NY,cA4,e]
 exact WC Tryz.underlying156 hk NY.symm hd g
theorem UP{W:World}{ops:Array Oper}{o:Oper}{a:Act}{K:Act->World->Prop}{Q:Exit->Act->World->Prop}{E0:Prop}(T E:TypeId)(size bytes:Nat)(z:Value)(hT:Tryz.prog.underlying T=some (.slice E))
 (hinfo:(Tryz.prog.info? E).map (fun i=>(i.zero,i.size,i.bytes))=some (some z,size,bytes)) (hzs:z.cells.size=size) (hsz:0<size) (hby:bytes<=4096) (hgd:o.guard=none) (sx xx:Operand)
 (ho:o.op= .call {callee:= .builtin .append,args:= #[sx,xx],argTypes:= #[T,T]}) (v:Value) (n:Nat) (xs:List Value) (hs:a.eval sx=v) (hown:W.ownsRow 0 E size v n xs)
 (N:Nat) (news:List Value) (hx:a.eval xx= .slice (some ⟨N,0,none⟩) 1 1) (hN:W.heap[N]? =some (.cells news.toArray E)) (hl:news.length=size) (h1:∀u∈news,u.oneCell'=true) (hn:n<=16777216) (H:Nat) (hH:W.heap.size=H)
 (h:∀g cap w',w'.ownsRow 0 E size (.slice (some ⟨g,0,none⟩) (n+1) cap) (n+1) (xs++news)->Ch v.ownBlock.toList W w'->(v.ownBlock=some g\/g=H)->g<w'.heap.size->K (a.put o.dst (.slice (some ⟨g,0,none⟩) (n+1) cap)) w'):
 if Region.wanted o (yielded ops a.tmps)=true then Oper.wp Tryz.prog o a W K Q else E0:=by
 obtain⟨i,hi,hz0,hz1,hz2⟩:=info_parts hinfo;refine step_append_lies W hgd sx xx T ho 0 E i z size bytes hT hi hz0 hz1 hz2 hzs hsz v n xs hs hown ⟨N,0,none⟩ 1 1 news hx (by omega) ?_ h1 (by omega) (by simp only[maxLen];omega) ?_ (Nat.zero_le _) H hH ?_
 ·have:=World.news_of_block hN
  simpa using this
 ·have:(n+1) * bytes<=16777217 * 4096:=Nat.mul_le_mul (by omega) hby
  omega
 ·intro g cap w' h1 h2 h3 h4
  exact h g cap w' h1 (Ch.grown h2) h3 h4
theorem YZ{W:World}{ops:Array Oper}{rest:List Oper}{o:Oper}{a:Act}{Q:Exit->Act->World->Prop}(T E:TypeId)(size bytes:Nat)(z:Value)(hT:Tryz.prog.underlying T=some (.slice E))
 (hinfo:(Tryz.prog.info? E).map (fun i=>(i.zero,i.size,i.bytes))=some (some z,size,bytes)) (hzs:z.cells.size=size) (hsz:0<size) (hby:bytes<=4096) (hgd:o.guard=none) (sx xx:Operand)
 (ho:o.op= .call {callee:= .builtin .append,args:= #[sx,xx],argTypes:= #[T,T]}) (v:Value) (n:Nat) (xs:List Value) (hs:a.eval sx=v) (hown:W.ownsRow 0 E size v n xs)
 (N:Nat) (news:List Value) (hx:a.eval xx= .slice (some ⟨N,0,none⟩) 1 1) (hN:W.heap[N]? =some (.cells news.toArray E)) (hl:news.length=size) (h1:∀u∈news,u.oneCell'=true) (hn:n<=16777216) (H:Nat) (hH:W.heap.size=H)
 (h:∀g cap w',w'.ownsRow 0 E size (.slice (some ⟨g,0,none⟩) (n+1) cap) (n+1) (xs++news)->Ch v.ownBlock.toList W w'->(v.ownBlock=some g\/g=H)->g<w'.heap.size->wpList Tryz.prog ops Q rest (a.put o.dst (.slice (some ⟨g,0,none⟩) (n+1) cap)) w'):
 wpList Tryz.prog ops Q (o:: rest) a W:=by
 refine wpList_plain hgd fun K' hK'=> ?_
 have:=UP (ops:= #[]) (K:=K') (Q:=Q) (E0:=True) T E size bytes z hT hinfo hzs hsz hby hgd sx xx ho v n xs hs hown N news hx hN hl h1 hn H hH (fun g cap w' a1 a2 a3 a4=>hK' _ _ (h g cap w' a1 a2 a3 a4));rw[if_pos (by simp[Region.wanted,hgd])]at this;exact this
def jN(v:Value):List Value:=v.cells.toList
end Go.Proofs.YteobgfbgglfkbaaGreat
