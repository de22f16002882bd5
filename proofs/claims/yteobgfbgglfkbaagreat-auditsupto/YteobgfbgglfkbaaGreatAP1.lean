import Derived.Test.YteobgfbgglfkbaaGreatAA4
namespace Go.Proofs.YteobgfbgglfkbaaGreat
open Go.RowKit
def Zq(Q:Prop)(s:St):Prop:=s.e=0->Q
theorem Zq.say{Q:Prop}{wr:Bool}{e a:Int}{s:St}(he:e≠0)(h:Zq Q s):Zq Q (zL wr e a s):=by
 unfold zL
 split
 ·exact fun q=>absurd q he
 ·exact h
theorem Zq.at{Q:Prop}{s:St}(h:Zq Q s)(i:Nat):Zq Q {s with i:=i}:=h
theorem Zq.sk{Q:Prop}{s:St}(h:Zq Q s)(S:ByteArray):Zq Q (s.sk S):=h
theorem Zq.zero{Q:Prop}{s:St}(h:Zq Q s):Zq Q (Jq s):=h
theorem Zq.self(s:St):Zq (s.e=0) s:=fun h=>h
theorem Th{wr:Bool}{e a:Int}{s:St}(he:e≠0)(h:(zL wr e a s).e=0)(h0:s.e=0):wr=false:=by
 cases wr with
 |false=>rfl
 |true=>exfalso;unfold zL at h;simp[h0]at h;exact he h
theorem Zq.sayW{wr:Bool}{e a:Int}{s:St}(he:e≠0):Zq (wr=false/\s.e=0) (zL wr e a s):=fun h=>by
 have h0:s.e=0:=Zq.say (Q:=s.e=0) he (Zq.self s) h;exact⟨Th he h h0,h0⟩
theorem WQ{Q:Prop}{S:ByteArray}{lo:Int}{but:ByteArray}{s s':St}{c:Int}(z:Zq Q s)(h:zx S lo but s= .ok (c,s')):Zq Q s':=by
 unfold zx at h
 repeat' split at h
 all_goals first|cases h;exact z|cases h
theorem V4{Q:Prop}{S:ByteArray}{s s':St}{q:ByteArray×Nat}(z:Zq Q s)(h:yA S s= .ok (q,s')):Zq Q s':=by
 unfold yA at h;simp only at h
 split at h <;>cases h
 exact z
theorem Wb{Q:Prop}{S:ByteArray}{L:List ByteArray}{s s':St}{q:ByteArray×Nat}(z:Zq Q s)(h:yI S L s= .ok (q,s')):Zq Q s':=by
 unfold yI at h;simp only at h
 split at h <;>cases h
 exact z
theorem Ja{Q:Prop}{S:ByteArray}{c:Int}{s s':St}(z:Zq Q s)(h:zh S c s= .ok s'):Zq Q s':=by
 unfold zh at h
 split at h <;>cases h
 exact z
theorem Ni{Q:Prop}{S:ByteArray}{c:Int}{s s':St}(z:Zq Q s)(h:JD S c s= .ok s'):Zq Q s':=by
 unfold JD at h
 split at h <;>cases h
 exact z
theorem Tp{Q:Prop}{S:ByteArray}:∀n (s:St) x y s',Zq Q s->jH S n s x= .ok (y,s')->Zq Q s':=by
 intro n
 induction n with
 |zero=>intro s x y s' _ h;cases h
 |succ n ih=>
  intro s x y s' z h;unfold jH at h
  split at h
  ·cases h;exact z
  ·split at h
   ·rename_i hl;exact ih _ _ _ _ (WQ z hl) h
   ·cases h
theorem Um{Q:Prop}{S:ByteArray}{s s':St}{q:ByteArray×Nat}(z:Zq Q s)(h:yW S s= .ok (q,s')):Zq Q s':=by
 unfold yW at h;simp only at h
 split at h
 ·split at h
  ·rename_i hf;cases h;exact Tp _ _ _ _ _ (z.at _) hf
  ·cases h
 ·cases h
theorem AY{Q:Prop}{S:ByteArray}{s s':St}{q:Int×Int}(z:Zq Q s)(h:yv S s= .ok (q,s')):Zq Q s':=by
 unfold yv at h
 split at h
 ·cases h
 ·rename_i h1
  split at h
  ·split at h
   ·cases h
   ·rename_i h2;cases h;exact Zq.say (by decide) (WQ ((WQ z h1).at _) h2)
  ·cases h;exact WQ z h1
theorem FZ{Q:Prop}{S:ByteArray}:∀n (s:St) x y s',Zq Q s->yq S n s x= .ok (y,s')->Zq Q s':=by
 intro n
 induction n with
 |zero=>intro s x y s' _ h;cases h
 |succ n ih=>
  intro s x y s' z h;unfold yq at h
  split at h
  ·cases h
  ·rename_i h1
   split at h
   ·have z1:=AY z h1;cases h;exact z1
   ·exact ih _ _ _ _ (AY z h1) h
theorem Dq{Q:Prop}{S:ByteArray}{s s':St}{q:List (Int×Int)}(z:Zq Q s)(h:yn S s= .ok (q,s')):Zq Q s':=by
 unfold yn at h
 split at h
 ·exact FZ _ _ _ _ _ (z.at _) h
 ·cases h
theorem Fu{Q:Prop}{S:ByteArray}{L:zF}{s:St}(z:Zq Q s):Zq Q (yY S L s).2:=by
 unfold yY
 repeat' split
 all_goals exact z
theorem Er{Q:Prop}{s:St}(z:Zq Q s):Zq Q (zL (decide (12<s.k+1)) 3 s.i {s with k:=s.k+1}):=Zq.say (by decide) z
theorem Iv{Q:Prop}{S:ByteArray}{d:Nat}{f:St->Except Nat (zF×St)}(hf:∀s L s',Zq Q s->f s= .ok (L,s')->Zq Q s'){s s':St}{L:zF}(z:Zq Q s)(h:ye f S d s= .ok (L,s')):Zq Q s':=by
 unfold ye at h;have z1:=Er z
 revert z1 h
 generalize zL (decide (12<s.k+1)) 3 s.i {s with k:=s.k+1}=s1;intro h z1;simp only at h
 split at h
 ·cases h;exact z1
 ·split at h
  ·split at h
   ·rename_i h1;cases h;exact Dq z1 h1
   ·cases h
  ·split at h
   ·split at h
    ·cases h
    ·rename_i h1
     have z3:=hf _ _ _ (Zq.at (Zq.say (wr:=decide ((4:Int)<=(d:Int))) (a:=s.i) (e:=3) (by decide) z1) _) h1
     split at h <;>cases h
     exact z3
   ·split at h
    ·rename_i h1;cases h;exact WQ z1 h1
    ·cases h
theorem E9{Q:Prop}{S:ByteArray}{f:St->Except Nat (zF×St)}(hf:∀s L s',Zq Q s->f s= .ok (L,s')->Zq Q s'):∀n (s:St) x y s',Zq Q s->yh f S n s x= .ok (y,s')->Zq Q s':=by
 intro n
 induction n with
 |zero=>intro s x y s' _ h;cases h
 |succ n ih=>
  intro s x y s' z h;unfold yh at h
  split at h
  ·cases h;exact z
  ·split at h
   ·cases h
   ·rename_i h1;exact ih _ _ _ _ (Fu (hf _ _ _ z h1)) h
theorem Et{Q:Prop}{S:ByteArray}{f:St->Except Nat (zF×St)}(hf:∀s L s',Zq Q s->f s= .ok (L,s')->Zq Q s'):∀n (s:St) x y s',Zq Q s->jZ f S n s x= .ok (y,s')->Zq Q s':=by
 intro n
 induction n with
 |zero=>intro s x y s' _ h;cases h
 |succ n ih=>
  intro s x y s' z h;unfold jZ at h
  split at h
  ·cases h
  ·rename_i h1
   split at h
   ·exact ih _ _ _ _ ((hf _ _ _ z h1).at _) h
   ·cases h;exact hf _ _ _ z h1
theorem Gw{Q:Prop}{S:ByteArray}:∀n d (s:St) L s',Zq Q s->zv S n d s= .ok (L,s')->Zq Q s':=by
 intro n
 induction n with
 |zero=>intro d s L s' _ h;cases h
 |succ n ih=>
  intro d s L s' z h;unfold zv at h;exact Et (fun s L s' z h=>E9 (fun s L s' z h=>Iv (ih (d+1)) z h) _ _ _ _ _ z h) _ _ _ _ _ z h
theorem DF{Q:Prop}{S:ByteArray}{s s':St}{L:zF}(z:Zq Q s)(h:JU S s= .ok (L,s')):Zq Q s':=Gw _ _ _ _ _ z.zero h
theorem Ao{Q:Prop}{S:ByteArray}{s s':St}{q:Int×ByteArray}(z:Zq Q s)(h:yk S s= .ok (q,s')):Zq Q s':=by
 unfold yk at h
 split at h
 ·split at h
  ·rename_i h1;cases h;exact Zq.say (by decide) (Um (z.sk S) h1)
  ·cases h
 ·split at h
  ·rename_i h1;cases h;exact Wb (z.sk S) h1
  ·cases h
theorem AB{Q:Prop}{S:ByteArray}:∀n (s:St) x y s',Zq Q s->jq S n s x= .ok (y,s')->Zq Q s':=by
 intro n
 induction n with
 |zero=>intro s x y s' _ h;cases h
 |succ n ih=>
  intro s x y s' z h;unfold jq at h
  split at h
  ·cases h
  ·rename_i h1
   have z1:=Ao (Zq.say (by decide) (z.sk S)) h1
   split at h
   ·cases h;exact z1
   ·exact ih _ _ _ _ (z1.sk S) h
theorem Cc{Q:Prop}{S:ByteArray}{s s':St}{q:List (Int×ByteArray)}(z:Zq Q s)(h:jt S s= .ok (q,s')):Zq Q s':=by
 unfold jt at h
 split at h
 ·split at h
  ·cases h
  ·rename_i h1;cases h;exact Wb (z.sk S) h1
 ·exact AB _ _ _ _ _ (z.sk S) h
theorem L9{Q:Prop}{S:ByteArray}{s s':St}{q:List (Int×Int)×List (Int×ByteArray)}(z:Zq Q s)(h:y9 S s= .ok (q,s')):Zq Q s':=by
 unfold y9 at h
 split at h
 ·cases h
 ·rename_i h1
  split at h
  ·cases h
  ·rename_i h2
   split at h
   ·cases h
   ·rename_i h3
    split at h
    ·cases h
    ·rename_i h4
     cases h;exact Ja (Cc (Wb (Dq (z.sk S) h1) h2) h3) h4
theorem BJ{Q:Prop}{S:ByteArray}:∀n (s:St) x y s',Zq Q s->jj S n s x= .ok (y,s')->Zq Q s':=by
 intro n
 induction n with
 |zero=>intro s x y s' _ h;cases h
 |succ n ih=>
  intro s x y s' z h;unfold jj at h
  split at h
  ·split at h
   ·cases h
   ·rename_i h1
    exact ih _ _ _ _ (L9 (Zq.say (by decide) (z.sk S)) h1) h
  ·cases h;exact z
theorem Tg{Q:Prop}{S:ByteArray}{s s':St}{q:ByteArray×ByteArray}(z:Zq Q s)(h:jG S s= .ok (q,s')):Zq Q s':=by
 unfold jG at h
 split at h
 ·cases h
 ·rename_i h1
  split at h
  ·cases h
  ·rename_i h2
   split at h
   ·cases h
   ·rename_i h3
    have z3:=Um (Zq.say (by decide) (Um (Wb z h1) h2)) h3
    split at h
    ·cases h
    ·rename_i h4
     cases h;exact Ja (Zq.say (by decide) z3) h4
theorem Fw{Q:Prop}{S x:ByteArray}{s s':St}{q:zH}(z:Zq Q s)(h:JA S x s= .ok (q,s')):Zq Q s':=by
 unfold JA at h
 split at h
 ·split at h
  ·cases h
  ·rename_i h1
   split at h
   ·cases h
   ·rename_i h2
    split at h
    ·cases h
    ·rename_i h3
     cases h;exact Ja (BJ _ _ _ _ _ (Ja (z.sk S) h1) h2) h3
 ·split at h
  ·cases h
  ·rename_i h1;cases h;exact Tg (z.sk S) h1
theorem Hq{Q:Prop}{S:ByteArray}{ns nc:List ByteArray}{a:Int}{s s':St}{q:zH}(z:Zq Q s)(h:j8 S ns nc a s= .ok (q,s')):Zq Q s':=by
 unfold j8 at h
 split at h
 ·cases h
 ·rename_i h1
  exact Fw (Zq.say (by decide) (V4 (Zq.say (by decide) z) h1)) h
theorem Kk{Q:Prop}{S:ByteArray}{ns:List ByteArray}:∀n (s:St) x y s',Zq Q s->jl S ns n s x= .ok (y,s')->Zq Q s':=by
 intro n
 induction n with
 |zero=>intro s x y s' _ h;cases h
 |succ n ih=>
  intro s x y s' z h;unfold jl at h
  split at h
  ·cases h
  ·rename_i y p s1 h1
   have z1:Zq Q ((zL (decide (zy ns y<0)) 5 p (zL (decide (3<=(x.length:Int))) 3 p s1)).sk S):=(Zq.say (by decide) (Zq.say (by decide) (V4 z h1))).sk S
   split at h
   ·cases h;exact z1
   ·exact ih _ _ _ _ z1 h
theorem Gi{Q:Prop}{S:ByteArray}{ns nc:List ByteArray}{a:Int}{s s':St}{q:zZ}(z:Zq Q s)(h:jx S ns nc a s= .ok (q,s')):Zq Q s':=by
 unfold jx at h
 split at h
 ·cases h
 ·rename_i h1
  split at h
  ·cases h
  ·rename_i h2
   split at h
   ·cases h
   ·rename_i h3
    split at h
    ·cases h
    ·rename_i h4
     cases h;exact Ja (Kk _ _ _ _ _ (Ja (Zq.say (by decide) (V4 (Zq.say (by decide) z) h1)) h2) h3) h4
theorem UQ{Q:Prop}{S:ByteArray}{nc:List ByteArray}{s s':St}{q:Int}(z:Zq Q s)(h:yK S nc s= .ok (q,s')):Zq Q s':=by
 unfold yK at h
 split at h
 ·cases h
 ·rename_i h1;cases h;exact Zq.say (by decide) (V4 z h1)
theorem RQ{Q:Prop}{S:ByteArray}{nc:List ByteArray}{cnt:Nat}{nv:Bool}{a:Int}{s s':St}{q:ze}(z:Zq Q s)(h:jE S nc cnt nv a s= .ok (q,s')):Zq Q s':=by
 unfold jE at h
 split at h
 ·cases h
 ·rename_i h1
  have z1:=UQ (Zq.say (by decide) z) h1
  split at h
  ·split at h
   ·cases h
   ·rename_i h2
    split at h
    ·cases h
    ·rename_i h3
     split at h
     ·cases h
     ·rename_i h4
      split at h
      ·cases h
      ·rename_i h5
       cases h;exact Ja (Ni (DF (Ja z1 h2) h3) h4) h5
  ·split at h
   ·cases h
   ·rename_i h2
    split at h
    ·cases h
    ·rename_i h3
     cases h;exact Ja (UQ z1 h2) h3
theorem Ti{Q:Prop}{S x:ByteArray}{a:Int}{D:yt}{s s':St}{q:yt}(z:Zq Q s)(h:jb S x a D s= .ok (q,s')):Zq Q s':=by
 unfold jb at h
 split at h
 ·split at h
  ·cases h
  ·rename_i h1;cases h;exact Hq z h1
 ·split at h
  ·split at h
   ·cases h
   ·rename_i h1;cases h;exact Gi z h1
  ·split at h
   ·cases h
   ·rename_i h1;cases h;exact RQ z h1
theorem AD{Q:Prop}{S:ByteArray}:∀n (s:St) x y s',Zq Q s->jC S n s x= .ok (y,s')->Zq Q s':=by
 intro n
 induction n with
 |zero=>intro s x y s' _ h;cases h
 |succ n ih=>
  intro s x y s' z h;unfold jC at h
  split at h
  ·split at h
   ·cases h
   ·rename_i h1
    split at h
    ·cases h
    ·rename_i h2
     exact ih _ _ _ _ ((Ti (Wb z h1) h2).sk S) h
  ·cases h;exact z
def jf(P:List (Int×ByteArray)):Prop:=P.length<=3/\∀p,p∈P->p.2.size<=4
def yR(D:zH):Prop:=(D.swap=true->1<=D.one.size/\D.one.size<=4/\D.two.size<=4)/\(∀r,r∈D.rules->jf r.o)/\D.rules.length<=6
def jM(n:Nat)(L:List Int):Prop:=L.length<=3/\∀i,i∈L->0<=i/\i<n
def WW(D:yt):Prop:=((∀q,q∈D.scrubs->yR q)/\∀c,c∈D.chains->jM D.scrubs.length c.scrubs)/\D.chains.length<=4
theorem Dv{ns:List ByteArray}{x:ByteArray}(h:¬zy ns x<0):0<=zy ns x/\zy ns x<ns.length:=by
 refine⟨by omega,?_⟩;unfold zy at *
 split
 ·rename_i i hi
  have:=(List.findIdx?_eq_some_iff_getElem.1 hi).1;omega
 ·rename_i hi
  rw[hi]at h;exact absurd (by decide) h
theorem TR{S:ByteArray}{s s':St}{k:Int}{x:ByteArray}(h:yk S s= .ok ((k,x),s'))(e:s'.e=0):x.size<=4:=by
 unfold yk at h
 split at h
 ·split at h
  ·injection h with h;injection h with h1 h2;injection h1 with h3 h4
   subst h4 h2;have:=(Zq.sayW (by decide) e).1;simp at this;omega
  ·cases h
 ·split at h
  ·injection h with h;injection h with h1 h2;injection h1 with h3 h4
   subst h4
   decide
  ·cases h
theorem Oq{S:ByteArray}:∀n (s:St) P P' s',jq S n s P= .ok (P',s')->s'.e=0->(∀p,p∈P->p.2.size<=4)->jf P':=by
 intro n
 induction n with
 |zero=>intro s P P' s' h;cases h
 |succ n ih=>
  intro s P P' s' h e hP;unfold jq at h
  split at h
  ·cases h
  ·rename_i p s1 h1
   obtain⟨k,x⟩:=p
   have e1:s1.e=0:=by
    split at h
    ·injection h with h;injection h with h2 h3;rw[<- h3]at e;exact e
    ·exact AB (Q:=s1.e=0) n (s1.sk S) _ _ _ (Zq.self s1) h e
   have q:=Ao (Zq.sayW (wr:=decide (3<=(P.length:Int))) (a:=(s.sk S).i) (s:=s.sk S) (e:=3) (by decide)) h1 e1;have hx:=TR h1 e1
   have hall:∀p,p∈P++[(k,x)]->p.2.size<=4:=by
    intro p hp
    rcases List.mem_append.1 hp with hp|hp
    ·exact hP p hp
    ·simp at hp;subst hp;exact hx
   split at h
   ·injection h with h;injection h with h2 h3
    subst h2;have:=q.1;simp at this;exact⟨by simp;omega,hall⟩
   ·exact ih _ _ _ _ h e hall
theorem IF{S:ByteArray}{s s':St}{P:List (Int×ByteArray)}(h:jt S s= .ok (P,s'))(e:s'.e=0):jf P:=by
 unfold jt at h
 split at h
 ·split at h
  ·cases h
  ·injection h with h;injection h with h1 h2;subst h1;exact⟨by simp,by simp⟩
 ·exact Oq _ _ _ _ _ h e (by simp)
theorem Rg{S:ByteArray}{s s':St}{L:List (Int×Int)}{P:List (Int×ByteArray)}(h:y9 S s= .ok ((L,P),s'))(e:s'.e=0):jf P:=by
 unfold y9 at h
 split at h
 ·cases h
 ·rename_i h1
  split at h
  ·cases h
  ·rename_i h2
   split at h
   ·cases h
   ·rename_i P3 s3 h3
    split at h
    ·cases h
    ·rename_i h4
     injection h with h;injection h with h5 h6;injection h5 with h7 h8
     subst h8 h6;exact IF h3 (Ja (Q:=s3.e=0) (Zq.self s3) h4 e)
theorem Hy{S:ByteArray}:∀n (s:St) R R' s',jj S n s R= .ok (R',s')->s'.e=0->(∀r,r∈R->jf r.o)/\R.length<=6->(∀r,r∈R'->jf r.o)/\R'.length<=6:=by
 intro n
 induction n with
 |zero=>intro s R R' s' h;cases h
 |succ n ih=>
  intro s R R' s' h e hR;unfold jj at h
  split at h
  ·split at h
   ·cases h
   ·rename_i L P s1 h1
    have e1:s1.e=0:=BJ (Q:=s1.e=0) n s1 _ _ _ (Zq.self s1) h e;have q:=(L9 (Zq.sayW (wr:=decide (6<=(R.length:Int))) (a:=(s.sk S).i) (s:=s.sk S) (e:=3) (by decide)) h1 e1).1;simp only[decide_eq_false_iff_not]at q;refine ih _ _ _ _ h e ⟨?_,by simp;omega⟩;intro r hr
    rcases List.mem_append.1 hr with hr|hr
    ·exact hR.1 r hr
    ·simp at hr;subst hr;exact Rg h1 e1
  ·injection h with h;injection h with h1 h2;subst h1;exact hR
theorem NJ{S:ByteArray}{s s':St}{x y:ByteArray}(h:jG S s= .ok ((x,y),s'))(e:s'.e=0):1<=x.size/\x.size<=4/\y.size<=4:=by
 unfold jG at h
 split at h
 ·cases h
 ·split at h
  ·cases h
  ·rename_i x1 a s2 h2
   split at h
   ·cases h
   ·rename_i y1 c s3 h3
    split at h
    ·cases h
    ·rename_i s4 h4
     injection h with h;injection h with h5 h6;injection h5 with h7 h8
     subst h7 h8 h6;have q1:=Ja (Zq.sayW (wr:=decide (4<(y1.size:Int))) (a:=c) (s:=s3) (e:=3) (by decide)) h4 e;have q2:=Um (Zq.sayW (wr:=decide (x1.size=0\/4<x1.size)) (a:=a) (s:=s2) (e:=3) (by decide)) h3 q1.2;have a1:=q1.1;have a2:=q2.1;simp only[decide_eq_false_iff_not]at a1 a2;omega
theorem Rn{S x:ByteArray}{s s':St}{D:zH}(h:JA S x s= .ok (D,s'))(e:s'.e=0):yR D:=by
 unfold JA at h
 split at h
 ·split at h
  ·cases h
  ·split at h
   ·cases h
   ·rename_i R s4 h2
    split at h
    ·cases h
    ·rename_i s5 h3
     injection h with h;injection h with h1 h2'
     subst h1 h2';exact⟨fun q=>absurd q (by simp),Hy _ _ _ _ _ h2 (Ja (Q:=s4.e=0) (Zq.self s4) h3 e) ⟨by simp,by simp⟩⟩
 ·split at h
  ·cases h
  ·rename_i a c s3 h1
   injection h with h;injection h with h2 h3
   subst h2 h3;exact⟨fun _=>NJ h1 e,by simp,by simp⟩
theorem Gh{S:ByteArray}{ns nc:List ByteArray}{a:Int}{s s':St}{D:zH}(h:j8 S ns nc a s= .ok (D,s'))(e:s'.e=0):yR D:=by
 unfold j8 at h
 split at h
 ·cases h
 ·exact Rn h e
theorem aI{S:ByteArray}{ns:List ByteArray}:∀n (s:St) L L' s',jl S ns n s L= .ok (L',s')->s'.e=0->(∀i,i∈L->0<=i/\i<ns.length)->jM ns.length L':=by
 intro n
 induction n with
 |zero=>intro s L L' s' h;cases h
 |succ n ih=>
  intro s L L' s' h e hL;unfold jl at h
  split at h
  ·cases h
  ·rename_i y p s1 h1
   have e1:(zL (decide (zy ns y<0)) 5 p (zL (decide (3<=(L.length:Int))) 3 p s1)).e=0:=by
    split at h
    ·injection h with h;injection h with h2 h3;rw[<- h3]at e;exact e
    ·exact Kk (Q:=(zL (decide (zy ns y<0)) 5 p (zL (decide (3<=(L.length:Int))) 3 p s1)).e=0) n _ _ _ _ ((Zq.self _).sk S) h e
   have q1:=Zq.sayW (by decide) e1;have q2:=Zq.sayW (by decide) q1.2;have a1:=q1.1;have a2:=q2.1;simp only[decide_eq_false_iff_not]at a1 a2
   have hall:∀i,i∈L++[zy ns y]->0<=i/\i<ns.length:=by
    intro i hi
    rcases List.mem_append.1 hi with hi|hi
    ·exact hL i hi
    ·simp at hi;subst hi;exact Dv a1
   split at h
   ·injection h with h;injection h with h2 h3
    subst h2;exact⟨by simp;omega,hall⟩
   ·exact ih _ _ _ _ h e hall
theorem TB{S:ByteArray}{ns nc:List ByteArray}{a:Int}{s s':St}{D:zZ}(h:jx S ns nc a s= .ok (D,s'))(e:s'.e=0):jM ns.length D.scrubs:=by
 unfold jx at h
 split at h
 ·cases h
 ·split at h
  ·cases h
  ·split at h
   ·cases h
   ·rename_i L s3 h3
    split at h
    ·cases h
    ·rename_i s4 h4
     injection h with h;injection h with h1 h2
     subst h1 h2;exact aI _ _ _ _ _ h3 (Ja (Q:=s3.e=0) (Zq.self s3) h4 e) (by simp)
theorem GU{S:ByteArray}{ns nc:List ByteArray}{a:Int}{s s':St}{D:zZ}(h:jx S ns nc a s= .ok (D,s'))(e:s'.e=0):nc.length<4:=by
 unfold jx at h
 split at h
 ·cases h
 ·rename_i x1 a1 s1 h1
  split at h
  ·cases h
  ·rename_i s2 h2
   split at h
   ·cases h
   ·rename_i L s3 h3
    split at h
    ·cases h
    ·rename_i s4 h4
     injection h with h;injection h with h5 h6
     subst h6;have e3:=Ja (Q:=s3.e=0) (Zq.self s3) h4 e;have e2:=Kk (Q:=s2.e=0) _ _ _ _ _ (Zq.self s2) h3 e3;have e1:=Ja (Q:=s1.e=0) (Zq.say (by decide) (Zq.self s1)) h2 e2;have q:=(V4 (Zq.sayW (wr:=decide (4<=(nc.length:Int))) (a:=a) (s:=s) (e:=3) (by decide)) h1 e1).1;simp only[decide_eq_false_iff_not]at q;omega
theorem jM.mono{n m:Nat}{L:List Int}(h:jM n L)(hm:n<=m):jM m L:=⟨h.1,fun i hi=>by have:=h.2 i hi;omega⟩
theorem FK{S x:ByteArray}{a:Int}{D D':yt}{s s':St}(h:jb S x a D s= .ok (D',s'))(e:s'.e=0)(hD:WW D):WW D':=by
 unfold jb at h
 split at h
 ·split at h
  ·cases h
  ·rename_i q s2 h1
   injection h with h;injection h with h2 h3
   subst h2 h3;refine⟨⟨fun r hr=> ?_,fun c hc=>(hD.1.2 c hc).mono (by simp)⟩,hD.2⟩
   rcases List.mem_append.1 hr with hr|hr
   ·exact hD.1.1 r hr
   ·simp at hr;subst hr;exact Gh h1 e
 ·split at h
  ·split at h
   ·cases h
   ·rename_i q s2 h1
    injection h with h;injection h with h2 h3
    subst h2 h3;refine⟨⟨hD.1.1,fun c hc=> ?_⟩,by have:=GU h1 e;simp at this;simp;omega⟩
    rcases List.mem_append.1 hc with hc|hc
    ·exact hD.1.2 c hc
    ·simp at hc;subst hc;have:=TB h1 e;simpa using this
  ·split at h
   ·cases h
   ·injection h with h;injection h with h2 h3
    subst h2 h3;exact hD
theorem RJ{S:ByteArray}:∀n (s:St) D D' s',jC S n s D= .ok (D',s')->s'.e=0->WW D->WW D':=by
 intro n
 induction n with
 |zero=>intro s D D' s' h;cases h
 |succ n ih=>
  intro s D D' s' h e hD;unfold jC at h
  split at h
  ·split at h
   ·cases h
   ·split at h
    ·cases h
    ·rename_i D1 s2 h2
     exact ih _ _ _ _ h e (FK h2 (AD (Q:=s2.e=0) n _ _ _ _ ((Zq.self s2).sk S) h e) hD)
  ·injection h with h;injection h with h1 h2;subst h1;exact hD
theorem Ln{S:ByteArray}{D:yt}{s:St}(hc:yX S=(0,0))(h:jA S= .ok (D,s)):WW D:=by
 have e:s.e=0:=by
  unfold yX at hc
  split at hc
  ·cases hc
  ·rw[h]at hc
   unfold Yf at hc;simp only at hc
   split at hc
   ·assumption
   ·injection hc
 exact RJ _ _ _ _ _ h e ⟨⟨by simp,by simp⟩,by simp⟩
def Yw(one two:List UInt8):Nat->List UInt8->List UInt8
 |_,[]=>[]
 |k+1,_:: xs=>Yw one two k xs
 |0,x:: xs=>if one.isPrefixOf (x:: xs)then two++Yw one two (one.length - 1) xs else x:: Yw one two 0 xs
def j0(one two xs:List UInt8):List UInt8:=Yw one two 0 xs
theorem AV(one two:List UInt8):∀k xs,Yw one two k xs=j0 one two (xs.drop k)
 |0,xs=>by simp[j0]
 |k+1,[]=>by simp[j0,Yw]
 |k+1,x:: xs=>by simp only[Yw,List.drop_succ_cons];exact AV one two k xs
theorem Tf(one two:List UInt8):j0 one two []=[]:=rfl
theorem LA{one two:List UInt8}(h:one≠[])(r:List UInt8):j0 one two (one++r)=two++j0 one two r:=by
 cases one with
 |nil=>exact absurd rfl h
 |cons x xs=>
  have hp:(x:: xs).isPrefixOf (x:: (xs++r))=true:=by
   rw[List.isPrefixOf_iff_prefix];exact⟨r,by simp⟩
  show Yw (x:: xs) two 0 (x:: (xs++r))=_
  rw[Yw,if_pos hp,AV];simp
theorem Xp{one two:List UInt8}{x:UInt8}{xs:List UInt8}(h:¬one<+:x:: xs):j0 one two (x:: xs)=x:: j0 one two xs:=by
 unfold j0;rw[Yw,if_neg (by rw[List.isPrefixOf_iff_prefix];exact h)]
def yr(one:List UInt8):List UInt8->Nat
 |[]=>0
 |x:: xs=>if(x:: xs).isPrefixOf one then xs.length+1 else yr one xs
theorem Wc(one:List UInt8):∀s,yr one s<=s.length
 |[]=>Nat.le_refl _
 |x:: xs=>by
  unfold yr
  split
  ·simp
  ·have:=Wc one xs;simp;omega
theorem LJ(one:List UInt8):∀s,s.drop (s.length - yr one s)=one.take (yr one s)
 |[]=>by simp[yr]
 |x:: xs=>by
  unfold yr
  split
  ·rename_i h
   rw[List.isPrefixOf_iff_prefix]at h;obtain⟨t,rfl⟩:=h;simp
  ·have l:=Wc one xs
   have ih:=LJ one xs;rw[List.length_cons,show xs.length+1 - yr one xs=(xs.length - yr one xs)+1 from by omega,List.drop_succ_cons];exact ih
theorem Lg{one two:List UInt8}(r:List UInt8):∀s:List UInt8,s.length<=one.length->j0 one two (s++r)=s.take (s.length - yr one s)++j0 one two (one.take (yr one s)++r)
 |[],_=>by simp[yr]
 |x:: xs,hl=>by
  unfold yr
  split
  ·rename_i h
   rw[List.isPrefixOf_iff_prefix]at h;obtain⟨t,rfl⟩:=h;simp
  ·rename_i h
   rw[List.isPrefixOf_iff_prefix]at h;have l:=Wc one xs;have ih:=Lg (one:=one) (two:=two) r xs (by simp at hl;omega)
   have hm:¬one<+:x:: (xs++r):=by
    intro hp;exact h (List.prefix_of_prefix_length_le (l₃:=x:: (xs++r)) ⟨r,by simp⟩ hp hl)
   rw[List.length_cons,show xs.length+1 - yr one xs=(xs.length - yr one xs)+1 from by omega,List.take_succ_cons,List.cons_append,Xp hm,ih];simp
theorem OK{one s:List UInt8}(hl:s.length<=one.length)(hn:s≠one):yr one s<one.length:=by
 have l:=Wc one s
 rcases Nat.lt_or_ge (yr one s) one.length with h|h
 ·exact h
 ·exfalso
  have e:yr one s=s.length:=by omega
  have:=LJ one s;rw[e]at this;simp at this;apply hn;rw[this];rw[List.take_of_length_le (by omega)]
def Jd(one two:List UInt8)(h:Nat)(b:UInt8):Nat×List UInt8:=
 if one.take h++[b]=one then(0,two)
 else(yr one (one.take h++[b]),(one.take h++[b]).take ((one.take h++[b]).length - yr one (one.take h++[b])))
theorem Tn{one two:List UInt8}(h0:one≠[]){h:Nat}(hh:h<one.length)(b:UInt8):(Jd one two h b).1<one.length/\∀r,j0 one two (one.take h++b:: r)=(Jd one two h b).2++j0 one two (one.take (Jd one two h b).1++r):=by
 have len:(one.take h++[b]).length<=one.length:=by simp;omega
 have app:∀r,one.take h++b:: r=(one.take h++[b])++r:=by intro r;simp
 unfold Jd
 split
 ·rename_i e
  refine⟨List.length_pos_iff.2 h0,fun r=> ?_⟩;rw[app,e,LA h0];simp
 ·rename_i e
  exact⟨OK len e,fun r=>by rw[app];exact Lg r _ len⟩
theorem Eh{one two:List UInt8}:∀xs:List UInt8,xs.length<one.length->j0 one two xs=xs
 |[],_=>rfl
 |x:: xs,h=>by
  rw[Xp (fun hp=>by have:=hp.length_le;omega),Eh xs (by simp at h;omega)]
theorem Hp{one two:List UInt8}{h:Nat}(b:UInt8)(h1:one.length<=4)(h2:two.length<=4):(Jd one two h b).2.length<=12:=by
 unfold Jd
 split
 ·simp;omega
 ·simp;omega
def zk(c:UInt8):UInt8:=if 97<=c.toNat/\c.toNat<=122 then c - 32 else c
def zu(c:UInt8):UInt8:=if 65<=c.toNat/\c.toNat<=90 then c+32 else c
def j6(p:Int×ByteArray)(c:UInt8):List UInt8:=if p.1=116 then p.2.data.toList else if p.1=98 then [c]else if p.1=117 then [zk c]else [zu c]
def jD(P:List (Int×ByteArray))(c:UInt8):List UInt8:=P.flatMap fun p=>j6 p c
def yN:List yb->UInt8->List UInt8
 |[],c=>[c]
 |r:: R,c=>if zo r.cls c.toNat then jD r.o c else yN R c
def Jg(D:zH)(xs:List UInt8):List UInt8:=if D.swap then j0 D.one.data.toList D.two.data.toList xs else xs.flatMap (yN D.rules)
def jR(D:zH)(h:Nat)(b:UInt8):Nat×List UInt8:=if D.swap then Jd D.one.data.toList D.two.data.toList h b else(0,yN D.rules b)
def jm(D:zH)(h:Nat):List UInt8:=if D.swap then D.one.data.toList.take h else []
def Yq(D:zH)(h:Nat)(r:List UInt8):List UInt8:=if D.swap then j0 D.one.data.toList D.two.data.toList (D.one.data.toList.take h++r)else r.flatMap (yN D.rules)
def Yc(D:zH)(h:Nat):Prop:=D.swap=true->h<D.one.size
def feed(D:zH):Nat->List UInt8->Nat×List UInt8
 |h,[]=>(h,[])
 |h,b:: xs=>((feed D (jR D h b).1 xs).1,(jR D h b).2++(feed D (jR D h b).1 xs).2)
theorem Dk(D:zH)(r:List UInt8):Yq D 0 r=Jg D r:=by
 unfold Yq Jg;split <;>simp
theorem AE{R:List yb}(h:∀r,r∈R->jf r.o)(c:UInt8):(yN R c).length<=12:=by
 induction R with
 |nil=>simp[yN]
 |cons r R ih=>
  unfold yN
  split
  ·have hr:=h r (by simp)
   have:∀(P:List (Int×ByteArray)),(∀p,p∈P->p.2.size<=4)->(jD P c).length<=4 * P.length:=by
    intro P
    induction P with
    |nil=>simp[jD]
    |cons p P ihP=>
     intro hP
     have h1:(j6 p c).length<=4:=by
      have:=hP p (by simp);unfold j6
      split
      ·exact this
      ·repeat' split
       all_goals simp
     have h2:=ihP (fun q hq=>hP q (by simp[hq]));simp only[jD,List.flatMap_cons,List.length_append,List.length_cons]at *;omega
   have h3:=this r.o hr.2;have:=hr.1;omega
  ·exact ih (fun q hq=>h q (by simp[hq]))
theorem JF(x:ByteArray):x.data.toList.length=x.size:=rfl
theorem UV{D:zH}(hD:yR D){h:Nat}(hh:Yc D h)(b:UInt8):Yc D (jR D h b).1/\(∀r,Yq D h (b:: r)=(jR D h b).2++Yq D (jR D h b).1 r)/\(jR D h b).2.length<=12:=by
 unfold jR Yc Yq
 by_cases hs:D.swap=true
 ·have h1:=hD.1 hs
  have h0:D.one.data.toList≠[]:=by
   intro e;have:=JF D.one;rw[e]at this;simp at this;omega
  have st:=Tn (two:=D.two.data.toList) h0 (h:=h) (by rw[JF];exact hh hs) b;simp only[hs,if_true];exact⟨fun _=>st.1,st.2,Hp b (by rw[JF];omega) (by rw[JF];omega)⟩
 ·simp only[hs]
  exact⟨fun q=>by simp at q,fun r=>by simp,AE hD.2.1 b⟩
theorem Nw{D:zH}{h:Nat}(hh:Yc D h):Yq D h []=jm D h:=by
 unfold Yq jm
 by_cases hs:D.swap=true
 ·have:=hh hs
  simp only[hs,if_true,List.append_nil];exact Eh _ (by rw[<- JF]at this;rw[List.length_take];omega)
 ·simp only[hs,List.flatMap_nil]
  rfl
theorem Xq{D:zH}(hD:yR D){h:Nat}:(jm D h).length<=4:=by
 unfold jm
 split
 ·rename_i hs
  have:=hD.1 hs;have:=JF D.one;simp;omega
 ·simp
theorem MP{D:zH}(hD:yR D):∀(xs:List UInt8) (h:Nat),Yc D h->Yc D (feed D h xs).1/\(∀r,Yq D h (xs++r)=(feed D h xs).2++Yq D (feed D h xs).1 r)/\(feed D h xs).2.length<=12 * xs.length
 |[],h,hh=>⟨hh,fun r=>by simp[feed],by simp[feed]⟩
 |b:: xs,h,hh=>by
  obtain⟨p1,p2,p3⟩:=UV hD hh b;obtain⟨q1,q2,q3⟩:=MP hD xs _ p1;refine⟨q1,fun r=> ?_,?_⟩
  ·rw[List.cons_append,p2,q2];simp[feed]
  ·simp only[feed,List.length_append,List.length_cons];omega
theorem Dc(D:zH):∀(xs ys:List UInt8) (h:Nat),feed D h (xs++ys)=((feed D (feed D h xs).1 ys).1,(feed D h xs).2++(feed D (feed D h xs).1 ys).2)
 |[],ys,h=>by simp[feed]
 |b:: xs,ys,h=>by
  simp only[List.cons_append,feed];rw[Dc D xs ys];simp
def zT:List zH->List Nat->List UInt8->List Nat×List UInt8
 |[],hs,xs=>(hs,xs)
 |_:: _,[],_=>([],[])
 |D:: Ds,h:: hs,xs=>((feed D h xs).1:: (zT Ds hs (feed D h xs).2).1,(zT Ds hs (feed D h xs).2).2)
def yE:List zH->List Nat->List UInt8
 |[],_=>[]
 |_:: _,[]=>[]
 |D:: Ds,h:: hs=>(zT Ds hs (jm D h)).2++yE Ds (zT Ds hs (jm D h)).1
def QE:List zH->List Nat->List UInt8->List UInt8
 |[],_,r=>r
 |_:: _,[],_=>[]
 |D:: Ds,h:: hs,r=>QE Ds hs (Yq D h r)
def j7:List zH->List Nat->Prop
 |[],_=>True
 |_:: _,[]=>False
 |D:: Ds,h:: hs=>Yc D h/\j7 Ds hs
theorem WY:∀(Ds:List zH) (hs:List Nat),Ds.length<=hs.length->zT Ds hs []=(hs,[])
 |[],hs,_=>rfl
 |D:: Ds,[],h=>by simp at h
 |D:: Ds,h:: hs,hl=>by
  simp only[zT,feed];rw[WY Ds hs (by simp at hl;omega)]
theorem Vl:∀(Ds:List zH) (hs:List Nat) (xs ys:List UInt8),zT Ds hs (xs++ys)=((zT Ds (zT Ds hs xs).1 ys).1,(zT Ds hs xs).2++(zT Ds (zT Ds hs xs).1 ys).2)
 |[],hs,xs,ys=>by simp[zT]
 |D:: Ds,[],xs,ys=>by simp[zT]
 |D:: Ds,h:: hs,xs,ys=>by
  simp only[zT];rw[Dc];simp only;rw[Vl Ds hs]
theorem Vx:∀(Ds:List zH) (hs:List Nat) (xs:List UInt8),(zT Ds hs xs).1.length=hs.length
 |[],hs,xs=>rfl
 |D:: Ds,[],xs=>rfl
 |D:: Ds,h:: hs,xs=>by simp[zT,Vx Ds hs]
theorem QO:∀(Ds:List zH) (hs:List Nat) (xs:List UInt8),(∀D,D∈Ds->yR D)->j7 Ds hs->j7 Ds (zT Ds hs xs).1/\(∀r,QE Ds hs (xs++r)=(zT Ds hs xs).2++QE Ds (zT Ds hs xs).1 r)/\(zT Ds hs xs).2.length<=12 ^ Ds.length * xs.length
 |[],hs,xs,_,_=>⟨trivial,fun r=>rfl,by simp[zT]⟩
 |D:: Ds,[],xs,_,hh=>hh.elim
 |D:: Ds,h:: hs,xs,hD,hh=>by
  obtain⟨p1,p2,p3⟩:=MP (hD D (by simp)) xs h hh.1;obtain⟨q1,q2,q3⟩:=QO Ds hs (feed D h xs).2 (fun D' h'=>hD D' (by simp[h'])) hh.2;refine⟨⟨p1,q1⟩,fun r=> ?_,?_⟩
  ·simp only[QE,zT];rw[p2,q2]
  ·simp only[zT,List.length_cons,Nat.pow_succ]
   rw[Nat.mul_assoc];exact Nat.le_trans q3 (Nat.mul_le_mul_left _ p3)
theorem Mo:∀(Ds:List zH) (hs:List Nat),(∀D,D∈Ds->yR D)->j7 Ds hs->QE Ds hs []=yE Ds hs
 |[],hs,_,_=>rfl
 |D:: Ds,[],_,hh=>hh.elim
 |D:: Ds,h:: hs,hD,hh=>by
  obtain⟨q1,q2,q3⟩:=QO Ds hs (jm D h) (fun D' h'=>hD D' (by simp[h'])) hh.2;simp only[QE,yE];rw[Nw hh.1];have:=q2 [];rw[List.append_nil]at this;rw[this,Mo Ds _ (fun D' h'=>hD D' (by simp[h'])) q1]
def yH(Ds:List zH)(xs:List UInt8):List UInt8:=Ds.foldl (fun x D=>Jg D x) xs
theorem NK:∀(Ds:List zH) (n:Nat) (r:List UInt8),Ds.length<=n->QE Ds (List.replicate n 0) r=yH Ds r
 |[],n,r,_=>by cases n <;>rfl
 |D:: Ds,0,r,h=>by simp at h
 |D:: Ds,n+1,r,h=>by
  rw[List.replicate_succ];simp only[QE,Dk,yH,List.foldl_cons];exact NK Ds n _ (by simp at h;omega)
theorem WP:∀(Ds:List zH) (n:Nat),(∀D,D∈Ds->yR D)->Ds.length<=n->j7 Ds (List.replicate n 0)
 |[],_,_,_=>trivial
 |D:: Ds,0,_,h=>by simp at h
 |D:: Ds,n+1,hD,h=>by
  rw[List.replicate_succ];exact⟨fun hs=>by have:=(hD D (by simp)).1 hs;omega,WP Ds n (fun D' h'=>hD D' (by simp[h'])) (by simp at h;omega)⟩
theorem EO(Ds:List zH)(hD:∀D,D∈Ds->yR D)(hn:Ds.length<=3)(xs:List UInt8):
 (zT Ds [0,0,0] xs).2++yE Ds (zT Ds [0,0,0] xs).1=yH Ds xs:=by
 have hz:=WP Ds 3 hD hn;obtain⟨q1,q2,_⟩:=QO Ds (List.replicate 3 0) xs hD hz;have:=q2 [];rw[List.append_nil,NK Ds 3 xs hn,Mo Ds _ hD q1]at this;exact this.symm
theorem RD{D:zH}(hD:yR D)(xs:List UInt8):(Jg D xs).length<=12 * xs.length+4:=by
 have h0:Yc D 0:=fun hs=>by have:=hD.1 hs;omega
 obtain⟨q1,q2,q3⟩:=MP hD xs 0 h0;have:=q2 [];rw[List.append_nil,Dk,Nw q1]at this;have l:=Xq hD (h:=(feed D 0 xs).1);rw[this,List.length_append];omega
theorem Kv:∀(Ds:List zH) (xs:List UInt8) (n:Nat),(∀D,D∈Ds->yR D)->xs.length<=n->(yH Ds xs).length<=16 ^ Ds.length * (n+1)
 |[],xs,n,_,h=>by simp[yH];omega
 |D:: Ds,xs,n,hD,h=>by
  have h1:=RD (hD D (by simp)) xs;have h2:=Kv Ds (Jg D xs) (16 * (n+1) - 1) (fun D' h'=>hD D' (by simp[h'])) (by omega);simp only[yH,List.foldl_cons,List.length_cons,Nat.pow_succ]at *;rw[show 16 * (n+1) - 1+1=16 * (n+1)from by omega]at h2;rw[Nat.mul_assoc];exact h2
end Go.Proofs.YteobgfbgglfkbaaGreat
