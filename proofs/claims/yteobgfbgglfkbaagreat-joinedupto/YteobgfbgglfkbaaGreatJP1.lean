import Derived.Test.YteobgfbgglfkbaaGreatJA5
namespace Go.Proofs.YteobgfbgglfkbaaGreat
open Go.RowKit
def Zq(Q:Prop)(s:St):Prop:=s.e=0→Q
theorem Zq.say{Q:Prop}{wr:Bool}{e a:Int}{s:St}(he:e≠0)(h:Zq Q s):Zq Q (sayS wr e a s):=by
 unfold sayS
 split
 ·exact fun q=>absurd q he
 ·exact h
theorem Zq.at{Q:Prop}{s:St}(h:Zq Q s)(i:Nat):Zq Q {s with i:=i}:=h
theorem Zq.skip{Q:Prop}{s:St}(h:Zq Q s)(S:ByteArray):Zq Q (s.skip S):=h
theorem Zq.zero{Q:Prop}{s:St}(h:Zq Q s):Zq Q (zEM s):=h
theorem Zq.self(s:St):Zq (s.e=0) s:=fun h=>h
theorem say_none{wr:Bool}{e a:Int}{s:St}(he:e≠0)(h:(sayS wr e a s).e=0)(h0:s.e=0):wr=false:=by
 cases wr with
 |false=>rfl
 |true=>exfalso;unfold sayS at h;simp [h0] at h;exact he h
theorem Zq.sayW{wr:Bool}{e a:Int}{s:St}(he:e≠0):Zq (wr=false∧s.e=0) (sayS wr e a s):=fun h=>by
 have h0:s.e=0:=Zq.say (Q:=s.e=0) he (Zq.self s) h;exact ⟨say_none he h h0,h0⟩
theorem zD1{Q:Prop}{S:ByteArray}{lo:Int}{but:ByteArray}{s s':St}{c:Int}(z:Zq Q s)(h:zAO S lo but s= .ok (c,s')):Zq Q s':=by
 unfold zAO at h
 repeat' split at h
 all_goals first | cases h;exact z | cases h
theorem zGB{Q:Prop}{S:ByteArray}{s s':St}{q:ByteArray×Nat}(z:Zq Q s)(h:zAx S s= .ok (q,s')):Zq Q s':=by
 unfold zAx at h;simp only at h
 split at h <;>cases h
 exact z
theorem zF2{Q:Prop}{S:ByteArray}{L:List ByteArray}{s s':St}{q:ByteArray×Nat}(z:Zq Q s)(h:zBF S L s= .ok (q,s')):Zq Q s':=by
 unfold zBF at h;simp only at h
 split at h <;>cases h
 exact z
theorem zAo{Q:Prop}{S:ByteArray}{c:Int}{s s':St}(z:Zq Q s)(h:zAJ S c s= .ok s'):Zq Q s':=by
 unfold zAJ at h
 split at h <;>cases h
 exact z
theorem zNM{Q:Prop}{S:ByteArray}{c:Int}{s s':St}(z:Zq Q s)(h:zC8 S c s= .ok s'):Zq Q s':=by
 unfold zC8 at h
 split at h <;>cases h
 exact z
theorem textF_Q{Q:Prop}{S:ByteArray}:∀n (s:St) x y s',Zq Q s→zCK S n s x= .ok (y,s')→Zq Q s':=by
 intro n
 induction n with
 |zero=>intro s x y s' _ h;cases h
 |succ n ih=>
  intro s x y s' z h;unfold zCK at h
  split at h
  ·cases h;exact z
  ·split at h
   ·rename_i hl;exact ih _ _ _ _ (zD1 z hl) h
   ·cases h
theorem zIA{Q:Prop}{S:ByteArray}{s s':St}{q:ByteArray×Nat}(z:Zq Q s)(h:zBW S s= .ok (q,s')):Zq Q s':=by
 unfold zBW at h;simp only at h
 split at h
 ·split at h
  ·rename_i hf;cases h;exact textF_Q _ _ _ _ _ (z.at _) hf
  ·cases h
 ·cases h
theorem zNe{Q:Prop}{S:ByteArray}{s s':St}{q:Int×Int}(z:Zq Q s)(h:zBz S s= .ok (q,s')):Zq Q s':=by
 unfold zBz at h
 split at h
 ·cases h
 ·rename_i h1
  split at h
  ·split at h
   ·cases h
   ·rename_i h2;cases h;exact Zq.say (by decide) (zD1 ((zD1 z h1).at _) h2)
  ·cases h;exact zD1 z h1
theorem classF_Q{Q:Prop}{S:ByteArray}:∀n (s:St) x y s',Zq Q s→zA6 S n s x= .ok (y,s')→Zq Q s':=by
 intro n
 induction n with
 |zero=>intro s x y s' _ h;cases h
 |succ n ih=>
  intro s x y s' z h;unfold zA6 at h
  split at h
  ·cases h
  ·rename_i h1
   split at h
   ·have z1:=zNe z h1;cases h;exact z1
   ·exact ih _ _ _ _ (zNe z h1) h
theorem zK4{Q:Prop}{S:ByteArray}{s s':St}{q:List (Int×Int)}(z:Zq Q s)(h:zA2 S s= .ok (q,s')):Zq Q s':=by
 unfold zA2 at h
 split at h
 ·exact classF_Q _ _ _ _ _ (z.at _) h
 ·cases h
theorem timesR_Q{Q:Prop}{S:ByteArray}{L:Lang}{s:St}(z:Zq Q s):Zq Q (zAn S L s).2:=by
 unfold zAn
 repeat' split
 all_goals exact z
theorem more_Q{Q:Prop}{s:St}(z:Zq Q s):Zq Q (sayS (decide (12<s.k+1)) 3 s.i {s with k:=s.k+1}):=Zq.say (by decide) z
theorem baseR_Q{Q:Prop}{S:ByteArray}{d:Nat}{f:St→Except Nat (Lang×St)}(hf:∀s L s',Zq Q s→f s= .ok (L,s')→Zq Q s'){s s':St}{L:Lang}(z:Zq Q s)(h:zBj f S d s= .ok (L,s')):Zq Q s':=by
 unfold zBj at h;have z1:=more_Q z
 revert z1 h
 generalize sayS (decide (12<s.k+1)) 3 s.i {s with k:=s.k+1}=s1;intro h z1;simp only at h
 split at h
 ·cases h;exact z1
 ·split at h
  ·split at h
   ·rename_i h1;cases h;exact zK4 z1 h1
   ·cases h
  ·split at h
   ·split at h
    ·cases h
    ·rename_i h1
     have z3:=hf _ _ _ (Zq.at (Zq.say (wr:=decide ((4:Int)≤(d:Int))) (a:=s.i) (e:=3) (by decide) z1) _) h1
     split at h <;>cases h
     exact z3
   ·split at h
    ·rename_i h1;cases h;exact zD1 z1 h1
    ·cases h
theorem rowF_Q{Q:Prop}{S:ByteArray}{f:St→Except Nat (Lang×St)}(hf:∀s L s',Zq Q s→f s= .ok (L,s')→Zq Q s'):∀n (s:St) x y s',Zq Q s→rowF f S n s x= .ok (y,s')→Zq Q s':=by
 intro n
 induction n with
 |zero=>intro s x y s' _ h;cases h
 |succ n ih=>
  intro s x y s' z h;unfold rowF at h
  split at h
  ·cases h;exact z
  ·split at h
   ·cases h
   ·rename_i h1;exact ih _ _ _ _ (timesR_Q (hf _ _ _ z h1)) h
theorem altF_Q{Q:Prop}{S:ByteArray}{f:St→Except Nat (Lang×St)}(hf:∀s L s',Zq Q s→f s= .ok (L,s')→Zq Q s'):∀n (s:St) x y s',Zq Q s→altF f S n s x= .ok (y,s')→Zq Q s':=by
 intro n
 induction n with
 |zero=>intro s x y s' _ h;cases h
 |succ n ih=>
  intro s x y s' z h;unfold altF at h
  split at h
  ·cases h
  ·rename_i h1
   split at h
   ·exact ih _ _ _ _ ((hf _ _ _ z h1).at _) h
   ·cases h;exact hf _ _ _ z h1
theorem zN2{Q:Prop}{S:ByteArray}:∀n d (s:St) L s',Zq Q s→zAN S n d s= .ok (L,s')→Zq Q s':=by
 intro n
 induction n with
 |zero=>intro d s L s' _ h;cases h
 |succ n ih=>
  intro d s L s' z h;unfold zAN at h;exact altF_Q (fun s L s' z h=>rowF_Q (fun s L s' z h=>baseR_Q (ih (d+1)) z h) _ _ _ _ _ z h) _ _ _ _ _ z h
theorem zN1{Q:Prop}{S:ByteArray}{s s':St}{L:Lang}(z:Zq Q s)(h:zDj S s= .ok (L,s')):Zq Q s':=zN2 _ _ _ _ _ z.zero h
theorem zNV{Q:Prop}{S:ByteArray}{s s':St}{q:Int×ByteArray}(z:Zq Q s)(h:zBu S s= .ok (q,s')):Zq Q s':=by
 unfold zBu at h
 split at h
 ·split at h
  ·rename_i h1;cases h;exact Zq.say (by decide) (zIA (z.skip S) h1)
  ·cases h
 ·split at h
  ·rename_i h1;cases h;exact zF2 (z.skip S) h1
  ·cases h
theorem zLV{Q:Prop}{S:ByteArray}:∀n (s:St) x y s',Zq Q s→zBl S n s x= .ok (y,s')→Zq Q s':=by
 intro n
 induction n with
 |zero=>intro s x y s' _ h;cases h
 |succ n ih=>
  intro s x y s' z h;unfold zBl at h
  split at h
  ·cases h
  ·rename_i h1
   have z1:=zNV (Zq.say (by decide) (z.skip S)) h1
   split at h
   ·cases h;exact z1
   ·exact ih _ _ _ _ (z1.skip S) h
theorem outR_Q{Q:Prop}{S:ByteArray}{s s':St}{q:List (Int×ByteArray)}(z:Zq Q s)(h:outR S s= .ok (q,s')):Zq Q s':=by
 unfold outR at h
 split at h
 ·split at h
  ·cases h
  ·rename_i h1;cases h;exact zF2 (z.skip S) h1
 ·exact zLV _ _ _ _ _ (z.skip S) h
theorem zOQ{Q:Prop}{S:ByteArray}{s s':St}{q:List (Int×Int)×List (Int×ByteArray)}(z:Zq Q s)(h:zB9 S s= .ok (q,s')):Zq Q s':=by
 unfold zB9 at h
 split at h
 ·cases h
 ·rename_i h1
  split at h
  ·cases h
  ·rename_i h2
   split at h
   ·cases h
   ·rename_i h3
    split at h
    ·cases h
    ·rename_i h4
     cases h;exact zAo (outR_Q (zF2 (zK4 (z.skip S) h1) h2) h3) h4
theorem zKz{Q:Prop}{S:ByteArray}:∀n (s:St) x y s',Zq Q s→zBf S n s x= .ok (y,s')→Zq Q s':=by
 intro n
 induction n with
 |zero=>intro s x y s' _ h;cases h
 |succ n ih=>
  intro s x y s' z h;unfold zBf at h
  split at h
  ·split at h
   ·cases h
   ·rename_i h1
    exact ih _ _ _ _ (zOQ (Zq.say (by decide) (z.skip S)) h1) h
  ·cases h;exact z
theorem swapR_Q{Q:Prop}{S:ByteArray}{s s':St}{q:ByteArray×ByteArray}(z:Zq Q s)(h:zCJ S s= .ok (q,s')):Zq Q s':=by
 unfold zCJ at h
 split at h
 ·cases h
 ·rename_i h1
  split at h
  ·cases h
  ·rename_i h2
   split at h
   ·cases h
   ·rename_i h3
    have z3:=zIA (Zq.say (by decide) (zIA (zF2 z h1) h2)) h3
    split at h
    ·cases h
    ·rename_i h4
     cases h;exact zAo (Zq.say (by decide) z3) h4
theorem bodyR_Q{Q:Prop}{S x:ByteArray}{s s':St}{q:zAE}(z:Zq Q s)(h:zC9 S x s= .ok (q,s')):Zq Q s':=by
 unfold zC9 at h
 split at h
 ·split at h
  ·cases h
  ·rename_i h1
   split at h
   ·cases h
   ·rename_i h2
    split at h
    ·cases h
    ·rename_i h3
     cases h;exact zAo (zKz _ _ _ _ _ (zAo (z.skip S) h1) h2) h3
 ·split at h
  ·cases h
  ·rename_i h1;cases h;exact swapR_Q (z.skip S) h1
theorem scrubR_Q{Q:Prop}{S:ByteArray}{ns nc:List ByteArray}{a:Int}{s s':St}{q:zAE}(z:Zq Q s)(h:zB0 S ns nc a s= .ok (q,s')):Zq Q s':=by
 unfold zB0 at h
 split at h
 ·cases h
 ·rename_i h1
  exact bodyR_Q (Zq.say (by decide) (zGB (Zq.say (by decide) z) h1)) h
theorem zFr{Q:Prop}{S:ByteArray}{ns:List ByteArray}:∀n (s:St) x y s',Zq Q s→zBd S ns n s x= .ok (y,s')→Zq Q s':=by
 intro n
 induction n with
 |zero=>intro s x y s' _ h;cases h
 |succ n ih=>
  intro s x y s' z h;unfold zBd at h
  split at h
  ·cases h
  ·rename_i y p s1 h1
   have z1:Zq Q ((sayS (decide (zAI ns y<0)) 5 p (sayS (decide (3≤(x.length:Int))) 3 p s1)).skip S):=(Zq.say (by decide) (Zq.say (by decide) (zGB z h1))).skip S
   split at h
   ·cases h;exact z1
   ·exact ih _ _ _ _ z1 h
theorem chainR_Q{Q:Prop}{S:ByteArray}{ns nc:List ByteArray}{a:Int}{s s':St}{q:zAQ}(z:Zq Q s)(h:zBm S ns nc a s= .ok (q,s')):Zq Q s':=by
 unfold zBm at h
 split at h
 ·cases h
 ·rename_i h1
  split at h
  ·cases h
  ·rename_i h2
   split at h
   ·cases h
   ·rename_i h3
    split at h
    ·cases h
    ·rename_i h4
     cases h;exact zAo (zFr _ _ _ _ _ (zAo (Zq.say (by decide) (zGB (Zq.say (by decide) z) h1)) h2) h3) h4
theorem zFp{Q:Prop}{S:ByteArray}{nc:List ByteArray}{s s':St}{q:Int}(z:Zq Q s)(h:zAd S nc s= .ok (q,s')):Zq Q s':=by
 unfold zAd at h
 split at h
 ·cases h
 ·rename_i h1;cases h;exact Zq.say (by decide) (zGB z h1)
theorem askedR_Q{Q:Prop}{S:ByteArray}{nc:List ByteArray}{cnt:Nat}{nv:Bool}{a:Int}{s s':St}{q:zAU}(z:Zq Q s)(h:zBG S nc cnt nv a s= .ok (q,s')):Zq Q s':=by
 unfold zBG at h
 split at h
 ·cases h
 ·rename_i h1
  have z1:=zFp (Zq.say (by decide) z) h1
  split at h
  ·split at h
   ·cases h
   ·rename_i h2
    split at h
    ·cases h
    ·rename_i h3
     split at h
     ·cases h
     ·rename_i h4
      split at h
      ·cases h
      ·rename_i h5
       cases h;exact zAo (zNM (zN1 (zAo z1 h2) h3) h4) h5
  ·split at h
   ·cases h
   ·rename_i h2
    split at h
    ·cases h
    ·rename_i h3
     cases h;exact zAo (zFp z1 h2) h3
theorem thingR_Q{Q:Prop}{S x:ByteArray}{a:Int}{D:PolD}{s s':St}{q:PolD}(z:Zq Q s)(h:zBP S x a D s= .ok (q,s')):Zq Q s':=by
 unfold zBP at h
 split at h
 ·split at h
  ·cases h
  ·rename_i h1;cases h;exact scrubR_Q z h1
 ·split at h
  ·split at h
   ·cases h
   ·rename_i h1;cases h;exact chainR_Q z h1
  ·split at h
   ·cases h
   ·rename_i h1;cases h;exact askedR_Q z h1
theorem zKb{Q:Prop}{S:ByteArray}:∀n (s:St) x y s',Zq Q s→zB7 S n s x= .ok (y,s')→Zq Q s':=by
 intro n
 induction n with
 |zero=>intro s x y s' _ h;cases h
 |succ n ih=>
  intro s x y s' z h;unfold zB7 at h
  split at h
  ·split at h
   ·cases h
   ·rename_i h1
    split at h
    ·cases h
    ·rename_i h2
     exact ih _ _ _ _ ((thingR_Q (zF2 z h1) h2).skip S) h
  ·cases h;exact z
end Go.Proofs.YteobgfbgglfkbaaGreat
namespace Go.Proofs.YteobgfbgglfkbaaGreat
open Go.RowKit
def zDM(P:List (Int×ByteArray)):Prop:=P.length≤3∧∀p,p∈P→p.2.size≤4
def zAb(D:zAE):Prop:=(D.swap=true→1≤D.one.size∧D.one.size≤4∧D.two.size≤4)∧(∀r,r∈D.rules→zDM r.out)∧D.rules.length≤6
def zBI(n:Nat)(L:List Int):Prop:=L.length≤3∧∀i,i∈L→0≤i∧i<n
def zOK(D:PolD):Prop:=((∀q,q∈D.scrubs→zAb q)∧∀c,c∈D.chains→zBI D.scrubs.length c.scrubs)∧D.chains.length≤4
theorem zFH{ns:List ByteArray}{x:ByteArray}(h:¬zAI ns x<0):0≤zAI ns x∧zAI ns x<ns.length:=by
 refine ⟨by omega,?_⟩;unfold zAI at *
 split
 ·rename_i i hi
  have:=(List.findIdx?_eq_some_iff_getElem.1 hi).1;omega
 ·rename_i hi
  rw [hi] at h;exact absurd (by decide) h
theorem partR_wf{S:ByteArray}{s s':St}{k:Int}{x:ByteArray}(h:zBu S s= .ok ((k,x),s'))(e:s'.e=0):x.size≤4:=by
 unfold zBu at h
 split at h
 ·split at h
  ·injection h with h;injection h with h1 h2;injection h1 with h3 h4
   subst h4 h2;have:=(Zq.sayW (by decide) e).1;simp at this;omega
  ·cases h
 ·split at h
  ·injection h with h;injection h with h1 h2;injection h1 with h3 h4
   subst h4
   decide
  ·cases h
theorem zMk{S:ByteArray}:∀n (s:St) P P' s',zBl S n s P= .ok (P',s')→s'.e=0→(∀p,p∈P→p.2.size≤4)→zDM P':=by
 intro n
 induction n with
 |zero=>intro s P P' s' h;cases h
 |succ n ih=>
  intro s P P' s' h e hP;unfold zBl at h
  split at h
  ·cases h
  ·rename_i p s1 h1
   obtain ⟨k,x⟩:=p
   have e1:s1.e=0:=by
    split at h
    ·injection h with h;injection h with h2 h3;rw [← h3] at e;exact e
    ·exact zLV (Q:=s1.e=0) n (s1.skip S) _ _ _ (Zq.self s1) h e
   have q:=zNV (Zq.sayW (wr:=decide (3≤(P.length:Int))) (a:=(s.skip S).i) (s:=s.skip S) (e:=3) (by decide)) h1 e1;have hx:=partR_wf h1 e1
   have hall:∀p,p∈P++[(k,x)]→p.2.size≤4:=by
    intro p hp
    rcases List.mem_append.1 hp with hp | hp
    ·exact hP p hp
    ·simp at hp;subst hp;exact hx
   split at h
   ·injection h with h;injection h with h2 h3
    subst h2;have:=q.1;simp at this;exact ⟨by simp;omega,hall⟩
   ·exact ih _ _ _ _ h e hall
theorem outR_wf{S:ByteArray}{s s':St}{P:List (Int×ByteArray)}(h:outR S s= .ok (P,s'))(e:s'.e=0):zDM P:=by
 unfold outR at h
 split at h
 ·split at h
  ·cases h
  ·injection h with h;injection h with h1 h2;subst h1;exact ⟨by simp,by simp⟩
 ·exact zMk _ _ _ _ _ h e (by simp)
theorem ruleR_wf{S:ByteArray}{s s':St}{L:List (Int×Int)}{P:List (Int×ByteArray)}(h:zB9 S s= .ok ((L,P),s'))(e:s'.e=0):zDM P:=by
 unfold zB9 at h
 split at h
 ·cases h
 ·rename_i h1
  split at h
  ·cases h
  ·rename_i h2
   split at h
   ·cases h
   ·rename_i P3 s3 h3
    split at h
    ·cases h
    ·rename_i h4
     injection h with h;injection h with h5 h6;injection h5 with h7 h8
     subst h8 h6;exact outR_wf h3 (zAo (Q:=s3.e=0) (Zq.self s3) h4 e)
theorem zNu{S:ByteArray}:∀n (s:St) R R' s',zBf S n s R= .ok (R',s')→s'.e=0→(∀r,r∈R→zDM r.out)∧R.length≤6→(∀r,r∈R'→zDM r.out)∧R'.length≤6:=by
 intro n
 induction n with
 |zero=>intro s R R' s' h;cases h
 |succ n ih=>
  intro s R R' s' h e hR;unfold zBf at h
  split at h
  ·split at h
   ·cases h
   ·rename_i L P s1 h1
    have e1:s1.e=0:=zKz (Q:=s1.e=0) n s1 _ _ _ (Zq.self s1) h e;have q:=(zOQ (Zq.sayW (wr:=decide (6≤(R.length:Int))) (a:=(s.skip S).i) (s:=s.skip S) (e:=3) (by decide)) h1 e1).1;simp only [decide_eq_false_iff_not] at q;refine ih _ _ _ _ h e ⟨?_,by simp;omega⟩;intro r hr
    rcases List.mem_append.1 hr with hr | hr
    ·exact hR.1 r hr
    ·simp at hr;subst hr;exact ruleR_wf h1 e1
  ·injection h with h;injection h with h1 h2;subst h1;exact hR
theorem zKl{S:ByteArray}{s s':St}{x y:ByteArray}(h:zCJ S s= .ok ((x,y),s'))(e:s'.e=0):1≤x.size∧x.size≤4∧y.size≤4:=by
 unfold zCJ at h
 split at h
 ·cases h
 ·split at h
  ·cases h
  ·rename_i x1 a s2 h2
   split at h
   ·cases h
   ·rename_i y1 c s3 h3
    split at h
    ·cases h
    ·rename_i s4 h4
     injection h with h;injection h with h5 h6;injection h5 with h7 h8
     subst h7 h8 h6;have q1:=zAo (Zq.sayW (wr:=decide (4<(y1.size:Int))) (a:=c) (s:=s3) (e:=3) (by decide)) h4 e;have q2:=zIA (Zq.sayW (wr:=decide (x1.size=0∨4<x1.size)) (a:=a) (s:=s2) (e:=3) (by decide)) h3 q1.2;have a1:=q1.1;have a2:=q2.1;simp only [decide_eq_false_iff_not] at a1 a2;omega
theorem bodyR_wf{S x:ByteArray}{s s':St}{D:zAE}(h:zC9 S x s= .ok (D,s'))(e:s'.e=0):zAb D:=by
 unfold zC9 at h
 split at h
 ·split at h
  ·cases h
  ·split at h
   ·cases h
   ·rename_i R s4 h2
    split at h
    ·cases h
    ·rename_i s5 h3
     injection h with h;injection h with h1 h2'
     subst h1 h2';exact ⟨fun q=>absurd q (by simp),zNu _ _ _ _ _ h2 (zAo (Q:=s4.e=0) (Zq.self s4) h3 e) ⟨by simp,by simp⟩⟩
 ·split at h
  ·cases h
  ·rename_i a c s3 h1
   injection h with h;injection h with h2 h3
   subst h2 h3;exact ⟨fun _=>zKl h1 e,by simp,by simp⟩
theorem zNC{S:ByteArray}{ns nc:List ByteArray}{a:Int}{s s':St}{D:zAE}(h:zB0 S ns nc a s= .ok (D,s'))(e:s'.e=0):zAb D:=by
 unfold zB0 at h
 split at h
 ·cases h
 ·exact bodyR_wf h e
theorem zN3{S:ByteArray}{ns:List ByteArray}:∀n (s:St) L L' s',zBd S ns n s L= .ok (L',s')→s'.e=0→(∀i,i∈L→0≤i∧i<ns.length)→zBI ns.length L':=by
 intro n
 induction n with
 |zero=>intro s L L' s' h;cases h
 |succ n ih=>
  intro s L L' s' h e hL;unfold zBd at h
  split at h
  ·cases h
  ·rename_i y p s1 h1
   have e1:(sayS (decide (zAI ns y<0)) 5 p (sayS (decide (3≤(L.length:Int))) 3 p s1)).e=0:=by
    split at h
    ·injection h with h;injection h with h2 h3;rw [← h3] at e;exact e
    ·exact zFr (Q:=(sayS (decide (zAI ns y<0)) 5 p (sayS (decide (3≤(L.length:Int))) 3 p s1)).e=0) n _ _ _ _ ((Zq.self _).skip S) h e
   have q1:=Zq.sayW (by decide) e1;have q2:=Zq.sayW (by decide) q1.2;have a1:=q1.1;have a2:=q2.1;simp only [decide_eq_false_iff_not] at a1 a2
   have hall:∀i,i∈L++[zAI ns y]→0≤i∧i<ns.length:=by
    intro i hi
    rcases List.mem_append.1 hi with hi | hi
    ·exact hL i hi
    ·simp at hi;subst hi;exact zFH a1
   split at h
   ·injection h with h;injection h with h2 h3
    subst h2;exact ⟨by simp;omega,hall⟩
   ·exact ih _ _ _ _ h e hall
theorem zNi{S:ByteArray}{ns nc:List ByteArray}{a:Int}{s s':St}{D:zAQ}(h:zBm S ns nc a s= .ok (D,s'))(e:s'.e=0):zBI ns.length D.scrubs:=by
 unfold zBm at h
 split at h
 ·cases h
 ·split at h
  ·cases h
  ·split at h
   ·cases h
   ·rename_i L s3 h3
    split at h
    ·cases h
    ·rename_i s4 h4
     injection h with h;injection h with h1 h2
     subst h1 h2;exact zN3 _ _ _ _ _ h3 (zAo (Q:=s3.e=0) (Zq.self s3) h4 e) (by simp)
theorem zLk{S:ByteArray}{ns nc:List ByteArray}{a:Int}{s s':St}{D:zAQ}(h:zBm S ns nc a s= .ok (D,s'))(e:s'.e=0):nc.length<4:=by
 unfold zBm at h
 split at h
 ·cases h
 ·rename_i x1 a1 s1 h1
  split at h
  ·cases h
  ·rename_i s2 h2
   split at h
   ·cases h
   ·rename_i L s3 h3
    split at h
    ·cases h
    ·rename_i s4 h4
     injection h with h;injection h with h5 h6
     subst h6;have e3:=zAo (Q:=s3.e=0) (Zq.self s3) h4 e;have e2:=zFr (Q:=s2.e=0) _ _ _ _ _ (Zq.self s2) h3 e3;have e1:=zAo (Q:=s1.e=0) (Zq.say (by decide) (Zq.self s1)) h2 e2;have q:=(zGB (Zq.sayW (wr:=decide (4≤(nc.length:Int))) (a:=a) (s:=s) (e:=3) (by decide)) h1 e1).1;simp only [decide_eq_false_iff_not] at q;omega
theorem zBI.mono{n m:Nat}{L:List Int}(h:zBI n L)(hm:n≤m):zBI m L:=⟨h.1,fun i hi=>by have:=h.2 i hi;omega⟩
theorem zNP{S x:ByteArray}{a:Int}{D D':PolD}{s s':St}(h:zBP S x a D s= .ok (D',s'))(e:s'.e=0)(hD:zOK D):zOK D':=by
 unfold zBP at h
 split at h
 ·split at h
  ·cases h
  ·rename_i q s2 h1
   injection h with h;injection h with h2 h3
   subst h2 h3;refine ⟨⟨fun r hr=> ?_,fun c hc=>(hD.1.2 c hc).mono (by simp)⟩,hD.2⟩
   rcases List.mem_append.1 hr with hr | hr
   ·exact hD.1.1 r hr
   ·simp at hr;subst hr;exact zNC h1 e
 ·split at h
  ·split at h
   ·cases h
   ·rename_i q s2 h1
    injection h with h;injection h with h2 h3
    subst h2 h3;refine ⟨⟨hD.1.1,fun c hc=> ?_⟩,by have:=zLk h1 e;simp at this;simp;omega⟩
    rcases List.mem_append.1 hc with hc | hc
    ·exact hD.1.2 c hc
    ·simp at hc;subst hc;have:=zNi h1 e;simpa using this
  ·split at h
   ·cases h
   ·injection h with h;injection h with h2 h3
    subst h2 h3;exact hD
theorem mainF_wf{S:ByteArray}:∀n (s:St) D D' s',zB7 S n s D= .ok (D',s')→s'.e=0→zOK D→zOK D':=by
 intro n
 induction n with
 |zero=>intro s D D' s' h;cases h
 |succ n ih=>
  intro s D D' s' h e hD;unfold zB7 at h
  split at h
  ·split at h
   ·cases h
   ·split at h
    ·cases h
    ·rename_i D1 s2 h2
     exact ih _ _ _ _ h e (zNP h2 (zKb (Q:=s2.e=0) n _ _ _ _ ((Zq.self s2).skip S) h e) hD)
  ·injection h with h;injection h with h1 h2;subst h1;exact hD
theorem zJq{S:ByteArray}{D:PolD}{s:St}(hc:zAg S=(0,0))(h:polR S= .ok (D,s)):zOK D:=by
 have e:s.e=0:=by
  unfold zAg at hc
  split at hc
  ·cases hc
  ·rw [h] at hc
   unfold endE at hc;simp only at hc
   split at hc
   ·assumption
   ·injection hc
 exact mainF_wf _ _ _ _ _ h e ⟨⟨by simp,by simp⟩,by simp⟩
end Go.Proofs.YteobgfbgglfkbaaGreat
namespace Go.Proofs.YteobgfbgglfkbaaGreat
open Go.RowKit
def zEV(one two:List UInt8):Nat→List UInt8→List UInt8
 |_,[]=>[]
 |k+1,_:: xs=>zEV one two k xs
 |0,x:: xs=>if one.isPrefixOf (x:: xs) then two++zEV one two (one.length - 1) xs else x:: zEV one two 0 xs
def zEe(one two xs:List UInt8):List UInt8:=zEV one two 0 xs
theorem zGe(one two:List UInt8):∀k xs,zEV one two k xs=zEe one two (xs.drop k)
 |0,xs=>by simp [zEe]
 |k+1,[]=>by simp [zEe,zEV]
 |k+1,x:: xs=>by simp only [zEV,List.drop_succ_cons];exact zGe one two k xs
theorem zMp{one two:List UInt8}(h:one≠[])(r:List UInt8):zEe one two (one++r)=two++zEe one two r:=by
 cases one with
 |nil=>exact absurd rfl h
 |cons x xs=>
  have hp:(x:: xs).isPrefixOf (x:: (xs++r))=true:=by
   rw [List.isPrefixOf_iff_prefix];exact ⟨r,by simp⟩
  show zEV (x:: xs) two 0 (x:: (xs++r))=_
  rw [zEV,if_pos hp,zGe];simp
theorem zHl{one two:List UInt8}{x:UInt8}{xs:List UInt8}(h:¬one<+:x:: xs):zEe one two (x:: xs)=x:: zEe one two xs:=by
 unfold zEe;rw [zEV,if_neg (by rw [List.isPrefixOf_iff_prefix];exact h)]
def zBw(one:List UInt8):List UInt8→Nat
 |[]=>0
 |x:: xs=>if (x:: xs).isPrefixOf one then xs.length+1 else zBw one xs
theorem zFA(one:List UInt8):∀s,zBw one s≤s.length
 |[]=>Nat.le_refl _
 |x:: xs=>by
  unfold zBw
  split
  ·simp
  ·have:=zFA one xs;simp;omega
theorem zFZ(one:List UInt8):∀s,s.drop (s.length - zBw one s)=one.take (zBw one s)
 |[]=>by simp [zBw]
 |x:: xs=>by
  unfold zBw
  split
  ·rename_i h
   rw [List.isPrefixOf_iff_prefix] at h;obtain ⟨t,rfl⟩:=h;simp
  ·have l:=zFA one xs
   have ih:=zFZ one xs;rw [List.length_cons,show xs.length+1 - zBw one xs=(xs.length - zBw one xs)+1 from by omega,List.drop_succ_cons];exact ih
theorem zGn{one two:List UInt8}(r:List UInt8):∀s:List UInt8,s.length≤one.length→zEe one two (s++r)=s.take (s.length - zBw one s)++zEe one two (one.take (zBw one s)++r)
 |[],_=>by simp [zBw]
 |x:: xs,hl=>by
  unfold zBw
  split
  ·rename_i h
   rw [List.isPrefixOf_iff_prefix] at h;obtain ⟨t,rfl⟩:=h;simp
  ·rename_i h
   rw [List.isPrefixOf_iff_prefix] at h;have l:=zFA one xs;have ih:=zGn (one:=one) (two:=two) r xs (by simp at hl;omega)
   have hm:¬one<+:x:: (xs++r):=by
    intro hp;exact h (List.prefix_of_prefix_length_le (l₃:=x:: (xs++r)) ⟨r,by simp⟩ hp hl)
   rw [List.length_cons,show xs.length+1 - zBw one xs=(xs.length - zBw one xs)+1 from by omega,List.take_succ_cons,List.cons_append,zHl hm,ih];simp
theorem begun_lt{one s:List UInt8}(hl:s.length≤one.length)(hn:s≠one):zBw one s<one.length:=by
 have l:=zFA one s
 rcases Nat.lt_or_ge (zBw one s) one.length with h | h
 ·exact h
 ·exfalso
  have e:zBw one s=s.length:=by omega
  have:=zFZ one s;rw [e] at this;simp at this;apply hn;rw [this];rw [List.take_of_length_le (by omega)]
def zBx(one two:List UInt8)(h:Nat)(b:UInt8):Nat×List UInt8:=
 if one.take h++[b]=one then (0,two)
 else (zBw one (one.take h++[b]),(one.take h++[b]).take ((one.take h++[b]).length - zBw one (one.take h++[b])))
theorem zJK{one two:List UInt8}(h0:one≠[]){h:Nat}(hh:h<one.length)(b:UInt8):(zBx one two h b).1<one.length∧∀r,zEe one two (one.take h++b:: r)=(zBx one two h b).2++zEe one two (one.take (zBx one two h b).1++r):=by
 have len:(one.take h++[b]).length≤one.length:=by simp;omega
 have app:∀r,one.take h++b:: r=(one.take h++[b])++r:=by intro r;simp
 unfold zBx
 split
 ·rename_i e
  refine ⟨List.length_pos_iff.2 h0,fun r=> ?_⟩;rw [app,e,zMp h0];simp
 ·rename_i e
  exact ⟨begun_lt len e,fun r=>by rw [app];exact zGn r _ len⟩
theorem zJM{one two:List UInt8}:∀xs:List UInt8,xs.length<one.length→zEe one two xs=xs
 |[],_=>rfl
 |x:: xs,h=>by
  rw [zHl (fun hp=>by have:=hp.length_le;omega),zJM xs (by simp at h;omega)]
theorem zL1{one two:List UInt8}{h:Nat}(b:UInt8)(h1:one.length≤4)(h2:two.length≤4):(zBx one two h b).2.length≤12:=by
 unfold zBx
 split
 ·simp;omega
 ·simp;omega
def capB(c:UInt8):UInt8:=if 97≤c.toNat∧c.toNat≤122 then c - 32 else c
def litB(c:UInt8):UInt8:=if 65≤c.toNat∧c.toNat≤90 then c+32 else c
def zEj(p:Int×ByteArray)(c:UInt8):List UInt8:=if p.1=116 then p.2.data.toList else if p.1=98 then [c] else if p.1=117 then [capB c] else [litB c]
def outB(P:List (Int×ByteArray))(c:UInt8):List UInt8:=P.flatMap fun p=>zEj p c
def zCE:List zB8→UInt8→List UInt8
 |[],c=>[c]
 |r:: R,c=>if zAj r.cls c.toNat then outB r.out c else zCE R c
def zJX(D:zAE)(xs:List UInt8):List UInt8:=if D.swap then zEe D.one.data.toList D.two.data.toList xs else xs.flatMap (zCE D.rules)
def putD(D:zAE)(h:Nat)(b:UInt8):Nat×List UInt8:=if D.swap then zBx D.one.data.toList D.two.data.toList h b else (0,zCE D.rules b)
def endD(D:zAE)(h:Nat):List UInt8:=if D.swap then D.one.data.toList.take h else []
def zGz(D:zAE)(h:Nat)(r:List UInt8):List UInt8:=if D.swap then zEe D.one.data.toList D.two.data.toList (D.one.data.toList.take h++r) else r.flatMap (zCE D.rules)
def zD9(D:zAE)(h:Nat):Prop:=D.swap=true→h<D.one.size
def feed(D:zAE):Nat→List UInt8→Nat×List UInt8
 |h,[]=>(h,[])
 |h,b:: xs=>((feed D (putD D h b).1 xs).1,(putD D h b).2++(feed D (putD D h b).1 xs).2)
theorem zHr(D:zAE)(r:List UInt8):zGz D 0 r=zJX D r:=by
 unfold zGz zJX;split <;>simp
theorem ruleB_le{R:List zB8}(h:∀r,r∈R→zDM r.out)(c:UInt8):(zCE R c).length≤12:=by
 induction R with
 |nil=>simp [zCE]
 |cons r R ih=>
  unfold zCE
  split
  ·have hr:=h r (by simp)
   have:∀(P:List (Int×ByteArray)),(∀p,p∈P→p.2.size≤4)→(outB P c).length≤4 * P.length:=by
    intro P
    induction P with
    |nil=>simp [outB]
    |cons p P ihP=>
     intro hP
     have h1:(zEj p c).length≤4:=by
      have:=hP p (by simp);unfold zEj
      split
      ·exact this
      ·repeat' split
       all_goals simp
     have h2:=ihP (fun q hq=>hP q (by simp [hq]));simp only [outB,List.flatMap_cons,List.length_append,List.length_cons] at *;omega
   have h3:=this r.out hr.2;have:=hr.1;omega
  ·exact ih (fun q hq=>h q (by simp [hq]))
theorem zAu(x:ByteArray):x.data.toList.length=x.size:=rfl
theorem zIE{D:zAE}(hD:zAb D){h:Nat}(hh:zD9 D h)(b:UInt8):zD9 D (putD D h b).1∧(∀r,zGz D h (b:: r)=(putD D h b).2++zGz D (putD D h b).1 r)∧(putD D h b).2.length≤12:=by
 unfold putD zD9 zGz
 by_cases hs:D.swap=true
 ·have h1:=hD.1 hs
  have h0:D.one.data.toList≠[]:=by
   intro e;have:=zAu D.one;rw [e] at this;simp at this;omega
  have st:=zJK (two:=D.two.data.toList) h0 (h:=h) (by rw [zAu];exact hh hs) b;simp only [hs,if_true];exact ⟨fun _=>st.1,st.2,zL1 b (by rw [zAu];omega) (by rw [zAu];omega)⟩
 ·simp only [hs]
  exact ⟨fun q=>by simp at q,fun r=>by simp,ruleB_le hD.2.1 b⟩
theorem zOG{D:zAE}{h:Nat}(hh:zD9 D h):zGz D h []=endD D h:=by
 unfold zGz endD
 by_cases hs:D.swap=true
 ·have:=hh hs
  simp only [hs,if_true,List.append_nil];exact zJM _ (by rw [← zAu] at this;rw [List.length_take];omega)
 ·simp only [hs,List.flatMap_nil]
  rfl
theorem zJv{D:zAE}(hD:zAb D){h:Nat}:(endD D h).length≤4:=by
 unfold endD
 split
 ·rename_i hs
  have:=hD.1 hs;have:=zAu D.one;simp;omega
 ·simp
theorem zJ6{D:zAE}(hD:zAb D):∀(xs:List UInt8) (h:Nat),zD9 D h→zD9 D (feed D h xs).1∧(∀r,zGz D h (xs++r)=(feed D h xs).2++zGz D (feed D h xs).1 r)∧(feed D h xs).2.length≤12 * xs.length
 |[],h,hh=>⟨hh,fun r=>by simp [feed],by simp [feed]⟩
 |b:: xs,h,hh=>by
  obtain ⟨p1,p2,p3⟩:=zIE hD hh b;obtain ⟨q1,q2,q3⟩:=zJ6 hD xs _ p1;refine ⟨q1,fun r=> ?_,?_⟩
  ·rw [List.cons_append,p2,q2];simp [feed]
  ·simp only [feed,List.length_append,List.length_cons];omega
theorem zGr(D:zAE):∀(xs ys:List UInt8) (h:Nat),feed D h (xs++ys)=((feed D (feed D h xs).1 ys).1,(feed D h xs).2++(feed D (feed D h xs).1 ys).2)
 |[],ys,h=>by simp [feed]
 |b:: xs,ys,h=>by
  simp only [List.cons_append,feed];rw [zGr D xs ys];simp
def zAT:List zAE→List Nat→List UInt8→List Nat×List UInt8
 |[],hs,xs=>(hs,xs)
 |_:: _,[],_=>([],[])
 |D:: Ds,h:: hs,xs=>((feed D h xs).1:: (zAT Ds hs (feed D h xs).2).1,(zAT Ds hs (feed D h xs).2).2)
def endC:List zAE→List Nat→List UInt8
 |[],_=>[]
 |_:: _,[]=>[]
 |D:: Ds,h:: hs=>(zAT Ds hs (endD D h)).2++endC Ds (zAT Ds hs (endD D h)).1
def zI5:List zAE→List Nat→List UInt8→List UInt8
 |[],_,r=>r
 |_:: _,[],_=>[]
 |D:: Ds,h:: hs,r=>zI5 Ds hs (zGz D h r)
def zBL:List zAE→List Nat→Prop
 |[],_=>True
 |_:: _,[]=>False
 |D:: Ds,h:: hs=>zD9 D h∧zBL Ds hs
theorem zEl:∀(Ds:List zAE) (hs:List Nat),Ds.length≤hs.length→zAT Ds hs []=(hs,[])
 |[],hs,_=>rfl
 |D:: Ds,[],h=>by simp at h
 |D:: Ds,h:: hs,hl=>by
  simp only [zAT,feed];rw [zEl Ds hs (by simp at hl;omega)]
theorem zDF:∀(Ds:List zAE) (hs:List Nat) (xs ys:List UInt8),zAT Ds hs (xs++ys)=((zAT Ds (zAT Ds hs xs).1 ys).1,(zAT Ds hs xs).2++(zAT Ds (zAT Ds hs xs).1 ys).2)
 |[],hs,xs,ys=>by simp [zAT]
 |D:: Ds,[],xs,ys=>by simp [zAT]
 |D:: Ds,h:: hs,xs,ys=>by
  simp only [zAT];rw [zGr];simp only;rw [zDF Ds hs]
theorem zEn:∀(Ds:List zAE) (hs:List Nat) (xs:List UInt8),(zAT Ds hs xs).1.length=hs.length
 |[],hs,xs=>rfl
 |D:: Ds,[],xs=>rfl
 |D:: Ds,h:: hs,xs=>by simp [zAT,zEn Ds hs]
theorem zCa:∀(Ds:List zAE) (hs:List Nat) (xs:List UInt8),(∀D,D∈Ds→zAb D)→zBL Ds hs→zBL Ds (zAT Ds hs xs).1∧(∀r,zI5 Ds hs (xs++r)=(zAT Ds hs xs).2++zI5 Ds (zAT Ds hs xs).1 r)∧(zAT Ds hs xs).2.length≤12 ^ Ds.length * xs.length
 |[],hs,xs,_,_=>⟨trivial,fun r=>rfl,by simp [zAT]⟩
 |D:: Ds,[],xs,_,hh=>hh.elim
 |D:: Ds,h:: hs,xs,hD,hh=>by
  obtain ⟨p1,p2,p3⟩:=zJ6 (hD D (by simp)) xs h hh.1;obtain ⟨q1,q2,q3⟩:=zCa Ds hs (feed D h xs).2 (fun D' h'=>hD D' (by simp [h'])) hh.2;refine ⟨⟨p1,q1⟩,fun r=> ?_,?_⟩
  ·simp only [zI5,zAT];rw [p2,q2]
  ·simp only [zAT,List.length_cons,Nat.pow_succ]
   rw [Nat.mul_assoc];exact Nat.le_trans q3 (Nat.mul_le_mul_left _ p3)
theorem zNG:∀(Ds:List zAE) (hs:List Nat),(∀D,D∈Ds→zAb D)→zBL Ds hs→zI5 Ds hs []=endC Ds hs
 |[],hs,_,_=>rfl
 |D:: Ds,[],_,hh=>hh.elim
 |D:: Ds,h:: hs,hD,hh=>by
  obtain ⟨q1,q2,q3⟩:=zCa Ds hs (endD D h) (fun D' h'=>hD D' (by simp [h'])) hh.2;simp only [zI5,endC];rw [zOG hh.1];have:=q2 [];rw [List.append_nil] at this;rw [this,zNG Ds _ (fun D' h'=>hD D' (by simp [h'])) q1]
def zAh(Ds:List zAE)(xs:List UInt8):List UInt8:=Ds.foldl (fun x D=>zJX D x) xs
theorem zHI:∀(Ds:List zAE) (n:Nat) (r:List UInt8),Ds.length≤n→zI5 Ds (List.replicate n 0) r=zAh Ds r
 |[],n,r,_=>by cases n <;>rfl
 |D:: Ds,0,r,h=>by simp at h
 |D:: Ds,n+1,r,h=>by
  rw [List.replicate_succ];simp only [zI5,zHr,zAh,List.foldl_cons];exact zHI Ds n _ (by simp at h;omega)
theorem zDG:∀(Ds:List zAE) (n:Nat),(∀D,D∈Ds→zAb D)→Ds.length≤n→zBL Ds (List.replicate n 0)
 |[],_,_,_=>trivial
 |D:: Ds,0,_,h=>by simp at h
 |D:: Ds,n+1,hD,h=>by
  rw [List.replicate_succ];exact ⟨fun hs=>by have:=(hD D (by simp)).1 hs;omega,zDG Ds n (fun D' h'=>hD D' (by simp [h'])) (by simp at h;omega)⟩
theorem zLU(Ds:List zAE)(hD:∀D,D∈Ds→zAb D)(hn:Ds.length≤3)(xs:List UInt8):
  (zAT Ds [0,0,0] xs).2++endC Ds (zAT Ds [0,0,0] xs).1=zAh Ds xs:=by
 have hz:=zDG Ds 3 hD hn;obtain ⟨q1,q2,_⟩:=zCa Ds (List.replicate 3 0) xs hD hz;have:=q2 [];rw [List.append_nil,zHI Ds 3 xs hn,zNG Ds _ hD q1] at this;exact this.symm
theorem zOS{D:zAE}(hD:zAb D)(xs:List UInt8):(zJX D xs).length≤12 * xs.length+4:=by
 have h0:zD9 D 0:=fun hs=>by have:=hD.1 hs;omega
 obtain ⟨q1,q2,q3⟩:=zJ6 hD xs 0 h0;have:=q2 [];rw [List.append_nil,zHr,zOG q1] at this;have l:=zJv hD (h:=(feed D 0 xs).1);rw [this,List.length_append];omega
theorem zF5:∀(Ds:List zAE) (xs:List UInt8) (n:Nat),(∀D,D∈Ds→zAb D)→xs.length≤n→(zAh Ds xs).length≤16 ^ Ds.length * (n+1)
 |[],xs,n,_,h=>by simp [zAh];omega
 |D:: Ds,xs,n,hD,h=>by
  have h1:=zOS (hD D (by simp)) xs;have h2:=zF5 Ds (zJX D xs) (16 * (n+1) - 1) (fun D' h'=>hD D' (by simp [h'])) (by omega);simp only [zAh,List.foldl_cons,List.length_cons,Nat.pow_succ] at *;rw [show 16 * (n+1) - 1+1=16 * (n+1) from by omega] at h2;rw [Nat.mul_assoc];exact h2
end Go.Proofs.YteobgfbgglfkbaaGreat
