import Derived.Test.YteobgfbgglfkbaaGreatRA5
namespace Go.Proofs.YteobgfbgglfkbaaGreat
open Go.RowKit
def Zq(Q:Prop)(s:St):Prop:=s.e=0→Q
theorem Zq.say{Q:Prop}{wr:Bool}{e a:Int}{s:St}(he:e≠0)(h:Zq Q s):Zq Q (sayS wr e a s):=by
 unfold sayS
 split
 ·exact fun q=>absurd q he
 ·exact h
theorem Zq.at{Q:Prop}{s:St}(h:Zq Q s)(i:Nat):Zq Q {s with i:=i}:=h
theorem Zq.skip{Q:Prop}{s:St}(h:Zq Q s)(S:ByteArray):Zq Q (s.skip S):=h
theorem Zq.zero{Q:Prop}{s:St}(h:Zq Q s):Zq Q (zD4 s):=h
theorem Zq.self(s:St):Zq (s.e=0) s:=fun h=>h
theorem say_none{wr:Bool}{e a:Int}{s:St}(he:e≠0)(h:(sayS wr e a s).e=0)(h0:s.e=0):wr=false:=by
 cases wr with
 |false=>rfl
 |true=>exfalso;unfold sayS at h;simp [h0] at h;exact he h
theorem Zq.sayW{wr:Bool}{e a:Int}{s:St}(he:e≠0):Zq (wr=false∧s.e=0) (sayS wr e a s):=fun h=>by
 have h0:s.e=0:=Zq.say (Q:=s.e=0) he (Zq.self s) h;exact ⟨say_none he h h0,h0⟩
theorem zDa{Q:Prop}{S:ByteArray}{lo:Int}{but:ByteArray}{s s':St}{c:Int}(z:Zq Q s)(h:zAN S lo but s= .ok (c,s')):Zq Q s':=by
 unfold zAN at h
 repeat' split at h
 all_goals first | cases h;exact z | cases h
theorem zGH{Q:Prop}{S:ByteArray}{s s':St}{q:ByteArray×Nat}(z:Zq Q s)(h:zAn S s= .ok (q,s')):Zq Q s':=by
 unfold zAn at h;simp only at h
 split at h <;>cases h
 exact z
theorem zGJ{Q:Prop}{S:ByteArray}{L:List ByteArray}{s s':St}{q:ByteArray×Nat}(z:Zq Q s)(h:zAw S L s= .ok (q,s')):Zq Q s':=by
 unfold zAw at h;simp only at h
 split at h <;>cases h
 exact z
theorem zA5{Q:Prop}{S:ByteArray}{c:Int}{s s':St}(z:Zq Q s)(h:zAG S c s= .ok s'):Zq Q s':=by
 unfold zAG at h
 split at h <;>cases h
 exact z
theorem zPS{Q:Prop}{S:ByteArray}{c:Int}{s s':St}(z:Zq Q s)(h:zC6 S c s= .ok s'):Zq Q s':=by
 unfold zC6 at h
 split at h <;>cases h
 exact z
theorem textF_Q{Q:Prop}{S:ByteArray}:∀n (s:St) x y s',Zq Q s→zCK S n s x= .ok (y,s')→Zq Q s':=by
 intro n
 induction n with
 |zero=>intro s x y s' _ h;cases h
 |succ n ih=>
  intro s x y s' z h;unfold zCK at h
  split at h
  ·cases h;exact z
  ·split at h
   ·rename_i hl;exact ih _ _ _ _ (zDa z hl) h
   ·cases h
theorem zIH{Q:Prop}{S:ByteArray}{s s':St}{q:ByteArray×Nat}(z:Zq Q s)(h:zBY S s= .ok (q,s')):Zq Q s':=by
 unfold zBY at h;simp only at h
 split at h
 ·split at h
  ·rename_i hf;cases h;exact textF_Q _ _ _ _ _ (z.at _) hf
  ·cases h
 ·cases h
theorem zNU{Q:Prop}{S:ByteArray}{s s':St}{q:Int×Int}(z:Zq Q s)(h:zBf S s= .ok (q,s')):Zq Q s':=by
 unfold zBf at h
 split at h
 ·cases h
 ·rename_i h1
  split at h
  ·split at h
   ·cases h
   ·rename_i h2;cases h;exact Zq.say (by decide) (zDa ((zDa z h1).at _) h2)
  ·cases h;exact zDa z h1
theorem zLt{Q:Prop}{S:ByteArray}:∀n (s:St) x y s',Zq Q s→zAt S n s x= .ok (y,s')→Zq Q s':=by
 intro n
 induction n with
 |zero=>intro s x y s' _ h;cases h
 |succ n ih=>
  intro s x y s' z h;unfold zAt at h
  split at h
  ·cases h
  ·rename_i h1
   split at h
   ·have z1:=zNU z h1;cases h;exact z1
   ·exact ih _ _ _ _ (zNU z h1) h
theorem zIR{Q:Prop}{S:ByteArray}{s s':St}{q:List (Int×Int)}(z:Zq Q s)(h:zAr S s= .ok (q,s')):Zq Q s':=by
 unfold zAr at h
 split at h
 ·exact zLt _ _ _ _ _ (z.at _) h
 ·cases h
theorem zLX{Q:Prop}{S:ByteArray}{L:Lang}{s:St}(z:Zq Q s):Zq Q (zAh S L s).2:=by
 unfold zAh
 repeat' split
 all_goals exact z
theorem more_Q{Q:Prop}{s:St}(z:Zq Q s):Zq Q (sayS (decide (12<s.k+1)) 3 s.i {s with k:=s.k+1}):=Zq.say (by decide) z
theorem zNR{Q:Prop}{S:ByteArray}{d:Nat}{f:St→Except Nat (Lang×St)}(hf:∀s L s',Zq Q s→f s= .ok (L,s')→Zq Q s'){s s':St}{L:Lang}(z:Zq Q s)(h:zBN f S d s= .ok (L,s')):Zq Q s':=by
 unfold zBN at h;have z1:=more_Q z
 revert z1 h
 generalize sayS (decide (12<s.k+1)) 3 s.i {s with k:=s.k+1}=s1;intro h z1;simp only at h
 split at h
 ·cases h;exact z1
 ·split at h
  ·split at h
   ·rename_i h1;cases h;exact zIR z1 h1
   ·cases h
  ·split at h
   ·split at h
    ·cases h
    ·rename_i h1
     have z3:=hf _ _ _ (Zq.at (Zq.say (wr:=decide ((4:Int)≤(d:Int))) (a:=s.i) (e:=3) (by decide) z1) _) h1
     split at h <;>cases h
     exact z3
   ·split at h
    ·rename_i h1;cases h;exact zDa z1 h1
    ·cases h
theorem zPg{Q:Prop}{S:ByteArray}{f:St→Except Nat (Lang×St)}(hf:∀s L s',Zq Q s→f s= .ok (L,s')→Zq Q s'):∀n (s:St) x y s',Zq Q s→rowF f S n s x= .ok (y,s')→Zq Q s':=by
 intro n
 induction n with
 |zero=>intro s x y s' _ h;cases h
 |succ n ih=>
  intro s x y s' z h;unfold rowF at h
  split at h
  ·cases h;exact z
  ·split at h
   ·cases h
   ·rename_i h1;exact ih _ _ _ _ (zLX (hf _ _ _ z h1)) h
theorem altF_Q{Q:Prop}{S:ByteArray}{f:St→Except Nat (Lang×St)}(hf:∀s L s',Zq Q s→f s= .ok (L,s')→Zq Q s'):∀n (s:St) x y s',Zq Q s→altF f S n s x= .ok (y,s')→Zq Q s':=by
 intro n
 induction n with
 |zero=>intro s x y s' _ h;cases h
 |succ n ih=>
  intro s x y s' z h;unfold altF at h
  split at h
  ·cases h
  ·rename_i h1
   split at h
   ·exact ih _ _ _ _ ((hf _ _ _ z h1).at _) h
   ·cases h;exact hf _ _ _ z h1
theorem zJ0{Q:Prop}{S:ByteArray}:∀n d (s:St) L s',Zq Q s→zAM S n d s= .ok (L,s')→Zq Q s':=by
 intro n
 induction n with
 |zero=>intro d s L s' _ h;cases h
 |succ n ih=>
  intro d s L s' z h;unfold zAM at h;exact altF_Q (fun s L s' z h=>zPg (fun s L s' z h=>zNR (ih (d+1)) z h) _ _ _ _ _ z h) _ _ _ _ _ z h
theorem zNc{Q:Prop}{S:ByteArray}{s s':St}{L:Lang}(z:Zq Q s)(h:zDS S s= .ok (L,s')):Zq Q s':=zJ0 _ _ _ _ _ z.zero h
theorem zPc{Q:Prop}{S:ByteArray}{s s':St}{q:Int×ByteArray}(z:Zq Q s)(h:zB0 S s= .ok (q,s')):Zq Q s':=by
 unfold zB0 at h
 split at h
 ·split at h
  ·rename_i h1;cases h;exact Zq.say (by decide) (zIH (z.skip S) h1)
  ·cases h
 ·split at h
  ·rename_i h1;cases h;exact zGJ (z.skip S) h1
  ·cases h
theorem zLW{Q:Prop}{S:ByteArray}:∀n (s:St) x y s',Zq Q s→zBp S n s x= .ok (y,s')→Zq Q s':=by
 intro n
 induction n with
 |zero=>intro s x y s' _ h;cases h
 |succ n ih=>
  intro s x y s' z h;unfold zBp at h
  split at h
  ·cases h
  ·rename_i h1
   have z1:=zPc (Zq.say (by decide) (z.skip S)) h1
   split at h
   ·cases h;exact z1
   ·exact ih _ _ _ _ (z1.skip S) h
theorem outR_Q{Q:Prop}{S:ByteArray}{s s':St}{q:List (Int×ByteArray)}(z:Zq Q s)(h:outR S s= .ok (q,s')):Zq Q s':=by
 unfold outR at h
 split at h
 ·split at h
  ·cases h
  ·rename_i h1;cases h;exact zGJ (z.skip S) h1
 ·exact zLW _ _ _ _ _ (z.skip S) h
theorem zOy{Q:Prop}{S:ByteArray}{s s':St}{q:List (Int×Int)×List (Int×ByteArray)}(z:Zq Q s)(h:zCE S s= .ok (q,s')):Zq Q s':=by
 unfold zCE at h
 split at h
 ·cases h
 ·rename_i h1
  split at h
  ·cases h
  ·rename_i h2
   split at h
   ·cases h
   ·rename_i h3
    split at h
    ·cases h
    ·rename_i h4
     cases h;exact zA5 (outR_Q (zGJ (zIR (z.skip S) h1) h2) h3) h4
theorem zLS{Q:Prop}{S:ByteArray}:∀n (s:St) x y s',Zq Q s→zBV S n s x= .ok (y,s')→Zq Q s':=by
 intro n
 induction n with
 |zero=>intro s x y s' _ h;cases h
 |succ n ih=>
  intro s x y s' z h;unfold zBV at h
  split at h
  ·split at h
   ·cases h
   ·rename_i h1
    exact ih _ _ _ _ (zOy (Zq.say (by decide) (z.skip S)) h1) h
  ·cases h;exact z
theorem swapR_Q{Q:Prop}{S:ByteArray}{s s':St}{q:ByteArray×ByteArray}(z:Zq Q s)(h:zCN S s= .ok (q,s')):Zq Q s':=by
 unfold zCN at h
 split at h
 ·cases h
 ·rename_i h1
  split at h
  ·cases h
  ·rename_i h2
   split at h
   ·cases h
   ·rename_i h3
    have z3:=zIH (Zq.say (by decide) (zIH (zGJ z h1) h2)) h3
    split at h
    ·cases h
    ·rename_i h4
     cases h;exact zA5 (Zq.say (by decide) z3) h4
theorem bodyR_Q{Q:Prop}{S x:ByteArray}{s s':St}{q:zAE}(z:Zq Q s)(h:zCy S x s= .ok (q,s')):Zq Q s':=by
 unfold zCy at h
 split at h
 ·split at h
  ·cases h
  ·rename_i h1
   split at h
   ·cases h
   ·rename_i h2
    split at h
    ·cases h
    ·rename_i h3
     cases h;exact zA5 (zLS _ _ _ _ _ (zA5 (z.skip S) h1) h2) h3
 ·split at h
  ·cases h
  ·rename_i h1;cases h;exact swapR_Q (z.skip S) h1
theorem scrubR_Q{Q:Prop}{S:ByteArray}{ns nc:List ByteArray}{a:Int}{s s':St}{q:zAE}(z:Zq Q s)(h:zBs S ns nc a s= .ok (q,s')):Zq Q s':=by
 unfold zBs at h
 split at h
 ·cases h
 ·rename_i h1
  exact bodyR_Q (Zq.say (by decide) (zGH (Zq.say (by decide) z) h1)) h
theorem zIF{Q:Prop}{S:ByteArray}{ns:List ByteArray}:∀n (s:St) x y s',Zq Q s→zBX S ns n s x= .ok (y,s')→Zq Q s':=by
 intro n
 induction n with
 |zero=>intro s x y s' _ h;cases h
 |succ n ih=>
  intro s x y s' z h;unfold zBX at h
  split at h
  ·cases h
  ·rename_i y p s1 h1
   have z1:Zq Q ((sayS (decide (zAP ns y<0)) 5 p (sayS (decide (3≤(x.length:Int))) 3 p s1)).skip S):=(Zq.say (by decide) (Zq.say (by decide) (zGH z h1))).skip S
   split at h
   ·cases h;exact z1
   ·exact ih _ _ _ _ z1 h
theorem chainR_Q{Q:Prop}{S:ByteArray}{ns nc:List ByteArray}{a:Int}{s s':St}{q:zAS}(z:Zq Q s)(h:zBu S ns nc a s= .ok (q,s')):Zq Q s':=by
 unfold zBu at h
 split at h
 ·cases h
 ·rename_i h1
  split at h
  ·cases h
  ·rename_i h2
   split at h
   ·cases h
   ·rename_i h3
    split at h
    ·cases h
    ·rename_i h4
     cases h;exact zA5 (zIF _ _ _ _ _ (zA5 (Zq.say (by decide) (zGH (Zq.say (by decide) z) h1)) h2) h3) h4
theorem zGA{Q:Prop}{S:ByteArray}{nc:List ByteArray}{s s':St}{q:Int}(z:Zq Q s)(h:zAd S nc s= .ok (q,s')):Zq Q s':=by
 unfold zAd at h
 split at h
 ·cases h
 ·rename_i h1;cases h;exact Zq.say (by decide) (zGH z h1)
theorem askedR_Q{Q:Prop}{S:ByteArray}{nc:List ByteArray}{cnt:Nat}{nv:Bool}{a:Int}{s s':St}{q:zAU}(z:Zq Q s)(h:zBH S nc cnt nv a s= .ok (q,s')):Zq Q s':=by
 unfold zBH at h
 split at h
 ·cases h
 ·rename_i h1
  have z1:=zGA (Zq.say (by decide) z) h1
  split at h
  ·split at h
   ·cases h
   ·rename_i h2
    split at h
    ·cases h
    ·rename_i h3
     split at h
     ·cases h
     ·rename_i h4
      split at h
      ·cases h
      ·rename_i h5
       cases h;exact zA5 (zPS (zNc (zA5 z1 h2) h3) h4) h5
  ·split at h
   ·cases h
   ·rename_i h2
    split at h
    ·cases h
    ·rename_i h3
     cases h;exact zA5 (zGA z1 h2) h3
theorem thingR_Q{Q:Prop}{S x:ByteArray}{a:Int}{D:PolD}{s s':St}{q:PolD}(z:Zq Q s)(h:zA7 S x a D s= .ok (q,s')):Zq Q s':=by
 unfold zA7 at h
 split at h
 ·split at h
  ·cases h
  ·rename_i h1;cases h;exact scrubR_Q z h1
 ·split at h
  ·split at h
   ·cases h
   ·rename_i h1;cases h;exact chainR_Q z h1
  ·split at h
   ·cases h
   ·rename_i h1;cases h;exact askedR_Q z h1
theorem zOz{Q:Prop}{S:ByteArray}:∀n (s:St) x y s',Zq Q s→zBe S n s x= .ok (y,s')→Zq Q s':=by
 intro n
 induction n with
 |zero=>intro s x y s' _ h;cases h
 |succ n ih=>
  intro s x y s' z h;unfold zBe at h
  split at h
  ·split at h
   ·cases h
   ·rename_i h1
    split at h
    ·cases h
    ·rename_i h2
     exact ih _ _ _ _ ((thingR_Q (zGJ z h1) h2).skip S) h
  ·cases h;exact z
end Go.Proofs.YteobgfbgglfkbaaGreat
namespace Go.Proofs.YteobgfbgglfkbaaGreat
open Go.RowKit
def zDb(P:List (Int×ByteArray)):Prop:=P.length≤3∧∀p,p∈P→p.2.size≤4
def zAi(D:zAE):Prop:=(D.swap=true→1≤D.one.size∧D.one.size≤4∧D.two.size≤4)∧(∀r,r∈D.rules→zDb r.out)∧D.rules.length≤6
def zBl(n:Nat)(L:List Int):Prop:=L.length≤3∧∀i,i∈L→0≤i∧i<n
def zNh(D:PolD):Prop:=((∀q,q∈D.scrubs→zAi q)∧∀c,c∈D.chains→zBl D.scrubs.length c.scrubs)∧D.chains.length≤4
theorem zHw{ns:List ByteArray}{x:ByteArray}(h:¬zAP ns x<0):0≤zAP ns x∧zAP ns x<ns.length:=by
 refine ⟨by omega,?_⟩;unfold zAP at *
 split
 ·rename_i i hi
  have:=(List.findIdx?_eq_some_iff_getElem.1 hi).1;omega
 ·rename_i hi
  rw [hi] at h;exact absurd (by decide) h
theorem partR_wf{S:ByteArray}{s s':St}{k:Int}{x:ByteArray}(h:zB0 S s= .ok ((k,x),s'))(e:s'.e=0):x.size≤4:=by
 unfold zB0 at h
 split at h
 ·split at h
  ·injection h with h;injection h with h1 h2;injection h1 with h3 h4
   subst h4 h2;have:=(Zq.sayW (by decide) e).1;simp at this;omega
  ·cases h
 ·split at h
  ·injection h with h;injection h with h1 h2;injection h1 with h3 h4
   subst h4
   decide
  ·cases h
theorem zNw{S:ByteArray}:∀n (s:St) P P' s',zBp S n s P= .ok (P',s')→s'.e=0→(∀p,p∈P→p.2.size≤4)→zDb P':=by
 intro n
 induction n with
 |zero=>intro s P P' s' h;cases h
 |succ n ih=>
  intro s P P' s' h e hP;unfold zBp at h
  split at h
  ·cases h
  ·rename_i p s1 h1
   obtain ⟨k,x⟩:=p
   have e1:s1.e=0:=by
    split at h
    ·injection h with h;injection h with h2 h3;rw [← h3] at e;exact e
    ·exact zLW (Q:=s1.e=0) n (s1.skip S) _ _ _ (Zq.self s1) h e
   have q:=zPc (Zq.sayW (wr:=decide (3≤(P.length:Int))) (a:=(s.skip S).i) (s:=s.skip S) (e:=3) (by decide)) h1 e1;have hx:=partR_wf h1 e1
   have hall:∀p,p∈P++[(k,x)]→p.2.size≤4:=by
    intro p hp
    rcases List.mem_append.1 hp with hp | hp
    ·exact hP p hp
    ·simp at hp;subst hp;exact hx
   split at h
   ·injection h with h;injection h with h2 h3
    subst h2;have:=q.1;simp at this;exact ⟨by simp;omega,hall⟩
   ·exact ih _ _ _ _ h e hall
theorem outR_wf{S:ByteArray}{s s':St}{P:List (Int×ByteArray)}(h:outR S s= .ok (P,s'))(e:s'.e=0):zDb P:=by
 unfold outR at h
 split at h
 ·split at h
  ·cases h
  ·injection h with h;injection h with h1 h2;subst h1;exact ⟨by simp,by simp⟩
 ·exact zNw _ _ _ _ _ h e (by simp)
theorem ruleR_wf{S:ByteArray}{s s':St}{L:List (Int×Int)}{P:List (Int×ByteArray)}(h:zCE S s= .ok ((L,P),s'))(e:s'.e=0):zDb P:=by
 unfold zCE at h
 split at h
 ·cases h
 ·rename_i h1
  split at h
  ·cases h
  ·rename_i h2
   split at h
   ·cases h
   ·rename_i P3 s3 h3
    split at h
    ·cases h
    ·rename_i h4
     injection h with h;injection h with h5 h6;injection h5 with h7 h8
     subst h8 h6;exact outR_wf h3 (zA5 (Q:=s3.e=0) (Zq.self s3) h4 e)
theorem zPN{S:ByteArray}:∀n (s:St) R R' s',zBV S n s R= .ok (R',s')→s'.e=0→(∀r,r∈R→zDb r.out)∧R.length≤6→(∀r,r∈R'→zDb r.out)∧R'.length≤6:=by
 intro n
 induction n with
 |zero=>intro s R R' s' h;cases h
 |succ n ih=>
  intro s R R' s' h e hR;unfold zBV at h
  split at h
  ·split at h
   ·cases h
   ·rename_i L P s1 h1
    have e1:s1.e=0:=zLS (Q:=s1.e=0) n s1 _ _ _ (Zq.self s1) h e;have q:=(zOy (Zq.sayW (wr:=decide (6≤(R.length:Int))) (a:=(s.skip S).i) (s:=s.skip S) (e:=3) (by decide)) h1 e1).1;simp only [decide_eq_false_iff_not] at q;refine ih _ _ _ _ h e ⟨?_,by simp;omega⟩;intro r hr
    rcases List.mem_append.1 hr with hr | hr
    ·exact hR.1 r hr
    ·simp at hr;subst hr;exact ruleR_wf h1 e1
  ·injection h with h;injection h with h1 h2;subst h1;exact hR
theorem zLx{S:ByteArray}{s s':St}{x y:ByteArray}(h:zCN S s= .ok ((x,y),s'))(e:s'.e=0):1≤x.size∧x.size≤4∧y.size≤4:=by
 unfold zCN at h
 split at h
 ·cases h
 ·split at h
  ·cases h
  ·rename_i x1 a s2 h2
   split at h
   ·cases h
   ·rename_i y1 c s3 h3
    split at h
    ·cases h
    ·rename_i s4 h4
     injection h with h;injection h with h5 h6;injection h5 with h7 h8
     subst h7 h8 h6;have q1:=zA5 (Zq.sayW (wr:=decide (4<(y1.size:Int))) (a:=c) (s:=s3) (e:=3) (by decide)) h4 e;have q2:=zIH (Zq.sayW (wr:=decide (x1.size=0∨4<x1.size)) (a:=a) (s:=s2) (e:=3) (by decide)) h3 q1.2;have a1:=q1.1;have a2:=q2.1;simp only [decide_eq_false_iff_not] at a1 a2;omega
theorem bodyR_wf{S x:ByteArray}{s s':St}{D:zAE}(h:zCy S x s= .ok (D,s'))(e:s'.e=0):zAi D:=by
 unfold zCy at h
 split at h
 ·split at h
  ·cases h
  ·split at h
   ·cases h
   ·rename_i R s4 h2
    split at h
    ·cases h
    ·rename_i s5 h3
     injection h with h;injection h with h1 h2'
     subst h1 h2';exact ⟨fun q=>absurd q (by simp),zPN _ _ _ _ _ h2 (zA5 (Q:=s4.e=0) (Zq.self s4) h3 e) ⟨by simp,by simp⟩⟩
 ·split at h
  ·cases h
  ·rename_i a c s3 h1
   injection h with h;injection h with h2 h3
   subst h2 h3;exact ⟨fun _=>zLx h1 e,by simp,by simp⟩
theorem zN8{S:ByteArray}{ns nc:List ByteArray}{a:Int}{s s':St}{D:zAE}(h:zBs S ns nc a s= .ok (D,s'))(e:s'.e=0):zAi D:=by
 unfold zBs at h
 split at h
 ·cases h
 ·exact bodyR_wf h e
theorem zPH{S:ByteArray}{ns:List ByteArray}:∀n (s:St) L L' s',zBX S ns n s L= .ok (L',s')→s'.e=0→(∀i,i∈L→0≤i∧i<ns.length)→zBl ns.length L':=by
 intro n
 induction n with
 |zero=>intro s L L' s' h;cases h
 |succ n ih=>
  intro s L L' s' h e hL;unfold zBX at h
  split at h
  ·cases h
  ·rename_i y p s1 h1
   have e1:(sayS (decide (zAP ns y<0)) 5 p (sayS (decide (3≤(L.length:Int))) 3 p s1)).e=0:=by
    split at h
    ·injection h with h;injection h with h2 h3;rw [← h3] at e;exact e
    ·exact zIF (Q:=(sayS (decide (zAP ns y<0)) 5 p (sayS (decide (3≤(L.length:Int))) 3 p s1)).e=0) n _ _ _ _ ((Zq.self _).skip S) h e
   have q1:=Zq.sayW (by decide) e1;have q2:=Zq.sayW (by decide) q1.2;have a1:=q1.1;have a2:=q2.1;simp only [decide_eq_false_iff_not] at a1 a2
   have hall:∀i,i∈L++[zAP ns y]→0≤i∧i<ns.length:=by
    intro i hi
    rcases List.mem_append.1 hi with hi | hi
    ·exact hL i hi
    ·simp at hi;subst hi;exact zHw a1
   split at h
   ·injection h with h;injection h with h2 h3
    subst h2;exact ⟨by simp;omega,hall⟩
   ·exact ih _ _ _ _ h e hall
theorem zPP{S:ByteArray}{ns nc:List ByteArray}{a:Int}{s s':St}{D:zAS}(h:zBu S ns nc a s= .ok (D,s'))(e:s'.e=0):zBl ns.length D.scrubs:=by
 unfold zBu at h
 split at h
 ·cases h
 ·split at h
  ·cases h
  ·split at h
   ·cases h
   ·rename_i L s3 h3
    split at h
    ·cases h
    ·rename_i s4 h4
     injection h with h;injection h with h1 h2
     subst h1 h2;exact zPH _ _ _ _ _ h3 (zA5 (Q:=s3.e=0) (Zq.self s3) h4 e) (by simp)
theorem zMM{S:ByteArray}{ns nc:List ByteArray}{a:Int}{s s':St}{D:zAS}(h:zBu S ns nc a s= .ok (D,s'))(e:s'.e=0):nc.length<4:=by
 unfold zBu at h
 split at h
 ·cases h
 ·rename_i x1 a1 s1 h1
  split at h
  ·cases h
  ·rename_i s2 h2
   split at h
   ·cases h
   ·rename_i L s3 h3
    split at h
    ·cases h
    ·rename_i s4 h4
     injection h with h;injection h with h5 h6
     subst h6;have e3:=zA5 (Q:=s3.e=0) (Zq.self s3) h4 e;have e2:=zIF (Q:=s2.e=0) _ _ _ _ _ (Zq.self s2) h3 e3;have e1:=zA5 (Q:=s1.e=0) (Zq.say (by decide) (Zq.self s1)) h2 e2;have q:=(zGH (Zq.sayW (wr:=decide (4≤(nc.length:Int))) (a:=a) (s:=s) (e:=3) (by decide)) h1 e1).1;simp only [decide_eq_false_iff_not] at q;omega
theorem zBl.mono{n m:Nat}{L:List Int}(h:zBl n L)(hm:n≤m):zBl m L:=⟨h.1,fun i hi=>by have:=h.2 i hi;omega⟩
theorem zOj{S x:ByteArray}{a:Int}{D D':PolD}{s s':St}(h:zA7 S x a D s= .ok (D',s'))(e:s'.e=0)(hD:zNh D):zNh D':=by
 unfold zA7 at h
 split at h
 ·split at h
  ·cases h
  ·rename_i q s2 h1
   injection h with h;injection h with h2 h3
   subst h2 h3;refine ⟨⟨fun r hr=> ?_,fun c hc=>(hD.1.2 c hc).mono (by simp)⟩,hD.2⟩
   rcases List.mem_append.1 hr with hr | hr
   ·exact hD.1.1 r hr
   ·simp at hr;subst hr;exact zN8 h1 e
 ·split at h
  ·split at h
   ·cases h
   ·rename_i q s2 h1
    injection h with h;injection h with h2 h3
    subst h2 h3;refine ⟨⟨hD.1.1,fun c hc=> ?_⟩,by have:=zMM h1 e;simp at this;simp;omega⟩
    rcases List.mem_append.1 hc with hc | hc
    ·exact hD.1.2 c hc
    ·simp at hc;subst hc;have:=zPP h1 e;simpa using this
  ·split at h
   ·cases h
   ·injection h with h;injection h with h2 h3
    subst h2 h3;exact hD
theorem mainF_wf{S:ByteArray}:∀n (s:St) D D' s',zBe S n s D= .ok (D',s')→s'.e=0→zNh D→zNh D':=by
 intro n
 induction n with
 |zero=>intro s D D' s' h;cases h
 |succ n ih=>
  intro s D D' s' h e hD;unfold zBe at h
  split at h
  ·split at h
   ·cases h
   ·split at h
    ·cases h
    ·rename_i D1 s2 h2
     exact ih _ _ _ _ h e (zOj h2 (zOz (Q:=s2.e=0) n _ _ _ _ ((Zq.self s2).skip S) h e) hD)
  ·injection h with h;injection h with h1 h2;subst h1;exact hD
theorem polR_wf{S:ByteArray}{D:PolD}{s:St}(hc:zAz S=(0,0))(h:polR S= .ok (D,s)):zNh D:=by
 have e:s.e=0:=by
  unfold zAz at hc
  split at hc
  ·cases hc
  ·rw [h] at hc
   unfold endE at hc;simp only at hc
   split at hc
   ·assumption
   ·injection hc
 exact mainF_wf _ _ _ _ _ h e ⟨⟨by simp,by simp⟩,by simp⟩
end Go.Proofs.YteobgfbgglfkbaaGreat
namespace Go.Proofs.YteobgfbgglfkbaaGreat
open Go.RowKit
def zEb(one two:List UInt8):Nat→List UInt8→List UInt8
 |_,[]=>[]
 |k+1,_:: xs=>zEb one two k xs
 |0,x:: xs=>if one.isPrefixOf (x:: xs) then two++zEb one two (one.length - 1) xs else x:: zEb one two 0 xs
def zEv(one two xs:List UInt8):List UInt8:=zEb one two 0 xs
theorem zGq(one two:List UInt8):∀k xs,zEb one two k xs=zEv one two (xs.drop k)
 |0,xs=>by simp [zEv]
 |k+1,[]=>by simp [zEv,zEb]
 |k+1,x:: xs=>by simp only [zEb,List.drop_succ_cons];exact zGq one two k xs
theorem zPb{one two:List UInt8}(h:one≠[])(r:List UInt8):zEv one two (one++r)=two++zEv one two r:=by
 cases one with
 |nil=>exact absurd rfl h
 |cons x xs=>
  have hp:(x:: xs).isPrefixOf (x:: (xs++r))=true:=by
   rw [List.isPrefixOf_iff_prefix];exact ⟨r,by simp⟩
  show zEb (x:: xs) two 0 (x:: (xs++r))=_
  rw [zEb,if_pos hp,zGq];simp
theorem zHg{one two:List UInt8}{x:UInt8}{xs:List UInt8}(h:¬one<+:x:: xs):zEv one two (x:: xs)=x:: zEv one two xs:=by
 unfold zEv;rw [zEb,if_neg (by rw [List.isPrefixOf_iff_prefix];exact h)]
def zB5(one:List UInt8):List UInt8→Nat
 |[]=>0
 |x:: xs=>if (x:: xs).isPrefixOf one then xs.length+1 else zB5 one xs
theorem zE9(one:List UInt8):∀s,zB5 one s≤s.length
 |[]=>Nat.le_refl _
 |x:: xs=>by
  unfold zB5
  split
  ·simp
  ·have:=zE9 one xs;simp;omega
theorem zFi(one:List UInt8):∀s,s.drop (s.length - zB5 one s)=one.take (zB5 one s)
 |[]=>by simp [zB5]
 |x:: xs=>by
  unfold zB5
  split
  ·rename_i h
   rw [List.isPrefixOf_iff_prefix] at h;obtain ⟨t,rfl⟩:=h;simp
  ·have l:=zE9 one xs
   have ih:=zFi one xs;rw [List.length_cons,show xs.length+1 - zB5 one xs=(xs.length - zB5 one xs)+1 from by omega,List.drop_succ_cons];exact ih
theorem zGW{one two:List UInt8}(r:List UInt8):∀s:List UInt8,s.length≤one.length→zEv one two (s++r)=s.take (s.length - zB5 one s)++zEv one two (one.take (zB5 one s)++r)
 |[],_=>by simp [zB5]
 |x:: xs,hl=>by
  unfold zB5
  split
  ·rename_i h
   rw [List.isPrefixOf_iff_prefix] at h;obtain ⟨t,rfl⟩:=h;simp
  ·rename_i h
   rw [List.isPrefixOf_iff_prefix] at h;have l:=zE9 one xs;have ih:=zGW (one:=one) (two:=two) r xs (by simp at hl;omega)
   have hm:¬one<+:x:: (xs++r):=by
    intro hp;exact h (List.prefix_of_prefix_length_le (l₃:=x:: (xs++r)) ⟨r,by simp⟩ hp hl)
   rw [List.length_cons,show xs.length+1 - zB5 one xs=(xs.length - zB5 one xs)+1 from by omega,List.take_succ_cons,List.cons_append,zHg hm,ih];simp
theorem begun_lt{one s:List UInt8}(hl:s.length≤one.length)(hn:s≠one):zB5 one s<one.length:=by
 have l:=zE9 one s
 rcases Nat.lt_or_ge (zB5 one s) one.length with h | h
 ·exact h
 ·exfalso
  have e:zB5 one s=s.length:=by omega
  have:=zFi one s;rw [e] at this;simp at this;apply hn;rw [this];rw [List.take_of_length_le (by omega)]
def zB8(one two:List UInt8)(h:Nat)(b:UInt8):Nat×List UInt8:=
 if one.take h++[b]=one then (0,two)
 else (zB5 one (one.take h++[b]),(one.take h++[b]).take ((one.take h++[b]).length - zB5 one (one.take h++[b])))
theorem zJR{one two:List UInt8}(h0:one≠[]){h:Nat}(hh:h<one.length)(b:UInt8):(zB8 one two h b).1<one.length∧∀r,zEv one two (one.take h++b:: r)=(zB8 one two h b).2++zEv one two (one.take (zB8 one two h b).1++r):=by
 have len:(one.take h++[b]).length≤one.length:=by simp;omega
 have app:∀r,one.take h++b:: r=(one.take h++[b])++r:=by intro r;simp
 unfold zB8
 split
 ·rename_i e
  refine ⟨List.length_pos_iff.2 h0,fun r=> ?_⟩;rw [app,e,zPb h0];simp
 ·rename_i e
  exact ⟨begun_lt len e,fun r=>by rw [app];exact zGW r _ len⟩
theorem zJ7{one two:List UInt8}:∀xs:List UInt8,xs.length<one.length→zEv one two xs=xs
 |[],_=>rfl
 |x:: xs,h=>by
  rw [zHg (fun hp=>by have:=hp.length_le;omega),zJ7 xs (by simp at h;omega)]
theorem zMC{one two:List UInt8}{h:Nat}(b:UInt8)(h1:one.length≤4)(h2:two.length≤4):(zB8 one two h b).2.length≤12:=by
 unfold zB8
 split
 ·simp;omega
 ·simp;omega
def capB(c:UInt8):UInt8:=if 97≤c.toNat∧c.toNat≤122 then c - 32 else c
def litB(c:UInt8):UInt8:=if 65≤c.toNat∧c.toNat≤90 then c+32 else c
def zEn(p:Int×ByteArray)(c:UInt8):List UInt8:=if p.1=116 then p.2.data.toList else if p.1=98 then [c] else if p.1=117 then [capB c] else [litB c]
def outB(P:List (Int×ByteArray))(c:UInt8):List UInt8:=P.flatMap fun p=>zEn p c
def zCF:List zCA→UInt8→List UInt8
 |[],c=>[c]
 |r:: R,c=>if zAg r.cls c.toNat then outB r.out c else zCF R c
def zPG(D:zAE)(xs:List UInt8):List UInt8:=if D.swap then zEv D.one.data.toList D.two.data.toList xs else xs.flatMap (zCF D.rules)
def putD(D:zAE)(h:Nat)(b:UInt8):Nat×List UInt8:=if D.swap then zB8 D.one.data.toList D.two.data.toList h b else (0,zCF D.rules b)
def endD(D:zAE)(h:Nat):List UInt8:=if D.swap then D.one.data.toList.take h else []
def zHP(D:zAE)(h:Nat)(r:List UInt8):List UInt8:=if D.swap then zEv D.one.data.toList D.two.data.toList (D.one.data.toList.take h++r) else r.flatMap (zCF D.rules)
def zEY(D:zAE)(h:Nat):Prop:=D.swap=true→h<D.one.size
def feed(D:zAE):Nat→List UInt8→Nat×List UInt8
 |h,[]=>(h,[])
 |h,b:: xs=>((feed D (putD D h b).1 xs).1,(putD D h b).2++(feed D (putD D h b).1 xs).2)
theorem zMw(D:zAE)(r:List UInt8):zHP D 0 r=zPG D r:=by
 unfold zHP zPG;split <;>simp
theorem ruleB_le{R:List zCA}(h:∀r,r∈R→zDb r.out)(c:UInt8):(zCF R c).length≤12:=by
 induction R with
 |nil=>simp [zCF]
 |cons r R ih=>
  unfold zCF
  split
  ·have hr:=h r (by simp)
   have:∀(P:List (Int×ByteArray)),(∀p,p∈P→p.2.size≤4)→(outB P c).length≤4 * P.length:=by
    intro P
    induction P with
    |nil=>simp [outB]
    |cons p P ihP=>
     intro hP
     have h1:(zEn p c).length≤4:=by
      have:=hP p (by simp);unfold zEn
      split
      ·exact this
      ·repeat' split
       all_goals simp
     have h2:=ihP (fun q hq=>hP q (by simp [hq]));simp only [outB,List.flatMap_cons,List.length_append,List.length_cons] at *;omega
   have h3:=this r.out hr.2;have:=hr.1;omega
  ·exact ih (fun q hq=>h q (by simp [hq]))
theorem zAo(x:ByteArray):x.data.toList.length=x.size:=rfl
theorem zIV{D:zAE}(hD:zAi D){h:Nat}(hh:zEY D h)(b:UInt8):zEY D (putD D h b).1∧(∀r,zHP D h (b:: r)=(putD D h b).2++zHP D (putD D h b).1 r)∧(putD D h b).2.length≤12:=by
 unfold putD zEY zHP
 by_cases hs:D.swap=true
 ·have h1:=hD.1 hs
  have h0:D.one.data.toList≠[]:=by
   intro e;have:=zAo D.one;rw [e] at this;simp at this;omega
  have st:=zJR (two:=D.two.data.toList) h0 (h:=h) (by rw [zAo];exact hh hs) b;simp only [hs,if_true];exact ⟨fun _=>st.1,st.2,zMC b (by rw [zAo];omega) (by rw [zAo];omega)⟩
 ·simp only [hs]
  exact ⟨fun q=>by simp at q,fun r=>by simp,ruleB_le hD.2.1 b⟩
theorem endD_ok{D:zAE}{h:Nat}(hh:zEY D h):zHP D h []=endD D h:=by
 unfold zHP endD
 by_cases hs:D.swap=true
 ·have:=hh hs
  simp only [hs,if_true,List.append_nil];exact zJ7 _ (by rw [← zAo] at this;rw [List.length_take];omega)
 ·simp only [hs,List.flatMap_nil]
  rfl
theorem zNp{D:zAE}(hD:zAi D){h:Nat}:(endD D h).length≤4:=by
 unfold endD
 split
 ·rename_i hs
  have:=hD.1 hs;have:=zAo D.one;simp;omega
 ·simp
theorem zPh{D:zAE}(hD:zAi D):∀(xs:List UInt8) (h:Nat),zEY D h→zEY D (feed D h xs).1∧(∀r,zHP D h (xs++r)=(feed D h xs).2++zHP D (feed D h xs).1 r)∧(feed D h xs).2.length≤12 * xs.length
 |[],h,hh=>⟨hh,fun r=>by simp [feed],by simp [feed]⟩
 |b:: xs,h,hh=>by
  obtain ⟨p1,p2,p3⟩:=zIV hD hh b;obtain ⟨q1,q2,q3⟩:=zPh hD xs _ p1;refine ⟨q1,fun r=> ?_,?_⟩
  ·rw [List.cons_append,p2,q2];simp [feed]
  ·simp only [feed,List.length_append,List.length_cons];omega
theorem zGT(D:zAE):∀(xs ys:List UInt8) (h:Nat),feed D h (xs++ys)=((feed D (feed D h xs).1 ys).1,(feed D h xs).2++(feed D (feed D h xs).1 ys).2)
 |[],ys,h=>by simp [feed]
 |b:: xs,ys,h=>by
  simp only [List.cons_append,feed];rw [zGT D xs ys];simp
def zAX:List zAE→List Nat→List UInt8→List Nat×List UInt8
 |[],hs,xs=>(hs,xs)
 |_:: _,[],_=>([],[])
 |D:: Ds,h:: hs,xs=>((feed D h xs).1:: (zAX Ds hs (feed D h xs).2).1,(zAX Ds hs (feed D h xs).2).2)
def endC:List zAE→List Nat→List UInt8
 |[],_=>[]
 |_:: _,[]=>[]
 |D:: Ds,h:: hs=>(zAX Ds hs (endD D h)).2++endC Ds (zAX Ds hs (endD D h)).1
def zJB:List zAE→List Nat→List UInt8→List UInt8
 |[],_,r=>r
 |_:: _,[],_=>[]
 |D:: Ds,h:: hs,r=>zJB Ds hs (zHP D h r)
def zBU:List zAE→List Nat→Prop
 |[],_=>True
 |_:: _,[]=>False
 |D:: Ds,h:: hs=>zEY D h∧zBU Ds hs
theorem zGZ:∀(Ds:List zAE) (hs:List Nat),Ds.length≤hs.length→zAX Ds hs []=(hs,[])
 |[],hs,_=>rfl
 |D:: Ds,[],h=>by simp at h
 |D:: Ds,h:: hs,hl=>by
  simp only [zAX,feed];rw [zGZ Ds hs (by simp at hl;omega)]
theorem zC9:∀(Ds:List zAE) (hs:List Nat) (xs ys:List UInt8),zAX Ds hs (xs++ys)=((zAX Ds (zAX Ds hs xs).1 ys).1,(zAX Ds hs xs).2++(zAX Ds (zAX Ds hs xs).1 ys).2)
 |[],hs,xs,ys=>by simp [zAX]
 |D:: Ds,[],xs,ys=>by simp [zAX]
 |D:: Ds,h:: hs,xs,ys=>by
  simp only [zAX];rw [zGT];simp only;rw [zC9 Ds hs]
theorem zFD:∀(Ds:List zAE) (hs:List Nat) (xs:List UInt8),(zAX Ds hs xs).1.length=hs.length
 |[],hs,xs=>rfl
 |D:: Ds,[],xs=>rfl
 |D:: Ds,h:: hs,xs=>by simp [zAX,zFD Ds hs]
theorem zDA:∀(Ds:List zAE) (hs:List Nat) (xs:List UInt8),(∀D,D∈Ds→zAi D)→zBU Ds hs→zBU Ds (zAX Ds hs xs).1∧(∀r,zJB Ds hs (xs++r)=(zAX Ds hs xs).2++zJB Ds (zAX Ds hs xs).1 r)∧(zAX Ds hs xs).2.length≤12 ^ Ds.length * xs.length
 |[],hs,xs,_,_=>⟨trivial,fun r=>rfl,by simp [zAX]⟩
 |D:: Ds,[],xs,_,hh=>hh.elim
 |D:: Ds,h:: hs,xs,hD,hh=>by
  obtain ⟨p1,p2,p3⟩:=zPh (hD D (by simp)) xs h hh.1;obtain ⟨q1,q2,q3⟩:=zDA Ds hs (feed D h xs).2 (fun D' h'=>hD D' (by simp [h'])) hh.2;refine ⟨⟨p1,q1⟩,fun r=> ?_,?_⟩
  ·simp only [zJB,zAX];rw [p2,q2]
  ·simp only [zAX,List.length_cons,Nat.pow_succ]
   rw [Nat.mul_assoc];exact Nat.le_trans q3 (Nat.mul_le_mul_left _ p3)
theorem zPl:∀(Ds:List zAE) (hs:List Nat),(∀D,D∈Ds→zAi D)→zBU Ds hs→zJB Ds hs []=endC Ds hs
 |[],hs,_,_=>rfl
 |D:: Ds,[],_,hh=>hh.elim
 |D:: Ds,h:: hs,hD,hh=>by
  obtain ⟨q1,q2,q3⟩:=zDA Ds hs (endD D h) (fun D' h'=>hD D' (by simp [h'])) hh.2;simp only [zJB,endC];rw [endD_ok hh.1];have:=q2 [];rw [List.append_nil] at this;rw [this,zPl Ds _ (fun D' h'=>hD D' (by simp [h'])) q1]
def zBg(Ds:List zAE)(xs:List UInt8):List UInt8:=Ds.foldl (fun x D=>zPG D x) xs
theorem zH2:∀(Ds:List zAE) (n:Nat) (r:List UInt8),Ds.length≤n→zJB Ds (List.replicate n 0) r=zBg Ds r
 |[],n,r,_=>by cases n <;>rfl
 |D:: Ds,0,r,h=>by simp at h
 |D:: Ds,n+1,r,h=>by
  rw [List.replicate_succ];simp only [zJB,zMw,zBg,List.foldl_cons];exact zH2 Ds n _ (by simp at h;omega)
theorem zEM:∀(Ds:List zAE) (n:Nat),(∀D,D∈Ds→zAi D)→Ds.length≤n→zBU Ds (List.replicate n 0)
 |[],_,_,_=>trivial
 |D:: Ds,0,_,h=>by simp at h
 |D:: Ds,n+1,hD,h=>by
  rw [List.replicate_succ];exact ⟨fun hs=>by have:=(hD D (by simp)).1 hs;omega,zEM Ds n (fun D' h'=>hD D' (by simp [h'])) (by simp at h;omega)⟩
theorem machines(Ds:List zAE)(hD:∀D,D∈Ds→zAi D)(hn:Ds.length≤3)(xs:List UInt8):
  (zAX Ds [0,0,0] xs).2++endC Ds (zAX Ds [0,0,0] xs).1=zBg Ds xs:=by
 have hz:=zEM Ds 3 hD hn;obtain ⟨q1,q2,_⟩:=zDA Ds (List.replicate 3 0) xs hD hz;have:=q2 [];rw [List.append_nil,zH2 Ds 3 xs hn,zPl Ds _ hD q1] at this;exact this.symm
end Go.Proofs.YteobgfbgglfkbaaGreat
