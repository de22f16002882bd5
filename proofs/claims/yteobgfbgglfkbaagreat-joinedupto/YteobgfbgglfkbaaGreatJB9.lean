import Derived.Test.YteobgfbgglfkbaaGreatJB8
namespace Go.Proofs.YteobgfbgglfkbaaGreat
open Go.RowKit
theorem zFj{q1 q2:Bool}{e1 a1 e2 a2:Int}{s:St}(h1:e1≠0)(h2:e2≠0):sayS q1 e1 a1 (sayS q2 e2 a2 s)=sayS q2 e2 a2 (sayS q1 e1 a1 s):=by
 cases q1
 ·rw [zDW,zDW]
 cases q2
 ·rw [zDW,zDW]
 obtain ⟨i,e,a,k⟩:=s;unfold sayS;simp only [true_and]
 by_cases c1:e=0∨a1<a∨(a1=a∧e1<e)
 ·by_cases c2:e=0∨a2<a∨(a2=a∧e2<e)
  ·rw [if_pos c1,if_pos c2]
   simp only
   by_cases d1:e2=0∨a1<a2∨(a1=a2∧e1<e2)
   ·rw [if_pos d1]
    by_cases d2:e1=0∨a2<a1∨(a2=a1∧e2<e1)
    ·exfalso;omega
    ·rw [if_neg d2]
   ·rw [if_neg d1]
    by_cases d2:e1=0∨a2<a1∨(a2=a1∧e2<e1)
    ·rw [if_pos d2]
    ·rw [if_neg d2]
     have h3:e1=e2∧a1=a2:=by omega
     obtain ⟨rfl,rfl⟩:=h3
     try rfl
  ·rw [if_pos c1,if_neg c2]
   simp only;rw [if_pos c1,if_neg (by omega)]
 ·by_cases c2:e=0∨a2<a∨(a2=a∧e2<e)
  ·rw [if_neg c1,if_pos c2]
   simp only;rw [if_neg (by omega)]
  ·rw [if_neg c1,if_neg c2]
   simp only;rw [if_neg c1]
section
variable {q:Bool} {e a:Int}
theorem zEk{S:ByteArray}{lo:Int}{but:ByteArray}{s:St}:zAO S lo but (sayS q e a s)=mapE (sayS q e a) (zAO S lo but s):=by
 unfold zAO;simp only [zBt]
 repeat' split
 all_goals first | rfl | (simp only [mapE,zBn])
theorem zOl{S:ByteArray}{s:St}(he:e≠0):zBz S (sayS q e a s)=mapE (sayS q e a) (zBz S s):=by
 unfold zBz;rw [zEk]
 cases h1:zAO S 33 zAe s with
 |error d=>rfl
 |ok p=>
  obtain ⟨c,s1⟩:=p;simp only [mapE,zBt,zBn]
  split
  ·rw [zEk]
   cases h2:zAO S 33 zAe {s1 with i:=s1.i+1} with
   |error d=>rfl
   |ok p2=>
    obtain ⟨c2,s2⟩:=p2;simp only [mapE];rw [zFj (by omega) he]
  ·rfl
theorem zHq{S:ByteArray}(he:e≠0):∀n (s:St) L,zA6 S n (sayS q e a s) L=mapE (sayS q e a) (zA6 S n s L)
 |0,s,L=>by simp only [zA6,mapE,zBt]
 |n+1,s,L=>by
  simp only [zA6];rw [zOl he]
  cases h1:zBz S s with
  |error d=>rfl
  |ok p=>
   obtain ⟨c,s1⟩:=p;simp only [mapE,zBt]
   split
   ·simp only [zBn]
   ·exact zHq he n s1 (L++[c])
theorem zMC{S:ByteArray}{s:St}(he:e≠0):zA2 S (sayS q e a s)=mapE (sayS q e a) (zA2 S s):=by
 unfold zA2;simp only [zBt]
 split
 ·rw [zBn];exact zHq he _ _ _
 ·rfl
theorem zLw{S:ByteArray}{L:Lang}{s:St}:zAn S L (sayS q e a s)=((zAn S L s).1,sayS q e a (zAn S L s).2):=by
 unfold zAn;simp only [zBt]
 repeat' split
 all_goals first | rfl | (simp only [zBn])
theorem zOY{s:St}{x:Int}:({sayS q e a s with k:=x}:St)=sayS q e a {s with k:=x}:=zKi
theorem zOU{E:St→Except Nat (Lang×St)}{S:ByteArray}{d:Nat}(he:e≠0)(hE:∀s,E (sayS q e a s)=mapE (sayS q e a) (E s))(s:St):zBj E S d (sayS q e a s)=mapE (sayS q e a) (zBj E S d s):=by
 rw [zIN,zIN];simp only [zBt,zJw]
 have e0:({i:=s.i,e:=(sayS q e a s).e,a:=(sayS q e a s).a,k:=s.k+1}:St)=sayS q e a {s with k:=s.k+1}:=by unfold sayS;split <;>rfl
 rw [e0,zFj (by omega) he];generalize sayS (decide (12<s.k+1)) 3 s.i {s with k:=s.k+1}=s1;unfold zDO;simp only [zBt]
 split
 ·simp only [mapE,zBn]
 ·split
  ·rw [zMC he]
   cases zA2 S s1 with
   |error d=>rfl
   |ok p=>rfl
  ·split
   ·unfold zDC
    simp only [zBt];rw [zFj (by omega) he,zBn,hE]
    cases E {(sayS (decide ((4:Int)≤(d:Int))) 3 s1.i s1) with i:=s1.i+1} with
    |error d=>rfl
    |ok p=>
     obtain ⟨L,s3⟩:=p;simp only [mapE,zBt]
     split
     ·simp only [zBn]
     ·rfl
   ·rw [zEk]
    cases zAO S 32 zBM s1 with
    |error d=>rfl
    |ok p=>rfl
theorem zK7{B:St→Except Nat (Lang×St)}{S:ByteArray}(hB:∀s,B (sayS q e a s)=mapE (sayS q e a) (B s)):∀n (s:St) R,rowF B S n (sayS q e a s) R=mapE (sayS q e a) (rowF B S n s R)
 |0,s,R=>by simp only [rowF,mapE,zBt]
 |n+1,s,R=>by
  simp only [rowF,zBt]
  split
  ·rfl
  ·rw [hB]
   cases h1:B s with
   |error d=>rfl
   |ok p=>
    obtain ⟨L,s1⟩:=p;simp only [mapE,zLw];exact zK7 hB n _ _
theorem zLQ{W:St→Except Nat (Lang×St)}{S:ByteArray}(hW:∀s,W (sayS q e a s)=mapE (sayS q e a) (W s)):∀n (s:St) R,altF W S n (sayS q e a s) R=mapE (sayS q e a) (altF W S n s R)
 |0,s,R=>by simp only [altF,mapE,zBt]
 |n+1,s,R=>by
  simp only [altF];rw [hW]
  cases h1:W s with
  |error d=>rfl
  |ok p=>
   obtain ⟨L,s1⟩:=p;simp only [mapE,zBt]
   split
   ·rw [zBn];exact zLQ hW n _ _
   ·rfl
theorem zGq{S:ByteArray}(he:e≠0):∀n d (s:St),zAN S n d (sayS q e a s)=mapE (sayS q e a) (zAN S n d s)
 |0,d,s=>by simp only [zAN,mapE,zBt]
 |n+1,d,s=>by
  simp only [zAN];exact zLQ (fun s=>zK7 (zOU he (zGq he n (d+1))) _ s []) _ s []
theorem zMl{S:ByteArray}{s:St}(he:e≠0):zDj S (sayS q e a s)=mapE (sayS q e a) (zDj S s):=by
 unfold zDj zEM;rw [zOY];exact zGq he _ _ _
theorem zFI{S:ByteArray}{nc:List ByteArray}{s:St}(he:e≠0):zAd S nc (sayS q e a s)=mapE (sayS q e a) (zAd S nc s):=by
 unfold zAd;rw [zGS]
 cases zAx S s with
 |error d=>rfl
 |ok p=>
  obtain ⟨⟨x,p⟩,s1⟩:=p;simp only [mapE];rw [zFj (by omega) he]
def mapS(f:St→St)(r:Except Nat St):Except Nat St:=match r with | .ok s=> .ok (f s) | .error d=> .error d
theorem zEZ{S:ByteArray}{c:Int}{s:St}:zAJ S c (sayS q e a s)=mapS (sayS q e a) (zAJ S c s):=by
 unfold zAJ;simp only [zBt]
 split
 ·simp only [mapS,zBn]
 ·rfl
theorem zND{S:ByteArray}{c:Int}{s:St}:zC8 S c (sayS q e a s)=mapS (sayS q e a) (zC8 S c s):=by
 unfold zC8;simp only [zBt]
 split
 ·simp only [mapS,zBn]
 ·rfl
end
def endR(S:ByteArray)(cnt:Nat)(at1:Int)(A:zAU)(s:St):Except Nat (zAU×St):=
 match zAJ S 59 s with
 |.error d=> .error d
 |.ok s1=> .ok (A,sayS (decide (6≤(cnt:Int))) 3 at1 s1)
theorem zKQ{S:ByteArray}{nc:List ByteArray}{cnt:Nat}{at1:Int}{s:St}:zBG S nc cnt true at1 s=
  match zAd S nc s with
  |.error d=> .error d
  |.ok (i1,s1)=>
   match zAJ S 47 s1 with
   |.error d=> .error d
   |.ok s2=>
    match zDj S s2 with
    |.error d=> .error d
    |.ok (L,s3)=>
     match zC8 S 47 s3 with
     |.error d=> .error d
     |.ok s4=>endR S cnt at1 ⟨true,i1,0,L,s3.k⟩ s4:=by
 unfold zBG;rw [zFI (by omega)]
 cases h1:zAd S nc s with
 |error d=>rfl
 |ok p=>
  obtain ⟨i1,s1⟩:=p;simp only [mapE,if_true];rw [zEZ]
  cases h2:zAJ S 47 s1 with
  |error d=>rfl
  |ok s2=>
   simp only [mapS];rw [zMl (by omega)]
   cases h3:zDj S s2 with
   |error d=>rfl
   |ok p3=>
    obtain ⟨L,s3⟩:=p3;simp only [mapE];rw [zND]
    cases h4:zC8 S 47 s3 with
    |error d=>rfl
    |ok s4=>
     simp only [mapS];rw [zEZ];unfold endR
     cases h5:zAJ S 59 s4 with
     |error d=>rfl
     |ok s5=>simp only [mapS,zJw]
theorem zLf{S:ByteArray}{nc:List ByteArray}{cnt:Nat}{at1:Int}{s:St}:zBG S nc cnt false at1 s=
  match zAd S nc s with
  |.error d=> .error d
  |.ok (i1,s1)=>
   match zAd S nc s1 with
   |.error d=> .error d
   |.ok (i2,s2)=>endR S cnt at1 ⟨false,i1,i2,fun _=>False,0⟩ s2:=by
 unfold zBG;rw [zFI (by omega)]
 cases h1:zAd S nc s with
 |error d=>rfl
 |ok p=>
  obtain ⟨i1,s1⟩:=p;simp only [mapE,Bool.false_eq_true,if_false];rw [zFI (by omega)]
  cases h2:zAd S nc s1 with
  |error d=>rfl
  |ok p2=>
   obtain ⟨i2,s2⟩:=p2;simp only [mapE];rw [zEZ];unfold endR
   cases h5:zAJ S 59 s2 with
   |error d=>rfl
   |ok s5=>rfl
end Go.Proofs.YteobgfbgglfkbaaGreat
namespace Go.Proofs.YteobgfbgglfkbaaGreat
open Go.RowKit
attribute [local go_sem ↓] Go.wp_at_zero Go.wp_at_succ
theorem zLh{w W:World}{lo b:Nat}{S:ByteArray}{F G:Nat→Prop}{a0:Option Addr}{c0:Nat}{v5 v6:Value}{sv:List (zAE×Value)}{cv:List (zAQ×Value)}{av:List (zAU×Value×Value)}{s':St}{R:Except Nat (PolD×St)}{D:zAU}{vc ve:Value}
  (hp:zAz w lo b F v5 v6 (.slice a0 av.length c0) sv cv av) (gW:Ch [b] w W) (hlo:lo≤w.heap.size) (hbl:b<w.heap.size) (hW:RdAt W b S s' v5 v6 (.slice a0 av.length c0)) (hi:s'.i≤S.size)
  (hR:R= .ok (⟨sv.map (fun p=>p.1),cv.map (fun p=>p.1),(av++[(D,vc,ve)]).map (fun p=>p.1)⟩,s')) (hrep:zCd w G vc ve D)
  (hG:∀k,G k→lo≤k∧k<w.heap.size∧k≠b∧v5.ownBlock≠some k∧v6.ownBlock≠some k∧(Value.slice a0 av.length c0).ownBlock≠some k) {k1:Int} (hk:k1=if D.never then 0 else 1):
  ∀(g cap:Nat) (w7:World),w7.ownsRow 0 87 3 (.slice (some ⟨g,0,none⟩) (av.length+1) cap) (av.length+1) (zAt av++[.int .i64 k1,vc,ve])→Ch (Value.slice a0 av.length c0).ownBlock.toList (W.drew.alloc (.cells #[.int .i64 k1,vc,ve] 87)) w7→((Value.slice a0 av.length c0).ownBlock=some g∨g=W.heap.size+1)→g<w7.heap.size→
   zFe w lo b S R (.returned (.tuple #[])) (w7.setCell ⟨b,7,none⟩ (.slice (some ⟨g,0,none⟩) (av.length+1) cap)):=by
 intro g cap w7 own7 gr7 hat7 hlt7;have gA:Ch [] W (W.drew.alloc (.cells #[.int .i64 k1,vc,ve] 87)):=(Ch.drew [] W).trans (Ch.alloc _ _ _)
 have zA:(W.drew.alloc (.cells #[.int .i64 k1,vc,ve] 87)).heap.size=W.heap.size+1:=by
  show (W.heap.push _).size=_;simp
 have zW:=gW.size;have hpW:=hp.keep gW (by simp)
 have nb:b∉(Value.slice a0 av.length c0).ownBlock.toList:=by simp;intro e;exact (hp.ba b e).2.2.1 rfl
 have gD:Ch [b] w7 (w7.setCell ⟨b,7,none⟩ (.slice (some ⟨g,0,none⟩) (av.length+1) cap)):=Ch.setCell _ (by simp) _;have z7:=gr7.size;have h8:=(((hW.keep gA (by simp)).keep gr7 nb).set.2.2.2.2.2.2) (.slice (some ⟨g,0,none⟩) (av.length+1) cap)
 have hz8:(w7.setCell ⟨b,7,none⟩ (.slice (some ⟨g,0,none⟩) (av.length+1) cap)).heap.size=w7.heap.size:=by simp [World.setCell]
 have hgb:g≠b:=by
  rcases hat7 with e | e
  ·exact (hp.ba g e).2.2.1
  ·omega
 refine ⟨?_,Or.inl ⟨s',fun k=>F k∨G k,_,_,_,_,_,_,hR,rfl,h8,?_,hi⟩⟩
 ·refine ((gW.trans (gA.mono (by simp))).belb (by omega) (by simp)).trans ((gr7.belb (by omega) ?_).trans (gD.belb (by omega) (by simp)))
  intro k hk;simp at hk;exact Or.inr (hp.ba k hk).1
 ·refine hpW.addCheck (D:=D) (vr:=(vc,ve)) (H:=W.heap.size+1) (fun k hk=> ?_) (hrep.frame (fun k hk=>gW.block k (hG k hk).2.1 (by have:=hG k hk;simp;omega)) (fun _ h=>h)) ?_ (fun k h1 h2 h3=> ?_) hat7 (by omega) (by omega) (by omega) (by omega) (by omega)
  ·have h1:=hG k hk
   exact ⟨h1.1,by omega,h1.2.2⟩
  ·rw [show zAt [(D,vc,ve)]=[.int .i64 k1,vc,ve] from by rw [hk];rfl]
   exact zAB own7 gD (fun k hk=>by simp [Value.ownBlock] at hk;subst hk;simpa using hgb)
  ·rw [Below.heap_setCell _ _ _ _ (by simpa using h3),gr7.block k (by omega) (by simpa using h2),gA.block k h1 (by simp)]
set_option maxRecDepth 100000 in
set_option maxHeartbeats 6400000 in
theorem zKo{w:World}{lo b:Nat}{S:ByteArray}{s:St}{F G:Nat→Prop}{v5 v6 v7:Value}{sv:List (zAE×Value)}{cv:List (zAQ×Value)}{av:List (zAU×Value×Value)}(h:RdAt w b S s v5 v6 v7)(hS:S.size≤400)(hi:s.i≤S.size)(hp:zAz w lo b F v5 v6 v7 sv cv av)(hlo:lo≤w.heap.size)(hn:av.length≤400)
  {A:zAU} {ca:Option Addr} {cn cc:Nat} {ea:Option Addr} {en ec:Nat} (hrep:zCd w G (.slice ca cn cc) (.slice ea en ec) A) (hG:∀k,G k→lo≤k∧k<w.heap.size∧k≠b∧v5.ownBlock≠some k∧v6.ownBlock≠some k∧v7.ownBlock≠some k) {k1:Int} (hk:k1=if A.never then 0 else 1) (at1:Int)
  {R:Except Nat (PolD×St)} (hRe:∀d,endR S av.length at1 A s= .error d→R= .error d) (hRo:∀q s',endR S av.length at1 A s= .ok (q,s')→R= .ok (⟨sv.map (fun p=>p.1),cv.map (fun p=>p.1),av.map (fun p=>p.1)++[q]⟩,s')):
  Calls Tryz.prog 119 #[.pointer (some ⟨b,0,none⟩),.agg #[.int .i64 k1,.slice ca cn cc,.slice ea en ec],.int .i64 at1] w (zFe w lo b S R):=by
 obtain ⟨a0,c0,rfl⟩:=zAC hp.ra;have hbl:=h.lt;have HE:=hide hRe;have HO:=hide hRo;have HKx:=hide hk;clear hRe hRo hk;have h0:=h.keep (Ch.alloc [] w (.cells #[.int .i64 k1,.slice ca cn cc,.slice ea en ec] 87)) (by simp);have X0:=zAD.new w #[.int .i64 k1,.slice ca cn cc,.slice ea en ec] 87;have g0:=Ch.alloc [b] w (.cells #[.int .i64 k1,.slice ca cn cc,.slice ea en ec] 87);go_enter Tryz.func119,Tryz.ntmps119;go_wp2_with fail;generalize w.alloc (.cells #[.int .i64 k1,.slice ca cn cc,.slice ea en ec] 87)=w0 at *;refine (zBT h0 hS hi (k:=9) (c:=59) (by simp [oneP])).mono ?_;rintro e w1 ⟨g1,⟨s1,hl,rfl,h1,hi1⟩ | ⟨d,hl,hg⟩⟩
 ·have HR1:Hid (R= .ok (⟨sv.map (fun p=>p.1),cv.map (fun p=>p.1),(av++[(A,(.slice ca cn cc:Value),(.slice ea en ec:Value))]).map (fun p=>p.1)⟩,sayS (decide (6≤(av.length:Int))) 3 at1 s1)):=by
   show _=_
   rw [HO.out A (sayS (decide (6≤(av.length:Int))) 3 at1 s1) (by simp only [endR,hl])];simp
  clear hl HE HO;have X1:=X0.keep g1 (by simp;omega);obtain ⟨c0',c1,c2,c3,c4,c5,c6',c7,fz⟩:=h1.facts;go_wp2_with fail;refine (zCl h1 _ 6 _).mono ?_;rintro e W ⟨rfl,h2,g2⟩;clear c0' c1 c2 c3 c4 c5 c6' c7 fz;have GW:=(g0.trans g1).trans g2;have zX:=X0.lt;have z1:=g1.size;have XW:=X1.keep g2 (by simp;omega);have FINAL:=hide (zLh (D:=A) (G:=G) (vc:= .slice ca cn cc) (ve:= .slice ea en ec) (k1:=k1) hp GW hlo hbl h2 (by rw [zBt];exact hi1) HR1.out hrep hG HKx.out);have hpW:=hp.keep GW (by simp);have y0:=XW.cell 0 _ rfl;have y1:=XW.cell 1 _ rfl;have y2:=XW.cell 2 _ rfl;obtain ⟨c0',c1,c2,c3,c4,c5,c6',c7,fz⟩:=h2.facts;have gAl:Ch [] W (W.drew.alloc (.cells #[.int .i64 k1,.slice ca cn cc,.slice ea en ec] 87)):=(Ch.drew [] W).trans (Ch.alloc _ _ _);have OWN:=zAB hpW.ra gAl (by simp);have hAl:=h2.keep gAl (by simp);have bal:=(h2.keep (Ch.alloc [] W (.cells #[.int .i64 k1,.slice ca cn cc,.slice ea en ec] 87)) (by simp)).facts.2.2.2.2.2.2.2.1;have NEW:(W.drew.alloc (.cells #[.int .i64 k1,.slice ca cn cc,.slice ea en ec] 87)).heap[W.heap.size]? =some (.cells [.int .i64 k1,.slice ca cn cc,.slice ea en ec].toArray 87):=zAH W.drew _
  have ZN:(W.drew.alloc (.cells #[.int .i64 k1,.slice ca cn cc,.slice ea en ec] 87)).heap.size=W.heap.size+1:=by show (W.heap.push _).size=_;simp
  have NDD:Hid (b∉(Value.slice a0 av.length c0).ownBlock.toList):=by show ¬_;simp;intro e;exact (hp.ba b e).2.2.1 rfl
  clear hpW XW X1 c1 c2 c3 c4;go_wp2_with fail
  go_region_law ((refine zBb 63 87 3 56 (.agg #[.int .i64 0,.slice none 0 0,.slice none 0 0]) Tryz.underlying63 zLu rfl (by omega) (by omega) (by rfl) _ _ (by rfl) (.slice a0 av.length c0) av.length (zAt av) (by rfl) OWN W.heap.size [.int .i64 k1,.slice ca cn cc,.slice ea en ec] (by rfl) NEW rfl (by intro u hu;simp at hu;rcases hu with rfl | rfl | rfl <;>rfl) (by omega) (W.heap.size+1) ZN ?_;intro g cap w7 own7 gr7 hat7 hlt7;have B7:=hAl.keep gr7 NDD.out;have b70:=B7.facts.2.2.2.2.2.2.2.1;have b7f:=B7.facts.2.2.2.2.2.2.2.2))
  all_goals
   go_wp2_with fail
   go_end0
   exact FINAL.out _ _ _ own7 gr7 hat7 hlt7
 ·have HR1:Hid (R= .error d):=HE.out d (by simp only [endR,hl])
  clear hl;obtain ⟨rfl,ht⟩:=hg;exact zAF rfl ⟨(g0.trans g1).belb (by omega) (by simp),Or.inr ⟨d,HR1.out,⟨rfl,ht⟩⟩⟩
theorem zGJ{S:ByteArray}{x:ByteArray}{at1:Int}{sv:List (zAE×Value)}{cv:List (zAQ×Value)}{av:List (zAU×Value×Value)}{s:St}(h1:¬zBH x zCf=true)(h2:¬zBH x zCm=true):
  zBP S x at1 ⟨sv.map (fun p=>p.1),cv.map (fun p=>p.1),av.map (fun p=>p.1)⟩ s=match zBG S (cv.map fun p=>p.1.name) av.length (zBH x zCL) at1 s with | .error d=> .error d | .ok (q,s2)=> .ok (⟨sv.map (fun p=>p.1),cv.map (fun p=>p.1),av.map (fun p=>p.1)++[q]⟩,s2):=by
 unfold zBP;rw [if_neg h1,if_neg h2];simp only [zED,List.length_map]
 cases zBG S (cv.map fun p=>p.1.name) av.length (zBH x zCL) at1 s with
 |error d=>rfl
 |ok p=>rfl
theorem zIg(w:World)(F:Nat→Prop)(i1 i2:Int)(hF:F w.heap.size):zA7 (w.alloc (.cells #[.int .i64 i1,.int .i64 i2] 3)) F (.slice (some ⟨w.heap.size,0,none⟩) 2 2) [i1,i2]:=
 ⟨fun g hg=>by simp [Value.ownBlock] at hg;subst hg;exact hF,⟨rfl,Or.inr ⟨w.heap.size,2,#[.int .i64 i1,.int .i64 i2],rfl,Nat.zero_le _,zAH _ _,Nat.le_refl _,by decide,rfl,rfl⟩⟩⟩
theorem zJD(w:World)(F:Nat→Prop)(i1:Int)(hF:F w.heap.size):zA7 (w.alloc (.cells #[.int .i64 i1] 3)) F (.slice (some ⟨w.heap.size,0,none⟩) 1 1) [i1]:=
 ⟨fun g hg=>by simp [Value.ownBlock] at hg;subst hg;exact hF,⟨rfl,Or.inr ⟨w.heap.size,1,#[.int .i64 i1],rfl,Nat.zero_le _,zAH _ _,Nat.le_refl _,by decide,rfl,rfl⟩⟩⟩
theorem zFe.early{w W w':World}{lo b:Nat}{S:ByteArray}{R:Except Nat (PolD×St)}{e:Ending}(g:BelB lo b w W)(h:zFe W lo b S R e w'):zFe w lo b S R e w':=⟨g.trans h.1,h.2⟩
set_option maxRecDepth 100000 in
set_option maxHeartbeats 6400000 in
theorem zNh{w:World}{lo b:Nat}{S:ByteArray}{s:St}{F:Nat→Prop}{v5 v6 v7:Value}{sv:List (zAE×Value)}{cv:List (zAQ×Value)}{av:List (zAU×Value×Value)}(h:RdAt w b S s v5 v6 v7)(hS:S.size≤400)(hi:s.i≤S.size)(hp:zAz w lo b F v5 v6 v7 sv cv av)(hlo:lo≤w.heap.size)(hc:cv.length≤400)(hn:av.length≤400):
  Calls Tryz.prog 79 #[.pointer (some ⟨b,0,none⟩)] w (zFe w lo b S (topR S zE3 ⟨sv.map (fun p=>p.1),cv.map (fun p=>p.1),av.map (fun p=>p.1)⟩ s)):=by
 have hbl:=h.lt;generalize hR0:topR S zE3 ⟨sv.map (fun p=>p.1),cv.map (fun p=>p.1),av.map (fun p=>p.1)⟩ s=R;have HR0:=hide hR0;clear hR0;go_enter Tryz.func79,Tryz.ntmps79;go_wp2_with fail;refine (zB3 h hS hi (k:=19) (W:=zE3) (by omega) rfl).mono ?_;rintro e w1 ⟨g1,⟨x1,p1,s1,hl1,rfl,h1,hi1⟩ | ⟨d,hl,hg⟩⟩
 ·have HR1:Hid (∀r,zBG S (cv.map fun p=>p.1.name) av.length false p1 s1=r→(∀d,r= .error d→R= .error d)∧(∀q s',r= .ok (q,s')→R= .ok (⟨sv.map (fun p=>p.1),cv.map (fun p=>p.1),av.map (fun p=>p.1)++[q]⟩,s'))):=by
   intro r hr
   have e0:R=zBP S zE3 p1 ⟨sv.map (fun p=>p.1),cv.map (fun p=>p.1),av.map (fun p=>p.1)⟩ s1:=by rw [← HR0.out];simp only [topR,hl1]
   rw [zGJ (by decide) (by decide),show zBH zE3 zCL=false from by decide,hr] at e0;refine ⟨fun d e=> ?_,fun q s' e=> ?_⟩
   ·subst e;exact e0
   ·subst e;exact e0
  rw [zLf] at HR1;clear hl1;have hp1:=hp.keep g1 (by simp);go_wp2_with fail;refine (zDK h1 hS hi1 hp1 (by omega)).mono ?_;rintro e w2 ⟨g2,⟨i1,s2,v,hl2,rfl,hv,h2⟩ | ⟨d,hl,hg⟩⟩
  ·unfold zJ3 at hv
   subst hv;have lo2:=zEE hi1 hl2;rw [hl2] at HR1;clear hl2;simp only at HR1;have hp2:=hp1.keep g2 (by simp);go_wp2_with fail;refine (zDK h2 hS lo2.2 hp2 (by omega)).mono ?_;rintro e w3 ⟨g3,⟨i2,s3,v,hl3,rfl,hv,h3⟩ | ⟨d,hl,hg⟩⟩
   ·unfold zJ3 at hv
    subst hv;have lo3:=zEE lo2.2 hl3;rw [hl3] at HR1;clear hl3;simp only at HR1;have G3:=(g1.trans g2).trans g3;have z3:=G3.size;have hp3:=hp2.keep g3 (by simp);have h4:=h3.keep (Ch.alloc [] w3 (.cells #[.int .i64 i1,.int .i64 i2] 3)) (by simp);have hp4:=hp3.keep (Ch.alloc [b] w3 (.cells #[.int .i64 i1,.int .i64 i2] 3)) (by simp);have G4:=G3.trans (Ch.alloc [b] w3 (.cells #[.int .i64 i1,.int .i64 i2] 3));have C4:=zIg w3 (fun k=>k=w3.heap.size) i1 i2 rfl
    have z4:(w3.alloc (.cells #[.int .i64 i1,.int .i64 i2] 3)).heap.size=w3.heap.size+1:=by simp
    go_wp2_with fail;generalize w3.alloc (.cells #[.int .i64 i1,.int .i64 i2] 3)=w4 at *;refine (zKo (G:=fun k=>k=w3.heap.size) (A:=⟨false,i1,i2,fun _=>False,0⟩) h4 hS lo3.2 hp4 (by have:=G4.size;omega) hn (Or.inr ⟨rfl,C4,rfl⟩) ?_ rfl (p1:Int) (fun d e=>(HR1.out _ e).1 _ rfl) (fun q s' e=>(HR1.out _ e).2 _ _ rfl)).mono ?_
    ·intro k hk
     subst hk;refine ⟨by omega,by omega,by omega,fun e=> ?_,fun e=> ?_,fun e=> ?_⟩
     ·have:=hp3.bs _ e;omega
     ·have:=hp3.bc _ e;omega
     ·have:=hp3.ba _ e;omega
    ·rintro e w5 hT
     have hT':=hT.early (G4.belb (by omega) (by simp))
     rcases hT' with ⟨hB,⟨s',F',u5,u6,u7,sv',cv',av',hr,rfl,hrest⟩ | ⟨d,hr,hg⟩⟩
     ·go_wp2_with fail
      go_end0
      exact ⟨hB,Or.inl ⟨s',F',u5,u6,u7,sv',cv',av',hr,rfl,hrest⟩⟩
     ·obtain ⟨rfl,ht⟩:=hg
      exact zAF rfl ⟨hB,Or.inr ⟨d,hr,⟨rfl,ht⟩⟩⟩
   ·rw [hl] at HR1
    have HR3:=hide ((HR1.out _ rfl).1 _ rfl);clear hl HR1;obtain ⟨rfl,ht⟩:=hg;exact zAF rfl ⟨((g1.trans g2).trans g3).belb (by omega) (by simp),Or.inr ⟨d,HR3.out,⟨rfl,ht⟩⟩⟩
  ·rw [hl] at HR1
   have HR3:=hide ((HR1.out _ rfl).1 _ rfl);clear hl HR1;obtain ⟨rfl,ht⟩:=hg;exact zAF rfl ⟨(g1.trans g2).belb (by omega) (by simp),Or.inr ⟨d,HR3.out,⟨rfl,ht⟩⟩⟩
 ·have HR:Hid (R= .error d):=by show _=_;rw [← HR0.out];simp only [topR,hl]
  clear hl;obtain ⟨rfl,ht⟩:=hg;exact zAF rfl ⟨g1.belb (by omega) (by simp),Or.inr ⟨d,HR.out,⟨rfl,ht⟩⟩⟩
set_option maxRecDepth 100000 in
set_option maxHeartbeats 6400000 in
theorem zLo{w:World}{lo b:Nat}{S:ByteArray}{s:St}{F:Nat→Prop}{v5 v6 v7:Value}{sv:List (zAE×Value)}{cv:List (zAQ×Value)}{av:List (zAU×Value×Value)}(h:RdAt w b S s v5 v6 v7)(hS:S.size≤400)(hi:s.i≤S.size)(hp:zAz w lo b F v5 v6 v7 sv cv av)(hlo:lo≤w.heap.size)(hc:cv.length≤400)(hn:av.length≤400):
  Calls Tryz.prog 78 #[.pointer (some ⟨b,0,none⟩)] w (zFe w lo b S (topR S zCL ⟨sv.map (fun p=>p.1),cv.map (fun p=>p.1),av.map (fun p=>p.1)⟩ s)):=by
 have hbl:=h.lt;generalize hR0:topR S zCL ⟨sv.map (fun p=>p.1),cv.map (fun p=>p.1),av.map (fun p=>p.1)⟩ s=R;have HR0:=hide hR0;clear hR0;go_enter Tryz.func78,Tryz.ntmps78;go_wp2_with fail;refine (zB3 h hS hi (k:=18) (W:=zCL) (by omega) rfl).mono ?_;rintro e w1 ⟨g1,⟨x1,p1,s1,hl1,rfl,h1,hi1⟩ | ⟨d,hl,hg⟩⟩
 ·have HR1:Hid (∀r,zBG S (cv.map fun p=>p.1.name) av.length true p1 s1=r→(∀d,r= .error d→R= .error d)∧(∀q s',r= .ok (q,s')→R= .ok (⟨sv.map (fun p=>p.1),cv.map (fun p=>p.1),av.map (fun p=>p.1)++[q]⟩,s'))):=by
   intro r hr
   have e0:R=zBP S zCL p1 ⟨sv.map (fun p=>p.1),cv.map (fun p=>p.1),av.map (fun p=>p.1)⟩ s1:=by rw [← HR0.out];simp only [topR,hl1]
   rw [zGJ (by decide) (by decide),show zBH zCL zCL=true from by decide,hr] at e0;refine ⟨fun d e=> ?_,fun q s' e=> ?_⟩
   ·subst e;exact e0
   ·subst e;exact e0
  rw [zKQ] at HR1;clear hl1;have hp1:=hp.keep g1 (by simp);go_wp2_with fail;refine (zDK h1 hS hi1 hp1 (by omega)).mono ?_;rintro e w2 ⟨g2,⟨i1,s2,v,hl2,rfl,hv,h2⟩ | ⟨d,hl,hg⟩⟩
  ·unfold zJ3 at hv
   subst hv;have lo2:=zEE hi1 hl2;rw [hl2] at HR1;clear hl2;simp only at HR1;have hp2:=hp1.keep g2 (by simp);have G2:=g1.trans g2;have z2:=G2.size;have hbl2:=h2.lt;have h3:=(h2.keep (Ch.alloc [] w2 (.cells #[.int .i64 i1] 3)) (by simp)).keep (Ch.alloc [] (w2.alloc (.cells #[.int .i64 i1] 3)) (.cells #[.int .i64 0,.slice (some ⟨w2.heap.size,0,none⟩) 1 1,.slice none 0 0] 87)) (by simp);have C3:=(zJD w2 (fun k=>k=w2.heap.size) i1 rfl).frame (w':=(w2.alloc (.cells #[.int .i64 i1] 3)).alloc (.cells #[.int .i64 0,.slice (some ⟨w2.heap.size,0,none⟩) 1 1,.slice none 0 0] 87)) (G:=fun k=>k=w2.heap.size) (fun k hk=>(Ch.alloc [] _ _).block k (by subst hk;simp) (by simp)) (fun _ h=>h);have X3:=zAD.new (w2.alloc (.cells #[.int .i64 i1] 3)) #[.int .i64 0,.slice (some ⟨w2.heap.size,0,none⟩) 1 1,.slice none 0 0] 87;have G3:=(G2.trans (Ch.alloc [b] w2 (.cells #[.int .i64 i1] 3))).trans (Ch.alloc [b] (w2.alloc (.cells #[.int .i64 i1] 3)) (.cells #[.int .i64 0,.slice (some ⟨w2.heap.size,0,none⟩) 1 1,.slice none 0 0] 87));rw [show (w2.alloc (.cells #[.int .i64 i1] 3)).heap.size=w2.heap.size+1 from by simp] at X3;go_wp2_with fail;generalize (w2.alloc (.cells #[.int .i64 i1] 3)).alloc (.cells #[.int .i64 0,.slice (some ⟨w2.heap.size,0,none⟩) 1 1,.slice none 0 0] 87)=w3 at *;have zX3:=X3.lt;refine (zBT h3 hS lo2.2 (k:=5) (c:=47) (by simp [oneP])).mono ?_;rintro e w4 ⟨g4,⟨s4,hl4,rfl,h4,hi4⟩ | ⟨d,hl,hg⟩⟩
   ·rw [hl4] at HR1
    clear hl4;simp only at HR1;have X4:=X3.keep g4 (by simp;omega);have C4:=C3.frame (w':=w4) (G:=fun k=>k=w2.heap.size) (fun k hk=>g4.block k (by omega) (by simp;omega)) (fun _ h=>h);have G4:=G3.trans g4;have z4:=g4.size;obtain ⟨c0',c1,c2,c3,c4,c5,c6',c7,fz⟩:=h4.facts;go_wp2_with fail;have h5:RdAt (w4.setCell ⟨b,4,none⟩ (.int .i64 0)) b S (zEM s4) v5 v6 v7:=h4.set.2.2.2.1 0;have g5:Ch [b] w4 (w4.setCell ⟨b,4,none⟩ (.int .i64 0)):=Ch.setCell _ (by simp) _;have X5:=X4.keep g5 (by simp;omega);have C5:=C4.frame (w':=w4.setCell ⟨b,4,none⟩ (.int .i64 0)) (G:=fun k=>k=w2.heap.size) (fun k hk=>g5.block k (by omega) (by simp;omega)) (fun _ h=>h);have G5:=G4.trans g5;have z5:=g5.size;clear c0' c1 c2 c3 c4 c5 c6' c7 fz;generalize w4.setCell ⟨b,4,none⟩ (.int .i64 0)=w5 at *;refine (zIt hS (S.size+1) w5 b (zEM s4) 0 v5 v6 v7 h5 ⟨hi4,Int.le_refl _,by show (0:Int)≤_;omega,Nat.zero_le _⟩ (by omega)).mono ?_;rintro e w6 ⟨g6,hpost⟩;have HX:Hid (zDj S s4=zAN S (S.size+1) 0 (zEM s4)):=rfl
    rcases hpost with ⟨L,s6,v,FE,N,hr6,rfl,⟨⟨ea,en,ec,rfl⟩,hh,hRE⟩,hFE,h6,hk6,hi6,hi6',hki6⟩ | ⟨d,hr6,hg⟩ | ⟨s6,v,hr6,rfl,⟨ea,en,ec,rfl⟩,h6,hi6,hst,hi6'⟩
    ·rw [HX.out,hr6] at HR1
     clear hr6 HX;simp only at HR1;have X6:=X5.keep g6 (by simp;omega);have C6:=C5.frame (w':=w6) (G:=fun k=>k=w2.heap.size) (fun k hk=>g6.block k (by omega) (by simp;omega)) (fun _ h=>h);have G6:=G5.trans g6;have z6:=g6.size;have y0:=X6.cell 0 _ rfl;have y1:=X6.cell 1 _ rfl;have y2:=X6.cell 2 _ rfl;have fy:=X6.frozen;go_wp2_with fail;have X7:zAD (w6.setCell ⟨w2.heap.size+1,2,none⟩ (.slice ea en ec)) (w2.heap.size+1) #[.int .i64 0,.slice (some ⟨w2.heap.size,0,none⟩) 1 1,.slice ea en ec] 87:=X6.set 2 _;have g7:Ch [w2.heap.size+1] w6 (w6.setCell ⟨w2.heap.size+1,2,none⟩ (.slice ea en ec)):=Ch.setCell _ (by simp) _;have h7:=h6.keep g7 (by simp;omega);have C7:=C6.frame (w':=w6.setCell ⟨w2.heap.size+1,2,none⟩ (.slice ea en ec)) (G:=fun k=>k=w2.heap.size∨FE k) (fun k hk=>g7.block k (by omega) (by simp;omega)) (fun _ h=>Or.inl h);have E7:=zAS.frame (w':=w6.setCell ⟨w2.heap.size+1,2,none⟩ (.slice ea en ec)) (G:=fun k=>k=w2.heap.size∨FE k) (fun k hk=>g7.block k (hFE k hk).2 (by have:=hFE k hk;simp;omega)) (fun _ h=>Or.inr h) _ _ _ _ hRE;have G7:=G6.trans' g7 (by intro k hk;simp at hk;omega);have z7:=g7.size;clear y0 y1 y2 fy;generalize w6.setCell ⟨w2.heap.size+1,2,none⟩ (.slice ea en ec)=w7 at *
     by_cases hb:bt S s6.i=47
     ·have hm:zC8 S 47 s6= .ok {s6 with i:=s6.i+1}:=by simp only [zC8,if_pos hb]
      rw [hm] at HR1;clear hm;simp only at HR1;have hlt:=zAy (S:=S) (i:=s6.i) (by omega);refine (zBB h7 hS 47 (by decide) hb).mono ?_;rintro e w8 ⟨rfl,h8,g8⟩;clear hb;have X8:=X7.keep g8 (by simp;omega)
      have hk8:∀k,(k=w2.heap.size∨FE k)→k<w7.heap.size∧k≠b:=by
       intro k hk
       rcases hk with hk | hk
       ·omega
       ·have:=hFE k hk;omega
      have C8:=C7.frame (w':=w8) (G:=fun k=>k=w2.heap.size∨FE k) (fun k hk=>g8.block k (hk8 k hk).1 (by have:=(hk8 k hk).2;simpa using this)) (fun _ h=>h);have E8:=zAS.frame (w':=w8) (G:=fun k=>k=w2.heap.size∨FE k) (fun k hk=>g8.block k (hk8 k hk).1 (by have:=(hk8 k hk).2;simpa using this)) (fun _ h=>h) _ _ _ _ E7;have G8:=G7.trans g8;have z8:=g8.size;have hp8:=hp.keep G8 (by simp);have y0:=X8.cell 0 _ rfl;have y1:=X8.cell 1 _ rfl;have y2:=X8.cell 2 _ rfl;go_wp2_with fail;refine (zKo (G:=fun k=>k=w2.heap.size∨FE k) (A:=⟨true,i1,0,L,s6.k⟩) h8 hS hlt hp8 (by have:=G8.size;omega) hn (Or.inl ⟨rfl,C8,⟨ea,en,ec,rfl⟩,hh,N,E8,by rw [hk6];simp [zEM]⟩) ?_ rfl (p1:Int) (fun d e=>(HR1.out _ e).1 _ rfl) (fun q s' e=>(HR1.out _ e).2 _ _ rfl)).mono ?_
      ·intro k hk
       have hk':w.heap.size≤k∧k<w8.heap.size:=by
        rcases hk with hk | hk
        ·omega
        ·have:=hFE k hk;omega
       refine ⟨by omega,by omega,by omega,fun e=> ?_,fun e=> ?_,fun e=> ?_⟩
       ·have:=hp.bs _ e;omega
       ·have:=hp.bc _ e;omega
       ·have:=hp.ba _ e;omega
      ·rintro e w9 hT
       have hT':=hT.early (G8.belb (by omega) (by simp))
       rcases hT' with ⟨hB,⟨s',F',u5,u6,u7,sv',cv',av',hr,rfl,hrest⟩ | ⟨d,hr,hg⟩⟩
       ·go_wp2_with fail
        go_end0
        exact ⟨hB,Or.inl ⟨s',F',u5,u6,u7,sv',cv',av',hr,rfl,hrest⟩⟩
       ·obtain ⟨rfl,ht⟩:=hg
        exact zAF rfl ⟨hB,Or.inr ⟨d,hr,⟨rfl,ht⟩⟩⟩
     ·have hm:zC8 S 47 s6= .error s6.i:=by simp only [zC8,if_neg hb]
      rw [hm] at HR1;have HR8:=hide ((HR1.out _ rfl).1 _ rfl);clear hm HR1;refine (zA3 h7 hS hi6' 47 hb).mono ?_;rintro e w8 ⟨rfl,h8,g8⟩;clear hb;go_wp2_with fail;refine (zA5 h8).mono ?_;rintro e w9 ⟨hg,g9⟩;obtain ⟨rfl,ht⟩:=hg;exact zAF rfl ⟨((G7.trans g8).trans g9).belb (by omega) (by simp),Or.inr ⟨_,HR8.out,⟨rfl,ht⟩⟩⟩
    ·rw [HX.out,hr6] at HR1
     have HR8:=hide ((HR1.out _ rfl).1 _ rfl);clear hr6 HR1;obtain ⟨rfl,ht⟩:=hg;exact zAF rfl ⟨(G5.trans g6).belb (by omega) (by simp),Or.inr ⟨_,HR8.out,⟨rfl,ht⟩⟩⟩
    ·rw [HX.out,hr6] at HR1
     have HR8:=hide ((HR1.out _ rfl).1 _ rfl);clear hr6 HR1;have X6:=X5.keep g6 (by simp;omega);have G6:=G5.trans g6;have y0:=X6.cell 0 _ rfl;have y1:=X6.cell 1 _ rfl;have y2:=X6.cell 2 _ rfl;have fy:=X6.frozen;go_wp2_with fail;have g7:Ch [w2.heap.size+1] w6 (w6.setCell ⟨w2.heap.size+1,2,none⟩ (.slice ea en ec)):=Ch.setCell _ (by simp) _;have h7:=h6.keep g7 (by simp;omega);have G7:=G6.trans' g7 (by intro k hk;simp at hk;omega);clear y0 y1 y2 fy;generalize w6.setCell ⟨w2.heap.size+1,2,none⟩ (.slice ea en ec)=w7 at *
     have hb:¬bt S s6.i=47:=by intro e;rw [e] at hst;exact absurd hst (by decide)
     refine (zA3 h7 hS (by omega) 47 hb).mono ?_;rintro e w8 ⟨rfl,h8,g8⟩;clear hb;go_wp2_with fail;refine (zA5 h8).mono ?_;rintro e w9 ⟨hg,g9⟩;obtain ⟨rfl,ht⟩:=hg;exact zAF rfl ⟨((G7.trans g8).trans g9).belb (by omega) (by simp),Or.inr ⟨_,HR8.out,⟨rfl,ht⟩⟩⟩
   ·rw [hl] at HR1
    have HR3:=hide ((HR1.out _ rfl).1 _ rfl);clear hl HR1;obtain ⟨rfl,ht⟩:=hg;exact zAF rfl ⟨(G3.trans g4).belb (by omega) (by simp),Or.inr ⟨d,HR3.out,⟨rfl,ht⟩⟩⟩
  ·rw [hl] at HR1
   have HR3:=hide ((HR1.out _ rfl).1 _ rfl);clear hl HR1;obtain ⟨rfl,ht⟩:=hg;exact zAF rfl ⟨(g1.trans g2).belb (by omega) (by simp),Or.inr ⟨d,HR3.out,⟨rfl,ht⟩⟩⟩
 ·have HR:Hid (R= .error d):=by show _=_;rw [← HR0.out];simp only [topR,hl]
  clear hl;obtain ⟨rfl,ht⟩:=hg;exact zAF rfl ⟨g1.belb (by omega) (by simp),Or.inr ⟨d,HR.out,⟨rfl,ht⟩⟩⟩
end Go.Proofs.YteobgfbgglfkbaaGreat
namespace Go.Proofs.YteobgfbgglfkbaaGreat
open Go.RowKit
attribute [local go_sem ↓] Go.wp_at_zero Go.wp_at_succ
theorem main_end{S:ByteArray}{s:St}{m:Nat}{D:PolD}(h:run isBl S s.i=S.size):zB7 S (m+1) (s.skip S) D= .ok (D,s.skip S):=by
 unfold zB7;rw [if_neg (by rw [zAk];omega)]
theorem zMn{S:ByteArray}{s:St}{W:ByteArray}{Ls:List ByteArray}(h:S.extract (run isBl S s.i) (run isSm S (run isBl S s.i))=W)(hW:W∈Ls):zBF S Ls (s.skip S)= .ok ((W,run isBl S s.i),{s with i:=run isSm S (run isBl S s.i)}):=by
 unfold zBF;simp only [zAk,zBv,h];rw [if_pos (zBY.2 hW)]
 try rfl
theorem zE2{S:ByteArray}{s:St}{m:Nat}{D:PolD}{k:Int}{W:ByteArray}(hi:s.i≤S.size)(hk:10≤k)(hW:zBQ W=k)(hM:W∈zEC)(hs:zAM S (run isBl S s.i)=k):
  zB7 S (m+1) (s.skip S) D=match topR S W D (s.skip S) with | .error d=> .error d | .ok (D',s2)=>zB7 S m (s2.skip S) D':=by
 have l1:=zAW isBl S s.i hi;have hx:=(zBa l1.2 hk hW).1 hs
 have hne:¬run isBl S s.i=S.size:=by
  intro e;rw [e] at hs;simp [zAM] at hs;omega
 conv=>lhs;rw [zB7]
 rw [if_pos (by rw [zAk];omega),zMn hx hM];unfold topR;rw [zMn hx (by simp)];simp only
 cases zBP S W (run isBl S s.i:Nat) D {s with i:=run isSm S (run isBl S s.i)} with
 |error d=>rfl
 |ok p=>rfl
theorem zOI{S:ByteArray}{s:St}{m:Nat}{D:PolD}(hi:s.i≤S.size)(h0:¬zAM S (run isBl S s.i)=0)(h1:¬zAM S (run isBl S s.i)=10)(h2:¬zAM S (run isBl S s.i)=17)(h3:¬zAM S (run isBl S s.i)=18)(h4:¬zAM S (run isBl S s.i)=19):
  zB7 S (m+1) (s.skip S) D= .error (run isBl S s.i):=by
 have l1:=zAW isBl S s.i hi
 have hne:¬run isBl S s.i=S.size:=by
  intro e;apply h0;simp [zAM,e]
 unfold zB7;rw [if_pos (by rw [zAk];omega)]
 have:¬anyB zEC (S.extract (run isBl S s.i) (run isSm S (run isBl S s.i)))=true:=by
  rw [zBY];intro e;simp only [zEC,List.mem_cons,List.not_mem_nil,or_false] at e
  rcases e with e | e | e | e
  ·exact h1 ((zBa l1.2 (k:=10) (by omega) rfl).2 e)
  ·exact h2 ((zBa l1.2 (k:=17) (by omega) rfl).2 e)
  ·exact h3 ((zBa l1.2 (k:=18) (by omega) rfl).2 e)
  ·exact h4 ((zBa l1.2 (k:=19) (by omega) rfl).2 e)
 have hw:zBF S zEC (s.skip S)= .error (run isBl S s.i):=by
  unfold zBF;simp only [zAk,zBv];rw [if_neg this]
 rw [hw]
theorem zOJ{S:ByteArray}{I:Nat}(hI:I≤S.size)(h:zAM S I=0):I=S.size:=by
 rcases Nat.lt_or_ge I S.size with hlt | hge
 ·exfalso
  unfold zAM at h;rw [if_neg (by omega)] at h
  split at h
  ·unfold zFf at h
   repeat' split at h
   all_goals omega
  ·have c:=zDQ (S.extract I (run isSm S I))
   have d1:∀n:Nat,1≤(if 8<n then (1:Int) else 2):=by intro n;split <;>omega
   have d2:=d1 (S.extract I (run isSm S I)).size;omega
 ·omega
theorem zNx{S:ByteArray}{x:ByteArray}{at1:Int}{D D':PolD}{s s':St}(hi:s.i≤S.size)(h:zBP S x at1 D s= .ok (D',s')):s.i≤s'.i∧s'.i≤S.size∧D'.scrubs.length≤D.scrubs.length+1∧D'.chains.length≤D.chains.length+1∧D'.asked.length≤D.asked.length+1:=by
 unfold zBP at h
 split at h
 ·cases hs:zB0 S (D.scrubs.map (·.name)) (D.chains.map (·.name)) at1 s with
  |error d=>rw [hs] at h;cases h
  |ok p=>
   obtain ⟨q,s2⟩:=p;rw [hs] at h
   injection h with h;injection h with e1 e2;subst e1 e2
   have:=zIX hi hs;exact ⟨this.1,this.2,by simp,by simp,by simp⟩
 ·split at h
  ·cases hs:zBm S (D.scrubs.map (·.name)) (D.chains.map (·.name)) at1 s with
   |error d=>rw [hs] at h;cases h
   |ok p=>
    obtain ⟨q,s2⟩:=p;rw [hs] at h
    injection h with h;injection h with e1 e2;subst e1 e2
    have:=zI7 hi hs;exact ⟨this.1,this.2,by simp,by simp,by simp⟩
  ·cases hs:zBG S (D.chains.map (·.name)) D.asked.length (zBH x zCL) at1 s with
   |error d=>rw [hs] at h;cases h
   |ok p=>
    obtain ⟨q,s2⟩:=p;rw [hs] at h
    injection h with h;injection h with e1 e2;subst e1 e2
    have:=zF7 hi hs;exact ⟨this.1,this.2,by simp,by simp,by simp⟩
theorem zIQ{S:ByteArray}{W:ByteArray}{D D':PolD}{s s':St}(hi:s.i≤S.size)(hW:0<W.size)(h:topR S W D s= .ok (D',s')):s.i<s'.i∧s'.i≤S.size∧D'.scrubs.length≤D.scrubs.length+1∧D'.chains.length≤D.chains.length+1∧D'.asked.length≤D.asked.length+1:=by
 unfold topR at h
 cases hw:zBF S [W] s with
 |error d=>rw [hw] at h;cases h
 |ok p=>
  obtain ⟨⟨x,p⟩,s1⟩:=p;rw [hw] at h;simp only at h;unfold zBF at hw;simp only at hw
  split at hw
  ·rename_i hh
   injection hw with hw;injection hw with e1 e2;subst e2
   have hx:S.extract (run isBl S s.i) (run isSm S (run isBl S s.i))=W:=by have:=zBY.1 hh;simpa using this
   have l1:=zAW isBl S s.i hi;have l2:=zAW isSm S (run isBl S s.i) l1.2
   have hsz:W.size=run isSm S (run isBl S s.i) - run isBl S s.i:=by rw [← hx];simp;omega
   have:=zNx (by simp only;exact l2.2) h;simp only at this;refine ⟨by omega,this.2⟩
  ·cases hw
def PolLoop(S:ByteArray)(w:World)(lo b:Nat)(r:Except Nat (PolD×St))(w5:World):Prop:=
 BelB lo b w w5∧∃(s5:St) (F:Nat→Prop) (v5 v6 v7:Value) (sv:List (zAE×Value)) (cv:List (zAQ×Value)) (av:List (zAU×Value×Value)) (m:Nat),RdAt w5 b S s5 v5 v6 v7∧s5.i≤S.size∧zAz w5 lo b F v5 v6 v7 sv cv av∧sv.length≤s5.i∧cv.length≤s5.i∧av.length≤s5.i∧S.size<m+s5.i∧
  r=zB7 S m (s5.skip S) ⟨sv.map (fun p=>p.1),cv.map (fun p=>p.1),av.map (fun p=>p.1)⟩
set_option maxRecDepth 100000 in
set_option maxHeartbeats 6400000 in
theorem zKI{w:World}{lo b:Nat}{S:ByteArray}(h:RdAt w b S st0 (.slice none 0 0) (.slice none 0 0) (.slice none 0 0))(hS:S.size≤400)(hlo:lo≤w.heap.size):
  Calls Tryz.prog 40 #[.pointer (some ⟨b,0,none⟩)] w (zFe w lo b S (polR S)):=by
 have hbl:=h.lt;have HR0:Hid (polR S=zB7 S (S.size+1) (st0.skip S) ⟨[],[],[]⟩):=rfl;generalize polR S=R at *;go_enter Tryz.func40,Tryz.ntmps40;go_wp2_with fail
 go_loopw [] (fun w5=>PolLoop S w lo b R w5) (fun w5=>S.size - penI b w5)
 case atStart=>
  exact ⟨BelB.refl _ _ _,st0,fun _=>False,_,_,_,[],[],[],S.size+1,h,Nat.zero_le _,⟨⟨rfl,Or.inl ⟨rfl,rfl⟩⟩,⟨rfl,Or.inl ⟨rfl,rfl⟩⟩,⟨rfl,Or.inl ⟨rfl,rfl⟩⟩,by intro p hp;simp at hp,by intro p hp;simp at hp,by intro p hp;simp at hp,by intro g hg;simp [Value.ownBlock] at hg,by intro g hg;simp [Value.ownBlock] at hg,by intro g hg;simp [Value.ownBlock] at hg,fun k hk=>hk.elim⟩,by simp,by simp,by simp,by simp [st0],HR0⟩
 case round=>
  generalize wr=w5 at *;obtain ⟨B5,s5,F5,v5,v6,v7,sv,cv,av,m,h5,hi5,hp5,ln,lc,la,hm5,hr5⟩:=hrel;have HR:=hide hr5;clear hr5 HR0;obtain ⟨m,rfl⟩:∃t,m=t+1:=⟨m - 1,by omega⟩;have l5:=zAW isBl S s5.i hi5;have hbl5:=h5.lt;have z5:=B5.size
  by_cases e0:zAM S (run isBl S s5.i)=0
  ·have HR1:Hid (R= .ok (⟨sv.map (fun p=>p.1),cv.map (fun p=>p.1),av.map (fun p=>p.1)⟩,s5.skip S)):=by show _=_;rw [HR.out,main_end (zOJ l5.2 e0)]
   go_wp2_with fail;refine (zBX h5 hS hi5).mono ?_;rintro e w6 ⟨rfl,h6,g6⟩;rw [e0];clear e0;have B6:=B5.trans (g6.belb (lo:=lo) (by omega) (by simp));go_wp2_with fail
   go_end0
   exact ⟨B6,Or.inl ⟨_,F5,_,_,_,sv,cv,av,HR1.out,rfl,h6,hp5.keep g6 (by simp),l5.2⟩⟩
  by_cases e1:zAM S (run isBl S s5.i)=10
  ·have HR1:Hid (R=match topR S zCf ⟨sv.map (fun p=>p.1),cv.map (fun p=>p.1),av.map (fun p=>p.1)⟩ (s5.skip S) with | .error d=> .error d | .ok (D',s2)=>zB7 S m (s2.skip S) D'):=by show _=_;rw [HR.out,zE2 hi5 (k:=10) (W:=zCf) (by omega) rfl (by simp [zEC]) e1]
   go_wp2_with fail;refine (zBX h5 hS hi5).mono ?_;rintro e w6 ⟨rfl,h6,g6⟩;rw [e1];clear e0 e1;have B6:=B5.trans (g6.belb (lo:=lo) (by omega) (by simp));have hp6:=hp5.keep g6 (by simp);go_wp2_with fail;refine (zLX h6 hS (by rw [zAk];exact l5.2) hp6 (by have:=B6.size;omega) (by omega) (by omega)).mono ?_;rintro e w7 ⟨B7,⟨s7,F7,u5,u6,u7,sv',cv',av',hr,rfl,h7,hp7,hi7⟩ | ⟨d,hr,hg⟩⟩
   ·rw [hr] at HR1
    have lo7:=zIQ (by rw [zAk];exact l5.2) (by decide) hr;simp only [zAk,List.length_map] at lo7;simp only at HR1;clear hr;go_wp2_with fail;go_roundw
    case rel=>exact ⟨B6.trans B7,s7,F7,u5,u6,u7,sv',cv',av',m,h7,hi7,hp7,by omega,by omega,by omega,by omega,HR1.out⟩
    case measure=>rw [h5.penI,h7.penI];omega
   ·rw [hr] at HR1
    simp only at HR1;clear hr;obtain ⟨rfl,ht⟩:=hg;exact zAF (P:=Tryz.prog) (fn:=Tryz.f40) rfl ⟨B6.trans B7,Or.inr ⟨d,HR1.out,⟨rfl,ht⟩⟩⟩
  by_cases e2:zAM S (run isBl S s5.i)=17
  ·have HR1:Hid (R=match topR S zCm ⟨sv.map (fun p=>p.1),cv.map (fun p=>p.1),av.map (fun p=>p.1)⟩ (s5.skip S) with | .error d=> .error d | .ok (D',s2)=>zB7 S m (s2.skip S) D'):=by show _=_;rw [HR.out,zE2 hi5 (k:=17) (W:=zCm) (by omega) rfl (by simp [zEC]) e2]
   go_wp2_with fail;refine (zBX h5 hS hi5).mono ?_;rintro e w6 ⟨rfl,h6,g6⟩;rw [e2];clear e0 e1 e2;have B6:=B5.trans (g6.belb (lo:=lo) (by omega) (by simp));have hp6:=hp5.keep g6 (by simp);go_wp2_with fail;refine (zJx h6 hS (by rw [zAk];exact l5.2) hp6 (by have:=B6.size;omega) (by omega) (by omega)).mono ?_;rintro e w7 ⟨B7,⟨s7,F7,u5,u6,u7,sv',cv',av',hr,rfl,h7,hp7,hi7⟩ | ⟨d,hr,hg⟩⟩
   ·rw [hr] at HR1
    have lo7:=zIQ (by rw [zAk];exact l5.2) (by decide) hr;simp only [zAk,List.length_map] at lo7;simp only at HR1;clear hr;go_wp2_with fail;go_roundw
    case rel=>exact ⟨B6.trans B7,s7,F7,u5,u6,u7,sv',cv',av',m,h7,hi7,hp7,by omega,by omega,by omega,by omega,HR1.out⟩
    case measure=>rw [h5.penI,h7.penI];omega
   ·rw [hr] at HR1
    simp only at HR1;clear hr;obtain ⟨rfl,ht⟩:=hg;exact zAF (P:=Tryz.prog) (fn:=Tryz.f40) rfl ⟨B6.trans B7,Or.inr ⟨d,HR1.out,⟨rfl,ht⟩⟩⟩
  by_cases e3:zAM S (run isBl S s5.i)=18
  ·have HR1:Hid (R=match topR S zCL ⟨sv.map (fun p=>p.1),cv.map (fun p=>p.1),av.map (fun p=>p.1)⟩ (s5.skip S) with | .error d=> .error d | .ok (D',s2)=>zB7 S m (s2.skip S) D'):=by show _=_;rw [HR.out,zE2 hi5 (k:=18) (W:=zCL) (by omega) rfl (by simp [zEC]) e3]
   go_wp2_with fail;refine (zBX h5 hS hi5).mono ?_;rintro e w6 ⟨rfl,h6,g6⟩;rw [e3];clear e0 e1 e2 e3;have B6:=B5.trans (g6.belb (lo:=lo) (by omega) (by simp));have hp6:=hp5.keep g6 (by simp);go_wp2_with fail;refine (zLo h6 hS (by rw [zAk];exact l5.2) hp6 (by have:=B6.size;omega) (by omega) (by omega)).mono ?_;rintro e w7 ⟨B7,⟨s7,F7,u5,u6,u7,sv',cv',av',hr,rfl,h7,hp7,hi7⟩ | ⟨d,hr,hg⟩⟩
   ·rw [hr] at HR1
    have lo7:=zIQ (by rw [zAk];exact l5.2) (by decide) hr;simp only [zAk,List.length_map] at lo7;simp only at HR1;clear hr;go_wp2_with fail;go_roundw
    case rel=>exact ⟨B6.trans B7,s7,F7,u5,u6,u7,sv',cv',av',m,h7,hi7,hp7,by omega,by omega,by omega,by omega,HR1.out⟩
    case measure=>rw [h5.penI,h7.penI];omega
   ·rw [hr] at HR1
    simp only at HR1;clear hr;obtain ⟨rfl,ht⟩:=hg;exact zAF (P:=Tryz.prog) (fn:=Tryz.f40) rfl ⟨B6.trans B7,Or.inr ⟨d,HR1.out,⟨rfl,ht⟩⟩⟩
  by_cases e4:zAM S (run isBl S s5.i)=19
  ·have HR1:Hid (R=match topR S zE3 ⟨sv.map (fun p=>p.1),cv.map (fun p=>p.1),av.map (fun p=>p.1)⟩ (s5.skip S) with | .error d=> .error d | .ok (D',s2)=>zB7 S m (s2.skip S) D'):=by show _=_;rw [HR.out,zE2 hi5 (k:=19) (W:=zE3) (by omega) rfl (by simp [zEC]) e4]
   go_wp2_with fail;refine (zBX h5 hS hi5).mono ?_;rintro e w6 ⟨rfl,h6,g6⟩;rw [e4];clear e0 e1 e2 e3 e4;have B6:=B5.trans (g6.belb (lo:=lo) (by omega) (by simp));have hp6:=hp5.keep g6 (by simp);go_wp2_with fail;refine (zNh h6 hS (by rw [zAk];exact l5.2) hp6 (by have:=B6.size;omega) (by omega) (by omega)).mono ?_;rintro e w7 ⟨B7,⟨s7,F7,u5,u6,u7,sv',cv',av',hr,rfl,h7,hp7,hi7⟩ | ⟨d,hr,hg⟩⟩
   ·rw [hr] at HR1
    have lo7:=zIQ (by rw [zAk];exact l5.2) (by decide) hr;simp only [zAk,List.length_map] at lo7;simp only at HR1;clear hr;go_wp2_with fail;go_roundw
    case rel=>exact ⟨B6.trans B7,s7,F7,u5,u6,u7,sv',cv',av',m,h7,hi7,hp7,by omega,by omega,by omega,by omega,HR1.out⟩
    case measure=>rw [h5.penI,h7.penI];omega
   ·rw [hr] at HR1
    simp only at HR1;clear hr;obtain ⟨rfl,ht⟩:=hg;exact zAF (P:=Tryz.prog) (fn:=Tryz.f40) rfl ⟨B6.trans B7,Or.inr ⟨d,HR1.out,⟨rfl,ht⟩⟩⟩
  have HR1:Hid (R= .error (run isBl S s5.i)):=by show _=_;rw [HR.out,zOI hi5 e0 e1 e2 e3 e4]
  have q0:(zAM S (run isBl S s5.i)==0)=false:=by simp [e0]
  have q1:(zAM S (run isBl S s5.i)==10)=false:=by simp [e1]
  have q2:(zAM S (run isBl S s5.i)==17)=false:=by simp [e2]
  have q3:(zAM S (run isBl S s5.i)==18)=false:=by simp [e3]
  have q4:(zAM S (run isBl S s5.i)==19)=false:=by simp [e4]
  go_wp2_with fail;refine (zBX h5 hS hi5).mono ?_;rintro e w6 ⟨rfl,h6,g6⟩;clear e0 e1 e2 e3 e4;generalize zAM S (run isBl S s5.i)=sg at *;go_wp2_with fail;refine (zA5 h6).mono ?_;rintro e w7 ⟨hg,g7⟩;obtain ⟨rfl,ht⟩:=hg;exact zAF (P:=Tryz.prog) (fn:=Tryz.f40) rfl ⟨B5.trans ((g6.trans g7).belb (by omega) (by simp)),Or.inr ⟨_,HR1.out,⟨rfl,ht⟩⟩⟩
end Go.Proofs.YteobgfbgglfkbaaGreat
