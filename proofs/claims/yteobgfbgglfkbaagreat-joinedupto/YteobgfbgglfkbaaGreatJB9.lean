import Derived.Test.YteobgfbgglfkbaaGreatJB8
set_option maxHeartbeats 6400000
set_option maxRecDepth 100000
namespace Go.Proofs.YteobgfbgglfkbaaGreat
open Go.RowKit
attribute [local go_sem ↓] Go.wp_at_zero Go.wp_at_succ
theorem UU{q1 q2:Bool}{e1 a1 e2 a2:Int}{s:St}(h1:e1≠0)(h2:e2≠0):zL q1 e1 a1 (zL q2 e2 a2 s)=zL q2 e2 a2 (zL q1 e1 a1 s):=by
 cases q1
 ·rw[Zo,Zo]
 cases q2
 ·rw[Zo,Zo]
 obtain⟨i,e,a,k⟩:=s;unfold zL;simp only[true_and]
 by_cases c1:e=0\/a1<a\/(a1=a/\e1<e)
 ·by_cases c2:e=0\/a2<a\/(a2=a/\e2<e)
  ·rw[if_pos c1,if_pos c2]
   simp only
   by_cases d1:e2=0\/a1<a2\/(a1=a2/\e1<e2)
   ·rw[if_pos d1]
    by_cases d2:e1=0\/a2<a1\/(a2=a1/\e2<e1)
    ·exfalso;omega
    ·rw[if_neg d2]
   ·rw[if_neg d1]
    by_cases d2:e1=0\/a2<a1\/(a2=a1/\e2<e1)
    ·rw[if_pos d2]
    ·rw[if_neg d2]
     have h3:e1=e2/\a1=a2:=by omega
     obtain⟨rfl,rfl⟩:=h3
     try rfl
  ·rw[if_pos c1,if_neg c2]
   simp only;rw[if_pos c1,if_neg (by omega)]
 ·by_cases c2:e=0\/a2<a\/(a2=a/\e2<e)
  ·rw[if_neg c1,if_pos c2]
   simp only;rw[if_neg (by omega)]
  ·rw[if_neg c1,if_neg c2]
   simp only;rw[if_neg c1]
section
variable {q:Bool} {e a:Int}
theorem MD{S:ByteArray}{lo:Int}{but:ByteArray}{s:St}:zx S lo but (zL q e a s)=jB (zL q e a) (zx S lo but s):=by
 unfold zx;simp only[ym]
 repeat' split
 all_goals first|rfl|(simp only[jB,YH])
theorem Em{S:ByteArray}{s:St}(he:e≠0):yv S (zL q e a s)=jB (zL q e a) (yv S s):=by
 unfold yv;rw[MD]
 cases h1:zx S 33 jT s with
 |error d=>rfl
 |ok p=>
  obtain⟨c,s1⟩:=p;simp only[jB,ym,YH]
  split
  ·rw[MD]
   cases h2:zx S 33 jT {s1 with i:=s1.i+1} with
   |error d=>rfl
   |ok p2=>
    obtain⟨c2,s2⟩:=p2;simp only[jB];rw[UU (by omega) he]
  ·rfl
theorem Li{S:ByteArray}(he:e≠0):∀n (s:St) L,yq S n (zL q e a s) L=jB (zL q e a) (yq S n s L)
 |0,s,L=>by simp only[yq,jB,ym]
 |n+1,s,L=>by
  simp only[yq];rw[Em he]
  cases h1:yv S s with
  |error d=>rfl
  |ok p=>
   obtain⟨c,s1⟩:=p;simp only[jB,ym]
   split
   ·simp only[YH]
   ·exact Li he n s1 (L++[c])
theorem OH{S:ByteArray}{s:St}(he:e≠0):yn S (zL q e a s)=jB (zL q e a) (yn S s):=by
 unfold yn;simp only[ym]
 split
 ·rw[YH];exact Li he _ _ _
 ·rfl
theorem Fg{S:ByteArray}{L:zF}{s:St}:yY S L (zL q e a s)=((yY S L s).1,zL q e a (yY S L s).2):=by
 unfold yY;simp only[ym]
 repeat' split
 all_goals first|rfl|(simp only[YH])
theorem Sm{s:St}{x:Int}:({zL q e a s with k:=x}:St)=zL q e a {s with k:=x}:=Dx
theorem T8{E:St->Except Nat (zF×St)}{S:ByteArray}{d:Nat}(he:e≠0)(hE:∀s,E (zL q e a s)=jB (zL q e a) (E s))(s:St):ye E S d (zL q e a s)=jB (zL q e a) (ye E S d s):=by
 rw[Kq,Kq];simp only[ym,Qp]
 have e0:({i:=s.i,e:=(zL q e a s).e,a:=(zL q e a s).a,k:=s.k+1}:St)=zL q e a {s with k:=s.k+1}:=by unfold zL;split <;>rfl
 rw[e0,UU (by omega) he];generalize zL (decide (12<s.k+1)) 3 s.i {s with k:=s.k+1}=s1;unfold Zk;simp only[ym]
 split
 ·simp only[jB,YH]
 ·split
  ·rw[OH he]
   cases yn S s1 with
   |error d=>rfl
   |ok p=>rfl
  ·split
   ·unfold ZU
    simp only[ym];rw[UU (by omega) he,YH,hE]
    cases E {(zL (decide ((4:Int)<=(d:Int))) 3 s1.i s1)with i:=s1.i+1} with
    |error d=>rfl
    |ok p=>
     obtain⟨L,s3⟩:=p;simp only[jB,ym]
     split
     ·simp only[YH]
     ·rfl
   ·rw[MD]
    cases zx S 32 JE s1 with
    |error d=>rfl
    |ok p=>rfl
theorem Nb{B:St->Except Nat (zF×St)}{S:ByteArray}(hB:∀s,B (zL q e a s)=jB (zL q e a) (B s)):∀n (s:St) R,yh B S n (zL q e a s) R=jB (zL q e a) (yh B S n s R)
 |0,s,R=>by simp only[yh,jB,ym]
 |n+1,s,R=>by
  simp only[yh,ym]
  split
  ·rfl
  ·rw[hB]
   cases h1:B s with
   |error d=>rfl
   |ok p=>
    obtain⟨L,s1⟩:=p;simp only[jB,Fg];exact Nb hB n _ _
theorem Af{W:St->Except Nat (zF×St)}{S:ByteArray}(hW:∀s,W (zL q e a s)=jB (zL q e a) (W s)):∀n (s:St) R,jZ W S n (zL q e a s) R=jB (zL q e a) (jZ W S n s R)
 |0,s,R=>by simp only[jZ,jB,ym]
 |n+1,s,R=>by
  simp only[jZ];rw[hW]
  cases h1:W s with
  |error d=>rfl
  |ok p=>
   obtain⟨L,s1⟩:=p;simp only[jB,ym]
   split
   ·rw[YH];exact Af hW n _ _
   ·rfl
theorem Ns{S:ByteArray}(he:e≠0):∀n d (s:St),zv S n d (zL q e a s)=jB (zL q e a) (zv S n d s)
 |0,d,s=>by simp only[zv,jB,ym]
 |n+1,d,s=>by
  simp only[zv];exact Af (fun s=>Nb (T8 he (Ns he n (d+1))) _ s []) _ s []
theorem Gr{S:ByteArray}{s:St}(he:e≠0):JU S (zL q e a s)=jB (zL q e a) (JU S s):=by
 unfold JU Jq;rw[Sm];exact Ns he _ _ _
theorem Xo{S:ByteArray}{nc:List ByteArray}{s:St}(he:e≠0):yK S nc (zL q e a s)=jB (zL q e a) (yK S nc s):=by
 unfold yK;rw[MH]
 cases yA S s with
 |error d=>rfl
 |ok p=>
  obtain⟨⟨x,p⟩,s1⟩:=p;simp only[jB];rw[UU (by omega) he]
def Qk(f:St->St)(r:Except Nat St):Except Nat St:=match r with|.ok s=> .ok (f s)|.error d=> .error d
theorem MW{S:ByteArray}{c:Int}{s:St}:zh S c (zL q e a s)=Qk (zL q e a) (zh S c s):=by
 unfold zh;simp only[ym]
 split
 ·simp only[Qk,YH]
 ·rfl
theorem CY{S:ByteArray}{c:Int}{s:St}:JD S c (zL q e a s)=Qk (zL q e a) (JD S c s):=by
 unfold JD;simp only[ym]
 split
 ·simp only[Qk,YH]
 ·rfl
end
def QI(S:ByteArray)(cnt:Nat)(at1:Int)(A:ze)(s:St):Except Nat (ze×St):=
 match zh S 59 s with
 |.error d=> .error d
 |.ok s1=> .ok (A,zL (decide (6<=(cnt:Int))) 3 at1 s1)
theorem Gb{S:ByteArray}{nc:List ByteArray}{cnt:Nat}{at1:Int}{s:St}:jE S nc cnt true at1 s=
 match yK S nc s with
 |.error d=> .error d
 |.ok (i1,s1)=>
  match zh S 47 s1 with
  |.error d=> .error d
  |.ok s2=>
   match JU S s2 with
   |.error d=> .error d
   |.ok (L,s3)=>
    match JD S 47 s3 with
    |.error d=> .error d
    |.ok s4=>QI S cnt at1 ⟨true,i1,0,L,s3.k⟩ s4:=by
 unfold jE;rw[Xo (by omega)]
 cases h1:yK S nc s with
 |error d=>rfl
 |ok p=>
  obtain⟨i1,s1⟩:=p;simp only[jB,if_true];rw[MW]
  cases h2:zh S 47 s1 with
  |error d=>rfl
  |ok s2=>
   simp only[Qk];rw[Gr (by omega)]
   cases h3:JU S s2 with
   |error d=>rfl
   |ok p3=>
    obtain⟨L,s3⟩:=p3;simp only[jB];rw[CY]
    cases h4:JD S 47 s3 with
    |error d=>rfl
    |ok s4=>
     simp only[Qk];rw[MW];unfold QI
     cases h5:zh S 59 s4 with
     |error d=>rfl
     |ok s5=>simp only[Qk,Qp]
theorem aT{S:ByteArray}{nc:List ByteArray}{cnt:Nat}{at1:Int}{s:St}:jE S nc cnt false at1 s=
 match yK S nc s with
 |.error d=> .error d
 |.ok (i1,s1)=>
  match yK S nc s1 with
  |.error d=> .error d
  |.ok (i2,s2)=>QI S cnt at1 ⟨false,i1,i2,fun _=>False,0⟩ s2:=by
 unfold jE;rw[Xo (by omega)]
 cases h1:yK S nc s with
 |error d=>rfl
 |ok p=>
  obtain⟨i1,s1⟩:=p;simp only[jB,Bool.false_eq_true,if_false];rw[Xo (by omega)]
  cases h2:yK S nc s1 with
  |error d=>rfl
  |ok p2=>
   obtain⟨i2,s2⟩:=p2;simp only[jB];rw[MW];unfold QI
   cases h5:zh S 59 s2 with
   |error d=>rfl
   |ok s5=>rfl
theorem OT{w W:World}{lo b:Nat}{S:ByteArray}{F G:Nat->Prop}{a0:Option Addr}{c0:Nat}{v5 v6:Value}{sv:List (zH×Value)}{cv:List (zZ×Value)}{av:List (ze×Value×Value)}{s':St}{R:Except Nat (yt×St)}{D:ze}{vc ve:Value}
 (hp:yZ w lo b F v5 v6 (.slice a0 av.length c0) sv cv av) (gW:Ch [b] w W) (hlo:lo<=w.heap.size) (hbl:b<w.heap.size) (hW:zP W b S s' v5 v6 (.slice a0 av.length c0)) (hi:s'.i<=S.size)
 (hR:R= .ok (⟨sv.map (fun p=>p.1),cv.map (fun p=>p.1),(av++[(D,vc,ve)]).map (fun p=>p.1)⟩,s')) (hrep:QG w G vc ve D)
 (hG:∀k,G k->lo<=k/\k<w.heap.size/\k≠b/\v5.ownBlock≠some k/\v6.ownBlock≠some k/\(Value.slice a0 av.length c0).ownBlock≠some k) {k1:Int} (hk:k1=if D.never then 0 else 1):
 ∀(g cap:Nat) (w7:World),w7.ownsRow 0 87 3 (.slice (some ⟨g,0,none⟩) (av.length+1) cap) (av.length+1) (ZY av++[.int .i64 k1,vc,ve])->Ch (Value.slice a0 av.length c0).ownBlock.toList (W.drew.alloc (.cells #[.int .i64 k1,vc,ve] 87)) w7->((Value.slice a0 av.length c0).ownBlock=some g\/g=W.heap.size+1)->g<w7.heap.size->
  YB w lo b S R (.returned (.tuple #[])) (w7.setCell ⟨b,7,none⟩ (.slice (some ⟨g,0,none⟩) (av.length+1) cap)):=by
 intro g cap w7 own7 gr7 hat7 hlt7;have gA:Ch [] W (W.drew.alloc (.cells #[.int .i64 k1,vc,ve] 87)):=(Ch.drew [] W).trans (Ch.alloc _ _ _)
 have zA:(W.drew.alloc (.cells #[.int .i64 k1,vc,ve] 87)).heap.size=W.heap.size+1:=by
  show(W.heap.push _).size=_;simp
 have zW:=gW.size;have hpW:=hp.kp gW (by simp)
 have nb:b∉(Value.slice a0 av.length c0).ownBlock.toList:=by simp;intro e;exact(hp.ba b e).2.2.1 rfl
 have gD:Ch [b] w7 (w7.setCell ⟨b,7,none⟩ (.slice (some ⟨g,0,none⟩) (av.length+1) cap)):=Ch.setCell _ (by simp) _;have z7:=gr7.size;have h8:=(((hW.kp gA (by simp)).kp gr7 nb).set.2.2.2.2.2.2) (.slice (some ⟨g,0,none⟩) (av.length+1) cap)
 have hz8:(w7.setCell ⟨b,7,none⟩ (.slice (some ⟨g,0,none⟩) (av.length+1) cap)).heap.size=w7.heap.size:=by simp[World.setCell]
 have hgb:g≠b:=by
  rcases hat7 with e|e
  ·exact(hp.ba g e).2.2.1
  ·omega
 refine⟨?_,Or.inl ⟨s',fun k=>F k\/G k,_,_,_,_,_,_,hR,rfl,h8,?_,hi⟩⟩
 ·refine((gW.trans (gA.mono (by simp))).belb (by omega) (by simp)).trans ((gr7.belb (by omega) ?_).trans (gD.belb (by omega) (by simp)))
  intro k hk;simp at hk;exact Or.inr (hp.ba k hk).1
 ·refine hpW.addCheck (D:=D) (vr:=(vc,ve)) (H:=W.heap.size+1) (fun k hk=> ?_) (hrep.frame (fun k hk=>gW.block k (hG k hk).2.1 (by have:=hG k hk;simp;omega)) (fun _ h=>h)) ?_ (fun k h1 h2 h3=> ?_) hat7 (by omega) (by omega) (by omega) (by omega) (by omega)
  ·have h1:=hG k hk
   exact⟨h1.1,by omega,h1.2.2⟩
  ·rw[show ZY [(D,vc,ve)]=[.int .i64 k1,vc,ve]from by rw[hk];rfl]
   exact zJ own7 gD (fun k hk=>by simp[Value.ownBlock]at hk;subst hk;simpa using hgb)
  ·rw[Below.heap_setCell _ _ _ _ (by simpa using h3),gr7.block k (by omega) (by simpa using h2),gA.block k h1 (by simp)]
theorem AA{w:World}{lo b:Nat}{S:ByteArray}{s:St}{F G:Nat->Prop}{v5 v6 v7:Value}{sv:List (zH×Value)}{cv:List (zZ×Value)}{av:List (ze×Value×Value)}(h:zP w b S s v5 v6 v7)(hS:S.size<=400)(hi:s.i<=S.size)(hp:yZ w lo b F v5 v6 v7 sv cv av)(hlo:lo<=w.heap.size)(hn:av.length<=400)
 {A:ze} {ca:Option Addr} {cn cc:Nat} {ea:Option Addr} {en ec:Nat} (hrep:QG w G (.slice ca cn cc) (.slice ea en ec) A) (hG:∀k,G k->lo<=k/\k<w.heap.size/\k≠b/\v5.ownBlock≠some k/\v6.ownBlock≠some k/\v7.ownBlock≠some k) {k1:Int} (hk:k1=if A.never then 0 else 1) (at1:Int)
 {R:Except Nat (yt×St)} (hRe:∀d,QI S av.length at1 A s= .error d->R= .error d) (hRo:∀q s',QI S av.length at1 A s= .ok (q,s')->R= .ok (⟨sv.map (fun p=>p.1),cv.map (fun p=>p.1),av.map (fun p=>p.1)++[q]⟩,s')):
 Calls Tryz.prog 119 #[.pointer (some ⟨b,0,none⟩),.agg #[.int .i64 k1,.slice ca cn cc,.slice ea en ec],.int .i64 at1] w (YB w lo b S R):=by
 obtain⟨a0,c0,rfl⟩:=zQ hp.ra;have hbl:=h.lt;have HE:=zC hRe;have HO:=zC hRo;have HKx:=zC hk;clear hRe hRo hk;have h0:=h.kp (Ch.alloc [] w (.cells #[.int .i64 k1,.slice ca cn cc,.slice ea en ec] 87)) (by simp);have X0:=zE.new w #[.int .i64 k1,.slice ca cn cc,.slice ea en ec] 87;have g0:=Ch.alloc [b] w (.cells #[.int .i64 k1,.slice ca cn cc,.slice ea en ec] 87);go_enter Tryz.func119,Tryz.ntmps119;go_wp2_with fail;generalize w.alloc (.cells #[.int .i64 k1,.slice ca cn cc,.slice ea en ec] 87)=w0 at *;refine(Yt h0 hS hi (k:=9) (c:=59) (by simp[jd])).mono ?_;rintro e w1 ⟨g1,⟨s1,hl,rfl,h1,hi1⟩|⟨d,hl,hg⟩⟩
 ·have HR1:Hd (R= .ok (⟨sv.map (fun p=>p.1),cv.map (fun p=>p.1),(av++[(A,(.slice ca cn cc:Value),(.slice ea en ec:Value))]).map (fun p=>p.1)⟩,zL (decide (6<=(av.length:Int))) 3 at1 s1)):=by
   show _=_
   rw[HO.o A (zL (decide (6<=(av.length:Int))) 3 at1 s1) (by simp only[QI,hl])];simp
  clear hl HE HO;have X1:=X0.kp g1 (by simp;omega);obtain⟨c0',c1,c2,c3,c4,c5,c6',c7,fz⟩:=h1.fa;go_wp2_with fail;refine(QF h1 _ 6 _).mono ?_;rintro e W ⟨rfl,h2,g2⟩;clear c0' c1 c2 c3 c4 c5 c6' c7 fz;have GW:=(g0.trans g1).trans g2;have zX:=X0.lt;have z1:=g1.size;have XW:=X1.kp g2 (by simp;omega);have FINAL:=zC (OT (D:=A) (G:=G) (vc:= .slice ca cn cc) (ve:= .slice ea en ec) (k1:=k1) hp GW hlo hbl h2 (by rw[ym];exact hi1) HR1.o hrep hG HKx.o);have hpW:=hp.kp GW (by simp);have y0:=XW.cl 0 _ rfl;have y1:=XW.cl 1 _ rfl;have y2:=XW.cl 2 _ rfl;obtain⟨c0',c1,c2,c3,c4,c5,c6',c7,fz⟩:=h2.fa;have gAl:Ch [] W (W.drew.alloc (.cells #[.int .i64 k1,.slice ca cn cc,.slice ea en ec] 87)):=(Ch.drew [] W).trans (Ch.alloc _ _ _);have OWN:=zJ hpW.ra gAl (by simp);have hAl:=h2.kp gAl (by simp);have bal:=(h2.kp (Ch.alloc [] W (.cells #[.int .i64 k1,.slice ca cn cc,.slice ea en ec] 87)) (by simp)).fa.2.2.2.2.2.2.2.1;have NEW:(W.drew.alloc (.cells #[.int .i64 k1,.slice ca cn cc,.slice ea en ec] 87)).heap[W.heap.size]? =some (.cells [.int .i64 k1,.slice ca cn cc,.slice ea en ec].toArray 87):=zr W.drew _
  have ZN:(W.drew.alloc (.cells #[.int .i64 k1,.slice ca cn cc,.slice ea en ec] 87)).heap.size=W.heap.size+1:=by show(W.heap.push _).size=_;simp
  have NDD:Hd (b∉(Value.slice a0 av.length c0).ownBlock.toList):=by show ¬_;simp;intro e;exact(hp.ba b e).2.2.1 rfl
  clear hpW XW X1 c1 c2 c3 c4;go_wp2_with fail
  go_region_law ((refine Zc 63 87 3 56 (.agg #[.int .i64 0,.slice none 0 0,.slice none 0 0]) Tryz.underlying63 Sy rfl (by omega) (by omega) (by rfl) _ _ (by rfl) (.slice a0 av.length c0) av.length (ZY av) (by rfl) OWN W.heap.size [.int .i64 k1,.slice ca cn cc,.slice ea en ec] (by rfl) NEW rfl (by intro u hu;simp at hu;rcases hu with rfl|rfl|rfl <;>rfl) (by omega) (W.heap.size+1) ZN ?_;intro g cap w7 own7 gr7 hat7 hlt7;have B7:=hAl.kp gr7 NDD.o;have b70:=B7.fa.2.2.2.2.2.2.2.1;have b7f:=B7.fa.2.2.2.2.2.2.2.2))
  all_goals
   go_wp2_with fail
   go_end0
   exact FINAL.o _ _ _ own7 gr7 hat7 hlt7
 ·have HR1:Hd (R= .error d):=HE.o d (by simp only[QI,hl])
  clear hl;obtain⟨rfl,ht⟩:=hg;exact zY rfl ⟨(g0.trans g1).belb (by omega) (by simp),Or.inr ⟨d,HR1.o,⟨rfl,ht⟩⟩⟩
theorem Ax{S:ByteArray}{x:ByteArray}{at1:Int}{sv:List (zH×Value)}{cv:List (zZ×Value)}{av:List (ze×Value×Value)}{s:St}(h1:¬yQ x Ji=true)(h2:¬yQ x Jj=true):
 jb S x at1 ⟨sv.map (fun p=>p.1),cv.map (fun p=>p.1),av.map (fun p=>p.1)⟩ s=match jE S (cv.map fun p=>p.1.name) av.length (yQ x JR) at1 s with|.error d=> .error d|.ok (q,s2)=> .ok (⟨sv.map (fun p=>p.1),cv.map (fun p=>p.1),av.map (fun p=>p.1)++[q]⟩,s2):=by
 unfold jb;rw[if_neg h1,if_neg h2];simp only[Wy,List.length_map]
 cases jE S (cv.map fun p=>p.1.name) av.length (yQ x JR) at1 s with
 |error d=>rfl
 |ok p=>rfl
theorem GQ(w:World)(F:Nat->Prop)(i1 i2:Int)(hF:F w.heap.size):j9 (w.alloc (.cells #[.int .i64 i1,.int .i64 i2] 3)) F (.slice (some ⟨w.heap.size,0,none⟩) 2 2) [i1,i2]:=
 ⟨fun g hg=>by simp[Value.ownBlock]at hg;subst hg;exact hF,⟨rfl,Or.inr ⟨w.heap.size,2,#[.int .i64 i1,.int .i64 i2],rfl,Nat.zero_le _,zr _ _,Nat.le_refl _,by decide,rfl,rfl⟩⟩⟩
theorem Tj(w:World)(F:Nat->Prop)(i1:Int)(hF:F w.heap.size):j9 (w.alloc (.cells #[.int .i64 i1] 3)) F (.slice (some ⟨w.heap.size,0,none⟩) 1 1) [i1]:=
 ⟨fun g hg=>by simp[Value.ownBlock]at hg;subst hg;exact hF,⟨rfl,Or.inr ⟨w.heap.size,1,#[.int .i64 i1],rfl,Nat.zero_le _,zr _ _,Nat.le_refl _,by decide,rfl,rfl⟩⟩⟩
theorem YB.early{w W w':World}{lo b:Nat}{S:ByteArray}{R:Except Nat (yt×St)}{e:Ending}(g:YM lo b w W)(h:YB W lo b S R e w'):YB w lo b S R e w':=⟨g.trans h.1,h.2⟩
theorem SY{w:World}{lo b:Nat}{S:ByteArray}{s:St}{F:Nat->Prop}{v5 v6 v7:Value}{sv:List (zH×Value)}{cv:List (zZ×Value)}{av:List (ze×Value×Value)}(h:zP w b S s v5 v6 v7)(hS:S.size<=400)(hi:s.i<=S.size)(hp:yZ w lo b F v5 v6 v7 sv cv av)(hlo:lo<=w.heap.size)(hc:cv.length<=400)(hn:av.length<=400):
 Calls Tryz.prog 79 #[.pointer (some ⟨b,0,none⟩)] w (YB w lo b S (jg S ZM ⟨sv.map (fun p=>p.1),cv.map (fun p=>p.1),av.map (fun p=>p.1)⟩ s)):=by
 have hbl:=h.lt;generalize hR0:jg S ZM ⟨sv.map (fun p=>p.1),cv.map (fun p=>p.1),av.map (fun p=>p.1)⟩ s=R;have HR0:=zC hR0;clear hR0;go_enter Tryz.func79,Tryz.ntmps79;go_wp2_with fail;refine(Qx h hS hi (k:=19) (W:=ZM) (by omega) rfl).mono ?_;rintro e w1 ⟨g1,⟨x1,p1,s1,hl1,rfl,h1,hi1⟩|⟨d,hl,hg⟩⟩
 ·have HR1:Hd (∀r,jE S (cv.map fun p=>p.1.name) av.length false p1 s1=r->(∀d,r= .error d->R= .error d)/\(∀q s',r= .ok (q,s')->R= .ok (⟨sv.map (fun p=>p.1),cv.map (fun p=>p.1),av.map (fun p=>p.1)++[q]⟩,s'))):=by
   intro r hr
   have e0:R=jb S ZM p1 ⟨sv.map (fun p=>p.1),cv.map (fun p=>p.1),av.map (fun p=>p.1)⟩ s1:=by rw[<- HR0.o];simp only[jg,hl1]
   rw[Ax (by decide) (by decide),show yQ ZM JR=false from by decide,hr]at e0;refine⟨fun d e=> ?_,fun q s' e=> ?_⟩
   ·subst e;exact e0
   ·subst e;exact e0
  rw[aT]at HR1;clear hl1;have hp1:=hp.kp g1 (by simp);go_wp2_with fail;refine(MU h1 hS hi1 hp1 (by omega)).mono ?_;rintro e w2 ⟨g2,⟨i1,s2,v,hl2,rfl,hv,h2⟩|⟨d,hl,hg⟩⟩
  ·unfold Qf at hv
   subst hv;have lo2:=Wj hi1 hl2;rw[hl2]at HR1;clear hl2;simp only at HR1;have hp2:=hp1.kp g2 (by simp);go_wp2_with fail;refine(MU h2 hS lo2.2 hp2 (by omega)).mono ?_;rintro e w3 ⟨g3,⟨i2,s3,v,hl3,rfl,hv,h3⟩|⟨d,hl,hg⟩⟩
   ·unfold Qf at hv
    subst hv;have lo3:=Wj lo2.2 hl3;rw[hl3]at HR1;clear hl3;simp only at HR1;have G3:=(g1.trans g2).trans g3;have z3:=G3.size;have hp3:=hp2.kp g3 (by simp);have h4:=h3.kp (Ch.alloc [] w3 (.cells #[.int .i64 i1,.int .i64 i2] 3)) (by simp);have hp4:=hp3.kp (Ch.alloc [b] w3 (.cells #[.int .i64 i1,.int .i64 i2] 3)) (by simp);have G4:=G3.trans (Ch.alloc [b] w3 (.cells #[.int .i64 i1,.int .i64 i2] 3));have C4:=GQ w3 (fun k=>k=w3.heap.size) i1 i2 rfl
    have z4:(w3.alloc (.cells #[.int .i64 i1,.int .i64 i2] 3)).heap.size=w3.heap.size+1:=by simp
    go_wp2_with fail;generalize w3.alloc (.cells #[.int .i64 i1,.int .i64 i2] 3)=w4 at *;refine(AA (G:=fun k=>k=w3.heap.size) (A:=⟨false,i1,i2,fun _=>False,0⟩) h4 hS lo3.2 hp4 (by have:=G4.size;omega) hn (Or.inr ⟨rfl,C4,rfl⟩) ?_ rfl (p1:Int) (fun d e=>(HR1.o _ e).1 _ rfl) (fun q s' e=>(HR1.o _ e).2 _ _ rfl)).mono ?_
    ·intro k hk
     subst hk;refine⟨by omega,by omega,by omega,fun e=> ?_,fun e=> ?_,fun e=> ?_⟩
     ·have:=hp3.bs _ e;omega
     ·have:=hp3.bc _ e;omega
     ·have:=hp3.ba _ e;omega
    ·rintro e w5 hT
     have hT':=hT.early (G4.belb (by omega) (by simp))
     rcases hT' with⟨hB,⟨s',F',u5,u6,u7,sv',cv',av',hr,rfl,hrest⟩|⟨d,hr,hg⟩⟩
     ·go_wp2_with fail
      go_end0
      exact⟨hB,Or.inl ⟨s',F',u5,u6,u7,sv',cv',av',hr,rfl,hrest⟩⟩
     ·obtain⟨rfl,ht⟩:=hg
      exact zY rfl ⟨hB,Or.inr ⟨d,hr,⟨rfl,ht⟩⟩⟩
   ·rw[hl]at HR1
    have HR3:=zC ((HR1.o _ rfl).1 _ rfl);clear hl HR1;obtain⟨rfl,ht⟩:=hg;exact zY rfl ⟨((g1.trans g2).trans g3).belb (by omega) (by simp),Or.inr ⟨d,HR3.o,⟨rfl,ht⟩⟩⟩
  ·rw[hl]at HR1
   have HR3:=zC ((HR1.o _ rfl).1 _ rfl);clear hl HR1;obtain⟨rfl,ht⟩:=hg;exact zY rfl ⟨(g1.trans g2).belb (by omega) (by simp),Or.inr ⟨d,HR3.o,⟨rfl,ht⟩⟩⟩
 ·have HR:Hd (R= .error d):=by show _=_;rw[<- HR0.o];simp only[jg,hl]
  clear hl;obtain⟨rfl,ht⟩:=hg;exact zY rfl ⟨g1.belb (by omega) (by simp),Or.inr ⟨d,HR.o,⟨rfl,ht⟩⟩⟩
theorem Pn{w:World}{lo b:Nat}{S:ByteArray}{s:St}{F:Nat->Prop}{v5 v6 v7:Value}{sv:List (zH×Value)}{cv:List (zZ×Value)}{av:List (ze×Value×Value)}(h:zP w b S s v5 v6 v7)(hS:S.size<=400)(hi:s.i<=S.size)(hp:yZ w lo b F v5 v6 v7 sv cv av)(hlo:lo<=w.heap.size)(hc:cv.length<=400)(hn:av.length<=400):
 Calls Tryz.prog 78 #[.pointer (some ⟨b,0,none⟩)] w (YB w lo b S (jg S JR ⟨sv.map (fun p=>p.1),cv.map (fun p=>p.1),av.map (fun p=>p.1)⟩ s)):=by
 have hbl:=h.lt;generalize hR0:jg S JR ⟨sv.map (fun p=>p.1),cv.map (fun p=>p.1),av.map (fun p=>p.1)⟩ s=R;have HR0:=zC hR0;clear hR0;go_enter Tryz.func78,Tryz.ntmps78;go_wp2_with fail;refine(Qx h hS hi (k:=18) (W:=JR) (by omega) rfl).mono ?_;rintro e w1 ⟨g1,⟨x1,p1,s1,hl1,rfl,h1,hi1⟩|⟨d,hl,hg⟩⟩
 ·have HR1:Hd (∀r,jE S (cv.map fun p=>p.1.name) av.length true p1 s1=r->(∀d,r= .error d->R= .error d)/\(∀q s',r= .ok (q,s')->R= .ok (⟨sv.map (fun p=>p.1),cv.map (fun p=>p.1),av.map (fun p=>p.1)++[q]⟩,s'))):=by
   intro r hr
   have e0:R=jb S JR p1 ⟨sv.map (fun p=>p.1),cv.map (fun p=>p.1),av.map (fun p=>p.1)⟩ s1:=by rw[<- HR0.o];simp only[jg,hl1]
   rw[Ax (by decide) (by decide),show yQ JR JR=true from by decide,hr]at e0;refine⟨fun d e=> ?_,fun q s' e=> ?_⟩
   ·subst e;exact e0
   ·subst e;exact e0
  rw[Gb]at HR1;clear hl1;have hp1:=hp.kp g1 (by simp);go_wp2_with fail;refine(MU h1 hS hi1 hp1 (by omega)).mono ?_;rintro e w2 ⟨g2,⟨i1,s2,v,hl2,rfl,hv,h2⟩|⟨d,hl,hg⟩⟩
  ·unfold Qf at hv
   subst hv;have lo2:=Wj hi1 hl2;rw[hl2]at HR1;clear hl2;simp only at HR1;have hp2:=hp1.kp g2 (by simp);have G2:=g1.trans g2;have z2:=G2.size;have hbl2:=h2.lt;have h3:=(h2.kp (Ch.alloc [] w2 (.cells #[.int .i64 i1] 3)) (by simp)).kp (Ch.alloc [] (w2.alloc (.cells #[.int .i64 i1] 3)) (.cells #[.int .i64 0,.slice (some ⟨w2.heap.size,0,none⟩) 1 1,.slice none 0 0] 87)) (by simp);have C3:=(Tj w2 (fun k=>k=w2.heap.size) i1 rfl).frame (w':=(w2.alloc (.cells #[.int .i64 i1] 3)).alloc (.cells #[.int .i64 0,.slice (some ⟨w2.heap.size,0,none⟩) 1 1,.slice none 0 0] 87)) (G:=fun k=>k=w2.heap.size) (fun k hk=>(Ch.alloc [] _ _).block k (by subst hk;simp) (by simp)) (fun _ h=>h);have X3:=zE.new (w2.alloc (.cells #[.int .i64 i1] 3)) #[.int .i64 0,.slice (some ⟨w2.heap.size,0,none⟩) 1 1,.slice none 0 0] 87;have G3:=(G2.trans (Ch.alloc [b] w2 (.cells #[.int .i64 i1] 3))).trans (Ch.alloc [b] (w2.alloc (.cells #[.int .i64 i1] 3)) (.cells #[.int .i64 0,.slice (some ⟨w2.heap.size,0,none⟩) 1 1,.slice none 0 0] 87));rw[show(w2.alloc (.cells #[.int .i64 i1] 3)).heap.size=w2.heap.size+1 from by simp]at X3;go_wp2_with fail;generalize (w2.alloc (.cells #[.int .i64 i1] 3)).alloc (.cells #[.int .i64 0,.slice (some ⟨w2.heap.size,0,none⟩) 1 1,.slice none 0 0] 87)=w3 at *;have zX3:=X3.lt;refine(Yt h3 hS lo2.2 (k:=5) (c:=47) (by simp[jd])).mono ?_;rintro e w4 ⟨g4,⟨s4,hl4,rfl,h4,hi4⟩|⟨d,hl,hg⟩⟩
   ·rw[hl4]at HR1
    clear hl4;simp only at HR1;have X4:=X3.kp g4 (by simp;omega);have C4:=C3.frame (w':=w4) (G:=fun k=>k=w2.heap.size) (fun k hk=>g4.block k (by omega) (by simp;omega)) (fun _ h=>h);have G4:=G3.trans g4;have z4:=g4.size;obtain⟨c0',c1,c2,c3,c4,c5,c6',c7,fz⟩:=h4.fa;go_wp2_with fail;have h5:zP (w4.setCell ⟨b,4,none⟩ (.int .i64 0)) b S (Jq s4) v5 v6 v7:=h4.set.2.2.2.1 0;have g5:Ch [b] w4 (w4.setCell ⟨b,4,none⟩ (.int .i64 0)):=Ch.setCell _ (by simp) _;have X5:=X4.kp g5 (by simp;omega);have C5:=C4.frame (w':=w4.setCell ⟨b,4,none⟩ (.int .i64 0)) (G:=fun k=>k=w2.heap.size) (fun k hk=>g5.block k (by omega) (by simp;omega)) (fun _ h=>h);have G5:=G4.trans g5;have z5:=g5.size;clear c0' c1 c2 c3 c4 c5 c6' c7 fz;generalize w4.setCell ⟨b,4,none⟩ (.int .i64 0)=w5 at *;refine(D0 hS (S.size+1) w5 b (Jq s4) 0 v5 v6 v7 h5 ⟨hi4,Int.le_refl _,by show(0:Int)<=_;omega,Nat.zero_le _⟩ (by omega)).mono ?_;rintro e w6 ⟨g6,hpost⟩;have HX:Hd (JU S s4=zv S (S.size+1) 0 (Jq s4)):=rfl
    rcases hpost with⟨L,s6,v,FE,N,hr6,rfl,⟨⟨ea,en,ec,rfl⟩,hh,hRE⟩,hFE,h6,hk6,hi6,hi6',hki6⟩|⟨d,hr6,hg⟩|⟨s6,v,hr6,rfl,⟨ea,en,ec,rfl⟩,h6,hi6,hst,hi6'⟩
    ·rw[HX.o,hr6]at HR1
     clear hr6 HX;simp only at HR1;have X6:=X5.kp g6 (by simp;omega);have C6:=C5.frame (w':=w6) (G:=fun k=>k=w2.heap.size) (fun k hk=>g6.block k (by omega) (by simp;omega)) (fun _ h=>h);have G6:=G5.trans g6;have z6:=g6.size;have y0:=X6.cl 0 _ rfl;have y1:=X6.cl 1 _ rfl;have y2:=X6.cl 2 _ rfl;have fy:=X6.fz;go_wp2_with fail;have X7:zE (w6.setCell ⟨w2.heap.size+1,2,none⟩ (.slice ea en ec)) (w2.heap.size+1) #[.int .i64 0,.slice (some ⟨w2.heap.size,0,none⟩) 1 1,.slice ea en ec] 87:=X6.set 2 _;have g7:Ch [w2.heap.size+1] w6 (w6.setCell ⟨w2.heap.size+1,2,none⟩ (.slice ea en ec)):=Ch.setCell _ (by simp) _;have h7:=h6.kp g7 (by simp;omega);have C7:=C6.frame (w':=w6.setCell ⟨w2.heap.size+1,2,none⟩ (.slice ea en ec)) (G:=fun k=>k=w2.heap.size\/FE k) (fun k hk=>g7.block k (by omega) (by simp;omega)) (fun _ h=>Or.inl h);have E7:=yC.frame (w':=w6.setCell ⟨w2.heap.size+1,2,none⟩ (.slice ea en ec)) (G:=fun k=>k=w2.heap.size\/FE k) (fun k hk=>g7.block k (hFE k hk).2 (by have:=hFE k hk;simp;omega)) (fun _ h=>Or.inr h) _ _ _ _ hRE;have G7:=G6.trans' g7 (by intro k hk;simp at hk;omega);have z7:=g7.size;clear y0 y1 y2 fy;generalize w6.setCell ⟨w2.heap.size+1,2,none⟩ (.slice ea en ec)=w7 at *
     by_cases hb:bt S s6.i=47
     ·have hm:JD S 47 s6= .ok {s6 with i:=s6.i+1}:=by simp only[JD,if_pos hb]
      rw[hm]at HR1;clear hm;simp only at HR1;have hlt:=yB (S:=S) (i:=s6.i) (by omega);refine(ZP h7 hS 47 (by decide) hb).mono ?_;rintro e w8 ⟨rfl,h8,g8⟩;clear hb;have X8:=X7.kp g8 (by simp;omega)
      have hk8:∀k,(k=w2.heap.size\/FE k)->k<w7.heap.size/\k≠b:=by
       intro k hk
       rcases hk with hk|hk
       ·omega
       ·have:=hFE k hk;omega
      have C8:=C7.frame (w':=w8) (G:=fun k=>k=w2.heap.size\/FE k) (fun k hk=>g8.block k (hk8 k hk).1 (by have:=(hk8 k hk).2;simpa using this)) (fun _ h=>h);have E8:=yC.frame (w':=w8) (G:=fun k=>k=w2.heap.size\/FE k) (fun k hk=>g8.block k (hk8 k hk).1 (by have:=(hk8 k hk).2;simpa using this)) (fun _ h=>h) _ _ _ _ E7;have G8:=G7.trans g8;have z8:=g8.size;have hp8:=hp.kp G8 (by simp);have y0:=X8.cl 0 _ rfl;have y1:=X8.cl 1 _ rfl;have y2:=X8.cl 2 _ rfl;go_wp2_with fail;refine(AA (G:=fun k=>k=w2.heap.size\/FE k) (A:=⟨true,i1,0,L,s6.k⟩) h8 hS hlt hp8 (by have:=G8.size;omega) hn (Or.inl ⟨rfl,C8,⟨ea,en,ec,rfl⟩,hh,N,E8,by rw[hk6];simp[Jq]⟩) ?_ rfl (p1:Int) (fun d e=>(HR1.o _ e).1 _ rfl) (fun q s' e=>(HR1.o _ e).2 _ _ rfl)).mono ?_
      ·intro k hk
       have hk':w.heap.size<=k/\k<w8.heap.size:=by
        rcases hk with hk|hk
        ·omega
        ·have:=hFE k hk;omega
       refine⟨by omega,by omega,by omega,fun e=> ?_,fun e=> ?_,fun e=> ?_⟩
       ·have:=hp.bs _ e;omega
       ·have:=hp.bc _ e;omega
       ·have:=hp.ba _ e;omega
      ·rintro e w9 hT
       have hT':=hT.early (G8.belb (by omega) (by simp))
       rcases hT' with⟨hB,⟨s',F',u5,u6,u7,sv',cv',av',hr,rfl,hrest⟩|⟨d,hr,hg⟩⟩
       ·go_wp2_with fail
        go_end0
        exact⟨hB,Or.inl ⟨s',F',u5,u6,u7,sv',cv',av',hr,rfl,hrest⟩⟩
       ·obtain⟨rfl,ht⟩:=hg
        exact zY rfl ⟨hB,Or.inr ⟨d,hr,⟨rfl,ht⟩⟩⟩
     ·have hm:JD S 47 s6= .error s6.i:=by simp only[JD,if_neg hb]
      rw[hm]at HR1;have HR8:=zC ((HR1.o _ rfl).1 _ rfl);clear hm HR1;refine(JW h7 hS hi6' 47 hb).mono ?_;rintro e w8 ⟨rfl,h8,g8⟩;clear hb;go_wp2_with fail;refine(ZB h8).mono ?_;rintro e w9 ⟨hg,g9⟩;obtain⟨rfl,ht⟩:=hg;exact zY rfl ⟨((G7.trans g8).trans g9).belb (by omega) (by simp),Or.inr ⟨_,HR8.o,⟨rfl,ht⟩⟩⟩
    ·rw[HX.o,hr6]at HR1
     have HR8:=zC ((HR1.o _ rfl).1 _ rfl);clear hr6 HR1;obtain⟨rfl,ht⟩:=hg;exact zY rfl ⟨(G5.trans g6).belb (by omega) (by simp),Or.inr ⟨_,HR8.o,⟨rfl,ht⟩⟩⟩
    ·rw[HX.o,hr6]at HR1
     have HR8:=zC ((HR1.o _ rfl).1 _ rfl);clear hr6 HR1;have X6:=X5.kp g6 (by simp;omega);have G6:=G5.trans g6;have y0:=X6.cl 0 _ rfl;have y1:=X6.cl 1 _ rfl;have y2:=X6.cl 2 _ rfl;have fy:=X6.fz;go_wp2_with fail;have g7:Ch [w2.heap.size+1] w6 (w6.setCell ⟨w2.heap.size+1,2,none⟩ (.slice ea en ec)):=Ch.setCell _ (by simp) _;have h7:=h6.kp g7 (by simp;omega);have G7:=G6.trans' g7 (by intro k hk;simp at hk;omega);clear y0 y1 y2 fy;generalize w6.setCell ⟨w2.heap.size+1,2,none⟩ (.slice ea en ec)=w7 at *
     have hb:¬bt S s6.i=47:=by intro e;rw[e]at hst;exact absurd hst (by decide)
     refine(JW h7 hS (by omega) 47 hb).mono ?_;rintro e w8 ⟨rfl,h8,g8⟩;clear hb;go_wp2_with fail;refine(ZB h8).mono ?_;rintro e w9 ⟨hg,g9⟩;obtain⟨rfl,ht⟩:=hg;exact zY rfl ⟨((G7.trans g8).trans g9).belb (by omega) (by simp),Or.inr ⟨_,HR8.o,⟨rfl,ht⟩⟩⟩
   ·rw[hl]at HR1
    have HR3:=zC ((HR1.o _ rfl).1 _ rfl);clear hl HR1;obtain⟨rfl,ht⟩:=hg;exact zY rfl ⟨(G3.trans g4).belb (by omega) (by simp),Or.inr ⟨d,HR3.o,⟨rfl,ht⟩⟩⟩
  ·rw[hl]at HR1
   have HR3:=zC ((HR1.o _ rfl).1 _ rfl);clear hl HR1;obtain⟨rfl,ht⟩:=hg;exact zY rfl ⟨(g1.trans g2).belb (by omega) (by simp),Or.inr ⟨d,HR3.o,⟨rfl,ht⟩⟩⟩
 ·have HR:Hd (R= .error d):=by show _=_;rw[<- HR0.o];simp only[jg,hl]
  clear hl;obtain⟨rfl,ht⟩:=hg;exact zY rfl ⟨g1.belb (by omega) (by simp),Or.inr ⟨d,HR.o,⟨rfl,ht⟩⟩⟩
theorem Ic{S:ByteArray}{s:St}{m:Nat}{D:yt}(h:run zI S s.i=S.size):jC S (m+1) (s.sk S) D= .ok (D,s.sk S):=by
 unfold jC;rw[if_neg (by rw[yT];omega)]
theorem BV{S:ByteArray}{s:St}{W:ByteArray}{Ls:List ByteArray}(h:S.extract (run zI S s.i) (run zR S (run zI S s.i))=W)(hW:W∈Ls):yI S Ls (s.sk S)= .ok ((W,run zI S s.i),{s with i:=run zR S (run zI S s.i)}):=by
 unfold yI;simp only[yT,ZJ,h];rw[if_pos (Jv.2 hW)]
 try rfl
theorem Uy{S:ByteArray}{s:St}{m:Nat}{D:yt}{k:Int}{W:ByteArray}(hi:s.i<=S.size)(hk:10<=k)(hW:jU W=k)(hM:W∈Jf)(hs:zV S (run zI S s.i)=k):
 jC S (m+1) (s.sk S) D=match jg S W D (s.sk S)with|.error d=> .error d|.ok (D',s2)=>jC S m (s2.sk S) D':=by
 have l1:=zn zI S s.i hi;have hx:=(Zm l1.2 hk hW).1 hs
 have hne:¬run zI S s.i=S.size:=by
  intro e;rw[e]at hs;simp[zV]at hs;omega
 conv=>lhs;rw[jC]
 rw[if_pos (by rw[yT];omega),BV hx hM];unfold jg;rw[BV hx (by simp)];simp only
 cases jb S W (run zI S s.i:Nat) D {s with i:=run zR S (run zI S s.i)} with
 |error d=>rfl
 |ok p=>rfl
theorem aE{S:ByteArray}{s:St}{m:Nat}{D:yt}(hi:s.i<=S.size)(h0:¬zV S (run zI S s.i)=0)(h1:¬zV S (run zI S s.i)=10)(h2:¬zV S (run zI S s.i)=17)(h3:¬zV S (run zI S s.i)=18)(h4:¬zV S (run zI S s.i)=19):
 jC S (m+1) (s.sk S) D= .error (run zI S s.i):=by
 have l1:=zn zI S s.i hi
 have hne:¬run zI S s.i=S.size:=by
  intro e;apply h0;simp[zV,e]
 unfold jC;rw[if_pos (by rw[yT];omega)]
 have:¬JS Jf (S.extract (run zI S s.i) (run zR S (run zI S s.i)))=true:=by
  rw[Jv];intro e;simp only[Jf,List.mem_cons,List.not_mem_nil,or_false]at e
  rcases e with e|e|e|e
  ·exact h1 ((Zm l1.2 (k:=10) (by omega) rfl).2 e)
  ·exact h2 ((Zm l1.2 (k:=17) (by omega) rfl).2 e)
  ·exact h3 ((Zm l1.2 (k:=18) (by omega) rfl).2 e)
  ·exact h4 ((Zm l1.2 (k:=19) (by omega) rfl).2 e)
 have hw:yI S Jf (s.sk S)= .error (run zI S s.i):=by
  unfold yI;simp only[yT,ZJ];rw[if_neg this]
 rw[hw]
theorem PK{S:ByteArray}{I:Nat}(hI:I<=S.size)(h:zV S I=0):I=S.size:=by
 rcases Nat.lt_or_ge I S.size with hlt|hge
 ·exfalso
  unfold zV at h;rw[if_neg (by omega)]at h
  split at h
  ·unfold YG at h
   repeat' split at h
   all_goals omega
  ·have c:=UD (S.extract I (run zR S I))
   have d1:∀n:Nat,1<=(if 8<n then(1:Int)else 2):=by intro n;split <;>omega
   have d2:=d1 (S.extract I (run zR S I)).size;omega
 ·omega
theorem E6{S:ByteArray}{x:ByteArray}{at1:Int}{D D':yt}{s s':St}(hi:s.i<=S.size)(h:jb S x at1 D s= .ok (D',s')):s.i<=s'.i/\s'.i<=S.size/\D'.scrubs.length<=D.scrubs.length+1/\D'.chains.length<=D.chains.length+1/\D'.asked.length<=D.asked.length+1:=by
 unfold jb at h
 split at h
 ·cases hs:j8 S (D.scrubs.map (·.name)) (D.chains.map (·.name)) at1 s with
  |error d=>rw[hs]at h;cases h
  |ok p=>
   obtain⟨q,s2⟩:=p;rw[hs]at h
   injection h with h;injection h with e1 e2;subst e1 e2
   have:=Nn hi hs;exact⟨this.1,this.2,by simp,by simp,by simp⟩
 ·split at h
  ·cases hs:jx S (D.scrubs.map (·.name)) (D.chains.map (·.name)) at1 s with
   |error d=>rw[hs]at h;cases h
   |ok p=>
    obtain⟨q,s2⟩:=p;rw[hs]at h
    injection h with h;injection h with e1 e2;subst e1 e2
    have:=N0 hi hs;exact⟨this.1,this.2,by simp,by simp,by simp⟩
  ·cases hs:jE S (D.chains.map (·.name)) D.asked.length (yQ x JR) at1 s with
   |error d=>rw[hs]at h;cases h
   |ok p=>
    obtain⟨q,s2⟩:=p;rw[hs]at h
    injection h with h;injection h with e1 e2;subst e1 e2
    have:=KI hi hs;exact⟨this.1,this.2,by simp,by simp,by simp⟩
theorem U5{S:ByteArray}{W:ByteArray}{D D':yt}{s s':St}(hi:s.i<=S.size)(hW:0<W.size)(h:jg S W D s= .ok (D',s')):s.i<s'.i/\s'.i<=S.size/\D'.scrubs.length<=D.scrubs.length+1/\D'.chains.length<=D.chains.length+1/\D'.asked.length<=D.asked.length+1:=by
 unfold jg at h
 cases hw:yI S [W] s with
 |error d=>rw[hw]at h;cases h
 |ok p=>
  obtain⟨⟨x,p⟩,s1⟩:=p;rw[hw]at h;simp only at h;unfold yI at hw;simp only at hw
  split at hw
  ·rename_i hh
   injection hw with hw;injection hw with e1 e2;subst e2
   have hx:S.extract (run zI S s.i) (run zR S (run zI S s.i))=W:=by have:=Jv.1 hh;simpa using this
   have l1:=zn zI S s.i hi;have l2:=zn zR S (run zI S s.i) l1.2
   have hsz:W.size=run zR S (run zI S s.i) - run zI S s.i:=by rw[<- hx];simp;omega
   have:=E6 (by simp only;exact l2.2) h;simp only at this;refine⟨by omega,this.2⟩
  ·cases hw
def GL(S:ByteArray)(w:World)(lo b:Nat)(r:Except Nat (yt×St))(w5:World):Prop:=
 YM lo b w w5/\∃(s5:St) (F:Nat->Prop) (v5 v6 v7:Value) (sv:List (zH×Value)) (cv:List (zZ×Value)) (av:List (ze×Value×Value)) (m:Nat),zP w5 b S s5 v5 v6 v7/\s5.i<=S.size/\yZ w5 lo b F v5 v6 v7 sv cv av/\sv.length<=s5.i/\cv.length<=s5.i/\av.length<=s5.i/\S.size<m+s5.i/\
  r=jC S m (s5.sk S) ⟨sv.map (fun p=>p.1),cv.map (fun p=>p.1),av.map (fun p=>p.1)⟩
theorem Su{w:World}{lo b:Nat}{S:ByteArray}(h:zP w b S st0 (.slice none 0 0) (.slice none 0 0) (.slice none 0 0))(hS:S.size<=400)(hlo:lo<=w.heap.size):
 Calls Tryz.prog 40 #[.pointer (some ⟨b,0,none⟩)] w (YB w lo b S (jA S)):=by
 have hbl:=h.lt;have HR0:Hd (jA S=jC S (S.size+1) (st0.sk S) ⟨[],[],[]⟩):=rfl;generalize jA S=R at *;go_enter Tryz.func40,Tryz.ntmps40;go_wp2_with fail
 go_loopw [] (fun w5=>GL S w lo b R w5) (fun w5=>S.size - penI b w5)
 case atStart=>
  exact⟨YM.refl _ _ _,st0,fun _=>False,_,_,_,[],[],[],S.size+1,h,Nat.zero_le _,⟨⟨rfl,Or.inl ⟨rfl,rfl⟩⟩,⟨rfl,Or.inl ⟨rfl,rfl⟩⟩,⟨rfl,Or.inl ⟨rfl,rfl⟩⟩,by intro p hp;simp at hp,by intro p hp;simp at hp,by intro p hp;simp at hp,by intro g hg;simp[Value.ownBlock]at hg,by intro g hg;simp[Value.ownBlock]at hg,by intro g hg;simp[Value.ownBlock]at hg,fun k hk=>hk.elim⟩,by simp,by simp,by simp,by simp[st0],HR0⟩
 case round=>
  generalize wr=w5 at *;obtain⟨B5,s5,F5,v5,v6,v7,sv,cv,av,m,h5,hi5,hp5,ln,lc,la,hm5,hr5⟩:=hrel;have HR:=zC hr5;clear hr5 HR0;obtain⟨m,rfl⟩:∃t,m=t+1:=⟨m - 1,by omega⟩;have l5:=zn zI S s5.i hi5;have hbl5:=h5.lt;have z5:=B5.size
  by_cases e0:zV S (run zI S s5.i)=0
  ·have HR1:Hd (R= .ok (⟨sv.map (fun p=>p.1),cv.map (fun p=>p.1),av.map (fun p=>p.1)⟩,s5.sk S)):=by show _=_;rw[HR.o,Ic (PK l5.2 e0)]
   go_wp2_with fail;refine(Jl h5 hS hi5).mono ?_;rintro e w6 ⟨rfl,h6,g6⟩;rw[e0];clear e0;have B6:=B5.trans (g6.belb (lo:=lo) (by omega) (by simp));go_wp2_with fail
   go_end0
   exact⟨B6,Or.inl ⟨_,F5,_,_,_,sv,cv,av,HR1.o,rfl,h6,hp5.kp g6 (by simp),l5.2⟩⟩
  by_cases e1:zV S (run zI S s5.i)=10
  ·have HR1:Hd (R=match jg S Ji ⟨sv.map (fun p=>p.1),cv.map (fun p=>p.1),av.map (fun p=>p.1)⟩ (s5.sk S)with|.error d=> .error d|.ok (D',s2)=>jC S m (s2.sk S) D'):=by show _=_;rw[HR.o,Uy hi5 (k:=10) (W:=Ji) (by omega) rfl (by simp[Jf]) e1]
   go_wp2_with fail;refine(Jl h5 hS hi5).mono ?_;rintro e w6 ⟨rfl,h6,g6⟩;rw[e1];clear e0 e1;have B6:=B5.trans (g6.belb (lo:=lo) (by omega) (by simp));have hp6:=hp5.kp g6 (by simp);go_wp2_with fail;refine(Tl h6 hS (by rw[yT];exact l5.2) hp6 (by have:=B6.size;omega) (by omega) (by omega)).mono ?_;rintro e w7 ⟨B7,⟨s7,F7,u5,u6,u7,sv',cv',av',hr,rfl,h7,hp7,hi7⟩|⟨d,hr,hg⟩⟩
   ·rw[hr]at HR1
    have lo7:=U5 (by rw[yT];exact l5.2) (by decide) hr;simp only[yT,List.length_map]at lo7;simp only at HR1;clear hr;go_wp2_with fail;go_roundw
    case rel=>exact⟨B6.trans B7,s7,F7,u5,u6,u7,sv',cv',av',m,h7,hi7,hp7,by omega,by omega,by omega,by omega,HR1.o⟩
    case measure=>rw[h5.penI,h7.penI];omega
   ·rw[hr]at HR1
    simp only at HR1;clear hr;obtain⟨rfl,ht⟩:=hg;exact zY (P:=Tryz.prog) (fn:=Tryz.f40) rfl ⟨B6.trans B7,Or.inr ⟨d,HR1.o,⟨rfl,ht⟩⟩⟩
  by_cases e2:zV S (run zI S s5.i)=17
  ·have HR1:Hd (R=match jg S Jj ⟨sv.map (fun p=>p.1),cv.map (fun p=>p.1),av.map (fun p=>p.1)⟩ (s5.sk S)with|.error d=> .error d|.ok (D',s2)=>jC S m (s2.sk S) D'):=by show _=_;rw[HR.o,Uy hi5 (k:=17) (W:=Jj) (by omega) rfl (by simp[Jf]) e2]
   go_wp2_with fail;refine(Jl h5 hS hi5).mono ?_;rintro e w6 ⟨rfl,h6,g6⟩;rw[e2];clear e0 e1 e2;have B6:=B5.trans (g6.belb (lo:=lo) (by omega) (by simp));have hp6:=hp5.kp g6 (by simp);go_wp2_with fail;refine(PY h6 hS (by rw[yT];exact l5.2) hp6 (by have:=B6.size;omega) (by omega) (by omega)).mono ?_;rintro e w7 ⟨B7,⟨s7,F7,u5,u6,u7,sv',cv',av',hr,rfl,h7,hp7,hi7⟩|⟨d,hr,hg⟩⟩
   ·rw[hr]at HR1
    have lo7:=U5 (by rw[yT];exact l5.2) (by decide) hr;simp only[yT,List.length_map]at lo7;simp only at HR1;clear hr;go_wp2_with fail;go_roundw
    case rel=>exact⟨B6.trans B7,s7,F7,u5,u6,u7,sv',cv',av',m,h7,hi7,hp7,by omega,by omega,by omega,by omega,HR1.o⟩
    case measure=>rw[h5.penI,h7.penI];omega
   ·rw[hr]at HR1
    simp only at HR1;clear hr;obtain⟨rfl,ht⟩:=hg;exact zY (P:=Tryz.prog) (fn:=Tryz.f40) rfl ⟨B6.trans B7,Or.inr ⟨d,HR1.o,⟨rfl,ht⟩⟩⟩
  by_cases e3:zV S (run zI S s5.i)=18
  ·have HR1:Hd (R=match jg S JR ⟨sv.map (fun p=>p.1),cv.map (fun p=>p.1),av.map (fun p=>p.1)⟩ (s5.sk S)with|.error d=> .error d|.ok (D',s2)=>jC S m (s2.sk S) D'):=by show _=_;rw[HR.o,Uy hi5 (k:=18) (W:=JR) (by omega) rfl (by simp[Jf]) e3]
   go_wp2_with fail;refine(Jl h5 hS hi5).mono ?_;rintro e w6 ⟨rfl,h6,g6⟩;rw[e3];clear e0 e1 e2 e3;have B6:=B5.trans (g6.belb (lo:=lo) (by omega) (by simp));have hp6:=hp5.kp g6 (by simp);go_wp2_with fail;refine(Pn h6 hS (by rw[yT];exact l5.2) hp6 (by have:=B6.size;omega) (by omega) (by omega)).mono ?_;rintro e w7 ⟨B7,⟨s7,F7,u5,u6,u7,sv',cv',av',hr,rfl,h7,hp7,hi7⟩|⟨d,hr,hg⟩⟩
   ·rw[hr]at HR1
    have lo7:=U5 (by rw[yT];exact l5.2) (by decide) hr;simp only[yT,List.length_map]at lo7;simp only at HR1;clear hr;go_wp2_with fail;go_roundw
    case rel=>exact⟨B6.trans B7,s7,F7,u5,u6,u7,sv',cv',av',m,h7,hi7,hp7,by omega,by omega,by omega,by omega,HR1.o⟩
    case measure=>rw[h5.penI,h7.penI];omega
   ·rw[hr]at HR1
    simp only at HR1;clear hr;obtain⟨rfl,ht⟩:=hg;exact zY (P:=Tryz.prog) (fn:=Tryz.f40) rfl ⟨B6.trans B7,Or.inr ⟨d,HR1.o,⟨rfl,ht⟩⟩⟩
  by_cases e4:zV S (run zI S s5.i)=19
  ·have HR1:Hd (R=match jg S ZM ⟨sv.map (fun p=>p.1),cv.map (fun p=>p.1),av.map (fun p=>p.1)⟩ (s5.sk S)with|.error d=> .error d|.ok (D',s2)=>jC S m (s2.sk S) D'):=by show _=_;rw[HR.o,Uy hi5 (k:=19) (W:=ZM) (by omega) rfl (by simp[Jf]) e4]
   go_wp2_with fail;refine(Jl h5 hS hi5).mono ?_;rintro e w6 ⟨rfl,h6,g6⟩;rw[e4];clear e0 e1 e2 e3 e4;have B6:=B5.trans (g6.belb (lo:=lo) (by omega) (by simp));have hp6:=hp5.kp g6 (by simp);go_wp2_with fail;refine(SY h6 hS (by rw[yT];exact l5.2) hp6 (by have:=B6.size;omega) (by omega) (by omega)).mono ?_;rintro e w7 ⟨B7,⟨s7,F7,u5,u6,u7,sv',cv',av',hr,rfl,h7,hp7,hi7⟩|⟨d,hr,hg⟩⟩
   ·rw[hr]at HR1
    have lo7:=U5 (by rw[yT];exact l5.2) (by decide) hr;simp only[yT,List.length_map]at lo7;simp only at HR1;clear hr;go_wp2_with fail;go_roundw
    case rel=>exact⟨B6.trans B7,s7,F7,u5,u6,u7,sv',cv',av',m,h7,hi7,hp7,by omega,by omega,by omega,by omega,HR1.o⟩
    case measure=>rw[h5.penI,h7.penI];omega
   ·rw[hr]at HR1
    simp only at HR1;clear hr;obtain⟨rfl,ht⟩:=hg;exact zY (P:=Tryz.prog) (fn:=Tryz.f40) rfl ⟨B6.trans B7,Or.inr ⟨d,HR1.o,⟨rfl,ht⟩⟩⟩
  have HR1:Hd (R= .error (run zI S s5.i)):=by show _=_;rw[HR.o,aE hi5 e0 e1 e2 e3 e4]
  have q0:(zV S (run zI S s5.i)==0)=false:=by simp[e0]
  have q1:(zV S (run zI S s5.i)==10)=false:=by simp[e1]
  have q2:(zV S (run zI S s5.i)==17)=false:=by simp[e2]
  have q3:(zV S (run zI S s5.i)==18)=false:=by simp[e3]
  have q4:(zV S (run zI S s5.i)==19)=false:=by simp[e4]
  go_wp2_with fail;refine(Jl h5 hS hi5).mono ?_;rintro e w6 ⟨rfl,h6,g6⟩;clear e0 e1 e2 e3 e4;generalize zV S (run zI S s5.i)=sg at *;go_wp2_with fail;refine(ZB h6).mono ?_;rintro e w7 ⟨hg,g7⟩;obtain⟨rfl,ht⟩:=hg;exact zY (P:=Tryz.prog) (fn:=Tryz.f40) rfl ⟨B5.trans ((g6.trans g7).belb (by omega) (by simp)),Or.inr ⟨_,HR1.o,⟨rfl,ht⟩⟩⟩
end Go.Proofs.YteobgfbgglfkbaaGreat
