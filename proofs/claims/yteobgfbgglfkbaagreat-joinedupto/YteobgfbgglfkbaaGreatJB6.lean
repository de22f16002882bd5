import Derived.Test.YteobgfbgglfkbaaGreatJB5
set_option maxHeartbeats 6400000
set_option maxRecDepth 100000
namespace Go.Proofs.YteobgfbgglfkbaaGreat
open Go.RowKit
attribute [local go_sem ↓] Go.wp_at_zero Go.wp_at_succ
theorem BP{p:Int->Bool}(h:p (-1)=false)(S:ByteArray):∀n i,S.size<=n+i->p (bt S (YQ p S n i))=false
 |0,i,hn=>by simp only[YQ];rw[YL (by omega)];exact h
 |n+1,i,hn=>by
  simp only[YQ];cases hp:p (bt S i)
  ·simpa using hp
  ·simp only[if_true]
   exact BP h S n (i+1) (by omega)
theorem Ib{p:Int->Bool}(h:p (-1)=false)(S:ByteArray)(i:Nat):p (bt S (run p S i))=false:=BP h S _ _ (by omega)
theorem ZJ(S:ByteArray)(i:Nat):run zI S (run zI S i)=run zI S i:=Z9 (Ib rfl S i)
theorem yT{S:ByteArray}{s:St}:(s.sk S).i=run zI S s.i:=rfl
theorem Ky{S:ByteArray}{s:St}:(s.sk S).sk S=s.sk S:=by simp only[St.sk,ZJ]
theorem Tt{S:ByteArray}{s:St}(h:zI (bt S s.i)=false):s.sk S=s:=by simp only[St.sk,Z9 h]
def pk(k:Int):Int:=if k=116 then 0 else if k=98 then 1 else if k=117 then 2 else 3
def KG(p:Int×ByteArray)(v:Value)(_:World):Prop:=v= .agg #[.int .i64 (pk p.1),.string p.2]
def jn(P:List (Int×ByteArray)):List Value:=P.flatMap fun p=>[.int .i64 (pk p.1),.string p.2]
theorem OR(P:List (Int×ByteArray))(p:Int×ByteArray):jn (P++[p])=jn P++[.int .i64 (pk p.1),.string p.2]:=by simp[jn]
theorem zE.fill2{w5:World}{H:Nat}{x0 x1:Value}{T:TypeId}(R:zE w5 H #[x0,x1] T)(y0 y1:Value):
 zE ((w5.setCell ⟨H,0,none⟩ y0).setCell ⟨H,1,none⟩ y1) H #[y0,y1] T/\Ch [H] w5 ((w5.setCell ⟨H,0,none⟩ y0).setCell ⟨H,1,none⟩ y1):=by
 have r0:zE (w5.setCell ⟨H,0,none⟩ y0) H #[y0,x1] T:=R.set 0 y0;have r1:zE ((w5.setCell ⟨H,0,none⟩ y0).setCell ⟨H,1,none⟩ y1) H #[y0,y1] T:=r0.set 1 y1;exact⟨r1,(Ch.setCell _ (by simp) _).trans (Ch.setCell _ (by simp) _)⟩
theorem Ai{S:ByteArray}{s:St}(h:bt S (run zI S s.i)=34):yk S s=match Jx S (s.sk S)with|.ok ((x,_),s1)=> .ok ((116,x),s1)|.error d=> .error d:=by
 unfold yk Jx;rw[if_pos h]
 cases yW S (s.sk S)with
 |error d=>rfl
 |ok q=>obtain⟨⟨x,a⟩,s1⟩:=q;rfl
theorem Xf{S:ByteArray}{s:St}(hi:s.i<=S.size){k:Int}{W:ByteArray}{c:Int}(hk:10<=k)(hW:jU W=k)(hL:W∈Ju)(hc:bt W 0=c)(hs:zV S (run zI S s.i)=k):
 ∃p s1,Zh S k (s.sk S)= .ok (p,s1)/\yk S s= .ok ((c,ByteArray.empty),s1):=by
 have l1:=zn zI S s.i hi;have hx:=(Zm l1.2 hk hW).1 hs
 have hne:¬bt S (run zI S s.i)=34:=by
  intro e;have:=(Yv l1.2 (k:=3) (c:=34) (by simp[jd])).2 e;omega
 have h1:=LQ (s:=s.sk S) (by simp only[yT];exact l1.2) hk hW
 have hw:yI S [W] (s.sk S)= .ok ((W,run zI S s.i),{s with i:=run zR S (run zI S s.i)}):=by
  unfold yI;simp only[yT,ZJ,hx];rw[if_pos (Jv.2 (by simp))]
  try rfl
 rw[hw]at h1;refine⟨_,_,h1,?_⟩;unfold yk;rw[if_neg hne]
 have hw2:yI S Ju (s.sk S)= .ok ((W,run zI S s.i),{s with i:=run zR S (run zI S s.i)}):=by
  unfold yI;simp only[yT,ZJ,hx];rw[if_pos (Jv.2 hL)]
  try rfl
 rw[hw2,<- hc]
theorem IJ{S:ByteArray}{s:St}(hi:s.i<=S.size)(h3:¬zV S (run zI S s.i)=3)(h4:¬zV S (run zI S s.i)=14)(h5:¬zV S (run zI S s.i)=15)(h6:¬zV S (run zI S s.i)=16):
 yk S s= .error (run zI S s.i):=by
 have l1:=zn zI S s.i hi
 have hne:¬bt S (run zI S s.i)=34:=fun e=>h3 ((Yv l1.2 (k:=3) (c:=34) (by simp[jd])).2 e)
 unfold yk;rw[if_neg hne];unfold yI;simp only[yT,ZJ]
 have:¬JS Ju (S.extract (run zI S s.i) (run zR S (run zI S s.i)))=true:=by
  rw[Jv];intro e;simp only[Ju,List.mem_cons,List.not_mem_nil,or_false]at e
  rcases e with e|e|e
  ·exact h4 ((Zm l1.2 (k:=14) (by omega) rfl).2 e)
  ·exact h5 ((Zm l1.2 (k:=15) (by omega) rfl).2 e)
  ·exact h6 ((Zm l1.2 (k:=16) (by omega) rfl).2 e)
 rw[if_neg this]
theorem Bu{w:World}{b:Nat}{S:ByteArray}{s:St}{v5 v6 v7:Value}(h:zP w b S s v5 v6 v7)(hS:S.size<=400)(hi:s.i<=S.size):
 Calls Tryz.prog 216 #[.pointer (some ⟨b,0,none⟩)] w (Jp w b S v5 v6 v7 KG (yk S s)):=by
 have hbl:=h.lt;have l1:=zn zI S s.i hi;have h0:=h.kp (Ch.alloc [] w (.cells #[.int .i64 0,.string ⟨#[]⟩] 312)) (by simp);have B0:=zE.new w #[.int .i64 0,.string ⟨#[]⟩] 312;have g0:=Ch.alloc [b] w (.cells #[.int .i64 0,.string ⟨#[]⟩] 312);go_enter Tryz.func216,Tryz.ntmps216;go_wp2_with fail;generalize w.alloc (.cells #[.int .i64 0,.string ⟨#[]⟩] 312)=w0 at *;refine(Jl h0 hS hi).mono ?_;rintro e w1 ⟨rfl,h1,g1⟩;have B1:=B0.kp g1 (by simp;omega);have G1:=g0.trans g1;have z1:=G1.size
 by_cases e3:zV S (run zI S s.i)=3
 ·have hb:=(Yv l1.2 (k:=3) (c:=34) (by simp[jd])).1 e3
  rw[e3];go_wp2_with fail;refine(U3 h1 hS (by simp only[yT];exact l1.2)).mono ?_;rintro e w2 ⟨g2,⟨⟨x,a⟩,s2,v,hl,rfl,hv,h2⟩|⟨d,hl,hg⟩⟩
  ·have HR:Hd (yk S s= .ok ((116,x),s2)):=by show _=_;rw[Ai hb,hl]
   unfold Yr at hv;subst hv;clear hl hb e3;have B2:=B1.kp g2 (by simp;omega);have y0:=B2.cl 0 _ rfl;have y1:=B2.cl 1 _ rfl;have fy:=B2.fz;go_wp2_with fail;obtain⟨R3,G3⟩:=B2.fill2 (.int .i64 0) (.string x);have g3:=(G1.trans g2).trans' G3 (by intro k hk;simp at hk;omega);have h3:=h2.kp G3 (by simp;omega);generalize (w2.setCell ⟨w.heap.size,0,none⟩ (.int .i64 0)).setCell ⟨w.heap.size,1,none⟩ (.string x)=w3 at *;clear y0 y1;have y0:=R3.cl 0 _ rfl;have y1:=R3.cl 1 _ rfl;exact bodyPost_ret (v:= .agg #[.int .i64 0,.string x]) (by simp[results,Tryz.results216,go_sem,y0,y1]) rfl ⟨g3,Or.inl ⟨_,_,_,HR.o,rfl,rfl,h3⟩⟩
  ·have HR:Hd (yk S s= .error d):=by show _=_;rw[Ai hb,hl]
   clear hl;obtain⟨rfl,ht⟩:=hg;exact zY rfl ⟨G1.trans g2,Or.inr ⟨d,HR.o,⟨rfl,ht⟩⟩⟩
 ·have key:(zV S (run zI S s.i)=14\/zV S (run zI S s.i)=15\/zV S (run zI S s.i)=16)\/(¬zV S (run zI S s.i)=14/\¬zV S (run zI S s.i)=15/\¬zV S (run zI S s.i)=16):=by omega
  rcases key with key|⟨e4,e5,e6⟩
  ·have key2:∃k c:Int,(k=14/\c=98\/k=15/\c=117\/k=16/\c=108)/\zV S (run zI S s.i)=k/\∃p s1,Zh S k (s.sk S)= .ok (p,s1)/\yk S s= .ok ((c,ByteArray.empty),s1):=by
    rcases key with e|e|e
    ·exact⟨14,98,by omega,e,Xf hi (W:=⟨#[98,121,116,101]⟩) (by omega) rfl (by simp[Ju]) rfl e⟩
    ·exact⟨15,117,by omega,e,Xf hi (W:=⟨#[117,112,112,101,114]⟩) (by omega) rfl (by simp[Ju]) rfl e⟩
    ·exact⟨16,108,by omega,e,Xf hi (W:=⟨#[108,111,119,101,114]⟩) (by omega) rfl (by simp[Ju]) rfl e⟩
   obtain⟨k,c,hkc,hsg,p,s2,ht,hpr⟩:=key2;rw[hsg];have HT:=zC ht;have HR:=zC hpr;clear key ht hpr hsg e3
   have hpk:pk c=k - 13:=by rcases hkc with⟨rfl,rfl⟩|⟨rfl,rfl⟩|⟨rfl,rfl⟩ <;>rfl
   have HP:=zC hpk;clear hpk
   rcases hkc with⟨rfl,rfl⟩|⟨rfl,rfl⟩|⟨rfl,rfl⟩
   all_goals
    go_wp2_with fail;refine(V1 h1 hS (by simp only[yT];exact l1.2) _ (by decide)).mono ?_;rintro e w2 ⟨g2,⟨p',s2',ht,rfl,h2,hi2⟩|⟨d,ht,hg,_⟩⟩
    ·have:=HT.o.symm.trans ht
     injection this with this
     injection this with e1 e2
     subst e1 e2;clear ht;have B2:=B1.kp g2 (by simp;omega);have y0:=B2.cl 0 _ rfl;have y1:=B2.cl 1 _ rfl;have fy:=B2.fz;go_wp2_with fail
     first
      |obtain⟨R3,G3⟩:=B2.fill2 (.int .i64 1) (.string ⟨#[]⟩)
       have g3:=(G1.trans g2).trans' G3 (by intro k hk;simp at hk;omega);have h3:=h2.kp G3 (by simp;omega);generalize (w2.setCell ⟨w.heap.size,0,none⟩ (.int .i64 1)).setCell ⟨w.heap.size,1,none⟩ (.string ⟨#[]⟩)=w3 at *;have y0:=R3.cl 0 _ rfl;have y1:=R3.cl 1 _ rfl;exact bodyPost_ret (v:= .agg #[.int .i64 1,.string ⟨#[]⟩]) (by simp[results,Tryz.results216,go_sem,y0,y1]) rfl ⟨g3,Or.inl ⟨_,_,_,HR.o,rfl,rfl,h3⟩⟩
      |obtain⟨R3,G3⟩:=B2.fill2 (.int .i64 2) (.string ⟨#[]⟩)
       have g3:=(G1.trans g2).trans' G3 (by intro k hk;simp at hk;omega);have h3:=h2.kp G3 (by simp;omega);generalize (w2.setCell ⟨w.heap.size,0,none⟩ (.int .i64 2)).setCell ⟨w.heap.size,1,none⟩ (.string ⟨#[]⟩)=w3 at *;have y0:=R3.cl 0 _ rfl;have y1:=R3.cl 1 _ rfl;exact bodyPost_ret (v:= .agg #[.int .i64 2,.string ⟨#[]⟩]) (by simp[results,Tryz.results216,go_sem,y0,y1]) rfl ⟨g3,Or.inl ⟨_,_,_,HR.o,rfl,rfl,h3⟩⟩
      |obtain⟨R3,G3⟩:=B2.fill2 (.int .i64 3) (.string ⟨#[]⟩)
       have g3:=(G1.trans g2).trans' G3 (by intro k hk;simp at hk;omega);have h3:=h2.kp G3 (by simp;omega);generalize (w2.setCell ⟨w.heap.size,0,none⟩ (.int .i64 3)).setCell ⟨w.heap.size,1,none⟩ (.string ⟨#[]⟩)=w3 at *;have y0:=R3.cl 0 _ rfl;have y1:=R3.cl 1 _ rfl;exact bodyPost_ret (v:= .agg #[.int .i64 3,.string ⟨#[]⟩]) (by simp[results,Tryz.results216,go_sem,y0,y1]) rfl ⟨g3,Or.inl ⟨_,_,_,HR.o,rfl,rfl,h3⟩⟩
    ·have:=HT.o.symm.trans ht
     cases this
  ·have HR:Hd (yk S s= .error (run zI S s.i)):=IJ hi e3 e4 e5 e6
   have q3:(zV S (run zI S s.i)==3)=false:=by simp[e3]
   have q4:(zV S (run zI S s.i)==14)=false:=by simp[e4]
   have q5:(zV S (run zI S s.i)==15)=false:=by simp[e5]
   have q6:(zV S (run zI S s.i)==16)=false:=by simp[e6]
   clear e3 e4 e5 e6;go_wp2_with fail;refine(ZB h1).mono ?_;rintro e w2 ⟨hg,g2⟩;obtain⟨rfl,ht⟩:=hg;exact zY rfl ⟨G1.trans g2,Or.inr ⟨_,HR.o,⟨rfl,ht⟩⟩⟩
def Pi(w:World)(b:Nat)(S:ByteArray)(v5 v6 v7:Value)(c:Int)(s:St)(e:Ending)(w':World):Prop:=
 Ch [b] w w'/\((∃s',zh S c s= .ok s'/\e= .returned (.int .i64 (run zI S s.i))/\zP w' b S s' v5 v6 v7/\s'.i<=S.size)\/(∃d,zh S c s= .error d/\Zv w' b S d e))
def Dp(w:World)(b:Nat)(S:ByteArray)(v5 v6 v7:Value)(r:Except Nat ((ByteArray×Nat)×St))(e:Ending)(w':World):Prop:=
 Ch [b] w w'/\((∃x p s',r= .ok ((x,p),s')/\e= .returned (.int .i64 (p:Nat))/\zP w' b S s' v5 v6 v7/\s'.i<=S.size)\/(∃d,r= .error d/\Zv w' b S d e))
theorem Yt{w:World}{b:Nat}{S:ByteArray}{s:St}{v5 v6 v7:Value}(h:zP w b S s v5 v6 v7)(hS:S.size<=400)(hi:s.i<=S.size){k c:Int}(hk:(k,c)∈jd):
 Calls Tryz.prog 112 #[.pointer (some ⟨b,0,none⟩),.int .i64 k] w (Pi w b S v5 v6 v7 c s):=by
 have hk1:1<=k:=by
  have hk':(k=3/\c=34)\/(k=4/\c=91)\/(k=5/\c=47)\/(k=6/\c=123)\/(k=7/\c=125)\/(k=8/\c=61)\/(k=9/\c=59):=by
   simpa[jd]using hk
  omega
 refine(V1 h hS hi k hk1).mono ?_;rintro e w1 ⟨g1,⟨p,s1,ht,rfl,h1,hi1⟩|⟨d,ht,hg,_⟩⟩
 all_goals rw[Xa hi hk]at ht
 ·refine⟨g1,Or.inl ?_⟩
  cases hs:zh S c s with
  |error d=>rw[hs]at ht;cases ht
  |ok s'=>
   rw[hs]at ht
   injection ht with ht;injection ht with e1 e2;subst e1 e2
   exact⟨_,rfl,rfl,h1,hi1⟩
 ·refine⟨g1,Or.inr ?_⟩
  cases hs:zh S c s with
  |error d'=>rw[hs]at ht;injection ht with ht;subst ht;exact⟨_,rfl,hg⟩
  |ok s'=>rw[hs]at ht;cases ht
theorem Qx{w:World}{b:Nat}{S:ByteArray}{s:St}{v5 v6 v7:Value}(h:zP w b S s v5 v6 v7)(hS:S.size<=400)(hi:s.i<=S.size){k:Int}{W:ByteArray}(hk:10<=k)(hW:jU W=k):
 Calls Tryz.prog 112 #[.pointer (some ⟨b,0,none⟩),.int .i64 k] w (Dp w b S v5 v6 v7 (yI S [W] s)):=by
 refine(V1 h hS hi k (by omega)).mono ?_;rintro e w1 ⟨g1,⟨p,s1,ht,rfl,h1,hi1⟩|⟨d,ht,hg,_⟩⟩
 all_goals rw[LQ hi hk hW]at ht
 ·refine⟨g1,Or.inl ?_⟩
  cases hs:yI S [W] s with
  |error d=>rw[hs]at ht;cases ht
  |ok s'=>
   obtain⟨⟨x,p'⟩,s'⟩:=s';rw[hs]at ht
   injection ht with ht;injection ht with e1 e2;subst e1 e2
   exact⟨_,_,_,rfl,rfl,h1,hi1⟩
 ·refine⟨g1,Or.inr ?_⟩
  cases hs:yI S [W] s with
  |error d'=>rw[hs]at ht;injection ht with ht;subst ht;exact⟨_,rfl,hg⟩
  |ok s'=>obtain⟨⟨x,p'⟩,s'⟩:=s';rw[hs]at ht;cases ht
theorem Hx{w:World}{b:Nat}{S:ByteArray}{s:St}{v5 v6 v7:Value}(h:zP w b S s v5 v6 v7)(hS:S.size<=400)(hi:s.i<=S.size):
 Calls Tryz.prog 112 #[.pointer (some ⟨b,0,none⟩),.int .i64 2] w (Dp w b S v5 v6 v7 (yA S s)):=by
 refine(V1 h hS hi 2 (by omega)).mono ?_;rintro e w1 ⟨g1,⟨p,s1,ht,rfl,h1,hi1⟩|⟨d,ht,hg,_⟩⟩
 all_goals rw[SR hi]at ht
 ·refine⟨g1,Or.inl ?_⟩
  cases hs:yA S s with
  |error d=>rw[hs]at ht;cases ht
  |ok s'=>
   obtain⟨⟨x,p'⟩,s'⟩:=s';rw[hs]at ht
   injection ht with ht;injection ht with e1 e2;subst e1 e2
   exact⟨_,_,_,rfl,rfl,h1,hi1⟩
 ·refine⟨g1,Or.inr ?_⟩
  cases hs:yA S s with
  |error d'=>rw[hs]at ht;injection ht with ht;subst ht;exact⟨_,rfl,hg⟩
  |ok s'=>obtain⟨⟨x,p'⟩,s'⟩:=s';rw[hs]at ht;cases ht
def Ys(w:World)(P:List (Int×ByteArray))(v:Value)(w':World):Prop:=
 (∃a n c,v= .slice a n c)/\w'.ownsRow 0 312 2 v P.length (jn P)/\∀g,v.ownBlock=some g->w.heap.size<=g/\g<w'.heap.size
def VM(S:ByteArray)(n:Nat)(s:St)(P:List (Int×ByteArray)):Except Nat (List (Int×ByteArray)×St):=
 if bt S (run zI S s.i)=59 then .ok (P,s.sk S)else jq S n (s.sk S) P
theorem Do{S:ByteArray}{n:Nat}{s s1:St}{P:List (Int×ByteArray)}{p:Int×ByteArray}(h:yk S (zL (decide (3<=(P.length:Int))) 3 (s.sk S).i (s.sk S))= .ok (p,s1)):jq S (n+1) s P=VM S n s1 (P++[p]):=by
 simp only[jq,h,VM]
theorem Nv{S:ByteArray}{n:Nat}{s:St}{P:List (Int×ByteArray)}{d:Nat}(h:yk S (zL (decide (3<=(P.length:Int))) 3 (s.sk S).i (s.sk S))= .error d):jq S (n+1) s P= .error d:=by
 simp only[jq,h]
theorem DU{S:ByteArray}{s:St}:yk S (s.sk S)=yk S s:=by
 simp only[yk,yT,ZJ,Ky]
theorem CG:(Tryz.prog.info? 312).map (fun i=>(i.zero,i.size,i.bytes))=some (some (.agg #[.int .i64 0,.string ⟨#[]⟩]),2,24):=by kernel_rfl
theorem Ig(w:World)(E:TypeId)(xs:List Value):(w.alloc (.cells xs.toArray E)).ownsRow 0 E xs.length (.slice (some ⟨w.heap.size,0,none⟩) 1 1) 1 xs:=
 ⟨by simp,Or.inr ⟨w.heap.size,1,xs.toArray,rfl,Nat.zero_le _,zr _ _,Nat.le_refl _,by decide,by simp,by simp⟩⟩
def FC(S:ByteArray)(w:World)(b:Nat)(v5 v6 v7:Value)(r:Except Nat (List (Int×ByteArray)×St))(v:Value)(w5:World):Prop:=
 ∃(s5:St) (P:List (Int×ByteArray)) (m:Nat),Ys w P v w5/\zP w5 b S s5 v5 v6 v7/\s5.i<=S.size/\P.length<=s5.i/\S.size<m+s5.i/\Ch [b] w w5/\r=VM S m s5 P
theorem FL{w:World}{b:Nat}{S:ByteArray}{s:St}{v5 v6 v7:Value}(h:zP w b S s v5 v6 v7)(hS:S.size<=400)(hi:s.i<=S.size):
 Calls Tryz.prog 198 #[.pointer (some ⟨b,0,none⟩)] w (Jp w b S v5 v6 v7 (Ys w) (jq S (S.size+1) s [])):=by
 have hbl:=h.lt
 have e0:zL (decide (3<=(([]:List (Int×ByteArray)).length:Int))) 3 (s.sk S).i (s.sk S)=s.sk S:=by
  rw[show decide (3<=(([]:List (Int×ByteArray)).length:Int))=false from rfl,Zo]
 have HR0:Hd (∀r,yk S s=r->(∀p s1,r= .ok (p,s1)->jq S (S.size+1) s []=VM S S.size s1 [p])/\(∀d,r= .error d->jq S (S.size+1) s []= .error d)):=by
  intro r hr;refine⟨fun p s1 e=> ?_,fun d e=> ?_⟩
  ·subst e;rw[Do (p:=p) (s1:=s1) (by rw[e0,DU];exact hr)];rfl
  ·subst e;rw[Nv (d:=d) (by rw[e0,DU];exact hr)]
 clear e0;generalize jq S (S.size+1) s []=R at *;go_enter Tryz.func198,Tryz.ntmps198;go_wp2_with fail;refine(Bu h hS hi).mono ?_;rintro e w1 ⟨g1,⟨⟨k1,x1⟩,s1,v,hl,rfl,hv,h1⟩|⟨d,hl,hg⟩⟩
 ·unfold KG at hv
  subst hv;have HR:=zC ((HR0.o _ hl).1 _ _ rfl);have lo:=XI hi hl;clear hl HR0;simp only;have z1:=g1.size;have O2:=Ig w1 312 [.int .i64 (pk k1),.string x1];go_wp2_with fail
  go_loopw [3] (fun v w5=>FC S w b v5 v6 v7 R v w5) (fun _ w5=>S.size - penI b w5)
  case atStart=>exact⟨s1,[(k1,x1)],S.size,⟨⟨_,_,_,rfl⟩,O2,fun g hg=>by simp[Value.ownBlock]at hg;subst hg;simp;omega⟩,h1.kp (Ch.alloc [] _ _) (by simp),lo.2.1,by simp;omega,by omega,g1.trans (Ch.alloc _ _ _),HR⟩
  case round=>
   generalize wr=w5 at *;clear O2 HR;obtain⟨s5,P,m,⟨⟨a5,n5,c5,rfl⟩,O5,V5⟩,h5,hi5,hl5,hm5,g5,HR0⟩:=hrel;obtain⟨a5',c5',e5⟩:=zQ O5
   injection e5 with e5a e5b e5c
   subst e5a e5b e5c;have HR:=zC HR0;clear HR0;have l5:=zn zI S s5.i hi5;have z5:=g5.size
   by_cases hb:bt S (run zI S s5.i)=59
   ·have hsg:=(Yv l5.2 (k:=9) (c:=59) (by simp[jd])).2 hb
    have HR1:Hd (R= .ok (P,s5.sk S)):=by show _=_;rw[HR.o];simp only[VM,if_pos hb]
    go_wp2_with fail;refine(Jl h5 hS hi5).mono ?_;rintro e w6 ⟨rfl,h6,g6⟩;rw[hsg];clear hb hsg;have z6:=g6.size;go_wp2_with fail;go_ret;exact⟨g5.trans g6,Or.inl ⟨P,_,_,HR1.o,rfl,⟨⟨_,_,_,rfl⟩,zJ O5 g6 (fun k hk=>by have:=V5 k hk;simp;omega),fun g hg=>by have:=V5 g hg;omega⟩,h6⟩⟩
   ·obtain⟨m,rfl⟩:∃t,m=t+1:=⟨m - 1,by omega⟩
    have hsg:¬zV S (run zI S s5.i)=9:=fun e=>hb ((Yv l5.2 (k:=9) (c:=59) (by simp[jd])).1 e)
    have HR1:Hd (R=jq S (m+1) (s5.sk S) P):=by show _=_;rw[HR.o];simp only[VM,if_neg hb]
    have q1:(zV S (run zI S s5.i) !=9)=true:=by simp[hsg]
    have q2:(zV S (run zI S s5.i)==9)=false:=by simp[hsg]
    go_wp2_with fail;refine(Jl h5 hS hi5).mono ?_;rintro e w6 ⟨rfl,h6,g6⟩;clear hb hsg;generalize zV S (run zI S s5.i)=sg at *;have O6:=zJ O5 g6 (fun k hk=>by have:=V5 k hk;simp;omega);have z6:=g6.size;obtain⟨c0,c1,c2,c3,c4,c5'',c6,c7,fz⟩:=h6.fa;go_wp2_with fail;refine(QF h6 _ 3 _).mono ?_;rintro e w7 ⟨rfl,h7,g7⟩;clear c0 c1 c2 c3 c4 c5'' c6 c7 fz;have O7:=zJ O6 g7 (fun k hk=>by have:=V5 k hk;simp;omega);have z7:=g7.size;have hs7:(zL (decide (3<=(P.length:Int))) 3 (s5.sk S).i (s5.sk S)).i=run zI S s5.i:=ym;go_wp2_with fail;refine(Bu h7 hS (by rw[hs7];exact l5.2)).mono ?_;rintro e w8 ⟨g8,⟨⟨k8,x8⟩,s8,v,hl,rfl,hv,h8⟩|⟨d,hl,hg⟩⟩
    ·unfold KG at hv
     subst hv;have lo8:=XI (by rw[hs7];exact l5.2) hl;rw[hs7]at lo8
     have HR8:Hd (R=VM S m s8 (P++[(k8,x8)])):=by
      show _=_
      rw[HR1.o,Do (p:=(k8,x8)) (s1:=s8) (by rw[Ky];exact hl)]
     clear hl hs7;simp only;have O8:=zJ O7 g8 (fun k hk=>by have:=V5 k hk;simp;omega);have O9:=zJ O8 (Ch.alloc [] w8 (.cells #[.int .i64 (pk k8),.string x8] 312)) (by simp);have N9:=zr w8 (.cells #[.int .i64 (pk k8),.string x8] 312);have z8:=g8.size;have V5x:=zC V5;clear V5 O5 O6 O7 O8;go_wp2_with (at_builtin;refine QC 262 312 2 24 (.agg #[.int .i64 0,.string ⟨#[]⟩]) Tryz.underlying262 CG rfl (by omega) (by omega) (by rfl) _ _ (by rfl) (.slice a5 P.length c5) P.length _ (by rfl) O9 w8.heap.size [.int .i64 (pk k8),.string x8] (by rfl) N9 rfl (by simp;exact⟨rfl,rfl⟩) (by omega) (w8.heap.size+1) (by simp) ?_;intro g cap w13 own13 gr13 hat13 hlt13);have V5:=V5x.o
     have hg6:w.heap.size<=g:=by
      rcases hat13 with e|e
      ·exact(V5 g e).1
      ·omega
     have nb:b∉(Value.slice a5 P.length c5).ownBlock.toList:=by simp;intro e;have:=V5 _ e;omega
     have h13:=(h8.kp (Ch.alloc [] w8 (.cells #[.int .i64 (pk k8),.string x8] 312)) (by simp)).kp gr13 nb
     have C13:Ch [b] w w13:=by
      refine((g5.trans (g6.trans (g7.trans g8))).trans (Ch.alloc [b] _ _)).trans' gr13 (fun k hk=> ?_);simp at hk;exact Or.inr (V5 k hk).1
     go_roundw
     case rel=>
      exact⟨s8,P++[(k8,x8)],m,⟨⟨_,_,_,rfl⟩,by rw[OR,List.length_append];exact own13,fun k hk=>by simp[Value.ownBlock]at hk;subst hk;exact⟨hg6,hlt13⟩⟩,h13,lo8.2.1,by simp;omega,by omega,C13,HR8⟩
     case measure=>rw[h5.penI,h13.penI];omega
    ·have HR8:Hd (R= .error d):=by
      show _=_
      rw[HR1.o,Nv (d:=d) (by rw[Ky];exact hl)]
     clear hl;obtain⟨rfl,ht⟩:=hg;exact zY (P:=Tryz.prog) (fn:=Tryz.f198) rfl ⟨g5.trans (g6.trans (g7.trans g8)),Or.inr ⟨d,HR8.o,⟨rfl,ht⟩⟩⟩
 ·have HR:=zC ((HR0.o _ hl).2 _ rfl)
  clear hl;obtain⟨rfl,ht⟩:=hg;exact zY rfl ⟨g1,Or.inr ⟨d,HR.o,⟨rfl,ht⟩⟩⟩
theorem zE.c5{w:World}{B:Nat}{x0 x1 x2 x3 x4:Value}{T:TypeId}(h:zE w B #[x0,x1,x2,x3,x4] T):w.cell? ⟨B,0,none⟩=some x0/\w.cell? ⟨B,1,none⟩=some x1/\w.cell? ⟨B,2,none⟩=some x2/\w.cell? ⟨B,3,none⟩=some x3/\w.cell? ⟨B,4,none⟩=some x4:=
 ⟨h.cl 0 _ rfl,h.cl 1 _ rfl,h.cl 2 _ rfl,h.cl 3 _ rfl,h.cl 4 _ rfl⟩
def QX(w:World)(H:Nat)(y0 y1 y2 y3 y4:Value):World:=
 ((((w.setCell ⟨H,0,none⟩ y0).setCell ⟨H,1,none⟩ y1).setCell ⟨H,2,none⟩ y2).setCell ⟨H,3,none⟩ y3).setCell ⟨H,4,none⟩ y4
theorem zE.fill5{w5:World}{H:Nat}{x0 x1 x2 x3 x4:Value}{T:TypeId}(R:zE w5 H #[x0,x1,x2,x3,x4] T)(y0 y1 y2 y3 y4:Value):
 zE (QX w5 H y0 y1 y2 y3 y4) H #[y0,y1,y2,y3,y4] T/\Ch [H] w5 (QX w5 H y0 y1 y2 y3 y4):=by
 have r0:zE (w5.setCell ⟨H,0,none⟩ y0) H #[y0,x1,x2,x3,x4] T:=R.set 0 y0;have r1:zE ((w5.setCell ⟨H,0,none⟩ y0).setCell ⟨H,1,none⟩ y1) H #[y0,y1,x2,x3,x4] T:=r0.set 1 y1;have r2:zE (((w5.setCell ⟨H,0,none⟩ y0).setCell ⟨H,1,none⟩ y1).setCell ⟨H,2,none⟩ y2) H #[y0,y1,y2,x3,x4] T:=r1.set 2 y2;have r3:zE ((((w5.setCell ⟨H,0,none⟩ y0).setCell ⟨H,1,none⟩ y1).setCell ⟨H,2,none⟩ y2).setCell ⟨H,3,none⟩ y3) H #[y0,y1,y2,y3,x4] T:=r2.set 3 y3;have r4:zE (QX w5 H y0 y1 y2 y3 y4) H #[y0,y1,y2,y3,y4] T:=r3.set 4 y4;exact⟨r4,((((Ch.setCell _ (by simp) _).trans (Ch.setCell _ (by simp) _)).trans (Ch.setCell _ (by simp) _)).trans (Ch.setCell _ (by simp) _)).trans (Ch.setCell _ (by simp) _)⟩
def Hn(w:World)(p:List (Int×Int)×List (Int×ByteArray))(v:Value)(w':World):Prop:=
 ∃(q:Nat->Nat) (vp:Value),v= .agg #[.int .u64 (q 0),.int .u64 (q 1),.int .u64 (q 2),.int .u64 (q 3),vp]/\zU q (zo p.1)/\Ys w p.2 vp w'
theorem Ys.later{w w1 w2:World}{P:List (Int×ByteArray)}{v:Value}{X:List Nat}(h:Ys w P v w1)(g:Ch X w1 w2)(hX:∀k,k∈X->k<w.heap.size\/w1.heap.size<=k):Ys w P v w2:=by
 obtain⟨h1,h2,h3⟩:=h;refine⟨h1,zJ h2 g (fun k hk hx=> ?_),fun g' hg'=> ?_⟩
 ·have:=h3 k hk;have:=hX k hx;omega
 ·have:=h3 g' hg';have:=g.size;omega
theorem Ys.early{w0 w w1:World}{P:List (Int×ByteArray)}{v:Value}(h:Ys w P v w1)(hz:w0.heap.size<=w.heap.size):Ys w0 P v w1:=
 ⟨h.1,h.2.1,fun g hg=>by have:=h.2.2 g hg;omega⟩
def Vk(S:ByteArray)(L:List (Int×Int))(P:List (Int×ByteArray))(s:St):Except Nat ((List (Int×Int)×List (Int×ByteArray))×St):=
 match zh S 59 s with|.error d=> .error d|.ok s4=> .ok ((L,P),s4)
theorem GF{w:World}{b:Nat}{S:ByteArray}{s:St}{v5 v6 v7:Value}(h:zP w b S s v5 v6 v7)(hS:S.size<=400)(hb:bt S s.i=91):
 Calls Tryz.prog 153 #[.pointer (some ⟨b,0,none⟩)] w (Jp w b S v5 v6 v7 (Hn w) (y9 S s)):=by
 have hbl:=h.lt;have hsk:s.sk S=s:=Tt (by rw[hb];rfl);have h0:=h.kp (Ch.alloc [] w (.cells #[.int .u64 0,.int .u64 0,.int .u64 0,.int .u64 0,.slice none 0 0] 264)) (by simp);have B0:=zE.new w #[.int .u64 0,.int .u64 0,.int .u64 0,.int .u64 0,.slice none 0 0] 264;have g0:=Ch.alloc [b] w (.cells #[.int .u64 0,.int .u64 0,.int .u64 0,.int .u64 0,.slice none 0 0] 264);go_enter Tryz.func153,Tryz.ntmps153;go_wp2_with fail;generalize w.alloc (.cells #[.int .u64 0,.int .u64 0,.int .u64 0,.int .u64 0,.slice none 0 0] 264)=w0 at *;refine(Ap h0 hS hb).mono ?_;rintro e w1 ⟨g1,⟨L,s1,v,hl,rfl,⟨q,rfl,F1⟩,h1⟩|⟨d,hl,hg⟩⟩
 ·have HR1:Hd (∀r,yI S [Za] s1=r->(∀d,r= .error d->y9 S s= .error d)/\(∀x s2,r= .ok (x,s2)->(∀d,jt S s2= .error d->y9 S s= .error d)/\(∀P s3,jt S s2= .ok (P,s3)->y9 S s=Vk S L P s3))):=by
   intro r hr;refine⟨fun d e=> ?_,fun x s2 e=>⟨fun d e2=> ?_,fun P s3 e2=> ?_⟩⟩
   ·subst e;simp only[y9,hsk,hl,hr]
   ·subst e;simp only[y9,hsk,hl,hr,e2]
   ·subst e;simp only[y9,hsk,hl,hr,e2,Vk];try rfl
  have lo:=VO hl;clear hl hsk hb;have B1:=B0.kp g1 (by simp;omega);have G1:=g0.trans g1;have z1:=G1.size;have hH1:=B1.lt;rw[show zS q= .agg #[.int .u64 (q 0),.int .u64 (q 1),.int .u64 (q 2),.int .u64 (q 3)]from rfl];have h2:=h1.kp (Ch.alloc [] w1 (.cells #[.int .u64 (q 0),.int .u64 (q 1),.int .u64 (q 2),.int .u64 (q 3),.slice none 0 0] 264)) (by simp);have B2:=B1.kp (Ch.alloc [] w1 (.cells #[.int .u64 (q 0),.int .u64 (q 1),.int .u64 (q 2),.int .u64 (q 3),.slice none 0 0] 264)) (by simp);have D2:=zE.new w1 #[.int .u64 (q 0),.int .u64 (q 1),.int .u64 (q 2),.int .u64 (q 3),.slice none 0 0] 264;have G2:=G1.trans (Ch.alloc [b] w1 (.cells #[.int .u64 (q 0),.int .u64 (q 1),.int .u64 (q 2),.int .u64 (q 3),.slice none 0 0] 264));go_wp2_with fail;generalize hw2:w1.alloc (.cells #[.int .u64 (q 0),.int .u64 (q 1),.int .u64 (q 2),.int .u64 (q 3),.slice none 0 0] 264)=w2 at *;clear hw2;have z2:=D2.lt;refine(Qx h2 hS lo.2.1 (k:=12) (W:=Za) (by omega) rfl).mono ?_;rintro e w3 ⟨g3,⟨x3,p3,s3,hl,rfl,h3,hi3⟩|⟨d,hl,hg⟩⟩
  ·have HR2:=zC ((HR1.o _ hl).2 _ _ rfl)
   clear hl HR1;have B3:=B2.kp g3 (by simp;omega);have D3:=D2.kp g3 (by simp;omega);have G3:=G2.trans g3;have l3:=zn zI S s3.i hi3;have z3:=g3.size;go_wp2_with fail;refine(Jl h3 hS hi3).mono ?_;rintro e w4 ⟨rfl,h4,g4⟩;have B4:=B3.kp g4 (by simp;omega);have D4:=D3.kp g4 (by simp;omega);have G4:=G3.trans g4;have z4:=g4.size
   by_cases hs:zV S (run zI S s3.i)=13
   ·have hx:=(Zm l3.2 (k:=13) (W:=jy) (by omega) rfl).1 hs
    have HO:Hd (∀r,yI S [jy] (s3.sk S)=r->(∀d,r= .error d->jt S s3= .error d)/\(∀y s5,r= .ok (y,s5)->jt S s3= .ok ([],s5))):=by
     intro r hr;have:yQ (Uq S s3) jy=true:=Jh.2 hx;refine⟨fun d e=> ?_,fun y s5 e=> ?_⟩
     ·subst e;simp only[jt,this,if_true,hr]
     ·subst e;simp only[jt,this,if_true,hr]
    rw[hs];clear hs hx;go_wp2_with fail;refine(Qx h4 hS (by simp only[yT];exact l3.2) (k:=13) (W:=jy) (by omega) rfl).mono ?_;rintro e w5 ⟨g5,⟨x5,p5,s5,hl,rfl,h5,hi5⟩|⟨d,hl,hg⟩⟩
    ·have HR3:=zC (HR2.o.2 _ _ ((HO.o _ hl).2 _ _ rfl))
     clear hl HO HR2;have B5:=B4.kp g5 (by simp;omega);have D5:=D4.kp g5 (by simp;omega);have G5:=G4.trans g5;have z5:=g5.size;go_wp2_with fail;refine(Yt h5 hS hi5 (k:=9) (c:=59) (by simp[jd])).mono ?_;rintro e w6 ⟨g6,⟨s6,hl,rfl,h6,hi6⟩|⟨d,hl,hg⟩⟩
     ·have HR4:Hd (y9 S s= .ok ((L,[]),s6)):=by show _=_;rw[HR3.o];simp only[Vk,hl]
      clear hl HR3;have B6:=B5.kp g6 (by simp;omega);have D6:=D5.kp g6 (by simp;omega);have G6:=G5.trans g6;obtain⟨x0,x1,x2,x3,x4⟩:=D6.c5;obtain⟨y0,y1,y2,y3,y4⟩:=B6.c5;have fy:=B6.fz;go_wp2_with fail;obtain⟨R7,G7⟩:=B6.fill5 (.int .u64 (q 0)) (.int .u64 (q 1)) (.int .u64 (q 2)) (.int .u64 (q 3)) (.slice none 0 0);have g7:=G6.trans' G7 (by intro k hk;simp at hk;omega);have h7:=h6.kp G7 (by simp;omega);generalize hw7:QX w6 w.heap.size (.int .u64 (q 0)) (.int .u64 (q 1)) (.int .u64 (q 2)) (.int .u64 (q 3)) (.slice none 0 0)=w7 at *;unfold QX at hw7;rw[hw7];clear x0 x1 x2 x3 x4 y0 y1 y2 y3 y4;obtain⟨y0,y1,y2,y3,y4⟩:=R7.c5;exact bodyPost_ret (v:= .agg #[.int .u64 (q 0),.int .u64 (q 1),.int .u64 (q 2),.int .u64 (q 3),.slice none 0 0]) (by simp[results,Tryz.results153,go_sem,y0,y1,y2,y3,y4]) rfl ⟨g7,Or.inl ⟨_,_,_,HR4.o,rfl,⟨q,_,rfl,F1,⟨_,_,_,rfl⟩,⟨rfl,Or.inl ⟨rfl,rfl⟩⟩,fun g hg=>by simp[Value.ownBlock]at hg⟩,h7⟩⟩
     ·have HR4:Hd (y9 S s= .error d):=by show _=_;rw[HR3.o];simp only[Vk,hl]
      clear hl;obtain⟨rfl,ht⟩:=hg;exact zY rfl ⟨G5.trans g6,Or.inr ⟨d,HR4.o,⟨rfl,ht⟩⟩⟩
    ·have HR3:=zC (HR2.o.1 _ ((HO.o _ hl).1 _ rfl))
     clear hl;obtain⟨rfl,ht⟩:=hg;exact zY rfl ⟨G4.trans g5,Or.inr ⟨d,HR3.o,⟨rfl,ht⟩⟩⟩
   ·have HO:Hd (jt S s3=jq S (S.size+1) (s3.sk S) []):=by
     have:¬yQ (Uq S s3) jy=true:=fun e=>hs ((Zm l3.2 (k:=13) (W:=jy) (by omega) rfl).2 (Jh.1 e))
     show _=_
     simp only[jt,if_neg this]
    have q1:(zV S (run zI S s3.i)==13)=false:=by simp[hs]
    clear hs;generalize zV S (run zI S s3.i)=sg at *;go_wp2_with fail;refine(FL h4 hS (by simp only[yT];exact l3.2)).mono ?_;rintro e w5 ⟨g5,⟨P,s5,v,hl,rfl,hP,h5⟩|⟨d,hl,hg⟩⟩
    ·have HR3:=zC (HR2.o.2 _ _ (HO.o.trans hl))
     have lo5:=LG _ _ _ _ _ (by simp only[yT];exact l3.2) hl;clear hl HO HR2;have B5:=B4.kp g5 (by simp;omega);have D5:=D4.kp g5 (by simp;omega);have G5:=G4.trans g5;have z5:=g5.size;have hP':=hP;obtain⟨⟨pa,pn,pc,rfl⟩,OP,VP⟩:=hP';obtain⟨x0,x1,x2,x3,x4⟩:=D5.c5;have fx:=D5.fz;go_wp2_with fail;have D6:zE (w5.setCell ⟨w1.heap.size,4,none⟩ (.slice pa pn pc)) w1.heap.size #[.int .u64 (q 0),.int .u64 (q 1),.int .u64 (q 2),.int .u64 (q 3),.slice pa pn pc] 264:=D5.set 4 _;have C6:Ch [w1.heap.size] w5 (w5.setCell ⟨w1.heap.size,4,none⟩ (.slice pa pn pc)):=Ch.setCell _ (by simp) _;have h6:=h5.kp C6 (by simp;omega);have B6:=B5.kp C6 (by simp;omega);have G6:=G5.trans' C6 (by intro k hk;simp at hk;omega);have hP6:=(hP.later C6 (by intro k hk;simp at hk;omega)).early (show w.heap.size<=w4.heap.size by omega)
     have z6:(w5.setCell ⟨w1.heap.size,4,none⟩ (.slice pa pn pc)).heap.size=w5.heap.size:=by simp[World.setCell]
     generalize w5.setCell ⟨w1.heap.size,4,none⟩ (.slice pa pn pc)=w6 at *;clear x0 x1 x2 x3 x4 fx;refine(Yt h6 hS lo5.2 (k:=9) (c:=59) (by simp[jd])).mono ?_;rintro e w7 ⟨g7,⟨s7,hl,rfl,h7,hi7⟩|⟨d,hl,hg⟩⟩
     ·have HR4:Hd (y9 S s= .ok ((L,P),s7)):=by show _=_;rw[HR3.o];simp only[Vk,hl]
      clear hl HR3;have B7:=B6.kp g7 (by simp;omega);have D7:=D6.kp g7 (by simp;omega);have G7:=G6.trans g7;have hP7:=hP6.later g7 (by intro k hk;simp at hk;omega);have z7:=g7.size;obtain⟨x0,x1,x2,x3,x4⟩:=D7.c5;obtain⟨y0,y1,y2,y3,y4⟩:=B7.c5;have fy:=B7.fz;go_wp2_with fail;obtain⟨R8,G8⟩:=B7.fill5 (.int .u64 (q 0)) (.int .u64 (q 1)) (.int .u64 (q 2)) (.int .u64 (q 3)) (.slice pa pn pc);have g8:=G7.trans' G8 (by intro k hk;simp at hk;omega);have h8:=h7.kp G8 (by simp;omega)
      have hP8:Ys w P (.slice pa pn pc) (QX w7 w.heap.size (.int .u64 (q 0)) (.int .u64 (q 1)) (.int .u64 (q 2)) (.int .u64 (q 3)) (.slice pa pn pc)):=by
       refine⟨hP7.1,zJ hP7.2.1 G8 (fun k hk=> ?_),fun g hg=> ?_⟩
       ·have:=VP k hk;simp;omega
       ·have:=hP7.2.2 g hg;have:=G8.size;omega
      generalize hw8:QX w7 w.heap.size (.int .u64 (q 0)) (.int .u64 (q 1)) (.int .u64 (q 2)) (.int .u64 (q 3)) (.slice pa pn pc)=w8 at *;unfold QX at hw8;rw[hw8];clear x0 x1 x2 x3 x4 y0 y1 y2 y3 y4;obtain⟨y0,y1,y2,y3,y4⟩:=R8.c5;exact bodyPost_ret (v:= .agg #[.int .u64 (q 0),.int .u64 (q 1),.int .u64 (q 2),.int .u64 (q 3),.slice pa pn pc]) (by simp[results,Tryz.results153,go_sem,y0,y1,y2,y3,y4]) rfl ⟨g8,Or.inl ⟨_,_,_,HR4.o,rfl,⟨q,_,rfl,F1,hP8⟩,h8⟩⟩
     ·have HR4:Hd (y9 S s= .error d):=by show _=_;rw[HR3.o];simp only[Vk,hl]
      clear hl;obtain⟨rfl,ht⟩:=hg;exact zY rfl ⟨G6.trans g7,Or.inr ⟨d,HR4.o,⟨rfl,ht⟩⟩⟩
    ·have HR3:=zC (HR2.o.1 _ (HO.o.trans hl))
     clear hl;obtain⟨rfl,ht⟩:=hg;exact zY rfl ⟨G4.trans g5,Or.inr ⟨d,HR3.o,⟨rfl,ht⟩⟩⟩
  ·have HR2:=zC ((HR1.o _ hl).1 _ rfl)
   clear hl;obtain⟨rfl,ht⟩:=hg;exact zY rfl ⟨G2.trans g3,Or.inr ⟨d,HR2.o,⟨rfl,ht⟩⟩⟩
 ·have HR1:Hd (y9 S s= .error d):=by show _=_;simp only[y9,hsk,hl]
  clear hl;obtain⟨rfl,ht⟩:=hg;exact zY rfl ⟨g0.trans g1,Or.inr ⟨d,HR1.o,⟨rfl,ht⟩⟩⟩
def W5(w:World)(F:Nat->Prop)(q:Nat->Nat)(vp:Value)(D:yb):Prop:=
 zU q (zo D.cls)/\(∀g,vp.ownBlock=some g->F g)/\w.ownsRow 0 312 2 vp D.o.length (jn D.o)
def Zr(rv:List (yb×(Nat->Nat)×Value)):List Value:=rv.flatMap fun p=>[.int .u64 (p.2.1 0:Nat),.int .u64 (p.2.1 1:Nat),.int .u64 (p.2.1 2:Nat),.int .u64 (p.2.1 3:Nat),p.2.2]
def JO(w:World)(F:Nat->Prop)(v:Value)(R:List yb):Prop:=
 (∀g,v.ownBlock=some g->F g)/\∃rv:List (yb×(Nat->Nat)×Value),R=rv.map (fun p=>p.1)/\w.ownsRow 0 264 5 v rv.length (Zr rv)/\∀p,p∈rv->W5 w F p.2.1 p.2.2 p.1
theorem W5.frame{w w':World}{F G:Nat->Prop}{q:Nat->Nat}{vp:Value}{D:yb}(hF:∀k,F k->w'.heap[k]? =w.heap[k]?)(hG:∀k,F k->G k)(h:W5 w F q vp D):W5 w' G q vp D:=
 ⟨h.1,fun g hg=>hG _ (h.2.1 g hg),ju h.2.2 (fun k hk=>hF _ (h.2.1 k hk))⟩
theorem JO.frame{w w':World}{F G:Nat->Prop}{v:Value}{R:List yb}(hF:∀k,F k->w'.heap[k]? =w.heap[k]?)(hG:∀k,F k->G k)(h:JO w F v R):JO w' G v R:=by
 obtain⟨h1,rv,h2,h3,h4⟩:=h;exact⟨fun g hg=>hG _ (h1 g hg),rv,h2,ju h3 (fun k hk=>hF _ (h1 k hk)),fun p hp=>(h4 p hp).frame hF hG⟩
def PU(w:World)(R:List yb)(v:Value)(w':World):Prop:=(∃a n c,v= .slice a n c)/\∃F,JO w' F v R/\∀k,F k->w.heap.size<=k/\k<w'.heap.size
def ZF(S:ByteArray)(s:St):Except Nat (List yb×St):=
 match zh S 123 s with
 |.error d=> .error d
 |.ok s3=>
  match jj S (S.size+1) s3 []with
  |.error d=> .error d
  |.ok (R,s4)=>
   match zh S 125 s4 with
   |.error d=> .error d
   |.ok s5=> .ok (R,s5)
theorem CT:(Tryz.prog.info? 264).map (fun i=>(i.zero,i.size,i.bytes))=some (some (.agg #[.int .u64 0,.int .u64 0,.int .u64 0,.int .u64 0,.slice none 0 0]),5,56):=by kernel_rfl
def PP(S:ByteArray)(w:World)(b:Nat)(v5 v6 v7:Value)(r:Except Nat (List yb×St))(v:Value)(w5:World):Prop:=
 ∃(s5:St) (rv:List (yb×(Nat->Nat)×Value)) (F:Nat->Prop) (m:Nat),w5.ownsRow 0 264 5 v rv.length (Zr rv)/\(∀g,v.ownBlock=some g->w.heap.size<=g/\g<w5.heap.size)/\(∀p,p∈rv->W5 w5 F p.2.1 p.2.2 p.1)/\(∀k,F k->w.heap.size<=k/\k<w5.heap.size/\v.ownBlock≠some k)/\
  zP w5 b S s5 v5 v6 v7/\s5.i<=S.size/\rv.length<=s5.i/\S.size<m+s5.i/\Ch [b] w w5/\r=jj S m s5 (rv.map fun p=>p.1)
theorem Cx{w:World}{b:Nat}{S:ByteArray}{s:St}{v5 v6 v7:Value}(h:zP w b S s v5 v6 v7)(hS:S.size<=400)(hi:s.i<=S.size):
 Calls Tryz.prog 116 #[.pointer (some ⟨b,0,none⟩)] w (Jp w b S v5 v6 v7 (PU w) (ZF S s)):=by
 have hbl:=h.lt;go_enter Tryz.func116,Tryz.ntmps116;go_wp2_with fail;refine(Yt h hS hi (k:=6) (c:=123) (by simp[jd])).mono ?_;rintro e w1 ⟨g1,⟨s1,hl,rfl,h1,hi1⟩|⟨d,hl,hg⟩⟩
 ·have HR0:Hd (∀r,jj S (S.size+1) s1 []=r->(∀d,r= .error d->ZF S s= .error d)/\(∀R s4,r= .ok (R,s4)->(∀d,zh S 125 s4= .error d->ZF S s= .error d)/\(∀s5,zh S 125 s4= .ok s5->ZF S s= .ok (R,s5)))):=by
   intro r hr;refine⟨fun d e=> ?_,fun R s4 e=>⟨fun d e2=> ?_,fun s5 e2=> ?_⟩⟩
   ·subst e;simp only[ZF,hl,hr]
   ·subst e;simp only[ZF,hl,hr,e2]
   ·subst e;simp only[ZF,hl,hr,e2]
  have z1:=g1.size;have hl1:=h1.lt;clear hl;generalize hRR:jj S (S.size+1) s1 []=RR at *;have HRR:=zC hRR;clear hRR;go_wp2_with fail
  go_loopw [3] (fun v w5=>PP S w b v5 v6 v7 RR v w5) (fun _ w5=>S.size - penI b w5)
  case atStart=>exact⟨s1,[],fun _=>False,S.size+1,⟨rfl,Or.inl ⟨rfl,rfl⟩⟩,by intro g hg;simp[Value.ownBlock]at hg,by intro p hp;simp at hp,fun k hk=>hk.elim,h1,hi1,by simp,by omega,g1,HRR.o.symm⟩
  case round=>
   generalize wr=w5 at *;obtain⟨s5,rv,F,m,O5,V5,P5,F5,h5,hi5,hl5,hm5,g5,hr5⟩:=hrel;obtain⟨a5,c5,rfl⟩:=zQ O5;have HR:=zC hr5;clear hr5;obtain⟨m,rfl⟩:∃t,m=t+1:=⟨m - 1,by omega⟩;have l5:=zn zI S s5.i hi5;have z5:=g5.size
   by_cases hb:bt S (run zI S s5.i)=91
   ·have hsg:=(Yv l5.2 (k:=4) (c:=91) (by simp[jd])).2 hb
    have HR1:Hd (∀r,y9 S (zL (decide (6<=(rv.length:Int))) 3 (s5.sk S).i (s5.sk S))=r->(∀d,r= .error d->RR= .error d)/\(∀L P s6,r= .ok ((L,P),s6)->RR=jj S m s6 ((rv.map fun p=>p.1)++[⟨L,P⟩]))):=by
     intro r hr
     have hlen:(rv.map fun p=>p.1).length=rv.length:=by simp
     refine⟨fun d e=> ?_,fun L P s6 e=> ?_⟩
     ·subst e;rw[HR.o];simp only[jj,if_pos hb,hlen,hr]
     ·subst e;rw[HR.o];simp only[jj,if_pos hb,hlen,hr]
    go_wp2_with fail;refine(Jl h5 hS hi5).mono ?_;rintro e w6 ⟨rfl,h6,g6⟩;rw[hsg];have HB:=zC hb;clear hsg hb;have O6:=zJ O5 g6 (fun k hk=>by have:=V5 k hk;simp;omega);have z6:=g6.size;obtain⟨c0,c1,c2,c3,c4,c5'',c6,c7,fz⟩:=h6.fa;go_wp2_with fail;refine(QF h6 _ 6 _).mono ?_;rintro e w7 ⟨rfl,h7,g7⟩;clear c0 c1 c2 c3 c4 c5'' c6 c7 fz;have O7:=zJ O6 g7 (fun k hk=>by have:=V5 k hk;simp;omega);have z7:=g7.size;have hs7:(zL (decide (6<=(rv.length:Int))) 3 (s5.sk S).i (s5.sk S)).i=run zI S s5.i:=ym;go_wp2_with fail;refine(GF h7 hS (by rw[hs7];exact HB.o)).mono ?_;rintro e w8 ⟨g8,⟨⟨L8,P8⟩,s8,v,hl,rfl,⟨q8,vp,rfl,F8,⟨⟨pa,pn,pc,rfl⟩,OP,VP⟩⟩,h8⟩|⟨d,hl,hg⟩⟩
    ·have lo8:=MX (by rw[hs7];exact l5.2) hl
     rw[hs7]at lo8;have HR8:=zC ((HR1.o _ hl).2 _ _ _ rfl);clear hl hs7 HR1;simp only;have O8:=zJ O7 g8 (fun k hk=>by have:=V5 k hk;simp;omega);have O9:=zJ O8 (Ch.alloc [] w8 (.cells #[.int .u64 (q8 0),.int .u64 (q8 1),.int .u64 (q8 2),.int .u64 (q8 3),.slice pa pn pc] 264)) (by simp);have N9:=zr w8 (.cells #[.int .u64 (q8 0),.int .u64 (q8 1),.int .u64 (q8 2),.int .u64 (q8 3),.slice pa pn pc] 264);have z8:=g8.size;have V5x:=zC V5;have P5x:=zC P5;have F5x:=zC F5;have VPx:=zC VP;have OPx:=zC OP;clear V5 P5 F5 VP OP O5 O6 O7 O8;go_wp2_with (at_builtin;refine QC 116 264 5 56 (.agg #[.int .u64 0,.int .u64 0,.int .u64 0,.int .u64 0,.slice none 0 0]) Tryz.underlying116 CT rfl (by omega) (by omega) (by rfl) _ _ (by rfl) (.slice a5 rv.length c5) rv.length _ (by rfl) O9 w8.heap.size [.int .u64 (q8 0),.int .u64 (q8 1),.int .u64 (q8 2),.int .u64 (q8 3),.slice pa pn pc] (by rfl) N9 rfl (by simp;exact⟨rfl,rfl,rfl,rfl,rfl⟩) (by omega) (w8.heap.size+1) (by simp) ?_;intro g cap w13 own13 gr13 hat13 hlt13);have V5:=V5x.o;have F5:=F5x.o;have VP:=VPx.o
     have hg6:w.heap.size<=g:=by
      rcases hat13 with e|e
      ·exact(V5 g e).1
      ·omega
     have nb:b∉(Value.slice a5 rv.length c5).ownBlock.toList:=by simp;intro e;have:=V5 _ e;omega
     have h13:=(h8.kp (Ch.alloc [] w8 (.cells #[.int .u64 (q8 0),.int .u64 (q8 1),.int .u64 (q8 2),.int .u64 (q8 3),.slice pa pn pc] 264)) (by simp)).kp gr13 nb;have G58:=g6.trans (g7.trans g8)
     have C13:Ch [b] w w13:=by
      refine((g5.trans G58).trans (Ch.alloc [b] _ _)).trans' gr13 (fun k hk=> ?_);simp at hk;exact Or.inr (V5 k hk).1
     have z13:w8.heap.size+1<=w13.heap.size:=by have:=gr13.size;simpa using this
     have fr5:∀k,F k->w13.heap[k]? =w5.heap[k]? :=by
      intro k hk;have a:=F5 k hk;rw[gr13.block k (by simp;omega) (by simp;intro e;exact a.2.2 e),(Ch.alloc [] _ _).block k (by omega) (by simp),G58.block k a.2.1 (by simp;omega)]
     have fr8:∀k,(Value.slice pa pn pc).ownBlock=some k->w13.heap[k]? =w8.heap[k]? :=by
      intro k hk;have a:=VP k hk;rw[gr13.block k (by simp;omega) (by simp;intro e;have:=V5 k e;omega),(Ch.alloc [] _ _).block k (by omega) (by simp)]
     go_roundw
     case rel=>
      refine⟨s8,rv++[(⟨L8,P8⟩,q8,.slice pa pn pc)],fun k=>F k\/(Value.slice pa pn pc).ownBlock=some k,m,?_,?_,?_,?_,h13,lo8.2,by simp;omega,by omega,C13,?_⟩
      ·rw[List.length_append];simp only[Zr,List.flatMap_append];exact own13
      ·intro k hk;simp[Value.ownBlock]at hk;subst hk;exact⟨hg6,hlt13⟩
      ·intro p hp
       rcases List.mem_append.1 hp with hp|hp
       ·exact(P5x.o p hp).frame fr5 (fun _ h=>Or.inl h)
       ·simp at hp
        subst hp;exact⟨F8,fun g hg=>Or.inr hg,ju OPx.o fr8⟩
      ·rintro k (hk|hk)
       ·have a:=F5 k hk
        refine⟨a.1,by omega,?_⟩;simp[Value.ownBlock];intro e
        rcases hat13 with e'|e'
        ·exact a.2.2 (e ▸ e')
        ·omega
       ·have a:=VP k hk
        refine⟨by omega,by omega,?_⟩;simp[Value.ownBlock];intro e
        rcases hat13 with e'|e'
        ·have:=V5 _ e';omega
        ·omega
      ·rw[HR8.o];simp
     case measure=>rw[h5.penI,h13.penI];omega
    ·have HR8:=zC ((HR0.o RR rfl).1 _ ((HR1.o _ hl).1 _ rfl))
     clear hl;obtain⟨rfl,ht⟩:=hg;exact zY (P:=Tryz.prog) (fn:=Tryz.f116) rfl ⟨g5.trans (g6.trans (g7.trans g8)),Or.inr ⟨d,HR8.o,⟨rfl,ht⟩⟩⟩
   ·have hsg:¬zV S (run zI S s5.i)=4:=fun e=>hb ((Yv l5.2 (k:=4) (c:=91) (by simp[jd])).1 e)
    have HR1:Hd (RR= .ok (rv.map (fun p=>p.1),s5.sk S)):=by show _=_;rw[HR.o];simp only[jj,if_neg hb]
    have HR2:=zC ((HR0.o RR rfl).2 _ _ HR1.o)
    have q1:(zV S (run zI S s5.i)==4)=false:=by simp[hsg]
    go_wp2_with fail;refine(Jl h5 hS hi5).mono ?_;rintro e w6 ⟨rfl,h6,g6⟩;clear hb hsg;generalize zV S (run zI S s5.i)=sg at *;go_wp2_with fail;refine(Yt h6 hS (by simp only[yT];exact l5.2) (k:=7) (c:=125) (by simp[jd])).mono ?_;rintro e w7 ⟨g7,⟨s7,hl,rfl,h7,hi7⟩|⟨d,hl,hg⟩⟩
    ·have HR3:=zC (HR2.o.2 _ hl)
     clear hl;have z6:=g6.size;have z7:=g7.size;have G57:=g6.trans g7;go_wp2_with fail;go_ret
     have fr:∀k,F k->w7.heap[k]? =w5.heap[k]? :=fun k hk=>G57.block k (F5 k hk).2.1 (by have:=F5 k hk;simp;omega)
     refine⟨g5.trans G57,Or.inl ⟨_,_,_,HR3.o,rfl,⟨⟨_,_,_,rfl⟩,fun k=>F k\/(Value.slice a5 rv.length c5).ownBlock=some k,⟨fun g hg=>Or.inr hg,rv,rfl,?_,?_⟩,?_⟩,h7⟩⟩
     ·exact zJ O5 G57 (fun k hk=>by have:=V5 k hk;simp;omega)
     ·intro p hp
      exact(P5 p hp).frame fr (fun _ h=>Or.inl h)
     ·rintro k (hk|hk)
      ·have:=F5 k hk;omega
      ·have:=V5 k hk;omega
    ·have HR3:=zC (HR2.o.1 _ hl)
     clear hl;obtain⟨rfl,ht⟩:=hg;exact zY (P:=Tryz.prog) (fn:=Tryz.f116) rfl ⟨g5.trans (g6.trans g7),Or.inr ⟨d,HR3.o,⟨rfl,ht⟩⟩⟩
 ·have HR:Hd (ZF S s= .error d):=by show _=_;simp only[ZF,hl]
  clear hl;obtain⟨rfl,ht⟩:=hg;exact zY rfl ⟨g1,Or.inr ⟨d,HR.o,⟨rfl,ht⟩⟩⟩
def DQ(p:ByteArray×ByteArray)(v:Value)(_:World):Prop:=v= .tuple #[.string p.1,.string p.2]
theorem Ma{S:ByteArray}{s s':St}{p:ByteArray×Nat}(hi:s.i<=S.size)(h:Jx S s= .ok (p,s')):s'.i<=S.size:=by
 unfold Jx at h
 split at h
 ·cases h
 ·rename_i x a s1 ht
  injection h with h;injection h with _ h;subst h
  rw[ym];unfold yW at ht;simp only at ht
  split at ht
  ·split at ht
   ·rename_i x0 s0 hf
    injection ht with ht;injection ht with _ ht;subst ht
    have l:=zn zI S s.i hi;have hlt:=yB (S:=S) (i:=run zI S s.i) (by omega);have:=Nc (S.size+1) {s with i:=run zI S s.i+1} ByteArray.empty hlt;rw[hf]at this;exact this.2.1
   ·cases ht
  ·cases ht
theorem S1{x:ByteArray}{a:Int}{s:St}:zL (decide (x.size=0)) 3 a (zL (decide (4<(x.size:Int))) 3 a s)=zL (decide (x.size=0\/4<x.size)) 3 a s:=by
 by_cases h0:x.size=0
 ·rw[decide_eq_true h0,decide_eq_false (by omega),Zo,decide_eq_true (Or.inl h0)]
 ·rw[decide_eq_false h0,Zo]
  congr 1
  rw[decide_eq_decide];omega
theorem Hs{w:World}{b:Nat}{S:ByteArray}{s:St}{v5 v6 v7:Value}(h:zP w b S s v5 v6 v7)(hS:S.size<=400)(hi:s.i<=S.size):
 Calls Tryz.prog 115 #[.pointer (some ⟨b,0,none⟩)] w (Jp w b S v5 v6 v7 DQ (jG S s)):=by
 go_enter Tryz.func115,Tryz.ntmps115;go_wp2_with fail;refine(Qx h hS hi (k:=11) (W:=Jt) (by omega) rfl).mono ?_;rintro e w1 ⟨g1,⟨x1,p1,s1,hl1,rfl,h1,hi1⟩|⟨d,hl,hg⟩⟩
 ·go_wp2_with fail
  refine(U3 h1 hS hi1).mono ?_;rintro e w2 ⟨g2,⟨⟨x,a⟩,s2,v,hl2,rfl,hv,h2⟩|⟨d,hl,hg⟩⟩
  ·unfold Yr at hv
   subst hv;have hi2:=Ma hi1 hl2
   have HR2:Hd (∃s2',yW S s1= .ok ((x,a),s2')/\s2=zL (decide (4<(x.size:Int))) 3 a s2'):=by
    unfold Jx at hl2
    split at hl2
    ·cases hl2
    ·rename_i x' a' s1' ht
     injection hl2 with hl2;injection hl2 with e1 e2;injection e1 with e3 e4;subst e3 e4 e2
     exact⟨_,ht,rfl⟩
   have HR3:Hd (∀r,Jx S (zL (decide (x.size=0)) 3 a s2)=r->(∀d,r= .error d->jG S s= .error d)/\(∀y c s3,r= .ok ((y,c),s3)->(∀d,zh S 59 s3= .error d->jG S s= .error d)/\(∀s4,zh S 59 s3= .ok s4->jG S s= .ok ((x,y),s4)))):=by
    intro r hr;obtain⟨s2',ht,e2⟩:=HR2.o;rw[e2,S1]at hr;unfold Jx at hr
    cases ht2:yW S (zL (decide (x.size=0\/4<x.size)) 3 a s2')with
    |error d=>
     rw[ht2]at hr;refine⟨fun d' e=> ?_,fun y c s3 e=> ?_⟩
     ·subst e;injection hr with hr;subst hr;simp only[jG,hl1,ht,ht2]
     ·subst e;cases hr
    |ok q=>
     obtain⟨⟨y',c'⟩,s3'⟩:=q;rw[ht2]at hr;simp only at hr;refine⟨fun d' e=> ?_,fun y c s3 e=> ?_⟩
     ·subst e;cases hr
     ·subst e
      injection hr with hr;injection hr with e1 e2;injection e1 with e3 e4;subst e3 e4 e2
      refine⟨fun d e=> ?_,fun s4 e=> ?_⟩
      ·simp only[jG,hl1,ht,ht2,e]
      ·simp only[jG,hl1,ht,ht2,e]
   clear hl1 hl2 HR2
   have hx0:(x.toList==[])=decide (x.size=0):=by
    by_cases h0:x.size=0
    ·rw[(VK h0).2];simp[h0]
    ·have:=(WX h0).2;simp[h0,this]
   have hx1:x.toList.isEmpty=decide (x.size=0):=by
    by_cases h0:x.size=0
    ·rw[(VK h0).1];simp[h0]
    ·rw[(WX h0).1];simp[h0]
   by_cases h0:x.size=0
   ·rw[decide_eq_true h0]at hx0 hx1 HR3
    clear h0;go_wp2_with fail;refine(Qm h2 3 a).mono ?_;rintro e w3 ⟨rfl,h3,g3⟩
    have hi3:(zL true 3 a s2).i<=S.size:=by rw[ym];exact hi2
    generalize zL true 3 a s2=s3 at *;go_wp2_with fail;refine(U3 h3 hS hi3).mono ?_;rintro e w4 ⟨g4,⟨⟨y,c⟩,s4,v,hl,rfl,hv,h4⟩|⟨d,hl,hg⟩⟩
    ·unfold Yr at hv
     subst hv;have hi4:=Ma hi3 hl;have HR4:=zC ((HR3.o _ hl).2 _ _ _ rfl);clear hl HR3;go_wp2_with fail;refine(Yt h4 hS hi4 (k:=9) (c:=59) (by simp[jd])).mono ?_;rintro e w5 ⟨g5,⟨s5,hl,rfl,h5,hi5⟩|⟨d,hl,hg⟩⟩
     ·have HR5:=zC (HR4.o.2 _ hl)
      clear hl;go_wp2_with fail;go_ret2;exact⟨(g1.trans g2).trans ((g3.trans g4).trans g5),Or.inl ⟨(x,y),_,_,HR5.o,rfl,rfl,h5⟩⟩
     ·have HR5:=zC (HR4.o.1 _ hl)
      clear hl;obtain⟨rfl,ht⟩:=hg;exact zY rfl ⟨(g1.trans g2).trans ((g3.trans g4).trans g5),Or.inr ⟨d,HR5.o,⟨rfl,ht⟩⟩⟩
    ·have HR4:=zC ((HR3.o _ hl).1 _ rfl)
     clear hl;obtain⟨rfl,ht⟩:=hg;exact zY rfl ⟨(g1.trans g2).trans (g3.trans g4),Or.inr ⟨d,HR4.o,⟨rfl,ht⟩⟩⟩
   ·rw[decide_eq_false h0]at hx0 hx1 HR3
    rw[Zo]at HR3;clear h0;go_wp2_with fail;refine(U3 h2 hS hi2).mono ?_;rintro e w4 ⟨g4,⟨⟨y,c⟩,s4,v,hl,rfl,hv,h4⟩|⟨d,hl,hg⟩⟩
    ·unfold Yr at hv
     subst hv;have hi4:=Ma hi2 hl;have HR4:=zC ((HR3.o _ hl).2 _ _ _ rfl);clear hl HR3;go_wp2_with fail;refine(Yt h4 hS hi4 (k:=9) (c:=59) (by simp[jd])).mono ?_;rintro e w5 ⟨g5,⟨s5,hl,rfl,h5,hi5⟩|⟨d,hl,hg⟩⟩
     ·have HR5:=zC (HR4.o.2 _ hl)
      clear hl;go_wp2_with fail;go_ret2;exact⟨(g1.trans g2).trans (g4.trans g5),Or.inl ⟨(x,y),_,_,HR5.o,rfl,rfl,h5⟩⟩
     ·have HR5:=zC (HR4.o.1 _ hl)
      clear hl;obtain⟨rfl,ht⟩:=hg;exact zY rfl ⟨(g1.trans g2).trans (g4.trans g5),Or.inr ⟨d,HR5.o,⟨rfl,ht⟩⟩⟩
    ·have HR4:=zC ((HR3.o _ hl).1 _ rfl)
     clear hl;obtain⟨rfl,ht⟩:=hg;exact zY rfl ⟨(g1.trans g2).trans g4,Or.inr ⟨d,HR4.o,⟨rfl,ht⟩⟩⟩
  ·have HR:Hd (jG S s= .error d):=by
    show _=_
    unfold Jx at hl
    cases ht:yW S s1 with
    |error d'=>rw[ht]at hl;injection hl with hl;subst hl;simp only[jG,hl1,ht]
    |ok q=>obtain⟨⟨y,c⟩,s3⟩:=q;rw[ht]at hl;cases hl
   clear hl hl1;obtain⟨rfl,ht⟩:=hg;exact zY rfl ⟨g1.trans g2,Or.inr ⟨d,HR.o,⟨rfl,ht⟩⟩⟩
 ·have HR:Hd (jG S s= .error d):=by show _=_;simp only[jG,hl]
  clear hl;obtain⟨rfl,ht⟩:=hg;exact zY rfl ⟨g1,Or.inr ⟨d,HR.o,⟨rfl,ht⟩⟩⟩
end Go.Proofs.YteobgfbgglfkbaaGreat
