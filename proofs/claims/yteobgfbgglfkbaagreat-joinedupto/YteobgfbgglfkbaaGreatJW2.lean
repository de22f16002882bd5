import Derived.Test.YteobgfbgglfkbaaGreatJW1
set_option maxHeartbeats 12800000
set_option maxRecDepth 100000
namespace Go.Proofs.YteobgfbgglfkbaaGreat
open Go.RowKit
attribute [local go_sem ↓] Go.wp_at_zero Go.wp_at_succ
theorem bN{S:ByteArray}{D:yt}{s:St}(hc:yX S=(0,0))(hr:jA S= .ok (D,s)){i:Nat}{c:zZ}(hi:D.chains[i]? =some c)(T:List UInt8):ap S c.name T=(yH (zt D.scrubs c.scrubs) T,0,0):=by
 rw[bH hc hr];unfold aw;have hn:=bP hc hr i c.name (by simp[hi]);rw[hn,if_neg (by omega)]
 have:Ye D.chains (i:Int)=c.scrubs:=by simp[Ye,hi]
 rw[this]
theorem dr(S:List zH)(A B:List Int):zt S (A++B)=zt S A++zt S B:=by simp[zt]
theorem du(A B:List zH)(T:List UInt8):yH (A++B) T=yH B (yH A T):=by simp[yH]
theorem dq{S x:ByteArray}{D:yt}{s:St}(hc:yX S=(0,0))(hr:jA S= .ok (D,s))(T:List UInt8):(ap S x T).2.1=if zy (D.chains.map fun c=>c.name) x<0 then 5 else 0:=by
 rw[bH hc hr];unfold aw
 split <;>rfl
theorem dt{S:List zH}{L:List Int}(h:∀D,D∈S->yR D)(hL:jM S.length L){T:List UInt8}(hT:T.length<=1048576):(yH (zt S L) T).length<=8589934592:=by
 have h1:=Kv (zt S L) T 1048576 (Va h hL) hT;rw[YS]at h1;have h2:16 ^ L.length<=16 ^ 3:=Nat.pow_le_pow_right (by omega) hL.1;have h3:16 ^ L.length * (1048576+1)<=16 ^ 3 * (1048576+1):=Nat.mul_le_mul_right _ h2
 have h4:16 ^ 3 * (1048576+1)<=8589934592:=by decide
 omega
theorem az{w:World}(S x:ByteArray)(T:List UInt8)(hT:T.length<=8589934592){a:List UInt8}{b c:Int}(h:ap S x T=(a,b,c)):Calls Tryz.prog 8 #[.string S,.string x,.string (zG T)] w fun e w'=>e= .returned (.tuple #[.string (zG a),.int .i64 b,.int .i64 c])/\Ch [] w w':=by
 refine(bl S x T hT).mono ?_;rintro e w' ⟨rfl,B⟩;exact⟨by rw[h],(VH B)⟩
theorem dw(AL:bJ){w:World}(S one:ByteArray)(U T:List UInt8)(hU:U.length<=1048576)(hT:T.length<=1048576):Calls Tryz.prog 7 #[.string S,.string one,.string (zG U),.string (zG T)] w fun e w'=>e= .returned (.bool true)/\Ch [] w w':=by
 go_enter Tryz.func7,Tryz.ntmps7;go_wp2_with fail;refine(AL _).mono ?_;rintro e w1 ⟨rfl,k1⟩;go_wp2_with fail;refine(Tz S).mono ?_;rintro e w2 ⟨B2,⟨hc,rfl⟩|⟨hc,b,d,F,vs,vc,va,sv,cv,av,s,rfl,hp,hr⟩⟩
 ·generalize hC:yX S=C at *
  obtain⟨C1,C2⟩:=C
  have h1:¬C1=0:=by
   intro e;have:=Xv hC e;exact hc (by rw[e,this])
  have q:(C1 !=0)=true:=by simp[h1]
  have HG:=zC (k1.trans (VH B2));clear hc h1 hC B2 k1;simp only;go_wp2_with fail;go_ret;exact⟨rfl,HG.o⟩
 ·obtain⟨⟨okS,okC⟩,okN⟩:=Ln hc hr
  simp only[List.length_map]at okN okC;obtain⟨a,cc,rfl⟩:=zQ hp.rc;have HG2:=zC (k1.trans (VH B2))
  have hcv:∀(i:Nat) p,cv[i]? =some p->jM sv.length p.1.scrubs/\(∀X:List UInt8,ap S p.1.name X=(yH (zt (sv.map (·.1)) p.1.scrubs) X,0,0)):=by
   intro i p h;refine⟨okC p.1 (List.mem_map_of_mem (List.mem_of_getElem? h)),fun X=> ?_⟩;exact bN hc hr (i:=i) (c:=p.1) (by simp[h]) X
  have HCV:=zC hcv;have HNUM:=zC (fun X=>dq (x:=one) hc hr X);have HOKS:=zC okS
  obtain⟨ga,hKEEP⟩:∃ga,∀W,Ch [] w2 W->W.cell? ⟨d,1,none⟩=some (.slice a cv.length cc)/\∀(i:Nat) p,cv[i]? =some p->a=some ⟨ga,0,none⟩/\W.cell? ⟨ga,i * 2,none⟩=some (.string p.1.name)/\W.cell? ⟨ga,i * 2+1,none⟩=some p.2/\W.ownsRow 0 3 1 p.2 p.1.scrubs.length (p.1.scrubs.map (Value.int .i64)):=by
   refine⟨match a with|some x=>x.block|none=>0,fun W c=> ?_⟩;have hB:=hp.blk.kp c (by simp);have hR:=zJ hp.rc c (by simp);refine⟨hB.cl 1 _ rfl,fun i p h=> ?_⟩;have hl:=(List.getElem?_eq_some_iff.1 h).1;obtain⟨g,hg,hcells⟩:=jO hR (by omega);obtain⟨x0,x1⟩:=XC cv i p h;subst hg;exact⟨rfl,hcells _ _ x0,hcells _ _ x1,zJ (hp.pc p (List.mem_of_getElem? h)).2 c (by simp)⟩
  have KEEP:=zC hKEEP;clear hKEEP;have c2:=(KEEP.o w2 (Ch.refl _ _)).1;clear hp hr hc okS okC B2 k1 hcv;go_wp2_with fail;clear c2
  go_loopw [13] (fun iv w5=>∃i:Nat,iv= .int .i64 i/\i<=cv.length/\Hd (Ch [] w2 w5)) (fun iv _=>cv.length - (intOf iv).toNat)
  case atStart=>exact⟨0,rfl,Nat.zero_le _,Ch.refl _ _⟩
  case round=>
   generalize wr=w5 at *;obtain⟨i,rfl,hi,H5⟩:=hrel;have c5:=(KEEP.o w5 H5.o).1
   have ei:IntKind.i64.wrap ((i:Int)+1)=((i+1:Nat):Int):=by rw[IntKind.wrap_i64];omega
   by_cases hlti:(i:Int)<cv.length
   ·have hi2:i<cv.length:=by omega
    go_wp2_with fail;clear c5
    go_loopw [14] (fun iv w6=>∃j:Nat,iv= .int .i64 j/\j<=cv.length/\Hd (Ch [] w2 w6)) (fun iv _=>cv.length - (intOf iv).toNat)
    case atStart=>exact⟨0,rfl,Nat.zero_le _,H5⟩
    case round=>
     generalize wr=w6 at *;obtain⟨j,rfl,hj,H6⟩:=hrel;have c6:=(KEEP.o w6 H6.o).1
     have ej:IntKind.i64.wrap ((j:Int)+1)=((j+1:Nat):Int):=by rw[IntKind.wrap_i64];omega
     by_cases hltj:(j:Int)<cv.length
     ·have hj2:j<cv.length:=by omega
      go_wp2_with fail;clear c6
      go_loopw [15] (fun iv w7=>∃k:Nat,iv= .int .i64 k/\k<=cv.length/\Hd (Ch [] w2 w7)) (fun iv _=>cv.length - (intOf iv).toNat)
      case atStart=>exact⟨0,rfl,Nat.zero_le _,H6⟩
      case round=>
       generalize wr=w7 at *;obtain⟨k,rfl,hk,H7⟩:=hrel;have c7:=(KEEP.o w7 H7.o).1
       have ek:IntKind.i64.wrap ((k:Int)+1)=((k+1:Nat):Int):=by rw[IntKind.wrap_i64];omega
       by_cases hltk:(k:Int)<cv.length
       ·have hk2:k<cv.length:=by omega
        obtain⟨⟨Ci,vi⟩,hpi⟩:∃p,cv[i]? =some p:=⟨_,List.getElem?_eq_getElem hi2⟩;obtain⟨⟨Cj,vj⟩,hpj⟩:∃p,cv[j]? =some p:=⟨_,List.getElem?_eq_getElem hj2⟩;obtain⟨⟨Ck,vk⟩,hpk⟩:∃p,cv[k]? =some p:=⟨_,List.getElem?_eq_getElem hk2⟩;have K7:=KEEP.o w7 H7.o;obtain⟨ha,_,_,Ri⟩:=K7.2 i _ hpi;obtain⟨_,_,_,Rj⟩:=K7.2 j _ hpj;obtain⟨_,_,_,Rk⟩:=K7.2 k _ hpk;subst ha;simp only at Ri Rj Rk;obtain⟨ai,ci,rfl⟩:=zQ Ri;obtain⟨aj,cj,rfl⟩:=zQ Rj;obtain⟨ak,ck,rfl⟩:=zQ Rk;obtain⟨okI,apI⟩:=HCV.o i _ hpi;obtain⟨okJ,apJ⟩:=HCV.o j _ hpj;obtain⟨okK,apK⟩:=HCV.o k _ hpk;simp only at okI okJ okK apI apJ apK;have lI:=okI.1;have lJ:=okJ.1
        have TAIL:Hd (∀W,Ch [] w7 W->Calls Tryz.prog 20 #[.slice ai Ci.scrubs.length ci,.slice aj Cj.scrubs.length cj,.slice ak Ck.scrubs.length ck] W fun e w'=>e= .returned (.bool (decide (Ck.scrubs=Ci.scrubs++Cj.scrubs)))/\Ch [] W w'):=fun W c=>dv (zJ Ri c (by simp)) (zJ Rj c (by simp)) (zJ Rk c (by simp)) (by omega) (by omega)
        have KR:Hd (∀W,Ch [] w7 W->(W.cell? ⟨d,1,none⟩=some (.slice (some ⟨ga,0,none⟩) cv.length cc)/\W.cell? ⟨ga,i * 2+1,none⟩=some (.slice ai Ci.scrubs.length ci)/\W.cell? ⟨ga,j * 2+1,none⟩=some (.slice aj Cj.scrubs.length cj)/\W.cell? ⟨ga,k * 2+1,none⟩=some (.slice ak Ck.scrubs.length ck)/\Ch [] w7 W)):=by
         intro W c;have KW:=KEEP.o W (H7.o.trans c);exact⟨KW.1,(KW.2 i _ hpi).2.2.1,(KW.2 j _ hpj).2.2.1,(KW.2 k _ hpk).2.2.1,c⟩
        have KN:Hd (∀W,Ch [] w7 W->(W.cell? ⟨d,1,none⟩=some (.slice (some ⟨ga,0,none⟩) cv.length cc)/\W.cell? ⟨ga,i * 2,none⟩=some (.string Ci.name)/\W.cell? ⟨ga,j * 2,none⟩=some (.string Cj.name)/\W.cell? ⟨ga,k * 2,none⟩=some (.string Ck.name))):=by
         intro W c;have KW:=KEEP.o W (H7.o.trans c);exact⟨KW.1,(KW.2 i _ hpi).2.1,(KW.2 j _ hpj).2.1,(KW.2 k _ hpk).2.1⟩
        have hi0:(0:Int)<=i:=by omega
        have hj0:(0:Int)<=j:=by omega
        have hk0:(0:Int)<=k:=by omega
        have AP1:=zC (apI T);have AP2:=zC (apJ (yH (zt (sv.map (·.1)) Ci.scrubs) T));have AP3:=zC (apK T);have RM:Hd ((yH (zt (sv.map (·.1)) Ci.scrubs) T).length<=8589934592):=dt HOKS.o (by rw[List.length_map];exact okI) hT;obtain⟨r1,r2,r3,r4,_⟩:=KR.o w7 (Ch.refl _ _);clear K7 Ri Rj Rk apI apJ apK okI okJ okK lI lJ c7 hpi hpj hpk;go_wp2_with fail
        go_region_held3 (fun W=>W.cell? ⟨d,1,none⟩=some (.slice (some ⟨ga,0,none⟩) cv.length cc)/\W.cell? ⟨ga,i * 2+1,none⟩=some (.slice ai Ci.scrubs.length ci)/\W.cell? ⟨ga,j * 2+1,none⟩=some (.slice aj Cj.scrubs.length cj)/\W.cell? ⟨ga,k * 2+1,none⟩=some (.slice ak Ck.scrubs.length ck)/\Ch [] w7 W) (first|(exact E8)|(exact KR.o _ (by repeat' (first|assumption|exact Ch.refl _ _|refine Ch.trans ?_ (Ch.alloc [] _ _)|refine Ch.trans ?_ (Ch.drew [] _))))|go_keep) (first|(go_at_call 20;refine(TAIL.o _ (by repeat' (first|assumption|exact Ch.refl _ _|refine Ch.trans ?_ (Ch.alloc [] _ _)|refine Ch.trans ?_ (Ch.drew [] _)))).mono ?_;rintro e w8 ⟨rfl,k8⟩;have K8:Ch [] w7 w8:=Ch.trans (by repeat' (first|assumption|exact Ch.refl _ _|refine Ch.trans ?_ (Ch.alloc [] _ _)|refine Ch.trans ?_ (Ch.drew [] _))) k8;have E8:=KR.o w8 K8))
        all_goals
         generalize hbb:decide (Ck.scrubs=Ci.scrubs++Cj.scrubs)=bb at *;have HBB:=zC hbb;have HG8:=zC K8;clear hbb E8 k8 r1 r2 r3 r4 TAIL KR
         cases bb with
         |false=>
          have HG9:=zC (H7.o.trans HG8.o);go_wp2_with fail;exact⟨⟨k+1,by simp,by omega,HG9⟩,by simp[intOf];omega⟩
         |true=>
          have hsc:Ck.scrubs=Ci.scrubs++Cj.scrubs:=of_decide_eq_true HBB.o
          have HA3:Hd (ap S Ck.name T=(yH (zt (sv.map (·.1)) Cj.scrubs) (yH (zt (sv.map (·.1)) Ci.scrubs) T),0,0)):=by
           show _=_
           rw[AP3.o,hsc,dr,du]
          clear hsc HBB AP3;generalize hx1:yH (zt (sv.map (·.1)) Ci.scrubs) T=X1 at *;generalize hx2:yH (zt (sv.map (·.1)) Cj.scrubs) X1=X2 at *;clear hx1 hx2;obtain⟨n0,n1,n2,n3⟩:=KN.o w8 HG8.o;go_wp2_with fail;refine(az S Ci.name T (by omega) AP1.o).mono ?_;rintro e w9 ⟨rfl,k9⟩;obtain⟨m0,m1,m2,m3⟩:=KN.o w9 (HG8.o.trans k9);clear n0 n1 n2 n3;go_wp2_with fail;refine(az S Cj.name X1 RM.o AP2.o).mono ?_;rintro e w10 ⟨rfl,k10⟩;obtain⟨l0,l1,l2,l3⟩:=KN.o w10 ((HG8.o.trans k9).trans k10);clear m0 m1 m2 m3;go_wp2_with fail;refine(az S Ck.name T (by omega) HA3.o).mono ?_;rintro e w11 ⟨rfl,k11⟩;have HG11:=zC (((H7.o.trans HG8.o).trans k9).trans (k10.trans k11));clear l0 l1 l2 l3 k9 k10 k11;go_wp2_with fail;refine(Aj 0).mono ?_;rintro e w12 ⟨rfl,rfl⟩;go_wp2_with fail;refine(Aj 0).mono ?_;rintro e w13 ⟨rfl,rfl⟩;go_wp2_with fail;refine(Aj 0).mono ?_;rintro e w14 ⟨rfl,rfl⟩;go_wp2_with fail;exact⟨⟨k+1,by simp,by omega,HG11⟩,by simp[intOf];omega⟩
       ·have HG:=zC H7.o
        go_wp2_with fail;exact⟨⟨j+1,by simp,by omega,HG⟩,by simp[intOf];omega⟩
     ·have HG:=zC H6.o
      go_wp2_with fail;exact⟨⟨i+1,by simp,by omega,HG⟩,by simp[intOf];omega⟩
   ·have HG:=zC H5.o
    have HNX:Hd ((ap S one U).2.1=if zy (cv.map fun p=>p.1.name) one<0 then 5 else 0):=by
     have:=HNUM.o U;rw[List.map_map]at this;exact this
    have XA:=zC (bl (w:=w5) S one U (by omega));generalize ap S one U=R at *;obtain⟨R1,R2,R3⟩:=R;simp only at XA HNX;clear HNUM H5;go_wp2_with fail;refine XA.o.mono ?_;rintro e w6 ⟨rfl,B6⟩;have HG6:=zC (HG.o.trans (VH B6));have c6:=(KEEP.o w6 HG6.o).1;clear B6 XA c5;go_wp2_with fail;clear c6
    go_loopw [28,29] (fun bv iv w7=>∃(j:Nat) (b:Bool),bv= .bool b/\iv= .int .i64 j/\j<=cv.length/\Hd (((b=false/\Zz (cv.map fun p=>p.1.name) one j)\/(b=true/\¬zy (cv.map fun p=>p.1.name) one<0))/\Ch [] w2 w7)) (fun _ iv _=>cv.length - (intOf iv).toNat)
    case atStart=>exact⟨0,false,rfl,rfl,Nat.zero_le _,by show _/\_;exact⟨Or.inl ⟨rfl,fun t _ h=>by omega⟩,HG6.o⟩⟩
    case round=>
     generalize wr=w7 at *;obtain⟨j,b,rfl,rfl,hj,H7⟩:=hrel;have c7:=(KEEP.o w7 H7.o.2).1
     have ej:IntKind.i64.wrap ((j:Int)+1)=((j+1:Nat):Int):=by rw[IntKind.wrap_i64];omega
     by_cases hltj:(j:Int)<cv.length
     ·have hj2:j<cv.length:=by omega
      have hj0:(0:Int)<=j:=by omega
      cases b with
      |true=>
       have HN:Hd (¬zy (cv.map fun p=>p.1.name) one<0):=by
        rcases H7.o.1 with h|h
        ·exact absurd h.1 (by simp)
        ·exact h.2
       have HG7:=zC H7.o.2;go_wp2_with fail;exact⟨⟨j+1,true,rfl,by simp,by omega,by show _/\_;exact⟨Or.inr ⟨rfl,HN.o⟩,HG7.o⟩⟩,by simp[intOf];omega⟩
      |false=>
       have HNO:Hd (Zz (cv.map fun p=>p.1.name) one j):=by
        rcases H7.o.1 with h|h
        ·exact h.2
        ·exact absurd h.1 (by simp)
       have HG7:=zC H7.o.2;obtain⟨⟨Cj,vj⟩,hpj⟩:∃p,cv[j]? =some p:=⟨_,List.getElem?_eq_getElem hj2⟩;obtain⟨ha,nj,_,_⟩:=(KEEP.o w7 HG7.o).2 j _ hpj;subst ha;simp only at nj
       have hnm:(cv.map fun p=>p.1.name)[j]'(by simpa using hj2)=Cj.name:=by
        obtain⟨h1,h2⟩:=List.getElem?_eq_some_iff.1 hpj;simp[h2]
       generalize Cj.name=y at *
       by_cases hq:y=one
       ·have HR:Hd (zy (cv.map fun p=>p.1.name) one=j):=Uh (by simpa using hj2) (hnm.trans hq) HNO.o
        obtain⟨q1,q2⟩:=Y6 hq;clear hq hnm hpj H7;go_wp2_with fail;exact⟨⟨j+1,true,rfl,by simp,by omega,by show _/\_;exact⟨Or.inr ⟨rfl,by rw[HR.o];omega⟩,HG7.o⟩⟩,by simp[intOf];omega⟩
       ·have H2:Hd (Zz (cv.map fun p=>p.1.name) one (j+1)):=by
         intro t ht h1
         by_cases e:t=j
         ·subst e;rw[hnm];exact hq
         ·exact HNO.o t ht (by omega)
        obtain⟨q1,q2⟩:=Zn hq;clear hq hnm hpj H7;go_wp2_with fail;exact⟨⟨j+1,false,rfl,by simp,by omega,by show _/\_;exact⟨Or.inl ⟨rfl,H2.o⟩,HG7.o⟩⟩,by simp[intOf];omega⟩
     ·have HG7:=zC (HG2.o.trans H7.o.2)
      cases b with
      |true=>
       have hR2:R2=0:=by
        rcases H7.o.1 with h|h
        ·exact absurd h.1 (by simp)
        ·rw[HNX.o,if_neg h.2]
       subst hR2;clear H7;go_wp2_with fail;refine(Aj 0).mono ?_;rintro e w8 ⟨rfl,rfl⟩;go_wp2_with fail;go_ret;exact⟨rfl,HG7.o⟩
      |false=>
       have hR2:R2=5:=by
        rcases H7.o.1 with h|h
        ·rw[HNX.o,Uk (fun t ht=>h.2 t ht (by simp at ht;omega)),if_pos (by decide)]
        ·exact absurd h.1 (by simp)
       subst hR2;clear H7;go_wp2_with fail;refine(Aj 5).mono ?_;rintro e w8 ⟨rfl,rfl⟩;go_wp2_with fail;refine(Aj 5).mono ?_;rintro e w9 ⟨rfl,rfl⟩;go_wp2_with fail;go_ret;exact⟨rfl,HG7.o⟩
end Go.Proofs.YteobgfbgglfkbaaGreat
