import Derived.Test.YteobgfbgglfkbaaGreatRW1
set_option maxHeartbeats 6400000
set_option maxRecDepth 100000
namespace Go.Proofs.YteobgfbgglfkbaaGreat
open Go.RowKit
attribute [local go_sem ↓] Go.wp_at_zero Go.wp_at_succ
theorem cm{w:World}(E T:ByteArray)(hT:T.size+1<=281474976710656):Calls Tryz.prog 19 #[.string E,.string T] w (ct w E T):=by
 go_enter Tryz.func19,Tryz.ntmps19;go_wp2_with fail;refine(dM E).mono ?_;rintro e w1 ⟨B1,_,rfl,⟨xa,xn,xc,rfl⟩,hgood⟩;have HG:=zC hgood;clear hgood;generalize hC:bq E=C at *;obtain⟨C1,C2⟩:=C;have HC:=zC hC
 by_cases hc:C1=0
 ·have hC2:C2=0:=cJ hC hc
  clear hC;subst hc;subst hC2;obtain⟨L,s',F,N,hr,⟨_,hh,hE⟩,hF,hN⟩:=HG.o rfl;have HR:=zC hr;clear hr HG;simp only;go_wp2_with fail;have g2:=Ch.alloc [] w1 (.cells #[.int .i64 0,.int .i64 0] 68);have hE2:=yC.frame (w':=w1.alloc (.cells #[.int .i64 0,.int .i64 0] 68)) (G:=F) (fun k hk=>g2.block k (hF k hk).2 (by simp)) (fun _ h=>h) _ _ _ _ hE;have z2:=g2.size;generalize w1.alloc (.cells #[.int .i64 0,.int .i64 0] 68)=w2 at *;refine(Lq hE2 ⟨_,_,_,rfl⟩ (fun k hk=>by have:=hF k hk;omega) hN).mono ?_;rintro r w3 ⟨P,rfl,_,hP,g3⟩;go_wp2_with fail;refine(dj hT hP).mono ?_;rintro r w4 ⟨q,rfl,hq,g4⟩;go_wp2_with fail;go_ret3;have G:=(g2.trans g3).trans g4;exact⟨B1.trans (G.below B1.size (by simp)),q,by rw[HC.o];rfl,fun e=>absurd HC.o e,fun _=>⟨L,s',HR.o,hq⟩⟩
 ·have q:(C1 !=0)=true:=by simp[hc]
  have hne:bq E≠(0,0):=by rw[hC];intro e;simp only[Prod.mk.injEq]at e;exact hc e.1
  have HNE:=zC hne;clear hC HG hne;simp only;go_wp2_with fail;refine(T9 C1 C2).mono ?_;rintro r w2 ⟨rfl,g2⟩;go_wp2_with fail;go_ret3;have G:=(Ch.alloc [] w1 (.cells #[.int .i64 C1,.int .i64 C2] 68)).trans g2;exact⟨B1.trans (G.below B1.size (by simp)),false,by rw[HC.o];rfl,fun _=>rfl,fun e=>absurd e HNE.o⟩
theorem di(t:List UInt8):yH (zt [⟨aB,false,ByteArray.empty,ByteArray.empty,[]⟩] [0]) t=t:=by
 show t.flatMap (yN [])=t
 induction t with
 |nil=>rfl
 |cons b t ih=>rw[List.flatMap_cons,ih];rfl
theorem dQ{E:ByteArray}{L:zF}{s:St}(h:br E= .ok (L,s))(e:s.e=0){D:yt}{s':St}(hD:jA (bp E)= .ok (D,s')):
 (∀q,q∈D.asked->q.never=true)/\∀vs,YI D D.asked vs->∃k W,vs=[(k,W)]/\W.length<=600000/\((k=2/\Zb L W)\/(k=1/\W=[]/\∀t,¬L t)):=by
 obtain⟨kk,s2,h2⟩:=dc h e;rw[hD]at h2
 injection h2 with h2
 injection h2 with h2 _
 subst h2;refine⟨fun q hq=>by simp at hq;subst hq;rfl,fun vs hv=> ?_⟩;have hl:vs.length=1:=hv.1
 match vs,hl with
 |[(k,W)],_=>
  obtain⟨h1,h3⟩:=hv.2 0 _ _ rfl rfl
  have eb:Je ⟨[⟨aB,false,ByteArray.empty,ByteArray.empty,[]⟩],[⟨cB,[0]⟩],[⟨true,0,0,L,kk⟩]⟩ ⟨true,0,0,L,kk⟩=L:=by
   funext t
   show L (yH (zt [⟨aB,false,ByteArray.empty,ByteArray.empty,[]⟩] [0]) t)=L t
   rw[di]
  simp only at h1;rw[eb]at h1;exact⟨k,W,rfl,h3,h1⟩
theorem db{E:ByteArray}{L:zF}{s:St}(h:bq E=(0,0))(hr:br E= .ok (L,s)):s.e=0:=by
 unfold bq at h
 split at h
 ·cases h
 ·rw[hr]at h
  unfold Yf at h;simp only at h
  split at h
  ·assumption
  ·injection h
theorem dg{L:zF}{W t:List UInt8}(h:Zb L W)(ht:L t):W.length<=t.length:=by
 rcases Nat.lt_or_ge t.length W.length with hl|hl
 ·exact absurd ht (h.short hl)
 ·exact hl
theorem dl{w:World}(E T:ByteArray)(hE:E.size<=281474976710656)(hT:T.size+1<=281474976710656):Calls Tryz.prog 6 #[.string E,.string T] w fun e w'=>e= .returned (.bool true)/\Ch [] w w':=by
 have HT:=zC hT;clear hT;go_enter Tryz.func6,Tryz.ntmps6;go_wp2_with fail;refine(bS _).mono ?_;rintro e w1 ⟨rfl,k1⟩;have hs0:(⟨#[115,99,114,117,98,32,97,123,125,99,104,97,105,110,32,99,61,97,59,110,101,118,101,114,32,99,47]⟩:ByteArray).size=27:=rfl
 have hs1:((⟨#[115,99,114,117,98,32,97,123,125,99,104,97,105,110,32,99,61,97,59,110,101,118,101,114,32,99,47]⟩:ByteArray)++E).size=27+E.size:=by rw[ByteArray.size_append,hs0]
 have hs2:(⟨#[47,59]⟩:ByteArray).size=2:=rfl;go_wp2_with fail;refine(dU (bp E)).mono ?_;rintro e w2 ⟨rfl,B2⟩;have HG2:=zC (k1.trans (VH B2));clear k1 B2;go_wp2_with fail;refine(dG E ⟨#[]⟩ (by decide)).mono ?_;rintro e w3 ⟨B3,q3,rfl,_,m3⟩;have HG3:=zC (HG2.o.trans (VH B3));have HM3:=zC m3;clear B3 m3 HG2;generalize hC:yX (bp E)=C at *;generalize hO:bq E=O at *;obtain⟨C1,C2⟩:=C;obtain⟨O1,O2⟩:=O;have HC:=zC hC;have HO:=zC hO;clear hC hO;simp only
 by_cases hc1:C1=0
 ·have q1:(C1 !=0)=false:=by simp[hc1]
  by_cases ho1:O1=0
  ·have q2:(O1 !=0)=false:=by simp[ho1]
   have hc2:C2=0:=Xv HC.o hc1;have ho2:O2=0:=cJ HO.o ho1;subst hc1 hc2 ho1 ho2;obtain⟨L,s,hr,_⟩:=HM3.o rfl;have hse:=db HO.o hr
   have VD:Hd (∀D s',jA (bp E)= .ok (D,s')->(∀q,q∈D.asked->q.never=true)/\∀vs,YI D D.asked vs->∃k W,vs=[(k,W)]/\W.length<=600000/\((k=2/\Zb L W)\/(k=1/\W=[]/\∀t,¬L t))):=fun D s' hD=>dQ hr hse hD
   have HR:=zC hr;clear hr hse HM3 q1 q2;have AU:=zC (BK (w:=w3) (bp E) (Or.inr fun D s' hD=>(VD.o D s' hD).1));go_wp2_with fail;refine AU.o.mono ?_;rintro e w4 ⟨B4,⟨h,_⟩|⟨_,D,s',v,vs,hD,rfl,ho,hv,_⟩⟩
   ·exact absurd HC.o h
   ·obtain⟨k,W,rfl,hwl,hkw⟩:=(VD.o D s' hD).2 vs hv
    have HKW:=zC hkw;have HG4:=zC (HG3.o.trans (VH B4));have HO4:=zC ho;obtain⟨a,c,rfl⟩:=zQ ho;clear hkw B4 ho hv hD AU VD HG3;simp only[List.length_cons,List.length_nil]at HO4 ⊢;go_wp2_with fail;refine(cm E T HT.o).mono ?_;rintro e w5 ⟨B5,q5,rfl,_,m5⟩;obtain⟨L',s5,hr5,hq5⟩:=m5 HO.o
    have hL:L'=L:=by
     rw[HR.o]at hr5
     injection hr5 with h
     injection h with h _
     exact h.symm
    subst hL;have HG5:=zC (HG4.o.trans (VH B5));have O5:=zJ HO4.o (VH B5) (by simp);obtain⟨g,hg,hcells⟩:=jO O5 (by simp);subst hg;have r0:=hcells 0 _ rfl;have r1:=hcells 1 _ rfl;have HQ5:=zC hq5;have HO5:=zC O5;rw[HO.o];clear B5 m5 hr5 hq5 O5 hcells HG4 HO4;simp only;go_wp2_with fail;refine(Aj 0).mono ?_;rintro e w6 ⟨rfl,rfl⟩;go_wp2_with fail;refine(Aj 0).mono ?_;rintro e w7 ⟨rfl,rfl⟩
    rcases HKW.o with⟨rfl,hL⟩|⟨rfl,rfl,hno⟩
    ·have HL:=zC hL
     clear hL;go_wp2_with fail;refine(cm E (zG W) (by rw[yV];omega)).mono ?_;rintro e w8 ⟨B8,q8,rfl,_,m8⟩;obtain⟨L2,s8,hr8,hq8⟩:=m8 HO.o
     have hL2:L2=L':=by
      rw[HR.o]at hr8
      injection hr8 with h
      injection h with h _
      exact h.symm
     subst hL2;have hq8t:q8=true:=hq8.2 (by simpa[zG]using HL.o.1);subst hq8t;have HG8:=zC (HG5.o.trans (VH B8));have O8:=zJ HO5.o (VH B8) (by simp);obtain⟨g',hg',hcells'⟩:=jO O8 (by simp)
     obtain rfl:g=g':=by injection hg' with e;injection e
     have s0:=hcells' 0 _ rfl;have s1:=hcells' 1 _ rfl;rw[HO.o];have hsz:(zG W).size=W.length:=yV W;clear B8 m8 hr8 hq8 O8 hcells' hg' r0 r1;simp only;go_wp2_with fail;refine(Aj 0).mono ?_;rintro e w9 ⟨rfl,rfl⟩
     cases q5 with
     |true=>
      have hlen:(W.length:Int)<=T.size:=by
       have:=dg HL.o (HQ5.o.1 rfl);have e:T.data.toList.length=T.size:=JF T;omega
      go_wp2_with fail;go_ret;exact⟨rfl,HG8.o⟩
     |false=>
      go_wp2_with fail;go_ret;exact⟨rfl,HG8.o⟩
    ·have hq5f:q5=false:=by
      cases q5 with
      |false=>rfl
      |true=>exact absurd (HQ5.o.1 rfl) (hno _)
     subst hq5f;clear hno;go_wp2_with fail;go_ret;exact⟨rfl,HG5.o⟩
  ·have q2:(O1 !=0)=true:=by simp[ho1]
   subst hc1;clear ho1;go_wp2_with fail;go_ret;exact⟨rfl,HG3.o⟩
 ·have q1:(C1 !=0)=true:=by simp[hc1]
  clear hc1;go_wp2_with fail;go_ret;exact⟨rfl,HG3.o⟩
end Go.Proofs.YteobgfbgglfkbaaGreat
