import Derived.Test.YteobgfbgglfkbaaGreatRD9
import Derived.Test.YteobgfbgglfkbaaGreatRD8
import Derived.Test.YteobgfbgglfkbaaGreatRP8
import Derived.Test.YteobgfbgglfkbaaGreatRW1
import Derived.Test.YteobgfbgglfkbaaGreatRU5
import Derived.Test.YteobgfbgglfkbaaGreatRA6
import Derived.Test.YteobgfbgglfkbaaGreatRD2
namespace Go.Proofs.YteobgfbgglfkbaaGreat
open Go.RowKit
attribute [local go_sem ↓] Go.wp_at_zero Go.wp_at_succ
set_option maxHeartbeats 1600000 in
theorem zHd{w:World}(E T:ByteArray)(hT:T.size+1≤281474976710656):Calls Tryz.prog 19 #[.string E,.string T] w (zJ4 w E T):=by
 go_enter Tryz.func19,Tryz.ntmps19;go_wp2_with fail;refine (zPQ E).mono ?_;rintro e w1 ⟨B1,_,rfl,⟨xa,xn,xc,rfl⟩,hgood⟩;have HG:=hide hgood;clear hgood;generalize hC:zBz E=C at *;obtain ⟨C1,C2⟩:=C;have HC:=hide hC
 by_cases hc:C1=0
 ·have hC2:C2=0:=zES hC hc
  clear hC;subst hc;subst hC2;obtain ⟨L,s',F,N,hr,⟨_,hh,hE⟩,hF,hN⟩:=HG.out rfl;have HR:=hide hr;clear hr HG;simp only;go_wp2_with fail;have g2:=Ch.alloc [] w1 (.cells #[.int .i64 0,.int .i64 0] 68);have hE2:=zAO.frame (w':=w1.alloc (.cells #[.int .i64 0,.int .i64 0] 68)) (G:=F) (fun k hk=>g2.block k (hF k hk).2 (by simp)) (fun _ h=>h) _ _ _ _ hE;have z2:=g2.size;generalize w1.alloc (.cells #[.int .i64 0,.int .i64 0] 68)=w2 at *;refine (zKs hE2 ⟨_,_,_,rfl⟩ (fun k hk=>by have:=hF k hk;omega) hN).mono ?_;rintro r w3 ⟨P,rfl,_,hP,g3⟩;go_wp2_with fail;refine (has_sem hT hP).mono ?_;rintro r w4 ⟨q,rfl,hq,g4⟩;go_wp2_with fail;go_ret3;have G:=(g2.trans g3).trans g4;exact ⟨B1.trans (G.below B1.size (by simp)),q,by rw [HC.out];rfl,fun e=>absurd HC.out e,fun _=>⟨L,s',HR.out,hq⟩⟩
 ·have q:(C1 !=0)=true:=by simp [hc]
  have hne:zBz E≠(0,0):=by rw [hC];intro e;simp only [Prod.mk.injEq] at e;exact hc e.1
  have HNE:=hide hne;clear hC HG hne;simp only;go_wp2_with fail;refine (zGI C1 C2).mono ?_;rintro r w2 ⟨rfl,g2⟩;go_wp2_with fail;go_ret3;have G:=(Ch.alloc [] w1 (.cells #[.int .i64 C1,.int .i64 C2] 68)).trans g2;exact ⟨B1.trans (G.below B1.size (by simp)),false,by rw [HC.out];rfl,fun _=>rfl,fun e=>absurd e HNE.out⟩
end Go.Proofs.YteobgfbgglfkbaaGreat
namespace Go.Proofs.YteobgfbgglfkbaaGreat
open Go.RowKit
attribute [local go_sem ↓] Go.wp_at_zero Go.wp_at_succ
theorem zKY(t:List UInt8):zBg (zAR [⟨aB,false,ByteArray.empty,ByteArray.empty,[]⟩] [0]) t=t:=by
 show t.flatMap (zCF [])=t
 induction t with
 |nil=>rfl
 |cons b t ih=>rw [List.flatMap_cons,ih];rfl
theorem zMb{E:ByteArray}{L:Lang}{s:St}(h:zCC E= .ok (L,s))(e:s.e=0){D:PolD}{s':St}(hD:polR (zAa E)= .ok (D,s')):
  (∀q,q∈D.asked→q.never=true)∧∀vs,zHQ D D.asked vs→∃k W,vs=[(k,W)]∧W.length≤600000∧((k=2∧zE1 L W)∨(k=1∧W=[]∧∀t,¬L t)):=by
 obtain ⟨kk,s2,h2⟩:=zNl h e;rw [hD] at h2
 injection h2 with h2
 injection h2 with h2 _
 subst h2;refine ⟨fun q hq=>by simp at hq;subst hq;rfl,fun vs hv=> ?_⟩;have hl:vs.length=1:=hv.1
 match vs,hl with
 |[(k,W)],_=>
  obtain ⟨h1,h3⟩:=hv.2 0 _ _ rfl rfl
  have eb:zGu ⟨[⟨aB,false,ByteArray.empty,ByteArray.empty,[]⟩],[⟨cB,[0]⟩],[⟨true,0,0,L,kk⟩]⟩ ⟨true,0,0,L,kk⟩=L:=by
   funext t
   show L (zBg (zAR [⟨aB,false,ByteArray.empty,ByteArray.empty,[]⟩] [0]) t)=L t
   rw [zKY]
  simp only at h1;rw [eb] at h1;exact ⟨k,W,rfl,h3,h1⟩
theorem soloS_e{E:ByteArray}{L:Lang}{s:St}(h:zBz E=(0,0))(hr:zCC E= .ok (L,s)):s.e=0:=by
 unfold zBz at h
 split at h
 ·cases h
 ·rw [hr] at h
  unfold endE at h;simp only at h
  split at h
  ·assumption
  ·injection h
theorem zMs{L:Lang}{W t:List UInt8}(h:zE1 L W)(ht:L t):W.length≤t.length:=by
 rcases Nat.lt_or_ge t.length W.length with hl | hl
 ·exact absurd ht (h.short hl)
 ·exact hl
set_option maxRecDepth 100000 in
set_option maxHeartbeats 6400000 in
theorem zK8{w:World}(E T:ByteArray)(hE:E.size≤281474976710656)(hT:T.size+1≤281474976710656):Calls Tryz.prog 6 #[.string E,.string T] w fun e w'=>e= .returned (.bool true)∧Ch [] w w':=by
 have HT:=hide hT;clear hT;go_enter Tryz.func6,Tryz.ntmps6;go_wp2_with fail;refine (zO1 _).mono ?_;rintro e w1 ⟨rfl,k1⟩;have hs0:(⟨#[115,99,114,117,98,32,97,123,125,99,104,97,105,110,32,99,61,97,59,110,101,118,101,114,32,99,47]⟩:ByteArray).size=27:=rfl
 have hs1:((⟨#[115,99,114,117,98,32,97,123,125,99,104,97,105,110,32,99,61,97,59,110,101,118,101,114,32,99,47]⟩:ByteArray)++E).size=27+E.size:=by rw [ByteArray.size_append,hs0]
 have hs2:(⟨#[47,59]⟩:ByteArray).size=2:=rfl;go_wp2_with fail;refine (zMn (zAa E)).mono ?_;rintro e w2 ⟨rfl,B2⟩;have HG2:=hide (k1.trans (zEC B2));clear k1 B2;go_wp2_with fail;refine (zND E ⟨#[]⟩ (by decide)).mono ?_;rintro e w3 ⟨B3,q3,rfl,_,m3⟩;have HG3:=hide (HG2.out.trans (zEC B3));have HM3:=hide m3;clear B3 m3 HG2;generalize hC:zAz (zAa E)=C at *;generalize hO:zBz E=O at *;obtain ⟨C1,C2⟩:=C;obtain ⟨O1,O2⟩:=O;have HC:=hide hC;have HO:=hide hO;clear hC hO;simp only
 by_cases hc1:C1=0
 ·have q1:(C1 !=0)=false:=by simp [hc1]
  by_cases ho1:O1=0
  ·have q2:(O1 !=0)=false:=by simp [ho1]
   have hc2:C2=0:=zEt HC.out hc1;have ho2:O2=0:=zES HO.out ho1;subst hc1 hc2 ho1 ho2;obtain ⟨L,s,hr,_⟩:=HM3.out rfl;have hse:=soloS_e HO.out hr
   have VD:Hid (∀D s',polR (zAa E)= .ok (D,s')→(∀q,q∈D.asked→q.never=true)∧∀vs,zHQ D D.asked vs→∃k W,vs=[(k,W)]∧W.length≤600000∧((k=2∧zE1 L W)∨(k=1∧W=[]∧∀t,¬L t))):=fun D s' hD=>zMb hr hse hD
   have HR:=hide hr;clear hr hse HM3 q1 q2;have AU:=hide (zID (w:=w3) (zAa E) (Or.inr fun D s' hD=>(VD.out D s' hD).1));go_wp2_with fail;refine AU.out.mono ?_;rintro e w4 ⟨B4,⟨h,_⟩ | ⟨_,D,s',v,vs,hD,rfl,ho,hv,_⟩⟩
   ·exact absurd HC.out h
   ·obtain ⟨k,W,rfl,hwl,hkw⟩:=(VD.out D s' hD).2 vs hv
    have HKW:=hide hkw;have HG4:=hide (HG3.out.trans (zEC B4));have HO4:=hide ho;obtain ⟨a,c,rfl⟩:=zAD ho;clear hkw B4 ho hv hD AU VD HG3;simp only [List.length_cons,List.length_nil] at HO4 ⊢;go_wp2_with fail;refine (zHd E T HT.out).mono ?_;rintro e w5 ⟨B5,q5,rfl,_,m5⟩;obtain ⟨L',s5,hr5,hq5⟩:=m5 HO.out
    have hL:L'=L:=by
     rw [HR.out] at hr5
     injection hr5 with h
     injection h with h _
     exact h.symm
    subst hL;have HG5:=hide (HG4.out.trans (zEC B5));have O5:=zAB HO4.out (zEC B5) (by simp);obtain ⟨g,hg,hcells⟩:=zAb O5 (by simp);subst hg;have r0:=hcells 0 _ rfl;have r1:=hcells 1 _ rfl;have HQ5:=hide hq5;have HO5:=hide O5;rw [HO.out];clear B5 m5 hr5 hq5 O5 hcells HG4 HO4;simp only;go_wp2_with fail;refine (zF7 0).mono ?_;rintro e w6 ⟨rfl,rfl⟩;go_wp2_with fail;refine (zF7 0).mono ?_;rintro e w7 ⟨rfl,rfl⟩
    rcases HKW.out with ⟨rfl,hL⟩ | ⟨rfl,rfl,hno⟩
    ·have HL:=hide hL
     clear hL;go_wp2_with fail;refine (zHd E (str W) (by rw [zA4];omega)).mono ?_;rintro e w8 ⟨B8,q8,rfl,_,m8⟩;obtain ⟨L2,s8,hr8,hq8⟩:=m8 HO.out
     have hL2:L2=L':=by
      rw [HR.out] at hr8
      injection hr8 with h
      injection h with h _
      exact h.symm
     subst hL2;have hq8t:q8=true:=hq8.2 (by simpa [str] using HL.out.1);subst hq8t;have HG8:=hide (HG5.out.trans (zEC B8));have O8:=zAB HO5.out (zEC B8) (by simp);obtain ⟨g',hg',hcells'⟩:=zAb O8 (by simp)
     obtain rfl:g=g':=by injection hg' with e;injection e
     have s0:=hcells' 0 _ rfl;have s1:=hcells' 1 _ rfl;rw [HO.out];have hsz:(str W).size=W.length:=zA4 W;clear B8 m8 hr8 hq8 O8 hcells' hg' r0 r1;simp only;go_wp2_with fail;refine (zF7 0).mono ?_;rintro e w9 ⟨rfl,rfl⟩
     cases q5 with
     |true=>
      have hlen:(W.length:Int)≤T.size:=by
       have:=zMs HL.out (HQ5.out.1 rfl);have e:T.data.toList.length=T.size:=zAo T;omega
      go_wp2_with fail;go_ret;exact ⟨rfl,HG8.out⟩
     |false=>
      go_wp2_with fail;go_ret;exact ⟨rfl,HG8.out⟩
    ·have hq5f:q5=false:=by
      cases q5 with
      |false=>rfl
      |true=>exact absurd (HQ5.out.1 rfl) (hno _)
     subst hq5f;clear hno;go_wp2_with fail;go_ret;exact ⟨rfl,HG5.out⟩
  ·have q2:(O1 !=0)=true:=by simp [ho1]
   subst hc1;clear ho1;go_wp2_with fail;go_ret;exact ⟨rfl,HG3.out⟩
 ·have q1:(C1 !=0)=true:=by simp [hc1]
  clear hc1;go_wp2_with fail;go_ret;exact ⟨rfl,HG3.out⟩
end Go.Proofs.YteobgfbgglfkbaaGreat
