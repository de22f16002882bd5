import Derived.Test.YteobgfbgglfkbaaGreatVY1
import Derived.Test.YteobgfbgglfkbaaGreatVW2
set_option maxHeartbeats 12800000
set_option maxRecDepth 100000
namespace Go.Proofs.YteobgfbgglfkbaaGreat
open Go.RowKit
attribute [local go_sem ↓] Go.wp_at_zero Go.wp_at_succ
theorem bn{D:yt}{q:ze}(h:q.never=false){A B:List Int}(hA:Ye D.chains q.of1=A)(hB:Ye D.chains q.of2=B)(t:List UInt8):Je D q t↔yH (zt D.scrubs A) t≠yH (zt D.scrubs B) t:=by
 unfold Je;rw[if_neg (by rw[h];simp),hA,hB]
theorem bo{a b:List UInt8}(h:zG a=zG b):a=b:=by
 have:=congrArg (fun b:ByteArray=>b.data.toList) h
 simpa[zG]using this
theorem bi(AL:bJ)(hS:QK){w:World}(S:ByteArray)(T:List UInt8)(hT:T.length<=1048576):
 Calls Tryz.prog 5 #[.string S,.string (zG T)] w fun e w'=>e= .returned (.bool true)/\Ch [] w w':=by
 have HS:=zC hS;clear hS;have hTs:=yV T;go_enter Tryz.func5,Tryz.ntmps5;go_wp2_with fail;refine(AL _).mono ?_;rintro e w0 ⟨rfl,c0⟩;go_wp2_with fail;refine(Bp S HS.o).mono ?_;rintro e w1 ⟨c1,v,vs,rfl,ho,_,he,hg⟩;obtain⟨a,c,rfl⟩:=zQ ho;have HO:=zC ho;have HE:=zC he;have HG:=zC hg;have HC1:=zC (c0.trans c1);clear ho he hg c1 c0;generalize hC:yX S=C at *;obtain⟨C1,C2⟩:=C;have HC:=zC hC;clear hC;simp only;go_wp2_with fail;refine(Tz S).mono ?_;rintro e w6 ⟨B6,⟨hc,rfl⟩|⟨hc,b,d,F,vs0,vc,va,sv,cv,av,s,rfl,hp,hr⟩⟩
 ·rw[HC.o]at hc ⊢
  have h1:¬C1=0:=by
   intro e;have:=Xv HC.o e;exact hc (by rw[e,this])
  have hvs:vs=[]:=HE.o hc;subst hvs
  have q0:(C1 !=0)=true:=by simp[h1]
  have HG6:=zC (HC1.o.trans (VH B6));clear hc B6 h1;simp only;go_wp2_with fail;refine(Aj C1).mono ?_;rintro e w7 ⟨rfl,rfl⟩;go_wp2_with fail;go_ret;exact⟨rfl,HG6.o⟩
 ·rw[HC.o]at hc
  injection hc with hc1 hc2
  subst hc1 hc2;obtain⟨D,s',hr',hv⟩:=HG.o rfl
  have hD:D=⟨sv.map (·.1),cv.map (·.1),av.map (·.1)⟩:=by
   rw[hr]at hr'
   injection hr' with h
   injection h with h _
   exact h.symm
  subst hD;obtain⟨okT,okA,okQ⟩:=Mg HC.o hr
  have hvl:vs.length=av.length:=by rw[hv.1];simp
  simp only[List.length_map]at okA okQ
  have hakV:∀p,p∈av->Yp cv.length p.1:=fun p hp=>okQ p.1 (List.mem_map_of_mem hp)
  have HAP:Hd (∀(n:Nat) (hn:n<cv.length) (X:List UInt8),ap S cv[n].1.name X=(yH (zt (sv.map (·.1)) cv[n].1.scrubs) X,0,0)):=by
   intro n hn X;exact bN HC.o hr (i:=n) (c:=cv[n].1) (by simp[hn]) X
  obtain⟨a1,k1,e1⟩:=zQ hp.rc;subst e1;obtain⟨a2,k2,e2⟩:=zQ hp.ra;subst e2;have d2:=hp.blk.cl 2 _ rfl
  have hne:((vs.length:Int) !=(av.length:Int))=false:=by rw[hvl];simp
  have HV:=zC hv;have HVL:=zC hvl;have HAK:=zC hakV;have HO6:=zC (zJ HO.o (VH B6) (by simp));have HG6:=zC (HC1.o.trans (VH B6));have HP:=zC hp;clear hp hr hr' B6 okT okQ hakV hv hvl;go_wp2_with fail;refine(Aj 0).mono ?_;rintro e w6' ⟨rfl,rfl⟩;go_wp2_with fail;clear d2 hne
  go_loopw [12] (fun iv w7=>∃j:Nat,iv= .int .i64 j/\j<=vs.length/\Hd (Ch [] w6' w7)) (fun iv _=>vs.length - (intOf iv).toNat)
  case atStart=>exact⟨0,rfl,Nat.zero_le _,Ch.refl _ _⟩
  case round=>
   generalize wr=w7 at *;obtain⟨j,rfl,hj,H7⟩:=hrel
   by_cases hlt:(j:Int)<vs.length
   ·have hj2:j<vs.length:=by omega
    have hja:(j:Int)<av.length:=by have:=HVL.o;omega
    have hj0:(0:Int)<=j:=by omega
    have ej:IntKind.i64.wrap ((j:Int)+1)=((j+1:Nat):Int):=by have:=HVL.o;rw[IntKind.wrap_i64];omega
    obtain⟨⟨kd,Wt⟩,hpj⟩:∃p,vs[j]? =some p:=⟨_,List.getElem?_eq_getElem hj2⟩;obtain⟨⟨q,u⟩,hqj⟩:∃p,av[j]? =some p:=⟨_,List.getElem?_eq_getElem (by omega)⟩;obtain⟨VD,hWl⟩:=HV.o.2 j q (kd,Wt) (by simp[hqj]) hpj;have AK:=HAK.o _ (List.mem_of_getElem? hqj);obtain⟨x0,x1⟩:=Uu vs j _ hpj;obtain⟨y0,y1,y2,_⟩:=Kx av j _ hqj;have HP7:=HP.o.kp (H7.o.mono (by simp));obtain⟨ga,hga,_⟩:=jO HP7.ra (by omega);obtain⟨gl,hgl,_⟩:=jO (zJ HO6.o H7.o (by simp)) (by omega);subst hga hgl;simp only at VD hWl AK;obtain⟨nv,of1,of2,L,kk⟩:=q;simp only at y0 y1 y2
    have KA:Hd (∀W,Ch [] w7 W->W.cell? ⟨d,1,none⟩=some (.slice a1 cv.length k1)/\W.cell? ⟨d,2,none⟩=some (.slice (some ⟨ga,0,none⟩) av.length k2)/\W.cell? ⟨ga,j * 4,none⟩=some (.bool nv)/\W.cell? ⟨ga,j * 4+1,none⟩=some (.int .i64 of1)/\W.cell? ⟨ga,j * 4+2,none⟩=some (.int .i64 of2)):=by
     intro W cW;have P:=HP7.kp (cW.mono (by simp));obtain⟨gb,hgb,hcb⟩:=jO P.ra (by omega)
     obtain rfl:ga=gb:=by injection hgb with e;injection e
     exact⟨P.blk.cl 1 _ rfl,P.blk.cl 2 _ rfl,hcb _ _ y0,hcb _ _ y1,hcb _ _ y2⟩
    have KL:Hd (∀W,Ch [] w7 W->W.cell? ⟨gl,j * 2,none⟩=some (.int .i64 kd)/\W.cell? ⟨gl,j * 2+1,none⟩=some (.string (zG Wt))):=by
     intro W cW;obtain⟨gb,hgb,hcb⟩:=jO (zJ HO6.o (H7.o.trans cW) (by simp)) (by omega)
     obtain rfl:gl=gb:=by injection hgb with e;injection e
     exact⟨hcb _ _ x0,hcb _ _ x1⟩
    obtain⟨p0,p1,p2,p3,p4⟩:=KA.o w7 (Ch.refl _ _)
    cases nv with
    |true=>
     have HG7:=zC H7.o;clear x0 x1 y0 y1 y2 hpj hqj VD HP7;go_wp2_with fail;exact⟨⟨j+1,by simp,by omega,HG7⟩,by simp[intOf];omega⟩
    |false=>
     obtain⟨A1,_,A2⟩:=AK;simp only at A1 A2;have A2:=A2 trivial;obtain⟨n1,rfl⟩:∃n:Nat,of1=n:=⟨of1.toNat,by omega⟩;obtain⟨n2,rfl⟩:∃n:Nat,of2=n:=⟨of2.toNat,by omega⟩
     have hn1:n1<cv.length:=by omega
     have hn2:n2<cv.length:=by omega
     have hi1:(n1:Int)<cv.length:=by omega
     have hi2:(n2:Int)<cv.length:=by omega
     have hz1:(0:Int)<=n1:=by omega
     have hz2:(0:Int)<=n2:=by omega
     have iff:=bn (D:=⟨sv.map (·.1),cv.map (·.1),av.map (·.1)⟩) (q:=⟨false,n1,n2,L,kk⟩) rfl (A:=cv[n1].1.scrubs) (B:=cv[n2].1.scrubs) (by simp[Ye,hn1]) (by simp[Ye,hn2]);simp only at iff;obtain⟨gc,hgc,hcc⟩:=jO HP7.rc (by omega);subst hgc;have nm1:w7.cell? ⟨gc,n1 * 2,none⟩=some (.string cv[n1].1.name):=hcc _ _ (XC cv n1 _ (List.getElem?_eq_getElem hn1)).1;have nm2:w7.cell? ⟨gc,n2 * 2,none⟩=some (.string cv[n2].1.name):=hcc _ _ (XC cv n2 _ (List.getElem?_eq_getElem hn2)).1;have AP1:=zC (HAP.o n1 hn1 T);have AP2:=zC (HAP.o n2 hn2 T);have AP3:=zC (HAP.o n1 hn1 Wt);have AP4:=zC (HAP.o n2 hn2 Wt);have IT:=iff T;have IW:=iff Wt;generalize hbd:Je ⟨sv.map (·.1),cv.map (·.1),av.map (·.1)⟩ ⟨false,n1,n2,L,kk⟩=bd at *;clear iff hbd hcc;generalize cv[n1].1.name=name1 at *;generalize cv[n2].1.name=name2 at *;generalize yH (zt (sv.map (·.1)) cv[n1].1.scrubs) T=Y1 at *;generalize yH (zt (sv.map (·.1)) cv[n2].1.scrubs) T=Y2 at *;generalize yH (zt (sv.map (·.1)) cv[n1].1.scrubs) Wt=Z1 at *;generalize yH (zt (sv.map (·.1)) cv[n2].1.scrubs) Wt=Z2 at *;have HIT:=zC IT;have HIW:=zC IW;have HVD:=zC VD;have hws:=yV Wt;clear IT IW VD x0 x1 y0 y1 y2 hpj hqj HP7 HAP;go_wp2_with fail;go_quiet (fail);go_wp2_with fail;go_quiet (fail);go_wp2_with fail;refine(az S name1 T (by omega) AP1.o).mono ?_;rintro e w8 ⟨rfl,k8⟩;have K8:Hd (Ch [] w7 w8):=Ch.trans (by repeat' (first|exact Ch.refl _ _|refine Ch.trans ?_ (Ch.drewN [] _ _)|refine Ch.trans ?_ (Ch.drew [] _))) k8;clear p0 p1 p2 p3 p4 nm1 nm2 k8;go_wp2_with fail;refine(az S name2 T (by omega) AP2.o).mono ?_;rintro e w9 ⟨rfl,k9⟩;have K9:=zC (K8.o.trans k9);obtain⟨s0,s1⟩:=KL.o w9 K9.o;clear k9;go_wp2_with fail;refine(az S name1 Wt (by omega) AP3.o).mono ?_;rintro e w10 ⟨rfl,k10⟩;have K10:=zC (K9.o.trans k10);obtain⟨t0,t1⟩:=KL.o w10 K10.o;clear k10 s0 s1;go_wp2_with fail;refine(az S name2 Wt (by omega) AP4.o).mono ?_;rintro e w11 ⟨rfl,k11⟩;have K11:=zC (K10.o.trans k11);have HG11:=zC (H7.o.trans K11.o);obtain⟨u0,u1⟩:=KL.o w11 K11.o;clear k11 t0 t1;go_wp2_with fail;refine(Aj 0).mono ?_;rintro e w12 ⟨rfl,rfl⟩;go_wp2_with fail;refine(Aj 0).mono ?_;rintro e w13 ⟨rfl,rfl⟩;go_wp2_with fail;refine(Aj 0).mono ?_;rintro e w14 ⟨rfl,rfl⟩;go_wp2_with fail;refine(Aj 0).mono ?_;rintro e w15 ⟨rfl,rfl⟩
     rcases HVD.o with⟨hk,hL⟩|⟨hk,hW,hno⟩
     ·simp only[Bool.false_eq_true,if_false]at hk
      subst hk
      have hz:¬zG Z1=zG Z2:=fun e=>HIW.o.1 hL.1 (bo e)
      obtain⟨m1,m2⟩:=Zn hz
      by_cases hsh:(T.length:Int)<Wt.length
      ·have hy:Y1=Y2:=Classical.byContradiction fun hx=>hL.short (show T.length<Wt.length by omega) (HIT.o.2 hx)
       obtain⟨m3,m4⟩:=Y6 (congrArg zG hy);clear hL hz hy;go_wp2_with fail;exact⟨⟨j+1,by simp,by omega,HG11⟩,by simp[intOf];omega⟩
      ·clear hL hz
       go_wp2_with fail;exact⟨⟨j+1,by simp,by omega,HG11⟩,by simp[intOf];omega⟩
     ·simp only[Bool.false_eq_true,if_false]at hk
      subst hk
      have hz:Z1=Z2:=Classical.byContradiction fun hx=>hno Wt (HIW.o.2 hx)
      have hy:Y1=Y2:=Classical.byContradiction fun hx=>hno T (HIT.o.2 hx)
      obtain⟨m1,m2⟩:=Y6 (congrArg zG hz);obtain⟨m3,m4⟩:=Y6 (congrArg zG hy);clear hz hy hno;go_wp2_with fail;exact⟨⟨j+1,by simp,by omega,HG11⟩,by simp[intOf];omega⟩
   ·have HG7:=zC (HG6.o.trans H7.o)
    clear H7;go_wp2_with fail;go_ret;exact⟨rfl,HG7.o⟩
end Go.Proofs.YteobgfbgglfkbaaGreat
