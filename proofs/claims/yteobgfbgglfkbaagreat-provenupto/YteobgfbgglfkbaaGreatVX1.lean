import Derived.Test.YteobgfbgglfkbaaGreatVU4
set_option maxHeartbeats 6400000
set_option maxRecDepth 100000
namespace Go.Proofs.YteobgfbgglfkbaaGreat
open Go.RowKit
attribute [local go_sem ↓] Go.wp_at_zero Go.wp_at_succ
def JK(Ds:List zH):List (Nat->Bool):=Ds.flatMap fun D=>yM D.two.data.toList++(jc D).flatMap fun p=>yM p.2.data.toList
theorem AQ(Ds:List zH):Zg Ds=JK Ds++(if jF Ds then [YR 97 122,YR 65 90]else []):=rfl
theorem Dj(Ds:List zH){j:Nat}{D:zH}(hj:Ds[j]? =some D):JK (Ds.take (j+1))=JK (Ds.take j)++(yM D.two.data.toList++(jc D).flatMap fun p=>yM p.2.data.toList):=by
 obtain⟨h1,rfl⟩:=List.getElem?_eq_some_iff.1 hj;rw[List.take_succ_eq_append_getElem h1];simp only[JK,List.flatMap_append,List.flatMap_cons,List.flatMap_nil,List.append_nil]
def Kr(Ds:List zH):Prop:=Ds.length<=6/\∀D,D∈Ds->D.two.size<=4/\D.rules.length<=6/\∀r,r∈D.rules->jf r.o
def Jn(P:List (Int×ByteArray)):List (Nat->Bool):=P.flatMap fun p=>yM p.2.data.toList
theorem Ke:∀(P:List (Int×ByteArray)),(∀p,p∈P->p.2.size<=4)->(Jn P).length<=4 * P.length
 |[],_=>by simp[Jn]
 |p:: P,h=>by
  have ih:=Ke P (fun q hq=>h q (by simp[hq]));have h1:=h p (by simp);have e:p.2.data.toList.length=p.2.size:=JF _;simp only[Jn,List.flatMap_cons,List.length_append,List.length_cons,yM,List.length_map]at ih ⊢;omega
theorem Nd{D:zH}(hok:∀r,r∈D.rules->jf r.o):∀p,p∈jc D->p.2.size<=4:=by
 intro p hp;obtain⟨r,hr,h⟩:=List.mem_flatMap.1 hp;exact(hok r hr).2 p h
theorem Ca(P:List (Int×ByteArray)){j:Nat}{p:Int×ByteArray}(hj:P[j]? =some p):Jn (P.take (j+1))=Jn (P.take j)++yM p.2.data.toList:=by
 obtain⟨h1,rfl⟩:=List.getElem?_eq_some_iff.1 hj;rw[List.take_succ_eq_append_getElem h1];simp only[Jn,List.flatMap_append,List.flatMap_cons,List.flatMap_nil,List.append_nil]
theorem Kw{Ds:List zH}(h:Kr Ds):∀j,j<=Ds.length->(JK (Ds.take j)).length<=80 * j:=by
 intro j
 induction j with
 |zero=>intro _;simp[JK]
 |succ j ih=>
  intro hj;have hd:=h.2 Ds[j] (List.getElem_mem _);rw[Dj Ds (List.getElem?_eq_getElem (by omega))];have:=ih (by omega);have e:Ds[j].two.data.toList.length=Ds[j].two.size:=JF _;have h1:=Ke (jc Ds[j]) (Nd hd.2.2);have h2:=XN hd.2.2 hd.2.1;unfold Jn at h1;simp only[List.length_append,List.length_map,yM]at h1 ⊢;omega
theorem Ik{w:World}{F:Nat->Prop}{v:Value}{sv:List (zH×Value)}(h:Jo w F v sv)(hFew:Kr (sv.map fun p=>p.1)):
 Calls Tryz.prog 143 #[v] w fun e w'=>∃u,e= .returned u/\zm w' u (Zg (sv.map fun p=>p.1))/\(∀q,u.ownBlock=some q->w.heap.size<=q)/\Ch [] w w':=by
 obtain⟨a,c,rfl⟩:=zQ h.1;have HS:=zC h;have HFew:=zC hFew
 have hsl:sv.length<=6:=by have:=hFew.1;simpa using this
 have hokc:∀p,p∈sv->(∀r,r∈p.1.rules->jf r.o)/\p.1.rules.length<=6:=by
  intro p hp;have:=hFew.2 p.1 (List.mem_map_of_mem hp);exact⟨this.2.2,this.2.1⟩
 have CSD:Hd (∀W,Ch [] w W->Calls Tryz.prog 176 #[.slice a sv.length c] W fun e w'=>e= .returned (.bool (jF (sv.map fun p=>p.1)))/\Ch [] W w'):=fun W g=>Bo (HS.o.kp g) hokc (by omega)
 clear h hFew hokc;go_enter Tryz.func143,Tryz.ntmps143;go_wp2_with fail
 go_loopw [3,10] (fun lv iv w5=>∃j:Nat,iv= .int .i64 j/\j<=sv.length/\Hd (zm w5 lv (JK ((sv.map fun p=>p.1).take j))/\(∀q,lv.ownBlock=some q->w.heap.size<=q)/\Ch [] w w5)) (fun _ iv _=>sv.length - (intOf iv).toNat)
 case atStart=>exact⟨0,rfl,by omega,by show _/\_;exact⟨zm.nil _,by intro q hq;simp[Value.ownBlock]at hq,Ch.refl _ _⟩⟩
 case round=>
  generalize wr=w5 at *;obtain⟨j,rfl,hj,H5⟩:=hrel
  by_cases hlt:(j:Int)<sv.length
  ·have hj2:j<sv.length:=by omega
   have hj0:(0:Int)<=j:=by omega
   obtain⟨⟨D,vr⟩,hp⟩:∃p,sv[j]? =some p:=⟨_,List.getElem?_eq_getElem hj2⟩;have R5:=zJ HS.o.1 H5.o.2.2 (by simp)
   obtain⟨g,hg⟩:∃g,a=some ⟨g,0,none⟩:=by
    rcases R5.2 with⟨_,h0⟩|⟨g,cap,cur,h,_⟩
    ·omega
    ·injection h with h
     exact⟨g,h⟩
   subst hg
   have hDm:(sv.map fun p=>p.1)[j]? =some D:=by simp[hp]
   have hlM:=Kw HFew.o j (by simp;omega);have hD6:=HFew.o.2 D (List.mem_of_getElem? hDm);have GR:=HS.o.2 _ (List.mem_of_getElem? hp);have cells:=Q4 sv j _ hp;simp only at GR
   obtain⟨ra,rn,rc,hvr⟩:JI vr:=by
    obtain⟨_,rv,_,hrow,_⟩:=id GR;obtain⟨ra,rc,hvr⟩:=zQ hrow;exact⟨_,_,_,hvr⟩
   subst hvr;have hl5:=R5.1
   have x0:w5.cell? ⟨g,j * 5,none⟩=some (.string D.name):=by rw[R5.cellAt (j * 5) (by omega)];exact cells.1
   obtain⟨sw,hsw⟩:∃sw:Int,(if D.swap then(1:Int)else 0)=sw:=⟨_,rfl⟩
   have x1:w5.cell? ⟨g,j * 5+1,none⟩=some (.int .i64 sw):=by rw[R5.cellAt (j * 5+1) (by omega),<- hsw];exact cells.2.1
   have x2:w5.cell? ⟨g,j * 5+2,none⟩=some (.slice ra rn rc):=by rw[R5.cellAt (j * 5+2) (by omega)];exact cells.2.2.1
   have x3:w5.cell? ⟨g,j * 5+3,none⟩=some (.string D.one):=by rw[R5.cellAt (j * 5+3) (by omega)];exact cells.2.2.2.1
   have x4:w5.cell? ⟨g,j * 5+4,none⟩=some (.string D.two):=by rw[R5.cellAt (j * 5+4) (by omega)];exact cells.2.2.2.2
   have g6:=Ch.alloc [] w5 (.cells #[.string D.name,.int .i64 sw,.slice ra rn rc,.string D.one,.string D.two] 118);have B6:=zE.new w5 #[.string D.name,.int .i64 sw,.slice ra rn rc,.string D.one,.string D.two] 118
   have z6:(w5.alloc (.cells #[.string D.name,.int .i64 sw,.slice ra rn rc,.string D.one,.string D.two] 118)).heap.size=w5.heap.size+1:=by simp
   have HM6:=zC (H5.o.1.kp g6 (by simp));have LV:=zC H5.o.1.lt;have HG6:=zC (H5.o.2.2.trans g6);have V5:=zC H5.o.2.1;have z5:=H5.o.2.2.size;have SG:=zC (KX (w:=w5.alloc (.cells #[.string D.name,.int .i64 sw,.slice ra rn rc,.string D.one,.string D.two] 118)) D.two (by omega));have HB6:=zC B6;have y4:=B6.cl 4 (.string D.two) rfl;have HTK:=zC (Dj _ hDm)
   have PO:Hd (∀W,Ch [] w W->Calls Tryz.prog 186 #[.agg #[.string D.name,.int .i64 sw,.slice ra rn rc,.string D.one,.string D.two]] W fun e w'=>∃u,e= .returned u/\w'.ownsRow 0 312 2 u (jc D).length (jn (jc D))/\(∀q,u.ownBlock=some q->W.heap.size<=q)/\Ch [] W w'):=fun W k=>Nq (GR.kp k) hD6.2.2 hD6.2.1 sw
   have HPL:=zC (XN hD6.2.2 hD6.2.1);have HPS:=zC (Nd hD6.2.2);obtain⟨la,lc,hlv⟩:=H5.o.1.slice;subst hlv
   have hsl1:(yM D.two.data.toList).length<=4:=by have e:=JF D.two;simp only[yM,List.length_map];omega
   clear GR R5 B6 g6 cells hsw hD6;generalize hw6:w5.alloc (.cells #[.string D.name,.int .i64 sw,.slice ra rn rc,.string D.one,.string D.two] 118)=w6 at *;go_wp2_with fail;refine SG.o.mono ?_;rintro e w7 ⟨u,rfl,hu,hub,c7⟩;have HM7:=zC (HM6.o.kp c7 (by simp));have HU:=zC hu;have HUB:=zC hub;have HG7:=zC (HG6.o.trans c7);have HB7:=zC (HB6.o.kp c7 (by simp));have z7:=c7.size;obtain⟨ua,uc,hus⟩:=hu.slice;subst hus;clear hu hub c7 y4 x0 x1 x2 x3 x4;go_wp2_with (at_builtin;refine QM (v:= .slice la (JK ((sv.map fun p=>p.1).take j)).length lc) (u:= .slice ua (yM D.two.data.toList).length uc) rfl _ _ rfl rfl rfl HM7.o HU.o (by omega) ?_;intro v8 w8 hM8 gr8 hat8;have B8:=HB7.o.kp gr8 (by intro hx;have:=LV.o _ (by simpa using hx);omega);have y0:=B8.cl 0 (.string D.name) rfl;have y1:=B8.cl 1 (.int .i64 sw) rfl;have y2:=B8.cl 2 (.slice ra rn rc) rfl;have y3:=B8.cl 3 (.string D.one) rfl;have y4:=B8.cl 4 (.string D.two) rfl);have HM8:=zC hM8;have HG8:Hd (Ch [] w w8):=HG7.o.trans' gr8 (fun q hq=>Or.inr (V5.o q (by simpa using hq)))
   have HV8:Hd (∀q,v8.ownBlock=some q->w.heap.size<=q):=by
    intro q hq
    rcases hat8 with h|h
    ·exact V5.o q (by rw[<- h];exact hq)
    ·have:=h q hq;have:=HG7.o.size;omega
   have z8:=gr8.size
   have hlen8:(JK ((sv.map fun p=>p.1).take j)++yM D.two.data.toList).length<=80 * j+4:=by rw[List.length_append];omega
   obtain⟨ka,kc,hks⟩:=hM8.slice;subst hks;clear hM8 gr8 hat8 B8 y0 y1 y2 y3 y4;refine(PO.o _ HG8.o).mono ?_;rintro e w9 ⟨up,rfl,o9,ub9,c9⟩;obtain⟨pa,pc,rfl⟩:=zQ o9;have HO9:=zC o9;have HG9:=zC (HG8.o.trans c9);have HM9:=zC (HM8.o.kp c9 (by simp));generalize hPD:jc D=P at *;have HPD:=zC hPD;have hpl:=HPL.o;have HUB9:=zC ub9;have HLT8:=zC HM8.o.lt;clear o9 ub9 c9 HM8 HG8 hPD;go_wp2_with fail
   have HV9:Hd (∀q,(Value.slice ka (JK ((sv.map fun p=>p.1).take j)++yM D.two.data.toList).length kc).ownBlock=some q->w.heap.size<=q/\(Value.slice pa P.length pc).ownBlock≠some q):=fun q hq=>⟨HV8.o q hq,fun hx=>by have:=HUB9.o q hx;have:=HLT8.o q hq;omega⟩
   go_loopw [3,22] (fun lv iv wx=>∃i:Nat,iv= .int .i64 i/\i<=P.length/\Hd (zm wx lv (JK ((sv.map fun p=>p.1).take j)++yM D.two.data.toList++Jn (P.take i))/\(∀q,lv.ownBlock=some q->w.heap.size<=q/\(Value.slice pa P.length pc).ownBlock≠some q)/\Ch [] w wx/\wx.ownsRow 0 312 2 (.slice pa P.length pc) P.length (jn P))) (fun _ iv _=>P.length - (intOf iv).toNat)
   case atStart=>exact⟨0,rfl,by omega,by show _/\_;exact⟨by simpa[Jn]using HM9.o,fun q hq=>HV9.o q (by cases ka <;>exact hq),HG9.o,HO9.o⟩⟩
   case round=>
    generalize wr=w10 at *;obtain⟨i,rfl,hi,H10⟩:=hrel
    by_cases hlt10:(i:Int)<P.length
    ·have hi2:i<P.length:=by omega
     have hi0:(0:Int)<=i:=by omega
     obtain⟨⟨kk,x⟩,hp10⟩:∃p,P[i]? =some p:=⟨_,List.getElem?_eq_getElem hi2⟩;obtain⟨M10,V10,G10,O10⟩:=H10.o;obtain⟨gp,hgp,hcells⟩:=jO O10 (by omega);obtain⟨q0,q1⟩:=WZ P i _ hp10;have r0:=hcells _ _ q0;have r1:=hcells _ _ q1;subst hgp;have hx4:=HPS.o _ (List.mem_of_getElem? hp10);simp only at r0 r1 hx4;have g11:=Ch.alloc [] w10 (.cells #[.int .i64 (pk kk),.string x] 312);have B11:=zE.new w10 #[.int .i64 (pk kk),.string x] 312;have y1:=B11.cl 1 (.string x) rfl;have SG2:=zC (KX (w:=w10.alloc (.cells #[.int .i64 (pk kk),.string x] 312)) x (by omega));obtain⟨na,nc,hns⟩:=M10.slice;subst hns
     have hMl:(JK ((sv.map fun p=>p.1).take j)++yM D.two.data.toList++Jn (P.take i)).length<=80 * j+4+4 * i:=by
      have:=Ke (P.take i) (fun p hp=>HPS.o p (List.mem_of_mem_take hp));rw[List.length_take]at this;rw[List.length_append];omega
     have HT10:Hd (JK ((sv.map fun p=>p.1).take j)++yM D.two.data.toList++Jn (P.take (i+1))=(JK ((sv.map fun p=>p.1).take j)++yM D.two.data.toList++Jn (P.take i))++yM x.data.toList):=by
      show _=_
      rw[Ca P hp10,<- List.append_assoc]
     generalize JK ((sv.map fun p=>p.1).take j)++yM D.two.data.toList++Jn (P.take i)=MM at *;have HM11:=zC (M10.kp g11 (by simp));have HO11:=zC (zJ O10 g11 (by simp));have HG11:=zC (G10.trans g11);have HV10:=zC V10
     have hsx:(yM x.data.toList).length<=4:=by have e:=JF x;simp only[yM,List.length_map];omega
     have e1:IntKind.i64.wrap ((i:Int)+1)=((i+1:Nat):Int):=by rw[IntKind.wrap_i64];omega
     have z10:=G10.size;clear M10 V10 G10 O10 hcells q0 q1 g11 B11 H10;generalize hw11:w10.alloc (.cells #[.int .i64 (pk kk),.string x] 312)=w11 at *;go_wp2_with fail;refine SG2.o.mono ?_;rintro e w12 ⟨u2,rfl,hu2,hub2,c12⟩;obtain⟨u2a,u2c,hus2⟩:=hu2.slice;subst hus2;have HM12:=zC (HM11.o.kp c12 (by simp));have HU2:=zC hu2;have HO12:=zC (zJ HO11.o c12 (by simp));have HG12:=zC (HG11.o.trans c12);generalize hsxm:yM x.data.toList=sx at *;clear hu2 hub2 c12 r0 r1 hsxm;go_wp2_with (at_builtin;refine QM (v:= .slice na MM.length nc) (u:= .slice u2a sx.length u2c) rfl _ _ rfl rfl rfl HM12.o HU2.o (by omega) ?_;intro v13 w13 hM13 gr13 hat13)
     have FIN:Hd (zm w13 v13 (JK ((sv.map fun p=>p.1).take j)++yM D.two.data.toList++Jn (P.take (i+1)))/\(∀q,v13.ownBlock=some q->w.heap.size<=q/\(Value.slice (some ⟨gp,0,none⟩) P.length pc).ownBlock≠some q)/\Ch [] w w13/\w13.ownsRow 0 312 2 (.slice (some ⟨gp,0,none⟩) P.length pc) P.length (jn P)):=by
      refine⟨by rw[HT10.o];exact hM13,fun y hy=> ?_,HG12.o.trans' gr13 (fun y hy=>Or.inr (HV10.o y (by simpa using hy)).1),zJ HO12.o gr13 (fun y hy hx=>(HV10.o y (by simpa using hx)).2 hy)⟩
      rcases hat13 with h|h
      ·exact HV10.o y (by rw[<- h];exact hy)
      ·have:=h y hy
       have l:=HG12.o.size;exact⟨by omega,fun hx=>by have:=(HO12.o.lt y hx).2;omega⟩
     clear hM13 gr13 hat13;go_roundw
     case rel=>exact⟨i+1,by simp,by omega,FIN⟩
     case measure=>simp[intOf];omega
    ·have e:i=P.length:=by omega
     subst e;have HC:=H10.o;rw[List.take_length]at HC
     have HE:Hd (JK ((sv.map fun p=>p.1).take j)++yM D.two.data.toList++Jn P=JK ((sv.map fun p=>p.1).take (j+1))):=by
      show _=_
      rw[HTK.o,List.append_assoc];rfl
     first
     |rw[HE.o]at HC
     |rw[show JK ((sv.map fun p=>p.1).take j)++(yM D.two.data.toList++Jn P)=JK ((sv.map fun p=>p.1).take (j+1))from by rw[<- List.append_assoc];exact HE.o]at HC
     have HCx:=zC HC
     have e1:IntKind.i64.wrap ((j:Int)+1)=((j+1:Nat):Int):=by rw[IntKind.wrap_i64];omega
     clear H10 HC;go_wp2_with fail;exact⟨⟨j+1,by simp,by omega,by show _/\_;exact⟨HCx.o.1,fun q hq=>(HCx.o.2.1 q hq).1,HCx.o.2.2.1⟩⟩,by simp[intOf];omega⟩
  ·have e:j=sv.length:=by omega
   subst e;have HC:=H5.o;rw[show(sv.map fun p=>p.1).take sv.length=sv.map fun p=>p.1 from by rw[List.take_of_length_le (by simp)]]at HC;have hTl:=Kw HFew.o sv.length (by simp);rw[show(sv.map fun p=>p.1).take sv.length=sv.map fun p=>p.1 from by rw[List.take_of_length_le (by simp)]]at hTl;obtain⟨la,lc,hlv⟩:=HC.1.slice;subst hlv;have HCx:=zC HC;have CS:=zC (CSD.o w5 HC.2.2);have HTM:=zC (AQ (sv.map fun p=>p.1));generalize jF (sv.map fun p=>p.1)=cs at *;generalize JK (sv.map fun p=>p.1)=TA at *;clear H5 HC CSD;go_wp2_with fail;refine CS.o.mono ?_;rintro e w6 ⟨rfl,k6⟩;have HM6:=zC (HCx.o.1.kp k6 (by simp));have HG6:=zC (HCx.o.2.2.trans k6)
   cases cs with
   |false=>
    go_wp2_with fail;go_ret;exact⟨_,rfl,by rw[HTM.o];simpa using HM6.o,HCx.o.2.1,HG6.o⟩
   |true=>
    go_wp2_with fail;refine(Vw 97 122 (by omega) (by omega)).mono ?_;rintro e w7 ⟨q7,rfl,hq7,k7⟩;rw[show zS q7= .agg #[.int .u64 (q7 0),.int .u64 (q7 1),.int .u64 (q7 2),.int .u64 (q7 3)]from rfl];have HQ7:=zC hq7;clear hq7;go_wp2_with fail;refine(Vw 65 90 (by omega) (by omega)).mono ?_;rintro e w8 ⟨q8,rfl,hq8,k8⟩;rw[show zS q8= .agg #[.int .u64 (q8 0),.int .u64 (q8 1),.int .u64 (q8 2),.int .u64 (q8 3)]from rfl];have g9:=Ch.alloc [] w8 (.cells #[.int .u64 (q7 0),.int .u64 (q7 1),.int .u64 (q7 2),.int .u64 (q7 3),.int .u64 (q8 0),.int .u64 (q8 1),.int .u64 (q8 2),.int .u64 (q8 3)] 240);have M9:=zm.built2 w8 (f:=YR 97 122) (f':=YR 65 90) HQ7.o hq8;have N9:=HM6.o.kp ((k7.trans k8).trans g9) (by simp);have HG9:=zC ((HG6.o.trans (k7.trans k8)).trans g9);clear g9 k7 k8 hq8;go_wp2_with (at_builtin;refine QM (by rfl) _ _ (by rfl) (by rfl) (by rfl) N9 M9 (by simp only[List.length_cons,List.length_nil];omega) ?_;intro v10 w10 own10 gr10 hat10)
    have FIN:Hd (zm w10 v10 (TA++[YR 97 122,YR 65 90])/\(∀q,v10.ownBlock=some q->w.heap.size<=q)/\Ch [] w w10):=by
     refine⟨own10,fun y hy=> ?_,HG9.o.trans' gr10 (fun y hy=>Or.inr (HCx.o.2.1 y (by simpa using hy)))⟩
     rcases hat10 with h|h
     ·exact HCx.o.2.1 y (by rw[<- h];exact hy)
     ·have:=h y hy;have:=HG9.o.size;omega
    clear own10 gr10 hat10;go_wp2_with fail;go_ret;exact⟨_,rfl,by rw[HTM.o];simpa using FIN.o.1,FIN.o.2.1,FIN.o.2.2⟩
theorem AH(l:List UInt8)(n:Nat):(zG l).extract 0 n=zG (l.take n):=by
 rw[QV,List.drop_zero,Nat.sub_zero]
theorem Pw{w:World}(e e':List UInt8)(h:e.length<=1000000)(h':e'.length<=1000000):
 Calls Tryz.prog 140 #[.string (zG e),.string (zG e')] w fun r w'=>r= .returned (.tuple #[.string (zG (jL e e')),.string (zG (jL e' e))])/\Ch [] w w':=by
 have z:=yV e;have z':=yV e'
 by_cases hl:e.length<e'.length
 ·have hl':(e.length:Int)<e'.length:=by omega
  have e1:IntKind.i64.wrap ((e'.length:Int) - (e.length:Int))=((e'.length - e.length:Nat):Int):=by rw[IntKind.wrap_i64];omega
  have HA:Hd (jL e e'=e'.take (e'.length - e.length)):=by show _=_;unfold jL;rw[if_pos hl]
  have HB:Hd (jL e' e=[]):=by show _=_;unfold jL;rw[if_neg (by omega)]
  have HT:=zC (AH e' (e'.length - e.length))
  have hb:((e'.length - e.length:Nat):Int)<=e'.length:=by omega
  have hb0:(0:Int)<=((e'.length - e.length:Nat):Int):=by omega
  go_enter Tryz.func140,Tryz.ntmps140;go_wp2_with fail;go_ret2;refine⟨?_,Ch.refl _ _⟩
  show Ending.returned (.tuple #[.string ((zG e').extract 0 (e'.length - e.length)),.string ⟨#[]⟩])=_
  rw[HT.o,HA.o,HB.o];rfl
 ·have hl':¬(e.length:Int)<e'.length:=by omega
  have e1:IntKind.i64.wrap ((e.length:Int) - (e'.length:Int))=((e.length - e'.length:Nat):Int):=by rw[IntKind.wrap_i64];omega
  have HA:Hd (jL e' e=e.take (e.length - e'.length)):=by
   show _=_
   unfold jL
   split
   ·rfl
   ·rw[show e.length - e'.length=0 by omega,List.take_zero]
  have HB:Hd (jL e e'=[]):=by show _=_;unfold jL;rw[if_neg hl]
  have HT:=zC (AH e (e.length - e'.length))
  have hb:((e.length - e'.length:Nat):Int)<=e.length:=by omega
  have hb0:(0:Int)<=((e.length - e'.length:Nat):Int):=by omega
  go_enter Tryz.func140,Tryz.ntmps140;go_wp2_with fail;go_quiet (fail);go_wp2_with fail;go_ret2;refine⟨?_,Ch.drewN _ _ _⟩
  show Ending.returned (.tuple #[.string ⟨#[]⟩,.string ((zG e).extract 0 (e.length - e'.length))])=_
  rw[HT.o,HA.o,HB.o];rfl
end Go.Proofs.YteobgfbgglfkbaaGreat
