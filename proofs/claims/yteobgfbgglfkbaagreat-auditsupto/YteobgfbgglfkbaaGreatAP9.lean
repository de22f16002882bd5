import Derived.Test.YteobgfbgglfkbaaGreatAP3
import Derived.Test.YteobgfbgglfkbaaGreatAA6
set_option maxHeartbeats 1600000
set_option maxRecDepth 100000
namespace Go.Proofs.YteobgfbgglfkbaaGreat
open Go.RowKit
attribute [local go_sem ↓] Go.wp_at_zero Go.wp_at_succ
theorem LY:∀(P:List (Int×ByteArray)) (i:Nat) (p:Int×ByteArray),P[i]? =some p->(J9 P)[i * 2]? =some (.int .u8 p.1)/\(J9 P)[i * 2+1]? =some (.string p.2)
 |[],i,p,h=>by simp at h
 |q:: sv,0,p,h=>by simp at h;subst h;simp[J9]
 |q:: sv,i+1,p,h=>by
  have ih:=LY sv i p (by simpa using h)
  have e:∀t,(J9 (q:: sv))[(i+1) * 2+t]? =(J9 sv)[i * 2+t]? :=by
   intro t;rw[show(i+1) * 2+t=(i * 2+t)+2 from by omega];simp[J9]
  exact⟨(e 0).trans ih.1,(e 1).trans ih.2⟩
theorem OM{w:World}{va:Option Addr}{vn vc:Nat}{vo:Value}{P:List (Int×ByteArray)}(ho:w.ownsRow 0 191 2 vo P.length (J9 P))(hP:jf P)(c:UInt8):
 Calls Tryz.prog 122 #[.agg #[.slice va vn vc,vo],.int .u8 c.toNat] w fun e w'=>e= .returned (.string (zG (jD P c)))/\Ch [] w w':=by
 obtain⟨a,cp,rfl⟩:=zQ ho;have B0:=zE.new w #[.slice va vn vc,.slice a P.length cp] 146;have g0:=Ch.alloc [] w (.cells #[.slice va vn vc,.slice a P.length cp] 146);have hP3:=hP.1;go_enter Tryz.func122,Tryz.ntmps122;go_wp2_with fail;generalize w.alloc (.cells #[.slice va vn vc,.slice a P.length cp] 146)=w0 at *;generalize hH:w.heap.size=H at *;clear hH
 go_loopw [5,6] (fun s i w5=>∃k:Nat,k<=P.length/\s= .string (zG (jD (P.take k) c))/\i= .int .i64 k/\Hd (zE w5 H #[.slice va vn vc,.slice a P.length cp] 146)/\Hd (Ch [] w w5)) (fun _ i _=>P.length - (intOf i).toNat)
 case atStart=>exact⟨0,Nat.zero_le _,rfl,rfl,B0,g0⟩
 case round=>
  obtain⟨k,hk,rfl,rfl,B5,g5⟩:=hrel;have b1:=B5.o.cl 1 _ rfl
  by_cases hlt:(k:Int)<P.length
  ·have hlt':k<P.length:=by omega
   obtain⟨g,rfl,hg⟩:=jO (zJ ho g5.o (by simp)) (by omega);obtain⟨hc0,hc1⟩:=LY P k P[k] (by simp[hlt']);have d0:=hg _ _ hc0;have d1:=hg _ _ hc1;have HT:=zC (Lm P c hlt');have hT4:=hP.2 P[k] (List.getElem_mem hlt')
   have hs1:(zG (jD (P.take k) c)).size<=12:=by rw[yV];exact EY hP c k
   generalize P[k]=p at *;obtain⟨K,T⟩:=p;simp only at d0 d1 HT hT4;clear hg hc0 hc1;generalize hX:jD (P.take k) c=X at *;clear hX
   have done:∀w7 y,y=zG (jD (P.take (k+1)) c)->Ch [] wr w7->(∃k':Nat,k'<=P.length/\Value.string y= .string (zG (jD (P.take k') c))/\Value.int .i64 ((k:Int)+1)= .int .i64 k'/\Hd (zE w7 H #[.slice va vn vc,.slice (some ⟨g,0,none⟩) P.length cp] 146)/\Hd (Ch [] w w7))/\P.length - (intOf (Value.int .i64 ((k:Int)+1))).toNat<P.length - (intOf (Value.int .i64 (k:Int))).toNat:=
    fun w7 y hy g7=>⟨⟨k+1,by omega,by rw[hy],by go_num,B5.o.kp g7 (by simp),g5.o.trans g7⟩,by simp[intOf];omega⟩
   have DONE:=zC done;clear done
   by_cases k1:K=116
   ·have HQ:Hd (j6 (K,T) c=T.data.toList):=by show _=_;simp[j6,k1]
    subst k1;go_wp2_with fail;exact DONE.o _ _ (by rw[HT.o,HQ.o,<- Zl,Zx]) (Ch.refl _ _)
   ·have q1:(K==116)=false:=by simp[k1]
    by_cases k2:K=98
    ·have HQ:Hd (j6 (K,T) c=[c]):=by show _=_;simp[j6,k2]
     have hcv:=QN wr c.toNat;rw[UB]at hcv;have hcs:(zG [c]).size=1:=yV _;subst k2;go_wp2_with fail;exact DONE.o _ _ (by rw[HT.o,HQ.o,Zl]) (Ch.alloc _ _ _)
    ·have q2:(K==98)=false:=by simp[k2]
     by_cases k3:K=117
     ·have HQ:Hd (j6 (K,T) c=[zk c]):=by show _=_;simp[j6,k3]
      have hcs:(zG [zk c]).size=1:=yV _;subst k3;go_wp2_with fail;refine(RH c).mono ?_;rintro e w6 ⟨rfl,rfl⟩;have hcv:=QN w6 (zk c).toNat;rw[UB]at hcv;go_wp2_with fail;exact DONE.o _ _ (by rw[HT.o,HQ.o,Zl]) (Ch.alloc _ _ _)
     ·have q3:(K==117)=false:=by simp[k3]
      have HQ:Hd (j6 (K,T) c=[zu c]):=by show _=_;simp[j6,k1,k2,k3]
      have hcs:(zG [zu c]).size=1:=yV _;go_wp2_with fail;refine(Sb c).mono ?_;rintro e w6 ⟨rfl,rfl⟩;have hcv:=QN w6 (zu c).toNat;rw[UB]at hcv;go_wp2_with fail;exact DONE.o _ _ (by rw[HT.o,HQ.o,Zl]) (Ch.alloc _ _ _)
  ·obtain rfl:k=P.length:=by omega
   go_wp2_with fail;go_ret;exact⟨rfl,g5.o⟩
theorem Nt:∀(rv:List (yb×(Value×Value))) (i:Nat) (p:yb×(Value×Value)),rv[i]? =some p->(rv.flatMap fun p=>[p.2.1,p.2.2])[i * 2]? =some p.2.1/\(rv.flatMap fun p=>[p.2.1,p.2.2])[i * 2+1]? =some p.2.2
 |[],i,p,h=>by simp at h
 |q:: sv,0,p,h=>by simp at h;subst h;simp
 |q:: sv,i+1,p,h=>by
  have ih:=Nt sv i p (by simpa using h)
  have e:∀t,((q:: sv).flatMap fun p=>[p.2.1,p.2.2])[(i+1) * 2+t]? =(sv.flatMap fun p=>[p.2.1,p.2.2])[i * 2+t]? :=by
   intro t;rw[show(i+1) * 2+t=(i * 2+t)+2 from by omega];simp
  exact⟨(e 0).trans ih.1,(e 1).trans ih.2⟩
theorem YC.kp{w w':World}{F:Nat->Prop}{v:Value}{R:List yb}(h:YC w F v R)(hF:∀k,F k->k<w.heap.size)(g:Ch [] w w'):YC w' F v R:=
 h.frame (fun k hk=>g.block k (hF k hk) (by simp)) (fun _ h=>h)
theorem Gt{R:List yb}(c:UInt8){k:Nat}(hk:k<R.length):yN (R.drop k) c=if zo R[k].cls c.toNat then jD R[k].o c else yN (R.drop (k+1)) c:=by
 rw[List.drop_eq_getElem_cons hk];simp only[yN]
theorem FM{w:World}{F:Nat->Prop}{nm one two:ByteArray}{sw:Bool}{v:Value}{R:List yb}(hr:YC w F v R)(hR:∀r,r∈R->jf r.o)(hn:R.length<=6)(c:UInt8):
 Calls Tryz.prog 87 #[.agg #[.string nm,.bool sw,.string one,.string two,v],.int .u8 c.toNat] w fun e w'=>e= .returned (.string (zG (yN R c)))/\Ch [] w w':=by
 obtain⟨_,rv,rfl,ho,hp⟩:=hr;obtain⟨a,cp,rfl⟩:=zQ ho
 have hn':rv.length<=6:=by simpa using hn
 have hc256:=c.toNat_lt
 have hcI:(c.toNat:Int)<256:=by omega
 have B0:=zE.new w #[.string nm,.bool sw,.string one,.string two,.slice a rv.length cp] 131;have g0:=Ch.alloc [] w (.cells #[.string nm,.bool sw,.string one,.string two,.slice a rv.length cp] 131);go_enter Tryz.func87,Tryz.ntmps87;go_wp2_with fail;generalize w.alloc (.cells #[.string nm,.bool sw,.string one,.string two,.slice a rv.length cp] 131)=w0 at *;generalize hH:w.heap.size=H at *
 go_loopw [5] (fun i w5=>∃k:Nat,k<=rv.length/\i= .int .i64 k/\Hd (yN ((rv.map fun p=>p.1).drop k) c=yN (rv.map fun p=>p.1) c)/\Hd (zE w5 H #[.string nm,.bool sw,.string one,.string two,.slice a rv.length cp] 131)/\Hd (Ch [] w w5)) (fun i _=>rv.length - (intOf i).toNat)
 case atStart=>exact⟨0,Nat.zero_le _,rfl,by show _=_;simp,B0,g0⟩
 case round=>
  obtain⟨k,hk,rfl,HB,B5,g5⟩:=hrel;have b4:=B5.o.cl 4 _ rfl
  by_cases hlt:(k:Int)<rv.length
  ·have hlt':k<rv.length:=by omega
   have HD:=zC (Gt (R:=rv.map fun p=>p.1) c (k:=k) (by simpa using hlt'));obtain⟨g,rfl,hg⟩:=jO (zJ ho g5.o (by simp)) (by omega);obtain⟨h0,h1⟩:=Nt rv k rv[k] (by simp[hlt']);have d0:=hg _ _ h0;have d1:=hg _ _ h1;have hpk:=hp rv[k] (List.getElem_mem hlt');have hRk:=hR rv[k].1 (List.mem_map_of_mem (List.getElem_mem hlt'));rw[List.getElem_map]at HD;clear hg h0 h1;generalize rv[k]=p at *;obtain⟨D,vi,vo⟩:=p;simp only at d0 d1 HD hpk hRk;obtain⟨cb,rfl,hFc,hBl,_,hparts⟩:=hpk;have e0:=(hBl.kp g5.o (by simp)).cl c.toNat hc256;have HO:=zC (zJ hparts g5.o (by simp));obtain⟨oa,oc,rfl⟩:=zQ hparts;clear hBl hparts hp
   cases hb:zo D.cls c.toNat with
   |true=>
    rw[hb]at e0 HD
    have HD2:Hd (jD D.o c=yN (rv.map fun p=>p.1) c):=by show _=_;rw[<- HB.o,HD.o];rfl
    clear hb;go_wp2_with fail;refine(OM HO.o hRk c).mono ?_;rintro e w8 ⟨rfl,g8⟩;go_wp2_with fail;go_ret;exact⟨by rw[<- HD2.o];rfl,g5.o.trans g8⟩
   |false=>
    rw[hb]at e0 HD
    have HD2:Hd (yN ((rv.map fun p=>p.1).drop (k+1)) c=yN (rv.map fun p=>p.1) c):=by show _=_;rw[<- HB.o,HD.o];rfl
    clear hb;go_wp2_with fail;exact⟨⟨k+1,by omega,by go_num,HD2,B5,g5⟩,by simp[intOf];omega⟩
  ·have HD:Hd (yN (rv.map fun p=>p.1) c=[c]):=by
    show _=_
    rw[<- HB.o,List.drop_of_length_le (by simp;omega)];rfl
   have hcv:=QN wr c.toNat;rw[UB]at hcv;go_wp2_with fail;go_ret;exact⟨by rw[HD.o];rfl,g5.o.trans (Ch.alloc _ _ _)⟩
theorem Pk{one two:List UInt8}{xs:List UInt8}{i:Nat}(h0:one≠[])(hi:i<xs.length):j0 one two (xs.drop i)=if(xs.drop i).take one.length=one then two++j0 one two (xs.drop (i+one.length))else xs[i]:: j0 one two (xs.drop (i+1)):=by
 split
 ·rename_i h
  have:=List.take_append_drop one.length (xs.drop i);rw[h]at this;rw[<- this,LA h0,List.drop_drop]
 ·rename_i h
  rw[List.drop_eq_getElem_cons hi];refine Xp ?_;intro hp;rw[<- List.drop_eq_getElem_cons hi,List.prefix_iff_eq_take]at hp;exact h hp.symm
theorem Ru{w:World}{F:Nat->Prop}{D:zH}{v:Value}(hr:YC w F v D.rules)(hF:∀k,F k->k<w.heap.size)(hD:yR D)(T:List UInt8)(hT:T.length<=140737488355328)(hl:(Jg D T).length<=140737488355328):
 Calls Tryz.prog 47 #[.agg #[.string D.name,.bool D.swap,.string D.one,.string D.two,v],.string (zG T)] w fun e w'=>e= .returned (.string (zG (Jg D T)))/\Ch [] w w':=by
 obtain⟨nm,sw,one,two,R⟩:=D;simp only at hr ⊢
 obtain⟨a,n,cp,rfl⟩:∃a n c,v= .slice a n c:=by
  obtain⟨_,rv,_,ho,_⟩:=hr;obtain⟨a,c,rfl⟩:=zQ ho;exact⟨_,_,_,rfl⟩
 have B0:=zE.new w #[.string nm,.bool sw,.string one,.string two,.slice a n cp] 131;have g0:=Ch.alloc [] w (.cells #[.string nm,.bool sw,.string one,.string two,.slice a n cp] 131)
 have hTs:(zG T).size<=140737488355328:=by rw[yV];exact hT
 have HZ:=zC (yV T);have HL:=zC hl;clear hl;generalize hCL:Jg ⟨nm,sw,one,two,R⟩ T=CL at *;go_enter Tryz.func47,Tryz.ntmps47;go_wp2_with fail;generalize w.alloc (.cells #[.string nm,.bool sw,.string one,.string two,.slice a n cp] 131)=w0 at *;generalize hH:w.heap.size=H at *
 go_loopw [5,6,7] (fun s i _ w5=>∃(k:Nat) (X:List UInt8),k<=(zG T).size/\s= .string (zG X)/\i= .int .i64 k/\Hd (X++Jg ⟨nm,sw,one,two,R⟩ (T.drop k)=CL)/\Hd (zE w5 H #[.string nm,.bool sw,.string one,.string two,.slice a n cp] 131)/\Hd (Ch [] w w5)) (fun _ i _ _=>(zG T).size - (intOf i).toNat)
 case atStart=>exact⟨0,[],Nat.zero_le _,rfl,rfl,by show _=_;simpa using hCL,B0,g0⟩
 case round=>
  obtain⟨k,X,hk,rfl,rfl,HX,B5,g5⟩:=hrel;have b1:=B5.o.cl 1 _ rfl;have b2:=B5.o.cl 2 _ rfl;have b3:=B5.o.cl 3 _ rfl
  by_cases hlt:(k:Int)<(zG T).size
  ·have hlt':k<T.length:=by have:=HZ.o;omega
   have hXs:(zG X).size<=140737488355328:=by
    have h1:=HL.o;rw[<- HX.o,List.length_append]at h1;rw[yV];omega
   have done:∀w7 y (X':List UInt8) (k':Nat),y=zG X'->k<k'->k'<=(zG T).size->X'++Jg ⟨nm,sw,one,two,R⟩ (T.drop k')=CL->Ch [] wr w7->(∃(k2:Nat) (X2:List UInt8),k2<=(zG T).size/\Value.string y= .string (zG X2)/\Value.int .i64 (k':Nat)= .int .i64 k2/\Hd (X2++Jg ⟨nm,sw,one,two,R⟩ (T.drop k2)=CL)/\Hd (zE w7 H #[.string nm,.bool sw,.string one,.string two,.slice a n cp] 131)/\Hd (Ch [] w w7))/\(zG T).size - (intOf (Value.int .i64 (k':Nat))).toNat<(zG T).size - (intOf (Value.int .i64 (k:Int))).toNat:=
    fun w7 y X' k' hy h1 h2 h3 g7=>⟨⟨k',X',h2,by rw[hy],rfl,h3,B5.o.kp g7 (by simp),g5.o.trans g7⟩,by simp[intOf];omega⟩
   have DONE:=zC done;clear done
   cases sw with
   |true=>
    obtain⟨o1,o2,o3⟩:=hD.1 rfl;simp only at o1 o2 o3;have HSTEP:=zC (Pk (one:=one.data.toList) (two:=two.data.toList) (xs:=T) (i:=k) (fun e=>by have:=JF one;rw[e]at this;simp at this;omega) hlt');have HX2:Hd (X++j0 one.data.toList two.data.toList (T.drop k)=CL):=HX.o
    have HE:Hd ((zG T).extract k (k+one.size)=zG ((T.drop k).take one.data.toList.length)):=by
     show _=_
     rw[QV,JF,Nat.add_sub_cancel_left]
    have HONE:Hd ((zG T).extract k (k+1)=zG [T[k]]):=by
     show _=_
     rw[QV,Nat.add_sub_cancel_left,List.drop_eq_getElem_cons hlt'];rfl
    have hone1:(zG [T[k]]).size=1:=yV _
    have hwr:IntKind.i64.wrap ((k:Int)+one.size)=(k:Int)+one.size:=by
     simp[IntKind.wrap,IntKind.signed,IntKind.bits];omega
    by_cases hfit:(k:Int)+one.size<=(zG T).size
    ·have hdec:decide ((k:Int)+one.size<=(zG T).size)=true:=decide_eq_true hfit
     have hsl:0<=(k:Int)/\(k:Int)<=(k:Int)+one.size/\(k:Int)+one.size<=(zG T).size:=⟨by omega,by omega,by omega⟩
     have hnn:((k:Int)+one.size).toNat=k+one.size:=by omega
     by_cases hq:(zG T).extract k (k+one.size)=one
     ·obtain⟨q1,q2⟩:=Y6 hq
      have HQ:Hd ((T.drop k).take one.data.toList.length=one.data.toList):=by
       show _=_
       have:=HE.o.symm.trans hq;rw[<- Zx one]at this;have:=congrArg (fun z=>z.data.toList) this
       simpa[XJ]using this
      clear hq;go_wp2_with fail;go_quiet (fail);go_wp2_with fail
      have e:(k:Int)+one.size=((k+one.size:Nat):Int):=by omega
      rw[e];refine DONE.o _ _ (X++two.data.toList) (k+one.size) (by rw[<- Zl,Zx]) (by omega) (by omega) ?_ (Ch.drewN _ _ _)
      show(X++two.data.toList)++j0 one.data.toList two.data.toList (T.drop (k+one.size))=CL
      rw[<- HX2.o,HSTEP.o,if_pos HQ.o,List.append_assoc,JF]
     ·obtain⟨q1,q2⟩:=Zn hq
      have HQ:Hd (¬(T.drop k).take one.data.toList.length=one.data.toList):=by
       intro e;apply hq;rw[HE.o,e,Zx]
      have hsl1:0<=(k:Int)/\(k:Int)<=(k:Int)+1/\(k:Int)+1<=(zG T).size:=⟨by omega,by omega,by omega⟩;clear hq;go_wp2_with fail;go_quiet (fail);go_wp2_with fail
      have e:(k:Int)+1=((k+1:Nat):Int):=by omega
      rw[e];refine DONE.o _ _ (X++[T[k]]) (k+1) (by rw[<- Zl,<- HONE.o]) (by omega) (by omega) ?_ (Ch.drewN _ _ _)
      show(X++[T[k]])++j0 one.data.toList two.data.toList (T.drop (k+1))=CL
      rw[<- HX2.o,HSTEP.o,if_neg HQ.o,List.append_assoc];rfl
    ·have hdec:decide ((k:Int)+one.size<=(zG T).size)=false:=decide_eq_false hfit
     have HQ:Hd (¬(T.drop k).take one.data.toList.length=one.data.toList):=by
      intro e;have:=congrArg List.length e;have h2:=JF one;have h3:=HZ.o;simp at this;omega
     have hsl1:0<=(k:Int)/\(k:Int)<=(k:Int)+1/\(k:Int)+1<=(zG T).size:=⟨by omega,by omega,by omega⟩;go_wp2_with fail;go_quiet (fail);go_wp2_with fail
     have e:(k:Int)+1=((k+1:Nat):Int):=by omega
     rw[e];refine DONE.o _ _ (X++[T[k]]) (k+1) (by rw[<- Zl,<- HONE.o]) (by omega) (by omega) ?_ (Ch.drewN _ _ _)
     show(X++[T[k]])++j0 one.data.toList two.data.toList (T.drop (k+1))=CL
     rw[<- HX2.o,HSTEP.o,if_neg HQ.o,List.append_assoc];rfl
   |false=>
    have b0:=B5.o.cl 0 _ rfl;have b4:=B5.o.cl 4 _ rfl
    have HXk:∀h:k<(zG T).size,(zG T)[k]=T[k]:=fun _=>by first|rfl|(show(zG T).data[k]=_;simp[zG])
    have HX2:Hd (X++(T.drop k).flatMap (yN R)=CL):=HX.o;have hR6:=hD.2.2;simp only at hR6
    have HS:Hd (∀W,Ch [] w W->Calls Tryz.prog 87 #[.agg #[.string nm,.bool false,.string one,.string two,.slice a n cp],.int .u8 (T[k].toNat:Nat)] W fun e w'=>e= .returned (.string (zG (yN R T[k])))/\Ch [] W w'):=fun W gW=>FM (hr.frame (fun j hj=>gW.block j (by rw[hH];exact hF j hj) (by simp)) (fun _ h=>h)) hD.2.1 hR6 T[k]
    have hsp:(zG (yN R T[k])).size<=12:=by rw[yV];exact AE hD.2.1 _
    have HFIN:Hd ((X++yN R T[k])++(T.drop (k+1)).flatMap (yN R)=CL):=by
     show _=_
     rw[<- HX2.o,List.append_assoc,List.drop_eq_getElem_cons hlt',List.flatMap_cons]
    go_wp2_with fail;go_quiet (fail);go_wp2_with fail
    go_region_with ((go_at_call 87;refine(HS.o _ (g5.o.trans (Ch.drewN _ _ _))).mono ?_;rintro e w6 ⟨rfl,g6⟩))
    all_goals
     go_wp2_with fail
     have e:(k:Int)+1=((k+1:Nat):Int):=by omega
     rw[e];exact DONE.o _ _ (X++yN R T[k]) (k+1) (by rw[<- Zl]) (by omega) (by omega) HFIN.o ((Ch.drewN _ _ _).trans g6)
  ·have e:T.drop k=[]:=List.drop_of_length_le (by have:=HZ.o;omega)
   have HF:Hd (X=CL):=by
    have:=HX.o;rw[e]at this
    have z:Jg ⟨nm,sw,one,two,R⟩ []=[]:=by unfold Jg;split <;>rfl
    rw[z,List.append_nil]at this;exact this
   clear e;go_wp2_with fail;go_ret;exact⟨by rw[<- HF.o];rfl,g5.o⟩
end Go.Proofs.YteobgfbgglfkbaaGreat
