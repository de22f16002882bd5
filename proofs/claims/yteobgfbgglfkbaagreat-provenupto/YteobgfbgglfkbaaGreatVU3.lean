import Derived.Test.YteobgfbgglfkbaaGreatVU1
import Derived.Lib.AppendZerosOnto
import Derived.Lib.SliceRun
set_option maxHeartbeats 6400000
set_option maxRecDepth 100000
namespace Go.Proofs.YteobgfbgglfkbaaGreat
open Go.RowKit
attribute [local go_sem ↓] Go.wp_at_zero Go.wp_at_succ
theorem zm.built0(w:World):zm (w.alloc (.cells #[] 240)) (.slice (some ⟨w.heap.size,0,none⟩) 0 0) []:=
 ⟨fun _ _=>0,⟨rfl,Or.inr ⟨_,0,#[],rfl,Nat.zero_le _,zr _ _,Nat.zero_le _,Nat.zero_le _,rfl,rfl⟩⟩,fun i f h=>by simp at h⟩
theorem zm.built2(w:World){q q':Nat->Nat}{f f':Nat->Bool}(h:zU q f)(h':zU q' f'):zm (w.alloc (.cells #[.int .u64 (q 0),.int .u64 (q 1),.int .u64 (q 2),.int .u64 (q 3),.int .u64 (q' 0:Nat),.int .u64 (q' 1:Nat),.int .u64 (q' 2:Nat),.int .u64 (q' 3:Nat)] 240)) (.slice (some ⟨w.heap.size,0,none⟩) 2 2) [f,f']:=by
 refine⟨fun i=>if i=0 then q else q',⟨by simp[Jw],Or.inr ⟨_,2,_,rfl,Nat.zero_le _,zr _ _,Nat.le_refl _,by simp only[maxLen];omega,rfl,?_⟩⟩,fun i g hg=> ?_⟩
 ·simp[ya,List.range_succ]
 ·match i,hg with
  |0,hg=>simp at hg;subst hg;simpa using h
  |1,hg=>simp at hg;subst hg;simpa using h'
theorem Ia{w:World}{v:Value}{M:List (Nat->Bool)}(h:zm w v M)(hM:M.length<=1000):
 Calls Tryz.prog 177 #[v] w fun e w'=>∃u,e= .returned u/\zm w' u M/\(∀q,u.ownBlock=some q->w.heap.size<=q)/\Ch [] w w':=by
 obtain⟨a,c,rfl⟩:=h.slice
 cases a with
 |none=>
  have h0:M=[]:=by
   obtain⟨nq,R,_⟩:=h
   rcases R.2 with⟨_,h1⟩|⟨g,cap,cur,h1,_⟩
   ·exact List.length_eq_zero_iff.1 h1
   ·simp at h1
  subst h0
  have hcmp:∀W,Sem.run Tryz.prog (binOp .eql 238 (.slice none 0 c) (.slice none 0 0)) W= .ok (.bool true) W:=fun W=>by rfl
  clear h;go_enter Tryz.func177,Tryz.ntmps177;go_wp2_with fail;go_ret;exact⟨_,rfl,zm.nil _,by intro q hq;simp[Value.ownBlock]at hq,Ch.refl _ _⟩
 |some ad=>
  have g0:=Ch.alloc [] w (.cells #[] 240);have M0:=zm.built0 w;have M1:=h.kp g0 (by simp)
  have hcmp:∀W,Sem.run Tryz.prog (binOp .eql 238 (.slice (some ad) M.length c) (.slice none 0 0)) W= .ok (.bool false) W:=fun W=>by rfl
  clear h;go_enter Tryz.func177,Tryz.ntmps177;go_wp2_with (at_builtin;refine QM (by rfl) _ _ (by rfl) (by rfl) (by rfl) M0 M1 (by simp;omega) ?_;intro v8 w8 own8 gr8 hat8);go_ret;refine⟨_,rfl,by simpa using own8,fun q hq=> ?_,g0.trans' gr8 (fun y hy=>Or.inr (by simp[Value.ownBlock]at hy;omega))⟩
  rcases hat8 with h|h
  ·have hq2:=h.symm.trans hq
   simp[Value.ownBlock]at hq2;omega
  ·have h9:=h q hq
   simp at h9;omega
theorem CZ{w:World}{mb:Nat}{q:Nat->Nat}{f:Nat->Bool}(hq:zU q f)(hb:zE w mb (zK q) 240):Qy w 178 #[.pointer (some ⟨mb,0,none⟩)] (fun z=>f (Yl z.toNat)):=by
 refine⟨fun _ _=>by kernel_rfl,fun W c z=> ?_⟩;obtain⟨c0,c1,c2,c3⟩:=(hb.kp c (by simp)).c4;have HQ:=zC hq;have ec:Yl z.toNat=(zk z).toNat:=Ks z
 show Calls Tryz.prog _ _ W fun e w'=>e= .returned (.bool (f (Yl z.toNat)))/\Ch [] W w'
 rw[ec];clear ec;clear hq hb
 show Calls Tryz.prog 178 #[.int .u8 (z.toNat),.pointer (some ⟨mb,0,none⟩)] W _
 go_enter Tryz.func178,Tryz.ntmps178;go_wp2_with fail
 go_region_with (first|(go_at_call 179;refine(Mz z).mono ?_;rintro e w1 ⟨rfl,rfl⟩)|(go_at_call 156;refine(Wg (q:=q) HQ.o (zk z).toNat (zk z).toNat_lt).mono ?_;rintro e w1 ⟨rfl,k1⟩))
 all_goals
  go_wp2_with fail;go_ret;exact⟨rfl,(Ch.drew [] W).trans k1⟩
theorem TN{w:World}{mb:Nat}{q:Nat->Nat}{f:Nat->Bool}(hq:zU q f)(hb:zE w mb (zK q) 240):Qy w 180 #[.pointer (some ⟨mb,0,none⟩)] (fun z=>f (Yz z.toNat)):=by
 refine⟨fun _ _=>by kernel_rfl,fun W c z=> ?_⟩;obtain⟨c0,c1,c2,c3⟩:=(hb.kp c (by simp)).c4;have HQ:=zC hq;have ec:Yz z.toNat=(zu z).toNat:=MG z
 show Calls Tryz.prog _ _ W fun e w'=>e= .returned (.bool (f (Yz z.toNat)))/\Ch [] W w'
 rw[ec];clear ec;clear hq hb
 show Calls Tryz.prog 180 #[.int .u8 (z.toNat),.pointer (some ⟨mb,0,none⟩)] W _
 go_enter Tryz.func180,Tryz.ntmps180;go_wp2_with fail
 go_region_with (first|(go_at_call 181;refine(AX z).mono ?_;rintro e w1 ⟨rfl,rfl⟩)|(go_at_call 156;refine(Wg (q:=q) HQ.o (zu z).toNat (zu z).toNat_lt).mono ?_;rintro e w1 ⟨rfl,k1⟩))
 all_goals
  go_wp2_with fail;go_ret;exact⟨rfl,(Ch.drew [] W).trans k1⟩
def ZD(f:Nat->Bool):List (Nat->Bool):=[fun c=>f (Yl c),fun c=>f (Yz c)]
theorem Am{w:World}{F:Nat->Prop}{v:Value}{sv:List (zH×Value)}(hR:Jo w F v sv)(hok:∀p,p∈sv->(∀r,r∈p.1.rules->jf r.o)/\p.1.rules.length<=6)(hx:sv.length<=1000){vm:Value}{M:List (Nat->Bool)}(h:zm w vm M)(hM:M.length<=1000):
 Calls Tryz.prog 138 #[v,vm] w fun e w'=>∃u,e= .returned u/\zm w' u (JB (sv.map fun p=>p.1) M)/\(JB (sv.map fun p=>p.1) M).length<=3000/\Ch [] w w':=by
 have CS:=zC (Bo hR hok hx);obtain⟨a,c,rfl⟩:=h.slice;obtain⟨a0,c0,rfl⟩:=zQ hR.1
 have hlen:(M++M.flatMap ZD).length<=3000:=by
  have:∀l:List (Nat->Bool),(l.flatMap ZD).length=2 * l.length:=by
   intro l
   induction l with
   |nil=>rfl
   |cons x l ih=>simp only[List.flatMap_cons,List.length_append,List.length_cons,ih,ZD,List.length_nil];omega
  rw[List.length_append,this];omega
 have e2:JB (sv.map fun p=>p.1) M=if jF (sv.map fun p=>p.1)then M++M.flatMap ZD else M:=rfl
 rw[e2];have HM:=zC h;have HLEN:=zC hlen
 have hmf:∀(fn:Fn) (first cap:Array Value) (w:World),(Instr.makeFunc fn first cap).run Tryz.prog w= .ok (.func fn first cap) w:=fun _ _ _ _=>rfl
 clear h hR hok e2 hlen;generalize jF (sv.map fun p=>p.1)=cs at *;go_enter Tryz.func138,Tryz.ntmps138;go_wp2_with fail;refine CS.o.mono ?_;rintro e w1 ⟨rfl,k1⟩
 cases cs with
 |false=>
  go_wp2_with fail;go_ret;exact⟨_,rfl,HM.o.kp k1 (by simp),by omega,k1⟩
 |true=>
  have CL:=zC (Ia (HM.o.kp k1 (by simp)) hM);go_wp2_with fail;refine CL.o.mono ?_;rintro e w2 ⟨u2,rfl,m2,n2,k2⟩
  have H2:Hd (zm w2 u2 (M++(M.take 0).flatMap ZD)/\(∀q,u2.ownBlock=some q->w.heap.size<=q)/\Ch [] w w2):=by
   show _/\_
   exact⟨by simpa using m2,fun q hq=>by have:=n2 q hq;have:=k1.size;omega,k1.trans k2⟩
  clear m2 n2 k2 k1;go_wp2_with fail
  go_loopw [5,18] (fun lv iv w5=>∃j:Nat,iv= .int .i64 j/\j<=M.length/\Hd (zm w5 lv (M++(M.take j).flatMap ZD)/\(∀q,lv.ownBlock=some q->w.heap.size<=q)/\Ch [] w w5)) (fun _ iv _=>M.length - (intOf iv).toNat)
  case atStart=>exact⟨0,rfl,Nat.zero_le _,H2⟩
  case round=>
   clear H2;generalize wr=w5 at *;obtain⟨j,rfl,hj,H5⟩:=hrel
   by_cases hlt:(j:Int)<M.length
   ·have hj2:j<M.length:=by omega
    have hj0:(0:Int)<=j:=by omega
    obtain⟨f,hf⟩:∃f,M[j]? =some f:=⟨_,List.getElem?_eq_getElem hj2⟩
    have TK:(M.take (j+1)).flatMap ZD=(M.take j).flatMap ZD++ZD f:=by
     obtain⟨h1,rfl⟩:=List.getElem?_eq_some_iff.1 hf;rw[List.take_succ_eq_append_getElem h1,List.flatMap_append];simp
    have hl5:(M++(M.take j).flatMap ZD).length<=3000:=by
     have:∀l:List (Nat->Bool),(l.flatMap ZD).length=2 * l.length:=by
      intro l
      induction l with
      |nil=>rfl
      |cons x l ih=>simp only[List.flatMap_cons,List.length_append,List.length_cons,ih,ZD,List.length_nil];omega
     rw[List.length_append,this,List.length_take];omega
    have HTK:=zC TK;clear TK;generalize hMM:(M.take j).flatMap ZD=MM at *;generalize hMA:M++MM=MA at *;have HMA:=zC hMA;clear hMA hMM;obtain⟨nq,R,FF⟩:=HM.o.kp H5.o.2.2 (by simp);have hq:=FF j f hf
    obtain⟨g,hg⟩:∃g,a=some ⟨g,0,none⟩:=by
     rcases R.2 with⟨_,h0⟩|⟨g,cap,cur,h,_⟩
     ·omega
     ·injection h with h
      exact⟨g,h⟩
    subst hg;obtain⟨r0,r1,r2,r3,rf⟩:=UF R hj2 (q:=nq j) (fun _ _=>rfl);generalize nq j=q at *;have g6:=Ch.alloc [] w5 (.cells (zK q) 240);have B6:=zE.new w5 (zK q) 240;have hw6:w5.alloc (.cells #[.int .u64 (q 0),.int .u64 (q 1),.int .u64 (q 2),.int .u64 (q 3)] 240)=w5.alloc (.cells (zK q) 240):=rfl;obtain⟨la,lc,hlv⟩:=H5.o.1.slice;subst hlv
    have e1:IntKind.i64.wrap ((j:Int)+1)=((j+1:Nat):Int):=by rw[IntKind.wrap_i64];omega
    have HM6:=zC (H5.o.1.kp g6 (by simp));have HG6:=zC (H5.o.2.2.trans g6);have V5:=zC H5.o.2.1;have HB6:=zC B6;have HQ:=zC hq;have WU:=zC (MQ (CZ hq B6));have z5:=H5.o.2.2.size;have z6:=g6.size;clear hq R FF B6 g6 H5;generalize w5.alloc (.cells (zK q) 240)=w6 at *;go_wp2_with fail;refine WU.o.mono ?_;rintro e w7 ⟨q7,rfl,hq7,c7⟩;rw[show zS q7= .agg #[.int .u64 (q7 0),.int .u64 (q7 1),.int .u64 (q7 2),.int .u64 (q7 3)]from rfl];have g8:=Ch.alloc [] w7 (.cells (zK q7) 240);have B8:=zE.new w7 (zK q7) 240;have hw8:w7.alloc (.cells #[.int .u64 (q7 0),.int .u64 (q7 1),.int .u64 (q7 2),.int .u64 (q7 3)] 240)=w7.alloc (.cells (zK q7) 240):=rfl;have WL:=zC (MQ (TN HQ.o ((HB6.o.kp c7 (by simp)).kp g8 (by simp))));have HG8:=zC (c7.trans g8);have HB8:=zC B8;have HQ7:=zC hq7;have z7:=c7.size;have z8:=g8.size;clear g8 B8 c7 hq7;generalize w7.alloc (.cells (zK q7) 240)=w8 at *;go_wp2_with fail;refine WL.o.mono ?_;rintro e w9 ⟨q9,rfl,hq9,c9⟩;rw[show zS q9= .agg #[.int .u64 (q9 0),.int .u64 (q9 1),.int .u64 (q9 2),.int .u64 (q9 3)]from rfl];have g10:=Ch.alloc [] w9 (.cells (zK q9) 240);have B10:=zE.new w9 (zK q9) 240;have hw10:w9.alloc (.cells #[.int .u64 (q9 0),.int .u64 (q9 1),.int .u64 (q9 2),.int .u64 (q9 3)] 240)=w9.alloc (.cells (zK q9) 240):=rfl;obtain⟨x0,x1,x2,x3⟩:=((HB8.o.kp c9 (by simp)).kp g10 (by simp)).c4;obtain⟨y0,y1,y2,y3⟩:=B10.c4;have HG10:=zC ((HG6.o.trans HG8.o).trans (c9.trans g10));have HM10:=zC (HM6.o.kp (HG8.o.trans (c9.trans g10)) (by simp));have z9:=c9.size;have z10:=g10.size;have HQ9:=zC hq9;clear g10 B10 c9 hq9;generalize w9.alloc (.cells (zK q9) 240)=w10 at *;have g11:=Ch.alloc [] w10 (.cells #[.int .u64 (q7 0),.int .u64 (q7 1),.int .u64 (q7 2),.int .u64 (q7 3),.int .u64 (q9 0),.int .u64 (q9 1),.int .u64 (q9 2),.int .u64 (q9 3)] 240)
    have e8:∀j:Nat,j<256->(UInt8.ofNat j).toNat=j:=fun j hj=>by rw[UInt8.toNat_ofNat'];exact Nat.mod_eq_of_lt (by omega)
    have M11:=zm.built2 w10 (f:=fun c=>f (Yl c)) (f':=fun c=>f (Yz c)) (HQ7.o.congr (fun j hj=>by rw[e8 j hj])) (HQ9.o.congr (fun j hj=>by rw[e8 j hj]));clear e8;have N11:=HM10.o.kp g11 (by simp);have HG11:=zC (HG10.o.trans g11);clear g11;go_wp2_with (at_builtin;refine QM (by rfl) _ _ (by rfl) (by rfl) (by rfl) N11 M11 (by simp only[List.length_cons,List.length_nil];omega) ?_;intro v12 w12 own12 gr12 hat12)
    have FIN:Hd (zm w12 v12 (M++(M.take (j+1)).flatMap ZD)/\(∀q,v12.ownBlock=some q->w.heap.size<=q)/\Ch [] w w12):=by
     refine⟨?_,fun y hy=> ?_,HG11.o.trans' gr12 (fun y hy=>Or.inr (V5.o y (by simpa using hy)))⟩
     ·rw[HTK.o,<- List.append_assoc,HMA.o]
      exact own12
     ·rcases hat12 with h|h
      ·exact V5.o y (by rw[<- h];exact hy)
      ·have:=h y hy;have:=HG11.o.size;omega
    go_roundw
    case rel=>exact⟨j+1,by simp,by omega,FIN⟩
    case measure=>simp[intOf];omega
   ·have e:j=M.length:=by omega
    subst e;have HC:=H5.o;rw[List.take_length]at HC;have HCx:=zC HC;clear H5 HC;go_wp2_with fail;go_ret;exact⟨_,rfl,HCx.o.1,by have:=HLEN.o;simpa using this,HCx.o.2.2⟩
theorem PI{w:World}{n:Nat}(hn:n<=1000):
 Calls Tryz.prog 169 #[.slice none 0 0,.int .i64 n] w fun e w'=>∃u,e= .returned u/\zm w' u []/\(∀q,u.ownBlock=some q->w.heap.size<=q)/\Ch [] w w':=by
 have h1:¬((n:Int)<0):=by omega
 have h2:IntKind.i64.wrap (n:Int)=(n:Int):=by rw[IntKind.wrap_i64];omega
 by_cases h0:n=0
 ·subst h0
  go_enter Tryz.func169,Tryz.ntmps169;go_wp2_with fail;go_ret;exact⟨_,rfl,zm.nil _,by intro q hq;simp[Value.ownBlock]at hq,Ch.refl _ _⟩
 ·have h4:(n:Int)>0:=by omega
  obtain⟨i,hi,hz0,hz1,hz2⟩:=info_parts Wz;have hold:(Builtin.firstCells i.size 0 (.slice none 0 0)).run Tryz.prog w.drew= .ok ([]:List Value).toArray w.drew:=run_firstCells_none w.drew i.size 0 0 0
  have hrz:∀ty,(Builtin.append_ #[238,3] ty #[.slice none 0 0,.int .i64 (n:Int)]).run Tryz.prog w= .ok (.slice (some ⟨w.heap.size,0,none⟩) (0+n) (grownCap w (0+n) 0 240)) (w.drew.alloc (.cells (([]:List Value).toArray++Builtin.zeroCells (Value.agg #[.int .u64 0,.int .u64 0,.int .u64 0,.int .u64 0]).cells n++Builtin.zeroCells (Value.agg #[.int .u64 0,.int .u64 0,.int .u64 0,.int .u64 0]).cells (grownCap w (0+n) 0 240 - (0+n))) 240)):=fun ty=>
   Lib.run_append_grow_zeros w 238 3 ty 240 i _ .i64 .i64 Tryz.underlying238 Tryz.underlying3 hi hz0 none 0 0 [] hold n (by omega) (by omega) (by omega) (by omega) (by rw[hz2];omega) (growslice_fits (by omega) (by rw[hz2];omega))
  have hGn:=grownCap_ge w (0+n) 0 240;have hGm:=grownCap_le_maxLen w (0+n) 0 240 (by unfold maxLen;omega);generalize hG:grownCap w (0+n) 0 240=G at *
  have hG63:(G:Int)<=9223372036854775807:=by unfold maxLen at hGm;omega
  rw[Nat.zero_add]at hrz hGn
  have hsz:((([]:List Value).toArray++Builtin.zeroCells (Value.agg #[.int .u64 0,.int .u64 0,.int .u64 0,.int .u64 0]).cells n++Builtin.zeroCells (Value.agg #[.int .u64 0,.int .u64 0,.int .u64 0,.int .u64 0]).cells (G - n))).size=G * 4:=by
   rw[Array.size_append,Array.size_append,size_zeroCells,size_zeroCells]
   show 0+n * 4+(G - n) * 4=G * 4
   omega
  generalize (([]:List Value).toArray++Builtin.zeroCells (Value.agg #[.int .u64 0,.int .u64 0,.int .u64 0,.int .u64 0]).cells n++Builtin.zeroCells (Value.agg #[.int .u64 0,.int .u64 0,.int .u64 0,.int .u64 0]).cells (G - n))=cs at *
  have HM:Hd (zm (w.drew.alloc (.cells cs 240)) (.slice (some ⟨w.heap.size,0,none⟩) 0 G) []):=
   ⟨fun _ _=>0,⟨rfl,Or.inr ⟨_,G,cs,rfl,Nat.zero_le _,zr w.drew _,Nat.zero_le _,hGm,hsz,rfl⟩⟩,fun i f h=>by simp at h⟩
  have HC:Hd (Ch [] w (w.drew.alloc (.cells cs 240))):=(Ch.drew [] w).trans (Ch.alloc [] _ _);clear hold hsz hi hz0 hz1 hz2 hG hGm;go_enter Tryz.func169,Tryz.ntmps169;go_wp2_with (at_builtin;refine Lib.wpList_append_run _ rfl _ _ _ _ rfl _ _ rfl rfl _ _ (hrz _) ?_)
  all_goals
   go_ret;exact⟨_,rfl,HM.o,by intro q hq;simp[Value.ownBlock]at hq;omega,HC.o⟩
theorem LC{w:World}{g:Nat}{va vb:Value}{A B:List (Nat->Bool)}(hg:zE w g #[va,vb] 238)(hA:zm w va A)(hB:zm w vb B)(lA:A.length<=400)(lB:B.length<=600):
 Calls Tryz.prog 134 #[.slice (some ⟨g,0,none⟩) 2 2] w fun e w'=>∃u,e= .returned u/\zm w' u (A++B)/\(∀q,u.ownBlock=some q->w.heap.size<=q)/\Ch [] w w':=by
 obtain⟨aa,ca,rfl⟩:=hA.slice;obtain⟨ab,cb,rfl⟩:=hB.slice;have c0:=hg.cl 0 (.slice aa A.length ca) rfl;have c1:=hg.cl 1 (.slice ab B.length cb) rfl;have GR:=zC (PI (w:=w) (n:=A.length+B.length) (by omega));have HA:=zC hA;have HB:=zC hB;have HG:=zC hg
 have e1:IntKind.i64.wrap ((0:Int)+1)=1:=by decide
 have e2:IntKind.i64.wrap ((1:Int)+1)=2:=by decide
 have e3:IntKind.i64.wrap ((0:Int)+(A.length:Int))=(A.length:Int):=by rw[IntKind.wrap_i64];omega
 have e4:IntKind.i64.wrap ((A.length:Int)+(B.length:Int))=((A.length+B.length:Nat):Int):=by rw[IntKind.wrap_i64];omega
 have n1:¬((A.length:Int)<0):=by omega
 have n2:¬((A.length+B.length:Nat):Int)<0:=by omega
 clear hA hB hg;generalize hLA:A.length=la at *;generalize hLB:B.length=lb at *;have HLA:=zC hLA;have HLB:=zC hLB;clear hLA hLB;go_enter Tryz.func134,Tryz.ntmps134;go_wp2_with fail
 go_loopw [3,11] (fun sv iv w5=>w5=w/\((iv= .int .i64 0/\sv= .int .i64 0)\/(iv= .int .i64 1/\sv= .int .i64 la)\/(iv= .int .i64 2/\sv= .int .i64 (la+lb:Nat)))) (fun _ iv _=>2 - (intOf iv).toNat)
 case atStart=>exact⟨rfl,Or.inl ⟨rfl,rfl⟩⟩
 case round=>
  obtain⟨hwr,hrel⟩:=hrel;have hwr2:=hwr.symm;clear hwr;subst hwr2
  rcases hrel with h|h|h
  ·obtain⟨rfl,rfl⟩:=h
   go_wp2_with fail;go_roundw
   case rel=>exact⟨trivial,Or.inr (Or.inl ⟨rfl,by first|rfl|simp⟩)⟩
   case measure=>simp[intOf]
  ·obtain⟨rfl,rfl⟩:=h
   go_wp2_with fail;go_roundw
   case rel=>exact⟨trivial,Or.inr (Or.inr ⟨rfl,by first|rfl|simp⟩)⟩
   case measure=>simp[intOf]
  ·obtain⟨rfl,rfl⟩:=h
   go_wp2_with fail;refine GR.o.mono ?_;rintro e w6 ⟨u6,rfl,m6,n6,k6⟩;have H6:Hd (zm w6 u6 []/\(∀q,u6.ownBlock=some q->w.heap.size<=q)/\Ch [] w w6):=⟨m6,n6,k6⟩;clear m6 n6 k6;go_wp2_with fail
   go_loopw [6,27] (fun lv iv w7=>(iv= .int .i64 0/\Hd (zm w7 lv []/\(∀q,lv.ownBlock=some q->w.heap.size<=q)/\Ch [] w w7))\/(iv= .int .i64 1/\Hd (zm w7 lv A/\(∀q,lv.ownBlock=some q->w.heap.size<=q)/\Ch [] w w7))\/(iv= .int .i64 2/\Hd (zm w7 lv (A++B)/\(∀q,lv.ownBlock=some q->w.heap.size<=q)/\Ch [] w w7))) (fun _ iv _=>2 - (intOf iv).toNat)
   case atStart=>exact Or.inl ⟨rfl,H6⟩
   case round=>
    clear H6 c0 c1;generalize wr=w8 at *
    rcases hrel with h|h|h
    ·obtain⟨rfl,H8⟩:=h
     have c0:=(HG.o.kp H8.o.2.2 (by simp)).cl 0 (.slice aa la ca) rfl;have M0:=H8.o.1;have M1:=HA.o.kp H8.o.2.2 (by simp);go_wp2_with (at_builtin;refine QM (by rfl) _ _ (by rfl) (by rfl) (by rfl) M0 M1 (by simp;rw[HLA.o];omega) ?_;intro v9 w9 own9 gr9 hat9)
     have FIN:Hd (zm w9 v9 A/\(∀q,v9.ownBlock=some q->w.heap.size<=q)/\Ch [] w w9):=by
      refine⟨by simpa using own9,fun y hy=> ?_,H8.o.2.2.trans' gr9 (fun y hy=>Or.inr (H8.o.2.1 y (by simpa using hy)))⟩
      rcases hat9 with h|h
      ·exact H8.o.2.1 y (by rw[<- h];exact hy)
      ·have:=h y hy;have:=H8.o.2.2.size;omega
     go_roundw
     case rel=>exact Or.inr (Or.inl ⟨rfl,FIN⟩)
     case measure=>simp[intOf]
    ·obtain⟨rfl,H8⟩:=h
     have c1:=(HG.o.kp H8.o.2.2 (by simp)).cl 1 (.slice ab lb cb) rfl;have M0:=H8.o.1;have M1:=HB.o.kp H8.o.2.2 (by simp);go_wp2_with (at_builtin;refine QM (by rfl) _ _ (by rfl) (by rfl) (by rfl) M0 M1 (by rw[HLA.o,HLB.o];omega) ?_;intro v9 w9 own9 gr9 hat9)
     have FIN:Hd (zm w9 v9 (A++B)/\(∀q,v9.ownBlock=some q->w.heap.size<=q)/\Ch [] w w9):=by
      refine⟨own9,fun y hy=> ?_,H8.o.2.2.trans' gr9 (fun y hy=>Or.inr (H8.o.2.1 y (by simpa using hy)))⟩
      rcases hat9 with h|h
      ·exact H8.o.2.1 y (by rw[<- h];exact hy)
      ·have:=h y hy;have:=H8.o.2.2.size;omega
     go_roundw
     case rel=>exact Or.inr (Or.inr ⟨rfl,FIN⟩)
     case measure=>simp[intOf]
    ·obtain⟨rfl,H8⟩:=h
     go_wp2_with fail;go_ret;exact⟨_,rfl,H8.o.1,H8.o.2.1,H8.o.2.2⟩
end Go.Proofs.YteobgfbgglfkbaaGreat
