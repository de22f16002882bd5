import Derived.Test.YteobgfbgglfkbaaGreatAP2
import Derived.Test.YteobgfbgglfkbaaGreatAB6
import Derived.Laws.EntriesVeiled
set_option maxHeartbeats 1600000
set_option maxRecDepth 100000
namespace Go.Proofs.YteobgfbgglfkbaaGreat
open Go.RowKit
attribute [local go_sem ↓] Go.wp_at_zero Go.wp_at_succ
theorem Ch.ofBelow{w w':World}{B:Nat}(h:Below B w w')(hB:w.heap.size<=B):Ch [] w w':=⟨h.os,h.tape,h.output,h.size,fun k hk _=>h.block k (by omega)⟩
theorem WZ:∀(P:List (Int×ByteArray)) (i:Nat) (p:Int×ByteArray),P[i]? =some p->(jn P)[i * 2]? =some (.int .i64 (pk p.1))/\(jn P)[i * 2+1]? =some (.string p.2)
 |[],i,p,h=>by simp at h
 |q:: sv,0,p,h=>by simp at h;subst h;simp[jn]
 |q:: sv,i+1,p,h=>by
  have ih:=WZ sv i p (by simpa using h)
  have e:∀t,(jn (q:: sv))[(i+1) * 2+t]? =(jn sv)[i * 2+t]? :=by
   intro t;rw[show(i+1) * 2+t=(i * 2+t)+2 from by omega];simp[jn]
  exact⟨(e 0).trans ih.1,(e 1).trans ih.2⟩
theorem Lm(P:List (Int×ByteArray))(c:UInt8){k:Nat}(hk:k<P.length):jD (P.take (k+1)) c=jD (P.take k) c++j6 P[k] c:=by
 unfold jD;rw[List.take_succ_eq_append_getElem hk,List.flatMap_append];simp
theorem EY{P:List (Int×ByteArray)}(hP:jf P)(c:UInt8)(k:Nat):(jD (P.take k) c).length<=12:=by
 have:∀(P:List (Int×ByteArray)),(∀p,p∈P->p.2.size<=4)->(jD P c).length<=4 * P.length:=by
  intro P
  induction P with
  |nil=>simp[jD]
  |cons p P ihP=>
   intro hP
   have h1:(j6 p c).length<=4:=by
    have:=hP p (by simp);unfold j6
    split
    ·exact this
    ·repeat' split
     all_goals simp
   have h2:=ihP (fun q hq=>hP q (by simp[hq]));simp only[jD,List.flatMap_cons,List.length_append,List.length_cons]at *;omega
 have h1:=this (P.take k) (fun p hp=>hP.2 p (List.mem_of_mem_take hp));have h2:=hP.1
 have:(P.take k).length<=P.length:=by simp;omega
 omega
theorem SZ{w:World}{v:Value}{P:List (Int×ByteArray)}(ho:w.ownsRow 0 312 2 v P.length (jn P))(hP:jf P)(c:UInt8):
 Calls Tryz.prog 157 #[v,.int .u8 c.toNat] w fun e w'=>e= .returned (.string (zG (jD P c)))/\Ch [] w w':=by
 obtain⟨a,cp,rfl⟩:=zQ ho;have I0:=MZ w (B:=w.heap.size) (Nat.le_refl _);have g0:=Ch.alloc [] w (.cells #[.pointer none,.slice none 0 0] 126);have hP3:=hP.1;go_enter Tryz.func157,Tryz.ntmps157;go_wp2_with fail;generalize w.alloc (.cells #[.pointer none,.slice none 0 0] 126)=w0 at *
 go_loopw [7,10] (fun _ i w5=>∃k:Nat,k<=P.length/\i= .int .i64 k/\Hd (yi w5 w.heap.size w.heap.size (jD (P.take k) c))/\Hd (Ch [] w w5)) (fun _ i _=>P.length - (intOf i).toNat)
 case atStart=>exact⟨0,Nat.zero_le _,rfl,I0,g0⟩
 case round=>
  obtain⟨k,hk,rfl,I5,g5⟩:=hrel
  by_cases hlt:(k:Int)<P.length
  ·have hlt':k<P.length:=by omega
   obtain⟨g,rfl,hg⟩:=jO (zJ ho g5.o (by simp)) (by omega);obtain⟨hc0,hc1⟩:=WZ P k P[k] (by simp[hlt']);have d0:=hg _ _ hc0;have d1:=hg _ _ hc1;have HT:=zC (Lm P c hlt');have HP4:=zC (hP.2 P[k] (List.getElem_mem hlt'));generalize P[k]=p at *;obtain⟨K,T⟩:=p;simp only at d0 d1 HT HP4;have I6:=zC (I5.o.kp (Ch.alloc [] wr (.cells #[.int .i64 (pk K),.string T] 312)) (by simp) (by simp));have g6:=zC (g5.o.trans (Ch.alloc [] wr (.cells #[.int .i64 (pk K),.string T] 312)));clear hg hc0 hc1;have hz:=g5.o.size
   have done:∀w7,Hd (yi w7 w.heap.size w.heap.size (jD (P.take (k+1)) c))->Hd (Ch [] w w7)->(∃k':Nat,k'<=P.length/\Value.int .i64 ((k:Int)+1)= .int .i64 k'/\Hd (yi w7 w.heap.size w.heap.size (jD (P.take k') c))/\Hd (Ch [] w w7))/\P.length - (intOf (Value.int .i64 ((k:Int)+1))).toNat<P.length - (intOf (Value.int .i64 (k:Int))).toNat:=
    fun w7 h1 h2=>⟨⟨k+1,by omega,by go_num,h1,h2⟩,by simp[intOf];omega⟩
   have DONE:=zC done;clear done;have HL:=zC (EY hP c k)
   by_cases k1:K=116
   ·have e1:pk K=0:=by simp[pk,k1]
    rw[e1]at d0 I6 g6
    have HQ:Hd (j6 (K,T) c=T.data.toList):=by show _=_;simp[j6,k1]
    go_wp2_with fail;rw[<- Zx T]at I6 g6 ⊢;refine(ON w.heap.size I6.o T.data.toList (by have:=HL.o;have:=HP4.o;have:=JF T;omega) g6.o.size).mono ?_;rintro e w7 ⟨rfl,I7,f7⟩
    have I7':Hd (yi w7 w.heap.size w.heap.size (jD (P.take (k+1)) c)):=by show yi _ _ _ _;rw[HT.o,HQ.o];exact I7
    have g7:Hd (Ch [] w w7):=Ch.ofBelow ((g6.o.below (Nat.le_refl _) (by simp)).trans f7.1) (Nat.le_refl _);go_wp2_with fail;exact DONE.o w7 I7' g7
   ·by_cases k2:K=98
    ·have e1:pk K=1:=by simp[pk,k2]
     rw[e1]at d0 I6 g6
     have HQ:Hd (j6 (K,T) c=[c]):=by show _=_;simp[j6,k2]
     go_wp2_with fail;refine(Uz w.heap.size I6.o c (by have:=HL.o;omega) g6.o.size).mono ?_;rintro e w7 ⟨rfl,I7,f7⟩
     have I7':Hd (yi w7 w.heap.size w.heap.size (jD (P.take (k+1)) c)):=by show yi _ _ _ _;rw[HT.o,HQ.o];exact I7
     have g7:Hd (Ch [] w w7):=Ch.ofBelow ((g6.o.below (Nat.le_refl _) (by simp)).trans f7.1) (Nat.le_refl _);go_wp2_with fail;exact DONE.o w7 I7' g7
    ·by_cases k3:K=117
     ·have e1:pk K=2:=by simp[pk,k3]
      rw[e1]at d0 I6 g6
      have HQ:Hd (j6 (K,T) c=[zk c]):=by show _=_;simp[j6,k3]
      go_wp2_with fail;refine(Mz c).mono ?_;rintro e w6 ⟨rfl,rfl⟩;go_wp2_with fail;refine(Uz w.heap.size I6.o (zk c) (by have:=HL.o;omega) g6.o.size).mono ?_;rintro e w7 ⟨rfl,I7,f7⟩
      have I7':Hd (yi w7 w.heap.size w.heap.size (jD (P.take (k+1)) c)):=by show yi _ _ _ _;rw[HT.o,HQ.o];exact I7
      have g7:Hd (Ch [] w w7):=Ch.ofBelow ((g6.o.below (Nat.le_refl _) (by simp)).trans f7.1) (Nat.le_refl _);go_wp2_with fail;exact DONE.o w7 I7' g7
     ·have e1:pk K=3:=by simp[pk,k1,k2,k3]
      rw[e1]at d0 I6 g6
      have HQ:Hd (j6 (K,T) c=[zu c]):=by show _=_;simp[j6,k1,k2,k3]
      go_wp2_with fail;refine(AX c).mono ?_;rintro e w6 ⟨rfl,rfl⟩;go_wp2_with fail;refine(Uz w.heap.size I6.o (zu c) (by have:=HL.o;omega) g6.o.size).mono ?_;rintro e w7 ⟨rfl,I7,f7⟩
      have I7':Hd (yi w7 w.heap.size w.heap.size (jD (P.take (k+1)) c)):=by show yi _ _ _ _;rw[HT.o,HQ.o];exact I7
      have g7:Hd (Ch [] w w7):=Ch.ofBelow ((g6.o.below (Nat.le_refl _) (by simp)).trans f7.1) (Nat.le_refl _);go_wp2_with fail;exact DONE.o w7 I7' g7
  ·obtain rfl:k=P.length:=by omega
   go_wp2_with fail;refine(Td w.heap.size I5.o g5.o.size).mono ?_;rintro e w7 ⟨rfl,f7⟩;rw[List.take_length];go_wp2_with fail;go_ret;exact⟨rfl,Ch.ofBelow ((g5.o.below (Nat.le_refl _) (by simp)).trans f7.1) (Nat.le_refl _)⟩
theorem UK:∀(sv:List (yb×(Nat->Nat)×Value)) (i:Nat) (p:yb×(Nat->Nat)×Value),sv[i]? =some p->
 (Zr sv)[i * 5]? =some (.int .u64 (p.2.1 0:Nat))/\(Zr sv)[i * 5+1]? =some (.int .u64 (p.2.1 1:Nat))/\(Zr sv)[i * 5+2]? =some (.int .u64 (p.2.1 2:Nat))/\(Zr sv)[i * 5+3]? =some (.int .u64 (p.2.1 3:Nat))/\(Zr sv)[i * 5+4]? =some p.2.2
 |[],i,p,h=>by simp at h
 |q:: sv,0,p,h=>by simp at h;subst h;simp[Zr]
 |q:: sv,i+1,p,h=>by
  have ih:=UK sv i p (by simpa using h)
  have e:∀t,(Zr (q:: sv))[(i+1) * 5+t]? =(Zr sv)[i * 5+t]? :=by
   intro t;rw[show(i+1) * 5+t=(i * 5+t)+5 from by omega];simp[Zr]
  exact⟨(e 0).trans ih.1,(e 1).trans ih.2.1,(e 2).trans ih.2.2.1,(e 3).trans ih.2.2.2.1,(e 4).trans ih.2.2.2.2⟩
theorem IY{R:List yb}(c:UInt8){k:Nat}(hk:k<R.length):yN (R.drop k) c=if zo R[k].cls c.toNat then jD R[k].o c else yN (R.drop (k+1)) c:=by
 rw[List.drop_eq_getElem_cons hk];simp only[yN]
theorem II{w:World}{F:Nat->Prop}{v:Value}{R:List yb}(hr:JO w F v R)(hR:∀r,r∈R->jf r.o)(hn:R.length<=450)(c:UInt8):
 Calls Tryz.prog 121 #[v,.int .u8 c.toNat] w fun e w'=>e= .returned (.string (zG (yN R c)))/\Ch [] w w':=by
 obtain⟨_,rv,rfl,ho,hp⟩:=hr;obtain⟨a,cp,rfl⟩:=zQ ho
 have hn':rv.length<=450:=by simpa using hn
 have HC:=zC c.toNat_lt;go_enter Tryz.func121,Tryz.ntmps121;go_wp2_with fail
 go_loopw [6,9] (fun _ i w5=>∃k:Nat,k<=rv.length/\i= .int .i64 k/\Hd (yN ((rv.map fun p=>p.1).drop k) c=yN (rv.map fun p=>p.1) c)/\Hd (Ch [] w w5)) (fun _ i _=>rv.length - (intOf i).toNat)
 case atStart=>exact⟨0,Nat.zero_le _,rfl,by show _=_;simp,Ch.refl _ _⟩
 case round=>
  obtain⟨k,hk,rfl,HB,g5⟩:=hrel
  by_cases hlt:(k:Int)<rv.length
  ·have hlt':k<rv.length:=by omega
   have HD:=zC (IY (R:=rv.map fun p=>p.1) c (k:=k) (by simpa using hlt'));obtain⟨g,rfl,hg⟩:=jO (zJ ho g5.o (by simp)) (by omega);obtain⟨h0,h1,h2,h3,h4⟩:=UK rv k rv[k] (by simp[hlt']);have d0:=hg _ _ h0;have d1:=hg _ _ h1;have d2:=hg _ _ h2;have d3:=hg _ _ h3;have d4:=hg _ _ h4;have hpk:=hp rv[k] (List.getElem_mem hlt');have hRk:=hR rv[k].1 (List.mem_map_of_mem (List.getElem_mem hlt'));rw[List.getElem_map]at HD;clear hg h0 h1 h2 h3 h4;generalize rv[k]=p at *;obtain⟨D,q,vp⟩:=p;simp only at d0 d1 d2 d3 d4 HD hpk hRk;obtain⟨hS,_,hparts⟩:=hpk;obtain⟨pa,pc,rfl⟩:=zQ hparts;have g6:=zC (g5.o.trans (Ch.alloc [] wr (.cells #[.int .u64 (q 0),.int .u64 (q 1),.int .u64 (q 2),.int .u64 (q 3),.slice pa D.o.length pc] 264)));have B6:=zE.new wr #[.int .u64 (q 0),.int .u64 (q 1),.int .u64 (q 2),.int .u64 (q 3),.slice pa D.o.length pc] 264;have HH:=Wg (w:=wr.alloc (.cells #[.int .u64 (q 0),.int .u64 (q 1),.int .u64 (q 2),.int .u64 (q 3),.slice pa D.o.length pc] 264)) hS c.toNat HC.o;rw[show zS q= .agg #[.int .u64 (q 0),.int .u64 (q 1),.int .u64 (q 2),.int .u64 (q 3)]from rfl]at HH;have HS:=zC hS;have HO:=zC (zJ hparts g6.o (by simp));clear hS hparts;go_wp2_with fail;refine HH.mono ?_;rintro e w7 ⟨rfl,g7⟩;have B7:=B6.kp g7 (by simp);have e4:=B7.cl 4 _ rfl;have HO7:=zC (zJ HO.o g7 (by simp));generalize hb:zo D.cls c.toNat=bb at *
   cases bb with
   |true=>
    have HD2:Hd (jD D.o c=yN (rv.map fun p=>p.1) c):=by show _=_;rw[<- HB.o,HD.o];rfl
    go_wp2_with fail;refine(SZ HO7.o hRk c).mono ?_;rintro e w8 ⟨rfl,g8⟩;go_wp2_with fail;go_ret;exact⟨by rw[<- HD2.o];rfl,g6.o.trans (g7.trans g8)⟩
   |false=>
    have HD2:Hd (yN ((rv.map fun p=>p.1).drop (k+1)) c=yN (rv.map fun p=>p.1) c):=by show _=_;rw[<- HB.o,HD.o];rfl
    go_wp2_with fail;exact⟨⟨k+1,by omega,by go_num,HD2,g6.o.trans g7⟩,by simp[intOf];omega⟩
  ·have HD:Hd (yN (rv.map fun p=>p.1) c=[c]):=by
    show _=_
    rw[<- HB.o,List.drop_of_length_le (by simp;omega)];rfl
   go_wp2_with fail;refine(LR c).mono ?_;rintro e w8 ⟨rfl,g8⟩;go_wp2_with fail;go_ret;exact⟨by rw[HD.o];rfl,g5.o.trans g8⟩
def YE(R:List yb)(k:Nat):Nat->List UInt8:=fun j=>if j<k then yN R (UInt8.ofNat j)else []
theorem Tv(R:List yb):je (YE R 0)=je (fun _=>[]):=KZ (fun j _=>by simp[YE])
theorem CJ(R:List yb):je (YE R 256)=je (fun j=>yN R (UInt8.ofNat j)):=KZ (fun j hj=>by simp[YE,hj])
theorem IX{w:World}{H:Nat}{R:List yb}{k:Nat}(hk:k<256)(h:zE w H (je (YE R k)) 219):
 zE (w.setCell ⟨H,k,none⟩ (.string (zG (yN R (UInt8.ofNat k))))) H (je (YE R (k+1))) 219:=by
 have:=h.set k (.string (zG (yN R (UInt8.ofNat k))));rw[Ou _ hk]at this;rw[KZ (g:=fun j=>if j=k then yN R (UInt8.ofNat k)else YE R k j)]
 ·exact this
 ·intro j _
  unfold YE
  by_cases e:j=k
  ·subst e;simp
  ·have:j<k+1↔j<k:=by omega
   simp[e,this]
theorem Im{w:World}{H:Nat}{R:List yb}{k:Nat}(hk:k<256)(h:zE w H (je (YE R k)) 219):∃v,w.cell? ⟨H,k,none⟩=some v:=⟨_,h.cl k _ (LO _ hk)⟩
theorem Hk:Tryz.zeroCells219=je (fun _=>[]):=by kernel_rfl
theorem Gd(w:World)(R:List yb):zE (w.alloc (.cells Tryz.zeroCells219 219)) w.heap.size (je (YE R 0)) 219:=by
 rw[Tv,<- Hk];exact zE.new w _ _
theorem JO.kp{w w':World}{F:Nat->Prop}{v:Value}{R:List yb}(h:JO w F v R)(g:Ch [] w w'):JO w' F v R:=by
 obtain⟨h1,rv,h2,h3,h4⟩:=h;exact⟨h1,rv,h2,zJ h3 g (by simp),fun p hp=>⟨(h4 p hp).1,(h4 p hp).2.1,zJ (h4 p hp).2.2 g (by simp)⟩⟩
theorem FV{w:World}{F:Nat->Prop}{v:Value}{R:List yb}(hr:JO w F v R)(hR:∀r,r∈R->jf r.o)(hn:R.length<=450):
 Calls Tryz.prog 86 #[v] w fun e w'=>e= .returned (.pointer (some ⟨w.heap.size,0,none⟩))/\zE w' w.heap.size (je fun j=>yN R (UInt8.ofNat j)) 219/\Ch [] w w':=by
 have B0:=zC (Gd w R);have g0:=zC (Ch.alloc [] w (.cells Tryz.zeroCells219 219));have HR:=zC hr;clear hr;go_enter Tryz.func86,Tryz.ntmps86;go_wp2_with fail;generalize w.alloc (.cells Tryz.zeroCells219 219)=w0 at *;generalize Value.agg Tryz.zeroCells219=zz at *
 go_loopw [4,7] (fun _ i w5=>∃k:Nat,k<=256/\i= .int .i64 k/\Hd (zE w5 w.heap.size (je (YE R k)) 219)/\Hd (Ch [] w w5)) (fun _ i _=>256 - (intOf i).toNat)
 case atStart=>exact⟨0,Nat.zero_le _,rfl,B0,g0⟩
 case round=>
  obtain⟨k,hk,rfl,B5,g5⟩:=hrel
  by_cases hlt:(k:Int)<256
  ·have hlt':k<256:=by omega
   have HK:Hd ((UInt8.ofNat k).toNat=k):=by show _=_;simp;omega
   have HC:∀W,Ch [] w W->Calls Tryz.prog 121 #[v,.int .u8 k] W fun e w'=>e= .returned (.string (zG (yN R (UInt8.ofNat k))))/\Ch [] W w':=by
    intro W hW;have:=II (w:=W) (F:=F) (v:=v) (R:=R) (HR.o.kp hW) hR hn (UInt8.ofNat k);rw[HK.o]at this;exact this
   have HCC:=zC HC;clear HC
   have hwr:IntKind.u8.wrap (k:Int)=k:=by
    show _=_
    simp[IntKind.wrap,IntKind.signed,IntKind.bits];omega
   go_wp2_with fail
   go_region_with ((go_at_call 121;refine(HCC.o _ (g5.o.trans (Ch.drew _ _))).mono ?_;rintro e w6 ⟨rfl,g6⟩;have B6:zE w6 w.heap.size (je (YE R k)) 219:=zE.kp (zE.kp B5.o (Ch.drew [] wr) (by simp)) g6 (by simp);obtain⟨ve6,e6⟩:=Im hlt' B6;have f6:=B6.fz k))
   all_goals
    have B7:=zC (IX hlt' B6);have g7:Hd (Ch [] w (w6.setCell ⟨w.heap.size,k,none⟩ (.string (zG (yN R (UInt8.ofNat k)))))):=(g5.o.trans ((Ch.drew _ _).trans g6)).setCell_new (Or.inr (Nat.le_refl _)) _;clear e6 f6 B6;generalize w6.setCell ⟨w.heap.size,k,none⟩ (.string (zG (yN R (UInt8.ofNat k))))=w7 at *;go_wp2_with fail;exact⟨⟨k+1,by omega,by go_num,B7,g7⟩,by simp[intOf];omega⟩
  ·obtain rfl:k=256:=by omega
   have B6:=zC (CJ R ▸ B5.o);go_wp2_with fail;go_ret;exact⟨rfl,B6.o,g5.o⟩
def VS(w:World)(D:zH)(mv:Value):Prop:=
 (D.swap=true/\mv= .iface 182 (.agg #[.string D.one,.string D.two]))\/
 (D.swap=false/\∃rb,mv= .iface 183 (.pointer (some ⟨rb,0,none⟩))/\zE w rb (je fun j=>yN D.rules (UInt8.ofNat j)) 219)
def QD(w:World)(lo:Nat)(D:zH)(mv:Value):Prop:=VS w D mv/\∀rb,mv= .iface 183 (.pointer (some ⟨rb,0,none⟩))->lo<=rb
theorem Gv{w:World}{F:Nat->Prop}{D:zH}{vr:Value}(hr:JO w F vr D.rules)(hD:yR D):
 Calls Tryz.prog 45 #[.agg #[.string D.name,.int .i64 (if D.swap then 1 else 0),vr,.string D.one,.string D.two]] w fun e w'=>∃mv,e= .returned mv/\QD w' w.heap.size D mv/\Ch [] w w':=by
 obtain⟨nm,sw,one,two,R⟩:=D;simp only at hr ⊢
 have hvs:∃a n c,vr= .slice a n c:=by
  obtain⟨_,rv,_,ho,_⟩:=hr;obtain⟨a,c,rfl⟩:=zQ ho;exact⟨_,_,_,rfl⟩
 obtain⟨ra,rn,rc,rfl⟩:=hvs
 cases sw with
 |true=>
  go_enter Tryz.func45,Tryz.ntmps45;go_wp2_with fail;go_ret;exact⟨_,rfl,⟨Or.inl ⟨rfl,rfl⟩,fun rb e=>by injection e with e;exact absurd e (by decide)⟩,Ch.alloc _ _ _⟩
 |false=>
  have g0:=Ch.alloc [] w (.cells #[.string nm,.int .i64 0,.slice ra rn rc,.string one,.string two] 118);have HR:=zC (hr.kp g0)
  have z0:(w.alloc (.cells #[.string nm,.int .i64 0,.slice ra rn rc,.string one,.string two] 118)).heap.size=w.heap.size+1:=by simp
  have HO:=zC hD.2;clear hr hD;go_enter Tryz.func45,Tryz.ntmps45;go_wp2_with fail;generalize w.alloc (.cells #[.string nm,.int .i64 0,.slice ra rn rc,.string one,.string two] 118)=w0 at *;refine(FV HR.o HO.o.1 (by have:R.length<=6:=HO.o.2;omega)).mono ?_;rintro e w1 ⟨rfl,B1,g1⟩;have B1x:=zC B1;clear B1;go_wp2_with fail;go_ret;refine⟨.iface 183 (.pointer (some ⟨w0.heap.size,0,none⟩)),?_,⟨Or.inr ⟨rfl,w0.heap.size,rfl,B1x.o⟩,fun rb e=> ?_⟩,g0.trans g1⟩
  ·rw[z0];rfl
  ·injection e with _ e
   injection e with e
   injection e with e
   injection e with e
   omega
theorem Rp{w:World}:Calls Tryz.prog 43 #[] w fun e w'=>e= .returned (.agg #[.func (.func 80) #[] #[],.func (.func 82) #[] #[]])/\Ch [] w w':=by
 have B0:=zE.new w #[.func (.func 80) #[] #[],.func (.func 82) #[] #[]] 77;go_enter Tryz.func43,Tryz.ntmps43;go_wp2_with fail;have c0:=B0.cl 0 _ rfl;have c1:=B0.cl 1 _ rfl;exact bodyPost_ret (v:= .agg #[.func (.func 80) #[] #[],.func (.func 82) #[] #[]]) (by simp[results,Tryz.results43,go_sem,c0,c1]) rfl ⟨rfl,Ch.alloc _ _ _⟩
def j5(w:World):List zH->Nat->Value->Value->Prop
 |[],_,pv,ev=>pv= .func (.func 80) #[] #[]/\ev= .func (.func 82) #[] #[]
 |D:: Ds,k,pv,ev=>∃M N R P mv rp re,
   pv= .func (.func 84) #[] #[.pointer (some ⟨M,0,none⟩),.pointer (some ⟨N,0,none⟩),.pointer (some ⟨P,0,none⟩)]/\
   ev= .func (.func 85) #[] #[.pointer (some ⟨P,0,none⟩),.pointer (some ⟨M,0,none⟩),.pointer (some ⟨N,0,none⟩),.pointer (some ⟨R,0,none⟩)]/\
   zE w M #[mv] 113/\VS w D mv/\zE w N #[.int .i64 k] 3/\zE w P #[.func (.func 83) #[] #[.pointer (some ⟨R,0,none⟩)]] 177/\zE w R #[rp,re] 77/\j5 w Ds (k+1) rp re
def Kp(w w':World):Prop:=∀k cs T,zE w k cs T->T≠5->T≠122->T≠126->zE w' k cs T
theorem Kp.ch{w w':World}(g:Ch [] w w'):Kp w w':=fun _ _ _ h _ _ _=>h.kp g (by simp)
theorem Kp.trans{w1 w2 w3:World}(h:Kp w1 w2)(g:Kp w2 w3):Kp w1 w3:=fun k cs T a b c d=>g k cs T (h k cs T a b c d) b c d
theorem Fr.kp{w w':World}{B st b:Nat}{cs:Array Value}{l:List UInt8}(h:Fr B st b w w')(hs:zE w st cs 122)(hb:yi w B b l):Kp w w':=by
 intro k ks T hk h1 h2 h3;refine h.blk hk ?_ ?_ h1
 ·rintro rfl
  have:=hk.symm.trans hs
  injection this with this
  injection this with _ e _
  exact h2 e
 ·rintro rfl
  obtain⟨c,hc⟩:=hb.kind;have:=hk.symm.trans hc
  injection this with this
  injection this with _ e _
  exact h3 e
theorem VS.kp{w w':World}{D:zH}{mv:Value}(h:VS w D mv)(g:Kp w w'):VS w' D mv:=by
 rcases h with h|⟨h1,rb,h2,h3⟩
 ·exact Or.inl h
 ·exact Or.inr ⟨h1,rb,h2,g _ _ _ h3 (by decide) (by decide) (by decide)⟩
theorem j5.kp{w w':World}(g:Kp w w'):∀(Ds:List zH) (k:Nat) (pv ev:Value),j5 w Ds k pv ev->j5 w' Ds k pv ev
 |[],_,_,_,h=>h
 |D:: Ds,k,pv,ev,⟨M,N,R,P,mv,rp,re,h1,h2,h3,h4,h5,h6,h7,h8⟩=>
  ⟨M,N,R,P,mv,rp,re,h1,h2,g _ _ _ h3 (by decide) (by decide) (by decide),h4.kp g,g _ _ _ h5 (by decide) (by decide) (by decide),g _ _ _ h6 (by decide) (by decide) (by decide),g _ _ _ h7 (by decide) (by decide) (by decide),j5.kp g Ds (k+1) rp re h8⟩
theorem j5.funcs{w:World}:∀{Ds:List zH} {k:Nat} {pv ev:Value},j5 w Ds k pv ev->∃n m c d,pv= .func (.func n) #[] c/\ev= .func (.func m) #[] d/\(∀(args:Array Value) (W:World),Sem.run Tryz.prog (callFunc n args) W= .ok (.enter n args) W)/\(∀(args:Array Value) (W:World),Sem.run Tryz.prog (callFunc m args) W= .ok (.enter m args) W)
 |[],_,_,_,⟨h1,h2⟩=>⟨_,_,_,_,h1,h2,fun _ _=>by kernel_rfl,fun _ _=>by kernel_rfl⟩
 |_:: _,_,_,_,⟨_,_,_,_,_,_,_,h1,h2,_⟩=>⟨_,_,_,_,h1,h2,fun _ _=>by kernel_rfl,fun _ _=>by kernel_rfl⟩
def JJ(w:World)(lo:Nat):List zH->Nat->Value->Value->Prop
 |[],_,pv,ev=>pv= .func (.func 80) #[] #[]/\ev= .func (.func 82) #[] #[]
 |D:: Ds,k,pv,ev=>∃M N R P mv rp re,
   pv= .func (.func 84) #[] #[.pointer (some ⟨M,0,none⟩),.pointer (some ⟨N,0,none⟩),.pointer (some ⟨P,0,none⟩)]/\
   ev= .func (.func 85) #[] #[.pointer (some ⟨P,0,none⟩),.pointer (some ⟨M,0,none⟩),.pointer (some ⟨N,0,none⟩),.pointer (some ⟨R,0,none⟩)]/\
   (lo<=M/\lo<=N/\lo<=R/\lo<=P)/\zE w M #[mv] 113/\QD w lo D mv/\zE w N #[.int .i64 k] 3/\zE w P #[.func (.func 83) #[] #[.pointer (some ⟨R,0,none⟩)]] 177/\zE w R #[rp,re] 77/\JJ w lo Ds (k+1) rp re
theorem JJ.toV{w:World}{lo:Nat}:∀{Ds:List zH} {k:Nat} {pv ev:Value},JJ w lo Ds k pv ev->j5 w Ds k pv ev
 |[],_,_,_,h=>h
 |_:: _,_,_,_,⟨M,N,R,P,mv,rp,re,h1,h2,_,h3,h4,h5,h6,h7,h8⟩=>⟨M,N,R,P,mv,rp,re,h1,h2,h3,h4.1,h5,h6,h7,h8.toV⟩
theorem QD.kp{w w':World}{lo:Nat}{X:List Nat}{D:zH}{mv:Value}(g:Ch X w w')(hX:∀k,k∈X->k<lo)(h:QD w lo D mv):QD w' lo D mv:=by
 obtain⟨h,hl⟩:=h;refine⟨?_,hl⟩
 rcases h with h|⟨h1,rb,h2,h3⟩
 ·exact Or.inl h
 ·exact Or.inr ⟨h1,rb,h2,h3.kp g (fun e=>by have:=hX rb e;have:=hl rb h2;omega)⟩
theorem JJ.kp{w w':World}{lo:Nat}{X:List Nat}(g:Ch X w w')(hX:∀k,k∈X->k<lo):∀(Ds:List zH) (k:Nat) (pv ev:Value),JJ w lo Ds k pv ev->JJ w' lo Ds k pv ev
 |[],_,_,_,h=>h
 |D:: Ds,k,pv,ev,⟨M,N,R,P,mv,rp,re,h1,h2,h0,h3,h4,h5,h6,h7,h8⟩=>
  ⟨M,N,R,P,mv,rp,re,h1,h2,h0,h3.kp g (fun e=>by have:=hX _ e;omega),h4.kp g hX,h5.kp g (fun e=>by have:=hX _ e;omega),h6.kp g (fun e=>by have:=hX _ e;omega),h7.kp g (fun e=>by have:=hX _ e;omega),JJ.kp g hX Ds (k+1) rp re h8⟩
theorem CW{w:World}{D:zH}{Ds:List zH}{mv rp re:Value}{n lo:Nat}(hlo:lo<=w.heap.size)(hm:QD w lo D mv)(hc:JJ w lo Ds (n+1) rp re):Calls Tryz.prog 44 #[mv,.int .i64 n,.agg #[rp,re]] w fun e w'=>∃pv ev,e= .returned (.agg #[pv,ev])/\JJ w' lo (D:: Ds) n pv ev/\Ch [] w w':=by
 have hmf:∀(fn:Fn) (first cap:Array Value) (w:World),(Instr.makeFunc fn first cap).run Tryz.prog w= .ok (.func fn first cap) w:=fun _ _ _ _=>rfl
 obtain⟨t,u,rfl⟩:∃t u,mv= .iface t u:=by
  rcases hm.1 with⟨_,h⟩|⟨_,rb,h,_⟩
  ·exact⟨_,_,h⟩
  ·exact⟨_,_,h⟩
 obtain⟨f1,f2,c1,c2,rfl,rfl,_,_⟩:=hc.toV.funcs;have HM:=zC hm;have HC:=zC hc;clear hm hc;have B0:=zE.new w #[.iface t u] 113;have g0:=Ch.alloc [] w (.cells #[.iface t u] 113)
 have z0:(w.alloc (.cells #[.iface t u] 113)).heap.size=w.heap.size+1:=by simp
 generalize hw0:w.alloc (.cells #[.iface t u] 113)=w0 at *;have B1:=zE.new w0 #[.int .i64 n] 3;have g1:=Ch.alloc [] w0 (.cells #[.int .i64 n] 3)
 have z1:(w0.alloc (.cells #[.int .i64 n] 3)).heap.size=w0.heap.size+1:=by simp
 generalize hw1:w0.alloc (.cells #[.int .i64 n] 3)=w1 at *;have B2:=zE.new w1 #[.func (.func f1) #[] c1,.func (.func f2) #[] c2] 77;have g2:=Ch.alloc [] w1 (.cells #[.func (.func f1) #[] c1,.func (.func f2) #[] c2] 77)
 have z2:(w1.alloc (.cells #[.func (.func f1) #[] c1,.func (.func f2) #[] c2] 77)).heap.size=w1.heap.size+1:=by simp
 generalize hw2:w1.alloc (.cells #[.func (.func f1) #[] c1,.func (.func f2) #[] c2] 77)=w2 at *;have B3:=zE.new w2 #[.func (.func 84) #[] #[.pointer (some ⟨w.heap.size,0,none⟩),.pointer (some ⟨w.heap.size+1,0,none⟩),.pointer (some ⟨w.heap.size+1+1+1+1,0,none⟩)],.func (.func 85) #[] #[.pointer (some ⟨w.heap.size+1+1+1+1,0,none⟩),.pointer (some ⟨w.heap.size,0,none⟩),.pointer (some ⟨w.heap.size+1,0,none⟩),.pointer (some ⟨w.heap.size+1+1,0,none⟩)]] 77;have g3:=Ch.alloc [] w2 (.cells #[.func (.func 84) #[] #[.pointer (some ⟨w.heap.size,0,none⟩),.pointer (some ⟨w.heap.size+1,0,none⟩),.pointer (some ⟨w.heap.size+1+1+1+1,0,none⟩)],.func (.func 85) #[] #[.pointer (some ⟨w.heap.size+1+1+1+1,0,none⟩),.pointer (some ⟨w.heap.size,0,none⟩),.pointer (some ⟨w.heap.size+1,0,none⟩),.pointer (some ⟨w.heap.size+1+1,0,none⟩)]] 77)
 have z3:(w2.alloc (.cells #[.func (.func 84) #[] #[.pointer (some ⟨w.heap.size,0,none⟩),.pointer (some ⟨w.heap.size+1,0,none⟩),.pointer (some ⟨w.heap.size+1+1+1+1,0,none⟩)],.func (.func 85) #[] #[.pointer (some ⟨w.heap.size+1+1+1+1,0,none⟩),.pointer (some ⟨w.heap.size,0,none⟩),.pointer (some ⟨w.heap.size+1,0,none⟩),.pointer (some ⟨w.heap.size+1+1,0,none⟩)]] 77)).heap.size=w2.heap.size+1:=by simp
 generalize hw3:w2.alloc (.cells #[.func (.func 84) #[] #[.pointer (some ⟨w.heap.size,0,none⟩),.pointer (some ⟨w.heap.size+1,0,none⟩),.pointer (some ⟨w.heap.size+1+1+1+1,0,none⟩)],.func (.func 85) #[] #[.pointer (some ⟨w.heap.size+1+1+1+1,0,none⟩),.pointer (some ⟨w.heap.size,0,none⟩),.pointer (some ⟨w.heap.size+1,0,none⟩),.pointer (some ⟨w.heap.size+1+1,0,none⟩)]] 77)=w3 at *;have B4:=zE.new w3 #[.func (.func 83) #[] #[.pointer (some ⟨w.heap.size+1+1,0,none⟩)]] 177;have g4:=Ch.alloc [] w3 (.cells #[.func (.func 83) #[] #[.pointer (some ⟨w.heap.size+1+1,0,none⟩)]] 177);generalize hw4:w3.alloc (.cells #[.func (.func 83) #[] #[.pointer (some ⟨w.heap.size+1+1,0,none⟩)]] 177)=w4 at *
 have e1:w0.heap.size=w.heap.size+1:=by omega
 have e2:w1.heap.size=w.heap.size+1+1:=by omega
 have e3:w2.heap.size=w.heap.size+1+1+1:=by omega
 have e4:w3.heap.size=w.heap.size+1+1+1+1:=by omega
 rw[e1]at B1;rw[e2]at B2;rw[e3]at B3;rw[e4]at B4;have G:Ch [] w w4:=g0.trans (g1.trans (g2.trans (g3.trans g4)));have A3:=B3.kp g4 (by simp)
 have REL:Hd (JJ w4 lo (D:: Ds) n (.func (.func 84) #[] #[.pointer (some ⟨w.heap.size,0,none⟩),.pointer (some ⟨w.heap.size+1,0,none⟩),.pointer (some ⟨w.heap.size+1+1+1+1,0,none⟩)]) (.func (.func 85) #[] #[.pointer (some ⟨w.heap.size+1+1+1+1,0,none⟩),.pointer (some ⟨w.heap.size,0,none⟩),.pointer (some ⟨w.heap.size+1,0,none⟩),.pointer (some ⟨w.heap.size+1+1,0,none⟩)])):=
  ⟨_,_,_,_,_,_,_,rfl,rfl,⟨hlo,by omega,by omega,by omega⟩,B0.kp (g1.trans (g2.trans (g3.trans g4))) (by simp),HM.o.kp G (by simp),B1.kp (g2.trans (g3.trans g4)) (by simp),B4,B2.kp (g3.trans g4) (by simp),JJ.kp G (by simp) _ _ _ _ HC.o⟩
 have c0:=A3.cl 0 _ rfl;have c1:=A3.cl 1 _ rfl;have HG:=zC G;clear B0 g0 z0 B1 g1 z1 B2 g2 z2 B3 g3 z3 B4 g4 e1 e2 e3 e4 A3 G;have H4:=zC hw4;have H3:=zC hw3;have H2:=zC hw2;have H1:=zC hw1;have H0:=zC hw0;clear hw4 hw3 hw2 hw1 hw0;go_enter Tryz.func44,Tryz.ntmps44;go_wp2_with fail;rw[H0.o,H1.o,H2.o,H3.o,H4.o];refine bodyPost_ret (v:= .agg #[.func (.func 84) #[] #[.pointer (some ⟨w.heap.size,0,none⟩),.pointer (some ⟨w.heap.size+1,0,none⟩),.pointer (some ⟨w.heap.size+1+1+1+1,0,none⟩)],.func (.func 85) #[] #[.pointer (some ⟨w.heap.size+1+1+1+1,0,none⟩),.pointer (some ⟨w.heap.size,0,none⟩),.pointer (some ⟨w.heap.size+1,0,none⟩),.pointer (some ⟨w.heap.size+1+1,0,none⟩)]]) (by simp[results,Tryz.results44,go_sem,c0,c1]) rfl ⟨_,_,rfl,REL.o,HG.o⟩
def Vc(A:List Nat):Array Value:=(A.map fun h=>Value.int .u8 (h:Nat)).toArray
def ja(w:World)(st:Nat)(A:List Nat):Prop:=zE w st (Vc A) 122/\A.length=3
theorem Ie(pre:List Nat)(h h':Nat)(hs:List Nat):(Vc (pre++h:: hs)).setIfInBounds pre.length (.int .u8 (h':Nat))=Vc (pre++h':: hs):=by
 simp[Vc]
theorem ja.cl{w:World}{st:Nat}{pre:List Nat}{h:Nat}{hs:List Nat}(H:ja w st (pre++h:: hs)):w.cell? ⟨st,pre.length,none⟩=some (.int .u8 (h:Nat)):=
 H.1.cl _ _ (by simp[Vc])
theorem ja.set{w:World}{st:Nat}{pre:List Nat}{h:Nat}{hs:List Nat}(H:ja w st (pre++h:: hs))(h':Nat):ja (w.setCell ⟨st,pre.length,none⟩ (.int .u8 (h':Nat))) st (pre++h':: hs):=
 ⟨by have:=H.1.set pre.length (.int .u8 (h':Nat));rw[Ie]at this;exact this,by have:=H.2;simpa using this⟩
theorem ja.kind{w:World}{st:Nat}{A:List Nat}(H:ja w st A):∀c fz,w.heap[st]? ≠some (.cells c 5 fz):=by
 intro c fz e;have:=H.1.symm.trans e
 injection this with this
 injection this with _ e _
 exact absurd e (by decide)
theorem ja.ne{w:World}{B st b:Nat}{A:List Nat}{l:List UInt8}(H:ja w st A)(hb:yi w B b l):st≠b:=by
 rintro rfl;obtain⟨c,hc⟩:=hb.kind;have:=H.1.symm.trans hc
 injection this with this
 injection this with _ e _
 exact absurd e (by decide)
theorem ja.frb{w w':World}{B st b:Nat}{A:List Nat}{l:List UInt8}(H:ja w st A)(hb:yi w B b l)(f:Fr B b b w w'):ja w' st A:=
 ⟨f.blk H.1 (H.ne hb) (H.ne hb) (by decide),H.2⟩
theorem Fr.weaken{B st b:Nat}{w w':World}(h:Fr B b b w w'):Fr B st b w w':=⟨h.1,fun k o hk _ h2 h3=>h.2 k o hk h2 h2 h3⟩
theorem PV(Ds:List zH)(hs:List Nat)(xs:List UInt8)(j:Nat):(zT Ds hs (xs.take j)).2.length<=(zT Ds hs xs).2.length:=by
 have:=Vl Ds hs (xs.take j) (xs.drop j);rw[List.take_append_drop]at this;rw[this];simp
theorem Xy(Ds:List zH)(hs:List Nat){xs:List UInt8}{j:Nat}(hj:j<xs.length):zT Ds hs (xs.take (j+1))=((zT Ds (zT Ds hs (xs.take j)).1 [xs[j]]).1,(zT Ds hs (xs.take j)).2++(zT Ds (zT Ds hs (xs.take j)).1 [xs[j]]).2):=by
 rw[List.take_succ_eq_append_getElem hj,Vl]
theorem j7.len:∀{Ds:List zH} {hs:List Nat},j7 Ds hs->Ds.length<=hs.length
 |[],_,_=>Nat.zero_le _
 |_:: _,[],h=>h.elim
 |_:: _,_:: _,h=>by simp only[List.length_cons];have:=h.2.len;omega
def J5(B st b:Nat)(pre:List Nat)(l:List UInt8)(r:List Nat×List UInt8)(w:World)(e:Ending)(w':World):Prop:=
 e= .returned (.tuple #[])/\ja w' st (pre++r.1)/\yi w' B b (l++r.2)/\Fr B st b w w'
def UI(Ds:List zH)(k n:Nat)(cap:Array Value):Prop:=
 ∀(w:World) (re:Value) (B st b:Nat) (pre hs:List Nat) (l:List UInt8) (c:UInt8),j5 w Ds k (.func (.func n) #[] cap) re->pre.length=k->j7 Ds hs->ja w st (pre++hs)->yi w B b l->B<=st->l.length+(zT Ds hs [c]).2.length<=140737488355328->
  Calls Tryz.prog n (#[.pointer (some ⟨st,0,none⟩),.int .u8 c.toNat,.pointer (some ⟨b,0,none⟩)]++cap) w (J5 B st b pre l (zT Ds hs [c]) w)
theorem GP(k:Nat):UI [] k 80 #[]:=by
 intro w re B st b pre hs l c _ _ _ HS HB hB hl;have hl':l.length+1<=140737488355328:=hl;go_enter Tryz.func80,Tryz.ntmps80;go_wp2_with fail;refine(Uz b HB c hl' (by have:=HB.lt;omega)).mono ?_;rintro e w1 ⟨rfl,I1,f1⟩;have I1x:=zC I1;clear I1;go_wp2_with fail
 go_end0
 exact⟨rfl,HS.frb HB f1,I1x.o,f1.weaken⟩
theorem J5.more{B st b:Nat}{pre:List Nat}{l:List UInt8}{Ds:List zH}{hs:List Nat}{text:List UInt8}{j:Nat}(hj:j<text.length){w w5 w6:World}{e5 e6:Ending}(h5:J5 B st b pre l (zT Ds hs (text.take j)) w e5 w5)(h6:J5 B st b pre (l++(zT Ds hs (text.take j)).2) (zT Ds (zT Ds hs (text.take j)).1 [text[j]]) w5 e6 w6):J5 B st b pre l (zT Ds hs (text.take (j+1))) w (.returned (.tuple #[])) w6:=by
 refine⟨rfl,?_,?_,h5.2.2.2.trans h6.2.2.2⟩
 ·rw[Xy Ds hs hj];exact h6.2.1
 ·rw[Xy Ds hs hj];have:=h6.2.2.1;rwa [List.append_assoc]at this
theorem AC{Ds:List zH}{k n:Nat}{cap:Array Value}{w:World}{re:Value}{B st b R:Nat}{pre hs:List Nat}{l text:List UInt8}(HP:UI Ds k n cap)(hen:∀(args:Array Value) (W:World),Sem.run Tryz.prog (callFunc n args) W= .ok (.enter n args) W)(hD:∀D,D∈Ds->yR D)
 (hR:zE w R #[.func (.func n) #[] cap,re] 77) (hc:j5 w Ds k (.func (.func n) #[] cap) re) (hk:pre.length=k) (hh:j7 Ds hs) (HS:ja w st (pre++hs)) (HB:yi w B b l) (hB:B<=st) (ht:text.length<=400) (hl:l.length+(zT Ds hs text).2.length<=140737488355328):
 Calls Tryz.prog 83 #[.pointer (some ⟨st,0,none⟩),.string (zG text),.pointer (some ⟨b,0,none⟩),.pointer (some ⟨R,0,none⟩)] w (J5 B st b pre l (zT Ds hs text) w):=by
 have hsz:(zG text).size<=400:=by rw[yV];exact ht
 have HZ:=zC (yV text);have HHP:=zC HP;clear HP;go_enter Tryz.func83,Tryz.ntmps83;go_wp2_with fail
 go_loopw [7,10] (fun _ i w5=>∃j:Nat,j<=(zG text).size/\i= .int .i64 j/\Hd (J5 B st b pre l (zT Ds hs (text.take j)) w (.returned (.tuple #[])) w5)/\Hd (j5 w5 Ds k (.func (.func n) #[] cap) re)/\Hd (zE w5 R #[.func (.func n) #[] cap,re] 77)) (fun _ i _=>(zG text).size - (intOf i).toNat)
 case atStart=>exact⟨0,Nat.zero_le _,rfl,by
  show J5 _ _ _ _ _ _ _ _ _
  rw[List.take_zero,WY Ds hs hh.len]
  exact⟨rfl,HS,by simpa using HB,Fr.refl _ _ _ _⟩,hc,hR⟩
 case round=>
  obtain⟨j,hj,rfl,H5,C5,R5⟩:=hrel
  by_cases hlt:(j:Int)<(zG text).size
  ·have d0:=R5.o.cl 0 _ rfl
   have hlt':j<text.length:=by have:=HZ.o;omega
   have HX:∀h:j<(zG text).size,(zG text)[j]=text[j]:=fun _=>by first|rfl|(show(zG text).data[j]=_;simp[zG])
   have H5d:Hd (J5 B st b pre l (zT Ds hs (text.take j)) w (.returned (.tuple #[])) wr.drew):=⟨rfl,H5.o.2.1,H5.o.2.2.1,H5.o.2.2.2.trans (Fr.ch (Ch.drew [] wr) (by have:=H5.o.2.2.1.lt;omega) (by simp))⟩;have C5d:Hd (j5 wr.drew Ds k (.func (.func n) #[] cap) re):=j5.kp (Kp.ch (Ch.drew [] wr)) _ _ _ _ C5.o
   have CALL:Calls Tryz.prog n (#[.pointer (some ⟨st,0,none⟩),.int .u8 (text[j].toNat:Nat),.pointer (some ⟨b,0,none⟩)]++cap) wr.drew (J5 B st b pre (l++(zT Ds hs (text.take j)).2) (zT Ds (zT Ds hs (text.take j)).1 [text[j]]) wr.drew):=by
    have ok:=QO Ds hs (text.take j) hD hh;have b1:=PV Ds hs text (j+1);rw[Xy Ds hs hlt',List.length_append]at b1;exact HHP.o wr.drew re B st b pre (zT Ds hs (text.take j)).1 (l++(zT Ds hs (text.take j)).2) text[j] C5d.o hk ok.1 H5d.o.2.1 H5d.o.2.2.1 hB (by rw[List.length_append];omega)
   have CA:=zC CALL;clear CALL
   have NEXT:∀w6 e6,J5 B st b pre (l++(zT Ds hs (text.take j)).2) (zT Ds (zT Ds hs (text.take j)).1 [text[j]]) wr.drew e6 w6->Hd (J5 B st b pre l (zT Ds hs (text.take (j+1))) w (.returned (.tuple #[])) w6)/\Hd (j5 w6 Ds k (.func (.func n) #[] cap) re)/\Hd (zE w6 R #[.func (.func n) #[] cap,re] 77):=by
    intro w6 e6 h6;have kp:=h6.2.2.2.kp H5d.o.2.1.1 H5d.o.2.2.1;exact⟨H5d.o.more hlt' h6,j5.kp kp _ _ _ _ C5d.o,kp _ _ _ (show zE wr.drew R _ _ from R5.o) (by decide) (by decide) (by decide)⟩
   have NX:=zC NEXT;clear NEXT;go_wp2_with fail
   go_region_with ((refine CA.o.mono ?_;rintro e w6 h6;obtain⟨n1,n2,n3⟩:=NX.o w6 e h6;obtain⟨rfl,_⟩:=h6))
   all_goals
    go_wp2_with fail;exact⟨⟨j+1,by omega,by go_num,n1,n2,n3⟩,by simp[intOf];omega⟩
  ·have e:j=text.length:=by have:=HZ.o;omega
   subst e;have H6:=H5;rw[List.take_length]at H6;go_wp2_with fail
   go_end0
   exact⟨rfl,H6.o.2⟩
end Go.Proofs.YteobgfbgglfkbaaGreat
