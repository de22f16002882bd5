import Derived.Test.YteobgfbgglfkbaaGreatRP2
import Derived.Test.YteobgfbgglfkbaaGreatRB6
set_option maxHeartbeats 1600000
set_option maxRecDepth 100000
namespace Go.Proofs.YteobgfbgglfkbaaGreat
open Go.RowKit
attribute [local go_sem ↓] Go.wp_at_zero Go.wp_at_succ
theorem Ch.ofBelow{w w':World}{B:Nat}(h:Below B w w')(hB:w.heap.size<=B):Ch [] w w':=⟨h.os,h.tape,h.output,h.size,fun k hk _=>h.block k (by omega)⟩
theorem WZ:∀(P:List (Int×ByteArray)) (i:Nat) (p:Int×ByteArray),P[i]? =some p->(jn P)[i * 2]? =some (.int .i64 (pk p.1))/\(jn P)[i * 2+1]? =some (.string p.2)
 |[],i,p,h=>by simp at h
 |q:: sv,0,p,h=>by simp at h;subst h;simp[jn]
 |q:: sv,i+1,p,h=>by
  have ih:=WZ sv i p (by simpa using h)
  have e:∀t,(jn (q:: sv))[(i+1) * 2+t]? =(jn sv)[i * 2+t]? :=by
   intro t;rw[show(i+1) * 2+t=(i * 2+t)+2 from by omega];simp[jn]
  exact⟨(e 0).trans ih.1,(e 1).trans ih.2⟩
theorem Lm(P:List (Int×ByteArray))(c:UInt8){k:Nat}(hk:k<P.length):jD (P.take (k+1)) c=jD (P.take k) c++j6 P[k] c:=by
 unfold jD;rw[List.take_succ_eq_append_getElem hk,List.flatMap_append];simp
theorem EY{P:List (Int×ByteArray)}(hP:jf P)(c:UInt8)(k:Nat):(jD (P.take k) c).length<=12:=by
 have:∀(P:List (Int×ByteArray)),(∀p,p∈P->p.2.size<=4)->(jD P c).length<=4 * P.length:=by
  intro P
  induction P with
  |nil=>simp[jD]
  |cons p P ihP=>
   intro hP
   have h1:(j6 p c).length<=4:=by
    have:=hP p (by simp);unfold j6
    split
    ·exact this
    ·repeat' split
     all_goals simp
   have h2:=ihP (fun q hq=>hP q (by simp[hq]));simp only[jD,List.flatMap_cons,List.length_append,List.length_cons]at *;omega
 have h1:=this (P.take k) (fun p hp=>hP.2 p (List.mem_of_mem_take hp));have h2:=hP.1
 have:(P.take k).length<=P.length:=by simp;omega
 omega
theorem SZ{w:World}{v:Value}{P:List (Int×ByteArray)}(ho:w.ownsRow 0 312 2 v P.length (jn P))(hP:jf P)(c:UInt8):
 Calls Tryz.prog 157 #[v,.int .u8 c.toNat] w fun e w'=>e= .returned (.string (zG (jD P c)))/\Ch [] w w':=by
 obtain⟨a,cp,rfl⟩:=zQ ho;have I0:=MZ w (B:=w.heap.size) (Nat.le_refl _);have g0:=Ch.alloc [] w (.cells #[.pointer none,.slice none 0 0] 126);have hP3:=hP.1;go_enter Tryz.func157,Tryz.ntmps157;go_wp2_with fail;generalize w.alloc (.cells #[.pointer none,.slice none 0 0] 126)=w0 at *
 go_loopw [7,10] (fun _ i w5=>∃k:Nat,k<=P.length/\i= .int .i64 k/\Hd (yi w5 w.heap.size w.heap.size (jD (P.take k) c))/\Hd (Ch [] w w5)) (fun _ i _=>P.length - (intOf i).toNat)
 case atStart=>exact⟨0,Nat.zero_le _,rfl,I0,g0⟩
 case round=>
  obtain⟨k,hk,rfl,I5,g5⟩:=hrel
  by_cases hlt:(k:Int)<P.length
  ·have hlt':k<P.length:=by omega
   obtain⟨g,rfl,hg⟩:=jO (zJ ho g5.o (by simp)) (by omega);obtain⟨hc0,hc1⟩:=WZ P k P[k] (by simp[hlt']);have d0:=hg _ _ hc0;have d1:=hg _ _ hc1;have HT:=zC (Lm P c hlt');have HP4:=zC (hP.2 P[k] (List.getElem_mem hlt'));generalize P[k]=p at *;obtain⟨K,T⟩:=p;simp only at d0 d1 HT HP4;have I6:=zC (I5.o.kp (Ch.alloc [] wr (.cells #[.int .i64 (pk K),.string T] 312)) (by simp) (by simp));have g6:=zC (g5.o.trans (Ch.alloc [] wr (.cells #[.int .i64 (pk K),.string T] 312)));clear hg hc0 hc1;have hz:=g5.o.size
   have done:∀w7,Hd (yi w7 w.heap.size w.heap.size (jD (P.take (k+1)) c))->Hd (Ch [] w w7)->(∃k':Nat,k'<=P.length/\Value.int .i64 ((k:Int)+1)= .int .i64 k'/\Hd (yi w7 w.heap.size w.heap.size (jD (P.take k') c))/\Hd (Ch [] w w7))/\P.length - (intOf (Value.int .i64 ((k:Int)+1))).toNat<P.length - (intOf (Value.int .i64 (k:Int))).toNat:=
    fun w7 h1 h2=>⟨⟨k+1,by omega,by go_num,h1,h2⟩,by simp[intOf];omega⟩
   have DONE:=zC done;clear done;have HL:=zC (EY hP c k)
   by_cases k1:K=116
   ·have e1:pk K=0:=by simp[pk,k1]
    rw[e1]at d0 I6 g6
    have HQ:Hd (j6 (K,T) c=T.data.toList):=by show _=_;simp[j6,k1]
    go_wp2_with fail;rw[<- Zx T]at I6 g6 ⊢;refine(ON w.heap.size I6.o T.data.toList (by have:=HL.o;have:=HP4.o;have:=JF T;omega) g6.o.size).mono ?_;rintro e w7 ⟨rfl,I7,f7⟩
    have I7':Hd (yi w7 w.heap.size w.heap.size (jD (P.take (k+1)) c)):=by show yi _ _ _ _;rw[HT.o,HQ.o];exact I7
    have g7:Hd (Ch [] w w7):=Ch.ofBelow ((g6.o.below (Nat.le_refl _) (by simp)).trans f7.1) (Nat.le_refl _);go_wp2_with fail;exact DONE.o w7 I7' g7
   ·by_cases k2:K=98
    ·have e1:pk K=1:=by simp[pk,k2]
     rw[e1]at d0 I6 g6
     have HQ:Hd (j6 (K,T) c=[c]):=by show _=_;simp[j6,k2]
     go_wp2_with fail;refine(Uz w.heap.size I6.o c (by have:=HL.o;omega) g6.o.size).mono ?_;rintro e w7 ⟨rfl,I7,f7⟩
     have I7':Hd (yi w7 w.heap.size w.heap.size (jD (P.take (k+1)) c)):=by show yi _ _ _ _;rw[HT.o,HQ.o];exact I7
     have g7:Hd (Ch [] w w7):=Ch.ofBelow ((g6.o.below (Nat.le_refl _) (by simp)).trans f7.1) (Nat.le_refl _);go_wp2_with fail;exact DONE.o w7 I7' g7
    ·by_cases k3:K=117
     ·have e1:pk K=2:=by simp[pk,k3]
      rw[e1]at d0 I6 g6
      have HQ:Hd (j6 (K,T) c=[zk c]):=by show _=_;simp[j6,k3]
      go_wp2_with fail;refine(Mz c).mono ?_;rintro e w6 ⟨rfl,rfl⟩;go_wp2_with fail;refine(Uz w.heap.size I6.o (zk c) (by have:=HL.o;omega) g6.o.size).mono ?_;rintro e w7 ⟨rfl,I7,f7⟩
      have I7':Hd (yi w7 w.heap.size w.heap.size (jD (P.take (k+1)) c)):=by show yi _ _ _ _;rw[HT.o,HQ.o];exact I7
      have g7:Hd (Ch [] w w7):=Ch.ofBelow ((g6.o.below (Nat.le_refl _) (by simp)).trans f7.1) (Nat.le_refl _);go_wp2_with fail;exact DONE.o w7 I7' g7
     ·have e1:pk K=3:=by simp[pk,k1,k2,k3]
      rw[e1]at d0 I6 g6
      have HQ:Hd (j6 (K,T) c=[zu c]):=by show _=_;simp[j6,k1,k2,k3]
      go_wp2_with fail;refine(AX c).mono ?_;rintro e w6 ⟨rfl,rfl⟩;go_wp2_with fail;refine(Uz w.heap.size I6.o (zu c) (by have:=HL.o;omega) g6.o.size).mono ?_;rintro e w7 ⟨rfl,I7,f7⟩
      have I7':Hd (yi w7 w.heap.size w.heap.size (jD (P.take (k+1)) c)):=by show yi _ _ _ _;rw[HT.o,HQ.o];exact I7
      have g7:Hd (Ch [] w w7):=Ch.ofBelow ((g6.o.below (Nat.le_refl _) (by simp)).trans f7.1) (Nat.le_refl _);go_wp2_with fail;exact DONE.o w7 I7' g7
  ·obtain rfl:k=P.length:=by omega
   go_wp2_with fail;refine(Td w.heap.size I5.o g5.o.size).mono ?_;rintro e w7 ⟨rfl,f7⟩;rw[List.take_length];go_wp2_with fail;go_ret;exact⟨rfl,Ch.ofBelow ((g5.o.below (Nat.le_refl _) (by simp)).trans f7.1) (Nat.le_refl _)⟩
theorem UK:∀(sv:List (yb×(Nat->Nat)×Value)) (i:Nat) (p:yb×(Nat->Nat)×Value),sv[i]? =some p->
 (Zr sv)[i * 5]? =some (.int .u64 (p.2.1 0:Nat))/\(Zr sv)[i * 5+1]? =some (.int .u64 (p.2.1 1:Nat))/\(Zr sv)[i * 5+2]? =some (.int .u64 (p.2.1 2:Nat))/\(Zr sv)[i * 5+3]? =some (.int .u64 (p.2.1 3:Nat))/\(Zr sv)[i * 5+4]? =some p.2.2
 |[],i,p,h=>by simp at h
 |q:: sv,0,p,h=>by simp at h;subst h;simp[Zr]
 |q:: sv,i+1,p,h=>by
  have ih:=UK sv i p (by simpa using h)
  have e:∀t,(Zr (q:: sv))[(i+1) * 5+t]? =(Zr sv)[i * 5+t]? :=by
   intro t;rw[show(i+1) * 5+t=(i * 5+t)+5 from by omega];simp[Zr]
  exact⟨(e 0).trans ih.1,(e 1).trans ih.2.1,(e 2).trans ih.2.2.1,(e 3).trans ih.2.2.2.1,(e 4).trans ih.2.2.2.2⟩
theorem IY{R:List yb}(c:UInt8){k:Nat}(hk:k<R.length):yN (R.drop k) c=if zo R[k].cls c.toNat then jD R[k].o c else yN (R.drop (k+1)) c:=by
 rw[List.drop_eq_getElem_cons hk];simp only[yN]
theorem II{w:World}{F:Nat->Prop}{v:Value}{R:List yb}(hr:JO w F v R)(hR:∀r,r∈R->jf r.o)(hn:R.length<=450)(c:UInt8):
 Calls Tryz.prog 121 #[v,.int .u8 c.toNat] w fun e w'=>e= .returned (.string (zG (yN R c)))/\Ch [] w w':=by
 obtain⟨_,rv,rfl,ho,hp⟩:=hr;obtain⟨a,cp,rfl⟩:=zQ ho
 have hn':rv.length<=450:=by simpa using hn
 have HC:=zC c.toNat_lt;go_enter Tryz.func121,Tryz.ntmps121;go_wp2_with fail
 go_loopw [6,9] (fun _ i w5=>∃k:Nat,k<=rv.length/\i= .int .i64 k/\Hd (yN ((rv.map fun p=>p.1).drop k) c=yN (rv.map fun p=>p.1) c)/\Hd (Ch [] w w5)) (fun _ i _=>rv.length - (intOf i).toNat)
 case atStart=>exact⟨0,Nat.zero_le _,rfl,by show _=_;simp,Ch.refl _ _⟩
 case round=>
  obtain⟨k,hk,rfl,HB,g5⟩:=hrel
  by_cases hlt:(k:Int)<rv.length
  ·have hlt':k<rv.length:=by omega
   have HD:=zC (IY (R:=rv.map fun p=>p.1) c (k:=k) (by simpa using hlt'));obtain⟨g,rfl,hg⟩:=jO (zJ ho g5.o (by simp)) (by omega);obtain⟨h0,h1,h2,h3,h4⟩:=UK rv k rv[k] (by simp[hlt']);have d0:=hg _ _ h0;have d1:=hg _ _ h1;have d2:=hg _ _ h2;have d3:=hg _ _ h3;have d4:=hg _ _ h4;have hpk:=hp rv[k] (List.getElem_mem hlt');have hRk:=hR rv[k].1 (List.mem_map_of_mem (List.getElem_mem hlt'));rw[List.getElem_map]at HD;clear hg h0 h1 h2 h3 h4;generalize rv[k]=p at *;obtain⟨D,q,vp⟩:=p;simp only at d0 d1 d2 d3 d4 HD hpk hRk;obtain⟨hS,_,hparts⟩:=hpk;obtain⟨pa,pc,rfl⟩:=zQ hparts;have g6:=zC (g5.o.trans (Ch.alloc [] wr (.cells #[.int .u64 (q 0),.int .u64 (q 1),.int .u64 (q 2),.int .u64 (q 3),.slice pa D.o.length pc] 264)));have B6:=zE.new wr #[.int .u64 (q 0),.int .u64 (q 1),.int .u64 (q 2),.int .u64 (q 3),.slice pa D.o.length pc] 264;have HH:=Wg (w:=wr.alloc (.cells #[.int .u64 (q 0),.int .u64 (q 1),.int .u64 (q 2),.int .u64 (q 3),.slice pa D.o.length pc] 264)) hS c.toNat HC.o;rw[show zS q= .agg #[.int .u64 (q 0),.int .u64 (q 1),.int .u64 (q 2),.int .u64 (q 3)]from rfl]at HH;have HS:=zC hS;have HO:=zC (zJ hparts g6.o (by simp));clear hS hparts;go_wp2_with fail;refine HH.mono ?_;rintro e w7 ⟨rfl,g7⟩;have B7:=B6.kp g7 (by simp);have e4:=B7.cl 4 _ rfl;have HO7:=zC (zJ HO.o g7 (by simp));generalize hb:zo D.cls c.toNat=bb at *
   cases bb with
   |true=>
    have HD2:Hd (jD D.o c=yN (rv.map fun p=>p.1) c):=by show _=_;rw[<- HB.o,HD.o];rfl
    go_wp2_with fail;refine(SZ HO7.o hRk c).mono ?_;rintro e w8 ⟨rfl,g8⟩;go_wp2_with fail;go_ret;exact⟨by rw[<- HD2.o];rfl,g6.o.trans (g7.trans g8)⟩
   |false=>
    have HD2:Hd (yN ((rv.map fun p=>p.1).drop (k+1)) c=yN (rv.map fun p=>p.1) c):=by show _=_;rw[<- HB.o,HD.o];rfl
    go_wp2_with fail;exact⟨⟨k+1,by omega,by go_num,HD2,g6.o.trans g7⟩,by simp[intOf];omega⟩
  ·have HD:Hd (yN (rv.map fun p=>p.1) c=[c]):=by
    show _=_
    rw[<- HB.o,List.drop_of_length_le (by simp;omega)];rfl
   go_wp2_with fail;refine(LR c).mono ?_;rintro e w8 ⟨rfl,g8⟩;go_wp2_with fail;go_ret;exact⟨by rw[HD.o];rfl,g5.o.trans g8⟩
def YE(R:List yb)(k:Nat):Nat->List UInt8:=fun j=>if j<k then yN R (UInt8.ofNat j)else []
theorem Tv(R:List yb):je (YE R 0)=je (fun _=>[]):=KZ (fun j _=>by simp[YE])
theorem CJ(R:List yb):je (YE R 256)=je (fun j=>yN R (UInt8.ofNat j)):=KZ (fun j hj=>by simp[YE,hj])
theorem IX{w:World}{H:Nat}{R:List yb}{k:Nat}(hk:k<256)(h:zE w H (je (YE R k)) 219):
 zE (w.setCell ⟨H,k,none⟩ (.string (zG (yN R (UInt8.ofNat k))))) H (je (YE R (k+1))) 219:=by
 have:=h.set k (.string (zG (yN R (UInt8.ofNat k))));rw[Ou _ hk]at this;rw[KZ (g:=fun j=>if j=k then yN R (UInt8.ofNat k)else YE R k j)]
 ·exact this
 ·intro j _
  unfold YE
  by_cases e:j=k
  ·subst e;simp
  ·have:j<k+1↔j<k:=by omega
   simp[e,this]
theorem Im{w:World}{H:Nat}{R:List yb}{k:Nat}(hk:k<256)(h:zE w H (je (YE R k)) 219):∃v,w.cell? ⟨H,k,none⟩=some v:=⟨_,h.cl k _ (LO _ hk)⟩
theorem Hk:Tryz.zeroCells219=je (fun _=>[]):=by kernel_rfl
theorem Gd(w:World)(R:List yb):zE (w.alloc (.cells Tryz.zeroCells219 219)) w.heap.size (je (YE R 0)) 219:=by
 rw[Tv,<- Hk];exact zE.new w _ _
theorem JO.kp{w w':World}{F:Nat->Prop}{v:Value}{R:List yb}(h:JO w F v R)(g:Ch [] w w'):JO w' F v R:=by
 obtain⟨h1,rv,h2,h3,h4⟩:=h;exact⟨h1,rv,h2,zJ h3 g (by simp),fun p hp=>⟨(h4 p hp).1,(h4 p hp).2.1,zJ (h4 p hp).2.2 g (by simp)⟩⟩
theorem FV{w:World}{F:Nat->Prop}{v:Value}{R:List yb}(hr:JO w F v R)(hR:∀r,r∈R->jf r.o)(hn:R.length<=450):
 Calls Tryz.prog 86 #[v] w fun e w'=>e= .returned (.pointer (some ⟨w.heap.size,0,none⟩))/\zE w' w.heap.size (je fun j=>yN R (UInt8.ofNat j)) 219/\Ch [] w w':=by
 have B0:=zC (Gd w R);have g0:=zC (Ch.alloc [] w (.cells Tryz.zeroCells219 219));have HR:=zC hr;clear hr;go_enter Tryz.func86,Tryz.ntmps86;go_wp2_with fail;generalize w.alloc (.cells Tryz.zeroCells219 219)=w0 at *;generalize Value.agg Tryz.zeroCells219=zz at *
 go_loopw [4,7] (fun _ i w5=>∃k:Nat,k<=256/\i= .int .i64 k/\Hd (zE w5 w.heap.size (je (YE R k)) 219)/\Hd (Ch [] w w5)) (fun _ i _=>256 - (intOf i).toNat)
 case atStart=>exact⟨0,Nat.zero_le _,rfl,B0,g0⟩
 case round=>
  obtain⟨k,hk,rfl,B5,g5⟩:=hrel
  by_cases hlt:(k:Int)<256
  ·have hlt':k<256:=by omega
   have HK:Hd ((UInt8.ofNat k).toNat=k):=by show _=_;simp;omega
   have HC:∀W,Ch [] w W->Calls Tryz.prog 121 #[v,.int .u8 k] W fun e w'=>e= .returned (.string (zG (yN R (UInt8.ofNat k))))/\Ch [] W w':=by
    intro W hW;have:=II (w:=W) (F:=F) (v:=v) (R:=R) (HR.o.kp hW) hR hn (UInt8.ofNat k);rw[HK.o]at this;exact this
   have HCC:=zC HC;clear HC
   have hwr:IntKind.u8.wrap (k:Int)=k:=by
    show _=_
    simp[IntKind.wrap,IntKind.signed,IntKind.bits];omega
   go_wp2_with fail
   go_region_with ((go_at_call 121;refine(HCC.o _ (g5.o.trans (Ch.drew _ _))).mono ?_;rintro e w6 ⟨rfl,g6⟩;have B6:zE w6 w.heap.size (je (YE R k)) 219:=zE.kp (zE.kp B5.o (Ch.drew [] wr) (by simp)) g6 (by simp);obtain⟨ve6,e6⟩:=Im hlt' B6;have f6:=B6.fz k))
   all_goals
    have B7:=zC (IX hlt' B6);have g7:Hd (Ch [] w (w6.setCell ⟨w.heap.size,k,none⟩ (.string (zG (yN R (UInt8.ofNat k)))))):=(g5.o.trans ((Ch.drew _ _).trans g6)).setCell_new (Or.inr (Nat.le_refl _)) _;clear e6 f6 B6;generalize w6.setCell ⟨w.heap.size,k,none⟩ (.string (zG (yN R (UInt8.ofNat k))))=w7 at *;go_wp2_with fail;exact⟨⟨k+1,by omega,by go_num,B7,g7⟩,by simp[intOf];omega⟩
  ·obtain rfl:k=256:=by omega
   have B6:=zC (CJ R ▸ B5.o);go_wp2_with fail;go_ret;exact⟨rfl,B6.o,g5.o⟩
end Go.Proofs.YteobgfbgglfkbaaGreat
