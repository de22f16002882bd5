import Derived.Test.YteobgfbgglfkbaaGreatJP6
import Derived.Test.YteobgfbgglfkbaaGreatJP7
set_option maxHeartbeats 3200000
set_option maxRecDepth 100000
namespace Go.Proofs.YteobgfbgglfkbaaGreat
open Go.RowKit
attribute [local go_sem ↓] Go.wp_at_zero Go.wp_at_succ
theorem T9{w:World}(e a:Int):Calls Tryz.prog 22 #[.agg #[.int .i64 e,.int .i64 a]] w fun r w'=>r= .returned (.tuple #[.int .i64 e,.int .i64 a])/\Ch [] w w':=by
 go_enter Tryz.func22,Tryz.ntmps22;go_wp2_with fail;go_quiet (fail);go_wp2_with fail;go_ret2;exact⟨rfl,(Ch.alloc _ _ _).trans (Ch.drewN _ _ _)⟩
theorem bj{w:World}{b:Nat}{vs:Value}{sv:List (zZ×Value)}(hc:w.cell? ⟨b,1,none⟩=some vs)(hb:b<w.heap.size)(ho:w.ownsRow 0 79 2 vs sv.length (jI sv))(hn:sv.length<=500)(x:ByteArray):
 Calls Tryz.prog 23 #[.pointer (some ⟨b,0,none⟩),.string x] w fun e w'=>e= .returned (.int .i64 (zy (sv.map fun p=>p.1.name) x))/\Ch [] w w':=by
 have hc':(w.alloc (.cells #[.string x] 9)).cell? ⟨b,1,none⟩=some vs:=by rw[World.cell?_alloc_past _ _ _ hb];exact hc
 have hne:¬b=w.heap.size:=by omega
 have ho':=zJ ho (Ch.alloc [] w (.cells #[.string x] 9)) (by simp)
 have hB:(w.alloc (.cells #[.string x] 9)).cell? ⟨w.heap.size,0,none⟩=some (.string x):=by simp only[World.cell?,zr];rfl
 go_enter Tryz.func23,Tryz.ntmps23;go_wp2_with fail;refine(GV ho' hn hB (by simp)).mono ?_;rintro e w1 ⟨rfl,g1⟩;go_wp2_with fail;go_ret;exact⟨rfl,(Ch.alloc _ _ _).trans g1⟩
def Ye(C:List zZ)(i:Int):List Int:=match C[i.toNat]? with|some c=>c.scrubs|none=>[]
def aw(D:yt)(x:ByteArray)(T:List UInt8):List UInt8×Int×Int:=
 if zy (D.chains.map fun c=>c.name) x<0 then([],5,0)
 else(yH (zt D.scrubs (Ye D.chains (zy (D.chains.map fun c=>c.name) x))) T,0,0)
def ap(S x:ByteArray)(T:List UInt8):List UInt8×Int×Int:=
 if yX S=(0,0)then(match jA S with|.ok (D,_)=>aw D x T|.error _=>([],0,0))else([],(yX S).1,(yX S).2)
theorem bH{S x:ByteArray}{T:List UInt8}{D:yt}{s:St}(h:yX S=(0,0))(hr:jA S= .ok (D,s)):ap S x T=aw D x T:=by
 unfold ap;rw[if_pos h,hr]
theorem bU{S x:ByteArray}{T:List UInt8}(h:¬yX S=(0,0)):ap S x T=([],(yX S).1,(yX S).2):=by
 unfold ap;rw[if_neg h]
theorem bh{S:List zH}{L:List Int}(h:∀D,D∈S->yR D)(hL:jM S.length L){T:List UInt8}(hT:T.length<=8589934592):(yH (zt S L) T).length<=140737488355328:=by
 have h1:=Kv (zt S L) T 8589934592 (Va h hL) hT;rw[YS]at h1;have h2:16 ^ L.length<=16 ^ 3:=Nat.pow_le_pow_right (by omega) hL.1;have h3:16 ^ L.length * (8589934592+1)<=16 ^ 3 * (8589934592+1):=Nat.mul_le_mul_right _ h2
 have h4:16 ^ 3 * (8589934592+1)<=140737488355328:=by decide
 omega
theorem bl{w:World}(S x:ByteArray)(T:List UInt8)(hT:T.length<=8589934592):Calls Tryz.prog 8 #[.string S,.string x,.string (zG T)] w fun e w'=>e= .returned (.tuple #[.string (zG (ap S x T).1),.int .i64 (ap S x T).2.1,.int .i64 (ap S x T).2.2])/\Below w.heap.size w w':=by
 go_enter Tryz.func8,Tryz.ntmps8;go_wp2_with fail;refine(PD S).mono ?_;rintro e w1 ⟨B1,_,_,_,rfl,⟨x0,n0,c0,rfl⟩,⟨x1,n1,c1,rfl⟩,⟨x2,n2,c2,rfl⟩,hgood⟩;have HGOOD:=zC hgood;clear hgood;have B1x:=zC B1;have zB1:=B1.size;clear B1;generalize hC:yX S=C at *;obtain⟨C1,C2⟩:=C;have HC:=zC hC;clear hC;have A1:=zE.new w1 #[.slice x0 n0 c0,.slice x1 n1 c1,.slice x2 n2 c2] 65;have g1:=Ch.alloc [] w1 (.cells #[.slice x0 n0 c0,.slice x1 n1 c1,.slice x2 n2 c2] 65)
 have z1:(w1.alloc (.cells #[.slice x0 n0 c0,.slice x1 n1 c1,.slice x2 n2 c2] 65)).heap.size=w1.heap.size+1:=by simp
 have A2:=A1.kp (Ch.alloc [] _ (.cells #[.int .i64 C1,.int .i64 C2] 68)) (by simp);have F2:=zE.new (w1.alloc (.cells #[.slice x0 n0 c0,.slice x1 n1 c1,.slice x2 n2 c2] 65)) #[.int .i64 C1,.int .i64 C2] 68;have g2:=g1.trans (Ch.alloc [] _ (.cells #[.int .i64 C1,.int .i64 C2] 68));rw[z1]at F2;have A2x:=zC A2;have F2x:=zC F2;have g2x:=zC g2;clear A1 g1 z1 A2 F2 g2
 by_cases hc:C1=0
 ·have q:(C1 !=0)=false:=by simp[hc]
  have hC2:C2=0:=Xv HC.o hc;subst hc hC2;obtain⟨s',F,sv,cv,av,hr,hp⟩:=HGOOD.o rfl;have hok:=Ln HC.o hr;have HA:=zC (bH (x:=x) (T:=T) HC.o hr);clear hr HGOOD q;obtain⟨⟨okS,okC⟩,okN⟩:=hok;simp only[List.mem_map]at okS okC;simp only[List.length_map]at okN;obtain⟨a5,b5,e5⟩:=zQ hp.rs
  injection e5 with e51 e52 e53
  subst e51 e52 e53;obtain⟨a6,b6,e6⟩:=zQ hp.rc
  injection e6 with e61 e62 e63
  subst e61 e62 e63;have HP2:=zC (hp.kp g2x.o (by simp));clear hp
  have zz:((w1.alloc (.cells #[.slice x0 sv.length c0,.slice x1 cv.length c1,.slice x2 n2 c2] 65)).alloc (.cells #[.int .i64 0,.int .i64 0] 68)).heap.size=w1.heap.size+2:=by simp
  go_wp2_with fail;generalize (w1.alloc (.cells #[.slice x0 sv.length c0,.slice x1 cv.length c1,.slice x2 n2 c2] 65)).alloc (.cells #[.int .i64 0,.int .i64 0] 68)=w2 at *;refine(bj (A2x.o.cl 1 _ rfl) (by omega) HP2.o.rc (by omega) x).mono ?_;rintro e w3 ⟨rfl,g3⟩;have G3:=zC (g2x.o.trans g3);have A3:=zC (A2x.o.kp g3 (by simp));have HP3:=zC (HP2.o.kp g3 (by simp))
  have HI:Hd (zy ((cv.map fun p=>p.1).map fun c=>c.name) x=zy (cv.map fun p=>p.1.name) x):=by
   show _=_
   rw[List.map_map];rfl
  have HB3:Hd (Below w.heap.size w w3):=B1x.o.trans (G3.o.below zB1 (by simp));clear A2x F2x g2x HP2 zz g3 B1x
  by_cases hix:zy (cv.map fun p=>p.1.name) x<0
  ·have HA2:Hd (ap S x T=([],5,0)):=by
    show _=_
    rw[HA.o];unfold aw;rw[HI.o,if_pos hix]
   generalize zy (cv.map fun p=>p.1.name) x=ix at *;go_wp2_with fail;go_ret3;exact⟨by rw[HA2.o];rfl,HB3.o⟩
  ·have hlt:=(Dv hix).2
   rw[List.length_map]at hlt
   have HA2:Hd (ap S x T=(yH (zt (sv.map fun p=>p.1) (Ye (cv.map fun p=>p.1) (zy (cv.map fun p=>p.1.name) x))) T,0,0)):=by
    show _=_
    rw[HA.o];unfold aw;rw[HI.o,if_neg hix]
   generalize zy (cv.map fun p=>p.1.name) x=ix at *;obtain⟨i,rfl⟩:∃i:Nat,ix=i:=⟨ix.toNat,by omega⟩
   have hi:i<cv.length:=by omega
   have hiI:(i:Int)<cv.length:=by omega
   have HCA:Hd (Ye (cv.map fun p=>p.1) (i:Int)=cv[i].1.scrubs):=by
    show _=_
    simp[Ye,hi]
   rw[HCA.o]at HA2;have hcok:=okC cv[i].1 ⟨cv[i],List.getElem_mem hi,rfl⟩;simp only[List.length_map]at hcok;have hcr:=HP3.o.pc cv[i] (List.getElem_mem hi);obtain⟨gc,hgc,hcells⟩:=jO HP3.o.rc (by omega);obtain⟨k0,k1⟩:=XC cv i cv[i] (by simp[hi])
   have hKS:∀W,Ch [] w3 W->W.cell? ⟨w1.heap.size,0,none⟩=some (.slice x0 sv.length c0)/\W.cell? ⟨w1.heap.size,1,none⟩=some (.slice x1 cv.length c1)/\W.cell? ⟨w1.heap.size,2,none⟩=some (.slice x2 n2 c2)/\W.cell? ⟨gc,i * 2,none⟩=some (.string cv[i].1.name)/\W.cell? ⟨gc,i * 2+1,none⟩=some cv[i].2:=by
    intro W gW;obtain⟨gc',hgc',hcells'⟩:=jO (zJ HP3.o.rc gW (by simp)) (by omega)
    obtain rfl:gc=gc':=by rw[hgc]at hgc';injection hgc' with e;injection e
    have A:=A3.o.kp gW (by simp);exact⟨A.cl 0 _ rfl,A.cl 1 _ rfl,A.cl 2 _ rfl,hcells' _ _ k0,hcells' _ _ k1⟩
   clear HCA k0 k1 hcells;generalize cv[i]=p at *;obtain⟨Cd,vs⟩:=p;simp only at hcok hcr hKS HA2
   have okS':∀D,D∈(sv.map fun p=>p.1)->yR D:=by
    intro D hD;rw[List.mem_map]at hD;exact okS D hD
   have hroom:=bh okS' (by rw[List.length_map];exact hcok) hT;have hdsok:=Va okS' (L:=Cd.scrubs) (by rw[List.length_map];exact hcok)
   have NEWC:Hd (∀W,Ch [] w3 W->Calls Tryz.prog 24 #[.agg #[.slice x0 sv.length c0,.slice x1 cv.length c1,.slice x2 n2 c2],.agg #[.string Cd.name,vs]] W fun e w'=>∃pv ev,e= .returned (.agg #[pv,ev])/\j5 w' (zt (sv.map fun p=>p.1) Cd.scrubs) 0 pv ev/\Ch [] W w'):=by
    intro W gW;have hpW:=HP3.o.kp gW (by simp);exact bm ⟨_,_,_,rfl⟩ ⟨_,_,_,rfl⟩ hpW.rs hpW.ps (hcr.frame (fun k hk=>gW.block k (HP3.o.f k hk).2.1 (by simp)) (fun _ h=>h)) (fun p hp=>okS' p.1 (List.mem_map_of_mem hp)) hcok
   have TXT:Hd (∀W pv ev,j5 W (zt (sv.map fun p=>p.1) Cd.scrubs) 0 pv ev->Calls Tryz.prog 25 #[.agg #[pv,ev],.string (zG T)] W fun e w'=>e= .returned (.string (zG (yH (zt (sv.map fun p=>p.1) Cd.scrubs) T)))/\Ch [] W w'):=
    fun W pv ev h=>bO h hdsok (by rw[YS];exact hcok.1) T (by omega) hroom
   generalize yH (zt (sv.map fun p=>p.1) Cd.scrubs) T=R at *;have KS:=zC hKS;clear hKS okS okC okS' hcr hcok hroom hdsok HP3;subst hgc;obtain⟨s1,s2,s3,s4,s5⟩:=KS.o w3 (Ch.refl _ _);go_wp2_with fail
   go_region_held3 (fun W=>W.cell? ⟨w1.heap.size,0,none⟩=some (.slice x0 sv.length c0)/\W.cell? ⟨w1.heap.size,1,none⟩=some (.slice (some ⟨gc,0,none⟩) cv.length c1)/\W.cell? ⟨w1.heap.size,2,none⟩=some (.slice x2 n2 c2)/\W.cell? ⟨gc,i * 2,none⟩=some (.string Cd.name)/\W.cell? ⟨gc,i * 2+1,none⟩=some vs) (first|(exact KS.o _ (Ch.drew _ _))|(exact KS.o _ c5)|(exact KS.o _ c4)) (first|(go_at_call 24;refine(NEWC.o _ (Ch.drew _ _)).mono ?_;rintro e w4 ⟨pv4,ev4,rfl,l4,g4⟩;have c4:Ch [] w3 w4:=(Ch.drew _ _).trans g4;have L4:=zC l4;clear l4)|(go_at_call 25;refine(TXT.o _ _ _ L4.o).mono ?_;rintro e w5 ⟨rfl,g5⟩;have c5:Ch [] w3 w5:=c4.trans g5))
   all_goals
    go_wp2_with fail;go_ret3;exact⟨by rw[HA2.o];rfl,HB3.o.trans (c5.below HB3.o.size (by simp))⟩
 ·have q:(C1 !=0)=true:=by simp[hc]
  have HA:Hd (ap S x T=([],C1,C2)):=by
   show _=_
   rw[bU (by rw[HC.o];intro e;injection e with e _;exact hc e),HC.o]
  clear hc;go_wp2_with fail;refine(T9 C1 C2).mono ?_;rintro e w3 ⟨rfl,g3⟩;go_wp2_with fail;go_ret3;exact⟨by rw[HA.o];rfl,B1x.o.trans ((g2x.o.trans g3).below zB1 (by simp))⟩
end Go.Proofs.YteobgfbgglfkbaaGreat
