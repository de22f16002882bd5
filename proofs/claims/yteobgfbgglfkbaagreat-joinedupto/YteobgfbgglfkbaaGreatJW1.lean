import Derived.Test.YteobgfbgglfkbaaGreatJQ1
import Derived.Test.YteobgfbgglfkbaaGreatJU6
set_option maxHeartbeats 3200000
set_option maxRecDepth 100000
namespace Go.Proofs.YteobgfbgglfkbaaGreat
open Go.RowKit
attribute [local go_sem ↓] Go.wp_at_zero Go.wp_at_succ
theorem VH{w w':World}(h:Below w.heap.size w w'):Ch [] w w':=⟨h.os,h.tape,h.output,h.size,fun k hk _=>h.block k hk⟩
theorem Ch.low{w w':World}(h:Ch [] w w'):Below w.heap.size w w':=h.below (Nat.le_refl _) (by simp)
def bJ:Prop:=∀w:World,Calls Tryz.prog 16 #[] w fun e w'=>e= .returned (.bool true)/\Ch [] w w'
theorem dp{A B C:List Int}{j:Nat}(h:C.take j=(A++B).take j){x:Int}(h1:C[j]? =some x)(h2:(A++B)[j]? =some x):C.take (j+1)=(A++B).take (j+1):=by
 obtain⟨l1,e1⟩:=List.getElem?_eq_some_iff.1 h1;obtain⟨l2,e2⟩:=List.getElem?_eq_some_iff.1 h2;rw[List.take_succ_eq_append_getElem l1,List.take_succ_eq_append_getElem l2,h,e1,e2]
theorem dv{w:World}{va vb vc:Value}{A B C:List Int}(ha:w.ownsRow 0 3 1 va A.length (A.map (Value.int .i64)))(hb:w.ownsRow 0 3 1 vb B.length (B.map (Value.int .i64)))(hc:w.ownsRow 0 3 1 vc C.length (C.map (Value.int .i64)))(lA:A.length<=1000)(lB:B.length<=1000):
 Calls Tryz.prog 20 #[va,vb,vc] w fun e w'=>e= .returned (.bool (decide (C=A++B)))/\Ch [] w w':=by
 obtain⟨aa,ka,rfl⟩:=zQ ha;obtain⟨ab,kb,rfl⟩:=zQ hb;obtain⟨ac,kc,rfl⟩:=zQ hc;have HA:=zC ha;have HB:=zC hb;have HC:=zC hc;clear ha hb hc
 have e0:IntKind.i64.wrap ((A.length:Int)+(B.length:Int))=(A.length:Int)+(B.length:Int):=by rw[IntKind.wrap_i64];omega
 by_cases hl:(C.length:Int)=(A.length:Int)+(B.length:Int)
 ·have hq:((C.length:Int) !=(A.length:Int)+(B.length:Int))=false:=by simp[hl]
  have hl1:C.length<=A.length+B.length:=by omega
  have hl2:A.length+B.length<=C.length:=by omega
  clear hl;go_enter Tryz.func20,Tryz.ntmps20;go_wp2_with fail;clear hq
  go_loopw [7] (fun iv w5=>∃j:Nat,iv= .int .i64 j/\j<=C.length/\Hd (C.take j=(A++B).take j/\Ch [] w w5)) (fun iv _=>C.length - (intOf iv).toNat)
  case atStart=>exact⟨0,rfl,Nat.zero_le _,by show _/\_;exact⟨by simp,Ch.refl _ _⟩⟩
  case round=>
   generalize wr=w5 at *;obtain⟨j,rfl,hj,H5⟩:=hrel
   have e1:IntKind.i64.wrap ((j:Int)+1)=((j+1:Nat):Int):=by rw[IntKind.wrap_i64];omega
   by_cases hlt:(j:Int)<C.length
   ·have hj2:j<C.length:=by omega
    have hj0:(0:Int)<=j:=by omega
    have RC:=zJ HC.o H5.o.2 (by simp)
    obtain⟨gc,hgc⟩:∃g,ac=some ⟨g,0,none⟩:=by
     rcases RC.2 with⟨_,h0⟩|⟨g,cap,cur,h,_⟩
     ·omega
     ·injection h with h
      exact⟨g,h⟩
    subst hgc;obtain⟨z,hz⟩:∃z,C[j]? =some z:=⟨_,List.getElem?_eq_getElem hj2⟩
    have cz:w5.cell? ⟨gc,j,none⟩=some (.int .i64 z):=by
     rw[RC.cellAt j (by omega)];simp[hz]
    by_cases hA:(j:Int)<A.length
    ·have hA2:j<A.length:=by omega
     have hA3:¬A.length<=j:=by omega
     have RA:=zJ HA.o H5.o.2 (by simp)
     obtain⟨ga,hga⟩:∃g,aa=some ⟨g,0,none⟩:=by
      rcases RA.2 with⟨_,h0⟩|⟨g,cap,cur,h,_⟩
      ·omega
      ·injection h with h
       exact⟨g,h⟩
     subst hga;obtain⟨x,hx⟩:∃z,A[j]? =some z:=⟨_,List.getElem?_eq_getElem hA2⟩
     have cx:w5.cell? ⟨ga,j,none⟩=some (.int .i64 x):=by
      rw[RA.cellAt j (by omega)];simp[hx]
     clear RA RC
     have hxAB:(A++B)[j]? =some x:=by rw[List.getElem?_append_left hA2];exact hx
     by_cases hxz:x=z
     ·subst hxz
      have HN:Hd (C.take (j+1)=(A++B).take (j+1)):=dp H5.o.1 hz hxAB;have HG:=zC H5.o.2
      have hne:(x !=x)=false:=by simp
      go_wp2_with fail;go_quiet (fail);go_wp2_with fail;go_quiet (fail);go_wp2_with fail;exact⟨⟨j+1,by simp,by omega,by show _/\_;exact⟨HN.o,HG.o.trans (Ch.drewN _ _ _)⟩⟩,by simp[intOf];omega⟩
     ·have hne:(x !=z)=true:=by simp[hxz]
      have HN:Hd (decide (C=A++B)=false):=by
       show _=_
       rw[decide_eq_false_iff_not];intro e;rw[<- e,hz]at hxAB;exact hxz (Option.some.inj hxAB).symm
      have HG:=zC H5.o.2;go_wp2_with fail;go_quiet (fail);go_wp2_with fail;go_ret;exact⟨by rw[HN.o];rfl,HG.o.trans (Ch.drewN _ _ _)⟩
    ·have hA2:¬j<A.length:=by omega
     have hA3:A.length<=j:=by omega
     have e2:IntKind.i64.wrap ((j:Int) - (A.length:Int))=((j - A.length:Nat):Int):=by rw[IntKind.wrap_i64];omega
     have hB2:j - A.length<B.length:=by omega
     have hB3:((j - A.length:Nat):Int)<B.length:=by omega
     have hB0:(0:Int)<=((j - A.length:Nat):Int):=by omega
     have RB:=zJ HB.o H5.o.2 (by simp)
     obtain⟨gb,hgb⟩:∃g,ab=some ⟨g,0,none⟩:=by
      rcases RB.2 with⟨_,h0⟩|⟨g,cap,cur,h,_⟩
      ·omega
      ·injection h with h
       exact⟨g,h⟩
     subst hgb;obtain⟨x,hx⟩:∃z,B[j - A.length]? =some z:=⟨_,List.getElem?_eq_getElem hB2⟩
     have cx:w5.cell? ⟨gb,j - A.length,none⟩=some (.int .i64 x):=by
      rw[RB.cellAt (j - A.length) (by omega)];simp[hx]
     clear RB RC
     have hxAB:(A++B)[j]? =some x:=by rw[List.getElem?_append_right (by omega)];exact hx
     by_cases hxz:x=z
     ·subst hxz
      have HN:Hd (C.take (j+1)=(A++B).take (j+1)):=dp H5.o.1 hz hxAB;have HG:=zC H5.o.2
      have hne:(x !=x)=false:=by simp
      go_wp2_with fail;go_quiet (fail);go_wp2_with fail;go_quiet (fail);go_wp2_with fail;exact⟨⟨j+1,by simp,by omega,by show _/\_;exact⟨HN.o,HG.o.trans (Ch.drewN _ _ _)⟩⟩,by simp[intOf];omega⟩
     ·have hne:(x !=z)=true:=by simp[hxz]
      have HN:Hd (decide (C=A++B)=false):=by
       show _=_
       rw[decide_eq_false_iff_not];intro e;rw[<- e,hz]at hxAB;exact hxz (Option.some.inj hxAB).symm
      have HG:=zC H5.o.2;go_wp2_with fail;go_quiet (fail);go_wp2_with fail;go_quiet (fail);go_wp2_with fail;go_ret;exact⟨by rw[HN.o];rfl,(HG.o.trans (Ch.drewN _ _ _)).trans (Ch.drewN _ _ _)⟩
   ·have e:j=C.length:=by omega
    subst e
    have HN:Hd (decide (C=A++B)=true):=by
     show _=_
     rw[decide_eq_true_iff];have:=H5.o.1;rw[List.take_length,List.take_of_length_le (by rw[List.length_append];omega)]at this;exact this
    have HG:=zC H5.o.2;clear H5;go_wp2_with fail;go_ret;exact⟨by rw[HN.o];rfl,HG.o⟩
 ·have hq:((C.length:Int) !=(A.length:Int)+(B.length:Int))=true:=by simp[hl]
  have HN:Hd (decide (C=A++B)=false):=by
   show _=_
   rw[decide_eq_false_iff_not];intro e;apply hl;rw[e,List.length_append];omega
  clear hl;go_enter Tryz.func20,Tryz.ntmps20;go_wp2_with fail;go_ret;exact⟨by rw[HN.o];rfl,Ch.refl _ _⟩
theorem bE{D:yt}{s:St}(h:jA au= .ok (D,s)):am=D:=
 match bk with
 |⟨_,h',_⟩=>(Prod.mk.inj (Except.ok.inj (h'.symm.trans h))).1
theorem bL(D:yt)(s:St)(h:jA au= .ok (D,s)):∀q,q∈D.asked->q.never=true:=by
 rw[<- bE h];clear h;intro q hq;simp only[am,List.mem_cons,List.not_mem_nil,or_false]at hq
 rcases hq with rfl|rfl <;>rfl
theorem bK{vs:List (Int×List UInt8)}(h:YI am am.asked vs):vs=[(1,[]),(2,[121])]:=by
 have hl:vs.length=2:=h.1
 match vs,hl with
 |[p,q],_=>
  have h1:=bZ (h.2 0 _ p rfl rfl).1;have h2:=bV (h.2 1 _ q rfl rfl).1;obtain⟨a,b⟩:=p;obtain⟨c,d⟩:=q;simp only at h1 h2;rw[h1.1,h1.2,h2.1,h2.2]
theorem bS:bJ:=by
 intro w;have CALL:=zC (BK (w:=w) au (Or.inr bL));go_enter Tryz.func16,Tryz.ntmps16;go_wp2_with fail;refine CALL.o.mono ?_;rintro e w1 ⟨B1,⟨h,_⟩|⟨_,D,s,v,vs,hr,rfl,ho,hv,_⟩⟩
 ·exact absurd bY h
 ·have hD:=bE hr
  clear hr;subst hD;have hvs:=bK hv;subst hvs;obtain⟨a,c,rfl⟩:=zQ ho;obtain⟨g,hg,hcells⟩:=jO ho (by simp);subst hg;have r0:w1.cell? ⟨g,0,none⟩=some (.int .i64 1):=hcells 0 _ rfl;have r1:w1.cell? ⟨g,1,none⟩=some (.string ⟨#[]⟩):=hcells 1 _ rfl;have r2:w1.cell? ⟨g,2,none⟩=some (.int .i64 2):=hcells 2 _ rfl;have r3:w1.cell? ⟨g,3,none⟩=some (.string ⟨#[121]⟩):=hcells 3 _ rfl
  have q1:∀W,Sem.run Tryz.prog (binOp .eql 33 (.agg #[.int .i64 1,.string ⟨#[]⟩]) (.agg #[.int .i64 1,.string ⟨#[]⟩])) W= .ok (.bool true) W:=fun W=>by kernel_rfl
  have q2:∀W,Sem.run Tryz.prog (binOp .eql 33 (.agg #[.int .i64 2,.string ⟨#[121]⟩]) (.agg #[.int .i64 2,.string ⟨#[121]⟩])) W= .ok (.bool true) W:=fun W=>by kernel_rfl
  have HB:=zC (VH B1);clear ho hv hcells B1 CALL;simp only[List.length_cons,List.length_nil];go_wp2_with fail;refine(Aj 0).mono ?_;rintro e w2 ⟨rfl,rfl⟩;go_wp2_with fail;go_ret;exact⟨rfl,HB.o⟩
end Go.Proofs.YteobgfbgglfkbaaGreat
