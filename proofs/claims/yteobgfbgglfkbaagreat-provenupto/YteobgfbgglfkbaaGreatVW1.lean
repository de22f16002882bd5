import Derived.Test.YteobgfbgglfkbaaGreatVQ1
import Derived.Test.YteobgfbgglfkbaaGreatVU6
set_option maxHeartbeats 800000
set_option maxRecDepth 100000
namespace Go.Proofs.YteobgfbgglfkbaaGreat
open Go.RowKit
attribute [local go_sem ↓] Go.wp_at_zero Go.wp_at_succ
theorem VH{w w':World}(h:Below w.heap.size w w'):Ch [] w w':=⟨h.os,h.tape,h.output,h.size,fun k hk _=>h.block k hk⟩
theorem Ch.low{w w':World}(h:Ch [] w w'):Below w.heap.size w w':=h.below (Nat.le_refl _) (by simp)
def bJ:Prop:=∀w:World,Calls Tryz.prog 16 #[] w fun e w'=>e= .returned (.bool true)/\Ch [] w w'
theorem bE{D:yt}{s:St}(h:jA au= .ok (D,s)):am=D:=
 match bk with
 |⟨_,h',_⟩=>(Prod.mk.inj (Except.ok.inj (h'.symm.trans h))).1
theorem bL(D:yt)(s:St)(h:jA au= .ok (D,s)):∀q,q∈D.asked->q.never=true:=by
 rw[<- bE h];clear h;intro q hq;simp only[am,List.mem_cons,List.not_mem_nil,or_false]at hq
 rcases hq with rfl|rfl <;>rfl
theorem bK{vs:List (Int×List UInt8)}(h:YI am am.asked vs):vs=[(1,[]),(2,[121])]:=by
 have hl:vs.length=2:=h.1
 match vs,hl with
 |[p,q],_=>
  have h1:=bZ (h.2 0 _ p rfl rfl).1;have h2:=bV (h.2 1 _ q rfl rfl).1;obtain⟨a,b⟩:=p;obtain⟨c,d⟩:=q;simp only at h1 h2;rw[h1.1,h1.2,h2.1,h2.2]
theorem bS:bJ:=by
 intro w;have CALL:=zC (BK (w:=w) au (Or.inr bL));go_enter Tryz.func16,Tryz.ntmps16;go_wp2_with fail;refine CALL.o.mono ?_;rintro e w1 ⟨B1,⟨h,_⟩|⟨_,D,s,v,vs,hr,rfl,ho,hv,_⟩⟩
 ·exact absurd bY h
 ·have hD:=bE hr
  clear hr;subst hD;have hvs:=bK hv;subst hvs;obtain⟨a,c,rfl⟩:=zQ ho;obtain⟨g,hg,hcells⟩:=jO ho (by simp);subst hg;have r0:w1.cell? ⟨g,0,none⟩=some (.int .i64 1):=hcells 0 _ rfl;have r1:w1.cell? ⟨g,1,none⟩=some (.string ⟨#[]⟩):=hcells 1 _ rfl;have r2:w1.cell? ⟨g,2,none⟩=some (.int .i64 2):=hcells 2 _ rfl;have r3:w1.cell? ⟨g,3,none⟩=some (.string ⟨#[121]⟩):=hcells 3 _ rfl
  have q1:∀W,Sem.run Tryz.prog (binOp .eql 33 (.agg #[.int .i64 1,.string ⟨#[]⟩]) (.agg #[.int .i64 1,.string ⟨#[]⟩])) W= .ok (.bool true) W:=fun W=>by kernel_rfl
  have q2:∀W,Sem.run Tryz.prog (binOp .eql 33 (.agg #[.int .i64 2,.string ⟨#[121]⟩]) (.agg #[.int .i64 2,.string ⟨#[121]⟩])) W= .ok (.bool true) W:=fun W=>by kernel_rfl
  have HB:=zC (VH B1);clear ho hv hcells B1 CALL;simp only[List.length_cons,List.length_nil];go_wp2_with fail;refine(Aj 0).mono ?_;rintro e w2 ⟨rfl,rfl⟩;go_wp2_with fail;go_ret;exact⟨rfl,HB.o⟩
end Go.Proofs.YteobgfbgglfkbaaGreat
