import Derived.Test.YteobgfbgglfkbaaGreatAP9
import Derived.Test.YteobgfbgglfkbaaGreatAP8
set_option maxHeartbeats 3200000
set_option maxRecDepth 100000
namespace Go.Proofs.YteobgfbgglfkbaaGreat
open Go.RowKit
attribute [local go_sem ↓] Go.wp_at_zero Go.wp_at_succ
theorem Dr:∀(sv:List (zH×Value)) (i:Nat) (p:zH×Value),sv[i]? =some p->
 (JH sv)[i * 5]? =some (.string p.1.name)/\(JH sv)[i * 5+1]? =some (.bool p.1.swap)/\(JH sv)[i * 5+2]? =some (.string p.1.one)/\(JH sv)[i * 5+3]? =some (.string p.1.two)/\(JH sv)[i * 5+4]? =some p.2
 |[],i,p,h=>by simp at h
 |q:: sv,0,p,h=>by simp at h;subst h;simp[JH]
 |q:: sv,i+1,p,h=>by
  have ih:=Dr sv i p (by simpa using h)
  have e:∀t,(JH (q:: sv))[(i+1) * 5+t]? =(JH sv)[i * 5+t]? :=by
   intro t;rw[show(i+1) * 5+t=(i * 5+t)+5 from by omega];simp[JH]
  exact⟨(e 0).trans ih.1,(e 1).trans ih.2.1,(e 2).trans ih.2.2.1,(e 3).trans ih.2.2.2.1,(e 4).trans ih.2.2.2.2⟩
theorem TE(Ds:List zH)(T:List UInt8){j:Nat}(hj:j<Ds.length):yH (Ds.take (j+1)) T=Jg Ds[j] (yH (Ds.take j) T):=by
 unfold yH;rw[List.take_succ_eq_append_getElem hj,List.foldl_append];rfl
theorem Bx{Ds:List zH}(h:∀D,D∈Ds->yR D)(hn:Ds.length<=3){T:List UInt8}(hT:T.length<=8589934592)(j:Nat):(yH (Ds.take j) T).length<=140737488355328:=by
 have h1:=Kv (Ds.take j) T 8589934592 (fun D hD=>h D (List.mem_of_mem_take hD)) hT
 have h0:(Ds.take j).length<=3:=by simp;omega
 have h2:16 ^ (Ds.take j).length<=16 ^ 3:=Nat.pow_le_pow_right (by omega) h0;have h3:16 ^ (Ds.take j).length * (8589934592+1)<=16 ^ 3 * (8589934592+1):=Nat.mul_le_mul_right _ h2
 have h4:16 ^ 3 * (8589934592+1)<=140737488355328:=by decide
 omega
theorem DI{w:World}{lo b d:Nat}{F:Nat->Prop}{vs vc va:Value}{sv:List (zH×Value)}{cv:List (zZ×Value)}{av:List (ze×Value)}(hp:jQ w lo b d F vs vc va sv cv av){i:Nat}(hi:i<cv.length)(hL:jM sv.length cv[i].1.scrubs)(hok:∀D,D∈(sv.map fun p=>p.1)->yR D)(T:List UInt8)(hT:T.length<=8589934592):
 Calls Tryz.prog 27 #[.pointer (some ⟨d,0,none⟩),.int .i64 i,.string (zG T)] w fun e w'=>e= .returned (.string (zG (yH (zt (sv.map fun p=>p.1) cv[i].1.scrubs) T)))/\Ch [] w w':=by
 obtain⟨a0,c0,rfl⟩:=zQ hp.rs;obtain⟨a1,c1,rfl⟩:=zQ hp.rc
 have hiI:(i:Int)<cv.length:=by omega
 have hcr:=hp.pc cv[i] (List.getElem_mem hi);obtain⟨gc,rfl,hcells⟩:=jO hp.rc (by omega);obtain⟨k0,k1⟩:=XC cv i cv[i] (by simp[hi]);have e0:=hcells _ _ k0;have e1:=hcells _ _ k1;have dS:=hp.blk.cl 0 _ rfl;have dC:=hp.blk.cl 1 _ rfl;clear k0 k1 hcells;generalize cv[i]=p at *;obtain⟨Cd,vl⟩:=p;simp only at hcr hL e0 e1 ⊢;obtain⟨nm,L⟩:=Cd;simp only at hcr hL e0 e1 ⊢;obtain⟨al,cl,rfl⟩:=zQ hcr.2;have hdok:=Va hok (L:=L) (by rw[List.length_map];exact hL)
 have hdlen:(zt (sv.map fun p=>p.1) L).length<=3:=by rw[YS];exact hL.1
 have hL3:=hL.1;have HP:=zC hp;have HCR:=zC hcr.2;clear hp hcr;have B0:=zC (zE.new w #[.string nm,.slice al L.length cl] 52);have g0:=zC (Ch.alloc [] w (.cells #[.string nm,.slice al L.length cl] 52));go_enter Tryz.func27,Tryz.ntmps27;go_wp2_with fail;generalize w.alloc (.cells #[.string nm,.slice al L.length cl] 52)=w0 at *;generalize hH:w.heap.size=H at *;clear e0 e1 dS dC
 go_loopw [2,8] (fun s i w5=>∃j:Nat,j<=L.length/\s= .string (zG (yH ((zt (sv.map fun p=>p.1) L).take j) T))/\i= .int .i64 j/\Hd (zE w5 H #[.string nm,.slice al L.length cl] 52)/\Hd (Ch [] w w5)) (fun _ i _=>L.length - (intOf i).toNat)
 case atStart=>exact⟨0,Nat.zero_le _,rfl,rfl,B0,g0⟩
 case round=>
  obtain⟨j,hj,rfl,rfl,B5,g5⟩:=hrel;have b1:=B5.o.cl 1 _ rfl
  by_cases hlt:(j:Int)<L.length
  ·have hlt':j<L.length:=by omega
   have hix:=hL.2 L[j] (List.getElem_mem hlt');obtain⟨t,ht⟩:∃t:Nat,L[j]=t:=⟨L[j].toNat,by omega⟩
   have ht':t<sv.length:=by omega
   have htS:(t:Int)<sv.length:=by omega
   have HT:=zC (TE (zt (sv.map fun p=>p.1) L) T (j:=j) (by rw[YS];exact hlt'))
   have HSA:Hd ((zt (sv.map fun p=>p.1) L)[j]'(by rw[YS];exact hlt')=sv[t].1):=by
    show _=_
    simp only[zt,List.getElem_map];exact UY (by rw[ht];simp[ht'])
   rw[HSA.o]at HT;obtain⟨g,hga,hg⟩:=jO HCR.o (by omega);obtain⟨g',hga',hg'⟩:=jO HP.o.rs (by omega)
   have hKS:∀W,Ch [] wr W->W.cell? ⟨d,0,none⟩=some (.slice a0 sv.length c0)/\W.cell? ⟨H,1,none⟩=some (.slice al L.length cl)/\W.cell? ⟨g,j,none⟩=some (.int .i64 t)/\W.cell? ⟨g',t * 5,none⟩=some (.string sv[t].1.name)/\W.cell? ⟨g',t * 5+1,none⟩=some (.bool sv[t].1.swap)/\W.cell? ⟨g',t * 5+2,none⟩=some (.string sv[t].1.one)/\W.cell? ⟨g',t * 5+3,none⟩=some (.string sv[t].1.two)/\W.cell? ⟨g',t * 5+4,none⟩=some sv[t].2:=by
    intro W gW;have G:Ch [] w W:=g5.o.trans gW;obtain⟨gg,e1,hc⟩:=jO (zJ HCR.o G (by simp)) (by omega);obtain⟨gg',e2,hc'⟩:=jO (zJ HP.o.rs G (by simp)) (by omega)
    obtain rfl:g=gg:=by rw[hga]at e1;injection e1 with e1;injection e1
    obtain rfl:g'=gg':=by rw[hga']at e2;injection e2 with e2;injection e2
    obtain⟨k0,k1,k2,k3,k4⟩:=Dr sv t sv[t] (by simp[ht']);exact⟨(HP.o.blk.kp G (by simp)).cl 0 _ rfl,(B5.o.kp gW (by simp)).cl 1 _ rfl,hc j _ (by simp[hlt',ht]),hc' _ _ k0,hc' _ _ k1,hc' _ _ k2,hc' _ _ k3,hc' _ _ k4⟩
   have hD:=hok sv[t].1 (List.mem_map_of_mem (List.getElem_mem ht'));have hpr:=HP.o.ps sv[t] (List.getElem_mem ht');subst hga hga';clear HSA hg hg' ht hix;generalize sv[t]=p at *;obtain⟨D,vr⟩:=p;simp only at hKS hD hpr HT;have r1:=Bx hdok hdlen hT j;have r2:=Bx hdok hdlen hT (j+1);rw[HT.o]at r2
   have CLN:Hd (∀W,Ch [] w W->Calls Tryz.prog 47 #[.agg #[.string D.name,.bool D.swap,.string D.one,.string D.two,vr],.string (zG (yH ((zt (sv.map fun p=>p.1) L).take j) T))] W fun e w'=>e= .returned (.string (zG (yH ((zt (sv.map fun p=>p.1) L).take (j+1)) T)))/\Ch [] W w'):=by
    intro W gW;rw[HT.o];exact Ru (F:=F) (hpr.frame (fun k hk=>gW.block k (HP.o.f k hk).2.1 (by simp)) (fun _ h=>h)) (fun k hk=>Nat.lt_of_lt_of_le (HP.o.f k hk).2.1 gW.size) hD _ r1 r2
   have KS:=zC hKS;clear hKS hpr hD r1 r2 HT;obtain⟨s1,s2,s3,s4,s5,s6,s7,s8⟩:=KS.o wr (Ch.refl _ _);generalize yH ((zt (sv.map fun p=>p.1) L).take j) T=X at *;go_wp2_with fail
   go_region_held3 (fun W=>W.cell? ⟨d,0,none⟩=some (.slice (some ⟨g',0,none⟩) sv.length c0)/\W.cell? ⟨H,1,none⟩=some (.slice (some ⟨g,0,none⟩) L.length cl)/\W.cell? ⟨g,j,none⟩=some (.int .i64 t)/\W.cell? ⟨g',t * 5,none⟩=some (.string D.name)/\W.cell? ⟨g',t * 5+1,none⟩=some (.bool D.swap)/\W.cell? ⟨g',t * 5+2,none⟩=some (.string D.one)/\W.cell? ⟨g',t * 5+3,none⟩=some (.string D.two)/\W.cell? ⟨g',t * 5+4,none⟩=some vr) (first|(exact KS.o _ (Ch.drew _ _))|(exact KS.o _ c6)) (first|(go_at_call 47;refine(CLN.o _ (g5.o.trans (Ch.drew _ _))).mono ?_;rintro e w6 ⟨rfl,g6⟩;have c6:Ch [] wr w6:=(Ch.drew _ _).trans g6))
   all_goals
    go_wp2_with fail;exact⟨⟨j+1,by omega,rfl,by go_num,B5.o.kp c6 (by simp),g5.o.trans c6⟩,by simp[intOf];omega⟩
  ·have HE:Hd ((zt (sv.map fun p=>p.1) L).take j=zt (sv.map fun p=>p.1) L):=List.take_of_length_le (by rw[YS];omega)
   go_wp2_with fail;go_ret;exact⟨by rw[HE.o];rfl,g5.o⟩
theorem Aj{w:World}(e:Int):Calls Tryz.prog 10 #[.int .i64 e] w fun r w'=>r= .returned (.int .i64 e)/\w'=w:=by
 go_enter Tryz.func10,Tryz.ntmps10;go_wp2_with fail;go_ret;exact⟨rfl,rfl⟩
end Go.Proofs.YteobgfbgglfkbaaGreat
