import Derived.Test.YteobgfbgglfkbaaGreatJP6
import Derived.Test.YteobgfbgglfkbaaGreatJP7
namespace Go.Proofs.YteobgfbgglfkbaaGreat
open Go.RowKit
attribute [local go_sem ↓] Go.wp_at_zero Go.wp_at_succ
set_option maxHeartbeats 800000 in
theorem zGs{w:World}(e a:Int):Calls Tryz.prog 22 #[.agg #[.int .i64 e,.int .i64 a]] w fun r w'=>r= .returned (.tuple #[.int .i64 e,.int .i64 a])∧Ch [] w w':=by
 go_enter Tryz.func22,Tryz.ntmps22;go_wp2_with fail;go_quiet (fail);go_wp2_with fail;go_ret2;exact ⟨rfl,(Ch.alloc _ _ _).trans (Ch.drewN _ _ _)⟩
set_option maxHeartbeats 800000 in
theorem zFd{w:World}{b:Nat}{vs:Value}{sv:List (zAQ×Value)}(hc:w.cell? ⟨b,1,none⟩=some vs)(hb:b<w.heap.size)(ho:w.ownsRow 0 79 2 vs sv.length (zAR sv))(hn:sv.length≤500)(x:ByteArray):
  Calls Tryz.prog 23 #[.pointer (some ⟨b,0,none⟩),.string x] w fun e w'=>e= .returned (.int .i64 (zAI (sv.map fun p=>p.1.name) x))∧Ch [] w w':=by
 have hc':(w.alloc (.cells #[.string x] 9)).cell? ⟨b,1,none⟩=some vs:=by rw [World.cell?_alloc_past _ _ _ hb];exact hc
 have hne:¬b=w.heap.size:=by omega
 have ho':=zAB ho (Ch.alloc [] w (.cells #[.string x] 9)) (by simp)
 have hB:(w.alloc (.cells #[.string x] 9)).cell? ⟨w.heap.size,0,none⟩=some (.string x):=by simp only [World.cell?,zAH];rfl
 go_enter Tryz.func23,Tryz.ntmps23;go_wp2_with fail;refine (zER ho' hn hB (by simp)).mono ?_;rintro e w1 ⟨rfl,g1⟩;go_wp2_with fail;go_ret;exact ⟨rfl,(Ch.alloc _ _ _).trans g1⟩
def zCO(C:List zAQ)(i:Int):List Int:=match C[i.toNat]? with | some c=>c.scrubs | none=>[]
def zHQ(D:PolD)(x:ByteArray)(T:List UInt8):List UInt8×Int×Int:=
 if zAI (D.chains.map fun c=>c.name) x<0 then ([],5,0)
 else (zAh (zAG D.scrubs (zCO D.chains (zAI (D.chains.map fun c=>c.name) x))) T,0,0)
def zCc(S x:ByteArray)(T:List UInt8):List UInt8×Int×Int:=
 if zAg S=(0,0) then (match polR S with | .ok (D,_)=>zHQ D x T | .error _=>([],0,0)) else ([],(zAg S).1,(zAg S).2)
theorem zGH{S x:ByteArray}{T:List UInt8}{D:PolD}{s:St}(h:zAg S=(0,0))(hr:polR S= .ok (D,s)):zCc S x T=zHQ D x T:=by
 unfold zCc;rw [if_pos h,hr]
theorem zMg{S x:ByteArray}{T:List UInt8}(h:¬zAg S=(0,0)):zCc S x T=([],(zAg S).1,(zAg S).2):=by
 unfold zCc;rw [if_neg h]
theorem zMG{S:List zAE}{L:List Int}(h:∀D,D∈S→zAb D)(hL:zBI S.length L){T:List UInt8}(hT:T.length≤8589934592):(zAh (zAG S L) T).length≤140737488355328:=by
 have h1:=zF5 (zAG S L) T 8589934592 (zC0 h hL) hT;rw [zB5] at h1;have h2:16 ^ L.length≤16 ^ 3:=Nat.pow_le_pow_right (by omega) hL.1;have h3:16 ^ L.length * (8589934592+1)≤16 ^ 3 * (8589934592+1):=Nat.mul_le_mul_right _ h2
 have h4:16 ^ 3 * (8589934592+1)≤140737488355328:=by decide
 omega
set_option maxRecDepth 100000 in
set_option maxHeartbeats 3200000 in
theorem zHM{w:World}(S x:ByteArray)(T:List UInt8)(hT:T.length≤8589934592):Calls Tryz.prog 8 #[.string S,.string x,.string (str T)] w fun e w'=>e= .returned (.tuple #[.string (str (zCc S x T).1),.int .i64 (zCc S x T).2.1,.int .i64 (zCc S x T).2.2])∧Below w.heap.size w w':=by
 go_enter Tryz.func8,Tryz.ntmps8;go_wp2_with fail;refine (zIw S).mono ?_;rintro e w1 ⟨B1,_,_,_,rfl,⟨x0,n0,c0,rfl⟩,⟨x1,n1,c1,rfl⟩,⟨x2,n2,c2,rfl⟩,hgood⟩;have HGOOD:=hide hgood;clear hgood;have B1x:=hide B1;have zB1:=B1.size;clear B1;generalize hC:zAg S=C at *;obtain ⟨C1,C2⟩:=C;have HC:=hide hC;clear hC;have A1:=zAD.new w1 #[.slice x0 n0 c0,.slice x1 n1 c1,.slice x2 n2 c2] 65;have g1:=Ch.alloc [] w1 (.cells #[.slice x0 n0 c0,.slice x1 n1 c1,.slice x2 n2 c2] 65)
 have z1:(w1.alloc (.cells #[.slice x0 n0 c0,.slice x1 n1 c1,.slice x2 n2 c2] 65)).heap.size=w1.heap.size+1:=by simp
 have A2:=A1.keep (Ch.alloc [] _ (.cells #[.int .i64 C1,.int .i64 C2] 68)) (by simp);have F2:=zAD.new (w1.alloc (.cells #[.slice x0 n0 c0,.slice x1 n1 c1,.slice x2 n2 c2] 65)) #[.int .i64 C1,.int .i64 C2] 68;have g2:=g1.trans (Ch.alloc [] _ (.cells #[.int .i64 C1,.int .i64 C2] 68));rw [z1] at F2;have A2x:=hide A2;have F2x:=hide F2;have g2x:=hide g2;clear A1 g1 z1 A2 F2 g2
 by_cases hc:C1=0
 ·have q:(C1 !=0)=false:=by simp [hc]
  have hC2:C2=0:=zDa HC.out hc;subst hc hC2;obtain ⟨s',F,sv,cv,av,hr,hp⟩:=HGOOD.out rfl;have hok:=zJq HC.out hr;have HA:=hide (zGH (x:=x) (T:=T) HC.out hr);clear hr HGOOD q;obtain ⟨⟨okS,okC⟩,okN⟩:=hok;simp only [List.mem_map] at okS okC;simp only [List.length_map] at okN;obtain ⟨a5,b5,e5⟩:=zAC hp.rs
  injection e5 with e51 e52 e53
  subst e51 e52 e53;obtain ⟨a6,b6,e6⟩:=zAC hp.rc
  injection e6 with e61 e62 e63
  subst e61 e62 e63;have HP2:=hide (hp.keep g2x.out (by simp));clear hp
  have zz:((w1.alloc (.cells #[.slice x0 sv.length c0,.slice x1 cv.length c1,.slice x2 n2 c2] 65)).alloc (.cells #[.int .i64 0,.int .i64 0] 68)).heap.size=w1.heap.size+2:=by simp
  go_wp2_with fail;generalize (w1.alloc (.cells #[.slice x0 sv.length c0,.slice x1 cv.length c1,.slice x2 n2 c2] 65)).alloc (.cells #[.int .i64 0,.int .i64 0] 68)=w2 at *;refine (zFd (A2x.out.cell 1 _ rfl) (by omega) HP2.out.rc (by omega) x).mono ?_;rintro e w3 ⟨rfl,g3⟩;have G3:=hide (g2x.out.trans g3);have A3:=hide (A2x.out.keep g3 (by simp));have HP3:=hide (HP2.out.keep g3 (by simp))
  have HI:Hid (zAI ((cv.map fun p=>p.1).map fun c=>c.name) x=zAI (cv.map fun p=>p.1.name) x):=by
   show _=_
   rw [List.map_map];rfl
  have HB3:Hid (Below w.heap.size w w3):=B1x.out.trans (G3.out.below zB1 (by simp));clear A2x F2x g2x HP2 zz g3 B1x
  by_cases hix:zAI (cv.map fun p=>p.1.name) x<0
  ·have HA2:Hid (zCc S x T=([],5,0)):=by
    show _=_
    rw [HA.out];unfold zHQ;rw [HI.out,if_pos hix]
   generalize zAI (cv.map fun p=>p.1.name) x=ix at *;go_wp2_with fail;go_ret3;exact ⟨by rw [HA2.out];rfl,HB3.out⟩
  ·have hlt:=(zFH hix).2
   rw [List.length_map] at hlt
   have HA2:Hid (zCc S x T=(zAh (zAG (sv.map fun p=>p.1) (zCO (cv.map fun p=>p.1) (zAI (cv.map fun p=>p.1.name) x))) T,0,0)):=by
    show _=_
    rw [HA.out];unfold zHQ;rw [HI.out,if_neg hix]
   generalize zAI (cv.map fun p=>p.1.name) x=ix at *;obtain ⟨i,rfl⟩:∃i:Nat,ix=i:=⟨ix.toNat,by omega⟩
   have hi:i<cv.length:=by omega
   have hiI:(i:Int)<cv.length:=by omega
   have HCA:Hid (zCO (cv.map fun p=>p.1) (i:Int)=cv[i].1.scrubs):=by
    show _=_
    simp [zCO,hi]
   rw [HCA.out] at HA2;have hcok:=okC cv[i].1 ⟨cv[i],List.getElem_mem hi,rfl⟩;simp only [List.length_map] at hcok;have hcr:=HP3.out.pc cv[i] (List.getElem_mem hi);obtain ⟨gc,hgc,hcells⟩:=zAc HP3.out.rc (by omega);obtain ⟨k0,k1⟩:=zCC cv i cv[i] (by simp [hi])
   have hKS:∀W,Ch [] w3 W→W.cell? ⟨w1.heap.size,0,none⟩=some (.slice x0 sv.length c0)∧W.cell? ⟨w1.heap.size,1,none⟩=some (.slice x1 cv.length c1)∧W.cell? ⟨w1.heap.size,2,none⟩=some (.slice x2 n2 c2)∧W.cell? ⟨gc,i * 2,none⟩=some (.string cv[i].1.name)∧W.cell? ⟨gc,i * 2+1,none⟩=some cv[i].2:=by
    intro W gW;obtain ⟨gc',hgc',hcells'⟩:=zAc (zAB HP3.out.rc gW (by simp)) (by omega)
    obtain rfl:gc=gc':=by rw [hgc] at hgc';injection hgc' with e;injection e
    have A:=A3.out.keep gW (by simp);exact ⟨A.cell 0 _ rfl,A.cell 1 _ rfl,A.cell 2 _ rfl,hcells' _ _ k0,hcells' _ _ k1⟩
   clear HCA k0 k1 hcells;generalize cv[i]=p at *;obtain ⟨Cd,vs⟩:=p;simp only at hcok hcr hKS HA2
   have okS':∀D,D∈(sv.map fun p=>p.1)→zAb D:=by
    intro D hD;rw [List.mem_map] at hD;exact okS D hD
   have hroom:=zMG okS' (by rw [List.length_map];exact hcok) hT;have hdsok:=zC0 okS' (L:=Cd.scrubs) (by rw [List.length_map];exact hcok)
   have NEWC:Hid (∀W,Ch [] w3 W→Calls Tryz.prog 24 #[.agg #[.slice x0 sv.length c0,.slice x1 cv.length c1,.slice x2 n2 c2],.agg #[.string Cd.name,vs]] W fun e w'=>∃pv ev,e= .returned (.agg #[pv,ev])∧zA9 w' (zAG (sv.map fun p=>p.1) Cd.scrubs) 0 pv ev∧Ch [] W w'):=by
    intro W gW;have hpW:=HP3.out.keep gW (by simp);exact zIk ⟨_,_,_,rfl⟩ ⟨_,_,_,rfl⟩ hpW.rs hpW.ps (hcr.frame (fun k hk=>gW.block k (HP3.out.f k hk).2.1 (by simp)) (fun _ h=>h)) (fun p hp=>okS' p.1 (List.mem_map_of_mem hp)) hcok
   have TXT:Hid (∀W pv ev,zA9 W (zAG (sv.map fun p=>p.1) Cd.scrubs) 0 pv ev→Calls Tryz.prog 25 #[.agg #[pv,ev],.string (str T)] W fun e w'=>e= .returned (.string (str (zAh (zAG (sv.map fun p=>p.1) Cd.scrubs) T)))∧Ch [] W w'):=
    fun W pv ev h=>text_any h hdsok (by rw [zB5];exact hcok.1) T (by omega) hroom
   generalize zAh (zAG (sv.map fun p=>p.1) Cd.scrubs) T=R at *;have KS:=hide hKS;clear hKS okS okC okS' hcr hcok hroom hdsok HP3;subst hgc;obtain ⟨s1,s2,s3,s4,s5⟩:=KS.out w3 (Ch.refl _ _);go_wp2_with fail
   go_region_held3 (fun W=>W.cell? ⟨w1.heap.size,0,none⟩=some (.slice x0 sv.length c0)∧W.cell? ⟨w1.heap.size,1,none⟩=some (.slice (some ⟨gc,0,none⟩) cv.length c1)∧W.cell? ⟨w1.heap.size,2,none⟩=some (.slice x2 n2 c2)∧W.cell? ⟨gc,i * 2,none⟩=some (.string Cd.name)∧W.cell? ⟨gc,i * 2+1,none⟩=some vs) (first | (exact KS.out _ (Ch.drew _ _)) | (exact KS.out _ c5) | (exact KS.out _ c4)) (first | (go_at_call 24;refine (NEWC.out _ (Ch.drew _ _)).mono ?_;rintro e w4 ⟨pv4,ev4,rfl,l4,g4⟩;have c4:Ch [] w3 w4:=(Ch.drew _ _).trans g4;have L4:=hide l4;clear l4) | (go_at_call 25;refine (TXT.out _ _ _ L4.out).mono ?_;rintro e w5 ⟨rfl,g5⟩;have c5:Ch [] w3 w5:=c4.trans g5))
   all_goals
    go_wp2_with fail;go_ret3;exact ⟨by rw [HA2.out];rfl,HB3.out.trans (c5.below HB3.out.size (by simp))⟩
 ·have q:(C1 !=0)=true:=by simp [hc]
  have HA:Hid (zCc S x T=([],C1,C2)):=by
   show _=_
   rw [zMg (by rw [HC.out];intro e;injection e with e _;exact hc e),HC.out]
  clear hc;go_wp2_with fail;refine (zGs C1 C2).mono ?_;rintro e w3 ⟨rfl,g3⟩;go_wp2_with fail;go_ret3;exact ⟨by rw [HA.out];rfl,B1x.out.trans ((g2x.out.trans g3).below zB1 (by simp))⟩
end Go.Proofs.YteobgfbgglfkbaaGreat
