import Derived.Test.YteobgfbgglfkbaaGreatRD8
import Derived.Deep.DeepCutAuto
namespace Go.Proofs.YteobgfbgglfkbaaGreat
open Go.RowKit
attribute [local go_sem ↓] Go.wp_at_zero Go.wp_at_succ
def zGV(m:Nat)(nx hv:Nat→Nat→Bool)(now:Nat→Bool)(c:Nat)(q:Nat):Bool:=((List.range m).any fun p=>now p && nx p q) && hv c q
theorem orN_snoc(m:Nat)(now:Nat→Bool)(nx:Nat→Nat→Bool)(q:Nat):((List.range (m+1)).any fun p=>now p && nx p q)=(((List.range m).any fun p=>now p && nx p q) || (now m && nx m q)):=by
 rw [List.range_succ,List.any_append];simp
set_option maxRecDepth 100000 in
set_option maxHeartbeats 3200000 in
theorem zL4{w:World}{P g m cap:Nat}{nq hq:Nat→Nat→Nat}{nx hv:Nat→Nat→Bool}{eq:Nat→Nat}{qn:Nat→Nat}{now:Nat→Bool}(A:zBJ w P (.slice (some ⟨g,0,none⟩) m cap) hq eq)(R:w.ownsRow 0 156 4 (.slice (some ⟨g,0,none⟩) m cap) m (zAv nq m))(hm:m≤256)(hn:∀p,p<m→SetF (nq p) (nx p))(hh:∀c,c<256→SetF (hq c) (hv c))(hnow:SetF qn now)(c:Nat)(hc:c<256):
  Calls Tryz.prog 72 #[.pointer (some ⟨P,0,none⟩),setV qn,.int .u8 c] w fun r w'=>∃q',r= .returned (setV q')∧SetF q' (zGV m nx hv now c)∧Ch [] w w':=by
 have e1:setV qn= .agg #[.int .u64 (qn 0:Nat),.int .u64 (qn 1:Nat),.int .u64 (qn 2:Nat),.int .u64 (qn 3:Nat)]:=rfl;rw [e1];clear e1;have hPl:=zAC.lt A;have hgl:=(R.lt g rfl).2;have bA:zAC (((w.alloc (.cells #[.int .u64 (qn 0:Nat),.int .u64 (qn 1:Nat),.int .u64 (qn 2:Nat),.int .u64 (qn 3:Nat)] 156)).alloc (.cells #[.int .u64 0,.int .u64 0,.int .u64 0,.int .u64 0] 156)).alloc (.cells #[.int .u64 0,.int .u64 0,.int .u64 0,.int .u64 0] 156)) w.heap.size (setC qn) 156:=((zAC.new w (setC qn) 156).keep (Ch.alloc [] _ _) (by simp)).keep (Ch.alloc [] _ _) (by simp)
 have bB:zAC (((w.alloc (.cells #[.int .u64 (qn 0:Nat),.int .u64 (qn 1:Nat),.int .u64 (qn 2:Nat),.int .u64 (qn 3:Nat)] 156)).alloc (.cells #[.int .u64 0,.int .u64 0,.int .u64 0,.int .u64 0] 156)).alloc (.cells #[.int .u64 0,.int .u64 0,.int .u64 0,.int .u64 0] 156)) (w.heap.size+1) (setC fun _=>0) 156:=by
  have:=(zAC.new (w.alloc (.cells #[.int .u64 (qn 0:Nat),.int .u64 (qn 1:Nat),.int .u64 (qn 2:Nat),.int .u64 (qn 3:Nat)] 156)) (setC fun _=>0) 156).keep (Ch.alloc [] _ (.cells #[.int .u64 0,.int .u64 0,.int .u64 0,.int .u64 0] 156)) (by simp);rw [show (w.alloc (.cells #[.int .u64 (qn 0:Nat),.int .u64 (qn 1:Nat),.int .u64 (qn 2:Nat),.int .u64 (qn 3:Nat)] 156)).heap.size=w.heap.size+1 from by simp] at this;exact this
 have bC:zAC (((w.alloc (.cells #[.int .u64 (qn 0:Nat),.int .u64 (qn 1:Nat),.int .u64 (qn 2:Nat),.int .u64 (qn 3:Nat)] 156)).alloc (.cells #[.int .u64 0,.int .u64 0,.int .u64 0,.int .u64 0] 156)).alloc (.cells #[.int .u64 0,.int .u64 0,.int .u64 0,.int .u64 0] 156)) (w.heap.size+1+1) (setC fun _=>0) 156:=by
  have:=zAC.new ((w.alloc (.cells #[.int .u64 (qn 0:Nat),.int .u64 (qn 1:Nat),.int .u64 (qn 2:Nat),.int .u64 (qn 3:Nat)] 156)).alloc (.cells #[.int .u64 0,.int .u64 0,.int .u64 0,.int .u64 0] 156)) (setC fun _=>0) 156;rw [show ((w.alloc (.cells #[.int .u64 (qn 0:Nat),.int .u64 (qn 1:Nat),.int .u64 (qn 2:Nat),.int .u64 (qn 3:Nat)] 156)).alloc (.cells #[.int .u64 0,.int .u64 0,.int .u64 0,.int .u64 0] 156)).heap.size=w.heap.size+1+1 from by simp] at this;exact this
 have g0:Ch [] w (((w.alloc (.cells #[.int .u64 (qn 0:Nat),.int .u64 (qn 1:Nat),.int .u64 (qn 2:Nat),.int .u64 (qn 3:Nat)] 156)).alloc (.cells #[.int .u64 0,.int .u64 0,.int .u64 0,.int .u64 0] 156)).alloc (.cells #[.int .u64 0,.int .u64 0,.int .u64 0,.int .u64 0] 156)):=((Ch.alloc _ _ _).trans (Ch.alloc _ _ _)).trans (Ch.alloc _ _ _);have A0:zBJ (((w.alloc (.cells #[.int .u64 (qn 0:Nat),.int .u64 (qn 1:Nat),.int .u64 (qn 2:Nat),.int .u64 (qn 3:Nat)] 156)).alloc (.cells #[.int .u64 0,.int .u64 0,.int .u64 0,.int .u64 0] 156)).alloc (.cells #[.int .u64 0,.int .u64 0,.int .u64 0,.int .u64 0] 156)) P _ hq eq:=zAC.keep A g0 (by simp);have R0:=zAB R g0 (by simp)
 have z0:(((w.alloc (.cells #[.int .u64 (qn 0:Nat),.int .u64 (qn 1:Nat),.int .u64 (qn 2:Nat),.int .u64 (qn 3:Nat)] 156)).alloc (.cells #[.int .u64 0,.int .u64 0,.int .u64 0,.int .u64 0] 156)).alloc (.cells #[.int .u64 0,.int .u64 0,.int .u64 0,.int .u64 0] 156)).heap.size=w.heap.size+3:=by simp
 have p0:=A0.c0;go_enter Tryz.func72,Tryz.ntmps72;go_wp2_with fail;clear p0;generalize ((w.alloc (.cells #[.int .u64 (qn 0:Nat),.int .u64 (qn 1:Nat),.int .u64 (qn 2:Nat),.int .u64 (qn 3:Nat)] 156)).alloc (.cells #[.int .u64 0,.int .u64 0,.int .u64 0,.int .u64 0] 156)).alloc (.cells #[.int .u64 0,.int .u64 0,.int .u64 0,.int .u64 0] 156)=W at *;generalize hK:w.heap.size=K at *
 go_loopw [8,9,15] (fun _ _ v w5=>∃(i:Nat) (q5:Nat→Nat),v= .int .i64 i∧i≤m∧Ch [] w w5∧zAC w5 K (setC qn) 156∧zAC w5 (K+1) (setC fun _=>0) 156∧zAC w5 (K+1+1) (setC q5) 156∧SetF q5 (fun q=>(List.range i).any fun p=>now p && nx p q)) (fun _ _ v _=>m - (match v with | .int _ x=>x.toNat | _=>0))
 case atStart=>exact ⟨0,fun _=>0,rfl,by omega,g0,bA,bB,bC,SetF.zero.congr (fun j _=>by simp)⟩
 case round=>
  generalize wr=w5 at *;obtain ⟨i,q5,rfl,hi,g5,A5,B5,C5,F5⟩:=hrel;clear bA bB bC A0 R0;have H5:zBJ w5 P _ hq eq:=zAC.keep A g5 (by simp);have R5:=zAB R g5 (by simp);have z5:=g5.size
  by_cases hlt:i<m
  ·have hlt':(i:Int)<m:=by omega
   have hi0:(0:Int)≤i:=by omega
   have hw8:IntKind.u8.wrap (i:Int)=(i:Int):=by rw [IntKind.wrap_u8];omega
   obtain ⟨r0,r1,r2,r3,rf⟩:=zGe R5 hlt (q:=nq i) (fun _ _=>rfl);obtain ⟨x0,x1,x2,x3⟩:=A5.c4;have lA:=A5.lt;have lC:=C5.lt;have g6:=Ch.alloc [] w5 (.cells (setC (nq i)) 156);have D6:=zAC.new w5 (setC (nq i)) 156;have A6:=A5.keep g6 (by simp);have B6:=B5.keep g6 (by simp);have C6:=C5.keep g6 (by simp);have F5x:=hide F5;clear F5 A5 B5 C5
   have hm':m - (i+1)<m - i:=by omega
   have FI:∀b,now i=b→(fun q=>(List.range (i+1)).any fun p=>now p && nx p q)=fun q=>(((List.range i).any fun p=>now p && nx p q) || (b && nx i q)):=by
    intro b hb;funext q;rw [orN_snoc,hb]
   have HFI:=hide FI;clear FI;go_wp2_with fail;clear r0 r1 r2 r3 rf x0 x1 x2 x3;rw [show w5.alloc (.cells #[.int .u64 (nq i 0:Nat),.int .u64 (nq i 1:Nat),.int .u64 (nq i 2:Nat),.int .u64 (nq i 3:Nat)] 156)=w5.alloc (.cells (setC (nq i)) 156) from rfl];generalize w5.alloc (.cells (setC (nq i)) 156)=w6 at *;generalize hD:w5.heap.size=D at *;refine (zIQ hnow i (by omega)).mono ?_;rintro r w7 ⟨rfl,g7⟩;have A7:=A6.keep g7 (by simp);have B7:=B6.keep g7 (by simp);have C7:=C6.keep g7 (by simp);have D7:=D6.keep g7 (by simp);have g57:=g5.trans (g6.trans g7);obtain ⟨c0,c1,c2,c3⟩:=C7.c4;obtain ⟨d0,d1,d2,d3⟩:=D7.c4;cases hni:now i
   ·go_wp2_with fail
    exact ⟨⟨i+1,q5,rfl,by omega,g57,A7,B7,C7,by rw [HFI.out _ hni];simpa using F5x.out⟩,hm'⟩
   ·go_wp2_with fail
    refine (zC2 (q1:=q5) (q2:=nq i) F5x.out.1 (hn i hlt).1).mono ?_;rintro r w8 ⟨rfl,g8⟩;rw [show setV (fun t=>q5 t ||| nq i t)= .agg #[.int .u64 (q5 0 ||| nq i 0:Nat),.int .u64 (q5 1 ||| nq i 1:Nat),.int .u64 (q5 2 ||| nq i 2:Nat),.int .u64 (q5 3 ||| nq i 3:Nat)] from rfl];have A8:=A7.keep g8 (by simp);have B8:=B7.keep g8 (by simp);have C8:=C7.keep g8 (by simp);clear c0 c1 c2 c3 d0 d1 d2 d3;obtain ⟨c0,c1,c2,c3⟩:=C8.c4;have fc:=C8.frozen;go_wp2_with fail;obtain ⟨C9,g9⟩:=C8.fill (fun t=>q5 t ||| nq i t)
    try simp only at C9 g9
    clear c0 c1 c2 c3 fc;generalize (((w8.setCell ⟨K+1+1,0,none⟩ (.int .u64 (q5 0 ||| nq i 0:Nat))).setCell ⟨K+1+1,1,none⟩ (.int .u64 (q5 1 ||| nq i 1:Nat))).setCell ⟨K+1+1,2,none⟩ (.int .u64 (q5 2 ||| nq i 2:Nat))).setCell ⟨K+1+1,3,none⟩ (.int .u64 (q5 3 ||| nq i 3:Nat))=w9 at *;exact ⟨⟨i+1,_,rfl,by omega,(g57.trans g8).trans' g9 (by simp;omega),A8.keep g9 (by simp <;>omega),B8.keep g9 (by simp <;>omega),C9,by rw [HFI.out _ hni];simpa using F5x.out.or (hn i hlt)⟩,hm'⟩
  ·have hge:¬(i:Int)<m:=by omega
   obtain rfl:i=m:=by omega
   clear hlt;obtain ⟨c0,c1,c2,c3⟩:=C5.c4;obtain ⟨y0,y1,y2,y3⟩:=B5.c4;have fy:=B5.frozen;obtain ⟨h0,h1,h2,h3,hfz⟩:=H5.row hc (q:=hq c) (fun _ _=>rfl)
   have hc':(c:Int)<256:=by omega
   have hc0:(0:Int)≤c:=by omega
   have B5x:=hide B5;clear B5;go_wp2_with fail;clear y0 y1 y2 y3 fy
   go_region_with (go_at_call 73;refine (zFv (q1:=q5) (q2:=hq c) F5.1 (hh c hc).1).mono ?_;rintro r w8 ⟨rfl,g8⟩;have B8:=(B5x.out.keep (Ch.drew [] w5) (by simp)).keep g8 (by simp);obtain ⟨y0,y1,y2,y3⟩:=B8.c4;have fy:=B8.frozen;rw [show setV (fun t=>q5 t &&& hq c t)= .agg #[.int .u64 (q5 0 &&& hq c 0:Nat),.int .u64 (q5 1 &&& hq c 1:Nat),.int .u64 (q5 2 &&& hq c 2:Nat),.int .u64 (q5 3 &&& hq c 3:Nat)] from rfl])
   all_goals
    obtain ⟨B9,g9⟩:=B8.fill (fun t=>q5 t &&& hq c t);have G9:Ch [] w _:=((g5.trans (Ch.drew _ _)).trans g8).trans' g9 (by simp;omega)
    try simp only at B9 G9
    clear y0 y1 y2 y3 fy c0 c1 c2 c3 h0 h1 h2 h3 hfz;generalize (((w8.setCell ⟨K+1,0,none⟩ (.int .u64 (q5 0 &&& hq c 0:Nat))).setCell ⟨K+1,1,none⟩ (.int .u64 (q5 1 &&& hq c 1:Nat))).setCell ⟨K+1,2,none⟩ (.int .u64 (q5 2 &&& hq c 2:Nat))).setCell ⟨K+1,3,none⟩ (.int .u64 (q5 3 &&& hq c 3:Nat))=w9 at *;obtain ⟨y0,y1,y2,y3⟩:=B9.c4;go_wp2_with fail;exact bodyPost_ret (v:=setV (fun t=>q5 t &&& hq c t)) (by simp [results,Tryz.results72,go_sem,setV,setC,y0,y1,y2,y3]) rfl ⟨_,rfl,F5.and (hh c hc),G9⟩
end Go.Proofs.YteobgfbgglfkbaaGreat
namespace Go.Proofs.YteobgfbgglfkbaaGreat
open Go.RowKit
attribute [local go_sem ↓] Go.wp_at_zero Go.wp_at_succ
def AccN(nx hv:Nat→Nat→Bool)(l now:Nat→Bool)(t:List UInt8):Prop:=∃p,p<256∧now p=true∧Acc nx hv l p t
theorem zIt{m:Nat}{nx hv:Nat→Nat→Bool}{l now:Nat→Bool}(hm:m≤256)(hcl:∀p q,p<m→nx p q=true→q<m)(hnow:∀p,p<256→now p=true→p<m)(c:UInt8)(t:List UInt8):
  AccN nx hv l now (c:: t)↔AccN nx hv l (zGV m nx hv now c.toNat) t:=by
 constructor
 ·rintro ⟨p,hp,h1,q,h2,h3,h4⟩
  have hpm:=hnow p hp h1;refine ⟨q,by have:=hcl p q hpm h2;omega,?_,h4⟩;simp only [zGV,Bool.and_eq_true,List.any_eq_true,List.mem_range];exact ⟨⟨p,hpm,h1,h2⟩,h3⟩
 ·rintro ⟨q,hq,h1,h4⟩
  simp only [zGV,Bool.and_eq_true,List.any_eq_true,List.mem_range] at h1;obtain ⟨⟨p,hpm,h1,h2⟩,h3⟩:=h1;exact ⟨p,by omega,h1,q,h2,h3,h4⟩
theorem zIc{m:Nat}{nx hv:Nat→Nat→Bool}{now:Nat→Bool}(hcl:∀p q,p<m→nx p q=true→q<m)(c q:Nat)(h:zGV m nx hv now c q=true):q<m:=by
 simp only [zGV,Bool.and_eq_true,List.any_eq_true,List.mem_range] at h;obtain ⟨⟨p,hpm,_,h2⟩,_⟩:=h;exact hcl p q hpm h2
theorem seg_cons{T:ByteArray}{i:Nat}(hi:i<T.size):seg T i T.size=T[i]:: seg T (i+1) T.size:=by
 rw [zIk (m:=i+1) (by omega) (by omega) (Nat.le_refl _),zKm hi];rfl
set_option maxRecDepth 100000 in
set_option maxHeartbeats 3200000 in
theorem has_sem{w:World}{lo P:Nat}{L:Lang}{T:ByteArray}(hT:T.size+1≤281474976710656)(H:PatL w lo P L):
  Calls Tryz.prog 38 #[.pointer (some ⟨P,0,none⟩),.string T] w fun r w'=>∃q:Bool,r= .returned (.bool q)∧(q=true↔L T.data.toList)∧Ch [] w w':=by
 obtain ⟨g,m,cap,nq,hq,nx,hv,eq,l,A,R,hgP,hm0,hm,hn,hh,hl,hcl,_,_,_,hL⟩:=H;have HN:=hide hn;have HH:=hide hh;have HCL:=hide hcl;have HL:=hide hL;clear hn hh hcl hL;have hPl:=zAC.lt A;go_enter Tryz.func38,Tryz.ntmps38;go_wp2_with fail;have bC:=zAC.new w #[.int .u8 ((0:Nat):Int)] 161;have g1:=Ch.alloc [] w (.cells #[.int .u8 ((0:Nat):Int)] 161);refine (zIa bC (by omega)).mono ?_;rintro r w2 ⟨q0,rfl,hq0,h2⟩;rw [show setV q0= .agg #[.int .u64 (q0 0:Nat),.int .u64 (q0 1:Nat),.int .u64 (q0 2:Nat),.int .u64 (q0 3:Nat)] from rfl];have G2:=g1.trans h2;go_wp2_with fail;have D3:=zAC.new w2 (setC q0) 156;have h3:=Ch.alloc [] w2 (.cells (setC q0) 156);have G3:=G2.trans h3;have zz:=G2.size;rw [show w2.alloc (.cells #[.int .u64 (q0 0:Nat),.int .u64 (q0 1:Nat),.int .u64 (q0 2:Nat),.int .u64 (q0 3:Nat)] 156)=w2.alloc (.cells (setC q0) 156) from rfl];generalize w2.alloc (.cells (setC q0) 156)=w3 at *;generalize hD:w2.heap.size=D at *
 have START:(∀p,p<256→(p==0)=true→p<m)∧(L T.data.toList↔AccN nx hv l (fun j=>j==0) (seg T 0 T.size)):=by
  refine ⟨fun p _ h=>by simp at h;omega,?_⟩;rw [HL.out,zKP]
  constructor
  ·intro h;exact ⟨0,by omega,rfl,h⟩
  ·rintro ⟨p,_,hp,h⟩;simp at hp;subst hp;exact h
 go_loopw [6] (fun v w5=>∃(i:Nat) (qn:Nat→Nat) (now:Nat→Bool),v= .int .i64 i∧i≤T.size∧Ch [] w w5∧zAC w5 D (setC qn) 156∧SetF qn now∧(∀p,p<256→now p=true→p<m)∧(L T.data.toList↔AccN nx hv l now (seg T i T.size))) (fun v _=>T.size - (match v with | .int _ x=>x.toNat | _=>0))
 case atStart=>exact ⟨0,q0,_,rfl,by omega,G3,D3,hq0,START.1,START.2⟩
 case round=>
  generalize wr=w5 at *;obtain ⟨i,qn,now,rfl,hi,g5,D5,F5,hnow,hacc⟩:=hrel;have H5:zBJ w5 P _ hq eq:=zAC.keep A g5 (by simp);have R5:=zAB R g5 (by simp);obtain ⟨x0,x1,x2,x3⟩:=D5.c4;have fx:=D5.frozen;have z5:=g5.size;have HNOW:=hide hnow;have HACC:=hide hacc;clear hnow hacc START bC D3
  have FINAL:∀(q:Bool),(q=true↔∃j,j<256∧(now j && l j)=true)→(L T.data.toList↔AccN nx hv l now [])→(q=true↔L T.data.toList):=by
   intro q h1 h2;rw [h1,h2]
   constructor
   ·rintro ⟨j,hj,h⟩;simp at h;exact ⟨j,hj,h.1,h.2⟩
   ·rintro ⟨j,hj,h,h'⟩;exact ⟨j,hj,by simp [h];exact h'⟩
  have HFIN:=hide FINAL;clear FINAL
  by_cases hlt:i<T.size
  ·have hlt':(i:Int)<T.size:=by omega
   have hi0:(0:Int)≤i:=by omega
   go_wp2_with fail;refine (zDW F5).mono ?_;rintro r w6 ⟨q6,rfl,hq6,g6⟩;have D6:=D5.keep g6 (by simp);have H6:zBJ w6 P _ hq eq:=zAC.keep H5 g6 (by simp);have R6:=zAB R5 g6 (by simp);clear x0 x1 x2 x3 fx;obtain ⟨x0,x1,x2,x3⟩:=D6.c4;have fx:=D6.frozen;have G6:=g5.trans g6;have HQ6:=hide hq6;clear hq6;cases q6
   ·go_wp2_with fail
    have hb8:T[i].toNat<256:=T[i].toNat_lt
    have hm':T.size - (i+1)<T.size - i:=by omega
    have D6x:=hide D6;have H6x:=hide H6;have R6x:=hide R6;clear D6 H6 R6 D5 H5 R5
    go_region_with (go_at_call 72;refine (zL4 (zAC.keep H6x.out (Ch.drew [] w6) (by simp):zBJ w6.drew P _ hq eq) (zAB R6x.out (Ch.drew [] w6) (by simp)) hm HN.out HH.out F5 T[i].toNat hb8).mono ?_;rintro r w7 ⟨q7,rfl,F7,g7⟩;have D7:=(D6x.out.keep (Ch.drew [] w6) (by simp)).keep g7 (by simp);obtain ⟨y0,y1,y2,y3⟩:=D7.c4;have fy:=D7.frozen;rw [show setV q7= .agg #[.int .u64 (q7 0:Nat),.int .u64 (q7 1:Nat),.int .u64 (q7 2:Nat),.int .u64 (q7 3:Nat)] from rfl])
    all_goals
     obtain ⟨D8,g8⟩:=D7.fill q7;have G8:Ch [] w _:=((G6.trans (Ch.drew _ _)).trans g7).trans' g8 (by simp;omega);clear x0 x1 x2 x3 fx y0 y1 y2 y3 fy;generalize (((w7.setCell ⟨D,0,none⟩ (.int .u64 (q7 0:Nat))).setCell ⟨D,1,none⟩ (.int .u64 (q7 1:Nat))).setCell ⟨D,2,none⟩ (.int .u64 (q7 2:Nat))).setCell ⟨D,3,none⟩ (.int .u64 (q7 3:Nat))=w8 at *;go_wp2_with fail;refine ⟨⟨i+1,q7,_,rfl,by omega,G8,D8,F7,fun p _ hp=>zIc HCL.out _ _ hp,?_⟩,hm'⟩;rw [HACC.out,seg_cons hlt,zIt hm HCL.out HNOW.out]
   ·obtain ⟨pe0,pe1,pe2,pe3⟩:=H6.ce
    have pf:=zAC.frozen H6;go_wp2_with fail
    go_region_with (first | (go_at_call 73;refine (zFv (q1:=qn) (q2:=eq) F5.1 hl.1).mono ?_;rintro r wA ⟨rfl,gA⟩) | (go_at_call 71;refine (zDW (F5.and hl)).mono ?_;rintro r wB ⟨qB,rfl,hqB,gB⟩))
    all_goals
     go_wp2_with fail;go_ret;refine ⟨!qB,rfl,?_,?_⟩
     ·refine HFIN.out _ ?_ (by
       rw [HACC.out]
       constructor
       ·rintro ⟨p,hp,h,_⟩;rw [HQ6.out.1 (by simp) p hp] at h;cases h
       ·rintro ⟨p,hp,h,_⟩;rw [HQ6.out.1 (by simp) p hp] at h;cases h)
      cases qB with
      |true=>
       simp only [Bool.not_true,Bool.false_eq_true,false_iff];rintro ⟨j,hj,h⟩;rw [hqB.1 rfl j hj] at h;cases h
      |false=>
       simp only [Bool.not_false,true_iff];apply Classical.byContradiction;intro hn
       have:false=true:=hqB.2 (fun j hj=>by
        cases e:(now j && l j) with
        |false=>rfl
        |true=>exact absurd ⟨j,hj,e⟩ hn)
       cases this
     ·exact (G6.trans (Ch.drew _ _)).trans (gA.trans gB)
  ·have hge:¬(i:Int)<T.size:=by omega
   obtain rfl:i=T.size:=by omega
   clear hlt;obtain ⟨pe0,pe1,pe2,pe3⟩:=H5.ce;have pf:=zAC.frozen H5;go_wp2_with fail
   go_region_with (first | (go_at_call 73;refine (zFv (q1:=qn) (q2:=eq) F5.1 hl.1).mono ?_;rintro r wA ⟨rfl,gA⟩) | (go_at_call 71;refine (zDW (F5.and hl)).mono ?_;rintro r wB ⟨qB,rfl,hqB,gB⟩))
   all_goals
    go_wp2_with fail;go_ret;refine ⟨!qB,rfl,?_,?_⟩
    ·refine HFIN.out _ ?_ (by rw [HACC.out,zFy])
     cases qB with
     |true=>
      simp only [Bool.not_true,Bool.false_eq_true,false_iff];rintro ⟨j,hj,h⟩;rw [hqB.1 rfl j hj] at h;cases h
     |false=>
      simp only [Bool.not_false,true_iff];apply Classical.byContradiction;intro hn
      have:false=true:=hqB.2 (fun j hj=>by
       cases e:(now j && l j) with
       |false=>rfl
       |true=>exact absurd ⟨j,hj,e⟩ hn)
      cases this
    ·exact (g5.trans (Ch.drew _ _)).trans (gA.trans gB)
end Go.Proofs.YteobgfbgglfkbaaGreat
