import Derived.Test.YteobgfbgglfkbaaGreatJD8
set_option maxHeartbeats 3200000
set_option maxRecDepth 100000
namespace Go.Proofs.YteobgfbgglfkbaaGreat
open Go.RowKit
attribute [local go_sem ↓] Go.wp_at_zero Go.wp_at_succ
def Ya(m:Nat)(nx hv:Nat->Nat->Bool)(now:Nat->Bool)(c:Nat)(q:Nat):Bool:=((List.range m).any fun p=>now p && nx p q) && hv c q
theorem IL(m:Nat)(now:Nat->Bool)(nx:Nat->Nat->Bool)(q:Nat):((List.range (m+1)).any fun p=>now p && nx p q)=(((List.range m).any fun p=>now p && nx p q) || (now m && nx m q)):=by
 rw[List.range_succ,List.any_append];simp
theorem GE{w:World}{P g m cap:Nat}{nq hq:Nat->Nat->Nat}{nx hv:Nat->Nat->Bool}{eq:Nat->Nat}{qn:Nat->Nat}{now:Nat->Bool}(A:yL w P (.slice (some ⟨g,0,none⟩) m cap) hq eq)(R:w.ownsRow 0 156 4 (.slice (some ⟨g,0,none⟩) m cap) m (ya nq m))(hm:m<=256)(hn:∀p,p<m->zU (nq p) (nx p))(hh:∀c,c<256->zU (hq c) (hv c))(hnow:zU qn now)(c:Nat)(hc:c<256):
 Calls Tryz.prog 72 #[.pointer (some ⟨P,0,none⟩),zS qn,.int .u8 c] w fun r w'=>∃q',r= .returned (zS q')/\zU q' (Ya m nx hv now c)/\Ch [] w w':=by
 have e1:zS qn= .agg #[.int .u64 (qn 0),.int .u64 (qn 1),.int .u64 (qn 2),.int .u64 (qn 3)]:=rfl;rw[e1];clear e1;have hPl:=zE.lt A;have hgl:=(R.lt g rfl).2;have bA:zE (((w.alloc (.cells #[.int .u64 (qn 0),.int .u64 (qn 1),.int .u64 (qn 2),.int .u64 (qn 3)] 156)).alloc (.cells #[.int .u64 0,.int .u64 0,.int .u64 0,.int .u64 0] 156)).alloc (.cells #[.int .u64 0,.int .u64 0,.int .u64 0,.int .u64 0] 156)) w.heap.size (zK qn) 156:=((zE.new w (zK qn) 156).kp (Ch.alloc [] _ _) (by simp)).kp (Ch.alloc [] _ _) (by simp)
 have bB:zE (((w.alloc (.cells #[.int .u64 (qn 0),.int .u64 (qn 1),.int .u64 (qn 2),.int .u64 (qn 3)] 156)).alloc (.cells #[.int .u64 0,.int .u64 0,.int .u64 0,.int .u64 0] 156)).alloc (.cells #[.int .u64 0,.int .u64 0,.int .u64 0,.int .u64 0] 156)) (w.heap.size+1) (zK fun _=>0) 156:=by
  have:=(zE.new (w.alloc (.cells #[.int .u64 (qn 0),.int .u64 (qn 1),.int .u64 (qn 2),.int .u64 (qn 3)] 156)) (zK fun _=>0) 156).kp (Ch.alloc [] _ (.cells #[.int .u64 0,.int .u64 0,.int .u64 0,.int .u64 0] 156)) (by simp);rw[show(w.alloc (.cells #[.int .u64 (qn 0),.int .u64 (qn 1),.int .u64 (qn 2),.int .u64 (qn 3)] 156)).heap.size=w.heap.size+1 from by simp]at this;exact this
 have bC:zE (((w.alloc (.cells #[.int .u64 (qn 0),.int .u64 (qn 1),.int .u64 (qn 2),.int .u64 (qn 3)] 156)).alloc (.cells #[.int .u64 0,.int .u64 0,.int .u64 0,.int .u64 0] 156)).alloc (.cells #[.int .u64 0,.int .u64 0,.int .u64 0,.int .u64 0] 156)) (w.heap.size+1+1) (zK fun _=>0) 156:=by
  have:=zE.new ((w.alloc (.cells #[.int .u64 (qn 0),.int .u64 (qn 1),.int .u64 (qn 2),.int .u64 (qn 3)] 156)).alloc (.cells #[.int .u64 0,.int .u64 0,.int .u64 0,.int .u64 0] 156)) (zK fun _=>0) 156;rw[show((w.alloc (.cells #[.int .u64 (qn 0),.int .u64 (qn 1),.int .u64 (qn 2),.int .u64 (qn 3)] 156)).alloc (.cells #[.int .u64 0,.int .u64 0,.int .u64 0,.int .u64 0] 156)).heap.size=w.heap.size+1+1 from by simp]at this;exact this
 have g0:Ch [] w (((w.alloc (.cells #[.int .u64 (qn 0),.int .u64 (qn 1),.int .u64 (qn 2),.int .u64 (qn 3)] 156)).alloc (.cells #[.int .u64 0,.int .u64 0,.int .u64 0,.int .u64 0] 156)).alloc (.cells #[.int .u64 0,.int .u64 0,.int .u64 0,.int .u64 0] 156)):=((Ch.alloc _ _ _).trans (Ch.alloc _ _ _)).trans (Ch.alloc _ _ _);have A0:yL (((w.alloc (.cells #[.int .u64 (qn 0),.int .u64 (qn 1),.int .u64 (qn 2),.int .u64 (qn 3)] 156)).alloc (.cells #[.int .u64 0,.int .u64 0,.int .u64 0,.int .u64 0] 156)).alloc (.cells #[.int .u64 0,.int .u64 0,.int .u64 0,.int .u64 0] 156)) P _ hq eq:=zE.kp A g0 (by simp);have R0:=zJ R g0 (by simp)
 have z0:(((w.alloc (.cells #[.int .u64 (qn 0),.int .u64 (qn 1),.int .u64 (qn 2),.int .u64 (qn 3)] 156)).alloc (.cells #[.int .u64 0,.int .u64 0,.int .u64 0,.int .u64 0] 156)).alloc (.cells #[.int .u64 0,.int .u64 0,.int .u64 0,.int .u64 0] 156)).heap.size=w.heap.size+3:=by simp
 have p0:=A0.c0;go_enter Tryz.func72,Tryz.ntmps72;go_wp2_with fail;clear p0;generalize ((w.alloc (.cells #[.int .u64 (qn 0),.int .u64 (qn 1),.int .u64 (qn 2),.int .u64 (qn 3)] 156)).alloc (.cells #[.int .u64 0,.int .u64 0,.int .u64 0,.int .u64 0] 156)).alloc (.cells #[.int .u64 0,.int .u64 0,.int .u64 0,.int .u64 0] 156)=W at *;generalize hK:w.heap.size=K at *
 go_loopw [8,9,15] (fun _ _ v w5=>∃(i:Nat) (q5:Nat->Nat),v= .int .i64 i/\i<=m/\Ch [] w w5/\zE w5 K (zK qn) 156/\zE w5 (K+1) (zK fun _=>0) 156/\zE w5 (K+1+1) (zK q5) 156/\zU q5 (fun q=>(List.range i).any fun p=>now p && nx p q)) (fun _ _ v _=>m - (match v with|.int _ x=>x.toNat|_=>0))
 case atStart=>exact⟨0,fun _=>0,rfl,by omega,g0,bA,bB,bC,zU.zero.congr (fun j _=>by simp)⟩
 case round=>
  generalize wr=w5 at *;obtain⟨i,q5,rfl,hi,g5,A5,B5,C5,F5⟩:=hrel;clear bA bB bC A0 R0;have H5:yL w5 P _ hq eq:=zE.kp A g5 (by simp);have R5:=zJ R g5 (by simp);have z5:=g5.size
  by_cases hlt:i<m
  ·have hlt':(i:Int)<m:=by omega
   have hi0:(0:Int)<=i:=by omega
   have hw8:IntKind.u8.wrap (i:Int)=(i:Int):=by rw[IntKind.wrap_u8];omega
   obtain⟨r0,r1,r2,r3,rf⟩:=UF R5 hlt (q:=nq i) (fun _ _=>rfl);obtain⟨x0,x1,x2,x3⟩:=A5.c4;have lA:=A5.lt;have lC:=C5.lt;have g6:=Ch.alloc [] w5 (.cells (zK (nq i)) 156);have D6:=zE.new w5 (zK (nq i)) 156;have A6:=A5.kp g6 (by simp);have B6:=B5.kp g6 (by simp);have C6:=C5.kp g6 (by simp);have F5x:=zC F5;clear F5 A5 B5 C5
   have hm':m - (i+1)<m - i:=by omega
   have FI:∀b,now i=b->(fun q=>(List.range (i+1)).any fun p=>now p && nx p q)=fun q=>(((List.range i).any fun p=>now p && nx p q) || (b && nx i q)):=by
    intro b hb;funext q;rw[IL,hb]
   have HFI:=zC FI;clear FI;go_wp2_with fail;clear r0 r1 r2 r3 rf x0 x1 x2 x3;rw[show w5.alloc (.cells #[.int .u64 (nq i 0:Nat),.int .u64 (nq i 1:Nat),.int .u64 (nq i 2:Nat),.int .u64 (nq i 3:Nat)] 156)=w5.alloc (.cells (zK (nq i)) 156)from rfl];generalize w5.alloc (.cells (zK (nq i)) 156)=w6 at *;generalize hD:w5.heap.size=D at *;refine(Mh hnow i (by omega)).mono ?_;rintro r w7 ⟨rfl,g7⟩;have A7:=A6.kp g7 (by simp);have B7:=B6.kp g7 (by simp);have C7:=C6.kp g7 (by simp);have D7:=D6.kp g7 (by simp);have g57:=g5.trans (g6.trans g7);obtain⟨c0,c1,c2,c3⟩:=C7.c4;obtain⟨d0,d1,d2,d3⟩:=D7.c4;cases hni:now i
   ·go_wp2_with fail
    exact⟨⟨i+1,q5,rfl,by omega,g57,A7,B7,C7,by rw[HFI.o _ hni];simpa using F5x.o⟩,hm'⟩
   ·go_wp2_with fail
    refine(YW (q1:=q5) (q2:=nq i) F5x.o.1 (hn i hlt).1).mono ?_;rintro r w8 ⟨rfl,g8⟩;rw[show zS (fun t=>q5 t ||| nq i t)= .agg #[.int .u64 (q5 0 ||| nq i 0:Nat),.int .u64 (q5 1 ||| nq i 1:Nat),.int .u64 (q5 2 ||| nq i 2:Nat),.int .u64 (q5 3 ||| nq i 3:Nat)]from rfl];have A8:=A7.kp g8 (by simp);have B8:=B7.kp g8 (by simp);have C8:=C7.kp g8 (by simp);clear c0 c1 c2 c3 d0 d1 d2 d3;obtain⟨c0,c1,c2,c3⟩:=C8.c4;have fc:=C8.fz;go_wp2_with fail;obtain⟨C9,g9⟩:=C8.fill (fun t=>q5 t ||| nq i t)
    try simp only at C9 g9
    clear c0 c1 c2 c3 fc;generalize (((w8.setCell ⟨K+1+1,0,none⟩ (.int .u64 (q5 0 ||| nq i 0:Nat))).setCell ⟨K+1+1,1,none⟩ (.int .u64 (q5 1 ||| nq i 1:Nat))).setCell ⟨K+1+1,2,none⟩ (.int .u64 (q5 2 ||| nq i 2:Nat))).setCell ⟨K+1+1,3,none⟩ (.int .u64 (q5 3 ||| nq i 3:Nat))=w9 at *;exact⟨⟨i+1,_,rfl,by omega,(g57.trans g8).trans' g9 (by simp;omega),A8.kp g9 (by simp <;>omega),B8.kp g9 (by simp <;>omega),C9,by rw[HFI.o _ hni];simpa using F5x.o.or (hn i hlt)⟩,hm'⟩
  ·have hge:¬(i:Int)<m:=by omega
   obtain rfl:i=m:=by omega
   clear hlt;obtain⟨c0,c1,c2,c3⟩:=C5.c4;obtain⟨y0,y1,y2,y3⟩:=B5.c4;have fy:=B5.fz;obtain⟨h0,h1,h2,h3,hfz⟩:=H5.row hc (q:=hq c) (fun _ _=>rfl)
   have hc':(c:Int)<256:=by omega
   have hc0:(0:Int)<=c:=by omega
   have B5x:=zC B5;clear B5;go_wp2_with fail;clear y0 y1 y2 y3 fy
   go_region_with (go_at_call 73;refine(DX (q1:=q5) (q2:=hq c) F5.1 (hh c hc).1).mono ?_;rintro r w8 ⟨rfl,g8⟩;have B8:=(B5x.o.kp (Ch.drew [] w5) (by simp)).kp g8 (by simp);obtain⟨y0,y1,y2,y3⟩:=B8.c4;have fy:=B8.fz;rw[show zS (fun t=>q5 t &&& hq c t)= .agg #[.int .u64 (q5 0 &&& hq c 0:Nat),.int .u64 (q5 1 &&& hq c 1:Nat),.int .u64 (q5 2 &&& hq c 2:Nat),.int .u64 (q5 3 &&& hq c 3:Nat)]from rfl])
   all_goals
    obtain⟨B9,g9⟩:=B8.fill (fun t=>q5 t &&& hq c t);have G9:Ch [] w _:=((g5.trans (Ch.drew _ _)).trans g8).trans' g9 (by simp;omega)
    try simp only at B9 G9
    clear y0 y1 y2 y3 fy c0 c1 c2 c3 h0 h1 h2 h3 hfz;generalize (((w8.setCell ⟨K+1,0,none⟩ (.int .u64 (q5 0 &&& hq c 0:Nat))).setCell ⟨K+1,1,none⟩ (.int .u64 (q5 1 &&& hq c 1:Nat))).setCell ⟨K+1,2,none⟩ (.int .u64 (q5 2 &&& hq c 2:Nat))).setCell ⟨K+1,3,none⟩ (.int .u64 (q5 3 &&& hq c 3:Nat))=w9 at *;obtain⟨y0,y1,y2,y3⟩:=B9.c4;go_wp2_with fail;exact bodyPost_ret (v:=zS (fun t=>q5 t &&& hq c t)) (by simp[results,Tryz.results72,go_sem,zS,zK,y0,y1,y2,y3]) rfl ⟨_,rfl,F5.and (hh c hc),G9⟩
def Ws(nx hv:Nat->Nat->Bool)(l now:Nat->Bool)(t:List UInt8):Prop:=∃p,p<256/\now p=true/\yP nx hv l p t
theorem OU{m:Nat}{nx hv:Nat->Nat->Bool}{l now:Nat->Bool}(hm:m<=256)(hcl:∀p q,p<m->nx p q=true->q<m)(hnow:∀p,p<256->now p=true->p<m)(c:UInt8)(t:List UInt8):
 Ws nx hv l now (c:: t)↔Ws nx hv l (Ya m nx hv now c.toNat) t:=by
 constructor
 ·rintro⟨p,hp,h1,q,h2,h3,h4⟩
  have hpm:=hnow p hp h1;refine⟨q,by have:=hcl p q hpm h2;omega,?_,h4⟩;simp only[Ya,Bool.and_eq_true,List.any_eq_true,List.mem_range];exact⟨⟨p,hpm,h1,h2⟩,h3⟩
 ·rintro⟨q,hq,h1,h4⟩
  simp only[Ya,Bool.and_eq_true,List.any_eq_true,List.mem_range]at h1;obtain⟨⟨p,hpm,h1,h2⟩,h3⟩:=h1;exact⟨p,by omega,h1,q,h2,h3,h4⟩
theorem NF{m:Nat}{nx hv:Nat->Nat->Bool}{now:Nat->Bool}(hcl:∀p q,p<m->nx p q=true->q<m)(c q:Nat)(h:Ya m nx hv now c q=true):q<m:=by
 simp only[Ya,Bool.and_eq_true,List.any_eq_true,List.mem_range]at h;obtain⟨⟨p,hpm,_,h2⟩,_⟩:=h;exact hcl p q hpm h2
end Go.Proofs.YteobgfbgglfkbaaGreat
