import Derived.Test.YteobgfbgglfkbaaGreatRC1
import Derived.Test.YteobgfbgglfkbaaGreatRD2
set_option maxHeartbeats 1600000
set_option maxRecDepth 100000
namespace Go.Proofs.YteobgfbgglfkbaaGreat
open Go.RowKit
attribute [local go_sem ↓] Go.wp_at_zero Go.wp_at_succ
def dK(w:World)(b x:Nat)(S:ByteArray)(e:Ending)(w':World):Prop:=
 Ch [b,x] w w'/\((∃L s' v F N,br S= .ok (L,s')/\e= .returned (.tuple #[])/\zP w' b S s' (.slice none 0 0) (.slice none 0 0) (.slice none 0 0)/\zE w' x #[v] 85/\Na w' F v L N/\(∀k,F k->w.heap.size<=k/\k<w'.heap.size)/\s'.k=N)\/(∃d,br S= .error d/\Zv w' b S d e))
theorem dJ(S:ByteArray):zi S st0 0:=⟨Nat.zero_le _,Int.le_refl _,Int.le_refl _,Nat.zero_le _⟩
theorem dO{w:World}{b x:Nat}{S:ByteArray}(h:zP w b S st0 (.slice none 0 0) (.slice none 0 0) (.slice none 0 0))(hx:zE w x #[.slice none 0 0] 85)(hS:S.size<=400)(hxb:x≠b):
 Calls Tryz.prog 65 #[.pointer (some ⟨b,0,none⟩),.pointer (some ⟨x,0,none⟩)] w (dK w b x S):=by
 have hbl:=h.lt;have hxl:=hx.lt;have hbx:b≠x:=Ne.symm hxb;go_enter Tryz.func65,Tryz.ntmps65;go_wp2_with fail;refine(D0 hS (S.size+1) w b st0 0 _ _ _ h (dJ S) (by show S.size<S.size+1+0;omega)).mono ?_;rintro e w1 ⟨g1,hpost⟩;have x1:=hx.kp g1 (by simpa using hxb);have xc:=x1.cl 0 _ rfl;have xf:=x1.fz
 rcases hpost with⟨L,s1,v,F,N,hr,rfl,⟨⟨ea,en,ec,rfl⟩,hh,hRE⟩,hF,h1,hk,hi1,hi2,hki⟩|⟨d,hr,hg⟩|⟨s1,v,hr,rfl,⟨ea,en,ec,rfl⟩,h1,hi1,hst,_⟩
 ·have x2:zE (w1.setCell ⟨x,0,none⟩ (.slice ea en ec)) x #[.slice ea en ec] 85:=x1.set 0 _
  have g2:Ch [x] w1 (w1.setCell ⟨x,0,none⟩ (.slice ea en ec)):=Ch.setCell _ (by simp) _;have h2:=h1.kp g2 (by simpa using Ne.symm hxb);have E2:=yC.frame (w':=w1.setCell ⟨x,0,none⟩ (.slice ea en ec)) (G:=F) (fun k hk=>g2.block k (hF k hk).2 (by have:=hF k hk;simp;omega)) (fun _ h=>h) _ _ _ _ hRE;have z2:=g2.size;have G2:Ch [b,x] w (w1.setCell ⟨x,0,none⟩ (.slice ea en ec)):=(g1.mono (by simp)).trans (g2.mono (by simp))
  have hk':s1.k=N:=by rw[hk];show(0:Int)+N=N;omega
  have HK:=zC hk';have HR:=zC hr;clear hr hk';obtain⟨c0,c1,c2,c3,c4,c5,c6,c7,fz⟩:=h1.fa
  by_cases hlt:s1.i<S.size
  ·have hlt':(s1.i:Int)<S.size:=by omega
   have HS:Hd (br S= .error s1.i):=by show _=_;unfold br;rw[HR.o];simp only[if_pos hlt]
   go_wp2_with fail;refine(ZB h2).mono ?_;rintro e w3 ⟨⟨rfl,ht⟩,g3⟩;exact zY rfl ⟨G2.trans (g3.mono (by simp)),Or.inr ⟨_,HS.o,rfl,ht⟩⟩
  ·have hge:¬(s1.i:Int)<S.size:=by omega
   have HS:Hd (br S= .ok (L,s1)):=by show _=_;unfold br;rw[HR.o];simp only[if_neg hlt]
   go_wp2_with fail
   go_end0
   exact⟨G2,Or.inl ⟨L,s1,_,F,N,HS.o,rfl,h2,x2,⟨⟨_,_,_,rfl⟩,hh,E2⟩,fun k hk=>by have:=hF k hk;omega,HK.o⟩⟩
 ·have HS:Hd (br S= .error d):=by show _=_;unfold br;rw[hr]
  obtain⟨rfl,ht⟩:=hg;exact zY rfl ⟨g1.mono (by simp),Or.inr ⟨_,HS.o,rfl,ht⟩⟩
 ·have HS:Hd (br S= .error s1.i):=by show _=_;unfold br;rw[hr]
  have g2:Ch [x] w1 (w1.setCell ⟨x,0,none⟩ (.slice ea en ec)):=Ch.setCell _ (by simp) _;have h2:=h1.kp g2 (by simpa using Ne.symm hxb);have G2:Ch [b,x] w (w1.setCell ⟨x,0,none⟩ (.slice ea en ec)):=(g1.mono (by simp)).trans (g2.mono (by simp));clear hr;obtain⟨c0,c1,c2,c3,c4,c5,c6,c7,fz⟩:=h1.fa
  have hlt':(s1.i:Int)<S.size:=by omega
  go_wp2_with fail;refine(ZB h2).mono ?_;rintro e w3 ⟨⟨rfl,ht⟩,g3⟩;exact zY rfl ⟨G2.trans (g3.mono (by simp)),Or.inr ⟨_,HS.o,rfl,ht⟩⟩
theorem cr{S:ByteArray}(h:400<S.size):bq S=(1,0):=by simp[bq,h]
theorem cu{S:ByteArray}(h:S.size<=400){L:zF}{s:St}(hr:br S= .ok (L,s)):bq S=(s.e,s.a):=by
 unfold bq;rw[if_neg (by omega),hr];exact OL (cd hr)
theorem cg{S:ByteArray}(h:S.size<=400){d:Nat}(hr:br S= .error d):bq S=(2,(d:Int)):=by
 unfold bq;rw[if_neg (by omega),hr];rfl
def dk(w:World)(S:ByteArray)(e:Ending)(w':World):Prop:=
 Below w.heap.size w w'/\∃v,e= .returned (.tuple #[v,.agg #[.int .i64 (bq S).1,.int .i64 (bq S).2]])/\JI v/\
  (bq S=(0,0)->∃L s' F N,br S= .ok (L,s')/\Na w' F v L N/\(∀k,F k->w.heap.size<=k/\k<w'.heap.size)/\N<=12)
theorem de(args:Array Value)(w:World):Sem.run Tryz.prog (callFunc 65 args) w= .ok (.enter 65 args) w:=by
 kernel_rfl
def Mb(w w':World):Prop:=Below w.heap.size w w'/\w.heap.size+3<=w'.heap.size/\zE w' w.heap.size #[.int .i64 0,.int .i64 0] 68
theorem dA{w W0:World}{S:ByteArray}(hW:W0=((w.alloc (.cells #[.int .i64 0,.int .i64 0] 68)).alloc (.cells #[.string S,.int .i64 0,.int .i64 0,.int .i64 0,.int .i64 0,.slice none 0 0,.slice none 0 0,.slice none 0 0] 105)).alloc (.cells #[.slice none 0 0] 85)):
 zP W0 (w.heap.size+1) S st0 (.slice none 0 0) (.slice none 0 0) (.slice none 0 0)/\Mb w W0/\zE W0 (w.heap.size+1+1) #[.slice none 0 0] 85/\W0.heap.size=w.heap.size+3:=by
 have A:=zE.new w #[.int .i64 0,.int .i64 0] 68;generalize hw1:w.alloc (.cells #[.int .i64 0,.int .i64 0] 68)=w1 at *
 have z1:w1.heap.size=w.heap.size+1:=by rw[<- hw1];simp
 have g1:Ch [] w w1:=by rw[<- hw1];exact Ch.alloc _ _ _
 have B:=zE.new w1 #[.string S,.int .i64 0,.int .i64 0,.int .i64 0,.int .i64 0,.slice none 0 0,.slice none 0 0,.slice none 0 0] 105;have g2:=Ch.alloc [] w1 (.cells #[.string S,.int .i64 0,.int .i64 0,.int .i64 0,.int .i64 0,.slice none 0 0,.slice none 0 0,.slice none 0 0] 105)
 have z2:(w1.alloc (.cells #[.string S,.int .i64 0,.int .i64 0,.int .i64 0,.int .i64 0,.slice none 0 0,.slice none 0 0,.slice none 0 0] 105)).heap.size=w1.heap.size+1:=by simp
 generalize w1.alloc (.cells #[.string S,.int .i64 0,.int .i64 0,.int .i64 0,.int .i64 0,.slice none 0 0,.slice none 0 0,.slice none 0 0] 105)=w2 at *;have g3:=Ch.alloc [] w2 (.cells #[.slice none 0 0] 85);have C:=zE.new w2 #[.slice none 0 0] 85
 have z3:(w2.alloc (.cells #[.slice none 0 0] 85)).heap.size=w2.heap.size+1:=by simp
 rw[<- hW]at g3 C z3
 have e2:w2.heap.size=w.heap.size+1+1:=by omega
 rw[e2]at C;rw[z1]at B;exact⟨B.kp g3 (by simp),⟨((g1.trans g2).trans g3).below (Nat.le_refl _) (by simp),by omega,(A.kp g2 (by simp)).kp g3 (by simp)⟩,C,by omega⟩
theorem Mb.frame{w w1 w2:World}(h:Mb w w1){X:List Nat}(g:Ch X w1 w2)(hX:∀k,k∈X->w.heap.size<k):Mb w w2:=by
 obtain⟨B,z,a⟩:=h;have:=g.size;have:=B.size;exact⟨B.trans (g.below (by omega) (fun k hk=>by have:=hX k hk;omega)),by omega,a.kp g (fun hx=>by have:=hX _ hx;omega)⟩
theorem dE{w W0:World}{S:ByteArray}(h:zP W0 (w.heap.size+1) S st0 (.slice none 0 0) (.slice none 0 0) (.slice none 0 0))(hh:Mb w W0)(hx:zE W0 (w.heap.size+1+1) #[.slice none 0 0] 85)(hz:W0.heap.size=w.heap.size+3):
 Calls Tryz.prog 39 #[.pointer (some ⟨w.heap.size+1,0,none⟩),.func (.func 65) #[] #[.pointer (some ⟨w.heap.size+1,0,none⟩),.pointer (some ⟨w.heap.size+1+1,0,none⟩)]] W0 fun e w''=>
  e= .returned (.agg #[.int .i64 (bq S).1,.int .i64 (bq S).2])/\Mb w w''/\(bq S=(0,0)->∃L s' v F N,br S= .ok (L,s')/\zE w'' (w.heap.size+1+1) #[v] 85/\Na w'' F v L N/\(∀k,F k->w.heap.size+3<=k/\k<w''.heap.size)/\N<=12):=by
 by_cases hS:400<S.size
 ·refine(Re h hS).mono ?_
  rintro e w' ⟨rfl,g⟩;refine⟨by rw[cr hS],hh.frame g (by simp),fun e=> ?_⟩;rw[cr hS]at e;cases e
 ·have hS':S.size<=400:=by omega
  refine(Ce h hS' 65 #[] #[.pointer (some ⟨w.heap.size+1,0,none⟩),.pointer (some ⟨w.heap.size+1+1,0,none⟩)] de
   (Good:=fun s' _ _ _ w'=>Mb w w'/\w.heap.size+5<=w'.heap.size/\∃L v F N,br S= .ok (L,s')/\zE w' (w.heap.size+1+1) #[v] 85/\Na w' F v L N/\(∀k,F k->w.heap.size+5<=k/\k<w'.heap.size)/\s'.k=N)
   (Bad:=fun d w'=>Mb w w'/\w.heap.size+5<=w'.heap.size/\br S= .error d) ?_).mono ?_
  ·intro W hW
   have gW:Ch [] W0 W:=by rw[hW];exact(Ch.alloc _ _ _).trans (Ch.alloc _ _ _)
   have zW:W.heap.size=w.heap.size+5:=by rw[hW];simp[hz]
   have hW1:=h.kp gW (by simp);have hx1:=hx.kp gW (by simp);have HW:Mb w W:=hh.frame gW (by simp);clear hW;refine(dO hW1 hx1 hS' (by omega)).mono ?_;rintro e w' ⟨B,hr⟩;have HW':Mb w w':=HW.frame B (by simp;omega);have zB:=B.size;refine⟨B.size,B.block _ (by omega) (by simp;omega),B.block _ (by omega) (by simp;omega),?_⟩
   rcases hr with⟨L,s',v,F,N,hr,rfl,h1,x1,hE,hF,hk⟩|⟨d,hr,hg⟩
   ·exact Or.inl ⟨s',_,_,_,rfl,h1,HW',by omega,L,v,F,N,hr,x1,hE,fun k hk=>by have:=hF k hk;omega,hk⟩
   ·exact Or.inr ⟨d,hg,HW',by omega,hr⟩
  ·rintro e w'' ⟨w',g,⟨s',u5,u6,u7,rfl,h1,HW,z,L,v,F,N,hr,x1,⟨hv,hh,hE⟩,hF,hk⟩|⟨d,rfl,HW,z,hr⟩⟩
   ·rw[hz]at g
    have zg:=g.size;refine⟨by rw[cu hS' hr],HW.frame g (by simp;omega),fun he=>⟨L,s',v,F,N,hr,x1.kp g (by simp),⟨hv,hh,yC.frame (fun k hk=>g.block k (hF k hk).2 (by have:=hF k hk;simp;omega)) (fun _ h=>h) _ _ _ _ hE⟩,fun k hk=>by have:=hF k hk;omega,?_⟩⟩;rw[cu hS' hr]at he;simp only[Prod.mk.injEq]at he;have:=(cd hr he.1).2;omega
   ·rw[hz]at g
    refine⟨by rw[cg hS' hr],HW.frame g (by simp;omega),fun e=> ?_⟩;rw[cg hS' hr]at e;cases e
theorem dM{w:World}(S:ByteArray):Calls Tryz.prog 36 #[.string S] w (dk w S):=by
 have hmf:∀(fn:Fn) (first cap:Array Value) (w:World),(Instr.makeFunc fn first cap).run Tryz.prog w= .ok (.func fn first cap) w:=fun _ _ _ _=>rfl
 go_enter Tryz.func36,Tryz.ntmps36;go_wp2_with fail;generalize hW0:((w.alloc (.cells #[.int .i64 0,.int .i64 0] 68)).alloc (.cells #[.string S,.int .i64 0,.int .i64 0,.int .i64 0,.int .i64 0,.slice none 0 0,.slice none 0 0,.slice none 0 0] 105)).alloc (.cells #[.slice none 0 0] 85)=W0;obtain⟨h0,hh,hx0,hz⟩:=dA hW0.symm;clear hW0;refine(dE h0 hh hx0 hz).mono ?_;rintro e w1 ⟨rfl,⟨H2,z2,B2⟩,hgood⟩;have HG:=zC hgood;clear hgood;obtain⟨b0,b1⟩:w1.cell? ⟨w.heap.size,0,none⟩=some (.int .i64 0)/\w1.cell? ⟨w.heap.size,1,none⟩=some (.int .i64 0):=⟨B2.cl 0 _ rfl,B2.cl 1 _ rfl⟩;have fb:=B2.fz;generalize hC:bq S=C at *;obtain⟨C1,C2⟩:=C;have HC:=zC hC;clear hC
 by_cases hc:C1=0
 ·have q:(C1 !=0)=false:=by simp[hc]
  have hC2:C2=0:=cJ HC.o hc;obtain⟨L,s',v,F,N,hr,x1,⟨⟨ea,en,ec,rfl⟩,hh,hE⟩,hF,hN⟩:=HG.o (by rw[hc,hC2]);have HR:=zC hr;have HE:=zC hE;have HF:=zC hF;have xc:=x1.cl 0 _ rfl;clear hr hE HG hF;go_wp2_with fail;have gA:=Ch.alloc [] w1 (.cells #[.int .i64 0,.int .i64 0] 68);have D3:=zE.new w1 #[.int .i64 0,.int .i64 0] 68;have B3:=B2.kp gA (by simp);have x3:=x1.kp gA (by simp)
  have zA:(w1.alloc (.cells #[.int .i64 0,.int .i64 0] 68)).heap.size=w1.heap.size+1:=by simp
  clear b0 b1 fb xc;generalize w1.alloc (.cells #[.int .i64 0,.int .i64 0] 68)=w2 at *;have HF':=HF.o;generalize hq:w.heap.size=H at *;generalize hp:w1.heap.size=P at *;have HFx:=zC HF';clear HF' HF;have xc:=x3.cl 0 _ rfl;obtain⟨b0,b1⟩:w2.cell? ⟨H,0,none⟩=some (.int .i64 0)/\w2.cell? ⟨H,1,none⟩=some (.int .i64 0):=⟨B3.cl 0 _ rfl,B3.cl 1 _ rfl⟩;have fb:=B3.fz;obtain⟨p0,p1⟩:w2.cell? ⟨P,0,none⟩=some (.int .i64 0)/\w2.cell? ⟨P,1,none⟩=some (.int .i64 0):=⟨D3.cl 0 _ rfl,D3.cl 1 _ rfl⟩
  have n1:¬H=P:=by omega
  have n3:¬P=H:=by omega
  go_region;obtain⟨B5,G5⟩:=B3.fill2 (.int .i64 0) (.int .i64 0);have gd:=Ch.drew [] ((w2.setCell ⟨H,0,none⟩ (.int .i64 0)).setCell ⟨H,1,none⟩ (.int .i64 0));have B6:=B5.kp gd (by simp);have G6:=G5.trans (gd.mono (by simp));clear b0 b1 fb p0 p1 xc gd;generalize ((w2.setCell ⟨H,0,none⟩ (.int .i64 0)).setCell ⟨H,1,none⟩ (.int .i64 0)).drew=w5 at *;have m0:=B6.cl 0 _ rfl;have m1:=B6.cl 1 _ rfl;have z6:=G6.size;go_wp2_with fail;refine bodyPost_ret (v:= .tuple #[.slice ea en ec,.agg #[.int .i64 0,.int .i64 0]]) (by simp[results,Tryz.results36,go_sem,m0,m1]) rfl ?_;have GG:Ch [H] w1 w5:=(gA.mono (by simp)).trans G6;subst hq
  have fr:∀k,F k->w5.heap[k]? =w1.heap[k]? :=fun k hk=>GG.block k (by have:=HFx.o k hk;omega) (by have:=HFx.o k hk;simp;omega)
  exact⟨H2.trans (GG.below (by omega) (by simp)),_,by rw[HC.o,hc,hC2],⟨_,_,_,rfl⟩,fun _=>⟨L,s',F,N,HR.o,⟨⟨_,_,_,rfl⟩,hh,yC.frame fr (fun _ h=>h) _ _ _ _ HE.o⟩,fun k hk=>by have:=HFx.o k hk;omega,hN⟩⟩
 ·have q:(C1 !=0)=true:=by simp[hc]
  have hg0:C1≠0:=hc;clear HG hc;go_wp2_with fail;have gA:=Ch.alloc [] w1 (.cells #[.int .i64 C1,.int .i64 C2] 68);have D3:=zE.new w1 #[.int .i64 C1,.int .i64 C2] 68;have B3:=B2.kp gA (by simp)
  have zA:(w1.alloc (.cells #[.int .i64 C1,.int .i64 C2] 68)).heap.size=w1.heap.size+1:=by simp
  clear b0 b1 fb;generalize w1.alloc (.cells #[.int .i64 C1,.int .i64 C2] 68)=w2 at *;generalize hq:w.heap.size=H at *;generalize hp:w1.heap.size=P at *;obtain⟨b0,b1⟩:w2.cell? ⟨H,0,none⟩=some (.int .i64 0)/\w2.cell? ⟨H,1,none⟩=some (.int .i64 0):=⟨B3.cl 0 _ rfl,B3.cl 1 _ rfl⟩;have fb:=B3.fz;obtain⟨p0,p1⟩:w2.cell? ⟨P,0,none⟩=some (.int .i64 C1)/\w2.cell? ⟨P,1,none⟩=some (.int .i64 C2):=⟨D3.cl 0 _ rfl,D3.cl 1 _ rfl⟩
  have n1:¬H=P:=by omega
  have n3:¬P=H:=by omega
  go_region;obtain⟨B5,G5⟩:=B3.fill2 (.int .i64 C1) (.int .i64 C2);have gd:=Ch.drew [] ((w2.setCell ⟨H,0,none⟩ (.int .i64 C1)).setCell ⟨H,1,none⟩ (.int .i64 C2));have B6:=B5.kp gd (by simp);have G6:=G5.trans (gd.mono (by simp));clear b0 b1 fb p0 p1 gd;generalize ((w2.setCell ⟨H,0,none⟩ (.int .i64 C1)).setCell ⟨H,1,none⟩ (.int .i64 C2)).drew=w5 at *;have m0:=B6.cl 0 _ rfl;have m1:=B6.cl 1 _ rfl;go_wp2_with fail;refine bodyPost_ret (v:= .tuple #[.slice none 0 0,.agg #[.int .i64 C1,.int .i64 C2]]) (by simp[results,Tryz.results36,go_sem,m0,m1]) rfl ?_;subst hq;refine⟨H2.trans ((gA.mono (by simp)).trans G6 |>.below (by omega) (by simp)),_,by rw[HC.o],⟨_,_,_,rfl⟩,fun e=> ?_⟩;rw[HC.o]at e;simp only[Prod.mk.injEq]at e;exact absurd e.1 hg0
end Go.Proofs.YteobgfbgglfkbaaGreat
