import Derived.Test.YteobgfbgglfkbaaGreatRC1
import Derived.Test.YteobgfbgglfkbaaGreatRD2
namespace Go.Proofs.YteobgfbgglfkbaaGreat
open Go.RowKit
attribute [local go_sem ↓] Go.wp_at_zero Go.wp_at_succ
def LitPost(w:World)(b x:Nat)(S:ByteArray)(e:Ending)(w':World):Prop:=
 Ch [b,x] w w'∧((∃L s' v F N,zCC S= .ok (L,s')∧e= .returned (.tuple #[])∧RdAt w' b S s' (.slice none 0 0) (.slice none 0 0) (.slice none 0 0)∧zAC w' x #[v] 85∧zHt w' F v L N∧(∀k,F k→w.heap.size≤k∧k<w'.heap.size)∧s'.k=N)∨(∃d,zCC S= .error d∧Gone w' b S d e))
theorem st0_inv(S:ByteArray):Inv S st0 0:=⟨Nat.zero_le _,Int.le_refl _,Int.le_refl _,Nat.zero_le _⟩
set_option maxHeartbeats 1600000 in
theorem lit_any{w:World}{b x:Nat}{S:ByteArray}(h:RdAt w b S st0 (.slice none 0 0) (.slice none 0 0) (.slice none 0 0))(hx:zAC w x #[.slice none 0 0] 85)(hS:S.size≤400)(hxb:x≠b):
  Calls Tryz.prog 65 #[.pointer (some ⟨b,0,none⟩),.pointer (some ⟨x,0,none⟩)] w (LitPost w b x S):=by
 have hbl:=h.lt;have hxl:=hx.lt;have hbx:b≠x:=Ne.symm hxb;go_enter Tryz.func65,Tryz.ntmps65;go_wp2_with fail;refine (zGl hS (S.size+1) w b st0 0 _ _ _ h (st0_inv S) (by show S.size<S.size+1+0;omega)).mono ?_;rintro e w1 ⟨g1,hpost⟩;have x1:=hx.keep g1 (by simpa using hxb);have xc:=x1.cell 0 _ rfl;have xf:=x1.frozen
 rcases hpost with ⟨L,s1,v,F,N,hr,rfl,⟨⟨ea,en,ec,rfl⟩,hh,hRE⟩,hF,h1,hk,hi1,hi2,hki⟩ | ⟨d,hr,hg⟩ | ⟨s1,v,hr,rfl,⟨ea,en,ec,rfl⟩,h1,hi1,hst,_⟩
 ·have x2:zAC (w1.setCell ⟨x,0,none⟩ (.slice ea en ec)) x #[.slice ea en ec] 85:=x1.set 0 _
  have g2:Ch [x] w1 (w1.setCell ⟨x,0,none⟩ (.slice ea en ec)):=Ch.setCell _ (by simp) _;have h2:=h1.keep g2 (by simpa using Ne.symm hxb);have E2:=zAO.frame (w':=w1.setCell ⟨x,0,none⟩ (.slice ea en ec)) (G:=F) (fun k hk=>g2.block k (hF k hk).2 (by have:=hF k hk;simp;omega)) (fun _ h=>h) _ _ _ _ hRE;have z2:=g2.size;have G2:Ch [b,x] w (w1.setCell ⟨x,0,none⟩ (.slice ea en ec)):=(g1.mono (by simp)).trans (g2.mono (by simp))
  have hk':s1.k=N:=by rw [hk];show (0:Int)+N=N;omega
  have HK:=hide hk';have HR:=hide hr;clear hr hk';obtain ⟨c0,c1,c2,c3,c4,c5,c6,c7,fz⟩:=h1.facts
  by_cases hlt:s1.i<S.size
  ·have hlt':(s1.i:Int)<S.size:=by omega
   have HS:Hid (zCC S= .error s1.i):=by show _=_;unfold zCC;rw [HR.out];simp only [if_pos hlt]
   go_wp2_with fail;refine (zAs h2).mono ?_;rintro e w3 ⟨⟨rfl,ht⟩,g3⟩;exact zAF rfl ⟨G2.trans (g3.mono (by simp)),Or.inr ⟨_,HS.out,rfl,ht⟩⟩
  ·have hge:¬(s1.i:Int)<S.size:=by omega
   have HS:Hid (zCC S= .ok (L,s1)):=by show _=_;unfold zCC;rw [HR.out];simp only [if_neg hlt]
   go_wp2_with fail
   go_end0
   exact ⟨G2,Or.inl ⟨L,s1,_,F,N,HS.out,rfl,h2,x2,⟨⟨_,_,_,rfl⟩,hh,E2⟩,fun k hk=>by have:=hF k hk;omega,HK.out⟩⟩
 ·have HS:Hid (zCC S= .error d):=by show _=_;unfold zCC;rw [hr]
  obtain ⟨rfl,ht⟩:=hg;exact zAF rfl ⟨g1.mono (by simp),Or.inr ⟨_,HS.out,rfl,ht⟩⟩
 ·have HS:Hid (zCC S= .error s1.i):=by show _=_;unfold zCC;rw [hr]
  have g2:Ch [x] w1 (w1.setCell ⟨x,0,none⟩ (.slice ea en ec)):=Ch.setCell _ (by simp) _;have h2:=h1.keep g2 (by simpa using Ne.symm hxb);have G2:Ch [b,x] w (w1.setCell ⟨x,0,none⟩ (.slice ea en ec)):=(g1.mono (by simp)).trans (g2.mono (by simp));clear hr;obtain ⟨c0,c1,c2,c3,c4,c5,c6,c7,fz⟩:=h1.facts
  have hlt':(s1.i:Int)<S.size:=by omega
  go_wp2_with fail;refine (zAs h2).mono ?_;rintro e w3 ⟨⟨rfl,ht⟩,g3⟩;exact zAF rfl ⟨G2.trans (g3.mono (by simp)),Or.inr ⟨_,HS.out,rfl,ht⟩⟩
end Go.Proofs.YteobgfbgglfkbaaGreat
namespace Go.Proofs.YteobgfbgglfkbaaGreat
open Go.RowKit
attribute [local go_sem ↓] Go.wp_at_zero Go.wp_at_succ
theorem zIB{S:ByteArray}(h:400<S.size):zBz S=(1,0):=by simp [zBz,h]
theorem zLH{S:ByteArray}(h:S.size≤400){L:Lang}{s:St}(hr:zCC S= .ok (L,s)):zBz S=(s.e,s.a):=by
 unfold zBz;rw [if_neg (by omega),hr];exact zOk (zOG hr)
theorem zJZ{S:ByteArray}(h:S.size≤400){d:Nat}(hr:zCC S= .error d):zBz S=(2,(d:Int)):=by
 unfold zBz;rw [if_neg (by omega),hr];rfl
def zN6(w:World)(S:ByteArray)(e:Ending)(w':World):Prop:=
 Below w.heap.size w w'∧∃v,e= .returned (.tuple #[v,.agg #[.int .i64 (zBz S).1,.int .i64 (zBz S).2]])∧isSl v∧
  (zBz S=(0,0)→∃L s' F N,zCC S= .ok (L,s')∧zHt w' F v L N∧(∀k,F k→w.heap.size≤k∧k<w'.heap.size)∧N≤12)
theorem zM1(args:Array Value)(w:World):Sem.run Tryz.prog (callFunc 65 args) w= .ok (.enter 65 args) w:=by
 kernel_rfl
def zHS(w w':World):Prop:=Below w.heap.size w w'∧w.heap.size+3≤w'.heap.size∧zAC w' w.heap.size #[.int .i64 0,.int .i64 0] 68
theorem zK3{w W0:World}{S:ByteArray}(hW:W0=((w.alloc (.cells #[.int .i64 0,.int .i64 0] 68)).alloc (.cells #[.string S,.int .i64 0,.int .i64 0,.int .i64 0,.int .i64 0,.slice none 0 0,.slice none 0 0,.slice none 0 0] 105)).alloc (.cells #[.slice none 0 0] 85)):
  RdAt W0 (w.heap.size+1) S st0 (.slice none 0 0) (.slice none 0 0) (.slice none 0 0)∧zHS w W0∧zAC W0 (w.heap.size+1+1) #[.slice none 0 0] 85∧W0.heap.size=w.heap.size+3:=by
 have A:=zAC.new w #[.int .i64 0,.int .i64 0] 68;generalize hw1:w.alloc (.cells #[.int .i64 0,.int .i64 0] 68)=w1 at *
 have z1:w1.heap.size=w.heap.size+1:=by rw [← hw1];simp
 have g1:Ch [] w w1:=by rw [← hw1];exact Ch.alloc _ _ _
 have B:=zAC.new w1 #[.string S,.int .i64 0,.int .i64 0,.int .i64 0,.int .i64 0,.slice none 0 0,.slice none 0 0,.slice none 0 0] 105;have g2:=Ch.alloc [] w1 (.cells #[.string S,.int .i64 0,.int .i64 0,.int .i64 0,.int .i64 0,.slice none 0 0,.slice none 0 0,.slice none 0 0] 105)
 have z2:(w1.alloc (.cells #[.string S,.int .i64 0,.int .i64 0,.int .i64 0,.int .i64 0,.slice none 0 0,.slice none 0 0,.slice none 0 0] 105)).heap.size=w1.heap.size+1:=by simp
 generalize w1.alloc (.cells #[.string S,.int .i64 0,.int .i64 0,.int .i64 0,.int .i64 0,.slice none 0 0,.slice none 0 0,.slice none 0 0] 105)=w2 at *;have g3:=Ch.alloc [] w2 (.cells #[.slice none 0 0] 85);have C:=zAC.new w2 #[.slice none 0 0] 85
 have z3:(w2.alloc (.cells #[.slice none 0 0] 85)).heap.size=w2.heap.size+1:=by simp
 rw [← hW] at g3 C z3
 have e2:w2.heap.size=w.heap.size+1+1:=by omega
 rw [e2] at C;rw [z1] at B;exact ⟨B.keep g3 (by simp),⟨((g1.trans g2).trans g3).below (Nat.le_refl _) (by simp),by omega,(A.keep g2 (by simp)).keep g3 (by simp)⟩,C,by omega⟩
theorem zHS.frame{w w1 w2:World}(h:zHS w w1){X:List Nat}(g:Ch X w1 w2)(hX:∀k,k∈X→w.heap.size<k):zHS w w2:=by
 obtain ⟨B,z,a⟩:=h;have:=g.size;have:=B.size;exact ⟨B.trans (g.below (by omega) (fun k hk=>by have:=hX k hk;omega)),by omega,a.keep g (fun hx=>by have:=hX _ hx;omega)⟩
theorem zI1{w W0:World}{S:ByteArray}(h:RdAt W0 (w.heap.size+1) S st0 (.slice none 0 0) (.slice none 0 0) (.slice none 0 0))(hh:zHS w W0)(hx:zAC W0 (w.heap.size+1+1) #[.slice none 0 0] 85)(hz:W0.heap.size=w.heap.size+3):
  Calls Tryz.prog 39 #[.pointer (some ⟨w.heap.size+1,0,none⟩),.func (.func 65) #[] #[.pointer (some ⟨w.heap.size+1,0,none⟩),.pointer (some ⟨w.heap.size+1+1,0,none⟩)]] W0 fun e w''=>
   e= .returned (.agg #[.int .i64 (zBz S).1,.int .i64 (zBz S).2])∧zHS w w''∧(zBz S=(0,0)→∃L s' v F N,zCC S= .ok (L,s')∧zAC w'' (w.heap.size+1+1) #[v] 85∧zHt w'' F v L N∧(∀k,F k→w.heap.size+3≤k∧k<w''.heap.size)∧N≤12):=by
 by_cases hS:400<S.size
 ·refine (zFn h hS).mono ?_
  rintro e w' ⟨rfl,g⟩;refine ⟨by rw [zIB hS],hh.frame g (by simp),fun e=> ?_⟩;rw [zIB hS] at e;cases e
 ·have hS':S.size≤400:=by omega
  refine (zE7 h hS' 65 #[] #[.pointer (some ⟨w.heap.size+1,0,none⟩),.pointer (some ⟨w.heap.size+1+1,0,none⟩)] zM1
   (Good:=fun s' _ _ _ w'=>zHS w w'∧w.heap.size+5≤w'.heap.size∧∃L v F N,zCC S= .ok (L,s')∧zAC w' (w.heap.size+1+1) #[v] 85∧zHt w' F v L N∧(∀k,F k→w.heap.size+5≤k∧k<w'.heap.size)∧s'.k=N)
   (Bad:=fun d w'=>zHS w w'∧w.heap.size+5≤w'.heap.size∧zCC S= .error d) ?_).mono ?_
  ·intro W hW
   have gW:Ch [] W0 W:=by rw [hW];exact (Ch.alloc _ _ _).trans (Ch.alloc _ _ _)
   have zW:W.heap.size=w.heap.size+5:=by rw [hW];simp [hz]
   have hW1:=h.keep gW (by simp);have hx1:=hx.keep gW (by simp);have HW:zHS w W:=hh.frame gW (by simp);clear hW;refine (lit_any hW1 hx1 hS' (by omega)).mono ?_;rintro e w' ⟨B,hr⟩;have HW':zHS w w':=HW.frame B (by simp;omega);have zB:=B.size;refine ⟨B.size,B.block _ (by omega) (by simp;omega),B.block _ (by omega) (by simp;omega),?_⟩
   rcases hr with ⟨L,s',v,F,N,hr,rfl,h1,x1,hE,hF,hk⟩ | ⟨d,hr,hg⟩
   ·exact Or.inl ⟨s',_,_,_,rfl,h1,HW',by omega,L,v,F,N,hr,x1,hE,fun k hk=>by have:=hF k hk;omega,hk⟩
   ·exact Or.inr ⟨d,hg,HW',by omega,hr⟩
  ·rintro e w'' ⟨w',g,⟨s',u5,u6,u7,rfl,h1,HW,z,L,v,F,N,hr,x1,⟨hv,hh,hE⟩,hF,hk⟩ | ⟨d,rfl,HW,z,hr⟩⟩
   ·rw [hz] at g
    have zg:=g.size;refine ⟨by rw [zLH hS' hr],HW.frame g (by simp;omega),fun he=>⟨L,s',v,F,N,hr,x1.keep g (by simp),⟨hv,hh,zAO.frame (fun k hk=>g.block k (hF k hk).2 (by have:=hF k hk;simp;omega)) (fun _ h=>h) _ _ _ _ hE⟩,fun k hk=>by have:=hF k hk;omega,?_⟩⟩;rw [zLH hS' hr] at he;simp only [Prod.mk.injEq] at he;have:=(zOG hr he.1).2;omega
   ·rw [hz] at g
    refine ⟨by rw [zJZ hS' hr],HW.frame g (by simp;omega),fun e=> ?_⟩;rw [zJZ hS' hr] at e;cases e
set_option maxHeartbeats 1600000 in
set_option maxRecDepth 100000 in
theorem zPQ{w:World}(S:ByteArray):Calls Tryz.prog 36 #[.string S] w (zN6 w S):=by
 have hmf:∀(fn:Fn) (first cap:Array Value) (w:World),(Instr.makeFunc fn first cap).run Tryz.prog w= .ok (.func fn first cap) w:=fun _ _ _ _=>rfl
 go_enter Tryz.func36,Tryz.ntmps36;go_wp2_with fail;generalize hW0:((w.alloc (.cells #[.int .i64 0,.int .i64 0] 68)).alloc (.cells #[.string S,.int .i64 0,.int .i64 0,.int .i64 0,.int .i64 0,.slice none 0 0,.slice none 0 0,.slice none 0 0] 105)).alloc (.cells #[.slice none 0 0] 85)=W0;obtain ⟨h0,hh,hx0,hz⟩:=zK3 hW0.symm;clear hW0;refine (zI1 h0 hh hx0 hz).mono ?_;rintro e w1 ⟨rfl,⟨H2,z2,B2⟩,hgood⟩;have HG:=hide hgood;clear hgood;obtain ⟨b0,b1⟩:w1.cell? ⟨w.heap.size,0,none⟩=some (.int .i64 0)∧w1.cell? ⟨w.heap.size,1,none⟩=some (.int .i64 0):=⟨B2.cell 0 _ rfl,B2.cell 1 _ rfl⟩;have fb:=B2.frozen;generalize hC:zBz S=C at *;obtain ⟨C1,C2⟩:=C;have HC:=hide hC;clear hC
 by_cases hc:C1=0
 ·have q:(C1 !=0)=false:=by simp [hc]
  have hC2:C2=0:=zES HC.out hc;obtain ⟨L,s',v,F,N,hr,x1,⟨⟨ea,en,ec,rfl⟩,hh,hE⟩,hF,hN⟩:=HG.out (by rw [hc,hC2]);have HR:=hide hr;have HE:=hide hE;have HF:=hide hF;have xc:=x1.cell 0 _ rfl;clear hr hE HG hF;go_wp2_with fail;have gA:=Ch.alloc [] w1 (.cells #[.int .i64 0,.int .i64 0] 68);have D3:=zAC.new w1 #[.int .i64 0,.int .i64 0] 68;have B3:=B2.keep gA (by simp);have x3:=x1.keep gA (by simp)
  have zA:(w1.alloc (.cells #[.int .i64 0,.int .i64 0] 68)).heap.size=w1.heap.size+1:=by simp
  clear b0 b1 fb xc;generalize w1.alloc (.cells #[.int .i64 0,.int .i64 0] 68)=w2 at *;have HF':=HF.out;generalize hq:w.heap.size=H at *;generalize hp:w1.heap.size=P at *;have HFx:=hide HF';clear HF' HF;have xc:=x3.cell 0 _ rfl;obtain ⟨b0,b1⟩:w2.cell? ⟨H,0,none⟩=some (.int .i64 0)∧w2.cell? ⟨H,1,none⟩=some (.int .i64 0):=⟨B3.cell 0 _ rfl,B3.cell 1 _ rfl⟩;have fb:=B3.frozen;obtain ⟨p0,p1⟩:w2.cell? ⟨P,0,none⟩=some (.int .i64 0)∧w2.cell? ⟨P,1,none⟩=some (.int .i64 0):=⟨D3.cell 0 _ rfl,D3.cell 1 _ rfl⟩
  have n1:¬H=P:=by omega
  have n3:¬P=H:=by omega
  go_region;obtain ⟨B5,G5⟩:=B3.fill2 (.int .i64 0) (.int .i64 0);have gd:=Ch.drew [] ((w2.setCell ⟨H,0,none⟩ (.int .i64 0)).setCell ⟨H,1,none⟩ (.int .i64 0));have B6:=B5.keep gd (by simp);have G6:=G5.trans (gd.mono (by simp));clear b0 b1 fb p0 p1 xc gd;generalize ((w2.setCell ⟨H,0,none⟩ (.int .i64 0)).setCell ⟨H,1,none⟩ (.int .i64 0)).drew=w5 at *;have m0:=B6.cell 0 _ rfl;have m1:=B6.cell 1 _ rfl;have z6:=G6.size;go_wp2_with fail;refine bodyPost_ret (v:= .tuple #[.slice ea en ec,.agg #[.int .i64 0,.int .i64 0]]) (by simp [results,Tryz.results36,go_sem,m0,m1]) rfl ?_;have GG:Ch [H] w1 w5:=(gA.mono (by simp)).trans G6;subst hq
  have fr:∀k,F k→w5.heap[k]? =w1.heap[k]? :=fun k hk=>GG.block k (by have:=HFx.out k hk;omega) (by have:=HFx.out k hk;simp;omega)
  exact ⟨H2.trans (GG.below (by omega) (by simp)),_,by rw [HC.out,hc,hC2],⟨_,_,_,rfl⟩,fun _=>⟨L,s',F,N,HR.out,⟨⟨_,_,_,rfl⟩,hh,zAO.frame fr (fun _ h=>h) _ _ _ _ HE.out⟩,fun k hk=>by have:=HFx.out k hk;omega,hN⟩⟩
 ·have q:(C1 !=0)=true:=by simp [hc]
  have hg0:C1≠0:=hc;clear HG hc;go_wp2_with fail;have gA:=Ch.alloc [] w1 (.cells #[.int .i64 C1,.int .i64 C2] 68);have D3:=zAC.new w1 #[.int .i64 C1,.int .i64 C2] 68;have B3:=B2.keep gA (by simp)
  have zA:(w1.alloc (.cells #[.int .i64 C1,.int .i64 C2] 68)).heap.size=w1.heap.size+1:=by simp
  clear b0 b1 fb;generalize w1.alloc (.cells #[.int .i64 C1,.int .i64 C2] 68)=w2 at *;generalize hq:w.heap.size=H at *;generalize hp:w1.heap.size=P at *;obtain ⟨b0,b1⟩:w2.cell? ⟨H,0,none⟩=some (.int .i64 0)∧w2.cell? ⟨H,1,none⟩=some (.int .i64 0):=⟨B3.cell 0 _ rfl,B3.cell 1 _ rfl⟩;have fb:=B3.frozen;obtain ⟨p0,p1⟩:w2.cell? ⟨P,0,none⟩=some (.int .i64 C1)∧w2.cell? ⟨P,1,none⟩=some (.int .i64 C2):=⟨D3.cell 0 _ rfl,D3.cell 1 _ rfl⟩
  have n1:¬H=P:=by omega
  have n3:¬P=H:=by omega
  go_region;obtain ⟨B5,G5⟩:=B3.fill2 (.int .i64 C1) (.int .i64 C2);have gd:=Ch.drew [] ((w2.setCell ⟨H,0,none⟩ (.int .i64 C1)).setCell ⟨H,1,none⟩ (.int .i64 C2));have B6:=B5.keep gd (by simp);have G6:=G5.trans (gd.mono (by simp));clear b0 b1 fb p0 p1 gd;generalize ((w2.setCell ⟨H,0,none⟩ (.int .i64 C1)).setCell ⟨H,1,none⟩ (.int .i64 C2)).drew=w5 at *;have m0:=B6.cell 0 _ rfl;have m1:=B6.cell 1 _ rfl;go_wp2_with fail;refine bodyPost_ret (v:= .tuple #[.slice none 0 0,.agg #[.int .i64 C1,.int .i64 C2]]) (by simp [results,Tryz.results36,go_sem,m0,m1]) rfl ?_;subst hq;refine ⟨H2.trans ((gA.mono (by simp)).trans G6 |>.below (by omega) (by simp)),_,by rw [HC.out],⟨_,_,_,rfl⟩,fun e=> ?_⟩;rw [HC.out] at e;simp only [Prod.mk.injEq] at e;exact absurd e.1 hg0
end Go.Proofs.YteobgfbgglfkbaaGreat
