import Derived.Test.YteobgfbgglfkbaaGreatJP3
import Derived.Laws.EntriesVeiled
namespace Go.Proofs.YteobgfbgglfkbaaGreat
open Go.RowKit
attribute [local go_sem ↓] Go.wp_at_zero Go.wp_at_succ
def zEY(w:World)(D:zAE)(mv:Value):Prop:=
 (D.swap=true∧mv= .iface 182 (.agg #[.string D.one,.string D.two]))∨
 (D.swap=false∧∃rb,mv= .iface 183 (.pointer (some ⟨rb,0,none⟩))∧zAD w rb (zBe fun j=>zCE D.rules (UInt8.ofNat j)) 219)
def zI8(w:World)(lo:Nat)(D:zAE)(mv:Value):Prop:=zEY w D mv∧∀rb,mv= .iface 183 (.pointer (some ⟨rb,0,none⟩))→lo≤rb
set_option maxHeartbeats 800000 in
theorem new_any{w:World}{F:Nat→Prop}{D:zAE}{vr:Value}(hr:zAm w F vr D.rules)(hD:zAb D):
  Calls Tryz.prog 45 #[.agg #[.string D.name,.int .i64 (if D.swap then 1 else 0),vr,.string D.one,.string D.two]] w fun e w'=>∃mv,e= .returned mv∧zI8 w' w.heap.size D mv∧Ch [] w w':=by
 obtain ⟨nm,sw,one,two,R⟩:=D;simp only at hr ⊢
 have hvs:∃a n c,vr= .slice a n c:=by
  obtain ⟨_,rv,_,ho,_⟩:=hr;obtain ⟨a,c,rfl⟩:=zAC ho;exact ⟨_,_,_,rfl⟩
 obtain ⟨ra,rn,rc,rfl⟩:=hvs
 cases sw with
 |true=>
  go_enter Tryz.func45,Tryz.ntmps45;go_wp2_with fail;go_ret;exact ⟨_,rfl,⟨Or.inl ⟨rfl,rfl⟩,fun rb e=>by injection e with e;exact absurd e (by decide)⟩,Ch.alloc _ _ _⟩
 |false=>
  have g0:=Ch.alloc [] w (.cells #[.string nm,.int .i64 0,.slice ra rn rc,.string one,.string two] 118);have HR:=hide (hr.keep g0)
  have z0:(w.alloc (.cells #[.string nm,.int .i64 0,.slice ra rn rc,.string one,.string two] 118)).heap.size=w.heap.size+1:=by simp
  have HO:=hide hD.2;clear hr hD;go_enter Tryz.func45,Tryz.ntmps45;go_wp2_with fail;generalize w.alloc (.cells #[.string nm,.int .i64 0,.slice ra rn rc,.string one,.string two] 118)=w0 at *;refine (zI0 HR.out HO.out.1 (by have:R.length≤6:=HO.out.2;omega)).mono ?_;rintro e w1 ⟨rfl,B1,g1⟩;have B1x:=hide B1;clear B1;go_wp2_with fail;go_ret;refine ⟨.iface 183 (.pointer (some ⟨w0.heap.size,0,none⟩)),?_,⟨Or.inr ⟨rfl,w0.heap.size,rfl,B1x.out⟩,fun rb e=> ?_⟩,g0.trans g1⟩
  ·rw [z0];rfl
  ·injection e with _ e
   injection e with e
   injection e with e
   injection e with e
   omega
theorem zMh{w:World}:Calls Tryz.prog 43 #[] w fun e w'=>e= .returned (.agg #[.func (.func 80) #[] #[],.func (.func 82) #[] #[]])∧Ch [] w w':=by
 have B0:=zAD.new w #[.func (.func 80) #[] #[],.func (.func 82) #[] #[]] 77;go_enter Tryz.func43,Tryz.ntmps43;go_wp2_with fail;have c0:=B0.cell 0 _ rfl;have c1:=B0.cell 1 _ rfl;exact bodyPost_ret (v:= .agg #[.func (.func 80) #[] #[],.func (.func 82) #[] #[]]) (by simp [results,Tryz.results43,go_sem,c0,c1]) rfl ⟨rfl,Ch.alloc _ _ _⟩
def zA9(w:World):List zAE→Nat→Value→Value→Prop
 |[],_,pv,ev=>pv= .func (.func 80) #[] #[]∧ev= .func (.func 82) #[] #[]
 |D:: Ds,k,pv,ev=>∃M N R P mv rp re,
   pv= .func (.func 84) #[] #[.pointer (some ⟨M,0,none⟩),.pointer (some ⟨N,0,none⟩),.pointer (some ⟨P,0,none⟩)]∧
   ev= .func (.func 85) #[] #[.pointer (some ⟨P,0,none⟩),.pointer (some ⟨M,0,none⟩),.pointer (some ⟨N,0,none⟩),.pointer (some ⟨R,0,none⟩)]∧
   zAD w M #[mv] 113∧zEY w D mv∧zAD w N #[.int .i64 k] 3∧zAD w P #[.func (.func 83) #[] #[.pointer (some ⟨R,0,none⟩)]] 177∧zAD w R #[rp,re] 77∧zA9 w Ds (k+1) rp re
def Kp(w w':World):Prop:=∀k cs T,zAD w k cs T→T≠5→T≠122→T≠126→zAD w' k cs T
theorem Kp.ch{w w':World}(g:Ch [] w w'):Kp w w':=fun _ _ _ h _ _ _=>h.keep g (by simp)
theorem Kp.trans{w1 w2 w3:World}(h:Kp w1 w2)(g:Kp w2 w3):Kp w1 w3:=fun k cs T a b c d=>g k cs T (h k cs T a b c d) b c d
theorem Fr.kp{w w':World}{B st b:Nat}{cs:Array Value}{l:List UInt8}(h:Fr B st b w w')(hs:zAD w st cs 122)(hb:IsB w B b l):Kp w w':=by
 intro k ks T hk h1 h2 h3;refine h.blk hk ?_ ?_ h1
 ·rintro rfl
  have:=hk.symm.trans hs
  injection this with this
  injection this with _ e _
  exact h2 e
 ·rintro rfl
  obtain ⟨c,hc⟩:=hb.kind;have:=hk.symm.trans hc
  injection this with this
  injection this with _ e _
  exact h3 e
theorem zEY.kp{w w':World}{D:zAE}{mv:Value}(h:zEY w D mv)(g:Kp w w'):zEY w' D mv:=by
 rcases h with h | ⟨h1,rb,h2,h3⟩
 ·exact Or.inl h
 ·exact Or.inr ⟨h1,rb,h2,g _ _ _ h3 (by decide) (by decide) (by decide)⟩
theorem zA9.kp{w w':World}(g:Kp w w'):∀(Ds:List zAE) (k:Nat) (pv ev:Value),zA9 w Ds k pv ev→zA9 w' Ds k pv ev
 |[],_,_,_,h=>h
 |D:: Ds,k,pv,ev,⟨M,N,R,P,mv,rp,re,h1,h2,h3,h4,h5,h6,h7,h8⟩=>
  ⟨M,N,R,P,mv,rp,re,h1,h2,g _ _ _ h3 (by decide) (by decide) (by decide),h4.kp g,g _ _ _ h5 (by decide) (by decide) (by decide),g _ _ _ h6 (by decide) (by decide) (by decide),g _ _ _ h7 (by decide) (by decide) (by decide),zA9.kp g Ds (k+1) rp re h8⟩
theorem zA9.funcs{w:World}:∀{Ds:List zAE} {k:Nat} {pv ev:Value},zA9 w Ds k pv ev→∃n m c d,pv= .func (.func n) #[] c∧ev= .func (.func m) #[] d∧(∀(args:Array Value) (W:World),Sem.run Tryz.prog (callFunc n args) W= .ok (.enter n args) W)∧(∀(args:Array Value) (W:World),Sem.run Tryz.prog (callFunc m args) W= .ok (.enter m args) W)
 |[],_,_,_,⟨h1,h2⟩=>⟨_,_,_,_,h1,h2,fun _ _=>by kernel_rfl,fun _ _=>by kernel_rfl⟩
 |_:: _,_,_,_,⟨_,_,_,_,_,_,_,h1,h2,_⟩=>⟨_,_,_,_,h1,h2,fun _ _=>by kernel_rfl,fun _ _=>by kernel_rfl⟩
def zCF(w:World)(lo:Nat):List zAE→Nat→Value→Value→Prop
 |[],_,pv,ev=>pv= .func (.func 80) #[] #[]∧ev= .func (.func 82) #[] #[]
 |D:: Ds,k,pv,ev=>∃M N R P mv rp re,
   pv= .func (.func 84) #[] #[.pointer (some ⟨M,0,none⟩),.pointer (some ⟨N,0,none⟩),.pointer (some ⟨P,0,none⟩)]∧
   ev= .func (.func 85) #[] #[.pointer (some ⟨P,0,none⟩),.pointer (some ⟨M,0,none⟩),.pointer (some ⟨N,0,none⟩),.pointer (some ⟨R,0,none⟩)]∧
   (lo≤M∧lo≤N∧lo≤R∧lo≤P)∧zAD w M #[mv] 113∧zI8 w lo D mv∧zAD w N #[.int .i64 k] 3∧zAD w P #[.func (.func 83) #[] #[.pointer (some ⟨R,0,none⟩)]] 177∧zAD w R #[rp,re] 77∧zCF w lo Ds (k+1) rp re
theorem zCF.toV{w:World}{lo:Nat}:∀{Ds:List zAE} {k:Nat} {pv ev:Value},zCF w lo Ds k pv ev→zA9 w Ds k pv ev
 |[],_,_,_,h=>h
 |_:: _,_,_,_,⟨M,N,R,P,mv,rp,re,h1,h2,_,h3,h4,h5,h6,h7,h8⟩=>⟨M,N,R,P,mv,rp,re,h1,h2,h3,h4.1,h5,h6,h7,h8.toV⟩
theorem zI8.keep{w w':World}{lo:Nat}{X:List Nat}{D:zAE}{mv:Value}(g:Ch X w w')(hX:∀k,k∈X→k<lo)(h:zI8 w lo D mv):zI8 w' lo D mv:=by
 obtain ⟨h,hl⟩:=h;refine ⟨?_,hl⟩
 rcases h with h | ⟨h1,rb,h2,h3⟩
 ·exact Or.inl h
 ·exact Or.inr ⟨h1,rb,h2,h3.keep g (fun e=>by have:=hX rb e;have:=hl rb h2;omega)⟩
theorem zCF.keep{w w':World}{lo:Nat}{X:List Nat}(g:Ch X w w')(hX:∀k,k∈X→k<lo):∀(Ds:List zAE) (k:Nat) (pv ev:Value),zCF w lo Ds k pv ev→zCF w' lo Ds k pv ev
 |[],_,_,_,h=>h
 |D:: Ds,k,pv,ev,⟨M,N,R,P,mv,rp,re,h1,h2,h0,h3,h4,h5,h6,h7,h8⟩=>
  ⟨M,N,R,P,mv,rp,re,h1,h2,h0,h3.keep g (fun e=>by have:=hX _ e;omega),h4.keep g hX,h5.keep g (fun e=>by have:=hX _ e;omega),h6.keep g (fun e=>by have:=hX _ e;omega),h7.keep g (fun e=>by have:=hX _ e;omega),zCF.keep g hX Ds (k+1) rp re h8⟩
set_option maxHeartbeats 800000 in
theorem zM2{w:World}{D:zAE}{Ds:List zAE}{mv rp re:Value}{n lo:Nat}(hlo:lo≤w.heap.size)(hm:zI8 w lo D mv)(hc:zCF w lo Ds (n+1) rp re):Calls Tryz.prog 44 #[mv,.int .i64 n,.agg #[rp,re]] w fun e w'=>∃pv ev,e= .returned (.agg #[pv,ev])∧zCF w' lo (D:: Ds) n pv ev∧Ch [] w w':=by
 have hmf:∀(fn:Fn) (first cap:Array Value) (w:World),(Instr.makeFunc fn first cap).run Tryz.prog w= .ok (.func fn first cap) w:=fun _ _ _ _=>rfl
 obtain ⟨t,u,rfl⟩:∃t u,mv= .iface t u:=by
  rcases hm.1 with ⟨_,h⟩ | ⟨_,rb,h,_⟩
  ·exact ⟨_,_,h⟩
  ·exact ⟨_,_,h⟩
 obtain ⟨f1,f2,c1,c2,rfl,rfl,_,_⟩:=hc.toV.funcs;have HM:=hide hm;have HC:=hide hc;clear hm hc;have B0:=zAD.new w #[.iface t u] 113;have g0:=Ch.alloc [] w (.cells #[.iface t u] 113)
 have z0:(w.alloc (.cells #[.iface t u] 113)).heap.size=w.heap.size+1:=by simp
 generalize hw0:w.alloc (.cells #[.iface t u] 113)=w0 at *;have B1:=zAD.new w0 #[.int .i64 n] 3;have g1:=Ch.alloc [] w0 (.cells #[.int .i64 n] 3)
 have z1:(w0.alloc (.cells #[.int .i64 n] 3)).heap.size=w0.heap.size+1:=by simp
 generalize hw1:w0.alloc (.cells #[.int .i64 n] 3)=w1 at *;have B2:=zAD.new w1 #[.func (.func f1) #[] c1,.func (.func f2) #[] c2] 77;have g2:=Ch.alloc [] w1 (.cells #[.func (.func f1) #[] c1,.func (.func f2) #[] c2] 77)
 have z2:(w1.alloc (.cells #[.func (.func f1) #[] c1,.func (.func f2) #[] c2] 77)).heap.size=w1.heap.size+1:=by simp
 generalize hw2:w1.alloc (.cells #[.func (.func f1) #[] c1,.func (.func f2) #[] c2] 77)=w2 at *;have B3:=zAD.new w2 #[.func (.func 84) #[] #[.pointer (some ⟨w.heap.size,0,none⟩),.pointer (some ⟨w.heap.size+1,0,none⟩),.pointer (some ⟨w.heap.size+1+1+1+1,0,none⟩)],.func (.func 85) #[] #[.pointer (some ⟨w.heap.size+1+1+1+1,0,none⟩),.pointer (some ⟨w.heap.size,0,none⟩),.pointer (some ⟨w.heap.size+1,0,none⟩),.pointer (some ⟨w.heap.size+1+1,0,none⟩)]] 77;have g3:=Ch.alloc [] w2 (.cells #[.func (.func 84) #[] #[.pointer (some ⟨w.heap.size,0,none⟩),.pointer (some ⟨w.heap.size+1,0,none⟩),.pointer (some ⟨w.heap.size+1+1+1+1,0,none⟩)],.func (.func 85) #[] #[.pointer (some ⟨w.heap.size+1+1+1+1,0,none⟩),.pointer (some ⟨w.heap.size,0,none⟩),.pointer (some ⟨w.heap.size+1,0,none⟩),.pointer (some ⟨w.heap.size+1+1,0,none⟩)]] 77)
 have z3:(w2.alloc (.cells #[.func (.func 84) #[] #[.pointer (some ⟨w.heap.size,0,none⟩),.pointer (some ⟨w.heap.size+1,0,none⟩),.pointer (some ⟨w.heap.size+1+1+1+1,0,none⟩)],.func (.func 85) #[] #[.pointer (some ⟨w.heap.size+1+1+1+1,0,none⟩),.pointer (some ⟨w.heap.size,0,none⟩),.pointer (some ⟨w.heap.size+1,0,none⟩),.pointer (some ⟨w.heap.size+1+1,0,none⟩)]] 77)).heap.size=w2.heap.size+1:=by simp
 generalize hw3:w2.alloc (.cells #[.func (.func 84) #[] #[.pointer (some ⟨w.heap.size,0,none⟩),.pointer (some ⟨w.heap.size+1,0,none⟩),.pointer (some ⟨w.heap.size+1+1+1+1,0,none⟩)],.func (.func 85) #[] #[.pointer (some ⟨w.heap.size+1+1+1+1,0,none⟩),.pointer (some ⟨w.heap.size,0,none⟩),.pointer (some ⟨w.heap.size+1,0,none⟩),.pointer (some ⟨w.heap.size+1+1,0,none⟩)]] 77)=w3 at *;have B4:=zAD.new w3 #[.func (.func 83) #[] #[.pointer (some ⟨w.heap.size+1+1,0,none⟩)]] 177;have g4:=Ch.alloc [] w3 (.cells #[.func (.func 83) #[] #[.pointer (some ⟨w.heap.size+1+1,0,none⟩)]] 177);generalize hw4:w3.alloc (.cells #[.func (.func 83) #[] #[.pointer (some ⟨w.heap.size+1+1,0,none⟩)]] 177)=w4 at *
 have e1:w0.heap.size=w.heap.size+1:=by omega
 have e2:w1.heap.size=w.heap.size+1+1:=by omega
 have e3:w2.heap.size=w.heap.size+1+1+1:=by omega
 have e4:w3.heap.size=w.heap.size+1+1+1+1:=by omega
 rw [e1] at B1;rw [e2] at B2;rw [e3] at B3;rw [e4] at B4;have G:Ch [] w w4:=g0.trans (g1.trans (g2.trans (g3.trans g4)));have A3:=B3.keep g4 (by simp)
 have REL:Hid (zCF w4 lo (D:: Ds) n (.func (.func 84) #[] #[.pointer (some ⟨w.heap.size,0,none⟩),.pointer (some ⟨w.heap.size+1,0,none⟩),.pointer (some ⟨w.heap.size+1+1+1+1,0,none⟩)]) (.func (.func 85) #[] #[.pointer (some ⟨w.heap.size+1+1+1+1,0,none⟩),.pointer (some ⟨w.heap.size,0,none⟩),.pointer (some ⟨w.heap.size+1,0,none⟩),.pointer (some ⟨w.heap.size+1+1,0,none⟩)])):=
  ⟨_,_,_,_,_,_,_,rfl,rfl,⟨hlo,by omega,by omega,by omega⟩,B0.keep (g1.trans (g2.trans (g3.trans g4))) (by simp),HM.out.keep G (by simp),B1.keep (g2.trans (g3.trans g4)) (by simp),B4,B2.keep (g3.trans g4) (by simp),zCF.keep G (by simp) _ _ _ _ HC.out⟩
 have c0:=A3.cell 0 _ rfl;have c1:=A3.cell 1 _ rfl;have HG:=hide G;clear B0 g0 z0 B1 g1 z1 B2 g2 z2 B3 g3 z3 B4 g4 e1 e2 e3 e4 A3 G;have H4:=hide hw4;have H3:=hide hw3;have H2:=hide hw2;have H1:=hide hw1;have H0:=hide hw0;clear hw4 hw3 hw2 hw1 hw0;go_enter Tryz.func44,Tryz.ntmps44;go_wp2_with fail;rw [H0.out,H1.out,H2.out,H3.out,H4.out];refine bodyPost_ret (v:= .agg #[.func (.func 84) #[] #[.pointer (some ⟨w.heap.size,0,none⟩),.pointer (some ⟨w.heap.size+1,0,none⟩),.pointer (some ⟨w.heap.size+1+1+1+1,0,none⟩)],.func (.func 85) #[] #[.pointer (some ⟨w.heap.size+1+1+1+1,0,none⟩),.pointer (some ⟨w.heap.size,0,none⟩),.pointer (some ⟨w.heap.size+1,0,none⟩),.pointer (some ⟨w.heap.size+1+1,0,none⟩)]]) (by simp [results,Tryz.results44,go_sem,c0,c1]) rfl ⟨_,_,rfl,REL.out,HG.out⟩
end Go.Proofs.YteobgfbgglfkbaaGreat
namespace Go.Proofs.YteobgfbgglfkbaaGreat
open Go.RowKit
attribute [local go_sem ↓] Go.wp_at_zero Go.wp_at_succ
def stC(A:List Nat):Array Value:=(A.map fun h=>Value.int .u8 (h:Nat)).toArray
def StAt(w:World)(st:Nat)(A:List Nat):Prop:=zAD w st (stC A) 122∧A.length=3
theorem stC_set(pre:List Nat)(h h':Nat)(hs:List Nat):(stC (pre++h:: hs)).setIfInBounds pre.length (.int .u8 (h':Nat))=stC (pre++h':: hs):=by
 simp [stC]
theorem StAt.cell{w:World}{st:Nat}{pre:List Nat}{h:Nat}{hs:List Nat}(H:StAt w st (pre++h:: hs)):w.cell? ⟨st,pre.length,none⟩=some (.int .u8 (h:Nat)):=
 H.1.cell _ _ (by simp [stC])
theorem StAt.set{w:World}{st:Nat}{pre:List Nat}{h:Nat}{hs:List Nat}(H:StAt w st (pre++h:: hs))(h':Nat):StAt (w.setCell ⟨st,pre.length,none⟩ (.int .u8 (h':Nat))) st (pre++h':: hs):=
 ⟨by have:=H.1.set pre.length (.int .u8 (h':Nat));rw [stC_set] at this;exact this,by have:=H.2;simpa using this⟩
theorem StAt.kind{w:World}{st:Nat}{A:List Nat}(H:StAt w st A):∀c fz,w.heap[st]? ≠some (.cells c 5 fz):=by
 intro c fz e;have:=H.1.symm.trans e
 injection this with this
 injection this with _ e _
 exact absurd e (by decide)
theorem StAt.ne{w:World}{B st b:Nat}{A:List Nat}{l:List UInt8}(H:StAt w st A)(hb:IsB w B b l):st≠b:=by
 rintro rfl;obtain ⟨c,hc⟩:=hb.kind;have:=H.1.symm.trans hc
 injection this with this
 injection this with _ e _
 exact absurd e (by decide)
theorem StAt.frb{w w':World}{B st b:Nat}{A:List Nat}{l:List UInt8}(H:StAt w st A)(hb:IsB w B b l)(f:Fr B b b w w'):StAt w' st A:=
 ⟨f.blk H.1 (H.ne hb) (H.ne hb) (by decide),H.2⟩
theorem Fr.weaken{B st b:Nat}{w w':World}(h:Fr B b b w w'):Fr B st b w w':=⟨h.1,fun k o hk _ h2 h3=>h.2 k o hk h2 h2 h3⟩
theorem zHS(Ds:List zAE)(hs:List Nat)(xs:List UInt8)(j:Nat):(zAT Ds hs (xs.take j)).2.length≤(zAT Ds hs xs).2.length:=by
 have:=zDF Ds hs (xs.take j) (xs.drop j);rw [List.take_append_drop] at this;rw [this];simp
theorem zEI(Ds:List zAE)(hs:List Nat){xs:List UInt8}{j:Nat}(hj:j<xs.length):zAT Ds hs (xs.take (j+1))=((zAT Ds (zAT Ds hs (xs.take j)).1 [xs[j]]).1,(zAT Ds hs (xs.take j)).2++(zAT Ds (zAT Ds hs (xs.take j)).1 [xs[j]]).2):=by
 rw [List.take_succ_eq_append_getElem hj,zDF]
theorem zBL.len:∀{Ds:List zAE} {hs:List Nat},zBL Ds hs→Ds.length≤hs.length
 |[],_,_=>Nat.zero_le _
 |_:: _,[],h=>h.elim
 |_:: _,_:: _,h=>by simp only [List.length_cons];have:=h.2.len;omega
def zBR(B st b:Nat)(pre:List Nat)(l:List UInt8)(r:List Nat×List UInt8)(w:World)(e:Ending)(w':World):Prop:=
 e= .returned (.tuple #[])∧StAt w' st (pre++r.1)∧IsB w' B b (l++r.2)∧Fr B st b w w'
def zN6(Ds:List zAE)(k n:Nat)(cap:Array Value):Prop:=
 ∀(w:World) (re:Value) (B st b:Nat) (pre hs:List Nat) (l:List UInt8) (c:UInt8),zA9 w Ds k (.func (.func n) #[] cap) re→pre.length=k→zBL Ds hs→StAt w st (pre++hs)→IsB w B b l→B≤st→l.length+(zAT Ds hs [c]).2.length≤140737488355328→
  Calls Tryz.prog n (#[.pointer (some ⟨st,0,none⟩),.int .u8 c.toNat,.pointer (some ⟨b,0,none⟩)]++cap) w (zBR B st b pre l (zAT Ds hs [c]) w)
theorem put_nil(k:Nat):zN6 [] k 80 #[]:=by
 intro w re B st b pre hs l c _ _ _ HS HB hB hl;have hl':l.length+1≤140737488355328:=hl;go_enter Tryz.func80,Tryz.ntmps80;go_wp2_with fail;refine (zCt b HB c hl' (by have:=HB.lt;omega)).mono ?_;rintro e w1 ⟨rfl,I1,f1⟩;have I1x:=hide I1;clear I1;go_wp2_with fail
 go_end0
 exact ⟨rfl,HS.frb HB f1,I1x.out,f1.weaken⟩
theorem zBR.more{B st b:Nat}{pre:List Nat}{l:List UInt8}{Ds:List zAE}{hs:List Nat}{text:List UInt8}{j:Nat}(hj:j<text.length){w w5 w6:World}{e5 e6:Ending}(h5:zBR B st b pre l (zAT Ds hs (text.take j)) w e5 w5)(h6:zBR B st b pre (l++(zAT Ds hs (text.take j)).2) (zAT Ds (zAT Ds hs (text.take j)).1 [text[j]]) w5 e6 w6):zBR B st b pre l (zAT Ds hs (text.take (j+1))) w (.returned (.tuple #[])) w6:=by
 refine ⟨rfl,?_,?_,h5.2.2.2.trans h6.2.2.2⟩
 ·rw [zEI Ds hs hj];exact h6.2.1
 ·rw [zEI Ds hs hj];have:=h6.2.2.1;rwa [List.append_assoc] at this
set_option maxRecDepth 100000 in
set_option maxHeartbeats 1600000 in
theorem zKk{Ds:List zAE}{k n:Nat}{cap:Array Value}{w:World}{re:Value}{B st b R:Nat}{pre hs:List Nat}{l text:List UInt8}(HP:zN6 Ds k n cap)(hen:∀(args:Array Value) (W:World),Sem.run Tryz.prog (callFunc n args) W= .ok (.enter n args) W)(hD:∀D,D∈Ds→zAb D)
  (hR:zAD w R #[.func (.func n) #[] cap,re] 77) (hc:zA9 w Ds k (.func (.func n) #[] cap) re) (hk:pre.length=k) (hh:zBL Ds hs) (HS:StAt w st (pre++hs)) (HB:IsB w B b l) (hB:B≤st) (ht:text.length≤400) (hl:l.length+(zAT Ds hs text).2.length≤140737488355328):
  Calls Tryz.prog 83 #[.pointer (some ⟨st,0,none⟩),.string (str text),.pointer (some ⟨b,0,none⟩),.pointer (some ⟨R,0,none⟩)] w (zBR B st b pre l (zAT Ds hs text) w):=by
 have hsz:(str text).size≤400:=by rw [zA1];exact ht
 have HZ:=hide (zA1 text);have HHP:=hide HP;clear HP;go_enter Tryz.func83,Tryz.ntmps83;go_wp2_with fail
 go_loopw [7,10] (fun _ i w5=>∃j:Nat,j≤(str text).size∧i= .int .i64 j∧Hid (zBR B st b pre l (zAT Ds hs (text.take j)) w (.returned (.tuple #[])) w5)∧Hid (zA9 w5 Ds k (.func (.func n) #[] cap) re)∧Hid (zAD w5 R #[.func (.func n) #[] cap,re] 77)) (fun _ i _=>(str text).size - (intOf i).toNat)
 case atStart=>exact ⟨0,Nat.zero_le _,rfl,by
   show zBR _ _ _ _ _ _ _ _ _
   rw [List.take_zero,zEl Ds hs hh.len]
   exact ⟨rfl,HS,by simpa using HB,Fr.refl _ _ _ _⟩,hc,hR⟩
 case round=>
  obtain ⟨j,hj,rfl,H5,C5,R5⟩:=hrel
  by_cases hlt:(j:Int)<(str text).size
  ·have d0:=R5.out.cell 0 _ rfl
   have hlt':j<text.length:=by have:=HZ.out;omega
   have HX:∀h:j<(str text).size,(str text)[j]=text[j]:=fun _=>by first | rfl | (show (str text).data[j]=_;simp [str])
   have H5d:Hid (zBR B st b pre l (zAT Ds hs (text.take j)) w (.returned (.tuple #[])) wr.drew):=⟨rfl,H5.out.2.1,H5.out.2.2.1,H5.out.2.2.2.trans (Fr.ch (Ch.drew [] wr) (by have:=H5.out.2.2.1.lt;omega) (by simp))⟩;have C5d:Hid (zA9 wr.drew Ds k (.func (.func n) #[] cap) re):=zA9.kp (Kp.ch (Ch.drew [] wr)) _ _ _ _ C5.out
   have CALL:Calls Tryz.prog n (#[.pointer (some ⟨st,0,none⟩),.int .u8 (text[j].toNat:Nat),.pointer (some ⟨b,0,none⟩)]++cap) wr.drew (zBR B st b pre (l++(zAT Ds hs (text.take j)).2) (zAT Ds (zAT Ds hs (text.take j)).1 [text[j]]) wr.drew):=by
    have ok:=zCa Ds hs (text.take j) hD hh;have b1:=zHS Ds hs text (j+1);rw [zEI Ds hs hlt',List.length_append] at b1;exact HHP.out wr.drew re B st b pre (zAT Ds hs (text.take j)).1 (l++(zAT Ds hs (text.take j)).2) text[j] C5d.out hk ok.1 H5d.out.2.1 H5d.out.2.2.1 hB (by rw [List.length_append];omega)
   have CA:=hide CALL;clear CALL
   have NEXT:∀w6 e6,zBR B st b pre (l++(zAT Ds hs (text.take j)).2) (zAT Ds (zAT Ds hs (text.take j)).1 [text[j]]) wr.drew e6 w6→Hid (zBR B st b pre l (zAT Ds hs (text.take (j+1))) w (.returned (.tuple #[])) w6)∧Hid (zA9 w6 Ds k (.func (.func n) #[] cap) re)∧Hid (zAD w6 R #[.func (.func n) #[] cap,re] 77):=by
    intro w6 e6 h6;have kp:=h6.2.2.2.kp H5d.out.2.1.1 H5d.out.2.2.1;exact ⟨H5d.out.more hlt' h6,zA9.kp kp _ _ _ _ C5d.out,kp _ _ _ (show zAD wr.drew R _ _ from R5.out) (by decide) (by decide) (by decide)⟩
   have NX:=hide NEXT;clear NEXT;go_wp2_with fail
   go_region_with ((refine CA.out.mono ?_;rintro e w6 h6;obtain ⟨n1,n2,n3⟩:=NX.out w6 e h6;obtain ⟨rfl,_⟩:=h6))
   all_goals
    go_wp2_with fail;exact ⟨⟨j+1,by omega,by go_num,n1,n2,n3⟩,by simp [intOf];omega⟩
  ·have e:j=text.length:=by have:=HZ.out;omega
   subst e;have H6:=H5;rw [List.take_length] at H6;go_wp2_with fail
   go_end0
   exact ⟨rfl,H6.out.2⟩
end Go.Proofs.YteobgfbgglfkbaaGreat
