import Derived.Test.YteobgfbgglfkbaaGreatJA5
set_option maxHeartbeats 1600000
set_option maxRecDepth 100000
namespace Go.Proofs.YteobgfbgglfkbaaGreat
open Go.RowKit
attribute [local go_sem ↓] Go.wp_at_zero Go.wp_at_succ
def zP(w:World)(b:Nat)(S:ByteArray)(s:St)(v5 v6 v7:Value):Prop:=w.heap[b]? =some (.cells #[.string S,.int .i64 s.i,.int .i64 s.e,.int .i64 s.a,.int .i64 s.k,v5,v6,v7] 105)
theorem zP.lt{w:World}{b:Nat}{S:ByteArray}{s:St}{v5 v6 v7:Value}(h:zP w b S s v5 v6 v7):b<w.heap.size:=by
 rcases Nat.lt_or_ge b w.heap.size with h'|h'
 ·exact h'
 ·simp[zP,Array.getElem?_eq_none h']at h
theorem zP.kp{w w':World}{b:Nat}{S:ByteArray}{s:St}{v5 v6 v7:Value}{X:List Nat}(h:zP w b S s v5 v6 v7)(g:Ch X w w')(hb:b∉X):zP w' b S s v5 v6 v7:=(g.block b h.lt hb).trans h
theorem zP.fa{w:World}{b:Nat}{S:ByteArray}{s:St}{v5 v6 v7:Value}(h:zP w b S s v5 v6 v7):
 w.cell? ⟨b,0,none⟩=some (.string S)/\w.cell? ⟨b,1,none⟩=some (.int .i64 s.i)/\w.cell? ⟨b,2,none⟩=some (.int .i64 s.e)/\
 w.cell? ⟨b,3,none⟩=some (.int .i64 s.a)/\w.cell? ⟨b,4,none⟩=some (.int .i64 s.k)/\w.cell? ⟨b,5,none⟩=some v5/\
 w.cell? ⟨b,6,none⟩=some v6/\w.cell? ⟨b,7,none⟩=some v7/\∀o,w.frozen? ⟨b,o,none⟩=false:=by
 unfold zP at h
 refine⟨?_,?_,?_,?_,?_,?_,?_,?_,?_⟩ <;>simp[World.cell?,World.frozen?,h]
theorem zP.set{w:World}{b:Nat}{S:ByteArray}{s:St}{v5 v6 v7:Value}(h:zP w b S s v5 v6 v7):
 (∀n:Nat,zP (w.setCell ⟨b,1,none⟩ (.int .i64 n)) b S {s with i:=n} v5 v6 v7)/\
 (∀x:Int,zP (w.setCell ⟨b,2,none⟩ (.int .i64 x)) b S {s with e:=x} v5 v6 v7)/\
 (∀x:Int,zP (w.setCell ⟨b,3,none⟩ (.int .i64 x)) b S {s with a:=x} v5 v6 v7)/\
 (∀x:Int,zP (w.setCell ⟨b,4,none⟩ (.int .i64 x)) b S {s with k:=x} v5 v6 v7)/\
 (∀x:Value,zP (w.setCell ⟨b,5,none⟩ x) b S s x v6 v7)/\(∀x:Value,zP (w.setCell ⟨b,6,none⟩ x) b S s v5 x v7)/\(∀x:Value,zP (w.setCell ⟨b,7,none⟩ x) b S s v5 v6 x):=by
 unfold zP at *
 refine⟨?_,?_,?_,?_,?_,?_,?_⟩ <;>intro x <;>simp[World.setCell,Array.getElem?_modify,h]
theorem zP.bump{w:World}{b:Nat}{S:ByteArray}{s:St}{v5 v6 v7:Value}(h:zP w b S s v5 v6 v7):zP (w.setCell ⟨b,1,none⟩ (.int .i64 (s.i+1))) b S {s with i:=s.i+1} v5 v6 v7:=h.set.1 (s.i+1)
theorem zP.penI{w:World}{b:Nat}{S:ByteArray}{s:St}{v5 v6 v7:Value}(h:zP w b S s v5 v6 v7):penI b w=s.i:=by
 simp[Proofs.YteobgfbgglfkbaaGreat.penI,h.fa.2.1]
def Zv(w:World)(b:Nat)(S:ByteArray)(d:Nat)(e:Ending):Prop:=e= .panicked [{v:=if d=S.size then .iface 171 (.agg #[])else .iface 169 (.int .i64 d),recovered:=false}]/\w.cell? ⟨b,0,none⟩=some (.string S)
theorem zY{P:Program}{fn:Func}{R:Ending->World->Prop}{c:List PanicEntry}{a:Act}{w:World}(ha:a.defers=[])(h:R (.panicked c) w):bodyPost P fn R (.panic c) a w:=⟨ha,h⟩
theorem Ec(t:TypeId)(v:Value)(w:World):Sem.run Tryz.prog (Instr.panic (.iface t v)) w= .halt (.panic (.iface t v)) w:=rfl
theorem ZB{w:World}{b:Nat}{S:ByteArray}{s:St}{v5 v6 v7:Value}(h:zP w b S s v5 v6 v7):
 Calls Tryz.prog 67 #[.pointer (some ⟨b,0,none⟩)] w fun e w'=>Zv w' b S s.i e/\Ch [b] w w':=by
 obtain⟨c0,c1,c2,c3,c4,c5,c6,c7,fz⟩:=h.fa
 by_cases hi:s.i=S.size
 ·have q:((s.i:Int)==S.size)=true:=by simp[hi]
  have q':(s.i==S.size)=true:=by simp[hi]
  have HI:=zC hi;clear hi;go_enter Tryz.func67,Tryz.ntmps67;have hpn:=Ec 171 (.agg #[]);go_wp2_with fail;go_quiet (fail);go_wp2_with fail;exact zY rfl ⟨⟨by rw[if_pos HI.o],(h.kp (Ch.drewN [] _ _) (by simp)).fa.1⟩,Ch.drewN _ _ _⟩
 ·have q:((s.i:Int)==S.size)=false:=by rw[beq_eq_false_iff_ne];omega
  have q':(s.i==S.size)=false:=by simp[hi]
  have HI:=zC hi;clear hi;have hpn:=Ec 169 (.int .i64 s.i);go_enter Tryz.func67,Tryz.ntmps67;go_wp2_with fail;go_quiet (fail);go_wp2_with fail;exact zY rfl ⟨⟨by rw[if_neg HI.o],(h.kp (Ch.drewN [] _ _) (by simp)).fa.1⟩,Ch.drewN _ _ _⟩
theorem ZP{w:World}{b:Nat}{S:ByteArray}{s:St}{v5 v6 v7:Value}(h:zP w b S s v5 v6 v7)(hS:S.size<=400)(c:Int)(hc:0<=c)(hb:bt S s.i=c):
 Calls Tryz.prog 103 #[.pointer (some ⟨b,0,none⟩),.int .u8 c] w fun e w'=>e= .returned (.bool true)/\zP w' b S {s with i:=s.i+1} v5 v6 v7/\Ch [b] w w':=by
 obtain⟨c0,c1,c2,c3,c4,c5,c6,c7,fz⟩:=h.fa;have hlt:=yB (S:=S) (i:=s.i) (by omega)
 have l2:(s.i:Int)<S.size:=by omega
 have l3:(s.i:Int)<400:=by omega
 have q:((s.i:Int)==S.size)=false:=by rw[beq_eq_false_iff_ne];omega
 have q':(s.i==S.size)=false:=by rw[beq_eq_false_iff_ne];omega
 have q2:((S[s.i].toNat:Int) !=c)=false:=by rw[jS hlt];simp[hb]
 have q3:((S[s.i].toNat:Int)==c)=true:=by rw[jS hlt];simp[hb]
 clear hb;go_enter Tryz.func103,Tryz.ntmps103;go_wp2_with fail;go_quiet (fail);go_wp2_with fail;go_ret;exact⟨rfl,h.bump,(Ch.drewN _ _ _).trans (Ch.setCell _ (by simp) _)⟩
theorem JW{w:World}{b:Nat}{S:ByteArray}{s:St}{v5 v6 v7:Value}(h:zP w b S s v5 v6 v7)(_hS:S.size<=400)(hi:s.i<=S.size)(c:Int)(hb:¬bt S s.i=c):
 Calls Tryz.prog 103 #[.pointer (some ⟨b,0,none⟩),.int .u8 c] w fun e w'=>e= .returned (.bool false)/\zP w' b S s v5 v6 v7/\Ch [b] w w':=by
 obtain⟨c0,c1,c2,c3,c4,c5,c6,c7,fz⟩:=h.fa
 by_cases hlt:s.i<S.size
 ·have l2:(s.i:Int)<S.size:=by omega
  have q:((s.i:Int)==S.size)=false:=by rw[beq_eq_false_iff_ne];omega
  have q':(s.i==S.size)=false:=by rw[beq_eq_false_iff_ne];omega
  have q2:((S[s.i].toNat:Int) !=c)=true:=by rw[jS hlt];simp[hb]
  have q3:((S[s.i].toNat:Int)==c)=false:=by rw[jS hlt];simp[hb]
  clear hb;go_enter Tryz.func103,Tryz.ntmps103;go_wp2_with fail;go_quiet (fail);go_wp2_with fail;go_ret;exact⟨rfl,h,Ch.drewN _ _ _⟩
 ·have q:((s.i:Int)==S.size)=true:=by rw[beq_iff_eq];omega
  have q':(s.i==S.size)=true:=by rw[beq_iff_eq];omega
  clear hb;go_enter Tryz.func103,Tryz.ntmps103;go_wp2_with fail;go_quiet (fail);go_wp2_with fail;go_ret;exact⟨rfl,h,Ch.drewN _ _ _⟩
theorem Qm{w:World}{b:Nat}{S:ByteArray}{s:St}{v5 v6 v7:Value}(h:zP w b S s v5 v6 v7)(e a:Int):
 Calls Tryz.prog 149 #[.pointer (some ⟨b,0,none⟩),.int .i64 e,.int .i64 a] w fun r w'=>r= .returned (.tuple #[])/\zP w' b S (zL true e a s) v5 v6 v7/\Ch [b] w w':=by
 obtain⟨c0,c1,c2,c3,c4,c5,c6,c7,fz⟩:=h.fa;have hbl:=h.lt;have h1:=h.kp (Ch.alloc [] w (.cells #[.int .i64 s.e,.int .i64 s.a] 68)) (by simp);have g1:=Ch.alloc [b] w (.cells #[.int .i64 s.e,.int .i64 s.a] 68)
 have yes:(s.e=0\/a<s.a\/(a=s.a/\e<s.e))->zP (((w.setCell ⟨b,2,none⟩ (.int .i64 e)).setCell ⟨b,3,none⟩ (.int .i64 a)).alloc (.cells #[.int .i64 s.e,.int .i64 s.a] 68)) b S (zL true e a s) v5 v6 v7/\Ch [b] w (((w.setCell ⟨b,2,none⟩ (.int .i64 e)).setCell ⟨b,3,none⟩ (.int .i64 a)).alloc (.cells #[.int .i64 s.e,.int .i64 s.a] 68)):=by
  intro h2;rw[show zL true e a s={s with e:=e,a:=a} from by simp[zL,h2]];exact⟨((h.set.2.1 e).set.2.2.1 a).kp (Ch.alloc [] _ _) (by simp),((Ch.setCell _ (by simp) _).trans (Ch.setCell _ (by simp) _)).trans (Ch.alloc _ _ _)⟩
 have no:¬(s.e=0\/a<s.a\/(a=s.a/\e<s.e))->zP (w.alloc (.cells #[.int .i64 s.e,.int .i64 s.a] 68)) b S (zL true e a s) v5 v6 v7/\Ch [b] w (w.alloc (.cells #[.int .i64 s.e,.int .i64 s.a] 68)):=by
  intro h2;rw[show zL true e a s=s from by simp[zL,h2]];exact⟨h1,g1⟩
 have Y:=zC yes;have N:=zC no;clear yes no h1 g1
 by_cases h0:s.e=0
 ·have H0:Hd (s.e=0):=h0
  have g0:(s.e==0)=true:=by simp[h0]
  clear h0;go_enter Tryz.func149,Tryz.ntmps149;go_wp2_with fail
  go_end0
  exact⟨rfl,Y.o (Or.inl H0.o)⟩
 ·have g0:(s.e==0)=false:=by simp[h0]
  have H0:Hd (¬s.e=0):=h0;clear h0
  by_cases h1:a<s.a
  ·go_enter Tryz.func149,Tryz.ntmps149
   go_wp2_with fail
   go_end0
   exact⟨rfl,Y.o (Or.inr (Or.inl h1))⟩
  ·by_cases h2:a=s.a
   ·have H2:Hd (a=s.a):=h2
    have g2:(a==s.a)=true:=by simp[h2]
    clear h2
    by_cases h3:e<s.e
    ·go_enter Tryz.func149,Tryz.ntmps149
     go_wp2_with fail
     go_end0
     exact⟨rfl,Y.o (Or.inr (Or.inr ⟨H2.o,h3⟩))⟩
    ·go_enter Tryz.func149,Tryz.ntmps149
     go_wp2_with fail
     go_end0
     exact⟨rfl,N.o (by have:=H0.o;omega)⟩
   ·have H2:Hd (¬a=s.a):=h2
    have g2:(a==s.a)=false:=by simp[h2]
    clear h2;go_enter Tryz.func149,Tryz.ntmps149;go_wp2_with fail
    go_end0
    exact⟨rfl,N.o (by have:=H0.o;have:=H2.o;omega)⟩
theorem QF{w:World}{b:Nat}{S:ByteArray}{s:St}{v5 v6 v7:Value}(h:zP w b S s v5 v6 v7)(n m a:Int):
 Calls Tryz.prog 113 #[.pointer (some ⟨b,0,none⟩),.int .i64 n,.int .i64 m,.int .i64 a] w fun r w'=>r= .returned (.tuple #[])/\zP w' b S (zL (decide (m<=n)) 3 a s) v5 v6 v7/\Ch [b] w w':=by
 by_cases hle:m<=n
 ·have HD:Hd (decide (m<=n)=true):=by show _=_;simp[hle]
  go_enter Tryz.func113,Tryz.ntmps113;go_wp2_with fail;refine(Qm h _ _).mono ?_;rintro e w1 ⟨rfl,h1,g1⟩;go_wp2_with fail
  go_end0
  exact⟨rfl,by rw[HD.o];exact h1,g1⟩
 ·have HD:Hd (decide (m<=n)=false):=by show _=_;simp[hle]
  go_enter Tryz.func113,Tryz.ntmps113;go_wp2_with fail
  go_end0
  exact⟨rfl,by rw[HD.o,XY];exact h,Ch.refl _ _⟩
theorem Bj{w:World}{b:Nat}{S:ByteArray}{s:St}{v5 v6 v7:Value}(h:zP w b S s v5 v6 v7)(hS:S.size<=400)(hi:s.i<=S.size):
 Calls Tryz.prog 109 #[.pointer (some ⟨b,0,none⟩)] w fun e w'=>e= .returned (.string (S.extract s.i (run zR S s.i)))/\∃n,w'=w.drewN n:=by
 obtain⟨c0,c1,c2,c3,c4,c5,c6,c7,fz⟩:=h.fa;generalize s.i=I at *;go_enter Tryz.func109,Tryz.ntmps109;go_wp2_with fail
 go_loop [3] (fun k=>∃j:Nat,k= .int .i64 j/\Hd (run zR S I=run zR S j)/\I<=j/\j<=S.size) (fun k=>S.size - (intOf k).toNat)
 case atStart=>exact⟨I,rfl,rfl,Nat.le_refl _,hi⟩
 case round=>
  obtain⟨j,rfl,hj,hIj,hjs⟩:=hrel
  by_cases hlt:(j:Int)<S.size
  ·have hlt':j<S.size:=by omega
   by_cases ha:(97:Int)<=S[j].toNat
   ·by_cases hz:(S[j].toNat:Int)<=122
    ·have HR:Hd (run zR S I=run zR S (j+1)):=hj.o.trans (Qs hlt' (by rw[<- jS hlt'];simp[zR,ha,hz]))
     go_wp2_with fail
     go_round
     case rel=>exact⟨j+1,by go_num,HR,by omega,by omega⟩
     case measure=>simp[intOf];omega
    ·have HR:Hd (run zR S I=j):=hj.o.trans (Z9 (by rw[<- jS hlt'];simp[zR];omega))
     go_wp2_with fail;go_quiet (fail)
     go_wp2
     go_ret;exact⟨by rw[HR.o];rfl,_,rfl⟩
   ·have HR:Hd (run zR S I=j):=hj.o.trans (Z9 (by rw[<- jS hlt'];simp[zR];omega))
    go_wp2_with fail;go_quiet (fail)
    go_wp2
    go_ret;exact⟨by rw[HR.o];rfl,_,rfl⟩
  ·have HR:Hd (run zR S I=j):=hj.o.trans (Z9 (by rw[YL (by omega)];simp[zR]))
   go_wp2_with fail;go_quiet (fail)
   go_wp2
   go_ret;exact⟨by rw[HR.o];rfl,_,rfl⟩
def jU(x:ByteArray):Int:=
 if yQ x Ji then 10 else if yQ x Jt then 11 else if yQ x Za then 12 else if yQ x jy then 13
 else if yQ x ⟨#[98,121,116,101]⟩then 14 else if yQ x ⟨#[117,112,112,101,114]⟩then 15 else if yQ x ⟨#[108,111,119,101,114]⟩then 16
 else if yQ x Jj then 17 else if yQ x JR then 18 else if yQ x ZM then 19 else if 8<x.size then 1 else 2
def YG(c:Int):Int:=if c=34 then 3 else if c=91 then 4 else if c=47 then 5 else if c=123 then 6 else if c=125 then 7 else if c=61 then 8 else if c=59 then 9 else 1
def zV(S:ByteArray)(i:Nat):Int:=if i=S.size then 0 else if(S.extract i (run zR S i)).size=0 then YG (bt S i)else jU (S.extract i (run zR S i))
theorem SX{x:ByteArray}(l:List UInt8):(x.toList==l)=yQ x ⟨l.toArray⟩:=by
 simp[yQ,Qj]
theorem Sp{w:World}(c:Int):Calls Tryz.prog 111 #[.int .u8 c] w fun e w'=>e= .returned (.int .i64 (YG c))/\w'=w:=by
 by_cases h1:c=34
 ·subst h1;go_enter Tryz.func111,Tryz.ntmps111;go_wp2_with fail;go_ret;exact⟨rfl,rfl⟩
 by_cases h2:c=91
 ·subst h2;go_enter Tryz.func111,Tryz.ntmps111;go_wp2_with fail;go_ret;exact⟨rfl,rfl⟩
 by_cases h3:c=47
 ·subst h3;go_enter Tryz.func111,Tryz.ntmps111;go_wp2_with fail;go_ret;exact⟨rfl,rfl⟩
 by_cases h4:c=123
 ·subst h4;go_enter Tryz.func111,Tryz.ntmps111;go_wp2_with fail;go_ret;exact⟨rfl,rfl⟩
 by_cases h5:c=125
 ·subst h5;go_enter Tryz.func111,Tryz.ntmps111;go_wp2_with fail;go_ret;exact⟨rfl,rfl⟩
 by_cases h6:c=61
 ·subst h6;go_enter Tryz.func111,Tryz.ntmps111;go_wp2_with fail;go_ret;exact⟨rfl,rfl⟩
 by_cases h7:c=59
 ·subst h7;go_enter Tryz.func111,Tryz.ntmps111;go_wp2_with fail;go_ret;exact⟨rfl,rfl⟩
 have HR:Hd (YG c=1):=by show _=_;simp[YG,h1,h2,h3,h4,h5,h6,h7]
 have q1:(c==34)=false:=by simp[h1]
 have q2:(c==91)=false:=by simp[h2]
 have q3:(c==47)=false:=by simp[h3]
 have q4:(c==123)=false:=by simp[h4]
 have q5:(c==125)=false:=by simp[h5]
 have q6:(c==61)=false:=by simp[h6]
 have q7:(c==59)=false:=by simp[h7]
 clear h1 h2 h3 h4 h5 h6 h7;go_enter Tryz.func111,Tryz.ntmps111;go_wp2_with fail;go_ret;exact⟨by rw[HR.o];rfl,rfl⟩
theorem Fd{w:World}(x:ByteArray):Calls Tryz.prog 110 #[.string x] w fun e w'=>e= .returned (.int .i64 (jU x))/\w'=w:=by
 have key:∀l:List UInt8,x=⟨l.toArray⟩\/((x.toList==l)=false/\¬x.toList=l/\yQ x ⟨l.toArray⟩=false):=by
  intro l
  by_cases e:x=⟨l.toArray⟩
  ·exact Or.inl e
  ·right
   have a:yQ x ⟨l.toArray⟩=false:=by rw[Bool.eq_false_iff];intro h;exact e (Jh.1 h)
   have b:(x.toList==l)=false:=by rw[SX];exact a
   exact⟨b,by simpa using b,a⟩
 rcases key [115,99,114,117,98]with rfl|⟨q0,q0',r0⟩
 ·go_enter Tryz.func110,Tryz.ntmps110;go_wp2_with fail;go_ret;exact⟨rfl,rfl⟩
 rcases key [115,119,97,112]with rfl|⟨q1,q1',r1⟩
 ·go_enter Tryz.func110,Tryz.ntmps110;go_wp2_with fail;go_ret;exact⟨rfl,rfl⟩
 rcases key [116,111]with rfl|⟨q2,q2',r2⟩
 ·go_enter Tryz.func110,Tryz.ntmps110;go_wp2_with fail;go_ret;exact⟨rfl,rfl⟩
 rcases key [110,111,110,101]with rfl|⟨q3,q3',r3⟩
 ·go_enter Tryz.func110,Tryz.ntmps110;go_wp2_with fail;go_ret;exact⟨rfl,rfl⟩
 rcases key [98,121,116,101]with rfl|⟨q4,q4',r4⟩
 ·go_enter Tryz.func110,Tryz.ntmps110;go_wp2_with fail;go_ret;exact⟨rfl,rfl⟩
 rcases key [117,112,112,101,114]with rfl|⟨q5,q5',r5⟩
 ·go_enter Tryz.func110,Tryz.ntmps110;go_wp2_with fail;go_ret;exact⟨rfl,rfl⟩
 rcases key [108,111,119,101,114]with rfl|⟨q6,q6',r6⟩
 ·go_enter Tryz.func110,Tryz.ntmps110;go_wp2_with fail;go_ret;exact⟨rfl,rfl⟩
 rcases key [99,104,97,105,110]with rfl|⟨q7,q7',r7⟩
 ·go_enter Tryz.func110,Tryz.ntmps110;go_wp2_with fail;go_ret;exact⟨rfl,rfl⟩
 rcases key [110,101,118,101,114]with rfl|⟨q8,q8',r8⟩
 ·go_enter Tryz.func110,Tryz.ntmps110;go_wp2_with fail;go_ret;exact⟨rfl,rfl⟩
 rcases key [115,97,109,101]with rfl|⟨q9,q9',r9⟩
 ·go_enter Tryz.func110,Tryz.ntmps110;go_wp2_with fail;go_ret;exact⟨rfl,rfl⟩
 have HR:Hd (jU x=if 8<x.size then 1 else 2):=by
  show _=_
  simp only[jU,Ji,Jt,Za,jy,Jj,JR,ZM];simp only[r0,r1,r2,r3,r4,r5,r6,r7,r8,r9,Bool.false_eq_true,if_false]
 clear r0 r1 r2 r3 r4 r5 r6 r7 r8 r9 key
 by_cases h8:(8:Int)<x.size
 ·go_enter Tryz.func110,Tryz.ntmps110
  go_wp2_with fail;go_ret;exact⟨by rw[HR.o,if_pos (by omega)];rfl,rfl⟩
 ·go_enter Tryz.func110,Tryz.ntmps110
  go_wp2_with fail;go_ret;exact⟨by rw[HR.o,if_neg (by omega)];rfl,rfl⟩
theorem Jl{w:World}{b:Nat}{S:ByteArray}{s:St}{v5 v6 v7:Value}(h:zP w b S s v5 v6 v7)(hS:S.size<=400)(hi:s.i<=S.size):
 Calls Tryz.prog 75 #[.pointer (some ⟨b,0,none⟩)] w fun e w'=>e= .returned (.int .i64 (zV S (run zI S s.i)))/\zP w' b S (s.sk S) v5 v6 v7/\Ch [b] w w':=by
 go_enter Tryz.func75,Tryz.ntmps75;go_wp2_with fail
 go_loopw [] (fun w1=>∃j:Nat,Hd (run zI S s.i=run zI S j)/\j<=S.size/\zP w1 b S {s with i:=j} v5 v6 v7/\Ch [b] w w1) (fun w1=>S.size - penI b w1)
 case atStart=>exact⟨s.i,rfl,hi,h,Ch.refl _ _⟩
 case round=>
  generalize wr=w1 at *;obtain⟨j,hj,hjs,h1,g1⟩:=hrel;obtain⟨c0,c1,c2,c3,c4,c5,c6,c7,fz⟩:=h1.fa;simp only at c1
  have fin:zI (bt S j)=false->run zI S s.i=j:=fun hb=>hj.o.trans (Z9 hb)
  by_cases hlt:(j:Int)<S.size
  ·have hlt':j<S.size:=by omega
   have l4:(j:Int)<400:=by omega
   by_cases hb:bt S j=32
   ·have q1:((S[j].toNat:Int)==32)=true:=by rw[jS hlt'];simp[hb]
    have HR:Hd (run zI S s.i=run zI S (j+1)):=hj.o.trans (Qs hlt' (by simp[zI,hb]));clear hb hj fin;go_wp2_with fail;go_quiet (fail);go_wp2_with fail;go_roundw
    case rel=>exact⟨j+1,HR,hlt',h1.bump,g1.trans ((Ch.drewN _ _ _).trans (Ch.setCell _ (by simp) _))⟩
    case measure=>
     have h1':zP (w1.drewN nq) b S {s with i:=j} v5 v6 v7:=h1;rw[h1.penI,h1'.bump.penI];simp only;omega
   ·have q1:((S[j].toNat:Int)==32)=false:=by rw[jS hlt'];simp[hb]
    by_cases hc:bt S j=10
    ·have q2:((S[j].toNat:Int)==10)=true:=by rw[jS hlt'];simp[hc]
     have HR:Hd (run zI S s.i=run zI S (j+1)):=hj.o.trans (Qs hlt' (by simp[zI,hc]));clear hb hj hc fin;go_wp2_with fail;go_quiet (fail);go_wp2_with fail;go_roundw
     case rel=>exact⟨j+1,HR,hlt',h1.bump,g1.trans ((Ch.drewN _ _ _).trans (Ch.setCell _ (by simp) _))⟩
     case measure=>
      have h1':zP (w1.drewN nq) b S {s with i:=j} v5 v6 v7:=h1;rw[h1.penI,h1'.bump.penI];simp only;omega
    ·have q2:((S[j].toNat:Int)==10)=false:=by rw[jS hlt'];simp[hc]
     have HR:Hd (run zI S s.i=j):=fin (by simp[zI,hb,hc])
     have q3:((j:Int)==S.size)=false:=by rw[beq_eq_false_iff_ne];omega
     have q3':(j==S.size)=false:=by rw[beq_eq_false_iff_ne];omega
     have hne:¬j=S.size:=by omega
     clear hb hc hj fin;go_wp2_with fail;go_quiet (fail);have h2:zP (w1.drewN nq) b S {s with i:=j} v5 v6 v7:=h1;have g2:=g1.trans (Ch.drewN [b] w1 nq);generalize w1.drewN nq=w2 at *;clear c0 c1 c2 c3 c4 c5 c6 c7 fz;obtain⟨c0,c1,c2,c3,c4,c5,c6,c7,fz⟩:=h2.fa;simp only at c1;go_wp2_with fail;go_quiet (fail);have h3:zP (w2.drewN nq) b S {s with i:=j} v5 v6 v7:=h2;have g3:=g2.trans (Ch.drewN [b] w2 nq);generalize w2.drewN nq=w3 at *;clear c0 c1 c2 c3 c4 c5 c6 c7 fz;obtain⟨c0,c1,c2,c3,c4,c5,c6,c7,fz⟩:=h3.fa;simp only at c1;go_wp2_with fail;refine(Bj h3 hS hjs).mono ?_;rintro e w4 ⟨rfl,n3,rfl⟩;have h4:zP (w3.drewN n3) b S {s with i:=j} v5 v6 v7:=h3;have g4:=g3.trans (Ch.drewN [b] w3 n3);generalize w3.drewN n3=w4 at *;clear c0 c1 c2 c3 c4 c5 c6 c7 fz;obtain⟨c0,c1,c2,c3,c4,c5,c6,c7,fz⟩:=h4.fa;simp only at c1 ⊢
     by_cases hx:(S.extract j (run zR S j)).size=0
     ·obtain⟨p1,p2⟩:=VK hx
      have p3:(!(S.extract j (run zR S j)).toList.isEmpty)=false:=by simp[p1]
      have HS:Hd (zV S j=YG (bt S j)):=by show _=_;simp only[zV,if_neg hne,if_pos hx]
      have HB:=zC (jS hlt');clear hx;generalize S.extract j (run zR S j)=Z at *;go_wp2_with fail;go_quiet ((go_at_call 111;exact Calls.quiet_of_same (Sp _)));go_wp2_with fail;go_ret;exact⟨by rw[HR.o,HS.o,<- HB.o];rfl,by rw[show s.sk S={s with i:=j} from by simp[St.sk,HR.o]];exact h4,g4.trans (Ch.drewN _ _ _)⟩
     ·obtain⟨p1,p2⟩:=WX hx
      have p3:(!(S.extract j (run zR S j)).toList.isEmpty)=true:=by simp[p1]
      have HS:Hd (zV S j=jU (S.extract j (run zR S j))):=by show _=_;simp only[zV,if_neg hne,if_neg hx]
      clear hx;generalize S.extract j (run zR S j)=Z at *;go_wp2_with fail;refine(Fd _).mono ?_;rintro e w5 ⟨rfl,rfl⟩;go_wp2_with fail;go_ret;exact⟨by rw[HR.o,HS.o];rfl,by rw[show s.sk S={s with i:=j} from by simp[St.sk,HR.o]];exact h4,g4⟩
  ·have HR:Hd (run zI S s.i=j):=fin (by rw[YL (by omega)];rfl)
   have he:j=S.size:=by omega
   have q3:((j:Int)==S.size)=true:=by rw[beq_iff_eq];omega
   have q3':(j==S.size)=true:=by rw[beq_iff_eq];omega
   have HS:Hd (zV S j=0):=by show _=_;simp[zV,he]
   have hd':decide (j<S.size)=false:=by simp;omega
   have hd2':decide ((j:Int)<S.size)=false:=by simp;omega
   clear fin hj he;go_wp2_with fail;go_quiet (fail);go_wp2_with fail;go_quiet (fail);go_wp2_with fail;go_ret;exact⟨by rw[HR.o,HS.o];rfl,by rw[show s.sk S={s with i:=j} from by simp[St.sk,HR.o]];exact h1,g1.trans ((Ch.drewN _ _ _).trans (Ch.drewN _ _ _))⟩
def Zh(S:ByteArray)(want:Int)(s:St):Except Nat (Nat×St):=
 if zV S (run zI S s.i)=want then .ok (run zI S s.i,{s with i:=run zI S s.i+max 1 (run zR S (run zI S s.i) - run zI S s.i)})else .error (run zI S s.i)
def Rm(w:World)(b:Nat)(S:ByteArray)(v5 v6 v7:Value)(r:Except Nat (Nat×St))(e:Ending)(w':World):Prop:=
 Ch [b] w w'/\((∃p s',r= .ok (p,s')/\e= .returned (.int .i64 p)/\zP w' b S s' v5 v6 v7/\s'.i<=S.size)\/(∃d,r= .error d/\Zv w' b S d e/\d<=S.size))
theorem V1{w:World}{b:Nat}{S:ByteArray}{s:St}{v5 v6 v7:Value}(h:zP w b S s v5 v6 v7)(hS:S.size<=400)(hi:s.i<=S.size)(want:Int)(hw:1<=want):
 Calls Tryz.prog 112 #[.pointer (some ⟨b,0,none⟩),.int .i64 want] w (Rm w b S v5 v6 v7 (Zh S want s)):=by
 have l1:=zn zI S s.i hi;go_enter Tryz.func112,Tryz.ntmps112;go_wp2_with fail;refine(Jl h hS hi).mono ?_;rintro e w1 ⟨rfl,h1,g1⟩;generalize hI:run zI S s.i=I at *;have HI:=zC hI;clear hI
 by_cases hs:zV S I=want
 ·have q1:(zV S I !=want)=false:=by simp[hs]
  have q1':(zV S I==want)=true:=by simp[hs]
  have hne:¬I=S.size:=by intro e;rw[e]at hs;simp[zV]at hs;omega
  have l2:=zn zR S I l1.2
  have HT:Hd (Zh S want s= .ok (I,{s with i:=I+max 1 (run zR S I - I)})):=by show _=_;simp only[Zh,HI.o,hs,if_true]
  have h1':zP w1 b S {s with i:=I} v5 v6 v7:=by rw[show s.sk S={s with i:=I} from by simp[St.sk,HI.o]]at h1;exact h1
  obtain⟨c0,c1,c2,c3,c4,c5,c6,c7,fz⟩:=h1'.fa;simp only at c1
  have hexI:Hd (run zR S I - I<=S.size - I):=by show _<=_;omega
  clear hs h1;generalize zV S I=sg at *;generalize hJ:run zR S I=J at *;obtain⟨m,rfl⟩:∃m,J=I+m:=⟨J - I,by omega⟩;have HJ:=zC hJ;clear hJ
  have lI:(I:Int)<400:=by omega
  have lm:(m:Int)<=400:=by omega
  have hsz:(S.extract I (I+m)).size=m:=by simp;omega
  have hi2:I+max 1 m<=S.size:=by omega
  rw[show I+m - I=m from by omega]at HT;clear hexI
  by_cases h1m:(1:Int)<m
  all_goals
   first
    |have HM:Hd (max 1 m=m):=by show _=_;omega
     have hst:∀w3:World,zP w3 b S {s with i:=I} v5 v6 v7->zP (w3.setCell ⟨b,1,none⟩ (.int .i64 ((I:Int)+m))) b S {s with i:=I+max 1 m} v5 v6 v7:=by
      intro w3 h3;rw[HM.o];exact h3.set.1 (I+m)
     have HST:=zC hst
     have hwr:IntKind.i64.wrap ((I:Int)+m)=(I:Int)+m:=by rw[IntKind.wrap_i64];omega
     clear hst
    |have HM:Hd (max 1 m=1):=by show _=_;omega
     have hst:∀w3:World,zP w3 b S {s with i:=I} v5 v6 v7->zP (w3.setCell ⟨b,1,none⟩ (.int .i64 ((I:Int)+1))) b S {s with i:=I+max 1 m} v5 v6 v7:=by
      intro w3 h3;rw[HM.o];exact h3.set.1 (I+1)
     have HST:=zC hst
     have hwr:IntKind.i64.wrap ((I:Int)+1)=(I:Int)+1:=by rw[IntKind.wrap_i64];omega
     clear hst
   go_wp2_with fail
   go_region_with ((go_at_call 109;refine(Bj (s:={s with i:=I}) (S:=S) (b:=b) (v5:=v5) (v6:=v6) (v7:=v7) ?_ hS l1.2).mono ?_;exact h1';rintro e w3 ⟨rfl,n3,rfl⟩;rw[HJ.o]))
   all_goals
    go_wp2_with fail;go_ret;exact⟨g1.trans ((Ch.drewN [b] w1 (1+n3)).trans (Ch.setCell _ (by simp) _)),Or.inl ⟨I,_,HT.o,rfl,HST.o (w1.drewN (1+n3)) h1',hi2⟩⟩
 ·have q1:(zV S I !=want)=true:=by simp[hs]
  have q1':(zV S I==want)=false:=by simp[hs]
  have HT:Hd (Zh S want s= .error I):=by show _=_;simp only[Zh,HI.o,hs,if_false]
  have h1':zP w1 b S {s with i:=I} v5 v6 v7:=by rw[show s.sk S={s with i:=I} from by simp[St.sk,HI.o]]at h1;exact h1
  clear hs h1;generalize zV S I=sg at *;go_wp2_with fail;refine(ZB h1').mono ?_;rintro e w2 ⟨hg,g2⟩;obtain⟨rfl,ht⟩:=hg;exact zY rfl ⟨g1.trans g2,Or.inr ⟨I,HT.o,⟨rfl,ht⟩,l1.2⟩⟩
end Go.Proofs.YteobgfbgglfkbaaGreat
