import Derived.Test.YteobgfbgglfkbaaGreatJA5
namespace Go.Proofs.YteobgfbgglfkbaaGreat
open Go.RowKit
attribute [local go_sem ↓] Go.wp_at_zero Go.wp_at_succ
def RdAt(w:World)(b:Nat)(S:ByteArray)(s:St)(v5 v6 v7:Value):Prop:=w.heap[b]? =some (.cells #[.string S,.int .i64 s.i,.int .i64 s.e,.int .i64 s.a,.int .i64 s.k,v5,v6,v7] 105)
theorem RdAt.lt{w:World}{b:Nat}{S:ByteArray}{s:St}{v5 v6 v7:Value}(h:RdAt w b S s v5 v6 v7):b<w.heap.size:=by
 rcases Nat.lt_or_ge b w.heap.size with h' | h'
 ·exact h'
 ·simp [RdAt,Array.getElem?_eq_none h'] at h
theorem RdAt.keep{w w':World}{b:Nat}{S:ByteArray}{s:St}{v5 v6 v7:Value}{X:List Nat}(h:RdAt w b S s v5 v6 v7)(g:Ch X w w')(hb:b∉X):RdAt w' b S s v5 v6 v7:=(g.block b h.lt hb).trans h
theorem RdAt.facts{w:World}{b:Nat}{S:ByteArray}{s:St}{v5 v6 v7:Value}(h:RdAt w b S s v5 v6 v7):
  w.cell? ⟨b,0,none⟩=some (.string S)∧w.cell? ⟨b,1,none⟩=some (.int .i64 s.i)∧w.cell? ⟨b,2,none⟩=some (.int .i64 s.e)∧
  w.cell? ⟨b,3,none⟩=some (.int .i64 s.a)∧w.cell? ⟨b,4,none⟩=some (.int .i64 s.k)∧w.cell? ⟨b,5,none⟩=some v5∧
  w.cell? ⟨b,6,none⟩=some v6∧w.cell? ⟨b,7,none⟩=some v7∧∀o,w.frozen? ⟨b,o,none⟩=false:=by
 unfold RdAt at h
 refine ⟨?_,?_,?_,?_,?_,?_,?_,?_,?_⟩ <;>simp [World.cell?,World.frozen?,h]
theorem RdAt.set{w:World}{b:Nat}{S:ByteArray}{s:St}{v5 v6 v7:Value}(h:RdAt w b S s v5 v6 v7):
  (∀n:Nat,RdAt (w.setCell ⟨b,1,none⟩ (.int .i64 n)) b S {s with i:=n} v5 v6 v7)∧
  (∀x:Int,RdAt (w.setCell ⟨b,2,none⟩ (.int .i64 x)) b S {s with e:=x} v5 v6 v7)∧
  (∀x:Int,RdAt (w.setCell ⟨b,3,none⟩ (.int .i64 x)) b S {s with a:=x} v5 v6 v7)∧
  (∀x:Int,RdAt (w.setCell ⟨b,4,none⟩ (.int .i64 x)) b S {s with k:=x} v5 v6 v7)∧
  (∀x:Value,RdAt (w.setCell ⟨b,5,none⟩ x) b S s x v6 v7)∧(∀x:Value,RdAt (w.setCell ⟨b,6,none⟩ x) b S s v5 x v7)∧(∀x:Value,RdAt (w.setCell ⟨b,7,none⟩ x) b S s v5 v6 x):=by
 unfold RdAt at *
 refine ⟨?_,?_,?_,?_,?_,?_,?_⟩ <;>intro x <;>simp [World.setCell,Array.getElem?_modify,h]
theorem RdAt.bump{w:World}{b:Nat}{S:ByteArray}{s:St}{v5 v6 v7:Value}(h:RdAt w b S s v5 v6 v7):RdAt (w.setCell ⟨b,1,none⟩ (.int .i64 (s.i+1))) b S {s with i:=s.i+1} v5 v6 v7:=h.set.1 (s.i+1)
theorem RdAt.penI{w:World}{b:Nat}{S:ByteArray}{s:St}{v5 v6 v7:Value}(h:RdAt w b S s v5 v6 v7):penI b w=s.i:=by
 simp [Proofs.YteobgfbgglfkbaaGreat.penI,h.facts.2.1]
def Gone(w:World)(b:Nat)(S:ByteArray)(d:Nat)(e:Ending):Prop:=e= .panicked [{v:=if d=S.size then .iface 171 (.agg #[]) else .iface 169 (.int .i64 d),recovered:=false}]∧w.cell? ⟨b,0,none⟩=some (.string S)
theorem zAF{P:Program}{fn:Func}{R:Ending→World→Prop}{c:List PanicEntry}{a:Act}{w:World}(ha:a.defers=[])(h:R (.panicked c) w):bodyPost P fn R (.panic c) a w:=⟨ha,h⟩
theorem zI9(t:TypeId)(v:Value)(w:World):Sem.run Tryz.prog (Instr.panic (.iface t v)) w= .halt (.panic (.iface t v)) w:=rfl
set_option maxHeartbeats 400000 in
theorem zA5{w:World}{b:Nat}{S:ByteArray}{s:St}{v5 v6 v7:Value}(h:RdAt w b S s v5 v6 v7):
  Calls Tryz.prog 67 #[.pointer (some ⟨b,0,none⟩)] w fun e w'=>Gone w' b S s.i e∧Ch [b] w w':=by
 obtain ⟨c0,c1,c2,c3,c4,c5,c6,c7,fz⟩:=h.facts
 by_cases hi:s.i=S.size
 ·have q:((s.i:Int)==S.size)=true:=by simp [hi]
  have q':(s.i==S.size)=true:=by simp [hi]
  have HI:=hide hi;clear hi;go_enter Tryz.func67,Tryz.ntmps67;have hpn:=zI9 171 (.agg #[]);go_wp2_with fail;go_quiet (fail);go_wp2_with fail;exact zAF rfl ⟨⟨by rw [if_pos HI.out],(h.keep (Ch.drewN [] _ _) (by simp)).facts.1⟩,Ch.drewN _ _ _⟩
 ·have q:((s.i:Int)==S.size)=false:=by rw [beq_eq_false_iff_ne];omega
  have q':(s.i==S.size)=false:=by simp [hi]
  have HI:=hide hi;clear hi;have hpn:=zI9 169 (.int .i64 s.i);go_enter Tryz.func67,Tryz.ntmps67;go_wp2_with fail;go_quiet (fail);go_wp2_with fail;exact zAF rfl ⟨⟨by rw [if_neg HI.out],(h.keep (Ch.drewN [] _ _) (by simp)).facts.1⟩,Ch.drewN _ _ _⟩
set_option maxHeartbeats 400000 in
theorem zBB{w:World}{b:Nat}{S:ByteArray}{s:St}{v5 v6 v7:Value}(h:RdAt w b S s v5 v6 v7)(hS:S.size≤400)(c:Int)(hc:0≤c)(hb:bt S s.i=c):
  Calls Tryz.prog 103 #[.pointer (some ⟨b,0,none⟩),.int .u8 c] w fun e w'=>e= .returned (.bool true)∧RdAt w' b S {s with i:=s.i+1} v5 v6 v7∧Ch [b] w w':=by
 obtain ⟨c0,c1,c2,c3,c4,c5,c6,c7,fz⟩:=h.facts;have hlt:=zAy (S:=S) (i:=s.i) (by omega)
 have l2:(s.i:Int)<S.size:=by omega
 have l3:(s.i:Int)<400:=by omega
 have q:((s.i:Int)==S.size)=false:=by rw [beq_eq_false_iff_ne];omega
 have q':(s.i==S.size)=false:=by rw [beq_eq_false_iff_ne];omega
 have q2:((S[s.i].toNat:Int) !=c)=false:=by rw [zCQ hlt];simp [hb]
 have q3:((S[s.i].toNat:Int)==c)=true:=by rw [zCQ hlt];simp [hb]
 clear hb;go_enter Tryz.func103,Tryz.ntmps103;go_wp2_with fail;go_quiet (fail);go_wp2_with fail;go_ret;exact ⟨rfl,h.bump,(Ch.drewN _ _ _).trans (Ch.setCell _ (by simp) _)⟩
set_option maxHeartbeats 400000 in
theorem zA3{w:World}{b:Nat}{S:ByteArray}{s:St}{v5 v6 v7:Value}(h:RdAt w b S s v5 v6 v7)(_hS:S.size≤400)(hi:s.i≤S.size)(c:Int)(hb:¬bt S s.i=c):
  Calls Tryz.prog 103 #[.pointer (some ⟨b,0,none⟩),.int .u8 c] w fun e w'=>e= .returned (.bool false)∧RdAt w' b S s v5 v6 v7∧Ch [b] w w':=by
 obtain ⟨c0,c1,c2,c3,c4,c5,c6,c7,fz⟩:=h.facts
 by_cases hlt:s.i<S.size
 ·have l2:(s.i:Int)<S.size:=by omega
  have q:((s.i:Int)==S.size)=false:=by rw [beq_eq_false_iff_ne];omega
  have q':(s.i==S.size)=false:=by rw [beq_eq_false_iff_ne];omega
  have q2:((S[s.i].toNat:Int) !=c)=true:=by rw [zCQ hlt];simp [hb]
  have q3:((S[s.i].toNat:Int)==c)=false:=by rw [zCQ hlt];simp [hb]
  clear hb;go_enter Tryz.func103,Tryz.ntmps103;go_wp2_with fail;go_quiet (fail);go_wp2_with fail;go_ret;exact ⟨rfl,h,Ch.drewN _ _ _⟩
 ·have q:((s.i:Int)==S.size)=true:=by rw [beq_iff_eq];omega
  have q':(s.i==S.size)=true:=by rw [beq_iff_eq];omega
  clear hb;go_enter Tryz.func103,Tryz.ntmps103;go_wp2_with fail;go_quiet (fail);go_wp2_with fail;go_ret;exact ⟨rfl,h,Ch.drewN _ _ _⟩
end Go.Proofs.YteobgfbgglfkbaaGreat
namespace Go.Proofs.YteobgfbgglfkbaaGreat
open Go.RowKit
attribute [local go_sem ↓] Go.wp_at_zero Go.wp_at_succ
set_option maxHeartbeats 800000 in
theorem zDl{w:World}{b:Nat}{S:ByteArray}{s:St}{v5 v6 v7:Value}(h:RdAt w b S s v5 v6 v7)(e a:Int):
  Calls Tryz.prog 149 #[.pointer (some ⟨b,0,none⟩),.int .i64 e,.int .i64 a] w fun r w'=>r= .returned (.tuple #[])∧RdAt w' b S (sayS true e a s) v5 v6 v7∧Ch [b] w w':=by
 obtain ⟨c0,c1,c2,c3,c4,c5,c6,c7,fz⟩:=h.facts;have hbl:=h.lt;have h1:=h.keep (Ch.alloc [] w (.cells #[.int .i64 s.e,.int .i64 s.a] 68)) (by simp);have g1:=Ch.alloc [b] w (.cells #[.int .i64 s.e,.int .i64 s.a] 68)
 have yes:(s.e=0∨a<s.a∨(a=s.a∧e<s.e))→RdAt (((w.setCell ⟨b,2,none⟩ (.int .i64 e)).setCell ⟨b,3,none⟩ (.int .i64 a)).alloc (.cells #[.int .i64 s.e,.int .i64 s.a] 68)) b S (sayS true e a s) v5 v6 v7∧Ch [b] w (((w.setCell ⟨b,2,none⟩ (.int .i64 e)).setCell ⟨b,3,none⟩ (.int .i64 a)).alloc (.cells #[.int .i64 s.e,.int .i64 s.a] 68)):=by
  intro h2;rw [show sayS true e a s={s with e:=e,a:=a} from by simp [sayS,h2]];exact ⟨((h.set.2.1 e).set.2.2.1 a).keep (Ch.alloc [] _ _) (by simp),((Ch.setCell _ (by simp) _).trans (Ch.setCell _ (by simp) _)).trans (Ch.alloc _ _ _)⟩
 have no:¬(s.e=0∨a<s.a∨(a=s.a∧e<s.e))→RdAt (w.alloc (.cells #[.int .i64 s.e,.int .i64 s.a] 68)) b S (sayS true e a s) v5 v6 v7∧Ch [b] w (w.alloc (.cells #[.int .i64 s.e,.int .i64 s.a] 68)):=by
  intro h2;rw [show sayS true e a s=s from by simp [sayS,h2]];exact ⟨h1,g1⟩
 have Y:=hide yes;have N:=hide no;clear yes no h1 g1
 by_cases h0:s.e=0
 ·have H0:Hid (s.e=0):=h0
  have g0:(s.e==0)=true:=by simp [h0]
  clear h0;go_enter Tryz.func149,Tryz.ntmps149;go_wp2_with fail
  go_end0
  exact ⟨rfl,Y.out (Or.inl H0.out)⟩
 ·have g0:(s.e==0)=false:=by simp [h0]
  have H0:Hid (¬s.e=0):=h0;clear h0
  by_cases h1:a<s.a
  ·go_enter Tryz.func149,Tryz.ntmps149
   go_wp2_with fail
   go_end0
   exact ⟨rfl,Y.out (Or.inr (Or.inl h1))⟩
  ·by_cases h2:a=s.a
   ·have H2:Hid (a=s.a):=h2
    have g2:(a==s.a)=true:=by simp [h2]
    clear h2
    by_cases h3:e<s.e
    ·go_enter Tryz.func149,Tryz.ntmps149
     go_wp2_with fail
     go_end0
     exact ⟨rfl,Y.out (Or.inr (Or.inr ⟨H2.out,h3⟩))⟩
    ·go_enter Tryz.func149,Tryz.ntmps149
     go_wp2_with fail
     go_end0
     exact ⟨rfl,N.out (by have:=H0.out;omega)⟩
   ·have H2:Hid (¬a=s.a):=h2
    have g2:(a==s.a)=false:=by simp [h2]
    clear h2;go_enter Tryz.func149,Tryz.ntmps149;go_wp2_with fail
    go_end0
    exact ⟨rfl,N.out (by have:=H0.out;have:=H2.out;omega)⟩
set_option maxHeartbeats 400000 in
theorem zCl{w:World}{b:Nat}{S:ByteArray}{s:St}{v5 v6 v7:Value}(h:RdAt w b S s v5 v6 v7)(n m a:Int):
  Calls Tryz.prog 113 #[.pointer (some ⟨b,0,none⟩),.int .i64 n,.int .i64 m,.int .i64 a] w fun r w'=>r= .returned (.tuple #[])∧RdAt w' b S (sayS (decide (m≤n)) 3 a s) v5 v6 v7∧Ch [b] w w':=by
 by_cases hle:m≤n
 ·have HD:Hid (decide (m≤n)=true):=by show _=_;simp [hle]
  go_enter Tryz.func113,Tryz.ntmps113;go_wp2_with fail;refine (zDl h _ _).mono ?_;rintro e w1 ⟨rfl,h1,g1⟩;go_wp2_with fail
  go_end0
  exact ⟨rfl,by rw [HD.out];exact h1,g1⟩
 ·have HD:Hid (decide (m≤n)=false):=by show _=_;simp [hle]
  go_enter Tryz.func113,Tryz.ntmps113;go_wp2_with fail
  go_end0
  exact ⟨rfl,by rw [HD.out,zKE];exact h,Ch.refl _ _⟩
set_option maxHeartbeats 400000 in
theorem zJf{w:World}{b:Nat}{S:ByteArray}{s:St}{v5 v6 v7:Value}(h:RdAt w b S s v5 v6 v7)(hS:S.size≤400)(hi:s.i≤S.size):
  Calls Tryz.prog 109 #[.pointer (some ⟨b,0,none⟩)] w fun e w'=>e= .returned (.string (S.extract s.i (run isSm S s.i)))∧∃n,w'=w.drewN n:=by
 obtain ⟨c0,c1,c2,c3,c4,c5,c6,c7,fz⟩:=h.facts;generalize s.i=I at *;go_enter Tryz.func109,Tryz.ntmps109;go_wp2_with fail
 go_loop [3] (fun k=>∃j:Nat,k= .int .i64 j∧Hid (run isSm S I=run isSm S j)∧I≤j∧j≤S.size) (fun k=>S.size - (intOf k).toNat)
 case atStart=>exact ⟨I,rfl,rfl,Nat.le_refl _,hi⟩
 case round=>
  obtain ⟨j,rfl,hj,hIj,hjs⟩:=hrel
  by_cases hlt:(j:Int)<S.size
  ·have hlt':j<S.size:=by omega
   by_cases ha:(97:Int)≤S[j].toNat
   ·by_cases hz:(S[j].toNat:Int)≤122
    ·have HR:Hid (run isSm S I=run isSm S (j+1)):=hj.out.trans (zDi hlt' (by rw [← zCQ hlt'];simp [isSm,ha,hz]))
     go_wp2_with fail
     go_round
     case rel=>exact ⟨j+1,by go_num,HR,by omega,by omega⟩
     case measure=>simp [intOf];omega
    ·have HR:Hid (run isSm S I=j):=hj.out.trans (zCH (by rw [← zCQ hlt'];simp [isSm];omega))
     go_wp2_with fail;go_quiet (fail)
     go_wp2
     go_ret;exact ⟨by rw [HR.out];rfl,_,rfl⟩
   ·have HR:Hid (run isSm S I=j):=hj.out.trans (zCH (by rw [← zCQ hlt'];simp [isSm];omega))
    go_wp2_with fail;go_quiet (fail)
    go_wp2
    go_ret;exact ⟨by rw [HR.out];rfl,_,rfl⟩
  ·have HR:Hid (run isSm S I=j):=hj.out.trans (zCH (by rw [zDs (by omega)];simp [isSm]))
   go_wp2_with fail;go_quiet (fail)
   go_wp2
   go_ret;exact ⟨by rw [HR.out];rfl,_,rfl⟩
def zBQ(x:ByteArray):Int:=
 if zBH x zCf then 10 else if zBH x zEK then 11 else if zBH x toW then 12 else if zBH x zC3 then 13
 else if zBH x ⟨#[98,121,116,101]⟩ then 14 else if zBH x ⟨#[117,112,112,101,114]⟩ then 15 else if zBH x ⟨#[108,111,119,101,114]⟩ then 16
 else if zBH x zCm then 17 else if zBH x zCL then 18 else if zBH x zE3 then 19 else if 8<x.size then 1 else 2
def zFf(c:Int):Int:=if c=34 then 3 else if c=91 then 4 else if c=47 then 5 else if c=123 then 6 else if c=125 then 7 else if c=61 then 8 else if c=59 then 9 else 1
def zAM(S:ByteArray)(i:Nat):Int:=if i=S.size then 0 else if (S.extract i (run isSm S i)).size=0 then zFf (bt S i) else zBQ (S.extract i (run isSm S i))
theorem zMt{x:ByteArray}(l:List UInt8):(x.toList==l)=zBH x ⟨l.toArray⟩:=by
 simp [zBH,zCI]
set_option maxHeartbeats 800000 in
theorem zMr{w:World}(c:Int):Calls Tryz.prog 111 #[.int .u8 c] w fun e w'=>e= .returned (.int .i64 (zFf c))∧w'=w:=by
 by_cases h1:c=34
 ·subst h1;go_enter Tryz.func111,Tryz.ntmps111;go_wp2_with fail;go_ret;exact ⟨rfl,rfl⟩
 by_cases h2:c=91
 ·subst h2;go_enter Tryz.func111,Tryz.ntmps111;go_wp2_with fail;go_ret;exact ⟨rfl,rfl⟩
 by_cases h3:c=47
 ·subst h3;go_enter Tryz.func111,Tryz.ntmps111;go_wp2_with fail;go_ret;exact ⟨rfl,rfl⟩
 by_cases h4:c=123
 ·subst h4;go_enter Tryz.func111,Tryz.ntmps111;go_wp2_with fail;go_ret;exact ⟨rfl,rfl⟩
 by_cases h5:c=125
 ·subst h5;go_enter Tryz.func111,Tryz.ntmps111;go_wp2_with fail;go_ret;exact ⟨rfl,rfl⟩
 by_cases h6:c=61
 ·subst h6;go_enter Tryz.func111,Tryz.ntmps111;go_wp2_with fail;go_ret;exact ⟨rfl,rfl⟩
 by_cases h7:c=59
 ·subst h7;go_enter Tryz.func111,Tryz.ntmps111;go_wp2_with fail;go_ret;exact ⟨rfl,rfl⟩
 have HR:Hid (zFf c=1):=by show _=_;simp [zFf,h1,h2,h3,h4,h5,h6,h7]
 have q1:(c==34)=false:=by simp [h1]
 have q2:(c==91)=false:=by simp [h2]
 have q3:(c==47)=false:=by simp [h3]
 have q4:(c==123)=false:=by simp [h4]
 have q5:(c==125)=false:=by simp [h5]
 have q6:(c==61)=false:=by simp [h6]
 have q7:(c==59)=false:=by simp [h7]
 clear h1 h2 h3 h4 h5 h6 h7;go_enter Tryz.func111,Tryz.ntmps111;go_wp2_with fail;go_ret;exact ⟨by rw [HR.out];rfl,rfl⟩
set_option maxHeartbeats 800000 in
theorem zMd{w:World}(x:ByteArray):Calls Tryz.prog 110 #[.string x] w fun e w'=>e= .returned (.int .i64 (zBQ x))∧w'=w:=by
 have key:∀l:List UInt8,x=⟨l.toArray⟩∨((x.toList==l)=false∧¬x.toList=l∧zBH x ⟨l.toArray⟩=false):=by
  intro l
  by_cases e:x=⟨l.toArray⟩
  ·exact Or.inl e
  ·right
   have a:zBH x ⟨l.toArray⟩=false:=by rw [Bool.eq_false_iff];intro h;exact e (zA8.1 h)
   have b:(x.toList==l)=false:=by rw [zMt];exact a
   exact ⟨b,by simpa using b,a⟩
 rcases key [115,99,114,117,98] with rfl | ⟨q0,q0',r0⟩
 ·go_enter Tryz.func110,Tryz.ntmps110;go_wp2_with fail;go_ret;exact ⟨rfl,rfl⟩
 rcases key [115,119,97,112] with rfl | ⟨q1,q1',r1⟩
 ·go_enter Tryz.func110,Tryz.ntmps110;go_wp2_with fail;go_ret;exact ⟨rfl,rfl⟩
 rcases key [116,111] with rfl | ⟨q2,q2',r2⟩
 ·go_enter Tryz.func110,Tryz.ntmps110;go_wp2_with fail;go_ret;exact ⟨rfl,rfl⟩
 rcases key [110,111,110,101] with rfl | ⟨q3,q3',r3⟩
 ·go_enter Tryz.func110,Tryz.ntmps110;go_wp2_with fail;go_ret;exact ⟨rfl,rfl⟩
 rcases key [98,121,116,101] with rfl | ⟨q4,q4',r4⟩
 ·go_enter Tryz.func110,Tryz.ntmps110;go_wp2_with fail;go_ret;exact ⟨rfl,rfl⟩
 rcases key [117,112,112,101,114] with rfl | ⟨q5,q5',r5⟩
 ·go_enter Tryz.func110,Tryz.ntmps110;go_wp2_with fail;go_ret;exact ⟨rfl,rfl⟩
 rcases key [108,111,119,101,114] with rfl | ⟨q6,q6',r6⟩
 ·go_enter Tryz.func110,Tryz.ntmps110;go_wp2_with fail;go_ret;exact ⟨rfl,rfl⟩
 rcases key [99,104,97,105,110] with rfl | ⟨q7,q7',r7⟩
 ·go_enter Tryz.func110,Tryz.ntmps110;go_wp2_with fail;go_ret;exact ⟨rfl,rfl⟩
 rcases key [110,101,118,101,114] with rfl | ⟨q8,q8',r8⟩
 ·go_enter Tryz.func110,Tryz.ntmps110;go_wp2_with fail;go_ret;exact ⟨rfl,rfl⟩
 rcases key [115,97,109,101] with rfl | ⟨q9,q9',r9⟩
 ·go_enter Tryz.func110,Tryz.ntmps110;go_wp2_with fail;go_ret;exact ⟨rfl,rfl⟩
 have HR:Hid (zBQ x=if 8<x.size then 1 else 2):=by
  show _=_
  simp only [zBQ,zCf,zEK,toW,zC3,zCm,zCL,zE3];simp only [r0,r1,r2,r3,r4,r5,r6,r7,r8,r9,Bool.false_eq_true,if_false]
 clear r0 r1 r2 r3 r4 r5 r6 r7 r8 r9 key
 by_cases h8:(8:Int)<x.size
 ·go_enter Tryz.func110,Tryz.ntmps110
  go_wp2_with fail;go_ret;exact ⟨by rw [HR.out,if_pos (by omega)];rfl,rfl⟩
 ·go_enter Tryz.func110,Tryz.ntmps110
  go_wp2_with fail;go_ret;exact ⟨by rw [HR.out,if_neg (by omega)];rfl,rfl⟩
end Go.Proofs.YteobgfbgglfkbaaGreat
namespace Go.Proofs.YteobgfbgglfkbaaGreat
open Go.RowKit
attribute [local go_sem ↓] Go.wp_at_zero Go.wp_at_succ
set_option maxHeartbeats 1600000 in
theorem zBX{w:World}{b:Nat}{S:ByteArray}{s:St}{v5 v6 v7:Value}(h:RdAt w b S s v5 v6 v7)(hS:S.size≤400)(hi:s.i≤S.size):
  Calls Tryz.prog 75 #[.pointer (some ⟨b,0,none⟩)] w fun e w'=>e= .returned (.int .i64 (zAM S (run isBl S s.i)))∧RdAt w' b S (s.skip S) v5 v6 v7∧Ch [b] w w':=by
 go_enter Tryz.func75,Tryz.ntmps75;go_wp2_with fail
 go_loopw [] (fun w1=>∃j:Nat,Hid (run isBl S s.i=run isBl S j)∧j≤S.size∧RdAt w1 b S {s with i:=j} v5 v6 v7∧Ch [b] w w1) (fun w1=>S.size - penI b w1)
 case atStart=>exact ⟨s.i,rfl,hi,h,Ch.refl _ _⟩
 case round=>
  generalize wr=w1 at *;obtain ⟨j,hj,hjs,h1,g1⟩:=hrel;obtain ⟨c0,c1,c2,c3,c4,c5,c6,c7,fz⟩:=h1.facts;simp only at c1
  have fin:isBl (bt S j)=false→run isBl S s.i=j:=fun hb=>hj.out.trans (zCH hb)
  by_cases hlt:(j:Int)<S.size
  ·have hlt':j<S.size:=by omega
   have l4:(j:Int)<400:=by omega
   by_cases hb:bt S j=32
   ·have q1:((S[j].toNat:Int)==32)=true:=by rw [zCQ hlt'];simp [hb]
    have HR:Hid (run isBl S s.i=run isBl S (j+1)):=hj.out.trans (zDi hlt' (by simp [isBl,hb]));clear hb hj fin;go_wp2_with fail;go_quiet (fail);go_wp2_with fail;go_roundw
    case rel=>exact ⟨j+1,HR,hlt',h1.bump,g1.trans ((Ch.drewN _ _ _).trans (Ch.setCell _ (by simp) _))⟩
    case measure=>
     have h1':RdAt (w1.drewN nq) b S {s with i:=j} v5 v6 v7:=h1;rw [h1.penI,h1'.bump.penI];simp only;omega
   ·have q1:((S[j].toNat:Int)==32)=false:=by rw [zCQ hlt'];simp [hb]
    by_cases hc:bt S j=10
    ·have q2:((S[j].toNat:Int)==10)=true:=by rw [zCQ hlt'];simp [hc]
     have HR:Hid (run isBl S s.i=run isBl S (j+1)):=hj.out.trans (zDi hlt' (by simp [isBl,hc]));clear hb hj hc fin;go_wp2_with fail;go_quiet (fail);go_wp2_with fail;go_roundw
     case rel=>exact ⟨j+1,HR,hlt',h1.bump,g1.trans ((Ch.drewN _ _ _).trans (Ch.setCell _ (by simp) _))⟩
     case measure=>
      have h1':RdAt (w1.drewN nq) b S {s with i:=j} v5 v6 v7:=h1;rw [h1.penI,h1'.bump.penI];simp only;omega
    ·have q2:((S[j].toNat:Int)==10)=false:=by rw [zCQ hlt'];simp [hc]
     have HR:Hid (run isBl S s.i=j):=fin (by simp [isBl,hb,hc])
     have q3:((j:Int)==S.size)=false:=by rw [beq_eq_false_iff_ne];omega
     have q3':(j==S.size)=false:=by rw [beq_eq_false_iff_ne];omega
     have hne:¬j=S.size:=by omega
     clear hb hc hj fin;go_wp2_with fail;go_quiet (fail);have h2:RdAt (w1.drewN nq) b S {s with i:=j} v5 v6 v7:=h1;have g2:=g1.trans (Ch.drewN [b] w1 nq);generalize w1.drewN nq=w2 at *;clear c0 c1 c2 c3 c4 c5 c6 c7 fz;obtain ⟨c0,c1,c2,c3,c4,c5,c6,c7,fz⟩:=h2.facts;simp only at c1;go_wp2_with fail;go_quiet (fail);have h3:RdAt (w2.drewN nq) b S {s with i:=j} v5 v6 v7:=h2;have g3:=g2.trans (Ch.drewN [b] w2 nq);generalize w2.drewN nq=w3 at *;clear c0 c1 c2 c3 c4 c5 c6 c7 fz;obtain ⟨c0,c1,c2,c3,c4,c5,c6,c7,fz⟩:=h3.facts;simp only at c1;go_wp2_with fail;refine (zJf h3 hS hjs).mono ?_;rintro e w4 ⟨rfl,n3,rfl⟩;have h4:RdAt (w3.drewN n3) b S {s with i:=j} v5 v6 v7:=h3;have g4:=g3.trans (Ch.drewN [b] w3 n3);generalize w3.drewN n3=w4 at *;clear c0 c1 c2 c3 c4 c5 c6 c7 fz;obtain ⟨c0,c1,c2,c3,c4,c5,c6,c7,fz⟩:=h4.facts;simp only at c1 ⊢
     by_cases hx:(S.extract j (run isSm S j)).size=0
     ·obtain ⟨p1,p2⟩:=zEa hx
      have p3:(!(S.extract j (run isSm S j)).toList.isEmpty)=false:=by simp [p1]
      have HS:Hid (zAM S j=zFf (bt S j)):=by show _=_;simp only [zAM,if_neg hne,if_pos hx]
      have HB:=hide (zCQ hlt');clear hx;generalize S.extract j (run isSm S j)=Z at *;go_wp2_with fail;go_quiet ((go_at_call 111;exact Calls.quiet_of_same (zMr _)));go_wp2_with fail;go_ret;exact ⟨by rw [HR.out,HS.out,← HB.out];rfl,by rw [show s.skip S={s with i:=j} from by simp [St.skip,HR.out]];exact h4,g4.trans (Ch.drewN _ _ _)⟩
     ·obtain ⟨p1,p2⟩:=zIs hx
      have p3:(!(S.extract j (run isSm S j)).toList.isEmpty)=true:=by simp [p1]
      have HS:Hid (zAM S j=zBQ (S.extract j (run isSm S j))):=by show _=_;simp only [zAM,if_neg hne,if_neg hx]
      clear hx;generalize S.extract j (run isSm S j)=Z at *;go_wp2_with fail;refine (zMd _).mono ?_;rintro e w5 ⟨rfl,rfl⟩;go_wp2_with fail;go_ret;exact ⟨by rw [HR.out,HS.out];rfl,by rw [show s.skip S={s with i:=j} from by simp [St.skip,HR.out]];exact h4,g4⟩
  ·have HR:Hid (run isBl S s.i=j):=fin (by rw [zDs (by omega)];rfl)
   have he:j=S.size:=by omega
   have q3:((j:Int)==S.size)=true:=by rw [beq_iff_eq];omega
   have q3':(j==S.size)=true:=by rw [beq_iff_eq];omega
   have HS:Hid (zAM S j=0):=by show _=_;simp [zAM,he]
   have hd':decide (j<S.size)=false:=by simp;omega
   have hd2':decide ((j:Int)<S.size)=false:=by simp;omega
   clear fin hj he;go_wp2_with fail;go_quiet (fail);go_wp2_with fail;go_quiet (fail);go_wp2_with fail;go_ret;exact ⟨by rw [HR.out,HS.out];rfl,by rw [show s.skip S={s with i:=j} from by simp [St.skip,HR.out]];exact h1,g1.trans ((Ch.drewN _ _ _).trans (Ch.drewN _ _ _))⟩
def zFG(S:ByteArray)(want:Int)(s:St):Except Nat (Nat×St):=
 if zAM S (run isBl S s.i)=want then .ok (run isBl S s.i,{s with i:=run isBl S s.i+max 1 (run isSm S (run isBl S s.i) - run isBl S s.i)}) else .error (run isBl S s.i)
def TakePost(w:World)(b:Nat)(S:ByteArray)(v5 v6 v7:Value)(r:Except Nat (Nat×St))(e:Ending)(w':World):Prop:=
 Ch [b] w w'∧((∃p s',r= .ok (p,s')∧e= .returned (.int .i64 p)∧RdAt w' b S s' v5 v6 v7∧s'.i≤S.size)∨(∃d,r= .error d∧Gone w' b S d e∧d≤S.size))
set_option maxRecDepth 100000 in
set_option maxHeartbeats 1600000 in
theorem zEp{w:World}{b:Nat}{S:ByteArray}{s:St}{v5 v6 v7:Value}(h:RdAt w b S s v5 v6 v7)(hS:S.size≤400)(hi:s.i≤S.size)(want:Int)(hw:1≤want):
  Calls Tryz.prog 112 #[.pointer (some ⟨b,0,none⟩),.int .i64 want] w (TakePost w b S v5 v6 v7 (zFG S want s)):=by
 have l1:=zAW isBl S s.i hi;go_enter Tryz.func112,Tryz.ntmps112;go_wp2_with fail;refine (zBX h hS hi).mono ?_;rintro e w1 ⟨rfl,h1,g1⟩;generalize hI:run isBl S s.i=I at *;have HI:=hide hI;clear hI
 by_cases hs:zAM S I=want
 ·have q1:(zAM S I !=want)=false:=by simp [hs]
  have q1':(zAM S I==want)=true:=by simp [hs]
  have hne:¬I=S.size:=by intro e;rw [e] at hs;simp [zAM] at hs;omega
  have l2:=zAW isSm S I l1.2
  have HT:Hid (zFG S want s= .ok (I,{s with i:=I+max 1 (run isSm S I - I)})):=by show _=_;simp only [zFG,HI.out,hs,if_true]
  have h1':RdAt w1 b S {s with i:=I} v5 v6 v7:=by rw [show s.skip S={s with i:=I} from by simp [St.skip,HI.out]] at h1;exact h1
  obtain ⟨c0,c1,c2,c3,c4,c5,c6,c7,fz⟩:=h1'.facts;simp only at c1
  have hexI:Hid (run isSm S I - I≤S.size - I):=by show _≤_;omega
  clear hs h1;generalize zAM S I=sg at *;generalize hJ:run isSm S I=J at *;obtain ⟨m,rfl⟩:∃m,J=I+m:=⟨J - I,by omega⟩;have HJ:=hide hJ;clear hJ
  have lI:(I:Int)<400:=by omega
  have lm:(m:Int)≤400:=by omega
  have hsz:(S.extract I (I+m)).size=m:=by simp;omega
  have hi2:I+max 1 m≤S.size:=by omega
  rw [show I+m - I=m from by omega] at HT;clear hexI
  by_cases h1m:(1:Int)<m
  all_goals
   first
    |have HM:Hid (max 1 m=m):=by show _=_;omega
     have hst:∀w3:World,RdAt w3 b S {s with i:=I} v5 v6 v7→RdAt (w3.setCell ⟨b,1,none⟩ (.int .i64 ((I:Int)+m))) b S {s with i:=I+max 1 m} v5 v6 v7:=by
      intro w3 h3;rw [HM.out];exact h3.set.1 (I+m)
     have HST:=hide hst
     have hwr:IntKind.i64.wrap ((I:Int)+m)=(I:Int)+m:=by rw [IntKind.wrap_i64];omega
     clear hst
    |have HM:Hid (max 1 m=1):=by show _=_;omega
     have hst:∀w3:World,RdAt w3 b S {s with i:=I} v5 v6 v7→RdAt (w3.setCell ⟨b,1,none⟩ (.int .i64 ((I:Int)+1))) b S {s with i:=I+max 1 m} v5 v6 v7:=by
      intro w3 h3;rw [HM.out];exact h3.set.1 (I+1)
     have HST:=hide hst
     have hwr:IntKind.i64.wrap ((I:Int)+1)=(I:Int)+1:=by rw [IntKind.wrap_i64];omega
     clear hst
   go_wp2_with fail
   go_region_with ((go_at_call 109;refine (zJf (s:={s with i:=I}) (S:=S) (b:=b) (v5:=v5) (v6:=v6) (v7:=v7) ?_ hS l1.2).mono ?_;exact h1';rintro e w3 ⟨rfl,n3,rfl⟩;rw [HJ.out]))
   all_goals
    go_wp2_with fail;go_ret;exact ⟨g1.trans ((Ch.drewN [b] w1 (1+n3)).trans (Ch.setCell _ (by simp) _)),Or.inl ⟨I,_,HT.out,rfl,HST.out (w1.drewN (1+n3)) h1',hi2⟩⟩
 ·have q1:(zAM S I !=want)=true:=by simp [hs]
  have q1':(zAM S I==want)=false:=by simp [hs]
  have HT:Hid (zFG S want s= .error I):=by show _=_;simp only [zFG,HI.out,hs,if_false]
  have h1':RdAt w1 b S {s with i:=I} v5 v6 v7:=by rw [show s.skip S={s with i:=I} from by simp [St.skip,HI.out]] at h1;exact h1
  clear hs h1;generalize zAM S I=sg at *;go_wp2_with fail;refine (zA5 h1').mono ?_;rintro e w2 ⟨hg,g2⟩;obtain ⟨rfl,ht⟩:=hg;exact zAF rfl ⟨g1.trans g2,Or.inr ⟨I,HT.out,⟨rfl,ht⟩,l1.2⟩⟩
end Go.Proofs.YteobgfbgglfkbaaGreat
