import Derived.Test.YteobgfbgglfkbaaGreatProg
import Derived.WalkKit
import Derived.BigQuiet
set_option maxHeartbeats 800000
set_option maxRecDepth 100000
namespace Go.Proofs.YteobgfbgglfkbaaGreat
open Go.RowKit
def Hd(p:Prop):Prop:=p
theorem Hd.o{p:Prop}(h:Hd p):p:=h
def bt(S:ByteArray)(i:Nat):Int:=if h:i<S.size then(S[i].toNat:Int)else -1
theorem jS{S:ByteArray}{i:Nat}(h:i<S.size):(S[i].toNat:Int)=bt S i:=by simp[bt,h]
theorem YL{S:ByteArray}{i:Nat}(h:S.size<=i):bt S i= -1:=by simp[bt];omega
theorem MN(S:ByteArray)(i:Nat): -1<=bt S i/\bt S i<=255:=by
 unfold bt;split
 ·rename_i h;have:=S[i].toNat_lt;omega
 ·omega
theorem yB{S:ByteArray}{i:Nat}(h:0<=bt S i):i<S.size:=by
 unfold bt at h;split at h
 ·assumption
 ·omega
structure St where
 i:Nat
 e:Int
 a:Int
 k:Int
def Kf(S:ByteArray)(s:St)(bad nest:Int):Obj:=
 .cells #[.string S,.int .i64 s.i,.int .i64 bad,.int .i64 s.e,.int .i64 s.a,.int .i64 s.k,.int .i64 nest] 91
def zO(w:World)(b:Nat)(S:ByteArray)(s:St)(bad nest:Int):Prop:=w.heap[b]? =some (Kf S s bad nest)
structure Ch(X:List Nat)(w w':World):Prop where
 os:w'.os=w.os
 tape:w'.tape=w.tape
 output:w'.output=w.output
 size:w.heap.size<=w'.heap.size
 block:∀k,k<w.heap.size->k∉X->w'.heap[k]? =w.heap[k]?
theorem Ch.refl(X:List Nat)(w:World):Ch X w w:=⟨rfl,rfl,rfl,Nat.le_refl _,fun _ _ _=>rfl⟩
theorem Ch.trans{X:List Nat}{a b c:World}(h:Ch X a b)(g:Ch X b c):Ch X a c:=
 ⟨g.os.trans h.os,g.tape.trans h.tape,g.output.trans h.output,Nat.le_trans h.size g.size,fun k hk hx=>(g.block k (Nat.lt_of_lt_of_le hk h.size) hx).trans (h.block k hk hx)⟩
theorem Ch.trans'{X Y:List Nat}{a b c:World}(h:Ch X a b)(g:Ch Y b c)(hY:∀k,k∈Y->k∈X\/a.heap.size<=k):Ch X a c:=
 ⟨g.os.trans h.os,g.tape.trans h.tape,g.output.trans h.output,Nat.le_trans h.size g.size,fun k hk hx=>
  (g.block k (Nat.lt_of_lt_of_le hk h.size) (fun hy=>(hY k hy).elim hx (fun h'=>by omega))).trans (h.block k hk hx)⟩
theorem Ch.mono{X Y:List Nat}{a b:World}(h:Ch X a b)(hX:∀k,k∈X->k∈Y):Ch Y a b:=
 ⟨h.os,h.tape,h.output,h.size,fun k hk hy=>h.block k hk (fun hx=>hy (hX k hx))⟩
theorem Ch.drewN(X:List Nat)(w:World)(n:Nat):Ch X w (w.drewN n):=⟨rfl,rfl,rfl,Nat.le_refl _,fun _ _ _=>rfl⟩
theorem Ch.drew(X:List Nat)(w:World):Ch X w w.drew:=⟨rfl,rfl,rfl,Nat.le_refl _,fun _ _ _=>rfl⟩
theorem Ch.setCell{X:List Nat}(w:World){p:Addr}(hp:p.block∈X)(v:Value):Ch X w (w.setCell p v):=
 ⟨rfl,rfl,rfl,by simp[World.setCell],fun k _ hx=>Below.heap_setCell _ _ _ _ (fun e=>hx (e ▸ hp))⟩
theorem Ch.setCell_new{X:List Nat}{a w:World}(h:Ch X a w){p:Addr}(hp:p.block∈X\/a.heap.size<=p.block)(v:Value):Ch X a (w.setCell p v):=
 h.trans' (Ch.setCell (X:=[p.block]) w (by simp) v) (by simpa using hp)
theorem Ch.alloc(X:List Nat)(w:World)(o:Obj):Ch X w (w.alloc o):=
 ⟨rfl,rfl,rfl,by simp,fun k hk _=>Below.heap_alloc _ _ _ hk⟩
theorem Ch.below{X:List Nat}{w w':World}(h:Ch X w w'){B:Nat}(hB:B<=w.heap.size)(hX:∀k,k∈X->B<=k):Below B w w':=
 ⟨h.os,h.tape,h.output,h.size,fun k hk=>h.block k (by omega) (fun hx=>by have:=hX k hx;omega)⟩
theorem zO.kp{w w':World}{b:Nat}{S:ByteArray}{s:St}{bad nest:Int}{X:List Nat}(h:zO w b S s bad nest)(g:Ch X w w')(hb:b∉X):zO w' b S s bad nest:=by
 have hlt:b<w.heap.size:=by
  rcases Nat.lt_or_ge b w.heap.size with h'|h'
  ·exact h'
  ·simp[zO,Array.getElem?_eq_none h']at h
 exact(g.block b hlt hb).trans h
theorem zO.lt{w:World}{b:Nat}{S:ByteArray}{s:St}{bad nest:Int}(h:zO w b S s bad nest):b<w.heap.size:=by
 rcases Nat.lt_or_ge b w.heap.size with h'|h'
 ·exact h'
 ·simp[zO,Array.getElem?_eq_none h']at h
theorem zO.fa{w:World}{b:Nat}{S:ByteArray}{s:St}{bad nest:Int}(h:zO w b S s bad nest):
 w.cell? ⟨b,0,none⟩=some (.string S)/\w.cell? ⟨b,1,none⟩=some (.int .i64 s.i)/\w.cell? ⟨b,2,none⟩=some (.int .i64 bad)/\
 w.cell? ⟨b,3,none⟩=some (.int .i64 s.e)/\w.cell? ⟨b,4,none⟩=some (.int .i64 s.a)/\w.cell? ⟨b,5,none⟩=some (.int .i64 s.k)/\
 w.cell? ⟨b,6,none⟩=some (.int .i64 nest)/\∀o,w.frozen? ⟨b,o,none⟩=false:=by
 unfold zO at h
 refine⟨?_,?_,?_,?_,?_,?_,?_,?_⟩ <;>simp[World.cell?,World.frozen?,h,Kf]
theorem zO.set{w:World}{b:Nat}{S:ByteArray}{s:St}{bad nest:Int}(h:zO w b S s bad nest):
 (∀n:Nat,zO (w.setCell ⟨b,1,none⟩ (.int .i64 n)) b S {s with i:=n} bad nest)/\
 (∀x:Int,zO (w.setCell ⟨b,2,none⟩ (.int .i64 x)) b S s x nest)/\
 (∀x:Int,zO (w.setCell ⟨b,3,none⟩ (.int .i64 x)) b S {s with e:=x} bad nest)/\
 (∀x:Int,zO (w.setCell ⟨b,4,none⟩ (.int .i64 x)) b S {s with a:=x} bad nest)/\
 (∀x:Int,zO (w.setCell ⟨b,5,none⟩ (.int .i64 x)) b S {s with k:=x} bad nest)/\
 (∀x:Int,zO (w.setCell ⟨b,6,none⟩ (.int .i64 x)) b S s bad x):=by
 unfold zO at *
 refine⟨?_,?_,?_,?_,?_,?_⟩ <;>intro x <;>simp[World.setCell,Array.getElem?_modify,h,Kf]
theorem zO.drewN{w:World}{b:Nat}{S:ByteArray}{s:St}{bad nest:Int}(h:zO w b S s bad nest)(n:Nat):zO (w.drewN n) b S s bad nest:=h
theorem Qj(a:ByteArray):a.toList=a.data.toList:=ByteArray.toList_eq a
theorem Y6{a b:ByteArray}(h:a=b):(a.toList==b.toList)=true/\(a.data.toList==b.data.toList)=true:=by subst h;simp
theorem Zn{a b:ByteArray}(h:¬a=b):(a.toList==b.toList)=false/\(a.data.toList==b.data.toList)=false:=by
 have h2:(a.data.toList==b.data.toList)=false:=by
  rw[beq_eq_false_iff_ne];intro e;apply h;cases a;cases b;simp at e;simp[e]
 exact⟨by rw[Qj,Qj];exact h2,h2⟩
theorem zC{p:Prop}(h:p):Hd p:=h
theorem Vp{p:Prop}(h:Hd p):p:=h
def yg(S:ByteArray)(i:Nat)(lo hi:Int):Bool:=decide (lo<=bt S i) && decide (bt S i<=hi)
def zL(wrong:Bool)(e a:Int)(s:St):St:=
 if wrong=true/\(s.e=0\/a<s.a\/(a=s.a/\e<s.e))then {s with e:=e,a:=a} else s
theorem QS{w:World}{b:Nat}{S:ByteArray}{s:St}{nest:Int}(h:zO w b S s (-1) nest):
 Calls Tryz.prog 52 #[.pointer (some ⟨b,0,none⟩)] w fun e w'=>e= .returned (.tuple #[])/\zO w' b S s s.i nest/\Ch [b] w w':=by
 obtain⟨c0,c1,c2,c3,c4,c5,c6,fz⟩:=h.fa;go_enter Tryz.func52,Tryz.ntmps52
 go_wp2
 go_end0
 exact⟨rfl,h.set.2.1 _,Ch.setCell _ (by simp) _⟩
theorem Ko{w:World}{b:Nat}{S:ByteArray}{s:St}{nest:Int}{d:Nat}(h:zO w b S s d nest):
 Calls Tryz.prog 52 #[.pointer (some ⟨b,0,none⟩)] w fun e w'=>e= .returned (.tuple #[])/\zO w' b S s d nest/\Ch [b] w w':=by
 obtain⟨c0,c1,c2,c3,c4,c5,c6,fz⟩:=h.fa
 have hd:¬(d:Int)<0:=by omega
 go_enter Tryz.func52,Tryz.ntmps52
 go_wp2
 go_end0
 exact⟨rfl,h,Ch.refl _ _⟩
theorem Fo{w:World}{b:Nat}{S:ByteArray}{s:St}{nest:Int}{d:Nat}(h:zO w b S s d nest)(wr:Bool)(e a:Int):
 Calls Tryz.prog 53 #[.pointer (some ⟨b,0,none⟩),.bool wr,.int .i64 e,.int .i64 a] w fun r w'=>r= .returned (.tuple #[])/\zO w' b S s d nest/\Ch [b] w w':=by
 obtain⟨c0,c1,c2,c3,c4,c5,c6,fz⟩:=h.fa
 have hd:¬(d:Int)<0:=by omega
 cases wr
 all_goals
  go_enter Tryz.func53,Tryz.ntmps53
  go_wp2
  go_end0
  exact⟨rfl,h,Ch.refl _ _⟩
theorem QB{w:World}{b:Nat}{S:ByteArray}{s:St}{nest:Int}(h:zO w b S s (-1) nest)(wr:Bool)(e a:Int):
 Calls Tryz.prog 53 #[.pointer (some ⟨b,0,none⟩),.bool wr,.int .i64 e,.int .i64 a] w fun r w'=>r= .returned (.tuple #[])/\zO w' b S (zL wr e a s) (-1) nest/\Ch [b] w w':=by
 obtain⟨c0,c1,c2,c3,c4,c5,c6,fz⟩:=h.fa
 have yes:∀wr:Bool,wr=true->(s.e=0\/a<s.a\/(a=s.a/\e<s.e))->(zO ((w.setCell ⟨b,3,none⟩ (.int .i64 e)).setCell ⟨b,4,none⟩ (.int .i64 a)) b S (zL wr e a s) (-1) nest/\Ch [b] w ((w.setCell ⟨b,3,none⟩ (.int .i64 e)).setCell ⟨b,4,none⟩ (.int .i64 a))):=by
  intro wr h1 h2;rw[show zL wr e a s={s with e:=e,a:=a} from by simp[zL,h1,h2]];exact⟨(h.set.2.2.1 e).set.2.2.2.1 a,(Ch.setCell _ (by simp) _).trans (Ch.setCell _ (by simp) _)⟩
 have no:∀wr:Bool,¬(wr=true/\(s.e=0\/a<s.a\/(a=s.a/\e<s.e)))->(zO w b S (zL wr e a s) (-1) nest/\Ch [b] w w):=by
  intro wr h1;rw[show zL wr e a s=s from by simp only[zL,if_neg h1]];exact⟨h,Ch.refl _ _⟩
 have Y:=zC yes;have N:=zC no;clear yes no;cases wr
 ·go_enter Tryz.func53,Tryz.ntmps53
  go_wp2
  go_end0
  exact⟨rfl,Vp N _ (by simp)⟩
 ·by_cases h0:s.e=0
  ·have H0:Hd (s.e=0):=h0
   have g0:(s.e==0)=true:=by simp[h0]
   clear h0;go_enter Tryz.func53,Tryz.ntmps53
   go_wp2
   go_end0
   exact⟨rfl,Vp Y _ rfl (Or.inl H0.o)⟩
  ·have g0:(s.e==0)=false:=by simp[h0]
   have H0:Hd (¬s.e=0):=h0;clear h0
   by_cases h1:a<s.a
   ·go_enter Tryz.func53,Tryz.ntmps53
    go_wp2
    go_end0
    exact⟨rfl,Vp Y _ rfl (Or.inr (Or.inl h1))⟩
   ·by_cases h2:a=s.a
    ·have H2:Hd (a=s.a):=h2
     have g2:(a==s.a)=true:=by simp[h2]
     clear h2
     by_cases h3:e<s.e
     ·go_enter Tryz.func53,Tryz.ntmps53
      go_wp2
      go_end0
      exact⟨rfl,Vp Y _ rfl (Or.inr (Or.inr ⟨H2.o,h3⟩))⟩
     ·go_enter Tryz.func53,Tryz.ntmps53
      go_wp2
      go_end0
      exact⟨rfl,Vp N _ (by have:=H0.o;omega)⟩
    ·have H2:Hd (¬a=s.a):=h2
     have g2:(a==s.a)=false:=by simp[h2]
     clear h2;go_enter Tryz.func53,Tryz.ntmps53
     go_wp2
     go_end0
     exact⟨rfl,Vp N _ (by have:=H0.o;have:=H2.o;omega)⟩
theorem GX{w:World}{b:Nat}{S:ByteArray}{s:St}{nest:Int}{d:Nat}(h:zO w b S s d nest)(lo hi:Int):
 Calls Tryz.prog 50 #[.pointer (some ⟨b,0,none⟩),.int .u8 lo,.int .u8 hi] w fun e w'=>e= .returned (.bool false)/\∃n,w'=w.drewN n:=by
 obtain⟨c0,c1,c2,c3,c4,c5,c6,fz⟩:=h.fa
 have hd:decide ((d:Int)<0)=false:=by simp
 go_enter Tryz.func50,Tryz.ntmps50
 go_wp2
 go_quiet (fail)
 go_wp2
 go_ret;exact⟨rfl,_,rfl⟩
theorem ME{w:World}{b:Nat}{S:ByteArray}{s:St}{nest:Int}(h:zO w b S s (-1) nest)(lo hi:Int)(hlo:0<=lo)(_hS:S.size<=400):
 Calls Tryz.prog 50 #[.pointer (some ⟨b,0,none⟩),.int .u8 lo,.int .u8 hi] w fun e w'=>e= .returned (.bool (yg S s.i lo hi))/\∃n,w'=w.drewN n:=by
 obtain⟨c0,c1,c2,c3,c4,c5,c6,fz⟩:=h.fa;generalize s.i=I at *
 by_cases hI:(I:Int)<S.size
 ·have hI':I<S.size:=by omega
  have E:Hd (yg S I lo hi=(decide (lo<=(S[I].toNat:Int)) && decide ((S[I].toNat:Int)<=hi))):=by
   show _=_;simp only[yg,jS hI']
  by_cases hl:lo<=S[I].toNat
  ·go_enter Tryz.func50,Tryz.ntmps50
   go_wp2
   go_quiet (fail)
   go_wp2
   go_ret;exact⟨by rw[E.o];simp[hl],_,rfl⟩
  ·have hd:decide (lo<=S[I].toNat)=false:=by simpa using hl
   go_enter Tryz.func50,Tryz.ntmps50
   go_wp2
   go_quiet (fail)
   go_wp2
   go_ret;exact⟨by rw[E.o];simp[hd],_,rfl⟩
 ·have E:Hd (yg S I lo hi=false):=by
   show _=_
   rw[yg,YL (by omega)];simp;omega
  have hd:decide ((I:Int)<S.size)=false:=by simpa using hI
  have hd':decide (I<S.size)=false:=by simp;omega
  go_enter Tryz.func50,Tryz.ntmps50
  go_wp2
  go_quiet (fail)
  go_wp2
  go_ret;exact⟨by rw[E.o];simp,_,rfl⟩
def zj(w:World)(b:Nat)(S:ByteArray)(d:Nat):Prop:=∃s nest,zO w b S s d nest/\s.i<=S.size
theorem zj.kp{w w':World}{b:Nat}{S:ByteArray}{d:Nat}{X:List Nat}(h:zj w b S d)(g:Ch X w w')(hb:b∉X):zj w' b S d:=by
 obtain⟨s,nest,h1,h2⟩:=h;exact⟨s,nest,h1.kp g hb,h2⟩
def YQ(p:Int->Bool)(S:ByteArray):Nat->Nat->Nat
 |0,i=>i
 |n+1,i=>if p (bt S i)then YQ p S n (i+1)else i
def run(p:Int->Bool)(S:ByteArray)(i:Nat):Nat:=YQ p S (S.size - i) i
theorem Qs{p:Int->Bool}{S:ByteArray}{i:Nat}(hi:i<S.size)(h:p (bt S i)=true):run p S i=run p S (i+1):=by
 unfold run;rw[show S.size - i=(S.size - (i+1))+1 from by omega];simp[YQ,h]
theorem Z9{p:Int->Bool}{S:ByteArray}{i:Nat}(h:p (bt S i)=false):run p S i=i:=by
 unfold run
 cases S.size - i <;>simp[YQ,h]
theorem EG(p:Int->Bool)(S:ByteArray):∀n i,i<=YQ p S n i/\YQ p S n i<=i+n
 |0,i=>by simp[YQ]
 |n+1,i=>by
  have:=EG p S n (i+1)
  unfold YQ;split <;>omega
theorem zn(p:Int->Bool)(S:ByteArray)(i:Nat)(h:i<=S.size):i<=run p S i/\run p S i<=S.size:=by
 have:=EG p S (S.size - i) i;unfold run;omega
def zI(c:Int):Bool:=c==32 || c==10
def zR(c:Int):Bool:=decide (97<=c) && decide (c<=122)
theorem Mk{w:World}{b:Nat}{S:ByteArray}{d:Nat}(h:zj w b S d)(lo hi:Int):
 Calls Tryz.prog 50 #[.pointer (some ⟨b,0,none⟩),.int .u8 lo,.int .u8 hi] w fun e w'=>e= .returned (.bool false)/\∃n,w'=w.drewN n:=by
 obtain⟨s,nest,h1,h2⟩:=h;exact GX h1 lo hi
theorem EZ{w:World}{b:Nat}{S:ByteArray}{d:Nat}(h:zj w b S d):
 Calls Tryz.prog 52 #[.pointer (some ⟨b,0,none⟩)] w fun e w'=>e= .returned (.tuple #[])/\zj w' b S d/\Ch [b] w w':=by
 obtain⟨s,nest,h1,h2⟩:=h;refine(Ko h1).mono ?_;rintro e w' ⟨rfl,h3,h4⟩;exact⟨rfl,⟨s,nest,h3,h2⟩,h4⟩
theorem KF{w:World}{b:Nat}{S:ByteArray}{d:Nat}(h:zj w b S d)(wr:Bool)(e a:Int):
 Calls Tryz.prog 53 #[.pointer (some ⟨b,0,none⟩),.bool wr,.int .i64 e,.int .i64 a] w fun r w'=>r= .returned (.tuple #[])/\zj w' b S d/\Ch [b] w w':=by
 obtain⟨s,nest,h1,h2⟩:=h;refine(Fo h1 wr e a).mono ?_;rintro e w' ⟨rfl,h3,h4⟩;exact⟨rfl,⟨s,nest,h3,h2⟩,h4⟩
theorem VE{w:World}{b:Nat}{S:ByteArray}{d:Nat}(h:zj w b S d)(c:Int):
 Calls Tryz.prog 99 #[.pointer (some ⟨b,0,none⟩),.int .u8 c] w fun e w'=>e= .returned (.bool false)/\zj w' b S d/\Ch [b] w w':=by
 go_enter Tryz.func99,Tryz.ntmps99;go_wp2_with fail;refine(Mk h _ _).mono ?_;rintro e w1 ⟨rfl,n,rfl⟩;go_wp2_with fail;go_ret;exact⟨rfl,h,Ch.drewN _ _ _⟩
theorem Jm{w:World}{b:Nat}{S:ByteArray}{s:St}{nest:Int}(h:zO w b S s (-1) nest)(c:Int)(hc:0<=c)(hS:S.size<=400)(hb:bt S s.i=c):
 Calls Tryz.prog 99 #[.pointer (some ⟨b,0,none⟩),.int .u8 c] w fun e w'=>e= .returned (.bool true)/\zO w' b S {s with i:=s.i+1} (-1) nest/\Ch [b] w w':=by
 have hq:yg S s.i c c=true:=by simp[yg,hb]
 have hi:(s.i:Int)<400:=by have:=yB (S:=S) (i:=s.i) (by omega);omega
 clear hb;obtain⟨c0,c1,c2,c3,c4,c5,c6,fz⟩:=h.fa;go_enter Tryz.func99,Tryz.ntmps99;go_wp2_with fail;refine(ME h _ _ hc hS).mono ?_;rintro e w1 ⟨rfl,n,rfl⟩;go_wp2_with fail;go_ret;exact⟨rfl,(h.drewN n).set.1 (s.i+1),(Ch.drewN _ _ _).trans (Ch.setCell _ (by simp) _)⟩
theorem jh{w:World}{b:Nat}{S:ByteArray}{s:St}{nest:Int}(h:zO w b S s (-1) nest)(c:Int)(hc:0<=c)(hS:S.size<=400)(hb:¬bt S s.i=c):
 Calls Tryz.prog 99 #[.pointer (some ⟨b,0,none⟩),.int .u8 c] w fun e w'=>e= .returned (.bool false)/\zO w' b S s (-1) nest/\Ch [b] w w':=by
 have hq:yg S s.i c c=false:=by simp[yg];omega
 clear hb;obtain⟨c0,c1,c2,c3,c4,c5,c6,fz⟩:=h.fa;go_enter Tryz.func99,Tryz.ntmps99;go_wp2_with fail;refine(ME h _ _ hc hS).mono ?_;rintro e w1 ⟨rfl,n,rfl⟩;go_wp2_with fail;go_ret;exact⟨rfl,h.drewN n,Ch.drewN _ _ _⟩
theorem Qz{w:World}{b:Nat}{S:ByteArray}{s:St}{nest:Int}(h:zO w b S s (-1) nest)(c:Int)(hc:0<=c)(hS:S.size<=400)(hb:bt S s.i=c):
 Calls Tryz.prog 63 #[.pointer (some ⟨b,0,none⟩),.int .u8 c] w fun e w'=>e= .returned (.tuple #[])/\zO w' b S {s with i:=s.i+1} (-1) nest/\Ch [b] w w':=by
 have HB:=zC hb;clear hb;go_enter Tryz.func63,Tryz.ntmps63;go_wp2_with fail;refine(Jm h _ hc hS HB.o).mono ?_;rintro e w1 ⟨rfl,h1,g1⟩;go_wp2_with fail
 go_end0
 exact⟨rfl,h1,g1⟩
theorem WD{w:World}{b:Nat}{S:ByteArray}{s:St}{nest:Int}(h:zO w b S s (-1) nest)(c:Int)(hc:0<=c)(hS:S.size<=400)(hi:s.i<=S.size)(hb:¬bt S s.i=c):
 Calls Tryz.prog 63 #[.pointer (some ⟨b,0,none⟩),.int .u8 c] w fun e w'=>e= .returned (.tuple #[])/\zj w' b S s.i/\Ch [b] w w':=by
 have HB:=zC hb;clear hb;go_enter Tryz.func63,Tryz.ntmps63;go_wp2_with fail;refine(jh h _ hc hS HB.o).mono ?_;rintro e w1 ⟨rfl,h1,g1⟩;go_wp2_with fail;refine(QS h1).mono ?_;rintro e w2 ⟨rfl,h2,g2⟩;go_wp2_with fail
 go_end0
 exact⟨rfl,⟨s,nest,h2,hi⟩,g1.trans g2⟩
theorem UE{w:World}{b:Nat}{S:ByteArray}{d:Nat}(h:zj w b S d)(c:Int):
 Calls Tryz.prog 63 #[.pointer (some ⟨b,0,none⟩),.int .u8 c] w fun e w'=>e= .returned (.tuple #[])/\zj w' b S d/\Ch [b] w w':=by
 go_enter Tryz.func63,Tryz.ntmps63;go_wp2_with fail;refine(VE h _).mono ?_;rintro e w1 ⟨rfl,h1,g1⟩;go_wp2_with fail;refine(EZ h1).mono ?_;rintro e w2 ⟨rfl,h2,g2⟩;go_wp2_with fail
 go_end0
 exact⟨rfl,h2,g1.trans g2⟩
theorem UG{w:World}{b:Nat}{S:ByteArray}{d:Nat}(h:zj w b S d)(lo hi:Int):
 Calls Tryz.prog 50 #[.pointer (some ⟨b,0,none⟩),.int .u8 lo,.int .u8 hi] w fun e w'=>e= .returned (.bool false)/\zj w' b S d/\Ch [b] w w':=by
 refine(Mk h lo hi).mono ?_;rintro e w' ⟨rfl,n,rfl⟩;exact⟨rfl,h,Ch.drewN _ _ _⟩
theorem jz{w:World}{b:Nat}{S:ByteArray}{s:St}{nest:Int}(h:zO w b S s (-1) nest)(lo hi:Int)(hlo:0<=lo)(hS:S.size<=400):
 Calls Tryz.prog 50 #[.pointer (some ⟨b,0,none⟩),.int .u8 lo,.int .u8 hi] w fun e w'=>e= .returned (.bool (yg S s.i lo hi))/\zO w' b S s (-1) nest/\Ch [b] w w':=by
 refine(ME h lo hi hlo hS).mono ?_;rintro e w' ⟨rfl,n,rfl⟩;exact⟨rfl,h,Ch.drewN _ _ _⟩
theorem Yh{w:World}{b:Nat}{S:ByteArray}{d:Nat}(h:zj w b S d):
 Calls Tryz.prog 29 #[.pointer (some ⟨b,0,none⟩)] w fun e w'=>e= .returned (.tuple #[])/\zj w' b S d/\Ch [b] w w':=by
 go_enter Tryz.func29,Tryz.ntmps29;go_wp2_with fail
 go_loopw [] (fun w1=>zj w1 b S d/\Ch [b] w w1) (fun _=>0)
 case atStart=>exact⟨h,Ch.refl _ _⟩
 case round=>
  obtain⟨h1,g1⟩:=hrel;go_wp2_with fail;refine(UG h1 _ _).mono ?_;rintro e w2 ⟨rfl,h2,g2⟩;go_wp2_with fail;refine(UG h2 _ _).mono ?_;rintro e w3 ⟨rfl,h3,g3⟩;go_wp2_with fail
  go_end0
  exact⟨rfl,h3,g1.trans (g2.trans g3)⟩
theorem Y4{S:ByteArray}{i:Nat}{c:Int}:yg S i c c=(bt S i==c):=by
 simp only[yg];rw[Bool.eq_iff_iff];simp;omega
theorem zO.bump{w:World}{b:Nat}{S:ByteArray}{s:St}{bad nest:Int}(h:zO w b S s bad nest):zO (w.setCell ⟨b,1,none⟩ (.int .i64 (s.i+1))) b S {s with i:=s.i+1} bad nest:=h.set.1 (s.i+1)
def penI(b:Nat)(w:World):Nat:=match w.cell? ⟨b,1,none⟩with|some (.int _ q)=>q.toNat|_=>0
theorem zO.penI{w:World}{b:Nat}{S:ByteArray}{s:St}{bad nest:Int}(h:zO w b S s bad nest):penI b w=s.i:=by
 simp[Proofs.YteobgfbgglfkbaaGreat.penI,h.fa.2.1]
theorem ZE{w:World}{b:Nat}{S:ByteArray}{s:St}{nest:Int}(h:zO w b S s (-1) nest)(hi:s.i<=S.size)(hS:S.size<=400):
 Calls Tryz.prog 29 #[.pointer (some ⟨b,0,none⟩)] w fun e w'=>e= .returned (.tuple #[])/\zO w' b S {s with i:=run zI S s.i} (-1) nest/\Ch [b] w w':=by
 go_enter Tryz.func29,Tryz.ntmps29;go_wp2_with fail
 go_loopw [] (fun w1=>∃j:Nat,Hd (run zI S s.i=run zI S j)/\j<=S.size/\zO w1 b S {s with i:=j} (-1) nest/\Ch [b] w w1) (fun w1=>S.size - penI b w1)
 case atStart=>exact⟨s.i,rfl,hi,h,Ch.refl _ _⟩
 case round=>
  obtain⟨j,hj,hjs,h1,g1⟩:=hrel
  by_cases hb:bt S j=32
  ·have hq:yg S j 32 32=true:=by simp[Y4,hb]
   have hlt:j<S.size:=yB (by omega);have HR:Hd (run zI S s.i=run zI S (j+1)):=hj.o.trans (Qs hlt (by simp[zI,hb]));clear hb hj;go_wp2_with fail;refine(jz h1 _ _ (by omega) hS).mono ?_;rintro e w2 ⟨rfl,h2,g2⟩;obtain⟨c0,c1,c2,c3,c4,c5,c6,fz⟩:=h2.fa;go_wp2_with fail;go_roundw
   case rel=>exact⟨j+1,HR,hlt,h2.set.1 (j+1),g1.trans (g2.trans (Ch.setCell _ (by simp) _))⟩
   case measure=>rw[h1.penI,h2.bump.penI];simp;omega
  ·have hq:yg S j 32 32=false:=by simp[Y4,hb]
   by_cases hc:bt S j=10
   ·have hq2:yg S j 10 10=true:=by simp[Y4,hc]
    have hlt:j<S.size:=yB (by omega);have HR:Hd (run zI S s.i=run zI S (j+1)):=hj.o.trans (Qs hlt (by simp[zI,hc]));clear hb hj hc;go_wp2_with fail;refine(jz h1 _ _ (by omega) hS).mono ?_;rintro e w2 ⟨rfl,h2,g2⟩;go_wp2_with fail;refine(jz h2 _ _ (by omega) hS).mono ?_;rintro e w3 ⟨rfl,h3,g3⟩;obtain⟨c0,c1,c2,c3,c4,c5,c6,fz⟩:=h3.fa;go_wp2_with fail;go_roundw
    case rel=>exact⟨j+1,HR,hlt,h3.set.1 (j+1),g1.trans (g2.trans (g3.trans (Ch.setCell _ (by simp) _)))⟩
    case measure=>rw[h1.penI,h3.bump.penI];simp;omega
   ·have hq2:yg S j 10 10=false:=by simp[Y4,hc]
    have HR:Hd (run zI S s.i=j):=hj.o.trans (Z9 (by simp[zI,hb,hc]));clear hb hj hc;go_wp2_with fail;refine(jz h1 _ _ (by omega) hS).mono ?_;rintro e w2 ⟨rfl,h2,g2⟩;go_wp2_with fail;refine(jz h2 _ _ (by omega) hS).mono ?_;rintro e w3 ⟨rfl,h3,g3⟩;go_wp2_with fail
    go_end0
    exact⟨rfl,by rw[HR.o];exact h3,g1.trans (g2.trans g3)⟩
theorem Us{w:World}{b:Nat}{S:ByteArray}{d:Nat}(h:zj w b S d)(c:Int):
 Calls Tryz.prog 58 #[.pointer (some ⟨b,0,none⟩),.int .u8 c] w fun e w'=>e= .returned (.tuple #[])/\zj w' b S d/\Ch [b] w w':=by
 go_enter Tryz.func58,Tryz.ntmps58;go_wp2_with fail;refine(Yh h).mono ?_;rintro e w1 ⟨rfl,h1,g1⟩;go_wp2_with fail;refine(UE h1 _).mono ?_;rintro e w2 ⟨rfl,h2,g2⟩;go_wp2_with fail
 go_end0
 exact⟨rfl,h2,g1.trans g2⟩
def St.sk(S:ByteArray)(s:St):St:={s with i:=run zI S s.i}
theorem OQ{w:World}{b:Nat}{S:ByteArray}{s:St}{nest:Int}(h:zO w b S s (-1) nest)(c:Int)(hc:0<=c)(hS:S.size<=400)(hi:s.i<=S.size)(hb:bt S (run zI S s.i)=c):
 Calls Tryz.prog 58 #[.pointer (some ⟨b,0,none⟩),.int .u8 c] w fun e w'=>e= .returned (.tuple #[])/\zO w' b S {s with i:=run zI S s.i+1} (-1) nest/\Ch [b] w w':=by
 have HB:=zC hb;clear hb;go_enter Tryz.func58,Tryz.ntmps58;go_wp2_with fail;refine(ZE h hi hS).mono ?_;rintro e w1 ⟨rfl,h1,g1⟩;go_wp2_with fail;refine(Qz h1 _ hc hS HB.o).mono ?_;rintro e w2 ⟨rfl,h2,g2⟩;go_wp2_with fail
 go_end0
 exact⟨rfl,h2,g1.trans g2⟩
theorem Tq{w:World}{b:Nat}{S:ByteArray}{s:St}{nest:Int}(h:zO w b S s (-1) nest)(c:Int)(hc:0<=c)(hS:S.size<=400)(hi:s.i<=S.size)(hb:¬bt S (run zI S s.i)=c):
 Calls Tryz.prog 58 #[.pointer (some ⟨b,0,none⟩),.int .u8 c] w fun e w'=>e= .returned (.tuple #[])/\zj w' b S (run zI S s.i)/\Ch [b] w w':=by
 have HB:=zC hb;clear hb;go_enter Tryz.func58,Tryz.ntmps58;go_wp2_with fail;refine(ZE h hi hS).mono ?_;rintro e w1 ⟨rfl,h1,g1⟩;go_wp2_with fail;refine(WD h1 _ hc hS (zn _ _ _ hi).2 HB.o).mono ?_;rintro e w2 ⟨rfl,h2,g2⟩;go_wp2_with fail
 go_end0
 exact⟨rfl,h2,g1.trans g2⟩
theorem Up{w:World}{b:Nat}{S:ByteArray}{d:Nat}(h:zj w b S d)(c:Int):
 Calls Tryz.prog 56 #[.pointer (some ⟨b,0,none⟩),.int .u8 c] w fun e w'=>e= .returned (.bool false)/\zj w' b S d/\Ch [b] w w':=by
 go_enter Tryz.func56,Tryz.ntmps56;go_wp2_with fail;refine(Yh h).mono ?_;rintro e w1 ⟨rfl,h1,g1⟩;go_wp2_with fail;refine(UG h1 _ _).mono ?_;rintro e w2 ⟨rfl,h2,g2⟩;go_wp2_with fail;go_ret;exact⟨rfl,h2,g1.trans g2⟩
theorem Wl{w:World}{b:Nat}{S:ByteArray}{s:St}{nest:Int}(h:zO w b S s (-1) nest)(c:Int)(hc:0<=c)(hS:S.size<=400)(hi:s.i<=S.size):
 Calls Tryz.prog 56 #[.pointer (some ⟨b,0,none⟩),.int .u8 c] w fun e w'=>e= .returned (.bool (bt S (run zI S s.i)==c))/\zO w' b S {s with i:=run zI S s.i} (-1) nest/\Ch [b] w w':=by
 go_enter Tryz.func56,Tryz.ntmps56;go_wp2_with fail;refine(ZE h hi hS).mono ?_;rintro e w1 ⟨rfl,h1,g1⟩;go_wp2_with fail;refine(jz h1 _ _ hc hS).mono ?_;rintro e w2 ⟨rfl,h2,g2⟩;go_wp2_with fail;go_ret;exact⟨by rw[<- Y4];rfl,h2,g1.trans g2⟩
theorem Qv{w:World}{b:Nat}{S:ByteArray}{s:St}{nest:Int}(h:zO w b S s (-1) nest)(hS:S.size<=400)(hi:s.i<=S.size):
 Calls Tryz.prog 51 #[.pointer (some ⟨b,0,none⟩)] w fun e w'=>e= .returned (.string (S.extract (run zI S s.i) (run zR S (run zI S s.i))))/\zO w' b S {s with i:=run zI S s.i} (-1) nest/\Ch [b] w w':=by
 go_enter Tryz.func51,Tryz.ntmps51;go_wp2_with fail;refine(ZE h hi hS).mono ?_;rintro e w1 ⟨rfl,h1,g1⟩;have hi1:=(zn zI S s.i hi).2;generalize hG:run zI S s.i=I at *;have HG:=zC hG;clear h hG;obtain⟨c0,c1,c2,c3,c4,c5,c6,fz⟩:=h1.fa;go_wp2_with fail
 go_loop [3] (fun k=>∃j:Nat,k= .int .i64 j/\Hd (run zR S I=run zR S j)/\I<=j/\j<=S.size) (fun k=>S.size - (intOf k).toNat)
 case atStart=>exact⟨I,rfl,rfl,Nat.le_refl _,hi1⟩
 case round=>
  obtain⟨j,rfl,hj,hIj,hjs⟩:=hrel
  have fin:Hd (run zR S I=j->∀nq,(Ending.returned (.string (S.extract I j))=Ending.returned (.string (S.extract (run zI S s.i) (run zR S (run zI S s.i))))/\zO (w1.drewN nq) b S {s with i:=run zI S s.i} (-1) nest/\Ch [b] w (w1.drewN nq))):=by
   intro hr nq;rw[HG.o,hr];exact⟨rfl,h1.drewN nq,g1.trans (Ch.drewN _ _ _)⟩
  by_cases hlt:(j:Int)<S.size
  ·have hlt':j<S.size:=by omega
   by_cases ha:(97:Int)<=S[j].toNat
   ·by_cases hz:(S[j].toNat:Int)<=122
    ·have HR:Hd (run zR S I=run zR S (j+1)):=hj.o.trans (Qs hlt' (by rw[<- jS hlt'];simp[zR,ha,hz]))
     go_wp2_with fail
     go_round
     case rel=>exact⟨j+1,by go_num,HR,by omega,by omega⟩
     case measure=>simp[intOf];omega
    ·have HR:Hd (run zR S I=j):=hj.o.trans (Z9 (by rw[<- jS hlt'];simp[zR];omega))
     go_wp2_with fail;go_quiet (fail)
     go_wp2
     go_ret;exact fin.o HR.o _
   ·have HR:Hd (run zR S I=j):=hj.o.trans (Z9 (by rw[<- jS hlt'];simp[zR];omega))
    go_wp2_with fail;go_quiet (fail)
    go_wp2
    go_ret;exact fin.o HR.o _
  ·have HR:Hd (run zR S I=j):=hj.o.trans (Z9 (by rw[YL (by omega)];simp[zR]))
   go_wp2_with fail;go_quiet (fail)
   go_wp2
   go_ret;exact fin.o HR.o _
theorem MI{w:World}{b:Nat}{S:ByteArray}{d:Nat}(h:zj w b S d)(_hS:S.size<=400):
 Calls Tryz.prog 51 #[.pointer (some ⟨b,0,none⟩)] w fun e w'=>e= .returned (.string ByteArray.empty)/\zj w' b S d/\Ch [b] w w':=by
 go_enter Tryz.func51,Tryz.ntmps51;go_wp2_with fail;refine(Yh h).mono ?_;rintro e w1 ⟨rfl,h1,g1⟩;obtain⟨s,nest,h2,h3⟩:=h1;obtain⟨c0,c1,c2,c3,c4,c5,c6,fz⟩:=h2.fa
 have hd:decide ((d:Int)<0)=false:=by simp
 generalize hI:s.i=I at c1 h3;have HI:=zC hI;clear hI;go_wp2_with fail
 go_loop [3] (fun k=>k= .int .i64 I) (fun _=>0)
 case atStart=>rfl
 case round=>
  subst hrel;go_wp2_with fail;go_quiet (fail)
  go_wp2
  go_ret;exact⟨by simp,⟨s,nest,h2.drewN _,HI.o ▸ h3⟩,g1.trans (Ch.drewN _ _ _)⟩
def JZ(w:World)(r:Nat)(L:List ByteArray):Prop:=w.heap[r]? =some (.cells (L.map Value.string).toArray 9)
theorem JZ.lt{w:World}{r:Nat}{L:List ByteArray}(h:JZ w r L):r<w.heap.size:=by
 rcases Nat.lt_or_ge r w.heap.size with h'|h'
 ·exact h'
 ·simp[JZ,Array.getElem?_eq_none h']at h
theorem JZ.kp{w w':World}{r:Nat}{L:List ByteArray}{X:List Nat}(h:JZ w r L)(g:Ch X w w')(hb:r∉X):JZ w' r L:=(g.block r h.lt hb).trans h
theorem JZ.cl{w:World}{r:Nat}{L:List ByteArray}(h:JZ w r L)(k:Nat)(hk:k<L.length):w.cell? ⟨r,k,none⟩=some (.string L[k]):=by
 unfold JZ at h;simp[World.cell?,h,hk]
def Zz(L:List ByteArray)(x:ByteArray)(k:Nat):Prop:=∀t,(h:t<L.length)->t<k->L[t]≠x
theorem GY{w:World}{b:Nat}{S:ByteArray}{s:St}{nest:Int}(h:zO w b S s (-1) nest)(hS:S.size<=400)(hi:s.i<=S.size)
 {r:Nat} {L:List ByteArray} (hr:JZ w r L) (hrb:r≠b) (hL:L.length<=10) (hin:S.extract (run zI S s.i) (run zR S (run zI S s.i))∈L) (cap:Nat):
 Calls Tryz.prog 30 #[.pointer (some ⟨b,0,none⟩),.slice (some ⟨r,0,none⟩) L.length cap] w fun e w'=>e= .returned (.tuple #[.string (S.extract (run zI S s.i) (run zR S (run zI S s.i))),.int .i64 (run zI S s.i)])/\zO w' b S {s with i:=run zR S (run zI S s.i)} (-1) nest/\Ch [b] w w':=by
 go_enter Tryz.func30,Tryz.ntmps30;go_wp2_with fail;refine(Qv h hS hi).mono ?_;rintro e w1 ⟨rfl,h1,g1⟩;have hr1:=hr.kp g1 (by simpa using hrb);have hi1:=(zn zI S s.i hi).2;have hi2:=(zn zR S _ hi1);generalize hG:run zI S s.i=I at *;have HG:=zC hG;clear h hG hr;generalize hJ:run zR S I=J at *;have HJ:=zC hJ;clear hJ;generalize hX:S.extract I J=X at *;have HX:=zC hX
 have hXs:(X.size:Int)=J - I:=by rw[<- hX];simp;omega
 clear hX;obtain⟨c0,c1,c2,c3,c4,c5,c6,fz⟩:=h1.fa;go_wp2_with fail
 go_loop [8] (fun k=>∃j:Nat,k= .int .i64 j/\j<=L.length/\Hd (Zz L X j)) (fun k=>L.length - (intOf k).toNat)
 case atStart=>exact⟨0,rfl,Nat.zero_le _,fun t _ h=>by omega⟩
 case round=>
  obtain⟨j,rfl,hjs,hno⟩:=hrel
  by_cases hlt:(j:Int)<L.length
  ·have hlt':j<L.length:=by omega
   have hc:=hr1.cl j hlt'
   by_cases hq:L[j]=X
   ·obtain⟨q1,q2⟩:=Y6 hq
    clear hq;go_wp2_with fail;go_ret2;rw[HG.o,HJ.o,HX.o,show(I:Int)+((J:Int) - I)=J from by omega];exact⟨rfl,h1.set.1 J,g1.trans (Ch.setCell _ (by simp) _)⟩
   ·obtain⟨q1,q2⟩:=Zn hq
    have H2:Hd (Zz L X (j+1)):=by
     intro t ht h1
     by_cases e:t=j
     ·subst e;exact hq
     ·exact hno.o t ht (by omega)
    clear hq;go_wp2_with fail
    go_round
    case rel=>exact⟨j+1,by go_num,by omega,H2⟩
    case measure=>simp[intOf];omega
  ·exfalso
   obtain⟨t,ht,e⟩:=List.getElem_of_mem hin;exact hno.o t ht (by omega) e
theorem Ez{w:World}{b:Nat}{S:ByteArray}{s:St}{nest:Int}(h:zO w b S s (-1) nest)(hS:S.size<=400)(hi:s.i<=S.size)
 {r:Nat} {L:List ByteArray} (hr:JZ w r L) (hrb:r≠b) (hL:L.length<=10) (hin:S.extract (run zI S s.i) (run zR S (run zI S s.i))∉L) (cap:Nat):
 Calls Tryz.prog 30 #[.pointer (some ⟨b,0,none⟩),.slice (some ⟨r,0,none⟩) L.length cap] w fun e w'=>e= .returned (.tuple #[.string ByteArray.empty,.int .i64 (run zI S s.i)])/\zj w' b S (run zI S s.i)/\Ch [b] w w':=by
 go_enter Tryz.func30,Tryz.ntmps30;go_wp2_with fail;refine(Qv h hS hi).mono ?_;rintro e w1 ⟨rfl,h1,g1⟩;have hr1:=hr.kp g1 (by simpa using hrb);have hi1:=(zn zI S s.i hi).2;generalize hG:run zI S s.i=I at *;have HG:=zC hG;clear h hG hr;generalize hX:S.extract I (run zR S I)=X at *;clear hX;have HN:=zC hin;clear hin;obtain⟨c0,c1,c2,c3,c4,c5,c6,fz⟩:=h1.fa;go_wp2_with fail
 go_loop [8] (fun k=>∃j:Nat,k= .int .i64 j/\j<=L.length) (fun k=>L.length - (intOf k).toNat)
 case atStart=>exact⟨0,rfl,Nat.zero_le _⟩
 case round=>
  obtain⟨j,rfl,hjs⟩:=hrel
  by_cases hlt:(j:Int)<L.length
  ·have hlt':j<L.length:=by omega
   have hc:=hr1.cl j hlt';obtain⟨q1,q2⟩:=Zn (a:=L[j]) (b:=X) (fun e=>HN.o (e ▸ List.getElem_mem hlt'));go_wp2_with fail
   go_round
   case rel=>exact⟨j+1,by go_num,by omega⟩
   case measure=>simp[intOf];omega
  ·go_wp2_with fail
   refine(QS h1).mono ?_;rintro e w2 ⟨rfl,h2,g2⟩;go_wp2_with fail;go_ret2;rw[HG.o];exact⟨rfl,⟨_,_,h2,hi1⟩,g1.trans g2⟩
theorem Px{w:World}{b:Nat}{S:ByteArray}{d:Nat}(h:zj w b S d)(hS:S.size<=400)
 {r:Nat} {L:List ByteArray} (hr:JZ w r L) (hrb:r≠b) (hL:L.length<=10) (hin:ByteArray.empty∉L) (cap:Nat):
 Calls Tryz.prog 30 #[.pointer (some ⟨b,0,none⟩),.slice (some ⟨r,0,none⟩) L.length cap] w fun e w'=>(∃a:Int,e= .returned (.tuple #[.string ByteArray.empty,.int .i64 a]))/\zj w' b S d/\Ch [b] w w':=by
 go_enter Tryz.func30,Tryz.ntmps30;go_wp2_with fail;refine(MI h hS).mono ?_;rintro e w1 ⟨rfl,h1,g1⟩;have hr1:=hr.kp g1 (by simpa using hrb);obtain⟨s1,nest1,p1,hi1⟩:=h1;obtain⟨c0,c1,c2,c3,c4,c5,c6,fz⟩:=p1.fa;generalize hX:ByteArray.empty=X at *;clear hX hr;have HN:=zC hin;clear hin;go_wp2_with fail
 go_loop [8] (fun k=>∃j:Nat,k= .int .i64 j/\j<=L.length) (fun k=>L.length - (intOf k).toNat)
 case atStart=>exact⟨0,rfl,Nat.zero_le _⟩
 case round=>
  obtain⟨j,rfl,hjs⟩:=hrel
  by_cases hlt:(j:Int)<L.length
  ·have hlt':j<L.length:=by omega
   have hc:=hr1.cl j hlt';obtain⟨q1,q2⟩:=Zn (a:=L[j]) (b:=X) (fun e=>HN.o (e ▸ List.getElem_mem hlt'));go_wp2_with fail
   go_round
   case rel=>exact⟨j+1,by go_num,by omega⟩
   case measure=>simp[intOf];omega
  ·go_wp2_with fail
   refine(Ko p1).mono ?_;rintro e w2 ⟨rfl,h2,g2⟩;go_wp2_with fail;go_ret2;exact⟨⟨_,rfl⟩,⟨_,_,h2,hi1⟩,g1.trans g2⟩
def js:List ByteArray:=[⟨#[115,99,114,117,98]⟩,⟨#[115,119,97,112]⟩,⟨#[116,111]⟩,⟨#[110,111,110,101]⟩,⟨#[98,121,116,101]⟩,⟨#[117,112,112,101,114]⟩,⟨#[108,111,119,101,114]⟩,⟨#[99,104,97,105,110]⟩,⟨#[110,101,118,101,114]⟩,⟨#[115,97,109,101]⟩]
def jK(c:Int)(l:ByteArray):Bool:=l.data.toList.any fun x=>(x.toNat:Int)==c
theorem EQ{c:Int}{l:ByteArray}:jK c l=true↔∃t,∃h:t<l.size,(l[t].toNat:Int)=c:=by
 unfold jK;rw[List.any_eq_true]
 constructor
 ·rintro⟨x,hx,e⟩
  obtain⟨t,ht,e2⟩:=List.getElem_of_mem hx;refine⟨t,by simpa using ht,?_⟩;subst e2;exact eq_of_beq e
 ·rintro⟨t,ht,e⟩
  exact⟨l[t],List.getElem_mem (l:=l.data.toList) (n:=t) (by simpa using ht),by simpa using e⟩
theorem Bw{w:World}(c:Int)(l:ByteArray)(hl:l.size<=400)(hc:jK c l=true):
 Calls Tryz.prog 96 #[.int .u8 c,.string l] w fun e w'=>e= .returned (.bool true)/\w'=w:=by
 have HC:=zC hc;clear hc;go_enter Tryz.func96,Tryz.ntmps96;go_wp2_with fail
 go_loop [5] (fun k=>∃j:Nat,k= .int .i64 j/\j<=l.size/\Hd (∀t,(h:t<l.size)->t<j->(l[t].toNat:Int)≠c)) (fun k=>l.size - (intOf k).toNat)
 case atStart=>exact⟨0,rfl,Nat.zero_le _,fun t _ h=>by omega⟩
 case round=>
  obtain⟨j,rfl,hjs,hno⟩:=hrel
  by_cases hlt:(j:Int)<l.size
  ·have hlt':j<l.size:=by omega
   by_cases hq:(l[j].toNat:Int)=c
   ·have q1:((l[j].toNat:Int)==c)=true:=by simp[hq]
    clear hq;go_wp2_with fail;go_ret;exact⟨rfl,rfl⟩
   ·have q1:((l[j].toNat:Int)==c)=false:=by simp[hq]
    have H2:Hd (∀t,(h:t<l.size)->t<j+1->(l[t].toNat:Int)≠c):=by
     intro t ht h1
     by_cases e:t=j
     ·subst e;exact hq
     ·exact hno.o t ht (by omega)
    clear hq;go_wp2_with fail
    go_round
    case rel=>exact⟨j+1,by go_num,by omega,H2⟩
    case measure=>simp[intOf];omega
  ·exfalso
   obtain⟨t,ht,e⟩:=EQ.1 HC.o;exact hno.o t ht (by omega) e
theorem Ny{w:World}(c:Int)(l:ByteArray)(hl:l.size<=400)(hc:jK c l=false):
 Calls Tryz.prog 96 #[.int .u8 c,.string l] w fun e w'=>e= .returned (.bool false)/\w'=w:=by
 have HC:=zC hc;clear hc;go_enter Tryz.func96,Tryz.ntmps96;go_wp2_with fail
 go_loop [5] (fun k=>∃j:Nat,k= .int .i64 j/\j<=l.size) (fun k=>l.size - (intOf k).toNat)
 case atStart=>exact⟨0,rfl,Nat.zero_le _⟩
 case round=>
  obtain⟨j,rfl,hjs⟩:=hrel
  by_cases hlt:(j:Int)<l.size
  ·have hlt':j<l.size:=by omega
   have q1:((l[j].toNat:Int)==c)=false:=by
    rw[beq_eq_false_iff_ne];intro e;have:=HC.o;rw[EQ.2 ⟨j,hlt',e⟩]at this;simp at this
   go_wp2_with fail
   go_round
   case rel=>exact⟨j+1,by go_num,by omega⟩
   case measure=>simp[intOf];omega
  ·go_wp2_with fail
   go_ret;exact⟨rfl,rfl⟩
def jv(c:Int):Bool:=(decide (48<=c) && decide (c<=57)) || (decide (97<=c) && decide (c<=102))
def jV(c:Int):Int:=if c<=57 then c - 48 else c - 97+10
theorem Xz{w:World}{b:Nat}{S:ByteArray}{s:St}{nest:Int}(h:zO w b S s (-1) nest)(hS:S.size<=400)(hx:jv (bt S s.i)=true):
 Calls Tryz.prog 188 #[.pointer (some ⟨b,0,none⟩)] w fun e w'=>e= .returned (.int .i64 (jV (bt S s.i)))/\zO w' b S {s with i:=s.i+1} (-1) nest/\Ch [b] w w':=by
 have hlt:s.i<S.size:=yB (by simp[jv]at hx;omega)
 have hi:(s.i:Int)<400:=by omega
 have hlt2:(s.i:Int)<S.size:=by omega
 have hin:=jS hlt;have HI:=zC hin
 have hbd:(S[s.i].toNat:Int)<256:=by have:=MN S s.i;omega
 by_cases h9:bt S s.i<=57
 ·have hq:yg S s.i 48 57=true:=by simp[jv]at hx;simp[yg];omega
  have hq2:yg S s.i 97 102=false:=by simp[yg];omega
  have HV:Hd (jV (bt S s.i)=S[s.i].toNat - 48):=by show _=_;rw[jV,if_pos h9,hin]
  clear h9 hin hx;go_enter Tryz.func188,Tryz.ntmps188;go_wp2_with fail;refine(jz h _ _ (by omega) hS).mono ?_;rintro e w1 ⟨rfl,h1,g1⟩;go_wp2_with fail;refine(jz h1 _ _ (by omega) hS).mono ?_;rintro e w2 ⟨rfl,h2,g2⟩;obtain⟨c0,c1,c2,c3,c4,c5,c6,fz⟩:=h2.fa;go_wp2_with fail;go_quiet (fail)
  go_wp2
  go_ret;exact⟨by rw[HV.o];rfl,h2.bump,g1.trans (g2.trans ((Ch.drewN _ _ _).trans (Ch.setCell _ (by simp) _)))⟩
 ·have hq:yg S s.i 48 57=false:=by simp[yg];omega
  have hq2:yg S s.i 97 102=true:=by simp[jv]at hx;simp[yg];omega
  have HV:Hd (jV (bt S s.i)=S[s.i].toNat - 97+10):=by show _=_;rw[jV,if_neg h9,hin]
  clear h9 hin hx;go_enter Tryz.func188,Tryz.ntmps188;go_wp2_with fail;refine(jz h _ _ (by omega) hS).mono ?_;rintro e w1 ⟨rfl,h1,g1⟩;go_wp2_with fail;refine(jz h1 _ _ (by omega) hS).mono ?_;rintro e w2 ⟨rfl,h2,g2⟩;obtain⟨c0,c1,c2,c3,c4,c5,c6,fz⟩:=h2.fa;go_wp2_with fail;go_quiet (fail)
  go_wp2
  go_ret;exact⟨by rw[HV.o];rfl,h2.bump,g1.trans (g2.trans ((Ch.drewN _ _ _).trans (Ch.setCell _ (by simp) _)))⟩
theorem Lo{w:World}{b:Nat}{S:ByteArray}{s:St}{nest:Int}(h:zO w b S s (-1) nest)(hS:S.size<=400)(hi:s.i<=S.size)(hx:jv (bt S s.i)=false):
 Calls Tryz.prog 188 #[.pointer (some ⟨b,0,none⟩)] w fun e w'=>e= .returned (.int .i64 0)/\zj w' b S s.i/\Ch [b] w w':=by
 have hq:yg S s.i 48 57=false:=by simp[jv]at hx;simp[yg];omega
 have hq2:yg S s.i 97 102=false:=by simp[jv]at hx;simp[yg];omega
 clear hx;go_enter Tryz.func188,Tryz.ntmps188;go_wp2_with fail;refine(jz h _ _ (by omega) hS).mono ?_;rintro e w1 ⟨rfl,h1,g1⟩;go_wp2_with fail;refine(jz h1 _ _ (by omega) hS).mono ?_;rintro e w2 ⟨rfl,h2,g2⟩;go_wp2_with fail;refine(QS h2).mono ?_;rintro e w3 ⟨rfl,h3,g3⟩;go_wp2_with fail;go_ret;exact⟨rfl,⟨_,_,h3,hi⟩,g1.trans (g2.trans g3)⟩
theorem Ph{w:World}{b:Nat}{S:ByteArray}{d:Nat}(h:zj w b S d):
 Calls Tryz.prog 188 #[.pointer (some ⟨b,0,none⟩)] w fun e w'=>e= .returned (.int .i64 0)/\zj w' b S d/\Ch [b] w w':=by
 go_enter Tryz.func188,Tryz.ntmps188;go_wp2_with fail;refine(UG h _ _).mono ?_;rintro e w1 ⟨rfl,h1,g1⟩;go_wp2_with fail;refine(UG h1 _ _).mono ?_;rintro e w2 ⟨rfl,h2,g2⟩;go_wp2_with fail;refine(EZ h2).mono ?_;rintro e w3 ⟨rfl,h3,g3⟩;go_wp2_with fail;go_ret;exact⟨rfl,h3,g1.trans (g2.trans g3)⟩
def zx(S:ByteArray)(lo:Int)(but:ByteArray)(s:St):Except Nat (Int×St):=
 if bt S s.i=92 then
  if jv (bt S (s.i+1))then
   if jv (bt S (s.i+2))then .ok (16 * jV (bt S (s.i+1))+jV (bt S (s.i+2)),{s with i:=s.i+3})else .error (s.i+2)
  else .error (s.i+1)
 else if(decide (lo<=bt S s.i) && decide (bt S s.i<=126)) && !jK (bt S s.i) but then .ok (bt S s.i,{s with i:=s.i+1})else .error s.i
theorem Zu{c:Int}(h:jv c=true):0<=jV c/\jV c<=15:=by
 simp[jv]at h;unfold jV;split <;>omega
theorem Vt{c:Int}(h:jv c=true):0<=c:=by simp[jv]at h;omega
theorem Jr{S:ByteArray}{lo:Int}{but:ByteArray}{s s':St}{c:Int}(hlo:0<=lo)(h:zx S lo but s= .ok (c,s')):
 s.i<s'.i/\s'.i<=S.size/\0<=c/\c<=255/\s'.e=s.e/\s'.a=s.a/\s'.k=s.k:=by
 unfold zx at h
 split at h
 ·split at h
  ·split at h
   ·rename_i h1 h2 h3
    have b1:=Zu h2;have b2:=Zu h3;have l3:=yB (Vt h3)
    injection h with h
    injection h with e1 e2
    subst e1 e2;refine⟨by simp <;>omega,by simp <;>omega,by omega,by omega,rfl,rfl,rfl⟩
   ·cases h
  ·cases h
 ·split at h
  ·rename_i h1 h2
   simp at h2;have l3:=yB (S:=S) (i:=s.i) (by omega)
   injection h with h
   injection h with e1 e2
   subst e1 e2;refine⟨by simp,by simp;omega,by omega,by omega,rfl,rfl,rfl⟩
  ·cases h
theorem Me{S:ByteArray}{lo:Int}{but:ByteArray}{s:St}{d:Nat}(hi:s.i<=S.size)(h:zx S lo but s= .error d):d<=S.size:=by
 unfold zx at h
 split at h
 ·rename_i h1
  have l1:=yB (S:=S) (i:=s.i) (by omega)
  split at h
  ·rename_i h2
   have l2:=yB (Vt h2)
   split at h
   ·cases h
   ·injection h with h;omega
  ·injection h with h;omega
 ·split at h
  ·cases h
  ·injection h with h;omega
theorem Iu{w:World}{b:Nat}{S:ByteArray}{s:St}{nest:Int}(h:zO w b S s (-1) nest)(hS:S.size<=400)(lo:Int)(but:ByteArray)(h92:bt S s.i=92)(hx:jv (bt S (s.i+1))=true)(hy:jv (bt S (s.i+2))=true):
 Calls Tryz.prog 144 #[.pointer (some ⟨b,0,none⟩),.int .u8 lo,.string but] w fun e w'=>e= .returned (.int .u8 (16 * jV (bt S (s.i+1))+jV (bt S (s.i+2))))/\zO w' b S {s with i:=s.i+3} (-1) nest/\Ch [b] w w':=by
 have bd1:=Zu hx;have bd2:0<=jV (bt S (s.i+1+1))/\jV (bt S (s.i+1+1))<=15:=Zu hy;have H92:=zC h92;have HX:=zC hx;have HY:=zC hy;clear h92 hx hy;obtain⟨b1,b2⟩:=bd1;obtain⟨b3,b4⟩:=bd2;go_enter Tryz.func144,Tryz.ntmps144;go_wp2_with fail;refine(Jm h _ (by omega) hS H92.o).mono ?_;rintro e w1 ⟨rfl,h1,g1⟩;go_wp2_with fail;refine(Xz h1 hS HX.o).mono ?_;rintro e w2 ⟨rfl,h2,g2⟩;go_wp2_with fail;refine(Xz h2 hS HY.o).mono ?_;rintro e w3 ⟨rfl,h3,g3⟩;go_wp2_with fail;go_ret;refine⟨?_,h3,g1.trans (g2.trans g3)⟩;generalize jV (bt S (s.i+1))=x at *
 show Ending.returned (.int .u8 _)= .returned (.int .u8 (16 * x+jV (bt S (s.i+1+1))))
 generalize jV (bt S (s.i+1+1))=y at *
 have:(16 * x+y) % 256=16 * x+y:=by omega
 simp
theorem Gq{w:World}{b:Nat}{S:ByteArray}{s:St}{nest:Int}(h:zO w b S s (-1) nest)(hS:S.size<=400)(lo:Int)(but:ByteArray)(h92:bt S s.i=92)(hx:jv (bt S (s.i+1))=true)(hy:jv (bt S (s.i+2))=false):
 Calls Tryz.prog 144 #[.pointer (some ⟨b,0,none⟩),.int .u8 lo,.string but] w fun e w'=>(∃c:Int,0<=c/\c<=255/\e= .returned (.int .u8 c))/\zj w' b S (s.i+2)/\Ch [b] w w':=by
 obtain⟨b1,b2⟩:=Zu hx;have l2:=yB (Vt hx);have H92:=zC h92;have HX:=zC hx;have HY:=zC hy;clear h92 hx hy;go_enter Tryz.func144,Tryz.ntmps144;go_wp2_with fail;refine(Jm h _ (by omega) hS H92.o).mono ?_;rintro e w1 ⟨rfl,h1,g1⟩;go_wp2_with fail;refine(Xz h1 hS HX.o).mono ?_;rintro e w2 ⟨rfl,h2,g2⟩;go_wp2_with fail;refine(Lo h2 hS l2 HY.o).mono ?_;rintro e w3 ⟨rfl,h3,g3⟩;go_wp2_with fail;go_ret;exact⟨⟨_,by omega,by omega,rfl⟩,h3,g1.trans (g2.trans g3)⟩
theorem ae{w:World}{b:Nat}{S:ByteArray}{s:St}{nest:Int}(h:zO w b S s (-1) nest)(hS:S.size<=400)(lo:Int)(but:ByteArray)(h92:bt S s.i=92)(hx:jv (bt S (s.i+1))=false):
 Calls Tryz.prog 144 #[.pointer (some ⟨b,0,none⟩),.int .u8 lo,.string but] w fun e w'=>(∃c:Int,0<=c/\c<=255/\e= .returned (.int .u8 c))/\zj w' b S (s.i+1)/\Ch [b] w w':=by
 have l1:=yB (S:=S) (i:=s.i) (by omega);have H92:=zC h92;have HX:=zC hx;clear h92 hx;go_enter Tryz.func144,Tryz.ntmps144;go_wp2_with fail;refine(Jm h _ (by omega) hS H92.o).mono ?_;rintro e w1 ⟨rfl,h1,g1⟩;go_wp2_with fail;refine(Lo h1 hS l1 HX.o).mono ?_;rintro e w2 ⟨rfl,h2,g2⟩;go_wp2_with fail;refine(Ph h2).mono ?_;rintro e w3 ⟨rfl,h3,g3⟩;go_wp2_with fail;go_ret;exact⟨⟨0,by omega,by omega,rfl⟩,h3,g1.trans (g2.trans g3)⟩
theorem SA{w:World}{b:Nat}{S:ByteArray}{s:St}{nest:Int}(h:zO w b S s (-1) nest)(hS:S.size<=400)(lo:Int)(hlo:0<=lo)(but:ByteArray)(hbut:but.size<=400)(h92:¬bt S s.i=92)(h1:lo<=bt S s.i)(h2:bt S s.i<=126)(h3:jK (bt S s.i) but=false):
 Calls Tryz.prog 144 #[.pointer (some ⟨b,0,none⟩),.int .u8 lo,.string but] w fun e w'=>e= .returned (.int .u8 (bt S s.i))/\zO w' b S {s with i:=s.i+1} (-1) nest/\Ch [b] w w':=by
 have hq:yg S s.i lo 126=true:=by simp[yg,h1,h2]
 have l1:=yB (S:=S) (i:=s.i) (by omega)
 have l2:(s.i:Int)<S.size:=by omega
 have l3:(s.i:Int)<400:=by omega
 have HB:=zC (jS l1)
 have H3:Hd (jK (S[s.i].toNat:Int) but=false):=by show _=_;rw[jS l1];exact h3
 have H92:=zC h92;clear h92 h1 h2 h3;go_enter Tryz.func144,Tryz.ntmps144;go_wp2_with fail;refine(jh h _ (by omega) hS H92.o).mono ?_;rintro e w1 ⟨rfl,h1,g1⟩;go_wp2_with fail;refine(jz h1 _ _ hlo hS).mono ?_;rintro e w2 ⟨rfl,h2,g2⟩;obtain⟨c0,c1,c2,c3,c4,c5,c6,fz⟩:=h2.fa;go_wp2_with fail;go_quiet ((go_at_call 96;exact Calls.quiet_of_same (Ny _ _ hbut H3.o)));go_wp2_with fail;go_quiet (fail);go_wp2_with fail;go_ret;rw[<- HB.o];exact⟨rfl,h2.bump,g1.trans (g2.trans ((Ch.drewN _ _ _).trans ((Ch.setCell _ (by simp) _).trans (Ch.drewN _ _ _))))⟩
theorem CV{w:World}{b:Nat}{S:ByteArray}{s:St}{nest:Int}(h:zO w b S s (-1) nest)(hS:S.size<=400)(hi:s.i<=S.size)(lo:Int)(hlo:0<=lo)(but:ByteArray)(hbut:but.size<=400)(h92:¬bt S s.i=92)(h1:¬((lo<=bt S s.i/\bt S s.i<=126)/\jK (bt S s.i) but=false)):
 Calls Tryz.prog 144 #[.pointer (some ⟨b,0,none⟩),.int .u8 lo,.string but] w fun e w'=>(∃c:Int,0<=c/\c<=255/\e= .returned (.int .u8 c))/\zj w' b S s.i/\Ch [b] w w':=by
 have H92:=zC h92;clear h92
 by_cases h2:lo<=bt S s.i/\bt S s.i<=126
 ·have hq:yg S s.i lo 126=true:=by simp[yg,h2]
  have l1:=yB (S:=S) (i:=s.i) (by omega)
  have l2:(s.i:Int)<S.size:=by omega
  have H3:Hd (jK (S[s.i].toNat:Int) but=true):=by
   show _=_;rw[jS l1]
   cases hh:jK (bt S s.i) but
   ·exact absurd ⟨h2,hh⟩ h1
   ·rfl
  clear h1 h2;go_enter Tryz.func144,Tryz.ntmps144;go_wp2_with fail;refine(jh h _ (by omega) hS H92.o).mono ?_;rintro e w1 ⟨rfl,h1,g1⟩;go_wp2_with fail;refine(jz h1 _ _ hlo hS).mono ?_;rintro e w2 ⟨rfl,h2,g2⟩;obtain⟨c0,c1,c2,c3,c4,c5,c6,fz⟩:=h2.fa;go_wp2_with fail;go_quiet ((go_at_call 96;exact Calls.quiet_of_same (Bw _ _ hbut H3.o)));go_wp2_with fail;refine(QS (h2.drewN _)).mono ?_;rintro e w3 ⟨rfl,h3,g3⟩;go_wp2_with fail;go_ret;exact⟨⟨0,by omega,by omega,rfl⟩,⟨_,_,h3,hi⟩,g1.trans (g2.trans ((Ch.drewN _ _ _).trans g3))⟩
 ·have hq:yg S s.i lo 126=false:=by simp[yg];omega
  clear h1 h2;go_enter Tryz.func144,Tryz.ntmps144;go_wp2_with fail;refine(jh h _ (by omega) hS H92.o).mono ?_;rintro e w1 ⟨rfl,h1,g1⟩;go_wp2_with fail;refine(jz h1 _ _ hlo hS).mono ?_;rintro e w2 ⟨rfl,h2,g2⟩;go_wp2_with fail;go_quiet (fail);go_wp2_with fail;refine(QS (h2.drewN _)).mono ?_;rintro e w3 ⟨rfl,h3,g3⟩;go_wp2_with fail;go_ret;exact⟨⟨0,by omega,by omega,rfl⟩,⟨_,_,h3,hi⟩,g1.trans (g2.trans ((Ch.drewN _ _ _).trans g3))⟩
theorem Ym{w:World}{b:Nat}{S:ByteArray}{s s':St}{nest:Int}(h:zO w b S s (-1) nest)(hS:S.size<=400){lo:Int}(hlo:0<=lo){but:ByteArray}(hbut:but.size<=400){c:Int}(hr:zx S lo but s= .ok (c,s')):
 Calls Tryz.prog 144 #[.pointer (some ⟨b,0,none⟩),.int .u8 lo,.string but] w fun e w'=>e= .returned (.int .u8 c)/\zO w' b S s' (-1) nest/\Ch [b] w w':=by
 unfold zx at hr
 split at hr
 ·rename_i h92
  split at hr
  ·rename_i hx
   split at hr
   ·rename_i hy
    injection hr with hr
    injection hr with e1 e2
    subst e1 e2;exact Iu h hS lo but h92 hx hy
   ·cases hr
  ·cases hr
 ·rename_i h92
  split at hr
  ·rename_i hp
   injection hr with hr
   injection hr with e1 e2
   subst e1 e2;simp at hp;exact SA h hS lo hlo but hbut h92 hp.1.1 hp.1.2 hp.2
  ·cases hr
theorem UM{w:World}{b:Nat}{S:ByteArray}{s:St}{nest:Int}(h:zO w b S s (-1) nest)(hS:S.size<=400)(hi:s.i<=S.size){lo:Int}(hlo:0<=lo){but:ByteArray}(hbut:but.size<=400){d:Nat}(hr:zx S lo but s= .error d):
 Calls Tryz.prog 144 #[.pointer (some ⟨b,0,none⟩),.int .u8 lo,.string but] w fun e w'=>(∃c:Int,0<=c/\c<=255/\e= .returned (.int .u8 c))/\zj w' b S d/\Ch [b] w w':=by
 unfold zx at hr
 split at hr
 ·rename_i h92
  split at hr
  ·rename_i hx
   split at hr
   ·cases hr
   ·rename_i hy
    injection hr with hr
    subst hr;exact Gq h hS lo but h92 hx (by simpa using hy)
  ·rename_i hx
   injection hr with hr
   subst hr;exact ae h hS lo but h92 (by simpa using hx)
 ·rename_i h92
  split at hr
  ·cases hr
  ·rename_i hp
   injection hr with hr
   subst hr;simp at hp;exact CV h hS hi lo hlo but hbut h92 (by rintro⟨⟨a1,a2⟩,a3⟩;rw[hp a1 a2]at a3;cases a3)
theorem zr(w:World)(o:Obj):(w.alloc o).heap[w.heap.size]? =some o:=by
 show(w.heap.push o)[w.heap.size]? =_
 simp
def yQ(a b:ByteArray):Bool:=a.data.toList==b.data.toList
theorem Jh{a b:ByteArray}:yQ a b=true↔a=b:=by
 constructor
 ·intro h
  cases a;cases b;simp[yQ]at h;simp[h]
 ·rintro rfl
  simp[yQ]
def JS(L:List ByteArray)(x:ByteArray):Bool:=L.any fun k=>yQ k x
theorem Jv{L:List ByteArray}{x:ByteArray}:JS L x=true↔x∈L:=by
 unfold JS;rw[List.any_eq_true]
 constructor
 ·rintro⟨k,hk,e⟩
  rw[Jh]at e;exact e ▸ hk
 ·intro h
  exact⟨x,h,Jh.2 rfl⟩
theorem Qn{L:List ByteArray}{x:ByteArray}:JS L x=false↔x∉L:=by
 rw[<- Jv];simp
theorem Xl{w:World}(x:ByteArray):
 Calls Tryz.prog 92 #[.string x] w fun e w'=>e= .returned (.bool (JS js x))/\Ch [] w w':=by
 go_enter Tryz.func92,Tryz.ntmps92;go_wp2_with fail
 go_loopw [4] (fun k w1=>∃j:Nat,k= .int .i64 j/\j<=10/\Hd (Zz js x j)/\w1.heap[w.heap.size]? =some (.cells (js.map Value.string).toArray 251)/\Ch [] w w1) (fun k _=>10 - (intOf k).toNat)
 case atStart=>exact⟨0,rfl,by omega,fun t _ h=>by omega,zr _ _,Ch.alloc _ _ _⟩
 case round=>
  obtain⟨j,rfl,hjs,hno,hB,g1⟩:=hrel
  by_cases hlt:(j:Int)<10
  ·have hlt':j<js.length:=by show j<10;omega
   have hc:wr.cell? ⟨w.heap.size,j,none⟩=some (.string js[j]):=by simp[World.cell?,hB,hlt']
   generalize hN:w.heap.size=N at *;have HN:=zC hN;clear hN
   by_cases hq:js[j]=x
   ·have HR:Hd (JS js x=true):=Jv.2 (hq ▸ List.getElem_mem hlt')
    obtain⟨q1,q2⟩:=Y6 hq;clear hq hB;generalize js[j]=y at *;go_wp2_with fail;go_ret;exact⟨by rw[HR.o];rfl,g1⟩
   ·have H2:Hd (Zz js x (j+1)):=by
     intro t ht h1
     by_cases e:t=j
     ·subst e;exact hq
     ·exact hno.o t ht (by omega)
    obtain⟨q1,q2⟩:=Zn hq;have HB:=zC hB;clear hq hB;generalize js[j]=y at *;go_wp2_with fail;go_roundw
    case rel=>exact⟨j+1,by go_num,by omega,H2,HN.o ▸ HB.o,g1⟩
    case measure=>simp[intOf];omega
  ·have HR:Hd (JS js x=false):=by
    refine Qn.2 (fun hm=> ?_);obtain⟨t,ht,e⟩:=List.getElem_of_mem hm;exact hno.o t ht (by have:js.length=10:=rfl;omega) e
   clear hB;go_wp2_with fail;go_ret;exact⟨by rw[HR.o];rfl,g1⟩
theorem VK{X:ByteArray}(h:X.size=0):X.toList.isEmpty=true/\X.toList=[]:=by
 have:X.toList=[]:=by rw[Qj];apply List.eq_nil_of_length_eq_zero;simpa using h
 simp[this]
theorem WX{X:ByteArray}(h:¬X.size=0):X.toList.isEmpty=false/\¬X.toList=[]:=by
 have:¬X.toList=[]:=by
  rw[Qj];intro e;apply h;have:=congrArg List.length e
  simpa using this
 simp[this]
def yA(S:ByteArray)(s:St):Except Nat ((ByteArray×Nat)×St):=
 let i:=run zI S s.i
 let x:=S.extract i (run zR S i)
 if x.size=0\/JS js x=true\/8<x.size then .error i else .ok ((x,i),{s with i:=run zR S i})
theorem SN{w:World}{b:Nat}{S:ByteArray}{s s':St}{nest:Int}(h:zO w b S s (-1) nest)(hS:S.size<=400)(hi:s.i<=S.size){x:ByteArray}{a:Nat}(hr:yA S s= .ok ((x,a),s')):
 Calls Tryz.prog 54 #[.pointer (some ⟨b,0,none⟩)] w fun e w'=>e= .returned (.tuple #[.string x,.int .i64 a])/\zO w' b S s' (-1) nest/\Ch [b] w w':=by
 have hi1:=(zn zI S s.i hi).2;have hi2:=(zn zR S _ hi1);unfold yA at hr;simp only at hr
 split at hr
 ·cases hr
 rename_i hn
 injection hr with hr
 injection hr with e1 e2
 injection e1 with e0 e1
 subst e0 e1 e2;generalize hG:run zI S s.i=I at *;have HG:=zC hG;clear hG;generalize hJ:run zR S I=J at *;have HJ:=zC hJ;clear hJ;generalize hX:S.extract I J=X at *;have HX:=zC hX
 have hXs:(X.size:Int)=J - I:=by rw[<- hX];simp;omega
 have hk:JS js X=false:=by cases hh:JS js X <;>simp_all
 obtain⟨q1,q2⟩:=WX (X:=X) (fun h0=>hn (Or.inl h0))
 have h8:(J:Int) - I<=8:=by omega
 have h8':¬(8:Int)<J - I:=by omega
 clear hX hn;go_enter Tryz.func54,Tryz.ntmps54;go_wp2_with fail;refine(Qv h hS hi).mono ?_;rintro e w1 ⟨rfl,h1,g1⟩;rw[HG.o,HJ.o,HX.o];rw[HG.o]at h1;obtain⟨c0,c1,c2,c3,c4,c5,c6,fz⟩:=h1.fa;go_wp2_with fail;refine(Xl _).mono ?_;rintro e w2 ⟨rfl,g2⟩;have h2:=h1.kp g2 (by simp);obtain⟨d0,d1,d2,d3,d4,d5,d6,fz2⟩:=h2.fa;clear c0 c1 c2 c3 c4 c5 c6 fz;go_wp2_with fail;go_ret2;rw[show(I:Int)+((J:Int) - I)=J from by omega];exact⟨rfl,h2.set.1 J,g1.trans ((g2.mono (by simp)).trans (Ch.setCell _ (by simp) _))⟩
theorem Fl{w:World}{b:Nat}{S:ByteArray}{s:St}{nest:Int}(h:zO w b S s (-1) nest)(hS:S.size<=400)(hi:s.i<=S.size){d:Nat}(hr:yA S s= .error d):
 Calls Tryz.prog 54 #[.pointer (some ⟨b,0,none⟩)] w fun e w'=>(∃a:Int,e= .returned (.tuple #[.string ByteArray.empty,.int .i64 a]))/\zj w' b S d/\Ch [b] w w':=by
 have hi1:=(zn zI S s.i hi).2;have hi2:=(zn zR S _ hi1);unfold yA at hr;simp only at hr
 split at hr
 rotate_left
 ·cases hr
 rename_i hn
 injection hr with hr
 subst hr;generalize hG:run zI S s.i=I at *;have HG:=zC hG;clear hG;generalize hJ:run zR S I=J at *;have HJ:=zC hJ;clear hJ;generalize hX:S.extract I J=X at *;have HX:=zC hX
 have hXs:(X.size:Int)=J - I:=by rw[<- hX];simp;omega
 clear hX;have HN:=zC hn
 by_cases h0:X.size=0
 ·obtain⟨q1,q2⟩:=VK h0
  clear hn h0;go_enter Tryz.func54,Tryz.ntmps54;go_wp2_with fail;refine(Qv h hS hi).mono ?_;rintro e w1 ⟨rfl,h1,g1⟩;rw[HG.o,HJ.o,HX.o];rw[HG.o]at h1;obtain⟨c0,c1,c2,c3,c4,c5,c6,fz⟩:=h1.fa;go_wp2_with fail;refine(QS h1).mono ?_;rintro e w2 ⟨rfl,h2,g2⟩;go_wp2_with fail;go_ret2;exact⟨⟨_,rfl⟩,⟨_,_,h2,hi1⟩,g1.trans g2⟩
 ·obtain⟨q1,q2⟩:=WX h0
  cases hk:JS js X
  ·have h8:(8:Int)<J - I:=by
    rcases HN.o with a|a|a
    ·exact absurd a h0
    ·rw[hk]at a;cases a
    ·omega
   clear hn h0;go_enter Tryz.func54,Tryz.ntmps54;go_wp2_with fail;refine(Qv h hS hi).mono ?_;rintro e w1 ⟨rfl,h1,g1⟩;rw[HG.o,HJ.o,HX.o];rw[HG.o]at h1;obtain⟨c0,c1,c2,c3,c4,c5,c6,fz⟩:=h1.fa;go_wp2_with fail;refine(Xl _).mono ?_;rintro e w2 ⟨rfl,g2⟩;go_wp2_with fail;refine(QS (h1.kp g2 (by simp))).mono ?_;rintro e w3 ⟨rfl,h3,g3⟩;go_wp2_with fail;go_ret2;exact⟨⟨_,rfl⟩,⟨_,_,h3,hi1⟩,g1.trans ((g2.mono (by simp)).trans g3)⟩
  ·clear hn h0
   go_enter Tryz.func54,Tryz.ntmps54;go_wp2_with fail;refine(Qv h hS hi).mono ?_;rintro e w1 ⟨rfl,h1,g1⟩;rw[HG.o,HJ.o,HX.o];rw[HG.o]at h1;obtain⟨c0,c1,c2,c3,c4,c5,c6,fz⟩:=h1.fa;go_wp2_with fail;refine(Xl _).mono ?_;rintro e w2 ⟨rfl,g2⟩;go_wp2_with fail;refine(QS (h1.kp g2 (by simp))).mono ?_;rintro e w3 ⟨rfl,h3,g3⟩;go_wp2_with fail;go_ret2;exact⟨⟨_,rfl⟩,⟨_,_,h3,hi1⟩,g1.trans ((g2.mono (by simp)).trans g3)⟩
theorem aK{w:World}{b:Nat}{S:ByteArray}{d:Nat}(h:zj w b S d)(hS:S.size<=400):
 Calls Tryz.prog 54 #[.pointer (some ⟨b,0,none⟩)] w fun e w'=>(∃a:Int,e= .returned (.tuple #[.string ByteArray.empty,.int .i64 a]))/\zj w' b S d/\Ch [b] w w':=by
 go_enter Tryz.func54,Tryz.ntmps54;go_wp2_with fail;refine(MI h hS).mono ?_;rintro e w1 ⟨rfl,h1,g1⟩;obtain⟨s1,nest1,p1,hi1⟩:=h1;obtain⟨c0,c1,c2,c3,c4,c5,c6,fz⟩:=p1.fa;obtain⟨q1,q2⟩:=VK (X:=ByteArray.empty) rfl;go_wp2_with fail;refine(Ko p1).mono ?_;rintro e w2 ⟨rfl,h2,g2⟩;go_wp2_with fail;go_ret2;exact⟨⟨_,rfl⟩,⟨_,_,h2,hi1⟩,g1.trans g2⟩
theorem Vn{S:ByteArray}{s s':St}{x:ByteArray}{a:Nat}(hi:s.i<=S.size)(h:yA S s= .ok ((x,a),s')):
 s.i<=a/\a<s'.i/\s'.i<=S.size/\s'.e=s.e/\s'.a=s.a/\s'.k=s.k:=by
 have hi1:=(zn zI S s.i hi);have hi2:=(zn zR S _ hi1.2);unfold yA at h;simp only at h
 split at h
 ·cases h
 ·rename_i hn
  injection h with h
  injection h with e1 e2
  injection e1 with e0 e1
  subst e0 e1 e2;refine⟨hi1.1,?_,hi2.2,rfl,rfl,rfl⟩
  have:¬(S.extract (run zI S s.i) (run zR S (run zI S s.i))).size=0:=fun h0=>hn (Or.inl h0)
  simp at this
  show _<run zR S (run zI S s.i)
  omega
theorem aX(W:World)(N:Nat)(c:Int)(h:W.cell? ⟨N,0,none⟩=some (.int .u8 c)):
 Sem.run Tryz.prog (convert 124 9 (.slice (some ⟨N,0,none⟩) 1 1)) W= .ok (.string ⟨#[UInt8.ofNat c.toNat]⟩) W:=by
 rw[run_convert_bytes_string W 124 9 5 _ _ _ Tryz.underlying124 Tryz.underlying5 Tryz.underlying9];rw[run_bytesToString W _ 1 1 [c] (by simp[loadCells,h,go_sem])]
 try rfl
theorem QN(w:World)(c:Int):
 Sem.run Tryz.prog (convert 124 9 (.slice (some ⟨w.heap.size,0,none⟩) 1 1)) (w.alloc (.cells #[.int .u8 c] 5))= .ok (.string ⟨#[UInt8.ofNat c.toNat]⟩) (w.alloc (.cells #[.int .u8 c] 5)):=
 aX _ _ _ (by simp only[World.cell?,zr];rfl)
def penM(b N:Nat)(w:World):Nat:=match w.cell? ⟨b,2,none⟩with|some (.int _ q)=>if q<0 then N+1 - penI b w else 0|_=>0
theorem zO.penM{w:World}{b N:Nat}{S:ByteArray}{s:St}{nest:Int}(h:zO w b S s (-1) nest):penM b N w=N+1 - s.i:=by
 simp[Proofs.YteobgfbgglfkbaaGreat.penM,h.fa.2.2.1,h.penI]
theorem zj.penM{w:World}{b N:Nat}{S:ByteArray}{d:Nat}(h:zj w b S d):penM b N w=0:=by
 obtain⟨s,nest,p,hi⟩:=h;simp[Proofs.YteobgfbgglfkbaaGreat.penM,p.fa.2.2.1];omega
def JX:ByteArray:=⟨#[34,92]⟩
def jH(S:ByteArray):Nat->St->ByteArray->Except Nat (ByteArray×St)
 |0,s,_=> .error s.i
 |n+1,s,acc=>
  if bt S s.i=34 then .ok (acc,{s with i:=s.i+1})
  else match zx S 32 JX s with
   |.ok (c,s')=>jH S n s' (acc++⟨#[UInt8.ofNat c.toNat]⟩)
   |.error d=> .error d
def yW(S:ByteArray)(s:St):Except Nat ((ByteArray×Nat)×St):=
 let i:=run zI S s.i
 if bt S i=34 then
  match jH S (S.size+1) {s with i:=i+1} ByteArray.empty with
  |.ok (x,s')=> .ok ((x,i),s')
  |.error d=> .error d
 else .error i
theorem IP{w:World}{b:Nat}{S:ByteArray}{d:Nat}(h:zj w b S d):
 Calls Tryz.prog 93 #[.pointer (some ⟨b,0,none⟩)] w fun e w'=>(∃a:Int,e= .returned (.tuple #[.string ByteArray.empty,.int .i64 a]))/\zj w' b S d/\Ch [b] w w':=by
 go_enter Tryz.func93,Tryz.ntmps93;go_wp2_with fail;refine(Yh h).mono ?_;rintro e w1 ⟨rfl,h1,g1⟩;have h1':=h1;obtain⟨s1,nest1,p1,hi1⟩:=h1';obtain⟨c0,c1,c2,c3,c4,c5,c6,fz⟩:=p1.fa;go_wp2_with fail;refine(UE h1 _).mono ?_;rintro e w2 ⟨rfl,h2,g2⟩;have h2':=h2;obtain⟨s2,nest2,p2,hi2⟩:=h2';obtain⟨d0,d1,d2,d3,d4,d5,d6,fz2⟩:=p2.fa;clear c0 c1 c2 c3 c4 c5 c6 fz
 have hd:¬(d:Int)<0:=by omega
 go_wp2_with fail
 go_loop [] (True) (0)
 case atStart=>trivial
 case round=>
  go_wp2_with fail;go_ret2;exact⟨⟨_,rfl⟩,h2,g1.trans g2⟩
theorem Nc{S:ByteArray}:∀n (s:St) acc,s.i<=S.size->
 match jH S n s acc with
 |.ok (_,s')=>s.i<s'.i/\s'.i<=S.size/\s'.e=s.e/\s'.a=s.a/\s'.k=s.k
 |.error d=>d<=S.size:=by
 intro n
 induction n with
 |zero=>intro s acc hi;simpa[jH]using hi
 |succ n ih=>
  intro s acc hi;unfold jH
  by_cases hq:bt S s.i=34
  ·have:=yB (S:=S) (i:=s.i) (by omega)
   simp[hq];omega
  ·simp only[hq,if_false]
   cases hl:zx S 32 JX s with
   |error d=>exact Me hi hl
   |ok p=>
    obtain⟨c,s1⟩:=p;have h1:=Jr (by omega) hl;have h2:=ih s1 (acc++⟨#[UInt8.ofNat c.toNat]⟩) h1.2.1;simp only;generalize jH S n s1 _=r at *
    cases r with
    |error d=>exact h2
    |ok p=>
     obtain⟨x,s2⟩:=p;simp only at h2 ⊢;obtain⟨a1,a2,a3,a4,a5⟩:=h2;obtain⟨b1,b2,b3,b4,b5,b6,b7⟩:=h1;exact⟨by omega,a2,a3.trans b5,a4.trans b6,a5.trans b7⟩
theorem Sq{w:World}{b:Nat}{S:ByteArray}{s s':St}{nest:Int}(h:zO w b S s (-1) nest)(hS:S.size<=400)(hi:s.i<=S.size){X:ByteArray}{A:Nat}(hr:yW S s= .ok ((X,A),s')):
 Calls Tryz.prog 93 #[.pointer (some ⟨b,0,none⟩)] w fun e w'=>e= .returned (.tuple #[.string X,.int .i64 A])/\zO w' b S s' (-1) nest/\Ch [b] w w':=by
 have hi1:=(zn zI S s.i hi);unfold yW at hr;simp only at hr
 split at hr
 rotate_left
 ·cases hr
 rename_i hq
 split at hr
 rotate_left
 ·cases hr
 rename_i x0 s0 HF0
 injection hr with hr
 injection hr with e1 e2
 injection e1 with e0 e1
 subst e0 e1 e2;have hlt:=yB (S:=S) (i:=run zI S s.i) (by omega);have HF:=zC HF0;have HQ:=zC hq;clear hq HF0;go_enter Tryz.func93,Tryz.ntmps93;go_wp2_with fail;refine(ZE h hi hS).mono ?_;rintro e w1 ⟨rfl,h1,g1⟩;generalize hI:run zI S s.i=I at *;have HI:=zC hI;clear hI;obtain⟨c0,c1,c2,c3,c4,c5,c6,fz⟩:=h1.fa;go_wp2_with fail;refine(Qz h1 _ (by omega) hS HQ.o).mono ?_;rintro e w2 ⟨rfl,h2,g2⟩;clear c0 c1 c2 c3 c4 c5 c6 fz;have g12:=g1.trans g2;go_wp2_with fail
 go_loopw [5,6,7] (fun acc _ _ w3=>∃(x:ByteArray) (n:Nat) (s3:St),acc= .string x/\x.size+1<=s3.i/\S.size<n+s3.i/\s3.i<=S.size/\zO w3 b S s3 (-1) nest/\Ch [b] w w3/\Hd (jH S n s3 x= .ok (x0,s0))) (fun _ _ _ w3=>S.size - penI b w3)
 case atStart=>exact⟨ByteArray.empty,S.size+1,_,rfl,by simp,by simp;omega,by show I+1<=_;omega,h2,g12,HF⟩
 case round=>
  obtain⟨x,n,s3,rfl,hx,hn,hi3,h3,g3,HF⟩:=hrel;obtain⟨n,rfl⟩:∃m,n=m+1:=⟨n - 1,by omega⟩;obtain⟨c0,c1,c2,c3,c4,c5,c6,fz⟩:=h3.fa
  by_cases hq:bt S s3.i=34
  ·have HR:Hd (x=x0/\({s3 with i:=s3.i+1}:St)=s0):=by
    have:=HF.o;simp[jH,hq]at this;exact this
   have HQ3:=zC hq;clear hq;go_wp2_with fail;refine(Jm h3 _ (by omega) hS HQ3.o).mono ?_;rintro e w4 ⟨rfl,h4,g4⟩;go_wp2_with fail;go_ret2;rw[HI.o,<- HR.o.1,<- HR.o.2];exact⟨rfl,h4,g3.trans g4⟩
  ·have HQ3:=zC hq
   cases hl:zx S 32 JX s3 with
   |error d=>exfalso;have:=HF.o;simp[jH,hq,hl]at this
   |ok p=>
    obtain⟨c,s4⟩:=p
    have HF4:Hd (jH S n s4 (x++⟨#[UInt8.ofNat c.toNat]⟩)= .ok (x0,s0)):=by
     have:=HF.o;simp only[jH,hq,hl,if_false]at this;exact this
    have HL:=zC hl;have hb:=Jr (by omega) hl;obtain⟨b1,b2,b3,b4,_,_,_⟩:=hb;clear hq hl HF;go_wp2_with fail;refine(jh h3 _ (by omega) hS HQ3.o).mono ?_;rintro e w4 ⟨rfl,h4,g4⟩;go_wp2_with fail;refine(Ym (but:=JX) h4 hS (by omega) (by show 2<=400;omega) HL.o).mono ?_;rintro e w5 ⟨rfl,h5,g5⟩;have hcv:=QN w5 c;clear c0 c1 c2 c3 c4 c5 c6 fz;go_wp2_with fail;go_roundw
    case rel=>exact⟨_,n,s4,rfl,by rw[ByteArray.size_append];show _+1+1<=_;omega,by omega,b2,h5.kp (Ch.alloc [] _ _) (by simp),(g3.trans (g4.trans g5)).trans (Ch.alloc _ _ _),HF4⟩
    case measure=>rw[h3.penI,(h5.kp (Ch.alloc [] _ _) (by simp)).penI];omega
theorem Ov{w:World}{b:Nat}{S:ByteArray}{s:St}{nest:Int}(h:zO w b S s (-1) nest)(hS:S.size<=400)(hi:s.i<=S.size){D:Nat}(hr:yW S s= .error D):
 Calls Tryz.prog 93 #[.pointer (some ⟨b,0,none⟩)] w fun e w'=>(∃a:Int,e= .returned (.tuple #[.string ByteArray.empty,.int .i64 a]))/\zj w' b S D/\Ch [b] w w':=by
 have hi1:=(zn zI S s.i hi);unfold yW at hr;simp only at hr
 split at hr
 ·rename_i hq
  split at hr
  ·cases hr
  rename_i d0 HF0
  injection hr with hr
  subst hr;have hlt:=yB (S:=S) (i:=run zI S s.i) (by omega);have HF:=zC HF0;have HQ:=zC hq;clear hq HF0;go_enter Tryz.func93,Tryz.ntmps93;go_wp2_with fail;refine(ZE h hi hS).mono ?_;rintro e w1 ⟨rfl,h1,g1⟩;generalize hI:run zI S s.i=I at *;clear hI;obtain⟨c0,c1,c2,c3,c4,c5,c6,fz⟩:=h1.fa;go_wp2_with fail;refine(Qz h1 _ (by omega) hS HQ.o).mono ?_;rintro e w2 ⟨rfl,h2,g2⟩;clear c0 c1 c2 c3 c4 c5 c6 fz;have g12:=g1.trans g2;go_wp2_with fail
  go_loopw [5,6,7] (fun acc _ _ w3=>Ch [b] w w3/\((∃(x:ByteArray) (n:Nat) (s3:St),acc= .string x/\x.size+1<=s3.i/\S.size<n+s3.i/\s3.i<=S.size/\zO w3 b S s3 (-1) nest/\Hd (jH S n s3 x= .error d0))\/((∃x,acc= .string x)/\zj w3 b S d0))) (fun _ _ _ w3=>penM b S.size w3)
  case atStart=>exact⟨g12,Or.inl ⟨ByteArray.empty,S.size+1,_,rfl,by simp,by simp;omega,by show I+1<=_;omega,h2,HF⟩⟩
  case round=>
   obtain⟨g3,⟨x,n,s3,rfl,hx,hn,hi3,h3,HF⟩|⟨⟨x,rfl⟩,h3⟩⟩:=hrel
   ·obtain⟨n,rfl⟩:∃m,n=m+1:=⟨n - 1,by omega⟩
    obtain⟨c0,c1,c2,c3,c4,c5,c6,fz⟩:=h3.fa
    by_cases hq:bt S s3.i=34
    ·exfalso;have:=HF.o;simp[jH,hq]at this
    ·have HQ3:=zC hq
     cases hl:zx S 32 JX s3 with
     |error d=>
      have HR:Hd (d=d0):=by
       have:=HF.o;simp only[jH,hq,hl,if_false]at this;injection this
      have HL:=zC hl;clear hq hl HF;go_wp2_with fail;refine(jh h3 _ (by omega) hS HQ3.o).mono ?_;rintro e w4 ⟨rfl,h4,g4⟩;go_wp2_with fail;refine(UM (but:=JX) h4 hS hi3 (by omega) (by show 2<=400;omega) HL.o).mono ?_;rintro e w5 ⟨⟨c,hc0,hc1,rfl⟩,h5,g5⟩;have hcv:=QN w5 c;clear c0 c1 c2 c3 c4 c5 c6 fz;have h6:=h5.kp (Ch.alloc [] w5 (.cells #[.int .u8 c] 5)) (by simp);go_wp2_with fail;go_roundw
      case rel=>exact⟨(g3.trans (g4.trans g5)).trans (Ch.alloc _ _ _),Or.inr ⟨⟨_,rfl⟩,HR.o ▸ h6⟩⟩
      case measure=>
       rw[h6.penM,h3.penM];omega
     |ok p=>
      obtain⟨c,s4⟩:=p
      have HF4:Hd (jH S n s4 (x++⟨#[UInt8.ofNat c.toNat]⟩)= .error d0):=by
       have:=HF.o;simp only[jH,hq,hl,if_false]at this;exact this
      have HL:=zC hl;have hb:=Jr (by omega) hl;obtain⟨b1,b2,b3,b4,_,_,_⟩:=hb;clear hq hl HF;go_wp2_with fail;refine(jh h3 _ (by omega) hS HQ3.o).mono ?_;rintro e w4 ⟨rfl,h4,g4⟩;go_wp2_with fail;refine(Ym (but:=JX) h4 hS (by omega) (by show 2<=400;omega) HL.o).mono ?_;rintro e w5 ⟨rfl,h5,g5⟩;have hcv:=QN w5 c;clear c0 c1 c2 c3 c4 c5 c6 fz;have h6:=h5.kp (Ch.alloc [] w5 (.cells #[.int .u8 c] 5)) (by simp);go_wp2_with fail;go_roundw
      case rel=>exact⟨(g3.trans (g4.trans g5)).trans (Ch.alloc _ _ _),Or.inl ⟨_,n,s4,rfl,by rw[ByteArray.size_append];show _+1+1<=_;omega,by omega,b2,h6,HF4⟩⟩
      case measure=>rw[h3.penM,h6.penM];omega
   ·have h3':=h3
    obtain⟨s3,nest3,p3,hi3⟩:=h3';obtain⟨c0,c1,c2,c3,c4,c5,c6,fz⟩:=p3.fa
    have hd:¬(d0:Int)<0:=by omega
    go_wp2_with fail;go_ret2;exact⟨⟨_,rfl⟩,h3,g3⟩
 ·rename_i hq
  injection hr with hr
  subst hr;have HQ:=zC hq;clear hq;go_enter Tryz.func93,Tryz.ntmps93;go_wp2_with fail;refine(ZE h hi hS).mono ?_;rintro e w1 ⟨rfl,h1,g1⟩;generalize hI:run zI S s.i=I at *;have HI:=zC hI;clear hI;obtain⟨c0,c1,c2,c3,c4,c5,c6,fz⟩:=h1.fa;go_wp2_with fail;refine(WD h1 _ (by omega) hS hi1.2 HQ.o).mono ?_;rintro e w2 ⟨rfl,h2,g2⟩;have h2':=h2;obtain⟨s2,nest2,p2,hi2⟩:=h2';obtain⟨d0,d1,d2,d3,d4,d5,d6,fz2⟩:=p2.fa
  have hd:¬(I:Int)<0:=by omega
  clear c0 c1 c2 c3 c4 c5 c6 fz;go_wp2_with fail
  go_loop [] (True) (0)
  case atStart=>trivial
  case round=>
   go_wp2_with fail;go_ret2;exact⟨⟨_,rfl⟩,HI.o ▸ h2,g1.trans g2⟩
def jT:ByteArray:=⟨#[45,91,93,92]⟩
def zq(w:World)(c n:Nat)(f:Nat->Bool):Prop:=w.heap[c]? =some (.cells ((List.range n).map fun k=>Value.bool (f k)).toArray 4)
theorem zq.lt{w:World}{c n:Nat}{f:Nat->Bool}(h:zq w c n f):c<w.heap.size:=by
 rcases Nat.lt_or_ge c w.heap.size with h'|h'
 ·exact h'
 ·simp[zq,Array.getElem?_eq_none h']at h
theorem zq.kp{w w':World}{c n:Nat}{f:Nat->Bool}{X:List Nat}(h:zq w c n f)(g:Ch X w w')(hb:c∉X):zq w' c n f:=(g.block c h.lt hb).trans h
theorem zq.cl{w:World}{c n:Nat}{f:Nat->Bool}(h:zq w c n f)(k:Nat)(hk:k<n):w.cell? ⟨c,k,none⟩=some (.bool (f k)):=by
 unfold zq at h;simp[World.cell?,h,hk]
theorem zq.fz{w:World}{c n:Nat}{f:Nat->Bool}(h:zq w c n f)(o:Nat):w.frozen? ⟨c,o,none⟩=false:=by
 unfold zq at h;simp[World.frozen?,h]
theorem zq.congr{w:World}{c n:Nat}{f g:Nat->Bool}(h:zq w c n f)(e:∀k,k<n->f k=g k):zq w c n g:=by
 unfold zq at *;rw[h]
 congr 3
 apply List.map_congr_left;intro k hk;rw[e k (by simpa using hk)]
theorem zq.set{w:World}{c n:Nat}{f:Nat->Bool}(h:zq w c n f)(k:Nat)(v:Bool):zq (w.setCell ⟨c,k,none⟩ (.bool v)) c n (fun j=>if j=k then v else f j):=by
 unfold zq at *;simp only[World.setCell,Array.getElem?_modify,h,if_true,Option.map_some]
 congr 2
 apply Array.ext
 ·simp
 ·intro i h1 h2
  simp
  by_cases e:k=i
  ·subst e;simp
  ·simp[e,Ne.symm e]
theorem Gk:(Tryz.prog.info? 4).map (fun i=>(i.zero,i.size,i.bytes))=some (some (.bool false),1,1):=by kernel_rfl
theorem Iy(n:Nat):madeCells #[.bool false] n=((List.range n).map fun _=>Value.bool false).toArray:=by
 apply Array.ext
 ·simp[madeCells]
 ·intro i h1 h2
  simp[madeCells,Nat.mod_one]
theorem QA{w:World}{ops:Array Oper}{rest:List Oper}{o:Oper}{a:Act}{Q:Exit->Act->World->Prop}(T:TypeId)(hT:Tryz.prog.underlying T=some (.slice 4))(l c:Operand)(n:Nat)
 (hg:o.guard=none) (hop:o.op=Op.makeSlice T l c) (hl:a.eval l= .int .i64 n) (hc:a.eval c= .int .i64 n) (hn:n<=281474976710656)
 (hK:∀w',zq w' w.heap.size n (fun _=>false)->Ch [] w w'->w'.heap.size=w.heap.size+1->wpList Tryz.prog ops Q rest (a.put o.dst (.slice (some ⟨w.heap.size,0,none⟩) n n)) w'):
 wpList Tryz.prog ops Q (o:: rest) a w:=by
 refine wpList_plain hg fun K hK'=> ?_
 obtain⟨i,hi,hz0,hz1,hz2⟩:=info_parts Gk;have hrun:=run_make (P:=Tryz.prog) w T 4 i (.bool false) hT hi hz0 .i64 .i64 n n (by omega) (by omega) (by rw[hz2];omega) (by omega);simp only[Int.toNat_natCast,hz1,Nat.mul_one]at hrun;unfold Oper.wp;simp[execOp,hop,hl,hc,hrun,Result.andThen];refine hK' _ _ (hK _ ?_ (Ch.alloc _ _ _) (by simp));unfold zq;rw[zr];simp only[Value.cells,Iy]
theorem Hh{w:World}{b:Nat}{S:ByteArray}{d:Nat}(h:zj w b S d):
 Calls Tryz.prog 94 #[.pointer (some ⟨b,0,none⟩)] w fun e w'=>(∃c,e= .returned (.slice (some ⟨c,0,none⟩) 256 256))/\zj w' b S d/\Ch [b] w w':=by
 go_enter Tryz.func94,Tryz.ntmps94;go_wp2_with fail;refine(UE h _).mono ?_;rintro e w1 ⟨rfl,h1,g1⟩;go_wp2_with (at_make;refine QA 143 Tryz.underlying143 _ _ 256 rfl rfl rfl rfl (by omega) ?_;intro w2 hB g2 hz);obtain⟨s2,nest2,p2,hi2⟩:=h1.kp g2 (by simp);obtain⟨d0,d1,d2,d3,d4,d5,d6,fz2⟩:=p2.fa
 have hd:¬(d:Int)<0:=by omega
 go_loop [4] (fun v=>v= .bool true) (fun _=>0)
 case atStart=>rfl
 case round=>
  subst hrel;go_wp2_with fail;go_ret;exact⟨⟨_,rfl⟩,⟨_,_,p2,hi2⟩,g1.trans (g2.mono (by simp))⟩
def zo(L:List (Int×Int))(j:Nat):Bool:=L.any fun p=>decide (p.1<=(j:Int)) && decide ((j:Int)<=p.2)
def yv(S:ByteArray)(s:St):Except Nat ((Int×Int)×St):=
 match zx S 33 jT s with
 |.error d=> .error d
 |.ok (a,s1)=>
  if bt S s1.i=45 then
   match zx S 33 jT {s1 with i:=s1.i+1} with
   |.error d=> .error d
   |.ok (c,s2)=> .ok ((a,c),zL (decide (c<a)) 6 s.i s2)
  else .ok ((a,a),s1)
def yq(S:ByteArray):Nat->St->List (Int×Int)->Except Nat (List (Int×Int)×St)
 |0,s,_=> .error s.i
 |n+1,s,L=>
  match yv S s with
  |.error d=> .error d
  |.ok (p,s1)=>if bt S s1.i=93 then .ok (L++[p],{s1 with i:=s1.i+1})else yq S n s1 (L++[p])
def yn(S:ByteArray)(s:St):Except Nat (List (Int×Int)×St):=
 if bt S s.i=91 then yq S (S.size+1) {s with i:=s.i+1} []else .error s.i
theorem yj(wr:Bool)(e a:Int)(s:St):(zL wr e a s).i=s.i/\(zL wr e a s).k=s.k:=by
 unfold zL;split <;>exact⟨rfl,rfl⟩
theorem XY(e a:Int)(s:St):zL false e a s=s:=by simp[zL]
theorem U9{S:ByteArray}{s s':St}{a c:Int}(h:yv S s= .ok ((a,c),s')):
 s.i<s'.i/\s'.i<=S.size/\0<=a/\a<=255/\0<=c/\c<=255/\s'.k=s.k:=by
 unfold yv at h
 split at h
 ·cases h
 ·rename_i a1 s1 h1
  have b1:=Jr (by omega) h1
  split at h
  ·split at h
   ·cases h
   ·rename_i c1 s2 h2
    have b2:=Jr (by omega) h2
    injection h with h
    injection h with e1 e2
    injection e1 with e0 e1
    subst e0 e1 e2;rw[(yj _ _ _ _).1,(yj _ _ _ _).2];simp only at b2;refine⟨by omega,b2.2.1,by omega,by omega,by omega,by omega,?_⟩;rw[b2.2.2.2.2.2.2,b1.2.2.2.2.2.2]
  ·injection h with h
   injection h with e1 e2
   injection e1 with e0 e1
   subst e0 e1 e2;exact⟨b1.1,b1.2.1,by omega,by omega,by omega,by omega,b1.2.2.2.2.2.2⟩
theorem GI{S:ByteArray}{s:St}{d:Nat}(hi:s.i<=S.size)(h:yv S s= .error d):d<=S.size:=by
 unfold yv at h
 split at h
 ·rename_i d1 h1
  injection h with h
  subst h;exact Me hi h1
 ·rename_i a1 s1 h1
  have b1:=Jr (by omega) h1
  split at h
  ·rename_i hq
   have:=yB (S:=S) (i:=s1.i) (by omega)
   split at h
   ·rename_i d2 h2
    injection h with h
    subst h;exact Me (by simp;omega) h2
   ·cases h
  ·cases h
theorem Gg{S:ByteArray}:∀n (s:St) L,s.i<=S.size->
 (∀L' s',yq S n s L= .ok (L',s')->s.i<s'.i/\s'.i<=S.size/\s'.k=s.k)/\(∀d,yq S n s L= .error d->d<=S.size):=by
 intro n
 induction n with
 |zero=>intro s L hi;simp[yq];omega
 |succ n ih=>
  intro s L hi;unfold yq
  cases h1:yv S s with
  |error d=>
   refine⟨fun _ _ h=> ?_,fun d' h=> ?_⟩
   ·simp at h
   ·simp at h;subst h;exact GI hi h1
  |ok p=>
   obtain⟨⟨a,c⟩,s1⟩:=p;have b1:=U9 h1;simp only
   by_cases hq:bt S s1.i=93
   ·have:=yB (S:=S) (i:=s1.i) (by omega)
    simp only[hq,if_true];refine⟨fun L' s' h=> ?_,fun d' h=>by cases h⟩
    injection h with h
    injection h with e1 e2
    subst e1 e2;exact⟨by simp;omega,by simp;omega,b1.2.2.2.2.2.2⟩
   ·simp only[hq,if_false]
    have b2:=ih s1 (L++[(a,c)]) b1.2.1;refine⟨fun L' s' h=> ?_,b2.2⟩;have b3:=b2.1 L' s' h;exact⟨by omega,b3.2.1,b3.2.2.trans b1.2.2.2.2.2.2⟩
theorem VO{S:ByteArray}{s s':St}{L:List (Int×Int)}(h:yn S s= .ok (L,s')):s.i<s'.i/\s'.i<=S.size/\s'.k=s.k:=by
 unfold yn at h
 split at h
 ·rename_i hq
  have:=yB (S:=S) (i:=s.i) (by omega);have b:=(Gg (S.size+1) {s with i:=s.i+1} [] (by simp;omega)).1 L s' h;simp only at b;exact⟨by omega,b.2.1,b.2.2⟩
 ·cases h
def QT:Value->Bool|.bool q=>q|_=>false
def Vz(b N:Nat)(again:Value)(w:World):Nat:=if QT again then N+2 - penI b w else 0
theorem Ze{b N:Nat}{w:World}{S:ByteArray}{s:St}{bad nest:Int}(h:zO w b S s bad nest):Vz b N (.bool true) w=N+2 - s.i:=by simp[Vz,QT,h.penI]
theorem WE{b N:Nat}{w:World}:Vz b N (.bool false) w=0:=by simp[Vz,QT]
theorem LH(L:List (Int×Int))(a:Int)(j:Nat):zo L j=(zo L j || (decide (a<=(j:Int)) && decide ((j:Int)<a))):=by
 have:(decide (a<=(j:Int)) && decide ((j:Int)<a))=false:=by simp <;>omega
 rw[this,Bool.or_false]
theorem AZ(L:List (Int×Int))(a c k:Int)(_hk:a<=k)(h1:c<k)(h2:k<=c+1\/k=a)(j:Nat):(zo L j || (decide (a<=(j:Int)) && decide ((j:Int)<k)))=zo (L++[(a,c)]) j:=by
 simp only[zo,List.any_append,List.any_cons,List.any_nil,Bool.or_false]
 congr 1
 rw[Bool.eq_iff_iff,Bool.and_eq_true,Bool.and_eq_true];simp only[decide_eq_true_eq]
 constructor <;>intro h <;>omega
theorem NQ(L:List (Int×Int))(a:Int)(k:Nat)(hk:a<=k)(j:Nat):(if j=k then true else(zo L j || (decide (a<=(j:Int)) && decide ((j:Int)<k))))=(zo L j || (decide (a<=(j:Int)) && decide ((j:Int)<k+1))):=by
 by_cases e:j=k
 ·subst e
  have:decide ((j:Int)<(j:Int)+1)=true:=by simp;omega
  simp[hk,this]
 ·rw[if_neg e]
  congr 1
  rw[Bool.eq_iff_iff,Bool.and_eq_true,Bool.and_eq_true];simp only[decide_eq_true_eq]
  constructor <;>intro h <;>omega
theorem DB{w:World}{b:Nat}{S:ByteArray}{s s':St}{nest:Int}(h:zO w b S s (-1) nest)(hS:S.size<=400){L:List (Int×Int)}(hr:yn S s= .ok (L,s')):
 Calls Tryz.prog 94 #[.pointer (some ⟨b,0,none⟩)] w fun e w'=>∃c,e= .returned (.slice (some ⟨c,0,none⟩) 256 256)/\w.heap.size<=c/\zq w' c 256 (zo L)/\zO w' b S s' (-1) nest/\Ch [b] w w':=by
 unfold yn at hr
 split at hr
 rotate_left
 ·cases hr
 rename_i hq
 have hlt:=yB (S:=S) (i:=s.i) (by omega);have HQ:=zC hq;have HF:=zC hr;clear hq hr;go_enter Tryz.func94,Tryz.ntmps94;go_wp2_with fail;refine(Qz h _ (by omega) hS HQ.o).mono ?_;rintro e w1 ⟨rfl,h1,g1⟩;go_wp2_with (at_make;refine QA 143 Tryz.underlying143 _ _ 256 rfl rfl rfl rfl (by omega) ?_;intro w2 hB g2 hz);have h2:=h1.kp g2 (by simp);have hbl:=h1.lt;have hC:w.heap.size<=w1.heap.size:=g1.size;have g12:=g1.trans (g2.mono (Y:=[b]) (by simp));generalize w1.heap.size=C at *
 go_loopw [4,5,6,7,8,9] (fun again _ _ _ _ _ w3=>Ch [b] w w3/\∃(L3:List (Int×Int)) (s3:St),zq w3 C 256 (zo L3)/\zO w3 b S s3 (-1) nest/\s3.i<=S.size/\((again= .bool true/\∃n,S.size<n+s3.i/\Hd (yq S n s3 L3= .ok (L,s')))\/(again= .bool false/\Hd (L3=L/\s3=s')))) (fun again _ _ _ _ _ w3=>Vz b S.size again w3)
 case atStart=>exact⟨g12,[],_,hB.congr (by simp[zo]),h2,by show s.i+1<=_;omega,Or.inl ⟨rfl,S.size+1,by simp;omega,HF⟩⟩
 case round=>
  obtain⟨g3,L3,s3,hB3,h3,hi3,⟨rfl,n,hn,HF3⟩|⟨rfl,HD⟩⟩:=hrel
  ·obtain⟨n,rfl⟩:∃m,n=m+1:=⟨n - 1,by omega⟩
   obtain⟨c0,c1,c2,c3,c4,c5,c6,fz⟩:=h3.fa
   cases hit:yv S s3 with
   |error d=>exfalso;have:=HF3.o;simp[yq,hit]at this
   |ok p=>
    obtain⟨⟨A,B⟩,s4⟩:=p;obtain⟨k1,k2,k3,k4,k5,k6,k7⟩:=U9 hit
    have HF4:Hd (if bt S s4.i=93 then(Except.ok (L3++[(A,B)],{s4 with i:=s4.i+1}):Except Nat (List (Int×Int)×St))= .ok (L,s')else yq S n s4 (L3++[(A,B)])= .ok (L,s')):=by
     have:=HF3.o;simp only[yq,hit]at this
     show if _ then _ else _
     split <;>rename_i hh <;>simpa[hh]using this
    unfold yv at hit
    split at hit
    ·cases hit
    rename_i a1 s31 hl1
    obtain⟨m1,m2,m3,m4,_,_,_⟩:=Jr (by omega) hl1;have HL1:=zC hl1
    split at hit
    ·rename_i hmi
     have hl31:=yB (S:=S) (i:=s31.i) (by omega)
     split at hit
     ·cases hit
     rename_i c1' s32 hl2
     injection hit with hit
     injection hit with e1 e2
     injection e1 with e0 e1
     subst e0 e1 e2;have HMI:=zC hmi;have HL2:=zC hl2;clear hmi hl1 hl2 HF3 HF;go_wp2_with fail;refine(Ym (but:=jT) h3 hS (by omega) (by show 4<=400;omega) HL1.o).mono ?_;rintro e w4 ⟨rfl,h4,g4⟩;go_wp2_with fail;refine(Jm h4 _ (by omega) hS HMI.o).mono ?_;rintro e w5 ⟨rfl,h5,g5⟩;go_wp2_with fail;refine(Ym (but:=jT) h5 hS (by omega) (by show 4<=400;omega) HL2.o).mono ?_;rintro e w51 ⟨rfl,h51,g51⟩;go_wp2_with fail;refine(QB h51 _ _ _).mono ?_;rintro e w6 ⟨rfl,h6,g6⟩;generalize hs4:zL (decide (c1'<a1)) 6 s3.i s32=s4 at *;clear hs4;have hB6:zq w6 C 256 (zo L3):=hB3.kp (g4.trans (g5.trans (g51.trans g6))) (by simp;omega);have g36:Ch [b] w w6:=g3.trans (g4.trans (g5.trans (g51.trans g6)));clear c0 c1 c2 c3 c4 c5 c6 fz;go_wp2_with fail
     go_loopw [9] (fun v w7=>∃k:Nat,v= .int .i64 k/\a1<=k/\((k:Int)<=c1'+1\/(k:Int)=a1)/\zq w7 C 256 (fun j=>zo L3 j || (decide (a1<=(j:Int)) && decide ((j:Int)<(k:Int))))/\zO w7 b S s4 (-1) nest/\Ch [b] w w7) (fun v _=>(c1'+1 - intOf v).toNat)
     case atStart=>exact⟨a1.toNat,by rw[Int.toNat_of_nonneg k3],by omega,by omega,hB6.congr (fun j _=>by rw[Int.toNat_of_nonneg k3];exact LH L3 a1 j),h6,g36⟩
     case round=>
      obtain⟨k,rfl,q1,q2,hB7,h7,g7⟩:=hrel
      by_cases hle:(k:Int)<=c1'
      ·have f7:=hB7.fz k
       have e7:=hB7.cl k (by omega);go_wp2_with fail;go_roundw
       case rel=>exact⟨k+1,by go_num,by omega,by omega,(hB7.set k true).congr (fun j _=>NQ L3 a1 k q1 j),h7.kp (Ch.setCell (X:=[C]) _ (by simp) _) (by simp;omega),g7.setCell_new (Or.inr hC) _⟩
       case measure=>simp[intOf];omega
      ·have hB8:=hB7.congr (g:=zo (L3++[(a1,c1')])) (fun j _=>AZ L3 a1 c1' k q1 (by omega) (by omega) j)
       by_cases h93:bt S s4.i=93
       ·have H93:=zC h93
        have HE:Hd (L3++[(a1,c1')]=L/\({s4 with i:=s4.i+1}:St)=s'):=by
         have:=HF4.o;rw[if_pos h93]at this
         injection this with this
         injection this with x1 x2
         exact⟨x1,x2⟩
        have hl3:=yB (S:=S) (i:=s4.i) (by omega);clear h93;go_wp2_with fail;refine(Jm h7 _ (by omega) hS H93.o).mono ?_;rintro e w8 ⟨rfl,h8,g8⟩;go_wp2_with fail;go_roundw
        case rel=>exact⟨g7.trans g8,_,_,hB8.kp g8 (by simp;omega),h8,hl3,Or.inr ⟨rfl,HE⟩⟩
        case measure=>rw[WE,Ze h3];omega
       ·have H93:=zC h93
        have HE:Hd (yq S n s4 (L3++[(a1,c1')])= .ok (L,s')):=by
         have:=HF4.o;rw[if_neg h93]at this;exact this
        clear h93;go_wp2_with fail;refine(jh h7 _ (by omega) hS H93.o).mono ?_;rintro e w8 ⟨rfl,h8,g8⟩;go_wp2_with fail;go_roundw
        case rel=>exact⟨g7.trans g8,_,_,hB8.kp g8 (by simp;omega),h8,k2,Or.inl ⟨rfl,n,by omega,HE⟩⟩
        case measure=>rw[Ze h8,Ze h3];omega
    ·rename_i hne
     injection hit with hit
     injection hit with e1 e2
     injection e1 with e0 e1
     subst e0 e1 e2;have HNE:=zC hne;clear hne hl1 HF3 HF;go_wp2_with fail;refine(Ym (but:=jT) h3 hS (by omega) (by show 4<=400;omega) HL1.o).mono ?_;rintro e w4 ⟨rfl,h4,g4⟩;go_wp2_with fail;refine(jh h4 _ (by omega) hS HNE.o).mono ?_;rintro e w5 ⟨rfl,h5,g5⟩;go_wp2_with fail;refine(QB h5 _ _ _).mono ?_;rintro e w6 ⟨rfl,h6,g6⟩;rw[XY]at h6;have hB6:zq w6 C 256 (zo L3):=hB3.kp (g4.trans (g5.trans g6)) (by simp;omega);have g36:Ch [b] w w6:=g3.trans (g4.trans (g5.trans g6));clear c0 c1 c2 c3 c4 c5 c6 fz;go_wp2_with fail
     go_loopw [9] (fun v w7=>∃k:Nat,v= .int .i64 k/\a1<=k/\((k:Int)<=a1+1\/(k:Int)=a1)/\zq w7 C 256 (fun j=>zo L3 j || (decide (a1<=(j:Int)) && decide ((j:Int)<(k:Int))))/\zO w7 b S s31 (-1) nest/\Ch [b] w w7) (fun v _=>(a1+1 - intOf v).toNat)
     case atStart=>exact⟨a1.toNat,by rw[Int.toNat_of_nonneg k3],by omega,by omega,hB6.congr (fun j _=>by rw[Int.toNat_of_nonneg k3];exact LH L3 a1 j),h6,g36⟩
     case round=>
      obtain⟨k,rfl,q1,q2,hB7,h7,g7⟩:=hrel
      by_cases hle:(k:Int)<=a1
      ·have f7:=hB7.fz k
       have e7:=hB7.cl k (by omega);go_wp2_with fail;go_roundw
       case rel=>exact⟨k+1,by go_num,by omega,by omega,(hB7.set k true).congr (fun j _=>NQ L3 a1 k q1 j),h7.kp (Ch.setCell (X:=[C]) _ (by simp) _) (by simp;omega),g7.setCell_new (Or.inr hC) _⟩
       case measure=>simp[intOf];omega
      ·have hB8:=hB7.congr (g:=zo (L3++[(a1,a1)])) (fun j _=>AZ L3 a1 a1 k q1 (by omega) (by omega) j)
       by_cases h93:bt S s31.i=93
       ·have H93:=zC h93
        have HE:Hd (L3++[(a1,a1)]=L/\({s31 with i:=s31.i+1}:St)=s'):=by
         have:=HF4.o;rw[if_pos h93]at this
         injection this with this
         injection this with x1 x2
         exact⟨x1,x2⟩
        have hl3:=yB (S:=S) (i:=s31.i) (by omega);clear h93;go_wp2_with fail;refine(Jm h7 _ (by omega) hS H93.o).mono ?_;rintro e w8 ⟨rfl,h8,g8⟩;go_wp2_with fail;go_roundw
        case rel=>exact⟨g7.trans g8,_,_,hB8.kp g8 (by simp;omega),h8,hl3,Or.inr ⟨rfl,HE⟩⟩
        case measure=>rw[WE,Ze h3];omega
       ·have H93:=zC h93
        have HE:Hd (yq S n s31 (L3++[(a1,a1)])= .ok (L,s')):=by
         have:=HF4.o;rw[if_neg h93]at this;exact this
        clear h93;go_wp2_with fail;refine(jh h7 _ (by omega) hS H93.o).mono ?_;rintro e w8 ⟨rfl,h8,g8⟩;go_wp2_with fail;go_roundw
        case rel=>exact⟨g7.trans g8,_,_,hB8.kp g8 (by simp;omega),h8,k2,Or.inl ⟨rfl,n,by omega,HE⟩⟩
        case measure=>rw[Ze h8,Ze h3];omega
  ·obtain⟨c0,c1,c2,c3,c4,c5,c6,fz⟩:=h3.fa
   go_wp2_with fail;go_ret;rw[<- HD.o.1,<- HD.o.2];exact⟨C,rfl,hC,hB3,h3,g3⟩
theorem DH{w:World}{b:Nat}{S:ByteArray}{s:St}{nest:Int}(h:zO w b S s (-1) nest)(hS:S.size<=400){D:Nat}(hi:s.i<=S.size)(hr:yn S s= .error D):
 Calls Tryz.prog 94 #[.pointer (some ⟨b,0,none⟩)] w fun e w'=>(∃c,e= .returned (.slice (some ⟨c,0,none⟩) 256 256))/\zj w' b S D/\Ch [b] w w':=by
 unfold yn at hr
 split at hr
 ·rename_i hq
  have hlt:=yB (S:=S) (i:=s.i) (by omega);have HQ:=zC hq;have HF:=zC hr;clear hq hr;go_enter Tryz.func94,Tryz.ntmps94;go_wp2_with fail;refine(Qz h _ (by omega) hS HQ.o).mono ?_;rintro e w1 ⟨rfl,h1,g1⟩;go_wp2_with (at_make;refine QA 143 Tryz.underlying143 _ _ 256 rfl rfl rfl rfl (by omega) ?_;intro w2 hB g2 hz);have h2:=h1.kp g2 (by simp);have hbl:=h1.lt;have hC:w.heap.size<=w1.heap.size:=g1.size;have g12:=g1.trans (g2.mono (Y:=[b]) (by simp));generalize w1.heap.size=C at *
  go_loopw [4,5,6,7,8,9] (fun again _ _ _ _ _ w3=>Ch [b] w w3/\again= .bool true/\(∃f,zq w3 C 256 f)/\((∃(L3:List (Int×Int)) (s3:St) (n:Nat),zO w3 b S s3 (-1) nest/\s3.i<=S.size/\S.size<n+s3.i/\Hd (yq S n s3 L3= .error D))\/zj w3 b S D)) (fun _ _ _ _ _ _ w3=>penM b S.size w3)
  case atStart=>exact⟨g12,rfl,⟨_,hB⟩,Or.inl ⟨[],_,S.size+1,h2,by show s.i+1<=_;omega,by simp;omega,HF⟩⟩
  case round=>
   obtain⟨g3,rfl,⟨f3,hB3⟩,⟨L3,s3,n,h3,hi3,hn,HF3⟩|h3⟩:=hrel
   ·obtain⟨n,rfl⟩:∃m,n=m+1:=⟨n - 1,by omega⟩
    obtain⟨c0,c1,c2,c3,c4,c5,c6,fz⟩:=h3.fa
    cases hl1:zx S 33 jT s3 with
    |error d=>
     have hd:d=D:=by have:=HF3.o;simp[yq,yv,hl1]at this;exact this
     subst hd;have HL1:=zC hl1;clear hl1 HF3 HF;go_wp2_with fail;refine(UM (but:=jT) h3 hS hi3 (by omega) (by show 4<=400;omega) HL1.o).mono ?_;rintro e w4 ⟨⟨a1,m3,m4,rfl⟩,h4,g4⟩;go_wp2_with fail;refine(VE h4 _).mono ?_;rintro e w5 ⟨rfl,h5,g5⟩;go_wp2_with fail;refine(KF h5 _ _ _).mono ?_;rintro e w6 ⟨rfl,h6,g6⟩;obtain⟨f6,hB6⟩:∃f,zq w6 C 256 f:=⟨_,hB3.kp (g4.trans (g5.trans g6)) (by simp;omega)⟩;have g36:Ch [b] w w6:=g3.trans (g4.trans (g5.trans g6));clear c0 c1 c2 c3 c4 c5 c6 fz;go_wp2_with fail
     go_loopw [9] (fun v w7=>∃k:Nat,v= .int .i64 k/\a1<=k/\(∃f,zq w7 C 256 f)/\zj w7 b S d/\Ch [b] w w7) (fun v _=>(a1+1 - intOf v).toNat)
     case atStart=>exact⟨a1.toNat,by rw[Int.toNat_of_nonneg (by omega)],by omega,⟨_,hB6⟩,h6,g36⟩
     case round=>
      obtain⟨k,rfl,q1,⟨f7,hB7⟩,h7,g7⟩:=hrel
      by_cases hle:(k:Int)<=a1
      ·have f7':=hB7.fz k
       have e7:=hB7.cl k (by omega);go_wp2_with fail;go_roundw
       case rel=>exact⟨k+1,by go_num,by omega,⟨_,hB7.set k true⟩,h7.kp (Ch.setCell (X:=[C]) _ (by simp) _) (by simp;omega),g7.setCell_new (Or.inr hC) _⟩
       case measure=>simp[intOf];omega
      ·go_wp2_with fail
       refine(VE h7 _).mono ?_;rintro e w8 ⟨rfl,h8,g8⟩;go_wp2_with fail;go_roundw
       case rel=>exact⟨g7.trans g8,rfl,⟨_,hB7.kp g8 (by simp;omega)⟩,Or.inr h8⟩
       case measure=>rw[h8.penM,h3.penM];omega
    |ok p=>
     obtain⟨a1,s31⟩:=p;obtain⟨m1,m2,m3,m4,_,_,_⟩:=Jr (by omega) hl1;have HL1:=zC hl1
     by_cases hmi:bt S s31.i=45
     ·have hl31:=yB (S:=S) (i:=s31.i) (by omega)
      have HMI:=zC hmi
      cases hl2:zx S 33 jT {s31 with i:=s31.i+1} with
      |error d=>
       have hd:d=D:=by have:=HF3.o;simp[yq,yv,hl1,hmi,hl2]at this;exact this
       subst hd;have HL2:=zC hl2;clear hl1 hl2 hmi HF3 HF;go_wp2_with fail;refine(Ym (but:=jT) h3 hS (by omega) (by show 4<=400;omega) HL1.o).mono ?_;rintro e w4 ⟨rfl,h4,g4⟩;go_wp2_with fail;refine(Jm h4 _ (by omega) hS HMI.o).mono ?_;rintro e w5 ⟨rfl,h5,g5⟩;go_wp2_with fail;refine(UM (but:=jT) h5 hS (by show s31.i+1<=_;omega) (by omega) (by show 4<=400;omega) HL2.o).mono ?_;rintro e w51 ⟨⟨c1',m5,m6,rfl⟩,h51,g51⟩;go_wp2_with fail;refine(KF h51 _ _ _).mono ?_;rintro e w6 ⟨rfl,h6,g6⟩;obtain⟨f6,hB6⟩:∃f,zq w6 C 256 f:=⟨_,hB3.kp (g4.trans (g5.trans (g51.trans g6))) (by simp;omega)⟩;have g36:Ch [b] w w6:=g3.trans (g4.trans (g5.trans (g51.trans g6)));clear c0 c1 c2 c3 c4 c5 c6 fz;go_wp2_with fail
       go_loopw [9] (fun v w7=>∃k:Nat,v= .int .i64 k/\a1<=k/\(∃f,zq w7 C 256 f)/\zj w7 b S d/\Ch [b] w w7) (fun v _=>(c1'+1 - intOf v).toNat)
       case atStart=>exact⟨a1.toNat,by rw[Int.toNat_of_nonneg (by omega)],by omega,⟨_,hB6⟩,h6,g36⟩
       case round=>
        obtain⟨k,rfl,q1,⟨f7,hB7⟩,h7,g7⟩:=hrel
        by_cases hle:(k:Int)<=c1'
        ·have f7':=hB7.fz k
         have e7:=hB7.cl k (by omega);go_wp2_with fail;go_roundw
         case rel=>exact⟨k+1,by go_num,by omega,⟨_,hB7.set k true⟩,h7.kp (Ch.setCell (X:=[C]) _ (by simp) _) (by simp;omega),g7.setCell_new (Or.inr hC) _⟩
         case measure=>simp[intOf];omega
        ·go_wp2_with fail
         refine(VE h7 _).mono ?_;rintro e w8 ⟨rfl,h8,g8⟩;go_wp2_with fail;go_roundw
         case rel=>exact⟨g7.trans g8,rfl,⟨_,hB7.kp g8 (by simp;omega)⟩,Or.inr h8⟩
         case measure=>rw[h8.penM,h3.penM];omega
      |ok p=>
       obtain⟨c1',s32⟩:=p
       have hit:yv S s3= .ok ((a1,c1'),zL (decide (c1'<a1)) 6 s3.i s32):=by simp[yv,hl1,hmi,hl2]
       obtain⟨k1,k2,k3,k4,k5,k6,k7⟩:=U9 hit
       have HF4:Hd (if bt S (zL (decide (c1'<a1)) 6 s3.i s32).i=93 then(Except.ok (L3++[(a1,c1')],{zL (decide (c1'<a1)) 6 s3.i s32 with i:=(zL (decide (c1'<a1)) 6 s3.i s32).i+1}):Except Nat (List (Int×Int)×St))= .error D else yq S n (zL (decide (c1'<a1)) 6 s3.i s32) (L3++[(a1,c1')])= .error D):=by
        have:=HF3.o;simp only[yq,hit]at this
        show if _ then _ else _
        split
        ·rename_i hh;simp[hh]at this
        ·rename_i hh;simpa[hh]using this
       have HL2:=zC hl2;clear hl1 hl2 hmi HF3 HF hit;go_wp2_with fail;refine(Ym (but:=jT) h3 hS (by omega) (by show 4<=400;omega) HL1.o).mono ?_;rintro e w4 ⟨rfl,h4,g4⟩;go_wp2_with fail;refine(Jm h4 _ (by omega) hS HMI.o).mono ?_;rintro e w5 ⟨rfl,h5,g5⟩;go_wp2_with fail;refine(Ym (but:=jT) h5 hS (by omega) (by show 4<=400;omega) HL2.o).mono ?_;rintro e w51 ⟨rfl,h51,g51⟩;go_wp2_with fail;refine(QB h51 _ _ _).mono ?_;rintro e w6 ⟨rfl,h6,g6⟩;generalize hs4:zL (decide (c1'<a1)) 6 s3.i s32=s4 at *;clear hs4;obtain⟨f6,hB6⟩:∃f,zq w6 C 256 f:=⟨_,hB3.kp (g4.trans (g5.trans (g51.trans g6))) (by simp;omega)⟩;have g36:Ch [b] w w6:=g3.trans (g4.trans (g5.trans (g51.trans g6)));clear c0 c1 c2 c3 c4 c5 c6 fz;go_wp2_with fail
       go_loopw [9] (fun v w7=>∃k:Nat,v= .int .i64 k/\a1<=k/\(∃f,zq w7 C 256 f)/\zO w7 b S s4 (-1) nest/\Ch [b] w w7) (fun v _=>(c1'+1 - intOf v).toNat)
       case atStart=>exact⟨a1.toNat,by rw[Int.toNat_of_nonneg (by omega)],by omega,⟨_,hB6⟩,h6,g36⟩
       case round=>
        obtain⟨k,rfl,q1,⟨f7,hB7⟩,h7,g7⟩:=hrel
        by_cases hle:(k:Int)<=c1'
        ·have f7':=hB7.fz k
         have e7:=hB7.cl k (by omega);go_wp2_with fail;go_roundw
         case rel=>exact⟨k+1,by go_num,by omega,⟨_,hB7.set k true⟩,h7.kp (Ch.setCell (X:=[C]) _ (by simp) _) (by simp;omega),g7.setCell_new (Or.inr hC) _⟩
         case measure=>simp[intOf];omega
        ·have hne93:¬bt S s4.i=93:=by
          intro h93;have:=HF4.o;rw[if_pos h93]at this;cases this
         have HE:Hd (yq S n s4 (L3++[(a1,c1')])= .error D):=by
          have:=HF4.o;rw[if_neg hne93]at this;exact this
         have H93:=zC hne93;clear hne93;go_wp2_with fail;refine(jh h7 _ (by omega) hS H93.o).mono ?_;rintro e w8 ⟨rfl,h8,g8⟩;go_wp2_with fail;go_roundw
         case rel=>exact⟨g7.trans g8,rfl,⟨_,hB7.kp g8 (by simp;omega)⟩,Or.inl ⟨_,_,n,h8,k2,by omega,HE⟩⟩
         case measure=>rw[h8.penM,h3.penM];omega
     ·have HNE:=zC hmi
      have hit:yv S s3= .ok ((a1,a1),s31):=by simp[yv,hl1,hmi]
      obtain⟨k1,k2,k3,k4,k5,k6,k7⟩:=U9 hit
      have HF4:Hd (if bt S s31.i=93 then(Except.ok (L3++[(a1,a1)],{s31 with i:=s31.i+1}):Except Nat (List (Int×Int)×St))= .error D else yq S n s31 (L3++[(a1,a1)])= .error D):=by
       have:=HF3.o;simp only[yq,hit]at this
       show if _ then _ else _
       split
       ·rename_i hh;simp[hh]at this
       ·rename_i hh;simpa[hh]using this
      clear hl1 hmi HF3 HF hit;go_wp2_with fail;refine(Ym (but:=jT) h3 hS (by omega) (by show 4<=400;omega) HL1.o).mono ?_;rintro e w4 ⟨rfl,h4,g4⟩;go_wp2_with fail;refine(jh h4 _ (by omega) hS HNE.o).mono ?_;rintro e w5 ⟨rfl,h5,g5⟩;go_wp2_with fail;refine(QB h5 _ _ _).mono ?_;rintro e w6 ⟨rfl,h6,g6⟩;rw[XY]at h6;obtain⟨f6,hB6⟩:∃f,zq w6 C 256 f:=⟨_,hB3.kp (g4.trans (g5.trans g6)) (by simp;omega)⟩;have g36:Ch [b] w w6:=g3.trans (g4.trans (g5.trans g6));clear c0 c1 c2 c3 c4 c5 c6 fz;go_wp2_with fail
      go_loopw [9] (fun v w7=>∃k:Nat,v= .int .i64 k/\a1<=k/\(∃f,zq w7 C 256 f)/\zO w7 b S s31 (-1) nest/\Ch [b] w w7) (fun v _=>(a1+1 - intOf v).toNat)
      case atStart=>exact⟨a1.toNat,by rw[Int.toNat_of_nonneg (by omega)],by omega,⟨_,hB6⟩,h6,g36⟩
      case round=>
       obtain⟨k,rfl,q1,⟨f7,hB7⟩,h7,g7⟩:=hrel
       by_cases hle:(k:Int)<=a1
       ·have f7':=hB7.fz k
        have e7:=hB7.cl k (by omega);go_wp2_with fail;go_roundw
        case rel=>exact⟨k+1,by go_num,by omega,⟨_,hB7.set k true⟩,h7.kp (Ch.setCell (X:=[C]) _ (by simp) _) (by simp;omega),g7.setCell_new (Or.inr hC) _⟩
        case measure=>simp[intOf];omega
       ·have hne93:¬bt S s31.i=93:=by
         intro h93;have:=HF4.o;rw[if_pos h93]at this;cases this
        have HE:Hd (yq S n s31 (L3++[(a1,a1)])= .error D):=by
         have:=HF4.o;rw[if_neg hne93]at this;exact this
        have H93:=zC hne93;clear hne93;go_wp2_with fail;refine(jh h7 _ (by omega) hS H93.o).mono ?_;rintro e w8 ⟨rfl,h8,g8⟩;go_wp2_with fail;go_roundw
        case rel=>exact⟨g7.trans g8,rfl,⟨_,hB7.kp g8 (by simp;omega)⟩,Or.inl ⟨_,_,n,h8,k2,by omega,HE⟩⟩
        case measure=>rw[h8.penM,h3.penM];omega
   ·have h3':=h3
    obtain⟨s3,nest3,p3,hi3⟩:=h3';obtain⟨c0,c1,c2,c3,c4,c5,c6,fz⟩:=p3.fa
    have hd:¬(D:Int)<0:=by omega
    go_wp2_with fail;go_ret;exact⟨⟨C,rfl⟩,h3,g3⟩
 ·rename_i hq
  injection hr with hr
  subst hr;have HQ:=zC hq;clear hq;go_enter Tryz.func94,Tryz.ntmps94;go_wp2_with fail;refine(WD h _ (by omega) hS hi HQ.o).mono ?_;rintro e w1 ⟨rfl,h1,g1⟩;go_wp2_with (at_make;refine QA 143 Tryz.underlying143 _ _ 256 rfl rfl rfl rfl (by omega) ?_;intro w2 hB g2 hz);obtain⟨s2,nest2,p2,hi2⟩:=h1.kp g2 (by simp);obtain⟨d0,d1,d2,d3,d4,d5,d6,fz2⟩:=p2.fa
  have hd:¬(s.i:Int)<0:=by omega
  go_loop [4] (fun v=>v= .bool true) (fun _=>0)
  case atStart=>rfl
  case round=>
   subst hrel;go_wp2_with fail;go_ret;exact⟨⟨_,rfl⟩,⟨_,_,p2,hi2⟩,g1.trans (g2.mono (by simp))⟩
end Go.Proofs.YteobgfbgglfkbaaGreat
