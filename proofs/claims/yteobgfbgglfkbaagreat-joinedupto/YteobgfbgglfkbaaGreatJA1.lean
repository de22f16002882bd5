import Derived.Test.YteobgfbgglfkbaaGreatProg
import Derived.WalkKit
import Derived.Deep.QuietTactic
import Derived.BigQuiet
namespace Go.Proofs.YteobgfbgglfkbaaGreat
open Go.RowKit
def bt(S:ByteArray)(i:Nat):Int:=if h:i<S.size then (S[i].toNat:Int) else -1
theorem zCQ{S:ByteArray}{i:Nat}(h:i<S.size):(S[i].toNat:Int)=bt S i:=by simp [bt,h]
theorem zDs{S:ByteArray}{i:Nat}(h:S.size≤i):bt S i= -1:=by simp [bt];omega
theorem bt_bd(S:ByteArray)(i:Nat): -1≤bt S i∧bt S i≤255:=by
 unfold bt;split
 ·rename_i h;have:=S[i].toNat_lt;omega
 ·omega
theorem zAy{S:ByteArray}{i:Nat}(h:0≤bt S i):i<S.size:=by
 unfold bt at h;split at h
 ·assumption
 ·omega
structure St where
 i:Nat
 e:Int
 a:Int
 k:Int
def zOs(S:ByteArray)(s:St)(bad nest:Int):Obj:=
 .cells #[.string S,.int .i64 s.i,.int .i64 bad,.int .i64 s.e,.int .i64 s.a,.int .i64 s.k,.int .i64 nest] 91
def zAL(w:World)(b:Nat)(S:ByteArray)(s:St)(bad nest:Int):Prop:=w.heap[b]? =some (zOs S s bad nest)
structure Ch(X:List Nat)(w w':World):Prop where
 os:w'.os=w.os
 tape:w'.tape=w.tape
 output:w'.output=w.output
 size:w.heap.size≤w'.heap.size
 block:∀k,k<w.heap.size→k∉X→w'.heap[k]? =w.heap[k]?
theorem Ch.refl(X:List Nat)(w:World):Ch X w w:=⟨rfl,rfl,rfl,Nat.le_refl _,fun _ _ _=>rfl⟩
theorem Ch.trans{X:List Nat}{a b c:World}(h:Ch X a b)(g:Ch X b c):Ch X a c:=
 ⟨g.os.trans h.os,g.tape.trans h.tape,g.output.trans h.output,Nat.le_trans h.size g.size,fun k hk hx=>(g.block k (Nat.lt_of_lt_of_le hk h.size) hx).trans (h.block k hk hx)⟩
theorem Ch.trans'{X Y:List Nat}{a b c:World}(h:Ch X a b)(g:Ch Y b c)(hY:∀k,k∈Y→k∈X∨a.heap.size≤k):Ch X a c:=
 ⟨g.os.trans h.os,g.tape.trans h.tape,g.output.trans h.output,Nat.le_trans h.size g.size,fun k hk hx=>
  (g.block k (Nat.lt_of_lt_of_le hk h.size) (fun hy=>(hY k hy).elim hx (fun h'=>by omega))).trans (h.block k hk hx)⟩
theorem Ch.mono{X Y:List Nat}{a b:World}(h:Ch X a b)(hX:∀k,k∈X→k∈Y):Ch Y a b:=
 ⟨h.os,h.tape,h.output,h.size,fun k hk hy=>h.block k hk (fun hx=>hy (hX k hx))⟩
theorem Ch.drewN(X:List Nat)(w:World)(n:Nat):Ch X w (w.drewN n):=⟨rfl,rfl,rfl,Nat.le_refl _,fun _ _ _=>rfl⟩
theorem Ch.drew(X:List Nat)(w:World):Ch X w w.drew:=⟨rfl,rfl,rfl,Nat.le_refl _,fun _ _ _=>rfl⟩
theorem Ch.setCell{X:List Nat}(w:World){p:Addr}(hp:p.block∈X)(v:Value):Ch X w (w.setCell p v):=
 ⟨rfl,rfl,rfl,by simp [World.setCell],fun k _ hx=>Below.heap_setCell _ _ _ _ (fun e=>hx (e ▸ hp))⟩
theorem Ch.setCell_new{X:List Nat}{a w:World}(h:Ch X a w){p:Addr}(hp:p.block∈X∨a.heap.size≤p.block)(v:Value):Ch X a (w.setCell p v):=
 h.trans' (Ch.setCell (X:=[p.block]) w (by simp) v) (by simpa using hp)
theorem Ch.alloc(X:List Nat)(w:World)(o:Obj):Ch X w (w.alloc o):=
 ⟨rfl,rfl,rfl,by simp,fun k hk _=>Below.heap_alloc _ _ _ hk⟩
theorem Ch.below{X:List Nat}{w w':World}(h:Ch X w w'){B:Nat}(hB:B≤w.heap.size)(hX:∀k,k∈X→B≤k):Below B w w':=
 ⟨h.os,h.tape,h.output,h.size,fun k hk=>h.block k (by omega) (fun hx=>by have:=hX k hx;omega)⟩
theorem zAL.keep{w w':World}{b:Nat}{S:ByteArray}{s:St}{bad nest:Int}{X:List Nat}(h:zAL w b S s bad nest)(g:Ch X w w')(hb:b∉X):zAL w' b S s bad nest:=by
 have hlt:b<w.heap.size:=by
  rcases Nat.lt_or_ge b w.heap.size with h' | h'
  ·exact h'
  ·simp [zAL,Array.getElem?_eq_none h'] at h
 exact (g.block b hlt hb).trans h
theorem zAL.lt{w:World}{b:Nat}{S:ByteArray}{s:St}{bad nest:Int}(h:zAL w b S s bad nest):b<w.heap.size:=by
 rcases Nat.lt_or_ge b w.heap.size with h' | h'
 ·exact h'
 ·simp [zAL,Array.getElem?_eq_none h'] at h
theorem zAL.facts{w:World}{b:Nat}{S:ByteArray}{s:St}{bad nest:Int}(h:zAL w b S s bad nest):
  w.cell? ⟨b,0,none⟩=some (.string S)∧w.cell? ⟨b,1,none⟩=some (.int .i64 s.i)∧w.cell? ⟨b,2,none⟩=some (.int .i64 bad)∧
  w.cell? ⟨b,3,none⟩=some (.int .i64 s.e)∧w.cell? ⟨b,4,none⟩=some (.int .i64 s.a)∧w.cell? ⟨b,5,none⟩=some (.int .i64 s.k)∧
  w.cell? ⟨b,6,none⟩=some (.int .i64 nest)∧∀o,w.frozen? ⟨b,o,none⟩=false:=by
 unfold zAL at h
 refine ⟨?_,?_,?_,?_,?_,?_,?_,?_⟩ <;>simp [World.cell?,World.frozen?,h,zOs]
theorem zAL.set{w:World}{b:Nat}{S:ByteArray}{s:St}{bad nest:Int}(h:zAL w b S s bad nest):
  (∀n:Nat,zAL (w.setCell ⟨b,1,none⟩ (.int .i64 n)) b S {s with i:=n} bad nest)∧
  (∀x:Int,zAL (w.setCell ⟨b,2,none⟩ (.int .i64 x)) b S s x nest)∧
  (∀x:Int,zAL (w.setCell ⟨b,3,none⟩ (.int .i64 x)) b S {s with e:=x} bad nest)∧
  (∀x:Int,zAL (w.setCell ⟨b,4,none⟩ (.int .i64 x)) b S {s with a:=x} bad nest)∧
  (∀x:Int,zAL (w.setCell ⟨b,5,none⟩ (.int .i64 x)) b S {s with k:=x} bad nest)∧
  (∀x:Int,zAL (w.setCell ⟨b,6,none⟩ (.int .i64 x)) b S s bad x):=by
 unfold zAL at *
 refine ⟨?_,?_,?_,?_,?_,?_⟩ <;>intro x <;>simp [World.setCell,Array.getElem?_modify,h,zOs]
theorem zAL.drewN{w:World}{b:Nat}{S:ByteArray}{s:St}{bad nest:Int}(h:zAL w b S s bad nest)(n:Nat):zAL (w.drewN n) b S s bad nest:=h
theorem zCI(a:ByteArray):a.toList=a.data.toList:=ByteArray.toList_eq a
theorem zCe{a b:ByteArray}(h:a=b):(a.toList==b.toList)=true∧(a.data.toList==b.data.toList)=true:=by subst h;simp
theorem zBy{a b:ByteArray}(h:¬a=b):(a.toList==b.toList)=false∧(a.data.toList==b.data.toList)=false:=by
 have h2:(a.data.toList==b.data.toList)=false:=by
  rw [beq_eq_false_iff_ne];intro e;apply h;cases a;cases b;simp at e;simp [e]
 exact ⟨by rw [zCI,zCI];exact h2,h2⟩
theorem hide{p:Prop}(h:p):Hid p:=h
theorem zHU{p:Prop}(h:Hid p):p:=h
end Go.Proofs.YteobgfbgglfkbaaGreat
namespace Go.Proofs.YteobgfbgglfkbaaGreat
open Go.RowKit
def zBo(S:ByteArray)(i:Nat)(lo hi:Int):Bool:=decide (lo≤bt S i) && decide (bt S i≤hi)
def sayS(wrong:Bool)(e a:Int)(s:St):St:=
 if wrong=true∧(s.e=0∨a<s.a∨(a=s.a∧e<s.e)) then {s with e:=e,a:=a} else s
set_option maxHeartbeats 400000 in
theorem zCk{w:World}{b:Nat}{S:ByteArray}{s:St}{nest:Int}(h:zAL w b S s (-1) nest):
  Calls Tryz.prog 52 #[.pointer (some ⟨b,0,none⟩)] w fun e w'=>e= .returned (.tuple #[])∧zAL w' b S s s.i nest∧Ch [b] w w':=by
 obtain ⟨c0,c1,c2,c3,c4,c5,c6,fz⟩:=h.facts;go_enter Tryz.func52,Tryz.ntmps52
 go_wp2
 go_end0
 exact ⟨rfl,h.set.2.1 _,Ch.setCell _ (by simp) _⟩
set_option maxHeartbeats 400000 in
theorem zGv{w:World}{b:Nat}{S:ByteArray}{s:St}{nest:Int}{d:Nat}(h:zAL w b S s d nest):
  Calls Tryz.prog 52 #[.pointer (some ⟨b,0,none⟩)] w fun e w'=>e= .returned (.tuple #[])∧zAL w' b S s d nest∧Ch [b] w w':=by
 obtain ⟨c0,c1,c2,c3,c4,c5,c6,fz⟩:=h.facts
 have hd:¬(d:Int)<0:=by omega
 go_enter Tryz.func52,Tryz.ntmps52
 go_wp2
 go_end0
 exact ⟨rfl,h,Ch.refl _ _⟩
set_option maxHeartbeats 400000 in
theorem say_dead{w:World}{b:Nat}{S:ByteArray}{s:St}{nest:Int}{d:Nat}(h:zAL w b S s d nest)(wr:Bool)(e a:Int):
  Calls Tryz.prog 53 #[.pointer (some ⟨b,0,none⟩),.bool wr,.int .i64 e,.int .i64 a] w fun r w'=>r= .returned (.tuple #[])∧zAL w' b S s d nest∧Ch [b] w w':=by
 obtain ⟨c0,c1,c2,c3,c4,c5,c6,fz⟩:=h.facts
 have hd:¬(d:Int)<0:=by omega
 cases wr
 all_goals
  go_enter Tryz.func53,Tryz.ntmps53
  go_wp2
  go_end0
  exact ⟨rfl,h,Ch.refl _ _⟩
set_option maxHeartbeats 400000 in
theorem zCy{w:World}{b:Nat}{S:ByteArray}{s:St}{nest:Int}(h:zAL w b S s (-1) nest)(wr:Bool)(e a:Int):
  Calls Tryz.prog 53 #[.pointer (some ⟨b,0,none⟩),.bool wr,.int .i64 e,.int .i64 a] w fun r w'=>r= .returned (.tuple #[])∧zAL w' b S (sayS wr e a s) (-1) nest∧Ch [b] w w':=by
 obtain ⟨c0,c1,c2,c3,c4,c5,c6,fz⟩:=h.facts
 have yes:∀wr:Bool,wr=true→(s.e=0∨a<s.a∨(a=s.a∧e<s.e))→(zAL ((w.setCell ⟨b,3,none⟩ (.int .i64 e)).setCell ⟨b,4,none⟩ (.int .i64 a)) b S (sayS wr e a s) (-1) nest∧Ch [b] w ((w.setCell ⟨b,3,none⟩ (.int .i64 e)).setCell ⟨b,4,none⟩ (.int .i64 a))):=by
  intro wr h1 h2;rw [show sayS wr e a s={s with e:=e,a:=a} from by simp [sayS,h1,h2]];exact ⟨(h.set.2.2.1 e).set.2.2.2.1 a,(Ch.setCell _ (by simp) _).trans (Ch.setCell _ (by simp) _)⟩
 have no:∀wr:Bool,¬(wr=true∧(s.e=0∨a<s.a∨(a=s.a∧e<s.e)))→(zAL w b S (sayS wr e a s) (-1) nest∧Ch [b] w w):=by
  intro wr h1;rw [show sayS wr e a s=s from by simp only [sayS,if_neg h1]];exact ⟨h,Ch.refl _ _⟩
 have Y:=hide yes;have N:=hide no;clear yes no;cases wr
 ·go_enter Tryz.func53,Tryz.ntmps53
  go_wp2
  go_end0
  exact ⟨rfl,zHU N _ (by simp)⟩
 ·by_cases h0:s.e=0
  ·have H0:Hid (s.e=0):=h0
   have g0:(s.e==0)=true:=by simp [h0]
   clear h0;go_enter Tryz.func53,Tryz.ntmps53
   go_wp2
   go_end0
   exact ⟨rfl,zHU Y _ rfl (Or.inl H0.out)⟩
  ·have g0:(s.e==0)=false:=by simp [h0]
   have H0:Hid (¬s.e=0):=h0;clear h0
   by_cases h1:a<s.a
   ·go_enter Tryz.func53,Tryz.ntmps53
    go_wp2
    go_end0
    exact ⟨rfl,zHU Y _ rfl (Or.inr (Or.inl h1))⟩
   ·by_cases h2:a=s.a
    ·have H2:Hid (a=s.a):=h2
     have g2:(a==s.a)=true:=by simp [h2]
     clear h2
     by_cases h3:e<s.e
     ·go_enter Tryz.func53,Tryz.ntmps53
      go_wp2
      go_end0
      exact ⟨rfl,zHU Y _ rfl (Or.inr (Or.inr ⟨H2.out,h3⟩))⟩
     ·go_enter Tryz.func53,Tryz.ntmps53
      go_wp2
      go_end0
      exact ⟨rfl,zHU N _ (by have:=H0.out;omega)⟩
    ·have H2:Hid (¬a=s.a):=h2
     have g2:(a==s.a)=false:=by simp [h2]
     clear h2;go_enter Tryz.func53,Tryz.ntmps53
     go_wp2
     go_end0
     exact ⟨rfl,zHU N _ (by have:=H0.out;have:=H2.out;omega)⟩
set_option maxHeartbeats 400000 in
theorem zM5{w:World}{b:Nat}{S:ByteArray}{s:St}{nest:Int}{d:Nat}(h:zAL w b S s d nest)(lo hi:Int):
  Calls Tryz.prog 50 #[.pointer (some ⟨b,0,none⟩),.int .u8 lo,.int .u8 hi] w fun e w'=>e= .returned (.bool false)∧∃n,w'=w.drewN n:=by
 obtain ⟨c0,c1,c2,c3,c4,c5,c6,fz⟩:=h.facts
 have hd:decide ((d:Int)<0)=false:=by simp
 go_enter Tryz.func50,Tryz.ntmps50
 go_wp2
 go_quiet (fail)
 go_wp2
 go_ret;exact ⟨rfl,_,rfl⟩
set_option maxHeartbeats 400000 in
theorem zGl{w:World}{b:Nat}{S:ByteArray}{s:St}{nest:Int}(h:zAL w b S s (-1) nest)(lo hi:Int)(hlo:0≤lo)(_hS:S.size≤400):
  Calls Tryz.prog 50 #[.pointer (some ⟨b,0,none⟩),.int .u8 lo,.int .u8 hi] w fun e w'=>e= .returned (.bool (zBo S s.i lo hi))∧∃n,w'=w.drewN n:=by
 obtain ⟨c0,c1,c2,c3,c4,c5,c6,fz⟩:=h.facts;generalize s.i=I at *
 by_cases hI:(I:Int)<S.size
 ·have hI':I<S.size:=by omega
  have E:Hid (zBo S I lo hi=(decide (lo≤(S[I].toNat:Int)) && decide ((S[I].toNat:Int)≤hi))):=by
   show _=_;simp only [zBo,zCQ hI']
  by_cases hl:lo≤S[I].toNat
  ·go_enter Tryz.func50,Tryz.ntmps50
   go_wp2
   go_quiet (fail)
   go_wp2
   go_ret;exact ⟨by rw [E.out];simp [hl],_,rfl⟩
  ·have hd:decide (lo≤S[I].toNat)=false:=by simpa using hl
   go_enter Tryz.func50,Tryz.ntmps50
   go_wp2
   go_quiet (fail)
   go_wp2
   go_ret;exact ⟨by rw [E.out];simp [hd],_,rfl⟩
 ·have E:Hid (zBo S I lo hi=false):=by
   show _=_
   rw [zBo,zDs (by omega)];simp;omega
  have hd:decide ((I:Int)<S.size)=false:=by simpa using hI
  have hd':decide (I<S.size)=false:=by simp;omega
  go_enter Tryz.func50,Tryz.ntmps50
  go_wp2
  go_quiet (fail)
  go_wp2
  go_ret;exact ⟨by rw [E.out];simp,_,rfl⟩
end Go.Proofs.YteobgfbgglfkbaaGreat
namespace Go.Proofs.YteobgfbgglfkbaaGreat
open Go.RowKit
def zAP(w:World)(b:Nat)(S:ByteArray)(d:Nat):Prop:=∃s nest,zAL w b S s d nest∧s.i≤S.size
theorem zAP.keep{w w':World}{b:Nat}{S:ByteArray}{d:Nat}{X:List Nat}(h:zAP w b S d)(g:Ch X w w')(hb:b∉X):zAP w' b S d:=by
 obtain ⟨s,nest,h1,h2⟩:=h;exact ⟨s,nest,h1.keep g hb,h2⟩
def runF(p:Int→Bool)(S:ByteArray):Nat→Nat→Nat
 |0,i=>i
 |n+1,i=>if p (bt S i) then runF p S n (i+1) else i
def run(p:Int→Bool)(S:ByteArray)(i:Nat):Nat:=runF p S (S.size - i) i
theorem zDi{p:Int→Bool}{S:ByteArray}{i:Nat}(hi:i<S.size)(h:p (bt S i)=true):run p S i=run p S (i+1):=by
 unfold run;rw [show S.size - i=(S.size - (i+1))+1 from by omega];simp [runF,h]
theorem zCH{p:Int→Bool}{S:ByteArray}{i:Nat}(h:p (bt S i)=false):run p S i=i:=by
 unfold run
 cases S.size - i <;>simp [runF,h]
theorem zMu(p:Int→Bool)(S:ByteArray):∀n i,i≤runF p S n i∧runF p S n i≤i+n
 |0,i=>by simp [runF]
 |n+1,i=>by
  have:=zMu p S n (i+1)
  unfold runF;split <;>omega
theorem zAW(p:Int→Bool)(S:ByteArray)(i:Nat)(h:i≤S.size):i≤run p S i∧run p S i≤S.size:=by
 have:=zMu p S (S.size - i) i;unfold run;omega
def isBl(c:Int):Bool:=c==32 || c==10
def isSm(c:Int):Bool:=decide (97≤c) && decide (c≤122)
theorem zHo{w:World}{b:Nat}{S:ByteArray}{d:Nat}(h:zAP w b S d)(lo hi:Int):
  Calls Tryz.prog 50 #[.pointer (some ⟨b,0,none⟩),.int .u8 lo,.int .u8 hi] w fun e w'=>e= .returned (.bool false)∧∃n,w'=w.drewN n:=by
 obtain ⟨s,nest,h1,h2⟩:=h;exact zM5 h1 lo hi
theorem zHT{w:World}{b:Nat}{S:ByteArray}{d:Nat}(h:zAP w b S d):
  Calls Tryz.prog 52 #[.pointer (some ⟨b,0,none⟩)] w fun e w'=>e= .returned (.tuple #[])∧zAP w' b S d∧Ch [b] w w':=by
 obtain ⟨s,nest,h1,h2⟩:=h;refine (zGv h1).mono ?_;rintro e w' ⟨rfl,h3,h4⟩;exact ⟨rfl,⟨s,nest,h3,h2⟩,h4⟩
theorem zGm{w:World}{b:Nat}{S:ByteArray}{d:Nat}(h:zAP w b S d)(wr:Bool)(e a:Int):
  Calls Tryz.prog 53 #[.pointer (some ⟨b,0,none⟩),.bool wr,.int .i64 e,.int .i64 a] w fun r w'=>r= .returned (.tuple #[])∧zAP w' b S d∧Ch [b] w w':=by
 obtain ⟨s,nest,h1,h2⟩:=h;refine (say_dead h1 wr e a).mono ?_;rintro e w' ⟨rfl,h3,h4⟩;exact ⟨rfl,⟨s,nest,h3,h2⟩,h4⟩
set_option maxHeartbeats 400000 in
theorem zDd{w:World}{b:Nat}{S:ByteArray}{d:Nat}(h:zAP w b S d)(c:Int):
  Calls Tryz.prog 99 #[.pointer (some ⟨b,0,none⟩),.int .u8 c] w fun e w'=>e= .returned (.bool false)∧zAP w' b S d∧Ch [b] w w':=by
 go_enter Tryz.func99,Tryz.ntmps99;go_wp2_with fail;refine (zHo h _ _).mono ?_;rintro e w1 ⟨rfl,n,rfl⟩;go_wp2_with fail;go_ret;exact ⟨rfl,h,Ch.drewN _ _ _⟩
set_option maxHeartbeats 400000 in
theorem zCA{w:World}{b:Nat}{S:ByteArray}{s:St}{nest:Int}(h:zAL w b S s (-1) nest)(c:Int)(hc:0≤c)(hS:S.size≤400)(hb:bt S s.i=c):
  Calls Tryz.prog 99 #[.pointer (some ⟨b,0,none⟩),.int .u8 c] w fun e w'=>e= .returned (.bool true)∧zAL w' b S {s with i:=s.i+1} (-1) nest∧Ch [b] w w':=by
 have hq:zBo S s.i c c=true:=by simp [zBo,hb]
 have hi:(s.i:Int)<400:=by have:=zAy (S:=S) (i:=s.i) (by omega);omega
 clear hb;obtain ⟨c0,c1,c2,c3,c4,c5,c6,fz⟩:=h.facts;go_enter Tryz.func99,Tryz.ntmps99;go_wp2_with fail;refine (zGl h _ _ hc hS).mono ?_;rintro e w1 ⟨rfl,n,rfl⟩;go_wp2_with fail;go_ret;exact ⟨rfl,(h.drewN n).set.1 (s.i+1),(Ch.drewN _ _ _).trans (Ch.setCell _ (by simp) _)⟩
set_option maxHeartbeats 400000 in
theorem zBc{w:World}{b:Nat}{S:ByteArray}{s:St}{nest:Int}(h:zAL w b S s (-1) nest)(c:Int)(hc:0≤c)(hS:S.size≤400)(hb:¬bt S s.i=c):
  Calls Tryz.prog 99 #[.pointer (some ⟨b,0,none⟩),.int .u8 c] w fun e w'=>e= .returned (.bool false)∧zAL w' b S s (-1) nest∧Ch [b] w w':=by
 have hq:zBo S s.i c c=false:=by simp [zBo];omega
 clear hb;obtain ⟨c0,c1,c2,c3,c4,c5,c6,fz⟩:=h.facts;go_enter Tryz.func99,Tryz.ntmps99;go_wp2_with fail;refine (zGl h _ _ hc hS).mono ?_;rintro e w1 ⟨rfl,n,rfl⟩;go_wp2_with fail;go_ret;exact ⟨rfl,h.drewN n,Ch.drewN _ _ _⟩
set_option maxHeartbeats 400000 in
theorem zDh{w:World}{b:Nat}{S:ByteArray}{s:St}{nest:Int}(h:zAL w b S s (-1) nest)(c:Int)(hc:0≤c)(hS:S.size≤400)(hb:bt S s.i=c):
  Calls Tryz.prog 63 #[.pointer (some ⟨b,0,none⟩),.int .u8 c] w fun e w'=>e= .returned (.tuple #[])∧zAL w' b S {s with i:=s.i+1} (-1) nest∧Ch [b] w w':=by
 have HB:=hide hb;clear hb;go_enter Tryz.func63,Tryz.ntmps63;go_wp2_with fail;refine (zCA h _ hc hS HB.out).mono ?_;rintro e w1 ⟨rfl,h1,g1⟩;go_wp2_with fail
 go_end0
 exact ⟨rfl,h1,g1⟩
set_option maxHeartbeats 400000 in
theorem zGU{w:World}{b:Nat}{S:ByteArray}{s:St}{nest:Int}(h:zAL w b S s (-1) nest)(c:Int)(hc:0≤c)(hS:S.size≤400)(hi:s.i≤S.size)(hb:¬bt S s.i=c):
  Calls Tryz.prog 63 #[.pointer (some ⟨b,0,none⟩),.int .u8 c] w fun e w'=>e= .returned (.tuple #[])∧zAP w' b S s.i∧Ch [b] w w':=by
 have HB:=hide hb;clear hb;go_enter Tryz.func63,Tryz.ntmps63;go_wp2_with fail;refine (zBc h _ hc hS HB.out).mono ?_;rintro e w1 ⟨rfl,h1,g1⟩;go_wp2_with fail;refine (zCk h1).mono ?_;rintro e w2 ⟨rfl,h2,g2⟩;go_wp2_with fail
 go_end0
 exact ⟨rfl,⟨s,nest,h2,hi⟩,g1.trans g2⟩
set_option maxHeartbeats 400000 in
theorem zD0{w:World}{b:Nat}{S:ByteArray}{d:Nat}(h:zAP w b S d)(c:Int):
  Calls Tryz.prog 63 #[.pointer (some ⟨b,0,none⟩),.int .u8 c] w fun e w'=>e= .returned (.tuple #[])∧zAP w' b S d∧Ch [b] w w':=by
 go_enter Tryz.func63,Tryz.ntmps63;go_wp2_with fail;refine (zDd h _).mono ?_;rintro e w1 ⟨rfl,h1,g1⟩;go_wp2_with fail;refine (zHT h1).mono ?_;rintro e w2 ⟨rfl,h2,g2⟩;go_wp2_with fail
 go_end0
 exact ⟨rfl,h2,g1.trans g2⟩
theorem zDU{w:World}{b:Nat}{S:ByteArray}{d:Nat}(h:zAP w b S d)(lo hi:Int):
  Calls Tryz.prog 50 #[.pointer (some ⟨b,0,none⟩),.int .u8 lo,.int .u8 hi] w fun e w'=>e= .returned (.bool false)∧zAP w' b S d∧Ch [b] w w':=by
 refine (zHo h lo hi).mono ?_;rintro e w' ⟨rfl,n,rfl⟩;exact ⟨rfl,h,Ch.drewN _ _ _⟩
theorem zAZ{w:World}{b:Nat}{S:ByteArray}{s:St}{nest:Int}(h:zAL w b S s (-1) nest)(lo hi:Int)(hlo:0≤lo)(hS:S.size≤400):
  Calls Tryz.prog 50 #[.pointer (some ⟨b,0,none⟩),.int .u8 lo,.int .u8 hi] w fun e w'=>e= .returned (.bool (zBo S s.i lo hi))∧zAL w' b S s (-1) nest∧Ch [b] w w':=by
 refine (zGl h lo hi hlo hS).mono ?_;rintro e w' ⟨rfl,n,rfl⟩;exact ⟨rfl,h,Ch.drewN _ _ _⟩
set_option maxHeartbeats 400000 in
theorem zBU{w:World}{b:Nat}{S:ByteArray}{d:Nat}(h:zAP w b S d):
  Calls Tryz.prog 29 #[.pointer (some ⟨b,0,none⟩)] w fun e w'=>e= .returned (.tuple #[])∧zAP w' b S d∧Ch [b] w w':=by
 go_enter Tryz.func29,Tryz.ntmps29;go_wp2_with fail
 go_loopw [] (fun w1=>zAP w1 b S d∧Ch [b] w w1) (fun _=>0)
 case atStart=>exact ⟨h,Ch.refl _ _⟩
 case round=>
  obtain ⟨h1,g1⟩:=hrel;go_wp2_with fail;refine (zDU h1 _ _).mono ?_;rintro e w2 ⟨rfl,h2,g2⟩;go_wp2_with fail;refine (zDU h2 _ _).mono ?_;rintro e w3 ⟨rfl,h3,g3⟩;go_wp2_with fail
  go_end0
  exact ⟨rfl,h3,g1.trans (g2.trans g3)⟩
theorem zCS{S:ByteArray}{i:Nat}{c:Int}:zBo S i c c=(bt S i==c):=by
 simp only [zBo];rw [Bool.eq_iff_iff];simp;omega
theorem zAL.bump{w:World}{b:Nat}{S:ByteArray}{s:St}{bad nest:Int}(h:zAL w b S s bad nest):zAL (w.setCell ⟨b,1,none⟩ (.int .i64 (s.i+1))) b S {s with i:=s.i+1} bad nest:=h.set.1 (s.i+1)
def penI(b:Nat)(w:World):Nat:=match w.cell? ⟨b,1,none⟩ with | some (.int _ q)=>q.toNat | _=>0
theorem zAL.penI{w:World}{b:Nat}{S:ByteArray}{s:St}{bad nest:Int}(h:zAL w b S s bad nest):penI b w=s.i:=by
 simp [Proofs.YteobgfbgglfkbaaGreat.penI,h.facts.2.1]
set_option maxHeartbeats 400000 in
theorem zAs{w:World}{b:Nat}{S:ByteArray}{s:St}{nest:Int}(h:zAL w b S s (-1) nest)(hi:s.i≤S.size)(hS:S.size≤400):
  Calls Tryz.prog 29 #[.pointer (some ⟨b,0,none⟩)] w fun e w'=>e= .returned (.tuple #[])∧zAL w' b S {s with i:=run isBl S s.i} (-1) nest∧Ch [b] w w':=by
 go_enter Tryz.func29,Tryz.ntmps29;go_wp2_with fail
 go_loopw [] (fun w1=>∃j:Nat,Hid (run isBl S s.i=run isBl S j)∧j≤S.size∧zAL w1 b S {s with i:=j} (-1) nest∧Ch [b] w w1) (fun w1=>S.size - penI b w1)
 case atStart=>exact ⟨s.i,rfl,hi,h,Ch.refl _ _⟩
 case round=>
  obtain ⟨j,hj,hjs,h1,g1⟩:=hrel
  by_cases hb:bt S j=32
  ·have hq:zBo S j 32 32=true:=by simp [zCS,hb]
   have hlt:j<S.size:=zAy (by omega);have HR:Hid (run isBl S s.i=run isBl S (j+1)):=hj.out.trans (zDi hlt (by simp [isBl,hb]));clear hb hj;go_wp2_with fail;refine (zAZ h1 _ _ (by omega) hS).mono ?_;rintro e w2 ⟨rfl,h2,g2⟩;obtain ⟨c0,c1,c2,c3,c4,c5,c6,fz⟩:=h2.facts;go_wp2_with fail;go_roundw
   case rel=>exact ⟨j+1,HR,hlt,h2.set.1 (j+1),g1.trans (g2.trans (Ch.setCell _ (by simp) _))⟩
   case measure=>rw [h1.penI,h2.bump.penI];simp;omega
  ·have hq:zBo S j 32 32=false:=by simp [zCS,hb]
   by_cases hc:bt S j=10
   ·have hq2:zBo S j 10 10=true:=by simp [zCS,hc]
    have hlt:j<S.size:=zAy (by omega);have HR:Hid (run isBl S s.i=run isBl S (j+1)):=hj.out.trans (zDi hlt (by simp [isBl,hc]));clear hb hj hc;go_wp2_with fail;refine (zAZ h1 _ _ (by omega) hS).mono ?_;rintro e w2 ⟨rfl,h2,g2⟩;go_wp2_with fail;refine (zAZ h2 _ _ (by omega) hS).mono ?_;rintro e w3 ⟨rfl,h3,g3⟩;obtain ⟨c0,c1,c2,c3,c4,c5,c6,fz⟩:=h3.facts;go_wp2_with fail;go_roundw
    case rel=>exact ⟨j+1,HR,hlt,h3.set.1 (j+1),g1.trans (g2.trans (g3.trans (Ch.setCell _ (by simp) _)))⟩
    case measure=>rw [h1.penI,h3.bump.penI];simp;omega
   ·have hq2:zBo S j 10 10=false:=by simp [zCS,hc]
    have HR:Hid (run isBl S s.i=j):=hj.out.trans (zCH (by simp [isBl,hb,hc]));clear hb hj hc;go_wp2_with fail;refine (zAZ h1 _ _ (by omega) hS).mono ?_;rintro e w2 ⟨rfl,h2,g2⟩;go_wp2_with fail;refine (zAZ h2 _ _ (by omega) hS).mono ?_;rintro e w3 ⟨rfl,h3,g3⟩;go_wp2_with fail
    go_end0
    exact ⟨rfl,by rw [HR.out];exact h3,g1.trans (g2.trans g3)⟩
set_option maxHeartbeats 400000 in
theorem zDg{w:World}{b:Nat}{S:ByteArray}{d:Nat}(h:zAP w b S d)(c:Int):
  Calls Tryz.prog 58 #[.pointer (some ⟨b,0,none⟩),.int .u8 c] w fun e w'=>e= .returned (.tuple #[])∧zAP w' b S d∧Ch [b] w w':=by
 go_enter Tryz.func58,Tryz.ntmps58;go_wp2_with fail;refine (zBU h).mono ?_;rintro e w1 ⟨rfl,h1,g1⟩;go_wp2_with fail;refine (zD0 h1 _).mono ?_;rintro e w2 ⟨rfl,h2,g2⟩;go_wp2_with fail
 go_end0
 exact ⟨rfl,h2,g1.trans g2⟩
def St.skip(S:ByteArray)(s:St):St:={s with i:=run isBl S s.i}
set_option maxHeartbeats 400000 in
theorem zL6{w:World}{b:Nat}{S:ByteArray}{s:St}{nest:Int}(h:zAL w b S s (-1) nest)(c:Int)(hc:0≤c)(hS:S.size≤400)(hi:s.i≤S.size)(hb:bt S (run isBl S s.i)=c):
  Calls Tryz.prog 58 #[.pointer (some ⟨b,0,none⟩),.int .u8 c] w fun e w'=>e= .returned (.tuple #[])∧zAL w' b S {s with i:=run isBl S s.i+1} (-1) nest∧Ch [b] w w':=by
 have HB:=hide hb;clear hb;go_enter Tryz.func58,Tryz.ntmps58;go_wp2_with fail;refine (zAs h hi hS).mono ?_;rintro e w1 ⟨rfl,h1,g1⟩;go_wp2_with fail;refine (zDh h1 _ hc hS HB.out).mono ?_;rintro e w2 ⟨rfl,h2,g2⟩;go_wp2_with fail
 go_end0
 exact ⟨rfl,h2,g1.trans g2⟩
set_option maxHeartbeats 400000 in
theorem zMi{w:World}{b:Nat}{S:ByteArray}{s:St}{nest:Int}(h:zAL w b S s (-1) nest)(c:Int)(hc:0≤c)(hS:S.size≤400)(hi:s.i≤S.size)(hb:¬bt S (run isBl S s.i)=c):
  Calls Tryz.prog 58 #[.pointer (some ⟨b,0,none⟩),.int .u8 c] w fun e w'=>e= .returned (.tuple #[])∧zAP w' b S (run isBl S s.i)∧Ch [b] w w':=by
 have HB:=hide hb;clear hb;go_enter Tryz.func58,Tryz.ntmps58;go_wp2_with fail;refine (zAs h hi hS).mono ?_;rintro e w1 ⟨rfl,h1,g1⟩;go_wp2_with fail;refine (zGU h1 _ hc hS (zAW _ _ _ hi).2 HB.out).mono ?_;rintro e w2 ⟨rfl,h2,g2⟩;go_wp2_with fail
 go_end0
 exact ⟨rfl,h2,g1.trans g2⟩
set_option maxHeartbeats 400000 in
theorem zH3{w:World}{b:Nat}{S:ByteArray}{d:Nat}(h:zAP w b S d)(c:Int):
  Calls Tryz.prog 56 #[.pointer (some ⟨b,0,none⟩),.int .u8 c] w fun e w'=>e= .returned (.bool false)∧zAP w' b S d∧Ch [b] w w':=by
 go_enter Tryz.func56,Tryz.ntmps56;go_wp2_with fail;refine (zBU h).mono ?_;rintro e w1 ⟨rfl,h1,g1⟩;go_wp2_with fail;refine (zDU h1 _ _).mono ?_;rintro e w2 ⟨rfl,h2,g2⟩;go_wp2_with fail;go_ret;exact ⟨rfl,h2,g1.trans g2⟩
set_option maxHeartbeats 400000 in
theorem zFy{w:World}{b:Nat}{S:ByteArray}{s:St}{nest:Int}(h:zAL w b S s (-1) nest)(c:Int)(hc:0≤c)(hS:S.size≤400)(hi:s.i≤S.size):
  Calls Tryz.prog 56 #[.pointer (some ⟨b,0,none⟩),.int .u8 c] w fun e w'=>e= .returned (.bool (bt S (run isBl S s.i)==c))∧zAL w' b S {s with i:=run isBl S s.i} (-1) nest∧Ch [b] w w':=by
 go_enter Tryz.func56,Tryz.ntmps56;go_wp2_with fail;refine (zAs h hi hS).mono ?_;rintro e w1 ⟨rfl,h1,g1⟩;go_wp2_with fail;refine (zAZ h1 _ _ hc hS).mono ?_;rintro e w2 ⟨rfl,h2,g2⟩;go_wp2_with fail;go_ret;exact ⟨by rw [← zCS];rfl,h2,g1.trans g2⟩
end Go.Proofs.YteobgfbgglfkbaaGreat
namespace Go.Proofs.YteobgfbgglfkbaaGreat
open Go.RowKit
set_option maxHeartbeats 400000 in
theorem zDn{w:World}{b:Nat}{S:ByteArray}{s:St}{nest:Int}(h:zAL w b S s (-1) nest)(hS:S.size≤400)(hi:s.i≤S.size):
  Calls Tryz.prog 51 #[.pointer (some ⟨b,0,none⟩)] w fun e w'=>e= .returned (.string (S.extract (run isBl S s.i) (run isSm S (run isBl S s.i))))∧zAL w' b S {s with i:=run isBl S s.i} (-1) nest∧Ch [b] w w':=by
 go_enter Tryz.func51,Tryz.ntmps51;go_wp2_with fail;refine (zAs h hi hS).mono ?_;rintro e w1 ⟨rfl,h1,g1⟩;have hi1:=(zAW isBl S s.i hi).2;generalize hG:run isBl S s.i=I at *;have HG:=hide hG;clear h hG;obtain ⟨c0,c1,c2,c3,c4,c5,c6,fz⟩:=h1.facts;go_wp2_with fail
 go_loop [3] (fun k=>∃j:Nat,k= .int .i64 j∧Hid (run isSm S I=run isSm S j)∧I≤j∧j≤S.size) (fun k=>S.size - (intOf k).toNat)
 case atStart=>exact ⟨I,rfl,rfl,Nat.le_refl _,hi1⟩
 case round=>
  obtain ⟨j,rfl,hj,hIj,hjs⟩:=hrel
  have fin:Hid (run isSm S I=j→∀nq,(Ending.returned (.string (S.extract I j))=Ending.returned (.string (S.extract (run isBl S s.i) (run isSm S (run isBl S s.i))))∧zAL (w1.drewN nq) b S {s with i:=run isBl S s.i} (-1) nest∧Ch [b] w (w1.drewN nq))):=by
   intro hr nq;rw [HG.out,hr];exact ⟨rfl,h1.drewN nq,g1.trans (Ch.drewN _ _ _)⟩
  by_cases hlt:(j:Int)<S.size
  ·have hlt':j<S.size:=by omega
   by_cases ha:(97:Int)≤S[j].toNat
   ·by_cases hz:(S[j].toNat:Int)≤122
    ·have HR:Hid (run isSm S I=run isSm S (j+1)):=hj.out.trans (zDi hlt' (by rw [← zCQ hlt'];simp [isSm,ha,hz]))
     go_wp2_with fail
     go_round
     case rel=>exact ⟨j+1,by go_num,HR,by omega,by omega⟩
     case measure=>simp [intOf];omega
    ·have HR:Hid (run isSm S I=j):=hj.out.trans (zCH (by rw [← zCQ hlt'];simp [isSm];omega))
     go_wp2_with fail;go_quiet (fail)
     go_wp2
     go_ret;exact fin.out HR.out _
   ·have HR:Hid (run isSm S I=j):=hj.out.trans (zCH (by rw [← zCQ hlt'];simp [isSm];omega))
    go_wp2_with fail;go_quiet (fail)
    go_wp2
    go_ret;exact fin.out HR.out _
  ·have HR:Hid (run isSm S I=j):=hj.out.trans (zCH (by rw [zDs (by omega)];simp [isSm]))
   go_wp2_with fail;go_quiet (fail)
   go_wp2
   go_ret;exact fin.out HR.out _
set_option maxHeartbeats 400000 in
theorem zH9{w:World}{b:Nat}{S:ByteArray}{d:Nat}(h:zAP w b S d)(_hS:S.size≤400):
  Calls Tryz.prog 51 #[.pointer (some ⟨b,0,none⟩)] w fun e w'=>e= .returned (.string ByteArray.empty)∧zAP w' b S d∧Ch [b] w w':=by
 go_enter Tryz.func51,Tryz.ntmps51;go_wp2_with fail;refine (zBU h).mono ?_;rintro e w1 ⟨rfl,h1,g1⟩;obtain ⟨s,nest,h2,h3⟩:=h1;obtain ⟨c0,c1,c2,c3,c4,c5,c6,fz⟩:=h2.facts
 have hd:decide ((d:Int)<0)=false:=by simp
 generalize hI:s.i=I at c1 h3;have HI:=hide hI;clear hI;go_wp2_with fail
 go_loop [3] (fun k=>k= .int .i64 I) (fun _=>0)
 case atStart=>rfl
 case round=>
  subst hrel;go_wp2_with fail;go_quiet (fail)
  go_wp2
  go_ret;exact ⟨by simp,⟨s,nest,h2.drewN _,HI.out ▸ h3⟩,g1.trans (Ch.drewN _ _ _)⟩
def zCT(w:World)(r:Nat)(L:List ByteArray):Prop:=w.heap[r]? =some (.cells (L.map Value.string).toArray 9)
theorem zCT.lt{w:World}{r:Nat}{L:List ByteArray}(h:zCT w r L):r<w.heap.size:=by
 rcases Nat.lt_or_ge r w.heap.size with h' | h'
 ·exact h'
 ·simp [zCT,Array.getElem?_eq_none h'] at h
theorem zCT.keep{w w':World}{r:Nat}{L:List ByteArray}{X:List Nat}(h:zCT w r L)(g:Ch X w w')(hb:r∉X):zCT w' r L:=(g.block r h.lt hb).trans h
theorem zCT.cell{w:World}{r:Nat}{L:List ByteArray}(h:zCT w r L)(k:Nat)(hk:k<L.length):w.cell? ⟨r,k,none⟩=some (.string L[k]):=by
 unfold zCT at h;simp [World.cell?,h,hk]
def zC4(L:List ByteArray)(x:ByteArray)(k:Nat):Prop:=∀t,(h:t<L.length)→t<k→L[t]≠x
set_option maxHeartbeats 400000 in
theorem word_yes{w:World}{b:Nat}{S:ByteArray}{s:St}{nest:Int}(h:zAL w b S s (-1) nest)(hS:S.size≤400)(hi:s.i≤S.size)
  {r:Nat} {L:List ByteArray} (hr:zCT w r L) (hrb:r≠b) (hL:L.length≤10) (hin:S.extract (run isBl S s.i) (run isSm S (run isBl S s.i))∈L) (cap:Nat):
  Calls Tryz.prog 30 #[.pointer (some ⟨b,0,none⟩),.slice (some ⟨r,0,none⟩) L.length cap] w fun e w'=>e= .returned (.tuple #[.string (S.extract (run isBl S s.i) (run isSm S (run isBl S s.i))),.int .i64 (run isBl S s.i)])∧zAL w' b S {s with i:=run isSm S (run isBl S s.i)} (-1) nest∧Ch [b] w w':=by
 go_enter Tryz.func30,Tryz.ntmps30;go_wp2_with fail;refine (zDn h hS hi).mono ?_;rintro e w1 ⟨rfl,h1,g1⟩;have hr1:=hr.keep g1 (by simpa using hrb);have hi1:=(zAW isBl S s.i hi).2;have hi2:=(zAW isSm S _ hi1);generalize hG:run isBl S s.i=I at *;have HG:=hide hG;clear h hG hr;generalize hJ:run isSm S I=J at *;have HJ:=hide hJ;clear hJ;generalize hX:S.extract I J=X at *;have HX:=hide hX
 have hXs:(X.size:Int)=J - I:=by rw [← hX];simp;omega
 clear hX;obtain ⟨c0,c1,c2,c3,c4,c5,c6,fz⟩:=h1.facts;go_wp2_with fail
 go_loop [8] (fun k=>∃j:Nat,k= .int .i64 j∧j≤L.length∧Hid (zC4 L X j)) (fun k=>L.length - (intOf k).toNat)
 case atStart=>exact ⟨0,rfl,Nat.zero_le _,fun t _ h=>by omega⟩
 case round=>
  obtain ⟨j,rfl,hjs,hno⟩:=hrel
  by_cases hlt:(j:Int)<L.length
  ·have hlt':j<L.length:=by omega
   have hc:=hr1.cell j hlt'
   by_cases hq:L[j]=X
   ·obtain ⟨q1,q2⟩:=zCe hq
    clear hq;go_wp2_with fail;go_ret2;rw [HG.out,HJ.out,HX.out,show (I:Int)+((J:Int) - I)=J from by omega];exact ⟨rfl,h1.set.1 J,g1.trans (Ch.setCell _ (by simp) _)⟩
   ·obtain ⟨q1,q2⟩:=zBy hq
    have H2:Hid (zC4 L X (j+1)):=by
     intro t ht h1
     by_cases e:t=j
     ·subst e;exact hq
     ·exact hno.out t ht (by omega)
    clear hq;go_wp2_with fail
    go_round
    case rel=>exact ⟨j+1,by go_num,by omega,H2⟩
    case measure=>simp [intOf];omega
  ·exfalso
   obtain ⟨t,ht,e⟩:=List.getElem_of_mem hin;exact hno.out t ht (by omega) e
set_option maxHeartbeats 400000 in
theorem word_no{w:World}{b:Nat}{S:ByteArray}{s:St}{nest:Int}(h:zAL w b S s (-1) nest)(hS:S.size≤400)(hi:s.i≤S.size)
  {r:Nat} {L:List ByteArray} (hr:zCT w r L) (hrb:r≠b) (hL:L.length≤10) (hin:S.extract (run isBl S s.i) (run isSm S (run isBl S s.i))∉L) (cap:Nat):
  Calls Tryz.prog 30 #[.pointer (some ⟨b,0,none⟩),.slice (some ⟨r,0,none⟩) L.length cap] w fun e w'=>e= .returned (.tuple #[.string ByteArray.empty,.int .i64 (run isBl S s.i)])∧zAP w' b S (run isBl S s.i)∧Ch [b] w w':=by
 go_enter Tryz.func30,Tryz.ntmps30;go_wp2_with fail;refine (zDn h hS hi).mono ?_;rintro e w1 ⟨rfl,h1,g1⟩;have hr1:=hr.keep g1 (by simpa using hrb);have hi1:=(zAW isBl S s.i hi).2;generalize hG:run isBl S s.i=I at *;have HG:=hide hG;clear h hG hr;generalize hX:S.extract I (run isSm S I)=X at *;clear hX;have HN:=hide hin;clear hin;obtain ⟨c0,c1,c2,c3,c4,c5,c6,fz⟩:=h1.facts;go_wp2_with fail
 go_loop [8] (fun k=>∃j:Nat,k= .int .i64 j∧j≤L.length) (fun k=>L.length - (intOf k).toNat)
 case atStart=>exact ⟨0,rfl,Nat.zero_le _⟩
 case round=>
  obtain ⟨j,rfl,hjs⟩:=hrel
  by_cases hlt:(j:Int)<L.length
  ·have hlt':j<L.length:=by omega
   have hc:=hr1.cell j hlt';obtain ⟨q1,q2⟩:=zBy (a:=L[j]) (b:=X) (fun e=>HN.out (e ▸ List.getElem_mem hlt'));go_wp2_with fail
   go_round
   case rel=>exact ⟨j+1,by go_num,by omega⟩
   case measure=>simp [intOf];omega
  ·go_wp2_with fail
   refine (zCk h1).mono ?_;rintro e w2 ⟨rfl,h2,g2⟩;go_wp2_with fail;go_ret2;rw [HG.out];exact ⟨rfl,⟨_,_,h2,hi1⟩,g1.trans g2⟩
set_option maxHeartbeats 400000 in
theorem zOL{w:World}{b:Nat}{S:ByteArray}{d:Nat}(h:zAP w b S d)(hS:S.size≤400)
  {r:Nat} {L:List ByteArray} (hr:zCT w r L) (hrb:r≠b) (hL:L.length≤10) (hin:ByteArray.empty∉L) (cap:Nat):
  Calls Tryz.prog 30 #[.pointer (some ⟨b,0,none⟩),.slice (some ⟨r,0,none⟩) L.length cap] w fun e w'=>(∃a:Int,e= .returned (.tuple #[.string ByteArray.empty,.int .i64 a]))∧zAP w' b S d∧Ch [b] w w':=by
 go_enter Tryz.func30,Tryz.ntmps30;go_wp2_with fail;refine (zH9 h hS).mono ?_;rintro e w1 ⟨rfl,h1,g1⟩;have hr1:=hr.keep g1 (by simpa using hrb);obtain ⟨s1,nest1,p1,hi1⟩:=h1;obtain ⟨c0,c1,c2,c3,c4,c5,c6,fz⟩:=p1.facts;generalize hX:ByteArray.empty=X at *;clear hX hr;have HN:=hide hin;clear hin;go_wp2_with fail
 go_loop [8] (fun k=>∃j:Nat,k= .int .i64 j∧j≤L.length) (fun k=>L.length - (intOf k).toNat)
 case atStart=>exact ⟨0,rfl,Nat.zero_le _⟩
 case round=>
  obtain ⟨j,rfl,hjs⟩:=hrel
  by_cases hlt:(j:Int)<L.length
  ·have hlt':j<L.length:=by omega
   have hc:=hr1.cell j hlt';obtain ⟨q1,q2⟩:=zBy (a:=L[j]) (b:=X) (fun e=>HN.out (e ▸ List.getElem_mem hlt'));go_wp2_with fail
   go_round
   case rel=>exact ⟨j+1,by go_num,by omega⟩
   case measure=>simp [intOf];omega
  ·go_wp2_with fail
   refine (zGv p1).mono ?_;rintro e w2 ⟨rfl,h2,g2⟩;go_wp2_with fail;go_ret2;exact ⟨⟨_,rfl⟩,⟨_,_,h2,hi1⟩,g1.trans g2⟩
def zCx:List ByteArray:=[⟨#[115,99,114,117,98]⟩,⟨#[115,119,97,112]⟩,⟨#[116,111]⟩,⟨#[110,111,110,101]⟩,⟨#[98,121,116,101]⟩,⟨#[117,112,112,101,114]⟩,⟨#[108,111,119,101,114]⟩,⟨#[99,104,97,105,110]⟩,⟨#[110,101,118,101,114]⟩,⟨#[115,97,109,101]⟩]
end Go.Proofs.YteobgfbgglfkbaaGreat
namespace Go.Proofs.YteobgfbgglfkbaaGreat
open Go.RowKit
def zBK(c:Int)(l:ByteArray):Bool:=l.data.toList.any fun x=>(x.toNat:Int)==c
theorem zHY{c:Int}{l:ByteArray}:zBK c l=true↔∃t,∃h:t<l.size,(l[t].toNat:Int)=c:=by
 unfold zBK;rw [List.any_eq_true]
 constructor
 ·rintro ⟨x,hx,e⟩
  obtain ⟨t,ht,e2⟩:=List.getElem_of_mem hx;refine ⟨t,by simpa using ht,?_⟩;subst e2;exact eq_of_beq e
 ·rintro ⟨t,ht,e⟩
  exact ⟨l[t],List.getElem_mem (l:=l.data.toList) (n:=t) (by simpa using ht),by simpa using e⟩
set_option maxHeartbeats 400000 in
theorem zJQ{w:World}(c:Int)(l:ByteArray)(hl:l.size≤400)(hc:zBK c l=true):
  Calls Tryz.prog 96 #[.int .u8 c,.string l] w fun e w'=>e= .returned (.bool true)∧w'=w:=by
 have HC:=hide hc;clear hc;go_enter Tryz.func96,Tryz.ntmps96;go_wp2_with fail
 go_loop [5] (fun k=>∃j:Nat,k= .int .i64 j∧j≤l.size∧Hid (∀t,(h:t<l.size)→t<j→(l[t].toNat:Int)≠c)) (fun k=>l.size - (intOf k).toNat)
 case atStart=>exact ⟨0,rfl,Nat.zero_le _,fun t _ h=>by omega⟩
 case round=>
  obtain ⟨j,rfl,hjs,hno⟩:=hrel
  by_cases hlt:(j:Int)<l.size
  ·have hlt':j<l.size:=by omega
   by_cases hq:(l[j].toNat:Int)=c
   ·have q1:((l[j].toNat:Int)==c)=true:=by simp [hq]
    clear hq;go_wp2_with fail;go_ret;exact ⟨rfl,rfl⟩
   ·have q1:((l[j].toNat:Int)==c)=false:=by simp [hq]
    have H2:Hid (∀t,(h:t<l.size)→t<j+1→(l[t].toNat:Int)≠c):=by
     intro t ht h1
     by_cases e:t=j
     ·subst e;exact hq
     ·exact hno.out t ht (by omega)
    clear hq;go_wp2_with fail
    go_round
    case rel=>exact ⟨j+1,by go_num,by omega,H2⟩
    case measure=>simp [intOf];omega
  ·exfalso
   obtain ⟨t,ht,e⟩:=zHY.1 HC.out;exact hno.out t ht (by omega) e
set_option maxHeartbeats 400000 in
theorem zLJ{w:World}(c:Int)(l:ByteArray)(hl:l.size≤400)(hc:zBK c l=false):
  Calls Tryz.prog 96 #[.int .u8 c,.string l] w fun e w'=>e= .returned (.bool false)∧w'=w:=by
 have HC:=hide hc;clear hc;go_enter Tryz.func96,Tryz.ntmps96;go_wp2_with fail
 go_loop [5] (fun k=>∃j:Nat,k= .int .i64 j∧j≤l.size) (fun k=>l.size - (intOf k).toNat)
 case atStart=>exact ⟨0,rfl,Nat.zero_le _⟩
 case round=>
  obtain ⟨j,rfl,hjs⟩:=hrel
  by_cases hlt:(j:Int)<l.size
  ·have hlt':j<l.size:=by omega
   have q1:((l[j].toNat:Int)==c)=false:=by
    rw [beq_eq_false_iff_ne];intro e;have:=HC.out;rw [zHY.2 ⟨j,hlt',e⟩] at this;simp at this
   go_wp2_with fail
   go_round
   case rel=>exact ⟨j+1,by go_num,by omega⟩
   case measure=>simp [intOf];omega
  ·go_wp2_with fail
   go_ret;exact ⟨rfl,rfl⟩
def zCu(c:Int):Bool:=(decide (48≤c) && decide (c≤57)) || (decide (97≤c) && decide (c≤102))
def hexV(c:Int):Int:=if c≤57 then c - 48 else c - 97+10
set_option maxHeartbeats 400000 in
theorem zJ1{w:World}{b:Nat}{S:ByteArray}{s:St}{nest:Int}(h:zAL w b S s (-1) nest)(hS:S.size≤400)(hx:zCu (bt S s.i)=true):
  Calls Tryz.prog 188 #[.pointer (some ⟨b,0,none⟩)] w fun e w'=>e= .returned (.int .i64 (hexV (bt S s.i)))∧zAL w' b S {s with i:=s.i+1} (-1) nest∧Ch [b] w w':=by
 have hlt:s.i<S.size:=zAy (by simp [zCu] at hx;omega)
 have hi:(s.i:Int)<400:=by omega
 have hlt2:(s.i:Int)<S.size:=by omega
 have hin:=zCQ hlt;have HI:=hide hin
 have hbd:(S[s.i].toNat:Int)<256:=by have:=bt_bd S s.i;omega
 by_cases h9:bt S s.i≤57
 ·have hq:zBo S s.i 48 57=true:=by simp [zCu] at hx;simp [zBo];omega
  have hq2:zBo S s.i 97 102=false:=by simp [zBo];omega
  have HV:Hid (hexV (bt S s.i)=S[s.i].toNat - 48):=by show _=_;rw [hexV,if_pos h9,hin]
  clear h9 hin hx;go_enter Tryz.func188,Tryz.ntmps188;go_wp2_with fail;refine (zAZ h _ _ (by omega) hS).mono ?_;rintro e w1 ⟨rfl,h1,g1⟩;go_wp2_with fail;refine (zAZ h1 _ _ (by omega) hS).mono ?_;rintro e w2 ⟨rfl,h2,g2⟩;obtain ⟨c0,c1,c2,c3,c4,c5,c6,fz⟩:=h2.facts;go_wp2_with fail;go_quiet (fail)
  go_wp2
  go_ret;exact ⟨by rw [HV.out];rfl,h2.bump,g1.trans (g2.trans ((Ch.drewN _ _ _).trans (Ch.setCell _ (by simp) _)))⟩
 ·have hq:zBo S s.i 48 57=false:=by simp [zBo];omega
  have hq2:zBo S s.i 97 102=true:=by simp [zCu] at hx;simp [zBo];omega
  have HV:Hid (hexV (bt S s.i)=S[s.i].toNat - 97+10):=by show _=_;rw [hexV,if_neg h9,hin]
  clear h9 hin hx;go_enter Tryz.func188,Tryz.ntmps188;go_wp2_with fail;refine (zAZ h _ _ (by omega) hS).mono ?_;rintro e w1 ⟨rfl,h1,g1⟩;go_wp2_with fail;refine (zAZ h1 _ _ (by omega) hS).mono ?_;rintro e w2 ⟨rfl,h2,g2⟩;obtain ⟨c0,c1,c2,c3,c4,c5,c6,fz⟩:=h2.facts;go_wp2_with fail;go_quiet (fail)
  go_wp2
  go_ret;exact ⟨by rw [HV.out];rfl,h2.bump,g1.trans (g2.trans ((Ch.drewN _ _ _).trans (Ch.setCell _ (by simp) _)))⟩
set_option maxHeartbeats 400000 in
theorem hex_no{w:World}{b:Nat}{S:ByteArray}{s:St}{nest:Int}(h:zAL w b S s (-1) nest)(hS:S.size≤400)(hi:s.i≤S.size)(hx:zCu (bt S s.i)=false):
  Calls Tryz.prog 188 #[.pointer (some ⟨b,0,none⟩)] w fun e w'=>e= .returned (.int .i64 0)∧zAP w' b S s.i∧Ch [b] w w':=by
 have hq:zBo S s.i 48 57=false:=by simp [zCu] at hx;simp [zBo];omega
 have hq2:zBo S s.i 97 102=false:=by simp [zCu] at hx;simp [zBo];omega
 clear hx;go_enter Tryz.func188,Tryz.ntmps188;go_wp2_with fail;refine (zAZ h _ _ (by omega) hS).mono ?_;rintro e w1 ⟨rfl,h1,g1⟩;go_wp2_with fail;refine (zAZ h1 _ _ (by omega) hS).mono ?_;rintro e w2 ⟨rfl,h2,g2⟩;go_wp2_with fail;refine (zCk h2).mono ?_;rintro e w3 ⟨rfl,h3,g3⟩;go_wp2_with fail;go_ret;exact ⟨rfl,⟨_,_,h3,hi⟩,g1.trans (g2.trans g3)⟩
set_option maxHeartbeats 400000 in
theorem hex_dead{w:World}{b:Nat}{S:ByteArray}{d:Nat}(h:zAP w b S d):
  Calls Tryz.prog 188 #[.pointer (some ⟨b,0,none⟩)] w fun e w'=>e= .returned (.int .i64 0)∧zAP w' b S d∧Ch [b] w w':=by
 go_enter Tryz.func188,Tryz.ntmps188;go_wp2_with fail;refine (zDU h _ _).mono ?_;rintro e w1 ⟨rfl,h1,g1⟩;go_wp2_with fail;refine (zDU h1 _ _).mono ?_;rintro e w2 ⟨rfl,h2,g2⟩;go_wp2_with fail;refine (zHT h2).mono ?_;rintro e w3 ⟨rfl,h3,g3⟩;go_wp2_with fail;go_ret;exact ⟨rfl,h3,g1.trans (g2.trans g3)⟩
def zAO(S:ByteArray)(lo:Int)(but:ByteArray)(s:St):Except Nat (Int×St):=
 if bt S s.i=92 then
  if zCu (bt S (s.i+1)) then
   if zCu (bt S (s.i+2)) then .ok (16 * hexV (bt S (s.i+1))+hexV (bt S (s.i+2)),{s with i:=s.i+3}) else .error (s.i+2)
  else .error (s.i+1)
 else if (decide (lo≤bt S s.i) && decide (bt S s.i≤126)) && !zBK (bt S s.i) but then .ok (bt S s.i,{s with i:=s.i+1}) else .error s.i
theorem zCn{c:Int}(h:zCu c=true):0≤hexV c∧hexV c≤15:=by
 simp [zCu] at h;unfold hexV;split <;>omega
theorem zDP{c:Int}(h:zCu c=true):0≤c:=by simp [zCu] at h;omega
theorem zAv{S:ByteArray}{lo:Int}{but:ByteArray}{s s':St}{c:Int}(hlo:0≤lo)(h:zAO S lo but s= .ok (c,s')):
  s.i<s'.i∧s'.i≤S.size∧0≤c∧c≤255∧s'.e=s.e∧s'.a=s.a∧s'.k=s.k:=by
 unfold zAO at h
 split at h
 ·split at h
  ·split at h
   ·rename_i h1 h2 h3
    have b1:=zCn h2;have b2:=zCn h3;have l3:=zAy (zDP h3)
    injection h with h
    injection h with e1 e2
    subst e1 e2;refine ⟨by simp <;>omega,by simp <;>omega,by omega,by omega,rfl,rfl,rfl⟩
   ·cases h
  ·cases h
 ·split at h
  ·rename_i h1 h2
   simp at h2;have l3:=zAy (S:=S) (i:=s.i) (by omega)
   injection h with h
   injection h with e1 e2
   subst e1 e2;refine ⟨by simp,by simp;omega,by omega,by omega,rfl,rfl,rfl⟩
  ·cases h
theorem zEb{S:ByteArray}{lo:Int}{but:ByteArray}{s:St}{d:Nat}(hi:s.i≤S.size)(h:zAO S lo but s= .error d):d≤S.size:=by
 unfold zAO at h
 split at h
 ·rename_i h1
  have l1:=zAy (S:=S) (i:=s.i) (by omega)
  split at h
  ·rename_i h2
   have l2:=zAy (zDP h2)
   split at h
   ·cases h
   ·injection h with h;omega
  ·injection h with h;omega
 ·split at h
  ·cases h
  ·injection h with h;omega
set_option maxHeartbeats 400000 in
theorem zOg{w:World}{b:Nat}{S:ByteArray}{s:St}{nest:Int}(h:zAL w b S s (-1) nest)(hS:S.size≤400)(lo:Int)(but:ByteArray)(h92:bt S s.i=92)(hx:zCu (bt S (s.i+1))=true)(hy:zCu (bt S (s.i+2))=true):
  Calls Tryz.prog 144 #[.pointer (some ⟨b,0,none⟩),.int .u8 lo,.string but] w fun e w'=>e= .returned (.int .u8 (16 * hexV (bt S (s.i+1))+hexV (bt S (s.i+2))))∧zAL w' b S {s with i:=s.i+3} (-1) nest∧Ch [b] w w':=by
 have bd1:=zCn hx;have bd2:0≤hexV (bt S (s.i+1+1))∧hexV (bt S (s.i+1+1))≤15:=zCn hy;have H92:=hide h92;have HX:=hide hx;have HY:=hide hy;clear h92 hx hy;obtain ⟨b1,b2⟩:=bd1;obtain ⟨b3,b4⟩:=bd2;go_enter Tryz.func144,Tryz.ntmps144;go_wp2_with fail;refine (zCA h _ (by omega) hS H92.out).mono ?_;rintro e w1 ⟨rfl,h1,g1⟩;go_wp2_with fail;refine (zJ1 h1 hS HX.out).mono ?_;rintro e w2 ⟨rfl,h2,g2⟩;go_wp2_with fail;refine (zJ1 h2 hS HY.out).mono ?_;rintro e w3 ⟨rfl,h3,g3⟩;go_wp2_with fail;go_ret;refine ⟨?_,h3,g1.trans (g2.trans g3)⟩;generalize hexV (bt S (s.i+1))=x at *
 show Ending.returned (.int .u8 _)= .returned (.int .u8 (16 * x+hexV (bt S (s.i+1+1))))
 generalize hexV (bt S (s.i+1+1))=y at *
 have:(16 * x+y) % 256=16 * x+y:=by omega
 simp
set_option maxHeartbeats 400000 in
theorem zNw{w:World}{b:Nat}{S:ByteArray}{s:St}{nest:Int}(h:zAL w b S s (-1) nest)(hS:S.size≤400)(lo:Int)(but:ByteArray)(h92:bt S s.i=92)(hx:zCu (bt S (s.i+1))=true)(hy:zCu (bt S (s.i+2))=false):
  Calls Tryz.prog 144 #[.pointer (some ⟨b,0,none⟩),.int .u8 lo,.string but] w fun e w'=>(∃c:Int,0≤c∧c≤255∧e= .returned (.int .u8 c))∧zAP w' b S (s.i+2)∧Ch [b] w w':=by
 obtain ⟨b1,b2⟩:=zCn hx;have l2:=zAy (zDP hx);have H92:=hide h92;have HX:=hide hx;have HY:=hide hy;clear h92 hx hy;go_enter Tryz.func144,Tryz.ntmps144;go_wp2_with fail;refine (zCA h _ (by omega) hS H92.out).mono ?_;rintro e w1 ⟨rfl,h1,g1⟩;go_wp2_with fail;refine (zJ1 h1 hS HX.out).mono ?_;rintro e w2 ⟨rfl,h2,g2⟩;go_wp2_with fail;refine (hex_no h2 hS l2 HY.out).mono ?_;rintro e w3 ⟨rfl,h3,g3⟩;go_wp2_with fail;go_ret;exact ⟨⟨_,by omega,by omega,rfl⟩,h3,g1.trans (g2.trans g3)⟩
set_option maxHeartbeats 400000 in
theorem zOO{w:World}{b:Nat}{S:ByteArray}{s:St}{nest:Int}(h:zAL w b S s (-1) nest)(hS:S.size≤400)(lo:Int)(but:ByteArray)(h92:bt S s.i=92)(hx:zCu (bt S (s.i+1))=false):
  Calls Tryz.prog 144 #[.pointer (some ⟨b,0,none⟩),.int .u8 lo,.string but] w fun e w'=>(∃c:Int,0≤c∧c≤255∧e= .returned (.int .u8 c))∧zAP w' b S (s.i+1)∧Ch [b] w w':=by
 have l1:=zAy (S:=S) (i:=s.i) (by omega);have H92:=hide h92;have HX:=hide hx;clear h92 hx;go_enter Tryz.func144,Tryz.ntmps144;go_wp2_with fail;refine (zCA h _ (by omega) hS H92.out).mono ?_;rintro e w1 ⟨rfl,h1,g1⟩;go_wp2_with fail;refine (hex_no h1 hS l1 HX.out).mono ?_;rintro e w2 ⟨rfl,h2,g2⟩;go_wp2_with fail;refine (hex_dead h2).mono ?_;rintro e w3 ⟨rfl,h3,g3⟩;go_wp2_with fail;go_ret;exact ⟨⟨0,by omega,by omega,rfl⟩,h3,g1.trans (g2.trans g3)⟩
set_option maxHeartbeats 400000 in
theorem letter_p{w:World}{b:Nat}{S:ByteArray}{s:St}{nest:Int}(h:zAL w b S s (-1) nest)(hS:S.size≤400)(lo:Int)(hlo:0≤lo)(but:ByteArray)(hbut:but.size≤400)(h92:¬bt S s.i=92)(h1:lo≤bt S s.i)(h2:bt S s.i≤126)(h3:zBK (bt S s.i) but=false):
  Calls Tryz.prog 144 #[.pointer (some ⟨b,0,none⟩),.int .u8 lo,.string but] w fun e w'=>e= .returned (.int .u8 (bt S s.i))∧zAL w' b S {s with i:=s.i+1} (-1) nest∧Ch [b] w w':=by
 have hq:zBo S s.i lo 126=true:=by simp [zBo,h1,h2]
 have l1:=zAy (S:=S) (i:=s.i) (by omega)
 have l2:(s.i:Int)<S.size:=by omega
 have l3:(s.i:Int)<400:=by omega
 have HB:=hide (zCQ l1)
 have H3:Hid (zBK (S[s.i].toNat:Int) but=false):=by show _=_;rw [zCQ l1];exact h3
 have H92:=hide h92;clear h92 h1 h2 h3;go_enter Tryz.func144,Tryz.ntmps144;go_wp2_with fail;refine (zBc h _ (by omega) hS H92.out).mono ?_;rintro e w1 ⟨rfl,h1,g1⟩;go_wp2_with fail;refine (zAZ h1 _ _ hlo hS).mono ?_;rintro e w2 ⟨rfl,h2,g2⟩;obtain ⟨c0,c1,c2,c3,c4,c5,c6,fz⟩:=h2.facts;go_wp2_with fail;go_quiet ((go_at_call 96;exact Calls.quiet_of_same (zLJ _ _ hbut H3.out)));go_wp2_with fail;go_quiet (fail);go_wp2_with fail;go_ret;rw [← HB.out];exact ⟨rfl,h2.bump,g1.trans (g2.trans ((Ch.drewN _ _ _).trans ((Ch.setCell _ (by simp) _).trans (Ch.drewN _ _ _))))⟩
set_option maxHeartbeats 400000 in
theorem letter_n{w:World}{b:Nat}{S:ByteArray}{s:St}{nest:Int}(h:zAL w b S s (-1) nest)(hS:S.size≤400)(hi:s.i≤S.size)(lo:Int)(hlo:0≤lo)(but:ByteArray)(hbut:but.size≤400)(h92:¬bt S s.i=92)(h1:¬((lo≤bt S s.i∧bt S s.i≤126)∧zBK (bt S s.i) but=false)):
  Calls Tryz.prog 144 #[.pointer (some ⟨b,0,none⟩),.int .u8 lo,.string but] w fun e w'=>(∃c:Int,0≤c∧c≤255∧e= .returned (.int .u8 c))∧zAP w' b S s.i∧Ch [b] w w':=by
 have H92:=hide h92;clear h92
 by_cases h2:lo≤bt S s.i∧bt S s.i≤126
 ·have hq:zBo S s.i lo 126=true:=by simp [zBo,h2]
  have l1:=zAy (S:=S) (i:=s.i) (by omega)
  have l2:(s.i:Int)<S.size:=by omega
  have H3:Hid (zBK (S[s.i].toNat:Int) but=true):=by
   show _=_;rw [zCQ l1]
   cases hh:zBK (bt S s.i) but
   ·exact absurd ⟨h2,hh⟩ h1
   ·rfl
  clear h1 h2;go_enter Tryz.func144,Tryz.ntmps144;go_wp2_with fail;refine (zBc h _ (by omega) hS H92.out).mono ?_;rintro e w1 ⟨rfl,h1,g1⟩;go_wp2_with fail;refine (zAZ h1 _ _ hlo hS).mono ?_;rintro e w2 ⟨rfl,h2,g2⟩;obtain ⟨c0,c1,c2,c3,c4,c5,c6,fz⟩:=h2.facts;go_wp2_with fail;go_quiet ((go_at_call 96;exact Calls.quiet_of_same (zJQ _ _ hbut H3.out)));go_wp2_with fail;refine (zCk (h2.drewN _)).mono ?_;rintro e w3 ⟨rfl,h3,g3⟩;go_wp2_with fail;go_ret;exact ⟨⟨0,by omega,by omega,rfl⟩,⟨_,_,h3,hi⟩,g1.trans (g2.trans ((Ch.drewN _ _ _).trans g3))⟩
 ·have hq:zBo S s.i lo 126=false:=by simp [zBo];omega
  clear h1 h2;go_enter Tryz.func144,Tryz.ntmps144;go_wp2_with fail;refine (zBc h _ (by omega) hS H92.out).mono ?_;rintro e w1 ⟨rfl,h1,g1⟩;go_wp2_with fail;refine (zAZ h1 _ _ hlo hS).mono ?_;rintro e w2 ⟨rfl,h2,g2⟩;go_wp2_with fail;go_quiet (fail);go_wp2_with fail;refine (zCk (h2.drewN _)).mono ?_;rintro e w3 ⟨rfl,h3,g3⟩;go_wp2_with fail;go_ret;exact ⟨⟨0,by omega,by omega,rfl⟩,⟨_,_,h3,hi⟩,g1.trans (g2.trans ((Ch.drewN _ _ _).trans g3))⟩
theorem zCB{w:World}{b:Nat}{S:ByteArray}{s s':St}{nest:Int}(h:zAL w b S s (-1) nest)(hS:S.size≤400){lo:Int}(hlo:0≤lo){but:ByteArray}(hbut:but.size≤400){c:Int}(hr:zAO S lo but s= .ok (c,s')):
  Calls Tryz.prog 144 #[.pointer (some ⟨b,0,none⟩),.int .u8 lo,.string but] w fun e w'=>e= .returned (.int .u8 c)∧zAL w' b S s' (-1) nest∧Ch [b] w w':=by
 unfold zAO at hr
 split at hr
 ·rename_i h92
  split at hr
  ·rename_i hx
   split at hr
   ·rename_i hy
    injection hr with hr
    injection hr with e1 e2
    subst e1 e2;exact zOg h hS lo but h92 hx hy
   ·cases hr
  ·cases hr
 ·rename_i h92
  split at hr
  ·rename_i hp
   injection hr with hr
   injection hr with e1 e2
   subst e1 e2;simp at hp;exact letter_p h hS lo hlo but hbut h92 hp.1.1 hp.1.2 hp.2
  ·cases hr
theorem zEG{w:World}{b:Nat}{S:ByteArray}{s:St}{nest:Int}(h:zAL w b S s (-1) nest)(hS:S.size≤400)(hi:s.i≤S.size){lo:Int}(hlo:0≤lo){but:ByteArray}(hbut:but.size≤400){d:Nat}(hr:zAO S lo but s= .error d):
  Calls Tryz.prog 144 #[.pointer (some ⟨b,0,none⟩),.int .u8 lo,.string but] w fun e w'=>(∃c:Int,0≤c∧c≤255∧e= .returned (.int .u8 c))∧zAP w' b S d∧Ch [b] w w':=by
 unfold zAO at hr
 split at hr
 ·rename_i h92
  split at hr
  ·rename_i hx
   split at hr
   ·cases hr
   ·rename_i hy
    injection hr with hr
    subst hr;exact zNw h hS lo but h92 hx (by simpa using hy)
  ·rename_i hx
   injection hr with hr
   subst hr;exact zOO h hS lo but h92 (by simpa using hx)
 ·rename_i h92
  split at hr
  ·cases hr
  ·rename_i hp
   injection hr with hr
   subst hr;simp at hp;exact letter_n h hS hi lo hlo but hbut h92 (by rintro ⟨⟨a1,a2⟩,a3⟩;rw [hp a1 a2] at a3;cases a3)
end Go.Proofs.YteobgfbgglfkbaaGreat
namespace Go.Proofs.YteobgfbgglfkbaaGreat
open Go.RowKit
theorem zAH(w:World)(o:Obj):(w.alloc o).heap[w.heap.size]? =some o:=by
 show (w.heap.push o)[w.heap.size]? =_
 simp
def zBH(a b:ByteArray):Bool:=a.data.toList==b.data.toList
theorem zA8{a b:ByteArray}:zBH a b=true↔a=b:=by
 constructor
 ·intro h
  cases a;cases b;simp [zBH] at h;simp [h]
 ·rintro rfl
  simp [zBH]
def anyB(L:List ByteArray)(x:ByteArray):Bool:=L.any fun k=>zBH k x
theorem zBY{L:List ByteArray}{x:ByteArray}:anyB L x=true↔x∈L:=by
 unfold anyB;rw [List.any_eq_true]
 constructor
 ·rintro ⟨k,hk,e⟩
  rw [zA8] at e;exact e ▸ hk
 ·intro h
  exact ⟨x,h,zA8.2 rfl⟩
theorem zEi{L:List ByteArray}{x:ByteArray}:anyB L x=false↔x∉L:=by
 rw [← zBY];simp
set_option maxHeartbeats 400000 in
theorem zIJ{w:World}(x:ByteArray):
  Calls Tryz.prog 92 #[.string x] w fun e w'=>e= .returned (.bool (anyB zCx x))∧Ch [] w w':=by
 go_enter Tryz.func92,Tryz.ntmps92;go_wp2_with fail
 go_loopw [4] (fun k w1=>∃j:Nat,k= .int .i64 j∧j≤10∧Hid (zC4 zCx x j)∧w1.heap[w.heap.size]? =some (.cells (zCx.map Value.string).toArray 251)∧Ch [] w w1) (fun k _=>10 - (intOf k).toNat)
 case atStart=>exact ⟨0,rfl,by omega,fun t _ h=>by omega,zAH _ _,Ch.alloc _ _ _⟩
 case round=>
  obtain ⟨j,rfl,hjs,hno,hB,g1⟩:=hrel
  by_cases hlt:(j:Int)<10
  ·have hlt':j<zCx.length:=by show j<10;omega
   have hc:wr.cell? ⟨w.heap.size,j,none⟩=some (.string zCx[j]):=by simp [World.cell?,hB,hlt']
   generalize hN:w.heap.size=N at *;have HN:=hide hN;clear hN
   by_cases hq:zCx[j]=x
   ·have HR:Hid (anyB zCx x=true):=zBY.2 (hq ▸ List.getElem_mem hlt')
    obtain ⟨q1,q2⟩:=zCe hq;clear hq hB;generalize zCx[j]=y at *;go_wp2_with fail;go_ret;exact ⟨by rw [HR.out];rfl,g1⟩
   ·have H2:Hid (zC4 zCx x (j+1)):=by
     intro t ht h1
     by_cases e:t=j
     ·subst e;exact hq
     ·exact hno.out t ht (by omega)
    obtain ⟨q1,q2⟩:=zBy hq;have HB:=hide hB;clear hq hB;generalize zCx[j]=y at *;go_wp2_with fail;go_roundw
    case rel=>exact ⟨j+1,by go_num,by omega,H2,HN.out ▸ HB.out,g1⟩
    case measure=>simp [intOf];omega
  ·have HR:Hid (anyB zCx x=false):=by
    refine zEi.2 (fun hm=> ?_);obtain ⟨t,ht,e⟩:=List.getElem_of_mem hm;exact hno.out t ht (by have:zCx.length=10:=rfl;omega) e
   clear hB;go_wp2_with fail;go_ret;exact ⟨by rw [HR.out];rfl,g1⟩
theorem zEa{X:ByteArray}(h:X.size=0):X.toList.isEmpty=true∧X.toList=[]:=by
 have:X.toList=[]:=by rw [zCI];apply List.eq_nil_of_length_eq_zero;simpa using h
 simp [this]
theorem zIs{X:ByteArray}(h:¬X.size=0):X.toList.isEmpty=false∧¬X.toList=[]:=by
 have:¬X.toList=[]:=by
  rw [zCI];intro e;apply h;have:=congrArg List.length e
  simpa using this
 simp [this]
def zAx(S:ByteArray)(s:St):Except Nat ((ByteArray×Nat)×St):=
 let i:=run isBl S s.i
 let x:=S.extract i (run isSm S i)
 if x.size=0∨anyB zCx x=true∨8<x.size then .error i else .ok ((x,i),{s with i:=run isSm S i})
set_option maxHeartbeats 400000 in
theorem name_ok{w:World}{b:Nat}{S:ByteArray}{s s':St}{nest:Int}(h:zAL w b S s (-1) nest)(hS:S.size≤400)(hi:s.i≤S.size){x:ByteArray}{a:Nat}(hr:zAx S s= .ok ((x,a),s')):
  Calls Tryz.prog 54 #[.pointer (some ⟨b,0,none⟩)] w fun e w'=>e= .returned (.tuple #[.string x,.int .i64 a])∧zAL w' b S s' (-1) nest∧Ch [b] w w':=by
 have hi1:=(zAW isBl S s.i hi).2;have hi2:=(zAW isSm S _ hi1);unfold zAx at hr;simp only at hr
 split at hr
 ·cases hr
 rename_i hn
 injection hr with hr
 injection hr with e1 e2
 injection e1 with e0 e1
 subst e0 e1 e2;generalize hG:run isBl S s.i=I at *;have HG:=hide hG;clear hG;generalize hJ:run isSm S I=J at *;have HJ:=hide hJ;clear hJ;generalize hX:S.extract I J=X at *;have HX:=hide hX
 have hXs:(X.size:Int)=J - I:=by rw [← hX];simp;omega
 have hk:anyB zCx X=false:=by cases hh:anyB zCx X <;>simp_all
 obtain ⟨q1,q2⟩:=zIs (X:=X) (fun h0=>hn (Or.inl h0))
 have h8:(J:Int) - I≤8:=by omega
 have h8':¬(8:Int)<J - I:=by omega
 clear hX hn;go_enter Tryz.func54,Tryz.ntmps54;go_wp2_with fail;refine (zDn h hS hi).mono ?_;rintro e w1 ⟨rfl,h1,g1⟩;rw [HG.out,HJ.out,HX.out];rw [HG.out] at h1;obtain ⟨c0,c1,c2,c3,c4,c5,c6,fz⟩:=h1.facts;go_wp2_with fail;refine (zIJ _).mono ?_;rintro e w2 ⟨rfl,g2⟩;have h2:=h1.keep g2 (by simp);obtain ⟨d0,d1,d2,d3,d4,d5,d6,fz2⟩:=h2.facts;clear c0 c1 c2 c3 c4 c5 c6 fz;go_wp2_with fail;go_ret2;rw [show (I:Int)+((J:Int) - I)=J from by omega];exact ⟨rfl,h2.set.1 J,g1.trans ((g2.mono (by simp)).trans (Ch.setCell _ (by simp) _))⟩
set_option maxHeartbeats 400000 in
theorem name_err{w:World}{b:Nat}{S:ByteArray}{s:St}{nest:Int}(h:zAL w b S s (-1) nest)(hS:S.size≤400)(hi:s.i≤S.size){d:Nat}(hr:zAx S s= .error d):
  Calls Tryz.prog 54 #[.pointer (some ⟨b,0,none⟩)] w fun e w'=>(∃a:Int,e= .returned (.tuple #[.string ByteArray.empty,.int .i64 a]))∧zAP w' b S d∧Ch [b] w w':=by
 have hi1:=(zAW isBl S s.i hi).2;have hi2:=(zAW isSm S _ hi1);unfold zAx at hr;simp only at hr
 split at hr
 rotate_left
 ·cases hr
 rename_i hn
 injection hr with hr
 subst hr;generalize hG:run isBl S s.i=I at *;have HG:=hide hG;clear hG;generalize hJ:run isSm S I=J at *;have HJ:=hide hJ;clear hJ;generalize hX:S.extract I J=X at *;have HX:=hide hX
 have hXs:(X.size:Int)=J - I:=by rw [← hX];simp;omega
 clear hX;have HN:=hide hn
 by_cases h0:X.size=0
 ·obtain ⟨q1,q2⟩:=zEa h0
  clear hn h0;go_enter Tryz.func54,Tryz.ntmps54;go_wp2_with fail;refine (zDn h hS hi).mono ?_;rintro e w1 ⟨rfl,h1,g1⟩;rw [HG.out,HJ.out,HX.out];rw [HG.out] at h1;obtain ⟨c0,c1,c2,c3,c4,c5,c6,fz⟩:=h1.facts;go_wp2_with fail;refine (zCk h1).mono ?_;rintro e w2 ⟨rfl,h2,g2⟩;go_wp2_with fail;go_ret2;exact ⟨⟨_,rfl⟩,⟨_,_,h2,hi1⟩,g1.trans g2⟩
 ·obtain ⟨q1,q2⟩:=zIs h0
  cases hk:anyB zCx X
  ·have h8:(8:Int)<J - I:=by
    rcases HN.out with a | a | a
    ·exact absurd a h0
    ·rw [hk] at a;cases a
    ·omega
   clear hn h0;go_enter Tryz.func54,Tryz.ntmps54;go_wp2_with fail;refine (zDn h hS hi).mono ?_;rintro e w1 ⟨rfl,h1,g1⟩;rw [HG.out,HJ.out,HX.out];rw [HG.out] at h1;obtain ⟨c0,c1,c2,c3,c4,c5,c6,fz⟩:=h1.facts;go_wp2_with fail;refine (zIJ _).mono ?_;rintro e w2 ⟨rfl,g2⟩;go_wp2_with fail;refine (zCk (h1.keep g2 (by simp))).mono ?_;rintro e w3 ⟨rfl,h3,g3⟩;go_wp2_with fail;go_ret2;exact ⟨⟨_,rfl⟩,⟨_,_,h3,hi1⟩,g1.trans ((g2.mono (by simp)).trans g3)⟩
  ·clear hn h0
   go_enter Tryz.func54,Tryz.ntmps54;go_wp2_with fail;refine (zDn h hS hi).mono ?_;rintro e w1 ⟨rfl,h1,g1⟩;rw [HG.out,HJ.out,HX.out];rw [HG.out] at h1;obtain ⟨c0,c1,c2,c3,c4,c5,c6,fz⟩:=h1.facts;go_wp2_with fail;refine (zIJ _).mono ?_;rintro e w2 ⟨rfl,g2⟩;go_wp2_with fail;refine (zCk (h1.keep g2 (by simp))).mono ?_;rintro e w3 ⟨rfl,h3,g3⟩;go_wp2_with fail;go_ret2;exact ⟨⟨_,rfl⟩,⟨_,_,h3,hi1⟩,g1.trans ((g2.mono (by simp)).trans g3)⟩
set_option maxHeartbeats 400000 in
theorem zNF{w:World}{b:Nat}{S:ByteArray}{d:Nat}(h:zAP w b S d)(hS:S.size≤400):
  Calls Tryz.prog 54 #[.pointer (some ⟨b,0,none⟩)] w fun e w'=>(∃a:Int,e= .returned (.tuple #[.string ByteArray.empty,.int .i64 a]))∧zAP w' b S d∧Ch [b] w w':=by
 go_enter Tryz.func54,Tryz.ntmps54;go_wp2_with fail;refine (zH9 h hS).mono ?_;rintro e w1 ⟨rfl,h1,g1⟩;obtain ⟨s1,nest1,p1,hi1⟩:=h1;obtain ⟨c0,c1,c2,c3,c4,c5,c6,fz⟩:=p1.facts;obtain ⟨q1,q2⟩:=zEa (X:=ByteArray.empty) rfl;go_wp2_with fail;refine (zGv p1).mono ?_;rintro e w2 ⟨rfl,h2,g2⟩;go_wp2_with fail;go_ret2;exact ⟨⟨_,rfl⟩,⟨_,_,h2,hi1⟩,g1.trans g2⟩
theorem zEJ{S:ByteArray}{s s':St}{x:ByteArray}{a:Nat}(hi:s.i≤S.size)(h:zAx S s= .ok ((x,a),s')):
  s.i≤a∧a<s'.i∧s'.i≤S.size∧s'.e=s.e∧s'.a=s.a∧s'.k=s.k:=by
 have hi1:=(zAW isBl S s.i hi);have hi2:=(zAW isSm S _ hi1.2);unfold zAx at h;simp only at h
 split at h
 ·cases h
 ·rename_i hn
  injection h with h
  injection h with e1 e2
  injection e1 with e0 e1
  subst e0 e1 e2;refine ⟨hi1.1,?_,hi2.2,rfl,rfl,rfl⟩
  have:¬(S.extract (run isBl S s.i) (run isSm S (run isBl S s.i))).size=0:=fun h0=>hn (Or.inl h0)
  simp at this
  show _<run isSm S (run isBl S s.i)
  omega
end Go.Proofs.YteobgfbgglfkbaaGreat
namespace Go.Proofs.YteobgfbgglfkbaaGreat
open Go.RowKit
theorem convert1(W:World)(N:Nat)(c:Int)(h:W.cell? ⟨N,0,none⟩=some (.int .u8 c)):
  Sem.run Tryz.prog (convert 124 9 (.slice (some ⟨N,0,none⟩) 1 1)) W= .ok (.string ⟨#[UInt8.ofNat c.toNat]⟩) W:=by
 rw [run_convert_bytes_string W 124 9 5 _ _ _ Tryz.underlying124 Tryz.underlying5 Tryz.underlying9];rw [run_bytesToString W _ 1 1 [c] (by simp [loadCells,h,go_sem])]
 try rfl
theorem zEw(w:World)(c:Int):
  Sem.run Tryz.prog (convert 124 9 (.slice (some ⟨w.heap.size,0,none⟩) 1 1)) (w.alloc (.cells #[.int .u8 c] 5))= .ok (.string ⟨#[UInt8.ofNat c.toNat]⟩) (w.alloc (.cells #[.int .u8 c] 5)):=
 convert1 _ _ _ (by simp only [World.cell?,zAH];rfl)
def penM(b N:Nat)(w:World):Nat:=match w.cell? ⟨b,2,none⟩ with | some (.int _ q)=>if q<0 then N+1 - penI b w else 0 | _=>0
theorem zAL.penM{w:World}{b N:Nat}{S:ByteArray}{s:St}{nest:Int}(h:zAL w b S s (-1) nest):penM b N w=N+1 - s.i:=by
 simp [Proofs.YteobgfbgglfkbaaGreat.penM,h.facts.2.2.1,h.penI]
theorem zAP.penM{w:World}{b N:Nat}{S:ByteArray}{d:Nat}(h:zAP w b S d):penM b N w=0:=by
 obtain ⟨s,nest,p,hi⟩:=h;simp [Proofs.YteobgfbgglfkbaaGreat.penM,p.facts.2.2.1];omega
def zBs:ByteArray:=⟨#[34,92]⟩
def zCK(S:ByteArray):Nat→St→ByteArray→Except Nat (ByteArray×St)
 |0,s,_=> .error s.i
 |n+1,s,acc=>
  if bt S s.i=34 then .ok (acc,{s with i:=s.i+1})
  else match zAO S 32 zBs s with
   |.ok (c,s')=>zCK S n s' (acc++⟨#[UInt8.ofNat c.toNat]⟩)
   |.error d=> .error d
def zBW(S:ByteArray)(s:St):Except Nat ((ByteArray×Nat)×St):=
 let i:=run isBl S s.i
 if bt S i=34 then
  match zCK S (S.size+1) {s with i:=i+1} ByteArray.empty with
  |.ok (x,s')=> .ok ((x,i),s')
  |.error d=> .error d
 else .error i
set_option maxHeartbeats 400000 in
theorem zOm{w:World}{b:Nat}{S:ByteArray}{d:Nat}(h:zAP w b S d):
  Calls Tryz.prog 93 #[.pointer (some ⟨b,0,none⟩)] w fun e w'=>(∃a:Int,e= .returned (.tuple #[.string ByteArray.empty,.int .i64 a]))∧zAP w' b S d∧Ch [b] w w':=by
 go_enter Tryz.func93,Tryz.ntmps93;go_wp2_with fail;refine (zBU h).mono ?_;rintro e w1 ⟨rfl,h1,g1⟩;have h1':=h1;obtain ⟨s1,nest1,p1,hi1⟩:=h1';obtain ⟨c0,c1,c2,c3,c4,c5,c6,fz⟩:=p1.facts;go_wp2_with fail;refine (zD0 h1 _).mono ?_;rintro e w2 ⟨rfl,h2,g2⟩;have h2':=h2;obtain ⟨s2,nest2,p2,hi2⟩:=h2';obtain ⟨d0,d1,d2,d3,d4,d5,d6,fz2⟩:=p2.facts;clear c0 c1 c2 c3 c4 c5 c6 fz
 have hd:¬(d:Int)<0:=by omega
 go_wp2_with fail
 go_loop [] (True) (0)
 case atStart=>trivial
 case round=>
  go_wp2_with fail;go_ret2;exact ⟨⟨_,rfl⟩,h2,g1.trans g2⟩
theorem zKh{S:ByteArray}:∀n (s:St) acc,s.i≤S.size→
  match zCK S n s acc with
  |.ok (_,s')=>s.i<s'.i∧s'.i≤S.size∧s'.e=s.e∧s'.a=s.a∧s'.k=s.k
  |.error d=>d≤S.size:=by
 intro n
 induction n with
 |zero=>intro s acc hi;simpa [zCK] using hi
 |succ n ih=>
  intro s acc hi;unfold zCK
  by_cases hq:bt S s.i=34
  ·have:=zAy (S:=S) (i:=s.i) (by omega)
   simp [hq];omega
  ·simp only [hq,if_false]
   cases hl:zAO S 32 zBs s with
   |error d=>exact zEb hi hl
   |ok p=>
    obtain ⟨c,s1⟩:=p;have h1:=zAv (by omega) hl;have h2:=ih s1 (acc++⟨#[UInt8.ofNat c.toNat]⟩) h1.2.1;simp only;generalize zCK S n s1 _=r at *
    cases r with
    |error d=>exact h2
    |ok p=>
     obtain ⟨x,s2⟩:=p;simp only at h2 ⊢;obtain ⟨a1,a2,a3,a4,a5⟩:=h2;obtain ⟨b1,b2,b3,b4,b5,b6,b7⟩:=h1;exact ⟨by omega,a2,a3.trans b5,a4.trans b6,a5.trans b7⟩
set_option maxRecDepth 100000 in
set_option maxHeartbeats 800000 in
theorem text_ok{w:World}{b:Nat}{S:ByteArray}{s s':St}{nest:Int}(h:zAL w b S s (-1) nest)(hS:S.size≤400)(hi:s.i≤S.size){X:ByteArray}{A:Nat}(hr:zBW S s= .ok ((X,A),s')):
  Calls Tryz.prog 93 #[.pointer (some ⟨b,0,none⟩)] w fun e w'=>e= .returned (.tuple #[.string X,.int .i64 A])∧zAL w' b S s' (-1) nest∧Ch [b] w w':=by
 have hi1:=(zAW isBl S s.i hi);unfold zBW at hr;simp only at hr
 split at hr
 rotate_left
 ·cases hr
 rename_i hq
 split at hr
 rotate_left
 ·cases hr
 rename_i x0 s0 HF0
 injection hr with hr
 injection hr with e1 e2
 injection e1 with e0 e1
 subst e0 e1 e2;have hlt:=zAy (S:=S) (i:=run isBl S s.i) (by omega);have HF:=hide HF0;have HQ:=hide hq;clear hq HF0;go_enter Tryz.func93,Tryz.ntmps93;go_wp2_with fail;refine (zAs h hi hS).mono ?_;rintro e w1 ⟨rfl,h1,g1⟩;generalize hI:run isBl S s.i=I at *;have HI:=hide hI;clear hI;obtain ⟨c0,c1,c2,c3,c4,c5,c6,fz⟩:=h1.facts;go_wp2_with fail;refine (zDh h1 _ (by omega) hS HQ.out).mono ?_;rintro e w2 ⟨rfl,h2,g2⟩;clear c0 c1 c2 c3 c4 c5 c6 fz;have g12:=g1.trans g2;go_wp2_with fail
 go_loopw [5,6,7] (fun acc _ _ w3=>∃(x:ByteArray) (n:Nat) (s3:St),acc= .string x∧x.size+1≤s3.i∧S.size<n+s3.i∧s3.i≤S.size∧zAL w3 b S s3 (-1) nest∧Ch [b] w w3∧Hid (zCK S n s3 x= .ok (x0,s0))) (fun _ _ _ w3=>S.size - penI b w3)
 case atStart=>exact ⟨ByteArray.empty,S.size+1,_,rfl,by simp,by simp;omega,by show I+1≤_;omega,h2,g12,HF⟩
 case round=>
  obtain ⟨x,n,s3,rfl,hx,hn,hi3,h3,g3,HF⟩:=hrel;obtain ⟨n,rfl⟩:∃m,n=m+1:=⟨n - 1,by omega⟩;obtain ⟨c0,c1,c2,c3,c4,c5,c6,fz⟩:=h3.facts
  by_cases hq:bt S s3.i=34
  ·have HR:Hid (x=x0∧({s3 with i:=s3.i+1}:St)=s0):=by
    have:=HF.out;simp [zCK,hq] at this;exact this
   have HQ3:=hide hq;clear hq;go_wp2_with fail;refine (zCA h3 _ (by omega) hS HQ3.out).mono ?_;rintro e w4 ⟨rfl,h4,g4⟩;go_wp2_with fail;go_ret2;rw [HI.out,← HR.out.1,← HR.out.2];exact ⟨rfl,h4,g3.trans g4⟩
  ·have HQ3:=hide hq
   cases hl:zAO S 32 zBs s3 with
   |error d=>exfalso;have:=HF.out;simp [zCK,hq,hl] at this
   |ok p=>
    obtain ⟨c,s4⟩:=p
    have HF4:Hid (zCK S n s4 (x++⟨#[UInt8.ofNat c.toNat]⟩)= .ok (x0,s0)):=by
     have:=HF.out;simp only [zCK,hq,hl,if_false] at this;exact this
    have HL:=hide hl;have hb:=zAv (by omega) hl;obtain ⟨b1,b2,b3,b4,_,_,_⟩:=hb;clear hq hl HF;go_wp2_with fail;refine (zBc h3 _ (by omega) hS HQ3.out).mono ?_;rintro e w4 ⟨rfl,h4,g4⟩;go_wp2_with fail;refine (zCB (but:=zBs) h4 hS (by omega) (by show 2≤400;omega) HL.out).mono ?_;rintro e w5 ⟨rfl,h5,g5⟩;have hcv:=zEw w5 c;clear c0 c1 c2 c3 c4 c5 c6 fz;go_wp2_with fail;go_roundw
    case rel=>exact ⟨_,n,s4,rfl,by rw [ByteArray.size_append];show _+1+1≤_;omega,by omega,b2,h5.keep (Ch.alloc [] _ _) (by simp),(g3.trans (g4.trans g5)).trans (Ch.alloc _ _ _),HF4⟩
    case measure=>rw [h3.penI,(h5.keep (Ch.alloc [] _ _) (by simp)).penI];omega
set_option maxHeartbeats 800000 in
theorem text_err{w:World}{b:Nat}{S:ByteArray}{s:St}{nest:Int}(h:zAL w b S s (-1) nest)(hS:S.size≤400)(hi:s.i≤S.size){D:Nat}(hr:zBW S s= .error D):
  Calls Tryz.prog 93 #[.pointer (some ⟨b,0,none⟩)] w fun e w'=>(∃a:Int,e= .returned (.tuple #[.string ByteArray.empty,.int .i64 a]))∧zAP w' b S D∧Ch [b] w w':=by
 have hi1:=(zAW isBl S s.i hi);unfold zBW at hr;simp only at hr
 split at hr
 ·rename_i hq
  split at hr
  ·cases hr
  rename_i d0 HF0
  injection hr with hr
  subst hr;have hlt:=zAy (S:=S) (i:=run isBl S s.i) (by omega);have HF:=hide HF0;have HQ:=hide hq;clear hq HF0;go_enter Tryz.func93,Tryz.ntmps93;go_wp2_with fail;refine (zAs h hi hS).mono ?_;rintro e w1 ⟨rfl,h1,g1⟩;generalize hI:run isBl S s.i=I at *;clear hI;obtain ⟨c0,c1,c2,c3,c4,c5,c6,fz⟩:=h1.facts;go_wp2_with fail;refine (zDh h1 _ (by omega) hS HQ.out).mono ?_;rintro e w2 ⟨rfl,h2,g2⟩;clear c0 c1 c2 c3 c4 c5 c6 fz;have g12:=g1.trans g2;go_wp2_with fail
  go_loopw [5,6,7] (fun acc _ _ w3=>Ch [b] w w3∧((∃(x:ByteArray) (n:Nat) (s3:St),acc= .string x∧x.size+1≤s3.i∧S.size<n+s3.i∧s3.i≤S.size∧zAL w3 b S s3 (-1) nest∧Hid (zCK S n s3 x= .error d0))∨((∃x,acc= .string x)∧zAP w3 b S d0))) (fun _ _ _ w3=>penM b S.size w3)
  case atStart=>exact ⟨g12,Or.inl ⟨ByteArray.empty,S.size+1,_,rfl,by simp,by simp;omega,by show I+1≤_;omega,h2,HF⟩⟩
  case round=>
   obtain ⟨g3,⟨x,n,s3,rfl,hx,hn,hi3,h3,HF⟩ | ⟨⟨x,rfl⟩,h3⟩⟩:=hrel
   ·obtain ⟨n,rfl⟩:∃m,n=m+1:=⟨n - 1,by omega⟩
    obtain ⟨c0,c1,c2,c3,c4,c5,c6,fz⟩:=h3.facts
    by_cases hq:bt S s3.i=34
    ·exfalso;have:=HF.out;simp [zCK,hq] at this
    ·have HQ3:=hide hq
     cases hl:zAO S 32 zBs s3 with
     |error d=>
      have HR:Hid (d=d0):=by
       have:=HF.out;simp only [zCK,hq,hl,if_false] at this;injection this
      have HL:=hide hl;clear hq hl HF;go_wp2_with fail;refine (zBc h3 _ (by omega) hS HQ3.out).mono ?_;rintro e w4 ⟨rfl,h4,g4⟩;go_wp2_with fail;refine (zEG (but:=zBs) h4 hS hi3 (by omega) (by show 2≤400;omega) HL.out).mono ?_;rintro e w5 ⟨⟨c,hc0,hc1,rfl⟩,h5,g5⟩;have hcv:=zEw w5 c;clear c0 c1 c2 c3 c4 c5 c6 fz;have h6:=h5.keep (Ch.alloc [] w5 (.cells #[.int .u8 c] 5)) (by simp);go_wp2_with fail;go_roundw
      case rel=>exact ⟨(g3.trans (g4.trans g5)).trans (Ch.alloc _ _ _),Or.inr ⟨⟨_,rfl⟩,HR.out ▸ h6⟩⟩
      case measure=>
       rw [h6.penM,h3.penM];omega
     |ok p=>
      obtain ⟨c,s4⟩:=p
      have HF4:Hid (zCK S n s4 (x++⟨#[UInt8.ofNat c.toNat]⟩)= .error d0):=by
       have:=HF.out;simp only [zCK,hq,hl,if_false] at this;exact this
      have HL:=hide hl;have hb:=zAv (by omega) hl;obtain ⟨b1,b2,b3,b4,_,_,_⟩:=hb;clear hq hl HF;go_wp2_with fail;refine (zBc h3 _ (by omega) hS HQ3.out).mono ?_;rintro e w4 ⟨rfl,h4,g4⟩;go_wp2_with fail;refine (zCB (but:=zBs) h4 hS (by omega) (by show 2≤400;omega) HL.out).mono ?_;rintro e w5 ⟨rfl,h5,g5⟩;have hcv:=zEw w5 c;clear c0 c1 c2 c3 c4 c5 c6 fz;have h6:=h5.keep (Ch.alloc [] w5 (.cells #[.int .u8 c] 5)) (by simp);go_wp2_with fail;go_roundw
      case rel=>exact ⟨(g3.trans (g4.trans g5)).trans (Ch.alloc _ _ _),Or.inl ⟨_,n,s4,rfl,by rw [ByteArray.size_append];show _+1+1≤_;omega,by omega,b2,h6,HF4⟩⟩
      case measure=>rw [h3.penM,h6.penM];omega
   ·have h3':=h3
    obtain ⟨s3,nest3,p3,hi3⟩:=h3';obtain ⟨c0,c1,c2,c3,c4,c5,c6,fz⟩:=p3.facts
    have hd:¬(d0:Int)<0:=by omega
    go_wp2_with fail;go_ret2;exact ⟨⟨_,rfl⟩,h3,g3⟩
 ·rename_i hq
  injection hr with hr
  subst hr;have HQ:=hide hq;clear hq;go_enter Tryz.func93,Tryz.ntmps93;go_wp2_with fail;refine (zAs h hi hS).mono ?_;rintro e w1 ⟨rfl,h1,g1⟩;generalize hI:run isBl S s.i=I at *;have HI:=hide hI;clear hI;obtain ⟨c0,c1,c2,c3,c4,c5,c6,fz⟩:=h1.facts;go_wp2_with fail;refine (zGU h1 _ (by omega) hS hi1.2 HQ.out).mono ?_;rintro e w2 ⟨rfl,h2,g2⟩;have h2':=h2;obtain ⟨s2,nest2,p2,hi2⟩:=h2';obtain ⟨d0,d1,d2,d3,d4,d5,d6,fz2⟩:=p2.facts
  have hd:¬(I:Int)<0:=by omega
  clear c0 c1 c2 c3 c4 c5 c6 fz;go_wp2_with fail
  go_loop [] (True) (0)
  case atStart=>trivial
  case round=>
   go_wp2_with fail;go_ret2;exact ⟨⟨_,rfl⟩,HI.out ▸ h2,g1.trans g2⟩
end Go.Proofs.YteobgfbgglfkbaaGreat
namespace Go.Proofs.YteobgfbgglfkbaaGreat
open Go.RowKit
def zAe:ByteArray:=⟨#[45,91,93,92]⟩
def zAX(w:World)(c n:Nat)(f:Nat→Bool):Prop:=w.heap[c]? =some (.cells ((List.range n).map fun k=>Value.bool (f k)).toArray 4)
theorem zAX.lt{w:World}{c n:Nat}{f:Nat→Bool}(h:zAX w c n f):c<w.heap.size:=by
 rcases Nat.lt_or_ge c w.heap.size with h' | h'
 ·exact h'
 ·simp [zAX,Array.getElem?_eq_none h'] at h
theorem zAX.keep{w w':World}{c n:Nat}{f:Nat→Bool}{X:List Nat}(h:zAX w c n f)(g:Ch X w w')(hb:c∉X):zAX w' c n f:=(g.block c h.lt hb).trans h
theorem zAX.cell{w:World}{c n:Nat}{f:Nat→Bool}(h:zAX w c n f)(k:Nat)(hk:k<n):w.cell? ⟨c,k,none⟩=some (.bool (f k)):=by
 unfold zAX at h;simp [World.cell?,h,hk]
theorem zAX.frozen{w:World}{c n:Nat}{f:Nat→Bool}(h:zAX w c n f)(o:Nat):w.frozen? ⟨c,o,none⟩=false:=by
 unfold zAX at h;simp [World.frozen?,h]
theorem zAX.congr{w:World}{c n:Nat}{f g:Nat→Bool}(h:zAX w c n f)(e:∀k,k<n→f k=g k):zAX w c n g:=by
 unfold zAX at *;rw [h]
 congr 3
 apply List.map_congr_left;intro k hk;rw [e k (by simpa using hk)]
theorem zAX.set{w:World}{c n:Nat}{f:Nat→Bool}(h:zAX w c n f)(k:Nat)(v:Bool):zAX (w.setCell ⟨c,k,none⟩ (.bool v)) c n (fun j=>if j=k then v else f j):=by
 unfold zAX at *;simp only [World.setCell,Array.getElem?_modify,h,if_true,Option.map_some]
 congr 2
 apply Array.ext
 ·simp
 ·intro i h1 h2
  simp
  by_cases e:k=i
  ·subst e;simp
  ·simp [e,Ne.symm e]
theorem infoBool:(Tryz.prog.info? 4).map (fun i=>(i.zero,i.size,i.bytes))=some (some (.bool false),1,1):=by kernel_rfl
theorem zMS(n:Nat):madeCells #[.bool false] n=((List.range n).map fun _=>Value.bool false).toArray:=by
 apply Array.ext
 ·simp [madeCells]
 ·intro i h1 h2
  simp [madeCells,Nat.mod_one]
theorem zCD{w:World}{ops:Array Oper}{rest:List Oper}{o:Oper}{a:Act}{Q:Exit→Act→World→Prop}(T:TypeId)(hT:Tryz.prog.underlying T=some (.slice 4))(l c:Operand)(n:Nat)
  (hg:o.guard=none) (hop:o.op=Op.makeSlice T l c) (hl:a.eval l= .int .i64 n) (hc:a.eval c= .int .i64 n) (hn:n≤281474976710656)
  (hK:∀w',zAX w' w.heap.size n (fun _=>false)→Ch [] w w'→w'.heap.size=w.heap.size+1→wpList Tryz.prog ops Q rest (a.put o.dst (.slice (some ⟨w.heap.size,0,none⟩) n n)) w'):
  wpList Tryz.prog ops Q (o:: rest) a w:=by
 refine wpList_plain hg fun K hK'=> ?_
 obtain ⟨i,hi,hz0,hz1,hz2⟩:=info_parts infoBool;have hrun:=run_make (P:=Tryz.prog) w T 4 i (.bool false) hT hi hz0 .i64 .i64 n n (by omega) (by omega) (by rw [hz2];omega) (by omega);simp only [Int.toNat_natCast,hz1,Nat.mul_one] at hrun;unfold Oper.wp;simp [execOp,hop,hl,hc,hrun,Result.andThen];refine hK' _ _ (hK _ ?_ (Ch.alloc _ _ _) (by simp));unfold zAX;rw [zAH];simp only [Value.cells,zMS]
set_option maxHeartbeats 400000 in
theorem zLx{w:World}{b:Nat}{S:ByteArray}{d:Nat}(h:zAP w b S d):
  Calls Tryz.prog 94 #[.pointer (some ⟨b,0,none⟩)] w fun e w'=>(∃c,e= .returned (.slice (some ⟨c,0,none⟩) 256 256))∧zAP w' b S d∧Ch [b] w w':=by
 go_enter Tryz.func94,Tryz.ntmps94;go_wp2_with fail;refine (zD0 h _).mono ?_;rintro e w1 ⟨rfl,h1,g1⟩;go_wp2_with (at_make;refine zCD 143 Tryz.underlying143 _ _ 256 rfl rfl rfl rfl (by omega) ?_;intro w2 hB g2 hz);obtain ⟨s2,nest2,p2,hi2⟩:=h1.keep g2 (by simp);obtain ⟨d0,d1,d2,d3,d4,d5,d6,fz2⟩:=p2.facts
 have hd:¬(d:Int)<0:=by omega
 go_loop [4] (fun v=>v= .bool true) (fun _=>0)
 case atStart=>rfl
 case round=>
  subst hrel;go_wp2_with fail;go_ret;exact ⟨⟨_,rfl⟩,⟨_,_,p2,hi2⟩,g1.trans (g2.mono (by simp))⟩
end Go.Proofs.YteobgfbgglfkbaaGreat
namespace Go.Proofs.YteobgfbgglfkbaaGreat
open Go.RowKit
def zAj(L:List (Int×Int))(j:Nat):Bool:=L.any fun p=>decide (p.1≤(j:Int)) && decide ((j:Int)≤p.2)
def zBz(S:ByteArray)(s:St):Except Nat ((Int×Int)×St):=
 match zAO S 33 zAe s with
 |.error d=> .error d
 |.ok (a,s1)=>
  if bt S s1.i=45 then
   match zAO S 33 zAe {s1 with i:=s1.i+1} with
   |.error d=> .error d
   |.ok (c,s2)=> .ok ((a,c),sayS (decide (c<a)) 6 s.i s2)
  else .ok ((a,a),s1)
def zA6(S:ByteArray):Nat→St→List (Int×Int)→Except Nat (List (Int×Int)×St)
 |0,s,_=> .error s.i
 |n+1,s,L=>
  match zBz S s with
  |.error d=> .error d
  |.ok (p,s1)=>if bt S s1.i=93 then .ok (L++[p],{s1 with i:=s1.i+1}) else zA6 S n s1 (L++[p])
def zA2(S:ByteArray)(s:St):Except Nat (List (Int×Int)×St):=
 if bt S s.i=91 then zA6 S (S.size+1) {s with i:=s.i+1} [] else .error s.i
theorem zA0(wr:Bool)(e a:Int)(s:St):(sayS wr e a s).i=s.i∧(sayS wr e a s).k=s.k:=by
 unfold sayS;split <;>exact ⟨rfl,rfl⟩
theorem zKE(e a:Int)(s:St):sayS false e a s=s:=by simp [sayS]
theorem zFi{S:ByteArray}{s s':St}{a c:Int}(h:zBz S s= .ok ((a,c),s')):
  s.i<s'.i∧s'.i≤S.size∧0≤a∧a≤255∧0≤c∧c≤255∧s'.k=s.k:=by
 unfold zBz at h
 split at h
 ·cases h
 ·rename_i a1 s1 h1
  have b1:=zAv (by omega) h1
  split at h
  ·split at h
   ·cases h
   ·rename_i c1 s2 h2
    have b2:=zAv (by omega) h2
    injection h with h
    injection h with e1 e2
    injection e1 with e0 e1
    subst e0 e1 e2;rw [(zA0 _ _ _ _).1,(zA0 _ _ _ _).2];simp only at b2;refine ⟨by omega,b2.2.1,by omega,by omega,by omega,by omega,?_⟩;rw [b2.2.2.2.2.2.2,b1.2.2.2.2.2.2]
  ·injection h with h
   injection h with e1 e2
   injection e1 with e0 e1
   subst e0 e1 e2;exact ⟨b1.1,b1.2.1,by omega,by omega,by omega,by omega,b1.2.2.2.2.2.2⟩
theorem zNR{S:ByteArray}{s:St}{d:Nat}(hi:s.i≤S.size)(h:zBz S s= .error d):d≤S.size:=by
 unfold zBz at h
 split at h
 ·rename_i d1 h1
  injection h with h
  subst h;exact zEb hi h1
 ·rename_i a1 s1 h1
  have b1:=zAv (by omega) h1
  split at h
  ·rename_i hq
   have:=zAy (S:=S) (i:=s1.i) (by omega)
   split at h
   ·rename_i d2 h2
    injection h with h
    subst h;exact zEb (by simp;omega) h2
   ·cases h
  ·cases h
theorem zN0{S:ByteArray}:∀n (s:St) L,s.i≤S.size→
  (∀L' s',zA6 S n s L= .ok (L',s')→s.i<s'.i∧s'.i≤S.size∧s'.k=s.k)∧(∀d,zA6 S n s L= .error d→d≤S.size):=by
 intro n
 induction n with
 |zero=>intro s L hi;simp [zA6];omega
 |succ n ih=>
  intro s L hi;unfold zA6
  cases h1:zBz S s with
  |error d=>
   refine ⟨fun _ _ h=> ?_,fun d' h=> ?_⟩
   ·simp at h
   ·simp at h;subst h;exact zNR hi h1
  |ok p=>
   obtain ⟨⟨a,c⟩,s1⟩:=p;have b1:=zFi h1;simp only
   by_cases hq:bt S s1.i=93
   ·have:=zAy (S:=S) (i:=s1.i) (by omega)
    simp only [hq,if_true];refine ⟨fun L' s' h=> ?_,fun d' h=>by cases h⟩
    injection h with h
    injection h with e1 e2
    subst e1 e2;exact ⟨by simp;omega,by simp;omega,b1.2.2.2.2.2.2⟩
   ·simp only [hq,if_false]
    have b2:=ih s1 (L++[(a,c)]) b1.2.1;refine ⟨fun L' s' h=> ?_,b2.2⟩;have b3:=b2.1 L' s' h;exact ⟨by omega,b3.2.1,b3.2.2.trans b1.2.2.2.2.2.2⟩
theorem zDT{S:ByteArray}{s s':St}{L:List (Int×Int)}(h:zA2 S s= .ok (L,s')):s.i<s'.i∧s'.i≤S.size∧s'.k=s.k:=by
 unfold zA2 at h
 split at h
 ·rename_i hq
  have:=zAy (S:=S) (i:=s.i) (by omega);have b:=(zN0 (S.size+1) {s with i:=s.i+1} [] (by simp;omega)).1 L s' h;simp only at b;exact ⟨by omega,b.2.1,b.2.2⟩
 ·cases h
def zFa:Value→Bool | .bool q=>q | _=>false
def zHg(b N:Nat)(again:Value)(w:World):Nat:=if zFa again then N+2 - penI b w else 0
theorem zA4{b N:Nat}{w:World}{S:ByteArray}{s:St}{bad nest:Int}(h:zAL w b S s bad nest):zHg b N (.bool true) w=N+2 - s.i:=by simp [zHg,zFa,h.penI]
theorem zCh{b N:Nat}{w:World}:zHg b N (.bool false) w=0:=by simp [zHg,zFa]
theorem zGK(L:List (Int×Int))(a:Int)(j:Nat):zAj L j=(zAj L j || (decide (a≤(j:Int)) && decide ((j:Int)<a))):=by
 have:(decide (a≤(j:Int)) && decide ((j:Int)<a))=false:=by simp <;>omega
 rw [this,Bool.or_false]
theorem zJW(L:List (Int×Int))(a c k:Int)(_hk:a≤k)(h1:c<k)(h2:k≤c+1∨k=a)(j:Nat):(zAj L j || (decide (a≤(j:Int)) && decide ((j:Int)<k)))=zAj (L++[(a,c)]) j:=by
 simp only [zAj,List.any_append,List.any_cons,List.any_nil,Bool.or_false]
 congr 1
 rw [Bool.eq_iff_iff,Bool.and_eq_true,Bool.and_eq_true];simp only [decide_eq_true_eq]
 constructor <;>intro h <;>omega
theorem zHN(L:List (Int×Int))(a:Int)(k:Nat)(hk:a≤k)(j:Nat):(if j=k then true else (zAj L j || (decide (a≤(j:Int)) && decide ((j:Int)<k))))=(zAj L j || (decide (a≤(j:Int)) && decide ((j:Int)<k+1))):=by
 by_cases e:j=k
 ·subst e
  have:decide ((j:Int)<(j:Int)+1)=true:=by simp;omega
  simp [hk,this]
 ·rw [if_neg e]
  congr 1
  rw [Bool.eq_iff_iff,Bool.and_eq_true,Bool.and_eq_true];simp only [decide_eq_true_eq]
  constructor <;>intro h <;>omega
set_option maxHeartbeats 800000 in
theorem zK0{w:World}{b:Nat}{S:ByteArray}{s s':St}{nest:Int}(h:zAL w b S s (-1) nest)(hS:S.size≤400){L:List (Int×Int)}(hr:zA2 S s= .ok (L,s')):
  Calls Tryz.prog 94 #[.pointer (some ⟨b,0,none⟩)] w fun e w'=>∃c,e= .returned (.slice (some ⟨c,0,none⟩) 256 256)∧w.heap.size≤c∧zAX w' c 256 (zAj L)∧zAL w' b S s' (-1) nest∧Ch [b] w w':=by
 unfold zA2 at hr
 split at hr
 rotate_left
 ·cases hr
 rename_i hq
 have hlt:=zAy (S:=S) (i:=s.i) (by omega);have HQ:=hide hq;have HF:=hide hr;clear hq hr;go_enter Tryz.func94,Tryz.ntmps94;go_wp2_with fail;refine (zDh h _ (by omega) hS HQ.out).mono ?_;rintro e w1 ⟨rfl,h1,g1⟩;go_wp2_with (at_make;refine zCD 143 Tryz.underlying143 _ _ 256 rfl rfl rfl rfl (by omega) ?_;intro w2 hB g2 hz);have h2:=h1.keep g2 (by simp);have hbl:=h1.lt;have hC:w.heap.size≤w1.heap.size:=g1.size;have g12:=g1.trans (g2.mono (Y:=[b]) (by simp));generalize w1.heap.size=C at *
 go_loopw [4,5,6,7,8,9] (fun again _ _ _ _ _ w3=>Ch [b] w w3∧∃(L3:List (Int×Int)) (s3:St),zAX w3 C 256 (zAj L3)∧zAL w3 b S s3 (-1) nest∧s3.i≤S.size∧((again= .bool true∧∃n,S.size<n+s3.i∧Hid (zA6 S n s3 L3= .ok (L,s')))∨(again= .bool false∧Hid (L3=L∧s3=s')))) (fun again _ _ _ _ _ w3=>zHg b S.size again w3)
 case atStart=>exact ⟨g12,[],_,hB.congr (by simp [zAj]),h2,by show s.i+1≤_;omega,Or.inl ⟨rfl,S.size+1,by simp;omega,HF⟩⟩
 case round=>
  obtain ⟨g3,L3,s3,hB3,h3,hi3,⟨rfl,n,hn,HF3⟩ | ⟨rfl,HD⟩⟩:=hrel
  ·obtain ⟨n,rfl⟩:∃m,n=m+1:=⟨n - 1,by omega⟩
   obtain ⟨c0,c1,c2,c3,c4,c5,c6,fz⟩:=h3.facts
   cases hit:zBz S s3 with
   |error d=>exfalso;have:=HF3.out;simp [zA6,hit] at this
   |ok p=>
    obtain ⟨⟨A,B⟩,s4⟩:=p;obtain ⟨k1,k2,k3,k4,k5,k6,k7⟩:=zFi hit
    have HF4:Hid (if bt S s4.i=93 then (Except.ok (L3++[(A,B)],{s4 with i:=s4.i+1}):Except Nat (List (Int×Int)×St))= .ok (L,s') else zA6 S n s4 (L3++[(A,B)])= .ok (L,s')):=by
     have:=HF3.out;simp only [zA6,hit] at this
     show if _ then _ else _
     split <;>rename_i hh <;>simpa [hh] using this
    unfold zBz at hit
    split at hit
    ·cases hit
    rename_i a1 s31 hl1
    obtain ⟨m1,m2,m3,m4,_,_,_⟩:=zAv (by omega) hl1;have HL1:=hide hl1
    split at hit
    ·rename_i hmi
     have hl31:=zAy (S:=S) (i:=s31.i) (by omega)
     split at hit
     ·cases hit
     rename_i c1' s32 hl2
     injection hit with hit
     injection hit with e1 e2
     injection e1 with e0 e1
     subst e0 e1 e2;have HMI:=hide hmi;have HL2:=hide hl2;clear hmi hl1 hl2 HF3 HF;go_wp2_with fail;refine (zCB (but:=zAe) h3 hS (by omega) (by show 4≤400;omega) HL1.out).mono ?_;rintro e w4 ⟨rfl,h4,g4⟩;go_wp2_with fail;refine (zCA h4 _ (by omega) hS HMI.out).mono ?_;rintro e w5 ⟨rfl,h5,g5⟩;go_wp2_with fail;refine (zCB (but:=zAe) h5 hS (by omega) (by show 4≤400;omega) HL2.out).mono ?_;rintro e w51 ⟨rfl,h51,g51⟩;go_wp2_with fail;refine (zCy h51 _ _ _).mono ?_;rintro e w6 ⟨rfl,h6,g6⟩;generalize hs4:sayS (decide (c1'<a1)) 6 s3.i s32=s4 at *;clear hs4;have hB6:zAX w6 C 256 (zAj L3):=hB3.keep (g4.trans (g5.trans (g51.trans g6))) (by simp;omega);have g36:Ch [b] w w6:=g3.trans (g4.trans (g5.trans (g51.trans g6)));clear c0 c1 c2 c3 c4 c5 c6 fz;go_wp2_with fail
     go_loopw [9] (fun v w7=>∃k:Nat,v= .int .i64 k∧a1≤k∧((k:Int)≤c1'+1∨(k:Int)=a1)∧zAX w7 C 256 (fun j=>zAj L3 j || (decide (a1≤(j:Int)) && decide ((j:Int)<(k:Int))))∧zAL w7 b S s4 (-1) nest∧Ch [b] w w7) (fun v _=>(c1'+1 - intOf v).toNat)
     case atStart=>exact ⟨a1.toNat,by rw [Int.toNat_of_nonneg k3],by omega,by omega,hB6.congr (fun j _=>by rw [Int.toNat_of_nonneg k3];exact zGK L3 a1 j),h6,g36⟩
     case round=>
      obtain ⟨k,rfl,q1,q2,hB7,h7,g7⟩:=hrel
      by_cases hle:(k:Int)≤c1'
      ·have f7:=hB7.frozen k
       have e7:=hB7.cell k (by omega);go_wp2_with fail;go_roundw
       case rel=>exact ⟨k+1,by go_num,by omega,by omega,(hB7.set k true).congr (fun j _=>zHN L3 a1 k q1 j),h7.keep (Ch.setCell (X:=[C]) _ (by simp) _) (by simp;omega),g7.setCell_new (Or.inr hC) _⟩
       case measure=>simp [intOf];omega
      ·have hB8:=hB7.congr (g:=zAj (L3++[(a1,c1')])) (fun j _=>zJW L3 a1 c1' k q1 (by omega) (by omega) j)
       by_cases h93:bt S s4.i=93
       ·have H93:=hide h93
        have HE:Hid (L3++[(a1,c1')]=L∧({s4 with i:=s4.i+1}:St)=s'):=by
         have:=HF4.out;rw [if_pos h93] at this
         injection this with this
         injection this with x1 x2
         exact ⟨x1,x2⟩
        have hl3:=zAy (S:=S) (i:=s4.i) (by omega);clear h93;go_wp2_with fail;refine (zCA h7 _ (by omega) hS H93.out).mono ?_;rintro e w8 ⟨rfl,h8,g8⟩;go_wp2_with fail;go_roundw
        case rel=>exact ⟨g7.trans g8,_,_,hB8.keep g8 (by simp;omega),h8,hl3,Or.inr ⟨rfl,HE⟩⟩
        case measure=>rw [zCh,zA4 h3];omega
       ·have H93:=hide h93
        have HE:Hid (zA6 S n s4 (L3++[(a1,c1')])= .ok (L,s')):=by
         have:=HF4.out;rw [if_neg h93] at this;exact this
        clear h93;go_wp2_with fail;refine (zBc h7 _ (by omega) hS H93.out).mono ?_;rintro e w8 ⟨rfl,h8,g8⟩;go_wp2_with fail;go_roundw
        case rel=>exact ⟨g7.trans g8,_,_,hB8.keep g8 (by simp;omega),h8,k2,Or.inl ⟨rfl,n,by omega,HE⟩⟩
        case measure=>rw [zA4 h8,zA4 h3];omega
    ·rename_i hne
     injection hit with hit
     injection hit with e1 e2
     injection e1 with e0 e1
     subst e0 e1 e2;have HNE:=hide hne;clear hne hl1 HF3 HF;go_wp2_with fail;refine (zCB (but:=zAe) h3 hS (by omega) (by show 4≤400;omega) HL1.out).mono ?_;rintro e w4 ⟨rfl,h4,g4⟩;go_wp2_with fail;refine (zBc h4 _ (by omega) hS HNE.out).mono ?_;rintro e w5 ⟨rfl,h5,g5⟩;go_wp2_with fail;refine (zCy h5 _ _ _).mono ?_;rintro e w6 ⟨rfl,h6,g6⟩;rw [zKE] at h6;have hB6:zAX w6 C 256 (zAj L3):=hB3.keep (g4.trans (g5.trans g6)) (by simp;omega);have g36:Ch [b] w w6:=g3.trans (g4.trans (g5.trans g6));clear c0 c1 c2 c3 c4 c5 c6 fz;go_wp2_with fail
     go_loopw [9] (fun v w7=>∃k:Nat,v= .int .i64 k∧a1≤k∧((k:Int)≤a1+1∨(k:Int)=a1)∧zAX w7 C 256 (fun j=>zAj L3 j || (decide (a1≤(j:Int)) && decide ((j:Int)<(k:Int))))∧zAL w7 b S s31 (-1) nest∧Ch [b] w w7) (fun v _=>(a1+1 - intOf v).toNat)
     case atStart=>exact ⟨a1.toNat,by rw [Int.toNat_of_nonneg k3],by omega,by omega,hB6.congr (fun j _=>by rw [Int.toNat_of_nonneg k3];exact zGK L3 a1 j),h6,g36⟩
     case round=>
      obtain ⟨k,rfl,q1,q2,hB7,h7,g7⟩:=hrel
      by_cases hle:(k:Int)≤a1
      ·have f7:=hB7.frozen k
       have e7:=hB7.cell k (by omega);go_wp2_with fail;go_roundw
       case rel=>exact ⟨k+1,by go_num,by omega,by omega,(hB7.set k true).congr (fun j _=>zHN L3 a1 k q1 j),h7.keep (Ch.setCell (X:=[C]) _ (by simp) _) (by simp;omega),g7.setCell_new (Or.inr hC) _⟩
       case measure=>simp [intOf];omega
      ·have hB8:=hB7.congr (g:=zAj (L3++[(a1,a1)])) (fun j _=>zJW L3 a1 a1 k q1 (by omega) (by omega) j)
       by_cases h93:bt S s31.i=93
       ·have H93:=hide h93
        have HE:Hid (L3++[(a1,a1)]=L∧({s31 with i:=s31.i+1}:St)=s'):=by
         have:=HF4.out;rw [if_pos h93] at this
         injection this with this
         injection this with x1 x2
         exact ⟨x1,x2⟩
        have hl3:=zAy (S:=S) (i:=s31.i) (by omega);clear h93;go_wp2_with fail;refine (zCA h7 _ (by omega) hS H93.out).mono ?_;rintro e w8 ⟨rfl,h8,g8⟩;go_wp2_with fail;go_roundw
        case rel=>exact ⟨g7.trans g8,_,_,hB8.keep g8 (by simp;omega),h8,hl3,Or.inr ⟨rfl,HE⟩⟩
        case measure=>rw [zCh,zA4 h3];omega
       ·have H93:=hide h93
        have HE:Hid (zA6 S n s31 (L3++[(a1,a1)])= .ok (L,s')):=by
         have:=HF4.out;rw [if_neg h93] at this;exact this
        clear h93;go_wp2_with fail;refine (zBc h7 _ (by omega) hS H93.out).mono ?_;rintro e w8 ⟨rfl,h8,g8⟩;go_wp2_with fail;go_roundw
        case rel=>exact ⟨g7.trans g8,_,_,hB8.keep g8 (by simp;omega),h8,k2,Or.inl ⟨rfl,n,by omega,HE⟩⟩
        case measure=>rw [zA4 h8,zA4 h3];omega
  ·obtain ⟨c0,c1,c2,c3,c4,c5,c6,fz⟩:=h3.facts
   go_wp2_with fail;go_ret;rw [← HD.out.1,← HD.out.2];exact ⟨C,rfl,hC,hB3,h3,g3⟩
end Go.Proofs.YteobgfbgglfkbaaGreat
namespace Go.Proofs.YteobgfbgglfkbaaGreat
open Go.RowKit
set_option maxHeartbeats 800000 in
theorem zIf{w:World}{b:Nat}{S:ByteArray}{s:St}{nest:Int}(h:zAL w b S s (-1) nest)(hS:S.size≤400){D:Nat}(hi:s.i≤S.size)(hr:zA2 S s= .error D):
  Calls Tryz.prog 94 #[.pointer (some ⟨b,0,none⟩)] w fun e w'=>(∃c,e= .returned (.slice (some ⟨c,0,none⟩) 256 256))∧zAP w' b S D∧Ch [b] w w':=by
 unfold zA2 at hr
 split at hr
 ·rename_i hq
  have hlt:=zAy (S:=S) (i:=s.i) (by omega);have HQ:=hide hq;have HF:=hide hr;clear hq hr;go_enter Tryz.func94,Tryz.ntmps94;go_wp2_with fail;refine (zDh h _ (by omega) hS HQ.out).mono ?_;rintro e w1 ⟨rfl,h1,g1⟩;go_wp2_with (at_make;refine zCD 143 Tryz.underlying143 _ _ 256 rfl rfl rfl rfl (by omega) ?_;intro w2 hB g2 hz);have h2:=h1.keep g2 (by simp);have hbl:=h1.lt;have hC:w.heap.size≤w1.heap.size:=g1.size;have g12:=g1.trans (g2.mono (Y:=[b]) (by simp));generalize w1.heap.size=C at *
  go_loopw [4,5,6,7,8,9] (fun again _ _ _ _ _ w3=>Ch [b] w w3∧again= .bool true∧(∃f,zAX w3 C 256 f)∧((∃(L3:List (Int×Int)) (s3:St) (n:Nat),zAL w3 b S s3 (-1) nest∧s3.i≤S.size∧S.size<n+s3.i∧Hid (zA6 S n s3 L3= .error D))∨zAP w3 b S D)) (fun _ _ _ _ _ _ w3=>penM b S.size w3)
  case atStart=>exact ⟨g12,rfl,⟨_,hB⟩,Or.inl ⟨[],_,S.size+1,h2,by show s.i+1≤_;omega,by simp;omega,HF⟩⟩
  case round=>
   obtain ⟨g3,rfl,⟨f3,hB3⟩,⟨L3,s3,n,h3,hi3,hn,HF3⟩ | h3⟩:=hrel
   ·obtain ⟨n,rfl⟩:∃m,n=m+1:=⟨n - 1,by omega⟩
    obtain ⟨c0,c1,c2,c3,c4,c5,c6,fz⟩:=h3.facts
    cases hl1:zAO S 33 zAe s3 with
    |error d=>
     have hd:d=D:=by have:=HF3.out;simp [zA6,zBz,hl1] at this;exact this
     subst hd;have HL1:=hide hl1;clear hl1 HF3 HF;go_wp2_with fail;refine (zEG (but:=zAe) h3 hS hi3 (by omega) (by show 4≤400;omega) HL1.out).mono ?_;rintro e w4 ⟨⟨a1,m3,m4,rfl⟩,h4,g4⟩;go_wp2_with fail;refine (zDd h4 _).mono ?_;rintro e w5 ⟨rfl,h5,g5⟩;go_wp2_with fail;refine (zGm h5 _ _ _).mono ?_;rintro e w6 ⟨rfl,h6,g6⟩;obtain ⟨f6,hB6⟩:∃f,zAX w6 C 256 f:=⟨_,hB3.keep (g4.trans (g5.trans g6)) (by simp;omega)⟩;have g36:Ch [b] w w6:=g3.trans (g4.trans (g5.trans g6));clear c0 c1 c2 c3 c4 c5 c6 fz;go_wp2_with fail
     go_loopw [9] (fun v w7=>∃k:Nat,v= .int .i64 k∧a1≤k∧(∃f,zAX w7 C 256 f)∧zAP w7 b S d∧Ch [b] w w7) (fun v _=>(a1+1 - intOf v).toNat)
     case atStart=>exact ⟨a1.toNat,by rw [Int.toNat_of_nonneg (by omega)],by omega,⟨_,hB6⟩,h6,g36⟩
     case round=>
      obtain ⟨k,rfl,q1,⟨f7,hB7⟩,h7,g7⟩:=hrel
      by_cases hle:(k:Int)≤a1
      ·have f7':=hB7.frozen k
       have e7:=hB7.cell k (by omega);go_wp2_with fail;go_roundw
       case rel=>exact ⟨k+1,by go_num,by omega,⟨_,hB7.set k true⟩,h7.keep (Ch.setCell (X:=[C]) _ (by simp) _) (by simp;omega),g7.setCell_new (Or.inr hC) _⟩
       case measure=>simp [intOf];omega
      ·go_wp2_with fail
       refine (zDd h7 _).mono ?_;rintro e w8 ⟨rfl,h8,g8⟩;go_wp2_with fail;go_roundw
       case rel=>exact ⟨g7.trans g8,rfl,⟨_,hB7.keep g8 (by simp;omega)⟩,Or.inr h8⟩
       case measure=>rw [h8.penM,h3.penM];omega
    |ok p=>
     obtain ⟨a1,s31⟩:=p;obtain ⟨m1,m2,m3,m4,_,_,_⟩:=zAv (by omega) hl1;have HL1:=hide hl1
     by_cases hmi:bt S s31.i=45
     ·have hl31:=zAy (S:=S) (i:=s31.i) (by omega)
      have HMI:=hide hmi
      cases hl2:zAO S 33 zAe {s31 with i:=s31.i+1} with
      |error d=>
       have hd:d=D:=by have:=HF3.out;simp [zA6,zBz,hl1,hmi,hl2] at this;exact this
       subst hd;have HL2:=hide hl2;clear hl1 hl2 hmi HF3 HF;go_wp2_with fail;refine (zCB (but:=zAe) h3 hS (by omega) (by show 4≤400;omega) HL1.out).mono ?_;rintro e w4 ⟨rfl,h4,g4⟩;go_wp2_with fail;refine (zCA h4 _ (by omega) hS HMI.out).mono ?_;rintro e w5 ⟨rfl,h5,g5⟩;go_wp2_with fail;refine (zEG (but:=zAe) h5 hS (by show s31.i+1≤_;omega) (by omega) (by show 4≤400;omega) HL2.out).mono ?_;rintro e w51 ⟨⟨c1',m5,m6,rfl⟩,h51,g51⟩;go_wp2_with fail;refine (zGm h51 _ _ _).mono ?_;rintro e w6 ⟨rfl,h6,g6⟩;obtain ⟨f6,hB6⟩:∃f,zAX w6 C 256 f:=⟨_,hB3.keep (g4.trans (g5.trans (g51.trans g6))) (by simp;omega)⟩;have g36:Ch [b] w w6:=g3.trans (g4.trans (g5.trans (g51.trans g6)));clear c0 c1 c2 c3 c4 c5 c6 fz;go_wp2_with fail
       go_loopw [9] (fun v w7=>∃k:Nat,v= .int .i64 k∧a1≤k∧(∃f,zAX w7 C 256 f)∧zAP w7 b S d∧Ch [b] w w7) (fun v _=>(c1'+1 - intOf v).toNat)
       case atStart=>exact ⟨a1.toNat,by rw [Int.toNat_of_nonneg (by omega)],by omega,⟨_,hB6⟩,h6,g36⟩
       case round=>
        obtain ⟨k,rfl,q1,⟨f7,hB7⟩,h7,g7⟩:=hrel
        by_cases hle:(k:Int)≤c1'
        ·have f7':=hB7.frozen k
         have e7:=hB7.cell k (by omega);go_wp2_with fail;go_roundw
         case rel=>exact ⟨k+1,by go_num,by omega,⟨_,hB7.set k true⟩,h7.keep (Ch.setCell (X:=[C]) _ (by simp) _) (by simp;omega),g7.setCell_new (Or.inr hC) _⟩
         case measure=>simp [intOf];omega
        ·go_wp2_with fail
         refine (zDd h7 _).mono ?_;rintro e w8 ⟨rfl,h8,g8⟩;go_wp2_with fail;go_roundw
         case rel=>exact ⟨g7.trans g8,rfl,⟨_,hB7.keep g8 (by simp;omega)⟩,Or.inr h8⟩
         case measure=>rw [h8.penM,h3.penM];omega
      |ok p=>
       obtain ⟨c1',s32⟩:=p
       have hit:zBz S s3= .ok ((a1,c1'),sayS (decide (c1'<a1)) 6 s3.i s32):=by simp [zBz,hl1,hmi,hl2]
       obtain ⟨k1,k2,k3,k4,k5,k6,k7⟩:=zFi hit
       have HF4:Hid (if bt S (sayS (decide (c1'<a1)) 6 s3.i s32).i=93 then (Except.ok (L3++[(a1,c1')],{sayS (decide (c1'<a1)) 6 s3.i s32 with i:=(sayS (decide (c1'<a1)) 6 s3.i s32).i+1}):Except Nat (List (Int×Int)×St))= .error D else zA6 S n (sayS (decide (c1'<a1)) 6 s3.i s32) (L3++[(a1,c1')])= .error D):=by
        have:=HF3.out;simp only [zA6,hit] at this
        show if _ then _ else _
        split
        ·rename_i hh;simp [hh] at this
        ·rename_i hh;simpa [hh] using this
       have HL2:=hide hl2;clear hl1 hl2 hmi HF3 HF hit;go_wp2_with fail;refine (zCB (but:=zAe) h3 hS (by omega) (by show 4≤400;omega) HL1.out).mono ?_;rintro e w4 ⟨rfl,h4,g4⟩;go_wp2_with fail;refine (zCA h4 _ (by omega) hS HMI.out).mono ?_;rintro e w5 ⟨rfl,h5,g5⟩;go_wp2_with fail;refine (zCB (but:=zAe) h5 hS (by omega) (by show 4≤400;omega) HL2.out).mono ?_;rintro e w51 ⟨rfl,h51,g51⟩;go_wp2_with fail;refine (zCy h51 _ _ _).mono ?_;rintro e w6 ⟨rfl,h6,g6⟩;generalize hs4:sayS (decide (c1'<a1)) 6 s3.i s32=s4 at *;clear hs4;obtain ⟨f6,hB6⟩:∃f,zAX w6 C 256 f:=⟨_,hB3.keep (g4.trans (g5.trans (g51.trans g6))) (by simp;omega)⟩;have g36:Ch [b] w w6:=g3.trans (g4.trans (g5.trans (g51.trans g6)));clear c0 c1 c2 c3 c4 c5 c6 fz;go_wp2_with fail
       go_loopw [9] (fun v w7=>∃k:Nat,v= .int .i64 k∧a1≤k∧(∃f,zAX w7 C 256 f)∧zAL w7 b S s4 (-1) nest∧Ch [b] w w7) (fun v _=>(c1'+1 - intOf v).toNat)
       case atStart=>exact ⟨a1.toNat,by rw [Int.toNat_of_nonneg (by omega)],by omega,⟨_,hB6⟩,h6,g36⟩
       case round=>
        obtain ⟨k,rfl,q1,⟨f7,hB7⟩,h7,g7⟩:=hrel
        by_cases hle:(k:Int)≤c1'
        ·have f7':=hB7.frozen k
         have e7:=hB7.cell k (by omega);go_wp2_with fail;go_roundw
         case rel=>exact ⟨k+1,by go_num,by omega,⟨_,hB7.set k true⟩,h7.keep (Ch.setCell (X:=[C]) _ (by simp) _) (by simp;omega),g7.setCell_new (Or.inr hC) _⟩
         case measure=>simp [intOf];omega
        ·have hne93:¬bt S s4.i=93:=by
          intro h93;have:=HF4.out;rw [if_pos h93] at this;cases this
         have HE:Hid (zA6 S n s4 (L3++[(a1,c1')])= .error D):=by
          have:=HF4.out;rw [if_neg hne93] at this;exact this
         have H93:=hide hne93;clear hne93;go_wp2_with fail;refine (zBc h7 _ (by omega) hS H93.out).mono ?_;rintro e w8 ⟨rfl,h8,g8⟩;go_wp2_with fail;go_roundw
         case rel=>exact ⟨g7.trans g8,rfl,⟨_,hB7.keep g8 (by simp;omega)⟩,Or.inl ⟨_,_,n,h8,k2,by omega,HE⟩⟩
         case measure=>rw [h8.penM,h3.penM];omega
     ·have HNE:=hide hmi
      have hit:zBz S s3= .ok ((a1,a1),s31):=by simp [zBz,hl1,hmi]
      obtain ⟨k1,k2,k3,k4,k5,k6,k7⟩:=zFi hit
      have HF4:Hid (if bt S s31.i=93 then (Except.ok (L3++[(a1,a1)],{s31 with i:=s31.i+1}):Except Nat (List (Int×Int)×St))= .error D else zA6 S n s31 (L3++[(a1,a1)])= .error D):=by
       have:=HF3.out;simp only [zA6,hit] at this
       show if _ then _ else _
       split
       ·rename_i hh;simp [hh] at this
       ·rename_i hh;simpa [hh] using this
      clear hl1 hmi HF3 HF hit;go_wp2_with fail;refine (zCB (but:=zAe) h3 hS (by omega) (by show 4≤400;omega) HL1.out).mono ?_;rintro e w4 ⟨rfl,h4,g4⟩;go_wp2_with fail;refine (zBc h4 _ (by omega) hS HNE.out).mono ?_;rintro e w5 ⟨rfl,h5,g5⟩;go_wp2_with fail;refine (zCy h5 _ _ _).mono ?_;rintro e w6 ⟨rfl,h6,g6⟩;rw [zKE] at h6;obtain ⟨f6,hB6⟩:∃f,zAX w6 C 256 f:=⟨_,hB3.keep (g4.trans (g5.trans g6)) (by simp;omega)⟩;have g36:Ch [b] w w6:=g3.trans (g4.trans (g5.trans g6));clear c0 c1 c2 c3 c4 c5 c6 fz;go_wp2_with fail
      go_loopw [9] (fun v w7=>∃k:Nat,v= .int .i64 k∧a1≤k∧(∃f,zAX w7 C 256 f)∧zAL w7 b S s31 (-1) nest∧Ch [b] w w7) (fun v _=>(a1+1 - intOf v).toNat)
      case atStart=>exact ⟨a1.toNat,by rw [Int.toNat_of_nonneg (by omega)],by omega,⟨_,hB6⟩,h6,g36⟩
      case round=>
       obtain ⟨k,rfl,q1,⟨f7,hB7⟩,h7,g7⟩:=hrel
       by_cases hle:(k:Int)≤a1
       ·have f7':=hB7.frozen k
        have e7:=hB7.cell k (by omega);go_wp2_with fail;go_roundw
        case rel=>exact ⟨k+1,by go_num,by omega,⟨_,hB7.set k true⟩,h7.keep (Ch.setCell (X:=[C]) _ (by simp) _) (by simp;omega),g7.setCell_new (Or.inr hC) _⟩
        case measure=>simp [intOf];omega
       ·have hne93:¬bt S s31.i=93:=by
         intro h93;have:=HF4.out;rw [if_pos h93] at this;cases this
        have HE:Hid (zA6 S n s31 (L3++[(a1,a1)])= .error D):=by
         have:=HF4.out;rw [if_neg hne93] at this;exact this
        have H93:=hide hne93;clear hne93;go_wp2_with fail;refine (zBc h7 _ (by omega) hS H93.out).mono ?_;rintro e w8 ⟨rfl,h8,g8⟩;go_wp2_with fail;go_roundw
        case rel=>exact ⟨g7.trans g8,rfl,⟨_,hB7.keep g8 (by simp;omega)⟩,Or.inl ⟨_,_,n,h8,k2,by omega,HE⟩⟩
        case measure=>rw [h8.penM,h3.penM];omega
   ·have h3':=h3
    obtain ⟨s3,nest3,p3,hi3⟩:=h3';obtain ⟨c0,c1,c2,c3,c4,c5,c6,fz⟩:=p3.facts
    have hd:¬(D:Int)<0:=by omega
    go_wp2_with fail;go_ret;exact ⟨⟨C,rfl⟩,h3,g3⟩
 ·rename_i hq
  injection hr with hr
  subst hr;have HQ:=hide hq;clear hq;go_enter Tryz.func94,Tryz.ntmps94;go_wp2_with fail;refine (zGU h _ (by omega) hS hi HQ.out).mono ?_;rintro e w1 ⟨rfl,h1,g1⟩;go_wp2_with (at_make;refine zCD 143 Tryz.underlying143 _ _ 256 rfl rfl rfl rfl (by omega) ?_;intro w2 hB g2 hz);obtain ⟨s2,nest2,p2,hi2⟩:=h1.keep g2 (by simp);obtain ⟨d0,d1,d2,d3,d4,d5,d6,fz2⟩:=p2.facts
  have hd:¬(s.i:Int)<0:=by omega
  go_loop [4] (fun v=>v= .bool true) (fun _=>0)
  case atStart=>rfl
  case round=>
   subst hrel;go_wp2_with fail;go_ret;exact ⟨⟨_,rfl⟩,⟨_,_,p2,hi2⟩,g1.trans (g2.mono (by simp))⟩
end Go.Proofs.YteobgfbgglfkbaaGreat
