import Derived.Test.YteobgfbgglfkbaaGreatJB3
import Derived.Laws.Bits64b
namespace Go.Proofs.YteobgfbgglfkbaaGreat
open Go.RowKit
attribute [local go_sem ↓] Go.wp_at_zero Go.wp_at_succ
def setC(q:Nat→Nat):Array Value:= #[.int .u64 (q 0:Nat),.int .u64 (q 1:Nat),.int .u64 (q 2:Nat),.int .u64 (q 3:Nat)]
def setV(q:Nat→Nat):Value:= .agg (setC q)
def Wd(q:Nat→Nat):Prop:=∀t,q t<18446744073709551616
def SetF(q:Nat→Nat)(f:Nat→Bool):Prop:=Wd q∧∀j,j<256→(q (j / 64)).testBit (j % 64)=f j
theorem zFN{q q':Nat→Nat}(h:∀t,t<4→q t=q' t):setC q=setC q':=by
 simp only [setC,h 0 (by omega),h 1 (by omega),h 2 (by omega),h 3 (by omega)]
theorem SetF.congr{q:Nat→Nat}{f g:Nat→Bool}(h:SetF q f)(e:∀j,j<256→f j=g j):SetF q g:=⟨h.1,fun j hj=>(h.2 j hj).trans (e j hj)⟩
theorem or_lt{a b:Nat}(ha:a<18446744073709551616)(hb:b<18446744073709551616):a ||| b<18446744073709551616:=Nat.or_lt_two_pow (n:=64) ha hb
theorem and_lt{a b:Nat}(ha:a<18446744073709551616):a &&& b<18446744073709551616:=Nat.lt_of_le_of_lt Nat.and_le_left ha
theorem SetF.or{q1 q2:Nat→Nat}{f1 f2:Nat→Bool}(h1:SetF q1 f1)(h2:SetF q2 f2):SetF (fun t=>q1 t ||| q2 t) (fun j=>f1 j || f2 j):=
 ⟨fun t=>or_lt (h1.1 t) (h2.1 t),fun j hj=>by simp only [Nat.testBit_or,h1.2 j hj,h2.2 j hj]⟩
theorem SetF.and{q1 q2:Nat→Nat}{f1 f2:Nat→Bool}(h1:SetF q1 f1)(h2:SetF q2 f2):SetF (fun t=>q1 t &&& q2 t) (fun j=>f1 j && f2 j):=
 ⟨fun t=>and_lt (h1.1 t),fun j hj=>by simp only [Nat.testBit_and,h1.2 j hj,h2.2 j hj]⟩
theorem SetF.zero:SetF (fun _=>0) (fun _=>false):=⟨fun _=>by simp,fun j _=>by simp⟩
theorem SetF.add{q:Nat→Nat}{f:Nat→Bool}(h:SetF q f){c:Nat}(hc:c<256):SetF (fun t=>if t=c / 64 then q t ||| 2 ^ (c % 64) else q t) (fun j=>f j || j==c):=by
 have hp:2 ^ (c % 64)<18446744073709551616:=by
  have:2 ^ (c % 64)<2 ^ 64:=Nat.pow_lt_pow_right (by omega) (by omega)
  simpa using this
 refine ⟨fun t=> ?_,fun j hj=> ?_⟩
 ·simp only
  split
  ·exact or_lt (h.1 t) hp
  ·exact h.1 t
 ·simp only
  by_cases e:j / 64=c / 64
  ·rw [if_pos e,Nat.testBit_or,h.2 j hj,Nat.testBit_two_pow]
   congr 1
   by_cases e2:j=c
   ·subst e2;simp
   ·have:¬c % 64=j % 64:=by omega
    simp [this,e2]
  ·rw [if_neg e,h.2 j hj]
   have:¬j=c:=by intro e';subst e';exact e rfl
   simp [this]
theorem orW{a b:Nat}(ha:a<18446744073709551616)(hb:b<18446744073709551616):bits .or .u64 (a:Int) (b:Int)=((a ||| b:Nat):Int):=bits_or_u64_nat a b ha hb
theorem andW{a b:Nat}(ha:a<18446744073709551616)(hb:b<18446744073709551616):bits .and .u64 (a:Int) (b:Int)=((a &&& b:Nat):Int):=bits_and_u64_nat a b ha hb
theorem powW{k:Nat}(hk:k<64):IntKind.u64.wrap ((2:Int) ^ k)=((2 ^ k:Nat):Int):=by
 have h1:(2:Nat) ^ k<2 ^ 64:=Nat.pow_lt_pow_right (by omega) hk
 have h2:((2 ^ k:Nat):Int)=(2:Int) ^ k:=by simp
 rw [← h2,IntKind.wrap_u64]
 have h3:(2:Nat) ^ 64=18446744073709551616:=by decide
 rw [h3] at h1;clear h2 h3;generalize (2:Nat) ^ k=z at *;omega
theorem zAD.c4{w:World}{B:Nat}{q:Nat→Nat}{T:TypeId}(h:zAD w B (setC q) T):w.cell? ⟨B,0,none⟩=some (.int .u64 (q 0:Nat))∧w.cell? ⟨B,1,none⟩=some (.int .u64 (q 1:Nat))∧w.cell? ⟨B,2,none⟩=some (.int .u64 (q 2:Nat))∧w.cell? ⟨B,3,none⟩=some (.int .u64 (q 3:Nat)):=
 ⟨h.cell 0 _ rfl,h.cell 1 _ rfl,h.cell 2 _ rfl,h.cell 3 _ rfl⟩
theorem zAD.s4{w:World}{B:Nat}{q:Nat→Nat}{T:TypeId}(h:zAD w B (setC q) T){t:Nat}(ht:t<4)(x:Nat):zAD (w.setCell ⟨B,t,none⟩ (.int .u64 (x:Nat))) B (setC (fun k=>if k=t then x else q k)) T:=by
 have:=h.set t (.int .u64 (x:Nat))
 have e:(setC q).setIfInBounds t (.int .u64 (x:Nat))=setC (fun k=>if k=t then x else q k):=by
  obtain rfl | rfl | rfl | rfl:t=0∨t=1∨t=2∨t=3:=by omega
  all_goals rfl
 rw [e] at this;exact this
set_option maxRecDepth 100000 in
set_option maxHeartbeats 1600000 in
theorem zID{w:World}{B:Nat}{q:Nat→Nat}{f:Nat→Bool}(hB:zAD w B (setC q) 240)(hf:SetF q f)(c:Nat)(hc:c<256):
  Calls Tryz.prog 204 #[.pointer (some ⟨B,0,none⟩),.int .u8 c] w fun e w'=>e= .returned (.tuple #[])∧zAD w' B (setC (fun t=>if t=c / 64 then q t ||| 2 ^ (c % 64) else q t)) 240∧Ch [B] w w':=by
 obtain ⟨x0,x1,x2,x3⟩:=hB.c4;have fz:=hB.frozen;have HP:=hide (powW (k:=c % 64) (by omega))
 have hp:2 ^ (c % 64)<18446744073709551616:=by
  have:2 ^ (c % 64)<2 ^ 64:=Nat.pow_lt_pow_right (by omega) (by omega)
  simpa using this
 have HO:Hid (∀t,bits .or .u64 (q t:Int) (IntKind.u64.wrap ((2:Int) ^ (c % 64)))=((q t ||| 2 ^ (c % 64):Nat):Int)):=by
  intro t;rw [HP.out];exact orW (hf.1 t) hp
 have HC:Hid (∀t,t<4→t=c / 64→∀w1:World,(w1=(w.setCell ⟨B,t,none⟩ (.int .u64 (bits .or .u64 (q t:Int) (IntKind.u64.wrap ((2:Int) ^ (c % 64)))))).drew)→zAD w1 B (setC (fun t=>if t=c / 64 then q t ||| 2 ^ (c % 64) else q t)) 240∧Ch [B] w w1):=by
  intro t ht e w1 e1;subst e1;rw [HO.out t];have h4:=hB.s4 ht (q t ||| 2 ^ (c % 64))
  rw [show (fun k=>if k=t then q t ||| 2 ^ (c % 64) else q k)=(fun k=>if k=c / 64 then q k ||| 2 ^ (c % 64) else q k) from by
   funext k;rw [← e];by_cases ek:k=t
   ·subst ek;simp
   ·simp [ek]] at h4
  exact ⟨h4,(Ch.setCell _ (by simp) _).trans (Ch.drew _ _)⟩
 clear hp
 obtain h0 | h0 | h0 | h0:c / 64=0∨c / 64=1∨c / 64=2∨c / 64=3:=by omega
 all_goals
  have HE:=hide h0;go_enter Tryz.func204,Tryz.ntmps204;go_wp2_with fail;go_region
  go_end0
 ·exact ⟨rfl,HC.out 0 (by omega) HE.out.symm _ rfl⟩
 ·exact ⟨rfl,HC.out 1 (by omega) HE.out.symm _ rfl⟩
 ·exact ⟨rfl,HC.out 2 (by omega) HE.out.symm _ rfl⟩
 ·exact ⟨rfl,HC.out 3 (by omega) HE.out.symm _ rfl⟩
end Go.Proofs.YteobgfbgglfkbaaGreat
namespace Go.Proofs.YteobgfbgglfkbaaGreat
open Go.RowKit
attribute [local go_sem ↓] Go.wp_at_zero Go.wp_at_succ
theorem zAD.fill{w5:World}{H:Nat}{q:Nat→Nat}{T:TypeId}(R:zAD w5 H (setC q) T)(q':Nat→Nat):
  zAD ((((w5.setCell ⟨H,0,none⟩ (.int .u64 (q' 0:Nat))).setCell ⟨H,1,none⟩ (.int .u64 (q' 1:Nat))).setCell ⟨H,2,none⟩ (.int .u64 (q' 2:Nat))).setCell ⟨H,3,none⟩ (.int .u64 (q' 3:Nat))) H (setC q') T∧
  Ch [H] w5 ((((w5.setCell ⟨H,0,none⟩ (.int .u64 (q' 0:Nat))).setCell ⟨H,1,none⟩ (.int .u64 (q' 1:Nat))).setCell ⟨H,2,none⟩ (.int .u64 (q' 2:Nat))).setCell ⟨H,3,none⟩ (.int .u64 (q' 3:Nat))):=by
 refine ⟨?_,(((Ch.setCell _ (by simp) _).trans (Ch.setCell _ (by simp) _)).trans (Ch.setCell _ (by simp) _)).trans (Ch.setCell _ (by simp) _)⟩;have:=(((R.s4 (t:=0) (by omega) (q' 0)).s4 (t:=1) (by omega) (q' 1)).s4 (t:=2) (by omega) (q' 2)).s4 (t:=3) (by omega) (q' 3);exact this
theorem idx4(w:World)(x0 x1 x2 x3:Int):Sem.run Tryz.prog (Instr.index 154 (.agg #[.int .u64 x0,.int .u64 x1,.int .u64 x2,.int .u64 x3]) (.int .i64 0)) w= .ok (.int .u64 x0) w∧Sem.run Tryz.prog (Instr.index 154 (.agg #[.int .u64 x0,.int .u64 x1,.int .u64 x2,.int .u64 x3]) (.int .i64 1)) w= .ok (.int .u64 x1) w∧
  Sem.run Tryz.prog (Instr.index 154 (.agg #[.int .u64 x0,.int .u64 x1,.int .u64 x2,.int .u64 x3]) (.int .i64 2)) w= .ok (.int .u64 x2) w∧Sem.run Tryz.prog (Instr.index 154 (.agg #[.int .u64 x0,.int .u64 x1,.int .u64 x2,.int .u64 x3]) (.int .i64 3)) w= .ok (.int .u64 x3) w:=by
 refine ⟨?_,?_,?_,?_⟩
 all_goals simp [Instr.index,run_underlying Tryz.underlying154,asIntOf,go_sem]
theorem zDt{w5:World}{H:Nat}{op q1:Nat→Nat}{T:TypeId}(i:Nat)(hi:i<4)(B:zAD w5 H (setC (fun t=>if t<i then op t else q1 t)) T):
  zAD (w5.setCell ⟨H,i,none⟩ (.int .u64 (op i:Nat))) H (setC (fun t=>if t<i+1 then op t else q1 t)) T:=by
 have:=B.s4 hi (op i)
 rw [show (fun k=>if k=i then op i else (fun t=>if t<i then op t else q1 t) k)=(fun t=>if t<i+1 then op t else q1 t) from by
  funext k
  by_cases e:k=i
  ·subst e;simp
  ·simp only [if_neg e]
   by_cases e2:k<i
   ·rw [if_pos e2,if_pos (by omega)]
   ·rw [if_neg e2,if_neg (by omega)]] at this
 exact this
set_option maxRecDepth 100000 in
set_option maxHeartbeats 1600000 in
theorem orb_any{w:World}{q1 q2:Nat→Nat}(h1:Wd q1)(h2:Wd q2):
  Calls Tryz.prog 212 #[setV q1,setV q2] w fun e w'=>e= .returned (setV (fun t=>q1 t ||| q2 t))∧Ch [] w w':=by
 have HO:Hid (∀t,bits .or .u64 (q1 t:Int) (q2 t:Int)=((q1 t ||| q2 t:Nat):Int)):=fun t=>orW (h1 t) (h2 t)
 have e1:setV q1= .agg #[.int .u64 (q1 0:Nat),.int .u64 (q1 1:Nat),.int .u64 (q1 2:Nat),.int .u64 (q1 3:Nat)]:=rfl;have e2:setV q2= .agg #[.int .u64 (q2 0:Nat),.int .u64 (q2 1:Nat),.int .u64 (q2 2:Nat),.int .u64 (q2 3:Nat)]:=rfl;rw [e1,e2];clear e1 e2;go_enter Tryz.func212,Tryz.ntmps212;go_wp2_with fail;have b0:zAD (((w.alloc (.cells (setC q1) 240)).alloc (.cells (setC q2) 240)).alloc (.cells (setC fun _=>0) 240)) w.heap.size (setC q1) 240:=((zAD.new w _ _).keep (Ch.alloc [] _ _) (by simp)).keep (Ch.alloc [] _ _) (by simp)
 have b2:zAD (((w.alloc (.cells (setC q1) 240)).alloc (.cells (setC q2) 240)).alloc (.cells (setC fun _=>0) 240)) (w.heap.size+1+1) (setC fun _=>0) 240:=by
  have:=zAD.new ((w.alloc (.cells (setC q1) 240)).alloc (.cells (setC q2) 240)) (setC fun _=>0) 240
  simpa using this
 have g0:Ch [] w (((w.alloc (.cells (setC q1) 240)).alloc (.cells (setC q2) 240)).alloc (.cells (setC fun _=>0) 240)):=((Ch.alloc _ _ _).trans (Ch.alloc _ _ _)).trans (Ch.alloc _ _ _)
 go_loopw [5,6,9] (fun _ _ v9 w5=>∃i:Int,(0≤i∧i≤4)∧v9= .int .i64 i∧zAD w5 w.heap.size (setC (fun t=>if t<i.toNat then q1 t ||| q2 t else q1 t)) 240∧zAD w5 (w.heap.size+1+1) (setC fun _=>0) 240∧Ch [] w w5) (fun _ _ v9 _=>4 - (match v9 with | .int _ x=>x.toNat | _=>0))
 case atStart=>exact ⟨0,by omega,rfl,(zFN (q:=q1) (q':=fun t=>if t<Int.toNat 0 then q1 t ||| q2 t else q1 t) (fun t _=>by simp)) ▸ b0,b2,g0⟩
 case round=>
  generalize wr=w5 at *;obtain ⟨i,hi,rfl,B5,R5,g5⟩:=hrel;clear b0 b2 g0;obtain ⟨x0,x1,x2,x3⟩:=B5.c4;obtain ⟨y0,y1,y2,y3⟩:=R5.c4;have fz:=B5.frozen;have fy:=R5.frozen;have B5x:=hide B5;have R5x:=hide R5;clear B5 R5
  obtain rfl | rfl | rfl | rfl | rfl:i=0∨i=1∨i=2∨i=3∨i=4:=by omega
  rotate_right
  ·simp at x0 x1 x2 x3 y0 y1 y2 y3
   go_wp2_with fail;obtain ⟨R6,G6⟩:=R5x.out.fill (fun t=>q1 t ||| q2 t);have g6:=g5.trans' G6 (by intro k hk;simp at hk;omega)
   try simp only at R6 g6
   generalize (((w5.setCell ⟨w.heap.size+1+1,0,none⟩ (.int .u64 (q1 0 ||| q2 0:Nat))).setCell ⟨w.heap.size+1+1,1,none⟩ (.int .u64 (q1 1 ||| q2 1:Nat))).setCell ⟨w.heap.size+1+1,2,none⟩ (.int .u64 (q1 2 ||| q2 2:Nat))).setCell ⟨w.heap.size+1+1,3,none⟩ (.int .u64 (q1 3 ||| q2 3:Nat))=w6 at *;clear x0 x1 x2 x3 y0 y1 y2 y3;obtain ⟨y0,y1,y2,y3⟩:=R6.c4
   try simp only at y0 y1 y2 y3
   exact bodyPost_ret (v:=setV (fun t=>q1 t ||| q2 t)) (by simp [results,Tryz.results212,go_sem,setV,setC,y0,y1,y2,y3]) rfl ⟨rfl,g6⟩
  all_goals
   simp at x0 x1 x2 x3 y0 y1 y2 y3;obtain ⟨ix0,ix1,ix2,ix3⟩:=idx4 w5 (q2 0) (q2 1) (q2 2) (q2 3);go_wp2_with fail;rw [HO.out];go_roundw
   case measure=>simp
  case rel=>exact ⟨1,by omega,rfl,zDt (op:=fun t=>q1 t ||| q2 t) 0 (by omega) B5x.out,R5x.out.keep (Ch.setCell (X:=[w.heap.size]) _ (by simp) _) (by simp;omega),g5.trans' (Ch.setCell (X:=[w.heap.size]) _ (by simp) _) (by simp)⟩
  case rel=>exact ⟨2,by omega,rfl,zDt (op:=fun t=>q1 t ||| q2 t) 1 (by omega) B5x.out,R5x.out.keep (Ch.setCell (X:=[w.heap.size]) _ (by simp) _) (by simp;omega),g5.trans' (Ch.setCell (X:=[w.heap.size]) _ (by simp) _) (by simp)⟩
  case rel=>exact ⟨3,by omega,rfl,zDt (op:=fun t=>q1 t ||| q2 t) 2 (by omega) B5x.out,R5x.out.keep (Ch.setCell (X:=[w.heap.size]) _ (by simp) _) (by simp;omega),g5.trans' (Ch.setCell (X:=[w.heap.size]) _ (by simp) _) (by simp)⟩
  case rel=>exact ⟨4,by omega,rfl,zDt (op:=fun t=>q1 t ||| q2 t) 3 (by omega) B5x.out,R5x.out.keep (Ch.setCell (X:=[w.heap.size]) _ (by simp) _) (by simp;omega),g5.trans' (Ch.setCell (X:=[w.heap.size]) _ (by simp) _) (by simp)⟩
set_option maxRecDepth 100000 in
set_option maxHeartbeats 1600000 in
theorem zFo{w:World}(a c:Nat)(ha:a<256)(hc:c<256):
  Calls Tryz.prog 187 #[.int .u8 a,.int .u8 c] w fun e w'=>∃q,e= .returned (setV q)∧SetF q (fun j=>decide (a≤j) && decide (j≤c))∧Ch [] w w':=by
 go_enter Tryz.func187,Tryz.ntmps187;go_wp2_with fail;have b0:zAD ((w.alloc (.cells (setC fun _=>0) 240)).alloc (.cells (setC fun _=>0) 240)) w.heap.size (setC fun _=>0) 240:=(zAD.new w _ _).keep (Ch.alloc [] _ _) (by simp)
 have b1:zAD ((w.alloc (.cells (setC fun _=>0) 240)).alloc (.cells (setC fun _=>0) 240)) (w.heap.size+1) (setC fun _=>0) 240:=by
  have:=zAD.new (w.alloc (.cells (setC fun _=>0) 240)) (setC fun _=>0) 240
  simpa using this
 have g0:Ch [] w ((w.alloc (.cells (setC fun _=>0) 240)).alloc (.cells (setC fun _=>0) 240)):=(Ch.alloc _ _ _).trans (Ch.alloc _ _ _)
 go_loopw [6] (fun v6 w5=>∃(n:Nat) (q:Nat→Nat),n≤256∧a≤n∧v6= .int .i64 n∧zAD w5 (w.heap.size+1) (setC q) 240∧SetF q (fun j=>decide (a≤j) && decide (j<n))∧(n≤c+1∨n=a)∧zAD w5 w.heap.size (setC fun _=>0) 240∧Ch [] w w5) (fun v6 _=>256 - (match v6 with | .int _ x=>x.toNat | _=>0))
 case atStart=>exact ⟨a,fun _=>0,by omega,by omega,rfl,b1,SetF.zero.congr (fun j _=>by simp),Or.inr rfl,b0,g0⟩
 case round=>
  generalize wr=w5 at *;obtain ⟨n,q,hn,han,rfl,B5,F5,hnc,R5,g5⟩:=hrel;clear b0 b1 g0
  by_cases hle:(n:Int)≤c
  ·have hw8:IntKind.u8.wrap (n:Int)=(n:Int):=by rw [IntKind.wrap_u8];omega
   have l2:(n:Int)<256:=by omega
   go_wp2_with fail;refine (zID B5 F5 n (by omega)).mono ?_;rintro e w6 ⟨rfl,B6,G6⟩;have g6:=g5.trans' G6 (by intro k hk;simp at hk;omega);go_wp2_with fail;go_roundw
   case rel=>
    refine ⟨n+1,_,by omega,by omega,rfl,B6,(F5.add (c:=n) (by omega)).congr ?_,by omega,R5.keep G6 (by simp),g6⟩;intro j hj;rw [Bool.eq_iff_iff];simp;omega
   case measure=>simp;omega
  ·have F6:SetF q (fun j=>decide (a≤j) && decide (j≤c)):=F5.congr (by intro j hj;rw [Bool.eq_iff_iff];simp;omega)
   obtain ⟨x0,x1,x2,x3⟩:=B5.c4;obtain ⟨y0,y1,y2,y3⟩:=R5.c4;have fz:=B5.frozen;have fy:=R5.frozen;have R5x:=hide R5;clear B5 R5 F5;go_wp2_with fail;obtain ⟨R6,G6⟩:=R5x.out.fill q;have g6:=g5.trans' G6 (by intro k hk;simp at hk;omega)
   try simp only at R6 g6
   generalize (((w5.setCell ⟨w.heap.size,0,none⟩ (.int .u64 (q 0:Nat))).setCell ⟨w.heap.size,1,none⟩ (.int .u64 (q 1:Nat))).setCell ⟨w.heap.size,2,none⟩ (.int .u64 (q 2:Nat))).setCell ⟨w.heap.size,3,none⟩ (.int .u64 (q 3:Nat))=w6 at *;clear x0 x1 x2 x3 y0 y1 y2 y3;obtain ⟨y0,y1,y2,y3⟩:=R6.c4;exact bodyPost_ret (v:=setV q) (by simp [results,Tryz.results187,go_sem,setV,setC,y0,y1,y2,y3]) rfl ⟨q,rfl,F6,g6⟩
end Go.Proofs.YteobgfbgglfkbaaGreat
namespace Go.Proofs.YteobgfbgglfkbaaGreat
open Go.RowKit
attribute [local go_sem ↓] Go.wp_at_zero Go.wp_at_succ
theorem bitW{a:Nat}(ha:a<18446744073709551616)(k:Nat):(bits .and .u64 ((a:Int) / 2 ^ k) 1==1)=a.testBit k:=by
 have h1:((a:Int) / 2 ^ k)=((a / 2 ^ k:Nat):Int):=by simp
 have h2:a / 2 ^ k<18446744073709551616:=Nat.lt_of_le_of_lt (Nat.div_le_self _ _) ha;rw [h1,show (1:Int)=((1:Nat):Int) from rfl,andW h2 (by omega),Nat.and_one_is_mod,Nat.testBit_eq_decide_div_mod_eq];rw [Bool.eq_iff_iff];simp;omega
set_option maxRecDepth 100000 in
set_option maxHeartbeats 1600000 in
theorem zFD{w:World}{q:Nat→Nat}{f:Nat→Bool}(hf:SetF q f)(c:Nat)(hc:c<256):
  Calls Tryz.prog 156 #[setV q,.int .u8 c] w fun e w'=>e= .returned (.bool (f c))∧Ch [] w w':=by
 have e1:setV q= .agg #[.int .u64 (q 0:Nat),.int .u64 (q 1:Nat),.int .u64 (q 2:Nat),.int .u64 (q 3:Nat)]:=rfl;rw [e1];clear e1
 obtain h0 | h0 | h0 | h0:c / 64=0∨c / 64=1∨c / 64=2∨c / 64=3:=by omega
 all_goals
  have HE:=hide h0;go_enter Tryz.func156,Tryz.ntmps156;go_wp2_with fail;go_ret
 ·exact ⟨by show Ending.returned (.bool _)=_;rw [bitW (hf.1 0),← hf.2 c hc,HE.out],Ch.alloc _ _ _⟩
 ·exact ⟨by show Ending.returned (.bool _)=_;rw [bitW (hf.1 1),← hf.2 c hc,HE.out],Ch.alloc _ _ _⟩
 ·exact ⟨by show Ending.returned (.bool _)=_;rw [bitW (hf.1 2),← hf.2 c hc,HE.out],Ch.alloc _ _ _⟩
 ·exact ⟨by show Ending.returned (.bool _)=_;rw [bitW (hf.1 3),← hf.2 c hc,HE.out],Ch.alloc _ _ _⟩
end Go.Proofs.YteobgfbgglfkbaaGreat
namespace Go.Proofs.YteobgfbgglfkbaaGreat
open Go.RowKit
attribute [local go_sem ↓] Go.wp_at_zero Go.wp_at_succ
theorem zDW{e a:Int}{s:St}:sayS false e a s=s:=by simp [sayS]
theorem zBt{q:Bool}{e a:Int}{s:St}:(sayS q e a s).i=s.i:=by unfold sayS;split <;>rfl
def zEc(S:ByteArray)(s:St):Except Nat ((ByteArray×Nat)×St):=
 match zBW S s with
 |.error d=> .error d
 |.ok ((x,a),s1)=> .ok ((x,a),sayS (decide (4<(x.size:Int))) 3 a s1)
def zEO(p:ByteArray×Nat)(v:Value)(_:World):Prop:=v= .tuple #[.string p.1,.int .i64 p.2]
set_option maxRecDepth 100000 in
set_option maxHeartbeats 1600000 in
theorem zFq{w:World}{b:Nat}{S:ByteArray}{s:St}{v5 v6 v7:Value}(h:RdAt w b S s v5 v6 v7)(hS:S.size≤400)(hi:s.i≤S.size):
  Calls Tryz.prog 152 #[.pointer (some ⟨b,0,none⟩)] w (zEN w b S v5 v6 v7 zEO (zEc S s)):=by
 go_enter Tryz.func152,Tryz.ntmps152;go_wp2_with fail;refine (zEp h hS hi 3 (by omega)).mono ?_;rintro e w1 ⟨g1,⟨p,s1,ht,rfl,h1,hi1⟩ | ⟨d,ht,hg,_⟩⟩
 ·rw [zGV hi (k:=3) (c:=34) (by simp [oneP])] at ht
  have HT:Hid (∀r,zCK S (S.size+1) s1 ByteArray.empty=r→zBW S s=match r with | .ok (x,s')=> .ok ((x,p),s') | .error d=> .error d):=by
   intro r hr;unfold zAJ at ht
   by_cases hb:bt S (run isBl S s.i)=34
   ·rw [if_pos hb] at ht
    injection ht with ht;injection ht with h1 h2;subst h1 h2
    unfold zBW;simp only [hb,if_true,hr]
    try rfl
   ·rw [if_neg hb] at ht
    cases ht
  clear ht;go_wp2_with fail;refine (zJm h1 hS hi1).mono ?_;rintro e w2 ⟨g2,⟨x,s2,v,hl,rfl,hv,h2⟩ | ⟨d,hl,hg⟩⟩
  ·unfold zM3 at hv
   subst hv
   have HR:Hid (zEc S s= .ok ((x,p),sayS (decide (4<(x.size:Int))) 3 p s2)):=by
    show _=_
    have:=HT.out _ hl;simp only at this;simp only [zEc,this]
   clear hl
   by_cases hx:(4:Int)<x.size
   ·go_wp2_with fail
    refine (zDl h2 3 p).mono ?_;rintro e w3 ⟨rfl,h3,g3⟩;go_wp2_with fail;go_ret2;exact ⟨g1.trans (g2.trans g3),Or.inl ⟨(x,p),_,_,HR.out,rfl,rfl,by simpa [hx] using h3⟩⟩
   ·go_wp2_with fail
    go_ret2;exact ⟨g1.trans g2,Or.inl ⟨(x,p),_,_,HR.out,rfl,rfl,by rw [decide_eq_false (by omega:¬(4:Int)<x.size),zDW];exact h2⟩⟩
  ·have HR:Hid (zEc S s= .error d):=by
    show _=_
    have:=HT.out _ hl;simp only at this;simp only [zEc,this]
   clear hl;obtain ⟨rfl,ht⟩:=hg;exact zAF rfl ⟨g1.trans g2,Or.inr ⟨d,HR.out,⟨rfl,ht⟩⟩⟩
 ·rw [zGV hi (k:=3) (c:=34) (by simp [oneP])] at ht
  have HR:Hid (zEc S s= .error d):=by
   show _=_
   unfold zAJ at ht
   by_cases hb:bt S (run isBl S s.i)=34
   ·rw [if_pos hb] at ht;cases ht
   ·rw [if_neg hb] at ht
    injection ht with ht;subst ht
    simp only [zEc,zBW,if_neg hb]
  clear ht;obtain ⟨rfl,ht⟩:=hg;exact zAF rfl ⟨g1,Or.inr ⟨d,HR.out,⟨rfl,ht⟩⟩⟩
def isCls(L:List (Int×Int))(v:Value)(_:World):Prop:=∃q,v=setV q∧SetF q (zAj L)
def isItem(p:Int×Int)(v:Value)(w:World):Prop:=isCls [p] v w
set_option maxRecDepth 100000 in
set_option maxHeartbeats 1600000 in
theorem zK5{w:World}{b:Nat}{S:ByteArray}{s:St}{v5 v6 v7:Value}(h:RdAt w b S s v5 v6 v7)(hS:S.size≤400)(hi:s.i≤S.size):
  Calls Tryz.prog 211 #[.pointer (some ⟨b,0,none⟩)] w (zEN w b S v5 v6 v7 isItem (zBz S s)):=by
 have hbl:=h.lt;have h0:=h.keep (Ch.alloc [] w (.cells (setC fun _=>0) 240)) (by simp);have B0:=zAD.new w (setC fun _=>0) 240;have g0:=Ch.alloc [b] w (.cells (setC fun _=>0) 240);go_enter Tryz.func211,Tryz.ntmps211;obtain ⟨c0,c1,c2,c3,c4,c5,c6,c7,fz⟩:=h0.facts
 change (w.alloc (.cells #[.int .u64 0,.int .u64 0,.int .u64 0,.int .u64 0] 240)).cell? _=_ at c1
 go_wp2_with fail;refine (zD2 h0 hS hi).mono ?_;rintro e w1 ⟨g1,⟨a,s1,v,hl,rfl,hv,h1⟩ | ⟨d,hl,hg⟩⟩
 ·unfold isU8 at hv
  subst hv;have lo:=zAv (by omega) hl;have B1:=B0.keep g1 (by simp;omega);have G1:=g0.trans g1;have HL:=hide hl;clear hl c0 c1 c2 c3 c4 c5 c6 c7 fz;obtain ⟨A,rfl⟩:∃A:Nat,a=A:=⟨a.toNat,by omega⟩
  by_cases hb:bt S s1.i=45
  ·go_wp2_with fail
   refine (zBB h1 hS 45 (by decide) hb).mono ?_;rintro e w2 ⟨rfl,h2,g2⟩;have hlt:=zAy (S:=S) (i:=s1.i) (by omega);have HB:=hide hb;clear hb;go_wp2_with fail;refine (zD2 h2 hS hlt).mono ?_;rintro e w3 ⟨g3,⟨c,s3,v,hl,rfl,hv,h3⟩ | ⟨d,hl,hg⟩⟩
   ·unfold isU8 at hv
    subst hv;have lo3:=zAv (by omega) hl
    have HR:Hid (zBz S s= .ok (((A:Int),c),sayS (decide (c<A)) 6 s.i s3)):=by
     show _=_
     simp only [zBz,HL.out,HB.out,if_true,hl]
    clear hl;obtain ⟨C,rfl⟩:∃C:Nat,c=C:=⟨c.toNat,by omega⟩;have B3:=(B1.keep g2 (by simp;omega)).keep g3 (by simp;omega);have G3:=(G1.trans g2).trans g3
    by_cases hlt2:(C:Int)<A
    ·go_wp2_with fail
     refine (zDl h3 6 s.i).mono ?_;rintro e w4 ⟨rfl,h4,g4⟩;have B4:=B3.keep g4 (by simp;omega);have G4:=G3.trans g4;go_wp2_with fail;refine (zFo A C (by omega) (by omega)).mono ?_;rintro e w5 ⟨q,rfl,F5,g5⟩;have h5:=h4.keep g5 (by simp);have B5:=B4.keep g5 (by simp);have G5:=G4.trans (g5.mono (by simp));obtain ⟨y0,y1,y2,y3⟩:=B5.c4;have fy:=B5.frozen;rw [show setV q= .agg #[.int .u64 (q 0:Nat),.int .u64 (q 1:Nat),.int .u64 (q 2:Nat),.int .u64 (q 3:Nat)] from rfl];go_wp2_with fail;obtain ⟨R6,G6⟩:=B5.fill q;have g6:=G5.trans' G6 (by intro k hk;simp at hk;omega);have h6:=h5.keep G6 (by simp;omega);generalize (((w5.setCell ⟨w.heap.size,0,none⟩ (.int .u64 (q 0:Nat))).setCell ⟨w.heap.size,1,none⟩ (.int .u64 (q 1:Nat))).setCell ⟨w.heap.size,2,none⟩ (.int .u64 (q 2:Nat))).setCell ⟨w.heap.size,3,none⟩ (.int .u64 (q 3:Nat))=w6 at *;clear y0 y1 y2 y3;obtain ⟨y0,y1,y2,y3⟩:=R6.c4;exact bodyPost_ret (v:=setV q) (by simp [results,Tryz.results211,go_sem,setV,setC,y0,y1,y2,y3]) rfl ⟨g6,Or.inl ⟨_,_,_,HR.out,rfl,⟨q,rfl,F5.congr (fun j _=>by simp [zAj])⟩,by simpa [hlt2] using h6⟩⟩
    ·go_wp2_with fail
     refine (zFo A C (by omega) (by omega)).mono ?_;rintro e w5 ⟨q,rfl,F5,g5⟩;have h5:=h3.keep g5 (by simp);have B5:=B3.keep g5 (by simp);have G5:=G3.trans (g5.mono (by simp));obtain ⟨y0,y1,y2,y3⟩:=B5.c4;have fy:=B5.frozen;rw [show setV q= .agg #[.int .u64 (q 0:Nat),.int .u64 (q 1:Nat),.int .u64 (q 2:Nat),.int .u64 (q 3:Nat)] from rfl];go_wp2_with fail;obtain ⟨R6,G6⟩:=B5.fill q;have g6:=G5.trans' G6 (by intro k hk;simp at hk;omega);have h6:=h5.keep G6 (by simp;omega);generalize (((w5.setCell ⟨w.heap.size,0,none⟩ (.int .u64 (q 0:Nat))).setCell ⟨w.heap.size,1,none⟩ (.int .u64 (q 1:Nat))).setCell ⟨w.heap.size,2,none⟩ (.int .u64 (q 2:Nat))).setCell ⟨w.heap.size,3,none⟩ (.int .u64 (q 3:Nat))=w6 at *;clear y0 y1 y2 y3;obtain ⟨y0,y1,y2,y3⟩:=R6.c4;exact bodyPost_ret (v:=setV q) (by simp [results,Tryz.results211,go_sem,setV,setC,y0,y1,y2,y3]) rfl ⟨g6,Or.inl ⟨_,_,_,HR.out,rfl,⟨q,rfl,F5.congr (fun j _=>by simp [zAj])⟩,by rw [decide_eq_false (by omega:¬(C:Int)<A),zDW];exact h6⟩⟩
   ·have HR:Hid (zBz S s= .error d):=by
     show _=_
     simp only [zBz,HL.out,HB.out,if_true,hl]
    clear hl;obtain ⟨rfl,ht⟩:=hg;exact zAF rfl ⟨(G1.trans g2).trans g3,Or.inr ⟨d,HR.out,⟨rfl,ht⟩⟩⟩
  ·go_wp2_with fail
   refine (zA3 h1 hS lo.2.1 45 hb).mono ?_;rintro e w2 ⟨rfl,h2,g2⟩
   have HR:Hid (zBz S s= .ok (((A:Int),(A:Int)),s1)):=by
    show _=_
    simp only [zBz,HL.out,if_neg hb]
   have B3:=B1.keep g2 (by simp;omega);have G3:=G1.trans g2;clear hb
   have hn:¬(A:Int)<A:=by omega
   go_wp2_with fail;refine (zFo A A (by omega) (by omega)).mono ?_;rintro e w5 ⟨q,rfl,F5,g5⟩;have h5:=h2.keep g5 (by simp);have B5:=B3.keep g5 (by simp);have G5:=G3.trans (g5.mono (by simp));obtain ⟨y0,y1,y2,y3⟩:=B5.c4;have fy:=B5.frozen;rw [show setV q= .agg #[.int .u64 (q 0:Nat),.int .u64 (q 1:Nat),.int .u64 (q 2:Nat),.int .u64 (q 3:Nat)] from rfl];go_wp2_with fail;obtain ⟨R6,G6⟩:=B5.fill q;have g6:=G5.trans' G6 (by intro k hk;simp at hk;omega);have h6:=h5.keep G6 (by simp;omega);generalize (((w5.setCell ⟨w.heap.size,0,none⟩ (.int .u64 (q 0:Nat))).setCell ⟨w.heap.size,1,none⟩ (.int .u64 (q 1:Nat))).setCell ⟨w.heap.size,2,none⟩ (.int .u64 (q 2:Nat))).setCell ⟨w.heap.size,3,none⟩ (.int .u64 (q 3:Nat))=w6 at *;clear y0 y1 y2 y3;obtain ⟨y0,y1,y2,y3⟩:=R6.c4;exact bodyPost_ret (v:=setV q) (by simp [results,Tryz.results211,go_sem,setV,setC,y0,y1,y2,y3]) rfl ⟨g6,Or.inl ⟨_,_,_,HR.out,rfl,⟨q,rfl,F5.congr (fun j _=>by simp [zAj])⟩,h6⟩⟩
 ·have HR:Hid (zBz S s= .error d):=by
   show _=_
   simp only [zBz,hl]
  clear hl;obtain ⟨rfl,ht⟩:=hg;exact zAF rfl ⟨g0.trans g1,Or.inr ⟨d,HR.out,⟨rfl,ht⟩⟩⟩
end Go.Proofs.YteobgfbgglfkbaaGreat
namespace Go.Proofs.YteobgfbgglfkbaaGreat
open Go.RowKit
attribute [local go_sem ↓] Go.wp_at_zero Go.wp_at_succ
theorem zLj(L:List (Int×Int))(p:Int×Int)(j:Nat):zAj (L++[p]) j=(zAj L j || zAj [p] j):=by
 simp [zAj]
def zFM(S:ByteArray)(n:Nat)(s:St)(L:List (Int×Int)):Except Nat (List (Int×Int)×St):=
 if bt S s.i=93 then .ok (L,{s with i:=s.i+1}) else zA6 S n s L
theorem zJF{S:ByteArray}{n:Nat}{s s1:St}{L:List (Int×Int)}{p:Int×Int}(h:zBz S s= .ok (p,s1)):zA6 S (n+1) s L=zFM S n s1 (L++[p]):=by
 simp only [zA6,h,zFM]
theorem zHZ{S:ByteArray}{n:Nat}{s:St}{L:List (Int×Int)}{d:Nat}(h:zBz S s= .error d):zA6 S (n+1) s L= .error d:=by
 simp only [zA6,h]
theorem zLC{S:ByteArray}{s s':St}{p:Int×Int}(h:zBz S s= .ok (p,s')):s.i<s'.i∧s'.i≤S.size:=by
 unfold zBz at h
 cases h1:zAO S 33 zAe s with
 |error d=>rw [h1] at h;cases h
 |ok q=>
  obtain ⟨a,s1⟩:=q;have l1:=zAv (by omega) h1;rw [h1] at h;simp only at h
  by_cases hb:bt S s1.i=45
  ·rw [if_pos hb] at h
   cases h2:zAO S 33 zAe {s1 with i:=s1.i+1} with
   |error d=>rw [h2] at h;cases h
   |ok q2=>
    obtain ⟨c,s2⟩:=q2;have l2:=zAv (by omega) h2;rw [h2] at h;simp only at h
    injection h with h;injection h with _ h;subst h
    rw [zBt];have:=l2.1;simp only at this;exact ⟨by omega,l2.2.1⟩
  ·rw [if_neg hb] at h
   injection h with h;injection h with _ h;subst h
   exact ⟨l1.1,l1.2.1⟩
set_option maxRecDepth 100000 in
set_option maxHeartbeats 3200000 in
theorem zJZ{w:World}{b:Nat}{S:ByteArray}{s:St}{v5 v6 v7:Value}(h:RdAt w b S s v5 v6 v7)(hS:S.size≤400)(hb:bt S s.i=91):
  Calls Tryz.prog 191 #[.pointer (some ⟨b,0,none⟩)] w (zEN w b S v5 v6 v7 isCls (zA2 S s)):=by
 have hbl:=h.lt;have h0:=h.keep (Ch.alloc [] w (.cells (setC fun _=>0) 240)) (by simp);have B0:=zAD.new w (setC fun _=>0) 240;have g0:=Ch.alloc [b] w (.cells (setC fun _=>0) 240);have hlt:=zAy (S:=S) (i:=s.i) (by omega)
 have HR:Hid (zA2 S s=zA6 S (S.size+1) {s with i:=s.i+1} []):=by show _=_;simp only [zA2,if_pos hb]
 go_enter Tryz.func191,Tryz.ntmps191;go_wp2_with fail;refine (zBB h0 hS 91 (by decide) hb).mono ?_;rintro e w1 ⟨rfl,h1,g1⟩;have HB:=hide hb;clear hb;have B1:=B0.keep g1 (by simp;omega);have G1:=g0.trans g1;go_wp2_with fail;refine (zK5 h1 hS hlt).mono ?_;rintro e w2 ⟨g2,⟨p,s2,v,hl,rfl,⟨q0,rfl,F2⟩,h2⟩ | ⟨d,hl,hg⟩⟩
 ·have HR2:Hid (zA2 S s=zFM S S.size s2 [p]):=HR.out.trans (zJF hl)
  have lt2:=zLC hl;simp only at lt2;clear hl;have B2:=B1.keep g2 (by simp;omega);have G2:=G1.trans g2;have z2:=G2.size;have hbl2:=h2.lt;have hH2:=B2.lt;rw [show setV q0= .agg #[.int .u64 (q0 0:Nat),.int .u64 (q0 1:Nat),.int .u64 (q0 2:Nat),.int .u64 (q0 3:Nat)] from rfl];go_wp2_with fail;have C3:zAD (w2.alloc (.cells (setC q0) 240)) w2.heap.size (setC q0) 240:=zAD.new w2 (setC q0) 240;have h3:=h2.keep (Ch.alloc [] w2 (.cells (setC q0) 240)) (by simp);have B3:=B2.keep (Ch.alloc [] w2 (.cells (setC q0) 240)) (by simp);have G3:=G2.trans (Ch.alloc [b] w2 (.cells (setC q0) 240))
  go_loopw [] (fun w5=>∃(L:List (Int×Int)) (s5:St) (n:Nat) (q:Nat→Nat),zAD w5 w2.heap.size (setC q) 240∧SetF q (zAj L)∧zAD w5 w.heap.size (setC fun _=>0) 240∧RdAt w5 b S s5 v5 v6 v7∧Ch [b] w w5∧S.size<n+s5.i∧s5.i≤S.size∧Hid (zA2 S s=zFM S n s5 L)) (fun w5=>S.size - penI b w5)
  case atStart=>exact ⟨[p],s2,S.size,q0,C3,F2,B3,h3,G3,by omega,lt2.2,HR2⟩
  case round=>
   generalize wr=w5 at *;clear C3 h3 B3 G3 HR2 F2;obtain ⟨L,s5,n,q,C5,F5,B5,h5,g5,hn,hi5,HR5⟩:=hrel;have z5:=g5.size
   by_cases hq:bt S s5.i=93
   ·have HR6:Hid (zA2 S s= .ok (L,{s5 with i:=s5.i+1})):=by show _=_;rw [HR5.out];simp only [zFM,if_pos hq]
    go_wp2_with fail;refine (zBB h5 hS 93 (by decide) hq).mono ?_;rintro e w6 ⟨rfl,h6,g6⟩;clear hq;have C6:=C5.keep g6 (by simp;omega);have B6:=B5.keep g6 (by simp;omega);have G6:=g5.trans g6;obtain ⟨x0,x1,x2,x3⟩:=C6.c4;obtain ⟨y0,y1,y2,y3⟩:=B6.c4;have fy:=B6.frozen;go_wp2_with fail;obtain ⟨R7,G7⟩:=B6.fill q;have g7:=G6.trans' G7 (by intro k hk;simp at hk;omega);have h7:=h6.keep G7 (by simp;omega);generalize (((w6.setCell ⟨w.heap.size,0,none⟩ (.int .u64 (q 0:Nat))).setCell ⟨w.heap.size,1,none⟩ (.int .u64 (q 1:Nat))).setCell ⟨w.heap.size,2,none⟩ (.int .u64 (q 2:Nat))).setCell ⟨w.heap.size,3,none⟩ (.int .u64 (q 3:Nat))=w7 at *;clear x0 x1 x2 x3 y0 y1 y2 y3;obtain ⟨y0,y1,y2,y3⟩:=R7.c4;exact bodyPost_ret (v:=setV q) (by simp [results,Tryz.results191,go_sem,setV,setC,y0,y1,y2,y3]) rfl ⟨g7,Or.inl ⟨_,_,_,HR6.out,rfl,⟨q,rfl,F5⟩,h7⟩⟩
   ·obtain ⟨n,rfl⟩:∃m,n=m+1:=⟨n - 1,by omega⟩
    have HR6:Hid (zA2 S s=zA6 S (n+1) s5 L):=by show _=_;rw [HR5.out];simp only [zFM,if_neg hq]
    go_wp2_with fail;refine (zA3 h5 hS hi5 93 hq).mono ?_;rintro e w6 ⟨rfl,h6,g6⟩;clear hq;have C6:=C5.keep g6 (by simp;omega);have B6:=B5.keep g6 (by simp;omega);have G6:=g5.trans g6;obtain ⟨x0,x1,x2,x3⟩:=C6.c4;go_wp2_with fail;have C6x:=hide C6;have z6:=g6.size
    go_region_with (first | (go_at_call 211;refine (zK5 (s:=s5) (S:=S) (b:=b) (v5:=v5) (v6:=v6) (v7:=v7) ?_ hS hi5).mono ?_;exact h6;rintro e w7 ⟨g7,⟨p7,s7,v9,hl,rfl,⟨q7,rfl,F7⟩,h7⟩ | ⟨d,hl,hg⟩⟩;rotate_left;(obtain ⟨rfl,ht⟩:=hg;exact zAF (P:=Tryz.prog) (fn:=Tryz.f191) rfl ⟨G6.trans ((Ch.drew _ _).trans g7),Or.inr ⟨d,HR6.out.trans (zHZ hl),⟨rfl,ht⟩⟩⟩);have C7:=(C6x.out.keep (Ch.drew [b] w6) (by simp;omega)).keep g7 (by simp;omega);obtain ⟨k0,k1,k2,k3⟩:=C7.c4;have HL:=hide hl;clear hl;rw [show setV q7= .agg #[.int .u64 (q7 0:Nat),.int .u64 (q7 1:Nat),.int .u64 (q7 2:Nat),.int .u64 (q7 3:Nat)] from rfl]) | (go_at_call 212;refine (orb_any (q1:=q) (q2:=q7) F5.1 F7.1).mono ?_;rintro e w8 ⟨rfl,g8⟩;have C8:=C7.keep g8 (by simp);obtain ⟨m0,m1,m2,m3⟩:=C8.c4;have fm:=C8.frozen;rw [show setV (fun t=>q t ||| q7 t)= .agg #[.int .u64 (q 0 ||| q7 0:Nat),.int .u64 (q 1 ||| q7 1:Nat),.int .u64 (q 2 ||| q7 2:Nat),.int .u64 (q 3 ||| q7 3:Nat)] from rfl]))
    all_goals
     have lt7:=zLC HL.out;obtain ⟨C9,G9⟩:=C8.fill (fun t=>q t ||| q7 t);have z7:=g7.size;have z8:=g8.size;have B9:=(((B6.keep (Ch.drew [b] w6) (by simp;omega)).keep g7 (by simp;omega)).keep g8 (by simp)).keep G9 (by simp;omega);have h9:=(h7.keep g8 (by simp)).keep G9 (by simp;omega);have g9:Ch [b] w _:=((G6.trans ((Ch.drew _ _).trans g7)).trans (g8.mono (by simp))).trans' G9 (by intro k hk;simp at hk;omega);go_roundw
     case rel=>exact ⟨_,_,_,_,_,_,_,⟨L++[p7],s7,n,_,C9,(F5.or F7).congr (fun j _=>(zLj L p7 j).symm),B9,h9,g9,by omega,lt7.2,HR6.out.trans (zJF HL.out)⟩,rfl⟩
     case measure=>rw [h5.penI,h9.penI];omega
 ·have HR2:Hid (zA2 S s= .error d):=HR.out.trans (zHZ hl)
  clear hl;obtain ⟨rfl,ht⟩:=hg;exact zAF rfl ⟨G1.trans g2,Or.inr ⟨d,HR2.out,⟨rfl,ht⟩⟩⟩
end Go.Proofs.YteobgfbgglfkbaaGreat
