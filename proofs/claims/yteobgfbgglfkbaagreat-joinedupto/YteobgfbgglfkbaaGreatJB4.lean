import Derived.Test.YteobgfbgglfkbaaGreatJB3
set_option maxHeartbeats 3200000
set_option maxRecDepth 100000
namespace Go.Proofs.YteobgfbgglfkbaaGreat
open Go.RowKit
attribute [local go_sem ↓] Go.wp_at_zero Go.wp_at_succ
def zK(q:Nat->Nat):Array Value:= #[.int .u64 (q 0),.int .u64 (q 1),.int .u64 (q 2),.int .u64 (q 3)]
def zS(q:Nat->Nat):Value:= .agg (zK q)
def Wd(q:Nat->Nat):Prop:=∀t,q t<18446744073709551616
def zU(q:Nat->Nat)(f:Nat->Bool):Prop:=Wd q/\∀j,j<256->(q (j / 64)).testBit (j % 64)=f j
theorem XR{q q':Nat->Nat}(h:∀t,t<4->q t=q' t):zK q=zK q':=by
 simp only[zK,h 0 (by omega),h 1 (by omega),h 2 (by omega),h 3 (by omega)]
theorem zU.congr{q:Nat->Nat}{f g:Nat->Bool}(h:zU q f)(e:∀j,j<256->f j=g j):zU q g:=⟨h.1,fun j hj=>(h.2 j hj).trans (e j hj)⟩
theorem DM{a b:Nat}(ha:a<18446744073709551616)(hb:b<18446744073709551616):a ||| b<18446744073709551616:=Nat.or_lt_two_pow (n:=64) ha hb
theorem Ey{a b:Nat}(ha:a<18446744073709551616):a &&& b<18446744073709551616:=Nat.lt_of_le_of_lt Nat.and_le_left ha
theorem zU.or{q1 q2:Nat->Nat}{f1 f2:Nat->Bool}(h1:zU q1 f1)(h2:zU q2 f2):zU (fun t=>q1 t ||| q2 t) (fun j=>f1 j || f2 j):=
 ⟨fun t=>DM (h1.1 t) (h2.1 t),fun j hj=>by simp only[Nat.testBit_or,h1.2 j hj,h2.2 j hj]⟩
theorem zU.and{q1 q2:Nat->Nat}{f1 f2:Nat->Bool}(h1:zU q1 f1)(h2:zU q2 f2):zU (fun t=>q1 t &&& q2 t) (fun j=>f1 j && f2 j):=
 ⟨fun t=>Ey (h1.1 t),fun j hj=>by simp only[Nat.testBit_and,h1.2 j hj,h2.2 j hj]⟩
theorem zU.zero:zU (fun _=>0) (fun _=>false):=⟨fun _=>by simp,fun j _=>by simp⟩
theorem zU.add{q:Nat->Nat}{f:Nat->Bool}(h:zU q f){c:Nat}(hc:c<256):zU (fun t=>if t=c / 64 then q t ||| 2 ^ (c % 64)else q t) (fun j=>f j || j==c):=by
 have hp:2 ^ (c % 64)<18446744073709551616:=by
  have:2 ^ (c % 64)<2 ^ 64:=Nat.pow_lt_pow_right (by omega) (by omega)
  simpa using this
 refine⟨fun t=> ?_,fun j hj=> ?_⟩
 ·simp only
  split
  ·exact DM (h.1 t) hp
  ·exact h.1 t
 ·simp only
  by_cases e:j / 64=c / 64
  ·rw[if_pos e,Nat.testBit_or,h.2 j hj,Nat.testBit_two_pow]
   congr 1
   by_cases e2:j=c
   ·subst e2;simp
   ·have:¬c % 64=j % 64:=by omega
    simp[this,e2]
  ·rw[if_neg e,h.2 j hj]
   have:¬j=c:=by intro e';subst e';exact e rfl
   simp[this]
theorem orW{a b:Nat}(ha:a<18446744073709551616)(hb:b<18446744073709551616):bits .or .u64 (a:Int) (b:Int)=((a ||| b:Nat):Int):=bits_or_u64_nat a b ha hb
theorem L5{a b:Nat}(ha:a<18446744073709551616)(hb:b<18446744073709551616):bits .and .u64 (a:Int) (b:Int)=((a &&& b:Nat):Int):=bits_and_u64_nat a b ha hb
theorem Ag{k:Nat}(hk:k<64):IntKind.u64.wrap ((2:Int) ^ k)=((2 ^ k:Nat):Int):=by
 have h1:(2:Nat) ^ k<2 ^ 64:=Nat.pow_lt_pow_right (by omega) hk
 have h2:((2 ^ k:Nat):Int)=(2:Int) ^ k:=by simp
 rw[<- h2,IntKind.wrap_u64]
 have h3:(2:Nat) ^ 64=18446744073709551616:=by decide
 rw[h3]at h1;clear h2 h3;generalize (2:Nat) ^ k=z at *;omega
theorem zE.c4{w:World}{B:Nat}{q:Nat->Nat}{T:TypeId}(h:zE w B (zK q) T):w.cell? ⟨B,0,none⟩=some (.int .u64 (q 0))/\w.cell? ⟨B,1,none⟩=some (.int .u64 (q 1))/\w.cell? ⟨B,2,none⟩=some (.int .u64 (q 2))/\w.cell? ⟨B,3,none⟩=some (.int .u64 (q 3)):=
 ⟨h.cl 0 _ rfl,h.cl 1 _ rfl,h.cl 2 _ rfl,h.cl 3 _ rfl⟩
theorem zE.s4{w:World}{B:Nat}{q:Nat->Nat}{T:TypeId}(h:zE w B (zK q) T){t:Nat}(ht:t<4)(x:Nat):zE (w.setCell ⟨B,t,none⟩ (.int .u64 (x:Nat))) B (zK (fun k=>if k=t then x else q k)) T:=by
 have:=h.set t (.int .u64 (x:Nat))
 have e:(zK q).setIfInBounds t (.int .u64 (x:Nat))=zK (fun k=>if k=t then x else q k):=by
  obtain rfl|rfl|rfl|rfl:t=0\/t=1\/t=2\/t=3:=by omega
  all_goals rfl
 rw[e]at this;exact this
theorem K0{w:World}{B:Nat}{q:Nat->Nat}{f:Nat->Bool}(hB:zE w B (zK q) 240)(hf:zU q f)(c:Nat)(hc:c<256):
 Calls Tryz.prog 204 #[.pointer (some ⟨B,0,none⟩),.int .u8 c] w fun e w'=>e= .returned (.tuple #[])/\zE w' B (zK (fun t=>if t=c / 64 then q t ||| 2 ^ (c % 64)else q t)) 240/\Ch [B] w w':=by
 obtain⟨x0,x1,x2,x3⟩:=hB.c4;have fz:=hB.fz;have HP:=zC (Ag (k:=c % 64) (by omega))
 have hp:2 ^ (c % 64)<18446744073709551616:=by
  have:2 ^ (c % 64)<2 ^ 64:=Nat.pow_lt_pow_right (by omega) (by omega)
  simpa using this
 have HO:Hd (∀t,bits .or .u64 (q t:Int) (IntKind.u64.wrap ((2:Int) ^ (c % 64)))=((q t ||| 2 ^ (c % 64):Nat):Int)):=by
  intro t;rw[HP.o];exact orW (hf.1 t) hp
 have HC:Hd (∀t,t<4->t=c / 64->∀w1:World,(w1=(w.setCell ⟨B,t,none⟩ (.int .u64 (bits .or .u64 (q t:Int) (IntKind.u64.wrap ((2:Int) ^ (c % 64)))))).drew)->zE w1 B (zK (fun t=>if t=c / 64 then q t ||| 2 ^ (c % 64)else q t)) 240/\Ch [B] w w1):=by
  intro t ht e w1 e1;subst e1;rw[HO.o t];have h4:=hB.s4 ht (q t ||| 2 ^ (c % 64))
  rw[show(fun k=>if k=t then q t ||| 2 ^ (c % 64)else q k)=(fun k=>if k=c / 64 then q k ||| 2 ^ (c % 64)else q k)from by
   funext k;rw[<- e];by_cases ek:k=t
   ·subst ek;simp
   ·simp[ek]]at h4
  exact⟨h4,(Ch.setCell _ (by simp) _).trans (Ch.drew _ _)⟩
 clear hp
 obtain h0|h0|h0|h0:c / 64=0\/c / 64=1\/c / 64=2\/c / 64=3:=by omega
 all_goals
  have HE:=zC h0;go_enter Tryz.func204,Tryz.ntmps204;go_wp2_with fail;go_region
  go_end0
 ·exact⟨rfl,HC.o 0 (by omega) HE.o.symm _ rfl⟩
 ·exact⟨rfl,HC.o 1 (by omega) HE.o.symm _ rfl⟩
 ·exact⟨rfl,HC.o 2 (by omega) HE.o.symm _ rfl⟩
 ·exact⟨rfl,HC.o 3 (by omega) HE.o.symm _ rfl⟩
theorem zE.fill{w5:World}{H:Nat}{q:Nat->Nat}{T:TypeId}(R:zE w5 H (zK q) T)(q':Nat->Nat):
 zE ((((w5.setCell ⟨H,0,none⟩ (.int .u64 (q' 0:Nat))).setCell ⟨H,1,none⟩ (.int .u64 (q' 1:Nat))).setCell ⟨H,2,none⟩ (.int .u64 (q' 2:Nat))).setCell ⟨H,3,none⟩ (.int .u64 (q' 3:Nat))) H (zK q') T/\
 Ch [H] w5 ((((w5.setCell ⟨H,0,none⟩ (.int .u64 (q' 0:Nat))).setCell ⟨H,1,none⟩ (.int .u64 (q' 1:Nat))).setCell ⟨H,2,none⟩ (.int .u64 (q' 2:Nat))).setCell ⟨H,3,none⟩ (.int .u64 (q' 3:Nat))):=by
 refine⟨?_,(((Ch.setCell _ (by simp) _).trans (Ch.setCell _ (by simp) _)).trans (Ch.setCell _ (by simp) _)).trans (Ch.setCell _ (by simp) _)⟩;have:=(((R.s4 (t:=0) (by omega) (q' 0)).s4 (t:=1) (by omega) (q' 1)).s4 (t:=2) (by omega) (q' 2)).s4 (t:=3) (by omega) (q' 3);exact this
theorem XM(w:World)(x0 x1 x2 x3:Int):Sem.run Tryz.prog (Instr.index 154 (.agg #[.int .u64 x0,.int .u64 x1,.int .u64 x2,.int .u64 x3]) (.int .i64 0)) w= .ok (.int .u64 x0) w/\Sem.run Tryz.prog (Instr.index 154 (.agg #[.int .u64 x0,.int .u64 x1,.int .u64 x2,.int .u64 x3]) (.int .i64 1)) w= .ok (.int .u64 x1) w/\
 Sem.run Tryz.prog (Instr.index 154 (.agg #[.int .u64 x0,.int .u64 x1,.int .u64 x2,.int .u64 x3]) (.int .i64 2)) w= .ok (.int .u64 x2) w/\Sem.run Tryz.prog (Instr.index 154 (.agg #[.int .u64 x0,.int .u64 x1,.int .u64 x2,.int .u64 x3]) (.int .i64 3)) w= .ok (.int .u64 x3) w:=by
 refine⟨?_,?_,?_,?_⟩
 all_goals simp[Instr.index,run_underlying Tryz.underlying154,asIntOf,go_sem]
theorem YJ{w5:World}{H:Nat}{op q1:Nat->Nat}{T:TypeId}(i:Nat)(hi:i<4)(B:zE w5 H (zK (fun t=>if t<i then op t else q1 t)) T):
 zE (w5.setCell ⟨H,i,none⟩ (.int .u64 (op i:Nat))) H (zK (fun t=>if t<i+1 then op t else q1 t)) T:=by
 have:=B.s4 hi (op i)
 rw[show(fun k=>if k=i then op i else(fun t=>if t<i then op t else q1 t) k)=(fun t=>if t<i+1 then op t else q1 t)from by
  funext k
  by_cases e:k=i
  ·subst e;simp
  ·simp only[if_neg e]
   by_cases e2:k<i
   ·rw[if_pos e2,if_pos (by omega)]
   ·rw[if_neg e2,if_neg (by omega)]]at this
 exact this
theorem Gc{w:World}{q1 q2:Nat->Nat}(h1:Wd q1)(h2:Wd q2):
 Calls Tryz.prog 212 #[zS q1,zS q2] w fun e w'=>e= .returned (zS (fun t=>q1 t ||| q2 t))/\Ch [] w w':=by
 have HO:Hd (∀t,bits .or .u64 (q1 t:Int) (q2 t:Int)=((q1 t ||| q2 t:Nat):Int)):=fun t=>orW (h1 t) (h2 t)
 have e1:zS q1= .agg #[.int .u64 (q1 0),.int .u64 (q1 1),.int .u64 (q1 2),.int .u64 (q1 3)]:=rfl;have e2:zS q2= .agg #[.int .u64 (q2 0),.int .u64 (q2 1),.int .u64 (q2 2),.int .u64 (q2 3)]:=rfl;rw[e1,e2];clear e1 e2;go_enter Tryz.func212,Tryz.ntmps212;go_wp2_with fail;have b0:zE (((w.alloc (.cells (zK q1) 240)).alloc (.cells (zK q2) 240)).alloc (.cells (zK fun _=>0) 240)) w.heap.size (zK q1) 240:=((zE.new w _ _).kp (Ch.alloc [] _ _) (by simp)).kp (Ch.alloc [] _ _) (by simp)
 have b2:zE (((w.alloc (.cells (zK q1) 240)).alloc (.cells (zK q2) 240)).alloc (.cells (zK fun _=>0) 240)) (w.heap.size+1+1) (zK fun _=>0) 240:=by
  have:=zE.new ((w.alloc (.cells (zK q1) 240)).alloc (.cells (zK q2) 240)) (zK fun _=>0) 240
  simpa using this
 have g0:Ch [] w (((w.alloc (.cells (zK q1) 240)).alloc (.cells (zK q2) 240)).alloc (.cells (zK fun _=>0) 240)):=((Ch.alloc _ _ _).trans (Ch.alloc _ _ _)).trans (Ch.alloc _ _ _)
 go_loopw [5,6,9] (fun _ _ v9 w5=>∃i:Int,(0<=i/\i<=4)/\v9= .int .i64 i/\zE w5 w.heap.size (zK (fun t=>if t<i.toNat then q1 t ||| q2 t else q1 t)) 240/\zE w5 (w.heap.size+1+1) (zK fun _=>0) 240/\Ch [] w w5) (fun _ _ v9 _=>4 - (match v9 with|.int _ x=>x.toNat|_=>0))
 case atStart=>exact⟨0,by omega,rfl,(XR (q:=q1) (q':=fun t=>if t<Int.toNat 0 then q1 t ||| q2 t else q1 t) (fun t _=>by simp)) ▸ b0,b2,g0⟩
 case round=>
  generalize wr=w5 at *;obtain⟨i,hi,rfl,B5,R5,g5⟩:=hrel;clear b0 b2 g0;obtain⟨x0,x1,x2,x3⟩:=B5.c4;obtain⟨y0,y1,y2,y3⟩:=R5.c4;have fz:=B5.fz;have fy:=R5.fz;have B5x:=zC B5;have R5x:=zC R5;clear B5 R5
  obtain rfl|rfl|rfl|rfl|rfl:i=0\/i=1\/i=2\/i=3\/i=4:=by omega
  rotate_right
  ·simp at x0 x1 x2 x3 y0 y1 y2 y3
   go_wp2_with fail;obtain⟨R6,G6⟩:=R5x.o.fill (fun t=>q1 t ||| q2 t);have g6:=g5.trans' G6 (by intro k hk;simp at hk;omega)
   try simp only at R6 g6
   generalize (((w5.setCell ⟨w.heap.size+1+1,0,none⟩ (.int .u64 (q1 0 ||| q2 0:Nat))).setCell ⟨w.heap.size+1+1,1,none⟩ (.int .u64 (q1 1 ||| q2 1:Nat))).setCell ⟨w.heap.size+1+1,2,none⟩ (.int .u64 (q1 2 ||| q2 2:Nat))).setCell ⟨w.heap.size+1+1,3,none⟩ (.int .u64 (q1 3 ||| q2 3:Nat))=w6 at *;clear x0 x1 x2 x3 y0 y1 y2 y3;obtain⟨y0,y1,y2,y3⟩:=R6.c4
   try simp only at y0 y1 y2 y3
   exact bodyPost_ret (v:=zS (fun t=>q1 t ||| q2 t)) (by simp[results,Tryz.results212,go_sem,zS,zK,y0,y1,y2,y3]) rfl ⟨rfl,g6⟩
  all_goals
   simp at x0 x1 x2 x3 y0 y1 y2 y3;obtain⟨ix0,ix1,ix2,ix3⟩:=XM w5 (q2 0) (q2 1) (q2 2) (q2 3);go_wp2_with fail;rw[HO.o];go_roundw
   case measure=>simp
  case rel=>exact⟨1,by omega,rfl,YJ (op:=fun t=>q1 t ||| q2 t) 0 (by omega) B5x.o,R5x.o.kp (Ch.setCell (X:=[w.heap.size]) _ (by simp) _) (by simp;omega),g5.trans' (Ch.setCell (X:=[w.heap.size]) _ (by simp) _) (by simp)⟩
  case rel=>exact⟨2,by omega,rfl,YJ (op:=fun t=>q1 t ||| q2 t) 1 (by omega) B5x.o,R5x.o.kp (Ch.setCell (X:=[w.heap.size]) _ (by simp) _) (by simp;omega),g5.trans' (Ch.setCell (X:=[w.heap.size]) _ (by simp) _) (by simp)⟩
  case rel=>exact⟨3,by omega,rfl,YJ (op:=fun t=>q1 t ||| q2 t) 2 (by omega) B5x.o,R5x.o.kp (Ch.setCell (X:=[w.heap.size]) _ (by simp) _) (by simp;omega),g5.trans' (Ch.setCell (X:=[w.heap.size]) _ (by simp) _) (by simp)⟩
  case rel=>exact⟨4,by omega,rfl,YJ (op:=fun t=>q1 t ||| q2 t) 3 (by omega) B5x.o,R5x.o.kp (Ch.setCell (X:=[w.heap.size]) _ (by simp) _) (by simp;omega),g5.trans' (Ch.setCell (X:=[w.heap.size]) _ (by simp) _) (by simp)⟩
theorem Vw{w:World}(a c:Nat)(ha:a<256)(hc:c<256):
 Calls Tryz.prog 187 #[.int .u8 a,.int .u8 c] w fun e w'=>∃q,e= .returned (zS q)/\zU q (fun j=>decide (a<=j) && decide (j<=c))/\Ch [] w w':=by
 go_enter Tryz.func187,Tryz.ntmps187;go_wp2_with fail;have b0:zE ((w.alloc (.cells (zK fun _=>0) 240)).alloc (.cells (zK fun _=>0) 240)) w.heap.size (zK fun _=>0) 240:=(zE.new w _ _).kp (Ch.alloc [] _ _) (by simp)
 have b1:zE ((w.alloc (.cells (zK fun _=>0) 240)).alloc (.cells (zK fun _=>0) 240)) (w.heap.size+1) (zK fun _=>0) 240:=by
  have:=zE.new (w.alloc (.cells (zK fun _=>0) 240)) (zK fun _=>0) 240
  simpa using this
 have g0:Ch [] w ((w.alloc (.cells (zK fun _=>0) 240)).alloc (.cells (zK fun _=>0) 240)):=(Ch.alloc _ _ _).trans (Ch.alloc _ _ _)
 go_loopw [6] (fun v6 w5=>∃(n:Nat) (q:Nat->Nat),n<=256/\a<=n/\v6= .int .i64 n/\zE w5 (w.heap.size+1) (zK q) 240/\zU q (fun j=>decide (a<=j) && decide (j<n))/\(n<=c+1\/n=a)/\zE w5 w.heap.size (zK fun _=>0) 240/\Ch [] w w5) (fun v6 _=>256 - (match v6 with|.int _ x=>x.toNat|_=>0))
 case atStart=>exact⟨a,fun _=>0,by omega,by omega,rfl,b1,zU.zero.congr (fun j _=>by simp),Or.inr rfl,b0,g0⟩
 case round=>
  generalize wr=w5 at *;obtain⟨n,q,hn,han,rfl,B5,F5,hnc,R5,g5⟩:=hrel;clear b0 b1 g0
  by_cases hle:(n:Int)<=c
  ·have hw8:IntKind.u8.wrap (n:Int)=(n:Int):=by rw[IntKind.wrap_u8];omega
   have l2:(n:Int)<256:=by omega
   go_wp2_with fail;refine(K0 B5 F5 n (by omega)).mono ?_;rintro e w6 ⟨rfl,B6,G6⟩;have g6:=g5.trans' G6 (by intro k hk;simp at hk;omega);go_wp2_with fail;go_roundw
   case rel=>
    refine⟨n+1,_,by omega,by omega,rfl,B6,(F5.add (c:=n) (by omega)).congr ?_,by omega,R5.kp G6 (by simp),g6⟩;intro j hj;rw[Bool.eq_iff_iff];simp;omega
   case measure=>simp;omega
  ·have F6:zU q (fun j=>decide (a<=j) && decide (j<=c)):=F5.congr (by intro j hj;rw[Bool.eq_iff_iff];simp;omega)
   obtain⟨x0,x1,x2,x3⟩:=B5.c4;obtain⟨y0,y1,y2,y3⟩:=R5.c4;have fz:=B5.fz;have fy:=R5.fz;have R5x:=zC R5;clear B5 R5 F5;go_wp2_with fail;obtain⟨R6,G6⟩:=R5x.o.fill q;have g6:=g5.trans' G6 (by intro k hk;simp at hk;omega)
   try simp only at R6 g6
   generalize (((w5.setCell ⟨w.heap.size,0,none⟩ (.int .u64 (q 0))).setCell ⟨w.heap.size,1,none⟩ (.int .u64 (q 1))).setCell ⟨w.heap.size,2,none⟩ (.int .u64 (q 2))).setCell ⟨w.heap.size,3,none⟩ (.int .u64 (q 3))=w6 at *;clear x0 x1 x2 x3 y0 y1 y2 y3;obtain⟨y0,y1,y2,y3⟩:=R6.c4;exact bodyPost_ret (v:=zS q) (by simp[results,Tryz.results187,go_sem,zS,zK,y0,y1,y2,y3]) rfl ⟨q,rfl,F6,g6⟩
theorem QH{a:Nat}(ha:a<18446744073709551616)(k:Nat):(bits .and .u64 ((a:Int) / 2 ^ k) 1==1)=a.testBit k:=by
 have h1:((a:Int) / 2 ^ k)=((a / 2 ^ k:Nat):Int):=by simp
 have h2:a / 2 ^ k<18446744073709551616:=Nat.lt_of_le_of_lt (Nat.div_le_self _ _) ha;rw[h1,show(1:Int)=((1:Nat):Int)from rfl,L5 h2 (by omega),Nat.and_one_is_mod,Nat.testBit_eq_decide_div_mod_eq];rw[Bool.eq_iff_iff];simp;omega
theorem Wg{w:World}{q:Nat->Nat}{f:Nat->Bool}(hf:zU q f)(c:Nat)(hc:c<256):
 Calls Tryz.prog 156 #[zS q,.int .u8 c] w fun e w'=>e= .returned (.bool (f c))/\Ch [] w w':=by
 have e1:zS q= .agg #[.int .u64 (q 0),.int .u64 (q 1),.int .u64 (q 2),.int .u64 (q 3)]:=rfl;rw[e1];clear e1
 obtain h0|h0|h0|h0:c / 64=0\/c / 64=1\/c / 64=2\/c / 64=3:=by omega
 all_goals
  have HE:=zC h0;go_enter Tryz.func156,Tryz.ntmps156;go_wp2_with fail;go_ret
 ·exact⟨by show Ending.returned (.bool _)=_;rw[QH (hf.1 0),<- hf.2 c hc,HE.o],Ch.alloc _ _ _⟩
 ·exact⟨by show Ending.returned (.bool _)=_;rw[QH (hf.1 1),<- hf.2 c hc,HE.o],Ch.alloc _ _ _⟩
 ·exact⟨by show Ending.returned (.bool _)=_;rw[QH (hf.1 2),<- hf.2 c hc,HE.o],Ch.alloc _ _ _⟩
 ·exact⟨by show Ending.returned (.bool _)=_;rw[QH (hf.1 3),<- hf.2 c hc,HE.o],Ch.alloc _ _ _⟩
theorem Zo{e a:Int}{s:St}:zL false e a s=s:=by simp[zL]
theorem ym{q:Bool}{e a:Int}{s:St}:(zL q e a s).i=s.i:=by unfold zL;split <;>rfl
def Jx(S:ByteArray)(s:St):Except Nat ((ByteArray×Nat)×St):=
 match yW S s with
 |.error d=> .error d
 |.ok ((x,a),s1)=> .ok ((x,a),zL (decide (4<(x.size:Int))) 3 a s1)
def Yr(p:ByteArray×Nat)(v:Value)(_:World):Prop:=v= .tuple #[.string p.1,.int .i64 p.2]
theorem U3{w:World}{b:Nat}{S:ByteArray}{s:St}{v5 v6 v7:Value}(h:zP w b S s v5 v6 v7)(hS:S.size<=400)(hi:s.i<=S.size):
 Calls Tryz.prog 152 #[.pointer (some ⟨b,0,none⟩)] w (Jp w b S v5 v6 v7 Yr (Jx S s)):=by
 go_enter Tryz.func152,Tryz.ntmps152;go_wp2_with fail;refine(V1 h hS hi 3 (by omega)).mono ?_;rintro e w1 ⟨g1,⟨p,s1,ht,rfl,h1,hi1⟩|⟨d,ht,hg,_⟩⟩
 ·rw[Xa hi (k:=3) (c:=34) (by simp[jd])]at ht
  have HT:Hd (∀r,jH S (S.size+1) s1 ByteArray.empty=r->yW S s=match r with|.ok (x,s')=> .ok ((x,p),s')|.error d=> .error d):=by
   intro r hr;unfold zh at ht
   by_cases hb:bt S (run zI S s.i)=34
   ·rw[if_pos hb]at ht
    injection ht with ht;injection ht with h1 h2;subst h1 h2
    unfold yW;simp only[hb,if_true,hr]
    try rfl
   ·rw[if_neg hb]at ht
    cases ht
  clear ht;go_wp2_with fail;refine(Ev h1 hS hi1).mono ?_;rintro e w2 ⟨g2,⟨x,s2,v,hl,rfl,hv,h2⟩|⟨d,hl,hg⟩⟩
  ·unfold WI at hv
   subst hv
   have HR:Hd (Jx S s= .ok ((x,p),zL (decide (4<(x.size:Int))) 3 p s2)):=by
    show _=_
    have:=HT.o _ hl;simp only at this;simp only[Jx,this]
   clear hl
   by_cases hx:(4:Int)<x.size
   ·go_wp2_with fail
    refine(Qm h2 3 p).mono ?_;rintro e w3 ⟨rfl,h3,g3⟩;go_wp2_with fail;go_ret2;exact⟨g1.trans (g2.trans g3),Or.inl ⟨(x,p),_,_,HR.o,rfl,rfl,by simpa[hx]using h3⟩⟩
   ·go_wp2_with fail
    go_ret2;exact⟨g1.trans g2,Or.inl ⟨(x,p),_,_,HR.o,rfl,rfl,by rw[decide_eq_false (by omega:¬(4:Int)<x.size),Zo];exact h2⟩⟩
  ·have HR:Hd (Jx S s= .error d):=by
    show _=_
    have:=HT.o _ hl;simp only at this;simp only[Jx,this]
   clear hl;obtain⟨rfl,ht⟩:=hg;exact zY rfl ⟨g1.trans g2,Or.inr ⟨d,HR.o,⟨rfl,ht⟩⟩⟩
 ·rw[Xa hi (k:=3) (c:=34) (by simp[jd])]at ht
  have HR:Hd (Jx S s= .error d):=by
   show _=_
   unfold zh at ht
   by_cases hb:bt S (run zI S s.i)=34
   ·rw[if_pos hb]at ht;cases ht
   ·rw[if_neg hb]at ht
    injection ht with ht;subst ht
    simp only[Jx,yW,if_neg hb]
  clear ht;obtain⟨rfl,ht⟩:=hg;exact zY rfl ⟨g1,Or.inr ⟨d,HR.o,⟨rfl,ht⟩⟩⟩
def Az(L:List (Int×Int))(v:Value)(_:World):Prop:=∃q,v=zS q/\zU q (zo L)
def Cq(p:Int×Int)(v:Value)(w:World):Prop:=Az [p] v w
theorem LP{w:World}{b:Nat}{S:ByteArray}{s:St}{v5 v6 v7:Value}(h:zP w b S s v5 v6 v7)(hS:S.size<=400)(hi:s.i<=S.size):
 Calls Tryz.prog 211 #[.pointer (some ⟨b,0,none⟩)] w (Jp w b S v5 v6 v7 Cq (yv S s)):=by
 have hbl:=h.lt;have h0:=h.kp (Ch.alloc [] w (.cells (zK fun _=>0) 240)) (by simp);have B0:=zE.new w (zK fun _=>0) 240;have g0:=Ch.alloc [b] w (.cells (zK fun _=>0) 240);go_enter Tryz.func211,Tryz.ntmps211;obtain⟨c0,c1,c2,c3,c4,c5,c6,c7,fz⟩:=h0.fa
 change (w.alloc (.cells #[.int .u64 0,.int .u64 0,.int .u64 0,.int .u64 0] 240)).cell? _=_ at c1
 go_wp2_with fail;refine(NU h0 hS hi).mono ?_;rintro e w1 ⟨g1,⟨a,s1,v,hl,rfl,hv,h1⟩|⟨d,hl,hg⟩⟩
 ·unfold Qi at hv
  subst hv;have lo:=Jr (by omega) hl;have B1:=B0.kp g1 (by simp;omega);have G1:=g0.trans g1;have HL:=zC hl;clear hl c0 c1 c2 c3 c4 c5 c6 c7 fz;obtain⟨A,rfl⟩:∃A:Nat,a=A:=⟨a.toNat,by omega⟩
  by_cases hb:bt S s1.i=45
  ·go_wp2_with fail
   refine(ZP h1 hS 45 (by decide) hb).mono ?_;rintro e w2 ⟨rfl,h2,g2⟩;have hlt:=yB (S:=S) (i:=s1.i) (by omega);have HB:=zC hb;clear hb;go_wp2_with fail;refine(NU h2 hS hlt).mono ?_;rintro e w3 ⟨g3,⟨c,s3,v,hl,rfl,hv,h3⟩|⟨d,hl,hg⟩⟩
   ·unfold Qi at hv
    subst hv;have lo3:=Jr (by omega) hl
    have HR:Hd (yv S s= .ok (((A:Int),c),zL (decide (c<A)) 6 s.i s3)):=by
     show _=_
     simp only[yv,HL.o,HB.o,if_true,hl]
    clear hl;obtain⟨C,rfl⟩:∃C:Nat,c=C:=⟨c.toNat,by omega⟩;have B3:=(B1.kp g2 (by simp;omega)).kp g3 (by simp;omega);have G3:=(G1.trans g2).trans g3
    by_cases hlt2:(C:Int)<A
    ·go_wp2_with fail
     refine(Qm h3 6 s.i).mono ?_;rintro e w4 ⟨rfl,h4,g4⟩;have B4:=B3.kp g4 (by simp;omega);have G4:=G3.trans g4;go_wp2_with fail;refine(Vw A C (by omega) (by omega)).mono ?_;rintro e w5 ⟨q,rfl,F5,g5⟩;have h5:=h4.kp g5 (by simp);have B5:=B4.kp g5 (by simp);have G5:=G4.trans (g5.mono (by simp));obtain⟨y0,y1,y2,y3⟩:=B5.c4;have fy:=B5.fz;rw[show zS q= .agg #[.int .u64 (q 0),.int .u64 (q 1),.int .u64 (q 2),.int .u64 (q 3)]from rfl];go_wp2_with fail;obtain⟨R6,G6⟩:=B5.fill q;have g6:=G5.trans' G6 (by intro k hk;simp at hk;omega);have h6:=h5.kp G6 (by simp;omega);generalize (((w5.setCell ⟨w.heap.size,0,none⟩ (.int .u64 (q 0))).setCell ⟨w.heap.size,1,none⟩ (.int .u64 (q 1))).setCell ⟨w.heap.size,2,none⟩ (.int .u64 (q 2))).setCell ⟨w.heap.size,3,none⟩ (.int .u64 (q 3))=w6 at *;clear y0 y1 y2 y3;obtain⟨y0,y1,y2,y3⟩:=R6.c4;exact bodyPost_ret (v:=zS q) (by simp[results,Tryz.results211,go_sem,zS,zK,y0,y1,y2,y3]) rfl ⟨g6,Or.inl ⟨_,_,_,HR.o,rfl,⟨q,rfl,F5.congr (fun j _=>by simp[zo])⟩,by simpa[hlt2]using h6⟩⟩
    ·go_wp2_with fail
     refine(Vw A C (by omega) (by omega)).mono ?_;rintro e w5 ⟨q,rfl,F5,g5⟩;have h5:=h3.kp g5 (by simp);have B5:=B3.kp g5 (by simp);have G5:=G3.trans (g5.mono (by simp));obtain⟨y0,y1,y2,y3⟩:=B5.c4;have fy:=B5.fz;rw[show zS q= .agg #[.int .u64 (q 0),.int .u64 (q 1),.int .u64 (q 2),.int .u64 (q 3)]from rfl];go_wp2_with fail;obtain⟨R6,G6⟩:=B5.fill q;have g6:=G5.trans' G6 (by intro k hk;simp at hk;omega);have h6:=h5.kp G6 (by simp;omega);generalize (((w5.setCell ⟨w.heap.size,0,none⟩ (.int .u64 (q 0))).setCell ⟨w.heap.size,1,none⟩ (.int .u64 (q 1))).setCell ⟨w.heap.size,2,none⟩ (.int .u64 (q 2))).setCell ⟨w.heap.size,3,none⟩ (.int .u64 (q 3))=w6 at *;clear y0 y1 y2 y3;obtain⟨y0,y1,y2,y3⟩:=R6.c4;exact bodyPost_ret (v:=zS q) (by simp[results,Tryz.results211,go_sem,zS,zK,y0,y1,y2,y3]) rfl ⟨g6,Or.inl ⟨_,_,_,HR.o,rfl,⟨q,rfl,F5.congr (fun j _=>by simp[zo])⟩,by rw[decide_eq_false (by omega:¬(C:Int)<A),Zo];exact h6⟩⟩
   ·have HR:Hd (yv S s= .error d):=by
     show _=_
     simp only[yv,HL.o,HB.o,if_true,hl]
    clear hl;obtain⟨rfl,ht⟩:=hg;exact zY rfl ⟨(G1.trans g2).trans g3,Or.inr ⟨d,HR.o,⟨rfl,ht⟩⟩⟩
  ·go_wp2_with fail
   refine(JW h1 hS lo.2.1 45 hb).mono ?_;rintro e w2 ⟨rfl,h2,g2⟩
   have HR:Hd (yv S s= .ok (((A:Int),(A:Int)),s1)):=by
    show _=_
    simp only[yv,HL.o,if_neg hb]
   have B3:=B1.kp g2 (by simp;omega);have G3:=G1.trans g2;clear hb
   have hn:¬(A:Int)<A:=by omega
   go_wp2_with fail;refine(Vw A A (by omega) (by omega)).mono ?_;rintro e w5 ⟨q,rfl,F5,g5⟩;have h5:=h2.kp g5 (by simp);have B5:=B3.kp g5 (by simp);have G5:=G3.trans (g5.mono (by simp));obtain⟨y0,y1,y2,y3⟩:=B5.c4;have fy:=B5.fz;rw[show zS q= .agg #[.int .u64 (q 0),.int .u64 (q 1),.int .u64 (q 2),.int .u64 (q 3)]from rfl];go_wp2_with fail;obtain⟨R6,G6⟩:=B5.fill q;have g6:=G5.trans' G6 (by intro k hk;simp at hk;omega);have h6:=h5.kp G6 (by simp;omega);generalize (((w5.setCell ⟨w.heap.size,0,none⟩ (.int .u64 (q 0))).setCell ⟨w.heap.size,1,none⟩ (.int .u64 (q 1))).setCell ⟨w.heap.size,2,none⟩ (.int .u64 (q 2))).setCell ⟨w.heap.size,3,none⟩ (.int .u64 (q 3))=w6 at *;clear y0 y1 y2 y3;obtain⟨y0,y1,y2,y3⟩:=R6.c4;exact bodyPost_ret (v:=zS q) (by simp[results,Tryz.results211,go_sem,zS,zK,y0,y1,y2,y3]) rfl ⟨g6,Or.inl ⟨_,_,_,HR.o,rfl,⟨q,rfl,F5.congr (fun j _=>by simp[zo])⟩,h6⟩⟩
 ·have HR:Hd (yv S s= .error d):=by
   show _=_
   simp only[yv,hl]
  clear hl;obtain⟨rfl,ht⟩:=hg;exact zY rfl ⟨g0.trans g1,Or.inr ⟨d,HR.o,⟨rfl,ht⟩⟩⟩
theorem IM(L:List (Int×Int))(p:Int×Int)(j:Nat):zo (L++[p]) j=(zo L j || zo [p] j):=by
 simp[zo]
def Vr(S:ByteArray)(n:Nat)(s:St)(L:List (Int×Int)):Except Nat (List (Int×Int)×St):=
 if bt S s.i=93 then .ok (L,{s with i:=s.i+1})else yq S n s L
theorem AW{S:ByteArray}{n:Nat}{s s1:St}{L:List (Int×Int)}{p:Int×Int}(h:yv S s= .ok (p,s1)):yq S (n+1) s L=Vr S n s1 (L++[p]):=by
 simp only[yq,h,Vr]
theorem AM{S:ByteArray}{n:Nat}{s:St}{L:List (Int×Int)}{d:Nat}(h:yv S s= .error d):yq S (n+1) s L= .error d:=by
 simp only[yq,h]
theorem ND{S:ByteArray}{s s':St}{p:Int×Int}(h:yv S s= .ok (p,s')):s.i<s'.i/\s'.i<=S.size:=by
 unfold yv at h
 cases h1:zx S 33 jT s with
 |error d=>rw[h1]at h;cases h
 |ok q=>
  obtain⟨a,s1⟩:=q;have l1:=Jr (by omega) h1;rw[h1]at h;simp only at h
  by_cases hb:bt S s1.i=45
  ·rw[if_pos hb]at h
   cases h2:zx S 33 jT {s1 with i:=s1.i+1} with
   |error d=>rw[h2]at h;cases h
   |ok q2=>
    obtain⟨c,s2⟩:=q2;have l2:=Jr (by omega) h2;rw[h2]at h;simp only at h
    injection h with h;injection h with _ h;subst h
    rw[ym];have:=l2.1;simp only at this;exact⟨by omega,l2.2.1⟩
  ·rw[if_neg hb]at h
   injection h with h;injection h with _ h;subst h
   exact⟨l1.1,l1.2.1⟩
theorem Ap{w:World}{b:Nat}{S:ByteArray}{s:St}{v5 v6 v7:Value}(h:zP w b S s v5 v6 v7)(hS:S.size<=400)(hb:bt S s.i=91):
 Calls Tryz.prog 191 #[.pointer (some ⟨b,0,none⟩)] w (Jp w b S v5 v6 v7 Az (yn S s)):=by
 have hbl:=h.lt;have h0:=h.kp (Ch.alloc [] w (.cells (zK fun _=>0) 240)) (by simp);have B0:=zE.new w (zK fun _=>0) 240;have g0:=Ch.alloc [b] w (.cells (zK fun _=>0) 240);have hlt:=yB (S:=S) (i:=s.i) (by omega)
 have HR:Hd (yn S s=yq S (S.size+1) {s with i:=s.i+1} []):=by show _=_;simp only[yn,if_pos hb]
 go_enter Tryz.func191,Tryz.ntmps191;go_wp2_with fail;refine(ZP h0 hS 91 (by decide) hb).mono ?_;rintro e w1 ⟨rfl,h1,g1⟩;have HB:=zC hb;clear hb;have B1:=B0.kp g1 (by simp;omega);have G1:=g0.trans g1;go_wp2_with fail;refine(LP h1 hS hlt).mono ?_;rintro e w2 ⟨g2,⟨p,s2,v,hl,rfl,⟨q0,rfl,F2⟩,h2⟩|⟨d,hl,hg⟩⟩
 ·have HR2:Hd (yn S s=Vr S S.size s2 [p]):=HR.o.trans (AW hl)
  have lt2:=ND hl;simp only at lt2;clear hl;have B2:=B1.kp g2 (by simp;omega);have G2:=G1.trans g2;have z2:=G2.size;have hbl2:=h2.lt;have hH2:=B2.lt;rw[show zS q0= .agg #[.int .u64 (q0 0),.int .u64 (q0 1),.int .u64 (q0 2),.int .u64 (q0 3)]from rfl];go_wp2_with fail;have C3:zE (w2.alloc (.cells (zK q0) 240)) w2.heap.size (zK q0) 240:=zE.new w2 (zK q0) 240;have h3:=h2.kp (Ch.alloc [] w2 (.cells (zK q0) 240)) (by simp);have B3:=B2.kp (Ch.alloc [] w2 (.cells (zK q0) 240)) (by simp);have G3:=G2.trans (Ch.alloc [b] w2 (.cells (zK q0) 240))
  go_loopw [] (fun w5=>∃(L:List (Int×Int)) (s5:St) (n:Nat) (q:Nat->Nat),zE w5 w2.heap.size (zK q) 240/\zU q (zo L)/\zE w5 w.heap.size (zK fun _=>0) 240/\zP w5 b S s5 v5 v6 v7/\Ch [b] w w5/\S.size<n+s5.i/\s5.i<=S.size/\Hd (yn S s=Vr S n s5 L)) (fun w5=>S.size - penI b w5)
  case atStart=>exact⟨[p],s2,S.size,q0,C3,F2,B3,h3,G3,by omega,lt2.2,HR2⟩
  case round=>
   generalize wr=w5 at *;clear C3 h3 B3 G3 HR2 F2;obtain⟨L,s5,n,q,C5,F5,B5,h5,g5,hn,hi5,HR5⟩:=hrel;have z5:=g5.size
   by_cases hq:bt S s5.i=93
   ·have HR6:Hd (yn S s= .ok (L,{s5 with i:=s5.i+1})):=by show _=_;rw[HR5.o];simp only[Vr,if_pos hq]
    go_wp2_with fail;refine(ZP h5 hS 93 (by decide) hq).mono ?_;rintro e w6 ⟨rfl,h6,g6⟩;clear hq;have C6:=C5.kp g6 (by simp;omega);have B6:=B5.kp g6 (by simp;omega);have G6:=g5.trans g6;obtain⟨x0,x1,x2,x3⟩:=C6.c4;obtain⟨y0,y1,y2,y3⟩:=B6.c4;have fy:=B6.fz;go_wp2_with fail;obtain⟨R7,G7⟩:=B6.fill q;have g7:=G6.trans' G7 (by intro k hk;simp at hk;omega);have h7:=h6.kp G7 (by simp;omega);generalize (((w6.setCell ⟨w.heap.size,0,none⟩ (.int .u64 (q 0))).setCell ⟨w.heap.size,1,none⟩ (.int .u64 (q 1))).setCell ⟨w.heap.size,2,none⟩ (.int .u64 (q 2))).setCell ⟨w.heap.size,3,none⟩ (.int .u64 (q 3))=w7 at *;clear x0 x1 x2 x3 y0 y1 y2 y3;obtain⟨y0,y1,y2,y3⟩:=R7.c4;exact bodyPost_ret (v:=zS q) (by simp[results,Tryz.results191,go_sem,zS,zK,y0,y1,y2,y3]) rfl ⟨g7,Or.inl ⟨_,_,_,HR6.o,rfl,⟨q,rfl,F5⟩,h7⟩⟩
   ·obtain⟨n,rfl⟩:∃m,n=m+1:=⟨n - 1,by omega⟩
    have HR6:Hd (yn S s=yq S (n+1) s5 L):=by show _=_;rw[HR5.o];simp only[Vr,if_neg hq]
    go_wp2_with fail;refine(JW h5 hS hi5 93 hq).mono ?_;rintro e w6 ⟨rfl,h6,g6⟩;clear hq;have C6:=C5.kp g6 (by simp;omega);have B6:=B5.kp g6 (by simp;omega);have G6:=g5.trans g6;obtain⟨x0,x1,x2,x3⟩:=C6.c4;go_wp2_with fail;have C6x:=zC C6;have z6:=g6.size
    go_region_with (first|(go_at_call 211;refine(LP (s:=s5) (S:=S) (b:=b) (v5:=v5) (v6:=v6) (v7:=v7) ?_ hS hi5).mono ?_;exact h6;rintro e w7 ⟨g7,⟨p7,s7,v9,hl,rfl,⟨q7,rfl,F7⟩,h7⟩|⟨d,hl,hg⟩⟩;rotate_left;(obtain⟨rfl,ht⟩:=hg;exact zY (P:=Tryz.prog) (fn:=Tryz.f191) rfl ⟨G6.trans ((Ch.drew _ _).trans g7),Or.inr ⟨d,HR6.o.trans (AM hl),⟨rfl,ht⟩⟩⟩);have C7:=(C6x.o.kp (Ch.drew [b] w6) (by simp;omega)).kp g7 (by simp;omega);obtain⟨k0,k1,k2,k3⟩:=C7.c4;have HL:=zC hl;clear hl;rw[show zS q7= .agg #[.int .u64 (q7 0),.int .u64 (q7 1),.int .u64 (q7 2),.int .u64 (q7 3)]from rfl])|(go_at_call 212;refine(Gc (q1:=q) (q2:=q7) F5.1 F7.1).mono ?_;rintro e w8 ⟨rfl,g8⟩;have C8:=C7.kp g8 (by simp);obtain⟨m0,m1,m2,m3⟩:=C8.c4;have fm:=C8.fz;rw[show zS (fun t=>q t ||| q7 t)= .agg #[.int .u64 (q 0 ||| q7 0:Nat),.int .u64 (q 1 ||| q7 1:Nat),.int .u64 (q 2 ||| q7 2:Nat),.int .u64 (q 3 ||| q7 3:Nat)]from rfl]))
    all_goals
     have lt7:=ND HL.o;obtain⟨C9,G9⟩:=C8.fill (fun t=>q t ||| q7 t);have z7:=g7.size;have z8:=g8.size;have B9:=(((B6.kp (Ch.drew [b] w6) (by simp;omega)).kp g7 (by simp;omega)).kp g8 (by simp)).kp G9 (by simp;omega);have h9:=(h7.kp g8 (by simp)).kp G9 (by simp;omega);have g9:Ch [b] w _:=((G6.trans ((Ch.drew _ _).trans g7)).trans (g8.mono (by simp))).trans' G9 (by intro k hk;simp at hk;omega);go_roundw
     case rel=>exact⟨_,_,_,_,_,_,_,⟨L++[p7],s7,n,_,C9,(F5.or F7).congr (fun j _=>(IM L p7 j).symm),B9,h9,g9,by omega,lt7.2,HR6.o.trans (AW HL.o)⟩,rfl⟩
     case measure=>rw[h5.penI,h9.penI];omega
 ·have HR2:Hd (yn S s= .error d):=HR.o.trans (AM hl)
  clear hl;obtain⟨rfl,ht⟩:=hg;exact zY rfl ⟨G1.trans g2,Or.inr ⟨d,HR2.o,⟨rfl,ht⟩⟩⟩
end Go.Proofs.YteobgfbgglfkbaaGreat
