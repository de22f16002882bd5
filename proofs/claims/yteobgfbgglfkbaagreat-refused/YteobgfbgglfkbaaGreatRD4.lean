import Derived.Test.YteobgfbgglfkbaaGreatRD3
set_option maxHeartbeats 1600000
set_option maxRecDepth 100000
namespace Go.Proofs.YteobgfbgglfkbaaGreat
open Go.RowKit
attribute [local go_sem ↓] Go.wp_at_zero Go.wp_at_succ
theorem Cs{w:World}{B:Nat}{q:Nat->Nat}{f:Nat->Bool}(hB:zE w B (zK q) 156)(hf:zU q f)(c:Nat)(hc:c<256):
 Calls Tryz.prog 104 #[.pointer (some ⟨B,0,none⟩),.int .u8 c] w fun e w'=>e= .returned (.tuple #[])/\zE w' B (zK (fun t=>if t=c / 64 then q t ||| 2 ^ (c % 64)else q t)) 156/\Ch [B] w w':=by
 obtain⟨x0,x1,x2,x3⟩:=hB.c4;have fz:=hB.fz;have HP:=zC (Ag (k:=c % 64) (by omega))
 have hp:2 ^ (c % 64)<18446744073709551616:=by
  have:2 ^ (c % 64)<2 ^ 64:=Nat.pow_lt_pow_right (by omega) (by omega)
  simpa using this
 have HO:Hd (∀t,bits .or .u64 (q t:Int) (IntKind.u64.wrap ((2:Int) ^ (c % 64)))=((q t ||| 2 ^ (c % 64):Nat):Int)):=by
  intro t;rw[HP.o];exact orW (hf.1 t) hp
 have HC:Hd (∀t,t<4->t=c / 64->∀w1:World,(w1=(w.setCell ⟨B,t,none⟩ (.int .u64 (bits .or .u64 (q t:Int) (IntKind.u64.wrap ((2:Int) ^ (c % 64)))))).drew)->zE w1 B (zK (fun t=>if t=c / 64 then q t ||| 2 ^ (c % 64)else q t)) 156/\Ch [B] w w1):=by
  intro t ht e w1 e1;subst e1;rw[HO.o t];have h4:=hB.s4 ht (q t ||| 2 ^ (c % 64))
  rw[show(fun k=>if k=t then q t ||| 2 ^ (c % 64)else q k)=(fun k=>if k=c / 64 then q k ||| 2 ^ (c % 64)else q k)from by
   funext k;rw[<- e];by_cases ek:k=t
   ·subst ek;simp
   ·simp[ek]]at h4
  exact⟨h4,(Ch.setCell _ (by simp) _).trans (Ch.drew _ _)⟩
 clear hp
 obtain h0|h0|h0|h0:c / 64=0\/c / 64=1\/c / 64=2\/c / 64=3:=by omega
 all_goals
  have HE:=zC h0;go_enter Tryz.func104,Tryz.ntmps104;go_wp2_with fail;go_region
  go_end0
 ·exact⟨rfl,HC.o 0 (by omega) HE.o.symm _ rfl⟩
 ·exact⟨rfl,HC.o 1 (by omega) HE.o.symm _ rfl⟩
 ·exact⟨rfl,HC.o 2 (by omega) HE.o.symm _ rfl⟩
 ·exact⟨rfl,HC.o 3 (by omega) HE.o.symm _ rfl⟩
theorem YW{w:World}{q1 q2:Nat->Nat}(h1:Wd q1)(h2:Wd q2):
 Calls Tryz.prog 106 #[zS q1,zS q2] w fun e w'=>e= .returned (zS (fun t=>q1 t ||| q2 t))/\Ch [] w w':=by
 have HO:Hd (∀t,bits .or .u64 (q1 t:Int) (q2 t:Int)=((q1 t ||| q2 t:Nat):Int)):=fun t=>orW (h1 t) (h2 t)
 have e1:zS q1= .agg #[.int .u64 (q1 0),.int .u64 (q1 1),.int .u64 (q1 2),.int .u64 (q1 3)]:=rfl;have e2:zS q2= .agg #[.int .u64 (q2 0),.int .u64 (q2 1),.int .u64 (q2 2),.int .u64 (q2 3)]:=rfl;rw[e1,e2];clear e1 e2;go_enter Tryz.func106,Tryz.ntmps106;go_wp2_with fail;have b0:zE (((w.alloc (.cells (zK q1) 156)).alloc (.cells (zK q2) 156)).alloc (.cells (zK fun _=>0) 156)) w.heap.size (zK q1) 156:=((zE.new w _ _).kp (Ch.alloc [] _ _) (by simp)).kp (Ch.alloc [] _ _) (by simp)
 have b2:zE (((w.alloc (.cells (zK q1) 156)).alloc (.cells (zK q2) 156)).alloc (.cells (zK fun _=>0) 156)) (w.heap.size+1+1) (zK fun _=>0) 156:=by
  have:=zE.new ((w.alloc (.cells (zK q1) 156)).alloc (.cells (zK q2) 156)) (zK fun _=>0) 156
  simpa using this
 have g0:Ch [] w (((w.alloc (.cells (zK q1) 156)).alloc (.cells (zK q2) 156)).alloc (.cells (zK fun _=>0) 156)):=((Ch.alloc _ _ _).trans (Ch.alloc _ _ _)).trans (Ch.alloc _ _ _)
 go_loopw [5,6,9] (fun _ _ v9 w5=>∃i:Int,(0<=i/\i<=4)/\v9= .int .i64 i/\zE w5 w.heap.size (zK (fun t=>if t<i.toNat then q1 t ||| q2 t else q1 t)) 156/\zE w5 (w.heap.size+1+1) (zK fun _=>0) 156/\Ch [] w w5) (fun _ _ v9 _=>4 - (match v9 with|.int _ x=>x.toNat|_=>0))
 case atStart=>exact⟨0,by omega,rfl,(XR (q:=q1) (q':=fun t=>if t<Int.toNat 0 then q1 t ||| q2 t else q1 t) (fun t _=>by simp)) ▸ b0,b2,g0⟩
 case round=>
  generalize wr=w5 at *;obtain⟨i,hi,rfl,B5,R5,g5⟩:=hrel;clear b0 b2 g0;obtain⟨x0,x1,x2,x3⟩:=B5.c4;obtain⟨y0,y1,y2,y3⟩:=R5.c4;have fz:=B5.fz;have fy:=R5.fz;have B5x:=zC B5;have R5x:=zC R5;clear B5 R5
  obtain rfl|rfl|rfl|rfl|rfl:i=0\/i=1\/i=2\/i=3\/i=4:=by omega
  rotate_right
  ·simp at x0 x1 x2 x3 y0 y1 y2 y3
   go_wp2_with fail;obtain⟨R6,G6⟩:=R5x.o.fill (fun t=>q1 t ||| q2 t);have g6:=g5.trans' G6 (by intro k hk;simp at hk;omega)
   try simp only at R6 g6
   generalize (((w5.setCell ⟨w.heap.size+1+1,0,none⟩ (.int .u64 (q1 0 ||| q2 0:Nat))).setCell ⟨w.heap.size+1+1,1,none⟩ (.int .u64 (q1 1 ||| q2 1:Nat))).setCell ⟨w.heap.size+1+1,2,none⟩ (.int .u64 (q1 2 ||| q2 2:Nat))).setCell ⟨w.heap.size+1+1,3,none⟩ (.int .u64 (q1 3 ||| q2 3:Nat))=w6 at *;clear x0 x1 x2 x3 y0 y1 y2 y3;obtain⟨y0,y1,y2,y3⟩:=R6.c4
   try simp only at y0 y1 y2 y3
   exact bodyPost_ret (v:=zS (fun t=>q1 t ||| q2 t)) (by simp[results,Tryz.results106,go_sem,zS,zK,y0,y1,y2,y3]) rfl ⟨rfl,g6⟩
  all_goals
   simp at x0 x1 x2 x3 y0 y1 y2 y3;obtain⟨ix0,ix1,ix2,ix3⟩:=XM w5 (q2 0) (q2 1) (q2 2) (q2 3);go_wp2_with fail;rw[HO.o];go_roundw
   case measure=>simp
  case rel=>exact⟨1,by omega,rfl,YJ (op:=fun t=>q1 t ||| q2 t) 0 (by omega) B5x.o,R5x.o.kp (Ch.setCell (X:=[w.heap.size]) _ (by simp) _) (by simp;omega),g5.trans' (Ch.setCell (X:=[w.heap.size]) _ (by simp) _) (by simp)⟩
  case rel=>exact⟨2,by omega,rfl,YJ (op:=fun t=>q1 t ||| q2 t) 1 (by omega) B5x.o,R5x.o.kp (Ch.setCell (X:=[w.heap.size]) _ (by simp) _) (by simp;omega),g5.trans' (Ch.setCell (X:=[w.heap.size]) _ (by simp) _) (by simp)⟩
  case rel=>exact⟨3,by omega,rfl,YJ (op:=fun t=>q1 t ||| q2 t) 2 (by omega) B5x.o,R5x.o.kp (Ch.setCell (X:=[w.heap.size]) _ (by simp) _) (by simp;omega),g5.trans' (Ch.setCell (X:=[w.heap.size]) _ (by simp) _) (by simp)⟩
  case rel=>exact⟨4,by omega,rfl,YJ (op:=fun t=>q1 t ||| q2 t) 3 (by omega) B5x.o,R5x.o.kp (Ch.setCell (X:=[w.heap.size]) _ (by simp) _) (by simp;omega),g5.trans' (Ch.setCell (X:=[w.heap.size]) _ (by simp) _) (by simp)⟩
theorem DX{w:World}{q1 q2:Nat->Nat}(h1:Wd q1)(h2:Wd q2):
 Calls Tryz.prog 73 #[zS q1,zS q2] w fun e w'=>e= .returned (zS (fun t=>q1 t &&& q2 t))/\Ch [] w w':=by
 have HO:Hd (∀t,bits .and .u64 (q1 t:Int) (q2 t:Int)=((q1 t &&& q2 t:Nat):Int)):=fun t=>L5 (h1 t) (h2 t)
 have e1:zS q1= .agg #[.int .u64 (q1 0),.int .u64 (q1 1),.int .u64 (q1 2),.int .u64 (q1 3)]:=rfl;have e2:zS q2= .agg #[.int .u64 (q2 0),.int .u64 (q2 1),.int .u64 (q2 2),.int .u64 (q2 3)]:=rfl;rw[e1,e2];clear e1 e2;go_enter Tryz.func73,Tryz.ntmps73;go_wp2_with fail;have b0:zE (((w.alloc (.cells (zK q1) 156)).alloc (.cells (zK q2) 156)).alloc (.cells (zK fun _=>0) 156)) w.heap.size (zK q1) 156:=((zE.new w _ _).kp (Ch.alloc [] _ _) (by simp)).kp (Ch.alloc [] _ _) (by simp)
 have b2:zE (((w.alloc (.cells (zK q1) 156)).alloc (.cells (zK q2) 156)).alloc (.cells (zK fun _=>0) 156)) (w.heap.size+1+1) (zK fun _=>0) 156:=by
  have:=zE.new ((w.alloc (.cells (zK q1) 156)).alloc (.cells (zK q2) 156)) (zK fun _=>0) 156
  simpa using this
 have g0:Ch [] w (((w.alloc (.cells (zK q1) 156)).alloc (.cells (zK q2) 156)).alloc (.cells (zK fun _=>0) 156)):=((Ch.alloc _ _ _).trans (Ch.alloc _ _ _)).trans (Ch.alloc _ _ _)
 go_loopw [5,6,9] (fun _ _ v9 w5=>∃i:Int,(0<=i/\i<=4)/\v9= .int .i64 i/\zE w5 w.heap.size (zK (fun t=>if t<i.toNat then q1 t &&& q2 t else q1 t)) 156/\zE w5 (w.heap.size+1+1) (zK fun _=>0) 156/\Ch [] w w5) (fun _ _ v9 _=>4 - (match v9 with|.int _ x=>x.toNat|_=>0))
 case atStart=>exact⟨0,by omega,rfl,(XR (q:=q1) (q':=fun t=>if t<Int.toNat 0 then q1 t &&& q2 t else q1 t) (fun t _=>by simp)) ▸ b0,b2,g0⟩
 case round=>
  generalize wr=w5 at *;obtain⟨i,hi,rfl,B5,R5,g5⟩:=hrel;clear b0 b2 g0;obtain⟨x0,x1,x2,x3⟩:=B5.c4;obtain⟨y0,y1,y2,y3⟩:=R5.c4;have fz:=B5.fz;have fy:=R5.fz;have B5x:=zC B5;have R5x:=zC R5;clear B5 R5
  obtain rfl|rfl|rfl|rfl|rfl:i=0\/i=1\/i=2\/i=3\/i=4:=by omega
  rotate_right
  ·simp at x0 x1 x2 x3 y0 y1 y2 y3
   go_wp2_with fail;obtain⟨R6,G6⟩:=R5x.o.fill (fun t=>q1 t &&& q2 t);have g6:=g5.trans' G6 (by intro k hk;simp at hk;omega)
   try simp only at R6 g6
   generalize (((w5.setCell ⟨w.heap.size+1+1,0,none⟩ (.int .u64 (q1 0 &&& q2 0:Nat))).setCell ⟨w.heap.size+1+1,1,none⟩ (.int .u64 (q1 1 &&& q2 1:Nat))).setCell ⟨w.heap.size+1+1,2,none⟩ (.int .u64 (q1 2 &&& q2 2:Nat))).setCell ⟨w.heap.size+1+1,3,none⟩ (.int .u64 (q1 3 &&& q2 3:Nat))=w6 at *;clear x0 x1 x2 x3 y0 y1 y2 y3;obtain⟨y0,y1,y2,y3⟩:=R6.c4
   try simp only at y0 y1 y2 y3
   exact bodyPost_ret (v:=zS (fun t=>q1 t &&& q2 t)) (by simp[results,Tryz.results73,go_sem,zS,zK,y0,y1,y2,y3]) rfl ⟨rfl,g6⟩
  all_goals
   simp at x0 x1 x2 x3 y0 y1 y2 y3;obtain⟨ix0,ix1,ix2,ix3⟩:=XM w5 (q2 0) (q2 1) (q2 2) (q2 3);go_wp2_with fail;rw[HO.o];go_roundw
   case measure=>simp
  case rel=>exact⟨1,by omega,rfl,YJ (op:=fun t=>q1 t &&& q2 t) 0 (by omega) B5x.o,R5x.o.kp (Ch.setCell (X:=[w.heap.size]) _ (by simp) _) (by simp;omega),g5.trans' (Ch.setCell (X:=[w.heap.size]) _ (by simp) _) (by simp)⟩
  case rel=>exact⟨2,by omega,rfl,YJ (op:=fun t=>q1 t &&& q2 t) 1 (by omega) B5x.o,R5x.o.kp (Ch.setCell (X:=[w.heap.size]) _ (by simp) _) (by simp;omega),g5.trans' (Ch.setCell (X:=[w.heap.size]) _ (by simp) _) (by simp)⟩
  case rel=>exact⟨3,by omega,rfl,YJ (op:=fun t=>q1 t &&& q2 t) 2 (by omega) B5x.o,R5x.o.kp (Ch.setCell (X:=[w.heap.size]) _ (by simp) _) (by simp;omega),g5.trans' (Ch.setCell (X:=[w.heap.size]) _ (by simp) _) (by simp)⟩
  case rel=>exact⟨4,by omega,rfl,YJ (op:=fun t=>q1 t &&& q2 t) 3 (by omega) B5x.o,R5x.o.kp (Ch.setCell (X:=[w.heap.size]) _ (by simp) _) (by simp;omega),g5.trans' (Ch.setCell (X:=[w.heap.size]) _ (by simp) _) (by simp)⟩
def yP(nx hv:Nat->Nat->Bool)(l:Nat->Bool):Nat->List UInt8->Prop
 |p,[]=>l p=true
 |p,c:: w=>∃q,nx p q=true/\hv c.toNat q=true/\yP nx hv l q w
structure Pc where
 e:Bool
 f:Nat->Bool
 l:Nat->Bool
structure ji(nx hv:Nat->Nat->Bool)(lo hi:Nat)(P:Pc)(L:zF):Prop where
 em:L []↔P.e=true
 wd:∀c w,L (c:: w)↔∃q,P.f q=true/\hv c.toNat q=true/\yP nx hv P.l q w
 fr:∀q,P.f q=true->lo<=q/\q<hi
 lr:∀q,P.l q=true->lo<=q/\q<hi
 nr:∀p q,lo<=p->p<hi->nx p q=true->lo<=q/\q<hi
theorem Vi{nx hv nx' hv':Nat->Nat->Bool}{l l':Nat->Bool}{lo hi:Nat}(h1:∀p q,lo<=p->p<hi->nx' p q=nx p q)(h2:∀c p,lo<=p->p<hi->hv' c p=hv c p)(h3:∀p,lo<=p->p<hi->l' p=l p)
 (nr:∀p q,lo<=p->p<hi->nx p q=true->lo<=q/\q<hi):∀w p,lo<=p->p<hi->(yP nx' hv' l' p w↔yP nx hv l p w):=by
 intro w
 induction w with
 |nil=>intro p a b;simp only[yP];rw[h3 p a b]
 |cons c w ih=>
  intro p a b;simp only[yP]
  constructor
  ·rintro⟨q,e1,e2,e3⟩
   rw[h1 p q a b]at e1;obtain⟨x,y⟩:=nr p q a b e1;rw[h2 _ q x y]at e2;exact⟨q,e1,e2,(ih q x y).1 e3⟩
  ·rintro⟨q,e1,e2,e3⟩
   obtain⟨x,y⟩:=nr p q a b e1;exact⟨q,by rw[h1 p q a b];exact e1,by rw[h2 _ q x y];exact e2,(ih q x y).2 e3⟩
theorem ji.congr{nx hv nx' hv':Nat->Nat->Bool}{lo hi:Nat}{P:Pc}{L:zF}(h:ji nx hv lo hi P L)(h1:∀p q,lo<=p->p<hi->nx' p q=nx p q)(h2:∀c p,lo<=p->p<hi->hv' c p=hv c p):ji nx' hv' lo hi P L:=by
 refine⟨h.em,fun c w=> ?_,h.fr,h.lr,fun p q a b e=>h.nr p q a b (by rw[<- h1 p q a b];exact e)⟩;rw[h.wd c w]
 constructor
 ·rintro⟨q,e1,e2,e3⟩
  obtain⟨x,y⟩:=h.fr q e1;exact⟨q,e1,by rw[h2 _ q x y];exact e2,(Vi h1 h2 (fun _ _ _=>rfl) h.nr w q x y).2 e3⟩
 ·rintro⟨q,e1,e2,e3⟩
  obtain⟨x,y⟩:=h.fr q e1;exact⟨q,e1,by rw[<- h2 _ q x y];exact e2,(Vi h1 h2 (fun _ _ _=>rfl) h.nr w q x y).1 e3⟩
def yl(nx:Nat->Nat->Bool)(l f:Nat->Bool)(p q:Nat):Bool:=nx p q || (l p && f q)
def yU(P1 P2:Pc):Pc:=⟨P1.e && P2.e,fun q=>P1.f q || (P1.e && P2.f q),fun q=>P2.l q || (P2.e && P1.l q)⟩
def Jz(P1 P2:Pc):Pc:=⟨P1.e || P2.e,fun q=>P1.f q || P2.f q,fun q=>P1.l q || P2.l q⟩
theorem FT{nx hv:Nat->Nat->Bool}{lo mid hi:Nat}{P1 P2:Pc}{L1 L2:zF}(h1:ji nx hv lo mid P1 L1)(h2:ji nx hv mid hi P2 L2)(hlm:lo<=mid)(hmh:mid<=hi):
 ji (yl nx P1.l P2.f) hv lo hi (yU P1 P2) (zF.seq L1 L2):=by
 have l1n:∀p,mid<=p->P1.l p=false:=fun p hp=>by
  cases e:P1.l p with
  |false=>rfl
  |true=>have:=h1.lr p e;omega
 have l2n:∀p,p<mid->P2.l p=false:=fun p hp=>by
  cases e:P2.l p with
  |false=>rfl
  |true=>have:=h2.lr p e;omega
 have A:∀w q,mid<=q->q<hi->(yP (yl nx P1.l P2.f) hv (yU P1 P2).l q w↔yP nx hv P2.l q w):=
  Vi (fun p q a _=>by simp[yl,l1n p a]) (fun _ _ _ _=>rfl) (fun p a _=>by simp[yU,l1n p a]) h2.nr
 have B:∀w q,lo<=q->q<mid->(yP (yl nx P1.l P2.f) hv (yU P1 P2).l q w↔(P2.e=true/\yP nx hv P1.l q w)\/(∃x c y,w=x++c:: y/\yP nx hv P1.l q x/\∃r,P2.f r=true/\hv c.toNat r=true/\yP nx hv P2.l r y)):=by
  intro w
  induction w with
  |nil=>
   intro q a b;simp only[yP,yU,l2n q b,Bool.false_or,Bool.and_eq_true]
   constructor
   ·intro h;exact Or.inl h
   ·rintro(h|⟨x,c,y,e,_⟩)
    ·exact h
    ·simp at e
  |cons c w ih=>
   intro q a b;simp only[yP]
   constructor
   ·rintro⟨r,e1,e2,e3⟩
    simp only[yl,Bool.or_eq_true,Bool.and_eq_true]at e1
    rcases e1 with e1|⟨e1,e1'⟩
    ·obtain⟨x,y⟩:=h1.nr q r a b e1
     rcases(ih r x y).1 e3 with⟨k1,k2⟩|⟨x',c',y',rfl,k2,k3⟩
     ·exact Or.inl ⟨k1,r,e1,e2,k2⟩
     ·exact Or.inr ⟨c:: x',c',y',rfl,⟨r,e1,e2,k2⟩,k3⟩
    ·obtain⟨x,y⟩:=h2.fr r e1'
     exact Or.inr ⟨[],c,w,rfl,e1,r,e1',e2,(A w r x y).1 e3⟩
   ·rintro(⟨k1,r,e1,e2,e3⟩|⟨x',c',y',e,k2,r',k3,k4,k5⟩)
    ·obtain⟨x,y⟩:=h1.nr q r a b e1
     exact⟨r,by simp[yl,e1],e2,(ih r x y).2 (Or.inl ⟨k1,e3⟩)⟩
    ·cases x' with
     |nil=>
      simp only[List.nil_append,List.cons.injEq]at e;obtain⟨rfl,rfl⟩:=e;obtain⟨x,y⟩:=h2.fr r' k3;exact⟨r',by simp only[yP]at k2;simp[yl,k2,k3],k4,(A w r' x y).2 k5⟩
     |cons c0 x'=>
      simp only[List.cons_append,List.cons.injEq]at e;obtain⟨rfl,rfl⟩:=e;obtain⟨r,e1,e2,e3⟩:=k2;obtain⟨x,y⟩:=h1.nr q r a b e1;exact⟨r,by simp[yl,e1],e2,(ih r x y).2 (Or.inr ⟨x',c',y',rfl,e3,r',k3,k4,k5⟩)⟩
 refine⟨?_,fun c w=> ?_,?_,?_,?_⟩
 ·simp only[yU,Bool.and_eq_true]
  rw[<- h1.em,<- h2.em]
  constructor
  ·rintro⟨x,y,e,k1,k2⟩
   obtain⟨rfl,rfl⟩:=List.append_eq_nil_iff.1 e.symm;exact⟨k1,k2⟩
  ·rintro⟨k1,k2⟩;exact⟨[],[],rfl,k1,k2⟩
 ·constructor
  ·rintro⟨x,y,e,k1,k2⟩
   cases x with
   |nil=>
    simp only[List.nil_append]at e;rw[<- e]at k2;obtain⟨q,e1,e2,e3⟩:=(h2.wd c w).1 k2;obtain⟨a,b⟩:=h2.fr q e1;exact⟨q,by simp[yU,h1.em.1 k1,e1],e2,(A w q a b).2 e3⟩
   |cons c0 x=>
    simp only[List.cons_append,List.cons.injEq]at e;obtain⟨rfl,rfl⟩:=e;obtain⟨q,e1,e2,e3⟩:=(h1.wd _ _).1 k1;obtain⟨a,b⟩:=h1.fr q e1;refine⟨q,by simp[yU,e1],e2,(B _ q a b).2 ?_⟩
    cases y with
    |nil=>exact Or.inl ⟨h2.em.1 k2,by simpa using e3⟩
    |cons c1 y=>exact Or.inr ⟨x,c1,y,rfl,e3,(h2.wd c1 y).1 k2⟩
  ·rintro⟨q,e1,e2,e3⟩
   simp only[yU,Bool.or_eq_true,Bool.and_eq_true]at e1
   rcases e1 with e1|⟨e0,e1⟩
   ·obtain⟨a,b⟩:=h1.fr q e1
    rcases(B w q a b).1 e3 with⟨k1,k2⟩|⟨x,c',y,rfl,k2,k3⟩
    ·exact⟨c:: w,[],by simp,(h1.wd c w).2 ⟨q,e1,e2,k2⟩,h2.em.2 k1⟩
    ·exact⟨c:: x,c':: y,by simp,(h1.wd c x).2 ⟨q,e1,e2,k2⟩,(h2.wd c' y).2 k3⟩
   ·obtain⟨a,b⟩:=h2.fr q e1
    exact⟨[],c:: w,rfl,h1.em.2 e0,(h2.wd c w).2 ⟨q,e1,e2,(A w q a b).1 e3⟩⟩
 ·intro q hq
  simp only[yU,Bool.or_eq_true,Bool.and_eq_true]at hq
  rcases hq with hq|⟨_,hq⟩
  ·have:=h1.fr q hq;omega
  ·have:=h2.fr q hq;omega
 ·intro q hq
  simp only[yU,Bool.or_eq_true,Bool.and_eq_true]at hq
  rcases hq with hq|⟨_,hq⟩
  ·have:=h2.lr q hq;omega
  ·have:=h1.lr q hq;omega
 ·intro p q a b hq
  simp only[yl,Bool.or_eq_true,Bool.and_eq_true]at hq
  rcases hq with hq|⟨hq1,hq⟩
  ·by_cases hp:p<mid
   ·have:=h1.nr p q a hp hq;omega
   ·have:=h2.nr p q (by omega) b hq;omega
  ·have:=h2.fr q hq;omega
theorem Lv(R:List zF)(A:zF)(t:List UInt8):zF.alt (R++[A]) t↔zF.alt R t\/A t:=by
 simp only[zF.alt]
 constructor
 ·rintro⟨B,hB,hb⟩
  simp at hB
  rcases hB with hB|rfl
  ·exact Or.inl ⟨B,hB,hb⟩
  ·exact Or.inr hb
 ·rintro(⟨B,hB,hb⟩|hb)
  ·exact⟨B,by simp[hB],hb⟩
  ·exact⟨A,by simp,hb⟩
theorem EE{nx hv:Nat->Nat->Bool}{lo mid hi:Nat}{P1 P2:Pc}{R:List zF}{L2:zF}(h1:ji nx hv lo mid P1 (zF.alt R))(h2:ji nx hv mid hi P2 L2)(hlm:lo<=mid)(hmh:mid<=hi):
 ji nx hv lo hi (Jz P1 P2) (zF.alt (R++[L2])):=by
 have l1n:∀p,mid<=p->P1.l p=false:=fun p hp=>by
  cases e:P1.l p with
  |false=>rfl
  |true=>have:=h1.lr p e;omega
 have l2n:∀p,p<mid->P2.l p=false:=fun p hp=>by
  cases e:P2.l p with
  |false=>rfl
  |true=>have:=h2.lr p e;omega
 have A:∀w q,mid<=q->q<hi->(yP nx hv (Jz P1 P2).l q w↔yP nx hv P2.l q w):=
  Vi (fun _ _ _ _=>rfl) (fun _ _ _ _=>rfl) (fun p a _=>by simp[Jz,l1n p a]) h2.nr
 have B:∀w q,lo<=q->q<mid->(yP nx hv (Jz P1 P2).l q w↔yP nx hv P1.l q w):=
  Vi (fun _ _ _ _=>rfl) (fun _ _ _ _=>rfl) (fun p _ b=>by simp[Jz,l2n p b]) h1.nr
 refine⟨?_,fun c w=> ?_,?_,?_,?_⟩
 ·rw[Lv,h1.em,h2.em];simp[Jz]
 ·rw[Lv,h1.wd,h2.wd]
  constructor
  ·rintro(⟨q,e1,e2,e3⟩|⟨q,e1,e2,e3⟩)
   ·obtain⟨a,b⟩:=h1.fr q e1
    exact⟨q,by simp[Jz,e1],e2,(B w q a b).2 e3⟩
   ·obtain⟨a,b⟩:=h2.fr q e1
    exact⟨q,by simp[Jz,e1],e2,(A w q a b).2 e3⟩
  ·rintro⟨q,e1,e2,e3⟩
   simp only[Jz,Bool.or_eq_true]at e1
   rcases e1 with e1|e1
   ·obtain⟨a,b⟩:=h1.fr q e1
    exact Or.inl ⟨q,e1,e2,(B w q a b).1 e3⟩
   ·obtain⟨a,b⟩:=h2.fr q e1
    exact Or.inr ⟨q,e1,e2,(A w q a b).1 e3⟩
 ·intro q hq
  simp only[Jz,Bool.or_eq_true]at hq
  rcases hq with hq|hq
  ·have:=h1.fr q hq;omega
  ·have:=h2.fr q hq;omega
 ·intro q hq
  simp only[Jz,Bool.or_eq_true]at hq
  rcases hq with hq|hq
  ·have:=h1.lr q hq;omega
  ·have:=h2.lr q hq;omega
 ·intro p q a b hq
  by_cases hp:p<mid
  ·have:=h1.nr p q a hp hq;omega
  ·have:=h2.nr p q (by omega) b hq;omega
theorem Eq(nx hv:Nat->Nat->Bool)(lo:Nat):ji nx hv lo lo ⟨true,fun _=>false,fun _=>false⟩ zF.eps:=
 ⟨by simp[zF.eps],fun c w=>by simp[zF.eps],by simp,by simp,fun p q a b=>by omega⟩
theorem CI(nx hv:Nat->Nat->Bool)(lo:Nat):ji nx hv lo lo ⟨false,fun _=>false,fun _=>false⟩ (zF.alt []):=
 ⟨by simp[zF.alt],fun c w=>by simp[zF.alt],by simp,by simp,fun p q a b=>by omega⟩
theorem aH{nx hv:Nat->Nat->Bool}{p:Nat}{Lc:List (Int×Int)}(h1:∀q,nx p q=false)(h2:∀c,c<256->hv c p=zo Lc c):ji nx hv p (p+1) ⟨false,fun q=>q==p,fun q=>q==p⟩ (zF.cls Lc):=by
 refine⟨?_,fun c w=> ?_,?_,?_,?_⟩
 ·simp[zF.cls]
 ·constructor
  ·rintro⟨c',e,hc⟩
   simp only[List.cons.injEq]at e;obtain⟨rfl,rfl⟩:=e;exact⟨p,by simp,by rw[h2 _ c.toNat_lt];exact hc,by simp[yP]⟩
  ·rintro⟨q,e1,e2,e3⟩
   obtain rfl:q=p:=by simpa using e1
   cases w with
   |nil=>exact⟨c,rfl,by rw[<- h2 _ c.toNat_lt];exact e2⟩
   |cons c' w=>
    obtain⟨r,e4,_⟩:=e3;rw[h1]at e4;cases e4
 ·intro q hq;simp at hq;omega
 ·intro q hq;simp at hq;omega
 ·intro q r a b e
  obtain rfl:q=p:=by omega
  rw[h1]at e;cases e
theorem Sd{A:zF}{n:Nat}(h:A []):zF.pow A n []:=by
 induction n with
 |zero=>rfl
 |succ n ih=>exact⟨[],[],rfl,h,ih⟩
theorem EB{nx hv:Nat->Nat->Bool}{lo hi:Nat}{P:Pc}{L:zF}(h:ji nx hv lo hi P L):ji (yl nx P.l P.f) hv lo hi P L.plus:=by
 have old:∀w q,yP nx hv P.l q w->yP (yl nx P.l P.f) hv P.l q w:=by
  intro w
  induction w with
  |nil=>intro q a;exact a
  |cons c w ih=>rintro q ⟨r,e1,e2,e3⟩;exact⟨r,by simp[yl,e1],e2,ih r e3⟩
 have join:∀x q c y,yP nx hv P.l q x->(∃r,P.f r=true/\hv c.toNat r=true/\yP (yl nx P.l P.f) hv P.l r y)->yP (yl nx P.l P.f) hv P.l q (x++c:: y):=by
  intro x
  induction x with
  |nil=>rintro q c y a ⟨r,e1,e2,e3⟩;simp only[yP]at a;exact⟨r,by simp[yl,a,e1],e2,e3⟩
  |cons c0 x ih=>rintro q c y ⟨r,e1,e2,e3⟩ k;exact⟨r,by simp[yl,e1],e2,ih r c y e3 k⟩
 have part:∀w q,lo<=q->q<hi->yP (yl nx P.l P.f) hv P.l q w->yP nx hv P.l q w\/∃x c y,w=x++c:: y/\yP nx hv P.l q x/\∃r,P.f r=true/\hv c.toNat r=true/\yP (yl nx P.l P.f) hv P.l r y:=by
  intro w
  induction w with
  |nil=>intro q _ _ a;exact Or.inl a
  |cons c w ih=>
   rintro q a b ⟨r,e1,e2,e3⟩;simp only[yl,Bool.or_eq_true,Bool.and_eq_true]at e1
   rcases e1 with e1|⟨e1,e1'⟩
   ·obtain⟨x,y⟩:=h.nr q r a b e1
    rcases ih r x y e3 with k|⟨x',c',y',rfl,k2,k3⟩
    ·exact Or.inl ⟨r,e1,e2,k⟩
    ·exact Or.inr ⟨c:: x',c',y',rfl,⟨r,e1,e2,k2⟩,k3⟩
   ·exact Or.inr ⟨[],c,w,rfl,e1,r,e1',e2,e3⟩
 have up:∀n c w,zF.pow L n (c:: w)->∃q,P.f q=true/\hv c.toNat q=true/\yP (yl nx P.l P.f) hv P.l q w:=by
  intro n
  induction n with
  |zero=>intro c w e;cases e
  |succ n ih=>
   rintro c w ⟨x,y,e,k1,k2⟩
   cases x with
   |nil=>simp only[List.nil_append]at e;subst e;exact ih c w k2
   |cons c0 x=>
    simp only[List.cons_append,List.cons.injEq]at e;obtain⟨rfl,rfl⟩:=e;obtain⟨q,e1,e2,e3⟩:=(h.wd _ _).1 k1
    cases y with
    |nil=>exact⟨q,e1,e2,by rw[List.append_nil];exact old _ _ e3⟩
    |cons c1 y=>exact⟨q,e1,e2,join x q c1 y e3 (ih c1 y k2)⟩
 have down:∀m w,w.length<=m->∀c q,P.f q=true->hv c.toNat q=true->yP (yl nx P.l P.f) hv P.l q w->∃n,zF.pow L (n+1) (c:: w):=by
  intro m
  induction m with
  |zero=>
   intro w hw c q e1 e2 e3;obtain rfl:w=[]:=List.eq_nil_of_length_eq_zero (by omega);exact⟨0,c:: [],[],rfl,(h.wd _ _).2 ⟨q,e1,e2,e3⟩,rfl⟩
  |succ m ih=>
   intro w hw c q e1 e2 e3;obtain⟨a,b⟩:=h.fr q e1
   rcases part w q a b e3 with k|⟨x,c',y,rfl,k2,r,k3,k4,k5⟩
   ·exact⟨0,c:: w,[],by simp,(h.wd _ _).2 ⟨q,e1,e2,k⟩,rfl⟩
   ·obtain⟨n,hn⟩:=ih y (by simp at hw;omega) c' r k3 k4 k5
    exact⟨n+1,c:: x,c':: y,by simp,(h.wd _ _).2 ⟨q,e1,e2,k2⟩,hn⟩
 refine⟨?_,fun c w=> ?_,h.fr,h.lr,?_⟩
 ·rw[<- h.em]
  constructor
  ·rintro⟨n,x,y,e,k1,k2⟩
   obtain⟨rfl,rfl⟩:=List.append_eq_nil_iff.1 e.symm;exact k1
  ·intro k;exact⟨0,Sd k⟩
 ·constructor
  ·rintro⟨n,hn⟩;exact up _ _ _ hn
  ·rintro⟨q,e1,e2,e3⟩;exact down w.length w (Nat.le_refl _) c q e1 e2 e3
 ·intro p q a b hq
  simp only[yl,Bool.or_eq_true,Bool.and_eq_true]at hq
  rcases hq with hq|⟨_,hq⟩
  ·exact h.nr p q a b hq
  ·exact h.fr q hq
theorem Ow{nx hv:Nat->Nat->Bool}{lo hi:Nat}{P:Pc}{L:zF}(h:ji nx hv lo hi P L):ji (yl nx P.l P.f) hv lo hi {P with e:=true} L.star:=by
 have k:=EB h;refine⟨⟨fun _=>rfl,fun _=>⟨0,rfl⟩⟩,fun c w=> ?_,k.fr,k.lr,k.nr⟩;rw[<- k.wd c w]
 constructor
 ·rintro⟨n,hn⟩
  cases n with
  |zero=>cases hn
  |succ n=>exact⟨n,hn⟩
 ·rintro⟨n,hn⟩;exact⟨n+1,hn⟩
theorem Fp{nx hv:Nat->Nat->Bool}{lo hi:Nat}{P:Pc}{L:zF}(h:ji nx hv lo hi P L):ji nx hv lo hi {P with e:=true} L.opt:=
 ⟨⟨fun _=>rfl,fun _=>Or.inl rfl⟩,fun c w=>by rw[<- h.wd c w];simp[zF.opt],h.fr,h.lr,h.nr⟩
theorem Ej{nx hv:Nat->Nat->Bool}{hi:Nat}{P:Pc}{L:zF}(h:ji nx hv 1 hi P L)(h0:∀q,nx 0 q=P.f q)(w:List UInt8):L w↔yP nx hv (fun q=>P.l q || (P.e && q==0)) 0 w:=by
 have l0:P.l 0=false:=by
  cases e:P.l 0 with
  |false=>rfl
  |true=>have:=h.lr 0 e;omega
 have A:∀w q,1<=q->q<hi->(yP nx hv (fun q=>P.l q || (P.e && q==0)) q w↔yP nx hv P.l q w):=
  Vi (fun _ _ _ _=>rfl) (fun _ _ _ _=>rfl) (fun p a _=>by
   have:(p==0)=false:=by simp;omega
   simp[this]) h.nr
 cases w with
 |nil=>rw[h.em];simp[yP,l0]
 |cons c w=>
  rw[h.wd];simp only[yP]
  constructor
  ·rintro⟨q,e1,e2,e3⟩
   obtain⟨a,b⟩:=h.fr q e1;exact⟨q,by rw[h0];exact e1,e2,(A w q a b).2 e3⟩
  ·rintro⟨q,e1,e2,e3⟩
   rw[h0]at e1;obtain⟨a,b⟩:=h.fr q e1;exact⟨q,e1,e2,(A w q a b).1 e3⟩
theorem Mh{w:World}{q:Nat->Nat}{f:Nat->Bool}(hf:zU q f)(c:Nat)(hc:c<256):
 Calls Tryz.prog 108 #[zS q,.int .u8 c] w fun e w'=>e= .returned (.bool (f c))/\Ch [] w w':=by
 have e1:zS q= .agg #[.int .u64 (q 0),.int .u64 (q 1),.int .u64 (q 2),.int .u64 (q 3)]:=rfl;rw[e1];clear e1
 obtain h0|h0|h0|h0:c / 64=0\/c / 64=1\/c / 64=2\/c / 64=3:=by omega
 all_goals
  have HE:=zC h0;go_enter Tryz.func108,Tryz.ntmps108;go_wp2_with fail;go_ret
 ·exact⟨by show Ending.returned (.bool _)=_;rw[QH (hf.1 0),<- hf.2 c hc,HE.o],Ch.alloc _ _ _⟩
 ·exact⟨by show Ending.returned (.bool _)=_;rw[QH (hf.1 1),<- hf.2 c hc,HE.o],Ch.alloc _ _ _⟩
 ·exact⟨by show Ending.returned (.bool _)=_;rw[QH (hf.1 2),<- hf.2 c hc,HE.o],Ch.alloc _ _ _⟩
 ·exact⟨by show Ending.returned (.bool _)=_;rw[QH (hf.1 3),<- hf.2 c hc,HE.o],Ch.alloc _ _ _⟩
theorem CE:∃i,Tryz.prog.info? 153=some i:=by
 obtain⟨i,hi,_⟩:=info_parts (show(Tryz.prog.info? 153).map (fun i=>(i.zero,i.size,i.bytes))=some (some (.int .u64 0),1,8)from by kernel_rfl);exact⟨i,hi⟩
theorem Fj:Tryz.prog.cellsOf 153=1:=by kernel_rfl
theorem eqA4(d:Nat)(x0 x1 x2 x3:Int)(w:World):(Op.equalIn (d+2) 154 (.agg #[.int .u64 x0,.int .u64 x1,.int .u64 x2,.int .u64 x3]) (.agg #[.int .u64 0,.int .u64 0,.int .u64 0,.int .u64 0])).run Tryz.prog w= .ok (x0==0 && (x1==0 && (x2==0 && x3==0))) w:=by
 obtain⟨i,hi⟩:=CE;rw[run_equalIn_array w (d+1) _ _ Tryz.underlying154 hi,Fj]
 have he:Tryz.prog.plainKey 153=true:=by kernel_rfl
 have z:∀(k:Nat),k<4->∀w,(part 153 #[.int .u64 0,.int .u64 0,.int .u64 0,.int .u64 0] k).run Tryz.prog w= .ok (.int .u64 0) w:=by
  intro k hk w
  obtain rfl|rfl|rfl|rfl:k=0\/k=1\/k=2\/k=3:=by omega
  all_goals exact run_part_plain w he rfl
 have p0:∀w,(part 153 #[.int .u64 x0,.int .u64 x1,.int .u64 x2,.int .u64 x3] 0).run Tryz.prog w= .ok (.int .u64 x0) w:=fun w=>run_part_plain w he rfl
 have p1:∀w,(part 153 #[.int .u64 x0,.int .u64 x1,.int .u64 x2,.int .u64 x3] 1).run Tryz.prog w= .ok (.int .u64 x1) w:=fun w=>run_part_plain w he rfl
 have p2:∀w,(part 153 #[.int .u64 x0,.int .u64 x1,.int .u64 x2,.int .u64 x3] 2).run Tryz.prog w= .ok (.int .u64 x2) w:=fun w=>run_part_plain w he rfl
 have p3:∀w,(part 153 #[.int .u64 x0,.int .u64 x1,.int .u64 x2,.int .u64 x3] 3).run Tryz.prog w= .ok (.int .u64 x3) w:=fun w=>run_part_plain w he rfl
 have hq:∀(a:Int) w,(Op.equalIn (d+1) 153 (.int .u64 a) (.int .u64 0)).run Tryz.prog w= .ok (a==0) w:=fun a w=>run_equalIn_int w d _ _ _ _ _ Tryz.underlying153
 simp only[show List.range 4=[0,1,2,3]from rfl,Op.eqItems,Sem.run_bind,Nat.mul_one,p0,p1,p2,p3,z 0 (by omega),z 1 (by omega),z 2 (by omega),z 3 (by omega),hq,Result.andThen_ok,Sem.run_ite,Sem.run_pure]
 cases x0==0 <;>cases x1==0 <;>cases x2==0 <;>cases x3==0 <;>simp
theorem cmp4(x0 x1 x2 x3:Int)(w:World):(binOp BinOp.eql 156 (.agg #[.int .u64 x0,.int .u64 x1,.int .u64 x2,.int .u64 x3]) (.agg #[.int .u64 0,.int .u64 0,.int .u64 0,.int .u64 0])).run Tryz.prog w= .ok (.bool (x0==0 && (x1==0 && (x2==0 && x3==0)))) w:=by
 rw[run_eql_struct,run_equalIn_struct w 9999 _ _ _ (by simp[Program.fieldsOf,Tryz.underlying156]) (by kernel_rfl)]
 have p:∀(a b c e:Int) w,(part 154 #[.int .u64 a,.int .u64 b,.int .u64 c,.int .u64 e] 0).run Tryz.prog w= .ok (.agg #[.int .u64 a,.int .u64 b,.int .u64 c,.int .u64 e]) w:=fun _ _ _ _ _=>by kernel_rfl
 have q:=eqA4 9997 x0 x1 x2 x3;simp[Program.fieldsOf,Tryz.underlying156,Op.eqFields,p,q]
 by_cases h:x0=0->x1=0->x2=0->¬x3=0
 ·rw[if_pos h]
  have:(x0==0 && (x1==0 && (x2==0 && x3==0)))=false:=by
   rw[Bool.eq_false_iff];simp;exact h
  rw[this]
 ·rw[if_neg h]
  have:(x0==0 && (x1==0 && (x2==0 && x3==0)))=true:=by
   simp only[Bool.and_eq_true,beq_iff_eq]
   refine⟨?_,?_,?_,?_⟩ <;>(apply Classical.byContradiction;intro hn;apply h;intros;simp_all)
  rw[this]
theorem EU{w:World}{q:Nat->Nat}{f:Nat->Bool}(hf:zU q f):
 Calls Tryz.prog 71 #[zS q] w fun e w'=>∃r:Bool,e= .returned (.bool r)/\(r=true↔∀j,j<256->f j=false)/\Ch [] w w':=by
 have e1:zS q= .agg #[.int .u64 (q 0),.int .u64 (q 1),.int .u64 (q 2),.int .u64 (q 3)]:=rfl;rw[e1];clear e1;have hc4:=cmp4 (q 0) (q 1) (q 2) (q 3);go_enter Tryz.func71,Tryz.ntmps71;go_wp2_with fail;go_ret;refine⟨_,rfl,?_,Ch.alloc _ _ _⟩
 have key:(∀j,j<256->f j=false)↔(q 0=0/\q 1=0/\q 2=0/\q 3=0):=by
  constructor
  ·intro h
   have z:∀t,t<4->q t=0:=by
    intro t ht;apply Nat.eq_of_testBit_eq;intro i;rw[Nat.zero_testBit]
    by_cases hi:i<64
    ·have:=hf.2 (64 * t+i) (by omega)
     rw[show(64 * t+i) / 64=t by omega,show(64 * t+i) % 64=i by omega]at this;rw[this,h _ (by omega)]
    ·exact Nat.testBit_lt_two_pow (Nat.lt_of_lt_of_le (hf.1 t) (by
      have:2 ^ 64<=2 ^ i:=Nat.pow_le_pow_right (by omega) (by omega)
      simpa using this))
   exact⟨z 0 (by omega),z 1 (by omega),z 2 (by omega),z 3 (by omega)⟩
  ·rintro⟨a,b,c,d⟩ j hj
   rw[<- hf.2 j hj]
   obtain h0|h0|h0|h0:j / 64=0\/j / 64=1\/j / 64=2\/j / 64=3:=by omega
   all_goals simp[h0,a,b,c,d]
 rw[key];simp
theorem Xe{w:World}{a c:Nat}(ha:zE w a #[.int .u8 c] 161)(hc:c<256):
 Calls Tryz.prog 68 #[.slice (some ⟨a,0,none⟩) 1 1] w fun e w'=>∃q,e= .returned (zS q)/\zU q (fun j=>j==c)/\Ch [] w w':=by
 have al:=ha.lt;go_enter Tryz.func68,Tryz.ntmps68;go_wp2_with fail;have b0:zE ((w.alloc (.cells (zK fun _=>0) 156)).alloc (.cells (zK fun _=>0) 156)) w.heap.size (zK fun _=>0) 156:=(zE.new w _ _).kp (Ch.alloc [] _ _) (by simp)
 have b1:zE ((w.alloc (.cells (zK fun _=>0) 156)).alloc (.cells (zK fun _=>0) 156)) (w.heap.size+1) (zK fun _=>0) 156:=by
  have:=zE.new (w.alloc (.cells (zK fun _=>0) 156)) (zK fun _=>0) 156
  simpa using this
 have g0:Ch [] w ((w.alloc (.cells (zK fun _=>0) 156)).alloc (.cells (zK fun _=>0) 156)):=(Ch.alloc _ _ _).trans (Ch.alloc _ _ _)
 go_loopw [5,8] (fun _ v w5=>∃q,zE w5 (w.heap.size+1) (zK q) 156/\zE w5 w.heap.size (zK fun _=>0) 156/\Ch [] w w5/\((v= .int .i64 0/\zU q (fun _=>false))\/(v= .int .i64 1/\zU q (fun j=>j==c)))) (fun _ v _=>1 - (match v with|.int _ x=>x.toNat|_=>0))
 case atStart=>exact⟨fun _=>0,b1,b0,g0,Or.inl ⟨rfl,zU.zero⟩⟩
 case round=>
  generalize wr=w5 at *;obtain⟨q,B5,R5,g5,⟨rfl,F5⟩|⟨rfl,F5⟩⟩:=hrel
  ·have a5:=(ha.kp g5 (by simp)).cl 0 _ rfl
   clear b0 b1 g0;go_wp2_with fail;refine(Cs B5 F5 c hc).mono ?_;rintro e w6 ⟨rfl,B6,G6⟩;have g6:=g5.trans' G6 (by intro k hk;simp at hk;omega);go_wp2_with fail;go_roundw
   case rel=>exact⟨_,B6,R5.kp G6 (by simp),g6,Or.inr ⟨rfl,(F5.add (c:=c) hc).congr (fun j _=>by simp)⟩⟩
   case measure=>decide
  ·obtain⟨x0,x1,x2,x3⟩:=B5.c4
   obtain⟨y0,y1,y2,y3⟩:=R5.c4;have fz:=B5.fz;have fy:=R5.fz;have R5x:=zC R5;have F5x:=zC F5;clear B5 R5 F5 b0 b1 g0;go_wp2_with fail;obtain⟨R6,G6⟩:=R5x.o.fill q;have g6:=g5.trans' G6 (by intro k hk;simp at hk;omega)
   try simp only at R6 g6
   generalize (((w5.setCell ⟨w.heap.size,0,none⟩ (.int .u64 (q 0))).setCell ⟨w.heap.size,1,none⟩ (.int .u64 (q 1))).setCell ⟨w.heap.size,2,none⟩ (.int .u64 (q 2))).setCell ⟨w.heap.size,3,none⟩ (.int .u64 (q 3))=w6 at *;clear x0 x1 x2 x3 y0 y1 y2 y3;obtain⟨y0,y1,y2,y3⟩:=R6.c4;exact bodyPost_ret (v:=zS q) (by simp[results,Tryz.results68,go_sem,zS,zK,y0,y1,y2,y3]) rfl ⟨q,rfl,F5x.o,g6⟩
theorem LU{w:World}{a c:Nat}(ha:zE w a #[.int .u8 c] 5)(hc:c<256):
 Calls Tryz.prog 203 #[.slice (some ⟨a,0,none⟩) 1 1] w fun e w'=>∃q,e= .returned (zS q)/\zU q (fun j=>j==c)/\Ch [] w w':=by
 have al:=ha.lt;go_enter Tryz.func203,Tryz.ntmps203;go_wp2_with fail;have b0:zE ((w.alloc (.cells (zK fun _=>0) 240)).alloc (.cells (zK fun _=>0) 240)) w.heap.size (zK fun _=>0) 240:=(zE.new w _ _).kp (Ch.alloc [] _ _) (by simp)
 have b1:zE ((w.alloc (.cells (zK fun _=>0) 240)).alloc (.cells (zK fun _=>0) 240)) (w.heap.size+1) (zK fun _=>0) 240:=by
  have:=zE.new (w.alloc (.cells (zK fun _=>0) 240)) (zK fun _=>0) 240
  simpa using this
 have g0:Ch [] w ((w.alloc (.cells (zK fun _=>0) 240)).alloc (.cells (zK fun _=>0) 240)):=(Ch.alloc _ _ _).trans (Ch.alloc _ _ _)
 go_loopw [5,8] (fun _ v w5=>∃q,zE w5 (w.heap.size+1) (zK q) 240/\zE w5 w.heap.size (zK fun _=>0) 240/\Ch [] w w5/\((v= .int .i64 0/\zU q (fun _=>false))\/(v= .int .i64 1/\zU q (fun j=>j==c)))) (fun _ v _=>1 - (match v with|.int _ x=>x.toNat|_=>0))
 case atStart=>exact⟨fun _=>0,b1,b0,g0,Or.inl ⟨rfl,zU.zero⟩⟩
 case round=>
  generalize wr=w5 at *;obtain⟨q,B5,R5,g5,⟨rfl,F5⟩|⟨rfl,F5⟩⟩:=hrel
  ·have a5:=(ha.kp g5 (by simp)).cl 0 _ rfl
   clear b0 b1 g0;go_wp2_with fail;refine(K0 B5 F5 c hc).mono ?_;rintro e w6 ⟨rfl,B6,G6⟩;have g6:=g5.trans' G6 (by intro k hk;simp at hk;omega);go_wp2_with fail;go_roundw
   case rel=>exact⟨_,B6,R5.kp G6 (by simp),g6,Or.inr ⟨rfl,(F5.add (c:=c) hc).congr (fun j _=>by simp)⟩⟩
   case measure=>decide
  ·obtain⟨x0,x1,x2,x3⟩:=B5.c4
   obtain⟨y0,y1,y2,y3⟩:=R5.c4;have fz:=B5.fz;have fy:=R5.fz;have R5x:=zC R5;have F5x:=zC F5;clear B5 R5 F5 b0 b1 g0;go_wp2_with fail;obtain⟨R6,G6⟩:=R5x.o.fill q;have g6:=g5.trans' G6 (by intro k hk;simp at hk;omega)
   try simp only at R6 g6
   generalize (((w5.setCell ⟨w.heap.size,0,none⟩ (.int .u64 (q 0))).setCell ⟨w.heap.size,1,none⟩ (.int .u64 (q 1))).setCell ⟨w.heap.size,2,none⟩ (.int .u64 (q 2))).setCell ⟨w.heap.size,3,none⟩ (.int .u64 (q 3))=w6 at *;clear x0 x1 x2 x3 y0 y1 y2 y3;obtain⟨y0,y1,y2,y3⟩:=R6.c4;exact bodyPost_ret (v:=zS q) (by simp[results,Tryz.results203,go_sem,zS,zK,y0,y1,y2,y3]) rfl ⟨q,rfl,F5x.o,g6⟩
def ya(nq:Nat->Nat->Nat)(m:Nat):List Value:=(List.range (4 * m)).map fun j=> .int .u64 (nq (j / 4) (j % 4):Nat)
theorem QQ{nq:Nat->Nat->Nat}{m p t:Nat}(hp:p<m)(ht:t<4):(ya nq m)[4 * p+t]? =some (.int .u64 (nq p t:Nat)):=by
 unfold ya;rw[List.getElem?_map,List.getElem?_range (by omega)];simp only[Option.map_some];rw[show(4 * p+t) / 4=p by omega,show(4 * p+t) % 4=t by omega]
theorem Jw(nq:Nat->Nat->Nat)(m:Nat):(ya nq m).length=m * 4:=by simp[ya];omega
theorem Qo{nq nq':Nat->Nat->Nat}{m:Nat}(h:∀p t,p<m->t<4->nq p t=nq' p t):ya nq m=ya nq' m:=by
 unfold ya;apply List.map_congr_left;intro j hj;simp at hj;rw[h _ _ (by omega) (by omega)]
theorem My{nq:Nat->Nat->Nat}{m p:Nat}(hp:p<m)(q:Nat->Nat):
 ((((ya nq m).set (4 * p) (.int .u64 (q 0))).set (4 * p+1) (.int .u64 (q 1))).set (4 * p+2) (.int .u64 (q 2))).set (4 * p+3) (.int .u64 (q 3))=ya (fun k=>if k=p then q else nq k) m:=by
 apply List.ext_getElem?;intro j
 by_cases hj:j<4 * m
 ·have e:j=4 * (j / 4)+j % 4:=by omega
  have hl:=Jw nq m
  rw[show(ya (fun k=>if k=p then q else nq k) m)[j]? =some (.int .u64 ((if j / 4=p then q else nq (j / 4)) (j % 4):Nat))from by
   conv=>lhs;rw[e]
   rw[QQ (by omega) (by omega)]]
  have g:(ya nq m)[j]? =some (.int .u64 (nq (j / 4) (j % 4):Nat)):=by
   conv=>lhs;rw[e]
   rw[QQ (by omega) (by omega)]
  simp only[List.getElem?_set,List.length_set,hl]
  by_cases h3:4 * p+3=j
  ·rw[if_pos h3,if_pos (by omega),if_pos (by omega),show j % 4=3 by omega]
  ·rw[if_neg h3]
   by_cases h2:4 * p+2=j
   ·rw[if_pos h2,if_pos (by omega),if_pos (by omega),show j % 4=2 by omega]
   ·rw[if_neg h2]
    by_cases h1:4 * p+1=j
    ·rw[if_pos h1,if_pos (by omega),if_pos (by omega),show j % 4=1 by omega]
    ·rw[if_neg h1]
     by_cases h0:4 * p=j
     ·rw[if_pos h0,if_pos (by omega),if_pos (by omega),show j % 4=0 by omega]
     ·rw[if_neg h0,if_neg (by omega),g]
 ·rw[List.getElem?_eq_none (by simp[Jw];omega),List.getElem?_eq_none (by simp[Jw];omega)]
theorem Bi(nq:Nat->Nat->Nat)(m:Nat):ya nq (m+1)=ya nq m++[.int .u64 (nq m 0:Nat),.int .u64 (nq m 1:Nat),.int .u64 (nq m 2:Nat),.int .u64 (nq m 3:Nat)]:=by
 unfold ya;rw[show 4 * (m+1)=4 * m+1+1+1+1 by omega];simp only[List.range_succ,List.map_append,List.map_cons,List.map_nil,List.append_assoc,List.cons_append,List.nil_append];rw[show(4 * m) / 4=m by omega,show(4 * m) % 4=0 by omega,show(4 * m+1) / 4=m by omega,show(4 * m+1) % 4=1 by omega,show(4 * m+1+1) / 4=m by omega,show(4 * m+1+1) % 4=2 by omega,show(4 * m+1+1+1) / 4=m by omega,show(4 * m+1+1+1) % 4=3 by omega]
def JP(v:Value)(h:Nat->Nat->Nat)(e:Nat->Nat):List Value:=v:: (ya h 256++[.int .u64 (e 0),.int .u64 (e 1),.int .u64 (e 2),.int .u64 (e 3)])
def yL(w:World)(P:Nat)(v:Value)(h:Nat->Nat->Nat)(e:Nat->Nat):Prop:=zE w P (JP v h e).toArray 159
theorem yL.c0{w:World}{P:Nat}{v:Value}{h:Nat->Nat->Nat}{e:Nat->Nat}(H:yL w P v h e):w.cell? ⟨P,0,none⟩=some v:=zE.cl H 0 _ (by simp[JP])
theorem yL.ch{w:World}{P:Nat}{v:Value}{h:Nat->Nat->Nat}{e:Nat->Nat}(H:yL w P v h e){c t:Nat}(hc:c<256)(ht:t<4):w.cell? ⟨P,1+(4 * c+t),none⟩=some (.int .u64 (h c t:Nat)):=by
 apply zE.cl H;rw[List.getElem?_toArray,JP,Nat.add_comm 1,List.getElem?_cons_succ,List.getElem?_append_left (by rw[Jw];omega),QQ hc ht]
theorem yL.ce{w:World}{P:Nat}{v:Value}{h:Nat->Nat->Nat}{e:Nat->Nat}(H:yL w P v h e):w.cell? ⟨P,1025,none⟩=some (.int .u64 (e 0))/\w.cell? ⟨P,1026,none⟩=some (.int .u64 (e 1))/\w.cell? ⟨P,1027,none⟩=some (.int .u64 (e 2))/\w.cell? ⟨P,1028,none⟩=some (.int .u64 (e 3)):=by
 have key:∀t v',[Value.int .u64 (e 0),.int .u64 (e 1),.int .u64 (e 2),.int .u64 (e 3)][t]? =some v'->w.cell? ⟨P,1025+t,none⟩=some v':=by
  intro t v' hv;apply zE.cl H;rw[List.getElem?_toArray,JP,show 1025+t=(1024+t)+1 by omega,List.getElem?_cons_succ,List.getElem?_append_right (by rw[Jw];omega),Jw,show 1024+t - 256 * 4=t by omega];exact hv
 exact⟨key 0 _ rfl,key 1 _ rfl,key 2 _ rfl,key 3 _ rfl⟩
theorem UF{w:World}{g m cap:Nat}{T:TypeId}{nq:Nat->Nat->Nat}(R:w.ownsRow 0 T 4 (.slice (some ⟨g,0,none⟩) m cap) m (ya nq m)){i:Nat}(hi:i<m){q:Nat->Nat}(hq:∀t,t<4->nq i t=q t):
 w.cell? ⟨g,i * 4,none⟩=some (.int .u64 (q 0))/\w.cell? ⟨g,i * 4+1,none⟩=some (.int .u64 (q 1))/\w.cell? ⟨g,i * 4+2,none⟩=some (.int .u64 (q 2))/\w.cell? ⟨g,i * 4+3,none⟩=some (.int .u64 (q 3))/\∀j,w.frozen? ⟨g,j,none⟩=false:=by
 have key:∀t,t<4->w.cell? ⟨g,i * 4+t,none⟩=some (.int .u64 (q t:Nat)):=by
  intro t ht;rw[R.cellAt (i * 4+t) (by omega),Nat.mul_comm i 4,QQ hi ht,hq t ht]
 exact⟨key 0 (by omega),key 1 (by omega),key 2 (by omega),key 3 (by omega),fun j=>R.frozenAt j⟩
theorem Iw{w:World}{g m cap:Nat}{T:TypeId}{nq:Nat->Nat->Nat}(R:w.ownsRow 0 T 4 (.slice (some ⟨g,0,none⟩) m cap) m (ya nq m)){i:Nat}(hi:i<m)(q:Nat->Nat):
 ((((w.setCell ⟨g,i * 4,none⟩ (.int .u64 (q 0))).setCell ⟨g,i * 4+1,none⟩ (.int .u64 (q 1))).setCell ⟨g,i * 4+2,none⟩ (.int .u64 (q 2))).setCell ⟨g,i * 4+3,none⟩ (.int .u64 (q 3))).ownsRow 0 T 4 (.slice (some ⟨g,0,none⟩) m cap) m (ya (fun k=>if k=i then q else nq k) m)/\
 Ch [g] w ((((w.setCell ⟨g,i * 4,none⟩ (.int .u64 (q 0))).setCell ⟨g,i * 4+1,none⟩ (.int .u64 (q 1))).setCell ⟨g,i * 4+2,none⟩ (.int .u64 (q 2))).setCell ⟨g,i * 4+3,none⟩ (.int .u64 (q 3))):=by
 have r:=((((R.stored (i * 4) (.int .u64 (q 0))).1.stored (i * 4+1) (.int .u64 (q 1))).1.stored (i * 4+2) (.int .u64 (q 2))).1.stored (i * 4+3) (.int .u64 (q 3))).1;rw[Nat.mul_comm i 4,My hi]at r;rw[Nat.mul_comm i 4];exact⟨r,(((Ch.setCell _ (by simp) _).trans (Ch.setCell _ (by simp) _)).trans (Ch.setCell _ (by simp) _)).trans (Ch.setCell _ (by simp) _)⟩
theorem Ty{w:World}{P g m cap:Nat}{h:Nat->Nat->Nat}{e:Nat->Nat}{nq:Nat->Nat->Nat}{qf qt:Nat->Nat}{ff:Nat->Bool}(H:yL w P (.slice (some ⟨g,0,none⟩) m cap) h e)(R:w.ownsRow 0 156 4 (.slice (some ⟨g,0,none⟩) m cap) m (ya nq m))(hgP:g≠P)(hm:m<=256)(hf:zU qf ff)(ht:Wd qt)(hn:∀p,p<m->Wd (nq p)):
 Calls Tryz.prog 105 #[.pointer (some ⟨P,0,none⟩),zS qf,zS qt] w fun r w'=>r= .returned (.tuple #[])/\Ch [g] w w'/\w'.ownsRow 0 156 4 (.slice (some ⟨g,0,none⟩) m cap) m (ya (fun p t=>if ff p then nq p t ||| qt t else nq p t) m):=by
 have e1:zS qf= .agg #[.int .u64 (qf 0),.int .u64 (qf 1),.int .u64 (qf 2),.int .u64 (qf 3)]:=rfl;have e2:zS qt= .agg #[.int .u64 (qt 0),.int .u64 (qt 1),.int .u64 (qt 2),.int .u64 (qt 3)]:=rfl;rw[e1,e2];clear e1 e2;have c0:=H.c0;have hPl:=zE.lt H;have hgl:=(R.lt g rfl).2;go_enter Tryz.func105,Tryz.ntmps105;go_wp2_with fail;have b0:zE ((w.alloc (.cells (zK qf) 156)).alloc (.cells (zK qt) 156)) w.heap.size (zK qf) 156:=(zE.new w _ _).kp (Ch.alloc [] _ _) (by simp)
 have b1:zE ((w.alloc (.cells (zK qf) 156)).alloc (.cells (zK qt) 156)) (w.heap.size+1) (zK qt) 156:=by
  have:=zE.new (w.alloc (.cells (zK qf) 156)) (zK qt) 156
  simpa using this
 have g0:Ch [] w ((w.alloc (.cells (zK qf) 156)).alloc (.cells (zK qt) 156)):=(Ch.alloc _ _ _).trans (Ch.alloc _ _ _);have H1:yL _ P _ h e:=zE.kp H g0 (by simp);have R1:=zJ R g0 (by simp);clear c0;have G0:=zC g0
 revert b0 b1 H1 R1 G0
 have zz:((w.alloc (.cells (zK qf) 156)).alloc (.cells (zK qt) 156)).heap.size=w.heap.size+2:=by simp
 rw[show(w.alloc (.cells #[.int .u64 (qf 0),.int .u64 (qf 1),.int .u64 (qf 2),.int .u64 (qf 3)] 156)).alloc (.cells #[.int .u64 (qt 0),.int .u64 (qt 1),.int .u64 (qt 2),.int .u64 (qt 3)] 156)=(w.alloc (.cells (zK qf) 156)).alloc (.cells (zK qt) 156)from rfl];generalize (w.alloc (.cells (zK qf) 156)).alloc (.cells (zK qt) 156)=W at *;intro b0 b1 H1 R1 G0;generalize hB:w.heap.size=B at *
 go_loopw [6,12] (fun _ v w5=>∃i:Nat,v= .int .i64 i/\i<=m/\Ch [g] W w5/\w5.ownsRow 0 156 4 (.slice (some ⟨g,0,none⟩) m cap) m (ya (fun p t=>if p<i/\ff p=true then nq p t ||| qt t else nq p t) m)) (fun _ v _=>m - (match v with|.int _ x=>x.toNat|_=>0))
 case atStart=>exact⟨0,rfl,by omega,Ch.refl _ _,by rw[Qo (nq':=nq) (fun p t _ _=>by simp)];exact R1⟩
 case round=>
  generalize wr=w5 at *;obtain⟨i,rfl,hi,g5,R5⟩:=hrel;have H5:yL w5 P _ h e:=zE.kp H1 g5 (by simpa using Ne.symm hgP);have d0:=b0.kp g5 (by simp;omega);have d1:=b1.kp g5 (by simp;omega);have c0:=H5.c0;obtain⟨x0,x1,x2,x3⟩:=d0.c4;obtain⟨y0,y1,y2,y3⟩:=d1.c4
  by_cases hlt:i<m
  ·have hlt':(i:Int)<m:=by omega
   have hi0:(0:Int)<=i:=by omega
   have hw8:IntKind.u8.wrap (i:Int)=(i:Int):=by rw[IntKind.wrap_u8];omega
   go_wp2_with fail;refine(Mh hf i (by omega)).mono ?_;rintro r w6 ⟨rfl,g6⟩;have R6:=zJ R5 g6 (by simp);have H6:yL w6 P _ h e:=zE.kp H5 g6 (by simp);have d1':=d1.kp g6 (by simp);clear c0 x0 x1 x2 x3 y0 y1 y2 y3;have c0:=H6.c0;obtain⟨y0,y1,y2,y3⟩:=d1'.c4
   have hcur:∀t,t<4->(if i<i/\ff i=true then nq i t ||| qt t else nq i t)=nq i t:=fun t _=>by simp
   obtain⟨z0,z1,z2,z3,fz⟩:=UF R6 hlt (q:=nq i) hcur
   have hm':m - (i+1)<m - i:=by omega
   cases hff:ff i
   ·go_wp2_with fail
    refine⟨⟨i+1,rfl,by omega,g5.trans (g6.mono (by simp)),?_⟩,hm'⟩;rw[Qo (nq':=fun p t=>if p<i/\ff p=true then nq p t ||| qt t else nq p t)]
    ·exact R6
    ·intro p t hp _
     by_cases e:p=i
     ·subst e;simp[hff]
     ·have:p<i+1↔p<i:=by omega
      simp only[this]
   ·have R6x:=zC R6
    have H6x:=zC H6;clear R6 H6 H5 R5 d0 d1;go_wp2_with fail
    go_region_with (go_at_call 106;refine(YW (q1:=nq i) (q2:=qt) (hn i hlt) ht).mono ?_;rintro r w7 ⟨rfl,g7⟩;have R7:=zJ (zJ R6x.o (Ch.drew [] w6) (by simp)) g7 (by simp);have H7:yL w7 P _ h e:=zE.kp (zE.kp H6x.o (Ch.drew [] w6) (by simp)) g7 (by simp);have c7:=H7.c0;obtain⟨k0,k1,k2,k3,f7⟩:=UF R7 hlt (q:=nq i) hcur;rw[show zS (fun t=>nq i t ||| qt t)= .agg #[.int .u64 (nq i 0 ||| qt 0:Nat),.int .u64 (nq i 1 ||| qt 1:Nat),.int .u64 (nq i 2 ||| qt 2:Nat),.int .u64 (nq i 3 ||| qt 3:Nat)]from rfl])
    all_goals
     obtain⟨R8,G8⟩:=Iw R7 hlt (fun t=>nq i t ||| qt t);have G78:Ch [g] w6 _:=(Ch.drew _ _).trans ((g7.mono (by simp)).trans G8)
     try simp only at R8 G78
     generalize (((w7.setCell ⟨g,i * 4,none⟩ (.int .u64 (nq i 0 ||| qt 0:Nat))).setCell ⟨g,i * 4+1,none⟩ (.int .u64 (nq i 1 ||| qt 1:Nat))).setCell ⟨g,i * 4+2,none⟩ (.int .u64 (nq i 2 ||| qt 2:Nat))).setCell ⟨g,i * 4+3,none⟩ (.int .u64 (nq i 3 ||| qt 3:Nat))=w8 at *;clear k0 k1 k2 k3 f7 c7 z0 z1 z2 z3 fz y0 y1 y2 y3 c0;go_wp2_with fail;refine⟨⟨i+1,rfl,by omega,g5.trans ((g6.mono (by simp)).trans G78),?_⟩,hm'⟩;rw[Qo (nq':=fun k=>if k=i then(fun t=>nq i t ||| qt t)else fun t=>if k<i/\ff k=true then nq k t ||| qt t else nq k t)]
     ·exact R8
     ·intro p t hp _
      by_cases e:p=i
      ·subst e;simp[hff]
      ·have:p<i+1↔p<i:=by omega
       simp only[this,e,if_false]
  ·have hge:¬(i:Int)<m:=by omega
   obtain rfl:i=m:=by omega
   clear hlt;go_wp2_with fail
   go_end0
   refine⟨rfl,?_,?_⟩
   ·exact(G0.o.mono (by simp)).trans g5
   ·rw[Qo (nq':=fun p t=>if p<i/\ff p=true then nq p t ||| qt t else nq p t)]
    ·exact R5
    ·intro p t hp _;simp[hp]
end Go.Proofs.YteobgfbgglfkbaaGreat
