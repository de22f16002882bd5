import Derived.Test.YteobgfbgglfkbaaGreatRT7
import Derived.Test.YteobgfbgglfkbaaGreatRS7
set_option maxHeartbeats 3200000
set_option maxRecDepth 100000
namespace Go.Proofs.YteobgfbgglfkbaaGreat
open Go.RowKit
attribute [local go_sem ↓] Go.wp_at_zero Go.wp_at_succ
theorem MQ{w:World}{n:Nat}{cap:Array Value}{p:UInt8->Bool}(hp:Qy w n cap p):
 Calls Tryz.prog 171 #[.func (.func n) #[] cap] w fun e w'=>∃q,e= .returned (zS q)/\zU q (fun j=>p (UInt8.ofNat j))/\Ch [] w w':=by
 have HP:=zC hp.2;have hen:=hp.1;clear hp;have b0:zE ((w.alloc (.cells (zK fun _=>0) 240)).alloc (.cells (zK fun _=>0) 240)) w.heap.size (zK fun _=>0) 240:=(zE.new w _ _).kp (Ch.alloc [] _ _) (by simp)
 have b1:zE ((w.alloc (.cells (zK fun _=>0) 240)).alloc (.cells (zK fun _=>0) 240)) (w.heap.size+1) (zK fun _=>0) 240:=by
  have:=zE.new (w.alloc (.cells (zK fun _=>0) 240)) (zK fun _=>0) 240
  simpa using this
 have g0:Ch [] w ((w.alloc (.cells (zK fun _=>0) 240)).alloc (.cells (zK fun _=>0) 240)):=(Ch.alloc _ _ _).trans (Ch.alloc _ _ _);go_enter Tryz.func171,Tryz.ntmps171;go_wp2_with fail
 go_loopw [5] (fun v6 w5=>∃(k:Nat) (q:Nat->Nat),k<=256/\v6= .int .i64 k/\Hd (zE w5 (w.heap.size+1) (zK q) 240/\zU q (fun j=>decide (j<k) && p (UInt8.ofNat j))/\zE w5 w.heap.size (zK fun _=>0) 240/\Ch [] w w5)) (fun v6 _=>256 - (intOf v6).toNat)
 case atStart=>exact⟨0,fun _=>0,by omega,rfl,by show _/\_;exact⟨b1,zU.zero.congr (fun j _=>by simp),b0,g0⟩⟩
 case round=>
  generalize wr=w5 at *;obtain⟨k,q,hk,rfl,H5⟩:=hrel;clear b0 b1 g0
  by_cases hlt:(k:Int)<256
  ·have hw8:IntKind.u8.wrap (k:Int)=(k:Int):=by rw[IntKind.wrap_u8];omega
   have hk2:k<256:=by omega
   have ez:(UInt8.ofNat k).toNat=k:=by rw[UInt8.toNat_ofNat'];exact Nat.mod_eq_of_lt (by omega)
   have CALL:=zC (HP.o w5 H5.o.2.2.2 (UInt8.ofNat k));rw[ez]at CALL
   have e1:IntKind.i64.wrap ((k:Int)+1)=((k+1:Nat):Int):=by rw[IntKind.wrap_i64];omega
   go_wp2_with fail;refine CALL.o.mono ?_;rintro e w6 ⟨rfl,c6⟩;have B6:=zC (H5.o.1.kp c6 (by simp));have R6:=zC (H5.o.2.2.1.kp c6 (by simp));have G6:=zC (H5.o.2.2.2.trans c6)
   cases hpk:p (UInt8.ofNat k)with
   |false=>
    have F6:Hd (zU q (fun j=>decide (j<k+1) && p (UInt8.ofNat j))):=by
     refine H5.o.2.1.congr (fun j hj=> ?_)
     by_cases e:j=k
     ·subst e;simp[hpk]
     ·have:decide (j<k+1)=decide (j<k):=by rw[decide_eq_decide];omega
      rw[this]
    go_wp2_with fail;exact⟨⟨k+1,q,by omega,by simp,by show _/\_;exact⟨B6.o,F6.o,R6.o,G6.o⟩⟩,by simp[intOf];omega⟩
   |true=>
    have HF5:=zC H5.o.2.1;go_wp2_with fail;refine(K0 B6.o HF5.o k hk2).mono ?_;rintro e w7 ⟨rfl,B7,G7⟩
    have F7:Hd (zU (fun t=>if t=k / 64 then q t ||| 2 ^ (k % 64)else q t) (fun j=>decide (j<k+1) && p (UInt8.ofNat j))):=by
     refine(HF5.o.add (c:=k) hk2).congr (fun j hj=> ?_)
     by_cases e:j=k
     ·subst e;simp[hpk]
     ·have:decide (j<k+1)=decide (j<k):=by rw[decide_eq_decide];omega
      rw[this];simp[e]
    have HB7:=zC B7;have HR7:=zC (R6.o.kp G7 (by simp));have HG7:=zC (G6.o.trans' G7 (by intro x hx;simp at hx;omega));clear B7 G7;go_wp2_with fail;exact⟨⟨k+1,_,by omega,by simp,by show _/\_;exact⟨HB7.o,F7.o,HR7.o,HG7.o⟩⟩,by simp[intOf];omega⟩
  ·have F6:zU q (fun j=>p (UInt8.ofNat j)):=H5.o.2.1.congr (by
    intro j hj
    have:decide (j<k)=true:=by simp;omega
    simp[this])
   obtain⟨x0,x1,x2,x3⟩:=H5.o.1.c4;obtain⟨y0,y1,y2,y3⟩:=H5.o.2.2.1.c4;have fz:=H5.o.1.fz;have fy:=H5.o.2.2.1.fz;have R5x:=zC H5.o.2.2.1;have G5x:=zC H5.o.2.2.2;clear H5;go_wp2_with fail;obtain⟨R6,G6⟩:=R5x.o.fill q;have g6:=G5x.o.trans' G6 (by intro k hk;simp at hk;omega)
   try simp only at R6 g6
   generalize (((w5.setCell ⟨w.heap.size,0,none⟩ (.int .u64 (q 0))).setCell ⟨w.heap.size,1,none⟩ (.int .u64 (q 1))).setCell ⟨w.heap.size,2,none⟩ (.int .u64 (q 2))).setCell ⟨w.heap.size,3,none⟩ (.int .u64 (q 3))=w6 at *;clear x0 x1 x2 x3 y0 y1 y2 y3;obtain⟨y0,y1,y2,y3⟩:=R6.c4;exact bodyPost_ret (v:=zS q) (by simp[results,Tryz.results171,go_sem,zS,zK,y0,y1,y2,y3]) rfl ⟨q,rfl,F6,g6⟩
theorem Wz:(Tryz.prog.info? 240).map (fun i=>(i.zero,i.size,i.bytes))=some (some (.agg #[.int .u64 0,.int .u64 0,.int .u64 0,.int .u64 0]),4,32):=by kernel_rfl
theorem Rz{w:World}{P g m pb kb:Nat}{nx hv:Nat->Nat->Bool}{l:Nat->Bool}(hT:Z0 w P g m nx hv l)(hp:zE w pb #[.pointer (some ⟨P,0,none⟩)] 102){k:Nat}(hk:k<256)(hkb:zE w kb #[.int .i64 k] 3):Qy w 172 #[.pointer (some ⟨pb,0,none⟩),.pointer (some ⟨kb,0,none⟩)] (fun z=>hv z.toNat k):=by
 refine⟨fun _ _=>by kernel_rfl,fun W c z=> ?_⟩;obtain⟨cap,nq,hq,eq,b1,b2,b3,b4,b5,b6⟩:=hT.kp c (by simp) (by simp);have c0:=(hp.kp c (by simp)).cl 0 (.pointer (some ⟨P,0,none⟩)) rfl;have c1:=(hkb.kp c (by simp)).cl 0 (.int .i64 k) rfl;have hz:=z.toNat_lt;obtain⟨r0,r1,r2,r3,rf⟩:=yL.row b1 (i:=z.toNat) (by omega) (q:=hq z.toNat) (fun _ _=>rfl);have HS:=zC (b5 z.toNat (by omega))
 have hw8:IntKind.u8.wrap (k:Int)=(k:Int):=by rw[IntKind.wrap_u8];omega
 have hz1:((z.toNat:Nat):Int)<256:=by omega
 have hz0:(0:Int)<=(z.toNat:Nat):=by omega
 clear hT hp hkb b1 b2 b4 b5 b6
 show Calls Tryz.prog 172 #[.int .u8 (z.toNat),.pointer (some ⟨pb,0,none⟩),.pointer (some ⟨kb,0,none⟩)] W _
 go_enter Tryz.func172,Tryz.ntmps172;go_wp2_with fail
 go_region_with (first|(go_at_call 108;refine(Mh (q:=hq z.toNat) HS.o k hk).mono ?_;rintro e w1 ⟨rfl,k1⟩))
 all_goals
  go_wp2_with fail;go_ret;exact⟨rfl,(Ch.drew [] W).trans k1⟩
theorem Rb{w:World}{P g m:Nat}{nx hv:Nat->Nat->Bool}{l:Nat->Bool}(hT:Z0 w P g m nx hv l)(hm:m<=13):
 Calls Tryz.prog 136 #[.pointer (some ⟨P,0,none⟩)] w fun e w'=>∃v,e= .returned v/\zm w' v (J4 m hv)/\(∀q,v.ownBlock=some q->w.heap.size<=q)/\Ch [] w w':=by
 obtain⟨cap,nq,hq,eq,b1,b2,b3,b4,b5,b6⟩:=id hT;have g0:=Ch.alloc [] w (.cells #[.pointer (some ⟨P,0,none⟩)] 102);have B0:=zE.new w #[.pointer (some ⟨P,0,none⟩)] 102;have p0:=yL.c0 (zE.kp b1 g0 (by simp));have d0:=B0.cl 0 (.pointer (some ⟨P,0,none⟩)) rfl
 have hmf:∀(fn:Fn) (first cap:Array Value) (w:World),(Instr.makeFunc fn first cap).run Tryz.prog w= .ok (.func fn first cap) w:=fun _ _ _ _=>rfl
 have HT:=zC (hT.kp g0 (by simp) (by simp));have HB0:=zC B0
 have z0:(w.alloc (.cells #[.pointer (some ⟨P,0,none⟩)] 102)).heap.size=w.heap.size+1:=by simp
 clear hT b1 b2 b3 b4 b5 b6 B0;generalize hw0:w.alloc (.cells #[.pointer (some ⟨P,0,none⟩)] 102)=w0 at *;go_enter Tryz.func136,Tryz.ntmps136;go_wp2_with fail;clear p0 d0
 go_loopw [3,10] (fun lv iv w5=>∃k:Nat,iv= .int .i64 k/\k<=m/\Hd (zm w5 lv (J4 k hv)/\(∀q,lv.ownBlock=some q->w0.heap.size<=q)/\Ch [] w0 w5)) (fun _ iv _=>m - (intOf iv).toNat)
 case atStart=>exact⟨0,rfl,by omega,by show _/\_;exact⟨zm.nil _,by intro q hq;simp[Value.ownBlock]at hq,Ch.refl _ _⟩⟩
 case round=>
  generalize wr=w5 at *;obtain⟨k,rfl,hk,H5⟩:=hrel
  by_cases hlt:(k:Int)<m
  ·obtain⟨la,lc,hlv⟩:=H5.o.1.slice
   subst hlv
   have hpl:(J4 k hv).length=k:=by simp[J4]
   have g6:=Ch.alloc [] w5 (.cells #[.int .i64 k] 3);have B6:=zE.new w5 #[.int .i64 k] 3
   have e1:IntKind.i64.wrap ((k:Int)+1)=((k+1:Nat):Int):=by rw[IntKind.wrap_i64];omega
   have WH:=zC (MQ (Rz (HT.o.kp (H5.o.2.2.trans g6) (by simp) (by simp)) ((HB0.o.kp H5.o.2.2 (by simp)).kp g6 (by simp)) (by omega:k<256) B6));have HG6:=zC (H5.o.2.2.trans g6)
   have V5:Hd (∀q,(Value.slice la k lc).ownBlock=some q->w0.heap.size<=q):=by have:=H5.o.2.1;rw[hpl]at this;exact this
   have z5:=H5.o.2.2.size;have HM6:=zC (H5.o.1.kp g6 (by simp))
   have z6:(w5.alloc (.cells #[.int .i64 k] 3)).heap.size=w5.heap.size+1:=by simp
   clear B6 g6;generalize hw6:w5.alloc (.cells #[.int .i64 k] 3)=w6 at *;go_wp2_with fail;refine WH.o.mono ?_;rintro e w7 ⟨q,rfl,hq7,c7⟩;have HM7:=HM6.o.kp c7 (by simp);obtain⟨nq7,R7,F7⟩:=HM7;have gA:=Ch.alloc [] w7 (.cells #[.int .u64 (q 0),.int .u64 (q 1),.int .u64 (q 2),.int .u64 (q 3)] 240);have O7:=zJ R7 gA (by simp);rw[hpl]at O7;have HGA:=zC ((HG6.o.trans c7).trans gA);have HF7:=zC F7;have HQ7:=zC hq7;have z7:=c7.size;rw[show zS q= .agg #[.int .u64 (q 0),.int .u64 (q 1),.int .u64 (q 2),.int .u64 (q 3)]from rfl];clear R7 F7 hq7 c7 gA;go_wp2_with (at_builtin;refine YZ 238 240 4 32 (.agg #[.int .u64 0,.int .u64 0,.int .u64 0,.int .u64 0]) Tryz.underlying238 Wz rfl (by omega) (by omega) (by rfl) _ _ (by rfl) (.slice la k lc) k _ (by rfl) O7 w7.heap.size [.int .u64 (q 0),.int .u64 (q 1),.int .u64 (q 2),.int .u64 (q 3)] (by rfl) (zr _ _) rfl (by intro u hu;simp at hu;rcases hu with rfl|rfl|rfl|rfl <;>rfl) (by omega) (w7.heap.size+1) (by simp) ?_;intro g8 cap8 w8 own8 gr8 hat8 hlt8);go_roundw
   case rel=>
    refine⟨k+1,by simp,by omega,?_⟩
    show _/\_
    refine⟨?_,fun x hx=> ?_,HGA.o.trans' gr8 (fun x hx=>Or.inr (V5.o x (by simpa using hx)))⟩
    ·have e:J4 (k+1) hv=J4 k hv++[fun c=>hv c k]:=by simp[J4,List.range_succ]
     rw[e];refine zm.snoc HF7.o (HQ7.o.congr (fun j hj=> ?_)) (by rw[hpl];exact own8)
     have:(UInt8.ofNat j).toNat=j:=by rw[UInt8.toNat_ofNat'];exact Nat.mod_eq_of_lt (by omega)
     rw[this]
    ·have e:g8=x:=by simpa[Value.ownBlock]using hx
     subst e
     rcases hat8 with h|h
     ·exact V5.o _ h
     ·omega
   case measure=>simp[intOf];omega
  ·have e:k=m:=by omega
   subst e;have HC:=zC H5.o;clear H5;go_wp2_with fail;go_ret;exact⟨_,rfl,HC.o.1,fun q hq=>by have:=HC.o.2.1 q hq;omega,g0.trans HC.o.2.2⟩
theorem KX{w:World}(x:ByteArray)(hx:x.size<=400):
 Calls Tryz.prog 170 #[.string x] w fun e w'=>∃v,e= .returned v/\zm w' v (yM x.data.toList)/\(∀q,v.ownBlock=some q->w.heap.size<=q)/\Ch [] w w':=by
 have hxl:x.data.toList.length=x.size:=JF x;have HXL:=zC hxl;clear hxl;go_enter Tryz.func170,Tryz.ntmps170;go_wp2_with fail
 go_loopw [3,7] (fun lv iv w5=>∃k:Nat,iv= .int .i64 k/\k<=x.size/\Hd (zm w5 lv (yM (x.data.toList.take k))/\(∀q,lv.ownBlock=some q->w.heap.size<=q)/\Ch [] w w5)) (fun _ iv _=>x.size - (intOf iv).toNat)
 case atStart=>exact⟨0,rfl,by omega,by show _/\_;exact⟨zm.nil _,by intro q hq;simp[Value.ownBlock]at hq,Ch.refl _ _⟩⟩
 case round=>
  generalize wr=w5 at *;obtain⟨k,rfl,hk,H5⟩:=hrel
  by_cases hlt:(k:Int)<x.size
  ·have hk2:k<x.size:=by omega
   have hk3:k<x.data.toList.length:=by rw[HXL.o];exact hk2
   have hk0:(0:Int)<=k:=by omega
   have hpl:(yM (x.data.toList.take k)).length=k:=by simp[yM];have:=HXL.o;simp at this;omega
   obtain⟨la,lc,hlv⟩:=H5.o.1.slice;rw[hpl]at hlv;subst hlv;obtain⟨c,hc⟩:∃c,x.data.toList[k]=c:=⟨_,rfl⟩
   have HX:∀h:k<x.size,x[k]=c:=fun _=>by rw[<- hc];rfl
   have TK:Hd (yM (x.data.toList.take (k+1))=yM (x.data.toList.take k)++[fun z=>z==c.toNat]):=by
    show _=_
    rw[List.take_succ_eq_append_getElem hk3,hc];simp[yM]
   have g6:=Ch.alloc [] w5 (.cells #[.int .u8 (c.toNat)] 5);have B6:=zE.new w5 #[.int .u8 (c.toNat)] 5
   have e1:IntKind.i64.wrap ((k:Int)+1)=((k+1:Nat):Int):=by rw[IntKind.wrap_i64];omega
   have OF:=zC (LU B6 c.toNat_lt);have HG6:=zC (H5.o.2.2.trans g6);have V5:=zC H5.o.2.1;have z5:=H5.o.2.2.size;have HM6:=zC (H5.o.1.kp g6 (by simp));clear B6 g6 hc;generalize hw6:w5.alloc (.cells #[.int .u8 (c.toNat)] 5)=w6 at *;go_wp2_with fail;refine OF.o.mono ?_;rintro e w7 ⟨q,rfl,hq7,c7⟩;have HM7:=HM6.o.kp c7 (by simp);obtain⟨nq7,R7,F7⟩:=HM7;rw[hpl]at R7;have gA:=Ch.alloc [] w7 (.cells #[.int .u64 (q 0),.int .u64 (q 1),.int .u64 (q 2),.int .u64 (q 3)] 240);have O7:=zJ R7 gA (by simp);have HGA:=zC ((HG6.o.trans c7).trans gA);have HF7:=zC F7;have HQ7:=zC hq7;have z7:=c7.size;have zG6:=HG6.o.size;rw[show zS q= .agg #[.int .u64 (q 0),.int .u64 (q 1),.int .u64 (q 2),.int .u64 (q 3)]from rfl];clear R7 F7 hq7 c7 gA;go_wp2_with (at_builtin;refine YZ 238 240 4 32 (.agg #[.int .u64 0,.int .u64 0,.int .u64 0,.int .u64 0]) Tryz.underlying238 Wz rfl (by omega) (by omega) (by rfl) _ _ (by rfl) (.slice la k lc) k _ (by rfl) O7 w7.heap.size [.int .u64 (q 0),.int .u64 (q 1),.int .u64 (q 2),.int .u64 (q 3)] (by rfl) (zr _ _) rfl (by intro u hu;simp at hu;rcases hu with rfl|rfl|rfl|rfl <;>rfl) (by omega) (w7.heap.size+1) (by simp) ?_;intro g8 cap8 w8 own8 gr8 hat8 hlt8);go_roundw
   case rel=>
    refine⟨k+1,by simp,by omega,?_⟩
    show _/\_
    rw[TK.o];refine⟨zm.snoc HF7.o HQ7.o (by rw[hpl];exact own8),fun y hy=> ?_,HGA.o.trans' gr8 (fun y hy=>Or.inr (V5.o y (by simpa using hy)))⟩
    have e:g8=y:=by simpa[Value.ownBlock]using hy
    subst e
    rcases hat8 with h|h
    ·exact V5.o _ h
    ·omega
   case measure=>simp[intOf];omega
  ·have e:k=x.size:=by omega
   subst e;have HC:=H5.o;rw[<- HXL.o,List.take_length]at HC;have HCx:=zC HC;clear H5 HC;go_wp2_with fail;go_ret;exact⟨_,rfl,HCx.o.1,HCx.o.2.1,HCx.o.2.2⟩
end Go.Proofs.YteobgfbgglfkbaaGreat
