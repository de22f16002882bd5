import Derived.Test.YteobgfbgglfkbaaGreatJU2
import Derived.Lib.AppendZerosOnto
import Derived.Lib.SliceRun
namespace Go.Proofs.YteobgfbgglfkbaaGreat
open Go.RowKit
attribute [local go_sem ↓] Go.wp_at_zero Go.wp_at_succ
theorem zAl.built0(w:World):zAl (w.alloc (.cells #[] 240)) (.slice (some ⟨w.heap.size,0,none⟩) 0 0) []:=
 ⟨fun _ _=>0,⟨rfl,Or.inr ⟨_,0,#[],rfl,Nat.zero_le _,zAH _ _,Nat.zero_le _,Nat.zero_le _,rfl,rfl⟩⟩,fun i f h=>by simp at h⟩
theorem zAl.built2(w:World){q q':Nat→Nat}{f f':Nat→Bool}(h:SetF q f)(h':SetF q' f'):zAl (w.alloc (.cells #[.int .u64 (q 0:Nat),.int .u64 (q 1:Nat),.int .u64 (q 2:Nat),.int .u64 (q 3:Nat),.int .u64 (q' 0:Nat),.int .u64 (q' 1:Nat),.int .u64 (q' 2:Nat),.int .u64 (q' 3:Nat)] 240)) (.slice (some ⟨w.heap.size,0,none⟩) 2 2) [f,f']:=by
 refine ⟨fun i=>if i=0 then q else q',⟨by simp [zAw],Or.inr ⟨_,2,_,rfl,Nat.zero_le _,zAH _ _,Nat.le_refl _,by simp only [maxLen];omega,rfl,?_⟩⟩,fun i g hg=> ?_⟩
 ·simp [zAq,List.range_succ]
 ·match i,hg with
  |0,hg=>simp at hg;subst hg;simpa using h
  |1,hg=>simp at hg;subst hg;simpa using h'
set_option maxRecDepth 100000 in
theorem zMz{w:World}{v:Value}{M:List (Nat→Bool)}(h:zAl w v M)(hM:M.length≤1000):
  Calls Tryz.prog 177 #[v] w fun e w'=>∃u,e= .returned u∧zAl w' u M∧(∀q,u.ownBlock=some q→w.heap.size≤q)∧Ch [] w w':=by
 obtain ⟨a,c,rfl⟩:=h.slice
 cases a with
 |none=>
  have h0:M=[]:=by
   obtain ⟨nq,R,_⟩:=h
   rcases R.2 with ⟨_,h1⟩ | ⟨g,cap,cur,h1,_⟩
   ·exact List.length_eq_zero_iff.1 h1
   ·simp at h1
  subst h0
  have hcmp:∀W,Sem.run Tryz.prog (binOp .eql 238 (.slice none 0 c) (.slice none 0 0)) W= .ok (.bool true) W:=fun W=>by rfl
  clear h;go_enter Tryz.func177,Tryz.ntmps177;go_wp2_with fail;go_ret;exact ⟨_,rfl,zAl.nil _,by intro q hq;simp [Value.ownBlock] at hq,Ch.refl _ _⟩
 |some ad=>
  have g0:=Ch.alloc [] w (.cells #[] 240);have M0:=zAl.built0 w;have M1:=h.keep g0 (by simp)
  have hcmp:∀W,Sem.run Tryz.prog (binOp .eql 238 (.slice (some ad) M.length c) (.slice none 0 0)) W= .ok (.bool false) W:=fun W=>by rfl
  clear h;go_enter Tryz.func177,Tryz.ntmps177;go_wp2_with (at_builtin;refine zCi (by rfl) _ _ (by rfl) (by rfl) (by rfl) M0 M1 (by simp;omega) ?_;intro v8 w8 own8 gr8 hat8);go_ret;refine ⟨_,rfl,by simpa using own8,fun q hq=> ?_,g0.trans' gr8 (fun y hy=>Or.inr (by simp [Value.ownBlock] at hy;omega))⟩
  rcases hat8 with h | h
  ·have hq2:=h.symm.trans hq
   simp [Value.ownBlock] at hq2;omega
  ·have h9:=h q hq
   simp at h9;omega
theorem zKe{w:World}{mb:Nat}{q:Nat→Nat}{f:Nat→Bool}(hq:SetF q f)(hb:zAD w mb (setC q) 240):zGW w 178 #[.pointer (some ⟨mb,0,none⟩)] (fun z=>f (capN z.toNat)):=by
 refine ⟨fun _ _=>by kernel_rfl,fun W c z=> ?_⟩;obtain ⟨c0,c1,c2,c3⟩:=(hb.keep c (by simp)).c4;have HQ:=hide hq;have ec:capN z.toNat=(capB z).toNat:=zHJ z
 show Calls Tryz.prog _ _ W fun e w'=>e= .returned (.bool (f (capN z.toNat)))∧Ch [] W w'
 rw [ec];clear ec;clear hq hb
 show Calls Tryz.prog 178 #[.int .u8 (z.toNat:Nat),.pointer (some ⟨mb,0,none⟩)] W _
 go_enter Tryz.func178,Tryz.ntmps178;go_wp2_with fail
 go_region_with (first | (go_at_call 179;refine (zIY z).mono ?_;rintro e w1 ⟨rfl,rfl⟩) | (go_at_call 156;refine (zFD (q:=q) HQ.out (capB z).toNat (capB z).toNat_lt).mono ?_;rintro e w1 ⟨rfl,k1⟩))
 all_goals
  go_wp2_with fail;go_ret;exact ⟨rfl,(Ch.drew [] W).trans k1⟩
theorem zKf{w:World}{mb:Nat}{q:Nat→Nat}{f:Nat→Bool}(hq:SetF q f)(hb:zAD w mb (setC q) 240):zGW w 180 #[.pointer (some ⟨mb,0,none⟩)] (fun z=>f (litN z.toNat)):=by
 refine ⟨fun _ _=>by kernel_rfl,fun W c z=> ?_⟩;obtain ⟨c0,c1,c2,c3⟩:=(hb.keep c (by simp)).c4;have HQ:=hide hq;have ec:litN z.toNat=(litB z).toNat:=zHW z
 show Calls Tryz.prog _ _ W fun e w'=>e= .returned (.bool (f (litN z.toNat)))∧Ch [] W w'
 rw [ec];clear ec;clear hq hb
 show Calls Tryz.prog 180 #[.int .u8 (z.toNat:Nat),.pointer (some ⟨mb,0,none⟩)] W _
 go_enter Tryz.func180,Tryz.ntmps180;go_wp2_with fail
 go_region_with (first | (go_at_call 181;refine (zJS z).mono ?_;rintro e w1 ⟨rfl,rfl⟩) | (go_at_call 156;refine (zFD (q:=q) HQ.out (litB z).toNat (litB z).toNat_lt).mono ?_;rintro e w1 ⟨rfl,k1⟩))
 all_goals
  go_wp2_with fail;go_ret;exact ⟨rfl,(Ch.drew [] W).trans k1⟩
def zEz(f:Nat→Bool):List (Nat→Bool):=[fun c=>f (capN c),fun c=>f (litN c)]
set_option maxRecDepth 100000 in
set_option maxHeartbeats 6400000 in
theorem zKX{w:World}{F:Nat→Prop}{v:Value}{sv:List (zAE×Value)}(hR:zEm w F v sv)(hok:∀p,p∈sv→(∀r,r∈p.1.rules→zDM r.out)∧p.1.rules.length≤6)(hx:sv.length≤1000){vm:Value}{M:List (Nat→Bool)}(h:zAl w vm M)(hM:M.length≤1000):
  Calls Tryz.prog 138 #[v,vm] w fun e w'=>∃u,e= .returned u∧zAl w' u (zC5 (sv.map fun p=>p.1) M)∧(zC5 (sv.map fun p=>p.1) M).length≤3000∧Ch [] w w':=by
 have CS:=hide (zM0 hR hok hx);obtain ⟨a,c,rfl⟩:=h.slice;obtain ⟨a0,c0,rfl⟩:=zAC hR.1
 have hlen:(M++M.flatMap zEz).length≤3000:=by
  have:∀l:List (Nat→Bool),(l.flatMap zEz).length=2 * l.length:=by
   intro l
   induction l with
   |nil=>rfl
   |cons x l ih=>simp only [List.flatMap_cons,List.length_append,List.length_cons,ih,zEz,List.length_nil];omega
  rw [List.length_append,this];omega
 have e2:zC5 (sv.map fun p=>p.1) M=if zDq (sv.map fun p=>p.1) then M++M.flatMap zEz else M:=rfl
 rw [e2];have HM:=hide h;have HLEN:=hide hlen
 have hmf:∀(fn:Fn) (first cap:Array Value) (w:World),(Instr.makeFunc fn first cap).run Tryz.prog w= .ok (.func fn first cap) w:=fun _ _ _ _=>rfl
 clear h hR hok e2 hlen;generalize zDq (sv.map fun p=>p.1)=cs at *;go_enter Tryz.func138,Tryz.ntmps138;go_wp2_with fail;refine CS.out.mono ?_;rintro e w1 ⟨rfl,k1⟩
 cases cs with
 |false=>
  go_wp2_with fail;go_ret;exact ⟨_,rfl,HM.out.keep k1 (by simp),by omega,k1⟩
 |true=>
  have CL:=hide (zMz (HM.out.keep k1 (by simp)) hM);go_wp2_with fail;refine CL.out.mono ?_;rintro e w2 ⟨u2,rfl,m2,n2,k2⟩
  have H2:Hid (zAl w2 u2 (M++(M.take 0).flatMap zEz)∧(∀q,u2.ownBlock=some q→w.heap.size≤q)∧Ch [] w w2):=by
   show _∧_
   exact ⟨by simpa using m2,fun q hq=>by have:=n2 q hq;have:=k1.size;omega,k1.trans k2⟩
  clear m2 n2 k2 k1;go_wp2_with fail
  go_loopw [5,18] (fun lv iv w5=>∃j:Nat,iv= .int .i64 j∧j≤M.length∧Hid (zAl w5 lv (M++(M.take j).flatMap zEz)∧(∀q,lv.ownBlock=some q→w.heap.size≤q)∧Ch [] w w5)) (fun _ iv _=>M.length - (intOf iv).toNat)
  case atStart=>exact ⟨0,rfl,Nat.zero_le _,H2⟩
  case round=>
   clear H2;generalize wr=w5 at *;obtain ⟨j,rfl,hj,H5⟩:=hrel
   by_cases hlt:(j:Int)<M.length
   ·have hj2:j<M.length:=by omega
    have hj0:(0:Int)≤j:=by omega
    obtain ⟨f,hf⟩:∃f,M[j]? =some f:=⟨_,List.getElem?_eq_getElem hj2⟩
    have TK:(M.take (j+1)).flatMap zEz=(M.take j).flatMap zEz++zEz f:=by
     obtain ⟨h1,rfl⟩:=List.getElem?_eq_some_iff.1 hf;rw [List.take_succ_eq_append_getElem h1,List.flatMap_append];simp
    have hl5:(M++(M.take j).flatMap zEz).length≤3000:=by
     have:∀l:List (Nat→Bool),(l.flatMap zEz).length=2 * l.length:=by
      intro l
      induction l with
      |nil=>rfl
      |cons x l ih=>simp only [List.flatMap_cons,List.length_append,List.length_cons,ih,zEz,List.length_nil];omega
     rw [List.length_append,this,List.length_take];omega
    have HTK:=hide TK;clear TK;generalize hMM:(M.take j).flatMap zEz=MM at *;generalize hMA:M++MM=MA at *;have HMA:=hide hMA;clear hMA hMM;obtain ⟨nq,R,FF⟩:=HM.out.keep H5.out.2.2 (by simp);have hq:=FF j f hf
    obtain ⟨g,hg⟩:∃g,a=some ⟨g,0,none⟩:=by
     rcases R.2 with ⟨_,h0⟩ | ⟨g,cap,cur,h,_⟩
     ·omega
     ·injection h with h
      exact ⟨g,h⟩
    subst hg;obtain ⟨r0,r1,r2,r3,rf⟩:=zGZ R hj2 (q:=nq j) (fun _ _=>rfl);generalize nq j=q at *;have g6:=Ch.alloc [] w5 (.cells (setC q) 240);have B6:=zAD.new w5 (setC q) 240;have hw6:w5.alloc (.cells #[.int .u64 (q 0:Nat),.int .u64 (q 1:Nat),.int .u64 (q 2:Nat),.int .u64 (q 3:Nat)] 240)=w5.alloc (.cells (setC q) 240):=rfl;obtain ⟨la,lc,hlv⟩:=H5.out.1.slice;subst hlv
    have e1:IntKind.i64.wrap ((j:Int)+1)=((j+1:Nat):Int):=by rw [IntKind.wrap_i64];omega
    have HM6:=hide (H5.out.1.keep g6 (by simp));have HG6:=hide (H5.out.2.2.trans g6);have V5:=hide H5.out.2.1;have HB6:=hide B6;have HQ:=hide hq;have WU:=hide (zGp (zKe hq B6));have z5:=H5.out.2.2.size;have z6:=g6.size;clear hq R FF B6 g6 H5;generalize w5.alloc (.cells (setC q) 240)=w6 at *;go_wp2_with fail;refine WU.out.mono ?_;rintro e w7 ⟨q7,rfl,hq7,c7⟩;rw [show setV q7= .agg #[.int .u64 (q7 0:Nat),.int .u64 (q7 1:Nat),.int .u64 (q7 2:Nat),.int .u64 (q7 3:Nat)] from rfl];have g8:=Ch.alloc [] w7 (.cells (setC q7) 240);have B8:=zAD.new w7 (setC q7) 240;have hw8:w7.alloc (.cells #[.int .u64 (q7 0:Nat),.int .u64 (q7 1:Nat),.int .u64 (q7 2:Nat),.int .u64 (q7 3:Nat)] 240)=w7.alloc (.cells (setC q7) 240):=rfl;have WL:=hide (zGp (zKf HQ.out ((HB6.out.keep c7 (by simp)).keep g8 (by simp))));have HG8:=hide (c7.trans g8);have HB8:=hide B8;have HQ7:=hide hq7;have z7:=c7.size;have z8:=g8.size;clear g8 B8 c7 hq7;generalize w7.alloc (.cells (setC q7) 240)=w8 at *;go_wp2_with fail;refine WL.out.mono ?_;rintro e w9 ⟨q9,rfl,hq9,c9⟩;rw [show setV q9= .agg #[.int .u64 (q9 0:Nat),.int .u64 (q9 1:Nat),.int .u64 (q9 2:Nat),.int .u64 (q9 3:Nat)] from rfl];have g10:=Ch.alloc [] w9 (.cells (setC q9) 240);have B10:=zAD.new w9 (setC q9) 240;have hw10:w9.alloc (.cells #[.int .u64 (q9 0:Nat),.int .u64 (q9 1:Nat),.int .u64 (q9 2:Nat),.int .u64 (q9 3:Nat)] 240)=w9.alloc (.cells (setC q9) 240):=rfl;obtain ⟨x0,x1,x2,x3⟩:=((HB8.out.keep c9 (by simp)).keep g10 (by simp)).c4;obtain ⟨y0,y1,y2,y3⟩:=B10.c4;have HG10:=hide ((HG6.out.trans HG8.out).trans (c9.trans g10));have HM10:=hide (HM6.out.keep (HG8.out.trans (c9.trans g10)) (by simp));have z9:=c9.size;have z10:=g10.size;have HQ9:=hide hq9;clear g10 B10 c9 hq9;generalize w9.alloc (.cells (setC q9) 240)=w10 at *;have g11:=Ch.alloc [] w10 (.cells #[.int .u64 (q7 0:Nat),.int .u64 (q7 1:Nat),.int .u64 (q7 2:Nat),.int .u64 (q7 3:Nat),.int .u64 (q9 0:Nat),.int .u64 (q9 1:Nat),.int .u64 (q9 2:Nat),.int .u64 (q9 3:Nat)] 240)
    have e8:∀j:Nat,j<256→(UInt8.ofNat j).toNat=j:=fun j hj=>by rw [UInt8.toNat_ofNat'];exact Nat.mod_eq_of_lt (by omega)
    have M11:=zAl.built2 w10 (f:=fun c=>f (capN c)) (f':=fun c=>f (litN c)) (HQ7.out.congr (fun j hj=>by rw [e8 j hj])) (HQ9.out.congr (fun j hj=>by rw [e8 j hj]));clear e8;have N11:=HM10.out.keep g11 (by simp);have HG11:=hide (HG10.out.trans g11);clear g11;go_wp2_with (at_builtin;refine zCi (by rfl) _ _ (by rfl) (by rfl) (by rfl) N11 M11 (by simp only [List.length_cons,List.length_nil];omega) ?_;intro v12 w12 own12 gr12 hat12)
    have FIN:Hid (zAl w12 v12 (M++(M.take (j+1)).flatMap zEz)∧(∀q,v12.ownBlock=some q→w.heap.size≤q)∧Ch [] w w12):=by
     refine ⟨?_,fun y hy=> ?_,HG11.out.trans' gr12 (fun y hy=>Or.inr (V5.out y (by simpa using hy)))⟩
     ·rw [HTK.out,← List.append_assoc,HMA.out]
      exact own12
     ·rcases hat12 with h | h
      ·exact V5.out y (by rw [← h];exact hy)
      ·have:=h y hy;have:=HG11.out.size;omega
    go_roundw
    case rel=>exact ⟨j+1,by simp,by omega,FIN⟩
    case measure=>simp [intOf];omega
   ·have e:j=M.length:=by omega
    subst e;have HC:=H5.out;rw [List.take_length] at HC;have HCx:=hide HC;clear H5 HC;go_wp2_with fail;go_ret;exact ⟨_,rfl,HCx.out.1,by have:=HLEN.out;simpa using this,HCx.out.2.2⟩
end Go.Proofs.YteobgfbgglfkbaaGreat
namespace Go.Proofs.YteobgfbgglfkbaaGreat
open Go.RowKit
attribute [local go_sem ↓] Go.wp_at_zero Go.wp_at_succ
set_option maxRecDepth 100000 in
set_option maxHeartbeats 3200000 in
theorem zJ7{w:World}{n:Nat}(hn:n≤1000):
  Calls Tryz.prog 169 #[.slice none 0 0,.int .i64 n] w fun e w'=>∃u,e= .returned u∧zAl w' u []∧(∀q,u.ownBlock=some q→w.heap.size≤q)∧Ch [] w w':=by
 have h1:¬((n:Int)<0):=by omega
 have h2:IntKind.i64.wrap (n:Int)=(n:Int):=by rw [IntKind.wrap_i64];omega
 by_cases h0:n=0
 ·subst h0
  go_enter Tryz.func169,Tryz.ntmps169;go_wp2_with fail;go_ret;exact ⟨_,rfl,zAl.nil _,by intro q hq;simp [Value.ownBlock] at hq,Ch.refl _ _⟩
 ·have h4:(n:Int)>0:=by omega
  obtain ⟨i,hi,hz0,hz1,hz2⟩:=info_parts zE4;have hold:(Builtin.firstCells i.size 0 (.slice none 0 0)).run Tryz.prog w.drew= .ok ([]:List Value).toArray w.drew:=run_firstCells_none w.drew i.size 0 0 0
  have hrz:∀ty,(Builtin.append_ #[238,3] ty #[.slice none 0 0,.int .i64 (n:Int)]).run Tryz.prog w= .ok (.slice (some ⟨w.heap.size,0,none⟩) (0+n) (grownCap w (0+n) 0 240)) (w.drew.alloc (.cells (([]:List Value).toArray++Builtin.zeroCells (Value.agg #[.int .u64 0,.int .u64 0,.int .u64 0,.int .u64 0]).cells n++Builtin.zeroCells (Value.agg #[.int .u64 0,.int .u64 0,.int .u64 0,.int .u64 0]).cells (grownCap w (0+n) 0 240 - (0+n))) 240)):=fun ty=>
   Lib.run_append_grow_zeros w 238 3 ty 240 i _ .i64 .i64 Tryz.underlying238 Tryz.underlying3 hi hz0 none 0 0 [] hold n (by omega) (by omega) (by omega) (by omega) (by rw [hz2];omega) (growslice_fits (by omega) (by rw [hz2];omega))
  have hGn:=grownCap_ge w (0+n) 0 240;have hGm:=grownCap_le_maxLen w (0+n) 0 240 (by unfold maxLen;omega);generalize hG:grownCap w (0+n) 0 240=G at *
  have hG63:(G:Int)≤9223372036854775807:=by unfold maxLen at hGm;omega
  rw [Nat.zero_add] at hrz hGn
  have hsz:((([]:List Value).toArray++Builtin.zeroCells (Value.agg #[.int .u64 0,.int .u64 0,.int .u64 0,.int .u64 0]).cells n++Builtin.zeroCells (Value.agg #[.int .u64 0,.int .u64 0,.int .u64 0,.int .u64 0]).cells (G - n))).size=G * 4:=by
   rw [Array.size_append,Array.size_append,size_zeroCells,size_zeroCells]
   show 0+n * 4+(G - n) * 4=G * 4
   omega
  generalize (([]:List Value).toArray++Builtin.zeroCells (Value.agg #[.int .u64 0,.int .u64 0,.int .u64 0,.int .u64 0]).cells n++Builtin.zeroCells (Value.agg #[.int .u64 0,.int .u64 0,.int .u64 0,.int .u64 0]).cells (G - n))=cs at *
  have HM:Hid (zAl (w.drew.alloc (.cells cs 240)) (.slice (some ⟨w.heap.size,0,none⟩) 0 G) []):=
   ⟨fun _ _=>0,⟨rfl,Or.inr ⟨_,G,cs,rfl,Nat.zero_le _,zAH w.drew _,Nat.zero_le _,hGm,hsz,rfl⟩⟩,fun i f h=>by simp at h⟩
  have HC:Hid (Ch [] w (w.drew.alloc (.cells cs 240))):=(Ch.drew [] w).trans (Ch.alloc [] _ _);clear hold hsz hi hz0 hz1 hz2 hG hGm;go_enter Tryz.func169,Tryz.ntmps169;go_wp2_with (at_builtin;refine Lib.wpList_append_run _ rfl _ _ _ _ rfl _ _ rfl rfl _ _ (hrz _) ?_)
  all_goals
   go_ret;exact ⟨_,rfl,HM.out,by intro q hq;simp [Value.ownBlock] at hq;omega,HC.out⟩
set_option maxRecDepth 100000 in
set_option maxHeartbeats 3200000 in
theorem zMb{w:World}{g:Nat}{va vb:Value}{A B:List (Nat→Bool)}(hg:zAD w g #[va,vb] 238)(hA:zAl w va A)(hB:zAl w vb B)(lA:A.length≤400)(lB:B.length≤400):
  Calls Tryz.prog 134 #[.slice (some ⟨g,0,none⟩) 2 2] w fun e w'=>∃u,e= .returned u∧zAl w' u (A++B)∧(∀q,u.ownBlock=some q→w.heap.size≤q)∧Ch [] w w':=by
 obtain ⟨aa,ca,rfl⟩:=hA.slice;obtain ⟨ab,cb,rfl⟩:=hB.slice;have c0:=hg.cell 0 (.slice aa A.length ca) rfl;have c1:=hg.cell 1 (.slice ab B.length cb) rfl;have GR:=hide (zJ7 (w:=w) (n:=A.length+B.length) (by omega));have HA:=hide hA;have HB:=hide hB;have HG:=hide hg
 have e1:IntKind.i64.wrap ((0:Int)+1)=1:=by decide
 have e2:IntKind.i64.wrap ((1:Int)+1)=2:=by decide
 have e3:IntKind.i64.wrap ((0:Int)+(A.length:Int))=(A.length:Int):=by rw [IntKind.wrap_i64];omega
 have e4:IntKind.i64.wrap ((A.length:Int)+(B.length:Int))=((A.length+B.length:Nat):Int):=by rw [IntKind.wrap_i64];omega
 have n1:¬((A.length:Int)<0):=by omega
 have n2:¬((A.length+B.length:Nat):Int)<0:=by omega
 clear hA hB hg;generalize hLA:A.length=la at *;generalize hLB:B.length=lb at *;have HLA:=hide hLA;have HLB:=hide hLB;clear hLA hLB;go_enter Tryz.func134,Tryz.ntmps134;go_wp2_with fail
 go_loopw [3,11] (fun sv iv w5=>w5=w∧((iv= .int .i64 0∧sv= .int .i64 0)∨(iv= .int .i64 1∧sv= .int .i64 la)∨(iv= .int .i64 2∧sv= .int .i64 (la+lb:Nat)))) (fun _ iv _=>2 - (intOf iv).toNat)
 case atStart=>exact ⟨rfl,Or.inl ⟨rfl,rfl⟩⟩
 case round=>
  obtain ⟨hwr,hrel⟩:=hrel;have hwr2:=hwr.symm;clear hwr;subst hwr2
  rcases hrel with h | h | h
  ·obtain ⟨rfl,rfl⟩:=h
   go_wp2_with fail;go_roundw
   case rel=>exact ⟨trivial,Or.inr (Or.inl ⟨rfl,by first | rfl | simp⟩)⟩
   case measure=>simp [intOf]
  ·obtain ⟨rfl,rfl⟩:=h
   go_wp2_with fail;go_roundw
   case rel=>exact ⟨trivial,Or.inr (Or.inr ⟨rfl,by first | rfl | simp⟩)⟩
   case measure=>simp [intOf]
  ·obtain ⟨rfl,rfl⟩:=h
   go_wp2_with fail;refine GR.out.mono ?_;rintro e w6 ⟨u6,rfl,m6,n6,k6⟩;have H6:Hid (zAl w6 u6 []∧(∀q,u6.ownBlock=some q→w.heap.size≤q)∧Ch [] w w6):=⟨m6,n6,k6⟩;clear m6 n6 k6;go_wp2_with fail
   go_loopw [6,27] (fun lv iv w7=>(iv= .int .i64 0∧Hid (zAl w7 lv []∧(∀q,lv.ownBlock=some q→w.heap.size≤q)∧Ch [] w w7))∨(iv= .int .i64 1∧Hid (zAl w7 lv A∧(∀q,lv.ownBlock=some q→w.heap.size≤q)∧Ch [] w w7))∨(iv= .int .i64 2∧Hid (zAl w7 lv (A++B)∧(∀q,lv.ownBlock=some q→w.heap.size≤q)∧Ch [] w w7))) (fun _ iv _=>2 - (intOf iv).toNat)
   case atStart=>exact Or.inl ⟨rfl,H6⟩
   case round=>
    clear H6 c0 c1;generalize wr=w8 at *
    rcases hrel with h | h | h
    ·obtain ⟨rfl,H8⟩:=h
     have c0:=(HG.out.keep H8.out.2.2 (by simp)).cell 0 (.slice aa la ca) rfl;have M0:=H8.out.1;have M1:=HA.out.keep H8.out.2.2 (by simp);go_wp2_with (at_builtin;refine zCi (by rfl) _ _ (by rfl) (by rfl) (by rfl) M0 M1 (by simp;rw [HLA.out];omega) ?_;intro v9 w9 own9 gr9 hat9)
     have FIN:Hid (zAl w9 v9 A∧(∀q,v9.ownBlock=some q→w.heap.size≤q)∧Ch [] w w9):=by
      refine ⟨by simpa using own9,fun y hy=> ?_,H8.out.2.2.trans' gr9 (fun y hy=>Or.inr (H8.out.2.1 y (by simpa using hy)))⟩
      rcases hat9 with h | h
      ·exact H8.out.2.1 y (by rw [← h];exact hy)
      ·have:=h y hy;have:=H8.out.2.2.size;omega
     go_roundw
     case rel=>exact Or.inr (Or.inl ⟨rfl,FIN⟩)
     case measure=>simp [intOf]
    ·obtain ⟨rfl,H8⟩:=h
     have c1:=(HG.out.keep H8.out.2.2 (by simp)).cell 1 (.slice ab lb cb) rfl;have M0:=H8.out.1;have M1:=HB.out.keep H8.out.2.2 (by simp);go_wp2_with (at_builtin;refine zCi (by rfl) _ _ (by rfl) (by rfl) (by rfl) M0 M1 (by rw [HLA.out,HLB.out];omega) ?_;intro v9 w9 own9 gr9 hat9)
     have FIN:Hid (zAl w9 v9 (A++B)∧(∀q,v9.ownBlock=some q→w.heap.size≤q)∧Ch [] w w9):=by
      refine ⟨own9,fun y hy=> ?_,H8.out.2.2.trans' gr9 (fun y hy=>Or.inr (H8.out.2.1 y (by simpa using hy)))⟩
      rcases hat9 with h | h
      ·exact H8.out.2.1 y (by rw [← h];exact hy)
      ·have:=h y hy;have:=H8.out.2.2.size;omega
     go_roundw
     case rel=>exact Or.inr (Or.inr ⟨rfl,FIN⟩)
     case measure=>simp [intOf]
    ·obtain ⟨rfl,H8⟩:=h
     go_wp2_with fail;go_ret;exact ⟨_,rfl,H8.out.1,H8.out.2.1,H8.out.2.2⟩
end Go.Proofs.YteobgfbgglfkbaaGreat
