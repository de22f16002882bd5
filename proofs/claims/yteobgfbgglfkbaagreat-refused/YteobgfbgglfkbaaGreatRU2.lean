import Derived.Test.YteobgfbgglfkbaaGreatRU1
set_option maxHeartbeats 3200000
set_option maxRecDepth 100000
namespace Go.Proofs.YteobgfbgglfkbaaGreat
open Go.RowKit
attribute [local go_sem ↓] Go.wp_at_zero Go.wp_at_succ
theorem S9{w:World}(k:Int)(s:ByteArray):Calls Tryz.prog 209 #[.agg #[.int .i64 k,.string s]] w fun e w'=>e= .returned (.bool (decide (k=2) || decide (k=3)))/\Ch [] w w':=by
 have g0:=Ch.alloc [] w (.cells #[.int .i64 k,.string s] 312);have B0:=zE.new w #[.int .i64 k,.string s] 312;have y0:=B0.cl 0 (.int .i64 k) rfl;clear B0;go_enter Tryz.func209,Tryz.ntmps209
 by_cases h2:k=2
 ·subst h2
  go_wp2_with fail;go_ret;exact⟨by simp,g0⟩
 ·by_cases h3:k=3
  ·subst h3
   go_wp2_with fail;go_ret;exact⟨by simp,g0⟩
  ·go_wp2_with fail
   go_ret;exact⟨by simp[h2,h3],g0⟩
theorem Ii{w:World}{v:Value}{P:List (Int×ByteArray)}(hR:w.ownsRow 0 312 2 v P.length (jn P))(hx:P.length<=1000){n:Nat}{p:Int×ByteArray->Bool}(hen:∀(args:Array Value) (W:World),Sem.run Tryz.prog (callFunc n args) W= .ok (.enter n args) W)(hp:∀W z,z∈P->Calls Tryz.prog n #[.agg #[.int .i64 (pk z.1),.string z.2]] W fun e w'=>e= .returned (.bool (p z))/\Ch [] W w'):
 Calls Tryz.prog 217 #[v,.func (.func n) #[] #[]] w fun e w'=>∃i:Int,e= .returned (.int .i64 i)/\(P.any p=true↔0<=i)/\Ch [] w w':=by
 obtain⟨a,k,rfl⟩:=zQ hR;have HR:=zC hR;have HP:=zC hp;clear hR hp;go_enter Tryz.func217,Tryz.ntmps217;go_wp2_with fail
 go_loopw [8] (fun iv w5=>∃j:Nat,iv= .int .i64 j/\j<=P.length/\Hd ((P.take j).any p=false/\Ch [] w w5)) (fun iv _=>P.length - (intOf iv).toNat)
 case atStart=>exact⟨0,rfl,Nat.zero_le _,by show _/\_;exact⟨by simp,Ch.refl _ _⟩⟩
 case round=>
  generalize wr=w5 at *;obtain⟨j,rfl,hj,H5⟩:=hrel
  by_cases hlt:(j:Int)<P.length
  ·have hj2:j<P.length:=by omega
   have hj0:(0:Int)<=j:=by omega
   have R5:=zJ HR.o H5.o.2 (by simp)
   obtain⟨g,hg⟩:∃g,a=some ⟨g,0,none⟩:=by
    rcases R5.2 with⟨_,h0⟩|⟨g,cap,cur,h,_⟩
    ·omega
    ·injection h with h
     exact⟨g,h⟩
   subst hg;obtain⟨z,hz⟩:∃z,P[j]? =some z:=⟨_,List.getElem?_eq_getElem hj2⟩
   have cz0:w5.cell? ⟨g,j * 2,none⟩=some (.int .i64 (pk z.1)):=by
    rw[R5.cellAt (j * 2) (by omega)];exact(WZ P j z hz).1
   have cz1:w5.cell? ⟨g,j * 2+1,none⟩=some (.string z.2):=by
    rw[R5.cellAt (j * 2+1) (by omega)];exact(WZ P j z hz).2
   have CALL:=zC (HP.o w5 z (List.mem_of_getElem? hz))
   have TK:(P.take (j+1)).any p=((P.take j).any p || p z):=by
    obtain⟨h1,rfl⟩:=List.getElem?_eq_some_iff.1 hz;rw[List.take_succ_eq_append_getElem h1,List.any_append];simp
   have HTK:=zC TK
   have e1:IntKind.i64.wrap ((j:Int)+1)=((j+1:Nat):Int):=by rw[IntKind.wrap_i64];omega
   clear TK R5;go_wp2_with fail;refine CALL.o.mono ?_;rintro e w6 ⟨rfl,c6⟩;have HC6:=zC (H5.o.2.trans c6)
   cases hpz:p z with
   |false=>
    have HN:Hd ((P.take (j+1)).any p=false):=by show _=_;rw[HTK.o,H5.o.1,hpz];rfl
    go_wp2_with fail;exact⟨⟨j+1,by simp,by omega,by show _/\_;exact⟨HN.o,HC6.o⟩⟩,by simp[intOf];omega⟩
   |true=>
    have HN:Hd (P.any p=true):=by show _=_;rw[List.any_eq_true];exact⟨z,List.mem_of_getElem? hz,hpz⟩
    go_wp2_with fail;go_ret;exact⟨j,rfl,⟨fun _=>hj0,fun _=>HN.o⟩,HC6.o⟩
  ·have e:j=P.length:=by omega
   subst e;have HA:=H5.o.1;rw[List.take_length]at HA;have HC:=zC H5.o.2;have HAx:=zC HA;clear HA H5;go_wp2_with fail;go_ret;exact⟨-1,rfl,⟨fun h=>(by have h':P.any p=true:=(by simpa using h);rw[HAx.o]at h';cases h'),fun h=>(by omega)⟩,HC.o⟩
theorem Sx{w:World}{v:Value}{P:List (Int×ByteArray)}(hR:w.ownsRow 0 312 2 v P.length (jn P))(hx:P.length<=1000){n:Nat}{p:Int×ByteArray->Bool}(hen:∀(args:Array Value) (W:World),Sem.run Tryz.prog (callFunc n args) W= .ok (.enter n args) W)(hp:∀W z,z∈P->Calls Tryz.prog n #[.agg #[.int .i64 (pk z.1),.string z.2]] W fun e w'=>e= .returned (.bool (p z))/\Ch [] W w'):
 Calls Tryz.prog 208 #[v,.func (.func n) #[] #[]] w fun e w'=>e= .returned (.bool (P.any p))/\Ch [] w w':=by
 obtain⟨a,k,rfl⟩:=zQ hR;have HI:=zC (Ii hR hx hen hp);clear hR hp;go_enter Tryz.func208,Tryz.ntmps208;go_wp2_with fail;refine HI.o.mono ?_;rintro e w1 ⟨i,rfl,hi,c1⟩;have HH:=zC hi;clear hi;go_wp2_with fail;go_ret;refine⟨?_,c1⟩
 have:P.any p=decide (0<=i):=by rw[Bool.eq_iff_iff,HH.o,decide_eq_true_eq]
 rw[this]
 first|rfl|simp
def YD(p:Int×ByteArray):Bool:=p.1 !=116 && p.1 !=98
theorem TI(p:Int×ByteArray):(decide (pk p.1=2) || decide (pk p.1=3))=YD p:=by
 unfold YD pk
 by_cases h1:p.1=116
 ·simp[h1]
 ·by_cases h2:p.1=98
  ·simp[h2]
  ·by_cases h3:p.1=117
   ·simp[h3]
   ·simp[h1,h2,h3]
theorem XN{D:zH}(hok:∀r,r∈D.rules->jf r.o)(hR:D.rules.length<=6):(jc D).length<=18:=by
 unfold jc
 have:∀l:List yb,(∀r,r∈l->jf r.o)->(l.flatMap fun r=>r.o).length<=3 * l.length:=by
  intro l
  induction l with
  |nil=>intro _;simp
  |cons a l ih=>
   intro h;have h1:=ih (fun r hr=>h r (List.mem_cons_of_mem _ hr));have h2:=(h a List.mem_cons_self).1;simp only[List.flatMap_cons,List.length_append,List.length_cons];omega
 have:=this D.rules hok;omega
theorem FO{w:World}{F:Nat->Prop}{D:zH}{vr:Value}(hr:JO w F vr D.rules)(hok:∀r,r∈D.rules->jf r.o)(hR:D.rules.length<=6)(sw:Int):
 Calls Tryz.prog 207 #[.agg #[.string D.name,.int .i64 sw,vr,.string D.one,.string D.two]] w fun e w'=>e= .returned (.bool ((jc D).any YD))/\Ch [] w w':=by
 obtain⟨rn,ra,rc,rfl⟩:∃n a c,vr= .slice a n c:=by
  obtain⟨_,rv,_,hrow,_⟩:=id hr;obtain⟨a,c,h⟩:=zQ hrow;exact⟨_,a,c,h⟩
 have g0:=Ch.alloc [] w (.cells #[.string D.name,.int .i64 sw,.slice ra rn rc,.string D.one,.string D.two] 118);have B0:=zE.new w #[.string D.name,.int .i64 sw,.slice ra rn rc,.string D.one,.string D.two] 118;have y0:=B0.cl 0 (.string D.name) rfl;have y1:=B0.cl 1 (.int .i64 sw) rfl;have y2:=B0.cl 2 (.slice ra rn rc) rfl;have y3:=B0.cl 3 (.string D.one) rfl;have y4:=B0.cl 4 (.string D.two) rfl;have CA:=zC (Nq (JO.kp hr g0) hok hR sw);have hpl:=XN hok hR
 have hmf:∀(args:Array Value) (W:World),Sem.run Tryz.prog (callFunc 209 args) W= .ok (.enter 209 args) W:=fun _ _=>by kernel_rfl
 have HMF:=zC hmf;clear hmf B0;generalize hw0:w.alloc (.cells #[.string D.name,.int .i64 sw,.slice ra rn rc,.string D.one,.string D.two] 118)=w0 at *;go_enter Tryz.func207,Tryz.ntmps207;go_wp2_with fail;refine CA.o.mono ?_;rintro e w1 ⟨u,rfl,o1,_,c1⟩;obtain⟨ua,uc,rfl⟩:=zQ o1
 have CB:=zC (Sx o1 (by omega) HMF.o (p:=YD) (fun W z _=>by
  have:=S9 (w:=W) (pk z.1) z.2;rw[TI]at this
  exact this))
 clear o1;go_wp2_with fail;refine CB.o.mono ?_;rintro e w2 ⟨rfl,c2⟩;go_wp2_with fail;go_ret;exact⟨rfl,(g0.trans c1).trans c2⟩
theorem IG{w:World}{F:Nat->Prop}{v:Value}{sv:List (zH×Value)}(hR:Jo w F v sv)(hok:∀p,p∈sv->(∀r,r∈p.1.rules->jf r.o)/\p.1.rules.length<=6)(hx:sv.length<=1000):
 Calls Tryz.prog 195 #[v,.func (.func 207) #[] #[]] w fun e w'=>∃i:Int,e= .returned (.int .i64 i)/\((sv.any fun p=>(jc p.1).any YD)=true↔0<=i)/\Ch [] w w':=by
 obtain⟨a,k,rfl⟩:=zQ hR.1;have HR:=zC hR;have HOK:=zC hok
 have hen:∀(args:Array Value) (W:World),Sem.run Tryz.prog (callFunc 207 args) W= .ok (.enter 207 args) W:=fun _ _=>by kernel_rfl
 clear hR hok;generalize hn:207=n at hen ⊢;have HN:=zC hn;clear hn;generalize hpp:(fun p:zH×Value=>(jc p.1).any YD)=pp;have HPP:=zC hpp;clear hpp;go_enter Tryz.func195,Tryz.ntmps195;go_wp2_with fail
 go_loopw [8] (fun iv w5=>∃j:Nat,iv= .int .i64 j/\j<=sv.length/\Hd ((sv.take j).any pp=false/\Ch [] w w5)) (fun iv _=>sv.length - (intOf iv).toNat)
 case atStart=>exact⟨0,rfl,Nat.zero_le _,by show _/\_;exact⟨by simp,Ch.refl _ _⟩⟩
 case round=>
  generalize wr=w5 at *;obtain⟨j,rfl,hj,H5⟩:=hrel
  by_cases hlt:(j:Int)<sv.length
  ·have hj2:j<sv.length:=by omega
   have hj0:(0:Int)<=j:=by omega
   have R5:=zJ HR.o.1 H5.o.2 (by simp)
   obtain⟨g,hg⟩:∃g,a=some ⟨g,0,none⟩:=by
    rcases R5.2 with⟨_,h0⟩|⟨g,cap,cur,h,_⟩
    ·omega
    ·injection h with h
     exact⟨g,h⟩
   subst hg;obtain⟨⟨D,vr⟩,hz⟩:∃z,sv[j]? =some z:=⟨_,List.getElem?_eq_getElem hj2⟩;have GR:=HR.o.2 _ (List.mem_of_getElem? hz)
   obtain⟨rn,ra,rc,hvr⟩:∃n a c,vr= .slice a n c:=by
    obtain⟨_,rv,_,hrow,_⟩:=id GR;obtain⟨a,c,h⟩:=zQ hrow;exact⟨_,a,c,h⟩
   subst hvr;have hOK:=HOK.o _ (List.mem_of_getElem? hz);have cells:=Q4 sv j _ hz
   have r0:w5.cell? ⟨g,j * 5,none⟩=some (.string D.name):=by rw[R5.cellAt (j * 5) (by omega)];exact cells.1
   have r1:w5.cell? ⟨g,j * 5+1,none⟩=some (.int .i64 (if D.swap then 1 else 0)):=by rw[R5.cellAt (j * 5+1) (by omega)];exact cells.2.1
   have r2:w5.cell? ⟨g,j * 5+2,none⟩=some (.slice ra rn rc):=by rw[R5.cellAt (j * 5+2) (by omega)];exact cells.2.2.1
   have r3:w5.cell? ⟨g,j * 5+3,none⟩=some (.string D.one):=by rw[R5.cellAt (j * 5+3) (by omega)];exact cells.2.2.2.1
   have r4:w5.cell? ⟨g,j * 5+4,none⟩=some (.string D.two):=by rw[R5.cellAt (j * 5+4) (by omega)];exact cells.2.2.2.2
   generalize hsw:(if D.swap then(1:Int)else 0)=sw at *;have CALL0:=FO (JO.kp GR H5.o.2) hOK.1 hOK.2 sw;rw[HN.o]at CALL0;rw[show(jc D).any YD=pp (D,.slice ra rn rc)from by rw[<- HPP.o]]at CALL0;have CALL:=zC CALL0
   have TK:(sv.take (j+1)).any pp=((sv.take j).any pp || pp (D,.slice ra rn rc)):=by
    obtain⟨h1,h2⟩:=List.getElem?_eq_some_iff.1 hz;rw[List.take_succ_eq_append_getElem h1,List.any_append,h2];simp
   have HTK:=zC TK
   have e1:IntKind.i64.wrap ((j:Int)+1)=((j+1:Nat):Int):=by rw[IntKind.wrap_i64];omega
   clear TK R5 CALL0 GR cells hOK;go_wp2_with fail;refine CALL.o.mono ?_;rintro e w6 ⟨rfl,c6⟩;have HC6:=zC (H5.o.2.trans c6)
   cases hpz:pp (D,.slice ra rn rc)with
   |false=>
    have HN:Hd ((sv.take (j+1)).any pp=false):=by show _=_;rw[HTK.o,H5.o.1,hpz];rfl
    go_wp2_with fail;exact⟨⟨j+1,by simp,by omega,by show _/\_;exact⟨HN.o,HC6.o⟩⟩,by simp[intOf];omega⟩
   |true=>
    have HN:Hd (sv.any pp=true):=by show _=_;rw[List.any_eq_true];exact⟨_,List.mem_of_getElem? hz,hpz⟩
    go_wp2_with fail;go_ret;exact⟨j,rfl,⟨fun _=>hj0,fun _=>HN.o⟩,HC6.o⟩
  ·have e:j=sv.length:=by omega
   subst e;have HA:=H5.o.1;rw[List.take_length]at HA;have HC:=zC H5.o.2;have HAx:=zC HA;clear HA H5;go_wp2_with fail;go_ret;exact⟨-1,rfl,⟨fun h=>(by have h':sv.any pp=true:=(by simpa using h);rw[HAx.o]at h';cases h'),fun h=>(by omega)⟩,HC.o⟩
theorem Sr{w:World}{F:Nat->Prop}{v:Value}{sv:List (zH×Value)}(hR:Jo w F v sv)(hok:∀p,p∈sv->(∀r,r∈p.1.rules->jf r.o)/\p.1.rules.length<=6)(hx:sv.length<=1000):
 Calls Tryz.prog 206 #[v,.func (.func 207) #[] #[]] w fun e w'=>e= .returned (.bool (sv.any fun p=>(jc p.1).any YD))/\Ch [] w w':=by
 obtain⟨a,k,rfl⟩:=zQ hR.1;have HI:=zC (IG hR hok hx);clear hR hok;generalize hpp:(fun p:zH×Value=>(jc p.1).any YD)=pp at *;go_enter Tryz.func206,Tryz.ntmps206;go_wp2_with fail;refine HI.o.mono ?_;rintro e w1 ⟨i,rfl,hi,c1⟩;have HH:=zC hi;clear hi;go_wp2_with fail;go_ret;refine⟨?_,c1⟩
 have:sv.any pp=decide (0<=i):=by rw[Bool.eq_iff_iff,HH.o,decide_eq_true_eq]
 rw[this]
 first|rfl|simp
theorem Bo{w:World}{F:Nat->Prop}{v:Value}{sv:List (zH×Value)}(hR:Jo w F v sv)(hok:∀p,p∈sv->(∀r,r∈p.1.rules->jf r.o)/\p.1.rules.length<=6)(hx:sv.length<=1000):
 Calls Tryz.prog 176 #[v] w fun e w'=>e= .returned (.bool (jF (sv.map fun p=>p.1)))/\Ch [] w w':=by
 obtain⟨a,k,rfl⟩:=zQ hR.1;have HI:=zC (Sr hR hok hx)
 have E:jF (sv.map fun p=>p.1)=sv.any fun p=>(jc p.1).any YD:=by
  unfold jF YD;rw[List.any_map];rfl
 rw[E];clear hR hok E;generalize hpp:(sv.any fun p:zH×Value=>(jc p.1).any YD)=pp at *;go_enter Tryz.func176,Tryz.ntmps176;go_wp2_with fail;refine HI.o.mono ?_;rintro e w1 ⟨rfl,c1⟩;go_wp2_with fail;go_ret;exact⟨rfl,c1⟩
end Go.Proofs.YteobgfbgglfkbaaGreat
