import Derived.Test.YteobgfbgglfkbaaGreatJB2
set_option maxHeartbeats 1600000
set_option maxRecDepth 100000
namespace Go.Proofs.YteobgfbgglfkbaaGreat
open Go.RowKit
attribute [local go_sem ↓] Go.wp_at_zero Go.wp_at_succ
def Yy(x:ByteArray):List Value:=x.data.toList.map fun c=> .int .u8 (c.toNat:Int)
theorem Ka:(Tryz.prog.info? 5).map (fun i=>(i.zero,i.size,i.bytes))=some (some (.int .u8 0),1,1):=by kernel_rfl
theorem PH(x:ByteArray){c:Int}(h0:0<=c)(h1:c<=255):Yy (x++⟨#[UInt8.ofNat c.toNat]⟩)=Yy x++[.int .u8 c]:=by
 have:(((UInt8.ofNat c.toNat).toNat:Nat):Int)=c:=by simp;omega
 simp only[Yy];rw[show(x++⟨#[UInt8.ofNat c.toNat]⟩:ByteArray).data=x.data++ #[UInt8.ofNat c.toNat]from by simp[ByteArray.data_append]];simp only[Array.toList_append,List.map_append]
 congr 1
 show [Value.int .u8 _]=_
 rw[this]
theorem NB{W:World}{v:Value}{x:ByteArray}(h:W.ownsRow 0 5 1 v x.size (Yy x)):Sem.run Tryz.prog (convert 124 9 v) W= .ok (.string x) W:=by
 obtain⟨hl,⟨rfl,h0⟩|⟨g,cap,cur,rfl,_,hg,h1,h2,h3,h4⟩⟩:=h
 ·rw[run_convert_bytes_string W 124 9 5 _ _ _ Tryz.underlying124 Tryz.underlying5 Tryz.underlying9]
  have:x=ByteArray.empty:=by
   obtain⟨⟨l⟩⟩:=x
   cases l with
   |nil=>rfl
   |cons a l=>simp[ByteArray.size]at h0
  subst this
  try rfl
 ·have hx:x.data.toList.length=x.size:=by rw[Array.length_toList];rfl
  have:=run_convert_bytes_back (P:=Tryz.prog) W 124 9 5 ⟨g,0,none⟩ cap x.data.toList Tryz.underlying124 Tryz.underlying5 Tryz.underlying9 (by
   intro j hj
   have e:(cur.toList.take (x.size * 1))[j]? =(Yy x)[j]? :=by rw[h4]
   rw[List.getElem?_take_of_lt (by omega)]at e
   have e2:(Yy x)[j]? =some (.int .u8 (x.data.toList[j].toNat:Int)):=by
    simp only[Yy,List.getElem?_map,List.getElem?_eq_getElem hj,Option.map_some]
   rw[e2]at e
   have ea:(⟨g,0,none⟩:Addr).add j=⟨g,j,none⟩:=by unfold Addr.add;split <;>simp_all
   rw[ea];simp only[World.cell?,hg]
   simpa using e)
  rw[hx]at this;rw[this]
def WI(x:ByteArray)(v:Value)(_:World):Prop:=v= .string x
theorem Ev{w:World}{b:Nat}{S:ByteArray}{s:St}{v5 v6 v7:Value}(h:zP w b S s v5 v6 v7)(hS:S.size<=400)(hi:s.i<=S.size):
 Calls Tryz.prog 197 #[.pointer (some ⟨b,0,none⟩)] w (Jp w b S v5 v6 v7 WI (jH S (S.size+1) s ByteArray.empty)):=by
 have hbl:=h.lt;go_enter Tryz.func197,Tryz.ntmps197;go_wp2_with fail
 go_loopw [3] (fun v w3=>∃(x:ByteArray) (n:Nat) (s3:St),w3.ownsRow 0 5 1 v x.size (Yy x)/\(∀g,v.ownBlock=some g->w.heap.size<=g)/\x.size<=s3.i/\S.size<n+s3.i/\s3.i<=S.size/\zP w3 b S s3 v5 v6 v7/\Ch [b] w w3/\Hd (jH S (S.size+1) s ByteArray.empty=jH S n s3 x)) (fun _ w3=>S.size - penI b w3)
 case atStart=>exact⟨ByteArray.empty,S.size+1,s,⟨rfl,Or.inl ⟨rfl,rfl⟩⟩,by intro g hg;simp[Value.ownBlock]at hg,by simp,by omega,hi,h,Ch.refl _ _,rfl⟩
 case round=>
  generalize wr=w3 at *;obtain⟨x,n,s3,O3,V3,hx,hn,hi3,h3,g3,HF⟩:=hrel;obtain⟨n,rfl⟩:∃m,n=m+1:=⟨n - 1,by omega⟩;have z3:=g3.size
  by_cases hq:bt S s3.i=34
  ·have HR:Hd (jH S (n+1) s3 x= .ok (x,{s3 with i:=s3.i+1})):=by show _=_;simp[jH,hq]
   have HQ:=zC hq;clear hq;go_wp2_with fail;refine(ZP h3 hS 34 (by decide) HQ.o).mono ?_;rintro e w4 ⟨rfl,h4,g4⟩;have O4:=zJ O3 g4 (fun k hk=>by have:=V3 k hk;simp;omega);have hcv:=NB O4;go_wp2_with fail;go_ret;exact⟨g3.trans g4,Or.inl ⟨x,_,_,HF.o.trans HR.o,rfl,rfl,h4⟩⟩
  ·have HR:Hd (∀c s',zx S 32 JX s3= .ok (c,s')->jH S (n+1) s3 x=jH S n s' (x++⟨#[UInt8.ofNat c.toNat]⟩)):=by
    intro c s' e;simp only[jH,if_neg hq,e]
   have HE:Hd (∀d,zx S 32 JX s3= .error d->jH S (n+1) s3 x= .error d):=by
    intro c e;simp only[jH,if_neg hq,e]
   have HQ:=zC hq;clear hq;go_wp2_with fail;refine(JW h3 hS hi3 34 HQ.o).mono ?_;rintro e w4 ⟨rfl,h4,g4⟩;have O4:=zJ O3 g4 (fun k hk=>by have:=V3 k hk;simp;omega);go_wp2_with fail;refine(Eo h4 hS hi3).mono ?_;rintro e w5 ⟨g5,⟨c,s5,v,hl,rfl,hv,h5⟩|⟨d,hl,hg⟩⟩
   ·unfold Qi at hv
    subst hv;have O5:=zJ O4 g5 (fun k hk=>by have:=V3 k hk;simp;omega);have hlo:=Jr (by omega) hl;have HL:=zC hl;clear hl;have O6:=zJ O5 (Ch.alloc [] w5 (.cells #[.int .u8 c] 5)) (by simp);have V3x:=zC V3;have z4:=g4.size;have z5:=g5.size;have h6:=h5.kp (Ch.alloc [] w5 (.cells #[.int .u8 c] 5)) (by simp);clear O3 O4 O5 V3;go_wp2_with (at_builtin;refine QC 124 5 1 1 (.int .u8 0) Tryz.underlying124 Ka rfl (by omega) (by omega) (by rfl) _ _ (by rfl) _ x.size _ (by rfl) O6 w5.heap.size [.int .u8 c] (by rfl) (zr _ _) rfl (by intro u hu;simp at hu;subst hu;rfl) (by omega) (w5.heap.size+1) (by simp) ?_;intro g cap w13 own13 gr13 hat13 hlt13)
    have hg6:w.heap.size<=g:=by
     rcases hat13 with e|e
     ·exact V3x.o g e
     ·omega
    have h13:=h6.kp gr13 (by simp;intro e;have:=V3x.o _ e;omega)
    have hsz:(x++⟨#[UInt8.ofNat c.toNat]⟩:ByteArray).size=x.size+1:=by simp[ByteArray.size_append];rfl
    go_roundw
    case rel=>
     refine⟨x++⟨#[UInt8.ofNat c.toNat]⟩,n,s5,?_,?_,by rw[hsz];omega,by omega,hlo.2.1,h13,?_,?_⟩
     ·rw[PH x hlo.2.2.1 hlo.2.2.2.1,hsz];exact own13
     ·intro k hk;simp[Value.ownBlock]at hk;omega
     ·refine((g3.trans g4).trans (g5.trans (Ch.alloc [b] w5 _))).trans' gr13 (fun k hk=> ?_)
      simp at hk;exact Or.inr (V3x.o k hk)
     ·show _=_
      exact HF.o.trans (HR.o _ _ HL.o)
    case measure=>
     rw[h3.penI,h13.penI];omega
   ·have HL:=zC hl
    clear hl;obtain⟨rfl,ht⟩:=hg;exact zY (P:=Tryz.prog) (fn:=Tryz.f197) rfl ⟨g3.trans (g4.trans g5),Or.inr ⟨d,HF.o.trans (HE.o _ HL.o),⟨rfl,ht⟩⟩⟩
theorem UD(x:ByteArray):(x=Ji/\jU x=10)\/(x=Jt/\jU x=11)\/(x=Za/\jU x=12)\/(x=jy/\jU x=13)\/(x=⟨#[98,121,116,101]⟩/\jU x=14)\/(x=⟨#[117,112,112,101,114]⟩/\jU x=15)\/(x=⟨#[108,111,119,101,114]⟩/\jU x=16)\/(x=Jj/\jU x=17)\/(x=JR/\jU x=18)\/(x=ZM/\jU x=19)\/(x∉js/\jU x=if 8<x.size then 1 else 2):=by
 have key:∀W:ByteArray,x=W\/(yQ x W=false/\¬x=W):=by
  intro W
  by_cases e:x=W
  ·exact Or.inl e
  ·right;exact⟨by rw[Bool.eq_false_iff];intro h;exact e (Jh.1 h),e⟩
 rcases key Ji with rfl|⟨r0,e0⟩
 ·left;exact⟨rfl,rfl⟩
 rcases key Jt with rfl|⟨r1,e1⟩
 ·right;left;exact⟨rfl,rfl⟩
 rcases key Za with rfl|⟨r2,e2⟩
 ·right;right;left;exact⟨rfl,rfl⟩
 rcases key jy with rfl|⟨r3,e3⟩
 ·right;right;right;left;exact⟨rfl,rfl⟩
 rcases key ⟨#[98,121,116,101]⟩with rfl|⟨r4,e4⟩
 ·right;right;right;right;left;exact⟨rfl,rfl⟩
 rcases key ⟨#[117,112,112,101,114]⟩with rfl|⟨r5,e5⟩
 ·right;right;right;right;right;left;exact⟨rfl,rfl⟩
 rcases key ⟨#[108,111,119,101,114]⟩with rfl|⟨r6,e6⟩
 ·right;right;right;right;right;right;left;exact⟨rfl,rfl⟩
 rcases key Jj with rfl|⟨r7,e7⟩
 ·right;right;right;right;right;right;right;left;exact⟨rfl,rfl⟩
 rcases key JR with rfl|⟨r8,e8⟩
 ·right;right;right;right;right;right;right;right;left;exact⟨rfl,rfl⟩
 rcases key ZM with rfl|⟨r9,e9⟩
 ·right;right;right;right;right;right;right;right;right;left;exact⟨rfl,rfl⟩
 right;right;right;right;right;right;right;right;right;right
 refine⟨?_,?_⟩
 ·simp only[js,List.mem_cons,List.not_mem_nil,or_false,not_or]
  exact⟨e0,e1,e2,e3,e4,e5,e6,e7,e8,e9⟩
 ·simp only[jU,r0,r1,r2,r3,r4,r5,r6,r7,r8,r9,Bool.false_eq_true,if_false]
theorem Pv{S:ByteArray}{I:Nat}(hI:I<S.size):(S.extract I (run zR S I)).size=run zR S I - I:=by
 have:=zn zR S I (by omega);simp;omega
theorem Ep{S:ByteArray}{I:Nat}(hI:I<S.size):(S.extract I (run zR S I)).size=0↔zR (bt S I)=false:=by
 rw[Pv hI];cases h:zR (bt S I)
 ·have:=Z9 h;simp;omega
 ·have h1:=Qs hI h
  have h2:=zn zR S (I+1) (by omega)
  constructor
  ·intro e;omega
  ·intro e;cases e
def jd:List (Int×Int):=[(3,34),(4,91),(5,47),(6,123),(7,125),(8,61),(9,59)]
theorem Yv{S:ByteArray}{I:Nat}(hI:I<=S.size){k c:Int}(hk:(k,c)∈jd):zV S I=k↔bt S I=c:=by
 have hk':(k=3/\c=34)\/(k=4/\c=91)\/(k=5/\c=47)\/(k=6/\c=123)\/(k=7/\c=125)\/(k=8/\c=61)\/(k=9/\c=59):=by
  simpa[jd]using hk
 clear hk
 by_cases h0:I=S.size
 ·have a:zV S I=0:=by simp[zV,h0]
  have b:bt S I= -1:=YL (by omega);rw[a,b];omega
 ·have hlt:I<S.size:=by omega
  by_cases h1:(S.extract I (run zR S I)).size=0
  ·have a:zV S I=YG (bt S I):=by simp only[zV,if_neg h0,if_pos h1]
   rw[a];generalize bt S I=z;unfold YG
   repeat' split
   all_goals omega
  ·have a:zV S I=jU (S.extract I (run zR S I)):=by simp only[zV,if_neg h0,if_neg h1]
   have b:zR (bt S I)=true:=by
    cases hb:zR (bt S I)
    ·exact absurd ((Ep hlt).2 hb) h1
    ·rfl
   simp[zR]at b;have c':=UD (S.extract I (run zR S I));rw[a];generalize jU (S.extract I (run zR S I))=z at *;generalize bt S I=y at *
   split at c' <;>omega
theorem Xa{S:ByteArray}{s:St}(hi:s.i<=S.size){k c:Int}(hk:(k,c)∈jd):
 Zh S k s=match zh S c s with|.ok s'=> .ok (run zI S s.i,s')|.error d=> .error d:=by
 have l1:=zn zI S s.i hi;have key:=Yv l1.2 hk;unfold Zh zh;generalize run zI S s.i=I at *
 by_cases h:bt S I=c
 ·rw[if_pos (key.2 h),if_pos h]
  have hc:zR c=false:=by
   have hk':(k=3/\c=34)\/(k=4/\c=91)\/(k=5/\c=47)\/(k=6/\c=123)\/(k=7/\c=125)\/(k=8/\c=61)\/(k=9/\c=59):=by
    simpa[jd]using hk
   rcases hk' with⟨_,rfl⟩|⟨_,rfl⟩|⟨_,rfl⟩|⟨_,rfl⟩|⟨_,rfl⟩|⟨_,rfl⟩|⟨_,rfl⟩ <;>rfl
  rw[Z9 (by rw[h];exact hc)];simp
 ·rw[if_neg (fun e=>h (key.1 e)),if_neg h]
theorem Zm{S:ByteArray}{I:Nat}(hI:I<=S.size){k:Int}{W:ByteArray}(hk:10<=k)(hW:jU W=k):zV S I=k↔S.extract I (run zR S I)=W:=by
 by_cases h0:I=S.size
 ·have a:zV S I=0:=by simp[zV,h0]
  rw[a]
  constructor
  ·intro e;omega
  ·intro e
   exfalso
   have hz:(S.extract I (run zR S I)).size=0:=by simp;omega
   rw[e]at hz
   have:W=ByteArray.empty:=by
    obtain⟨⟨l⟩⟩:=W
    cases l with
    |nil=>rfl
    |cons a l=>simp[ByteArray.size]at hz
   subst this;have:jU ByteArray.empty=2:=rfl;omega
 ·have hlt:I<S.size:=by omega
  by_cases h1:(S.extract I (run zR S I)).size=0
  ·have a:zV S I=YG (bt S I):=by simp only[zV,if_neg h0,if_pos h1]
   rw[a]
   constructor
   ·intro e
    exfalso
    unfold YG at e
    repeat' split at e
    all_goals omega
   ·intro e
    exfalso
    rw[e]at h1
    have:W=ByteArray.empty:=by
     obtain⟨⟨l⟩⟩:=W
     cases l with
     |nil=>rfl
     |cons a l=>simp[ByteArray.size]at h1
    subst this;have:jU ByteArray.empty=2:=rfl;omega
  ·have a:zV S I=jU (S.extract I (run zR S I)):=by simp only[zV,if_neg h0,if_neg h1]
   rw[a]
   constructor
   ·intro e
    have c1:=UD (S.extract I (run zR S I));have c2:=UD W;rw[e]at c1;rw[hW]at c2
    have d1:∀n:Nat,(if 8<n then(1:Int)else 2)<=2:=by intro n;split <;>omega
    have d2:=d1 (S.extract I (run zR S I)).size;have d3:=d1 W.size
    rcases c1 with⟨c1,f1⟩|⟨c1,f1⟩|⟨c1,f1⟩|⟨c1,f1⟩|⟨c1,f1⟩|⟨c1,f1⟩|⟨c1,f1⟩|⟨c1,f1⟩|⟨c1,f1⟩|⟨c1,f1⟩|⟨c1,f1⟩ <;>
    rcases c2 with⟨c2,f2⟩|⟨c2,f2⟩|⟨c2,f2⟩|⟨c2,f2⟩|⟨c2,f2⟩|⟨c2,f2⟩|⟨c2,f2⟩|⟨c2,f2⟩|⟨c2,f2⟩|⟨c2,f2⟩|⟨c2,f2⟩ <;>
    first|(exfalso;omega)|(rw[c1,c2])
   ·intro e;rw[e];exact hW
theorem LQ{S:ByteArray}{s:St}(hi:s.i<=S.size){k:Int}{W:ByteArray}(hk:10<=k)(hW:jU W=k):
 Zh S k s=match yI S [W] s with|.ok ((_,p),s')=> .ok (p,s')|.error d=> .error d:=by
 have l1:=zn zI S s.i hi;have key:=Zm l1.2 hk hW
 have hne:0<W.size:=by
  rcases Nat.eq_zero_or_pos W.size with h|h
  ·have:W=ByteArray.empty:=by
    obtain⟨⟨l⟩⟩:=W
    cases l with
    |nil=>rfl
    |cons a l=>simp[ByteArray.size]at h
   subst this;have:jU ByteArray.empty=2:=rfl;omega
  ·exact h
 unfold Zh yI;simp only;generalize run zI S s.i=I at *
 by_cases h:S.extract I (run zR S I)=W
 ·rw[if_pos (key.2 h)]
  have:JS [W] (S.extract I (run zR S I))=true:=Jv.2 (by simp[h]);rw[if_pos this];have l2:=zn zR S I l1.2
  have hs:(S.extract I (run zR S I)).size=run zR S I - I:=by simp;omega
  rw[h]at hs
  have:I+max 1 (run zR S I - I)=run zR S I:=by omega
  simp only[this]
 ·rw[if_neg (fun e=>h (key.1 e))]
  have:¬JS [W] (S.extract I (run zR S I))=true:=by rw[Jv];simpa using h
  rw[if_neg this]
theorem Lh{S:ByteArray}{I:Nat}(_hI:I<=S.size):zV S I=2↔¬((S.extract I (run zR S I)).size=0\/JS js (S.extract I (run zR S I))=true\/8<(S.extract I (run zR S I)).size):=by
 by_cases h0:I=S.size
 ·have a:zV S I=0:=by simp[zV,h0]
  have hz:(S.extract I (run zR S I)).size=0:=by simp;omega
  rw[a];simp[hz]
 ·by_cases h1:(S.extract I (run zR S I)).size=0
  ·have a:zV S I=YG (bt S I):=by simp only[zV,if_neg h0,if_pos h1]
   rw[a];simp only[h1,true_or,not_true,iff_false];unfold YG
   repeat' split
   all_goals omega
  ·have a:zV S I=jU (S.extract I (run zR S I)):=by simp only[zV,if_neg h0,if_neg h1]
   rw[a,Jv];have c1:=UD (S.extract I (run zR S I));generalize S.extract I (run zR S I)=X at *
   have hm:∀W,W∈js->X=W->X∈js:=fun W h e=>e ▸ h
   rcases c1 with⟨c1,f1⟩|⟨c1,f1⟩|⟨c1,f1⟩|⟨c1,f1⟩|⟨c1,f1⟩|⟨c1,f1⟩|⟨c1,f1⟩|⟨c1,f1⟩|⟨c1,f1⟩|⟨c1,f1⟩|⟨c1,f1⟩
   all_goals rw[f1]
   iterate 10
    ·constructor
     ·intro e;exact absurd e (by decide)
     ·intro e;exact absurd (Or.inr (Or.inl (hm _ (by simp[js,Ji,Jt,Za,jy,Jj,JR,ZM]) c1))) e
   ·split
    ·constructor
     ·intro e;exact absurd e (by decide)
     ·intro e;exfalso;apply e;right;right;assumption
    ·simp[h1,c1];omega
theorem SR{S:ByteArray}{s:St}(hi:s.i<=S.size):
 Zh S 2 s=match yA S s with|.ok ((_,p),s')=> .ok (p,s')|.error d=> .error d:=by
 have l1:=zn zI S s.i hi;have key:=Lh l1.2;unfold Zh yA;simp only;generalize run zI S s.i=I at *
 by_cases h:(S.extract I (run zR S I)).size=0\/JS js (S.extract I (run zR S I))=true\/8<(S.extract I (run zR S I)).size
 ·rw[if_pos h,if_neg (fun e=>(key.1 e) h)]
 ·rw[if_neg h,if_pos (key.2 h)]
  have l2:=zn zR S I l1.2
  have hs:(S.extract I (run zR S I)).size=run zR S I - I:=by simp;omega
  have:I+max 1 (run zR S I - I)=run zR S I:=by omega
  simp only[this]
theorem EH{S:ByteArray}{s s':St}{x:ByteArray}{p:Nat}(h:yA S s= .ok ((x,p),s')):x=S.extract p s'.i:=by
 unfold yA at h;simp only at h
 split at h
 ·cases h
 ·injection h with h;injection h with h1 h2;injection h1 with h3 h4;subst h3 h4 h2;rfl
end Go.Proofs.YteobgfbgglfkbaaGreat
