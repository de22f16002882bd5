import Derived.Test.YteobgfbgglfkbaaGreatRB2
import Derived.Laws.IdiomStrings
namespace Go.Proofs.YteobgfbgglfkbaaGreat
open Go.RowKit
attribute [local go_sem ↓] Go.wp_at_zero Go.wp_at_succ
def zHW(x:ByteArray):List Value:=x.data.toList.map fun c=> .int .u8 (c.toNat:Int)
theorem zPE:(Tryz.prog.info? 5).map (fun i=>(i.zero,i.size,i.bytes))=some (some (.int .u8 0),1,1):=by kernel_rfl
theorem zL7(x:ByteArray){c:Int}(h0:0≤c)(h1:c≤255):zHW (x++⟨#[UInt8.ofNat c.toNat]⟩)=zHW x++[.int .u8 c]:=by
 have:(((UInt8.ofNat c.toNat).toNat:Nat):Int)=c:=by simp;omega
 simp only [zHW];rw [show (x++⟨#[UInt8.ofNat c.toNat]⟩:ByteArray).data=x.data++ #[UInt8.ofNat c.toNat] from by simp [ByteArray.data_append]];simp only [Array.toList_append,List.map_append]
 congr 1
 show [Value.int .u8 _]=_
 rw [this]
theorem convB{W:World}{v:Value}{x:ByteArray}(h:W.ownsRow 0 5 1 v x.size (zHW x)):Sem.run Tryz.prog (convert 124 9 v) W= .ok (.string x) W:=by
 obtain ⟨hl,⟨rfl,h0⟩ | ⟨g,cap,cur,rfl,_,hg,h1,h2,h3,h4⟩⟩:=h
 ·rw [run_convert_bytes_string W 124 9 5 _ _ _ Tryz.underlying124 Tryz.underlying5 Tryz.underlying9]
  have:x=ByteArray.empty:=by
   obtain ⟨⟨l⟩⟩:=x
   cases l with
   |nil=>rfl
   |cons a l=>simp [ByteArray.size] at h0
  subst this
  try rfl
 ·have hx:x.data.toList.length=x.size:=by rw [Array.length_toList];rfl
  have:=run_convert_bytes_back (P:=Tryz.prog) W 124 9 5 ⟨g,0,none⟩ cap x.data.toList Tryz.underlying124 Tryz.underlying5 Tryz.underlying9 (by
   intro j hj
   have e:(cur.toList.take (x.size * 1))[j]? =(zHW x)[j]? :=by rw [h4]
   rw [List.getElem?_take_of_lt (by omega)] at e
   have e2:(zHW x)[j]? =some (.int .u8 (x.data.toList[j].toNat:Int)):=by
    simp only [zHW,List.getElem?_map,List.getElem?_eq_getElem hj,Option.map_some]
   rw [e2] at e
   have ea:(⟨g,0,none⟩:Addr).add j=⟨g,j,none⟩:=by unfold Addr.add;split <;>simp_all
   rw [ea];simp only [World.cell?,hg]
   simpa using e)
  rw [hx] at this;rw [this]
def zOw(x:ByteArray)(v:Value)(_:World):Prop:=v= .string x
set_option maxRecDepth 100000 in
set_option maxHeartbeats 1600000 in
theorem zKo{w:World}{b:Nat}{S:ByteArray}{s:St}{v5 v6 v7:Value}(h:RdAt w b S s v5 v6 v7)(hS:S.size≤400)(hi:s.i≤S.size):
  Calls Tryz.prog 197 #[.pointer (some ⟨b,0,none⟩)] w (zET w b S v5 v6 v7 zOw (zCK S (S.size+1) s ByteArray.empty)):=by
 have hbl:=h.lt;go_enter Tryz.func197,Tryz.ntmps197;go_wp2_with fail
 go_loopw [3] (fun v w3=>∃(x:ByteArray) (n:Nat) (s3:St),w3.ownsRow 0 5 1 v x.size (zHW x)∧(∀g,v.ownBlock=some g→w.heap.size≤g)∧x.size≤s3.i∧S.size<n+s3.i∧s3.i≤S.size∧RdAt w3 b S s3 v5 v6 v7∧Ch [b] w w3∧Hid (zCK S (S.size+1) s ByteArray.empty=zCK S n s3 x)) (fun _ w3=>S.size - penI b w3)
 case atStart=>exact ⟨ByteArray.empty,S.size+1,s,⟨rfl,Or.inl ⟨rfl,rfl⟩⟩,by intro g hg;simp [Value.ownBlock] at hg,by simp,by omega,hi,h,Ch.refl _ _,rfl⟩
 case round=>
  generalize wr=w3 at *;obtain ⟨x,n,s3,O3,V3,hx,hn,hi3,h3,g3,HF⟩:=hrel;obtain ⟨n,rfl⟩:∃m,n=m+1:=⟨n - 1,by omega⟩;have z3:=g3.size
  by_cases hq:bt S s3.i=34
  ·have HR:Hid (zCK S (n+1) s3 x= .ok (x,{s3 with i:=s3.i+1})):=by show _=_;simp [zCK,hq]
   have HQ:=hide hq;clear hq;go_wp2_with fail;refine (zBI h3 hS 34 (by decide) HQ.out).mono ?_;rintro e w4 ⟨rfl,h4,g4⟩;have O4:=zAB O3 g4 (fun k hk=>by have:=V3 k hk;simp;omega);have hcv:=convB O4;go_wp2_with fail;go_ret;exact ⟨g3.trans g4,Or.inl ⟨x,_,_,HF.out.trans HR.out,rfl,rfl,h4⟩⟩
  ·have HR:Hid (∀c s',zAN S 32 zB2 s3= .ok (c,s')→zCK S (n+1) s3 x=zCK S n s' (x++⟨#[UInt8.ofNat c.toNat]⟩)):=by
    intro c s' e;simp only [zCK,if_neg hq,e]
   have HE:Hid (∀d,zAN S 32 zB2 s3= .error d→zCK S (n+1) s3 x= .error d):=by
    intro c e;simp only [zCK,if_neg hq,e]
   have HQ:=hide hq;clear hq;go_wp2_with fail;refine (zA6 h3 hS hi3 34 HQ.out).mono ?_;rintro e w4 ⟨rfl,h4,g4⟩;have O4:=zAB O3 g4 (fun k hk=>by have:=V3 k hk;simp;omega);go_wp2_with fail;refine (zHT h4 hS hi3).mono ?_;rintro e w5 ⟨g5,⟨c,s5,v,hl,rfl,hv,h5⟩ | ⟨d,hl,hg⟩⟩
   ·unfold isU8 at hv
    subst hv;have O5:=zAB O4 g5 (fun k hk=>by have:=V3 k hk;simp;omega);have hlo:=zA0 (by omega) hl;have HL:=hide hl;clear hl;have O6:=zAB O5 (Ch.alloc [] w5 (.cells #[.int .u8 c] 5)) (by simp);have V3x:=hide V3;have z4:=g4.size;have z5:=g5.size;have h6:=h5.keep (Ch.alloc [] w5 (.cells #[.int .u8 c] 5)) (by simp);clear O3 O4 O5 V3;go_wp2_with (at_builtin;refine zBj 124 5 1 1 (.int .u8 0) Tryz.underlying124 zPE rfl (by omega) (by omega) (by rfl) _ _ (by rfl) _ x.size _ (by rfl) O6 w5.heap.size [.int .u8 c] (by rfl) (zAH _ _) rfl (by intro u hu;simp at hu;subst hu;rfl) (by omega) (w5.heap.size+1) (by simp) ?_;intro g cap w13 own13 gr13 hat13 hlt13)
    have hg6:w.heap.size≤g:=by
     rcases hat13 with e | e
     ·exact V3x.out g e
     ·omega
    have h13:=h6.keep gr13 (by simp;intro e;have:=V3x.out _ e;omega)
    have hsz:(x++⟨#[UInt8.ofNat c.toNat]⟩:ByteArray).size=x.size+1:=by simp [ByteArray.size_append];rfl
    go_roundw
    case rel=>
     refine ⟨x++⟨#[UInt8.ofNat c.toNat]⟩,n,s5,?_,?_,by rw [hsz];omega,by omega,hlo.2.1,h13,?_,?_⟩
     ·rw [zL7 x hlo.2.2.1 hlo.2.2.2.1,hsz];exact own13
     ·intro k hk;simp [Value.ownBlock] at hk;omega
     ·refine ((g3.trans g4).trans (g5.trans (Ch.alloc [b] w5 _))).trans' gr13 (fun k hk=> ?_)
      simp at hk;exact Or.inr (V3x.out k hk)
     ·show _=_
      exact HF.out.trans (HR.out _ _ HL.out)
    case measure=>
     rw [h3.penI,h13.penI];omega
   ·have HL:=hide hl
    clear hl;obtain ⟨rfl,ht⟩:=hg;exact zAF (P:=Tryz.prog) (fn:=Tryz.f197) rfl ⟨g3.trans (g4.trans g5),Or.inr ⟨d,HF.out.trans (HE.out _ HL.out),⟨rfl,ht⟩⟩⟩
end Go.Proofs.YteobgfbgglfkbaaGreat
namespace Go.Proofs.YteobgfbgglfkbaaGreat
open Go.RowKit
theorem zDc(x:ByteArray):(x=zCT∧zBR x=10)∨(x=zEV∧zBR x=11)∨(x=toW∧zBR x=12)∨(x=zC0∧zBR x=13)∨(x=⟨#[98,121,116,101]⟩∧zBR x=14)∨(x=⟨#[117,112,112,101,114]⟩∧zBR x=15)∨(x=⟨#[108,111,119,101,114]⟩∧zBR x=16)∨(x=zCS∧zBR x=17)∨(x=zB4∧zBR x=18)∨(x=zEz∧zBR x=19)∨(x∉zCm∧zBR x=if 8<x.size then 1 else 2):=by
 have key:∀W:ByteArray,x=W∨(zBK x W=false∧¬x=W):=by
  intro W
  by_cases e:x=W
  ·exact Or.inl e
  ·right;exact ⟨by rw [Bool.eq_false_iff];intro h;exact e (zBB.1 h),e⟩
 rcases key zCT with rfl | ⟨r0,e0⟩
 ·left;exact ⟨rfl,rfl⟩
 rcases key zEV with rfl | ⟨r1,e1⟩
 ·right;left;exact ⟨rfl,rfl⟩
 rcases key toW with rfl | ⟨r2,e2⟩
 ·right;right;left;exact ⟨rfl,rfl⟩
 rcases key zC0 with rfl | ⟨r3,e3⟩
 ·right;right;right;left;exact ⟨rfl,rfl⟩
 rcases key ⟨#[98,121,116,101]⟩ with rfl | ⟨r4,e4⟩
 ·right;right;right;right;left;exact ⟨rfl,rfl⟩
 rcases key ⟨#[117,112,112,101,114]⟩ with rfl | ⟨r5,e5⟩
 ·right;right;right;right;right;left;exact ⟨rfl,rfl⟩
 rcases key ⟨#[108,111,119,101,114]⟩ with rfl | ⟨r6,e6⟩
 ·right;right;right;right;right;right;left;exact ⟨rfl,rfl⟩
 rcases key zCS with rfl | ⟨r7,e7⟩
 ·right;right;right;right;right;right;right;left;exact ⟨rfl,rfl⟩
 rcases key zB4 with rfl | ⟨r8,e8⟩
 ·right;right;right;right;right;right;right;right;left;exact ⟨rfl,rfl⟩
 rcases key zEz with rfl | ⟨r9,e9⟩
 ·right;right;right;right;right;right;right;right;right;left;exact ⟨rfl,rfl⟩
 right;right;right;right;right;right;right;right;right;right
 refine ⟨?_,?_⟩
 ·simp only [zCm,List.mem_cons,List.not_mem_nil,or_false,not_or]
  exact ⟨e0,e1,e2,e3,e4,e5,e6,e7,e8,e9⟩
 ·simp only [zBR,r0,r1,r2,r3,r4,r5,r6,r7,r8,r9,Bool.false_eq_true,if_false]
theorem ext_size{S:ByteArray}{I:Nat}(hI:I<S.size):(S.extract I (run isSm S I)).size=run isSm S I - I:=by
 have:=zAV isSm S I (by omega);simp;omega
theorem ext_zero{S:ByteArray}{I:Nat}(hI:I<S.size):(S.extract I (run isSm S I)).size=0↔isSm (bt S I)=false:=by
 rw [ext_size hI];cases h:isSm (bt S I)
 ·have:=zBk h;simp;omega
 ·have h1:=zDF hI h
  have h2:=zAV isSm S (I+1) (by omega)
  constructor
  ·intro e;omega
  ·intro e;cases e
def oneP:List (Int×Int):=[(3,34),(4,91),(5,47),(6,123),(7,125),(8,61),(9,59)]
theorem zCc{S:ByteArray}{I:Nat}(hI:I≤S.size){k c:Int}(hk:(k,c)∈oneP):zAK S I=k↔bt S I=c:=by
 have hk':(k=3∧c=34)∨(k=4∧c=91)∨(k=5∧c=47)∨(k=6∧c=123)∨(k=7∧c=125)∨(k=8∧c=61)∨(k=9∧c=59):=by
  simpa [oneP] using hk
 clear hk
 by_cases h0:I=S.size
 ·have a:zAK S I=0:=by simp [zAK,h0]
  have b:bt S I= -1:=zDw (by omega);rw [a,b];omega
 ·have hlt:I<S.size:=by omega
  by_cases h1:(S.extract I (run isSm S I)).size=0
  ·have a:zAK S I=zFs (bt S I):=by simp only [zAK,if_neg h0,if_pos h1]
   rw [a];generalize bt S I=z;unfold zFs
   repeat' split
   all_goals omega
  ·have a:zAK S I=zBR (S.extract I (run isSm S I)):=by simp only [zAK,if_neg h0,if_neg h1]
   have b:isSm (bt S I)=true:=by
    cases hb:isSm (bt S I)
    ·exact absurd ((ext_zero hlt).2 hb) h1
    ·rfl
   simp [isSm] at b;have c':=zDc (S.extract I (run isSm S I));rw [a];generalize zBR (S.extract I (run isSm S I))=z at *;generalize bt S I=y at *
   split at c' <;>omega
theorem zGm{S:ByteArray}{s:St}(hi:s.i≤S.size){k c:Int}(hk:(k,c)∈oneP):
  zFU S k s=match zAG S c s with | .ok s'=> .ok (run isBl S s.i,s') | .error d=> .error d:=by
 have l1:=zAV isBl S s.i hi;have key:=zCc l1.2 hk;unfold zFU zAG;generalize run isBl S s.i=I at *
 by_cases h:bt S I=c
 ·rw [if_pos (key.2 h),if_pos h]
  have hc:isSm c=false:=by
   have hk':(k=3∧c=34)∨(k=4∧c=91)∨(k=5∧c=47)∨(k=6∧c=123)∨(k=7∧c=125)∨(k=8∧c=61)∨(k=9∧c=59):=by
    simpa [oneP] using hk
   rcases hk' with ⟨_,rfl⟩ | ⟨_,rfl⟩ | ⟨_,rfl⟩ | ⟨_,rfl⟩ | ⟨_,rfl⟩ | ⟨_,rfl⟩ | ⟨_,rfl⟩ <;>rfl
  rw [zBk (by rw [h];exact hc)];simp
 ·rw [if_neg (fun e=>h (key.1 e)),if_neg h]
theorem zBd{S:ByteArray}{I:Nat}(hI:I≤S.size){k:Int}{W:ByteArray}(hk:10≤k)(hW:zBR W=k):zAK S I=k↔S.extract I (run isSm S I)=W:=by
 by_cases h0:I=S.size
 ·have a:zAK S I=0:=by simp [zAK,h0]
  rw [a]
  constructor
  ·intro e;omega
  ·intro e
   exfalso
   have hz:(S.extract I (run isSm S I)).size=0:=by simp;omega
   rw [e] at hz
   have:W=ByteArray.empty:=by
    obtain ⟨⟨l⟩⟩:=W
    cases l with
    |nil=>rfl
    |cons a l=>simp [ByteArray.size] at hz
   subst this;have:zBR ByteArray.empty=2:=rfl;omega
 ·have hlt:I<S.size:=by omega
  by_cases h1:(S.extract I (run isSm S I)).size=0
  ·have a:zAK S I=zFs (bt S I):=by simp only [zAK,if_neg h0,if_pos h1]
   rw [a]
   constructor
   ·intro e
    exfalso
    unfold zFs at e
    repeat' split at e
    all_goals omega
   ·intro e
    exfalso
    rw [e] at h1
    have:W=ByteArray.empty:=by
     obtain ⟨⟨l⟩⟩:=W
     cases l with
     |nil=>rfl
     |cons a l=>simp [ByteArray.size] at h1
    subst this;have:zBR ByteArray.empty=2:=rfl;omega
  ·have a:zAK S I=zBR (S.extract I (run isSm S I)):=by simp only [zAK,if_neg h0,if_neg h1]
   rw [a]
   constructor
   ·intro e
    have c1:=zDc (S.extract I (run isSm S I));have c2:=zDc W;rw [e] at c1;rw [hW] at c2
    have d1:∀n:Nat,(if 8<n then (1:Int) else 2)≤2:=by intro n;split <;>omega
    have d2:=d1 (S.extract I (run isSm S I)).size;have d3:=d1 W.size
    rcases c1 with ⟨c1,f1⟩ | ⟨c1,f1⟩ | ⟨c1,f1⟩ | ⟨c1,f1⟩ | ⟨c1,f1⟩ | ⟨c1,f1⟩ | ⟨c1,f1⟩ | ⟨c1,f1⟩ | ⟨c1,f1⟩ | ⟨c1,f1⟩ | ⟨c1,f1⟩ <;>
    rcases c2 with ⟨c2,f2⟩ | ⟨c2,f2⟩ | ⟨c2,f2⟩ | ⟨c2,f2⟩ | ⟨c2,f2⟩ | ⟨c2,f2⟩ | ⟨c2,f2⟩ | ⟨c2,f2⟩ | ⟨c2,f2⟩ | ⟨c2,f2⟩ | ⟨c2,f2⟩ <;>
    first | (exfalso;omega) | (rw [c1,c2])
   ·intro e;rw [e];exact hW
theorem zHZ{S:ByteArray}{s:St}(hi:s.i≤S.size){k:Int}{W:ByteArray}(hk:10≤k)(hW:zBR W=k):
  zFU S k s=match zAw S [W] s with | .ok ((_,p),s')=> .ok (p,s') | .error d=> .error d:=by
 have l1:=zAV isBl S s.i hi;have key:=zBd l1.2 hk hW
 have hne:0<W.size:=by
  rcases Nat.eq_zero_or_pos W.size with h | h
  ·have:W=ByteArray.empty:=by
    obtain ⟨⟨l⟩⟩:=W
    cases l with
    |nil=>rfl
    |cons a l=>simp [ByteArray.size] at h
   subst this;have:zBR ByteArray.empty=2:=rfl;omega
  ·exact h
 unfold zFU zAw;simp only;generalize run isBl S s.i=I at *
 by_cases h:S.extract I (run isSm S I)=W
 ·rw [if_pos (key.2 h)]
  have:anyB [W] (S.extract I (run isSm S I))=true:=zBa.2 (by simp [h]);rw [if_pos this];have l2:=zAV isSm S I l1.2
  have hs:(S.extract I (run isSm S I)).size=run isSm S I - I:=by simp;omega
  rw [h] at hs
  have:I+max 1 (run isSm S I - I)=run isSm S I:=by omega
  simp only [this]
 ·rw [if_neg (fun e=>h (key.1 e))]
  have:¬anyB [W] (S.extract I (run isSm S I))=true:=by rw [zBa];simpa using h
  rw [if_neg this]
theorem zJ3{S:ByteArray}{I:Nat}(_hI:I≤S.size):zAK S I=2↔¬((S.extract I (run isSm S I)).size=0∨anyB zCm (S.extract I (run isSm S I))=true∨8<(S.extract I (run isSm S I)).size):=by
 by_cases h0:I=S.size
 ·have a:zAK S I=0:=by simp [zAK,h0]
  have hz:(S.extract I (run isSm S I)).size=0:=by simp;omega
  rw [a];simp [hz]
 ·by_cases h1:(S.extract I (run isSm S I)).size=0
  ·have a:zAK S I=zFs (bt S I):=by simp only [zAK,if_neg h0,if_pos h1]
   rw [a];simp only [h1,true_or,not_true,iff_false];unfold zFs
   repeat' split
   all_goals omega
  ·have a:zAK S I=zBR (S.extract I (run isSm S I)):=by simp only [zAK,if_neg h0,if_neg h1]
   rw [a,zBa];have c1:=zDc (S.extract I (run isSm S I));generalize S.extract I (run isSm S I)=X at *
   have hm:∀W,W∈zCm→X=W→X∈zCm:=fun W h e=>e ▸ h
   rcases c1 with ⟨c1,f1⟩ | ⟨c1,f1⟩ | ⟨c1,f1⟩ | ⟨c1,f1⟩ | ⟨c1,f1⟩ | ⟨c1,f1⟩ | ⟨c1,f1⟩ | ⟨c1,f1⟩ | ⟨c1,f1⟩ | ⟨c1,f1⟩ | ⟨c1,f1⟩
   all_goals rw [f1]
   iterate 10
    ·constructor
     ·intro e;exact absurd e (by decide)
     ·intro e;exact absurd (Or.inr (Or.inl (hm _ (by simp [zCm,zCT,zEV,toW,zC0,zCS,zB4,zEz]) c1))) e
   ·split
    ·constructor
     ·intro e;exact absurd e (by decide)
     ·intro e;exfalso;apply e;right;right;assumption
    ·simp [h1,c1];omega
theorem zMB{S:ByteArray}{s:St}(hi:s.i≤S.size):
  zFU S 2 s=match zAn S s with | .ok ((_,p),s')=> .ok (p,s') | .error d=> .error d:=by
 have l1:=zAV isBl S s.i hi;have key:=zJ3 l1.2;unfold zFU zAn;simp only;generalize run isBl S s.i=I at *
 by_cases h:(S.extract I (run isSm S I)).size=0∨anyB zCm (S.extract I (run isSm S I))=true∨8<(S.extract I (run isSm S I)).size
 ·rw [if_pos h,if_neg (fun e=>(key.1 e) h)]
 ·rw [if_neg h,if_pos (key.2 h)]
  have l2:=zAV isSm S I l1.2
  have hs:(S.extract I (run isSm S I)).size=run isSm S I - I:=by simp;omega
  have:I+max 1 (run isSm S I - I)=run isSm S I:=by omega
  simp only [this]
theorem zJi{S:ByteArray}{s s':St}{x:ByteArray}{p:Nat}(h:zAn S s= .ok ((x,p),s')):x=S.extract p s'.i:=by
 unfold zAn at h;simp only at h
 split at h
 ·cases h
 ·injection h with h;injection h with h1 h2;injection h1 with h3 h4;subst h3 h4 h2;rfl
end Go.Proofs.YteobgfbgglfkbaaGreat
