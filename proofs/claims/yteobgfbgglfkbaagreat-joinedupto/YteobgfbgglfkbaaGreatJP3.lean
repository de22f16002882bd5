import Derived.Test.YteobgfbgglfkbaaGreatJP2
import Derived.Test.YteobgfbgglfkbaaGreatJB6
import Derived.Test.YteobgfbgglfkbaaGreatJB4
namespace Go.Proofs.YteobgfbgglfkbaaGreat
open Go.RowKit
attribute [local go_sem ↓] Go.wp_at_zero Go.wp_at_succ
theorem Ch.ofBelow{w w':World}{B:Nat}(h:Below B w w')(hB:w.heap.size≤B):Ch [] w w':=⟨h.os,h.tape,h.output,h.size,fun k hk _=>h.block k (by omega)⟩
theorem zDI:∀(P:List (Int×ByteArray)) (i:Nat) (p:Int×ByteArray),P[i]? =some p→(zAi P)[i * 2]? =some (.int .i64 (pk p.1))∧(zAi P)[i * 2+1]? =some (.string p.2)
 |[],i,p,h=>by simp at h
 |q:: sv,0,p,h=>by simp at h;subst h;simp [zAi]
 |q:: sv,i+1,p,h=>by
  have ih:=zDI sv i p (by simpa using h)
  have e:∀t,(zAi (q:: sv))[(i+1) * 2+t]? =(zAi sv)[i * 2+t]? :=by
   intro t;rw [show (i+1) * 2+t=(i * 2+t)+2 from by omega];simp [zAi]
  exact ⟨(e 0).trans ih.1,(e 1).trans ih.2⟩
theorem zM4(P:List (Int×ByteArray))(c:UInt8){k:Nat}(hk:k<P.length):outB (P.take (k+1)) c=outB (P.take k) c++zEj P[k] c:=by
 unfold outB;rw [List.take_succ_eq_append_getElem hk,List.flatMap_append];simp
theorem outB_le{P:List (Int×ByteArray)}(hP:zDM P)(c:UInt8)(k:Nat):(outB (P.take k) c).length≤12:=by
 have:∀(P:List (Int×ByteArray)),(∀p,p∈P→p.2.size≤4)→(outB P c).length≤4 * P.length:=by
  intro P
  induction P with
  |nil=>simp [outB]
  |cons p P ihP=>
   intro hP
   have h1:(zEj p c).length≤4:=by
    have:=hP p (by simp);unfold zEj
    split
    ·exact this
    ·repeat' split
     all_goals simp
   have h2:=ihP (fun q hq=>hP q (by simp [hq]));simp only [outB,List.flatMap_cons,List.length_append,List.length_cons] at *;omega
 have h1:=this (P.take k) (fun p hp=>hP.2 p (List.mem_of_mem_take hp));have h2:=hP.1
 have:(P.take k).length≤P.length:=by simp;omega
 omega
set_option maxRecDepth 100000 in
set_option maxHeartbeats 1600000 in
theorem zL8{w:World}{v:Value}{P:List (Int×ByteArray)}(ho:w.ownsRow 0 312 2 v P.length (zAi P))(hP:zDM P)(c:UInt8):
  Calls Tryz.prog 157 #[v,.int .u8 c.toNat] w fun e w'=>e= .returned (.string (str (outB P c)))∧Ch [] w w':=by
 obtain ⟨a,cp,rfl⟩:=zAC ho;have I0:=zIF w (B:=w.heap.size) (Nat.le_refl _);have g0:=Ch.alloc [] w (.cells #[.pointer none,.slice none 0 0] 126);have hP3:=hP.1;go_enter Tryz.func157,Tryz.ntmps157;go_wp2_with fail;generalize w.alloc (.cells #[.pointer none,.slice none 0 0] 126)=w0 at *
 go_loopw [7,10] (fun _ i w5=>∃k:Nat,k≤P.length∧i= .int .i64 k∧Hid (IsB w5 w.heap.size w.heap.size (outB (P.take k) c))∧Hid (Ch [] w w5)) (fun _ i _=>P.length - (intOf i).toNat)
 case atStart=>exact ⟨0,Nat.zero_le _,rfl,I0,g0⟩
 case round=>
  obtain ⟨k,hk,rfl,I5,g5⟩:=hrel
  by_cases hlt:(k:Int)<P.length
  ·have hlt':k<P.length:=by omega
   obtain ⟨g,rfl,hg⟩:=zAc (zAB ho g5.out (by simp)) (by omega);obtain ⟨hc0,hc1⟩:=zDI P k P[k] (by simp [hlt']);have d0:=hg _ _ hc0;have d1:=hg _ _ hc1;have HT:=hide (zM4 P c hlt');have HP4:=hide (hP.2 P[k] (List.getElem_mem hlt'));generalize P[k]=p at *;obtain ⟨K,T⟩:=p;simp only at d0 d1 HT HP4;have I6:=hide (I5.out.keep (Ch.alloc [] wr (.cells #[.int .i64 (pk K),.string T] 312)) (by simp) (by simp));have g6:=hide (g5.out.trans (Ch.alloc [] wr (.cells #[.int .i64 (pk K),.string T] 312)));clear hg hc0 hc1;have hz:=g5.out.size
   have done:∀w7,Hid (IsB w7 w.heap.size w.heap.size (outB (P.take (k+1)) c))→Hid (Ch [] w w7)→(∃k':Nat,k'≤P.length∧Value.int .i64 ((k:Int)+1)= .int .i64 k'∧Hid (IsB w7 w.heap.size w.heap.size (outB (P.take k') c))∧Hid (Ch [] w w7))∧P.length - (intOf (Value.int .i64 ((k:Int)+1))).toNat<P.length - (intOf (Value.int .i64 (k:Int))).toNat:=
    fun w7 h1 h2=>⟨⟨k+1,by omega,by go_num,h1,h2⟩,by simp [intOf];omega⟩
   have DONE:=hide done;clear done;have HL:=hide (outB_le hP c k)
   by_cases k1:K=116
   ·have e1:pk K=0:=by simp [pk,k1]
    rw [e1] at d0 I6 g6
    have HQ:Hid (zEj (K,T) c=T.data.toList):=by show _=_;simp [zEj,k1]
    go_wp2_with fail;rw [← zCw T] at I6 g6 ⊢;refine (zGi w.heap.size I6.out T.data.toList (by have:=HL.out;have:=HP4.out;have:=zAu T;omega) g6.out.size).mono ?_;rintro e w7 ⟨rfl,I7,f7⟩
    have I7':Hid (IsB w7 w.heap.size w.heap.size (outB (P.take (k+1)) c)):=by show IsB _ _ _ _;rw [HT.out,HQ.out];exact I7
    have g7:Hid (Ch [] w w7):=Ch.ofBelow ((g6.out.below (Nat.le_refl _) (by simp)).trans f7.1) (Nat.le_refl _);go_wp2_with fail;exact DONE.out w7 I7' g7
   ·by_cases k2:K=98
    ·have e1:pk K=1:=by simp [pk,k2]
     rw [e1] at d0 I6 g6
     have HQ:Hid (zEj (K,T) c=[c]):=by show _=_;simp [zEj,k2]
     go_wp2_with fail;refine (zCt w.heap.size I6.out c (by have:=HL.out;omega) g6.out.size).mono ?_;rintro e w7 ⟨rfl,I7,f7⟩
     have I7':Hid (IsB w7 w.heap.size w.heap.size (outB (P.take (k+1)) c)):=by show IsB _ _ _ _;rw [HT.out,HQ.out];exact I7
     have g7:Hid (Ch [] w w7):=Ch.ofBelow ((g6.out.below (Nat.le_refl _) (by simp)).trans f7.1) (Nat.le_refl _);go_wp2_with fail;exact DONE.out w7 I7' g7
    ·by_cases k3:K=117
     ·have e1:pk K=2:=by simp [pk,k3]
      rw [e1] at d0 I6 g6
      have HQ:Hid (zEj (K,T) c=[capB c]):=by show _=_;simp [zEj,k3]
      go_wp2_with fail;refine (zIY c).mono ?_;rintro e w6 ⟨rfl,rfl⟩;go_wp2_with fail;refine (zCt w.heap.size I6.out (capB c) (by have:=HL.out;omega) g6.out.size).mono ?_;rintro e w7 ⟨rfl,I7,f7⟩
      have I7':Hid (IsB w7 w.heap.size w.heap.size (outB (P.take (k+1)) c)):=by show IsB _ _ _ _;rw [HT.out,HQ.out];exact I7
      have g7:Hid (Ch [] w w7):=Ch.ofBelow ((g6.out.below (Nat.le_refl _) (by simp)).trans f7.1) (Nat.le_refl _);go_wp2_with fail;exact DONE.out w7 I7' g7
     ·have e1:pk K=3:=by simp [pk,k1,k2,k3]
      rw [e1] at d0 I6 g6
      have HQ:Hid (zEj (K,T) c=[litB c]):=by show _=_;simp [zEj,k1,k2,k3]
      go_wp2_with fail;refine (zJS c).mono ?_;rintro e w6 ⟨rfl,rfl⟩;go_wp2_with fail;refine (zCt w.heap.size I6.out (litB c) (by have:=HL.out;omega) g6.out.size).mono ?_;rintro e w7 ⟨rfl,I7,f7⟩
      have I7':Hid (IsB w7 w.heap.size w.heap.size (outB (P.take (k+1)) c)):=by show IsB _ _ _ _;rw [HT.out,HQ.out];exact I7
      have g7:Hid (Ch [] w w7):=Ch.ofBelow ((g6.out.below (Nat.le_refl _) (by simp)).trans f7.1) (Nat.le_refl _);go_wp2_with fail;exact DONE.out w7 I7' g7
  ·obtain rfl:k=P.length:=by omega
   go_wp2_with fail;refine (zGc w.heap.size I5.out g5.out.size).mono ?_;rintro e w7 ⟨rfl,f7⟩;rw [List.take_length];go_wp2_with fail;go_ret;exact ⟨rfl,Ch.ofBelow ((g5.out.below (Nat.le_refl _) (by simp)).trans f7.1) (Nat.le_refl _)⟩
end Go.Proofs.YteobgfbgglfkbaaGreat
namespace Go.Proofs.YteobgfbgglfkbaaGreat
open Go.RowKit
attribute [local go_sem ↓] Go.wp_at_zero Go.wp_at_succ
theorem zCv:∀(sv:List (zB8×(Nat→Nat)×Value)) (i:Nat) (p:zB8×(Nat→Nat)×Value),sv[i]? =some p→
  (zBN sv)[i * 5]? =some (.int .u64 (p.2.1 0:Nat))∧(zBN sv)[i * 5+1]? =some (.int .u64 (p.2.1 1:Nat))∧(zBN sv)[i * 5+2]? =some (.int .u64 (p.2.1 2:Nat))∧(zBN sv)[i * 5+3]? =some (.int .u64 (p.2.1 3:Nat))∧(zBN sv)[i * 5+4]? =some p.2.2
 |[],i,p,h=>by simp at h
 |q:: sv,0,p,h=>by simp at h;subst h;simp [zBN]
 |q:: sv,i+1,p,h=>by
  have ih:=zCv sv i p (by simpa using h)
  have e:∀t,(zBN (q:: sv))[(i+1) * 5+t]? =(zBN sv)[i * 5+t]? :=by
   intro t;rw [show (i+1) * 5+t=(i * 5+t)+5 from by omega];simp [zBN]
  exact ⟨(e 0).trans ih.1,(e 1).trans ih.2.1,(e 2).trans ih.2.2.1,(e 3).trans ih.2.2.2.1,(e 4).trans ih.2.2.2.2⟩
theorem zMe{R:List zB8}(c:UInt8){k:Nat}(hk:k<R.length):zCE (R.drop k) c=if zAj R[k].cls c.toNat then outB R[k].out c else zCE (R.drop (k+1)) c:=by
 rw [List.drop_eq_getElem_cons hk];simp only [zCE]
set_option maxRecDepth 100000 in
set_option maxHeartbeats 1600000 in
theorem zIU{w:World}{F:Nat→Prop}{v:Value}{R:List zB8}(hr:zAm w F v R)(hR:∀r,r∈R→zDM r.out)(hn:R.length≤450)(c:UInt8):
  Calls Tryz.prog 121 #[v,.int .u8 c.toNat] w fun e w'=>e= .returned (.string (str (zCE R c)))∧Ch [] w w':=by
 obtain ⟨_,rv,rfl,ho,hp⟩:=hr;obtain ⟨a,cp,rfl⟩:=zAC ho
 have hn':rv.length≤450:=by simpa using hn
 have HC:=hide c.toNat_lt;go_enter Tryz.func121,Tryz.ntmps121;go_wp2_with fail
 go_loopw [6,9] (fun _ i w5=>∃k:Nat,k≤rv.length∧i= .int .i64 k∧Hid (zCE ((rv.map fun p=>p.1).drop k) c=zCE (rv.map fun p=>p.1) c)∧Hid (Ch [] w w5)) (fun _ i _=>rv.length - (intOf i).toNat)
 case atStart=>exact ⟨0,Nat.zero_le _,rfl,by show _=_;simp,Ch.refl _ _⟩
 case round=>
  obtain ⟨k,hk,rfl,HB,g5⟩:=hrel
  by_cases hlt:(k:Int)<rv.length
  ·have hlt':k<rv.length:=by omega
   have HD:=hide (zMe (R:=rv.map fun p=>p.1) c (k:=k) (by simpa using hlt'));obtain ⟨g,rfl,hg⟩:=zAc (zAB ho g5.out (by simp)) (by omega);obtain ⟨h0,h1,h2,h3,h4⟩:=zCv rv k rv[k] (by simp [hlt']);have d0:=hg _ _ h0;have d1:=hg _ _ h1;have d2:=hg _ _ h2;have d3:=hg _ _ h3;have d4:=hg _ _ h4;have hpk:=hp rv[k] (List.getElem_mem hlt');have hRk:=hR rv[k].1 (List.mem_map_of_mem (List.getElem_mem hlt'));rw [List.getElem_map] at HD;clear hg h0 h1 h2 h3 h4;generalize rv[k]=p at *;obtain ⟨D,q,vp⟩:=p;simp only at d0 d1 d2 d3 d4 HD hpk hRk;obtain ⟨hS,_,hparts⟩:=hpk;obtain ⟨pa,pc,rfl⟩:=zAC hparts;have g6:=hide (g5.out.trans (Ch.alloc [] wr (.cells #[.int .u64 (q 0:Nat),.int .u64 (q 1:Nat),.int .u64 (q 2:Nat),.int .u64 (q 3:Nat),.slice pa D.out.length pc] 264)));have B6:=zAD.new wr #[.int .u64 (q 0:Nat),.int .u64 (q 1:Nat),.int .u64 (q 2:Nat),.int .u64 (q 3:Nat),.slice pa D.out.length pc] 264;have HH:=zFD (w:=wr.alloc (.cells #[.int .u64 (q 0:Nat),.int .u64 (q 1:Nat),.int .u64 (q 2:Nat),.int .u64 (q 3:Nat),.slice pa D.out.length pc] 264)) hS c.toNat HC.out;rw [show setV q= .agg #[.int .u64 (q 0:Nat),.int .u64 (q 1:Nat),.int .u64 (q 2:Nat),.int .u64 (q 3:Nat)] from rfl] at HH;have HS:=hide hS;have HO:=hide (zAB hparts g6.out (by simp));clear hS hparts;go_wp2_with fail;refine HH.mono ?_;rintro e w7 ⟨rfl,g7⟩;have B7:=B6.keep g7 (by simp);have e4:=B7.cell 4 _ rfl;have HO7:=hide (zAB HO.out g7 (by simp));generalize hb:zAj D.cls c.toNat=bb at *
   cases bb with
   |true=>
    have HD2:Hid (outB D.out c=zCE (rv.map fun p=>p.1) c):=by show _=_;rw [← HB.out,HD.out];rfl
    go_wp2_with fail;refine (zL8 HO7.out hRk c).mono ?_;rintro e w8 ⟨rfl,g8⟩;go_wp2_with fail;go_ret;exact ⟨by rw [← HD2.out];rfl,g6.out.trans (g7.trans g8)⟩
   |false=>
    have HD2:Hid (zCE ((rv.map fun p=>p.1).drop (k+1)) c=zCE (rv.map fun p=>p.1) c):=by show _=_;rw [← HB.out,HD.out];rfl
    go_wp2_with fail;exact ⟨⟨k+1,by omega,by go_num,HD2,g6.out.trans g7⟩,by simp [intOf];omega⟩
  ·have HD:Hid (zCE (rv.map fun p=>p.1) c=[c]):=by
    show _=_
    rw [← HB.out,List.drop_of_length_le (by simp;omega)];rfl
   go_wp2_with fail;refine (zJb c).mono ?_;rintro e w8 ⟨rfl,g8⟩;go_wp2_with fail;go_ret;exact ⟨by rw [HD.out];rfl,g5.out.trans g8⟩
end Go.Proofs.YteobgfbgglfkbaaGreat
namespace Go.Proofs.YteobgfbgglfkbaaGreat
open Go.RowKit
attribute [local go_sem ↓] Go.wp_at_zero Go.wp_at_succ
def tabF(R:List zB8)(k:Nat):Nat→List UInt8:=fun j=>if j<k then zCE R (UInt8.ofNat j) else []
theorem zNd(R:List zB8):zBe (tabF R 0)=zBe (fun _=>[]):=zD6 (fun j _=>by simp [tabF])
theorem zOV(R:List zB8):zBe (tabF R 256)=zBe (fun j=>zCE R (UInt8.ofNat j)):=zD6 (fun j hj=>by simp [tabF,hj])
theorem tabF_set{w:World}{H:Nat}{R:List zB8}{k:Nat}(hk:k<256)(h:zAD w H (zBe (tabF R k)) 219):
  zAD (w.setCell ⟨H,k,none⟩ (.string (str (zCE R (UInt8.ofNat k))))) H (zBe (tabF R (k+1))) 219:=by
 have:=h.set k (.string (str (zCE R (UInt8.ofNat k))));rw [zMY _ hk] at this;rw [zD6 (g:=fun j=>if j=k then zCE R (UInt8.ofNat k) else tabF R k j)]
 ·exact this
 ·intro j _
  unfold tabF
  by_cases e:j=k
  ·subst e;simp
  ·have:j<k+1↔j<k:=by omega
   simp [e,this]
theorem tab_cell{w:World}{H:Nat}{R:List zB8}{k:Nat}(hk:k<256)(h:zAD w H (zBe (tabF R k)) 219):∃v,w.cell? ⟨H,k,none⟩=some v:=⟨_,h.cell k _ (zJY _ hk)⟩
theorem zeroTab:Tryz.zeroCells219=zBe (fun _=>[]):=by kernel_rfl
theorem new_tab(w:World)(R:List zB8):zAD (w.alloc (.cells Tryz.zeroCells219 219)) w.heap.size (zBe (tabF R 0)) 219:=by
 rw [zNd,← zeroTab];exact zAD.new w _ _
theorem zAm.keep{w w':World}{F:Nat→Prop}{v:Value}{R:List zB8}(h:zAm w F v R)(g:Ch [] w w'):zAm w' F v R:=by
 obtain ⟨h1,rv,h2,h3,h4⟩:=h;exact ⟨h1,rv,h2,zAB h3 g (by simp),fun p hp=>⟨(h4 p hp).1,(h4 p hp).2.1,zAB (h4 p hp).2.2 g (by simp)⟩⟩
set_option maxRecDepth 100000 in
set_option maxHeartbeats 1600000 in
theorem zI0{w:World}{F:Nat→Prop}{v:Value}{R:List zB8}(hr:zAm w F v R)(hR:∀r,r∈R→zDM r.out)(hn:R.length≤450):
  Calls Tryz.prog 86 #[v] w fun e w'=>e= .returned (.pointer (some ⟨w.heap.size,0,none⟩))∧zAD w' w.heap.size (zBe fun j=>zCE R (UInt8.ofNat j)) 219∧Ch [] w w':=by
 have B0:=hide (new_tab w R);have g0:=hide (Ch.alloc [] w (.cells Tryz.zeroCells219 219));have HR:=hide hr;clear hr;go_enter Tryz.func86,Tryz.ntmps86;go_wp2_with fail;generalize w.alloc (.cells Tryz.zeroCells219 219)=w0 at *;generalize Value.agg Tryz.zeroCells219=zz at *
 go_loopw [4,7] (fun _ i w5=>∃k:Nat,k≤256∧i= .int .i64 k∧Hid (zAD w5 w.heap.size (zBe (tabF R k)) 219)∧Hid (Ch [] w w5)) (fun _ i _=>256 - (intOf i).toNat)
 case atStart=>exact ⟨0,Nat.zero_le _,rfl,B0,g0⟩
 case round=>
  obtain ⟨k,hk,rfl,B5,g5⟩:=hrel
  by_cases hlt:(k:Int)<256
  ·have hlt':k<256:=by omega
   have HK:Hid ((UInt8.ofNat k).toNat=k):=by show _=_;simp;omega
   have HC:∀W,Ch [] w W→Calls Tryz.prog 121 #[v,.int .u8 k] W fun e w'=>e= .returned (.string (str (zCE R (UInt8.ofNat k))))∧Ch [] W w':=by
    intro W hW;have:=zIU (w:=W) (F:=F) (v:=v) (R:=R) (HR.out.keep hW) hR hn (UInt8.ofNat k);rw [HK.out] at this;exact this
   have HCC:=hide HC;clear HC
   have hwr:IntKind.u8.wrap (k:Int)=k:=by
    show _=_
    simp [IntKind.wrap,IntKind.signed,IntKind.bits];omega
   go_wp2_with fail
   go_region_with ((go_at_call 121;refine (HCC.out _ (g5.out.trans (Ch.drew _ _))).mono ?_;rintro e w6 ⟨rfl,g6⟩;have B6:zAD w6 w.heap.size (zBe (tabF R k)) 219:=zAD.keep (zAD.keep B5.out (Ch.drew [] wr) (by simp)) g6 (by simp);obtain ⟨ve6,e6⟩:=tab_cell hlt' B6;have f6:=B6.frozen k))
   all_goals
    have B7:=hide (tabF_set hlt' B6);have g7:Hid (Ch [] w (w6.setCell ⟨w.heap.size,k,none⟩ (.string (str (zCE R (UInt8.ofNat k)))))):=(g5.out.trans ((Ch.drew _ _).trans g6)).setCell_new (Or.inr (Nat.le_refl _)) _;clear e6 f6 B6;generalize w6.setCell ⟨w.heap.size,k,none⟩ (.string (str (zCE R (UInt8.ofNat k))))=w7 at *;go_wp2_with fail;exact ⟨⟨k+1,by omega,by go_num,B7,g7⟩,by simp [intOf];omega⟩
  ·obtain rfl:k=256:=by omega
   have B6:=hide (zOV R ▸ B5.out);go_wp2_with fail;go_ret;exact ⟨rfl,B6.out,g5.out⟩
end Go.Proofs.YteobgfbgglfkbaaGreat
