import Derived.Test.YteobgfbgglfkbaaGreatAA4
set_option maxHeartbeats 6400000
namespace Go.Proofs.YteobgfbgglfkbaaGreat
open Go.RowKit
attribute [local go_sem ↓] Go.wp_at_zero Go.wp_at_succ
def Ct(w:World)(S:ByteArray)(e:Ending)(w':World):Prop:=
 Below w.heap.size w w'/\((yX S≠(0,0)/\e= .returned (.tuple #[.pointer none,.int .i64 (yX S).1,.int .i64 (yX S).2]))\/
  (yX S=(0,0)/\∃b d F vs vc va sv cv av s,e= .returned (.tuple #[.pointer (some ⟨d,0,none⟩),.int .i64 0,.int .i64 0])/\jQ w' w.heap.size b d F vs vc va sv cv av/\jA S= .ok (⟨sv.map (·.1),cv.map (·.1),av.map (·.1)⟩,s)))
def Bh(S:ByteArray)(w w5:World):Prop:=
 Below w.heap.size w w5/\((∃(s5:St) (F:Nat->Prop) (vs vc va:Value) (sv:List (zH×Value)) (cv:List (zZ×Value)) (av:List (ze×Value)) (m:Nat),zO w5 w.heap.size S s5 (-1) ((0:Nat):Int)/\s5.i<=S.size/\jQ w5 w.heap.size w.heap.size (w.heap.size+1) F vs vc va sv cv av/\sv.length<=s5.i/\cv.length<=s5.i/\av.length<=s5.i/\S.size<m+s5.i/\jA S=jC S m s5 ⟨sv.map (·.1),cv.map (·.1),av.map (·.1)⟩)\/
  (∃D,zj w5 w.heap.size S D/\jA S= .error D))
theorem Tz{w:World}(S:ByteArray):Calls Tryz.prog 12 #[.string S] w (Ct w S):=by
 by_cases hS:400<S.size
 ·have hS':(400:Int)<S.size:=by omega
  have HC:Hd (yX S=(1,0)):=by show _=_;simp[yX,hS]
  go_enter Tryz.func12,Tryz.ntmps12;go_wp2_with fail;go_ret3;exact⟨Below.refl _ _,Or.inl ⟨by rw[HC.o];decide,by rw[HC.o];rfl⟩⟩
 ·have hS':¬(400:Int)<S.size:=by omega
  have hS4:S.size<=400:=by omega
  have HC:Hd (yX S=Yf (jA S)):=by show _=_;simp[yX,hS]
  clear hS;go_enter Tryz.func12,Tryz.ntmps12;go_wp2_with fail;have h0:zO ((w.alloc (.cells #[.string S,.int .i64 0,.int .i64 (-1),.int .i64 0,.int .i64 0,.int .i64 0,.int .i64 0] 91)).alloc (.cells #[.slice none 0 0,.slice none 0 0,.slice none 0 0] 41)) w.heap.size S st0 (-1) ((0:Nat):Int):=zO.kp (w:=w.alloc (.cells #[.string S,.int .i64 0,.int .i64 (-1),.int .i64 0,.int .i64 0,.int .i64 0,.int .i64 0] 91)) (zr _ _) (Ch.alloc [] _ _) (by simp)
  have P0:jQ ((w.alloc (.cells #[.string S,.int .i64 0,.int .i64 (-1),.int .i64 0,.int .i64 0,.int .i64 0,.int .i64 0] 91)).alloc (.cells #[.slice none 0 0,.slice none 0 0,.slice none 0 0] 41)) w.heap.size w.heap.size (w.heap.size+1) (fun _=>False) (.slice none 0 0) (.slice none 0 0) (.slice none 0 0) [] [] []:=by
   have B0:=zE.new (w.alloc (.cells #[.string S,.int .i64 0,.int .i64 (-1),.int .i64 0,.int .i64 0,.int .i64 0,.int .i64 0] 91)) #[.slice none 0 0,.slice none 0 0,.slice none 0 0] 41;rw[show(w.alloc (.cells #[.string S,.int .i64 0,.int .i64 (-1),.int .i64 0,.int .i64 0,.int .i64 0,.int .i64 0] 91)).heap.size=w.heap.size+1 from by simp]at B0;exact {blk:=B0,rs:=World.ownsRow_nil _ _ _ _,rc:=World.ownsRow_nil _ _ _ _,ra:=World.ownsRow_nil _ _ _ _,ps:=by simp,pc:=by simp,pa:=by simp,dlo:=by omega,bd:=by omega,ns:=by simp,nc:=by simp,na:=by simp,bs:=by simp[Value.ownBlock],bc:=by simp[Value.ownBlock],ba:=by simp[Value.ownBlock],f:=by simp}
  have g0:Below w.heap.size w ((w.alloc (.cells #[.string S,.int .i64 0,.int .i64 (-1),.int .i64 0,.int .i64 0,.int .i64 0,.int .i64 0] 91)).alloc (.cells #[.slice none 0 0,.slice none 0 0,.slice none 0 0] 41)):=((Ch.alloc [] w _).trans (Ch.alloc [] _ _)).below (by omega) (by simp);generalize (w.alloc (.cells #[.string S,.int .i64 0,.int .i64 (-1),.int .i64 0,.int .i64 0,.int .i64 0,.int .i64 0] 91)).alloc (.cells #[.slice none 0 0,.slice none 0 0,.slice none 0 0] 41)=w0 at *;refine(ZE h0 (by simp[st0]) hS4).mono ?_;rintro e w1 ⟨rfl,h1,g1⟩;have l1:=zn zI S st0.i (by simp[st0])
  have START:Hd (Bh S w w1):=by
   refine⟨g0.trans (g1.below g0.size (by simp)),Or.inl ⟨st0.sk S,fun _=>False,_,_,_,[],[],[],S.size+1,h1,l1.2,P0.kp g1,by simp,by simp,by simp,by omega,rfl⟩⟩
  clear h1 h0 P0 g0 g1 l1;go_wp2_with fail
  go_loopw [7,8] (fun _ _ w5=>Bh S w w5) (fun _ _ w5=>penM w.heap.size S.size w5)
  case atStart=>exact START.o
  case round=>
   clear START;generalize wr=w5 at *;obtain⟨B5,⟨s5,F,vs,vc,va,sv,cv,av,m,h5,hi5,hp5,n1,n2,n3,hm5,hrw⟩|⟨D,h5,hrw⟩⟩:=hrel
   ·obtain⟨c0,c1,c2,c3,c4,c5,c6,fz⟩:=h5.fa
    by_cases hlt:(s5.i:Int)<S.size
    ·have hlt':s5.i<S.size:=by omega
     obtain⟨m,rfl⟩:∃k,m=k+1:=⟨m - 1,by omega⟩;have hm0:Hd (penM w.heap.size S.size w5=S.size+1 - s5.i):=h5.penM;have h6:PS (w5.alloc (.cells (Jf.map Value.string).toArray 9)) w.heap.size S ((0:Nat):Int) (.ok s5):=PS.kp (σ:= .ok s5) ⟨h5,hi5⟩ (Ch.alloc [] _ _) (by simp);have hstr:JZ (w5.alloc (.cells (Jf.map Value.string).toArray 9)) w5.heap.size Jf:=zr _ _;have zb:=h5.lt
     have HRW:Hd (jA S=match yI S Jf s5 with
      |.error d=> .error d
      |.ok ((x,p),s1)=>
       match jb S x p ⟨sv.map (·.1),cv.map (·.1),av.map (·.1)⟩ s1 with
       |.error d=> .error d
       |.ok (D',s2)=>jC S m (s2.sk S) D'):=by
      show _=_;rw[hrw];simp only[jC,hlt',if_true];try rfl
     clear hrw;go_wp2_with fail;refine(Wn h6 hS4 hstr (by omega) (by decide) (Qn.1 rfl) 4 4 rfl).mono ?_;rintro e w7 ⟨a7,rfl,ha7,h7,g7⟩;have g57:Ch [w.heap.size] w5 w7:=(Ch.alloc _ w5 _).trans g7;have B57:Below w.heap.size w w7:=B5.trans (g57.below B5.size (by simp));have hp7:=hp5.kp g57;clear c0 c1 c2 c3 c4 c5 c6 fz hstr h6 g7;simp only[zN]at ha7 h7 ⊢
     cases hw:yI S Jf s5 with
     |error D=>
      have HR2:Hd (jA S= .error D):=by show _=_;rw[HRW.o,hw]
      rw[hw]at h7;have h7':zj w7 w.heap.size S D:=h7;simp only[j4];obtain⟨q1,q2⟩:=VK (X:=ByteArray.empty) rfl;clear hw ha7 h7 HRW;go_wp2_with fail;refine(Yh h7').mono ?_;rintro e w9 ⟨rfl,h9,g9⟩;go_wp2_with fail;go_roundw
      case rel=>exact⟨B57.trans (g9.below B57.size (by simp)),Or.inr ⟨D,h9,HR2.o⟩⟩
      case measure=>rw[hm0.o,h9.penM];omega
     |ok q=>
      obtain⟨⟨x,p⟩,s6⟩:=q
      have hx:x∈Jf:=by
       simp only[yI]at hw
       split at hw
       ·rename_i hh
        simp at hw;rw[<- hw.1.1];exact Jv.1 hh
       ·cases hw
      have l6:s5.i<s6.i/\s6.i<=S.size:=by
       have b1:=XB hi5 hw;refine⟨?_,b1.2⟩;have a1:=zn zI S s5.i hi5;have a2:=zn zR S _ a1.2;simp only[yI]at hw
       split at hw
       ·simp at hw
        have hne:¬x.size=0:=by
         intro h0;simp only[Jf,List.mem_cons,List.not_mem_nil,or_false]at hx
         rcases hx with e|e|e|e <;>rw[e]at h0 <;>cases h0
        rw[<- hw.1.1]at hne;simp at hne;rw[<- hw.2];simp only;omega
       ·cases hw
      have hap:=ha7 x p s6 hw;subst hap;rw[hw]at h7;have h7':zO w7 w.heap.size S s6 (-1) ((0:Nat):Int):=h7.1
      have HRW2:Hd (jA S=match jb S x p ⟨sv.map (·.1),cv.map (·.1),av.map (·.1)⟩ s6 with
       |.error d=> .error d
       |.ok (D',s2)=>jC S m (s2.sk S) D'):=by show _=_;rw[HRW.o,hw]
      clear HRW;have HRW:=HRW2;simp only[j4];clear hw ha7 h7 HRW2
      have eS:(sv.map (·.1)).map (·.name)=yy sv:=by simp[yy]
      have eC:(cv.map (·.1)).map (·.name)=yz cv:=by simp[yz]
      have eA:(av.map (·.1)).length=av.length:=by simp
      have ES:=zC eS;have EC:=zC eC;have EA:=zC eA;clear eS eC eA;simp only[Jf,List.mem_cons,List.not_mem_nil,or_false]at hx
      rcases hx with rfl|rfl|rfl|rfl
      ·unfold Ji at HRW ⊢
       have TH:Hd (jb S ⟨#[115,99,114,117,98]⟩ p ⟨sv.map (·.1),cv.map (·.1),av.map (·.1)⟩ s6=match j8 S ((sv.map (·.1)).map (·.name)) ((cv.map (·.1)).map (·.name)) p s6 with
        |.error d=> .error d
        |.ok (q,s2)=> .ok (⟨sv.map (·.1)++[q],cv.map (·.1),av.map (·.1)⟩,s2)):=by
        show _=_;rfl
       have LE:Hd (∀q s',j8 S ((sv.map (·.1)).map (·.name)) ((cv.map (·.1)).map (·.name)) p s6= .ok (q,s')->s6.i<=s'.i/\s'.i<=S.size):=fun q s' e=>Nn l6.2 e
       go_wp2_with fail;refine((by rw[ES.o,EC.o];exact Cp h7' l6.2 hS4 hp7 (by omega) (Nat.le_refl _) p:Calls Tryz.prog 31 _ w7 (Kg w7 w.heap.size w.heap.size (w.heap.size+1) S ((0:Nat):Int) vs vc va sv cv av (j8 S ((sv.map (·.1)).map (·.name)) ((cv.map (·.1)).map (·.name)) p s6)))).mono ?_;rintro e w8 ⟨rfl,B8,⟨D,s',vr,F',v',hr,h8,hi8,hp8⟩|⟨Dd,hr,h8⟩⟩
       ·have HR2:Hd (jA S=jC S m (s'.sk S) ⟨sv.map (·.1)++[D],cv.map (·.1),av.map (·.1)⟩):=by
         show _=_;rw[HRW.o,TH.o]
         rw[show j8 S ((sv.map (·.1)).map (·.name)) ((cv.map (·.1)).map (·.name)) p s6=_ from hr]
        obtain⟨l7,l8⟩:=LE.o _ _ hr;have l9:=zn zI S s'.i l8;clear hr TH LE HRW;go_wp2_with fail;refine(ZE h8 hi8 hS4).mono ?_;rintro e w9 ⟨rfl,h9,g9⟩;have h9':zO w9 w.heap.size S (s'.sk S) (-1) ((0:Nat):Int):=h9;go_wp2_with fail;go_roundw
        case rel=>exact⟨(B57.trans B8).trans (g9.below (by have:=B57.size;have:=B8.size;have:=B5.size;omega) (by simp)),Or.inl ⟨s'.sk S,F',_,_,_,_,_,_,m,h9',l9.2,hp8.kp g9,by rw[List.length_append];simp only[St.sk,List.length_singleton];omega,by simp only[St.sk];omega,by simp only[St.sk];omega,by simp only[St.sk];omega,by rw[HR2.o];simp⟩⟩
        case measure=>rw[hm0.o,h9'.penM];simp only[St.sk];omega
       ·have HR2:Hd (jA S= .error Dd):=by
         show _=_;rw[HRW.o,TH.o]
         rw[show j8 S ((sv.map (·.1)).map (·.name)) ((cv.map (·.1)).map (·.name)) p s6=_ from hr]
        clear hr TH LE HRW;go_wp2_with fail;refine(Yh h8).mono ?_;rintro e w9 ⟨rfl,h9,g9⟩;go_wp2_with fail;go_roundw
        case rel=>exact⟨(B57.trans B8).trans (g9.below (by have:=B57.size;have:=B8.size;have:=B5.size;omega) (by simp)),Or.inr ⟨Dd,h9,HR2.o⟩⟩
        case measure=>rw[hm0.o,h9.penM];omega
      ·unfold Jj at HRW ⊢
       have TH:Hd (jb S ⟨#[99,104,97,105,110]⟩ p ⟨sv.map (·.1),cv.map (·.1),av.map (·.1)⟩ s6=match jx S ((sv.map (·.1)).map (·.name)) ((cv.map (·.1)).map (·.name)) p s6 with
        |.error d=> .error d
        |.ok (q,s2)=> .ok (⟨sv.map (·.1),cv.map (·.1)++[q],av.map (·.1)⟩,s2)):=by
        show _=_;rfl
       have LE:Hd (∀q s',jx S ((sv.map (·.1)).map (·.name)) ((cv.map (·.1)).map (·.name)) p s6= .ok (q,s')->s6.i<=s'.i/\s'.i<=S.size):=fun q s' e=>N0 l6.2 e
       go_wp2_with fail;refine((by rw[ES.o,EC.o];exact SL h7' l6.2 hS4 hp7 (by omega) (Nat.le_refl _) p:Calls Tryz.prog 32 _ w7 (MY w7 w.heap.size w.heap.size (w.heap.size+1) S ((0:Nat):Int) vs vc va sv cv av (jx S ((sv.map (·.1)).map (·.name)) ((cv.map (·.1)).map (·.name)) p s6)))).mono ?_;rintro e w8 ⟨rfl,B8,⟨D,s',vr,F',v',hr,h8,hi8,hp8⟩|⟨Dd,hr,h8⟩⟩
       ·have HR2:Hd (jA S=jC S m (s'.sk S) ⟨sv.map (·.1),cv.map (·.1)++[D],av.map (·.1)⟩):=by
         show _=_;rw[HRW.o,TH.o]
         rw[show jx S ((sv.map (·.1)).map (·.name)) ((cv.map (·.1)).map (·.name)) p s6=_ from hr]
        obtain⟨l7,l8⟩:=LE.o _ _ hr;have l9:=zn zI S s'.i l8;clear hr TH LE HRW;go_wp2_with fail;refine(ZE h8 hi8 hS4).mono ?_;rintro e w9 ⟨rfl,h9,g9⟩;have h9':zO w9 w.heap.size S (s'.sk S) (-1) ((0:Nat):Int):=h9;go_wp2_with fail;go_roundw
        case rel=>exact⟨(B57.trans B8).trans (g9.below (by have:=B57.size;have:=B8.size;have:=B5.size;omega) (by simp)),Or.inl ⟨s'.sk S,F',_,_,_,_,_,_,m,h9',l9.2,hp8.kp g9,by simp only[St.sk];omega,by rw[List.length_append];simp only[St.sk,List.length_singleton];omega,by simp only[St.sk];omega,by simp only[St.sk];omega,by rw[HR2.o];simp⟩⟩
        case measure=>rw[hm0.o,h9'.penM];simp only[St.sk];omega
       ·have HR2:Hd (jA S= .error Dd):=by
         show _=_;rw[HRW.o,TH.o]
         rw[show jx S ((sv.map (·.1)).map (·.name)) ((cv.map (·.1)).map (·.name)) p s6=_ from hr]
        clear hr TH LE HRW;go_wp2_with fail;refine(Yh h8).mono ?_;rintro e w9 ⟨rfl,h9,g9⟩;go_wp2_with fail;go_roundw
        case rel=>exact⟨(B57.trans B8).trans (g9.below (by have:=B57.size;have:=B8.size;have:=B5.size;omega) (by simp)),Or.inr ⟨Dd,h9,HR2.o⟩⟩
        case measure=>rw[hm0.o,h9.penM];omega
      ·unfold JR at HRW ⊢
       have TH:Hd (jb S ⟨#[110,101,118,101,114]⟩ p ⟨sv.map (·.1),cv.map (·.1),av.map (·.1)⟩ s6=match jE S ((cv.map (·.1)).map (·.name)) (av.map (·.1)).length true p s6 with
        |.error d=> .error d
        |.ok (q,s2)=> .ok (⟨sv.map (·.1),cv.map (·.1),av.map (·.1)++[q]⟩,s2)):=by
        show _=_;rfl
       have LE:Hd (∀q s',jE S ((cv.map (·.1)).map (·.name)) (av.map (·.1)).length true p s6= .ok (q,s')->s6.i<=s'.i/\s'.i<=S.size):=fun q s' e=>KI l6.2 e
       go_wp2_with fail;refine((by rw[EC.o,EA.o];exact Ei h7' l6.2 hS4 hp7 (by omega) (Nat.le_refl _) true p:Calls Tryz.prog 33 _ w7 (UX w7 w.heap.size w.heap.size (w.heap.size+1) S ((0:Nat):Int) vs vc va sv cv av (jE S ((cv.map (·.1)).map (·.name)) (av.map (·.1)).length true p s6)))).mono ?_;rintro e w8 ⟨rfl,B8,⟨D,s',vr,F',v',hr,h8,hi8,hp8⟩|⟨Dd,hr,h8⟩⟩
       ·have HR2:Hd (jA S=jC S m (s'.sk S) ⟨sv.map (·.1),cv.map (·.1),av.map (·.1)++[D]⟩):=by
         show _=_;rw[HRW.o,TH.o]
         rw[show jE S ((cv.map (·.1)).map (·.name)) (av.map (·.1)).length true p s6=_ from hr]
        obtain⟨l7,l8⟩:=LE.o _ _ hr;have l9:=zn zI S s'.i l8;clear hr TH LE HRW;go_wp2_with fail;refine(ZE h8 hi8 hS4).mono ?_;rintro e w9 ⟨rfl,h9,g9⟩;have h9':zO w9 w.heap.size S (s'.sk S) (-1) ((0:Nat):Int):=h9;go_wp2_with fail;go_roundw
        case rel=>exact⟨(B57.trans B8).trans (g9.below (by have:=B57.size;have:=B8.size;have:=B5.size;omega) (by simp)),Or.inl ⟨s'.sk S,F',_,_,_,_,_,_,m,h9',l9.2,hp8.kp g9,by simp only[St.sk];omega,by simp only[St.sk];omega,by rw[List.length_append];simp only[St.sk,List.length_singleton];omega,by simp only[St.sk];omega,by rw[HR2.o];simp⟩⟩
        case measure=>rw[hm0.o,h9'.penM];simp only[St.sk];omega
       ·have HR2:Hd (jA S= .error Dd):=by
         show _=_;rw[HRW.o,TH.o]
         rw[show jE S ((cv.map (·.1)).map (·.name)) (av.map (·.1)).length true p s6=_ from hr]
        clear hr TH LE HRW;go_wp2_with fail;refine(Yh h8).mono ?_;rintro e w9 ⟨rfl,h9,g9⟩;go_wp2_with fail;go_roundw
        case rel=>exact⟨(B57.trans B8).trans (g9.below (by have:=B57.size;have:=B8.size;have:=B5.size;omega) (by simp)),Or.inr ⟨Dd,h9,HR2.o⟩⟩
        case measure=>rw[hm0.o,h9.penM];omega
      ·unfold ZM at HRW ⊢
       have TH:Hd (jb S ⟨#[115,97,109,101]⟩ p ⟨sv.map (·.1),cv.map (·.1),av.map (·.1)⟩ s6=match jE S ((cv.map (·.1)).map (·.name)) (av.map (·.1)).length false p s6 with
        |.error d=> .error d
        |.ok (q,s2)=> .ok (⟨sv.map (·.1),cv.map (·.1),av.map (·.1)++[q]⟩,s2)):=by
        show _=_;rfl
       have LE:Hd (∀q s',jE S ((cv.map (·.1)).map (·.name)) (av.map (·.1)).length false p s6= .ok (q,s')->s6.i<=s'.i/\s'.i<=S.size):=fun q s' e=>KI l6.2 e
       go_wp2_with fail;refine((by rw[EC.o,EA.o];exact Ei h7' l6.2 hS4 hp7 (by omega) (Nat.le_refl _) false p:Calls Tryz.prog 33 _ w7 (UX w7 w.heap.size w.heap.size (w.heap.size+1) S ((0:Nat):Int) vs vc va sv cv av (jE S ((cv.map (·.1)).map (·.name)) (av.map (·.1)).length false p s6)))).mono ?_;rintro e w8 ⟨rfl,B8,⟨D,s',vr,F',v',hr,h8,hi8,hp8⟩|⟨Dd,hr,h8⟩⟩
       ·have HR2:Hd (jA S=jC S m (s'.sk S) ⟨sv.map (·.1),cv.map (·.1),av.map (·.1)++[D]⟩):=by
         show _=_;rw[HRW.o,TH.o]
         rw[show jE S ((cv.map (·.1)).map (·.name)) (av.map (·.1)).length false p s6=_ from hr]
        obtain⟨l7,l8⟩:=LE.o _ _ hr;have l9:=zn zI S s'.i l8;clear hr TH LE HRW;go_wp2_with fail;refine(ZE h8 hi8 hS4).mono ?_;rintro e w9 ⟨rfl,h9,g9⟩;have h9':zO w9 w.heap.size S (s'.sk S) (-1) ((0:Nat):Int):=h9;go_wp2_with fail;go_roundw
        case rel=>exact⟨(B57.trans B8).trans (g9.below (by have:=B57.size;have:=B8.size;have:=B5.size;omega) (by simp)),Or.inl ⟨s'.sk S,F',_,_,_,_,_,_,m,h9',l9.2,hp8.kp g9,by simp only[St.sk];omega,by simp only[St.sk];omega,by rw[List.length_append];simp only[St.sk,List.length_singleton];omega,by simp only[St.sk];omega,by rw[HR2.o];simp⟩⟩
        case measure=>rw[hm0.o,h9'.penM];simp only[St.sk];omega
       ·have HR2:Hd (jA S= .error Dd):=by
         show _=_;rw[HRW.o,TH.o]
         rw[show jE S ((cv.map (·.1)).map (·.name)) (av.map (·.1)).length false p s6=_ from hr]
        clear hr TH LE HRW;go_wp2_with fail;refine(Yh h8).mono ?_;rintro e w9 ⟨rfl,h9,g9⟩;go_wp2_with fail;go_roundw
        case rel=>exact⟨(B57.trans B8).trans (g9.below (by have:=B57.size;have:=B8.size;have:=B5.size;omega) (by simp)),Or.inr ⟨Dd,h9,HR2.o⟩⟩
        case measure=>rw[hm0.o,h9.penM];omega
    ·have HR2:Hd (jA S= .ok (⟨sv.map (·.1),cv.map (·.1),av.map (·.1)⟩,s5)):=by
      obtain⟨m,rfl⟩:∃k,m=k+1:=⟨m - 1,by omega⟩
      show _=_;rw[hrw];simp only[jC,show ¬s5.i<S.size from by omega,if_false]
     clear hrw
     by_cases he:s5.e=0
     ·have q1:(s5.e !=0)=false:=by simp[he]
      have q2:(s5.e==0)=true:=by simp[he]
      have HC2:Hd (yX S=(0,0)):=by show _=_;rw[HC.o,HR2.o];simp[Yf,he]
      clear he;go_wp2_with fail;go_ret3;exact⟨B5,Or.inr ⟨HC2.o,w.heap.size,w.heap.size+1,F,vs,vc,va,sv,cv,av,s5,rfl,hp5,HR2.o⟩⟩
     ·have q1:(s5.e !=0)=true:=by simp[he]
      have q2:(s5.e==0)=false:=by simp[he]
      have HC2:Hd (yX S=(s5.e,s5.a)):=by show _=_;rw[HC.o,HR2.o];simp[Yf,he]
      have HE:=zC he;clear he;go_wp2_with fail;go_quiet (fail);go_wp2_with fail;go_ret3;exact⟨B5.trans ((Ch.drewN [] w5 _).below B5.size (by simp)),Or.inl ⟨by rw[HC2.o];intro e;simp at e;exact HE.o e.1,by rw[HC2.o];rfl⟩⟩
   ·obtain⟨s8,nest8,p8,hi8⟩:=id h5
    obtain⟨c0,c1,c2,c3,c4,c5,c6,fz⟩:=p8.fa
    have hd:¬(D:Int)<0:=by omega
    have HC2:Hd (yX S=(2,(D:Int))):=by show _=_;rw[HC.o,hrw];simp[Yf]
    clear hrw;go_wp2_with fail;go_quiet (fail);go_wp2_with fail;go_ret3;exact⟨B5.trans ((Ch.drewN [] w5 _).below B5.size (by simp)),Or.inl ⟨by rw[HC2.o];simp,by rw[HC2.o];rfl⟩⟩
end Go.Proofs.YteobgfbgglfkbaaGreat
