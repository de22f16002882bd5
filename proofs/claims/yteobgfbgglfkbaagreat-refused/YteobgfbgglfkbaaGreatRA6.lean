import Derived.Test.YteobgfbgglfkbaaGreatRA5
namespace Go.Proofs.YteobgfbgglfkbaaGreat
open Go.RowKit
attribute [local go_sem ↓] Go.wp_at_zero Go.wp_at_succ
def ReadPost(w:World)(S:ByteArray)(e:Ending)(w':World):Prop:=
 Below w.heap.size w w'∧((zAz S≠(0,0)∧e= .returned (.tuple #[.pointer none,.int .i64 (zAz S).1,.int .i64 (zAz S).2]))∨
  (zAz S=(0,0)∧∃b d F vs vc va sv cv av s,e= .returned (.tuple #[.pointer (some ⟨d,0,none⟩),.int .i64 0,.int .i64 0])∧zCh w' w.heap.size b d F vs vc va sv cv av∧polR S= .ok (⟨sv.map (·.1),cv.map (·.1),av.map (·.1)⟩,s)))
def zOH(S:ByteArray)(w w5:World):Prop:=
 Below w.heap.size w w5∧((∃(s5:St) (F:Nat→Prop) (vs vc va:Value) (sv:List (zAE×Value)) (cv:List (zAS×Value)) (av:List (zAU×Value)) (m:Nat),zAJ w5 w.heap.size S s5 (-1) ((0:Nat):Int)∧s5.i≤S.size∧zCh w5 w.heap.size w.heap.size (w.heap.size+1) F vs vc va sv cv av∧sv.length≤s5.i∧cv.length≤s5.i∧av.length≤s5.i∧S.size<m+s5.i∧polR S=zBe S m s5 ⟨sv.map (·.1),cv.map (·.1),av.map (·.1)⟩)∨
  (∃D,zAQ w5 w.heap.size S D∧polR S= .error D))
set_option maxHeartbeats 6400000 in
theorem Read_any{w:World}(S:ByteArray):Calls Tryz.prog 12 #[.string S] w (ReadPost w S):=by
 by_cases hS:400<S.size
 ·have hS':(400:Int)<S.size:=by omega
  have HC:Hid (zAz S=(1,0)):=by show _=_;simp [zAz,hS]
  go_enter Tryz.func12,Tryz.ntmps12;go_wp2_with fail;go_ret3;exact ⟨Below.refl _ _,Or.inl ⟨by rw [HC.out];decide,by rw [HC.out];rfl⟩⟩
 ·have hS':¬(400:Int)<S.size:=by omega
  have hS4:S.size≤400:=by omega
  have HC:Hid (zAz S=endE (polR S)):=by show _=_;simp [zAz,hS]
  clear hS;go_enter Tryz.func12,Tryz.ntmps12;go_wp2_with fail;have h0:zAJ ((w.alloc (.cells #[.string S,.int .i64 0,.int .i64 (-1),.int .i64 0,.int .i64 0,.int .i64 0,.int .i64 0] 91)).alloc (.cells #[.slice none 0 0,.slice none 0 0,.slice none 0 0] 41)) w.heap.size S st0 (-1) ((0:Nat):Int):=zAJ.keep (w:=w.alloc (.cells #[.string S,.int .i64 0,.int .i64 (-1),.int .i64 0,.int .i64 0,.int .i64 0,.int .i64 0] 91)) (zAH _ _) (Ch.alloc [] _ _) (by simp)
  have P0:zCh ((w.alloc (.cells #[.string S,.int .i64 0,.int .i64 (-1),.int .i64 0,.int .i64 0,.int .i64 0,.int .i64 0] 91)).alloc (.cells #[.slice none 0 0,.slice none 0 0,.slice none 0 0] 41)) w.heap.size w.heap.size (w.heap.size+1) (fun _=>False) (.slice none 0 0) (.slice none 0 0) (.slice none 0 0) [] [] []:=by
   have B0:=zAC.new (w.alloc (.cells #[.string S,.int .i64 0,.int .i64 (-1),.int .i64 0,.int .i64 0,.int .i64 0,.int .i64 0] 91)) #[.slice none 0 0,.slice none 0 0,.slice none 0 0] 41;rw [show (w.alloc (.cells #[.string S,.int .i64 0,.int .i64 (-1),.int .i64 0,.int .i64 0,.int .i64 0,.int .i64 0] 91)).heap.size=w.heap.size+1 from by simp] at B0;exact {blk:=B0,rs:=World.ownsRow_nil _ _ _ _,rc:=World.ownsRow_nil _ _ _ _,ra:=World.ownsRow_nil _ _ _ _,ps:=by simp,pc:=by simp,pa:=by simp,dlo:=by omega,bd:=by omega,ns:=by simp,nc:=by simp,na:=by simp,bs:=by simp [Value.ownBlock],bc:=by simp [Value.ownBlock],ba:=by simp [Value.ownBlock],f:=by simp}
  have g0:Below w.heap.size w ((w.alloc (.cells #[.string S,.int .i64 0,.int .i64 (-1),.int .i64 0,.int .i64 0,.int .i64 0,.int .i64 0] 91)).alloc (.cells #[.slice none 0 0,.slice none 0 0,.slice none 0 0] 41)):=((Ch.alloc [] w _).trans (Ch.alloc [] _ _)).below (by omega) (by simp);generalize (w.alloc (.cells #[.string S,.int .i64 0,.int .i64 (-1),.int .i64 0,.int .i64 0,.int .i64 0,.int .i64 0] 91)).alloc (.cells #[.slice none 0 0,.slice none 0 0,.slice none 0 0] 41)=w0 at *;refine (zAx h0 (by simp [st0]) hS4).mono ?_;rintro e w1 ⟨rfl,h1,g1⟩;have l1:=zAV isBl S st0.i (by simp [st0])
  have START:Hid (zOH S w w1):=by
   refine ⟨g0.trans (g1.below g0.size (by simp)),Or.inl ⟨st0.skip S,fun _=>False,_,_,_,[],[],[],S.size+1,h1,l1.2,P0.keep g1,by simp,by simp,by simp,by omega,rfl⟩⟩
  clear h1 h0 P0 g0 g1 l1;go_wp2_with fail
  go_loopw [7,8] (fun _ _ w5=>zOH S w w5) (fun _ _ w5=>penM w.heap.size S.size w5)
  case atStart=>exact START.out
  case round=>
   clear START;generalize wr=w5 at *;obtain ⟨B5,⟨s5,F,vs,vc,va,sv,cv,av,m,h5,hi5,hp5,n1,n2,n3,hm5,hrw⟩ | ⟨D,h5,hrw⟩⟩:=hrel
   ·obtain ⟨c0,c1,c2,c3,c4,c5,c6,fz⟩:=h5.facts
    by_cases hlt:(s5.i:Int)<S.size
    ·have hlt':s5.i<S.size:=by omega
     obtain ⟨m,rfl⟩:∃k,m=k+1:=⟨m - 1,by omega⟩;have hm0:Hid (penM w.heap.size S.size w5=S.size+1 - s5.i):=h5.penM;have h6:PS (w5.alloc (.cells (zCs.map Value.string).toArray 9)) w.heap.size S ((0:Nat):Int) (.ok s5):=PS.keep (σ:= .ok s5) ⟨h5,hi5⟩ (Ch.alloc [] _ _) (by simp);have hstr:zCX (w5.alloc (.cells (zCs.map Value.string).toArray 9)) w5.heap.size zCs:=zAH _ _;have zb:=h5.lt
     have HRW:Hid (polR S=match zAw S zCs s5 with
       |.error d=> .error d
       |.ok ((x,p),s1)=>
        match zA7 S x p ⟨sv.map (·.1),cv.map (·.1),av.map (·.1)⟩ s1 with
        |.error d=> .error d
        |.ok (D',s2)=>zBe S m (s2.skip S) D'):=by
      show _=_;rw [hrw];simp only [zBe,hlt',if_true];try rfl
     clear hrw;go_wp2_with fail;refine (zJ5 h6 hS4 hstr (by omega) (by decide) (zEi.1 rfl) 4 4 rfl).mono ?_;rintro e w7 ⟨a7,rfl,ha7,h7,g7⟩;have g57:Ch [w.heap.size] w5 w7:=(Ch.alloc _ w5 _).trans g7;have B57:Below w.heap.size w w7:=B5.trans (g57.below B5.size (by simp));have hp7:=hp5.keep g57;clear c0 c1 c2 c3 c4 c5 c6 fz hstr h6 g7;simp only [zAI] at ha7 h7 ⊢
     cases hw:zAw S zCs s5 with
     |error D=>
      have HR2:Hid (polR S= .error D):=by show _=_;rw [HRW.out,hw]
      rw [hw] at h7;have h7':zAQ w7 w.heap.size S D:=h7;simp only [valD];obtain ⟨q1,q2⟩:=zEs (X:=ByteArray.empty) rfl;clear hw ha7 h7 HRW;go_wp2_with fail;refine (zBS h7').mono ?_;rintro e w9 ⟨rfl,h9,g9⟩;go_wp2_with fail;go_roundw
      case rel=>exact ⟨B57.trans (g9.below B57.size (by simp)),Or.inr ⟨D,h9,HR2.out⟩⟩
      case measure=>rw [hm0.out,h9.penM];omega
     |ok q=>
      obtain ⟨⟨x,p⟩,s6⟩:=q
      have hx:x∈zCs:=by
       simp only [zAw] at hw
       split at hw
       ·rename_i hh
        simp at hw;rw [← hw.1.1];exact zBa.1 hh
       ·cases hw
      have l6:s5.i<s6.i∧s6.i≤S.size:=by
       have b1:=zGC hi5 hw;refine ⟨?_,b1.2⟩;have a1:=zAV isBl S s5.i hi5;have a2:=zAV isSm S _ a1.2;simp only [zAw] at hw
       split at hw
       ·simp at hw
        have hne:¬x.size=0:=by
         intro h0;simp only [zCs,List.mem_cons,List.not_mem_nil,or_false] at hx
         rcases hx with e | e | e | e <;>rw [e] at h0 <;>cases h0
        rw [← hw.1.1] at hne;simp at hne;rw [← hw.2];simp only;omega
       ·cases hw
      have hap:=ha7 x p s6 hw;subst hap;rw [hw] at h7;have h7':zAJ w7 w.heap.size S s6 (-1) ((0:Nat):Int):=h7.1
      have HRW2:Hid (polR S=match zA7 S x p ⟨sv.map (·.1),cv.map (·.1),av.map (·.1)⟩ s6 with
        |.error d=> .error d
        |.ok (D',s2)=>zBe S m (s2.skip S) D'):=by show _=_;rw [HRW.out,hw]
      clear HRW;have HRW:=HRW2;simp only [valD];clear hw ha7 h7 HRW2
      have eS:(sv.map (·.1)).map (·.name)=zBF sv:=by simp [zBF]
      have eC:(cv.map (·.1)).map (·.name)=zBG cv:=by simp [zBG]
      have eA:(av.map (·.1)).length=av.length:=by simp
      have ES:=hide eS;have EC:=hide eC;have EA:=hide eA;clear eS eC eA;simp only [zCs,List.mem_cons,List.not_mem_nil,or_false] at hx
      rcases hx with rfl | rfl | rfl | rfl
      ·unfold zCT at HRW ⊢
       have TH:Hid (zA7 S ⟨#[115,99,114,117,98]⟩ p ⟨sv.map (·.1),cv.map (·.1),av.map (·.1)⟩ s6=match zBs S ((sv.map (·.1)).map (·.name)) ((cv.map (·.1)).map (·.name)) p s6 with
         |.error d=> .error d
         |.ok (q,s2)=> .ok (⟨sv.map (·.1)++[q],cv.map (·.1),av.map (·.1)⟩,s2)):=by
        show _=_;rfl
       have LE:Hid (∀q s',zBs S ((sv.map (·.1)).map (·.name)) ((cv.map (·.1)).map (·.name)) p s6= .ok (q,s')→s6.i≤s'.i∧s'.i≤S.size):=fun q s' e=>zJb l6.2 e
       go_wp2_with fail;refine ((by rw [ES.out,EC.out];exact zNA h7' l6.2 hS4 hp7 (by omega) (Nat.le_refl _) p:Calls Tryz.prog 31 _ w7 (zG8 w7 w.heap.size w.heap.size (w.heap.size+1) S ((0:Nat):Int) vs vc va sv cv av (zBs S ((sv.map (·.1)).map (·.name)) ((cv.map (·.1)).map (·.name)) p s6)))).mono ?_;rintro e w8 ⟨rfl,B8,⟨D,s',vr,F',v',hr,h8,hi8,hp8⟩ | ⟨Dd,hr,h8⟩⟩
       ·have HR2:Hid (polR S=zBe S m (s'.skip S) ⟨sv.map (·.1)++[D],cv.map (·.1),av.map (·.1)⟩):=by
         show _=_;rw [HRW.out,TH.out]
         rw [show zBs S ((sv.map (·.1)).map (·.name)) ((cv.map (·.1)).map (·.name)) p s6=_ from hr]
        obtain ⟨l7,l8⟩:=LE.out _ _ hr;have l9:=zAV isBl S s'.i l8;clear hr TH LE HRW;go_wp2_with fail;refine (zAx h8 hi8 hS4).mono ?_;rintro e w9 ⟨rfl,h9,g9⟩;have h9':zAJ w9 w.heap.size S (s'.skip S) (-1) ((0:Nat):Int):=h9;go_wp2_with fail;go_roundw
        case rel=>exact ⟨(B57.trans B8).trans (g9.below (by have:=B57.size;have:=B8.size;have:=B5.size;omega) (by simp)),Or.inl ⟨s'.skip S,F',_,_,_,_,_,_,m,h9',l9.2,hp8.keep g9,by rw [List.length_append];simp only [St.skip,List.length_singleton];omega,by simp only [St.skip];omega,by simp only [St.skip];omega,by simp only [St.skip];omega,by rw [HR2.out];simp⟩⟩
        case measure=>rw [hm0.out,h9'.penM];simp only [St.skip];omega
       ·have HR2:Hid (polR S= .error Dd):=by
         show _=_;rw [HRW.out,TH.out]
         rw [show zBs S ((sv.map (·.1)).map (·.name)) ((cv.map (·.1)).map (·.name)) p s6=_ from hr]
        clear hr TH LE HRW;go_wp2_with fail;refine (zBS h8).mono ?_;rintro e w9 ⟨rfl,h9,g9⟩;go_wp2_with fail;go_roundw
        case rel=>exact ⟨(B57.trans B8).trans (g9.below (by have:=B57.size;have:=B8.size;have:=B5.size;omega) (by simp)),Or.inr ⟨Dd,h9,HR2.out⟩⟩
        case measure=>rw [hm0.out,h9.penM];omega
      ·unfold zCS at HRW ⊢
       have TH:Hid (zA7 S ⟨#[99,104,97,105,110]⟩ p ⟨sv.map (·.1),cv.map (·.1),av.map (·.1)⟩ s6=match zBu S ((sv.map (·.1)).map (·.name)) ((cv.map (·.1)).map (·.name)) p s6 with
         |.error d=> .error d
         |.ok (q,s2)=> .ok (⟨sv.map (·.1),cv.map (·.1)++[q],av.map (·.1)⟩,s2)):=by
        show _=_;rfl
       have LE:Hid (∀q s',zBu S ((sv.map (·.1)).map (·.name)) ((cv.map (·.1)).map (·.name)) p s6= .ok (q,s')→s6.i≤s'.i∧s'.i≤S.size):=fun q s' e=>zJp l6.2 e
       go_wp2_with fail;refine ((by rw [ES.out,EC.out];exact zMR h7' l6.2 hS4 hp7 (by omega) (Nat.le_refl _) p:Calls Tryz.prog 32 _ w7 (zG9 w7 w.heap.size w.heap.size (w.heap.size+1) S ((0:Nat):Int) vs vc va sv cv av (zBu S ((sv.map (·.1)).map (·.name)) ((cv.map (·.1)).map (·.name)) p s6)))).mono ?_;rintro e w8 ⟨rfl,B8,⟨D,s',vr,F',v',hr,h8,hi8,hp8⟩ | ⟨Dd,hr,h8⟩⟩
       ·have HR2:Hid (polR S=zBe S m (s'.skip S) ⟨sv.map (·.1),cv.map (·.1)++[D],av.map (·.1)⟩):=by
         show _=_;rw [HRW.out,TH.out]
         rw [show zBu S ((sv.map (·.1)).map (·.name)) ((cv.map (·.1)).map (·.name)) p s6=_ from hr]
        obtain ⟨l7,l8⟩:=LE.out _ _ hr;have l9:=zAV isBl S s'.i l8;clear hr TH LE HRW;go_wp2_with fail;refine (zAx h8 hi8 hS4).mono ?_;rintro e w9 ⟨rfl,h9,g9⟩;have h9':zAJ w9 w.heap.size S (s'.skip S) (-1) ((0:Nat):Int):=h9;go_wp2_with fail;go_roundw
        case rel=>exact ⟨(B57.trans B8).trans (g9.below (by have:=B57.size;have:=B8.size;have:=B5.size;omega) (by simp)),Or.inl ⟨s'.skip S,F',_,_,_,_,_,_,m,h9',l9.2,hp8.keep g9,by simp only [St.skip];omega,by rw [List.length_append];simp only [St.skip,List.length_singleton];omega,by simp only [St.skip];omega,by simp only [St.skip];omega,by rw [HR2.out];simp⟩⟩
        case measure=>rw [hm0.out,h9'.penM];simp only [St.skip];omega
       ·have HR2:Hid (polR S= .error Dd):=by
         show _=_;rw [HRW.out,TH.out]
         rw [show zBu S ((sv.map (·.1)).map (·.name)) ((cv.map (·.1)).map (·.name)) p s6=_ from hr]
        clear hr TH LE HRW;go_wp2_with fail;refine (zBS h8).mono ?_;rintro e w9 ⟨rfl,h9,g9⟩;go_wp2_with fail;go_roundw
        case rel=>exact ⟨(B57.trans B8).trans (g9.below (by have:=B57.size;have:=B8.size;have:=B5.size;omega) (by simp)),Or.inr ⟨Dd,h9,HR2.out⟩⟩
        case measure=>rw [hm0.out,h9.penM];omega
      ·unfold zB4 at HRW ⊢
       have TH:Hid (zA7 S ⟨#[110,101,118,101,114]⟩ p ⟨sv.map (·.1),cv.map (·.1),av.map (·.1)⟩ s6=match zBH S ((cv.map (·.1)).map (·.name)) (av.map (·.1)).length true p s6 with
         |.error d=> .error d
         |.ok (q,s2)=> .ok (⟨sv.map (·.1),cv.map (·.1),av.map (·.1)++[q]⟩,s2)):=by
        show _=_;rfl
       have LE:Hid (∀q s',zBH S ((cv.map (·.1)).map (·.name)) (av.map (·.1)).length true p s6= .ok (q,s')→s6.i≤s'.i∧s'.i≤S.size):=fun q s' e=>zGi l6.2 e
       go_wp2_with fail;refine ((by rw [EC.out,EA.out];exact zHa h7' l6.2 hS4 hp7 (by omega) (Nat.le_refl _) true p:Calls Tryz.prog 33 _ w7 (zE3 w7 w.heap.size w.heap.size (w.heap.size+1) S ((0:Nat):Int) vs vc va sv cv av (zBH S ((cv.map (·.1)).map (·.name)) (av.map (·.1)).length true p s6)))).mono ?_;rintro e w8 ⟨rfl,B8,⟨D,s',vr,F',v',hr,h8,hi8,hp8⟩ | ⟨Dd,hr,h8⟩⟩
       ·have HR2:Hid (polR S=zBe S m (s'.skip S) ⟨sv.map (·.1),cv.map (·.1),av.map (·.1)++[D]⟩):=by
         show _=_;rw [HRW.out,TH.out]
         rw [show zBH S ((cv.map (·.1)).map (·.name)) (av.map (·.1)).length true p s6=_ from hr]
        obtain ⟨l7,l8⟩:=LE.out _ _ hr;have l9:=zAV isBl S s'.i l8;clear hr TH LE HRW;go_wp2_with fail;refine (zAx h8 hi8 hS4).mono ?_;rintro e w9 ⟨rfl,h9,g9⟩;have h9':zAJ w9 w.heap.size S (s'.skip S) (-1) ((0:Nat):Int):=h9;go_wp2_with fail;go_roundw
        case rel=>exact ⟨(B57.trans B8).trans (g9.below (by have:=B57.size;have:=B8.size;have:=B5.size;omega) (by simp)),Or.inl ⟨s'.skip S,F',_,_,_,_,_,_,m,h9',l9.2,hp8.keep g9,by simp only [St.skip];omega,by simp only [St.skip];omega,by rw [List.length_append];simp only [St.skip,List.length_singleton];omega,by simp only [St.skip];omega,by rw [HR2.out];simp⟩⟩
        case measure=>rw [hm0.out,h9'.penM];simp only [St.skip];omega
       ·have HR2:Hid (polR S= .error Dd):=by
         show _=_;rw [HRW.out,TH.out]
         rw [show zBH S ((cv.map (·.1)).map (·.name)) (av.map (·.1)).length true p s6=_ from hr]
        clear hr TH LE HRW;go_wp2_with fail;refine (zBS h8).mono ?_;rintro e w9 ⟨rfl,h9,g9⟩;go_wp2_with fail;go_roundw
        case rel=>exact ⟨(B57.trans B8).trans (g9.below (by have:=B57.size;have:=B8.size;have:=B5.size;omega) (by simp)),Or.inr ⟨Dd,h9,HR2.out⟩⟩
        case measure=>rw [hm0.out,h9.penM];omega
      ·unfold zEz at HRW ⊢
       have TH:Hid (zA7 S ⟨#[115,97,109,101]⟩ p ⟨sv.map (·.1),cv.map (·.1),av.map (·.1)⟩ s6=match zBH S ((cv.map (·.1)).map (·.name)) (av.map (·.1)).length false p s6 with
         |.error d=> .error d
         |.ok (q,s2)=> .ok (⟨sv.map (·.1),cv.map (·.1),av.map (·.1)++[q]⟩,s2)):=by
        show _=_;rfl
       have LE:Hid (∀q s',zBH S ((cv.map (·.1)).map (·.name)) (av.map (·.1)).length false p s6= .ok (q,s')→s6.i≤s'.i∧s'.i≤S.size):=fun q s' e=>zGi l6.2 e
       go_wp2_with fail;refine ((by rw [EC.out,EA.out];exact zHa h7' l6.2 hS4 hp7 (by omega) (Nat.le_refl _) false p:Calls Tryz.prog 33 _ w7 (zE3 w7 w.heap.size w.heap.size (w.heap.size+1) S ((0:Nat):Int) vs vc va sv cv av (zBH S ((cv.map (·.1)).map (·.name)) (av.map (·.1)).length false p s6)))).mono ?_;rintro e w8 ⟨rfl,B8,⟨D,s',vr,F',v',hr,h8,hi8,hp8⟩ | ⟨Dd,hr,h8⟩⟩
       ·have HR2:Hid (polR S=zBe S m (s'.skip S) ⟨sv.map (·.1),cv.map (·.1),av.map (·.1)++[D]⟩):=by
         show _=_;rw [HRW.out,TH.out]
         rw [show zBH S ((cv.map (·.1)).map (·.name)) (av.map (·.1)).length false p s6=_ from hr]
        obtain ⟨l7,l8⟩:=LE.out _ _ hr;have l9:=zAV isBl S s'.i l8;clear hr TH LE HRW;go_wp2_with fail;refine (zAx h8 hi8 hS4).mono ?_;rintro e w9 ⟨rfl,h9,g9⟩;have h9':zAJ w9 w.heap.size S (s'.skip S) (-1) ((0:Nat):Int):=h9;go_wp2_with fail;go_roundw
        case rel=>exact ⟨(B57.trans B8).trans (g9.below (by have:=B57.size;have:=B8.size;have:=B5.size;omega) (by simp)),Or.inl ⟨s'.skip S,F',_,_,_,_,_,_,m,h9',l9.2,hp8.keep g9,by simp only [St.skip];omega,by simp only [St.skip];omega,by rw [List.length_append];simp only [St.skip,List.length_singleton];omega,by simp only [St.skip];omega,by rw [HR2.out];simp⟩⟩
        case measure=>rw [hm0.out,h9'.penM];simp only [St.skip];omega
       ·have HR2:Hid (polR S= .error Dd):=by
         show _=_;rw [HRW.out,TH.out]
         rw [show zBH S ((cv.map (·.1)).map (·.name)) (av.map (·.1)).length false p s6=_ from hr]
        clear hr TH LE HRW;go_wp2_with fail;refine (zBS h8).mono ?_;rintro e w9 ⟨rfl,h9,g9⟩;go_wp2_with fail;go_roundw
        case rel=>exact ⟨(B57.trans B8).trans (g9.below (by have:=B57.size;have:=B8.size;have:=B5.size;omega) (by simp)),Or.inr ⟨Dd,h9,HR2.out⟩⟩
        case measure=>rw [hm0.out,h9.penM];omega
    ·have HR2:Hid (polR S= .ok (⟨sv.map (·.1),cv.map (·.1),av.map (·.1)⟩,s5)):=by
      obtain ⟨m,rfl⟩:∃k,m=k+1:=⟨m - 1,by omega⟩
      show _=_;rw [hrw];simp only [zBe,show ¬s5.i<S.size from by omega,if_false]
     clear hrw
     by_cases he:s5.e=0
     ·have q1:(s5.e !=0)=false:=by simp [he]
      have q2:(s5.e==0)=true:=by simp [he]
      have HC2:Hid (zAz S=(0,0)):=by show _=_;rw [HC.out,HR2.out];simp [endE,he]
      clear he;go_wp2_with fail;go_ret3;exact ⟨B5,Or.inr ⟨HC2.out,w.heap.size,w.heap.size+1,F,vs,vc,va,sv,cv,av,s5,rfl,hp5,HR2.out⟩⟩
     ·have q1:(s5.e !=0)=true:=by simp [he]
      have q2:(s5.e==0)=false:=by simp [he]
      have HC2:Hid (zAz S=(s5.e,s5.a)):=by show _=_;rw [HC.out,HR2.out];simp [endE,he]
      have HE:=hide he;clear he;go_wp2_with fail;go_quiet (fail);go_wp2_with fail;go_ret3;exact ⟨B5.trans ((Ch.drewN [] w5 _).below B5.size (by simp)),Or.inl ⟨by rw [HC2.out];intro e;simp at e;exact HE.out e.1,by rw [HC2.out];rfl⟩⟩
   ·obtain ⟨s8,nest8,p8,hi8⟩:=id h5
    obtain ⟨c0,c1,c2,c3,c4,c5,c6,fz⟩:=p8.facts
    have hd:¬(D:Int)<0:=by omega
    have HC2:Hid (zAz S=(2,(D:Int))):=by show _=_;rw [HC.out,hrw];simp [endE]
    clear hrw;go_wp2_with fail;go_quiet (fail);go_wp2_with fail;go_ret3;exact ⟨B5.trans ((Ch.drewN [] w5 _).below B5.size (by simp)),Or.inl ⟨by rw [HC2.out];simp,by rw [HC2.out];rfl⟩⟩
end Go.Proofs.YteobgfbgglfkbaaGreat
namespace Go.Proofs.YteobgfbgglfkbaaGreat
open Go.RowKit
attribute [local go_sem ↓] Go.wp_at_zero Go.wp_at_succ
set_option maxHeartbeats 400000 in
theorem zMn{w:World}(S:ByteArray):Calls Tryz.prog 17 #[.string S] w fun e w'=>e= .returned (.tuple #[.int .i64 (zAz S).1,.int .i64 (zAz S).2])∧Below w.heap.size w w':=by
 go_enter Tryz.func17,Tryz.ntmps17;go_wp2_with fail;refine (Read_any S).mono ?_;rintro e w1 ⟨B1,⟨_,rfl⟩ | ⟨hc,b,d,F,vs,vc,va,sv,cv,av,s,rfl,_,_⟩⟩
 ·go_wp2_with fail
  go_ret2;exact ⟨rfl,B1⟩
 ·have HC:=hide hc
  clear hc;go_wp2_with fail;go_ret2;exact ⟨by rw [HC.out];rfl,B1⟩
def SoloPost(w:World)(S:ByteArray)(e:Ending)(w':World):Prop:=
 Below w.heap.size w w'∧((zBz S≠(0,0)∧e= .returned (.tuple #[.pointer none,.int .i64 (zBz S).1,.int .i64 (zBz S).2]))∨
  (zBz S=(0,0)∧∃nb h F L s,e= .returned (.tuple #[.pointer (some ⟨nb,0,none⟩),.int .i64 0,.int .i64 0])∧zBA w' F h nb L∧(∀k,F k→w.heap.size≤k∧k<w'.heap.size)∧zCC S= .ok (L,s)))
set_option maxHeartbeats 800000 in
theorem zFJ{w:World}(S:ByteArray):Calls Tryz.prog 35 #[.string S] w (SoloPost w S):=by
 by_cases hS:400<S.size
 ·have hS':(400:Int)<S.size:=by omega
  have HC:Hid (zBz S=(1,0)):=by show _=_;simp [zBz,hS]
  go_enter Tryz.func35,Tryz.ntmps35;go_wp2_with fail;go_ret3;exact ⟨Below.refl _ _,Or.inl ⟨by rw [HC.out];decide,by rw [HC.out];rfl⟩⟩
 ·have hS':¬(400:Int)<S.size:=by omega
  have hS4:S.size≤400:=by omega
  have HC:Hid (zBz S=endE (zCC S)):=by show _=_;simp [zBz,hS]
  clear hS;have h0:zAJ (w.alloc (.cells #[.string S,.int .i64 0,.int .i64 (-1),.int .i64 0,.int .i64 0,.int .i64 0,.int .i64 0] 91)) w.heap.size S st0 (-1) ((0:Nat):Int):=zAH _ _;have g0:Ch [] w (w.alloc (.cells #[.string S,.int .i64 0,.int .i64 (-1),.int .i64 0,.int .i64 0,.int .i64 0,.int .i64 0] 91)):=Ch.alloc _ _ _
  have z0:(w.alloc (.cells #[.string S,.int .i64 0,.int .i64 (-1),.int .i64 0,.int .i64 0,.int .i64 0,.int .i64 0] 91)).heap.size=w.heap.size+1:=by simp
  go_enter Tryz.func35,Tryz.ntmps35;go_wp2_with fail;generalize w.alloc (.cells #[.string S,.int .i64 0,.int .i64 (-1),.int .i64 0,.int .i64 0,.int .i64 0,.int .i64 0] 91)=w0 at *;refine (zH4 hS4 (S.size+1) w0 w.heap.size st0 0 h0 ⟨by simp [st0],by simp [st0],by simp [st0],by simp [st0]⟩ (by omega)).mono ?_;rintro e w1 ⟨g1,⟨L,s1,nb,hh,F,hr,rfl,h1,R1,F1,m1,I1⟩ | ⟨D,nb,hr,rfl,h1⟩⟩
  ·have B1:Below w.heap.size w w1:=(g0.below (by omega) (by simp)).trans (g1.below (by omega) (by simp))
   have hi1:=I1.i;obtain ⟨c0,c1,c2,c3,c4,c5,c6,fz⟩:=h1.facts
   by_cases hlt:(s1.i:Int)<S.size
   ·have HR:Hid (zCC S= .error s1.i):=by show _=_;simp only [zCC,hr,show s1.i<S.size from by omega,if_true]
    have HC2:Hid (zBz S=(2,(s1.i:Int))):=by show _=_;rw [HC.out,HR.out];simp [endE]
    clear hr;go_wp2_with fail;refine (zCW h1).mono ?_;rintro e w2 ⟨rfl,h2,g2⟩;clear c0 c1 c2 c3 c4 c5 c6 fz;obtain ⟨c0,c1,c2,c3,c4,c5,c6,fz⟩:=h2.facts
    have hd:¬(s1.i:Int)<0:=by omega
    go_wp2_with fail;go_quiet (fail);go_wp2_with fail;go_ret3;exact ⟨B1.trans ((g2.below (by have:=B1.size;omega) (by simp)).trans ((Ch.drewN [] w2 _).below (by have:=g2.size;have:=B1.size;omega) (by simp))),Or.inl ⟨by rw [HC2.out];simp,by rw [HC2.out];rfl⟩⟩
   ·have HR:Hid (zCC S= .ok (L,s1)):=by show _=_;simp only [zCC,hr,show ¬s1.i<S.size from by omega,if_false]
    clear hr
    by_cases he:s1.e=0
    ·have q1:(s1.e !=0)=false:=by simp [he]
     have q2:(s1.e==0)=true:=by simp [he]
     have HC2:Hid (zBz S=(0,0)):=by show _=_;rw [HC.out,HR.out];simp [endE,he]
     clear he;go_wp2_with fail;go_ret3;exact ⟨B1,Or.inr ⟨HC2.out,nb,hh,F,L,s1,rfl,R1,fun k hk=>⟨by have:=F1 k hk;omega,(F1 k hk).2⟩,HR.out⟩⟩
    ·have q1:(s1.e !=0)=true:=by simp [he]
     have q2:(s1.e==0)=false:=by simp [he]
     have HC2:Hid (zBz S=(s1.e,s1.a)):=by show _=_;rw [HC.out,HR.out];simp [endE,he]
     have HE:=hide he;clear he;go_wp2_with fail;go_quiet (fail);go_wp2_with fail;go_ret3;exact ⟨B1.trans ((Ch.drewN [] w1 _).below B1.size (by simp)),Or.inl ⟨by rw [HC2.out];intro e;simp at e;exact HE.out e.1,by rw [HC2.out];rfl⟩⟩
  ·have B1:Below w.heap.size w w1:=(g0.below (by omega) (by simp)).trans (g1.below (by omega) (by simp))
   have HR:Hid (zCC S= .error D):=by show _=_;simp only [zCC,hr]
   have HC2:Hid (zBz S=(2,(D:Int))):=by show _=_;rw [HC.out,HR.out];simp [endE]
   obtain ⟨s8,nest8,p8,hi8⟩:=id h1;obtain ⟨c0,c1,c2,c3,c4,c5,c6,fz⟩:=p8.facts
   have hd:¬(D:Int)<0:=by omega
   have hd':decide ((D:Int)<0)=false:=by simp
   clear hr;go_wp2_with fail;go_quiet (fail);go_wp2_with fail;go_ret3;exact ⟨B1.trans ((Ch.drewN [] w1 _).below B1.size (by simp)),Or.inl ⟨by rw [HC2.out];simp,by rw [HC2.out];rfl⟩⟩
end Go.Proofs.YteobgfbgglfkbaaGreat
