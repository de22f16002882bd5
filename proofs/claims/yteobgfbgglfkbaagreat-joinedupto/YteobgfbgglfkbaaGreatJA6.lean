import Derived.Test.YteobgfbgglfkbaaGreatJA5
namespace Go.Proofs.YteobgfbgglfkbaaGreat
open Go.RowKit
attribute [local go_sem ↓] Go.wp_at_zero Go.wp_at_succ
def ReadPost(w:World)(S:ByteArray)(e:Ending)(w':World):Prop:=
 Below w.heap.size w w'∧((zAg S≠(0,0)∧e= .returned (.tuple #[.pointer none,.int .i64 (zAg S).1,.int .i64 (zAg S).2]))∨
  (zAg S=(0,0)∧∃b d F vs vc va sv cv av s,e= .returned (.tuple #[.pointer (some ⟨d,0,none⟩),.int .i64 0,.int .i64 0])∧zCj w' w.heap.size b d F vs vc va sv cv av∧polR S= .ok (⟨sv.map (·.1),cv.map (·.1),av.map (·.1)⟩,s)))
def zNQ(S:ByteArray)(w w5:World):Prop:=
 Below w.heap.size w w5∧((∃(s5:St) (F:Nat→Prop) (vs vc va:Value) (sv:List (zAE×Value)) (cv:List (zAQ×Value)) (av:List (zAU×Value)) (m:Nat),zAL w5 w.heap.size S s5 (-1) ((0:Nat):Int)∧s5.i≤S.size∧zCj w5 w.heap.size w.heap.size (w.heap.size+1) F vs vc va sv cv av∧sv.length≤s5.i∧cv.length≤s5.i∧av.length≤s5.i∧S.size<m+s5.i∧polR S=zB7 S m s5 ⟨sv.map (·.1),cv.map (·.1),av.map (·.1)⟩)∨
  (∃D,zAP w5 w.heap.size S D∧polR S= .error D))
set_option maxHeartbeats 6400000 in
theorem Read_any{w:World}(S:ByteArray):Calls Tryz.prog 12 #[.string S] w (ReadPost w S):=by
 by_cases hS:400<S.size
 ·have hS':(400:Int)<S.size:=by omega
  have HC:Hid (zAg S=(1,0)):=by show _=_;simp [zAg,hS]
  go_enter Tryz.func12,Tryz.ntmps12;go_wp2_with fail;go_ret3;exact ⟨Below.refl _ _,Or.inl ⟨by rw [HC.out];decide,by rw [HC.out];rfl⟩⟩
 ·have hS':¬(400:Int)<S.size:=by omega
  have hS4:S.size≤400:=by omega
  have HC:Hid (zAg S=endE (polR S)):=by show _=_;simp [zAg,hS]
  clear hS;go_enter Tryz.func12,Tryz.ntmps12;go_wp2_with fail;have h0:zAL ((w.alloc (.cells #[.string S,.int .i64 0,.int .i64 (-1),.int .i64 0,.int .i64 0,.int .i64 0,.int .i64 0] 91)).alloc (.cells #[.slice none 0 0,.slice none 0 0,.slice none 0 0] 41)) w.heap.size S st0 (-1) ((0:Nat):Int):=zAL.keep (w:=w.alloc (.cells #[.string S,.int .i64 0,.int .i64 (-1),.int .i64 0,.int .i64 0,.int .i64 0,.int .i64 0] 91)) (zAH _ _) (Ch.alloc [] _ _) (by simp)
  have P0:zCj ((w.alloc (.cells #[.string S,.int .i64 0,.int .i64 (-1),.int .i64 0,.int .i64 0,.int .i64 0,.int .i64 0] 91)).alloc (.cells #[.slice none 0 0,.slice none 0 0,.slice none 0 0] 41)) w.heap.size w.heap.size (w.heap.size+1) (fun _=>False) (.slice none 0 0) (.slice none 0 0) (.slice none 0 0) [] [] []:=by
   have B0:=zAD.new (w.alloc (.cells #[.string S,.int .i64 0,.int .i64 (-1),.int .i64 0,.int .i64 0,.int .i64 0,.int .i64 0] 91)) #[.slice none 0 0,.slice none 0 0,.slice none 0 0] 41;rw [show (w.alloc (.cells #[.string S,.int .i64 0,.int .i64 (-1),.int .i64 0,.int .i64 0,.int .i64 0,.int .i64 0] 91)).heap.size=w.heap.size+1 from by simp] at B0;exact {blk:=B0,rs:=World.ownsRow_nil _ _ _ _,rc:=World.ownsRow_nil _ _ _ _,ra:=World.ownsRow_nil _ _ _ _,ps:=by simp,pc:=by simp,pa:=by simp,dlo:=by omega,bd:=by omega,ns:=by simp,nc:=by simp,na:=by simp,bs:=by simp [Value.ownBlock],bc:=by simp [Value.ownBlock],ba:=by simp [Value.ownBlock],f:=by simp}
  have g0:Below w.heap.size w ((w.alloc (.cells #[.string S,.int .i64 0,.int .i64 (-1),.int .i64 0,.int .i64 0,.int .i64 0,.int .i64 0] 91)).alloc (.cells #[.slice none 0 0,.slice none 0 0,.slice none 0 0] 41)):=((Ch.alloc [] w _).trans (Ch.alloc [] _ _)).below (by omega) (by simp);generalize (w.alloc (.cells #[.string S,.int .i64 0,.int .i64 (-1),.int .i64 0,.int .i64 0,.int .i64 0,.int .i64 0] 91)).alloc (.cells #[.slice none 0 0,.slice none 0 0,.slice none 0 0] 41)=w0 at *;refine (zAs h0 (by simp [st0]) hS4).mono ?_;rintro e w1 ⟨rfl,h1,g1⟩;have l1:=zAW isBl S st0.i (by simp [st0])
  have START:Hid (zNQ S w w1):=by
   refine ⟨g0.trans (g1.below g0.size (by simp)),Or.inl ⟨st0.skip S,fun _=>False,_,_,_,[],[],[],S.size+1,h1,l1.2,P0.keep g1,by simp,by simp,by simp,by omega,rfl⟩⟩
  clear h1 h0 P0 g0 g1 l1;go_wp2_with fail
  go_loopw [7,8] (fun _ _ w5=>zNQ S w w5) (fun _ _ w5=>penM w.heap.size S.size w5)
  case atStart=>exact START.out
  case round=>
   clear START;generalize wr=w5 at *;obtain ⟨B5,⟨s5,F,vs,vc,va,sv,cv,av,m,h5,hi5,hp5,n1,n2,n3,hm5,hrw⟩ | ⟨D,h5,hrw⟩⟩:=hrel
   ·obtain ⟨c0,c1,c2,c3,c4,c5,c6,fz⟩:=h5.facts
    by_cases hlt:(s5.i:Int)<S.size
    ·have hlt':s5.i<S.size:=by omega
     obtain ⟨m,rfl⟩:∃k,m=k+1:=⟨m - 1,by omega⟩;have hm0:Hid (penM w.heap.size S.size w5=S.size+1 - s5.i):=h5.penM;have h6:PS (w5.alloc (.cells (zEC.map Value.string).toArray 9)) w.heap.size S ((0:Nat):Int) (.ok s5):=PS.keep (σ:= .ok s5) ⟨h5,hi5⟩ (Ch.alloc [] _ _) (by simp);have hstr:zCT (w5.alloc (.cells (zEC.map Value.string).toArray 9)) w5.heap.size zEC:=zAH _ _;have zb:=h5.lt
     have HRW:Hid (polR S=match zBF S zEC s5 with
       |.error d=> .error d
       |.ok ((x,p),s1)=>
        match zBP S x p ⟨sv.map (·.1),cv.map (·.1),av.map (·.1)⟩ s1 with
        |.error d=> .error d
        |.ok (D',s2)=>zB7 S m (s2.skip S) D'):=by
      show _=_;rw [hrw];simp only [zB7,hlt',if_true];try rfl
     clear hrw;go_wp2_with fail;refine (zIv h6 hS4 hstr (by omega) (by decide) (zEi.1 rfl) 4 4 rfl).mono ?_;rintro e w7 ⟨a7,rfl,ha7,h7,g7⟩;have g57:Ch [w.heap.size] w5 w7:=(Ch.alloc _ w5 _).trans g7;have B57:Below w.heap.size w w7:=B5.trans (g57.below B5.size (by simp));have hp7:=hp5.keep g57;clear c0 c1 c2 c3 c4 c5 c6 fz hstr h6 g7;simp only [zAK] at ha7 h7 ⊢
     cases hw:zBF S zEC s5 with
     |error D=>
      have HR2:Hid (polR S= .error D):=by show _=_;rw [HRW.out,hw]
      rw [hw] at h7;have h7':zAP w7 w.heap.size S D:=h7;simp only [valD];obtain ⟨q1,q2⟩:=zEa (X:=ByteArray.empty) rfl;clear hw ha7 h7 HRW;go_wp2_with fail;refine (zBU h7').mono ?_;rintro e w9 ⟨rfl,h9,g9⟩;go_wp2_with fail;go_roundw
      case rel=>exact ⟨B57.trans (g9.below B57.size (by simp)),Or.inr ⟨D,h9,HR2.out⟩⟩
      case measure=>rw [hm0.out,h9.penM];omega
     |ok q=>
      obtain ⟨⟨x,p⟩,s6⟩:=q
      have hx:x∈zEC:=by
       simp only [zBF] at hw
       split at hw
       ·rename_i hh
        simp at hw;rw [← hw.1.1];exact zBY.1 hh
       ·cases hw
      have l6:s5.i<s6.i∧s6.i≤S.size:=by
       have b1:=zFx hi5 hw;refine ⟨?_,b1.2⟩;have a1:=zAW isBl S s5.i hi5;have a2:=zAW isSm S _ a1.2;simp only [zBF] at hw
       split at hw
       ·simp at hw
        have hne:¬x.size=0:=by
         intro h0;simp only [zEC,List.mem_cons,List.not_mem_nil,or_false] at hx
         rcases hx with e | e | e | e <;>rw [e] at h0 <;>cases h0
        rw [← hw.1.1] at hne;simp at hne;rw [← hw.2];simp only;omega
       ·cases hw
      have hap:=ha7 x p s6 hw;subst hap;rw [hw] at h7;have h7':zAL w7 w.heap.size S s6 (-1) ((0:Nat):Int):=h7.1
      have HRW2:Hid (polR S=match zBP S x p ⟨sv.map (·.1),cv.map (·.1),av.map (·.1)⟩ s6 with
        |.error d=> .error d
        |.ok (D',s2)=>zB7 S m (s2.skip S) D'):=by show _=_;rw [HRW.out,hw]
      clear HRW;have HRW:=HRW2;simp only [valD];clear hw ha7 h7 HRW2
      have eS:(sv.map (·.1)).map (·.name)=zBD sv:=by simp [zBD]
      have eC:(cv.map (·.1)).map (·.name)=zBE cv:=by simp [zBE]
      have eA:(av.map (·.1)).length=av.length:=by simp
      have ES:=hide eS;have EC:=hide eC;have EA:=hide eA;clear eS eC eA;simp only [zEC,List.mem_cons,List.not_mem_nil,or_false] at hx
      rcases hx with rfl | rfl | rfl | rfl
      ·unfold zCf at HRW ⊢
       have TH:Hid (zBP S ⟨#[115,99,114,117,98]⟩ p ⟨sv.map (·.1),cv.map (·.1),av.map (·.1)⟩ s6=match zB0 S ((sv.map (·.1)).map (·.name)) ((cv.map (·.1)).map (·.name)) p s6 with
         |.error d=> .error d
         |.ok (q,s2)=> .ok (⟨sv.map (·.1)++[q],cv.map (·.1),av.map (·.1)⟩,s2)):=by
        show _=_;rfl
       have LE:Hid (∀q s',zB0 S ((sv.map (·.1)).map (·.name)) ((cv.map (·.1)).map (·.name)) p s6= .ok (q,s')→s6.i≤s'.i∧s'.i≤S.size):=fun q s' e=>zIX l6.2 e
       go_wp2_with fail;refine ((by rw [ES.out,EC.out];exact zMI h7' l6.2 hS4 hp7 (by omega) (Nat.le_refl _) p:Calls Tryz.prog 31 _ w7 (zGG w7 w.heap.size w.heap.size (w.heap.size+1) S ((0:Nat):Int) vs vc va sv cv av (zB0 S ((sv.map (·.1)).map (·.name)) ((cv.map (·.1)).map (·.name)) p s6)))).mono ?_;rintro e w8 ⟨rfl,B8,⟨D,s',vr,F',v',hr,h8,hi8,hp8⟩ | ⟨Dd,hr,h8⟩⟩
       ·have HR2:Hid (polR S=zB7 S m (s'.skip S) ⟨sv.map (·.1)++[D],cv.map (·.1),av.map (·.1)⟩):=by
         show _=_;rw [HRW.out,TH.out]
         rw [show zB0 S ((sv.map (·.1)).map (·.name)) ((cv.map (·.1)).map (·.name)) p s6=_ from hr]
        obtain ⟨l7,l8⟩:=LE.out _ _ hr;have l9:=zAW isBl S s'.i l8;clear hr TH LE HRW;go_wp2_with fail;refine (zAs h8 hi8 hS4).mono ?_;rintro e w9 ⟨rfl,h9,g9⟩;have h9':zAL w9 w.heap.size S (s'.skip S) (-1) ((0:Nat):Int):=h9;go_wp2_with fail;go_roundw
        case rel=>exact ⟨(B57.trans B8).trans (g9.below (by have:=B57.size;have:=B8.size;have:=B5.size;omega) (by simp)),Or.inl ⟨s'.skip S,F',_,_,_,_,_,_,m,h9',l9.2,hp8.keep g9,by rw [List.length_append];simp only [St.skip,List.length_singleton];omega,by simp only [St.skip];omega,by simp only [St.skip];omega,by simp only [St.skip];omega,by rw [HR2.out];simp⟩⟩
        case measure=>rw [hm0.out,h9'.penM];simp only [St.skip];omega
       ·have HR2:Hid (polR S= .error Dd):=by
         show _=_;rw [HRW.out,TH.out]
         rw [show zB0 S ((sv.map (·.1)).map (·.name)) ((cv.map (·.1)).map (·.name)) p s6=_ from hr]
        clear hr TH LE HRW;go_wp2_with fail;refine (zBU h8).mono ?_;rintro e w9 ⟨rfl,h9,g9⟩;go_wp2_with fail;go_roundw
        case rel=>exact ⟨(B57.trans B8).trans (g9.below (by have:=B57.size;have:=B8.size;have:=B5.size;omega) (by simp)),Or.inr ⟨Dd,h9,HR2.out⟩⟩
        case measure=>rw [hm0.out,h9.penM];omega
      ·unfold zCm at HRW ⊢
       have TH:Hid (zBP S ⟨#[99,104,97,105,110]⟩ p ⟨sv.map (·.1),cv.map (·.1),av.map (·.1)⟩ s6=match zBm S ((sv.map (·.1)).map (·.name)) ((cv.map (·.1)).map (·.name)) p s6 with
         |.error d=> .error d
         |.ok (q,s2)=> .ok (⟨sv.map (·.1),cv.map (·.1)++[q],av.map (·.1)⟩,s2)):=by
        show _=_;rfl
       have LE:Hid (∀q s',zBm S ((sv.map (·.1)).map (·.name)) ((cv.map (·.1)).map (·.name)) p s6= .ok (q,s')→s6.i≤s'.i∧s'.i≤S.size):=fun q s' e=>zI7 l6.2 e
       go_wp2_with fail;refine ((by rw [ES.out,EC.out];exact zMA h7' l6.2 hS4 hp7 (by omega) (Nat.le_refl _) p:Calls Tryz.prog 32 _ w7 (zGA w7 w.heap.size w.heap.size (w.heap.size+1) S ((0:Nat):Int) vs vc va sv cv av (zBm S ((sv.map (·.1)).map (·.name)) ((cv.map (·.1)).map (·.name)) p s6)))).mono ?_;rintro e w8 ⟨rfl,B8,⟨D,s',vr,F',v',hr,h8,hi8,hp8⟩ | ⟨Dd,hr,h8⟩⟩
       ·have HR2:Hid (polR S=zB7 S m (s'.skip S) ⟨sv.map (·.1),cv.map (·.1)++[D],av.map (·.1)⟩):=by
         show _=_;rw [HRW.out,TH.out]
         rw [show zBm S ((sv.map (·.1)).map (·.name)) ((cv.map (·.1)).map (·.name)) p s6=_ from hr]
        obtain ⟨l7,l8⟩:=LE.out _ _ hr;have l9:=zAW isBl S s'.i l8;clear hr TH LE HRW;go_wp2_with fail;refine (zAs h8 hi8 hS4).mono ?_;rintro e w9 ⟨rfl,h9,g9⟩;have h9':zAL w9 w.heap.size S (s'.skip S) (-1) ((0:Nat):Int):=h9;go_wp2_with fail;go_roundw
        case rel=>exact ⟨(B57.trans B8).trans (g9.below (by have:=B57.size;have:=B8.size;have:=B5.size;omega) (by simp)),Or.inl ⟨s'.skip S,F',_,_,_,_,_,_,m,h9',l9.2,hp8.keep g9,by simp only [St.skip];omega,by rw [List.length_append];simp only [St.skip,List.length_singleton];omega,by simp only [St.skip];omega,by simp only [St.skip];omega,by rw [HR2.out];simp⟩⟩
        case measure=>rw [hm0.out,h9'.penM];simp only [St.skip];omega
       ·have HR2:Hid (polR S= .error Dd):=by
         show _=_;rw [HRW.out,TH.out]
         rw [show zBm S ((sv.map (·.1)).map (·.name)) ((cv.map (·.1)).map (·.name)) p s6=_ from hr]
        clear hr TH LE HRW;go_wp2_with fail;refine (zBU h8).mono ?_;rintro e w9 ⟨rfl,h9,g9⟩;go_wp2_with fail;go_roundw
        case rel=>exact ⟨(B57.trans B8).trans (g9.below (by have:=B57.size;have:=B8.size;have:=B5.size;omega) (by simp)),Or.inr ⟨Dd,h9,HR2.out⟩⟩
        case measure=>rw [hm0.out,h9.penM];omega
      ·unfold zCL at HRW ⊢
       have TH:Hid (zBP S ⟨#[110,101,118,101,114]⟩ p ⟨sv.map (·.1),cv.map (·.1),av.map (·.1)⟩ s6=match zBG S ((cv.map (·.1)).map (·.name)) (av.map (·.1)).length true p s6 with
         |.error d=> .error d
         |.ok (q,s2)=> .ok (⟨sv.map (·.1),cv.map (·.1),av.map (·.1)++[q]⟩,s2)):=by
        show _=_;rfl
       have LE:Hid (∀q s',zBG S ((cv.map (·.1)).map (·.name)) (av.map (·.1)).length true p s6= .ok (q,s')→s6.i≤s'.i∧s'.i≤S.size):=fun q s' e=>zF7 l6.2 e
       go_wp2_with fail;refine ((by rw [EC.out,EA.out];exact zHj h7' l6.2 hS4 hp7 (by omega) (Nat.le_refl _) true p:Calls Tryz.prog 33 _ w7 (zEr w7 w.heap.size w.heap.size (w.heap.size+1) S ((0:Nat):Int) vs vc va sv cv av (zBG S ((cv.map (·.1)).map (·.name)) (av.map (·.1)).length true p s6)))).mono ?_;rintro e w8 ⟨rfl,B8,⟨D,s',vr,F',v',hr,h8,hi8,hp8⟩ | ⟨Dd,hr,h8⟩⟩
       ·have HR2:Hid (polR S=zB7 S m (s'.skip S) ⟨sv.map (·.1),cv.map (·.1),av.map (·.1)++[D]⟩):=by
         show _=_;rw [HRW.out,TH.out]
         rw [show zBG S ((cv.map (·.1)).map (·.name)) (av.map (·.1)).length true p s6=_ from hr]
        obtain ⟨l7,l8⟩:=LE.out _ _ hr;have l9:=zAW isBl S s'.i l8;clear hr TH LE HRW;go_wp2_with fail;refine (zAs h8 hi8 hS4).mono ?_;rintro e w9 ⟨rfl,h9,g9⟩;have h9':zAL w9 w.heap.size S (s'.skip S) (-1) ((0:Nat):Int):=h9;go_wp2_with fail;go_roundw
        case rel=>exact ⟨(B57.trans B8).trans (g9.below (by have:=B57.size;have:=B8.size;have:=B5.size;omega) (by simp)),Or.inl ⟨s'.skip S,F',_,_,_,_,_,_,m,h9',l9.2,hp8.keep g9,by simp only [St.skip];omega,by simp only [St.skip];omega,by rw [List.length_append];simp only [St.skip,List.length_singleton];omega,by simp only [St.skip];omega,by rw [HR2.out];simp⟩⟩
        case measure=>rw [hm0.out,h9'.penM];simp only [St.skip];omega
       ·have HR2:Hid (polR S= .error Dd):=by
         show _=_;rw [HRW.out,TH.out]
         rw [show zBG S ((cv.map (·.1)).map (·.name)) (av.map (·.1)).length true p s6=_ from hr]
        clear hr TH LE HRW;go_wp2_with fail;refine (zBU h8).mono ?_;rintro e w9 ⟨rfl,h9,g9⟩;go_wp2_with fail;go_roundw
        case rel=>exact ⟨(B57.trans B8).trans (g9.below (by have:=B57.size;have:=B8.size;have:=B5.size;omega) (by simp)),Or.inr ⟨Dd,h9,HR2.out⟩⟩
        case measure=>rw [hm0.out,h9.penM];omega
      ·unfold zE3 at HRW ⊢
       have TH:Hid (zBP S ⟨#[115,97,109,101]⟩ p ⟨sv.map (·.1),cv.map (·.1),av.map (·.1)⟩ s6=match zBG S ((cv.map (·.1)).map (·.name)) (av.map (·.1)).length false p s6 with
         |.error d=> .error d
         |.ok (q,s2)=> .ok (⟨sv.map (·.1),cv.map (·.1),av.map (·.1)++[q]⟩,s2)):=by
        show _=_;rfl
       have LE:Hid (∀q s',zBG S ((cv.map (·.1)).map (·.name)) (av.map (·.1)).length false p s6= .ok (q,s')→s6.i≤s'.i∧s'.i≤S.size):=fun q s' e=>zF7 l6.2 e
       go_wp2_with fail;refine ((by rw [EC.out,EA.out];exact zHj h7' l6.2 hS4 hp7 (by omega) (Nat.le_refl _) false p:Calls Tryz.prog 33 _ w7 (zEr w7 w.heap.size w.heap.size (w.heap.size+1) S ((0:Nat):Int) vs vc va sv cv av (zBG S ((cv.map (·.1)).map (·.name)) (av.map (·.1)).length false p s6)))).mono ?_;rintro e w8 ⟨rfl,B8,⟨D,s',vr,F',v',hr,h8,hi8,hp8⟩ | ⟨Dd,hr,h8⟩⟩
       ·have HR2:Hid (polR S=zB7 S m (s'.skip S) ⟨sv.map (·.1),cv.map (·.1),av.map (·.1)++[D]⟩):=by
         show _=_;rw [HRW.out,TH.out]
         rw [show zBG S ((cv.map (·.1)).map (·.name)) (av.map (·.1)).length false p s6=_ from hr]
        obtain ⟨l7,l8⟩:=LE.out _ _ hr;have l9:=zAW isBl S s'.i l8;clear hr TH LE HRW;go_wp2_with fail;refine (zAs h8 hi8 hS4).mono ?_;rintro e w9 ⟨rfl,h9,g9⟩;have h9':zAL w9 w.heap.size S (s'.skip S) (-1) ((0:Nat):Int):=h9;go_wp2_with fail;go_roundw
        case rel=>exact ⟨(B57.trans B8).trans (g9.below (by have:=B57.size;have:=B8.size;have:=B5.size;omega) (by simp)),Or.inl ⟨s'.skip S,F',_,_,_,_,_,_,m,h9',l9.2,hp8.keep g9,by simp only [St.skip];omega,by simp only [St.skip];omega,by rw [List.length_append];simp only [St.skip,List.length_singleton];omega,by simp only [St.skip];omega,by rw [HR2.out];simp⟩⟩
        case measure=>rw [hm0.out,h9'.penM];simp only [St.skip];omega
       ·have HR2:Hid (polR S= .error Dd):=by
         show _=_;rw [HRW.out,TH.out]
         rw [show zBG S ((cv.map (·.1)).map (·.name)) (av.map (·.1)).length false p s6=_ from hr]
        clear hr TH LE HRW;go_wp2_with fail;refine (zBU h8).mono ?_;rintro e w9 ⟨rfl,h9,g9⟩;go_wp2_with fail;go_roundw
        case rel=>exact ⟨(B57.trans B8).trans (g9.below (by have:=B57.size;have:=B8.size;have:=B5.size;omega) (by simp)),Or.inr ⟨Dd,h9,HR2.out⟩⟩
        case measure=>rw [hm0.out,h9.penM];omega
    ·have HR2:Hid (polR S= .ok (⟨sv.map (·.1),cv.map (·.1),av.map (·.1)⟩,s5)):=by
      obtain ⟨m,rfl⟩:∃k,m=k+1:=⟨m - 1,by omega⟩
      show _=_;rw [hrw];simp only [zB7,show ¬s5.i<S.size from by omega,if_false]
     clear hrw
     by_cases he:s5.e=0
     ·have q1:(s5.e !=0)=false:=by simp [he]
      have q2:(s5.e==0)=true:=by simp [he]
      have HC2:Hid (zAg S=(0,0)):=by show _=_;rw [HC.out,HR2.out];simp [endE,he]
      clear he;go_wp2_with fail;go_ret3;exact ⟨B5,Or.inr ⟨HC2.out,w.heap.size,w.heap.size+1,F,vs,vc,va,sv,cv,av,s5,rfl,hp5,HR2.out⟩⟩
     ·have q1:(s5.e !=0)=true:=by simp [he]
      have q2:(s5.e==0)=false:=by simp [he]
      have HC2:Hid (zAg S=(s5.e,s5.a)):=by show _=_;rw [HC.out,HR2.out];simp [endE,he]
      have HE:=hide he;clear he;go_wp2_with fail;go_quiet (fail);go_wp2_with fail;go_ret3;exact ⟨B5.trans ((Ch.drewN [] w5 _).below B5.size (by simp)),Or.inl ⟨by rw [HC2.out];intro e;simp at e;exact HE.out e.1,by rw [HC2.out];rfl⟩⟩
   ·obtain ⟨s8,nest8,p8,hi8⟩:=id h5
    obtain ⟨c0,c1,c2,c3,c4,c5,c6,fz⟩:=p8.facts
    have hd:¬(D:Int)<0:=by omega
    have HC2:Hid (zAg S=(2,(D:Int))):=by show _=_;rw [HC.out,hrw];simp [endE]
    clear hrw;go_wp2_with fail;go_quiet (fail);go_wp2_with fail;go_ret3;exact ⟨B5.trans ((Ch.drewN [] w5 _).below B5.size (by simp)),Or.inl ⟨by rw [HC2.out];simp,by rw [HC2.out];rfl⟩⟩
end Go.Proofs.YteobgfbgglfkbaaGreat
namespace Go.Proofs.YteobgfbgglfkbaaGreat
open Go.RowKit
attribute [local go_sem ↓] Go.wp_at_zero Go.wp_at_succ
end Go.Proofs.YteobgfbgglfkbaaGreat
