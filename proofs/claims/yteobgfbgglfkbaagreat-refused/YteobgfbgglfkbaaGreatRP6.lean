import Derived.Test.YteobgfbgglfkbaaGreatRP5
namespace Go.Proofs.YteobgfbgglfkbaaGreat
open Go.RowKit
attribute [local go_sem ↓] Go.wp_at_zero Go.wp_at_succ
theorem zOL{w:World}{D:zAE}(hs:D.swap=true)(hD:zAi D){h:Nat}(hh:zEY D h):
  Calls Tryz.prog 236 #[.agg #[.string D.one,.string D.two],.int .u8 h] w fun e w'=>e= .returned (.string (str (endD D h)))∧Ch [] w w':=by
 have h1:=hD.1 hs;have h2:=hh hs;have:=zKI (w:=w) D.one.data.toList D.two.data.toList h (by rw [zAo];omega) (by rw [zAo];omega);rw [zDd,zDd] at this;unfold endD;simp only [hs,if_true];exact this
theorem zN2{w:World}{D:zAE}(hs:D.swap=false)(rb h:Nat):
  Calls Tryz.prog 241 #[.pointer (some ⟨rb,0,none⟩),.int .u8 h] w fun e w'=>e= .returned (.string (str (endD D h)))∧Ch [] w w':=by
 refine (zJf rb h).mono ?_;rintro e w' ⟨rfl,rfl⟩;refine ⟨?_,Ch.refl _ _⟩;unfold endD;simp only [hs];rfl
def EndPost(B st b:Nat)(l m:List UInt8)(w:World)(e:Ending)(w':World):Prop:=
 e= .returned (.tuple #[])∧IsB w' B b (l++m)∧Fr B st b w w'∧∃A,StAt w' st A
def EndOk(Ds:List zAE)(k n:Nat)(cap:Array Value):Prop:=
 ∀(w:World) (pv:Value) (B st b:Nat) (pre hs:List Nat) (l:List UInt8),zBo w Ds k pv (.func (.func n) #[] cap)→pre.length=k→zBU Ds hs→StAt w st (pre++hs)→IsB w B b l→B≤st→l.length+(endC Ds hs).length≤140737488355328→
  Calls Tryz.prog n (#[.pointer (some ⟨st,0,none⟩),.pointer (some ⟨b,0,none⟩)]++cap) w (EndPost B st b l (endC Ds hs) w)
theorem end_nil(k:Nat):EndOk [] k 82 #[]:=by
 intro w pv B st b pre hs l _ _ _ HS HB hB hl;go_enter Tryz.func82,Tryz.ntmps82;go_wp2_with fail
 go_end0
 exact ⟨rfl,by simpa [endC] using HB,Fr.refl _ _ _ _,_,HS⟩
set_option maxRecDepth 100000 in
set_option maxHeartbeats 1600000 in
theorem end_cons{D:zAE}{Ds:List zAE}{k:Nat}(hD:∀E,E∈D:: Ds→zAi E)(hk3:k+(D:: Ds).length≤3)(IH:∀n cap,EndOk Ds (k+1) n cap)(n:Nat)(cap:Array Value):EndOk (D:: Ds) k n cap:=by
 intro w pv B st b pre hs l hcv hk hh HS HB hB hl;obtain ⟨M,N,R,P,mv,rp,re',h1,h2,h3,h4,h5,h6,h7,h8⟩:=hcv
 injection h2 with h2 h2' h2''
 injection h2 with h2
 subst h2 h2'';obtain ⟨n',m',c',d',rfl,rfl,he',hm'⟩:=h8.funcs
 cases hs with
 |nil=>exact hh.elim
 |cons h hs=>
  have cN:=h5.cell 0 _ rfl;have cM:=h3.cell 0 _ rfl;have cP:=h6.cell 0 _ rfl;have cS:=HS.cell;rw [hk] at cS
  have hlt:(k:Int)<3:=by simp at hk3;omega
  have HD:=hide (hD D (by simp));have HHD:=hide hh.1;have H3:=hide h3;have H5:=hide h5;have H6:=hide h6;have H7:=hide h7;have H8:=hide h8;have HSx:=hide HS;have KL:=hide (zNp HD.out (h:=h))
  have HL:Hid (l.length+(zAX Ds hs (endD D h)).2.length+(endC Ds (zAX Ds hs (endD D h)).1).length≤140737488355328):=by
   show _≤_
   simp only [endC,List.length_append] at hl;omega
  have PASS:∀W,Ch [] w W→Calls Tryz.prog 83 #[.pointer (some ⟨st,0,none⟩),.string (str (endD D h)),.pointer (some ⟨b,0,none⟩),.pointer (some ⟨R,0,none⟩)] W (zCM B st b (pre++[h]) l (zAX Ds hs (endD D h)) W):=by
   intro W g
   have HSW:StAt W st ((pre++[h])++hs):=by rw [List.append_assoc];exact ⟨HS.1.keep g (by simp),HS.2⟩
   exact zLD (pre:=pre++[h]) (zK4 Ds (k+1) n' c' (fun E hE=>hD E (by simp [hE])) (by simp at hk3;omega)) he' (fun E hE=>hD E (by simp [hE])) (h7.keep g (by simp)) (zBo.kp (Kp.ch g) _ _ _ _ h8) (by simp [hk]) hh.2 HSW (HB.keep g (by simp) (by simp)) hB (by have:=KL.out;omega) (by have:=HL.out;omega)
  have PA:=hide PASS;clear PASS h3 h5 h6 h7 h8 hl
  have CELLS:Hid (∀W,Ch [] w W→W.cell? ⟨M,0,none⟩=some mv∧W.cell? ⟨N,0,none⟩=some (.int .i64 k)∧W.cell? ⟨st,k,none⟩=some (.int .u8 h)∧W.cell? ⟨P,0,none⟩=some (.func (.func 83) #[] #[.pointer (some ⟨R,0,none⟩)])):=by
   intro W g;have:=StAt.cell (w:=W) (⟨HSx.out.1.keep g (by simp),HSx.out.2⟩:StAt W st (pre++h:: hs));rw [hk] at this;exact ⟨(H3.out.keep g (by simp)).cell 0 _ rfl,(H5.out.keep g (by simp)).cell 0 _ rfl,this,(H6.out.keep g (by simp)).cell 0 _ rfl⟩
  have CELL2:Hid (∀W W' e,Ch [] w W→zCM B st b (pre++[h]) l (zAX Ds hs (endD D h)) W e W'→W'.cell? ⟨M,0,none⟩=some mv∧W'.cell? ⟨N,0,none⟩=some (.int .i64 k)∧W'.cell? ⟨st,k,none⟩=some (.int .u8 h)∧W'.cell? ⟨P,0,none⟩=some (.func (.func 83) #[] #[.pointer (some ⟨R,0,none⟩)])):=by
   intro W W' e g p;have kp:=p.2.2.2.kp (HSx.out.1.keep g (by simp)) (HB.keep g (by simp) (by simp));have s:=p.2.1;rw [List.append_assoc] at s;have:=StAt.cell (h:=h) s;rw [hk] at this;exact ⟨(kp _ _ _ (H3.out.keep g (by simp)) (by decide) (by decide) (by decide)).cell 0 _ rfl,(kp _ _ _ (H5.out.keep g (by simp)) (by decide) (by decide) (by decide)).cell 0 _ rfl,this,(kp _ _ _ (H6.out.keep g (by simp)) (by decide) (by decide) (by decide)).cell 0 _ rfl⟩
  have hmp:∀(fn:Fn) (first cap:Array Value) (w:World),(Instr.makeFunc fn first cap).run Tryz.prog w= .ok (.func fn first cap) w:=fun _ _ _ _=>rfl
  go_enter Tryz.func85,Tryz.ntmps85;go_wp2_with fail
  go_cut [] (fun wx=>∃W,Ch [] w W∧zCM B st b (pre++[h]) l (zAX Ds hs (endD D h)) W (.returned (.tuple #[])) wx)
  case first=>
   rcases h4 with ⟨hsw,rfl⟩ | ⟨hsw,rb,rfl,hrb⟩
   ·have hna : ∀ W, Sem.run Tryz.prog (nilAhead 461 182 (.agg #[.string D.one, .string D.two]) "End") W = .ok (some false) W := fun W => zPK W _ _ _ (Or.inr rfl)
    have hme : ∀ W, Sem.run Tryz.prog (method 461 182 (.agg #[.string D.one, .string D.two]) "End") W = .ok (236, .agg #[.string D.one, .string D.two]) W := fun W => (zLP W _ _).2
    have HW:=hide hsw;clear hsw
    go_region_held3 (fun w'=>w'.cell? ⟨M,0,none⟩=some (.iface 182 (.agg #[.string D.one,.string D.two]))∧w'.cell? ⟨N,0,none⟩=some (.int .i64 k)∧w'.cell? ⟨st,k,none⟩=some (.int .u8 h)∧w'.cell? ⟨P,0,none⟩=some (.func (.func 83) #[] #[.pointer (some ⟨R,0,none⟩)])) (first | go_keep | (exact E2) | (exact E1)) (first | (go_at_call 236;refine (zOL HW.out HD.out HHD.out).mono ?_;rintro e w1 ⟨rfl,g1⟩;have E1:=CELLS.out w1 ((Ch.drew _ _).trans g1)) | (go_at_call 83;refine (PA.out w1 ((Ch.drew _ _).trans g1)).mono ?_;rintro e w2 p2;have E2:=CELL2.out w1 w2 e ((Ch.drew _ _).trans g1) p2;have P2:=hide p2;obtain ⟨rfl,_⟩:=p2))
    all_goals
     go_wp2_with fail;go_meet;exact ⟨w1,(Ch.drew _ _).trans g1,P2.out⟩
   ·have hna : ∀ W, Sem.run Tryz.prog (nilAhead 461 183 (.pointer (some ⟨rb, 0, none⟩)) "End") W = .ok (some false) W := fun W => zLk W _ _ (Or.inr rfl)
    have hme : ∀ W, Sem.run Tryz.prog (method 461 183 (.pointer (some ⟨rb, 0, none⟩)) "End") W = .ok (241, .pointer (some ⟨rb, 0, none⟩)) W := fun W => (zJx W _).2
    have HW:=hide hsw;clear hsw hrb
    go_region_held3 (fun w'=>w'.cell? ⟨M,0,none⟩=some (.iface 183 (.pointer (some ⟨rb,0,none⟩)))∧w'.cell? ⟨N,0,none⟩=some (.int .i64 k)∧w'.cell? ⟨st,k,none⟩=some (.int .u8 h)∧w'.cell? ⟨P,0,none⟩=some (.func (.func 83) #[] #[.pointer (some ⟨R,0,none⟩)])) (first | go_keep | (exact E2) | (exact E1)) (first | (go_at_call 241;refine (zN2 HW.out rb h).mono ?_;rintro e w1 ⟨rfl,g1⟩;have E1:=CELLS.out w1 ((Ch.drew _ _).trans g1)) | (go_at_call 83;refine (PA.out w1 ((Ch.drew _ _).trans g1)).mono ?_;rintro e w2 p2;have E2:=CELL2.out w1 w2 e ((Ch.drew _ _).trans g1) p2;have P2:=hide p2;obtain ⟨rfl,_⟩:=p2))
    all_goals
     go_wp2_with fail;go_meet;exact ⟨w1,(Ch.drew _ _).trans g1,P2.out⟩
  case rest=>
   obtain ⟨W,gW,p⟩:=hcut;have PX:=hide p;have KPX:Hid (Kp w wc):=(Kp.ch gW).trans (p.2.2.2.kp (HSx.out.1.keep gW (by simp)) (HB.keep gW (by simp) (by simp)));have FX:Hid (Fr B st b w wc):=(Fr.ch gW (by have:=HB.lt;omega) (by simp)).trans p.2.2.2;have B7:=KPX.out _ _ _ H7.out (by decide) (by decide) (by decide);have C8:=hide (zBo.kp KPX.out _ _ _ _ H8.out);have OKH:=hide (zDA Ds hs (endD D h) (fun E hE=>hD E (by simp [hE])) hh.2).1;have dR:=B7.cell 1 _ rfl;clear p cN cM cP cS gW;go_wp2_with fail;refine (IH m' d' wc _ B st b (pre++[h]) (zAX Ds hs (endD D h)).1 (l++(zAX Ds hs (endD D h)).2) C8.out (by simp [hk]) OKH.out PX.out.2.1 PX.out.2.2.1 hB (by have:=HL.out;rw [List.length_append];omega)).mono ?_;rintro e w4 ⟨rfl,I4,F4,A4,S4⟩;have S4x:=hide S4;clear S4;have I4x:=hide I4;clear I4;go_wp2_with fail
   go_end0
   refine ⟨rfl,?_,FX.out.trans F4,A4,S4x.out⟩;have:=I4x.out;rw [List.append_assoc] at this;exact this
theorem zNr:∀(Ds:List zAE) (k n:Nat) (cap:Array Value),(∀D,D∈Ds→zAi D)→k+Ds.length≤3→EndOk Ds k n cap
 |[],k,n,cap,_,_=>by
  intro w pv B st b pre hs l hcv hk hh HS HB hB hl;obtain ⟨h1,h2⟩:=hcv
  injection h2 with h2 _ h2'
  injection h2 with h2
  subst h2 h2';exact end_nil k w pv B st b pre hs l ⟨h1,rfl⟩ hk hh HS HB hB hl
 |D:: Ds,k,n,cap,hD,hk=>end_cons hD hk (fun n' cap'=>zNr Ds (k+1) n' cap' (fun E hE=>hD E (by simp [hE])) (by simp at hk;omega)) n cap
end Go.Proofs.YteobgfbgglfkbaaGreat
namespace Go.Proofs.YteobgfbgglfkbaaGreat
open Go.RowKit
attribute [local go_sem ↓] Go.wp_at_zero Go.wp_at_succ
end Go.Proofs.YteobgfbgglfkbaaGreat
