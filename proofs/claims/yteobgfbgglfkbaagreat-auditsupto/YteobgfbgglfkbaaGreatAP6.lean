import Derived.Test.YteobgfbgglfkbaaGreatAP5
set_option maxHeartbeats 1600000
set_option maxRecDepth 100000
namespace Go.Proofs.YteobgfbgglfkbaaGreat
open Go.RowKit
attribute [local go_sem ↓] Go.wp_at_zero Go.wp_at_succ
theorem TG{w:World}{D:zH}(hs:D.swap=true)(hD:yR D){h:Nat}(hh:Yc D h):
 Calls Tryz.prog 236 #[.agg #[.string D.one,.string D.two],.int .u8 h] w fun e w'=>e= .returned (.string (zG (jm D h)))/\Ch [] w w':=by
 have h1:=hD.1 hs;have h2:=hh hs;have:=CK (w:=w) D.one.data.toList D.two.data.toList h (by rw[JF];omega) (by rw[JF];omega);rw[Zx,Zx]at this;unfold jm;simp only[hs,if_true];exact this
theorem aL{w:World}{D:zH}(hs:D.swap=false)(rb h:Nat):
 Calls Tryz.prog 241 #[.pointer (some ⟨rb,0,none⟩),.int .u8 h] w fun e w'=>e= .returned (.string (zG (jm D h)))/\Ch [] w w':=by
 refine(Hi rb h).mono ?_;rintro e w' ⟨rfl,rfl⟩;refine⟨?_,Ch.refl _ _⟩;unfold jm;simp only[hs];rfl
def CX(B st b:Nat)(l m:List UInt8)(w:World)(e:Ending)(w':World):Prop:=
 e= .returned (.tuple #[])/\yi w' B b (l++m)/\Fr B st b w w'/\∃A,ja w' st A
def XH(Ds:List zH)(k n:Nat)(cap:Array Value):Prop:=
 ∀(w:World) (pv:Value) (B st b:Nat) (pre hs:List Nat) (l:List UInt8),j5 w Ds k pv (.func (.func n) #[] cap)->pre.length=k->j7 Ds hs->ja w st (pre++hs)->yi w B b l->B<=st->l.length+(yE Ds hs).length<=140737488355328->
  Calls Tryz.prog n (#[.pointer (some ⟨st,0,none⟩),.pointer (some ⟨b,0,none⟩)]++cap) w (CX B st b l (yE Ds hs) w)
theorem ID(k:Nat):XH [] k 82 #[]:=by
 intro w pv B st b pre hs l _ _ _ HS HB hB hl;go_enter Tryz.func82,Tryz.ntmps82;go_wp2_with fail
 go_end0
 exact⟨rfl,by simpa[yE]using HB,Fr.refl _ _ _ _,_,HS⟩
theorem aR{D:zH}{Ds:List zH}{k:Nat}(hD:∀E,E∈D:: Ds->yR E)(hk3:k+(D:: Ds).length<=3)(IH:∀n cap,XH Ds (k+1) n cap)(n:Nat)(cap:Array Value):XH (D:: Ds) k n cap:=by
 intro w pv B st b pre hs l hcv hk hh HS HB hB hl;obtain⟨M,N,R,P,mv,rp,re',h1,h2,h3,h4,h5,h6,h7,h8⟩:=hcv
 injection h2 with h2 h2' h2''
 injection h2 with h2
 subst h2 h2'';obtain⟨n',m',c',d',rfl,rfl,he',hm'⟩:=h8.funcs
 cases hs with
 |nil=>exact hh.elim
 |cons h hs=>
  have cN:=h5.cl 0 _ rfl;have cM:=h3.cl 0 _ rfl;have cP:=h6.cl 0 _ rfl;have cS:=HS.cl;rw[hk]at cS
  have hlt:(k:Int)<3:=by simp at hk3;omega
  have HD:=zC (hD D (by simp));have HHD:=zC hh.1;have H3:=zC h3;have H5:=zC h5;have H6:=zC h6;have H7:=zC h7;have H8:=zC h8;have HSx:=zC HS;have KL:=zC (Xq HD.o (h:=h))
  have HL:Hd (l.length+(zT Ds hs (jm D h)).2.length+(yE Ds (zT Ds hs (jm D h)).1).length<=140737488355328):=by
   show _<=_
   simp only[yE,List.length_append]at hl;omega
  have PASS:∀W,Ch [] w W->Calls Tryz.prog 83 #[.pointer (some ⟨st,0,none⟩),.string (zG (jm D h)),.pointer (some ⟨b,0,none⟩),.pointer (some ⟨R,0,none⟩)] W (J5 B st b (pre++[h]) l (zT Ds hs (jm D h)) W):=by
   intro W g
   have HSW:ja W st ((pre++[h])++hs):=by rw[List.append_assoc];exact⟨HS.1.kp g (by simp),HS.2⟩
   exact AC (pre:=pre++[h]) (Md Ds (k+1) n' c' (fun E hE=>hD E (by simp[hE])) (by simp at hk3;omega)) he' (fun E hE=>hD E (by simp[hE])) (h7.kp g (by simp)) (j5.kp (Kp.ch g) _ _ _ _ h8) (by simp[hk]) hh.2 HSW (HB.kp g (by simp) (by simp)) hB (by have:=KL.o;omega) (by have:=HL.o;omega)
  have PA:=zC PASS;clear PASS h3 h5 h6 h7 h8 hl
  have CELLS:Hd (∀W,Ch [] w W->W.cell? ⟨M,0,none⟩=some mv/\W.cell? ⟨N,0,none⟩=some (.int .i64 k)/\W.cell? ⟨st,k,none⟩=some (.int .u8 h)/\W.cell? ⟨P,0,none⟩=some (.func (.func 83) #[] #[.pointer (some ⟨R,0,none⟩)])):=by
   intro W g;have:=ja.cl (w:=W) (⟨HSx.o.1.kp g (by simp),HSx.o.2⟩:ja W st (pre++h:: hs));rw[hk]at this;exact⟨(H3.o.kp g (by simp)).cl 0 _ rfl,(H5.o.kp g (by simp)).cl 0 _ rfl,this,(H6.o.kp g (by simp)).cl 0 _ rfl⟩
  have CELL2:Hd (∀W W' e,Ch [] w W->J5 B st b (pre++[h]) l (zT Ds hs (jm D h)) W e W'->W'.cell? ⟨M,0,none⟩=some mv/\W'.cell? ⟨N,0,none⟩=some (.int .i64 k)/\W'.cell? ⟨st,k,none⟩=some (.int .u8 h)/\W'.cell? ⟨P,0,none⟩=some (.func (.func 83) #[] #[.pointer (some ⟨R,0,none⟩)])):=by
   intro W W' e g p;have kp:=p.2.2.2.kp (HSx.o.1.kp g (by simp)) (HB.kp g (by simp) (by simp));have s:=p.2.1;rw[List.append_assoc]at s;have:=ja.cl (h:=h) s;rw[hk]at this;exact⟨(kp _ _ _ (H3.o.kp g (by simp)) (by decide) (by decide) (by decide)).cl 0 _ rfl,(kp _ _ _ (H5.o.kp g (by simp)) (by decide) (by decide) (by decide)).cl 0 _ rfl,this,(kp _ _ _ (H6.o.kp g (by simp)) (by decide) (by decide) (by decide)).cl 0 _ rfl⟩
  have hmp:∀(fn:Fn) (first cap:Array Value) (w:World),(Instr.makeFunc fn first cap).run Tryz.prog w= .ok (.func fn first cap) w:=fun _ _ _ _=>rfl
  go_enter Tryz.func85,Tryz.ntmps85;go_wp2_with fail
  go_cut [] (fun wx=>∃W,Ch [] w W/\J5 B st b (pre++[h]) l (zT Ds hs (jm D h)) W (.returned (.tuple #[])) wx)
  case first=>
   rcases h4 with⟨hsw,rfl⟩|⟨hsw,rb,rfl,hrb⟩
   ·have hna : ∀ W, Sem.run Tryz.prog (nilAhead 461 182 (.agg #[.string D.one, .string D.two]) "End") W = .ok (some false) W := fun W => Bq W _ _ _ (Or.inr rfl)
    have hme : ∀ W, Sem.run Tryz.prog (method 461 182 (.agg #[.string D.one, .string D.two]) "End") W = .ok (236, .agg #[.string D.one, .string D.two]) W := fun W => (AF W _ _).2
    have HW:=zC hsw;clear hsw
    go_region_held3 (fun w'=>w'.cell? ⟨M,0,none⟩=some (.iface 182 (.agg #[.string D.one,.string D.two]))/\w'.cell? ⟨N,0,none⟩=some (.int .i64 k)/\w'.cell? ⟨st,k,none⟩=some (.int .u8 h)/\w'.cell? ⟨P,0,none⟩=some (.func (.func 83) #[] #[.pointer (some ⟨R,0,none⟩)])) (first|go_keep|(exact E2)|(exact E1)) (first|(go_at_call 236;refine(TG HW.o HD.o HHD.o).mono ?_;rintro e w1 ⟨rfl,g1⟩;have E1:=CELLS.o w1 ((Ch.drew _ _).trans g1))|(go_at_call 83;refine(PA.o w1 ((Ch.drew _ _).trans g1)).mono ?_;rintro e w2 p2;have E2:=CELL2.o w1 w2 e ((Ch.drew _ _).trans g1) p2;have P2:=zC p2;obtain⟨rfl,_⟩:=p2))
    all_goals
     go_wp2_with fail;go_meet;exact⟨w1,(Ch.drew _ _).trans g1,P2.o⟩
   ·have hna : ∀ W, Sem.run Tryz.prog (nilAhead 461 183 (.pointer (some ⟨rb, 0, none⟩)) "End") W = .ok (some false) W := fun W => BS W _ _ (Or.inr rfl)
    have hme : ∀ W, Sem.run Tryz.prog (method 461 183 (.pointer (some ⟨rb, 0, none⟩)) "End") W = .ok (241, .pointer (some ⟨rb, 0, none⟩)) W := fun W => (EJ W _).2
    have HW:=zC hsw;clear hsw hrb
    go_region_held3 (fun w'=>w'.cell? ⟨M,0,none⟩=some (.iface 183 (.pointer (some ⟨rb,0,none⟩)))/\w'.cell? ⟨N,0,none⟩=some (.int .i64 k)/\w'.cell? ⟨st,k,none⟩=some (.int .u8 h)/\w'.cell? ⟨P,0,none⟩=some (.func (.func 83) #[] #[.pointer (some ⟨R,0,none⟩)])) (first|go_keep|(exact E2)|(exact E1)) (first|(go_at_call 241;refine(aL HW.o rb h).mono ?_;rintro e w1 ⟨rfl,g1⟩;have E1:=CELLS.o w1 ((Ch.drew _ _).trans g1))|(go_at_call 83;refine(PA.o w1 ((Ch.drew _ _).trans g1)).mono ?_;rintro e w2 p2;have E2:=CELL2.o w1 w2 e ((Ch.drew _ _).trans g1) p2;have P2:=zC p2;obtain⟨rfl,_⟩:=p2))
    all_goals
     go_wp2_with fail;go_meet;exact⟨w1,(Ch.drew _ _).trans g1,P2.o⟩
  case rest=>
   obtain⟨W,gW,p⟩:=hcut;have PX:=zC p;have KPX:Hd (Kp w wc):=(Kp.ch gW).trans (p.2.2.2.kp (HSx.o.1.kp gW (by simp)) (HB.kp gW (by simp) (by simp)));have FX:Hd (Fr B st b w wc):=(Fr.ch gW (by have:=HB.lt;omega) (by simp)).trans p.2.2.2;have B7:=KPX.o _ _ _ H7.o (by decide) (by decide) (by decide);have C8:=zC (j5.kp KPX.o _ _ _ _ H8.o);have OKH:=zC (QO Ds hs (jm D h) (fun E hE=>hD E (by simp[hE])) hh.2).1;have dR:=B7.cl 1 _ rfl;clear p cN cM cP cS gW;go_wp2_with fail;refine(IH m' d' wc _ B st b (pre++[h]) (zT Ds hs (jm D h)).1 (l++(zT Ds hs (jm D h)).2) C8.o (by simp[hk]) OKH.o PX.o.2.1 PX.o.2.2.1 hB (by have:=HL.o;rw[List.length_append];omega)).mono ?_;rintro e w4 ⟨rfl,I4,F4,A4,S4⟩;have S4x:=zC S4;clear S4;have I4x:=zC I4;clear I4;go_wp2_with fail
   go_end0
   refine⟨rfl,?_,FX.o.trans F4,A4,S4x.o⟩;have:=I4x.o;rw[List.append_assoc]at this;exact this
theorem Be:∀(Ds:List zH) (k n:Nat) (cap:Array Value),(∀D,D∈Ds->yR D)->k+Ds.length<=3->XH Ds k n cap
 |[],k,n,cap,_,_=>by
  intro w pv B st b pre hs l hcv hk hh HS HB hB hl;obtain⟨h1,h2⟩:=hcv
  injection h2 with h2 _ h2'
  injection h2 with h2
  subst h2 h2';exact ID k w pv B st b pre hs l ⟨h1,rfl⟩ hk hh HS HB hB hl
 |D:: Ds,k,n,cap,hD,hk=>aR hD hk (fun n' cap'=>Be Ds (k+1) n' cap' (fun E hE=>hD E (by simp[hE])) (by simp at hk;omega)) n cap
end Go.Proofs.YteobgfbgglfkbaaGreat
