import Derived.Test.YteobgfbgglfkbaaGreatJP5
namespace Go.Proofs.YteobgfbgglfkbaaGreat
open Go.RowKit
attribute [local go_sem ↓] Go.wp_at_zero Go.wp_at_succ
theorem zNA{w:World}{D:zAE}(hs:D.swap=true)(hD:zAb D){h:Nat}(hh:zD9 D h):
  Calls Tryz.prog 236 #[.agg #[.string D.one,.string D.two],.int .u8 h] w fun e w'=>e= .returned (.string (str (endD D h)))∧Ch [] w w':=by
 have h1:=hD.1 hs;have h2:=hh hs;have:=zJk (w:=w) D.one.data.toList D.two.data.toList h (by rw [zAu];omega) (by rw [zAu];omega);rw [zCw,zCw] at this;unfold endD;simp only [hs,if_true];exact this
theorem zNL{w:World}{D:zAE}(hs:D.swap=false)(rb h:Nat):
  Calls Tryz.prog 241 #[.pointer (some ⟨rb,0,none⟩),.int .u8 h] w fun e w'=>e= .returned (.string (str (endD D h)))∧Ch [] w w':=by
 refine (zJa rb h).mono ?_;rintro e w' ⟨rfl,rfl⟩;refine ⟨?_,Ch.refl _ _⟩;unfold endD;simp only [hs];rfl
def EndPost(B st b:Nat)(l m:List UInt8)(w:World)(e:Ending)(w':World):Prop:=
 e= .returned (.tuple #[])∧IsB w' B b (l++m)∧Fr B st b w w'∧∃A,StAt w' st A
def EndOk(Ds:List zAE)(k n:Nat)(cap:Array Value):Prop:=
 ∀(w:World) (pv:Value) (B st b:Nat) (pre hs:List Nat) (l:List UInt8),zA9 w Ds k pv (.func (.func n) #[] cap)→pre.length=k→zBL Ds hs→StAt w st (pre++hs)→IsB w B b l→B≤st→l.length+(endC Ds hs).length≤140737488355328→
  Calls Tryz.prog n (#[.pointer (some ⟨st,0,none⟩),.pointer (some ⟨b,0,none⟩)]++cap) w (EndPost B st b l (endC Ds hs) w)
theorem end_nil(k:Nat):EndOk [] k 82 #[]:=by
 intro w pv B st b pre hs l _ _ _ HS HB hB hl;go_enter Tryz.func82,Tryz.ntmps82;go_wp2_with fail
 go_end0
 exact ⟨rfl,by simpa [endC] using HB,Fr.refl _ _ _ _,_,HS⟩
set_option maxRecDepth 100000 in
set_option maxHeartbeats 1600000 in
theorem end_cons{D:zAE}{Ds:List zAE}{k:Nat}(hD:∀E,E∈D:: Ds→zAb E)(hk3:k+(D:: Ds).length≤3)(IH:∀n cap,EndOk Ds (k+1) n cap)(n:Nat)(cap:Array Value):EndOk (D:: Ds) k n cap:=by
 intro w pv B st b pre hs l hcv hk hh HS HB hB hl;obtain ⟨M,N,R,P,mv,rp,re',h1,h2,h3,h4,h5,h6,h7,h8⟩:=hcv
 injection h2 with h2 h2' h2''
 injection h2 with h2
 subst h2 h2'';obtain ⟨n',m',c',d',rfl,rfl,he',hm'⟩:=h8.funcs
 cases hs with
 |nil=>exact hh.elim
 |cons h hs=>
  have cN:=h5.cell 0 _ rfl;have cM:=h3.cell 0 _ rfl;have cP:=h6.cell 0 _ rfl;have cS:=HS.cell;rw [hk] at cS
  have hlt:(k:Int)<3:=by simp at hk3;omega
  have HD:=hide (hD D (by simp));have HHD:=hide hh.1;have H3:=hide h3;have H5:=hide h5;have H6:=hide h6;have H7:=hide h7;have H8:=hide h8;have HSx:=hide HS;have KL:=hide (zJv HD.out (h:=h))
  have HL:Hid (l.length+(zAT Ds hs (endD D h)).2.length+(endC Ds (zAT Ds hs (endD D h)).1).length≤140737488355328):=by
   show _≤_
   simp only [endC,List.length_append] at hl;omega
  have PASS:∀W,Ch [] w W→Calls Tryz.prog 83 #[.pointer (some ⟨st,0,none⟩),.string (str (endD D h)),.pointer (some ⟨b,0,none⟩),.pointer (some ⟨R,0,none⟩)] W (zBR B st b (pre++[h]) l (zAT Ds hs (endD D h)) W):=by
   intro W g
   have HSW:StAt W st ((pre++[h])++hs):=by rw [List.append_assoc];exact ⟨HS.1.keep g (by simp),HS.2⟩
   exact zKk (pre:=pre++[h]) (zIR Ds (k+1) n' c' (fun E hE=>hD E (by simp [hE])) (by simp at hk3;omega)) he' (fun E hE=>hD E (by simp [hE])) (h7.keep g (by simp)) (zA9.kp (Kp.ch g) _ _ _ _ h8) (by simp [hk]) hh.2 HSW (HB.keep g (by simp) (by simp)) hB (by have:=KL.out;omega) (by have:=HL.out;omega)
  have PA:=hide PASS;clear PASS h3 h5 h6 h7 h8 hl
  have CELLS:Hid (∀W,Ch [] w W→W.cell? ⟨M,0,none⟩=some mv∧W.cell? ⟨N,0,none⟩=some (.int .i64 k)∧W.cell? ⟨st,k,none⟩=some (.int .u8 h)∧W.cell? ⟨P,0,none⟩=some (.func (.func 83) #[] #[.pointer (some ⟨R,0,none⟩)])):=by
   intro W g;have:=StAt.cell (w:=W) (⟨HSx.out.1.keep g (by simp),HSx.out.2⟩:StAt W st (pre++h:: hs));rw [hk] at this;exact ⟨(H3.out.keep g (by simp)).cell 0 _ rfl,(H5.out.keep g (by simp)).cell 0 _ rfl,this,(H6.out.keep g (by simp)).cell 0 _ rfl⟩
  have CELL2:Hid (∀W W' e,Ch [] w W→zBR B st b (pre++[h]) l (zAT Ds hs (endD D h)) W e W'→W'.cell? ⟨M,0,none⟩=some mv∧W'.cell? ⟨N,0,none⟩=some (.int .i64 k)∧W'.cell? ⟨st,k,none⟩=some (.int .u8 h)∧W'.cell? ⟨P,0,none⟩=some (.func (.func 83) #[] #[.pointer (some ⟨R,0,none⟩)])):=by
   intro W W' e g p;have kp:=p.2.2.2.kp (HSx.out.1.keep g (by simp)) (HB.keep g (by simp) (by simp));have s:=p.2.1;rw [List.append_assoc] at s;have:=StAt.cell (h:=h) s;rw [hk] at this;exact ⟨(kp _ _ _ (H3.out.keep g (by simp)) (by decide) (by decide) (by decide)).cell 0 _ rfl,(kp _ _ _ (H5.out.keep g (by simp)) (by decide) (by decide) (by decide)).cell 0 _ rfl,this,(kp _ _ _ (H6.out.keep g (by simp)) (by decide) (by decide) (by decide)).cell 0 _ rfl⟩
  have hmp:∀(fn:Fn) (first cap:Array Value) (w:World),(Instr.makeFunc fn first cap).run Tryz.prog w= .ok (.func fn first cap) w:=fun _ _ _ _=>rfl
  go_enter Tryz.func85,Tryz.ntmps85;go_wp2_with fail
  go_cut [] (fun wx=>∃W,Ch [] w W∧zBR B st b (pre++[h]) l (zAT Ds hs (endD D h)) W (.returned (.tuple #[])) wx)
  case first=>
   rcases h4 with ⟨hsw,rfl⟩ | ⟨hsw,rb,rfl,hrb⟩
   ·have hna : ∀ W, Sem.run Tryz.prog (nilAhead 461 182 (.agg #[.string D.one, .string D.two]) "End") W = .ok (some false) W := fun W => zOT W _ _ _ (Or.inr rfl)
    have hme : ∀ W, Sem.run Tryz.prog (method 461 182 (.agg #[.string D.one, .string D.two]) "End") W = .ok (236, .agg #[.string D.one, .string D.two]) W := fun W => (zLB W _ _).2
    have HW:=hide hsw;clear hsw
    go_region_held3 (fun w'=>w'.cell? ⟨M,0,none⟩=some (.iface 182 (.agg #[.string D.one,.string D.two]))∧w'.cell? ⟨N,0,none⟩=some (.int .i64 k)∧w'.cell? ⟨st,k,none⟩=some (.int .u8 h)∧w'.cell? ⟨P,0,none⟩=some (.func (.func 83) #[] #[.pointer (some ⟨R,0,none⟩)])) (first | go_keep | (exact E2) | (exact E1)) (first | (go_at_call 236;refine (zNA HW.out HD.out HHD.out).mono ?_;rintro e w1 ⟨rfl,g1⟩;have E1:=CELLS.out w1 ((Ch.drew _ _).trans g1)) | (go_at_call 83;refine (PA.out w1 ((Ch.drew _ _).trans g1)).mono ?_;rintro e w2 p2;have E2:=CELL2.out w1 w2 e ((Ch.drew _ _).trans g1) p2;have P2:=hide p2;obtain ⟨rfl,_⟩:=p2))
    all_goals
     go_wp2_with fail;go_meet;exact ⟨w1,(Ch.drew _ _).trans g1,P2.out⟩
   ·have hna : ∀ W, Sem.run Tryz.prog (nilAhead 461 183 (.pointer (some ⟨rb, 0, none⟩)) "End") W = .ok (some false) W := fun W => zKq W _ _ (Or.inr rfl)
    have hme : ∀ W, Sem.run Tryz.prog (method 461 183 (.pointer (some ⟨rb, 0, none⟩)) "End") W = .ok (241, .pointer (some ⟨rb, 0, none⟩)) W := fun W => (zJH W _).2
    have HW:=hide hsw;clear hsw hrb
    go_region_held3 (fun w'=>w'.cell? ⟨M,0,none⟩=some (.iface 183 (.pointer (some ⟨rb,0,none⟩)))∧w'.cell? ⟨N,0,none⟩=some (.int .i64 k)∧w'.cell? ⟨st,k,none⟩=some (.int .u8 h)∧w'.cell? ⟨P,0,none⟩=some (.func (.func 83) #[] #[.pointer (some ⟨R,0,none⟩)])) (first | go_keep | (exact E2) | (exact E1)) (first | (go_at_call 241;refine (zNL HW.out rb h).mono ?_;rintro e w1 ⟨rfl,g1⟩;have E1:=CELLS.out w1 ((Ch.drew _ _).trans g1)) | (go_at_call 83;refine (PA.out w1 ((Ch.drew _ _).trans g1)).mono ?_;rintro e w2 p2;have E2:=CELL2.out w1 w2 e ((Ch.drew _ _).trans g1) p2;have P2:=hide p2;obtain ⟨rfl,_⟩:=p2))
    all_goals
     go_wp2_with fail;go_meet;exact ⟨w1,(Ch.drew _ _).trans g1,P2.out⟩
  case rest=>
   obtain ⟨W,gW,p⟩:=hcut;have PX:=hide p;have KPX:Hid (Kp w wc):=(Kp.ch gW).trans (p.2.2.2.kp (HSx.out.1.keep gW (by simp)) (HB.keep gW (by simp) (by simp)));have FX:Hid (Fr B st b w wc):=(Fr.ch gW (by have:=HB.lt;omega) (by simp)).trans p.2.2.2;have B7:=KPX.out _ _ _ H7.out (by decide) (by decide) (by decide);have C8:=hide (zA9.kp KPX.out _ _ _ _ H8.out);have OKH:=hide (zCa Ds hs (endD D h) (fun E hE=>hD E (by simp [hE])) hh.2).1;have dR:=B7.cell 1 _ rfl;clear p cN cM cP cS gW;go_wp2_with fail;refine (IH m' d' wc _ B st b (pre++[h]) (zAT Ds hs (endD D h)).1 (l++(zAT Ds hs (endD D h)).2) C8.out (by simp [hk]) OKH.out PX.out.2.1 PX.out.2.2.1 hB (by have:=HL.out;rw [List.length_append];omega)).mono ?_;rintro e w4 ⟨rfl,I4,F4,A4,S4⟩;have S4x:=hide S4;clear S4;have I4x:=hide I4;clear I4;go_wp2_with fail
   go_end0
   refine ⟨rfl,?_,FX.out.trans F4,A4,S4x.out⟩;have:=I4x.out;rw [List.append_assoc] at this;exact this
theorem zKS:∀(Ds:List zAE) (k n:Nat) (cap:Array Value),(∀D,D∈Ds→zAb D)→k+Ds.length≤3→EndOk Ds k n cap
 |[],k,n,cap,_,_=>by
  intro w pv B st b pre hs l hcv hk hh HS HB hB hl;obtain ⟨h1,h2⟩:=hcv
  injection h2 with h2 _ h2'
  injection h2 with h2
  subst h2 h2';exact end_nil k w pv B st b pre hs l ⟨h1,rfl⟩ hk hh HS HB hB hl
 |D:: Ds,k,n,cap,hD,hk=>end_cons hD hk (fun n' cap'=>zKS Ds (k+1) n' cap' (fun E hE=>hD E (by simp [hE])) (by simp at hk;omega)) n cap
end Go.Proofs.YteobgfbgglfkbaaGreat
namespace Go.Proofs.YteobgfbgglfkbaaGreat
open Go.RowKit
attribute [local go_sem ↓] Go.wp_at_zero Go.wp_at_succ
theorem zMN{w W0:World}{pv ev:Value}(hW:W0=((w.alloc (.cells #[pv,ev] 77)).alloc (.cells #[.int .u8 0,.int .u8 0,.int .u8 0] 122)).alloc (.cells #[.pointer none,.slice none 0 0] 126)):
  zAD W0 w.heap.size #[pv,ev] 77∧StAt W0 (w.heap.size+1) [0,0,0]∧IsB W0 w.heap.size (w.heap.size+1+1) []∧Ch [] w W0:=by
 have A:=zAD.new w #[pv,ev] 77;have g1:=Ch.alloc [] w (.cells #[pv,ev] 77)
 have z1:(w.alloc (.cells #[pv,ev] 77)).heap.size=w.heap.size+1:=by simp
 generalize w.alloc (.cells #[pv,ev] 77)=w1 at *;have B:=zAD.new w1 #[.int .u8 0,.int .u8 0,.int .u8 0] 122;have g2:=Ch.alloc [] w1 (.cells #[.int .u8 0,.int .u8 0,.int .u8 0] 122)
 have z2:(w1.alloc (.cells #[.int .u8 0,.int .u8 0,.int .u8 0] 122)).heap.size=w1.heap.size+1:=by simp
 generalize w1.alloc (.cells #[.int .u8 0,.int .u8 0,.int .u8 0] 122)=w2 at *;have g3:=Ch.alloc [] w2 (.cells #[.pointer none,.slice none 0 0] 126);have I:=zIF w2 (B:=w.heap.size) (by omega);rw [← hW] at g3 I;rw [z1] at B;rw [show w2.heap.size=w.heap.size+1+1 from by omega] at I;exact ⟨(A.keep g2 (by simp)).keep g3 (by simp),⟨B.keep g3 (by simp),rfl⟩,I,g1.trans (g2.trans g3)⟩
set_option maxRecDepth 100000 in
set_option maxHeartbeats 1600000 in
theorem text_any{Ds:List zAE}{w:World}{pv ev:Value}(hc:zA9 w Ds 0 pv ev)(hD:∀D,D∈Ds→zAb D)(hn:Ds.length≤3)(text:List UInt8)(ht:text.length≤140737488355328)(hl:(zAh Ds text).length≤140737488355328):
  Calls Tryz.prog 25 #[.agg #[pv,ev],.string (str text)] w fun e w'=>e= .returned (.string (str (zAh Ds text)))∧Ch [] w w':=by
 have hsz:(str text).size≤140737488355328:=by rw [zA1];exact ht
 have HZ:=hide (zA1 text);obtain ⟨n,m,c,d,rfl,rfl,hen,hem⟩:=hc.funcs;have HM:=hide (zLU Ds hD hn text)
 have HL:Hid ((zAT Ds [0,0,0] text).2.length+(endC Ds (zAT Ds [0,0,0] text).1).length≤140737488355328):=by
  show _≤_
  rw [← List.length_append,HM.out];exact hl
 clear hl;have HH:zBL Ds [0,0,0]:=zDG Ds 3 hD hn;have HC:=hide hc;clear hc;go_enter Tryz.func25,Tryz.ntmps25;go_wp2_with fail;generalize hW0:((w.alloc (.cells #[.func (.func n) #[] c,.func (.func m) #[] d] 77)).alloc (.cells #[.int .u8 0,.int .u8 0,.int .u8 0] 122)).alloc (.cells #[.pointer none,.slice none 0 0] 126)=W0;obtain ⟨R0,S0,I0,g0⟩:=zMN hW0.symm;clear hW0
 go_loopw [7,10] (fun _ i w5=>∃j:Nat,j≤(str text).size∧i= .int .i64 j∧Hid (zBR w.heap.size (w.heap.size+1) (w.heap.size+1+1) [] [] (zAT Ds [0,0,0] (text.take j)) w (.returned (.tuple #[])) w5)∧Hid (zA9 w5 Ds 0 (.func (.func n) #[] c) (.func (.func m) #[] d))∧Hid (zAD w5 w.heap.size #[.func (.func n) #[] c,.func (.func m) #[] d] 77)) (fun _ i _=>(str text).size - (intOf i).toNat)
 case atStart=>exact ⟨0,Nat.zero_le _,rfl,by
   show zBR _ _ _ _ _ _ _ _ _
   rw [List.take_zero,zEl Ds _ HH.len]
   exact ⟨rfl,S0,I0,Fr.ch g0 (Nat.le_refl _) (by simp)⟩,zA9.kp (Kp.ch g0) _ _ _ _ HC.out,R0⟩
 case round=>
  obtain ⟨j,hj,rfl,H5,C5,R5⟩:=hrel
  by_cases hlt:(j:Int)<(str text).size
  ·have d0:=R5.out.cell 0 _ rfl
   have hlt':j<text.length:=by have:=HZ.out;omega
   have HX:∀h:j<(str text).size,(str text)[j]=text[j]:=fun _=>by first | rfl | (show (str text).data[j]=_;simp [str])
   have H5d:Hid (zBR w.heap.size (w.heap.size+1) (w.heap.size+1+1) [] [] (zAT Ds [0,0,0] (text.take j)) w (.returned (.tuple #[])) wr.drew):=⟨rfl,H5.out.2.1,H5.out.2.2.1,H5.out.2.2.2.trans (Fr.ch (Ch.drew [] wr) (by have:=H5.out.2.2.1.lt;omega) (by simp))⟩;have C5d:Hid (zA9 wr.drew Ds 0 (.func (.func n) #[] c) (.func (.func m) #[] d)):=zA9.kp (Kp.ch (Ch.drew [] wr)) _ _ _ _ C5.out
   have CALL:Calls Tryz.prog n (#[.pointer (some ⟨w.heap.size+1,0,none⟩),.int .u8 (text[j].toNat:Nat),.pointer (some ⟨w.heap.size+1+1,0,none⟩)]++c) wr.drew (zBR w.heap.size (w.heap.size+1) (w.heap.size+1+1) [] ([]++(zAT Ds [0,0,0] (text.take j)).2) (zAT Ds (zAT Ds [0,0,0] (text.take j)).1 [text[j]]) wr.drew):=by
    have ok:=zCa Ds [0,0,0] (text.take j) hD HH;have b1:=zHS Ds [0,0,0] text (j+1);rw [zEI Ds [0,0,0] hlt',List.length_append] at b1;exact zIR Ds 0 n c hD (by omega) wr.drew _ w.heap.size (w.heap.size+1) (w.heap.size+1+1) [] (zAT Ds [0,0,0] (text.take j)).1 ([]++(zAT Ds [0,0,0] (text.take j)).2) text[j] C5d.out rfl ok.1 H5d.out.2.1 H5d.out.2.2.1 (by omega) (by have:=HL.out;simp only [List.nil_append];omega)
   have CA:=hide CALL;clear CALL
   have NEXT:∀w6 e6,zBR w.heap.size (w.heap.size+1) (w.heap.size+1+1) [] ([]++(zAT Ds [0,0,0] (text.take j)).2) (zAT Ds (zAT Ds [0,0,0] (text.take j)).1 [text[j]]) wr.drew e6 w6→Hid (zBR w.heap.size (w.heap.size+1) (w.heap.size+1+1) [] [] (zAT Ds [0,0,0] (text.take (j+1))) w (.returned (.tuple #[])) w6)∧Hid (zA9 w6 Ds 0 (.func (.func n) #[] c) (.func (.func m) #[] d))∧Hid (zAD w6 w.heap.size #[.func (.func n) #[] c,.func (.func m) #[] d] 77):=by
    intro w6 e6 h6;have kp:=h6.2.2.2.kp H5d.out.2.1.1 H5d.out.2.2.1;exact ⟨H5d.out.more hlt' h6,zA9.kp kp _ _ _ _ C5d.out,kp _ _ _ (show zAD wr.drew w.heap.size _ _ from R5.out) (by decide) (by decide) (by decide)⟩
   have NX:=hide NEXT;clear NEXT;go_wp2_with fail
   go_region_with ((refine CA.out.mono ?_;rintro e w6 h6;obtain ⟨n1,n2,n3⟩:=NX.out w6 e h6;obtain ⟨rfl,_⟩:=h6))
   all_goals
    go_wp2_with fail;exact ⟨⟨j+1,by omega,by go_num,n1,n2,n3⟩,by simp [intOf];omega⟩
  ·have e:j=text.length:=by have:=HZ.out;omega
   subst e;have H6:=H5;rw [List.take_length] at H6;have d1:=R5.out.cell 1 _ rfl;go_wp2_with fail;refine (zKS Ds 0 m d hD (by omega) wr _ w.heap.size (w.heap.size+1) (w.heap.size+1+1) [] (zAT Ds [0,0,0] text).1 ([]++(zAT Ds [0,0,0] text).2) C5.out rfl (zCa Ds [0,0,0] text hD HH).1 H6.out.2.1 H6.out.2.2.1 (by omega) (by have:=HL.out;simp only [List.nil_append];omega)).mono ?_;rintro e w6 ⟨rfl,I6,F6,_⟩;have hM:([]++(zAT Ds [0,0,0] text).2)++endC Ds (zAT Ds [0,0,0] text).1=zAh Ds text:=HM.out;rw [hM] at I6;have I6x:=hide I6;clear I6 hM;have F6x:Hid (Fr w.heap.size (w.heap.size+1) (w.heap.size+1+1) w w6):=H6.out.2.2.2.trans F6;go_wp2_with fail;refine (zGc (w.heap.size+1) I6x.out F6x.out.size).mono ?_;rintro e w7 ⟨rfl,F7⟩;go_wp2_with fail;go_ret;exact ⟨rfl,Ch.ofBelow (F6x.out.1.trans F7.1) (Nat.le_refl _)⟩
end Go.Proofs.YteobgfbgglfkbaaGreat
