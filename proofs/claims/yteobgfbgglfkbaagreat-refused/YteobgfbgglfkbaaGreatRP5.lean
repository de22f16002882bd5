import Derived.Test.YteobgfbgglfkbaaGreatRP4
set_option maxHeartbeats 1600000
set_option maxRecDepth 100000
namespace Go.Proofs.YteobgfbgglfkbaaGreat
open Go.RowKit
attribute [local go_sem ↓] Go.wp_at_zero Go.wp_at_succ
theorem GJ{w:World}{D:zH}(hs:D.swap=true)(hD:yR D){h:Nat}(hh:Yc D h)(c:UInt8):
 Calls Tryz.prog 237 #[.agg #[.string D.one,.string D.two],.int .u8 h,.int .u8 c.toNat] w fun e w'=>e= .returned (.tuple #[.int .u8 (jR D h c).1,.string (zG (jR D h c).2)])/\Ch [] w w':=by
 have h1:=hD.1 hs;have h2:=hh hs;have:=aO (w:=w) D.one.data.toList D.two.data.toList h (by rw[JF];exact h2) (by rw[JF];omega) c;rw[Zx,Zx]at this;unfold jR;simp only[hs,if_true];exact this
theorem Oc{w:World}{D:zH}(hs:D.swap=false){rb:Nat}(hB:zE w rb (je fun j=>yN D.rules (UInt8.ofNat j)) 219)(h:Nat)(c:UInt8):
 Calls Tryz.prog 242 #[.pointer (some ⟨rb,0,none⟩),.int .u8 h,.int .u8 c.toNat] w fun e w'=>e= .returned (.tuple #[.int .u8 (jR D h c).1,.string (zG (jR D h c).2)])/\Ch [] w w':=by
 have:=Fe hB h c;unfold jR;simp only[hs];rw[show UInt8.ofNat c.toNat=c from by simp]at this;exact this
theorem Bq (W : World) (x y : ByteArray) (m : String) (hm : m = "Put" ∨ m = "End") : Sem.run Tryz.prog (nilAhead 461 182 (.agg #[.string x, .string y]) m) W = .ok (some false) W := by
 rcases hm with rfl|rfl <;>kernel_rfl
theorem BS (W : World) (p : Addr) (m : String) (hm : m = "Put" ∨ m = "End") : Sem.run Tryz.prog (nilAhead 461 183 (.pointer (some p)) m) W = .ok (some false) W := by
 rcases hm with rfl|rfl <;>kernel_rfl
theorem AF (W : World) (x y : ByteArray) : Sem.run Tryz.prog (method 461 182 (.agg #[.string x, .string y]) "Put") W = .ok (237, .agg #[.string x, .string y]) W ∧ Sem.run Tryz.prog (method 461 182 (.agg #[.string x, .string y]) "End") W = .ok (236, .agg #[.string x, .string y]) W := by
 constructor <;>kernel_rfl
theorem EJ (W : World) (p : Addr) : Sem.run Tryz.prog (method 461 183 (.pointer (some p)) "Put") W = .ok (242, .pointer (some p)) W ∧ Sem.run Tryz.prog (method 461 183 (.pointer (some p)) "End") W = .ok (241, .pointer (some p)) W := by
 constructor <;>kernel_rfl
theorem Hg{D:zH}{Ds:List zH}{k:Nat}(hD:∀E,E∈D:: Ds->yR E)(hk3:k+(D:: Ds).length<=3)(IH:∀n cap,UI Ds (k+1) n cap)(n:Nat)(cap:Array Value):UI (D:: Ds) k n cap:=by
 intro w re B st b pre hs l c hcv hk hh HS HB hB hl;obtain⟨M,N,R,P,mv,rp,re',h1,h2,h3,h4,h5,h6,h7,h8⟩:=hcv
 injection h1 with h1 h1' h1''
 injection h1 with h1
 subst h1 h1'';obtain⟨n',m',c',d',rfl,rfl,he',_⟩:=h8.funcs
 cases hs with
 |nil=>exact hh.elim
 |cons h hs=>
  have cN:=h5.cl 0 _ rfl;have cM:=h3.cl 0 _ rfl;have cP:=h6.cl 0 _ rfl;have cS:=HS.cl;rw[hk]at cS
  have hlt:(k:Int)<3:=by simp at hk3;omega
  have HD:=zC (hD D (by simp));have HHD:=zC hh.1;have H3:=zC h3;have H5:=zC h5;have H6:=zC h6;have H7:=zC h7;have H8:=zC h8;have HSx:=zC HS
  have ST:Hd (∀W,Ch [] w.drew W->W.cell? ⟨st,k,none⟩=some (.int .u8 h)):=by
   intro W g;have:=ja.cl (w:=W) ⟨(show zE w.drew st _ _ from HS.1).kp g (by simp),HS.2⟩
   rwa [hk]at this
  clear h3 h5 h6 h7 h8
  have hmp:∀(fn:Fn) (first cap:Array Value) (w:World),(Instr.makeFunc fn first cap).run Tryz.prog w= .ok (.func fn first cap) w:=fun _ _ _ _=>rfl
  go_enter Tryz.func84,Tryz.ntmps84;go_wp2_with fail
  go_cut [9,10] (fun a9 a10 wx=>a9= .int .u8 (jR D h c).1/\a10= .string (zG (jR D h c).2)/\Ch [] w wx)
  case first=>
   rcases h4 with⟨hsw,rfl⟩|⟨hsw,rb,rfl,hrb⟩
   ·have hna : ∀ W, Sem.run Tryz.prog (nilAhead 461 182 (.agg #[.string D.one, .string D.two]) "Put") W = .ok (some false) W := fun W => Bq W _ _ _ (Or.inl rfl)
    have hme : ∀ W, Sem.run Tryz.prog (method 461 182 (.agg #[.string D.one, .string D.two]) "Put") W = .ok (237, .agg #[.string D.one, .string D.two]) W := fun W => (AF W _ _).1
    have HW:=zC hsw;clear hsw
    go_region_held3 (fun w'=>w'.cell? ⟨M,0,none⟩=some (.iface 182 (.agg #[.string D.one,.string D.two]))/\w'.cell? ⟨N,0,none⟩=some (.int .i64 k)/\w'.cell? ⟨st,k,none⟩=some (.int .u8 h)) (first|go_keep|(exact⟨e1,e2,e3⟩)) (first|(go_at_call 237;refine(GJ HW.o HD.o HHD.o c).mono ?_;rintro e w1 ⟨rfl,g1⟩;have e1:=zE.cl (zE.kp (zE.kp H3.o (Ch.drew [] w) (by simp)) g1 (by simp)) 0 _ rfl;have e2:=zE.cl (zE.kp (zE.kp H5.o (Ch.drew [] w) (by simp)) g1 (by simp)) 0 _ rfl;have e3:=ST.o w1 g1))
    all_goals
     go_wp2_with fail;go_meet;exact⟨rfl,rfl,(Ch.drew _ _).trans g1⟩
   ·have hna : ∀ W, Sem.run Tryz.prog (nilAhead 461 183 (.pointer (some ⟨rb, 0, none⟩)) "Put") W = .ok (some false) W := fun W => BS W _ _ (Or.inl rfl)
    have hme : ∀ W, Sem.run Tryz.prog (method 461 183 (.pointer (some ⟨rb, 0, none⟩)) "Put") W = .ok (242, .pointer (some ⟨rb, 0, none⟩)) W := fun W => (EJ W _).1
    have HW:=zC hsw;have HR:=zC hrb;clear hsw hrb
    go_region_held3 (fun w'=>w'.cell? ⟨M,0,none⟩=some (.iface 183 (.pointer (some ⟨rb,0,none⟩)))/\w'.cell? ⟨N,0,none⟩=some (.int .i64 k)/\w'.cell? ⟨st,k,none⟩=some (.int .u8 h)) (first|go_keep|(exact⟨e1,e2,e3⟩)) (first|(go_at_call 242;refine(Oc (w:=w.drew) HW.o HR.o h c).mono ?_;rintro e w1 ⟨rfl,g1⟩;have e1:=zE.cl (zE.kp (zE.kp H3.o (Ch.drew [] w) (by simp)) g1 (by simp)) 0 _ rfl;have e2:=zE.cl (zE.kp (zE.kp H5.o (Ch.drew [] w) (by simp)) g1 (by simp)) 0 _ rfl;have e3:=ST.o w1 g1))
    all_goals
     go_wp2_with fail;go_meet;exact⟨rfl,rfl,(Ch.drew _ _).trans g1⟩
  case rest=>
   obtain⟨rfl,rfl,g1⟩:=hcut;have pk:=UV HD.o HHD.o c
   have HF:Hd (zT (D:: Ds) (h:: hs) [c]=((jR D h c).1:: (zT Ds hs (jR D h c).2).1,(zT Ds hs (jR D h c).2).2)):=by
    show _=_
    simp[zT,feed]
   have hl2:l.length+(zT Ds hs (jR D h c).2).2.length<=140737488355328:=by rw[HF.o]at hl;exact hl
   have HL2:=zC hl2;have HL3:=zC pk.2.2;clear pk hl hl2;generalize (jR D h c).1=h1 at *;generalize (jR D h c).2=o1 at *;have HS1:ja wc st (pre++h:: hs):=⟨HSx.o.1.kp g1 (by simp),HSx.o.2⟩;have HB1:=zC (HB.kp g1 (by simp) (by simp));have H51:=H5.o.kp g1 (by simp);have dN:=H51.cl 0 _ rfl;have dS:=HS1.cl;have dF:=HS1.1.fz k;rw[hk]at dS;have HS2:=zC (HS1.set h1);rw[hk]at HS2;have hst:=HS1.1.lt;clear cN cM cP cS HS;go_wp2_with fail;go_region;have g2:Ch [st] wc (wc.setCell ⟨st,k,none⟩ (.int .u8 h1)).drew:=(Ch.setCell _ (by simp) _).trans (Ch.drew _ _)
   have HS3:Hd (ja (wc.setCell ⟨st,k,none⟩ (.int .u8 h1)).drew st ((pre++[h1])++hs)):=by
    show ja _ _ _
    rw[List.append_assoc];exact HS2.o
   have hne:=HS1.ne HB1.o;have HB3:=zC (HB1.o.kp g2 (by simpa using Ne.symm hne) (by intro k hk;simp at hk;subst hk;exact HS1.kind));have F3:Hd (Fr B st b w (wc.setCell ⟨st,k,none⟩ (.int .u8 h1)).drew):=(Fr.ch g1 (by have:=HB.lt;omega) (by simp)).trans (Fr.ch g2 (by have:=HB1.o.lt;omega) (by simp;omega));have KP:Hd (Kp w (wc.setCell ⟨st,k,none⟩ (.int .u8 h1)).drew):=F3.o.kp HSx.o.1 HB;clear dN dS dF HS1 HS2 g2;generalize (wc.setCell ⟨st,k,none⟩ (.int .u8 h1)).drew=w3 at *;have B6:=KP.o _ _ _ H6.o (by decide) (by decide) (by decide);have B7:=zC (KP.o _ _ _ H7.o (by decide) (by decide) (by decide));have C8:=zC (j5.kp KP.o _ _ _ _ H8.o);have dP:=B6.cl 0 _ rfl;go_wp2_with fail;refine(AC (pre:=pre++[h1]) (IH n' c') he' (fun E hE=>hD E (by simp[hE])) B7.o C8.o (by simp[hk]) hh.2 HS3.o HB3.o hB (by have:=HL3.o;omega) HL2.o).mono ?_;rintro e w4 ⟨rfl,S4,I4,F4⟩;have S4x:=zC S4;have I4x:=zC I4;clear S4 I4;go_wp2_with fail
   go_end0
   refine⟨rfl,?_,?_,F3.o.trans F4⟩
   ·rw[HF.o]
    have:=S4x.o;rw[List.append_assoc]at this;exact this
   ·rw[HF.o];exact I4x.o
theorem Md:∀(Ds:List zH) (k n:Nat) (cap:Array Value),(∀D,D∈Ds->yR D)->k+Ds.length<=3->UI Ds k n cap
 |[],k,n,cap,_,_=>by
  intro w re B st b pre hs l c hcv hk hh HS HB hB hl;obtain⟨h1,h2⟩:=hcv
  injection h1 with h1 _ h1'
  injection h1 with h1
  subst h1 h1';exact GP k w re B st b pre hs l c ⟨rfl,h2⟩ hk hh HS HB hB hl
 |D:: Ds,k,n,cap,hD,hk=>Hg hD hk (fun n' cap'=>Md Ds (k+1) n' cap' (fun E hE=>hD E (by simp[hE])) (by simp at hk;omega)) n cap
end Go.Proofs.YteobgfbgglfkbaaGreat
