import Derived.Test.YteobgfbgglfkbaaGreatJP4
namespace Go.Proofs.YteobgfbgglfkbaaGreat
open Go.RowKit
attribute [local go_sem ↓] Go.wp_at_zero Go.wp_at_succ
theorem zN8{w:World}{D:zAE}(hs:D.swap=true)(hD:zAb D){h:Nat}(hh:zD9 D h)(c:UInt8):
  Calls Tryz.prog 237 #[.agg #[.string D.one,.string D.two],.int .u8 h,.int .u8 c.toNat] w fun e w'=>e= .returned (.tuple #[.int .u8 (putD D h c).1,.string (str (putD D h c).2)])∧Ch [] w w':=by
 have h1:=hD.1 hs;have h2:=hh hs;have:=zKc (w:=w) D.one.data.toList D.two.data.toList h (by rw [zAu];exact h2) (by rw [zAu];omega) c;rw [zCw,zCw] at this;unfold putD;simp only [hs,if_true];exact this
theorem zNB{w:World}{D:zAE}(hs:D.swap=false){rb:Nat}(hB:zAD w rb (zBe fun j=>zCE D.rules (UInt8.ofNat j)) 219)(h:Nat)(c:UInt8):
  Calls Tryz.prog 242 #[.pointer (some ⟨rb,0,none⟩),.int .u8 h,.int .u8 c.toNat] w fun e w'=>e= .returned (.tuple #[.int .u8 (putD D h c).1,.string (str (putD D h c).2)])∧Ch [] w w':=by
 have:=zJT hB h c;unfold putD;simp only [hs];rw [show UInt8.ofNat c.toNat=c from by simp] at this;exact this
theorem zOT (W : World) (x y : ByteArray) (m : String) (hm : m = "Put" ∨ m = "End") : Sem.run Tryz.prog (nilAhead 461 182 (.agg #[.string x, .string y]) m) W = .ok (some false) W := by
 rcases hm with rfl | rfl <;>kernel_rfl
theorem zKq (W : World) (p : Addr) (m : String) (hm : m = "Put" ∨ m = "End") : Sem.run Tryz.prog (nilAhead 461 183 (.pointer (some p)) m) W = .ok (some false) W := by
 rcases hm with rfl | rfl <;>kernel_rfl
theorem zLB (W : World) (x y : ByteArray) : Sem.run Tryz.prog (method 461 182 (.agg #[.string x, .string y]) "Put") W = .ok (237, .agg #[.string x, .string y]) W ∧ Sem.run Tryz.prog (method 461 182 (.agg #[.string x, .string y]) "End") W = .ok (236, .agg #[.string x, .string y]) W := by
 constructor <;>kernel_rfl
theorem zJH (W : World) (p : Addr) : Sem.run Tryz.prog (method 461 183 (.pointer (some p)) "Put") W = .ok (242, .pointer (some p)) W ∧ Sem.run Tryz.prog (method 461 183 (.pointer (some p)) "End") W = .ok (241, .pointer (some p)) W := by
 constructor <;>kernel_rfl
set_option maxRecDepth 100000 in
set_option maxHeartbeats 1600000 in
theorem put_cons{D:zAE}{Ds:List zAE}{k:Nat}(hD:∀E,E∈D:: Ds→zAb E)(hk3:k+(D:: Ds).length≤3)(IH:∀n cap,zN6 Ds (k+1) n cap)(n:Nat)(cap:Array Value):zN6 (D:: Ds) k n cap:=by
 intro w re B st b pre hs l c hcv hk hh HS HB hB hl;obtain ⟨M,N,R,P,mv,rp,re',h1,h2,h3,h4,h5,h6,h7,h8⟩:=hcv
 injection h1 with h1 h1' h1''
 injection h1 with h1
 subst h1 h1'';obtain ⟨n',m',c',d',rfl,rfl,he',_⟩:=h8.funcs
 cases hs with
 |nil=>exact hh.elim
 |cons h hs=>
  have cN:=h5.cell 0 _ rfl;have cM:=h3.cell 0 _ rfl;have cP:=h6.cell 0 _ rfl;have cS:=HS.cell;rw [hk] at cS
  have hlt:(k:Int)<3:=by simp at hk3;omega
  have HD:=hide (hD D (by simp));have HHD:=hide hh.1;have H3:=hide h3;have H5:=hide h5;have H6:=hide h6;have H7:=hide h7;have H8:=hide h8;have HSx:=hide HS
  have ST:Hid (∀W,Ch [] w.drew W→W.cell? ⟨st,k,none⟩=some (.int .u8 h)):=by
   intro W g;have:=StAt.cell (w:=W) ⟨(show zAD w.drew st _ _ from HS.1).keep g (by simp),HS.2⟩
   rwa [hk] at this
  clear h3 h5 h6 h7 h8
  have hmp:∀(fn:Fn) (first cap:Array Value) (w:World),(Instr.makeFunc fn first cap).run Tryz.prog w= .ok (.func fn first cap) w:=fun _ _ _ _=>rfl
  go_enter Tryz.func84,Tryz.ntmps84;go_wp2_with fail
  go_cut [9,10] (fun a9 a10 wx=>a9= .int .u8 (putD D h c).1∧a10= .string (str (putD D h c).2)∧Ch [] w wx)
  case first=>
   rcases h4 with ⟨hsw,rfl⟩ | ⟨hsw,rb,rfl,hrb⟩
   ·have hna : ∀ W, Sem.run Tryz.prog (nilAhead 461 182 (.agg #[.string D.one, .string D.two]) "Put") W = .ok (some false) W := fun W => zOT W _ _ _ (Or.inl rfl)
    have hme : ∀ W, Sem.run Tryz.prog (method 461 182 (.agg #[.string D.one, .string D.two]) "Put") W = .ok (237, .agg #[.string D.one, .string D.two]) W := fun W => (zLB W _ _).1
    have HW:=hide hsw;clear hsw
    go_region_held3 (fun w'=>w'.cell? ⟨M,0,none⟩=some (.iface 182 (.agg #[.string D.one,.string D.two]))∧w'.cell? ⟨N,0,none⟩=some (.int .i64 k)∧w'.cell? ⟨st,k,none⟩=some (.int .u8 h)) (first | go_keep | (exact ⟨e1,e2,e3⟩)) (first | (go_at_call 237;refine (zN8 HW.out HD.out HHD.out c).mono ?_;rintro e w1 ⟨rfl,g1⟩;have e1:=zAD.cell (zAD.keep (zAD.keep H3.out (Ch.drew [] w) (by simp)) g1 (by simp)) 0 _ rfl;have e2:=zAD.cell (zAD.keep (zAD.keep H5.out (Ch.drew [] w) (by simp)) g1 (by simp)) 0 _ rfl;have e3:=ST.out w1 g1))
    all_goals
     go_wp2_with fail;go_meet;exact ⟨rfl,rfl,(Ch.drew _ _).trans g1⟩
   ·have hna : ∀ W, Sem.run Tryz.prog (nilAhead 461 183 (.pointer (some ⟨rb, 0, none⟩)) "Put") W = .ok (some false) W := fun W => zKq W _ _ (Or.inl rfl)
    have hme : ∀ W, Sem.run Tryz.prog (method 461 183 (.pointer (some ⟨rb, 0, none⟩)) "Put") W = .ok (242, .pointer (some ⟨rb, 0, none⟩)) W := fun W => (zJH W _).1
    have HW:=hide hsw;have HR:=hide hrb;clear hsw hrb
    go_region_held3 (fun w'=>w'.cell? ⟨M,0,none⟩=some (.iface 183 (.pointer (some ⟨rb,0,none⟩)))∧w'.cell? ⟨N,0,none⟩=some (.int .i64 k)∧w'.cell? ⟨st,k,none⟩=some (.int .u8 h)) (first | go_keep | (exact ⟨e1,e2,e3⟩)) (first | (go_at_call 242;refine (zNB (w:=w.drew) HW.out HR.out h c).mono ?_;rintro e w1 ⟨rfl,g1⟩;have e1:=zAD.cell (zAD.keep (zAD.keep H3.out (Ch.drew [] w) (by simp)) g1 (by simp)) 0 _ rfl;have e2:=zAD.cell (zAD.keep (zAD.keep H5.out (Ch.drew [] w) (by simp)) g1 (by simp)) 0 _ rfl;have e3:=ST.out w1 g1))
    all_goals
     go_wp2_with fail;go_meet;exact ⟨rfl,rfl,(Ch.drew _ _).trans g1⟩
  case rest=>
   obtain ⟨rfl,rfl,g1⟩:=hcut;have pk:=zIE HD.out HHD.out c
   have HF:Hid (zAT (D:: Ds) (h:: hs) [c]=((putD D h c).1:: (zAT Ds hs (putD D h c).2).1,(zAT Ds hs (putD D h c).2).2)):=by
    show _=_
    simp [zAT,feed]
   have hl2:l.length+(zAT Ds hs (putD D h c).2).2.length≤140737488355328:=by rw [HF.out] at hl;exact hl
   have HL2:=hide hl2;have HL3:=hide pk.2.2;clear pk hl hl2;generalize (putD D h c).1=h1 at *;generalize (putD D h c).2=o1 at *;have HS1:StAt wc st (pre++h:: hs):=⟨HSx.out.1.keep g1 (by simp),HSx.out.2⟩;have HB1:=hide (HB.keep g1 (by simp) (by simp));have H51:=H5.out.keep g1 (by simp);have dN:=H51.cell 0 _ rfl;have dS:=HS1.cell;have dF:=HS1.1.frozen k;rw [hk] at dS;have HS2:=hide (HS1.set h1);rw [hk] at HS2;have hst:=HS1.1.lt;clear cN cM cP cS HS;go_wp2_with fail;go_region;have g2:Ch [st] wc (wc.setCell ⟨st,k,none⟩ (.int .u8 h1)).drew:=(Ch.setCell _ (by simp) _).trans (Ch.drew _ _)
   have HS3:Hid (StAt (wc.setCell ⟨st,k,none⟩ (.int .u8 h1)).drew st ((pre++[h1])++hs)):=by
    show StAt _ _ _
    rw [List.append_assoc];exact HS2.out
   have hne:=HS1.ne HB1.out;have HB3:=hide (HB1.out.keep g2 (by simpa using Ne.symm hne) (by intro k hk;simp at hk;subst hk;exact HS1.kind));have F3:Hid (Fr B st b w (wc.setCell ⟨st,k,none⟩ (.int .u8 h1)).drew):=(Fr.ch g1 (by have:=HB.lt;omega) (by simp)).trans (Fr.ch g2 (by have:=HB1.out.lt;omega) (by simp;omega));have KP:Hid (Kp w (wc.setCell ⟨st,k,none⟩ (.int .u8 h1)).drew):=F3.out.kp HSx.out.1 HB;clear dN dS dF HS1 HS2 g2;generalize (wc.setCell ⟨st,k,none⟩ (.int .u8 h1)).drew=w3 at *;have B6:=KP.out _ _ _ H6.out (by decide) (by decide) (by decide);have B7:=hide (KP.out _ _ _ H7.out (by decide) (by decide) (by decide));have C8:=hide (zA9.kp KP.out _ _ _ _ H8.out);have dP:=B6.cell 0 _ rfl;go_wp2_with fail;refine (zKk (pre:=pre++[h1]) (IH n' c') he' (fun E hE=>hD E (by simp [hE])) B7.out C8.out (by simp [hk]) hh.2 HS3.out HB3.out hB (by have:=HL3.out;omega) HL2.out).mono ?_;rintro e w4 ⟨rfl,S4,I4,F4⟩;have S4x:=hide S4;have I4x:=hide I4;clear S4 I4;go_wp2_with fail
   go_end0
   refine ⟨rfl,?_,?_,F3.out.trans F4⟩
   ·rw [HF.out]
    have:=S4x.out;rw [List.append_assoc] at this;exact this
   ·rw [HF.out];exact I4x.out
theorem zIR:∀(Ds:List zAE) (k n:Nat) (cap:Array Value),(∀D,D∈Ds→zAb D)→k+Ds.length≤3→zN6 Ds k n cap
 |[],k,n,cap,_,_=>by
  intro w re B st b pre hs l c hcv hk hh HS HB hB hl;obtain ⟨h1,h2⟩:=hcv
  injection h1 with h1 _ h1'
  injection h1 with h1
  subst h1 h1';exact put_nil k w re B st b pre hs l c ⟨rfl,h2⟩ hk hh HS HB hB hl
 |D:: Ds,k,n,cap,hD,hk=>put_cons hD hk (fun n' cap'=>zIR Ds (k+1) n' cap' (fun E hE=>hD E (by simp [hE])) (by simp at hk;omega)) n cap
end Go.Proofs.YteobgfbgglfkbaaGreat
