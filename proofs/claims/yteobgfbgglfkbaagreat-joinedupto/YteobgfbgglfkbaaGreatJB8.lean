import Derived.Test.YteobgfbgglfkbaaGreatJB7
import Derived.Deep.RegionHeldLaw
set_option maxHeartbeats 6400000
set_option maxRecDepth 100000
namespace Go.Proofs.YteobgfbgglfkbaaGreat
open Go.RowKit
attribute [local go_sem ↓] Go.wp_at_zero Go.wp_at_succ
def jB{α:Type}(f:St->St)(r:Except Nat (α×St)):Except Nat (α×St):=match r with|.ok (x,s)=> .ok (x,f s)|.error d=> .error d
theorem YH{q:Bool}{e a:Int}{s:St}{j:Nat}:({zL q e a s with i:=j}:St)=zL q e a {s with i:=j}:=by
 unfold zL;split <;>rfl
theorem MH{S:ByteArray}{q:Bool}{e a:Int}{s:St}:yA S (zL q e a s)=jB (zL q e a) (yA S s):=by
 unfold yA;simp only[ym]
 split
 ·rfl
 ·simp only[jB,YH]
theorem So{S:ByteArray}{s s':St}{x:ByteArray}{p:Nat}(h:yA S s= .ok ((x,p),s')):p=run zI S s.i:=by
 unfold yA at h;simp only at h
 split at h
 ·cases h
 ·injection h with h;injection h with h1 h2;injection h1 with h3 h4;exact h4.symm
def Y9(S:ByteArray)(ns:List ByteArray)(n:Nat)(s:St)(L:List Int):Except Nat (List Int×St):=
 if bt S (run zI S s.i)=59 then .ok (L,s.sk S)else jl S ns n (s.sk S) L
theorem Aq{S:ByteArray}{ns:List ByteArray}{n:Nat}{s s2:St}{L:List Int}{ix:Int}(h:yK S ns (zL (decide (3<=(L.length:Int))) 3 (run zI S s.i) s)= .ok (ix,s2)):jl S ns (n+1) s L=Y9 S ns n s2 (L++[ix]):=by
 unfold yK at h;rw[MH]at h
 cases hn:yA S s with
 |error d=>rw[hn]at h;cases h
 |ok q=>
  obtain⟨⟨y,p⟩,s1⟩:=q;have hp:=So hn;rw[hn]at h;simp only[jB]at h
  injection h with h;injection h with e1 e2;subst e1 e2
  simp only[jl,hn,Y9,hp]
theorem NH{S:ByteArray}{ns:List ByteArray}{n:Nat}{s:St}{L:List Int}{d:Nat}(h:yK S ns (zL (decide (3<=(L.length:Int))) 3 (run zI S s.i) s)= .error d):jl S ns (n+1) s L= .error d:=by
 unfold yK at h;rw[MH]at h
 cases hn:yA S s with
 |error d'=>rw[hn]at h;injection h with h;subst h;simp only[jl,hn]
 |ok q=>obtain⟨⟨y,p⟩,s1⟩:=q;rw[hn]at h;cases h
theorem Cm{S:ByteArray}{ns:List ByteArray}{n:Nat}{s:St}{L:List Int}(hi:s.i<=S.size)(h:¬zV S (run zI S s.i)=2):jl S ns (n+1) s L= .error (run zI S s.i):=by
 have l1:=zn zI S s.i hi
 have hn:yA S s= .error (run zI S s.i):=by
  have:=Lh l1.2;unfold yA;simp only
  rw[if_pos (by
   by_cases hh:(S.extract (run zI S s.i) (run zR S (run zI S s.i))).size=0\/JS js (S.extract (run zI S s.i) (run zR S (run zI S s.i)))=true\/8<(S.extract (run zI S s.i) (run zR S (run zI S s.i))).size
   ·exact hh
   ·exact absurd (this.2 hh) h)]
 simp only[jl,hn]
theorem Wj{S:ByteArray}{nc:List ByteArray}{s s':St}{i:Int}(hi:s.i<=S.size)(h:yK S nc s= .ok (i,s')):s.i<s'.i/\s'.i<=S.size:=by
 unfold yK at h
 cases hn:yA S s with
 |error d=>rw[hn]at h;cases h
 |ok q=>
  obtain⟨⟨x,a⟩,s1⟩:=q;rw[hn]at h
  injection h with h;injection h with _ h;subst h
  rw[ym];have l1:=Ur hi hn;have e1:=EH hn;refine⟨?_,l1.2.1⟩
  have hx:0<x.size:=by
   unfold yA at hn;simp only at hn
   split at hn
   ·cases hn
   ·rename_i hh
    injection hn with hn;injection hn with h1 h2;injection h1 with h3 h4;subst h3
    rcases Nat.eq_zero_or_pos (S.extract (run zI S s.i) (run zR S (run zI S s.i))).size with h0|h0
    ·exact absurd (Or.inl h0) hh
    ·exact h0
  have:x.size=s1.i - a:=by rw[e1];simp;omega
  omega
def L0(S:ByteArray)(w:World)(b X:Nat)(x:ByteArray)(v5 v6 v7:Value)(ns:List ByteArray)(r:Except Nat (List Int×St))(w5:World):Prop:=
 ∃(s5:St) (L:List Int) (va:Option Addr) (vc m:Nat),zE w5 X #[.string x,.slice va L.length vc] 79/\w5.ownsRow 0 3 1 (.slice va L.length vc) L.length (L.map (Value.int .i64))/\(∀g,(Value.slice va L.length vc).ownBlock=some g->w.heap.size<=g/\g<w5.heap.size/\g≠X)/\
  zP w5 b S s5 v5 v6 v7/\s5.i<=S.size/\L.length<=s5.i/\S.size<m+s5.i/\Ch [b] w w5/\r=Y9 S ns m s5 L
theorem OV{w W:World}{lo b:Nat}{S:ByteArray}{F G:Nat->Prop}{a0:Option Addr}{c0:Nat}{v5 v7:Value}{sv:List (zH×Value)}{cv:List (zZ×Value)}{av:List (ze×Value×Value)}{s':St}{R:Except Nat (yt×St)}{D:zZ}{vr:Value}
 (hp:yZ w lo b F v5 (.slice a0 cv.length c0) v7 sv cv av) (gW:Ch [b] w W) (hlo:lo<=w.heap.size) (hbl:b<w.heap.size) (hW:zP W b S s' v5 (.slice a0 cv.length c0) v7) (hi:s'.i<=S.size)
 (hR:R= .ok (⟨sv.map (fun p=>p.1),(cv++[(D,vr)]).map (fun p=>p.1),av.map (fun p=>p.1)⟩,s')) (hrep:j9 W G vr D.scrubs) (hG:∀k,G k->w.heap.size<=k/\k<W.heap.size):
 ∀(g cap:Nat) (w7:World),w7.ownsRow 0 79 2 (.slice (some ⟨g,0,none⟩) (cv.length+1) cap) (cv.length+1) (jI cv++[.string D.name,vr])->Ch (Value.slice a0 cv.length c0).ownBlock.toList (W.drew.alloc (.cells #[.string D.name,vr] 79)) w7->((Value.slice a0 cv.length c0).ownBlock=some g\/g=W.heap.size+1)->g<w7.heap.size->
  YB w lo b S R (.returned (.tuple #[])) (w7.setCell ⟨b,6,none⟩ (.slice (some ⟨g,0,none⟩) (cv.length+1) cap)):=by
 intro g cap w7 own7 gr7 hat7 hlt7;have gA:Ch [] W (W.drew.alloc (.cells #[.string D.name,vr] 79)):=(Ch.drew [] W).trans (Ch.alloc _ _ _)
 have zA:(W.drew.alloc (.cells #[.string D.name,vr] 79)).heap.size=W.heap.size+1:=by
  show(W.heap.push _).size=_;simp
 have zW:=gW.size;have hpW:=hp.kp gW (by simp)
 have nb:b∉(Value.slice a0 cv.length c0).ownBlock.toList:=by simp;intro e;exact(hp.bc b e).2.2.1 rfl
 have gD:Ch [b] w7 (w7.setCell ⟨b,6,none⟩ (.slice (some ⟨g,0,none⟩) (cv.length+1) cap)):=Ch.setCell _ (by simp) _;have z7:=gr7.size;have h8:=(((hW.kp gA (by simp)).kp gr7 nb).set.2.2.2.2.2.1) (.slice (some ⟨g,0,none⟩) (cv.length+1) cap)
 have hz8:(w7.setCell ⟨b,6,none⟩ (.slice (some ⟨g,0,none⟩) (cv.length+1) cap)).heap.size=w7.heap.size:=by simp[World.setCell]
 have hgb:g≠b:=by
  rcases hat7 with e|e
  ·exact(hp.bc g e).2.2.1
  ·omega
 refine⟨?_,Or.inl ⟨s',fun k=>F k\/G k,_,_,_,_,_,_,hR,rfl,h8,?_,hi⟩⟩
 ·refine((gW.trans (gA.mono (by simp))).belb (by omega) (by simp)).trans ((gr7.belb (by omega) ?_).trans (gD.belb (by omega) (by simp)))
  intro k hk;simp at hk;exact Or.inr (hp.bc k hk).1
 ·refine hpW.addChain (D:=D) (vr:=vr) (H:=W.heap.size+1) (fun k hk=> ?_) hrep ?_ (fun k h1 h2 h3=> ?_) hat7 (by omega) (by omega) (by omega) (by omega) (by omega)
  ·have h1:=hG k hk
   refine⟨by omega,by omega,by omega,fun e=> ?_,fun e=> ?_,fun e=> ?_⟩
   ·have:=hp.bs k e;omega
   ·have:=hp.bc k e;omega
   ·have:=hp.ba k e;omega
  ·exact zJ own7 gD (fun k hk=>by simp[Value.ownBlock]at hk;subst hk;simpa using hgb)
  ·rw[Below.heap_setCell _ _ _ _ (by simpa using h3),gr7.block k (by omega) (by simpa using h2),gA.block k h1 (by simp)]
theorem PY{w:World}{lo b:Nat}{S:ByteArray}{s:St}{F:Nat->Prop}{v5 v6 v7:Value}{sv:List (zH×Value)}{cv:List (zZ×Value)}{av:List (ze×Value×Value)}(h:zP w b S s v5 v6 v7)(hS:S.size<=400)(hi:s.i<=S.size)(hp:yZ w lo b F v5 v6 v7 sv cv av)(hlo:lo<=w.heap.size)(hn:sv.length<=400)(hc:cv.length<=400):
 Calls Tryz.prog 77 #[.pointer (some ⟨b,0,none⟩)] w (YB w lo b S (jg S Jj ⟨sv.map (fun p=>p.1),cv.map (fun p=>p.1),av.map (fun p=>p.1)⟩ s)):=by
 obtain⟨a0,c0,rfl⟩:=zQ hp.rs;obtain⟨a6,c6,rfl⟩:=zQ hp.rc;have hbl:=h.lt;generalize hR0:jg S Jj ⟨sv.map (fun p=>p.1),cv.map (fun p=>p.1),av.map (fun p=>p.1)⟩ s=R;have HR0:=zC hR0;clear hR0;go_enter Tryz.func77,Tryz.ntmps77;go_wp2_with fail;refine(Qx h hS hi (k:=17) (W:=Jj) (by omega) rfl).mono ?_;rintro e w1 ⟨g1,⟨x1,p1,s1,hl1,rfl,h1,hi1⟩|⟨d,hl,hg⟩⟩
 ·have HR1:Hd (∀r,YV S (sv.map fun p=>p.1.name) (cv.map fun p=>p.1.name) (zL (decide (4<=(cv.length:Int))) 3 p1 s1)=r->(∀d,r= .error d->R= .error d)/\
   (∀x s3,r= .ok (x,s3)->(∀d,zh S 61 s3= .error d->R= .error d)/\(∀s4,zh S 61 s3= .ok s4->(∀d,jl S (sv.map fun p=>p.1.name) (S.size+1) s4 []= .error d->R= .error d)/\
     (∀L s5,jl S (sv.map fun p=>p.1.name) (S.size+1) s4 []= .ok (L,s5)->(∀d,zh S 59 s5= .error d->R= .error d)/\(∀s6,zh S 59 s5= .ok s6->R= .ok (⟨sv.map (fun p=>p.1),cv.map (fun p=>p.1)++[⟨x,L⟩],av.map (fun p=>p.1)⟩,s6)))))):=by
   intro r hr
   have hlen:((cv.map fun p=>p.1.name).length:Int)=cv.length:=by simp
   unfold YV at hr
   have hsc:∀r',jx S (sv.map fun p=>p.1.name) (cv.map fun p=>p.1.name) p1 s1=r'->(∀d,r'= .error d->R= .error d)/\(∀q s4,r'= .ok (q,s4)->R= .ok (⟨sv.map (fun p=>p.1),cv.map (fun p=>p.1)++[q],av.map (fun p=>p.1)⟩,s4)):=by
    intro r' hr'
    have e1:¬yQ Jj Ji=true:=by decide
    have e2:yQ Jj Jj=true:=by decide
    refine⟨fun d e=> ?_,fun q s4 e=> ?_⟩
    ·subst e;rw[<- HR0.o];simp only[jg,hl1,jb,if_neg e1,e2,if_true,XG,Wy,hr']
    ·subst e;rw[<- HR0.o];simp only[jg,hl1,jb,if_neg e1,e2,if_true,XG,Wy,hr']
   unfold jx at hsc;rw[hlen]at hsc
   cases hnm:yA S (zL (decide (4<=(cv.length:Int))) 3 p1 s1)with
   |error d0=>
    rw[hnm]at hr hsc;refine⟨fun d e=> ?_,fun x s3 e=> ?_⟩
    ·subst e;injection hr with hr;subst hr;exact(hsc _ rfl).1 _ rfl
    ·subst e;cases hr
   |ok q0=>
    obtain⟨⟨x0,a0'⟩,s0⟩:=q0;rw[hnm]at hr hsc;simp only at hr hsc;refine⟨fun d e=> ?_,fun x s3 e=> ?_⟩
    ·subst e;cases hr
    ·subst e
     injection hr with hr;injection hr with e1 e2;subst e1 e2
     refine⟨fun d e=> ?_,fun s4 e=>⟨fun d e2=> ?_,fun L s5 e2=>⟨fun d e3=> ?_,fun s6 e3=> ?_⟩⟩⟩
     ·rw[e]at hsc;exact(hsc _ rfl).1 _ rfl
     ·rw[e]at hsc;simp only[e2]at hsc;exact(hsc _ rfl).1 _ rfl
     ·rw[e]at hsc;simp only[e2,e3]at hsc;exact(hsc _ rfl).1 _ rfl
     ·rw[e]at hsc;simp only[e2,e3]at hsc;exact(hsc _ rfl).2 _ _ rfl
  clear hl1;obtain⟨c0',c1,c2,c3,c4,c5,c6',c7,fz⟩:=h1.fa;go_wp2_with fail;refine(QF h1 _ 4 _).mono ?_;rintro e w2 ⟨rfl,h2,g2⟩;clear c0' c1 c2 c3 c4 c5 c6' c7 fz
  have hi2:(zL (decide (4<=(cv.length:Int))) 3 p1 s1).i<=S.size:=by rw[ym];exact hi1
  have hp2:=hp.kp (g1.trans g2) (by simp);generalize zL (decide (4<=(cv.length:Int))) 3 p1 s1=s2 at *;go_wp2_with fail;refine(LS h2 hS hi2 hp2 (by omega) (by omega)).mono ?_;rintro e w3 ⟨g3,⟨x,s3,v,hl,rfl,hv,h3⟩|⟨d,hl,hg⟩⟩
  ·unfold WI at hv
   subst hv;have HR3:=zC ((HR1.o _ hl).2 _ _ rfl)
   have hi3:s3.i<=S.size:=by
    unfold YV at hl
    cases hnm:yA S s2 with
    |error d0=>rw[hnm]at hl;cases hl
    |ok q0=>
     obtain⟨⟨x0,a0'⟩,s0⟩:=q0;rw[hnm]at hl
     injection hl with hl;injection hl with _ hl;subst hl
     rw[ym];exact(Ur hi2 hnm).2.1
   clear hl HR1 hp2;have G3:=(g1.trans g2).trans g3;have z3:=G3.size;have h4:=h3.kp (Ch.alloc [] w3 (.cells #[.string x,.slice none 0 0] 79)) (by simp);have X4:=zE.new w3 #[.string x,.slice none 0 0] 79;have G4:=G3.trans (Ch.alloc [b] w3 (.cells #[.string x,.slice none 0 0] 79));go_wp2_with fail;generalize w3.alloc (.cells #[.string x,.slice none 0 0] 79)=w4 at *;generalize hX:w3.heap.size=X at *
   have zX:w.heap.size<=X:=by omega
   clear hX;have z4:=X4.lt;refine(Yt h4 hS hi3 (k:=8) (c:=61) (by simp[jd])).mono ?_;rintro e w5 ⟨g5,⟨s5,hl,rfl,hw5,hiw5⟩|⟨d,hl,hg⟩⟩
   ·have HR5:=zC (HR3.o.2 _ hl)
    clear hl HR3;have Xw5:=X4.kp g5 (by simp;omega);have Gw5:=G4.trans g5;have z5:=g5.size;have Ow5:w5.ownsRow 0 3 1 (.slice none 0 0) 0 (([]:List Int).map (Value.int .i64)):=⟨rfl,Or.inl ⟨rfl,rfl⟩⟩
    have Vw5:∀g,(Value.slice none 0 0).ownBlock=some g->w.heap.size<=g/\g<w5.heap.size/\g≠X:=by intro g hg;simp[Value.ownBlock]at hg
    generalize hLL:jl S (sv.map fun p=>p.1.name) (S.size+1) s5 []=LL at *;have HLL:=zC hLL;clear hLL
    have e0:zL (decide (3<=(([]:List Int).length:Int))) 3 (run zI S s5.i) s5=s5:=by
     rw[show decide (3<=(([]:List Int).length:Int))=false from rfl,Zo]
    have HLe:Hd (∀d,yK S (sv.map fun p=>p.1.name) s5= .error d->LL= .error d):=by
     intro d hd;rw[<- HLL.o];exact NH (by rw[e0];exact hd)
    have HLo:Hd (∀ix s9,yK S (sv.map fun p=>p.1.name) s5= .ok (ix,s9)->LL=Y9 S (sv.map fun p=>p.1.name) S.size s9 [ix]):=by
     intro ix s9 hd;rw[<- HLL.o,Aq (by rw[e0];exact hd)];rfl
    clear e0;have XW:=zC Xw5;have y1:=Xw5.cl 1 _ rfl;have OWx:=zC Ow5;have VWx:=zC Vw5;have zW:=Gw5.size;clear Xw5 Ow5 Vw5;go_wp2_with fail
    go_region_law (first
     |(refine Zc 50 3 1 8 (.int .i64 0) Tryz.underlying50 KY rfl (by omega) (by omega) (by rfl) _ _ (by rfl) (.slice none 0 0) 0 (([]).map (Value.int .i64)) (by rfl) O10 w9.heap.size [.int .i64 ix] (by rfl) (zr _ _) rfl (by intro u hu;simp at hu;subst hu;rfl) (by omega) (w9.heap.size+1) (by simp) ?_;intro g cap w13 own13 gr13 hat13 hlt13;have B13:=X10.kp gr13 (by simp;intro e;have:=VWx.o _ e;omega);have k13:=B13.cl 1 _ rfl;have f13:=B13.fz;have k9:=k13)
     |(go_simp;go_at_call 117;refine(Mr (w:=w5.drew) (lo:=lo) (b:=b) (S:=S) (s:=s5) (F:=F) (v5:= .slice a0 sv.length c0) (v6:= .slice a6 cv.length c6) (v7:=v7) (sv:=sv) (cv:=cv) (av:=av) hw5 hS hiw5 (hp.kp (Gw5.trans (Ch.drew _ _)) (by simp)) (by omega)).mono ?_;rintro e w9 ⟨g9,⟨ix,s9,v9,hl,rfl,hv9,h9⟩|⟨d,hl,hg⟩⟩;rotate_left;(obtain⟨rfl,ht⟩:=hg;exact zY (P:=Tryz.prog) (fn:=Tryz.f77) rfl ⟨(Gw5.trans ((Ch.drew _ _).trans g9)).belb (by omega) (by simp),Or.inr ⟨d,HR5.o.1 _ (HLe.o _ hl),⟨rfl,ht⟩⟩⟩);unfold Qf at hv9;subst hv9;have HL9:=zC hl;clear hl;have X9:=(XW.o.kp (Ch.drew [b] w5) (by simp;omega)).kp g9 (by simp;omega);have k9:=X9.cl 1 _ rfl;have O9:=zJ (zJ OWx.o (Ch.drew [] w5) (by simp)) g9 (fun k hk=>by have:=VWx.o k hk;simp;omega);have O10:=zJ O9 (Ch.alloc [] w9 (.cells #[.int .i64 ix] 3)) (by simp);have X10:=X9.kp (Ch.alloc [] w9 (.cells #[.int .i64 ix] 3)) (by simp);have k10:=X10.cl 1 _ rfl;have z9:w5.heap.size<=w9.heap.size:=g9.size;have zX9:=X9.lt))
    all_goals
     have VW:=VWx.o
     have hg6:w.heap.size<=g/\g≠X:=by
      rcases hat13 with e|e
      ·have:=VW g e;omega
      ·constructor <;>omega
     have nb:b∉(Value.slice none 0 0).ownBlock.toList:=by simp;intro e;have:=VW _ e;omega
     have z13:w9.heap.size+1<=w13.heap.size:=by have:=gr13.size;simpa using this
     have gX:Ch [X] w13 (w13.setCell ⟨X,1,none⟩ (.slice (some ⟨g,0,none⟩) (0+1) cap)):=Ch.setCell _ (by simp) _;have h14:=((h9.kp (Ch.alloc [] w9 (.cells #[.int .i64 ix] 3)) (by simp)).kp gr13 nb).kp gX (by simp;omega);have X14:zE (w13.setCell ⟨X,1,none⟩ (.slice (some ⟨g,0,none⟩) (0+1) cap)) X #[.string x,.slice (some ⟨g,0,none⟩) (0+1) cap] 79:=B13.set 1 _;have O14:=zJ own13 gX (fun k hk=>by simp[Value.ownBlock]at hk;subst hk;simpa using hg6.2)
     have G14:Ch [b] w (w13.setCell ⟨X,1,none⟩ (.slice (some ⟨g,0,none⟩) (0+1) cap)):=by
      refine Ch.trans' ((((Gw5.trans ((Ch.drew _ _).trans g9)).trans (Ch.alloc [b] _ _)).trans' gr13 (fun k hk=> ?_))) gX (by intro k hk;simp at hk;omega);simp at hk;exact Or.inr (VW k hk).1
     have z14:(w13.setCell ⟨X,1,none⟩ (.slice (some ⟨g,0,none⟩) (0+1) cap)).heap.size=w13.heap.size:=by simp[World.setCell]
     have lo9:=Wj hiw5 HL9.o;have HR9:=zC (HLo.o _ _ HL9.o)
     have INIT:L0 S w b X x (.slice a0 sv.length c0) (.slice a6 cv.length c6) v7 (sv.map fun p=>p.1.name) LL (w13.setCell ⟨X,1,none⟩ (.slice (some ⟨g,0,none⟩) (0+1) cap)):=
      ⟨s9,[ix],some ⟨g,0,none⟩,cap,S.size,X14,O14,fun k hk=>by simp[Value.ownBlock]at hk;subst hk;exact⟨hg6.1,by omega,hg6.2⟩,h14,lo9.2,by simp;omega,by omega,G14,HR9.o⟩
     have INITx:=zC INIT;have hX14:=X14.lt;clear INIT HR9 lo9 HL9 HLo HLe HLL X14 O14 h14 G14 nb hg6 VW;clear X10 O10 O9 X9 B13 k13 f13 own13 gr13 hat13 h9 g9 XW OWx VWx y1;clear k10;go_wp2_with fail
     go_loopw [] (fun w5=>L0 S w b X x (.slice a0 sv.length c0) (.slice a6 cv.length c6) v7 (sv.map fun p=>p.1.name) LL w5) (fun w5=>S.size - penI b w5)
     case atStart=>exact INITx.o
     case round=>
      generalize wr=w6 at *;clear INITx;obtain⟨s6,L,va,vc,m,X6,O6,V6,h6,hi6,hl6,hm6,g6,hr6⟩:=hrel;have HR6:=zC hr6;clear hr6;have l6:=zn zI S s6.i hi6;have z6:=g6.size
      by_cases hsg:zV S (run zI S s6.i)=2
      ·have hb59:¬bt S (run zI S s6.i)=59:=by
        intro e;have:=(Yv l6.2 (k:=9) (c:=59) (by simp[jd])).2 e;omega
       obtain⟨m,rfl⟩:∃t,m=t+1:=⟨m - 1,by omega⟩
       have HLe:Hd (∀d,yK S (sv.map fun p=>p.1.name) (zL (decide (3<=(L.length:Int))) 3 (s6.sk S).i (s6.sk S))= .error d->LL= .error d):=by
        intro d hd;rw[HR6.o];simp only[Y9,if_neg hb59];exact NH (by rw[yT,ZJ];exact hd)
       have HLo:Hd (∀ix s9,yK S (sv.map fun p=>p.1.name) (zL (decide (3<=(L.length:Int))) 3 (s6.sk S).i (s6.sk S))= .ok (ix,s9)->LL=Y9 S (sv.map fun p=>p.1.name) m s9 (L++[ix])):=by
        intro ix s9 hd;rw[HR6.o];simp only[Y9,if_neg hb59];exact Aq (by rw[yT,ZJ];exact hd)
       go_wp2_with fail;refine(Jl h6 hS hi6).mono ?_;rintro e w7 ⟨rfl,h7,g7⟩;rw[hsg];clear hsg hb59;have X7:=X6.kp g7 (by simp;omega);have O7:=zJ O6 g7 (fun k hk=>by have:=V6 k hk;simp;omega);have z7:=g7.size;have y1:=X7.cl 1 _ rfl;obtain⟨c0',c1,c2,c3,c4,c5,c6',c7,fz⟩:=h7.fa;simp only[yT]at c1;go_wp2_with fail
       go_region_held3 (fun w'=>w'.cell? ⟨b,1,none⟩=some (.int .i64 (run zI S s6.i))/\w'.cell? ⟨X,1,none⟩=some (.slice va L.length vc)) (first|go_keep|(exact⟨e1,e9⟩))
        (first|(go_at_call 113;refine(QF (S:=S) (s:=s6.sk S) (v5:= .slice a0 sv.length c0) (v6:= .slice a6 cv.length c6) (v7:=v7) ?_ _ _ _).mono ?_;exact h7;rintro e w8 ⟨rfl,h8,g8⟩;obtain⟨e4,e1⟩:=MF h8;simp only[yT]at e1;have e9:=(X7.kp ((Ch.drew [b] _).trans g8) (by simp;omega)).cl 1 _ rfl))
       rename_i hHeld
       clear hHeld e4 e1 e9 c0' c1 c2 c3 c4 c5 c6' c7 fz y1;have g78:Ch [b] w7 w8:=(Ch.drew _ _).trans g8;have Xw8:=X7.kp g78 (by simp;omega);have Ow8:=zJ O7 g78 (fun k hk=>by have:=V6 k hk;simp;omega);have z8:=g78.size
       have Vw8:∀g,(Value.slice va L.length vc).ownBlock=some g->w.heap.size<=g/\g<w8.heap.size/\g≠X:=fun g hg=>by have:=V6 g hg;omega
       have Gw8:=(g6.trans g7).trans g78;have hw8:zP w8 b S (zL (decide (3<=(L.length:Int))) 3 (s6.sk S).i (s6.sk S)) (.slice a0 sv.length c0) (.slice a6 cv.length c6) v7:=h8
       have hiw8:(zL (decide (3<=(L.length:Int))) 3 (s6.sk S).i (s6.sk S)).i<=S.size:=by rw[ym,yT];exact l6.2
       have Hi8:Hd ((zL (decide (3<=(L.length:Int))) 3 (s6.sk S).i (s6.sk S)).i=run zI S s6.i):=ym;generalize zL (decide (3<=(L.length:Int))) 3 (s6.sk S).i (s6.sk S)=s8 at *;clear h8 X7 O7 X6 O6;have XW:=zC Xw8;have y1:=Xw8.cl 1 _ rfl;have OWx:=zC Ow8;have VWx:=zC Vw8;have zW:=Gw8.size;clear Xw8 Ow8 Vw8;go_wp2_with fail
       go_region_law (first
        |(refine Zc 50 3 1 8 (.int .i64 0) Tryz.underlying50 KY rfl (by omega) (by omega) (by rfl) _ _ (by rfl) (.slice va L.length vc) L.length ((L).map (Value.int .i64)) (by rfl) O10 w9.heap.size [.int .i64 ix] (by rfl) (zr _ _) rfl (by intro u hu;simp at hu;subst hu;rfl) (by omega) (w9.heap.size+1) (by simp) ?_;intro g cap w13 own13 gr13 hat13 hlt13;have B13:=X10.kp gr13 (by simp;intro e;have:=VWx.o _ e;omega);have k13:=B13.cl 1 _ rfl;have f13:=B13.fz;have k9:=k13)
        |(go_simp;go_at_call 117;refine(Mr (w:=w8.drew) (lo:=lo) (b:=b) (S:=S) (s:=s8) (F:=F) (v5:= .slice a0 sv.length c0) (v6:= .slice a6 cv.length c6) (v7:=v7) (sv:=sv) (cv:=cv) (av:=av) hw8 hS hiw8 (hp.kp (Gw8.trans (Ch.drew _ _)) (by simp)) (by omega)).mono ?_;rintro e w9 ⟨g9,⟨ix,s9,v9,hl,rfl,hv9,h9⟩|⟨d,hl,hg⟩⟩;rotate_left;(obtain⟨rfl,ht⟩:=hg;exact zY (P:=Tryz.prog) (fn:=Tryz.f77) rfl ⟨(Gw8.trans ((Ch.drew _ _).trans g9)).belb (by omega) (by simp),Or.inr ⟨d,HR5.o.1 _ (HLe.o _ hl),⟨rfl,ht⟩⟩⟩);unfold Qf at hv9;subst hv9;have HL9:=zC hl;clear hl;have X9:=(XW.o.kp (Ch.drew [b] w8) (by simp;omega)).kp g9 (by simp;omega);have k9:=X9.cl 1 _ rfl;have O9:=zJ (zJ OWx.o (Ch.drew [] w8) (by simp)) g9 (fun k hk=>by have:=VWx.o k hk;simp;omega);have O10:=zJ O9 (Ch.alloc [] w9 (.cells #[.int .i64 ix] 3)) (by simp);have X10:=X9.kp (Ch.alloc [] w9 (.cells #[.int .i64 ix] 3)) (by simp);have k10:=X10.cl 1 _ rfl;have z9:w8.heap.size<=w9.heap.size:=g9.size;have zX9:=X9.lt))
       all_goals
        have VW:=VWx.o
        have hg6:w.heap.size<=g/\g≠X:=by
         rcases hat13 with e|e
         ·have:=VW g e;omega
         ·constructor <;>omega
        have nb:b∉(Value.slice va L.length vc).ownBlock.toList:=by simp;intro e;have:=VW _ e;omega
        have z13:w9.heap.size+1<=w13.heap.size:=by have:=gr13.size;simpa using this
        have gX:Ch [X] w13 (w13.setCell ⟨X,1,none⟩ (.slice (some ⟨g,0,none⟩) (L.length+1) cap)):=Ch.setCell _ (by simp) _;have h14:=((h9.kp (Ch.alloc [] w9 (.cells #[.int .i64 ix] 3)) (by simp)).kp gr13 nb).kp gX (by simp;omega);have X14:zE (w13.setCell ⟨X,1,none⟩ (.slice (some ⟨g,0,none⟩) (L.length+1) cap)) X #[.string x,.slice (some ⟨g,0,none⟩) (L.length+1) cap] 79:=B13.set 1 _;have O14:=zJ own13 gX (fun k hk=>by simp[Value.ownBlock]at hk;subst hk;simpa using hg6.2)
        have G14:Ch [b] w (w13.setCell ⟨X,1,none⟩ (.slice (some ⟨g,0,none⟩) (L.length+1) cap)):=by
         refine Ch.trans' ((((Gw8.trans ((Ch.drew _ _).trans g9)).trans (Ch.alloc [b] _ _)).trans' gr13 (fun k hk=> ?_))) gX (by intro k hk;simp at hk;omega);simp at hk;exact Or.inr (VW k hk).1
        have z14:(w13.setCell ⟨X,1,none⟩ (.slice (some ⟨g,0,none⟩) (L.length+1) cap)).heap.size=w13.heap.size:=by simp[World.setCell]
        have lo9:=Wj hiw8 HL9.o;rw[Hi8.o]at lo9;go_roundw
        case rel=>
         first
          |exact⟨s9,L++[ix],some ⟨g,0,none⟩,cap,m,by rw[List.length_append];exact X14,by rw[List.length_append,List.map_append];exact O14,fun k hk=>by simp[Value.ownBlock]at hk;subst hk;exact⟨hg6.1,by omega,hg6.2⟩,h14,lo9.2,by simp;omega,by omega,G14,HLo.o _ _ HL9.o⟩
          |exact⟨_,_,_,_,_,_,_,_,_,_,_,_,_,_,_,_,_,_,_,⟨s9,L++[ix],some ⟨g,0,none⟩,cap,m,by rw[List.length_append];exact X14,by rw[List.length_append,List.map_append];exact O14,fun k hk=>by simp[Value.ownBlock]at hk;subst hk;exact⟨hg6.1,by omega,hg6.2⟩,h14,lo9.2,by simp;omega,by omega,G14,HLo.o _ _ HL9.o⟩,rfl⟩
        case measure=>rw[h6.penI,h14.penI];omega
      ·have q1:(zV S (run zI S s6.i)==2)=false:=by simp[hsg]
       have HEx:Hd ((∀d,zh S 59 (s6.sk S)= .error d->R= .error d)/\(∀s9,zh S 59 (s6.sk S)= .ok s9->R= .ok (⟨sv.map (fun p=>p.1),cv.map (fun p=>p.1)++[⟨x,L⟩],av.map (fun p=>p.1)⟩,s9))):=by
        by_cases hb59:bt S (run zI S s6.i)=59
        ·have e1:LL= .ok (L,s6.sk S):=by rw[HR6.o];simp only[Y9,if_pos hb59]
         exact HR5.o.2 _ _ e1
        ·obtain⟨m,rfl⟩:∃t,m=t+1:=⟨m - 1,by omega⟩
         have e1:LL= .error (run zI S s6.i):=by
          rw[HR6.o];simp only[Y9,if_neg hb59];rw[Cm (s:=s6.sk S) l6.2 (by rw[yT,ZJ];exact hsg),yT,ZJ]
         have e2:zh S 59 (s6.sk S)= .error (run zI S s6.i):=by
          unfold zh;simp only[yT,ZJ,if_neg hb59]
         refine⟨fun d hd=> ?_,fun s9 hd=> ?_⟩
         ·rw[e2]at hd;injection hd with hd;subst hd;exact HR5.o.1 _ e1
         ·rw[e2]at hd;cases hd
       go_wp2_with fail;refine(Jl h6 hS hi6).mono ?_;rintro e w7 ⟨rfl,h7,g7⟩;clear hsg;generalize zV S (run zI S s6.i)=sg at *;have X7:=X6.kp g7 (by simp;omega);have O7:=zJ O6 g7 (fun k hk=>by have:=V6 k hk;simp;omega);have z7:=g7.size;go_wp2_with fail;refine(Yt h7 hS (by simp only[yT];exact l6.2) (k:=9) (c:=59) (by simp[jd])).mono ?_;rintro e W ⟨g8,⟨s8,hl,rfl,h8,hi8⟩|⟨d,hl,hg⟩⟩
       ·have HR8:Hd (R= .ok (⟨sv.map (fun p=>p.1),(cv++[((⟨x,L⟩:zZ),Value.slice va L.length vc)]).map (fun p=>p.1),av.map (fun p=>p.1)⟩,s8)):=by
         show _=_
         rw[HEx.o.2 _ hl];simp
        clear hl HEx;have XW:=X7.kp g8 (by simp;omega);have OW:=zJ O7 g8 (fun k hk=>by have:=V6 k hk;simp;omega);have z8:=g8.size;have GW:=(g6.trans g7).trans g8;have FINAL:=zC (OV (D:=⟨x,L⟩) (G:=fun k=>(Value.slice va L.length vc).ownBlock=some k) (vr:= .slice va L.length vc) hp GW hlo hbl h8 hi8 HR8.o ⟨fun g hg=>hg,OW⟩ (fun k hk=>by have:=V6 k hk;omega));simp only at FINAL;have hpW:=hp.kp GW (by simp);have y0:=XW.cl 0 _ rfl;have y1:=XW.cl 1 _ rfl;obtain⟨c0',c1,c2,c3,c4,c5,c6',c7,fz⟩:=h8.fa;have gAl:Ch [] W (W.drew.alloc (.cells #[.string x,.slice va L.length vc] 79)):=(Ch.drew [] W).trans (Ch.alloc _ _ _);have OWN:=zJ hpW.rc gAl (by simp);have hAl:=h8.kp gAl (by simp);have bal:=(h8.kp (Ch.alloc [] W (.cells #[.string x,.slice va L.length vc] 79)) (by simp)).fa.2.2.2.2.2.2.1;have NEW:(W.drew.alloc (.cells #[.string x,.slice va L.length vc] 79)).heap[W.heap.size]? =some (.cells [.string x,.slice va L.length vc].toArray 79):=zr W.drew _
        have ZN:(W.drew.alloc (.cells #[.string x,.slice va L.length vc] 79)).heap.size=W.heap.size+1:=by show(W.heap.push _).size=_;simp
        have NDD:Hd (b∉(Value.slice a6 cv.length c6).ownBlock.toList):=by show ¬_;simp;intro e;exact(hp.bc b e).2.2.1 rfl
        clear hpW XW OW X7 O7 X6 O6;go_wp2_with fail
        go_region_law ((refine Zc 62 79 2 40 (.agg #[.string ⟨#[]⟩,.slice none 0 0]) Tryz.underlying62 Pu rfl (by omega) (by omega) (by rfl) _ _ (by rfl) (.slice a6 cv.length c6) cv.length (jI cv) (by rfl) OWN W.heap.size [.string x,.slice va L.length vc] (by rfl) NEW rfl (by intro u hu;simp at hu;rcases hu with rfl|rfl <;>rfl) (by omega) (W.heap.size+1) ZN ?_;intro g cap w7 own7 gr7 hat7 hlt7;have B7:=hAl.kp gr7 NDD.o;have b70:=B7.fa.2.2.2.2.2.2.1;have b7f:=B7.fa.2.2.2.2.2.2.2.2))
        all_goals
         go_wp2_with fail
         go_end0
         exact FINAL.o _ _ _ own7 gr7 hat7 hlt7
       ·have HR8:Hd (R= .error d):=HEx.o.1 _ hl
        clear hl;obtain⟨rfl,ht⟩:=hg;exact zY (P:=Tryz.prog) (fn:=Tryz.f77) rfl ⟨((g6.trans g7).trans g8).belb (by omega) (by simp),Or.inr ⟨d,HR8.o,⟨rfl,ht⟩⟩⟩
   ·have HR5:=zC (HR3.o.1 _ hl)
    clear hl;obtain⟨rfl,ht⟩:=hg;exact zY rfl ⟨(G4.trans g5).belb (by omega) (by simp),Or.inr ⟨d,HR5.o,⟨rfl,ht⟩⟩⟩
  ·have HR3:Hd (R= .error d):=(HR1.o _ hl).1 _ rfl
   clear hl;obtain⟨rfl,ht⟩:=hg;exact zY rfl ⟨((g1.trans g2).trans g3).belb (by omega) (by simp),Or.inr ⟨d,HR3.o,⟨rfl,ht⟩⟩⟩
 ·have HR:Hd (R= .error d):=by show _=_;rw[<- HR0.o];simp only[jg,hl]
  clear hl;obtain⟨rfl,ht⟩:=hg;exact zY rfl ⟨g1.belb (by omega) (by simp),Or.inr ⟨d,HR.o,⟨rfl,ht⟩⟩⟩
end Go.Proofs.YteobgfbgglfkbaaGreat
