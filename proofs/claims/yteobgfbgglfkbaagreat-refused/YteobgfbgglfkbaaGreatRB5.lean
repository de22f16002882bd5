import Derived.Test.YteobgfbgglfkbaaGreatRB4
set_option maxHeartbeats 6400000
set_option maxRecDepth 100000
namespace Go.Proofs.YteobgfbgglfkbaaGreat
open Go.RowKit
attribute [local go_sem ↓] Go.wp_at_zero Go.wp_at_succ
def Wk:ByteArray:=⟨#[92,46,91,40]⟩
def ZX(c:Int):Bool:=JV 32 JE c || jK c Wk
theorem Oh:∀n:Fin 257,ZX ((n.val:Int) - 1)=true->Yj ((n.val:Int) - 1)=false:=by decide+kernel
theorem SB{c:Int}(h0: -1<=c)(h1:c<=255)(h:ZX c=true):Yj c=false:=by
 have:=Oh ⟨(c+1).toNat,by omega⟩;simp only at this;rw[show(((c+1).toNat:Nat):Int) - 1=c from by omega]at this;exact this h
theorem Pp{c:Int}(h:jK c Wk=false):¬c=92/\¬c=46/\¬c=91/\¬c=40:=by
 refine⟨?_,?_,?_,?_⟩
 all_goals
  intro e;subst e;exact absurd h (by decide)
theorem Cw{E:St->Except Nat (zF×St)}{S:ByteArray}{d:Nat}{s:St}(h:ZX (bt S s.i)=false):ye E S d s= .error s.i:=by
 unfold ZX at h;rw[Bool.or_eq_false_iff]at h;obtain⟨a1,a2,a3,a4⟩:=Pp h.2;unfold ye;simp only[if_neg a2,if_neg a3,if_neg a4];unfold zx;simp only[ym,if_neg a1];have hp:=h.1;unfold JV at hp;simp only[hp,Bool.false_eq_true,if_false]
theorem Ll{w:World}{b:Nat}{S:ByteArray}{s:St}{v5 v6 v7:Value}(h:zP w b S s v5 v6 v7)(hS:S.size<=400)(hi:s.i<=S.size):
 Calls Tryz.prog 145 #[.pointer (some ⟨b,0,none⟩)] w fun e w'=>e= .returned (.bool (ZX (bt S s.i)))/\zP w' b S s v5 v6 v7/\Ch [b] w w':=by
 obtain⟨c0,c1,c2,c3,c4,c5,c6,c7,fz⟩:=h.fa
 by_cases hlt:s.i<S.size
 ·have l2:(s.i:Int)<S.size:=by omega
  have l3:(s.i:Int)<400:=by omega
  have q:((s.i:Int)==S.size)=false:=by rw[beq_eq_false_iff_ne];omega
  have q':(s.i==S.size)=false:=by rw[beq_eq_false_iff_ne];omega
  have HC:Hd ((S[s.i].toNat:Int)=bt S s.i):=jS hlt
  have hbd:(S[s.i].toNat:Int)<=255:=by have:=S[s.i].toNat_lt;omega
  have HX1:=zC (fun(hh:jK (S[s.i].toNat:Int) Wk=false)=>Xu (by omega) hbd hh);have HX2:=zC (fun(hh:jK (S[s.i].toNat:Int) Wk=true)=>MC (by omega) hbd hh);go_enter Tryz.func145,Tryz.ntmps145;go_wp2_with fail;go_quiet (fail);have h2:zP (w.drewN nq) b S s v5 v6 v7:=h;have g2:=Ch.drewN [b] w nq;generalize w.drewN nq=w2 at *;clear c0 c1 c2 c3 c4 c5 c6 c7 fz;obtain⟨c0,c1,c2,c3,c4,c5,c6,c7,fz⟩:=h2.fa;go_wp2_with fail;go_quiet (fail);have h3:zP (w2.drewN nq) b S s v5 v6 v7:=h2;have g3:=g2.trans (Ch.drewN [b] w2 nq);generalize w2.drewN nq=w3 at *;clear c0 c1 c2 c3 c4 c5 c6 c7 fz;go_wp2_with fail;refine(Ki _ _ (by omega) hbd).mono ?_;rintro e w4 ⟨rfl,rfl⟩;rw[HC.o];cases hp:JV 32 JE (bt S s.i)
  ·have HP:=zC hp
   clear hp;go_wp2_with fail;refine(VY _ _).mono ?_;rintro e w5 ⟨rfl,rfl⟩;cases hq:jK (bt S s.i) Wk
   ·have hz:jW ⟨#[92,46,91,40]⟩ (bt S s.i)= -1:=by have:=HX1.o;rw[HC.o]at this;exact this hq
    have HB:Hd (ZX (bt S s.i)=false):=by show _=_;simp only[ZX,HP.o,hq,Bool.or_self]
    rw[hz];clear hq hz;go_wp2_with fail;go_ret;exact⟨by rw[HB.o];rfl,h3,g3⟩
   ·have hz:0<=jW ⟨#[92,46,91,40]⟩ (bt S s.i):=by have:=HX2.o;rw[HC.o]at this;exact this hq
    have HB:Hd (ZX (bt S s.i)=true):=by show _=_;simp only[ZX,HP.o,hq,Bool.false_or]
    clear hq;generalize jW ⟨#[92,46,91,40]⟩ (bt S s.i)=z at *
    have hz':decide (0<=z)=true:=by simpa using hz
    go_wp2_with fail;go_ret;exact⟨by rw[HB.o];simp,h3,g3⟩
  ·have HB:Hd (ZX (bt S s.i)=true):=by show _=_;simp only[ZX,hp,Bool.true_or]
   clear hp;go_wp2_with fail;go_ret;exact⟨by rw[HB.o];rfl,h3,g3⟩
 ·have q:((s.i:Int)==S.size)=true:=by rw[beq_iff_eq];omega
  have q':(s.i==S.size)=true:=by rw[beq_iff_eq];omega
  have HB:Hd (ZX (bt S s.i)=false):=by show _=_;rw[YL (by omega)];decide
  go_enter Tryz.func145,Tryz.ntmps145;go_wp2_with fail;go_quiet (fail);go_wp2_with fail;go_ret;exact⟨by rw[HB.o];rfl,h,Ch.drewN _ _ _⟩
def Jb(S:ByteArray)(i:Nat):Int:=if bt S i=42 then 1 else if bt S i=43 then 2 else if bt S i=63 then 3 else 0
def Zj(S:ByteArray)(s:St):St:=if Jb S s.i=0 then s else {s with i:=s.i+1}
def YX(rp:Int)(A:zF):zF:=if rp=1 then A.star else if rp=2 then A.plus else if rp=3 then A.opt else A
theorem Fi(S:ByteArray)(A:zF)(s:St):yY S A s=(YX (Jb S s.i) A,Zj S s):=by
 unfold yY YX Zj Jb
 by_cases h1:bt S s.i=42
 ·simp[h1]
 ·by_cases h2:bt S s.i=43
  ·simp[h2]
  ·by_cases h3:bt S s.i=63
   ·simp[h3]
   ·simp[h1,h2,h3]
theorem T6{w:World}{b:Nat}{S:ByteArray}{s:St}{v5 v6 v7:Value}(h:zP w b S s v5 v6 v7)(hS:S.size<=400)(hi:s.i<=S.size):
 Calls Tryz.prog 147 #[.pointer (some ⟨b,0,none⟩)] w fun e w'=>e= .returned (.int .i64 (Jb S s.i))/\zP w' b S (Zj S s) v5 v6 v7/\Ch [b] w w':=by
 by_cases h1:bt S s.i=42
 ·have HN:Hd (Jb S s.i=1):=by show _=_;simp[Jb,h1]
  go_enter Tryz.func147,Tryz.ntmps147;go_wp2_with fail;refine(ZP h hS 42 (by decide) h1).mono ?_;rintro e w1 ⟨rfl,k1,g1⟩;clear h1;go_wp2_with fail;go_ret;exact⟨by rw[HN.o];rfl,by simpa[Zj,HN.o]using k1,g1⟩
 ·by_cases h2:bt S s.i=43
  ·have HN:Hd (Jb S s.i=2):=by show _=_;simp[Jb,h2]
   go_enter Tryz.func147,Tryz.ntmps147;go_wp2_with fail;refine(JW h hS hi 42 h1).mono ?_;rintro e w1 ⟨rfl,k1,g1⟩;go_wp2_with fail;refine(ZP k1 hS 43 (by decide) h2).mono ?_;rintro e w2 ⟨rfl,k2,g2⟩;clear h1 h2;go_wp2_with fail;go_ret;exact⟨by rw[HN.o];rfl,by simpa[Zj,HN.o]using k2,g1.trans g2⟩
  ·by_cases h3:bt S s.i=63
   ·have HN:Hd (Jb S s.i=3):=by show _=_;simp[Jb,h3]
    go_enter Tryz.func147,Tryz.ntmps147;go_wp2_with fail;refine(JW h hS hi 42 h1).mono ?_;rintro e w1 ⟨rfl,k1,g1⟩;go_wp2_with fail;refine(JW k1 hS hi 43 h2).mono ?_;rintro e w2 ⟨rfl,k2,g2⟩;go_wp2_with fail;refine(ZP k2 hS 63 (by decide) h3).mono ?_;rintro e w3 ⟨rfl,k3,g3⟩;clear h1 h2 h3;go_wp2_with fail;go_ret;exact⟨by rw[HN.o];rfl,by simpa[Zj,HN.o]using k3,(g1.trans g2).trans g3⟩
   ·have HN:Hd (Jb S s.i=0):=by show _=_;simp[Jb,h1,h2,h3]
    go_enter Tryz.func147,Tryz.ntmps147;go_wp2_with fail;refine(JW h hS hi 42 h1).mono ?_;rintro e w1 ⟨rfl,k1,g1⟩;go_wp2_with fail;refine(JW k1 hS hi 43 h2).mono ?_;rintro e w2 ⟨rfl,k2,g2⟩;go_wp2_with fail;refine(JW k2 hS hi 63 h3).mono ?_;rintro e w3 ⟨rfl,k3,g3⟩;clear h1 h2 h3;go_wp2_with fail;go_ret;exact⟨by rw[HN.o];rfl,by simpa[Zj,HN.o]using k3,(g1.trans g2).trans g3⟩
structure jo where
 K:Int
 c:Int
 q:Nat->Nat
 g:Value
 rp:Int
def jo.cells(p:jo):List Value:=[.int .i64 p.K,.int .u8 p.c,.int .u64 (p.q 0:Nat),.int .u64 (p.q 1:Nat),.int .u64 (p.q 2:Nat),.int .u64 (p.q 3:Nat),p.g,.int .i64 p.rp]
def jo.val(p:jo):Value:= .agg #[.int .i64 p.K,.int .u8 p.c,.int .u64 (p.q 0:Nat),.int .u64 (p.q 1:Nat),.int .u64 (p.q 2:Nat),.int .u64 (p.q 3:Nat),p.g,.int .i64 p.rp]
def Y5(E:Value->zF->Nat->Prop)(p:jo)(L:zF)(N:Nat):Prop:=
 (∃a n c,p.g= .slice a n c)/\∃A,L=YX p.rp A/\(0<=p.rp/\p.rp<=3)/\
   ((p.K=0/\N=1/\0<=p.c/\p.c<=255/\A=zF.cls [(p.c,p.c)])\/(p.K=1/\N=1/\A=zF.cls [(0,255)])\/(p.K=2/\N=1/\∃Lc,zU p.q (zo Lc)/\A=zF.cls Lc)\/(p.K=3/\∃M,N=M+1/\E p.g A M))
def VA(bs:List (jo×zF×Nat)):List Value:=bs.flatMap fun p=>p.1.cells
def VL(w:World)(F:Nat->Prop)(E:Value->zF->Nat->Prop)(v:Value)(L:zF)(N:Nat):Prop:=
 (∀g,v.ownBlock=some g->F g)/\∃bs:List (jo×zF×Nat),w.ownsRow 0 256 8 v bs.length (VA bs)/\L=zF.row (bs.map fun p=>p.2.1)/\N=(bs.map fun p=>p.2.2).sum/\∀p,p∈bs->Y5 E p.1 p.2.1 p.2.2
def yC(w:World)(F:Nat->Prop):Nat->Value->zF->Nat->Prop
 |0=>fun _ _ _=>False
 |h+1=>fun v L N=>(∀g,v.ownBlock=some g->F g)/\∃rs:List (Value×zF×Nat),w.ownsRow 0 201 1 v rs.length (rs.map fun p=>p.1)/\L=zF.alt (rs.map fun p=>p.2.1)/\N=(rs.map fun p=>p.2.2).sum/\∀p,p∈rs->VL w F (yC w F h) p.1 p.2.1 p.2.2
theorem Y5.mono{E E':Value->zF->Nat->Prop}(hE:∀v L N,E v L N->E' v L N){p:jo}{L:zF}{N:Nat}(h:Y5 E p L N):Y5 E' p L N:=by
 obtain⟨hg,A,h1,h2,h3⟩:=h;refine⟨hg,A,h1,h2,?_⟩
 rcases h3 with h3|h3|h3|⟨h3,M,h4,h5⟩
 ·exact Or.inl h3
 ·exact Or.inr (Or.inl h3)
 ·exact Or.inr (Or.inr (Or.inl h3))
 ·exact Or.inr (Or.inr (Or.inr ⟨h3,M,h4,hE _ _ _ h5⟩))
theorem VL.mono{w w':World}{F G:Nat->Prop}{E E':Value->zF->Nat->Prop}(hF:∀k,F k->w'.heap[k]? =w.heap[k]?)(hG:∀k,F k->G k)(hE:∀v L N,E v L N->E' v L N){v:Value}{L:zF}{N:Nat}(h:VL w F E v L N):VL w' G E' v L N:=by
 obtain⟨h1,bs,h2,h3,h4,h5⟩:=h;exact⟨fun g hg=>hG _ (h1 g hg),bs,ju h2 (fun k hk=>hF _ (h1 k hk)),h3,h4,fun p hp=>(h5 p hp).mono hE⟩
theorem yC.frame{w w':World}{F G:Nat->Prop}(hF:∀k,F k->w'.heap[k]? =w.heap[k]?)(hG:∀k,F k->G k):∀(h:Nat) (v:Value) (L:zF) (N:Nat),yC w F h v L N->yC w' G h v L N
 |0,_,_,_,h=>h.elim
 |n+1,v,L,N,h=>by
  obtain⟨h1,rs,h2,h3,h4,h5⟩:=h;exact⟨fun g hg=>hG _ (h1 g hg),rs,ju h2 (fun k hk=>hF _ (h1 k hk)),h3,h4,fun p hp=>(h5 p hp).mono hF hG (yC.frame hF hG n)⟩
theorem yC.up{w:World}{F:Nat->Prop}:∀(h:Nat) (v:Value) (L:zF) (N:Nat),yC w F h v L N->yC w F (h+1) v L N
 |0,_,_,_,h=>h.elim
 |n+1,v,L,N,h=>by
  obtain⟨h1,rs,h2,h3,h4,h5⟩:=h;exact⟨h1,rs,h2,h3,h4,fun p hp=>(h5 p hp).mono (fun _ _=>rfl) (fun _ h=>h) (yC.up n)⟩
theorem yC.le{w:World}{F:Nat->Prop}{h h':Nat}(hh:h<=h')(v:Value)(L:zF)(N:Nat)(H:yC w F h v L N):yC w F h' v L N:=by
 obtain⟨t,rfl⟩:∃t,h'=h+t:=⟨h' - h,by omega⟩;clear hh
 induction t with
 |zero=>exact H
 |succ t ih=>exact yC.up _ _ _ _ ih
def Bk(w:World)(b:Nat)(S:ByteArray)(k0:Int)(i0:Nat)(v5 v6 v7:Value)(R:World->(Nat->Prop)->Value->zF->Nat->Prop)(r:Except Nat (zF×St))(e:Ending)(w':World):Prop:=
 Ch [b] w w'/\((∃L s' v F N,r= .ok (L,s')/\e= .returned v/\R w' F v L N/\(∀k,F k->w.heap.size<=k/\k<w'.heap.size)/\zP w' b S s' v5 v6 v7/\s'.k=k0+N/\i0<=s'.i/\s'.i<=S.size/\s'.k<=s'.i)\/(∃d,r= .error d/\Zv w' b S d e))
def XV(w:World)(b:Nat)(S:ByteArray)(k0:Int)(i0:Nat)(v5 v6 v7:Value)(R:World->(Nat->Prop)->Value->zF->Nat->Prop)(r:Except Nat (zF×St))(e:Ending)(w':World):Prop:=
 Ch [b] w w'/\((∃L s' v F N,r= .ok (L,s')/\e= .returned v/\R w' F v L N/\(∀k,F k->w.heap.size<=k/\k<w'.heap.size)/\zP w' b S s' v5 v6 v7/\s'.k=k0+N/\i0<=s'.i/\s'.i<=S.size/\s'.k<=s'.i)\/(∃d,r= .error d/\Zv w' b S d e)\/
  (∃s' v,r= .error s'.i/\e= .returned v/\(∃a n c,v= .slice a n c)/\zP w' b S s' v5 v6 v7/\s'.i<S.size/\Yj (bt S s'.i)=false/\i0<=s'.i))
def Na(w:World)(F:Nat->Prop)(v:Value)(L:zF)(N:Nat):Prop:=(∃a n c,v= .slice a n c)/\∃h,yC w F h v L N
def VU(S:ByteArray)(n:Nat):Prop:=∀(w:World) (b:Nat) (s:St) (d:Nat) (v5 v6 v7:Value),zP w b S s v5 v6 v7->zi S s d->S.size<n+s.i->
 Calls Tryz.prog 66 #[.pointer (some ⟨b,0,none⟩),.int .i64 d] w (XV w b S s.k s.i v5 v6 v7 Na (zv S n d s))
theorem Qp{q:Bool}{e a:Int}{s:St}:(zL q e a s).k=s.k:=by unfold zL;split <;>rfl
def ZU(E:St->Except Nat (zF×St))(S:ByteArray)(d:Nat)(s:St):Except Nat (zF×St):=
 match E {(zL (decide ((4:Int)<=(d:Int))) 3 s.i s)with i:=s.i+1} with
 |.error d=> .error d
 |.ok (L,s3)=>if bt S s3.i=41 then .ok (L,{s3 with i:=s3.i+1})else .error s3.i
theorem FJ{n:Nat}{w:World}{b:Nat}{S:ByteArray}{s:St}{d:Nat}{v5 v6 v7:Value}(hE:VU S n)(h:zP w b S s v5 v6 v7)(hS:S.size<=400)(hI:s.i<S.size)(hk0:0<=s.k)(hk1:s.k<=s.i+1)(hd:d<=s.i)(hn:S.size<n+(s.i+1))(hb:bt S s.i=40):
 Calls Tryz.prog 192 #[.pointer (some ⟨b,0,none⟩),.int .i64 d] w (Bk w b S s.k s.i v5 v6 v7 Na (ZU (zv S n (d+1)) S d s)):=by
 obtain⟨c0,c1,c2,c3,c4,c5,c6,c7,fz⟩:=h.fa;go_enter Tryz.func192,Tryz.ntmps192;go_wp2_with fail;refine(QF h d 4 s.i).mono ?_;rintro e w1 ⟨rfl,h1,g1⟩;clear c0 c1 c2 c3 c4 c5 c6 c7 fz;go_wp2_with fail;refine(ZP h1 hS 40 (by decide) (by rw[ym];exact hb)).mono ?_;rintro e w2 ⟨rfl,h2,g2⟩
 have HG:Hd (∀r,zv S n (d+1) {(zL (decide ((4:Int)<=(d:Int))) 3 s.i s)with i:=s.i+1}=r->(∀D,r= .error D->ZU (zv S n (d+1)) S d s= .error D)/\(∀L s3,r= .ok (L,s3)->ZU (zv S n (d+1)) S d s=if bt S s3.i=41 then .ok (L,{s3 with i:=s3.i+1})else .error s3.i)):=by
  intro r hr;refine⟨?_,?_⟩
  ·intro D e;subst e;simp only[ZU,hr]
  ·intro L s3 e;subst e;simp only[ZU,hr]
 rw[ym]at h2
 have hd1:IntKind.i64.wrap ((d:Int)+1)=((d+1:Nat):Int):=by rw[IntKind.wrap_i64];omega
 clear hb
 have hd4:(d:Int)<=400:=by omega
 go_wp2_with fail;refine(hE w2 b _ (d+1) v5 v6 v7 h2 ⟨by simp only;omega,by simp only[Qp];omega,by simp only[Qp];omega,by simp only;omega⟩ (by simp only;omega)).mono ?_;rintro e w3 ⟨g3,⟨L,s3,v,F,N,hr,rfl,hR,hF,h3,hk,hi3,hi3',hki3⟩|⟨D,hr,hg⟩|⟨s3,v,hr,rfl,hv,h3,hi3,hst,_⟩⟩
 ·obtain⟨⟨a,m,c,rfl⟩,hR⟩:=hR
  simp only[Qp]at hk hi3
  by_cases hc:bt S s3.i=41
  ·have HR:Hd (ZU (zv S n (d+1)) S d s= .ok (L,{s3 with i:=s3.i+1})):=by
    show _=_
    rw[(HG.o _ hr).2 L s3 rfl,if_pos hc]
   clear hr;go_wp2_with fail;refine(ZP h3 hS 41 (by decide) hc).mono ?_;rintro e w4 ⟨rfl,h4,g4⟩;have hlt:=yB (S:=S) (i:=s3.i) (by omega);have z3:=g3.size;have z4:=g4.size;have z1:=g1.size;have z2:=g2.size;have hbl:=h.lt;clear hc;go_wp2_with fail;go_ret;refine⟨(g1.trans g2).trans (g3.trans g4),Or.inl ⟨L,_,_,F,N,HR.o,rfl,⟨⟨_,_,_,rfl⟩,?_⟩,fun k hk=>by have:=hF k hk;omega,h4,hk,by simp only;omega,hlt,by simp only;omega⟩⟩;obtain⟨hh,hR⟩:=hR;exact⟨hh,yC.frame (fun k hk=>g4.block k (hF k hk).2 (by have:=hF k hk;simp;omega)) (fun _ h=>h) _ _ _ _ hR⟩
  ·have HR:Hd (ZU (zv S n (d+1)) S d s= .error s3.i):=by
    show _=_
    rw[(HG.o _ hr).2 L s3 rfl,if_neg hc]
   clear hr;go_wp2_with fail;refine(JW h3 hS hi3' 41 hc).mono ?_;rintro e w4 ⟨rfl,h4,g4⟩;clear hc;go_wp2_with fail;refine(ZB h4).mono ?_;rintro e w5 ⟨hg,g5⟩;obtain⟨rfl,ht⟩:=hg;exact zY rfl ⟨(g1.trans g2).trans ((g3.trans g4).trans g5),Or.inr ⟨_,HR.o,⟨rfl,ht⟩⟩⟩
 ·have HR:Hd (ZU (zv S n (d+1)) S d s= .error D):=(HG.o _ hr).1 D rfl
  clear hr;obtain⟨rfl,ht⟩:=hg;exact zY rfl ⟨(g1.trans g2).trans g3,Or.inr ⟨_,HR.o,⟨rfl,ht⟩⟩⟩
 ·have HR:Hd (ZU (zv S n (d+1)) S d s= .error s3.i):=(HG.o _ hr).1 _ rfl
  clear hr;obtain⟨a,m,c,rfl⟩:=hv
  have hc:¬bt S s3.i=41:=by intro e;rw[e]at hst;exact absurd hst (by decide)
  go_wp2_with fail;refine(JW h3 hS (by omega) 41 hc).mono ?_;rintro e w4 ⟨rfl,h4,g4⟩;clear hc;go_wp2_with fail;refine(ZB h4).mono ?_;rintro e w5 ⟨hg,g5⟩;obtain⟨rfl,ht⟩:=hg;exact zY rfl ⟨(g1.trans g2).trans ((g3.trans g4).trans g5),Or.inr ⟨_,HR.o,⟨rfl,ht⟩⟩⟩
theorem zE.c8{w:World}{B:Nat}{x0 x1 x2 x3 x4 x5 x6 x7:Value}{T:TypeId}(h:zE w B #[x0,x1,x2,x3,x4,x5,x6,x7] T):w.cell? ⟨B,0,none⟩=some x0/\w.cell? ⟨B,1,none⟩=some x1/\w.cell? ⟨B,2,none⟩=some x2/\w.cell? ⟨B,3,none⟩=some x3/\w.cell? ⟨B,4,none⟩=some x4/\w.cell? ⟨B,5,none⟩=some x5/\w.cell? ⟨B,6,none⟩=some x6/\w.cell? ⟨B,7,none⟩=some x7:=
 ⟨h.cl 0 _ rfl,h.cl 1 _ rfl,h.cl 2 _ rfl,h.cl 3 _ rfl,h.cl 4 _ rfl,h.cl 5 _ rfl,h.cl 6 _ rfl,h.cl 7 _ rfl⟩
def VB(w:World)(H:Nat)(y0 y1 y2 y3 y4 y5 y6 y7:Value):World:=
 (((((((w.setCell ⟨H,0,none⟩ y0).setCell ⟨H,1,none⟩ y1).setCell ⟨H,2,none⟩ y2).setCell ⟨H,3,none⟩ y3).setCell ⟨H,4,none⟩ y4).setCell ⟨H,5,none⟩ y5).setCell ⟨H,6,none⟩ y6).setCell ⟨H,7,none⟩ y7
theorem zE.fill8{w5:World}{H:Nat}{x0 x1 x2 x3 x4 x5 x6 x7:Value}{T:TypeId}(R:zE w5 H #[x0,x1,x2,x3,x4,x5,x6,x7] T)(y0 y1 y2 y3 y4 y5 y6 y7:Value):
 zE (VB w5 H y0 y1 y2 y3 y4 y5 y6 y7) H #[y0,y1,y2,y3,y4,y5,y6,y7] T/\Ch [H] w5 (VB w5 H y0 y1 y2 y3 y4 y5 y6 y7):=by
 have r0:zE (w5.setCell ⟨H,0,none⟩ y0) H #[y0,x1,x2,x3,x4,x5,x6,x7] T:=R.set 0 y0;have r1:zE ((w5.setCell ⟨H,0,none⟩ y0).setCell ⟨H,1,none⟩ y1) H #[y0,y1,x2,x3,x4,x5,x6,x7] T:=r0.set 1 y1;have r2:zE (((w5.setCell ⟨H,0,none⟩ y0).setCell ⟨H,1,none⟩ y1).setCell ⟨H,2,none⟩ y2) H #[y0,y1,y2,x3,x4,x5,x6,x7] T:=r1.set 2 y2;have r3:zE ((((w5.setCell ⟨H,0,none⟩ y0).setCell ⟨H,1,none⟩ y1).setCell ⟨H,2,none⟩ y2).setCell ⟨H,3,none⟩ y3) H #[y0,y1,y2,y3,x4,x5,x6,x7] T:=r2.set 3 y3;have r4:zE (((((w5.setCell ⟨H,0,none⟩ y0).setCell ⟨H,1,none⟩ y1).setCell ⟨H,2,none⟩ y2).setCell ⟨H,3,none⟩ y3).setCell ⟨H,4,none⟩ y4) H #[y0,y1,y2,y3,y4,x5,x6,x7] T:=r3.set 4 y4;have r5:zE ((((((w5.setCell ⟨H,0,none⟩ y0).setCell ⟨H,1,none⟩ y1).setCell ⟨H,2,none⟩ y2).setCell ⟨H,3,none⟩ y3).setCell ⟨H,4,none⟩ y4).setCell ⟨H,5,none⟩ y5) H #[y0,y1,y2,y3,y4,y5,x6,x7] T:=r4.set 5 y5;have r6:zE (((((((w5.setCell ⟨H,0,none⟩ y0).setCell ⟨H,1,none⟩ y1).setCell ⟨H,2,none⟩ y2).setCell ⟨H,3,none⟩ y3).setCell ⟨H,4,none⟩ y4).setCell ⟨H,5,none⟩ y5).setCell ⟨H,6,none⟩ y6) H #[y0,y1,y2,y3,y4,y5,y6,x7] T:=r5.set 6 y6;have r7:zE ((((((((w5.setCell ⟨H,0,none⟩ y0).setCell ⟨H,1,none⟩ y1).setCell ⟨H,2,none⟩ y2).setCell ⟨H,3,none⟩ y3).setCell ⟨H,4,none⟩ y4).setCell ⟨H,5,none⟩ y5).setCell ⟨H,6,none⟩ y6).setCell ⟨H,7,none⟩ y7) H #[y0,y1,y2,y3,y4,y5,y6,y7] T:=r6.set 7 y7;refine⟨r7,?_⟩;exact(((((((Ch.setCell _ (by simp) _).trans (Ch.setCell _ (by simp) _)).trans (Ch.setCell _ (by simp) _)).trans (Ch.setCell _ (by simp) _)).trans (Ch.setCell _ (by simp) _)).trans (Ch.setCell _ (by simp) _)).trans (Ch.setCell _ (by simp) _)).trans (Ch.setCell _ (by simp) _)
def Zk(E:St->Except Nat (zF×St))(S:ByteArray)(d:Nat)(s:St):Except Nat (zF×St):=
 if bt S s.i=46 then .ok (zF.cls [(0,255)],{s with i:=s.i+1})
 else if bt S s.i=91 then
  match yn S s with
  |.ok (L,s2)=> .ok (zF.cls L,s2)
  |.error d=> .error d
 else if bt S s.i=40 then ZU E S d s
 else
  match zx S 32 JE s with
  |.ok (c,s2)=> .ok (zF.cls [(c,c)],s2)
  |.error d=> .error d
theorem Kq{E:St->Except Nat (zF×St)}{S:ByteArray}{d:Nat}{s:St}:ye E S d s=Zk E S d (zL (decide (12<s.k+1)) 3 s.i {s with k:=s.k+1}):=by
 unfold ye Zk ZU;simp only[ym]
 try rfl
def Cr(w:World)(F:Nat->Prop)(v:Value)(L:zF)(N:Nat):Prop:=∃p:jo,v=p.val/\p.rp=0/\∃h,Y5 (yC w F h) p L N
def Ql:Array Value:= #[.int .i64 0,.int .u8 0,.int .u64 0,.int .u64 0,.int .u64 0,.int .u64 0,.slice none 0 0,.int .i64 0]
theorem U4{w5 w:World}{H b:Nat}{S:ByteArray}{s:St}{v5 v6 v7:Value}(B:zE w5 H Ql 256)(g:Ch [b] w w5)(h:zP w5 b S s v5 v6 v7)(hH:w.heap.size<=H)(hb:b<w.heap.size)(p:jo):
 ∃w6,w6=VB w5 H (.int .i64 p.K) (.int .u8 p.c) (.int .u64 (p.q 0:Nat)) (.int .u64 (p.q 1:Nat)) (.int .u64 (p.q 2:Nat)) (.int .u64 (p.q 3:Nat)) p.g (.int .i64 p.rp)/\zE w6 H p.cells.toArray 256/\Ch [b] w w6/\zP w6 b S s v5 v6 v7/\Ch [H] w5 w6:=by
 obtain⟨R6,G6⟩:=B.fill8 (.int .i64 p.K) (.int .u8 p.c) (.int .u64 (p.q 0:Nat)) (.int .u64 (p.q 1:Nat)) (.int .u64 (p.q 2:Nat)) (.int .u64 (p.q 3:Nat)) p.g (.int .i64 p.rp);exact⟨_,rfl,R6,g.trans' G6 (by intro k hk;simp at hk;omega),h.kp G6 (by simp;omega),G6⟩
theorem Od{n:Nat}{w:World}{b:Nat}{S:ByteArray}{s:St}{d:Nat}{v5 v6 v7:Value}(hE:VU S n)(h:zP w b S s v5 v6 v7)(hS:S.size<=400)(hI:s.i<S.size)(hk0:0<=s.k)(hk1:s.k<=s.i+1)(hd:d<=s.i)(hn:S.size<n+(s.i+1))(_hb:ZX (bt S s.i)=true):
 Calls Tryz.prog 146 #[.pointer (some ⟨b,0,none⟩),.int .i64 d] w (Bk w b S (s.k - 1) (s.i+1) v5 v6 v7 Cr (Zk (zv S n (d+1)) S d s)):=by
 have hbl:=h.lt;have h0:=h.kp (Ch.alloc [] w (.cells Ql 256)) (by simp);have B0:=zE.new w Ql 256;have g0:=Ch.alloc [b] w (.cells Ql 256);have HC:Hd ((S[s.i].toNat:Int)=bt S s.i):=jS hI
 have l2:(s.i:Int)<S.size:=by omega
 have l3:(s.i:Int)<400:=by omega
 go_enter Tryz.func146,Tryz.ntmps146;obtain⟨c0,c1,c2,c3,c4,c5,c6,c7,fz⟩:=h0.fa
 change (w.alloc (.cells #[.int .i64 0,.int .u8 0,.int .u64 0,.int .u64 0,.int .u64 0,.int .u64 0,.slice none 0 0,.int .i64 0] 256)).cell? _=_ at c0 c1
 go_wp2_with fail;go_quiet (fail);have h1:zP ((w.alloc (.cells #[.int .i64 0,.int .u8 0,.int .u64 0,.int .u64 0,.int .u64 0,.int .u64 0,.slice none 0 0,.int .i64 0] 256)).drewN nq) b S s v5 v6 v7:=h0;have B1:zE ((w.alloc (.cells #[.int .i64 0,.int .u8 0,.int .u64 0,.int .u64 0,.int .u64 0,.int .u64 0,.slice none 0 0,.int .i64 0] 256)).drewN nq) w.heap.size Ql 256:=B0;have g1:Ch [b] w ((w.alloc (.cells #[.int .i64 0,.int .u8 0,.int .u64 0,.int .u64 0,.int .u64 0,.int .u64 0,.slice none 0 0,.int .i64 0] 256)).drewN nq):=g0.trans (Ch.drewN _ _ _);generalize (w.alloc (.cells #[.int .i64 0,.int .u8 0,.int .u64 0,.int .u64 0,.int .u64 0,.int .u64 0,.slice none 0 0,.int .i64 0] 256)).drewN nq=w1 at *;clear c0 c1 c2 c3 c4 c5 c6 c7 fz h0 B0 g0;rw[HC.o]
 by_cases e1:bt S s.i=46
 ·have HR:Hd (Zk (zv S n (d+1)) S d s= .ok (zF.cls [(0,255)],{s with i:=s.i+1})):=by show _=_;simp only[Zk,if_pos e1]
  have q1:(bt S s.i==46)=true:=by simp[e1]
  obtain⟨c0,c1,c2,c3,c4,c5,c6,c7,fz⟩:=h1.fa;obtain⟨y0,y1,y2,y3,y4,y5,y6,y7⟩:=B1.c8;have fy:=B1.fz;clear e1;go_wp2_with fail;have h2:=h1.bump;have G2:Ch [b] w1 (w1.setCell ⟨b,1,none⟩ (.int .i64 ((s.i:Int)+1))):=Ch.setCell _ (by simp) _;obtain⟨w6,hw6,R6,g6,h6,_⟩:=U4 (B1.kp G2 (by simp;omega)) (g1.trans G2) h2 (Nat.le_refl _) hbl ⟨1,0,fun _=>0,.slice none 0 0,0⟩;unfold VB at hw6;simp only[Int.natCast_zero]at hw6;rw[<- hw6];obtain⟨y0,y1,y2,y3,y4,y5,y6,y7⟩:=zE.c8 R6;have z6:=g6.size;refine bodyPost_ret (v:=jo.val ⟨1,0,fun _=>0,.slice none 0 0,0⟩) (by simp[results,Tryz.results146,go_sem,jo.val,y0,y1,y2,y3,y4,y5,y6,y7]) rfl ⟨g6,Or.inl ⟨_,_,_,fun _=>False,1,HR.o,rfl,⟨_,rfl,rfl,0,⟨_,_,_,rfl⟩,_,rfl,⟨Int.le_refl 0,(by simp)⟩,Or.inr (Or.inl ⟨rfl,rfl,rfl⟩)⟩,fun k hk=>hk.elim,h6,by simp only;omega,by simp only;omega,by simp only;omega,by simp only;omega⟩⟩
 ·have q1:(bt S s.i==46)=false:=by simp[e1]
  by_cases e2:bt S s.i=91
  ·have q2:(bt S s.i==91)=true:=by simp[e2]
   have HR:Hd (∀r,yn S s=r->Zk (zv S n (d+1)) S d s=match r with|.ok (L,s2)=> .ok (zF.cls L,s2)|.error d=> .error d):=by
    intro r hr;simp only[Zk,if_neg e1,if_pos e2,hr]
   go_wp2_with fail;refine(Ap h1 hS e2).mono ?_;rintro e w2 ⟨g2,⟨L,s2,v,hl,rfl,⟨q,rfl,F2⟩,h2⟩|⟨D,hl,hg⟩⟩
   ·have HR2:=zC (HR.o _ hl)
    have lo:=VO hl;clear hl e1 e2;have B2:=B1.kp g2 (by simp;omega);obtain⟨y0,y1,y2,y3,y4,y5,y6,y7⟩:=zE.c8 B2;have fy:=B2.fz;rw[show zS q= .agg #[.int .u64 (q 0),.int .u64 (q 1),.int .u64 (q 2),.int .u64 (q 3)]from rfl];go_wp2_with fail;obtain⟨w6,hw6,R6,g6,h6,_⟩:=U4 B2 (g1.trans g2) h2 (Nat.le_refl _) hbl ⟨2,0,q,.slice none 0 0,0⟩;unfold VB at hw6
    try simp only at hw6
    rw[<- hw6];obtain⟨y0,y1,y2,y3,y4,y5,y6,y7⟩:=zE.c8 R6;refine bodyPost_ret (v:=jo.val ⟨2,0,q,.slice none 0 0,0⟩) (by simp[results,Tryz.results146,go_sem,jo.val,y0,y1,y2,y3,y4,y5,y6,y7]) rfl ⟨g6,Or.inl ⟨_,_,_,fun _=>False,1,HR2.o,rfl,⟨_,rfl,rfl,0,⟨_,_,_,rfl⟩,_,rfl,⟨Int.le_refl 0,(by simp)⟩,Or.inr (Or.inr (Or.inl ⟨rfl,rfl,L,F2,rfl⟩))⟩,fun k hk=>hk.elim,h6,by rw[lo.2.2];omega,lo.1,lo.2.1,by rw[lo.2.2];omega⟩⟩
   ·have HR2:=zC (HR.o _ hl)
    clear hl;obtain⟨rfl,ht⟩:=hg;exact zY rfl ⟨g1.trans g2,Or.inr ⟨D,HR2.o,⟨rfl,ht⟩⟩⟩
  ·have q2:(bt S s.i==91)=false:=by simp[e2]
   by_cases e3:bt S s.i=40
   ·have q3:(bt S s.i==40)=true:=by simp[e3]
    have HR:Hd (Zk (zv S n (d+1)) S d s=ZU (zv S n (d+1)) S d s):=by
     show _=_;simp only[Zk,if_neg e1,if_neg e2,if_pos e3]
    go_wp2_with fail;refine(FJ hE h1 hS hI hk0 hk1 hd hn e3).mono ?_;rintro e w2 ⟨g2,⟨L,s2,v,F,N,hl,rfl,⟨⟨a,m,c,rfl⟩,hh,hR⟩,hF,h2,hk,hi2,hi2',hki2⟩|⟨D,hl,hg⟩⟩
    ·have HR2:=zC (HR.o.trans hl)
     have HI2:Hd (s.i+1<=s2.i):=by
      show _<=_
      unfold ZU at hl
      split at hl
      ·cases hl
      ·rename_i L3 s3 he
       split at hl
       ·injection hl with hl;injection hl with _ hl;subst hl
        have:=(Ed n (d+1) _ _ _ (by simp only;omega) he).1;simp only at this ⊢;omega
       ·cases hl
     clear hl e1 e2 e3;have B2:=B1.kp g2 (by simp;omega);obtain⟨y0,y1,y2,y3,y4,y5,y6,y7⟩:=zE.c8 B2;have fy:=B2.fz;go_wp2_with fail;obtain⟨w6,hw6,R6,g6,h6,G6⟩:=U4 B2 (g1.trans g2) h2 (Nat.le_refl _) hbl ⟨3,0,fun _=>0,.slice a m c,0⟩;unfold VB at hw6;simp only[Int.natCast_zero]at hw6;rw[<- hw6];obtain⟨y0,y1,y2,y3,y4,y5,y6,y7⟩:=zE.c8 R6;have z1:=g1.size;have z6:=G6.size;have hB1:=B1.lt;refine bodyPost_ret (v:=jo.val ⟨3,0,fun _=>0,.slice a m c,0⟩) (by simp[results,Tryz.results146,go_sem,jo.val,y0,y1,y2,y3,y4,y5,y6,y7]) rfl ⟨g6,Or.inl ⟨_,_,_,F,N+1,HR2.o,rfl,⟨_,rfl,rfl,hh,⟨_,_,_,rfl⟩,_,rfl,⟨Int.le_refl 0,(by simp)⟩,Or.inr (Or.inr (Or.inr ⟨rfl,N,rfl,?_⟩))⟩,fun k hk=>by have:=hF k hk;omega,h6,by rw[hk];omega,HI2.o,hi2',hki2⟩⟩;exact yC.frame (fun k hk=>G6.block k (hF k hk).2 (by have:=hF k hk;simp;omega)) (fun _ h=>h) _ _ _ _ hR
    ·have HR2:=zC (HR.o.trans hl)
     clear hl;obtain⟨rfl,ht⟩:=hg;exact zY rfl ⟨g1.trans g2,Or.inr ⟨D,HR2.o,⟨rfl,ht⟩⟩⟩
   ·have q3:(bt S s.i==40)=false:=by simp[e3]
    have HR:Hd (∀r,zx S 32 JE s=r->Zk (zv S n (d+1)) S d s=match r with|.ok (c,s2)=> .ok (zF.cls [(c,c)],s2)|.error d=> .error d):=by
     intro r hr;simp only[Zk,if_neg e1,if_neg e2,if_neg e3,hr]
    go_wp2_with fail;refine(TV h1 hS (by omega)).mono ?_;rintro e w2 ⟨g2,⟨c,s2,v,hl,rfl,hv,h2⟩|⟨D,hl,hg⟩⟩
    ·have HR2:=zC (HR.o _ hl)
     have lo:=Jr (by omega) hl;unfold Qi at hv;subst hv;clear hl e1 e2 e3;have B2:=B1.kp g2 (by simp;omega);obtain⟨y0,y1,y2,y3,y4,y5,y6,y7⟩:=zE.c8 B2;have fy:=B2.fz;go_wp2_with fail;obtain⟨w6,hw6,R6,g6,h6,_⟩:=U4 B2 (g1.trans g2) h2 (Nat.le_refl _) hbl ⟨0,c,fun _=>0,.slice none 0 0,0⟩;unfold VB at hw6;simp only[Int.natCast_zero]at hw6;rw[<- hw6];obtain⟨y0,y1,y2,y3,y4,y5,y6,y7⟩:=zE.c8 R6;refine bodyPost_ret (v:=jo.val ⟨0,c,fun _=>0,.slice none 0 0,0⟩) (by simp[results,Tryz.results146,go_sem,jo.val,y0,y1,y2,y3,y4,y5,y6,y7]) rfl ⟨g6,Or.inl ⟨_,_,_,fun _=>False,1,HR2.o,rfl,⟨_,rfl,rfl,0,⟨_,_,_,rfl⟩,_,rfl,⟨Int.le_refl 0,(by simp)⟩,Or.inl ⟨rfl,rfl,lo.2.2.1,lo.2.2.2.1,rfl⟩⟩,fun k hk=>hk.elim,h6,by rw[lo.2.2.2.2.2.2];omega,lo.1,lo.2.1,by rw[lo.2.2.2.2.2.2];omega⟩⟩
    ·have HR2:=zC (HR.o _ hl)
     clear hl;obtain⟨rfl,ht⟩:=hg;exact zY rfl ⟨g1.trans g2,Or.inr ⟨D,HR2.o,⟨rfl,ht⟩⟩⟩
def BR(w:World)(F:Nat->Prop)(v:Value)(L:zF)(N:Nat):Prop:=(∃a n c,v= .slice a n c)/\∃h,VL w F (yC w F h) v L N
theorem Fs:(Tryz.prog.info? 256).map (fun i=>(i.zero,i.size,i.bytes))=some (some (.agg Ql),8,80):=by kernel_rfl
theorem Ir(S:ByteArray)(i:Nat):0<=Jb S i/\Jb S i<=3:=by
 unfold Jb;repeat' split
 all_goals omega
theorem Rh{S:ByteArray}{s:St}(hi:s.i<=S.size):s.i<=(Zj S s).i/\(Zj S s).i<=S.size/\(Zj S s).k=s.k:=by
 unfold Zj
 split
 ·exact⟨Nat.le_refl _,hi,rfl⟩
 ·rename_i hh
  have:0<=bt S s.i:=by
   unfold Jb at hh
   by_cases h1:bt S s.i=42
   ·omega
   ·by_cases h2:bt S s.i=43
    ·omega
    ·by_cases h3:bt S s.i=63
     ·omega
     ·simp[h1,h2,h3]at hh
  have:=yB this;exact⟨by simp,this,rfl⟩
theorem Y5.times{E:Value->zF->Nat->Prop}{p:jo}{L:zF}{N:Nat}(h:Y5 E p L N)(h0:p.rp=0){r:Int}(hr:0<=r/\r<=3):Y5 E {p with rp:=r} (YX r L) N:=by
 obtain⟨hg,A,h1,h2,h3⟩:=h;rw[h0]at h1;have:L=A:=h1;subst this;exact⟨hg,L,rfl,hr,h3⟩
theorem Dx{q:Bool}{e a x:Int}{s:St}:({zL q e a s with k:=x}:St)=zL q e a {s with k:=x}:=by
 unfold zL
 split <;>rfl
theorem MF{w:World}{b:Nat}{S:ByteArray}{q:Bool}{e a:Int}{s:St}{v5 v6 v7:Value}(h:zP w b S (zL q e a s) v5 v6 v7):w.cell? ⟨b,4,none⟩=some (.int .i64 s.k)/\w.cell? ⟨b,1,none⟩=some (.int .i64 s.i):=by
 obtain⟨c0,c1,c2,c3,c4,c5,c6,c7,fz⟩:=h.fa;rw[ym]at c1;rw[Qp]at c4;exact⟨c4,c1⟩
theorem Fb(bs:List (jo×zF×Nat))(p:jo×zF×Nat):VA (bs++[p])=VA bs++p.1.cells:=by simp[VA]
def SS(S:ByteArray)(w:World)(b:Nat)(s:St)(d:Nat)(v5 v6 v7:Value)(base:St->Except Nat (zF×St))(r:Except Nat (zF×St))(v:Value)(w5:World):Prop:=
 ∃(s5:St) (bs:List (jo×zF×Nat)) (F:Nat->Prop) (h m:Nat),w5.ownsRow 0 256 8 v bs.length (VA bs)/\(∀g,v.ownBlock=some g->w.heap.size<=g/\g<w5.heap.size)/\
  (∀p,p∈bs->Y5 (yC w5 F h) p.1 p.2.1 p.2.2)/\(∀k,F k->w.heap.size<=k/\k<w5.heap.size/\v.ownBlock≠some k)/\zP w5 b S s5 v5 v6 v7/\zi S s5 d/\s5.k=s.k+((bs.map fun p=>p.2.2).sum:Nat)/\s.i<=s5.i/\bs.length<=s5.i/\S.size<m+s5.i/\Ch [b] w w5/\
  r=yh base S m s5 (bs.map fun p=>p.2.1)
theorem Tc{n:Nat}{w:World}{b:Nat}{S:ByteArray}{s:St}{d:Nat}{v5 v6 v7:Value}(hE:VU S n)(h:zP w b S s v5 v6 v7)(hS:S.size<=400)(hI:zi S s d)(hn:S.size<n+(s.i+1)):
 Calls Tryz.prog 102 #[.pointer (some ⟨b,0,none⟩),.int .i64 d] w (XV w b S s.k s.i v5 v6 v7 BR (yh (ye (zv S n (d+1)) S d) S (S.size+1) s [])):=by
 have hbl:=h.lt;go_enter Tryz.func102,Tryz.ntmps102;go_wp2_with fail
 go_loopw [5,6] (fun v _ w5=>SS S w b s d v5 v6 v7 (ye (zv S n (d+1)) S d) (yh (ye (zv S n (d+1)) S d) S (S.size+1) s []) v w5) (fun _ _ w5=>S.size - penI b w5)
 case atStart=>exact⟨s,[],fun _=>False,0,S.size+1,⟨rfl,Or.inl ⟨rfl,rfl⟩⟩,by intro g hg;simp[Value.ownBlock]at hg,by intro p hp;simp at hp,fun k hk=>hk.elim,h,hI,by simp,Nat.le_refl _,by simp,by omega,Ch.refl _ _,rfl⟩
 case round=>
  generalize wr=w5 at *;obtain⟨s5,bs,F,hh,m,O5,V5,P5,F5,h5,I5,hk5,hi5,hl5,hm5,g5,HR0⟩:=hrel;obtain⟨a5,c5,rfl⟩:=zQ O5;have HR:=zC HR0;have HK:=zC hk5;clear HR0 hk5;obtain⟨m,rfl⟩:∃t,m=t+1:=⟨m - 1,by have:=I5.i;omega⟩;have bd:=MN S s5.i;have z5:=g5.size;cases hb:ZX (bt S s5.i)
  ·have HB:=zC hb
   go_wp2_with fail;refine(Ll h5 hS I5.i).mono ?_;rintro e w6 ⟨rfl,h6,g6⟩;rw[hb];have z6:=g6.size;clear hb;go_wp2_with fail;go_ret;cases hst:Yj (bt S s5.i)
   ·have hR:yh (ye (zv S n (d+1)) S d) S (m+1) s5 (bs.map fun p=>p.2.1)= .error s5.i:=by
     simp only[yh,hst,Bool.false_eq_true,if_false,Cw HB.o]
    have h0:0<=bt S s5.i:=by
     unfold Yj at hst;simp at hst;omega
    exact⟨g5.trans g6,Or.inr (Or.inr ⟨s5,_,HR.o.trans hR,rfl,⟨_,_,_,rfl⟩,h6,yB h0,hst,hi5⟩)⟩
   ·have hR:yh (ye (zv S n (d+1)) S d) S (m+1) s5 (bs.map fun p=>p.2.1)= .ok (zF.row (bs.map fun p=>p.2.1),s5):=by
     simp only[yh,hst,if_true]
    have fr:∀k,F k->w6.heap[k]? =w5.heap[k]? :=fun k hk=>g6.block k (F5 k hk).2.1 (by have:=F5 k hk;simp;omega)
    refine⟨g5.trans g6,Or.inl ⟨_,s5,_,fun k=>F k\/(Value.slice a5 bs.length c5).ownBlock=some k,_,HR.o.trans hR,rfl,⟨⟨_,_,_,rfl⟩,hh,fun g hg=>Or.inr hg,bs,?_,rfl,rfl,?_⟩,?_,h6,HK.o,hi5,I5.i,I5.k1⟩⟩
    ·exact zJ O5 g6 (fun k hk=>by have:=V5 k hk;simp;omega)
    ·intro p hp
     exact(P5 p hp).mono (yC.frame fr (fun _ h=>Or.inl h) hh)
    ·rintro k (hk|hk)
     ·have:=F5 k hk;omega
     ·have:=V5 k hk;omega
  ·have hst:=SB bd.1 bd.2 hb
   have HB:=zC hb
   have hlt:s5.i<S.size:=by
    apply yB;unfold Yj at hst;simp at hst;omega
   have hR1:Hd (∀L s',ye (zv S n (d+1)) S d s5= .ok (L,s')->yh (ye (zv S n (d+1)) S d) S (m+1) s5 (bs.map fun p=>p.2.1)=yh (ye (zv S n (d+1)) S d) S m (Zj S s') ((bs.map fun p=>p.2.1)++[YX (Jb S s'.i) L])):=by
    intro L s' e;simp only[yh,hst,Bool.false_eq_true,if_false,e,Fi]
   have hR2:Hd (∀D,ye (zv S n (d+1)) S d s5= .error D->yh (ye (zv S n (d+1)) S d) S (m+1) s5 (bs.map fun p=>p.2.1)= .error D):=by
    intro D e;simp only[yh,hst,Bool.false_eq_true,if_false,e]
   go_wp2_with fail;refine(Ll h5 hS I5.i).mono ?_;rintro e w6 ⟨rfl,h6,g6⟩;rw[hb];have z6:=g6.size;clear hb hst;obtain⟨c0,c1,c2,c3,c4,c5',c6,c7,fz⟩:=h6.fa
   have lk:s5.k<=400:=by have:=I5.k1;have:=I5.i;omega
   have lk0:=I5.k0;go_wp2_with fail
   go_region_held3 (fun w'=>w'.cell? ⟨b,4,none⟩=some (.int .i64 s5.k)/\w'.cell? ⟨b,1,none⟩=some (.int .i64 s5.i)) (first|go_keep|(exact⟨e4,e1⟩))
    (first|(go_at_call 113;refine(QF (S:=S) (s:=s5) (v5:=v5) (v6:=v6) (v7:=v7) ?_ _ _ _).mono ?_;exact h6;rintro e w7 ⟨rfl,h7,g7⟩;obtain⟨e4,e1⟩:=MF h7))
   rename_i hHeld
   clear hHeld e4 e1 c0 c1 c2 c3 c4 c5' c6 c7 fz;have g67:Ch [b] w5 w7:=g6.trans ((Ch.drew _ _).trans g7);obtain⟨e4,e1⟩:=MF h7;have fz:=h7.fa.2.2.2.2.2.2.2.2
   have hs8:({zL (decide ((12:Int)<=s5.k)) 3 s5.i s5 with k:=s5.k+1}:St)=zL (decide (12<s5.k+1)) 3 s5.i {s5 with k:=s5.k+1}:=by
    rw[Dx,show decide ((12:Int)<=s5.k)=decide (12<s5.k+1)from by rw[decide_eq_decide];omega]
   have h8:zP (w7.setCell ⟨b,4,none⟩ (.int .i64 (s5.k+1))) b S (zL (decide (12<s5.k+1)) 3 s5.i {s5 with k:=s5.k+1}) v5 v6 v7:=by rw[<- hs8];exact h7.set.2.2.2.1 (s5.k+1)
   have G8:Ch [b] w7 (w7.setCell ⟨b,4,none⟩ (.int .i64 (s5.k+1))):=Ch.setCell _ (by simp) _;have g8:=g67.trans G8;clear hs8 h7;have i8:(zL (decide (12<s5.k+1)) 3 s5.i {s5 with k:=s5.k+1}).i=s5.i:=ym;have k8:(zL (decide (12<s5.k+1)) 3 s5.i {s5 with k:=s5.k+1}).k=s5.k+1:=Qp;have HBE:Hd (ye (zv S n (d+1)) S d s5=Zk (zv S n (d+1)) S d (zL (decide (12<s5.k+1)) 3 s5.i {s5 with k:=s5.k+1})):=Kq;go_wp2_with fail;generalize zL (decide (12<s5.k+1)) 3 s5.i {s5 with k:=s5.k+1}=s8 at *;generalize w7.setCell ⟨b,4,none⟩ (.int .i64 (s5.k+1))=w8 at *;clear e4 e1 fz;have I8:=zC i8;have K8:=zC k8;clear i8 k8;refine(Od hE h8 hS (by rw[I8.o];exact hlt) (by rw[K8.o];omega) (by rw[K8.o,I8.o];have:=I5.k1;omega) (by rw[I8.o];exact I5.d) (by rw[I8.o];omega) (by rw[I8.o];exact HB.o)).mono ?_;rintro e w9 ⟨g9,⟨L,s9,v,F9,N,hr,rfl,⟨p,rfl,hp0,h9h,hR9⟩,hF9,h9,hk9,hi9,hi9',hki9⟩|⟨D,hr,hg⟩⟩
   ·have HRa:=zC (hR1.o _ _ (HBE.o.trans hr))
    clear hr;obtain⟨K,c,q,gv,rp⟩:=p;simp only at hp0;subst hp0;obtain⟨ga,gn,gc,rfl⟩:∃a n c,gv= .slice a n c:=hR9.1;have HR9:=zC hR9;clear hR9;rw[show jo.val ⟨K,c,q,.slice ga gn gc,0⟩= .agg #[.int .i64 K,.int .u8 c,.int .u64 (q 0),.int .u64 (q 1),.int .u64 (q 2),.int .u64 (q 3),.slice ga gn gc,.int .i64 0]from rfl];have z8:=g8.size;have z9:=g9.size;have hbl9:=h9.lt;have B10:zE (w9.alloc (.cells #[.int .i64 K,.int .u8 c,.int .u64 (q 0),.int .u64 (q 1),.int .u64 (q 2),.int .u64 (q 3),.slice ga gn gc,.int .i64 0] 256)) w9.heap.size #[.int .i64 K,.int .u8 c,.int .u64 (q 0),.int .u64 (q 1),.int .u64 (q 2),.int .u64 (q 3),.slice ga gn gc,.int .i64 0] 256:=zE.new w9 _ _;have h10:=h9.kp (Ch.alloc [] w9 (.cells #[.int .i64 K,.int .u8 c,.int .u64 (q 0),.int .u64 (q 1),.int .u64 (q 2),.int .u64 (q 3),.slice ga gn gc,.int .i64 0] 256)) (by simp);have G10:=Ch.alloc [] w9 (.cells #[.int .i64 K,.int .u8 c,.int .u64 (q 0),.int .u64 (q 1),.int .u64 (q 2),.int .u64 (q 3),.slice ga gn gc,.int .i64 0] 256)
    have z10:(w9.alloc (.cells #[.int .i64 K,.int .u8 c,.int .u64 (q 0),.int .u64 (q 1),.int .u64 (q 2),.int .u64 (q 3),.slice ga gn gc,.int .i64 0] 256)).heap.size=w9.heap.size+1:=by simp
    go_wp2_with fail;generalize w9.alloc (.cells #[.int .i64 K,.int .u8 c,.int .u64 (q 0),.int .u64 (q 1),.int .u64 (q 2),.int .u64 (q 3),.slice ga gn gc,.int .i64 0] 256)=w10 at *;refine(T6 h10 hS hi9').mono ?_;rintro e w11 ⟨rfl,h11,g11⟩;have B11:=B10.kp g11 (by simp;omega);obtain⟨y0,y1,y2,y3,y4,y5,y6,y7⟩:=zE.c8 B11;have fy:=B11.fz;have rl:=Rh (S:=S) (s:=s9) hi9';have rb:=Ir S s9.i;generalize hrp:Jb S s9.i=rp at *;have HRP:=zC hrp;clear hrp;have z11:=g11.size;have B12:zE (w11.setCell ⟨w9.heap.size,7,none⟩ (.int .i64 rp)) w9.heap.size #[.int .i64 K,.int .u8 c,.int .u64 (q 0),.int .u64 (q 1),.int .u64 (q 2),.int .u64 (q 3),.slice ga gn gc,.int .i64 rp] 256:=B11.set 7 _;have G12:Ch [w9.heap.size] w11 (w11.setCell ⟨w9.heap.size,7,none⟩ (.int .i64 rp)):=Ch.setCell _ (by simp) _;have h12:=h11.kp G12 (by simp;omega);obtain⟨k0,k1,k2,k3,k4,k5,k6,k7⟩:=zE.c8 B12;have G512:Ch [b] w5 (w11.setCell ⟨w9.heap.size,7,none⟩ (.int .i64 rp)):=(((g8.trans g9).trans (G10.mono (by simp))).trans g11).trans' G12 (by intro k hk;simp at hk;omega);have O12:=zJ O5 G512 (fun k hk=>by have:=V5 k hk;simp;omega)
    have z12:(w11.setCell ⟨w9.heap.size,7,none⟩ (.int .i64 rp)).heap.size=w11.heap.size:=by simp[World.setCell]
    have O13:=zJ O12 (Ch.alloc [] (w11.setCell ⟨w9.heap.size,7,none⟩ (.int .i64 rp)) (.cells #[.int .i64 K,.int .u8 c,.int .u64 (q 0),.int .u64 (q 1),.int .u64 (q 2),.int .u64 (q 3),.slice ga gn gc,.int .i64 rp] 256)) (by simp);have N13:=zr (w11.setCell ⟨w9.heap.size,7,none⟩ (.int .i64 rp)) (.cells #[.int .i64 K,.int .u8 c,.int .u64 (q 0),.int .u64 (q 1),.int .u64 (q 2),.int .u64 (q 3),.slice ga gn gc,.int .i64 rp] 256);rw[z12]at N13;have V5x:=zC V5;have P5x:=zC P5;have F5x:=zC F5;clear V5 P5 F5;go_wp2_with (at_builtin;refine QC 201 256 8 80 (.agg Ql) Tryz.underlying201 Fs rfl (by omega) (by omega) (by rfl) _ _ (by rfl) (.slice a5 bs.length c5) bs.length _ (by rfl) O13 w11.heap.size [.int .i64 K,.int .u8 c,.int .u64 (q 0),.int .u64 (q 1),.int .u64 (q 2),.int .u64 (q 3),.slice ga gn gc,.int .i64 rp] (by rfl) N13 rfl (by simp;exact⟨rfl,rfl,rfl,rfl,rfl,rfl,rfl,rfl⟩) (by omega) (w11.heap.size+1) (by simp[z12]) ?_;intro g cap w13 own13 gr13 hat13 hlt13);have V5:=V5x.o;have F5:=F5x.o
    have hg6:w.heap.size<=g:=by
     rcases hat13 with e|e
     ·exact(V5 g e).1
     ·omega
    have nb:b∉(Value.slice a5 bs.length c5).ownBlock.toList:=by simp;intro e;have:=V5 _ e;omega
    have h13:=(h12.kp (Ch.alloc [] (w11.setCell ⟨w9.heap.size,7,none⟩ (.int .i64 rp)) (.cells #[.int .i64 K,.int .u8 c,.int .u64 (q 0),.int .u64 (q 1),.int .u64 (q 2),.int .u64 (q 3),.slice ga gn gc,.int .i64 rp] 256)) (by simp)).kp gr13 nb;have G511:Ch [b] w5 w11:=((g8.trans g9).trans (G10.mono (by simp))).trans g11
    have C13:Ch [b] w w13:=by
     refine((g5.trans G512).trans (Ch.alloc [b] _ _)).trans' gr13 (fun k hk=> ?_);simp at hk;exact Or.inr (V5 k hk).1
    have z13:=gr13.size
    have z13':w11.heap.size+1<=w13.heap.size:=by
     have:((w11.setCell ⟨w9.heap.size,7,none⟩ (.int .i64 rp)).alloc (.cells #[.int .i64 K,.int .u8 c,.int .u64 (q 0),.int .u64 (q 1),.int .u64 (q 2),.int .u64 (q 3),.slice ga gn gc,.int .i64 rp] 256)).heap.size=w11.heap.size+1:=by simp[z12]
     omega
    have fr5:∀k,F k->w13.heap[k]? =w5.heap[k]? :=by
     intro k hk;have a:=F5 k hk;rw[gr13.block k (by simp[z12];omega) (by simp;intro e;exact a.2.2 e),(Ch.alloc [] _ _).block k (by omega) (by simp),G512.block k a.2.1 (by simp;omega)]
    have fr9:∀k,F9 k->w13.heap[k]? =w9.heap[k]? :=by
     intro k hk;have a:=hF9 k hk;rw[gr13.block k (by simp[z12];omega) (by simp;intro e;have:=V5 k e;omega),(Ch.alloc [] _ _).block k (by omega) (by simp),G12.block k (by omega) (by simp;omega),g11.block k (by omega) (by simp;omega),G10.block k (by omega) (by simp)]
    go_roundw
    case rel=>
     have I8o:=I8.o;refine⟨Zj S s9,bs++[(⟨K,c,q,.slice ga gn gc,rp⟩,YX rp L,N)],fun k=>F k\/F9 k,max hh h9h,m,?_,?_,?_,?_,h13,⟨rl.2.1,?_,?_,?_⟩,?_,by omega,by simp;omega,by omega,C13,?_⟩
     ·rw[Fb,List.length_append];exact own13
     ·intro k hk;simp[Value.ownBlock]at hk;subst hk;exact⟨hg6,hlt13⟩
     ·intro p hp
      rcases List.mem_append.1 hp with hp|hp
      ·exact(P5x.o p hp).mono (fun v L N h=>yC.frame fr5 (fun _ h=>Or.inl h) _ _ _ _ (yC.le (Nat.le_max_left _ _) v L N h))
      ·simp at hp
       subst hp;exact(HR9.o.times rfl rb).mono (fun v L N h=>yC.frame fr9 (fun _ h=>Or.inr h) _ _ _ _ (yC.le (Nat.le_max_right _ _) v L N h))
     ·rintro k (hk|hk)
      ·have a:=F5 k hk
       refine⟨a.1,by omega,?_⟩;simp[Value.ownBlock];intro e
       rcases hat13 with e'|e'
       ·exact a.2.2 (e ▸ e')
       ·omega
      ·have a:=hF9 k hk
       refine⟨by omega,by omega,?_⟩;simp[Value.ownBlock];intro e
       rcases hat13 with e'|e'
       ·have:=V5 _ e';omega
       ·omega
     ·rw[rl.2.2,hk9,K8.o];have:=I5.k0;omega
     ·rw[rl.2.2];omega
     ·have:=I5.d;have:=I8.o;omega
     ·rw[rl.2.2,hk9,K8.o,HK.o];simp;omega
     ·rw[HR.o,HRa.o];simp
    case measure=>
     rw[h5.penI,h13.penI];have:=I8.o;omega
   ·have HRa:=zC (hR2.o _ (HBE.o.trans hr))
    clear hr;obtain⟨rfl,ht⟩:=hg;exact zY (P:=Tryz.prog) (fn:=Tryz.f102) rfl ⟨g5.trans (g8.trans g9),Or.inr (Or.inl ⟨D,HR.o.trans HRa.o,⟨rfl,ht⟩⟩)⟩
theorem aM:(Tryz.prog.info? 201).map (fun i=>(i.zero,i.size,i.bytes))=some (some (.slice none 0 0),1,24):=by kernel_rfl
theorem Tk(w:World)(E:TypeId)(v:Value):(w.alloc (.cells #[v] E)).ownsRow 0 E 1 (.slice (some ⟨w.heap.size,0,none⟩) 1 1) 1 [v]:=
 ⟨rfl,Or.inr ⟨w.heap.size,1,#[v],rfl,Nat.zero_le _,zr _ _,Nat.le_refl _,by decide,rfl,rfl⟩⟩
def WN(row:St->Except Nat (zF×St))(S:ByteArray)(m:Nat)(s:St)(Ls:List zF):Except Nat (zF×St):=
 if bt S s.i=124 then jZ row S m {s with i:=s.i+1} Ls else .ok (zF.alt Ls,s)
theorem Bm{row:St->Except Nat (zF×St)}{S:ByteArray}{m:Nat}{s s1:St}{R:List zF}{L:zF}(h:row s= .ok (L,s1)):jZ row S (m+1) s R=WN row S m s1 (R++[L]):=by
 simp only[jZ,h,WN]
theorem U7{row:St->Except Nat (zF×St)}{S:ByteArray}{m:Nat}{s:St}{R:List zF}{D:Nat}(h:row s= .error D):jZ row S (m+1) s R= .error D:=by
 simp only[jZ,h]
def Nm(S:ByteArray)(w:World)(b:Nat)(s:St)(d:Nat)(v5 v6 v7:Value)(row:St->Except Nat (zF×St))(r:Except Nat (zF×St))(v:Value)(w5:World):Prop:=
 Ch [b] w w5/\(∃a n c,v= .slice a n c)/\
 ((∃(s5:St) (rs:List (Value×zF×Nat)) (F:Nat->Prop) (h m:Nat),w5.ownsRow 0 201 1 v rs.length (rs.map fun p=>p.1)/\(∀g,v.ownBlock=some g->w.heap.size<=g/\g<w5.heap.size)/\
   (∀p,p∈rs->VL w5 F (yC w5 F h) p.1 p.2.1 p.2.2)/\(∀k,F k->w.heap.size<=k/\k<w5.heap.size/\v.ownBlock≠some k)/\zP w5 b S s5 v5 v6 v7/\zi S s5 d/\s5.k=s.k+((rs.map fun p=>p.2.2).sum:Nat)/\s.i<=s5.i/\rs.length<=s5.i+1/\S.size<m+(s5.i+1)/\
   r=WN row S m s5 (rs.map fun p=>p.2.1))\/
  (∃s5:St,r= .error s5.i/\zP w5 b S s5 v5 v6 v7/\s5.i<S.size/\Yj (bt S s5.i)=false/\s.i<=s5.i))
def Xd(b N:Nat)(w:World):Nat:=N - penI b w
theorem Oi{S:ByteArray}(hS:S.size<=400){n:Nat}(hE:VU S n):VU S (n+1):=by
 intro w b s d v5 v6 v7 h hI hn;have hbl:=h.lt;have HR0:Hd (zv S (n+1) d s=jZ (fun s=>yh (ye (zv S n (d+1)) S d) S (S.size+1) s []) S (S.size+1) s []):=rfl;generalize zv S (n+1) d s=R at *
 have hrow:∀(w:World) (s:St),zP w b S s v5 v6 v7->zi S s d->S.size<n+(s.i+1)->Calls Tryz.prog 102 #[.pointer (some ⟨b,0,none⟩),.int .i64 d] w (XV w b S s.k s.i v5 v6 v7 BR ((fun s=>yh (ye (zv S n (d+1)) S d) S (S.size+1) s []) s)):=fun w s h hI hn=>Tc hE h hS hI hn
 generalize (fun s=>yh (ye (zv S n (d+1)) S d) S (S.size+1) s [])=row at *;go_enter Tryz.func66,Tryz.ntmps66;go_wp2_with fail;refine(hrow w s h hI (by omega)).mono ?_;rintro e w1 ⟨g1,hpost⟩
 have key:(∃v,e= .returned v/\(∃a n c,v= .slice a n c)/\Nm S w b s d v5 v6 v7 row R (.slice (some ⟨w1.heap.size,0,none⟩) 1 1) (w1.alloc (.cells #[v] 201)))\/(∃D,R= .error D/\Zv w1 b S D e):=by
  have G2:∀v,Ch [b] w1 (w1.alloc (.cells #[v] 201)):=fun v=>Ch.alloc _ _ _
  have z1:=g1.size
  rcases hpost with⟨L,s1,v,F,N,hr,rfl,⟨hv,hh,hR⟩,hF,h1,hk,hi1,hi1',hki⟩|⟨D,hr,hg⟩|⟨s1,v,hr,rfl,hv,h1,hi1,hst,hi1'⟩
  ·left
   refine⟨v,rfl,hv,g1.trans (G2 v),⟨_,_,_,rfl⟩,Or.inl ⟨s1,[(v,L,N)],F,hh,S.size,Tk w1 _ v,?_,?_,?_,h1.kp (Ch.alloc [] _ _) (by simp),⟨hi1',by have:=hI.k0;omega,hki,by have:=hI.d;omega⟩,by simpa using hk,hi1,by simp,by omega,?_⟩⟩
   ·intro g hg;simp[Value.ownBlock]at hg;subst hg;simp;omega
   ·intro p hp
    simp at hp;subst hp;exact hR.mono (fun k hk=>(Ch.alloc [] _ _).block k (hF k hk).2 (by simp)) (fun _ h=>h) (yC.frame (fun k hk=>(Ch.alloc [] _ _).block k (hF k hk).2 (by simp)) (fun _ h=>h) hh)
   ·intro k hk
    have:=hF k hk;simp[Value.ownBlock];omega
   ·rw[HR0.o,Bm hr];rfl
  ·exact Or.inr ⟨D,by rw[HR0.o,U7 hr],hg⟩
  ·left
   exact⟨v,rfl,hv,g1.trans (G2 v),⟨_,_,_,rfl⟩,Or.inr ⟨s1,by rw[HR0.o,U7 hr],h1.kp (Ch.alloc [] _ _) (by simp),hi1,hst,hi1'⟩⟩
 clear hpost
 rcases key with⟨v,rfl,⟨a1,n1,c1,rfl⟩,hloop⟩|⟨D,hr,hg⟩
 ·clear HR0
  go_wp2_with fail
  go_loopw [5] (fun v w5=>Nm S w b s d v5 v6 v7 row R v w5) (fun _ w5=>Xd b S.size w5)
  case atStart=>exact hloop
  case round=>
   generalize wr=w5 at *;clear hloop;obtain⟨g5,⟨a5,n5,c5,rfl⟩,hcase⟩:=hrel
   rcases hcase with⟨s5,rs,F,hh,m,O5,V5,P5,F5,h5,I5,hk5,hi5,hl5,hm5,HR0⟩|⟨s5,hr5,h5,hi5,hst,hi5'⟩
   ·obtain⟨a5',c5',e5⟩:=zQ O5
    injection e5 with e5a e5b e5c
    subst e5a e5b e5c;have HR:=zC HR0;have HK:=zC hk5;clear HR0 hk5;have z5:=g5.size
    by_cases hb:bt S s5.i=124
    ·have hlt:=yB (S:=S) (i:=s5.i) (by omega)
     obtain⟨m,rfl⟩:∃t,m=t+1:=⟨m - 1,by omega⟩
     have HR1:Hd (R=jZ row S (m+1) {s5 with i:=s5.i+1} (rs.map fun p=>p.2.1)):=by show _=_;rw[HR.o];simp only[WN,if_pos hb]
     go_wp2_with fail;refine(ZP h5 hS 124 (by decide) hb).mono ?_;rintro e w6 ⟨rfl,h6,g6⟩;clear hb;go_wp2_with fail;refine(hrow w6 _ h6 ⟨hlt,I5.k0,by have:=I5.k1;simp only;omega,by have:=I5.d;simp only;omega⟩ (by simp only;omega)).mono ?_;rintro e w7 ⟨g7,hpost⟩;have z6:=g6.size;have z7:=g7.size;have G57:=g6.trans g7;have O7:=zJ O5 G57 (fun k hk=>by have:=V5 k hk;simp;omega)
     have hbl7:b<w7.heap.size:=by omega
     have V5x:=zC V5;have P5x:=zC P5;have F5x:=zC F5;clear V5 P5 F5
     have key:(∃a n c,e= .returned (.slice a n c))\/(∃D,R= .error D/\Zv w7 b S D e):=by
      rcases hpost with⟨L,s1,v,F,N,hr,rfl,⟨⟨a,nn,c,rfl⟩,hR⟩,hF,h1,hk,hi1,hi1',hki⟩|⟨D,hr,hg⟩|⟨s1,v,hr,rfl,⟨a,nn,c,rfl⟩,h1,hi1,hst,_⟩
      ·exact Or.inl ⟨_,_,_,rfl⟩
      ·exact Or.inr ⟨D,by rw[HR1.o,U7 hr],hg⟩
      ·exact Or.inl ⟨_,_,_,rfl⟩
     rcases key with⟨a7,n7,c7,rfl⟩|⟨D,hr,hg⟩
     ·have HP:=zC hpost
      clear hpost;have O8:=zJ O7 (Ch.alloc [] w7 (.cells #[.slice a7 n7 c7] 201)) (by simp);have N8:=zr w7 (.cells #[.slice a7 n7 c7] 201);go_wp2_with (at_builtin;refine QC 85 201 1 24 (.slice none 0 0) Tryz.underlying85 aM rfl (by omega) (by omega) (by rfl) _ _ (by rfl) (.slice a5 rs.length c5) rs.length _ (by rfl) O8 w7.heap.size [.slice a7 n7 c7] (by rfl) N8 rfl (by intro u hu;simp at hu;subst hu;rfl) (by omega) (w7.heap.size+1) (by simp) ?_;intro g cap w13 own13 gr13 hat13 hlt13);have V5:=V5x.o;have F5:=F5x.o
      have hg6:w.heap.size<=g:=by
       rcases hat13 with e|e
       ·exact(V5 g e).1
       ·omega
      have nb:b∉(Value.slice a5 rs.length c5).ownBlock.toList:=by simp;intro e;have:=V5 _ e;omega
      have C13:Ch [b] w w13:=by
       refine((g5.trans G57).trans (Ch.alloc [b] _ _)).trans' gr13 (fun k hk=> ?_);simp at hk;exact Or.inr (V5 k hk).1
      have z13:w7.heap.size+1<=w13.heap.size:=by have:=gr13.size;simpa using this
      have fr5:∀k,F k->w13.heap[k]? =w5.heap[k]? :=by
       intro k hk;have a:=F5 k hk;rw[gr13.block k (by simp;omega) (by simp;intro e;exact a.2.2 e),(Ch.alloc [] _ _).block k (by omega) (by simp),G57.block k a.2.1 (by simp;omega)]
      rcases HP.o with⟨L,s7,v,F7,N,hr,e,⟨hv,h7h,hR⟩,hF7,h7,hk7,hi7,hi7',hki7⟩|⟨D,hr,hg⟩|⟨s7,v,hr,e,hv,h7,hi7,hst,hi7''⟩
      ·injection e with e
       subst e;have h13:=(h7.kp (Ch.alloc [] w7 (.cells #[.slice a7 n7 c7] 201)) (by simp)).kp gr13 nb
       have fr7:∀k,F7 k->w13.heap[k]? =w7.heap[k]? :=by
        intro k hk;have a:=hF7 k hk;rw[gr13.block k (by simp;omega) (by simp;intro e;have:=V5 k e;omega),(Ch.alloc [] _ _).block k (by omega) (by simp)]
       go_roundw
       case rel=>
        refine⟨C13,⟨_,_,_,rfl⟩,Or.inl ⟨s7,rs++[(.slice a7 n7 c7,L,N)],fun k=>F k\/F7 k,max hh h7h,m,?_,?_,?_,?_,h13,⟨hi7',?_,hki7,?_⟩,?_,?_,?_,?_,?_⟩⟩
        ·rw[List.length_append,List.map_append];exact own13
        ·intro k hk;simp[Value.ownBlock]at hk;subst hk;exact⟨hg6,hlt13⟩
        ·intro p hp
         rcases List.mem_append.1 hp with hp|hp
         ·exact(P5x.o p hp).mono fr5 (fun _ h=>Or.inl h) (fun v L N h=>yC.frame fr5 (fun _ h=>Or.inl h) _ _ _ _ (yC.le (Nat.le_max_left _ _) v L N h))
         ·simp at hp
          subst hp;exact hR.mono fr7 (fun _ h=>Or.inr h) (fun v L N h=>yC.frame fr7 (fun _ h=>Or.inr h) _ _ _ _ (yC.le (Nat.le_max_right _ _) v L N h))
        ·rintro k (hk|hk)
         ·have a:=F5 k hk
          refine⟨a.1,by omega,?_⟩;simp[Value.ownBlock];intro e
          rcases hat13 with e'|e'
          ·exact a.2.2 (e ▸ e')
          ·omega
         ·have a:=hF7 k hk
          refine⟨by omega,by omega,?_⟩;simp[Value.ownBlock];intro e
          rcases hat13 with e'|e'
          ·have:=V5 _ e';omega
          ·omega
        ·have:=I5.k0;(try simp only at hk7);omega
        ·have:=I5.d;(try simp only at hi7);omega
        ·(try simp only at hk7);rw[hk7,HK.o];simp;omega
        ·(try simp only at hi7);omega
        ·(try simp only at hi7);simp;omega
        ·(try simp only at hi7);omega
        ·rw[HR1.o,Bm hr];simp
       case measure=>
        unfold Xd;rw[h5.penI,h13.penI];(try simp only at hi7);omega
      ·cases hg.1
      ·have h13:=(h7.kp (Ch.alloc [] w7 (.cells #[.slice a7 n7 c7] 201)) (by simp)).kp gr13 nb
       have hi8:s5.i+1<=s7.i:=hi7'';go_roundw
       case rel=>exact⟨C13,⟨_,_,_,rfl⟩,Or.inr ⟨s7,by rw[HR1.o,U7 hr],h13,hi7,hst,by omega⟩⟩
       case measure=>
        unfold Xd;rw[h5.penI,h13.penI];omega
     ·obtain⟨rfl,ht⟩:=hg
      exact zY (P:=Tryz.prog) (fn:=Tryz.f66) rfl ⟨g5.trans G57,Or.inr (Or.inl ⟨D,hr,⟨rfl,ht⟩⟩)⟩
    ·have HR1:Hd (R= .ok (zF.alt (rs.map fun p=>p.2.1),s5)):=by show _=_;rw[HR.o];simp only[WN,if_neg hb]
     go_wp2_with fail;refine(JW h5 hS I5.i 124 hb).mono ?_;rintro e w6 ⟨rfl,h6,g6⟩;clear hb;have z6:=g6.size;go_wp2_with fail;go_ret
     have fr:∀k,F k->w6.heap[k]? =w5.heap[k]? :=fun k hk=>g6.block k (F5 k hk).2.1 (by have:=F5 k hk;simp;omega)
     refine⟨g5.trans g6,Or.inl ⟨_,s5,_,fun k=>F k\/(Value.slice a5 rs.length c5).ownBlock=some k,_,HR1.o,rfl,⟨⟨_,_,_,rfl⟩,hh+1,fun g hg=>Or.inr hg,rs,?_,rfl,rfl,?_⟩,?_,h6,HK.o,hi5,I5.i,I5.k1⟩⟩
     ·exact zJ O5 g6 (fun k hk=>by have:=V5 k hk;simp;omega)
     ·intro p hp
      exact(P5 p hp).mono fr (fun _ h=>Or.inl h) (yC.frame fr (fun _ h=>Or.inl h) hh)
     ·rintro k (hk|hk)
      ·have:=F5 k hk;omega
      ·have:=V5 k hk;omega
   ·have hb:¬bt S s5.i=124:=by intro e;rw[e]at hst;exact absurd hst (by decide)
    have HR:=zC hr5;clear hr5;go_wp2_with fail;refine(JW h5 hS (by omega) 124 hb).mono ?_;rintro e w6 ⟨rfl,h6,g6⟩;clear hb;go_wp2_with fail;go_ret;exact⟨g5.trans g6,Or.inr (Or.inr ⟨s5,_,HR.o,rfl,⟨_,_,_,rfl⟩,h6,hi5,hst,hi5'⟩)⟩
 ·obtain⟨rfl,ht⟩:=hg
  exact zY rfl ⟨g1,Or.inr (Or.inl ⟨D,hr,⟨rfl,ht⟩⟩)⟩
theorem D0{S:ByteArray}(hS:S.size<=400):∀n,VU S n
 |0=>by intro w b s d v5 v6 v7 h hI hn;have:=hI.i;omega
 |n+1=>Oi hS (D0 hS n)
end Go.Proofs.YteobgfbgglfkbaaGreat
