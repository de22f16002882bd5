import Derived.Test.YteobgfbgglfkbaaGreatJB1
import Derived.Lib.Bytealg
set_option maxHeartbeats 1600000
set_option maxRecDepth 100000
namespace Go.Proofs.YteobgfbgglfkbaaGreat
open Go.RowKit
attribute [local go_sem ↓] Go.wp_at_zero Go.wp_at_succ
def jW(l:ByteArray)(c:Int):Int:=Go.Lib.indexByte l.data.toList c.toNat.toUInt8
theorem Cf(l:ByteArray)(c:Int)(w:World):(callFunc 218 #[.string l,.int .u8 c]).run Tryz.prog w= .ok (.value (.int .i64 (jW l c))) w:=by
 rw[run_callFunc_extern Tryz.func218 (by kernel_rfl) (by kernel_rfl) (by kernel_rfl) (e:=Extern.BytealgIndexByte.indexByte) (by kernel_rfl),Go.Lib.run_indexByteString]
 try rfl
theorem Hc{w:World}(l:ByteArray)(c:Int):Calls Tryz.prog 210 #[.string l,.int .u8 c] w fun e w'=>e= .returned (.int .i64 (jW l c))/\w'=w:=by
 have hr:=Cf l c w;go_enter Tryz.func210,Tryz.ntmps210;go_wp2_with fail;go_ret;exact⟨rfl,rfl⟩
theorem VY{w:World}(l:ByteArray)(c:Int):Calls Tryz.prog 190 #[.string l,.int .u8 c] w fun e w'=>e= .returned (.int .i64 (jW l c))/\w'=w:=by
 go_enter Tryz.func190,Tryz.ntmps190;go_wp2_with fail;refine(Hc l c).mono ?_;rintro e w1 ⟨rfl,rfl⟩;go_wp2_with fail;go_ret;exact⟨rfl,rfl⟩
theorem Kt:∀(l:List UInt8) (c:UInt8),Go.Lib.indexByte l c= -1↔(l.any fun x=>x==c)=false
 |[],c=>by simp[Go.Lib.indexByte]
 |b:: l,c=>by
  have ih:=Kt l c;have hg:=Go.Lib.indexByte_ge l c;simp only[Go.Lib.indexByte,List.any_cons]
  by_cases hb:(b==c)=true
  ·simp[hb]
  ·have hb':(b==c)=false:=by simpa using hb
   simp only[hb',Bool.false_or,Bool.false_eq_true,if_false]
   by_cases hi:Go.Lib.indexByte l c= -1
   ·simp only[hi,beq_self_eq_true,if_true];simpa[hi]using ih
   ·have hi':(Go.Lib.indexByte l c== -1)=false:=by simpa using hi
    simp only[hi',Bool.false_eq_true,if_false];rw[<- ih];omega
theorem LX{l:ByteArray}{c:Int}(h0:0<=c)(h1:c<=255):jK c l=(l.data.toList.any fun x=>x==c.toNat.toUInt8):=by
 unfold jK
 congr 1
 funext x
 have hx:=x.toNat_lt
 by_cases h:x=c.toNat.toUInt8
 ·subst h
  have:((c.toNat.toUInt8.toNat:Nat):Int)=c:=by simp[Nat.toUInt8];omega
  rw[this];simp
 ·have:¬((x.toNat:Int)=c):=by
   intro e;apply h;apply UInt8.toNat_inj.1
   have:c.toNat.toUInt8.toNat=c.toNat:=by simp[Nat.toUInt8];omega
   omega
  have h':(x==c.toNat.toUInt8)=false:=by simpa using h
  rw[h'];simpa using this
theorem Xu{l:ByteArray}{c:Int}(h0:0<=c)(h1:c<=255)(h:jK c l=false):jW l c= -1:=by
 rw[LX h0 h1]at h;exact(Kt _ _).2 h
theorem MC{l:ByteArray}{c:Int}(h0:0<=c)(h1:c<=255)(h:jK c l=true):0<=jW l c:=by
 rw[LX h0 h1]at h
 have h2:¬jW l c= -1:=by
  intro e;have:=(Kt _ _).1 e;rw[this]at h;cases h
 have:=Go.Lib.indexByte_ge l.data.toList c.toNat.toUInt8;unfold jW at *;omega
def JV(lo:Int)(but:ByteArray)(c:Int):Bool:=(decide (lo<=c) && decide (c<=126)) && !jK c but
def KH(f:Nat)(lo:Int)(but:ByteArray):Prop:=∀(w:World) (c:Int),0<=c->c<=255->Calls Tryz.prog f #[.int .u8 c] w fun e w'=>e= .returned (.bool (JV lo but c))/\w'=w
theorem CM(c:Int):jK c JX=((34:Int)==c || (92:Int)==c):=by
 simp[jK,JX]
theorem ED:KH 215 32 JX:=by
 intro w c h0 h1
 have HP:Hd (JV 32 JX c=((decide (32<=c) && decide (c<=126)) && (c !=34) && (c !=92))):=by
  show _=_
  rw[JV,CM,Bool.eq_iff_iff];simp;omega
 by_cases h2:32<=c
 all_goals by_cases h3:c<=126
 all_goals by_cases h4:c=34
 all_goals by_cases h5:c=92
 all_goals first|omega|skip
 all_goals
  go_enter Tryz.func215,Tryz.ntmps215;go_wp2_with fail;go_ret;exact⟨by rw[HP.o];simp[*];try omega,rfl⟩
theorem Lw:KH 219 33 jT:=by
 intro w c h0 h1
 have HP:Hd (∀q:Bool,jK c jT=q->JV 33 jT c=((decide (33<=c) && decide (c<=126)) && !q)):=by
  intro q e;rw[JV,e]
 by_cases h2:33<=c
 ·by_cases h3:c<=126
  ·cases hq:jK c jT
   ·have hx:jW jT c= -1:=Xu h0 h1 hq
    have HQ:=zC hq;clear hq;go_enter Tryz.func219,Tryz.ntmps219;go_wp2_with fail;refine(VY _ c).mono ?_;rintro e w1 ⟨rfl,rfl⟩;rw[show jW ⟨#[45,91,93,92]⟩ c= -1 from hx];go_wp2_with fail;go_ret;exact⟨by rw[HP.o _ HQ.o];simp[h2,h3],rfl⟩
   ·have hx:0<=jW jT c:=MC h0 h1 hq
    have hx':¬jW ⟨#[45,91,93,92]⟩ c<0:=by have:jW ⟨#[45,91,93,92]⟩ c=jW jT c:=rfl;omega
    have HQ:=zC hq;clear hq hx;go_enter Tryz.func219,Tryz.ntmps219;go_wp2_with fail;refine(VY _ c).mono ?_;rintro e w1 ⟨rfl,rfl⟩;generalize jW ⟨#[45,91,93,92]⟩ c=z at *;go_wp2_with fail;go_ret;exact⟨by rw[HP.o _ HQ.o];simp[h2,h3,hx'],rfl⟩
  ·go_enter Tryz.func219,Tryz.ntmps219
   go_wp2_with fail;go_ret;exact⟨by rw[HP.o _ rfl];simp[h2];omega,rfl⟩
 ·go_enter Tryz.func219,Tryz.ntmps219
  go_wp2_with fail;go_ret;exact⟨by rw[HP.o _ rfl];simp;omega,rfl⟩
theorem Ki:KH 189 32 JE:=by
 intro w c h0 h1
 have HP:Hd (∀q:Bool,jK c JE=q->JV 32 JE c=((decide (32<=c) && decide (c<=126)) && !q)):=by
  intro q e;rw[JV,e]
 by_cases h2:32<=c
 ·by_cases h3:c<=126
  ·cases hq:jK c JE
   ·have hx:jW JE c= -1:=Xu h0 h1 hq
    have HQ:=zC hq;clear hq;go_enter Tryz.func189,Tryz.ntmps189;go_wp2_with fail;refine(VY _ c).mono ?_;rintro e w1 ⟨rfl,rfl⟩;rw[show jW ⟨#[47,124,42,43,63,40,41,91,93,46,92]⟩ c= -1 from hx];go_wp2_with fail;go_ret;exact⟨by rw[HP.o _ HQ.o];simp[h2,h3],rfl⟩
   ·have hx:0<=jW JE c:=MC h0 h1 hq
    have hx':¬jW ⟨#[47,124,42,43,63,40,41,91,93,46,92]⟩ c<0:=by have:jW ⟨#[47,124,42,43,63,40,41,91,93,46,92]⟩ c=jW JE c:=rfl;omega
    have HQ:=zC hq;clear hq hx;go_enter Tryz.func189,Tryz.ntmps189;go_wp2_with fail;refine(VY _ c).mono ?_;rintro e w1 ⟨rfl,rfl⟩;generalize jW ⟨#[47,124,42,43,63,40,41,91,93,46,92]⟩ c=z at *;go_wp2_with fail;go_ret;exact⟨by rw[HP.o _ HQ.o];simp[h2,h3,hx'],rfl⟩
  ·go_enter Tryz.func189,Tryz.ntmps189
   go_wp2_with fail;go_ret;exact⟨by rw[HP.o _ rfl];simp[h2];omega,rfl⟩
 ·go_enter Tryz.func189,Tryz.ntmps189
  go_wp2_with fail;go_ret;exact⟨by rw[HP.o _ rfl];simp;omega,rfl⟩
def DT:ByteArray:=⟨#[48,49,50,51,52,53,54,55,56,57,97,98,99,100,101,102]⟩
theorem Eu:∀n:Fin 256,jW DT (n.val:Int)=if jv (n.val:Int)then jV (n.val:Int)else -1:=by decide+kernel
theorem FD{c:Int}(h0:0<=c)(h1:c<=255):jW DT c=if jv c then jV c else -1:=by
 have:=Eu ⟨c.toNat,by omega⟩
 simpa[Int.toNat_of_nonneg h0]using this
def TW(w:World)(b:Nat)(S:ByteArray)(s:St)(v5 v6 v7:Value)(e:Ending)(w':World):Prop:=
 Ch [b] w w'/\((jv (bt S s.i)=true/\e= .returned (.int .u8 (jV (bt S s.i)))/\zP w' b S {s with i:=s.i+1} v5 v6 v7)\/(jv (bt S s.i)=false/\Zv w' b S s.i e))
theorem VQ{w:World}{b:Nat}{S:ByteArray}{s:St}{v5 v6 v7:Value}(h:zP w b S s v5 v6 v7)(hS:S.size<=400)(hi:s.i<=S.size):
 Calls Tryz.prog 213 #[.pointer (some ⟨b,0,none⟩)] w (TW w b S s v5 v6 v7):=by
 obtain⟨c0,c1,c2,c3,c4,c5,c6,c7,fz⟩:=h.fa
 by_cases hlt:s.i<S.size
 ·have l2:(s.i:Int)<S.size:=by omega
  have l3:(s.i:Int)<400:=by omega
  have q:((s.i:Int)==S.size)=false:=by rw[beq_eq_false_iff_ne];omega
  have q':(s.i==S.size)=false:=by rw[beq_eq_false_iff_ne];omega
  have HB:Hd ((S[s.i].toNat:Int)=bt S s.i):=jS hlt;have HX:=zC (FD (c:=(S[s.i].toNat:Int)) (by omega) (by have:=S[s.i].toNat_lt;omega));go_enter Tryz.func213,Tryz.ntmps213;go_wp2_with fail;go_quiet (fail);have h2:zP (w.drewN nq) b S s v5 v6 v7:=h;have g2:=Ch.drewN [b] w nq;generalize w.drewN nq=w2 at *;clear c0 c1 c2 c3 c4 c5 c6 c7 fz;obtain⟨c0,c1,c2,c3,c4,c5,c6,c7,fz⟩:=h2.fa;go_wp2_with fail;go_quiet ((go_at_call 190;exact Calls.quiet_of_same (VY _ _)));have h3:zP (w2.drewN nq) b S s v5 v6 v7:=h2;have g3:=g2.trans (Ch.drewN [b] w2 nq);generalize w2.drewN nq=w3 at *;clear c0 c1 c2 c3 c4 c5 c6 c7 fz;obtain⟨c0,c1,c2,c3,c4,c5,c6,c7,fz⟩:=h3.fa;cases hx:jv (bt S s.i)
  ·have hz:jW ⟨#[48,49,50,51,52,53,54,55,56,57,97,98,99,100,101,102]⟩ (S[s.i].toNat:Int)= -1:=by
    have:=HX.o;rw[HB.o,hx]at this;rw[HB.o];exact this
   have HH:=zC hx;clear hx;rw[hz];go_wp2_with fail;refine(ZB h3).mono ?_;rintro e w4 ⟨hg,g4⟩;obtain⟨rfl,ht⟩:=hg;exact zY rfl ⟨g3.trans g4,Or.inr ⟨HH.o,⟨rfl,ht⟩⟩⟩
  ·have hz:jW ⟨#[48,49,50,51,52,53,54,55,56,57,97,98,99,100,101,102]⟩ (S[s.i].toNat:Int)=jV (bt S s.i):=by
    have:=HX.o;rw[HB.o,hx]at this;rw[HB.o];exact this
   have hb:=Zu hx;have HH:=zC hx;clear hx;rw[hz];generalize hz2:jV (bt S s.i)=z at *;have HZ:=zC hz2;clear hz2
   have hn:¬z<0:=by omega
   have hwr:IntKind.u8.wrap z=z:=by rw[IntKind.wrap_u8];omega
   go_wp2_with fail;go_ret;exact⟨g3.trans (Ch.setCell _ (by simp) _),Or.inl ⟨HH.o,by rw[HZ.o];rfl,h3.bump⟩⟩
 ·have q:((s.i:Int)==S.size)=true:=by rw[beq_iff_eq];omega
  have q':(s.i==S.size)=true:=by rw[beq_iff_eq];omega
  have HH:Hd (jv (bt S s.i)=false):=by show _=_;rw[YL (by omega)];rfl
  go_enter Tryz.func213,Tryz.ntmps213;go_wp2_with fail;go_quiet (fail);have h2:zP (w.drewN nq) b S s v5 v6 v7:=h;have g2:=Ch.drewN [b] w nq;generalize w.drewN nq=w2 at *;clear c0 c1 c2 c3 c4 c5 c6 c7 fz;go_wp2_with fail;refine(ZB h2).mono ?_;rintro e w4 ⟨hg,g4⟩;obtain⟨rfl,ht⟩:=hg;exact zY rfl ⟨g2.trans g4,Or.inr ⟨HH.o,⟨rfl,ht⟩⟩⟩
def Jp{α:Type}(w:World)(b:Nat)(S:ByteArray)(v5 v6 v7:Value)(val:α->Value->World->Prop)(r:Except Nat (α×St))(e:Ending)(w':World):Prop:=
 Ch [b] w w'/\((∃x s' v,r= .ok (x,s')/\e= .returned v/\val x v w'/\zP w' b S s' v5 v6 v7)\/(∃d,r= .error d/\Zv w' b S d e))
def Qi(c:Int)(v:Value)(_:World):Prop:=v= .int .u8 c
theorem PE:∀x y:Fin 16,bits .or .u8 ((x.val:Int) * 16) (y.val:Int)=16 * (x.val:Int)+(y.val:Int):=by decide+kernel
theorem MV(x y:Int)(hx0:0<=x)(hx:x<=15)(hy0:0<=y)(hy:y<=15):bits .or .u8 (x * 16) y=16 * x+y:=by
 have:=PE ⟨x.toNat,by omega⟩ ⟨y.toNat,by omega⟩
 simpa[Int.toNat_of_nonneg hx0,Int.toNat_of_nonneg hy0]using this
theorem Eo{w:World}{b:Nat}{S:ByteArray}{s:St}{v5 v6 v7:Value}(h:zP w b S s v5 v6 v7)(hS:S.size<=400)(hi:s.i<=S.size):
 Calls Tryz.prog 193 #[.pointer (some ⟨b,0,none⟩),.func (.func 215) #[] #[]] w (Jp w b S v5 v6 v7 Qi (zx S 32 JX s)):=by
 by_cases h92:bt S s.i=92
 ·go_enter Tryz.func193,Tryz.ntmps193
  go_wp2_with fail;refine(ZP h hS 92 (by decide) h92).mono ?_;rintro e w1 ⟨rfl,h1,g1⟩;have hlt:=yB (S:=S) (i:=s.i) (by omega);go_wp2_with fail;refine(VQ h1 hS hlt).mono ?_;rintro e w2 ⟨g2,⟨hx,rfl,h2⟩|⟨hx,hg⟩⟩
  ·have hlt2:=yB (S:=S) (i:=s.i+1) (Vt hx)
   have hb1:=Zu hx;have HX:=zC hx;have HB:=zC h92;clear hx h92;simp only at hb1;generalize hz1:jV (bt S (s.i+1))=z1 at *;have HZ1:=zC hz1;clear hz1;go_wp2_with fail;refine(VQ h2 hS hlt2).mono ?_;rintro e w3 ⟨g3,⟨hy,rfl,h3⟩|⟨hy,hg⟩⟩
   ·have hb2:=Zu hy
    have HY:=zC hy;clear hy;simp only at hb2;generalize hz2:jV (bt S (s.i+1+1))=z2 at *;have HZ2:=zC hz2;clear hz2;go_wp2_with fail;go_ret;refine⟨g1.trans (g2.trans g3),Or.inl ⟨16 * z1+z2,_,.int .u8 (bits .or .u8 (z1 * 16) z2),?_,rfl,?_,h3⟩⟩
    ·have a:=HX.o
     have c:=HY.o
     try simp only at a c
     simp only[zx,HB.o,if_true,a,show bt S (s.i+2)=bt S (s.i+1+1)from rfl,c,HZ1.o,HZ2.o]
    ·show Value.int .u8 _=Value.int .u8 _
     congr 1
     exact MV z1 z2 hb1.1 hb1.2 hb2.1 hb2.2
   ·have HY:=zC hy
    clear hy;obtain⟨rfl,ht⟩:=hg;exact zY rfl ⟨g1.trans (g2.trans g3),Or.inr ⟨s.i+2,by have a:=HX.o;have c:=HY.o;try simp only at a c;simp only[zx,HB.o,if_true,a,show bt S (s.i+2)=bt S (s.i+1+1)from rfl,c];rfl,⟨rfl,ht⟩⟩⟩
  ·have HX:=zC hx
   have HB:=zC h92;clear hx h92;obtain⟨rfl,ht⟩:=hg;exact zY rfl ⟨g1.trans g2,Or.inr ⟨s.i+1,by have a:=HX.o;simp only at a;simp only[zx,HB.o,if_true,a];rfl,⟨rfl,ht⟩⟩⟩
 ·go_enter Tryz.func193,Tryz.ntmps193
  go_wp2_with fail;refine(JW h hS hi 92 h92).mono ?_;rintro e w1 ⟨rfl,h1,g1⟩;have HB:=zC h92;clear h92;obtain⟨c0,c1,c2,c3,c4,c5,c6,c7,fz⟩:=h1.fa
  by_cases hlt:s.i<S.size
  ·have l2:(s.i:Int)<S.size:=by omega
   have l3:(s.i:Int)<400:=by omega
   have q:((s.i:Int)==S.size)=false:=by rw[beq_eq_false_iff_ne];omega
   have q':(s.i==S.size)=false:=by rw[beq_eq_false_iff_ne];omega
   have HC:Hd ((S[s.i].toNat:Int)=bt S s.i):=jS hlt
   have hbd:(S[s.i].toNat:Int)<=255:=by have:=S[s.i].toNat_lt;omega
   have HQ:Hd (zx S 32 JX s=if JV 32 JX (bt S s.i)then .ok (bt S s.i,{s with i:=s.i+1})else .error s.i):=by
    show _=_
    simp only[zx,if_neg HB.o,JV]
    try rfl
   cases hp:JV 32 JX (bt S s.i)
   ·have HP:=zC hp
    clear hp;go_wp2_with fail;go_quiet ((go_at_call 215;exact Calls.quiet_of_same (ED _ _ (by omega) hbd)));have h2:zP (w1.drewN nq) b S s v5 v6 v7:=h1;have g2:=g1.trans (Ch.drewN [b] w1 nq);generalize w1.drewN nq=w2 at *;clear c0 c1 c2 c3 c4 c5 c6 c7 fz;rw[HC.o,HP.o];go_wp2_with fail;refine(ZB h2).mono ?_;rintro e w3 ⟨hg,g3⟩;obtain⟨rfl,ht⟩:=hg;exact zY rfl ⟨g2.trans g3,Or.inr ⟨s.i,by rw[HQ.o,HP.o];rfl,⟨rfl,ht⟩⟩⟩
   ·have HP:=zC hp
    clear hp;go_wp2_with fail;go_quiet ((go_at_call 215;exact Calls.quiet_of_same (ED _ _ (by omega) hbd)));have h2:zP (w1.drewN nq) b S s v5 v6 v7:=h1;have g2:=g1.trans (Ch.drewN [b] w1 nq);generalize w1.drewN nq=w2 at *;clear c0 c1 c2 c3 c4 c5 c6 c7 fz;rw[HC.o,HP.o];obtain⟨c0,c1,c2,c3,c4,c5,c6,c7,fz⟩:=h2.fa;go_wp2_with fail;have h3:=h2.bump;have g3:=g2.trans (Ch.setCell (X:=[b]) w2 (p:=⟨b,1,none⟩) (by simp) (.int .i64 ((s.i:Int)+1)));generalize w2.setCell ⟨b,1,none⟩ (.int .i64 ((s.i:Int)+1))=w3 at *;clear c0 c1 c2 c3 c4 c5 c6 c7 fz;obtain⟨c0,c1,c2,c3,c4,c5,c6,c7,fz⟩:=h3.fa;simp only at c1
    have hsub:IntKind.i64.wrap ((((s.i+1:Nat):Int)) - 1)=(s.i:Int):=by rw[IntKind.wrap_i64];omega
    go_quiet (fail);go_wp2_with fail;go_ret;exact⟨g3.trans (Ch.drewN _ _ _),Or.inl ⟨_,_,_,by rw[HQ.o,HP.o];rfl,rfl,by rw[<- HC.o];rfl,h3⟩⟩
  ·have q:((s.i:Int)==S.size)=true:=by rw[beq_iff_eq];omega
   have q':(s.i==S.size)=true:=by rw[beq_iff_eq];omega
   have HQ:Hd (zx S 32 JX s= .error s.i):=by
    show _=_
    simp only[zx,if_neg HB.o];rw[YL (by omega)]
    try rfl
   go_wp2_with fail;go_quiet (fail);have h2:zP (w1.drewN nq) b S s v5 v6 v7:=h1;have g2:=g1.trans (Ch.drewN [b] w1 nq);generalize w1.drewN nq=w2 at *;clear c0 c1 c2 c3 c4 c5 c6 c7 fz;go_wp2_with fail;refine(ZB h2).mono ?_;rintro e w3 ⟨hg,g3⟩;obtain⟨rfl,ht⟩:=hg;exact zY rfl ⟨g2.trans g3,Or.inr ⟨s.i,HQ.o,⟨rfl,ht⟩⟩⟩
theorem NU{w:World}{b:Nat}{S:ByteArray}{s:St}{v5 v6 v7:Value}(h:zP w b S s v5 v6 v7)(hS:S.size<=400)(hi:s.i<=S.size):
 Calls Tryz.prog 193 #[.pointer (some ⟨b,0,none⟩),.func (.func 219) #[] #[]] w (Jp w b S v5 v6 v7 Qi (zx S 33 jT s)):=by
 by_cases h92:bt S s.i=92
 ·go_enter Tryz.func193,Tryz.ntmps193
  go_wp2_with fail;refine(ZP h hS 92 (by decide) h92).mono ?_;rintro e w1 ⟨rfl,h1,g1⟩;have hlt:=yB (S:=S) (i:=s.i) (by omega);go_wp2_with fail;refine(VQ h1 hS hlt).mono ?_;rintro e w2 ⟨g2,⟨hx,rfl,h2⟩|⟨hx,hg⟩⟩
  ·have hlt2:=yB (S:=S) (i:=s.i+1) (Vt hx)
   have hb1:=Zu hx;have HX:=zC hx;have HB:=zC h92;clear hx h92;simp only at hb1;generalize hz1:jV (bt S (s.i+1))=z1 at *;have HZ1:=zC hz1;clear hz1;go_wp2_with fail;refine(VQ h2 hS hlt2).mono ?_;rintro e w3 ⟨g3,⟨hy,rfl,h3⟩|⟨hy,hg⟩⟩
   ·have hb2:=Zu hy
    have HY:=zC hy;clear hy;simp only at hb2;generalize hz2:jV (bt S (s.i+1+1))=z2 at *;have HZ2:=zC hz2;clear hz2;go_wp2_with fail;go_ret;refine⟨g1.trans (g2.trans g3),Or.inl ⟨16 * z1+z2,_,.int .u8 (bits .or .u8 (z1 * 16) z2),?_,rfl,?_,h3⟩⟩
    ·have a:=HX.o
     have c:=HY.o
     try simp only at a c
     simp only[zx,HB.o,if_true,a,show bt S (s.i+2)=bt S (s.i+1+1)from rfl,c,HZ1.o,HZ2.o]
    ·show Value.int .u8 _=Value.int .u8 _
     congr 1
     exact MV z1 z2 hb1.1 hb1.2 hb2.1 hb2.2
   ·have HY:=zC hy
    clear hy;obtain⟨rfl,ht⟩:=hg;exact zY rfl ⟨g1.trans (g2.trans g3),Or.inr ⟨s.i+2,by have a:=HX.o;have c:=HY.o;try simp only at a c;simp only[zx,HB.o,if_true,a,show bt S (s.i+2)=bt S (s.i+1+1)from rfl,c];rfl,⟨rfl,ht⟩⟩⟩
  ·have HX:=zC hx
   have HB:=zC h92;clear hx h92;obtain⟨rfl,ht⟩:=hg;exact zY rfl ⟨g1.trans g2,Or.inr ⟨s.i+1,by have a:=HX.o;simp only at a;simp only[zx,HB.o,if_true,a];rfl,⟨rfl,ht⟩⟩⟩
 ·go_enter Tryz.func193,Tryz.ntmps193
  go_wp2_with fail;refine(JW h hS hi 92 h92).mono ?_;rintro e w1 ⟨rfl,h1,g1⟩;have HB:=zC h92;clear h92;obtain⟨c0,c1,c2,c3,c4,c5,c6,c7,fz⟩:=h1.fa
  by_cases hlt:s.i<S.size
  ·have l2:(s.i:Int)<S.size:=by omega
   have l3:(s.i:Int)<400:=by omega
   have q:((s.i:Int)==S.size)=false:=by rw[beq_eq_false_iff_ne];omega
   have q':(s.i==S.size)=false:=by rw[beq_eq_false_iff_ne];omega
   have HC:Hd ((S[s.i].toNat:Int)=bt S s.i):=jS hlt
   have hbd:(S[s.i].toNat:Int)<=255:=by have:=S[s.i].toNat_lt;omega
   have HQ:Hd (zx S 33 jT s=if JV 33 jT (bt S s.i)then .ok (bt S s.i,{s with i:=s.i+1})else .error s.i):=by
    show _=_
    simp only[zx,if_neg HB.o,JV]
    try rfl
   cases hp:JV 33 jT (bt S s.i)
   ·have HP:=zC hp
    clear hp;go_wp2_with fail;go_quiet ((go_at_call 219;exact Calls.quiet_of_same (Lw _ _ (by omega) hbd)));have h2:zP (w1.drewN nq) b S s v5 v6 v7:=h1;have g2:=g1.trans (Ch.drewN [b] w1 nq);generalize w1.drewN nq=w2 at *;clear c0 c1 c2 c3 c4 c5 c6 c7 fz;rw[HC.o,HP.o];go_wp2_with fail;refine(ZB h2).mono ?_;rintro e w3 ⟨hg,g3⟩;obtain⟨rfl,ht⟩:=hg;exact zY rfl ⟨g2.trans g3,Or.inr ⟨s.i,by rw[HQ.o,HP.o];rfl,⟨rfl,ht⟩⟩⟩
   ·have HP:=zC hp
    clear hp;go_wp2_with fail;go_quiet ((go_at_call 219;exact Calls.quiet_of_same (Lw _ _ (by omega) hbd)));have h2:zP (w1.drewN nq) b S s v5 v6 v7:=h1;have g2:=g1.trans (Ch.drewN [b] w1 nq);generalize w1.drewN nq=w2 at *;clear c0 c1 c2 c3 c4 c5 c6 c7 fz;rw[HC.o,HP.o];obtain⟨c0,c1,c2,c3,c4,c5,c6,c7,fz⟩:=h2.fa;go_wp2_with fail;have h3:=h2.bump;have g3:=g2.trans (Ch.setCell (X:=[b]) w2 (p:=⟨b,1,none⟩) (by simp) (.int .i64 ((s.i:Int)+1)));generalize w2.setCell ⟨b,1,none⟩ (.int .i64 ((s.i:Int)+1))=w3 at *;clear c0 c1 c2 c3 c4 c5 c6 c7 fz;obtain⟨c0,c1,c2,c3,c4,c5,c6,c7,fz⟩:=h3.fa;simp only at c1
    have hsub:IntKind.i64.wrap ((((s.i+1:Nat):Int)) - 1)=(s.i:Int):=by rw[IntKind.wrap_i64];omega
    go_quiet (fail);go_wp2_with fail;go_ret;exact⟨g3.trans (Ch.drewN _ _ _),Or.inl ⟨_,_,_,by rw[HQ.o,HP.o];rfl,rfl,by rw[<- HC.o];rfl,h3⟩⟩
  ·have q:((s.i:Int)==S.size)=true:=by rw[beq_iff_eq];omega
   have q':(s.i==S.size)=true:=by rw[beq_iff_eq];omega
   have HQ:Hd (zx S 33 jT s= .error s.i):=by
    show _=_
    simp only[zx,if_neg HB.o];rw[YL (by omega)]
    try rfl
   go_wp2_with fail;go_quiet (fail);have h2:zP (w1.drewN nq) b S s v5 v6 v7:=h1;have g2:=g1.trans (Ch.drewN [b] w1 nq);generalize w1.drewN nq=w2 at *;clear c0 c1 c2 c3 c4 c5 c6 c7 fz;go_wp2_with fail;refine(ZB h2).mono ?_;rintro e w3 ⟨hg,g3⟩;obtain⟨rfl,ht⟩:=hg;exact zY rfl ⟨g2.trans g3,Or.inr ⟨s.i,HQ.o,⟨rfl,ht⟩⟩⟩
theorem TV{w:World}{b:Nat}{S:ByteArray}{s:St}{v5 v6 v7:Value}(h:zP w b S s v5 v6 v7)(hS:S.size<=400)(hi:s.i<=S.size):
 Calls Tryz.prog 193 #[.pointer (some ⟨b,0,none⟩),.func (.func 189) #[] #[]] w (Jp w b S v5 v6 v7 Qi (zx S 32 JE s)):=by
 by_cases h92:bt S s.i=92
 ·go_enter Tryz.func193,Tryz.ntmps193
  go_wp2_with fail;refine(ZP h hS 92 (by decide) h92).mono ?_;rintro e w1 ⟨rfl,h1,g1⟩;have hlt:=yB (S:=S) (i:=s.i) (by omega);go_wp2_with fail;refine(VQ h1 hS hlt).mono ?_;rintro e w2 ⟨g2,⟨hx,rfl,h2⟩|⟨hx,hg⟩⟩
  ·have hlt2:=yB (S:=S) (i:=s.i+1) (Vt hx)
   have hb1:=Zu hx;have HX:=zC hx;have HB:=zC h92;clear hx h92;simp only at hb1;generalize hz1:jV (bt S (s.i+1))=z1 at *;have HZ1:=zC hz1;clear hz1;go_wp2_with fail;refine(VQ h2 hS hlt2).mono ?_;rintro e w3 ⟨g3,⟨hy,rfl,h3⟩|⟨hy,hg⟩⟩
   ·have hb2:=Zu hy
    have HY:=zC hy;clear hy;simp only at hb2;generalize hz2:jV (bt S (s.i+1+1))=z2 at *;have HZ2:=zC hz2;clear hz2;go_wp2_with fail;go_ret;refine⟨g1.trans (g2.trans g3),Or.inl ⟨16 * z1+z2,_,.int .u8 (bits .or .u8 (z1 * 16) z2),?_,rfl,?_,h3⟩⟩
    ·have a:=HX.o
     have c:=HY.o
     try simp only at a c
     simp only[zx,HB.o,if_true,a,show bt S (s.i+2)=bt S (s.i+1+1)from rfl,c,HZ1.o,HZ2.o]
    ·show Value.int .u8 _=Value.int .u8 _
     congr 1
     exact MV z1 z2 hb1.1 hb1.2 hb2.1 hb2.2
   ·have HY:=zC hy
    clear hy;obtain⟨rfl,ht⟩:=hg;exact zY rfl ⟨g1.trans (g2.trans g3),Or.inr ⟨s.i+2,by have a:=HX.o;have c:=HY.o;try simp only at a c;simp only[zx,HB.o,if_true,a,show bt S (s.i+2)=bt S (s.i+1+1)from rfl,c];rfl,⟨rfl,ht⟩⟩⟩
  ·have HX:=zC hx
   have HB:=zC h92;clear hx h92;obtain⟨rfl,ht⟩:=hg;exact zY rfl ⟨g1.trans g2,Or.inr ⟨s.i+1,by have a:=HX.o;simp only at a;simp only[zx,HB.o,if_true,a];rfl,⟨rfl,ht⟩⟩⟩
 ·go_enter Tryz.func193,Tryz.ntmps193
  go_wp2_with fail;refine(JW h hS hi 92 h92).mono ?_;rintro e w1 ⟨rfl,h1,g1⟩;have HB:=zC h92;clear h92;obtain⟨c0,c1,c2,c3,c4,c5,c6,c7,fz⟩:=h1.fa
  by_cases hlt:s.i<S.size
  ·have l2:(s.i:Int)<S.size:=by omega
   have l3:(s.i:Int)<400:=by omega
   have q:((s.i:Int)==S.size)=false:=by rw[beq_eq_false_iff_ne];omega
   have q':(s.i==S.size)=false:=by rw[beq_eq_false_iff_ne];omega
   have HC:Hd ((S[s.i].toNat:Int)=bt S s.i):=jS hlt
   have hbd:(S[s.i].toNat:Int)<=255:=by have:=S[s.i].toNat_lt;omega
   have HQ:Hd (zx S 32 JE s=if JV 32 JE (bt S s.i)then .ok (bt S s.i,{s with i:=s.i+1})else .error s.i):=by
    show _=_
    simp only[zx,if_neg HB.o,JV]
    try rfl
   cases hp:JV 32 JE (bt S s.i)
   ·have HP:=zC hp
    clear hp;go_wp2_with fail;go_quiet ((go_at_call 189;exact Calls.quiet_of_same (Ki _ _ (by omega) hbd)));have h2:zP (w1.drewN nq) b S s v5 v6 v7:=h1;have g2:=g1.trans (Ch.drewN [b] w1 nq);generalize w1.drewN nq=w2 at *;clear c0 c1 c2 c3 c4 c5 c6 c7 fz;rw[HC.o,HP.o];go_wp2_with fail;refine(ZB h2).mono ?_;rintro e w3 ⟨hg,g3⟩;obtain⟨rfl,ht⟩:=hg;exact zY rfl ⟨g2.trans g3,Or.inr ⟨s.i,by rw[HQ.o,HP.o];rfl,⟨rfl,ht⟩⟩⟩
   ·have HP:=zC hp
    clear hp;go_wp2_with fail;go_quiet ((go_at_call 189;exact Calls.quiet_of_same (Ki _ _ (by omega) hbd)));have h2:zP (w1.drewN nq) b S s v5 v6 v7:=h1;have g2:=g1.trans (Ch.drewN [b] w1 nq);generalize w1.drewN nq=w2 at *;clear c0 c1 c2 c3 c4 c5 c6 c7 fz;rw[HC.o,HP.o];obtain⟨c0,c1,c2,c3,c4,c5,c6,c7,fz⟩:=h2.fa;go_wp2_with fail;have h3:=h2.bump;have g3:=g2.trans (Ch.setCell (X:=[b]) w2 (p:=⟨b,1,none⟩) (by simp) (.int .i64 ((s.i:Int)+1)));generalize w2.setCell ⟨b,1,none⟩ (.int .i64 ((s.i:Int)+1))=w3 at *;clear c0 c1 c2 c3 c4 c5 c6 c7 fz;obtain⟨c0,c1,c2,c3,c4,c5,c6,c7,fz⟩:=h3.fa;simp only at c1
    have hsub:IntKind.i64.wrap ((((s.i+1:Nat):Int)) - 1)=(s.i:Int):=by rw[IntKind.wrap_i64];omega
    go_quiet (fail);go_wp2_with fail;go_ret;exact⟨g3.trans (Ch.drewN _ _ _),Or.inl ⟨_,_,_,by rw[HQ.o,HP.o];rfl,rfl,by rw[<- HC.o];rfl,h3⟩⟩
  ·have q:((s.i:Int)==S.size)=true:=by rw[beq_iff_eq];omega
   have q':(s.i==S.size)=true:=by rw[beq_iff_eq];omega
   have HQ:Hd (zx S 32 JE s= .error s.i):=by
    show _=_
    simp only[zx,if_neg HB.o];rw[YL (by omega)]
    try rfl
   go_wp2_with fail;go_quiet (fail);have h2:zP (w1.drewN nq) b S s v5 v6 v7:=h1;have g2:=g1.trans (Ch.drewN [b] w1 nq);generalize w1.drewN nq=w2 at *;clear c0 c1 c2 c3 c4 c5 c6 c7 fz;go_wp2_with fail;refine(ZB h2).mono ?_;rintro e w3 ⟨hg,g3⟩;obtain⟨rfl,ht⟩:=hg;exact zY rfl ⟨g2.trans g3,Or.inr ⟨s.i,HQ.o,⟨rfl,ht⟩⟩⟩
end Go.Proofs.YteobgfbgglfkbaaGreat
