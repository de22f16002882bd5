import Derived.Test.YteobgfbgglfkbaaGreatVB1
import Derived.Lib.Bytealg
set_option maxHeartbeats 1600000
set_option maxRecDepth 100000
namespace Go.Proofs.YteobgfbgglfkbaaGreat
open Go.RowKit
attribute [local go_sem ↓] Go.wp_at_zero Go.wp_at_succ
def jW(l:ByteArray)(c:Int):Int:=Go.Lib.indexByte l.data.toList c.toNat.toUInt8
theorem Cf(l:ByteArray)(c:Int)(w:World):(callFunc 218 #[.string l,.int .u8 c]).run Tryz.prog w= .ok (.value (.int .i64 (jW l c))) w:=by
 rw[run_callFunc_extern Tryz.func218 (by kernel_rfl) (by kernel_rfl) (by kernel_rfl) (e:=Extern.BytealgIndexByte.indexByte) (by kernel_rfl),Go.Lib.run_indexByteString]
 try rfl
theorem Hc{w:World}(l:ByteArray)(c:Int):Calls Tryz.prog 210 #[.string l,.int .u8 c] w fun e w'=>e= .returned (.int .i64 (jW l c))/\w'=w:=by
 have hr:=Cf l c w;go_enter Tryz.func210,Tryz.ntmps210;go_wp2_with fail;go_ret;exact⟨rfl,rfl⟩
theorem VY{w:World}(l:ByteArray)(c:Int):Calls Tryz.prog 190 #[.string l,.int .u8 c] w fun e w'=>e= .returned (.int .i64 (jW l c))/\w'=w:=by
 go_enter Tryz.func190,Tryz.ntmps190;go_wp2_with fail;refine(Hc l c).mono ?_;rintro e w1 ⟨rfl,rfl⟩;go_wp2_with fail;go_ret;exact⟨rfl,rfl⟩
theorem Kt:∀(l:List UInt8) (c:UInt8),Go.Lib.indexByte l c= -1↔(l.any fun x=>x==c)=false
 |[],c=>by simp[Go.Lib.indexByte]
 |b:: l,c=>by
  have ih:=Kt l c;have hg:=Go.Lib.indexByte_ge l c;simp only[Go.Lib.indexByte,List.any_cons]
  by_cases hb:(b==c)=true
  ·simp[hb]
  ·have hb':(b==c)=false:=by simpa using hb
   simp only[hb',Bool.false_or,Bool.false_eq_true,if_false]
   by_cases hi:Go.Lib.indexByte l c= -1
   ·simp only[hi,beq_self_eq_true,if_true];simpa[hi]using ih
   ·have hi':(Go.Lib.indexByte l c== -1)=false:=by simpa using hi
    simp only[hi',Bool.false_eq_true,if_false];rw[<- ih];omega
theorem LX{l:ByteArray}{c:Int}(h0:0<=c)(h1:c<=255):jK c l=(l.data.toList.any fun x=>x==c.toNat.toUInt8):=by
 unfold jK
 congr 1
 funext x
 have hx:=x.toNat_lt
 by_cases h:x=c.toNat.toUInt8
 ·subst h
  have:((c.toNat.toUInt8.toNat:Nat):Int)=c:=by simp[Nat.toUInt8];omega
  rw[this];simp
 ·have:¬((x.toNat:Int)=c):=by
   intro e;apply h;apply UInt8.toNat_inj.1
   have:c.toNat.toUInt8.toNat=c.toNat:=by simp[Nat.toUInt8];omega
   omega
  have h':(x==c.toNat.toUInt8)=false:=by simpa using h
  rw[h'];simpa using this
theorem Xu{l:ByteArray}{c:Int}(h0:0<=c)(h1:c<=255)(h:jK c l=false):jW l c= -1:=by
 rw[LX h0 h1]at h;exact(Kt _ _).2 h
theorem MC{l:ByteArray}{c:Int}(h0:0<=c)(h1:c<=255)(h:jK c l=true):0<=jW l c:=by
 rw[LX h0 h1]at h
 have h2:¬jW l c= -1:=by
  intro e;have:=(Kt _ _).1 e;rw[this]at h;cases h
 have:=Go.Lib.indexByte_ge l.data.toList c.toNat.toUInt8;unfold jW at *;omega
def JV(lo:Int)(but:ByteArray)(c:Int):Bool:=(decide (lo<=c) && decide (c<=126)) && !jK c but
def KH(f:Nat)(lo:Int)(but:ByteArray):Prop:=∀(w:World) (c:Int),0<=c->c<=255->Calls Tryz.prog f #[.int .u8 c] w fun e w'=>e= .returned (.bool (JV lo but c))/\w'=w
theorem CM(c:Int):jK c JX=((34:Int)==c || (92:Int)==c):=by
 simp[jK,JX]
theorem ED:KH 215 32 JX:=by
 intro w c h0 h1
 have HP:Hd (JV 32 JX c=((decide (32<=c) && decide (c<=126)) && (c !=34) && (c !=92))):=by
  show _=_
  rw[JV,CM,Bool.eq_iff_iff];simp;omega
 by_cases h2:32<=c
 all_goals by_cases h3:c<=126
 all_goals by_cases h4:c=34
 all_goals by_cases h5:c=92
 all_goals first|omega|skip
 all_goals
  go_enter Tryz.func215,Tryz.ntmps215;go_wp2_with fail;go_ret;exact⟨by rw[HP.o];simp[*];try omega,rfl⟩
theorem Lw:KH 219 33 jT:=by
 intro w c h0 h1
 have HP:Hd (∀q:Bool,jK c jT=q->JV 33 jT c=((decide (33<=c) && decide (c<=126)) && !q)):=by
  intro q e;rw[JV,e]
 by_cases h2:33<=c
 ·by_cases h3:c<=126
  ·cases hq:jK c jT
   ·have hx:jW jT c= -1:=Xu h0 h1 hq
    have HQ:=zC hq;clear hq;go_enter Tryz.func219,Tryz.ntmps219;go_wp2_with fail;refine(VY _ c).mono ?_;rintro e w1 ⟨rfl,rfl⟩;rw[show jW ⟨#[45,91,93,92]⟩ c= -1 from hx];go_wp2_with fail;go_ret;exact⟨by rw[HP.o _ HQ.o];simp[h2,h3],rfl⟩
   ·have hx:0<=jW jT c:=MC h0 h1 hq
    have hx':¬jW ⟨#[45,91,93,92]⟩ c<0:=by have:jW ⟨#[45,91,93,92]⟩ c=jW jT c:=rfl;omega
    have HQ:=zC hq;clear hq hx;go_enter Tryz.func219,Tryz.ntmps219;go_wp2_with fail;refine(VY _ c).mono ?_;rintro e w1 ⟨rfl,rfl⟩;generalize jW ⟨#[45,91,93,92]⟩ c=z at *;go_wp2_with fail;go_ret;exact⟨by rw[HP.o _ HQ.o];simp[h2,h3,hx'],rfl⟩
  ·go_enter Tryz.func219,Tryz.ntmps219
   go_wp2_with fail;go_ret;exact⟨by rw[HP.o _ rfl];simp[h2];omega,rfl⟩
 ·go_enter Tryz.func219,Tryz.ntmps219
  go_wp2_with fail;go_ret;exact⟨by rw[HP.o _ rfl];simp;omega,rfl⟩
theorem Ki:KH 189 32 JE:=by
 intro w c h0 h1
 have HP:Hd (∀q:Bool,jK c JE=q->JV 32 JE c=((decide (32<=c) && decide (c<=126)) && !q)):=by
  intro q e;rw[JV,e]
 by_cases h2:32<=c
 ·by_cases h3:c<=126
  ·cases hq:jK c JE
   ·have hx:jW JE c= -1:=Xu h0 h1 hq
    have HQ:=zC hq;clear hq;go_enter Tryz.func189,Tryz.ntmps189;go_wp2_with fail;refine(VY _ c).mono ?_;rintro e w1 ⟨rfl,rfl⟩;rw[show jW ⟨#[47,124,42,43,63,40,41,91,93,46,92]⟩ c= -1 from hx];go_wp2_with fail;go_ret;exact⟨by rw[HP.o _ HQ.o];simp[h2,h3],rfl⟩
   ·have hx:0<=jW JE c:=MC h0 h1 hq
    have hx':¬jW ⟨#[47,124,42,43,63,40,41,91,93,46,92]⟩ c<0:=by have:jW ⟨#[47,124,42,43,63,40,41,91,93,46,92]⟩ c=jW JE c:=rfl;omega
    have HQ:=zC hq;clear hq hx;go_enter Tryz.func189,Tryz.ntmps189;go_wp2_with fail;refine(VY _ c).mono ?_;rintro e w1 ⟨rfl,rfl⟩;generalize jW ⟨#[47,124,42,43,63,40,41,91,93,46,92]⟩ c=z at *;go_wp2_with fail;go_ret;exact⟨by rw[HP.o _ HQ.o];simp[h2,h3,hx'],rfl⟩
  ·go_enter Tryz.func189,Tryz.ntmps189
   go_wp2_with fail;go_ret;exact⟨by rw[HP.o _ rfl];simp[h2];omega,rfl⟩
 ·go_enter Tryz.func189,Tryz.ntmps189
  go_wp2_with fail;go_ret;exact⟨by rw[HP.o _ rfl];simp;omega,rfl⟩
def DT:ByteArray:=⟨#[48,49,50,51,52,53,54,55,56,57,97,98,99,100,101,102]⟩
theorem Eu:∀n:Fin 256,jW DT (n.val:Int)=if jv (n.val:Int)then jV (n.val:Int)else -1:=by decide+kernel
theorem FD{c:Int}(h0:0<=c)(h1:c<=255):jW DT c=if jv c then jV c else -1:=by
 have:=Eu ⟨c.toNat,by omega⟩
 simpa[Int.toNat_of_nonneg h0]using this
def TW(w:World)(b:Nat)(S:ByteArray)(s:St)(v5 v6 v7:Value)(e:Ending)(w':World):Prop:=
 Ch [b] w w'/\((jv (bt S s.i)=true/\e= .returned (.int .u8 (jV (bt S s.i)))/\zP w' b S {s with i:=s.i+1} v5 v6 v7)\/(jv (bt S s.i)=false/\Zv w' b S s.i e))
theorem VQ{w:World}{b:Nat}{S:ByteArray}{s:St}{v5 v6 v7:Value}(h:zP w b S s v5 v6 v7)(hS:S.size<=400)(hi:s.i<=S.size):
 Calls Tryz.prog 213 #[.pointer (some ⟨b,0,none⟩)] w (TW w b S s v5 v6 v7):=by
 obtain⟨c0,c1,c2,c3,c4,c5,c6,c7,fz⟩:=h.fa
 by_cases hlt:s.i<S.size
 ·have l2:(s.i:Int)<S.size:=by omega
  have l3:(s.i:Int)<400:=by omega
  have q:((s.i:Int)==S.size)=false:=by rw[beq_eq_false_iff_ne];omega
  have q':(s.i==S.size)=false:=by rw[beq_eq_false_iff_ne];omega
  have HB:Hd ((S[s.i].toNat:Int)=bt S s.i):=jS hlt;have HX:=zC (FD (c:=(S[s.i].toNat:Int)) (by omega) (by have:=S[s.i].toNat_lt;omega));go_enter Tryz.func213,Tryz.ntmps213;go_wp2_with fail;go_quiet (fail);have h2:zP (w.drewN nq) b S s v5 v6 v7:=h;have g2:=Ch.drewN [b] w nq;generalize w.drewN nq=w2 at *;clear c0 c1 c2 c3 c4 c5 c6 c7 fz;obtain⟨c0,c1,c2,c3,c4,c5,c6,c7,fz⟩:=h2.fa;go_wp2_with fail;go_quiet ((go_at_call 190;exact Calls.quiet_of_same (VY _ _)));have h3:zP (w2.drewN nq) b S s v5 v6 v7:=h2;have g3:=g2.trans (Ch.drewN [b] w2 nq);generalize w2.drewN nq=w3 at *;clear c0 c1 c2 c3 c4 c5 c6 c7 fz;obtain⟨c0,c1,c2,c3,c4,c5,c6,c7,fz⟩:=h3.fa;cases hx:jv (bt S s.i)
  ·have hz:jW ⟨#[48,49,50,51,52,53,54,55,56,57,97,98,99,100,101,102]⟩ (S[s.i].toNat:Int)= -1:=by
    have:=HX.o;rw[HB.o,hx]at this;rw[HB.o];exact this
   have HH:=zC hx;clear hx;rw[hz];go_wp2_with fail;refine(ZB h3).mono ?_;rintro e w4 ⟨hg,g4⟩;obtain⟨rfl,ht⟩:=hg;exact zY rfl ⟨g3.trans g4,Or.inr ⟨HH.o,⟨rfl,ht⟩⟩⟩
  ·have hz:jW ⟨#[48,49,50,51,52,53,54,55,56,57,97,98,99,100,101,102]⟩ (S[s.i].toNat:Int)=jV (bt S s.i):=by
    have:=HX.o;rw[HB.o,hx]at this;rw[HB.o];exact this
   have hb:=Zu hx;have HH:=zC hx;clear hx;rw[hz];generalize hz2:jV (bt S s.i)=z at *;have HZ:=zC hz2;clear hz2
   have hn:¬z<0:=by omega
   have hwr:IntKind.u8.wrap z=z:=by rw[IntKind.wrap_u8];omega
   go_wp2_with fail;go_ret;exact⟨g3.trans (Ch.setCell _ (by simp) _),Or.inl ⟨HH.o,by rw[HZ.o];rfl,h3.bump⟩⟩
 ·have q:((s.i:Int)==S.size)=true:=by rw[beq_iff_eq];omega
  have q':(s.i==S.size)=true:=by rw[beq_iff_eq];omega
  have HH:Hd (jv (bt S s.i)=false):=by show _=_;rw[YL (by omega)];rfl
  go_enter Tryz.func213,Tryz.ntmps213;go_wp2_with fail;go_quiet (fail);have h2:zP (w.drewN nq) b S s v5 v6 v7:=h;have g2:=Ch.drewN [b] w nq;generalize w.drewN nq=w2 at *;clear c0 c1 c2 c3 c4 c5 c6 c7 fz;go_wp2_with fail;refine(ZB h2).mono ?_;rintro e w4 ⟨hg,g4⟩;obtain⟨rfl,ht⟩:=hg;exact zY rfl ⟨g2.trans g4,Or.inr ⟨HH.o,⟨rfl,ht⟩⟩⟩
def Jp{α:Type}(w:World)(b:Nat)(S:ByteArray)(v5 v6 v7:Value)(val:α->Value->World->Prop)(r:Except Nat (α×St))(e:Ending)(w':World):Prop:=
 Ch [b] w w'/\((∃x s' v,r= .ok (x,s')/\e= .returned v/\val x v w'/\zP w' b S s' v5 v6 v7)\/(∃d,r= .error d/\Zv w' b S d e))
def Qi(c:Int)(v:Value)(_:World):Prop:=v= .int .u8 c
theorem PE:∀x y:Fin 16,bits .or .u8 ((x.val:Int) * 16) (y.val:Int)=16 * (x.val:Int)+(y.val:Int):=by decide+kernel
theorem MV(x y:Int)(hx0:0<=x)(hx:x<=15)(hy0:0<=y)(hy:y<=15):bits .or .u8 (x * 16) y=16 * x+y:=by
 have:=PE ⟨x.toNat,by omega⟩ ⟨y.toNat,by omega⟩
 simpa[Int.toNat_of_nonneg hx0,Int.toNat_of_nonneg hy0]using this
theorem Eo{w:World}{b:Nat}{S:ByteArray}{s:St}{v5 v6 v7:Value}(h:zP w b S s v5 v6 v7)(hS:S.size<=400)(hi:s.i<=S.size):
 Calls Tryz.prog 193 #[.pointer (some ⟨b,0,none⟩),.func (.func 215) #[] #[]] w (Jp w b S v5 v6 v7 Qi (zx S 32 JX s)):=by
 by_cases h92:bt S s.i=92
 ·go_enter Tryz.func193,Tryz.ntmps193
  go_wp2_with fail;refine(ZP h hS 92 (by decide) h92).mono ?_;rintro e w1 ⟨rfl,h1,g1⟩;have hlt:=yB (S:=S) (i:=s.i) (by omega);go_wp2_with fail;refine(VQ h1 hS hlt).mono ?_;rintro e w2 ⟨g2,⟨hx,rfl,h2⟩|⟨hx,hg⟩⟩
  ·have hlt2:=yB (S:=S) (i:=s.i+1) (Vt hx)
   have hb1:=Zu hx;have HX:=zC hx;have HB:=zC h92;clear hx h92;simp only at hb1;generalize hz1:jV (bt S (s.i+1))=z1 at *;have HZ1:=zC hz1;clear hz1;go_wp2_with fail;refine(VQ h2 hS hlt2).mono ?_;rintro e w3 ⟨g3,⟨hy,rfl,h3⟩|⟨hy,hg⟩⟩
   ·have hb2:=Zu hy
    have HY:=zC hy;clear hy;simp only at hb2;generalize hz2:jV (bt S (s.i+1+1))=z2 at *;have HZ2:=zC hz2;clear hz2;go_wp2_with fail;go_ret;refine⟨g1.trans (g2.trans g3),Or.inl ⟨16 * z1+z2,_,.int .u8 (bits .or .u8 (z1 * 16) z2),?_,rfl,?_,h3⟩⟩
    ·have a:=HX.o
     have c:=HY.o
     try simp only at a c
     simp only[zx,HB.o,if_true,a,show bt S (s.i+2)=bt S (s.i+1+1)from rfl,c,HZ1.o,HZ2.o]
    ·show Value.int .u8 _=Value.int .u8 _
     congr 1
     exact MV z1 z2 hb1.1 hb1.2 hb2.1 hb2.2
   ·have HY:=zC hy
    clear hy;obtain⟨rfl,ht⟩:=hg;exact zY rfl ⟨g1.trans (g2.trans g3),Or.inr ⟨s.i+2,by have a:=HX.o;have c:=HY.o;try simp only at a c;simp only[zx,HB.o,if_true,a,show bt S (s.i+2)=bt S (s.i+1+1)from rfl,c];rfl,⟨rfl,ht⟩⟩⟩
  ·have HX:=zC hx
   have HB:=zC h92;clear hx h92;obtain⟨rfl,ht⟩:=hg;exact zY rfl ⟨g1.trans g2,Or.inr ⟨s.i+1,by have a:=HX.o;simp only at a;simp only[zx,HB.o,if_true,a];rfl,⟨rfl,ht⟩⟩⟩
 ·go_enter Tryz.func193,Tryz.ntmps193
  go_wp2_with fail;refine(JW h hS hi 92 h92).mono ?_;rintro e w1 ⟨rfl,h1,g1⟩;have HB:=zC h92;clear h92;obtain⟨c0,c1,c2,c3,c4,c5,c6,c7,fz⟩:=h1.fa
  by_cases hlt:s.i<S.size
  ·have l2:(s.i:Int)<S.size:=by omega
   have l3:(s.i:Int)<400:=by omega
   have q:((s.i:Int)==S.size)=false:=by rw[beq_eq_false_iff_ne];omega
   have q':(s.i==S.size)=false:=by rw[beq_eq_false_iff_ne];omega
   have HC:Hd ((S[s.i].toNat:Int)=bt S s.i):=jS hlt
   have hbd:(S[s.i].toNat:Int)<=255:=by have:=S[s.i].toNat_lt;omega
   have HQ:Hd (zx S 32 JX s=if JV 32 JX (bt S s.i)then .ok (bt S s.i,{s with i:=s.i+1})else .error s.i):=by
    show _=_
    simp only[zx,if_neg HB.o,JV]
    try rfl
   cases hp:JV 32 JX (bt S s.i)
   ·have HP:=zC hp
    clear hp;go_wp2_with fail;go_quiet ((go_at_call 215;exact Calls.quiet_of_same (ED _ _ (by omega) hbd)));have h2:zP (w1.drewN nq) b S s v5 v6 v7:=h1;have g2:=g1.trans (Ch.drewN [b] w1 nq);generalize w1.drewN nq=w2 at *;clear c0 c1 c2 c3 c4 c5 c6 c7 fz;rw[HC.o,HP.o];go_wp2_with fail;refine(ZB h2).mono ?_;rintro e w3 ⟨hg,g3⟩;obtain⟨rfl,ht⟩:=hg;exact zY rfl ⟨g2.trans g3,Or.inr ⟨s.i,by rw[HQ.o,HP.o];rfl,⟨rfl,ht⟩⟩⟩
   ·have HP:=zC hp
    clear hp;go_wp2_with fail;go_quiet ((go_at_call 215;exact Calls.quiet_of_same (ED _ _ (by omega) hbd)));have h2:zP (w1.drewN nq) b S s v5 v6 v7:=h1;have g2:=g1.trans (Ch.drewN [b] w1 nq);generalize w1.drewN nq=w2 at *;clear c0 c1 c2 c3 c4 c5 c6 c7 fz;rw[HC.o,HP.o];obtain⟨c0,c1,c2,c3,c4,c5,c6,c7,fz⟩:=h2.fa;go_wp2_with fail;have h3:=h2.bump;have g3:=g2.trans (Ch.setCell (X:=[b]) w2 (p:=⟨b,1,none⟩) (by simp) (.int .i64 ((s.i:Int)+1)));generalize w2.setCell ⟨b,1,none⟩ (.int .i64 ((s.i:Int)+1))=w3 at *;clear c0 c1 c2 c3 c4 c5 c6 c7 fz;obtain⟨c0,c1,c2,c3,c4,c5,c6,c7,fz⟩:=h3.fa;simp only at c1
    have hsub:IntKind.i64.wrap ((((s.i+1:Nat):Int)) - 1)=(s.i:Int):=by rw[IntKind.wrap_i64];omega
    go_quiet (fail);go_wp2_with fail;go_ret;exact⟨g3.trans (Ch.drewN _ _ _),Or.inl ⟨_,_,_,by rw[HQ.o,HP.o];rfl,rfl,by rw[<- HC.o];rfl,h3⟩⟩
  ·have q:((s.i:Int)==S.size)=true:=by rw[beq_iff_eq];omega
   have q':(s.i==S.size)=true:=by rw[beq_iff_eq];omega
   have HQ:Hd (zx S 32 JX s= .error s.i):=by
    show _=_
    simp only[zx,if_neg HB.o];rw[YL (by omega)]
    try rfl
   go_wp2_with fail;go_quiet (fail);have h2:zP (w1.drewN nq) b S s v5 v6 v7:=h1;have g2:=g1.trans (Ch.drewN [b] w1 nq);generalize w1.drewN nq=w2 at *;clear c0 c1 c2 c3 c4 c5 c6 c7 fz;go_wp2_with fail;refine(ZB h2).mono ?_;rintro e w3 ⟨hg,g3⟩;obtain⟨rfl,ht⟩:=hg;exact zY rfl ⟨g2.trans g3,Or.inr ⟨s.i,HQ.o,⟨rfl,ht⟩⟩⟩
theorem NU{w:World}{b:Nat}{S:ByteArray}{s:St}{v5 v6 v7:Value}(h:zP w b S s v5 v6 v7)(hS:S.size<=400)(hi:s.i<=S.size):
 Calls Tryz.prog 193 #[.pointer (some ⟨b,0,none⟩),.func (.func 219) #[] #[]] w (Jp w b S v5 v6 v7 Qi (zx S 33 jT s)):=by
 by_cases h92:bt S s.i=92
 ·go_enter Tryz.func193,Tryz.ntmps193
  go_wp2_with fail;refine(ZP h hS 92 (by decide) h92).mono ?_;rintro e w1 ⟨rfl,h1,g1⟩;have hlt:=yB (S:=S) (i:=s.i) (by omega);go_wp2_with fail;refine(VQ h1 hS hlt).mono ?_;rintro e w2 ⟨g2,⟨hx,rfl,h2⟩|⟨hx,hg⟩⟩
  ·have hlt2:=yB (S:=S) (i:=s.i+1) (Vt hx)
   have hb1:=Zu hx;have HX:=zC hx;have HB:=zC h92;clear hx h92;simp only at hb1;generalize hz1:jV (bt S (s.i+1))=z1 at *;have HZ1:=zC hz1;clear hz1;go_wp2_with fail;refine(VQ h2 hS hlt2).mono ?_;rintro e w3 ⟨g3,⟨hy,rfl,h3⟩|⟨hy,hg⟩⟩
   ·have hb2:=Zu hy
    have HY:=zC hy;clear hy;simp only at hb2;generalize hz2:jV (bt S (s.i+1+1))=z2 at *;have HZ2:=zC hz2;clear hz2;go_wp2_with fail;go_ret;refine⟨g1.trans (g2.trans g3),Or.inl ⟨16 * z1+z2,_,.int .u8 (bits .or .u8 (z1 * 16) z2),?_,rfl,?_,h3⟩⟩
    ·have a:=HX.o
     have c:=HY.o
     try simp only at a c
     simp only[zx,HB.o,if_true,a,show bt S (s.i+2)=bt S (s.i+1+1)from rfl,c,HZ1.o,HZ2.o]
    ·show Value.int .u8 _=Value.int .u8 _
     congr 1
     exact MV z1 z2 hb1.1 hb1.2 hb2.1 hb2.2
   ·have HY:=zC hy
    clear hy;obtain⟨rfl,ht⟩:=hg;exact zY rfl ⟨g1.trans (g2.trans g3),Or.inr ⟨s.i+2,by have a:=HX.o;have c:=HY.o;try simp only at a c;simp only[zx,HB.o,if_true,a,show bt S (s.i+2)=bt S (s.i+1+1)from rfl,c];rfl,⟨rfl,ht⟩⟩⟩
  ·have HX:=zC hx
   have HB:=zC h92;clear hx h92;obtain⟨rfl,ht⟩:=hg;exact zY rfl ⟨g1.trans g2,Or.inr ⟨s.i+1,by have a:=HX.o;simp only at a;simp only[zx,HB.o,if_true,a];rfl,⟨rfl,ht⟩⟩⟩
 ·go_enter Tryz.func193,Tryz.ntmps193
  go_wp2_with fail;refine(JW h hS hi 92 h92).mono ?_;rintro e w1 ⟨rfl,h1,g1⟩;have HB:=zC h92;clear h92;obtain⟨c0,c1,c2,c3,c4,c5,c6,c7,fz⟩:=h1.fa
  by_cases hlt:s.i<S.size
  ·have l2:(s.i:Int)<S.size:=by omega
   have l3:(s.i:Int)<400:=by omega
   have q:((s.i:Int)==S.size)=false:=by rw[beq_eq_false_iff_ne];omega
   have q':(s.i==S.size)=false:=by rw[beq_eq_false_iff_ne];omega
   have HC:Hd ((S[s.i].toNat:Int)=bt S s.i):=jS hlt
   have hbd:(S[s.i].toNat:Int)<=255:=by have:=S[s.i].toNat_lt;omega
   have HQ:Hd (zx S 33 jT s=if JV 33 jT (bt S s.i)then .ok (bt S s.i,{s with i:=s.i+1})else .error s.i):=by
    show _=_
    simp only[zx,if_neg HB.o,JV]
    try rfl
   cases hp:JV 33 jT (bt S s.i)
   ·have HP:=zC hp
    clear hp;go_wp2_with fail;go_quiet ((go_at_call 219;exact Calls.quiet_of_same (Lw _ _ (by omega) hbd)));have h2:zP (w1.drewN nq) b S s v5 v6 v7:=h1;have g2:=g1.trans (Ch.drewN [b] w1 nq);generalize w1.drewN nq=w2 at *;clear c0 c1 c2 c3 c4 c5 c6 c7 fz;rw[HC.o,HP.o];go_wp2_with fail;refine(ZB h2).mono ?_;rintro e w3 ⟨hg,g3⟩;obtain⟨rfl,ht⟩:=hg;exact zY rfl ⟨g2.trans g3,Or.inr ⟨s.i,by rw[HQ.o,HP.o];rfl,⟨rfl,ht⟩⟩⟩
   ·have HP:=zC hp
    clear hp;go_wp2_with fail;go_quiet ((go_at_call 219;exact Calls.quiet_of_same (Lw _ _ (by omega) hbd)));have h2:zP (w1.drewN nq) b S s v5 v6 v7:=h1;have g2:=g1.trans (Ch.drewN [b] w1 nq);generalize w1.drewN nq=w2 at *;clear c0 c1 c2 c3 c4 c5 c6 c7 fz;rw[HC.o,HP.o];obtain⟨c0,c1,c2,c3,c4,c5,c6,c7,fz⟩:=h2.fa;go_wp2_with fail;have h3:=h2.bump;have g3:=g2.trans (Ch.setCell (X:=[b]) w2 (p:=⟨b,1,none⟩) (by simp) (.int .i64 ((s.i:Int)+1)));generalize w2.setCell ⟨b,1,none⟩ (.int .i64 ((s.i:Int)+1))=w3 at *;clear c0 c1 c2 c3 c4 c5 c6 c7 fz;obtain⟨c0,c1,c2,c3,c4,c5,c6,c7,fz⟩:=h3.fa;simp only at c1
    have hsub:IntKind.i64.wrap ((((s.i+1:Nat):Int)) - 1)=(s.i:Int):=by rw[IntKind.wrap_i64];omega
    go_quiet (fail);go_wp2_with fail;go_ret;exact⟨g3.trans (Ch.drewN _ _ _),Or.inl ⟨_,_,_,by rw[HQ.o,HP.o];rfl,rfl,by rw[<- HC.o];rfl,h3⟩⟩
  ·have q:((s.i:Int)==S.size)=true:=by rw[beq_iff_eq];omega
   have q':(s.i==S.size)=true:=by rw[beq_iff_eq];omega
   have HQ:Hd (zx S 33 jT s= .error s.i):=by
    show _=_
    simp only[zx,if_neg HB.o];rw[YL (by omega)]
    try rfl
   go_wp2_with fail;go_quiet (fail);have h2:zP (w1.drewN nq) b S s v5 v6 v7:=h1;have g2:=g1.trans (Ch.drewN [b] w1 nq);generalize w1.drewN nq=w2 at *;clear c0 c1 c2 c3 c4 c5 c6 c7 fz;go_wp2_with fail;refine(ZB h2).mono ?_;rintro e w3 ⟨hg,g3⟩;obtain⟨rfl,ht⟩:=hg;exact zY rfl ⟨g2.trans g3,Or.inr ⟨s.i,HQ.o,⟨rfl,ht⟩⟩⟩
theorem TV{w:World}{b:Nat}{S:ByteArray}{s:St}{v5 v6 v7:Value}(h:zP w b S s v5 v6 v7)(hS:S.size<=400)(hi:s.i<=S.size):
 Calls Tryz.prog 193 #[.pointer (some ⟨b,0,none⟩),.func (.func 189) #[] #[]] w (Jp w b S v5 v6 v7 Qi (zx S 32 JE s)):=by
 by_cases h92:bt S s.i=92
 ·go_enter Tryz.func193,Tryz.ntmps193
  go_wp2_with fail;refine(ZP h hS 92 (by decide) h92).mono ?_;rintro e w1 ⟨rfl,h1,g1⟩;have hlt:=yB (S:=S) (i:=s.i) (by omega);go_wp2_with fail;refine(VQ h1 hS hlt).mono ?_;rintro e w2 ⟨g2,⟨hx,rfl,h2⟩|⟨hx,hg⟩⟩
  ·have hlt2:=yB (S:=S) (i:=s.i+1) (Vt hx)
   have hb1:=Zu hx;have HX:=zC hx;have HB:=zC h92;clear hx h92;simp only at hb1;generalize hz1:jV (bt S (s.i+1))=z1 at *;have HZ1:=zC hz1;clear hz1;go_wp2_with fail;refine(VQ h2 hS hlt2).mono ?_;rintro e w3 ⟨g3,⟨hy,rfl,h3⟩|⟨hy,hg⟩⟩
   ·have hb2:=Zu hy
    have HY:=zC hy;clear hy;simp only at hb2;generalize hz2:jV (bt S (s.i+1+1))=z2 at *;have HZ2:=zC hz2;clear hz2;go_wp2_with fail;go_ret;refine⟨g1.trans (g2.trans g3),Or.inl ⟨16 * z1+z2,_,.int .u8 (bits .or .u8 (z1 * 16) z2),?_,rfl,?_,h3⟩⟩
    ·have a:=HX.o
     have c:=HY.o
     try simp only at a c
     simp only[zx,HB.o,if_true,a,show bt S (s.i+2)=bt S (s.i+1+1)from rfl,c,HZ1.o,HZ2.o]
    ·show Value.int .u8 _=Value.int .u8 _
     congr 1
     exact MV z1 z2 hb1.1 hb1.2 hb2.1 hb2.2
   ·have HY:=zC hy
    clear hy;obtain⟨rfl,ht⟩:=hg;exact zY rfl ⟨g1.trans (g2.trans g3),Or.inr ⟨s.i+2,by have a:=HX.o;have c:=HY.o;try simp only at a c;simp only[zx,HB.o,if_true,a,show bt S (s.i+2)=bt S (s.i+1+1)from rfl,c];rfl,⟨rfl,ht⟩⟩⟩
  ·have HX:=zC hx
   have HB:=zC h92;clear hx h92;obtain⟨rfl,ht⟩:=hg;exact zY rfl ⟨g1.trans g2,Or.inr ⟨s.i+1,by have a:=HX.o;simp only at a;simp only[zx,HB.o,if_true,a];rfl,⟨rfl,ht⟩⟩⟩
 ·go_enter Tryz.func193,Tryz.ntmps193
  go_wp2_with fail;refine(JW h hS hi 92 h92).mono ?_;rintro e w1 ⟨rfl,h1,g1⟩;have HB:=zC h92;clear h92;obtain⟨c0,c1,c2,c3,c4,c5,c6,c7,fz⟩:=h1.fa
  by_cases hlt:s.i<S.size
  ·have l2:(s.i:Int)<S.size:=by omega
   have l3:(s.i:Int)<400:=by omega
   have q:((s.i:Int)==S.size)=false:=by rw[beq_eq_false_iff_ne];omega
   have q':(s.i==S.size)=false:=by rw[beq_eq_false_iff_ne];omega
   have HC:Hd ((S[s.i].toNat:Int)=bt S s.i):=jS hlt
   have hbd:(S[s.i].toNat:Int)<=255:=by have:=S[s.i].toNat_lt;omega
   have HQ:Hd (zx S 32 JE s=if JV 32 JE (bt S s.i)then .ok (bt S s.i,{s with i:=s.i+1})else .error s.i):=by
    show _=_
    simp only[zx,if_neg HB.o,JV]
    try rfl
   cases hp:JV 32 JE (bt S s.i)
   ·have HP:=zC hp
    clear hp;go_wp2_with fail;go_quiet ((go_at_call 189;exact Calls.quiet_of_same (Ki _ _ (by omega) hbd)));have h2:zP (w1.drewN nq) b S s v5 v6 v7:=h1;have g2:=g1.trans (Ch.drewN [b] w1 nq);generalize w1.drewN nq=w2 at *;clear c0 c1 c2 c3 c4 c5 c6 c7 fz;rw[HC.o,HP.o];go_wp2_with fail;refine(ZB h2).mono ?_;rintro e w3 ⟨hg,g3⟩;obtain⟨rfl,ht⟩:=hg;exact zY rfl ⟨g2.trans g3,Or.inr ⟨s.i,by rw[HQ.o,HP.o];rfl,⟨rfl,ht⟩⟩⟩
   ·have HP:=zC hp
    clear hp;go_wp2_with fail;go_quiet ((go_at_call 189;exact Calls.quiet_of_same (Ki _ _ (by omega) hbd)));have h2:zP (w1.drewN nq) b S s v5 v6 v7:=h1;have g2:=g1.trans (Ch.drewN [b] w1 nq);generalize w1.drewN nq=w2 at *;clear c0 c1 c2 c3 c4 c5 c6 c7 fz;rw[HC.o,HP.o];obtain⟨c0,c1,c2,c3,c4,c5,c6,c7,fz⟩:=h2.fa;go_wp2_with fail;have h3:=h2.bump;have g3:=g2.trans (Ch.setCell (X:=[b]) w2 (p:=⟨b,1,none⟩) (by simp) (.int .i64 ((s.i:Int)+1)));generalize w2.setCell ⟨b,1,none⟩ (.int .i64 ((s.i:Int)+1))=w3 at *;clear c0 c1 c2 c3 c4 c5 c6 c7 fz;obtain⟨c0,c1,c2,c3,c4,c5,c6,c7,fz⟩:=h3.fa;simp only at c1
    have hsub:IntKind.i64.wrap ((((s.i+1:Nat):Int)) - 1)=(s.i:Int):=by rw[IntKind.wrap_i64];omega
    go_quiet (fail);go_wp2_with fail;go_ret;exact⟨g3.trans (Ch.drewN _ _ _),Or.inl ⟨_,_,_,by rw[HQ.o,HP.o];rfl,rfl,by rw[<- HC.o];rfl,h3⟩⟩
  ·have q:((s.i:Int)==S.size)=true:=by rw[beq_iff_eq];omega
   have q':(s.i==S.size)=true:=by rw[beq_iff_eq];omega
   have HQ:Hd (zx S 32 JE s= .error s.i):=by
    show _=_
    simp only[zx,if_neg HB.o];rw[YL (by omega)]
    try rfl
   go_wp2_with fail;go_quiet (fail);have h2:zP (w1.drewN nq) b S s v5 v6 v7:=h1;have g2:=g1.trans (Ch.drewN [b] w1 nq);generalize w1.drewN nq=w2 at *;clear c0 c1 c2 c3 c4 c5 c6 c7 fz;go_wp2_with fail;refine(ZB h2).mono ?_;rintro e w3 ⟨hg,g3⟩;obtain⟨rfl,ht⟩:=hg;exact zY rfl ⟨g2.trans g3,Or.inr ⟨s.i,HQ.o,⟨rfl,ht⟩⟩⟩
def Yy(x:ByteArray):List Value:=x.data.toList.map fun c=> .int .u8 (c.toNat:Int)
theorem Ka:(Tryz.prog.info? 5).map (fun i=>(i.zero,i.size,i.bytes))=some (some (.int .u8 0),1,1):=by kernel_rfl
theorem PH(x:ByteArray){c:Int}(h0:0<=c)(h1:c<=255):Yy (x++⟨#[UInt8.ofNat c.toNat]⟩)=Yy x++[.int .u8 c]:=by
 have:(((UInt8.ofNat c.toNat).toNat:Nat):Int)=c:=by simp;omega
 simp only[Yy];rw[show(x++⟨#[UInt8.ofNat c.toNat]⟩:ByteArray).data=x.data++ #[UInt8.ofNat c.toNat]from by simp[ByteArray.data_append]];simp only[Array.toList_append,List.map_append]
 congr 1
 show [Value.int .u8 _]=_
 rw[this]
theorem NB{W:World}{v:Value}{x:ByteArray}(h:W.ownsRow 0 5 1 v x.size (Yy x)):Sem.run Tryz.prog (convert 124 9 v) W= .ok (.string x) W:=by
 obtain⟨hl,⟨rfl,h0⟩|⟨g,cap,cur,rfl,_,hg,h1,h2,h3,h4⟩⟩:=h
 ·rw[run_convert_bytes_string W 124 9 5 _ _ _ Tryz.underlying124 Tryz.underlying5 Tryz.underlying9]
  have:x=ByteArray.empty:=by
   obtain⟨⟨l⟩⟩:=x
   cases l with
   |nil=>rfl
   |cons a l=>simp[ByteArray.size]at h0
  subst this
  try rfl
 ·have hx:x.data.toList.length=x.size:=by rw[Array.length_toList];rfl
  have:=run_convert_bytes_back (P:=Tryz.prog) W 124 9 5 ⟨g,0,none⟩ cap x.data.toList Tryz.underlying124 Tryz.underlying5 Tryz.underlying9 (by
   intro j hj
   have e:(cur.toList.take (x.size * 1))[j]? =(Yy x)[j]? :=by rw[h4]
   rw[List.getElem?_take_of_lt (by omega)]at e
   have e2:(Yy x)[j]? =some (.int .u8 (x.data.toList[j].toNat:Int)):=by
    simp only[Yy,List.getElem?_map,List.getElem?_eq_getElem hj,Option.map_some]
   rw[e2]at e
   have ea:(⟨g,0,none⟩:Addr).add j=⟨g,j,none⟩:=by unfold Addr.add;split <;>simp_all
   rw[ea];simp only[World.cell?,hg]
   simpa using e)
  rw[hx]at this;rw[this]
def WI(x:ByteArray)(v:Value)(_:World):Prop:=v= .string x
theorem Ev{w:World}{b:Nat}{S:ByteArray}{s:St}{v5 v6 v7:Value}(h:zP w b S s v5 v6 v7)(hS:S.size<=400)(hi:s.i<=S.size):
 Calls Tryz.prog 197 #[.pointer (some ⟨b,0,none⟩)] w (Jp w b S v5 v6 v7 WI (jH S (S.size+1) s ByteArray.empty)):=by
 have hbl:=h.lt;go_enter Tryz.func197,Tryz.ntmps197;go_wp2_with fail
 go_loopw [3] (fun v w3=>∃(x:ByteArray) (n:Nat) (s3:St),w3.ownsRow 0 5 1 v x.size (Yy x)/\(∀g,v.ownBlock=some g->w.heap.size<=g)/\x.size<=s3.i/\S.size<n+s3.i/\s3.i<=S.size/\zP w3 b S s3 v5 v6 v7/\Ch [b] w w3/\Hd (jH S (S.size+1) s ByteArray.empty=jH S n s3 x)) (fun _ w3=>S.size - penI b w3)
 case atStart=>exact⟨ByteArray.empty,S.size+1,s,⟨rfl,Or.inl ⟨rfl,rfl⟩⟩,by intro g hg;simp[Value.ownBlock]at hg,by simp,by omega,hi,h,Ch.refl _ _,rfl⟩
 case round=>
  generalize wr=w3 at *;obtain⟨x,n,s3,O3,V3,hx,hn,hi3,h3,g3,HF⟩:=hrel;obtain⟨n,rfl⟩:∃m,n=m+1:=⟨n - 1,by omega⟩;have z3:=g3.size
  by_cases hq:bt S s3.i=34
  ·have HR:Hd (jH S (n+1) s3 x= .ok (x,{s3 with i:=s3.i+1})):=by show _=_;simp[jH,hq]
   have HQ:=zC hq;clear hq;go_wp2_with fail;refine(ZP h3 hS 34 (by decide) HQ.o).mono ?_;rintro e w4 ⟨rfl,h4,g4⟩;have O4:=zJ O3 g4 (fun k hk=>by have:=V3 k hk;simp;omega);have hcv:=NB O4;go_wp2_with fail;go_ret;exact⟨g3.trans g4,Or.inl ⟨x,_,_,HF.o.trans HR.o,rfl,rfl,h4⟩⟩
  ·have HR:Hd (∀c s',zx S 32 JX s3= .ok (c,s')->jH S (n+1) s3 x=jH S n s' (x++⟨#[UInt8.ofNat c.toNat]⟩)):=by
    intro c s' e;simp only[jH,if_neg hq,e]
   have HE:Hd (∀d,zx S 32 JX s3= .error d->jH S (n+1) s3 x= .error d):=by
    intro c e;simp only[jH,if_neg hq,e]
   have HQ:=zC hq;clear hq;go_wp2_with fail;refine(JW h3 hS hi3 34 HQ.o).mono ?_;rintro e w4 ⟨rfl,h4,g4⟩;have O4:=zJ O3 g4 (fun k hk=>by have:=V3 k hk;simp;omega);go_wp2_with fail;refine(Eo h4 hS hi3).mono ?_;rintro e w5 ⟨g5,⟨c,s5,v,hl,rfl,hv,h5⟩|⟨d,hl,hg⟩⟩
   ·unfold Qi at hv
    subst hv;have O5:=zJ O4 g5 (fun k hk=>by have:=V3 k hk;simp;omega);have hlo:=Jr (by omega) hl;have HL:=zC hl;clear hl;have O6:=zJ O5 (Ch.alloc [] w5 (.cells #[.int .u8 c] 5)) (by simp);have V3x:=zC V3;have z4:=g4.size;have z5:=g5.size;have h6:=h5.kp (Ch.alloc [] w5 (.cells #[.int .u8 c] 5)) (by simp);clear O3 O4 O5 V3;go_wp2_with (at_builtin;refine QC 124 5 1 1 (.int .u8 0) Tryz.underlying124 Ka rfl (by omega) (by omega) (by rfl) _ _ (by rfl) _ x.size _ (by rfl) O6 w5.heap.size [.int .u8 c] (by rfl) (zr _ _) rfl (by intro u hu;simp at hu;subst hu;rfl) (by omega) (w5.heap.size+1) (by simp) ?_;intro g cap w13 own13 gr13 hat13 hlt13)
    have hg6:w.heap.size<=g:=by
     rcases hat13 with e|e
     ·exact V3x.o g e
     ·omega
    have h13:=h6.kp gr13 (by simp;intro e;have:=V3x.o _ e;omega)
    have hsz:(x++⟨#[UInt8.ofNat c.toNat]⟩:ByteArray).size=x.size+1:=by simp[ByteArray.size_append];rfl
    go_roundw
    case rel=>
     refine⟨x++⟨#[UInt8.ofNat c.toNat]⟩,n,s5,?_,?_,by rw[hsz];omega,by omega,hlo.2.1,h13,?_,?_⟩
     ·rw[PH x hlo.2.2.1 hlo.2.2.2.1,hsz];exact own13
     ·intro k hk;simp[Value.ownBlock]at hk;omega
     ·refine((g3.trans g4).trans (g5.trans (Ch.alloc [b] w5 _))).trans' gr13 (fun k hk=> ?_)
      simp at hk;exact Or.inr (V3x.o k hk)
     ·show _=_
      exact HF.o.trans (HR.o _ _ HL.o)
    case measure=>
     rw[h3.penI,h13.penI];omega
   ·have HL:=zC hl
    clear hl;obtain⟨rfl,ht⟩:=hg;exact zY (P:=Tryz.prog) (fn:=Tryz.f197) rfl ⟨g3.trans (g4.trans g5),Or.inr ⟨d,HF.o.trans (HE.o _ HL.o),⟨rfl,ht⟩⟩⟩
theorem UD(x:ByteArray):(x=Ji/\jU x=10)\/(x=Jt/\jU x=11)\/(x=Za/\jU x=12)\/(x=jy/\jU x=13)\/(x=⟨#[98,121,116,101]⟩/\jU x=14)\/(x=⟨#[117,112,112,101,114]⟩/\jU x=15)\/(x=⟨#[108,111,119,101,114]⟩/\jU x=16)\/(x=Jj/\jU x=17)\/(x=JR/\jU x=18)\/(x=ZM/\jU x=19)\/(x∉js/\jU x=if 8<x.size then 1 else 2):=by
 have key:∀W:ByteArray,x=W\/(yQ x W=false/\¬x=W):=by
  intro W
  by_cases e:x=W
  ·exact Or.inl e
  ·right;exact⟨by rw[Bool.eq_false_iff];intro h;exact e (Jh.1 h),e⟩
 rcases key Ji with rfl|⟨r0,e0⟩
 ·left;exact⟨rfl,rfl⟩
 rcases key Jt with rfl|⟨r1,e1⟩
 ·right;left;exact⟨rfl,rfl⟩
 rcases key Za with rfl|⟨r2,e2⟩
 ·right;right;left;exact⟨rfl,rfl⟩
 rcases key jy with rfl|⟨r3,e3⟩
 ·right;right;right;left;exact⟨rfl,rfl⟩
 rcases key ⟨#[98,121,116,101]⟩with rfl|⟨r4,e4⟩
 ·right;right;right;right;left;exact⟨rfl,rfl⟩
 rcases key ⟨#[117,112,112,101,114]⟩with rfl|⟨r5,e5⟩
 ·right;right;right;right;right;left;exact⟨rfl,rfl⟩
 rcases key ⟨#[108,111,119,101,114]⟩with rfl|⟨r6,e6⟩
 ·right;right;right;right;right;right;left;exact⟨rfl,rfl⟩
 rcases key Jj with rfl|⟨r7,e7⟩
 ·right;right;right;right;right;right;right;left;exact⟨rfl,rfl⟩
 rcases key JR with rfl|⟨r8,e8⟩
 ·right;right;right;right;right;right;right;right;left;exact⟨rfl,rfl⟩
 rcases key ZM with rfl|⟨r9,e9⟩
 ·right;right;right;right;right;right;right;right;right;left;exact⟨rfl,rfl⟩
 right;right;right;right;right;right;right;right;right;right
 refine⟨?_,?_⟩
 ·simp only[js,List.mem_cons,List.not_mem_nil,or_false,not_or]
  exact⟨e0,e1,e2,e3,e4,e5,e6,e7,e8,e9⟩
 ·simp only[jU,r0,r1,r2,r3,r4,r5,r6,r7,r8,r9,Bool.false_eq_true,if_false]
theorem Pv{S:ByteArray}{I:Nat}(hI:I<S.size):(S.extract I (run zR S I)).size=run zR S I - I:=by
 have:=zn zR S I (by omega);simp;omega
theorem Ep{S:ByteArray}{I:Nat}(hI:I<S.size):(S.extract I (run zR S I)).size=0↔zR (bt S I)=false:=by
 rw[Pv hI];cases h:zR (bt S I)
 ·have:=Z9 h;simp;omega
 ·have h1:=Qs hI h
  have h2:=zn zR S (I+1) (by omega)
  constructor
  ·intro e;omega
  ·intro e;cases e
def jd:List (Int×Int):=[(3,34),(4,91),(5,47),(6,123),(7,125),(8,61),(9,59)]
theorem Yv{S:ByteArray}{I:Nat}(hI:I<=S.size){k c:Int}(hk:(k,c)∈jd):zV S I=k↔bt S I=c:=by
 have hk':(k=3/\c=34)\/(k=4/\c=91)\/(k=5/\c=47)\/(k=6/\c=123)\/(k=7/\c=125)\/(k=8/\c=61)\/(k=9/\c=59):=by
  simpa[jd]using hk
 clear hk
 by_cases h0:I=S.size
 ·have a:zV S I=0:=by simp[zV,h0]
  have b:bt S I= -1:=YL (by omega);rw[a,b];omega
 ·have hlt:I<S.size:=by omega
  by_cases h1:(S.extract I (run zR S I)).size=0
  ·have a:zV S I=YG (bt S I):=by simp only[zV,if_neg h0,if_pos h1]
   rw[a];generalize bt S I=z;unfold YG
   repeat' split
   all_goals omega
  ·have a:zV S I=jU (S.extract I (run zR S I)):=by simp only[zV,if_neg h0,if_neg h1]
   have b:zR (bt S I)=true:=by
    cases hb:zR (bt S I)
    ·exact absurd ((Ep hlt).2 hb) h1
    ·rfl
   simp[zR]at b;have c':=UD (S.extract I (run zR S I));rw[a];generalize jU (S.extract I (run zR S I))=z at *;generalize bt S I=y at *
   split at c' <;>omega
theorem Xa{S:ByteArray}{s:St}(hi:s.i<=S.size){k c:Int}(hk:(k,c)∈jd):
 Zh S k s=match zh S c s with|.ok s'=> .ok (run zI S s.i,s')|.error d=> .error d:=by
 have l1:=zn zI S s.i hi;have key:=Yv l1.2 hk;unfold Zh zh;generalize run zI S s.i=I at *
 by_cases h:bt S I=c
 ·rw[if_pos (key.2 h),if_pos h]
  have hc:zR c=false:=by
   have hk':(k=3/\c=34)\/(k=4/\c=91)\/(k=5/\c=47)\/(k=6/\c=123)\/(k=7/\c=125)\/(k=8/\c=61)\/(k=9/\c=59):=by
    simpa[jd]using hk
   rcases hk' with⟨_,rfl⟩|⟨_,rfl⟩|⟨_,rfl⟩|⟨_,rfl⟩|⟨_,rfl⟩|⟨_,rfl⟩|⟨_,rfl⟩ <;>rfl
  rw[Z9 (by rw[h];exact hc)];simp
 ·rw[if_neg (fun e=>h (key.1 e)),if_neg h]
theorem Zm{S:ByteArray}{I:Nat}(hI:I<=S.size){k:Int}{W:ByteArray}(hk:10<=k)(hW:jU W=k):zV S I=k↔S.extract I (run zR S I)=W:=by
 by_cases h0:I=S.size
 ·have a:zV S I=0:=by simp[zV,h0]
  rw[a]
  constructor
  ·intro e;omega
  ·intro e
   exfalso
   have hz:(S.extract I (run zR S I)).size=0:=by simp;omega
   rw[e]at hz
   have:W=ByteArray.empty:=by
    obtain⟨⟨l⟩⟩:=W
    cases l with
    |nil=>rfl
    |cons a l=>simp[ByteArray.size]at hz
   subst this;have:jU ByteArray.empty=2:=rfl;omega
 ·have hlt:I<S.size:=by omega
  by_cases h1:(S.extract I (run zR S I)).size=0
  ·have a:zV S I=YG (bt S I):=by simp only[zV,if_neg h0,if_pos h1]
   rw[a]
   constructor
   ·intro e
    exfalso
    unfold YG at e
    repeat' split at e
    all_goals omega
   ·intro e
    exfalso
    rw[e]at h1
    have:W=ByteArray.empty:=by
     obtain⟨⟨l⟩⟩:=W
     cases l with
     |nil=>rfl
     |cons a l=>simp[ByteArray.size]at h1
    subst this;have:jU ByteArray.empty=2:=rfl;omega
  ·have a:zV S I=jU (S.extract I (run zR S I)):=by simp only[zV,if_neg h0,if_neg h1]
   rw[a]
   constructor
   ·intro e
    have c1:=UD (S.extract I (run zR S I));have c2:=UD W;rw[e]at c1;rw[hW]at c2
    have d1:∀n:Nat,(if 8<n then(1:Int)else 2)<=2:=by intro n;split <;>omega
    have d2:=d1 (S.extract I (run zR S I)).size;have d3:=d1 W.size
    rcases c1 with⟨c1,f1⟩|⟨c1,f1⟩|⟨c1,f1⟩|⟨c1,f1⟩|⟨c1,f1⟩|⟨c1,f1⟩|⟨c1,f1⟩|⟨c1,f1⟩|⟨c1,f1⟩|⟨c1,f1⟩|⟨c1,f1⟩ <;>
    rcases c2 with⟨c2,f2⟩|⟨c2,f2⟩|⟨c2,f2⟩|⟨c2,f2⟩|⟨c2,f2⟩|⟨c2,f2⟩|⟨c2,f2⟩|⟨c2,f2⟩|⟨c2,f2⟩|⟨c2,f2⟩|⟨c2,f2⟩ <;>
    first|(exfalso;omega)|(rw[c1,c2])
   ·intro e;rw[e];exact hW
theorem LQ{S:ByteArray}{s:St}(hi:s.i<=S.size){k:Int}{W:ByteArray}(hk:10<=k)(hW:jU W=k):
 Zh S k s=match yI S [W] s with|.ok ((_,p),s')=> .ok (p,s')|.error d=> .error d:=by
 have l1:=zn zI S s.i hi;have key:=Zm l1.2 hk hW
 have hne:0<W.size:=by
  rcases Nat.eq_zero_or_pos W.size with h|h
  ·have:W=ByteArray.empty:=by
    obtain⟨⟨l⟩⟩:=W
    cases l with
    |nil=>rfl
    |cons a l=>simp[ByteArray.size]at h
   subst this;have:jU ByteArray.empty=2:=rfl;omega
  ·exact h
 unfold Zh yI;simp only;generalize run zI S s.i=I at *
 by_cases h:S.extract I (run zR S I)=W
 ·rw[if_pos (key.2 h)]
  have:JS [W] (S.extract I (run zR S I))=true:=Jv.2 (by simp[h]);rw[if_pos this];have l2:=zn zR S I l1.2
  have hs:(S.extract I (run zR S I)).size=run zR S I - I:=by simp;omega
  rw[h]at hs
  have:I+max 1 (run zR S I - I)=run zR S I:=by omega
  simp only[this]
 ·rw[if_neg (fun e=>h (key.1 e))]
  have:¬JS [W] (S.extract I (run zR S I))=true:=by rw[Jv];simpa using h
  rw[if_neg this]
theorem Lh{S:ByteArray}{I:Nat}(_hI:I<=S.size):zV S I=2↔¬((S.extract I (run zR S I)).size=0\/JS js (S.extract I (run zR S I))=true\/8<(S.extract I (run zR S I)).size):=by
 by_cases h0:I=S.size
 ·have a:zV S I=0:=by simp[zV,h0]
  have hz:(S.extract I (run zR S I)).size=0:=by simp;omega
  rw[a];simp[hz]
 ·by_cases h1:(S.extract I (run zR S I)).size=0
  ·have a:zV S I=YG (bt S I):=by simp only[zV,if_neg h0,if_pos h1]
   rw[a];simp only[h1,true_or,not_true,iff_false];unfold YG
   repeat' split
   all_goals omega
  ·have a:zV S I=jU (S.extract I (run zR S I)):=by simp only[zV,if_neg h0,if_neg h1]
   rw[a,Jv];have c1:=UD (S.extract I (run zR S I));generalize S.extract I (run zR S I)=X at *
   have hm:∀W,W∈js->X=W->X∈js:=fun W h e=>e ▸ h
   rcases c1 with⟨c1,f1⟩|⟨c1,f1⟩|⟨c1,f1⟩|⟨c1,f1⟩|⟨c1,f1⟩|⟨c1,f1⟩|⟨c1,f1⟩|⟨c1,f1⟩|⟨c1,f1⟩|⟨c1,f1⟩|⟨c1,f1⟩
   all_goals rw[f1]
   iterate 10
    ·constructor
     ·intro e;exact absurd e (by decide)
     ·intro e;exact absurd (Or.inr (Or.inl (hm _ (by simp[js,Ji,Jt,Za,jy,Jj,JR,ZM]) c1))) e
   ·split
    ·constructor
     ·intro e;exact absurd e (by decide)
     ·intro e;exfalso;apply e;right;right;assumption
    ·simp[h1,c1];omega
theorem SR{S:ByteArray}{s:St}(hi:s.i<=S.size):
 Zh S 2 s=match yA S s with|.ok ((_,p),s')=> .ok (p,s')|.error d=> .error d:=by
 have l1:=zn zI S s.i hi;have key:=Lh l1.2;unfold Zh yA;simp only;generalize run zI S s.i=I at *
 by_cases h:(S.extract I (run zR S I)).size=0\/JS js (S.extract I (run zR S I))=true\/8<(S.extract I (run zR S I)).size
 ·rw[if_pos h,if_neg (fun e=>(key.1 e) h)]
 ·rw[if_neg h,if_pos (key.2 h)]
  have l2:=zn zR S I l1.2
  have hs:(S.extract I (run zR S I)).size=run zR S I - I:=by simp;omega
  have:I+max 1 (run zR S I - I)=run zR S I:=by omega
  simp only[this]
theorem EH{S:ByteArray}{s s':St}{x:ByteArray}{p:Nat}(h:yA S s= .ok ((x,p),s')):x=S.extract p s'.i:=by
 unfold yA at h;simp only at h
 split at h
 ·cases h
 ·injection h with h;injection h with h1 h2;injection h1 with h3 h4;subst h3 h4 h2;rfl
end Go.Proofs.YteobgfbgglfkbaaGreat
