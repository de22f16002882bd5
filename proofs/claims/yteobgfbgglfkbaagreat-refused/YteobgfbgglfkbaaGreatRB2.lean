import Derived.Test.YteobgfbgglfkbaaGreatRB1
import Derived.Lib.Bytealg
namespace Go.Proofs.YteobgfbgglfkbaaGreat
open Go.RowKit
attribute [local go_sem ↓] Go.wp_at_zero Go.wp_at_succ
def idxB(l:ByteArray)(c:Int):Int:=Go.Lib.indexByte l.data.toList c.toNat.toUInt8
theorem run_idx(l:ByteArray)(c:Int)(w:World):(callFunc 218 #[.string l,.int .u8 c]).run Tryz.prog w= .ok (.value (.int .i64 (idxB l c))) w:=by
 rw [run_callFunc_extern Tryz.func218 (by kernel_rfl) (by kernel_rfl) (by kernel_rfl) (e:=Extern.BytealgIndexByte.indexByte) (by kernel_rfl),Go.Lib.run_indexByteString]
 try rfl
theorem zHM{w:World}(l:ByteArray)(c:Int):Calls Tryz.prog 210 #[.string l,.int .u8 c] w fun e w'=>e= .returned (.int .i64 (idxB l c))∧w'=w:=by
 have hr:=run_idx l c w;go_enter Tryz.func210,Tryz.ntmps210;go_wp2_with fail;go_ret;exact ⟨rfl,rfl⟩
theorem zCB{w:World}(l:ByteArray)(c:Int):Calls Tryz.prog 190 #[.string l,.int .u8 c] w fun e w'=>e= .returned (.int .i64 (idxB l c))∧w'=w:=by
 go_enter Tryz.func190,Tryz.ntmps190;go_wp2_with fail;refine (zHM l c).mono ?_;rintro e w1 ⟨rfl,rfl⟩;go_wp2_with fail;go_ret;exact ⟨rfl,rfl⟩
theorem zDq:∀(l:List UInt8) (c:UInt8),Go.Lib.indexByte l c= -1↔(l.any fun x=>x==c)=false
 |[],c=>by simp [Go.Lib.indexByte]
 |b:: l,c=>by
  have ih:=zDq l c;have hg:=Go.Lib.indexByte_ge l c;simp only [Go.Lib.indexByte,List.any_cons]
  by_cases hb:(b==c)=true
  ·simp [hb]
  ·have hb':(b==c)=false:=by simpa using hb
   simp only [hb',Bool.false_or,Bool.false_eq_true,if_false]
   by_cases hi:Go.Lib.indexByte l c= -1
   ·simp only [hi,beq_self_eq_true,if_true];simpa [hi] using ih
   ·have hi':(Go.Lib.indexByte l c== -1)=false:=by simpa using hi
    simp only [hi',Bool.false_eq_true,if_false];rw [← ih];omega
theorem zH5{l:ByteArray}{c:Int}(h0:0≤c)(h1:c≤255):zBL c l=(l.data.toList.any fun x=>x==c.toNat.toUInt8):=by
 unfold zBL
 congr 1
 funext x
 have hx:=x.toNat_lt
 by_cases h:x=c.toNat.toUInt8
 ·subst h
  have:((c.toNat.toUInt8.toNat:Nat):Int)=c:=by simp [Nat.toUInt8];omega
  rw [this];simp
 ·have:¬((x.toNat:Int)=c):=by
   intro e;apply h;apply UInt8.toNat_inj.1
   have:c.toNat.toUInt8.toNat=c.toNat:=by simp [Nat.toUInt8];omega
   omega
  have h':(x==c.toNat.toUInt8)=false:=by simpa using h
  rw [h'];simpa using this
theorem zKf{l:ByteArray}{c:Int}(h0:0≤c)(h1:c≤255)(h:zBL c l=false):idxB l c= -1:=by
 rw [zH5 h0 h1] at h;exact (zDq _ _).2 h
theorem zIq{l:ByteArray}{c:Int}(h0:0≤c)(h1:c≤255)(h:zBL c l=true):0≤idxB l c:=by
 rw [zH5 h0 h1] at h
 have h2:¬idxB l c= -1:=by
  intro e;have:=(zDq _ _).1 e;rw [this] at h;cases h
 have:=Go.Lib.indexByte_ge l.data.toList c.toNat.toUInt8;unfold idxB at *;omega
def zCU(lo:Int)(but:ByteArray)(c:Int):Bool:=(decide (lo≤c) && decide (c≤126)) && !zBL c but
def zON(f:Nat)(lo:Int)(but:ByteArray):Prop:=∀(w:World) (c:Int),0≤c→c≤255→Calls Tryz.prog f #[.int .u8 c] w fun e w'=>e= .returned (.bool (zCU lo but c))∧w'=w
theorem zNS(c:Int):zBL c zB2=((34:Int)==c || (92:Int)==c):=by
 simp [zBL,zB2]
set_option maxHeartbeats 400000 in
theorem zFG:zON 215 32 zB2:=by
 intro w c h0 h1
 have HP:Hid (zCU 32 zB2 c=((decide (32≤c) && decide (c≤126)) && (c !=34) && (c !=92))):=by
  show _=_
  rw [zCU,zNS,Bool.eq_iff_iff];simp;omega
 by_cases h2:32≤c
 all_goals by_cases h3:c≤126
 all_goals by_cases h4:c=34
 all_goals by_cases h5:c=92
 all_goals first | omega | skip
 all_goals
  go_enter Tryz.func215,Tryz.ntmps215;go_wp2_with fail;go_ret;exact ⟨by rw [HP.out];simp [*];try omega,rfl⟩
set_option maxHeartbeats 400000 in
theorem zEa:zON 219 33 zAf:=by
 intro w c h0 h1
 have HP:Hid (∀q:Bool,zBL c zAf=q→zCU 33 zAf c=((decide (33≤c) && decide (c≤126)) && !q)):=by
  intro q e;rw [zCU,e]
 by_cases h2:33≤c
 ·by_cases h3:c≤126
  ·cases hq:zBL c zAf
   ·have hx:idxB zAf c= -1:=zKf h0 h1 hq
    have HQ:=hide hq;clear hq;go_enter Tryz.func219,Tryz.ntmps219;go_wp2_with fail;refine (zCB _ c).mono ?_;rintro e w1 ⟨rfl,rfl⟩;rw [show idxB ⟨#[45,91,93,92]⟩ c= -1 from hx];go_wp2_with fail;go_ret;exact ⟨by rw [HP.out _ HQ.out];simp [h2,h3],rfl⟩
   ·have hx:0≤idxB zAf c:=zIq h0 h1 hq
    have hx':¬idxB ⟨#[45,91,93,92]⟩ c<0:=by have:idxB ⟨#[45,91,93,92]⟩ c=idxB zAf c:=rfl;omega
    have HQ:=hide hq;clear hq hx;go_enter Tryz.func219,Tryz.ntmps219;go_wp2_with fail;refine (zCB _ c).mono ?_;rintro e w1 ⟨rfl,rfl⟩;generalize idxB ⟨#[45,91,93,92]⟩ c=z at *;go_wp2_with fail;go_ret;exact ⟨by rw [HP.out _ HQ.out];simp [h2,h3,hx'],rfl⟩
  ·go_enter Tryz.func219,Tryz.ntmps219
   go_wp2_with fail;go_ret;exact ⟨by rw [HP.out _ rfl];simp [h2];omega,rfl⟩
 ·go_enter Tryz.func219,Tryz.ntmps219
  go_wp2_with fail;go_ret;exact ⟨by rw [HP.out _ rfl];simp;omega,rfl⟩
set_option maxHeartbeats 400000 in
theorem zDm:zON 189 32 zBO:=by
 intro w c h0 h1
 have HP:Hid (∀q:Bool,zBL c zBO=q→zCU 32 zBO c=((decide (32≤c) && decide (c≤126)) && !q)):=by
  intro q e;rw [zCU,e]
 by_cases h2:32≤c
 ·by_cases h3:c≤126
  ·cases hq:zBL c zBO
   ·have hx:idxB zBO c= -1:=zKf h0 h1 hq
    have HQ:=hide hq;clear hq;go_enter Tryz.func189,Tryz.ntmps189;go_wp2_with fail;refine (zCB _ c).mono ?_;rintro e w1 ⟨rfl,rfl⟩;rw [show idxB ⟨#[47,124,42,43,63,40,41,91,93,46,92]⟩ c= -1 from hx];go_wp2_with fail;go_ret;exact ⟨by rw [HP.out _ HQ.out];simp [h2,h3],rfl⟩
   ·have hx:0≤idxB zBO c:=zIq h0 h1 hq
    have hx':¬idxB ⟨#[47,124,42,43,63,40,41,91,93,46,92]⟩ c<0:=by have:idxB ⟨#[47,124,42,43,63,40,41,91,93,46,92]⟩ c=idxB zBO c:=rfl;omega
    have HQ:=hide hq;clear hq hx;go_enter Tryz.func189,Tryz.ntmps189;go_wp2_with fail;refine (zCB _ c).mono ?_;rintro e w1 ⟨rfl,rfl⟩;generalize idxB ⟨#[47,124,42,43,63,40,41,91,93,46,92]⟩ c=z at *;go_wp2_with fail;go_ret;exact ⟨by rw [HP.out _ HQ.out];simp [h2,h3,hx'],rfl⟩
  ·go_enter Tryz.func189,Tryz.ntmps189
   go_wp2_with fail;go_ret;exact ⟨by rw [HP.out _ rfl];simp [h2];omega,rfl⟩
 ·go_enter Tryz.func189,Tryz.ntmps189
  go_wp2_with fail;go_ret;exact ⟨by rw [HP.out _ rfl];simp;omega,rfl⟩
def hexL:ByteArray:=⟨#[48,49,50,51,52,53,54,55,56,57,97,98,99,100,101,102]⟩
theorem hex_idx:∀n:Fin 256,idxB hexL (n.val:Int)=if zCk (n.val:Int) then hexV (n.val:Int) else -1:=by decide+kernel
theorem hex_idx'{c:Int}(h0:0≤c)(h1:c≤255):idxB hexL c=if zCk c then hexV c else -1:=by
 have:=hex_idx ⟨c.toNat,by omega⟩
 simpa [Int.toNat_of_nonneg h0] using this
def DigPost(w:World)(b:Nat)(S:ByteArray)(s:St)(v5 v6 v7:Value)(e:Ending)(w':World):Prop:=
 Ch [b] w w'∧((zCk (bt S s.i)=true∧e= .returned (.int .u8 (hexV (bt S s.i)))∧RdAt w' b S {s with i:=s.i+1} v5 v6 v7)∨(zCk (bt S s.i)=false∧Gone w' b S s.i e))
set_option maxHeartbeats 400000 in
theorem zDT{w:World}{b:Nat}{S:ByteArray}{s:St}{v5 v6 v7:Value}(h:RdAt w b S s v5 v6 v7)(hS:S.size≤400)(hi:s.i≤S.size):
  Calls Tryz.prog 213 #[.pointer (some ⟨b,0,none⟩)] w (DigPost w b S s v5 v6 v7):=by
 obtain ⟨c0,c1,c2,c3,c4,c5,c6,c7,fz⟩:=h.facts
 by_cases hlt:s.i<S.size
 ·have l2:(s.i:Int)<S.size:=by omega
  have l3:(s.i:Int)<400:=by omega
  have q:((s.i:Int)==S.size)=false:=by rw [beq_eq_false_iff_ne];omega
  have q':(s.i==S.size)=false:=by rw [beq_eq_false_iff_ne];omega
  have HB:Hid ((S[s.i].toNat:Int)=bt S s.i):=zCV hlt;have HX:=hide (hex_idx' (c:=(S[s.i].toNat:Int)) (by omega) (by have:=S[s.i].toNat_lt;omega));go_enter Tryz.func213,Tryz.ntmps213;go_wp2_with fail;go_quiet (fail);have h2:RdAt (w.drewN nq) b S s v5 v6 v7:=h;have g2:=Ch.drewN [b] w nq;generalize w.drewN nq=w2 at *;clear c0 c1 c2 c3 c4 c5 c6 c7 fz;obtain ⟨c0,c1,c2,c3,c4,c5,c6,c7,fz⟩:=h2.facts;go_wp2_with fail;go_quiet ((go_at_call 190;exact Calls.quiet_of_same (zCB _ _)));have h3:RdAt (w2.drewN nq) b S s v5 v6 v7:=h2;have g3:=g2.trans (Ch.drewN [b] w2 nq);generalize w2.drewN nq=w3 at *;clear c0 c1 c2 c3 c4 c5 c6 c7 fz;obtain ⟨c0,c1,c2,c3,c4,c5,c6,c7,fz⟩:=h3.facts;cases hx:zCk (bt S s.i)
  ·have hz:idxB ⟨#[48,49,50,51,52,53,54,55,56,57,97,98,99,100,101,102]⟩ (S[s.i].toNat:Int)= -1:=by
    have:=HX.out;rw [HB.out,hx] at this;rw [HB.out];exact this
   have HH:=hide hx;clear hx;rw [hz];go_wp2_with fail;refine (zAs h3).mono ?_;rintro e w4 ⟨hg,g4⟩;obtain ⟨rfl,ht⟩:=hg;exact zAF rfl ⟨g3.trans g4,Or.inr ⟨HH.out,⟨rfl,ht⟩⟩⟩
  ·have hz:idxB ⟨#[48,49,50,51,52,53,54,55,56,57,97,98,99,100,101,102]⟩ (S[s.i].toNat:Int)=hexV (bt S s.i):=by
    have:=HX.out;rw [HB.out,hx] at this;rw [HB.out];exact this
   have hb:=zCn hx;have HH:=hide hx;clear hx;rw [hz];generalize hz2:hexV (bt S s.i)=z at *;have HZ:=hide hz2;clear hz2
   have hn:¬z<0:=by omega
   have hwr:IntKind.u8.wrap z=z:=by rw [IntKind.wrap_u8];omega
   go_wp2_with fail;go_ret;exact ⟨g3.trans (Ch.setCell _ (by simp) _),Or.inl ⟨HH.out,by rw [HZ.out];rfl,h3.bump⟩⟩
 ·have q:((s.i:Int)==S.size)=true:=by rw [beq_iff_eq];omega
  have q':(s.i==S.size)=true:=by rw [beq_iff_eq];omega
  have HH:Hid (zCk (bt S s.i)=false):=by show _=_;rw [zDw (by omega)];rfl
  go_enter Tryz.func213,Tryz.ntmps213;go_wp2_with fail;go_quiet (fail);have h2:RdAt (w.drewN nq) b S s v5 v6 v7:=h;have g2:=Ch.drewN [b] w nq;generalize w.drewN nq=w2 at *;clear c0 c1 c2 c3 c4 c5 c6 c7 fz;go_wp2_with fail;refine (zAs h2).mono ?_;rintro e w4 ⟨hg,g4⟩;obtain ⟨rfl,ht⟩:=hg;exact zAF rfl ⟨g2.trans g4,Or.inr ⟨HH.out,⟨rfl,ht⟩⟩⟩
end Go.Proofs.YteobgfbgglfkbaaGreat
namespace Go.Proofs.YteobgfbgglfkbaaGreat
open Go.RowKit
attribute [local go_sem ↓] Go.wp_at_zero Go.wp_at_succ
def zET{α:Type}(w:World)(b:Nat)(S:ByteArray)(v5 v6 v7:Value)(val:α→Value→World→Prop)(r:Except Nat (α×St))(e:Ending)(w':World):Prop:=
 Ch [b] w w'∧((∃x s' v,r= .ok (x,s')∧e= .returned v∧val x v w'∧RdAt w' b S s' v5 v6 v7)∨(∃d,r= .error d∧Gone w' b S d e))
def isU8(c:Int)(v:Value)(_:World):Prop:=v= .int .u8 c
theorem hexOr0:∀x y:Fin 16,bits .or .u8 ((x.val:Int) * 16) (y.val:Int)=16 * (x.val:Int)+(y.val:Int):=by decide+kernel
theorem hexOr(x y:Int)(hx0:0≤x)(hx:x≤15)(hy0:0≤y)(hy:y≤15):bits .or .u8 (x * 16) y=16 * x+y:=by
 have:=hexOr0 ⟨x.toNat,by omega⟩ ⟨y.toNat,by omega⟩
 simpa [Int.toNat_of_nonneg hx0,Int.toNat_of_nonneg hy0] using this
set_option maxRecDepth 100000 in
set_option maxHeartbeats 1600000 in
theorem zHT{w:World}{b:Nat}{S:ByteArray}{s:St}{v5 v6 v7:Value}(h:RdAt w b S s v5 v6 v7)(hS:S.size≤400)(hi:s.i≤S.size):
  Calls Tryz.prog 193 #[.pointer (some ⟨b,0,none⟩),.func (.func 215) #[] #[]] w (zET w b S v5 v6 v7 isU8 (zAN S 32 zB2 s)):=by
 by_cases h92:bt S s.i=92
 ·go_enter Tryz.func193,Tryz.ntmps193
  go_wp2_with fail;refine (zBI h hS 92 (by decide) h92).mono ?_;rintro e w1 ⟨rfl,h1,g1⟩;have hlt:=zAu (S:=S) (i:=s.i) (by omega);go_wp2_with fail;refine (zDT h1 hS hlt).mono ?_;rintro e w2 ⟨g2,⟨hx,rfl,h2⟩ | ⟨hx,hg⟩⟩
  ·have hlt2:=zAu (S:=S) (i:=s.i+1) (zDU hx)
   have hb1:=zCn hx;have HX:=hide hx;have HB:=hide h92;clear hx h92;simp only at hb1;generalize hz1:hexV (bt S (s.i+1))=z1 at *;have HZ1:=hide hz1;clear hz1;go_wp2_with fail;refine (zDT h2 hS hlt2).mono ?_;rintro e w3 ⟨g3,⟨hy,rfl,h3⟩ | ⟨hy,hg⟩⟩
   ·have hb2:=zCn hy
    have HY:=hide hy;clear hy;simp only at hb2;generalize hz2:hexV (bt S (s.i+1+1))=z2 at *;have HZ2:=hide hz2;clear hz2;go_wp2_with fail;go_ret;refine ⟨g1.trans (g2.trans g3),Or.inl ⟨16 * z1+z2,_,.int .u8 (bits .or .u8 (z1 * 16) z2),?_,rfl,?_,h3⟩⟩
    ·have a:=HX.out
     have c:=HY.out
     try simp only at a c
     simp only [zAN,HB.out,if_true,a,show bt S (s.i+2)=bt S (s.i+1+1) from rfl,c,HZ1.out,HZ2.out]
    ·show Value.int .u8 _=Value.int .u8 _
     congr 1
     exact hexOr z1 z2 hb1.1 hb1.2 hb2.1 hb2.2
   ·have HY:=hide hy
    clear hy;obtain ⟨rfl,ht⟩:=hg;exact zAF rfl ⟨g1.trans (g2.trans g3),Or.inr ⟨s.i+2,by have a:=HX.out;have c:=HY.out;try simp only at a c;simp only [zAN,HB.out,if_true,a,show bt S (s.i+2)=bt S (s.i+1+1) from rfl,c];rfl,⟨rfl,ht⟩⟩⟩
  ·have HX:=hide hx
   have HB:=hide h92;clear hx h92;obtain ⟨rfl,ht⟩:=hg;exact zAF rfl ⟨g1.trans g2,Or.inr ⟨s.i+1,by have a:=HX.out;simp only at a;simp only [zAN,HB.out,if_true,a];rfl,⟨rfl,ht⟩⟩⟩
 ·go_enter Tryz.func193,Tryz.ntmps193
  go_wp2_with fail;refine (zA6 h hS hi 92 h92).mono ?_;rintro e w1 ⟨rfl,h1,g1⟩;have HB:=hide h92;clear h92;obtain ⟨c0,c1,c2,c3,c4,c5,c6,c7,fz⟩:=h1.facts
  by_cases hlt:s.i<S.size
  ·have l2:(s.i:Int)<S.size:=by omega
   have l3:(s.i:Int)<400:=by omega
   have q:((s.i:Int)==S.size)=false:=by rw [beq_eq_false_iff_ne];omega
   have q':(s.i==S.size)=false:=by rw [beq_eq_false_iff_ne];omega
   have HC:Hid ((S[s.i].toNat:Int)=bt S s.i):=zCV hlt
   have hbd:(S[s.i].toNat:Int)≤255:=by have:=S[s.i].toNat_lt;omega
   have HQ:Hid (zAN S 32 zB2 s=if zCU 32 zB2 (bt S s.i) then .ok (bt S s.i,{s with i:=s.i+1}) else .error s.i):=by
    show _=_
    simp only [zAN,if_neg HB.out,zCU]
    try rfl
   cases hp:zCU 32 zB2 (bt S s.i)
   ·have HP:=hide hp
    clear hp;go_wp2_with fail;go_quiet ((go_at_call 215;exact Calls.quiet_of_same (zFG _ _ (by omega) hbd)));have h2:RdAt (w1.drewN nq) b S s v5 v6 v7:=h1;have g2:=g1.trans (Ch.drewN [b] w1 nq);generalize w1.drewN nq=w2 at *;clear c0 c1 c2 c3 c4 c5 c6 c7 fz;rw [HC.out,HP.out];go_wp2_with fail;refine (zAs h2).mono ?_;rintro e w3 ⟨hg,g3⟩;obtain ⟨rfl,ht⟩:=hg;exact zAF rfl ⟨g2.trans g3,Or.inr ⟨s.i,by rw [HQ.out,HP.out];rfl,⟨rfl,ht⟩⟩⟩
   ·have HP:=hide hp
    clear hp;go_wp2_with fail;go_quiet ((go_at_call 215;exact Calls.quiet_of_same (zFG _ _ (by omega) hbd)));have h2:RdAt (w1.drewN nq) b S s v5 v6 v7:=h1;have g2:=g1.trans (Ch.drewN [b] w1 nq);generalize w1.drewN nq=w2 at *;clear c0 c1 c2 c3 c4 c5 c6 c7 fz;rw [HC.out,HP.out];obtain ⟨c0,c1,c2,c3,c4,c5,c6,c7,fz⟩:=h2.facts;go_wp2_with fail;have h3:=h2.bump;have g3:=g2.trans (Ch.setCell (X:=[b]) w2 (p:=⟨b,1,none⟩) (by simp) (.int .i64 ((s.i:Int)+1)));generalize w2.setCell ⟨b,1,none⟩ (.int .i64 ((s.i:Int)+1))=w3 at *;clear c0 c1 c2 c3 c4 c5 c6 c7 fz;obtain ⟨c0,c1,c2,c3,c4,c5,c6,c7,fz⟩:=h3.facts;simp only at c1
    have hsub:IntKind.i64.wrap ((((s.i+1:Nat):Int)) - 1)=(s.i:Int):=by rw [IntKind.wrap_i64];omega
    go_quiet (fail);go_wp2_with fail;go_ret;exact ⟨g3.trans (Ch.drewN _ _ _),Or.inl ⟨_,_,_,by rw [HQ.out,HP.out];rfl,rfl,by rw [← HC.out];rfl,h3⟩⟩
  ·have q:((s.i:Int)==S.size)=true:=by rw [beq_iff_eq];omega
   have q':(s.i==S.size)=true:=by rw [beq_iff_eq];omega
   have HQ:Hid (zAN S 32 zB2 s= .error s.i):=by
    show _=_
    simp only [zAN,if_neg HB.out];rw [zDw (by omega)]
    try rfl
   go_wp2_with fail;go_quiet (fail);have h2:RdAt (w1.drewN nq) b S s v5 v6 v7:=h1;have g2:=g1.trans (Ch.drewN [b] w1 nq);generalize w1.drewN nq=w2 at *;clear c0 c1 c2 c3 c4 c5 c6 c7 fz;go_wp2_with fail;refine (zAs h2).mono ?_;rintro e w3 ⟨hg,g3⟩;obtain ⟨rfl,ht⟩:=hg;exact zAF rfl ⟨g2.trans g3,Or.inr ⟨s.i,HQ.out,⟨rfl,ht⟩⟩⟩
set_option maxRecDepth 100000 in
set_option maxHeartbeats 1600000 in
theorem zD6{w:World}{b:Nat}{S:ByteArray}{s:St}{v5 v6 v7:Value}(h:RdAt w b S s v5 v6 v7)(hS:S.size≤400)(hi:s.i≤S.size):
  Calls Tryz.prog 193 #[.pointer (some ⟨b,0,none⟩),.func (.func 219) #[] #[]] w (zET w b S v5 v6 v7 isU8 (zAN S 33 zAf s)):=by
 by_cases h92:bt S s.i=92
 ·go_enter Tryz.func193,Tryz.ntmps193
  go_wp2_with fail;refine (zBI h hS 92 (by decide) h92).mono ?_;rintro e w1 ⟨rfl,h1,g1⟩;have hlt:=zAu (S:=S) (i:=s.i) (by omega);go_wp2_with fail;refine (zDT h1 hS hlt).mono ?_;rintro e w2 ⟨g2,⟨hx,rfl,h2⟩ | ⟨hx,hg⟩⟩
  ·have hlt2:=zAu (S:=S) (i:=s.i+1) (zDU hx)
   have hb1:=zCn hx;have HX:=hide hx;have HB:=hide h92;clear hx h92;simp only at hb1;generalize hz1:hexV (bt S (s.i+1))=z1 at *;have HZ1:=hide hz1;clear hz1;go_wp2_with fail;refine (zDT h2 hS hlt2).mono ?_;rintro e w3 ⟨g3,⟨hy,rfl,h3⟩ | ⟨hy,hg⟩⟩
   ·have hb2:=zCn hy
    have HY:=hide hy;clear hy;simp only at hb2;generalize hz2:hexV (bt S (s.i+1+1))=z2 at *;have HZ2:=hide hz2;clear hz2;go_wp2_with fail;go_ret;refine ⟨g1.trans (g2.trans g3),Or.inl ⟨16 * z1+z2,_,.int .u8 (bits .or .u8 (z1 * 16) z2),?_,rfl,?_,h3⟩⟩
    ·have a:=HX.out
     have c:=HY.out
     try simp only at a c
     simp only [zAN,HB.out,if_true,a,show bt S (s.i+2)=bt S (s.i+1+1) from rfl,c,HZ1.out,HZ2.out]
    ·show Value.int .u8 _=Value.int .u8 _
     congr 1
     exact hexOr z1 z2 hb1.1 hb1.2 hb2.1 hb2.2
   ·have HY:=hide hy
    clear hy;obtain ⟨rfl,ht⟩:=hg;exact zAF rfl ⟨g1.trans (g2.trans g3),Or.inr ⟨s.i+2,by have a:=HX.out;have c:=HY.out;try simp only at a c;simp only [zAN,HB.out,if_true,a,show bt S (s.i+2)=bt S (s.i+1+1) from rfl,c];rfl,⟨rfl,ht⟩⟩⟩
  ·have HX:=hide hx
   have HB:=hide h92;clear hx h92;obtain ⟨rfl,ht⟩:=hg;exact zAF rfl ⟨g1.trans g2,Or.inr ⟨s.i+1,by have a:=HX.out;simp only at a;simp only [zAN,HB.out,if_true,a];rfl,⟨rfl,ht⟩⟩⟩
 ·go_enter Tryz.func193,Tryz.ntmps193
  go_wp2_with fail;refine (zA6 h hS hi 92 h92).mono ?_;rintro e w1 ⟨rfl,h1,g1⟩;have HB:=hide h92;clear h92;obtain ⟨c0,c1,c2,c3,c4,c5,c6,c7,fz⟩:=h1.facts
  by_cases hlt:s.i<S.size
  ·have l2:(s.i:Int)<S.size:=by omega
   have l3:(s.i:Int)<400:=by omega
   have q:((s.i:Int)==S.size)=false:=by rw [beq_eq_false_iff_ne];omega
   have q':(s.i==S.size)=false:=by rw [beq_eq_false_iff_ne];omega
   have HC:Hid ((S[s.i].toNat:Int)=bt S s.i):=zCV hlt
   have hbd:(S[s.i].toNat:Int)≤255:=by have:=S[s.i].toNat_lt;omega
   have HQ:Hid (zAN S 33 zAf s=if zCU 33 zAf (bt S s.i) then .ok (bt S s.i,{s with i:=s.i+1}) else .error s.i):=by
    show _=_
    simp only [zAN,if_neg HB.out,zCU]
    try rfl
   cases hp:zCU 33 zAf (bt S s.i)
   ·have HP:=hide hp
    clear hp;go_wp2_with fail;go_quiet ((go_at_call 219;exact Calls.quiet_of_same (zEa _ _ (by omega) hbd)));have h2:RdAt (w1.drewN nq) b S s v5 v6 v7:=h1;have g2:=g1.trans (Ch.drewN [b] w1 nq);generalize w1.drewN nq=w2 at *;clear c0 c1 c2 c3 c4 c5 c6 c7 fz;rw [HC.out,HP.out];go_wp2_with fail;refine (zAs h2).mono ?_;rintro e w3 ⟨hg,g3⟩;obtain ⟨rfl,ht⟩:=hg;exact zAF rfl ⟨g2.trans g3,Or.inr ⟨s.i,by rw [HQ.out,HP.out];rfl,⟨rfl,ht⟩⟩⟩
   ·have HP:=hide hp
    clear hp;go_wp2_with fail;go_quiet ((go_at_call 219;exact Calls.quiet_of_same (zEa _ _ (by omega) hbd)));have h2:RdAt (w1.drewN nq) b S s v5 v6 v7:=h1;have g2:=g1.trans (Ch.drewN [b] w1 nq);generalize w1.drewN nq=w2 at *;clear c0 c1 c2 c3 c4 c5 c6 c7 fz;rw [HC.out,HP.out];obtain ⟨c0,c1,c2,c3,c4,c5,c6,c7,fz⟩:=h2.facts;go_wp2_with fail;have h3:=h2.bump;have g3:=g2.trans (Ch.setCell (X:=[b]) w2 (p:=⟨b,1,none⟩) (by simp) (.int .i64 ((s.i:Int)+1)));generalize w2.setCell ⟨b,1,none⟩ (.int .i64 ((s.i:Int)+1))=w3 at *;clear c0 c1 c2 c3 c4 c5 c6 c7 fz;obtain ⟨c0,c1,c2,c3,c4,c5,c6,c7,fz⟩:=h3.facts;simp only at c1
    have hsub:IntKind.i64.wrap ((((s.i+1:Nat):Int)) - 1)=(s.i:Int):=by rw [IntKind.wrap_i64];omega
    go_quiet (fail);go_wp2_with fail;go_ret;exact ⟨g3.trans (Ch.drewN _ _ _),Or.inl ⟨_,_,_,by rw [HQ.out,HP.out];rfl,rfl,by rw [← HC.out];rfl,h3⟩⟩
  ·have q:((s.i:Int)==S.size)=true:=by rw [beq_iff_eq];omega
   have q':(s.i==S.size)=true:=by rw [beq_iff_eq];omega
   have HQ:Hid (zAN S 33 zAf s= .error s.i):=by
    show _=_
    simp only [zAN,if_neg HB.out];rw [zDw (by omega)]
    try rfl
   go_wp2_with fail;go_quiet (fail);have h2:RdAt (w1.drewN nq) b S s v5 v6 v7:=h1;have g2:=g1.trans (Ch.drewN [b] w1 nq);generalize w1.drewN nq=w2 at *;clear c0 c1 c2 c3 c4 c5 c6 c7 fz;go_wp2_with fail;refine (zAs h2).mono ?_;rintro e w3 ⟨hg,g3⟩;obtain ⟨rfl,ht⟩:=hg;exact zAF rfl ⟨g2.trans g3,Or.inr ⟨s.i,HQ.out,⟨rfl,ht⟩⟩⟩
set_option maxRecDepth 100000 in
set_option maxHeartbeats 1600000 in
theorem zHV{w:World}{b:Nat}{S:ByteArray}{s:St}{v5 v6 v7:Value}(h:RdAt w b S s v5 v6 v7)(hS:S.size≤400)(hi:s.i≤S.size):
  Calls Tryz.prog 193 #[.pointer (some ⟨b,0,none⟩),.func (.func 189) #[] #[]] w (zET w b S v5 v6 v7 isU8 (zAN S 32 zBO s)):=by
 by_cases h92:bt S s.i=92
 ·go_enter Tryz.func193,Tryz.ntmps193
  go_wp2_with fail;refine (zBI h hS 92 (by decide) h92).mono ?_;rintro e w1 ⟨rfl,h1,g1⟩;have hlt:=zAu (S:=S) (i:=s.i) (by omega);go_wp2_with fail;refine (zDT h1 hS hlt).mono ?_;rintro e w2 ⟨g2,⟨hx,rfl,h2⟩ | ⟨hx,hg⟩⟩
  ·have hlt2:=zAu (S:=S) (i:=s.i+1) (zDU hx)
   have hb1:=zCn hx;have HX:=hide hx;have HB:=hide h92;clear hx h92;simp only at hb1;generalize hz1:hexV (bt S (s.i+1))=z1 at *;have HZ1:=hide hz1;clear hz1;go_wp2_with fail;refine (zDT h2 hS hlt2).mono ?_;rintro e w3 ⟨g3,⟨hy,rfl,h3⟩ | ⟨hy,hg⟩⟩
   ·have hb2:=zCn hy
    have HY:=hide hy;clear hy;simp only at hb2;generalize hz2:hexV (bt S (s.i+1+1))=z2 at *;have HZ2:=hide hz2;clear hz2;go_wp2_with fail;go_ret;refine ⟨g1.trans (g2.trans g3),Or.inl ⟨16 * z1+z2,_,.int .u8 (bits .or .u8 (z1 * 16) z2),?_,rfl,?_,h3⟩⟩
    ·have a:=HX.out
     have c:=HY.out
     try simp only at a c
     simp only [zAN,HB.out,if_true,a,show bt S (s.i+2)=bt S (s.i+1+1) from rfl,c,HZ1.out,HZ2.out]
    ·show Value.int .u8 _=Value.int .u8 _
     congr 1
     exact hexOr z1 z2 hb1.1 hb1.2 hb2.1 hb2.2
   ·have HY:=hide hy
    clear hy;obtain ⟨rfl,ht⟩:=hg;exact zAF rfl ⟨g1.trans (g2.trans g3),Or.inr ⟨s.i+2,by have a:=HX.out;have c:=HY.out;try simp only at a c;simp only [zAN,HB.out,if_true,a,show bt S (s.i+2)=bt S (s.i+1+1) from rfl,c];rfl,⟨rfl,ht⟩⟩⟩
  ·have HX:=hide hx
   have HB:=hide h92;clear hx h92;obtain ⟨rfl,ht⟩:=hg;exact zAF rfl ⟨g1.trans g2,Or.inr ⟨s.i+1,by have a:=HX.out;simp only at a;simp only [zAN,HB.out,if_true,a];rfl,⟨rfl,ht⟩⟩⟩
 ·go_enter Tryz.func193,Tryz.ntmps193
  go_wp2_with fail;refine (zA6 h hS hi 92 h92).mono ?_;rintro e w1 ⟨rfl,h1,g1⟩;have HB:=hide h92;clear h92;obtain ⟨c0,c1,c2,c3,c4,c5,c6,c7,fz⟩:=h1.facts
  by_cases hlt:s.i<S.size
  ·have l2:(s.i:Int)<S.size:=by omega
   have l3:(s.i:Int)<400:=by omega
   have q:((s.i:Int)==S.size)=false:=by rw [beq_eq_false_iff_ne];omega
   have q':(s.i==S.size)=false:=by rw [beq_eq_false_iff_ne];omega
   have HC:Hid ((S[s.i].toNat:Int)=bt S s.i):=zCV hlt
   have hbd:(S[s.i].toNat:Int)≤255:=by have:=S[s.i].toNat_lt;omega
   have HQ:Hid (zAN S 32 zBO s=if zCU 32 zBO (bt S s.i) then .ok (bt S s.i,{s with i:=s.i+1}) else .error s.i):=by
    show _=_
    simp only [zAN,if_neg HB.out,zCU]
    try rfl
   cases hp:zCU 32 zBO (bt S s.i)
   ·have HP:=hide hp
    clear hp;go_wp2_with fail;go_quiet ((go_at_call 189;exact Calls.quiet_of_same (zDm _ _ (by omega) hbd)));have h2:RdAt (w1.drewN nq) b S s v5 v6 v7:=h1;have g2:=g1.trans (Ch.drewN [b] w1 nq);generalize w1.drewN nq=w2 at *;clear c0 c1 c2 c3 c4 c5 c6 c7 fz;rw [HC.out,HP.out];go_wp2_with fail;refine (zAs h2).mono ?_;rintro e w3 ⟨hg,g3⟩;obtain ⟨rfl,ht⟩:=hg;exact zAF rfl ⟨g2.trans g3,Or.inr ⟨s.i,by rw [HQ.out,HP.out];rfl,⟨rfl,ht⟩⟩⟩
   ·have HP:=hide hp
    clear hp;go_wp2_with fail;go_quiet ((go_at_call 189;exact Calls.quiet_of_same (zDm _ _ (by omega) hbd)));have h2:RdAt (w1.drewN nq) b S s v5 v6 v7:=h1;have g2:=g1.trans (Ch.drewN [b] w1 nq);generalize w1.drewN nq=w2 at *;clear c0 c1 c2 c3 c4 c5 c6 c7 fz;rw [HC.out,HP.out];obtain ⟨c0,c1,c2,c3,c4,c5,c6,c7,fz⟩:=h2.facts;go_wp2_with fail;have h3:=h2.bump;have g3:=g2.trans (Ch.setCell (X:=[b]) w2 (p:=⟨b,1,none⟩) (by simp) (.int .i64 ((s.i:Int)+1)));generalize w2.setCell ⟨b,1,none⟩ (.int .i64 ((s.i:Int)+1))=w3 at *;clear c0 c1 c2 c3 c4 c5 c6 c7 fz;obtain ⟨c0,c1,c2,c3,c4,c5,c6,c7,fz⟩:=h3.facts;simp only at c1
    have hsub:IntKind.i64.wrap ((((s.i+1:Nat):Int)) - 1)=(s.i:Int):=by rw [IntKind.wrap_i64];omega
    go_quiet (fail);go_wp2_with fail;go_ret;exact ⟨g3.trans (Ch.drewN _ _ _),Or.inl ⟨_,_,_,by rw [HQ.out,HP.out];rfl,rfl,by rw [← HC.out];rfl,h3⟩⟩
  ·have q:((s.i:Int)==S.size)=true:=by rw [beq_iff_eq];omega
   have q':(s.i==S.size)=true:=by rw [beq_iff_eq];omega
   have HQ:Hid (zAN S 32 zBO s= .error s.i):=by
    show _=_
    simp only [zAN,if_neg HB.out];rw [zDw (by omega)]
    try rfl
   go_wp2_with fail;go_quiet (fail);have h2:RdAt (w1.drewN nq) b S s v5 v6 v7:=h1;have g2:=g1.trans (Ch.drewN [b] w1 nq);generalize w1.drewN nq=w2 at *;clear c0 c1 c2 c3 c4 c5 c6 c7 fz;go_wp2_with fail;refine (zAs h2).mono ?_;rintro e w3 ⟨hg,g3⟩;obtain ⟨rfl,ht⟩:=hg;exact zAF rfl ⟨g2.trans g3,Or.inr ⟨s.i,HQ.out,⟨rfl,ht⟩⟩⟩
end Go.Proofs.YteobgfbgglfkbaaGreat
