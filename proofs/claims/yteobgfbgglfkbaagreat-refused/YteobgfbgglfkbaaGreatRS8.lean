import Derived.Test.YteobgfbgglfkbaaGreatRS7
import Derived.Test.YteobgfbgglfkbaaGreatRP5
set_option maxHeartbeats 12800000
set_option maxRecDepth 100000
namespace Go.Proofs.YteobgfbgglfkbaaGreat
open Go.RowKit
attribute [local go_sem ↓] Go.wp_at_zero Go.wp_at_succ
section
variable {m:Nat} {nx hv:Nat->Nat->Bool} {l:Nat->Bool} {w:World} {X:List Nat} {W:Nat} {γ:List (Nat->Bool)}
theorem OX(h:jX m nx hv l w X W γ){s:Nat}{f:Nat->Bool}(hs:γ[s]? =some f):
 Calls Tryz.prog 130 #[.pointer (some ⟨W,0,none⟩),.int .i64 s] w fun e w'=>e= .returned (.bool (Yn l f))/\Ch [] w w':=by
 have HPl:Hd (∀w1,Ch [] w w1->Calls Tryz.prog 163 #[.pointer (some ⟨W,0,none⟩),.int .i64 s] w1 fun e w'=>∃q,e= .returned (zS q)/\zU q f/\Ch [] w1 w'):=fun w1 c=>KV (h.kp c (by simp)) hs
 obtain⟨P,g,Mt,Xm,sv,vs,st,hX,a1,a2,a3,a4,a5,a6,a7,a8⟩:=h.mem;obtain⟨cap,nq,hq,eq,b1,b2,b3,b4,b5,b6⟩:=a2;have HE:=zC b6;have HA1:=zC a1;have HB1:=zC b1;clear a3 a4 a5 a6 a7 a8 h hs hX b2 b3 b4 b5 b6;have n0:=a1.cl 0 (.pointer (some ⟨P,0,none⟩)) rfl;obtain⟨e0,e1,e2,e3⟩:=yL.ce b1
 have CL:Hd (∀W',Ch [] w W'->W'.cell? ⟨W,0,none⟩=some (.pointer (some ⟨P,0,none⟩))/\W'.cell? ⟨P,1025,none⟩=some (.int .u64 (eq 0))/\W'.cell? ⟨P,1026,none⟩=some (.int .u64 (eq 1))/\W'.cell? ⟨P,1027,none⟩=some (.int .u64 (eq 2))/\W'.cell? ⟨P,1028,none⟩=some (.int .u64 (eq 3))):=by
  intro W' c;have h1:=yL.ce (zE.kp HB1.o c (by simp));exact⟨(HA1.o.kp c (by simp)).cl 0 _ rfl,h1.1,h1.2.1,h1.2.2.1,h1.2.2.2⟩
 clear a1 b1;go_enter Tryz.func130,Tryz.ntmps130;go_wp2_with fail
 go_region_with (first|(go_at_call 163;refine(HPl.o _ (Ch.drew [] w)).mono ?_;rintro e w1 ⟨q,rfl,hq,c1⟩;have c01:=(Ch.drew [] w).trans c1;obtain⟨m0,m1,m2,m3,m4⟩:=CL.o _ c01;have HQ:=zC hq;clear hq;rw[show zS q= .agg #[.int .u64 (q 0),.int .u64 (q 1),.int .u64 (q 2),.int .u64 (q 3)]from rfl])|(go_at_call 73;refine(DX (q1:=q) (q2:=eq) HQ.o.1 HE.o.1).mono ?_;rintro e w2 ⟨rfl,c2⟩;rw[show zS (fun t=>q t &&& eq t)= .agg #[.int .u64 (q 0 &&& eq 0:Nat),.int .u64 (q 1 &&& eq 1:Nat),.int .u64 (q 2 &&& eq 2:Nat),.int .u64 (q 3 &&& eq 3:Nat)]from rfl])|(go_at_call 71;refine(EU (q:=fun t=>q t &&& eq t) (HQ.o.and HE.o)).mono ?_;rintro e w3 ⟨r,rfl,hr,c3⟩))
 all_goals
  go_wp2_with fail;go_ret;refine⟨?_,(c01.trans c2).trans c3⟩
  have:(!r)=Yn l f:=by
   rw[Bool.eq_iff_iff,Bool.not_eq_true',<- Bool.not_eq_true,hr];unfold Yn;simp[List.any_eq_true]
  rw[<- this];rfl
theorem jX.row(h:jX m nx hv l w X W γ){s:Nat}{f:Nat->Bool}(hs:γ[s]? =some f):∃P g cap,w.cell? ⟨W,0,none⟩=some (.pointer (some ⟨P,0,none⟩))/\w.cell? ⟨W,2,none⟩=some (.slice (some ⟨g,0,none⟩) γ.length cap)/\g∈X/\(∀j,w.frozen? ⟨g,j,none⟩=false)/\
 ∀b:UInt8,∃x:Nat,w.cell? ⟨g,s * 256+b.toNat,none⟩=some (.int .i64 x)/\(x=0\/γ[x]? =some (yG m nx hv f b))/\∀i:Nat,γ[i]? =some (yG m nx hv f b)->jX m nx hv l (w.setCell ⟨g,s * 256+b.toNat,none⟩ (.int .i64 i)) X W γ:=by
 obtain⟨P,pg,Mt,Xm,sv,vs,st,hX,a1,a2,a3,a4,a5,a6,a7,a8⟩:=h.mem;have hlt:s<γ.length:=(List.getElem?_eq_some_iff.1 hs).1
 obtain⟨g,cap,rfl⟩:∃g cap,sv= .slice (some ⟨g,0,none⟩) γ.length cap:=by
  rcases a6.2 with⟨_,h0⟩|⟨g,cap,cur,h,_⟩
  ·omega
  ·exact⟨g,cap,h⟩
 have hg:=a8.2.2.2.2.2 g rfl;refine⟨P,g,cap,a1.cl 0 _ rfl,a1.cl 2 _ rfl,by rw[hX];simp[Value.ownBlock],a6.frozenAt,fun b=>⟨st s b.toNat,?_,?_,fun i hi=>⟨⟨P,pg,Mt,Xm,.slice (some ⟨g,0,none⟩) γ.length cap,vs,fun i' c=>if i'=s/\c=b.toNat then i else st i' c,hX,?_,?_,?_,a4,a5,?_,?_,a8⟩,h.good,h.nodup⟩⟩⟩
 ·have:=b.toNat_lt
  rw[a6.cellAt (s * 256+b.toNat) (by omega),Qd hlt (by omega)]
 ·rcases a7 s b.toNat hlt b.toNat_lt with h1|⟨u,h1,h2⟩
  ·exact Or.inl h1
  ·rw[hs]at h1
   have:=Option.some.inj h1;subst this;exact Or.inr (by simpa using h2)
 ·exact a1.kp (Ch.setCell (X:=[g]) _ (by simp) _) (by simpa using Ne.symm hg.1)
 ·exact a2.kp (Ch.setCell (X:=[g]) _ (by simp) _) (by simpa using Ne.symm hg.2.1) (by simpa using Ne.symm hg.2.2.1)
 ·exact a3.kp (Ch.setCell (X:=[g]) _ (by simp) _) (fun k hk hx=>hg.2.2.2 (by have e:k=g:=(by simpa using hx);rw[<- e];exact hk))
 ·have:=(a6.stored (s * 256+b.toNat) (.int .i64 (i:Nat))).1
  rw[GH hlt b.toNat_lt]at this;exact this
 ·intro i' c hi' hc
  by_cases e:i'=s/\c=b.toNat
  ·simp only[if_pos e]
   refine Or.inr ⟨f,by rw[e.1];exact hs,?_⟩;rw[e.2]
   simpa using hi
  ·simp only[if_neg e]
   exact a7 i' c hi' hc
def Qw(m:Nat)(nx hv:Nat->Nat->Bool)(l:Nat->Bool)(w:World)(X:List Nat)(W:Nat)(γ:List (Nat->Bool))(f:Nat->Bool)(s:Nat)(w5:World)(X5:List Nat)(γ5:List (Nat->Bool)):Prop:=
 jX m nx hv l w5 X5 W γ5/\γ<+:γ5/\γ5[s]? =some f/\Ch X w w5/\∀q,q∈X5->q∈X\/w.heap.size<=q
theorem NM{α:Type}{a b:List α}(h:a<+:b){i:Nat}{x:α}(hi:a[i]? =some x):b[i]? =some x:=by
 obtain⟨c,rfl⟩:=h;have:=(List.getElem?_eq_some_iff.1 hi).1;rw[List.getElem?_append_left this];exact hi
theorem GC{m:Nat}{nx hv:Nat->Nat->Bool}(f:Nat->Bool){u:List UInt8}{j:Nat}(hj:j<u.length):yc (yG m nx hv) f (u.take (j+1))=yG m nx hv (yc (yG m nx hv) f (u.take j)) u[j]:=by
 rw[List.take_succ_eq_append_getElem hj,MS];rfl
theorem CQ{w w':World}(c:Ch [] w w'){b o:Nat}{v:Value}(h:w.cell? ⟨b,o,none⟩=some v):w'.cell? ⟨b,o,none⟩=some v:=by
 have hb:b<w.heap.size:=by
  rcases Nat.lt_or_ge b w.heap.size with h'|h'
  ·exact h'
  ·simp[World.cell?,Array.getElem?_eq_none h']at h
 have e:=c.block b hb (by simp);simp only[World.cell?,e]at *;exact h
theorem Ss(pf:Zs m nx hv){w5:World}{X5:List Nat}{γ5:List (Nat->Bool)}(h:jX m nx hv l w5 X5 W γ5){P:Nat}(hP:w5.cell? ⟨W,0,none⟩=some (.pointer (some ⟨P,0,none⟩))){f:Nat->Bool}{q:Nat->Nat}(hq:zU q f)(b:UInt8){W':World}(c:Ch [] w5 W'):
 Calls Tryz.prog 72 #[.pointer (some ⟨P,0,none⟩),zS q,.int .u8 (b.toNat)] W' fun e w'=>∃q',e= .returned (zS q')/\zU q' (yG m nx hv f b)/\Ch [] W' w':=by
 obtain⟨P',g,Mt,Xm,sv,vs,st,hX,a1,a2,a3⟩:=h.mem
 have e:P'=P:=by
  have:=a1.cl 0 (.pointer (some ⟨P',0,none⟩)) rfl;rw[hP]at this
  injection this with this
  injection this with this
  injection this with this
  injection this with this
  exact this.symm
 subst e;obtain⟨cap,nq,hq',eq,b1,b2,b3,b4,b5,b6⟩:=a2.kp c (by simp) (by simp);refine(GE b1 b2 (by have:=pf.le;omega) b4 b5 hq b.toNat b.toNat_lt).mono ?_;rintro r w' ⟨q',rfl,h1,h2⟩;refine⟨q',rfl,h1.congr (fun j _=> ?_),h2⟩;unfold yG
 cases e:Ya m nx hv f b.toNat j with
 |false=>simp
 |true=>simp[NF pf.closed _ _ e]
theorem He{w5 w9:World}{X5 X9:List Nat}{γ5 γ9:List (Nat->Bool)}{f f5:Nat->Bool}{s5 i:Nat}{b:UInt8}{g:Nat}(H5:Qw m nx hv l w X W γ f5 s5 w5 X5 γ5){W':World}(c5:Ch [] w5 W')(hpre:γ5<+:γ9)(hi:γ9[i]? =some f)(c9:Ch X5 W' w9)(s9:∀q,q∈X9->q∈X5\/W'.heap.size<=q)(hg:g∈X9)(hW:jX m nx hv l (w9.drew.setCell ⟨g,s5 * 256+b.toNat,none⟩ (.int .i64 i)) X9 W γ9):
 Qw m nx hv l w X W γ f i (w9.drew.setCell ⟨g,s5 * 256+b.toNat,none⟩ (.int .i64 i)) X9 γ9:=by
 have z5:=H5.2.2.2.1.size;have z:=c5.size
 have big:∀q,q∈X9->q∈X\/w.heap.size<=q:=fun q hq=>by
  rcases s9 q hq with h1|h1
  ·exact H5.2.2.2.2 q h1
  ·exact Or.inr (by omega)
 refine⟨hW,H5.2.1.trans hpre,hi,?_,big⟩;have c:Ch X w w9:=(H5.2.2.2.1.trans' c5 (by simp)).trans' c9 H5.2.2.2.2;exact(c.trans (Ch.drew _ _)).trans' (Ch.setCell (X:=[g]) _ (by simp) _) (fun k hk=>by have e:k=g:=(by simpa using hk);rw[e];exact big g hg)
theorem BH(pf:Zs m nx hv)(h:jX m nx hv l w X W γ){s:Nat}{f:Nat->Bool}(hs:γ[s]? =some f)(u:List UInt8)(hu:u.length<=1000000000):
 Calls Tryz.prog 127 #[.pointer (some ⟨W,0,none⟩),.int .i64 s,.string (zG u)] w (KJ m nx hv l w X W γ (yc (yG m nx hv) f u)):=by
 have HZ:=zC (yV u)
 have hsz:(zG u).size<=1000000000:=by rw[yV];exact hu
 have HPF:=zC pf;have HH:=zC h;have HS:=zC hs;clear h hs;go_enter Tryz.func127,Tryz.ntmps127;go_wp2_with fail
 go_loopw [1,11] (fun sp iv w5=>∃(j s5:Nat) (X5:List Nat) (γ5:List (Nat->Bool)),iv= .int .i64 j/\sp= .int .i64 s5/\j<=(zG u).size/\Hd (Qw m nx hv l w X W γ (yc (yG m nx hv) f (u.take j)) s5 w5 X5 γ5)) (fun _ iv _=>(zG u).size - (intOf iv).toNat)
 case atStart=>exact⟨0,s,X,γ,rfl,rfl,Nat.zero_le _,⟨HH.o,List.prefix_refl _,HS.o,Ch.refl _ _,fun q hq=>Or.inl hq⟩⟩
 case round=>
  generalize wr=w5 at *;obtain⟨j,s5,X5,γ5,rfl,rfl,hj,H5⟩:=hrel;have hg5:=H5.o.1.len HPF.o.le;have hlt5:s5<γ5.length:=(List.getElem?_eq_some_iff.1 H5.o.2.2.1).1
  by_cases hlt:(j:Int)<(zG u).size
  ·have hj2:j<u.length:=by have:=HZ.o;omega
   have hj0:(0:Int)<=j:=by omega
   obtain⟨b,hbu⟩:∃b,u[j]=b:=⟨_,rfl⟩
   have HX:∀h:j<(zG u).size,(zG u)[j]=b:=fun _=>by rw[<- hbu];first|rfl|(show(zG u).data[j]=_;simp[zG])
   obtain⟨P,g,cap,r0,r2,rg,rf,rb⟩:=H5.o.1.row H5.o.2.2.1;obtain⟨x,rx,hx,_⟩:=rb b;have hb:=b.toNat_lt
   have hb':((b.toNat:Nat):Int)<256:=by omega
   have hb0:(0:Int)<=(b.toNat:Nat):=by omega
   have hs0:(0:Int)<=s5:=by omega
   have hs1:(s5:Int)<γ5.length:=by omega
   have HR:Hd (yc (yG m nx hv) f (u.take (j+1))=yG m nx hv (yc (yG m nx hv) f (u.take j)) b):=by show _=_;rw[GC f hj2,hbu]
   clear hbu;have HRB:=zC rb;clear rb
   have e1:IntKind.i64.wrap ((j:Int)+1)=((j+1:Nat):Int):=by rw[IntKind.wrap_i64];omega
   have HXX:=zC hx
   have HPl:Hd (∀W',Ch [] w5 W'->Calls Tryz.prog 163 #[.pointer (some ⟨W,0,none⟩),.int .i64 s5] W' fun e w'=>∃q,e= .returned (zS q)/\zU q (yc (yG m nx hv) f (u.take j))/\Ch [] W' w'):=fun W' c=>KV (H5.o.1.kp c (by simp)) H5.o.2.2.1
   have HST:Hd (∀W',Ch [] w5 W'->∀q,zU q (yc (yG m nx hv) f (u.take j))->Calls Tryz.prog 72 #[.pointer (some ⟨P,0,none⟩),zS q,.int .u8 (b.toNat)] W' fun e w'=>∃q',e= .returned (zS q')/\zU q' (yG m nx hv (yc (yG m nx hv) f (u.take j)) b)/\Ch [] W' w'):=fun W' c q hq=>Ss HPF.o H5.o.1 r0 hq b c
   have HSP:Hd (∀W',Ch [] w5 W'->∀q,zU q (yG m nx hv (yc (yG m nx hv) f (u.take j)) b)->Calls Tryz.prog 162 #[.pointer (some ⟨W,0,none⟩),zS q] W' (KJ m nx hv l W' X5 W γ5 (yG m nx hv (yc (yG m nx hv) f (u.take j)) b))):=fun W' c q hq=>(DW HPF.o.le (H5.o.1.kp c (by simp)) hq Xb).mono (fun _ _ h=>h.walk)
   clear hx;go_wp2_with fail;go_region
   all_goals
    by_cases hx0:x=0
    ·subst hx0
     have cdd:Ch [] w5 w5.drew.drew:=(Ch.drew [] w5).trans (Ch.drew [] _);go_wp2_with fail
     go_region_with (first|(go_at_call 163;refine(HPl.o _ cdd).mono ?_;rintro e w6 ⟨q,rfl,hq,c6⟩;have c56:=cdd.trans c6;have HQ:=zC hq;clear hq;rw[show zS q= .agg #[.int .u64 (q 0),.int .u64 (q 1),.int .u64 (q 2),.int .u64 (q 3)]from rfl];have t0:=CQ c56 r0)|(go_at_call 72;refine(HST.o _ c56 _ HQ.o).mono ?_;rintro e w7 ⟨q7,rfl,hq7,c7⟩;have c57:=c56.trans c7;have HQ7:=zC hq7;clear hq7;rw[show zS q7= .agg #[.int .u64 (q7 0),.int .u64 (q7 1),.int .u64 (q7 2),.int .u64 (q7 3)]from rfl])|(go_at_call 162;refine(HSP.o _ c57 _ HQ7.o).mono ?_;rintro e w9 ⟨i9,X9,γ9,rfl,W9,pre9,get9,c9,s9⟩))
     all_goals
      have W9d:=W9.kp (Ch.drew [] w9) (by simp);have g9:=W9.len HPF.o.le;have get5:=NM pre9 H5.o.2.2.1;have hlt9:s5<γ9.length:=(List.getElem?_eq_some_iff.1 get5).1
      have hs9:(s5:Int)<γ9.length:=by omega
      obtain⟨P9,k9,cap9,p0,p2,pg,pff,pb⟩:=W9d.row get5;obtain⟨x9,px,_,pw⟩:=pb b
      have FIN:Hd (Qw m nx hv l w X W γ (yc (yG m nx hv) f (u.take (j+1))) i9 (w9.drew.setCell ⟨k9,s5 * 256+b.toNat,none⟩ (.int .i64 i9)) X9 γ9):=by
       show Qw _ _ _ _ _ _ _ _ _ _ _ _ _
       rw[HR.o];exact He H5.o c57 pre9 get9 c9 s9 pg (pw i9 get9)
      have p0':w9.cell? ⟨W,0,none⟩=some (.pointer (some ⟨P9,0,none⟩)):=p0;have p2':w9.cell? ⟨W,2,none⟩=some (.slice (some ⟨k9,0,none⟩) γ9.length cap9):=p2;have px':w9.cell? ⟨k9,s5 * 256+b.toNat,none⟩=some (.int .i64 x9):=px;have pf':∀j,w9.frozen? ⟨k9,j,none⟩=false:=pff;clear pw pb W9 W9d p0 p2 px pff;go_wp2_with fail;go_region
      all_goals
       go_wp2_with fail;exact⟨⟨j+1,i9,X9,γ9,by simp,rfl,by omega,FIN⟩,by simp[intOf];omega⟩
    ·have hx2:γ5[x]? =some (yG m nx hv (yc (yG m nx hv) f (u.take j)) b):=by
      rcases HXX.o with h1|h1
      ·exact absurd h1 hx0
      ·exact h1
     have hxi:¬(x:Int)=0:=by omega
     have FIN:Hd (Qw m nx hv l w X W γ (yc (yG m nx hv) f (u.take (j+1))) x w5.drew X5 γ5):=by
      show Qw _ _ _ _ _ _ _ _ _ _ _ _ _
      rw[HR.o];exact⟨H5.o.1.kp (Ch.drew [] w5) (by simp),H5.o.2.1,hx2,H5.o.2.2.2.1.trans (Ch.drew _ _),H5.o.2.2.2.2⟩
     clear hx2;go_wp2_with fail;exact⟨⟨j+1,x,X5,γ5,by simp,rfl,by omega,FIN⟩,by simp[intOf];omega⟩
  ·have e:j=u.length:=by have:=HZ.o;omega
   subst e;have H6:=H5;rw[List.take_length]at H6;go_wp2_with fail;go_ret;exact⟨s5,X5,γ5,rfl,H6.o⟩
end
def Q1(w:World)(Z:List Nat)(Ds:List zH)(pv ev:Value):Prop:=(∀b,b∈Z->b<w.heap.size)/\∀w':World,(∀b,b∈Z->w'.heap[b]? =w.heap[b]?)->j5 w' Ds 0 pv ev
theorem Q1.kp{w w':World}{Z Y:List Nat}{Ds:List zH}{pv ev:Value}(h:Q1 w Z Ds pv ev)(c:Ch Y w w')(hz:∀b,b∈Z->b∉Y):Q1 w' Z Ds pv ev:=
 ⟨fun b hb=>Nat.lt_of_lt_of_le (h.1 b hb) c.size,fun w2 h2=>h.2 w2 (fun b hb=>(h2 b hb).trans (c.block b (h.1 b hb) (hz b hb)))⟩
theorem Q1.v{w:World}{Z:List Nat}{Ds:List zH}{pv ev:Value}(h:Q1 w Z Ds pv ev):j5 w Ds 0 pv ev:=h.2 w (fun _ _=>rfl)
def ZI(w:World)(k:TypeId)(B:Nat)(G:Value->Value->Prop):Prop:=
 ∃(ls:List Value) (f:Value->Option Value),yx w k B ls.length f/\ls.Nodup/\(∀u,f u=none\/∃x,f u=some x/\G u x/\u∈ls)/\(∀u,u∈ls->f u≠none)
theorem ZI.kp{w w':World}{k:TypeId}{B:Nat}{G:Value->Value->Prop}{Y:List Nat}(h:ZI w k B G)(c:Ch Y w w')(hB:B∉Y):ZI w' k B G:=by
 obtain⟨ls,f,h1,h2⟩:=h;exact⟨ls,f,h1.kp c hB,h2⟩
theorem ZI.lt{w:World}{k:TypeId}{B:Nat}{G:Value->Value->Prop}(h:ZI w k B G):B<w.heap.size:=by
 obtain⟨ls,f,h1,h2⟩:=h;exact h1.lt
theorem ZI.look{w:World}{k t e:TypeId}{B:Nat}{G:Value->Value->Prop}(h:ZI w k B G)(K:Maps.Keyed Tryz.prog k)(ht:Tryz.prog.underlying t=some (.map k e)){z:Value}(hz:∀w,(zeroValue e).run Tryz.prog w= .ok z w){key:Value}(hkey:∃kl,keyOf Tryz.prog k key=some kl):
 (∃x,G key x/\∀w',Ch [] w w'->(Instr.lookup t (.map (some B)) key true).run Tryz.prog w'= .ok (.tuple #[x,.bool true]) w')\/
 (∀w',Ch [] w w'->(Instr.lookup t (.map (some B)) key true).run Tryz.prog w'= .ok (.tuple #[z,.bool false]) w'):=by
 obtain⟨ls,f,h1,h2,h3,h4⟩:=h
 rcases h3 key with h5|⟨x,h5,h6,_⟩
 ·refine Or.inr fun w' c=> ?_
  have:=(h1.kp c (by simp)).look K ht (hz w') hkey;rw[h5]at this;exact this
 ·refine Or.inl ⟨x,h6,fun w' c=> ?_⟩
  have:=(h1.kp c (by simp)).look K ht (hz w') hkey;rw[h5]at this;exact this
theorem ZI.store{w:World}{k t e:TypeId}{B:Nat}{G:Value->Value->Prop}(h:ZI w k B G)(K:Maps.Keyed Tryz.prog k)(ht:Tryz.prog.underlying t=some (.map k e)){z:Value}(hz:∀w,(zeroValue e).run Tryz.prog w= .ok z w){key:Value}(hkey:∃kl,keyOf Tryz.prog k key=some kl){x:Value}(hx:G key x)(num:Value->Nat)(N:Nat)(hN:N<maxLen)(hn:∀u x,G u x->num u<N)(hi:∀u x u' x',G u x->G u' x'->num u=num u'->u=u')
 (hno:∀w',Ch [] w w'->(Instr.lookup t (.map (some B)) key true).run Tryz.prog w'= .ok (.tuple #[z,.bool false]) w'):
 ∃w',(Instr.mapUpdate t (.map (some B)) key x).run Tryz.prog w= .ok () w'/\ZI w' k B G/\Ch [B] w w'/\∀w2,Ch [] w' w2->(Instr.lookup t (.map (some B)) key false).run Tryz.prog w2= .ok x w2:=by
 obtain⟨ls,f,h1,h2,h3,h4⟩:=h
 have hf:f key=none:=by
  have a1:=h1.look K ht (hz w) hkey;rw[hno w (Ch.refl _ _)]at a1
  cases e:f key with
  |none=>rfl
  |some y=>
   rw[e]at a1;have a2:=Result.ok.inj a1;have a3:=congrArg (fun v=>match v with|Value.tuple cs=>cs[1]?|_=>none) a2.1;simp at a3
 have hg:∀u,u∈ls->∃y,G u y:=fun u hu=>by
  rcases h3 u with h|⟨y,_,h,_⟩
  ·exact absurd h (h4 u hu)
  ·exact⟨y,h⟩
 have hlen:ls.length<=N:=Wv h2 num N (fun u hu=>by obtain⟨y,hy⟩:=hg u hu;exact hn u y hy) (fun u v hu hv e=>by
  obtain⟨y,hy⟩:=hg u hu;obtain⟨y',hy'⟩:=hg v hv
  exact hi u y v y' hy hy' e)
 have hkn:key∉ls:=fun hk=>h4 key hk hf
 have ST:∃f':Value->Option Value,f' key=some x/\∀u,u≠key->f' u=f u:=by
  classical
  exact⟨fun u=>if u=key then some x else f u,by simp,fun u hu=>by simp[hu]⟩
 obtain⟨f',f1,f2⟩:=ST;obtain⟨w',hr,hM,hc⟩:=h1.store K ht (by omega) hkey x f1 f2;refine⟨w',hr,⟨ls++[key],f',by rw[List.length_append];exact hM,?_,?_,?_⟩,hc,fun w2 c2=> ?_⟩
 ·rw[List.nodup_append]
  refine⟨h2,by simp,fun a ha b hb=> ?_⟩
  have:b=key:=by simpa using hb
  subst this
  exact fun e=>hkn (e ▸ ha)
 ·intro u
  by_cases e:u=key
  ·subst e
   exact Or.inr ⟨x,f1,hx,by simp⟩
  ·rw[f2 u e]
   rcases h3 u with h|⟨y,a1,a2,a3⟩
   ·exact Or.inl h
   ·exact Or.inr ⟨y,a1,a2,by simp[a3]⟩
 ·intro u hu
  by_cases e:u=key
  ·rw[e,f1];simp
  ·rw[f2 u e]
   refine h4 u ?_
   rcases List.mem_append.1 hu with h|h
   ·exact h
   ·exact absurd (by simpa using h) e
 ·have:=(hM.kp c2 (by simp)).look1 K ht (hz w2) hkey
  rw[f1]at this;exact this
def VV(Ds:List zH)(u x:Value):Prop:=∃(h0 h1 h2 k0 k1 k2:Nat) (b:UInt8) (o:List UInt8),h0<256/\h1<256/\h2<256/\u= .agg #[.int .u8 h0,.int .u8 h1,.int .u8 h2,.int .u8 (b.toNat)]/\zT Ds [h0,h1,h2] [b]=([k0,k1,k2],o)/\x= .agg #[.int .u8 k0,.int .u8 k1,.int .u8 k2,.string (zG o)]
def Vs(Ds:List zH)(u x:Value):Prop:=∃(h0 h1 h2:Nat) (s:Value) (k0 k1 k2:Int),h0<256/\h1<256/\h2<256/\u= .agg #[.int .u8 h0,.int .u8 h1,.int .u8 h2]/\s= .string (zG (yE Ds [h0,h1,h2]))/\x= .agg #[.int .u8 k0,.int .u8 k1,.int .u8 k2,s]
def Zw(u:Value):Nat:=u.cells.toList.foldl (fun n v=>n * 256+(intOf v).toNat) 0
theorem OJ{Ds:List zH}:(∀u x,VV Ds u x->Zw u<4294967296)/\∀u x u' x',VV Ds u x->VV Ds u' x'->Zw u=Zw u'->u=u':=by
 constructor
 ·rintro u x ⟨h0,h1,h2,k0,k1,k2,b,o,a0,a1,a2,rfl,_⟩
  have:=b.toNat_lt;simp[Zw,Value.cells,intOf];omega
 ·rintro u x u' x' ⟨h0,h1,h2,k0,k1,k2,b,o,a0,a1,a2,rfl,_⟩ ⟨h0',h1',h2',k0',k1',k2',b',o',a0',a1',a2',rfl,_⟩ e
  have:=b.toNat_lt;have:=b'.toNat_lt;simp[Zw,Value.cells,intOf]at e
  have e0:h0=h0':=by omega
  have e1:h1=h1':=by omega
  have e2:h2=h2':=by omega
  have e3:b.toNat=b'.toNat:=by omega
  rw[e0,e1,e2,e3]
theorem aS{Ds:List zH}:(∀u x,Vs Ds u x->Zw u<4294967296)/\∀u x u' x',Vs Ds u x->Vs Ds u' x'->Zw u=Zw u'->u=u':=by
 constructor
 ·rintro u x ⟨h0,h1,h2,s,k0,k1,k2,a0,a1,a2,rfl,_⟩
  simp[Zw,Value.cells,intOf];omega
 ·rintro u x u' x' ⟨h0,h1,h2,s,k0,k1,k2,a0,a1,a2,rfl,_⟩ ⟨h0',h1',h2',s',k0',k1',k2',a0',a1',a2',rfl,_⟩ e
  simp[Zw,Value.cells,intOf]at e
  have e0:h0=h0':=by omega
  have e1:h1=h1':=by omega
  have e2:h2=h2':=by omega
  rw[e0,e1,e2]
def jP(Ds:List zH)(w:World)(X:List Nat)(r:Nat):Prop:=
 ∃pv ev B1 B2 Z,X=r:: B1:: B2:: Z/\zE w r #[pv,ev,.map (some B1),.map (some B2)] 274/\Q1 w Z Ds pv ev/\ZI w 282 B1 (VV Ds)/\ZI w 122 B2 (Vs Ds)/\r∉Z/\B1∉Z/\B2∉Z/\r≠B1/\r≠B2/\B1≠B2
theorem jP.kp{Ds:List zH}{w w':World}{X Y:List Nat}{r:Nat}(h:jP Ds w X r)(c:Ch Y w w')(hX:∀k,k∈X->k∉Y):jP Ds w' X r:=by
 obtain⟨pv,ev,B1,B2,Z,rfl,a1,a2,a3,a4,a5⟩:=h;exact⟨pv,ev,B1,B2,Z,rfl,a1.kp c (hX r (by simp)),a2.kp c (fun b hb=>hX b (by simp[hb])),a3.kp c (hX B1 (by simp)),a4.kp c (hX B2 (by simp)),a5⟩
theorem jP.lt{Ds:List zH}{w:World}{X:List Nat}{r:Nat}(h:jP Ds w X r):∀k,k∈X->k<w.heap.size:=by
 obtain⟨pv,ev,B1,B2,Z,rfl,a1,a2,a3,a4,a5⟩:=h;intro k hk;simp only[List.mem_cons]at hk
 rcases hk with rfl|rfl|rfl|hk
 ·exact a1.lt
 ·exact a3.lt
 ·exact a4.lt
 ·exact a2.1 k hk
theorem US(w:World):(zeroValue 229).run Tryz.prog w= .ok (.agg #[.int .u8 0,.int .u8 0,.int .u8 0,.string ⟨#[]⟩]) w:=by kernel_rfl
theorem Mf{w:World}{B b:Nat}{l:List UInt8}(h:yi w B b l)(hB:B<=w.heap.size):
 Calls Tryz.prog 46 #[.pointer (some ⟨b,0,none⟩)] w fun e w'=>e= .returned (.string (zG l))/\yi w' B b l/\Fr B b b w w':=by
 refine(Any.Builder_String_any_k Np Ux B b l w h hB).mono ?_;rintro e w' ⟨rfl,h1,h2,h3⟩;exact⟨rfl,h1,Fr.of b h2 h3⟩
theorem Fr.ch0{w w1 w2:World}{st b:Nat}(c:Ch [] w w1)(f:Fr w.heap.size st b w1 w2):Ch [] w w2:=
 ⟨f.1.os.trans c.os,f.1.tape.trans c.tape,f.1.output.trans c.output,Nat.le_trans c.size f.1.size,fun k hk hx=>(f.1.block k hk).trans (c.block k hk hx)⟩
theorem zE.fill4{w5:World}{H:Nat}{x0 x1 x2 x3:Value}{T:TypeId}(R:zE w5 H #[x0,x1,x2,x3] T)(y0 y1 y2 y3:Value):
 zE ((((w5.setCell ⟨H,0,none⟩ y0).setCell ⟨H,1,none⟩ y1).setCell ⟨H,2,none⟩ y2).setCell ⟨H,3,none⟩ y3) H #[y0,y1,y2,y3] T/\Ch [H] w5 ((((w5.setCell ⟨H,0,none⟩ y0).setCell ⟨H,1,none⟩ y1).setCell ⟨H,2,none⟩ y2).setCell ⟨H,3,none⟩ y3):=by
 have r:=(((R.set 0 y0).set 1 y1).set 2 y2).set 3 y3;refine⟨by simpa using r,(((Ch.setCell _ (by simp) _).trans (Ch.setCell _ (by simp) _)).trans (Ch.setCell _ (by simp) _)).trans (Ch.setCell _ (by simp) _)⟩
theorem Xh{Ds:List zH}(hF:yo Ds){h0 h1 h2:Nat}(hh:j7 Ds [h0,h1,h2])(b:UInt8):∃k0 k1 k2 o,zT Ds [h0,h1,h2] [b]=([k0,k1,k2],o)/\j7 Ds [k0,k1,k2]/\o.length<=1728:=by
 have e1:=Vx Ds [h0,h1,h2] [b];have e2:=QO Ds _ [b] hF.1 hh;generalize zT Ds [h0,h1,h2] [b]=q at *;obtain⟨ks,o⟩:=q;have hl:ks.length=3:=e1
 obtain⟨k0,k1,k2,rfl⟩:∃k0 k1 k2,ks=[k0,k1,k2]:=by
  match ks,hl with
  |[k0,k1,k2],_=>exact⟨k0,k1,k2,rfl⟩
 refine⟨k0,k1,k2,o,rfl,e2.1,?_⟩;have h3:o.length<=12 ^ Ds.length * 1:=e2.2.2;have h4:12 ^ Ds.length<=12 ^ 3:=Nat.pow_le_pow_right (by omega) hF.2;omega
theorem Ot{Ds:List zH}{h0 h1 h2:Nat}{b:UInt8}{k0 k1 k2:Nat}{o:List UInt8}(hfd:zT Ds [h0,h1,h2] [b]=([k0,k1,k2],o)){x:Value}(h:VV Ds (.agg #[.int .u8 h0,.int .u8 h1,.int .u8 h2,.int .u8 (b.toNat)]) x):x= .agg #[.int .u8 k0,.int .u8 k1,.int .u8 k2,.string (zG o)]:=by
 obtain⟨h0',h1',h2',k0',k1',k2',b',o',_,_,_,e,hf,rfl⟩:=h;simp only[Value.agg.injEq]at e;have e:=congrArg Array.toList e;simp at e;obtain⟨e1,e2,e3,e4⟩:=e
 have e1:h0'=h0:=by omega
 have e2:h1'=h1:=by omega
 have e3:h2'=h2:=by omega
 subst e1 e2 e3;have:b'=b:=UInt8.toNat_inj.1 (by omega);subst this;rw[hfd]at hf;simp only[Prod.mk.injEq,List.cons.injEq,and_true]at hf;obtain⟨⟨rfl,rfl,rfl⟩,rfl⟩:=hf;rfl
theorem K5{Ds:List zH}(hF:yo Ds){w:World}{X:List Nat}{r:Nat}(h:jP Ds w X r){h0 h1 h2:Nat}(b0:h0<256)(b1:h1<256)(b2:h2<256)(hh:j7 Ds [h0,h1,h2])(b:UInt8){k0 k1 k2:Nat}{o:List UInt8}(hfd:zT Ds [h0,h1,h2] [b]=([k0,k1,k2],o))(ho:o.length<=1000000):
 Calls Tryz.prog 126 #[.pointer (some ⟨r,0,none⟩),.agg #[.int .u8 h0,.int .u8 h1,.int .u8 h2],.int .u8 (b.toNat)] w fun e w'=>e= .returned (.agg #[.int .u8 k0,.int .u8 k1,.int .u8 k2,.string (zG o)])/\jP Ds w' X r/\Ch X w w':=by
 have HH:=zC h;have hXl:=h.lt;obtain⟨pv,ev,B1,B2,Z,hX,a1,a2,a3,a4,a5,a6,a7,a8,a9,a10⟩:=h;obtain⟨pn,pm,pc,pd,rfl,rfl,pe,pe'⟩:=a2.v.funcs;have hrl:=a1.lt;have X0:=zE.new w #[.int .u8 h0,.int .u8 h1,.int .u8 h2] 122;have g0:=Ch.alloc [] w (.cells #[.int .u8 h0,.int .u8 h1,.int .u8 h2] 122)
 have z0:(w.alloc (.cells #[.int .u8 h0,.int .u8 h1,.int .u8 h2] 122)).heap.size=w.heap.size+1:=by simp
 generalize hw0:w.alloc (.cells #[.int .u8 h0,.int .u8 h1,.int .u8 h2] 122)=w0 at *;have X1:=zE.new w0 #[.int .u8 0,.int .u8 0,.int .u8 0,.string ⟨#[]⟩] 229;have g1:=Ch.alloc [] w0 (.cells #[.int .u8 0,.int .u8 0,.int .u8 0,.string ⟨#[]⟩] 229)
 have z1:(w0.alloc (.cells #[.int .u8 0,.int .u8 0,.int .u8 0,.string ⟨#[]⟩] 229)).heap.size=w0.heap.size+1:=by simp
 have X01:=X0.kp g1 (by simp);generalize hw1:w0.alloc (.cells #[.int .u8 0,.int .u8 0,.int .u8 0,.string ⟨#[]⟩] 229)=w1 at *;have c0:=X01.cl 0 (.int .u8 h0) rfl;have c1:=X01.cl 1 (.int .u8 h1) rfl;have c2:=X01.cl 2 (.int .u8 h2) rfl;have HA:=zC a1;have HC:=zC a2;have HS:=zC a3;have HE:=zC a4;have HX:=zC hX;have HX01:=zC X01;have HX1:=zC X1;have HF:=zC hF;have HHH:=zC hh;have HFD:=zC hfd;clear a1 a2 a3 a4 hX X0 X1 X01 hF hh hfd;go_enter Tryz.func126,Tryz.ntmps126;go_wp2_with fail;have X2:=zE.new w1 #[.int .u8 h0,.int .u8 h1,.int .u8 h2,.int .u8 (b.toNat)] 282;have g2:=Ch.alloc [] w1 (.cells #[.int .u8 h0,.int .u8 h1,.int .u8 h2,.int .u8 (b.toNat)] 282)
 have z2:(w1.alloc (.cells #[.int .u8 h0,.int .u8 h1,.int .u8 h2,.int .u8 (b.toNat)] 282)).heap.size=w1.heap.size+1:=by simp
 have G2:=zC ((g0.trans g1).trans g2);have HX02:=zC (HX01.o.kp g2 (by simp));have HX12:=zC (HX1.o.kp g2 (by simp));have A2:=HA.o.kp G2.o (by simp);clear c0 c1 c2;generalize w1.alloc (.cells #[.int .u8 h0,.int .u8 h1,.int .u8 h2,.int .u8 (b.toNat)] 282)=w2 at *;have d0:=X2.cl 0 (.int .u8 h0) rfl;have d1:=X2.cl 1 (.int .u8 h1) rfl;have d2:=X2.cl 2 (.int .u8 h2) rfl;have d3:=X2.cl 3 (.int .u8 (b.toNat)) rfl;have r1:=A2.cl 2 (.map (some B1)) rfl;have HX2:=zC X2;have HA2:=zC A2;have HKEY:=zC (Pe (a:=h0) (b:=h1) (c:=h2) (l:=(b.toNat:Nat)) (by omega) (by omega) (by omega) (by have:=b.toNat_lt;omega));clear X2 A2;rw[z1,z0]at d0 d1 d2 d3
 rcases HS.o.look LI Tryz.underlying271 US HKEY.o with⟨x,hx,lk⟩|lk
 ·have hx':=Ot HFD.o hx
  subst hx';have g3:=Ch.alloc [] w2 (.cells #[.int .u8 0,.int .u8 0,.int .u8 0,.string ⟨#[]⟩] 229);have X3:=zE.new w2 #[.int .u8 0,.int .u8 0,.int .u8 0,.string ⟨#[]⟩] 229
  have z3:(w2.alloc (.cells #[.int .u8 0,.int .u8 0,.int .u8 0,.string ⟨#[]⟩] 229)).heap.size=w2.heap.size+1:=by simp
  generalize hw3:w2.alloc (.cells #[.int .u8 0,.int .u8 0,.int .u8 0,.string ⟨#[]⟩] 229)=w3 at *;have lk2:=lk _ (G2.o.trans (Ch.drew [] w2));have lk3:=lk _ ((G2.o.trans g3).trans (Ch.drew [] w3));have Y2:=HX2.o.kp g3 (by simp);have YA:=HA2.o.kp g3 (by simp);rw[z1,z0]at Y2;have d0':=Y2.cl 0 (.int .u8 h0) rfl;have d1':=Y2.cl 1 (.int .u8 h1) rfl;have d2':=Y2.cl 2 (.int .u8 h2) rfl;have d3':=Y2.cl 3 (.int .u8 (b.toNat)) rfl;have r1':=YA.cl 2 (.map (some B1)) rfl;rw[z2,z1,z0]at X3;have xf:=X3.fz;have x0:=X3.cl 0 (.int .u8 0) rfl;have x1:=X3.cl 1 (.int .u8 0) rfl;have x2:=X3.cl 2 (.int .u8 0) rfl;have x3:=X3.cl 3 (.string ⟨#[]⟩) rfl;have X13:=HX12.o.kp g3 (by simp);obtain⟨X4,g4⟩:=X3.fill4 (.int .u8 k0) (.int .u8 k1) (.int .u8 k2) (.string (zG o));rw[z0]at X13;have X14:=X13.kp g4 (by simp);obtain⟨X5,g5⟩:=X14.fill4 (.int .u8 k0) (.int .u8 k1) (.int .u8 k2) (.string (zG o));have G5:=zC (((G2.o.trans g3).trans' g4 (by simp;omega)).trans' g5 (by simp));have v0:=X4.cl 0 (.int .u8 k0) rfl;have v1:=X4.cl 1 (.int .u8 k1) rfl;have v2:=X4.cl 2 (.int .u8 k2) rfl;have v3:=X4.cl 3 (.string (zG o)) rfl;have u0:=X14.cl 0 (.int .u8 0) rfl;have u1:=X14.cl 1 (.int .u8 0) rfl;have u2:=X14.cl 2 (.int .u8 0) rfl;have u3:=X14.cl 3 (.string ⟨#[]⟩) rfl;have uf:=X14.fz;have y0:=X5.cl 0 (.int .u8 k0) rfl;have y1:=X5.cl 1 (.int .u8 k1) rfl;have y2:=X5.cl 2 (.int .u8 k2) rfl;have y3:=X5.cl 3 (.string (zG o)) rfl;clear lk hx Y2 YA X3 X4 X13 X14 X5 g4 g5;go_region
  all_goals
   clear x0 x1 x2 x3 xf d0 d1 d2 d3 d0' d1' d2' d3';generalize hw4:(((w3.setCell ⟨w.heap.size+1+1+1,0,none⟩ (.int .u8 k0)).setCell ⟨w.heap.size+1+1+1,1,none⟩ (.int .u8 k1)).setCell ⟨w.heap.size+1+1+1,2,none⟩ (.int .u8 k2)).setCell ⟨w.heap.size+1+1+1,3,none⟩ (.string (zG o))=w4 at *;go_wp2_with fail;generalize (((w4.setCell ⟨w.heap.size+1,0,none⟩ (.int .u8 k0)).setCell ⟨w.heap.size+1,1,none⟩ (.int .u8 k1)).setCell ⟨w.heap.size+1,2,none⟩ (.int .u8 k2)).setCell ⟨w.heap.size+1,3,none⟩ (.string (zG o))=w5 at *;refine bodyPost_ret (v:= .agg #[.int .u8 k0,.int .u8 k1,.int .u8 k2,.string (zG o)]) ?_ rfl ⟨rfl,HH.o.kp (G5.o.trans (Ch.drew [] w5)) (by simp),(G5.o.trans (Ch.drew [] w5)).mono (by simp)⟩;simp[results,Tryz.results126,go_sem,y0,y1,y2,y3]
 ·have g3:=Ch.alloc [] w2 (.cells #[.int .u8 0,.int .u8 0,.int .u8 0,.string ⟨#[]⟩] 229)
  have X3:=zE.new w2 #[.int .u8 0,.int .u8 0,.int .u8 0,.string ⟨#[]⟩] 229
  have z3:(w2.alloc (.cells #[.int .u8 0,.int .u8 0,.int .u8 0,.string ⟨#[]⟩] 229)).heap.size=w2.heap.size+1:=by simp
  generalize hw3:w2.alloc (.cells #[.int .u8 0,.int .u8 0,.int .u8 0,.string ⟨#[]⟩] 229)=w3 at *;have lk2:=lk _ (G2.o.trans (Ch.drew [] w2));have lk3:=lk _ ((G2.o.trans g3).trans (Ch.drew [] w3));have Y2:=HX2.o.kp g3 (by simp);have YA:=HA2.o.kp g3 (by simp);rw[z1,z0]at Y2;have d0':=Y2.cl 0 (.int .u8 h0) rfl;have d1':=Y2.cl 1 (.int .u8 h1) rfl;have d2':=Y2.cl 2 (.int .u8 h2) rfl;have d3':=Y2.cl 3 (.int .u8 (b.toNat)) rfl;have r1':=YA.cl 2 (.map (some B1)) rfl;rw[z2,z1,z0]at X3;have xf:=X3.fz;have x0:=X3.cl 0 (.int .u8 0) rfl;have x1:=X3.cl 1 (.int .u8 0) rfl;have x2:=X3.cl 2 (.int .u8 0) rfl;have x3:=X3.cl 3 (.string ⟨#[]⟩) rfl;obtain⟨X4,g4⟩:=X3.fill4 (.int .u8 0) (.int .u8 0) (.int .u8 0) (.string ⟨#[]⟩);have G4:=zC ((G2.o.trans g3).trans' g4 (by simp;omega));have X04:=(HX02.o.kp g3 (by simp)).kp g4 (by simp;omega);have X13:=(HX12.o.kp g3 (by simp));rw[z0]at X13;have X14:=X13.kp g4 (by simp);have X24:=Y2.kp g4 (by simp);have A4:=YA.kp g4 (by simp;omega);have HLK:=zC lk;clear lk Y2 YA X13 X4;go_region
  all_goals
   clear x0 x1 x2 x3 xf d0 d1 d2 d3 d0' d1' d2' d3' lk2 lk3 r1 r1' X3;generalize hw4:(((w3.setCell ⟨w.heap.size+1+1+1,0,none⟩ (.int .u8 0)).setCell ⟨w.heap.size+1+1+1,1,none⟩ (.int .u8 0)).setCell ⟨w.heap.size+1+1+1,2,none⟩ (.int .u8 0)).setCell ⟨w.heap.size+1+1+1,3,none⟩ (.string ⟨#[]⟩)=w4 at *
   have z4:w4.heap.size=w.heap.size+1+1+1+1:=by have:w4.heap.size=w3.heap.size:=(by rw[<- hw4];simp);omega
   have g5:=Ch.alloc [] w4 (.cells #[.pointer none,.slice none 0 0] 126);have I5:=MZ w4 (B:=w.heap.size) (by omega);have X05:=X04.kp g5 (by simp);have X15:=X14.kp g5 (by simp);have X25:=X24.kp g5 (by simp);have A5:=A4.kp g5 (by simp);have G5:=zC (G4.o.trans g5)
   have z5:(w4.alloc (.cells #[.pointer none,.slice none 0 0] 126)).heap.size=w4.heap.size+1:=by simp
   generalize hw5:w4.alloc (.cells #[.pointer none,.slice none 0 0] 126)=w5 at *;have r0:=A5.cl 0 (.func (.func pn) #[] pc) rfl;have G5d:=zC (G5.o.trans (Ch.drew [] w5));have PUT:=Md Ds 0 pn pc HF.o.1 (by have:=HF.o.2;omega) w5.drew (.func (.func pm) #[] pd) w.heap.size w.heap.size w4.heap.size [] [h0,h1,h2] [] b (HC.o.kp G5d.o (by simp)).v rfl HHH.o ⟨X05,rfl⟩ (I5.kp (Ch.drew [] w5) (by simp) (by simp)) (Nat.le_refl _) (by rw[HFD.o];simp;omega);rw[HFD.o,z4]at PUT;have HPUT:=zC PUT;have HX15:=zC X15;have HX25:=zC X25;clear PUT X04 X14 X24 A4 X05 X15 X25 A5 I5 hw3 hw4;go_wp2_with fail;refine HPUT.o.mono ?_;rintro e w6 ⟨rfl,S6,I6,f6⟩;have G6:=zC (f6.ch0 G5d.o);have X16:=f6.blk (show zE w5.drew _ _ _ from HX15.o) (by omega) (by omega) (by decide);have X26:=f6.blk (show zE w5.drew _ _ _ from HX25.o) (by omega) (by omega) (by decide);have A6:=HA.o.kp G6.o (by simp);have z6:=f6.1.size;have z6':w5.drew.heap.size=w5.heap.size:=rfl;have q0:=S6.1.cl 0 (.int .u8 k0) rfl;have q1:=S6.1.cl 1 (.int .u8 k1) rfl;have q2:=S6.1.cl 2 (.int .u8 k2) rfl;have d0:=X26.cl 0 (.int .u8 h0) rfl;have d1:=X26.cl 1 (.int .u8 h1) rfl;have d2:=X26.cl 2 (.int .u8 h2) rfl;have d3:=X26.cl 3 (.int .u8 (b.toNat)) rfl;have r2:=A6.cl 2 (.map (some B1)) rfl;have HS6:=zC S6;have HI6:=zC I6;have HX16:=zC X16;have HX26:=zC X26;clear S6 I6 X16 X26 A6 r0
   have STR:∀W,Ch [] w6 W->Calls Tryz.prog 46 #[.pointer (some ⟨w.heap.size+1+1+1+1,0,none⟩)] W fun e w'=>e= .returned (.string (zG o))/\yi w' w.heap.size (w.heap.size+1+1+1+1) o/\Fr w.heap.size (w.heap.size+1+1+1+1) (w.heap.size+1+1+1+1) W w':=fun W gW=>Mf (HI6.o.kp gW (by simp) (by simp)) (by have:=gW.size;omega)
   have HSTR:=zC STR
   have FIN7:∀w7,Fr w.heap.size (w.heap.size+1+1+1+1) (w.heap.size+1+1+1+1) w6.drew w7->Ch [] w w7/\zE w7 w.heap.size (Vc [k0,k1,k2]) 122/\zE w7 (w.heap.size+1) #[.int .u8 0,.int .u8 0,.int .u8 0,.string ⟨#[]⟩] 229/\zE w7 (w.heap.size+1+1) #[.int .u8 h0,.int .u8 h1,.int .u8 h2,.int .u8 (b.toNat)] 282:=by
    intro w7 f7;exact⟨f7.ch0 (G6.o.trans (Ch.drew [] w6)),f7.blk (show zE w6.drew _ _ _ from HS6.o.1) (by omega) (by omega) (by decide),f7.blk (show zE w6.drew _ _ _ from HX16.o) (by omega) (by omega) (by decide),f7.blk (show zE w6.drew _ _ _ from HX26.o) (by omega) (by omega) (by decide)⟩
   have HFIN7:=zC FIN7;have HNUM:=zC (OJ (Ds:=Ds));have HG:Hd (VV Ds (.agg #[.int .u8 h0,.int .u8 h1,.int .u8 h2,.int .u8 (b.toNat)]) (.agg #[.int .u8 k0,.int .u8 k1,.int .u8 k2,.string (zG o)])):=⟨h0,h1,h2,k0,k1,k2,b,o,b0,b1,b2,rfl,HFD.o,rfl⟩;clear STR FIN7;go_wp2_with fail
   go_region_with (first|(go_at_call 46;refine(HSTR.o _ (Ch.drew [] w6)).mono ?_;rintro e w7 ⟨rfl,I7,f7⟩;obtain⟨G7,S7,X17,X27⟩:=HFIN7.o w7 f7;have A7:=HA.o.kp G7 (by simp);have q0':=S7.cl 0 (.int .u8 k0) rfl;have q1':=S7.cl 1 (.int .u8 k1) rfl;have q2':=S7.cl 2 (.int .u8 k2) rfl;have d0':=X27.cl 0 (.int .u8 h0) rfl;have d1':=X27.cl 1 (.int .u8 h1) rfl;have d2':=X27.cl 2 (.int .u8 h2) rfl;have d3':=X27.cl 3 (.int .u8 (b.toNat)) rfl;have r2':=A7.cl 2 (.map (some B1)) rfl;obtain⟨w8,st8,C8,g8,lk8⟩:=(HS.o.kp G7 (by simp)).store LI Tryz.underlying271 US HKEY.o HG.o Zw 4294967296 (by simp only[maxLen];omega) HNUM.o.1 HNUM.o.2 (fun w' c=>HLK.o w' (G7.trans c))))
   all_goals
    have RUN8:Hd (jP Ds w8 X r/\Ch X w w8):=by
     have n1:=HX.o
     have e1:B1∈X:=by rw[n1];simp
     have cw:Ch X w w8:=(G7.mono (by simp)).trans (g8.mono (by simpa using e1));refine⟨⟨_,_,B1,B2,Z,n1,A7.kp g8 (by simpa using a8),(HC.o.kp G7 (by simp)).kp g8 (fun q hq hx=>a6 (by have e:q=B1:=(by simpa using hx);rw[<- e];exact hq)),C8,(HE.o.kp G7 (by simp)).kp g8 (by simpa using Ne.symm a10),a5,a6,a7,a8,a9,a10⟩,cw⟩
    have zG7:=G7.size;have hB1:B1<w.heap.size:=HS.o.lt;have X18:=X17.kp g8 (by simp;omega);have X28:=X27.kp g8 (by simp;omega);have A8:=A7.kp g8 (by simpa using a8);have lk8d:=lk8 _ (Ch.drew [] w8);have e0:=X28.cl 0 (.int .u8 h0) rfl;have e1:=X28.cl 1 (.int .u8 h1) rfl;have e2:=X28.cl 2 (.int .u8 h2) rfl;have e3:=X28.cl 3 (.int .u8 (b.toNat)) rfl;have r8:=A8.cl 2 (.map (some B1)) rfl;have u0:=X18.cl 0 (.int .u8 0) rfl;have u1:=X18.cl 1 (.int .u8 0) rfl;have u2:=X18.cl 2 (.int .u8 0) rfl;have u3:=X18.cl 3 (.string ⟨#[]⟩) rfl;have uf:=X18.fz;obtain⟨X9,g9⟩:=X18.fill4 (.int .u8 k0) (.int .u8 k1) (.int .u8 k2) (.string (zG o));have y0:=X9.cl 0 (.int .u8 k0) rfl;have y1:=X9.cl 1 (.int .u8 k1) rfl;have y2:=X9.cl 2 (.int .u8 k2) rfl;have y3:=X9.cl 3 (.string (zG o)) rfl;have HG9:=zC g9;clear lk8 C8 g8 A7 A8 X17 X18 X27 X28 X9 S7 I7 f7 g9 q0 q1 q2 d0 d1 d2 d3 r2 q0' q1' q2' d0' d1' d2' d3' r2' st8;go_wp2_with fail;go_region
    all_goals
     generalize hw9:(((w8.setCell ⟨w.heap.size+1,0,none⟩ (.int .u8 k0)).setCell ⟨w.heap.size+1,1,none⟩ (.int .u8 k1)).setCell ⟨w.heap.size+1,2,none⟩ (.int .u8 k2)).setCell ⟨w.heap.size+1,3,none⟩ (.string (zG o))=w9 at *;go_wp2_with fail;have cD:=HG9.o.trans (Ch.drew [w.heap.size+1] w9);refine bodyPost_ret (v:= .agg #[.int .u8 k0,.int .u8 k1,.int .u8 k2,.string (zG o)]) ?_ rfl ⟨rfl,RUN8.o.1.kp cD (fun q hq=>by have:=hXl q hq;simp;omega),RUN8.o.2.trans' cD (fun q hq=>Or.inr (by simp at hq;omega))⟩;simp[results,Tryz.results126,go_sem,y0,y1,y2,y3]
end Go.Proofs.YteobgfbgglfkbaaGreat
