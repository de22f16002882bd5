import Derived.Test.YteobgfbgglfkbaaGreatVA1
import Derived.Deep.AppendLies
import Derived.Deep.RegionHeld3
import Derived.Deep.DrawnRows
set_option maxHeartbeats 6400000
namespace Go.Proofs.YteobgfbgglfkbaaGreat
open Go.RowKit
theorem zJ{w w':World}{e:TypeId}{size n:Nat}{v:Value}{xs:List Value}{X:List Nat}(h:w.ownsRow 0 e size v n xs)(g:Ch X w w')(hx:∀k,v.ownBlock=some k->k∉X):w'.ownsRow 0 e size v n xs:=by
 obtain⟨h1,h2⟩:=h;refine⟨h1,?_⟩
 rcases h2 with h2|⟨b,cap,cur,hv,hb,hh,r⟩
 ·exact Or.inl h2
 ·refine Or.inr ⟨b,cap,cur,hv,hb,?_,r⟩
  have hlt:b<w.heap.size:=by
   rcases Nat.lt_or_ge b w.heap.size with h'|h'
   ·exact h'
   ·simp[Array.getElem?_eq_none h']at hh
  rw[g.block b hlt (hx b (by simp[hv,Value.ownBlock]))];exact hh
theorem Ch.grown{w w':World}{row:Option Nat}(h:w.grownBy w' row):Ch row.toList w w':=
 ⟨h.os,h.tape,h.output,h.size,fun k hk hx=>h.block k hk (fun e=>hx (by simp[<- e]))⟩
theorem Rr:(Tryz.prog.info? 47).map (fun i=>(i.zero,i.size,i.bytes))=some (some (.pointer none),1,8):=by kernel_rfl
def yS(w:World)(nb:Nat)(K:Int)(cin kids:Value):Prop:=w.heap[nb]? =some (.cells #[.int .u8 K,cin,kids] 195)
theorem yS.lt{w:World}{nb:Nat}{K:Int}{cin kids:Value}(h:yS w nb K cin kids):nb<w.heap.size:=by
 rcases Nat.lt_or_ge nb w.heap.size with h'|h'
 ·exact h'
 ·simp[yS,Array.getElem?_eq_none h']at h
theorem yS.kp{w w':World}{nb:Nat}{K:Int}{cin kids:Value}{X:List Nat}(h:yS w nb K cin kids)(g:Ch X w w')(hb:nb∉X):yS w' nb K cin kids:=(g.block nb h.lt hb).trans h
theorem yS.fa{w:World}{nb:Nat}{K:Int}{cin kids:Value}(h:yS w nb K cin kids):w.cell? ⟨nb,0,none⟩=some (.int .u8 K)/\w.cell? ⟨nb,1,none⟩=some cin/\w.cell? ⟨nb,2,none⟩=some kids/\∀o,w.frozen? ⟨nb,o,none⟩=false:=by
 unfold yS at h
 refine⟨?_,?_,?_,?_⟩ <;>simp[World.cell?,World.frozen?,h]
theorem yS.set{w:World}{nb:Nat}{K:Int}{cin kids:Value}(h:yS w nb K cin kids):(∀v,yS (w.setCell ⟨nb,1,none⟩ v) nb K v kids)/\(∀v,yS (w.setCell ⟨nb,2,none⟩ v) nb K cin v):=by
 unfold yS at *
 refine⟨?_,?_⟩ <;>intro v <;>simp[World.setCell,Array.getElem?_modify,h]
theorem yS.new(w:World)(K:Int)(cin kids:Value):yS (w.alloc (.cells #[.int .u8 K,cin,kids] 195)) w.heap.size K cin kids:=zr _ _
abbrev zF:=List UInt8->Prop
def zF.cls(L:List (Int×Int)):zF:=fun t=>∃c,t=[c]/\zo L c.toNat=true
def zF.seq(A B:zF):zF:=fun t=>∃x y,t=x++y/\A x/\B y
def zF.eps:zF:=fun t=>t=[]
def zF.row:List zF->zF
 |[]=>zF.eps
 |A:: R=>zF.seq A (zF.row R)
def zF.alt(R:List zF):zF:=fun t=>∃A,A∈R/\A t
def zF.pow(A:zF):Nat->zF
 |0=>zF.eps
 |n+1=>zF.seq A (zF.pow A n)
def zF.star(A:zF):zF:=fun t=>∃n,zF.pow A n t
def zF.plus(A:zF):zF:=fun t=>∃n,zF.pow A (n+1) t
def zF.opt(A:zF):zF:=fun t=>t=[]\/A t
def JE:ByteArray:=⟨#[47,124,42,43,63,40,41,91,93,46,92]⟩
def yY(S:ByteArray)(L:zF)(s:St):zF×St:=
 if bt S s.i=42 then(L.star,{s with i:=s.i+1})
 else if bt S s.i=43 then(L.plus,{s with i:=s.i+1})
 else if bt S s.i=63 then(L.opt,{s with i:=s.i+1})
 else(L,s)
def ye(either:St->Except Nat (zF×St))(S:ByteArray)(d:Nat)(s:St):Except Nat (zF×St):=
 let s1:=zL (decide (12<s.k+1)) 3 s.i {s with k:=s.k+1}
 if bt S s.i=46 then .ok (zF.cls [(0,255)],{s1 with i:=s.i+1})
 else if bt S s.i=91 then
  match yn S s1 with
  |.ok (L,s2)=> .ok (zF.cls L,s2)
  |.error d=> .error d
 else if bt S s.i=40 then
  match either {(zL (decide ((4:Int)<=(d:Int))) 3 s.i s1)with i:=s.i+1} with
  |.error d=> .error d
  |.ok (L,s3)=>if bt S s3.i=41 then .ok (L,{s3 with i:=s3.i+1})else .error s3.i
 else
  match zx S 32 JE s1 with
  |.ok (c,s2)=> .ok (zF.cls [(c,c)],s2)
  |.error d=> .error d
def Yj(c:Int):Bool:=decide (c<0) || c==124 || c==41 || c==47
def yh(base:St->Except Nat (zF×St))(S:ByteArray):Nat->St->List zF->Except Nat (zF×St)
 |0,s,_=> .error s.i
 |n+1,s,R=>
  if Yj (bt S s.i)then .ok (zF.row R,s)
  else match base s with
   |.error d=> .error d
   |.ok (L,s1)=>yh base S n (yY S L s1).2 (R++[(yY S L s1).1])
def jZ(row:St->Except Nat (zF×St))(S:ByteArray):Nat->St->List zF->Except Nat (zF×St)
 |0,s,_=> .error s.i
 |n+1,s,R=>
  match row s with
  |.error d=> .error d
  |.ok (L,s1)=>if bt S s1.i=124 then jZ row S n {s1 with i:=s1.i+1} (R++[L])else .ok (zF.alt (R++[L]),s1)
def zv(S:ByteArray):Nat->Nat->St->Except Nat (zF×St)
 |0,_,s=> .error s.i
 |n+1,d,s=>jZ (fun s=>yh (ye (zv S n (d+1)) S d) S (S.size+1) s []) S (S.size+1) s []
structure zi(S:ByteArray)(s:St)(d:Nat):Prop where
 i:s.i<=S.size
 k0:0<=s.k
 k1:s.k<=s.i
 d:d<=s.i
theorem Si{w:World}{b:Nat}{S:ByteArray}{d:Nat}(h:zj w b S d)(nb:Nat):
 Calls Tryz.prog 98 #[.pointer (some ⟨b,0,none⟩),.pointer (some ⟨nb,0,none⟩)] w fun e w'=>e= .returned (.pointer (some ⟨nb,0,none⟩))/\zj w' b S d/\Ch [b] w w':=by
 go_enter Tryz.func98,Tryz.ntmps98;go_wp2_with fail
 go_loopw [6,7] (fun i _ w1=>∃j:Nat,i= .int .i64 j/\j<=3/\zj w1 b S d/\Ch [b] w w1) (fun i _ _=>3 - (intOf i).toNat)
 case atStart=>exact⟨0,rfl,by omega,h,Ch.refl _ _⟩
 case round=>
  obtain⟨j,rfl,hj,h1,g1⟩:=hrel
  by_cases hlt:(j:Int)<3
  ·have:j=0\/j=1\/j=2:=by omega
   rcases this with rfl|rfl|rfl
   all_goals
    go_wp2_with fail;refine(VE h1 _).mono ?_;rintro e w2 ⟨rfl,h2,g2⟩;go_wp2_with fail;go_roundw
    case rel=>first|exact⟨1,rfl,by omega,h2,g1.trans g2⟩|exact⟨2,rfl,by omega,h2,g1.trans g2⟩|exact⟨3,rfl,by omega,h2,g1.trans g2⟩
    case measure=>simp[intOf]
  ·go_wp2_with fail
   go_ret;exact⟨rfl,h1,g1⟩
theorem Oj{w:World}{b:Nat}{S:ByteArray}{s:St}{nest:Int}(h:zO w b S s (-1) nest)(hS:S.size<=400)(nb:Nat)(h1:¬bt S s.i=42)(h2:¬bt S s.i=43)(h3:¬bt S s.i=63):
 Calls Tryz.prog 98 #[.pointer (some ⟨b,0,none⟩),.pointer (some ⟨nb,0,none⟩)] w fun e w'=>e= .returned (.pointer (some ⟨nb,0,none⟩))/\zO w' b S s (-1) nest/\Ch [b] w w':=by
 have H1:=zC h1;have H2:=zC h2;have H3:=zC h3;clear h1 h2 h3;go_enter Tryz.func98,Tryz.ntmps98;go_wp2_with fail
 go_loopw [6,7] (fun i _ w1=>∃j:Nat,i= .int .i64 j/\j<=3/\zO w1 b S s (-1) nest/\Ch [b] w w1) (fun i _ _=>3 - (intOf i).toNat)
 case atStart=>exact⟨0,rfl,by omega,h,Ch.refl _ _⟩
 case round=>
  obtain⟨j,rfl,hj,h1,g1⟩:=hrel
  by_cases hlt:(j:Int)<3
  ·have:j=0\/j=1\/j=2:=by omega
   rcases this with rfl|rfl|rfl
   ·go_wp2_with fail
    refine(jh h1 42 (by omega) hS H1.o).mono ?_;rintro e w2 ⟨rfl,h2,g2⟩;go_wp2_with fail;go_roundw
    case rel=>exact⟨1,rfl,by omega,h2,g1.trans g2⟩
    case measure=>simp[intOf]
   ·go_wp2_with fail
    refine(jh h1 43 (by omega) hS H2.o).mono ?_;rintro e w2 ⟨rfl,h2,g2⟩;go_wp2_with fail;go_roundw
    case rel=>exact⟨2,rfl,by omega,h2,g1.trans g2⟩
    case measure=>simp[intOf]
   ·go_wp2_with fail
    refine(jh h1 63 (by omega) hS H3.o).mono ?_;rintro e w2 ⟨rfl,h2,g2⟩;go_wp2_with fail;go_roundw
    case rel=>exact⟨3,rfl,by omega,h2,g1.trans g2⟩
    case measure=>simp[intOf]
  ·go_wp2_with fail
   go_ret;exact⟨rfl,h1,g1⟩
theorem GN{w:World}{b:Nat}{S:ByteArray}{s:St}{nest:Int}(h:zO w b S s (-1) nest)(hS:S.size<=400)(nb:Nat)(c:Nat)(hc:c=42\/c=43\/c=63)(hb:bt S s.i=c):
 Calls Tryz.prog 98 #[.pointer (some ⟨b,0,none⟩),.pointer (some ⟨nb,0,none⟩)] w fun e w'=>∃nb' kb,e= .returned (.pointer (some ⟨nb',0,none⟩))/\w.heap.size<=nb'/\w.heap.size<=kb/\nb'≠kb/\yS w' nb' c (.slice none 0 0) (.slice (some ⟨kb,0,none⟩) 1 1)/\w'.heap[kb]? =some (.cells #[.pointer (some ⟨nb,0,none⟩)] 47)/\zO w' b S {s with i:=s.i+1} (-1) nest/\Ch [b] w w':=by
 have HB:=zC hb;clear hb;go_enter Tryz.func98,Tryz.ntmps98;go_wp2_with fail
 go_loopw [6,7] (fun i _ w1=>∃j:Nat,i= .int .i64 j/\zO w1 b S s (-1) nest/\Ch [b] w w1/\((c=42/\j=0)\/(c=43/\j<=1)\/(c=63/\j<=2))) (fun i _ _=>3 - (intOf i).toNat)
 case atStart=>exact⟨0,rfl,h,Ch.refl _ _,by omega⟩
 case round=>
  obtain⟨j,rfl,h1,g1,hj⟩:=hrel
  have:(c=42/\j=0)\/(c=43/\j=0)\/(c=43/\j=1)\/(c=63/\j=0)\/(c=63/\j=1)\/(c=63/\j=2):=by omega
  have hlt:=yB (S:=S) (i:=s.i) (by rw[HB.o];omega);clear hj hc
  have done:∀w2:World,zO w2 b S {s with i:=s.i+1} (-1) nest->Ch [b] w w2->∀c:Int,∃nb' kb,Ending.returned (.pointer (some ⟨w2.heap.size+1,0,none⟩))= .returned (.pointer (some ⟨nb',0,none⟩))/\w.heap.size<=nb'/\w.heap.size<=kb/\nb'≠kb/\yS ((w2.alloc (.cells #[.pointer (some ⟨nb,0,none⟩)] 47)).alloc (.cells #[.int .u8 c,.slice none 0 0,.slice (some ⟨w2.heap.size,0,none⟩) 1 1] 195)) nb' c (.slice none 0 0) (.slice (some ⟨kb,0,none⟩) 1 1)/\((w2.alloc (.cells #[.pointer (some ⟨nb,0,none⟩)] 47)).alloc (.cells #[.int .u8 c,.slice none 0 0,.slice (some ⟨w2.heap.size,0,none⟩) 1 1] 195)).heap[kb]? =some (.cells #[.pointer (some ⟨nb,0,none⟩)] 47)/\zO ((w2.alloc (.cells #[.pointer (some ⟨nb,0,none⟩)] 47)).alloc (.cells #[.int .u8 c,.slice none 0 0,.slice (some ⟨w2.heap.size,0,none⟩) 1 1] 195)) b S {s with i:=s.i+1} (-1) nest/\Ch [b] w ((w2.alloc (.cells #[.pointer (some ⟨nb,0,none⟩)] 47)).alloc (.cells #[.int .u8 c,.slice none 0 0,.slice (some ⟨w2.heap.size,0,none⟩) 1 1] 195)):=by
   intro w2 h2 g2 c;have hs:=g2.size;refine⟨w2.heap.size+1,w2.heap.size,rfl,by omega,hs,by omega,?_,?_,(h2.kp (Ch.alloc [] _ _) (by simp)).kp (Ch.alloc [] _ _) (by simp),(g2.trans (Ch.alloc _ _ _)).trans (Ch.alloc _ _ _)⟩
   ·have:=yS.new (w2.alloc (.cells #[.pointer (some ⟨nb,0,none⟩)] 47)) c (.slice none 0 0) (.slice (some ⟨w2.heap.size,0,none⟩) 1 1)
    simpa using this
   ·rw[Below.heap_alloc _ _ _ (by simp),zr]
  have DN:=zC done;clear done
  rcases this with⟨rfl,rfl⟩|⟨rfl,rfl⟩|⟨rfl,rfl⟩|⟨rfl,rfl⟩|⟨rfl,rfl⟩|⟨rfl,rfl⟩
  ·go_wp2_with fail
   refine(Jm h1 42 (by omega) hS HB.o).mono ?_;rintro e w2 ⟨rfl,h2,g2⟩;go_wp2_with fail;go_ret;exact DN.o _ h2 (g1.trans g2) 42
  ·go_wp2_with fail
   refine(jh h1 42 (by omega) hS (by rw[HB.o];decide)).mono ?_;rintro e w2 ⟨rfl,h2,g2⟩;go_wp2_with fail;go_roundw
   case rel=>exact⟨1,rfl,h2,g1.trans g2,by simp⟩
   case measure=>simp[intOf]
  ·go_wp2_with fail
   refine(Jm h1 43 (by omega) hS HB.o).mono ?_;rintro e w2 ⟨rfl,h2,g2⟩;go_wp2_with fail;go_ret;exact DN.o _ h2 (g1.trans g2) 43
  ·go_wp2_with fail
   refine(jh h1 42 (by omega) hS (by rw[HB.o];decide)).mono ?_;rintro e w2 ⟨rfl,h2,g2⟩;go_wp2_with fail;go_roundw
   case rel=>exact⟨1,rfl,h2,g1.trans g2,by simp⟩
   case measure=>simp[intOf]
  ·go_wp2_with fail
   refine(jh h1 43 (by omega) hS (by rw[HB.o];decide)).mono ?_;rintro e w2 ⟨rfl,h2,g2⟩;go_wp2_with fail;go_roundw
   case rel=>exact⟨2,rfl,h2,g1.trans g2,by simp⟩
   case measure=>simp[intOf]
  ·go_wp2_with fail
   refine(Jm h1 63 (by omega) hS HB.o).mono ?_;rintro e w2 ⟨rfl,h2,g2⟩;go_wp2_with fail;go_ret;exact DN.o _ h2 (g1.trans g2) 63
def ptr(k:Nat):Value:= .pointer (some ⟨k,0,none⟩)
def jk(w:World)(F:Nat->Prop):Nat->Nat->zF->Prop
 |0,_,_=>False
 |h+1,nb,L=>F nb/\(
   (∃c Lc kids,F c/\yS w nb 99 (.slice (some ⟨c,0,none⟩) 256 256) kids/\zq w c 256 (zo Lc)/\L=zF.cls Lc)\/
   (∃(kb:Nat) (K:Int) (k:Nat) (A:zF),F kb/\yS w nb K (.slice none 0 0) (.slice (some ⟨kb,0,none⟩) 1 1)/\w.heap[kb]? =some (.cells #[ptr k] 47)/\jk w F h k A/\((K=42/\L=A.star)\/(K=43/\L=A.plus)\/(K=63/\L=A.opt)))\/
   (∃(v:Value) (ks:List Nat) (Ls:List zF) (K:Int),yS w nb K (.slice none 0 0) v/\(∀g,v.ownBlock=some g->F g)/\w.ownsRow 0 47 1 v ks.length (ks.map ptr)/\ks.length=Ls.length/\(∀(i k:Nat) (L':zF),ks[i]? =some k->Ls[i]? =some L'->jk w F h k L')/\((K=115/\L=zF.row Ls)\/(K=111/\L=zF.alt Ls))))
theorem ju{w w':World}{e:TypeId}{size n:Nat}{v:Value}{xs:List Value}(h:w.ownsRow 0 e size v n xs)(hx:∀k,v.ownBlock=some k->w'.heap[k]? =w.heap[k]?):w'.ownsRow 0 e size v n xs:=by
 obtain⟨h1,h2⟩:=h;refine⟨h1,?_⟩
 rcases h2 with h2|⟨b,cap,cur,hv,hb,hh,r⟩
 ·exact Or.inl h2
 ·exact Or.inr ⟨b,cap,cur,hv,hb,by rw[hx b (by simp[hv,Value.ownBlock])];exact hh,r⟩
theorem jk.frame{w w':World}{F G:Nat->Prop}(hF:∀k,F k->w'.heap[k]? =w.heap[k]?)(hG:∀k,F k->G k):∀{h nb:Nat} {L:zF},jk w F h nb L->jk w' G h nb L:=by
 intro h
 induction h with
 |zero=>intro nb L hr;exact hr.elim
 |succ h ih=>
  intro nb L hr;obtain⟨f,hr⟩:=hr;refine⟨hG _ f,?_⟩
  rcases hr with⟨c,Lc,kids,fc,h1,h2,h3⟩|⟨kb,K,k,A,fk,h1,h2,h3,h4⟩|⟨v,ks,Ls,K,h1,h2,h3,h4,h5,h6⟩
  ·exact Or.inl ⟨c,Lc,kids,hG _ fc,(hF _ f).trans h1,(hF _ fc).trans h2,h3⟩
  ·exact Or.inr (Or.inl ⟨kb,K,k,A,hG _ fk,(hF _ f).trans h1,(hF _ fk).trans h2,ih h3,h4⟩)
  ·exact Or.inr (Or.inr ⟨v,ks,Ls,K,(hF _ f).trans h1,fun g hg=>hG _ (h2 g hg),ju h3 (fun k hk=>hF _ (h2 k hk)),h4,fun i k L' a b=>ih (h5 i k L' a b),h6⟩)
theorem jk.up{w:World}{F:Nat->Prop}:∀{h h' nb:Nat} {L:zF},h<=h'->jk w F h nb L->jk w F h' nb L:=by
 intro h
 induction h with
 |zero=>intro h' nb L _ hr;exact hr.elim
 |succ h ih=>
  intro h' nb L hle hr;obtain⟨h',rfl⟩:∃m,h'=m+1:=⟨h' - 1,by omega⟩;obtain⟨f,hr⟩:=hr;refine⟨f,?_⟩
  rcases hr with⟨c,Lc,kids,fc,h1,h2,h3⟩|⟨kb,K,k,A,fk,h1,h2,h3,h4⟩|⟨v,ks,Ls,K,h1,h2,h3,h4,h5,h6⟩
  ·exact Or.inl ⟨c,Lc,kids,fc,h1,h2,h3⟩
  ·exact Or.inr (Or.inl ⟨kb,K,k,A,fk,h1,h2,ih (by omega) h3,h4⟩)
  ·exact Or.inr (Or.inr ⟨v,ks,Ls,K,h1,h2,h3,h4,fun i k L' a b=>ih (by omega) (h5 i k L' a b),h6⟩)
theorem jk.in{w:World}{F:Nat->Prop}{h nb:Nat}{L:zF}(hr:jk w F h nb L):F nb:=by
 cases h with
 |zero=>exact hr.elim
 |succ h=>exact hr.1
def Mp(w:World)(b:Nat)(S:ByteArray)(d m:Nat)(r:Except Nat (zF×St))(e:Ending)(w':World):Prop:=
 Ch [b] w w'/\((∃L s' nb h F,r= .ok (L,s')/\e= .returned (.pointer (some ⟨nb,0,none⟩))/\zO w' b S s' (-1) d/\jk w' F h nb L/\(∀k,F k->w.heap.size<=k/\k<w'.heap.size)/\m<=s'.i/\zi S s' d)\/(∃D nb,r= .error D/\e= .returned (.pointer (some ⟨nb,0,none⟩))/\zj w' b S D))
def XF(S:ByteArray)(n:Nat):Prop:=∀(w:World) (b:Nat) (s:St) (d:Nat),zO w b S s (-1) d->zi S s d->S.size<n+s.i->Calls Tryz.prog 62 #[.pointer (some ⟨b,0,none⟩)] w (Mp w b S d s.i (zv S n d s))
theorem zi.later{S:ByteArray}{s s':St}{d:Nat}(h:zi S s d)(hi:s.i<=s'.i)(hk:s'.k=s.k)(hS:s'.i<=S.size):zi S s' d:=by
 obtain⟨a1,a2,a3,a4⟩:=h;exact⟨hS,by omega,by omega,by omega⟩
end Go.Proofs.YteobgfbgglfkbaaGreat
namespace Go.Proofs.YteobgfbgglfkbaaGreat
open Go.RowKit
attribute [local go_sem ↓] Go.wp_at_zero Go.wp_at_succ
theorem Uo{w:World}{b:Nat}{S:ByteArray}{s:St}{nest:Int}{wr:Bool}{e a:Int}(h:zO w b S (zL wr e a s) (-1) nest):
 w.cell? ⟨b,5,none⟩=some (.int .i64 s.k)/\w.cell? ⟨b,1,none⟩=some (.int .i64 s.i)/\w.cell? ⟨b,6,none⟩=some (.int .i64 nest):=by
 have f:=h.fa;rw[(yj wr e a s).1,(yj wr e a s).2]at f;exact⟨f.2.2.2.2.2.1,f.2.1,f.2.2.2.2.2.2.1⟩
theorem RN(c j:Nat):(if j=c then true else false)=zo [((c:Int),(c:Int))] j:=by
 rw[Bool.eq_iff_iff];simp[zo];omega
theorem LF(E:St->Except Nat (zF×St))(S:ByteArray)(d:Nat)(s s1:St)(h:zL (decide (12<s.k+1)) 3 s.i {s with k:=s.k+1}=s1):
 ye E S d s=(if bt S s1.i=46 then .ok (zF.cls [(0,255)],{s1 with i:=s1.i+1})
  else if bt S s1.i=91 then
   match yn S s1 with
   |.ok (L,s2)=> .ok (zF.cls L,s2)
   |.error d=> .error d
  else if bt S s1.i=40 then
   match E {(zL (decide ((4:Int)<=(d:Int))) 3 s1.i s1)with i:=s1.i+1} with
   |.error d=> .error d
   |.ok (L,s3)=>if bt S s3.i=41 then .ok (L,{s3 with i:=s3.i+1})else .error s3.i
  else
   match zx S 32 JE s1 with
   |.ok (c,s2)=> .ok (zF.cls [(c,c)],s2)
   |.error d=> .error d):=by
 have e:s1.i=s.i:=by rw[<- h];exact(yj _ _ _ _).1
 unfold ye;simp only[h,e]
 try rfl
theorem Sc{S:ByteArray}(hS:S.size<=400){n d:Nat}(ih:XF S n){w:World}{b:Nat}{s:St}(h:zO w b S s (-1) d)(hv:zi S s d)(hlt:s.i<S.size)(hn:S.size<n+(s.i+1)):
 Calls Tryz.prog 97 #[.pointer (some ⟨b,0,none⟩)] w (Mp w b S d (s.i+1) (ye (zv S n (d+1)) S d s)):=by
 obtain⟨v1,v2,v3,v4⟩:=hv;have IH:=zC ih;clear ih;obtain⟨c0,c1,c2,c3,c4,c5,c6,fz⟩:=h.fa;have h1:=h.set.2.2.2.2.1 (s.k+1);have gW:Ch [b] w (w.setCell ⟨b,5,none⟩ (.int .i64 (s.k+1))):=Ch.setCell _ (by simp) _;go_enter Tryz.func97,Tryz.ntmps97;go_wp2_with fail;generalize w.setCell ⟨b,5,none⟩ (.int .i64 (s.k+1))=W1 at *;clear c0 c1 c2 c3 c4 c5 c6 fz h;obtain⟨c0,c1,c2,c3,c4,c5,c6,fz⟩:=h1.fa;simp only at c1 c5
 go_region_held3 (fun w'=>w'.cell? ⟨b,5,none⟩=some (.int .i64 (s.k+1))/\w'.cell? ⟨b,1,none⟩=some (.int .i64 s.i)) (go_keep)
  (first|(go_at_call 53;refine(QB (S:=S) (s:={s with k:=s.k+1}) (nest:=d) ?_ _ _ _).mono ?_;exact h1;rintro e w2 ⟨rfl,h2,g2⟩;obtain⟨e5,e1,e6⟩:=Uo h2))
 go_wp2_with (at_make;refine QA 143 Tryz.underlying143 _ _ 256 rfl rfl rfl rfl (by omega) ?_;intro w3 hB g3 hz);have g13:Ch [b] w w2:=gW.trans ((Ch.drew _ _).trans g2);have hC0:=g13.size;have hbC:=h2.lt;have i1:=(yj (decide (12<s.k+1)) 3 s.i {s with k:=s.k+1});have h3:=h2.kp g3 (by simp);clear e5 e1 e6 c0 c1 c2 c3 c4 c5 c6 fz h1 h2;have BE:=zC (LF (zv S n (d+1)) S d s _ rfl);generalize zL (decide (12<s.k+1)) 3 s.i {s with k:=s.k+1}=s1 at *;obtain⟨i1,k1⟩:=i1;simp only at i1 k1;have I1:=zC i1;have K1:=zC k1
 have hi1:s1.i<=S.size:=by omega
 have hi2:(s1.i:Int)<400:=by omega
 have INV:Hd (∀s':St,s1.i<s'.i->s'.i<=S.size->s'.k=s1.k->s.i+1<=s'.i/\zi S s' d):=by
  intro s' a1 a2 a3;exact⟨by omega,a2,by omega,by omega,by omega⟩
 have hlt1:s1.i<S.size:=by omega
 have h4:=h3.kp (Ch.alloc [] w3 (.cells #[.int .u8 99,.slice (some ⟨w2.heap.size,0,none⟩) 256 256,.slice none 0 0] 195)) (by simp);have g4:Ch [b] w (w3.alloc (.cells #[.int .u8 99,.slice (some ⟨w2.heap.size,0,none⟩) 256 256,.slice none 0 0] 195)):=(g13.trans (g3.mono (by simp))).trans (Ch.alloc _ _ _);have N4:=yS.new w3 99 (.slice (some ⟨w2.heap.size,0,none⟩) 256 256) (.slice none 0 0);have B4:=hB.kp (Ch.alloc [] w3 (.cells #[.int .u8 99,.slice (some ⟨w2.heap.size,0,none⟩) 256 256,.slice none 0 0] 195)) (by simp)
 have Z4:(w3.alloc (.cells #[.int .u8 99,.slice (some ⟨w2.heap.size,0,none⟩) 256 256,.slice none 0 0] 195)).heap.size=w2.heap.size+2:=by simp[hz]
 rw[hz]at N4;generalize w3.alloc (.cells #[.int .u8 99,.slice (some ⟨w2.heap.size,0,none⟩) 256 256,.slice none 0 0] 195)=w4 at *;generalize w2.heap.size=C at *;clear i1 k1 h3 g3 hB hz g2 gW g13
 by_cases h46:bt S s1.i=46
 ·have HR:Hd (ye (zv S n (d+1)) S d s= .ok (zF.cls [(0,255)],{s1 with i:=s1.i+1})):=by
   show _=_;rw[BE.o,if_pos h46]
  have H46:=zC h46;clear h46;refine(Jm h4 _ (by omega) hS H46.o).mono ?_;rintro e w5 ⟨rfl,h5,g5⟩;have N5:=N4.kp g5 (by simp;omega);have B5:=B4.kp g5 (by simp;omega);have g45:=g4.trans g5;have Z5:=g5.size;go_wp2_with fail
  go_loopw [5] (fun v w6=>∃k:Nat,v= .int .i64 k/\k<=256/\zq w6 C 256 (fun j=>decide (j<k))/\yS w6 (C+1) 99 (.slice (some ⟨C,0,none⟩) 256 256) (.slice none 0 0)/\zO w6 b S {s1 with i:=s1.i+1} (-1) d/\Ch [b] w w6/\C+2<=w6.heap.size) (fun v _=>256 - (intOf v).toNat)
  case atStart=>exact⟨0,rfl,by omega,B5.congr (by simp),N5,h5,g45,by omega⟩
  case round=>
   obtain⟨k,rfl,hk,B6,N6,h6,g6,Z6⟩:=hrel;obtain⟨n0,n1,n2,nf⟩:=N6.fa
   by_cases hlt:(k:Int)<256
   ·have f6:=B6.fz k
    have e6:=B6.cl k (by omega);go_wp2_with fail;go_roundw
    case rel=>exact⟨k+1,by go_num,by omega,(B6.set k true).congr (fun j _=>by by_cases e:j=k <;>simp[e] <;>omega),N6.kp (Ch.setCell (X:=[C]) _ (by simp) _) (by simp),h6.kp (Ch.setCell (X:=[C]) _ (by simp) _) (by simp;omega),g6.setCell_new (Or.inr hC0) _,by simp[World.setCell];omega⟩
    case measure=>simp[intOf];omega
   ·go_wp2_with fail
    go_ret;refine⟨g6,Or.inl ⟨_,_,C+1,1,fun k=>k=C\/k=C+1,HR.o,rfl,h6,⟨Or.inr rfl,Or.inl ⟨C,_,_,Or.inl rfl,N6,B6.congr (fun j hj=> ?_),rfl⟩⟩,?_,INV.o _ (by simp) (by simp;omega) rfl⟩⟩
    ·simp[zo];omega
    ·rintro k (rfl|rfl) <;>omega
 ·have H46:=zC h46
  by_cases h91:bt S s1.i=91
  ·have hq:yg S s1.i 91 91=true:=by simp[Y4,h91]
   cases hcl:yn S s1 with
   |ok p=>
    obtain⟨L,s2⟩:=p
    have HR:Hd (ye (zv S n (d+1)) S d s= .ok (zF.cls L,s2)):=by
     show _=_;rw[BE.o,if_neg h46,if_pos h91,hcl]
    have HCL:=zC hcl;have HB:=VO hcl;clear h46 h91 hcl;refine(jh h4 _ (by omega) hS H46.o).mono ?_;rintro e w5 ⟨rfl,h5,g5⟩;go_wp2_with fail;refine(jz h5 _ _ (by omega) hS).mono ?_;rintro e w6 ⟨rfl,h6,g6⟩;go_wp2_with fail;refine(DB h6 hS HCL.o).mono ?_;rintro e w7 ⟨c,rfl,hc,B7,h7,g7⟩;have N7:=((N4.kp g5 (by simp;omega)).kp g6 (by simp;omega)).kp g7 (by simp;omega);obtain⟨n0,n1,n2,nf⟩:=N7.fa;have Z5:=g5.size;have Z6:=g6.size;have Z7:=B7.lt;go_wp2_with fail;go_ret;refine⟨(g4.trans (g5.trans (g6.trans g7))).setCell_new (Or.inr (by show _<=C+1;omega)) _,Or.inl ⟨_,_,C+1,1,fun k=>k=c\/k=C+1,HR.o,rfl,h7.kp (Ch.setCell (X:=[C+1]) _ (by simp) _) (by simp;omega),⟨Or.inr rfl,Or.inl ⟨c,_,_,Or.inl rfl,N7.set.1 _,B7.kp (Ch.setCell (X:=[C+1]) _ (by simp) _) (by simp;omega),rfl⟩⟩,?_,INV.o _ HB.1 HB.2.1 HB.2.2⟩⟩
    rintro k (rfl|rfl) <;>simp[World.setCell] <;>omega
   |error D=>
    have HR:Hd (ye (zv S n (d+1)) S d s= .error D):=by
     show _=_;rw[BE.o,if_neg h46,if_pos h91,hcl]
    have HCL:=zC hcl;clear h46 h91 hcl;refine(jh h4 _ (by omega) hS H46.o).mono ?_;rintro e w5 ⟨rfl,h5,g5⟩;go_wp2_with fail;refine(jz h5 _ _ (by omega) hS).mono ?_;rintro e w6 ⟨rfl,h6,g6⟩;go_wp2_with fail;refine(DH h6 hS hi1 HCL.o).mono ?_;rintro e w7 ⟨⟨c,rfl⟩,h7,g7⟩;have N7:=((N4.kp g5 (by simp;omega)).kp g6 (by simp;omega)).kp g7 (by simp;omega);obtain⟨n0,n1,n2,nf⟩:=N7.fa;go_wp2_with fail;go_ret;exact⟨(g4.trans (g5.trans (g6.trans g7))).setCell_new (Or.inr (by show _<=C+1;omega)) _,Or.inr ⟨D,C+1,HR.o,rfl,h7.kp (Ch.setCell (X:=[C+1]) _ (by simp) _) (by simp;omega)⟩⟩
  ·have hq:yg S s1.i 91 91=false:=by simp[Y4,h91]
   by_cases h40:bt S s1.i=40
   ·have hq4:yg S s1.i 40 40=true:=by simp[Y4,h40]
    have BE2:Hd (ye (zv S n (d+1)) S d s=match zv S n (d+1) {(zL (decide ((4:Int)<=(d:Int))) 3 s1.i s1)with i:=s1.i+1} with
     |.error d=> .error d
     |.ok (L,s3)=>if bt S s3.i=41 then .ok (L,{s3 with i:=s3.i+1})else .error s3.i):=by
     show _=_;rw[BE.o,if_neg h46,if_neg h91,if_pos h40]
    clear h46 h91 h40 BE;refine(jh h4 _ (by omega) hS H46.o).mono ?_;rintro e w5 ⟨rfl,h5,g5⟩;go_wp2_with fail;refine(jz h5 _ _ (by omega) hS).mono ?_;rintro e w6 ⟨rfl,h6,g6⟩;go_wp2_with fail;refine(jz h6 _ _ (by omega) hS).mono ?_;rintro e w7 ⟨rfl,h7,g7⟩;obtain⟨c0,c1,c2,c3,c4,c5,c6,fz⟩:=h7.fa;have g47:=g4.trans (g5.trans (g6.trans g7));go_wp2_with fail
    go_region_held3 (fun w'=>w'.cell? ⟨b,6,none⟩=some (.int .i64 d)/\w'.cell? ⟨b,1,none⟩=some (.int .i64 s1.i)) (go_keep)
     (first|(go_at_call 53;refine(QB (S:=S) (s:=s1) (nest:=d) ?_ _ _ _).mono ?_;exact h7;rintro e w8 ⟨rfl,h8,g8⟩;obtain⟨e5,e1,e6⟩:=Uo h8))
    rename_i hHeld
    clear hHeld;have g48:Ch [b] w w8:=g47.trans ((Ch.drew _ _).trans g8);have i2:=yj (decide ((4:Int)<=(d:Int))) 3 s1.i s1;clear e5 e1 e6 c0 c1 c2 c3 c4 c5 c6 fz;generalize zL (decide ((4:Int)<=(d:Int))) 3 s1.i s1=s8 at *;obtain⟨i2,k2⟩:=i2;have I2:=zC i2;have K2:=zC k2;rw[<- I2.o]at BE2 hi2;clear i2 k2;obtain⟨c0,c1,c2,c3,c4,c5,c6,fz⟩:=h8.fa
    have hd:(d:Int)<400:=by omega
    go_wp2_with fail;have h9:=(h8.set.2.2.2.2.2 (d+1)).bump;have g9:Ch [b] w ((w8.setCell ⟨b,6,none⟩ (.int .i64 (d+1))).setCell ⟨b,1,none⟩ (.int .i64 (s8.i+1))):=(g48.trans (Ch.setCell _ (by simp) _)).trans (Ch.setCell _ (by simp) _);clear c0 c1 c2 c3 c4 c5 c6 fz;have b1:=I1.o;have b2:=I2.o;have b3:=K1.o;have b4:=K2.o;have hinv:zi S {s8 with i:=s8.i+1} (d+1):=⟨by simp;omega,by simp;omega,by simp;omega,by simp;omega⟩
    have hfu:S.size<n+({s8 with i:=s8.i+1}:St).i:=by simp;omega
    clear b1 b2 b3 b4;refine(IH.o _ b {s8 with i:=s8.i+1} (d+1) h9 hinv hfu).mono ?_;rintro e w10 ⟨g10,⟨L,s3,nb,hh,F,hr,rfl,h10,R10,F10,m10,V10⟩|⟨D,nb,hr,rfl,h10⟩⟩
    ·have g910:=g9.trans g10
     have hnb:=R10.in
     have FB:Hd (∀k,F k->w.heap.size<=k/\k<w10.heap.size/\k≠b):=by
      intro k hk;have a1:=F10 k hk;have a2:=g9.size;have a3:=h9.lt;exact⟨by omega,a1.2,by omega⟩
     obtain⟨x1,x2,x3,x4⟩:=V10
     by_cases h41:bt S s3.i=41
     ·have HR:Hd (ye (zv S n (d+1)) S d s= .ok (L,{s3 with i:=s3.i+1})):=by
       show _=_;rw[BE2.o,hr];simp[h41]
      have H41:=zC h41;have hl3:=yB (S:=S) (i:=s3.i) (by omega)
      have hge:s.i+1<=s3.i+1:=by have:=I1.o;have:=I2.o;simp at m10;omega
      clear h41 hr m10;go_wp2_with fail;refine(Qz h10 _ (by omega) hS H41.o).mono ?_;rintro e w11 ⟨rfl,h11,g11⟩;obtain⟨c0,c1,c2,c3,c4,c5,c6,fz⟩:=h11.fa;go_wp2_with fail;go_ret;have h12:=h11.set.2.2.2.2.2 (d:Int);refine⟨(g910.trans g11).trans (Ch.setCell _ (by simp) _),Or.inl ⟨_,_,nb,hh,F,HR.o,rfl,h12,R10.frame (fun k hk=> ?_) (fun _ h=>h),fun k hk=> ?_,hge,⟨by simp;omega,by simp;omega,by simp;omega,by simp;omega⟩⟩⟩
      ·have a1:=FB.o k hk
       rw[Below.heap_setCell _ _ _ _ (by simpa using a1.2.2),g11.block k a1.2.1 (by simpa using a1.2.2)]
      ·have a1:=FB.o k hk
       have a2:=g11.size;exact⟨a1.1,by simp[World.setCell];omega⟩
     ·have HR:Hd (ye (zv S n (d+1)) S d s= .error s3.i):=by
       show _=_;rw[BE2.o,hr];simp[h41]
      have H41:=zC h41;clear h41 hr m10;go_wp2_with fail;refine(WD h10 _ (by omega) hS x1 H41.o).mono ?_;rintro e w11 ⟨rfl,⟨s11,nest11,h11,hi11⟩,g11⟩;obtain⟨c0,c1,c2,c3,c4,c5,c6,fz⟩:=h11.fa;go_wp2_with fail;go_ret;exact⟨(g910.trans g11).trans (Ch.setCell _ (by simp) _),Or.inr ⟨s3.i,nb,HR.o,rfl,⟨s11,_,h11.set.2.2.2.2.2 _,hi11⟩⟩⟩
    ·have HR:Hd (ye (zv S n (d+1)) S d s= .error D):=by
      show _=_;rw[BE2.o,hr]
     have g910:=g9.trans g10;clear hr;go_wp2_with fail;refine(UE h10 _).mono ?_;rintro e w11 ⟨rfl,⟨s11,nest11,h11,hi11⟩,g11⟩;obtain⟨c0,c1,c2,c3,c4,c5,c6,fz⟩:=h11.fa;go_wp2_with fail;go_ret;exact⟨(g910.trans g11).trans (Ch.setCell _ (by simp) _),Or.inr ⟨D,nb,HR.o,rfl,⟨s11,_,h11.set.2.2.2.2.2 _,hi11⟩⟩⟩
   ·have hq4:yg S s1.i 40 40=false:=by simp[Y4,h40]
    cases hl:zx S 32 JE s1 with
    |ok p=>
     obtain⟨c,s2⟩:=p
     have HR:Hd (ye (zv S n (d+1)) S d s= .ok (zF.cls [(c,c)],s2)):=by
      show _=_;rw[BE.o,if_neg h46,if_neg h91,if_neg h40,hl]
     have HB:=Jr (by omega) hl;have HL:=zC hl;obtain⟨y1,y2,y3,y4,_,_,y7⟩:=HB;clear h46 h91 h40 hl BE;refine(jh h4 _ (by omega) hS H46.o).mono ?_;rintro e w5 ⟨rfl,h5,g5⟩;go_wp2_with fail;refine(jz h5 _ _ (by omega) hS).mono ?_;rintro e w6 ⟨rfl,h6,g6⟩;go_wp2_with fail;refine(jz h6 _ _ (by omega) hS).mono ?_;rintro e w7 ⟨rfl,h7,g7⟩;go_wp2_with fail;refine(Ym (but:=JE) h7 hS (by omega) (by show 11<=400;omega) HL.o).mono ?_;rintro e w8 ⟨rfl,h8,g8⟩;have g58:=g5.trans (g6.trans (g7.trans g8));have N8:=N4.kp g58 (by simp;omega);have B8:=B4.kp g58 (by simp;omega);have Z8:=g58.size;obtain⟨n0,n1,n2,nf⟩:=N8.fa;obtain⟨c,rfl⟩:∃m:Nat,c=m:=⟨c.toNat,by omega⟩;have f6:=B8.fz c;have e6:=B8.cl c (by omega);go_wp2_with fail;go_ret;refine⟨(g4.trans g58).setCell_new (Or.inr hC0) _,Or.inl ⟨_,_,C+1,1,fun k=>k=C\/k=C+1,HR.o,rfl,h8.kp (Ch.setCell (X:=[C]) _ (by simp) _) (by simp;omega),⟨Or.inr rfl,Or.inl ⟨C,_,_,Or.inl rfl,N8.kp (Ch.setCell (X:=[C]) _ (by simp) _) (by simp),(B8.set c true).congr (fun j hj=> ?_),rfl⟩⟩,?_,INV.o _ y1 y2 y7⟩⟩
     ·exact RN c j
     ·rintro k (rfl|rfl) <;>simp[World.setCell] <;>omega
    |error D=>
     have HR:Hd (ye (zv S n (d+1)) S d s= .error D):=by
      show _=_;rw[BE.o,if_neg h46,if_neg h91,if_neg h40,hl]
     have HL:=zC hl;clear h46 h91 h40 hl BE;refine(jh h4 _ (by omega) hS H46.o).mono ?_;rintro e w5 ⟨rfl,h5,g5⟩;go_wp2_with fail;refine(jz h5 _ _ (by omega) hS).mono ?_;rintro e w6 ⟨rfl,h6,g6⟩;go_wp2_with fail;refine(jz h6 _ _ (by omega) hS).mono ?_;rintro e w7 ⟨rfl,h7,g7⟩;go_wp2_with fail;refine(UM (but:=JE) h7 hS hi1 (by omega) (by show 11<=400;omega) HL.o).mono ?_;rintro e w8 ⟨⟨c,y3,y4,rfl⟩,h8,g8⟩;have g58:=g5.trans (g6.trans (g7.trans g8));have N8:=N4.kp g58 (by simp;omega);have B8:=B4.kp g58 (by simp;omega);obtain⟨n0,n1,n2,nf⟩:=N8.fa;obtain⟨c,rfl⟩:∃m:Nat,c=m:=⟨c.toNat,by omega⟩;have f6:=B8.fz c;have e6:=B8.cl c (by omega);go_wp2_with fail;go_ret;exact⟨(g4.trans g58).setCell_new (Or.inr hC0) _,Or.inr ⟨D,C+1,HR.o,rfl,h8.kp (Ch.setCell (X:=[C]) _ (by simp) _) (by simp;omega)⟩⟩
def j3(w:World)(F:Nat->Prop)(h:Nat)(ks:List Nat)(Ls:List zF):Prop:=ks.length=Ls.length/\∀(i k:Nat) (L:zF),ks[i]? =some k->Ls[i]? =some L->jk w F h k L
theorem j3.nil(w:World)(F:Nat->Prop)(h:Nat):j3 w F h [] []:=⟨rfl,fun i k L a _=>by simp at a⟩
theorem j3.frame{w w':World}{F G:Nat->Prop}{h:Nat}{ks:List Nat}{Ls:List zF}(hF:∀k,F k->w'.heap[k]? =w.heap[k]?)(hG:∀k,F k->G k)(hr:j3 w F h ks Ls):j3 w' G h ks Ls:=
 ⟨hr.1,fun i k L a b=>(hr.2 i k L a b).frame hF hG⟩
theorem j3.snoc{w:World}{F G H:Nat->Prop}{h h2:Nat}{ks:List Nat}{Ls:List zF}{nb:Nat}{L:zF}(hr:j3 w F h ks Ls)(hn:jk w G h2 nb L)(h1:∀k,F k->H k)(h2':∀k,G k->H k):
 j3 w H (max h h2) (ks++[nb]) (Ls++[L]):=by
 refine⟨by simp[hr.1],fun i k L' a b=> ?_⟩
 rcases Nat.lt_or_ge i ks.length with hlt|hge
 ·rw[List.getElem?_append_left hlt]at a
  rw[List.getElem?_append_left (by rw[<- hr.1];exact hlt)]at b;exact((hr.2 i k L' a b).frame (fun _ _=>rfl) h1).up (Nat.le_max_left _ _)
 ·rw[List.getElem?_append_right hge]at a
  rw[List.getElem?_append_right (by rw[<- hr.1];exact hge)]at b
  have e:i - ks.length=0:=by
   rcases Nat.eq_zero_or_pos (i - ks.length)with h'|h'
   ·exact h'
   ·rw[List.getElem?_eq_none (by simp;omega)]at a;cases a
  have e2:i - Ls.length=0:=by rw[<- hr.1];exact e
  rw[e]at a;rw[e2]at b;simp at a b;subst a b;exact(hn.frame (fun _ _=>rfl) h2').up (Nat.le_max_right _ _)
theorem Sf{w:World}{b:Nat}{S:ByteArray}{s:St}{d:Nat}(h:zO w b S s (-1) d)(hS:S.size<=400)(hv:zi S s d){nb hh:Nat}{L:zF}{F:Nat->Prop}(hr:jk w F hh nb L)(hF:∀k,F k->k<w.heap.size/\k≠b):
 Calls Tryz.prog 98 #[.pointer (some ⟨b,0,none⟩),.pointer (some ⟨nb,0,none⟩)] w fun e w'=>∃nb' h' G,e= .returned (.pointer (some ⟨nb',0,none⟩))/\zO w' b S (yY S L s).2 (-1) d/\jk w' G h' nb' (yY S L s).1/\(∀k,G k->k<w'.heap.size/\(F k\/w.heap.size<=k))/\s.i<=(yY S L s).2.i/\zi S (yY S L s).2 d/\Ch [b] w w':=by
 have key:∀c:Nat,(c=42\/c=43\/c=63)->bt S s.i=c->(yY S L s).2={s with i:=s.i+1}->((c:Int)=42/\(yY S L s).1=L.star\/(c:Int)=43/\(yY S L s).1=L.plus\/(c:Int)=63/\(yY S L s).1=L.opt)->Calls Tryz.prog 98 #[.pointer (some ⟨b,0,none⟩),.pointer (some ⟨nb,0,none⟩)] w fun e w'=>∃nb' h' G,e= .returned (.pointer (some ⟨nb',0,none⟩))/\zO w' b S (yY S L s).2 (-1) d/\jk w' G h' nb' (yY S L s).1/\(∀k,G k->k<w'.heap.size/\(F k\/w.heap.size<=k))/\s.i<=(yY S L s).2.i/\zi S (yY S L s).2 d/\Ch [b] w w':=by
  intro c hc hb e1 e2;have hlt:=yB (S:=S) (i:=s.i) (by omega);rw[e1];refine(GN h hS nb c hc hb).mono ?_;rintro e w' ⟨nb',kb,rfl,z1,z2,z3,N1,K1,h1,g1⟩;have ln:=N1.lt
  have lk:kb<w'.heap.size:=by
   rcases Nat.lt_or_ge kb w'.heap.size with h'|h'
   ·exact h'
   ·simp[Array.getElem?_eq_none h']at K1
  refine⟨nb',hh+1,fun k=>F k\/k=nb'\/k=kb,rfl,h1,⟨Or.inr (Or.inl rfl),Or.inr (Or.inl ⟨kb,c,nb,L,Or.inr (Or.inr rfl),N1,K1,hr.frame (fun k hk=>g1.block k (hF k hk).1 (by simpa using (hF k hk).2)) (fun k hk=>Or.inl hk),e2⟩)⟩,?_,by simp,hv.later (by simp) rfl (by simp;omega),g1⟩;rintro k (hk|rfl|rfl)
  ·exact⟨by have:=(hF k hk).1;have:=g1.size;omega,Or.inl hk⟩
  ·exact⟨ln,Or.inr z1⟩
  ·exact⟨lk,Or.inr z2⟩
 by_cases h42:bt S s.i=42
 ·exact key 42 (by simp) h42 (by simp[yY,h42]) (by simp[yY,h42])
 by_cases h43:bt S s.i=43
 ·exact key 43 (by simp) h43 (by simp[yY,h43]) (by simp[yY,h43])
 by_cases h63:bt S s.i=63
 ·exact key 63 (by simp) h63 (by simp[yY,h63]) (by simp[yY,h63])
 refine(Oj h hS nb h42 h43 h63).mono ?_;rintro e w' ⟨rfl,h1,g1⟩;rw[show yY S L s=(L,s)from by simp[yY,h42,h43,h63]];exact⟨nb,hh,F,rfl,h1,hr.frame (fun k hk=>g1.block k (hF k hk).1 (by simpa using (hF k hk).2)) (fun k hk=>hk),fun k hk=>⟨by have:=(hF k hk).1;have:=g1.size;omega,Or.inl hk⟩,Nat.le_refl _,hv,g1⟩
def VR:ByteArray:=⟨#[124,41,47]⟩
theorem Nk(c:Int):jK c VR=(c==124 || c==41 || c==47):=by
 simp[jK,VR];rw[Bool.eq_iff_iff];simp;omega
theorem Vu{W:World}{ops:Array Oper}{rest:List Oper}{o:Oper}{a:Act}{Q:Exit->Act->World->Prop}(hgd:o.guard=none)(sx xx:Operand)
 (ho:o.op= .call {callee:= .builtin .append,args:= #[sx,xx],argTypes:= #[193,193]}) (v:Value) (n:Nat) (xs:List Value) (hs:a.eval sx=v) (hown:W.ownsRow 0 47 1 v n xs)
 (N k:Nat) (hx:a.eval xx= .slice (some ⟨N,0,none⟩) 1 1) (hN:W.heap[N]? =some (.cells #[.pointer (some ⟨k,0,none⟩)] 47)) (hn:n<=1000) (H:Nat) (hH:W.heap.size=H)
 (h:∀g cap w',w'.ownsRow 0 47 1 (.slice (some ⟨g,0,none⟩) (n+1) cap) (n+1) (xs++[ptr k])->Ch v.ownBlock.toList W w'->(v.ownBlock=some g\/g=H)->g<w'.heap.size->wpList Tryz.prog ops Q rest (a.put o.dst (.slice (some ⟨g,0,none⟩) (n+1) cap)) w'):
 wpList Tryz.prog ops Q (o:: rest) a W:=by
 obtain⟨i,hi,hz0,hz1,hz2⟩:=info_parts Rr;refine wpList_append_lies W hgd sx xx 193 ho 0 47 i (.pointer none) 1 8 Tryz.underlying193 hi hz0 hz1 hz2 rfl (by omega) v n xs hs hown ⟨N,0,none⟩ 1 1 [ptr k] hx (by simp) ?_ ?_ (by omega) (by simp only[maxLen];omega) (by omega) (Nat.zero_le _) H hH ?_
 ·exact World.news_of_block hN
 ·intro u hu;simp at hu;subst hu;rfl
 ·intro g cap w' h1 h2 h3 h4
  exact h g cap w' h1 (Ch.grown h2) h3 h4
def KO(S:ByteArray)(w3:World)(b Sn d i3:Nat)(base:St->Except Nat (zF×St))(rr:Except Nat (zF×St))(w5:World):Prop:=
 Ch [b] w3 w5/\∃(v2:Value) (n2:Nat) (xs2:List Value),yS w5 Sn 115 (.slice none 0 0) v2/\w5.ownsRow 0 47 1 v2 n2 xs2/\(∀g,v2.ownBlock=some g->w3.heap.size<=g/\g≠Sn)/\
  ((∃(s4:St) (ks:List Nat) (Ls:List zF) (F:Nat->Prop) (h m:Nat),zO w5 b S s4 (-1) d/\zi S s4 d/\i3<=s4.i/\xs2=ks.map ptr/\n2=ks.length/\n2<=s4.i/\j3 w5 F h ks Ls/\(∀k,F k->w3.heap.size<=k/\k<w5.heap.size/\k≠Sn/\v2.ownBlock≠some k)/\S.size<m+s4.i/\rr=yh base S m s4 Ls)\/
   (∃D,zj w5 b S D/\rr= .error D))
theorem Hr{S:ByteArray}(hS:S.size<=400){n:Nat}(ih:XF S n):XF S (n+1):=by
 intro w b s d h hv hn;have IH:=zC ih;clear ih;obtain⟨v1,v2,v3,v4⟩:=hv;generalize hbase:ye (zv S n (d+1)) S d=base;have HBASE:=zC hbase
 have ER:Hd (zv S (n+1) d s=jZ (fun s=>yh base S (S.size+1) s []) S (S.size+1) s []):=by show _=_;rw[<- hbase];rfl
 clear hbase;generalize zv S (n+1) d s=r at *;have hbO:=h.lt;go_enter Tryz.func62,Tryz.ntmps62;go_wp2_with fail
 go_loopw [4,5,6] (fun again _ _ w3=>Ch [b] w w3/\∃(v:Value) (n0:Nat) (xs:List Value),yS w3 w.heap.size 111 (.slice none 0 0) v/\w3.ownsRow 0 47 1 v n0 xs/\(∀g,v.ownBlock=some g->w.heap.size<=g/\g≠w.heap.size)/\
  ((∃(s3:St) (ks:List Nat) (Ls:List zF) (F:Nat->Prop) (h m:Nat),zO w3 b S s3 (-1) d/\zi S s3 d/\s.i<=s3.i/\xs=ks.map ptr/\n0=ks.length/\j3 w3 F h ks Ls/\(∀k,F k->w.heap.size<=k/\k<w3.heap.size/\k≠w.heap.size/\v.ownBlock≠some k)/\((again= .bool true/\n0<=s3.i/\S.size<m+s3.i/\Hd (r=jZ (fun s=>yh base S (S.size+1) s []) S m s3 Ls))\/(again= .bool false/\Hd (r= .ok (zF.alt Ls,s3)))))\/
   (again= .bool false/\∃D,zj w3 b S D/\Hd (r= .error D)))) (fun again _ _ w3=>Vz b S.size again w3)
 case atStart=>exact⟨Ch.alloc _ _ _,.slice none 0 0,0,[],yS.new _ _ _ _,World.ownsRow_nil _ _ _ _,fun g hg=>by simp[Value.ownBlock]at hg,Or.inl ⟨s,[],[],fun _=>False,0,S.size+1,h.kp (Ch.alloc [] _ _) (by simp),⟨v1,v2,v3,v4⟩,Nat.le_refl _,rfl,rfl,j3.nil _ _ _,fun k hk=>hk.elim,Or.inl ⟨rfl,by simp,by omega,ER⟩⟩⟩
 case round=>
  generalize wr=w3 at *;obtain⟨g3,v,n0,xs,N3,O3,V3,hrel⟩:=hrel
  rcases hrel with⟨s3,ks,Ls,F,hh,m,h3,I3,ge3,rfl,hn0,R3,F3,⟨rfl,hn3,hm,AR⟩|⟨rfl,AR⟩⟩|⟨rfl,D,h3,AR⟩
  ·obtain⟨m,rfl⟩:∃k,m=k+1:=⟨m - 1,by have:=I3.i;omega⟩
   have hsz:w.heap.size<w3.heap.size:=N3.lt;generalize hO:w.heap.size=O at *;have HO:=zC hO;clear hO;have V3x:=zC V3;have gN:=Ch.alloc [b] w3 (.cells #[.int .u8 115,.slice none 0 0,.slice none 0 0] 195);have hbl:=h3.lt;have hI:=I3;obtain⟨x1,x2,x3,x4⟩:=I3;generalize hrr:yh base S (S.size+1) s3 []=rr;have HRR:=zC hrr
   have START:Hd (KO S w3 b w3.heap.size d s3.i base rr (w3.alloc (.cells #[.int .u8 115,.slice none 0 0,.slice none 0 0] 195))):=by
    exact⟨gN,.slice none 0 0,0,[],yS.new _ _ _ _,World.ownsRow_nil _ _ _ _,fun g hg=>by simp[Value.ownBlock]at hg,Or.inl ⟨s3,[],[],fun _=>False,0,S.size+1,h3.kp (Ch.alloc [] _ _) (by simp),hI,Nat.le_refl _,rfl,rfl,by simp,j3.nil _ _ _,fun k hk=>hk.elim,by omega,hrr.symm⟩⟩
   clear hrr gN;have hn0':=zC hn0;clear hn0;go_wp2_with fail;generalize hSn:w3.heap.size=Sn at *;have HSn:=zC hSn
   have hSn1:w3.heap.size<=Sn:=by omega
   have hSn2:Sn<=w3.heap.size:=by omega
   clear hSn
   go_loopw [6] (fun _ w5=>KO S w3 b Sn d s3.i base rr w5) (fun _ w5=>penM b S.size w5)
   case atStart=>exact START.o
   case round=>
    generalize wr=w5 at *;obtain⟨g5,vv,n2,xs2,N5,O5,V5,⟨s4,ks2,Ls2,F2,h2,m2,h4,I4,ge4,rfl,hn2,hle2,R5,F5,hm2,HRW⟩|⟨D,h5,HRW⟩⟩:=hrel
    ·obtain⟨c0,c1,c2,c3,c4,c5,c6,fz⟩:=h4.fa
     have y1:=I4.i;have hn2':=zC hn2;clear hn2;obtain⟨m2,rfl⟩:∃k,m2=k+1:=⟨m2 - 1,by omega⟩;have h4m:Hd (penM b S.size w5=S.size+1 - s4.i):=h4.penM
     by_cases hend:(s4.i:Int)<S.size
     ·have hlt:s4.i<S.size:=by omega
      by_cases hst:jK (S[s4.i].toNat:Int) VR=true
      ·have HST:=zC hst
       have HR:Hd (rr= .ok (zF.row Ls2,s4)):=by
        rw[jS hlt,Nk]at hst
        show _=_;rw[HRW];simp only[yh];rw[if_pos (by simp[Yj]at hst ⊢;omega)]
       clear hst HRW START;go_wp2_with fail;go_quiet ((go_at_call 96;exact Calls.quiet_of_same (Bw _ VR (by show 3<=400;omega) HST.o)));clear c0 c1 c2 c3 c4 c5 c6 fz;have W0:=Ch.drewN [b] w5 nq;have PW:zO (w5.drewN nq) b S s4 (-1) d:=h4.drewN nq;have gW:Ch [b] w3 (w5.drewN nq):=g5.trans W0;have NS:yS (w5.drewN nq) Sn 115 (.slice none 0 0) vv:=N5;have OS:(w5.drewN nq).ownsRow 0 47 1 vv n2 (ks2.map ptr):=O5;have RS:j3 (w5.drewN nq) F2 h2 ks2 Ls2:=j3.frame (w:=w5) (w':=w5.drewN nq) (fun _ _=>rfl) (fun _ h=>h) R5;have FS:∀k,F2 k->w3.heap.size<=k/\k<(w5.drewN nq).heap.size/\k≠Sn/\vv.ownBlock≠some k:=F5;generalize w5.drewN nq=W at *;clear R5 F5 O5 N5 W0 h4;have NO:yS W O 111 (.slice none 0 0) v:=N3.kp gW (by simp;omega);have OO:W.ownsRow 0 47 1 v n0 (ks.map ptr):=zJ O3 gW (fun g hg=>by have:=V3 g hg;simp;omega);have OO2:=zJ OO (Ch.alloc [] W (.cells #[.pointer (some ⟨Sn,0,none⟩)] 47)) (by simp);have NO2:=NO.kp (Ch.alloc [] W (.cells #[.pointer (some ⟨Sn,0,none⟩)] 47)) (by simp);have ZW:=gW.size
       have LV:∀g,v.ownBlock=some g->g<w3.heap.size:=fun g hg=>(O3.lt g hg).2
       have LVV:∀g,vv.ownBlock=some g->g<W.heap.size:=fun g hg=>(OS.lt g hg).2
       have LSN:=NS.lt
       have gALL:Hd (∀(g cap:Nat) (w7:World),w7.ownsRow 0 47 1 (.slice (some ⟨g,0,none⟩) (n0+1) cap) (n0+1) (ks.map ptr++[ptr Sn])->Ch v.ownBlock.toList (W.alloc (.cells #[.pointer (some ⟨Sn,0,none⟩)] 47)) w7->(v.ownBlock=some g\/g=W.heap.size+1)->
        Ch [b] w (w7.setCell ⟨O,2,none⟩ (.slice (some ⟨g,0,none⟩) (n0+1) cap))/\yS (w7.setCell ⟨O,2,none⟩ (.slice (some ⟨g,0,none⟩) (n0+1) cap)) O 111 (.slice none 0 0) (.slice (some ⟨g,0,none⟩) (n0+1) cap)/\(w7.setCell ⟨O,2,none⟩ (.slice (some ⟨g,0,none⟩) (n0+1) cap)).ownsRow 0 47 1 (.slice (some ⟨g,0,none⟩) (n0+1) cap) (n0+1) ((ks++[Sn]).map ptr)/\(O<=g/\g≠O)/\zO (w7.setCell ⟨O,2,none⟩ (.slice (some ⟨g,0,none⟩) (n0+1) cap)) b S s4 (-1) d/\∃(F'':Nat->Prop) (h'':Nat),j3 (w7.setCell ⟨O,2,none⟩ (.slice (some ⟨g,0,none⟩) (n0+1) cap)) F'' h'' (ks++[Sn]) (Ls++[zF.row Ls2])/\(∀k,F'' k->O<=k/\k<(w7.setCell ⟨O,2,none⟩ (.slice (some ⟨g,0,none⟩) (n0+1) cap)).heap.size/\k≠O/\g≠k)):=by
        intro g cap w7 own7 gr7 hat7;have z7:=gr7.size;simp at z7
        have fr:∀k,k<W.heap.size->v.ownBlock≠some k->k≠O->(w7.setCell ⟨O,2,none⟩ (.slice (some ⟨g,0,none⟩) (n0+1) cap)).heap[k]? =W.heap[k]? :=by
         intro k h1 h2 h3;rw[Below.heap_setCell _ _ _ _ (by simpa using h3),gr7.block k (by simp;omega) (by simpa using h2),Below.heap_alloc _ _ _ h1]
        have gO:Ch [O] w7 (w7.setCell ⟨O,2,none⟩ (.slice (some ⟨g,0,none⟩) (n0+1) cap)):=Ch.setCell _ (by simp) _
        have hgO:O<=g/\g≠O:=by
         rcases hat7 with e|e
         ·have:=V3 g e;omega
         ·omega
        refine⟨?_,?_,?_,hgO,?_,fun k=>F k\/(F2 k\/k=Sn\/vv.ownBlock=some k),max hh (h2+1),?_,?_⟩
        ·refine(((g3.trans gW).trans (Ch.alloc _ _ _)).trans' gr7 (fun k hk=>Or.inr ?_)).setCell_new (Or.inr (by rw[HO.o];exact Nat.le_refl _)) _
         simp at hk;rw[HO.o];exact(V3 k hk).1
        ·exact(NO2.kp gr7 (by simp;intro e;exact(V3 O e).2 rfl)).set.2 _
        ·rw[List.map_append]
         exact zJ own7 gO (fun k hk=>by simp[Value.ownBlock]at hk;subst hk;simpa using hgO.2)
        ·exact(fr b PW.lt (fun e=>by have:=V3 b e;omega) (by omega)).trans PW
        ·refine j3.snoc (F:=F) (G:=fun k=>F2 k\/k=Sn\/vv.ownBlock=some k) ?_ ?_ (fun _ h=>Or.inl h) (fun _ h=>Or.inr h)
         ·refine R3.frame (fun k hk=> ?_) (fun _ h=>h)
          obtain⟨a1,a2,a3,a4⟩:=F3 k hk;rw[fr k (by omega) a4 a3,gW.block k (by omega) (by simp;omega)]
         ·have dis:∀k,(F2 k\/k=Sn\/vv.ownBlock=some k)->k<W.heap.size/\v.ownBlock≠some k/\k≠O:=by
           rintro k (hk|rfl|hk)
           ·obtain⟨a1,a2,a3,a4⟩:=FS k hk
            exact⟨a2,fun e=>by have:=LV k e;omega,by omega⟩
           ·exact⟨LSN,fun e=>by have:=LV _ e;have:=HSn.o;omega,by omega⟩
           ·have b1:=V5 k hk
            exact⟨LVV k hk,fun e=>by have:=LV _ e;omega,by omega⟩
          refine jk.frame (F:=fun k=>F2 k\/k=Sn\/vv.ownBlock=some k) (w:=W) (fun k hk=>fr k (dis k hk).1 (dis k hk).2.1 (dis k hk).2.2) (fun _ h=>h) (h:=h2+1) ?_;exact⟨Or.inr (Or.inl rfl),Or.inr (Or.inr ⟨vv,ks2,Ls2,115,NS,fun g hg=>Or.inr (Or.inr hg),hn2'.o ▸ OS,RS.1,fun i k L' a b=>(RS.2 i k L' a b).frame (fun _ _=>rfl) (fun _ h=>Or.inl h),Or.inl ⟨rfl,rfl⟩⟩)⟩
        ·rintro k (hk|hk|rfl|hk)
         ·obtain⟨a1,a2,a3,a4⟩:=F3 k hk
          refine⟨a1,by simp[World.setCell];omega,a3,fun e=> ?_⟩
          rcases hat7 with e7|e7
          ·exact a4 (e ▸ e7)
          ·omega
         ·obtain⟨a1,a2,a3,a4⟩:=FS k hk
          refine⟨by omega,by simp[World.setCell];omega,by omega,fun e=> ?_⟩
          rcases hat7 with e7|e7
          ·have:=LV g e7;omega
          ·omega
         ·refine⟨by omega,by simp[World.setCell];omega,by omega,fun e=> ?_⟩
          rcases hat7 with e7|e7
          ·have:=LV g e7;have:=HSn.o;omega
          ·omega
         ·have b1:=V5 k hk
          have b2:=LVV k hk;refine⟨by omega,by simp[World.setCell];omega,by omega,fun e=> ?_⟩
          rcases hat7 with e7|e7
          ·have:=LV g e7;omega
          ·omega
       obtain⟨o0,o1,o2,of⟩:=NO.fa;clear FS F3 V3 V5 LV LVV R3 RS IH;go_wp2_with (at_builtin;refine Vu (by rfl) _ _ (by rfl) v n0 _ (by rfl) OO2 W.heap.size Sn (by rfl) (zr _ _) (by omega) (W.heap.size+1) (by simp) ?_;intro g cap w7 own7 gr7 hat7 hlt7;have NO7:=NO2.kp gr7 (by simp;intro e;exact(V3x.o O e).2 rfl);obtain⟨o0',o1',o2',of'⟩:=NO7.fa);obtain⟨A1,A2,A3,A4,A5,F'',h'',A6,A7⟩:=gALL.o g cap w7 own7 gr7 hat7;clear gALL
       by_cases h124:bt S s4.i=124
       ·have AR2:Hd (r=jZ (fun s=>yh base S (S.size+1) s []) S m {s4 with i:=s4.i+1} (Ls++[zF.row Ls2])):=by
         show _=_;rw[AR.o];simp only[jZ];rw[HRR.o,HR.o];simp only[h124,if_true]
        have H124:=zC h124;have hl4:=yB (S:=S) (i:=s4.i) (by omega);clear h124;refine(Jm A5 _ (by omega) hS H124.o).mono ?_;rintro e w9 ⟨rfl,h9,g9⟩;go_wp2_with fail;go_roundw
        case rel=>
         refine⟨A1.trans g9,_,n0+1,_,A2.kp g9 (by simp;omega),zJ A3 g9 (fun k hk=>by simp[Value.ownBlock]at hk;subst hk;simp;omega),fun k hk=>by simp[Value.ownBlock]at hk;subst hk;exact A4,Or.inl ⟨_,ks++[Sn],Ls++[zF.row Ls2],F'',h'',m,h9,I4.later (by simp) rfl hl4,by simp;omega,rfl,by rw[List.length_append,hn0'.o];rfl,A6.frame (fun k hk=>g9.block k (A7 k hk).2.1 (by simp;have:=(A7 k hk).1;omega)) (fun _ h=>h),fun k hk=> ?_,Or.inl ⟨rfl,by simp;omega,by simp;omega,AR2⟩⟩⟩;obtain⟨a1,a2,a3,a4⟩:=A7 k hk;exact⟨a1,by have:=g9.size;omega,a3,by simp[Value.ownBlock];omega⟩
        case measure=>rw[Ze h9,Ze h3];simp;omega
       ·have AR2:Hd (r= .ok (zF.alt (Ls++[zF.row Ls2]),s4)):=by
         show _=_;rw[AR.o];simp only[jZ];rw[HRR.o,HR.o];simp only[h124,if_false]
        have H124:=zC h124;clear h124;refine(jh A5 _ (by omega) hS H124.o).mono ?_;rintro e w9 ⟨rfl,h9,g9⟩;go_wp2_with fail;go_roundw
        case rel=>
         refine⟨A1.trans g9,_,n0+1,_,A2.kp g9 (by simp;omega),zJ A3 g9 (fun k hk=>by simp[Value.ownBlock]at hk;subst hk;simp;omega),fun k hk=>by simp[Value.ownBlock]at hk;subst hk;exact A4,Or.inl ⟨_,ks++[Sn],Ls++[zF.row Ls2],F'',h'',m,h9,I4,by omega,rfl,by rw[List.length_append,hn0'.o];rfl,A6.frame (fun k hk=>g9.block k (A7 k hk).2.1 (by simp;have:=(A7 k hk).1;omega)) (fun _ h=>h),fun k hk=> ?_,Or.inr ⟨rfl,AR2⟩⟩⟩;obtain⟨a1,a2,a3,a4⟩:=A7 k hk;exact⟨a1,by have:=g9.size;omega,a3,by simp[Value.ownBlock];omega⟩
        case measure=>rw[WE,Ze h3];omega
      ·have HST:Hd (jK (S[s4.i].toNat:Int) VR=false):=by show _=false;simpa using hst
       have HR:Hd (rr=match base s4 with|.error d=> .error d|.ok (L,s1)=>yh base S m2 (yY S L s1).2 (Ls2++[(yY S L s1).1])):=by
        have hst2:=HST.o;have:=MN S s4.i
        have hp:0<=bt S s4.i:=by rw[<- jS hlt];omega
        rw[jS hlt,Nk]at hst2
        show _=_;rw[HRW];simp only[yh];rw[if_neg (by simp[Yj]at hst2 ⊢;omega)];try rfl
       clear hst HRW START;go_wp2_with fail;go_quiet ((go_at_call 96;exact Calls.quiet_of_same (Ny _ VR (by show 3<=400;omega) HST.o)));clear c0 c1 c2 c3 c4 c5 c6 fz;have W0:=Ch.drewN [b] w5 nq;have PW:zO (w5.drewN nq) b S s4 (-1) d:=h4.drewN nq;have gW:Ch [b] w3 (w5.drewN nq):=g5.trans W0;have NS:yS (w5.drewN nq) Sn 115 (.slice none 0 0) vv:=N5;have OS:(w5.drewN nq).ownsRow 0 47 1 vv n2 (ks2.map ptr):=O5;have RS:j3 (w5.drewN nq) F2 h2 ks2 Ls2:=j3.frame (w:=w5) (w':=w5.drewN nq) (fun _ _=>rfl) (fun _ h=>h) R5;have FS:∀k,F2 k->w3.heap.size<=k/\k<(w5.drewN nq).heap.size/\k≠Sn/\vv.ownBlock≠some k:=F5;generalize w5.drewN nq=W at *;clear R5 F5 O5 N5 W0 h4;go_wp2_with fail;refine(Sc hS IH.o PW I4 hlt (by omega)).mono ?_;rw[HBASE.o];rintro e w6 ⟨g6,⟨L,s6,nb,h6',F6,hr6,rfl,h6,R6,F6',m6,I6⟩|⟨D,nb,hr6,rfl,h6⟩⟩
       ·have HR6:Hd (rr=yh base S m2 (yY S L s6).2 (Ls2++[(yY S L s6).1])):=by show _=_;rw[HR.o,hr6]
        have bW:=PW.lt;clear hr6 HR;go_wp2_with fail;refine(Sf h6 hS I6 R6 (fun k hk=>⟨(F6' k hk).2,by have:=(F6' k hk).1;omega⟩)).mono ?_;rintro e w7 ⟨nb',h7',G,rfl,h7,R7,G7,m7,I7,g7⟩;generalize (yY S L s6).2=s7 at *;generalize (yY S L s6).1=L7 at *;have g67:Ch [b] W w7:=g6.trans g7;have N7:=NS.kp g67 (by simp;omega);have O7:=zJ OS g67 (fun g hg=>by have:=V5 g hg;simp;omega);have O72:=zJ O7 (Ch.alloc [] w7 (.cells #[.pointer (some ⟨nb',0,none⟩)] 47)) (by simp);have N72:=N7.kp (Ch.alloc [] w7 (.cells #[.pointer (some ⟨nb',0,none⟩)] 47)) (by simp);have Z67:=g67.size;have Z6:=g6.size;have ZW:=gW.size
        have LVV:∀g,vv.ownBlock=some g->g<W.heap.size:=fun g hg=>(OS.lt g hg).2
        have LSN:=NS.lt;have V5x:=zC V5;have z7l:=I7.i
        have gALL:Hd (∀(g cap:Nat) (w8:World),w8.ownsRow 0 47 1 (.slice (some ⟨g,0,none⟩) (n2+1) cap) (n2+1) (ks2.map ptr++[ptr nb'])->Ch vv.ownBlock.toList (w7.alloc (.cells #[.pointer (some ⟨nb',0,none⟩)] 47)) w8->(vv.ownBlock=some g\/g=w7.heap.size+1)->
         KO S w3 b Sn d s3.i base rr (w8.setCell ⟨Sn,2,none⟩ (.slice (some ⟨g,0,none⟩) (n2+1) cap))/\zO (w8.setCell ⟨Sn,2,none⟩ (.slice (some ⟨g,0,none⟩) (n2+1) cap)) b S s7 (-1) d):=by
         intro g cap w8 own8 gr8 hat8;have z8:=gr8.size;simp at z8
         have fr:∀k,k<w7.heap.size->vv.ownBlock≠some k->k≠Sn->(w8.setCell ⟨Sn,2,none⟩ (.slice (some ⟨g,0,none⟩) (n2+1) cap)).heap[k]? =w7.heap[k]? :=by
          intro k a1 a2 a3;rw[Below.heap_setCell _ _ _ _ (by simpa using a3),gr8.block k (by simp;omega) (by simpa using a2),Below.heap_alloc _ _ _ a1]
         have gO:Ch [Sn] w8 (w8.setCell ⟨Sn,2,none⟩ (.slice (some ⟨g,0,none⟩) (n2+1) cap)):=Ch.setCell _ (by simp) _
         have hgS:w3.heap.size<=g/\g≠Sn:=by
          rcases hat8 with e|e
          ·exact V5 g e
          ·omega
         have P8:zO (w8.setCell ⟨Sn,2,none⟩ (.slice (some ⟨g,0,none⟩) (n2+1) cap)) b S s7 (-1) d:=(fr b h7.lt (fun e=>by have:=V5 b e;omega) (by omega)).trans h7;refine⟨⟨?_,.slice (some ⟨g,0,none⟩) (n2+1) cap,n2+1,(ks2++[nb']).map ptr,?_,?_,?_,Or.inl ⟨s7,ks2++[nb'],Ls2++[L7],fun k=>F2 k\/G k,max h2 h7',m2,P8,I7,by omega,?_,by rw[List.length_append,hn2'.o];rfl,by omega,?_,?_,by omega,HR6.o⟩⟩,P8⟩
         ·refine(((gW.trans g67).trans (Ch.alloc _ _ _)).trans' gr8 (fun k hk=>Or.inr ?_)).setCell_new (Or.inr (by show w3.heap.size<=Sn;omega)) _
          simp at hk;exact(V5 k hk).1
         ·exact(N72.kp gr8 (by simp;intro e;exact(V5 Sn e).2 rfl)).set.2 _
         ·rw[show ks2.map ptr++[ptr nb']=(ks2++[nb']).map ptr from by simp]at own8
          exact zJ own8 gO (fun k hk=>by simp[Value.ownBlock]at hk;subst hk;simpa using hgS.2)
         ·intro k hk;simp[Value.ownBlock]at hk;subst hk;exact hgS
         ·rfl
         ·refine j3.snoc (F:=F2) (G:=G) ?_ ?_ (fun _ h=>Or.inl h) (fun _ h=>Or.inr h)
          ·refine RS.frame (fun k hk=> ?_) (fun _ h=>h)
           obtain⟨a1,a2,a3,a4⟩:=FS k hk;rw[fr k (by omega) a4 a3,g67.block k a2 (by simp;omega)]
          ·refine R7.frame (fun k hk=> ?_) (fun _ h=>h)
           obtain⟨a1,a2⟩:=G7 k hk
           have a3:W.heap.size<=k:=by
            rcases a2 with a2|a2
            ·exact(F6' k a2).1
            ·omega
           exact fr k a1 (fun e=>by have:=LVV k e;omega) (by omega)
         ·rintro k (hk|hk)
          ·obtain⟨a1,a2,a3,a4⟩:=FS k hk
           refine⟨a1,by simp[World.setCell];omega,a3,?_⟩;simp only[Value.ownBlock,ne_eq,Option.some.injEq];rintro rfl
           rcases hat8 with e|e
           ·exact a4 e
           ·omega
          ·obtain⟨a1,a2⟩:=G7 k hk
           have a3:W.heap.size<=k:=by
            rcases a2 with a2|a2
            ·exact(F6' k a2).1
            ·omega
           refine⟨by omega,by simp[World.setCell];omega,by omega,?_⟩;simp only[Value.ownBlock,ne_eq,Option.some.injEq];rintro rfl
           rcases hat8 with e|e
           ·have:=LVV _ e;omega
           ·omega
        obtain⟨o0,o1,o2,of⟩:=N7.fa;clear FS F3 V3 V5 LVV R3 RS IH R6 F6' R7 G7;go_wp2_with (at_builtin;refine Vu (by rfl) _ _ (by rfl) vv n2 _ (by rfl) O72 w7.heap.size nb' (by rfl) (zr _ _) (by omega) (w7.heap.size+1) (by simp) ?_;intro g cap w8 own8 gr8 hat8 hlt8;have N8:=N72.kp gr8 (by simp;intro e;exact(V5x.o Sn e).2 rfl);obtain⟨o0',o1',o2',of'⟩:=N8.fa);obtain⟨A1,A2⟩:=gALL.o g cap w8 own8 gr8 hat8;clear gALL;go_roundw
        case rel=>exact A1
        case measure=>rw[A2.penM,h4m.o];omega
       ·have HR6:Hd (rr= .error D):=by show _=_;rw[HR.o,hr6]
        have bW:=PW.lt;clear hr6 HR;go_wp2_with fail;refine(Si h6 nb).mono ?_;rintro e w7 ⟨rfl,h7,g7⟩;have g67:Ch [b] W w7:=g6.trans g7;have N7:=NS.kp g67 (by simp;omega);have O7:=zJ OS g67 (fun g hg=>by have:=V5 g hg;simp;omega);have O72:=zJ O7 (Ch.alloc [] w7 (.cells #[.pointer (some ⟨nb,0,none⟩)] 47)) (by simp);have N72:=N7.kp (Ch.alloc [] w7 (.cells #[.pointer (some ⟨nb,0,none⟩)] 47)) (by simp);have Z67:=g67.size;have ZW:=gW.size;obtain⟨o0,o1,o2,of⟩:=N7.fa;have V5x:=zC V5;clear FS F3 V3 V5 R3 RS IH;go_wp2_with (at_builtin;refine Vu (by rfl) _ _ (by rfl) vv n2 _ (by rfl) O72 w7.heap.size nb (by rfl) (zr _ _) (by omega) (w7.heap.size+1) (by simp) ?_;intro g cap w8 own8 gr8 hat8 hlt8;have N8:=N72.kp gr8 (by simp;intro e;exact(V5x.o Sn e).2 rfl);obtain⟨o0',o1',o2',of'⟩:=N8.fa)
        have hgS:w3.heap.size<=g/\g≠Sn:=by
         rcases hat8 with e|e
         ·exact V5x.o g e
         ·omega
        have PB:zj (w8.setCell ⟨Sn,2,none⟩ (.slice (some ⟨g,0,none⟩) (n2+1) cap)) b S D:=((h7.kp (Ch.alloc [] w7 (.cells #[.pointer (some ⟨nb,0,none⟩)] 47)) (by simp)).kp gr8 (by simp;intro e;have:=V5x.o b e;omega)).kp (Ch.setCell (X:=[Sn]) _ (by simp) _) (by simp;omega);go_roundw
        case rel=>
         refine⟨?_,_,n2+1,_,N8.set.2 _,zJ own8 (Ch.setCell (X:=[Sn]) _ (by simp) _) (fun k hk=>by simp[Value.ownBlock]at hk;subst hk;simpa using hgS.2),fun k hk=>by simp[Value.ownBlock]at hk;subst hk;exact hgS,Or.inr ⟨D,PB,HR6.o⟩⟩;refine(((gW.trans g67).trans (Ch.alloc _ _ _)).trans' gr8 (fun k hk=>Or.inr ?_)).setCell_new (Or.inr (by show w3.heap.size<=Sn;omega)) _;simp at hk;exact(V5x.o k hk).1
        case measure=>rw[PB.penM,h4m.o];omega
     ·have HR:Hd (rr= .ok (zF.row Ls2,s4)):=by
       show _=_;rw[HRW];simp only[yh];rw[if_pos (by rw[YL (by omega)];rfl)]
      have hd':decide (s4.i<S.size)=false:=by simp;omega
      have hd2':decide ((s4.i:Int)<S.size)=false:=by simp;omega
      clear HRW START;go_wp2_with fail;go_quiet (fail);clear c0 c1 c2 c3 c4 c5 c6 fz;have W0:=Ch.drewN [b] w5 nq;have PW:zO (w5.drewN nq) b S s4 (-1) d:=h4.drewN nq;have gW:Ch [b] w3 (w5.drewN nq):=g5.trans W0;have NS:yS (w5.drewN nq) Sn 115 (.slice none 0 0) vv:=N5;have OS:(w5.drewN nq).ownsRow 0 47 1 vv n2 (ks2.map ptr):=O5;have RS:j3 (w5.drewN nq) F2 h2 ks2 Ls2:=j3.frame (w:=w5) (w':=w5.drewN nq) (fun _ _=>rfl) (fun _ h=>h) R5;have FS:∀k,F2 k->w3.heap.size<=k/\k<(w5.drewN nq).heap.size/\k≠Sn/\vv.ownBlock≠some k:=F5;generalize w5.drewN nq=W at *;clear R5 F5 O5 N5 W0 h4;have NO:yS W O 111 (.slice none 0 0) v:=N3.kp gW (by simp;omega);have OO:W.ownsRow 0 47 1 v n0 (ks.map ptr):=zJ O3 gW (fun g hg=>by have:=V3 g hg;simp;omega);have OO2:=zJ OO (Ch.alloc [] W (.cells #[.pointer (some ⟨Sn,0,none⟩)] 47)) (by simp);have NO2:=NO.kp (Ch.alloc [] W (.cells #[.pointer (some ⟨Sn,0,none⟩)] 47)) (by simp);have ZW:=gW.size
      have LV:∀g,v.ownBlock=some g->g<w3.heap.size:=fun g hg=>(O3.lt g hg).2
      have LVV:∀g,vv.ownBlock=some g->g<W.heap.size:=fun g hg=>(OS.lt g hg).2
      have LSN:=NS.lt
      have gALL:Hd (∀(g cap:Nat) (w7:World),w7.ownsRow 0 47 1 (.slice (some ⟨g,0,none⟩) (n0+1) cap) (n0+1) (ks.map ptr++[ptr Sn])->Ch v.ownBlock.toList (W.alloc (.cells #[.pointer (some ⟨Sn,0,none⟩)] 47)) w7->(v.ownBlock=some g\/g=W.heap.size+1)->
       Ch [b] w (w7.setCell ⟨O,2,none⟩ (.slice (some ⟨g,0,none⟩) (n0+1) cap))/\yS (w7.setCell ⟨O,2,none⟩ (.slice (some ⟨g,0,none⟩) (n0+1) cap)) O 111 (.slice none 0 0) (.slice (some ⟨g,0,none⟩) (n0+1) cap)/\(w7.setCell ⟨O,2,none⟩ (.slice (some ⟨g,0,none⟩) (n0+1) cap)).ownsRow 0 47 1 (.slice (some ⟨g,0,none⟩) (n0+1) cap) (n0+1) ((ks++[Sn]).map ptr)/\(O<=g/\g≠O)/\zO (w7.setCell ⟨O,2,none⟩ (.slice (some ⟨g,0,none⟩) (n0+1) cap)) b S s4 (-1) d/\∃(F'':Nat->Prop) (h'':Nat),j3 (w7.setCell ⟨O,2,none⟩ (.slice (some ⟨g,0,none⟩) (n0+1) cap)) F'' h'' (ks++[Sn]) (Ls++[zF.row Ls2])/\(∀k,F'' k->O<=k/\k<(w7.setCell ⟨O,2,none⟩ (.slice (some ⟨g,0,none⟩) (n0+1) cap)).heap.size/\k≠O/\g≠k)):=by
       intro g cap w7 own7 gr7 hat7;have z7:=gr7.size;simp at z7
       have fr:∀k,k<W.heap.size->v.ownBlock≠some k->k≠O->(w7.setCell ⟨O,2,none⟩ (.slice (some ⟨g,0,none⟩) (n0+1) cap)).heap[k]? =W.heap[k]? :=by
        intro k h1 h2 h3;rw[Below.heap_setCell _ _ _ _ (by simpa using h3),gr7.block k (by simp;omega) (by simpa using h2),Below.heap_alloc _ _ _ h1]
       have gO:Ch [O] w7 (w7.setCell ⟨O,2,none⟩ (.slice (some ⟨g,0,none⟩) (n0+1) cap)):=Ch.setCell _ (by simp) _
       have hgO:O<=g/\g≠O:=by
        rcases hat7 with e|e
        ·have:=V3 g e;omega
        ·omega
       refine⟨?_,?_,?_,hgO,?_,fun k=>F k\/(F2 k\/k=Sn\/vv.ownBlock=some k),max hh (h2+1),?_,?_⟩
       ·refine(((g3.trans gW).trans (Ch.alloc _ _ _)).trans' gr7 (fun k hk=>Or.inr ?_)).setCell_new (Or.inr (by rw[HO.o];exact Nat.le_refl _)) _
        simp at hk;rw[HO.o];exact(V3 k hk).1
       ·exact(NO2.kp gr7 (by simp;intro e;exact(V3 O e).2 rfl)).set.2 _
       ·rw[List.map_append]
        exact zJ own7 gO (fun k hk=>by simp[Value.ownBlock]at hk;subst hk;simpa using hgO.2)
       ·exact(fr b PW.lt (fun e=>by have:=V3 b e;omega) (by omega)).trans PW
       ·refine j3.snoc (F:=F) (G:=fun k=>F2 k\/k=Sn\/vv.ownBlock=some k) ?_ ?_ (fun _ h=>Or.inl h) (fun _ h=>Or.inr h)
        ·refine R3.frame (fun k hk=> ?_) (fun _ h=>h)
         obtain⟨a1,a2,a3,a4⟩:=F3 k hk;rw[fr k (by omega) a4 a3,gW.block k (by omega) (by simp;omega)]
        ·have dis:∀k,(F2 k\/k=Sn\/vv.ownBlock=some k)->k<W.heap.size/\v.ownBlock≠some k/\k≠O:=by
          rintro k (hk|rfl|hk)
          ·obtain⟨a1,a2,a3,a4⟩:=FS k hk
           exact⟨a2,fun e=>by have:=LV k e;omega,by omega⟩
          ·exact⟨LSN,fun e=>by have:=LV _ e;have:=HSn.o;omega,by omega⟩
          ·have b1:=V5 k hk
           exact⟨LVV k hk,fun e=>by have:=LV _ e;omega,by omega⟩
         refine jk.frame (F:=fun k=>F2 k\/k=Sn\/vv.ownBlock=some k) (w:=W) (fun k hk=>fr k (dis k hk).1 (dis k hk).2.1 (dis k hk).2.2) (fun _ h=>h) (h:=h2+1) ?_;exact⟨Or.inr (Or.inl rfl),Or.inr (Or.inr ⟨vv,ks2,Ls2,115,NS,fun g hg=>Or.inr (Or.inr hg),hn2'.o ▸ OS,RS.1,fun i k L' a b=>(RS.2 i k L' a b).frame (fun _ _=>rfl) (fun _ h=>Or.inl h),Or.inl ⟨rfl,rfl⟩⟩)⟩
       ·rintro k (hk|hk|rfl|hk)
        ·obtain⟨a1,a2,a3,a4⟩:=F3 k hk
         refine⟨a1,by simp[World.setCell];omega,a3,fun e=> ?_⟩
         rcases hat7 with e7|e7
         ·exact a4 (e ▸ e7)
         ·omega
        ·obtain⟨a1,a2,a3,a4⟩:=FS k hk
         refine⟨by omega,by simp[World.setCell];omega,by omega,fun e=> ?_⟩
         rcases hat7 with e7|e7
         ·have:=LV g e7;omega
         ·omega
        ·refine⟨by omega,by simp[World.setCell];omega,by omega,fun e=> ?_⟩
         rcases hat7 with e7|e7
         ·have:=LV g e7;have:=HSn.o;omega
         ·omega
        ·have b1:=V5 k hk
         have b2:=LVV k hk;refine⟨by omega,by simp[World.setCell];omega,by omega,fun e=> ?_⟩
         rcases hat7 with e7|e7
         ·have:=LV g e7;omega
         ·omega
      obtain⟨o0,o1,o2,of⟩:=NO.fa;clear FS F3 V3 V5 LV LVV R3 RS IH;go_wp2_with (at_builtin;refine Vu (by rfl) _ _ (by rfl) v n0 _ (by rfl) OO2 W.heap.size Sn (by rfl) (zr _ _) (by omega) (W.heap.size+1) (by simp) ?_;intro g cap w7 own7 gr7 hat7 hlt7;have NO7:=NO2.kp gr7 (by simp;intro e;exact(V3x.o O e).2 rfl);obtain⟨o0',o1',o2',of'⟩:=NO7.fa);obtain⟨A1,A2,A3,A4,A5,F'',h'',A6,A7⟩:=gALL.o g cap w7 own7 gr7 hat7;clear gALL
      by_cases h124:bt S s4.i=124
      ·have AR2:Hd (r=jZ (fun s=>yh base S (S.size+1) s []) S m {s4 with i:=s4.i+1} (Ls++[zF.row Ls2])):=by
        show _=_;rw[AR.o];simp only[jZ];rw[HRR.o,HR.o];simp only[h124,if_true]
       have H124:=zC h124;have hl4:=yB (S:=S) (i:=s4.i) (by omega);clear h124;refine(Jm A5 _ (by omega) hS H124.o).mono ?_;rintro e w9 ⟨rfl,h9,g9⟩;go_wp2_with fail;go_roundw
       case rel=>
        refine⟨A1.trans g9,_,n0+1,_,A2.kp g9 (by simp;omega),zJ A3 g9 (fun k hk=>by simp[Value.ownBlock]at hk;subst hk;simp;omega),fun k hk=>by simp[Value.ownBlock]at hk;subst hk;exact A4,Or.inl ⟨_,ks++[Sn],Ls++[zF.row Ls2],F'',h'',m,h9,I4.later (by simp) rfl hl4,by simp;omega,rfl,by rw[List.length_append,hn0'.o];rfl,A6.frame (fun k hk=>g9.block k (A7 k hk).2.1 (by simp;have:=(A7 k hk).1;omega)) (fun _ h=>h),fun k hk=> ?_,Or.inl ⟨rfl,by simp;omega,by simp;omega,AR2⟩⟩⟩;obtain⟨a1,a2,a3,a4⟩:=A7 k hk;exact⟨a1,by have:=g9.size;omega,a3,by simp[Value.ownBlock];omega⟩
       case measure=>rw[Ze h9,Ze h3];simp;omega
      ·have AR2:Hd (r= .ok (zF.alt (Ls++[zF.row Ls2]),s4)):=by
        show _=_;rw[AR.o];simp only[jZ];rw[HRR.o,HR.o];simp only[h124,if_false]
       have H124:=zC h124;clear h124;refine(jh A5 _ (by omega) hS H124.o).mono ?_;rintro e w9 ⟨rfl,h9,g9⟩;go_wp2_with fail;go_roundw
       case rel=>
        refine⟨A1.trans g9,_,n0+1,_,A2.kp g9 (by simp;omega),zJ A3 g9 (fun k hk=>by simp[Value.ownBlock]at hk;subst hk;simp;omega),fun k hk=>by simp[Value.ownBlock]at hk;subst hk;exact A4,Or.inl ⟨_,ks++[Sn],Ls++[zF.row Ls2],F'',h'',m,h9,I4,by omega,rfl,by rw[List.length_append,hn0'.o];rfl,A6.frame (fun k hk=>g9.block k (A7 k hk).2.1 (by simp;have:=(A7 k hk).1;omega)) (fun _ h=>h),fun k hk=> ?_,Or.inr ⟨rfl,AR2⟩⟩⟩;obtain⟨a1,a2,a3,a4⟩:=A7 k hk;exact⟨a1,by have:=g9.size;omega,a3,by simp[Value.ownBlock];omega⟩
       case measure=>rw[WE,Ze h3];omega
    ·have HR:=zC HRW
     obtain⟨s5,nest5,p5,hi5⟩:=id h5;obtain⟨c0,c1,c2,c3,c4,c5,c6,fz⟩:=p5.fa
     have hd':decide ((D:Int)<0)=false:=by simp
     clear HRW START;go_wp2_with fail;go_quiet (fail);clear c0 c1 c2 c3 c4 c5 c6 fz p5;have W0:=Ch.drewN [b] w5 nq;have PW:zj (w5.drewN nq) b S D:=h5;have gW:Ch [b] w3 (w5.drewN nq):=g5.trans W0;generalize w5.drewN nq=W at *;clear W0;have NO:yS W O 111 (.slice none 0 0) v:=N3.kp gW (by simp;omega);have OO:W.ownsRow 0 47 1 v n0 (ks.map ptr):=zJ O3 gW (fun g hg=>by have:=V3 g hg;simp;omega);have OO2:=zJ OO (Ch.alloc [] W (.cells #[.pointer (some ⟨Sn,0,none⟩)] 47)) (by simp);have NO2:=NO.kp (Ch.alloc [] W (.cells #[.pointer (some ⟨Sn,0,none⟩)] 47)) (by simp)
     have AR2:Hd (r= .error D):=by
      show _=_;rw[AR.o];simp only[jZ];rw[HRR.o,HR.o]
     have ZW:=gW.size;obtain⟨o0,o1,o2,of⟩:=NO.fa;clear F3 V3 V5 R3 IH;go_wp2_with (at_builtin;refine Vu (by rfl) _ _ (by rfl) v n0 _ (by rfl) OO2 W.heap.size Sn (by rfl) (zr _ _) (by omega) (W.heap.size+1) (by simp) ?_;intro g cap w7 own7 gr7 hat7 hlt7;have NO7:=NO2.kp gr7 (by simp;intro e;exact(V3x.o O e).2 rfl);obtain⟨o0',o1',o2',of'⟩:=NO7.fa)
     have hgO:O<=g/\g≠O:=by
      rcases hat7 with e|e
      ·have:=V3x.o g e;omega
      ·omega
     have PB:zj (w7.setCell ⟨O,2,none⟩ (.slice (some ⟨g,0,none⟩) (n0+1) cap)) b S D:=((PW.kp (Ch.alloc [] W (.cells #[.pointer (some ⟨Sn,0,none⟩)] 47)) (by simp)).kp gr7 (by simp;intro e;have:=V3x.o b e;omega)).kp (Ch.setCell (X:=[O]) _ (by simp) _) (by simp;omega)
     have A1:Ch [b] w (w7.setCell ⟨O,2,none⟩ (.slice (some ⟨g,0,none⟩) (n0+1) cap)):=by
      refine(((g3.trans gW).trans (Ch.alloc _ _ _)).trans' gr7 (fun k hk=>Or.inr ?_)).setCell_new (Or.inr (by rw[HO.o];exact Nat.le_refl _)) _;simp at hk;rw[HO.o];exact(V3x.o k hk).1
     refine(VE PB _).mono ?_;rintro e w9 ⟨rfl,h9,g9⟩;go_wp2_with fail;go_roundw
     case rel=>
      exact⟨A1.trans g9,_,n0+1,_,(NO7.set.2 _).kp g9 (by simp;omega),zJ (zJ own7 (Ch.setCell (X:=[O]) _ (by simp) _) (fun k hk=>by simp[Value.ownBlock]at hk;subst hk;simpa using hgO.2)) g9 (fun k hk=>by simp[Value.ownBlock]at hk;subst hk;simp;omega),fun k hk=>by simp[Value.ownBlock]at hk;subst hk;exact hgO,Or.inr ⟨rfl,D,h9,AR2⟩⟩
     case measure=>rw[WE,Ze h3];omega
  ·go_wp2_with fail
   go_ret;refine⟨g3,Or.inl ⟨zF.alt Ls,s3,w.heap.size,hh+1,fun k=>F k\/k=w.heap.size\/v.ownBlock=some k,AR.o,rfl,h3,⟨Or.inr (Or.inl rfl),Or.inr (Or.inr ⟨v,ks,Ls,111,N3,fun g hg=>Or.inr (Or.inr hg),hn0 ▸ O3,R3.1,fun i k L' a b=>(R3.2 i k L' a b).frame (fun _ _=>rfl) (fun _ h=>Or.inl h),Or.inr ⟨rfl,rfl⟩⟩)⟩,?_,ge3,I3⟩⟩;rintro k (hk|rfl|hk)
   ·exact⟨(F3 k hk).1,(F3 k hk).2.1⟩
   ·exact⟨Nat.le_refl _,N3.lt⟩
   ·exact⟨(V3 k hk).1,(O3.lt k hk).2⟩
  ·go_wp2_with fail
   go_ret;exact⟨g3,Or.inr ⟨D,w.heap.size,AR.o,rfl,h3⟩⟩
end Go.Proofs.YteobgfbgglfkbaaGreat
