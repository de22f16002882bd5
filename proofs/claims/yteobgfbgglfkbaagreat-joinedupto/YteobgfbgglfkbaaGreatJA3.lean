import Derived.Test.YteobgfbgglfkbaaGreatJA2
set_option maxHeartbeats 1600000
namespace Go.Proofs.YteobgfbgglfkbaaGreat
open Go.RowKit
theorem Fa{S:ByteArray}(hS:S.size<=400):∀n,XF S n:=by
 intro n
 induction n with
 |zero=>intro w b s d h hv hn;have:=hv.i;omega
 |succ n ih=>exact Hr hS ih
theorem Pt{w:World}{b:Nat}{S:ByteArray}{d:Nat}(h:zj w b S d):
 Calls Tryz.prog 62 #[.pointer (some ⟨b,0,none⟩)] w fun e w'=>(∃nb,e= .returned (.pointer (some ⟨nb,0,none⟩)))/\zj w' b S d/\Ch [b] w w':=by
 have hbO:b<w.heap.size:=by obtain⟨s,nest,p,_⟩:=h;exact p.lt
 go_enter Tryz.func62,Tryz.ntmps62;go_wp2_with fail
 go_loopw [4,5,6] (fun again _ _ w3=>Ch [b] w w3/\zj w3 b S d/\((again= .bool true/\yS w3 w.heap.size 111 (.slice none 0 0) (.slice none 0 0))\/again= .bool false)) (fun again _ _ _=>if QT again then 1 else 0)
 case atStart=>exact⟨Ch.alloc _ _ _,h.kp (Ch.alloc [] _ _) (by simp),Or.inl ⟨rfl,yS.new _ _ _ _⟩⟩
 case round=>
  generalize wr=w3 at *;obtain⟨g3,h3,⟨rfl,N3⟩|rfl⟩:=hrel
  ·have hsz:=N3.lt
   generalize hO:w.heap.size=O at *;have HO:=zC hO;clear hO;go_wp2_with fail
   go_loopw [6] (fun _ w5=>w5=w3.alloc (.cells #[.int .u8 115,.slice none 0 0,.slice none 0 0] 195)) (fun _ _=>0)
   case atStart=>rfl
   case round=>
    have h5:zj wr b S d:=by rw[hrel];exact h3.kp (Ch.alloc [] _ _) (by simp)
    have N5:yS wr O 111 (.slice none 0 0) (.slice none 0 0):=by rw[hrel];exact N3.kp (Ch.alloc [] _ _) (by simp)
    have g5:Ch [b] w wr:=by rw[hrel];exact g3.trans (Ch.alloc _ _ _)
    clear hrel;generalize wr=w5 at *;obtain⟨s5,nest5,p5,hi5⟩:=id h5;obtain⟨c0,c1,c2,c3,c4,c5,c6,fz⟩:=p5.fa
    have hd':decide ((d:Int)<0)=false:=by simp
    go_wp2_with fail;go_quiet (fail);clear c0 c1 c2 c3 c4 c5 c6 fz p5;have h6:zj (w5.drewN nq) b S d:=h5;have N6:yS (w5.drewN nq) O 111 (.slice none 0 0) (.slice none 0 0):=N5;have g6:Ch [b] w (w5.drewN nq):=g5.trans (Ch.drewN _ _ _);generalize w5.drewN nq=W at *;obtain⟨o0,o1,o2,of⟩:=N6.fa;have N62:=N6.kp (Ch.alloc [] W (.cells #[.pointer (some ⟨w3.heap.size,0,none⟩)] 47)) (by simp);go_wp2_with (at_builtin;refine Vu (by rfl) _ _ (by rfl) (.slice none 0 0) 0 [] (by rfl) (World.ownsRow_nil _ _ _ _) W.heap.size w3.heap.size (by rfl) (zr _ _) (by omega) (W.heap.size+1) (by simp) ?_;intro g cap w7 own7 gr7 hat7 hlt7;have N7:=N62.kp gr7 (by simp[Value.ownBlock]);obtain⟨o0',o1',o2',of'⟩:=N7.fa);have PB:zj (w7.setCell ⟨O,2,none⟩ (.slice (some ⟨g,0,none⟩) 1 cap)) b S d:=((h6.kp (Ch.alloc [] W (.cells #[.pointer (some ⟨w3.heap.size,0,none⟩)] 47)) (by simp)).kp gr7 (by simp[Value.ownBlock])).kp (Ch.setCell (X:=[O]) _ (by simp) _) (by simp;omega);have A1:Ch [b] w (w7.setCell ⟨O,2,none⟩ (.slice (some ⟨g,0,none⟩) 1 cap)):=((g6.trans (Ch.alloc _ _ _)).trans (gr7.mono (by simp[Value.ownBlock]))).setCell_new (Or.inr (by show _<=O;rw[HO.o];exact Nat.le_refl _)) _;refine(VE PB _).mono ?_;rintro e w9 ⟨rfl,h9,g9⟩;go_wp2_with fail;go_roundw
    case rel=>exact⟨A1.trans g9,h9,Or.inr rfl⟩
    case measure=>simp[QT]
  ·go_wp2_with fail
   go_ret;exact⟨⟨_,rfl⟩,h3,g3⟩
def PS(w:World)(b:Nat)(S:ByteArray)(nest:Int)(σ:Except Nat St):Prop:=
 match σ with
 |.ok s=>zO w b S s (-1) nest/\s.i<=S.size
 |.error d=>zj w b S d
theorem PS.kp{w w':World}{b:Nat}{S:ByteArray}{nest:Int}{σ:Except Nat St}{X:List Nat}(h:PS w b S nest σ)(g:Ch X w w')(hb:b∉X):PS w' b S nest σ:=by
 cases σ with
 |ok s=>exact⟨h.1.kp g hb,h.2⟩
 |error d=>exact zj.kp h g hb
theorem PS.lt{w:World}{b:Nat}{S:ByteArray}{nest:Int}{σ:Except Nat St}(h:PS w b S nest σ):b<w.heap.size:=by
 cases σ with
 |ok s=>exact h.1.lt
 |error d=>obtain⟨s,nest,p,_⟩:=h;exact p.lt
def j4{α:Type}(x:α)(r:Except Nat (α×St)):α:=match r with|.ok (y,_)=>y|.error _=>x
def yd{α:Type}(r:Except Nat (α×St)):Except Nat St:=match r with|.ok (_,s)=> .ok s|.error d=> .error d
def zN{α:Type}(σ:Except Nat St)(f:St->Except Nat α):Except Nat α:=match σ with|.ok s=>f s|.error d=> .error d
def yF(σ:Except Nat St)(f:St->St):Except Nat St:=match σ with|.ok s=> .ok (f s)|.error d=> .error d
theorem YP{w:World}{b:Nat}{S:ByteArray}{nest:Int}{σ:Except Nat St}(h:PS w b S nest σ)(wr:Bool)(e a:Int):
 Calls Tryz.prog 53 #[.pointer (some ⟨b,0,none⟩),.bool wr,.int .i64 e,.int .i64 a] w fun r w'=>r= .returned (.tuple #[])/\PS w' b S nest (yF σ (zL wr e a))/\Ch [b] w w':=by
 cases σ with
 |ok s=>
  refine(QB h.1 wr e a).mono ?_;rintro r w' ⟨rfl,h1,g1⟩;exact⟨rfl,⟨h1,by rw[(yj _ _ _ _).1];exact h.2⟩,g1⟩
 |error d=>exact KF h wr e a
theorem Pl{w:World}{b:Nat}{S:ByteArray}{nest:Int}{σ:Except Nat St}(h:PS w b S nest σ)(hS:S.size<=400):
 Calls Tryz.prog 29 #[.pointer (some ⟨b,0,none⟩)] w fun e w'=>e= .returned (.tuple #[])/\PS w' b S nest (yF σ (St.sk S))/\Ch [b] w w':=by
 cases σ with
 |ok s=>
  refine(ZE h.1 h.2 hS).mono ?_;rintro r w' ⟨rfl,h1,g1⟩;exact⟨rfl,⟨h1,(zn _ _ _ h.2).2⟩,g1⟩
 |error d=>exact Yh h
def zh(S:ByteArray)(c:Int)(s:St):Except Nat St:=if bt S (run zI S s.i)=c then .ok {s with i:=run zI S s.i+1} else .error (run zI S s.i)
theorem Yi{w:World}{b:Nat}{S:ByteArray}{nest:Int}{σ:Except Nat St}(h:PS w b S nest σ)(hS:S.size<=400)(c:Int)(hc:0<=c):
 Calls Tryz.prog 58 #[.pointer (some ⟨b,0,none⟩),.int .u8 c] w fun e w'=>e= .returned (.tuple #[])/\PS w' b S nest (zN σ (zh S c))/\Ch [b] w w':=by
 cases σ with
 |ok s=>
  by_cases hq:bt S (run zI S s.i)=c
  ·refine(OQ h.1 c hc hS h.2 hq).mono ?_
   rintro r w' ⟨rfl,h1,g1⟩;have:=yB (S:=S) (i:=run zI S s.i) (by omega);refine⟨rfl,?_,g1⟩;simp only[zN,zh,hq,if_true];exact⟨h1,this⟩
  ·refine(Tq h.1 c hc hS h.2 hq).mono ?_
   rintro r w' ⟨rfl,h1,g1⟩;refine⟨rfl,?_,g1⟩;simp only[zN,zh,hq,if_false];exact h1
 |error d=>exact Us h c
def QR(S:ByteArray)(c:Int)(σ:Except Nat St):Bool:=match σ with|.ok s=>bt S (run zI S s.i)==c|.error _=>false
theorem NA{w:World}{b:Nat}{S:ByteArray}{nest:Int}{σ:Except Nat St}(h:PS w b S nest σ)(hS:S.size<=400)(c:Int)(hc:0<=c):
 Calls Tryz.prog 56 #[.pointer (some ⟨b,0,none⟩),.int .u8 c] w fun e w'=>e= .returned (.bool (QR S c σ))/\PS w' b S nest (yF σ (St.sk S))/\Ch [b] w w':=by
 cases σ with
 |ok s=>
  refine(Wl h.1 c hc hS h.2).mono ?_;rintro r w' ⟨rfl,h1,g1⟩;exact⟨rfl,⟨h1,(zn _ _ _ h.2).2⟩,g1⟩
 |error d=>exact Up h c
theorem Ub{w:World}{b:Nat}{S:ByteArray}{nest:Int}{σ:Except Nat St}(h:PS w b S nest σ)(hS:S.size<=400):
 Calls Tryz.prog 54 #[.pointer (some ⟨b,0,none⟩)] w fun e w'=>∃a:Int,e= .returned (.tuple #[.string (j4 (ByteArray.empty,0) (zN σ (yA S))).1,.int .i64 a])/\(∀x p s',zN σ (yA S)= .ok ((x,p),s')->a=p)/\PS w' b S nest (yd (zN σ (yA S)))/\Ch [b] w w':=by
 cases σ with
 |ok s=>
  simp only[zN]
  cases hn:yA S s with
  |ok p=>
   obtain⟨⟨x,a⟩,s'⟩:=p;refine(SN h.1 hS h.2 hn).mono ?_;rintro r w' ⟨rfl,h1,g1⟩;exact⟨a,rfl,fun x' p' s'' e=>(by simp at e;simp[e]),⟨h1,(Vn h.2 hn).2.2.1⟩,g1⟩
  |error d=>
   refine(Fl h.1 hS h.2 hn).mono ?_;rintro r w' ⟨⟨a,rfl⟩,h1,g1⟩;exact⟨a,rfl,fun x' p' s'' e=>(by simp at e),h1,g1⟩
 |error d=>
  refine(aK h hS).mono ?_;rintro r w' ⟨⟨a,rfl⟩,h1,g1⟩;exact⟨a,rfl,fun x' p' s'' e=>(by simp[zN]at e),h1,g1⟩
theorem Uv{S:ByteArray}{s s':St}{x:ByteArray}{a:Nat}(hi:s.i<=S.size)(h:yW S s= .ok ((x,a),s')):s.i<=a/\a<s'.i/\s'.i<=S.size/\s'.e=s.e/\s'.a=s.a/\s'.k=s.k:=by
 have hi1:=zn zI S s.i hi;unfold yW at h;simp only at h
 split at h
 ·rename_i hq
  have hl:=yB (S:=S) (i:=run zI S s.i) (by omega);have b:=Nc (S:=S) (S.size+1) {s with i:=run zI S s.i+1} ByteArray.empty (by simp;omega)
  split at h
  ·rename_i x0 s0 hf
   rw[hf]at b
   injection h with h
   injection h with e1 e2
   injection e1 with e0 e1
   subst e0 e1 e2;simp only at b;exact⟨hi1.1,by omega,b.2.1,b.2.2.1,b.2.2.2.1,b.2.2.2.2⟩
  ·cases h
 ·cases h
theorem Kd{w:World}{b:Nat}{S:ByteArray}{nest:Int}{σ:Except Nat St}(h:PS w b S nest σ)(hS:S.size<=400):
 Calls Tryz.prog 93 #[.pointer (some ⟨b,0,none⟩)] w fun e w'=>∃a:Int,e= .returned (.tuple #[.string (j4 (ByteArray.empty,0) (zN σ (yW S))).1,.int .i64 a])/\(∀x p s',zN σ (yW S)= .ok ((x,p),s')->a=p)/\PS w' b S nest (yd (zN σ (yW S)))/\Ch [b] w w':=by
 cases σ with
 |ok s=>
  simp only[zN]
  cases hn:yW S s with
  |ok p=>
   obtain⟨⟨x,a⟩,s'⟩:=p;refine(Sq h.1 hS h.2 hn).mono ?_;rintro r w' ⟨rfl,h1,g1⟩;exact⟨a,rfl,fun x' p' s'' e=>(by simp at e;simp[e]),⟨h1,(Uv h.2 hn).2.2.1⟩,g1⟩
  |error d=>
   refine(Ov h.1 hS h.2 hn).mono ?_;rintro r w' ⟨⟨a,rfl⟩,h1,g1⟩;exact⟨a,rfl,fun x' p' s'' e=>(by simp at e),h1,g1⟩
 |error d=>
  refine(IP h).mono ?_;rintro r w' ⟨⟨a,rfl⟩,h1,g1⟩;exact⟨a,rfl,fun x' p' s'' e=>(by simp[zN]at e),h1,g1⟩
def yI(S:ByteArray)(L:List ByteArray)(s:St):Except Nat ((ByteArray×Nat)×St):=
 let i:=run zI S s.i
 let x:=S.extract i (run zR S i)
 if JS L x then .ok ((x,i),{s with i:=run zR S i})else .error i
theorem Wn{w:World}{b:Nat}{S:ByteArray}{nest:Int}{σ:Except Nat St}(h:PS w b S nest σ)(hS:S.size<=400){r:Nat}{L:List ByteArray}(hr:JZ w r L)(hrb:r≠b)(hL:L.length<=10)(hin:ByteArray.empty∉L)(n cap:Nat)(hn:n=L.length):
 Calls Tryz.prog 30 #[.pointer (some ⟨b,0,none⟩),.slice (some ⟨r,0,none⟩) n cap] w fun e w'=>∃a:Int,e= .returned (.tuple #[.string (j4 (ByteArray.empty,0) (zN σ (yI S L))).1,.int .i64 a])/\(∀x p s',zN σ (yI S L)= .ok ((x,p),s')->a=p)/\PS w' b S nest (yd (zN σ (yI S L)))/\Ch [b] w w':=by
 subst hn
 cases σ with
 |ok s=>
  have hi1:=zn zI S s.i h.2;have hi2:=zn zR S _ hi1.2;simp only[zN,yI]
  cases hn:JS L (S.extract (run zI S s.i) (run zR S (run zI S s.i)))with
  |true=>
   refine(GY h.1 hS h.2 hr hrb hL (Jv.1 hn) cap).mono ?_;rintro r w' ⟨rfl,h1,g1⟩;exact⟨_,rfl,fun x' p' s'' e=>(by simp at e;simp[e]),⟨h1,hi2.2⟩,g1⟩
  |false=>
   refine(Ez h.1 hS h.2 hr hrb hL (Qn.1 hn) cap).mono ?_;rintro r w' ⟨rfl,h1,g1⟩;exact⟨_,rfl,fun x' p' s'' e=>(by simp at e),h1,g1⟩
 |error d=>
  refine(Px h hS hr hrb hL hin cap).mono ?_;rintro r w' ⟨⟨a,rfl⟩,h1,g1⟩;exact⟨a,rfl,fun x' p' s'' e=>(by simp[zN]at e),h1,g1⟩
theorem Sz{w:World}{b:Nat}{S:ByteArray}{nest:Int}{σ:Except Nat St}(h:PS w b S nest σ)(hS:S.size<=400):
 Calls Tryz.prog 94 #[.pointer (some ⟨b,0,none⟩)] w fun e w'=>∃c,e= .returned (.slice (some ⟨c,0,none⟩) 256 256)/\(∀L s',zN σ (yn S)= .ok (L,s')->w.heap.size<=c/\zq w' c 256 (zo L))/\PS w' b S nest (yd (zN σ (yn S)))/\Ch [b] w w':=by
 cases σ with
 |ok s=>
  simp only[zN]
  cases hn:yn S s with
  |ok p=>
   obtain⟨L,s'⟩:=p;refine(DB h.1 hS hn).mono ?_;rintro r w' ⟨c,rfl,z1,B1,h1,g1⟩;exact⟨c,rfl,fun x' s'' e=>(by simp at e;rw[<- e.1];exact⟨z1,B1⟩),⟨h1,(VO hn).2.1⟩,g1⟩
  |error d=>
   refine(DH h.1 hS h.2 hn).mono ?_;rintro r w' ⟨⟨c,rfl⟩,h1,g1⟩;exact⟨c,rfl,fun x' s'' e=>(by simp at e),h1,g1⟩
 |error d=>
  refine(Hh h).mono ?_;rintro r w' ⟨⟨c,rfl⟩,h1,g1⟩;exact⟨c,rfl,fun x' s'' e=>(by simp[zN]at e),h1,g1⟩
end Go.Proofs.YteobgfbgglfkbaaGreat
namespace Go.Proofs.YteobgfbgglfkbaaGreat
open Go.RowKit
attribute [local go_sem ↓] Go.wp_at_zero Go.wp_at_succ
def zE(w:World)(B:Nat)(cs:Array Value)(T:TypeId):Prop:=w.heap[B]? =some (.cells cs T)
theorem zE.lt{w:World}{B:Nat}{cs:Array Value}{T:TypeId}(h:zE w B cs T):B<w.heap.size:=by
 rcases Nat.lt_or_ge B w.heap.size with h'|h'
 ·exact h'
 ·simp[zE,Array.getElem?_eq_none h']at h
theorem zE.kp{w w':World}{B:Nat}{cs:Array Value}{T:TypeId}{X:List Nat}(h:zE w B cs T)(g:Ch X w w')(hb:B∉X):zE w' B cs T:=(g.block B h.lt hb).trans h
theorem zE.cl{w:World}{B:Nat}{cs:Array Value}{T:TypeId}(h:zE w B cs T)(i:Nat)(v:Value)(hv:cs[i]? =some v):w.cell? ⟨B,i,none⟩=some v:=by
 unfold zE at h;simp[World.cell?,h,hv]
theorem zE.fz{w:World}{B:Nat}{cs:Array Value}{T:TypeId}(h:zE w B cs T)(o:Nat):w.frozen? ⟨B,o,none⟩=false:=by
 unfold zE at h;simp[World.frozen?,h]
theorem zE.set{w:World}{B:Nat}{cs:Array Value}{T:TypeId}(h:zE w B cs T)(i:Nat)(v:Value):zE (w.setCell ⟨B,i,none⟩ v) B (cs.setIfInBounds i v) T:=by
 unfold zE at *;simp[World.setCell,Array.getElem?_modify,h]
theorem zE.new(w:World)(cs:Array Value)(T:TypeId):zE (w.alloc (.cells cs T)) w.heap.size cs T:=zr _ _
def Ju:List ByteArray:=[⟨#[98,121,116,101]⟩,⟨#[117,112,112,101,114]⟩,⟨#[108,111,119,101,114]⟩]
def yk(S:ByteArray)(s:St):Except Nat ((Int×ByteArray)×St):=
 if bt S (run zI S s.i)=34 then
  match yW S (s.sk S)with
  |.ok ((x,a),s1)=> .ok ((116,x),zL (decide (4<(x.size:Int))) 3 a s1)
  |.error d=> .error d
 else
  match yI S Ju (s.sk S)with
  |.ok ((x,_),s1)=> .ok ((bt x 0,ByteArray.empty),s1)
  |.error d=> .error d
theorem Og{w:World}{b:Nat}{S:ByteArray}{nest:Int}{σ:Except Nat St}(h:PS w b S nest σ)(hS:S.size<=400):
 Calls Tryz.prog 95 #[.pointer (some ⟨b,0,none⟩)] w fun e w'=>∃K T,e= .returned (.agg #[.int .u8 K,.string T])/\(∀K' T' s',zN σ (yk S)= .ok ((K',T'),s')->K=K'/\T=T')/\PS w' b S nest (yd (zN σ (yk S)))/\Ch [b] w w':=by
 have hbl:=h.lt;have h0:=h.kp (Ch.alloc [] w (.cells #[.int .u8 0,.string ⟨#[]⟩] 191)) (by simp);have g0:=Ch.alloc [b] w (.cells #[.int .u8 0,.string ⟨#[]⟩] 191);have R0:=zE.new w #[.int .u8 0,.string ⟨#[]⟩] 191;go_enter Tryz.func95,Tryz.ntmps95;go_wp2_with fail;generalize w.alloc (.cells #[.int .u8 0,.string ⟨#[]⟩] 191)=w0 at *;have zB:w.heap.size<=w.heap.size:=Nat.le_refl _;generalize hB:w.heap.size=B at *;have HB:=zC hB;clear hB;refine(NA h0 hS _ (by omega)).mono ?_;rintro e w1 ⟨rfl,h1,g1⟩
 cases hq:QR S 34 σ with
 |true=>
  go_wp2_with fail;refine(Kd h1 hS).mono ?_;rintro e w2 ⟨a,rfl,ha,h2,g2⟩;generalize hT:(j4 (ByteArray.empty,0) (zN (yF σ (St.sk S)) (yW S))).1=T;have HT:=zC hT;have HA:=zC ha;clear hT ha;go_wp2_with fail;refine(YP h2 _ _ _).mono ?_;rintro e w3 ⟨rfl,h3,g3⟩;have R3:=R0.kp (g1.trans (g2.trans g3)) (by simp;omega);have r0:=R3.cl 0 _ rfl;have r1:=R3.cl 1 _ rfl;have rf:=R3.fz;go_wp2_with fail;refine bodyPost_ret (v:= .agg #[.int .u8 116,.string T]) (by simp[results,Tryz.results95,go_sem,r0,r1]) rfl ⟨116,T,rfl,?_,?_,?_⟩
  ·intro K' T' s' hr
   cases σ with
   |error d=>simp[zN]at hr
   |ok s=>
    simp only[QR,beq_iff_eq]at hq;simp only[zN,yk,hq,if_true]at hr;have h1:=HT.o;simp only[yF,zN]at h1
    split at hr
    ·rename_i x p s1 ht
     rw[ht]at h1;simp at hr;exact⟨hr.1.1,by rw[<- h1,<- hr.1.2];rfl⟩
    ·cases hr
  ·have h4:=(h3.kp (Ch.setCell (X:=[B]) w3 (p:=⟨B,0,none⟩) (by simp) (.int .u8 116)) (by simp;omega)).kp (Ch.setCell (X:=[B]) _ (p:=⟨B,1,none⟩) (by simp) (.string T)) (by simp;omega)
   cases σ with
   |error d=>exact h4
   |ok s=>
    simp only[QR,beq_iff_eq]at hq;have h1:=HT.o;have h5:=HA.o;simp only[yF,zN]at h1 h4 h5 ⊢;simp only[yk,hq,if_true]
    cases ht:yW S (s.sk S)with
    |error d=>rw[ht]at h4;exact h4
    |ok p=>
     obtain⟨⟨x,p⟩,s1⟩:=p;rw[ht]at h1 h4;have:=h5 x p s1 ht;subst this;have e1:x=T:=h1;subst e1;exact h4
  ·exact(((g0.trans (g1.trans (g2.trans g3))).setCell_new (Or.inr (by rw[HB.o];exact Nat.le_refl _)) _).setCell_new (Or.inr (by rw[HB.o];exact Nat.le_refl _)) _)
 |false=>
  have h1':=h1.kp (Ch.alloc [] w1 (.cells (Ju.map Value.string).toArray 9)) (by simp);have zw1:=(g0.trans g1).size;have b1:=h1.lt;have hstr:JZ (w1.alloc (.cells (Ju.map Value.string).toArray 9)) w1.heap.size Ju:=zr _ _;have g1':=Ch.alloc [b] w1 (.cells (Ju.map Value.string).toArray 9);go_wp2_with fail;refine(Wn h1' hS hstr (by omega) (by decide) (Qn.1 rfl) 3 3 rfl).mono ?_;rintro e w2 ⟨a,rfl,ha,h2,g2⟩;have gA:Ch [b] w0 w2:=g1.trans (g1'.trans g2);have R2:=R0.kp gA (by simp;omega);have r0:=R2.cl 0 _ rfl;have r1:=R2.cl 1 _ rfl;have rf:=R2.fz
  have HST:Hd (∀s,σ= .ok s->¬bt S (run zI S s.i)=34):=by
   rintro s rfl
   simpa[QR]using hq
  clear ha h1' hstr g1' hq
  cases hw:zN (yF σ (St.sk S)) (yI S Ju)with
  |error d=>
   obtain⟨q1,q2⟩:=VK (X:=ByteArray.empty) rfl
   have HR:Hd (zN σ (yk S)= .error d):=by
    show _=_
    cases σ with
    |error d'=>simpa[yF,zN]using hw
    |ok s=>
     simp only[zN,yF]at hw ⊢;simp only[yk,if_neg (HST.o s rfl),hw]
   rw[hw]at h2;simp only[j4];clear hw;go_wp2_with fail;refine bodyPost_ret (v:= .agg #[.int .u8 0,.string ⟨#[]⟩]) (by simp[results,Tryz.results95,go_sem,r0,r1]) rfl ⟨0,⟨#[]⟩,rfl,?_,?_,?_⟩
   ·intro K' T' s' hr;rw[HR.o]at hr;cases hr
   ·rw[HR.o]
    exact(h2.kp (Ch.setCell (X:=[B]) w2 (p:=⟨B,0,none⟩) (by simp) _) (by simp;omega)).kp (Ch.setCell (X:=[B]) _ (p:=⟨B,1,none⟩) (by simp) _) (by simp;omega)
   ·exact((g0.trans gA).setCell_new (Or.inr (by rw[HB.o];exact Nat.le_refl _)) _).setCell_new (Or.inr (by rw[HB.o];exact Nat.le_refl _)) _
  |ok p=>
   obtain⟨⟨x,p⟩,s1⟩:=p
   have HR:Hd (zN σ (yk S)= .ok ((bt x 0,ByteArray.empty),s1)):=by
    show _=_
    cases σ with
    |error d'=>simp[yF,zN]at hw
    |ok s=>
     simp only[zN,yF]at hw ⊢;simp only[yk,if_neg (HST.o s rfl),hw]
   have hx:x∈Ju:=by
    cases σ with
    |error d'=>simp[yF,zN]at hw
    |ok s=>
     simp only[zN,yF,yI]at hw
     split at hw
     ·rename_i hh
      simp at hw;rw[<- hw.1.1];exact Jv.1 hh
     ·cases hw
   rw[hw]at h2;simp only[j4];clear hw;simp only[Ju,List.mem_cons,List.not_mem_nil,or_false]at hx
   rcases hx with rfl|rfl|rfl
   all_goals
    go_wp2_with fail;refine bodyPost_ret (v:= .agg #[.int .u8 _,.string ⟨#[]⟩]) (by simp[results,Tryz.results95,go_sem,r0,r1];rfl) rfl ⟨_,⟨#[]⟩,rfl,?_,?_,?_⟩
    ·intro K' T' s' hr;rw[HR.o]at hr;simp at hr;exact⟨by rw[<- hr.1.1];rfl,by rw[<- hr.1.2];rfl⟩
    ·rw[HR.o]
     exact(h2.kp (Ch.setCell (X:=[B]) w2 (p:=⟨B,0,none⟩) (by simp) _) (by simp;omega)).kp (Ch.setCell (X:=[B]) _ (p:=⟨B,1,none⟩) (by simp) _) (by simp;omega)
    ·exact((g0.trans gA).setCell_new (Or.inr (by rw[HB.o];exact Nat.le_refl _)) _).setCell_new (Or.inr (by rw[HB.o];exact Nat.le_refl _)) _
def Jt:ByteArray:=⟨#[115,119,97,112]⟩
def jG(S:ByteArray)(s:St):Except Nat ((ByteArray×ByteArray)×St):=
 match yI S [Jt] s with
 |.error d=> .error d
 |.ok (_,s1)=>
  match yW S s1 with
  |.error d=> .error d
  |.ok ((x,a),s2)=>
   match yW S (zL (decide (x.size=0\/4<x.size)) 3 a s2)with
   |.error d=> .error d
   |.ok ((y,c),s3)=>
    match zh S 59 (zL (decide (4<(y.size:Int))) 3 c s3)with
    |.error d=> .error d
    |.ok s4=> .ok ((x,y),s4)
theorem Ea{S:ByteArray}{σ σ1 σ2:Except Nat St}{X Y:ByteArray}{a3 a5:Int}(H1:yd (zN σ (yI S [Jt]))=σ1)(H2:yd (zN σ1 (yW S))=σ2)
 (HX:(j4 (ByteArray.empty,0) (zN σ1 (yW S))).1=X) (HA3:∀x p s',zN σ1 (yW S)= .ok ((x,p),s')->a3=p)
 (HY:(j4 (ByteArray.empty,0) (zN (yF σ2 (zL (decide (X.size=0\/4<X.size)) 3 a3)) (yW S))).1=Y) (HA5:∀x p s',zN (yF σ2 (zL (decide (X.size=0\/4<X.size)) 3 a3)) (yW S)= .ok ((x,p),s')->a5=p):
 zN (yF (yd (zN (yF σ2 (zL (decide (X.size=0\/4<X.size)) 3 a3)) (yW S))) (zL (decide (4<(Y.size:Int))) 3 a5)) (zh S 59)=yd (zN σ (jG S))/\∀x' y' s',zN σ (jG S)= .ok ((x',y'),s')->X=x'/\Y=y':=by
 subst H1 H2
 cases σ with
 |error d=>exact⟨rfl,fun _ _ _ h=>by cases h⟩
 |ok s=>
  simp only[zN,jG]
  cases hw:yI S [Jt] s with
  |error d=>exact⟨rfl,fun _ _ _ h=>by cases h⟩
  |ok p=>
   obtain⟨q,s1⟩:=p;simp only[yd,zN,hw]at HX HA3 HY HA5 ⊢
   cases ht:yW S s1 with
   |error d=>exact⟨rfl,fun _ _ _ h=>by cases h⟩
   |ok p=>
    obtain⟨⟨x,a⟩,s2⟩:=p;rw[ht]at HX HY HA5;have e3:=HA3 x a s2 ht;subst e3;simp only[j4]at HX;subst HX;simp only[yF]at HY HA5 ⊢
    cases hu:yW S (zL (decide (x.size=0\/4<x.size)) 3 a s2)with
    |error d=>exact⟨rfl,fun _ _ _ h=>by cases h⟩
    |ok p=>
     obtain⟨⟨y,c⟩,s3⟩:=p;rw[hu]at HY;have e5:=HA5 y c s3 hu;subst e5;simp only[j4]at HY;subst HY;simp only
     cases hv:zh S 59 (zL (decide (4<(y.size:Int))) 3 c s3)with
     |error d=>exact⟨rfl,fun _ _ _ h=>by cases h⟩
     |ok s4=>exact⟨rfl,fun _ _ _ h=>by simp at h;exact⟨h.1.1,h.1.2⟩⟩
theorem Ta{w:World}{b B:Nat}{S:ByteArray}{nest:Int}{σ:Except Nat St}{v0 v1 v2 v3 v4:Value}(h:PS w b S nest σ)(hS:S.size<=400)(hB:zE w B #[v0,v1,v2,v3,v4] 131)(hbB:B≠b):
 Calls Tryz.prog 57 #[.pointer (some ⟨b,0,none⟩),.pointer (some ⟨B,0,none⟩)] w fun e w'=>∃x y,e= .returned (.tuple #[])/\zE w' B #[v0,.bool true,.string x,.string y,v4] 131/\(∀x' y' s',zN σ (jG S)= .ok ((x',y'),s')->x=x'/\y=y')/\PS w' b S nest (yd (zN σ (jG S)))/\Ch [b,B] w w':=by
 have hbl:=h.lt;have h0:=h.kp (Ch.alloc [] w (.cells ([Jt].map Value.string).toArray 9)) (by simp);have B0:=hB.kp (Ch.alloc [] w (.cells ([Jt].map Value.string).toArray 9)) (by simp);have g0:=Ch.alloc [b,B] w (.cells ([Jt].map Value.string).toArray 9);have hstr:JZ (w.alloc (.cells ([Jt].map Value.string).toArray 9)) w.heap.size [Jt]:=zr _ _;go_enter Tryz.func57,Tryz.ntmps57;go_wp2_with fail;refine(Wn h0 hS hstr (by omega) (by decide) (Qn.1 rfl) 1 1 rfl).mono ?_;rintro e w1 ⟨a1,rfl,_,h1,g1⟩;have B1:=B0.kp g1 (by simpa using hbB);have r1:=B1.cl 1 _ rfl;have rf:=B1.fz;go_wp2_with fail;have h2:=h1.kp (Ch.setCell (X:=[B]) w1 (p:=⟨B,1,none⟩) (by simp) (.bool true)) (by simpa using Ne.symm hbB);have B2:=B1.set 1 (.bool true);have g2:Ch [b,B] w (w1.setCell ⟨B,1,none⟩ (.bool true)):=(g0.trans (g1.mono (by simp))).trans (Ch.setCell _ (by simp) _);clear r1 rf;generalize w1.setCell ⟨B,1,none⟩ (.bool true)=w2 at *;generalize hσ1:yd (zN σ (yI S [Jt]))=σ1 at *;have H1:=zC hσ1;clear hσ1 h1 B1 g1 h0 B0 g0 hstr;refine(Kd h2 hS).mono ?_;rintro e w3 ⟨a3,rfl,ha3,h3,g3⟩;have HA3:=zC ha3;clear ha3;generalize hX:(j4 (ByteArray.empty,0) (zN σ1 (yW S))).1=X;have HX:=zC hX;clear hX;generalize hσ2:yd (zN σ1 (yW S))=σ2 at *;have H2:=zC hσ2;clear hσ2
 have cont:∀w4,PS w4 b S nest (yF σ2 (zL (decide (X.size=0\/4<X.size)) 3 a3))->Ch [b] w3 w4->Calls Tryz.prog 93 #[.pointer (some ⟨b,0,none⟩)] w4 fun e w'=>∃a:Int,e= .returned (.tuple #[.string (j4 (ByteArray.empty,0) (zN (yF σ2 (zL (decide (X.size=0\/4<X.size)) 3 a3)) (yW S))).1,.int .i64 a])/\(∀x p s',zN (yF σ2 (zL (decide (X.size=0\/4<X.size)) 3 a3)) (yW S)= .ok ((x,p),s')->a=p)/\PS w' b S nest (yd (zN (yF σ2 (zL (decide (X.size=0\/4<X.size)) 3 a3)) (yW S)))/\Ch [b] w3 w':=by
  intro w4 h4 g4;refine(Kd h4 hS).mono ?_;rintro e w5 ⟨a5,rfl,ha5,h5,g5⟩;exact⟨a5,rfl,ha5,h5,g4.trans g5⟩
 have CONT:=zC cont;clear cont
 by_cases hz:X.size=0
 all_goals
  first
   |have q1:((X.size:Int)==0)=true:=by simp[hz]
    have HW:Hd (decide (X.size=0\/4<X.size)=true):=by show _=_;simp[hz]
   |have q1:((X.size:Int)==0)=false:=by rw[beq_eq_false_iff_ne];omega
    have HW:Hd (decide (X.size=0\/4<X.size)=decide (4<(X.size:Int))):=by show _=_;rw[Bool.eq_iff_iff];simp only[decide_eq_true_eq];omega
  have HZ:=zC hz;clear hz;go_wp2_with fail;refine(YP h3 _ _ _).mono ?_;rintro e w4 ⟨rfl,h4,g4⟩;rw[<- HW.o]at h4;go_wp2_with fail;refine(CONT.o _ h4 g4).mono ?_;rintro e w5 ⟨a5,rfl,ha5,h5,g5⟩;have HA5:=zC ha5;clear ha5;generalize hY:(j4 (ByteArray.empty,0) (zN (yF σ2 (zL (decide (X.size=0\/4<X.size)) 3 a3)) (yW S))).1=Y;have HY:=zC hY;clear hY;go_wp2_with fail;refine(YP h5 _ _ _).mono ?_;rintro e w6 ⟨rfl,h6,g6⟩;have B6:=B2.kp (g3.trans (g5.trans g6)) (by simpa using hbB);have r2:=B6.cl 2 v2 rfl;have r3:=B6.cl 3 v3 rfl;have rf:=B6.fz;have gA:Ch [b,B] w w6:=g2.trans ((g3.trans (g5.trans g6)).mono (by simp));go_wp2_with fail;have h7:=(h6.kp (Ch.setCell (X:=[B]) w6 (p:=⟨B,2,none⟩) (by simp) (.string X)) (by simpa using Ne.symm hbB)).kp (Ch.setCell (X:=[B]) _ (p:=⟨B,3,none⟩) (by simp) (.string Y)) (by simpa using Ne.symm hbB);have B7:=(B6.set 2 (.string X)).set 3 (.string Y);have g7:Ch [b,B] w ((w6.setCell ⟨B,2,none⟩ (.string X)).setCell ⟨B,3,none⟩ (.string Y)):=(gA.trans (Ch.setCell _ (by simp) _)).trans (Ch.setCell _ (by simp) _);refine(Yi h7 hS _ (by omega)).mono ?_;rintro e w8 ⟨rfl,h8,g8⟩;go_wp2_with fail
  go_end0
  refine⟨X,Y,rfl,B7.kp g8 (by simpa using hbB),?_,?_,g7.trans (g8.mono (by simp))⟩
  ·exact(Ea H1.o H2.o HX.o HA3.o HY.o HA5.o).2
  ·rw[<- (Ea H1.o H2.o HX.o HA3.o HY.o HA5.o).1]
   exact h8
theorem QC{W:World}{ops:Array Oper}{rest:List Oper}{o:Oper}{a:Act}{Q:Exit->Act->World->Prop}(T E:TypeId)(size bytes:Nat)(z:Value)(hT:Tryz.prog.underlying T=some (.slice E))
 (hinfo:(Tryz.prog.info? E).map (fun i=>(i.zero,i.size,i.bytes))=some (some z,size,bytes)) (hzs:z.cells.size=size) (hsz:0<size) (hby:bytes<=1000) (hgd:o.guard=none) (sx xx:Operand)
 (ho:o.op= .call {callee:= .builtin .append,args:= #[sx,xx],argTypes:= #[T,T]}) (v:Value) (n:Nat) (xs:List Value) (hs:a.eval sx=v) (hown:W.ownsRow 0 E size v n xs)
 (N:Nat) (news:List Value) (hx:a.eval xx= .slice (some ⟨N,0,none⟩) 1 1) (hN:W.heap[N]? =some (.cells news.toArray E)) (hl:news.length=size) (h1:∀u∈news,u.oneCell'=true) (hn:n<=1000) (H:Nat) (hH:W.heap.size=H)
 (h:∀g cap w',w'.ownsRow 0 E size (.slice (some ⟨g,0,none⟩) (n+1) cap) (n+1) (xs++news)->Ch v.ownBlock.toList W w'->(v.ownBlock=some g\/g=H)->g<w'.heap.size->wpList Tryz.prog ops Q rest (a.put o.dst (.slice (some ⟨g,0,none⟩) (n+1) cap)) w'):
 wpList Tryz.prog ops Q (o:: rest) a W:=by
 obtain⟨i,hi,hz0,hz1,hz2⟩:=info_parts hinfo;refine wpList_append_lies W hgd sx xx T ho 0 E i z size bytes hT hi hz0 hz1 hz2 hzs hsz v n xs hs hown ⟨N,0,none⟩ 1 1 news hx (by omega) ?_ h1 (by omega) (by simp only[maxLen];omega) ?_ (Nat.zero_le _) H hH ?_
 ·have:=World.news_of_block hN
  simpa using this
 ·have:(n+1) * bytes<=1001 * 1000:=Nat.mul_le_mul (by omega) hby
  omega
 ·intro g cap w' h1 h2 h3 h4
  exact h g cap w' h1 (Ch.grown h2) h3 h4
theorem Tx:(Tryz.prog.info? 191).map (fun i=>(i.zero,i.size,i.bytes))=some (some (.agg #[.int .u8 0,.string ⟨#[]⟩]),2,24):=by kernel_rfl
def Za:ByteArray:=⟨#[116,111]⟩
def jy:ByteArray:=⟨#[110,111,110,101]⟩
def jq(S:ByteArray):Nat->St->List (Int×ByteArray)->Except Nat (List (Int×ByteArray)×St)
 |0,s,_=> .error s.i
 |n+1,s,P=>
  match yk S (zL (decide (3<=(P.length:Int))) 3 (s.sk S).i (s.sk S))with
  |.error d=> .error d
  |.ok (p,s1)=>if bt S (run zI S s1.i)=59 then .ok (P++[p],s1.sk S)else jq S n (s1.sk S) (P++[p])
def Uq(S:ByteArray)(s:St):ByteArray:=S.extract (run zI S s.i) (run zR S (run zI S s.i))
def jt(S:ByteArray)(s:St):Except Nat (List (Int×ByteArray)×St):=
 if yQ (Uq S s) jy then
  match yI S [jy] (s.sk S)with
  |.error d=> .error d
  |.ok (_,s1)=> .ok ([],s1)
 else jq S (S.size+1) (s.sk S) []
def y9(S:ByteArray)(s:St):Except Nat ((List (Int×Int)×List (Int×ByteArray))×St):=
 match yn S (s.sk S)with
 |.error d=> .error d
 |.ok (L,s1)=>
  match yI S [Za] s1 with
  |.error d=> .error d
  |.ok (_,s2)=>
   match jt S s2 with
   |.error d=> .error d
   |.ok (P,s3)=>
    match zh S 59 s3 with
    |.error d=> .error d
    |.ok s4=> .ok ((L,P),s4)
def J9(P:List (Int×ByteArray)):List Value:=P.flatMap fun p=>[.int .u8 p.1,.string p.2]
theorem Dh(P:List (Int×ByteArray))(k:Int)(t:ByteArray):J9 (P++[(k,t)])=J9 P++[.int .u8 k,.string t]:=by simp[J9]
def Qb(w:World)(F:Nat->Prop)(vi vo:Value)(L:List (Int×Int))(P:List (Int×ByteArray)):Prop:=
 ∃c,vi= .slice (some ⟨c,0,none⟩) 256 256/\F c/\zq w c 256 (zo L)/\(∀g,vo.ownBlock=some g->F g)/\w.ownsRow 0 191 2 vo P.length (J9 P)
theorem Qb.frame{w w':World}{F G:Nat->Prop}{vi vo:Value}{L:List (Int×Int)}{P:List (Int×ByteArray)}(hF:∀k,F k->w'.heap[k]? =w.heap[k]?)(hG:∀k,F k->G k)(h:Qb w F vi vo L P):Qb w' G vi vo L P:=by
 obtain⟨c,h1,h2,h3,h4,h5⟩:=h;exact⟨c,h1,hG _ h2,(hF _ h2).trans h3,fun g hg=>hG _ (h4 g hg),ju h5 (fun k hk=>hF _ (h4 k hk))⟩
def Wh(S:ByteArray)(σ:Except Nat St):ByteArray:=match σ with|.ok s=>Uq S s|.error _=>ByteArray.empty
theorem Hf{w:World}{b:Nat}{S:ByteArray}{nest:Int}{σ:Except Nat St}(h:PS w b S nest σ)(hS:S.size<=400):
 Calls Tryz.prog 51 #[.pointer (some ⟨b,0,none⟩)] w fun e w'=>e= .returned (.string (Wh S σ))/\PS w' b S nest (yF σ (St.sk S))/\Ch [b] w w':=by
 cases σ with
 |ok s=>
  refine(Qv h.1 hS h.2).mono ?_;rintro r w' ⟨rfl,h1,g1⟩;exact⟨rfl,⟨h1,(zn _ _ _ h.2).2⟩,g1⟩
 |error d=>exact MI h hS
theorem XI{S:ByteArray}{s s':St}{p:Int×ByteArray}(hi:s.i<=S.size)(h:yk S s= .ok (p,s')):s.i<s'.i/\s'.i<=S.size/\s'.k=s.k:=by
 have hi1:=zn zI S s.i hi;unfold yk at h
 split at h
 ·split at h
  ·rename_i x a s1 ht
   have b:=Uv (s:=s.sk S) hi1.2 ht;simp at h;rw[<- h.2,(yj _ _ _ _).1,(yj _ _ _ _).2];simp only[St.sk]at b;exact⟨by omega,b.2.2.1,b.2.2.2.2.2⟩
  ·cases h
 ·split at h
  ·rename_i x a s1 ht
   simp at h;rw[<- h.2];have hi2:=zn zI S (s.sk S).i hi1.2;have hi3:=zn zR S _ hi2.2;simp only[yI]at ht
   split at ht
   ·rename_i hany
    simp at ht;rw[<- ht.2];refine⟨?_,hi3.2,rfl⟩;have hx:=Jv.1 hany
    have hne:¬(S.extract (run zI S (s.sk S).i) (run zR S (run zI S (s.sk S).i))).size=0:=by
     intro h0;simp only[Ju,List.mem_cons,List.not_mem_nil,or_false]at hx
     rcases hx with e|e|e <;>rw[e]at h0 <;>cases h0
    simp at hne;simp only[St.sk]at *;omega
   ·cases ht
  ·cases h
theorem zQ{w:World}{e:TypeId}{size n:Nat}{v:Value}{xs:List Value}(h:w.ownsRow 0 e size v n xs):∃a c,v= .slice a n c:=by
 rcases h.2 with⟨rfl,rfl⟩|⟨g,cap,cur,rfl,_⟩
 ·exact⟨_,_,rfl⟩
 ·exact⟨_,_,rfl⟩
def mP(b N:Nat)(again:Value)(w:World):Nat:=if QT again then 2 * penM b N w+1 else 0
theorem Vg{b N:Nat}{w:World}:mP b N (.bool true) w=2 * penM b N w+1:=by simp[mP,QT]
theorem Bs{b N:Nat}{w:World}:mP b N (.bool false) w=0:=by simp[mP,QT]
def Ms(S:ByteArray)(w:World)(b _c B1:Nat)(nest:Int)(vi:Value)(r:Except Nat (List (Int×ByteArray)×St))(again:Value)(w5:World):Prop:=
 Ch [b,B1] w w5/\∃(vo:Value) (n0:Nat) (xs:List Value),zE w5 B1 #[vi,vo] 146/\w5.ownsRow 0 191 2 vo n0 xs/\n0<=500/\(∀g,vo.ownBlock=some g->w.heap.size<=g/\g<w5.heap.size)/\
  ((∃(P:List (Int×ByteArray)) (s5:St),zO w5 b S s5 (-1) nest/\s5.i<=S.size/\n0=P.length/\xs=J9 P/\
    ((again= .bool true/\n0<=s5.i/\∃m,S.size<m+s5.i/\r=jq S m s5 P)\/(again= .bool false/\r= .ok (P,s5))))\/
   (∃D,zj w5 b S D/\r= .error D/\∃q,again= .bool q))
theorem Te{w:World}{b:Nat}{S:ByteArray}{nest:Int}{σ:Except Nat St}(h:PS w b S nest σ)(hS:S.size<=400):
 Calls Tryz.prog 59 #[.pointer (some ⟨b,0,none⟩)] w fun e w'=>∃vi vo,e= .returned (.agg #[vi,vo])/\(∃a n c,vi= .slice a n c)/\(∃a n c,vo= .slice a n c)/\(∀L P s',zN σ (y9 S)= .ok ((L,P),s')->Qb w' (fun k=>w.heap.size<=k/\k<w'.heap.size) vi vo L P)/\PS w' b S nest (yd (zN σ (y9 S)))/\Ch [b] w w':=by
 have hbl:=h.lt;have h0:=(h.kp (Ch.alloc [] w (.cells #[.slice none 0 0,.slice none 0 0] 146)) (by simp)).kp (Ch.alloc [] _ (.cells #[.slice none 0 0,.slice none 0 0] 146)) (by simp);have g0:Ch [b] w ((w.alloc (.cells #[.slice none 0 0,.slice none 0 0] 146)).alloc (.cells #[.slice none 0 0,.slice none 0 0] 146)):=(Ch.alloc [b] w (.cells #[.slice none 0 0,.slice none 0 0] 146)).trans (Ch.alloc _ _ _);have R0:=(zE.new w #[.slice none 0 0,.slice none 0 0] 146).kp (Ch.alloc [] _ (.cells #[.slice none 0 0,.slice none 0 0] 146)) (by simp);have Q0:=zE.new (w.alloc (.cells #[.slice none 0 0,.slice none 0 0] 146)) #[.slice none 0 0,.slice none 0 0] 146;rw[show(w.alloc (.cells #[.slice none 0 0,.slice none 0 0] 146)).heap.size=w.heap.size+1 from by simp]at Q0;go_enter Tryz.func59,Tryz.ntmps59;go_wp2_with fail;generalize (w.alloc (.cells #[.slice none 0 0,.slice none 0 0] 146)).alloc (.cells #[.slice none 0 0,.slice none 0 0] 146)=w0 at *;have q0:=Q0.lt;generalize hB:w.heap.size=B at *;have HB:=zC hB;clear hB;refine(Pl h0 hS).mono ?_;rintro e w1 ⟨rfl,h1,g1⟩;go_wp2_with fail;refine(Sz h1 hS).mono ?_;rintro e w2 ⟨c,rfl,hc,h2,g2⟩;have R2:=R0.kp (g1.trans g2) (by simp;omega);have Q2:=Q0.kp (g1.trans g2) (by simp;omega);have z1:=g1.size;have z2:=g2.size;have c0:=Q2.cl 0 _ rfl;have cf:=Q2.fz;have h3:=h2.kp (Ch.setCell (X:=[B+1]) w2 (p:=⟨B+1,0,none⟩) (by simp) (.slice (some ⟨c,0,none⟩) 256 256)) (by simp;omega);have Q3:=Q2.set 0 (.slice (some ⟨c,0,none⟩) 256 256);have R3:=R2.kp (Ch.setCell (X:=[B+1]) w2 (p:=⟨B+1,0,none⟩) (by simp) (.slice (some ⟨c,0,none⟩) 256 256)) (by simp);have g3:Ch [b] w (w2.setCell ⟨B+1,0,none⟩ (.slice (some ⟨c,0,none⟩) 256 256)):=(g0.trans (g1.trans g2)).setCell_new (Or.inr (by rw[HB.o];exact Nat.le_succ _)) _
 have HC:Hd (∀L s',zN (yF σ (St.sk S)) (yn S)= .ok (L,s')->B+1<c/\zq (w2.setCell ⟨B+1,0,none⟩ (.slice (some ⟨c,0,none⟩) 256 256)) c 256 (zo L)):=by
  intro L s' e;obtain⟨a1,a2⟩:=hc L s' e;exact⟨by omega,a2.kp (Ch.setCell (X:=[B+1]) w2 (p:=⟨B+1,0,none⟩) (by simp) _) (by simp;omega)⟩
 clear hc
 have zc:(w2.setCell ⟨B+1,0,none⟩ (.slice (some ⟨c,0,none⟩) 256 256)).heap.size=w2.heap.size:=by simp[World.setCell]
 go_wp2_with fail;generalize hw3:w2.setCell ⟨B+1,0,none⟩ (.slice (some ⟨c,0,none⟩) 256 256)=w3 at *;clear hw3;have h4:=h3.kp (Ch.alloc [] w3 (.cells ([Za].map Value.string).toArray 9)) (by simp)
 have hstr:JZ (w3.alloc (.cells ([Za].map Value.string).toArray 9)) w2.heap.size [Za]:=by rw[<- zc];exact zr _ _
 have g34:=Ch.alloc [b] w3 (.cells ([Za].map Value.string).toArray 9);refine(Wn h4 hS hstr (by omega) (by decide) (Qn.1 rfl) 1 1 rfl).mono ?_;rintro e w5 ⟨a5,rfl,_,h5,g5⟩;have g35:Ch [b] w3 w5:=g34.trans g5;have Q5:=Q3.kp g35 (by simp;omega);have R5:=R3.kp g35 (by simp;omega);have z5:=g35.size
 have HC5:Hd (∀L s',zN (yF σ (St.sk S)) (yn S)= .ok (L,s')->B+1<c/\c<w5.heap.size/\zq w5 c 256 (zo L)):=by
  intro L s' e;obtain⟨a1,a2⟩:=HC.o L s' e;exact⟨a1,(a2.kp g35 (by simp;omega)).lt,a2.kp g35 (by simp;omega)⟩
 have gW5:Ch [b] w w5:=g3.trans g35;generalize hσ2:yd (zN (yF σ (St.sk S)) (yn S))=σ2 at *;have H2:=zC hσ2;generalize hσ3:yd (zN σ2 (yI S [Za]))=σ3 at *;have H3:=zC hσ3;clear hσ2 hσ3 HC h4 hstr g34 g5 h3 Q3 R3 g3 zc g35 c0 cf Q2 R2 h2 g2 h1 g1 Q0 R0 h0 g0;go_wp2_with fail;refine(Hf h5 hS).mono ?_;rintro e w6 ⟨rfl,h6,g6⟩;have Q6:=Q5.kp g6 (by simp;omega);have R6:=R5.kp g6 (by simp;omega);have z6:=g6.size;have gW6:=gW5.trans g6
 have HC6:Hd (∀L s',zN (yF σ (St.sk S)) (yn S)= .ok (L,s')->B+1<c/\c<w6.heap.size/\zq w6 c 256 (zo L)):=by
  intro L s' e;obtain⟨a1,a2,a3⟩:=HC5.o L s' e;exact⟨a1,by omega,a3.kp g6 (by simp;omega)⟩
 have FIN:Hd (∀(r:Except Nat (List (Int×ByteArray)×St)),zN σ3 (jt S)=r->(∀L P s',zN σ (y9 S)= .ok ((L,P),s')->(∃s1,zN (yF σ (St.sk S)) (yn S)= .ok (L,s1))/\∃s3,r= .ok (P,s3))/\yd (zN σ (y9 S))=zN (yd r) (zh S 59)):=by
  intro r hr;have e2:=H2.o;have e3:=H3.o;subst hr e3 e2
  cases σ with
  |error d=>exact⟨fun _ _ _ e=>(by cases e),rfl⟩
  |ok s=>
   simp only[zN,yF,y9]
   cases hcl:yn S (s.sk S)with
   |error d=>exact⟨fun _ _ _ e=>by simp at e,rfl⟩
   |ok p=>
    obtain⟨L,s1⟩:=p;simp only[yd]
    cases hwo:yI S [Za] s1 with
    |error d=>exact⟨fun _ _ _ e=>by simp at e,rfl⟩
    |ok p=>
     obtain⟨q,s2⟩:=p;simp only
     cases ho:jt S s2 with
     |error d=>exact⟨fun _ _ _ e=>by simp at e,rfl⟩
     |ok p=>
      obtain⟨P,s3⟩:=p;simp only
      cases hs:zh S 59 s3 with
      |error d=>exact⟨fun _ _ _ e=>by simp at e,rfl⟩
      |ok s4=>exact⟨fun _ _ _ e=>by simp at e;obtain⟨⟨rfl,rfl⟩,rfl⟩:=e;exact⟨⟨_,rfl⟩,_,rfl⟩,rfl⟩
 clear H2 H3 HC5
 have DONE:Hd (∀(P0:Except Nat (List (Int×ByteArray)×St)) (vo:Value) (w9:World) (n9:Nat),zN σ3 (jt S)=P0->PS w9 b S nest (zN (yd P0) (zh S 59))->Ch [b,B+1] w6 w9->zE w9 B #[.slice none 0 0,.slice none 0 0] 146->(∀g,vo.ownBlock=some g->w6.heap.size<=g/\g<w9.heap.size)->(∀P s3,P0= .ok (P,s3)->w9.ownsRow 0 191 2 vo P.length (J9 P))->
  (∀L P s',zN σ (y9 S)= .ok ((L,P),s')->Qb ((w9.setCell ⟨B,0,none⟩ (.slice (some ⟨c,0,none⟩) 256 256)).setCell ⟨B,1,none⟩ vo) (fun k=>w.heap.size<=k/\k<((w9.setCell ⟨B,0,none⟩ (.slice (some ⟨c,0,none⟩) 256 256)).setCell ⟨B,1,none⟩ vo).heap.size) (.slice (some ⟨c,0,none⟩) 256 256) vo L P)/\PS ((w9.setCell ⟨B,0,none⟩ (.slice (some ⟨c,0,none⟩) 256 256)).setCell ⟨B,1,none⟩ vo) b S nest (yd (zN σ (y9 S)))/\Ch [b] w ((w9.setCell ⟨B,0,none⟩ (.slice (some ⟨c,0,none⟩) 256 256)).setCell ⟨B,1,none⟩ vo)):=by
  intro P0 vo w9 n9 e0 h9 g9 R9 V9 O9;obtain⟨f1,f2⟩:=FIN.o P0 e0;have gB:Ch [B] w9 ((w9.setCell ⟨B,0,none⟩ (.slice (some ⟨c,0,none⟩) 256 256)).setCell ⟨B,1,none⟩ vo):=(Ch.setCell (X:=[B]) w9 (by simp) _).trans (Ch.setCell _ (by simp) _);refine⟨fun L P s' e=> ?_,?_,?_⟩
  ·obtain⟨⟨s1,a1⟩,s3,a2⟩:=f1 L P s' e
   obtain⟨a3,a4,a5⟩:=HC6.o L s1 a1;have z9:=g9.size;have zB:=gB.size;have hb6:=h6.lt;refine⟨c,rfl,⟨by rw[HB.o];omega,by omega⟩,(a5.kp g9 ?_).kp gB (by simp;omega),fun g hg=> ?_,zJ (O9 P s3 a2) gB (fun k hk=>by have:=V9 k hk;simp;omega)⟩
   ·simp;exact⟨by omega,by omega⟩
   ·have:=V9 g hg;exact⟨by rw[HB.o];omega,by omega⟩
  ·rw[f2]
   exact h9.kp gB (by simp;omega)
  ·refine((gW6.trans' g9 ?_).setCell_new (Or.inr ?_) _).setCell_new (Or.inr ?_) _
   ·intro k hk
    simp at hk
    rcases hk with rfl|rfl
    ·exact Or.inl (by simp)
    ·exact Or.inr (by rw[HB.o];omega)
   ·rw[HB.o];exact Nat.le_refl _
   ·rw[HB.o];exact Nat.le_refl _
 clear FIN HC6
 by_cases hn:Wh S σ3=jy
 ·have OE:Hd (zN σ3 (jt S)=match zN (yF σ3 (St.sk S)) (yI S [jy])with|.error d=> .error d|.ok (_,s1)=> .ok ([],s1)):=by
   show _=_
   cases σ3 with
   |error d=>rfl
   |ok s=>
    simp only[Wh]at hn;simp only[zN,yF,jt];rw[if_pos (Jh.2 hn)]
    try rfl
  rw[hn];unfold jy;clear hn;have h7:=h6.kp (Ch.alloc [] w6 (.cells ([jy].map Value.string).toArray 9)) (by simp);have hstr:JZ (w6.alloc (.cells ([jy].map Value.string).toArray 9)) w6.heap.size [jy]:=zr _ _;have g67:=Ch.alloc [b] w6 (.cells ([jy].map Value.string).toArray 9);have b6:=h6.lt;go_wp2_with fail;refine(Wn h7 hS hstr (by omega) (by decide) (Qn.1 rfl) 1 1 rfl).mono ?_;rintro e w8 ⟨a8,rfl,_,h8,g8⟩;go_wp2_with fail;refine(Yi h8 hS _ (by omega)).mono ?_;rintro e w9 ⟨rfl,h9,g9⟩;have g69:Ch [b] w6 w9:=g67.trans (g8.trans g9);have Q9:=Q6.kp g69 (by simp;omega);have R9:=R6.kp g69 (by simp;omega);have q0':=Q9.cl 0 _ rfl;have q1':=Q9.cl 1 _ rfl;have r0':=R9.cl 0 _ rfl;have r1':=R9.cl 1 _ rfl;have rf:=R9.fz;go_wp2_with fail
  obtain⟨x1,x2,x3⟩:=DONE.o _ (.slice none 0 0) w9 0 OE.o (by
   cases hh:zN (yF σ3 (St.sk S)) (yI S [jy])with
   |error d=>rw[hh]at h9;exact h9
   |ok p=>obtain⟨p,s1⟩:=p;rw[hh]at h9;exact h9) (g69.mono (by simp)) R9 (by simp[Value.ownBlock]) (by
   intro P s3 e
   cases hh:zN (yF σ3 (St.sk S)) (yI S [jy])with
   |error d=>rw[hh]at e;cases e
   |ok p=>obtain⟨p,s1⟩:=p;rw[hh]at e;simp at e;have e1:=e.1;subst e1;exact World.ownsRow_nil _ _ _ _)
  refine bodyPost_ret (v:= .agg #[.slice (some ⟨c,0,none⟩) 256 256,.slice none 0 0]) (by simp[results,Tryz.results59,go_sem,r0',r1']) rfl ⟨_,_,rfl,⟨_,_,_,rfl⟩,⟨_,_,_,rfl⟩,x1,x2,x3⟩
 ·have OE:Hd (zN σ3 (jt S)=zN (yF σ3 (St.sk S)) (fun s=>jq S (S.size+1) s [])):=by
   show _=_
   cases σ3 with
   |error d=>rfl
   |ok s=>
    simp only[Wh]at hn;simp only[zN,yF,jt];rw[if_neg (fun e=>hn (Jh.1 e))]
  generalize hX:Wh S σ3=X at *;obtain⟨q1,q2⟩:=Zn hn
  have q3:¬X.toList=[110,111,110,101]:=by
   intro e;apply hn
   cases X with
   |mk x=>rw[Qj]at e;simp at e;simp[jy,<- e]
  have q4:(X.toList==[110,111,110,101])=false:=by rw[beq_eq_false_iff_ne];exact q3
  clear hX hn q1 q2;generalize hr:zN σ3 (jt S)=r at *;clear hr;have b6:=h6.lt
  have START:Hd (Ms S w6 b c (B+1) nest (.slice (some ⟨c,0,none⟩) 256 256) r (.bool true) w6):=by
   refine⟨Ch.refl _ _,.slice none 0 0,0,[],Q6,World.ownsRow_nil _ _ _ _,by omega,by simp[Value.ownBlock],?_⟩;have e:=OE.o
   cases hσ:yF σ3 (St.sk S)with
   |error d=>rw[hσ]at h6 e;exact Or.inr ⟨d,h6,e,_,rfl⟩
   |ok s5=>rw[hσ]at h6 e;exact Or.inl ⟨[],s5,h6.1,h6.2,rfl,rfl,Or.inl ⟨rfl,by simp,S.size+1,by omega,e⟩⟩
  have hB6:=Q6.lt;clear OE h6 h5 Q5 R5 Q6;go_wp2_with fail
  go_loopw [5,6] (fun again _ w7=>Ms S w6 b c (B+1) nest (.slice (some ⟨c,0,none⟩) 256 256) r again w7) (fun again _ w7=>mP b S.size again w7)
  case atStart=>exact START.o
  case round=>
   clear START;generalize wr=w7 at *;obtain⟨g7,vo,n0,xs,Q7,O7,hn500,V7,⟨P,s5,h7,hi7,hnP,rfl,⟨rfl,hle,m,hm,hr⟩|⟨rfl,hr⟩⟩|⟨D,h7,hr,q,rfl⟩⟩:=hrel
   ·obtain⟨va,vc,rfl⟩:=zQ O7
    obtain⟨m,rfl⟩:∃k,m=k+1:=⟨m - 1,by omega⟩;have HR:=zC hr;have HnP:=zC hnP
    have hm0:Hd (mP b S.size (.bool true) w7=2 * (S.size+1 - s5.i)+1):=by show _=_;rw[Vg,h7.penM]
    clear hr hnP;obtain⟨c0,c1,c2,c3,c4,c5,c6,fz⟩:=h7.fa;go_wp2_with fail;refine(ZE h7 hi7 hS).mono ?_;rintro e w8 ⟨rfl,h8,g8⟩;clear c0 c1 c2 c3 c4 c5 c6 fz;have hi8:=zn zI S s5.i hi7;obtain⟨c0,c1,c2,c3,c4,c5,c6,fz⟩:=h8.fa;have Q8:=Q7.kp g8 (by simp;omega);have q1':=Q8.cl 1 _ rfl;have h8':zO w8 b S (s5.sk S) (-1) nest:=h8;simp only at c1;go_wp2_with fail
    go_region_held3 (fun w'=>w'.cell? ⟨b,1,none⟩=some (.int .i64 (run zI S s5.i))/\w'.cell? ⟨B+1,1,none⟩=some (.slice va n0 vc)) (first|go_keep|(exact⟨e1,e9⟩))
     (first|(go_at_call 53;refine(QB (S:=S) (s:=s5.sk S) (nest:=nest) ?_ _ _ _).mono ?_;exact h8';rintro e w9 ⟨rfl,h9,g9⟩;obtain⟨e5,e1,e6⟩:=Uo h9;simp only[St.sk]at e1;have e9:=(Q8.kp ((Ch.drew [b] _).trans g9) (by simp;omega)).cl 1 _ rfl))
    rename_i hHeld
    clear hHeld;have s9i:=(yj (decide ((3:Int)<=n0)) 3 (s5.sk S).i (s5.sk S)).1
    have HR9:Hd (r=match yk S (zL (decide ((3:Int)<=n0)) 3 (s5.sk S).i (s5.sk S))with
     |.error d=> .error d
     |.ok (p,s1)=>if bt S (run zI S s1.i)=59 then .ok (P++[p],s1.sk S)else jq S m (s1.sk S) (P++[p])):=by
     show _=_;rw[HR.o,HnP.o];rfl
    have h9':zO w9 b S (zL (decide ((3:Int)<=n0)) 3 (s5.sk S).i (s5.sk S)) (-1) nest:=h9;generalize zL (decide ((3:Int)<=n0)) 3 (s5.sk S).i (s5.sk S)=s9 at *;have g79:Ch [b] w7 w9:=g8.trans ((Ch.drew _ _).trans g9)
    have i9:s5.i<=s9.i/\s9.i<=S.size:=by rw[s9i];exact hi8
    have Q9:=Q7.kp g79 (by simp;omega);have O9:=zJ O7 g79 (fun k hk=>by have:=V7 k hk;simp;omega);have HnP2:=zC HnP.o;clear e5 e1 e6 e9 s9i HR HnP c0 c1 c2 c3 c4 c5 c6 fz h8' q1' Q8 h8 h9;go_wp2_with fail;refine(Og (σ:= .ok s9) ⟨h9',i9.2⟩ hS).mono ?_;rintro e w10 ⟨K,T,rfl,hp,h10,g10⟩;have g710:=g79.trans g10;have Q10:=Q9.kp g10 (by simp;omega);have O10:=zJ O9 g10 (fun k hk=>by have:=V7 k hk;simp;omega);have O12:=zJ (zJ O10 (Ch.alloc [] w10 (.cells #[.int .u8 K,.string T] 191)) (by simp)) (Ch.alloc [] _ (.cells #[.int .u8 K,.string T] 191)) (by simp);have Q12:=(Q10.kp (Ch.alloc [] w10 (.cells #[.int .u8 K,.string T] 191)) (by simp)).kp (Ch.alloc [] _ (.cells #[.int .u8 K,.string T] 191)) (by simp)
    have N12:((w10.alloc (.cells #[.int .u8 K,.string T] 191)).alloc (.cells #[.int .u8 K,.string T] 191)).heap[w10.heap.size+1]? =some (.cells [.int .u8 K,.string T].toArray 191):=by
     have:=zr (w10.alloc (.cells #[.int .u8 K,.string T] 191)) (.cells #[.int .u8 K,.string T] 191)
     simpa using this
    have q1':=Q10.cl 1 _ rfl;have hB10:=Q10.lt;have q2':=(Q10.kp (Ch.alloc [] w10 (.cells #[.int .u8 K,.string T] 191)) (by simp)).cl 1 _ rfl
    have fin:∀(g cap:Nat) (w13:World),w13.ownsRow 0 191 2 (.slice (some ⟨g,0,none⟩) (n0+1) cap) (n0+1) (J9 P++[.int .u8 K,.string T])->Ch (Value.slice va n0 vc).ownBlock.toList ((w10.alloc (.cells #[.int .u8 K,.string T] 191)).alloc (.cells #[.int .u8 K,.string T] 191)) w13->((Value.slice va n0 vc).ownBlock=some g\/g=w10.heap.size+2)->g<w13.heap.size->
     Ch [b,B+1] w6 (w13.setCell ⟨B+1,1,none⟩ (.slice (some ⟨g,0,none⟩) (n0+1) cap))/\zE (w13.setCell ⟨B+1,1,none⟩ (.slice (some ⟨g,0,none⟩) (n0+1) cap)) (B+1) #[.slice (some ⟨c,0,none⟩) 256 256,.slice (some ⟨g,0,none⟩) (n0+1) cap] 146/\(w13.setCell ⟨B+1,1,none⟩ (.slice (some ⟨g,0,none⟩) (n0+1) cap)).ownsRow 0 191 2 (.slice (some ⟨g,0,none⟩) (n0+1) cap) (n0+1) (J9 P++[.int .u8 K,.string T])/\(w6.heap.size<=g/\g<(w13.setCell ⟨B+1,1,none⟩ (.slice (some ⟨g,0,none⟩) (n0+1) cap)).heap.size)/\PS (w13.setCell ⟨B+1,1,none⟩ (.slice (some ⟨g,0,none⟩) (n0+1) cap)) b S nest (yd (zN (.ok s9) (yk S))):=by
     intro g cap w13 own13 gr13 hat13 hlt13;have z10:=g710.size;have z7:=g7.size
     have hg6:w6.heap.size<=g:=by
      rcases hat13 with e|e
      ·exact(V7 g e).1
      ·omega
     have nB:B+1∉(Value.slice va n0 vc).ownBlock.toList:=by simp;intro e;have:=V7 _ e;omega
     have nb:b∉(Value.slice va n0 vc).ownBlock.toList:=by simp;intro e;have:=V7 _ e;omega
     have Q13:=Q12.kp gr13 nB;have gB:Ch [B+1] w13 (w13.setCell ⟨B+1,1,none⟩ (.slice (some ⟨g,0,none⟩) (n0+1) cap)):=Ch.setCell _ (by simp) _;refine⟨?_,Q13.set 1 _,zJ own13 gB (fun k hk=>by simp[Value.ownBlock]at hk;subst hk;simp;omega),⟨hg6,by simp[World.setCell];omega⟩,(((h10.kp (Ch.alloc [] w10 (.cells #[.int .u8 K,.string T] 191)) (by simp)).kp (Ch.alloc [] _ (.cells #[.int .u8 K,.string T] 191)) (by simp)).kp gr13 nb).kp gB (by simp;omega)⟩;refine Ch.trans ((((g7.trans (g710.mono (by simp))).trans (Ch.alloc _ _ _)).trans (Ch.alloc _ _ _)).trans' gr13 (fun k hk=> ?_)) (gB.mono (by simp));simp at hk;exact Or.inr (V7 k hk).1
    have FN:=zC fin;have V7x:=zC V7;have HP:=zC hp;clear fin hp V7;go_wp2_with (at_builtin;refine QC 144 191 2 24 (.agg #[.int .u8 0,.string ⟨#[]⟩]) Tryz.underlying144 Tx rfl (by omega) (by omega) (by rfl) _ _ (by rfl) (.slice va n0 vc) n0 _ (by rfl) O12 (w10.heap.size+1) [.int .u8 K,.string T] (by rfl) N12 rfl (by simp;exact⟨rfl,rfl⟩) (by omega) (w10.heap.size+2) (by simp) ?_;intro g cap w13 own13 gr13 hat13 hlt13;have Q13:=Q12.kp gr13 (by simp;intro e;have:=V7x.o _ e;omega);have q13:=Q13.cl 1 _ rfl;have f13:=Q13.fz);obtain⟨A1,A2,A3,A4,A5⟩:=FN.o g cap w13 own13 gr13 hat13 hlt13;clear FN
    cases hpr:yk S s9 with
    |error D=>
     have HRD:Hd (r= .error D):=by show _=_;rw[HR9.o,hpr]
     have A6:zj (w13.setCell ⟨B+1,1,none⟩ (.slice (some ⟨g,0,none⟩) (n0+1) cap)) b S D:=by simp only[zN,hpr,yd]at A5;exact A5
     clear A5 hpr HR9;refine(Up A6 _).mono ?_;rintro e w14 ⟨rfl,h14,g14⟩;have z14:=g14.size;go_wp2_with fail;go_roundw
     case rel=>exact⟨A1.trans (g14.mono (by simp)),_,n0+1,_,A2.kp g14 (by simp;omega),zJ A3 g14 (fun k hk=>by simp[Value.ownBlock]at hk;subst hk;simp;omega),by omega,fun k hk=>by simp[Value.ownBlock]at hk;subst hk;omega,Or.inr ⟨D,h14,HRD.o,_,rfl⟩⟩
     case measure=>
      rw[hm0.o,Vg,h14.penM];omega
    |ok p=>
     obtain⟨⟨K',T'⟩,s10⟩:=p;obtain⟨rfl,rfl⟩:=HP.o K' T' s10 (by simp[zN,hpr]);obtain⟨l1,l2,l3⟩:=XI i9.2 hpr
     have A6:zO (w13.setCell ⟨B+1,1,none⟩ (.slice (some ⟨g,0,none⟩) (n0+1) cap)) b S s10 (-1) nest:=by simp only[zN,hpr,yd]at A5;exact A5.1
     have l4:=zn zI S s10.i l2;refine(Wl A6 _ (by omega) hS l2).mono ?_;rintro e w14 ⟨rfl,h14,g14⟩;have z14:=g14.size
     by_cases h59:bt S (run zI S s10.i)=59
     ·have HRD:Hd (r= .ok (P++[(K,T)],s10.sk S)):=by show _=_;rw[HR9.o,hpr];simp[h59]
      have q59:(bt S (run zI S s10.i)==59)=true:=by simp[h59]
      clear h59 hpr HR9 A5;go_wp2_with fail;go_roundw
      case rel=>exact⟨A1.trans (g14.mono (by simp)),_,n0+1,_,A2.kp g14 (by simp;omega),zJ A3 g14 (fun k hk=>by simp[Value.ownBlock]at hk;subst hk;simp;omega),by omega,fun k hk=>by simp[Value.ownBlock]at hk;subst hk;omega,Or.inl ⟨P++[(K,T)],s10.sk S,h14,l4.2,by rw[List.length_append,HnP2.o];rfl,(Dh _ _ _).symm,Or.inr ⟨rfl,HRD.o⟩⟩⟩
      case measure=>rw[hm0.o,Bs];omega
     ·have HRD:Hd (r=jq S m (s10.sk S) (P++[(K,T)])):=by show _=_;rw[HR9.o,hpr];simp[h59]
      have q59:(bt S (run zI S s10.i)==59)=false:=by simp[h59]
      clear h59 hpr HR9 A5;go_wp2_with fail;go_roundw
      case rel=>exact⟨A1.trans (g14.mono (by simp)),_,n0+1,_,A2.kp g14 (by simp;omega),zJ A3 g14 (fun k hk=>by simp[Value.ownBlock]at hk;subst hk;simp;omega),by omega,fun k hk=>by simp[Value.ownBlock]at hk;subst hk;omega,Or.inl ⟨P++[(K,T)],s10.sk S,h14,l4.2,by rw[List.length_append,HnP2.o];rfl,(Dh _ _ _).symm,Or.inl ⟨rfl,by simp only[St.sk];omega,m,by simp only[St.sk];omega,HRD.o⟩⟩⟩
      case measure=>rw[hm0.o,Vg,h14.penM];simp only;omega
   ·obtain⟨va,vc,rfl⟩:=zQ O7
    have R7:=R6.kp g7 (by simp;omega);have HR:=zC hr;have HnP:=zC hnP;clear hr hnP;obtain⟨c0,c1,c2,c3,c4,c5,c6,fz⟩:=h7.fa;go_wp2_with fail;refine(Yi (σ:= .ok s5) ⟨h7,hi7⟩ hS _ (by omega)).mono ?_;rintro e w9 ⟨rfl,h9,g9⟩;have Q9:=Q7.kp g9 (by simp;omega);have R9:=R7.kp g9 (by simp;omega);have q0':=Q9.cl 0 _ rfl;have q1':=Q9.cl 1 _ rfl;have r0':=R9.cl 0 _ rfl;have r1':=R9.cl 1 _ rfl;have rf:=R9.fz;have z9:=g9.size;go_wp2_with fail
    obtain⟨x1,x2,x3⟩:=DONE.o r (.slice va n0 vc) w9 0 rfl (by rw[HR.o];exact h9) (g7.trans (g9.mono (by simp))) R9 (fun g hg=>by have:=V7 g hg;omega) (fun P' s3 e=>by
     rw[HR.o]at e;simp at e;have e1:=e.1;subst e1;rw[<- HnP.o]
     exact zJ O7 g9 (fun k hk=>by have:=V7 k hk;simp;omega))
    refine bodyPost_ret (v:= .agg #[.slice (some ⟨c,0,none⟩) 256 256,.slice va n0 vc]) (by simp[results,Tryz.results59,go_sem,r0',r1']) rfl ⟨_,_,rfl,⟨_,_,_,rfl⟩,⟨_,_,_,rfl⟩,x1,x2,x3⟩
   ·obtain⟨va,vc,rfl⟩:=zQ O7
    have R7:=R6.kp g7 (by simp;omega);have HR:=zC hr;clear hr;obtain⟨s8,nest8,p8,hi8⟩:=id h7;obtain⟨c0,c1,c2,c3,c4,c5,c6,fz⟩:=p8.fa
    have hd:¬(D:Int)<0:=by omega
    cases q
    all_goals
     go_wp2_with fail;refine(Us h7 _).mono ?_;rintro e w9 ⟨rfl,h9,g9⟩;have Q9:=Q7.kp g9 (by simp;omega);have R9:=R7.kp g9 (by simp;omega);have q0':=Q9.cl 0 _ rfl;have q1':=Q9.cl 1 _ rfl;have r0':=R9.cl 0 _ rfl;have r1':=R9.cl 1 _ rfl;have rf:=R9.fz;have z9:=g9.size;go_wp2_with fail;obtain⟨x1,x2,x3⟩:=DONE.o r (.slice va n0 vc) w9 0 rfl (by rw[HR.o];exact h9) (g7.trans (g9.mono (by simp))) R9 (fun g hg=>by have:=V7 g hg;omega) (fun P s3 e=>by rw[HR.o]at e;cases e);refine bodyPost_ret (v:= .agg #[.slice (some ⟨c,0,none⟩) 256 256,.slice va n0 vc]) (by simp[results,Tryz.results59,go_sem,r0',r1']) rfl ⟨_,_,rfl,⟨_,_,_,rfl⟩,⟨_,_,_,rfl⟩,x1,x2,x3⟩
structure yb where
 cls:List (Int×Int)
 o:List (Int×ByteArray)
structure zH where
 name:ByteArray
 swap:Bool
 one:ByteArray
 two:ByteArray
 rules:List yb
structure zZ where
 name:ByteArray
 scrubs:List Int
structure ze where
 never:Bool
 of1:Int
 of2:Int
 lang:zF
 k:Int
structure yt where
 scrubs:List zH
 chains:List zZ
 asked:List ze
def zy(L:List ByteArray)(x:ByteArray):Int:=match L.findIdx? (fun y=>yQ y x)with|some i=>i|none=> -1
def JH(sv:List (zH×Value)):List Value:=sv.flatMap fun p=>[.string p.1.name,.bool p.1.swap,.string p.1.one,.string p.1.two,p.2]
def jI(cv:List (zZ×Value)):List Value:=cv.flatMap fun p=>[.string p.1.name,p.2]
def ZC(av:List (ze×Value)):List Value:=av.flatMap fun p=>[.bool p.1.never,.int .i64 p.1.of1,.int .i64 p.1.of2,p.2]
theorem At:∀(sv:List (zH×Value)) (i:Nat) (p:zH×Value),sv[i]? =some p->(JH sv)[i * 5]? =some (.string p.1.name)
 |[],i,p,h=>by simp at h
 |q:: sv,0,p,h=>by simp at h;subst h;simp[JH]
 |q:: sv,i+1,p,h=>by
  have:=At sv i p (by simpa using h);rw[show(i+1) * 5=i * 5+5 from by omega]
  simpa[JH]using this
theorem Lp:∀(sv:List (zZ×Value)) (i:Nat) (p:zZ×Value),sv[i]? =some p->(jI sv)[i * 2]? =some (.string p.1.name)
 |[],i,p,h=>by simp at h
 |q:: sv,0,p,h=>by simp at h;subst h;simp[jI]
 |q:: sv,i+1,p,h=>by
  have:=Lp sv i p (by simpa using h);rw[show(i+1) * 2=i * 2+2 from by omega]
  simpa[jI]using this
theorem jO{w:World}{e:TypeId}{size n:Nat}{a:Option Addr}{c:Nat}{xs:List Value}(h:w.ownsRow 0 e size (.slice a n c) n xs)(hn:0<n):∃g,a=some ⟨g,0,none⟩/\∀j u,xs[j]? =some u->w.cell? ⟨g,j,none⟩=some u:=by
 rcases h.2 with⟨e1,e2⟩|⟨g,cap,cur,e1,_⟩
 ·omega
 ·injection e1 with e1 _ _
  subst e1;refine⟨g,rfl,fun j u hu=> ?_⟩;have:=h.cells (g:=g) rfl j u hu
  rwa [show(⟨g,0,none⟩:Addr).add j=⟨g,j,none⟩from by unfold Addr.add;split <;>simp_all]at this
theorem Uk{L:List ByteArray}{x:ByteArray}(h:∀t,(ht:t<L.length)->L[t]≠x):zy L x= -1:=by
 unfold zy;rw[List.findIdx?_eq_none_iff.2];intro y hy;obtain⟨t,ht,e⟩:=List.getElem_of_mem hy;have:=h t ht;rw[e]at this;rw[Bool.eq_false_iff];intro e2;exact this (Jh.1 e2)
theorem Uh{L:List ByteArray}{x:ByteArray}{i:Nat}(hi:i<L.length)(he:L[i]=x)(h:∀t,(ht:t<L.length)->t<i->L[t]≠x):zy L x=i:=by
 unfold zy
 have e:L.findIdx? (fun y=>yQ y x)=some i:=List.findIdx?_eq_some_iff_getElem.2 ⟨hi,Jh.2 he,fun j hj=>by
  have:=h j (by omega) hj
  simpa using fun e=>this (Jh.1 e)⟩
 rw[e]
theorem KT{w:World}{d:Nat}{vs vc va:Value}{sv:List (zH×Value)}(hd:zE w d #[vs,vc,va] 41)(ho:w.ownsRow 0 131 5 vs sv.length (JH sv))(hn:sv.length<=500)(x:ByteArray):
 Calls Tryz.prog 60 #[.pointer (some ⟨d,0,none⟩),.string x] w fun e w'=>e= .returned (.int .i64 (zy (sv.map fun p=>p.1.name) x))/\w'=w:=by
 obtain⟨a,c,rfl⟩:=zQ ho;have c0:=hd.cl 0 _ rfl;go_enter Tryz.func60,Tryz.ntmps60;go_wp2_with fail
 go_loop [5] (fun k=>∃j:Nat,k= .int .i64 j/\j<=sv.length/\Hd (Zz (sv.map fun p=>p.1.name) x j)) (fun k=>sv.length - (intOf k).toNat)
 case atStart=>exact⟨0,rfl,Nat.zero_le _,fun t _ h=>by omega⟩
 case round=>
  obtain⟨j,rfl,hj,hno⟩:=hrel
  by_cases hlt:(j:Int)<sv.length
  ·have hlt':j<sv.length:=by omega
   obtain⟨g,rfl,hg⟩:=jO ho (by omega);have hc:=hg _ _ (At sv j sv[j] (by simp[hlt']))
   have hnm:(sv.map fun p=>p.1.name)[j]'(by simpa using hlt')=sv[j].1.name:=by simp
   generalize sv[j].1.name=y at *;have hg':=zC hg;clear hg
   by_cases hq:y=x
   ·have HR:Hd (zy (sv.map fun p=>p.1.name) x=j):=Uh (by simpa using hlt') (hnm.trans hq) hno.o
    obtain⟨q1,q2⟩:=Y6 hq;clear hq hnm;go_wp2_with fail;go_ret;exact⟨by rw[HR.o];rfl,rfl⟩
   ·have H2:Hd (Zz (sv.map fun p=>p.1.name) x (j+1)):=by
     intro t ht h1
     by_cases e:t=j
     ·subst e;rw[hnm];exact hq
     ·exact hno.o t ht (by omega)
    obtain⟨q1,q2⟩:=Zn hq;clear hq hnm;go_wp2_with fail
    go_round
    case rel=>exact⟨j+1,by go_num,by omega,H2⟩
    case measure=>simp[intOf];omega
  ·have HR:Hd (zy (sv.map fun p=>p.1.name) x= -1):=Uk (fun t ht=>hno.o t ht (by simp at ht;omega))
   go_wp2_with fail;go_ret;exact⟨by rw[HR.o];rfl,rfl⟩
theorem Lt{w:World}{d:Nat}{vs vc va:Value}{sv:List (zZ×Value)}(hd:zE w d #[vs,vc,va] 41)(ho:w.ownsRow 0 52 2 vc sv.length (jI sv))(hn:sv.length<=500)(x:ByteArray):
 Calls Tryz.prog 26 #[.pointer (some ⟨d,0,none⟩),.string x] w fun e w'=>e= .returned (.int .i64 (zy (sv.map fun p=>p.1.name) x))/\w'=w:=by
 obtain⟨a,c,rfl⟩:=zQ ho;have c0:=hd.cl 1 _ rfl;go_enter Tryz.func26,Tryz.ntmps26;go_wp2_with fail
 go_loop [5] (fun k=>∃j:Nat,k= .int .i64 j/\j<=sv.length/\Hd (Zz (sv.map fun p=>p.1.name) x j)) (fun k=>sv.length - (intOf k).toNat)
 case atStart=>exact⟨0,rfl,Nat.zero_le _,fun t _ h=>by omega⟩
 case round=>
  obtain⟨j,rfl,hj,hno⟩:=hrel
  by_cases hlt:(j:Int)<sv.length
  ·have hlt':j<sv.length:=by omega
   obtain⟨g,rfl,hg⟩:=jO ho (by omega);have hc:=hg _ _ (Lp sv j sv[j] (by simp[hlt']))
   have hnm:(sv.map fun p=>p.1.name)[j]'(by simpa using hlt')=sv[j].1.name:=by simp
   generalize sv[j].1.name=y at *;have hg':=zC hg;clear hg
   by_cases hq:y=x
   ·have HR:Hd (zy (sv.map fun p=>p.1.name) x=j):=Uh (by simpa using hlt') (hnm.trans hq) hno.o
    obtain⟨q1,q2⟩:=Y6 hq;clear hq hnm;go_wp2_with fail;go_ret;exact⟨by rw[HR.o];rfl,rfl⟩
   ·have H2:Hd (Zz (sv.map fun p=>p.1.name) x (j+1)):=by
     intro t ht h1
     by_cases e:t=j
     ·subst e;rw[hnm];exact hq
     ·exact hno.o t ht (by omega)
    obtain⟨q1,q2⟩:=Zn hq;clear hq hnm;go_wp2_with fail
    go_round
    case rel=>exact⟨j+1,by go_num,by omega,H2⟩
    case measure=>simp[intOf];omega
  ·have HR:Hd (zy (sv.map fun p=>p.1.name) x= -1):=Uk (fun t ht=>hno.o t ht (by simp at ht;omega))
   go_wp2_with fail;go_ret;exact⟨by rw[HR.o];rfl,rfl⟩
def YC(w:World)(F:Nat->Prop)(vr:Value)(R:List yb):Prop:=
 (∀g,vr.ownBlock=some g->F g)/\∃rv:List (yb×(Value×Value)),R=rv.map (·.1)/\w.ownsRow 0 146 2 vr rv.length (rv.flatMap fun p=>[p.2.1,p.2.2])/\∀p,p∈rv->Qb w F p.2.1 p.2.2 p.1.cls p.1.o
def j9(w:World)(F:Nat->Prop)(v:Value)(L:List Int):Prop:=
 (∀g,v.ownBlock=some g->F g)/\w.ownsRow 0 3 1 v L.length (L.map (Value.int .i64))
def Qq(w:World)(F:Nat->Prop)(v:Value)(q:ze):Prop:=
 (q.never=true/\∃nb h,v= .pointer (some ⟨nb,0,none⟩)/\jk w F h nb q.lang)\/(q.never=false/\v= .pointer none)
theorem YC.frame{w w':World}{F G:Nat->Prop}{v:Value}{R:List yb}(hF:∀k,F k->w'.heap[k]? =w.heap[k]?)(hG:∀k,F k->G k)(h:YC w F v R):YC w' G v R:=by
 obtain⟨h1,rv,h2,h3,h4⟩:=h;exact⟨fun g hg=>hG _ (h1 g hg),rv,h2,ju h3 (fun k hk=>hF _ (h1 k hk)),fun p hp=>(h4 p hp).frame hF hG⟩
theorem j9.frame{w w':World}{F G:Nat->Prop}{v:Value}{L:List Int}(hF:∀k,F k->w'.heap[k]? =w.heap[k]?)(hG:∀k,F k->G k)(h:j9 w F v L):j9 w' G v L:=
 ⟨fun g hg=>hG _ (h.1 g hg),ju h.2 (fun k hk=>hF _ (h.1 k hk))⟩
theorem Qq.frame{w w':World}{F G:Nat->Prop}{v:Value}{q:ze}(hF:∀k,F k->w'.heap[k]? =w.heap[k]?)(hG:∀k,F k->G k)(h:Qq w F v q):Qq w' G v q:=by
 rcases h with⟨h1,nb,hh,h2,h3⟩|h
 ·exact Or.inl ⟨h1,nb,hh,h2,h3.frame hF hG⟩
 ·exact Or.inr h
structure jQ(w:World)(lo b d:Nat)(F:Nat->Prop)(vs vc va:Value)(sv:List (zH×Value))(cv:List (zZ×Value))(av:List (ze×Value)):Prop where
 blk:zE w d #[vs,vc,va] 41
 rs:w.ownsRow 0 131 5 vs sv.length (JH sv)
 rc:w.ownsRow 0 52 2 vc cv.length (jI cv)
 ra:w.ownsRow 0 49 4 va av.length (ZC av)
 ps:∀p,p∈sv->YC w F p.2 p.1.rules
 pc:∀p,p∈cv->j9 w F p.2 p.1.scrubs
 pa:∀p,p∈av->Qq w F p.2 p.1
 dlo:lo<=d
 bd:b≠d
 ns:sv.length<=450
 nc:cv.length<=450
 na:av.length<=450
 bs:∀g,vs.ownBlock=some g->lo<=g/\g≠b/\g≠d/\vc.ownBlock≠some g/\va.ownBlock≠some g/\¬F g
 bc:∀g,vc.ownBlock=some g->lo<=g/\g≠b/\g≠d/\vs.ownBlock≠some g/\va.ownBlock≠some g/\¬F g
 ba:∀g,va.ownBlock=some g->lo<=g/\g≠b/\g≠d/\vs.ownBlock≠some g/\vc.ownBlock≠some g/\¬F g
 f:∀k,F k->lo<=k/\k<w.heap.size/\k≠b/\k≠d
theorem jQ.kp{w w':World}{lo b d:Nat}{F:Nat->Prop}{vs vc va:Value}{sv:List (zH×Value)}{cv:List (zZ×Value)}{av:List (ze×Value)}(h:jQ w lo b d F vs vc va sv cv av)(g:Ch [b] w w'):jQ w' lo b d F vs vc va sv cv av:=by
 have fr:∀k,F k->w'.heap[k]? =w.heap[k]? :=fun k hk=>g.block k (h.f k hk).2.1 (by simpa using (h.f k hk).2.2.1)
 exact {blk:=h.blk.kp g (by simpa using Ne.symm h.bd),rs:=zJ h.rs g (fun k hk=>by simpa using (h.bs k hk).2.1),rc:=zJ h.rc g (fun k hk=>by simpa using (h.bc k hk).2.1),ra:=zJ h.ra g (fun k hk=>by simpa using (h.ba k hk).2.1),ps:=fun p hp=>(h.ps p hp).frame fr (fun _ h=>h),pc:=fun p hp=>(h.pc p hp).frame fr (fun _ h=>h),pa:=fun p hp=>(h.pa p hp).frame fr (fun _ h=>h),dlo:=h.dlo,bd:=h.bd,ns:=h.ns,nc:=h.nc,na:=h.na,bs:=h.bs,bc:=h.bc,ba:=h.ba,f:=fun k hk=>⟨(h.f k hk).1,Nat.lt_of_lt_of_le (h.f k hk).2.1 g.size,(h.f k hk).2.2⟩}
def yy(sv:List (zH×Value)):List ByteArray:=sv.map fun p=>p.1.name
def yz(cv:List (zZ×Value)):List ByteArray:=cv.map fun p=>p.1.name
def ZS(ns nc:List ByteArray)(x:ByteArray):Bool:=decide (0<=zy ns x\/0<=zy nc x)
theorem Eb{w:World}{lo b d:Nat}{S:ByteArray}{nest:Int}{σ:Except Nat St}{F:Nat->Prop}{vs vc va:Value}{sv:List (zH×Value)}{cv:List (zZ×Value)}{av:List (ze×Value)}(h:PS w b S nest σ)(hp:jQ w lo b d F vs vc va sv cv av)(x:ByteArray)(a:Int):
 Calls Tryz.prog 55 #[.pointer (some ⟨b,0,none⟩),.pointer (some ⟨d,0,none⟩),.string x,.int .i64 a] w fun e w'=>e= .returned (.tuple #[])/\PS w' b S nest (yF σ (zL (ZS (yy sv) (yz cv) x) 4 a))/\Ch [b] w w':=by
 by_cases h1:0<=zy (yy sv) x
 ·have HT:Hd (ZS (yy sv) (yz cv) x=true):=by show _=_;simp[ZS,h1]
  go_enter Tryz.func55,Tryz.ntmps55;go_wp2_with fail;refine(KT hp.blk hp.rs (by have:=hp.ns;omega) x).mono ?_;rintro e w1 ⟨rfl,rfl⟩;rw[show(sv.map fun p=>p.1.name)=yy sv from rfl];generalize zy (yy sv) x=n1 at *;go_wp2_with fail;refine(YP h _ _ _).mono ?_;rintro e w2 ⟨rfl,h2,g2⟩;go_wp2_with fail
  go_end0
  exact⟨rfl,by rw[HT.o];exact h2,g2⟩
 ·have HT:Hd (ZS (yy sv) (yz cv) x=(decide (0<=zy (yy sv) x) || decide (0<=zy (yz cv) x))):=by show _=_;simp only[ZS];exact Bool.decide_or _ _
  go_enter Tryz.func55,Tryz.ntmps55;go_wp2_with fail;refine(KT hp.blk hp.rs (by have:=hp.ns;omega) x).mono ?_;rintro e w1 ⟨rfl,rfl⟩;rw[show(sv.map fun p=>p.1.name)=yy sv from rfl];generalize zy (yy sv) x=n1 at *;go_wp2_with fail;refine(Lt hp.blk hp.rc (by have:=hp.nc;omega) x).mono ?_;rintro e w1 ⟨rfl,rfl⟩;rw[show(cv.map fun p=>p.1.name)=yz cv from rfl];generalize zy (yz cv) x=n2 at *;go_wp2_with fail;refine(YP h _ _ _).mono ?_;rintro e w2 ⟨rfl,h2,g2⟩;go_wp2_with fail
  go_end0
  exact⟨rfl,by rw[HT.o];exact h2,g2⟩
def yK(S:ByteArray)(nc:List ByteArray)(s:St):Except Nat (Int×St):=
 match yA S s with
 |.error d=> .error d
 |.ok ((x,a),s1)=> .ok (zy nc x,zL (decide (zy nc x<0)) 5 a s1)
theorem Bz{w:World}{lo b d:Nat}{S:ByteArray}{nest:Int}{σ:Except Nat St}{F:Nat->Prop}{vs vc va:Value}{sv:List (zH×Value)}{cv:List (zZ×Value)}{av:List (ze×Value)}(h:PS w b S nest σ)(hS:S.size<=400)(hp:jQ w lo b d F vs vc va sv cv av):
 Calls Tryz.prog 61 #[.pointer (some ⟨b,0,none⟩),.pointer (some ⟨d,0,none⟩)] w fun e w'=>∃i:Int,e= .returned (.int .i64 i)/\(∀i' s',zN σ (yK S (yz cv))= .ok (i',s')->i=i')/\PS w' b S nest (yd (zN σ (yK S (yz cv))))/\Ch [b] w w':=by
 go_enter Tryz.func61,Tryz.ntmps61;go_wp2_with fail;refine(Ub h hS).mono ?_;rintro e w1 ⟨a,rfl,ha,h1,g1⟩;have HA:=zC ha;clear ha;have hp1:=hp.kp g1;generalize hx:(j4 (ByteArray.empty,0) (zN σ (yA S))).1=x;have HX:=zC hx;clear hx;go_wp2_with fail;refine(Lt hp1.blk hp1.rc (by have:=hp1.nc;omega) x).mono ?_;rintro e w1 ⟨rfl,rfl⟩;rw[show(cv.map fun p=>p.1.name)=yz cv from rfl];generalize hi:zy (yz cv) x=i;have HI:=zC hi;clear hi;go_wp2_with fail;refine(YP h1 _ _ _).mono ?_;rintro e w2 ⟨rfl,h2,g2⟩;go_wp2_with fail;go_ret
 have key:(∀i' s',zN σ (yK S (yz cv))= .ok (i',s')->i=i')/\yF (yd (zN σ (yA S))) (zL (decide (i<0)) 5 a)=yd (zN σ (yK S (yz cv))):=by
  have e1:=HX.o;have e2:=HA.o;have e3:=HI.o
  cases σ with
  |error d=>exact⟨fun _ _ e=>(by cases e),rfl⟩
  |ok s=>
   simp only[zN,yK]at *
   cases hn:yA S s with
   |error d=>exact⟨fun _ _ e=>by simp at e,rfl⟩
   |ok p=>
    obtain⟨⟨y,p⟩,s1⟩:=p;rw[hn]at e1;have:=e2 y p s1 hn;subst this;simp only[j4]at e1;subst e1;subst e3;exact⟨fun _ _ e=>by simp at e;exact e.1,rfl⟩
 exact⟨i,rfl,key.1,by rw[<- key.2];exact h2,g1.trans g2⟩
end Go.Proofs.YteobgfbgglfkbaaGreat
