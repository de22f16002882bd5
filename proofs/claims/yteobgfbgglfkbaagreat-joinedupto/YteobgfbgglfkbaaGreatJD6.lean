import Derived.Test.YteobgfbgglfkbaaGreatJD5
set_option maxHeartbeats 3200000
set_option maxRecDepth 100000
namespace Go.Proofs.YteobgfbgglfkbaaGreat
open Go.RowKit
attribute [local go_sem ↓] Go.wp_at_zero Go.wp_at_succ
def Qc(hv:Nat->Nat->Bool)(m:Nat):Prop:=∀c p,m<=p->hv c p=false
def FOk(w:World)(F:Nat->Prop)(P g:Nat):Prop:=∀k,F k->k<w.heap.size/\k≠P/\k≠g
def Yk(w:World)(P g m:Nat)(nx hv:Nat->Nat->Bool)(N:Nat)(L:zF)(r:Ending)(w':World):Prop:=
 ∃v g' pc m' nx' hv',r= .returned v/\YN v pc/\Ch [P,g] w w'/\(g'=g\/w.heap.size<=g')/\JQ w' P g' m' nx' hv'/\m<=m'/\m'<=m+N/\ji nx' hv' m m' pc L/\
  (∀p q,p<m->nx' p q=nx p q)/\(∀c p,p<m->hv' c p=hv c p)/\Qc hv' m'
theorem Mc.add{w w':World}{P g m:Nat}{nx hv:Nat->Nat->Bool}{fb:Nat->Bool}{Lc:List (Int×Int)}{r:Ending}(H:Mc w P g ⟨false,fun q=>q==m,fun q=>q==m⟩ (m+1) (fun p q=>if p=m then false else nx p q) (fun c q=>hv c q || (fb c && q==m)) r w')(hf:Qc hv m)(hc:∀c,c<256->fb c=zo Lc c):
 Yk w P g m nx hv 1 (zF.cls Lc) r w':=by
 obtain⟨v,g',rfl,hv',hch,hg,hp⟩:=H;refine⟨v,g',_,m+1,_,_,rfl,hv',hch,hg,hp,by omega,by omega,aH (by simp) (fun c h=>by simp[hf c m (Nat.le_refl _),hc c h]),fun p q hpm=>by rw[if_neg (by omega)],fun c p hpm=> ?_,fun c p hpm=> ?_⟩
 ·have:(p==m)=false:=by simp;omega
  simp[this]
 ·have:(p==m)=false:=by simp;omega
  simp[this,hf c p (by omega)]
theorem Uc{w W w4:World}{P g m N B:Nat}{nx hv:Nat->Nat->Bool}{L:zF}{r:Ending}(c:Ch [] w W)(hP:P<w.heap.size)(hg:g<w.heap.size)(hB:zE W B (zM false (fun _=>0) (fun _=>0)) 163)(hwB:w.heap.size<=B)(H:Yk W P g m nx hv N L r w4):
 ∃e qf ql,r= .returned (yD e qf ql)/\zE w4 B (zM false (fun _=>0) (fun _=>0)) 163/\Yk w P g m nx hv N L (.returned (yD e qf ql)) (lay9 w4 B e qf ql)/\zE (lay9 w4 B e qf ql) B (zM e qf ql) 163:=by
 obtain⟨v,g',pc,m',nx',hv',rfl,⟨qf,ql,rfl,h1,h2⟩,ch,hg',hp,rest⟩:=H;have hBl:=hB.lt;have zc:=c.size;have nB:=hB.kp ch (by simp;omega);obtain⟨n1,k1⟩:=nB.lay9 (e':=pc.e) (f':=qf) (l':=ql);refine⟨pc.e,qf,ql,rfl,nB,⟨_,g',pc,m',nx',hv',rfl,⟨qf,ql,rfl,h1,h2⟩,?_,by omega,hp.kp k1 (by simp;omega) (by simp;omega),rest⟩,n1⟩
 exact⟨k1.os.trans (ch.os.trans c.os),k1.tape.trans (ch.tape.trans c.tape),k1.output.trans (ch.output.trans c.output),by have:=ch.size;have:=k1.size;omega,fun k hk hx=>by
  rw[k1.block k (by have:=ch.size;omega) (by simp;omega),ch.block k (by omega) hx,c.block k hk (by simp)]⟩
def VN(h:Nat):Prop:=∀(w:World) (F:Nat->Prop) (P g m:Nat) (nx hv:Nat->Nat->Bool) (v:Value) (L:zF) (N:Nat),yC w F h v L N->JI v->FOk w F P g->JQ w P g m nx hv->Qc hv m->m+N<=256->
 Calls Tryz.prog 70 #[.pointer (some ⟨P,0,none⟩),v] w (Yk w P g m nx hv N L)
theorem CD{h:Nat}(hE:VN h){w:World}{F:Nat->Prop}{P g m:Nat}{nx hv:Nat->Nat->Bool}{K c rp:Int}{q:Nat->Nat}{ga:Option Addr}{gn gc N:Nat}{A:zF}(hF:FOk w F P g)(H:JQ w P g m nx hv)(hf:Qc hv m)(hN:m+N<=256)
 (hk:(K=0/\N=1/\0<=c/\c<=255/\A=zF.cls [(c,c)])\/(K=1/\N=1/\A=zF.cls [(0,255)])\/(K=2/\N=1/\∃Lc,zU q (zo Lc)/\A=zF.cls Lc)\/(K=3/\∃M,N=M+1/\yC w F h (.slice ga gn gc) A M)):
 Calls Tryz.prog 194 #[.pointer (some ⟨P,0,none⟩),.agg #[.int .i64 K,.int .u8 c,.int .u64 (q 0),.int .u64 (q 1),.int .u64 (q 2),.int .u64 (q 3),.slice ga gn gc,.int .i64 rp]] w (Yk w P g m nx hv N A):=by
 obtain⟨hPl,hgl,hgP,_⟩:=H.lt
 rcases hk with⟨rfl,rfl,hc0,hc1,rfl⟩|⟨rfl,rfl,rfl⟩|⟨rfl,rfl,Lc,hq,rfl⟩|⟨rfl,M,rfl,hX⟩
 ·obtain⟨c,rfl⟩:∃n:Nat,c=n:=⟨c.toNat,by omega⟩
  go_enter Tryz.func194,Tryz.ntmps194;go_wp2_with fail;have g1:=Ch.alloc [] w (.cells #[.int .i64 0,.int .u8 c,.int .u64 (q 0),.int .u64 (q 1),.int .u64 (q 2),.int .u64 (q 3),.slice ga gn gc,.int .i64 rp] 256)
  have z1:(w.alloc (.cells #[.int .i64 0,.int .u8 c,.int .u64 (q 0),.int .u64 (q 1),.int .u64 (q 2),.int .u64 (q 3),.slice ga gn gc,.int .i64 rp] 256)).heap.size=w.heap.size+1:=by simp
  have bB:zE ((w.alloc (.cells #[.int .i64 0,.int .u8 c,.int .u64 (q 0),.int .u64 (q 1),.int .u64 (q 2),.int .u64 (q 3),.slice ga gn gc,.int .i64 rp] 256)).alloc (.cells #[.bool false,.int .u64 0,.int .u64 0,.int .u64 0,.int .u64 0,.int .u64 0,.int .u64 0,.int .u64 0,.int .u64 0] 163)) (w.heap.size+1) (zM false (fun _=>0) (fun _=>0)) 163:=by
   have:=zE.new (w.alloc (.cells #[.int .i64 0,.int .u8 c,.int .u64 (q 0),.int .u64 (q 1),.int .u64 (q 2),.int .u64 (q 3),.slice ga gn gc,.int .i64 rp] 256)) (zM false (fun _=>0) (fun _=>0)) 163;rw[z1]at this;exact this
  have g2:=g1.trans (Ch.alloc [] _ (.cells #[.bool false,.int .u64 0,.int .u64 0,.int .u64 0,.int .u64 0,.int .u64 0,.int .u64 0,.int .u64 0,.int .u64 0] 163))
  have z2:((w.alloc (.cells #[.int .i64 0,.int .u8 c,.int .u64 (q 0),.int .u64 (q 1),.int .u64 (q 2),.int .u64 (q 3),.slice ga gn gc,.int .i64 rp] 256)).alloc (.cells #[.bool false,.int .u64 0,.int .u64 0,.int .u64 0,.int .u64 0,.int .u64 0,.int .u64 0,.int .u64 0,.int .u64 0] 163)).heap.size=w.heap.size+1+1:=by simp
  have bC:=zE.new ((w.alloc (.cells #[.int .i64 0,.int .u8 c,.int .u64 (q 0),.int .u64 (q 1),.int .u64 (q 2),.int .u64 (q 3),.slice ga gn gc,.int .i64 rp] 256)).alloc (.cells #[.bool false,.int .u64 0,.int .u64 0,.int .u64 0,.int .u64 0,.int .u64 0,.int .u64 0,.int .u64 0,.int .u64 0] 163)) #[.int .u8 c] 5;have g3:=g2.trans (Ch.alloc [] _ (.cells #[.int .u8 c] 5));have bB3:=bB.kp (Ch.alloc [] ((w.alloc (.cells #[.int .i64 0,.int .u8 c,.int .u64 (q 0),.int .u64 (q 1),.int .u64 (q 2),.int .u64 (q 3),.slice ga gn gc,.int .i64 rp] 256)).alloc (.cells #[.bool false,.int .u64 0,.int .u64 0,.int .u64 0,.int .u64 0,.int .u64 0,.int .u64 0,.int .u64 0,.int .u64 0] 163)) (.cells #[.int .u8 c] 5)) (by simp)
  have z3:(((w.alloc (.cells #[.int .i64 0,.int .u8 c,.int .u64 (q 0),.int .u64 (q 1),.int .u64 (q 2),.int .u64 (q 3),.slice ga gn gc,.int .i64 rp] 256)).alloc (.cells #[.bool false,.int .u64 0,.int .u64 0,.int .u64 0,.int .u64 0,.int .u64 0,.int .u64 0,.int .u64 0,.int .u64 0] 163)).alloc (.cells #[.int .u8 c] 5)).heap.size=w.heap.size+3:=by simp
  rw[z2]at bC;clear z1 z2 bB g1 g2;generalize ((w.alloc (.cells #[.int .i64 0,.int .u8 c,.int .u64 (q 0),.int .u64 (q 1),.int .u64 (q 2),.int .u64 (q 3),.slice ga gn gc,.int .i64 rp] 256)).alloc (.cells #[.bool false,.int .u64 0,.int .u64 0,.int .u64 0,.int .u64 0,.int .u64 0,.int .u64 0,.int .u64 0,.int .u64 0] 163)).alloc (.cells #[.int .u8 c] 5)=W at *;generalize hK:w.heap.size=KK at *;refine(LU bC (by omega)).mono ?_;rintro r w3 ⟨qc,rfl,hqc,h3⟩;have W3:=g3.trans h3;have bB4:=bB3.kp h3 (by simp);go_wp2_with fail;refine(ML (H.kp W3 (by simp) (by simp)) (by omega) hqc).mono ?_;rintro r w4 hp
  have hpost:=hp.add (Lc:=[(c,c)]) hf (fun j _=>by
   simp only[zo,List.any_cons,List.any_nil,Bool.or_false]
   rw[Bool.eq_iff_iff];simp;omega)
  clear hp;subst hK;obtain⟨e,qf,ql,rfl,nB,hfin,nX⟩:=Uc (w:=w) W3 hPl hgl bB4 (by omega) hpost;obtain⟨c0,c1,c2,c3,c4,c5,c6,c7,c8,cf⟩:=nB.c9;rw[show yD e qf ql= .agg #[.bool e,.int .u64 (qf 0),.int .u64 (qf 1),.int .u64 (qf 2),.int .u64 (qf 3),.int .u64 (ql 0),.int .u64 (ql 1),.int .u64 (ql 2),.int .u64 (ql 3)]from rfl];have HF:=zC hfin;clear hfin;go_wp2_with fail;clear c0 c1 c2 c3 c4 c5 c6 c7 c8 cf
  show bodyPost _ _ _ _ _ (lay9 w4 (w.heap.size+1) e qf ql)
  have HF':=HF.o;generalize lay9 w4 (w.heap.size+1) e qf ql=X at *;obtain⟨y0,y1,y2,y3,y4,y5,y6,y7,y8,yf⟩:=nX.c9;exact bodyPost_ret (v:=yD e qf ql) (by simp[results,Tryz.results194,go_sem,yD,zM,y0,y1,y2,y3,y4,y5,y6,y7,y8]) rfl HF'
 ·go_enter Tryz.func194,Tryz.ntmps194
  go_wp2_with fail;have g1:=Ch.alloc [] w (.cells #[.int .i64 1,.int .u8 c,.int .u64 (q 0),.int .u64 (q 1),.int .u64 (q 2),.int .u64 (q 3),.slice ga gn gc,.int .i64 rp] 256)
  have z1:(w.alloc (.cells #[.int .i64 1,.int .u8 c,.int .u64 (q 0),.int .u64 (q 1),.int .u64 (q 2),.int .u64 (q 3),.slice ga gn gc,.int .i64 rp] 256)).heap.size=w.heap.size+1:=by simp
  have bB:zE ((w.alloc (.cells #[.int .i64 1,.int .u8 c,.int .u64 (q 0),.int .u64 (q 1),.int .u64 (q 2),.int .u64 (q 3),.slice ga gn gc,.int .i64 rp] 256)).alloc (.cells #[.bool false,.int .u64 0,.int .u64 0,.int .u64 0,.int .u64 0,.int .u64 0,.int .u64 0,.int .u64 0,.int .u64 0] 163)) (w.heap.size+1) (zM false (fun _=>0) (fun _=>0)) 163:=by
   have:=zE.new (w.alloc (.cells #[.int .i64 1,.int .u8 c,.int .u64 (q 0),.int .u64 (q 1),.int .u64 (q 2),.int .u64 (q 3),.slice ga gn gc,.int .i64 rp] 256)) (zM false (fun _=>0) (fun _=>0)) 163;rw[z1]at this;exact this
  have g2:=g1.trans (Ch.alloc [] _ (.cells #[.bool false,.int .u64 0,.int .u64 0,.int .u64 0,.int .u64 0,.int .u64 0,.int .u64 0,.int .u64 0,.int .u64 0] 163))
  have z2:((w.alloc (.cells #[.int .i64 1,.int .u8 c,.int .u64 (q 0),.int .u64 (q 1),.int .u64 (q 2),.int .u64 (q 3),.slice ga gn gc,.int .i64 rp] 256)).alloc (.cells #[.bool false,.int .u64 0,.int .u64 0,.int .u64 0,.int .u64 0,.int .u64 0,.int .u64 0,.int .u64 0,.int .u64 0] 163)).heap.size=w.heap.size+1+1:=by simp
  clear z1 g1;generalize (w.alloc (.cells #[.int .i64 1,.int .u8 c,.int .u64 (q 0),.int .u64 (q 1),.int .u64 (q 2),.int .u64 (q 3),.slice ga gn gc,.int .i64 rp] 256)).alloc (.cells #[.bool false,.int .u64 0,.int .u64 0,.int .u64 0,.int .u64 0,.int .u64 0,.int .u64 0,.int .u64 0,.int .u64 0] 163)=W at *;generalize hK:w.heap.size=KK at *;refine(Vw 0 255 (by omega) (by omega)).mono ?_;rintro r w3 ⟨qc,rfl,hqc,h3⟩;have W3:=g2.trans h3;have bB4:=bB.kp h3 (by simp);go_wp2_with fail;refine(ML (H.kp W3 (by simp) (by simp)) (by omega) hqc).mono ?_;rintro r w4 hp
  have hpost:=hp.add (Lc:=[(0,255)]) hf (fun j hj=>by
   simp only[zo,List.any_cons,List.any_nil,Bool.or_false]
   rw[Bool.eq_iff_iff];simp;omega)
  clear hp;subst hK;obtain⟨e,qf,ql,rfl,nB,hfin,nX⟩:=Uc (w:=w) W3 hPl hgl bB4 (by omega) hpost;obtain⟨c0,c1,c2,c3,c4,c5,c6,c7,c8,cf⟩:=nB.c9;rw[show yD e qf ql= .agg #[.bool e,.int .u64 (qf 0),.int .u64 (qf 1),.int .u64 (qf 2),.int .u64 (qf 3),.int .u64 (ql 0),.int .u64 (ql 1),.int .u64 (ql 2),.int .u64 (ql 3)]from rfl];have HF:=zC hfin;clear hfin;go_wp2_with fail;clear c0 c1 c2 c3 c4 c5 c6 c7 c8 cf
  show bodyPost _ _ _ _ _ (lay9 w4 (w.heap.size+1) e qf ql)
  have HF':=HF.o;generalize lay9 w4 (w.heap.size+1) e qf ql=X at *;obtain⟨y0,y1,y2,y3,y4,y5,y6,y7,y8,yf⟩:=nX.c9;exact bodyPost_ret (v:=yD e qf ql) (by simp[results,Tryz.results194,go_sem,yD,zM,y0,y1,y2,y3,y4,y5,y6,y7,y8]) rfl HF'
 ·go_enter Tryz.func194,Tryz.ntmps194
  go_wp2_with fail;have g1:=Ch.alloc [] w (.cells #[.int .i64 2,.int .u8 c,.int .u64 (q 0),.int .u64 (q 1),.int .u64 (q 2),.int .u64 (q 3),.slice ga gn gc,.int .i64 rp] 256)
  have z1:(w.alloc (.cells #[.int .i64 2,.int .u8 c,.int .u64 (q 0),.int .u64 (q 1),.int .u64 (q 2),.int .u64 (q 3),.slice ga gn gc,.int .i64 rp] 256)).heap.size=w.heap.size+1:=by simp
  have bB:zE ((w.alloc (.cells #[.int .i64 2,.int .u8 c,.int .u64 (q 0),.int .u64 (q 1),.int .u64 (q 2),.int .u64 (q 3),.slice ga gn gc,.int .i64 rp] 256)).alloc (.cells #[.bool false,.int .u64 0,.int .u64 0,.int .u64 0,.int .u64 0,.int .u64 0,.int .u64 0,.int .u64 0,.int .u64 0] 163)) (w.heap.size+1) (zM false (fun _=>0) (fun _=>0)) 163:=by
   have:=zE.new (w.alloc (.cells #[.int .i64 2,.int .u8 c,.int .u64 (q 0),.int .u64 (q 1),.int .u64 (q 2),.int .u64 (q 3),.slice ga gn gc,.int .i64 rp] 256)) (zM false (fun _=>0) (fun _=>0)) 163;rw[z1]at this;exact this
  have g2:=g1.trans (Ch.alloc [] _ (.cells #[.bool false,.int .u64 0,.int .u64 0,.int .u64 0,.int .u64 0,.int .u64 0,.int .u64 0,.int .u64 0,.int .u64 0] 163))
  have z2:((w.alloc (.cells #[.int .i64 2,.int .u8 c,.int .u64 (q 0),.int .u64 (q 1),.int .u64 (q 2),.int .u64 (q 3),.slice ga gn gc,.int .i64 rp] 256)).alloc (.cells #[.bool false,.int .u64 0,.int .u64 0,.int .u64 0,.int .u64 0,.int .u64 0,.int .u64 0,.int .u64 0,.int .u64 0] 163)).heap.size=w.heap.size+1+1:=by simp
  clear z1 g1;generalize (w.alloc (.cells #[.int .i64 2,.int .u8 c,.int .u64 (q 0),.int .u64 (q 1),.int .u64 (q 2),.int .u64 (q 3),.slice ga gn gc,.int .i64 rp] 256)).alloc (.cells #[.bool false,.int .u64 0,.int .u64 0,.int .u64 0,.int .u64 0,.int .u64 0,.int .u64 0,.int .u64 0,.int .u64 0] 163)=W at *;generalize hK:w.heap.size=KK at *;refine(ML (H.kp g2 (by simp) (by simp)) (by omega) hq).mono ?_;rintro r w4 hp;have hpost:=hp.add (Lc:=Lc) hf (fun j _=>rfl);clear hp;subst hK;obtain⟨e,qf,ql,rfl,nB,hfin,nX⟩:=Uc (w:=w) g2 hPl hgl bB (by omega) hpost;obtain⟨c0,c1,c2,c3,c4,c5,c6,c7,c8,cf⟩:=nB.c9;rw[show yD e qf ql= .agg #[.bool e,.int .u64 (qf 0),.int .u64 (qf 1),.int .u64 (qf 2),.int .u64 (qf 3),.int .u64 (ql 0),.int .u64 (ql 1),.int .u64 (ql 2),.int .u64 (ql 3)]from rfl];have HF:=zC hfin;clear hfin;go_wp2_with fail;clear c0 c1 c2 c3 c4 c5 c6 c7 c8 cf
  show bodyPost _ _ _ _ _ (lay9 w4 (w.heap.size+1) e qf ql)
  have HF':=HF.o;generalize lay9 w4 (w.heap.size+1) e qf ql=X at *;obtain⟨y0,y1,y2,y3,y4,y5,y6,y7,y8,yf⟩:=nX.c9;exact bodyPost_ret (v:=yD e qf ql) (by simp[results,Tryz.results194,go_sem,yD,zM,y0,y1,y2,y3,y4,y5,y6,y7,y8]) rfl HF'
 ·have HX:=zC hX
  have HE:=zC hE;clear hX hE;go_enter Tryz.func194,Tryz.ntmps194;go_wp2_with fail;have g1:=Ch.alloc [] w (.cells #[.int .i64 3,.int .u8 c,.int .u64 (q 0),.int .u64 (q 1),.int .u64 (q 2),.int .u64 (q 3),.slice ga gn gc,.int .i64 rp] 256)
  have z1:(w.alloc (.cells #[.int .i64 3,.int .u8 c,.int .u64 (q 0),.int .u64 (q 1),.int .u64 (q 2),.int .u64 (q 3),.slice ga gn gc,.int .i64 rp] 256)).heap.size=w.heap.size+1:=by simp
  have bB:zE ((w.alloc (.cells #[.int .i64 3,.int .u8 c,.int .u64 (q 0),.int .u64 (q 1),.int .u64 (q 2),.int .u64 (q 3),.slice ga gn gc,.int .i64 rp] 256)).alloc (.cells #[.bool false,.int .u64 0,.int .u64 0,.int .u64 0,.int .u64 0,.int .u64 0,.int .u64 0,.int .u64 0,.int .u64 0] 163)) (w.heap.size+1) (zM false (fun _=>0) (fun _=>0)) 163:=by
   have:=zE.new (w.alloc (.cells #[.int .i64 3,.int .u8 c,.int .u64 (q 0),.int .u64 (q 1),.int .u64 (q 2),.int .u64 (q 3),.slice ga gn gc,.int .i64 rp] 256)) (zM false (fun _=>0) (fun _=>0)) 163;rw[z1]at this;exact this
  have g2:=g1.trans (Ch.alloc [] _ (.cells #[.bool false,.int .u64 0,.int .u64 0,.int .u64 0,.int .u64 0,.int .u64 0,.int .u64 0,.int .u64 0,.int .u64 0] 163))
  have z2:((w.alloc (.cells #[.int .i64 3,.int .u8 c,.int .u64 (q 0),.int .u64 (q 1),.int .u64 (q 2),.int .u64 (q 3),.slice ga gn gc,.int .i64 rp] 256)).alloc (.cells #[.bool false,.int .u64 0,.int .u64 0,.int .u64 0,.int .u64 0,.int .u64 0,.int .u64 0,.int .u64 0,.int .u64 0] 163)).heap.size=w.heap.size+1+1:=by simp
  clear z1 g1;generalize (w.alloc (.cells #[.int .i64 3,.int .u8 c,.int .u64 (q 0),.int .u64 (q 1),.int .u64 (q 2),.int .u64 (q 3),.slice ga gn gc,.int .i64 rp] 256)).alloc (.cells #[.bool false,.int .u64 0,.int .u64 0,.int .u64 0,.int .u64 0,.int .u64 0,.int .u64 0,.int .u64 0,.int .u64 0] 163)=W at *;have hx:=yC.frame (w':=W) (G:=F) (fun k hk=>g2.block k (hF k hk).1 (by simp)) (fun _ h=>h) _ _ _ _ HX.o;refine(HE.o W F P g m nx hv _ A M hx ⟨_,_,_,rfl⟩ (fun k hk=>by have:=hF k hk;have:=g2.size;omega) (H.kp g2 (by simp) (by simp)) hf (by omega)).mono ?_;rintro r w4 hp
  have hpost:Yk W P g m nx hv (M+1) A r w4:=by
   obtain⟨v,g',pc,m',nx',hv',e,a,ch,hg,hp,h5,h6,rest⟩:=hp;exact⟨v,g',pc,m',nx',hv',e,a,ch,hg,hp,h5,by omega,rest⟩
  clear hp;obtain⟨e,qf,ql,rfl,nB,hfin,nX⟩:=Uc (w:=w) g2 hPl hgl bB (by omega) hpost;obtain⟨c0,c1,c2,c3,c4,c5,c6,c7,c8,cf⟩:=nB.c9;rw[show yD e qf ql= .agg #[.bool e,.int .u64 (qf 0),.int .u64 (qf 1),.int .u64 (qf 2),.int .u64 (qf 3),.int .u64 (ql 0),.int .u64 (ql 1),.int .u64 (ql 2),.int .u64 (ql 3)]from rfl];have HF:=zC hfin;clear hfin;go_wp2_with fail;clear c0 c1 c2 c3 c4 c5 c6 c7 c8 cf
  show bodyPost _ _ _ _ _ (lay9 w4 (w.heap.size+1) e qf ql)
  have HF':=HF.o;generalize lay9 w4 (w.heap.size+1) e qf ql=X at *;obtain⟨y0,y1,y2,y3,y4,y5,y6,y7,y8,yf⟩:=nX.c9;exact bodyPost_ret (v:=yD e qf ql) (by simp[results,Tryz.results194,go_sem,yD,zM,y0,y1,y2,y3,y4,y5,y6,y7,y8]) rfl HF'
theorem Ch.more{X Y:List Nat}{w1 w2 w3:World}(g:Ch X w1 w2)(k:Ch Y w2 w3)(h:∀y,y∈Y->y∈X\/w1.heap.size<=y):Ch X w1 w3:=
 ⟨k.os.trans g.os,k.tape.trans g.tape,k.output.trans g.output,Nat.le_trans g.size k.size,fun i hi hx=>by
  rw[k.block i (by have:=g.size;omega) (fun hy=>by rcases h i hy with e|e;exact hx e;omega),g.block i hi hx]⟩
theorem Rl{h:Nat}(hE:VN h){w:World}{F:Nat->Prop}{P g m:Nat}{nx hv:Nat->Nat->Bool}{K c rp:Int}{q:Nat->Nat}{ga:Option Addr}{gn gc N:Nat}{A:zF}(hF:FOk w F P g)(H:JQ w P g m nx hv)(hf:Qc hv m)(hN:m+N<=256)(hr0:0<=rp)(hr3:rp<=3)
 (hk:(K=0/\N=1/\0<=c/\c<=255/\A=zF.cls [(c,c)])\/(K=1/\N=1/\A=zF.cls [(0,255)])\/(K=2/\N=1/\∃Lc,zU q (zo Lc)/\A=zF.cls Lc)\/(K=3/\∃M,N=M+1/\yC w F h (.slice ga gn gc) A M)):
 Calls Tryz.prog 148 #[.pointer (some ⟨P,0,none⟩),.agg #[.int .i64 K,.int .u8 c,.int .u64 (q 0),.int .u64 (q 1),.int .u64 (q 2),.int .u64 (q 3),.slice ga gn gc,.int .i64 rp]] w (Yk w P g m nx hv N (YX rp A)):=by
 obtain⟨hPl,hgl,hgP,_⟩:=H.lt;have HK:=zC hk;have HE:=zC hE;clear hk hE;go_enter Tryz.func148,Tryz.ntmps148;go_wp2_with fail;have g1:=Ch.alloc [] w (.cells #[.int .i64 K,.int .u8 c,.int .u64 (q 0),.int .u64 (q 1),.int .u64 (q 2),.int .u64 (q 3),.slice ga gn gc,.int .i64 rp] 256)
 have z1:(w.alloc (.cells #[.int .i64 K,.int .u8 c,.int .u64 (q 0),.int .u64 (q 1),.int .u64 (q 2),.int .u64 (q 3),.slice ga gn gc,.int .i64 rp] 256)).heap.size=w.heap.size+1:=by simp
 have bA:zE ((w.alloc (.cells #[.int .i64 K,.int .u8 c,.int .u64 (q 0),.int .u64 (q 1),.int .u64 (q 2),.int .u64 (q 3),.slice ga gn gc,.int .i64 rp] 256)).alloc (.cells #[.bool false,.int .u64 0,.int .u64 0,.int .u64 0,.int .u64 0,.int .u64 0,.int .u64 0,.int .u64 0,.int .u64 0] 163)) w.heap.size #[.int .i64 K,.int .u8 c,.int .u64 (q 0),.int .u64 (q 1),.int .u64 (q 2),.int .u64 (q 3),.slice ga gn gc,.int .i64 rp] 256:=(zE.new w _ _).kp (Ch.alloc [] _ _) (by simp)
 have bB:zE ((w.alloc (.cells #[.int .i64 K,.int .u8 c,.int .u64 (q 0),.int .u64 (q 1),.int .u64 (q 2),.int .u64 (q 3),.slice ga gn gc,.int .i64 rp] 256)).alloc (.cells #[.bool false,.int .u64 0,.int .u64 0,.int .u64 0,.int .u64 0,.int .u64 0,.int .u64 0,.int .u64 0,.int .u64 0] 163)) (w.heap.size+1) (zM false (fun _=>0) (fun _=>0)) 163:=by
  have:=zE.new (w.alloc (.cells #[.int .i64 K,.int .u8 c,.int .u64 (q 0),.int .u64 (q 1),.int .u64 (q 2),.int .u64 (q 3),.slice ga gn gc,.int .i64 rp] 256)) (zM false (fun _=>0) (fun _=>0)) 163;rw[z1]at this;exact this
 have g2:=g1.trans (Ch.alloc [] _ (.cells #[.bool false,.int .u64 0,.int .u64 0,.int .u64 0,.int .u64 0,.int .u64 0,.int .u64 0,.int .u64 0,.int .u64 0] 163))
 have z2:((w.alloc (.cells #[.int .i64 K,.int .u8 c,.int .u64 (q 0),.int .u64 (q 1),.int .u64 (q 2),.int .u64 (q 3),.slice ga gn gc,.int .i64 rp] 256)).alloc (.cells #[.bool false,.int .u64 0,.int .u64 0,.int .u64 0,.int .u64 0,.int .u64 0,.int .u64 0,.int .u64 0,.int .u64 0] 163)).heap.size=w.heap.size+1+1:=by simp
 clear z1 g1;generalize (w.alloc (.cells #[.int .i64 K,.int .u8 c,.int .u64 (q 0),.int .u64 (q 1),.int .u64 (q 2),.int .u64 (q 3),.slice ga gn gc,.int .i64 rp] 256)).alloc (.cells #[.bool false,.int .u64 0,.int .u64 0,.int .u64 0,.int .u64 0,.int .u64 0,.int .u64 0,.int .u64 0,.int .u64 0] 163)=W at *
 have hk2:(K=0/\N=1/\0<=c/\c<=255/\A=zF.cls [(c,c)])\/(K=1/\N=1/\A=zF.cls [(0,255)])\/(K=2/\N=1/\∃Lc,zU q (zo Lc)/\A=zF.cls Lc)\/(K=3/\∃M,N=M+1/\yC W F h (.slice ga gn gc) A M):=by
  rcases HK.o with hk|hk|hk|⟨hk,M,hM,hX⟩
  ·exact Or.inl hk
  ·exact Or.inr (Or.inl hk)
  ·exact Or.inr (Or.inr (Or.inl hk))
  ·exact Or.inr (Or.inr (Or.inr ⟨hk,M,hM,yC.frame (fun k hk=>g2.block k (hF k hk).1 (by simp)) (fun _ h=>h) _ _ _ _ hX⟩))
 refine(CD HE.o (F:=F) (fun k hk=>by have:=hF k hk;have:=g2.size;omega) (H.kp g2 (by simp) (by simp)) hf hN hk2).mono ?_;rintro r w3 ⟨v,g',pc,m',nx',hv',rfl,⟨qf,ql,rfl,hqf,hql⟩,ch,hg',hp,hm1,hm2,hpo,hnx,hhv,hfr⟩;clear hk2 HK HE;have zg2:=g2.size;have nA:=bA.kp ch (by simp;omega);have nB:=bB.kp ch (by simp;omega);have zc:=ch.size;obtain⟨hP3,hg3,hgP3,_⟩:=hp.lt;generalize hpe:pc.e=e at *;rw[show yD e qf ql= .agg #[.bool e,.int .u64 (qf 0),.int .u64 (qf 1),.int .u64 (qf 2),.int .u64 (qf 3),.int .u64 (ql 0),.int .u64 (ql 1),.int .u64 (ql 2),.int .u64 (ql 3)]from rfl];have HPE:=zC hpe;clear hpe;have gW:Ch [P,g] w w3:=(g2.mono (by simp)).trans ch
 have lNo:∀p,p<m->pc.l p=false:=fun p hpm=>by
  cases el:pc.l p with
  |false=>rfl
  |true=>have:=hpo.lr p el;omega
 have a7:=nA.cl 7 _ rfl
 have kl0:w.heap.size<w3.heap.size:=by omega
 have kl1:w.heap.size+1<w3.heap.size:=by omega
 obtain⟨c0,c1,c2,c3,c4,c5,c6,c7,c8,cf⟩:=nB.c9;generalize hK:w.heap.size=KK at *
 have FIN:∀(e':Bool) (nx2:Nat->Nat->Bool) (X:World),JQ X P g' m' nx2 hv'->Ch [P,g] w X->(∀p q,p<m->nx2 p q=nx' p q)->ji nx2 hv' m m' {pc with e:=e'} (YX rp A)->Yk w P g m nx hv N (YX rp A) (.returned (yD e' qf ql)) X:=by
  intro e' nx2 X hX cX h1 h2;exact⟨_,g',{pc with e:=e'},m',nx2,hv',rfl,⟨qf,ql,rfl,hqf,hql⟩,cX,by omega,hX,hm1,hm2,h2,fun p q hpm=>(h1 p q hpm).trans (hnx p q hpm),hhv,hfr⟩
 have HFIN:=zC FIN;clear FIN
 obtain rfl|rfl|rfl|rfl:rp=0\/rp=1\/rp=2\/rp=3:=by omega
 ·go_wp2_with fail
  obtain⟨n1,k1⟩:=nB.lay9 (e':=e) (f':=qf) (l':=ql);have k2:=Ch.alloc [] (lay9 w3 (KK+1) e qf ql) (.cells (zM e qf ql) 163);have n2:=n1.kp k2 (by simp);have kk:Ch [KK+1] w3 _:=k1.trans (k2.mono (by simp))
  show bodyPost _ _ _ _ _ ((lay9 w3 (KK+1) e qf ql).alloc (.cells (zM e qf ql) 163))
  clear c0 c1 c2 c3 c4 c5 c6 c7 c8 cf a7;generalize (lay9 w3 (KK+1) e qf ql).alloc (.cells (zM e qf ql) 163)=X at *;obtain⟨y0,y1,y2,y3,y4,y5,y6,y7,y8,yf⟩:=n2.c9;refine bodyPost_ret (v:=yD e qf ql) (by simp[results,Tryz.results148,go_sem,yD,zM,y0,y1,y2,y3,y4,y5,y6,y7,y8]) rfl ?_;exact HFIN.o e nx' X (hp.kp kk (by simp;omega) (by simp;omega)) (gW.more kk (by simp;omega)) (fun _ _ _=>rfl) (by rw[<- HPE.o];exact hpo)
 ·go_wp2_with fail
  have kD:=Ch.alloc [] w3 (.cells (zM e qf ql) 163);have nD:=zE.new w3 (zM e qf ql) 163;have mA:=nA.kp kD (by simp);have mB:=nB.kp kD (by simp);have mP:=hp.kp kD (by simp) (by simp);rw[show w3.alloc (.cells #[.bool e,.int .u64 (qf 0),.int .u64 (qf 1),.int .u64 (qf 2),.int .u64 (qf 3),.int .u64 (ql 0),.int .u64 (ql 1),.int .u64 (ql 2),.int .u64 (ql 3)] 163)=w3.alloc (.cells (zM e qf ql) 163)from rfl]
  have zD:(w3.alloc (.cells (zM e qf ql) 163)).heap.size=w3.heap.size+1:=by simp
  clear c0 c1 c2 c3 c4 c5 c6 c7 c8 cf a7;generalize w3.alloc (.cells (zM e qf ql) 163)=w4 at *;generalize hD:w3.heap.size=D at *;refine(Kj mP hql hqf).mono ?_;rintro r w5 ⟨rfl,h5,hp5⟩;have A5:=mA.kp h5 (by simp;omega);have B5:=mB.kp h5 (by simp;omega);have D5:=nD.kp h5 (by simp;omega);have z5:=h5.size;have a7:=A5.cl 7 _ rfl;obtain⟨c0,c1,c2,c3,c4,c5,c6,c7,c8,cf⟩:=B5.c9;obtain⟨d0,d1,d2,d3,d4,d5,d6,d7,d8,df⟩:=D5.c9;have g35:Ch [P,g] w w5:=(gW.more kD (by simp)).more h5 (by simp;omega);have pl:ji (yl nx' pc.l pc.f) hv' m m' {pc with e:=true} (YX 1 A):=Ow hpo
  have pn:∀p q,p<m->yl nx' pc.l pc.f p q=nx' p q:=fun p q hpm=>by simp[yl,lNo p hpm]
  have HPL:=zC pl;have HPN:=zC pn;clear pl pn;go_wp2_with fail;have hs:Ch [D] w5 (w5.setCell ⟨D,0,none⟩ (.bool true)):=Ch.setCell _ (by simp) _;have B6:=B5.kp hs (by simp;omega);obtain⟨n1,k1⟩:=B6.lay9 (e':=true) (f':=qf) (l':=ql)
  show bodyPost _ _ _ _ _ (lay9 (w5.setCell ⟨D,0,none⟩ (.bool true)) (KK+1) true qf ql)
  clear c0 c1 c2 c3 c4 c5 c6 c7 c8 cf d0 d1 d2 d3 d4 d5 d6 d7 d8 df a7
  have z6:(w5.setCell ⟨D,0,none⟩ (.bool true)).heap.size=w5.heap.size:=by simp[World.setCell]
  generalize w5.setCell ⟨D,0,none⟩ (.bool true)=w6 at *;have hp6:=hp5.kp hs (by simp;omega) (by simp;omega);have g36:=g35.more hs (by simp;omega);generalize lay9 w6 (KK+1) true qf ql=X at *;obtain⟨y0,y1,y2,y3,y4,y5,y6,y7,y8,yf⟩:=n1.c9;refine bodyPost_ret (v:=yD true qf ql) (by simp[results,Tryz.results148,go_sem,yD,zM,y0,y1,y2,y3,y4,y5,y6,y7,y8]) rfl ?_;exact HFIN.o true _ X (hp6.kp k1 (by simp;omega) (by simp;omega)) (g36.more k1 (by simp;omega)) HPN.o HPL.o
 ·go_wp2_with fail
  have kD:=Ch.alloc [] w3 (.cells (zM e qf ql) 163);have nD:=zE.new w3 (zM e qf ql) 163;have mA:=nA.kp kD (by simp);have mB:=nB.kp kD (by simp);have mP:=hp.kp kD (by simp) (by simp);rw[show w3.alloc (.cells #[.bool e,.int .u64 (qf 0),.int .u64 (qf 1),.int .u64 (qf 2),.int .u64 (qf 3),.int .u64 (ql 0),.int .u64 (ql 1),.int .u64 (ql 2),.int .u64 (ql 3)] 163)=w3.alloc (.cells (zM e qf ql) 163)from rfl]
  have zD:(w3.alloc (.cells (zM e qf ql) 163)).heap.size=w3.heap.size+1:=by simp
  clear c0 c1 c2 c3 c4 c5 c6 c7 c8 cf a7;generalize w3.alloc (.cells (zM e qf ql) 163)=w4 at *;generalize hD:w3.heap.size=D at *;refine(Kj mP hql hqf).mono ?_;rintro r w5 ⟨rfl,h5,hp5⟩;have A5:=mA.kp h5 (by simp;omega);have B5:=mB.kp h5 (by simp;omega);have D5:=nD.kp h5 (by simp;omega);have z5:=h5.size;have a7:=A5.cl 7 _ rfl;obtain⟨c0,c1,c2,c3,c4,c5,c6,c7,c8,cf⟩:=B5.c9;obtain⟨d0,d1,d2,d3,d4,d5,d6,d7,d8,df⟩:=D5.c9;have g35:Ch [P,g] w w5:=(gW.more kD (by simp)).more h5 (by simp;omega);have pl:ji (yl nx' pc.l pc.f) hv' m m' {pc with e:=e} (YX 2 A):=(by rw[<- HPE.o];exact EB hpo)
  have pn:∀p q,p<m->yl nx' pc.l pc.f p q=nx' p q:=fun p q hpm=>by simp[yl,lNo p hpm]
  have HPL:=zC pl;have HPN:=zC pn;clear pl pn;go_wp2_with fail;obtain⟨n1,k1⟩:=B5.lay9 (e':=e) (f':=qf) (l':=ql)
  show bodyPost _ _ _ _ _ (lay9 w5 (KK+1) e qf ql)
  clear c0 c1 c2 c3 c4 c5 c6 c7 c8 cf d0 d1 d2 d3 d4 d5 d6 d7 d8 df a7;have hp6:=hp5;have g36:=g35;generalize lay9 w5 (KK+1) e qf ql=X at *;obtain⟨y0,y1,y2,y3,y4,y5,y6,y7,y8,yf⟩:=n1.c9;refine bodyPost_ret (v:=yD e qf ql) (by simp[results,Tryz.results148,go_sem,yD,zM,y0,y1,y2,y3,y4,y5,y6,y7,y8]) rfl ?_;exact HFIN.o e _ X (hp6.kp k1 (by simp;omega) (by simp;omega)) (g36.more k1 (by simp;omega)) HPN.o HPL.o
 ·go_wp2_with fail
  obtain⟨n1,k1⟩:=nB.lay9 (e':=true) (f':=qf) (l':=ql);have k2:=Ch.alloc [] (lay9 w3 (KK+1) true qf ql) (.cells (zM true qf ql) 163);have n2:=n1.kp k2 (by simp);have kk:Ch [KK+1] w3 _:=k1.trans (k2.mono (by simp))
  show bodyPost _ _ _ _ _ ((lay9 w3 (KK+1) true qf ql).alloc (.cells (zM true qf ql) 163))
  clear c0 c1 c2 c3 c4 c5 c6 c7 c8 cf a7;generalize (lay9 w3 (KK+1) true qf ql).alloc (.cells (zM true qf ql) 163)=X at *;obtain⟨y0,y1,y2,y3,y4,y5,y6,y7,y8,yf⟩:=n2.c9;refine bodyPost_ret (v:=yD true qf ql) (by simp[results,Tryz.results148,go_sem,yD,zM,y0,y1,y2,y3,y4,y5,y6,y7,y8]) rfl ?_;exact HFIN.o true nx' X (hp.kp kk (by simp;omega) (by simp;omega)) (gW.more kk (by simp;omega)) (fun _ _ _=>rfl) (Fp hpo)
end Go.Proofs.YteobgfbgglfkbaaGreat
