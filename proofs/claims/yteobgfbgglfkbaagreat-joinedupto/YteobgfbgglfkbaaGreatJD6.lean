import Derived.Test.YteobgfbgglfkbaaGreatJD5
namespace Go.Proofs.YteobgfbgglfkbaaGreat
open Go.RowKit
attribute [local go_sem ↓] Go.wp_at_zero Go.wp_at_succ
def zKN(hv:Nat→Nat→Bool)(m:Nat):Prop:=∀c p,m≤p→hv c p=false
def FOk(w:World)(F:Nat→Prop)(P g:Nat):Prop:=∀k,F k→k<w.heap.size∧k≠P∧k≠g
def zDJ(w:World)(P g m:Nat)(nx hv:Nat→Nat→Bool)(N:Nat)(L:Lang)(r:Ending)(w':World):Prop:=
 ∃v g' pc m' nx' hv',r= .returned v∧zGI v pc∧Ch [P,g] w w'∧(g'=g∨w.heap.size≤g')∧PatG w' P g' m' nx' hv'∧m≤m'∧m'≤m+N∧POk nx' hv' m m' pc L∧
  (∀p q,p<m→nx' p q=nx p q)∧(∀c p,p<m→hv' c p=hv c p)∧zKN hv' m'
theorem APost.add{w w':World}{P g m:Nat}{nx hv:Nat→Nat→Bool}{fb:Nat→Bool}{Lc:List (Int×Int)}{r:Ending}(H:APost w P g ⟨false,fun q=>q==m,fun q=>q==m⟩ (m+1) (fun p q=>if p=m then false else nx p q) (fun c q=>hv c q || (fb c && q==m)) r w')(hf:zKN hv m)(hc:∀c,c<256→fb c=zAj Lc c):
  zDJ w P g m nx hv 1 (Lang.cls Lc) r w':=by
 obtain ⟨v,g',rfl,hv',hch,hg,hp⟩:=H;refine ⟨v,g',_,m+1,_,_,rfl,hv',hch,hg,hp,by omega,by omega,place_ok (by simp) (fun c h=>by simp [hf c m (Nat.le_refl _),hc c h]),fun p q hpm=>by rw [if_neg (by omega)],fun c p hpm=> ?_,fun c p hpm=> ?_⟩
 ·have:(p==m)=false:=by simp;omega
  simp [this]
 ·have:(p==m)=false:=by simp;omega
  simp [this,hf c p (by omega)]
theorem zH2{w W w4:World}{P g m N B:Nat}{nx hv:Nat→Nat→Bool}{L:Lang}{r:Ending}(c:Ch [] w W)(hP:P<w.heap.size)(hg:g<w.heap.size)(hB:zAD W B (pcC false (fun _=>0) (fun _=>0)) 163)(hwB:w.heap.size≤B)(H:zDJ W P g m nx hv N L r w4):
  ∃e qf ql,r= .returned (pcV e qf ql)∧zAD w4 B (pcC false (fun _=>0) (fun _=>0)) 163∧zDJ w P g m nx hv N L (.returned (pcV e qf ql)) (lay9 w4 B e qf ql)∧zAD (lay9 w4 B e qf ql) B (pcC e qf ql) 163:=by
 obtain ⟨v,g',pc,m',nx',hv',rfl,⟨qf,ql,rfl,h1,h2⟩,ch,hg',hp,rest⟩:=H;have hBl:=hB.lt;have zc:=c.size;have nB:=hB.keep ch (by simp;omega);obtain ⟨n1,k1⟩:=nB.lay9 (e':=pc.e) (f':=qf) (l':=ql);refine ⟨pc.e,qf,ql,rfl,nB,⟨_,g',pc,m',nx',hv',rfl,⟨qf,ql,rfl,h1,h2⟩,?_,by omega,hp.keep k1 (by simp;omega) (by simp;omega),rest⟩,n1⟩
 exact ⟨k1.os.trans (ch.os.trans c.os),k1.tape.trans (ch.tape.trans c.tape),k1.output.trans (ch.output.trans c.output),by have:=ch.size;have:=k1.size;omega,fun k hk hx=>by
  rw [k1.block k (by have:=ch.size;omega) (by simp;omega),ch.block k (by omega) hx,c.block k hk (by simp)]⟩
def AddE(h:Nat):Prop:=∀(w:World) (F:Nat→Prop) (P g m:Nat) (nx hv:Nat→Nat→Bool) (v:Value) (L:Lang) (N:Nat),zAS w F h v L N→isSl v→FOk w F P g→PatG w P g m nx hv→zKN hv m→m+N≤256→
 Calls Tryz.prog 70 #[.pointer (some ⟨P,0,none⟩),v] w (zDJ w P g m nx hv N L)
set_option maxRecDepth 100000 in
set_option maxHeartbeats 3200000 in
theorem zKR{h:Nat}(hE:AddE h){w:World}{F:Nat→Prop}{P g m:Nat}{nx hv:Nat→Nat→Bool}{K c rp:Int}{q:Nat→Nat}{ga:Option Addr}{gn gc N:Nat}{A:Lang}(hF:FOk w F P g)(H:PatG w P g m nx hv)(hf:zKN hv m)(hN:m+N≤256)
  (hk:(K=0∧N=1∧0≤c∧c≤255∧A=Lang.cls [(c,c)])∨(K=1∧N=1∧A=Lang.cls [(0,255)])∨(K=2∧N=1∧∃Lc,SetF q (zAj Lc)∧A=Lang.cls Lc)∨(K=3∧∃M,N=M+1∧zAS w F h (.slice ga gn gc) A M)):
  Calls Tryz.prog 194 #[.pointer (some ⟨P,0,none⟩),.agg #[.int .i64 K,.int .u8 c,.int .u64 (q 0:Nat),.int .u64 (q 1:Nat),.int .u64 (q 2:Nat),.int .u64 (q 3:Nat),.slice ga gn gc,.int .i64 rp]] w (zDJ w P g m nx hv N A):=by
 obtain ⟨hPl,hgl,hgP,_⟩:=H.lt
 rcases hk with ⟨rfl,rfl,hc0,hc1,rfl⟩ | ⟨rfl,rfl,rfl⟩ | ⟨rfl,rfl,Lc,hq,rfl⟩ | ⟨rfl,M,rfl,hX⟩
 ·obtain ⟨c,rfl⟩:∃n:Nat,c=n:=⟨c.toNat,by omega⟩
  go_enter Tryz.func194,Tryz.ntmps194;go_wp2_with fail;have g1:=Ch.alloc [] w (.cells #[.int .i64 0,.int .u8 c,.int .u64 (q 0:Nat),.int .u64 (q 1:Nat),.int .u64 (q 2:Nat),.int .u64 (q 3:Nat),.slice ga gn gc,.int .i64 rp] 256)
  have z1:(w.alloc (.cells #[.int .i64 0,.int .u8 c,.int .u64 (q 0:Nat),.int .u64 (q 1:Nat),.int .u64 (q 2:Nat),.int .u64 (q 3:Nat),.slice ga gn gc,.int .i64 rp] 256)).heap.size=w.heap.size+1:=by simp
  have bB:zAD ((w.alloc (.cells #[.int .i64 0,.int .u8 c,.int .u64 (q 0:Nat),.int .u64 (q 1:Nat),.int .u64 (q 2:Nat),.int .u64 (q 3:Nat),.slice ga gn gc,.int .i64 rp] 256)).alloc (.cells #[.bool false,.int .u64 0,.int .u64 0,.int .u64 0,.int .u64 0,.int .u64 0,.int .u64 0,.int .u64 0,.int .u64 0] 163)) (w.heap.size+1) (pcC false (fun _=>0) (fun _=>0)) 163:=by
   have:=zAD.new (w.alloc (.cells #[.int .i64 0,.int .u8 c,.int .u64 (q 0:Nat),.int .u64 (q 1:Nat),.int .u64 (q 2:Nat),.int .u64 (q 3:Nat),.slice ga gn gc,.int .i64 rp] 256)) (pcC false (fun _=>0) (fun _=>0)) 163;rw [z1] at this;exact this
  have g2:=g1.trans (Ch.alloc [] _ (.cells #[.bool false,.int .u64 0,.int .u64 0,.int .u64 0,.int .u64 0,.int .u64 0,.int .u64 0,.int .u64 0,.int .u64 0] 163))
  have z2:((w.alloc (.cells #[.int .i64 0,.int .u8 c,.int .u64 (q 0:Nat),.int .u64 (q 1:Nat),.int .u64 (q 2:Nat),.int .u64 (q 3:Nat),.slice ga gn gc,.int .i64 rp] 256)).alloc (.cells #[.bool false,.int .u64 0,.int .u64 0,.int .u64 0,.int .u64 0,.int .u64 0,.int .u64 0,.int .u64 0,.int .u64 0] 163)).heap.size=w.heap.size+1+1:=by simp
  have bC:=zAD.new ((w.alloc (.cells #[.int .i64 0,.int .u8 c,.int .u64 (q 0:Nat),.int .u64 (q 1:Nat),.int .u64 (q 2:Nat),.int .u64 (q 3:Nat),.slice ga gn gc,.int .i64 rp] 256)).alloc (.cells #[.bool false,.int .u64 0,.int .u64 0,.int .u64 0,.int .u64 0,.int .u64 0,.int .u64 0,.int .u64 0,.int .u64 0] 163)) #[.int .u8 c] 5;have g3:=g2.trans (Ch.alloc [] _ (.cells #[.int .u8 c] 5));have bB3:=bB.keep (Ch.alloc [] ((w.alloc (.cells #[.int .i64 0,.int .u8 c,.int .u64 (q 0:Nat),.int .u64 (q 1:Nat),.int .u64 (q 2:Nat),.int .u64 (q 3:Nat),.slice ga gn gc,.int .i64 rp] 256)).alloc (.cells #[.bool false,.int .u64 0,.int .u64 0,.int .u64 0,.int .u64 0,.int .u64 0,.int .u64 0,.int .u64 0,.int .u64 0] 163)) (.cells #[.int .u8 c] 5)) (by simp)
  have z3:(((w.alloc (.cells #[.int .i64 0,.int .u8 c,.int .u64 (q 0:Nat),.int .u64 (q 1:Nat),.int .u64 (q 2:Nat),.int .u64 (q 3:Nat),.slice ga gn gc,.int .i64 rp] 256)).alloc (.cells #[.bool false,.int .u64 0,.int .u64 0,.int .u64 0,.int .u64 0,.int .u64 0,.int .u64 0,.int .u64 0,.int .u64 0] 163)).alloc (.cells #[.int .u8 c] 5)).heap.size=w.heap.size+3:=by simp
  rw [z2] at bC;clear z1 z2 bB g1 g2;generalize ((w.alloc (.cells #[.int .i64 0,.int .u8 c,.int .u64 (q 0:Nat),.int .u64 (q 1:Nat),.int .u64 (q 2:Nat),.int .u64 (q 3:Nat),.slice ga gn gc,.int .i64 rp] 256)).alloc (.cells #[.bool false,.int .u64 0,.int .u64 0,.int .u64 0,.int .u64 0,.int .u64 0,.int .u64 0,.int .u64 0,.int .u64 0] 163)).alloc (.cells #[.int .u8 c] 5)=W at *;generalize hK:w.heap.size=KK at *;refine (zNS bC (by omega)).mono ?_;rintro r w3 ⟨qc,rfl,hqc,h3⟩;have W3:=g3.trans h3;have bB4:=bB3.keep h3 (by simp);go_wp2_with fail;refine (zDz (H.keep W3 (by simp) (by simp)) (by omega) hqc).mono ?_;rintro r w4 hp
  have hpost:=hp.add (Lc:=[(c,c)]) hf (fun j _=>by
   simp only [zAj,List.any_cons,List.any_nil,Bool.or_false]
   rw [Bool.eq_iff_iff];simp;omega)
  clear hp;subst hK;obtain ⟨e,qf,ql,rfl,nB,hfin,nX⟩:=zH2 (w:=w) W3 hPl hgl bB4 (by omega) hpost;obtain ⟨c0,c1,c2,c3,c4,c5,c6,c7,c8,cf⟩:=nB.c9;rw [show pcV e qf ql= .agg #[.bool e,.int .u64 (qf 0:Nat),.int .u64 (qf 1:Nat),.int .u64 (qf 2:Nat),.int .u64 (qf 3:Nat),.int .u64 (ql 0:Nat),.int .u64 (ql 1:Nat),.int .u64 (ql 2:Nat),.int .u64 (ql 3:Nat)] from rfl];have HF:=hide hfin;clear hfin;go_wp2_with fail;clear c0 c1 c2 c3 c4 c5 c6 c7 c8 cf
  show bodyPost _ _ _ _ _ (lay9 w4 (w.heap.size+1) e qf ql)
  have HF':=HF.out;generalize lay9 w4 (w.heap.size+1) e qf ql=X at *;obtain ⟨y0,y1,y2,y3,y4,y5,y6,y7,y8,yf⟩:=nX.c9;exact bodyPost_ret (v:=pcV e qf ql) (by simp [results,Tryz.results194,go_sem,pcV,pcC,y0,y1,y2,y3,y4,y5,y6,y7,y8]) rfl HF'
 ·go_enter Tryz.func194,Tryz.ntmps194
  go_wp2_with fail;have g1:=Ch.alloc [] w (.cells #[.int .i64 1,.int .u8 c,.int .u64 (q 0:Nat),.int .u64 (q 1:Nat),.int .u64 (q 2:Nat),.int .u64 (q 3:Nat),.slice ga gn gc,.int .i64 rp] 256)
  have z1:(w.alloc (.cells #[.int .i64 1,.int .u8 c,.int .u64 (q 0:Nat),.int .u64 (q 1:Nat),.int .u64 (q 2:Nat),.int .u64 (q 3:Nat),.slice ga gn gc,.int .i64 rp] 256)).heap.size=w.heap.size+1:=by simp
  have bB:zAD ((w.alloc (.cells #[.int .i64 1,.int .u8 c,.int .u64 (q 0:Nat),.int .u64 (q 1:Nat),.int .u64 (q 2:Nat),.int .u64 (q 3:Nat),.slice ga gn gc,.int .i64 rp] 256)).alloc (.cells #[.bool false,.int .u64 0,.int .u64 0,.int .u64 0,.int .u64 0,.int .u64 0,.int .u64 0,.int .u64 0,.int .u64 0] 163)) (w.heap.size+1) (pcC false (fun _=>0) (fun _=>0)) 163:=by
   have:=zAD.new (w.alloc (.cells #[.int .i64 1,.int .u8 c,.int .u64 (q 0:Nat),.int .u64 (q 1:Nat),.int .u64 (q 2:Nat),.int .u64 (q 3:Nat),.slice ga gn gc,.int .i64 rp] 256)) (pcC false (fun _=>0) (fun _=>0)) 163;rw [z1] at this;exact this
  have g2:=g1.trans (Ch.alloc [] _ (.cells #[.bool false,.int .u64 0,.int .u64 0,.int .u64 0,.int .u64 0,.int .u64 0,.int .u64 0,.int .u64 0,.int .u64 0] 163))
  have z2:((w.alloc (.cells #[.int .i64 1,.int .u8 c,.int .u64 (q 0:Nat),.int .u64 (q 1:Nat),.int .u64 (q 2:Nat),.int .u64 (q 3:Nat),.slice ga gn gc,.int .i64 rp] 256)).alloc (.cells #[.bool false,.int .u64 0,.int .u64 0,.int .u64 0,.int .u64 0,.int .u64 0,.int .u64 0,.int .u64 0,.int .u64 0] 163)).heap.size=w.heap.size+1+1:=by simp
  clear z1 g1;generalize (w.alloc (.cells #[.int .i64 1,.int .u8 c,.int .u64 (q 0:Nat),.int .u64 (q 1:Nat),.int .u64 (q 2:Nat),.int .u64 (q 3:Nat),.slice ga gn gc,.int .i64 rp] 256)).alloc (.cells #[.bool false,.int .u64 0,.int .u64 0,.int .u64 0,.int .u64 0,.int .u64 0,.int .u64 0,.int .u64 0,.int .u64 0] 163)=W at *;generalize hK:w.heap.size=KK at *;refine (zFo 0 255 (by omega) (by omega)).mono ?_;rintro r w3 ⟨qc,rfl,hqc,h3⟩;have W3:=g2.trans h3;have bB4:=bB.keep h3 (by simp);go_wp2_with fail;refine (zDz (H.keep W3 (by simp) (by simp)) (by omega) hqc).mono ?_;rintro r w4 hp
  have hpost:=hp.add (Lc:=[(0,255)]) hf (fun j hj=>by
   simp only [zAj,List.any_cons,List.any_nil,Bool.or_false]
   rw [Bool.eq_iff_iff];simp;omega)
  clear hp;subst hK;obtain ⟨e,qf,ql,rfl,nB,hfin,nX⟩:=zH2 (w:=w) W3 hPl hgl bB4 (by omega) hpost;obtain ⟨c0,c1,c2,c3,c4,c5,c6,c7,c8,cf⟩:=nB.c9;rw [show pcV e qf ql= .agg #[.bool e,.int .u64 (qf 0:Nat),.int .u64 (qf 1:Nat),.int .u64 (qf 2:Nat),.int .u64 (qf 3:Nat),.int .u64 (ql 0:Nat),.int .u64 (ql 1:Nat),.int .u64 (ql 2:Nat),.int .u64 (ql 3:Nat)] from rfl];have HF:=hide hfin;clear hfin;go_wp2_with fail;clear c0 c1 c2 c3 c4 c5 c6 c7 c8 cf
  show bodyPost _ _ _ _ _ (lay9 w4 (w.heap.size+1) e qf ql)
  have HF':=HF.out;generalize lay9 w4 (w.heap.size+1) e qf ql=X at *;obtain ⟨y0,y1,y2,y3,y4,y5,y6,y7,y8,yf⟩:=nX.c9;exact bodyPost_ret (v:=pcV e qf ql) (by simp [results,Tryz.results194,go_sem,pcV,pcC,y0,y1,y2,y3,y4,y5,y6,y7,y8]) rfl HF'
 ·go_enter Tryz.func194,Tryz.ntmps194
  go_wp2_with fail;have g1:=Ch.alloc [] w (.cells #[.int .i64 2,.int .u8 c,.int .u64 (q 0:Nat),.int .u64 (q 1:Nat),.int .u64 (q 2:Nat),.int .u64 (q 3:Nat),.slice ga gn gc,.int .i64 rp] 256)
  have z1:(w.alloc (.cells #[.int .i64 2,.int .u8 c,.int .u64 (q 0:Nat),.int .u64 (q 1:Nat),.int .u64 (q 2:Nat),.int .u64 (q 3:Nat),.slice ga gn gc,.int .i64 rp] 256)).heap.size=w.heap.size+1:=by simp
  have bB:zAD ((w.alloc (.cells #[.int .i64 2,.int .u8 c,.int .u64 (q 0:Nat),.int .u64 (q 1:Nat),.int .u64 (q 2:Nat),.int .u64 (q 3:Nat),.slice ga gn gc,.int .i64 rp] 256)).alloc (.cells #[.bool false,.int .u64 0,.int .u64 0,.int .u64 0,.int .u64 0,.int .u64 0,.int .u64 0,.int .u64 0,.int .u64 0] 163)) (w.heap.size+1) (pcC false (fun _=>0) (fun _=>0)) 163:=by
   have:=zAD.new (w.alloc (.cells #[.int .i64 2,.int .u8 c,.int .u64 (q 0:Nat),.int .u64 (q 1:Nat),.int .u64 (q 2:Nat),.int .u64 (q 3:Nat),.slice ga gn gc,.int .i64 rp] 256)) (pcC false (fun _=>0) (fun _=>0)) 163;rw [z1] at this;exact this
  have g2:=g1.trans (Ch.alloc [] _ (.cells #[.bool false,.int .u64 0,.int .u64 0,.int .u64 0,.int .u64 0,.int .u64 0,.int .u64 0,.int .u64 0,.int .u64 0] 163))
  have z2:((w.alloc (.cells #[.int .i64 2,.int .u8 c,.int .u64 (q 0:Nat),.int .u64 (q 1:Nat),.int .u64 (q 2:Nat),.int .u64 (q 3:Nat),.slice ga gn gc,.int .i64 rp] 256)).alloc (.cells #[.bool false,.int .u64 0,.int .u64 0,.int .u64 0,.int .u64 0,.int .u64 0,.int .u64 0,.int .u64 0,.int .u64 0] 163)).heap.size=w.heap.size+1+1:=by simp
  clear z1 g1;generalize (w.alloc (.cells #[.int .i64 2,.int .u8 c,.int .u64 (q 0:Nat),.int .u64 (q 1:Nat),.int .u64 (q 2:Nat),.int .u64 (q 3:Nat),.slice ga gn gc,.int .i64 rp] 256)).alloc (.cells #[.bool false,.int .u64 0,.int .u64 0,.int .u64 0,.int .u64 0,.int .u64 0,.int .u64 0,.int .u64 0,.int .u64 0] 163)=W at *;generalize hK:w.heap.size=KK at *;refine (zDz (H.keep g2 (by simp) (by simp)) (by omega) hq).mono ?_;rintro r w4 hp;have hpost:=hp.add (Lc:=Lc) hf (fun j _=>rfl);clear hp;subst hK;obtain ⟨e,qf,ql,rfl,nB,hfin,nX⟩:=zH2 (w:=w) g2 hPl hgl bB (by omega) hpost;obtain ⟨c0,c1,c2,c3,c4,c5,c6,c7,c8,cf⟩:=nB.c9;rw [show pcV e qf ql= .agg #[.bool e,.int .u64 (qf 0:Nat),.int .u64 (qf 1:Nat),.int .u64 (qf 2:Nat),.int .u64 (qf 3:Nat),.int .u64 (ql 0:Nat),.int .u64 (ql 1:Nat),.int .u64 (ql 2:Nat),.int .u64 (ql 3:Nat)] from rfl];have HF:=hide hfin;clear hfin;go_wp2_with fail;clear c0 c1 c2 c3 c4 c5 c6 c7 c8 cf
  show bodyPost _ _ _ _ _ (lay9 w4 (w.heap.size+1) e qf ql)
  have HF':=HF.out;generalize lay9 w4 (w.heap.size+1) e qf ql=X at *;obtain ⟨y0,y1,y2,y3,y4,y5,y6,y7,y8,yf⟩:=nX.c9;exact bodyPost_ret (v:=pcV e qf ql) (by simp [results,Tryz.results194,go_sem,pcV,pcC,y0,y1,y2,y3,y4,y5,y6,y7,y8]) rfl HF'
 ·have HX:=hide hX
  have HE:=hide hE;clear hX hE;go_enter Tryz.func194,Tryz.ntmps194;go_wp2_with fail;have g1:=Ch.alloc [] w (.cells #[.int .i64 3,.int .u8 c,.int .u64 (q 0:Nat),.int .u64 (q 1:Nat),.int .u64 (q 2:Nat),.int .u64 (q 3:Nat),.slice ga gn gc,.int .i64 rp] 256)
  have z1:(w.alloc (.cells #[.int .i64 3,.int .u8 c,.int .u64 (q 0:Nat),.int .u64 (q 1:Nat),.int .u64 (q 2:Nat),.int .u64 (q 3:Nat),.slice ga gn gc,.int .i64 rp] 256)).heap.size=w.heap.size+1:=by simp
  have bB:zAD ((w.alloc (.cells #[.int .i64 3,.int .u8 c,.int .u64 (q 0:Nat),.int .u64 (q 1:Nat),.int .u64 (q 2:Nat),.int .u64 (q 3:Nat),.slice ga gn gc,.int .i64 rp] 256)).alloc (.cells #[.bool false,.int .u64 0,.int .u64 0,.int .u64 0,.int .u64 0,.int .u64 0,.int .u64 0,.int .u64 0,.int .u64 0] 163)) (w.heap.size+1) (pcC false (fun _=>0) (fun _=>0)) 163:=by
   have:=zAD.new (w.alloc (.cells #[.int .i64 3,.int .u8 c,.int .u64 (q 0:Nat),.int .u64 (q 1:Nat),.int .u64 (q 2:Nat),.int .u64 (q 3:Nat),.slice ga gn gc,.int .i64 rp] 256)) (pcC false (fun _=>0) (fun _=>0)) 163;rw [z1] at this;exact this
  have g2:=g1.trans (Ch.alloc [] _ (.cells #[.bool false,.int .u64 0,.int .u64 0,.int .u64 0,.int .u64 0,.int .u64 0,.int .u64 0,.int .u64 0,.int .u64 0] 163))
  have z2:((w.alloc (.cells #[.int .i64 3,.int .u8 c,.int .u64 (q 0:Nat),.int .u64 (q 1:Nat),.int .u64 (q 2:Nat),.int .u64 (q 3:Nat),.slice ga gn gc,.int .i64 rp] 256)).alloc (.cells #[.bool false,.int .u64 0,.int .u64 0,.int .u64 0,.int .u64 0,.int .u64 0,.int .u64 0,.int .u64 0,.int .u64 0] 163)).heap.size=w.heap.size+1+1:=by simp
  clear z1 g1;generalize (w.alloc (.cells #[.int .i64 3,.int .u8 c,.int .u64 (q 0:Nat),.int .u64 (q 1:Nat),.int .u64 (q 2:Nat),.int .u64 (q 3:Nat),.slice ga gn gc,.int .i64 rp] 256)).alloc (.cells #[.bool false,.int .u64 0,.int .u64 0,.int .u64 0,.int .u64 0,.int .u64 0,.int .u64 0,.int .u64 0,.int .u64 0] 163)=W at *;have hx:=zAS.frame (w':=W) (G:=F) (fun k hk=>g2.block k (hF k hk).1 (by simp)) (fun _ h=>h) _ _ _ _ HX.out;refine (HE.out W F P g m nx hv _ A M hx ⟨_,_,_,rfl⟩ (fun k hk=>by have:=hF k hk;have:=g2.size;omega) (H.keep g2 (by simp) (by simp)) hf (by omega)).mono ?_;rintro r w4 hp
  have hpost:zDJ W P g m nx hv (M+1) A r w4:=by
   obtain ⟨v,g',pc,m',nx',hv',e,a,ch,hg,hp,h5,h6,rest⟩:=hp;exact ⟨v,g',pc,m',nx',hv',e,a,ch,hg,hp,h5,by omega,rest⟩
  clear hp;obtain ⟨e,qf,ql,rfl,nB,hfin,nX⟩:=zH2 (w:=w) g2 hPl hgl bB (by omega) hpost;obtain ⟨c0,c1,c2,c3,c4,c5,c6,c7,c8,cf⟩:=nB.c9;rw [show pcV e qf ql= .agg #[.bool e,.int .u64 (qf 0:Nat),.int .u64 (qf 1:Nat),.int .u64 (qf 2:Nat),.int .u64 (qf 3:Nat),.int .u64 (ql 0:Nat),.int .u64 (ql 1:Nat),.int .u64 (ql 2:Nat),.int .u64 (ql 3:Nat)] from rfl];have HF:=hide hfin;clear hfin;go_wp2_with fail;clear c0 c1 c2 c3 c4 c5 c6 c7 c8 cf
  show bodyPost _ _ _ _ _ (lay9 w4 (w.heap.size+1) e qf ql)
  have HF':=HF.out;generalize lay9 w4 (w.heap.size+1) e qf ql=X at *;obtain ⟨y0,y1,y2,y3,y4,y5,y6,y7,y8,yf⟩:=nX.c9;exact bodyPost_ret (v:=pcV e qf ql) (by simp [results,Tryz.results194,go_sem,pcV,pcC,y0,y1,y2,y3,y4,y5,y6,y7,y8]) rfl HF'
end Go.Proofs.YteobgfbgglfkbaaGreat
namespace Go.Proofs.YteobgfbgglfkbaaGreat
open Go.RowKit
attribute [local go_sem ↓] Go.wp_at_zero Go.wp_at_succ
theorem Ch.more{X Y:List Nat}{w1 w2 w3:World}(g:Ch X w1 w2)(k:Ch Y w2 w3)(h:∀y,y∈Y→y∈X∨w1.heap.size≤y):Ch X w1 w3:=
 ⟨k.os.trans g.os,k.tape.trans g.tape,k.output.trans g.output,Nat.le_trans g.size k.size,fun i hi hx=>by
  rw [k.block i (by have:=g.size;omega) (fun hy=>by rcases h i hy with e | e;exact hx e;omega),g.block i hi hx]⟩
set_option maxRecDepth 100000 in
set_option maxHeartbeats 3200000 in
theorem zGF{h:Nat}(hE:AddE h){w:World}{F:Nat→Prop}{P g m:Nat}{nx hv:Nat→Nat→Bool}{K c rp:Int}{q:Nat→Nat}{ga:Option Addr}{gn gc N:Nat}{A:Lang}(hF:FOk w F P g)(H:PatG w P g m nx hv)(hf:zKN hv m)(hN:m+N≤256)(hr0:0≤rp)(hr3:rp≤3)
  (hk:(K=0∧N=1∧0≤c∧c≤255∧A=Lang.cls [(c,c)])∨(K=1∧N=1∧A=Lang.cls [(0,255)])∨(K=2∧N=1∧∃Lc,SetF q (zAj Lc)∧A=Lang.cls Lc)∨(K=3∧∃M,N=M+1∧zAS w F h (.slice ga gn gc) A M)):
  Calls Tryz.prog 148 #[.pointer (some ⟨P,0,none⟩),.agg #[.int .i64 K,.int .u8 c,.int .u64 (q 0:Nat),.int .u64 (q 1:Nat),.int .u64 (q 2:Nat),.int .u64 (q 3:Nat),.slice ga gn gc,.int .i64 rp]] w (zDJ w P g m nx hv N (zEA rp A)):=by
 obtain ⟨hPl,hgl,hgP,_⟩:=H.lt;have HK:=hide hk;have HE:=hide hE;clear hk hE;go_enter Tryz.func148,Tryz.ntmps148;go_wp2_with fail;have g1:=Ch.alloc [] w (.cells #[.int .i64 K,.int .u8 c,.int .u64 (q 0:Nat),.int .u64 (q 1:Nat),.int .u64 (q 2:Nat),.int .u64 (q 3:Nat),.slice ga gn gc,.int .i64 rp] 256)
 have z1:(w.alloc (.cells #[.int .i64 K,.int .u8 c,.int .u64 (q 0:Nat),.int .u64 (q 1:Nat),.int .u64 (q 2:Nat),.int .u64 (q 3:Nat),.slice ga gn gc,.int .i64 rp] 256)).heap.size=w.heap.size+1:=by simp
 have bA:zAD ((w.alloc (.cells #[.int .i64 K,.int .u8 c,.int .u64 (q 0:Nat),.int .u64 (q 1:Nat),.int .u64 (q 2:Nat),.int .u64 (q 3:Nat),.slice ga gn gc,.int .i64 rp] 256)).alloc (.cells #[.bool false,.int .u64 0,.int .u64 0,.int .u64 0,.int .u64 0,.int .u64 0,.int .u64 0,.int .u64 0,.int .u64 0] 163)) w.heap.size #[.int .i64 K,.int .u8 c,.int .u64 (q 0:Nat),.int .u64 (q 1:Nat),.int .u64 (q 2:Nat),.int .u64 (q 3:Nat),.slice ga gn gc,.int .i64 rp] 256:=(zAD.new w _ _).keep (Ch.alloc [] _ _) (by simp)
 have bB:zAD ((w.alloc (.cells #[.int .i64 K,.int .u8 c,.int .u64 (q 0:Nat),.int .u64 (q 1:Nat),.int .u64 (q 2:Nat),.int .u64 (q 3:Nat),.slice ga gn gc,.int .i64 rp] 256)).alloc (.cells #[.bool false,.int .u64 0,.int .u64 0,.int .u64 0,.int .u64 0,.int .u64 0,.int .u64 0,.int .u64 0,.int .u64 0] 163)) (w.heap.size+1) (pcC false (fun _=>0) (fun _=>0)) 163:=by
  have:=zAD.new (w.alloc (.cells #[.int .i64 K,.int .u8 c,.int .u64 (q 0:Nat),.int .u64 (q 1:Nat),.int .u64 (q 2:Nat),.int .u64 (q 3:Nat),.slice ga gn gc,.int .i64 rp] 256)) (pcC false (fun _=>0) (fun _=>0)) 163;rw [z1] at this;exact this
 have g2:=g1.trans (Ch.alloc [] _ (.cells #[.bool false,.int .u64 0,.int .u64 0,.int .u64 0,.int .u64 0,.int .u64 0,.int .u64 0,.int .u64 0,.int .u64 0] 163))
 have z2:((w.alloc (.cells #[.int .i64 K,.int .u8 c,.int .u64 (q 0:Nat),.int .u64 (q 1:Nat),.int .u64 (q 2:Nat),.int .u64 (q 3:Nat),.slice ga gn gc,.int .i64 rp] 256)).alloc (.cells #[.bool false,.int .u64 0,.int .u64 0,.int .u64 0,.int .u64 0,.int .u64 0,.int .u64 0,.int .u64 0,.int .u64 0] 163)).heap.size=w.heap.size+1+1:=by simp
 clear z1 g1;generalize (w.alloc (.cells #[.int .i64 K,.int .u8 c,.int .u64 (q 0:Nat),.int .u64 (q 1:Nat),.int .u64 (q 2:Nat),.int .u64 (q 3:Nat),.slice ga gn gc,.int .i64 rp] 256)).alloc (.cells #[.bool false,.int .u64 0,.int .u64 0,.int .u64 0,.int .u64 0,.int .u64 0,.int .u64 0,.int .u64 0,.int .u64 0] 163)=W at *
 have hk2:(K=0∧N=1∧0≤c∧c≤255∧A=Lang.cls [(c,c)])∨(K=1∧N=1∧A=Lang.cls [(0,255)])∨(K=2∧N=1∧∃Lc,SetF q (zAj Lc)∧A=Lang.cls Lc)∨(K=3∧∃M,N=M+1∧zAS W F h (.slice ga gn gc) A M):=by
  rcases HK.out with hk | hk | hk | ⟨hk,M,hM,hX⟩
  ·exact Or.inl hk
  ·exact Or.inr (Or.inl hk)
  ·exact Or.inr (Or.inr (Or.inl hk))
  ·exact Or.inr (Or.inr (Or.inr ⟨hk,M,hM,zAS.frame (fun k hk=>g2.block k (hF k hk).1 (by simp)) (fun _ h=>h) _ _ _ _ hX⟩))
 refine (zKR HE.out (F:=F) (fun k hk=>by have:=hF k hk;have:=g2.size;omega) (H.keep g2 (by simp) (by simp)) hf hN hk2).mono ?_;rintro r w3 ⟨v,g',pc,m',nx',hv',rfl,⟨qf,ql,rfl,hqf,hql⟩,ch,hg',hp,hm1,hm2,hpo,hnx,hhv,hfr⟩;clear hk2 HK HE;have zg2:=g2.size;have nA:=bA.keep ch (by simp;omega);have nB:=bB.keep ch (by simp;omega);have zc:=ch.size;obtain ⟨hP3,hg3,hgP3,_⟩:=hp.lt;generalize hpe:pc.e=e at *;rw [show pcV e qf ql= .agg #[.bool e,.int .u64 (qf 0:Nat),.int .u64 (qf 1:Nat),.int .u64 (qf 2:Nat),.int .u64 (qf 3:Nat),.int .u64 (ql 0:Nat),.int .u64 (ql 1:Nat),.int .u64 (ql 2:Nat),.int .u64 (ql 3:Nat)] from rfl];have HPE:=hide hpe;clear hpe;have gW:Ch [P,g] w w3:=(g2.mono (by simp)).trans ch
 have lNo:∀p,p<m→pc.l p=false:=fun p hpm=>by
  cases el:pc.l p with
  |false=>rfl
  |true=>have:=hpo.lr p el;omega
 have a7:=nA.cell 7 _ rfl
 have kl0:w.heap.size<w3.heap.size:=by omega
 have kl1:w.heap.size+1<w3.heap.size:=by omega
 obtain ⟨c0,c1,c2,c3,c4,c5,c6,c7,c8,cf⟩:=nB.c9;generalize hK:w.heap.size=KK at *
 have FIN:∀(e':Bool) (nx2:Nat→Nat→Bool) (X:World),PatG X P g' m' nx2 hv'→Ch [P,g] w X→(∀p q,p<m→nx2 p q=nx' p q)→POk nx2 hv' m m' {pc with e:=e'} (zEA rp A)→zDJ w P g m nx hv N (zEA rp A) (.returned (pcV e' qf ql)) X:=by
  intro e' nx2 X hX cX h1 h2;exact ⟨_,g',{pc with e:=e'},m',nx2,hv',rfl,⟨qf,ql,rfl,hqf,hql⟩,cX,by omega,hX,hm1,hm2,h2,fun p q hpm=>(h1 p q hpm).trans (hnx p q hpm),hhv,hfr⟩
 have HFIN:=hide FIN;clear FIN
 obtain rfl | rfl | rfl | rfl:rp=0∨rp=1∨rp=2∨rp=3:=by omega
 ·go_wp2_with fail
  obtain ⟨n1,k1⟩:=nB.lay9 (e':=e) (f':=qf) (l':=ql);have k2:=Ch.alloc [] (lay9 w3 (KK+1) e qf ql) (.cells (pcC e qf ql) 163);have n2:=n1.keep k2 (by simp);have kk:Ch [KK+1] w3 _:=k1.trans (k2.mono (by simp))
  show bodyPost _ _ _ _ _ ((lay9 w3 (KK+1) e qf ql).alloc (.cells (pcC e qf ql) 163))
  clear c0 c1 c2 c3 c4 c5 c6 c7 c8 cf a7;generalize (lay9 w3 (KK+1) e qf ql).alloc (.cells (pcC e qf ql) 163)=X at *;obtain ⟨y0,y1,y2,y3,y4,y5,y6,y7,y8,yf⟩:=n2.c9;refine bodyPost_ret (v:=pcV e qf ql) (by simp [results,Tryz.results148,go_sem,pcV,pcC,y0,y1,y2,y3,y4,y5,y6,y7,y8]) rfl ?_;exact HFIN.out e nx' X (hp.keep kk (by simp;omega) (by simp;omega)) (gW.more kk (by simp;omega)) (fun _ _ _=>rfl) (by rw [← HPE.out];exact hpo)
 ·go_wp2_with fail
  have kD:=Ch.alloc [] w3 (.cells (pcC e qf ql) 163);have nD:=zAD.new w3 (pcC e qf ql) 163;have mA:=nA.keep kD (by simp);have mB:=nB.keep kD (by simp);have mP:=hp.keep kD (by simp) (by simp);rw [show w3.alloc (.cells #[.bool e,.int .u64 (qf 0:Nat),.int .u64 (qf 1:Nat),.int .u64 (qf 2:Nat),.int .u64 (qf 3:Nat),.int .u64 (ql 0:Nat),.int .u64 (ql 1:Nat),.int .u64 (ql 2:Nat),.int .u64 (ql 3:Nat)] 163)=w3.alloc (.cells (pcC e qf ql) 163) from rfl]
  have zD:(w3.alloc (.cells (pcC e qf ql) 163)).heap.size=w3.heap.size+1:=by simp
  clear c0 c1 c2 c3 c4 c5 c6 c7 c8 cf a7;generalize w3.alloc (.cells (pcC e qf ql) 163)=w4 at *;generalize hD:w3.heap.size=D at *;refine (zH0 mP hql hqf).mono ?_;rintro r w5 ⟨rfl,h5,hp5⟩;have A5:=mA.keep h5 (by simp;omega);have B5:=mB.keep h5 (by simp;omega);have D5:=nD.keep h5 (by simp;omega);have z5:=h5.size;have a7:=A5.cell 7 _ rfl;obtain ⟨c0,c1,c2,c3,c4,c5,c6,c7,c8,cf⟩:=B5.c9;obtain ⟨d0,d1,d2,d3,d4,d5,d6,d7,d8,df⟩:=D5.c9;have g35:Ch [P,g] w w5:=(gW.more kD (by simp)).more h5 (by simp;omega);have pl:POk (zBr nx' pc.l pc.f) hv' m m' {pc with e:=true} (zEA 1 A):=star_ok hpo
  have pn:∀p q,p<m→zBr nx' pc.l pc.f p q=nx' p q:=fun p q hpm=>by simp [zBr,lNo p hpm]
  have HPL:=hide pl;have HPN:=hide pn;clear pl pn;go_wp2_with fail;have hs:Ch [D] w5 (w5.setCell ⟨D,0,none⟩ (.bool true)):=Ch.setCell _ (by simp) _;have B6:=B5.keep hs (by simp;omega);obtain ⟨n1,k1⟩:=B6.lay9 (e':=true) (f':=qf) (l':=ql)
  show bodyPost _ _ _ _ _ (lay9 (w5.setCell ⟨D,0,none⟩ (.bool true)) (KK+1) true qf ql)
  clear c0 c1 c2 c3 c4 c5 c6 c7 c8 cf d0 d1 d2 d3 d4 d5 d6 d7 d8 df a7
  have z6:(w5.setCell ⟨D,0,none⟩ (.bool true)).heap.size=w5.heap.size:=by simp [World.setCell]
  generalize w5.setCell ⟨D,0,none⟩ (.bool true)=w6 at *;have hp6:=hp5.keep hs (by simp;omega) (by simp;omega);have g36:=g35.more hs (by simp;omega);generalize lay9 w6 (KK+1) true qf ql=X at *;obtain ⟨y0,y1,y2,y3,y4,y5,y6,y7,y8,yf⟩:=n1.c9;refine bodyPost_ret (v:=pcV true qf ql) (by simp [results,Tryz.results148,go_sem,pcV,pcC,y0,y1,y2,y3,y4,y5,y6,y7,y8]) rfl ?_;exact HFIN.out true _ X (hp6.keep k1 (by simp;omega) (by simp;omega)) (g36.more k1 (by simp;omega)) HPN.out HPL.out
 ·go_wp2_with fail
  have kD:=Ch.alloc [] w3 (.cells (pcC e qf ql) 163);have nD:=zAD.new w3 (pcC e qf ql) 163;have mA:=nA.keep kD (by simp);have mB:=nB.keep kD (by simp);have mP:=hp.keep kD (by simp) (by simp);rw [show w3.alloc (.cells #[.bool e,.int .u64 (qf 0:Nat),.int .u64 (qf 1:Nat),.int .u64 (qf 2:Nat),.int .u64 (qf 3:Nat),.int .u64 (ql 0:Nat),.int .u64 (ql 1:Nat),.int .u64 (ql 2:Nat),.int .u64 (ql 3:Nat)] 163)=w3.alloc (.cells (pcC e qf ql) 163) from rfl]
  have zD:(w3.alloc (.cells (pcC e qf ql) 163)).heap.size=w3.heap.size+1:=by simp
  clear c0 c1 c2 c3 c4 c5 c6 c7 c8 cf a7;generalize w3.alloc (.cells (pcC e qf ql) 163)=w4 at *;generalize hD:w3.heap.size=D at *;refine (zH0 mP hql hqf).mono ?_;rintro r w5 ⟨rfl,h5,hp5⟩;have A5:=mA.keep h5 (by simp;omega);have B5:=mB.keep h5 (by simp;omega);have D5:=nD.keep h5 (by simp;omega);have z5:=h5.size;have a7:=A5.cell 7 _ rfl;obtain ⟨c0,c1,c2,c3,c4,c5,c6,c7,c8,cf⟩:=B5.c9;obtain ⟨d0,d1,d2,d3,d4,d5,d6,d7,d8,df⟩:=D5.c9;have g35:Ch [P,g] w w5:=(gW.more kD (by simp)).more h5 (by simp;omega);have pl:POk (zBr nx' pc.l pc.f) hv' m m' {pc with e:=e} (zEA 2 A):=(by rw [← HPE.out];exact zN5 hpo)
  have pn:∀p q,p<m→zBr nx' pc.l pc.f p q=nx' p q:=fun p q hpm=>by simp [zBr,lNo p hpm]
  have HPL:=hide pl;have HPN:=hide pn;clear pl pn;go_wp2_with fail;obtain ⟨n1,k1⟩:=B5.lay9 (e':=e) (f':=qf) (l':=ql)
  show bodyPost _ _ _ _ _ (lay9 w5 (KK+1) e qf ql)
  clear c0 c1 c2 c3 c4 c5 c6 c7 c8 cf d0 d1 d2 d3 d4 d5 d6 d7 d8 df a7;have hp6:=hp5;have g36:=g35;generalize lay9 w5 (KK+1) e qf ql=X at *;obtain ⟨y0,y1,y2,y3,y4,y5,y6,y7,y8,yf⟩:=n1.c9;refine bodyPost_ret (v:=pcV e qf ql) (by simp [results,Tryz.results148,go_sem,pcV,pcC,y0,y1,y2,y3,y4,y5,y6,y7,y8]) rfl ?_;exact HFIN.out e _ X (hp6.keep k1 (by simp;omega) (by simp;omega)) (g36.more k1 (by simp;omega)) HPN.out HPL.out
 ·go_wp2_with fail
  obtain ⟨n1,k1⟩:=nB.lay9 (e':=true) (f':=qf) (l':=ql);have k2:=Ch.alloc [] (lay9 w3 (KK+1) true qf ql) (.cells (pcC true qf ql) 163);have n2:=n1.keep k2 (by simp);have kk:Ch [KK+1] w3 _:=k1.trans (k2.mono (by simp))
  show bodyPost _ _ _ _ _ ((lay9 w3 (KK+1) true qf ql).alloc (.cells (pcC true qf ql) 163))
  clear c0 c1 c2 c3 c4 c5 c6 c7 c8 cf a7;generalize (lay9 w3 (KK+1) true qf ql).alloc (.cells (pcC true qf ql) 163)=X at *;obtain ⟨y0,y1,y2,y3,y4,y5,y6,y7,y8,yf⟩:=n2.c9;refine bodyPost_ret (v:=pcV true qf ql) (by simp [results,Tryz.results148,go_sem,pcV,pcC,y0,y1,y2,y3,y4,y5,y6,y7,y8]) rfl ?_;exact HFIN.out true nx' X (hp.keep kk (by simp;omega) (by simp;omega)) (gW.more kk (by simp;omega)) (fun _ _ _=>rfl) (opt_ok hpo)
end Go.Proofs.YteobgfbgglfkbaaGreat
