import Derived.Test.YteobgfbgglfkbaaGreatAX3
import Derived.Test.YteobgfbgglfkbaaGreatAU6
set_option maxHeartbeats 12800000
set_option maxRecDepth 100000
namespace Go.Proofs.YteobgfbgglfkbaaGreat
open Go.RowKit
attribute [local go_sem ↓] Go.wp_at_zero Go.wp_at_succ
theorem Fy{Ds Es:List zH}{rb sb:Nat}{w:World}{X:List Nat}(h:Yd Ds Es rb sb w X ()){v:Value}{k:List Nat×List Nat×Bool}(hk:Vd () v k):
 Calls Tryz.prog 141 (#[v]++ #[]) w fun e w'=>e= .returned (.bool k.2.2)/\Yd Ds Es rb sb w' X ()/\Ch X w w':=by
 obtain⟨h0,h1,h2,h3,h4,h5,hk1,hk2,_,rfl⟩:=hk;obtain⟨hs0,hs1,f⟩:=k;have g0:=Ch.alloc [] w (.cells #[.int .u8 h0,.int .u8 h1,.int .u8 h2,.int .u8 h3,.int .u8 h4,.int .u8 h5,.bool f] 246);have P0:=zE.new w #[.int .u8 h0,.int .u8 h1,.int .u8 h2,.int .u8 h3,.int .u8 h4,.int .u8 h5,.bool f] 246;have p6:=P0.cl 6 _ rfl;have HI:=zC (h.kp g0 (by simp));have HG:=zC g0;clear h P0 g0;go_enter Tryz.func141,Tryz.ntmps141;go_wp2_with fail;go_ret;exact⟨rfl,HI.o,HG.o.mono (by simp)⟩
theorem runS{Ds Es:List zH}(hF:yo Ds)(hE:yo Es)(rb sb lo:Nat)(hlo:lo<=rb):VZ (jY Ds Es) (Vq Ds Es) lo (fun _ _=>True) Vd (Yd Ds Es rb sb) 139 141 #[.pointer (some ⟨rb,0,none⟩),.pointer (some ⟨sb,0,none⟩)] #[] where
 lt:=fun w X γ h=>by
  refine⟨?_,h.lt⟩;obtain⟨r,s,Xr,Xs,rfl,a1,_⟩:=h;have:=a1.lt;omega
 kp:=fun w w' X Y γ h c hX=>h.kp c (fun k hk hy=>(hX k hy).2 hk)
 refl:=fun _=>trivial
 trans:=fun _ _ _ _ _=>trivial
 mono:=fun _ _ v k _ h=>h
 shape:=fun γ v k h=>by
  obtain⟨h0,h1,h2,h3,h4,h5,_,_,⟨b0,b1,b2,b3,b4,b5⟩,rfl⟩:=h;exact⟨h0,h1,h2,h3,h4,h5,k.2.2,rfl,CR _ ⟨by omega,by omega⟩ ⟨by omega,by omega⟩ ⟨by omega,by omega⟩ ⟨by omega,by omega⟩ ⟨by omega,by omega⟩ ⟨by omega,by omega⟩⟩
 inj:=fun γ v k v' k' h h'=>Gj h h'
 enN:=fun _ _=>by kernel_rfl
 enW:=fun _ _=>by kernel_rfl
 next:=fun w X γ v k b hI hk hg=>(Sg hF hE hI hk hg b).mono (by
  rintro e w' ⟨v',rfl,I,K,c⟩
  exact⟨v',X,(),rfl,I,trivial,K,c,fun q hq=>Or.inl hq⟩)
 want:=fun w X γ v k hI hk hg=>(Fy hI hk).mono (by
  rintro e w' ⟨rfl,I,c⟩
  exact⟨X,(),rfl,I,trivial,c,fun q hq=>Or.inl hq⟩)
theorem Ch.setNew{a w:World}{b i:Nat}{v:Value}(h:Ch [] a w)(hb:a.heap.size<=b):Ch [] a (w.setCell ⟨b,i,none⟩ v):=h.setCell_new (Or.inr hb) v
structure SK(Ds Es:List zH)(w w1:World)(r s:Nat)(Xr Xs:List Nat)(W:World):Prop where
 hr:jP Ds W Xr r
 hs:jP Es W Xs s
 ch:Ch [] w1 W
 d:∀k,k∈Xr->k∉Xs
 lx:∀k,k∈Xr->w.heap.size<=k
 ly:∀k,k∈Xs->w.heap.size<=k
 lw:w.heap.size<=w1.heap.size
def Vy(Ds Es:List zH)(w w1:World)(v8 v9:Value)(W:World):Prop:=
 ∃rb sb X,v8= .pointer (some ⟨rb,0,none⟩)/\v9= .pointer (some ⟨sb,0,none⟩)/\Yd Ds Es rb sb W X ()/\(∀q,q∈X->w.heap.size<=q)/\Ch [] w1 W
section
variable {Ds Es:List zH} {w w1:World} {r s:Nat} {Xr Xs:List Nat} {W:World}
theorem SK.alloc(h:SK Ds Es w w1 r s Xr Xs W)(o:Obj):SK Ds Es w w1 r s Xr Xs (W.alloc o):=
 {h with hr:=h.hr.kp (Ch.alloc [] _ _) (by simp),hs:=h.hs.kp (Ch.alloc [] _ _) (by simp),ch:=h.ch.trans (Ch.alloc [] _ _)}
theorem SK.set(h:SK Ds Es w w1 r s Xr Xs W){b:Nat}(hb:w1.heap.size<=b)(hx:b∉Xr/\b∉Xs)(i:Nat)(v:Value):SK Ds Es w w1 r s Xr Xs (W.setCell ⟨b,i,none⟩ v):=by
 have c:Ch [b] W (W.setCell ⟨b,i,none⟩ v):=Ch.setCell _ (by simp) _;exact {h with hr:=h.hr.kp c (fun k hk hq=>hx.1 (by have e:k=b:=(by simpa using hq);rw[<- e];exact hk)),hs:=h.hs.kp c (fun k hk hq=>hx.2 (by have e:k=b:=(by simpa using hq);rw[<- e];exact hk)),ch:=h.ch.trans' c (fun k hk=>Or.inr (by simp at hk;omega))}
theorem SK.rel(h:SK Ds Es w w1 r s Xr Xs W){m n:Nat}(hm:zE W m #[.pointer (some ⟨r,0,none⟩)] 221)(hn:zE W n #[.pointer (some ⟨s,0,none⟩)] 221)(hne:m≠n)(mX:m∉Xr/\m∉Xs)(nX:n∉Xr/\n∉Xs)(lm:w1.heap.size<=m)(ln:w1.heap.size<=n):Vy Ds Es w w1 (.pointer (some ⟨m,0,none⟩)) (.pointer (some ⟨n,0,none⟩)) W:=by
 refine⟨m,n,m:: n:: (Xr++Xs),rfl,rfl,⟨r,s,Xr,Xs,rfl,hm,hn,h.hr,h.hs,h.d,mX.1,mX.2,nX.1,nX.2,hne⟩,fun q hq=> ?_,h.ch⟩;have:=h.lw;simp only[List.mem_cons,List.mem_append]at hq
 rcases hq with e|e|e|e
 ·omega
 ·omega
 ·exact h.lx q e
 ·exact h.ly q e
theorem smA(h:SK Ds Es w w1 r s Xr Xs W):Vy Ds Es w w1 (.pointer (some ⟨W.heap.size,0,none⟩)) (.pointer (some ⟨W.heap.size+1,0,none⟩)) ((W.alloc (.cells #[.pointer (some ⟨r,0,none⟩)] 221)).alloc (.cells #[.pointer (some ⟨s,0,none⟩)] 221)):=
 ((h.alloc _).alloc _).rel (QU W _ _ _ _) (QW W _ _ _ _) (by omega) ⟨fun hx=>by have:=h.hr.lt _ hx;omega,fun hx=>by have:=h.hs.lt _ hx;omega⟩ ⟨fun hx=>by have:=h.hr.lt _ hx;omega,fun hx=>by have:=h.hs.lt _ hx;omega⟩ h.ch.size (Nat.le_succ_of_le h.ch.size)
theorem smA'(h:SK Ds Es w w1 r s Xr Xs W):Vy Ds Es w w1 (.pointer (some ⟨W.heap.size+1,0,none⟩)) (.pointer (some ⟨W.heap.size,0,none⟩)) ((W.alloc (.cells #[.pointer (some ⟨s,0,none⟩)] 221)).alloc (.cells #[.pointer (some ⟨r,0,none⟩)] 221)):=
 ((h.alloc _).alloc _).rel (QW W _ _ _ _) (QU W _ _ _ _) (by omega) ⟨fun hx=>by have:=h.hr.lt _ hx;omega,fun hx=>by have:=h.hs.lt _ hx;omega⟩ ⟨fun hx=>by have:=h.hr.lt _ hx;omega,fun hx=>by have:=h.hs.lt _ hx;omega⟩ (Nat.le_succ_of_le h.ch.size) h.ch.size
theorem smC(h:SK Ds Es w w1 r s Xr Xs W){m n:Nat}{z:Value}(hm:zE W m #[.pointer (some ⟨r,0,none⟩)] 221)(hn:zE W n #[z] 221)(hne:m≠n)(mX:m∉Xr/\m∉Xs)(nX:n∉Xr/\n∉Xs)(lm:w1.heap.size<=m)(ln:w1.heap.size<=n):Vy Ds Es w w1 (.pointer (some ⟨m,0,none⟩)) (.pointer (some ⟨n,0,none⟩)) (W.setCell ⟨n,0,none⟩ (.pointer (some ⟨s,0,none⟩))):=
 (h.set ln nX 0 _).rel (hm.kp (Ch.setCell (X:=[n]) _ (by simp) _) (by simpa using hne)) (hn.set 0 _) hne mX nX lm ln
theorem Qa(h:SK Ds Es w w1 r s Xr Xs W){m n:Nat}{z z':Value}(hm:zE W m #[z'] 221)(hn:zE W n #[z] 221)(hne:m≠n)(mX:m∉Xr/\m∉Xs)(nX:n∉Xr/\n∉Xs)(lm:w1.heap.size<=m)(ln:w1.heap.size<=n):Vy Ds Es w w1 (.pointer (some ⟨m,0,none⟩)) (.pointer (some ⟨n,0,none⟩)) ((W.setCell ⟨m,0,none⟩ (.pointer (some ⟨r,0,none⟩))).setCell ⟨n,0,none⟩ (.pointer (some ⟨s,0,none⟩))):=
 smC (h.set lm mX 0 _) (hm.set 0 _) (hn.kp (Ch.setCell (X:=[m]) _ (by simp) _) (by simpa using hne.symm)) hne mX nX lm ln
end
theorem RF{w:World}{lo b:Nat}{F:Nat->Prop}{v0 v1 v2:Value}{sv:List (zH×Value)}{cv:List (zZ×Value)}{av:List (ze×Value×Value)}(hp:yZ w lo b F v0 v1 v2 sv cv av){i j:Nat}{ci cj:zZ}{vi vj:Value}(hi:cv[i]? =some (ci,vi))(hj:cv[j]? =some (cj,vj))(hok:∀p,p∈sv->yR p.1)(hch:∀p,p∈cv->jM sv.length p.1.scrubs)
 {vc:Value} (hvc:j9 w F vc [(i:Int),(j:Int)]) {Ds Es:List zH} (hDs:zt (sv.map fun p=>p.1) ci.scrubs=Ds) (hEs:zt (sv.map fun p=>p.1) cj.scrubs=Es) {lv:Value} {ls:List UInt8} (hls:yw (YY (Ds++Es)) 256=ls) (hl:w.ownsRow 0 5 1 lv ls.length (jJ ls)):
 Calls Tryz.prog 90 #[.agg #[v0,v1,v2],.agg #[.int .i64 1,vc,.slice none 0 0],lv] w (YF (fun t=>yH Ds t≠yH Es t) w):=by
 have hLi:jM sv.length ci.scrubs:=hch (ci,vi) (List.mem_of_getElem? hi);have hLj:jM sv.length cj.scrubs:=hch (cj,vj) (List.mem_of_getElem? hj)
 have hF:yo Ds:=by rw[<- hDs];exact⟨Va (fun D hD=>by obtain⟨p,hp,rfl⟩:=List.mem_map.1 hD;exact hok p hp) (by simpa using hLi),by rw[YS];exact hLi.1⟩
 have hE:yo Es:=by rw[<- hEs];exact⟨Va (fun D hD=>by obtain⟨p,hp,rfl⟩:=List.mem_map.1 hD;exact hok p hp) (by simpa using hLj),by rw[YS];exact hLj.1⟩
 obtain⟨a0,c0,rfl⟩:=zQ hp.rs;obtain⟨a1,c1,rfl⟩:=zQ hp.rc;obtain⟨a2,c2,rfl⟩:=zQ hp.ra;obtain⟨la,lc,rfl⟩:=zQ hl
 obtain⟨gv,cc,rfl⟩:∃g cap,vc= .slice (some ⟨g,0,none⟩) 2 cap:=by
  rcases hvc.2.2 with⟨_,h0⟩|⟨g,cap,cur,h,_⟩
  ·simp at h0
  ·exact⟨g,cap,h⟩
 have g0:=Ch.alloc [] w (.cells #[.slice a0 sv.length c0,.slice a1 cv.length c1,.slice a2 av.length c2] 65);have P0:=zE.new w #[.slice a0 sv.length c0,.slice a1 cv.length c1,.slice a2 av.length c2] 65
 have z0:(w.alloc (.cells #[.slice a0 sv.length c0,.slice a1 cv.length c1,.slice a2 av.length c2] 65)).heap.size=w.heap.size+1:=by simp
 generalize hw0:w.alloc (.cells #[.slice a0 sv.length c0,.slice a1 cv.length c1,.slice a2 av.length c2] 65)=w0 at *;have g1:=Ch.alloc [] w0 (.cells #[.int .i64 1,.slice (some ⟨gv,0,none⟩) 2 cc,.slice none 0 0] 87);have C1:=zE.new w0 #[.int .i64 1,.slice (some ⟨gv,0,none⟩) 2 cc,.slice none 0 0] 87;have P1:=P0.kp g1 (by simp);rw[z0]at C1;generalize hw1:w0.alloc (.cells #[.int .i64 1,.slice (some ⟨gv,0,none⟩) 2 cc,.slice none 0 0] 87)=w1 at *;have G1:=g0.trans g1;have zw:=G1.size
 have KEEP:Hd (∀W,Ch [] w1 W->(W.cell? ⟨w.heap.size,0,none⟩=some (.slice a0 sv.length c0)/\W.cell? ⟨w.heap.size,1,none⟩=some (.slice a1 cv.length c1)/\W.cell? ⟨w.heap.size,2,none⟩=some (.slice a2 av.length c2)/\W.cell? ⟨w.heap.size+1,1,none⟩=some (.slice (some ⟨gv,0,none⟩) 2 cc)/\W.cell? ⟨gv,0,none⟩=some (.int .i64 i)/\W.cell? ⟨gv,1,none⟩=some (.int .i64 j)/\Ch [] w1 W)):=by
  intro W c;have B:=P1.kp c (by simp);have D:=C1.kp c (by simp);have R:=zJ hvc.2 (G1.trans c) (by simp);exact⟨B.cl 0 _ rfl,B.cl 1 _ rfl,B.cl 2 _ rfl,D.cl 1 _ rfl,by rw[R.cellAt 0 (by simp)];rfl,by rw[R.cellAt 1 (by simp)];rfl,c⟩
 have NR1:Hd (∀W,Ch [] w1 W->Calls Tryz.prog 123 #[.agg #[.slice a0 sv.length c0,.slice a1 cv.length c1,.slice a2 av.length c2],.int .i64 i] W fun e w'=>∃r X,e= .returned (.pointer (some ⟨r,0,none⟩))/\jP Ds w' X r/\r∈X/\Ch [] W w'/\∀q,q∈X->W.heap.size<=q):=by
  intro W c;have:=KU (hp.kp (G1.trans c) (by simp)) hi hok hLi;rw[hDs]at this;exact this
 have NR2:Hd (∀W,Ch [] w1 W->Calls Tryz.prog 123 #[.agg #[.slice a0 sv.length c0,.slice a1 cv.length c1,.slice a2 av.length c2],.int .i64 j] W fun e w'=>∃r X,e= .returned (.pointer (some ⟨r,0,none⟩))/\jP Es w' X r/\r∈X/\Ch [] W w'/\∀q,q∈X->W.heap.size<=q):=by
  intro W c;have:=KU (hp.kp (G1.trans c) (by simp)) hj hok hLj;rw[hEs]at this;exact this
 have HL:=zC hl;have HF:=zC hF;have HE:=zC hE;have HG1:=zC G1;have HLS:=zC hls
 have zsz:∀(W:World),W.drew.heap.size=W.heap.size:=fun _=>rfl
 have zal:∀(W:World) (o:Obj),(W.alloc o).heap.size=W.heap.size+1:=fun _ _=>by simp
 have HZS:=zC (And.intro zsz zal);clear hp hl hF hE P0 P1 C1 G1 g0 g1 hvc hi hj hok hLi hLj hch hDs hEs hls zsz zal;go_enter Tryz.func90,Tryz.ntmps90;go_wp2_with fail
 go_cut [8,9] (fun v8 v9 wx=>Vy Ds Es w w1 v8 v9 wx)
 case first=>
  go_region_held3 (fun W=>W.cell? ⟨w.heap.size,0,none⟩=some (.slice a0 sv.length c0)/\W.cell? ⟨w.heap.size,1,none⟩=some (.slice a1 cv.length c1)/\W.cell? ⟨w.heap.size,2,none⟩=some (.slice a2 av.length c2)/\W.cell? ⟨w.heap.size+1,1,none⟩=some (.slice (some ⟨gv,0,none⟩) 2 cc)/\W.cell? ⟨gv,0,none⟩=some (.int .i64 i)/\W.cell? ⟨gv,1,none⟩=some (.int .i64 j)/\Ch [] w1 W) (first|(with_reducible exact E3)|(with_reducible exact E2)|(exact KEEP.o _ (by repeat' (first|with_reducible assumption|with_reducible exact Ch.refl _ _|with_reducible refine Ch.trans ?_ (Ch.alloc [] _ _)|with_reducible refine Ch.trans ?_ (Ch.drew [] _)|with_reducible refine Ch.setNew ?_ (by first|exact Nat.le_refl _|exact Nat.le_succ _|(have:=K3.size;have:=K2.size;omega)))))) (first|(go_at_call 123;have D2:=E2;refine(NR2.o _ (by repeat' (first|with_reducible assumption|with_reducible refine Ch.trans ?_ (Ch.alloc [] _ _)|with_reducible refine Ch.trans ?_ (Ch.drew [] _)))).mono ?_;rintro e w3 ⟨s,Xs,rfl,RS,_,k3,hXs⟩;have k23:Ch [] w2 w3:=Ch.trans (by repeat' (first|with_reducible exact Ch.refl _ _|with_reducible refine Ch.trans ?_ (Ch.alloc [] _ _)|with_reducible refine Ch.trans ?_ (Ch.drew [] _))) k3;have K3:Ch [] w1 w3:=K2.trans k23;have E3:=KEEP.o w3 K3;have R3:=RA.kp k23 (by simp);(try (simp only[HZS.o.2]at hXs));(try (have T0:zE w3 w1.heap.size #[.pointer none] 221:=U0.kp k23 (by simp);have t00:=T0.cl 0 _ rfl;have t0f:=T0.fz;have x03:¬w1.heap.size=w3.heap.size:=(by have:=T0.lt;omega);have x30:¬w3.heap.size=w1.heap.size:=(by have:=T0.lt;omega);have x02:¬w1.heap.size=w2.heap.size:=(by have:=U0.lt;omega);have x20:¬w2.heap.size=w1.heap.size:=(by have:=U0.lt;omega);have Y0:=T0.kp (Ch.alloc [] w3 (.cells #[.pointer (some ⟨r,0,none⟩)] 221)) (by simp);have y00:=Y0.cl 0 _ rfl;have y0f:=Y0.fz;have V0:=T0.kp (Ch.alloc [] w3 (.cells #[.pointer none] 221)) (by simp);have v00:=V0.cl 0 _ rfl;have v0f:=V0.fz));(try (have T1:zE w3 (w1.heap.size+1) #[.pointer none] 221:=U1.kp k23 (by simp);have t10:=T1.cl 0 _ rfl;have t1f:=T1.fz;have u1l:=U1.lt));(try (have T2:zE w3 w2.heap.size #[.pointer none] 221:=zE.kp (by first|exact Ug w2 _ _|exact QU w2 _ _ _ _) k3 (by simp);have t20:=T2.cl 0 _ rfl;have t2f:=T2.fz;have x23:¬w2.heap.size=w3.heap.size:=(by have:=T2.lt;omega);have x32:¬w3.heap.size=w2.heap.size:=(by have:=T2.lt;omega);have Y2:=T2.kp (Ch.alloc [] w3 (.cells #[.pointer (some ⟨r,0,none⟩)] 221)) (by simp);have y20:=Y2.cl 0 _ rfl;have y2f:=Y2.fz;have V2:=T2.kp (Ch.alloc [] w3 (.cells #[.pointer none] 221)) (by simp);have v20:=V2.cl 0 _ rfl;have v2f:=V2.fz));(try (have T3:zE w3 (w2.heap.size+1) #[.pointer none] 221:=zE.kp (by exact QW w2 _ _ _ _) k3 (by simp);have t30:=T3.cl 0 _ rfl;have t3f:=T3.fz)))|(go_at_call 123;refine(NR1.o _ (by repeat' (first|with_reducible assumption|with_reducible exact Ch.refl _ _|with_reducible refine Ch.trans ?_ (Ch.alloc [] _ _)|with_reducible refine Ch.trans ?_ (Ch.drew [] _)))).mono ?_;rintro e w2 ⟨r,Xr,rfl,RA,_,k2,hXr⟩;have K2:Ch [] w1 w2:=Ch.trans (by repeat' (first|with_reducible exact Ch.refl _ _|with_reducible refine Ch.trans ?_ (Ch.alloc [] _ _)|with_reducible refine Ch.trans ?_ (Ch.drew [] _))) k2;have E2:=KEEP.o w2 K2;(try (simp only[HZS.o.1,HZS.o.2]at hXr));(try (have U0:zE w2 w1.heap.size #[.pointer none] 221:=zE.kp (by first|exact Ug w1 _ _|exact QU w1 _ _ _ _) k2 (by simp)));(try (have U1:zE w2 (w1.heap.size+1) #[.pointer none] 221:=zE.kp (by exact QW w1 _ _ _ _) k2 (by simp)))))
  all_goals
   have z2:=K2.size;have z3:=k23.size;have lA:=RA.lt;have lS:=RS.lt;have K:SK Ds Es w w1 r s Xr Xs w3:=⟨R3,RS,K3,fun k hk hx=>by have:=lA k hk;have:=hXs k hx;omega,fun k hk=>by have:=hXr k hk;omega,fun k hk=>by have:=hXs k hk;omega,zw⟩;go_wp2_with fail;go_meet
   first
   |(with_reducible exact smA K)
   |(with_reducible exact smA' K)
   |(with_reducible exact Qa K T0 T1 (by omega) ⟨fun hx=>by have:=hXr _ hx;have:=lA _ hx;omega,fun hx=>by have:=hXs _ hx;have:=lS _ hx;omega⟩ ⟨fun hx=>by have:=hXr _ hx;have:=lA _ hx;omega,fun hx=>by have:=hXs _ hx;have:=lS _ hx;omega⟩ (by omega) (by omega))
   |(with_reducible exact Qa K T1 T0 (by omega) ⟨fun hx=>by have:=hXr _ hx;have:=lA _ hx;omega,fun hx=>by have:=hXs _ hx;have:=lS _ hx;omega⟩ ⟨fun hx=>by have:=hXr _ hx;have:=lA _ hx;omega,fun hx=>by have:=hXs _ hx;have:=lS _ hx;omega⟩ (by omega) (by omega))
   |(with_reducible exact Qa K T0 T2 (by omega) ⟨fun hx=>by have:=hXr _ hx;have:=lA _ hx;omega,fun hx=>by have:=hXs _ hx;have:=lS _ hx;omega⟩ ⟨fun hx=>by have:=hXr _ hx;have:=lA _ hx;omega,fun hx=>by have:=hXs _ hx;have:=lS _ hx;omega⟩ (by omega) (by omega))
   |(with_reducible exact Qa K T2 T0 (by omega) ⟨fun hx=>by have:=hXr _ hx;have:=lA _ hx;omega,fun hx=>by have:=hXs _ hx;have:=lS _ hx;omega⟩ ⟨fun hx=>by have:=hXr _ hx;have:=lA _ hx;omega,fun hx=>by have:=hXs _ hx;have:=lS _ hx;omega⟩ (by omega) (by omega))
   |(with_reducible exact Qa K T2 T3 (by omega) ⟨fun hx=>by have:=hXr _ hx;have:=lA _ hx;omega,fun hx=>by have:=hXs _ hx;have:=lS _ hx;omega⟩ ⟨fun hx=>by have:=hXr _ hx;have:=lA _ hx;omega,fun hx=>by have:=hXs _ hx;have:=lS _ hx;omega⟩ (by omega) (by omega))
   |(with_reducible exact Qa K T3 T2 (by omega) ⟨fun hx=>by have:=hXr _ hx;have:=lA _ hx;omega,fun hx=>by have:=hXs _ hx;have:=lS _ hx;omega⟩ ⟨fun hx=>by have:=hXr _ hx;have:=lA _ hx;omega,fun hx=>by have:=hXs _ hx;have:=lS _ hx;omega⟩ (by omega) (by omega))
   |(with_reducible exact Qa (K.alloc _) V0 (zE.new w3 _ _) (by omega) ⟨fun hx=>by have:=hXr _ hx;have:=lA _ hx;omega,fun hx=>by have:=hXs _ hx;have:=lS _ hx;omega⟩ ⟨fun hx=>by have:=hXr _ hx;have:=lA _ hx;omega,fun hx=>by have:=hXs _ hx;have:=lS _ hx;omega⟩ (by omega) (by omega))
   |(with_reducible exact Qa (K.alloc _) V2 (zE.new w3 _ _) (by omega) ⟨fun hx=>by have:=hXr _ hx;have:=lA _ hx;omega,fun hx=>by have:=hXs _ hx;have:=lS _ hx;omega⟩ ⟨fun hx=>by have:=hXr _ hx;have:=lA _ hx;omega,fun hx=>by have:=hXs _ hx;have:=lS _ hx;omega⟩ (by omega) (by omega))
   |(with_reducible exact smC (K.alloc _) (zE.new w3 _ _) Y0 (by omega) ⟨fun hx=>by have:=hXr _ hx;have:=lA _ hx;omega,fun hx=>by have:=hXs _ hx;have:=lS _ hx;omega⟩ ⟨fun hx=>by have:=hXr _ hx;have:=lA _ hx;omega,fun hx=>by have:=hXs _ hx;have:=lS _ hx;omega⟩ (by omega) (by omega))
   |(with_reducible exact smC (K.alloc _) (zE.new w3 _ _) Y2 (by omega) ⟨fun hx=>by have:=hXr _ hx;have:=lA _ hx;omega,fun hx=>by have:=hXs _ hx;have:=lS _ hx;omega⟩ ⟨fun hx=>by have:=hXr _ hx;have:=lA _ hx;omega,fun hx=>by have:=hXs _ hx;have:=lS _ hx;omega⟩ (by omega) (by omega))
 case rest=>
  obtain⟨rb,sb,X,rfl,rfl,INV,lX,K3⟩:=hcut;have G3:=HG1.o.trans K3
  have lrb:w.heap.size<=rb:=by
   obtain⟨r,s,Xr,Xs,rfl,_⟩:=id INV;exact lX rb (by simp)
  have hll:ls.length<=256:=by rw[<- HLS.o];exact UT _ 256
  have SH:=zC (TO (runS HF.o HE.o rb sb w.heap.size lrb) (by have:=NP HF.o HE.o;rw[HLS.o]at this;exact this) Qt 8192 (by omega) (fun k hk=>Bn k hk) (fun k k' hk hk' e=>EN k k' hk hk' e) INV (start:= .agg #[.int .u8 0,.int .u8 0,.int .u8 0,.int .u8 0,.int .u8 0,.int .u8 0,.bool false]) ⟨0,0,0,0,0,0,rfl,rfl,⟨by omega,by omega,by omega,by omega,by omega,by omega⟩,rfl⟩ (zJ HL.o G3 (by simp)) (fun q hq hx=>by have:=(HL.o.lt q hq).2;have:=lX q hx;omega) hll)
  have FIN:Hd (∀e w7,BU (jY Ds Es) X wc e w7->YF (fun t=>yH Ds t≠yH Es t) w e w7):=by
   rintro e w7 ⟨Wt,found,rfl,hr,c7⟩;refine⟨Wt,found,rfl,?_,?_,G3.trans' c7 (fun q hx=>Or.inr (lX q hx))⟩
   ·rcases hr with⟨h1,h2⟩|⟨h1,h2,h3⟩
    ·exact Or.inl ⟨h1,aU HF.o HE.o h2⟩
    ·exact Or.inr ⟨h1,h2,fun t ht=>ht (S5 HF.o HE.o h3 t)⟩
   ·rcases hr with⟨h1,h2⟩|⟨h1,h2,h3⟩
    ·have:=DK (by have:=NP HF.o HE.o;rw[HLS.o]at this;exact this) Qt 8192 (fun k hk=>Bn k hk) (fun k k' hk hk' e=>EN k k' hk hk' e) h2
     omega
    ·subst h2
     simp
  have hmf:∀(fn:Fn) (first cap:Array Value) (w:World),(Instr.makeFunc fn first cap).run Tryz.prog w= .ok (.func fn first cap) w:=fun _ _ _ _=>rfl
  clear INV lX K3 G3 NR1 NR2 KEEP;go_wp2_with fail;refine SH.o.mono ?_;intro e w7 hF7;have A7:=FIN.o e w7 hF7;obtain⟨Wt,found,rfl,hr,hwl,c7⟩:=A7;have HA:Hd (YF (fun t=>yH Ds t≠yH Es t) w (.returned (.tuple #[.string (zG Wt),.bool found])) w7):=⟨Wt,found,rfl,hr,hwl,c7⟩;clear hF7 hr c7 hwl;go_wp2_with fail;go_ret2;exact HA.o
def WO(ls:List UInt8)(w:World)(v:Value):Prop:=w.ownsRow 0 5 1 v ls.length (jJ ls)
theorem WO.kp{ls:List UInt8}{w w':World}{v:Value}(h:WO ls w v)(c:Ch [] w w'):WO ls w' v:=zJ h c (by simp)
theorem Ob:QK:=by
 intro w lo b F v0 v1 v2 sv cv av hp hok hch i j ci cj vi vj hi hj vc hvc;obtain⟨Ds,hDs⟩:∃X,zt (sv.map fun p=>p.1) ci.scrubs=X:=⟨_,rfl⟩;obtain⟨Es,hEs⟩:∃X,zt (sv.map fun p=>p.1) cj.scrubs=X:=⟨_,rfl⟩;obtain⟨ls,hls⟩:∃X,yw (YY (Ds++Es)) 256=X:=⟨_,rfl⟩;rw[hDs,hEs]
 have NL:Hd (∀W,Ch [] w W->Calls Tryz.prog 91 #[.agg #[v0,v1,v2],.agg #[.int .i64 1,vc,.slice none 0 0]] W fun e w'=>∃a n c,e= .returned (.slice a n c)/\Hd (WO ls w' (.slice a n c))/\Ch [] W w'):=by
  intro W c;refine(Fz (hp.kp c (by simp)) hi hj hok hch ⟨hvc.1,zJ hvc.2 c (by simp)⟩ hDs hEs).mono ?_;rintro e w' ⟨lv,rfl,ho,k⟩;rw[hls]at ho;obtain⟨a,cc,rfl⟩:=zQ ho;exact⟨a,_,cc,rfl,ho,k⟩
 have NC:Hd (∀W lv,Ch [] w W->WO ls W lv->Calls Tryz.prog 90 #[.agg #[v0,v1,v2],.agg #[.int .i64 1,vc,.slice none 0 0],lv] W (YF (fun t=>yH Ds t≠yH Es t) W)):=by
  intro W lv c ho;exact RF (hp.kp c (by simp)) hi hj (fun p hp=>(hok p hp).1) hch ⟨hvc.1,zJ hvc.2 c (by simp)⟩ hDs hEs hls ho
 obtain⟨a0,c0,rfl⟩:=zQ hp.rs;obtain⟨a1,c1,rfl⟩:=zQ hp.rc;obtain⟨a2,c2,rfl⟩:=zQ hp.ra
 obtain⟨va,vn,vcc,rfl⟩:JI vc:=by
  obtain⟨a,c,rfl⟩:=zQ hvc.2;exact⟨_,_,_,rfl⟩
 have g0:=Ch.alloc [] w (.cells #[.slice a0 sv.length c0,.slice a1 cv.length c1,.slice a2 av.length c2] 65);have P0:=zE.new w #[.slice a0 sv.length c0,.slice a1 cv.length c1,.slice a2 av.length c2] 65
 have z0:(w.alloc (.cells #[.slice a0 sv.length c0,.slice a1 cv.length c1,.slice a2 av.length c2] 65)).heap.size=w.heap.size+1:=by simp
 generalize hw0:w.alloc (.cells #[.slice a0 sv.length c0,.slice a1 cv.length c1,.slice a2 av.length c2] 65)=w0 at *;have g1:=Ch.alloc [] w0 (.cells #[.int .i64 1,.slice va vn vcc,.slice none 0 0] 87);have C1:=zE.new w0 #[.int .i64 1,.slice va vn vcc,.slice none 0 0] 87;have P1:=P0.kp g1 (by simp);rw[z0]at C1;generalize hw1:w0.alloc (.cells #[.int .i64 1,.slice va vn vcc,.slice none 0 0] 87)=w1 at *;have G1:=g0.trans g1
 have KEEP:Hd (∀W,Ch [] w1 W->(W.cell? ⟨w.heap.size,0,none⟩=some (.slice a0 sv.length c0)/\W.cell? ⟨w.heap.size,1,none⟩=some (.slice a1 cv.length c1)/\W.cell? ⟨w.heap.size,2,none⟩=some (.slice a2 av.length c2)/\W.cell? ⟨w.heap.size+1,0,none⟩=some (.int .i64 1)/\W.cell? ⟨w.heap.size+1,1,none⟩=some (.slice va vn vcc)/\W.cell? ⟨w.heap.size+1,2,none⟩=some (.slice none 0 0)/\Ch [] w1 W)):=by
  intro W c;have B:=P1.kp c (by simp);have D:=C1.kp c (by simp);exact⟨B.cl 0 _ rfl,B.cl 1 _ rfl,B.cl 2 _ rfl,D.cl 0 _ rfl,D.cl 1 _ rfl,D.cl 2 _ rfl,c⟩
 have HG1:=zC G1;obtain⟨p0,p1,p2,p3,p4,p5,_⟩:=KEEP.o w1 (Ch.refl _ _);clear hp P0 P1 C1 G1 g0 g1 hvc hi hj hok hch hDs hEs hls;go_enter Tryz.func49,Tryz.ntmps49;go_wp2_with fail
 go_region_held3 (fun w'=>w'.cell? ⟨w.heap.size,0,none⟩=some (.slice a0 sv.length c0)/\w'.cell? ⟨w.heap.size,1,none⟩=some (.slice a1 cv.length c1)/\w'.cell? ⟨w.heap.size,2,none⟩=some (.slice a2 av.length c2)/\w'.cell? ⟨w.heap.size+1,0,none⟩=some (.int .i64 1)/\w'.cell? ⟨w.heap.size+1,1,none⟩=some (.slice va vn vcc)/\w'.cell? ⟨w.heap.size+1,2,none⟩=some (.slice none 0 0)/\Ch [] w1 w') (first|(with_reducible exact E3)|(with_reducible exact E2)|(exact KEEP.o _ (by repeat' (first|with_reducible assumption|exact Ch.refl _ _|refine Ch.trans ?_ (Ch.alloc [] _ _)|refine Ch.trans ?_ (Ch.drew [] _))))|go_keep) (first|(go_at_call 91;refine(NL.o _ (HG1.o.trans (by repeat' (first|assumption|exact Ch.refl _ _|refine Ch.trans ?_ (Ch.alloc [] _ _)|refine Ch.trans ?_ (Ch.drew [] _))))).mono ?_;rintro e w2 ⟨a3,n3,c3,rfl,HL,k2⟩;have K2:Ch [] w1 w2:=Ch.trans (by repeat' (first|assumption|exact Ch.refl _ _|refine Ch.trans ?_ (Ch.alloc [] _ _)|refine Ch.trans ?_ (Ch.drew [] _))) k2;have E2:=KEEP.o w2 K2)|(go_at_call 90;refine(NC.o _ _ (HG1.o.trans (by repeat' (first|assumption|exact Ch.refl _ _|refine Ch.trans ?_ (Ch.alloc [] _ _)|refine Ch.trans ?_ (Ch.drew [] _)))) (HL.o.kp (by repeat' (first|assumption|exact Ch.refl _ _|refine Ch.trans ?_ (Ch.alloc [] _ _)|refine Ch.trans ?_ (Ch.drew [] _))))).mono ?_;rintro e w3 ⟨Wt,found,rfl,hr,hwl,k3⟩;have K3:Ch [] w1 w3:=Ch.trans (by repeat' (first|assumption|exact Ch.refl _ _|refine Ch.trans ?_ (Ch.alloc [] _ _)|refine Ch.trans ?_ (Ch.drew [] _))) k3;have E3:=KEEP.o w3 K3;have HR:=zC hr;clear hr))
 all_goals
  go_wp2_with fail;go_ret2;exact⟨Wt,found,rfl,HR.o,hwl,HG1.o.trans K3⟩
end Go.Proofs.YteobgfbgglfkbaaGreat
