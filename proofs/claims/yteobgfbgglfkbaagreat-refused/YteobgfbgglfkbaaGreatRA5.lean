import Derived.Test.YteobgfbgglfkbaaGreatRA4
namespace Go.Proofs.YteobgfbgglfkbaaGreat
open Go.RowKit
attribute [local go_sem ↓] Go.wp_at_zero Go.wp_at_succ
def zBX(S:ByteArray)(ns:List ByteArray):Nat→St→List Int→Except Nat (List Int×St)
 |0,s,_=> .error s.i
 |n+1,s,L=>
  match zAn S s with
  |.error d=> .error d
  |.ok ((y,p),s1)=>
   if bt S (run isBl S (sayS (decide (zAP ns y<0)) 5 p (sayS (decide (3≤(L.length:Int))) 3 p s1)).i)=59 then .ok (L++[zAP ns y],(sayS (decide (zAP ns y<0)) 5 p (sayS (decide (3≤(L.length:Int))) 3 p s1)).skip S)
   else zBX S ns n ((sayS (decide (zAP ns y<0)) 5 p (sayS (decide (3≤(L.length:Int))) 3 p s1)).skip S) (L++[zAP ns y])
def zBu(S:ByteArray)(ns nc:List ByteArray)(at1:Int)(s:St):Except Nat (zAS×St):=
 match zAn S (sayS (decide (4≤(nc.length:Int))) 3 at1 s) with
 |.error d=> .error d
 |.ok ((x,a),s1)=>
  match zAG S 61 (sayS (zDD ns nc x) 4 a s1) with
  |.error d=> .error d
  |.ok s2=>
   match zBX S ns (S.size+1) s2 [] with
   |.error d=> .error d
   |.ok (L,s3)=>
    match zAG S 59 s3 with
    |.error d=> .error d
    |.ok s4=> .ok (⟨x,L⟩,s4)
def zG9(w:World)(lo b d:Nat)(S:ByteArray)(nest:Int)(vs _vc va:Value)(sv:List (zAE×Value))(cv:List (zAS×Value))(av:List (zAU×Value))(r:Except Nat (zAS×St))(e:Ending)(w':World):Prop:=
 e= .returned (.tuple #[])∧Below lo w w'∧((∃D s' vr F' vc',r= .ok (D,s')∧zAJ w' b S s' (-1) nest∧s'.i≤S.size∧zCh w' lo b d F' vs vc' va sv (cv++[(D,vr)]) av)∨(∃Dd,r= .error Dd∧zAQ w' b S Dd))
def zLd(S:ByteArray)(w0:World)(b X:Nat)(nest:Int)(x:ByteArray)(ns:List ByteArray)(r:Except Nat (List Int×St))(again:Value)(w5:World):Prop:=
 Ch [b,X] w0 w5∧∃(vr:Value) (n:Nat) (xs:List Value),zAC w5 X #[.string x,vr] 52∧w5.ownsRow 0 3 1 vr n xs∧n≤500∧(∀g,vr.ownBlock=some g→w0.heap.size≤g∧g<w5.heap.size)∧
  ((∃(L:List Int) (s5:St),zAJ w5 b S s5 (-1) nest∧s5.i≤S.size∧n=L.length∧xs=L.map (Value.int .i64)∧((again= .bool true∧n≤s5.i∧∃m,S.size<m+s5.i∧r=zBX S ns m s5 L)∨(again= .bool false∧r= .ok (L,s5))))∨
   (∃D,zAQ w5 b S D∧r= .error D∧∃q,again= .bool q))
theorem zI4{w W:World}{lo b d:Nat}{S:ByteArray}{nest:Int}{F:Nat→Prop}{a0:Option Addr}{c0:Nat}{vs va:Value}{sv:List (zAE×Value)}{cv:List (zAS×Value)}{av:List (zAU×Value)}(hp:zCh w lo b d F vs (.slice a0 cv.length c0) va sv cv av)(gW:Ch [b] w W)(hlo:lo≤b)(hbl:b<w.heap.size)(hn:cv.length<450)
  {x:ByteArray} {vr:Value} {τ:Except Nat St} (PW:PS W b S nest τ) {r:Except Nat (zAS×St)}
  (hr:(∃D s' G,r= .ok (D,s')∧τ= .ok s'∧D.name=x∧zBD W G vr D.scrubs∧(∀k,G k→w.heap.size≤k∧k<W.heap.size))∨(∃Dd,r= .error Dd∧τ= .error Dd)):
  ∀(g cap:Nat) (w7:World),w7.ownsRow 0 52 2 (.slice (some ⟨g,0,none⟩) (cv.length+1) cap) (cv.length+1) (zAT cv++[.string x,vr])→Ch (Value.slice a0 cv.length c0).ownBlock.toList (W.drew.alloc (.cells #[.string x,vr] 52)) w7→((Value.slice a0 cv.length c0).ownBlock=some g∨g=W.heap.size+1)→
   zG9 w lo b d S nest vs (.slice a0 cv.length c0) va sv cv av r (.returned (.tuple #[])) (w7.setCell ⟨d,1,none⟩ (.slice (some ⟨g,0,none⟩) (cv.length+1) cap)):=by
 intro g cap w7 own7 gr7 hat7;have gA:Ch [] W (W.drew.alloc (.cells #[.string x,vr] 52)):=(Ch.drew [] W).trans (Ch.alloc _ _ _);have gB:Ch [b] w (W.drew.alloc (.cells #[.string x,vr] 52)):=gW.trans (gA.mono (by simp));have hpB:=hp.keep gB
 have zA:(W.drew.alloc (.cells #[.string x,vr] 52)).heap.size=W.heap.size+1:=by
  show (W.heap.push _).size=_;simp
 have zW:=gW.size
 have nb:b∉(Value.slice a0 cv.length c0).ownBlock.toList:=by simp;intro e;exact (hp.bc b e).2.1 rfl
 have gD:Ch [d] w7 (w7.setCell ⟨d,1,none⟩ (.slice (some ⟨g,0,none⟩) (cv.length+1) cap)):=Ch.setCell _ (by simp) _;have P7:PS (w7.setCell ⟨d,1,none⟩ (.slice (some ⟨g,0,none⟩) (cv.length+1) cap)) b S nest τ:=((PW.keep gA (by simp)).keep gr7 nb).keep gD (by simpa using hp.bd);refine ⟨rfl,?_,?_⟩
 ·refine ((gB.below (by omega) (by simp;omega)).trans ((gr7.below (by omega) ?_).trans (gD.below (by have:=gr7.size;omega) (by simp;exact hp.dlo))))
  intro k hk;simp at hk;exact (hp.bc k hk).1
 ·rcases hr with ⟨D,s',G,rfl,rfl,rfl,hR,hG⟩ | ⟨Dd,rfl,rfl⟩
  ·refine Or.inl ⟨D,s',vr,fun k=>F k∨G k,.slice (some ⟨g,0,none⟩) (cv.length+1) cap,rfl,P7.1,P7.2,?_⟩
   have hR':zBD (W.drew.alloc (.cells #[.string D.name,vr] 52)) G vr D.scrubs:=hR.frame (fun k hk=>gA.block k (hG k hk).2 (by simp)) (fun _ h=>h);refine hpB.addChain (H:=W.heap.size+1) hn (fun k hk=> ?_) hR' own7 gr7 hat7 (by omega) (by omega) (by omega);have h1:=hG k hk;refine ⟨by omega,by omega,by omega,by have:=hp.blk.lt;omega,fun e=> ?_,fun e=> ?_,fun e=> ?_⟩
   ·have:=(hp.rs.lt k e).2;omega
   ·have:=(hp.rc.lt k e).2;omega
   ·have:=(hp.ra.lt k e).2;omega
  ·exact Or.inr ⟨Dd,rfl,P7⟩
set_option maxHeartbeats 3200000 in
theorem zMR{w:World}{lo b d:Nat}{S:ByteArray}{nest:Int}{s:St}{F:Nat→Prop}{vs vc va:Value}{sv:List (zAE×Value)}{cv:List (zAS×Value)}{av:List (zAU×Value)}(h:zAJ w b S s (-1) nest)(hi:s.i≤S.size)(hS:S.size≤400)(hp:zCh w lo b d F vs vc va sv cv av)(hn:cv.length<450)(hlo:lo≤b)(at1:Int):
  Calls Tryz.prog 32 #[.pointer (some ⟨b,0,none⟩),.pointer (some ⟨d,0,none⟩),.int .i64 at1] w (zG9 w lo b d S nest vs vc va sv cv av (zBu S (zBF sv) (zBG cv) at1 s)):=by
 obtain ⟨a0,c0,rfl⟩:=zAD hp.rc;have d0:=hp.blk.cell 1 _ rfl;have hbl:=h.lt;go_enter Tryz.func32,Tryz.ntmps32;go_wp2_with fail;refine (zGY (σ:= .ok s) ⟨h,hi⟩ _ _ _).mono ?_;rintro e w1 ⟨rfl,h1,g1⟩;simp only [mapX] at h1
 have RE:Hid (zBu S (zBF sv) (zBG cv) at1 s=match zAn S (sayS (decide (4≤(cv.length:Int))) 3 at1 s) with
   |.error d=> .error d
   |.ok ((x,a),s1)=>
    match zAG S 61 (sayS (zDD (zBF sv) (zBG cv) x) 4 a s1) with
    |.error d=> .error d
    |.ok s2=>
     match zBX S (zBF sv) (S.size+1) s2 [] with
     |.error d=> .error d
     |.ok (L,s3)=>
      match zAG S 59 s3 with
      |.error d=> .error d
      |.ok s4=> .ok (⟨x,L⟩,s4)):=by
  show _=_;simp only [zBu,zBG,List.length_map]
 generalize hr:zBu S (zBF sv) (zBG cv) at1 s=r at *;clear hr;generalize sayS (decide (4≤(cv.length:Int))) 3 at1 s=s1 at *;clear d0;go_wp2_with fail;refine (zLT h1 hS).mono ?_;rintro e w3 ⟨a,rfl,ha,h3,g3⟩;have HA:=hide ha;clear ha;generalize hx:(valD (ByteArray.empty,0) (zAI (.ok s1) (zAn S))).1=x;have HXN:=hide hx;clear hx;have g13:=g1.trans g3;have hp3:=hp.keep g13;go_wp2_with fail;refine (zPD h3 hp3 _ _).mono ?_;rintro e w5 ⟨rfl,h5,g5⟩;have g15:=g13.trans g5;have hp5:=hp.keep g15;have zX:=g15.size;have h6:=h5.keep (Ch.alloc [] w5 (.cells #[.string x,.slice none 0 0] 52)) (by simp);have X6:=zAC.new w5 #[.string x,.slice none 0 0] 52;have g16:Ch [b] w (w5.alloc (.cells #[.string x,.slice none 0 0] 52)):=g15.trans (Ch.alloc _ _ _);have bX:=h5.lt;have dX:=hp5.blk.lt;generalize hσ5:mapX (stX (zAI (.ok s1) (zAn S))) (sayS (zDD (zBF sv) (zBG cv) x) 4 a)=σ5 at *
 have RB:Hid (r=match zAI (zAI σ5 (zAG S 61)) (fun s=>zBX S (zBF sv) (S.size+1) s []) with
   |.error d=> .error d
   |.ok (L,s3)=>match zAG S 59 s3 with | .error d=> .error d | .ok s4=> .ok (⟨x,L⟩,s4)):=by
  show _=_
  rw [RE.out,← hσ5];have e1:=HXN.out;have e2:=HA.out;simp only [zAI] at e1 e2 ⊢
  cases hnm:zAn S s1 with
  |error d=>rfl
  |ok p=>
   obtain ⟨⟨y,p⟩,s2⟩:=p;rw [hnm] at e1;have:=e2 y p s2 hnm;subst this;simp only [valD] at e1;subst e1;simp only [stX,mapX]
   cases zAG S 61 (sayS (zDD (zBF sv) (zBG cv) y) 4 p s2) <;>rfl
 clear hσ5 RE HA HXN h3 h5 g5 g3 g13 hp3 hp5 g1 h1;go_wp2_with fail;generalize w5.alloc (.cells #[.string x,.slice none 0 0] 52)=w6 at *;generalize hX:w5.heap.size=X at *;have HX:=hide hX;clear hX;refine (zCd h6 hS _ (by omega)).mono ?_;rintro e w7 ⟨rfl,h7,g7⟩;have X7:=X6.keep g7 (by simp;omega);have g17:=g16.trans g7;generalize hσ7:zAI σ5 (zAG S 61)=σ7 at *;clear hσ7 X6 h6 g16 g7 g15;generalize hrr:zAI σ7 (fun s=>zBX S (zBF sv) (S.size+1) s [])=rr at *;have zX7:=X7.lt;have z17:=g17.size
 have START:Hid (zLd S w7 b X nest x (zBF sv) rr (.bool true) w7):=by
  refine ⟨Ch.refl _ _,.slice none 0 0,0,[],X7,World.ownsRow_nil _ _ _ _,by omega,by simp [Value.ownBlock],?_⟩
  cases σ7 with
  |error d=>exact Or.inr ⟨d,h7,hrr.symm,_,rfl⟩
  |ok s7=>exact Or.inl ⟨[],s7,h7.1,h7.2,rfl,rfl,Or.inl ⟨rfl,by simp,S.size+1,by omega,hrr.symm⟩⟩
 clear hrr h7 X7;go_wp2_with fail
 go_loopw [9,10,11,12] (fun again _ _ _ w8=>zLd S w7 b X nest x (zBF sv) rr again w8) (fun again _ _ _ w8=>mP b S.size again w8)
 case atStart=>exact START.out
 case round=>
  clear START;generalize wr=w8 at *;obtain ⟨g8,vr,n0,xs,X8,O8,hn500,V8,⟨L,s5,h8,hi8,rfl,rfl,⟨rfl,hle8,m,hm8,hrr⟩ | ⟨rfl,hrr⟩⟩ | ⟨D,h8,hrr,q,rfl⟩⟩:=hrel
  ·obtain ⟨va',vc',rfl⟩:=zAD O8
   obtain ⟨m,rfl⟩:∃k,m=k+1:=⟨m - 1,by omega⟩
   have hm0:Hid (mP b S.size (.bool true) w8=2 * (S.size+1 - s5.i)+1):=by show _=_;rw [zFb,h8.penM]
   have HRR:=hide hrr;clear hrr;have gw8:Ch [b] w w8:=g17.trans' g8 (by intro k hk;simp at hk;rcases hk with rfl | rfl;exact Or.inl (by simp);exact Or.inr (by omega));obtain ⟨c0',c1',c2',c3',c4',c5',c6',fz'⟩:=h8.facts;go_wp2_with fail;refine (zLT (σ:= .ok s5) ⟨h8,hi8⟩ hS).mono ?_;rintro e w9 ⟨p9,rfl,hp9,h9,g9⟩;have HP9:=hide hp9;clear hp9 c0' c1' c2' c3' c4' c5' c6' fz';generalize hy:(valD (ByteArray.empty,0) (zAI (.ok s5) (zAn S))).1=y;have HY:=hide hy;clear hy;have gw9:=gw8.trans g9;have hp9':=hp.keep gw9;go_wp2_with fail;refine (zEq hp9'.blk hp9'.rs (by have:=hp9'.ns;omega) y).mono ?_;rintro e w9 ⟨rfl,rfl⟩;rw [show (sv.map fun p=>p.1.name)=zBF sv from rfl];generalize hix:zAP (zBF sv) y=ix;have HIX:=hide hix;clear hix;have X9:=X8.keep g9 (by simp;omega);have x1':=X9.cell 1 _ rfl;go_wp2_with fail;refine (zGY h9 _ _ _).mono ?_;rintro e w10 ⟨rfl,h10,g10⟩;go_wp2_with fail;refine (zGY h10 _ _ _).mono ?_;rintro e w11 ⟨rfl,h11,g11⟩;have g811:Ch [b] w8 w11:=g9.trans (g10.trans g11);have X11:=X8.keep g811 (by simp;omega);have O11:=zAB O8 g811 (fun k hk=>by have:=V8 k hk;simp;omega);have O12:=zAB O11 (Ch.alloc [] w11 (.cells #[.int .i64 ix] 3)) (by simp);have X12:=X11.keep (Ch.alloc [] w11 (.cells #[.int .i64 ix] 3)) (by simp);have x1'':=X11.cell 1 _ rfl;have hX11:=X11.lt;have V8x:=hide V8;clear x1' X9 h9 h10;have z8:=g8.size;have z811:=g811.size;go_wp2_with (at_builtin;refine zBj 50 3 1 8 (.int .i64 0) Tryz.underlying50 zKp rfl (by omega) (by omega) (by rfl) _ _ (by rfl) (.slice va' L.length vc') L.length _ (by rfl) O12 w11.heap.size [.int .i64 ix] (by rfl) (zAH _ _) rfl (by intro u hu;simp at hu;subst hu;rfl) (by omega) (w11.heap.size+1) (by simp) ?_;intro g cap w13 own13 gr13 hat13 hlt13;have X13:=X12.keep gr13 (by simp;intro e;have:=V8x.out _ e;omega);have x13:=X13.cell 1 _ rfl;have f13:=X13.frozen)
   have hg6:w7.heap.size≤g:=by
    rcases hat13 with e | e
    ·exact (V8 g e).1
    ·omega
   have nb:b∉(Value.slice va' L.length vc').ownBlock.toList:=by simp;intro e;have:=V8 _ e;omega
   have gX:Ch [X] w13 (w13.setCell ⟨X,1,none⟩ (.slice (some ⟨g,0,none⟩) (L.length+1) cap)):=Ch.setCell _ (by simp) _;have P13:=((h11.keep (Ch.alloc [] w11 (.cells #[.int .i64 ix] 3)) (by simp)).keep gr13 nb).keep gX (by simp;omega)
   have C13:Ch [b,X] w7 (w13.setCell ⟨X,1,none⟩ (.slice (some ⟨g,0,none⟩) (L.length+1) cap)):=by
    refine Ch.trans (((g8.trans (g811.mono (by simp))).trans (Ch.alloc _ _ _)).trans' gr13 (fun k hk=> ?_)) (gX.mono (by simp));simp at hk;exact Or.inr (V8 k hk).1
   have O13:=zAB own13 gX (fun k hk=>by simp [Value.ownBlock] at hk;subst hk;simp;omega);have Y13:=X13.set 1 (.slice (some ⟨g,0,none⟩) (L.length+1) cap)
   have Z13:g<(w13.setCell ⟨X,1,none⟩ (.slice (some ⟨g,0,none⟩) (L.length+1) cap)).heap.size:=by simp [World.setCell];omega
   generalize w13.setCell ⟨X,1,none⟩ (.slice (some ⟨g,0,none⟩) (L.length+1) cap)=w14 at *;have e1:=HY.out;have e2:=HP9.out;have e3:=HIX.out;have e4:=HRR.out;simp only [zAI] at e1 e2 P13;simp only [zBX] at e4;clear HY HP9 HIX HRR X13 x13 f13 h11
   cases hnm:zAn S s5 with
   |error D=>
    rw [hnm] at e4 P13;have P14:zAQ w14 b S D:=P13;have HRD:=hide e4;clear e1 e2 e3 e4 hnm;refine (zIG P14 _).mono ?_;rintro e w15 ⟨rfl,h15,g15⟩;have z15:=g15.size;go_wp2_with fail;go_roundw
    case rel=>exact ⟨C13.trans (g15.mono (by simp)),_,L.length+1,_,Y13.keep g15 (by simp;omega),zAB O13 g15 (fun k hk=>by simp [Value.ownBlock] at hk;subst hk;simp;omega),by omega,fun k hk=>by simp [Value.ownBlock] at hk;subst hk;omega,Or.inr ⟨D,h15,HRD.out,_,rfl⟩⟩
    case measure=>rw [hm0.out,zFb,h15.penM];omega
   |ok p=>
    obtain ⟨⟨y',p'⟩,s6⟩:=p;obtain ⟨n1,n2,n3,_⟩:=zEN hi8 hnm;rw [hnm] at e1 e4 P13;have e5:=e2 y' p' s6 hnm;subst e5;simp only [valD] at e1;subst e1;subst e3;simp only [stX,mapX] at P13;simp only at e4;have i1:=(zA2 (decide (zAP (zBF sv) y'<0)) 5 p' (sayS (decide (3≤(L.length:Int))) 3 p' s6)).1;rw [(zA2 (decide (3≤(L.length:Int))) 3 p' s6).1] at i1;generalize sayS (decide (zAP (zBF sv) y'<0)) 5 p' (sayS (decide (3≤(L.length:Int))) 3 p' s6)=s7 at *;have P14:zAJ w14 b S s7 (-1) nest:=P13.1
    have l7:s5.i<s7.i∧s7.i≤S.size:=by rw [i1];omega
    have l8:=zAV isBl S s7.i l7.2;generalize zAP (zBF sv) y'=iy at *;clear e2 hnm i1;refine (zGk P14 _ (by omega) hS l7.2).mono ?_;rintro e w15 ⟨rfl,h15,g15⟩;have z15:=g15.size
    by_cases h59:bt S (run isBl S s7.i)=59
    ·have HRD:Hid (rr= .ok (L++[iy],s7.skip S)):=by show _=_;rw [e4];simp [h59]
     have q59:(bt S (run isBl S s7.i)==59)=true:=by simp [h59]
     clear h59 e4;go_wp2_with fail;go_roundw
     case rel=>exact ⟨C13.trans (g15.mono (by simp)),_,L.length+1,_,Y13.keep g15 (by simp;omega),zAB O13 g15 (fun k hk=>by simp [Value.ownBlock] at hk;subst hk;simp;omega),by omega,fun k hk=>by simp [Value.ownBlock] at hk;subst hk;omega,Or.inl ⟨L++[iy],s7.skip S,h15,l8.2,by simp,by simp,Or.inr ⟨rfl,HRD.out⟩⟩⟩
     case measure=>rw [hm0.out,zLa];omega
    ·have HRD:Hid (rr=zBX S (zBF sv) m (s7.skip S) (L++[iy])):=by show _=_;rw [e4];simp [h59]
     have q59:(bt S (run isBl S s7.i)==59)=false:=by simp [h59]
     clear h59 e4;go_wp2_with fail;go_roundw
     case rel=>exact ⟨C13.trans (g15.mono (by simp)),_,L.length+1,_,Y13.keep g15 (by simp;omega),zAB O13 g15 (fun k hk=>by simp [Value.ownBlock] at hk;subst hk;simp;omega),by omega,fun k hk=>by simp [Value.ownBlock] at hk;subst hk;omega,Or.inl ⟨L++[iy],s7.skip S,h15,l8.2,by simp,by simp,Or.inl ⟨rfl,by simp only [St.skip];omega,m,by simp only [St.skip];omega,HRD.out⟩⟩⟩
     case measure=>rw [hm0.out,zFb,h15.penM];simp only;omega
  ·obtain ⟨va',vc',rfl⟩:=zAD O8
   have HRR:=hide hrr;clear hrr;obtain ⟨c0',c1',c2',c3',c4',c5',c6',fz'⟩:=h8.facts;go_wp2_with fail;refine (zCd (σ:= .ok s5) ⟨h8,hi8⟩ hS _ (by omega)).mono ?_;rintro e W ⟨rfl,PW,g8W⟩;clear c0' c1' c2' c3' c4' c5' c6' fz';have XW:=X8.keep g8W (by simp;omega);have gW:Ch [b] w W:=(g17.trans' g8 (by intro k hk;simp at hk;rcases hk with rfl | rfl;exact Or.inl (by simp);exact Or.inr (by omega))).trans g8W;have z8:=g8.size
   have FINAL:=hide (zI4 (S:=S) hp gW hlo hbl hn (x:=x) (vr:= .slice va' L.length vc') PW (r:=r) (by
    have e:=RB.out;rw [HRR.out] at e;simp only at e
    cases hs:zAG S 59 s5 with
    |error d=>rw [hs] at e;exact Or.inr ⟨d,e,by simp [zAI,hs]⟩
    |ok s6=>
     rw [hs] at e;refine Or.inl ⟨_,s6,fun k=>(Value.slice va' L.length vc').ownBlock=some k,e,by simp [zAI,hs],rfl,⟨fun g hg=>hg,zAB O8 g8W (fun k hk=>by have:=V8 k hk;simp;omega)⟩,?_⟩;intro k hk;have:=g8W.size
     have:=V8 k hk;omega))
   clear RB PW HRR V8 g8W h8 X8 O8;have hpW:=hp.keep gW;have dW:=hpW.blk.cell 1 _ rfl;have dfW:=hpW.blk.frozen;have y0:=XW.cell 0 _ rfl;have y1:=XW.cell 1 _ rfl;have gAl:Ch [] W (W.drew.alloc (.cells #[.string x,.slice va' L.length vc'] 52)):=(Ch.drew [] W).trans (Ch.alloc _ _ _);have OWN:=zAB hpW.rc gAl (by simp);have BLK:=hpW.blk.keep gAl (by simp);have bal:=(hpW.blk.keep (Ch.alloc [] W (.cells #[.string x,.slice va' L.length vc'] 52)) (by simp)).cell 1 _ rfl;have NEW:(W.drew.alloc (.cells #[.string x,.slice va' L.length vc'] 52)).heap[W.heap.size]? =some (.cells [.string x,.slice va' L.length vc'].toArray 52):=zAH W.drew _
   have ZN:(W.drew.alloc (.cells #[.string x,.slice va' L.length vc'] 52)).heap.size=W.heap.size+1:=by show (W.heap.push _).size=_;simp
   have NDD:Hid (d∉(Value.slice a0 cv.length c0).ownBlock.toList):=by show ¬_;simp;intro e;exact (hp.bc d e).2.2.1 rfl
   go_wp2_with fail
   go_region_law ((refine zBb 38 52 2 40 (.agg #[.string ⟨#[]⟩,.slice none 0 0]) Tryz.underlying38 zIu rfl (by omega) (by omega) (by rfl) _ _ (by rfl) (.slice a0 cv.length c0) cv.length (zAT cv) (by rfl) OWN W.heap.size [.string x,.slice va' L.length vc'] (by rfl) NEW rfl (by intro u hu;simp at hu;rcases hu with rfl | rfl <;>rfl) (by omega) (W.heap.size+1) ZN ?_;intro g cap w7 own7 gr7 hat7 hlt7;have B7:=BLK.keep gr7 NDD.out;have b70:=B7.cell 1 _ rfl;have b7f:=B7.frozen))
   all_goals
    go_wp2_with fail
    go_end0
    exact FINAL.out _ _ _ own7 gr7 hat7
  ·obtain ⟨va',vc',rfl⟩:=zAD O8
   have HRR:=hide hrr;clear hrr;obtain ⟨s8',nest8,p8,hi8⟩:=id h8;obtain ⟨c0',c1',c2',c3',c4',c5',c6',fz'⟩:=p8.facts
   have hd:¬(D:Int)<0:=by omega
   cases q
   all_goals
    go_wp2_with fail;refine (zDn h8 _).mono ?_;rintro e W ⟨rfl,PW,g8W⟩;clear c0' c1' c2' c3' c4' c5' c6' fz' p8;have XW:=X8.keep g8W (by simp;omega);have gW:Ch [b] w W:=(g17.trans' g8 (by intro k hk;simp at hk;rcases hk with rfl | rfl;exact Or.inl (by simp);exact Or.inr (by omega))).trans g8W
    have FINAL:=hide (zI4 (S:=S) hp gW hlo hbl hn (x:=x) (vr:= .slice va' n0 vc') (nest:=nest) (τ:= .error D) PW (r:=r) (by
     have e:=RB.out;rw [HRR.out] at e
     exact Or.inr ⟨D,e,rfl⟩))
    clear RB PW HRR V8 g8W h8 X8 O8;have hpW:=hp.keep gW;have dW:=hpW.blk.cell 1 _ rfl;have dfW:=hpW.blk.frozen;have y0:=XW.cell 0 _ rfl;have y1:=XW.cell 1 _ rfl;have gAl:Ch [] W (W.drew.alloc (.cells #[.string x,.slice va' n0 vc'] 52)):=(Ch.drew [] W).trans (Ch.alloc _ _ _);have OWN:=zAB hpW.rc gAl (by simp);have BLK:=hpW.blk.keep gAl (by simp);have bal:=(hpW.blk.keep (Ch.alloc [] W (.cells #[.string x,.slice va' n0 vc'] 52)) (by simp)).cell 1 _ rfl;have NEW:(W.drew.alloc (.cells #[.string x,.slice va' n0 vc'] 52)).heap[W.heap.size]? =some (.cells [.string x,.slice va' n0 vc'].toArray 52):=zAH W.drew _
    have ZN:(W.drew.alloc (.cells #[.string x,.slice va' n0 vc'] 52)).heap.size=W.heap.size+1:=by show (W.heap.push _).size=_;simp
    have NDD:Hid (d∉(Value.slice a0 cv.length c0).ownBlock.toList):=by show ¬_;simp;intro e;exact (hp.bc d e).2.2.1 rfl
    go_wp2_with fail
    go_region_law ((refine zBb 38 52 2 40 (.agg #[.string ⟨#[]⟩,.slice none 0 0]) Tryz.underlying38 zIu rfl (by omega) (by omega) (by rfl) _ _ (by rfl) (.slice a0 cv.length c0) cv.length (zAT cv) (by rfl) OWN W.heap.size [.string x,.slice va' n0 vc'] (by rfl) NEW rfl (by intro u hu;simp at hu;rcases hu with rfl | rfl <;>rfl) (by omega) (W.heap.size+1) ZN ?_;intro g cap w7 own7 gr7 hat7 hlt7;have B7:=BLK.keep gr7 NDD.out;have b70:=B7.cell 1 _ rfl;have b7f:=B7.frozen))
    all_goals
     go_wp2_with fail
     go_end0
     exact FINAL.out _ _ _ own7 gr7 hat7
end Go.Proofs.YteobgfbgglfkbaaGreat
namespace Go.Proofs.YteobgfbgglfkbaaGreat
open Go.RowKit
attribute [local go_sem ↓] Go.wp_at_zero Go.wp_at_succ
def zD4(s:St):St:={s with k:=0}
def zC6(S:ByteArray)(c:Int)(s:St):Except Nat St:=if bt S s.i=c then .ok {s with i:=s.i+1} else .error s.i
theorem must_x{w:World}{b:Nat}{S:ByteArray}{nest:Int}{σ:Except Nat St}(h:PS w b S nest σ)(hS:S.size≤400)(c:Int)(hc:0≤c):
  Calls Tryz.prog 63 #[.pointer (some ⟨b,0,none⟩),.int .u8 c] w fun e w'=>e= .returned (.tuple #[])∧PS w' b S nest (zAI σ (zC6 S c))∧Ch [b] w w':=by
 cases σ with
 |ok s=>
  by_cases hq:bt S s.i=c
  ·refine (zDk h.1 c hc hS hq).mono ?_
   rintro r w' ⟨rfl,h1,g1⟩;have:=zAu (S:=S) (i:=s.i) (by omega);refine ⟨rfl,?_,g1⟩;simp only [zAI,zC6,hq,if_true];exact ⟨h1,this⟩
  ·refine (zGt h.1 c hc hS h.2 hq).mono ?_
   rintro r w' ⟨rfl,h1,g1⟩;refine ⟨rfl,?_,g1⟩;simp only [zAI,zC6,hq,if_false];exact h1
 |error d=>exact zEJ h c
theorem PS.zero{w:World}{b:Nat}{S:ByteArray}{nest:Int}{σ:Except Nat St}(h:PS w b S nest σ):(∃v,w.cell? ⟨b,5,none⟩=some v)∧w.frozen? ⟨b,5,none⟩=false∧PS (w.setCell ⟨b,5,none⟩ (.int .i64 0)) b S nest (mapX σ zD4):=by
 cases σ with
 |ok s=>exact ⟨⟨_,h.1.facts.2.2.2.2.2.1⟩,h.1.facts.2.2.2.2.2.2.2 5,h.1.set.2.2.2.2.1 0,h.2⟩
 |error d=>
  obtain ⟨s,n,p,hi⟩:=h;exact ⟨⟨_,p.facts.2.2.2.2.2.1⟩,p.facts.2.2.2.2.2.2.2 5,⟨{s with k:=0},n,p.set.2.2.2.2.1 0,hi⟩⟩
def zDS(S:ByteArray)(s:St):Except Nat (Lang×St):=zAM S (S.size+1) 0 (zD4 s)
theorem either_x{w:World}{b:Nat}{S:ByteArray}{σ:Except Nat St}(h:PS w b S ((0:Nat):Int) (mapX σ zD4))(hS:S.size≤400):
  Calls Tryz.prog 62 #[.pointer (some ⟨b,0,none⟩)] w fun e w'=>∃nb,e= .returned (.pointer (some ⟨nb,0,none⟩))∧(∀L s',zAI σ (zDS S)= .ok (L,s')→∃hh F,zBA w' F hh nb L∧∀k,F k→w.heap.size≤k∧k<w'.heap.size)∧PS w' b S ((0:Nat):Int) (stX (zAI σ (zDS S)))∧Ch [b] w w':=by
 cases σ with
 |ok s=>
  have hv:Inv S (zD4 s) 0:=⟨h.2,by simp [zD4],by simp [zD4],by omega⟩;refine (zH4 hS (S.size+1) w b (zD4 s) 0 h.1 hv (by omega)).mono ?_;rintro e w' ⟨g1,⟨L,s',nb,hh,F,hr,rfl,h1,R1,F1,m1,I1⟩ | ⟨D,nb,hr,rfl,h1⟩⟩
  ·refine ⟨nb,rfl,fun L' s'' e=> ?_,?_,g1⟩
   ·simp only [zAI,zDS] at e
    rw [hr] at e;simp at e;rw [← e.1];exact ⟨hh,F,R1,F1⟩
   ·simp only [zAI,zDS,hr]
    exact ⟨h1,I1.i⟩
  ·refine ⟨nb,rfl,fun L' s'' e=> ?_,?_,g1⟩
   ·simp only [zAI,zDS] at e
    rw [hr] at e;cases e
   ·simp only [zAI,zDS,hr]
    exact h1
 |error d=>
  refine (zK5 h).mono ?_;rintro e w' ⟨⟨nb,rfl⟩,h1,g1⟩;exact ⟨nb,rfl,fun L' s'' e=>(by cases e),h1,g1⟩
def zBH(S:ByteArray)(nc:List ByteArray)(cnt:Nat)(never:Bool)(at1:Int)(s:St):Except Nat (zAU×St):=
 match zAd S nc (sayS (decide (6≤(cnt:Int))) 3 at1 s) with
 |.error d=> .error d
 |.ok (i1,s1)=>
  if never then
   match zAG S 47 s1 with
   |.error d=> .error d
   |.ok s2=>
    match zDS S s2 with
    |.error d=> .error d
    |.ok (L,s3)=>
     match zC6 S 47 s3 with
     |.error d=> .error d
     |.ok s4=>
      match zAG S 59 s4 with
      |.error d=> .error d
      |.ok s5=> .ok (⟨true,i1,0,L,s3.k⟩,s5)
  else
   match zAd S nc s1 with
   |.error d=> .error d
   |.ok (i2,s2)=>
    match zAG S 59 s2 with
    |.error d=> .error d
    |.ok s3=> .ok (⟨false,i1,i2,fun _=>False,0⟩,s3)
def zE3(w:World)(lo b d:Nat)(S:ByteArray)(nest:Int)(vs vc _va:Value)(sv:List (zAE×Value))(cv:List (zAS×Value))(av:List (zAU×Value))(r:Except Nat (zAU×St))(e:Ending)(w':World):Prop:=
 e= .returned (.tuple #[])∧Below lo w w'∧((∃D s' vr F' va',r= .ok (D,s')∧zAJ w' b S s' (-1) nest∧s'.i≤S.size∧zCh w' lo b d F' vs vc va' sv cv (av++[(D,vr)]))∨(∃Dd,r= .error Dd∧zAQ w' b S Dd))
theorem zI5{w W:World}{lo b d:Nat}{S:ByteArray}{nest:Int}{F:Nat→Prop}{a0:Option Addr}{c0:Nat}{vs vc:Value}{sv:List (zAE×Value)}{cv:List (zAS×Value)}{av:List (zAU×Value)}(hp:zCh w lo b d F vs vc (.slice a0 av.length c0) sv cv av)(gW:Ch [b] w W)(hlo:lo≤b)(hbl:b<w.heap.size)(hn:av.length<450)
  {nv:Bool} {i1 i2:Int} {vr:Value} {τ:Except Nat St} (PW:PS W b S nest τ) {r:Except Nat (zAU×St)}
  (hr:(∃D s' G,r= .ok (D,s')∧τ= .ok s'∧D.never=nv∧D.of1=i1∧D.of2=i2∧zDf W G vr D∧(∀k,G k→w.heap.size≤k∧k<W.heap.size))∨(∃Dd,r= .error Dd∧τ= .error Dd)):
  ∀(g cap:Nat) (w7:World),w7.ownsRow 0 49 4 (.slice (some ⟨g,0,none⟩) (av.length+1) cap) (av.length+1) (zCa av++[.bool nv,.int .i64 i1,.int .i64 i2,vr])→Ch (Value.slice a0 av.length c0).ownBlock.toList (W.drew.alloc (.cells #[.bool nv,.int .i64 i1,.int .i64 i2,vr] 49)) w7→((Value.slice a0 av.length c0).ownBlock=some g∨g=W.heap.size+1)→
   zE3 w lo b d S nest vs vc (.slice a0 av.length c0) sv cv av r (.returned (.tuple #[])) (w7.setCell ⟨d,2,none⟩ (.slice (some ⟨g,0,none⟩) (av.length+1) cap)):=by
 intro g cap w7 own7 gr7 hat7;have gA:Ch [] W (W.drew.alloc (.cells #[.bool nv,.int .i64 i1,.int .i64 i2,vr] 49)):=(Ch.drew [] W).trans (Ch.alloc _ _ _);have gB:Ch [b] w (W.drew.alloc (.cells #[.bool nv,.int .i64 i1,.int .i64 i2,vr] 49)):=gW.trans (gA.mono (by simp));have hpB:=hp.keep gB
 have zA:(W.drew.alloc (.cells #[.bool nv,.int .i64 i1,.int .i64 i2,vr] 49)).heap.size=W.heap.size+1:=by
  show (W.heap.push _).size=_;simp
 have zW:=gW.size
 have nb:b∉(Value.slice a0 av.length c0).ownBlock.toList:=by simp;intro e;exact (hp.ba b e).2.1 rfl
 have gD:Ch [d] w7 (w7.setCell ⟨d,2,none⟩ (.slice (some ⟨g,0,none⟩) (av.length+1) cap)):=Ch.setCell _ (by simp) _;have P7:PS (w7.setCell ⟨d,2,none⟩ (.slice (some ⟨g,0,none⟩) (av.length+1) cap)) b S nest τ:=((PW.keep gA (by simp)).keep gr7 nb).keep gD (by simpa using hp.bd);refine ⟨rfl,?_,?_⟩
 ·refine ((gB.below (by omega) (by simp;omega)).trans ((gr7.below (by omega) ?_).trans (gD.below (by have:=gr7.size;omega) (by simp;exact hp.dlo))))
  intro k hk;simp at hk;exact (hp.ba k hk).1
 ·rcases hr with ⟨D,s',G,rfl,rfl,rfl,rfl,rfl,hR,hG⟩ | ⟨Dd,rfl,rfl⟩
  ·refine Or.inl ⟨D,s',vr,fun k=>F k∨G k,.slice (some ⟨g,0,none⟩) (av.length+1) cap,rfl,P7.1,P7.2,?_⟩
   have hR':zDf (W.drew.alloc (.cells #[.bool D.never,.int .i64 D.of1,.int .i64 D.of2,vr] 49)) G vr D:=hR.frame (fun k hk=>gA.block k (hG k hk).2 (by simp)) (fun _ h=>h);refine hpB.addAsked (H:=W.heap.size+1) hn (fun k hk=> ?_) hR' own7 gr7 hat7 (by omega) (by omega) (by omega);have h1:=hG k hk;refine ⟨by omega,by omega,by omega,by have:=hp.blk.lt;omega,fun e=> ?_,fun e=> ?_,fun e=> ?_⟩
   ·have:=(hp.rs.lt k e).2;omega
   ·have:=(hp.rc.lt k e).2;omega
   ·have:=(hp.ra.lt k e).2;omega
  ·exact Or.inr ⟨Dd,rfl,P7⟩
set_option maxHeartbeats 3200000 in
theorem zHa{w:World}{lo b d:Nat}{S:ByteArray}{s:St}{F:Nat→Prop}{vs vc va:Value}{sv:List (zAE×Value)}{cv:List (zAS×Value)}{av:List (zAU×Value)}(h:zAJ w b S s (-1) ((0:Nat):Int))(hi:s.i≤S.size)(hS:S.size≤400)(hp:zCh w lo b d F vs vc va sv cv av)(hn:av.length<450)(hlo:lo≤b)(nv:Bool)(at1:Int):
  Calls Tryz.prog 33 #[.pointer (some ⟨b,0,none⟩),.pointer (some ⟨d,0,none⟩),.bool nv,.int .i64 at1] w (zE3 w lo b d S ((0:Nat):Int) vs vc va sv cv av (zBH S (zBG cv) av.length nv at1 s)):=by
 obtain ⟨a0,c0,rfl⟩:=zAD hp.ra;have d0:=hp.blk.cell 2 _ rfl;have hbl:=h.lt;go_enter Tryz.func33,Tryz.ntmps33;go_wp2_with fail;refine (zGY (σ:= .ok s) ⟨h,hi⟩ _ _ _).mono ?_;rintro e w1 ⟨rfl,h1,g1⟩;simp only [mapX] at h1;have RE:=hide (show zBH S (zBG cv) av.length nv at1 s=_ from by unfold zBH;rfl);generalize hr:zBH S (zBG cv) av.length nv at1 s=r at *;clear hr;generalize sayS (decide (6≤(av.length:Int))) 3 at1 s=s1 at *;have hp1:=hp.keep g1;clear d0;go_wp2_with fail;refine (zNq h1 hS hp1).mono ?_;rintro e w3 ⟨i1,rfl,hi1,h3,g3⟩;have HI1:=hide hi1;clear hi1;have g13:=g1.trans g3;have hp3:=hp.keep g13;have zX:=g13.size;have bX:=h3.lt;have dX:=hp3.blk.lt;have h4:=h3.keep (Ch.alloc [] w3 (.cells #[.bool nv,.int .i64 i1,.int .i64 0,.pointer none] 49)) (by simp);have X4:=zAC.new w3 #[.bool nv,.int .i64 i1,.int .i64 0,.pointer none] 49;have g14:Ch [b] w (w3.alloc (.cells #[.bool nv,.int .i64 i1,.int .i64 0,.pointer none] 49)):=g13.trans (Ch.alloc _ _ _);generalize hσ3:stX (zAI (.ok s1) (zAd S (zBG cv)))=σ3 at *
 cases nv with
 |true=>
  have RB:Hid (r=match zAI (zAI σ3 (zAG S 47)) (zDS S) with
    |.error d=> .error d
    |.ok (L,s3)=>match zAI (zC6 S 47 s3) (zAG S 59) with | .error d=> .error d | .ok s5=> .ok (⟨true,i1,0,L,s3.k⟩,s5)):=by
   show _=_
   rw [RE.out,← hσ3];have e1:=HI1.out;simp only [zAI] at e1 ⊢
   cases hk:zAd S (zBG cv) s1 with
   |error d=>rfl
   |ok p=>
    obtain ⟨j1,s2⟩:=p;have:=e1 j1 s2 hk;subst this;simp only [stX,if_true]
    cases zAG S 47 s2 with
    |error d=>rfl
    |ok s3=>
     simp only
     cases zDS S s3 with
     |error d=>rfl
     |ok p=>
      obtain ⟨L,s4⟩:=p;simp only
      cases zC6 S 47 s4 with
      |error d=>rfl
      |ok s5=>(try simp only);(try (cases zAG S 59 s5 <;>rfl))
  clear RE HI1 hσ3 h1 h3 hp1 hp3 g1 g3 g13;go_wp2_with fail;generalize w3.alloc (.cells #[.bool true,.int .i64 i1,.int .i64 0,.pointer none] 49)=w4 at *;generalize hX:w3.heap.size=X at *;have HX:=hide hX;clear hX;refine (zCd h4 hS _ (by omega)).mono ?_;rintro e w5 ⟨rfl,h5,g5⟩;generalize hσ5:zAI σ3 (zAG S 47)=σ5 at *;clear hσ5;obtain ⟨⟨k5,q5⟩,f5,h6⟩:=h5.zero;have g56:Ch [b] w4 (w5.setCell ⟨b,5,none⟩ (.int .i64 0)):=g5.trans (Ch.setCell _ (by simp) _);go_wp2_with fail;clear q5 f5;generalize w5.setCell ⟨b,5,none⟩ (.int .i64 0)=w6 at *;refine (either_x h6 hS).mono ?_;rintro e w7 ⟨nb,rfl,hnb,h7,g7⟩;have g47:=g56.trans g7;have z47:=g47.size;have z56:=g56.size;have zX4:=X4.lt;have X7:=X4.keep g47 (by simp;omega);have x3':=X7.cell 3 _ rfl;have xf:=X7.frozen;have X8:=X7.set 3 (.pointer (some ⟨nb,0,none⟩));have h8:=h7.keep (Ch.setCell (X:=[X]) w7 (p:=⟨X,3,none⟩) (by simp) (.pointer (some ⟨nb,0,none⟩))) (by simp;omega);have g18:Ch [b] w (w7.setCell ⟨X,3,none⟩ (.pointer (some ⟨nb,0,none⟩))):=(g14.trans g47).setCell_new (Or.inr zX) _
  have HNB:Hid (∀L s',zAI σ5 (zDS S)= .ok (L,s')→∃hh F,zBA (w7.setCell ⟨X,3,none⟩ (.pointer (some ⟨nb,0,none⟩))) F hh nb L∧∀k,F k→X<k∧k<(w7.setCell ⟨X,3,none⟩ (.pointer (some ⟨nb,0,none⟩))).heap.size):=by
   intro L s' e;obtain ⟨hh,F',R,FF⟩:=hnb L s' e;refine ⟨hh,F',R.frame (fun k hk=>Below.heap_setCell _ _ _ _ (by have:=FF k hk;simp;omega)) (fun _ h=>h),fun k hk=> ?_⟩;have:=FF k hk;exact ⟨by omega,by simp [World.setCell];omega⟩
  clear hnb;go_wp2_with fail;clear x3' xf
  have b8:(w7.setCell ⟨X,3,none⟩ (.pointer (some ⟨nb,0,none⟩))).heap.size=w7.heap.size:=by simp [World.setCell]
  generalize w7.setCell ⟨X,3,none⟩ (.pointer (some ⟨nb,0,none⟩))=w8 at *;refine (must_x h8 hS _ (by omega)).mono ?_;rintro e w9 ⟨rfl,h9,g9⟩;go_wp2_with fail;refine (zCd h9 hS _ (by omega)).mono ?_;rintro e W ⟨rfl,PW,g10⟩;have g8W:Ch [b] w8 W:=g9.trans g10;have XW:=X8.keep g8W (by simp;omega);have gW:Ch [b] w W:=g18.trans g8W
  have FINAL:=hide (zI5 (S:=S) hp gW hlo hbl hn (nv:=true) (i1:=i1) (i2:=0) (vr:= .pointer (some ⟨nb,0,none⟩)) PW (r:=r) (by
   have e:=RB.out;have e2:=HNB.out
   cases hx:zAI σ5 (zDS S) with
   |error D=>rw [hx] at e;exact Or.inr ⟨D,e,by simp [stX,zAI]⟩
   |ok p=>
    obtain ⟨L,s3⟩:=p;rw [hx] at e;simp only at e;simp only [stX,zAI]
    cases hm:zC6 S 47 s3 with
    |error D=>rw [hm] at e;exact Or.inr ⟨D,e,rfl⟩
    |ok s4=>
     rw [hm] at e;simp only [zAI] at e ⊢
     cases hs:zAG S 59 s4 with
     |error D=>rw [hs] at e;exact Or.inr ⟨D,e,rfl⟩
     |ok s5=>
      rw [hs] at e;obtain ⟨hh,F',R,FF⟩:=e2 L s3 hx;refine Or.inl ⟨_,s5,F',e,rfl,rfl,rfl,rfl,Or.inl ⟨rfl,nb,hh,rfl,R.frame (fun k hk=>g8W.block k (FF k hk).2 (by have:=(FF k hk).1;simp;omega)) (fun _ h=>h)⟩,?_⟩;intro k hk;have:=FF k hk;have:=g8W.size
      omega))
  clear RB HNB PW g8W g9 g10 h9 h8 X8;have hpW:=hp.keep gW;have dW:=hpW.blk.cell 2 _ rfl;have dfW:=hpW.blk.frozen;have y0:=XW.cell 0 _ rfl;have y1:=XW.cell 1 _ rfl;have y2:=XW.cell 2 _ rfl;have y3:=XW.cell 3 _ rfl;have gAl:Ch [] W (W.drew.alloc (.cells #[.bool true,.int .i64 i1,.int .i64 0,.pointer (some ⟨nb,0,none⟩)] 49)):=(Ch.drew [] W).trans (Ch.alloc _ _ _);have OWN:=zAB hpW.ra gAl (by simp);have BLK:=hpW.blk.keep gAl (by simp);have bal:=(hpW.blk.keep (Ch.alloc [] W (.cells #[.bool true,.int .i64 i1,.int .i64 0,.pointer (some ⟨nb,0,none⟩)] 49)) (by simp)).cell 2 _ rfl;have NEW:(W.drew.alloc (.cells #[.bool true,.int .i64 i1,.int .i64 0,.pointer (some ⟨nb,0,none⟩)] 49)).heap[W.heap.size]? =some (.cells [.bool true,.int .i64 i1,.int .i64 0,.pointer (some ⟨nb,0,none⟩)].toArray 49):=zAH W.drew _
  have ZN:(W.drew.alloc (.cells #[.bool true,.int .i64 i1,.int .i64 0,.pointer (some ⟨nb,0,none⟩)] 49)).heap.size=W.heap.size+1:=by show (W.heap.push _).size=_;simp
  have NDD:Hid (d∉(Value.slice a0 av.length c0).ownBlock.toList):=by show ¬_;simp;intro e;exact (hp.ba d e).2.2.1 rfl
  go_wp2_with fail
  go_region_law ((refine zBb 39 49 4 32 (.agg #[.bool false,.int .i64 0,.int .i64 0,.pointer none]) Tryz.underlying39 zJu rfl (by omega) (by omega) (by rfl) _ _ (by rfl) (.slice a0 av.length c0) av.length (zCa av) (by rfl) OWN W.heap.size [.bool true,.int .i64 i1,.int .i64 0,.pointer (some ⟨nb,0,none⟩)] (by rfl) NEW rfl (by intro u hu;simp at hu;rcases hu with rfl | rfl | rfl | rfl <;>rfl) (by omega) (W.heap.size+1) ZN ?_;intro g cap w7 own7 gr7 hat7 hlt7;have B7:=BLK.keep gr7 NDD.out;have b70:=B7.cell 2 _ rfl;have b7f:=B7.frozen))
  all_goals
   go_wp2_with fail
   go_end0
   exact FINAL.out _ _ _ own7 gr7 hat7
 |false=>
  have RB:Hid (r=match zAI σ3 (zAd S (zBG cv)) with
    |.error d=> .error d
    |.ok (i2,s2)=>match zAG S 59 s2 with | .error d=> .error d | .ok s3=> .ok (⟨false,i1,i2,fun _=>False,0⟩,s3)):=by
   show _=_
   rw [RE.out,← hσ3];have e1:=HI1.out;simp only [zAI] at e1 ⊢
   cases hk:zAd S (zBG cv) s1 with
   |error d=>rfl
   |ok p=>
    obtain ⟨j1,s2⟩:=p;have:=e1 j1 s2 hk;subst this
    try rfl
  have hp4:=hp.keep g14;clear RE HI1 hσ3 h1 h3 hp1 hp3 g1 g3 g13;go_wp2_with fail;generalize w3.alloc (.cells #[.bool false,.int .i64 i1,.int .i64 0,.pointer none] 49)=w4 at *;generalize hX:w3.heap.size=X at *;have HX:=hide hX;clear hX;refine (zNq h4 hS hp4).mono ?_;rintro e w5 ⟨i2,rfl,hi2,h5,g5⟩;have HI2:=hide hi2;clear hi2;have zX4:=X4.lt;have X5:=X4.keep g5 (by simp;omega);have x2':=X5.cell 2 _ rfl;have xf:=X5.frozen;have X6:=X5.set 2 (.int .i64 i2);have h6:=h5.keep (Ch.setCell (X:=[X]) w5 (p:=⟨X,2,none⟩) (by simp) (.int .i64 i2)) (by simp;omega);have g16:Ch [b] w (w5.setCell ⟨X,2,none⟩ (.int .i64 i2)):=(g14.trans g5).setCell_new (Or.inr zX) _;go_wp2_with fail;clear x2' xf;generalize w5.setCell ⟨X,2,none⟩ (.int .i64 i2)=w6 at *;refine (zCd h6 hS _ (by omega)).mono ?_;rintro e W ⟨rfl,PW,g6W⟩;have XW:=X6.keep g6W (by simp;omega);have gW:Ch [b] w W:=g16.trans g6W
  have FINAL:=hide (zI5 (S:=S) hp gW hlo hbl hn (nv:=false) (i1:=i1) (i2:=i2) (vr:= .pointer none) PW (r:=r) (by
   have e:=RB.out;have e2:=HI2.out
   cases hx:zAI σ3 (zAd S (zBG cv)) with
   |error D=>rw [hx] at e;exact Or.inr ⟨D,e,by simp [stX,zAI]⟩
   |ok p=>
    obtain ⟨j2,s3⟩:=p;have:=e2 j2 s3 hx;subst this;rw [hx] at e;simp only at e;simp only [stX,zAI]
    cases hs:zAG S 59 s3 with
    |error D=>rw [hs] at e;exact Or.inr ⟨D,e,rfl⟩
    |ok s5=>
     rw [hs] at e
     exact Or.inl ⟨_,s5,fun _=>False,e,rfl,rfl,rfl,rfl,Or.inr ⟨rfl,rfl⟩,by simp⟩))
  clear RB HI2 PW g6W h6 X6;have hpW:=hp.keep gW;have dW:=hpW.blk.cell 2 _ rfl;have dfW:=hpW.blk.frozen;have y0:=XW.cell 0 _ rfl;have y1:=XW.cell 1 _ rfl;have y2:=XW.cell 2 _ rfl;have y3:=XW.cell 3 _ rfl;have gAl:Ch [] W (W.drew.alloc (.cells #[.bool false,.int .i64 i1,.int .i64 i2,.pointer none] 49)):=(Ch.drew [] W).trans (Ch.alloc _ _ _);have OWN:=zAB hpW.ra gAl (by simp);have BLK:=hpW.blk.keep gAl (by simp);have bal:=(hpW.blk.keep (Ch.alloc [] W (.cells #[.bool false,.int .i64 i1,.int .i64 i2,.pointer none] 49)) (by simp)).cell 2 _ rfl;have NEW:(W.drew.alloc (.cells #[.bool false,.int .i64 i1,.int .i64 i2,.pointer none] 49)).heap[W.heap.size]? =some (.cells [.bool false,.int .i64 i1,.int .i64 i2,.pointer none].toArray 49):=zAH W.drew _
  have ZN:(W.drew.alloc (.cells #[.bool false,.int .i64 i1,.int .i64 i2,.pointer none] 49)).heap.size=W.heap.size+1:=by show (W.heap.push _).size=_;simp
  have NDD:Hid (d∉(Value.slice a0 av.length c0).ownBlock.toList):=by show ¬_;simp;intro e;exact (hp.ba d e).2.2.1 rfl
  go_wp2_with fail
  go_region_law ((refine zBb 39 49 4 32 (.agg #[.bool false,.int .i64 0,.int .i64 0,.pointer none]) Tryz.underlying39 zJu rfl (by omega) (by omega) (by rfl) _ _ (by rfl) (.slice a0 av.length c0) av.length (zCa av) (by rfl) OWN W.heap.size [.bool false,.int .i64 i1,.int .i64 i2,.pointer none] (by rfl) NEW rfl (by intro u hu;simp at hu;rcases hu with rfl | rfl | rfl | rfl <;>rfl) (by omega) (W.heap.size+1) ZN ?_;intro g cap w7 own7 gr7 hat7 hlt7;have B7:=BLK.keep gr7 NDD.out;have b70:=B7.cell 2 _ rfl;have b7f:=B7.frozen))
  all_goals
   go_wp2_with fail
   go_end0
   exact FINAL.out _ _ _ own7 gr7 hat7
end Go.Proofs.YteobgfbgglfkbaaGreat
namespace Go.Proofs.YteobgfbgglfkbaaGreat
open Go.RowKit
attribute [local go_sem ↓] Go.wp_at_zero Go.wp_at_succ
theorem zJ2{S:ByteArray}:∀n (s:St) R R' s',s.i≤S.size→zBV S n s R= .ok (R',s')→s.i≤s'.i∧s'.i≤S.size:=by
 intro n
 induction n with
 |zero=>intro s R R' s' _ h;cases h
 |succ n ih=>
  intro s R R' s' hi h;have l1:=zAV isBl S s.i hi;unfold zBV at h
  split at h
  ·split at h
   ·cases h
   ·rename_i L P s1 hp
    have b:=zIM (by rw [(zA2 _ _ _ _).1];exact l1.2) hp;rw [(zA2 _ _ _ _).1] at b;simp only [St.skip] at b;have:=ih _ _ _ _ b.2 h;omega
  ·simp at h
   rw [← h.2];simp only [St.skip];omega
theorem zLg{S:ByteArray}{s s':St}{q:ByteArray×ByteArray}(hi:s.i≤S.size)(h:zCN S s= .ok (q,s')):s.i≤s'.i∧s'.i≤S.size:=by
 unfold zCN at h
 split at h
 ·cases h
 ·rename_i p s1 h1
  have b1:=zGC hi h1
  split at h
  ·cases h
  ·rename_i x a s2 h2
   have b2:=zF6 b1.2 h2
   split at h
   ·cases h
   ·rename_i y c s3 h3
    have b3:=zF6 (by rw [(zA2 _ _ _ _).1];exact b2.2.2.1) h3;rw [(zA2 _ _ _ _).1] at b3
    split at h
    ·cases h
    ·rename_i s4 h4
     have b4:=zBc (by rw [(zA2 _ _ _ _).1];exact b3.2.2.1) (by omega) h4;rw [(zA2 _ _ _ _).1] at b4;simp at h;rw [← h.2];omega
theorem bodyR_le{S:ByteArray}{x:ByteArray}{s s':St}{q:zAE}(hi:s.i≤S.size)(h:zCy S x s= .ok (q,s')):s.i≤s'.i∧s'.i≤S.size:=by
 have l1:=zAV isBl S s.i hi;unfold zCy at h
 split at h
 ·split at h
  ·cases h
  ·rename_i s3 h3
   have b3:=zBc (s:=s.skip S) l1.2 (by omega) h3;simp only [St.skip] at b3
   split at h
   ·cases h
   ·rename_i R s4 h4
    have b4:=zJ2 _ _ _ _ _ b3.2.1 h4
    split at h
    ·cases h
    ·rename_i s5 h5
     have b5:=zBc b4.2 (by omega) h5;simp at h;rw [← h.2];omega
 ·split at h
  ·cases h
  ·rename_i a c s3 h3
   have b3:=zLg (s:=s.skip S) l1.2 h3;simp only [St.skip] at b3;simp at h;rw [← h.2];omega
theorem zJb{S:ByteArray}{ns nc:List ByteArray}{at1:Int}{s s':St}{q:zAE}(hi:s.i≤S.size)(h:zBs S ns nc at1 s= .ok (q,s')):s.i≤s'.i∧s'.i≤S.size:=by
 unfold zBs at h
 split at h
 ·cases h
 ·rename_i x a s1 h1
  have b1:=zEN (by rw [(zA2 _ _ _ _).1];exact hi) h1;rw [(zA2 _ _ _ _).1] at b1;have b2:=bodyR_le (by rw [(zA2 _ _ _ _).1];exact b1.2.2.1) h;rw [(zA2 _ _ _ _).1] at b2;omega
theorem zOa{S:ByteArray}{ns:List ByteArray}:∀n (s:St) L L' s',s.i≤S.size→zBX S ns n s L= .ok (L',s')→s.i≤s'.i∧s'.i≤S.size:=by
 intro n
 induction n with
 |zero=>intro s L L' s' _ h;cases h
 |succ n ih=>
  intro s L L' s' hi h;unfold zBX at h
  split at h
  ·cases h
  ·rename_i y p s1 h1
   have b1:=zEN hi h1
   have e:(sayS (decide (zAP ns y<0)) 5 p (sayS (decide (3≤(L.length:Int))) 3 p s1)).i=s1.i:=by rw [(zA2 _ _ _ _).1,(zA2 _ _ _ _).1]
   generalize sayS (decide (zAP ns y<0)) 5 p (sayS (decide (3≤(L.length:Int))) 3 p s1)=s2 at *;have l2:=zAV isBl S s2.i (by omega)
   split at h
   ·simp at h
    rw [← h.2];simp only [St.skip];omega
   ·have:=ih _ _ _ _ (by simp only [St.skip];omega) h
    simp only [St.skip] at this;omega
theorem zJp{S:ByteArray}{ns nc:List ByteArray}{at1:Int}{s s':St}{q:zAS}(hi:s.i≤S.size)(h:zBu S ns nc at1 s= .ok (q,s')):s.i≤s'.i∧s'.i≤S.size:=by
 unfold zBu at h
 split at h
 ·cases h
 ·rename_i x a s1 h1
  have b1:=zEN (by rw [(zA2 _ _ _ _).1];exact hi) h1;rw [(zA2 _ _ _ _).1] at b1
  split at h
  ·cases h
  ·rename_i s2 h2
   have b2:=zBc (by rw [(zA2 _ _ _ _).1];exact b1.2.2.1) (by omega) h2;rw [(zA2 _ _ _ _).1] at b2
   split at h
   ·cases h
   ·rename_i L s3 h3
    have b3:=zOa _ _ _ _ _ b2.2.1 h3
    split at h
    ·cases h
    ·rename_i s4 h4
     have b4:=zBc b3.2 (by omega) h4;simp at h;rw [← h.2];omega
theorem zJX{S:ByteArray}{nc:List ByteArray}{s s':St}{i:Int}(hi:s.i≤S.size)(h:zAd S nc s= .ok (i,s')):s.i≤s'.i∧s'.i≤S.size:=by
 unfold zAd at h
 split at h
 ·cases h
 ·rename_i x a s1 h1
  have b1:=zEN hi h1;simp at h;rw [← h.2,(zA2 _ _ _ _).1];omega
theorem zNY{S:ByteArray}{L:Lang}{s:St}(hi:s.i≤S.size):s.i≤(zAh S L s).2.i∧(zAh S L s).2.i≤S.size:=by
 unfold zAh
 split
 ·have:=zAu (S:=S) (i:=s.i) (by omega);simp only;omega
 ·split
  ·have:=zAu (S:=S) (i:=s.i) (by omega);simp only;omega
  ·split
   ·have:=zAu (S:=S) (i:=s.i) (by omega);simp only;omega
   ·simp only;omega
theorem baseR_le{E:St→Except Nat (Lang×St)}{S:ByteArray}{d:Nat}(hE:∀s L s',s.i≤S.size→E s= .ok (L,s')→s.i≤s'.i∧s'.i≤S.size){s s':St}{L:Lang}(_hi:s.i≤S.size)(h:zBN E S d s= .ok (L,s')):s.i<s'.i∧s'.i≤S.size:=by
 have e1:=(zA2 (decide (12<s.k+1)) 3 s.i {s with k:=s.k+1}).1;rw [zLN E S d s _ rfl] at h;generalize sayS (decide (12<s.k+1)) 3 s.i {s with k:=s.k+1}=s1 at *;simp only at e1
 split at h
 ·have:=zAu (S:=S) (i:=s1.i) (by omega)
  simp at h;rw [← h.2];simp only;omega
 ·split at h
  ·split at h
   ·rename_i L2 s2 h2
    have:=zDQ h2;simp at h;rw [← h.2];omega
   ·cases h
  ·split at h
   ·have l1:=zAu (S:=S) (i:=s1.i) (by omega)
    split at h
    ·cases h
    ·rename_i L3 s3 h3
     have:=hE _ _ _ (by simp only;omega) h3;simp only at this
     split at h
     ·have:=zAu (S:=S) (i:=s3.i) (by omega)
      simp at h;rw [← h.2];simp only;omega
     ·cases h
   ·split at h
    ·rename_i c s2 h2
     have:=zA0 (by omega) h2;simp at h;rw [← h.2];omega
    ·cases h
theorem rowF_le{B:St→Except Nat (Lang×St)}{S:ByteArray}(hB:∀s L s',s.i≤S.size→B s= .ok (L,s')→s.i<s'.i∧s'.i≤S.size):∀n (s:St) R L s',s.i≤S.size→rowF B S n s R= .ok (L,s')→s.i≤s'.i∧s'.i≤S.size:=by
 intro n
 induction n with
 |zero=>intro s R L s' _ h;cases h
 |succ n ih=>
  intro s R L s' hi h;unfold rowF at h
  split at h
  ·simp at h
   rw [← h.2];omega
  ·split at h
   ·cases h
   ·rename_i L1 s1 h1
    have b1:=hB _ _ _ hi h1;have b2:=zNY (L:=L1) b1.2;have:=ih _ _ _ _ b2.2 h;omega
theorem altF_le{R:St→Except Nat (Lang×St)}{S:ByteArray}(hR:∀s L s',s.i≤S.size→R s= .ok (L,s')→s.i≤s'.i∧s'.i≤S.size):∀n (s:St) Q L s',s.i≤S.size→altF R S n s Q= .ok (L,s')→s.i≤s'.i∧s'.i≤S.size:=by
 intro n
 induction n with
 |zero=>intro s Q L s' _ h;cases h
 |succ n ih=>
  intro s Q L s' hi h;unfold altF at h
  split at h
  ·cases h
  ·rename_i L1 s1 h1
   have b1:=hR _ _ _ hi h1
   split at h
   ·have l1:=zAu (S:=S) (i:=s1.i) (by omega)
    have:=ih _ _ _ _ (by simp only;omega) h;simp only at this;omega
   ·simp at h
    rw [← h.2];omega
theorem zHn{S:ByteArray}:∀n d (s:St) L s',s.i≤S.size→zAM S n d s= .ok (L,s')→s.i≤s'.i∧s'.i≤S.size:=by
 intro n
 induction n with
 |zero=>intro d s L s' _ h;cases h
 |succ n ih=>
  intro d s L s' hi h;unfold zAM at h;exact altF_le (fun s L s' hi h=>rowF_le (fun s L s' hi h=>baseR_le (fun s L s' hi h=>ih (d+1) s L s' hi h) hi h) _ _ _ _ _ hi h) _ _ _ _ _ hi h
theorem mustR_ok{S:ByteArray}{c:Int}{s s':St}(hc:0≤c)(h:zC6 S c s= .ok s'):s.i<s'.i∧s'.i≤S.size:=by
 unfold zC6 at h
 split at h
 ·have:=zAu (S:=S) (i:=s.i) (by omega)
  simp at h;rw [← h];simp only;omega
 ·cases h
theorem zGi{S:ByteArray}{nc:List ByteArray}{cnt:Nat}{nv:Bool}{at1:Int}{s s':St}{q:zAU}(hi:s.i≤S.size)(h:zBH S nc cnt nv at1 s= .ok (q,s')):s.i≤s'.i∧s'.i≤S.size:=by
 unfold zBH at h
 split at h
 ·cases h
 ·rename_i i1 s1 h1
  have b1:=zJX (by rw [(zA2 _ _ _ _).1];exact hi) h1;rw [(zA2 _ _ _ _).1] at b1
  split at h
  ·split at h
   ·cases h
   ·rename_i s2 h2
    have b2:=zBc b1.2 (by omega) h2
    split at h
    ·cases h
    ·rename_i L s3 h3
     have b3:=zHn _ _ (zD4 s2) _ _ b2.2.1 h3;simp only [zD4] at b3
     split at h
     ·cases h
     ·rename_i s4 h4
      have b4:=mustR_ok (by omega) h4
      split at h
      ·cases h
      ·rename_i s5 h5
       have b5:=zBc b4.2 (by omega) h5;simp at h;rw [← h.2];omega
  ·split at h
   ·cases h
   ·rename_i i2 s2 h2
    have b2:=zJX b1.2 h2
    split at h
    ·cases h
    ·rename_i s3 h3
     have b3:=zBc b2.2 (by omega) h3;simp at h;rw [← h.2];omega
end Go.Proofs.YteobgfbgglfkbaaGreat
namespace Go.Proofs.YteobgfbgglfkbaaGreat
open Go.RowKit
def zCT:ByteArray:=⟨#[115,99,114,117,98]⟩
def zCS:ByteArray:=⟨#[99,104,97,105,110]⟩
def zB4:ByteArray:=⟨#[110,101,118,101,114]⟩
def zEz:ByteArray:=⟨#[115,97,109,101]⟩
def zCs:List ByteArray:=[zCT,zCS,zB4,zEz]
def zA7(S:ByteArray)(x:ByteArray)(at1:Int)(D:PolD)(s:St):Except Nat (PolD×St):=
 if zBK x zCT then
  match zBs S (D.scrubs.map (·.name)) (D.chains.map (·.name)) at1 s with
  |.error d=> .error d
  |.ok (q,s2)=> .ok ({D with scrubs:=D.scrubs++[q]},s2)
 else if zBK x zCS then
  match zBu S (D.scrubs.map (·.name)) (D.chains.map (·.name)) at1 s with
  |.error d=> .error d
  |.ok (q,s2)=> .ok ({D with chains:=D.chains++[q]},s2)
 else
  match zBH S (D.chains.map (·.name)) D.asked.length (zBK x zB4) at1 s with
  |.error d=> .error d
  |.ok (q,s2)=> .ok ({D with asked:=D.asked++[q]},s2)
def zBe(S:ByteArray):Nat→St→PolD→Except Nat (PolD×St)
 |0,s,_=> .error s.i
 |n+1,s,D=>
  if s.i<S.size then
   match zAw S zCs s with
   |.error d=> .error d
   |.ok ((x,p),s1)=>
    match zA7 S x p D s1 with
    |.error d=> .error d
    |.ok (D',s2)=>zBe S n (s2.skip S) D'
  else .ok (D,s)
def st0:St:=⟨0,0,0,0⟩
def polR(S:ByteArray):Except Nat (PolD×St):=zBe S (S.size+1) (st0.skip S) ⟨[],[],[]⟩
def endE{α:Type}(r:Except Nat (α×St)):Int×Int:=
 match r with
 |.error d=>(2,d)
 |.ok (_,s)=>if s.e=0 then (0,0) else (s.e,s.a)
def zAz(S:ByteArray):Int×Int:=if 400<S.size then (1,0) else endE (polR S)
def zCC(S:ByteArray):Except Nat (Lang×St):=
 match zAM S (S.size+1) 0 st0 with
 |.error d=> .error d
 |.ok (L,s)=>if s.i<S.size then .error s.i else .ok (L,s)
def zBz(S:ByteArray):Int×Int:=if 400<S.size then (1,0) else endE (zCC S)
end Go.Proofs.YteobgfbgglfkbaaGreat
