import Derived.Test.YteobgfbgglfkbaaGreatAT9
set_option maxHeartbeats 6400000
set_option maxRecDepth 100000
namespace Go.Proofs.YteobgfbgglfkbaaGreat
open Go.RowKit
attribute [local go_sem ↓] Go.wp_at_zero Go.wp_at_succ
def Zp(sv:List (zH×Value))(i:Int):zH×Value:=match sv[i.toNat]? with|some p=>p|none=>(⟨ByteArray.empty,false,ByteArray.empty,ByteArray.empty,[]⟩,.slice none 0 0)
def Yx(cv:List (zZ×Value))(i:Int):List Int:=match cv[i.toNat]? with|some p=>p.1.scrubs|none=>[]
def jr(sv:List (zH×Value))(cv:List (zZ×Value))(L:List Int):List (zH×Value):=L.flatMap fun i=>(Yx cv i).map (Zp sv)
theorem Tm{sv:List (zH×Value)}{i:Int}(h:0<=i/\i<sv.length):sv[i.toNat]? =some (Zp sv i):=by
 have:i.toNat<sv.length:=by omega
 simp[Zp,List.getElem?_eq_getElem this]
theorem Kz(sv:List (zH×Value))(L:List Int):(L.map (Zp sv)).map (fun p=>p.1)=zt (sv.map fun p=>p.1) L:=by
 simp only[zt,List.map_map]
 refine List.map_congr_left fun i _=> ?_
 simp only[Function.comp,Zp,Vj,List.getElem?_map]
 cases sv[i.toNat]? <;>rfl
theorem XE{sv:List (zH×Value)}{cv:List (zZ×Value)}(h:∀p,p∈cv->p.1.scrubs.length<=3):∀L:List Int,(jr sv cv L).length<=3 * L.length
 |[]=>by simp[jr]
 |i:: L=>by
  have:=XE (sv:=sv) h L
  have e:(Yx cv i).length<=3:=by
   unfold Yx
   cases hc:cv[i.toNat]? with
   |none=>simp
   |some p=>exact h p (List.mem_of_getElem? hc)
  simp only[jr,List.flatMap_cons,List.length_append,List.length_map,List.length_cons]at *;omega
theorem Tr:(Tryz.prog.info? 118).map (fun i=>(i.zero,i.size,i.bytes))=some (some (.agg #[.string ⟨#[]⟩,.int .i64 0,.slice none 0 0,.string ⟨#[]⟩,.string ⟨#[]⟩]),5,80):=by kernel_rfl
theorem Cn(sv:List (zH×Value))(p:zH×Value):jp (sv++[p])=jp sv++[.string p.1.name,.int .i64 (if p.1.swap then 1 else 0),p.2,.string p.1.one,.string p.1.two]:=by simp[jp]
theorem BI{w:World}{lo b:Nat}{F:Nat->Prop}{v0 v1 v2:Value}{sv:List (zH×Value)}{cv:List (zZ×Value)}{av:List (ze×Value×Value)}(hp:yZ w lo b F v0 v1 v2 sv cv av){vc:Value}{L:List Int}(hvc:j9 w F vc L)(hL2:L.length<=2)(hL:∀i,i∈L->0<=i/\i<cv.length)(hch:∀p,p∈cv->jM sv.length p.1.scrubs):
 Calls Tryz.prog 133 #[.agg #[v0,v1,v2],vc] w fun e w'=>∃u,e= .returned u/\Jo w' F u (jr sv cv L)/\(∀q,u.ownBlock=some q->w.heap.size<=q)/\Ch [] w w':=by
 obtain⟨a0,c0,rfl⟩:=zQ hp.rs;obtain⟨a1,c1,rfl⟩:=zQ hp.rc;obtain⟨a2,c2,rfl⟩:=zQ hp.ra;obtain⟨ac,cc,rfl⟩:=zQ hvc.2;have g0:=Ch.alloc [] w (.cells #[.slice a0 sv.length c0,.slice a1 cv.length c1,.slice a2 av.length c2] 65);have P0:=zE.new w #[.slice a0 sv.length c0,.slice a1 cv.length c1,.slice a2 av.length c2] 65
 have z0:(w.alloc (.cells #[.slice a0 sv.length c0,.slice a1 cv.length c1,.slice a2 av.length c2] 65)).heap.size=w.heap.size+1:=by simp
 have HP:=zC hp;have HVC:=zC hvc;have HL:=zC hL;have HCH:=zC hch;have HP0:=zC P0;clear hp hvc hL hch P0;generalize hw0:w.alloc (.cells #[.slice a0 sv.length c0,.slice a1 cv.length c1,.slice a2 av.length c2] 65)=w0 at *;go_enter Tryz.func133,Tryz.ntmps133;go_wp2_with fail
 go_loopw [5,12] (fun lv iv w5=>∃j:Nat,iv= .int .i64 j/\j<=L.length/\Hd (Jo w5 F lv (jr sv cv (L.take j))/\(∀q,lv.ownBlock=some q->w0.heap.size<=q)/\Ch [] w0 w5)) (fun _ iv _=>L.length - (intOf iv).toNat)
 case atStart=>exact⟨0,rfl,by omega,by show _/\_;exact⟨⟨⟨rfl,Or.inl ⟨rfl,rfl⟩⟩,by intro p hp;simp[jr]at hp⟩,by intro q hq;simp[Value.ownBlock]at hq,Ch.refl _ _⟩⟩
 case round=>
  generalize wr=w5 at *;obtain⟨j,rfl,hj,H5⟩:=hrel
  by_cases hlt:(j:Int)<L.length
  ·have hj2:j<L.length:=by omega
   have hj0:(0:Int)<=j:=by omega
   have G5:Ch [] w w5:=g0.trans H5.o.2.2;obtain⟨i,hi⟩:∃i,L[j]? =some i:=⟨_,List.getElem?_eq_getElem hj2⟩;have hir:=HL.o i (List.mem_of_getElem? hi);obtain⟨n,rfl⟩:∃n:Nat,i=(n:Int):=⟨i.toNat,by omega⟩
   have hn2:n<cv.length:=by omega
   obtain⟨⟨ch,vs⟩,hc⟩:∃p,cv[n]? =some p:=⟨_,List.getElem?_eq_getElem hn2⟩;have RV:=zJ HVC.o.2 G5 (by simp)
   obtain⟨gv,hgv⟩:∃g,ac=some ⟨g,0,none⟩:=by
    rcases RV.2 with⟨_,h0⟩|⟨g,cap,cur,h,_⟩
    ·omega
    ·injection h with h
     exact⟨g,h⟩
   subst hgv;have RC:=zJ HP.o.rc G5 (by simp)
   obtain⟨gc,hgc⟩:∃g,a1=some ⟨g,0,none⟩:=by
    rcases RC.2 with⟨_,h0⟩|⟨g,cap,cur,h,_⟩
    ·omega
    ·injection h with h
     exact⟨g,h⟩
   subst hgc;have hl1:=RV.1;have hl2:=RC.1
   have k0:w5.cell? ⟨gv,j,none⟩=some (.int .i64 n):=by rw[RV.cellAt j (by omega)];simp[hi]
   have hcr:=HP.o.pc _ (List.mem_of_getElem? hc);obtain⟨sa,sc,hvs⟩:=zQ hcr.2;simp only at hvs;subst hvs;have hcc:=XC cv n _ hc
   have k1:w5.cell? ⟨gc,n * 2+1,none⟩=some (.slice sa ch.scrubs.length sc):=by rw[RC.cellAt (n * 2+1) (by omega)];exact hcc.2
   have B5:=HP0.o.kp H5.o.2.2 (by simp);have k2:=B5.cl 1 (.slice (some ⟨gc,0,none⟩) cv.length c1) rfl
   have hn0:(0:Int)<=n:=by omega
   have hn1:(n:Int)<cv.length:=by omega
   have hco:=HCH.o _ (List.mem_of_getElem? hc);have HCO:=zC hco;have hcl:ch.scrubs.length<=3:=hco.1
   have HTK:Hd (jr sv cv (L.take (j+1))=jr sv cv (L.take j)++ch.scrubs.map (Zp sv)):=by
    show _=_
    obtain⟨h1,h2⟩:=List.getElem?_eq_some_iff.1 hi;rw[List.take_succ_eq_append_getElem h1,h2];simp only[jr,List.flatMap_append,List.flatMap_cons,List.flatMap_nil,List.append_nil];simp[Yx,hc]
   have hbase:(jr sv cv (L.take j)).length<=100\/True:=Or.inr trivial;have HCR:=zC hcr.2;have hpl:=XE (sv:=sv) (fun p hp=>(HCH.o p hp).1) (L.take j);rw[List.length_take]at hpl;clear RV RC hcr hcc B5 hco hbase;go_wp2_with fail;clear k0 k1 k2
   go_loopw [5,23] (fun lv iv w6=>∃k:Nat,iv= .int .i64 k/\k<=ch.scrubs.length/\Hd (Jo w6 F lv (jr sv cv (L.take j)++(ch.scrubs.take k).map (Zp sv))/\(∀q,lv.ownBlock=some q->w0.heap.size<=q)/\Ch [] w0 w6)) (fun _ iv _=>ch.scrubs.length - (intOf iv).toNat)
   case atStart=>exact⟨0,rfl,by omega,by show _/\_;exact⟨by simpa using H5.o.1,H5.o.2.1,H5.o.2.2⟩⟩
   case round=>
    generalize wr=w6 at *;obtain⟨k,rfl,hk,H6⟩:=hrel;have G6:Ch [] w w6:=g0.trans H6.o.2.2
    by_cases hlt6:(k:Int)<ch.scrubs.length
    ·have hk2:k<ch.scrubs.length:=by omega
     have hk0:(0:Int)<=k:=by omega
     obtain⟨t,ht⟩:∃t,ch.scrubs[k]? =some t:=⟨_,List.getElem?_eq_getElem hk2⟩;have htr:=HCO.o.2 t (List.mem_of_getElem? ht);have hpt:=Tm htr
     have HTT:Hd (jr sv cv (L.take j)++(ch.scrubs.take (k+1)).map (Zp sv)=(jr sv cv (L.take j)++(ch.scrubs.take k).map (Zp sv))++[Zp sv t]):=by
      show _=_
      obtain⟨h1,h2⟩:=List.getElem?_eq_some_iff.1 ht;rw[List.take_succ_eq_append_getElem h1,h2,List.map_append,<- List.append_assoc];rfl
     obtain⟨m,rfl⟩:∃m:Nat,t=(m:Int):=⟨t.toNat,by omega⟩;generalize Zp sv (m:Int)=pp at *;obtain⟨D,vr⟩:=pp;rw[Int.toNat_natCast]at hpt;have RS:=zJ HP.o.rs G6 (by simp)
     obtain⟨gs,hgs⟩:∃g,a0=some ⟨g,0,none⟩:=by
      rcases RS.2 with⟨_,h0⟩|⟨g,cap,cur,h,_⟩
      ·omega
      ·injection h with h
       exact⟨g,h⟩
     subst hgs;have RI:=zJ HCR.o G6 (by simp)
     obtain⟨gi,hgi⟩:∃g,sa=some ⟨g,0,none⟩:=by
      rcases RI.2 with⟨_,h0⟩|⟨g,cap,cur,h,_⟩
      ·omega
      ·injection h with h
       exact⟨g,h⟩
     subst hgi;have hl3:=RS.1;have hl4:=RI.1;have GR:=HP.o.ps _ (List.mem_of_getElem? hpt)
     obtain⟨ra,rc,rn,hvr⟩:∃a c n,vr= .slice a n c:=by
      obtain⟨_,rv,_,h0,_⟩:=GR;obtain⟨a,c,h⟩:=zQ h0;exact⟨a,c,_,h⟩
     subst hvr;obtain⟨sw,hsw⟩:∃sw:Int,(if D.swap then(1:Int)else 0)=sw:=⟨_,rfl⟩;have cells:=Q4 sv m _ hpt;have m0:(m:Int)<sv.length:=htr.2;have m1:(0:Int)<=m:=htr.1
     have q0:w6.cell? ⟨gi,k,none⟩=some (.int .i64 m):=by rw[RI.cellAt k (by omega)];simp[ht]
     have B6:=HP0.o.kp H6.o.2.2 (by simp);have q1:=B6.cl 0 (.slice (some ⟨gs,0,none⟩) sv.length c0) rfl
     have x0:w6.cell? ⟨gs,m * 5,none⟩=some (.string D.name):=by rw[RS.cellAt (m * 5) (by omega)];exact cells.1
     have x1:w6.cell? ⟨gs,m * 5+1,none⟩=some (.int .i64 sw):=by rw[RS.cellAt (m * 5+1) (by omega),<- hsw];exact cells.2.1
     have x2:w6.cell? ⟨gs,m * 5+2,none⟩=some (.slice ra rn rc):=by rw[RS.cellAt (m * 5+2) (by omega)];exact cells.2.2.1
     have x3:w6.cell? ⟨gs,m * 5+3,none⟩=some (.string D.one):=by rw[RS.cellAt (m * 5+3) (by omega)];exact cells.2.2.2.1
     have x4:w6.cell? ⟨gs,m * 5+4,none⟩=some (.string D.two):=by rw[RS.cellAt (m * 5+4) (by omega)];exact cells.2.2.2.2
     have e1:IntKind.i64.wrap ((k:Int)+1)=((k+1:Nat):Int):=by rw[IntKind.wrap_i64];omega
     obtain⟨na,nc,hns⟩:=zQ H6.o.1.1;generalize hMM:jr sv cv (L.take j)++(ch.scrubs.take k).map (Zp sv)=MM at *;subst hns
     have hMl:MM.length<=20:=by rw[<- hMM,List.length_append,List.length_map,List.length_take];omega
     have gA:=Ch.alloc [] w6 (.cells #[.string D.name,.int .i64 sw,.slice ra rn rc,.string D.one,.string D.two] 118);have OA:=zJ H6.o.1.1 gA (by simp);have HGA:=zC (H6.o.2.2.trans gA);have V6:=zC H6.o.2.1;have HPS:=zC H6.o.1.2;have HGR:=zC GR;have z6:=H6.o.2.2.size;have HSW:=zC hsw;clear RS RI cells B6 gA GR hMM hsw;go_wp2_with (at_builtin;refine YZ 61 118 5 80 (.agg #[.string ⟨#[]⟩,.int .i64 0,.slice none 0 0,.string ⟨#[]⟩,.string ⟨#[]⟩]) Tryz.underlying61 Tr rfl (by omega) (by omega) (by rfl) _ _ (by rfl) (.slice na MM.length nc) MM.length _ (by rfl) OA w6.heap.size [.string D.name,.int .i64 sw,.slice ra rn rc,.string D.one,.string D.two] (by rfl) (zr _ _) rfl (by intro u hu;simp at hu;rcases hu with rfl|rfl|rfl|rfl|rfl <;>rfl) (by omega) (w6.heap.size+1) (by simp) ?_;intro g8 cap8 w8 own8 gr8 hat8 hlt8)
     have FIN:Hd (Jo w8 F (.slice (some ⟨g8,0,none⟩) (MM.length+1) cap8) (MM++[(D,.slice ra rn rc)])/\(∀q,(Value.slice (some ⟨g8,0,none⟩) (MM.length+1) cap8).ownBlock=some q->w0.heap.size<=q)/\Ch [] w0 w8):=by
      have CH:Ch [] w0 w8:=HGA.o.trans' gr8 (fun y hy=>Or.inr (V6.o y (by simpa using hy)));refine⟨⟨?_,fun p hp=> ?_⟩,fun y hy=> ?_,CH⟩
      ·rw[Cn,List.length_append,List.length_singleton]
       simp only[HSW.o];exact own8
      ·have cw:Ch [] w w8:=g0.trans CH
       have memb:p∈MM\/p=(D,.slice ra rn rc):=by simpa using hp
       rcases memb with h|h
       ·have hin:=HPS.o p h
        exact hin.frame (fun x hx=>by rw[cw.block x (HP.o.f x hx).2.1 (by simp),G6.block x (HP.o.f x hx).2.1 (by simp)]) (fun _ h=>h)
       ·rw[h]
        exact HGR.o.kp cw
      ·have e:g8=y:=by simpa[Value.ownBlock]using hy
       subst e
       rcases hat8 with h|h
       ·exact V6.o _ h
       ·omega
     rw[show(MM++[(D,Value.slice ra rn rc)])=_ from HTT.o.symm]at FIN;go_roundw
     case rel=>exact⟨k+1,by simp,by omega,FIN⟩
     case measure=>simp[intOf];omega
    ·have e:k=ch.scrubs.length:=by omega
     subst e;have HC:=H6.o;rw[List.take_length,<- HTK.o]at HC;have HCx:=zC HC
     have e1:IntKind.i64.wrap ((j:Int)+1)=((j+1:Nat):Int):=by rw[IntKind.wrap_i64];omega
     clear H6 HC;go_wp2_with fail;exact⟨⟨j+1,by simp,by omega,by show _/\_;exact⟨HCx.o.1,HCx.o.2.1,HCx.o.2.2⟩⟩,by simp[intOf];omega⟩
  ·have e:j=L.length:=by omega
   subst e;have HC:=H5.o;rw[List.take_length]at HC;have HCx:=zC HC;clear H5 HC;go_wp2_with fail;go_ret;exact⟨_,rfl,HCx.o.1,fun q hq=>by have:=HCx.o.2.1 q hq;omega,g0.trans HCx.o.2.2⟩
theorem TS{W:World}{ops:Array Oper}{rest:List Oper}{o:Oper}{a:Act}{Q:Exit->Act->World->Prop}(T E:TypeId)(size bytes:Nat)(z:Value)(hT:Tryz.prog.underlying T=some (.slice E))(hinfo:(Tryz.prog.info? E).map (fun i=>(i.zero,i.size,i.bytes))=some (some z,size,bytes))(hzs:z.cells.size=size)(hsz:0<size)(hby:bytes<=4096)(hgd:o.guard=none)(sx xx:Operand)(ho:o.op= .call {callee:= .builtin .append,args:= #[sx,xx],argTypes:= #[T,T]})
 (v u:Value) (n m:Nat) (xs ys:List Value) (hs:a.eval sx=v) (hx:a.eval xx=u) (h:W.ownsRow 0 E size v n xs) (h':W.ownsRow 0 E size u m ys) (h1:∀y,y∈ys->y.oneCell'=true) (hl:n+m<=16777216)
 (hK:∀v' w',w'.ownsRow 0 E size v' (n+m) (xs++ys)->Ch v.ownBlock.toList W w'->(v'.ownBlock=v.ownBlock\/∀q,v'.ownBlock=some q->W.heap.size<=q)->wpList Tryz.prog ops Q rest (a.put o.dst v') w'):wpList Tryz.prog ops Q (o:: rest) a W:=by
 obtain⟨i,hi,hz0,hz1,hz2⟩:=info_parts hinfo
 by_cases h0:m=0
 ·subst h0
  have hys:ys=[]:=by have:=h'.1;exact List.length_eq_zero_iff.1 (by omega)
  subst hys;obtain⟨ad,c,hu⟩:=zQ h';rw[hu]at hx
  refine wpList_plain hgd fun K' hK'=> ?_
  have hrun:=Al (ty:=o.type) hT hi h ad c;unfold Oper.wp;simp[execOp,ho,resolve,invoke,builtin,hs,hx,hrun,Result.andThen];exact hK' _ _ (hK v W (by rw[List.append_nil];exact h) (Ch.refl _ _) (Or.inl rfl))
 ·obtain⟨g',cap',hu⟩:∃g cap,u= .slice (some ⟨g,0,none⟩) m cap:=by
   rcases h'.2 with⟨_,h1⟩|⟨g,cap,cur,h,_⟩
   ·exact absurd h1 h0
   ·exact⟨g,cap,h⟩
  subst hu;have hb:(n+m) * bytes<=16777216 * 4096:=Nat.mul_le_mul hl hby;refine wpList_append_lies W hgd sx xx T ho 0 E i z size bytes hT hi hz0 hz1 hz2 hzs hsz v n xs hs h ⟨g',0,none⟩ m cap' ys hx h'.1 (fun j x hj=> ?_) h1 (by omega) (by simp only[maxLen];omega) (by omega) (Nat.zero_le _) W.heap.size rfl (fun g cap w' own gr hat _=> ?_)
  ·have hjl:j<m * size:=by
    have:=(List.getElem?_eq_some_iff.1 hj).1
    rwa [h'.1]at this
   have ea:(⟨g',0,none⟩:Addr).add j=⟨g',j,none⟩:=by unfold Addr.add;split <;>simp_all
   rw[ea,h'.cellAt j hjl,hj]
  ·refine hK _ w' own (Ch.grown gr) ?_
   rcases hat with h1|h1
   ·exact Or.inl (by rw[h1];rfl)
   ·exact Or.inr (fun q hq=>by have e:g=q:=(by simpa[Value.ownBlock]using hq);omega)
theorem O0:(Tryz.prog.info? 312).map (fun i=>(i.zero,i.size,i.bytes))=some (some (.agg #[.int .i64 0,.string ⟨#[]⟩]),2,24):=by kernel_rfl
theorem TU(P:List (Int×ByteArray)):∀u,u∈jn P->u.oneCell'=true:=by
 intro u hu;obtain⟨p,_,h⟩:=List.mem_flatMap.1 hu;simp at h
 rcases h with rfl|rfl <;>rfl
theorem TC(P Q:List (Int×ByteArray)):jn (P++Q)=jn P++jn Q:=by simp[jn]
theorem Nq{w:World}{F:Nat->Prop}{D:zH}{vr:Value}(hr:JO w F vr D.rules)(hok:∀r,r∈D.rules->jf r.o)(hR:D.rules.length<=6)(sw:Int):
 Calls Tryz.prog 186 #[.agg #[.string D.name,.int .i64 sw,vr,.string D.one,.string D.two]] w fun e w'=>∃u,e= .returned u/\w'.ownsRow 0 312 2 u (jc D).length (jn (jc D))/\(∀q,u.ownBlock=some q->w.heap.size<=q)/\Ch [] w w':=by
 obtain⟨hF1,rv,hrv,hrow,hrr⟩:=hr;obtain⟨ra,rc,rfl⟩:=zQ hrow
 have hrl:rv.length<=6:=by rw[hrv]at hR;simpa using hR
 have hPD:jc D=rv.flatMap fun p=>p.1.o:=by
  unfold jc;rw[hrv,List.flatMap_map]
 have hlen:∀i,i<=rv.length->((rv.take i).flatMap fun p=>p.1.o).length<=3 * i:=by
  intro i
  induction i with
  |zero=>intro _;simp
  |succ i ih=>
   intro hi;have:=ih (by omega);have ho:=hok rv[i].1 (by rw[hrv];exact List.mem_map.2 ⟨_,List.getElem_mem _,rfl⟩);have ho3:=ho.1;rw[List.take_succ_eq_append_getElem (by omega:i<rv.length),List.flatMap_append,List.length_append];simp only[List.flatMap_cons,List.flatMap_nil,List.append_nil];omega
 have g0:=Ch.alloc [] w (.cells #[.string D.name,.int .i64 sw,.slice ra rv.length rc,.string D.one,.string D.two] 118);have B0:=zE.new w #[.string D.name,.int .i64 sw,.slice ra rv.length rc,.string D.one,.string D.two] 118;have y2:=B0.cl 2 (.slice ra rv.length rc) rfl;have HROW:=zC hrow;have HRR:=zC hrr;have HPD:=zC hPD;have HLEN:=zC hlen;clear hF1 hrv hrow hrr hPD hlen hok hR B0;generalize hw0:w.alloc (.cells #[.string D.name,.int .i64 sw,.slice ra rv.length rc,.string D.one,.string D.two] 118)=w0 at *;have z0:=g0.size;go_enter Tryz.func186,Tryz.ntmps186;go_wp2_with fail
 go_loopw [3,9] (fun lv iv w9=>∃i:Nat,iv= .int .i64 i/\i<=rv.length/\Hd (w9.ownsRow 0 312 2 lv ((rv.take i).flatMap fun p=>p.1.o).length (jn ((rv.take i).flatMap fun p=>p.1.o))/\(∀q,lv.ownBlock=some q->w.heap.size<=q)/\Ch [] w w9)) (fun _ iv _=>rv.length - (intOf iv).toNat)
 case atStart=>exact⟨0,rfl,by omega,by show _/\_;exact⟨⟨rfl,Or.inl ⟨rfl,rfl⟩⟩,by intro q hq;simp[Value.ownBlock]at hq,g0⟩⟩
 case round=>
  generalize wr=w9 at *;obtain⟨i,rfl,hi,H9⟩:=hrel
  by_cases hlt9:(i:Int)<rv.length
  ·have hi2:i<rv.length:=by omega
   have hi0:(0:Int)<=i:=by omega
   obtain⟨⟨Rd,q,vp⟩,hp9⟩:∃p,rv[i]? =some p:=⟨_,List.getElem?_eq_getElem hi2⟩;have R9:=zJ HROW.o H9.o.2.2 (by simp)
   obtain⟨gr,hgr⟩:∃g,ra=some ⟨g,0,none⟩:=by
    rcases R9.2 with⟨_,h0⟩|⟨g,cap,cur,h,_⟩
    ·omega
    ·injection h with h
     exact⟨g,h⟩
   subst hgr;have PR:=(HRR.o _ (List.mem_of_getElem? hp9)).2.2;simp only at PR;obtain⟨pa,pc,hvp⟩:=zQ PR;subst hvp;have hl9:=R9.1;have cells9:=UK rv i _ hp9
   have r0:w9.cell? ⟨gr,i * 5,none⟩=some (.int .u64 (q 0)):=by rw[R9.cellAt (i * 5) (by omega)];exact cells9.1
   have r1:w9.cell? ⟨gr,i * 5+1,none⟩=some (.int .u64 (q 1)):=by rw[R9.cellAt (i * 5+1) (by omega)];exact cells9.2.1
   have r2:w9.cell? ⟨gr,i * 5+2,none⟩=some (.int .u64 (q 2)):=by rw[R9.cellAt (i * 5+2) (by omega)];exact cells9.2.2.1
   have r3:w9.cell? ⟨gr,i * 5+3,none⟩=some (.int .u64 (q 3)):=by rw[R9.cellAt (i * 5+3) (by omega)];exact cells9.2.2.2.1
   have r4:w9.cell? ⟨gr,i * 5+4,none⟩=some (.slice pa Rd.o.length pc):=by rw[R9.cellAt (i * 5+4) (by omega)];exact cells9.2.2.2.2
   have hL1:=HLEN.o (i+1) (by omega)
   have TK:(rv.take (i+1)).flatMap (fun p=>p.1.o)=(rv.take i).flatMap (fun p=>p.1.o)++Rd.o:=by
    obtain⟨h1,h2⟩:=List.getElem?_eq_some_iff.1 hp9;rw[List.take_succ_eq_append_getElem h1,h2];simp only[List.flatMap_append,List.flatMap_cons,List.flatMap_nil,List.append_nil]
   rw[TK,List.length_append]at hL1;have HTK:=zC TK;generalize hMM:(rv.take i).flatMap (fun p=>p.1.o)=MM at *;obtain⟨na,nc,hns⟩:=zQ H9.o.1;subst hns;have gA:=Ch.alloc [] w9 (.cells #[.int .u64 (q 0),.int .u64 (q 1),.int .u64 (q 2),.int .u64 (q 3),.slice pa Rd.o.length pc] 264);have BA:=zE.new w9 #[.int .u64 (q 0),.int .u64 (q 1),.int .u64 (q 2),.int .u64 (q 3),.slice pa Rd.o.length pc] 264;have t4:=BA.cl 4 (.slice pa Rd.o.length pc) rfl;have OA:=zJ H9.o.1 gA (by simp);have PA:=zJ PR (H9.o.2.2.trans gA) (by simp);have HGA:=zC (H9.o.2.2.trans gA);have V9:=zC H9.o.2.1;have z9:=H9.o.2.2.size
   have e1:IntKind.i64.wrap ((i:Int)+1)=((i+1:Nat):Int):=by rw[IntKind.wrap_i64];omega
   clear gA R9 cells9 hMM BA PR TK;generalize hwA:w9.alloc (.cells #[.int .u64 (q 0),.int .u64 (q 1),.int .u64 (q 2),.int .u64 (q 3),.slice pa Rd.o.length pc] 264)=wA at *;go_wp2_with (at_builtin;refine TS 262 312 2 24 (.agg #[.int .i64 0,.string ⟨#[]⟩]) Tryz.underlying262 O0 rfl (by omega) (by omega) (by rfl) _ _ (by rfl) (.slice na MM.length nc) (.slice pa Rd.o.length pc) MM.length Rd.o.length _ _ (by rfl) (by rfl) OA PA (TU Rd.o) (by omega) ?_;intro v8 w8 own8 gr8 hat8)
   have FIN:Hd (w8.ownsRow 0 312 2 v8 (MM++Rd.o).length (jn (MM++Rd.o))/\(∀q,v8.ownBlock=some q->w.heap.size<=q)/\Ch [] w w8):=by
    refine⟨by rw[TC,List.length_append];exact own8,fun y hy=> ?_,HGA.o.trans' gr8 (fun y hy=>Or.inr (V9.o y (by simpa using hy)))⟩
    rcases hat8 with h|h
    ·exact V9.o y (by rw[<- h];exact hy)
    ·have:=h y hy;have:=HGA.o.size;omega
   rw[<- HTK.o]at FIN;go_roundw
   case rel=>exact⟨i+1,by simp,by omega,FIN⟩
   case measure=>simp[intOf];omega
  ·have e:i=rv.length:=by omega
   subst e;have HC:=H9.o;rw[List.take_length,<- HPD.o]at HC;have HCx:=zC HC;clear H9 HC;go_wp2_with fail;go_ret;exact⟨_,rfl,HCx.o.1,HCx.o.2.1,HCx.o.2.2⟩
theorem S9{w:World}(k:Int)(s:ByteArray):Calls Tryz.prog 209 #[.agg #[.int .i64 k,.string s]] w fun e w'=>e= .returned (.bool (decide (k=2) || decide (k=3)))/\Ch [] w w':=by
 have g0:=Ch.alloc [] w (.cells #[.int .i64 k,.string s] 312);have B0:=zE.new w #[.int .i64 k,.string s] 312;have y0:=B0.cl 0 (.int .i64 k) rfl;clear B0;go_enter Tryz.func209,Tryz.ntmps209
 by_cases h2:k=2
 ·subst h2
  go_wp2_with fail;go_ret;exact⟨by simp,g0⟩
 ·by_cases h3:k=3
  ·subst h3
   go_wp2_with fail;go_ret;exact⟨by simp,g0⟩
  ·go_wp2_with fail
   go_ret;exact⟨by simp[h2,h3],g0⟩
theorem Ii{w:World}{v:Value}{P:List (Int×ByteArray)}(hR:w.ownsRow 0 312 2 v P.length (jn P))(hx:P.length<=1000){n:Nat}{p:Int×ByteArray->Bool}(hen:∀(args:Array Value) (W:World),Sem.run Tryz.prog (callFunc n args) W= .ok (.enter n args) W)(hp:∀W z,z∈P->Calls Tryz.prog n #[.agg #[.int .i64 (pk z.1),.string z.2]] W fun e w'=>e= .returned (.bool (p z))/\Ch [] W w'):
 Calls Tryz.prog 217 #[v,.func (.func n) #[] #[]] w fun e w'=>∃i:Int,e= .returned (.int .i64 i)/\(P.any p=true↔0<=i)/\Ch [] w w':=by
 obtain⟨a,k,rfl⟩:=zQ hR;have HR:=zC hR;have HP:=zC hp;clear hR hp;go_enter Tryz.func217,Tryz.ntmps217;go_wp2_with fail
 go_loopw [8] (fun iv w5=>∃j:Nat,iv= .int .i64 j/\j<=P.length/\Hd ((P.take j).any p=false/\Ch [] w w5)) (fun iv _=>P.length - (intOf iv).toNat)
 case atStart=>exact⟨0,rfl,Nat.zero_le _,by show _/\_;exact⟨by simp,Ch.refl _ _⟩⟩
 case round=>
  generalize wr=w5 at *;obtain⟨j,rfl,hj,H5⟩:=hrel
  by_cases hlt:(j:Int)<P.length
  ·have hj2:j<P.length:=by omega
   have hj0:(0:Int)<=j:=by omega
   have R5:=zJ HR.o H5.o.2 (by simp)
   obtain⟨g,hg⟩:∃g,a=some ⟨g,0,none⟩:=by
    rcases R5.2 with⟨_,h0⟩|⟨g,cap,cur,h,_⟩
    ·omega
    ·injection h with h
     exact⟨g,h⟩
   subst hg;obtain⟨z,hz⟩:∃z,P[j]? =some z:=⟨_,List.getElem?_eq_getElem hj2⟩
   have cz0:w5.cell? ⟨g,j * 2,none⟩=some (.int .i64 (pk z.1)):=by
    rw[R5.cellAt (j * 2) (by omega)];exact(WZ P j z hz).1
   have cz1:w5.cell? ⟨g,j * 2+1,none⟩=some (.string z.2):=by
    rw[R5.cellAt (j * 2+1) (by omega)];exact(WZ P j z hz).2
   have CALL:=zC (HP.o w5 z (List.mem_of_getElem? hz))
   have TK:(P.take (j+1)).any p=((P.take j).any p || p z):=by
    obtain⟨h1,rfl⟩:=List.getElem?_eq_some_iff.1 hz;rw[List.take_succ_eq_append_getElem h1,List.any_append];simp
   have HTK:=zC TK
   have e1:IntKind.i64.wrap ((j:Int)+1)=((j+1:Nat):Int):=by rw[IntKind.wrap_i64];omega
   clear TK R5;go_wp2_with fail;refine CALL.o.mono ?_;rintro e w6 ⟨rfl,c6⟩;have HC6:=zC (H5.o.2.trans c6)
   cases hpz:p z with
   |false=>
    have HN:Hd ((P.take (j+1)).any p=false):=by show _=_;rw[HTK.o,H5.o.1,hpz];rfl
    go_wp2_with fail;exact⟨⟨j+1,by simp,by omega,by show _/\_;exact⟨HN.o,HC6.o⟩⟩,by simp[intOf];omega⟩
   |true=>
    have HN:Hd (P.any p=true):=by show _=_;rw[List.any_eq_true];exact⟨z,List.mem_of_getElem? hz,hpz⟩
    go_wp2_with fail;go_ret;exact⟨j,rfl,⟨fun _=>hj0,fun _=>HN.o⟩,HC6.o⟩
  ·have e:j=P.length:=by omega
   subst e;have HA:=H5.o.1;rw[List.take_length]at HA;have HC:=zC H5.o.2;have HAx:=zC HA;clear HA H5;go_wp2_with fail;go_ret;exact⟨-1,rfl,⟨fun h=>(by have h':P.any p=true:=(by simpa using h);rw[HAx.o]at h';cases h'),fun h=>(by omega)⟩,HC.o⟩
theorem Sx{w:World}{v:Value}{P:List (Int×ByteArray)}(hR:w.ownsRow 0 312 2 v P.length (jn P))(hx:P.length<=1000){n:Nat}{p:Int×ByteArray->Bool}(hen:∀(args:Array Value) (W:World),Sem.run Tryz.prog (callFunc n args) W= .ok (.enter n args) W)(hp:∀W z,z∈P->Calls Tryz.prog n #[.agg #[.int .i64 (pk z.1),.string z.2]] W fun e w'=>e= .returned (.bool (p z))/\Ch [] W w'):
 Calls Tryz.prog 208 #[v,.func (.func n) #[] #[]] w fun e w'=>e= .returned (.bool (P.any p))/\Ch [] w w':=by
 obtain⟨a,k,rfl⟩:=zQ hR;have HI:=zC (Ii hR hx hen hp);clear hR hp;go_enter Tryz.func208,Tryz.ntmps208;go_wp2_with fail;refine HI.o.mono ?_;rintro e w1 ⟨i,rfl,hi,c1⟩;have HH:=zC hi;clear hi;go_wp2_with fail;go_ret;refine⟨?_,c1⟩
 have:P.any p=decide (0<=i):=by rw[Bool.eq_iff_iff,HH.o,decide_eq_true_eq]
 rw[this]
 first|rfl|simp
def YD(p:Int×ByteArray):Bool:=p.1 !=116 && p.1 !=98
theorem TI(p:Int×ByteArray):(decide (pk p.1=2) || decide (pk p.1=3))=YD p:=by
 unfold YD pk
 by_cases h1:p.1=116
 ·simp[h1]
 ·by_cases h2:p.1=98
  ·simp[h2]
  ·by_cases h3:p.1=117
   ·simp[h3]
   ·simp[h1,h2,h3]
theorem XN{D:zH}(hok:∀r,r∈D.rules->jf r.o)(hR:D.rules.length<=6):(jc D).length<=18:=by
 unfold jc
 have:∀l:List yb,(∀r,r∈l->jf r.o)->(l.flatMap fun r=>r.o).length<=3 * l.length:=by
  intro l
  induction l with
  |nil=>intro _;simp
  |cons a l ih=>
   intro h;have h1:=ih (fun r hr=>h r (List.mem_cons_of_mem _ hr));have h2:=(h a List.mem_cons_self).1;simp only[List.flatMap_cons,List.length_append,List.length_cons];omega
 have:=this D.rules hok;omega
theorem FO{w:World}{F:Nat->Prop}{D:zH}{vr:Value}(hr:JO w F vr D.rules)(hok:∀r,r∈D.rules->jf r.o)(hR:D.rules.length<=6)(sw:Int):
 Calls Tryz.prog 207 #[.agg #[.string D.name,.int .i64 sw,vr,.string D.one,.string D.two]] w fun e w'=>e= .returned (.bool ((jc D).any YD))/\Ch [] w w':=by
 obtain⟨rn,ra,rc,rfl⟩:∃n a c,vr= .slice a n c:=by
  obtain⟨_,rv,_,hrow,_⟩:=id hr;obtain⟨a,c,h⟩:=zQ hrow;exact⟨_,a,c,h⟩
 have g0:=Ch.alloc [] w (.cells #[.string D.name,.int .i64 sw,.slice ra rn rc,.string D.one,.string D.two] 118);have B0:=zE.new w #[.string D.name,.int .i64 sw,.slice ra rn rc,.string D.one,.string D.two] 118;have y0:=B0.cl 0 (.string D.name) rfl;have y1:=B0.cl 1 (.int .i64 sw) rfl;have y2:=B0.cl 2 (.slice ra rn rc) rfl;have y3:=B0.cl 3 (.string D.one) rfl;have y4:=B0.cl 4 (.string D.two) rfl;have CA:=zC (Nq (JO.kp hr g0) hok hR sw);have hpl:=XN hok hR
 have hmf:∀(args:Array Value) (W:World),Sem.run Tryz.prog (callFunc 209 args) W= .ok (.enter 209 args) W:=fun _ _=>by kernel_rfl
 have HMF:=zC hmf;clear hmf B0;generalize hw0:w.alloc (.cells #[.string D.name,.int .i64 sw,.slice ra rn rc,.string D.one,.string D.two] 118)=w0 at *;go_enter Tryz.func207,Tryz.ntmps207;go_wp2_with fail;refine CA.o.mono ?_;rintro e w1 ⟨u,rfl,o1,_,c1⟩;obtain⟨ua,uc,rfl⟩:=zQ o1
 have CB:=zC (Sx o1 (by omega) HMF.o (p:=YD) (fun W z _=>by
  have:=S9 (w:=W) (pk z.1) z.2;rw[TI]at this
  exact this))
 clear o1;go_wp2_with fail;refine CB.o.mono ?_;rintro e w2 ⟨rfl,c2⟩;go_wp2_with fail;go_ret;exact⟨rfl,(g0.trans c1).trans c2⟩
theorem IG{w:World}{F:Nat->Prop}{v:Value}{sv:List (zH×Value)}(hR:Jo w F v sv)(hok:∀p,p∈sv->(∀r,r∈p.1.rules->jf r.o)/\p.1.rules.length<=6)(hx:sv.length<=1000):
 Calls Tryz.prog 195 #[v,.func (.func 207) #[] #[]] w fun e w'=>∃i:Int,e= .returned (.int .i64 i)/\((sv.any fun p=>(jc p.1).any YD)=true↔0<=i)/\Ch [] w w':=by
 obtain⟨a,k,rfl⟩:=zQ hR.1;have HR:=zC hR;have HOK:=zC hok
 have hen:∀(args:Array Value) (W:World),Sem.run Tryz.prog (callFunc 207 args) W= .ok (.enter 207 args) W:=fun _ _=>by kernel_rfl
 clear hR hok;generalize hn:207=n at hen ⊢;have HN:=zC hn;clear hn;generalize hpp:(fun p:zH×Value=>(jc p.1).any YD)=pp;have HPP:=zC hpp;clear hpp;go_enter Tryz.func195,Tryz.ntmps195;go_wp2_with fail
 go_loopw [8] (fun iv w5=>∃j:Nat,iv= .int .i64 j/\j<=sv.length/\Hd ((sv.take j).any pp=false/\Ch [] w w5)) (fun iv _=>sv.length - (intOf iv).toNat)
 case atStart=>exact⟨0,rfl,Nat.zero_le _,by show _/\_;exact⟨by simp,Ch.refl _ _⟩⟩
 case round=>
  generalize wr=w5 at *;obtain⟨j,rfl,hj,H5⟩:=hrel
  by_cases hlt:(j:Int)<sv.length
  ·have hj2:j<sv.length:=by omega
   have hj0:(0:Int)<=j:=by omega
   have R5:=zJ HR.o.1 H5.o.2 (by simp)
   obtain⟨g,hg⟩:∃g,a=some ⟨g,0,none⟩:=by
    rcases R5.2 with⟨_,h0⟩|⟨g,cap,cur,h,_⟩
    ·omega
    ·injection h with h
     exact⟨g,h⟩
   subst hg;obtain⟨⟨D,vr⟩,hz⟩:∃z,sv[j]? =some z:=⟨_,List.getElem?_eq_getElem hj2⟩;have GR:=HR.o.2 _ (List.mem_of_getElem? hz)
   obtain⟨rn,ra,rc,hvr⟩:∃n a c,vr= .slice a n c:=by
    obtain⟨_,rv,_,hrow,_⟩:=id GR;obtain⟨a,c,h⟩:=zQ hrow;exact⟨_,a,c,h⟩
   subst hvr;have hOK:=HOK.o _ (List.mem_of_getElem? hz);have cells:=Q4 sv j _ hz
   have r0:w5.cell? ⟨g,j * 5,none⟩=some (.string D.name):=by rw[R5.cellAt (j * 5) (by omega)];exact cells.1
   have r1:w5.cell? ⟨g,j * 5+1,none⟩=some (.int .i64 (if D.swap then 1 else 0)):=by rw[R5.cellAt (j * 5+1) (by omega)];exact cells.2.1
   have r2:w5.cell? ⟨g,j * 5+2,none⟩=some (.slice ra rn rc):=by rw[R5.cellAt (j * 5+2) (by omega)];exact cells.2.2.1
   have r3:w5.cell? ⟨g,j * 5+3,none⟩=some (.string D.one):=by rw[R5.cellAt (j * 5+3) (by omega)];exact cells.2.2.2.1
   have r4:w5.cell? ⟨g,j * 5+4,none⟩=some (.string D.two):=by rw[R5.cellAt (j * 5+4) (by omega)];exact cells.2.2.2.2
   generalize hsw:(if D.swap then(1:Int)else 0)=sw at *;have CALL0:=FO (JO.kp GR H5.o.2) hOK.1 hOK.2 sw;rw[HN.o]at CALL0;rw[show(jc D).any YD=pp (D,.slice ra rn rc)from by rw[<- HPP.o]]at CALL0;have CALL:=zC CALL0
   have TK:(sv.take (j+1)).any pp=((sv.take j).any pp || pp (D,.slice ra rn rc)):=by
    obtain⟨h1,h2⟩:=List.getElem?_eq_some_iff.1 hz;rw[List.take_succ_eq_append_getElem h1,List.any_append,h2];simp
   have HTK:=zC TK
   have e1:IntKind.i64.wrap ((j:Int)+1)=((j+1:Nat):Int):=by rw[IntKind.wrap_i64];omega
   clear TK R5 CALL0 GR cells hOK;go_wp2_with fail;refine CALL.o.mono ?_;rintro e w6 ⟨rfl,c6⟩;have HC6:=zC (H5.o.2.trans c6)
   cases hpz:pp (D,.slice ra rn rc)with
   |false=>
    have HN:Hd ((sv.take (j+1)).any pp=false):=by show _=_;rw[HTK.o,H5.o.1,hpz];rfl
    go_wp2_with fail;exact⟨⟨j+1,by simp,by omega,by show _/\_;exact⟨HN.o,HC6.o⟩⟩,by simp[intOf];omega⟩
   |true=>
    have HN:Hd (sv.any pp=true):=by show _=_;rw[List.any_eq_true];exact⟨_,List.mem_of_getElem? hz,hpz⟩
    go_wp2_with fail;go_ret;exact⟨j,rfl,⟨fun _=>hj0,fun _=>HN.o⟩,HC6.o⟩
  ·have e:j=sv.length:=by omega
   subst e;have HA:=H5.o.1;rw[List.take_length]at HA;have HC:=zC H5.o.2;have HAx:=zC HA;clear HA H5;go_wp2_with fail;go_ret;exact⟨-1,rfl,⟨fun h=>(by have h':sv.any pp=true:=(by simpa using h);rw[HAx.o]at h';cases h'),fun h=>(by omega)⟩,HC.o⟩
theorem Sr{w:World}{F:Nat->Prop}{v:Value}{sv:List (zH×Value)}(hR:Jo w F v sv)(hok:∀p,p∈sv->(∀r,r∈p.1.rules->jf r.o)/\p.1.rules.length<=6)(hx:sv.length<=1000):
 Calls Tryz.prog 206 #[v,.func (.func 207) #[] #[]] w fun e w'=>e= .returned (.bool (sv.any fun p=>(jc p.1).any YD))/\Ch [] w w':=by
 obtain⟨a,k,rfl⟩:=zQ hR.1;have HI:=zC (IG hR hok hx);clear hR hok;generalize hpp:(fun p:zH×Value=>(jc p.1).any YD)=pp at *;go_enter Tryz.func206,Tryz.ntmps206;go_wp2_with fail;refine HI.o.mono ?_;rintro e w1 ⟨i,rfl,hi,c1⟩;have HH:=zC hi;clear hi;go_wp2_with fail;go_ret;refine⟨?_,c1⟩
 have:sv.any pp=decide (0<=i):=by rw[Bool.eq_iff_iff,HH.o,decide_eq_true_eq]
 rw[this]
 first|rfl|simp
theorem Bo{w:World}{F:Nat->Prop}{v:Value}{sv:List (zH×Value)}(hR:Jo w F v sv)(hok:∀p,p∈sv->(∀r,r∈p.1.rules->jf r.o)/\p.1.rules.length<=6)(hx:sv.length<=1000):
 Calls Tryz.prog 176 #[v] w fun e w'=>e= .returned (.bool (jF (sv.map fun p=>p.1)))/\Ch [] w w':=by
 obtain⟨a,k,rfl⟩:=zQ hR.1;have HI:=zC (Sr hR hok hx)
 have E:jF (sv.map fun p=>p.1)=sv.any fun p=>(jc p.1).any YD:=by
  unfold jF YD;rw[List.any_map];rfl
 rw[E];clear hR hok E;generalize hpp:(sv.any fun p:zH×Value=>(jc p.1).any YD)=pp at *;go_enter Tryz.func176,Tryz.ntmps176;go_wp2_with fail;refine HI.o.mono ?_;rintro e w1 ⟨rfl,c1⟩;go_wp2_with fail;go_ret;exact⟨rfl,c1⟩
end Go.Proofs.YteobgfbgglfkbaaGreat
