import Derived.Test.YteobgfbgglfkbaaGreatJT8
import Derived.Test.YteobgfbgglfkbaaGreatJP7
set_option maxHeartbeats 6400000
set_option maxRecDepth 100000
namespace Go.Proofs.YteobgfbgglfkbaaGreat
open Go.RowKit
attribute [local go_sem ↓] Go.wp_at_zero Go.wp_at_succ
theorem Al{w:World}{t ty e:TypeId}{i:TypeInfo}{size:Nat}(ht:Tryz.prog.underlying t=some (.slice e))(hi:Tryz.prog.info? e=some i){v:Value}{n:Nat}{xs:List Value}(hown:w.ownsRow 0 e size v n xs)(ad:Option Addr)(c:Nat):
 (Builtin.append_ #[t,t] ty #[v,.slice ad 0 c]).run Tryz.prog w= .ok v w:=by
 rcases hown.2 with⟨rfl,rfl⟩|⟨g,cap,cur,rfl,_,_,hnc,_⟩
 ·cases ad <;>simp[Builtin.append_,run_underlying ht,sizeOf,typeInfo,hi,Builtin.lenOf,Builtin.firstCells,loadCells,loadCellsFrom]
 ·cases ad <;>simp[Builtin.append_,run_underlying ht,sizeOf,typeInfo,hi,Builtin.lenOf,Builtin.firstCells,hnc,storeCells,loadCells,loadCellsFrom]
theorem T7{nq nq':Nat->Nat->Nat}{m k:Nat}:ya (fun i=>if i<m then nq i else nq' (i - m)) (m+k)=ya nq m++ya nq' k:=by
 apply List.ext_getElem?;intro j
 by_cases hj:j<m * 4
 ·have e:j=4 * (j / 4)+j % 4:=by omega
  have h1:j / 4<m:=by omega
  have h2:j % 4<4:=by omega
  rw[List.getElem?_append_left (by rw[Jw];exact hj)];have q1:=QQ (nq:=nq) h1 h2;have q2:=QQ (nq:=fun i=>if i<m then nq i else nq' (i - m)) (show j / 4<m+k by omega) h2;rw[<- e]at q1 q2;rw[q1,q2,if_pos h1]
 ·rw[List.getElem?_append_right (by rw[Jw];omega),Jw]
  by_cases hj2:j<(m+k) * 4
  ·have e:j=4 * (j / 4)+j % 4:=by omega
   have h2:j % 4<4:=by omega
   have q1:=QQ (nq:=nq') (show j / 4 - m<k by omega) h2;have q2:=QQ (nq:=fun i=>if i<m then nq i else nq' (i - m)) (show j / 4<m+k by omega) h2;rw[<- e]at q2;rw[show 4 * (j / 4 - m)+j % 4=j - m * 4 by omega]at q1;rw[q1,q2,if_neg (by omega)]
  ·rw[List.getElem?_eq_none (by rw[Jw];omega),List.getElem?_eq_none (by rw[Jw];omega)]
theorem zm.app{w:World}{v:Value}{M M':List (Nat->Bool)}{nq nq':Nat->Nat->Nat}(h:∀(i:Nat) f,M[i]? =some f->zU (nq i) f)(h':∀(i:Nat) f,M'[i]? =some f->zU (nq' i) f)(own:w.ownsRow 0 240 4 v (M.length+M'.length) (ya nq M.length++ya nq' M'.length)):zm w v (M++M'):=by
 refine⟨fun i=>if i<M.length then nq i else nq' (i - M.length),?_,fun i f hi=> ?_⟩
 ·rw[List.length_append,T7]
  exact own
 ·by_cases e:i<M.length
  ·simp only[if_pos e]
   rw[List.getElem?_append_left e]at hi;exact h i f hi
  ·simp only[if_neg e]
   rw[List.getElem?_append_right (by omega)]at hi;exact h' _ f hi
theorem Cb(nq:Nat->Nat->Nat)(m:Nat):∀u,u∈ya nq m->u.oneCell'=true:=by
 intro u hu;obtain⟨j,_,rfl⟩:=List.mem_map.1 hu;rfl
theorem QM{W:World}{ops:Array Oper}{rest:List Oper}{o:Oper}{a:Act}{Q:Exit->Act->World->Prop}(hgd:o.guard=none)(sx xx:Operand)(ho:o.op= .call {callee:= .builtin .append,args:= #[sx,xx],argTypes:= #[238,238]}){v u:Value}{M M':List (Nat->Bool)}(hs:a.eval sx=v)(hx:a.eval xx=u)(h:zm W v M)(h':zm W u M')(hl:M.length+M'.length<=16777216)
 (hK:∀v' w',zm w' v' (M++M')->Ch v.ownBlock.toList W w'->(v'.ownBlock=v.ownBlock\/∀q,v'.ownBlock=some q->W.heap.size<=q)->wpList Tryz.prog ops Q rest (a.put o.dst v') w'):wpList Tryz.prog ops Q (o:: rest) a W:=by
 obtain⟨nq,R,F⟩:=h;obtain⟨nq',R',F'⟩:=h';obtain⟨i,hi,hz0,hz1,hz2⟩:=info_parts Wz
 by_cases h0:M'.length=0
 ·have e:M'=[]:=List.length_eq_zero_iff.1 h0
  subst e;obtain⟨ad,c,hu⟩:=zQ R';rw[hu]at hx
  refine wpList_plain hgd fun K' hK'=> ?_
  have hrun:=Al (ty:=o.type) Tryz.underlying238 hi R ad c;have hlen:([]:List (Nat->Bool)).length=0:=rfl;rw[hlen]at hx;unfold Oper.wp;simp[execOp,ho,resolve,invoke,builtin,hs,hx,hrun,Result.andThen];exact hK' _ _ (hK v W (by rw[List.append_nil];exact⟨nq,R,F⟩) (Ch.refl _ _) (Or.inl rfl))
 ·obtain⟨g',cap',cur',hu⟩:∃g cap,∃_:Unit,u= .slice (some ⟨g,0,none⟩) M'.length cap:=by
   rcases R'.2 with⟨_,h1⟩|⟨g,cap,cur,h,_⟩
   ·exact absurd h1 h0
   ·exact⟨g,cap,(),h⟩
  subst hu;refine wpList_append_lies W hgd sx xx 238 ho 0 240 i (.agg #[.int .u64 0,.int .u64 0,.int .u64 0,.int .u64 0]) 4 32 Tryz.underlying238 hi hz0 hz1 hz2 rfl (by omega) v M.length (ya nq M.length) hs R ⟨g',0,none⟩ M'.length cap' (ya nq' M'.length) hx (by rw[Jw]) (fun j x hj=> ?_) (Cb nq' _) (by omega) (by simp only[maxLen];omega) (by omega) (Nat.zero_le _) W.heap.size rfl (fun g cap w' own gr hat _=> ?_)
  ·have hjl:j<M'.length * 4:=by
    have:=(List.getElem?_eq_some_iff.1 hj).1
    rwa [Jw]at this
   have ea:(⟨g',0,none⟩:Addr).add j=⟨g',j,none⟩:=by unfold Addr.add;split <;>simp_all
   rw[ea,R'.cellAt j hjl,hj]
  ·refine hK _ w' (zm.app F F' own) (Ch.grown gr) ?_
   rcases hat with h1|h1
   ·exact Or.inl (by rw[h1];rfl)
   ·exact Or.inr (fun q hq=>by have e:g=q:=(by simpa[Value.ownBlock]using hq);omega)
def Jo(w:World)(F:Nat->Prop)(v:Value)(sv:List (zH×Value)):Prop:=w.ownsRow 0 118 5 v sv.length (jp sv)/\∀p,p∈sv->JO w F p.2 p.1.rules
def Few(Ds:List zH):Prop:=Ds.length<=6/\∀D,D∈Ds->D.one.size<=4/\D.rules.length<=6
theorem Mi(Ds:List zH){j:Nat}{D:zH}(hj:Ds[j]? =some D):yu (Ds.take (j+1))=yu (Ds.take j)++(yM D.one.data.toList++D.rules.map fun r=>zo r.cls):=by
 obtain⟨h1,rfl⟩:=List.getElem?_eq_some_iff.1 hj;rw[List.take_succ_eq_append_getElem h1];simp only[yu,List.flatMap_append,List.flatMap_cons,List.flatMap_nil,List.append_nil]
theorem XK{Ds:List zH}(h:Few Ds):∀j,j<=Ds.length->(yu (Ds.take j)).length<=10 * j:=by
 intro j
 induction j with
 |zero=>intro _;simp[yu]
 |succ j ih=>
  intro hj;have hd:=h.2 Ds[j] (List.getElem_mem _);rw[Mi Ds (List.getElem?_eq_getElem (by omega))];have:=ih (by omega);have e:Ds[j].one.data.toList.length=Ds[j].one.size:=JF _;simp only[List.length_append,List.length_map,yM];omega
theorem De{w:World}{F:Nat->Prop}{v:Value}{sv:List (zH×Value)}(h:Jo w F v sv)(hFew:Few (sv.map fun p=>p.1)):
 Calls Tryz.prog 135 #[v] w fun e w'=>∃u,e= .returned u/\zm w' u (yu (sv.map fun p=>p.1))/\(∀q,u.ownBlock=some q->w.heap.size<=q)/\Ch [] w w':=by
 obtain⟨a,c,rfl⟩:=zQ h.1;have HS:=zC h;have HFew:=zC hFew
 have hsl:sv.length<=6:=by have:=hFew.1;simpa using this
 clear h hFew;go_enter Tryz.func135,Tryz.ntmps135;go_wp2_with fail
 go_loopw [3,10] (fun lv iv w5=>∃j:Nat,iv= .int .i64 j/\j<=sv.length/\Hd (zm w5 lv (yu ((sv.map fun p=>p.1).take j))/\(∀q,lv.ownBlock=some q->w.heap.size<=q)/\Ch [] w w5)) (fun _ iv _=>sv.length - (intOf iv).toNat)
 case atStart=>exact⟨0,rfl,by omega,by show _/\_;exact⟨zm.nil _,by intro q hq;simp[Value.ownBlock]at hq,Ch.refl _ _⟩⟩
 case round=>
  generalize wr=w5 at *;obtain⟨j,rfl,hj,H5⟩:=hrel
  by_cases hlt:(j:Int)<sv.length
  ·have hj2:j<sv.length:=by omega
   have hj0:(0:Int)<=j:=by omega
   obtain⟨⟨D,vr⟩,hp⟩:∃p,sv[j]? =some p:=⟨_,List.getElem?_eq_getElem hj2⟩;have R5:=zJ HS.o.1 H5.o.2.2 (by simp)
   obtain⟨g,hg⟩:∃g,a=some ⟨g,0,none⟩:=by
    rcases R5.2 with⟨_,h0⟩|⟨g,cap,cur,h,_⟩
    ·omega
    ·injection h with h
     exact⟨g,h⟩
   subst hg
   have hDm:(sv.map fun p=>p.1)[j]? =some D:=by simp[hp]
   have hlM:=XK HFew.o j (by simp;omega);have hD6:=HFew.o.2 D (List.mem_of_getElem? hDm)
   have hrlt:∀q,vr.ownBlock=some q->q<w.heap.size:=by
    obtain⟨_,rv0,_,h0,_⟩:=HS.o.2 _ (List.mem_of_getElem? hp)
    exact fun q hq=>(h0.lt q hq).2
   have HRL:=zC hrlt;clear hrlt;have GR:=HS.o.2 _ (List.mem_of_getElem? hp);have cells:=Q4 sv j _ hp;obtain⟨hF1,rv,hrv,hrow,hrr⟩:=GR;simp only at hrv hrow hF1;obtain⟨ra,rc,hvr⟩:=zQ hrow;subst hvr;have hl5:=R5.1
   have x0:w5.cell? ⟨g,j * 5,none⟩=some (.string D.name):=by rw[R5.cellAt (j * 5) (by omega)];exact cells.1
   obtain⟨sw,hsw⟩:∃sw:Int,(if D.swap then(1:Int)else 0)=sw:=⟨_,rfl⟩
   have x1:w5.cell? ⟨g,j * 5+1,none⟩=some (.int .i64 sw):=by rw[R5.cellAt (j * 5+1) (by omega),<- hsw];exact cells.2.1
   have x2:w5.cell? ⟨g,j * 5+2,none⟩=some (.slice ra rv.length rc):=by rw[R5.cellAt (j * 5+2) (by omega)];exact cells.2.2.1
   have x3:w5.cell? ⟨g,j * 5+3,none⟩=some (.string D.one):=by rw[R5.cellAt (j * 5+3) (by omega)];exact cells.2.2.2.1
   have x4:w5.cell? ⟨g,j * 5+4,none⟩=some (.string D.two):=by rw[R5.cellAt (j * 5+4) (by omega)];exact cells.2.2.2.2
   have g6:=Ch.alloc [] w5 (.cells #[.string D.name,.int .i64 sw,.slice ra rv.length rc,.string D.one,.string D.two] 118);have B6:=zE.new w5 #[.string D.name,.int .i64 sw,.slice ra rv.length rc,.string D.one,.string D.two] 118
   have z6:(w5.alloc (.cells #[.string D.name,.int .i64 sw,.slice ra rv.length rc,.string D.one,.string D.two] 118)).heap.size=w5.heap.size+1:=by simp
   have HM6:=zC (H5.o.1.kp g6 (by simp));have LV:=zC H5.o.1.lt;have HG6:=zC (H5.o.2.2.trans g6);have V5:=zC H5.o.2.1;have z5:=H5.o.2.2.size;have SG:=zC (KX (w:=w5.alloc (.cells #[.string D.name,.int .i64 sw,.slice ra rv.length rc,.string D.one,.string D.two] 118)) D.one (by omega));have HROW:=zC hrow;have HPS:=zC (fun p hp=>(hrr p hp).2.2);have HRR:=zC (fun p hp=>(hrr p hp).1);have HB6:=zC B6;have y3:=B6.cl 3 (.string D.one) rfl;have HTK:=zC (Mi _ hDm)
   have hrl:rv.length<=6:=by have:=hD6.2;rw[hrv]at this;simpa using this
   have HRV:=zC hrv;obtain⟨la,lc,hlv⟩:=H5.o.1.slice;subst hlv
   have hsl1:(yM D.one.data.toList).length<=4:=by have e:=JF D.one;simp only[yM,List.length_map];omega
   clear hrow hrr R5 B6 g6 cells hF1 hrv hsw;generalize hw6:w5.alloc (.cells #[.string D.name,.int .i64 sw,.slice ra rv.length rc,.string D.one,.string D.two] 118)=w6 at *;go_wp2_with fail;refine SG.o.mono ?_;rintro e w7 ⟨u,rfl,hu,hub,c7⟩;have HM7:=zC (HM6.o.kp c7 (by simp));have HU:=zC hu;have HUB:=zC hub;have HG7:=zC (HG6.o.trans c7);have HB7:=zC (HB6.o.kp c7 (by simp));have z7:=c7.size;obtain⟨ua,uc,hus⟩:=hu.slice;subst hus;clear hu hub c7 y3 x0 x1 x2 x3 x4;go_wp2_with (at_builtin;refine QM (v:= .slice la (yu ((sv.map fun p=>p.1).take j)).length lc) (u:= .slice ua (yM D.one.data.toList).length uc) rfl _ _ rfl rfl rfl HM7.o HU.o (by omega) ?_;intro v8 w8 hM8 gr8 hat8;have B8:=HB7.o.kp gr8 (by intro hx;have:=LV.o _ (by simpa using hx);omega);have y2:=B8.cl 2 (.slice ra rv.length rc) rfl);have HM8:=zC hM8;have HG8:Hd (Ch [] w w8):=HG7.o.trans' gr8 (fun q hq=>Or.inr (V5.o q (by simpa using hq)))
   have HV8:Hd (∀q,v8.ownBlock=some q->w.heap.size<=q):=by
    intro q hq
    rcases hat8 with h|h
    ·exact V5.o q (by rw[<- h];exact hq)
    ·have:=h q hq;have:=HG7.o.size;omega
   have z8:=gr8.size
   have hlen8:(yu ((sv.map fun p=>p.1).take j)++yM D.one.data.toList).length<=10 * j+4:=by rw[List.length_append];omega
   obtain⟨ka,kc,hks⟩:=hM8.slice;subst hks;clear hM8 gr8 hat8 B8 y2
   go_loopw [3,22] (fun lv iv w9=>∃i:Nat,iv= .int .i64 i/\i<=rv.length/\Hd (zm w9 lv (yu ((sv.map fun p=>p.1).take j)++yM D.one.data.toList++(rv.take i).map (fun p=>zo p.1.cls))/\(∀q,lv.ownBlock=some q->w.heap.size<=q)/\Ch [] w w9)) (fun _ iv _=>rv.length - (intOf iv).toNat)
   case atStart=>exact⟨0,rfl,by omega,by show _/\_;exact⟨by simpa using HM8.o,HV8.o,HG8.o⟩⟩
   case round=>
    generalize wr=w9 at *;obtain⟨i,rfl,hi,H9⟩:=hrel
    by_cases hlt9:(i:Int)<rv.length
    ·have hi2:i<rv.length:=by omega
     have hi0:(0:Int)<=i:=by omega
     obtain⟨⟨Rd,q,vp⟩,hp9⟩:∃p,rv[i]? =some p:=⟨_,List.getElem?_eq_getElem hi2⟩;have R9:=zJ HROW.o H9.o.2.2 (by simp)
     obtain⟨gr,hgr⟩:∃g,ra=some ⟨g,0,none⟩:=by
      rcases R9.2 with⟨_,h0⟩|⟨g,cap,cur,h,_⟩
      ·omega
      ·injection h with h
       exact⟨g,h⟩
     subst hgr;obtain⟨pa,pc,hvp⟩:=zQ (HPS.o _ (List.mem_of_getElem? hp9));simp only at hvp;subst hvp;have hl9:=R9.1;have cells9:=UK rv i _ hp9
     have r0:w9.cell? ⟨gr,i * 5,none⟩=some (.int .u64 (q 0)):=by rw[R9.cellAt (i * 5) (by omega)];exact cells9.1
     have r1:w9.cell? ⟨gr,i * 5+1,none⟩=some (.int .u64 (q 1)):=by rw[R9.cellAt (i * 5+1) (by omega)];exact cells9.2.1
     have r2:w9.cell? ⟨gr,i * 5+2,none⟩=some (.int .u64 (q 2)):=by rw[R9.cellAt (i * 5+2) (by omega)];exact cells9.2.2.1
     have r3:w9.cell? ⟨gr,i * 5+3,none⟩=some (.int .u64 (q 3)):=by rw[R9.cellAt (i * 5+3) (by omega)];exact cells9.2.2.2.1
     have r4:w9.cell? ⟨gr,i * 5+4,none⟩=some (.slice pa Rd.o.length pc):=by rw[R9.cellAt (i * 5+4) (by omega)];exact cells9.2.2.2.2
     have HQ:=zC (HRR.o _ (List.mem_of_getElem? hp9));obtain⟨na,nc,hns⟩:=H9.o.1.slice;subst hns;generalize hMM:yu ((sv.map fun p=>p.1).take j)++yM D.one.data.toList++(rv.take i).map (fun p=>zo p.1.cls)=MM at *
     have hMl:MM.length<=10 * j+4+i:=by rw[<- hMM,List.length_append,List.length_map,List.length_take];omega
     have HT9:Hd (yu ((sv.map fun p=>p.1).take j)++yM D.one.data.toList++(rv.take (i+1)).map (fun p=>zo p.1.cls)=MM++[zo Rd.cls]):=by
      show _=_
      obtain⟨h1,h2⟩:=List.getElem?_eq_some_iff.1 hp9;rw[List.take_succ_eq_append_getElem h1,h2,List.map_append,<- List.append_assoc,hMM];rfl
     obtain⟨nq9,RM9,F9⟩:=H9.o.1;have gA:=Ch.alloc [] w9 (.cells #[.int .u64 (q 0),.int .u64 (q 1),.int .u64 (q 2),.int .u64 (q 3),.slice pa Rd.o.length pc] 264)
     have zA:(w9.alloc (.cells #[.int .u64 (q 0),.int .u64 (q 1),.int .u64 (q 2),.int .u64 (q 3),.slice pa Rd.o.length pc] 264)).heap.size=w9.heap.size+1:=by simp
     have gB:=Ch.alloc [] (w9.alloc (.cells #[.int .u64 (q 0),.int .u64 (q 1),.int .u64 (q 2),.int .u64 (q 3),.slice pa Rd.o.length pc] 264)) (.cells #[.int .u64 (q 0),.int .u64 (q 1),.int .u64 (q 2),.int .u64 (q 3)] 240);have OB:=zJ (zJ RM9 gA (by simp)) gB (by simp);have HGB:=zC ((H9.o.2.2.trans gA).trans gB);have V9:=zC H9.o.2.1;have HF9:=zC F9;have z9:=H9.o.2.2.size
     have e1:IntKind.i64.wrap ((i:Int)+1)=((i+1:Nat):Int):=by rw[IntKind.wrap_i64];omega
     have BA:=zE.new w9 #[.int .u64 (q 0),.int .u64 (q 1),.int .u64 (q 2),.int .u64 (q 3),.slice pa Rd.o.length pc] 264;clear RM9 F9 gA gB R9 cells9 hMM;generalize hwA:w9.alloc (.cells #[.int .u64 (q 0),.int .u64 (q 1),.int .u64 (q 2),.int .u64 (q 3),.slice pa Rd.o.length pc] 264)=wA at *;have t0:=BA.cl 0 (.int .u64 (q 0)) rfl;have t1:=BA.cl 1 (.int .u64 (q 1)) rfl;have t2:=BA.cl 2 (.int .u64 (q 2)) rfl;have t3:=BA.cl 3 (.int .u64 (q 3)) rfl;clear BA;go_wp2_with (at_builtin;refine YZ 238 240 4 32 (.agg #[.int .u64 0,.int .u64 0,.int .u64 0,.int .u64 0]) Tryz.underlying238 Wz rfl (by omega) (by omega) (by rfl) _ _ (by rfl) (.slice na MM.length nc) MM.length _ (by rfl) OB (w9.heap.size+1) [.int .u64 (q 0),.int .u64 (q 1),.int .u64 (q 2),.int .u64 (q 3)] (by rfl) (by have:=zr wA (.cells #[.int .u64 (q 0),.int .u64 (q 1),.int .u64 (q 2),.int .u64 (q 3)] 240);rw[zA]at this;exact this) rfl (by intro u hu;simp at hu;rcases hu with rfl|rfl|rfl|rfl <;>rfl) (by omega) (w9.heap.size+1+1) (by simp[zA]) ?_;intro g8 cap8 w8' own8 gr8 hat8 hlt8);go_roundw
     case rel=>
      refine⟨_,_,_,⟨i+1,by simp,by omega,?_⟩,rfl,rfl,rfl⟩
      show _/\_
      rw[show yu ((sv.map fun p=>p.1).take j)++(yM D.one.data.toList++(rv.map (fun p=>zo p.1.cls)).take (i+1))=MM++[zo Rd.cls]from by rw[<- HT9.o,List.append_assoc,List.map_take]];refine⟨zm.snoc HF9.o HQ.o own8,fun y hy=> ?_,HGB.o.trans' gr8 (fun y hy=>Or.inr (V9.o y (by simpa using hy)))⟩
      have e:g8=y:=by simpa[Value.ownBlock]using hy
      subst e
      rcases hat8 with h|h
      ·exact V9.o _ h
      ·omega
     case measure=>simp[intOf];omega
    ·have e:i=rv.length:=by omega
     subst e;have HC:=H9.o;rw[List.take_length]at HC
     have HE:Hd (yu ((sv.map fun p=>p.1).take j)++yM D.one.data.toList++rv.map (fun p=>zo p.1.cls)=yu ((sv.map fun p=>p.1).take (j+1))):=by
      show _=_
      rw[HTK.o,HRV.o,List.append_assoc,List.map_map];rfl
     rw[HE.o]at HC;have HCx:=zC HC
     have e1:IntKind.i64.wrap ((j:Int)+1)=((j+1:Nat):Int):=by rw[IntKind.wrap_i64];omega
     clear H9 HC;go_wp2_with fail;exact⟨⟨j+1,by simp,by omega,by show _/\_;exact⟨HCx.o.1,HCx.o.2.1,HCx.o.2.2⟩⟩,by simp[intOf];omega⟩
  ·have e:j=sv.length:=by omega
   subst e;have HC:=H5.o;rw[show(sv.map fun p=>p.1).take sv.length=sv.map fun p=>p.1 from by rw[List.take_of_length_le (by simp)]]at HC;have HCx:=zC HC;clear H5 HC;go_wp2_with fail;go_ret;exact⟨_,rfl,HCx.o.1,HCx.o.2.1,HCx.o.2.2⟩
end Go.Proofs.YteobgfbgglfkbaaGreat
