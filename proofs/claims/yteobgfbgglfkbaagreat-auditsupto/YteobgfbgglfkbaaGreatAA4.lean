import Derived.Test.YteobgfbgglfkbaaGreatAA3
import Derived.Deep.RegionLaw
set_option maxHeartbeats 3200000
namespace Go.Proofs.YteobgfbgglfkbaaGreat
open Go.RowKit
attribute [local go_sem ↓] Go.wp_at_zero Go.wp_at_succ
theorem Zc{W:World}{ops:Array Oper}{o:Oper}{a:Act}{K:Act->World->Prop}{Q:Exit->Act->World->Prop}{E0:Prop}(T E:TypeId)(size bytes:Nat)(z:Value)(hT:Tryz.prog.underlying T=some (.slice E))
 (hinfo:(Tryz.prog.info? E).map (fun i=>(i.zero,i.size,i.bytes))=some (some z,size,bytes)) (hzs:z.cells.size=size) (hsz:0<size) (hby:bytes<=1000) (hgd:o.guard=none) (sx xx:Operand)
 (ho:o.op= .call {callee:= .builtin .append,args:= #[sx,xx],argTypes:= #[T,T]}) (v:Value) (n:Nat) (xs:List Value) (hs:a.eval sx=v) (hown:W.ownsRow 0 E size v n xs)
 (N:Nat) (news:List Value) (hx:a.eval xx= .slice (some ⟨N,0,none⟩) 1 1) (hN:W.heap[N]? =some (.cells news.toArray E)) (hl:news.length=size) (h1:∀u∈news,u.oneCell'=true) (hn:n<=1000) (H:Nat) (hH:W.heap.size=H)
 (h:∀g cap w',w'.ownsRow 0 E size (.slice (some ⟨g,0,none⟩) (n+1) cap) (n+1) (xs++news)->Ch v.ownBlock.toList W w'->(v.ownBlock=some g\/g=H)->g<w'.heap.size->K (a.put o.dst (.slice (some ⟨g,0,none⟩) (n+1) cap)) w'):
 if Region.wanted o (yielded ops a.tmps)=true then Oper.wp Tryz.prog o a W K Q else E0:=by
 obtain⟨i,hi,hz0,hz1,hz2⟩:=info_parts hinfo;refine step_append_lies W hgd sx xx T ho 0 E i z size bytes hT hi hz0 hz1 hz2 hzs hsz v n xs hs hown ⟨N,0,none⟩ 1 1 news hx (by omega) ?_ h1 (by omega) (by simp only[maxLen];omega) ?_ (Nat.zero_le _) H hH ?_
 ·have:=World.news_of_block hN
  simpa using this
 ·have:(n+1) * bytes<=1001 * 1000:=Nat.mul_le_mul (by omega) hby
  omega
 ·intro g cap w' h1 h2 h3 h4
  exact h g cap w' h1 (Ch.grown h2) h3 h4
theorem Xg:(Tryz.prog.info? 131).map (fun i=>(i.zero,i.size,i.bytes))=some (some (.agg #[.string ⟨#[]⟩,.bool false,.string ⟨#[]⟩,.string ⟨#[]⟩,.slice none 0 0]),5,80):=by kernel_rfl
theorem OC:(Tryz.prog.info? 146).map (fun i=>(i.zero,i.size,i.bytes))=some (some (.agg #[.slice none 0 0,.slice none 0 0]),2,48):=by kernel_rfl
theorem Ef:(Tryz.prog.info? 52).map (fun i=>(i.zero,i.size,i.bytes))=some (some (.agg #[.string ⟨#[]⟩,.slice none 0 0]),2,40):=by kernel_rfl
theorem AJ:(Tryz.prog.info? 49).map (fun i=>(i.zero,i.size,i.bytes))=some (some (.agg #[.bool false,.int .i64 0,.int .i64 0,.pointer none]),4,32):=by kernel_rfl
theorem KY:(Tryz.prog.info? 3).map (fun i=>(i.zero,i.size,i.bytes))=some (some (.int .i64 0),1,8):=by kernel_rfl
section
variable {W w7:World} {lo b d g H:Nat} {F G:Nat->Prop} {vs vc va:Value} {sv:List (zH×Value)} {cv:List (zZ×Value)} {av:List (ze×Value)}
theorem jQ.addScrub(hp:jQ W lo b d F vs vc va sv cv av){D:zH}{vr:Value}{cap:Nat}(hn:sv.length<450)(hG:∀k,G k->lo<=k/\k<W.heap.size/\k≠b/\k≠d/\vs.ownBlock≠some k/\vc.ownBlock≠some k/\va.ownBlock≠some k)
 (hrep:YC W G vr D.rules) (own:w7.ownsRow 0 131 5 (.slice (some ⟨g,0,none⟩) (sv.length+1) cap) (sv.length+1) (JH sv++JH [(D,vr)])) (gr:Ch vs.ownBlock.toList W w7) (hat:vs.ownBlock=some g\/g=H) (hH:W.heap.size<=H) (hlo:lo<=W.heap.size) (hb:b<W.heap.size):
 jQ (w7.setCell ⟨d,0,none⟩ (.slice (some ⟨g,0,none⟩) (sv.length+1) cap)) lo b d (fun k=>F k\/G k) (.slice (some ⟨g,0,none⟩) (sv.length+1) cap) vc va (sv++[(D,vr)]) cv av:=by
 have hdW:=hp.blk.lt
 have Lx:∀k,vs.ownBlock=some k->k<W.heap.size:=fun k hk=>(hp.rs.lt k hk).2
 have Ly:∀k,vc.ownBlock=some k->k<W.heap.size:=fun k hk=>(hp.rc.lt k hk).2
 have Lz:∀k,va.ownBlock=some k->k<W.heap.size:=fun k hk=>(hp.ra.lt k hk).2
 have gD:Ch [d] w7 (w7.setCell ⟨d,0,none⟩ (.slice (some ⟨g,0,none⟩) (sv.length+1) cap)):=Ch.setCell _ (by simp) _
 have fr:∀k,k<W.heap.size->vs.ownBlock≠some k->k≠d->(w7.setCell ⟨d,0,none⟩ (.slice (some ⟨g,0,none⟩) (sv.length+1) cap)).heap[k]? =W.heap[k]? :=by
  intro k h1 h2 h3;rw[Below.heap_setCell _ _ _ _ (by simpa using h3),gr.block k h1 (by simpa using h2)]
 have frF:∀k,F k->(w7.setCell ⟨d,0,none⟩ (.slice (some ⟨g,0,none⟩) (sv.length+1) cap)).heap[k]? =W.heap[k]? :=fun k hk=>fr k (hp.f k hk).2.1 (fun e=>(hp.bs k e).2.2.2.2.2 hk) (hp.f k hk).2.2.2
 have frG:∀k,G k->(w7.setCell ⟨d,0,none⟩ (.slice (some ⟨g,0,none⟩) (sv.length+1) cap)).heap[k]? =W.heap[k]? :=fun k hk=>fr k (hG k hk).2.1 (by have:=hG k hk;simp_all) (hG k hk).2.2.2.1
 have z7:=gr.size
 have nd:d∉vs.ownBlock.toList:=by simp;intro e;exact(hp.bs d e).2.2.1 rfl
 have hg:lo<=g/\g≠b/\g≠d/\vc.ownBlock≠some g/\va.ownBlock≠some g/\¬(F g\/G g):=by
  rcases hat with e|e
  ·obtain⟨a1,a2,a3,a4,a5,a6⟩:=hp.bs g e
   refine⟨a1,a2,a3,a4,a5,?_⟩;rintro(h1|h1)
   ·exact a6 h1
   ·have:=hG g h1;simp_all
  ·refine⟨by omega,by omega,by omega,fun e2=>by have:=Ly g e2;omega,fun e2=>by have:=Lz g e2;omega,?_⟩
   rintro(h1|h1)
   ·have:=hp.f g h1;omega
   ·have:=hG g h1;omega
 exact {
  blk:=(hp.blk.kp gr nd).set 0 _
  rs:=by rw[List.length_append];simp only[JH,List.flatMap_append];exact zJ own gD (fun k hk=>by simp[Value.ownBlock]at hk;subst hk;simpa using hg.2.2.1)
  rc:=ju hp.rc (fun k hk=>fr k (hp.rc.lt k hk).2 (by have:=hp.bc k hk;simp_all) (hp.bc k hk).2.2.1)
  ra:=ju hp.ra (fun k hk=>fr k (hp.ra.lt k hk).2 (by have:=hp.ba k hk;simp_all) (hp.ba k hk).2.2.1)
  ps:=by
   intro p hp'
   rcases List.mem_append.1 hp' with h1|h1
   ·exact(hp.ps p h1).frame frF (fun _ h=>Or.inl h)
   ·simp at h1;subst h1;exact hrep.frame frG (fun _ h=>Or.inr h)
  pc:=fun p h1=>(hp.pc p h1).frame frF (fun _ h=>Or.inl h)
  pa:=fun p h1=>(hp.pa p h1).frame frF (fun _ h=>Or.inl h)
  dlo:=hp.dlo
  bd:=hp.bd
  ns:=by rw[List.length_append];exact hn
  nc:=hp.nc
  na:=hp.na
  bs:=by intro k hk;simp[Value.ownBlock]at hk;subst hk;exact hg
  bc:=by
   intro k hk;obtain⟨a1,a2,a3,a4,a5,a6⟩:=hp.bc k hk
   have hne:¬(Value.slice (some ⟨g,0,none⟩) (sv.length+1) cap).ownBlock=some k:=by
    simp[Value.ownBlock];rintro rfl;simp_all
   have hF:¬(F k\/G k):=by
    rintro(h1|h1)
    ·exact a6 h1
    ·have:=hG k h1;simp_all
   exact⟨a1,a2,a3,hne,a5,hF⟩
  ba:=by
   intro k hk;obtain⟨a1,a2,a3,a4,a5,a6⟩:=hp.ba k hk
   have hne:¬(Value.slice (some ⟨g,0,none⟩) (sv.length+1) cap).ownBlock=some k:=by
    simp[Value.ownBlock];rintro rfl;simp_all
   have hF:¬(F k\/G k):=by
    rintro(h1|h1)
    ·exact a6 h1
    ·have:=hG k h1;simp_all
   exact⟨a1,a2,a3,hne,a5,hF⟩
  f:=by
   intro k hk
   have zz:W.heap.size<=(w7.setCell ⟨d,0,none⟩ (.slice (some ⟨g,0,none⟩) (sv.length+1) cap)).heap.size:=by simp[World.setCell];omega
   rcases hk with h1|h1
   ·have:=hp.f k h1;exact⟨this.1,by omega,this.2.2⟩
   ·have:=hG k h1;exact⟨this.1,by omega,this.2.2.1,this.2.2.2.1⟩}
theorem jQ.addChain(hp:jQ W lo b d F vs vc va sv cv av){D:zZ}{vr:Value}{cap:Nat}(hn:cv.length<450)(hG:∀k,G k->lo<=k/\k<W.heap.size/\k≠b/\k≠d/\vs.ownBlock≠some k/\vc.ownBlock≠some k/\va.ownBlock≠some k)
 (hrep:j9 W G vr D.scrubs) (own:w7.ownsRow 0 52 2 (.slice (some ⟨g,0,none⟩) (cv.length+1) cap) (cv.length+1) (jI cv++jI [(D,vr)])) (gr:Ch vc.ownBlock.toList W w7) (hat:vc.ownBlock=some g\/g=H) (hH:W.heap.size<=H) (hlo:lo<=W.heap.size) (hb:b<W.heap.size):
 jQ (w7.setCell ⟨d,1,none⟩ (.slice (some ⟨g,0,none⟩) (cv.length+1) cap)) lo b d (fun k=>F k\/G k) vs (.slice (some ⟨g,0,none⟩) (cv.length+1) cap) va sv (cv++[(D,vr)]) av:=by
 have hdW:=hp.blk.lt
 have Lx:∀k,vc.ownBlock=some k->k<W.heap.size:=fun k hk=>(hp.rc.lt k hk).2
 have Ly:∀k,vs.ownBlock=some k->k<W.heap.size:=fun k hk=>(hp.rs.lt k hk).2
 have Lz:∀k,va.ownBlock=some k->k<W.heap.size:=fun k hk=>(hp.ra.lt k hk).2
 have gD:Ch [d] w7 (w7.setCell ⟨d,1,none⟩ (.slice (some ⟨g,0,none⟩) (cv.length+1) cap)):=Ch.setCell _ (by simp) _
 have fr:∀k,k<W.heap.size->vc.ownBlock≠some k->k≠d->(w7.setCell ⟨d,1,none⟩ (.slice (some ⟨g,0,none⟩) (cv.length+1) cap)).heap[k]? =W.heap[k]? :=by
  intro k h1 h2 h3;rw[Below.heap_setCell _ _ _ _ (by simpa using h3),gr.block k h1 (by simpa using h2)]
 have frF:∀k,F k->(w7.setCell ⟨d,1,none⟩ (.slice (some ⟨g,0,none⟩) (cv.length+1) cap)).heap[k]? =W.heap[k]? :=fun k hk=>fr k (hp.f k hk).2.1 (fun e=>(hp.bc k e).2.2.2.2.2 hk) (hp.f k hk).2.2.2
 have frG:∀k,G k->(w7.setCell ⟨d,1,none⟩ (.slice (some ⟨g,0,none⟩) (cv.length+1) cap)).heap[k]? =W.heap[k]? :=fun k hk=>fr k (hG k hk).2.1 (by have:=hG k hk;simp_all) (hG k hk).2.2.2.1
 have z7:=gr.size
 have nd:d∉vc.ownBlock.toList:=by simp;intro e;exact(hp.bc d e).2.2.1 rfl
 have hg:lo<=g/\g≠b/\g≠d/\vs.ownBlock≠some g/\va.ownBlock≠some g/\¬(F g\/G g):=by
  rcases hat with e|e
  ·obtain⟨a1,a2,a3,a4,a5,a6⟩:=hp.bc g e
   refine⟨a1,a2,a3,a4,a5,?_⟩;rintro(h1|h1)
   ·exact a6 h1
   ·have:=hG g h1;simp_all
  ·refine⟨by omega,by omega,by omega,fun e2=>by have:=Ly g e2;omega,fun e2=>by have:=Lz g e2;omega,?_⟩
   rintro(h1|h1)
   ·have:=hp.f g h1;omega
   ·have:=hG g h1;omega
 exact {
  blk:=(hp.blk.kp gr nd).set 1 _
  rs:=ju hp.rs (fun k hk=>fr k (hp.rs.lt k hk).2 (by have:=hp.bs k hk;simp_all) (hp.bs k hk).2.2.1)
  rc:=by rw[List.length_append];simp only[jI,List.flatMap_append];exact zJ own gD (fun k hk=>by simp[Value.ownBlock]at hk;subst hk;simpa using hg.2.2.1)
  ra:=ju hp.ra (fun k hk=>fr k (hp.ra.lt k hk).2 (by have:=hp.ba k hk;simp_all) (hp.ba k hk).2.2.1)
  ps:=fun p h1=>(hp.ps p h1).frame frF (fun _ h=>Or.inl h)
  pc:=by
   intro p hp'
   rcases List.mem_append.1 hp' with h1|h1
   ·exact(hp.pc p h1).frame frF (fun _ h=>Or.inl h)
   ·simp at h1;subst h1;exact hrep.frame frG (fun _ h=>Or.inr h)
  pa:=fun p h1=>(hp.pa p h1).frame frF (fun _ h=>Or.inl h)
  dlo:=hp.dlo
  bd:=hp.bd
  ns:=hp.ns
  nc:=by rw[List.length_append];exact hn
  na:=hp.na
  bs:=by
   intro k hk;obtain⟨a1,a2,a3,a4,a5,a6⟩:=hp.bs k hk
   have hne:¬(Value.slice (some ⟨g,0,none⟩) (cv.length+1) cap).ownBlock=some k:=by
    simp[Value.ownBlock];rintro rfl;simp_all
   have hF:¬(F k\/G k):=by
    rintro(h1|h1)
    ·exact a6 h1
    ·have:=hG k h1;simp_all
   exact⟨a1,a2,a3,hne,a5,hF⟩
  bc:=by intro k hk;simp[Value.ownBlock]at hk;subst hk;exact hg
  ba:=by
   intro k hk;obtain⟨a1,a2,a3,a4,a5,a6⟩:=hp.ba k hk
   have hne:¬(Value.slice (some ⟨g,0,none⟩) (cv.length+1) cap).ownBlock=some k:=by
    simp[Value.ownBlock];rintro rfl;simp_all
   have hF:¬(F k\/G k):=by
    rintro(h1|h1)
    ·exact a6 h1
    ·have:=hG k h1;simp_all
   exact⟨a1,a2,a3,a4,hne,hF⟩
  f:=by
   intro k hk
   have zz:W.heap.size<=(w7.setCell ⟨d,1,none⟩ (.slice (some ⟨g,0,none⟩) (cv.length+1) cap)).heap.size:=by simp[World.setCell];omega
   rcases hk with h1|h1
   ·have:=hp.f k h1;exact⟨this.1,by omega,this.2.2⟩
   ·have:=hG k h1;exact⟨this.1,by omega,this.2.2.1,this.2.2.2.1⟩}
theorem jQ.addAsked(hp:jQ W lo b d F vs vc va sv cv av){D:ze}{vr:Value}{cap:Nat}(hn:av.length<450)(hG:∀k,G k->lo<=k/\k<W.heap.size/\k≠b/\k≠d/\vs.ownBlock≠some k/\vc.ownBlock≠some k/\va.ownBlock≠some k)
 (hrep:Qq W G vr D) (own:w7.ownsRow 0 49 4 (.slice (some ⟨g,0,none⟩) (av.length+1) cap) (av.length+1) (ZC av++ZC [(D,vr)])) (gr:Ch va.ownBlock.toList W w7) (hat:va.ownBlock=some g\/g=H) (hH:W.heap.size<=H) (hlo:lo<=W.heap.size) (hb:b<W.heap.size):
 jQ (w7.setCell ⟨d,2,none⟩ (.slice (some ⟨g,0,none⟩) (av.length+1) cap)) lo b d (fun k=>F k\/G k) vs vc (.slice (some ⟨g,0,none⟩) (av.length+1) cap) sv cv (av++[(D,vr)]):=by
 have hdW:=hp.blk.lt
 have Lx:∀k,va.ownBlock=some k->k<W.heap.size:=fun k hk=>(hp.ra.lt k hk).2
 have Ly:∀k,vs.ownBlock=some k->k<W.heap.size:=fun k hk=>(hp.rs.lt k hk).2
 have Lz:∀k,vc.ownBlock=some k->k<W.heap.size:=fun k hk=>(hp.rc.lt k hk).2
 have gD:Ch [d] w7 (w7.setCell ⟨d,2,none⟩ (.slice (some ⟨g,0,none⟩) (av.length+1) cap)):=Ch.setCell _ (by simp) _
 have fr:∀k,k<W.heap.size->va.ownBlock≠some k->k≠d->(w7.setCell ⟨d,2,none⟩ (.slice (some ⟨g,0,none⟩) (av.length+1) cap)).heap[k]? =W.heap[k]? :=by
  intro k h1 h2 h3;rw[Below.heap_setCell _ _ _ _ (by simpa using h3),gr.block k h1 (by simpa using h2)]
 have frF:∀k,F k->(w7.setCell ⟨d,2,none⟩ (.slice (some ⟨g,0,none⟩) (av.length+1) cap)).heap[k]? =W.heap[k]? :=fun k hk=>fr k (hp.f k hk).2.1 (fun e=>(hp.ba k e).2.2.2.2.2 hk) (hp.f k hk).2.2.2
 have frG:∀k,G k->(w7.setCell ⟨d,2,none⟩ (.slice (some ⟨g,0,none⟩) (av.length+1) cap)).heap[k]? =W.heap[k]? :=fun k hk=>fr k (hG k hk).2.1 (by have:=hG k hk;simp_all) (hG k hk).2.2.2.1
 have z7:=gr.size
 have nd:d∉va.ownBlock.toList:=by simp;intro e;exact(hp.ba d e).2.2.1 rfl
 have hg:lo<=g/\g≠b/\g≠d/\vs.ownBlock≠some g/\vc.ownBlock≠some g/\¬(F g\/G g):=by
  rcases hat with e|e
  ·obtain⟨a1,a2,a3,a4,a5,a6⟩:=hp.ba g e
   refine⟨a1,a2,a3,a4,a5,?_⟩;rintro(h1|h1)
   ·exact a6 h1
   ·have:=hG g h1;simp_all
  ·refine⟨by omega,by omega,by omega,fun e2=>by have:=Ly g e2;omega,fun e2=>by have:=Lz g e2;omega,?_⟩
   rintro(h1|h1)
   ·have:=hp.f g h1;omega
   ·have:=hG g h1;omega
 exact {
  blk:=(hp.blk.kp gr nd).set 2 _
  rs:=ju hp.rs (fun k hk=>fr k (hp.rs.lt k hk).2 (by have:=hp.bs k hk;simp_all) (hp.bs k hk).2.2.1)
  rc:=ju hp.rc (fun k hk=>fr k (hp.rc.lt k hk).2 (by have:=hp.bc k hk;simp_all) (hp.bc k hk).2.2.1)
  ra:=by rw[List.length_append];simp only[ZC,List.flatMap_append];exact zJ own gD (fun k hk=>by simp[Value.ownBlock]at hk;subst hk;simpa using hg.2.2.1)
  ps:=fun p h1=>(hp.ps p h1).frame frF (fun _ h=>Or.inl h)
  pc:=fun p h1=>(hp.pc p h1).frame frF (fun _ h=>Or.inl h)
  pa:=by
   intro p hp'
   rcases List.mem_append.1 hp' with h1|h1
   ·exact(hp.pa p h1).frame frF (fun _ h=>Or.inl h)
   ·simp at h1;subst h1;exact hrep.frame frG (fun _ h=>Or.inr h)
  dlo:=hp.dlo
  bd:=hp.bd
  ns:=hp.ns
  nc:=hp.nc
  na:=by rw[List.length_append];exact hn
  bs:=by
   intro k hk;obtain⟨a1,a2,a3,a4,a5,a6⟩:=hp.bs k hk
   have hne:¬(Value.slice (some ⟨g,0,none⟩) (av.length+1) cap).ownBlock=some k:=by
    simp[Value.ownBlock];rintro rfl;simp_all
   have hF:¬(F k\/G k):=by
    rintro(h1|h1)
    ·exact a6 h1
    ·have:=hG k h1;simp_all
   exact⟨a1,a2,a3,a4,hne,hF⟩
  bc:=by
   intro k hk;obtain⟨a1,a2,a3,a4,a5,a6⟩:=hp.bc k hk
   have hne:¬(Value.slice (some ⟨g,0,none⟩) (av.length+1) cap).ownBlock=some k:=by
    simp[Value.ownBlock];rintro rfl;simp_all
   have hF:¬(F k\/G k):=by
    rintro(h1|h1)
    ·exact a6 h1
    ·have:=hG k h1;simp_all
   exact⟨a1,a2,a3,a4,hne,hF⟩
  ba:=by intro k hk;simp[Value.ownBlock]at hk;subst hk;exact hg
  f:=by
   intro k hk
   have zz:W.heap.size<=(w7.setCell ⟨d,2,none⟩ (.slice (some ⟨g,0,none⟩) (av.length+1) cap)).heap.size:=by simp[World.setCell];omega
   rcases hk with h1|h1
   ·have:=hp.f k h1;exact⟨this.1,by omega,this.2.2⟩
   ·have:=hG k h1;exact⟨this.1,by omega,this.2.2.1,this.2.2.2.1⟩}
end
def jj(S:ByteArray):Nat->St->List yb->Except Nat (List yb×St)
 |0,s,_=> .error s.i
 |n+1,s,R=>
  if bt S (run zI S s.i)=91 then
   match y9 S (zL (decide (6<=(R.length:Int))) 3 (s.sk S).i (s.sk S))with
   |.error d=> .error d
   |.ok ((L,P),s1)=>jj S n s1 (R++[⟨L,P⟩])
  else .ok (R,s.sk S)
def JA(S:ByteArray)(x:ByteArray)(s:St):Except Nat (zH×St):=
 if bt S (run zI S s.i)=123 then
  match zh S 123 (s.sk S)with
  |.error d=> .error d
  |.ok s3=>
   match jj S (S.size+1) s3 []with
   |.error d=> .error d
   |.ok (R,s4)=>
    match zh S 125 s4 with
    |.error d=> .error d
    |.ok s5=> .ok (⟨x,false,ByteArray.empty,ByteArray.empty,R⟩,s5)
 else
  match jG S (s.sk S)with
  |.error d=> .error d
  |.ok ((a,c),s3)=> .ok (⟨x,true,a,c,[]⟩,s3)
def j8(S:ByteArray)(ns nc:List ByteArray)(at1:Int)(s:St):Except Nat (zH×St):=
 match yA S (zL (decide (6<=(ns.length:Int))) 3 at1 s)with
 |.error d=> .error d
 |.ok ((x,a),s1)=>JA S x (zL (ZS ns nc x) 4 a s1)
def Kg(w:World)(lo b d:Nat)(S:ByteArray)(nest:Int)(_vs vc va:Value)(sv:List (zH×Value))(cv:List (zZ×Value))(av:List (ze×Value))(r:Except Nat (zH×St))(e:Ending)(w':World):Prop:=
 e= .returned (.tuple #[])/\Below lo w w'/\((∃D s' vr F' vs',r= .ok (D,s')/\zO w' b S s' (-1) nest/\s'.i<=S.size/\jQ w' lo b d F' vs' vc va (sv++[(D,vr)]) cv av)\/(∃Dd,r= .error Dd/\zj w' b S Dd))
def Kb(S:ByteArray)(w0:World)(b X:Nat)(nest:Int)(x:ByteArray)(r:Except Nat (List yb×St))(w5:World):Prop:=
 Ch [b,X] w0 w5/\∃(vr:Value) (n:Nat) (xs:List Value),zE w5 X #[.string x,.bool false,.string ⟨#[]⟩,.string ⟨#[]⟩,vr] 131/\w5.ownsRow 0 146 2 vr n xs/\(∀g,vr.ownBlock=some g->w0.heap.size<=g/\g<w5.heap.size)/\
  ((∃(rv:List (yb×(Value×Value))) (s5:St) (G:Nat->Prop) (m:Nat),zO w5 b S s5 (-1) nest/\s5.i<=S.size/\n=rv.length/\xs=(rv.flatMap fun p=>[p.2.1,p.2.2])/\(∀p,p∈rv->Qb w5 G p.2.1 p.2.2 p.1.cls p.1.o)/\(∀k,G k->w0.heap.size<=k/\k<w5.heap.size/\vr.ownBlock≠some k)/\n<=s5.i/\S.size<m+s5.i/\r=jj S m s5 (rv.map (·.1)))\/
   (∃D,zj w5 b S D/\r= .error D))
theorem LG{S:ByteArray}:∀n (s:St) P P' s',s.i<=S.size->jq S n s P= .ok (P',s')->s.i<=s'.i/\s'.i<=S.size:=by
 intro n
 induction n with
 |zero=>intro s P P' s' _ h;cases h
 |succ n ih=>
  intro s P P' s' hi h;have l1:=zn zI S s.i hi;unfold jq at h
  split at h
  ·cases h
  ·rename_i p s1 hp
   have b:=XI (by rw[(yj _ _ _ _).1];exact l1.2) hp;rw[(yj _ _ _ _).1]at b;simp only[St.sk]at b;have l2:=zn zI S s1.i b.2.1
   split at h
   ·simp at h
    rw[<- h.2];simp only[St.sk];omega
   ·have:=ih _ _ _ _ (by simp only[St.sk];omega) h
    simp only[St.sk]at this;omega
theorem XB{S:ByteArray}{L:List ByteArray}{s s':St}{p:ByteArray×Nat}(hi:s.i<=S.size)(h:yI S L s= .ok (p,s')):s.i<=s'.i/\s'.i<=S.size:=by
 have l1:=zn zI S s.i hi;have l2:=zn zR S _ l1.2;unfold yI at h;simp only at h
 split at h
 ·simp at h
  rw[<- h.2];simp only;omega
 ·cases h
theorem Yb{S:ByteArray}{c:Int}{s s':St}(hi:s.i<=S.size)(hc:0<=c)(h:zh S c s= .ok s'):s.i<s'.i/\s'.i<=S.size/\s'.k=s.k:=by
 have l1:=zn zI S s.i hi;unfold zh at h
 split at h
 ·have:=yB (S:=S) (i:=run zI S s.i) (by omega)
  simp at h;rw[<- h];exact⟨by simp only;omega,by simp only;omega,rfl⟩
 ·cases h
theorem MX{S:ByteArray}{s s':St}{q:List (Int×Int)×List (Int×ByteArray)}(hi:s.i<=S.size)(h:y9 S s= .ok (q,s')):s.i<s'.i/\s'.i<=S.size:=by
 have l1:=zn zI S s.i hi;unfold y9 at h
 split at h
 ·cases h
 ·rename_i L s1 h1
  have b1:=VO h1;simp only[St.sk]at b1
  split at h
  ·cases h
  ·rename_i p s2 h2
   have b2:=XB b1.2.1 h2
   split at h
   ·cases h
   ·rename_i P s3 h3
    have b3:s2.i<=s3.i/\s3.i<=S.size:=by
     unfold jt at h3;have l2:=zn zI S s2.i b2.2
     split at h3
     ·split at h3
      ·cases h3
      ·rename_i p' s4 h4
       have:=XB (s:=s2.sk S) (by simp only[St.sk];omega) h4;simp at h3;simp only[St.sk]at this;rw[<- h3.2];omega
     ·have:=LG _ _ _ _ _ (by simp only[St.sk];omega) h3
      simp only[St.sk]at this;omega
    split at h
    ·cases h
    ·rename_i s5 h5
     have b5:=Yb b3.2 (by omega) h5;simp at h;rw[<- h.2];omega
theorem K4{w W:World}{lo b d:Nat}{S:ByteArray}{nest:Int}{F:Nat->Prop}{a0:Option Addr}{c0:Nat}{vc va:Value}{sv:List (zH×Value)}{cv:List (zZ×Value)}{av:List (ze×Value)}(hp:jQ w lo b d F (.slice a0 sv.length c0) vc va sv cv av)(gW:Ch [b] w W)(hlo:lo<=b)(hbl:b<w.heap.size)(hn:sv.length<450)
 {x:ByteArray} {sw:Bool} {A C:ByteArray} {vr:Value} {τ:Except Nat St} (PW:PS W b S nest τ) {r:Except Nat (zH×St)}
 (hr:(∃D s' G,r= .ok (D,s')/\τ= .ok s'/\D.name=x/\D.swap=sw/\D.one=A/\D.two=C/\YC W G vr D.rules/\(∀k,G k->w.heap.size<=k/\k<W.heap.size))\/(∃Dd,r= .error Dd/\τ= .error Dd)):
 ∀(g cap:Nat) (w7:World),w7.ownsRow 0 131 5 (.slice (some ⟨g,0,none⟩) (sv.length+1) cap) (sv.length+1) (JH sv++[.string x,.bool sw,.string A,.string C,vr])->Ch (Value.slice a0 sv.length c0).ownBlock.toList (W.drew.alloc (.cells #[.string x,.bool sw,.string A,.string C,vr] 131)) w7->((Value.slice a0 sv.length c0).ownBlock=some g\/g=W.heap.size+1)->
  Kg w lo b d S nest (.slice a0 sv.length c0) vc va sv cv av r (.returned (.tuple #[])) (w7.setCell ⟨d,0,none⟩ (.slice (some ⟨g,0,none⟩) (sv.length+1) cap)):=by
 intro g cap w7 own7 gr7 hat7;have gA:Ch [] W (W.drew.alloc (.cells #[.string x,.bool sw,.string A,.string C,vr] 131)):=(Ch.drew [] W).trans (Ch.alloc _ _ _);have gB:Ch [b] w (W.drew.alloc (.cells #[.string x,.bool sw,.string A,.string C,vr] 131)):=gW.trans (gA.mono (by simp));have Yu:=hp.kp gB
 have zA:(W.drew.alloc (.cells #[.string x,.bool sw,.string A,.string C,vr] 131)).heap.size=W.heap.size+1:=by
  show(W.heap.push _).size=_;simp
 have zW:=gW.size
 have nb:b∉(Value.slice a0 sv.length c0).ownBlock.toList:=by simp;intro e;exact(hp.bs b e).2.1 rfl
 have gD:Ch [d] w7 (w7.setCell ⟨d,0,none⟩ (.slice (some ⟨g,0,none⟩) (sv.length+1) cap)):=Ch.setCell _ (by simp) _;have P7:PS (w7.setCell ⟨d,0,none⟩ (.slice (some ⟨g,0,none⟩) (sv.length+1) cap)) b S nest τ:=((PW.kp gA (by simp)).kp gr7 nb).kp gD (by simpa using hp.bd);refine⟨rfl,?_,?_⟩
 ·refine((gB.below (by omega) (by simp;omega)).trans ((gr7.below (by omega) ?_).trans (gD.below (by have:=gr7.size;omega) (by simp;exact hp.dlo))))
  intro k hk;simp at hk;exact(hp.bs k hk).1
 ·rcases hr with⟨D,s',G,rfl,rfl,rfl,rfl,rfl,rfl,hR,hG⟩|⟨Dd,rfl,rfl⟩
  ·refine Or.inl ⟨D,s',vr,fun k=>F k\/G k,.slice (some ⟨g,0,none⟩) (sv.length+1) cap,rfl,P7.1,P7.2,?_⟩
   have hR':YC (W.drew.alloc (.cells #[.string D.name,.bool D.swap,.string D.one,.string D.two,vr] 131)) G vr D.rules:=hR.frame (fun k hk=>gA.block k (hG k hk).2 (by simp)) (fun _ h=>h);refine Yu.addScrub (H:=W.heap.size+1) hn (fun k hk=> ?_) hR' own7 gr7 hat7 (by omega) (by omega) (by omega);have h1:=hG k hk;refine⟨by omega,by omega,by omega,by have:=hp.blk.lt;omega,fun e=> ?_,fun e=> ?_,fun e=> ?_⟩
   ·have:=(hp.rs.lt k e).2;omega
   ·have:=(hp.rc.lt k e).2;omega
   ·have:=(hp.ra.lt k e).2;omega
  ·exact Or.inr ⟨Dd,rfl,P7⟩
theorem Cp{w:World}{lo b d:Nat}{S:ByteArray}{nest:Int}{s:St}{F:Nat->Prop}{vs vc va:Value}{sv:List (zH×Value)}{cv:List (zZ×Value)}{av:List (ze×Value)}(h:zO w b S s (-1) nest)(hi:s.i<=S.size)(hS:S.size<=400)(hp:jQ w lo b d F vs vc va sv cv av)(hn:sv.length<450)(hlo:lo<=b)(at1:Int):
 Calls Tryz.prog 31 #[.pointer (some ⟨b,0,none⟩),.pointer (some ⟨d,0,none⟩),.int .i64 at1] w (Kg w lo b d S nest vs vc va sv cv av (j8 S (yy sv) (yz cv) at1 s)):=by
 obtain⟨a0,c0,rfl⟩:=zQ hp.rs;have d0:=hp.blk.cl 0 _ rfl;have hbl:=h.lt;go_enter Tryz.func31,Tryz.ntmps31;go_wp2_with fail;refine(YP (σ:= .ok s) ⟨h,hi⟩ _ _ _).mono ?_;rintro e w1 ⟨rfl,h1,g1⟩;simp only[yF]at h1
 have RE:Hd (j8 S (yy sv) (yz cv) at1 s=match yA S (zL (decide (6<=(sv.length:Int))) 3 at1 s)with
  |.error d=> .error d
  |.ok ((x,a),s1)=>JA S x (zL (ZS (yy sv) (yz cv) x) 4 a s1)):=by
  show _=_;simp only[j8,yy,List.length_map]
 generalize hr:j8 S (yy sv) (yz cv) at1 s=r at *;clear hr;generalize zL (decide (6<=(sv.length:Int))) 3 at1 s=s1 at *;have hp1:=hp.kp g1;have h2:=h1.kp (Ch.alloc [] w1 (.cells #[.string ⟨#[]⟩,.bool false,.string ⟨#[]⟩,.string ⟨#[]⟩,.slice none 0 0] 131)) (by simp);have X2:=zE.new w1 #[.string ⟨#[]⟩,.bool false,.string ⟨#[]⟩,.string ⟨#[]⟩,.slice none 0 0] 131;have hp2:=hp1.kp (Ch.alloc [b] w1 (.cells #[.string ⟨#[]⟩,.bool false,.string ⟨#[]⟩,.string ⟨#[]⟩,.slice none 0 0] 131));have g2:Ch [b] w (w1.alloc (.cells #[.string ⟨#[]⟩,.bool false,.string ⟨#[]⟩,.string ⟨#[]⟩,.slice none 0 0] 131)):=g1.trans (Ch.alloc _ _ _);have zX:w.heap.size<=w1.heap.size:=g1.size;have dX:d<w1.heap.size:=hp1.blk.lt;clear d0;go_wp2_with fail;generalize w1.alloc (.cells #[.string ⟨#[]⟩,.bool false,.string ⟨#[]⟩,.string ⟨#[]⟩,.slice none 0 0] 131)=w2 at *;generalize hX:w1.heap.size=X at *;have HX:=zC hX;clear hX h1 hp1 g1;refine(Ub h2 hS).mono ?_;rintro e w3 ⟨a,rfl,ha,h3,g3⟩;have HA:=zC ha;clear ha;generalize hx:(j4 (ByteArray.empty,0) (zN (.ok s1) (yA S))).1=x;have HXN:=zC hx;clear hx;have X3:=X2.kp g3 (by simp;omega);have x0:=X3.cl 0 _ rfl;have xf:=X3.fz;have h4:=h3.kp (Ch.setCell (X:=[X]) w3 (p:=⟨X,0,none⟩) (by simp) (.string x)) (by simp;omega);have X4:=X3.set 0 (.string x);have g4:Ch [b] w (w3.setCell ⟨X,0,none⟩ (.string x)):=(g2.trans g3).setCell_new (Or.inr zX) _;go_wp2_with fail;have hp4:=hp.kp g4;clear X3 x0 xf h3 g3 X2 h2 hp2 g2;generalize w3.setCell ⟨X,0,none⟩ (.string x)=w4 at *;refine(Eb h4 hp4 _ _).mono ?_;rintro e w5 ⟨rfl,h5,g5⟩;have X5:=X4.kp g5 (by simp;omega);have g45:=g4.trans g5;clear X4 h4 hp4 g4 g5;generalize hσ5:yF (yd (zN (.ok s1) (yA S))) (zL (ZS (yy sv) (yz cv) x) 4 a)=σ5 at *
 have RB:Hd (r=zN σ5 (JA S x)):=by
  show _=_
  rw[RE.o,<- hσ5];have e1:=HXN.o;have e2:=HA.o;simp only[zN]at e1 e2 ⊢
  cases hnm:yA S s1 with
  |error d=>rfl
  |ok p=>
   obtain⟨⟨y,p⟩,s2⟩:=p;rw[hnm]at e1;have:=e2 y p s2 hnm;subst this;simp only[j4]at e1;subst e1
   try rfl
 clear hσ5 RE HA HXN;go_wp2_with fail;refine(NA h5 hS _ (by omega)).mono ?_;rintro e w6 ⟨rfl,h6,g6⟩;have X6:=X5.kp g6 (by simp;omega);have g46:=g45.trans g6;clear X5 h5 g45 g6
 cases hq:QR S 123 σ5 with
 |false=>
  have RC:Hd (r=zN (yF σ5 (St.sk S)) (fun s=>match jG S s with|.error d=> .error d|.ok ((a,c),s3)=> .ok (⟨x,true,a,c,[]⟩,s3))):=by
   show _=_
   rw[RB.o]
   cases σ5 with
   |error d=>rfl
   |ok s5=>
    simp only[QR]at hq;simp only[zN,yF,JA];rw[if_neg (by simpa using hq)]
  clear RB hq;go_wp2_with fail;refine(Ta h6 hS X6 (by omega)).mono ?_;rintro e W ⟨A,C,rfl,XW,hAC,PW,g7⟩;have gW:Ch [b] w W:=g46.trans' g7 (by intro k hk;simp at hk;rcases hk with rfl|rfl;exact Or.inl (by simp);exact Or.inr zX)
  have FINAL:=zC (K4 (S:=S) hp gW hlo hbl hn (x:=x) (sw:=true) (A:=A) (C:=C) (vr:= .slice none 0 0) PW (r:=r) (by
   have e:=RC.o;have e2:=hAC;generalize yF σ5 (St.sk S)=σ6 at *
   cases σ6 with
   |error d=>exact Or.inr ⟨d,e,rfl⟩
   |ok s6=>
    simp only[zN]at e e2 ⊢
    cases hsw:jG S s6 with
    |error d=>rw[hsw]at e;exact Or.inr ⟨d,e,rfl⟩
    |ok p=>
     obtain⟨⟨A',C'⟩,s7⟩:=p;rw[hsw]at e;obtain⟨rfl,rfl⟩:=e2 A' C' s7 hsw
     exact Or.inl ⟨_,s7,fun _=>False,e,rfl,rfl,rfl,rfl,rfl,⟨by simp[Value.ownBlock],[],rfl,World.ownsRow_nil _ _ _ _,by simp⟩,by simp⟩))
  clear RC hAC PW g7 X6 h6 g46;have hpW:=hp.kp gW;have dW:=hpW.blk.cl 0 _ rfl;have dfW:=hpW.blk.fz;have y0:=XW.cl 0 _ rfl;have y1:=XW.cl 1 _ rfl;have y2:=XW.cl 2 _ rfl;have y3:=XW.cl 3 _ rfl;have y4:=XW.cl 4 _ rfl;have gAl:Ch [] W (W.drew.alloc (.cells #[.string x,.bool true,.string A,.string C,.slice none 0 0] 131)):=(Ch.drew [] W).trans (Ch.alloc _ _ _);have OWN:=zJ hpW.rs gAl (by simp);have BLK:=hpW.blk.kp gAl (by simp);have bal:=(hpW.blk.kp (Ch.alloc [] W (.cells #[.string x,.bool true,.string A,.string C,.slice none 0 0] 131)) (by simp)).cl 0 _ rfl;have NEW:(W.drew.alloc (.cells #[.string x,.bool true,.string A,.string C,.slice none 0 0] 131)).heap[W.heap.size]? =some (.cells [.string x,.bool true,.string A,.string C,.slice none 0 0].toArray 131):=zr W.drew _
  have ZN:(W.drew.alloc (.cells #[.string x,.bool true,.string A,.string C,.slice none 0 0] 131)).heap.size=W.heap.size+1:=by show(W.heap.push _).size=_;simp
  have NDD:Hd (d∉(Value.slice a0 sv.length c0).ownBlock.toList):=by show ¬_;simp;intro e;exact(hp.bs d e).2.2.1 rfl
  go_wp2_with fail
  go_region_law ((refine Zc 37 131 5 80 (.agg #[.string ⟨#[]⟩,.bool false,.string ⟨#[]⟩,.string ⟨#[]⟩,.slice none 0 0]) Tryz.underlying37 Xg rfl (by omega) (by omega) (by rfl) _ _ (by rfl) (.slice a0 sv.length c0) sv.length (JH sv) (by rfl) OWN W.heap.size [.string x,.bool true,.string A,.string C,.slice none 0 0] (by rfl) NEW rfl (by intro u hu;simp at hu;rcases hu with rfl|rfl|rfl|rfl|rfl <;>rfl) (by omega) (W.heap.size+1) ZN ?_;intro g cap w7 own7 gr7 hat7 hlt7;have B7:=BLK.kp gr7 NDD.o;have b70:=B7.cl 0 _ rfl;have b7f:=B7.fz))
  all_goals
   go_wp2_with fail
   go_end0
   exact FINAL.o _ _ _ own7 gr7 hat7
 |true=>
  have RC:Hd (r=match zN (zN (yF σ5 (St.sk S)) (zh S 123)) (fun s=>jj S (S.size+1) s [])with
   |.error d=> .error d
   |.ok (R,s4)=>match zh S 125 s4 with|.error d=> .error d|.ok s5=> .ok (⟨x,false,ByteArray.empty,ByteArray.empty,R⟩,s5)):=by
   show _=_
   rw[RB.o]
   cases σ5 with
   |error d=>rfl
   |ok s5=>
    simp only[QR]at hq;simp only[zN,yF,JA];rw[if_pos (by simpa using hq)]
    cases zh S 123 (s5.sk S) <;>rfl
  clear RB hq;go_wp2_with fail;refine(Yi h6 hS _ (by omega)).mono ?_;rintro e w7 ⟨rfl,h7,g7⟩;have X7:=X6.kp g7 (by simp;omega);have g47:=g46.trans g7;generalize hσ7:zN (yF σ5 (St.sk S)) (zh S 123)=σ7 at *;clear hσ7 X6 h6 g46 g7;generalize hrr:zN σ7 (fun s=>jj S (S.size+1) s [])=rr at *;have zX7:=X7.lt
  have START:Hd (Kb S w7 b X nest x rr w7):=by
   refine⟨Ch.refl _ _,.slice none 0 0,0,[],X7,World.ownsRow_nil _ _ _ _,by simp[Value.ownBlock],?_⟩
   cases σ7 with
   |error d=>exact Or.inr ⟨d,h7,hrr.symm⟩
   |ok s7=>exact Or.inl ⟨[],s7,fun _=>False,S.size+1,h7.1,h7.2,rfl,rfl,by simp,by simp,by simp,by omega,hrr.symm⟩
  have bX:b<X:=by omega
  clear hrr h7 X7;go_wp2_with fail
  go_loopw [10] (fun _ w8=>Kb S w7 b X nest x rr w8) (fun _ w8=>penM b S.size w8)
  case atStart=>exact START.o
  case round=>
   clear START;generalize wr=w8 at *;obtain⟨g8,vr,n0,xs,X8,O8,V8,⟨rv,s5,G,m,h8,hi8,rfl,rfl,hR8,hG8,hle8,hm8,hrr⟩|⟨D,h8,hrr⟩⟩:=hrel
   ·obtain⟨va',vc',rfl⟩:=zQ O8
    obtain⟨m,rfl⟩:∃k,m=k+1:=⟨m - 1,by omega⟩;have hm0:Hd (penM b S.size w8=S.size+1 - s5.i):=h8.penM;have l5:=zn zI S s5.i hi8
    by_cases h91:bt S (run zI S s5.i)=91
    ·have q91:(bt S (run zI S s5.i)==91)=true:=by simp[h91]
     have l6:=yB (S:=S) (i:=run zI S s5.i) (by omega)
     have HRR:Hd (rr=match y9 S (zL (decide (6<=(rv.length:Int))) 3 (s5.sk S).i (s5.sk S))with
      |.error d=> .error d
      |.ok ((L,P),s1)=>jj S m s1 (rv.map (·.1)++[⟨L,P⟩])):=by
      show _=_
      rw[hrr];simp only[jj,h91,if_true,List.length_map]
     have NE:Hd (∀L P s1,y9 S (zL (decide (6<=(rv.length:Int))) 3 (s5.sk S).i (s5.sk S))= .ok ((L,P),s1)->s5.i<s1.i/\s1.i<=S.size):=by
      intro L P s1 e;have:=MX (by rw[(yj _ _ _ _).1];exact l5.2) e;rw[(yj _ _ _ _).1]at this;simp only[St.sk]at this;omega
     clear h91 hrr;go_wp2_with fail;refine(Wl h8 _ (by omega) hS hi8).mono ?_;rintro e w9 ⟨rfl,h9,g9⟩;have X9:=X8.kp g9 (by simp;omega);obtain⟨c0',c1',c2',c3',c4',c5',c6',fz'⟩:=h9.fa;have x4':=X9.cl 4 _ rfl;have h9':zO w9 b S (s5.sk S) (-1) nest:=h9;simp only at c1';go_wp2_with fail
     go_region_held3 (fun w'=>w'.cell? ⟨b,1,none⟩=some (.int .i64 (run zI S s5.i))/\w'.cell? ⟨X,4,none⟩=some (.slice va' rv.length vc')) (first|go_keep|(exact⟨e1,e9⟩))
      (first|(go_at_call 53;refine(QB (S:=S) (s:=s5.sk S) (nest:=nest) ?_ _ _ _).mono ?_;exact h9';rintro e w10 ⟨rfl,h10,g10⟩;obtain⟨e5,e1,e6⟩:=Uo h10;simp only[St.sk]at e1;have e9:=(X9.kp ((Ch.drew [b] _).trans g10) (by simp;omega)).cl 4 _ rfl))
     rename_i hHeld
     clear hHeld;have s9i:=(yj (decide ((6:Int)<=rv.length)) 3 (s5.sk S).i (s5.sk S)).1;have h10':zO w10 b S (zL (decide ((6:Int)<=rv.length)) 3 (s5.sk S).i (s5.sk S)) (-1) nest:=h10;generalize zL (decide ((6:Int)<=rv.length)) 3 (s5.sk S).i (s5.sk S)=s9 at *;have g810:Ch [b] w8 w10:=g9.trans ((Ch.drew _ _).trans g10)
     have i9:s5.i<=s9.i/\s9.i<=S.size:=by rw[s9i];exact l5
     clear e5 e1 e6 e9 s9i c0' c1' c2' c3' c4' c5' c6' fz' x4' h9' h10 h9 X9 q91;go_wp2_with fail;refine(Te (σ:= .ok s9) ⟨h10',i9.2⟩ hS).mono ?_;rintro e w11 ⟨_,_,rfl,⟨ai,ni,ci,rfl⟩,⟨ao,no,co,rfl⟩,hru,h11,g11⟩;have g811:=g810.trans g11;have X11:=X8.kp g811 (by simp;omega);have O11:=zJ O8 g811 (fun k hk=>by have:=V8 k hk;simp;omega);have gAA:Ch [] w11 ((w11.alloc (.cells #[.slice ai ni ci,.slice ao no co] 146)).alloc (.cells #[.slice ai ni ci,.slice ao no co] 146)):=(Ch.alloc [] w11 _).trans (Ch.alloc _ _ _);have O12:=zJ O11 gAA (by simp);have X12:=X11.kp gAA (by simp)
     have N12:((w11.alloc (.cells #[.slice ai ni ci,.slice ao no co] 146)).alloc (.cells #[.slice ai ni ci,.slice ao no co] 146)).heap[w11.heap.size+1]? =some (.cells [.slice ai ni ci,.slice ao no co].toArray 146):=by
      have:=zr (w11.alloc (.cells #[.slice ai ni ci,.slice ao no co] 146)) (.cells #[.slice ai ni ci,.slice ao no co] 146)
      simpa using this
     have x4':=X11.cl 4 _ rfl;have x4'':=(X11.kp (Ch.alloc [] w11 (.cells #[.slice ai ni ci,.slice ao no co] 146)) (by simp)).cl 4 _ rfl;have hX11:=X11.lt
     have fin:∀(g cap:Nat) (w13:World),w13.ownsRow 0 146 2 (.slice (some ⟨g,0,none⟩) (rv.length+1) cap) (rv.length+1) ((rv.flatMap fun p=>[p.2.1,p.2.2])++[.slice ai ni ci,.slice ao no co])->Ch (Value.slice va' rv.length vc').ownBlock.toList ((w11.alloc (.cells #[.slice ai ni ci,.slice ao no co] 146)).alloc (.cells #[.slice ai ni ci,.slice ao no co] 146)) w13->((Value.slice va' rv.length vc').ownBlock=some g\/g=w11.heap.size+2)->g<w13.heap.size->
      Kb S w7 b X nest x rr (w13.setCell ⟨X,4,none⟩ (.slice (some ⟨g,0,none⟩) (rv.length+1) cap))/\penM b S.size (w13.setCell ⟨X,4,none⟩ (.slice (some ⟨g,0,none⟩) (rv.length+1) cap))<S.size+1 - s5.i:=by
      intro g cap w13 own13 gr13 hat13 hlt13;have z11:=g811.size;have z8:=g8.size;have zAA:=gAA.size;have z13:=gr13.size;simp at z13
      have hg6:w7.heap.size<=g:=by
       rcases hat13 with e|e
       ·exact(V8 g e).1
       ·omega
      have nX:X∉(Value.slice va' rv.length vc').ownBlock.toList:=by simp;intro e;have:=V8 _ e;omega
      have nb:b∉(Value.slice va' rv.length vc').ownBlock.toList:=by simp;intro e;have:=V8 _ e;omega
      have X13:=X12.kp gr13 nX;have gX:Ch [X] w13 (w13.setCell ⟨X,4,none⟩ (.slice (some ⟨g,0,none⟩) (rv.length+1) cap)):=Ch.setCell _ (by simp) _;have P13:=((h11.kp gAA (by simp)).kp gr13 nb).kp gX (by simp;omega)
      have C13:Ch [b,X] w7 (w13.setCell ⟨X,4,none⟩ (.slice (some ⟨g,0,none⟩) (rv.length+1) cap)):=by
       refine Ch.trans (((g8.trans (g811.mono (by simp))).trans (gAA.mono (by simp))).trans' gr13 (fun k hk=> ?_)) (gX.mono (by simp));simp at hk;exact Or.inr (V8 k hk).1
      have O13:=zJ own13 gX (fun k hk=>by simp[Value.ownBlock]at hk;subst hk;simp;omega)
      have V13:∀k,(Value.slice (some ⟨g,0,none⟩) (rv.length+1) cap).ownBlock=some k->w7.heap.size<=k/\k<(w13.setCell ⟨X,4,none⟩ (.slice (some ⟨g,0,none⟩) (rv.length+1) cap)).heap.size:=by
       intro k hk;simp[Value.ownBlock]at hk;subst hk;exact⟨hg6,by simp[World.setCell];omega⟩
      have e:=HRR.o;have e2:=hru;simp only[zN]at P13 e2
      cases hru1:y9 S s9 with
      |error D=>
       rw[hru1]at e P13;have P14:zj (w13.setCell ⟨X,4,none⟩ (.slice (some ⟨g,0,none⟩) (rv.length+1) cap)) b S D:=P13;refine⟨⟨C13,_,rv.length+1,_,X13.set 4 _,O13,V13,Or.inr ⟨D,P14,e⟩⟩,?_⟩;rw[P14.penM];omega
      |ok p=>
       obtain⟨⟨L,P⟩,s1⟩:=p;rw[hru1]at e P13;have P14:zO (w13.setCell ⟨X,4,none⟩ (.slice (some ⟨g,0,none⟩) (rv.length+1) cap)) b S s1 (-1) nest:=P13.1;obtain⟨n1,n2⟩:=NE.o L P s1 hru1;have RR:=e2 L P s1 hru1
       have fr:∀k,k<w11.heap.size->(Value.slice va' rv.length vc').ownBlock≠some k->k≠X->(w13.setCell ⟨X,4,none⟩ (.slice (some ⟨g,0,none⟩) (rv.length+1) cap)).heap[k]? =w11.heap[k]? :=by
        intro k a1 a2 a3;rw[Below.heap_setCell _ _ _ _ (by simpa using a3),gr13.block k (by simp;omega) (by simpa using a2),gAA.block k a1 (by simp)]
       refine⟨⟨C13,_,rv.length+1,_,X13.set 4 _,O13,V13,Or.inl ⟨rv++[(⟨L,P⟩,(.slice ai ni ci,.slice ao no co))],s1,fun k=>G k\/(w10.heap.size<=k/\k<w11.heap.size),m,P14,n2,by simp,by simp,?_,?_,by omega,by omega,by simpa using e⟩⟩,?_⟩
       ·intro p hp'
        rcases List.mem_append.1 hp' with h1|h1
        ·refine(hR8 p h1).frame (fun k hk=> ?_) (fun _ h=>Or.inl h)
         obtain⟨a1,a2,a3⟩:=hG8 k hk;rw[fr k (by omega) a3 (by omega),g811.block k a2 (by simp;omega)]
        ·simp at h1
         subst h1;refine RR.frame (fun k hk=>fr k hk.2 (fun e=> ?_) ?_) (fun _ h=>Or.inr h)
         ·have:=V8 k e;have:=g810.size;omega
         ·have:=g810.size;omega
       ·intro k hk
        have q:=g810.size
        rcases hk with hk|hk
        ·obtain⟨a1,a2,a3⟩:=hG8 k hk
         refine⟨a1,by simp[World.setCell];omega,?_⟩;simp only[Value.ownBlock,ne_eq,Option.some.injEq];rintro rfl
         rcases hat13 with e|e
         ·exact a3 e
         ·omega
        ·refine⟨by omega,by simp[World.setCell];omega,?_⟩
         simp only[Value.ownBlock,ne_eq,Option.some.injEq];rintro rfl
         rcases hat13 with e|e
         ·have:=V8 _ e;omega
         ·omega
       ·rw[P14.penM];omega
     have FN:=zC fin;have V8x:=zC V8;clear fin hru V8 hR8 hG8 HRR NE;go_wp2_with (at_builtin;refine QC 129 146 2 48 (.agg #[.slice none 0 0,.slice none 0 0]) Tryz.underlying129 OC rfl (by omega) (by omega) (by rfl) _ _ (by rfl) (.slice va' rv.length vc') rv.length _ (by rfl) O12 (w11.heap.size+1) [.slice ai ni ci,.slice ao no co] (by rfl) N12 rfl (by simp;exact⟨rfl,rfl⟩) (by omega) (w11.heap.size+2) (by simp) ?_;intro g cap w13 own13 gr13 hat13 hlt13;have X13:=X12.kp gr13 (by simp;intro e;have:=V8x.o _ e;omega);have x13:=X13.cl 4 _ rfl;have f13:=X13.fz);obtain⟨A1,A2⟩:=FN.o g cap w13 own13 gr13 hat13 hlt13;go_roundw
     case rel=>exact A1
     case measure=>rw[hm0.o];exact A2
    ·have q91:(bt S (run zI S s5.i)==91)=false:=by simp[h91]
     have HRR:Hd (rr= .ok (rv.map (·.1),s5.sk S)):=by
      show _=_
      rw[hrr];simp only[jj,h91,if_false]
     clear h91 hrr;go_wp2_with fail;refine(Wl h8 _ (by omega) hS hi8).mono ?_;rintro e w9 ⟨rfl,h9,g9⟩;go_wp2_with fail;refine(Yi (σ:= .ok (s5.sk S)) ⟨h9,l5.2⟩ hS _ (by omega)).mono ?_;rintro e W ⟨rfl,PW,g10⟩;have g8W:Ch [b] w8 W:=g9.trans g10;have XW:=X8.kp g8W (by simp;omega);have gW:Ch [b] w W:=(g47.trans' g8 (by intro k hk;simp at hk;rcases hk with rfl|rfl;exact Or.inl (by simp);exact Or.inr zX)).trans g8W;have z47:=g47.size;have z8:=g8.size
     have FINAL:=zC (K4 (S:=S) hp gW hlo hbl hn (x:=x) (sw:=false) (A:=⟨#[]⟩) (C:=⟨#[]⟩) (vr:= .slice va' rv.length vc') PW (r:=r) (by
      have e:=RC.o;rw[HRR.o]at e;simp only at e
      cases hs:zh S 125 (s5.sk S)with
      |error d=>rw[hs]at e;exact Or.inr ⟨d,e,by simp[zN,hs]⟩
      |ok s6=>
       rw[hs]at e;refine Or.inl ⟨_,s6,fun k=>G k\/(Value.slice va' rv.length vc').ownBlock=some k,e,by simp[zN,hs],rfl,rfl,rfl,rfl,⟨fun g hg=>Or.inr hg,rv,rfl,zJ O8 g8W (fun k hk=>by have:=V8 k hk;simp;omega),fun p hp'=>(hR8 p hp').frame (fun k hk=>g8W.block k (hG8 k hk).2.1 (by have:=hG8 k hk;simp;omega)) (fun _ h=>Or.inl h)⟩,?_⟩;intro k hk;have:=g8W.size
       rcases hk with hk|hk
       ·have:=hG8 k hk;omega
       ·have:=V8 k hk;omega))
     clear RC PW HRR hR8 hG8 V8 g8W g9 g10 h9 h8 X8 O8 hle8 hm8;have hpW:=hp.kp gW;have dW:=hpW.blk.cl 0 _ rfl;have dfW:=hpW.blk.fz;have y0:=XW.cl 0 _ rfl;have y1:=XW.cl 1 _ rfl;have y2:=XW.cl 2 _ rfl;have y3:=XW.cl 3 _ rfl;have y4:=XW.cl 4 _ rfl;have gAl:Ch [] W (W.drew.alloc (.cells #[.string x,.bool false,.string ⟨#[]⟩,.string ⟨#[]⟩,(.slice va' rv.length vc')] 131)):=(Ch.drew [] W).trans (Ch.alloc _ _ _);have OWN:=zJ hpW.rs gAl (by simp);have BLK:=hpW.blk.kp gAl (by simp);have bal:=(hpW.blk.kp (Ch.alloc [] W (.cells #[.string x,.bool false,.string ⟨#[]⟩,.string ⟨#[]⟩,(.slice va' rv.length vc')] 131)) (by simp)).cl 0 _ rfl;have NEW:(W.drew.alloc (.cells #[.string x,.bool false,.string ⟨#[]⟩,.string ⟨#[]⟩,(.slice va' rv.length vc')] 131)).heap[W.heap.size]? =some (.cells [.string x,.bool false,.string ⟨#[]⟩,.string ⟨#[]⟩,(.slice va' rv.length vc')].toArray 131):=zr W.drew _
     have ZN:(W.drew.alloc (.cells #[.string x,.bool false,.string ⟨#[]⟩,.string ⟨#[]⟩,(.slice va' rv.length vc')] 131)).heap.size=W.heap.size+1:=by show(W.heap.push _).size=_;simp
     have NDD:Hd (d∉(Value.slice a0 sv.length c0).ownBlock.toList):=by show ¬_;simp;intro e;exact(hp.bs d e).2.2.1 rfl
     go_wp2_with fail
     go_region_law ((refine Zc 37 131 5 80 (.agg #[.string ⟨#[]⟩,.bool false,.string ⟨#[]⟩,.string ⟨#[]⟩,.slice none 0 0]) Tryz.underlying37 Xg rfl (by omega) (by omega) (by rfl) _ _ (by rfl) (.slice a0 sv.length c0) sv.length (JH sv) (by rfl) OWN W.heap.size [.string x,.bool false,.string ⟨#[]⟩,.string ⟨#[]⟩,(.slice va' rv.length vc')] (by rfl) NEW rfl (by intro u hu;simp at hu;rcases hu with rfl|rfl|rfl|rfl|rfl <;>rfl) (by omega) (W.heap.size+1) ZN ?_;intro g cap w7 own7 gr7 hat7 hlt7;have B7:=BLK.kp gr7 NDD.o;have b70:=B7.cl 0 _ rfl;have b7f:=B7.fz))
     all_goals
      go_wp2_with fail
      go_end0
      exact FINAL.o _ _ _ own7 gr7 hat7
   ·obtain⟨va',vc',rfl⟩:=zQ O8
    have HRR:=zC hrr;clear hrr;go_wp2_with fail;refine(Up h8 _).mono ?_;rintro e w9 ⟨rfl,h9,g9⟩;go_wp2_with fail;refine(Us h9 _).mono ?_;rintro e W ⟨rfl,PW,g10⟩;have g8W:Ch [b] w8 W:=g9.trans g10;have XW:=X8.kp g8W (by simp;omega);have gW:Ch [b] w W:=(g47.trans' g8 (by intro k hk;simp at hk;rcases hk with rfl|rfl;exact Or.inl (by simp);exact Or.inr zX)).trans g8W
    have FINAL:=zC (K4 (S:=S) hp gW hlo hbl hn (x:=x) (sw:=false) (A:=⟨#[]⟩) (C:=⟨#[]⟩) (vr:= .slice va' n0 vc') (nest:=nest) (τ:= .error D) PW (r:=r) (by
     have e:=RC.o;rw[HRR.o]at e
     exact Or.inr ⟨D,e,rfl⟩))
    clear RC PW HRR V8 g8W g9 g10 h9 h8 X8 O8;have hpW:=hp.kp gW;have dW:=hpW.blk.cl 0 _ rfl;have dfW:=hpW.blk.fz;have y0:=XW.cl 0 _ rfl;have y1:=XW.cl 1 _ rfl;have y2:=XW.cl 2 _ rfl;have y3:=XW.cl 3 _ rfl;have y4:=XW.cl 4 _ rfl;have gAl:Ch [] W (W.drew.alloc (.cells #[.string x,.bool false,.string ⟨#[]⟩,.string ⟨#[]⟩,(.slice va' n0 vc')] 131)):=(Ch.drew [] W).trans (Ch.alloc _ _ _);have OWN:=zJ hpW.rs gAl (by simp);have BLK:=hpW.blk.kp gAl (by simp);have bal:=(hpW.blk.kp (Ch.alloc [] W (.cells #[.string x,.bool false,.string ⟨#[]⟩,.string ⟨#[]⟩,(.slice va' n0 vc')] 131)) (by simp)).cl 0 _ rfl;have NEW:(W.drew.alloc (.cells #[.string x,.bool false,.string ⟨#[]⟩,.string ⟨#[]⟩,(.slice va' n0 vc')] 131)).heap[W.heap.size]? =some (.cells [.string x,.bool false,.string ⟨#[]⟩,.string ⟨#[]⟩,(.slice va' n0 vc')].toArray 131):=zr W.drew _
    have ZN:(W.drew.alloc (.cells #[.string x,.bool false,.string ⟨#[]⟩,.string ⟨#[]⟩,(.slice va' n0 vc')] 131)).heap.size=W.heap.size+1:=by show(W.heap.push _).size=_;simp
    have NDD:Hd (d∉(Value.slice a0 sv.length c0).ownBlock.toList):=by show ¬_;simp;intro e;exact(hp.bs d e).2.2.1 rfl
    go_wp2_with fail
    go_region_law ((refine Zc 37 131 5 80 (.agg #[.string ⟨#[]⟩,.bool false,.string ⟨#[]⟩,.string ⟨#[]⟩,.slice none 0 0]) Tryz.underlying37 Xg rfl (by omega) (by omega) (by rfl) _ _ (by rfl) (.slice a0 sv.length c0) sv.length (JH sv) (by rfl) OWN W.heap.size [.string x,.bool false,.string ⟨#[]⟩,.string ⟨#[]⟩,(.slice va' n0 vc')] (by rfl) NEW rfl (by intro u hu;simp at hu;rcases hu with rfl|rfl|rfl|rfl|rfl <;>rfl) (by omega) (W.heap.size+1) ZN ?_;intro g cap w7 own7 gr7 hat7 hlt7;have B7:=BLK.kp gr7 NDD.o;have b70:=B7.cl 0 _ rfl;have b7f:=B7.fz))
    all_goals
     go_wp2_with fail
     go_end0
     exact FINAL.o _ _ _ own7 gr7 hat7
def jl(S:ByteArray)(ns:List ByteArray):Nat->St->List Int->Except Nat (List Int×St)
 |0,s,_=> .error s.i
 |n+1,s,L=>
  match yA S s with
  |.error d=> .error d
  |.ok ((y,p),s1)=>
   if bt S (run zI S (zL (decide (zy ns y<0)) 5 p (zL (decide (3<=(L.length:Int))) 3 p s1)).i)=59 then .ok (L++[zy ns y],(zL (decide (zy ns y<0)) 5 p (zL (decide (3<=(L.length:Int))) 3 p s1)).sk S)
   else jl S ns n ((zL (decide (zy ns y<0)) 5 p (zL (decide (3<=(L.length:Int))) 3 p s1)).sk S) (L++[zy ns y])
def jx(S:ByteArray)(ns nc:List ByteArray)(at1:Int)(s:St):Except Nat (zZ×St):=
 match yA S (zL (decide (4<=(nc.length:Int))) 3 at1 s)with
 |.error d=> .error d
 |.ok ((x,a),s1)=>
  match zh S 61 (zL (ZS ns nc x) 4 a s1)with
  |.error d=> .error d
  |.ok s2=>
   match jl S ns (S.size+1) s2 []with
   |.error d=> .error d
   |.ok (L,s3)=>
    match zh S 59 s3 with
    |.error d=> .error d
    |.ok s4=> .ok (⟨x,L⟩,s4)
def MY(w:World)(lo b d:Nat)(S:ByteArray)(nest:Int)(vs _vc va:Value)(sv:List (zH×Value))(cv:List (zZ×Value))(av:List (ze×Value))(r:Except Nat (zZ×St))(e:Ending)(w':World):Prop:=
 e= .returned (.tuple #[])/\Below lo w w'/\((∃D s' vr F' vc',r= .ok (D,s')/\zO w' b S s' (-1) nest/\s'.i<=S.size/\jQ w' lo b d F' vs vc' va sv (cv++[(D,vr)]) av)\/(∃Dd,r= .error Dd/\zj w' b S Dd))
def Di(S:ByteArray)(w0:World)(b X:Nat)(nest:Int)(x:ByteArray)(ns:List ByteArray)(r:Except Nat (List Int×St))(again:Value)(w5:World):Prop:=
 Ch [b,X] w0 w5/\∃(vr:Value) (n:Nat) (xs:List Value),zE w5 X #[.string x,vr] 52/\w5.ownsRow 0 3 1 vr n xs/\n<=500/\(∀g,vr.ownBlock=some g->w0.heap.size<=g/\g<w5.heap.size)/\
  ((∃(L:List Int) (s5:St),zO w5 b S s5 (-1) nest/\s5.i<=S.size/\n=L.length/\xs=L.map (Value.int .i64)/\((again= .bool true/\n<=s5.i/\∃m,S.size<m+s5.i/\r=jl S ns m s5 L)\/(again= .bool false/\r= .ok (L,s5))))\/
   (∃D,zj w5 b S D/\r= .error D/\∃q,again= .bool q))
theorem BB{w W:World}{lo b d:Nat}{S:ByteArray}{nest:Int}{F:Nat->Prop}{a0:Option Addr}{c0:Nat}{vs va:Value}{sv:List (zH×Value)}{cv:List (zZ×Value)}{av:List (ze×Value)}(hp:jQ w lo b d F vs (.slice a0 cv.length c0) va sv cv av)(gW:Ch [b] w W)(hlo:lo<=b)(hbl:b<w.heap.size)(hn:cv.length<450)
 {x:ByteArray} {vr:Value} {τ:Except Nat St} (PW:PS W b S nest τ) {r:Except Nat (zZ×St)}
 (hr:(∃D s' G,r= .ok (D,s')/\τ= .ok s'/\D.name=x/\j9 W G vr D.scrubs/\(∀k,G k->w.heap.size<=k/\k<W.heap.size))\/(∃Dd,r= .error Dd/\τ= .error Dd)):
 ∀(g cap:Nat) (w7:World),w7.ownsRow 0 52 2 (.slice (some ⟨g,0,none⟩) (cv.length+1) cap) (cv.length+1) (jI cv++[.string x,vr])->Ch (Value.slice a0 cv.length c0).ownBlock.toList (W.drew.alloc (.cells #[.string x,vr] 52)) w7->((Value.slice a0 cv.length c0).ownBlock=some g\/g=W.heap.size+1)->
  MY w lo b d S nest vs (.slice a0 cv.length c0) va sv cv av r (.returned (.tuple #[])) (w7.setCell ⟨d,1,none⟩ (.slice (some ⟨g,0,none⟩) (cv.length+1) cap)):=by
 intro g cap w7 own7 gr7 hat7;have gA:Ch [] W (W.drew.alloc (.cells #[.string x,vr] 52)):=(Ch.drew [] W).trans (Ch.alloc _ _ _);have gB:Ch [b] w (W.drew.alloc (.cells #[.string x,vr] 52)):=gW.trans (gA.mono (by simp));have Yu:=hp.kp gB
 have zA:(W.drew.alloc (.cells #[.string x,vr] 52)).heap.size=W.heap.size+1:=by
  show(W.heap.push _).size=_;simp
 have zW:=gW.size
 have nb:b∉(Value.slice a0 cv.length c0).ownBlock.toList:=by simp;intro e;exact(hp.bc b e).2.1 rfl
 have gD:Ch [d] w7 (w7.setCell ⟨d,1,none⟩ (.slice (some ⟨g,0,none⟩) (cv.length+1) cap)):=Ch.setCell _ (by simp) _;have P7:PS (w7.setCell ⟨d,1,none⟩ (.slice (some ⟨g,0,none⟩) (cv.length+1) cap)) b S nest τ:=((PW.kp gA (by simp)).kp gr7 nb).kp gD (by simpa using hp.bd);refine⟨rfl,?_,?_⟩
 ·refine((gB.below (by omega) (by simp;omega)).trans ((gr7.below (by omega) ?_).trans (gD.below (by have:=gr7.size;omega) (by simp;exact hp.dlo))))
  intro k hk;simp at hk;exact(hp.bc k hk).1
 ·rcases hr with⟨D,s',G,rfl,rfl,rfl,hR,hG⟩|⟨Dd,rfl,rfl⟩
  ·refine Or.inl ⟨D,s',vr,fun k=>F k\/G k,.slice (some ⟨g,0,none⟩) (cv.length+1) cap,rfl,P7.1,P7.2,?_⟩
   have hR':j9 (W.drew.alloc (.cells #[.string D.name,vr] 52)) G vr D.scrubs:=hR.frame (fun k hk=>gA.block k (hG k hk).2 (by simp)) (fun _ h=>h);refine Yu.addChain (H:=W.heap.size+1) hn (fun k hk=> ?_) hR' own7 gr7 hat7 (by omega) (by omega) (by omega);have h1:=hG k hk;refine⟨by omega,by omega,by omega,by have:=hp.blk.lt;omega,fun e=> ?_,fun e=> ?_,fun e=> ?_⟩
   ·have:=(hp.rs.lt k e).2;omega
   ·have:=(hp.rc.lt k e).2;omega
   ·have:=(hp.ra.lt k e).2;omega
  ·exact Or.inr ⟨Dd,rfl,P7⟩
theorem SL{w:World}{lo b d:Nat}{S:ByteArray}{nest:Int}{s:St}{F:Nat->Prop}{vs vc va:Value}{sv:List (zH×Value)}{cv:List (zZ×Value)}{av:List (ze×Value)}(h:zO w b S s (-1) nest)(hi:s.i<=S.size)(hS:S.size<=400)(hp:jQ w lo b d F vs vc va sv cv av)(hn:cv.length<450)(hlo:lo<=b)(at1:Int):
 Calls Tryz.prog 32 #[.pointer (some ⟨b,0,none⟩),.pointer (some ⟨d,0,none⟩),.int .i64 at1] w (MY w lo b d S nest vs vc va sv cv av (jx S (yy sv) (yz cv) at1 s)):=by
 obtain⟨a0,c0,rfl⟩:=zQ hp.rc;have d0:=hp.blk.cl 1 _ rfl;have hbl:=h.lt;go_enter Tryz.func32,Tryz.ntmps32;go_wp2_with fail;refine(YP (σ:= .ok s) ⟨h,hi⟩ _ _ _).mono ?_;rintro e w1 ⟨rfl,h1,g1⟩;simp only[yF]at h1
 have RE:Hd (jx S (yy sv) (yz cv) at1 s=match yA S (zL (decide (4<=(cv.length:Int))) 3 at1 s)with
  |.error d=> .error d
  |.ok ((x,a),s1)=>
   match zh S 61 (zL (ZS (yy sv) (yz cv) x) 4 a s1)with
   |.error d=> .error d
   |.ok s2=>
    match jl S (yy sv) (S.size+1) s2 []with
    |.error d=> .error d
    |.ok (L,s3)=>
     match zh S 59 s3 with
     |.error d=> .error d
     |.ok s4=> .ok (⟨x,L⟩,s4)):=by
  show _=_;simp only[jx,yz,List.length_map]
 generalize hr:jx S (yy sv) (yz cv) at1 s=r at *;clear hr;generalize zL (decide (4<=(cv.length:Int))) 3 at1 s=s1 at *;clear d0;go_wp2_with fail;refine(Ub h1 hS).mono ?_;rintro e w3 ⟨a,rfl,ha,h3,g3⟩;have HA:=zC ha;clear ha;generalize hx:(j4 (ByteArray.empty,0) (zN (.ok s1) (yA S))).1=x;have HXN:=zC hx;clear hx;have g13:=g1.trans g3;have hp3:=hp.kp g13;go_wp2_with fail;refine(Eb h3 hp3 _ _).mono ?_;rintro e w5 ⟨rfl,h5,g5⟩;have g15:=g13.trans g5;have hp5:=hp.kp g15;have zX:=g15.size;have h6:=h5.kp (Ch.alloc [] w5 (.cells #[.string x,.slice none 0 0] 52)) (by simp);have X6:=zE.new w5 #[.string x,.slice none 0 0] 52;have g16:Ch [b] w (w5.alloc (.cells #[.string x,.slice none 0 0] 52)):=g15.trans (Ch.alloc _ _ _);have bX:=h5.lt;have dX:=hp5.blk.lt;generalize hσ5:yF (yd (zN (.ok s1) (yA S))) (zL (ZS (yy sv) (yz cv) x) 4 a)=σ5 at *
 have RB:Hd (r=match zN (zN σ5 (zh S 61)) (fun s=>jl S (yy sv) (S.size+1) s [])with
  |.error d=> .error d
  |.ok (L,s3)=>match zh S 59 s3 with|.error d=> .error d|.ok s4=> .ok (⟨x,L⟩,s4)):=by
  show _=_
  rw[RE.o,<- hσ5];have e1:=HXN.o;have e2:=HA.o;simp only[zN]at e1 e2 ⊢
  cases hnm:yA S s1 with
  |error d=>rfl
  |ok p=>
   obtain⟨⟨y,p⟩,s2⟩:=p;rw[hnm]at e1;have:=e2 y p s2 hnm;subst this;simp only[j4]at e1;subst e1;simp only[yd,yF]
   cases zh S 61 (zL (ZS (yy sv) (yz cv) y) 4 p s2) <;>rfl
 clear hσ5 RE HA HXN h3 h5 g5 g3 g13 hp3 hp5 g1 h1;go_wp2_with fail;generalize w5.alloc (.cells #[.string x,.slice none 0 0] 52)=w6 at *;generalize hX:w5.heap.size=X at *;have HX:=zC hX;clear hX;refine(Yi h6 hS _ (by omega)).mono ?_;rintro e w7 ⟨rfl,h7,g7⟩;have X7:=X6.kp g7 (by simp;omega);have g17:=g16.trans g7;generalize hσ7:zN σ5 (zh S 61)=σ7 at *;clear hσ7 X6 h6 g16 g7 g15;generalize hrr:zN σ7 (fun s=>jl S (yy sv) (S.size+1) s [])=rr at *;have zX7:=X7.lt;have z17:=g17.size
 have START:Hd (Di S w7 b X nest x (yy sv) rr (.bool true) w7):=by
  refine⟨Ch.refl _ _,.slice none 0 0,0,[],X7,World.ownsRow_nil _ _ _ _,by omega,by simp[Value.ownBlock],?_⟩
  cases σ7 with
  |error d=>exact Or.inr ⟨d,h7,hrr.symm,_,rfl⟩
  |ok s7=>exact Or.inl ⟨[],s7,h7.1,h7.2,rfl,rfl,Or.inl ⟨rfl,by simp,S.size+1,by omega,hrr.symm⟩⟩
 clear hrr h7 X7;go_wp2_with fail
 go_loopw [9,10,11,12] (fun again _ _ _ w8=>Di S w7 b X nest x (yy sv) rr again w8) (fun again _ _ _ w8=>mP b S.size again w8)
 case atStart=>exact START.o
 case round=>
  clear START;generalize wr=w8 at *;obtain⟨g8,vr,n0,xs,X8,O8,hn500,V8,⟨L,s5,h8,hi8,rfl,rfl,⟨rfl,hle8,m,hm8,hrr⟩|⟨rfl,hrr⟩⟩|⟨D,h8,hrr,q,rfl⟩⟩:=hrel
  ·obtain⟨va',vc',rfl⟩:=zQ O8
   obtain⟨m,rfl⟩:∃k,m=k+1:=⟨m - 1,by omega⟩
   have hm0:Hd (mP b S.size (.bool true) w8=2 * (S.size+1 - s5.i)+1):=by show _=_;rw[Vg,h8.penM]
   have HRR:=zC hrr;clear hrr;have gw8:Ch [b] w w8:=g17.trans' g8 (by intro k hk;simp at hk;rcases hk with rfl|rfl;exact Or.inl (by simp);exact Or.inr (by omega));obtain⟨c0',c1',c2',c3',c4',c5',c6',fz'⟩:=h8.fa;go_wp2_with fail;refine(Ub (σ:= .ok s5) ⟨h8,hi8⟩ hS).mono ?_;rintro e w9 ⟨p9,rfl,hp9,h9,g9⟩;have HP9:=zC hp9;clear hp9 c0' c1' c2' c3' c4' c5' c6' fz';generalize hy:(j4 (ByteArray.empty,0) (zN (.ok s5) (yA S))).1=y;have HY:=zC hy;clear hy;have gw9:=gw8.trans g9;have hp9':=hp.kp gw9;go_wp2_with fail;refine(KT hp9'.blk hp9'.rs (by have:=hp9'.ns;omega) y).mono ?_;rintro e w9 ⟨rfl,rfl⟩;rw[show(sv.map fun p=>p.1.name)=yy sv from rfl];generalize hix:zy (yy sv) y=ix;have HIX:=zC hix;clear hix;have X9:=X8.kp g9 (by simp;omega);have x1':=X9.cl 1 _ rfl;go_wp2_with fail;refine(YP h9 _ _ _).mono ?_;rintro e w10 ⟨rfl,h10,g10⟩;go_wp2_with fail;refine(YP h10 _ _ _).mono ?_;rintro e w11 ⟨rfl,h11,g11⟩;have g811:Ch [b] w8 w11:=g9.trans (g10.trans g11);have X11:=X8.kp g811 (by simp;omega);have O11:=zJ O8 g811 (fun k hk=>by have:=V8 k hk;simp;omega);have O12:=zJ O11 (Ch.alloc [] w11 (.cells #[.int .i64 ix] 3)) (by simp);have X12:=X11.kp (Ch.alloc [] w11 (.cells #[.int .i64 ix] 3)) (by simp);have x1'':=X11.cl 1 _ rfl;have hX11:=X11.lt;have V8x:=zC V8;clear x1' X9 h9 h10;have z8:=g8.size;have z811:=g811.size;go_wp2_with (at_builtin;refine QC 50 3 1 8 (.int .i64 0) Tryz.underlying50 KY rfl (by omega) (by omega) (by rfl) _ _ (by rfl) (.slice va' L.length vc') L.length _ (by rfl) O12 w11.heap.size [.int .i64 ix] (by rfl) (zr _ _) rfl (by intro u hu;simp at hu;subst hu;rfl) (by omega) (w11.heap.size+1) (by simp) ?_;intro g cap w13 own13 gr13 hat13 hlt13;have X13:=X12.kp gr13 (by simp;intro e;have:=V8x.o _ e;omega);have x13:=X13.cl 1 _ rfl;have f13:=X13.fz)
   have hg6:w7.heap.size<=g:=by
    rcases hat13 with e|e
    ·exact(V8 g e).1
    ·omega
   have nb:b∉(Value.slice va' L.length vc').ownBlock.toList:=by simp;intro e;have:=V8 _ e;omega
   have gX:Ch [X] w13 (w13.setCell ⟨X,1,none⟩ (.slice (some ⟨g,0,none⟩) (L.length+1) cap)):=Ch.setCell _ (by simp) _;have P13:=((h11.kp (Ch.alloc [] w11 (.cells #[.int .i64 ix] 3)) (by simp)).kp gr13 nb).kp gX (by simp;omega)
   have C13:Ch [b,X] w7 (w13.setCell ⟨X,1,none⟩ (.slice (some ⟨g,0,none⟩) (L.length+1) cap)):=by
    refine Ch.trans (((g8.trans (g811.mono (by simp))).trans (Ch.alloc _ _ _)).trans' gr13 (fun k hk=> ?_)) (gX.mono (by simp));simp at hk;exact Or.inr (V8 k hk).1
   have O13:=zJ own13 gX (fun k hk=>by simp[Value.ownBlock]at hk;subst hk;simp;omega);have Y13:=X13.set 1 (.slice (some ⟨g,0,none⟩) (L.length+1) cap)
   have Z13:g<(w13.setCell ⟨X,1,none⟩ (.slice (some ⟨g,0,none⟩) (L.length+1) cap)).heap.size:=by simp[World.setCell];omega
   generalize w13.setCell ⟨X,1,none⟩ (.slice (some ⟨g,0,none⟩) (L.length+1) cap)=w14 at *;have e1:=HY.o;have e2:=HP9.o;have e3:=HIX.o;have e4:=HRR.o;simp only[zN]at e1 e2 P13;simp only[jl]at e4;clear HY HP9 HIX HRR X13 x13 f13 h11
   cases hnm:yA S s5 with
   |error D=>
    rw[hnm]at e4 P13;have P14:zj w14 b S D:=P13;have HRD:=zC e4;clear e1 e2 e3 e4 hnm;refine(Up P14 _).mono ?_;rintro e w15 ⟨rfl,h15,g15⟩;have z15:=g15.size;go_wp2_with fail;go_roundw
    case rel=>exact⟨C13.trans (g15.mono (by simp)),_,L.length+1,_,Y13.kp g15 (by simp;omega),zJ O13 g15 (fun k hk=>by simp[Value.ownBlock]at hk;subst hk;simp;omega),by omega,fun k hk=>by simp[Value.ownBlock]at hk;subst hk;omega,Or.inr ⟨D,h15,HRD.o,_,rfl⟩⟩
    case measure=>rw[hm0.o,Vg,h15.penM];omega
   |ok p=>
    obtain⟨⟨y',p'⟩,s6⟩:=p;obtain⟨n1,n2,n3,_⟩:=Vn hi8 hnm;rw[hnm]at e1 e4 P13;have e5:=e2 y' p' s6 hnm;subst e5;simp only[j4]at e1;subst e1;subst e3;simp only[yd,yF]at P13;simp only at e4;have i1:=(yj (decide (zy (yy sv) y'<0)) 5 p' (zL (decide (3<=(L.length:Int))) 3 p' s6)).1;rw[(yj (decide (3<=(L.length:Int))) 3 p' s6).1]at i1;generalize zL (decide (zy (yy sv) y'<0)) 5 p' (zL (decide (3<=(L.length:Int))) 3 p' s6)=s7 at *;have P14:zO w14 b S s7 (-1) nest:=P13.1
    have l7:s5.i<s7.i/\s7.i<=S.size:=by rw[i1];omega
    have l8:=zn zI S s7.i l7.2;generalize zy (yy sv) y'=iy at *;clear e2 hnm i1;refine(Wl P14 _ (by omega) hS l7.2).mono ?_;rintro e w15 ⟨rfl,h15,g15⟩;have z15:=g15.size
    by_cases h59:bt S (run zI S s7.i)=59
    ·have HRD:Hd (rr= .ok (L++[iy],s7.sk S)):=by show _=_;rw[e4];simp[h59]
     have q59:(bt S (run zI S s7.i)==59)=true:=by simp[h59]
     clear h59 e4;go_wp2_with fail;go_roundw
     case rel=>exact⟨C13.trans (g15.mono (by simp)),_,L.length+1,_,Y13.kp g15 (by simp;omega),zJ O13 g15 (fun k hk=>by simp[Value.ownBlock]at hk;subst hk;simp;omega),by omega,fun k hk=>by simp[Value.ownBlock]at hk;subst hk;omega,Or.inl ⟨L++[iy],s7.sk S,h15,l8.2,by simp,by simp,Or.inr ⟨rfl,HRD.o⟩⟩⟩
     case measure=>rw[hm0.o,Bs];omega
    ·have HRD:Hd (rr=jl S (yy sv) m (s7.sk S) (L++[iy])):=by show _=_;rw[e4];simp[h59]
     have q59:(bt S (run zI S s7.i)==59)=false:=by simp[h59]
     clear h59 e4;go_wp2_with fail;go_roundw
     case rel=>exact⟨C13.trans (g15.mono (by simp)),_,L.length+1,_,Y13.kp g15 (by simp;omega),zJ O13 g15 (fun k hk=>by simp[Value.ownBlock]at hk;subst hk;simp;omega),by omega,fun k hk=>by simp[Value.ownBlock]at hk;subst hk;omega,Or.inl ⟨L++[iy],s7.sk S,h15,l8.2,by simp,by simp,Or.inl ⟨rfl,by simp only[St.sk];omega,m,by simp only[St.sk];omega,HRD.o⟩⟩⟩
     case measure=>rw[hm0.o,Vg,h15.penM];simp only;omega
  ·obtain⟨va',vc',rfl⟩:=zQ O8
   have HRR:=zC hrr;clear hrr;obtain⟨c0',c1',c2',c3',c4',c5',c6',fz'⟩:=h8.fa;go_wp2_with fail;refine(Yi (σ:= .ok s5) ⟨h8,hi8⟩ hS _ (by omega)).mono ?_;rintro e W ⟨rfl,PW,g8W⟩;clear c0' c1' c2' c3' c4' c5' c6' fz';have XW:=X8.kp g8W (by simp;omega);have gW:Ch [b] w W:=(g17.trans' g8 (by intro k hk;simp at hk;rcases hk with rfl|rfl;exact Or.inl (by simp);exact Or.inr (by omega))).trans g8W;have z8:=g8.size
   have FINAL:=zC (BB (S:=S) hp gW hlo hbl hn (x:=x) (vr:= .slice va' L.length vc') PW (r:=r) (by
    have e:=RB.o;rw[HRR.o]at e;simp only at e
    cases hs:zh S 59 s5 with
    |error d=>rw[hs]at e;exact Or.inr ⟨d,e,by simp[zN,hs]⟩
    |ok s6=>
     rw[hs]at e;refine Or.inl ⟨_,s6,fun k=>(Value.slice va' L.length vc').ownBlock=some k,e,by simp[zN,hs],rfl,⟨fun g hg=>hg,zJ O8 g8W (fun k hk=>by have:=V8 k hk;simp;omega)⟩,?_⟩;intro k hk;have:=g8W.size
     have:=V8 k hk;omega))
   clear RB PW HRR V8 g8W h8 X8 O8;have hpW:=hp.kp gW;have dW:=hpW.blk.cl 1 _ rfl;have dfW:=hpW.blk.fz;have y0:=XW.cl 0 _ rfl;have y1:=XW.cl 1 _ rfl;have gAl:Ch [] W (W.drew.alloc (.cells #[.string x,.slice va' L.length vc'] 52)):=(Ch.drew [] W).trans (Ch.alloc _ _ _);have OWN:=zJ hpW.rc gAl (by simp);have BLK:=hpW.blk.kp gAl (by simp);have bal:=(hpW.blk.kp (Ch.alloc [] W (.cells #[.string x,.slice va' L.length vc'] 52)) (by simp)).cl 1 _ rfl;have NEW:(W.drew.alloc (.cells #[.string x,.slice va' L.length vc'] 52)).heap[W.heap.size]? =some (.cells [.string x,.slice va' L.length vc'].toArray 52):=zr W.drew _
   have ZN:(W.drew.alloc (.cells #[.string x,.slice va' L.length vc'] 52)).heap.size=W.heap.size+1:=by show(W.heap.push _).size=_;simp
   have NDD:Hd (d∉(Value.slice a0 cv.length c0).ownBlock.toList):=by show ¬_;simp;intro e;exact(hp.bc d e).2.2.1 rfl
   go_wp2_with fail
   go_region_law ((refine Zc 38 52 2 40 (.agg #[.string ⟨#[]⟩,.slice none 0 0]) Tryz.underlying38 Ef rfl (by omega) (by omega) (by rfl) _ _ (by rfl) (.slice a0 cv.length c0) cv.length (jI cv) (by rfl) OWN W.heap.size [.string x,.slice va' L.length vc'] (by rfl) NEW rfl (by intro u hu;simp at hu;rcases hu with rfl|rfl <;>rfl) (by omega) (W.heap.size+1) ZN ?_;intro g cap w7 own7 gr7 hat7 hlt7;have B7:=BLK.kp gr7 NDD.o;have b70:=B7.cl 1 _ rfl;have b7f:=B7.fz))
   all_goals
    go_wp2_with fail
    go_end0
    exact FINAL.o _ _ _ own7 gr7 hat7
  ·obtain⟨va',vc',rfl⟩:=zQ O8
   have HRR:=zC hrr;clear hrr;obtain⟨s8',nest8,p8,hi8⟩:=id h8;obtain⟨c0',c1',c2',c3',c4',c5',c6',fz'⟩:=p8.fa
   have hd:¬(D:Int)<0:=by omega
   cases q
   all_goals
    go_wp2_with fail;refine(Us h8 _).mono ?_;rintro e W ⟨rfl,PW,g8W⟩;clear c0' c1' c2' c3' c4' c5' c6' fz' p8;have XW:=X8.kp g8W (by simp;omega);have gW:Ch [b] w W:=(g17.trans' g8 (by intro k hk;simp at hk;rcases hk with rfl|rfl;exact Or.inl (by simp);exact Or.inr (by omega))).trans g8W
    have FINAL:=zC (BB (S:=S) hp gW hlo hbl hn (x:=x) (vr:= .slice va' n0 vc') (nest:=nest) (τ:= .error D) PW (r:=r) (by
     have e:=RB.o;rw[HRR.o]at e
     exact Or.inr ⟨D,e,rfl⟩))
    clear RB PW HRR V8 g8W h8 X8 O8;have hpW:=hp.kp gW;have dW:=hpW.blk.cl 1 _ rfl;have dfW:=hpW.blk.fz;have y0:=XW.cl 0 _ rfl;have y1:=XW.cl 1 _ rfl;have gAl:Ch [] W (W.drew.alloc (.cells #[.string x,.slice va' n0 vc'] 52)):=(Ch.drew [] W).trans (Ch.alloc _ _ _);have OWN:=zJ hpW.rc gAl (by simp);have BLK:=hpW.blk.kp gAl (by simp);have bal:=(hpW.blk.kp (Ch.alloc [] W (.cells #[.string x,.slice va' n0 vc'] 52)) (by simp)).cl 1 _ rfl;have NEW:(W.drew.alloc (.cells #[.string x,.slice va' n0 vc'] 52)).heap[W.heap.size]? =some (.cells [.string x,.slice va' n0 vc'].toArray 52):=zr W.drew _
    have ZN:(W.drew.alloc (.cells #[.string x,.slice va' n0 vc'] 52)).heap.size=W.heap.size+1:=by show(W.heap.push _).size=_;simp
    have NDD:Hd (d∉(Value.slice a0 cv.length c0).ownBlock.toList):=by show ¬_;simp;intro e;exact(hp.bc d e).2.2.1 rfl
    go_wp2_with fail
    go_region_law ((refine Zc 38 52 2 40 (.agg #[.string ⟨#[]⟩,.slice none 0 0]) Tryz.underlying38 Ef rfl (by omega) (by omega) (by rfl) _ _ (by rfl) (.slice a0 cv.length c0) cv.length (jI cv) (by rfl) OWN W.heap.size [.string x,.slice va' n0 vc'] (by rfl) NEW rfl (by intro u hu;simp at hu;rcases hu with rfl|rfl <;>rfl) (by omega) (W.heap.size+1) ZN ?_;intro g cap w7 own7 gr7 hat7 hlt7;have B7:=BLK.kp gr7 NDD.o;have b70:=B7.cl 1 _ rfl;have b7f:=B7.fz))
    all_goals
     go_wp2_with fail
     go_end0
     exact FINAL.o _ _ _ own7 gr7 hat7
def Jq(s:St):St:={s with k:=0}
def JD(S:ByteArray)(c:Int)(s:St):Except Nat St:=if bt S s.i=c then .ok {s with i:=s.i+1} else .error s.i
theorem FQ{w:World}{b:Nat}{S:ByteArray}{nest:Int}{σ:Except Nat St}(h:PS w b S nest σ)(hS:S.size<=400)(c:Int)(hc:0<=c):
 Calls Tryz.prog 63 #[.pointer (some ⟨b,0,none⟩),.int .u8 c] w fun e w'=>e= .returned (.tuple #[])/\PS w' b S nest (zN σ (JD S c))/\Ch [b] w w':=by
 cases σ with
 |ok s=>
  by_cases hq:bt S s.i=c
  ·refine(Qz h.1 c hc hS hq).mono ?_
   rintro r w' ⟨rfl,h1,g1⟩;have:=yB (S:=S) (i:=s.i) (by omega);refine⟨rfl,?_,g1⟩;simp only[zN,JD,hq,if_true];exact⟨h1,this⟩
  ·refine(WD h.1 c hc hS h.2 hq).mono ?_
   rintro r w' ⟨rfl,h1,g1⟩;refine⟨rfl,?_,g1⟩;simp only[zN,JD,hq,if_false];exact h1
 |error d=>exact UE h c
theorem PS.zero{w:World}{b:Nat}{S:ByteArray}{nest:Int}{σ:Except Nat St}(h:PS w b S nest σ):(∃v,w.cell? ⟨b,5,none⟩=some v)/\w.frozen? ⟨b,5,none⟩=false/\PS (w.setCell ⟨b,5,none⟩ (.int .i64 0)) b S nest (yF σ Jq):=by
 cases σ with
 |ok s=>exact⟨⟨_,h.1.fa.2.2.2.2.2.1⟩,h.1.fa.2.2.2.2.2.2.2 5,h.1.set.2.2.2.2.1 0,h.2⟩
 |error d=>
  obtain⟨s,n,p,hi⟩:=h;exact⟨⟨_,p.fa.2.2.2.2.2.1⟩,p.fa.2.2.2.2.2.2.2 5,⟨{s with k:=0},n,p.set.2.2.2.2.1 0,hi⟩⟩
def JU(S:ByteArray)(s:St):Except Nat (zF×St):=zv S (S.size+1) 0 (Jq s)
theorem FA{w:World}{b:Nat}{S:ByteArray}{σ:Except Nat St}(h:PS w b S ((0:Nat):Int) (yF σ Jq))(hS:S.size<=400):
 Calls Tryz.prog 62 #[.pointer (some ⟨b,0,none⟩)] w fun e w'=>∃nb,e= .returned (.pointer (some ⟨nb,0,none⟩))/\(∀L s',zN σ (JU S)= .ok (L,s')->∃hh F,jk w' F hh nb L/\∀k,F k->w.heap.size<=k/\k<w'.heap.size)/\PS w' b S ((0:Nat):Int) (yd (zN σ (JU S)))/\Ch [b] w w':=by
 cases σ with
 |ok s=>
  have hv:zi S (Jq s) 0:=⟨h.2,by simp[Jq],by simp[Jq],by omega⟩;refine(Fa hS (S.size+1) w b (Jq s) 0 h.1 hv (by omega)).mono ?_;rintro e w' ⟨g1,⟨L,s',nb,hh,F,hr,rfl,h1,R1,F1,m1,I1⟩|⟨D,nb,hr,rfl,h1⟩⟩
  ·refine⟨nb,rfl,fun L' s'' e=> ?_,?_,g1⟩
   ·simp only[zN,JU]at e
    rw[hr]at e;simp at e;rw[<- e.1];exact⟨hh,F,R1,F1⟩
   ·simp only[zN,JU,hr]
    exact⟨h1,I1.i⟩
  ·refine⟨nb,rfl,fun L' s'' e=> ?_,?_,g1⟩
   ·simp only[zN,JU]at e
    rw[hr]at e;cases e
   ·simp only[zN,JU,hr]
    exact h1
 |error d=>
  refine(Pt h).mono ?_;rintro e w' ⟨⟨nb,rfl⟩,h1,g1⟩;exact⟨nb,rfl,fun L' s'' e=>(by cases e),h1,g1⟩
def jE(S:ByteArray)(nc:List ByteArray)(cnt:Nat)(never:Bool)(at1:Int)(s:St):Except Nat (ze×St):=
 match yK S nc (zL (decide (6<=(cnt:Int))) 3 at1 s)with
 |.error d=> .error d
 |.ok (i1,s1)=>
  if never then
   match zh S 47 s1 with
   |.error d=> .error d
   |.ok s2=>
    match JU S s2 with
    |.error d=> .error d
    |.ok (L,s3)=>
     match JD S 47 s3 with
     |.error d=> .error d
     |.ok s4=>
      match zh S 59 s4 with
      |.error d=> .error d
      |.ok s5=> .ok (⟨true,i1,0,L,s3.k⟩,s5)
  else
   match yK S nc s1 with
   |.error d=> .error d
   |.ok (i2,s2)=>
    match zh S 59 s2 with
    |.error d=> .error d
    |.ok s3=> .ok (⟨false,i1,i2,fun _=>False,0⟩,s3)
def UX(w:World)(lo b d:Nat)(S:ByteArray)(nest:Int)(vs vc _va:Value)(sv:List (zH×Value))(cv:List (zZ×Value))(av:List (ze×Value))(r:Except Nat (ze×St))(e:Ending)(w':World):Prop:=
 e= .returned (.tuple #[])/\Below lo w w'/\((∃D s' vr F' va',r= .ok (D,s')/\zO w' b S s' (-1) nest/\s'.i<=S.size/\jQ w' lo b d F' vs vc va' sv cv (av++[(D,vr)]))\/(∃Dd,r= .error Dd/\zj w' b S Dd))
theorem Du{w W:World}{lo b d:Nat}{S:ByteArray}{nest:Int}{F:Nat->Prop}{a0:Option Addr}{c0:Nat}{vs vc:Value}{sv:List (zH×Value)}{cv:List (zZ×Value)}{av:List (ze×Value)}(hp:jQ w lo b d F vs vc (.slice a0 av.length c0) sv cv av)(gW:Ch [b] w W)(hlo:lo<=b)(hbl:b<w.heap.size)(hn:av.length<450)
 {nv:Bool} {i1 i2:Int} {vr:Value} {τ:Except Nat St} (PW:PS W b S nest τ) {r:Except Nat (ze×St)}
 (hr:(∃D s' G,r= .ok (D,s')/\τ= .ok s'/\D.never=nv/\D.of1=i1/\D.of2=i2/\Qq W G vr D/\(∀k,G k->w.heap.size<=k/\k<W.heap.size))\/(∃Dd,r= .error Dd/\τ= .error Dd)):
 ∀(g cap:Nat) (w7:World),w7.ownsRow 0 49 4 (.slice (some ⟨g,0,none⟩) (av.length+1) cap) (av.length+1) (ZC av++[.bool nv,.int .i64 i1,.int .i64 i2,vr])->Ch (Value.slice a0 av.length c0).ownBlock.toList (W.drew.alloc (.cells #[.bool nv,.int .i64 i1,.int .i64 i2,vr] 49)) w7->((Value.slice a0 av.length c0).ownBlock=some g\/g=W.heap.size+1)->
  UX w lo b d S nest vs vc (.slice a0 av.length c0) sv cv av r (.returned (.tuple #[])) (w7.setCell ⟨d,2,none⟩ (.slice (some ⟨g,0,none⟩) (av.length+1) cap)):=by
 intro g cap w7 own7 gr7 hat7;have gA:Ch [] W (W.drew.alloc (.cells #[.bool nv,.int .i64 i1,.int .i64 i2,vr] 49)):=(Ch.drew [] W).trans (Ch.alloc _ _ _);have gB:Ch [b] w (W.drew.alloc (.cells #[.bool nv,.int .i64 i1,.int .i64 i2,vr] 49)):=gW.trans (gA.mono (by simp));have Yu:=hp.kp gB
 have zA:(W.drew.alloc (.cells #[.bool nv,.int .i64 i1,.int .i64 i2,vr] 49)).heap.size=W.heap.size+1:=by
  show(W.heap.push _).size=_;simp
 have zW:=gW.size
 have nb:b∉(Value.slice a0 av.length c0).ownBlock.toList:=by simp;intro e;exact(hp.ba b e).2.1 rfl
 have gD:Ch [d] w7 (w7.setCell ⟨d,2,none⟩ (.slice (some ⟨g,0,none⟩) (av.length+1) cap)):=Ch.setCell _ (by simp) _;have P7:PS (w7.setCell ⟨d,2,none⟩ (.slice (some ⟨g,0,none⟩) (av.length+1) cap)) b S nest τ:=((PW.kp gA (by simp)).kp gr7 nb).kp gD (by simpa using hp.bd);refine⟨rfl,?_,?_⟩
 ·refine((gB.below (by omega) (by simp;omega)).trans ((gr7.below (by omega) ?_).trans (gD.below (by have:=gr7.size;omega) (by simp;exact hp.dlo))))
  intro k hk;simp at hk;exact(hp.ba k hk).1
 ·rcases hr with⟨D,s',G,rfl,rfl,rfl,rfl,rfl,hR,hG⟩|⟨Dd,rfl,rfl⟩
  ·refine Or.inl ⟨D,s',vr,fun k=>F k\/G k,.slice (some ⟨g,0,none⟩) (av.length+1) cap,rfl,P7.1,P7.2,?_⟩
   have hR':Qq (W.drew.alloc (.cells #[.bool D.never,.int .i64 D.of1,.int .i64 D.of2,vr] 49)) G vr D:=hR.frame (fun k hk=>gA.block k (hG k hk).2 (by simp)) (fun _ h=>h);refine Yu.addAsked (H:=W.heap.size+1) hn (fun k hk=> ?_) hR' own7 gr7 hat7 (by omega) (by omega) (by omega);have h1:=hG k hk;refine⟨by omega,by omega,by omega,by have:=hp.blk.lt;omega,fun e=> ?_,fun e=> ?_,fun e=> ?_⟩
   ·have:=(hp.rs.lt k e).2;omega
   ·have:=(hp.rc.lt k e).2;omega
   ·have:=(hp.ra.lt k e).2;omega
  ·exact Or.inr ⟨Dd,rfl,P7⟩
theorem Ei{w:World}{lo b d:Nat}{S:ByteArray}{s:St}{F:Nat->Prop}{vs vc va:Value}{sv:List (zH×Value)}{cv:List (zZ×Value)}{av:List (ze×Value)}(h:zO w b S s (-1) ((0:Nat):Int))(hi:s.i<=S.size)(hS:S.size<=400)(hp:jQ w lo b d F vs vc va sv cv av)(hn:av.length<450)(hlo:lo<=b)(nv:Bool)(at1:Int):
 Calls Tryz.prog 33 #[.pointer (some ⟨b,0,none⟩),.pointer (some ⟨d,0,none⟩),.bool nv,.int .i64 at1] w (UX w lo b d S ((0:Nat):Int) vs vc va sv cv av (jE S (yz cv) av.length nv at1 s)):=by
 obtain⟨a0,c0,rfl⟩:=zQ hp.ra;have d0:=hp.blk.cl 2 _ rfl;have hbl:=h.lt;go_enter Tryz.func33,Tryz.ntmps33;go_wp2_with fail;refine(YP (σ:= .ok s) ⟨h,hi⟩ _ _ _).mono ?_;rintro e w1 ⟨rfl,h1,g1⟩;simp only[yF]at h1;have RE:=zC (show jE S (yz cv) av.length nv at1 s=_ from by unfold jE;rfl);generalize hr:jE S (yz cv) av.length nv at1 s=r at *;clear hr;generalize zL (decide (6<=(av.length:Int))) 3 at1 s=s1 at *;have hp1:=hp.kp g1;clear d0;go_wp2_with fail;refine(Bz h1 hS hp1).mono ?_;rintro e w3 ⟨i1,rfl,hi1,h3,g3⟩;have HI1:=zC hi1;clear hi1;have g13:=g1.trans g3;have hp3:=hp.kp g13;have zX:=g13.size;have bX:=h3.lt;have dX:=hp3.blk.lt;have h4:=h3.kp (Ch.alloc [] w3 (.cells #[.bool nv,.int .i64 i1,.int .i64 0,.pointer none] 49)) (by simp);have X4:=zE.new w3 #[.bool nv,.int .i64 i1,.int .i64 0,.pointer none] 49;have g14:Ch [b] w (w3.alloc (.cells #[.bool nv,.int .i64 i1,.int .i64 0,.pointer none] 49)):=g13.trans (Ch.alloc _ _ _);generalize hσ3:yd (zN (.ok s1) (yK S (yz cv)))=σ3 at *
 cases nv with
 |true=>
  have RB:Hd (r=match zN (zN σ3 (zh S 47)) (JU S)with
   |.error d=> .error d
   |.ok (L,s3)=>match zN (JD S 47 s3) (zh S 59)with|.error d=> .error d|.ok s5=> .ok (⟨true,i1,0,L,s3.k⟩,s5)):=by
   show _=_
   rw[RE.o,<- hσ3];have e1:=HI1.o;simp only[zN]at e1 ⊢
   cases hk:yK S (yz cv) s1 with
   |error d=>rfl
   |ok p=>
    obtain⟨j1,s2⟩:=p;have:=e1 j1 s2 hk;subst this;simp only[yd,if_true]
    cases zh S 47 s2 with
    |error d=>rfl
    |ok s3=>
     simp only
     cases JU S s3 with
     |error d=>rfl
     |ok p=>
      obtain⟨L,s4⟩:=p;simp only
      cases JD S 47 s4 with
      |error d=>rfl
      |ok s5=>(try simp only);(try (cases zh S 59 s5 <;>rfl))
  clear RE HI1 hσ3 h1 h3 hp1 hp3 g1 g3 g13;go_wp2_with fail;generalize w3.alloc (.cells #[.bool true,.int .i64 i1,.int .i64 0,.pointer none] 49)=w4 at *;generalize hX:w3.heap.size=X at *;have HX:=zC hX;clear hX;refine(Yi h4 hS _ (by omega)).mono ?_;rintro e w5 ⟨rfl,h5,g5⟩;generalize hσ5:zN σ3 (zh S 47)=σ5 at *;clear hσ5;obtain⟨⟨k5,q5⟩,f5,h6⟩:=h5.zero;have g56:Ch [b] w4 (w5.setCell ⟨b,5,none⟩ (.int .i64 0)):=g5.trans (Ch.setCell _ (by simp) _);go_wp2_with fail;clear q5 f5;generalize w5.setCell ⟨b,5,none⟩ (.int .i64 0)=w6 at *;refine(FA h6 hS).mono ?_;rintro e w7 ⟨nb,rfl,hnb,h7,g7⟩;have g47:=g56.trans g7;have z47:=g47.size;have z56:=g56.size;have zX4:=X4.lt;have X7:=X4.kp g47 (by simp;omega);have x3':=X7.cl 3 _ rfl;have xf:=X7.fz;have X8:=X7.set 3 (.pointer (some ⟨nb,0,none⟩));have h8:=h7.kp (Ch.setCell (X:=[X]) w7 (p:=⟨X,3,none⟩) (by simp) (.pointer (some ⟨nb,0,none⟩))) (by simp;omega);have g18:Ch [b] w (w7.setCell ⟨X,3,none⟩ (.pointer (some ⟨nb,0,none⟩))):=(g14.trans g47).setCell_new (Or.inr zX) _
  have HNB:Hd (∀L s',zN σ5 (JU S)= .ok (L,s')->∃hh F,jk (w7.setCell ⟨X,3,none⟩ (.pointer (some ⟨nb,0,none⟩))) F hh nb L/\∀k,F k->X<k/\k<(w7.setCell ⟨X,3,none⟩ (.pointer (some ⟨nb,0,none⟩))).heap.size):=by
   intro L s' e;obtain⟨hh,F',R,FF⟩:=hnb L s' e;refine⟨hh,F',R.frame (fun k hk=>Below.heap_setCell _ _ _ _ (by have:=FF k hk;simp;omega)) (fun _ h=>h),fun k hk=> ?_⟩;have:=FF k hk;exact⟨by omega,by simp[World.setCell];omega⟩
  clear hnb;go_wp2_with fail;clear x3' xf
  have b8:(w7.setCell ⟨X,3,none⟩ (.pointer (some ⟨nb,0,none⟩))).heap.size=w7.heap.size:=by simp[World.setCell]
  generalize w7.setCell ⟨X,3,none⟩ (.pointer (some ⟨nb,0,none⟩))=w8 at *;refine(FQ h8 hS _ (by omega)).mono ?_;rintro e w9 ⟨rfl,h9,g9⟩;go_wp2_with fail;refine(Yi h9 hS _ (by omega)).mono ?_;rintro e W ⟨rfl,PW,g10⟩;have g8W:Ch [b] w8 W:=g9.trans g10;have XW:=X8.kp g8W (by simp;omega);have gW:Ch [b] w W:=g18.trans g8W
  have FINAL:=zC (Du (S:=S) hp gW hlo hbl hn (nv:=true) (i1:=i1) (i2:=0) (vr:= .pointer (some ⟨nb,0,none⟩)) PW (r:=r) (by
   have e:=RB.o;have e2:=HNB.o
   cases hx:zN σ5 (JU S)with
   |error D=>rw[hx]at e;exact Or.inr ⟨D,e,by simp[yd,zN]⟩
   |ok p=>
    obtain⟨L,s3⟩:=p;rw[hx]at e;simp only at e;simp only[yd,zN]
    cases hm:JD S 47 s3 with
    |error D=>rw[hm]at e;exact Or.inr ⟨D,e,rfl⟩
    |ok s4=>
     rw[hm]at e;simp only[zN]at e ⊢
     cases hs:zh S 59 s4 with
     |error D=>rw[hs]at e;exact Or.inr ⟨D,e,rfl⟩
     |ok s5=>
      rw[hs]at e;obtain⟨hh,F',R,FF⟩:=e2 L s3 hx;refine Or.inl ⟨_,s5,F',e,rfl,rfl,rfl,rfl,Or.inl ⟨rfl,nb,hh,rfl,R.frame (fun k hk=>g8W.block k (FF k hk).2 (by have:=(FF k hk).1;simp;omega)) (fun _ h=>h)⟩,?_⟩;intro k hk;have:=FF k hk;have:=g8W.size
      omega))
  clear RB HNB PW g8W g9 g10 h9 h8 X8;have hpW:=hp.kp gW;have dW:=hpW.blk.cl 2 _ rfl;have dfW:=hpW.blk.fz;have y0:=XW.cl 0 _ rfl;have y1:=XW.cl 1 _ rfl;have y2:=XW.cl 2 _ rfl;have y3:=XW.cl 3 _ rfl;have gAl:Ch [] W (W.drew.alloc (.cells #[.bool true,.int .i64 i1,.int .i64 0,.pointer (some ⟨nb,0,none⟩)] 49)):=(Ch.drew [] W).trans (Ch.alloc _ _ _);have OWN:=zJ hpW.ra gAl (by simp);have BLK:=hpW.blk.kp gAl (by simp);have bal:=(hpW.blk.kp (Ch.alloc [] W (.cells #[.bool true,.int .i64 i1,.int .i64 0,.pointer (some ⟨nb,0,none⟩)] 49)) (by simp)).cl 2 _ rfl;have NEW:(W.drew.alloc (.cells #[.bool true,.int .i64 i1,.int .i64 0,.pointer (some ⟨nb,0,none⟩)] 49)).heap[W.heap.size]? =some (.cells [.bool true,.int .i64 i1,.int .i64 0,.pointer (some ⟨nb,0,none⟩)].toArray 49):=zr W.drew _
  have ZN:(W.drew.alloc (.cells #[.bool true,.int .i64 i1,.int .i64 0,.pointer (some ⟨nb,0,none⟩)] 49)).heap.size=W.heap.size+1:=by show(W.heap.push _).size=_;simp
  have NDD:Hd (d∉(Value.slice a0 av.length c0).ownBlock.toList):=by show ¬_;simp;intro e;exact(hp.ba d e).2.2.1 rfl
  go_wp2_with fail
  go_region_law ((refine Zc 39 49 4 32 (.agg #[.bool false,.int .i64 0,.int .i64 0,.pointer none]) Tryz.underlying39 AJ rfl (by omega) (by omega) (by rfl) _ _ (by rfl) (.slice a0 av.length c0) av.length (ZC av) (by rfl) OWN W.heap.size [.bool true,.int .i64 i1,.int .i64 0,.pointer (some ⟨nb,0,none⟩)] (by rfl) NEW rfl (by intro u hu;simp at hu;rcases hu with rfl|rfl|rfl|rfl <;>rfl) (by omega) (W.heap.size+1) ZN ?_;intro g cap w7 own7 gr7 hat7 hlt7;have B7:=BLK.kp gr7 NDD.o;have b70:=B7.cl 2 _ rfl;have b7f:=B7.fz))
  all_goals
   go_wp2_with fail
   go_end0
   exact FINAL.o _ _ _ own7 gr7 hat7
 |false=>
  have RB:Hd (r=match zN σ3 (yK S (yz cv))with
   |.error d=> .error d
   |.ok (i2,s2)=>match zh S 59 s2 with|.error d=> .error d|.ok s3=> .ok (⟨false,i1,i2,fun _=>False,0⟩,s3)):=by
   show _=_
   rw[RE.o,<- hσ3];have e1:=HI1.o;simp only[zN]at e1 ⊢
   cases hk:yK S (yz cv) s1 with
   |error d=>rfl
   |ok p=>
    obtain⟨j1,s2⟩:=p;have:=e1 j1 s2 hk;subst this
    try rfl
  have hp4:=hp.kp g14;clear RE HI1 hσ3 h1 h3 hp1 hp3 g1 g3 g13;go_wp2_with fail;generalize w3.alloc (.cells #[.bool false,.int .i64 i1,.int .i64 0,.pointer none] 49)=w4 at *;generalize hX:w3.heap.size=X at *;have HX:=zC hX;clear hX;refine(Bz h4 hS hp4).mono ?_;rintro e w5 ⟨i2,rfl,hi2,h5,g5⟩;have HI2:=zC hi2;clear hi2;have zX4:=X4.lt;have X5:=X4.kp g5 (by simp;omega);have x2':=X5.cl 2 _ rfl;have xf:=X5.fz;have X6:=X5.set 2 (.int .i64 i2);have h6:=h5.kp (Ch.setCell (X:=[X]) w5 (p:=⟨X,2,none⟩) (by simp) (.int .i64 i2)) (by simp;omega);have g16:Ch [b] w (w5.setCell ⟨X,2,none⟩ (.int .i64 i2)):=(g14.trans g5).setCell_new (Or.inr zX) _;go_wp2_with fail;clear x2' xf;generalize w5.setCell ⟨X,2,none⟩ (.int .i64 i2)=w6 at *;refine(Yi h6 hS _ (by omega)).mono ?_;rintro e W ⟨rfl,PW,g6W⟩;have XW:=X6.kp g6W (by simp;omega);have gW:Ch [b] w W:=g16.trans g6W
  have FINAL:=zC (Du (S:=S) hp gW hlo hbl hn (nv:=false) (i1:=i1) (i2:=i2) (vr:= .pointer none) PW (r:=r) (by
   have e:=RB.o;have e2:=HI2.o
   cases hx:zN σ3 (yK S (yz cv))with
   |error D=>rw[hx]at e;exact Or.inr ⟨D,e,by simp[yd,zN]⟩
   |ok p=>
    obtain⟨j2,s3⟩:=p;have:=e2 j2 s3 hx;subst this;rw[hx]at e;simp only at e;simp only[yd,zN]
    cases hs:zh S 59 s3 with
    |error D=>rw[hs]at e;exact Or.inr ⟨D,e,rfl⟩
    |ok s5=>
     rw[hs]at e
     exact Or.inl ⟨_,s5,fun _=>False,e,rfl,rfl,rfl,rfl,Or.inr ⟨rfl,rfl⟩,by simp⟩))
  clear RB HI2 PW g6W h6 X6;have hpW:=hp.kp gW;have dW:=hpW.blk.cl 2 _ rfl;have dfW:=hpW.blk.fz;have y0:=XW.cl 0 _ rfl;have y1:=XW.cl 1 _ rfl;have y2:=XW.cl 2 _ rfl;have y3:=XW.cl 3 _ rfl;have gAl:Ch [] W (W.drew.alloc (.cells #[.bool false,.int .i64 i1,.int .i64 i2,.pointer none] 49)):=(Ch.drew [] W).trans (Ch.alloc _ _ _);have OWN:=zJ hpW.ra gAl (by simp);have BLK:=hpW.blk.kp gAl (by simp);have bal:=(hpW.blk.kp (Ch.alloc [] W (.cells #[.bool false,.int .i64 i1,.int .i64 i2,.pointer none] 49)) (by simp)).cl 2 _ rfl;have NEW:(W.drew.alloc (.cells #[.bool false,.int .i64 i1,.int .i64 i2,.pointer none] 49)).heap[W.heap.size]? =some (.cells [.bool false,.int .i64 i1,.int .i64 i2,.pointer none].toArray 49):=zr W.drew _
  have ZN:(W.drew.alloc (.cells #[.bool false,.int .i64 i1,.int .i64 i2,.pointer none] 49)).heap.size=W.heap.size+1:=by show(W.heap.push _).size=_;simp
  have NDD:Hd (d∉(Value.slice a0 av.length c0).ownBlock.toList):=by show ¬_;simp;intro e;exact(hp.ba d e).2.2.1 rfl
  go_wp2_with fail
  go_region_law ((refine Zc 39 49 4 32 (.agg #[.bool false,.int .i64 0,.int .i64 0,.pointer none]) Tryz.underlying39 AJ rfl (by omega) (by omega) (by rfl) _ _ (by rfl) (.slice a0 av.length c0) av.length (ZC av) (by rfl) OWN W.heap.size [.bool false,.int .i64 i1,.int .i64 i2,.pointer none] (by rfl) NEW rfl (by intro u hu;simp at hu;rcases hu with rfl|rfl|rfl|rfl <;>rfl) (by omega) (W.heap.size+1) ZN ?_;intro g cap w7 own7 gr7 hat7 hlt7;have B7:=BLK.kp gr7 NDD.o;have b70:=B7.cl 2 _ rfl;have b7f:=B7.fz))
  all_goals
   go_wp2_with fail
   go_end0
   exact FINAL.o _ _ _ own7 gr7 hat7
theorem Ay{S:ByteArray}:∀n (s:St) R R' s',s.i<=S.size->jj S n s R= .ok (R',s')->s.i<=s'.i/\s'.i<=S.size:=by
 intro n
 induction n with
 |zero=>intro s R R' s' _ h;cases h
 |succ n ih=>
  intro s R R' s' hi h;have l1:=zn zI S s.i hi;unfold jj at h
  split at h
  ·split at h
   ·cases h
   ·rename_i L P s1 hp
    have b:=MX (by rw[(yj _ _ _ _).1];exact l1.2) hp;rw[(yj _ _ _ _).1]at b;simp only[St.sk]at b;have:=ih _ _ _ _ b.2 h;omega
  ·simp at h
   rw[<- h.2];simp only[St.sk];omega
theorem Lf{S:ByteArray}{s s':St}{q:ByteArray×ByteArray}(hi:s.i<=S.size)(h:jG S s= .ok (q,s')):s.i<=s'.i/\s'.i<=S.size:=by
 unfold jG at h
 split at h
 ·cases h
 ·rename_i p s1 h1
  have b1:=XB hi h1
  split at h
  ·cases h
  ·rename_i x a s2 h2
   have b2:=Uv b1.2 h2
   split at h
   ·cases h
   ·rename_i y c s3 h3
    have b3:=Uv (by rw[(yj _ _ _ _).1];exact b2.2.2.1) h3;rw[(yj _ _ _ _).1]at b3
    split at h
    ·cases h
    ·rename_i s4 h4
     have b4:=Yb (by rw[(yj _ _ _ _).1];exact b3.2.2.1) (by omega) h4;rw[(yj _ _ _ _).1]at b4;simp at h;rw[<- h.2];omega
theorem Fm{S:ByteArray}{x:ByteArray}{s s':St}{q:zH}(hi:s.i<=S.size)(h:JA S x s= .ok (q,s')):s.i<=s'.i/\s'.i<=S.size:=by
 have l1:=zn zI S s.i hi;unfold JA at h
 split at h
 ·split at h
  ·cases h
  ·rename_i s3 h3
   have b3:=Yb (s:=s.sk S) l1.2 (by omega) h3;simp only[St.sk]at b3
   split at h
   ·cases h
   ·rename_i R s4 h4
    have b4:=Ay _ _ _ _ _ b3.2.1 h4
    split at h
    ·cases h
    ·rename_i s5 h5
     have b5:=Yb b4.2 (by omega) h5;simp at h;rw[<- h.2];omega
 ·split at h
  ·cases h
  ·rename_i a c s3 h3
   have b3:=Lf (s:=s.sk S) l1.2 h3;simp only[St.sk]at b3;simp at h;rw[<- h.2];omega
theorem Nn{S:ByteArray}{ns nc:List ByteArray}{at1:Int}{s s':St}{q:zH}(hi:s.i<=S.size)(h:j8 S ns nc at1 s= .ok (q,s')):s.i<=s'.i/\s'.i<=S.size:=by
 unfold j8 at h
 split at h
 ·cases h
 ·rename_i x a s1 h1
  have b1:=Vn (by rw[(yj _ _ _ _).1];exact hi) h1;rw[(yj _ _ _ _).1]at b1;have b2:=Fm (by rw[(yj _ _ _ _).1];exact b1.2.2.1) h;rw[(yj _ _ _ _).1]at b2;omega
theorem Ry{S:ByteArray}{ns:List ByteArray}:∀n (s:St) L L' s',s.i<=S.size->jl S ns n s L= .ok (L',s')->s.i<=s'.i/\s'.i<=S.size:=by
 intro n
 induction n with
 |zero=>intro s L L' s' _ h;cases h
 |succ n ih=>
  intro s L L' s' hi h;unfold jl at h
  split at h
  ·cases h
  ·rename_i y p s1 h1
   have b1:=Vn hi h1
   have e:(zL (decide (zy ns y<0)) 5 p (zL (decide (3<=(L.length:Int))) 3 p s1)).i=s1.i:=by rw[(yj _ _ _ _).1,(yj _ _ _ _).1]
   generalize zL (decide (zy ns y<0)) 5 p (zL (decide (3<=(L.length:Int))) 3 p s1)=s2 at *;have l2:=zn zI S s2.i (by omega)
   split at h
   ·simp at h
    rw[<- h.2];simp only[St.sk];omega
   ·have:=ih _ _ _ _ (by simp only[St.sk];omega) h
    simp only[St.sk]at this;omega
theorem N0{S:ByteArray}{ns nc:List ByteArray}{at1:Int}{s s':St}{q:zZ}(hi:s.i<=S.size)(h:jx S ns nc at1 s= .ok (q,s')):s.i<=s'.i/\s'.i<=S.size:=by
 unfold jx at h
 split at h
 ·cases h
 ·rename_i x a s1 h1
  have b1:=Vn (by rw[(yj _ _ _ _).1];exact hi) h1;rw[(yj _ _ _ _).1]at b1
  split at h
  ·cases h
  ·rename_i s2 h2
   have b2:=Yb (by rw[(yj _ _ _ _).1];exact b1.2.2.1) (by omega) h2;rw[(yj _ _ _ _).1]at b2
   split at h
   ·cases h
   ·rename_i L s3 h3
    have b3:=Ry _ _ _ _ _ b2.2.1 h3
    split at h
    ·cases h
    ·rename_i s4 h4
     have b4:=Yb b3.2 (by omega) h4;simp at h;rw[<- h.2];omega
theorem NN{S:ByteArray}{nc:List ByteArray}{s s':St}{i:Int}(hi:s.i<=S.size)(h:yK S nc s= .ok (i,s')):s.i<=s'.i/\s'.i<=S.size:=by
 unfold yK at h
 split at h
 ·cases h
 ·rename_i x a s1 h1
  have b1:=Vn hi h1;simp at h;rw[<- h.2,(yj _ _ _ _).1];omega
theorem PZ{S:ByteArray}{L:zF}{s:St}(hi:s.i<=S.size):s.i<=(yY S L s).2.i/\(yY S L s).2.i<=S.size:=by
 unfold yY
 split
 ·have:=yB (S:=S) (i:=s.i) (by omega);simp only;omega
 ·split
  ·have:=yB (S:=S) (i:=s.i) (by omega);simp only;omega
  ·split
   ·have:=yB (S:=S) (i:=s.i) (by omega);simp only;omega
   ·simp only;omega
theorem FH{E:St->Except Nat (zF×St)}{S:ByteArray}{d:Nat}(hE:∀s L s',s.i<=S.size->E s= .ok (L,s')->s.i<=s'.i/\s'.i<=S.size){s s':St}{L:zF}(_hi:s.i<=S.size)(h:ye E S d s= .ok (L,s')):s.i<s'.i/\s'.i<=S.size:=by
 have e1:=(yj (decide (12<s.k+1)) 3 s.i {s with k:=s.k+1}).1;rw[LF E S d s _ rfl]at h;generalize zL (decide (12<s.k+1)) 3 s.i {s with k:=s.k+1}=s1 at *;simp only at e1
 split at h
 ·have:=yB (S:=S) (i:=s1.i) (by omega)
  simp at h;rw[<- h.2];simp only;omega
 ·split at h
  ·split at h
   ·rename_i L2 s2 h2
    have:=VO h2;simp at h;rw[<- h.2];omega
   ·cases h
  ·split at h
   ·have l1:=yB (S:=S) (i:=s1.i) (by omega)
    split at h
    ·cases h
    ·rename_i L3 s3 h3
     have:=hE _ _ _ (by simp only;omega) h3;simp only at this
     split at h
     ·have:=yB (S:=S) (i:=s3.i) (by omega)
      simp at h;rw[<- h.2];simp only;omega
     ·cases h
   ·split at h
    ·rename_i c s2 h2
     have:=Jr (by omega) h2;simp at h;rw[<- h.2];omega
    ·cases h
theorem Il{B:St->Except Nat (zF×St)}{S:ByteArray}(hB:∀s L s',s.i<=S.size->B s= .ok (L,s')->s.i<s'.i/\s'.i<=S.size):∀n (s:St) R L s',s.i<=S.size->yh B S n s R= .ok (L,s')->s.i<=s'.i/\s'.i<=S.size:=by
 intro n
 induction n with
 |zero=>intro s R L s' _ h;cases h
 |succ n ih=>
  intro s R L s' hi h;unfold yh at h
  split at h
  ·simp at h
   rw[<- h.2];omega
  ·split at h
   ·cases h
   ·rename_i L1 s1 h1
    have b1:=hB _ _ _ hi h1;have b2:=PZ (L:=L1) b1.2;have:=ih _ _ _ _ b2.2 h;omega
theorem Fc{R:St->Except Nat (zF×St)}{S:ByteArray}(hR:∀s L s',s.i<=S.size->R s= .ok (L,s')->s.i<=s'.i/\s'.i<=S.size):∀n (s:St) Q L s',s.i<=S.size->jZ R S n s Q= .ok (L,s')->s.i<=s'.i/\s'.i<=S.size:=by
 intro n
 induction n with
 |zero=>intro s Q L s' _ h;cases h
 |succ n ih=>
  intro s Q L s' hi h;unfold jZ at h
  split at h
  ·cases h
  ·rename_i L1 s1 h1
   have b1:=hR _ _ _ hi h1
   split at h
   ·have l1:=yB (S:=S) (i:=s1.i) (by omega)
    have:=ih _ _ _ _ (by simp only;omega) h;simp only at this;omega
   ·simp at h
    rw[<- h.2];omega
theorem Ed{S:ByteArray}:∀n d (s:St) L s',s.i<=S.size->zv S n d s= .ok (L,s')->s.i<=s'.i/\s'.i<=S.size:=by
 intro n
 induction n with
 |zero=>intro d s L s' _ h;cases h
 |succ n ih=>
  intro d s L s' hi h;unfold zv at h;exact Fc (fun s L s' hi h=>Il (fun s L s' hi h=>FH (fun s L s' hi h=>ih (d+1) s L s' hi h) hi h) _ _ _ _ _ hi h) _ _ _ _ _ hi h
theorem SU{S:ByteArray}{c:Int}{s s':St}(hc:0<=c)(h:JD S c s= .ok s'):s.i<s'.i/\s'.i<=S.size:=by
 unfold JD at h
 split at h
 ·have:=yB (S:=S) (i:=s.i) (by omega)
  simp at h;rw[<- h];simp only;omega
 ·cases h
theorem KI{S:ByteArray}{nc:List ByteArray}{cnt:Nat}{nv:Bool}{at1:Int}{s s':St}{q:ze}(hi:s.i<=S.size)(h:jE S nc cnt nv at1 s= .ok (q,s')):s.i<=s'.i/\s'.i<=S.size:=by
 unfold jE at h
 split at h
 ·cases h
 ·rename_i i1 s1 h1
  have b1:=NN (by rw[(yj _ _ _ _).1];exact hi) h1;rw[(yj _ _ _ _).1]at b1
  split at h
  ·split at h
   ·cases h
   ·rename_i s2 h2
    have b2:=Yb b1.2 (by omega) h2
    split at h
    ·cases h
    ·rename_i L s3 h3
     have b3:=Ed _ _ (Jq s2) _ _ b2.2.1 h3;simp only[Jq]at b3
     split at h
     ·cases h
     ·rename_i s4 h4
      have b4:=SU (by omega) h4
      split at h
      ·cases h
      ·rename_i s5 h5
       have b5:=Yb b4.2 (by omega) h5;simp at h;rw[<- h.2];omega
  ·split at h
   ·cases h
   ·rename_i i2 s2 h2
    have b2:=NN b1.2 h2
    split at h
    ·cases h
    ·rename_i s3 h3
     have b3:=Yb b2.2 (by omega) h3;simp at h;rw[<- h.2];omega
def Ji:ByteArray:=⟨#[115,99,114,117,98]⟩
def Jj:ByteArray:=⟨#[99,104,97,105,110]⟩
def JR:ByteArray:=⟨#[110,101,118,101,114]⟩
def ZM:ByteArray:=⟨#[115,97,109,101]⟩
def Jf:List ByteArray:=[Ji,Jj,JR,ZM]
def jb(S:ByteArray)(x:ByteArray)(at1:Int)(D:yt)(s:St):Except Nat (yt×St):=
 if yQ x Ji then
  match j8 S (D.scrubs.map (·.name)) (D.chains.map (·.name)) at1 s with
  |.error d=> .error d
  |.ok (q,s2)=> .ok ({D with scrubs:=D.scrubs++[q]},s2)
 else if yQ x Jj then
  match jx S (D.scrubs.map (·.name)) (D.chains.map (·.name)) at1 s with
  |.error d=> .error d
  |.ok (q,s2)=> .ok ({D with chains:=D.chains++[q]},s2)
 else
  match jE S (D.chains.map (·.name)) D.asked.length (yQ x JR) at1 s with
  |.error d=> .error d
  |.ok (q,s2)=> .ok ({D with asked:=D.asked++[q]},s2)
def jC(S:ByteArray):Nat->St->yt->Except Nat (yt×St)
 |0,s,_=> .error s.i
 |n+1,s,D=>
  if s.i<S.size then
   match yI S Jf s with
   |.error d=> .error d
   |.ok ((x,p),s1)=>
    match jb S x p D s1 with
    |.error d=> .error d
    |.ok (D',s2)=>jC S n (s2.sk S) D'
  else .ok (D,s)
def st0:St:=⟨0,0,0,0⟩
def jA(S:ByteArray):Except Nat (yt×St):=jC S (S.size+1) (st0.sk S) ⟨[],[],[]⟩
def Yf{α:Type}(r:Except Nat (α×St)):Int×Int:=
 match r with
 |.error d=>(2,d)
 |.ok (_,s)=>if s.e=0 then(0,0)else(s.e,s.a)
def yX(S:ByteArray):Int×Int:=if 400<S.size then(1,0)else Yf (jA S)
end Go.Proofs.YteobgfbgglfkbaaGreat
