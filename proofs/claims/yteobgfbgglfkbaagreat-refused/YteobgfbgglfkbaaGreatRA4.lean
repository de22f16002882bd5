import Derived.Test.YteobgfbgglfkbaaGreatRA3
import Derived.Deep.RegionLaw
set_option maxHeartbeats 3200000
namespace Go.Proofs.YteobgfbgglfkbaaGreat
open Go.RowKit
attribute [local go_sem ↓] Go.wp_at_zero Go.wp_at_succ
theorem Zc{W:World}{ops:Array Oper}{o:Oper}{a:Act}{K:Act->World->Prop}{Q:Exit->Act->World->Prop}{E0:Prop}(T E:TypeId)(size bytes:Nat)(z:Value)(hT:Tryz.prog.underlying T=some (.slice E))
 (hinfo:(Tryz.prog.info? E).map (fun i=>(i.zero,i.size,i.bytes))=some (some z,size,bytes)) (hzs:z.cells.size=size) (hsz:0<size) (hby:bytes<=1000) (hgd:o.guard=none) (sx xx:Operand)
 (ho:o.op= .call {callee:= .builtin .append,args:= #[sx,xx],argTypes:= #[T,T]}) (v:Value) (n:Nat) (xs:List Value) (hs:a.eval sx=v) (hown:W.ownsRow 0 E size v n xs)
 (N:Nat) (news:List Value) (hx:a.eval xx= .slice (some ⟨N,0,none⟩) 1 1) (hN:W.heap[N]? =some (.cells news.toArray E)) (hl:news.length=size) (h1:∀u∈news,u.oneCell'=true) (hn:n<=1000) (H:Nat) (hH:W.heap.size=H)
 (h:∀g cap w',w'.ownsRow 0 E size (.slice (some ⟨g,0,none⟩) (n+1) cap) (n+1) (xs++news)->Ch v.ownBlock.toList W w'->(v.ownBlock=some g\/g=H)->g<w'.heap.size->K (a.put o.dst (.slice (some ⟨g,0,none⟩) (n+1) cap)) w'):
 if Region.wanted o (yielded ops a.tmps)=true then Oper.wp Tryz.prog o a W K Q else E0:=by
 obtain⟨i,hi,hz0,hz1,hz2⟩:=info_parts hinfo;refine step_append_lies W hgd sx xx T ho 0 E i z size bytes hT hi hz0 hz1 hz2 hzs hsz v n xs hs hown ⟨N,0,none⟩ 1 1 news hx (by omega) ?_ h1 (by omega) (by simp only[maxLen];omega) ?_ (Nat.zero_le _) H hH ?_
 ·have:=World.news_of_block hN
  simpa using this
 ·have:(n+1) * bytes<=1001 * 1000:=Nat.mul_le_mul (by omega) hby
  omega
 ·intro g cap w' h1 h2 h3 h4
  exact h g cap w' h1 (Ch.grown h2) h3 h4
theorem Xg:(Tryz.prog.info? 131).map (fun i=>(i.zero,i.size,i.bytes))=some (some (.agg #[.string ⟨#[]⟩,.bool false,.string ⟨#[]⟩,.string ⟨#[]⟩,.slice none 0 0]),5,80):=by kernel_rfl
theorem OC:(Tryz.prog.info? 146).map (fun i=>(i.zero,i.size,i.bytes))=some (some (.agg #[.slice none 0 0,.slice none 0 0]),2,48):=by kernel_rfl
theorem Ef:(Tryz.prog.info? 52).map (fun i=>(i.zero,i.size,i.bytes))=some (some (.agg #[.string ⟨#[]⟩,.slice none 0 0]),2,40):=by kernel_rfl
theorem AJ:(Tryz.prog.info? 49).map (fun i=>(i.zero,i.size,i.bytes))=some (some (.agg #[.bool false,.int .i64 0,.int .i64 0,.pointer none]),4,32):=by kernel_rfl
theorem KY:(Tryz.prog.info? 3).map (fun i=>(i.zero,i.size,i.bytes))=some (some (.int .i64 0),1,8):=by kernel_rfl
section
variable {W w7:World} {lo b d g H:Nat} {F G:Nat->Prop} {vs vc va:Value} {sv:List (zH×Value)} {cv:List (zZ×Value)} {av:List (ze×Value)}
theorem jQ.addScrub(hp:jQ W lo b d F vs vc va sv cv av){D:zH}{vr:Value}{cap:Nat}(hn:sv.length<450)(hG:∀k,G k->lo<=k/\k<W.heap.size/\k≠b/\k≠d/\vs.ownBlock≠some k/\vc.ownBlock≠some k/\va.ownBlock≠some k)
 (hrep:YC W G vr D.rules) (own:w7.ownsRow 0 131 5 (.slice (some ⟨g,0,none⟩) (sv.length+1) cap) (sv.length+1) (JH sv++JH [(D,vr)])) (gr:Ch vs.ownBlock.toList W w7) (hat:vs.ownBlock=some g\/g=H) (hH:W.heap.size<=H) (hlo:lo<=W.heap.size) (hb:b<W.heap.size):
 jQ (w7.setCell ⟨d,0,none⟩ (.slice (some ⟨g,0,none⟩) (sv.length+1) cap)) lo b d (fun k=>F k\/G k) (.slice (some ⟨g,0,none⟩) (sv.length+1) cap) vc va (sv++[(D,vr)]) cv av:=by
 have hdW:=hp.blk.lt
 have Lx:∀k,vs.ownBlock=some k->k<W.heap.size:=fun k hk=>(hp.rs.lt k hk).2
 have Ly:∀k,vc.ownBlock=some k->k<W.heap.size:=fun k hk=>(hp.rc.lt k hk).2
 have Lz:∀k,va.ownBlock=some k->k<W.heap.size:=fun k hk=>(hp.ra.lt k hk).2
 have gD:Ch [d] w7 (w7.setCell ⟨d,0,none⟩ (.slice (some ⟨g,0,none⟩) (sv.length+1) cap)):=Ch.setCell _ (by simp) _
 have fr:∀k,k<W.heap.size->vs.ownBlock≠some k->k≠d->(w7.setCell ⟨d,0,none⟩ (.slice (some ⟨g,0,none⟩) (sv.length+1) cap)).heap[k]? =W.heap[k]? :=by
  intro k h1 h2 h3;rw[Below.heap_setCell _ _ _ _ (by simpa using h3),gr.block k h1 (by simpa using h2)]
 have frF:∀k,F k->(w7.setCell ⟨d,0,none⟩ (.slice (some ⟨g,0,none⟩) (sv.length+1) cap)).heap[k]? =W.heap[k]? :=fun k hk=>fr k (hp.f k hk).2.1 (fun e=>(hp.bs k e).2.2.2.2.2 hk) (hp.f k hk).2.2.2
 have frG:∀k,G k->(w7.setCell ⟨d,0,none⟩ (.slice (some ⟨g,0,none⟩) (sv.length+1) cap)).heap[k]? =W.heap[k]? :=fun k hk=>fr k (hG k hk).2.1 (by have:=hG k hk;simp_all) (hG k hk).2.2.2.1
 have z7:=gr.size
 have nd:d∉vs.ownBlock.toList:=by simp;intro e;exact(hp.bs d e).2.2.1 rfl
 have hg:lo<=g/\g≠b/\g≠d/\vc.ownBlock≠some g/\va.ownBlock≠some g/\¬(F g\/G g):=by
  rcases hat with e|e
  ·obtain⟨a1,a2,a3,a4,a5,a6⟩:=hp.bs g e
   refine⟨a1,a2,a3,a4,a5,?_⟩;rintro(h1|h1)
   ·exact a6 h1
   ·have:=hG g h1;simp_all
  ·refine⟨by omega,by omega,by omega,fun e2=>by have:=Ly g e2;omega,fun e2=>by have:=Lz g e2;omega,?_⟩
   rintro(h1|h1)
   ·have:=hp.f g h1;omega
   ·have:=hG g h1;omega
 exact {
  blk:=(hp.blk.kp gr nd).set 0 _
  rs:=by rw[List.length_append];simp only[JH,List.flatMap_append];exact zJ own gD (fun k hk=>by simp[Value.ownBlock]at hk;subst hk;simpa using hg.2.2.1)
  rc:=ju hp.rc (fun k hk=>fr k (hp.rc.lt k hk).2 (by have:=hp.bc k hk;simp_all) (hp.bc k hk).2.2.1)
  ra:=ju hp.ra (fun k hk=>fr k (hp.ra.lt k hk).2 (by have:=hp.ba k hk;simp_all) (hp.ba k hk).2.2.1)
  ps:=by
   intro p hp'
   rcases List.mem_append.1 hp' with h1|h1
   ·exact(hp.ps p h1).frame frF (fun _ h=>Or.inl h)
   ·simp at h1;subst h1;exact hrep.frame frG (fun _ h=>Or.inr h)
  pc:=fun p h1=>(hp.pc p h1).frame frF (fun _ h=>Or.inl h)
  pa:=fun p h1=>(hp.pa p h1).frame frF (fun _ h=>Or.inl h)
  dlo:=hp.dlo
  bd:=hp.bd
  ns:=by rw[List.length_append];exact hn
  nc:=hp.nc
  na:=hp.na
  bs:=by intro k hk;simp[Value.ownBlock]at hk;subst hk;exact hg
  bc:=by
   intro k hk;obtain⟨a1,a2,a3,a4,a5,a6⟩:=hp.bc k hk
   have hne:¬(Value.slice (some ⟨g,0,none⟩) (sv.length+1) cap).ownBlock=some k:=by
    simp[Value.ownBlock];rintro rfl;simp_all
   have hF:¬(F k\/G k):=by
    rintro(h1|h1)
    ·exact a6 h1
    ·have:=hG k h1;simp_all
   exact⟨a1,a2,a3,hne,a5,hF⟩
  ba:=by
   intro k hk;obtain⟨a1,a2,a3,a4,a5,a6⟩:=hp.ba k hk
   have hne:¬(Value.slice (some ⟨g,0,none⟩) (sv.length+1) cap).ownBlock=some k:=by
    simp[Value.ownBlock];rintro rfl;simp_all
   have hF:¬(F k\/G k):=by
    rintro(h1|h1)
    ·exact a6 h1
    ·have:=hG k h1;simp_all
   exact⟨a1,a2,a3,hne,a5,hF⟩
  f:=by
   intro k hk
   have zz:W.heap.size<=(w7.setCell ⟨d,0,none⟩ (.slice (some ⟨g,0,none⟩) (sv.length+1) cap)).heap.size:=by simp[World.setCell];omega
   rcases hk with h1|h1
   ·have:=hp.f k h1;exact⟨this.1,by omega,this.2.2⟩
   ·have:=hG k h1;exact⟨this.1,by omega,this.2.2.1,this.2.2.2.1⟩}
theorem jQ.addChain(hp:jQ W lo b d F vs vc va sv cv av){D:zZ}{vr:Value}{cap:Nat}(hn:cv.length<450)(hG:∀k,G k->lo<=k/\k<W.heap.size/\k≠b/\k≠d/\vs.ownBlock≠some k/\vc.ownBlock≠some k/\va.ownBlock≠some k)
 (hrep:j9 W G vr D.scrubs) (own:w7.ownsRow 0 52 2 (.slice (some ⟨g,0,none⟩) (cv.length+1) cap) (cv.length+1) (jI cv++jI [(D,vr)])) (gr:Ch vc.ownBlock.toList W w7) (hat:vc.ownBlock=some g\/g=H) (hH:W.heap.size<=H) (hlo:lo<=W.heap.size) (hb:b<W.heap.size):
 jQ (w7.setCell ⟨d,1,none⟩ (.slice (some ⟨g,0,none⟩) (cv.length+1) cap)) lo b d (fun k=>F k\/G k) vs (.slice (some ⟨g,0,none⟩) (cv.length+1) cap) va sv (cv++[(D,vr)]) av:=by
 have hdW:=hp.blk.lt
 have Lx:∀k,vc.ownBlock=some k->k<W.heap.size:=fun k hk=>(hp.rc.lt k hk).2
 have Ly:∀k,vs.ownBlock=some k->k<W.heap.size:=fun k hk=>(hp.rs.lt k hk).2
 have Lz:∀k,va.ownBlock=some k->k<W.heap.size:=fun k hk=>(hp.ra.lt k hk).2
 have gD:Ch [d] w7 (w7.setCell ⟨d,1,none⟩ (.slice (some ⟨g,0,none⟩) (cv.length+1) cap)):=Ch.setCell _ (by simp) _
 have fr:∀k,k<W.heap.size->vc.ownBlock≠some k->k≠d->(w7.setCell ⟨d,1,none⟩ (.slice (some ⟨g,0,none⟩) (cv.length+1) cap)).heap[k]? =W.heap[k]? :=by
  intro k h1 h2 h3;rw[Below.heap_setCell _ _ _ _ (by simpa using h3),gr.block k h1 (by simpa using h2)]
 have frF:∀k,F k->(w7.setCell ⟨d,1,none⟩ (.slice (some ⟨g,0,none⟩) (cv.length+1) cap)).heap[k]? =W.heap[k]? :=fun k hk=>fr k (hp.f k hk).2.1 (fun e=>(hp.bc k e).2.2.2.2.2 hk) (hp.f k hk).2.2.2
 have frG:∀k,G k->(w7.setCell ⟨d,1,none⟩ (.slice (some ⟨g,0,none⟩) (cv.length+1) cap)).heap[k]? =W.heap[k]? :=fun k hk=>fr k (hG k hk).2.1 (by have:=hG k hk;simp_all) (hG k hk).2.2.2.1
 have z7:=gr.size
 have nd:d∉vc.ownBlock.toList:=by simp;intro e;exact(hp.bc d e).2.2.1 rfl
 have hg:lo<=g/\g≠b/\g≠d/\vs.ownBlock≠some g/\va.ownBlock≠some g/\¬(F g\/G g):=by
  rcases hat with e|e
  ·obtain⟨a1,a2,a3,a4,a5,a6⟩:=hp.bc g e
   refine⟨a1,a2,a3,a4,a5,?_⟩;rintro(h1|h1)
   ·exact a6 h1
   ·have:=hG g h1;simp_all
  ·refine⟨by omega,by omega,by omega,fun e2=>by have:=Ly g e2;omega,fun e2=>by have:=Lz g e2;omega,?_⟩
   rintro(h1|h1)
   ·have:=hp.f g h1;omega
   ·have:=hG g h1;omega
 exact {
  blk:=(hp.blk.kp gr nd).set 1 _
  rs:=ju hp.rs (fun k hk=>fr k (hp.rs.lt k hk).2 (by have:=hp.bs k hk;simp_all) (hp.bs k hk).2.2.1)
  rc:=by rw[List.length_append];simp only[jI,List.flatMap_append];exact zJ own gD (fun k hk=>by simp[Value.ownBlock]at hk;subst hk;simpa using hg.2.2.1)
  ra:=ju hp.ra (fun k hk=>fr k (hp.ra.lt k hk).2 (by have:=hp.ba k hk;simp_all) (hp.ba k hk).2.2.1)
  ps:=fun p h1=>(hp.ps p h1).frame frF (fun _ h=>Or.inl h)
  pc:=by
   intro p hp'
   rcases List.mem_append.1 hp' with h1|h1
   ·exact(hp.pc p h1).frame frF (fun _ h=>Or.inl h)
   ·simp at h1;subst h1;exact hrep.frame frG (fun _ h=>Or.inr h)
  pa:=fun p h1=>(hp.pa p h1).frame frF (fun _ h=>Or.inl h)
  dlo:=hp.dlo
  bd:=hp.bd
  ns:=hp.ns
  nc:=by rw[List.length_append];exact hn
  na:=hp.na
  bs:=by
   intro k hk;obtain⟨a1,a2,a3,a4,a5,a6⟩:=hp.bs k hk
   have hne:¬(Value.slice (some ⟨g,0,none⟩) (cv.length+1) cap).ownBlock=some k:=by
    simp[Value.ownBlock];rintro rfl;simp_all
   have hF:¬(F k\/G k):=by
    rintro(h1|h1)
    ·exact a6 h1
    ·have:=hG k h1;simp_all
   exact⟨a1,a2,a3,hne,a5,hF⟩
  bc:=by intro k hk;simp[Value.ownBlock]at hk;subst hk;exact hg
  ba:=by
   intro k hk;obtain⟨a1,a2,a3,a4,a5,a6⟩:=hp.ba k hk
   have hne:¬(Value.slice (some ⟨g,0,none⟩) (cv.length+1) cap).ownBlock=some k:=by
    simp[Value.ownBlock];rintro rfl;simp_all
   have hF:¬(F k\/G k):=by
    rintro(h1|h1)
    ·exact a6 h1
    ·have:=hG k h1;simp_all
   exact⟨a1,a2,a3,a4,hne,hF⟩
  f:=by
   intro k hk
   have zz:W.heap.size<=(w7.setCell ⟨d,1,none⟩ (.slice (some ⟨g,0,none⟩) (cv.length+1) cap)).heap.size:=by simp[World.setCell];omega
   rcases hk with h1|h1
   ·have:=hp.f k h1;exact⟨this.1,by omega,this.2.2⟩
   ·have:=hG k h1;exact⟨this.1,by omega,this.2.2.1,this.2.2.2.1⟩}
theorem jQ.addAsked(hp:jQ W lo b d F vs vc va sv cv av){D:ze}{vr:Value}{cap:Nat}(hn:av.length<450)(hG:∀k,G k->lo<=k/\k<W.heap.size/\k≠b/\k≠d/\vs.ownBlock≠some k/\vc.ownBlock≠some k/\va.ownBlock≠some k)
 (hrep:Qq W G vr D) (own:w7.ownsRow 0 49 4 (.slice (some ⟨g,0,none⟩) (av.length+1) cap) (av.length+1) (ZC av++ZC [(D,vr)])) (gr:Ch va.ownBlock.toList W w7) (hat:va.ownBlock=some g\/g=H) (hH:W.heap.size<=H) (hlo:lo<=W.heap.size) (hb:b<W.heap.size):
 jQ (w7.setCell ⟨d,2,none⟩ (.slice (some ⟨g,0,none⟩) (av.length+1) cap)) lo b d (fun k=>F k\/G k) vs vc (.slice (some ⟨g,0,none⟩) (av.length+1) cap) sv cv (av++[(D,vr)]):=by
 have hdW:=hp.blk.lt
 have Lx:∀k,va.ownBlock=some k->k<W.heap.size:=fun k hk=>(hp.ra.lt k hk).2
 have Ly:∀k,vs.ownBlock=some k->k<W.heap.size:=fun k hk=>(hp.rs.lt k hk).2
 have Lz:∀k,vc.ownBlock=some k->k<W.heap.size:=fun k hk=>(hp.rc.lt k hk).2
 have gD:Ch [d] w7 (w7.setCell ⟨d,2,none⟩ (.slice (some ⟨g,0,none⟩) (av.length+1) cap)):=Ch.setCell _ (by simp) _
 have fr:∀k,k<W.heap.size->va.ownBlock≠some k->k≠d->(w7.setCell ⟨d,2,none⟩ (.slice (some ⟨g,0,none⟩) (av.length+1) cap)).heap[k]? =W.heap[k]? :=by
  intro k h1 h2 h3;rw[Below.heap_setCell _ _ _ _ (by simpa using h3),gr.block k h1 (by simpa using h2)]
 have frF:∀k,F k->(w7.setCell ⟨d,2,none⟩ (.slice (some ⟨g,0,none⟩) (av.length+1) cap)).heap[k]? =W.heap[k]? :=fun k hk=>fr k (hp.f k hk).2.1 (fun e=>(hp.ba k e).2.2.2.2.2 hk) (hp.f k hk).2.2.2
 have frG:∀k,G k->(w7.setCell ⟨d,2,none⟩ (.slice (some ⟨g,0,none⟩) (av.length+1) cap)).heap[k]? =W.heap[k]? :=fun k hk=>fr k (hG k hk).2.1 (by have:=hG k hk;simp_all) (hG k hk).2.2.2.1
 have z7:=gr.size
 have nd:d∉va.ownBlock.toList:=by simp;intro e;exact(hp.ba d e).2.2.1 rfl
 have hg:lo<=g/\g≠b/\g≠d/\vs.ownBlock≠some g/\vc.ownBlock≠some g/\¬(F g\/G g):=by
  rcases hat with e|e
  ·obtain⟨a1,a2,a3,a4,a5,a6⟩:=hp.ba g e
   refine⟨a1,a2,a3,a4,a5,?_⟩;rintro(h1|h1)
   ·exact a6 h1
   ·have:=hG g h1;simp_all
  ·refine⟨by omega,by omega,by omega,fun e2=>by have:=Ly g e2;omega,fun e2=>by have:=Lz g e2;omega,?_⟩
   rintro(h1|h1)
   ·have:=hp.f g h1;omega
   ·have:=hG g h1;omega
 exact {
  blk:=(hp.blk.kp gr nd).set 2 _
  rs:=ju hp.rs (fun k hk=>fr k (hp.rs.lt k hk).2 (by have:=hp.bs k hk;simp_all) (hp.bs k hk).2.2.1)
  rc:=ju hp.rc (fun k hk=>fr k (hp.rc.lt k hk).2 (by have:=hp.bc k hk;simp_all) (hp.bc k hk).2.2.1)
  ra:=by rw[List.length_append];simp only[ZC,List.flatMap_append];exact zJ own gD (fun k hk=>by simp[Value.ownBlock]at hk;subst hk;simpa using hg.2.2.1)
  ps:=fun p h1=>(hp.ps p h1).frame frF (fun _ h=>Or.inl h)
  pc:=fun p h1=>(hp.pc p h1).frame frF (fun _ h=>Or.inl h)
  pa:=by
   intro p hp'
   rcases List.mem_append.1 hp' with h1|h1
   ·exact(hp.pa p h1).frame frF (fun _ h=>Or.inl h)
   ·simp at h1;subst h1;exact hrep.frame frG (fun _ h=>Or.inr h)
  dlo:=hp.dlo
  bd:=hp.bd
  ns:=hp.ns
  nc:=hp.nc
  na:=by rw[List.length_append];exact hn
  bs:=by
   intro k hk;obtain⟨a1,a2,a3,a4,a5,a6⟩:=hp.bs k hk
   have hne:¬(Value.slice (some ⟨g,0,none⟩) (av.length+1) cap).ownBlock=some k:=by
    simp[Value.ownBlock];rintro rfl;simp_all
   have hF:¬(F k\/G k):=by
    rintro(h1|h1)
    ·exact a6 h1
    ·have:=hG k h1;simp_all
   exact⟨a1,a2,a3,a4,hne,hF⟩
  bc:=by
   intro k hk;obtain⟨a1,a2,a3,a4,a5,a6⟩:=hp.bc k hk
   have hne:¬(Value.slice (some ⟨g,0,none⟩) (av.length+1) cap).ownBlock=some k:=by
    simp[Value.ownBlock];rintro rfl;simp_all
   have hF:¬(F k\/G k):=by
    rintro(h1|h1)
    ·exact a6 h1
    ·have:=hG k h1;simp_all
   exact⟨a1,a2,a3,a4,hne,hF⟩
  ba:=by intro k hk;simp[Value.ownBlock]at hk;subst hk;exact hg
  f:=by
   intro k hk
   have zz:W.heap.size<=(w7.setCell ⟨d,2,none⟩ (.slice (some ⟨g,0,none⟩) (av.length+1) cap)).heap.size:=by simp[World.setCell];omega
   rcases hk with h1|h1
   ·have:=hp.f k h1;exact⟨this.1,by omega,this.2.2⟩
   ·have:=hG k h1;exact⟨this.1,by omega,this.2.2.1,this.2.2.2.1⟩}
end
def jj(S:ByteArray):Nat->St->List yb->Except Nat (List yb×St)
 |0,s,_=> .error s.i
 |n+1,s,R=>
  if bt S (run zI S s.i)=91 then
   match y9 S (zL (decide (6<=(R.length:Int))) 3 (s.sk S).i (s.sk S))with
   |.error d=> .error d
   |.ok ((L,P),s1)=>jj S n s1 (R++[⟨L,P⟩])
  else .ok (R,s.sk S)
def JA(S:ByteArray)(x:ByteArray)(s:St):Except Nat (zH×St):=
 if bt S (run zI S s.i)=123 then
  match zh S 123 (s.sk S)with
  |.error d=> .error d
  |.ok s3=>
   match jj S (S.size+1) s3 []with
   |.error d=> .error d
   |.ok (R,s4)=>
    match zh S 125 s4 with
    |.error d=> .error d
    |.ok s5=> .ok (⟨x,false,ByteArray.empty,ByteArray.empty,R⟩,s5)
 else
  match jG S (s.sk S)with
  |.error d=> .error d
  |.ok ((a,c),s3)=> .ok (⟨x,true,a,c,[]⟩,s3)
def j8(S:ByteArray)(ns nc:List ByteArray)(at1:Int)(s:St):Except Nat (zH×St):=
 match yA S (zL (decide (6<=(ns.length:Int))) 3 at1 s)with
 |.error d=> .error d
 |.ok ((x,a),s1)=>JA S x (zL (ZS ns nc x) 4 a s1)
def Kg(w:World)(lo b d:Nat)(S:ByteArray)(nest:Int)(_vs vc va:Value)(sv:List (zH×Value))(cv:List (zZ×Value))(av:List (ze×Value))(r:Except Nat (zH×St))(e:Ending)(w':World):Prop:=
 e= .returned (.tuple #[])/\Below lo w w'/\((∃D s' vr F' vs',r= .ok (D,s')/\zO w' b S s' (-1) nest/\s'.i<=S.size/\jQ w' lo b d F' vs' vc va (sv++[(D,vr)]) cv av)\/(∃Dd,r= .error Dd/\zj w' b S Dd))
def Kb(S:ByteArray)(w0:World)(b X:Nat)(nest:Int)(x:ByteArray)(r:Except Nat (List yb×St))(w5:World):Prop:=
 Ch [b,X] w0 w5/\∃(vr:Value) (n:Nat) (xs:List Value),zE w5 X #[.string x,.bool false,.string ⟨#[]⟩,.string ⟨#[]⟩,vr] 131/\w5.ownsRow 0 146 2 vr n xs/\(∀g,vr.ownBlock=some g->w0.heap.size<=g/\g<w5.heap.size)/\
  ((∃(rv:List (yb×(Value×Value))) (s5:St) (G:Nat->Prop) (m:Nat),zO w5 b S s5 (-1) nest/\s5.i<=S.size/\n=rv.length/\xs=(rv.flatMap fun p=>[p.2.1,p.2.2])/\(∀p,p∈rv->Qb w5 G p.2.1 p.2.2 p.1.cls p.1.o)/\(∀k,G k->w0.heap.size<=k/\k<w5.heap.size/\vr.ownBlock≠some k)/\n<=s5.i/\S.size<m+s5.i/\r=jj S m s5 (rv.map (·.1)))\/
   (∃D,zj w5 b S D/\r= .error D))
theorem LG{S:ByteArray}:∀n (s:St) P P' s',s.i<=S.size->jq S n s P= .ok (P',s')->s.i<=s'.i/\s'.i<=S.size:=by
 intro n
 induction n with
 |zero=>intro s P P' s' _ h;cases h
 |succ n ih=>
  intro s P P' s' hi h;have l1:=zn zI S s.i hi;unfold jq at h
  split at h
  ·cases h
  ·rename_i p s1 hp
   have b:=XI (by rw[(yj _ _ _ _).1];exact l1.2) hp;rw[(yj _ _ _ _).1]at b;simp only[St.sk]at b;have l2:=zn zI S s1.i b.2.1
   split at h
   ·simp at h
    rw[<- h.2];simp only[St.sk];omega
   ·have:=ih _ _ _ _ (by simp only[St.sk];omega) h
    simp only[St.sk]at this;omega
theorem XB{S:ByteArray}{L:List ByteArray}{s s':St}{p:ByteArray×Nat}(hi:s.i<=S.size)(h:yI S L s= .ok (p,s')):s.i<=s'.i/\s'.i<=S.size:=by
 have l1:=zn zI S s.i hi;have l2:=zn zR S _ l1.2;unfold yI at h;simp only at h
 split at h
 ·simp at h
  rw[<- h.2];simp only;omega
 ·cases h
theorem Yb{S:ByteArray}{c:Int}{s s':St}(hi:s.i<=S.size)(hc:0<=c)(h:zh S c s= .ok s'):s.i<s'.i/\s'.i<=S.size/\s'.k=s.k:=by
 have l1:=zn zI S s.i hi;unfold zh at h
 split at h
 ·have:=yB (S:=S) (i:=run zI S s.i) (by omega)
  simp at h;rw[<- h];exact⟨by simp only;omega,by simp only;omega,rfl⟩
 ·cases h
theorem MX{S:ByteArray}{s s':St}{q:List (Int×Int)×List (Int×ByteArray)}(hi:s.i<=S.size)(h:y9 S s= .ok (q,s')):s.i<s'.i/\s'.i<=S.size:=by
 have l1:=zn zI S s.i hi;unfold y9 at h
 split at h
 ·cases h
 ·rename_i L s1 h1
  have b1:=VO h1;simp only[St.sk]at b1
  split at h
  ·cases h
  ·rename_i p s2 h2
   have b2:=XB b1.2.1 h2
   split at h
   ·cases h
   ·rename_i P s3 h3
    have b3:s2.i<=s3.i/\s3.i<=S.size:=by
     unfold jt at h3;have l2:=zn zI S s2.i b2.2
     split at h3
     ·split at h3
      ·cases h3
      ·rename_i p' s4 h4
       have:=XB (s:=s2.sk S) (by simp only[St.sk];omega) h4;simp at h3;simp only[St.sk]at this;rw[<- h3.2];omega
     ·have:=LG _ _ _ _ _ (by simp only[St.sk];omega) h3
      simp only[St.sk]at this;omega
    split at h
    ·cases h
    ·rename_i s5 h5
     have b5:=Yb b3.2 (by omega) h5;simp at h;rw[<- h.2];omega
theorem K4{w W:World}{lo b d:Nat}{S:ByteArray}{nest:Int}{F:Nat->Prop}{a0:Option Addr}{c0:Nat}{vc va:Value}{sv:List (zH×Value)}{cv:List (zZ×Value)}{av:List (ze×Value)}(hp:jQ w lo b d F (.slice a0 sv.length c0) vc va sv cv av)(gW:Ch [b] w W)(hlo:lo<=b)(hbl:b<w.heap.size)(hn:sv.length<450)
 {x:ByteArray} {sw:Bool} {A C:ByteArray} {vr:Value} {τ:Except Nat St} (PW:PS W b S nest τ) {r:Except Nat (zH×St)}
 (hr:(∃D s' G,r= .ok (D,s')/\τ= .ok s'/\D.name=x/\D.swap=sw/\D.one=A/\D.two=C/\YC W G vr D.rules/\(∀k,G k->w.heap.size<=k/\k<W.heap.size))\/(∃Dd,r= .error Dd/\τ= .error Dd)):
 ∀(g cap:Nat) (w7:World),w7.ownsRow 0 131 5 (.slice (some ⟨g,0,none⟩) (sv.length+1) cap) (sv.length+1) (JH sv++[.string x,.bool sw,.string A,.string C,vr])->Ch (Value.slice a0 sv.length c0).ownBlock.toList (W.drew.alloc (.cells #[.string x,.bool sw,.string A,.string C,vr] 131)) w7->((Value.slice a0 sv.length c0).ownBlock=some g\/g=W.heap.size+1)->
  Kg w lo b d S nest (.slice a0 sv.length c0) vc va sv cv av r (.returned (.tuple #[])) (w7.setCell ⟨d,0,none⟩ (.slice (some ⟨g,0,none⟩) (sv.length+1) cap)):=by
 intro g cap w7 own7 gr7 hat7;have gA:Ch [] W (W.drew.alloc (.cells #[.string x,.bool sw,.string A,.string C,vr] 131)):=(Ch.drew [] W).trans (Ch.alloc _ _ _);have gB:Ch [b] w (W.drew.alloc (.cells #[.string x,.bool sw,.string A,.string C,vr] 131)):=gW.trans (gA.mono (by simp));have Yu:=hp.kp gB
 have zA:(W.drew.alloc (.cells #[.string x,.bool sw,.string A,.string C,vr] 131)).heap.size=W.heap.size+1:=by
  show(W.heap.push _).size=_;simp
 have zW:=gW.size
 have nb:b∉(Value.slice a0 sv.length c0).ownBlock.toList:=by simp;intro e;exact(hp.bs b e).2.1 rfl
 have gD:Ch [d] w7 (w7.setCell ⟨d,0,none⟩ (.slice (some ⟨g,0,none⟩) (sv.length+1) cap)):=Ch.setCell _ (by simp) _;have P7:PS (w7.setCell ⟨d,0,none⟩ (.slice (some ⟨g,0,none⟩) (sv.length+1) cap)) b S nest τ:=((PW.kp gA (by simp)).kp gr7 nb).kp gD (by simpa using hp.bd);refine⟨rfl,?_,?_⟩
 ·refine((gB.below (by omega) (by simp;omega)).trans ((gr7.below (by omega) ?_).trans (gD.below (by have:=gr7.size;omega) (by simp;exact hp.dlo))))
  intro k hk;simp at hk;exact(hp.bs k hk).1
 ·rcases hr with⟨D,s',G,rfl,rfl,rfl,rfl,rfl,rfl,hR,hG⟩|⟨Dd,rfl,rfl⟩
  ·refine Or.inl ⟨D,s',vr,fun k=>F k\/G k,.slice (some ⟨g,0,none⟩) (sv.length+1) cap,rfl,P7.1,P7.2,?_⟩
   have hR':YC (W.drew.alloc (.cells #[.string D.name,.bool D.swap,.string D.one,.string D.two,vr] 131)) G vr D.rules:=hR.frame (fun k hk=>gA.block k (hG k hk).2 (by simp)) (fun _ h=>h);refine Yu.addScrub (H:=W.heap.size+1) hn (fun k hk=> ?_) hR' own7 gr7 hat7 (by omega) (by omega) (by omega);have h1:=hG k hk;refine⟨by omega,by omega,by omega,by have:=hp.blk.lt;omega,fun e=> ?_,fun e=> ?_,fun e=> ?_⟩
   ·have:=(hp.rs.lt k e).2;omega
   ·have:=(hp.rc.lt k e).2;omega
   ·have:=(hp.ra.lt k e).2;omega
  ·exact Or.inr ⟨Dd,rfl,P7⟩
theorem Cp{w:World}{lo b d:Nat}{S:ByteArray}{nest:Int}{s:St}{F:Nat->Prop}{vs vc va:Value}{sv:List (zH×Value)}{cv:List (zZ×Value)}{av:List (ze×Value)}(h:zO w b S s (-1) nest)(hi:s.i<=S.size)(hS:S.size<=400)(hp:jQ w lo b d F vs vc va sv cv av)(hn:sv.length<450)(hlo:lo<=b)(at1:Int):
 Calls Tryz.prog 31 #[.pointer (some ⟨b,0,none⟩),.pointer (some ⟨d,0,none⟩),.int .i64 at1] w (Kg w lo b d S nest vs vc va sv cv av (j8 S (yy sv) (yz cv) at1 s)):=by
 obtain⟨a0,c0,rfl⟩:=zQ hp.rs;have d0:=hp.blk.cl 0 _ rfl;have hbl:=h.lt;go_enter Tryz.func31,Tryz.ntmps31;go_wp2_with fail;refine(YP (σ:= .ok s) ⟨h,hi⟩ _ _ _).mono ?_;rintro e w1 ⟨rfl,h1,g1⟩;simp only[yF]at h1
 have RE:Hd (j8 S (yy sv) (yz cv) at1 s=match yA S (zL (decide (6<=(sv.length:Int))) 3 at1 s)with
  |.error d=> .error d
  |.ok ((x,a),s1)=>JA S x (zL (ZS (yy sv) (yz cv) x) 4 a s1)):=by
  show _=_;simp only[j8,yy,List.length_map]
 generalize hr:j8 S (yy sv) (yz cv) at1 s=r at *;clear hr;generalize zL (decide (6<=(sv.length:Int))) 3 at1 s=s1 at *;have hp1:=hp.kp g1;have h2:=h1.kp (Ch.alloc [] w1 (.cells #[.string ⟨#[]⟩,.bool false,.string ⟨#[]⟩,.string ⟨#[]⟩,.slice none 0 0] 131)) (by simp);have X2:=zE.new w1 #[.string ⟨#[]⟩,.bool false,.string ⟨#[]⟩,.string ⟨#[]⟩,.slice none 0 0] 131;have hp2:=hp1.kp (Ch.alloc [b] w1 (.cells #[.string ⟨#[]⟩,.bool false,.string ⟨#[]⟩,.string ⟨#[]⟩,.slice none 0 0] 131));have g2:Ch [b] w (w1.alloc (.cells #[.string ⟨#[]⟩,.bool false,.string ⟨#[]⟩,.string ⟨#[]⟩,.slice none 0 0] 131)):=g1.trans (Ch.alloc _ _ _);have zX:w.heap.size<=w1.heap.size:=g1.size;have dX:d<w1.heap.size:=hp1.blk.lt;clear d0;go_wp2_with fail;generalize w1.alloc (.cells #[.string ⟨#[]⟩,.bool false,.string ⟨#[]⟩,.string ⟨#[]⟩,.slice none 0 0] 131)=w2 at *;generalize hX:w1.heap.size=X at *;have HX:=zC hX;clear hX h1 hp1 g1;refine(Ub h2 hS).mono ?_;rintro e w3 ⟨a,rfl,ha,h3,g3⟩;have HA:=zC ha;clear ha;generalize hx:(j4 (ByteArray.empty,0) (zN (.ok s1) (yA S))).1=x;have HXN:=zC hx;clear hx;have X3:=X2.kp g3 (by simp;omega);have x0:=X3.cl 0 _ rfl;have xf:=X3.fz;have h4:=h3.kp (Ch.setCell (X:=[X]) w3 (p:=⟨X,0,none⟩) (by simp) (.string x)) (by simp;omega);have X4:=X3.set 0 (.string x);have g4:Ch [b] w (w3.setCell ⟨X,0,none⟩ (.string x)):=(g2.trans g3).setCell_new (Or.inr zX) _;go_wp2_with fail;have hp4:=hp.kp g4;clear X3 x0 xf h3 g3 X2 h2 hp2 g2;generalize w3.setCell ⟨X,0,none⟩ (.string x)=w4 at *;refine(Eb h4 hp4 _ _).mono ?_;rintro e w5 ⟨rfl,h5,g5⟩;have X5:=X4.kp g5 (by simp;omega);have g45:=g4.trans g5;clear X4 h4 hp4 g4 g5;generalize hσ5:yF (yd (zN (.ok s1) (yA S))) (zL (ZS (yy sv) (yz cv) x) 4 a)=σ5 at *
 have RB:Hd (r=zN σ5 (JA S x)):=by
  show _=_
  rw[RE.o,<- hσ5];have e1:=HXN.o;have e2:=HA.o;simp only[zN]at e1 e2 ⊢
  cases hnm:yA S s1 with
  |error d=>rfl
  |ok p=>
   obtain⟨⟨y,p⟩,s2⟩:=p;rw[hnm]at e1;have:=e2 y p s2 hnm;subst this;simp only[j4]at e1;subst e1
   try rfl
 clear hσ5 RE HA HXN;go_wp2_with fail;refine(NA h5 hS _ (by omega)).mono ?_;rintro e w6 ⟨rfl,h6,g6⟩;have X6:=X5.kp g6 (by simp;omega);have g46:=g45.trans g6;clear X5 h5 g45 g6
 cases hq:QR S 123 σ5 with
 |false=>
  have RC:Hd (r=zN (yF σ5 (St.sk S)) (fun s=>match jG S s with|.error d=> .error d|.ok ((a,c),s3)=> .ok (⟨x,true,a,c,[]⟩,s3))):=by
   show _=_
   rw[RB.o]
   cases σ5 with
   |error d=>rfl
   |ok s5=>
    simp only[QR]at hq;simp only[zN,yF,JA];rw[if_neg (by simpa using hq)]
  clear RB hq;go_wp2_with fail;refine(Ta h6 hS X6 (by omega)).mono ?_;rintro e W ⟨A,C,rfl,XW,hAC,PW,g7⟩;have gW:Ch [b] w W:=g46.trans' g7 (by intro k hk;simp at hk;rcases hk with rfl|rfl;exact Or.inl (by simp);exact Or.inr zX)
  have FINAL:=zC (K4 (S:=S) hp gW hlo hbl hn (x:=x) (sw:=true) (A:=A) (C:=C) (vr:= .slice none 0 0) PW (r:=r) (by
   have e:=RC.o;have e2:=hAC;generalize yF σ5 (St.sk S)=σ6 at *
   cases σ6 with
   |error d=>exact Or.inr ⟨d,e,rfl⟩
   |ok s6=>
    simp only[zN]at e e2 ⊢
    cases hsw:jG S s6 with
    |error d=>rw[hsw]at e;exact Or.inr ⟨d,e,rfl⟩
    |ok p=>
     obtain⟨⟨A',C'⟩,s7⟩:=p;rw[hsw]at e;obtain⟨rfl,rfl⟩:=e2 A' C' s7 hsw
     exact Or.inl ⟨_,s7,fun _=>False,e,rfl,rfl,rfl,rfl,rfl,⟨by simp[Value.ownBlock],[],rfl,World.ownsRow_nil _ _ _ _,by simp⟩,by simp⟩))
  clear RC hAC PW g7 X6 h6 g46;have hpW:=hp.kp gW;have dW:=hpW.blk.cl 0 _ rfl;have dfW:=hpW.blk.fz;have y0:=XW.cl 0 _ rfl;have y1:=XW.cl 1 _ rfl;have y2:=XW.cl 2 _ rfl;have y3:=XW.cl 3 _ rfl;have y4:=XW.cl 4 _ rfl;have gAl:Ch [] W (W.drew.alloc (.cells #[.string x,.bool true,.string A,.string C,.slice none 0 0] 131)):=(Ch.drew [] W).trans (Ch.alloc _ _ _);have OWN:=zJ hpW.rs gAl (by simp);have BLK:=hpW.blk.kp gAl (by simp);have bal:=(hpW.blk.kp (Ch.alloc [] W (.cells #[.string x,.bool true,.string A,.string C,.slice none 0 0] 131)) (by simp)).cl 0 _ rfl;have NEW:(W.drew.alloc (.cells #[.string x,.bool true,.string A,.string C,.slice none 0 0] 131)).heap[W.heap.size]? =some (.cells [.string x,.bool true,.string A,.string C,.slice none 0 0].toArray 131):=zr W.drew _
  have ZN:(W.drew.alloc (.cells #[.string x,.bool true,.string A,.string C,.slice none 0 0] 131)).heap.size=W.heap.size+1:=by show(W.heap.push _).size=_;simp
  have NDD:Hd (d∉(Value.slice a0 sv.length c0).ownBlock.toList):=by show ¬_;simp;intro e;exact(hp.bs d e).2.2.1 rfl
  go_wp2_with fail
  go_region_law ((refine Zc 37 131 5 80 (.agg #[.string ⟨#[]⟩,.bool false,.string ⟨#[]⟩,.string ⟨#[]⟩,.slice none 0 0]) Tryz.underlying37 Xg rfl (by omega) (by omega) (by rfl) _ _ (by rfl) (.slice a0 sv.length c0) sv.length (JH sv) (by rfl) OWN W.heap.size [.string x,.bool true,.string A,.string C,.slice none 0 0] (by rfl) NEW rfl (by intro u hu;simp at hu;rcases hu with rfl|rfl|rfl|rfl|rfl <;>rfl) (by omega) (W.heap.size+1) ZN ?_;intro g cap w7 own7 gr7 hat7 hlt7;have B7:=BLK.kp gr7 NDD.o;have b70:=B7.cl 0 _ rfl;have b7f:=B7.fz))
  all_goals
   go_wp2_with fail
   go_end0
   exact FINAL.o _ _ _ own7 gr7 hat7
 |true=>
  have RC:Hd (r=match zN (zN (yF σ5 (St.sk S)) (zh S 123)) (fun s=>jj S (S.size+1) s [])with
   |.error d=> .error d
   |.ok (R,s4)=>match zh S 125 s4 with|.error d=> .error d|.ok s5=> .ok (⟨x,false,ByteArray.empty,ByteArray.empty,R⟩,s5)):=by
   show _=_
   rw[RB.o]
   cases σ5 with
   |error d=>rfl
   |ok s5=>
    simp only[QR]at hq;simp only[zN,yF,JA];rw[if_pos (by simpa using hq)]
    cases zh S 123 (s5.sk S) <;>rfl
  clear RB hq;go_wp2_with fail;refine(Yi h6 hS _ (by omega)).mono ?_;rintro e w7 ⟨rfl,h7,g7⟩;have X7:=X6.kp g7 (by simp;omega);have g47:=g46.trans g7;generalize hσ7:zN (yF σ5 (St.sk S)) (zh S 123)=σ7 at *;clear hσ7 X6 h6 g46 g7;generalize hrr:zN σ7 (fun s=>jj S (S.size+1) s [])=rr at *;have zX7:=X7.lt
  have START:Hd (Kb S w7 b X nest x rr w7):=by
   refine⟨Ch.refl _ _,.slice none 0 0,0,[],X7,World.ownsRow_nil _ _ _ _,by simp[Value.ownBlock],?_⟩
   cases σ7 with
   |error d=>exact Or.inr ⟨d,h7,hrr.symm⟩
   |ok s7=>exact Or.inl ⟨[],s7,fun _=>False,S.size+1,h7.1,h7.2,rfl,rfl,by simp,by simp,by simp,by omega,hrr.symm⟩
  have bX:b<X:=by omega
  clear hrr h7 X7;go_wp2_with fail
  go_loopw [10] (fun _ w8=>Kb S w7 b X nest x rr w8) (fun _ w8=>penM b S.size w8)
  case atStart=>exact START.o
  case round=>
   clear START;generalize wr=w8 at *;obtain⟨g8,vr,n0,xs,X8,O8,V8,⟨rv,s5,G,m,h8,hi8,rfl,rfl,hR8,hG8,hle8,hm8,hrr⟩|⟨D,h8,hrr⟩⟩:=hrel
   ·obtain⟨va',vc',rfl⟩:=zQ O8
    obtain⟨m,rfl⟩:∃k,m=k+1:=⟨m - 1,by omega⟩;have hm0:Hd (penM b S.size w8=S.size+1 - s5.i):=h8.penM;have l5:=zn zI S s5.i hi8
    by_cases h91:bt S (run zI S s5.i)=91
    ·have q91:(bt S (run zI S s5.i)==91)=true:=by simp[h91]
     have l6:=yB (S:=S) (i:=run zI S s5.i) (by omega)
     have HRR:Hd (rr=match y9 S (zL (decide (6<=(rv.length:Int))) 3 (s5.sk S).i (s5.sk S))with
      |.error d=> .error d
      |.ok ((L,P),s1)=>jj S m s1 (rv.map (·.1)++[⟨L,P⟩])):=by
      show _=_
      rw[hrr];simp only[jj,h91,if_true,List.length_map]
     have NE:Hd (∀L P s1,y9 S (zL (decide (6<=(rv.length:Int))) 3 (s5.sk S).i (s5.sk S))= .ok ((L,P),s1)->s5.i<s1.i/\s1.i<=S.size):=by
      intro L P s1 e;have:=MX (by rw[(yj _ _ _ _).1];exact l5.2) e;rw[(yj _ _ _ _).1]at this;simp only[St.sk]at this;omega
     clear h91 hrr;go_wp2_with fail;refine(Wl h8 _ (by omega) hS hi8).mono ?_;rintro e w9 ⟨rfl,h9,g9⟩;have X9:=X8.kp g9 (by simp;omega);obtain⟨c0',c1',c2',c3',c4',c5',c6',fz'⟩:=h9.fa;have x4':=X9.cl 4 _ rfl;have h9':zO w9 b S (s5.sk S) (-1) nest:=h9;simp only at c1';go_wp2_with fail
     go_region_held3 (fun w'=>w'.cell? ⟨b,1,none⟩=some (.int .i64 (run zI S s5.i))/\w'.cell? ⟨X,4,none⟩=some (.slice va' rv.length vc')) (first|go_keep|(exact⟨e1,e9⟩))
      (first|(go_at_call 53;refine(QB (S:=S) (s:=s5.sk S) (nest:=nest) ?_ _ _ _).mono ?_;exact h9';rintro e w10 ⟨rfl,h10,g10⟩;obtain⟨e5,e1,e6⟩:=Uo h10;simp only[St.sk]at e1;have e9:=(X9.kp ((Ch.drew [b] _).trans g10) (by simp;omega)).cl 4 _ rfl))
     rename_i hHeld
     clear hHeld;have s9i:=(yj (decide ((6:Int)<=rv.length)) 3 (s5.sk S).i (s5.sk S)).1;have h10':zO w10 b S (zL (decide ((6:Int)<=rv.length)) 3 (s5.sk S).i (s5.sk S)) (-1) nest:=h10;generalize zL (decide ((6:Int)<=rv.length)) 3 (s5.sk S).i (s5.sk S)=s9 at *;have g810:Ch [b] w8 w10:=g9.trans ((Ch.drew _ _).trans g10)
     have i9:s5.i<=s9.i/\s9.i<=S.size:=by rw[s9i];exact l5
     clear e5 e1 e6 e9 s9i c0' c1' c2' c3' c4' c5' c6' fz' x4' h9' h10 h9 X9 q91;go_wp2_with fail;refine(Te (σ:= .ok s9) ⟨h10',i9.2⟩ hS).mono ?_;rintro e w11 ⟨_,_,rfl,⟨ai,ni,ci,rfl⟩,⟨ao,no,co,rfl⟩,hru,h11,g11⟩;have g811:=g810.trans g11;have X11:=X8.kp g811 (by simp;omega);have O11:=zJ O8 g811 (fun k hk=>by have:=V8 k hk;simp;omega);have gAA:Ch [] w11 ((w11.alloc (.cells #[.slice ai ni ci,.slice ao no co] 146)).alloc (.cells #[.slice ai ni ci,.slice ao no co] 146)):=(Ch.alloc [] w11 _).trans (Ch.alloc _ _ _);have O12:=zJ O11 gAA (by simp);have X12:=X11.kp gAA (by simp)
     have N12:((w11.alloc (.cells #[.slice ai ni ci,.slice ao no co] 146)).alloc (.cells #[.slice ai ni ci,.slice ao no co] 146)).heap[w11.heap.size+1]? =some (.cells [.slice ai ni ci,.slice ao no co].toArray 146):=by
      have:=zr (w11.alloc (.cells #[.slice ai ni ci,.slice ao no co] 146)) (.cells #[.slice ai ni ci,.slice ao no co] 146)
      simpa using this
     have x4':=X11.cl 4 _ rfl;have x4'':=(X11.kp (Ch.alloc [] w11 (.cells #[.slice ai ni ci,.slice ao no co] 146)) (by simp)).cl 4 _ rfl;have hX11:=X11.lt
     have fin:∀(g cap:Nat) (w13:World),w13.ownsRow 0 146 2 (.slice (some ⟨g,0,none⟩) (rv.length+1) cap) (rv.length+1) ((rv.flatMap fun p=>[p.2.1,p.2.2])++[.slice ai ni ci,.slice ao no co])->Ch (Value.slice va' rv.length vc').ownBlock.toList ((w11.alloc (.cells #[.slice ai ni ci,.slice ao no co] 146)).alloc (.cells #[.slice ai ni ci,.slice ao no co] 146)) w13->((Value.slice va' rv.length vc').ownBlock=some g\/g=w11.heap.size+2)->g<w13.heap.size->
      Kb S w7 b X nest x rr (w13.setCell ⟨X,4,none⟩ (.slice (some ⟨g,0,none⟩) (rv.length+1) cap))/\penM b S.size (w13.setCell ⟨X,4,none⟩ (.slice (some ⟨g,0,none⟩) (rv.length+1) cap))<S.size+1 - s5.i:=by
      intro g cap w13 own13 gr13 hat13 hlt13;have z11:=g811.size;have z8:=g8.size;have zAA:=gAA.size;have z13:=gr13.size;simp at z13
      have hg6:w7.heap.size<=g:=by
       rcases hat13 with e|e
       ·exact(V8 g e).1
       ·omega
      have nX:X∉(Value.slice va' rv.length vc').ownBlock.toList:=by simp;intro e;have:=V8 _ e;omega
      have nb:b∉(Value.slice va' rv.length vc').ownBlock.toList:=by simp;intro e;have:=V8 _ e;omega
      have X13:=X12.kp gr13 nX;have gX:Ch [X] w13 (w13.setCell ⟨X,4,none⟩ (.slice (some ⟨g,0,none⟩) (rv.length+1) cap)):=Ch.setCell _ (by simp) _;have P13:=((h11.kp gAA (by simp)).kp gr13 nb).kp gX (by simp;omega)
      have C13:Ch [b,X] w7 (w13.setCell ⟨X,4,none⟩ (.slice (some ⟨g,0,none⟩) (rv.length+1) cap)):=by
       refine Ch.trans (((g8.trans (g811.mono (by simp))).trans (gAA.mono (by simp))).trans' gr13 (fun k hk=> ?_)) (gX.mono (by simp));simp at hk;exact Or.inr (V8 k hk).1
      have O13:=zJ own13 gX (fun k hk=>by simp[Value.ownBlock]at hk;subst hk;simp;omega)
      have V13:∀k,(Value.slice (some ⟨g,0,none⟩) (rv.length+1) cap).ownBlock=some k->w7.heap.size<=k/\k<(w13.setCell ⟨X,4,none⟩ (.slice (some ⟨g,0,none⟩) (rv.length+1) cap)).heap.size:=by
       intro k hk;simp[Value.ownBlock]at hk;subst hk;exact⟨hg6,by simp[World.setCell];omega⟩
      have e:=HRR.o;have e2:=hru;simp only[zN]at P13 e2
      cases hru1:y9 S s9 with
      |error D=>
       rw[hru1]at e P13;have P14:zj (w13.setCell ⟨X,4,none⟩ (.slice (some ⟨g,0,none⟩) (rv.length+1) cap)) b S D:=P13;refine⟨⟨C13,_,rv.length+1,_,X13.set 4 _,O13,V13,Or.inr ⟨D,P14,e⟩⟩,?_⟩;rw[P14.penM];omega
      |ok p=>
       obtain⟨⟨L,P⟩,s1⟩:=p;rw[hru1]at e P13;have P14:zO (w13.setCell ⟨X,4,none⟩ (.slice (some ⟨g,0,none⟩) (rv.length+1) cap)) b S s1 (-1) nest:=P13.1;obtain⟨n1,n2⟩:=NE.o L P s1 hru1;have RR:=e2 L P s1 hru1
       have fr:∀k,k<w11.heap.size->(Value.slice va' rv.length vc').ownBlock≠some k->k≠X->(w13.setCell ⟨X,4,none⟩ (.slice (some ⟨g,0,none⟩) (rv.length+1) cap)).heap[k]? =w11.heap[k]? :=by
        intro k a1 a2 a3;rw[Below.heap_setCell _ _ _ _ (by simpa using a3),gr13.block k (by simp;omega) (by simpa using a2),gAA.block k a1 (by simp)]
       refine⟨⟨C13,_,rv.length+1,_,X13.set 4 _,O13,V13,Or.inl ⟨rv++[(⟨L,P⟩,(.slice ai ni ci,.slice ao no co))],s1,fun k=>G k\/(w10.heap.size<=k/\k<w11.heap.size),m,P14,n2,by simp,by simp,?_,?_,by omega,by omega,by simpa using e⟩⟩,?_⟩
       ·intro p hp'
        rcases List.mem_append.1 hp' with h1|h1
        ·refine(hR8 p h1).frame (fun k hk=> ?_) (fun _ h=>Or.inl h)
         obtain⟨a1,a2,a3⟩:=hG8 k hk;rw[fr k (by omega) a3 (by omega),g811.block k a2 (by simp;omega)]
        ·simp at h1
         subst h1;refine RR.frame (fun k hk=>fr k hk.2 (fun e=> ?_) ?_) (fun _ h=>Or.inr h)
         ·have:=V8 k e;have:=g810.size;omega
         ·have:=g810.size;omega
       ·intro k hk
        have q:=g810.size
        rcases hk with hk|hk
        ·obtain⟨a1,a2,a3⟩:=hG8 k hk
         refine⟨a1,by simp[World.setCell];omega,?_⟩;simp only[Value.ownBlock,ne_eq,Option.some.injEq];rintro rfl
         rcases hat13 with e|e
         ·exact a3 e
         ·omega
        ·refine⟨by omega,by simp[World.setCell];omega,?_⟩
         simp only[Value.ownBlock,ne_eq,Option.some.injEq];rintro rfl
         rcases hat13 with e|e
         ·have:=V8 _ e;omega
         ·omega
       ·rw[P14.penM];omega
     have FN:=zC fin;have V8x:=zC V8;clear fin hru V8 hR8 hG8 HRR NE;go_wp2_with (at_builtin;refine QC 129 146 2 48 (.agg #[.slice none 0 0,.slice none 0 0]) Tryz.underlying129 OC rfl (by omega) (by omega) (by rfl) _ _ (by rfl) (.slice va' rv.length vc') rv.length _ (by rfl) O12 (w11.heap.size+1) [.slice ai ni ci,.slice ao no co] (by rfl) N12 rfl (by simp;exact⟨rfl,rfl⟩) (by omega) (w11.heap.size+2) (by simp) ?_;intro g cap w13 own13 gr13 hat13 hlt13;have X13:=X12.kp gr13 (by simp;intro e;have:=V8x.o _ e;omega);have x13:=X13.cl 4 _ rfl;have f13:=X13.fz);obtain⟨A1,A2⟩:=FN.o g cap w13 own13 gr13 hat13 hlt13;go_roundw
     case rel=>exact A1
     case measure=>rw[hm0.o];exact A2
    ·have q91:(bt S (run zI S s5.i)==91)=false:=by simp[h91]
     have HRR:Hd (rr= .ok (rv.map (·.1),s5.sk S)):=by
      show _=_
      rw[hrr];simp only[jj,h91,if_false]
     clear h91 hrr;go_wp2_with fail;refine(Wl h8 _ (by omega) hS hi8).mono ?_;rintro e w9 ⟨rfl,h9,g9⟩;go_wp2_with fail;refine(Yi (σ:= .ok (s5.sk S)) ⟨h9,l5.2⟩ hS _ (by omega)).mono ?_;rintro e W ⟨rfl,PW,g10⟩;have g8W:Ch [b] w8 W:=g9.trans g10;have XW:=X8.kp g8W (by simp;omega);have gW:Ch [b] w W:=(g47.trans' g8 (by intro k hk;simp at hk;rcases hk with rfl|rfl;exact Or.inl (by simp);exact Or.inr zX)).trans g8W;have z47:=g47.size;have z8:=g8.size
     have FINAL:=zC (K4 (S:=S) hp gW hlo hbl hn (x:=x) (sw:=false) (A:=⟨#[]⟩) (C:=⟨#[]⟩) (vr:= .slice va' rv.length vc') PW (r:=r) (by
      have e:=RC.o;rw[HRR.o]at e;simp only at e
      cases hs:zh S 125 (s5.sk S)with
      |error d=>rw[hs]at e;exact Or.inr ⟨d,e,by simp[zN,hs]⟩
      |ok s6=>
       rw[hs]at e;refine Or.inl ⟨_,s6,fun k=>G k\/(Value.slice va' rv.length vc').ownBlock=some k,e,by simp[zN,hs],rfl,rfl,rfl,rfl,⟨fun g hg=>Or.inr hg,rv,rfl,zJ O8 g8W (fun k hk=>by have:=V8 k hk;simp;omega),fun p hp'=>(hR8 p hp').frame (fun k hk=>g8W.block k (hG8 k hk).2.1 (by have:=hG8 k hk;simp;omega)) (fun _ h=>Or.inl h)⟩,?_⟩;intro k hk;have:=g8W.size
       rcases hk with hk|hk
       ·have:=hG8 k hk;omega
       ·have:=V8 k hk;omega))
     clear RC PW HRR hR8 hG8 V8 g8W g9 g10 h9 h8 X8 O8 hle8 hm8;have hpW:=hp.kp gW;have dW:=hpW.blk.cl 0 _ rfl;have dfW:=hpW.blk.fz;have y0:=XW.cl 0 _ rfl;have y1:=XW.cl 1 _ rfl;have y2:=XW.cl 2 _ rfl;have y3:=XW.cl 3 _ rfl;have y4:=XW.cl 4 _ rfl;have gAl:Ch [] W (W.drew.alloc (.cells #[.string x,.bool false,.string ⟨#[]⟩,.string ⟨#[]⟩,(.slice va' rv.length vc')] 131)):=(Ch.drew [] W).trans (Ch.alloc _ _ _);have OWN:=zJ hpW.rs gAl (by simp);have BLK:=hpW.blk.kp gAl (by simp);have bal:=(hpW.blk.kp (Ch.alloc [] W (.cells #[.string x,.bool false,.string ⟨#[]⟩,.string ⟨#[]⟩,(.slice va' rv.length vc')] 131)) (by simp)).cl 0 _ rfl;have NEW:(W.drew.alloc (.cells #[.string x,.bool false,.string ⟨#[]⟩,.string ⟨#[]⟩,(.slice va' rv.length vc')] 131)).heap[W.heap.size]? =some (.cells [.string x,.bool false,.string ⟨#[]⟩,.string ⟨#[]⟩,(.slice va' rv.length vc')].toArray 131):=zr W.drew _
     have ZN:(W.drew.alloc (.cells #[.string x,.bool false,.string ⟨#[]⟩,.string ⟨#[]⟩,(.slice va' rv.length vc')] 131)).heap.size=W.heap.size+1:=by show(W.heap.push _).size=_;simp
     have NDD:Hd (d∉(Value.slice a0 sv.length c0).ownBlock.toList):=by show ¬_;simp;intro e;exact(hp.bs d e).2.2.1 rfl
     go_wp2_with fail
     go_region_law ((refine Zc 37 131 5 80 (.agg #[.string ⟨#[]⟩,.bool false,.string ⟨#[]⟩,.string ⟨#[]⟩,.slice none 0 0]) Tryz.underlying37 Xg rfl (by omega) (by omega) (by rfl) _ _ (by rfl) (.slice a0 sv.length c0) sv.length (JH sv) (by rfl) OWN W.heap.size [.string x,.bool false,.string ⟨#[]⟩,.string ⟨#[]⟩,(.slice va' rv.length vc')] (by rfl) NEW rfl (by intro u hu;simp at hu;rcases hu with rfl|rfl|rfl|rfl|rfl <;>rfl) (by omega) (W.heap.size+1) ZN ?_;intro g cap w7 own7 gr7 hat7 hlt7;have B7:=BLK.kp gr7 NDD.o;have b70:=B7.cl 0 _ rfl;have b7f:=B7.fz))
     all_goals
      go_wp2_with fail
      go_end0
      exact FINAL.o _ _ _ own7 gr7 hat7
   ·obtain⟨va',vc',rfl⟩:=zQ O8
    have HRR:=zC hrr;clear hrr;go_wp2_with fail;refine(Up h8 _).mono ?_;rintro e w9 ⟨rfl,h9,g9⟩;go_wp2_with fail;refine(Us h9 _).mono ?_;rintro e W ⟨rfl,PW,g10⟩;have g8W:Ch [b] w8 W:=g9.trans g10;have XW:=X8.kp g8W (by simp;omega);have gW:Ch [b] w W:=(g47.trans' g8 (by intro k hk;simp at hk;rcases hk with rfl|rfl;exact Or.inl (by simp);exact Or.inr zX)).trans g8W
    have FINAL:=zC (K4 (S:=S) hp gW hlo hbl hn (x:=x) (sw:=false) (A:=⟨#[]⟩) (C:=⟨#[]⟩) (vr:= .slice va' n0 vc') (nest:=nest) (τ:= .error D) PW (r:=r) (by
     have e:=RC.o;rw[HRR.o]at e
     exact Or.inr ⟨D,e,rfl⟩))
    clear RC PW HRR V8 g8W g9 g10 h9 h8 X8 O8;have hpW:=hp.kp gW;have dW:=hpW.blk.cl 0 _ rfl;have dfW:=hpW.blk.fz;have y0:=XW.cl 0 _ rfl;have y1:=XW.cl 1 _ rfl;have y2:=XW.cl 2 _ rfl;have y3:=XW.cl 3 _ rfl;have y4:=XW.cl 4 _ rfl;have gAl:Ch [] W (W.drew.alloc (.cells #[.string x,.bool false,.string ⟨#[]⟩,.string ⟨#[]⟩,(.slice va' n0 vc')] 131)):=(Ch.drew [] W).trans (Ch.alloc _ _ _);have OWN:=zJ hpW.rs gAl (by simp);have BLK:=hpW.blk.kp gAl (by simp);have bal:=(hpW.blk.kp (Ch.alloc [] W (.cells #[.string x,.bool false,.string ⟨#[]⟩,.string ⟨#[]⟩,(.slice va' n0 vc')] 131)) (by simp)).cl 0 _ rfl;have NEW:(W.drew.alloc (.cells #[.string x,.bool false,.string ⟨#[]⟩,.string ⟨#[]⟩,(.slice va' n0 vc')] 131)).heap[W.heap.size]? =some (.cells [.string x,.bool false,.string ⟨#[]⟩,.string ⟨#[]⟩,(.slice va' n0 vc')].toArray 131):=zr W.drew _
    have ZN:(W.drew.alloc (.cells #[.string x,.bool false,.string ⟨#[]⟩,.string ⟨#[]⟩,(.slice va' n0 vc')] 131)).heap.size=W.heap.size+1:=by show(W.heap.push _).size=_;simp
    have NDD:Hd (d∉(Value.slice a0 sv.length c0).ownBlock.toList):=by show ¬_;simp;intro e;exact(hp.bs d e).2.2.1 rfl
    go_wp2_with fail
    go_region_law ((refine Zc 37 131 5 80 (.agg #[.string ⟨#[]⟩,.bool false,.string ⟨#[]⟩,.string ⟨#[]⟩,.slice none 0 0]) Tryz.underlying37 Xg rfl (by omega) (by omega) (by rfl) _ _ (by rfl) (.slice a0 sv.length c0) sv.length (JH sv) (by rfl) OWN W.heap.size [.string x,.bool false,.string ⟨#[]⟩,.string ⟨#[]⟩,(.slice va' n0 vc')] (by rfl) NEW rfl (by intro u hu;simp at hu;rcases hu with rfl|rfl|rfl|rfl|rfl <;>rfl) (by omega) (W.heap.size+1) ZN ?_;intro g cap w7 own7 gr7 hat7 hlt7;have B7:=BLK.kp gr7 NDD.o;have b70:=B7.cl 0 _ rfl;have b7f:=B7.fz))
    all_goals
     go_wp2_with fail
     go_end0
     exact FINAL.o _ _ _ own7 gr7 hat7
end Go.Proofs.YteobgfbgglfkbaaGreat
