import Derived.Test.YteobgfbgglfkbaaGreatVW1
namespace Go.Proofs.YteobgfbgglfkbaaGreat
open Go.RowKit
attribute [local go_sem ↓] Go.wp_at_zero Go.wp_at_succ
theorem Kx:∀(av:List (ze×Value)) (i:Nat) (p:ze×Value),av[i]? =some p->(ZC av)[i * 4]? =some (.bool p.1.never)/\(ZC av)[i * 4+1]? =some (.int .i64 p.1.of1)/\(ZC av)[i * 4+2]? =some (.int .i64 p.1.of2)/\(ZC av)[i * 4+3]? =some p.2
 |[],i,p,h=>by simp at h
 |q:: sv,0,p,h=>by simp at h;subst h;simp[ZC]
 |q:: sv,i+1,p,h=>by
  have ih:=Kx sv i p (by simpa using h)
  have e:∀t,(ZC (q:: sv))[(i+1) * 4+t]? =(ZC sv)[i * 4+t]? :=by
   intro t;rw[show(i+1) * 4+t=(i * 4+t)+4 from by omega];simp[ZC]
  exact⟨(e 0).trans ih.1,(e 1).trans ih.2.1,(e 2).trans ih.2.2.1,(e 3).trans ih.2.2.2⟩
theorem Uu:∀(vs:List (Int×List UInt8)) (i:Nat) (p:Int×List UInt8),vs[i]? =some p->(JT vs)[i * 2]? =some (.int .i64 p.1)/\(JT vs)[i * 2+1]? =some (.string (zG p.2))
 |[],i,p,h=>by simp at h
 |q:: vs,0,p,h=>by simp at h;subst h;simp[JT]
 |q:: vs,i+1,p,h=>by
  have ih:=Uu vs i p (by simpa using h)
  have e:∀t,(JT (q:: vs))[(i+1) * 2+t]? =(JT vs)[i * 2+t]? :=by
   intro t;rw[show(i+1) * 2+t=(i * 2+t)+2 from by omega];simp[JT]
  exact⟨(e 0).trans ih.1,(e 1).trans ih.2⟩
theorem Bp{w:World}(S:ByteArray)(hS:QK):Calls Tryz.prog 11 #[.string S] w fun e w'=>Ch [] w w'/\∃v vs,e= .returned (.tuple #[v,.int .i64 (yX S).1,.int .i64 (yX S).2])/\w'.ownsRow 0 33 2 v vs.length (JT vs)/\(∀q,v.ownBlock=some q->w.heap.size<=q)/\(yX S≠(0,0)->vs=[])/\(yX S=(0,0)->∃D s,jA S= .ok (D,s)/\YI D D.asked vs):=by
 refine(BK S (Or.inl hS)).mono ?_;rintro e w1 ⟨B1,⟨hc,rfl⟩|⟨hc,D,s,v,vs,hr,rfl,ho,hv,hnew⟩⟩
 ·exact⟨VH B1,_,[],rfl,⟨rfl,Or.inl ⟨rfl,rfl⟩⟩,by intro q hq;simp[Value.ownBlock]at hq,fun _=>rfl,fun h=>absurd h hc⟩
 ·exact⟨VH B1,v,vs,by rw[hc],ho,hnew,fun h=>absurd hc h,fun _=>⟨D,s,hr,hv⟩⟩
end Go.Proofs.YteobgfbgglfkbaaGreat
