import Derived.Test.YteobgfbgglfkbaaGreatJA6
namespace Go.Proofs.YteobgfbgglfkbaaGreat
open Go.RowKit
attribute [local go_sem ↓] Go.wp_at_zero Go.wp_at_succ
theorem NI(A B C:zF):zF.seq (zF.seq A B) C=zF.seq A (zF.seq B C):=by
 funext t
 apply propext
 constructor
 ·rintro⟨_,z,rfl,⟨x,y,rfl,hx,hy⟩,hz⟩
  exact⟨x,y++z,by simp,hx,y,z,rfl,hy,hz⟩
 ·rintro⟨x,_,rfl,hx,y,z,rfl,hy,hz⟩
  exact⟨x++y,z,by simp,⟨x,y,rfl,hx,hy⟩,hz⟩
theorem Nh(A:zF):zF.seq A zF.eps=A:=by
 funext t
 apply propext
 constructor
 ·rintro⟨x,y,rfl,hx,hy⟩;rw[show y=[]from hy];simpa using hx
 ·intro h;exact⟨t,[],by simp,h,rfl⟩
theorem Mx(A:zF):zF.seq zF.eps A=A:=by
 funext t
 apply propext
 constructor
 ·rintro⟨x,y,rfl,hx,hy⟩;rw[show x=[]from hx];simpa using hy
 ·intro h;exact⟨[],t,rfl,rfl,h⟩
theorem EV(R:List zF)(A:zF):zF.row (R++[A])=zF.seq (zF.row R) A:=by
 induction R with
 |nil=>simp only[List.nil_append,zF.row];rw[Nh,Mx]
 |cons B R ih=>simp only[List.cons_append,zF.row];rw[ih,NI]
theorem UN{w:World}{e:TypeId}{size n:Nat}{v:Value}{xs:List Value}(h:w.ownsRow 0 e size v n xs):n<=9223372036854775807:=by
 have hm:maxLen<=9223372036854775807:=by decide
 rcases h.2 with⟨_,e2⟩|⟨g,cap,cur,_,_,_,h1,h2,_⟩ <;>omega
structure Wi(w:World)(F:Nat->Prop)(h nb:Nat)(K:Int)(v:Value)(ks:List Nat)(Ls:List zF):Prop where
 n:yS w nb K (.slice none 0 0) v
 f:∀g,v.ownBlock=some g->F g
 nf:F nb
 r:w.ownsRow 0 47 1 v ks.length (ks.map ptr)
 l:ks.length=Ls.length
 k:∀(i k:Nat) (L':zF),ks[i]? =some k->Ls[i]? =some L'->jk w F h k L'
theorem Wi.frame{w w':World}{F:Nat->Prop}{h nb:Nat}{K:Int}{v:Value}{ks:List Nat}{Ls:List zF}(q:Wi w F h nb K v ks Ls)(hF:∀k,F k->w'.heap[k]? =w.heap[k]?):Wi w' F h nb K v ks Ls:=
 ⟨(hF _ q.nf).trans q.n,q.f,q.nf,ju q.r (fun k hk=>hF k (q.f k hk)),q.l,fun i k L' a b=>(q.k i k L' a b).frame hF (fun _ h=>h)⟩
structure QY(w:World)(F:Nat->Prop)(h nb:Nat)(K:Int)(kb k:Nat)(A:zF):Prop where
 n:yS w nb K (.slice none 0 0) (.slice (some ⟨kb,0,none⟩) 1 1)
 nf:F nb
 f:F kb
 b:w.heap[kb]? =some (.cells #[ptr k] 47)
 r:jk w F h k A
theorem QY.frame{w w':World}{F:Nat->Prop}{h nb kb k:Nat}{K:Int}{A:zF}(q:QY w F h nb K kb k A)(hF:∀k,F k->w'.heap[k]? =w.heap[k]?):QY w' F h nb K kb k A:=
 ⟨(hF _ q.nf).trans q.n,q.nf,q.f,(hF _ q.f).trans q.b,q.r.frame hF (fun _ h=>h)⟩
end Go.Proofs.YteobgfbgglfkbaaGreat
