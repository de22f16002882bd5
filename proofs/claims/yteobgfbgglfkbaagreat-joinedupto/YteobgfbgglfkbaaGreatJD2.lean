import Derived.Test.YteobgfbgglfkbaaGreatJA2
import Derived.Test.YteobgfbgglfkbaaGreatJA3
import Derived.Test.YteobgfbgglfkbaaGreatJA6
namespace Go.Proofs.YteobgfbgglfkbaaGreat
open Go.RowKit
attribute [local go_sem ↓] Go.wp_at_zero Go.wp_at_succ
end Go.Proofs.YteobgfbgglfkbaaGreat
namespace Go.Proofs.YteobgfbgglfkbaaGreat
open Go.RowKit
theorem zNU(A B C:Lang):Lang.seq (Lang.seq A B) C=Lang.seq A (Lang.seq B C):=by
 funext t
 apply propext
 constructor
 ·rintro ⟨_,z,rfl,⟨x,y,rfl,hx,hy⟩,hz⟩
  exact ⟨x,y++z,by simp,hx,y,z,rfl,hy,hz⟩
 ·rintro ⟨x,_,rfl,hx,y,z,rfl,hy,hz⟩
  exact ⟨x++y,z,by simp,⟨x,y,rfl,hx,hy⟩,hz⟩
theorem seq_eps(A:Lang):Lang.seq A Lang.eps=A:=by
 funext t
 apply propext
 constructor
 ·rintro ⟨x,y,rfl,hx,hy⟩;rw [show y=[] from hy];simpa using hx
 ·intro h;exact ⟨t,[],by simp,h,rfl⟩
theorem eps_seq(A:Lang):Lang.seq Lang.eps A=A:=by
 funext t
 apply propext
 constructor
 ·rintro ⟨x,y,rfl,hx,hy⟩;rw [show x=[] from hx];simpa using hy
 ·intro h;exact ⟨[],t,rfl,rfl,h⟩
theorem row_snoc(R:List Lang)(A:Lang):Lang.row (R++[A])=Lang.seq (Lang.row R) A:=by
 induction R with
 |nil=>simp only [List.nil_append,Lang.row];rw [seq_eps,eps_seq]
 |cons B R ih=>simp only [List.cons_append,Lang.row];rw [ih,zNU]
end Go.Proofs.YteobgfbgglfkbaaGreat
namespace Go.Proofs.YteobgfbgglfkbaaGreat
open Go.RowKit
attribute [local go_sem ↓] Go.wp_at_zero Go.wp_at_succ
end Go.Proofs.YteobgfbgglfkbaaGreat
namespace Go.Proofs.YteobgfbgglfkbaaGreat
open Go.RowKit
attribute [local go_sem ↓] Go.wp_at_zero Go.wp_at_succ
theorem zEu{w:World}{e:TypeId}{size n:Nat}{v:Value}{xs:List Value}(h:w.ownsRow 0 e size v n xs):n≤9223372036854775807:=by
 have hm:maxLen≤9223372036854775807:=by decide
 rcases h.2 with ⟨_,e2⟩ | ⟨g,cap,cur,_,_,_,h1,h2,_⟩ <;>omega
end Go.Proofs.YteobgfbgglfkbaaGreat
namespace Go.Proofs.YteobgfbgglfkbaaGreat
open Go.RowKit
attribute [local go_sem ↓] Go.wp_at_zero Go.wp_at_succ
end Go.Proofs.YteobgfbgglfkbaaGreat
namespace Go.Proofs.YteobgfbgglfkbaaGreat
open Go.RowKit
attribute [local go_sem ↓] Go.wp_at_zero Go.wp_at_succ
end Go.Proofs.YteobgfbgglfkbaaGreat
