import Derived.Test.YteobgfbgglfkbaaGreatVW1
namespace Go.Proofs.YteobgfbgglfkbaaGreat
open Go.RowKit
attribute [local go_sem ↓] Go.wp_at_zero Go.wp_at_succ
theorem bN{S:ByteArray}{D:yt}{s:St}(hc:yX S=(0,0))(hr:jA S= .ok (D,s)){i:Nat}{c:zZ}(hi:D.chains[i]? =some c)(T:List UInt8):ap S c.name T=(yH (zt D.scrubs c.scrubs) T,0,0):=by
 rw[bH hc hr];unfold aw;have hn:=bP hc hr i c.name (by simp[hi]);rw[hn,if_neg (by omega)]
 have:Ye D.chains (i:Int)=c.scrubs:=by simp[Ye,hi]
 rw[this]
theorem az{w:World}(S x:ByteArray)(T:List UInt8)(hT:T.length<=8589934592){a:List UInt8}{b c:Int}(h:ap S x T=(a,b,c)):Calls Tryz.prog 8 #[.string S,.string x,.string (zG T)] w fun e w'=>e= .returned (.tuple #[.string (zG a),.int .i64 b,.int .i64 c])/\Ch [] w w':=by
 refine(bl S x T hT).mono ?_;rintro e w' ⟨rfl,B⟩;exact⟨by rw[h],(VH B)⟩
end Go.Proofs.YteobgfbgglfkbaaGreat
