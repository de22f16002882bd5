import Derived.Test.YteobgfbgglfkbaaGreatJB9
set_option maxHeartbeats 1600000
set_option maxRecDepth 100000
namespace Go.Proofs.YteobgfbgglfkbaaGreat
open Go.RowKit
theorem TY(p q:Nat)(w:World):
 CallsD Tryz.prog 74 #[.pointer (some ⟨p,0,none⟩),.pointer (some ⟨q,0,none⟩)] .returning w fun e u' w'=>e= .returned (.tuple #[])/\u'= .returning/\w'=w:=by
 refine callsD_of_wpS Tryz.func74 rfl fun c₀ cs hu=> ?_
 have hnil:∀w,(binOp BinOp.eql 20 .nilIface .nilIface).run Tryz.prog w= .ok (.bool true) w:=fun _=>by kernel_rfl
 apply wpS_seq;apply wpS_region;generalize hQ:Exit.thenS _ _=Q;simp[wpOpsS,go_sem,recoverD,hu,Tryz.ntmps74];subst hQ;refine wpS_of_wp (cs:=c₀:: cs) ?_;rw[show(#[Value.pointer (some ⟨p,0,none⟩),Value.pointer (some ⟨q,0,none⟩)]++(Array.replicate 21 undef).setIfInBounds 4 .nilIface)= #[.pointer (some ⟨p,0,none⟩),.pointer (some ⟨q,0,none⟩),undef,undef,undef,undef,.nilIface,undef,undef,undef,undef,undef,undef,undef,undef,undef,undef,undef,undef,undef,undef,undef,undef]from by kernel_rfl];go_wp2_with fail;cases c₀
 simp_all[bodyPostS,results,Tryz.results74]
theorem Sj(p q:Nat)(d:Nat)(w:World)(x y:Value)(h0:w.cell? ⟨p,0,none⟩=some x)(h1:w.cell? ⟨p,1,none⟩=some y)(hz:∀o,w.frozen? ⟨p,o,none⟩=false):
 CallsD Tryz.prog 74 #[.pointer (some ⟨p,0,none⟩),.pointer (some ⟨q,0,none⟩)] (.panicking [{v:= .iface 169 (.int .i64 d),recovered:=false}]) w fun e u' w'=>
  e= .returned (.tuple #[])/\u'= .panicking [{v:= .iface 169 (.int .i64 d),recovered:=true}]/\w'=(w.setCell ⟨p,0,none⟩ (.int .i64 2)).setCell ⟨p,1,none⟩ (.int .i64 d):=by
 refine callsD_of_wpS Tryz.func74 rfl fun c₀ cs hu=> ?_
 have hnil:∀w,(binOp BinOp.eql 20 (.iface 169 (.int .i64 d)) .nilIface).run Tryz.prog w= .ok (.bool false) w:=fun _=>by kernel_rfl
 have hta:∀w,(Instr.typeAssert (.iface 169 (.int .i64 d)) 20 169 true).run Tryz.prog w= .ok (.tuple #[.int .i64 d,.bool true]) w:=fun _=>by kernel_rfl
 apply wpS_seq;apply wpS_region;generalize hQ:Exit.thenS _ _=Q;simp[wpOpsS,go_sem,recoverD,hu,Tryz.ntmps74];subst hQ;refine wpS_of_wp (cs:={c₀ with mode:= .panicking [{v:= .iface 169 (.int .i64 d),recovered:=true}]}:: cs) ?_;rw[show(#[Value.pointer (some ⟨p,0,none⟩),Value.pointer (some ⟨q,0,none⟩)]++(Array.replicate 21 undef).setIfInBounds 4 (.iface 169 (.int .i64 d)))= #[.pointer (some ⟨p,0,none⟩),.pointer (some ⟨q,0,none⟩),undef,undef,undef,undef,.iface 169 (.int .i64 d),undef,undef,undef,undef,undef,undef,undef,undef,undef,undef,undef,undef,undef,undef,undef,undef]from by kernel_rfl];go_wp2_with fail;exact⟨rfl,_,rfl,_,by simp[results,Tryz.results74,go_sem],rfl,rfl,rfl⟩
theorem SE(p q b:Nat)(S:ByteArray)(w:World)(x y:Value)(h0:w.cell? ⟨p,0,none⟩=some x)(h1:w.cell? ⟨p,1,none⟩=some y)(hz:∀o,w.frozen? ⟨p,o,none⟩=false)(hq:w.cell? ⟨q,0,none⟩=some (.pointer (some ⟨b,0,none⟩)))(hb:w.cell? ⟨b,0,none⟩=some (.string S))(hp:p<w.heap.size)(hq':q<w.heap.size)(hb':b<w.heap.size):
 CallsD Tryz.prog 74 #[.pointer (some ⟨p,0,none⟩),.pointer (some ⟨q,0,none⟩)] (.panicking [{v:= .iface 171 (.agg #[]),recovered:=false}]) w fun e u' w'=>
  e= .returned (.tuple #[])/\u'= .panicking [{v:= .iface 171 (.agg #[]),recovered:=true}]/\w'=((w.setCell ⟨p,0,none⟩ (.int .i64 2)).setCell ⟨p,1,none⟩ (.int .i64 S.size)).alloc (.cells #[] 171):=by
 refine callsD_of_wpS Tryz.func74 rfl fun c₀ cs hu=> ?_
 have hnil:∀w,(binOp BinOp.eql 20 (.iface 171 (.agg #[])) .nilIface).run Tryz.prog w= .ok (.bool false) w:=fun _=>by kernel_rfl
 have hta:∀w,(Instr.typeAssert (.iface 171 (.agg #[])) 20 169 true).run Tryz.prog w= .ok (.tuple #[.int .i64 0,.bool false]) w:=fun _=>by kernel_rfl
 have htb:∀w,(Instr.typeAssert (.iface 171 (.agg #[])) 20 171 true).run Tryz.prog w= .ok (.tuple #[.agg #[],.bool true]) w:=fun _=>by kernel_rfl
 apply wpS_seq;apply wpS_region;generalize hQ:Exit.thenS _ _=Q;simp[wpOpsS,go_sem,recoverD,hu,Tryz.ntmps74];subst hQ;refine wpS_of_wp (cs:={c₀ with mode:= .panicking [{v:= .iface 171 (.agg #[]),recovered:=true}]}:: cs) ?_;rw[show(#[Value.pointer (some ⟨p,0,none⟩),Value.pointer (some ⟨q,0,none⟩)]++(Array.replicate 21 undef).setIfInBounds 4 (.iface 171 (.agg #[])))= #[.pointer (some ⟨p,0,none⟩),.pointer (some ⟨q,0,none⟩),undef,undef,undef,undef,.iface 171 (.agg #[]),undef,undef,undef,undef,undef,undef,undef,undef,undef,undef,undef,undef,undef,undef,undef,undef]from by kernel_rfl];go_wp2_with fail;exact⟨rfl,_,rfl,_,by simp[results,Tryz.results74,go_sem],rfl,rfl,rfl⟩
def Z(s:St):Prop:=s.e=0->s.a=0/\s.k<=12
theorem Z.say{wr:Bool}{e a:Int}{s:St}(he:e≠0)(h:Z s):Z (zL wr e a s):=by
 unfold zL
 split
 ·exact fun q=>absurd q he
 ·exact h
theorem Z.at{s:St}(h:Z s)(i:Nat):Z {s with i:=i}:=h
theorem Z.sk{s:St}(h:Z s)(S:ByteArray):Z (s.sk S):=h
theorem Z.zero{s:St}(h:Z s):Z (Jq s):=fun q=>⟨(h q).1,by show(0:Int)<=12;decide⟩
theorem Z.st0:Z st0:=fun _=>⟨rfl,by decide⟩
theorem Wa{S:ByteArray}{lo:Int}{but:ByteArray}{s s':St}{c:Int}(z:Z s)(h:zx S lo but s= .ok (c,s')):Z s':=by
 unfold zx at h
 repeat' split at h
 all_goals first|cases h;exact z|cases h
theorem Ud{S:ByteArray}{s s':St}{q:ByteArray×Nat}(z:Z s)(h:yA S s= .ok (q,s')):Z s':=by
 unfold yA at h;simp only at h
 split at h <;>cases h
 exact z
theorem Vo{S:ByteArray}{L:List ByteArray}{s s':St}{q:ByteArray×Nat}(z:Z s)(h:yI S L s= .ok (q,s')):Z s':=by
 unfold yI at h;simp only at h
 split at h <;>cases h
 exact z
theorem Yg{S:ByteArray}{c:Int}{s s':St}(z:Z s)(h:zh S c s= .ok s'):Z s':=by
 unfold zh at h
 split at h <;>cases h
 exact z
theorem Se{S:ByteArray}{c:Int}{s s':St}(z:Z s)(h:JD S c s= .ok s'):Z s':=by
 unfold JD at h
 split at h <;>cases h
 exact z
theorem SD{S:ByteArray}:∀n (s:St) x y s',Z s->jH S n s x= .ok (y,s')->Z s':=by
 intro n
 induction n with
 |zero=>intro s x y s' _ h;cases h
 |succ n ih=>
  intro s x y s' z h;unfold jH at h
  split at h
  ·cases h;exact z
  ·split at h
   ·rename_i hl;exact ih _ _ _ _ (Wa z hl) h
   ·cases h
theorem XP{S:ByteArray}{s s':St}{q:ByteArray×Nat}(z:Z s)(h:yW S s= .ok (q,s')):Z s':=by
 unfold yW at h;simp only at h
 split at h
 ·split at h
  ·rename_i hf;cases h;exact SD _ _ _ _ _ (z.at _) hf
  ·cases h
 ·cases h
theorem EF{S:ByteArray}{s s':St}{q:Int×Int}(z:Z s)(h:yv S s= .ok (q,s')):Z s':=by
 unfold yv at h
 split at h
 ·cases h
 ·rename_i h1
  split at h
  ·split at h
   ·cases h
   ·rename_i h2;cases h;exact Z.say (by decide) (Wa ((Wa z h1).at _) h2)
  ·cases h;exact Wa z h1
theorem Fk{S:ByteArray}:∀n (s:St) x y s',Z s->yq S n s x= .ok (y,s')->Z s':=by
 intro n
 induction n with
 |zero=>intro s x y s' _ h;cases h
 |succ n ih=>
  intro s x y s' z h;unfold yq at h
  split at h
  ·cases h
  ·rename_i h1
   split at h
   ·have z1:=EF z h1;cases h;exact z1
   ·exact ih _ _ _ _ (EF z h1) h
theorem BZ{S:ByteArray}{s s':St}{q:List (Int×Int)}(z:Z s)(h:yn S s= .ok (q,s')):Z s':=by
 unfold yn at h
 split at h
 ·exact Fk _ _ _ _ _ (z.at _) h
 ·cases h
theorem Hv{S:ByteArray}{L:zF}{s:St}(z:Z s):Z (yY S L s).2:=by
 unfold yY
 repeat' split
 all_goals exact z
theorem IU{s:St}(z:Z s):Z (zL (decide (12<s.k+1)) 3 s.i {s with k:=s.k+1}):=by
 unfold zL
 split
 ·exact fun q=>absurd q (show ¬(3:Int)=0 by decide)
 ·rename_i hn
  intro q;have q':s.e=0:=q;simp[q']at hn;exact⟨(z q').1,by show s.k+1<=12;omega⟩
theorem OD{S:ByteArray}{d:Nat}{f:St->Except Nat (zF×St)}(hf:∀s L s',Z s->f s= .ok (L,s')->Z s'){s s':St}{L:zF}(z:Z s)(h:ye f S d s= .ok (L,s')):Z s':=by
 unfold ye at h;have z1:=IU z
 revert z1 h
 generalize zL (decide (12<s.k+1)) 3 s.i {s with k:=s.k+1}=s1;intro h z1;simp only at h
 split at h
 ·cases h;exact z1
 ·split at h
  ·split at h
   ·rename_i h1;cases h;exact BZ z1 h1
   ·cases h
  ·split at h
   ·split at h
    ·cases h
    ·rename_i h1
     have z3:=hf _ _ _ (Z.at (Z.say (wr:=decide ((4:Int)<=(d:Int))) (a:=s.i) (e:=3) (by decide) z1) _) h1
     split at h <;>cases h
     exact z3
   ·split at h
    ·rename_i h1;cases h;exact Wa z1 h1
    ·cases h
theorem Rt{S:ByteArray}{f:St->Except Nat (zF×St)}(hf:∀s L s',Z s->f s= .ok (L,s')->Z s'):∀n (s:St) x y s',Z s->yh f S n s x= .ok (y,s')->Z s':=by
 intro n
 induction n with
 |zero=>intro s x y s' _ h;cases h
 |succ n ih=>
  intro s x y s' z h;unfold yh at h
  split at h
  ·cases h;exact z
  ·split at h
   ·cases h
   ·rename_i h1;exact ih _ _ _ _ (Hv (hf _ _ _ z h1)) h
theorem Ew{S:ByteArray}{f:St->Except Nat (zF×St)}(hf:∀s L s',Z s->f s= .ok (L,s')->Z s'):∀n (s:St) x y s',Z s->jZ f S n s x= .ok (y,s')->Z s':=by
 intro n
 induction n with
 |zero=>intro s x y s' _ h;cases h
 |succ n ih=>
  intro s x y s' z h;unfold jZ at h
  split at h
  ·cases h
  ·rename_i h1
   split at h
   ·exact ih _ _ _ _ ((hf _ _ _ z h1).at _) h
   ·cases h;exact hf _ _ _ z h1
theorem Gp{S:ByteArray}:∀n d (s:St) L s',Z s->zv S n d s= .ok (L,s')->Z s':=by
 intro n
 induction n with
 |zero=>intro d s L s' _ h;cases h
 |succ n ih=>
  intro d s L s' z h;unfold zv at h;exact Ew (fun s L s' z h=>Rt (fun s L s' z h=>OD (ih (d+1)) z h) _ _ _ _ _ z h) _ _ _ _ _ z h
theorem DC{S:ByteArray}{s s':St}{L:zF}(z:Z s)(h:JU S s= .ok (L,s')):Z s':=Gp _ _ _ _ _ z.zero h
theorem aC{S:ByteArray}{s s':St}{q:Int×ByteArray}(z:Z s)(h:yk S s= .ok (q,s')):Z s':=by
 unfold yk at h
 split at h
 ·split at h
  ·rename_i h1;cases h;exact Z.say (by decide) (XP (z.sk S) h1)
  ·cases h
 ·split at h
  ·rename_i h1;cases h;exact Vo (z.sk S) h1
  ·cases h
theorem TQ{S:ByteArray}:∀n (s:St) x y s',Z s->jq S n s x= .ok (y,s')->Z s':=by
 intro n
 induction n with
 |zero=>intro s x y s' _ h;cases h
 |succ n ih=>
  intro s x y s' z h;unfold jq at h
  split at h
  ·cases h
  ·rename_i h1
   have z1:=aC (Z.say (by decide) (z.sk S)) h1
   split at h
   ·cases h;exact z1
   ·exact ih _ _ _ _ (z1.sk S) h
theorem Rw{S:ByteArray}{s s':St}{q:List (Int×ByteArray)}(z:Z s)(h:jt S s= .ok (q,s')):Z s':=by
 unfold jt at h
 split at h
 ·split at h
  ·cases h
  ·rename_i h1;cases h;exact Vo (z.sk S) h1
 ·exact TQ _ _ _ _ _ (z.sk S) h
theorem aG{S:ByteArray}{s s':St}{q:List (Int×Int)×List (Int×ByteArray)}(z:Z s)(h:y9 S s= .ok (q,s')):Z s':=by
 unfold y9 at h
 split at h
 ·cases h
 ·rename_i h1
  split at h
  ·cases h
  ·rename_i h2
   split at h
   ·cases h
   ·rename_i h3
    split at h
    ·cases h
    ·rename_i h4
     cases h;exact Yg (Rw (Vo (BZ (z.sk S) h1) h2) h3) h4
theorem RZ{S:ByteArray}:∀n (s:St) x y s',Z s->jj S n s x= .ok (y,s')->Z s':=by
 intro n
 induction n with
 |zero=>intro s x y s' _ h;cases h
 |succ n ih=>
  intro s x y s' z h;unfold jj at h
  split at h
  ·split at h
   ·cases h
   ·rename_i h1
    exact ih _ _ _ _ (aG (Z.say (by decide) (z.sk S)) h1) h
  ·cases h;exact z
theorem Co{S:ByteArray}{s s':St}{q:ByteArray×ByteArray}(z:Z s)(h:jG S s= .ok (q,s')):Z s':=by
 unfold jG at h
 split at h
 ·cases h
 ·rename_i h1
  split at h
  ·cases h
  ·rename_i h2
   split at h
   ·cases h
   ·rename_i h3
    have z3:=XP (Z.say (by decide) (XP (Vo z h1) h2)) h3
    split at h
    ·cases h
    ·rename_i h4
     cases h;exact Yg (Z.say (by decide) z3) h4
theorem Ft{S x:ByteArray}{s s':St}{q:zH}(z:Z s)(h:JA S x s= .ok (q,s')):Z s':=by
 unfold JA at h
 split at h
 ·split at h
  ·cases h
  ·rename_i h1
   split at h
   ·cases h
   ·rename_i h2
    split at h
    ·cases h
    ·rename_i h3
     cases h;exact Yg (RZ _ _ _ _ _ (Yg (z.sk S) h1) h2) h3
 ·split at h
  ·cases h
  ·rename_i h1;cases h;exact Co (z.sk S) h1
theorem CP{S:ByteArray}{ns nc:List ByteArray}{a:Int}{s s':St}{q:zH}(z:Z s)(h:j8 S ns nc a s= .ok (q,s')):Z s':=by
 unfold j8 at h
 split at h
 ·cases h
 ·rename_i h1
  exact Ft (Z.say (by decide) (Ud (Z.say (by decide) z) h1)) h
theorem ah{S:ByteArray}{ns:List ByteArray}:∀n (s:St) x y s',Z s->jl S ns n s x= .ok (y,s')->Z s':=by
 intro n
 induction n with
 |zero=>intro s x y s' _ h;cases h
 |succ n ih=>
  intro s x y s' z h;unfold jl at h
  split at h
  ·cases h
  ·rename_i y p s1 h1
   have z1:Z ((zL (decide (zy ns y<0)) 5 p (zL (decide (3<=(x.length:Int))) 3 p s1)).sk S):=(Z.say (by decide) (Z.say (by decide) (Ud z h1))).sk S
   split at h
   ·cases h;exact z1
   ·exact ih _ _ _ _ z1 h
theorem FP{S:ByteArray}{ns nc:List ByteArray}{a:Int}{s s':St}{q:zZ}(z:Z s)(h:jx S ns nc a s= .ok (q,s')):Z s':=by
 unfold jx at h
 split at h
 ·cases h
 ·rename_i h1
  split at h
  ·cases h
  ·rename_i h2
   split at h
   ·cases h
   ·rename_i h3
    split at h
    ·cases h
    ·rename_i h4
     cases h;exact Yg (ah _ _ _ _ _ (Yg (Z.say (by decide) (Ud (Z.say (by decide) z) h1)) h2) h3) h4
theorem Kn{S:ByteArray}{nc:List ByteArray}{s s':St}{q:Int}(z:Z s)(h:yK S nc s= .ok (q,s')):Z s':=by
 unfold yK at h
 split at h
 ·cases h
 ·rename_i h1;cases h;exact Z.say (by decide) (Ud z h1)
theorem Rc{S:ByteArray}{nc:List ByteArray}{cnt:Nat}{nv:Bool}{a:Int}{s s':St}{q:ze}(z:Z s)(h:jE S nc cnt nv a s= .ok (q,s')):Z s':=by
 unfold jE at h
 split at h
 ·cases h
 ·rename_i h1
  have z1:=Kn (Z.say (by decide) z) h1
  split at h
  ·split at h
   ·cases h
   ·rename_i h2
    split at h
    ·cases h
    ·rename_i h3
     split at h
     ·cases h
     ·rename_i h4
      split at h
      ·cases h
      ·rename_i h5
       cases h;exact Yg (Se (DC (Yg z1 h2) h3) h4) h5
  ·split at h
   ·cases h
   ·rename_i h2
    split at h
    ·cases h
    ·rename_i h3
     cases h;exact Yg (Kn z1 h2) h3
theorem Le{S x:ByteArray}{a:Int}{D:yt}{s s':St}{q:yt}(z:Z s)(h:jb S x a D s= .ok (q,s')):Z s':=by
 unfold jb at h
 split at h
 ·split at h
  ·cases h
  ·rename_i h1;cases h;exact CP z h1
 ·split at h
  ·split at h
   ·cases h
   ·rename_i h1;cases h;exact FP z h1
  ·split at h
   ·cases h
   ·rename_i h1;cases h;exact Rc z h1
theorem T4{S:ByteArray}:∀n (s:St) x y s',Z s->jC S n s x= .ok (y,s')->Z s':=by
 intro n
 induction n with
 |zero=>intro s x y s' _ h;cases h
 |succ n ih=>
  intro s x y s' z h;unfold jC at h
  split at h
  ·split at h
   ·cases h
   ·rename_i h1
    split at h
    ·cases h
    ·rename_i h2
     exact ih _ _ _ _ ((Le (Vo z h1) h2).sk S) h
  ·cases h;exact z
theorem Gx{S:ByteArray}{D:yt}{s:St}(h:jA S= .ok (D,s)):Z s:=T4 _ _ _ _ _ (Z.st0.sk S) h
theorem OL{α:Type}{x:α}{s:St}(z:Z s):Yf (Except.ok (x,s))=(s.e,s.a):=by
 unfold Yf;simp only
 split
 ·rename_i h;rw[h,(z h).1]
 ·rfl
end Go.Proofs.YteobgfbgglfkbaaGreat
namespace Go.Proofs.YteobgfbgglfkbaaGreat
open Go.RowKit
attribute [local go_sem ↓] Go.wp_at_zero Go.wp_at_succ
theorem Pm{S:ByteArray}(hS:400<S.size):(400:Int)<S.size:=by omega
theorem Re{w:World}{b:Nat}{S:ByteArray}{s:St}{v5 v6 v7 fv:Value}(h:zP w b S s v5 v6 v7)(hS:400<S.size):
 Calls Tryz.prog 39 #[.pointer (some ⟨b,0,none⟩),fv] w fun e w'=>e= .returned (.agg #[.int .i64 1,.int .i64 0])/\Ch [] w w':=by
 obtain⟨c0,c1,c2,c3,c4,c5,c6,c7,fz⟩:=h.fa;have hS':=Pm hS;have hbl:=h.lt;go_enter Tryz.func39,Tryz.ntmps39;go_wp2_with fail
 have B2:zE ((w.alloc (.cells #[.pointer (some ⟨b,0,none⟩)] 168)).alloc (.cells #[.int .i64 1,.int .i64 0] 68)) (w.heap.size+1) #[.int .i64 1,.int .i64 0] 68:=by
  have:=zE.new (w.alloc (.cells #[.pointer (some ⟨b,0,none⟩)] 168)) #[.int .i64 1,.int .i64 0] 68
  simpa using this
 have y0:=B2.cl 0 _ rfl;have y1:=B2.cl 1 _ rfl;refine bodyPost_ret (v:= .agg #[.int .i64 1,.int .i64 0]) (by simp[results,Tryz.results39,go_sem,y0,y1]) rfl ?_;exact⟨rfl,(Ch.alloc _ _ _).trans (Ch.alloc _ _ _)⟩
theorem Ce{w:World}{b:Nat}{S:ByteArray}{s:St}{v5 v6 v7:Value}(h:zP w b S s v5 v6 v7)(hS:S.size<=400)(f:FuncId)(first cap:Array Value)(hcf:∀args w,Sem.run Tryz.prog (callFunc f args) w= .ok (.enter f args) w){Good:St->Value->Value->Value->World->Prop}{Bad:Nat->World->Prop}
 (hf:∀W,W=(w.alloc (.cells #[.pointer (some ⟨b,0,none⟩)] 168)).alloc (.cells #[.int .i64 0,.int .i64 0] 68)->Calls Tryz.prog f (first++cap) W fun e w'=>W.heap.size<=w'.heap.size/\w'.heap[w.heap.size]? =W.heap[w.heap.size]? /\w'.heap[w.heap.size+1]? =W.heap[w.heap.size+1]? /\
   ((∃s' u5 u6 u7,e= .returned (.tuple #[])/\zP w' b S s' u5 u6 u7/\Good s' u5 u6 u7 w')\/(∃d,Zv w' b S d e/\Bad d w'))):
 Calls Tryz.prog 39 #[.pointer (some ⟨b,0,none⟩),.func (.func f) first cap] w fun e w''=>∃w',Ch [w.heap.size+1] w' w''/\
  ((∃s' u5 u6 u7,e= .returned (.agg #[.int .i64 s'.e,.int .i64 s'.a])/\zP w' b S s' u5 u6 u7/\Good s' u5 u6 u7 w')\/(∃d:Nat,e= .returned (.agg #[.int .i64 2,.int .i64 d])/\Bad d w')):=by
 obtain⟨c0,c1,c2,c3,c4,c5,c6,c7,fz⟩:=h.fa;have hbl:=h.lt
 have hmf:∀(fn:Fn) (first cap:Array Value) (w:World),(Instr.makeFunc fn first cap).run Tryz.prog w= .ok (.func fn first cap) w:=fun _ _ _ _=>rfl
 have HF:=zC hf;clear hf
 have ba:zE ((w.alloc (.cells #[.pointer (some ⟨b,0,none⟩)] 168)).alloc (.cells #[.int .i64 0,.int .i64 0] 68)) w.heap.size #[.pointer (some ⟨b,0,none⟩)] 168:=by
  have:=(zE.new w #[.pointer (some ⟨b,0,none⟩)] 168).kp (Ch.alloc [] _ (.cells #[.int .i64 0,.int .i64 0] 68)) (by simp);exact this
 have bb:zE ((w.alloc (.cells #[.pointer (some ⟨b,0,none⟩)] 168)).alloc (.cells #[.int .i64 0,.int .i64 0] 68)) (w.heap.size+1) #[.int .i64 0,.int .i64 0] 68:=by
  have:=zE.new (w.alloc (.cells #[.pointer (some ⟨b,0,none⟩)] 168)) #[.int .i64 0,.int .i64 0] 68
  simpa using this
 have hz:((w.alloc (.cells #[.pointer (some ⟨b,0,none⟩)] 168)).alloc (.cells #[.int .i64 0,.int .i64 0] 68)).heap.size=w.heap.size+2:=by simp
 go_enter_defers Tryz.func39,Tryz.ntmps39
 go_wp2_with fail;have HF':=HF.o _ rfl;clear HF;generalize (w.alloc (.cells #[.pointer (some ⟨b,0,none⟩)] 168)).alloc (.cells #[.int .i64 0,.int .i64 0] 68)=W at *;generalize hq:w.heap.size=q at *;refine HF'.mono ?_;rintro e w1 ⟨z1,e1,e2,⟨s',u5,u6,u7,rfl,h1,hgood⟩|⟨d,hg,hbad⟩⟩
 ·have A1:zE w1 q #[.pointer (some ⟨b,0,none⟩)] 168:=e1.trans ba
  have B1:zE w1 (q+1) #[.int .i64 0,.int .i64 0] 68:=e2.trans bb;obtain⟨d0,d1,d2,d3,d4,d5,d6,d7,fz1⟩:=h1.fa;have a1:=A1.cl 0 _ rfl;have b0:=B1.cl 0 _ rfl;have b1:=B1.cl 1 _ rfl;have fzb:=B1.fz;have HG:=zC hgood;clear hgood e1 e2;go_wp2_with fail;obtain⟨B2,G2⟩:=B1.fill2 (.int .i64 s'.e) (.int .i64 s'.a);generalize (w1.setCell ⟨q+1,0,none⟩ (.int .i64 s'.e)).setCell ⟨q+1,1,none⟩ (.int .i64 s'.a)=w2 at *;have y0:=B2.cl 0 _ rfl;have y1:=B2.cl 1 _ rfl;refine leaves_cons (f:=74) (args:= #[.pointer (some ⟨q+1,0,none⟩),.pointer (some ⟨q,0,none⟩)]) (by simp) (by simp[go_sem]) ?_;refine(TY (q+1) q _).mono ?_;rintro e u' w'' ⟨rfl,rfl,rfl⟩;simp[Leaves,settle,results,Tryz.results39,go_sem,y0,y1];exact⟨w1,by rw[hq];exact G2,Or.inl ⟨s',⟨rfl,rfl⟩,u5,u6,u7,h1,HG.o⟩⟩
 ·have A1:zE w1 q #[.pointer (some ⟨b,0,none⟩)] 168:=e1.trans ba
  have B1:zE w1 (q+1) #[.int .i64 0,.int .i64 0] 68:=e2.trans bb;have a1:=A1.cl 0 _ rfl;have b0:=B1.cl 0 _ rfl;have b1:=B1.cl 1 _ rfl;have fzb:=B1.fz;obtain⟨rfl,ht⟩:=hg
  have hb1:b<w1.heap.size:=by omega
  have hq1:q<w1.heap.size:=by omega
  have hp1:q+1<w1.heap.size:=by omega
  refine leaves_cons (f:=74) (args:= #[.pointer (some ⟨q+1,0,none⟩),.pointer (some ⟨q,0,none⟩)]) (by simp) (by simp[go_sem]) ?_
  by_cases hd:d=S.size
  ·rw[if_pos hd]
   refine(SE (q+1) q b S w1 _ _ b0 b1 fzb a1 ht hp1 hq1 hb1).mono ?_;rintro e u' w'' ⟨rfl,rfl,rfl⟩;obtain⟨B2,G2⟩:=B1.fill2 (.int .i64 2) (.int .i64 S.size);generalize (w1.setCell ⟨q+1,0,none⟩ (.int .i64 2)).setCell ⟨q+1,1,none⟩ (.int .i64 S.size)=w2 at *;have B3:=B2.kp (Ch.alloc [] w2 (.cells #[] 171)) (by simp);have G3:=G2.trans (Ch.alloc _ w2 (.cells #[] 171));generalize w2.alloc (.cells #[] 171)=w3 at *;have y0:=B3.cl 0 _ rfl;have y1:=B3.cl 1 _ rfl;simp[Leaves,settle,results,Tryz.results39,go_sem,y0,y1];exact⟨w1,by rw[hq];exact G3,Or.inr ⟨d,by omega,hbad⟩⟩
  ·rw[if_neg hd]
   refine(Sj (q+1) q d w1 _ _ b0 b1 fzb).mono ?_;rintro e u' w'' ⟨rfl,rfl,rfl⟩;obtain⟨B2,G2⟩:=B1.fill2 (.int .i64 2) (.int .i64 d);generalize (w1.setCell ⟨q+1,0,none⟩ (.int .i64 2)).setCell ⟨q+1,1,none⟩ (.int .i64 d)=w2 at *;have y0:=B2.cl 0 _ rfl;have y1:=B2.cl 1 _ rfl;simp[Leaves,settle,results,Tryz.results39,go_sem,y0,y1];exact⟨w1,by rw[hq];exact G2,Or.inr ⟨d,rfl,hbad⟩⟩
theorem EK{S:ByteArray}(h:400<S.size):yX S=(1,0):=by simp[yX,h]
theorem GB{S:ByteArray}(h:S.size<=400){D:yt}{s:St}(hr:jA S= .ok (D,s)):yX S=(s.e,s.a):=by
 unfold yX;rw[if_neg (by omega),hr];exact OL (Gx hr)
theorem Dt{S:ByteArray}(h:S.size<=400){d:Nat}(hr:jA S= .error d):yX S=(2,(d:Int)):=by
 unfold yX;rw[if_neg (by omega),hr];rfl
theorem Xv{S:ByteArray}{a b:Int}(h:yX S=(a,b))(ha:a=0):b=0:=by
 subst ha;unfold yX at h
 split at h
 ·cases h
 ·unfold Yf at h
  split at h
  ·cases h
  ·split at h
   ·cases h;rfl
   ·rename_i hn
    simp only[Prod.mk.injEq]at h;exact absurd h.1 hn
def JI(v:Value):Prop:=∃a n c,v= .slice a n c
def SQ(w:World)(S:ByteArray)(e:Ending)(w':World):Prop:=
 Below w.heap.size w w'/\∃v0 v1 v2,e= .returned (.tuple #[.agg #[v0,v1,v2],.agg #[.int .i64 (yX S).1,.int .i64 (yX S).2]])/\JI v0/\JI v1/\JI v2/\
  (yX S=(0,0)->∃s' F sv cv av,jA S= .ok (⟨sv.map (fun p=>p.1),cv.map (fun p=>p.1),av.map (fun p=>p.1)⟩,s')/\yZ w' w.heap.size (w.heap.size+2) F v0 v1 v2 sv cv av)
theorem yZ.keepLow{w w':World}{lo b:Nat}{F:Nat->Prop}{v5 v6 v7:Value}{sv:List (zH×Value)}{cv:List (zZ×Value)}{av:List (ze×Value×Value)}(h:yZ w lo b F v5 v6 v7 sv cv av){X:List Nat}(g:Ch X w w')(hX:∀k,k∈X->k<lo\/w.heap.size<=k){lo':Nat}(hl:lo'<=lo):yZ w' lo' b F v5 v6 v7 sv cv av:=by
 have hF:∀k,F k->w'.heap[k]? =w.heap[k]? :=fun k hk=>g.block k (h.f k hk).2.1 (fun hx=>by have:=h.f k hk;have:=hX k hx;omega)
 have z:=g.size;refine⟨zJ h.rs g (fun k hk hx=> ?_),zJ h.rc g (fun k hk hx=> ?_),zJ h.ra g (fun k hk hx=> ?_),fun p hp=>(h.ps p hp).frame hF (fun _ h=>h),fun p hp=>(h.pc p hp).frame hF (fun _ h=>h),fun p hp=>(h.pa p hp).frame hF (fun _ h=>h),fun k hk=> ?_,fun k hk=> ?_,fun k hk=> ?_,fun k hk=> ?_⟩
 ·have:=h.bs k hk;have:=hX k hx;omega
 ·have:=h.bc k hk;have:=hX k hx;omega
 ·have:=h.ba k hk;have:=hX k hx;omega
 ·have a:=h.bs k hk;exact⟨by omega,by omega,a.2.2⟩
 ·have a:=h.bc k hk;exact⟨by omega,by omega,a.2.2⟩
 ·have a:=h.ba k hk;exact⟨by omega,by omega,a.2.2⟩
 ·have a:=h.f k hk;exact⟨by omega,by omega,a.2.2⟩
def Yo(w:World)(w':World):Prop:=Below w.heap.size w w'/\w.heap.size+3<=w'.heap.size/\zE w' w.heap.size #[.slice none 0 0,.slice none 0 0,.slice none 0 0] 65/\zE w' (w.heap.size+1) #[.int .i64 0,.int .i64 0] 68
theorem Hz(args:Array Value)(w:World):Sem.run Tryz.prog (callFunc 40 args) w= .ok (.enter 40 args) w:=by
 kernel_rfl
theorem Pz{w W0:World}{S:ByteArray}(hW:W0=((w.alloc (.cells #[.slice none 0 0,.slice none 0 0,.slice none 0 0] 65)).alloc (.cells #[.int .i64 0,.int .i64 0] 68)).alloc (.cells #[.string S,.int .i64 0,.int .i64 0,.int .i64 0,.int .i64 0,.slice none 0 0,.slice none 0 0,.slice none 0 0] 105)):
 zP W0 (w.heap.size+1+1) S st0 (.slice none 0 0) (.slice none 0 0) (.slice none 0 0)/\Yo w W0/\W0.heap.size=w.heap.size+3:=by
 have A:=zE.new w #[.slice none 0 0,.slice none 0 0,.slice none 0 0] 65;generalize hw1:w.alloc (.cells #[.slice none 0 0,.slice none 0 0,.slice none 0 0] 65)=w1 at *
 have z1:w1.heap.size=w.heap.size+1:=by rw[<- hw1];simp
 have g1:Ch [] w w1:=by rw[<- hw1];exact Ch.alloc _ _ _
 have B:=zE.new w1 #[.int .i64 0,.int .i64 0] 68;have g2:=Ch.alloc [] w1 (.cells #[.int .i64 0,.int .i64 0] 68)
 have z2:(w1.alloc (.cells #[.int .i64 0,.int .i64 0] 68)).heap.size=w1.heap.size+1:=by simp
 generalize w1.alloc (.cells #[.int .i64 0,.int .i64 0] 68)=w2 at *;have g3:=Ch.alloc [] w2 (.cells #[.string S,.int .i64 0,.int .i64 0,.int .i64 0,.int .i64 0,.slice none 0 0,.slice none 0 0,.slice none 0 0] 105);have C:=zE.new w2 #[.string S,.int .i64 0,.int .i64 0,.int .i64 0,.int .i64 0,.slice none 0 0,.slice none 0 0,.slice none 0 0] 105
 have z3:(w2.alloc (.cells #[.string S,.int .i64 0,.int .i64 0,.int .i64 0,.int .i64 0,.slice none 0 0,.slice none 0 0,.slice none 0 0] 105)).heap.size=w2.heap.size+1:=by simp
 rw[<- hW]at g3 C z3
 have e2:w2.heap.size=w.heap.size+1+1:=by omega
 rw[e2]at C;rw[z1]at B;exact⟨C,⟨((g1.trans g2).trans g3).below (Nat.le_refl _) (by simp),by omega,(A.kp g2 (by simp)).kp g3 (by simp),B.kp g3 (by simp)⟩,by omega⟩
theorem Yo.frame{w w1 w2:World}(h:Yo w w1)(hz:w1.heap.size<=w2.heap.size)(ho:w2.os=w1.os)(ht:w2.tape=w1.tape)(hp:w2.output=w1.output)(hb:∀k,k<w.heap.size+2->w2.heap[k]? =w1.heap[k]?):Yo w w2:=by
 obtain⟨B,z,a,b⟩:=h;exact⟨B.trans ⟨ho,ht,hp,hz,fun k hk=>hb k (by omega)⟩,by omega,(hb _ (by omega)).trans a,(hb _ (by omega)).trans b⟩
theorem Fx{w W0:World}{S:ByteArray}(h:zP W0 (w.heap.size+1+1) S st0 (.slice none 0 0) (.slice none 0 0) (.slice none 0 0))(hh:Yo w W0)(hz:W0.heap.size=w.heap.size+3):
 Calls Tryz.prog 39 #[.pointer (some ⟨w.heap.size+1+1,0,none⟩),.func (.func 40) #[.pointer (some ⟨w.heap.size+1+1,0,none⟩)] #[]] W0 fun e w''=>
  e= .returned (.agg #[.int .i64 (yX S).1,.int .i64 (yX S).2])/\Yo w w''/\(yX S=(0,0)->∃s' F u5 u6 u7 sv cv av,zP w'' (w.heap.size+1+1) S s' u5 u6 u7/\jA S= .ok (⟨sv.map (fun p=>p.1),cv.map (fun p=>p.1),av.map (fun p=>p.1)⟩,s')/\yZ w'' (w.heap.size+5) (w.heap.size+1+1) F u5 u6 u7 sv cv av):=by
 by_cases hS:400<S.size
 ·refine(Re h hS).mono ?_
  rintro e w' ⟨rfl,g⟩;refine⟨by rw[EK hS],hh.frame g.size g.os g.tape g.output (fun k hk=>g.block k (by omega) (by simp)),fun e=> ?_⟩;rw[EK hS]at e;cases e
 ·have hS':S.size<=400:=by omega
  refine(Ce h hS' 40 #[.pointer (some ⟨w.heap.size+1+1,0,none⟩)] #[] Hz
   (Good:=fun s' u5 u6 u7 w'=>Yo w w'/\w.heap.size+5<=w'.heap.size/\∃F sv cv av,jA S= .ok (⟨sv.map (fun p=>p.1),cv.map (fun p=>p.1),av.map (fun p=>p.1)⟩,s')/\yZ w' (w.heap.size+5) (w.heap.size+1+1) F u5 u6 u7 sv cv av)
   (Bad:=fun d w'=>Yo w w'/\w.heap.size+5<=w'.heap.size/\jA S= .error d) ?_).mono ?_
  ·intro W hW
   have gW:Ch [] W0 W:=by rw[hW];exact(Ch.alloc _ _ _).trans (Ch.alloc _ _ _)
   have zW:W.heap.size=w.heap.size+5:=by rw[hW];simp[hz]
   have hW1:=h.kp gW (by simp);have HW:Yo w W:=hh.frame gW.size gW.os gW.tape gW.output (fun k hk=>gW.block k (by omega) (by simp));clear hW;refine(Su (lo:=W.heap.size) hW1 hS' (Nat.le_refl _)).mono ?_;rintro e w' ⟨B,hr⟩;have HW':Yo w w':=HW.frame B.size B.os B.tape B.output (fun k hk=>B.block k (by omega) (by omega));refine⟨B.size,B.block _ (by omega) (by omega),B.block _ (by omega) (by omega),?_⟩
   rcases hr with⟨s',F,v5,v6,v7,sv,cv,av,hr,rfl,h1,hp,_⟩|⟨d,hr,hg⟩
   ·refine Or.inl ⟨s',v5,v6,v7,rfl,h1,HW',by have:=B.size;omega,F,sv,cv,av,hr,?_⟩
    rw[zW]at hp;exact hp
   ·exact Or.inr ⟨d,hg,HW',by have:=B.size;omega,hr⟩
  ·rintro e w'' ⟨w',g,⟨s',u5,u6,u7,rfl,h1,HW,z,F,sv,cv,av,hr,hp⟩|⟨d,rfl,HW,z,hr⟩⟩
   ·rw[hz]at g
    refine⟨by rw[GB hS' hr],HW.frame g.size g.os g.tape g.output (fun k hk=>g.block k (by omega) (by simp;omega)),fun _=>⟨s',F,u5,u6,u7,sv,cv,av,h1.kp g (by simp),hr,?_⟩⟩;exact hp.keepLow g (by simp) (Nat.le_refl _)
   ·rw[hz]at g
    refine⟨by rw[Dt hS' hr],HW.frame g.size g.os g.tape g.output (fun k hk=>g.block k (by omega) (by simp;omega)),fun e=> ?_⟩;rw[Dt hS' hr]at e;cases e
theorem Bl{w2:World}{H:Nat}{x0 x1 x2 u0 u1:Value}{T T':TypeId}(A:zE w2 H #[x0,x1,x2] T)(B:zE w2 (H+1) #[u0,u1] T')(y0 y1 y2 z0 z1:Value):
 zE (((((w2.setCell ⟨H,0,none⟩ y0).setCell ⟨H,1,none⟩ y1).setCell ⟨H,2,none⟩ y2).setCell ⟨H+1,0,none⟩ z0).setCell ⟨H+1,1,none⟩ z1).drew H #[y0,y1,y2] T/\
 zE (((((w2.setCell ⟨H,0,none⟩ y0).setCell ⟨H,1,none⟩ y1).setCell ⟨H,2,none⟩ y2).setCell ⟨H+1,0,none⟩ z0).setCell ⟨H+1,1,none⟩ z1).drew (H+1) #[z0,z1] T'/\
 Ch [H,H+1] w2 (((((w2.setCell ⟨H,0,none⟩ y0).setCell ⟨H,1,none⟩ y1).setCell ⟨H,2,none⟩ y2).setCell ⟨H+1,0,none⟩ z0).setCell ⟨H+1,1,none⟩ z1).drew:=by
 have r0:zE (w2.setCell ⟨H,0,none⟩ y0) H #[y0,x1,x2] T:=A.set 0 y0;have r1:zE ((w2.setCell ⟨H,0,none⟩ y0).setCell ⟨H,1,none⟩ y1) H #[y0,y1,x2] T:=r0.set 1 y1;have r2:zE (((w2.setCell ⟨H,0,none⟩ y0).setCell ⟨H,1,none⟩ y1).setCell ⟨H,2,none⟩ y2) H #[y0,y1,y2] T:=r1.set 2 y2;have g2:Ch [H] w2 (((w2.setCell ⟨H,0,none⟩ y0).setCell ⟨H,1,none⟩ y1).setCell ⟨H,2,none⟩ y2):=((Ch.setCell _ (by simp) _).trans (Ch.setCell _ (by simp) _)).trans (Ch.setCell _ (by simp) _);have B2:=B.kp g2 (by simp);generalize ((w2.setCell ⟨H,0,none⟩ y0).setCell ⟨H,1,none⟩ y1).setCell ⟨H,2,none⟩ y2=w3 at *;obtain⟨B4,g4⟩:=B2.fill2 z0 z1;have A4:=r2.kp g4 (by simp);have gd:=Ch.drew [] ((w3.setCell ⟨H+1,0,none⟩ z0).setCell ⟨H+1,1,none⟩ z1);exact⟨A4.kp gd (by simp),B4.kp gd (by simp),(g2.mono (by simp)).trans ((g4.mono (by simp)).trans (Ch.drew _ _))⟩
theorem PD{w:World}(S:ByteArray):Calls Tryz.prog 21 #[.string S] w (SQ w S):=by
 have hmf:∀(fn:Fn) (first cap:Array Value) (w:World),(Instr.makeFunc fn first cap).run Tryz.prog w= .ok (.func fn first cap) w:=fun _ _ _ _=>rfl
 go_enter Tryz.func21,Tryz.ntmps21;go_wp2_with fail;generalize hW0:((w.alloc (.cells #[.slice none 0 0,.slice none 0 0,.slice none 0 0] 65)).alloc (.cells #[.int .i64 0,.int .i64 0] 68)).alloc (.cells #[.string S,.int .i64 0,.int .i64 0,.int .i64 0,.int .i64 0,.slice none 0 0,.slice none 0 0,.slice none 0 0] 105)=W0;obtain⟨h0,hh,hz⟩:=Pz hW0.symm;clear hW0;refine(Fx h0 hh hz).mono ?_;rintro e w1 ⟨rfl,H1,hgood⟩;have HG:=zC hgood;clear hgood;obtain⟨H2,z2,A2,B2⟩:=H1;obtain⟨a0,a1,a2⟩:w1.cell? ⟨w.heap.size,0,none⟩=some (.slice none 0 0)/\w1.cell? ⟨w.heap.size,1,none⟩=some (.slice none 0 0)/\w1.cell? ⟨w.heap.size,2,none⟩=some (.slice none 0 0):=⟨A2.cl 0 _ rfl,A2.cl 1 _ rfl,A2.cl 2 _ rfl⟩;have fa:=A2.fz;obtain⟨b0,b1⟩:w1.cell? ⟨w.heap.size+1,0,none⟩=some (.int .i64 0)/\w1.cell? ⟨w.heap.size+1,1,none⟩=some (.int .i64 0):=⟨B2.cl 0 _ rfl,B2.cl 1 _ rfl⟩;have fb:=B2.fz;generalize hC:yX S=C at *;obtain⟨C1,C2⟩:=C;have HC:=zC hC;clear hC
 by_cases hc:C1=0
 ·have q:(C1 !=0)=false:=by simp[hc]
  have hC2:C2=0:=Xv HC.o hc;obtain⟨s',F,u5,u6,u7,sv,cv,av,h1,hr,hp⟩:=HG.o (by rw[hc,hC2]);obtain⟨x5,y5,rfl⟩:=zQ hp.rs;obtain⟨x6,y6,rfl⟩:=zQ hp.rc;obtain⟨x7,y7,rfl⟩:=zQ hp.ra;obtain⟨d0,d1,d2,d3,d4,d5,d6,d7,fz1⟩:=h1.fa;have HR:=zC hr;have HP:=zC hp;clear hr hp HG;go_wp2_with fail;have gA:=Ch.alloc [] w1 (.cells #[.int .i64 0,.int .i64 0] 68);have D3:=zE.new w1 #[.int .i64 0,.int .i64 0] 68;have A3:=A2.kp gA (by simp);have B3:=B2.kp gA (by simp);have h3:=h1.kp gA (by simp)
  have zA:(w1.alloc (.cells #[.int .i64 0,.int .i64 0] 68)).heap.size=w1.heap.size+1:=by simp
  clear a0 a1 a2 fa b0 b1 fb d0 d1 d2 d3 d4 d5 d6 d7 fz1;generalize w1.alloc (.cells #[.int .i64 0,.int .i64 0] 68)=w2 at *;generalize hq:w.heap.size=H at *;generalize hp:w1.heap.size=P at *;obtain⟨d0,d1,d2,d3,d4,d5,d6,d7,fz1⟩:=h3.fa;obtain⟨a0,a1,a2⟩:w2.cell? ⟨H,0,none⟩=some (.slice none 0 0)/\w2.cell? ⟨H,1,none⟩=some (.slice none 0 0)/\w2.cell? ⟨H,2,none⟩=some (.slice none 0 0):=⟨A3.cl 0 _ rfl,A3.cl 1 _ rfl,A3.cl 2 _ rfl⟩;have fa:=A3.fz;obtain⟨b0,b1⟩:w2.cell? ⟨H+1,0,none⟩=some (.int .i64 0)/\w2.cell? ⟨H+1,1,none⟩=some (.int .i64 0):=⟨B3.cl 0 _ rfl,B3.cl 1 _ rfl⟩;have fb:=B3.fz;obtain⟨p0,p1⟩:w2.cell? ⟨P,0,none⟩=some (.int .i64 0)/\w2.cell? ⟨P,1,none⟩=some (.int .i64 0):=⟨D3.cl 0 _ rfl,D3.cl 1 _ rfl⟩
  have n1:¬H=P:=by omega
  have n2:¬H+1=P:=by omega
  have n3:¬P=H:=by omega
  have n4:¬P=H+1:=by omega
  go_region;obtain⟨A5,B5,G5⟩:=Bl A3 B3 (.slice x5 sv.length y5) (.slice x6 cv.length y6) (.slice x7 av.length y7) (.int .i64 0) (.int .i64 0);clear a0 a1 a2 fa b0 b1 fb p0 p1 d0 d1 d2 d3 d4 d5 d6 d7 fz1;generalize (((((w2.setCell ⟨H,0,none⟩ (.slice x5 sv.length y5)).setCell ⟨H,1,none⟩ (.slice x6 cv.length y6)).setCell ⟨H,2,none⟩ (.slice x7 av.length y7)).setCell ⟨H+1,0,none⟩ (.int .i64 0)).setCell ⟨H+1,1,none⟩ (.int .i64 0)).drew=w5 at *;have k0:=A5.cl 0 _ rfl;have k1:=A5.cl 1 _ rfl;have k2:=A5.cl 2 _ rfl;have m0:=B5.cl 0 _ rfl;have m1:=B5.cl 1 _ rfl;go_wp2_with fail;refine bodyPost_ret (v:= .tuple #[.agg #[.slice x5 sv.length y5,.slice x6 cv.length y6,.slice x7 av.length y7],.agg #[.int .i64 0,.int .i64 0]]) (by simp[results,Tryz.results21,go_sem,k0,k1,k2,m0,m1]) rfl ?_;subst hq;refine⟨H2.trans ((gA.mono (by simp)).trans G5 |>.below (by omega) (by simp)),_,_,_,by rw[HC.o,hc,hC2],⟨_,_,_,rfl⟩,⟨_,_,_,rfl⟩,⟨_,_,_,rfl⟩,fun _=>⟨s',F,sv,cv,av,HR.o,?_⟩⟩;exact((HP.o).keepLow gA (by simp) (Nat.le_refl _)).keepLow G5 (by simp) (by omega)
 ·have q:(C1 !=0)=true:=by simp[hc]
  have hg0:C1≠0:=hc;clear HG hc;go_wp2_with fail;have gA:=Ch.alloc [] w1 (.cells #[.int .i64 C1,.int .i64 C2] 68);have D3:=zE.new w1 #[.int .i64 C1,.int .i64 C2] 68;have A3:=A2.kp gA (by simp);have B3:=B2.kp gA (by simp)
  have zA:(w1.alloc (.cells #[.int .i64 C1,.int .i64 C2] 68)).heap.size=w1.heap.size+1:=by simp
  clear a0 a1 a2 fa b0 b1 fb;generalize w1.alloc (.cells #[.int .i64 C1,.int .i64 C2] 68)=w2 at *;generalize hq:w.heap.size=H at *;generalize hp:w1.heap.size=P at *;obtain⟨a0,a1,a2⟩:w2.cell? ⟨H,0,none⟩=some (.slice none 0 0)/\w2.cell? ⟨H,1,none⟩=some (.slice none 0 0)/\w2.cell? ⟨H,2,none⟩=some (.slice none 0 0):=⟨A3.cl 0 _ rfl,A3.cl 1 _ rfl,A3.cl 2 _ rfl⟩;have fa:=A3.fz;obtain⟨b0,b1⟩:w2.cell? ⟨H+1,0,none⟩=some (.int .i64 0)/\w2.cell? ⟨H+1,1,none⟩=some (.int .i64 0):=⟨B3.cl 0 _ rfl,B3.cl 1 _ rfl⟩;have fb:=B3.fz;obtain⟨p0,p1⟩:w2.cell? ⟨P,0,none⟩=some (.int .i64 C1)/\w2.cell? ⟨P,1,none⟩=some (.int .i64 C2):=⟨D3.cl 0 _ rfl,D3.cl 1 _ rfl⟩
  have n1:¬H=P:=by omega
  have n2:¬H+1=P:=by omega
  have n3:¬P=H:=by omega
  have n4:¬P=H+1:=by omega
  go_region;obtain⟨A5,B5,G5⟩:=Bl A3 B3 (.slice none 0 0) (.slice none 0 0) (.slice none 0 0) (.int .i64 C1) (.int .i64 C2);clear a0 a1 a2 fa b0 b1 fb p0 p1;generalize (((((w2.setCell ⟨H,0,none⟩ (.slice none 0 0)).setCell ⟨H,1,none⟩ (.slice none 0 0)).setCell ⟨H,2,none⟩ (.slice none 0 0)).setCell ⟨H+1,0,none⟩ (.int .i64 C1)).setCell ⟨H+1,1,none⟩ (.int .i64 C2)).drew=w5 at *;have k0:=A5.cl 0 _ rfl;have k1:=A5.cl 1 _ rfl;have k2:=A5.cl 2 _ rfl;have m0:=B5.cl 0 _ rfl;have m1:=B5.cl 1 _ rfl;go_wp2_with fail;refine bodyPost_ret (v:= .tuple #[.agg #[.slice none 0 0,.slice none 0 0,.slice none 0 0],.agg #[.int .i64 C1,.int .i64 C2]]) (by simp[results,Tryz.results21,go_sem,k0,k1,k2,m0,m1]) rfl ?_;subst hq;refine⟨H2.trans ((gA.mono (by simp)).trans G5 |>.below (by omega) (by simp)),_,_,_,by rw[HC.o],⟨_,_,_,rfl⟩,⟨_,_,_,rfl⟩,⟨_,_,_,rfl⟩,fun e=> ?_⟩;rw[HC.o]at e;simp only[Prod.mk.injEq]at e;exact absurd e.1 hg0
end Go.Proofs.YteobgfbgglfkbaaGreat
