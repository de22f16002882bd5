import Derived.Test.YteobgfbgglfkbaaGreatP3
import Derived.Test.YteobgfbgglfkbaaGreatA6
import Derived.Deep.DeepCutAuto

namespace Go.Proofs.YteobgfbgglfkbaaGreat
open Go.RowKit
attribute [local go_sem ↓] Go.wp_at_zero Go.wp_at_succ

theorem partVals_at : ∀ (P : List (Int × ByteArray)) (i : Nat) (p : Int × ByteArray), P[i]? = some p → (partVals P)[i * 2]? = some (.int .u8 p.1) ∧ (partVals P)[i * 2 + 1]? = some (.string p.2)
  | [], i, p, h => by simp at h
  | q :: sv, 0, p, h => by simp at h; subst h; simp [partVals]
  | q :: sv, i + 1, p, h => by
    have ih := partVals_at sv i p (by simpa using h)
    have e : ∀ t, (partVals (q :: sv))[(i + 1) * 2 + t]? = (partVals sv)[i * 2 + t]? := by
      intro t
      rw [show (i + 1) * 2 + t = (i * 2 + t) + 2 from by omega]
      simp [partVals]
    exact ⟨(e 0).trans ih.1, (e 1).trans ih.2⟩

set_option maxRecDepth 100000 in
set_option maxHeartbeats 1600000 in
theorem rput_any {w : World} {va : Option Addr} {vn vc : Nat} {vo : Value} {P : List (Int × ByteArray)} (ho : w.ownsRow 0 191 2 vo P.length (partVals P)) (hP : OutOk P) (c : UInt8) :
    Calls Tryz.prog 122 #[.agg #[.slice va vn vc, vo], .int .u8 c.toNat] w fun e w' => e = .returned (.string (str (outB P c))) ∧ Ch [] w w' := by
  obtain ⟨a, cp, rfl⟩ := ownsRow_slice ho
  have B0 := BlkAt.new w #[.slice va vn vc, .slice a P.length cp] 146
  have g0 := Ch.alloc [] w (.cells #[.slice va vn vc, .slice a P.length cp] 146)
  have hP3 := hP.1
  go_enter Tryz.func122, Tryz.ntmps122
  go_wp2_with fail
  generalize w.alloc (.cells #[.slice va vn vc, .slice a P.length cp] 146) = w0 at *
  generalize hH : w.heap.size = H at *
  clear hH
  go_loopw [5, 6] (fun s i w5 => ∃ k : Nat, k ≤ P.length ∧ s = .string (str (outB (P.take k) c)) ∧ i = .int .i64 k ∧ Hid (BlkAt w5 H #[.slice va vn vc, .slice a P.length cp] 146) ∧ Hid (Ch [] w w5)) (fun _ i _ => P.length - (intOf i).toNat)
  case atStart => exact ⟨0, Nat.zero_le _, rfl, rfl, B0, g0⟩
  case round =>
    obtain ⟨k, hk, rfl, rfl, B5, g5⟩ := hrel
    have b1 := B5.out.cell 1 _ rfl
    by_cases hlt : (k : Int) < P.length
    · have hlt' : k < P.length := by omega
      obtain ⟨g, rfl, hg⟩ := ownsRow_cell (ownsRow_keep ho g5.out (by simp)) (by omega)
      obtain ⟨hc0, hc1⟩ := partVals_at P k P[k] (by simp [hlt'])
      have d0 := hg _ _ hc0
      have d1 := hg _ _ hc1
      have HT := hide (outB_take P c hlt')
      have hT4 := hP.2 P[k] (List.getElem_mem hlt')
      have hs1 : (str (outB (P.take k) c)).size ≤ 12 := by rw [str_size]; exact outB_le hP c k
      generalize P[k] = p at *
      obtain ⟨K, T⟩ := p
      simp only at d0 d1 HT hT4
      clear hg hc0 hc1
      generalize hX : outB (P.take k) c = X at *
      clear hX
      have done : ∀ w7 y, y = str (outB (P.take (k + 1)) c) → Ch [] wr w7 → (∃ k' : Nat, k' ≤ P.length ∧ Value.string y = .string (str (outB (P.take k') c)) ∧ Value.int .i64 ((k : Int) + 1) = .int .i64 k' ∧ Hid (BlkAt w7 H #[.slice va vn vc, .slice (some ⟨g, 0, none⟩) P.length cp] 146) ∧ Hid (Ch [] w w7)) ∧ P.length - (intOf (Value.int .i64 ((k : Int) + 1))).toNat < P.length - (intOf (Value.int .i64 (k : Int))).toNat :=
        fun w7 y hy g7 => ⟨⟨k + 1, by omega, by rw [hy], by go_num, B5.out.keep g7 (by simp), g5.out.trans g7⟩, by simp [intOf]; omega⟩
      have DONE := hide done
      clear done
      by_cases k1 : K = 116
      · have HQ : Hid (partB (K, T) c = T.data.toList) := by show _ = _; simp [partB, k1]
        subst k1
        go_wp2_with fail
        exact DONE.out _ _ (by rw [HT.out, HQ.out, ← str_append, str_data]) (Ch.refl _ _)
      · have q1 : (K == 116) = false := by simp [k1]
        by_cases k2 : K = 98
        · have HQ : Hid (partB (K, T) c = [c]) := by show _ = _; simp [partB, k2]
          have hcv := convert1' wr c.toNat
          rw [str_one] at hcv
          have hcs : (str [c]).size = 1 := str_size _
          subst k2
          go_wp2_with fail
          exact DONE.out _ _ (by rw [HT.out, HQ.out, str_append]) (Ch.alloc _ _ _)
        · have q2 : (K == 98) = false := by simp [k2]
          by_cases k3 : K = 117
          · have HQ : Hid (partB (K, T) c = [capB c]) := by show _ = _; simp [partB, k3]
            have hcs : (str [capB c]).size = 1 := str_size _
            subst k3
            go_wp2_with fail
            refine (capital_any c).mono ?_
            rintro e w6 ⟨rfl, rfl⟩
            have hcv := convert1' w6 (capB c).toNat
            rw [str_one] at hcv
            go_wp2_with fail
            exact DONE.out _ _ (by rw [HT.out, HQ.out, str_append]) (Ch.alloc _ _ _)
          · have q3 : (K == 117) = false := by simp [k3]
            have HQ : Hid (partB (K, T) c = [litB c]) := by show _ = _; simp [partB, k1, k2, k3]
            have hcs : (str [litB c]).size = 1 := str_size _
            go_wp2_with fail
            refine (little_any c).mono ?_
            rintro e w6 ⟨rfl, rfl⟩
            have hcv := convert1' w6 (litB c).toNat
            rw [str_one] at hcv
            go_wp2_with fail
            exact DONE.out _ _ (by rw [HT.out, HQ.out, str_append]) (Ch.alloc _ _ _)
    · obtain rfl : k = P.length := by omega
      go_wp2_with fail
      go_ret
      exact ⟨rfl, g5.out⟩
end Go.Proofs.YteobgfbgglfkbaaGreat

namespace Go.Proofs.YteobgfbgglfkbaaGreat
open Go.RowKit
attribute [local go_sem ↓] Go.wp_at_zero Go.wp_at_succ

theorem rRuleCells_at : ∀ (rv : List (RuleD × (Value × Value))) (i : Nat) (p : RuleD × (Value × Value)), rv[i]? = some p → (rv.flatMap fun p => [p.2.1, p.2.2])[i * 2]? = some p.2.1 ∧ (rv.flatMap fun p => [p.2.1, p.2.2])[i * 2 + 1]? = some p.2.2
  | [], i, p, h => by simp at h
  | q :: sv, 0, p, h => by simp at h; subst h; simp
  | q :: sv, i + 1, p, h => by
    have ih := rRuleCells_at sv i p (by simpa using h)
    have e : ∀ t, ((q :: sv).flatMap fun p => [p.2.1, p.2.2])[(i + 1) * 2 + t]? = (sv.flatMap fun p => [p.2.1, p.2.2])[i * 2 + t]? := by
      intro t
      rw [show (i + 1) * 2 + t = (i * 2 + t) + 2 from by omega]
      simp
    exact ⟨(e 0).trans ih.1, (e 1).trans ih.2⟩
theorem RulesRep.keep {w w' : World} {F : Nat → Prop} {v : Value} {R : List RuleD} (h : RulesRep w F v R) (hF : ∀ k, F k → k < w.heap.size) (g : Ch [] w w') : RulesRep w' F v R :=
  h.frame (fun k hk => g.block k (hF k hk) (by simp)) (fun _ h => h)
theorem ruleB_drop' {R : List RuleD} (c : UInt8) {k : Nat} (hk : k < R.length) : ruleB (R.drop k) c = if inCls R[k].cls c.toNat then outB R[k].out c else ruleB (R.drop (k + 1)) c := by
  rw [List.drop_eq_getElem_cons hk]
  simp only [ruleB]

set_option maxRecDepth 100000 in
set_option maxHeartbeats 1600000 in
theorem sput_any {w : World} {F : Nat → Prop} {nm one two : ByteArray} {sw : Bool} {v : Value} {R : List RuleD} (hr : RulesRep w F v R) (hR : ∀ r, r ∈ R → OutOk r.out) (hn : R.length ≤ 6) (c : UInt8) :
    Calls Tryz.prog 87 #[.agg #[.string nm, .bool sw, .string one, .string two, v], .int .u8 c.toNat] w fun e w' => e = .returned (.string (str (ruleB R c))) ∧ Ch [] w w' := by
  obtain ⟨_, rv, rfl, ho, hp⟩ := hr
  obtain ⟨a, cp, rfl⟩ := ownsRow_slice ho
  have hn' : rv.length ≤ 6 := by simpa using hn
  have hc256 := c.toNat_lt
  have hcI : (c.toNat : Int) < 256 := by omega
  have B0 := BlkAt.new w #[.string nm, .bool sw, .string one, .string two, .slice a rv.length cp] 131
  have g0 := Ch.alloc [] w (.cells #[.string nm, .bool sw, .string one, .string two, .slice a rv.length cp] 131)
  go_enter Tryz.func87, Tryz.ntmps87
  go_wp2_with fail
  generalize w.alloc (.cells #[.string nm, .bool sw, .string one, .string two, .slice a rv.length cp] 131) = w0 at *
  generalize hH : w.heap.size = H at *
  go_loopw [5] (fun i w5 => ∃ k : Nat, k ≤ rv.length ∧ i = .int .i64 k ∧ Hid (ruleB ((rv.map fun p => p.1).drop k) c = ruleB (rv.map fun p => p.1) c) ∧ Hid (BlkAt w5 H #[.string nm, .bool sw, .string one, .string two, .slice a rv.length cp] 131) ∧ Hid (Ch [] w w5)) (fun i _ => rv.length - (intOf i).toNat)
  case atStart => exact ⟨0, Nat.zero_le _, rfl, by show _ = _; simp, B0, g0⟩
  case round =>
    obtain ⟨k, hk, rfl, HB, B5, g5⟩ := hrel
    have b4 := B5.out.cell 4 _ rfl
    by_cases hlt : (k : Int) < rv.length
    · have hlt' : k < rv.length := by omega
      have HD := hide (ruleB_drop' (R := rv.map fun p => p.1) c (k := k) (by simpa using hlt'))
      obtain ⟨g, rfl, hg⟩ := ownsRow_cell (ownsRow_keep ho g5.out (by simp)) (by omega)
      obtain ⟨h0, h1⟩ := rRuleCells_at rv k rv[k] (by simp [hlt'])
      have d0 := hg _ _ h0
      have d1 := hg _ _ h1
      have hpk := hp rv[k] (List.getElem_mem hlt')
      have hRk := hR rv[k].1 (List.mem_map_of_mem (List.getElem_mem hlt'))
      rw [List.getElem_map] at HD
      clear hg h0 h1
      generalize rv[k] = p at *
      obtain ⟨D, vi, vo⟩ := p
      simp only at d0 d1 HD hpk hRk
      obtain ⟨cb, rfl, hFc, hBl, _, hparts⟩ := hpk
      have e0 := (hBl.keep g5.out (by simp)).cell c.toNat hc256
      have HO := hide (ownsRow_keep hparts g5.out (by simp))
      obtain ⟨oa, oc, rfl⟩ := ownsRow_slice hparts
      clear hBl hparts hp
      cases hb : inCls D.cls c.toNat with
      | true =>
        rw [hb] at e0 HD
        have HD2 : Hid (outB D.out c = ruleB (rv.map fun p => p.1) c) := by show _ = _; rw [← HB.out, HD.out]; rfl
        clear hb
        go_wp2_with fail
        refine (rput_any HO.out hRk c).mono ?_
        rintro e w8 ⟨rfl, g8⟩
        go_wp2_with fail
        go_ret
        exact ⟨by rw [← HD2.out]; rfl, g5.out.trans g8⟩
      | false =>
        rw [hb] at e0 HD
        have HD2 : Hid (ruleB ((rv.map fun p => p.1).drop (k + 1)) c = ruleB (rv.map fun p => p.1) c) := by show _ = _; rw [← HB.out, HD.out]; rfl
        clear hb
        go_wp2_with fail
        exact ⟨⟨k + 1, by omega, by go_num, HD2, B5, g5⟩, by simp [intOf]; omega⟩
    · have HD : Hid (ruleB (rv.map fun p => p.1) c = [c]) := by
        show _ = _
        rw [← HB.out, List.drop_of_length_le (by simp; omega)]; rfl
      have hcv := convert1' wr c.toNat
      rw [str_one] at hcv
      go_wp2_with fail
      go_ret
      exact ⟨by rw [HD.out]; rfl, g5.out.trans (Ch.alloc _ _ _)⟩

end Go.Proofs.YteobgfbgglfkbaaGreat

namespace Go.Proofs.YteobgfbgglfkbaaGreat
open Go.RowKit
attribute [local go_sem ↓] Go.wp_at_zero Go.wp_at_succ

/-! A scrub, on all of a text. -/
theorem swapC_step {one two : List UInt8} {xs : List UInt8} {i : Nat} (h0 : one ≠ []) (hi : i < xs.length) : swapC one two (xs.drop i) = if (xs.drop i).take one.length = one then two ++ swapC one two (xs.drop (i + one.length)) else xs[i] :: swapC one two (xs.drop (i + 1)) := by
  split
  · rename_i h
    have := List.take_append_drop one.length (xs.drop i)
    rw [h] at this
    rw [← this, swapC_hit h0, List.drop_drop]
  · rename_i h
    rw [List.drop_eq_getElem_cons hi]
    refine swapC_miss ?_
    intro hp
    rw [← List.drop_eq_getElem_cons hi, List.prefix_iff_eq_take] at hp
    exact h hp.symm

set_option maxRecDepth 100000 in
set_option maxHeartbeats 1600000 in
theorem clean_any {w : World} {F : Nat → Prop} {D : ScrubD} {v : Value} (hr : RulesRep w F v D.rules) (hF : ∀ k, F k → k < w.heap.size) (hD : ScrubOk D) (T : List UInt8) (hT : T.length ≤ 140737488355328) (hl : (cleanD D T).length ≤ 140737488355328) :
    Calls Tryz.prog 47 #[.agg #[.string D.name, .bool D.swap, .string D.one, .string D.two, v], .string (str T)] w fun e w' => e = .returned (.string (str (cleanD D T))) ∧ Ch [] w w' := by
  obtain ⟨nm, sw, one, two, R⟩ := D
  simp only at hr ⊢
  obtain ⟨a, n, cp, rfl⟩ : ∃ a n c, v = .slice a n c := by
    obtain ⟨_, rv, _, ho, _⟩ := hr
    obtain ⟨a, c, rfl⟩ := ownsRow_slice ho
    exact ⟨_, _, _, rfl⟩
  have B0 := BlkAt.new w #[.string nm, .bool sw, .string one, .string two, .slice a n cp] 131
  have g0 := Ch.alloc [] w (.cells #[.string nm, .bool sw, .string one, .string two, .slice a n cp] 131)
  have hTs : (str T).size ≤ 140737488355328 := by rw [str_size]; exact hT
  have HZ := hide (str_size T)
  have HL := hide hl
  clear hl
  generalize hCL : cleanD ⟨nm, sw, one, two, R⟩ T = CL at *
  go_enter Tryz.func47, Tryz.ntmps47
  go_wp2_with fail
  generalize w.alloc (.cells #[.string nm, .bool sw, .string one, .string two, .slice a n cp] 131) = w0 at *
  generalize hH : w.heap.size = H at *
  go_loopw [5, 6, 7] (fun s i _ w5 => ∃ (k : Nat) (X : List UInt8), k ≤ (str T).size ∧ s = .string (str X) ∧ i = .int .i64 k ∧ Hid (X ++ cleanD ⟨nm, sw, one, two, R⟩ (T.drop k) = CL) ∧ Hid (BlkAt w5 H #[.string nm, .bool sw, .string one, .string two, .slice a n cp] 131) ∧ Hid (Ch [] w w5)) (fun _ i _ _ => (str T).size - (intOf i).toNat)
  case atStart => exact ⟨0, [], Nat.zero_le _, rfl, rfl, by show _ = _; simpa using hCL, B0, g0⟩
  case round =>
    obtain ⟨k, X, hk, rfl, rfl, HX, B5, g5⟩ := hrel
    have b1 := B5.out.cell 1 _ rfl
    have b2 := B5.out.cell 2 _ rfl
    have b3 := B5.out.cell 3 _ rfl
    by_cases hlt : (k : Int) < (str T).size
    · have hlt' : k < T.length := by have := HZ.out; omega
      have hXs : (str X).size ≤ 140737488355328 := by
        have h1 := HL.out
        rw [← HX.out, List.length_append] at h1
        rw [str_size]; omega
      have done : ∀ w7 y (X' : List UInt8) (k' : Nat), y = str X' → k < k' → k' ≤ (str T).size → X' ++ cleanD ⟨nm, sw, one, two, R⟩ (T.drop k') = CL → Ch [] wr w7 → (∃ (k2 : Nat) (X2 : List UInt8), k2 ≤ (str T).size ∧ Value.string y = .string (str X2) ∧ Value.int .i64 (k' : Nat) = .int .i64 k2 ∧ Hid (X2 ++ cleanD ⟨nm, sw, one, two, R⟩ (T.drop k2) = CL) ∧ Hid (BlkAt w7 H #[.string nm, .bool sw, .string one, .string two, .slice a n cp] 131) ∧ Hid (Ch [] w w7)) ∧ (str T).size - (intOf (Value.int .i64 (k' : Nat))).toNat < (str T).size - (intOf (Value.int .i64 (k : Int))).toNat :=
        fun w7 y X' k' hy h1 h2 h3 g7 => ⟨⟨k', X', h2, by rw [hy], rfl, h3, B5.out.keep g7 (by simp), g5.out.trans g7⟩, by simp [intOf]; omega⟩
      have DONE := hide done
      clear done
      cases sw with
      | true =>
        obtain ⟨o1, o2, o3⟩ := hD.1 rfl
        simp only at o1 o2 o3
        have HSTEP := hide (swapC_step (one := one.data.toList) (two := two.data.toList) (xs := T) (i := k) (fun e => by have := size_toList one; rw [e] at this; simp at this; omega) hlt')
        have HX2 : Hid (X ++ swapC one.data.toList two.data.toList (T.drop k) = CL) := HX.out
        have HE : Hid ((str T).extract k (k + one.size) = str ((T.drop k).take one.data.toList.length)) := by
          show _ = _
          rw [str_extract, size_toList, Nat.add_sub_cancel_left]
        have HONE : Hid ((str T).extract k (k + 1) = str [T[k]]) := by
          show _ = _
          rw [str_extract, Nat.add_sub_cancel_left, List.drop_eq_getElem_cons hlt']
          rfl
        have hone1 : (str [T[k]]).size = 1 := str_size _
        have hwr : IntKind.i64.wrap ((k : Int) + one.size) = (k : Int) + one.size := by
          simp [IntKind.wrap, IntKind.signed, IntKind.bits]
          omega
        by_cases hfit : (k : Int) + one.size ≤ (str T).size
        · have hdec : decide ((k : Int) + one.size ≤ (str T).size) = true := decide_eq_true hfit
          have hsl : 0 ≤ (k : Int) ∧ (k : Int) ≤ (k : Int) + one.size ∧ (k : Int) + one.size ≤ (str T).size := ⟨by omega, by omega, by omega⟩
          have hnn : ((k : Int) + one.size).toNat = k + one.size := by omega
          by_cases hq : (str T).extract k (k + one.size) = one
          · obtain ⟨q1, q2⟩ := bytes_eqs hq
            have HQ : Hid ((T.drop k).take one.data.toList.length = one.data.toList) := by
              show _ = _
              have := HE.out.symm.trans hq
              rw [← str_data one] at this
              have := congrArg (fun z => z.data.toList) this
              simpa [str_toList2] using this
            clear hq
            go_wp2_with fail
            go_quiet (fail)
            go_wp2_with fail
            have e : (k : Int) + one.size = ((k + one.size : Nat) : Int) := by omega
            rw [e]
            refine DONE.out _ _ (X ++ two.data.toList) (k + one.size) (by rw [← str_append, str_data]) (by omega) (by omega) ?_ (Ch.drewN _ _ _)
            show (X ++ two.data.toList) ++ swapC one.data.toList two.data.toList (T.drop (k + one.size)) = CL
            rw [← HX2.out, HSTEP.out, if_pos HQ.out, List.append_assoc, size_toList]
          · obtain ⟨q1, q2⟩ := bytes_nes hq
            have HQ : Hid (¬ (T.drop k).take one.data.toList.length = one.data.toList) := by
              intro e
              apply hq
              rw [HE.out, e, str_data]
            have hsl1 : 0 ≤ (k : Int) ∧ (k : Int) ≤ (k : Int) + 1 ∧ (k : Int) + 1 ≤ (str T).size := ⟨by omega, by omega, by omega⟩
            clear hq
            go_wp2_with fail
            go_quiet (fail)
            go_wp2_with fail
            have e : (k : Int) + 1 = ((k + 1 : Nat) : Int) := by omega
            rw [e]
            refine DONE.out _ _ (X ++ [T[k]]) (k + 1) (by rw [← str_append, ← HONE.out]) (by omega) (by omega) ?_ (Ch.drewN _ _ _)
            show (X ++ [T[k]]) ++ swapC one.data.toList two.data.toList (T.drop (k + 1)) = CL
            rw [← HX2.out, HSTEP.out, if_neg HQ.out, List.append_assoc]
            rfl
        · have hdec : decide ((k : Int) + one.size ≤ (str T).size) = false := decide_eq_false hfit
          have HQ : Hid (¬ (T.drop k).take one.data.toList.length = one.data.toList) := by
            intro e
            have := congrArg List.length e
            have h2 := size_toList one
            have h3 := HZ.out
            simp at this
            omega
          have hsl1 : 0 ≤ (k : Int) ∧ (k : Int) ≤ (k : Int) + 1 ∧ (k : Int) + 1 ≤ (str T).size := ⟨by omega, by omega, by omega⟩
          go_wp2_with fail
          go_quiet (fail)
          go_wp2_with fail
          have e : (k : Int) + 1 = ((k + 1 : Nat) : Int) := by omega
          rw [e]
          refine DONE.out _ _ (X ++ [T[k]]) (k + 1) (by rw [← str_append, ← HONE.out]) (by omega) (by omega) ?_ (Ch.drewN _ _ _)
          show (X ++ [T[k]]) ++ swapC one.data.toList two.data.toList (T.drop (k + 1)) = CL
          rw [← HX2.out, HSTEP.out, if_neg HQ.out, List.append_assoc]
          rfl
      | false =>
        have b0 := B5.out.cell 0 _ rfl
        have b4 := B5.out.cell 4 _ rfl
        have HXk : ∀ h : k < (str T).size, (str T)[k] = T[k] := fun _ => by first | rfl | (show (str T).data[k] = _; simp [str])
        have HX2 : Hid (X ++ (T.drop k).flatMap (ruleB R) = CL) := HX.out
        have hR6 := hD.2.2
        simp only at hR6
        have HS : Hid (∀ W, Ch [] w W → Calls Tryz.prog 87 #[.agg #[.string nm, .bool false, .string one, .string two, .slice a n cp], .int .u8 (T[k].toNat : Nat)] W fun e w' => e = .returned (.string (str (ruleB R T[k]))) ∧ Ch [] W w') := fun W gW => sput_any (hr.frame (fun j hj => gW.block j (by rw [hH]; exact hF j hj) (by simp)) (fun _ h => h)) hD.2.1 hR6 T[k]
        have hsp : (str (ruleB R T[k])).size ≤ 12 := by rw [str_size]; exact ruleB_le hD.2.1 _
        have HFIN : Hid ((X ++ ruleB R T[k]) ++ (T.drop (k + 1)).flatMap (ruleB R) = CL) := by
          show _ = _
          rw [← HX2.out, List.append_assoc, List.drop_eq_getElem_cons hlt', List.flatMap_cons]
        go_wp2_with fail
        go_quiet (fail)
        go_wp2_with fail
        go_region_with ((go_at_call 87; refine (HS.out _ (g5.out.trans (Ch.drewN _ _ _))).mono ?_; rintro e w6 ⟨rfl, g6⟩))
        all_goals
          go_wp2_with fail
          have e : (k : Int) + 1 = ((k + 1 : Nat) : Int) := by omega
          rw [e]
          exact DONE.out _ _ (X ++ ruleB R T[k]) (k + 1) (by rw [← str_append]) (by omega) (by omega) HFIN.out ((Ch.drewN _ _ _).trans g6)
    · have e : T.drop k = [] := List.drop_of_length_le (by have := HZ.out; omega)
      have HF : Hid (X = CL) := by
        have := HX.out
        rw [e] at this
        have z : cleanD ⟨nm, sw, one, two, R⟩ [] = [] := by unfold cleanD; split <;> rfl
        rw [z, List.append_nil] at this
        exact this
      clear e
      go_wp2_with fail
      go_ret
      exact ⟨by rw [← HF.out]; rfl, g5.out⟩
end Go.Proofs.YteobgfbgglfkbaaGreat
