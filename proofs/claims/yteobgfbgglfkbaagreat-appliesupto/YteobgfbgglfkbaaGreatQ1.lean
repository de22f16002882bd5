import Derived.Test.YteobgfbgglfkbaaGreatP9
import Derived.Test.YteobgfbgglfkbaaGreatP8

namespace Go.Proofs.YteobgfbgglfkbaaGreat
open Go.RowKit
attribute [local go_sem ↓] Go.wp_at_zero Go.wp_at_succ

theorem scrubCells_at5 : ∀ (sv : List (ScrubD × Value)) (i : Nat) (p : ScrubD × Value), sv[i]? = some p →
    (scrubCells sv)[i * 5]? = some (.string p.1.name) ∧ (scrubCells sv)[i * 5 + 1]? = some (.bool p.1.swap) ∧ (scrubCells sv)[i * 5 + 2]? = some (.string p.1.one) ∧ (scrubCells sv)[i * 5 + 3]? = some (.string p.1.two) ∧ (scrubCells sv)[i * 5 + 4]? = some p.2
  | [], i, p, h => by simp at h
  | q :: sv, 0, p, h => by simp at h; subst h; simp [scrubCells]
  | q :: sv, i + 1, p, h => by
    have ih := scrubCells_at5 sv i p (by simpa using h)
    have e : ∀ t, (scrubCells (q :: sv))[(i + 1) * 5 + t]? = (scrubCells sv)[i * 5 + t]? := by
      intro t
      rw [show (i + 1) * 5 + t = (i * 5 + t) + 5 from by omega]
      simp [scrubCells]
    exact ⟨(e 0).trans ih.1, (e 1).trans ih.2.1, (e 2).trans ih.2.2.1, (e 3).trans ih.2.2.2.1, (e 4).trans ih.2.2.2.2⟩

theorem cleanC_take (Ds : List ScrubD) (T : List UInt8) {j : Nat} (hj : j < Ds.length) : cleanC (Ds.take (j + 1)) T = cleanD Ds[j] (cleanC (Ds.take j) T) := by
  unfold cleanC
  rw [List.take_succ_eq_append_getElem hj, List.foldl_append]
  rfl
theorem take_room {Ds : List ScrubD} (h : ∀ D, D ∈ Ds → ScrubOk D) (hn : Ds.length ≤ 3) {T : List UInt8} (hT : T.length ≤ 8589934592) (j : Nat) : (cleanC (Ds.take j) T).length ≤ 140737488355328 := by
  have h1 := cleanC_le (Ds.take j) T 8589934592 (fun D hD => h D (List.mem_of_mem_take hD)) hT
  have h0 : (Ds.take j).length ≤ 3 := by simp; omega
  have h2 : 16 ^ (Ds.take j).length ≤ 16 ^ 3 := Nat.pow_le_pow_right (by omega) h0
  have h3 : 16 ^ (Ds.take j).length * (8589934592 + 1) ≤ 16 ^ 3 * (8589934592 + 1) := Nat.mul_le_mul_right _ h2
  have h4 : 16 ^ 3 * (8589934592 + 1) ≤ 140737488355328 := by decide
  omega

set_option maxRecDepth 100000 in
set_option maxHeartbeats 3200000 in
theorem RPut_any {w : World} {lo b d : Nat} {F : Nat → Prop} {vs vc va : Value} {sv : List (ScrubD × Value)} {cv : List (ChainD × Value)} {av : List (AskedD × Value)} (hp : PolAt w lo b d F vs vc va sv cv av) {i : Nat} (hi : i < cv.length) (hL : ChainOk sv.length cv[i].1.scrubs) (hok : ∀ D, D ∈ (sv.map fun p => p.1) → ScrubOk D) (T : List UInt8) (hT : T.length ≤ 8589934592) :
    Calls Tryz.prog 27 #[.pointer (some ⟨d, 0, none⟩), .int .i64 i, .string (str T)] w fun e w' => e = .returned (.string (str (cleanC (scrubsOf (sv.map fun p => p.1) cv[i].1.scrubs) T))) ∧ Ch [] w w' := by
  obtain ⟨a0, c0, rfl⟩ := ownsRow_slice hp.rs
  obtain ⟨a1, c1, rfl⟩ := ownsRow_slice hp.rc
  have hiI : (i : Int) < cv.length := by omega
  have hcr := hp.pc cv[i] (List.getElem_mem hi)
  obtain ⟨gc, rfl, hcells⟩ := ownsRow_cell hp.rc (by omega)
  obtain ⟨k0, k1⟩ := chainCells_at2 cv i cv[i] (by simp [hi])
  have e0 := hcells _ _ k0
  have e1 := hcells _ _ k1
  have dS := hp.blk.cell 0 _ rfl
  have dC := hp.blk.cell 1 _ rfl
  clear k0 k1 hcells
  generalize cv[i] = p at *
  obtain ⟨Cd, vl⟩ := p
  simp only at hcr hL e0 e1 ⊢
  obtain ⟨nm, L⟩ := Cd
  simp only at hcr hL e0 e1 ⊢
  obtain ⟨al, cl, rfl⟩ := ownsRow_slice hcr.2
  have hdok := scrubsOf_ok hok (L := L) (by rw [List.length_map]; exact hL)
  have hdlen : (scrubsOf (sv.map fun p => p.1) L).length ≤ 3 := by rw [scrubsOf_len]; exact hL.1
  have hL3 := hL.1
  have HP := hide hp
  have HCR := hide hcr.2
  clear hp hcr
  have B0 := hide (BlkAt.new w #[.string nm, .slice al L.length cl] 52)
  have g0 := hide (Ch.alloc [] w (.cells #[.string nm, .slice al L.length cl] 52))
  go_enter Tryz.func27, Tryz.ntmps27
  go_wp2_with fail
  generalize w.alloc (.cells #[.string nm, .slice al L.length cl] 52) = w0 at *
  generalize hH : w.heap.size = H at *
  clear e0 e1 dS dC
  go_loopw [2, 8] (fun s i w5 => ∃ j : Nat, j ≤ L.length ∧ s = .string (str (cleanC ((scrubsOf (sv.map fun p => p.1) L).take j) T)) ∧ i = .int .i64 j ∧ Hid (BlkAt w5 H #[.string nm, .slice al L.length cl] 52) ∧ Hid (Ch [] w w5)) (fun _ i _ => L.length - (intOf i).toNat)
  case atStart => exact ⟨0, Nat.zero_le _, rfl, rfl, B0, g0⟩
  case round =>
    obtain ⟨j, hj, rfl, rfl, B5, g5⟩ := hrel
    have b1 := B5.out.cell 1 _ rfl
    by_cases hlt : (j : Int) < L.length
    · have hlt' : j < L.length := by omega
      have hix := hL.2 L[j] (List.getElem_mem hlt')
      obtain ⟨t, ht⟩ : ∃ t : Nat, L[j] = t := ⟨L[j].toNat, by omega⟩
      have ht' : t < sv.length := by omega
      have htS : (t : Int) < sv.length := by omega
      have HT := hide (cleanC_take (scrubsOf (sv.map fun p => p.1) L) T (j := j) (by rw [scrubsOf_len]; exact hlt'))
      have HSA : Hid ((scrubsOf (sv.map fun p => p.1) L)[j]'(by rw [scrubsOf_len]; exact hlt') = sv[t].1) := by
        show _ = _
        simp only [scrubsOf, List.getElem_map]
        exact scrubAt_some (by rw [ht]; simp [ht'])
      rw [HSA.out] at HT
      obtain ⟨g, hga, hg⟩ := ownsRow_cell HCR.out (by omega)
      obtain ⟨g', hga', hg'⟩ := ownsRow_cell HP.out.rs (by omega)
      have hKS : ∀ W, Ch [] wr W → W.cell? ⟨d, 0, none⟩ = some (.slice a0 sv.length c0) ∧ W.cell? ⟨H, 1, none⟩ = some (.slice al L.length cl) ∧ W.cell? ⟨g, j, none⟩ = some (.int .i64 t) ∧ W.cell? ⟨g', t * 5, none⟩ = some (.string sv[t].1.name) ∧ W.cell? ⟨g', t * 5 + 1, none⟩ = some (.bool sv[t].1.swap) ∧ W.cell? ⟨g', t * 5 + 2, none⟩ = some (.string sv[t].1.one) ∧ W.cell? ⟨g', t * 5 + 3, none⟩ = some (.string sv[t].1.two) ∧ W.cell? ⟨g', t * 5 + 4, none⟩ = some sv[t].2 := by
        intro W gW
        have G : Ch [] w W := g5.out.trans gW
        obtain ⟨gg, e1, hc⟩ := ownsRow_cell (ownsRow_keep HCR.out G (by simp)) (by omega)
        obtain ⟨gg', e2, hc'⟩ := ownsRow_cell (ownsRow_keep HP.out.rs G (by simp)) (by omega)
        obtain rfl : g = gg := by rw [hga] at e1; injection e1 with e1; injection e1
        obtain rfl : g' = gg' := by rw [hga'] at e2; injection e2 with e2; injection e2
        obtain ⟨k0, k1, k2, k3, k4⟩ := scrubCells_at5 sv t sv[t] (by simp [ht'])
        exact ⟨(HP.out.blk.keep G (by simp)).cell 0 _ rfl, (B5.out.keep gW (by simp)).cell 1 _ rfl, hc j _ (by simp [hlt', ht]), hc' _ _ k0, hc' _ _ k1, hc' _ _ k2, hc' _ _ k3, hc' _ _ k4⟩
      have hD := hok sv[t].1 (List.mem_map_of_mem (List.getElem_mem ht'))
      have hpr := HP.out.ps sv[t] (List.getElem_mem ht')
      subst hga hga'
      clear HSA hg hg' ht hix
      generalize sv[t] = p at *
      obtain ⟨D, vr⟩ := p
      simp only at hKS hD hpr HT
      have r1 := take_room hdok hdlen hT j
      have r2 := take_room hdok hdlen hT (j + 1)
      rw [HT.out] at r2
      have CLN : Hid (∀ W, Ch [] w W → Calls Tryz.prog 47 #[.agg #[.string D.name, .bool D.swap, .string D.one, .string D.two, vr], .string (str (cleanC ((scrubsOf (sv.map fun p => p.1) L).take j) T))] W fun e w' => e = .returned (.string (str (cleanC ((scrubsOf (sv.map fun p => p.1) L).take (j + 1)) T))) ∧ Ch [] W w') := by
        intro W gW
        rw [HT.out]
        exact clean_any (F := F) (hpr.frame (fun k hk => gW.block k (HP.out.f k hk).2.1 (by simp)) (fun _ h => h)) (fun k hk => Nat.lt_of_lt_of_le (HP.out.f k hk).2.1 gW.size) hD _ r1 r2
      have KS := hide hKS
      clear hKS hpr hD r1 r2 HT
      obtain ⟨s1, s2, s3, s4, s5, s6, s7, s8⟩ := KS.out wr (Ch.refl _ _)
      generalize cleanC ((scrubsOf (sv.map fun p => p.1) L).take j) T = X at *
      go_wp2_with fail
      go_region_held3 (fun W => W.cell? ⟨d, 0, none⟩ = some (.slice (some ⟨g', 0, none⟩) sv.length c0) ∧ W.cell? ⟨H, 1, none⟩ = some (.slice (some ⟨g, 0, none⟩) L.length cl) ∧ W.cell? ⟨g, j, none⟩ = some (.int .i64 t) ∧ W.cell? ⟨g', t * 5, none⟩ = some (.string D.name) ∧ W.cell? ⟨g', t * 5 + 1, none⟩ = some (.bool D.swap) ∧ W.cell? ⟨g', t * 5 + 2, none⟩ = some (.string D.one) ∧ W.cell? ⟨g', t * 5 + 3, none⟩ = some (.string D.two) ∧ W.cell? ⟨g', t * 5 + 4, none⟩ = some vr) (first | (exact KS.out _ (Ch.drew _ _)) | (exact KS.out _ c6)) (first | (go_at_call 47; refine (CLN.out _ (g5.out.trans (Ch.drew _ _))).mono ?_; rintro e w6 ⟨rfl, g6⟩; have c6 : Ch [] wr w6 := (Ch.drew _ _).trans g6))
      all_goals
        go_wp2_with fail
        exact ⟨⟨j + 1, by omega, rfl, by go_num, B5.out.keep c6 (by simp), g5.out.trans c6⟩, by simp [intOf]; omega⟩
    · have HE : Hid ((scrubsOf (sv.map fun p => p.1) L).take j = scrubsOf (sv.map fun p => p.1) L) := List.take_of_length_le (by rw [scrubsOf_len]; omega)
      go_wp2_with fail
      go_ret
      exact ⟨by rw [HE.out]; rfl, g5.out⟩
end Go.Proofs.YteobgfbgglfkbaaGreat

namespace Go.Proofs.YteobgfbgglfkbaaGreat
open Go.RowKit
attribute [local go_sem ↓] Go.wp_at_zero Go.wp_at_succ

set_option maxRecDepth 100000 in
set_option maxHeartbeats 1600000 in
theorem RApply_any {w : World} (S x : ByteArray) (T : List UInt8) (hT : T.length ≤ 8589934592) : Calls Tryz.prog 9 #[.string S, .string x, .string (str T)] w fun e w' => e = .returned (.tuple #[.string (str (applyS S x T).1), .int .i64 (applyS S x T).2.1, .int .i64 (applyS S x T).2.2]) ∧ Below w.heap.size w w' := by
  go_enter Tryz.func9, Tryz.ntmps9
  go_wp2_with fail
  refine (Read_any S).mono ?_
  rintro e w1 ⟨B1, ⟨hc, rfl⟩ | ⟨hc, b, d, F, vs, vc, va, sv, cv, av, s, rfl, hp, hr⟩⟩
  · have HA := hide (applyS_err (x := x) (T := T) hc)
    generalize hC : checkS S = C at *
    obtain ⟨C1, C2⟩ := C
    have h1 : ¬ C1 = 0 := by
      intro e
      have := checkS_zero hC e
      exact hc (by rw [e, this])
    have q : (C1 != 0) = true := by simp [h1]
    clear hc h1 hC
    simp only
    go_wp2_with fail
    go_ret3
    exact ⟨by rw [HA.out]; rfl, B1⟩
  · have hok := polR_wf hc hr
    have HA := hide (applyS_ok (x := x) (T := T) hc hr)
    have HI : Hid (nameIdx ((cv.map fun p => p.1).map fun c => c.name) x = nameIdx (cv.map fun p => p.1.name) x) := by
      show _ = _
      rw [List.map_map]; rfl
    clear hc hr
    obtain ⟨⟨okS, okC⟩, okN⟩ := hok
    simp only [List.length_map] at okN
    have HP := hide hp
    clear hp
    have B1x := hide B1
    clear B1
    go_wp2_with fail
    refine (chainOf_any HP.out.blk HP.out.rc (by omega) x).mono ?_
    rintro e w2 ⟨rfl, rfl⟩
    by_cases hix : nameIdx (cv.map fun p => p.1.name) x < 0
    · have HA2 : Hid (applyS S x T = ([], 5, 0)) := by
        show _ = _
        rw [HA.out]; unfold applyD; simp only; rw [HI.out, if_pos hix]
      generalize nameIdx (cv.map fun p => p.1.name) x = ix at *
      go_wp2_with fail
      go_ret3
      exact ⟨by rw [HA2.out]; rfl, B1x.out⟩
    · have hlt := (nameIdx_lt hix).2
      rw [List.length_map] at hlt
      have HA2 : Hid (applyS S x T = (cleanC (scrubsOf (sv.map fun p => p.1) (chainAt (cv.map fun p => p.1) (nameIdx (cv.map fun p => p.1.name) x))) T, 0, 0)) := by
        show _ = _
        rw [HA.out]; unfold applyD; simp only; rw [HI.out, if_neg hix]
      generalize nameIdx (cv.map fun p => p.1.name) x = ix at *
      obtain ⟨i, rfl⟩ : ∃ i : Nat, ix = i := ⟨ix.toNat, by omega⟩
      have hi : i < cv.length := by omega
      have HCA : Hid (chainAt (cv.map fun p => p.1) (i : Int) = cv[i].1.scrubs) := by
        show _ = _
        simp [chainAt, hi]
      rw [HCA.out] at HA2
      have hcok := okC cv[i].1 (List.mem_map_of_mem (List.getElem_mem hi))
      simp only [List.length_map] at hcok
      have PUT := hide (RPut_any HP.out hi hcok okS T hT)
      clear HCA hcok okC okS
      go_wp2_with fail
      refine PUT.out.mono ?_
      rintro e w3 ⟨rfl, g3⟩
      go_wp2_with fail
      go_ret3
      exact ⟨by rw [HA2.out]; rfl, B1x.out.trans (g3.below B1x.out.size (by simp))⟩

theorem numZ_any {w : World} (e : Int) : Calls Tryz.prog 10 #[.int .i64 e] w fun r w' => r = .returned (.int .i64 e) ∧ w' = w := by
  go_enter Tryz.func10, Tryz.ntmps10
  go_wp2_with fail
  go_ret
  exact ⟨rfl, rfl⟩

set_option maxHeartbeats 800000 in
theorem LApplies_any {w : World} (S x : ByteArray) (T : List UInt8) (hT : T.length ≤ 1048576) : Calls Tryz.prog 3 #[.string S, .string x, .string (str T)] w fun e w' => e = .returned (.bool true) ∧ Below w.heap.size w w' := by
  go_enter Tryz.func3, Tryz.ntmps3
  go_wp2_with fail
  refine (XApply_any S x T (by omega)).mono ?_
  rintro e w1 ⟨rfl, B1⟩
  go_wp2_with fail
  refine (RApply_any S x T (by omega)).mono ?_
  rintro e w2 ⟨rfl, B2⟩
  generalize applyS S x T = R
  obtain ⟨R1, R2, R3⟩ := R
  simp only
  go_wp2_with fail
  refine (numZ_any R2).mono ?_
  rintro e w3 ⟨rfl, rfl⟩
  go_wp2_with fail
  go_ret
  exact ⟨rfl, B1.trans (B2.mono B1.size)⟩
end Go.Proofs.YteobgfbgglfkbaaGreat
