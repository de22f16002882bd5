import Derived.Test.YteobgfbgglfkbaaB2
import Derived.Laws.IdiomStrings

namespace Go.Proofs.Yteobgfbgglfkbaa
open Go.RowKit
attribute [local go_sem ↓] Go.wp_at_zero Go.wp_at_succ

def bvals (x : ByteArray) : List Value := x.data.toList.map fun c => .int .u8 (c.toNat : Int)

theorem infoU8 : (Try.prog.info? 5).map (fun i => (i.zero, i.size, i.bytes)) = some (some (.int .u8 0), 1, 1) := by kernel_rfl

theorem bvals_snoc (x : ByteArray) {c : Int} (h0 : 0 ≤ c) (h1 : c ≤ 255) : bvals (x ++ ⟨#[UInt8.ofNat c.toNat]⟩) = bvals x ++ [.int .u8 c] := by
  have : (((UInt8.ofNat c.toNat).toNat : Nat) : Int) = c := by simp; omega
  simp only [bvals]
  rw [show (x ++ ⟨#[UInt8.ofNat c.toNat]⟩ : ByteArray).data = x.data ++ #[UInt8.ofNat c.toNat] from by simp [ByteArray.data_append]]
  simp only [Array.toList_append, List.map_append]
  congr 1
  show [Value.int .u8 _] = _
  rw [this]

theorem convB {W : World} {v : Value} {x : ByteArray} (h : W.ownsRow 0 5 1 v x.size (bvals x)) : Sem.run Try.prog (convert 178 9 v) W = .ok (.string x) W := by
  obtain ⟨hl, ⟨rfl, h0⟩ | ⟨g, cap, cur, rfl, _, hg, h1, h2, h3, h4⟩⟩ := h
  · rw [run_convert_bytes_string W 178 9 5 _ _ _ Try.underlying178 Try.underlying5 Try.underlying9]
    have : x = ByteArray.empty := by
      obtain ⟨⟨l⟩⟩ := x
      cases l with
      | nil => rfl
      | cons a l => simp [ByteArray.size] at h0
    subst this
    try rfl
  · have hx : x.data.toList.length = x.size := by rw [Array.length_toList]; rfl
    have := run_convert_bytes_back (P := Try.prog) W 178 9 5 ⟨g, 0, none⟩ cap x.data.toList Try.underlying178 Try.underlying5 Try.underlying9 (by
      intro j hj
      have e : (cur.toList.take (x.size * 1))[j]? = (bvals x)[j]? := by rw [h4]
      rw [List.getElem?_take_of_lt (by omega)] at e
      have e2 : (bvals x)[j]? = some (.int .u8 (x.data.toList[j].toNat : Int)) := by
        simp only [bvals, List.getElem?_map, List.getElem?_eq_getElem hj, Option.map_some]
      rw [e2] at e
      have ea : (⟨g, 0, none⟩ : Addr).add j = ⟨g, j, none⟩ := by unfold Addr.add; split <;> simp_all
      rw [ea]
      simp only [World.cell?, hg]
      simpa using e)
    rw [hx] at this
    rw [this]

def isStr (x : ByteArray) (v : Value) (_ : World) : Prop := v = .string x

set_option maxRecDepth 100000 in
set_option maxHeartbeats 1600000 in
theorem letters_any {w : World} {b : Nat} {S : ByteArray} {s : St} {v5 v6 v7 : Value} (h : RdAt w b S s v5 v6 v7) (hS : S.size ≤ 400) (hi : s.i ≤ S.size) :
    Calls Try.prog 107 #[.pointer (some ⟨b, 0, none⟩)] w (RPost w b S v5 v6 v7 isStr (textF S (S.size + 1) s ByteArray.empty)) := by
  have hbl := h.lt
  go_enter Try.func107, Try.ntmps107
  go_wp2_with fail
  go_loopw [3] (fun v w3 => ∃ (x : ByteArray) (n : Nat) (s3 : St), w3.ownsRow 0 5 1 v x.size (bvals x) ∧ (∀ g, v.ownBlock = some g → w.heap.size ≤ g) ∧ x.size ≤ s3.i ∧ S.size < n + s3.i ∧ s3.i ≤ S.size ∧ RdAt w3 b S s3 v5 v6 v7 ∧ Ch [b] w w3 ∧ Hid (textF S (S.size + 1) s ByteArray.empty = textF S n s3 x)) (fun _ w3 => S.size - penI b w3)
  case atStart => exact ⟨ByteArray.empty, S.size + 1, s, ⟨rfl, Or.inl ⟨rfl, rfl⟩⟩, by intro g hg; simp [Value.ownBlock] at hg, by simp, by omega, hi, h, Ch.refl _ _, rfl⟩
  case round =>
    generalize wr = w3 at *
    obtain ⟨x, n, s3, O3, V3, hx, hn, hi3, h3, g3, HF⟩ := hrel
    obtain ⟨n, rfl⟩ : ∃ m, n = m + 1 := ⟨n - 1, by omega⟩
    have z3 := g3.size
    by_cases hq : bt S s3.i = 34
    · have HR : Hid (textF S (n + 1) s3 x = .ok (x, { s3 with i := s3.i + 1 })) := by show _ = _; simp [textF, hq]
      have HQ := hide hq
      clear hq
      go_wp2_with fail
      refine (accept_yes h3 hS 34 (by decide) HQ.out).mono ?_
      rintro e w4 ⟨rfl, h4, g4⟩
      have O4 := ownsRow_keep O3 g4 (fun k hk => by have := V3 k hk; simp; omega)
      have hcv := convB O4
      go_wp2_with fail
      go_ret
      exact ⟨g3.trans g4, Or.inl ⟨x, _, _, HF.out.trans HR.out, rfl, rfl, h4⟩⟩
    · have HR : Hid (∀ c s', letterR S 32 butText s3 = .ok (c, s') → textF S (n + 1) s3 x = textF S n s' (x ++ ⟨#[UInt8.ofNat c.toNat]⟩)) := by
        intro c s' e; simp only [textF, if_neg hq, e]
      have HE : Hid (∀ d, letterR S 32 butText s3 = .error d → textF S (n + 1) s3 x = .error d) := by
        intro c e; simp only [textF, if_neg hq, e]
      have HQ := hide hq
      clear hq
      go_wp2_with fail
      refine (accept_no h3 hS hi3 34 HQ.out).mono ?_
      rintro e w4 ⟨rfl, h4, g4⟩
      have O4 := ownsRow_keep O3 g4 (fun k hk => by have := V3 k hk; simp; omega)
      go_wp2_with fail
      refine (letterText_any h4 hS hi3).mono ?_
      rintro e w5 ⟨g5, ⟨c, s5, v, hl, rfl, hv, h5⟩ | ⟨d, hl, hg⟩⟩
      · unfold isU8 at hv
        subst hv
        have O5 := ownsRow_keep O4 g5 (fun k hk => by have := V3 k hk; simp; omega)
        have hlo := letterR_ok (by omega) hl
        have HL := hide hl
        clear hl
        have O6 := ownsRow_keep O5 (Ch.alloc [] w5 (.cells #[.int .u8 c] 5)) (by simp)
        have V3x := hide V3
        have z4 := g4.size
        have z5 := g5.size
        have h6 := h5.keep (Ch.alloc [] w5 (.cells #[.int .u8 c] 5)) (by simp)
        clear O3 O4 O5 V3
        go_wp2_with (at_builtin; refine wpList_appG 178 5 1 1 (.int .u8 0) Try.underlying178 infoU8 rfl (by omega) (by omega) (by rfl) _ _ (by rfl) _ x.size _ (by rfl) O6 w5.heap.size [.int .u8 c] (by rfl) (heap_new _ _) rfl (by intro u hu; simp at hu; subst hu; rfl) (by omega) (w5.heap.size + 1) (by simp) ?_; intro g cap w13 own13 gr13 hat13 hlt13)
        have hg6 : w.heap.size ≤ g := by
          rcases hat13 with e | e
          · exact V3x.out g e
          · omega
        have h13 := h6.keep gr13 (by simp; intro e; have := V3x.out _ e; omega)
        have hsz : (x ++ ⟨#[UInt8.ofNat c.toNat]⟩ : ByteArray).size = x.size + 1 := by simp [ByteArray.size_append]; rfl
        go_roundw
        case rel =>
          refine ⟨x ++ ⟨#[UInt8.ofNat c.toNat]⟩, n, s5, ?_, ?_, by rw [hsz]; omega, by omega, hlo.2.1, h13, ?_, ?_⟩
          · rw [bvals_snoc x hlo.2.2.1 hlo.2.2.2.1, hsz]; exact own13
          · intro k hk; simp [Value.ownBlock] at hk; omega
          · refine ((g3.trans g4).trans (g5.trans (Ch.alloc [b] w5 _))).trans' gr13 (fun k hk => ?_)
            simp at hk
            exact Or.inr (V3x.out k hk)
          · show _ = _
            exact HF.out.trans (HR.out _ _ HL.out)
        case measure =>
          rw [h3.penI, h13.penI]; omega
      · have HL := hide hl
        clear hl
        obtain ⟨rfl, ht⟩ := hg
        exact panic_post (P := Try.prog) (fn := Try.f107) rfl ⟨g3.trans (g4.trans g5), Or.inr ⟨d, HF.out.trans (HE.out _ HL.out), ⟨rfl, ht⟩⟩⟩

end Go.Proofs.Yteobgfbgglfkbaa

namespace Go.Proofs.Yteobgfbgglfkbaa
open Go.RowKit

theorem wordSg_all (x : ByteArray) : (x = scrubW ∧ wordSg x = 10) ∨ (x = swapW ∧ wordSg x = 11) ∨ (x = toW ∧ wordSg x = 12) ∨ (x = noneW ∧ wordSg x = 13) ∨ (x = ⟨#[98, 121, 116, 101]⟩ ∧ wordSg x = 14) ∨ (x = ⟨#[117, 112, 112, 101, 114]⟩ ∧ wordSg x = 15) ∨ (x = ⟨#[108, 111, 119, 101, 114]⟩ ∧ wordSg x = 16) ∨ (x = chainW ∧ wordSg x = 17) ∨ (x = neverW ∧ wordSg x = 18) ∨ (x = sameW ∧ wordSg x = 19) ∨ (x ∉ keptL ∧ wordSg x = if 8 < x.size then 1 else 2) := by
  have key : ∀ W : ByteArray, x = W ∨ (sameB x W = false ∧ ¬ x = W) := by
    intro W
    by_cases e : x = W
    · exact Or.inl e
    · right; exact ⟨by rw [Bool.eq_false_iff]; intro h; exact e (sameB_iff.1 h), e⟩
  rcases key scrubW with rfl | ⟨r0, e0⟩
  · left; exact ⟨rfl, rfl⟩
  rcases key swapW with rfl | ⟨r1, e1⟩
  · right; left; exact ⟨rfl, rfl⟩
  rcases key toW with rfl | ⟨r2, e2⟩
  · right; right; left; exact ⟨rfl, rfl⟩
  rcases key noneW with rfl | ⟨r3, e3⟩
  · right; right; right; left; exact ⟨rfl, rfl⟩
  rcases key ⟨#[98, 121, 116, 101]⟩ with rfl | ⟨r4, e4⟩
  · right; right; right; right; left; exact ⟨rfl, rfl⟩
  rcases key ⟨#[117, 112, 112, 101, 114]⟩ with rfl | ⟨r5, e5⟩
  · right; right; right; right; right; left; exact ⟨rfl, rfl⟩
  rcases key ⟨#[108, 111, 119, 101, 114]⟩ with rfl | ⟨r6, e6⟩
  · right; right; right; right; right; right; left; exact ⟨rfl, rfl⟩
  rcases key chainW with rfl | ⟨r7, e7⟩
  · right; right; right; right; right; right; right; left; exact ⟨rfl, rfl⟩
  rcases key neverW with rfl | ⟨r8, e8⟩
  · right; right; right; right; right; right; right; right; left; exact ⟨rfl, rfl⟩
  rcases key sameW with rfl | ⟨r9, e9⟩
  · right; right; right; right; right; right; right; right; right; left; exact ⟨rfl, rfl⟩
  right; right; right; right; right; right; right; right; right; right
  refine ⟨?_, ?_⟩
  · simp only [keptL, List.mem_cons, List.not_mem_nil, or_false, not_or]
    exact ⟨e0, e1, e2, e3, e4, e5, e6, e7, e8, e9⟩
  · simp only [wordSg, r0, r1, r2, r3, r4, r5, r6, r7, r8, r9, Bool.false_eq_true, if_false]

theorem ext_size {S : ByteArray} {I : Nat} (hI : I < S.size) : (S.extract I (run isSm S I)).size = run isSm S I - I := by
  have := run_le isSm S I (by omega)
  simp; omega

theorem ext_zero {S : ByteArray} {I : Nat} (hI : I < S.size) : (S.extract I (run isSm S I)).size = 0 ↔ isSm (bt S I) = false := by
  rw [ext_size hI]
  cases h : isSm (bt S I)
  · have := run_stop h; simp; omega
  · have h1 := run_step hI h
    have h2 := run_le isSm S (I + 1) (by omega)
    constructor
    · intro e; omega
    · intro e; cases e

/-- The signs that are one byte. -/
def oneP : List (Int × Int) := [(3, 34), (4, 91), (5, 47), (6, 123), (7, 125), (8, 61), (9, 59)]

theorem sign_one {S : ByteArray} {I : Nat} (hI : I ≤ S.size) {k c : Int} (hk : (k, c) ∈ oneP) : signAt S I = k ↔ bt S I = c := by
  have hk' : (k = 3 ∧ c = 34) ∨ (k = 4 ∧ c = 91) ∨ (k = 5 ∧ c = 47) ∨ (k = 6 ∧ c = 123) ∨ (k = 7 ∧ c = 125) ∨ (k = 8 ∧ c = 61) ∨ (k = 9 ∧ c = 59) := by
    simpa [oneP] using hk
  clear hk
  by_cases h0 : I = S.size
  · have a : signAt S I = 0 := by simp [signAt, h0]
    have b : bt S I = -1 := bt_out (by omega)
    rw [a, b]; omega
  · have hlt : I < S.size := by omega
    by_cases h1 : (S.extract I (run isSm S I)).size = 0
    · have a : signAt S I = oneSg (bt S I) := by simp only [signAt, if_neg h0, if_pos h1]
      rw [a]
      generalize bt S I = z
      unfold oneSg
      repeat' split
      all_goals omega
    · have a : signAt S I = wordSg (S.extract I (run isSm S I)) := by simp only [signAt, if_neg h0, if_neg h1]
      have b : isSm (bt S I) = true := by
        cases hb : isSm (bt S I)
        · exact absurd ((ext_zero hlt).2 hb) h1
        · rfl
      simp [isSm] at b
      have c' := wordSg_all (S.extract I (run isSm S I))
      rw [a]
      generalize wordSg (S.extract I (run isSm S I)) = z at *
      generalize bt S I = y at *
      split at c' <;> omega

theorem takeR_one {S : ByteArray} {s : St} (hi : s.i ≤ S.size) {k c : Int} (hk : (k, c) ∈ oneP) :
    takeR S k s = match singleR S c s with | .ok s' => .ok (run isBl S s.i, s') | .error d => .error d := by
  have l1 := run_le isBl S s.i hi
  have key := sign_one l1.2 hk
  unfold takeR singleR
  generalize run isBl S s.i = I at *
  by_cases h : bt S I = c
  · rw [if_pos (key.2 h), if_pos h]
    have hc : isSm c = false := by
      have hk' : (k = 3 ∧ c = 34) ∨ (k = 4 ∧ c = 91) ∨ (k = 5 ∧ c = 47) ∨ (k = 6 ∧ c = 123) ∨ (k = 7 ∧ c = 125) ∨ (k = 8 ∧ c = 61) ∨ (k = 9 ∧ c = 59) := by
        simpa [oneP] using hk
      rcases hk' with ⟨_, rfl⟩ | ⟨_, rfl⟩ | ⟨_, rfl⟩ | ⟨_, rfl⟩ | ⟨_, rfl⟩ | ⟨_, rfl⟩ | ⟨_, rfl⟩ <;> rfl
    rw [run_stop (by rw [h]; exact hc)]
    simp
  · rw [if_neg (fun e => h (key.1 e)), if_neg h]

theorem sign_word {S : ByteArray} {I : Nat} (hI : I ≤ S.size) {k : Int} {W : ByteArray} (hk : 10 ≤ k) (hW : wordSg W = k) : signAt S I = k ↔ S.extract I (run isSm S I) = W := by
  by_cases h0 : I = S.size
  · have a : signAt S I = 0 := by simp [signAt, h0]
    rw [a]
    constructor
    · intro e; omega
    · intro e
      exfalso
      have hz : (S.extract I (run isSm S I)).size = 0 := by simp; omega
      rw [e] at hz
      have : W = ByteArray.empty := by
        obtain ⟨⟨l⟩⟩ := W
        cases l with
        | nil => rfl
        | cons a l => simp [ByteArray.size] at hz
      subst this
      have : wordSg ByteArray.empty = 2 := rfl
      omega
  · have hlt : I < S.size := by omega
    by_cases h1 : (S.extract I (run isSm S I)).size = 0
    · have a : signAt S I = oneSg (bt S I) := by simp only [signAt, if_neg h0, if_pos h1]
      rw [a]
      constructor
      · intro e
        exfalso
        unfold oneSg at e
        repeat' split at e
        all_goals omega
      · intro e
        exfalso
        rw [e] at h1
        have : W = ByteArray.empty := by
          obtain ⟨⟨l⟩⟩ := W
          cases l with
          | nil => rfl
          | cons a l => simp [ByteArray.size] at h1
        subst this
        have : wordSg ByteArray.empty = 2 := rfl
        omega
    · have a : signAt S I = wordSg (S.extract I (run isSm S I)) := by simp only [signAt, if_neg h0, if_neg h1]
      rw [a]
      constructor
      · intro e
        have c1 := wordSg_all (S.extract I (run isSm S I))
        have c2 := wordSg_all W
        rw [e] at c1
        rw [hW] at c2
        have d1 : ∀ n : Nat, (if 8 < n then (1 : Int) else 2) ≤ 2 := by intro n; split <;> omega
        have d2 := d1 (S.extract I (run isSm S I)).size
        have d3 := d1 W.size
        rcases c1 with ⟨c1, f1⟩ | ⟨c1, f1⟩ | ⟨c1, f1⟩ | ⟨c1, f1⟩ | ⟨c1, f1⟩ | ⟨c1, f1⟩ | ⟨c1, f1⟩ | ⟨c1, f1⟩ | ⟨c1, f1⟩ | ⟨c1, f1⟩ | ⟨c1, f1⟩ <;>
        rcases c2 with ⟨c2, f2⟩ | ⟨c2, f2⟩ | ⟨c2, f2⟩ | ⟨c2, f2⟩ | ⟨c2, f2⟩ | ⟨c2, f2⟩ | ⟨c2, f2⟩ | ⟨c2, f2⟩ | ⟨c2, f2⟩ | ⟨c2, f2⟩ | ⟨c2, f2⟩ <;>
        first | (exfalso; omega) | (rw [c1, c2])
      · intro e; rw [e]; exact hW

theorem takeR_word {S : ByteArray} {s : St} (hi : s.i ≤ S.size) {k : Int} {W : ByteArray} (hk : 10 ≤ k) (hW : wordSg W = k) :
    takeR S k s = match wordR S [W] s with | .ok ((_, p), s') => .ok (p, s') | .error d => .error d := by
  have l1 := run_le isBl S s.i hi
  have key := sign_word l1.2 hk hW
  have hne : 0 < W.size := by
    rcases Nat.eq_zero_or_pos W.size with h | h
    · have : W = ByteArray.empty := by
        obtain ⟨⟨l⟩⟩ := W
        cases l with
        | nil => rfl
        | cons a l => simp [ByteArray.size] at h
      subst this
      have : wordSg ByteArray.empty = 2 := rfl
      omega
    · exact h
  unfold takeR wordR
  simp only
  generalize run isBl S s.i = I at *
  by_cases h : S.extract I (run isSm S I) = W
  · rw [if_pos (key.2 h)]
    have : anyB [W] (S.extract I (run isSm S I)) = true := anyB_iff.2 (by simp [h])
    rw [if_pos this]
    have l2 := run_le isSm S I l1.2
    have hs : (S.extract I (run isSm S I)).size = run isSm S I - I := by simp; omega
    rw [h] at hs
    have : I + max 1 (run isSm S I - I) = run isSm S I := by omega
    simp only [this]
  · rw [if_neg (fun e => h (key.1 e))]
    have : ¬ anyB [W] (S.extract I (run isSm S I)) = true := by rw [anyB_iff]; simpa using h
    rw [if_neg this]

theorem sign_name {S : ByteArray} {I : Nat} (_hI : I ≤ S.size) : signAt S I = 2 ↔ ¬ ((S.extract I (run isSm S I)).size = 0 ∨ anyB keptL (S.extract I (run isSm S I)) = true ∨ 8 < (S.extract I (run isSm S I)).size) := by
  by_cases h0 : I = S.size
  · have a : signAt S I = 0 := by simp [signAt, h0]
    have hz : (S.extract I (run isSm S I)).size = 0 := by simp; omega
    rw [a]; simp [hz]
  · by_cases h1 : (S.extract I (run isSm S I)).size = 0
    · have a : signAt S I = oneSg (bt S I) := by simp only [signAt, if_neg h0, if_pos h1]
      rw [a]
      simp only [h1, true_or, not_true, iff_false]
      unfold oneSg
      repeat' split
      all_goals omega
    · have a : signAt S I = wordSg (S.extract I (run isSm S I)) := by simp only [signAt, if_neg h0, if_neg h1]
      rw [a, anyB_iff]
      have c1 := wordSg_all (S.extract I (run isSm S I))
      generalize S.extract I (run isSm S I) = X at *
      have hm : ∀ W, W ∈ keptL → X = W → X ∈ keptL := fun W h e => e ▸ h
      rcases c1 with ⟨c1, f1⟩ | ⟨c1, f1⟩ | ⟨c1, f1⟩ | ⟨c1, f1⟩ | ⟨c1, f1⟩ | ⟨c1, f1⟩ | ⟨c1, f1⟩ | ⟨c1, f1⟩ | ⟨c1, f1⟩ | ⟨c1, f1⟩ | ⟨c1, f1⟩
      all_goals rw [f1]
      iterate 10
        · constructor
          · intro e; exact absurd e (by decide)
          · intro e; exact absurd (Or.inr (Or.inl (hm _ (by simp [keptL, scrubW, swapW, toW, noneW, chainW, neverW, sameW]) c1))) e
      · split
        · constructor
          · intro e; exact absurd e (by decide)
          · intro e; exfalso; apply e; right; right; assumption
        · simp [h1, c1]; omega

theorem takeR_name {S : ByteArray} {s : St} (hi : s.i ≤ S.size) :
    takeR S 2 s = match nameR S s with | .ok ((_, p), s') => .ok (p, s') | .error d => .error d := by
  have l1 := run_le isBl S s.i hi
  have key := sign_name l1.2
  unfold takeR nameR
  simp only
  generalize run isBl S s.i = I at *
  by_cases h : (S.extract I (run isSm S I)).size = 0 ∨ anyB keptL (S.extract I (run isSm S I)) = true ∨ 8 < (S.extract I (run isSm S I)).size
  · rw [if_pos h, if_neg (fun e => (key.1 e) h)]
  · rw [if_neg h, if_pos (key.2 h)]
    have l2 := run_le isSm S I l1.2
    have hs : (S.extract I (run isSm S I)).size = run isSm S I - I := by simp; omega
    have : I + max 1 (run isSm S I - I) = run isSm S I := by omega
    simp only [this]

theorem nameR_ext {S : ByteArray} {s s' : St} {x : ByteArray} {p : Nat} (h : nameR S s = .ok ((x, p), s')) : x = S.extract p s'.i := by
  unfold nameR at h
  simp only at h
  split at h
  · cases h
  · injection h with h; injection h with h1 h2; injection h1 with h3 h4; subst h3 h4 h2; rfl

end Go.Proofs.Yteobgfbgglfkbaa
